import PyProof.Rows.All
import Wide.All
import OpenK.AllK
import Wide.FinOn
import Lean
import PyProof.EqAt
import PyProof.EqKinds
import PyProof.TupleCall
import PySem.Challenge.RW_stripmeld_k28_each_deed
set_option Elab.async false
set_option linter.all false
set_option maxRecDepth 100000
noncomputable section
namespace L2
open PySem PySem.Spec PyProof.Rows
abbrev Key:=Sum Int Str
def keyIs:Key→Value→Bool
 | .inl k,v=>Value.isInt k v
 | .inr x,v=>Value.isStrOf x v
def keyH (w:World):Key→Int
 | .inl k=>hashInt k
 | .inr x=>hashStr w x
theorem Zb5:∀ {k:Key} {v:Value},keyIs k v=true→(∃ i t,k=Sum.inl i∧v=Value.int i t)∨(∃ x t,k=Sum.inr x∧v=Value.str x t)
 | .inl i,v,h=>by
  obtain ⟨t,e⟩:=Value.isInt_shape (k:=i) (v:=v) h
  exact .inl ⟨i,t,rfl,e⟩
 | .inr x,v,h=>by
  obtain ⟨t,e⟩:=Value.isStrOf_shape (x:=x) (v:=v) h
  exact .inr ⟨x,t,rfl,e⟩
theorem Zr9 (a b:Int):decide ((Sum.inl a:Key)=Sum.inl b)=(a == b):=by
 by_cases e:a=b
 ·subst e;simp
 ·have h:¬ (Sum.inl a:Key)=Sum.inl b:=fun q=>e (Sum.inl.inj q)
  rw [decide_eq_false h]
  exact (beq_eq_false_iff_ne.mpr e).symm
theorem Zrk (a b:Str):decide ((Sum.inr a:Key)=Sum.inr b)=decide (a=b):=by
 by_cases e:a=b
 ·subst e;simp
 ·have h:¬ (Sum.inr a:Key)=Sum.inr b:=fun q=>e (Sum.inr.inj q)
  rw [decide_eq_false h,decide_eq_false e]
theorem Zr3 (a:Int) (b:Str):decide ((Sum.inl a:Key)=Sum.inr b)=false:=decide_eq_false (fun q=>nomatch q)
theorem Zrz (a:Str) (b:Int):decide ((Sum.inr a:Key)=Sum.inl b)=false:=decide_eq_false (fun q=>nomatch q)
def mixKind (prog:Program) (w:World):PySem.KeyKind prog w Key where
 is:=keyIs
 hash:=keyH w
 inj:=fun v a b ha hb=>by
  rcases Zb5 ha with ⟨i,t,rfl,rfl⟩ | ⟨x,t,rfl,rfl⟩
  ·rcases Zb5 hb with ⟨j,u,rfl,e⟩ | ⟨y,u,rfl,e⟩
   ·injection e with e1 _;rw [e1]
   ·exact nomatch e
  ·rcases Zb5 hb with ⟨j,u,rfl,e⟩ | ⟨y,u,rfl,e⟩
   ·exact nomatch e
   ·injection e with e1 _;rw [e1]
 byValue:=fun k v h=>by
  rcases Zb5 h with ⟨i,t,rfl,rfl⟩ | ⟨x,t,rfl,rfl⟩<;>rfl
 pyHash:=fun hv h=>by
  rcases Zb5 hv with ⟨i,t,rfl,rfl⟩ | ⟨x,t,rfl,rfl⟩
  ·exact wpAny_pyHash_int h
  ·exact wpAny_pyHash_str h
 eqBool:=fun hu hv h=>by
  rcases Zb5 hu with ⟨i,t,rfl,rfl⟩ | ⟨x,t,rfl,rfl⟩
  ·rcases Zb5 hv with ⟨j,u,rfl,rfl⟩ | ⟨y,u,rfl,rfl⟩
   ·rw [Zr9] at h;exact wpAny_eqBool_int h
   ·rw [Zr3] at h;exact SeqAt.EqAt.int_str i t y u _ _ _ _ h
  ·rcases Zb5 hv with ⟨j,u,rfl,rfl⟩ | ⟨y,u,rfl,rfl⟩
   ·rw [Zrz] at h;exact SeqAt.EqAt.str_int x t j u _ _ _ _ h
   ·rw [Zrk] at h;exact wpAny_eqBool_str h
 «strs»:=fun k x t v h=>by
  rcases Zb5 h with ⟨i,u,rfl,e⟩ | ⟨y,u,rfl,e⟩
  ·exact nomatch e
  ·injection e with e1 _
   subst e1
   cases v<;>rfl
end L2
namespace L2
open PySem PySem.Spec PyProof.Rows
inductive V where
 | non | bl (b:Bool) | int (i:Int) | str (x:Str) | byt (b:Array UInt8) | flt (b:UInt64) | ref (a:Addr) | ty (n:String)
 deriving DecidableEq
def RelV:V→Value→Prop
 | .non,u=>u=Value.none
 | .bl b,u=>u=Value.bool b
 | .int i,u=>∃ t,u=Value.int i t
 | .str x,u=>∃ t,u=Value.str x t
 | .byt b,u=>∃ t,u=Value.bytes b t
 | .flt b,u=>∃ t,u=Value.float b t
 | .ref a,u=>u=Value.ref a
 | .ty n,u=>u=Value.type n
abbrev Vals:List V→List Value→Prop:=Paired RelV
theorem Vals.length {xs:List V} {us:List Value} (r:Vals xs us):xs.length=us.length:=Paired.length r
theorem Vals.get:∀ {xs:List V} {us:List Value} {i:Nat} {x:V},Vals xs us→xs[i]?=some x→∃ u,us[i]?=some u∧RelV x u
 | _,_,_,_,.nil,e=>by simp at e
 | _,_,0,_,.cons r _,e=>by simp at e;subst e;exact ⟨_,rfl,r⟩
 | _,_,i + 1,x,.cons _ t,e=>by
  obtain ⟨u,h1,h2⟩:=Vals.get (i:=i) (x:=x) t (by simpa using e)
  exact ⟨u,by simpa using h1,h2⟩
theorem Vals.set {x:V} {u:Value} (r:RelV x u):∀ {xs:List V} {us:List Value} (i:Nat),Vals xs us→Vals (xs.set i x) (us.set i u)
 | _,_,_,.nil=>.nil
 | _,_,0,.cons _ t=>.cons r t
 | _,_,i + 1,.cons q t=>.cons q (Vals.set r i t)
theorem Vals.append:∀ {xs ys:List V} {us ws:List Value},Vals xs us→Vals ys ws→Vals (xs++ys) (us++ws)
 | _,_,_,_,.nil,s=>s
 | _,_,_,_,.cons r t,s=>.cons r (Vals.append t s)
theorem Vals.take:∀ {xs:List V} {us:List Value} (n:Nat),Vals xs us→Vals (xs.take n) (us.take n)
 | _,_,0,_=>.nil
 | _,_,_ + 1,.nil=>.nil
 | _,_,n + 1,.cons r t=>.cons r (Vals.take n t)
theorem Vals.drop:∀ {xs:List V} {us:List Value} (n:Nat),Vals xs us→Vals (xs.drop n) (us.drop n)
 | _,_,0,r=>r
 | _,_,_ + 1,.nil=>.nil
 | _,_,n + 1,.cons _ t=>Vals.drop n t
def RelO:Option V→Option Value→Prop
 | some v,some u=>RelV v u
 | none,none=>True
 | _,_=>False
def KV {κ:Type}:List (κ×V)→List (κ×Value)→Prop:=Paired fun (p:κ×V) (q:κ×Value)=>p.1=q.1∧RelV p.2 q.2
def kV:Key→V
 | .inl i=>.int i
 | .inr x=>.str x
inductive HO where
 | lst (xs:List V)
 | tup (xs:List V)
 | dK (kvs:List (Key×V)) | dT (kvs:List (List Key×V))
 | set (S:Int→Bool) (n:Nat)
 | ins (C dx:Addr) (fs:List (Str×V))
 | own (x:Addr)
 | xd (fs:List (Str×V))
 | met (f x:Addr)
 | rng (lo hi:Int)
 | frz (o:Obj) (u:HO)
 | tbl (ps:Array Value)
 | ext (φ:Heap→Prop)
abbrev Hp:=Addr→Option HO
def upd (H:Hp) (a:Addr) (o:HO):Hp:=fun b=>if b=a then some o else H b
theorem Zbg {H:Hp} {a:Addr} {o:HO}:upd H a o a=some o:=by unfold upd;rw [if_pos rfl]
theorem Za7 {H:Hp} {a b:Addr} {o:HO} (h:b≠a):upd H a o b=H b:=by unfold upd;rw [if_neg h]
theorem Zb2 {H:Hp} {a b:Addr} {o:HO} (h:H a=some o) (h':H b=none):a≠b:=by
 intro e;subst e;rw [h] at h';cases h'
section
variable (P:Program) (w:World)
def ObjOk (H:Hp) (h:Heap) (a:Addr):HO→Prop
 | .lst xs=>xs.length≤sizeLine∧∃ (its:List Value) (n:Nat),Vals xs its∧h.get? a=some { cls:=.type "list",data:=.seq its.toArray n }
 | .tup xs=>xs.length≤sizeLine∧∃ its:List Value,Vals xs its∧IsTup h a its.toArray
 | .dK kvs=>kvs.length≤sizeLine∧(a == sysModules)=false∧∃ vs,KV kvs vs∧h.DictOf (mixKind P w) a vs
 | .dT kvs=>kvs.length≤sizeLine∧(a == sysModules)=false∧∃ xs:List (List Key×Addr×Value),
   Paired (fun (p:List Key×V) (q:List Key×Addr×Value)=>p.1=q.1∧H q.2.1=some (.tup (p.1.map kV))∧RelV p.2 q.2.2) kvs xs∧
   ∃ o es ep,h.get? a=some o∧o.ExactDict∧o.data=.dict es ep∧es.toList=xs.map (entryOfKey (tupleKind (mixKind P w)))∧(xs.map (·.1)).Nodup
 | .set S n=>h.SetOf (intKind P w) a S n
 | .ins C dx fs=>H dx=some (.own a)∧fs.length≤1000∧dx≠a∧h.get? a=some (PySem.W.instObj C dx)∧
   ∃ mA,h.Ns1 dx mA∧(∀ f,RelO (fs.lookup f) (mA f))∧PySem.Within mA (fs.map (·.1))
 | .own _=>∃ o,h.get? a=some o
 | .xd fs=>∃ mA,h.Ns1 a mA∧∀ f,RelO (fs.lookup f) (mA f)
 | .rng lo hi=>∃ t u v,h.get? a=some { cls:=.type "range",data:=.fields #[.int lo t,.int hi u,.int 1 v] }
 | .frz o u=>h.get? a=some o∧ObjOk H h a u
 | .tbl ps=>h.get? a=some { cls:=.none,data:=.fields ps }
 | .met f x=>h.get? a=some (PySem.W.methodObj (.ref f) (.ref x))
 | .ext φ=>φ h∧(∃ o,h.get? a=some o)∧∀ h1 h2:Heap,φ h1→(∀ o,h1.get? a=some o→h2.get? a=some o)→φ h2
def HOk (H:Hp) (h:Heap):Prop:=∀ a o,H a=some o→ObjOk P w H h a o
end
section
variable {P:Program} {w:World} {H H':Hp} {h h':Heap} {a:Addr} {o:HO}
theorem ObjOk.lt (x:ObjOk P w H h a o):a < h.objs.size:=by
 cases o with
 | lst xs=>obtain ⟨_,_,_,_,e⟩:=x;exact Heap.lt_size e
 | tup xs=>obtain ⟨_,_,_,p⟩:=x;exact p.lt
 | dK kvs=>obtain ⟨_,_,_,_,o,_,_,e,_⟩:=x;exact Heap.lt_size e
 | dT kvs=>obtain ⟨_,_,_,_,o,_,_,e,_⟩:=x;exact Heap.lt_size e
 | set S n=>obtain ⟨o,_,_,_,e,_⟩:=x;exact Heap.lt_size e
 | ins C dx fs=>obtain ⟨_,_,_,e,_⟩:=x;exact Heap.lt_size e
 | own y=>obtain ⟨_,e⟩:=x;exact Heap.lt_size e
 | xd fs=>obtain ⟨_,⟨_,_,_,e,_⟩,_⟩:=x;exact Heap.lt_size e
 | rng lo hi=>obtain ⟨_,_,_,e⟩:=x;exact Heap.lt_size e
 | frz ob u=>obtain ⟨e,_⟩:=x;exact Heap.lt_size e
 | tbl ps=>exact Heap.lt_size (show h.get? a=some _ from x)
 | met f y=>exact Heap.lt_size (show h.get? a=some _ from x)
 | ext φ=>obtain ⟨_,⟨_,e⟩,_⟩:=x;exact Heap.lt_size e
theorem Paired.mapP {α β:Type} {F G:α→β→Prop}:∀ {l₁:List α} {l₂:List β},Paired F l₁ l₂→(∀ a b,F a b→G a b)→Paired G l₁ l₂
 | _,_,.nil,_=>.nil
 | _,_,.cons r t,f=>.cons (f _ _ r) (Paired.mapP t f)
theorem ObjOk.stay (x:ObjOk P w H h a o) (k:∀ b u,(b=a∨H b=some (.own a))→h.get? b=some u→h'.get? b=some u)
  (ho:∀ b,H b=some (.own a)→H' b=some (.own a)) (ht:∀ b xs,H b=some (.tup xs)→H' b=some (.tup xs)):ObjOk P w H' h' a o:=by
 induction o with
 | lst xs=>obtain ⟨z,its,n,r,e⟩:=x;exact ⟨z,its,n,r,k _ _ (.inl rfl) e⟩
 | tup xs=>obtain ⟨z,its,r,ob,e,c⟩:=x;exact ⟨z,its,r,ob,k _ _ (.inl rfl) e,c⟩
 | dK kvs=>obtain ⟨z,y,vs,r,ob,es,ep,e,c⟩:=x;exact ⟨z,y,vs,r,ob,es,ep,k _ _ (.inl rfl) e,c⟩
 | dT kvs=>
  obtain ⟨z,y,xs,r,ob,es,ep,e,c⟩:=x
  exact ⟨z,y,xs,Paired.mapP r fun p q z=>⟨z.1,ht _ _ z.2.1,z.2.2⟩,ob,es,ep,k _ _ (.inl rfl) e,c⟩
 | set S n=>obtain ⟨ob,es,ep,t,e,c⟩:=x;exact ⟨ob,es,ep,t,k _ _ (.inl rfl) e,c⟩
 | ins C dx fs=>
  obtain ⟨d,z,ne,e,mA,⟨od,es,ep,e2,c⟩,r⟩:=x
  exact ⟨ho _ d,z,ne,k _ _ (.inl rfl) e,mA,⟨od,es,ep,k _ _ (.inr d) e2,c⟩,r⟩
 | own y=>obtain ⟨ob,e⟩:=x;exact ⟨ob,k _ _ (.inl rfl) e⟩
 | xd fs=>obtain ⟨mA,⟨od,es,ep,e,c⟩,r⟩:=x;exact ⟨mA,⟨od,es,ep,k _ _ (.inl rfl) e,c⟩,r⟩
 | rng lo hi=>obtain ⟨t,u,v,e⟩:=x;exact ⟨t,u,v,k _ _ (.inl rfl) e⟩
 | frz ob u ih=>obtain ⟨e,q⟩:=x;exact ⟨k _ _ (.inl rfl) e,ih q⟩
 | tbl ps=>
  have e:h.get? a=some { cls:=.none,data:=.fields ps }:=x
  show h'.get? a=some { cls:=.none,data:=.fields ps }
  exact k a _ (.inl rfl) e
 | met f y=>
  have e:h.get? a=some (PySem.W.methodObj (.ref f) (.ref y)):=x
  show h'.get? a=some (PySem.W.methodObj (.ref f) (.ref y))
  exact k a _ (.inl rfl) e
 | ext φ=>obtain ⟨p,⟨o,e⟩,st⟩:=x;exact ⟨st _ _ p fun o q=>k _ _ (.inl rfl) q,⟨o,k _ _ (.inl rfl) e⟩,st⟩
theorem HOk.lt (x:HOk P w H h) (e:H a=some o):a < h.objs.size:=(x a o e).lt
theorem HOk.fresh (x:HOk P w H h) (e:h.objs.size≤a):H a=none:=by
 cases q:H a with
 | none=>rfl
 | some u=>exact absurd (Nat.lt_of_lt_of_le (x.lt q) e) (Nat.lt_irrefl _)
theorem HOk.kept (x:HOk P w H h) (k:∀ b u,h.get? b=some u→h'.get? b=some u):HOk P w H h':=fun a o e=>
 (x a o e).stay (fun b u _ q=>k b u q) (fun _ q=>q) fun _ _ q=>q
theorem HOk.laid (x:HOk P w H h) (k:∀ b u,h.get? b=some u→h'.get? b=some u) (hp:h.objs.size≤a) (new:ObjOk P w (upd H a o) h' a o):HOk P w (upd H a o) h':=fun b u e=>by
 have hn:=x.fresh hp
 by_cases hb:b=a
 ·subst hb;rw [Zbg] at e;cases e;exact new
 ·rw [Za7 hb] at e
  exact (x b u e).stay (fun c v _ q=>k c v q) (fun c q=>by rw [Za7 (Zb2 q hn)];exact q) fun c xs q=>by rw [Za7 (Zb2 q hn)];exact q
end
def Rd (H:Hp) (a:Addr) (u:HO):Prop:=H a=some u∨∃ o,H a=some (.frz o u)
theorem Rd.ok {P:Program} {w:World} {H:Hp} {h:Heap} {a:Addr} {u:HO} (r:Rd H a u) (x:HOk P w H h):ObjOk P w H h a u:=by
 rcases r with r | ⟨o,r⟩
 ·exact x a u r
 ·obtain ⟨_,q⟩:=x a _ r
  exact q
def Mut:Option HO→Prop
 | some (.lst _)=>True
 | some (.dK _)=>True
 | some (.dT _)=>True
 | some (.set _ _)=>True
 | some (.ins _ _ _)=>True
 | some (.ext _)=>True
 | _=>False
section
variable {P:Program} {w:World} {H:Hp} {h h':Heap} {x e:Addr} {o':HO}
theorem HOk.write (ok:HOk P w H h) (mu:Mut (H x)) (he:e=x∨H e=some (.own x)) (k:∀ b u,b≠e→h.get? b=some u→h'.get? b=some u) (heo:∃ u,h'.get? e=some u)
  (new:ObjOk P w (upd H x o') h' x o'):HOk P w (upd H x o') h':=fun b u q=>by
 have nown:∀ c y,H c=some (.own y)→c≠x:=fun c y r z=>by subst z;rw [r] at mu;exact mu
 have ntup:∀ c xs,H c=some (.tup xs)→c≠x:=fun c xs r z=>by subst z;rw [r] at mu;exact mu
 by_cases hb:b=x
 ·subst hb;rw [Zbg] at q;cases q;exact new
 ·rw [Za7 hb] at q
  by_cases hbe:b=e
  ·have q':H b=some (.own x):=by
    rcases he with z | z
    ·exact absurd (hbe.trans z) hb
    ·rw [hbe];exact z
   rw [q] at q';cases q'
   obtain ⟨v,hv⟩:=heo
   exact ⟨v,by rw [hbe];exact hv⟩
  ·refine (ok b u q).stay (fun c v hc r=>k c v ?_ r) (fun c r=>by rw [Za7 (nown c b r)];exact r) fun c xs r=>by rw [Za7 (ntup c xs r)];exact r
   rcases hc with rfl | hc
   ·exact hbe
   ·rintro rfl
    rcases he with z | z
    ·exact nown c b hc z
    ·rw [hc] at z;cases z;exact hb rfl
end
structure Un (fs ex:List Addr) (H H':Hp) (h h':Heap):Prop where
 keep:∀ b o,h.get? b=some o→H b=none→b∉fs→b∉ex→h'.get? b=some o
 slot:∀ b o,h.get? b=some o→H b=none→b∈fs→b∉ex→∃ sl,h'.get? b=some { o with slots:=sl }
 free:∀ b o,h.get? b=some o→H b=none→b∉ex→H' b=none
 there:∀ b o,h.get? b=some o→b∉ex→∃ o',h'.get? b=some o'
 tups:∀ b xs,H b=some (.tup xs)→H' b=some (.tup xs)
 frzs:∀ b o u,H b=some (.frz o u)→H' b=some (.frz o u)
 tbls:∀ b ps,H b=some (.tbl ps)→∃ more,H' b=some (.tbl (ps++more))
section
variable {fs fs' ex ex':List Addr} {H H1 H2:Hp} {h h1 h2 h':Heap} {a x e:Addr} {o:HO}
theorem Un.any (u:Un fs ex H H1 h h1) {b:Addr} {ob:Obj} (q:h.get? b=some ob) (n:H b=none) (hx:b∉ex):∃ sl,h1.get? b=some { ob with slots:=sl }:=by
 by_cases hb:b∈fs
 ·exact u.slot b ob q n hb hx
 ·exact ⟨ob.slots,u.keep b ob q n hb hx⟩
theorem Un.trans (a:Un fs ex H H1 h h1) (b:Un fs ex H1 H2 h1 h2):Un fs ex H H2 h h2 where
 keep:=fun c ob q n hc hx=>b.keep c ob (a.keep c ob q n hc hx) (a.free c ob q n hx) hc hx
 slot:=fun c ob q n hc hx=>by
  obtain ⟨sl,e1⟩:=a.slot c ob q n hc hx
  obtain ⟨sl',e2⟩:=b.slot c _ e1 (a.free c ob q n hx) hc hx
  exact ⟨sl',e2⟩
 free:=fun c ob q n hx=>by
  obtain ⟨o',e1⟩:=a.there c ob q hx
  exact b.free c o' e1 (a.free c ob q n hx) hx
 there:=fun c ob q hx=>by
  obtain ⟨o',e1⟩:=a.there c ob q hx
  exact b.there c o' e1 hx
 tups:=fun c xs q=>b.tups c xs (a.tups c xs q)
 frzs:=fun c ob xs q=>b.frzs c ob xs (a.frzs c ob xs q)
 tbls:=fun c ps q=>by
  obtain ⟨m1,e1⟩:=a.tbls c ps q
  obtain ⟨m2,e2⟩:=b.tbls c _ e1
  exact ⟨m1++m2,by rw [e2,Array.append_assoc]⟩
theorem Un.kept (k:∀ b u,h.get? b=some u→h'.get? b=some u):Un fs ex H H h h':=
 ⟨fun b ob q _ _ _=>k b ob q,fun b ob q _ _ _=>⟨ob.slots,k b ob q⟩,fun _ _ _ n _=>n,fun b ob q _=>⟨ob,k b ob q⟩,fun _ _ q=>q,fun _ _ _ q=>q,fun _ ps q=>⟨#[],by rw [q];simp⟩⟩
theorem Un.refl:Un fs ex H H h h:=Un.kept fun _ _ q=>q
theorem Un.laid (k:∀ b u,h.get? b=some u→h'.get? b=some u) (hp:h.objs.size≤a) (hn:H a=none):Un fs ex H (upd H a o) h h' where
 keep:=fun b u q _ _ _=>k b u q
 slot:=fun b u q _ _ _=>⟨u.slots,k b u q⟩
 free:=fun b u q n _=>by rw [Za7 (Nat.ne_of_lt (Nat.lt_of_lt_of_le (Heap.lt_size q) hp))];exact n
 there:=fun b u q _=>⟨u,k b u q⟩
 tups:=fun b xs q=>by rw [Za7 (Zb2 q hn)];exact q
 frzs:=fun b u xs q=>by rw [Za7 (Zb2 q hn)];exact q
 tbls:=fun b ps q=>⟨#[],by rw [Za7 (Zb2 q hn),q];simp⟩
theorem Un.write (mu:Mut (H x)) (he:e=x∨H e=some (.own x)) (k:∀ b u,b≠e→h.get? b=some u→h'.get? b=some u) (heo:∃ u,h'.get? e=some u):Un fs ex H (upd H x o) h h':=by
 have hx:∀ b,H b=none→b≠x:=fun b n z=>by subst z;rw [n] at mu;exact mu
 have hb:∀ b,H b=none→b≠e:=fun b n z=>by
  subst z
  rcases he with r | r
  ·exact hx b n r
  ·rw [n] at r;cases r
 have hm:∀ b u,H b=some u→¬ Mut (some u)→b≠x:=fun b u q nm z=>by subst z;rw [q] at mu;exact nm mu
 refine ⟨fun b u q n _ _=>k b u (hb b n) q,fun b u q n _ _=>⟨u.slots,k b u (hb b n) q⟩,fun b u q n _=>by rw [Za7 (hx b n)];exact n,fun b u q _=>?_,
  fun b xs q=>by rw [Za7 (hm b _ q fun z=>z)];exact q,fun b u xs q=>by rw [Za7 (hm b _ q fun z=>z)];exact q,fun b ps q=>⟨#[],by rw [Za7 (hm b _ q fun z=>z),q];simp⟩⟩
 by_cases hbe:b=e
 ·subst hbe;exact heo
 ·exact ⟨u,k b u hbe q⟩
end
def trk (h:Heap) (H:Hp):List Addr:=(List.range h.objs.size).filter fun a=>(H a).isSome
def hidT (h:Heap) (H:Hp):Heap:=PySem.W.hideAll h (trk h H)
theorem Zoc (h:Heap) (H:Hp):(hidT h H).objs.size=h.objs.size:=PySem.W.hideAll_size _ _
theorem Zpz {h:Heap} {H:Hp} {b:Addr} {o:Obj} (e:h.get? b=some o) (n:H b=none):(hidT h H).get? b=some o:=
 PySem.W.hideAll_get _ e fun hm=>by
  have q:(H b).isSome=true:=(List.mem_filter.mp hm).2
  rw [n] at q;simp at q
theorem Zqq {h:Heap} {H:Hp} {b:Addr} {o:Obj} (e:(hidT h H).get? b=some o):h.get? b=some o∧H b=none:=by
 have e':h.get? b=some o:=PySem.W.of_hideAll (trk h H) e
 refine ⟨e',?_⟩
 cases q:H b with
 | none=>rfl
 | some x=>
  have hm:b∈trk h H:=List.mem_filter.mpr ⟨List.mem_range.mpr (Heap.lt_size e'),by simp [q]⟩
  have z:(hidT h H).get? b=none:=PySem.W.hideAll_none (trk h H) hm
  rw [z] at e;cases e
def allNews (g h:Heap) (L:Addr):List (Addr×Obj):=(List.range h.objs.size).filterMap fun a=>if a=L∨(g.get? a).isSome=true then none else (h.get? a).map fun o=>(a,o)
def rest (g h:Heap) (L d:Addr):List (Addr×Obj):=(allNews g h L).filter fun p=>decide (p.1≠d)
end L2
namespace L2
open PySem PySem.Spec PyProof.Rows
structure Mod (K:PySem.W.Frag) (mg:Str→Option Value) (base:Heap):Prop where
 kin:K.In base
 glob:base.Ns mainGlobals mg
 blt:∃ mb,base.Ns builtinsNs mb∧∀ x:Str,x≠"__name__"→mb x=bootBuiltins x
 nolimit:base.NoLimit
structure Cx where
 prog:Program
 w:World
 K:PySem.W.Frag
 mg:Str→Option Value
 base:Heap
 A:Around
 N:List Str
 s₀:Shared
 H₀:Hp
 env:Env
 outer:List Env
 stack:List Env
 ex:List Addr
 fn:Str→Bool
 calm:Bool
 pn:List (Addr×Obj)
 xe:Value→Shared→Prop
def frs (l:List Env):List Addr:=l.filterMap (·.frame)
abbrev Cx.fs (X:Cx):List Addr:=frs X.outer
def Vis (sc:Scope) (x:Str):Prop:=sc.names.lookup x=some .local∨sc.names.lookup x=some .cell∨sc.names.lookup x=some .free
def Loc (sc:Scope) (x:Str):Prop:=sc.names.lookup x=some .local∨sc.names.lookup x=some .cell
def Look (env:Env) (h:Heap) (m:Str→Option Value) (x:Str) (u:Value):Prop:=
 (env.kindOf x=some .local∧m x=some u)∨((env.kindOf x=some .cell∨env.kindOf x=some .free)∧∃ c,env.cells.lookup x=some c∧h.IsCell c (some u))
structure Cx.Ok (X:Cx):Prop where
 mod:Mod X.K X.mg X.base
 kind:X.env.scope.kind=.function
 glob:X.env.globals=mainGlobals
 blt:X.env.builtins=builtinsNs
 above:X.s₀.heap.objs.size≤X.env.locals
 inj:∀ x y c,X.env.cells.lookup x=some c→X.env.cells.lookup y=some c→x=y
 has:∀ x,(X.env.kindOf x=some .cell∨X.env.kindOf x=some .free)→∃ c,X.env.cells.lookup x=some c
 cab:∀ x c,X.fn x=true→X.env.cells.lookup x=some c→X.s₀.heap.objs.size≤c
 hd:X.calm=true→X.A.handled=none
 frames:X.A.frames=some X.stack
 stk:X.stack=X.outer∨(X.stack=X.env :: X.outer∧X.env.frame=some X.env.locals)
 exf:∀ b∈X.ex,b≠X.env.locals∧∀ x c,X.env.cells.lookup x=some c→c≠b
 bs:∀ b o,X.base.get? b=some o→X.s₀.heap.get? b=some o∧X.H₀ b=none
 bsz:X.base.objs.size≤X.s₀.heap.objs.size
 noex:∀ b o,X.base.get? b=some o→b∉X.ex
 exfs:∀ b∈X.ex,b∉X.fs
 funs:X.s₀.heap.FunFrames X.base X.outer
 frf:∀ b∈X.fs,X.H₀ b=none
structure Inv (X:Cx) (pins:List (Addr×Obj)) (σ:List (Option V)) (H:Hp) (s:Shared):Prop where
 ok:X.Ok
 os:s.os=X.s₀.os
 bare:AllBare s.gens
 base:Un X.fs X.ex X.H₀ H X.s₀.heap s.heap
 loc:∃ m,s.heap.Ns X.env.locals m∧∀ (i:Nat) (x:Str) (v:V),X.N[i]?=some x→σ[i]?=some (some v)→Vis X.env.scope x→∃ u,RelV v u∧Look X.env s.heap m x u
 cell:∀ x c,X.env.cells.lookup x=some c→∃ v,s.heap.IsCell c v
 free:H X.env.locals=none
 freeC:∀ x c,X.env.cells.lookup x=some c→H c=none
 pin:∀ p∈X.pn++pins,s.heap.get? p.1=some p.2∧H p.1=none∧p.1≠X.env.locals∧p.1∉X.fs∧∀ v,p.2.data≠.cell v
 hok:HOk X.prog X.w H s.heap
 len:σ.length=X.N.length
section
variable {X:Cx} {pins:List (Addr×Obj)} {σ:List (Option V)} {H H':Hp} {s:Shared} {h':Heap}
theorem Cx.Ok.nofr (ok:X.Ok) {b:Addr} {o:Obj} (e:X.base.get? b=some o):b∉X.fs:=fun hb=>by
 have:=(ok.funs.mem hb).1
 rw [e] at this;cases this
theorem Inv.bs (I:Inv X pins σ H s):∀ b o,X.base.get? b=some o→s.heap.get? b=some o∧H b=none:=fun b o e=>
 ⟨I.base.keep b o (I.ok.bs b o e).1 (I.ok.bs b o e).2 (I.ok.nofr e) (I.ok.noex b o e),I.base.free b o (I.ok.bs b o e).1 (I.ok.bs b o e).2 (I.ok.noex b o e)⟩
theorem Inv.bk (I:Inv X pins σ H s):∀ b o,X.base.get? b=some o→s.heap.get? b=some o:=fun b o e=>(I.bs b o e).1
theorem Inv.mod (I:Inv X pins σ H s):Mod X.K X.mg X.base:=I.ok.mod
theorem Inv.kIn (I:Inv X pins σ H s):X.K.In s.heap:=I.ok.mod.kin.keeps I.bk
theorem Inv.lt (I:Inv X pins σ H s):X.env.locals < s.heap.objs.size:=let ⟨_,hn,_⟩:=I.loc;hn.lt
theorem Inv.sz (I:Inv X pins σ H s):X.s₀.heap.objs.size≤s.heap.objs.size:=Nat.le_trans I.ok.above (Nat.le_of_lt I.lt)
theorem Inv.nofs (I:Inv X pins σ H s) {a:Addr} (h:s.heap.objs.size≤a):a∉X.fs:=fun hb=>by
 obtain ⟨_,o,ho,_⟩:=I.ok.funs.mem hb
 exact absurd (Nat.lt_of_lt_of_le (Heap.lt_size ho) (Nat.le_trans I.sz h)) (Nat.lt_irrefl _)
theorem Inv.cne (I:Inv X pins σ H s):∀ x c,X.env.cells.lookup x=some c→c≠X.env.locals:=fun x c e z=>by
 obtain ⟨v,o,ho,hd⟩:=I.cell x c e
 obtain ⟨m,⟨o',es,ep,ho',hd',_⟩,_⟩:=I.loc
 rw [z,ho'] at ho;cases ho;rw [hd'] at hd;cases hd
theorem Inv.funs (I:Inv X pins σ H s):s.heap.FunFrames X.base X.outer:=by
 have all:∀ (l:List Env),(∀ b∈frs l,b∈X.fs)→X.s₀.heap.FunFrames X.base l→s.heap.FunFrames X.base l:=by
  intro l
  induction l with
  | nil=>intro _ _;trivial
  | cons env r ih=>
   intro hs hl
   obtain ⟨hk,⟨L,o,hf,hn,ho,hd⟩,hr⟩:=hl
   have hL:L∈X.fs:=hs L (by unfold frs;rw [List.filterMap_cons,hf];exact List.mem_cons_self)
   obtain ⟨sl,e⟩:=I.base.slot L o ho (I.ok.frf L hL) hL fun z=>I.ok.exfs L z hL
   exact ⟨hk,⟨L,_,hf,hn,e,hd⟩,ih (fun b hb=>hs b (by unfold frs;rw [List.filterMap_cons,hf];exact List.mem_cons_of_mem _ hb)) hr⟩
 exact all X.outer (fun _ hb=>hb) I.ok.funs
theorem Inv.stack (I:Inv X pins σ H s):s.heap.FunFrames X.base X.stack:=by
 rcases I.ok.stk with e | ⟨e,hf⟩
 ·rw [e];exact I.funs
 ·rw [e]
  obtain ⟨m,hn,_⟩:=I.loc
  refine .cons (by rw [I.ok.kind];decide) hf hn ?_ I.funs
  exact Heap.get?_none_of_le (Nat.le_trans I.ok.bsz I.ok.above)
theorem Inv.stkSub (I:Inv X pins σ H s):∀ b∈frs X.stack,b∈X.env.locals :: X.fs:=fun b hb=>by
 rcases I.ok.stk with e | ⟨e,hf⟩
 ·rw [e] at hb;exact List.mem_cons_of_mem _ hb
 ·rw [e] at hb
  unfold frs at hb
  rw [List.filterMap_cons,hf] at hb
  exact hb
theorem Inv.stkFree (I:Inv X pins σ H s):∀ b∈frs X.stack,H b=none:=fun b hb=>by
 rcases List.mem_cons.mp (I.stkSub b hb) with e | hb
 ·rw [e];exact I.free
 ·obtain ⟨_,o,ho,_⟩:=I.ok.funs.mem hb
  exact I.base.free b o ho (I.ok.frf b hb) fun z=>I.ok.exfs b z hb
theorem Inv.step {g':Array GenState} {t':Nat} {d':Drawn} {ch:List Addr} (I:Inv X pins σ H s)
  (hch:∀ b∈ch,(b∈X.ex∨X.s₀.heap.objs.size≤b)∧b≠X.env.locals∧(∀ x c,X.env.cells.lookup x=some c→c≠b)∧∀ p∈X.pn++pins,p.1≠b)
  (keep:∀ b o,b≠X.env.locals→b∉X.fs→b∉ch→s.heap.get? b=some o→H b=none→h'.get? b=some o)
  (slot:∀ b o,b≠X.env.locals→b∈X.fs→b∉ch→s.heap.get? b=some o→H b=none→∃ sl,h'.get? b=some { o with slots:=sl }) (free:∀ b o,b∉ch→s.heap.get? b=some o→H b=none→H' b=none)
  (there:∀ b o,b∉ch→s.heap.get? b=some o→∃ o',h'.get? b=some o')
  (tups:∀ b xs,H b=some (.tup xs)→H' b=some (.tup xs)) (frzs:∀ b o u,H b=some (.frz o u)→H' b=some (.frz o u)) (tbls:∀ b ps,H b=some (.tbl ps)→∃ more,H' b=some (.tbl (ps++more)))
  (ns:∀ m,s.heap.Ns X.env.locals m→h'.Ns X.env.locals m) (hok:HOk X.prog X.w H' h') (hg:AllBare g') :
  Inv X pins σ H' { s with heap:=h',gens:=g',drawn:=d',toks:=t' }:=by
 have neL:∀ b o,X.s₀.heap.get? b=some o→b≠X.env.locals:=fun b o e=>Nat.ne_of_lt (Nat.lt_of_lt_of_le (Heap.lt_size e) I.ok.above)
 have neC:∀ b o,X.s₀.heap.get? b=some o→b∉X.ex→b∉ch:=fun b o e hx hb=>by
  rcases (hch b hb).1 with z | z
  ·exact hx z
  ·exact absurd (Nat.lt_of_lt_of_le (Heap.lt_size e) z) (Nat.lt_irrefl _)
 have cellK:∀ x c,X.env.cells.lookup x=some c→∀ v,s.heap.IsCell c v→h'.IsCell c v:=fun x c e v ⟨o,ho,hd⟩=>by
  have nch:c∉ch:=fun z=>(hch c z).2.2.1 x c e rfl
  by_cases hc:c∈X.fs
  ·obtain ⟨sl,q⟩:=slot c o (I.cne x c e) hc nch ho (I.freeC x c e)
   exact ⟨_,q,hd⟩
  ·exact ⟨o,keep c o (I.cne x c e) hc nch ho (I.freeC x c e),hd⟩
 refine ⟨I.ok,I.os,hg,⟨fun b o e n hb hx=>?_,fun b o e n hb hx=>?_,fun b o e n hx=>?_,fun b o e hx=>?_,fun b xs e=>tups b xs (I.base.tups b xs e),fun b o xs e=>frzs b o xs (I.base.frzs b o xs e),fun b ps e=>?_⟩,?_,fun x c e=>?_,?_,fun x c e=>?_,fun p hp=>?_,hok,I.len⟩
 ·exact keep b o (neL b o e) hb (neC b o e hx) (I.base.keep b o e n hb hx) (I.base.free b o e n hx)
 ·obtain ⟨sl,e1⟩:=I.base.slot b o e n hb hx
  obtain ⟨sl',e2⟩:=slot b _ (neL b o e) hb (neC b o e hx) e1 (I.base.free b o e n hx)
  exact ⟨sl',e2⟩
 ·obtain ⟨o',e1⟩:=I.base.there b o e hx
  exact free b o' (neC b o e hx) e1 (I.base.free b o e n hx)
 ·obtain ⟨o',e1⟩:=I.base.there b o e hx
  exact there b o' (neC b o e hx) e1
 ·obtain ⟨m1,e1⟩:=I.base.tbls b ps e
  obtain ⟨m2,e2⟩:=tbls b _ e1
  exact ⟨m1++m2,by rw [e2,Array.append_assoc]⟩
 ·obtain ⟨m,hn,hl⟩:=I.loc
  refine ⟨m,ns m hn,fun i x v e1 e2 e3=>?_⟩
  obtain ⟨u,r,l⟩:=hl i x v e1 e2 e3
  refine ⟨u,r,?_⟩
  rcases l with l | ⟨k,c,e,z⟩
  ·exact .inl l
  ·exact .inr ⟨k,c,e,cellK x c e _ z⟩
 ·obtain ⟨v,z⟩:=I.cell x c e
  exact ⟨v,cellK x c e v z⟩
 ·obtain ⟨m,⟨o,_,_,ho,_⟩,_⟩:=I.loc
  exact free _ o (fun z=>(hch _ z).2.1 rfl) ho I.free
 ·obtain ⟨v,o,ho,hd⟩:=I.cell x c e
  exact free c o (fun z=>(hch c z).2.2.1 x c e rfl) ho (I.freeC x c e)
 ·obtain ⟨e,n,ne,nf,d⟩:=I.pin p hp
  have nch:p.1∉ch:=fun z=>(hch p.1 z).2.2.2 p hp rfl
  exact ⟨keep p.1 p.2 ne nf nch e n,free p.1 p.2 nch e n,ne,nf,d⟩
theorem Inv.un {t':Nat} (I:Inv X pins σ H s) (u:Un X.fs [] H H' s.heap h') (hok:HOk X.prog X.w H' h'):Inv X pins σ H' { s with heap:=h',toks:=t' }:=by
 obtain ⟨m,⟨o,es,ep,ho,r⟩,_⟩:=id I.loc
 obtain ⟨sl,hL⟩:=u.any ho I.free (by simp)
 exact I.step (g':=s.gens) (d':=s.drawn) (ch:=[]) (fun _ z=>nomatch z) (fun b o _ hb _ e n=>u.keep b o e n hb (by simp)) (fun b o _ hb _ e n=>u.slot b o e n hb (by simp)) (fun b o _ e n=>u.free b o e n (by simp)) (fun b o _ e=>u.there b o e (by simp)) u.tups u.frzs u.tbls (fun m' hm=>by
  obtain ⟨o',es',ep',ho',r'⟩:=hm
  rw [ho] at ho';cases ho'
  exact ⟨_,es',ep',hL,r'⟩) hok I.bare
theorem Inv.call {g':Array GenState} {t':Nat} {d':Drawn} {ch:List Addr} (I:Inv X pins σ H s) (u:Un (frs X.stack) ch H H' s.heap h') (hok:HOk X.prog X.w H' h') (hg:AllBare g')
  (hch:∀ b∈ch,(b∈X.ex∨X.s₀.heap.objs.size≤b)∧b≠X.env.locals∧(∀ x c,X.env.cells.lookup x=some c→c≠b)∧∀ p∈X.pn++pins,p.1≠b) :
  Inv X pins σ H' { s with heap:=h',gens:=g',drawn:=d',toks:=t' }:=by
 obtain ⟨m,⟨o,es,ep,ho,r⟩,_⟩:=id I.loc
 obtain ⟨sl,hL⟩:=u.any ho I.free fun z=>(hch _ z).2.1 rfl
 exact I.step (ch:=ch) hch (fun b o hL hb hc e n=>u.keep b o e n (fun z=>(List.mem_cons.mp (I.stkSub b z)).elim hL hb) hc) (fun b o _ _ hc e n=>u.any e n hc) (fun b o hc e n=>u.free b o e n hc) (fun b o hc e=>u.there b o e hc) u.tups u.frzs u.tbls (fun m' hm=>by
  obtain ⟨o',es',ep',ho',r'⟩:=hm
  rw [ho] at ho';cases ho'
  exact ⟨_,es',ep',hL,r'⟩) hok hg
theorem Inv.turned {t':Nat} {it:Addr} (I:Inv X pins σ H s) (k:∀ b o,b≠it→s.heap.get? b=some o→h'.get? b=some o) (hn:H it=none) (hL:it≠X.env.locals)
  (h1:it∈X.ex∨X.s₀.heap.objs.size≤it) (h2:∀ x c,X.env.cells.lookup x=some c→c≠it) (h3:∀ p∈X.pn++pins,p.1≠it):Inv X pins σ H { s with heap:=h',toks:=t' }:=by
 have nit:∀ b u,H b=some u→b≠it:=fun b u e z=>by rw [z,hn] at e;cases e
 refine I.step (g':=s.gens) (d':=s.drawn) (ch:=[it]) (fun b hb=>?_) (fun b o _ _ hc e _=>k b o (fun z=>hc (by simp [z])) e) (fun b o _ _ hc e _=>⟨o.slots,k b o (fun z=>hc (by simp [z])) e⟩) (fun _ _ _ _ n=>n)
  (fun b o hc e=>⟨o,k b o (fun z=>hc (by simp [z])) e⟩) (fun _ _ e=>e) (fun _ _ _ e=>e) (fun b ps e=>⟨#[],by rw [e];simp⟩) (fun m hm=>?_) (fun b u e=>?_) I.bare
 ·have e:b=it:=by simpa using hb
  subst e
  exact ⟨h1,hL,h2,h3⟩
 ·obtain ⟨o,es,ep,ho,r⟩:=hm
  exact ⟨o,es,ep,k _ o (Ne.symm hL) ho,r⟩
 ·refine (I.hok b u e).stay (fun c v hc q=>k c v ?_ q) (fun _ q=>q) fun _ _ q=>q
  rcases hc with z | z
  ·rw [z];exact nit b u e
  ·exact nit c _ z
theorem Inv.tok (I:Inv X pins σ H s) (t:Nat):Inv X pins σ H { s with toks:=t }:=I.un (h':=s.heap) (t':=t) Un.refl I.hok
theorem Inv.kept {t':Nat} (I:Inv X pins σ H s) (k:∀ b u,s.heap.get? b=some u→h'.get? b=some u):Inv X pins σ H { s with heap:=h',toks:=t' }:=I.un (Un.kept k) (I.hok.kept k)
theorem Inv.laid {a:Addr} {o:HO} {t':Nat} (I:Inv X pins σ H s) (k:∀ b u,s.heap.get? b=some u→h'.get? b=some u) (hp:s.heap.objs.size≤a) (new:ObjOk X.prog X.w (upd H a o) h' a o) :
  Inv X pins σ (upd H a o) { s with heap:=h',toks:=t' }:=I.un (Un.laid k hp (I.hok.fresh hp)) (I.hok.laid k hp new)
theorem Inv.write {x e:Addr} {o:HO} {t':Nat} (I:Inv X pins σ H s) (mu:Mut (H x)) (he:e=x∨H e=some (.own x)) (k:∀ b u,b≠e→s.heap.get? b=some u→h'.get? b=some u) (heo:∃ u,h'.get? e=some u)
  (new:ObjOk X.prog X.w (upd H x o) h' x o):Inv X pins σ (upd H x o) { s with heap:=h',toks:=t' }:=I.un (Un.write mu he k heo) (I.hok.write mu he k heo new)
theorem Inv.weak {σ':List (Option V)} (I:Inv X pins σ H s) (hl:σ'.length=σ.length) (w:∀ (i:Nat) v,σ'[i]?=some (some v)→σ[i]?=some (some v)):Inv X pins σ' H s:=
 ⟨I.ok,I.os,I.bare,I.base,let ⟨m,hn,hl'⟩:=I.loc;⟨m,hn,fun i x v e1 e2 e3=>hl' i x v e1 (w i v e2) e3⟩,I.cell,I.free,I.freeC,I.pin,I.hok,hl.trans I.len⟩
theorem Inv.pins_of {pins':List (Addr×Obj)} (I:Inv X pins σ H s) (h:∀ p∈pins',s.heap.get? p.1=some p.2∧H p.1=none∧p.1≠X.env.locals∧p.1∉X.fs∧∀ v,p.2.data≠.cell v):Inv X pins' σ H s:=
 ⟨I.ok,I.os,I.bare,I.base,I.loc,I.cell,I.free,I.freeC,fun p hp=>(List.mem_append.mp hp).elim (fun z=>I.pin p (List.mem_append_left _ z)) (h p),I.hok,I.len⟩
theorem Zj1 {N:List Str} (hN:N.Nodup) {i j:Nat} {x:Str} (a:N[i]?=some x) (b:N[j]?=some x):i=j:=by
 obtain ⟨h1,e1⟩:=List.getElem?_eq_some_iff.mp a
 obtain ⟨h2,e2⟩:=List.getElem?_eq_some_iff.mp b
 exact (List.getElem_inj hN).mp (e1.trans e2.symm)
theorem Zns {M:Model} {A:Around} {E:Value→Shared→Prop} {i:Nat} {x:Str} {v:V} {u:Value} {Q:Unit→Shared→Prop} (I:Inv X pins σ H s) (hN:X.N.Nodup) (hi:X.N[i]?=some x) (hx:Loc X.env.scope x) (r:RelV v u)
  (h:∀ s',Inv X pins (σ.set i (some v)) H s'→(∃ a,Heap.SameBut a s.heap s'.heap∧(a=X.env.locals∨X.env.cells.lookup x=some a))→Q () s') (hf:X.fn x=true∨X.env.scope.names.lookup x=some .local:=by first | exact .inl rfl | exact .inr rfl | assumption):wpAny M A (storeName X.env x u) Q E s:=by
 obtain ⟨m,hn,hl⟩:=id I.loc
 have hcls:(X.env.scope.kind == .class || (X.env.scope.kind == .module && X.env.locals != X.env.globals))=false:=by rw [I.ok.kind];rfl
 have hiσ:i < σ.length:=by rw [I.len];exact (List.getElem?_eq_some_iff.mp hi).1
 have cne:=I.cne
 have tracked:∀ {a:Addr} {h':Heap},(∃ o,s.heap.get? a=some o∧H a=none)→Heap.SameBut a s.heap h'→HOk X.prog X.w H h':=fun {a h'} ha hs b ob e=>by
  obtain ⟨_,_,hfree⟩:=ha
  refine (I.hok b ob e).stay (fun c w' hc q=>(hs.2 c ?_).trans q) (fun _ q=>q) fun _ _ q=>q
  rintro rfl
  rcases hc with rfl | hc
  ·rw [hfree] at e;cases e
  ·rw [hfree] at hc;cases hc
 rcases hx with hk | hk
 ·refine wpAny_storeName_local hk hn (fun h' hn' hs=>?_) hcls
  obtain ⟨oL,_,_,hoL,_⟩:=id hn
  refine h _ ⟨I.ok,I.os,I.bare,⟨fun b o e n hb hx=>?_,fun b o e n hb hx=>?_,I.base.free,fun b o e hx=>?_,I.base.tups,I.base.frzs,I.base.tbls⟩,⟨_,hn',fun j y v' e1 e2 e3=>?_⟩,fun y c e=>?_,I.free,I.freeC,fun p hp=>?_,tracked ⟨oL,hoL,I.free⟩ hs,by simpa using I.len⟩ ⟨_,hs,.inl rfl⟩
  ·exact (hs.2 b (Nat.ne_of_lt (Nat.lt_of_lt_of_le (Heap.lt_size e) I.ok.above))).trans (I.base.keep b o e n hb hx)
  ·obtain ⟨sl,e1⟩:=I.base.slot b o e n hb hx
   exact ⟨sl,(hs.2 b (Nat.ne_of_lt (Nat.lt_of_lt_of_le (Heap.lt_size e) I.ok.above))).trans e1⟩
  ·obtain ⟨o',e1⟩:=I.base.there b o e hx
   exact ⟨o',(hs.2 b (Nat.ne_of_lt (Nat.lt_of_lt_of_le (Heap.lt_size e) I.ok.above))).trans e1⟩
  ·by_cases hj:j=i
   ·subst hj
    rw [hi] at e1;cases e1
    rw [List.getElem?_set_self hiσ] at e2
    cases e2
    exact ⟨u,r,.inl ⟨hk,by simp⟩⟩
   ·rw [List.getElem?_set_ne (Ne.symm hj)] at e2
    obtain ⟨u',r',q⟩:=hl j y v' e1 e2 e3
    refine ⟨u',r',?_⟩
    rcases q with ⟨k,e⟩ | ⟨k,c,e,z⟩
    ·refine .inl ⟨k,?_⟩
     have:y≠x:=fun e=>hj (Zj1 hN e1 (e ▸ hi))
     simp [this,e]
    ·exact .inr ⟨k,c,e,z.sameBut hs (cne y c e)⟩
  ·obtain ⟨w',z⟩:=I.cell y c e
   exact ⟨w',z.sameBut hs (cne y c e)⟩
  ·obtain ⟨e,n,ne,nf,d⟩:=I.pin p hp
   exact ⟨(hs.2 p.1 ne).trans e,n,ne,nf,d⟩
 ·have hfn:X.fn x=true:=by
   rcases hf with z | z
   ·exact z
   ·rw [z] at hk;cases hk
  obtain ⟨c,hc⟩:=I.ok.has x (.inl hk)
  obtain ⟨w',z⟩:=I.cell x c hc
  refine wpAny_storeName_cell I.ok.kind hk hc z (fun h' hc' hs=>?_)
  obtain ⟨oc,hoc,hocd⟩:=id z
  refine h { s with heap:=h' } ⟨I.ok,I.os,I.bare,⟨fun b o e n hb hx=>?_,fun b o e n hb hx=>?_,I.base.free,fun b o e hx=>?_,I.base.tups,I.base.frzs,I.base.tbls⟩,⟨m,hn.sameBut hs (Ne.symm (cne x c hc)),fun j y v' e1 e2 e3=>?_⟩,fun y c' e=>?_,I.free,I.freeC,fun p hp=>?_,tracked ⟨oc,hoc,I.freeC x c hc⟩ hs,by simpa using I.len⟩ ⟨c,hs,.inr hc⟩
  ·exact (hs.2 b (Nat.ne_of_lt (Nat.lt_of_lt_of_le (Heap.lt_size e) (I.ok.cab x c hfn hc)))).trans (I.base.keep b o e n hb hx)
  ·obtain ⟨sl,e1⟩:=I.base.slot b o e n hb hx
   exact ⟨sl,(hs.2 b (Nat.ne_of_lt (Nat.lt_of_lt_of_le (Heap.lt_size e) (I.ok.cab x c hfn hc)))).trans e1⟩
  ·obtain ⟨o',e1⟩:=I.base.there b o e hx
   exact ⟨o',(hs.2 b (Nat.ne_of_lt (Nat.lt_of_lt_of_le (Heap.lt_size e) (I.ok.cab x c hfn hc)))).trans e1⟩
  ·by_cases hj:j=i
   ·subst hj
    rw [hi] at e1;cases e1
    rw [List.getElem?_set_self hiσ] at e2
    cases e2
    exact ⟨u,r,.inr ⟨.inl hk,c,hc,hc'⟩⟩
   ·rw [List.getElem?_set_ne (Ne.symm hj)] at e2
    obtain ⟨u',r',q⟩:=hl j y v' e1 e2 e3
    refine ⟨u',r',?_⟩
    rcases q with q | ⟨k,c',e,z'⟩
    ·exact .inl q
    ·refine .inr ⟨k,c',e,z'.sameBut hs ?_⟩
     rintro rfl
     exact hj (Zj1 hN e1 (I.ok.inj _ _ _ e hc ▸ hi))
  ·by_cases hcc:c'=c
   ·subst hcc;exact ⟨_,hc'⟩
   ·obtain ⟨w2,z2⟩:=I.cell y c' e
    exact ⟨w2,z2.sameBut hs hcc⟩
  ·obtain ⟨e,n,ne,nf,d⟩:=I.pin p hp
   refine ⟨(hs.2 p.1 ?_).trans e,n,ne,nf,d⟩
   intro q
   rw [q,hoc] at e
   have q':oc=p.2:=Option.some.inj e
   exact d w' (by rw [← q'];exact hocd)
theorem Zj4 {M:Model} {A:Around} {E:Value→Shared→Prop} {i:Nat} {x:Str} {v:V} {u:Value} {Q:Unit→Shared→Prop} (I:Inv X pins σ H s) (hN:X.N.Nodup) (hi:X.N[i]?=some x) (hx:Loc X.env.scope x) (r:RelV v u)
  (h:∀ s',Inv X pins (σ.set i (some v)) H s'→Q () s') (hf:X.fn x=true∨X.env.scope.names.lookup x=some .local:=by first | exact .inl rfl | exact .inr rfl | assumption):wpAny M A (storeName X.env x u) Q E s:=
 Zns I hN hi hx r (fun s' I' _=>h s' I') hf
theorem Inv.call' {s':Shared} {ch:List Addr} (I:Inv X pins σ H s) (ho:s'.os=s.os) (u:Un (frs X.stack) ch H H' s.heap s'.heap) (hok:HOk X.prog X.w H' s'.heap) (hg:AllBare s'.gens)
  (hch:∀ b∈ch,(b∈X.ex∨X.s₀.heap.objs.size≤b)∧b≠X.env.locals∧(∀ x c,X.env.cells.lookup x=some c→c≠b)∧∀ p∈X.pn++pins,p.1≠b):Inv X pins σ H' s':=by
 obtain ⟨h',g',d',t',o'⟩:=s'
 have e:o'=s.os:=ho
 subst e
 exact I.call (g':=g') (t':=t') (d':=d') u hok hg hch
end
abbrev XK:=Value→Option Addr→Hp→Prop
abbrev St:=List (Option V)
abbrev VK:=V→Hp→Prop
abbrev TE:=St→Hp→VK→Prop
abbrev TT:=St→Hp→(Bool→Hp→Prop)→Prop
abbrev TA:=St→Hp→(List V→Hp→Prop)→Prop
structure Ends where
 nx:St→Hp→Prop
 rt:VK
 bk:St→Hp→Prop:=fun _ _=>False
 ct:St→Hp→Prop:=fun _ _=>False
abbrev TS:=Ends→St→Hp→Prop
def EP (X:Cx) (pins:List (Addr×Obj)) (σ:St) (Q:VK) (u:Value) (s':Shared):Prop:=∃ v H',Inv X pins σ H' s'∧RelV v u∧Q v H'
def TP (X:Cx) (pins:List (Addr×Obj)) (σ:St) (Q:Bool→Hp→Prop) (b:Bool) (s':Shared):Prop:=∃ H',Inv X pins σ H' s'∧Q b H'
def AP (X:Cx) (pins:List (Addr×Obj)) (σ:St) (Q:List V→Hp→Prop) (us:List Value) (s':Shared):Prop:=∃ vs H',Inv X pins σ H' s'∧Vals vs us∧Q vs H'
def SP (X:Cx) (pins:List (Addr×Obj)) (D:Ends) (f:Flow) (s':Shared):Prop:=
 match f with
 | .next=>∃ σ' H',Inv X pins σ' H' s'∧D.nx σ' H'
 | .brk=>∃ σ' H',Inv X pins σ' H' s'∧D.bk σ' H'
 | .cont=>∃ σ' H',Inv X pins σ' H' s'∧D.ct σ' H'
 | .ret u=>∃ v σ' H',Inv X pins σ' H' s'∧RelV v u∧D.rt v H'
def PE (X:Cx) (e:Expr) (t:TE):Prop:=
 ∀ (pins:List (Addr×Obj)) (s:Shared) (σ:St) (H:Hp) (Q:VK),Inv X pins σ H s→t σ H Q→wpAny (model X.prog X.w) X.A (eval e X.env) (EP X pins σ Q) X.xe s
def PT (X:Cx) (e:Expr) (t:TT):Prop:=
 ∀ (pins:List (Addr×Obj)) (s:Shared) (σ:St) (H:Hp) (Q:Bool→Hp→Prop),Inv X pins σ H s→t σ H Q→wpAny (model X.prog X.w) X.A (isTrue e X.env (eval e X.env)) (TP X pins σ Q) X.xe s
def PW (X:Cx) (e:Expr) (t:TT):Prop:=
 ∀ (whole:Sem Value) (pins:List (Addr×Obj)) (s:Shared) (σ:St) (H:Hp) (Q:Bool→Hp→Prop),Inv X pins σ H s→t σ H Q→wpAny (model X.prog X.w) X.A (isTrue e X.env whole) (TP X pins σ Q) X.xe s
theorem PW.pt {X:Cx} {e:Expr} {t:TT} (h:PW X e t):PT X e t:=h _
def PA (X:Cx) (es:List Expr) (t:TA):Prop:=
 ∀ (pos:Pos) (pins:List (Addr×Obj)) (s:Shared) (σ:St) (H:Hp) (Q:List V→Hp→Prop),Inv X pins σ H s→t σ H Q→wpAny (model X.prog X.w) X.A (spliced (backTo pos (starEach es X.env))) (AP X pins σ Q) X.xe s
def PS (X:Cx) (st:Stmt) (t:TS):Prop:=
 ∀ (pins:List (Addr×Obj)) (s:Shared) (σ:St) (H:Hp) (D:Ends),Inv X pins σ H s→t D σ H→wpAny (model X.prog X.w) X.A (exec st X.env) (SP X pins D) X.xe s
def PSs (X:Cx) (st:List Stmt) (t:TS):Prop:=
 ∀ (pins:List (Addr×Obj)) (s:Shared) (σ:St) (H:Hp) (D:Ends),Inv X pins σ H s→t D σ H→wpAny (model X.prog X.w) X.A (execs st X.env) (SP X pins D) X.xe s
theorem thn {α:Type} {t:Sem α} {Q Q':α→Shared→Prop} {M:Model} {A:Around} {E:Value→Shared→Prop} {s:Shared} (h:wpAny M A t Q E s) (hQ:∀ a s,Q a s→Q' a s):wpAny M A t Q' E s:=wpAny_mono h hQ fun _ _ x=>x
end L2
namespace L2
open PySem PySem.Spec PyProof.Rows
section
variable {X:Cx}
theorem bin {a b:Expr} {ta tb:TE} (ha:PE X a ta) (hb:PE X b tb) {pins:List (Addr×Obj)} {s:Shared} {σ:St} {H:Hp} {R:V→V→Hp→Prop} (I:Inv X pins σ H s) (h:ta σ H fun x H1=>tb σ H1 fun y H2=>R x y H2)
  {α:Type} {Q:α→Shared→Prop} {f:Value→Value→Sem α}
  (hf:∀ v u s2 x y H2,Inv X pins σ H2 s2→RelV x v→RelV y u→R x y H2→wpAny (model X.prog X.w) X.A (f v u) Q X.xe s2) :
  wpAny (model X.prog X.w) X.A (eval a X.env) (fun v s₁=>wpAny (model X.prog X.w) X.A (eval b X.env) (fun u s₂=>wpAny (model X.prog X.w) X.A (f v u) Q X.xe s₂) X.xe s₁) X.xe s:=by
 refine thn (ha pins s σ H _ I h) fun v s1 ⟨x,H1,I1,r1,q1⟩=>?_
 refine thn (hb pins s1 σ H1 _ I1 q1) fun u s2 ⟨y,H2,I2,r2,q2⟩=>?_
 exact hf v u s2 x y H2 I2 r1 r2 q2
def tVar (i:Nat):TE:=fun σ H Q=>∃ v,σ[i]?=some (some v)∧Q v H
def tC (v:V):TE:=fun _ H Q=>Q v H
theorem Zru {i:Nat} {x:Str} {pos:Pos} (hN:X.N[i]?=some x) (hv:Vis X.env.scope x) (hd:(x == ("__debug__" : Str))=false:=by decide) (hcd:(x == ("__classdict__" : Str))=false:=by decide):PE X (.Name x pos) (tVar i):=by
 intro pins s σ H Q I h
 obtain ⟨v,e,h⟩:=h
 obtain ⟨m,hn,hl⟩:=I.loc
 obtain ⟨u,r,l⟩:=hl i x v hN e hv
 have fin:EP X pins σ Q u s:=⟨v,H,I,r,h⟩
 rcases l with ⟨hk,hm⟩ | ⟨hk,c,hc,hcell⟩
 ·exact wpAny_Name (wpAny_loadName_local I.ok.kind hk hn hm fin) hd
 ·rcases hk with hk | hk
  ·exact wpAny_Name (wpAny_loadName_cell I.ok.kind hk hc hcell fin) hd
  ·exact wpAny_Name (wpAny_loadName_free I.ok.kind hk hc hcell fin hcd) hd
theorem Zad {i j pos}:PE X (.Constant (.int i) j pos) (tC (.int i)):=fun _ _ _ H _ I h=>wpAny_Constant_int ⟨.int i,H,I.tok _,⟨_,rfl⟩,h⟩
theorem Zd0 {b j pos}:PE X (.Constant (.bool b) j pos) (tC (.bl b)):=fun _ _ _ H _ I h=>Constant_bool ⟨.bl b,H,I,rfl,h⟩
theorem Zbn {x j pos}:PE X (.Constant (.str x) j pos) (tC (.str x)):=fun _ _ _ H _ I h=>Calls.Constant_str ⟨.str x,H,I.tok _,⟨_,rfl⟩,h⟩
def Gl (X:Cx) (x:Str):Prop:=X.env.kindOf x=some .globalImplicit
theorem Zg0 {E:Value→Shared→Prop} {pins:List (Addr×Obj)} {s:Shared} {σ:St} {H:Hp} {x:Str} {u:Value} {pos:Pos} {Q:Value→Shared→Prop} (I:Inv X pins σ H s) (hg:Gl X x) (hm:X.mg x=some u) (h:Q u s)
  (hd:(x == ("__debug__" : Str))=false:=by decide):wpAny (model X.prog X.w) X.A (eval (.Name x pos) X.env) Q E s:=
 Calls.Name_function_global I.ok.kind hg (Calls.loadGlobal_global (by rw [I.ok.glob];exact I.mod.glob.keeps I.bk) hm h) hd
theorem Zkx {E:Value→Shared→Prop} {pins:List (Addr×Obj)} {s:Shared} {σ:St} {H:Hp} {x:Str} {u:Value} {pos:Pos} {Q:Value→Shared→Prop} (I:Inv X pins σ H s) (hg:Gl X x) (hm:X.mg x=none) (hv:bootBuiltins x=some u) (h:Q u s)
  (hn:x≠"__name__":=by decide) (hd:(x == ("__debug__" : Str))=false:=by decide):wpAny (model X.prog X.w) X.A (eval (.Name x pos) X.env) Q E s:=by
 obtain ⟨mb,h1,h2⟩:=I.mod.blt
 exact Calls.Name_function_global I.ok.kind hg (Calls.loadGlobal_builtin (by rw [I.ok.glob];exact I.mod.glob.keeps I.bk) hm (by rw [I.ok.blt];exact h1.keeps I.bk) ((h2 x hn).trans hv) h) hd
theorem Zod {x:Str} {v:V} {u:Value} {pos:Pos} (hg:Gl X x) (hm:X.mg x=some u) (r:RelV v u) (hd:(x == ("__debug__" : Str))=false:=by decide):PE X (.Name x pos) (tC v):=
 fun _ _ _ H _ I h=>Zg0 I hg hm ⟨v,H,I,r,h⟩ hd
theorem Zev {x:Str} {v:V} {u:Value} {pos:Pos} (hg:Gl X x) (hm:X.mg x=none) (hv:bootBuiltins x=some u) (r:RelV v u) (hn:x≠"__name__":=by decide) (hd:(x == ("__debug__" : Str))=false:=by decide):PE X (.Name x pos) (tC v):=
 fun _ _ _ H _ I h=>Zkx I hg hm hv ⟨v,H,I,r,h⟩ hn hd
variable {a b:Expr} {ta tb:TE} {pos:Pos}
variable {tA tB':TT} {rest:List Expr}
def tAnd (t u:TT):TT:=fun σ H Q=>t σ H fun c H1=>if c=true then u σ H1 Q else Q false H1
def tOr (t u:TT):TT:=fun σ H Q=>t σ H fun c H1=>if c=true then Q true H1 else u σ H1 Q
def tNot (t:TT):TT:=fun σ H Q=>t σ H fun c H1=>Q (!c) H1
theorem Zqv (ha:PT X a tA):PW X (.BoolOp .And [a] pos) tA:=by
 intro wh pins s σ H Q I h
 refine isTrue_and (thn (ha pins s σ H Q I h) fun c s1 e=>?_)
 cases c with
 | true=>exact isTrue_and_nil e
 | false=>exact e
theorem Zc1 (ha:PT X a tA):PW X (.BoolOp .Or [a] pos) tA:=by
 intro wh pins s σ H Q I h
 refine isTrue_or (thn (ha pins s σ H Q I h) fun c s1 e=>?_)
 cases c with
 | false=>exact isTrue_or_nil e
 | true=>exact e
theorem Zqa (ha:PT X a tA) (hb:PW X (.BoolOp .And (b :: rest) pos) tB'):PW X (.BoolOp .And (a :: b :: rest) pos) (tAnd tA tB'):=by
 intro wh pins s σ H Q I h
 refine isTrue_and (thn (ha pins s σ H _ I h) fun c s1 ⟨H1,I1,q1⟩=>?_)
 cases c with
 | true=>exact hb wh pins s1 σ H1 Q I1 q1
 | false=>exact ⟨H1,I1,q1⟩
theorem Zei (ha:PT X a tA) (hb:PW X (.BoolOp .Or (b :: rest) pos) tB'):PW X (.BoolOp .Or (a :: b :: rest) pos) (tOr tA tB'):=by
 intro wh pins s σ H Q I h
 refine isTrue_or (thn (ha pins s σ H _ I h) fun c s1 ⟨H1,I1,q1⟩=>?_)
 cases c with
 | true=>exact ⟨H1,I1,q1⟩
 | false=>exact hb wh pins s1 σ H1 Q I1 q1
theorem Zdv (ha:PT X a tA):PT X (.UnaryOp .Not a pos) (tNot tA):=by
 intro pins s σ H Q I h
 exact isTrue_not (ha pins s σ H (fun c H1=>Q (!c) H1) I h)
def tAndV (ta tb:TE):TE:=fun σ H Q=>ta σ H fun x H1=>∃ c,x=.bl c∧if c=true then tb σ H1 Q else Q (.bl false) H1
def tNotV (ta:TE):TE:=fun σ H Q=>ta σ H fun x H1=>∃ c,x=.bl c∧Q (.bl (!c)) H1
theorem Zob {op} {t:TE} (h:PE X a t):PE X (.BoolOp op [a] pos) t:=fun pins s σ H Q I hw=>BoolOp_one (h pins s σ H Q I hw)
theorem Zme (ha:PE X a ta) (hb:PE X (.BoolOp .And (b :: rest) pos) tb):PE X (.BoolOp .And (a :: b :: rest) pos) (tAndV ta tb):=by
 intro pins s σ H Q I h
 refine BoolOp_and (thn (ha pins s σ H _ I h) fun v s1 ⟨x,H1,I1,r1,q1⟩=>?_)
 obtain ⟨c,rfl,q1⟩:=q1
 cases r1
 refine wpAny_truthy_bool ?_
 cases c with
 | true=>exact hb pins s1 σ H1 Q I1 q1
 | false=>exact ⟨.bl false,H1,I1,rfl,q1⟩
theorem Zr2 (ha:PE X a ta):PE X (.UnaryOp .Not a pos) (tNotV ta):=by
 intro pins s σ H Q I h
 refine UnaryOp_ (thn (ha pins s σ H _ I h) fun v s1 ⟨x,H1,I1,r1,q1⟩=>?_)
 obtain ⟨c,rfl,q1⟩:=q1
 cases r1
 exact not_of (wpAny_truthy_bool ⟨.bl (!c),H1,I1,rfl,q1⟩)
end
end L2
namespace L2
open PySem PySem.Spec PyProof.Rows
def SqL (K:PySem.W.Frag) (H:Hp) (a:Addr) (xs:List V):Prop:=
 Rd H a (.lst xs)∨
  ∃ (o:Obj) (its:Array Value) (n:Nat),K.lookup a=some o∧o.cls=.type "list"∧o.dict=none∧o.data=.seq its n∧its.size≤sizeLine∧Vals xs its.toList
def SqT (K:PySem.W.Frag) (H:Hp) (a:Addr) (xs:List V):Prop:=
 Rd H a (.tup xs)∨
  ∃ (o:Obj) (its:Array Value) (n:Nat),K.lookup a=some o∧o.cls=.type "tuple"∧o.data=.seq its n∧its.size≤sizeLine∧Vals xs its.toList
def absV:Value→Option V
 | .none=>some .non
 | .bool b=>some (.bl b)
 | .int i _=>some (.int i)
 | .str x _=>some (.str x)
 | .bytes b _=>some (.byt b)
 | .float b _=>some (.flt b)
 | .ref a=>some (.ref a)
 | .type n=>some (.ty n)
 | _=>none
theorem RelV.abs {x:V} {u:Value} (r:RelV x u):absV u=some x:=by
 cases x with
 | non=>cases r;rfl
 | bl _=>cases r;rfl
 | int _=>obtain ⟨t,rfl⟩:=r;rfl
 | str _=>obtain ⟨t,rfl⟩:=r;rfl
 | byt _=>obtain ⟨t,rfl⟩:=r;rfl
 | flt _=>obtain ⟨t,rfl⟩:=r;rfl
 | ref _=>cases r;rfl
 | ty _=>cases r;rfl
theorem RelV.inj {x y:V} {u:Value} (r:RelV x u) (q:RelV y u):x=y:=Option.some.inj (r.abs.symm.trans q.abs)
theorem Vals.inj:∀ {xs ys:List V} {us:List Value},Vals xs us→Vals ys us→xs=ys
 | _,_,_,.nil,.nil=>rfl
 | _,_,_,.cons r t,.cons r' t'=>by rw [r.inj r',Vals.inj t t']
section
variable {X:Cx} {pins:List (Addr×Obj)} {σ:St} {H:Hp} {s:Shared} {a:Addr} {xs ys:List V}
theorem SqL.of {K:PySem.W.Frag} (h:H a=some (.lst xs)):SqL K H a xs:=.inl (.inl h)
theorem SqT.of {K:PySem.W.Frag} (h:H a=some (.tup xs)):SqT K H a xs:=.inl (.inl h)
theorem Inv.list (I:Inv X pins σ H s) (h:SqL X.K H a xs):∃ its:List Value,Vals xs its∧PlainL s.heap a its.toArray∧xs.length≤sizeLine:=by
 rcases h with h | ⟨o,its,n,hk,hc,hd,hs,hz,r⟩
 ·obtain ⟨z,its,n,r,e⟩:=h.ok I.hok
  exact ⟨its,r,⟨_,n,e,rfl,rfl,rfl⟩,z⟩
 ·refine ⟨its.toList,r,⟨o,n,I.kIn a o hk,hc,hd,by simpa using hs⟩,?_⟩
  have e:=r.length
  simp only [Array.length_toList] at e
  omega
theorem Inv.tuple (I:Inv X pins σ H s) (h:SqT X.K H a xs):∃ its:List Value,Vals xs its∧IsTup s.heap a its.toArray∧xs.length≤sizeLine:=by
 rcases h with h | ⟨o,its,n,hk,hc,hs,hz,r⟩
 ·obtain ⟨z,its,r,p⟩:=h.ok I.hok
  exact ⟨its,r,p,z⟩
 ·refine ⟨its.toList,r,⟨o,I.kIn a o hk,hc,n,by simpa using hs⟩,?_⟩
  have e:=r.length
  simp only [Array.length_toList] at e
  omega
theorem Inv.list_inj (I:Inv X pins σ H s) (h:SqL X.K H a xs) (h':SqL X.K H a ys):xs=ys:=by
 obtain ⟨its,r,⟨o,n,e,_,_,d⟩,_⟩:=I.list h
 obtain ⟨its',r',⟨o',n',e',_,_,d'⟩,_⟩:=I.list h'
 rw [e] at e';cases e'
 rw [d] at d'
 injection d' with d1 _
 have:its=its':=by simpa using congrArg Array.toList d1
 subst this
 exact r.inj r'
end
abbrev Cx.wish (X:Cx) (E:Value→Shared→Prop):Cx:={ X with xe:=E }
abbrev Cx.nox (X:Cx):Cx:=X.wish fun _ _=>False
theorem Cx.Ok.wish {X:Cx} (ok:X.Ok) (E:Value→Shared→Prop):(X.wish E).Ok:=
 ⟨ok.mod,ok.kind,ok.glob,ok.blt,ok.above,ok.inj,ok.has,ok.cab,ok.hd,ok.frames,ok.stk,ok.exf,ok.bs,ok.bsz,ok.noex,ok.exfs,ok.funs,ok.frf⟩
theorem Cx.Ok.unwish {X:Cx} {E:Value→Shared→Prop} (ok:(X.wish E).Ok):X.Ok:=
 ⟨ok.mod,ok.kind,ok.glob,ok.blt,ok.above,ok.inj,ok.has,ok.cab,ok.hd,ok.frames,ok.stk,ok.exf,ok.bs,ok.bsz,ok.noex,ok.exfs,ok.funs,ok.frf⟩
section
variable {X:Cx} {pins:List (Addr×Obj)} {σ:St} {H:Hp} {s:Shared} {E:Value→Shared→Prop}
theorem Inv.wish (I:Inv X pins σ H s) (E:Value→Shared→Prop):Inv (X.wish E) pins σ H s:=⟨I.ok.wish E,I.os,I.bare,I.base,I.loc,I.cell,I.free,I.freeC,I.pin,I.hok,I.len⟩
theorem Inv.unwish (I:Inv (X.wish E) pins σ H s):Inv X pins σ H s:=⟨I.ok.unwish,I.os,I.bare,I.base,I.loc,I.cell,I.free,I.freeC,I.pin,I.hok,I.len⟩
theorem SP.unwish {D:Ends} {f:Flow} {s':Shared} (h:SP (X.wish E) pins D f s'):SP X pins D f s':=by
 cases f with
 | next=>obtain ⟨σ',H',I,q⟩:=h;exact ⟨σ',H',I.unwish,q⟩
 | brk=>obtain ⟨σ',H',I,q⟩:=h;exact ⟨σ',H',I.unwish,q⟩
 | cont=>obtain ⟨σ',H',I,q⟩:=h;exact ⟨σ',H',I.unwish,q⟩
 | ret u=>obtain ⟨v,σ',H',I,r,q⟩:=h;exact ⟨v,σ',H',I.unwish,r,q⟩
theorem PSs.nox {st:List Stmt} {t:TS} (h:PSs X.nox st t):PSs X st t:=fun pins s σ H D I hw=>
 wpAny_mono (h pins s σ H D (I.wish _) hw) (fun _ _ q=>q.unwish) fun _ _ z=>False.elim z
end
section
variable {X:Cx} {st:Stmt} {rest:List Stmt} {t u:TS} {e:Expr} {te:TE} {pos:Pos}
def tNext:TS:=fun D σ H=>D.nx σ H
def tSeq (t u:TS):TS:=fun D σ H=>t { D with nx:=u D } σ H
theorem Zaq:PSs X [] tNext:=fun _ _ σ H _ I h=>wpAny_execs_nil ⟨σ,H,I,h⟩
theorem Zag (h1:PS X st t) (h2:PSs X rest u):PSs X (st :: rest) (tSeq t u):=by
 intro pins s σ H D I h
 refine wpAny_execs_cons (thn (h1 pins s σ H { D with nx:=u D } I h) fun f s1 q=>?_)
 cases f with
 | next=>
  obtain ⟨σ',H',I',q⟩:=q
  exact h2 pins s1 σ' H' D I' q
 | ret v=>exact q
 | brk=>exact q
 | cont=>exact q
theorem Zah (h1:PS X st t):PSs X [st] t:=by
 intro pins s σ H D I h
 refine wpAny_execs_cons (thn (h1 pins s σ H D I h) fun f s1 q=>?_)
 cases f with
 | next=>exact wpAny_execs_nil q
 | ret v=>exact q
 | brk=>exact q
 | cont=>exact q
theorem Inv.quiet {pins:List (Addr×Obj)} {σ:St} {H:Hp} {s:Shared} (I:Inv X pins σ H s):interactive X.env=false:=by simp [interactive,I.ok.kind]
def tDrop (te:TE):TS:=fun D σ H=>te σ H fun _ H1=>D.nx σ H1
theorem Zbv (he:PE X e te) (hs:swapsWith e none pos.line X.env=pure false:=by rfl):PS X (.Expr e pos) (tDrop te):=by
 intro pins s σ H D I h
 exact wpAny_Expr_any (thn (he pins s σ H _ I h) fun v s1 ⟨x,H1,I1,r1,q1⟩=>⟨σ,H1,I1,q1⟩) I.quiet hs
def tRet (te:TE):TS:=fun D σ H=>te σ H D.rt
theorem Zas (he:PE X e te):PS X (.Return (some e) pos) (tRet te):=by
 intro pins s σ H D I h
 exact wpAny_Return_some (thn (he pins s σ H _ I h) fun v s1 ⟨x,H1,I1,r1,q1⟩=>⟨x,σ,H1,I1,r1,q1⟩)
def tIfS (c:TT) (t u:TS):TS:=fun D σ H=>c σ H fun b H1=>if b=true then t D σ H1 else u D σ H1
theorem Za3 {c:Expr} {a b:List Stmt} {tc:TT} (hc:PT X c tc) (ha:PSs X a t) (hb:PSs X b u):PS X (.If c a b pos) (tIfS tc t u):=by
 intro pins s σ H D I h
 refine wpAny_If (thn (hc pins s σ H _ I h) fun d s1 ⟨H1,I1,q1⟩=>?_)
 cases d with
 | true=>exact ha pins s1 σ H1 D I1 q1
 | false=>exact hb pins s1 σ H1 D I1 q1
end
abbrev TG:=V→St→Hp→(St→Hp→Prop)→Prop
abbrev TGs:=List V→St→Hp→(St→Hp→Prop)→Prop
def PG (X:Cx) (target:Expr) (t:TG):Prop:=
 ∀ (pins:List (Addr×Obj)) (s:Shared) (σ:St) (H:Hp) (v:V) (u:Value) (Q:St→Hp→Prop),Inv X pins σ H s→RelV v u→t v σ H Q→
  wpAny (model X.prog X.w) X.A (assign target X.env u) (fun _ s'=>∃ σ' H',Inv X pins σ' H' s'∧Q σ' H') X.xe s
def PGs (X:Cx) (ts:List Expr) (t:TGs):Prop:=
 ∀ (pins:List (Addr×Obj)) (s:Shared) (σ:St) (H:Hp) (vs:List V) (us:List Value) (Q:St→Hp→Prop),Inv X pins σ H s→Vals vs us→t vs σ H Q→
  wpAny (model X.prog X.w) X.A (assignInOrder ((assignEach ts X.env).map (·.2)) us) (fun _ s'=>∃ σ' H',Inv X pins σ' H' s'∧Q σ' H') X.xe s
section
variable {X:Cx} {pos:Pos}
def gName (i:Nat):TG:=fun v σ H Q=>Q (σ.set i (some v)) H
theorem Zcl {i:Nat} {x:Str} (hN:X.N.Nodup) (hi:X.N[i]?=some x) (hx:Loc X.env.scope x) (hf:X.fn x=true∨X.env.scope.names.lookup x=some .local:=by first | exact .inl rfl | exact .inr rfl | assumption):PG X (.Name x pos) (gName i):=by
 intro pins s σ H v u Q I r h
 exact wpAny_assign_Name (Zj4 I hN hi hx r (fun s' I'=>⟨_,H,I',h⟩) hf)
def gNil:TGs:=fun vs σ H Q=>vs=[]∧Q σ H
def gCons (t:TG) (u:TGs):TGs:=fun vs σ H Q=>∃ v r,vs=v :: r∧t v σ H fun σ' H'=>u r σ' H' Q
theorem Zre:PGs X [] gNil:=by
 intro pins s σ H vs us Q I r h
 obtain ⟨e,h⟩:=h
 subst e
 cases r
 exact assignInOrder_nil ⟨σ,H,I,h⟩
theorem Zm {e:Expr} {es:List Expr} {t:TG} {u:TGs} (h1:PG X e t) (h2:PGs X es u)
  (hs:(assignEach (e :: es) X.env).map (·.2)=assign e X.env :: (assignEach es X.env).map (·.2):=by rfl):PGs X (e :: es) (gCons t u):=by
 intro pins s σ H vs us Q I r h
 obtain ⟨v,vr,e1,h⟩:=h
 subst e1
 cases r with
 | cons r rr=>
  rw [hs]
  refine assignInOrder_cons (thn (h1 pins s σ H _ _ _ I r h) fun _ s1 ⟨σ1,H1,I1,q1⟩=>?_)
  exact h2 pins s1 σ1 H1 _ _ Q I1 rr q1
def gTup (K:PySem.W.Frag) (n:Nat) (t:TGs):TG:=fun v σ H Q=>∃ a xs,v=.ref a∧SqT K H a xs∧xs.length=n∧t xs σ H Q
theorem Zry {es:List Expr} {k:Nat} {t:TGs} {n:Nat} (hc:X.calm=true) (h:PGs X es t)
  (hn:(assignEach es X.env).length=n:=by rfl) (hst:(assignEach es X.env).findIdx? (·.1)=none:=by rfl):PG X (.Tuple es k pos) (gTup X.K n t):=by
 intro pins s σ H v u Q I r hw
 obtain ⟨a,xs,e1,hq,hl,hw⟩:=hw
 subst e1
 cases r
 obtain ⟨its,rv,ht,hz⟩:=I.tuple hq
 refine assign_Tuple_tuple (I.ok.hd hc) ht (by simp [hn,← hl,rv.length]) hst fun h' hx=>?_
 have I1:Inv X pins σ H { s with heap:=h' }:=I.kept (t':=s.toks) fun b o e=>hx b o (Nat.ne_of_lt (Heap.lt_size e)) e
 exact h pins _ σ H xs _ Q I1 (by simpa using rv) hw
def tAsg (te:TE) (g:TG):TS:=fun D σ H=>te σ H fun x H1=>g x σ H1 D.nx
theorem Zs {i:Nat} {x:Str} {e:Expr} {te:TE} {pos':Pos} (hN:X.N.Nodup) (hi:X.N[i]?=some x) (hx:Loc X.env.scope x) (he:PE X e te) (hs:swapsWith e (some (.Name x pos')) pos.line X.env=pure false:=by rfl) (hf:X.fn x=true∨X.env.scope.names.lookup x=some .local:=by first | exact .inl rfl | exact .inr rfl | assumption) :
  PS X (.Assign [.Name x pos'] e pos) (tAsg te (gName i)):=by
 intro pins s σ H D I h
 refine wpAny_Assign_Name (thn (he pins s σ H _ I h) fun v s1 ⟨y,H1,I1,r1,q1⟩=>?_) hs
 exact Zj4 I1 hN hi hx r1 (fun s2 I2=>⟨_,H1,I2,q1⟩) hf
end
section
variable {X:Cx} {pos:Pos}
end
structure It where
 go:Nat→Hp→Prop
 yld:Nat→Hp→V→Hp→Prop
 stop:Nat→Hp→Prop
def FpOk (X:Cx) (pins:List (Addr×Obj)) (H:Hp) (b:Addr):Prop:=
 H b=none∧b≠X.env.locals∧b∉X.fs∧(b∈X.ex∨X.s₀.heap.objs.size≤b)∧(∀ x c,X.env.cells.lookup x=some c→c≠b)∧∀ p∈X.pn++pins,p.1≠b
theorem Inv.fpOk {X:Cx} {pins:List (Addr×Obj)} {σ:St} {H H':Hp} {s:Shared} {b:Addr} (I:Inv X pins σ H s) (hb:s.heap.objs.size≤b) (hn:H' b=none):FpOk X pins H' b:=by
 refine ⟨hn,Nat.ne_of_gt (Nat.lt_of_lt_of_le I.lt hb),I.nofs hb,.inr (Nat.le_trans I.sz hb),fun x c e z=>?_,fun p hp z=>?_⟩
 ·obtain ⟨v,q⟩:=I.cell x c e
  exact absurd (Nat.lt_of_lt_of_le q.lt (by rw [z];exact hb)) (Nat.lt_irrefl _)
 ·exact absurd (Nat.lt_of_lt_of_le (Heap.lt_size (I.pin p hp).1) (by rw [z];exact hb)) (Nat.lt_irrefl _)
structure Turn (P:Program) (w:World) (K:PySem.W.Frag) (tg:Expr) (J:It) (fp:List Addr) (it:Addr) (tn:Nat→Heap→Prop):Prop where
 mem:it∈fp
 obj:∀ i h,tn i h→∀ b∈fp,∃ o,h.get? b=some o∧∀ v,o.data≠.cell v
 keep:∀ i h h',tn i h→(∀ b∈fp,∀ o,h.get? b=some o→h'.get? b=some o)→tn i h'
 item:∀ (X:Cx),X.prog=P→X.w=w→X.K=K→X.calm=true→∀ (i:Nat) (pins:List (Addr×Obj)) (s:Shared) (σ:St) (H:Hp) (E:Value→Shared→Prop),Inv X pins σ H s→(∀ b∈fp,FpOk X pins H b)→tn i s.heap→J.go i H→
  wpAny (model P w) X.A (pyNext (.ref it)) (fun r s1=>∃ u,r=some u∧
   wpAny (model P w) X.A (letOwnedTupleGo tg (.ref it) u) (fun _ s2=>∃ x H',Inv X pins σ H' s2∧RelV x u∧J.yld i H x H'∧tn (i + 1) s2.heap∧∀ b∈fp,H' b=none) E s1) E s
 done:∀ (X:Cx),X.prog=P→X.w=w→X.K=K→X.calm=true→∀ (i:Nat) (pins:List (Addr×Obj)) (s:Shared) (σ:St) (H:Hp) (E:Value→Shared→Prop),Inv X pins σ H s→(∀ b∈fp,FpOk X pins H b)→tn i s.heap→J.stop i H→
  wpAny (model P w) X.A (pyNext (.ref it)) (fun r s1=>r=none∧Inv X pins σ H s1) E s
 self:∀ (A:Around) (i:Nat) (s:Shared) (Q:Value→Shared→Prop) (E:Value→Shared→Prop),tn i s.heap→Q (.ref it) s→wpAny (model P w) A (pyIter (.ref it)) Q E s
abbrev TI:=St→Hp→(It→Hp→Prop)→Prop
def PIE (X:Cx) (pins:List (Addr×Obj)) (σ:St) (tg:Expr) (R:It→Hp→Prop) (itv:Value) (s2:Shared):Prop:=
 ∃ (it:Addr) (fp:List Addr) (tn:Nat→Heap→Prop) (J:It) (H':Hp),itv=.ref it∧Inv X pins σ H' s2∧Turn X.prog X.w X.K tg J fp it tn∧tn 0 s2.heap∧(∀ b∈fp,FpOk X pins H' b)∧R J H'
def PI (X:Cx) (tg iter:Expr) (wi:TI):Prop:=
 ∀ (pins:List (Addr×Obj)) (s:Shared) (σ:St) (H:Hp) (R:It→Hp→Prop),Inv X pins σ H s→wi σ H R→
  wpAny (model X.prog X.w) X.A (eval iter X.env) (fun v s1=>wpAny (model X.prog X.w) X.A (pyIter v) (PIE X pins σ tg R) X.xe s1) X.xe s
theorem Zr5 {M : Model} {A : Around} {E : Value → Shared → Prop} {s : Shared} {tg : Expr} {it : Addr} {u : Value} {o : Obj} {n : String} {vs : Array Value} {Q : Unit → Shared → Prop} (ho : s.heap.get? it = some o) (hc : o.cls = .type n) (hd : o.data = .fields vs)
    (hn : ["enumerate", "zip", "dict_itemiterator", "dict_reverseitemiterator", "odict_iterator", "itertools.zip_longest", "itertools.pairwise"].contains n = false) (hQ : Q () s) : wpAny M A (letOwnedTupleGo tg (.ref it) u) Q E s := by
  unfold letOwnedTupleGo
  cases tg <;> first
    | exact wpAny_pure hQ
    | (cases u <;> first
        | exact wpAny_pure hQ
        | (refine wpAny_bind (wpAny_load ho ?_)
           rw [hc, hd]
           show wpAny M A (if (["enumerate", "zip", "dict_itemiterator", "dict_reverseitemiterator", "odict_iterator", "itertools.zip_longest", "itertools.pairwise"].contains n && vs[0]? == some (rawInt _)) = true then _ else _) Q E s
           rw [if_neg (by intro h; rw [hn, Bool.false_and] at h; cases h)]
           exact wpAny_pure hQ))
def Itl (K:PySem.W.Frag) (a:Addr):It:=
 ⟨fun i H=>∃ xs x,SqL K H a xs∧xs[i]?=some x,fun i H x H'=>H'=H∧∀ xs,SqL K H a xs→xs[i]?=some x,fun i H=>∃ xs,SqL K H a xs∧xs.length≤i⟩
def Itr (lo:Int) (n:Nat):It:=⟨fun i _=>i < n,fun i H x H'=>H'=H∧x=.int (lo + i),fun i _=>n≤i⟩
theorem Zok {P:Program} {w:World} {K:PySem.W.Frag} {tg:Expr} (a it:Addr):Turn P w K tg (Itl K a) [it] it (fun i h=>h.IsListIter it a i) where
 mem:=by simp
 obj:=fun i h st b hb=>by
  have e:b=it:=by simpa using hb
  subst e
  obtain ⟨o,e,c,d⟩:=st
  exact ⟨o,e,fun v z=>by rw [d] at z;cases z⟩
 keep:=fun i h h' st k=>st.at fun o e=>k it (by simp) o e
 item:=by
  intro X hP hw hK hc i pins s σ H E I hf st hg
  subst hP hw hK
  obtain ⟨xs,x,hq,hx⟩:=hg
  obtain ⟨its,rv,p,hz⟩:=I.list hq
  obtain ⟨u,hu,ru⟩:=rv.get hx
  obtain ⟨f0,f1,f2,f3,f4,f5⟩:=hf it (by simp)
  refine wpAny_pyNext_list_item st p.isList (x:=u) (by simpa using hu) fun h' st' sb=>?_
  have I1:Inv X pins σ H { s with heap:=h' }:=I.turned (t':=s.toks) (fun b o hb e=>(sb.2 b hb).trans e) f0 f1 f3 f4 f5
  obtain ⟨o,e,c,d⟩:=id st'
  exact ⟨u,rfl,Zr5 (s:={ s with heap:=h' }) e c d (by decide) ⟨x,H,I1,ru,⟨rfl,fun ys hy=>by rw [I.list_inj hy hq];exact hx⟩,st',fun b hb=>(hf b hb).1⟩⟩
 done:=by
  intro X hP hw hK hc i pins s σ H E I hf st hg
  subst hP hw hK
  obtain ⟨xs,hq,hx⟩:=hg
  obtain ⟨its,rv,p,hz⟩:=I.list hq
  obtain ⟨f0,f1,f2,f3,f4,f5⟩:=hf it (by simp)
  have hl:=rv.length
  exact wpAny_pyNext_list_end (I.ok.hd hc) st p.isList (by simp;omega) fun h' eb=>⟨rfl,I.turned (t':=s.toks) (fun b o hb e=>eb b o hb e) f0 f1 f3 f4 f5⟩
 self:=fun _ _ _ _ _ st h=>wpAny_pyIter_listiter st h
theorem Zmu {P:Program} {w:World} {K:PySem.W.Frag} {tg:Expr} (it:Addr) (lo:Int) (n:Nat):Turn P w K tg (Itr lo n) [it] it (fun i h=>IsRangeIter h it (lo + (i:Nat) * 1) ((n:Int) - (i:Nat)) 1) where
 mem:=by simp
 obj:=fun i h st b hb=>by
  have e:b=it:=by simpa using hb
  subst e
  exact ⟨_,st,fun v z=>by
   have z':Data.fields _=Data.cell v:=z
   cases z'⟩
 keep:=fun i h h' st k=>k it (by simp) _ st
 item:=by
  intro X hP hw hK hc i pins s σ H E I hf st hg
  subst hP hw hK
  obtain ⟨f0,f1,f2,f3,f4,f5⟩:=hf it (by simp)
  have W:=Walks.range (prog:=X.prog) (w:=X.w) (I.ok.hd hc) it lo 1 n
  refine W.item i s _ _ hg st fun v h' tk hv st' kk=>?_
  obtain ⟨t,rfl⟩:=hv
  have I1:Inv X pins σ H { s with heap:=h',toks:=tk }:=I.turned (fun b o hb e=>kk b o (by simpa using hb) e) f0 f1 f3 f4 f5
  refine ⟨_,rfl,Zr5 (s:={ s with heap:=h',toks:=tk }) (n:="range_iterator") st' rfl rfl (by decide) ⟨.int (lo + i),H,I1,⟨t,?_⟩,⟨rfl,rfl⟩,st',fun b hb=>(hf b hb).1⟩⟩
  rw [Int.mul_one]
 done:=by
  intro X hP hw hK hc i pins s σ H E I hf st hg
  subst hP hw hK
  obtain ⟨f0,f1,f2,f3,f4,f5⟩:=hf it (by simp)
  exact wpAny_pyNext_range_end (I.ok.hd hc) st (by have:n≤i:=hg;omega) fun h' eb=>⟨rfl,I.turned (t':=s.toks) (fun b o hb e=>eb b o hb e) f0 f1 f3 f4 f5⟩
 self:=fun _ _ _ _ _ st h=>wpAny_pyIter_rangeiter st h
end L2
namespace L2
open PySem PySem.Spec PyProof.Rows
section
variable {X:Cx} {tg:Expr}
def iList (K:PySem.W.Frag) (tl:TE):TI:=fun σ H R=>tl σ H fun x H1=>∃ a,x=.ref a∧(∃ xs,SqL K H1 a xs)∧R (Itl K a) H1
theorem Zqx {l:Expr} {tl:TE} (hl:PE X l tl):PI X tg l (iList X.K tl):=by
 intro pins s σ H R I h
 refine thn (hl pins s σ H _ I h) fun v s1 ⟨x,H1,I1,r1,q1⟩=>?_
 obtain ⟨a,e,⟨xs,hq⟩,q⟩:=q1
 subst e
 cases r1
 obtain ⟨its,rv,p,hz⟩:=I1.list hq
 refine wpAny_pyIter_list p.isList ?_
 refine ⟨s1.heap.objs.size,[s1.heap.objs.size],_,_,H1,rfl,I1.kept (t':=s1.toks) fun b o e=>Heap.get?_push_of_some _ e,Zok a _,⟨_,Heap.get?_push_size _ rfl,rfl,rfl⟩,fun b hb=>?_,q⟩
 have e:b=s1.heap.objs.size:=by simpa using hb
 subst e
 exact I1.fpOk (Nat.le_refl _) (I1.hok.fresh (Nat.le_refl _))
theorem Zmn {pins:List (Addr×Obj)} {σ:St} {H:Hp} {s:Shared} {R:It→Hp→Prop} {E:Value→Shared→Prop} {lo hi:Int} {t u v:Tok} {tk:Nat} (I:Inv X pins σ H s) (h1:-(2 ^ 62)≤lo) (h2:lo < 2 ^ 62) (h3:-(2 ^ 62)≤hi) (h4:hi < 2 ^ 62)
  (q:R (Itr lo (hi - lo).toNat) H):wpAny (model X.prog X.w) X.A (pyIter (.ref s.heap.objs.size)) (PIE X pins σ tg R) E { s with heap:=s.heap.push { cls:=.type "range",data:=.fields #[.int lo t,.int hi u,.int 1 v] },toks:=tk }:=by
 refine wpAny_pyIter_range (IsRange.new ..) (small_one h1 h2 h3 h4) ?_
 have I1:Inv X pins σ H { s with heap:=s.heap.push { cls:=.type "range",data:=.fields #[.int lo t,.int hi u,.int 1 v] },toks:=tk }:=I.kept fun b o e=>Heap.get?_push_of_some _ e
 refine ⟨(s.heap.push { cls:=.type "range",data:=.fields #[.int lo t,.int hi u,.int 1 v] }).objs.size,[(s.heap.push { cls:=.type "range",data:=.fields #[.int lo t,.int hi u,.int 1 v] }).objs.size],_,_,H,rfl,
  I1.kept (t':=tk) fun b o e=>Heap.get?_push_of_some _ e,Zmu _ lo (hi - lo).toNat,?_,fun b hb=>?_,q⟩
 ·have e1:lo + ((0:Nat):Int) * 1=lo:=by simp
  have e2:(((hi - lo).toNat:Nat):Int) - ((0:Nat):Int)=Builtin.Range.rangeSize lo hi 1:=by rw [rangeSize_one];split<;>omega
  show IsRangeIter _ _ (lo + ((0:Nat):Int) * 1) ((((hi - lo).toNat:Nat):Int) - ((0:Nat):Int)) 1
  rw [e1,e2]
  exact Heap.get?_push_size _ rfl
 ·have e:b=(s.heap.push { cls:=.type "range",data:=.fields #[.int lo t,.int hi u,.int 1 v] }).objs.size:=by simpa using hb
  subst e
  exact I1.fpOk (Nat.le_refl _) (I1.hok.fresh (Nat.le_refl _))
def iRng1 (ta:TA):TI:=fun σ H R=>ta σ H fun vs H1=>∃ j:Int,vs=[.int j]∧-(2 ^ 62)≤j∧j < 2 ^ 62∧R (Itr 0 j.toNat) H1
def iRng2 (ta:TA):TI:=fun σ H R=>ta σ H fun vs H1=>∃ i j:Int,vs=[.int i,.int j]∧(-(2 ^ 62)≤i∧i < 2 ^ 62∧-(2 ^ 62)≤j∧j < 2 ^ 62)∧R (Itr i (j - i).toNat) H1
theorem Zee {a:Expr} {ta:TA} {p pos:Pos} (hg:Gl X "range") (hm:X.mg "range" = none) (ha:PA X [a] ta) (hs:starEach [a] X.env=[(false,eval a X.env)]:=by rfl):PI X tg (.Call (.Name "range" p) [a] [] pos) (iRng1 ta):=by
 intro pins s σ H R I h
 refine Call_ (Zkx I hg hm boot_range (PyProof.Rows.callWith_type1 (thn (ha pos pins s σ H _ I h) fun us s1 ⟨vs,H1,I1,r1,q1⟩=>?_) hs rfl))
 obtain ⟨j,e,q1,q2,q⟩:=q1
 subst e
 cases r1 with
 | cons r rr=>
  cases rr
  obtain ⟨t,rfl⟩:=r
  exact call_range_1 (Zmn I1 (by omega) (by omega) q1 q2 (by simpa using q))
theorem Zj5 {a b:Expr} {ta:TA} {p pos:Pos} (hg:Gl X "range") (hm:X.mg "range" = none) (ha:PA X [a,b] ta) (hs:starEach [a,b] X.env=[(false,eval a X.env),(false,eval b X.env)]:=by rfl) (hs2:starEach [b] X.env=[(false,eval b X.env)]:=by rfl) :
  PI X tg (.Call (.Name "range" p) [a,b] [] pos) (iRng2 ta):=by
 intro pins s σ H R I h
 refine Call_ (Zkx I hg hm boot_range (PyProof.Rows.callWith_type1 (thn (ha pos pins s σ H _ I h) fun us s1 ⟨vs,H1,I1,r1,q1⟩=>?_) (by rw [hs,hs2]) (by rw [hs2];rfl)))
 obtain ⟨i,j,e,⟨q1,q2,q3,q4⟩,q⟩:=q1
 subst e
 cases r1 with
 | cons r rr=>
  cases rr with
  | cons r' rr=>
   cases rr
   obtain ⟨t,rfl⟩:=r
   obtain ⟨t',rfl⟩:=r'
   exact call_range_2 (Zmn I1 q1 q2 q3 q4 q)
def tFor (wi:TI) (g:TG) (tb:TS):TS:=fun D σ H=>wi σ H fun J H1=>∃ W:Nat→Nat→St→Hp→Prop,(∃ m,W 0 m σ H1)∧∀ i m σ H,W i m σ H→
 (J.stop i H∧D.nx σ H)∨(J.go i H∧∃ N:St→Hp→Prop,(∀ σ' H',N σ' H'→∃ m',m' < m∧W (i + 1) m' σ' H')∧∀ x H',J.yld i H x H'→g x σ H' fun σ2 H2=>tb { D with nx:=N,ct:=N,bk:=D.nx } σ2 H2)
def pinsAt (fp:List Addr) (h:Heap):List (Addr×Obj):=fp.filterMap fun b=>(h.get? b).map fun o=>(b,o)
theorem Zfp {fp:List Addr} {h:Heap} {b:Addr} {o:Obj} (hb:b∈fp) (e:h.get? b=some o):(b,o)∈pinsAt fp h:=List.mem_filterMap.mpr ⟨b,hb,by rw [e];rfl⟩
theorem Znm {fp:List Addr} {h:Heap} {p:Addr×Obj} (hp:p∈pinsAt fp h):p.1∈fp∧h.get? p.1=some p.2:=by
 obtain ⟨b,hb,e⟩:=List.mem_filterMap.mp hp
 cases q:h.get? b with
 | none=>rw [q] at e;cases e
 | some o=>
  rw [q] at e
  have e':(b,o)=p:=Option.some.inj e
  subst e'
  exact ⟨hb,q⟩
theorem Inv.pinned {pins:List (Addr×Obj)} {σ:St} {H:Hp} {s:Shared} {fp:List Addr} (I:Inv X pins σ H s) (hf:∀ b∈fp,FpOk X pins H b) (ho:∀ b∈fp,∃ o,s.heap.get? b=some o∧∀ v,o.data≠.cell v):Inv X (pins++pinsAt fp s.heap) σ H s:=
 I.pins_of fun p hp=>(List.mem_append.mp hp).elim (fun z=>I.pin p (List.mem_append_right _ z)) fun z=>by
  obtain ⟨hb,e⟩:=Znm z
  obtain ⟨f0,f1,f2,_⟩:=hf p.1 hb
  obtain ⟨o,e',d⟩:=ho p.1 hb
  rw [e] at e';cases e'
  exact ⟨e,f0,f1,f2,d⟩
theorem Inv.unpinned {pins pl:List (Addr×Obj)} {σ:St} {H:Hp} {s:Shared} (I:Inv X (pins++pl) σ H s):Inv X pins σ H s:=I.pins_of fun p hp=>I.pin p (List.mem_append_right _ (List.mem_append_left _ hp))
theorem Zgj {iter:Expr} {body:List Stmt} {wi:TI} {g:TG} {tb:TS} {pos:Pos} (hp:PassesOwn (model X.prog X.w) X.A X.env X.xe) (hc:X.calm=true) (hi:PI X tg iter wi) (hg:PG X tg g) (hb:PSs X body tb)
  (hs:∀ x,foldedSetIterable iter X.env x=pure x:=by intro _;rfl):PS X (.For tg iter body [] pos) (tFor wi g tb):=by
 intro pins s σ H D I h
 refine wpAny_For (thn (hi pins s σ H _ I h) fun v s1 h1=>thn h1 fun itv s2 h2=>?_) hs
 obtain ⟨it,fp,tn,J,H2,e,I2,T,st2,f2,W,⟨m0,w0⟩,turn⟩:=h2
 subst e
 have stat:∀ {H':Hp},(∀ b∈fp,H' b=none)→∀ b∈fp,FpOk X pins H' b:=fun hn b hb=>⟨hn b hb,(f2 b hb).2⟩
 refine codeAny_forLoop_any (fun n s'=>∃ i σ' H',Inv X pins σ' H' s'∧tn i s'.heap∧(∀ b∈fp,H' b=none)∧W i n σ' H') ?_ m0 ⟨0,σ,H2,I2,st2,fun b hb=>(f2 b hb).1,w0⟩
 rintro n s3 ⟨i,σ3,H3,I3,st3,fr3,w3⟩
 rcases turn i n σ3 H3 w3 with ⟨stop,qn⟩ | ⟨go,N,hN,step⟩
 ·refine wpAny_passesOwn hp (thn (T.done X rfl rfl rfl hc i pins s3 σ3 H3 X.xe I3 (stat fr3) st3 stop) fun r s4 ⟨hr,I4⟩=>?_)
  subst hr
  exact wpAny_execs_nil ⟨σ3,H3,I4,qn⟩
 ·refine wpAny_passesOwn hp (thn (T.item X rfl rfl rfl hc i pins s3 σ3 H3 X.xe I3 (stat fr3) st3 go) fun r s4 ⟨u,hr,h4⟩=>?_)
  subst hr
  refine wpAny_passesOwn hp (thn h4 fun _ s5 ⟨x,H5,I5,r5,y5,st5,fr5⟩=>?_)
  have I5':=I5.pinned (stat fr5) (T.obj _ _ st5)
  refine wpAny_passesOwn hp (thn (hg _ s5 σ3 H5 x u _ I5' r5 (step x H5 y5)) fun _ s6 ⟨σ6,H6,I6,q6⟩=>?_)
  refine wpAny_passesOwn hp (thn (hb _ s6 σ6 H6 _ I6 q6) fun f s7 q7=>?_)
  have again:∀ {σ7:St} {H7:Hp},Inv X (pins++pinsAt fp s5.heap) σ7 H7 s7→N σ7 H7→∃ m,m < n∧∃ i σ' H',Inv X pins σ' H' s7∧tn i s7.heap∧(∀ b∈fp,H' b=none)∧W i m σ' H':=fun {σ7 H7} I7 n7=>by
   obtain ⟨m',hm,w7⟩:=hN σ7 H7 n7
   refine ⟨m',hm,i + 1,σ7,H7,I7.unpinned,T.keep _ _ _ st5 fun b hb o e=>(I7.pin (b,o) (List.mem_append_right _ (List.mem_append_right _ (Zfp hb e)))).1,fun b hb=>?_,w7⟩
   obtain ⟨o,e,d⟩:=T.obj _ _ st5 b hb
   exact (I7.pin (b,o) (List.mem_append_right _ (List.mem_append_right _ (Zfp hb e)))).2.1
  cases f with
  | next=>obtain ⟨σ7,H7,I7,n7⟩:=q7;exact again I7 n7
  | cont=>obtain ⟨σ7,H7,I7,n7⟩:=q7;exact again I7 n7
  | brk=>obtain ⟨σ7,H7,I7,q7⟩:=q7;exact ⟨σ7,H7,I7.unpinned,q7⟩
  | ret v=>obtain ⟨x7,σ7,H7,I7,r7,q7⟩:=q7;exact ⟨x7,σ7,H7,I7.unpinned,r7,q7⟩
end
end L2
namespace L2
open PySem PySem.Spec PyProof.Rows
abbrev R2:=V→V→Hp→VK→Prop
def OpR (X:Cx) (f:Value→Value→Sem Value) (r:R2):Prop:=
 ∀ (pins:List (Addr×Obj)) (s:Shared) (σ:St) (H:Hp) (x y:V) (v u:Value) (Q:VK),Inv X pins σ H s→RelV x v→RelV y u→r x y H Q→
  wpAny (model X.prog X.w) X.A (f v u) (EP X pins σ Q) X.xe s
def UnR (X:Cx) (f:Value→Sem Value) (r:V→Hp→VK→Prop):Prop:=
 ∀ (pins:List (Addr×Obj)) (s:Shared) (σ:St) (H:Hp) (x:V) (v:Value) (Q:VK),Inv X pins σ H s→RelV x v→r x H Q→
  wpAny (model X.prog X.w) X.A (f v) (EP X pins σ Q) X.xe s
def CallR (X:Cx) (f:Value) (r:List V→Hp→VK→Prop):Prop:=
 ∀ (pins:List (Addr×Obj)) (s:Shared) (σ:St) (H:Hp) (xs:List V) (us:List Value) (Q:VK),Inv X pins σ H s→Vals xs us→r xs H Q→
  wpAny (model X.prog X.w) X.A (call f us) (EP X pins σ Q) X.xe s
def TruR (X:Cx) (r:V→Hp→(Bool→Hp→Prop)→Prop):Prop:=
 ∀ (pins:List (Addr×Obj)) (s:Shared) (σ:St) (H:Hp) (x:V) (v:Value) (Q:Bool→Hp→Prop),Inv X pins σ H s→RelV x v→r x H Q→
  wpAny (model X.prog X.w) X.A (truthy v) (TP X pins σ Q) X.xe s
def tOp (r:R2) (ta tb:TE):TE:=fun σ H Q=>ta σ H fun x H1=>tb σ H1 fun y H2=>r x y H2 Q
def tUn (r:V→Hp→VK→Prop) (ta:TE):TE:=fun σ H Q=>ta σ H fun x H1=>r x H1 Q
def rI (C:Int→Int→Prop) (g:Int→Int→V):R2:=fun x y H Q=>∃ i j,x=.int i∧y=.int j∧C i j∧Q (g i j) H
def rI0 (g:Int→Int→V):R2:=fun x y H Q=>∃ i j,x=.int i∧y=.int j∧Q (g i j) H
def rU (g:Int→V):V→Hp→VK→Prop:=fun x H Q=>∃ i,x=.int i∧Q (g i) H
section
variable {X:Cx} {a b c:Expr} {ta tb tc:TE} {pos:Pos}
theorem binT (ha:PE X a ta) (hb:PE X b tb) {pins:List (Addr×Obj)} {s:Shared} {σ:St} {H:Hp} {R:V→V→Hp→Prop} (I:Inv X pins σ H s)
  (h:ta σ H fun x H1=>tb σ H1 fun y H2=>R x y H2) {Q:Value→Shared→Prop} {f:Value→Value→Sem Value}
  (hf:∀ v u s2 x y H2,Inv X pins σ H2 s2→RelV x v→RelV y u→R x y H2→wpAny (model X.prog X.w) X.A (f v u) Q X.xe s2) :
  wpAny (model X.prog X.w) X.A (eval a X.env) (fun v s₁=>wpAny (model X.prog X.w) X.A (eval b X.env) (fun u s₂=>wpAny (model X.prog X.w) X.A (f v u) Q X.xe s₂) X.xe s₁) X.xe s:=by
 refine thn (ha pins s σ H _ I h) fun v s1 ⟨x,H1,I1,r1,q1⟩=>?_
 refine thn (hb pins s1 σ H1 _ I1 q1) fun u s2 ⟨y,H2,I2,r2,q2⟩=>?_
 exact hf v u s2 x y H2 I2 r1 r2 q2
theorem Zat {op:Operator} {r:R2} (ho:OpR X (binaryOp op) r) (ha:PE X a ta) (hb:PE X b tb):PE X (.BinOp a op b pos) (tOp r ta tb):=by
 intro pins s σ H Q I h
 exact wpAny_BinOp (binT ha hb I h fun v u s2 x y H2 I2 rx ry q=>ho pins s2 σ H2 x y v u Q I2 rx ry q)
theorem Zi7 {op:UnaryOp} {r:V→Hp→VK→Prop} (ho:UnR X (unaryOp op) r) (ha:PE X a ta):PE X (.UnaryOp op a pos) (tUn r ta):=by
 intro pins s σ H Q I h
 exact UnaryOp_ (thn (ha pins s σ H _ I h) fun v s1 ⟨x,H1,I1,r1,q1⟩=>ho pins s1 σ H1 x v Q I1 r1 q1)
theorem opI {f:Value→Value→Sem Value} {C:Int→Int→Prop} {g:Int→Int→Int}
  (rule:∀ (i j:Int) (t u:Tok) (s:Shared) (Q:Value→Shared→Prop) (E:Value→Shared→Prop),C i j→Q (.int (g i j) s.toks) { s with toks:=s.toks + 1 }→wpAny (model X.prog X.w) X.A (f (.int i t) (.int j u)) Q E s) :
  OpR X f (rI C fun i j=>.int (g i j)):=by
 intro pins s σ H x y v u Q I rx ry h
 obtain ⟨i,j,rfl,rfl,hc,q⟩:=h
 obtain ⟨t,rfl⟩:=rx
 obtain ⟨t',rfl⟩:=ry
 exact rule i j t t' s _ _ hc ⟨.int (g i j),H,I.tok _,⟨_,rfl⟩,q⟩
theorem opI0 {f:Value→Value→Sem Value} {g:Int→Int→Int}
  (rule:∀ (i j:Int) (t u:Tok) (s:Shared) (Q:Value→Shared→Prop) (E:Value→Shared→Prop),Q (.int (g i j) s.toks) { s with toks:=s.toks + 1 }→wpAny (model X.prog X.w) X.A (f (.int i t) (.int j u)) Q E s) :
  OpR X f (rI0 fun i j=>.int (g i j)):=by
 intro pins s σ H x y v u Q I rx ry h
 obtain ⟨i,j,rfl,rfl,q⟩:=h
 obtain ⟨t,rfl⟩:=rx
 obtain ⟨t',rfl⟩:=ry
 exact rule i j t t' s _ _ ⟨.int (g i j),H,I.tok _,⟨_,rfl⟩,q⟩
theorem opB0 {f:Value→Value→Sem Value} {g:Int→Int→Bool}
  (rule:∀ (i j:Int) (t u:Tok) (s:Shared) (Q:Value→Shared→Prop) (E:Value→Shared→Prop),Q (.bool (g i j)) s→wpAny (model X.prog X.w) X.A (f (.int i t) (.int j u)) Q E s) :
  OpR X f (rI0 fun i j=>.bl (g i j)):=by
 intro pins s σ H x y v u Q I rx ry h
 obtain ⟨i,j,rfl,rfl,q⟩:=h
 obtain ⟨t,rfl⟩:=rx
 obtain ⟨t',rfl⟩:=ry
 exact rule i j t t' s _ _ ⟨.bl (g i j),H,I,rfl,q⟩
def CDiv (i j:Int):Prop:=0 < j∧j < 1073741824
def CPow (i j:Int):Prop:=0≤j∧j≤1000000∧i.natAbs < 2 ^ 64
def CMul (i j:Int):Prop:=(-(2 ^ 64) < i∧i < 2 ^ 64)∨(-(2 ^ 64) < j∧j < 2 ^ 64)
theorem CMul.ok {i j:Int} (h:CMul i j):IntMulOk i j:=by
 rcases h with ⟨h1,h2⟩ | ⟨h1,h2⟩
 ·exact .of_left (intBits_le_64 h1 h2)
 ·exact .of_right (intBits_le_64 h1 h2)
theorem Zbm:OpR X (binaryOp .Add) (rI0 fun i j=>.int (i + j)):=opI0 fun _ _ _ _ _ _ _ q=>add_int q
theorem Zdg:OpR X (binaryOp .Sub) (rI0 fun i j=>.int (i - j)):=opI0 fun _ _ _ _ _ _ _ q=>sub_int q
theorem Zk:OpR X (binaryOp .Mult) (rI CMul fun i j=>.int (i * j)):=opI fun _ _ _ _ _ _ _ hc q=>mul_int q hc.ok
theorem Zbk:OpR X (binaryOp .FloorDiv) (rI CDiv fun i j=>.int (i / j)):=opI fun i j _ _ _ _ _ hc q=>by
 have h1:(0:Int) < j:=hc.1
 have h2:j < 1073741824:=hc.2
 exact floordiv_int (by omega) (by rw [Int.fdiv_eq_ediv_of_nonneg i (by omega)];exact q) (.inl (PyProof.noPylong_small (by omega)))
theorem Zba:OpR X (binaryOp .Mod) (rI (fun _ j=>0 < j) fun i j=>.int (i % j)):=opI fun i j _ _ _ _ _ hc q=>by
 have h1:(0:Int) < j:=hc
 exact mod_int' (by omega) (by rw [Int.fmod_eq_emod_of_nonneg i (by omega)];exact q)
theorem Znz:OpR X (binaryOp .Pow) (rI CPow fun i j=>.int (i ^ j.toNat)):=opI fun _ _ _ _ _ _ _ hc q=>pow_int_small hc.1 hc.2.1 hc.2.2 q
theorem unI {f:Value→Sem Value} {g:Int→Int}
  (rule:∀ (i:Int) (t:Tok) (s:Shared) (Q:Value→Shared→Prop) (E:Value→Shared→Prop),Q (.int (g i) s.toks) { s with toks:=s.toks + 1 }→wpAny (model X.prog X.w) X.A (f (.int i t)) Q E s) :
  UnR X f (rU fun i=>.int (g i)):=by
 intro pins s σ H x v Q I rx h
 obtain ⟨i,rfl,q⟩:=h
 obtain ⟨t,rfl⟩:=rx
 exact rule i t s _ _ ⟨.int (g i),H,I.tok _,⟨_,rfl⟩,q⟩
theorem Zf0:UnR X (unaryOp .USub) (rU fun i=>.int (-i)):=unI fun _ _ _ _ _ q=>neg_int q
end
def scal:V→V→Bool
 | .non,.non=>true | .non,.int _=>true | .int _,.non=>true | .non,.bl _=>true | .bl _,.non=>true | .non,.str _=>true | .str _,.non=>true
 | .int _,.int _=>true | .bl _,.bl _=>true | .str _,.str _=>true | .byt _,.byt _=>true
 | .int _,.str _=>true | .str _,.int _=>true | .bl _,.str _=>true | .str _,.bl _=>true
 | _,_=>false
def rEq:R2:=fun x y H Q=>scal x y=true∧Q (.bl (decide (x=y))) H
def rNe:R2:=fun x y H Q=>scal x y=true∧Q (.bl (!decide (x=y))) H
theorem Zn8 {i j:Int}:decide (V.int i=V.int j)=(i == j):=by
 rw [Bool.eq_iff_iff]
 simp
theorem Zp7 {i j:Bool}:decide (V.bl i=V.bl j)=(i == j):=by
 rw [Bool.eq_iff_iff]
 simp
theorem Znl {i j:Str}:decide (V.str i=V.str j)=(i == j):=by
 rw [Bool.eq_iff_iff]
 simp
theorem Zoo {i j:Array UInt8}:decide (V.byt i=V.byt j)=(i.toList == j.toList):=by
 rw [Bool.eq_iff_iff]
 cases i
 cases j
 simp
section
variable {X:Cx} {a b c:Expr} {ta tb tc:TE} {pos:Pos}
theorem Zbu {pins:List (Addr×Obj)} {σ:St} {H:Hp} {s:Shared} {Q:VK} {k k':Bool} (I:Inv X pins σ H s) (q:Q (.bl k) H) (e:k=k'):EP X pins σ Q (.bool k') s:=by
 subst e
 exact ⟨.bl k,H,I,rfl,q⟩
theorem op_eq:OpR X (compareOp .Eq) rEq:=by
 intro pins s σ H x y v u Q I rx ry h
 obtain ⟨hs,q⟩:=h
 cases x with
 | non=>
  cases rx
  cases y with
  | non=>cases ry;exact PySem.EqNone.eq_none_none (Zbu I q (by simp))
  | bl j=>cases ry;exact PySem.EqNone.eq_none_bool (Zbu I q (by simp))
  | int j=>obtain ⟨t',rfl⟩:=ry;exact PySem.EqNone.eq_none_int (Zbu I q (by simp))
  | str j=>obtain ⟨t',rfl⟩:=ry;exact PySem.EqNone.eq_none_str (Zbu I q (by simp))
  | _=>exact absurd (show false=true from hs) Bool.false_ne_true
 | bl i=>
  cases rx
  cases y with
  | non=>cases ry;exact PySem.EqNone.eq_bool_none (Zbu I q (by simp))
  | bl j=>cases ry;exact eq_bool (Zbu I q Zp7)
  | str j=>obtain ⟨t',rfl⟩:=ry;exact PySem.EqMixed.eq_bool_str (Zbu I q (by simp))
  | _=>exact absurd (show false=true from hs) Bool.false_ne_true
 | int i=>
  obtain ⟨t,rfl⟩:=rx
  cases y with
  | non=>cases ry;exact PySem.EqNone.eq_int_none (Zbu I q (by simp))
  | int j=>obtain ⟨t',rfl⟩:=ry;exact eq_int (Zbu I q Zn8)
  | str j=>obtain ⟨t',rfl⟩:=ry;exact PySem.EqMixed.eq_int_str (Zbu I q (by simp))
  | _=>exact absurd (show false=true from hs) Bool.false_ne_true
 | str i=>
  obtain ⟨t,rfl⟩:=rx
  cases y with
  | non=>cases ry;exact PySem.EqNone.eq_str_none (Zbu I q (by simp))
  | bl j=>cases ry;exact PySem.EqMixed.eq_str_bool (Zbu I q (by simp))
  | int j=>obtain ⟨t',rfl⟩:=ry;exact PySem.EqMixed.eq_str_int (Zbu I q (by simp))
  | str j=>obtain ⟨t',rfl⟩:=ry;exact eq_str (Zbu I q Znl)
  | _=>exact absurd (show false=true from hs) Bool.false_ne_true
 | byt i=>
  obtain ⟨t,rfl⟩:=rx
  cases y with
  | byt j=>obtain ⟨t',rfl⟩:=ry;exact PySem.W.eq_bytes (Zbu I q Zoo)
  | _=>exact absurd (show false=true from hs) Bool.false_ne_true
 | _=>cases y<;>exact absurd (show false=true from hs) Bool.false_ne_true
theorem op_ne:OpR X (compareOp .NotEq) rNe:=by
 intro pins s σ H x y v u Q I rx ry h
 obtain ⟨hs,q⟩:=h
 cases x with
 | non=>
  cases rx
  cases y with
  | non=>cases ry;exact PySem.EqNone.ne_none_none (Zbu I q (by simp))
  | bl j=>cases ry;exact PySem.EqNone.ne_none_bool (Zbu I q (by simp))
  | int j=>obtain ⟨t',rfl⟩:=ry;exact PySem.EqNone.ne_none_int (Zbu I q (by simp))
  | str j=>obtain ⟨t',rfl⟩:=ry;exact PySem.EqNone.ne_none_str (Zbu I q (by simp))
  | _=>exact absurd (show false=true from hs) Bool.false_ne_true
 | bl i=>
  cases rx
  cases y with
  | non=>cases ry;exact PySem.EqNone.ne_bool_none (Zbu I q (by simp))
  | bl j=>cases ry;exact ne_bool (Zbu I q (congrArg not Zp7))
  | str j=>obtain ⟨t',rfl⟩:=ry;exact PySem.EqMixed.ne_bool_str (Zbu I q (by simp))
  | _=>exact absurd (show false=true from hs) Bool.false_ne_true
 | int i=>
  obtain ⟨t,rfl⟩:=rx
  cases y with
  | non=>cases ry;exact PySem.EqNone.ne_int_none (Zbu I q (by simp))
  | int j=>obtain ⟨t',rfl⟩:=ry;exact ne_int (Zbu I q (congrArg not Zn8))
  | str j=>obtain ⟨t',rfl⟩:=ry;exact PySem.EqMixed.ne_int_str (Zbu I q (by simp))
  | _=>exact absurd (show false=true from hs) Bool.false_ne_true
 | str i=>
  obtain ⟨t,rfl⟩:=rx
  cases y with
  | non=>cases ry;exact PySem.EqNone.ne_str_none (Zbu I q (by simp))
  | bl j=>cases ry;exact PySem.EqMixed.ne_str_bool (Zbu I q (by simp))
  | int j=>obtain ⟨t',rfl⟩:=ry;exact PySem.EqMixed.ne_str_int (Zbu I q (by simp))
  | str j=>obtain ⟨t',rfl⟩:=ry;exact ne_str (Zbu I q (congrArg not Znl))
  | _=>exact absurd (show false=true from hs) Bool.false_ne_true
 | byt i=>
  obtain ⟨t,rfl⟩:=rx
  cases y with
  | byt j=>obtain ⟨t',rfl⟩:=ry;exact PySem.W.ne_bytes (Zbu I q (congrArg not Zoo))
  | _=>exact absurd (show false=true from hs) Bool.false_ne_true
 | _=>cases y<;>exact absurd (show false=true from hs) Bool.false_ne_true
theorem Zgp:OpR X (compareOp .Lt) (rI0 fun i j=>.bl (decide (i < j))):=opB0 fun _ _ _ _ _ _ _ q=>lt_int q
theorem Zi5:OpR X (compareOp .Gt) (rI0 fun i j=>.bl (decide (j < i))):=opB0 fun _ _ _ _ _ _ _ q=>gt_int q
theorem Zm2:OpR X (compareOp .GtE) (rI0 fun i j=>.bl (decide (j≤i))):=opB0 fun _ _ _ _ _ _ _ q=>ge_int q
theorem OpR.or {f:Value→Value→Sem Value} {r r':R2} (h:OpR X f r) (h':OpR X f r'):OpR X f (fun x y H Q=>r x y H Q∨r' x y H Q):=by
 intro pins s σ H x y v u Q I rx ry q
 rcases q with q | q
 ·exact h pins s σ H x y v u Q I rx ry q
 ·exact h' pins s σ H x y v u Q I rx ry q
theorem nomark (b:Expr) {op:CmpOp} (h:op≠.In:=by decide) (h2:op≠.NotIn:=by decide):behindInMarks op b=false:=by
 have e1:(op == CmpOp.In)=false:=by cases op<;>first | rfl | exact absurd rfl h
 have e2:(op == CmpOp.NotIn)=false:=by cases op<;>first | rfl | exact absurd rfl h2
 cases b<;>simp [behindInMarks,e1,e2]
theorem Zf9 {op:CmpOp} {r:R2} (ho:OpR X (compareOp op) r) (ha:PE X a ta) (hb:PE X b tb) (hm:behindInMarks op b=false):PE X (.Compare a [op] [b] pos) (tOp r ta tb):=by
 intro pins s σ H Q I h
 exact wpAny_Compare1 (binT ha hb I h fun v u s2 x y H2 I2 rx ry q=>ho pins s2 σ H2 x y v u Q I2 rx ry q) hm
def tTest (t:TE):TT:=fun σ H Q=>t σ H fun x H'=>∃ k,x=.bl k∧Q k H'
theorem Zal {op:CmpOp} {r:R2} (ho:OpR X (compareOp op) r) (ha:PE X a ta) (hb:PE X b tb) (hm:behindInMarks op b=false):PT X (.Compare a [op] [b] pos) (tTest (tOp r ta tb)):=by
 intro pins s σ H Q I h
 refine wpAny_isTrue_Compare1 (thn (ha pins s σ H _ I h) fun v s1 ⟨x,H1,I1,r1,q1⟩=>thn (hb pins s1 σ H1 _ I1 q1) fun u s2 ⟨y,H2,I2,r2,q2⟩=>
  thn (ho pins s2 σ H2 x y v u _ I2 r1 r2 q2) fun c s3 ⟨z,H3,I3,r3,k,e,q3⟩=>?_) hm
 subst e
 cases r3
 exact wpAny_truthy_bool ⟨H3,I3,q3⟩
def TruV (K:PySem.W.Frag) (x:V) (H:Hp) (k:Bool):Prop:=
 match x with
 | .non=>k=false
 | .bl b=>k=b
 | .int i=>k=(i != 0)
 | .str y=>y.length≤sizeLine∧k=((y.length:Int) != 0)
 | .byt y=>y.size≤sizeLine∧k=((y.size:Int) != 0)
 | .ref p=>(∃ xs,SqL K H p xs∧k=!xs.isEmpty)∨(∃ xs,SqT K H p xs∧k=!xs.isEmpty)∨∃ kvs,H p=some (.dK kvs)∧k=!kvs.isEmpty
 | _=>False
theorem Znb {κ:Type} {kvs:List (κ×V)} {vs:List (κ×Value)} (r:KV kvs vs):(!vs.isEmpty)=!kvs.isEmpty:=by
 cases r<;>rfl
theorem Zjh {xs:List V} {its:List Value} (r:Vals xs its):(!its.toArray.isEmpty)=!xs.isEmpty:=by
 cases r<;>simp
theorem line63:(sizeLine:Nat) < 2 ^ 63:=by rw [sizeLine_eq];decide
theorem Zr0:TruR X (fun x H Q=>∃ k,TruV X.K x H k∧Q k H):=by
 intro pins s σ H x v Q I rx h
 obtain ⟨k,e,q⟩:=h
 have hl:=line63
 have hs:sizeLine=16777216:=sizeLine_eq
 cases x with
 | non=>
  cases rx
  have e':k=false:=e
  subst e'
  exact truthy_none ⟨H,I,q⟩
 | bl b=>
  cases rx
  have e':k=b:=e
  subst e'
  exact wpAny_truthy_bool ⟨H,I,q⟩
 | int i=>
  obtain ⟨t,rfl⟩:=rx
  have e':k=(i != 0):=e
  subst e'
  exact PySem.P.truthy_int ⟨H,I,q⟩
 | str y=>
  obtain ⟨t,rfl⟩:=rx
  obtain ⟨hy,e'⟩:y.length≤sizeLine∧k=((y.length:Int) != 0):=e
  subst e'
  exact PySem.P.truthy_str (by omega) ⟨H,I.tok _,q⟩
 | byt y=>
  obtain ⟨t,rfl⟩:=rx
  obtain ⟨hy,e'⟩:y.size≤sizeLine∧k=((y.size:Int) != 0):=e
  subst e'
  exact PySem.W.truthy_bytes (by omega) ⟨H,I.tok _,q⟩
 | ref p=>
  cases rx
  have e':(∃ xs,SqL X.K H p xs∧k=!xs.isEmpty)∨(∃ xs,SqT X.K H p xs∧k=!xs.isEmpty)∨∃ kvs,H p=some (.dK kvs)∧k=!kvs.isEmpty:=e
  rcases e' with ⟨xs,hx,e'⟩ | ⟨xs,hx,e'⟩ | ⟨kvs,hx,e'⟩
  ·subst e'
   obtain ⟨its,r,pl,hz⟩:=I.list hx
   have hlen:=r.length
   exact wpAny_truthy_list pl.isList (by simp only [List.size_toArray];omega) ⟨H,I.tok _,by rw [Zjh r];exact q⟩
  ·subst e'
   obtain ⟨its,r,pl,hz⟩:=I.tuple hx
   have hlen:=r.length
   exact truthy_tuple pl (by simp only [List.size_toArray];omega) ⟨H,I.tok _,by rw [Zjh r];exact q⟩
  ·subst e'
   obtain ⟨hz,hS,vs,r,m⟩:kvs.length≤sizeLine∧(p == sysModules)=false∧∃ vs,KV kvs vs∧s.heap.DictOf (mixKind X.prog X.w) p vs:=I.hok p _ hx
   have hlen:kvs.length=vs.length:=Paired.length r
   exact wpAny_truthy_dict hS m (by omega) ⟨H,I.tok _,by rw [Znb r];exact q⟩
 | _=>exact (show False from e).elim
theorem Zpj (ha:PE X a ta) (he:∀ whole,isTrue a X.env whole=(do let v ← whole;standAt a.pos;holding [v] (truthy v))) :
  PT X a (fun σ H Q=>ta σ H fun x H'=>∃ k,TruV X.K x H' k∧Q k H'):=by
 intro pins s σ H Q I h
 exact isTrue_plain (thn (ha pins s σ H _ I h) fun v s1 ⟨x,H1,I1,r1,q1⟩=>Zr0 pins s1 σ H1 x v Q I1 r1 q1) (he _)
theorem vals1 {x:V} {us:List Value} (r:Vals [x] us):∃ u,us=[u]∧RelV x u:=by
 cases r with
 | cons r1 r2=>cases r2;exact ⟨_,rfl,r1⟩
theorem vals2 {x y:V} {us:List Value} (r:Vals [x,y] us):∃ u w',us=[u,w']∧RelV x u∧RelV y w':=by
 cases r with
 | cons r1 r2=>
  cases r2 with
  | cons r3 r4=>cases r4;exact ⟨_,_,rfl,r1,r3⟩
theorem Zkq (hc:X.calm=true):CallR X (.builtin "max") (fun xs H Q=>∃ i j,xs=[.int i,.int j]∧Q (.int (if j > i then j else i)) H):=by
 intro pins s σ H xs us Q I r h
 obtain ⟨i,j,rfl,q⟩:=h
 obtain ⟨u,w',rfl,⟨t,rfl⟩,⟨t',rfl⟩⟩:=vals2 r
 refine max_two_ints (I.ok.hd hc) fun h' tk k=>⟨_,H,I.kept k,?_,q⟩
 by_cases hj:j > i
 ·rw [if_pos hj,if_pos hj];exact ⟨_,rfl⟩
 ·rw [if_neg hj,if_neg hj];exact ⟨_,rfl⟩
theorem Zoz:CallR X (.type "int") (fun xs H Q=>(∃ i,xs=[.int i]∧Q (.int i) H)∨∃ k,xs=[.bl k]∧Q (.int (if k then 1 else 0)) H):=by
 intro pins s σ H xs us Q I r h
 rcases h with ⟨i,rfl,q⟩ | ⟨k,rfl,q⟩
 ·obtain ⟨u,rfl,t,rfl⟩:=vals1 r
  exact call_int_int ⟨.int i,H,I,⟨_,rfl⟩,q⟩
 ·obtain ⟨u,rfl,r1⟩:=vals1 r
  cases r1
  exact call_int_bool ⟨.int (if k then 1 else 0),H,I.tok _,⟨_,rfl⟩,q⟩
def LenV (K:PySem.W.Frag) (x:V) (H:Hp) (n:Nat):Prop:=
 match x with
 | .str y=>y.length≤sizeLine∧n=y.length
 | .byt y=>y.size≤sizeLine∧n=y.size
 | .ref p=>(∃ xs,SqL K H p xs∧n=xs.length)∨∃ xs,SqT K H p xs∧n=xs.length
 | _=>False
theorem Zpa:CallR X (.builtin "len") (fun xs H Q=>∃ x n,xs=[x]∧LenV X.K x H n∧Q (.int n) H):=by
 intro pins s σ H xs us Q I r h
 obtain ⟨x,n,rfl,e,q⟩:=h
 obtain ⟨u,rfl,rx⟩:=vals1 r
 have hl:=line63
 have hs:sizeLine=16777216:=sizeLine_eq
 cases x with
 | str y=>
  obtain ⟨t,rfl⟩:=rx
  obtain ⟨hy,e'⟩:y.length≤sizeLine∧n=y.length:=e
  subst e'
  exact len_str (by omega) ⟨.int _,H,I.tok _,⟨_,rfl⟩,q⟩
 | byt y=>
  obtain ⟨t,rfl⟩:=rx
  obtain ⟨hy,e'⟩:y.size≤sizeLine∧n=y.size:=e
  subst e'
  exact PySem.W.len_bytes (by omega) ⟨.int _,H,I.tok _,⟨_,rfl⟩,q⟩
 | ref p=>
  cases rx
  have e':(∃ xs,SqL X.K H p xs∧n=xs.length)∨∃ xs,SqT X.K H p xs∧n=xs.length:=e
  rcases e' with ⟨xs,hx,e'⟩ | ⟨xs,hx,e'⟩
  ·subst e'
   obtain ⟨its,r',pl,hz⟩:=I.list hx
   have hlen:=r'.length
   exact Calls.call_len_list pl.isList (by simp only [List.size_toArray];omega) ⟨.int xs.length,H,I.tok _,⟨_,by simp only [List.size_toArray];rw [hlen]⟩,q⟩
  ·subst e'
   obtain ⟨its,r',pl,hz⟩:=I.tuple hx
   have hlen:=r'.length
   exact len_tuple pl (by simp only [List.size_toArray];omega) ⟨.int xs.length,H,I.tok _,⟨_,by simp only [List.size_toArray];rw [hlen]⟩,q⟩
 | _=>exact (show False from e).elim
end
end L2
namespace L2
open PySem PySem.Spec PyProof.Rows
structure ObjM (h:Heap) (x dx C:Addr) (mA:Str→Option Value):Prop where
 obj:h.get? x=some (PySem.W.instObj C dx)
 ns:h.Ns1 dx mA
 ne:dx≠x
theorem Znt {h:Heap} {dx:Addr} {mA:Str→Option Value} (n:h.Ns1 dx mA):∃ od,h.get? dx=some od∧∀ name,PySem.W.lookIn name od=some (mA name):=by
 obtain ⟨o,es,ep,ho,hd,hk,_,hm⟩:=n
 refine ⟨o,ho,fun name=>?_⟩
 have e:=hm name
 unfold nsFind findBy at e
 rw [← Array.find?_toList] at e
 unfold PySem.W.lookIn
 rw [hd]
 dsimp only
 split
 ·rename_i y q
  rw [q] at e
  exact congrArg some e
 ·rename_i q
  rw [q] at e
  have a:es.toList.any (·.refKey)=false:=by
   rw [List.any_eq_false]
   intro y hy
   obtain ⟨z,t,hkey⟩:=hk y (Array.mem_toList_iff.mp hy)
   simp [DictEntry.refKey,hkey]
  have a':¬ es.toList.any (·.refKey)=true:=by rw [a];exact Bool.false_ne_true
  rw [if_neg a']
  exact congrArg some e
theorem ObjM.look {h:Heap} {x dx C:Addr} {mA:Str→Option Value} (I:ObjM h x dx C mA):∃ od,PySem.W.InstAt h x (PySem.W.instObj C dx) C (some od)∧∀ name,PySem.W.lookIn name od=some (mA name):=
 let ⟨od,ho,hl⟩:=Znt I.ns
 ⟨od,⟨I.obj,rfl,rfl,ho⟩,hl⟩
section
variable {prog:Program} {w:World} {A:Around} {E:Value→Shared→Prop} {s:Shared} {K:PySem.W.Frag} {x dx C f:Addr} {mA:Str→Option Value} {name:Str} {v:Value}
theorem Zqn {expr:Bool} {Q:Value→Shared→Prop} (X:K.In s.heap) (I:ObjM s.heap x dx C mA) (hg:PySem.W.plainGet K C name=true) (hh:PySem.W.hasDictIn K C=true)
  (ha:PySem.W.findIn K (.ref C) name=some none) (hv:mA name=some v) (hv':PySem.W.handedIn v=true) (h:Q v { s with toks:=s.toks + 1 }) :
  wpAny (model prog w) A (getAttr (.ref x) name expr) Q E s:=by
 obtain ⟨od,J,hl⟩:=I.look
 exact PySem.W.get_value X J (PySem.W.plainGet_of hg).1 (PySem.W.findObj_own hh ha rfl (by rw [hl,hv])) hv' h
theorem Zps {pl:Sem Bool} {Q:Value×List Value→Shared→Prop} (X:K.In s.heap) (I:ObjM s.heap x dx C mA) (hg:PySem.W.plainGet K C name=true)
  (hf:PySem.W.findIn K (.ref C) name=some (some (.ref f))) (ht:PySem.W.isFn K (.ref f)=true) (hv:mA name=none) (h:Q (.ref f,[.ref x]) s) :
  wpAny (model prog w) A (getMethod (.ref x) name pl) Q E s:=by
 obtain ⟨od,J,hl⟩:=I.look
 exact PySem.W.method_fn X J (PySem.W.plainGet_of hg).1 (PySem.W.plainGet_of hg).2 hf (beq_iff_eq.mp ht) (by show (PySem.W.lookIn name od).map (·.isSome)=some false;rw [hl,hv];rfl) h
theorem Zq2 {ns:List Str} {Q:Unit→Shared→Prop} (X:K.In s.heap) (I:ObjM s.heap x dx C mA)
  (hs:PySem.W.findIn K (.ref C) "__setattr__" = some (some (.builtin "object.__setattr__"))) (hp:PySem.W.plainOver K C=true) (ht:PySem.W.takerIn K C name=some none) (hh:PySem.W.hasDictIn K C=true)
  (hw:PySem.Within mA ns) (hsz:ns.length≤sizeLine)
  (h:∀ h',ObjM h' x dx C (fun y=>if y=name then some v else mA y)→Heap.SameBut dx s.heap h'→Q () { s with heap:=h',toks:=s.toks + 2 }) :
  wpAny (model prog w) A (setAttr (.ref x) name v) Q E s:=by
 obtain ⟨od,J,hl⟩:=I.look
 refine PySem.W.set_plain X J hs (PySem.W.osa_open (s:={ s with toks:=s.toks + 1 }) (r:=none) X J hp ht fun b=>?_)
 obtain ⟨cd,hc,hd'⟩:=PySem.W.any_some hh
 have hx:s.heap.get? x=some ⟨.ref C,some dx,.plain,#[]⟩:=I.obj
 refine wpAny_bind (wpAny_pure (wpAny_bind (wpAny_bind (wpAny_loadPart hx (wpAny_bind (PySem.W.Looks.here (s:={ s with toks:=s.toks + 1 }) (PySem.W.looks_clsIn X hc) ?_))))))
 rw [hd']
 refine wpAny_pure (a:=some dx) (wpAny_bind (wpAny_pure (wpAny_bind ?_)))
 refine wpAny_nsSet1 (s:={ s with toks:=s.toks + 1 }) I.ns fun h' hn2 hs2=>?_
 obtain ⟨oD,esD,epD,hoD,hdD,hcD⟩:=hn2.count (PySem.Within.cons name v hw)
 refine wpAny_bind (wpAny_lookBehind hoD (by rw [hdD];exact pastItsLine_dict (Nat.le_trans hcD (by rw [List.length_cons];omega))) ?_)
 exact wpAny_pure (h _ ⟨(hs2.2 _ (Ne.symm I.ne)).trans I.obj,hn2,I.ne⟩ hs2)
theorem Zpi {R:Result→Shared→Prop} {vs:List Value} {kw:List (Str×Value)} (X:K.In s.heap) (hm:PySem.W.makesIn K C=true)
  (hi:PySem.W.findIn K (.ref C) "__init__" = some (some (.ref f))) (hf:PySem.W.typeIn K (.ref f)=some (.type "function"))
  (h:codeAny (model prog w) (A.under (.builtin "type.__call__" ⟨.ref C :: vs,kw⟩)) (.call (.ref f) ⟨.ref (s.heap.objs.size + 1) :: vs,kw⟩) (PySem.W.InitBack (s.heap.objs.size + 1) R)
   { s with heap:=(s.heap.push PySem.W.emptyDict).push (PySem.W.instObj C s.heap.objs.size) }) :
  codeAny (model prog w) A (.call (.ref C) ⟨vs,kw⟩) R s:=by
 obtain ⟨hh,g,d,t,os⟩:=s
 exact PySem.W.make_core (PySem.W.makes_of X hm) (PySem.W.looks_findIn X hi) (fun self=>PySem.W.bind_fn X self hf) (.inl rfl) h
end
def putF (f:Str) (v:V):List (Str×V)→List (Str×V)
 | []=>[(f,v)]
 | (g,x) :: r=>if g=f then (g,v) :: r else (g,x) :: putF f v r
theorem Zi (f g:Str) (v:V):∀ fs:List (Str×V),(putF f v fs).lookup g=if g=f then some v else fs.lookup g
 | []=>by
  show List.lookup g [(f,v)]=_
  by_cases h:g=f
  ·have hb:(g == f)=true:=beq_iff_eq.mpr h
   simp only [List.lookup,hb,if_pos h]
  ·have hb:(g == f)=false:=beq_eq_false_iff_ne.mpr h
   simp only [List.lookup,hb,if_neg h]
 | (k,x) :: r=>by
  have ih:=Zi f g v r
  rw [show putF f v ((k,x) :: r)=(if k=f then (k,v) :: r else (k,x) :: putF f v r) from rfl]
  by_cases hk:k=f
  ·rw [if_pos hk]
   by_cases h:g=k
   ·have hb:(g == k)=true:=beq_iff_eq.mpr h
    simp only [List.lookup,hb,if_pos (h.trans hk)]
   ·have hb:(g == k)=false:=beq_eq_false_iff_ne.mpr h
    simp only [List.lookup,hb,if_neg (fun e:g=f=>h (e.trans hk.symm))]
  ·rw [if_neg hk]
   by_cases h:g=k
   ·have hb:(g == k)=true:=beq_iff_eq.mpr h
    simp only [List.lookup,hb,if_neg (fun e:g=f=>hk (h.symm.trans e))]
   ·have hb:(g == k)=false:=beq_eq_false_iff_ne.mpr h
    simp only [List.lookup,hb]
    exact ih
theorem Zhw (f:Str) (v:V):∀ fs:List (Str×V),f∈(putF f v fs).map (·.1)∧∀ g,g∈fs.map (·.1)→g∈(putF f v fs).map (·.1)
 | []=>⟨by simp [putF],fun g h=>by simp at h⟩
 | (k,x) :: r=>by
  obtain ⟨i1,i2⟩:=Zhw f v r
  rw [show putF f v ((k,x) :: r)=(if k=f then (k,v) :: r else (k,x) :: putF f v r) from rfl]
  by_cases hk:k=f
  ·rw [if_pos hk]
   subst hk
   exact ⟨by simp,fun g h=>by simpa using h⟩
  ·rw [if_neg hk]
   refine ⟨?_,fun g h=>?_⟩
   ·rw [List.map_cons]
    exact List.mem_cons_of_mem _ i1
   ·rw [List.map_cons] at h ⊢
    rcases List.mem_cons.mp h with e | e
    ·exact List.mem_cons.mpr (.inl e)
    ·exact List.mem_cons_of_mem _ (i2 g e)
theorem Zhu (f:Str) (v:V):∀ fs:List (Str×V),(putF f v fs).length≤fs.length + 1
 | []=>by simp [putF]
 | (k,x) :: r=>by
  have ih:=Zhu f v r
  rw [show putF f v ((k,x) :: r)=(if k=f then (k,v) :: r else (k,x) :: putF f v r) from rfl]
  by_cases hk:k=f
  ·rw [if_pos hk,List.length_cons,List.length_cons];omega
  ·rw [if_neg hk,List.length_cons,List.length_cons];omega
theorem RelO.some_of {v:V} {o:Option Value} (r:RelO (some v) o):∃ u,o=some u∧RelV v u:=by
 cases o with
 | none=>exact (show False from r).elim
 | some u=>exact ⟨u,rfl,r⟩
theorem RelO.none_of {o:Option Value} (r:RelO none o):o=none:=by
 cases o with
 | none=>rfl
 | some u=>exact (show False from r).elim
theorem Zov {v:V} {u:Value} (r:RelV v u):PySem.W.handedIn u=true:=by
 cases v with
 | non=>cases (show u=Value.none from r);rfl
 | bl b=>cases (show u=Value.bool b from r);rfl
 | int i=>obtain ⟨t,e⟩:=(show ∃ t,u=Value.int i t from r);cases e;rfl
 | str x=>obtain ⟨t,e⟩:=(show ∃ t,u=Value.str x t from r);cases e;rfl
 | byt b=>obtain ⟨t,e⟩:=(show ∃ t,u=Value.bytes b t from r);cases e;rfl
 | flt b=>obtain ⟨t,e⟩:=(show ∃ t,u=Value.float b t from r);cases e;rfl
 | ref a=>cases (show u=Value.ref a from r);rfl
 | ty n=>cases (show u=Value.type n from r);rfl
section
variable {P:Program} {w:World} {H H':Hp} {h h':Heap} {a C dx:Addr} {fs fs':List (Str×V)}
theorem Zjw (hok:HOk P w H h) (e:H a=some (.ins C dx fs)):∃ mA,ObjM h a dx C mA∧(∀ f,RelO (fs.lookup f) (mA f))∧PySem.Within mA (fs.map (·.1))∧fs.length≤1000∧H dx=some (.own a):=by
 obtain ⟨d,z,ne,ob,mA,n,r,q⟩:=(show ObjOk P w H h a (.ins C dx fs) from hok a _ e)
 exact ⟨mA,⟨ob,n,ne⟩,r,q,z,d⟩
end
structure Cls (K:PySem.W.Frag) (C:Addr):Prop where
 pg:PySem.W.plainGet K C Str.empty=true
 hd:PySem.W.hasDictIn K C=true
 po:PySem.W.plainOver K C=true
 sa:PySem.W.findIn K (.ref C) "__setattr__" = some (some (.builtin "object.__setattr__"))
theorem Cls.get {K:PySem.W.Frag} {C:Addr} (c:Cls K C) (f:Str):PySem.W.plainGet K C f=true:=c.pg
def NoAttr (K:PySem.W.Frag) (C:Addr) (f:Str):Prop:=PySem.W.findIn K (.ref C) f=some none
theorem NoAttr.taker {K:PySem.W.Frag} {C:Addr} {f:Str} (n:NoAttr K C f):PySem.W.takerIn K C f=some none:=by
 unfold PySem.W.takerIn
 rw [show PySem.W.findIn K (.ref C) f=some none from n]
 rfl
structure Meth (K:PySem.W.Frag) (C:Addr) (m:Str) (f:Addr):Prop where
 at_:PySem.W.findIn K (.ref C) m=some (some (.ref f))
 fn:PySem.W.isFn K (.ref f)=true
 kp:PySem.W.keepIn K (.ref f)=true
section
variable {X:Cx} {pins:List (Addr×Obj)} {σ:St} {H:Hp} {s:Shared} {a C dx:Addr} {fs:List (Str×V)} {f:Str} {v:V} {A:Around} {E:Value→Shared→Prop}
theorem Zmz {b:Bool} {Q:Value→Shared→Prop} (I:Inv X pins σ H s) (e:H a=some (.ins C dx fs)) (c:Cls X.K C) (n:NoAttr X.K C f) (l:fs.lookup f=some v)
  (h:∀ u s',Inv X pins σ H s'→RelV v u→Q u s'):wpAny (model X.prog X.w) A (getAttr (.ref a) f b) Q E s:=by
 obtain ⟨mA,O,r,_,_,_⟩:=Zjw I.hok e
 obtain ⟨u,hu,ru⟩:=RelO.some_of (v:=v) (o:=mA f) (by rw [← l];exact r f)
 exact Zqn I.kIn O (c.get f) c.hd n hu (Zov ru) (h u _ (I.tok _) ru)
theorem Zfv {m:Str} {g:Addr} {pl:Sem Bool} {Q:Value×List Value→Shared→Prop} (I:Inv X pins σ H s) (e:H a=some (.ins C dx fs)) (c:Cls X.K C) (k:Meth X.K C m g) (l:fs.lookup m=none)
  (h:Q (.ref g,[.ref a]) s):wpAny (model X.prog X.w) A (getMethod (.ref a) m pl) Q E s:=by
 obtain ⟨mA,O,r,_,_,_⟩:=Zjw I.hok e
 have hn:mA m=none:=RelO.none_of (by rw [← l];exact r m)
 exact Zps I.kIn O (c.get m) k.at_ k.fn hn h
theorem Zn {y:V} {u:Value} {Q:Unit→Shared→Prop} (I:Inv X pins σ H s) (e:H a=some (.ins C dx fs)) (c:Cls X.K C) (n:NoAttr X.K C f) (hl:fs.length < 1000) (ry:RelV y u)
  (h:∀ s',Inv X pins σ (upd H a (.ins C dx (putF f y fs))) s'→Q () s'):wpAny (model X.prog X.w) A (setAttr (.ref a) f u) Q E s:=by
 obtain ⟨mA,O,r,wi,_,ho⟩:=Zjw I.hok e
 have hz:(fs.map (·.1)).length≤sizeLine:=by rw [List.length_map,sizeLine_eq];omega
 refine Zq2 I.kIn O c.sa c.po n.taker c.hd wi hz fun h' O' sb=>h _ ?_
 have hd:∃ o,h'.get? dx=some o:=let ⟨o,_,_,e',_⟩:=O'.ns;⟨o,e'⟩
 refine I.write (x:=a) (e:=dx) (by rw [e];exact True.intro) (.inr ho) (fun b q hb z=>(sb.2 b hb).trans z) hd ?_
 refine ⟨by rw [Za7 O.ne];exact ho,?_,O.ne,O'.obj,_,O'.ns,fun g=>?_,fun g hg=>?_⟩
 ·have:=Zhu f y fs;omega
 ·show RelO ((putF f y fs).lookup g) (if g=f then some u else mA g)
  rw [Zi]
  by_cases q:g=f
  ·rw [if_pos q,if_pos q];exact ry
  ·rw [if_neg q,if_neg q];exact r g
 ·by_cases q:g=f
  ·rw [q];exact (Zhw f y fs).1
  ·refine (Zhw f y fs).2 g (wi g fun z=>hg ?_)
   show (if g=f then some u else mA g)=none
   rw [if_neg q];exact z
theorem Inv.made (I:Inv X pins σ H s):Inv X pins σ (upd (upd H s.heap.objs.size (.own (s.heap.objs.size + 1))) (s.heap.objs.size + 1) (.ins C s.heap.objs.size []))
  { s with heap:=(s.heap.push PySem.W.emptyDict).push (PySem.W.instObj C s.heap.objs.size) }:=by
 have e1:(s.heap.push PySem.W.emptyDict).get? s.heap.objs.size=some PySem.W.emptyDict:=Heap.get?_push_size s.heap rfl
 have e2:((s.heap.push PySem.W.emptyDict).push (PySem.W.instObj C s.heap.objs.size)).get? (s.heap.objs.size + 1)=some (PySem.W.instObj C s.heap.objs.size):=by
  have:=Heap.get?_push_size (s.heap.push PySem.W.emptyDict) (o:=PySem.W.instObj C s.heap.objs.size) rfl
  rwa [Heap.size_push] at this
 have e3:(s.heap.push PySem.W.emptyDict).Ns s.heap.objs.size (fun _=>none):=⟨PySem.W.emptyDict,#[],_,e1,rfl,(fun e he=>absurd he (by simp)),fun _=>rfl⟩
 have I1:=I.laid (a:=s.heap.objs.size) (o:=.own (s.heap.objs.size + 1)) (h':=s.heap.push PySem.W.emptyDict) (t':=s.toks) (fun b u q=>Heap.get?_push_of_some _ q) (Nat.le_refl _) ⟨_,e1⟩
 refine I1.laid (a:=s.heap.objs.size + 1) (o:=.ins C s.heap.objs.size []) (t':=s.toks) (fun b u q=>Heap.get?_push_of_some _ q) (Nat.le_of_eq (Heap.size_push _ _)) ?_
 have ne:s.heap.objs.size≠s.heap.objs.size + 1:=Nat.ne_of_lt (Nat.lt_succ_self _)
 refine ⟨by rw [Za7 ne,Zbg],Nat.zero_le _,ne,e2,fun _=>none,(Heap.Ns1.of_empty e3).at fun o q=>Heap.get?_push_of_some _ q,fun _=>True.intro,fun y hy=>absurd rfl hy⟩
theorem Zqp {prog:Program} {w:World} {env:Env} {e:Expr} {f:Str} {pos:Pos} {s:Shared} {Q:Value→Shared→Prop} (hb:attributeBase e f env (eval e env)=eval e env)
  (h:wpAny (model prog w) A (eval e env) (fun o s₁=>wpAny (model prog w) A (getAttr o f true) Q E s₁) E s):wpAny (model prog w) A (eval (.Attribute e f pos) env) Q E s:=
 Attribute_any_ h (by rw [arm_eval_Attribute,hb])
end
def tFld (K:PySem.W.Frag) (ta:TE) (f:Str):TE:=fun σ H Q=>ta σ H fun x H1=>∃ a C dx fs v,x=.ref a∧H1 a=some (.ins C dx fs)∧Cls K C∧NoAttr K C f∧fs.lookup f=some v∧Q v H1
def sFld (K:PySem.W.Frag) (ta tv:TE) (f:Str):TS:=fun D σ H=>tv σ H fun y H1=>ta σ H1 fun x H2=>∃ a C dx fs,x=.ref a∧H2 a=some (.ins C dx fs)∧Cls K C∧NoAttr K C f∧fs.length < 1000∧
 D.nx σ (upd H2 a (.ins C dx (putF f y fs)))
section
variable {X:Cx} {o e value:Expr} {f:Str} {pos pos' tpos:Pos} {ta tv:TE}
theorem Zex (he:PE X e ta) (hb:attributeBase e f X.env (eval e X.env)=eval e X.env):PE X (.Attribute e f pos) (tFld X.K ta f):=by
 intro pins s σ H Q I h
 refine Zqp hb (thn (he pins s σ H _ I h) fun u s1 ⟨x,H1,I1,rx,a,C,dx,fs,v,ex,ea,c,n,l,q⟩=>?_)
 subst ex
 obtain rfl:u=Value.ref a:=rx
 exact Zmz I1 ea c n l fun u' s2 I2 ru=>⟨v,H1,I2,ru,q⟩
theorem Zno (ha:PE X o ta) (hv:PE X value tv) (hs:swapsWith value (some (.Attribute o f pos')) pos.line X.env=pure false):PS X (.Assign [.Attribute o f pos'] value pos) (sFld X.K ta tv f):=by
 intro pins s σ H D I h
 refine plainObj_wpAny_Assign_Attribute (thn (hv pins s σ H _ I h) fun u s1 ⟨y,H1,I1,ry,q⟩=>thn (ha pins s1 σ H1 _ I1 q) fun ov s2 ⟨x,H2,I2,rx,a,C,dx,fs,ex,ea,c,n,l,q2⟩=>?_) hs
 subst ex
 obtain rfl:ov=Value.ref a:=rx
 exact Zn I2 ea c n l ry fun s3 I3=>⟨σ,_,I3,q2⟩
theorem Zqy {pl:Sem Bool} {m:Str} {apos:Pos} {args:List Expr} {pins:List (Addr×Obj)} {s:Shared} {σ:St} {H:Hp} {Q:Value→Shared→Prop} {te:TE} (he:PE X e te) (I:Inv X pins σ H s)
  (h:te σ H fun x H1=>∃ a C dx fs g,x=.ref a∧H1 a=some (.ins C dx fs)∧Cls X.K C∧Meth X.K C m g∧fs.lookup m=none∧
   ∀ s1,Inv X pins σ H1 s1→wpAny (model X.prog X.w) X.A (callWith pos (.ref g) [.ref a] (backTo pos (starEach args X.env)) (backToKw pos (keywordEach [] X.env))) Q X.xe s1)
  (ht:eval (.Call (.Attribute e m apos) args [] pos) X.env=(do
   let ov ← eval e X.env
   standAt apos.atName
   let (f,first) ← holding [ov] (getMethod ov m pl)
   callWith pos f first (backTo pos (starEach args X.env)) (backToKw pos (keywordEach [] X.env)))) :
  wpAny (model X.prog X.w) X.A (eval (.Call (.Attribute e m apos) args [] pos) X.env) Q X.xe s:=by
 refine PySem.W.methodCall_KW (pl:=pl) (thn (he pins s σ H _ I h) fun u s1 ⟨x,H1,I1,rx,a,C,dx,fs,g,ex,ea,c,k,l,q⟩=>?_) ht
 subst ex
 obtain rfl:u=Value.ref a:=rx
 exact Zfv I1 ea c k l (q s1 I1)
end
section
variable {X:Cx} {pins:List (Addr×Obj)} {σ:St} {H:Hp} {s:Shared} {A:Around} {E:Value→Shared→Prop} {Q:Value→Shared→Prop} {c:Value} {b:Bool}
inductive TyOf (K:PySem.W.Frag) (H:Hp):V→Value→Prop where
 | non:TyOf K H .non (.type "NoneType")
 | bl (x:Bool):TyOf K H (.bl x) (.type "bool")
 | int (i:Int):TyOf K H (.int i) (.type "int")
 | str (x:Str):TyOf K H (.str x) (.type "str")
 | flt (x:UInt64):TyOf K H (.flt x) (.type "float")
 | lst {a:Addr} {xs:List V} (e:H a=some (.lst xs)):TyOf K H (.ref a) (.type "list")
 | frz {a:Addr} {o:Obj} {xs:List V} (e:H a=some (.frz o (.lst xs))):TyOf K H (.ref a) (.type "list")
 | tup {a:Addr} {xs:List V} (e:H a=some (.tup xs)):TyOf K H (.ref a) (.type "tuple")
 | dK {a:Addr} {kvs:List (Key×V)} (e:H a=some (.dK kvs)):TyOf K H (.ref a) (.type "dict")
 | dT {a:Addr} {kvs:List (List Key×V)} (e:H a=some (.dT kvs)):TyOf K H (.ref a) (.type "dict")
 | ins {a C dx:Addr} {fs:List (Str×V)} (e:H a=some (.ins C dx fs)) (cl:Cls K C) (ha:PySem.W.findIn K (.ref C) "__class__" = some (some (.builtin "object.__class__")))
   (hn:PySem.W.specialIn K (.builtin "object.__class__") "__get__" = some (some (.builtin "getset_descriptor.__get__"))) (htk:PySem.W.takesIn K (.builtin "object.__class__")=some true)
   (hm:PySem.W.mroIn K C (.type "object")=some true):TyOf K H (.ref a) (.ref C)
theorem Zon {x:V} {u t:Value} (I:Inv X pins σ H s) (rx:RelV x u) (ty:TyOf X.K H x t) (e:PySem.W.kitOne X.K t c=some b) (h:∀ tk,Q (.bool b) { s with toks:=tk }) :
  wpAny (model X.prog X.w) A (call (.builtin "isinstance") [u,c]) Q E s:=by
 cases ty with
 | non=>cases (show u=Value.none from rx);exact PySem.W.kia_one PySem.W.kitx_none I.kIn True.intro e (fun z=>nomatch z) h
 | bl y=>cases (show u=Value.bool y from rx);exact PySem.W.kia_one PySem.W.kitx_bool I.kIn True.intro e (fun z=>nomatch z) h
 | int i=>obtain ⟨t,q⟩:=(show ∃ t,u=Value.int i t from rx);cases q;exact PySem.W.kia_one PySem.W.kitx_int I.kIn True.intro e (fun z=>nomatch z) h
 | str y=>obtain ⟨t,q⟩:=(show ∃ t,u=Value.str y t from rx);cases q;exact PySem.W.kia_one PySem.W.kitx_str I.kIn True.intro e (fun z=>nomatch z) h
 | flt y=>obtain ⟨t,q⟩:=(show ∃ t,u=Value.float y t from rx);cases q;exact PySem.W.kia_one PySem.W.kitx_float I.kIn True.intro e (fun z=>nomatch z) h
 | @lst a xs ea=>
  cases (show u=Value.ref a from rx)
  obtain ⟨_,_,n,_,h1⟩:=(show ObjOk X.prog X.w H s.heap a (.lst xs) from I.hok a _ ea)
  exact PySem.W.kia_one PySem.W.kitx_list I.kIn ⟨_,h1,rfl⟩ e (fun z=>nomatch z) h
 | @frz a ob xs ea=>
  cases (show u=Value.ref a from rx)
  obtain ⟨_,_,_,n,_,h1⟩:=(show ObjOk X.prog X.w H s.heap a (.frz ob (.lst xs)) from I.hok a _ ea)
  exact PySem.W.kia_one PySem.W.kitx_list I.kIn ⟨_,h1,rfl⟩ e (fun z=>nomatch z) h
 | @tup a xs ea=>
  cases (show u=Value.ref a from rx)
  obtain ⟨_,_,_,p⟩:=(show ObjOk X.prog X.w H s.heap a (.tup xs) from I.hok a _ ea)
  obtain ⟨o,h1,h2,_⟩:=p
  exact PySem.W.kia_one PySem.W.kitx_tuple I.kIn ⟨o,h1,h2⟩ e (fun z=>nomatch z) h
 | @dK a kvs ea=>
  cases (show u=Value.ref a from rx)
  obtain ⟨_,_,vs,_,p⟩:=(show ObjOk X.prog X.w H s.heap a (.dK kvs) from I.hok a _ ea)
  obtain ⟨o,es,ep,h1,h2,_⟩:=p
  exact PySem.W.kia_one PySem.W.kitx_dict I.kIn ⟨o,h1,h2.1⟩ e (fun z=>nomatch z) h
 | @dT a kvs ea=>
  cases (show u=Value.ref a from rx)
  obtain ⟨_,_,xs,_,o,es,ep,h1,h2,_⟩:=(show ObjOk X.prog X.w H s.heap a (.dT kvs) from I.hok a _ ea)
  exact PySem.W.kia_one PySem.W.kitx_dict I.kIn ⟨o,h1,h2.1⟩ e (fun z=>nomatch z) h
 | @ins a C dx fs ea cl ha hn htk hm=>
  cases (show u=Value.ref a from rx)
  obtain ⟨mA,O,_⟩:=Zjw I.hok ea
  obtain ⟨od,J,_⟩:=O.look
  exact PySem.W.kia_one (PySem.W.kitx_own (cl.get _) cl.hd ha hn htk hm) I.kIn J e (fun z=>nomatch z) h
end
end L2
namespace L2
open PySem PySem.Spec PyProof.Rows
structure Room (k:Nat) (A:Around):Prop where
 hd:A.handled=none
 dp:A.depth + 3 * k + 5 < recursionLimit
 un:A.units + 16 * k + 200 < cLine
theorem Room.mono {j k:Nat} {A:Around} (r:Room k A) (h:j≤k):Room j A:=⟨r.hd,by have:=r.dp;omega,by have:=r.un;omega⟩
theorem Room.deeper {k:Nat} {A:Around} (r:Room (k + 1) A) (env:Env):Room k (A.deeper env):=
 ⟨r.hd,by have:=r.dp;show A.depth + 1 + 3 * k + 5 < _;omega,by have:=r.un;show A.units + 3 + 16 * k + 200 < _;omega⟩
theorem Znf {A:Around} {C:Addr} {us:List Value} {kw:List (Str×Value)}:(A.under (.builtin "type.__call__" ⟨.ref C :: us,kw⟩)).depth=A.depth + 1:=by
 first | rfl | simp [Around.under,Code.weight,Code.isCreation,Code.isGuard,Code.isCaller,Code.frames,Code.isFrame,guardIds]
theorem Zm3 {A:Around} {C:Addr} {us:List Value} {kw:List (Str×Value)}:(A.under (.builtin "type.__call__" ⟨.ref C :: us,kw⟩)).units=A.units + 1:=by
 first | rfl | simp [Around.under,Code.cUnits,Code.frames,Code.isFrame]
theorem Room.make {k:Nat} {A:Around} (r:Room (k + 1) A) (C:Addr) (us:List Value) (kw:List (Str×Value)):Room k (A.under (.builtin "type.__call__" ⟨.ref C :: us,kw⟩)):=
 ⟨r.hd,by have:=r.dp;rw [Znf];omega,by have:=r.un;rw [Zm3];omega⟩
theorem Room.depth {k:Nat} {A:Around} (r:Room k A):A.depth < recursionLimit:=by have:=r.dp;omega
theorem Room.units {k:Nat} {A:Around} (r:Room k A):A.units + 64 < cLine:=by have:=r.un;omega
theorem Room.units0 {k:Nat} {A:Around} (r:Room k A):A.units < cLine:=by have:=r.un;omega
def tNil:TA:=fun _ H Q=>Q [] H
def tCons (ta:TE) (tr:TA):TA:=fun σ H Q=>ta σ H fun x H1=>tr σ H1 fun xs H2=>Q (x :: xs) H2
section
variable {X:Cx} {e:Expr} {es:List Expr} {te:TE} {t:TA} {pos:Pos}
theorem Zaf:PA X [] tNil:=fun _ _ _ _ H Q I h=>Calls.spliced_nil ⟨[],H,I,.nil,h⟩
theorem Za (ha:PE X e te) (hr:PA X es t) (hs:starEach (e :: es) X.env=(false,eval e X.env) :: starEach es X.env:=by rfl):PA X (e :: es) (tCons te t):=by
 intro pos pins s σ H Q I h
 rw [hs]
 show wpAny _ _ (spliced ((false,eval e X.env) :: backTo pos (starEach es X.env))) _ _ s
 refine Calls.spliced_cons (thn (ha pins s σ H _ I h) fun u s1 ⟨x,H1,I1,r1,q1⟩=>?_)
 exact thn (hr pos pins s1 σ H1 _ I1 q1) fun us s2 ⟨xs,H2,I2,r2,q2⟩=>⟨x :: xs,H2,I2,.cons r1 r2,q2⟩
def tTup (t:TA):TE:=fun σ H Q=>t σ H fun xs H1=>xs.length≤sizeLine∧∀ p,H1 p=none→Q (.ref p) (upd H1 p (.tup xs))
def tLst (t:TA):TE:=fun σ H Q=>t σ H fun xs H1=>xs.length≤sizeLine∧∀ p,H1 p=none→Q (.ref p) (upd H1 p (.lst xs))
theorem Zbh {x1} (h:PA X es t):PE X (.Tuple es x1 pos) (tTup t):=by
 intro pins s σ H Q I hq
 refine wpAny_Tuple_spliced (thn (h pos pins s σ H _ I hq) fun us s1 ⟨xs,H1,I1,r,z,q⟩=>⟨by rw [← r.length];exact z,?_⟩)
 have hf:H1 s1.heap.objs.size=none:=I1.hok.fresh (Nat.le_refl _)
 refine ⟨.ref s1.heap.objs.size,upd H1 s1.heap.objs.size (.tup xs),I1.laid (t':=s1.toks) (fun b u e=>Heap.get?_push_of_some _ e) (Nat.le_refl _) ?_,rfl,q _ hf⟩
 exact ⟨z,us,r,⟨_,Heap.get?_push_size _ rfl,rfl,_,rfl⟩⟩
theorem Za0 (h:PA X es t):PE X (.List es pos) (tLst t):=by
 intro pins s σ H Q I hq
 refine wpAny_List_spliced (thn (h pos pins s σ H _ I hq) fun us s1 ⟨xs,H1,I1,r,z,q⟩=>⟨by rw [← r.length];exact z,?_⟩)
 have hf:H1 s1.heap.objs.size=none:=I1.hok.fresh (Nat.le_refl _)
 refine ⟨.ref s1.heap.objs.size,upd H1 s1.heap.objs.size (.lst xs),I1.laid (t':=s1.toks) (fun b u e=>Heap.get?_push_of_some _ e) (Nat.le_refl _) ?_,rfl,q _ hf⟩
 exact ⟨z,us,0,r,Heap.get?_push_size _ rfl⟩
end
abbrev Sp:=List V→Hp→VK→XK→Prop
abbrev CXT:=List Env→Hp→Shared→XK→Value→Shared→Prop
structure Env0 (P:Program) (w:World) (K:PySem.W.Frag) (mg:Str→Option Value) (base:Heap) (A:Around) (outer:List Env) (s:Shared) (H:Hp):Prop where
 frames:A.frames=some outer
 mod:Mod K mg base
 bs:∀ b o,base.get? b=some o→s.heap.get? b=some o∧H b=none
 bsz:base.objs.size≤s.heap.objs.size
 funs:s.heap.FunFrames base outer
 frf:∀ b∈frs outer,H b=none
 hok:HOk P w H s.heap
 bare:AllBare s.gens
def CE (outer:List Env) (P:Program) (w:World) (H:Hp) (s:Shared) (Q:VK) (u:Value) (s':Shared):Prop:=
 ∃ v H',s'.os=s.os∧AllBare s'.gens∧Un (frs outer) [] H H' s.heap s'.heap∧HOk P w H' s'.heap∧RelV v u∧Q v H'
def CR (CX:CXT) (outer:List Env) (P:Program) (w:World) (H:Hp) (s:Shared) (Q:VK) (E:XK) (r:Result) (s':Shared):Prop:=
 match r with
 | .ok (.ret u)=>CE outer P w H s Q u s'
 | .ok _=>False
 | .error e=>CX outer H s E e s'
structure FnOk (P:Program) (w:World) (K:PySem.W.Frag) (mg:Str→Option Value) (base:Heap) (CX:CXT) (k:Nat) (f:Addr) (fd:FuncData) (ps:List Str) (sp:Sp):Prop where
 len:∀ vs H Q E,sp vs H Q E→vs.length=ps.length
 run:∀ (A:Around) (outer:List Env) (s:Shared) (H:Hp) (args:Args) (us:List Value) (vs:List V) (Q:VK) (E:XK),Room k A→Env0 P w K mg base A outer s H→BindsTo s fd args (ps.zip us)→Vals vs us→sp vs H Q E→
  codeAny (model P w) A (.call (.ref f) args) (CR CX outer P w H s Q E) s
theorem FnOk.imp {P:Program} {w:World} {K:PySem.W.Frag} {mg:Str→Option Value} {base:Heap} {CX:CXT} {k:Nat} {f:Addr} {fd:FuncData} {ps:List Str} {sp sp':Sp} (F:FnOk P w K mg base CX k f fd ps sp)
  (h:∀ vs H Q E,sp' vs H Q E→sp vs H Q E):FnOk P w K mg base CX k f fd ps sp':=
 ⟨fun vs H Q E q=>F.len vs H Q E (h _ _ _ _ q),fun A outer s H args us vs Q E hr he hb hv hs=>F.run A outer s H args us vs Q E hr he hb hv (h _ _ _ _ hs)⟩
theorem Env0.make {P:Program} {w:World} {K:PySem.W.Frag} {mg:Str→Option Value} {base:Heap} {A:Around} {outer:List Env} {s:Shared} {H:Hp} (e:Env0 P w K mg base A outer s H) (C:Addr) (us:List Value) (kw:List (Str×Value)) :
  Env0 P w K mg base (A.under (.builtin "type.__call__" ⟨.ref C :: us,kw⟩)) outer s H:=⟨by first | exact e.frames | (simpa [Around.under,Code.envs,Code.isFrame,pushEnvs] using e.frames),e.mod,e.bs,e.bsz,e.funs,e.frf,e.hok,e.bare⟩
section
variable {X:Cx} {pins:List (Addr×Obj)} {σ:St} {H:Hp} {s s':Shared}
theorem Inv.env0 (I:Inv X pins σ H s):Env0 X.prog X.w X.K X.mg X.base X.A X.stack s H:=
 ⟨I.ok.frames,I.ok.mod,I.bs,Nat.le_trans I.ok.bsz I.sz,I.stack,I.stkFree,I.hok,I.bare⟩
theorem Inv.after {Q:VK} {u:Value} (I:Inv X pins σ H s) (h:CE X.stack X.prog X.w H s Q u s'):EP X pins σ Q u s':=by
 obtain ⟨v,H',os,bare,un,hok,r,q⟩:=h
 obtain ⟨hh,g,d,t,os'⟩:=s'
 obtain rfl:os'=s.os:=os
 exact ⟨v,H',I.call (h':=hh) (g':=g) (d':=d) (t':=t) (ch:=[]) un hok bare (fun b z=>absurd z (by simp)),r,q⟩
end
def tCall (sp:Sp) (dvs:List V) (E:XK) (t:TA):TE:=fun σ H Q=>t σ H fun vs H1=>sp (vs++dvs) H1 Q E
def tMeth (C:Addr) (m:Str) (sp:Sp) (dvs:List V) (E:XK) (ta:TE) (t:TA):TE:=fun σ H Q=>ta σ H fun x H1=>∃ a dx fs,x=.ref a∧H1 a=some (.ins C dx fs)∧fs.lookup m=none∧
 t σ H1 fun vs H2=>sp (x :: (vs++dvs)) H2 Q E
def tMake (C:Addr) (sp:Sp) (dvs:List V) (E:XK) (t:TA):TE:=fun σ H Q=>t σ H fun vs H1=>∀ x dx,H1 x=none→H1 dx=none→dx≠x→
 sp (.ref x :: (vs++dvs)) (upd (upd H1 dx (.own x)) x (.ins C dx [])) (fun v H2=>v=.non∧Q (.ref x) H2) E
def Binds (K:PySem.W.Frag) (fd:FuncData) (ps:List Str) (ds:List Value):Prop:=
 ∀ (s:Shared) (us:List Value),K.In s.heap→(us++ds).length=ps.length→BindsTo s fd ⟨us,[]⟩ (ps.zip (us++ds))
theorem Binds.all {K:PySem.W.Frag} {fd:FuncData} {ps:List Str} (h:∀ us:List Value,us.length=ps.length→bindArgs fd ⟨us,[]⟩=pure (ps.zip us)):Binds K fd ps []:=fun s us _ hl=>by
 rw [List.append_nil] at hl ⊢
 exact .of_eq (h us hl)
def Passes (CX:CXT) (X:Cx) (E:XK):Prop:=∀ (pins:List (Addr×Obj)) (σ:St) (H:Hp) (s:Shared) (e:Value) (s':Shared),Inv X pins σ H s→CX X.stack H s E e s'→X.xe e s'
section
variable {X:Cx} {CX:CXT} {k:Nat} {f C:Addr} {fd:FuncData} {ps:List Str} {sp:Sp} {dvs:List V} {ds:List Value} {E:XK} {x m:Str} {p pos apos:Pos} {e o:Expr} {es:List Expr} {ta:TE} {t:TA}
theorem Zor {pins:List (Addr×Obj)} {σ:St} {H:Hp} {s:Shared} {Q:VK} {us:List Value} {vs:List V} (F:FnOk X.prog X.w X.K X.mg X.base CX k f fd ps sp) (hr:Room k X.A) (hb:Binds X.K fd ps ds) (hd:Vals dvs ds) (hx:Passes CX X E)
  (I:Inv X pins σ H s) (r:Vals vs us) (h:sp (vs++dvs) H Q E):wpAny (model X.prog X.w) X.A (call (.ref f) us) (EP X pins σ Q) X.xe s:=by
 have r2:Vals (vs++dvs) (us++ds):=r.append hd
 have hl:(us++ds).length=ps.length:=by rw [← r2.length];exact F.len _ _ _ _ h
 refine wpAny_call (codeAny_mono (F.run X.A X.stack s H ⟨us,[]⟩ (us++ds) (vs++dvs) Q E hr I.env0 (hb s us I.kIn hl) r2 h) fun r s' hq=>?_)
 cases r with
 | error e=>exact hx pins σ H s e s' I hq
 | ok fl=>
  cases fl with
  | ret u=>exact I.after hq
  | next=>exact False.elim hq
  | brk=>exact False.elim hq
  | cont=>exact False.elim hq
theorem Zq6 (F:FnOk X.prog X.w X.K X.mg X.base CX k f fd ps sp) (hr:Room k X.A) (hg:Gl X x) (hm:X.mg x=some (.ref f)) (hk:PySem.W.keepIn X.K (.ref f)=true) (hb:Binds X.K fd ps ds) (hd:Vals dvs ds) (hx:Passes CX X E)
  (ha:PA X (e :: es) t) (hdb:(x == ("__debug__" : Str))=false:=by decide) (he:starEach (e :: es) X.env=(false,eval e X.env) :: starEach es X.env:=by rfl) (hpl:(backTo pos (starEach es X.env)).any (·.1)=false:=by rfl) :
  PE X (.Call (.Name x p) (e :: es) [] pos) (tCall sp dvs E t):=by
 intro pins s σ H Q I h
 refine wpAny_Call_Name_kw (Zg0 I hg hm ?_ hdb)
 refine PySem.W.callWith_K (h₀:=X.base) I.ok.mod.kin hk (thn (ha pos pins s σ H _ I h) fun us s1 ⟨vs,H1,I1,r,q⟩=>⟨I1.kIn,?_⟩) he hpl
 exact Zor F hr hb hd hx I1 r q
theorem Zq0 {pl:Sem Bool} (he:PE X o ta) (c:Cls X.K C) (hm:Meth X.K C m f) (F:FnOk X.prog X.w X.K X.mg X.base CX k f fd ps sp) (hr:Room k X.A) (hb:Binds X.K fd ps ds) (hd:Vals dvs ds) (hx:Passes CX X E) (ha:PA X (e :: es) t)
  (hst:starEach (e :: es) X.env=(false,eval e X.env) :: starEach es X.env:=by rfl) (hpl:(backTo pos (starEach es X.env)).any (·.1)=false:=by rfl)
  (ht:eval (.Call (.Attribute o m apos) (e :: es) [] pos) X.env=(do
   let ov ← eval o X.env
   standAt apos.atName
   let (f,first) ← holding [ov] (getMethod ov m pl)
   callWith pos f first (backTo pos (starEach (e :: es) X.env)) (backToKw pos (keywordEach [] X.env))):=by rfl) :
  PE X (.Call (.Attribute o m apos) (e :: es) [] pos) (tMeth C m sp dvs E ta t):=by
 intro pins s σ H Q I h
 refine PySem.W.methodCall_KW (pl:=pl) (thn (he pins s σ H _ I h) fun u s1 ⟨x,H1,I1,rx,a,dx,fs,ex,ea,l,q⟩=>?_) ht
 subst ex
 obtain rfl:u=Value.ref a:=rx
 refine Zfv I1 ea c hm l ?_
 refine PySem.W.callWith_K (first:=[.ref a]) (h₀:=X.base) I.ok.mod.kin hm.kp (thn (ha pos pins s1 σ H1 _ I1 q) fun us s2 ⟨vs,H2,I2,r,q2⟩=>⟨I2.kIn,?_⟩) hst hpl
 exact Zor (us:=.ref a :: us) (vs:=.ref a :: vs) F hr hb hd hx I2 (.cons rfl r) q2
theorem Zpm {pl:Sem Bool} (he:PE X o ta) (c:Cls X.K C) (hm:Meth X.K C m f) (F:FnOk X.prog X.w X.K X.mg X.base CX k f fd ps sp) (hr:Room k X.A) (hb:Binds X.K fd ps ds) (hd:Vals dvs ds) (hx:Passes CX X E)
  (ht:eval (.Call (.Attribute o m apos) [] [] pos) X.env=(do
   let ov ← eval o X.env
   standAt apos.atName
   let (f,first) ← holding [ov] (getMethod ov m pl)
   callWith pos f first (backTo pos (starEach [] X.env)) (backToKw pos (keywordEach [] X.env))):=by rfl) :
  PE X (.Call (.Attribute o m apos) [] [] pos) (tMeth C m sp dvs E ta tNil):=by
 intro pins s σ H Q I h
 refine PySem.W.methodCall_KW (pl:=pl) (thn (he pins s σ H _ I h) fun u s1 ⟨x,H1,I1,rx,a,dx,fs,ex,ea,l,q⟩=>?_) ht
 subst ex
 obtain rfl:u=Value.ref a:=rx
 refine Zfv I1 ea c hm l ?_
 exact PySem.W.callWith_K0 (first:=[.ref a]) I1.kIn hm.kp (Zor (us:=[.ref a]) (vs:=[.ref a]) F hr hb hd hx I1 (.cons rfl .nil) q)
structure Mk (K:PySem.W.Frag) (C f:Addr):Prop where
 makes:PySem.W.makesIn K C=true
 init:PySem.W.findIn K (.ref C) "__init__" = some (some (.ref f))
 fn:PySem.W.isFn K (.ref f)=true
 kp:PySem.W.keepIn K (.ref C)=true
theorem Zpw {pins:List (Addr×Obj)} {σ:St} {H:Hp} {s:Shared} {Q:VK} {us:List Value} {vs:List V} (M:Mk X.K C f) (F:FnOk X.prog X.w X.K X.mg X.base CX k f fd ps sp) (hr:Room (k + 1) X.A) (hb:Binds X.K fd ps ds) (hd:Vals dvs ds)
  (hx:Passes CX X E) (I:Inv X pins σ H s) (r:Vals vs us)
  (h:∀ x dx,H x=none→H dx=none→dx≠x→sp (.ref x :: (vs++dvs)) (upd (upd H dx (.own x)) x (.ins C dx [])) (fun v H2=>v=.non∧Q (.ref x) H2) E) :
  wpAny (model X.prog X.w) X.A (call (.ref C) us) (EP X pins σ Q) X.xe s:=by
 have hq:=h (s.heap.objs.size + 1) s.heap.objs.size (I.hok.fresh (Nat.le_succ _)) (I.hok.fresh (Nat.le_refl _)) (Nat.ne_of_lt (Nat.lt_succ_self _))
 have I2:=Inv.made (C:=C) I
 have r2:Vals (V.ref (s.heap.objs.size + 1) :: (vs++dvs)) (Value.ref (s.heap.objs.size + 1) :: (us++ds)):=.cons rfl (r.append hd)
 have hl:(Value.ref (s.heap.objs.size + 1) :: us++ds).length=ps.length:=by
  have e:=r2.length
  rw [F.len _ _ _ _ hq] at e
  exact e.symm
 refine wpAny_call (Zpi (f:=f) I.kIn M.makes M.init (beq_iff_eq.mp M.fn) (codeAny_mono (F.run _ X.stack _ _ ⟨Value.ref (s.heap.objs.size + 1) :: us,[]⟩ (Value.ref (s.heap.objs.size + 1) :: (us++ds)) _ _ E (hr.make C us [])
  (I2.env0.make C us []) (hb _ (Value.ref (s.heap.objs.size + 1) :: us) I2.kIn hl) r2 hq) fun r s' hq'=>?_))
 cases r with
 | error e=>exact hx pins σ _ _ e s' I2 hq'
 | ok fl=>
  cases fl with
  | ret u=>
   obtain ⟨v,H',I3,rv,ev,q3⟩:=I2.after hq'
   subst ev
   exact ⟨rv,⟨V.ref (s.heap.objs.size + 1),H',I3,rfl,q3⟩⟩
  | next=>exact False.elim hq'
  | brk=>exact False.elim hq'
  | cont=>exact False.elim hq'
theorem Zqo (M:Mk X.K C f) (F:FnOk X.prog X.w X.K X.mg X.base CX k f fd ps sp) (hr:Room (k + 1) X.A) (hg:Gl X x) (hm:X.mg x=some (.ref C)) (hb:Binds X.K fd ps ds) (hd:Vals dvs ds) (hx:Passes CX X E)
  (ha:PA X (e :: es) t) (hdb:(x == ("__debug__" : Str))=false:=by decide) (he:starEach (e :: es) X.env=(false,eval e X.env) :: starEach es X.env:=by rfl) (hpl:(backTo pos (starEach es X.env)).any (·.1)=false:=by rfl) :
  PE X (.Call (.Name x p) (e :: es) [] pos) (tMake C sp dvs E t):=by
 intro pins s σ H Q I h
 refine wpAny_Call_Name_kw (Zg0 I hg hm ?_ hdb)
 refine PySem.W.callWith_K (h₀:=X.base) I.ok.mod.kin M.kp (thn (ha pos pins s σ H _ I h) fun us s1 ⟨vs,H1,I1,r,q⟩=>⟨I1.kIn,?_⟩) he hpl
 exact Zpw M F hr hb hd hx I1 r q
end
section
variable {X:Cx} {CX:CXT} {k:Nat} {f C:Addr} {fd:FuncData} {ps ks:List Str} {sp:Sp} {E:XK} {x m:Str} {p pos apos kpos:Pos} {e o:Expr} {es:List Expr} {kws:List Keyword} {te ta:TE} {t tk:TA} {nm:Option Str}
variable {g:List Value→List Value→List Value} {gV:List V→List V→List V}
end
structure FnScope (N P:List Str) (sc:Scope):Prop where
 kind:sc.kind=.function
 co:sc.isCoroutine=false
 gen:sc.isGenerator=false
 nd:N.Nodup
 pre:N.take P.length=P
 par:∀ x∈P,sc.names.lookup x=some .local∨sc.names.lookup x=some .cell
 nofree:∀ y∈sc.names,y.2≠.free
theorem Zj7 {kindOf:Str→Option NameKind} {x:Str}:∀ {binds:List (Str×Value)} {m:Str→Option Value},(∀ v,(x,v)∉binds)→bindL kindOf binds m x=m x
 | [],_,_=>rfl
 | (n,v) :: r,m,h=>by
  unfold bindL
  rw [Zj7 fun w hw=>h w (List.mem_cons_of_mem _ hw)]
  split
  ·have:x≠n:=by rintro rfl;exact h v List.mem_cons_self
   simp [this]
  ·rfl
theorem Zke {kindOf:Str→Option NameKind} {x:Str}:∀ {binds:List (Str×Value)} {m:Str→Option Value},(∀ v,(x,v)∉binds)→bindC kindOf binds m x=m x
 | [],_,_=>rfl
 | (n,v) :: r,m,h=>by
  unfold bindC
  rw [Zke fun w hw=>h w (List.mem_cons_of_mem _ hw)]
  split
  ·rfl
  ·have:x≠n:=by rintro rfl;exact h v List.mem_cons_self
   simp [this]
theorem Zkt {kindOf:Str→Option NameKind} {x:Str} {v:Value}:∀ {P:List Str} {vs:List Value} {i:Nat} {m:Str→Option Value},P.Nodup→P[i]?=some x→vs[i]?=some v→kindOf x=some .local→
  bindL kindOf (P.zip vs) m x=some v
 | [],_,_,_,_,h,_,_=>by simp at h
 | _ :: _,[],_,_,_,_,h,_=>by simp at h
 | p :: P,w :: vs,0,m,nd,h1,h2,hk=>by
  simp at h1 h2;subst h1;subst h2
  show bindL kindOf ((p,w) :: P.zip vs) m p=_
  unfold bindL
  rw [Zj7 fun v hv=>(List.nodup_cons.mp nd).1 (List.of_mem_zip hv).1,if_pos hk]
  simp
 | p :: P,w :: vs,i + 1,m,nd,h1,h2,hk=>by
  show bindL kindOf ((p,w) :: P.zip vs) m x=_
  unfold bindL
  exact Zkt (i:=i) (List.nodup_cons.mp nd).2 (by simpa using h1) (by simpa using h2) hk
theorem Zkh {kindOf:Str→Option NameKind} {x:Str} {v:Value}:∀ {P:List Str} {vs:List Value} {i:Nat} {m:Str→Option Value},P.Nodup→P[i]?=some x→vs[i]?=some v→kindOf x≠some .local→
  bindC kindOf (P.zip vs) m x=some v
 | [],_,_,_,_,h,_,_=>by simp at h
 | _ :: _,[],_,_,_,_,h,_=>by simp at h
 | p :: P,w :: vs,0,m,nd,h1,h2,hk=>by
  simp at h1 h2;subst h1;subst h2
  show bindC kindOf ((p,w) :: P.zip vs) m p=_
  unfold bindC
  rw [Zke fun v hv=>(List.nodup_cons.mp nd).1 (List.of_mem_zip hv).1,if_neg hk]
  simp
 | p :: P,w :: vs,i + 1,m,nd,h1,h2,hk=>by
  show bindC kindOf ((p,w) :: P.zip vs) m x=_
  unfold bindC
  exact Zkh (i:=i) (List.nodup_cons.mp nd).2 (by simpa using h1) (by simpa using h2) hk
def start (N:List Str) (vs:List V):St:=vs.map some++List.replicate (N.length - vs.length) none
def cxOf (CX:CXT) (P:Program) (w:World) (K:PySem.W.Frag) (mg:Str→Option Value) (base:Heap) (N:List Str) (qual:Str) (scope:Scope) (f:Addr) (cd:Value) (A:Around) (outer:List Env) (s:Shared) (H:Hp) (E:XK):Cx where
 prog:=P
 w:=w
 K:=K
 mg:=mg
 base:=base
 A:=A.deeper (envOfC qual scope s.heap.objs.size f cd)
 N:=N
 s₀:=s
 H₀:=H
 env:=envOfC qual scope s.heap.objs.size f cd
 outer:=outer
 stack:=envOfC qual scope s.heap.objs.size f cd :: outer
 ex:=[]
 calm:=true
 fn:=fun _=>true
 pn:=[]
 xe:=fun e s'=>wpAny (model P w) (A.deeper (envOfC qual scope s.heap.objs.size f cd)) (leaving (envOfC qual scope s.heap.objs.size f cd) e) (fun _ s''=>CX outer H s E e s'') (fun e' s''=>CX outer H s E e' s'') s'
theorem Zmq {sc:Scope} {n:Nat} {x:Str} (h:sc.names.lookup x=some .cell):∃ c,(cellsFrom n sc.names []).lookup x=some c:=by
 have q:=PySem.W.cellsFrom_some sc.names n [] (.inl h)
 exact Option.isSome_iff_exists.mp q
theorem Zn5 {CX:CXT} {P:Program} {w:World} {K:PySem.W.Frag} {mg:Str→Option Value} {base:Heap} {N ps:List Str} {qual:Str} {scope:Scope} {f:Addr} {cd:Value} {A:Around} {outer:List Env} {s s1:Shared} {H:Hp} {E:XK} {us:List Value} {vs:List V}
  (S:FnScope N ps scope) (hd:A.handled=none) (e0:Env0 P w K mg base A outer s H) (hl:vs.length=ps.length) (r:Vals vs us)
  (x:InCallC s s.heap.objs.size (bindL (envOfC qual scope s.heap.objs.size f cd).kindOf (ps.zip us) fun _=>none) (cellsFrom (s.heap.objs.size + 1) scope.names []) (bindC (envOfC qual scope s.heap.objs.size f cd).kindOf (ps.zip us) fun _=>none) s1) :
  Inv (cxOf CX P w K mg base N qual scope f cd A outer s H E) [] (start N vs) H s1:=by
 have hpl:ps.length≤N.length:=by have:=congrArg List.length S.pre;rw [List.length_take] at this;omega
 obtain ⟨h1,tk,rfl,hk⟩:=x.done
 have noA:∀ b:Addr,b∉(cxOf CX P w K mg base N qual scope f cd A outer s H E).ex:=fun b z=>absurd (show b∈([]:List Addr) from z) (by simp)
 refine ⟨⟨e0.mod,S.kind,rfl,rfl,Nat.le_refl _,fun y z c h1 h2=>?_,fun y hy=>?_,fun y c _ h=>?_,fun _=>hd,Around.frames_deeper e0.frames,.inr ⟨rfl,rfl⟩,fun b z=>absurd z (noA b),e0.bs,e0.bsz,fun b _ _=>noA b,fun b z=>absurd z (noA b),e0.funs,e0.frf⟩,
  rfl,e0.bare,Un.kept hk,⟨_,x.toInCall.ns,fun i y v h1 h2 h3=>?_⟩,fun y c h=>⟨_,x.cell y c h⟩,e0.hok.fresh (Nat.le_refl _),fun y c h=>?_,fun p hp=>absurd (show p∈([]:List (Addr×Obj)) from hp) (by simp),e0.hok.kept hk,?_⟩
 ·exact name_of_addr x.apart (PySem.mem_of_lookup h1) (PySem.mem_of_lookup h2)
 ·have hy:scope.names.lookup y=some .cell∨scope.names.lookup y=some .free:=hy
  rcases hy with hy | hy
  ·exact Zmq hy
  ·exact absurd rfl (S.nofree _ (PySem.mem_of_lookup hy))
 ·exact Nat.le_of_lt (x.above y c (PySem.mem_of_lookup h))
 ·have hi:i < vs.length:=by
   unfold start at h2
   by_cases hi:i < vs.length
   ·exact hi
   ·rw [List.getElem?_append_right (by simpa using hi)] at h2
    rw [List.getElem?_replicate] at h2
    split at h2<;>cases h2
  have ha:vs[i]?=some v:=by
   unfold start at h2
   rw [List.getElem?_append_left (by simpa using hi),List.getElem?_map] at h2
   cases e:vs[i]? with
   | none=>rw [e] at h2;cases h2
   | some a=>rw [e] at h2;cases h2;rfl
  obtain ⟨u,hu,rv⟩:=r.get ha
  have hp:ps[i]?=some y:=by
   rw [← S.pre,List.getElem?_take_of_lt (by omega)];exact h1
  have ndP:ps.Nodup:=by rw [← S.pre];exact S.nd.sublist (List.take_sublist _ _)
  refine ⟨u,rv,?_⟩
  rcases S.par y (List.mem_of_getElem? hp) with k | k
  ·exact .inl ⟨k,Zkt ndP hp hu k⟩
  ·obtain ⟨c,e⟩:=Zmq (n:=s.heap.objs.size + 1) k
   refine .inr ⟨.inl k,c,e,?_⟩
   have q:=x.cell y c e
   rw [Zkh ndP hp hu (by show scope.names.lookup y≠_;rw [k];decide)] at q
   exact q
 ·exact e0.hok.fresh (Nat.le_of_lt (x.above y c (PySem.mem_of_lookup h)))
 ·unfold start
  show _=N.length
  rw [List.length_append,List.length_map,List.length_replicate]
  omega
theorem Zq1 {CX:CXT} {P:Program} {w:World} {K:PySem.W.Frag} {mg:Str→Option Value} {base:Heap} {k:Nat} {f:Addr} {name qual:Str} {params:Arguments} {body:List Stmt} {scope:Scope} {dV kV doc pm cdv ct oc:Value} {an od:Option Addr}
  {osl:Array (Option Value)} {N ps:List Str} {sp:Sp} (lk:K.lookup f=some ⟨oc,od,.func (PySem.W.fnOf name qual params body scope dV kV doc pm an cdv ct),osl⟩) (hcd:PySem.W.codeIn K cdv qual=true) (S:FnScope N ps scope)
  (len:∀ vs H Q E,sp vs H Q E→vs.length=ps.length)
  (hbody:∀ (A:Around) (outer:List Env) (s:Shared) (H:Hp) (vs:List V) (Q:VK) (E:XK),Room k (A.deeper (envOfC qual scope s.heap.objs.size f cdv))→sp vs H Q E→
   ∃ t,PSs (cxOf CX P w K mg base N qual scope f cdv A outer s H E) body t∧t { nx:=fun _ H'=>Q .non H',rt:=Q } (start N vs) H) :
  FnOk P w K mg base CX (k + 1) f (PySem.W.fnOf name qual params body scope dV kV doc pm an cdv ct) ps sp:=by
 refine ⟨len,fun A outer s H args us vs Q E hr e0 hb r hsp=>?_⟩
 have hl:=len _ _ _ _ hsp
 have KX:K.In s.heap:=e0.mod.kin.keeps fun b o e=>(e0.bs b o e).1
 have lim:s.heap.NoLimit:=e0.mod.nolimit.keeps fun b o e=>(e0.bs b o e).1
 have hkind:∀ y∈ps.zip us,scope.names.lookup y.1=some .local∨(scope.names.lookup y.1=some .cell∧((cellsFrom (s.heap.objs.size + 1) scope.names []).lookup y.1).isSome=true):=fun ⟨n,v⟩ hy=>by
  rcases S.par n (List.of_mem_zip hy).1 with q | q
  ·exact .inl q
  ·exact .inr ⟨q,PySem.W.cellsFrom_some _ _ _ (.inl q)⟩
 refine codeAny_call_function hr.depth (KX _ _ lk) rfl S.co S.gen rfl (PySem.W.codeRec_of KX hcd) (hb _ _ _ _ ?_)
 refine wpAny_newFunctionEnv_cells S.kind hkind fun env he s1 x=>?_
 subst he
 refine ⟨lim.keeps x.toInCall.keep,codeAny_func ?_⟩
 obtain ⟨t,ht,hq⟩:=hbody A outer s H vs Q E (hr.deeper _) hsp
 have I:Inv (cxOf CX P w K mg base N qual scope f cdv A outer s H E) [] (start N vs) H s1:=Zn5 S hr.hd e0 hl r x
 refine wpAny_mono (ht [] s1 (start N vs) H _ I hq) (fun fl s' hs=>?_) fun e s' hs=>hs
 have fin:∀ {σ':St} {H':Hp} {v:V} {u:Value},Inv (cxOf CX P w K mg base N qual scope f cdv A outer s H E) [] σ' H' s'→RelV v u→Q v H'→CE outer P w H s Q u s':=
  fun {σ' H' v u} J rv q=>⟨v,H',J.os,J.bare,J.base,J.hok,rv,q⟩
 cases fl with
 | ret u=>
  obtain ⟨v,σ',H',J,rv,q⟩:=hs
  exact fin J rv q
 | next=>
  obtain ⟨σ',H',J,q⟩:=hs
  exact fin (v:=V.non) (u:=Value.none) J rfl q
 | brk=>
  obtain ⟨_,_,_,q⟩:=hs
  exact False.elim q
 | cont=>
  obtain ⟨_,_,_,q⟩:=hs
  exact False.elim q
end L2
namespace L2
open PySem PySem.Spec PyProof.Rows
section
variable {X:Cx} {x:Str} {p pos:Pos} {e:Expr} {es:List Expr} {t:TA} {id T:String} {r:List V→Hp→VK→Prop}
def tCB (r:List V→Hp→VK→Prop) (t:TA):TE:=fun σ H Q=>t σ H fun vs H1=>r vs H1 Q
theorem Zan (hc:CallR X (.builtin id) r) (hg:Gl X x) (hm:X.mg x=none) (hv:bootBuiltins x=some (.builtin id)) (ha:PA X (e :: es) t) (hn:x≠"__name__":=by decide) (hdb:(x == ("__debug__" : Str))=false:=by decide)
  (he:starEach (e :: es) X.env=(false,eval e X.env) :: starEach es X.env:=by rfl) (hpl:(backTo pos (starEach es X.env)).any (·.1)=false:=by rfl):PE X (.Call (.Name x p) (e :: es) [] pos) (tCB r t):=by
 intro pins s σ H Q I h
 refine wpAny_Call_Name_kw (Zkx I hg hm hv ?_ hn hdb)
 exact PyProof.Rows.callWith_builtin1 (thn (ha pos pins s σ H _ I h) fun us s1 ⟨vs,H1,I1,r1,q1⟩=>hc pins s1 σ H1 vs us Q I1 r1 q1) he hpl
theorem Zeh (hc:CallR X (.type T) r) (hg:Gl X x) (hm:X.mg x=none) (hv:bootBuiltins x=some (.type T)) (ha:PA X (e :: es) t) (hn:x≠"__name__":=by decide) (hdb:(x == ("__debug__" : Str))=false:=by decide)
  (he:starEach (e :: es) X.env=(false,eval e X.env) :: starEach es X.env:=by rfl) (hpl:(backTo pos (starEach es X.env)).any (·.1)=false:=by rfl):PE X (.Call (.Name x p) (e :: es) [] pos) (tCB r t):=by
 intro pins s σ H Q I h
 refine wpAny_Call_Name_kw (Zkx I hg hm hv ?_ hn hdb)
 exact PyProof.Rows.callWith_type1 (thn (ha pos pins s σ H _ I h) fun us s1 ⟨vs,H1,I1,r1,q1⟩=>hc pins s1 σ H1 vs us Q I1 r1 q1) he hpl
end
end L2
namespace HT
open PySem PyProof.Rows
section
open PySem.SeqAt
open PySem.AutoSeq1 (wpAny_loadPart')
open PySem.MeetsSeq PySem.MeetsSeq2 PySem.MeetsSeq3
end
section
variable {prog:Program} {w:World} {A:Around} {E:Value→Shared→Prop} {s:Shared}
def sIx (n d:Nat):Option Int→Nat
 | none=>d
 | some v=>if v < 0 then (v + (n:Int)).toNat else min v.toNat n
theorem Zmb (n d:Nat):sIx n d none=d:=rfl
theorem Zjt (n d k:Nat):sIx n d (some (k:Int))=min k n:=by
 show (if (k:Int) < 0 then ((k:Int) + (n:Int)).toNat else min (k:Int).toNat n)=min k n
 rw [if_neg (by omega),Int.toNat_natCast]
end
end HT
namespace L2
open PySem PySem.Spec PyProof.Rows
abbrev TO:=St→Hp→(Option Int→Hp→Prop)→Prop
def PO (X:Cx) (e:Option Expr) (t:TO):Prop:=
 ∀ (pins:List (Addr×Obj)) (s:Shared) (σ:St) (H:Hp) (Q:Option Int→Hp→Prop),Inv X pins σ H s→t σ H Q→
  wpAny (model X.prog X.w) X.A (evalPart e X.env) (fun u s'=>∃ o H',Inv X pins σ H' s'∧IsPart u o∧Q o H') X.xe s
def tNoPart:TO:=fun _ H Q=>Q none H
def tPart (t:TE):TO:=fun σ H Q=>t σ H fun x H1=>∃ i,x=.int i∧Q (some i) H1
section
variable {X:Cx} {e:Expr} {te:TE} {lo hi:Option Expr} {tl th:TO} {pos p2:Pos}
theorem Zc4:PO X none tNoPart:=by
 intro pins s σ H Q I h
 rw [evalPart_none]
 exact wpAny_pure ⟨none,H,I,.none,h⟩
theorem Zco (h:PE X e te):PO X (some e) (tPart te):=by
 intro pins s σ H Q I hw
 rw [evalPart_some]
 refine thn (h pins s σ H _ I hw) fun u s1 ⟨x,H1,I1,r1,q1⟩=>?_
 obtain ⟨i,rfl,q⟩:=q1
 obtain ⟨t,rfl⟩:=r1
 exact ⟨some i,H1,I1,.int i t,q⟩
def SlR (X:Cx) (r:V→Option Int→Option Int→Hp→VK→Prop):Prop:=
 ∀ (pins:List (Addr×Obj)) (s:Shared) (σ:St) (H:Hp) (x:V) (v vl vu:Value) (lo hi:Option Int) (sl:Addr) (Q:VK),Inv X pins σ H s→RelV x v→s.heap.IsSliceOf sl vl vu .none→IsPart vl lo→IsPart vu hi→r x lo hi H Q→
  ∃ T id,typeLookup (.type T) "__getitem__" = pure (some (.builtin id))∧s.TypeIs v T∧wpAny (model X.prog X.w) X.A (getItem v (.ref sl)) (EP X pins σ Q) X.xe s
def tSl (r:V→Option Int→Option Int→Hp→VK→Prop) (te:TE) (tl th:TO):TE:=fun σ H Q=>te σ H fun x H1=>tl σ H1 fun l H2=>th σ H2 fun u H3=>r x l u H3 Q
theorem Zb9 {r:V→Option Int→Option Int→Hp→VK→Prop} (hr:SlR X r) (he:PE X e te) (hl:PO X lo tl) (hu:PO X hi th):PE X (.Subscript e (.Slice lo hi none p2) pos) (tSl r te tl th):=by
 intro pins s σ H Q I h
 refine Subscript_ (thn (he pins s σ H _ I h) fun v s1 ⟨x,H1,I1,r1,q1⟩=>?_)
 refine wpAny_Slice (thn (hl pins s1 σ H1 _ I1 q1) fun vl s2 ⟨l,H2,I2,pl,q2⟩=>thn (hu pins s2 σ H2 _ I2 q2) fun vu s3 ⟨u,H3,I3,pu,q3⟩=>?_)
 rw [evalPart_none]
 refine wpAny_pure ?_
 have I4:Inv X pins σ H3 { s3 with heap:=s3.heap.push { cls:=.type "slice",data:=.fields #[vl,vu,.none] } }:=I3.kept (t':=s3.toks) fun b ob q=>Heap.get?_push_of_some _ q
 obtain ⟨T,id,hT,ht,hg⟩:=hr pins { s3 with heap:=s3.heap.push { cls:=.type "slice",data:=.fields #[vl,vu,.none] } } σ H3 x v vl vu l u s3.heap.objs.size Q I4 r1 (Heap.IsSliceOf.new ..) pl pu q3
 show wpAny (model X.prog X.w) X.A (subscriptTail e (.Slice lo hi none p2) v (.ref s3.heap.objs.size)) (EP X pins σ Q) X.xe { s3 with heap:=s3.heap.push { cls:=.type "slice",data:=.fields #[vl,vu,.none] } }
 exact tail_any (ops:=[.ref s3.heap.objs.size,v]) ht hT hg (by with_unfolding_all rfl)
def cutV (xs:List V) (lo hi:Option Int):List V:=(xs.drop (HT.sIx xs.length 0 lo)).take (HT.sIx xs.length xs.length hi - HT.sIx xs.length 0 lo)
theorem Zlj (xs:List V) (lo hi:Option Int):(cutV xs lo hi).length≤xs.length:=by
 unfold cutV
 rw [List.length_take,List.length_drop]
 omega
end
end L2
namespace L2
open PySem PySem.Spec PyProof.Rows
def ixN (n:Nat) (i:Int):Option Nat:=if 0≤i then (if i < n then some i.toNat else none) else if -(n:Int)≤i then some (i + n).toNat else none
def atI {α:Type} (xs:List α) (i:Int):Option α:=(ixN xs.length i).bind fun j=>xs[j]?
theorem Zrd {n:Nat} {i:Int} {j:Nat} (h:ixN n i=some j):seqIndex? i n=some j∧j < n∧-(n:Int)≤i∧i < n:=by
 unfold ixN at h
 by_cases h0:0≤i
 ·rw [if_pos h0] at h
  by_cases h1:i < n
  ·rw [if_pos h1] at h
   have e:i.toNat=j:=Option.some.inj h
   exact ⟨by rw [seqIndex_of h0 h1,e],by omega,by omega,h1⟩
  ·rw [if_neg h1] at h;cases h
 ·rw [if_neg h0] at h
  by_cases h1:-(n:Int)≤i
  ·rw [if_pos h1] at h
   have e:(i + n).toNat=j:=Option.some.inj h
   exact ⟨by rw [seqIndex_neg (by omega) h1,e],by omega,h1,by omega⟩
  ·rw [if_neg h1] at h;cases h
theorem Zo {α:Type} {xs:List α} {i:Int} {v:α} (h:atI xs i=some v):∃ j,seqIndex? i xs.length=some j∧xs[j]?=some v∧j < xs.length∧-(xs.length:Int)≤i∧i < xs.length:=by
 unfold atI at h
 cases e:ixN xs.length i with
 | none=>rw [e] at h;cases h
 | some j=>
  rw [e] at h
  obtain ⟨h1,h2,h3,h4⟩:=Zrd e
  exact ⟨j,h1,h,h2,h3,h4⟩
theorem Zle {α:Type} {xs:List α} {j:Nat} {v:α} (h:xs[j]?=some v):atI xs (j:Int)=some v:=by
 have hj:j < xs.length:=(List.getElem?_eq_some_iff.mp h).1
 have e:ixN xs.length (j:Int)=some j:=by
  unfold ixN
  rw [if_pos (by omega),if_pos (by omega)];simp
 unfold atI;rw [e];exact h
def PlainIx (b:Expr):Prop:=∀ o i,subscripted b false o i=operate [o,i] (getItem o i)
def IxR (X:Cx) (r:R2):Prop:=
 ∀ (value slice:Expr) (pins:List (Addr×Obj)) (s:Shared) (σ:St) (H:Hp) (x y:V) (v u:Value) (Q:VK),Inv X pins σ H s→RelV x v→RelV y u→r x y H Q→
  subscripted slice false v u=operate [v,u] (getItem v u)→wpAny (model X.prog X.w) X.A (subscriptTail value slice v u) (EP X pins σ Q) X.xe s
def MtR (X:Cx) (id:String) (r:V→List V→Hp→VK→Prop):Prop:=
 ∀ (pins:List (Addr×Obj)) (s:Shared) (σ:St) (H:Hp) (x:V) (xs:List V) (v:Value) (us:List Value) (Q:VK),Inv X pins σ H s→RelV x v→Vals xs us→r x xs H Q→
  wpAny (model X.prog X.w) X.A (call (.builtin id) (v :: us)) (EP X pins σ Q) X.xe s
section
variable {X:Cx} {a b:Expr} {ta tb:TE} {pos:Pos}
theorem IxR.or {r r':R2} (h:IxR X r) (h':IxR X r'):IxR X (fun x y H Q=>r x y H Q∨r' x y H Q):=by
 intro value slice pins s σ H x y v u Q I rx ry q hs
 rcases q with q | q
 ·exact h value slice pins s σ H x y v u Q I rx ry q hs
 ·exact h' value slice pins s σ H x y v u Q I rx ry q hs
theorem Zao {r:R2} (hr:IxR X r) (ha:PE X a ta) (hb:PE X b tb) (hs:PlainIx b):PE X (.Subscript a b pos) (tOp r ta tb):=by
 intro pins s σ H Q I h
 exact Subscript_ (binT ha hb I h fun v u s2 x y H2 I2 rx ry q=>hr a b pins s2 σ H2 x y v u Q I2 rx ry q (hs _ _))
def rIxL (K:PySem.W.Frag):R2:=fun x y H Q=>∃ p xs i v,x=.ref p∧y=.int i∧SqL K H p xs∧atI xs i=some v∧Q v H
def rIxT (K:PySem.W.Frag):R2:=fun x y H Q=>∃ p xs i v,x=.ref p∧y=.int i∧SqT K H p xs∧atI xs i=some v∧Q v H
theorem ix_list:IxR X (rIxL X.K):=by
 intro value slice pins s σ H x y v u Q I rx ry h hs
 obtain ⟨p,xs,i,z,rfl,rfl,hq,he,q⟩:=h
 cases rx
 obtain ⟨t,rfl⟩:=ry
 obtain ⟨its,r,pl,hz⟩:=I.list hq
 obtain ⟨j,h1,h2,h3,h4,h5⟩:=Zo he
 obtain ⟨w,ew,rw'⟩:=r.get h2
 have hl:=r.length
 have hn:=line63
 have fin:EP X pins σ Q w s:=⟨z,H,I,rw',q⟩
 by_cases h0:0≤i
 ·have hj:i.toNat=j:=by
   rw [seqIndex_of h0 h5] at h1
   exact Option.some.inj h1
  exact item_listR pl.isList h0 (by omega) (by rw [hj];simpa using ew) fin hs
 ·have hj:(i + (its.toArray.size:Int)).toNat=j:=by
   rw [seqIndex_neg (by omega) h4] at h1
   rw [List.size_toArray,← hl]
   exact Option.some.inj h1
  exact subscriptTail_builtinR (x:=w) pl.isList.typeIs slot_list_getitem.lookup
   (wpAny_getItem_list_neg (Q:=fun r s'=>r=w∧EP X pins σ Q r s') pl.isList (by omega) (by rw [List.size_toArray]<;>omega) (by omega) (by rw [hj];simpa using ew) ⟨rfl,fin⟩) hs
theorem Zri:IxR X (rIxT X.K):=by
 intro value slice pins s σ H x y v u Q I rx ry h hs
 obtain ⟨p,xs,i,z,rfl,rfl,hq,he,q⟩:=h
 cases rx
 obtain ⟨t,rfl⟩:=ry
 obtain ⟨its,r,pl,hz⟩:=I.tuple hq
 obtain ⟨j,h1,h2,h3,h4,h5⟩:=Zo he
 obtain ⟨w,ew,rw'⟩:=r.get h2
 have hl:=r.length
 have hn:=line63
 have fin:EP X pins σ Q w s:=⟨z,H,I,rw',q⟩
 exact subscriptTail_builtinR (x:=w) pl.typeIs slot_tuple_getitem.lookup
  (getItem_tuple (j:=j) (Q:=fun r s'=>r=w∧EP X pins σ Q r s') pl (by omega) (by omega) (by rw [List.size_toArray,← hl];exact h1) (by simpa using ew) ⟨rfl,fin⟩) hs
theorem Inv.lst {pins:List (Addr×Obj)} {σ:St} {H:Hp} {s:Shared} {p:Addr} {xs:List V} (I:Inv X pins σ H s) (h:H p=some (.lst xs)) :
  ∃ (its:List Value) (n:Nat),Vals xs its∧s.heap.get? p=some { cls:=.type "list",data:=.seq its.toArray n }∧xs.length≤sizeLine:=by
 obtain ⟨z,its,n,r,e⟩:=I.hok p _ h
 exact ⟨its,n,r,e,z⟩
theorem Zkj (lo hi:Option Int) (n:Nat):(sliceBounds lo hi none n).1=((HT.sIx n 0 lo:Nat):Int)∧(sliceBounds lo hi none n).2.1=((HT.sIx n n hi:Nat):Int)∧(sliceBounds lo hi none n).2.2=1:=by
 refine ⟨?_,?_,rfl⟩
 ·cases lo with
  | none=>simp [sliceBounds,HT.sIx]
  | some i=>
   simp only [sliceBounds,HT.sIx,Option.getD_none,show (1:Int) > 0 by decide,if_true]
   by_cases h:i < 0
   ·simp only [h,if_true]<;>omega
   ·simp only [h,if_false]<;>omega
 ·cases hi with
  | none=>simp [sliceBounds,HT.sIx]
  | some i=>
   simp only [sliceBounds,HT.sIx,Option.getD_none,show (1:Int) > 0 by decide,if_true]
   by_cases h:i < 0
   ·simp only [h,if_true]<;>omega
   ·simp only [h,if_false]<;>omega
theorem Zji (its:List Value) (lo hi:Option Int):slicePick its.toArray lo hi none=((its.drop (HT.sIx its.length 0 lo)).take (HT.sIx its.length its.length hi - HT.sIx its.length 0 lo)).toArray:=by
 obtain ⟨h1,h2,h3⟩:=Zkj lo hi its.toArray.size
 unfold slicePick
 rw [h1,h2,h3]
 simp only [sliceRange_one,pick_run,List.size_toArray]<;>rfl
def rSlL (K:PySem.W.Frag):V→Option Int→Option Int→Hp→VK→Prop:=fun x lo hi H Q=>∃ a xs,x=.ref a∧SqL K H a xs∧∀ p,H p=none→Q (.ref p) (upd H p (.lst (cutV xs lo hi)))
theorem Zrb:SlR X (rSlL X.K):=by
 intro pins s σ H x v vl vu lo hi sl Q I rx hs pl pu h
 obtain ⟨a,xs,rfl,hx,q⟩:=h
 cases rx
 obtain ⟨its,r,ht,hz⟩:=I.list hx
 have hlen:=r.length
 refine ⟨"list",_,slot_list_getitem.lookup,ht.isList.typeIs,?_⟩
 refine wpAny_getItem_list_slice ht.isList hs pl pu .none (by simp) ?_ (by rw [List.size_toArray]<;>omega)
 rw [Zji,← hlen]
 refine ⟨.ref s.heap.objs.size,_,I.laid (t':=s.toks) (o:=.lst (cutV xs lo hi)) (fun b ob q=>Heap.get?_push_of_some _ q) (Nat.le_refl _) ?_,rfl,q _ (I.hok.fresh (Nat.le_refl _))⟩
 exact ⟨Nat.le_trans (Zlj xs lo hi) hz,_,0,(r.drop (HT.sIx xs.length 0 lo)).take (HT.sIx xs.length xs.length hi - HT.sIx xs.length 0 lo),Heap.get?_push_size _ rfl⟩
def flatV:V→Bool
 | .non=>true
 | .bl _=>true
 | .int _=>true
 | .str _=>true
 | _=>false
def eqV:V→V→Bool
 | .non,.non=>true
 | .bl a,.bl b=>a == b
 | .bl a,.int b=>(if a then 1 else 0) == b
 | .int a,.bl b=>a == (if b then 1 else 0)
 | .int a,.int b=>a == b
 | .str a,.str b=>a == b
 | _,_=>false
theorem Zp3 {A:Around} {s:Shared} {y x:V} {u v:Value} (ry:RelV y u) (rx:RelV x v) (fy:flatV y=true) (fx:flatV x=true):SeqAt.EqAt A s u v (eqV y x):=by
 cases y with
 | non=>
  cases ry
  cases x with
  | non=>cases rx;exact SeqAt.EqAt.same _
  | bl b=>cases rx;exact SeqAt.EqAt.none_bool b
  | int b=>obtain ⟨t,rfl⟩:=rx;exact SeqAt.EqAt.none_int b t
  | str b=>obtain ⟨t,rfl⟩:=rx;exact SeqAt.EqAt.none_str b t
  | _=>exact absurd (show false=true from fx) Bool.false_ne_true
 | bl a=>
  cases ry
  cases x with
  | non=>cases rx;exact SeqAt.EqAt.bool_none a
  | bl b=>cases rx;exact SeqAt.EqAt.bool_bool a b
  | int b=>obtain ⟨t,rfl⟩:=rx;exact SeqAt.EqAt.bool_int a b t
  | str b=>obtain ⟨t,rfl⟩:=rx;exact SeqAt.EqAt.bool_str a b t
  | _=>exact absurd (show false=true from fx) Bool.false_ne_true
 | int a=>
  obtain ⟨t',rfl⟩:=ry
  cases x with
  | non=>cases rx;exact SeqAt.EqAt.int_none a t'
  | bl b=>cases rx;exact SeqAt.EqAt.int_bool a t' b
  | int b=>obtain ⟨t,rfl⟩:=rx;exact SeqAt.EqAt.int_int a t' b t
  | str b=>obtain ⟨t,rfl⟩:=rx;exact SeqAt.EqAt.int_str a t' b t
  | _=>exact absurd (show false=true from fx) Bool.false_ne_true
 | str a=>
  obtain ⟨t',rfl⟩:=ry
  cases x with
  | non=>cases rx;exact SeqAt.EqAt.str_none a t'
  | bl b=>cases rx;exact SeqAt.EqAt.str_bool a t' b
  | int b=>obtain ⟨t,rfl⟩:=rx;exact SeqAt.EqAt.str_int a t' b t
  | str b=>obtain ⟨t,rfl⟩:=rx;exact SeqAt.EqAt.str_str a t' b t
  | _=>exact absurd (show false=true from fx) Bool.false_ne_true
 | _=>exact absurd (show false=true from fy) Bool.false_ne_true
def eqU (x:V) (u:Value):Bool:=match u with
 | .none=>eqV .non x
 | .bool b=>eqV (.bl b) x
 | .int i _=>eqV (.int i) x
 | .str z _=>eqV (.str z) x
 | _=>false
theorem Zp2 {x y:V} {u:Value} (r:RelV y u) (f:flatV y=true):eqU x u=eqV y x:=by
 cases y with
 | non=>cases r;rfl
 | bl b=>cases r;rfl
 | int i=>obtain ⟨t,rfl⟩:=r;rfl
 | str z=>obtain ⟨t,rfl⟩:=r;rfl
 | _=>exact absurd (show false=true from f) Bool.false_ne_true
theorem Zh3 {x:V}:∀ {xs:List V} {us:List Value},Vals xs us→xs.all flatV=true→us.any (eqU x)=xs.any fun y=>eqV y x
 | _,_,.nil,_=>rfl
 | y :: xs,u :: us,.cons r t,f=>by
  rw [List.all_cons,Bool.and_eq_true] at f
  rw [List.any_cons,List.any_cons,Zp2 r f.1,Zh3 t f.2]
theorem Zgq {A:Around} {s:Shared} {x:V} {v:Value} (rx:RelV x v) (fx:flatV x=true):∀ {xs:List V} {us:List Value},Vals xs us→xs.all flatV=true→∀ u∈us,SeqAt.EqAt A s u v (eqU x u)
 | _,_,.nil,_=>fun u hu=>by cases hu
 | y :: xs,u :: us,.cons r t,f=>fun u' hu=>by
  rw [List.all_cons,Bool.and_eq_true] at f
  rcases List.mem_cons.mp hu with rfl | hu
  ·rw [Zp2 r f.1];exact Zp3 r rx f.1 fx
  ·exact Zgq rx fx t f.2 u' hu
def inV (x:V) (xs:List V):Bool:=xs.any fun y=>eqV y x
def rIn (K:PySem.W.Frag) (neg:Bool):R2:=fun x y H Q=>∃ p xs,y=.ref p∧(SqL K H p xs∨SqT K H p xs)∧flatV x=true∧xs.all flatV=true∧Q (.bl (if neg then !inV x xs else inV x xs)) H
theorem Zo8:OpR X (compareOp .In) (rIn X.K false):=by
 intro pins s σ H x y v u Q I rx ry h
 obtain ⟨p,xs,rfl,hq,fx,fs,q⟩:=h
 cases ry
 rcases hq with hq | hq
 ·obtain ⟨its,r,pl,hz⟩:=I.list hq
  refine SeqAt.in_listAt (eqU x) pl.isList (fun w hw=>Zgq rx fx r fs w (by simpa using hw)) ⟨.bl _,H,I,rfl,?_⟩
  rw [show its.toArray.any (eqU x)=its.any (eqU x) by simp,Zh3 r fs]
  exact q
 ·obtain ⟨its,r,pl,hz⟩:=I.tuple hq
  refine SeqAt.in_tupleAt (eqU x) pl (fun w hw=>Zgq rx fx r fs w (by simpa using hw)) ⟨.bl _,H,I,rfl,?_⟩
  rw [show its.toArray.any (eqU x)=its.any (eqU x) by simp,Zh3 r fs]
  exact q
theorem Zj6:OpR X (compareOp .NotIn) (rIn X.K true):=by
 intro pins s σ H x y v u Q I rx ry h
 obtain ⟨p,xs,rfl,hq,fx,fs,q⟩:=h
 cases ry
 rcases hq with hq | hq
 ·obtain ⟨its,r,pl,hz⟩:=I.list hq
  refine SeqAt.notIn_listAt (eqU x) pl.isList (fun w hw=>Zgq rx fx r fs w (by simpa using hw)) ⟨.bl _,H,I,rfl,?_⟩
  rw [show its.toArray.any (eqU x)=its.any (eqU x) by simp,Zh3 r fs]
  exact q
 ·obtain ⟨its,r,pl,hz⟩:=I.tuple hq
  refine SeqAt.notIn_tupleAt (eqU x) pl (fun w hw=>Zgq rx fx r fs w (by simpa using hw)) ⟨.bl _,H,I,rfl,?_⟩
  rw [show its.toArray.any (eqU x)=its.any (eqU x) by simp,Zh3 r fs]
  exact q
theorem Zku:CallR X (.type "list") (fun xs H Q=>∃ p ys,xs=[.ref p]∧(SqL X.K H p ys∨SqT X.K H p ys)∧∀ l,H l=none→Q (.ref l) (upd H l (.lst ys))):=by
 intro pins s σ H xs us Q I r h
 obtain ⟨p,ys,rfl,hq,q⟩:=h
 obtain ⟨u,rfl,rx⟩:=vals1 r
 cases rx
 have fin:∀ (its:List Value),Vals ys its→ys.length≤sizeLine→∀ (h':Heap) (c':Nat),(∀ b o',s.heap.get? b=some o'→h'.get? b=some o')→
   h'.get? s.heap.objs.size=some { cls:=.type "list",dict:=none,data:=.seq its.toArray c',slots:=#[] }→EP X pins σ Q (.ref s.heap.objs.size) { s with heap:=h' }:=fun its r' hz h' c' kp e=>
  ⟨.ref s.heap.objs.size,_,I.laid (t':=s.toks) kp (Nat.le_refl _) (show ObjOk X.prog X.w _ h' _ (.lst ys) from ⟨hz,its,c',r',e⟩),rfl,q _ (I.hok.fresh (Nat.le_refl _))⟩
 rcases hq with hq | hq
 ·obtain ⟨its,r',pl,hz⟩:=I.list hq
  have hlen:=r'.length
  obtain ⟨o,ho,hc,n,hd⟩:=pl.isList
  exact call_list_seq p (.inl rfl) ho hc hd (fun h' c' kp e=>fin its r' hz h' c' kp e) (by simp only [List.size_toArray]<;>omega)
 ·obtain ⟨its,r',pl,hz⟩:=I.tuple hq
  have hlen:=r'.length
  obtain ⟨o,ho,hc,n,hd⟩:=pl
  exact call_list_seq p (.inr rfl) ho hc hd (fun h' c' kp e=>fin its r' hz h' c' kp e) (by simp only [List.size_toArray]<;>omega)
def tyV (K:PySem.W.Frag) (T:String) (x:V) (H:Hp):Prop:=match x with
 | .str _=>T = "str"
 | .int _=>T = "int"
 | .ref p=>(T = "list"∧∃ xs,SqL K H p xs)∨(T = "tuple"∧∃ o,K.lookup p=some o∧o.cls=.type "tuple"∧o.dict=none)∨
   (T = "dict"∧((∃ kvs,H p=some (.dK kvs))∨∃ kvs,H p=some (.dT kvs)))∨(T = "set"∧∃ S n,H p=some (.set S n))
 | _=>False
theorem Zp5 {pins:List (Addr×Obj)} {σ:St} {H:Hp} {s:Shared} {T:String} {x:V} {v:Value} (I:Inv X pins σ H s) (r:RelV x v) (ty:tyV X.K T x H) :
  s.TypeIs v T∧∀ a,v=.ref a→∃ ob,s.heap.get? a=some ob∧ob.dict=none:=by
 cases x with
 | str z=>
  obtain ⟨t,rfl⟩:=r
  cases (show T = "str" from ty)
  exact ⟨typeIs_str s z t,fun _ e=>nomatch e⟩
 | int i=>
  obtain ⟨t,rfl⟩:=r
  cases (show T = "int" from ty)
  exact ⟨typeIs_int s i t,fun _ e=>nomatch e⟩
 | ref p=>
  cases r
  rcases ty with ⟨rfl,xs,hq⟩ | ⟨rfl,o,hk,hc,hd⟩ | ⟨rfl,hk⟩ | ⟨rfl,S,n,hk⟩
  ·obtain ⟨its,_,pl,_⟩:=I.list hq
   refine ⟨pl.isList.typeIs,fun a e=>?_⟩
   cases e
   obtain ⟨o,n,e,c,hd,_⟩:=pl
   exact ⟨o,e,hd⟩
  ·refine ⟨⟨o,I.kIn p o hk,hc⟩,fun a e=>?_⟩
   cases e
   exact ⟨o,I.kIn _ o hk,hd⟩
  ·have z:∃ o,s.heap.get? p=some o∧o.ExactDict:=by
    rcases hk with ⟨kvs,hk⟩ | ⟨kvs,hk⟩
    ·obtain ⟨_,_,_,_,o,_,_,e,ex,_⟩:=I.hok p _ hk
     exact ⟨o,e,ex⟩
    ·obtain ⟨_,_,_,_,o,_,_,e,ex,_⟩:=I.hok p _ hk
     exact ⟨o,e,ex⟩
   obtain ⟨o,e,ex⟩:=z
   refine ⟨⟨o,e,ex.1⟩,fun a e2=>?_⟩
   cases e2
   exact ⟨o,e,ex.2.1⟩
  ·obtain ⟨o,_,_,_,e,ex,_⟩:=I.hok p _ hk
   refine ⟨⟨o,e,ex.1⟩,fun a e2=>?_⟩
   cases e2
   exact ⟨o,e,ex.2.1⟩
 | _=>exact False.elim ty
def tBM0 (K:PySem.W.Frag) (T:String) (r:V→List V→Hp→VK→Prop) (to:TE):TE:=fun σ H Q=>to σ H fun x H1=>tyV K T x H1∧r x [] H1 Q
def tBM (K:PySem.W.Frag) (T:String) (r:V→List V→Hp→VK→Prop) (to:TE) (t:TA):TE:=fun σ H Q=>to σ H fun x H1=>tyV K T x H1∧t σ H1 fun xs H2=>r x xs H2 Q
variable {o e:Expr} {es:List Expr} {to:TE} {t:TA} {name:Str} {apos cpos:Pos} {T id:String} {r:V→List V→Hp→VK→Prop}
theorem Zmi (pa:PlainAttrs T) (slot:Slot T name id) (hty:typeOf (.builtin id)=pure (.type "method_descriptor")) (hm:MtR X id r) (ho:PE X o to)
  (hbase:attributeBase o name X.env (eval o X.env)=eval o X.env:=by rfl) (hline:(apos.endLine == cpos.line)=true:=by rfl):PE X (.Call (.Attribute o name apos) [] [] cpos) (tBM0 X.K T r to):=by
 intro pins s σ H Q I h
 refine wpAny_Call_method0_late hbase hline (thn (ho pins s σ H _ I h) fun v s1 ⟨x,H1,I1,r1,ty,q1⟩=>?_)
 obtain ⟨h1,h2⟩:=Zp5 I1 r1 ty
 exact ⟨T,id,pa,slot,hty,h1,h2,Calls.callWith_builtin rfl (PySem.evalArgs_none (hm pins s1 σ H1 x [] v [] Q I1 r1 .nil q1))⟩
theorem Zm9 (pa:PlainAttrs T) (slot:Slot T name id) (hty:typeOf (.builtin id)=pure (.type "method_descriptor")) (hm:MtR X id r) (ho:PE X o to) (ha:PA X (e :: es) t)
  (hbase:attributeBase o name X.env (eval o X.env)=eval o X.env:=by rfl)
  (hfew:((backTo cpos (starEach (e :: es) X.env)).all (fun x=>!x.1) && (backToKw cpos (keywordEach [] X.env)).all (fun x=>x.1.isSome)
   && decide ((e :: es).length + ([]:List Keyword).length + (if ([]:List Keyword).isEmpty then 0 else 1) < 30))=true:=by rfl)
  (hline:(apos.endLine == cpos.line)=true:=by rfl) (hs:starEach (e :: es) X.env=(false,eval e X.env) :: starEach es X.env:=by rfl) (hplain:(backTo cpos (starEach es X.env)).any (·.1)=false:=by rfl) :
  PE X (.Call (.Attribute o name apos) (e :: es) [] cpos) (tBM X.K T r to t):=by
 intro pins s σ H Q I h
 refine wpAny_Call_method_late hbase hfew hline rfl (thn (ho pins s σ H _ I h) fun v s1 ⟨x,H1,I1,r1,ty,q1⟩=>?_)
 obtain ⟨h1,h2⟩:=Zp5 I1 r1 ty
 refine ⟨T,id,pa,slot,hty,h1,h2,?_⟩
 have hA:=ha cpos pins s1 σ H1 _ I1 q1
 rw [hs] at hA ⊢
 refine Calls.callWith_builtin (by show (false || (backTo cpos (starEach es X.env)).any (·.1))=false;rw [hplain]<;>rfl) (Calls.evalArgs_plain ?_)
 exact thn hA fun us s2 ⟨vs,H2,I2,r2,q2⟩=>hm pins s2 σ H2 x vs v us Q I2 r1 r2 q2
end
end L2
namespace L2
open PySem PySem.Spec PyProof.Rows
def MtM (X:Cx) (id:String) (r:V→List V→Hp→VK→Prop):Prop:=
 ∀ (pins:List (Addr×Obj)) (s:Shared) (σ:St) (H:Hp) (x:V) (xs:List V) (v:Value) (us:List Value) (Q:VK),Inv X pins σ H s→RelV x v→Vals xs us→r x xs H Q→
  wpAny (model X.prog X.w) X.A (call (.builtin id) (v :: us)) (EP X pins σ Q) X.xe s
theorem Vals.one:∀ {x:V} {us:List Value},Vals [x] us→∃ u,us=[u]∧RelV x u
 | _,_,.cons r .nil=>⟨_,rfl,r⟩
theorem Vals.zero:∀ {us:List Value},Vals [] us→us=[]
 | _,.nil=>rfl
theorem Vals.dropLast {xs:List V} {us:List Value} (h:Vals xs us):Vals xs.dropLast us.dropLast:=by
 induction h with
 | nil=>exact .nil
 | cons r t ih=>
  cases t with
  | nil=>exact .nil
  | cons q t'=>exact .cons r ih
theorem Zm8 {α:Type} (l:List α):l.eraseIdx (l.length - 1)=l.dropLast:=by
 induction l with
 | nil=>rfl
 | cons a r ih=>
  cases r with
  | nil=>rfl
  | cons b r=>
   have e:(a :: b :: r).length - 1=((b :: r).length - 1) + 1:=by
    have h1:(a :: b :: r).length=r.length + 2:=rfl
    have h2:(b :: r).length=r.length + 1:=rfl
    omega
   rw [e,List.eraseIdx_cons_succ,ih]
   all_goals rfl
section
variable {X:Cx} {pins:List (Addr×Obj)} {σ:St} {H:Hp} {s:Shared} {l b:Addr} {xs ys zs:List V}
theorem Inv.lset {its its':List Value} {n:Nat} {f:Array Value→Array Value} {t':Nat} (I:Inv X pins σ H s) (hH:H l=some (.lst xs))
  (e:s.heap.get? l=some { cls:=.type "list",data:=.seq its.toArray n }) (hf:f its.toArray=its'.toArray) (hv:Vals ys its') (hz:ys.length≤sizeLine) :
  Inv X pins σ (upd H l (.lst ys)) { s with heap:=s.heap.update l (Obj.mapSeq f),toks:=t' }:=by
 have q:=PySem.IsL.update e f
 rw [hf] at q
 refine I.write (x:=l) (e:=l) (by rw [hH];exact trivial) (.inl rfl) (fun b' u hb hu=>(Heap.get?_update_other s.heap (Obj.mapSeq f) (Ne.symm hb)).trans hu) ⟨_,q⟩ ?_
 exact ⟨hz,its',_,hv,q⟩
theorem Inv.lnew {its:List Value} {t':Nat} (I:Inv X pins σ H s) (hv:Vals ys its) (hz:ys.length≤sizeLine) :
  Inv X pins σ (upd H s.heap.objs.size (.lst ys)) { s with heap:=s.heap.push { cls:=.type "list",data:=.seq its.toArray },toks:=t' }:=
 I.laid (fun _ _ q=>Heap.get?_push_of_some _ q) (Nat.le_refl _) ⟨hz,its,0,hv,Heap.get?_push_size _ rfl⟩
theorem Inv.fresh (I:Inv X pins σ H s):H s.heap.objs.size=none:=I.hok.fresh (Nat.le_refl _)
theorem Inv.lstM (I:Inv X pins σ H s) (hH:H l=some (.lst xs)):xs.length≤sizeLine∧∃ (its:List Value) (n:Nat),Vals xs its∧xs.length=its.length∧s.heap.get? l=some { cls:=.type "list",data:=.seq its.toArray n }:=by
 obtain ⟨z,its,n,r,e⟩:=I.hok l _ hH
 exact ⟨z,its,n,r,r.length,e⟩
theorem notLongL {n:Nat} (h:n≤sizeLine):Builtin.List.listTooLong n=false:=by
 unfold Builtin.List.listTooLong
 exact decide_eq_false (by omega)
end
section
variable {X:Cx}
def rAppend:V→List V→Hp→VK→Prop:=fun x vs H Q=>∃ l xs y,x=.ref l∧vs=[y]∧H l=some (.lst xs)∧xs.length < sizeLine∧Q .non (upd H l (.lst (xs++[y])))
theorem Zdy:MtM X "list.append" rAppend:=by
 intro pins s σ H x vs v us Q I rx rv h
 obtain ⟨l,xs,y,rfl,rfl,hH,hz,q⟩:=h
 cases rx
 obtain ⟨u,rfl,ru⟩:=rv.one
 obtain ⟨z,its,n,r,hl,e⟩:=I.lstM hH
 refine call_meets F.slot_list_append ⟨_,e,rfl⟩ F.entry_list_append (F.args_list_append_2 _ _) (PySem.list_append l its.toArray n u (by rw [List.size_toArray];omega)) ⟨e,?_⟩
 refine ⟨.non,_,I.lset (its':=its++[u]) hH e (by simp) (r.append (.cons ru .nil)) ?_,rfl,q⟩
 rw [List.length_append,List.length_singleton]
 omega
def rExtend:V→List V→Hp→VK→Prop:=fun x vs H Q=>∃ l b xs zs,x=.ref l∧vs=[.ref b]∧H l=some (.lst xs)∧H b=some (.lst zs)∧xs.length + zs.length≤sizeLine∧Q .non (upd H l (.lst (xs++zs)))
theorem Zr8:MtM X "list.extend" rExtend:=by
 intro pins s σ H x vs v us Q I rx rv h
 obtain ⟨l,b,xs,zs,rfl,rfl,hH,hB,hz,q⟩:=h
 cases rx
 obtain ⟨u,rfl,ru⟩:=rv.one
 cases ru
 obtain ⟨z,its,n,r,hl,e⟩:=I.lstM hH
 obtain ⟨z2,its2,n2,r2,hl2,e2⟩:=I.lstM hB
 have hsz:its.toArray.size + its2.toArray.size≤sizeLine:=by rw [List.size_toArray,List.size_toArray];omega
 have hlong:¬ (!its.toArray.isEmpty && Builtin.List.listTooLong (its.toArray.size + its2.toArray.size))=true:=by
  rw [notLongL hsz,Bool.and_false]
  exact Bool.false_ne_true
 refine call_meets F.slot_list_extend ⟨_,e,rfl⟩ F.entry_list_extend (F.args_list_extend_2 _ _)
  (AutoSeq1.list_extend_list_list_0 l its.toArray n b its2.toArray n2 hlong (by rw [List.size_toArray];omega) (by omega)) ⟨e,e2,?_⟩
 refine ⟨.non,_,I.lset (its':=its++its2) hH e (by simp) (r.append r2) ?_,rfl,q⟩
 rw [List.length_append]
 omega
def rPop:V→List V→Hp→VK→Prop:=fun x vs H Q=>∃ l xs y,x=.ref l∧vs=[]∧H l=some (.lst xs)∧xs[xs.length - 1]?=some y∧Q y (upd H l (.lst xs.dropLast))
theorem Zmm:MtM X "list.pop" rPop:=by
 intro pins s σ H x vs v us Q I rx rv h
 obtain ⟨l,xs,y,rfl,rfl,hH,hy,q⟩:=h
 cases rx
 have hus:=rv.zero
 subst hus
 obtain ⟨z,its,n,r,hl,e⟩:=I.lstM hH
 obtain ⟨u,hu,ru⟩:=r.get hy
 have hy':its.toArray[its.toArray.size - 1]?=some u:=by
  show its.toArray[its.length - 1]?=some u
  rw [← Array.getElem?_toList,← hl]
  exact hu
 refine call_meets F.slot_list_pop ⟨_,e,rfl⟩ F.entry_list_pop (F.args_list_pop_1 _) (MeetsSeq.list_pop_last l its.toArray n u hy' (by rw [List.size_toArray];omega)) ⟨e,?_⟩
 refine ⟨y,_,I.lset (its':=its.dropLast) hH e ?_ r.dropLast ?_,ru,q⟩
 ·show its.toArray.eraseIdxIfInBounds (its.toArray.size - 1)=its.dropLast.toArray
  rw [List.size_toArray,List.eraseIdxIfInBounds_toArray,Zm8]
 ·rw [List.length_dropLast]
  omega
def rCat:R2:=fun x y H Q=>∃ l b xs zs,x=.ref l∧y=.ref b∧H l=some (.lst xs)∧H b=some (.lst zs)∧xs.length + zs.length≤sizeLine∧∀ p,H p=none→Q (.ref p) (upd H p (.lst (xs++zs)))
theorem Zdt:OpR X (binaryOp .Add) rCat:=by
 intro pins s σ H x y v u Q I rx ry h
 obtain ⟨l,b,xs,zs,rfl,rfl,hH,hB,hz,q⟩:=h
 cases rx
 cases ry
 obtain ⟨z,its,n,r,hl,e⟩:=I.lstM hH
 obtain ⟨z2,its2,n2,r2,hl2,e2⟩:=I.lstM hB
 refine PySem.P.add_list e e2 ?_ (by rw [List.size_toArray,List.size_toArray];omega)
 have ea:its.toArray++its2.toArray=(its++its2).toArray:=by simp
 rw [ea]
 exact ⟨.ref _,_,I.lnew (t':=s.toks) (r.append r2) (by rw [List.length_append];omega),rfl,q _ I.fresh⟩
end
section
variable {prog:Program} {w:World} {A:Around} {E:Value→Shared→Prop} {s:Shared}
end
section
variable {X:Cx}
end
end L2
namespace Att
open PySem PySem.W PySem.Calls PyProof.Rows
theorem Zh6 {P:Params} {h:Heap}:∀ (ns:List Int) (vs:List Value),WellAll P h vs (ns.map WData.int)→IntsAre vs ns:=by
 intro ns
 induction ns with
 | nil=>
  intro vs w
  rw [List.map_nil] at w
  cases w
  exact .nil
 | cons n ns ih=>
  intro vs w
  rw [List.map_cons] at w
  cases w with
  | cons a b=>
   cases a
   exact .cons _ _ (ih _ b)
theorem Zo6 {l:OpenLaw} {n:Nat} (hn:l.most=some n) {P:Params} {h:Heap} {args:List WData} {vals:List Value}
  (hpre:l.row.toRowW.claim.pre args=true) (hwl:WellAll P h vals args) :
  ∃ a vs ns,vals=[Value.ref a]∧args=[WData.list (ns.map WData.int)]∧h.get? a=some { cls:=.type "list",data:=.seq vs.toArray }∧IntsAre vs ns∧ns.length≤n:=by
 have hsh:WShape.hasAll [] args [.list .int]=true:=(pre_splitW hpre).1
 have hc:l.pre.holds [] { args:=args }=true:=(pre_splitW hpre).2
 obtain ⟨d,r,rfl,h1,h2⟩:=hasAllW_cons hsh
 obtain rfl:=hasAllW_nil h2
 obtain ⟨xs,rfl,h3⟩:=hasW_list h1
 obtain ⟨ns,rfl⟩:=items_int h3
 have hlen:ns.length≤n:=by
  unfold OpenLaw.pre at hc
  have h4:(WTm.not (.lt (.lit (.int (n:Int))) (.len (.arg 0)))).holds [] { args:=[.list (ns.map .int)] }=true:=by
   have h4:=(holds_andW hc).1
   rw [hn] at h4
   exact h4
  have h5:=condW_of h4 (w_not (w_lt w_lit (w_len_list (w_arg rfl))))
  rw [List.length_map] at h5
  refine Nat.le_of_not_lt fun q=>?_
  have q':(n:Int) < ((ns.length:Nat):Int):=by omega
  first
   | (rw [decide_eq_true q'] at h5;exact absurd h5 (by decide))
   | (simp at h5;omega)
 cases hwl with
 | cons w1 w2=>
  cases w2
  cases w1 with
  | list ho hall=>exact ⟨_,_,ns,rfl,rfl,ho,Zh6 ns _ hall,hlen⟩
theorem Znr (l:OpenLaw) (args:List WData):l.row.toRowW.claim.post args (.bool true) args=true:=
 postW_of (r:=l.row.toRowW) (X:=(true == true))
  (show WShape.has [] (.bool true) .bool=true by first | rfl | decide | simp [WShape.has,WShape.arms,WShape.armsAll])
  (show (WTm.eq .res (.lit (.bool true))).value [] { args:=args,res:=some (.bool true),after:=args }=some (.bool (true == true)) from w_eq_bool (w_res rfl) w_lit) rfl
theorem Zl3 {l:OpenLaw} {n:Nat} {q:Program} {loose:List Str} {XP:(Str→Option Value)→Heap→Prop} {YP:World→Heap→Prop} {d:DefRec}
  (hn:l.most=some n) (hdf:d.params.defaults=[])
  (call:∀ (w:World) (s₀ s₁:Shared) (mg mb:Str→Option Value) (fa:Addr) (o:Obj) (pm cd doc:Value) (a:Addr) (vs:List Value) (ns:List Int),
   Ground q loose [] XP w s₀ mg mb s₁.heap→YP w s₁.heap→
   s₁.heap.get? fa=some o→o.data=.func (docDef d.name d.params d.body d.scope pm cd doc)→s₁.heap.CodeRec cd d.name→mg d.name=some (.ref fa)→
   s₁.heap.get? a=some { cls:=.type "list",data:=.seq vs.toArray }→IntsAre vs ns→ns.length≤n→s₁.gens=#[]→
   codeAny (model l.prog w) callerA (.call (.ref fa) ⟨[.ref a],[]⟩) (fun r s'=>r=.ok (.ret (.bool true))∧OldK s₁.heap s'.heap∧s'.os=s₁.os∧AllBare s'.gens) s₁) :
  WalkO q loose XP YP l.row.toRowW d [] (fun f vs=>PySem.call f vs):=by
 intro w s₀ s₁ mg mb G Y fa o pm cd doc dV kV ho hd hcd hD hmg hg args vals as hpre hlay hrd hwl hlo
 obtain rfl:dV=.none:=Dflts.none hD hdf
 obtain rfl:kV=.none:=Dflts.noKw hD
 obtain ⟨a,vs,ns,rfl,rfl,hobj,hints,hlen⟩:=Zo6 hn hpre hwl
 refine enter_call (codeAny_mono (call w s₀ s₁ mg mb fa o pm cd doc a vs ns G Y ho (fd_plain hd) hcd hmg hobj hints hlen hg) fun r s' hq=>?_)
 obtain ⟨rfl,h2,h3,h4⟩:=hq
 exact ⟨.inl ⟨.bool true,.bool true,[],rfl,fun _=>rfl,.bool true,Znr l _,fun _=>⟨List.Pairwise.nil,fun _ hm=>(nomatch hm)⟩⟩,h2,h3,h4⟩
section
variable {prog:Program} {w:World} {A:Around} {E:Value→Shared→Prop} {s:Shared} {K:Frag}
end
end Att
namespace L2
open PySem PySem.Spec PyProof.Rows
theorem Zkk:∀ {vs:List Value} {ns:List Int},IntsAre vs ns→Vals (ns.map V.int) vs
 | _,_,.nil=>.nil
 | _,_,.cons n t h=>.cons ⟨t,rfl⟩ (Zkk h)
def Only (H:Hp):Prop:=∀ b,H b=none∨∃ o xs,H b=some (.frz o (.lst xs))
theorem Zpv {P:Program} {w:World} {K:PySem.W.Frag} {mg mb:Str→Option Value} {CX:CXT} {k:Nat} {fa a:Addr} {fd:FuncData} {x:Str} {sp:Sp} {s₁:Shared} {vs:List Value} {ns:List Int}
  (KX:K.In s₁.heap) (hns:s₁.heap.Ns mainGlobals mg) (hb:s₁.heap.Ns builtinsNs mb) (hbb:∀ x:Str,x≠"__name__"→mb x=bootBuiltins x) (hlim:s₁.heap.NoLimit) (hg:s₁.gens=#[])
  (ha:s₁.heap.get? a=some { cls:=.type "list",data:=.seq vs.toArray }) (hi:IntsAre vs ns) (hl:ns.length≤sizeLine) (hr:Room k callerA)
  (F:∀ base:Heap,K.In base→base.Ns mainGlobals mg→FnOk P w K mg base CX k fa fd [x] sp) (hbind:∀ (s:Shared) (u:Value),BindsTo s fd ⟨[u],[]⟩ [(x,u)])
  (hsp:∀ H:Hp,Only H→SqL K H a (ns.map V.int)→sp [.ref a] H (fun v _=>v=.bl true) fun _ _ _=>False)
  (hCX:∀ H e s',CX [] H s₁ (fun _ _ _=>False) e s'→False) :
  codeAny (model P w) callerA (.call (.ref fa) ⟨[.ref a],[]⟩) (fun r s'=>r=.ok (.ret (.bool true))∧OldK s₁.heap s'.heap∧s'.os=s₁.os∧AllBare s'.gens) s₁:=by
 have rv:=Zkk hi
 have lenV:=hi.length
 have core:∀ H:Hp,Only H→SqL K H a (ns.map V.int)→HOk P w H s₁.heap→(∀ b,H b≠none→b=a)→(H a≠none→K.lookup a=none)→
   codeAny (model P w) callerA (.call (.ref fa) ⟨[.ref a],[]⟩) (fun r s'=>r=.ok (.ret (.bool true))∧OldK s₁.heap s'.heap∧s'.os=s₁.os∧AllBare s'.gens) s₁:=by
  intro H hO hS hok hA hK
  have base_of:∀ {b:Addr} {o:Obj},s₁.heap.get? b=some o→H b=none→(hidT s₁.heap H).get? b=some o:=fun e n=>Zpz e n
  have noA:∀ {b:Addr} {o:Obj} {es:Array DictEntry} {ep:Nat},s₁.heap.get? b=some o→o.data=.dict es ep→H b=none:=fun {b o es ep} e d=>by
   cases q:H b with
   | none=>rfl
   | some u=>
    have e':b=a:=hA b (by rw [q];simp)
    subst e'
    rw [ha] at e;cases e
    have d':Data.seq vs.toArray _=Data.dict es ep:=d
    cases d'
  have nsK:∀ {b:Addr} {m:Str→Option Value},s₁.heap.Ns b m→(hidT s₁.heap H).Ns b m:=fun {b m} ⟨o,es,ep,e,d,r⟩=>⟨o,es,ep,base_of e (noA e d),d,r⟩
  have hKb:K.In (hidT s₁.heap H):=fun b o e=>base_of (KX b o e) (by
   cases q:H b with
   | none=>rfl
   | some u=>
    have e':b=a:=hA b (by rw [q];simp)
    subst e'
    rw [hK (by rw [q];simp)] at e;cases e)
  have hM:Mod K mg (hidT s₁.heap H):=⟨hKb,nsK hns,⟨mb,nsK hb,hbb⟩,let ⟨mc,h1,h2⟩:=hlim;⟨mc,nsK h1,h2⟩⟩
  have e0:Env0 P w K mg (hidT s₁.heap H) callerA [] s₁ H:=⟨rfl,hM,fun b o e=>Zqq e,Nat.le_of_eq (Zoc _ _),trivial,fun b hb=>absurd (show b∈([]:List Addr) from hb) (by simp),hok,.of_eq hg⟩
  refine codeAny_mono ((F _ hKb (nsK hns)).run callerA [] s₁ H ⟨[.ref a],[]⟩ [.ref a] [.ref a] _ _ hr e0 (hbind s₁ (.ref a)) (.cons rfl .nil) (hsp H hO hS)) fun r s' h=>?_
  cases r with
  | error e=>exact (hCX H e s' h).elim
  | ok fl=>
   cases fl with
   | next=>exact False.elim h
   | brk=>exact False.elim h
   | cont=>exact False.elim h
   | ret u=>
    obtain ⟨v,H',os,bare,un,hok',r',q⟩:=h
    have q':v=.bl true:=q
    subst q'
    obtain rfl:u=Value.bool true:=r'
    refine ⟨rfl,OldK.of_keep fun b o e=>?_,os,bare⟩
    cases q:H b with
    | none=>exact un.keep b o e q (by intro z;exact absurd (show b∈([]:List Addr) from z) (by simp)) (by simp)
    | some u=>
     rcases hO b with z | ⟨ob,xs,z⟩
     ·rw [q] at z;cases z
     ·have z2:=un.frzs b ob _ z
      obtain ⟨e1,_⟩:=hok b _ z
      obtain ⟨e2,_⟩:=hok' b _ z2
      rw [e] at e1;cases e1
      exact e2
 cases hk:K.lookup a with
 | some o=>
  have e:=KX a o hk
  rw [ha] at e
  cases e
  refine core (fun _=>none) (fun _=>.inl rfl) (.inr ⟨_,vs.toArray,_,hk,rfl,rfl,rfl,by rw [List.size_toArray,lenV];exact hl,by simpa using rv⟩) (fun b u z=>by have z':(none:Option HO)=some u:=z;cases z') (fun b z=>absurd rfl z) fun z=>absurd rfl z
 | none=>
  refine core (fun b=>if b=a then some (.frz { cls:=.type "list",data:=.seq vs.toArray } (.lst (ns.map V.int))) else none) (fun b=>?_) (.inl (.inr ⟨{ cls:=.type "list",data:=.seq vs.toArray },if_pos rfl⟩)) (fun b u z=>?_) (fun b z=>?_) fun _=>hk
  ·by_cases hb:b=a
   ·exact .inr ⟨_,_,if_pos hb⟩
   ·exact .inl (if_neg hb)
  ·by_cases hb:b=a
   ·have z':=(if_pos hb).symm.trans z
    cases z'
    subst hb
    exact ⟨ha,by rw [List.length_map];exact hl,vs,_,rv,ha⟩
   ·have z':=(if_neg hb).symm.trans z
    cases z'
  ·by_cases hb:b=a
   ·exact hb
   ·exact absurd (if_neg hb) z
end L2
namespace L2
open PySem PySem.Spec PyProof.Rows
theorem Zqs {l:PySem.W.OpenLaw} {n k:Nat} {q:Program} {loose:List Str} {XP:(Str→Option Value)→Heap→Prop} {YP:World→Heap→Prop} {d:DefRec} {K:Params→PySem.W.Frag} {CX:World→CXT} {sp:World→Sp} {x:Str}
  (hn:l.most=some n) (hn2:n≤sizeLine) (hdf:d.params.defaults=[]) (hr:Room k callerA)
  (hY:∀ (w:World) (h:Heap),YP w h→(K w.params).In h)
  (F:∀ (w:World) (mg:Str→Option Value) (fa:Addr) (h:Heap),(K w.params).In h→h.Ns mainGlobals mg→mg d.name=some (.ref fa)→
   ∃ fd:FuncData,(∀ (s:Shared) (u:Value),BindsTo s fd ⟨[u],[]⟩ [(x,u)])∧
    ∀ base:Heap,(K w.params).In base→base.Ns mainGlobals mg→FnOk l.prog w (K w.params) mg base (CX w) k fa fd [x] (sp w))
  (hsp:∀ (w:World) (H:Hp) (a:Addr) (ns:List Int),ns.length≤n→Only H→SqL (K w.params) H a (ns.map V.int)→sp w [.ref a] H (fun v _=>v=.bl true) fun _ _ _=>False)
  (hCX:∀ (w:World) (H:Hp) (s:Shared) (e:Value) (s':Shared),CX w [] H s (fun _ _ _=>False) e s'→False) :
  PySem.W.WalkO q loose XP YP l.row.toRowW d [] (fun f vs=>PySem.call f vs):=by
 refine Att.Zl3 hn hdf fun w s₀ s₁ mg mb fa o pm cd doc a vs ns G Y ho hd hcd hmg hobj hints hlen hg=>?_
 have KX:=hY w _ Y
 obtain ⟨fd,hb,hF⟩:=F w mg fa _ KX G.T.g hmg
 exact Zpv KX G.T.g G.T.b G.T.builtins G.T.nolimit hg hobj hints (Nat.le_trans hlen hn2) hr hF hb (fun H hO hS=>hsp w H a ns hlen hO hS) fun H e s'=>hCX w H s₁ e s'
theorem Zpe {l:PySem.W.OpenLaw} {n k:Nat} {q:Program} {loose:List Str} {XP:(Str→Option Value)→Heap→Prop} {YP:World→Heap→Prop} {d:DefRec} {K:Params→PySem.W.Frag} {CX:CXT} {sp:PySem.W.Frag→Sp} {x:Str}
  (hn:l.most=some n) (hn2:n≤sizeLine) (hdf:d.params.defaults=[]) (hr:Room k callerA)
  (hY:∀ (w:World) (h:Heap),YP w h→(K w.params).In h)
  (F:∀ (w:World) (mg:Str→Option Value) (fa:Addr) (h:Heap),(K w.params).In h→h.Ns mainGlobals mg→mg d.name=some (.ref fa)→
   ∃ fd:FuncData,(∀ (s:Shared) (u:Value),BindsTo s fd ⟨[u],[]⟩ [(x,u)])∧
    ∀ base:Heap,(K w.params).In base→base.Ns mainGlobals mg→FnOk l.prog w (K w.params) mg base CX k fa fd [x] (sp (K w.params)))
  (hsp:∀ (K:PySem.W.Frag) (H:Hp) (a:Addr) (ns:List Int),ns.length≤n→Only H→SqL K H a (ns.map V.int)→sp K [.ref a] H (fun v _=>v=.bl true) fun _ _ _=>False)
  (hCX:∀ (H:Hp) (s:Shared) (e:Value) (s':Shared),CX [] H s (fun _ _ _=>False) e s'→False) :
  PySem.W.WalkO q loose XP YP l.row.toRowW d [] (fun f vs=>PySem.call f vs):=
 Zqs (K:=K) (CX:=fun _=>CX) (sp:=fun w=>sp (K w.params)) hn hn2 hdf hr hY F (fun w H a ns h1 h2 h3=>hsp (K w.params) H a ns h1 h2 h3) fun _ H s e s'=>hCX H s e s'
end L2
namespace L2
open PySem PySem.Spec PyProof.Rows
def inClass (s:Stmt) (j:Nat):Stmt:=match s with
 | .ClassDef _ _ _ body _ _ _ _ _ _ _=>body.getD j (.Pass ⟨0,0,0,0⟩)
 | _=>.Pass ⟨0,0,0,0⟩
def defArgs (s:Stmt):Arguments:=match s with
 | .FunctionDef _ a _ _ _ _ _ _ _ _=>a
 | _=>{ posonlyargs:=[],args:=[],vararg:=none,kwonlyargs:=[],kw_defaults:=[],kwarg:=none,defaults:=[] }
def defBody (s:Stmt):List Stmt:=match s with
 | .FunctionDef _ _ b _ _ _ _ _ _ _=>b
 | _=>[]
def defScope (s:Stmt):Scope:=match s with
 | .FunctionDef _ _ _ _ _ _ sc _ _ _=>sc
 | _=>{ kind:=.function,names:=[],isGenerator:=false,isCoroutine:=false }
abbrev CX0:CXT:=fun _ _ _ _ _ _=>False
abbrev E0:XK:=fun _ _ _=>False
theorem pass0 {X:Cx}:Passes CX0 X E0:=fun _ _ _ _ _ _ _ h=>h.elim
structure Fun (K:PySem.W.Frag) (x qual:Str) (st:Stmt) (f:Addr) (fd:FuncData):Prop where
 ex:∃ (oc:Value) (od:Option Addr) (kV doc pm:Value) (an:Option Addr) (cdv ct:Value) (osl:Array (Option Value)),
  fd=PySem.W.fnOf x qual (defArgs st) (defBody st) (defScope st) .none kV doc pm an cdv ct∧K.lookup f=some ⟨oc,od,.func fd,osl⟩∧PySem.W.codeIn K cdv qual=true
 kp:PySem.W.keepIn K (.ref f)=true
section
variable {P:Program} {w:World} {K:PySem.W.Frag} {mg:Str→Option Value} {base:Heap}
theorem Fun.ok {x qual:Str} {st:Stmt} {f:Addr} {fd:FuncData} {N ps:List Str} {k:Nat} {sp:Sp} (F:Fun K x qual st f fd) (S:FnScope N ps (defScope st)) (len:∀ vs H Q E,sp vs H Q E→vs.length=ps.length)
  (hbody:∀ (cdv:Value) (A:Around) (outer:List Env) (s:Shared) (H:Hp) (vs:List V) (Q:VK) (E:XK),Room k (A.deeper (envOfC qual (defScope st) s.heap.objs.size f cdv))→sp vs H Q E→
   ∃ t,PSs (cxOf CX0 P w K mg base N qual (defScope st) f cdv A outer s H E).nox (defBody st) t∧t { nx:=fun _ H'=>Q .non H',rt:=Q } (start N vs) H):FnOk P w K mg base CX0 (k + 1) f fd ps sp:=by
 obtain ⟨oc,od,kV,doc,pm,an,cdv,ct,osl,rfl,lk,hcd⟩:=F.ex
 refine Zq1 lk hcd S len fun A outer s H vs Q E hr hsp=>?_
 obtain ⟨t,h,q⟩:=hbody cdv A outer s H vs Q E hr hsp
 exact ⟨t,h.nox,q⟩
theorem Fun.binds {x qual:Str} {st:Stmt} {f:Addr} {fd:FuncData} {ps:List Str} (F:Fun K x qual st f fd)
  (h:∀ (kV doc pm:Value) (an:Option Addr) (cdv ct:Value) (us:List Value),us.length=ps.length→bindArgs (PySem.W.fnOf x qual (defArgs st) (defBody st) (defScope st) .none kV doc pm an cdv ct) ⟨us,[]⟩=pure (ps.zip us)):Binds K fd ps []:=by
 obtain ⟨oc,od,kV,doc,pm,an,cdv,ct,osl,rfl,lk,hcd⟩:=F.ex
 exact .all (h kV doc pm an cdv ct)
theorem Zn6 {x qual:Str} {st:Stmt} {f:Addr} {oc:Value} {od an:Option Addr} {osl:Array (Option Value)} {kV doc pm cdv ct:Value} (l:K.lookup f=some ⟨oc,od,.func (PySem.W.fnOf x qual (defArgs st) (defBody st) (defScope st) .none kV doc pm an cdv ct),osl⟩)
  (c:PySem.W.codeIn K cdv qual=true) (k:PySem.W.keepIn K (.ref f)=true):Fun K x qual st f (PySem.W.fnOf x qual (defArgs st) (defBody st) (defScope st) .none kV doc pm an cdv ct):=⟨⟨oc,od,kV,doc,pm,an,cdv,ct,osl,rfl,l,c⟩,k⟩
end
theorem Zpq {A:Around} {k:Nat} (hr:Room k A):A.units + 1 < cLine:=Nat.lt_of_le_of_lt (Nat.add_le_add_left (by decide:1≤64) _) hr.units
theorem small1000 {n:Nat} (h:n≤1000):n < sizeLine:=Nat.lt_of_le_of_lt h (by decide)
section
variable {X:Cx}
theorem pv (i:Nat) {x:Str} {pos:Pos} (hN:X.N[i]?=some x:=by rfl) (hv:Vis X.env.scope x:=by first | exact Or.inl rfl | exact Or.inr (Or.inl rfl) | exact Or.inr (Or.inr rfl)) (hd:(x == ("__debug__" : Str))=false:=by decide)
  (hcd:(x == ("__classdict__" : Str))=false:=by decide):PE X (.Name x pos) (tVar i):=Zru hN hv hd hcd
end
theorem iteF {A B:Prop} (h:B):if false=true then A else B:=by
 rw [if_neg Bool.false_ne_true]
 exact h
theorem iteT {A B:Prop} (h:A):if true=true then A else B:=by
 rw [if_pos rfl]
 exact h
theorem ite2 {c A B:Prop} [Decidable c] (h1:c→A) (h2:¬ c→B):if c then A else B:=by
 by_cases h:c
 ·rw [if_pos h]
  exact h1 h
 ·rw [if_neg h]
  exact h2 h
theorem iteNS {c A B:Prop} [Decidable c] (hc:c) (h:B):if (!decide c)=true then A else B:=by
 rw [decide_eq_true hc]
 exact iteF h
def Same (H H':Hp):Prop:=∀ b o,H b=some o→H' b=some o
theorem Same.refl (H:Hp):Same H H:=fun _ _ h=>h
theorem Same.trans {H H1 H2:Hp} (a:Same H H1) (b:Same H1 H2):Same H H2:=fun c o h=>b c o (a c o h)
theorem Same.free {H H':Hp} (e:Same H H') {l:Addr} (h:H' l=Option.none):H l=Option.none:=by
 cases q:H l with
 | none=>rfl
 | some o=>
  rw [e l o q] at h
  cases h
theorem Same.seq {K:PySem.W.Frag} {H H':Hp} {a:Addr} {xs:List V} (e:Same H H') (h:SqL K H a xs):SqL K H' a xs:=by
 rcases h with (h | ⟨o,h⟩) | h
 ·exact .inl (.inl (e _ _ h))
 ·exact .inl (.inr ⟨o,e _ _ h⟩)
 ·exact .inr h
end L2
set_option maxHeartbeats 4000000
namespace L2
open PySem PySem.Spec PyProof.Rows
section
variable {κ:Type} [DecidableEq κ]
theorem KV.length {kvs:List (κ×V)} {vs:List (κ×Value)} (r:KV kvs vs):kvs.length=vs.length:=Paired.length r
end
section
variable {P:Program} {w:World} {H:Hp} {h:Heap} {a:Addr}
end
section
variable {X:Cx} {pins:List (Addr×Obj)} {σ:St} {H:Hp} {s:Shared} {a:Addr} {y v:V} {u r:Value} {o:Option V} {A:Around} {E:Value→Shared→Prop}
end
section
variable {X:Cx} {pins:List (Addr×Obj)} {σ:St} {H:Hp} {s:Shared} {a:Addr} {kvs:List (Key×V)} {k:Key} {u:Value} {A:Around} {E:Value→Shared→Prop}
end
section
variable {X:Cx} {o i e value:Expr} {pos pos' tpos:Pos} {td ty tv:TE}
end
section
variable {X:Cx} {pos:Pos}
end
end L2
set_option genInjectivity false
set_option genSizeOfSpec false
namespace Own
open PySem PySem.Spec PyProof.Rows L2
structure Def (K:PySem.W.Frag) (mg:Str→Option Value) (x:Str) (st:Stmt) (ps:List Str):Prop where
 ex:∃ f fd,Fun K x x st f fd∧mg x=some (.ref f)∧Binds K fd ps []
structure Callee (P:Program) (w:World) (K:PySem.W.Frag) (mg:Str→Option Value) (base:Heap) (CX:CXT) (k:Nat) (x:Str) (ps:List Str) (sp:Sp):Prop where
 ex:∃ f fd,FnOk P w K mg base CX k f fd ps sp∧mg x=some (.ref f)∧PySem.W.keepIn K (.ref f)=true∧(∃ o:Obj,K.lookup f=some o∧o.data=.func fd)∧Binds K fd ps []
section
variable {P:Program} {w:World} {K:PySem.W.Frag} {mg:Str→Option Value} {base:Heap}
theorem Callee.at {CX:CXT} {x:Str} {st:Stmt} {f:Addr} {fd:FuncData} {k:Nat} {ps:List Str} {sp:Sp} (C:Callee P w K mg base CX k x ps sp) (hm:mg x=some (.ref f)) (F:Fun K x x st f fd) (_:Def K mg x st ps):FnOk P w K mg base CX k f fd ps sp:=by
 obtain ⟨f',fd',Fo,hm',_,hl,_⟩:=C.ex
 rw [hm] at hm'
 cases hm'
 obtain ⟨oc,od,kV,doc,pm,an,cdv,ct,osl,_,lk,_⟩:=F.ex
 obtain ⟨o',lk',hd'⟩:=hl
 rw [lk] at lk'
 cases lk'
 cases hd'
 exact Fo
theorem Def.ok {x:Str} {st:Stmt} {N ps:List Str} {k:Nat} {sp:Sp} (D:Def K mg x st ps) (S:FnScope N ps (defScope st)) (len:∀ vs H Q E,sp vs H Q E→vs.length=ps.length)
  (hbody:∀ (f:Addr) (cdv:Value) (A:Around) (outer:List Env) (s:Shared) (H:Hp) (vs:List V) (Q:VK) (E:XK),Room k (A.deeper (envOfC x (defScope st) s.heap.objs.size f cdv))→sp vs H Q E→
   ∃ t,PSs (cxOf CX0 P w K mg base N x (defScope st) f cdv A outer s H E).nox (defBody st) t∧t { nx:=fun _ H'=>Q .non H',rt:=Q } (start N vs) H):Callee P w K mg base CX0 (k + 1) x ps sp:=by
 obtain ⟨f,fd,F,hm,hb⟩:=D.ex
 refine ⟨f,fd,F.ok S len fun cdv A outer s H vs Q E hr h=>hbody f cdv A outer s H vs Q E hr h,hm,F.kp,?_,hb⟩
 obtain ⟨oc,od,kV,doc,pm,an,cdv,ct,osl,_,lk,_⟩:=F.ex
 exact ⟨_,lk,rfl⟩
end
section
variable {X:Cx} {CX:CXT} {k:Nat} {ps:List Str} {sp:Sp} {E:XK} {x:Str} {p pos:Pos} {e:Expr} {es:List Expr} {t:TA}
theorem Za4 (C:Callee X.prog X.w X.K X.mg X.base CX k x ps sp) (hr:Room k X.A) (hx:Passes CX X E) (ha:PA X (e :: es) t) (hg:Gl X x:=by rfl)
  (hdb:(x == ("__debug__" : Str))=false:=by decide) (he:starEach (e :: es) X.env=(false,eval e X.env) :: starEach es X.env:=by rfl) (hpl:(backTo pos (starEach es X.env)).any (·.1)=false:=by rfl) :
  PE X (.Call (.Name x p) (e :: es) [] pos) (tCall sp [] E t):=by
 obtain ⟨f,fd,F,hm,hk,_,hb⟩:=C.ex
 exact Zq6 F hr hg hm hk hb .nil hx ha hdb he hpl
theorem Zpg:CallR X (.builtin "isinstance") (fun xs H Q=>∃ x n t b,xs=[x,.ty n]∧TyOf X.K H x t∧PySem.W.kitOne X.K t (.type n)=some b∧Q (.bl b) H):=by
 intro pins s σ H xs us Q I rv h
 obtain ⟨x,n,t,b,rfl,ty,e,q⟩:=h
 cases rv with
 | cons r rr=>
  cases rr with
  | cons r' rr'=>
   cases rr'
   obtain rfl:_=Value.type n:=r'
   exact Zon I r ty e fun tk=>⟨.bl b,H,I.tok tk,rfl,q⟩
theorem Zsc:IxR X (fun x y H Q=>rIxL X.K x y H Q∨rIxT X.K x y H Q):=ix_list.or Zri
end
def tJoin (t u:TS):TS:=fun D σ H=>∃ J:L2.St→Hp→Prop,t { D with nx:=J } σ H∧∀ σ' H',J σ' H'→u D σ' H'
theorem Zen {X:Cx} {st:Stmt} {rest:List Stmt} {t u:TS} (h1:PS X st t) (h2:PSs X rest u):PSs X (st :: rest) (tJoin t u):=by
 intro pins s σ H D I h
 obtain ⟨J,h,k⟩:=h
 refine wpAny_execs_cons (thn (h1 pins s σ H { D with nx:=J } I h) fun f s1 q=>?_)
 cases f with
 | next=>
  obtain ⟨σ',H',I',q⟩:=q
  exact h2 pins s1 σ' H' D I' (k σ' H' q)
 | ret v=>exact q
 | brk=>exact q
 | cont=>exact q
theorem Zpx (K:PySem.W.Frag) (n:String):PySem.W.kitOne K (.type n) (.type n)=some true:=by
 unfold PySem.W.kitOne
 rw [if_pos (by simp)]
theorem Zj0 {α β:Type} {f:α→β} {xs:List α} {i:Int} {v:α} (h:atI xs i=some v):atI (xs.map f) i=some (f v):=by
 unfold atI at h ⊢
 rw [List.length_map]
 cases e:ixN xs.length i with
 | none=>rw [e] at h;cases h
 | some j=>
  rw [e] at h
  have h':xs[j]?=some v:=h
  show (xs.map f)[j]?=some (f v)
  rw [List.getElem?_map,h']
  rfl
theorem Zi3 {α:Type} {xs:List α} {i:Int} {v:α} (h0:0≤i) (h:xs[i.toNat]?=some v):atI xs i=some v:=by
 have e:((i.toNat:Nat):Int)=i:=by omega
 have:=Zle h
 rwa [e] at this
theorem Zcq {H:Hp} {a:Addr} {o:HO} (h:H a=none):Same H (upd H a o):=fun b u e=>by rw [Za7 (Zb2 e h)];exact e
theorem Same.tup {K:PySem.W.Frag} {H H':Hp} {a:Addr} {xs:List V} (e:Same H H') (h:SqT K H a xs):SqT K H' a xs:=by
 rcases h with (h | ⟨o,h⟩) | h
 ·exact .inl (.inl (e _ _ h))
 ·exact .inl (.inr ⟨o,e _ _ h⟩)
 ·exact .inr h
end Own
namespace Own
open PySem PySem.Spec PyProof.Rows L2
theorem Zkg {env:Env} (names:List (Str×NameKind)) (hall:∀ x∈names,x.2=.free→∃ c,env.cells.lookup x.1=some c):∀ cs0:List (Str×Addr),(∀ x c,cs0.lookup x=some c→env.cells.lookup x=some c)→
  ∃ cl:List (Str×Addr),(forIn names cs0 (fun (x:Str×NameKind) (cs:List (Str×Addr))=>if (x.2 == .free)=true then (do let c ← cellOf env x.1;pure (ForInStep.yield ((x.1,c) :: cs))) else pure (ForInStep.yield cs)):Sem (List (Str×Addr)))=pure cl∧
   (∀ x c,cl.lookup x=some c→env.cells.lookup x=some c)∧(∀ x,(∃ c,cs0.lookup x=some c)→∃ c,cl.lookup x=some c)∧∀ x∈names,x.2=.free→∃ c,cl.lookup x.1=some c:=by
 induction names with
 | nil=>
  intro cs0 h0
  exact ⟨cs0,rfl,h0,fun _ h=>h,fun x hx=>by cases hx⟩
 | cons y r ih=>
  intro cs0 h0
  have ih':=ih fun x hx=>hall x (List.mem_cons_of_mem _ hx)
  obtain ⟨n,k⟩:=y
  by_cases hk:k=.free
  ·subst hk
   obtain ⟨c,hc⟩:=hall (n,.free) List.mem_cons_self rfl
   have h1:∀ x d,List.lookup x ((n,c) :: cs0)=some d→env.cells.lookup x=some d:=fun x d e=>by
    rw [List.lookup_cons] at e
    by_cases hx:x=n
    ·subst hx
     simp at e
     subst e
     exact hc
    ·have:(x == n)=false:=by simpa using hx
     rw [this] at e
     exact h0 x d e
   obtain ⟨cl,e,p1,p2,p3⟩:=ih' ((n,c) :: cs0) h1
   refine ⟨cl,?_,p1,fun x hx=>p2 x ?_,fun x hx hf=>?_⟩
   ·rw [List.forIn_cons]
    show ((if (NameKind.free == NameKind.free)=true then (do let c ← cellOf env n;pure (ForInStep.yield ((n,c) :: cs0))) else pure (ForInStep.yield cs0)) >>= _)=_
    rw [if_pos (show (NameKind.free == NameKind.free)=true by decide)]
    have ec:cellOf env n=pure c:=by unfold cellOf;rw [hc]
    rw [ec]
    exact e
   ·rw [List.lookup_cons]
    cases (x == n)
    ·exact hx
    ·exact ⟨c,rfl⟩
   ·rcases List.mem_cons.mp hx with rfl | hx
    ·exact p2 n ⟨c,by simp [List.lookup_cons]⟩
    ·exact p3 x hx hf
  ·obtain ⟨cl,e,p1,p2,p3⟩:=ih' cs0 h0
   refine ⟨cl,?_,p1,p2,fun x hx hf=>?_⟩
   ·rw [List.forIn_cons]
    have hb:(k == NameKind.free)=false:=by simpa using hk
    show ((if (k == NameKind.free)=true then (do let c ← cellOf env n;pure (ForInStep.yield ((n,c) :: cs0))) else pure (ForInStep.yield cs0)) >>= _)=_
    rw [if_neg (by rw [hb];decide)]
    exact e
   ·rcases List.mem_cons.mp hx with rfl | hx
    ·exact absurd hf hk
    ·exact p3 x hx hf
theorem Zm5 {env:Env} {sc:Scope} (hall:∀ x∈sc.names,x.2=.free→∃ c,env.cells.lookup x.1=some c) :
  ∃ cl:List (Str×Addr),closureFor sc env=pure cl∧(∀ x c,cl.lookup x=some c→env.cells.lookup x=some c)∧∀ x∈sc.names,x.2=.free→∃ c,cl.lookup x.1=some c:=by
 obtain ⟨cl,e,p1,_,p3⟩:=Zkg sc.names hall [] (fun x c h=>by cases h)
 refine ⟨cl,?_,p1,p3⟩
 unfold closureFor
 show ((forIn sc.names ([]:List (Str×Addr)) (fun (x:Str×NameKind) (cs:List (Str×Addr))=>if (x.2 == .free)=true then (do let c ← cellOf env x.1;pure (ForInStep.yield ((x.1,c) :: cs))) else pure (ForInStep.yield cs)):Sem (List (Str×Addr))) >>= fun cs=>pure cs)=pure cl
 rw [e]
 rfl
def compX (X:Cx) (N':List Str) (sc:Scope) (cl:List (Str×Addr)) (C:Addr) (s₃:Shared) (H₃:Hp) (ex:List Addr):Cx:=
 { X with N:=N',s₀:=s₃,H₀:=H₃,env:=compEnvC sc cl C X.env,outer:=X.stack,ex:=ex,fn:=fun _=>false,pn:=[],xe:=fun _ _=>False }
structure CompOk (X:Cx) (N':List Str) (φ:List (Option Nat)) (sc:Scope):Prop where
 kind:sc.kind=.function
 okind:X.env.scope.kind=.function
 nocell:∀ y∈sc.names,y.2≠.cell
 names:∀ y∈sc.names,y.2=.local→sc.names.lookup y.1=some .local
 frees:∀ y∈sc.names,y.2=.free→X.env.scope.names.lookup y.1=some .cell
 len:φ.length=N'.length
 pick:∀ (i:Nat) (x:Str) (j:Nat),N'[i]?=some x→φ[i]?=some (some j)→X.N[j]?=some x∧sc.names.lookup x=some .free
def atStart (φ:List (Option Nat)) (σ:L2.St):L2.St:=φ.map fun o=>o.bind fun j=>(σ[j]?).join
def Sub (σ σ':L2.St):Prop:=σ'.length=σ.length∧∀ (i:Nat) (v:V),σ[i]?=some (some v)→σ'[i]?=some (some v)
theorem Sub.refl {σ:L2.St}:Sub σ σ:=⟨rfl,fun _ _ h=>h⟩
theorem Sub.keep {σ σ':L2.St} {x:Option V} (h:Sub σ σ'):Sub (x :: σ) (x :: σ'):=by
 refine ⟨by simp [h.1],fun i v e=>?_⟩
 cases i with
 | zero=>simpa using e
 | succ i=>simp at e ⊢;exact h.2 i v e
theorem Zha {env:Env} (hk:env.scope.kind=.function):∀ {names:List (Str×NameKind)} {x:Str},names.lookup x=some .free→env.scope.names.lookup x=some .cell→
  (names.map fun (n,k)=>if (k == NameKind.free && env.scope.kind == .function && env.kindOf n == some .cell) then (n,NameKind.cell) else (n,k)).lookup x=some .cell
 | [],_,h,_=>by simp at h
 | (n,k) :: r,x,h,hc=>by
  have ih:=@Zha env hk r x
  show List.lookup x ((if (k == NameKind.free && env.scope.kind == .function && env.kindOf n == some .cell)=true then (n,NameKind.cell) else (n,k)) :: _)=_
  cases hx:x == n with
  | true=>
   simp only [List.lookup_cons,hx] at h
   cases h
   have e:x=n:=by simpa using hx
   subst e
   have hkk:env.kindOf x=some .cell:=hc
   rw [hk,hkk]
   simp [List.lookup_cons]
  | false=>
   simp only [List.lookup_cons,hx] at h
   by_cases hcc:(k == NameKind.free && env.scope.kind == .function && env.kindOf n == some .cell)=true
   ·rw [if_pos hcc];simp only [List.lookup_cons,hx];exact ih h hc
   ·rw [if_neg hcc];simp only [List.lookup_cons,hx];exact ih h hc
theorem Zff {env:Env}:∀ {names:List (Str×NameKind)} {x:Str} {q:NameKind},
  (names.map fun (n,k)=>if (k == NameKind.free && env.scope.kind == .function && env.kindOf n == some .cell) then (n,NameKind.cell) else (n,k)).lookup x=some q→∃ k,(x,k)∈names∧(q=k∨k=.free)
 | [],_,_,h=>by simp at h
 | (n,k) :: r,x,q,h=>by
  have ih:=@Zff env r x q
  have h':List.lookup x ((if (k == NameKind.free && env.scope.kind == .function && env.kindOf n == some .cell)=true then (n,NameKind.cell) else (n,k)) :: (r.map fun (n,k)=>if (k == NameKind.free && env.scope.kind == .function && env.kindOf n == some .cell) then (n,NameKind.cell) else (n,k)))=some q:=h
  cases hx:x == n with
  | true=>
   have e:x=n:=by simpa using hx
   subst e
   by_cases hcc:(k == NameKind.free && env.scope.kind == .function && env.kindOf x == some .cell)=true
   ·refine ⟨k,List.mem_cons_self,.inr ?_⟩
    have:=(Bool.and_eq_true _ _ ▸ (Bool.and_eq_true _ _ ▸ hcc).1).1
    simpa using this
   ·rw [if_neg hcc] at h'
    simp [List.lookup_cons] at h'
    exact ⟨k,List.mem_cons_self,.inl h'.symm⟩
  | false=>
   have h2:List.lookup x (r.map fun (n,k)=>if (k == NameKind.free && env.scope.kind == .function && env.kindOf n == some .cell) then (n,NameKind.cell) else (n,k))=some q:=by
    by_cases hcc:(k == NameKind.free && env.scope.kind == .function && env.kindOf n == some .cell)=true
    ·rw [if_pos hcc] at h';simp only [List.lookup_cons,hx] at h';exact h'
    ·rw [if_neg hcc] at h';simp only [List.lookup_cons,hx] at h';exact h'
   obtain ⟨k',hm,hq⟩:=ih h2
   exact ⟨k',List.mem_cons_of_mem _ hm,hq⟩
theorem Zl1 {prog:Program} {w:World} {A:Around} {R:Result→Shared→Prop} {s:Shared} {elt target iter:Expr} {ifs:List Expr} {scope:Scope} {pos:Pos} {it acc:Value} {env:Env} (I:Nat→Shared→Prop)
  (turn:∀ n s,I n s→wpAny (model prog w) A (pyNext it) (fun r s₁=>match r with
   | none=>R (.ok .next) s₁
   | some v=>wpAny (model prog w) A (letOwnedTupleGo target it v) (fun _ s₁'=>wpAny (model prog w) A (assign target env v) (fun _ s₂=>
     wpAny (model prog w) A (forIn ifs true fun c r=>if r=true then do let ok ← isTrue c env (eval c env);pure (ForInStep.yield ok) else pure (ForInStep.yield r)) (fun ok s₃=>
      if ok=true then wpAny (model prog w) A (eval elt env) (fun x s₄=>
       wpAny (model prog w) A (call (.builtin "list.append") [acc,x]) (fun _ s₅=>∃ m,m < n∧I m s₅) (fun _ _=>False) s₄) (fun _ _=>False) s₃
      else ∃ m,m < n∧I m s₃) (fun _ _=>False) s₂) (fun _ _=>False) s₁') (fun _ _=>False) s₁) (fun _ _=>False) s)
  (n:Nat) (h:I n s) :
  codeAny (model prog w) A (.compLoop (.ListComp elt [⟨target,iter,ifs,0⟩] scope pos) 0 it acc env) R s:=by
 refine codeAny_loop rfl I (fun n s hI=>?_) n h
 show wpAny _ A ((compTurn (.ListComp elt [⟨target,iter,ifs,0⟩] scope pos) 0 it acc env).onRaise (fun x=>do noteFrame x env;theTreesLotGoes x)) _ _ s
 refine wpAny_noted ?_
 rw [compTurn_list]
 refine wpAny_bind (wpAny_standAt (wpAny_bind (wpAny_mono (turn n s hI) (fun r s₁ h₁=>?_) fun _ _ h'=>h'.elim)))
 cases r with
 | none=>exact wpAny_pure h₁
 | some v=>
  refine wpAny_bind (wpAny_mono h₁ (fun _ s₁' h₁'=>?_) fun _ _ h'=>h'.elim)
  refine wpAny_bind (wpAny_mono h₁' (fun _ s₂ h₂=>wpAny_bind (wpAny_mono h₂ (fun ok s₃ h₃=>?_) fun _ _ h'=>h'.elim)) fun _ _ h'=>h'.elim)
  cases ok with
  | false=>exact wpAny_pure ⟨rfl,h₃⟩
  | true=>
   exact wpAny_bind (wpAny_bind (wpAny_mono h₃ (fun x s₄ h₄=>wpAny_bind (wpAny_mono h₄ (fun _ s₅ h₅=>wpAny_pure (wpAny_pure ⟨rfl,h₅⟩)) fun _ _ h'=>h'.elim)) fun _ _ h'=>h'.elim))
def PIfs (X:Cx) (ifs:List Expr) (t:TT):Prop:=
 ∀ (pins:List (Addr×Obj)) (s:Shared) (σ:L2.St) (H:Hp) (Q:Bool→Hp→Prop),Inv X pins σ H s→t σ H Q→
  wpAny (model X.prog X.w) X.A (forIn ifs true fun c r=>if r=true then do let ok ← isTrue c X.env (eval c X.env);pure (ForInStep.yield ok) else pure (ForInStep.yield r)) (TP X pins σ Q) X.xe s
def tNoIf:TT:=fun _ H Q=>Q true H
theorem Zj3 {X:Cx}:PIfs X [] tNoIf:=fun _ _ _ H _ I h=>wpAny_pure ⟨H,I,h⟩
theorem Zmj {X:Cx} {c:Expr} {t:TT} (hc:PT X c t):PIfs X [c] t:=by
 intro pins s σ H Q I h
 rw [List.forIn_cons]
 refine wpAny_bind ?_
 rw [if_pos rfl]
 exact wpAny_bind (thn (hc pins s σ H Q I h) fun b s1 q=>wpAny_pure (wpAny_pure q))
def tComp (φ:List (Option Nat)) (wi:TI) (g:TG) (tc:TT) (te:TE):TE:=fun σ H Q=>wi σ H fun J H1=>∀ D,H1 D=none→∃ W:Nat→Nat→List V→Hp→Prop,(∃ m,W 0 m [] (upd H1 D (.lst [])))∧
 ∀ i m ys H2,W i m ys H2→(J.stop i H2∧Q (.ref D) H2)∨(J.go i H2∧∀ x H3,J.yld i H2 x H3→g x (atStart φ σ) H3 fun σ2 H4=>Sub (atStart φ σ) σ2∧tc σ2 H4 fun b H5=>
  if b=true then te σ2 H5 fun y H6=>H6 D=some (.lst ys)∧ys.length < sizeLine∧∃ m',m' < m∧W (i + 1) m' (ys++[y]) (upd H6 D (.lst (ys++[y]))) else ∃ m',m' < m∧W (i + 1) m' ys H5)
theorem Inv.weak {X:Cx} {pins:List (Addr×Obj)} {σ σ':L2.St} {H:Hp} {s:Shared} (I:Inv X pins σ' H s) (S:Sub σ σ'):Inv X pins σ H s:=
 ⟨I.ok,I.os,I.bare,I.base,let ⟨m,hn,hl⟩:=I.loc;⟨m,hn,fun i x v h1 h2 h3=>hl i x v h1 (S.2 i v h2) h3⟩,I.cell,I.free,I.freeC,I.pin,I.hok,by rw [← S.1];exact I.len⟩
theorem Zhx {φ:List (Option Nat)} {σ:L2.St} {i:Nat} {v:V} (h:(atStart φ σ)[i]?=some (some v)):∃ j,φ[i]?=some (some j)∧σ[j]?=some (some v):=by
 unfold atStart at h
 rw [List.getElem?_map] at h
 cases e:φ[i]? with
 | none=>rw [e] at h;cases h
 | some o=>
  rw [e] at h
  cases o with
  | none=>simp at h
  | some j=>
   refine ⟨j,rfl,?_⟩
   simp at h
   cases e2:σ[j]? with
   | none=>rw [e2] at h;simp at h
   | some w=>rw [e2] at h;simp at h;rw [h]
def CompEnd (X:Cx) (pins:List (Addr×Obj)) (σ:L2.St) (Q:VK) (use:Option (Value→Sem Unit)) (QQ:Value→Shared→Prop):Prop:=
 ∀ (D C:Addr) (H5:Hp) (s6:Shared),Q (.ref D) H5→Inv X pins σ H5 s6→(∃ m,s6.heap.Ns C m)→H5 C=none→C≠X.env.locals→X.s₀.heap.objs.size≤C→(∀ x c,X.env.cells.lookup x=some c→c≠C)→(∀ p∈X.pn++pins,p.1≠C)→C∉X.fs→
  compPost (model X.prog X.w) X.A X.xe use QQ (.ref D) C (.ok .next) s6
theorem Zp {X:Cx} {N':List Str} {φ:List (Option Nat)} {sc:Scope} {elt iter tg:Expr} {ifs:List Expr} {pos pos':Pos} {wi:TI} {g:TG} {tc:TT} {te:TE} {use:Option (Value→Sem Unit)} {QQ:Value→Shared→Prop} (hcalm:X.calm=true) (S:CompOk X N' φ sc) (hi:PI X tg iter wi)
  (hin:∀ cl C s₃ H₃ ex,PG (compX X N' sc cl C s₃ H₃ ex) tg g∧PIfs (compX X N' sc cl C s₃ H₃ ex) ifs tc∧PE (compX X N' sc cl C s₃ H₃ ex) elt te) (hs:∀ x,foldedSetIterable iter X.env x=pure x)
  {pins:List (Addr×Obj)} {s:Shared} {σ:L2.St} {H:Hp} {Q:VK} (I:Inv X pins σ H s) (h:tComp φ wi g tc te σ H Q) (fin:CompEnd X pins σ Q use QQ) :
  wpAny (model X.prog X.w) X.A (comprehension (.ListComp elt [⟨tg,iter,ifs,0⟩] sc pos) sc X.env pos' (newList []) false (eval iter X.env) use) QQ X.xe s:=by
 obtain ⟨cl,hcl,p1,p3⟩:=Zm5 (env:=X.env) (sc:=sc) fun x hx hf=>I.ok.has x.1 (.inl (S.frees x hx hf))
 refine wpAny_comprehension_free (use:=use) rfl hs hcl S.kind S.names ?_
 refine thn (hi pins s σ H _ I h) fun v s1 h1=>thn h1 fun itv s2 h2=>?_
 obtain ⟨it,fp,tn,J,H2,e,I2,T,st2,f2,hR⟩:=h2
 subst e
 refine wpAny_newObj_type ?_
 have hf:H2 s2.heap.objs.size=none:=I2.hok.fresh (Nat.le_refl _)
 obtain ⟨W,⟨m0,w0⟩,turn⟩:=hR s2.heap.objs.size hf
 generalize eD:s2.heap.objs.size=D at *
 have I3:Inv X pins σ (upd H2 D (.lst [])) { s2 with heap:=s2.heap.push { cls:=.type "list",dict:=none,data:=.seq ([]:List Value).toArray } }:=
  I2.laid (t':=s2.toks) (fun b u e=>Heap.get?_push_of_some _ e) (Nat.le_of_eq eD) ⟨Nat.zero_le _,[],0,.nil,by rw [← eD];exact Heap.get?_push_size _ rfl⟩
 have st3:tn 0 (s2.heap.push { cls:=.type "list",dict:=none,data:=.seq ([]:List Value).toArray }):=T.keep _ _ _ st2 fun b _ o e=>Heap.get?_push_of_some _ e
 have hfpD:∀ b∈fp,b≠D:=fun b hb z=>by
  obtain ⟨o,ho,_⟩:=T.obj _ _ st2 b hb
  have:=Heap.lt_size ho
  rw [z,← eD] at this
  exact Nat.lt_irrefl _ this
 have f3:∀ b∈fp,FpOk X pins (upd H2 D (.lst [])) b:=fun b hb=>⟨by rw [Za7 (hfpD b hb)];exact (f2 b hb).1,(f2 b hb).2⟩
 generalize es3:({ s2 with heap:=s2.heap.push { cls:=.type "list",dict:=none,data:=.seq ([]:List Value).toArray } }:Shared)=s3 at *
 have st3':tn 0 s3.heap:=by rw [← es3];exact st3
 generalize eH3:upd H2 D (.lst [])=H3 at *
 refine wpAny_newFunctionEnv S.nocell (by intro y hy;simp at hy) (fun h₁ hns₁ hsb₁=>?_) S.kind
 have hh3:s3.heap=s2.heap.push { cls:=.type "list",dict:=none,data:=.seq ([]:List Value).toArray }:=by rw [← es3]
 rw [hh3] at hns₁ hsb₁
 rw [← hh3] at hns₁ hsb₁
 have old:∀ b o,s3.heap.get? b=some o→h₁.get? b=some o:=fun b o e=>hsb₁.extBut b o (Nat.ne_of_lt (Heap.lt_size e)) (Heap.get?_push_of_some _ e)
 have hC0:s3.heap.get? s3.heap.objs.size=none:=by
  cases e:s3.heap.get? s3.heap.objs.size with
  | none=>rfl
  | some o=>exact absurd (Heap.lt_size e) (Nat.lt_irrefl _)
 generalize eC:s3.heap.objs.size=C at *
 have hH3C:H3 C=none:=I3.hok.fresh (Nat.le_of_eq eC)
 have OK:(compX X N' sc cl C s3 H3 fp).Ok:=by
  refine ⟨I.ok.mod,?_,I.ok.glob,I.ok.blt,Nat.le_of_eq eC,fun x y c h1 h2=>I.ok.inj x y c (p1 x c h1) (p1 y c h2),?_,(fun x c hx=>by cases hx),I.ok.hd,I.ok.frames,.inl rfl,?_,I3.bs,Nat.le_trans I.ok.bsz I3.sz,?_,?_,I3.stack,I3.stkFree⟩
  ·exact S.kind
  ·intro x hx
   have hx':(∃ k,(x,k)∈sc.names∧(NameKind.cell=k∨k=.free))∨∃ k,(x,k)∈sc.names∧(NameKind.free=k∨k=.free):=hx.imp Zff Zff
   have hfr:(x,NameKind.free)∈sc.names:=by
    rcases hx' with ⟨k,hm,rfl | rfl⟩ | ⟨k,hm,rfl | rfl⟩
    ·exact absurd rfl (S.nocell _ hm)
    ·exact hm
    ·exact hm
    ·exact hm
   exact p3 _ hfr rfl
  ·intro b hb
   refine ⟨fun z=>?_,fun x c hx=>(f3 b hb).2.2.2.2.1 x c (p1 x c hx)⟩
   obtain ⟨o,ho,_⟩:=T.obj _ _ st3' b hb
   have z':b=C:=z
   rw [z',hC0] at ho
   cases ho
  ·intro b o hb hx
   obtain ⟨_,_,_,q,_,_⟩:=f3 b hx
   rcases q with q | q
   ·exact I.ok.noex b o hb q
   ·have:=Nat.lt_of_lt_of_le (Heap.lt_size hb) (Nat.le_trans I.ok.bsz q)
    exact Nat.lt_irrefl _ this
  ·intro b hb hz
   rcases List.mem_cons.mp (I.stkSub b hz) with q | q
   ·exact (f3 b hb).2.1 q
   ·exact (f3 b hb).2.2.1 q
 have hlen0:(atStart φ σ).length=N'.length:=by unfold atStart;rw [List.length_map];exact S.len
 have I4:Inv (compX X N' sc cl C s3 H3 fp) [] (atStart φ σ) H3 { s3 with heap:=h₁,toks:=s3.toks + ([]:List (Str×Value)).length }:=by
  refine ⟨OK,rfl,I3.bare,Un.kept old,⟨_,hns₁,fun i x v h1 h2 h3=>?_⟩,fun x c hx=>?_,hH3C,fun x c hx=>I3.freeC x c (p1 x c hx),fun p hp=>?_,I3.hok.kept old,hlen0⟩
  ·obtain ⟨j,hj,hv⟩:=Zhx h2
   obtain ⟨hN,hfr⟩:=S.pick i x j h1 hj
   obtain ⟨m,_,hl⟩:=I3.loc
   have hm:(x,NameKind.free)∈sc.names:=PySem.mem_of_lookup hfr
   have hcell:=S.frees _ hm rfl
   obtain ⟨u,ru,lk⟩:=hl j x v hN hv (.inr (.inl hcell))
   refine ⟨u,ru,.inr ⟨.inl (Zha S.okind hfr hcell),?_⟩⟩
   obtain ⟨c,hc⟩:=p3 _ hm rfl
   rcases lk with ⟨hk,_⟩ | ⟨_,c',hc',hcl'⟩
   ·have hk':X.env.scope.names.lookup x=some .local:=hk
    rw [hcell] at hk'
    cases hk'
   ·have e:=p1 _ _ hc
    rw [hc'] at e
    cases e
    obtain ⟨o,ho,hd⟩:=hcl'
    exact ⟨_,hc,o,old _ o ho,hd⟩
  ·obtain ⟨v,hv⟩:=I3.cell x c (p1 x c hx)
   obtain ⟨o,ho,hd⟩:=hv
   exact ⟨v,o,old _ o ho,hd⟩
  ·exact absurd hp (by simp [compX])
 have st4:tn 0 h₁:=T.keep _ _ _ st3' fun b _ o e=>old b o e
 have stat:∀ {H':Hp},(∀ b∈fp,H' b=none)→∀ b∈fp,FpOk (compX X N' sc cl C s3 H3 fp) [] H' b:=fun hn b hb=>
  ⟨hn b hb,(OK.exf b hb).1,OK.exfs b hb,.inl hb,(OK.exf b hb).2,fun p hp=>absurd hp (by simp [compX])⟩
 obtain ⟨hPG,hPI,hPE⟩:=hin cl C s3 H3 fp
 have loop:codeAny (model X.prog X.w) X.A (.compLoop (.ListComp elt [⟨tg,iter,ifs,0⟩] sc pos) 0 (.ref it) (.ref D) (compEnvC sc cl C X.env)) (compPost (model X.prog X.w) X.A X.xe use QQ (.ref D) C) { s3 with heap:=h₁,toks:=s3.toks + ([]:List (Str×Value)).length }:=by
  refine Zl1 (fun n s'=>∃ i ys σ' H',Inv (compX X N' sc cl C s3 H3 fp) [] σ' H' s'∧Sub (atStart φ σ) σ'∧tn i s'.heap∧(∀ b∈fp,H' b=none)∧W i n ys H') ?_ m0 ⟨0,[],_,_,I4,Sub.refl,st4,fun b hb=>(f3 b hb).1,w0⟩
  rintro n s5 ⟨i,ys,σ5,H5,I5,sub5,st5,fr5,w5⟩
  have I5':=Own.Inv.weak I5 sub5
  rcases turn i n ys H5 w5 with ⟨stop,qn⟩ | ⟨go,step⟩
  ·refine thn (T.done (compX X N' sc cl C s3 H3 fp) rfl rfl rfl hcalm i [] s5 _ H5 _ I5' (stat fr5) st5 stop) fun r s6 ⟨hr,I6⟩=>?_
   subst hr
   obtain ⟨m,hn,_⟩:=I6.loc
   obtain ⟨hh,gg,dd,tt,oo⟩:=s6
   obtain rfl:oo=s3.os:=I6.os
   have R:Inv X pins σ H5 { s3 with heap:=hh,gens:=gg,drawn:=dd,toks:=tt }:=I3.call (ch:=fp) (h':=hh) (g':=gg) (d':=dd) (t':=tt) I6.base I6.hok I6.bare fun b hb=>⟨(f3 b hb).2.2.2.1,(f3 b hb).2.1,(f3 b hb).2.2.2.2.1,(f3 b hb).2.2.2.2.2⟩
   have hC3:s3.heap.objs.size≤C:=Nat.le_of_eq eC
   obtain ⟨q0,q1,q2,q3,q4,q5⟩:=I3.fpOk (b:=C) (H':=H3) hC3 hH3C
   refine fin D C H5 _ qn R ⟨m,hn⟩ I6.free q1 (Nat.le_trans I3.sz hC3) q4 q5 q2
  ·refine thn (T.item (compX X N' sc cl C s3 H3 fp) rfl rfl rfl hcalm i [] s5 _ H5 _ I5' (stat fr5) st5 go) fun r s6 ⟨u,hr,h6⟩=>?_
   subst hr
   refine thn h6 fun _ s7 ⟨x,H7,I7,r7,y7,st7,fr7⟩=>?_
   have I7':=I7.pinned (stat fr7) (T.obj _ _ st7)
   refine thn (hPG _ s7 _ H7 x u _ I7' r7 (step x H7 y7)) fun _ s8 ⟨σ8,H8,I8,sub8,q8⟩=>?_
   refine thn (hPI _ s8 σ8 H8 _ I8 q8) fun ok s9 ⟨H9,I9,q9⟩=>?_
   have again:∀ {s10:Shared} {H10:Hp} {ys':List V} {m':Nat},Inv (compX X N' sc cl C s3 H3 fp) ([]++pinsAt fp s7.heap) σ8 H10 s10→W (i + 1) m' ys' H10→∃ i ys σ' H',Inv (compX X N' sc cl C s3 H3 fp) [] σ' H' s10∧Sub (atStart φ σ) σ'∧tn i s10.heap∧(∀ b∈fp,H' b=none)∧W i m' ys H':=fun {s10 H10 ys' m'} J10 w10=>by
    refine ⟨i + 1,ys',σ8,H10,J10.unpinned,sub8,T.keep _ _ _ st7 fun b hb o e=>(J10.pin (b,o) (List.mem_append_right _ (List.mem_append_right _ (Zfp hb e)))).1,fun b hb=>?_,w10⟩
    obtain ⟨o,e,d⟩:=T.obj _ _ st7 b hb
    exact (J10.pin (b,o) (List.mem_append_right _ (List.mem_append_right _ (Zfp hb e)))).2.1
   cases ok with
   | false=>
    obtain ⟨m',hm,w'⟩:=q9
    exact ⟨m',hm,again I9 w'⟩
   | true=>
    refine thn (hPE _ s9 σ8 H9 _ I9 q9) fun xv s10 ⟨y,H10,I10,r10,hD,hl,m',hm,w'⟩=>?_
    refine thn (Zdy _ s10 σ8 H10 (.ref D) [y] (.ref D) [xv] (fun _ H11=>H11=upd H10 D (.lst (ys++[y]))) I10 rfl (.cons r10 .nil) ⟨D,ys,y,rfl,rfl,hD,hl,rfl⟩) fun _ s11 ⟨_,H11,I11,_,e11⟩=>?_
    subst e11
    exact ⟨m',hm,again I11 w'⟩
 refine codeAny_compStart_list loop (T.self _ 0 _ _ _ st4 loop)
theorem Zh0 {X:Cx} {N':List Str} {φ:List (Option Nat)} {sc:Scope} {elt iter tg:Expr} {ifs:List Expr} {pos:Pos} {wi:TI} {g:TG} {tc:TT} {te:TE} (hcalm:X.calm=true) (S:CompOk X N' φ sc) (hi:PI X tg iter wi)
  (hin:∀ cl C s₃ H₃ ex,PG (compX X N' sc cl C s₃ H₃ ex) tg g∧PIfs (compX X N' sc cl C s₃ H₃ ex) ifs tc∧PE (compX X N' sc cl C s₃ H₃ ex) elt te)
  (hs:∀ x,foldedSetIterable iter X.env x=pure x:=by intro _;rfl):PE X (.ListComp elt [⟨tg,iter,ifs,0⟩] sc pos) (tComp φ wi g tc te):=by
 intro pins s σ H Q I h
 rw [eval_ListComp]
 refine Zp (use:=none) hcalm S hi hin hs I h fun D C H5 s6 q R hm c0 c1 c2 c3 c4 c5=>?_
 obtain ⟨m,hn⟩:=hm
 exact ⟨m,hn,fun h' sb=>⟨.ref D,H5,R.turned (it:=C) (t':=s6.toks) (fun b o hb e=>sb.extBut b o hb e) c0 c1 (.inr c2) c3 c4,rfl,q⟩⟩
def compChk (sc osc:Scope) (N N':List Str) (φ:List (Option Nat)):Bool:=
 sc.kind == .function && osc.kind == .function && (sc.names.all fun y=>y.2 != .cell && (y.2 != .local || sc.names.lookup y.1 == some .local) && (y.2 != .free || osc.names.lookup y.1 == some .cell)) &&
  φ.length == N'.length && ((N'.zip φ).all fun p=>match p.2 with | none=>true | some j=>N[j]? == some p.1 && sc.names.lookup p.1 == some .free)
theorem CompOk.of {X:Cx} {N':List Str} {φ:List (Option Nat)} {sc:Scope} (h:compChk sc X.env.scope X.N N' φ=true):CompOk X N' φ sc:=by
 unfold compChk at h
 simp only [Bool.and_eq_true,beq_iff_eq,List.all_eq_true,Bool.or_eq_true,bne_iff_ne,ne_eq] at h
 obtain ⟨⟨⟨⟨h1,h2⟩,h3⟩,h4⟩,h5⟩:=h
 refine ⟨h1,h2,fun y hy=>(h3 y hy).1.1,fun y hy hl=>?_,fun y hy hf=>?_,h4,fun i x j hi hj=>?_⟩
 ·rcases (h3 y hy).1.2 with z | z
  ·exact absurd hl z
  ·exact z
 ·rcases (h3 y hy).2 with z | z
  ·exact absurd hf z
  ·exact z
 ·have hz:(N'.zip φ)[i]?=some (x,some j):=by rw [List.getElem?_zip_eq_some];exact ⟨hi,hj⟩
  have:=h5 _ (List.mem_of_getElem? hz)
  simpa using this
end Own
namespace SetR
open PySem PySem.Spec PyProof.Rows L2
def Rise (xs:Array Nat):Prop:=xs.toList.Pairwise (· < ·)
structure Tb (b:Bool) (t:SetTable):Prop where
 led:t.led=b
 dum:t.dummies=#[]
 ris:Rise t.place
def keyOf (e:Int×Value):Int:=match e.2 with
 | .int k _=>k
 | _=>0
def Ent (e:Int×Value):Prop:=∃ (k:Int) (t:Tok),e=(hashInt k,.int k t)
section
variable (prog:Program) (w:World)
def byText (w:World):Bool:=w.params.followText "set-order"
structure SetAt (h:Heap) (a:Addr) (js:List Int) (es:Array (Int×Value)) (ep:Nat) (t:SetTable):Prop where
 obj:∃ o,h.get? a=some o∧o.ExactSet∧o.data=.set es ep t
 ent:∀ e∈es.toList,Ent e
 per:(es.toList.map keyOf).Perm js
 nod:js.Nodup
 few:es.size < scanBound
 fit:t.fits es.size=true
 tab:Tb (!byText w) t
end
section
variable {prog:Program} {w:World} {A:Around} {E:Value→Shared→Prop} {s:Shared}
theorem SetB.len {h:Heap} {a:Addr} {js:List Int} {es:Array (Int×Value)} {ep:Nat} {t:SetTable} (S:SetAt w h a js es ep t):es.size=js.length:=by
 have:=S.per.length_eq
 simpa using this
end
end SetR
namespace SetR
open PySem PySem.Spec PyProof.Rows L2
section
variable {prog:Program} {w:World} {A:Around} {E:Value→Shared→Prop} {s:Shared} {I a:Addr} {first:Value} {i n ep:Nat} {js:List Int} {es:Array (Int×Value)} {t:SetTable}
theorem SetAt.keep {h h':Heap} (S:SetAt w h a js es ep t) (k:∀ o,h.get? a=some o→h'.get? a=some o):SetAt w h' a js es ep t:=by
 obtain ⟨⟨o,ho,r⟩,b,c,d,e,f,g⟩:=S
 exact ⟨⟨o,k o ho,r⟩,b,c,d,e,f,g⟩
end
end SetR
namespace Own
open PySem PySem.Spec PyProof.Rows L2
section
variable {X:Cx}
end
section
variable {X:Cx} {K:PySem.W.Frag}
theorem Zai (hK:X.K=K:=by rfl):IxR X (fun x y H Q=>rIxL K x y H Q∨rIxT K x y H Q):=by subst hK;exact Zsc
theorem Zax (hK:X.K=K:=by rfl):CallR X (.builtin "len") (fun xs H Q=>∃ x n,xs=[x]∧LenV K x H n∧Q (.int n) H):=by subst hK;exact Zpa
theorem Zrj (hK:X.K=K:=by rfl):OpR X (compareOp .In) (rIn K false):=by subst hK;exact Zo8
theorem Znk (hK:X.K=K:=by rfl):OpR X (compareOp .NotIn) (rIn K true):=by subst hK;exact Zj6
theorem Zrf {pos:Pos} {es:List Expr} {k:Nat} {t:TGs} {n:Nat} (hc:X.calm=true) (h:PGs X es t) (hK:X.K=K:=by rfl)
  (hn:(assignEach es X.env).length=n:=by rfl) (hst:(assignEach es X.env).findIdx? (·.1)=none:=by rfl):PG X (.Tuple es k pos) (gTup K n t):=by subst hK;exact Zry hc h hn hst
end
section
variable {α:Type} {R:Hp→V→α→Prop} {φ:List (Option Nat)} {g:TG} {tc:TT} {te:TE} {σ:L2.St} {H1:Hp} {F:Hp→Prop} {D:Addr}
end
end Own
namespace Own
open PySem PySem.Spec PyProof.Rows L2
def eqL (xs ys:List V):Bool:=decide (xs.length=ys.length) && (List.range xs.length).all fun j=>eqV (xs.getD j .non) (ys.getD j .non)
def rEqL (K:PySem.W.Frag) (neg:Bool):R2:=fun x y H Q=>∃ (p q:Addr) (xs ys:List V),x=.ref p∧y=.ref q∧SqL K H p xs∧SqL K H q ys∧xs.all flatV=true∧ys.all flatV=true∧Q (.bl (if neg then !eqL xs ys else eqL xs ys)) H
section
variable {X:Cx}
theorem Zog {A:Around} {s:Shared} {xs ys:List V} {us ws:List Value} (r1:Vals xs us) (r2:Vals ys ws) (f1:xs.all flatV=true) (f2:ys.all flatV=true) (j:Nat) (h1:j < us.toArray.size) (h2:j < ws.toArray.size) :
  SeqAt.EqAt A s us.toArray[j] ws.toArray[j] (eqV (xs.getD j .non) (ys.getD j .non)):=by
 have l1:=r1.length
 have l2:=r2.length
 have g1:j < us.length:=by simpa using h1
 have g2:j < ws.length:=by simpa using h2
 have k1:xs[j]?=some (xs[j]'(by omega)):=List.getElem?_eq_getElem _
 have k2:ys[j]?=some (ys[j]'(by omega)):=List.getElem?_eq_getElem _
 obtain ⟨u,eu,ru⟩:=r1.get k1
 obtain ⟨w,ew,rw'⟩:=r2.get k2
 have e1:us.toArray[j]=u:=by
  have:us[j]?=some us[j]:=List.getElem?_eq_getElem g1
  rw [this] at eu
  simpa using Option.some.inj eu
 have e2:ws.toArray[j]=w:=by
  have:ws[j]?=some ws[j]:=List.getElem?_eq_getElem g2
  rw [this] at ew
  simpa using Option.some.inj ew
 have d1:xs.getD j .non=xs[j]'(by omega):=by rw [List.getD_eq_getElem?_getD,k1];rfl
 have d2:ys.getD j .non=ys[j]'(by omega):=by rw [List.getD_eq_getElem?_getD,k2];rfl
 rw [e1,e2,d1,d2]
 exact Zp3 ru rw' (List.all_eq_true.mp f1 _ (List.getElem_mem _)) (List.all_eq_true.mp f2 _ (List.getElem_mem _))
theorem Zqj (hu:X.A.units < cLine):OpR X (compareOp .Eq) (rEqL X.K false):=by
 intro pins s σ H x y v u Q I rx ry h
 obtain ⟨p,q,xs,ys,rfl,rfl,hp,hq,f1,f2,k⟩:=h
 obtain rfl:v=Value.ref p:=rx
 obtain rfl:u=Value.ref q:=ry
 obtain ⟨us,r1,p1,_⟩:=I.list hp
 obtain ⟨ws,r2,p2,_⟩:=I.list hq
 have l1:=r1.length
 have l2:=r2.length
 have k':Q (.bl (eqL xs ys)) H:=k
 by_cases e:xs.length=ys.length
 ·refine SeqAt.eq_listAt p1.isList p2.isList (by simp;omega) hu (fun j h1 h2=>Zog r1 r2 f1 f2 j h1 h2) ⟨.bl (eqL xs ys),H,I,?_,k'⟩
  show _=Value.bool (eqL xs ys)
  unfold eqL
  rw [decide_eq_true e,Bool.true_and,List.size_toArray,← l1]
 ·refine SeqAt.eq_list_lengthsAt p1.isList p2.isList (by simp;omega) hu ⟨.bl (eqL xs ys),H,I,?_,k'⟩
  show _=Value.bool (eqL xs ys)
  unfold eqL
  rw [decide_eq_false e]
  rfl
theorem Zrm (hu:X.A.units < cLine):OpR X (compareOp .NotEq) (rEqL X.K true):=by
 intro pins s σ H x y v u Q I rx ry h
 obtain ⟨p,q,xs,ys,rfl,rfl,hp,hq,f1,f2,k⟩:=h
 obtain rfl:v=Value.ref p:=rx
 obtain rfl:u=Value.ref q:=ry
 obtain ⟨us,r1,p1,_⟩:=I.list hp
 obtain ⟨ws,r2,p2,_⟩:=I.list hq
 have l1:=r1.length
 have l2:=r2.length
 have k':Q (.bl (!eqL xs ys)) H:=k
 by_cases e:xs.length=ys.length
 ·refine SeqAt.RcNeAt.lists p1.isList p2.isList (by simp;omega) hu (fun j h1 h2=>Zog r1 r2 f1 f2 j h1 h2) _ _ _ _ ⟨.bl (!eqL xs ys),H,I,?_,k'⟩
  show _=Value.bool (!eqL xs ys)
  unfold eqL
  rw [decide_eq_true e,Bool.true_and,List.size_toArray,← l1]
 ·refine SeqAt.RcNeAt.lists_lengths p1.isList p2.isList (by simp;omega) hu _ _ _ _ ⟨.bl (!eqL xs ys),H,I,?_,k'⟩
  show _=Value.bool (!eqL xs ys)
  unfold eqL
  rw [decide_eq_false e]
  rfl
end
section
variable {X:Cx} {K:PySem.W.Frag}
end
theorem Zjl (xs ys:List Int):eqL (xs.map V.int) (ys.map V.int)=decide (xs=ys):=by
 unfold eqL
 rw [List.length_map,List.length_map]
 by_cases e:xs=ys
 ·subst e
  rw [decide_eq_true rfl,decide_eq_true rfl,Bool.true_and,List.all_eq_true]
  intro j hj
  have hj':j < xs.length:=by simpa using hj
  rw [List.getD_eq_getElem?_getD,List.getElem?_map,List.getElem?_eq_getElem hj']
  show (xs[j] == xs[j])=true
  simp
 ·rw [decide_eq_false e]
  by_cases hl:xs.length=ys.length
  ·rw [decide_eq_true hl,Bool.true_and,Bool.eq_false_iff]
   intro hall
   apply e
   apply List.ext_getElem hl
   intro j h1 h2
   have:=List.all_eq_true.mp hall j (by simpa using h1)
   rw [List.getD_eq_getElem?_getD,List.getElem?_map,List.getElem?_eq_getElem h1,List.getD_eq_getElem?_getD,List.getElem?_map,List.getElem?_eq_getElem h2] at this
   have h3:(xs[j] == ys[j])=true:=this
   simpa using h3
  ·rw [decide_eq_false hl]
   rfl
theorem Zdd (xs:List Int):(xs.map V.int).all flatV=true:=by
 rw [List.all_map]
 exact List.all_eq_true.mpr fun _ _=>rfl
end Own
namespace M
open PySem PySem.Spec PyProof.Rows L2 Own
def LV {α:Type} (R:Hp→V→α→Prop) (H:Hp) (vs:List V) (xs:List α):Prop:=
 vs.length=xs.length∧∀ (i:Nat) (x:α),xs[i]?=some x→∃ v,vs[i]?=some v∧R H v x
def LAt {α:Type} (R:Hp→V→α→Prop) (H:Hp) (l:Addr) (xs:List α):Prop:=∃ vs,H l=some (.lst vs)∧LV R H vs xs
def PairR (H:Hp) (v:V) (q:Int×Int):Prop:=∃ a,v=.ref a∧H a=some (.tup [.int q.1,.int q.2])
section
variable {α:Type} {R:Hp→V→α→Prop} {H H':Hp} {vs:List V} {xs:List α} {l:Addr}
theorem LV.nil:LV R H [] ([]:List α):=⟨rfl,fun i x e=>by simp at e⟩
theorem LV.get {i:Nat} {v:V} (h:LV R H vs xs) (e:vs[i]?=some v):∃ x,xs[i]?=some x∧R H v x:=by
 have hi:i < xs.length:=by rw [← h.1];exact (List.getElem?_eq_some_iff.mp e).1
 obtain ⟨v',e',r⟩:=h.2 i xs[i] (by simp [hi])
 rw [e] at e';cases e'
 exact ⟨_,by simp [hi],r⟩
end
def Menu (m:List Int):Prop:=∃ a b c d e:Int,m=[a,b,c,d,e]∧(1≤a∧a≤10)∧(1≤b∧b≤9∧(b=1∨b=3∨b=7∨b=9))∧(0≤c∧c≤9)∧(1≤d∧d≤1000)∧(1≤e∧e + d≤1001)
def Field (ps:List (Int×Int)):Prop:=∀ q∈ps,1≤q.1∧q.1≤10∧1≤q.2∧q.2≤1000
theorem Zn2 (z:Int) (xs:List Int):inV (.int z) (xs.map V.int)=decide (z∈xs):=by
 unfold inV
 rw [List.any_map]
 induction xs with
 | nil=>simp
 | cons x r ih=>
  rw [List.any_cons,ih]
  show ((x == z) || _)=_
  by_cases e:x=z
  ·subst e;simp
  ·have:(x == z)=false:=by simpa using e
   rw [this]
   simp only [Bool.false_or]
   by_cases h:z∈r
   ·rw [decide_eq_true h,decide_eq_true (List.mem_cons_of_mem _ h)]
   ·rw [decide_eq_false h,decide_eq_false]
    intro hz
    rcases List.mem_cons.mp hz with hz | hz
    ·exact e hz.symm
    ·exact h hz
section
variable (ps:List (Int×Int))
end
section
variable {ps:List (Int×Int)}
end
end M
namespace ExcR
open PySem PySem.Spec PyProof.Rows L2
structure KeepX (fs ex:List Addr) (h h':Heap):Prop where
 keep:∀ b o,h.get? b=some o→b∉fs→b∉ex→h'.get? b=some o
 slot:∀ b o,h.get? b=some o→b∉ex→∃ sl,h'.get? b=some { o with slots:=sl }
 size:h.objs.size≤h'.objs.size
theorem KeepX.trans {fs ex:List Addr} {h1 h2 h3:Heap} (a:KeepX fs ex h1 h2) (b:KeepX fs ex h2 h3):KeepX fs ex h1 h3:=
 ⟨fun c o e n m=>b.keep c o (a.keep c o e n m) n m,fun c o e m=>by
  obtain ⟨s1,e1⟩:=a.slot c o e m
  obtain ⟨s2,e2⟩:=b.slot c _ e1 m
  exact ⟨s2,e2⟩,Nat.le_trans a.size b.size⟩
theorem KeepX.mono {fs fs' ex ex':List Addr} {h1 h2:Heap} (a:KeepX fs ex h1 h2) (hf:∀ b∈fs,b∈fs') (hx:∀ b∈ex,b∈ex'):KeepX fs' ex' h1 h2:=
 ⟨fun c o e n m=>a.keep c o e (fun z=>n (hf c z)) (fun z=>m (hx c z)),fun c o e m=>a.slot c o e fun z=>m (hx c z),a.size⟩
structure Trc (h:Heap) (e T:Addr) (cls fl:Value):Prop where
 ne:T≠e
 exc:∃ oe vs,h.get? e=some oe∧oe.cls=cls∧oe.data=.fields vs∧vs[1]?=some (.ref T)
 ent:∃ oT ts,h.get? T=some oT∧oT.data=.fields ts∧ts[3]?=some fl
section
variable {M:Model} {A:Around} {E:Value→Shared→Prop} {s:Shared} {base:Heap} {env:Env} {outer:List Env} {L e:Addr}
theorem Zky {oe:Obj} {vs:Array Value} {head:Value} {hadNext:Bool} {Q:Unit→Shared→Prop} (hfr:A.frames=some (env :: outer)) (hl:s.heap.FunFrames base (env :: outer)) (hf:env.frame=some L)
  (he:s.heap.get? e=some oe) (hd:oe.data=.fields vs) (hsz:1 < vs.size)
  (h:∀ h' T,s.heap.objs.size≤T→Trc h' e T oe.cls (rawInt L)→KeepX (frs (env :: outer)) [e] s.heap h'→Q () { s with heap:=h' }) :
  wpAny M A (do let a ← frameOf env;let pl ← entryPlaceOf L hadNext;let b ← EntryCells.newEntry head a .none (rawInt L) .none pl;setField (.ref e) 1 b) Q E s:=by
 have hene:e∉frs (env :: outer):=fun hm=>by
  obtain ⟨_,o,ho,hnf⟩:=hl.mem hm
  rw [he] at ho
  cases ho
  exact hnf vs hd
 refine wpAny_bind (wpAny_frameOf_fun hfr hl hf fun h1 s1=>wpAny_bind (wpAny_entryPlaceOf fun pl hpl=>?_))
 unfold EntryCells.newEntry newFields
 refine wpAny_bind (wpAny_newObj_type ?_ (hpl.sizeOk5 _ _ _ _ _))
 have he1:h1.get? e=some oe:=(s1.2.1 e hene).trans he
 generalize eo:({ cls:=.type "traceback",dict:=none,data:=.fields ([head,.ref L,.none,rawInt L,.none]++(if pl.isEmpty then List.replicate 6 Value.none else pl)).toArray }:Obj)=ot
 have he2:=Heap.get?_push_of_some (h:=h1) ot he1
 refine wpAny_setField he2 hd hsz (h _ h1.objs.size (Nat.le_of_eq s1.1.symm) ?_ ?_)
 ·have ne1:h1.objs.size≠e:=Nat.ne_of_gt (Heap.lt_size he1)
  have d3:=Obj.data_mapFields hd (·.setIfInBounds 1 (Value.ref h1.objs.size))
  refine ⟨ne1,⟨_,_,Heap.get?_update_self _ he2 (Obj.isFreed_of_fields d3),Obj.cls_mapFields _ _,d3,by simp [hsz]⟩,ot,_,?_,by rw [← eo],?_⟩
  ·exact (Heap.get?_update_other _ _ (Ne.symm ne1)).trans (Heap.get?_push_size h1 (by rw [← eo];rfl))
  ·first
    | (simp;done)
    | (rcases hpl with rfl | ⟨_,_,_,_,_,_,_,rfl⟩<;>simp)
 ·refine ⟨fun b o q nb nx=>?_,fun b o q nx=>?_,?_⟩
  ·have hbe:b≠e:=fun z=>nx (by simp [z])
   rw [Heap.get?_update_other _ _ (Ne.symm hbe)]
   exact Heap.get?_push_of_some _ ((s1.2.1 b nb).trans q)
  ·have hbe:b≠e:=fun z=>nx (by simp [z])
   obtain ⟨sl,q1⟩:=s1.2.2 b o q
   exact ⟨sl,by rw [Heap.get?_update_other _ _ (Ne.symm hbe)];exact Heap.get?_push_of_some _ q1⟩
  ·rw [Heap.size_update,Heap.size_push,s1.1]
   exact Nat.le_succ _
theorem Zms {oe:Obj} {vs:Array Value} {Q:Unit→Shared→Prop} (hfr:A.frames=some (env :: outer)) (hl:s.heap.FunFrames base (env :: outer)) (hf:env.frame=some L)
  (he:s.heap.get? e=some oe) (hd:oe.data=.fields vs) (h1:vs[1]?=some .none)
  (h:∀ h' T,s.heap.objs.size≤T→Trc h' e T oe.cls (rawInt L)→KeepX (frs (env :: outer)) [e] s.heap h'→Q () { s with heap:=h' }):wpAny M A (noteFrame (.ref e) env) Q E s:=by
 unfold noteFrame
 simp only [hf]
 refine wpAny_bind (wpAny_field he hd h1 ?_)
 rw [if_neg (by decide)]
 exact Zky hfr hl hf he hd (Array.getElem?_eq_some_iff.mp h1).1 h
theorem Zks {T:Addr} {cls fl:Value} {Q:Unit→Shared→Prop} (x:Trc s.heap e T cls fl) (h:∀ h',Trc h' e T cls .none→KeepX [] [T] s.heap h'→Q () { s with heap:=h' }) :
  wpAny M A (setField (.ref T) 3 .none) Q E s:=by
 obtain ⟨ne,⟨oe,vs,g1,g2,g3,g4⟩,oT,ts,k1,k2,k3⟩:=x
 have hz:=(Array.getElem?_eq_some_iff.mp k3).1
 refine wpAny_setField k1 k2 hz (h _ ?_ ?_)
 ·have d3:=Obj.data_mapFields k2 (·.setIfInBounds 3 Value.none)
  exact ⟨ne,⟨oe,vs,(Heap.get?_update_other _ _ ne).trans g1,g2,g3,g4⟩,_,_,Heap.get?_update_self _ k1 (Obj.isFreed_of_fields d3),d3,by simp [hz]⟩
 ·have ot:∀ b,b≠T→(s.heap.update T (Obj.mapFields (·.setIfInBounds 3 Value.none))).get? b=s.heap.get? b:=fun b hb=>Heap.get?_update_other _ _ (Ne.symm hb)
  exact ⟨fun b o q _ nx=>(ot b fun z=>nx (by simp [z])).trans q,fun b o q nx=>⟨o.slots,(ot b fun z=>nx (by simp [z])).trans q⟩,Nat.le_of_eq (Heap.size_update ..).symm⟩
theorem Zkl {T:Addr} {cls:Value} {Q:Unit→Shared→Prop} (hfr:A.frames=some (env :: outer)) (hl:s.heap.FunFrames base (env :: outer)) (hf:env.frame=some L) (x:Trc s.heap e T cls .none)
  (h:∀ h' T',s.heap.objs.size≤T'→Trc h' e T' cls (rawInt L)→KeepX (frs (env :: outer)) [e,T] s.heap h'→Q () { s with heap:=h' }):wpAny M A (noteFrame (.ref e) env) Q E s:=by
 obtain ⟨ne,⟨oe,vs,g1,g2,g3,g4⟩,oT,ts,k1,k2,k3⟩:=id x
 unfold noteFrame
 simp only [hf]
 refine wpAny_bind (wpAny_field g1 g3 g4 ?_)
 rw [if_pos (show (Value.ref T != Value.none)=true from by simp)]
 refine wpAny_bind (wpAny_field k1 k2 k3 ?_)
 rw [if_neg (show ¬ ((Value.none == rawInt L)=true) from by simp [rawInt])]
 refine wpAny_bind (Zks x fun h1 x1 K1=>?_)
 have hTf:T∉frs (env :: outer):=fun hm=>by
  obtain ⟨_,o,ho,hnf⟩:=hl.mem hm
  rw [k1] at ho
  cases ho
  exact hnf ts k2
 have hl1:h1.FunFrames base (env :: outer):=hl.of_keeps fun b o q hnf=>⟨o,K1.keep b o q (by simp) (fun z=>by
  rw [List.mem_singleton.mp z,k1] at q
  cases q
  exact hnf ts k2),rfl⟩
 obtain ⟨_,⟨oe1,vs1,p1,p2,p3,p4⟩,_⟩:=id x1
 refine Zky (s:={ s with heap:=h1 }) hfr hl1 hf p1 p3 (Array.getElem?_eq_some_iff.mp p4).1 fun h2 T' hT' x2 K2=>h h2 T' (Nat.le_trans K1.size hT') (by rw [← p2];exact x2) ?_
 exact (K1.mono (by simp) (by simp)).trans (K2.mono (fun _ z=>z) (by simp))
theorem Zfs {T:Addr} {cls fl:Value} {Q:Unit→Shared→Prop} (x:Trc s.heap e T cls fl) (h:∀ h',Trc h' e T cls .none→KeepX [] [T] s.heap h'→Q () { s with heap:=h' }) :
  wpAny M A (setFlight (.ref e) none) Q E s:=by
 obtain ⟨ne,⟨oe,vs,g1,g2,g3,g4⟩,_⟩:=id x
 unfold setFlight
 refine wpAny_bind (wpAny_field g1 g3 g4 ?_)
 rw [if_pos (show (Value.ref T != Value.none)=true from by simp)]
 exact Zks x h
theorem Zk6 {oe:Obj} {vs:Array Value} {Q:Unit→Shared→Prop} (hfr:A.frames=some (env :: outer)) (hl:s.heap.FunFrames base (env :: outer)) (hf:env.frame=some L)
  (he:s.heap.get? e=some oe) (hd:oe.data=.fields vs) (h1:vs[1]?=some .none)
  (h:∀ h' T,s.heap.objs.size≤T→Trc h' e T oe.cls .none→KeepX (frs (env :: outer)) [e] s.heap h'→Q () { s with heap:=h' }):wpAny M A (leaving env (.ref e)) Q E s:=by
 unfold leaving
 refine wpAny_bind (Zms hfr hl hf he hd h1 fun h2 T hT x K=>Zfs x fun h3 x3 K3=>h h3 T hT x3 ?_)
 refine ⟨fun b o q nb nx=>K3.keep b o (K.keep b o q nb nx) (by simp) (fun z=>?_),fun b o q nx=>?_,Nat.le_trans K.size K3.size⟩
 ·rw [List.mem_singleton.mp z] at q
  exact absurd (Heap.lt_size q) (Nat.not_lt.mpr hT)
 ·obtain ⟨sl,q2⟩:=K.slot b o q nx
  exact ⟨sl,K3.keep b _ q2 (by simp) (fun z=>by rw [List.mem_singleton.mp z] at q;exact absurd (Heap.lt_size q) (Nat.not_lt.mpr hT))⟩
theorem Znd {T:Addr} {cls:Value} {Q:Unit→Shared→Prop} (hfr:A.frames=some (env :: outer)) (hl:s.heap.FunFrames base (env :: outer)) (hf:env.frame=some L) (x:Trc s.heap e T cls .none)
  (h:∀ h' T',s.heap.objs.size≤T'→Trc h' e T' cls .none→KeepX (frs (env :: outer)) [e,T] s.heap h'→Q () { s with heap:=h' }):wpAny M A (leaving env (.ref e)) Q E s:=by
 unfold leaving
 refine wpAny_bind (Zkl hfr hl hf x fun h2 T' hT x2 K=>Zfs x2 fun h3 x3 K3=>h h3 T' hT x3 ?_)
 refine ⟨fun b o q nb nx=>K3.keep b o (K.keep b o q nb nx) (by simp) (fun z=>?_),fun b o q nx=>?_,Nat.le_trans K.size K3.size⟩
 ·rw [List.mem_singleton.mp z] at q
  exact absurd (Heap.lt_size q) (Nat.not_lt.mpr hT)
 ·obtain ⟨sl,q2⟩:=K.slot b o q nx
  exact ⟨sl,K3.keep b _ q2 (by simp) (fun z=>by rw [List.mem_singleton.mp z] at q;exact absurd (Heap.lt_size q) (Nat.not_lt.mpr hT))⟩
end
end ExcR
namespace ExcR
open PySem PySem.Spec PyProof.Rows L2
section
variable {P:Program} {w:World} {H H':Hp} {h h':Heap} {a:Addr} {o:HO} {fs ex:List Addr}
theorem has (x:ObjOk P w H h a o):∃ u,h.get? a=some u:=by
 cases o with
 | lst xs=>exact let ⟨_,_,_,_,e⟩:=x;⟨_,e⟩
 | tup xs=>exact let ⟨_,_,_,u,e,_⟩:=x;⟨u,e⟩
 | dK kvs=>exact let ⟨_,_,_,_,u,_,_,e,_⟩:=x;⟨u,e⟩
 | dT kvs=>exact let ⟨_,_,_,_,u,_,_,e,_⟩:=x;⟨u,e⟩
 | set S n=>exact let ⟨u,_,_,_,e,_⟩:=x;⟨u,e⟩
 | ins C dx fs=>exact let ⟨_,_,_,e,_⟩:=x;⟨_,e⟩
 | own y=>exact x
 | xd fs=>exact let ⟨_,⟨u,_,_,e,_⟩,_⟩:=x;⟨u,e⟩
 | rng lo hi=>exact let ⟨_,_,_,e⟩:=x;⟨_,e⟩
 | frz ob u=>exact ⟨_,x.1⟩
 | tbl ps=>exact ⟨_,x⟩
 | met f y=>exact ⟨_,x⟩
 | ext φ=>exact x.2.1
theorem Zo2 (ok:HOk P w H h) (e:h.get? a=none):H a=none:=by
 cases q:H a with
 | none=>rfl
 | some o=>
  obtain ⟨u,z⟩:=has (ok a o q)
  rw [e] at z
  cases z
theorem Zgd (ok:HOk P w H h) (k:KeepX fs ex h h') (hf:∀ b∈fs,H b=none) (hx:∀ b∈ex,H b=none):HOk P w H h':=fun a o e=>by
 refine (ok a o e).stay (fun b u hb q=>?_) (fun _ q=>q) (fun _ _ q=>q)
 have hn:H b≠none:=by
  rcases hb with rfl | hb
  ·rw [e];simp
  ·rw [hb];simp
 exact k.keep b u q (fun z=>hn (hf b z)) fun z=>hn (hx b z)
end
structure XAt (P:Program) (w:World) (outer:List Env) (H H':Hp) (s s':Shared) (a T C:Addr):Prop where
 os:s'.os=s.os
 bare:AllBare s'.gens
 un:Un (frs outer) [] H H' s.heap s'.heap
 hok:HOk P w H' s'.heap
 na:s.heap.get? a=none
 nT:s.heap.get? T=none
 fa:H' a=none
 fT:H' T=none
 tr:Trc s'.heap a T (.ref C) .none
def CXe (P:Program) (w:World):CXT:=fun outer H s E e s'=>∃ a T C H',e=.ref a∧XAt P w outer H H' s s' a T C∧E (.ref C) none H'
section
variable {X:Cx} {pins:List (Addr×Obj)} {σ:L2.St} {H H':Hp} {s s':Shared} {a T C:Addr}
theorem Zo3 {ex:List Addr} {h':Heap} (I:Inv X pins σ H s) (hex:X.ex=[]) (k:KeepX (frs X.stack) ex s.heap h') (hx:∀ b∈ex,X.s₀.heap.get? b=none):Un X.fs [] X.H₀ H X.s₀.heap h':=by
 have B:=I.base
 rw [hex] at B
 have out:∀ b o,X.s₀.heap.get? b=some o→b∉ex:=fun b o q z=>by rw [hx b z] at q;cases q
 have nl:∀ b o,X.s₀.heap.get? b=some o→b∉X.fs→b∉frs X.stack:=fun b o q nf z=>by
  rcases List.mem_cons.mp (I.stkSub b z) with e | e
  ·have h1:=Heap.lt_size q
   have h2:=I.ok.above
   rw [e] at h1
   exact absurd h1 (Nat.not_lt.mpr h2)
  ·exact nf e
 refine ⟨fun b o q n nf ne=>k.keep b o (B.keep b o q n nf ne) (nl b o q nf) (out b o q),fun b o q n hf ne=>?_,fun b o q n ne=>B.free b o q n ne,fun b o q ne=>?_,B.tups,B.frzs,B.tbls⟩
 ·obtain ⟨sl,q1⟩:=B.slot b o q n hf ne
  obtain ⟨sl2,q2⟩:=k.slot b _ q1 (out b o q)
  exact ⟨sl2,q2⟩
 ·obtain ⟨o1,q1⟩:=B.there b o q ne
  obtain ⟨sl2,q2⟩:=k.slot b _ q1 (out b o q)
  exact ⟨_,q2⟩
theorem Zgb {b:Addr} (I:Inv X pins σ H s) (hex:X.ex=[]) (e:s.heap.get? b=none):X.s₀.heap.get? b=none:=by
 cases q:X.s₀.heap.get? b with
 | none=>rfl
 | some o=>
  obtain ⟨u,z⟩:=I.base.there b o q (by rw [hex];simp)
  rw [e] at z
  cases z
variable {E:Value→Shared→Prop}
theorem Zna (I:Inv X pins σ H s) (hex:X.ex=[]) (hst:X.stack=X.env :: X.outer) (hfr:X.env.frame=some X.env.locals) (x:XAt X.prog X.w X.stack H H' s s' a T C) :
  wpAny (model X.prog X.w) X.A (leaving X.env (.ref a)) (fun _ s2=>∃ T2,XAt X.prog X.w X.outer X.H₀ H' X.s₀ s2 a T2 C) E s':=by
 have J:Inv X pins σ H' s':=I.call' (ch:=[]) x.os x.un x.hok x.bare fun b z=>absurd z (by simp)
 have hF:=J.stack
 have hA:=J.ok.frames
 rw [hst] at hF hA
 refine Znd hA hF hfr x.tr fun h2 T2 hT2 tr k=>⟨T2,J.os,J.bare,?_,?_,Zgb I hex x.na,?_,x.fa,x.hok.fresh hT2,tr⟩
 ·exact Zo3 J hex (by rw [hst];exact k) fun b hb=>by
   rcases List.mem_cons.mp hb with rfl | hb
   ·exact Zgb I hex x.na
   ·rw [List.mem_singleton.mp hb];exact Zgb I hex x.nT
 ·refine Zgd x.hok k (fun b hb=>J.stkFree b (by rw [hst];exact hb)) fun b hb=>?_
  rcases List.mem_cons.mp hb with rfl | hb
  ·exact x.fa
  ·rw [List.mem_singleton.mp hb];exact x.fT
 ·exact Heap.get?_none_of_le (Nat.le_trans J.sz hT2)
theorem Zos {h':Heap} {oe:Obj} {vs:Array Value} (I:Inv X pins σ H s) (hex:X.ex=[]) (hst:X.stack=X.env :: X.outer) (hfr:X.env.frame=some X.env.locals) (keeps:∀ b o,s.heap.get? b=some o→h'.get? b=some o)
  (new:s.heap.get? a=none) (he:h'.get? a=some oe) (hc:oe.cls=.ref C) (hd:oe.data=.fields vs) (h1:vs[1]?=some .none) :
  wpAny (model X.prog X.w) X.A (leaving X.env (.ref a)) (fun _ s2=>∃ T2,XAt X.prog X.w X.outer X.H₀ H X.s₀ s2 a T2 C) E { s with heap:=h' }:=by
 have J:Inv X pins σ H { s with heap:=h' }:=I.call' (s':={ s with heap:=h' }) (ch:=[]) rfl (Un.kept keeps) (I.hok.kept keeps) I.bare fun b z=>absurd z (by simp)
 have hF:=J.stack
 have hA:=J.ok.frames
 rw [hst] at hF hA
 have fa:=Zo2 I.hok new
 refine Zk6 (s:={ s with heap:=h' }) hA hF hfr he hd h1 fun h2 T2 hT2 tr k=>⟨T2,J.os,J.bare,?_,?_,Zgb I hex new,?_,fa,J.hok.fresh hT2,by rw [← hc];exact tr⟩
 ·exact Zo3 J hex (by rw [hst];exact k) fun b hb=>by rw [List.mem_singleton.mp hb];exact Zgb I hex new
 ·exact Zgd J.hok k (fun b hb=>J.stkFree b (by rw [hst];exact hb)) fun b hb=>by rw [List.mem_singleton.mp hb];exact fa
 ·exact Heap.get?_none_of_le (Nat.le_trans J.sz hT2)
end
structure ErrCls (K:PySem.W.Frag) (C:Addr):Prop where
 q:PySem.W.excIn K C [.type "ValueError",.type "Exception",.type "BaseException",.type "object"] "ValueError.__new__" = true
theorem ErrCls.obj {K:PySem.W.Frag} {C:Addr} {h:Heap} (c:ErrCls K C) (k:K.In h):∃ bm N nm q bs hdct sn sub ab col dd k0 k1 k2 k3 k5 mN,h.get? C=some (excClassObj nm q C N bs bm hdct sn sub ab col dd k0 k1 k2 k3 k5 "ValueError.__new__")∧h.Ns N mN∧mN "__init__" = none∧
  OwnTail h [.type "ValueError",.type "Exception",.type "BaseException",.type "object"] bm:=by
 have e:=c.q
 unfold PySem.W.excIn at e
 split at e
 next dd cd sl ho=>
  split at e
  next C1 bm k0 k1 k2 k3 n k5 hm hs=>
   simp only [Bool.and_eq_true,beq_iff_eq,Bool.not_eq_true'] at e
   obtain ⟨⟨⟨⟨⟨e1,e2⟩,e3⟩,e4⟩,e5⟩,e6⟩:=e
   subst e1 e2
   have hg:=k _ _ ho
   cases cd with
   | mk nm bs mro ns qn hd sn sub ab col del=>
    simp only at hm e3 e5 e6
    have hsl:sl=#[k0,k1,k2,k3,some (.builtin "ValueError.__new__"),k5]:=by
     cases sl with
     | mk l=>simp only at hs;rw [hs]
    rw [hm,e3,hsl] at hg
    exact ⟨bm,ns,nm,qn,bs,hd,sn,sub,ab,col,dd,k0,k1,k2,k3,k5,_,hg,.of_isNs (PySem.W.isNs_of_in k e5),PySem.W.nsMap_none_of_in k e5 e6,PySem.W.tail_of_in k e4⟩
  next=>cases e
 next=>cases e
end ExcR
namespace ExcR
open PySem PySem.Spec PyProof.Rows L2
abbrev TF:=L2.St→Hp→Str→(Str→Hp→Prop)→Prop
def PF (X:Cx) (es:List Expr) (t:TF):Prop:=
 ∀ (pins:List (Addr×Obj)) (s:Shared) (σ:L2.St) (H:Hp) (out:Str) (Q:Str→Hp→Prop),Inv X pins σ H s→t σ H out Q→
  wpAny (model X.prog X.w) X.A (joinParts out (evalEach es X.env)) (fun u s'=>∃ x H',Inv X pins σ H' s'∧RelV (.str x) u∧Q x H') X.xe s
section
variable {X:Cx} {e e1 e2:Expr} {es:List Expr} {t:TF} {tv:TE} {pos:Pos}
def fNil:TF:=fun _ H out Q=>out.length≤sizeLine∧Q out H
def fStr (x:Str) (t:TF):TF:=fun σ H out Q=>(out++x).length≤sizeLine∧t σ H (out++x) Q
def fVal (tv:TE) (t:TF):TF:=fun σ H out Q=>tv σ H fun v H1=>(∃ i:Int,v=.int i∧i.natAbs.log2 < 1920∧(out++(Str.ofString (toString i))).length≤sizeLine∧t σ H1 (out++Str.ofString (toString i)) Q)∨
 ∃ x:Str,v=.str x∧x.length≤sizeLine∧(out++x).length≤sizeLine∧t σ H1 (out++x) Q
theorem Zh5:PF X [] fNil:=fun pins s σ H out Q I h=>joinParts_nilE (joinParts_nil ⟨out,H,I.tok _,⟨_,rfl⟩,h.2⟩ h.1)
theorem Zez {x:Str} {j} (h:PF X es t):PF X (.Constant (.str x) j pos :: es) (fStr x t):=fun pins s σ H out Q I q=>
 joinParts_consE (joinParts_cons (Calls.Constant_str ⟨q.1,h pins _ σ H _ Q (I.tok _) q.2⟩))
theorem Zhy (hv:PE X e tv) (h:PF X es t):PF X (.FormattedValue e (-1) none pos :: es) (fVal tv t):=fun pins s σ H out Q I q=>by
 refine joinParts_consE (joinParts_cons (FormattedValue_plain (thn (hv pins s σ H _ I q) fun u s1 ⟨v,H1,I1,r,q1⟩=>?_)))
 rcases q1 with ⟨i,rfl,hs,hz,q2⟩ | ⟨x,rfl,hx,hz,q2⟩
 ·obtain ⟨tk,rfl⟩:=r
  exact formatField_int_small hs ⟨hz,h pins _ σ H1 _ Q (I1.tok _) q2⟩
 ·obtain ⟨tk,rfl⟩:=r
  exact formatField_str (fun t' tk'=>⟨hz,h pins _ σ H1 _ Q (I1.tok _) q2⟩) hx
def tF (t:TF):TE:=fun σ H Q=>t σ H Str.empty fun x H'=>Q (.str x) H'
theorem pe_f (h:PF X (e1 :: e2 :: es) t):PE X (.JoinedStr (e1 :: e2 :: es) pos) (tF t):=fun pins s σ H Q I q=>
 JoinedStr_many (thn (h pins s σ H _ _ I q) fun u s1 ⟨x,H1,I1,r,q1⟩=>⟨.str x,H1,I1,r,q1⟩)
end
def Raises (X:Cx) (E:XK):Prop:=∀ (pins:List (Addr×Obj)) (σ:L2.St) (H:Hp) (s:Shared) (C a:Addr) (h':Heap) (args:List Value),Inv X pins σ H s→Heap.MadeExcOf s.heap h' a (.ref C) args→E (.ref C) none H→X.xe (.ref a) { s with heap:=h' }
def tRaise (C:Addr) (E:XK) (t:TA):TS:=fun _ σ H=>t σ H fun vs H1=>vs.length≤sizeLine∧E (.ref C) none H1
section
variable {X:Cx} {x:Str} {C:Addr} {E:XK} {e:Expr} {es:List Expr} {t:TA} {p cpos pos:Pos}
theorem Zb1 (c:ErrCls X.K C) (hm:X.mg x=some (.ref C)) (hR:Raises X E) (hc:X.calm=true) (ha:PA X (e :: es) t) (hg:Gl X x:=by rfl) (hdb:(x == ("__debug__" : Str))=false:=by decide)
  (he:starEach (e :: es) X.env=(false,eval e X.env) :: starEach es X.env:=by rfl) (hpl:(backTo cpos (starEach es X.env)).any (·.1)=false:=by rfl):PS X (.Raise (some (.Call (.Name x p) (e :: es) [] cpos)) none pos) (tRaise C E t):=by
 intro pins s σ H D I h
 obtain ⟨bm,N,nm,q,bs,hdct,sn,sub,ab,col,dd,k0,k1,k2,k3,k5,mN,hC,hN,hni,hT⟩:=c.obj I.ok.mod.kin
 have hpl':(backTo cpos (starEach (e :: es) X.env)).any (·.1)=false:=by
  rw [he]
  show (false || (backTo cpos (starEach es X.env)).any (·.1))=false
  rw [hpl]
  rfl
 refine wpAny_Raise_call_subU (C:=C) (nm:=nm) (q:=q) (N:=N) (bs:=bs) (bm:=bm) (hdct:=hdct) (sn:=sn) (sub:=sub) (ab:=ab) (col:=col) (dd:=dd) (k0:=k0) (k1:=k1) (k2:=k2) (k3:=k3) (k5:=k5)
  PySem.F.excBase_ValueError (by decide +kernel) PySem.F.excBase_ValueError (hT.hasType (by decide +kernel)) (I.ok.hd hc) hpl' hni (Zg0 I hg hm ⟨rfl,?_⟩ hdb)
 have hA:=ha cpos pins s σ H _ I h
 rw [he] at hA ⊢
 refine Calls.evalArgs_plain (thn hA fun us s2 ⟨vs,H2,I2,r2,q1,q2⟩=>⟨rfl,by rw [← r2.length];exact q1,I2.bk _ _ hC,hN.keeps I2.bk,hT.keeps I2.bk,fun h' a hm'=>?_⟩)
 exact hR pins σ H2 s2 C a h' us I2 hm' q2
end
section
variable {P:Program} {w:World} {K:PySem.W.Frag} {mg:Str→Option Value} {base:Heap} {N ps:List Str} {qual x:Str} {scope:Scope} {f:Addr} {cd:Value} {A:Around} {outer:List Env} {s:Shared} {H:Hp} {E:XK}
theorem Zbx:Raises (cxOf (CXe P w) P w K mg base N qual scope f cd A outer s H E) E:=by
 intro pins σ H1 s1 C a h' args I m q
 obtain ⟨t,ht,_,_⟩:=m.there
 exact wpAny_mono (Zos I rfl rfl rfl m.keeps m.new ht rfl rfl rfl) (fun _ s3 ⟨T2,y⟩=>⟨a,T2,C,H1,rfl,y,q⟩) fun _ _ z=>z
theorem Za8:Passes (CXe P w) (cxOf (CXe P w) P w K mg base N qual scope f cd A outer s H E) E:=by
 rintro pins σ H1 s1 e s2 I ⟨a,T,C,H',rfl,y,q⟩
 exact wpAny_mono (Zna I rfl rfl rfl y) (fun _ s3 ⟨T2,z⟩=>⟨a,T2,C,H',rfl,z,q⟩) fun _ _ z=>z
theorem Zqw:PassesOwn (model P w) (cxOf (CXe P w) P w K mg base N qual scope f cd A outer s H E).A (cxOf (CXe P w) P w K mg base N qual scope f cd A outer s H E).env (cxOf (CXe P w) P w K mg base N qual scope f cd A outer s H E).xe:=PassesOwn.leaving
theorem Def.okX {st:Stmt} {k:Nat} {sp:Sp} (D:Own.Def K mg x st ps) (S:FnScope N ps (defScope st)) (len:∀ vs H Q E,sp vs H Q E→vs.length=ps.length)
  (hbody:∀ (f:Addr) (cdv:Value) (A:Around) (outer:List Env) (s:Shared) (H:Hp) (vs:List V) (Q:VK) (E:XK),Room k (A.deeper (envOfC x (defScope st) s.heap.objs.size f cdv))→sp vs H Q E→
   ∃ t,PSs (cxOf (CXe P w) P w K mg base N x (defScope st) f cdv A outer s H E) (defBody st) t∧t { nx:=fun _ H'=>Q .non H',rt:=Q } (start N vs) H):Own.Callee P w K mg base (CXe P w) (k + 1) x ps sp:=by
 obtain ⟨f,fd,F,hm,hb⟩:=D.ex
 have kp:=F.kp
 obtain ⟨oc,od,kV,doc,pm,an,cdv,ct,osl,rfl,lk,hcd⟩:=F.ex
 exact ⟨f,_,Zq1 lk hcd S len fun A outer s H vs Q E hr hsp=>hbody f cdv A outer s H vs Q E hr hsp,hm,kp,⟨_,lk,rfl⟩,hb⟩
end
end ExcR
namespace ExcR
open PySem PySem.Spec PyProof.Rows L2
open Sem (wp)
structure ErrGet (K:PySem.W.Frag) (C:Addr):Prop where
 c:ErrCls K C
 ga:PySem.W.findIn K (.ref C) "__getattribute__" = some (some (.builtin "BaseException.__getattribute__"))
 gt:PySem.W.findIn K (.ref C) "__getattr__" = some none
 cl:PySem.W.findIn K (.ref C) "__class__" = some (some (.builtin "object.__class__"))
 is:(PySem.W.clsIn K C).isSome=true
section
variable {prog:Program} {w:World} {A:Around} {E:Value→Shared→Prop} {h:Heap} {g:Array GenState} {d:Drawn} {t:Nat} {os:OsState} {a C:Addr} {o:Obj} {K:PySem.W.Frag}
theorem Zro {R:Result→Shared→Prop} (k:K.In h) (G:ErrGet K C) (hx:h.get? a=some o) (hc:o.cls=.ref C) (hq:R (.ok (.ret (.ref C))) ⟨h,g,d,t,os⟩) :
  codeAny (model prog w) A (.call (.builtin "getset_descriptor.__get__") ⟨[.builtin "object.__class__",.ref a,.ref C],[]⟩) R ⟨h,g,d,t,os⟩:=by
 obtain ⟨bm,N,nm,q,bs,hdct,sn,sub,ab,col,dd,k0,k1,k2,k3,k5,mN,hC,hN,hni,hT⟩:=G.c.obj k
 have hty:(⟨h,g,d,t,os⟩:Shared).TypeIs (.builtin "object.__class__") "getset_descriptor":=F.typeOf_object_class
 have hob:(Value.ref C :: bm).contains (.type (".".intercalate ("object.__class__".cutAt '.').dropLast))=true:=by
  rw [F.owner_object_class,List.contains_cons,hT.hasType (b:=true) (by decide +kernel)]
  rfl
 refine codeAny_call_builtin F.slot_gs_get.plain F.entry_gs_get (F.slot_gs_get.check _ _ _ _ _ _ _ _ hty (F.args_gs_get _ _ _) ?_)
 repeat (any_goals (first | assumption | (with_reducible refine wpAny_loadPart_at hx ?_;rw [hc]) | (with_reducible refine wpAny_isSubtype_exc hC ?_;rw [hob]) | wp_step))
 refine ⟨Code.quiet_builtin _ (by decide +kernel),codeAny_builtin F.entry_object_class ?_⟩
 repeat (any_goals (first | assumption | (with_reducible refine wpAny_loadPart_at hx ?_;rw [hc]) | wp_step))
theorem Zpo {tk:Tok} {Q:Fin→Shared→Prop} (k:K.In h) (G:ErrGet K C) (hx:h.get? a=some o) (hc:o.cls=.ref C) (hq:Q (.done (.ret (.ref C))) ⟨h,g,d,t,os⟩) :
  wpAny (model prog w) A (Builtin.«object.__getattribute__» ⟨[.ref a,.str "__class__" tk],[]⟩) Q E ⟨h,g,d,t,os⟩:=by
 have hty:(⟨h,g,d,t,os⟩:Shared).TypeIs (.builtin "object.__class__") "getset_descriptor":=F.typeOf_object_class
 have f1:=F.typeOf_object_class
 have f2:=F.slot_gs_get.lookup
 have f3:=F.slot_gs_set.lookup
 have L:=PySem.W.looks_findIn (M:=model prog w) k G.cl
 repeat (any_goals (first | assumption | (with_reducible refine wpAny_loadPart_at hx ?_;rw [hc]) | with_reducible refine L.at ?_ | wp_step))
 refine Zro k G hx hc ?_
 repeat (any_goals (first | assumption | wp_step))
theorem Zpp {M:Model} {v:Value} {Q:Unit→Shared→Prop} (k:K.In h) (G:ErrGet K C) (hx:h.get? a=some o) (hc:o.cls=.ref C) (hq:Q () ⟨h,g,d,t,os⟩) :
  wpAny M A (checkBuiltinCall "BaseException.__getattribute__" ⟨[.ref a,v],[]⟩) Q E ⟨h,g,d,t,os⟩:=by
 obtain ⟨bm,N,nm,q,bs,hdct,sn,sub,ab,col,dd,k0,k1,k2,k3,k5,mN,hC,hN,hni,hT⟩:=G.c.obj k
 have hbe:(Value.ref C :: bm).contains (.type "BaseException")=true:=by rw [List.contains_cons,hT.hasType (b:=true) (by decide +kernel)];rfl
 have e1:builtinKind "BaseException.__getattribute__" = some .slot:=by decide +kernel
 have e2:splitId "BaseException.__getattribute__" = some ("BaseException", "__getattribute__"):=by decide +kernel
 have e3:=F.args_bexc_ga (.ref a) v
 simp only [checkBuiltinCall,e1,e2]
 refine wpAny_bind ?_
 unfold isInstance
 repeat (first | (with_reducible refine wpAny_loadPart_at hx ?_;rw [hc]) | (with_reducible refine wpAny_isSubtype_exc hC ?_;rw [hbe]) | wp_step)
 exact hq
theorem Zsd {tk:Tok} {Q:Value→Shared→Prop} (k:K.In h) (G:ErrGet K C) (hx:h.get? a=some o) (hc:o.cls=.ref C) (hq:Q (.ref C) ⟨h,g,d,t,os⟩) :
  wpAny (model prog w) A (getAttrBy (.ref a) (.str "__class__" tk) false) Q E ⟨h,g,d,t,os⟩:=by
 obtain ⟨bm,N,nm,q,bs,hdct,sn,sub,ab,col,dd,k0,k1,k2,k3,k5,mN,hC,hN,hni,hT⟩:=G.c.obj k
 have f0:=F.attrBase_ValueError.ga.bind (.ref a)
 have x2:(Value.builtin "BaseException.__getattribute__" == Value.builtin "object.__getattribute__")=false:=by decide +kernel
 have x1:(onTheHeap (Value.ref C) && Value.builtin "BaseException.__getattribute__" == Value.builtin "object.__getattribute__")=false:=by rw [x2];rfl
 have L:=PySem.W.looks_findIn (M:=model prog w) k G.ga
 have L2:=PySem.W.looks_findIn (M:=model prog w) k G.gt
 repeat (any_goals (first | assumption | (with_reducible refine wpAny_loadPart_at hx ?_;rw [hc]) | with_reducible refine L.at ?_ | with_reducible refine L2.at ?_ | wp_step))
 refine codeAny_call_builtin F.attrBase_ValueError.ga.plain F.entry_bexc_ga (Zpp k G hx hc (Zpo k G hx hc ?_))
 repeat (any_goals (first | assumption | wp_step))
theorem Zql {Q:Option Value→Shared→Prop} (k:K.In h) (G:ErrGet K C) (hx:h.get? a=some o) (hc:o.cls=.ref C) (hq:Q (some (.ref C)) ⟨h,g,d,t + 1,os⟩) :
  wpAny (model prog w) A (getAttr? (.ref a) "__class__") Q E ⟨h,g,d,t,os⟩:=by
 unfold getAttr? getAttrBy?
 repeat (any_goals (first | assumption | with_reducible apply Zsd k G hx hc | wp_step))
end
end ExcR
namespace ExcR
open PySem PySem.Spec PyProof.Rows L2
def ErrH (a C:Addr):HO:=.ext fun h=>∃ o,h.get? a=some o∧o.cls=.ref C∧∃ vs,o.data=.fields vs
theorem Zrc {P:Program} {w:World} {H:Hp} {h:Heap} {a T C:Addr} {fl:Value} (x:Trc h a T (.ref C) fl):ObjOk P w H h a (ErrH a C):=by
 obtain ⟨_,⟨o,vs,e1,e2,e3,_⟩,_⟩:=x
 exact ⟨⟨o,e1,e2,vs,e3⟩,⟨o,e1⟩,fun h1 h2 ⟨o1,q1,q2⟩ k=>⟨o1,k o1 q1,q2⟩⟩
theorem Zqu {K:PySem.W.Frag} {M:Model} {h:Heap} {C:Addr} (k:K.In h) (e:(PySem.W.clsIn K C).isSome=true):PySem.W.Looks M h (isType (.ref C)) true:=by
 unfold PySem.W.clsIn at e
 split at e
 next ho=>
  intro A' Q' E' s' kk q
  unfold isType loadHead
  exact wpAny_bind (wpAny_loadPart (kk _ _ (k _ _ ho)) (wpAny_pure q))
 next=>cases e
theorem Zpt {K:PySem.W.Frag} {a C:Addr} (G:ErrGet K C):PySem.W.KitX K (.ref a) (.ref C) (fun h=>∃ o,h.get? a=some o∧o.cls=.ref C) where
 ty:=fun M h _ ⟨o,h1,h2⟩=>h2 ▸ (PySem.W.Looks.ld h1).andThen .now
 it:=fun M h k _=>Zqu k G.is
 ne:=fun h tp dd its n sl k htp=>by
  refine Bool.eq_false_iff.mpr fun q=>?_
  obtain rfl:C=tp:=Value.ref.inj (beq_iff_eq.mp q)
  obtain ⟨bm,N,nm,q,bs,hdct,sn,sub,ab,col,dd,k0,k1,k2,k3,k5,mN,hC,_⟩:=G.c.obj k
  rw [htp] at hC
  have z:Value.type "tuple" = Value.type "type":=congrArg Obj.cls (Option.some.inj hC)
  injection z with z
  exact absurd z (by decide)
 ca:=fun {prog w A E Q s} k ⟨o,h1,h2⟩ q=>by
  obtain ⟨h,g,d,t,os⟩:=s
  exact Zql k G h1 h2 q
section
variable {X:Cx}
theorem Zox:CallR X (.builtin "isinstance") (fun xs H Q=>∃ (a C:Addr) (c:V) (b:Bool),xs=[.ref a,c]∧H a=some (ErrH a C)∧ErrGet X.K C∧(∃ cv:Value,(∀ u,RelV c u→u=cv)∧PySem.W.kitOne X.K (.ref C) cv=some b)∧Q (.bl b) H):=by
 intro pins s σ H xs us Q I rv h
 obtain ⟨a,C,c,b,rfl,ha,G,⟨cv,hcv,e⟩,q⟩:=h
 cases rv with
 | cons r rr=>
  cases rr with
  | cons r' rr'=>
   cases rr'
   obtain rfl:_=Value.ref a:=r
   cases hcv _ r'
   obtain ⟨⟨o,h1,h2,_⟩,_⟩:=(show ObjOk X.prog X.w H s.heap a (ErrH a C) from I.hok a _ ha)
   exact PySem.W.kia_one (Zpt G) I.kIn ⟨o,h1,h2⟩ e (fun z=>nomatch z) fun tk=>⟨.bl b,H,I.tok tk,rfl,q⟩
theorem Zbc {K:PySem.W.Frag} (hK:X.K=K:=by rfl):CallR X (.builtin "isinstance") (fun xs H Q=>∃ (a C:Addr) (c:V) (b:Bool),xs=[.ref a,c]∧H a=some (ErrH a C)∧ErrGet K C∧(∃ cv:Value,(∀ u,RelV c u→u=cv)∧PySem.W.kitOne K (.ref C) cv=some b)∧Q (.bl b) H):=by
 subst hK
 exact Zox
end
theorem Zj2 {fs ex:List Addr} {H H':Hp} {h h1 h2:Heap} (u:Un fs [] H H' h h1) (k:KeepX fs ex h1 h2) (hx:∀ b∈ex,h.get? b=none):Un fs [] H H' h h2:=by
 have out:∀ b o,h.get? b=some o→b∉ex:=fun b o q z=>by rw [hx b z] at q;cases q
 refine ⟨fun b o q n nf ne=>k.keep b o (u.keep b o q n nf ne) nf (out b o q),fun b o q n hf ne=>?_,u.free,fun b o q ne=>?_,u.tups,u.frzs,u.tbls⟩
 ·obtain ⟨sl,q1⟩:=u.slot b o q n hf ne
  obtain ⟨sl2,q2⟩:=k.slot b _ q1 (out b o q)
  exact ⟨sl2,q2⟩
 ·obtain ⟨o1,q1⟩:=u.there b o q ne
  obtain ⟨sl2,q2⟩:=k.slot b _ q1 (out b o q)
  exact ⟨_,q2⟩
def sufX (X:Cx) (a:Addr):Cx:={ X with A:=X.A.mark (some (.ref a)),calm:=false,xe:=fun _ _=>False }
def tryX (X:Cx) (pins:List (Addr×Obj)) (D:Ends) (h0:ExceptHandler):Cx:=
 { X with pn:=X.pn++pins,xe:=fun e s1=>wpAny (model X.prog X.w) X.A (noteFrame e X.env) (fun _ s2=>wpAny (model X.prog X.w) X.A (setFlight e none) (fun _ s3=>wpAny (model X.prog X.w) X.A (handleBy e X.env [h0]) (SP X pins D) X.xe s3) X.xe s2) X.xe s1 }
section
variable {X:Cx} {pins pins1:List (Addr×Obj)} {σ:L2.St} {H H':Hp} {s s':Shared} {a T C:Addr} {D:Ends} {h0:ExceptHandler}
theorem Zrp (o:X.Ok):(sufX X a).Ok:=⟨o.mod,o.kind,o.glob,o.blt,o.above,o.inj,o.has,o.cab,(fun z=>nomatch z),o.frames,o.stk,o.exf,o.bs,o.bsz,o.noex,o.exfs,o.funs,o.frf⟩
theorem Zow (I:Inv X pins σ H s):Inv (sufX X a) pins σ H s:=⟨Zrp I.ok,I.os,I.bare,I.base,I.loc,I.cell,I.free,I.freeC,I.pin,I.hok,I.len⟩
theorem Zrg (o:X.Ok) (I:Inv (sufX X a) pins σ H s):Inv X pins σ H s:=⟨o,I.os,I.bare,I.base,I.loc,I.cell,I.free,I.freeC,I.pin,I.hok,I.len⟩
theorem Zr7 (o:X.Ok):(tryX X pins D h0).Ok:=⟨o.mod,o.kind,o.glob,o.blt,o.above,o.inj,o.has,o.cab,o.hd,o.frames,o.stk,o.exf,o.bs,o.bsz,o.noex,o.exfs,o.funs,o.frf⟩
theorem Zr1 (o:(tryX X pins D h0).Ok):X.Ok:=⟨o.mod,o.kind,o.glob,o.blt,o.above,o.inj,o.has,o.cab,o.hd,o.frames,o.stk,o.exf,o.bs,o.bsz,o.noex,o.exfs,o.funs,o.frf⟩
theorem Zq7 (I:Inv X pins σ H s):Inv (tryX X pins D h0) [] σ H s:=⟨Zr7 I.ok,I.os,I.bare,I.base,I.loc,I.cell,I.free,I.freeC,fun p hp=>I.pin p (by simpa [tryX] using hp),I.hok,I.len⟩
theorem Zia (I:Inv (tryX X pins D h0) pins1 σ H s):Inv X pins σ H s:=⟨Zr1 I.ok,I.os,I.bare,I.base,I.loc,I.cell,I.free,I.freeC,fun p hp=>I.pin p (List.mem_append_left _ hp),I.hok,I.len⟩
theorem Zpc {i:Nat} {n:Str} {m:Str→Option Value} {v:Option Value} {h':Heap} {tk:Nat} (I:Inv X pins σ H s) (hN:X.N.Nodup) (hi:X.N[i]?=some n) (hk:X.env.scope.names.lookup n=some .local)
  (hm:∀ (i:Nat) (x:Str) (v:V),X.N[i]?=some x→σ[i]?=some (some v)→Vis X.env.scope x→∃ u,RelV v u∧Look X.env s.heap m x u) (hn:s.heap.Ns X.env.locals m)
  (hn':h'.Ns X.env.locals (fun x=>if x=n then v else m x)) (hs:Heap.SameBut X.env.locals s.heap h'):Inv X pins (σ.set i none) H { s with heap:=h',toks:=tk }:=by
 have cne:=I.cne
 have nl:∀ {b o},X.s₀.heap.get? b=some o→b≠X.env.locals:=fun e=>Nat.ne_of_lt (Nat.lt_of_lt_of_le (Heap.lt_size e) I.ok.above)
 refine ⟨I.ok,I.os,I.bare,⟨fun b o e n hb hx=>(hs.2 b (nl e)).trans (I.base.keep b o e n hb hx),fun b o e n hb hx=>?_,I.base.free,fun b o e hx=>?_,I.base.tups,I.base.frzs,I.base.tbls⟩,⟨_,hn',fun j y v' e1 e2 e3=>?_⟩,fun y c e=>?_,I.free,I.freeC,fun p hp=>?_,fun b ob e=>?_,by simpa using I.len⟩
 ·obtain ⟨sl,e1⟩:=I.base.slot b o e n hb hx
  exact ⟨sl,(hs.2 b (nl e)).trans e1⟩
 ·obtain ⟨o',e1⟩:=I.base.there b o e hx
  exact ⟨o',(hs.2 b (nl e)).trans e1⟩
 ·by_cases hj:j=i
  ·subst hj
   have hz:j < σ.length:=by rw [I.len];exact (List.getElem?_eq_some_iff.mp hi).1
   rw [List.getElem?_set_self hz] at e2
   cases e2
  ·rw [List.getElem?_set_ne (Ne.symm hj)] at e2
   obtain ⟨u',r',q⟩:=hm j y v' e1 e2 e3
   refine ⟨u',r',?_⟩
   rcases q with ⟨k,e⟩ | ⟨k,c,e,z⟩
   ·have hy:y≠n:=fun z=>hj (Zj1 hN e1 (z ▸ hi))
    exact .inl ⟨k,by simp [hy,e]⟩
   ·exact .inr ⟨k,c,e,z.sameBut hs (cne y c e)⟩
 ·obtain ⟨w',z⟩:=I.cell y c e
  exact ⟨w',z.sameBut hs (cne y c e)⟩
 ·obtain ⟨e,n,ne,nf,d⟩:=I.pin p hp
  exact ⟨(hs.2 p.1 ne).trans e,n,ne,nf,d⟩
 ·refine (I.hok b ob e).stay (fun c u hc q=>(hs.2 c ?_).trans q) (fun _ q=>q) fun _ _ q=>q
  rintro rfl
  have hf:=I.free
  rcases hc with z | z
  ·rw [← z,hf] at e;cases e
  ·rw [hf] at z;cases z
end
def sufD (i:Nat) (D:Ends):Ends:={ nx:=fun σ H=>D.nx (σ.set i none) H,rt:=D.rt,bk:=fun σ H=>D.bk (σ.set i none) H,ct:=fun σ H=>D.ct (σ.set i none) H }
def hx (K:PySem.W.Frag) (C0:Addr) (i:Nat) (ts:TS) (D:Ends):L2.St→XK:=fun σ c _ H=>∃ C,c=.ref C∧ErrGet K C∧PySem.W.exmOne K (.ref C) (.ref C0)=some true∧
 ∀ a,H a=none→ts (sufD i D) (σ.set i (some (.ref a))) (upd H a (ErrH a C))
def PassesS (CX:CXT) (X:Cx) (E:L2.St→XK):Prop:=∀ (pins:List (Addr×Obj)) (σ:L2.St) (H:Hp) (s:Shared) (e:Value) (s':Shared),Inv X pins σ H s→CX X.stack H s (E σ) e s'→X.xe e s'
def tCallS (sp:Sp) (E:L2.St→XK) (t:TA):TE:=fun σ H Q=>t σ H fun vs H1=>sp (vs++[]) H1 Q (E σ)
section
variable {X:Cx} {CX:CXT} {k:Nat} {ps:List Str} {sp:Sp} {E:L2.St→XK} {x:Str} {p pos:Pos} {e:Expr} {es:List Expr} {t:TA}
theorem Zrx (C:Own.Callee X.prog X.w X.K X.mg X.base CX k x ps sp) (hr:Room k X.A) (hp:PassesS CX X E) (ha:PA X (e :: es) t) (hg:Gl X x:=by rfl)
  (hdb:(x == ("__debug__" : Str))=false:=by decide) (he:starEach (e :: es) X.env=(false,eval e X.env) :: starEach es X.env:=by rfl) (hpl:(backTo pos (starEach es X.env)).any (·.1)=false:=by rfl) :
  PE X (.Call (.Name x p) (e :: es) [] pos) (tCallS sp E t):=by
 obtain ⟨f,fd,F,hm,hk,_,hb⟩:=C.ex
 intro pins s σ H Q I h
 refine wpAny_Call_Name_kw (Zg0 I hg hm ?_ hdb)
 refine PySem.W.callWith_K (h₀:=X.base) I.ok.mod.kin hk (thn (ha pos pins s σ H _ I h) fun us s1 ⟨vs,H1,I1,r,q⟩=>⟨I1.kIn,?_⟩) he hpl
 have hl:(us++[]).length=ps.length:=by rw [List.append_nil,← r.length,← F.len _ _ _ _ q,List.append_nil]
 refine wpAny_call (codeAny_mono (F.run X.A X.stack s1 H1 ⟨us,[]⟩ (us++[]) (vs++[]) Q (E σ) hr I1.env0 (hb s1 us I1.kIn hl) (by simpa using r) q) fun r s' hq=>?_)
 cases r with
 | error e=>exact hp pins σ H1 s1 e s' I1 hq
 | ok fl=>
  cases fl with
  | ret u=>exact I1.after hq
  | next=>exact False.elim hq
  | brk=>exact False.elim hq
  | cont=>exact False.elim hq
end
section
variable {X:Cx} {pins:List (Addr×Obj)} {D:Ends} {x n:Str} {np hpos pos:Pos} {b0:Stmt} {suite body:List Stmt} {C0:Addr} {i:Nat} {ts:TS}
theorem Zjg (hst:X.stack=X.env :: X.outer) (hfr:X.env.frame=some X.env.locals) (hN:X.N.Nodup) (hi:X.N[i]?=some n) (hk:X.env.scope.names.lookup n=some .local) (hg:Gl X x) (hm:X.mg x=some (.ref C0)) (hdb:(x == ("__debug__" : Str))=false)
  (hs:∀ a,PSs (sufX X a) (b0 :: suite) ts):PassesS (CXe X.prog X.w) (tryX X pins D (.ExceptHandler (some (.Name x np)) (some n) (b0 :: suite) hpos)) (hx X.K C0 i ts D):=by
 rintro pins1 σ H s e s' I ⟨a,T,C,H',rfl,y,C',ec,G,em,q⟩
 obtain rfl:C=C':=Value.ref.inj ec
 have I:=Zia I
 have J:Inv X pins σ H' s':=I.call' (ch:=[]) y.os y.un y.hok y.bare fun b z=>absurd z (by simp)
 have hF:=J.stack
 have hA:=J.ok.frames
 rw [hst] at hF hA
 refine Zkl hA hF hfr y.tr fun h2 T2 hT2 tr2 k2=>?_
 have nT2:s.heap.get? T2=none:=by
  cases z:s.heap.get? T2 with
  | none=>rfl
  | some o=>
   obtain ⟨o1,z1⟩:=y.un.there T2 o z (by simp)
   exact absurd (Heap.lt_size z1) (Nat.not_lt.mpr hT2)
 have fT2:H' T2=none:=y.hok.fresh hT2
 have u2:Un (frs X.stack) [] H H' s.heap h2:=Zj2 y.un (by rw [hst];exact k2) fun b hb=>by
  rcases List.mem_cons.mp hb with rfl | hb
  ·exact y.na
  ·rw [List.mem_singleton.mp hb];exact y.nT
 have ok2:HOk X.prog X.w H' h2:=Zgd y.hok k2 (fun b hb=>J.stkFree b (by rw [hst];exact hb)) fun b hb=>by
  rcases List.mem_cons.mp hb with rfl | hb
  ·exact y.fa
  ·rw [List.mem_singleton.mp hb];exact y.fT
 refine Zfs (s:={ s' with heap:=h2 }) tr2 fun h3 tr3 k3=>?_
 have u3:Un (frs X.stack) [] H H' s.heap h3:=Zj2 u2 (k3.mono (by simp) fun _ z=>z) fun b hb=>by rw [List.mem_singleton.mp hb];exact nT2
 have ok3:HOk X.prog X.w H' h3:=Zgd ok2 k3 (by simp) fun b hb=>by rw [List.mem_singleton.mp hb];exact fT2
 have J3:Inv X pins σ H' { s' with heap:=h3 }:=I.call' (s':={ s' with heap:=h3 }) (ch:=[]) y.os u3 ok3 y.bare fun b z=>absurd z (by simp)
 have S3:Inv (sufX X a) pins σ H' { s' with heap:=h3 }:=Zow J3
 refine wpAny_handleBy_cons (codeAny_handlers_test (Zg0 S3 hg hm ?_ hdb)) (by intro z;cases z)
 obtain ⟨_,⟨oe,vs,g1,g2,g3,g4⟩,_⟩:=id tr3
 refine (PySem.W.exm_one (M:=model X.prog X.w) (cls:=.ref C) J3.kIn (g2 ▸ (PySem.W.Looks.ld g1).andThen .now) em).here ?_
 refine codeAny_handlers_suite_as (Zfs (s:={ s' with heap:=h3 }) tr3 fun h4 tr4 k4=>?_)
 have u4:Un (frs X.stack) [] H H' s.heap h4:=Zj2 u3 (k4.mono (by simp) fun _ z=>z) fun b hb=>by rw [List.mem_singleton.mp hb];exact nT2
 have ok4:HOk X.prog X.w H' h4:=Zgd ok3 k4 (by simp) fun b hb=>by rw [List.mem_singleton.mp hb];exact fT2
 have fr4:∀ b,b=a→H b=none:=fun b z=>by rw [z];exact Zo2 I.hok y.na
 have u5:Un (frs X.stack) [] H (upd H' a (ErrH a C)) s.heap h4:=by
  have ne:∀ b o,s.heap.get? b=some o→b≠a:=fun b o z w=>by rw [w,y.na] at z;cases z
  have ne2:∀ b o,H' b=some o→b≠a:=fun b o z w=>by rw [w,y.fa] at z;cases z
  refine ⟨u4.keep,u4.slot,fun b o z n m=>by rw [Za7 (ne b o z)];exact u4.free b o z n m,u4.there,fun b xs z=>?_,fun b o u z=>?_,fun b ps z=>?_⟩
  ·rw [Za7 (ne2 b _ (u4.tups b xs z))];exact u4.tups b xs z
  ·rw [Za7 (ne2 b _ (u4.frzs b o u z))];exact u4.frzs b o u z
  ·obtain ⟨more,z1⟩:=u4.tbls b ps z
   exact ⟨more,by rw [Za7 (ne2 b _ z1)];exact z1⟩
 have ok5:HOk X.prog X.w (upd H' a (ErrH a C)) h4:=fun b ob e=>by
  by_cases hb:b=a
  ·subst hb
   rw [Zbg] at e
   cases e
   exact Zrc tr4
  ·rw [Za7 hb] at e
   refine (ok4 b ob e).stay (fun _ _ _ z=>z) (fun c z=>?_) fun c xs z=>?_
   ·rw [Za7 fun w=>by rw [w,y.fa] at z;cases z];exact z
   ·rw [Za7 fun w=>by rw [w,y.fa] at z;cases z];exact z
 have J5:Inv X pins σ (upd H' a (ErrH a C)) { s' with heap:=h4 }:=I.call' (s':={ s' with heap:=h4 }) (ch:=[]) y.os u5 ok5 y.bare fun b z=>absurd z (by simp)
 have S5:Inv (sufX X a) pins σ (upd H' a (ErrH a C)) { s' with heap:=h4 }:=Zow J5
 refine Zj4 (X:=sufX X a) S5 hN hi (.inl hk) (v:=.ref a) rfl (fun s6 S6=>?_) (.inr hk)
 refine wpAny_mono (hs a pins s6 _ _ _ S6 (q a y.fa)) (fun f s7 h7=>?_) fun _ _ z=>z.elim
 have gone:∀ {σ':L2.St} {H7:Hp} {R:Unit→Shared→Prop},Inv (sufX X a) pins σ' H7 s7→(∀ s8,Inv X pins (σ'.set i none) H7 s8→R () s8)→wpAny (model X.prog X.w) X.A (do bindName X.env n .none;unbindBehindTheSuite X.env n hpos) R X.xe s7:=fun {σ' H7 R} S7 hR=>by
  obtain ⟨m,hn,hl⟩:=id S7.loc
  exact wpAny_nameGoes_keeps hk hn (by rw [show X.env.scope.kind=.function from J5.ok.kind];rfl) fun h8 v hn8 hs8=>hR _ (Zpc (Zrg J5.ok S7) hN hi hk hl hn hn8 hs8)
 cases f with
 | next=>obtain ⟨σ',H7,S7,q7⟩:=h7;exact gone S7 fun s8 I8=>⟨_,_,I8,q7⟩
 | brk=>obtain ⟨σ',H7,S7,q7⟩:=h7;exact gone S7 fun s8 I8=>⟨_,_,I8,q7⟩
 | cont=>obtain ⟨σ',H7,S7,q7⟩:=h7;exact gone S7 fun s8 I8=>⟨_,_,I8,q7⟩
 | ret u=>obtain ⟨v,σ',H7,S7,rv,q7⟩:=h7;exact gone S7 fun s8 I8=>⟨v,_,_,I8,rv,q7⟩
theorem Zqd {tb:Ends→TS} (hb:∀ pins D,PSs (tryX X pins D (.ExceptHandler (some (.Name x np)) (some n) (b0 :: suite) hpos)) body (tb D)) :
  PS X (.Try body [.ExceptHandler (some (.Name x np)) (some n) (b0 :: suite) hpos] [] [] pos) (fun D σ H=>tb D D σ H):=by
 intro pins s σ H D I h
 refine wpAny_Try_except (wpAny_mono (hb pins D [] s σ H D (Zq7 I) h) (fun f s1 h1=>?_) fun _ _ z=>z)
 cases f with
 | next=>
  obtain ⟨σ',H',J,q⟩:=h1
  exact wpAny_pure ⟨σ',H',Zia J,q⟩
 | brk=>obtain ⟨σ',H',J,q⟩:=h1;exact ⟨σ',H',Zia J,q⟩
 | cont=>obtain ⟨σ',H',J,q⟩:=h1;exact ⟨σ',H',Zia J,q⟩
 | ret u=>obtain ⟨v,σ',H',J,r,q⟩:=h1;exact ⟨v,σ',H',Zia J,r,q⟩
end
def clsOf (mg:Str→Option Value) (x:Str):Addr:=match mg x with
 | some (.ref C)=>C
 | _=>0
theorem Zby {mg:Str→Option Value} {x:Str} {C:Addr} (h:mg x=some (.ref C)):clsOf mg x=C:=by unfold clsOf;rw [h]
theorem Zcd {X:Cx} {x:Str} {v:V} {pos:Pos} (h:∃ u,X.mg x=some u∧RelV v u) (hg:Gl X x:=by rfl) (hd:(x == ("__debug__" : Str))=false:=by decide):PE X (.Name x pos) (tC v):=by
 obtain ⟨u,h1,h2⟩:=h
 exact Zod hg h1 h2 hd
theorem Zeg {X:Cx} {x:Str} {C:Addr} {pos:Pos} (h:X.mg x=some (.ref C)) (hg:Gl X x:=by rfl) (hd:(x == ("__debug__" : Str))=false:=by decide):PE X (.Name x pos) (tC (.ref C)):=Zod hg h rfl hd
end ExcR
namespace Own
open PySem PySem.Spec PyProof.Rows L2 M
section
variable {X:Cx} {pins:List (Addr×Obj)} {σ:L2.St} {H:Hp} {s:Shared}
theorem Zkd {p:Int×Int} {its:List Value} (r:Vals [V.int p.1,V.int p.2] its):∃ t1 t2,its=[.int p.1 t1,.int p.2 t2]:=by
 cases r with
 | cons r1 rr=>
  cases rr with
  | cons r2 r3=>
   cases r3
   obtain ⟨t1,rfl⟩:=r1
   obtain ⟨t2,rfl⟩:=r2
   exact ⟨t1,t2,rfl⟩
theorem Zo0 {A:Around} {x y:V} {p q:Int×Int} {u v:Value} (I:Inv X pins σ H s) (hu:A.units < cLine) (rx:RelV x u) (ry:RelV y v) (hp:PairR H x p) (hq:PairR H y q):SeqAt.EqAt A s u v (decide (p=q)):=by
 obtain ⟨a,rfl,ha⟩:=hp
 obtain ⟨b,rfl,hb⟩:=hq
 obtain rfl:u=Value.ref a:=rx
 obtain rfl:v=Value.ref b:=ry
 by_cases hab:a=b
 ·subst hab
  rw [ha] at hb
  have e:p=q:=by
   injection hb with hb
   injection hb with hb
   injection hb with h1 h2
   injection h2 with h2 _
   exact Prod.ext (V.int.inj h1) (V.int.inj h2)
  rw [decide_eq_true e]
  exact SeqAt.EqAt.same _
 ·obtain ⟨_,its,r1,t1⟩:=(show ObjOk X.prog X.w H s.heap a (.tup [.int p.1,.int p.2]) from I.hok a _ ha)
  obtain ⟨_,jts,r2,t2⟩:=(show ObjOk X.prog X.w H s.heap b (.tup [.int q.1,.int q.2]) from I.hok b _ hb)
  obtain ⟨k1,k2,rfl⟩:=Zkd r1
  obtain ⟨k3,k4,rfl⟩:=Zkd r2
  have h:=SeqAt.RcAt.tuples (A:=A) (s:=s) (e:=fun j=>if j=0 then p.1 == q.1 else p.2 == q.2) t1 t2 hu (fun j h1 h2=>by
   have hj:j=0∨j=1:=by
    have h1':j < 2:=h1
    omega
   rcases hj with rfl | rfl
   ·exact SeqAt.EqAt.int_int _ _ _ _
   ·exact SeqAt.EqAt.int_int _ _ _ _)
  have e:((List.range (min ([Value.int p.1 k1,Value.int p.2 k2].toArray).size ([Value.int q.1 k3,Value.int q.2 k4].toArray).size)).all (fun j=>if j=0 then p.1 == q.1 else p.2 == q.2) && ([Value.int p.1 k1,Value.int p.2 k2].toArray).size == ([Value.int q.1 k3,Value.int q.2 k4].toArray).size)=decide (p=q):=by
   show ((List.range 2).all (fun j=>if j=0 then p.1 == q.1 else p.2 == q.2) && true)=decide (p=q)
   rw [Bool.and_true]
   have e2:(List.range 2).all (fun j=>if j=0 then p.1 == q.1 else p.2 == q.2)=((p.1 == q.1) && (p.2 == q.2)):=by simp [List.range,List.range.loop]
   rw [e2]
   by_cases h1:p.1=q.1
   ·by_cases h2:p.2=q.2
    ·rw [decide_eq_true (Prod.ext h1 h2)];simp [h1,h2]
    ·rw [decide_eq_false (fun z=>h2 (by rw [z]))];simp [h2]
   ·rw [decide_eq_false (fun z=>h1 (by rw [z]))];simp [h1]
  rw [e] at h
  exact SeqAt.EqAt.of_refs hab h
def eP (H:Hp) (q:Int×Int) (u:Value):Bool:=match u with
 | .ref a=>(match H a with
  | some (.tup [.int i,.int j])=>decide ((i,j)=q)
  | _=>false)
 | _=>false
theorem Zrs {v:V} {u:Value} {p q:Int×Int} (h:PairR H v p) (r:RelV v u):eP H q u=decide (p=q):=by
 obtain ⟨a,rfl,ha⟩:=h
 obtain rfl:u=Value.ref a:=r
 unfold eP
 simp only [ha]
theorem Zn4 {q:Int×Int}:∀ {vs:List V} {us:List Value} {ps:List (Int×Int)},Vals vs us→LV PairR H vs ps→us.any (eP H q)=decide (q∈ps)
 | _,_,[],.nil,_=>rfl
 | _,_,_ :: _,.nil,h=>absurd h.1 (by simp)
 | v :: vs,u :: us,[],.cons _ _,h=>absurd h.1 (by simp)
 | v :: vs,u :: us,p :: ps,.cons r t,h=>by
  obtain ⟨v',e,hv⟩:=h.2 0 p rfl
  cases e
  have ht:LV PairR H vs ps:=⟨by simpa using h.1,fun i x e=>h.2 (i + 1) x e⟩
  rw [List.any_cons,Zrs hv r,Zn4 t ht]
  by_cases e1:p=q
  ·subst e1;simp
  ·by_cases e2:q∈ps
   ·simp [e1,e2]
   ·have:¬ q=p:=fun z=>e1 z.symm
    simp [e1,e2,this]
def rInP (neg:Bool):R2:=fun x y H Q=>∃ (l:Addr) (ps:List (Int×Int)) (q:Int×Int),y=.ref l∧PairR H x q∧LAt PairR H l ps∧Q (.bl (if neg then !decide (q∈ps) else decide (q∈ps))) H
theorem Znu {A:Around} {x:V} {v:Value} {q:Int×Int} (I:Inv X pins σ H s) (hu:A.units < cLine) (rx:RelV x v) (hx:PairR H x q):∀ {vs:List V} {us:List Value} {ps:List (Int×Int)},Vals vs us→LV PairR H vs ps→∀ u∈us,SeqAt.EqAt A s u v (eP H q u)
 | _,_,_,.nil,_,u,hu'=>by cases hu'
 | w :: vs,u :: us,[],.cons _ _,h,_,_=>absurd h.1 (by simp)
 | w :: vs,u :: us,p :: ps,.cons r t,h,u',hu'=>by
  obtain ⟨w',e,hw⟩:=h.2 0 p rfl
  cases e
  have ht:LV PairR H vs ps:=⟨by simpa using h.1,fun i x e=>h.2 (i + 1) x e⟩
  rcases List.mem_cons.mp hu' with rfl | hu'
  ·rw [Zrs hw r]
   exact Zo0 I hu r rx hw hx
  ·exact Znu I hu rx hx t ht u' hu'
theorem Zr6 (hu:X.A.in1.units < cLine):OpR X (compareOp .In) (rInP false):=by
 intro pins s σ H x y v u Q I rx ry h
 obtain ⟨l,ps,q,rfl,hx,⟨vs,hl,hv⟩,k⟩:=h
 cases ry
 obtain ⟨its,r,pl,hz⟩:=I.list (SqL.of hl)
 refine SeqAt.in_listAt (eP H q) pl.isList (fun w hw=>Znu I hu rx hx r hv w (by simpa using hw)) ⟨.bl _,H,I,rfl,?_⟩
 rw [show its.toArray.any (eP H q)=its.any (eP H q) by simp,Zn4 r hv]
 exact k
theorem Zoh (hu:X.A.in1.units < cLine):OpR X (compareOp .NotIn) (rInP true):=by
 intro pins s σ H x y v u Q I rx ry h
 obtain ⟨l,ps,q,rfl,hx,⟨vs,hl,hv⟩,k⟩:=h
 cases ry
 obtain ⟨its,r,pl,hz⟩:=I.list (SqL.of hl)
 refine SeqAt.notIn_listAt (eP H q) pl.isList (fun w hw=>Znu I hu rx hx r hv w (by simpa using hw)) ⟨.bl _,H,I,rfl,?_⟩
 rw [show its.toArray.any (eP H q)=its.any (eP H q) by simp,Zn4 r hv]
 exact k
end
end Own
namespace M
open PySem PySem.Spec PyProof.Rows L2 Own
section
variable {α:Type} {R:Hp→V→α→Prop} {H:Hp}
def pick (c:α→Bool) (d:V×α):Option V:=if c d.2=true then some d.1 else none
end
end M
namespace Own
open PySem PySem.Spec PyProof.Rows L2 M
section
variable {X:Cx}
end
end Own
namespace M
open PySem PySem.Spec PyProof.Rows L2 Own
end M
namespace Own
open PySem PySem.Spec PyProof.Rows L2
section
variable {X:Cx} {K:PySem.W.Frag}
def rEqE (K:PySem.W.Frag) (neg:Bool):R2:=fun x y H Q=>∃ (p q:Addr) (xs:List V),x=.ref p∧y=.ref q∧SqL K H p xs∧SqL K H q []∧Q (.bl (if neg then !xs.isEmpty else xs.isEmpty)) H
theorem Zq (hu:X.A.units < cLine) (hK:X.K=K:=by rfl):OpR X (compareOp .Eq) (rEqE K false):=by
 subst hK
 intro pins s σ H x y v u Q I rx ry h
 obtain ⟨p,q,xs,rfl,rfl,hp,hq,k⟩:=h
 obtain rfl:v=Value.ref p:=rx
 obtain rfl:u=Value.ref q:=ry
 obtain ⟨us,r1,p1,_⟩:=I.list hp
 obtain ⟨ws,r2,p2,_⟩:=I.list hq
 have l1:=r1.length
 have l2:0=ws.length:=r2.length
 have k':Q (.bl xs.isEmpty) H:=k
 by_cases e:xs.length=0
 ·refine SeqAt.eq_listAt (e:=fun _=>true) p1.isList p2.isList (by simp;omega) hu (fun j h1 h2=>by simp at h2;omega) ⟨.bl xs.isEmpty,H,I,?_,k'⟩
  show _=Value.bool xs.isEmpty
  have:xs=[]:=List.length_eq_zero_iff.mp e
  subst this
  rw [List.size_toArray,← l1]
  rfl
 ·refine SeqAt.eq_list_lengthsAt p1.isList p2.isList (by simp;omega) hu ⟨.bl xs.isEmpty,H,I,?_,k'⟩
  show _=Value.bool xs.isEmpty
  cases xs with
  | nil=>exact absurd rfl e
  | cons a r=>rfl
theorem Zrv (hu:X.A.units < cLine) (hK:X.K=K:=by rfl):OpR X (compareOp .NotEq) (rEqE K true):=by
 subst hK
 intro pins s σ H x y v u Q I rx ry h
 obtain ⟨p,q,xs,rfl,rfl,hp,hq,k⟩:=h
 obtain rfl:v=Value.ref p:=rx
 obtain rfl:u=Value.ref q:=ry
 obtain ⟨us,r1,p1,_⟩:=I.list hp
 obtain ⟨ws,r2,p2,_⟩:=I.list hq
 have l1:=r1.length
 have l2:0=ws.length:=r2.length
 have k':Q (.bl (!xs.isEmpty)) H:=k
 by_cases e:xs.length=0
 ·refine SeqAt.RcNeAt.lists (e:=fun _=>true) p1.isList p2.isList (by simp;omega) hu (fun j h1 h2=>by simp at h2;omega) _ _ _ _ ⟨.bl (!xs.isEmpty),H,I,?_,k'⟩
  show _=Value.bool (!xs.isEmpty)
  have:xs=[]:=List.length_eq_zero_iff.mp e
  subst this
  rw [List.size_toArray,← l1]
  rfl
 ·refine SeqAt.RcNeAt.lists_lengths p1.isList p2.isList (by simp;omega) hu _ _ _ _ ⟨.bl (!xs.isEmpty),H,I,?_,k'⟩
  show _=Value.bool (!xs.isEmpty)
  cases xs with
  | nil=>exact absurd rfl e
  | cons a r=>rfl
end
end Own
namespace M
open PySem PySem.Spec PyProof.Rows L2 Own
end M
namespace M
def sl:List Int→List Int→Prop
 | x :: xs,y :: ys=>x < y∨(x=y∧sl xs ys)
 | _,_=>False
section
variable {C:Int→Prop} {ws:List (Int×Int)}
end
section
variable {hs:List Int} {ws:List (Int×Int)} {l:Int} {k:Nat} {ps:List (List Int)} {ls:List Int}
end
end M
namespace M
def Wishes (ws:List (Int×Int)):Prop:=ws.length≤20∧ws.Nodup∧∀ q∈ws,(1≤q.1∧q.1≤10∧1≤q.2∧q.2≤10)∧q.1≠q.2
end M
namespace M
open Own
end M
namespace Pu
open PySem PySem.Spec PyProof.Rows L2 Own
inductive D where
 | int (i:Int) | bl (b:Bool) | non | str (x:Str) | ty (n:String) | tup (ds:List D) | lst (ds:List D) | scr (ns:List Int) | dK (kvs:List (Key×V)) | dT (kvs:List (List Key×V)) | loc (a:Addr) (d:D) | err (C:Addr) | ref (a:Addr) | ins (C:Addr) (xs:List Str) (ds:List D)
mutual
inductive Rp (K:PySem.W.Frag) (H:Hp):D→V→Prop
 | int (i:Int):Rp K H (.int i) (.int i)
 | bl (b:Bool):Rp K H (.bl b) (.bl b)
 | non:Rp K H .non .non
 | str (x:Str):Rp K H (.str x) (.str x)
 | ty (n:String):Rp K H (.ty n) (.ty n)
 | tup {ds:List D} {vs:List V} {a:Addr}:H a=some (.tup vs)→Rps K H ds vs→Rp K H (.tup ds) (.ref a)
 | lst {ds:List D} {vs:List V} {a:Addr}:H a=some (.lst vs)→Rps K H ds vs→Rp K H (.lst ds) (.ref a)
 | scr {ns:List Int} {a:Addr}:SqL K H a (ns.map V.int)→Rp K H (.scr ns) (.ref a)
 | dK {kvs:List (Key×V)} {a:Addr}:H a=some (.dK kvs)→Rp K H (.dK kvs) (.ref a)
 | dT {kvs:List (List Key×V)} {a:Addr}:H a=some (.dT kvs)→Rp K H (.dT kvs) (.ref a)
 | loc {d:D} {a:Addr}:Rp K H d (.ref a)→Rp K H (.loc a d) (.ref a)
 | err {C a:Addr}:H a=some (ExcR.ErrH a C)→Rp K H (.err C) (.ref a)
 | ref (a:Addr):Rp K H (.ref a) (.ref a)
 | ins {C a dx:Addr} {xs:List Str} {ds:List D} {vs:List V}:H a=some (.ins C dx (xs.zip vs))→xs.length=vs.length→Rps K H ds vs→Rp K H (.ins C xs ds) (.ref a)
inductive Rps (K:PySem.W.Frag) (H:Hp):List D→List V→Prop
 | nil:Rps K H [] []
 | cons {d:D} {v:V} {ds:List D} {vs:List V}:Rp K H d v→Rps K H ds vs→Rps K H (d :: ds) (v :: vs)
end
section
variable {K:PySem.W.Frag} {H H':Hp}
mutual
theorem Rp.mono (S:Same H H'):∀ {d:D} {v:V},Rp K H d v→Rp K H' d v
 | _,_,.int i=>.int i
 | _,_,.bl b=>.bl b
 | _,_,.non=>.non
 | _,_,.str x=>.str x
 | _,_,.ty n=>.ty n
 | _,_,.tup h r=>.tup (S _ _ h) (Rps.mono S r)
 | _,_,.lst h r=>.lst (S _ _ h) (Rps.mono S r)
 | _,_,.scr h=>.scr (S.seq h)
 | _,_,.dK h=>.dK (S _ _ h)
 | _,_,.dT h=>.dT (S _ _ h)
 | _,_,.loc h=>.loc (Rp.mono S h)
 | _,_,.err h=>.err (S _ _ h)
 | _,_,.ref a=>.ref a
 | _,_,.ins h e r=>.ins (S _ _ h) e (Rps.mono S r)
theorem Rps.mono (S:Same H H'):∀ {ds:List D} {vs:List V},Rps K H ds vs→Rps K H' ds vs
 | _,_,.nil=>.nil
 | _,_,.cons h r=>.cons (Rp.mono S h) (Rps.mono S r)
end
theorem Rps.len:∀ {ds:List D} {vs:List V},Rps K H ds vs→vs.length=ds.length
 | _,_,.nil=>rfl
 | _,_,.cons _ r=>congrArg (· + 1) (Rps.len r)
theorem Rps.get:∀ {ds:List D} {vs:List V} {i:Nat} {d:D},Rps K H ds vs→ds[i]?=some d→∃ v,vs[i]?=some v∧Rp K H d v
 | _,_,_,_,.nil,e=>by simp at e
 | _,_,0,_,.cons h _,e=>by simp at e;subst e;exact ⟨_,rfl,h⟩
 | _,_,i + 1,d,.cons _ r,e=>by
  obtain ⟨v,h1,h2⟩:=Rps.get (i:=i) (d:=d) r (by simpa using e)
  exact ⟨v,by simpa using h1,h2⟩
theorem Rps.append:∀ {ds es:List D} {vs us:List V},Rps K H ds vs→Rps K H es us→Rps K H (ds++es) (vs++us)
 | _,_,_,_,.nil,s=>s
 | _,_,_,_,.cons h r,s=>.cons h (Rps.append r s)
theorem Rps.at {ds:List D} {vs:List V} {i:Int} {d:D} (r:Rps K H ds vs) (e:atI ds i=some d):∃ v,atI vs i=some v∧Rp K H d v:=by
 unfold atI at e ⊢
 rw [r.len]
 cases q:ixN ds.length i with
 | none=>rw [q] at e;cases e
 | some j=>
  rw [q] at e
  exact r.get (show ds[j]?=some d from e)
theorem Rps.drop:∀ {ds:List D} {vs:List V} (n:Nat),Rps K H ds vs→Rps K H (ds.drop n) (vs.drop n)
 | _,_,0,r=>r
 | _,_,_ + 1,.nil=>.nil
 | _,_,n + 1,.cons _ r=>Rps.drop n r
theorem Rps.take:∀ {ds:List D} {vs:List V} (n:Nat),Rps K H ds vs→Rps K H (ds.take n) (vs.take n)
 | _,_,0,_=>.nil
 | _,_,_ + 1,.nil=>.nil
 | _,_,n + 1,.cons h r=>.cons h (Rps.take n r)
end
mutual
def imm:D→Bool
 | .tup ds=>imms ds
 | .lst _=>false
 | .scr _=>false
 | .dK _=>false
 | .dT _=>false
 | .loc _ _=>false
 | .err _=>false
 | .ins _ _ _=>false
 | _=>true
def imms:List D→Bool
 | []=>true
 | d :: r=>imm d && imms r
end
open Classical in
noncomputable def off (Z:Addr→Prop) (H:Hp):Hp:=fun b=>if Z b then none else H b
section
variable {K:PySem.W.Frag} {H H':Hp} {Z Z':Addr→Prop}
theorem Ze3 {b:Addr} {o:HO} (h:off Z H b=some o):H b=some o∧¬ Z b:=by
 unfold off at h
 by_cases z:Z b
 ·rw [if_pos z] at h;cases h
 ·rw [if_neg z] at h;exact ⟨h,z⟩
theorem Zcb {b:Addr} {o:HO} (h:H b=some o) (z:¬ Z b):off Z H b=some o:=by
 unfold off
 rw [if_neg z]
 exact h
theorem Zau (S:Same H H') (hz:∀ b o,H b=some o→¬ Z b→¬ Z' b):Same (off Z H) (off Z' H'):=fun b o h=>by
 obtain ⟨h1,h2⟩:=Ze3 h
 exact Zcb (S b o h1) (hz b o h1 h2)
theorem off_sub:Same (off Z H) H:=fun _ _ h=>(Ze3 h).1
mutual
theorem Rp.off (hm:∀ b,Z b→Mut (H b)):∀ {d:D} {v:V},Rp K H d v→imm d=true→Rp K (off Z H) d v
 | _,_,.int i,_=>.int i
 | _,_,.bl b,_=>.bl b
 | _,_,.non,_=>.non
 | _,_,.str x,_=>.str x
 | _,_,.ty n,_=>.ty n
 | _,_,.tup h r,e=>.tup (Zcb h fun z=>by have:=hm _ z;rw [h] at this;exact this) (Rps.off hm r (by unfold imm at e;exact e))
 | _,_,.lst _ _,e=>by unfold imm at e;cases e
 | _,_,.scr _,e=>by unfold imm at e;cases e
 | _,_,.dK _,e=>by unfold imm at e;cases e
 | _,_,.dT _,e=>by unfold imm at e;cases e
 | _,_,.loc _,e=>by unfold imm at e;cases e
 | _,_,.err _,e=>by unfold imm at e;cases e
 | _,_,.ref a,_=>.ref a
 | _,_,.ins _ _ _,e=>by unfold imm at e;cases e
theorem Rps.off (hm:∀ b,Z b→Mut (H b)):∀ {ds:List D} {vs:List V},Rps K H ds vs→imms ds=true→Rps K (off Z H) ds vs
 | _,_,.nil,_=>.nil
 | _,_,.cons h r,e=>by
  unfold imms at e
  rw [Bool.and_eq_true] at e
  exact .cons (Rp.off hm h e.1) (Rps.off hm r e.2)
end
end
inductive O where
 | lst (ds:List D) | dK (kvs:List (Key×V)) | dT (kvs:List (List Key×V)) | ins (a C:Addr) (xs:List Str) (cs:List (Addr×List D)) | lsA (a:Addr) (ds:List D)
instance:Coe (List D) O:=⟨O.lst⟩
def O.d:O→D
 | .lst ds=>.lst ds | .dK kvs=>.dK kvs | .dT kvs=>.dT kvs | .ins _ C xs cs=>.ins C xs (cs.map fun c=>.lst c.2) | .lsA _ ds=>.lst ds
def O.adr (a:Addr):O→Addr→Prop
 | .lst _=>fun b=>b=a
 | .dK _=>fun b=>b=a
 | .dT _=>fun b=>b=a
 | .ins x _ _ cs=>fun b=>b=x∨∃ c∈cs,b=c.1
 | .lsA x _=>fun b=>b=x
def OR (K:PySem.W.Frag) (F H:Hp) (a:Addr):O→Prop
 | .lst ds=>∃ vs,H a=some (.lst vs)∧Rps K F ds vs
 | .dK kvs=>H a=some (.dK kvs)
 | .dT kvs=>H a=some (.dT kvs)
 | .lsA x ds=>a=x∧∃ vs,H a=some (.lst vs)∧Rps K F ds vs
 | .ins x C xs cs=>a=x∧xs.length=cs.length∧(∃ dx,H a=some (.ins C dx (xs.zip (cs.map fun c=>V.ref c.1))))∧(∀ c∈cs,∃ vs,H c.1=some (.lst vs)∧Rps K F c.2 vs)∧(cs.map (·.1)).Nodup
theorem OR.mono {K:PySem.W.Frag} {F F' H H':Hp} {a:Addr} {o:O} (S1:Same F F') (S2:∀ b,o.adr a b→∀ x,H b=some x→H' b=some x) (h:OR K F H a o):OR K F' H' a o:=by
 cases o with
 | lst ds=>obtain ⟨vs,h1,h2⟩:=h;exact ⟨vs,S2 _ rfl _ h1,Rps.mono S1 h2⟩
 | dK kvs=>exact S2 _ rfl _ h
 | dT kvs=>exact S2 _ rfl _ h
 | lsA x ds=>obtain ⟨rfl,vs,h1,h2⟩:=h;exact ⟨rfl,vs,S2 _ rfl _ h1,Rps.mono S1 h2⟩
 | ins x C xs cs=>
  obtain ⟨e,l,⟨dx,h1⟩,h2,h3⟩:=h
  exact ⟨e,l,⟨dx,S2 _ (.inl e) _ h1⟩,fun c hc=>let ⟨vs,q1,q2⟩:=h2 c hc;⟨vs,S2 _ (.inr ⟨c,hc,rfl⟩) _ q1,Rps.mono S1 q2⟩,h3⟩
theorem Zki {K:PySem.W.Frag} {F:Hp}:∀ {cs:List (Addr×List D)},(∀ c∈cs,∃ vs,F c.1=some (.lst vs)∧Rps K F c.2 vs)→Rps K F (cs.map fun c=>.lst c.2) (cs.map fun c=>V.ref c.1)
 | [],_=>.nil
 | c :: cs,h=>let ⟨_,q1,q2⟩:=h c List.mem_cons_self;.cons (.lst q1 q2) (Zki fun c' hc=>h c' (List.mem_cons_of_mem _ hc))
theorem OR.rpIn {K:PySem.W.Frag} {F F' H:Hp} {a:Addr} {o:O} (S1:Same F F') (S2:∀ b,o.adr a b→∀ x,H b=some x→F' b=some x) (h:OR K F H a o):Rp K F' o.d (.ref a):=by
 cases o with
 | lst ds=>obtain ⟨vs,h1,h2⟩:=h;exact .lst (S2 _ rfl _ h1) (Rps.mono S1 h2)
 | dK kvs=>exact .dK (S2 _ rfl _ h)
 | dT kvs=>exact .dT (S2 _ rfl _ h)
 | lsA x ds=>obtain ⟨rfl,vs,h1,h2⟩:=h;exact .lst (S2 _ rfl _ h1) (Rps.mono S1 h2)
 | ins x C xs cs=>
  obtain ⟨e,l,⟨dx,h1⟩,h2,h3⟩:=h
  exact .ins (S2 _ (.inl e) _ h1) (by rw [List.length_map];exact l) (Zki fun c hc=>let ⟨vs,q1,q2⟩:=h2 c hc;⟨vs,S2 _ (.inr ⟨c,hc,rfl⟩) _ q1,Rps.mono S1 q2⟩)
theorem OR.rp {K:PySem.W.Frag} {F H:Hp} {a:Addr} {o:O} (S1:Same F H) (h:OR K F H a o):Rp K H o.d (.ref a):=h.rpIn S1 fun _ _ _ e=>e
theorem OR.mut {K:PySem.W.Frag} {F H:Hp} {a:Addr} {o:O} (h:OR K F H a o):∀ b,o.adr a b→Mut (H b):=by
 cases o with
 | lst ds=>obtain ⟨vs,h1,h2⟩:=h;intro b e;rw [show b=a from e,h1];trivial
 | dK kvs=>intro b e;rw [show b=a from e,show H a=some (.dK kvs) from h];trivial
 | dT kvs=>intro b e;rw [show b=a from e,show H a=some (.dT kvs) from h];trivial
 | lsA x ds=>obtain ⟨rfl,vs,h1,h2⟩:=h;intro b e;rw [show b=a from e,h1];trivial
 | ins x C xs cs=>
  obtain ⟨e,l,⟨dx,h1⟩,h2,h3⟩:=h
  intro b hb
  rcases hb with hb | ⟨c,hc,hb⟩
  ·rw [show b=a from hb.trans e.symm,h1];trivial
  ·obtain ⟨vs,q1,_⟩:=h2 c hc
   rw [hb,q1];trivial
inductive S where
 | bor (d:D) | sh (d:D) | own (o:O) | view (o:O) | tmp (d:D)
abbrev Γ:=List (Option S)
def D.strip:D→D
 | .loc _ d=>d | d=>d
theorem Rp.strip {K:PySem.W.Frag} {H:Hp} {d:D} {v:V} (h:Rp K H d v):Rp K H d.strip v:=by
 cases h with
 | loc h=>exact h
 | int i=>exact .int i
 | bl b=>exact .bl b
 | non=>exact .non
 | str x=>exact .str x
 | ty n=>exact .ty n
 | tup h r=>exact .tup h r
 | lst h r=>exact .lst h r
 | scr h=>exact .scr h
 | dK h=>exact .dK h
 | dT h=>exact .dT h
 | err h=>exact .err h
 | ref a=>exact .ref a
 | ins h e r=>exact .ins h e r
def S.d:S→D
 | .bor d=>d.strip | .sh d=>d | .own o=>o.d | .view o=>o.d | .tmp d=>d
def arg (d:D):S:=match imm d with | true=>.sh d | false=>.bor d
def argT (d:D):S:=match imm d with | true=>.sh d | false=>.tmp d
def S.sub:S→D→S
 | .bor _,e=>arg e | .tmp _,e=>argT e | _,e=>.sh e
def S.shd:S→Option D
 | .sh d=>some d | .own o=>some o.d
 | .bor d=>match imm d with | true=>some d | false=>none
 | .tmp d=>match imm d with | true=>some d | false=>none
 | .view _=>none
def S.slot:S→Option S
 | .view _=>none | .bor d=>some (.bor d) | .sh d=>some (.sh d) | .own ds=>some (.own ds)
 | .tmp d=>match imm d with | true=>some (.sh d) | false=>none
def isOwn (γ:Γ) (σ:L2.St) (b:Addr):Prop:=∃ (i:Nat) (ds:O) (a:Addr),γ[i]?=some (some (.own ds))∧σ[i]?=some (some (.ref a))∧ds.adr a b
def zof (B:Addr→Prop) (γ:Γ) (σ:L2.St):Addr→Prop:=fun b=>B b∨isOwn γ σ b
def SV (K:PySem.W.Frag) (Z:Addr→Prop) (H0 H:Hp):S→V→Prop
 | .bor d,v=>Rp K H0 d v
 | .sh d,v=>Rp K (off Z H) d v
 | .own o,v=>∃ a,v=.ref a∧(∀ b,o.adr a b→H0 b=none)∧OR K (off Z H) H a o
 | _,_=>False
def TV (K:PySem.W.Frag) (Z:Addr→Prop) (H0 H H':Hp):S→V→Prop
 | .bor d,v=>Rp K H0 d v
 | .sh d,v=>Rp K (off Z H') d v
 | .own o,v=>∃ a,v=.ref a∧(∀ b,o.adr a b→H b=none)∧OR K (off (fun b=>Z b∨o.adr a b) H') H' a o
 | .view o,v=>∃ a,v=.ref a∧OR K (off Z H') H' a o
 | .tmp d,v=>Rp K H' d v
structure EnvR (K:PySem.W.Frag) (H0:Hp) (B:Addr→Prop) (H:Hp) (σ:L2.St) (γ:Γ):Prop where
 same:Same H0 H
 len:σ.length=γ.length
 bm:∀ b,B b→Mut (H b)
 own:∀ (i j:Nat) (a a':Addr) (ds es:O) (b:Addr),γ[i]?=some (some (.own ds))→γ[j]?=some (some (.own es))→σ[i]?=some (some (.ref a))→σ[j]?=some (some (.ref a'))→ds.adr a b→es.adr a' b→i=j
 slot:∀ (i:Nat) (s:S),γ[i]?=some (some s)→∃ v,σ[i]?=some (some v)∧SV K (zof B γ σ) H0 H s v
section
variable {K:PySem.W.Frag} {H0 H H1 H':Hp} {B Z Z':Addr→Prop} {σ:L2.St} {γ:Γ}
theorem Zdm (S:Same H H') {b:Addr} (h:Mut (H b)):Mut (H' b):=by
 cases e:H b with
 | none=>rw [e] at h;exact h.elim
 | some o=>rw [S b o e,← e];exact h
theorem Zdp {b:Addr} (h:Mut (H b)):∃ o,H b=some o:=by
 cases e:H b with
 | none=>rw [e] at h;exact h.elim
 | some o=>exact ⟨o,rfl⟩
theorem EnvR.grow (E:EnvR K H0 B H σ γ) (S:Same H H'):EnvR K H0 B H' σ γ where
 same:=E.same.trans S
 len:=E.len
 bm b h:=Zdm S (E.bm b h)
 own:=E.own
 slot i s h:=by
  obtain ⟨v,h1,h2⟩:=E.slot i s h
  refine ⟨v,h1,?_⟩
  cases s with
  | bor d=>exact h2
  | sh d=>exact Rp.mono (Zau S fun _ _ _ z=>z) h2
  | own ds=>
   obtain ⟨a,e1,e3,e4⟩:=h2
   exact ⟨a,e1,e3,e4.mono (Zau S fun _ _ _ z=>z) fun b _ x=>S b x⟩
  | view ds=>exact h2
  | tmp d=>exact h2
theorem EnvR.zm (E:EnvR K H0 B H σ γ):∀ b,zof B γ σ b→Mut (H b):=fun b h=>by
 rcases h with h | ⟨i,ds,x,h1,h2,hb⟩
 ·exact E.bm b h
 ·obtain ⟨v,e1,a,e2,e3,e4⟩:=E.slot i _ h1
  rw [h2] at e1
  cases e1
  cases e2
  exact e4.mut b hb
theorem TV.rp {s:S} {v:V} (h0:Same H0 H') (h:TV K Z H0 H H' s v):Rp K H' s.d v:=by
 cases s with
 | bor d=>exact (Rp.mono h0 h).strip
 | sh d=>exact Rp.mono off_sub h
 | own ds=>
  obtain ⟨a,rfl,_,r⟩:=h
  exact r.rp off_sub
 | view ds=>
  obtain ⟨a,rfl,r⟩:=h
  exact r.rp off_sub
 | tmp d=>exact h
theorem TV.grow {s:S} {v:V} (S1:Same H' H1) (h:TV K Z H0 H H' s v):TV K Z H0 H H1 s v:=by
 cases s with
 | bor d=>exact h
 | sh d=>exact Rp.mono (Zau S1 fun _ _ _ z=>z) h
 | own ds=>
  obtain ⟨a,rfl,e0,r⟩:=h
  exact ⟨a,rfl,e0,r.mono (Zau S1 fun _ _ _ z=>z) fun b _ x=>S1 b x⟩
 | view ds=>
  obtain ⟨a,rfl,r⟩:=h
  exact ⟨a,rfl,r.mono (Zau S1 fun _ _ _ z=>z) fun b _ x=>S1 b x⟩
 | tmp d=>exact Rp.mono S1 h
theorem TV.weak {s:S} {v:V} (S1:Same H H1) (hz:∀ b,Z b→Z' b) (h:TV K Z' H0 H1 H' s v):TV K Z H0 H H' s v:=by
 cases s with
 | bor d=>exact h
 | sh d=>exact Rp.mono (Zau (Same.refl _) fun b _ _ z y=>z (hz b y)) h
 | own ds=>
  obtain ⟨a,rfl,e0,r⟩:=h
  exact ⟨a,rfl,fun b hb=>S1.free (e0 b hb),r.mono (Zau (Same.refl _) fun b _ _ z y=>z (y.imp (hz b) id)) fun _ _ _ q=>q⟩
 | view ds=>
  obtain ⟨a,rfl,r⟩:=h
  exact ⟨a,rfl,r.mono (Zau (Same.refl _) fun b _ _ z y=>z (hz b y)) fun _ _ _ q=>q⟩
 | tmp d=>exact h
theorem TV.shd {s:S} {v:V} {d:D} (h0:Same H0 H') (hm:∀ b,Z b→Mut (H b)) (S1:Same H H') (h:TV K Z H0 H H' s v) (e:s.shd=some d):Rp K (off Z H') d v:=by
 have hm':∀ b,Z b→Mut (H' b):=fun b z=>Zdm S1 (hm b z)
 cases s with
 | bor d'=>
  unfold S.shd at e
  cases q:imm d' with
  | false=>simp [q] at e
  | true=>
   simp [q] at e
   subst e
   exact Rp.off hm' (Rp.mono h0 h) q
 | sh d'=>cases e;exact h
 | own ds=>
  cases e
  obtain ⟨a,rfl,e0,r⟩:=h
  exact r.rpIn (Zau (Same.refl _) fun b _ _ z y=>z (.inl y)) fun b hb x e=>Zcb e fun z=>by have:=hm _ z;rw [e0 b hb] at this;exact this
 | view ds=>cases e
 | tmp d'=>
  unfold S.shd at e
  cases q:imm d' with
  | false=>simp [q] at e
  | true=>
   simp [q] at e
   subst e
   exact Rp.off hm' h q
theorem argR {d:D} {v:V} (hm:∀ b,Z b→Mut (H' b)) (h0:Same H0 H') (h:Rp K H0 d v):TV K Z H0 H H' (arg d) v:=by
 unfold arg
 cases q:imm d with
 | true=>exact Rp.off hm (Rp.mono h0 h) q
 | false=>exact h
theorem argTR {d:D} {v:V} (hm:∀ b,Z b→Mut (H' b)) (h:Rp K H' d v):TV K Z H0 H H' (argT d) v:=by
 unfold argT
 cases q:imm d with
 | true=>exact Rp.off hm h q
 | false=>exact h
theorem Rp.lst_inv {ds:List D} {v:V} (h:Rp K H (.lst ds) v):∃ a vs,v=.ref a∧H a=some (.lst vs)∧Rps K H ds vs:=by
 cases h with
 | lst h r=>exact ⟨_,_,rfl,h,r⟩
theorem Rp.tup_inv {ds:List D} {v:V} (h:Rp K H (.tup ds) v):∃ a vs,v=.ref a∧H a=some (.tup vs)∧Rps K H ds vs:=by
 cases h with
 | tup h r=>exact ⟨_,_,rfl,h,r⟩
theorem TV.part {s:S} {v:V} (h0:Same H0 H') (hm:∀ b,Z b→Mut (H b)) (S1:Same H H') (h:TV K Z H0 H H' s v) :
  (∀ ds,s.d=.lst ds→∃ a vs,v=.ref a∧H' a=some (.lst vs)∧vs.length=ds.length∧∀ (i:Nat) d,ds[i]?=some d→∃ u,vs[i]?=some u∧TV K Z H0 H H' (s.sub d) u)∧
  (∀ ds,s.d=.tup ds→∃ a vs,v=.ref a∧H' a=some (.tup vs)∧vs.length=ds.length∧∀ (i:Nat) d,ds[i]?=some d→∃ u,vs[i]?=some u∧TV K Z H0 H H' (s.sub d) u):=by
 have hm':∀ b,Z b→Mut (H' b):=fun b z=>Zdm S1 (hm b z)
 cases s with
 | bor d=>
  have h:=Rp.strip h
  refine ⟨fun ds e=>?_,fun ds e=>?_⟩<;>rw [show d.strip=_ from e] at h
  ·obtain ⟨a,vs,rfl,h,r⟩:=Rp.lst_inv h
   exact ⟨_,_,rfl,h0 _ _ h,r.len,fun i d e=>let ⟨u,h1,h2⟩:=r.get e;⟨u,h1,argR hm' h0 h2⟩⟩
  ·obtain ⟨a,vs,rfl,h,r⟩:=Rp.tup_inv h
   exact ⟨_,_,rfl,h0 _ _ h,r.len,fun i d e=>let ⟨u,h1,h2⟩:=r.get e;⟨u,h1,argR hm' h0 h2⟩⟩
 | sh d=>
  refine ⟨fun ds e=>?_,fun ds e=>?_⟩<;>(have e':d=_:=e;subst e')
  ·obtain ⟨a,vs,rfl,h,r⟩:=Rp.lst_inv h
   exact ⟨_,_,rfl,off_sub _ _ h,r.len,fun i d e=>r.get e⟩
  ·obtain ⟨a,vs,rfl,h,r⟩:=Rp.tup_inv h
   exact ⟨_,_,rfl,off_sub _ _ h,r.len,fun i d e=>r.get e⟩
 | own es=>
  cases es with
  | lst es=>
   refine ⟨fun ds e=>?_,fun ds e=>by cases e⟩
   cases e
   obtain ⟨a,rfl,e0,vs,e,r⟩:=h
   exact ⟨a,vs,rfl,e,r.len,fun i d e=>let ⟨u,h1,h2⟩:=r.get e;⟨u,h1,Rp.mono (Zau (Same.refl _) fun b _ _ z y=>z (.inl y)) h2⟩⟩
  | lsA x es=>
   refine ⟨fun ds e=>?_,fun ds e=>by cases e⟩
   cases e
   obtain ⟨a,rfl,e0,_,vs,e,r⟩:=h
   exact ⟨a,vs,rfl,e,r.len,fun i d e=>let ⟨u,h1,h2⟩:=r.get e;⟨u,h1,Rp.mono (Zau (Same.refl _) fun b _ _ z y=>z (.inl y)) h2⟩⟩
  | dK es=>exact ⟨(fun ds e=>by cases e),(fun ds e=>by cases e)⟩
  | dT es=>exact ⟨(fun ds e=>by cases e),(fun ds e=>by cases e)⟩
  | ins x C xs cs=>exact ⟨(fun ds e=>by cases e),(fun ds e=>by cases e)⟩
 | view es=>
  cases es with
  | lst es=>
   refine ⟨fun ds e=>?_,fun ds e=>by cases e⟩
   cases e
   obtain ⟨a,rfl,vs,e,r⟩:=h
   exact ⟨a,vs,rfl,e,r.len,fun i d e=>r.get e⟩
  | lsA x es=>
   refine ⟨fun ds e=>?_,fun ds e=>by cases e⟩
   cases e
   obtain ⟨a,rfl,_,vs,e,r⟩:=h
   exact ⟨a,vs,rfl,e,r.len,fun i d e=>r.get e⟩
  | dK es=>exact ⟨(fun ds e=>by cases e),(fun ds e=>by cases e)⟩
  | dT es=>exact ⟨(fun ds e=>by cases e),(fun ds e=>by cases e)⟩
  | ins x C xs cs=>exact ⟨(fun ds e=>by cases e),(fun ds e=>by cases e)⟩
 | tmp d=>
  refine ⟨fun ds e=>?_,fun ds e=>?_⟩<;>(have e':d=_:=e;subst e')
  ·obtain ⟨a,vs,rfl,h,r⟩:=Rp.lst_inv h
   exact ⟨_,_,rfl,h,r.len,fun i d e=>let ⟨u,h1,h2⟩:=r.get e;⟨u,h1,argTR hm' h2⟩⟩
  ·obtain ⟨a,vs,rfl,h,r⟩:=Rp.tup_inv h
   exact ⟨_,_,rfl,h,r.len,fun i d e=>let ⟨u,h1,h2⟩:=r.get e;⟨u,h1,argTR hm' h2⟩⟩
def Fr (B:Addr→Prop) (H:Hp) (σ:L2.St) (γ:Γ) (H':Hp) (σ':L2.St) (γ':Γ):Prop:=∀ b o,H b=some o→¬ zof B γ σ b→H' b=some o∧¬ zof B γ' σ' b
theorem Fr.refl:Fr B H σ γ H σ γ:=fun _ _ h z=>⟨h,z⟩
theorem Fr.trans {H1 H2:Hp} {σ1 σ2:L2.St} {γ1 γ2:Γ} (a:Fr B H σ γ H1 σ1 γ1) (b:Fr B H1 σ1 γ1 H2 σ2 γ2):Fr B H σ γ H2 σ2 γ2:=fun x o h z=>let ⟨h1,z1⟩:=a x o h z;b x o h1 z1
theorem Fr.grow (S1:Same H H'):Fr B H σ γ H' σ γ:=fun _ _ h z=>⟨S1 _ _ h,z⟩
theorem Fr.off {H':Hp} {σ':L2.St} {γ':Γ} (f:Fr B H σ γ H' σ' γ'):Same (off (zof B γ σ) H) (Pu.off (zof B γ' σ') H'):=fun b o h=>by
 obtain ⟨h1,h2⟩:=Ze3 h
 obtain ⟨h3,h4⟩:=f b o h1 h2
 exact Zcb h3 h4
theorem Za9 {α:Type} {l:List α} {i j:Nat} {x y:α} (h:(l.set i x)[j]?=some y):(j=i∧x=y∧i < l.length)∨(j≠i∧l[j]?=some y):=by
 rw [List.getElem?_set] at h
 by_cases e:i=j
 ·subst e
  rw [if_pos rfl] at h
  by_cases e2:i < l.length
  ·rw [if_pos e2] at h
   exact .inl ⟨rfl,Option.some.inj h,e2⟩
  ·rw [if_neg e2] at h;cases h
 ·rw [if_neg e] at h
  exact .inr ⟨fun z=>e z.symm,h⟩
theorem Zmc {α:Type} {l:List α} {i:Nat} {x:α} (h:i < l.length):(l.set i x)[i]?=some x:=by rw [List.getElem?_set_self h]
theorem Ze4 {α:Type} {l:List α} {i j:Nat} {x:α} (h:j≠i):(l.set i x)[j]?=l[j]?:=List.getElem?_set_ne fun z=>h z.symm
theorem EnvR.drop (E:EnvR K H0 B H σ γ) (i:Nat):EnvR K H0 B H σ (γ.set i none)∧Fr B H σ γ H σ (γ.set i none):=by
 have hz:∀ b,zof B (γ.set i none) σ b→zof B γ σ b:=fun b z=>z.imp id fun ⟨j,ds,a,h1,h2,h3⟩=>by
  rcases Za9 h1 with ⟨_,e,_⟩ | ⟨_,e⟩
  ·cases e
  ·exact ⟨j,ds,a,e,h2,h3⟩
 refine ⟨⟨E.same,by rw [List.length_set];exact E.len,E.bm,fun k j a a' ds es b h1 h2=>?_,fun k s h=>?_⟩,fun b o h z=>⟨h,fun y=>z (hz b y)⟩⟩
 ·rcases Za9 h1 with ⟨_,e,_⟩ | ⟨_,e1⟩
  ·cases e
  ·rcases Za9 h2 with ⟨_,e,_⟩ | ⟨_,e2⟩
   ·cases e
   ·exact E.own k j a a' ds es b e1 e2
 ·rcases Za9 h with ⟨_,e,_⟩ | ⟨_,e⟩
  ·cases e
  ·obtain ⟨v,h1,h2⟩:=E.slot k s e
   refine ⟨v,h1,?_⟩
   have S1:Same (Pu.off (zof B γ σ) H) (Pu.off (zof B (γ.set i none) σ) H):=Zau (Same.refl _) fun b _ _ z y=>z (hz b y)
   cases s with
   | bor d=>exact h2
   | sh d=>exact Rp.mono S1 h2
   | own ds=>
    obtain ⟨a,e1,e3,e4⟩:=h2
    exact ⟨a,e1,e3,e4.mono S1 fun _ _ _ q=>q⟩
   | view ds=>exact h2
   | tmp d=>exact h2
theorem EnvR.put {i:Nat} {s s':S} {v:V} (E:EnvR K H0 B H σ γ) (S1:Same H H') (h:TV K (zof B γ σ) H0 H H' s v) (e:s.slot=some s') (hi:i < γ.length) :
  EnvR K H0 B H' (σ.set i (some v)) (γ.set i (some s'))∧Fr B H σ γ H' (σ.set i (some v)) (γ.set i (some s')):=by
 have hiσ:i < σ.length:=by rw [E.len];exact hi
 have E':=E.grow S1
 have isown:∀ ds,s'=.own ds→s=.own ds:=fun ds q=>by
  subst q
  cases s with
  | own es=>cases e;rfl
  | bor d=>cases e
  | sh d=>cases e
  | view d=>cases e
  | tmp d=>unfold S.slot at e;cases q:imm d<;>simp [q] at e
 have hown:∀ b,zof B (γ.set i (some s')) (σ.set i (some v)) b→zof B γ σ b∨∃ ds a,s=.own ds∧v=.ref a∧ds.adr a b:=fun b z=>by
  rcases z with z | ⟨j,ds,a,h1,h2,h3⟩
  ·exact .inl (.inl z)
  ·rcases Za9 h1 with ⟨ej,e1,_⟩ | ⟨nj,e1⟩
   ·subst ej
    rw [Zmc hiσ] at h2
    have:s'=.own ds:=Option.some.inj e1
    exact .inr ⟨ds,a,isown ds this,Option.some.inj (Option.some.inj h2),h3⟩
   ·rw [Ze4 nj] at h2
    exact .inl (.inr ⟨j,ds,a,e1,h2,h3⟩)
 have fresh:∀ ds a b,s=.own ds→v=.ref a→ds.adr a b→H b=none:=fun ds a b es ev hb=>by
  subst es
  obtain ⟨a',e1,e0,_⟩:=h
  rw [ev] at e1
  cases e1
  exact e0 b hb
 have hz:∀ b o,H b=some o→¬ zof B γ σ b→¬ zof B (γ.set i (some s')) (σ.set i (some v)) b:=fun b o hb z y=>by
  rcases hown b y with y | ⟨ds,a,y1,y2,y3⟩
  ·exact z y
  ·rw [fresh ds a b y1 y2 y3] at hb
   cases hb
 have So:Same (off (zof B γ σ) H) (Pu.off (zof B (γ.set i (some s')) (σ.set i (some v))) H'):=Zau S1 hz
 refine ⟨⟨E'.same,by rw [List.length_set,List.length_set];exact E.len,E'.bm,fun k j a a' ds es b h1 h2 h3 h4 h5 h6=>?_,fun k u hk=>?_⟩,fun b o hb z=>⟨S1 b o hb,hz b o hb z⟩⟩
 ·have old:∀ (k:Nat) (ds:O) (a b:Addr),γ[k]?=some (some (.own ds))→σ[k]?=some (some (.ref a))→ds.adr a b→∃ o,H b=some o:=fun k ds a b e1 e2 e3=>by
   obtain ⟨u,q1,a',q2,_,q3⟩:=E.slot k _ e1
   rw [e2] at q1
   cases q1
   cases q2
   exact Zdp (q3.mut b e3)
  rcases Za9 h1 with ⟨ek,e1,_⟩ | ⟨nk,e1⟩
  ·rcases Za9 h2 with ⟨ej,e2,_⟩ | ⟨nj,e2⟩
   ·rw [ek,ej]
   ·subst ek
    rw [Zmc hiσ] at h3
    rw [Ze4 nj] at h4
    obtain ⟨o,ho⟩:=old j es a' b e2 h4 h6
    rw [fresh ds a b (isown ds (Option.some.inj e1)) (Option.some.inj (Option.some.inj h3)) h5] at ho
    cases ho
  ·rcases Za9 h2 with ⟨ej,e2,_⟩ | ⟨nj,e2⟩
   ·subst ej
    rw [Zmc hiσ] at h4
    rw [Ze4 nk] at h3
    obtain ⟨o,ho⟩:=old k ds a b e1 h3 h5
    rw [fresh es a' b (isown es (Option.some.inj e2)) (Option.some.inj (Option.some.inj h4)) h6] at ho
    cases ho
   ·rw [Ze4 nk] at h3
    rw [Ze4 nj] at h4
    exact E.own k j a a' ds es b e1 e2 h3 h4 h5 h6
 ·rcases Za9 hk with ⟨ek,e1,_⟩ | ⟨nk,e1⟩
  ·subst ek
   have:u=s':=(Option.some.inj e1).symm
   subst this
   refine ⟨v,Zmc hiσ,?_⟩
   cases s with
   | own ds=>
    cases e
    obtain ⟨a,rfl,e0,r⟩:=h
    refine ⟨a,rfl,fun b hb=>E.same.free (e0 b hb),r.mono (Zau (Same.refl _) fun b o _ z y=>?_) fun _ _ _ q=>q⟩
    rcases hown b y with y | ⟨_,_,y1,y,y2⟩
    ·exact z (.inl y)
    ·cases y;cases y1;exact z (.inr y2)
   | sh d=>
    cases e
    refine Rp.mono (Zau (Same.refl _) fun b o _ z y=>?_) h
    rcases hown b y with y | ⟨_,_,y,_⟩
    ·exact z y
    ·cases y
   | bor d=>cases e;exact h
   | view d=>cases e
   | tmp d=>
    unfold S.slot at e
    cases q:imm d with
    | false=>simp [q] at e
    | true=>
     simp [q] at e
     subst e
     refine Rp.off (fun b y=>?_) h q
     rcases hown b y with y | ⟨_,_,y,_⟩
     ·exact Zdm S1 (E.zm b y)
     ·cases y
  ·obtain ⟨w,q1,q2⟩:=E.slot k u e1
   refine ⟨w,by rw [Ze4 nk];exact q1,?_⟩
   cases u with
   | bor d=>exact q2
   | sh d=>exact Rp.mono So q2
   | own ds=>
    obtain ⟨a,e1,e3,e4⟩:=q2
    exact ⟨a,e1,e3,e4.mono So fun b _ x=>S1 b x⟩
   | view ds=>exact q2
   | tmp d=>exact q2
def frz (i:Nat) (γ:Γ):Γ:=match γ[i]? with
 | some (some (.own o))=>γ.set i (some (.sh o.d))
 | _=>γ
theorem EnvR.frz (E:EnvR K H0 B H σ γ) (hB:∀ b,B b→∃ o,H0 b=some o) (i:Nat):EnvR K H0 B H σ (frz i γ)∧Fr B H σ γ H σ (Pu.frz i γ):=by
 unfold Pu.frz
 split
 ·rename_i ds hi
  have hlt:i < γ.length:=(List.getElem?_eq_some_iff.mp hi).1
  have hz:∀ b,zof B (γ.set i (some (.sh ds.d))) σ b→zof B γ σ b:=fun b z=>z.imp id fun ⟨j,es,a,h1,h2,h3⟩=>by
   rcases Za9 h1 with ⟨_,e,_⟩ | ⟨_,e⟩
   ·cases e
   ·exact ⟨j,es,a,e,h2,h3⟩
  have S1:Same (Pu.off (zof B γ σ) H) (Pu.off (zof B (γ.set i (some (.sh ds.d))) σ) H):=Zau (Same.refl _) fun b _ _ z y=>z (hz b y)
  refine ⟨⟨E.same,by rw [List.length_set];exact E.len,E.bm,fun k j a a' es es' b h1 h2=>?_,fun k s h=>?_⟩,fun b o h z=>⟨h,fun y=>z (hz b y)⟩⟩
  ·rcases Za9 h1 with ⟨_,e,_⟩ | ⟨_,e1⟩
   ·cases e
   ·rcases Za9 h2 with ⟨_,e,_⟩ | ⟨_,e2⟩
    ·cases e
    ·exact E.own k j a a' es es' b e1 e2
  ·rcases Za9 h with ⟨ek,e,_⟩ | ⟨nk,e⟩
   ·subst ek
    have:=Option.some.inj e
    subst this
    obtain ⟨v,h1,a,rfl,h3,h4⟩:=E.slot k _ hi
    refine ⟨_,h1,h4.rpIn S1 fun b hb x h2=>Zcb h2 fun z=>?_⟩
    rcases z with z | ⟨j,es,a',e1,e2,e3⟩
    ·obtain ⟨o,ho⟩:=hB b z
     rw [h3 b hb] at ho
     cases ho
    ·rcases Za9 e1 with ⟨_,q,_⟩ | ⟨nj,q⟩
     ·cases q
     ·exact nj (E.own j k a' a es ds b q hi e2 h1 e3 hb)
   ·obtain ⟨v,h1,h2⟩:=E.slot k s e
    refine ⟨v,h1,?_⟩
    cases s with
    | bor d=>exact h2
    | sh d=>exact Rp.mono S1 h2
    | own ds=>
     obtain ⟨a,e1,e3,e4⟩:=h2
     exact ⟨a,e1,e3,e4.mono S1 fun _ _ _ q=>q⟩
    | view ds=>exact h2
    | tmp d=>exact h2
 ·exact ⟨E,Fr.refl⟩
theorem EnvR.change {i:Nat} {a:Addr} {o o':O} (E:EnvR K H0 B H σ γ) (hi:γ[i]?=some (some (.own o))) (ha:σ[i]?=some (some (.ref a)))
  (hH:∀ b x,H b=some x→¬ o.adr a b→H' b=some x) (hm:∀ b,o.adr a b→Mut (H' b)) (hadr:∀ b,o'.adr a b→o.adr a b∨H b=none) (r:OR K (Pu.off (zof B (γ.set i (some (.own o'))) σ) H') H' a o') :
  EnvR K H0 B H' σ (γ.set i (some (.own o')))∧Fr B H σ γ H' σ (γ.set i (some (.own o'))):=by
 have hlt:i < γ.length:=(List.getElem?_eq_some_iff.mp hi).1
 obtain ⟨v,h1,a',rfl,h3,h4⟩:=E.slot i _ hi
 rw [ha] at h1
 cases h1
 have za:∀ b,o.adr a b→zof B γ σ b:=fun b hb=>.inr ⟨i,o,a,hi,ha,hb⟩
 have hz:∀ b x,H b=some x→zof B (γ.set i (some (.own o'))) σ b→zof B γ σ b:=fun b x hx z=>by
  rcases z with z | ⟨j,fs,a',e1,e2,e3⟩
  ·exact .inl z
  ·rcases Za9 e1 with ⟨ej,q,_⟩ | ⟨_,e⟩
   ·subst ej
    cases q
    rw [ha] at e2
    cases e2
    rcases hadr b e3 with k | k
    ·exact za b k
    ·rw [k] at hx;cases hx
   ·exact .inr ⟨j,fs,a',e,e2,e3⟩
 have S1:Same (Pu.off (zof B γ σ) H) (Pu.off (zof B (γ.set i (some (.own o'))) σ) H'):=fun b x h=>by
  obtain ⟨q1,q2⟩:=Ze3 h
  exact Zcb (hH b x q1 fun k=>q2 (za b k)) fun z=>q2 (hz b x q1 z)
 have old:∀ (k:Nat) (ds:O) (a b:Addr),γ[k]?=some (some (.own ds))→σ[k]?=some (some (.ref a))→ds.adr a b→∃ o,H b=some o:=fun k ds a b e1 e2 e3=>by
  obtain ⟨u,q1,a',q2,_,q3⟩:=E.slot k _ e1
  rw [e2] at q1
  cases q1
  cases q2
  exact Zdp (q3.mut b e3)
 refine ⟨⟨fun b x h=>?_,by rw [List.length_set];exact E.len,fun b hb=>?_,fun k j x x' fs fs' b e1 e2 e3 e4 e5 e6=>?_,fun k s h=>?_⟩,fun b x h z=>⟨?_,fun y=>z (hz b x h y)⟩⟩
 ·exact hH b x (E.same b x h) fun k=>by rw [h3 b k] at h;cases h
 ·by_cases k:o.adr a b
  ·exact hm b k
  ·have:=E.bm b hb
   obtain ⟨x,hx⟩:=Zdp this
   rw [hH b x hx k,← hx]
   exact this
 ·rcases Za9 e1 with ⟨ek,q1,_⟩ | ⟨nk,q1⟩
  ·rcases Za9 e2 with ⟨ej,_,_⟩ | ⟨nj,q2⟩
   ·rw [ek,ej]
   ·subst ek
    cases q1
    rw [ha] at e3
    cases e3
    rcases hadr b e5 with w | w
    ·exact E.own k j _ _ _ _ b hi q2 ha e4 w e6
    ·obtain ⟨u,hu⟩:=old j fs' x' b q2 e4 e6
     rw [w] at hu;cases hu
  ·rcases Za9 e2 with ⟨ej,q2,_⟩ | ⟨nj,q2⟩
   ·subst ej
    cases q2
    rw [ha] at e4
    cases e4
    rcases hadr b e6 with w | w
    ·exact E.own k j _ _ _ _ b q1 hi e3 ha e5 w
    ·obtain ⟨u,hu⟩:=old k fs x b q1 e3 e5
     rw [w] at hu;cases hu
   ·exact E.own k j x x' fs fs' b q1 q2 e3 e4 e5 e6
 ·rcases Za9 h with ⟨ek,e,_⟩ | ⟨nk,e⟩
  ·subst ek
   have:=Option.some.inj e
   subst this
   exact ⟨_,ha,a,rfl,fun b hb=>(hadr b hb).elim (h3 b) fun w=>E.same.free w,r⟩
  ·obtain ⟨v,q1,q2⟩:=E.slot k s e
   refine ⟨v,q1,?_⟩
   cases s with
   | bor d=>exact q2
   | sh d=>exact Rp.mono S1 q2
   | own fs=>
    obtain ⟨x,rfl,e3,e4⟩:=q2
    exact ⟨x,rfl,e3,e4.mono S1 fun b hb y e2=>hH b y e2 fun w=>nk (E.own k i x a fs o b e hi q1 ha hb w)⟩
   | view ds=>exact q2
   | tmp d=>exact q2
 ·exact hH b x h fun k=>z (za b k)
theorem EnvR.mutate {i:Nat} {a:Addr} {ds es:O} {us:HO} (E:EnvR K H0 B H σ γ) (hi:γ[i]?=some (some (.own ds))) (ha:σ[i]?=some (some (.ref a))) (hu:Mut (some us)) (r:∀ F H':Hp,Same (Pu.off (zof B γ σ) H) F→H' a=some us→OR K F H' a es)
  (k1:ds.adr a=fun b=>b=a:=by rfl) (k2:es.adr a=fun b=>b=a:=by rfl) :
  EnvR K H0 B (upd H a us) σ (γ.set i (some (.own es)))∧Fr B H σ γ (upd H a us) σ (γ.set i (some (.own es))):=by
 refine E.change (o:=ds) (o':=es) hi ha (fun b x h n=>by rw [Za7 (fun z=>n (by rw [k1];exact z))];exact h) (fun b h=>by rw [k1] at h;rw [show b=a from h,Zbg];exact hu) (fun b h=>.inl (by rw [k1];rw [k2] at h;exact h)) (r _ _ ?_ Zbg)
 intro b x h
 obtain ⟨q1,q2⟩:=Ze3 h
 have nb:b≠a:=fun z=>q2 (.inr ⟨i,ds,a,hi,ha,by rw [k1];exact z⟩)
 refine Zcb (by rw [Za7 nb];exact q1) fun z=>q2 ?_
 rcases z with z | ⟨j,fs,a',e1,e2,e3⟩
 ·exact .inl z
 ·rcases Za9 e1 with ⟨ej,q,_⟩ | ⟨_,e⟩
  ·subst ej
   cases q
   rw [ha] at e2
   cases e2
   rw [k2] at e3
   exact absurd e3 nb
  ·exact .inr ⟨j,fs,a',e,e2,e3⟩
end
end Pu
namespace Pu
open PySem PySem.Spec PyProof.Rows L2 Own
abbrev XR:=Str→Prop
abbrev PTE:=Γ→(S→Prop)→XR→Prop
abbrev PTT:=Γ→(Bool→Prop)→XR→Prop
abbrev PTA:=Γ→(List S→Prop)→XR→Prop
abbrev PTO:=Γ→(Option Int→Prop)→XR→Prop
structure PEnds where
 nx:Γ→Prop
 rt:S→Prop
 ex:Γ→Str→Prop
 bk:Γ→Prop:=fun _=>False
 ct:Γ→Prop:=fun _=>False
 rv:Γ→D→Prop:=fun _ _=>False
abbrev PTS:=PEnds→Γ→Prop
abbrev PTG:=S→Γ→(Γ→Prop)→Prop
abbrev PTGs:=List S→Γ→(Γ→Prop)→Prop
inductive TVs (K:PySem.W.Frag) (Z:Addr→Prop) (H0 H H':Hp):List S→List V→Prop
 | nil:TVs K Z H0 H H' [] []
 | cons {s:S} {v:V} {ss:List S} {vs:List V}:TV K Z H0 H H' s v→TVs K Z H0 H H' ss vs→TVs K Z H0 H H' (s :: ss) (v :: vs)
section
variable (K:PySem.W.Frag) (mg:Str→Option Value) (E:L2.St→XK)
def SndE (t:TE) (p:PTE):Prop:=∀ (H0:Hp) (B:Addr→Prop) (H:Hp) (σ:L2.St) (γ:Γ) (R:S→Prop) (X:XR) (Q:VK),EnvR K H0 B H σ γ→p γ R X→
 (∀ s v H',R s→Same H H'→TV K (zof B γ σ) H0 H H' s v→Q v H')→(∀ c H',X c→Same H H'→E σ (.ref (ExcR.clsOf mg c)) none H')→t σ H Q
def SndT (t:TT) (p:PTT):Prop:=∀ (H0:Hp) (B:Addr→Prop) (H:Hp) (σ:L2.St) (γ:Γ) (R:Bool→Prop) (X:XR) (Q:Bool→Hp→Prop),EnvR K H0 B H σ γ→p γ R X→
 (∀ b H',R b→Same H H'→Q b H')→(∀ c H',X c→Same H H'→E σ (.ref (ExcR.clsOf mg c)) none H')→t σ H Q
def SndA (t:TA) (p:PTA):Prop:=∀ (H0:Hp) (B:Addr→Prop) (H:Hp) (σ:L2.St) (γ:Γ) (R:List S→Prop) (X:XR) (Q:List V→Hp→Prop),EnvR K H0 B H σ γ→p γ R X→
 (∀ ss vs H',R ss→Same H H'→TVs K (zof B γ σ) H0 H H' ss vs→Q vs H')→(∀ c H',X c→Same H H'→E σ (.ref (ExcR.clsOf mg c)) none H')→t σ H Q
def SndO (t:TO) (p:PTO):Prop:=∀ (H0:Hp) (B:Addr→Prop) (H:Hp) (σ:L2.St) (γ:Γ) (R:Option Int→Prop) (X:XR) (Q:Option Int→Hp→Prop),EnvR K H0 B H σ γ→p γ R X→
 (∀ o H',R o→Same H H'→Q o H')→(∀ c H',X c→Same H H'→E σ (.ref (ExcR.clsOf mg c)) none H')→t σ H Q
structure EndR (H0:Hp) (B:Addr→Prop) (H:Hp) (σ:L2.St) (γ:Γ) (R:PEnds) (D:Ends):Prop where
 nx:∀ σ' γ' H',R.nx γ'→EnvR K H0 B H' σ' γ'→Fr B H σ γ H' σ' γ'→D.nx σ' H'
 rt:∀ s v H',R.rt s→Same H0 H'→TV K B H0 H0 H' s v→D.rt v H'
 ex:∀ σ' γ' c H',R.ex γ' c→EnvR K H0 B H' σ' γ'→Fr B H σ γ H' σ' γ'→E σ' (.ref (ExcR.clsOf mg c)) none H'
 bk:∀ σ' γ' H',R.bk γ'→EnvR K H0 B H' σ' γ'→Fr B H σ γ H' σ' γ'→D.bk σ' H'
 ct:∀ σ' γ' H',R.ct γ'→EnvR K H0 B H' σ' γ'→Fr B H σ γ H' σ' γ'→D.ct σ' H'
 rv:∀ σ' γ' d v H',R.rv γ' d→EnvR K H0 B H' σ' γ'→Fr B H σ γ H' σ' γ'→Rp K (off (zof B γ' σ') H') d v→D.rt v H'
def SndS (t:TS) (p:PTS):Prop:=∀ (H0:Hp) (B:Addr→Prop) (H:Hp) (σ:L2.St) (γ:Γ) (R:PEnds) (D:Ends),(∀ b,B b→∃ o,H0 b=some o)→EnvR K H0 B H σ γ→p R γ→EndR K mg E H0 B H σ γ R D→t D σ H
end
section
variable {K:PySem.W.Frag} {mg:Str→Option Value} {E:L2.St→XK} {H0 H H1 H':Hp} {B Z Z':Addr→Prop} {σ:L2.St} {γ:Γ}
theorem TVs.weakG {H1 H2:Hp}:∀ {ss:List S} {vs:List V},Same H H1→TVs K Z H0 H1 H2 ss vs→TVs K Z H0 H H2 ss vs
 | _,_,_,.nil=>.nil
 | _,_,S1,.cons h r=>.cons (TV.weak S1 (fun _ z=>z) h) (TVs.weakG S1 r)
theorem TVs.rps (h0:Same H0 H'):∀ {ss:List S} {vs:List V},TVs K Z H0 H H' ss vs→Rps K H' (ss.map S.d) vs
 | _,_,.nil=>.nil
 | _,_,.cons h r=>.cons (h.rp h0) (TVs.rps h0 r)
theorem TVs.shd {ds:List D} (h0:Same H0 H') (hm:∀ b,Z b→Mut (H b)) (S1:Same H H'):∀ {ss:List S} {vs:List V} {ds:List D},TVs K Z H0 H H' ss vs→ss.map S.shd=ds.map some→Rps K (off Z H') ds vs
 | _,_,[],.nil,_=>.nil
 | _,_,_ :: _,.nil,e=>by cases e
 | _,_,[],.cons _ _,e=>by cases e
 | _,_,d :: ds,.cons h r,e=>by
  rw [List.map_cons,List.map_cons,List.cons.injEq] at e
  exact .cons (h.shd h0 hm S1 e.1) (TVs.shd (ds:=ds) h0 hm S1 r e.2)
theorem Rp.int_inv {i:Int} {v:V} (h:Rp K H (.int i) v):v=.int i:=by cases h;rfl
theorem Rp.bl_inv {b:Bool} {v:V} (h:Rp K H (.bl b) v):v=.bl b:=by cases h;rfl
theorem Rp.str_inv {x:Str} {v:V} (h:Rp K H (.str x) v):v=.str x:=by cases h;rfl
theorem Rp.non_inv {v:V} (h:Rp K H .non v):v=.non:=by cases h;rfl
theorem Rp.ty_inv {n:String} {v:V} (h:Rp K H (.ty n) v):v=.ty n:=by cases h;rfl
def pVar (i:Nat):PTE:=fun γ R _=>match γ[i]? with
 | some (some (.own ds))=>R (.view ds)
 | some (some s)=>R s
 | _=>False
theorem Zab (i:Nat):SndE K mg E (tVar i) (pVar i):=by
 intro H0 B H σ γ R X Q env h q _
 unfold pVar at h
 split at h
 ·rename_i ds e
  obtain ⟨v,h1,a,rfl,h3,h4⟩:=env.slot i _ e
  exact ⟨_,h1,q _ _ H h (Same.refl _) ⟨a,rfl,h4⟩⟩
 ·rename_i s ns e
  obtain ⟨v,h1,h2⟩:=env.slot i _ e
  refine ⟨v,h1,q _ _ H h (Same.refl _) ?_⟩
  cases s with
  | bor d=>exact h2
  | sh d=>exact h2
  | own ds=>exact absurd rfl (ns ds)
  | view ds=>exact h2.elim
  | tmp d=>exact h2.elim
 ·exact h.elim
def pC (d:D):PTE:=fun _ R _=>R (.sh d)
theorem se_c {d:D} {v:V} (h:∀ H,Rp K H d v):SndE K mg E (tC v) (pC d):=by
 intro H0 B H σ γ R X Q env p q _
 exact q _ _ H p (Same.refl _) (h _)
theorem Zac {i:Int}:SndE K mg E (tC (.int i)) (pC (.int i)):=se_c fun _=>.int i
theorem Zdz {b:Bool}:SndE K mg E (tC (.bl b)) (pC (.bl b)):=se_c fun _=>.bl b
theorem Zbo {x:Str}:SndE K mg E (tC (.str x)) (pC (.str x)):=se_c fun _=>.str x
theorem Zjr {n:String}:SndE K mg E (tC (.ty n)) (pC (.ty n)):=se_c fun _=>.ty n
def p2 (a b:PTE) (f:S→S→(S→Prop)→Prop):PTE:=fun γ R X=>a γ (fun x=>b γ (fun y=>f x y R) X) X
theorem se_2 {r:R2} {ta tb:TE} {a b:PTE} {f:S→S→(S→Prop)→Prop} (ha:SndE K mg E ta a) (hb:SndE K mg E tb b)
  (hr:∀ (H0 H H2:Hp) (Z:Addr→Prop) (x y:S) (v u:V) (R:S→Prop) (Q:VK),Same H0 H2→Same H H2→(∀ b,Z b→Mut (H b))→TV K Z H0 H H2 x v→TV K Z H0 H H2 y u→f x y R→(∀ s z H',R s→Same H2 H'→TV K Z H0 H H' s z→Q z H')→r v u H2 Q) :
  SndE K mg E (tOp r ta tb) (p2 a b f):=by
 intro H0 B H σ γ R X Q env p q qx
 refine ha H0 B H σ γ _ X _ env p (fun x v H1 h1 S1 t1=>?_) qx
 have env1:=env.grow S1
 refine hb H0 B H1 σ γ _ X _ env1 h1 (fun y u H2 h2 S2 t2=>?_) fun c H' hc S'=>qx c H' hc (S1.trans S')
 exact hr H0 H H2 _ x y v u R Q (env1.same.trans S2) (S1.trans S2) env.zm (t1.grow S2) (TV.weak S1 (fun _ z=>z) t2) h2 fun s z H' hs S3 t3=>q s z H' hs ((S1.trans S2).trans S3) t3
def fI0 (g:Int→Int→D):S→S→(S→Prop)→Prop:=fun x y R=>match x.d,y.d with
 | .int i,.int j=>R (.sh (g i j))
 | _,_=>False
def fI (C:Int→Int→Prop) (g:Int→Int→D):S→S→(S→Prop)→Prop:=fun x y R=>match x.d,y.d with
 | .int i,.int j=>C i j∧R (.sh (g i j))
 | _,_=>False
theorem Zoj {g:Int→Int→V} {g':Int→Int→D} {ta tb:TE} {a b:PTE} (hg:∀ H i j,Rp K H (g' i j) (g i j)) (ha:SndE K mg E ta a) (hb:SndE K mg E tb b):SndE K mg E (tOp (rI0 g) ta tb) (p2 a b (fI0 g')):=by
 refine se_2 ha hb fun H0 H H2 Z x y v u R Q s0 s1 hm tx ty h q=>?_
 unfold fI0 at h
 have rx:=tx.rp s0
 have ry:=ty.rp s0
 split at h
 ·rename_i i j e1 e2
  rw [e1] at rx
  rw [e2] at ry
  exact ⟨i,j,rx.int_inv,ry.int_inv,q _ _ H2 h (Same.refl _) (hg _ i j)⟩
 ·exact h.elim
theorem se_I {C:Int→Int→Prop} {g:Int→Int→V} {g':Int→Int→D} {ta tb:TE} {a b:PTE} (hg:∀ H i j,Rp K H (g' i j) (g i j)) (ha:SndE K mg E ta a) (hb:SndE K mg E tb b):SndE K mg E (tOp (rI C g) ta tb) (p2 a b (fI C g')):=by
 refine se_2 ha hb fun H0 H H2 Z x y v u R Q s0 s1 hm tx ty h q=>?_
 unfold fI at h
 have rx:=tx.rp s0
 have ry:=ty.rp s0
 split at h
 ·rename_i i j e1 e2
  rw [e1] at rx
  rw [e2] at ry
  exact ⟨i,j,rx.int_inv,ry.int_inv,h.1,q _ _ H2 h.2 (Same.refl _) (hg _ i j)⟩
 ·exact h.elim
section
variable {ta tb tc:TE} {a b c:PTE}
theorem Zbp (ha:SndE K mg E ta a) (hb:SndE K mg E tb b):SndE K mg E (tOp (rI0 fun i j=>.int (i + j)) ta tb) (p2 a b (fI0 fun i j=>.int (i + j))):=Zoj (fun _ _ _=>.int _) ha hb
theorem Zdi (ha:SndE K mg E ta a) (hb:SndE K mg E tb b):SndE K mg E (tOp (rI0 fun i j=>.int (i - j)) ta tb) (p2 a b (fI0 fun i j=>.int (i - j))):=Zoj (fun _ _ _=>.int _) ha hb
theorem Zko (ha:SndE K mg E ta a) (hb:SndE K mg E tb b):SndE K mg E (tOp (rI CMul fun i j=>.int (i * j)) ta tb) (p2 a b (fI CMul fun i j=>.int (i * j))):=se_I (fun _ _ _=>.int _) ha hb
theorem Zbj (ha:SndE K mg E ta a) (hb:SndE K mg E tb b):SndE K mg E (tOp (rI CDiv fun i j=>.int (i / j)) ta tb) (p2 a b (fI CDiv fun i j=>.int (i / j))):=se_I (fun _ _ _=>.int _) ha hb
theorem Zb (ha:SndE K mg E ta a) (hb:SndE K mg E tb b):SndE K mg E (tOp (rI (fun _ j=>0 < j) fun i j=>.int (i % j)) ta tb) (p2 a b (fI (fun _ j=>0 < j) fun i j=>.int (i % j))):=se_I (fun _ _ _=>.int _) ha hb
theorem Zo5 (ha:SndE K mg E ta a) (hb:SndE K mg E tb b):SndE K mg E (tOp (rI CPow fun i j=>.int (i ^ j.toNat)) ta tb) (p2 a b (fI CPow fun i j=>.int (i ^ j.toNat))):=se_I (fun _ _ _=>.int _) ha hb
theorem Zgm (ha:SndE K mg E ta a) (hb:SndE K mg E tb b):SndE K mg E (tOp (rI0 fun i j=>.bl (decide (i < j))) ta tb) (p2 a b (fI0 fun i j=>.bl (decide (i < j)))):=Zoj (fun _ _ _=>.bl _) ha hb
theorem Zi4 (ha:SndE K mg E ta a) (hb:SndE K mg E tb b):SndE K mg E (tOp (rI0 fun i j=>.bl (decide (j < i))) ta tb) (p2 a b (fI0 fun i j=>.bl (decide (j < i)))):=Zoj (fun _ _ _=>.bl _) ha hb
theorem Zmv (ha:SndE K mg E ta a) (hb:SndE K mg E tb b):SndE K mg E (tOp (rI0 fun i j=>.bl (decide (j≤i))) ta tb) (p2 a b (fI0 fun i j=>.bl (decide (j≤i)))):=Zoj (fun _ _ _=>.bl _) ha hb
def fEq (neg:Bool):S→S→(S→Prop)→Prop:=fun x y R=>match x.d,y.d with
 | .int i,.int j=>R (.sh (.bl (if neg then !decide (i=j) else decide (i=j))))
 | .str i,.str j=>R (.sh (.bl (if neg then !decide (i=j) else decide (i=j))))
 | .bl i,.bl j=>R (.sh (.bl (if neg then !decide (i=j) else decide (i=j))))
 | _,_=>False
theorem Zgu {α β:Type} [DecidableEq α] [DecidableEq β] {f:α→β} (hf:∀ a b,f a=f b→a=b) (a b:α):decide (f a=f b)=decide (a=b):=by
 by_cases e:a=b
 ·rw [decide_eq_true e,decide_eq_true (congrArg f e)]
 ·rw [decide_eq_false e,decide_eq_false fun z=>e (hf a b z)]
def fIx:S→S→(S→Prop)→Prop:=fun x y R=>match x.d,y.d with
 | .lst ds,.int k=>∃ d,atI ds k=some d∧R (x.sub d)
 | .tup ds,.int k=>∃ d,atI ds k=some d∧R (x.sub d)
 | .scr ns,.int k=>∃ i,atI ns k=some i∧R (.sh (.int i))
 | _,_=>False
theorem Znq {ds:List D} {vs:List V} {k:Int} {d:D} {P:D→V→Prop} (hl:vs.length=ds.length) (h:∀ (i:Nat) d,ds[i]?=some d→∃ u,vs[i]?=some u∧P d u) (e:atI ds k=some d):∃ u,atI vs k=some u∧P d u:=by
 unfold atI at e ⊢
 rw [hl]
 cases q:ixN ds.length k with
 | none=>rw [q] at e;cases e
 | some j=>
  rw [q] at e
  exact h j d e
theorem Zap (ha:SndE K mg E ta a) (hb:SndE K mg E tb b):SndE K mg E (tOp (fun x y H Q=>rIxL K x y H Q∨rIxT K x y H Q) ta tb) (p2 a b fIx):=by
 refine se_2 ha hb fun H0 H H2 Z x y v u R Q s0 s1 hm tx ty h q=>?_
 unfold fIx at h
 have ry:=ty.rp s0
 obtain ⟨pl,pt⟩:=tx.part s0 hm s1
 split at h
 ·rename_i ds k e1 e2
  rw [e2] at ry
  obtain ⟨d,hd,hR⟩:=h
  obtain ⟨l,vs,rfl,hl,hn,hp⟩:=pl ds e1
  obtain ⟨z,hz,tz⟩:=Znq hn hp hd
  exact .inl ⟨l,vs,k,z,rfl,ry.int_inv,SqL.of hl,hz,q _ _ H2 hR (Same.refl _) tz⟩
 ·rename_i ds k e1 e2
  rw [e2] at ry
  obtain ⟨d,hd,hR⟩:=h
  obtain ⟨l,vs,rfl,hl,hn,hp⟩:=pt ds e1
  obtain ⟨z,hz,tz⟩:=Znq hn hp hd
  exact .inr ⟨l,vs,k,z,rfl,ry.int_inv,SqT.of hl,hz,q _ _ H2 hR (Same.refl _) tz⟩
 ·rename_i ns k e1 e2
  rw [e2] at ry
  obtain ⟨i,hi,hR⟩:=h
  have rx:=tx.rp s0
  rw [e1] at rx
  cases rx with
  | scr hs=>exact .inl ⟨_,_,k,.int i,rfl,ry.int_inv,hs,Zj0 hi,q _ _ H2 hR (Same.refl _) (.int i)⟩
 ·exact h.elim
def pAndV (a b:PTE):PTE:=fun γ R X=>a γ (fun x=>match x.d with | .bl c=>if c=true then b γ R X else R (.sh (.bl false)) | _=>False) X
def pNotV (a:PTE):PTE:=fun γ R X=>a γ (fun x=>match x.d with | .bl c=>R (.sh (.bl (!c))) | _=>False) X
theorem Zjj (ha:SndE K mg E ta a) (hb:SndE K mg E tb b):SndE K mg E (tAndV ta tb) (pAndV a b):=by
 intro H0 B H σ γ R X Q env p q qx
 refine ha H0 B H σ γ _ X _ env p (fun x v H1 h1 S1 t1=>?_) qx
 have env1:=env.grow S1
 have rx:=t1.rp env1.same
 split at h1
 ·rename_i c e1
  rw [e1] at rx
  refine ⟨c,rx.bl_inv,?_⟩
  split at h1
  ·rename_i hc
   rw [if_pos hc]
   exact hb H0 B H1 σ γ _ X _ env1 h1 (fun y u H2 h2 S2 t2=>q y u H2 h2 (S1.trans S2) (TV.weak S1 (fun _ z=>z) t2)) fun c H' hc S'=>qx c H' hc (S1.trans S')
  ·rename_i hc
   rw [if_neg hc]
   exact q _ _ H1 h1 S1 (.bl _)
 ·exact h1.elim
theorem Zq8 (ha:SndE K mg E ta a):SndE K mg E (tNotV ta) (pNotV a):=by
 intro H0 B H σ γ R X Q env p q qx
 refine ha H0 B H σ γ _ X _ env p (fun x v H1 h1 S1 t1=>?_) qx
 have rx:=t1.rp (env.grow S1).same
 split at h1
 ·rename_i c e1
  rw [e1] at rx
  exact ⟨c,rx.bl_inv,q _ _ H1 h1 S1 (.bl _)⟩
 ·exact h1.elim
def pNeg (a:PTE):PTE:=fun γ R X=>a γ (fun x=>match x.d with | .int i=>R (.sh (.int (-i))) | _=>False) X
theorem Zf3 (ha:SndE K mg E ta a):SndE K mg E (tUn (rU fun i=>.int (-i)) ta) (pNeg a):=by
 intro H0 B H σ γ R X Q env p q qx
 refine ha H0 B H σ γ _ X _ env p (fun x v H1 h1 S1 t1=>?_) qx
 have rx:=t1.rp (env.grow S1).same
 split at h1
 ·rename_i c e1
  rw [e1] at rx
  exact ⟨c,rx.int_inv,q _ _ H1 h1 S1 (.int _)⟩
 ·exact h1.elim
def pTest (a:PTE):PTT:=fun γ R X=>a γ (fun x=>match x.d with | .bl c=>R c | _=>False) X
theorem Zak (ha:SndE K mg E ta a):SndT K mg E (tTest ta) (pTest a):=by
 intro H0 B H σ γ R X Q env p q qx
 refine ha H0 B H σ γ _ X _ env p (fun x v H1 h1 S1 t1=>?_) qx
 have rx:=t1.rp (env.grow S1).same
 split at h1
 ·rename_i c e1
  rw [e1] at rx
  exact ⟨c,rx.bl_inv,q _ H1 h1 S1⟩
 ·exact h1.elim
variable {sa sb:TT} {pa pb:PTT}
def pAnd (a b:PTT):PTT:=fun γ R X=>a γ (fun c=>if c=true then b γ R X else R false) X
def pOr (a b:PTT):PTT:=fun γ R X=>a γ (fun c=>if c=true then R true else b γ R X) X
def pNot (a:PTT):PTT:=fun γ R X=>a γ (fun c=>R (!c)) X
theorem Zqb (ha:SndT K mg E sa pa) (hb:SndT K mg E sb pb):SndT K mg E (tAnd sa sb) (pAnd pa pb):=by
 intro H0 B H σ γ R X Q env p q qx
 refine ha H0 B H σ γ _ X _ env p (fun c H1 h1 S1=>?_) qx
 split at h1
 ·rename_i hc
  rw [if_pos hc]
  exact hb H0 B H1 σ γ _ X _ (env.grow S1) h1 (fun y H2 h2 S2=>q y H2 h2 (S1.trans S2)) fun c H' hc S'=>qx c H' hc (S1.trans S')
 ·rename_i hc
  rw [if_neg hc]
  exact q _ H1 h1 S1
theorem Zeq (ha:SndT K mg E sa pa) (hb:SndT K mg E sb pb):SndT K mg E (tOr sa sb) (pOr pa pb):=by
 intro H0 B H σ γ R X Q env p q qx
 refine ha H0 B H σ γ _ X _ env p (fun c H1 h1 S1=>?_) qx
 split at h1
 ·rename_i hc
  rw [if_pos hc]
  exact q _ H1 h1 S1
 ·rename_i hc
  rw [if_neg hc]
  exact hb H0 B H1 σ γ _ X _ (env.grow S1) h1 (fun y H2 h2 S2=>q y H2 h2 (S1.trans S2)) fun c H' hc S'=>qx c H' hc (S1.trans S')
theorem Zel (ha:SndT K mg E sa pa):SndT K mg E (tNot sa) (pNot pa):=by
 intro H0 B H σ γ R X Q env p q qx
 exact ha H0 B H σ γ _ X _ env p (fun c H1 h1 S1=>q _ H1 h1 S1) qx
end
def pNil:PTA:=fun _ R _=>R []
def pCons (a:PTE) (r:PTA):PTA:=fun γ R X=>a γ (fun s=>r γ (fun ss=>R (s :: ss)) X) X
theorem Zae:SndA K mg E tNil pNil:=by
 intro H0 B H σ γ R X Q env p q _
 exact q _ _ H p (Same.refl _) .nil
theorem Zaa {te:TE} {ta:TA} {a:PTE} {r:PTA} (ha:SndE K mg E te a) (hr:SndA K mg E ta r):SndA K mg E (tCons te ta) (pCons a r):=by
 intro H0 B H σ γ R X Q env p q qx
 refine ha H0 B H σ γ _ X _ env p (fun s v H1 h1 S1 t1=>?_) qx
 refine hr H0 B H1 σ γ _ X _ (env.grow S1) h1 (fun ss vs H2 h2 S2 t2=>?_) fun c H' hc S'=>qx c H' hc (S1.trans S')
 exact q _ _ H2 h2 (S1.trans S2) (.cons (t1.grow S2) (TVs.weakG S1 t2))
def shds:List S→Option (List D)
 | []=>some []
 | s :: r=>match s.shd,shds r with
  | some d,some ds=>some (d :: ds)
  | _,_=>none
theorem Zjq:∀ {ss:List S} {ds:List D},shds ss=some ds→ss.map S.shd=ds.map some
 | [],ds,h=>by cases h;rfl
 | s :: r,ds,h=>by
  unfold shds at h
  split at h
  ·rename_i d es e1 e2
   cases h
   rw [List.map_cons,List.map_cons,e1,Zjq e2]
  ·cases h
def pTup (r:PTA):PTE:=fun γ R X=>r γ (fun ss=>match shds ss with | some ds=>ds.length≤1000∧R (.sh (.tup ds)) | none=>False) X
def pLst (r:PTA):PTE:=fun γ R X=>r γ (fun ss=>match shds ss with | some ds=>ds.length≤1000∧R (.own ds) | none=>False) X
theorem big1000 {n:Nat} (h:n≤1000):n≤sizeLine:=Nat.le_of_lt (small1000 h)
theorem Zbi {ta:TA} {r:PTA} (hr:SndA K mg E ta r):SndE K mg E (tTup ta) (pTup r):=by
 intro H0 B H σ γ R X Q env p q qx
 refine hr H0 B H σ γ _ X _ env p (fun ss vs H1 h1 S1 t1=>?_) qx
 split at h1
 ·rename_i ds e
  have env1:=env.grow S1
  have rp:=t1.shd (ds:=ds) env1.same env.zm S1 (Zjq e)
  refine ⟨by rw [rp.len];exact big1000 h1.1,fun l nl=>?_⟩
  have S2:=Zcq (o:=.tup vs) nl
  refine q _ _ _ h1.2 (S1.trans S2) (.tup (Zcb Zbg fun z=>?_) (Rps.mono (Zau S2 fun _ _ _ z=>z) rp))
  have:=env1.zm l z
  rw [nl] at this
  exact this
 ·exact h1.elim
theorem Zgz {H H1:Hp} {l:Addr} {vs:List V} {ds:List D} (S1:Same H H1) (nl:H1 l=none) (rp:Rps K (off Z H1) ds vs):TV K Z H0 H (upd H1 l (.lst vs)) (.own ds) (.ref l):=
 ⟨l,rfl,(fun _ e=>e ▸ S1.free nl),vs,Zbg,Rps.mono (Zau (Zcq nl) fun b o hb z y=>y.elim z fun e=>by rw [e,nl] at hb;cases hb) rp⟩
theorem Za1 {ta:TA} {r:PTA} (hr:SndA K mg E ta r):SndE K mg E (tLst ta) (pLst r):=by
 intro H0 B H σ γ R X Q env p q qx
 refine hr H0 B H σ γ _ X _ env p (fun ss vs H1 h1 S1 t1=>?_) qx
 split at h1
 ·rename_i ds e
  have env1:=env.grow S1
  have rp:=t1.shd (ds:=ds) env1.same env.zm S1 (Zjq e)
  refine ⟨by rw [rp.len];exact big1000 h1.1,fun l nl=>?_⟩
  exact q _ _ _ h1.2 (S1.trans (Zcq nl)) (Zgz S1 nl rp)
 ·exact h1.elim
abbrev Pc:=List D→(S→Prop)→XR→Prop
def spOf (mg:Str→Option Value) (c:Pc) (K:PySem.W.Frag):Sp:=fun vs H Q E=>∃ ds R X,Rps K H ds vs∧c ds R X∧(∀ s v H',R s→Same H H'→TV K (fun b=>Mut (H b)) H H H' s v→Q v H')∧∀ e H',X e→Same H H'→E (.ref (ExcR.clsOf mg e)) none H'
def S.back:S→S
 | .bor d=>argT d | .view o=>.tmp o.d | s=>s
theorem TV.back {s:S} {v:V} (env:EnvR K H0 B H1 σ γ) (S1:Same H H1) (S2:Same H1 H') (h:TV K (fun b=>Mut (H1 b)) H1 H1 H' s v):TV K (zof B γ σ) H0 H H' s.back v:=by
 cases s with
 | bor d=>exact argTR (fun b z=>Zdm S2 (env.zm b z)) (Rp.mono S2 h)
 | sh d=>exact Rp.mono (Zau (Same.refl _) fun b _ _ z y=>z (env.zm b y)) h
 | own ds=>
  obtain ⟨a,rfl,e0,r⟩:=h
  exact ⟨a,rfl,(fun b hb=>S1.free (e0 b hb)),r.mono (Zau (Same.refl _) fun b _ _ z y=>z (y.imp (env.zm b) id)) fun _ _ _ q=>q⟩
 | view ds=>
  obtain ⟨a,rfl,r⟩:=h
  exact r.rp off_sub
 | tmp d=>exact h
def pCall (c:Pc) (r:PTA):PTE:=fun γ R X=>r γ (fun ss=>c (ss.map S.d) (fun s=>R s.back) fun _=>False) X
def pCallX (c:Pc) (r:PTA):PTE:=fun γ R X=>r γ (fun ss=>c (ss.map S.d) (fun s=>R s.back) X) X
theorem Zaw {c:Pc} {ta:TA} {r:PTA} (hr:SndA K mg E ta r):SndE K mg E (tCall (spOf mg c K) [] E0 ta) (pCall c r):=by
 intro H0 B H σ γ R X Q env p q qx
 refine hr H0 B H σ γ _ X _ env p (fun ss vs H1 h1 S1 t1=>?_) qx
 rw [List.append_nil]
 have env1:=env.grow S1
 exact ⟨_,_,_,t1.rps env1.same,h1,fun s v H' hs S2 tv=>q _ _ H' hs (S1.trans S2) (tv.back env1 S1 S2),fun _ _ z=>z.elim⟩
theorem Zca {c:Pc} {ta:TA} {r:PTA} {Ec:XK} (hr:SndA K mg (fun _=>Ec) ta r):SndE K mg (fun _=>Ec) (tCall (spOf mg c K) [] Ec ta) (pCallX c r):=by
 intro H0 B H σ γ R X Q env p q qx
 refine hr H0 B H σ γ _ X _ env p (fun ss vs H1 h1 S1 t1=>?_) qx
 rw [List.append_nil]
 have env1:=env.grow S1
 exact ⟨_,_,X,t1.rps env1.same,h1,fun s v H' hs S2 tv=>q _ _ H' hs (S1.trans S2) (tv.back env1 S1 S2),fun e H' he S2=>qx e H' he (S1.trans S2)⟩
end
end Pu
namespace Pu
open PySem PySem.Spec PyProof.Rows L2 Own
section
variable {K:PySem.W.Frag} {mg:Str→Option Value} {E:L2.St→XK} {H0 H H1 H':Hp} {B Z Z':Addr→Prop} {σ:L2.St} {γ:Γ}
theorem EnvR.set {i:Nat} {s s':S} {v:V} (Ev:EnvR K H0 B H σ γ) (S1:Same H H') (h:TV K (zof B γ σ) H0 H H' s v) (e:s.slot=some s') :
  EnvR K H0 B H' (σ.set i (some v)) (γ.set i (some s'))∧Fr B H σ γ H' (σ.set i (some v)) (γ.set i (some s')):=by
 by_cases hi:i < γ.length
 ·exact Ev.put S1 h e hi
 ·rw [List.set_eq_of_length_le (by rw [Ev.len];omega),List.set_eq_of_length_le (by omega)]
  exact ⟨Ev.grow S1,Fr.grow S1⟩
def Upd (is:List Nat) (σ σ':L2.St):Prop:=(∀ j,j∉is→σ'[j]?=σ[j]?)∧σ'.length=σ.length
def SndGi (K:PySem.W.Frag) (is:List Nat) (t:TG) (p:PTG):Prop:=∀ (H0:Hp) (B:Addr→Prop) (H H':Hp) (σ:L2.St) (γ:Γ) (s:S) (v:V) (R:Γ→Prop) (Q:L2.St→Hp→Prop),EnvR K H0 B H σ γ→Same H H'→TV K (zof B γ σ) H0 H H' s v→p s γ R→
 (∀ σ' γ',R γ'→EnvR K H0 B H' σ' γ'→Fr B H σ γ H' σ' γ'→Upd is σ σ'→Q σ' H')→t v σ H' Q
def pName (i:Nat):PTG:=fun s γ R=>match s.slot with | some s'=>R (γ.set i (some s')) | none=>False
theorem Zam (i:Nat):SndGi K [i] (gName i) (pName i):=by
 intro H0 B H H' σ γ s v R Q env S1 tv p q
 unfold pName at p
 split at p
 ·rename_i s' e
  obtain ⟨e1,f1⟩:=env.set (i:=i) S1 tv e
  exact q _ _ p e1 f1 ⟨fun j hj=>Ze4 fun z=>hj (by rw [z];exact List.mem_singleton.mpr rfl),List.length_set⟩
 ·exact p.elim
def pGNil:PTGs:=fun ss γ R=>match ss with | []=>R γ | _=>False
def pGCons (g:PTG) (r:PTGs):PTGs:=fun ss γ R=>match ss with | s :: t=>g s γ fun γ'=>r t γ' R | []=>False
theorem TV.notown {s:S} {v:V} {σ':L2.St} {γ':Γ} {Hb:Hp} (f:Fr B H σ γ H' σ' γ') (hb:Same H H') (n:∀ ds,s≠.own ds) (nv:∀ ds,s≠.view ds) (h:TV K (zof B γ σ) H0 Hb H s v):TV K (zof B γ' σ') H0 H' H' s v:=by
 cases s with
 | bor d=>exact h
 | sh d=>exact Rp.mono f.off h
 | own ds=>exact absurd rfl (n ds)
 | view ds=>exact absurd rfl (nv ds)
 | tmp d=>exact Rp.mono hb h
theorem TVs.notown {σ':L2.St} {γ':Γ} {Hb:Hp} (f:Fr B H σ γ H σ' γ'):∀ {ss:List S} {vs:List V},(∀ s∈ss,∀ ds,s≠.own ds∧s≠.view ds)→TVs K (zof B γ σ) H0 Hb H ss vs→TVs K (zof B γ' σ') H0 H H ss vs
 | _,_,_,.nil=>.nil
 | _,_,n,.cons h r=>.cons (h.notown f (Same.refl _) (fun ds=>(n _ List.mem_cons_self ds).1) fun ds=>(n _ List.mem_cons_self ds).2) (TVs.notown f (fun s hs=>n s (List.mem_cons_of_mem _ hs)) r)
theorem Zi0 (d:D):arg d=.sh d∨arg d=.bor d:=by unfold arg;cases imm d<;>simp
theorem Zmx (d:D):argT d=.sh d∨argT d=.tmp d:=by unfold argT;cases imm d<;>simp
theorem Zkn (s:S) (d:D):∀ ds,s.sub d≠.own ds∧s.sub d≠.view ds:=fun ds=>by
 cases s with
 | bor b=>rcases Zi0 d with e | e<;>(show arg d≠_∧arg d≠_;rw [e];exact ⟨(fun z=>by cases z),(fun z=>by cases z)⟩)
 | tmp b=>rcases Zmx d with e | e<;>(show argT d≠_∧argT d≠_;rw [e];exact ⟨(fun z=>by cases z),(fun z=>by cases z)⟩)
 | sh b=>exact ⟨(fun z=>by cases z),(fun z=>by cases z)⟩
 | own b=>exact ⟨(fun z=>by cases z),(fun z=>by cases z)⟩
 | view b=>exact ⟨(fun z=>by cases z),(fun z=>by cases z)⟩
def SndGsj (K:PySem.W.Frag) (is:List Nat) (t:TGs) (p:PTGs):Prop:=∀ (H0:Hp) (B:Addr→Prop) (H:Hp) (σ:L2.St) (γ:Γ) (ss:List S) (vs:List V) (R:Γ→Prop) (Q:L2.St→Hp→Prop),EnvR K H0 B H σ γ→TVs K (zof B γ σ) H0 H H ss vs→(∀ s∈ss,∀ ds,s≠.own ds∧s≠.view ds)→p ss γ R→
 (∀ σ' γ',R γ'→EnvR K H0 B H σ' γ'→Fr B H σ γ H σ' γ'→Upd is σ σ'→Q σ' H)→t vs σ H Q
theorem Zqt:SndGsj K [] gNil pGNil:=by
 intro H0 B H σ γ ss vs R Q env tv no p q
 cases tv with
 | nil=>exact ⟨rfl,q _ _ p env Fr.refl ⟨fun _ _=>rfl,rfl⟩⟩
 | cons _ _=>exact p.elim
theorem Zl9 {is js:List Nat} {g:TG} {r:TGs} {pg:PTG} {pr:PTGs} (hg:SndGi K is g pg) (hr:SndGsj K js r pr):SndGsj K (is++js) (gCons g r) (pGCons pg pr):=by
 intro H0 B H σ γ ss vs R Q env tv no p q
 cases tv with
 | nil=>exact p.elim
 | cons h t=>
  refine ⟨_,_,rfl,hg H0 B H H σ γ _ _ _ _ env (Same.refl _) h p fun σ1 γ1 p1 e1 f1 k1=>?_⟩
  refine hr H0 B H σ1 γ1 _ _ _ _ e1 (TVs.notown f1 (fun s hs=>no s (List.mem_cons_of_mem _ hs)) t) (fun s hs=>no s (List.mem_cons_of_mem _ hs)) p1 fun σ2 γ2 p2 e2 f2 k2=>?_
  exact q σ2 γ2 p2 e2 (f1.trans f2) ⟨fun j hj=>(k2.1 j fun z=>hj (List.mem_append_right _ z)).trans (k1.1 j fun z=>hj (List.mem_append_left _ z)),k2.2.trans k1.2⟩
def pTupG (n:Nat) (r:PTGs):PTG:=fun s γ R=>match s.d with | .tup ds=>ds.length=n∧r (ds.map s.sub) γ R | _=>False
theorem TVs.of_part {ds:List D} {s:S}:∀ {vs:List V} {ds:List D},vs.length=ds.length→(∀ (i:Nat) d,ds[i]?=some d→∃ u,vs[i]?=some u∧TV K Z H0 H H' (s.sub d) u)→TVs K Z H0 H H' (ds.map s.sub) vs
 | [],[],_,_=>.nil
 | [],_ :: _,e,_=>by cases e
 | _ :: _,[],e,_=>by cases e
 | v :: vs,d :: ds,e,h=>by
  obtain ⟨u,h1,h2⟩:=h 0 d rfl
  cases h1
  exact .cons h2 (TVs.of_part (ds:=ds) (by simpa using e) fun i d' hd=>by simpa using h (i + 1) d' (by simpa using hd))
theorem Zr4 {n:Nat} {is:List Nat} {r:TGs} {pr:PTGs} (hr:SndGsj K is r pr):SndGi K is (gTup K n r) (pTupG n pr):=by
 intro H0 B H H' σ γ s v R Q env S1 tv p q
 unfold pTupG at p
 have env1:=env.grow S1
 obtain ⟨_,pt⟩:=tv.part env1.same env.zm S1
 split at p
 ·rename_i ds e
  obtain ⟨a,vs,rfl,ha,hn,hp⟩:=pt ds e
  refine ⟨a,vs,rfl,SqT.of ha,hn.trans p.1,?_⟩
  have tvs:=TVs.of_part (ds:=ds) hn hp
  refine hr H0 B H' σ γ _ vs R Q env1 (TVs.notown (Fr.refl) (fun s' hs ds=>?_) tvs) (fun s' hs ds=>?_) p.2 fun σ' γ' hR e1 f1 k1=>q σ' γ' hR e1 (Fr.trans (Fr.grow S1) f1) k1
  ·obtain ⟨d,_,rfl⟩:=List.mem_map.mp hs
   exact Zkn s d ds
  ·obtain ⟨d,_,rfl⟩:=List.mem_map.mp hs
   exact Zkn s d ds
 ·exact p.elim
theorem EndR.from {R:PEnds} {D:Ends} {σ1:L2.St} {γ1:Γ} (e:EndR K mg E H0 B H σ γ R D) (f:Fr B H σ γ H1 σ1 γ1):EndR K mg E H0 B H1 σ1 γ1 R D:=
 ⟨fun σ' γ' H' h1 h2 h3=>e.nx σ' γ' H' h1 h2 (f.trans h3),e.rt,fun σ' γ' c H' h1 h2 h3=>e.ex σ' γ' c H' h1 h2 (f.trans h3),fun σ' γ' H' h1 h2 h3=>e.bk σ' γ' H' h1 h2 (f.trans h3),fun σ' γ' H' h1 h2 h3=>e.ct σ' γ' H' h1 h2 (f.trans h3),fun σ' γ' d v H' h1 h2 h3=>e.rv σ' γ' d v H' h1 h2 (f.trans h3)⟩
variable {te:TE} {a:PTE} {tt:TT} {c:PTT} {t u:TS} {p q:PTS}
def pNext:PTS:=fun R γ=>R.nx γ
theorem Zar:SndS K mg E tNext pNext:=fun _ _ _ _ _ _ _ _ env h e=>e.nx _ _ _ h env Fr.refl
def pSeq (p q:PTS):PTS:=fun R γ=>p { R with nx:=q R } γ
theorem Zaj (hp:SndS K mg E t p) (hq:SndS K mg E u q):SndS K mg E (tSeq t u) (pSeq p q):=by
 intro H0 B H σ γ R D hB env h e
 refine hp H0 B H σ γ _ _ hB env h ⟨fun σ' γ' H' h1 e1 f1=>?_,e.rt,e.ex,e.bk,e.ct,e.rv⟩
 exact hq H0 B H' σ' γ' R D hB e1 h1 (e.from f1)
structure JoinW (p q:PTS) (R:PEnds) (γ:Γ):Prop where
 w:∃ J:Γ→Prop,p { R with nx:=J } γ∧∀ γ',J γ'→q R γ'
def pJoin (p q:PTS):PTS:=fun R γ=>JoinW p q R γ
theorem Zf5 (hp:SndS K mg E t p) (hq:SndS K mg E u q):SndS K mg E (Own.tJoin t u) (pJoin p q):=by
 intro H0 B H σ γ R D hB env h e
 obtain ⟨J,h,k⟩:=h.w
 refine ⟨fun σ' H'=>∃ γ',J γ'∧EnvR K H0 B H' σ' γ'∧Fr B H σ γ H' σ' γ',hp H0 B H σ γ _ _ hB env h ⟨fun σ' γ' H' h1 e1 f1=>⟨γ',h1,e1,f1⟩,e.rt,e.ex,e.bk,e.ct,e.rv⟩,?_⟩
 rintro σ' H' ⟨γ',h1,e1,f1⟩
 exact hq H0 B H' σ' γ' R D hB e1 (k γ' h1) (e.from f1)
def pFrz (i:Nat) (p:PTS):PTS:=fun R γ=>p R (frz i γ)
theorem Zaz (i:Nat) (hp:SndS K mg E t p):SndS K mg E t (pFrz i p):=by
 intro H0 B H σ γ R D hB env h e
 obtain ⟨e1,f1⟩:=env.frz hB i
 exact hp H0 B H σ _ R D hB e1 h (e.from f1)
def pAsg (a:PTE) (g:PTG):PTS:=fun R γ=>a γ (fun s=>g s γ R.nx) (R.ex γ)
theorem Za2 {is:List Nat} {g:TG} {pg:PTG} (ha:SndE K mg E te a) (hg:SndGi K is g pg):SndS K mg E (tAsg te g) (pAsg a pg):=by
 intro H0 B H σ γ R D hB env h e
 refine ha H0 B H σ γ _ _ _ env h (fun s v H1 h1 S1 t1=>?_) fun c H' hc S'=>e.ex σ γ c H' hc (env.grow S') (Fr.grow S')
 exact hg H0 B H H1 σ γ s v _ _ env S1 t1 h1 fun σ' γ' h2 e2 f2 _=>e.nx σ' γ' H1 h2 e2 f2
def pAug (i:Nat) (f:Int→Int→Int) (a:PTE):PTS:=fun R γ=>match γ[i]? with
 | some (some (.sh (.int x)))=>a γ (fun y=>match y.d with | .int j=>R.nx (γ.set i (some (.sh (.int (f x j))))) | _=>False) (R.ex γ)
 | _=>False
def pRet (a:PTE):PTS:=fun R γ=>a γ R.rt (R.ex γ)
theorem Zav (ha:SndE K mg E te a):SndS K mg E (tRet te) (pRet a):=by
 intro H0 B H σ γ R D hB env h e
 refine ha H0 B H σ γ _ _ _ env h (fun s v H1 h1 S1 t1=>?_) fun c H' hc S'=>e.ex σ γ c H' hc (env.grow S') (Fr.grow S')
 exact e.rt s v H1 h1 (env.same.trans S1) (TV.weak env.same (fun b z=>.inl z) t1)
def pRetV (i:Nat):PTS:=fun R γ=>match γ[i]? with | some (some s)=>R.rt s | _=>False
theorem Zlw (i:Nat):SndS K mg E (tRet (tVar i)) (pRetV i):=by
 intro H0 B H σ γ R D hB env h e
 unfold pRetV at h
 split at h
 ·rename_i s hs
  obtain ⟨v,h1,h2⟩:=env.slot i _ hs
  refine ⟨v,h1,e.rt s v H h env.same ?_⟩
  cases s with
  | bor d=>exact h2
  | sh d=>exact Rp.mono (Zau (Same.refl _) fun b _ _ z y=>z (.inl y)) h2
  | own ds=>
   obtain ⟨l,rfl,e2,e3⟩:=h2
   exact ⟨l,rfl,e2,e3.mono (Zau (Same.refl _) fun b _ _ z y=>z (y.elim .inl fun w=>.inr ⟨i,ds,l,hs,h1,w⟩)) fun _ _ _ q=>q⟩
  | view ds=>exact h2.elim
  | tmp d=>exact h2.elim
 ·exact h.elim
def pIfS (c:PTT) (p q:PTS):PTS:=fun R γ=>c γ (fun b=>if b=true then p R γ else q R γ) (R.ex γ)
theorem Za5 (hc:SndT K mg E tt c) (hp:SndS K mg E t p) (hq:SndS K mg E u q):SndS K mg E (tIfS tt t u) (pIfS c p q):=by
 intro H0 B H σ γ R D hB env h e
 refine hc H0 B H σ γ _ _ _ env h (fun b H1 h1 S1=>?_) fun c H' hc S'=>e.ex σ γ c H' hc (env.grow S') (Fr.grow S')
 split at h1
 ·rename_i hb
  rw [if_pos hb]
  exact hp H0 B H1 σ γ R D hB (env.grow S1) h1 (e.from (Fr.grow S1))
 ·rename_i hb
  rw [if_neg hb]
  exact hq H0 B H1 σ γ R D hB (env.grow S1) h1 (e.from (Fr.grow S1))
def pDrop (a:PTE):PTS:=fun R γ=>a γ (fun _=>R.nx γ) (R.ex γ)
theorem Zcr (ha:SndE K mg E te a):SndS K mg E (tDrop te) (pDrop a):=by
 intro H0 B H σ γ R D hB env h e
 exact ha H0 B H σ γ _ _ _ env h (fun s v H1 h1 S1 t1=>e.nx σ γ H1 h1 (env.grow S1) (Fr.grow S1)) fun c H' hc S'=>e.ex σ γ c H' hc (env.grow S') (Fr.grow S')
def pRaise (x:Str) (r:PTA):PTS:=fun R γ=>r γ (fun ss=>ss.length≤1000∧R.ex γ x) (R.ex γ)
theorem TVs.len:∀ {ss:List S} {vs:List V},TVs K Z H0 H H' ss vs→vs.length=ss.length
 | _,_,.nil=>rfl
 | _,_,.cons _ r=>congrArg (· + 1) (TVs.len r)
theorem Zbz {x:Str} {ta:TA} {r:PTA} {Ec:XK} (hr:SndA K mg (fun _=>Ec) ta r):SndS K mg (fun _=>Ec) (ExcR.tRaise (ExcR.clsOf mg x) Ec ta) (pRaise x r):=by
 intro H0 B H σ γ R D hB env h e
 refine hr H0 B H σ γ _ _ _ env h (fun ss vs H1 h1 S1 t1=>⟨?_,?_⟩) fun c H' hc S'=>e.ex σ γ c H' hc (env.grow S') (Fr.grow S')
 ·rw [t1.len]
  exact big1000 h1.1
 ·exact e.ex σ γ x H1 h1.2 (env.grow S1) (Fr.grow S1)
def fPar (i j:Nat) (γ:Γ) (R:Γ→Prop):List S→Prop
 | [.sh d,.sh e]=>R ((γ.set i (some (.sh d))).set j (some (.sh e)))
 | _=>False
def clr:List Nat→Γ→Γ
 | [],γ=>γ
 | i :: r,γ=>clr r (γ.set i none)
theorem EnvR.clr:∀ (is:List Nat) {γ:Γ},EnvR K H0 B H σ γ→EnvR K H0 B H σ (clr is γ)∧Fr B H σ γ H σ (Pu.clr is γ)
 | [],_,e=>⟨e,Fr.refl⟩
 | i :: r,γ,e=>by
  obtain ⟨e1,f1⟩:=e.drop i
  obtain ⟨e2,f2⟩:=EnvR.clr r e1
  exact ⟨e2,f1.trans f2⟩
def Later (H0:Hp) (Z:Addr→Prop) (H1:Hp) (Z':Addr→Prop) (H':Hp):Prop:=Same H0 H'∧(∀ b,Z' b→Mut (H' b))∧∀ b o,H1 b=some o→¬ Z b→H' b=some o∧¬ Z' b
theorem Later.of {σ':L2.St} {γ':Γ} (e:EnvR K H0 B H' σ' γ') (f:Fr B H1 σ γ H' σ' γ'):Later H0 (zof B γ σ) H1 (zof B γ' σ') H':=⟨e.same,e.zm,f⟩
theorem Later.off (l:Later H0 Z H1 Z' H'):Same (off Z H1) (Pu.off Z' H'):=fun b o h=>by
 obtain ⟨h1,h2⟩:=Ze3 h
 obtain ⟨h3,h4⟩:=l.2.2 b o h1 h2
 exact Zcb h3 h4
structure ItOk (K:PySem.W.Frag) (H0:Hp) (B:Addr→Prop) (H1:Hp) (σ:L2.St) (γ:Γ) (J:It) (n:Nat) (item:Nat→S):Prop where
 go:∀ (i:Nat) (H':Hp) (Z':Addr→Prop),i < n→Later H0 (zof B γ σ) H1 Z' H'→J.go i H'∧∀ x H'',J.yld i H' x H''→Same H' H''∧TV K Z' H0 H' H'' (item i) x
 stop:∀ (H':Hp) (Z':Addr→Prop),Later H0 (zof B γ σ) H1 Z' H'→J.stop n H'
abbrev PTI:=Γ→(Nat→(Nat→S)→Prop)→XR→Prop
def SndI (K:PySem.W.Frag) (mg:Str→Option Value) (E:L2.St→XK) (wi:TI) (it:PTI):Prop:=∀ (H0:Hp) (B:Addr→Prop) (H:Hp) (σ:L2.St) (γ:Γ) (R:Nat→(Nat→S)→Prop) (X:XR) (Q:It→Hp→Prop),EnvR K H0 B H σ γ→it γ R X→
 (∀ n item J H1,R n item→Same H H1→ItOk K H0 B H1 σ γ J n item→Q J H1)→(∀ c H',X c→Same H H'→E σ (.ref (ExcR.clsOf mg c)) none H')→wi σ H Q
structure ForW (js:List Nat) (γ:Γ) (g:PTG) (body:PTS) (R:PEnds) (n:Nat) (item:Nat→S):Prop where
 w:∃ inv:Nat→Γ→Prop,inv 0 (clr js γ)∧
 (∀ i γ',i < n→inv i γ'→g (item i) γ' fun γ2=>body { R with nx:=fun γ3=>inv (i + 1) (clr js γ3),ct:=fun γ3=>inv (i + 1) (clr js γ3),bk:=R.nx } γ2)∧∀ γ',inv n γ'→R.nx γ'
def pFor (js:List Nat) (it:PTI) (g:PTG) (body:PTS):PTS:=fun R γ=>it γ (fun n item=>ForW js γ g body R n item) (R.ex γ)
theorem Zgl {is:List Nat} {wi:TI} {g:TG} {it:PTI} {pg:PTG} (js:List Nat) (hi:SndI K mg E wi it) (hg:SndGi K is g pg) (hb:SndS K mg E t p):SndS K mg E (tFor wi g t) (pFor js it pg p):=by
 intro H0 B H σ γ R D hB env h e
 refine hi H0 B H σ γ _ _ _ env h (fun n item J H1 h1 S1 ok=>?_) fun c H' hc S'=>e.ex σ γ c H' hc (env.grow S') (Fr.grow S')
 obtain ⟨inv,h0,hs,hd⟩:=h1.w
 have env1:=env.grow S1
 refine ⟨fun i m σ' H'=>m=n - i∧i≤n∧∃ γ',inv i γ'∧EnvR K H0 B H' σ' γ'∧Fr B H1 σ γ H' σ' γ',⟨n,by simp,Nat.zero_le _,_,h0,(env1.clr js).1,(env1.clr js).2⟩,?_⟩
 rintro i m σ' H' ⟨rfl,hin,γ',hi',e',f'⟩
 by_cases hlt:i < n
 ·obtain ⟨go,yl⟩:=ok.go i H' _ hlt (Later.of e' f')
  refine .inr ⟨go,fun σ2 H2=>∃ γ2,inv (i + 1) γ2∧EnvR K H0 B H2 σ2 γ2∧Fr B H1 σ γ H2 σ2 γ2,fun σ2 H2 ⟨γ2,a1,a2,a3⟩=>⟨n - (i + 1),by omega,rfl,hlt,γ2,a1,a2,a3⟩,fun x H'' y=>?_⟩
  obtain ⟨S2,tv⟩:=yl x H'' y
  refine hg H0 B H' H'' σ' γ' _ _ _ _ e' S2 tv (hs i γ' hlt hi') fun σ2 γ2 q2 e2 f2 _=>?_
  have fall:=f'.trans f2
  refine hb H0 B H'' σ2 γ2 _ _ hB e2 q2 ⟨fun σ3 γ3 H3 q3 e3 f3=>?_,e.rt,fun σ3 γ3 c H3 q3 e3 f3=>e.ex σ3 γ3 c H3 q3 e3 ((Fr.grow S1).trans (fall.trans f3)),fun σ3 γ3 H3 q3 e3 f3=>e.nx σ3 γ3 H3 q3 e3 ((Fr.grow S1).trans (fall.trans f3)),fun σ3 γ3 H3 q3 e3 f3=>?_,fun σ3 γ3 d v H3 q3 e3 f3=>e.rv σ3 γ3 d v H3 q3 e3 ((Fr.grow S1).trans (fall.trans f3))⟩
  ·exact ⟨_,q3,(e3.clr js).1,(fall.trans f3).trans (e3.clr js).2⟩
  ·exact ⟨_,q3,(e3.clr js).1,(fall.trans f3).trans (e3.clr js).2⟩
 ·have:i=n:=by omega
  subst this
  exact .inl ⟨ok.stop H' _ (Later.of e' f'),e.nx σ' γ' H' (hd γ' hi') e' ((Fr.grow S1).trans f')⟩
def S.fix:S→Bool
 | .bor _=>true | .sh _=>true | .own _=>true | _=>false
def pIL (a:PTE):PTI:=fun γ R X=>a γ (fun s=>match s.d with
 | .lst ds=>s.fix=true∧R ds.length fun i=>s.sub (ds.getD i .non)
 | .scr ns=>s.fix=true∧R ns.length fun i=>.sh (.int (ns.getD i 0))
 | _=>False) X
theorem TV.last {s:S} {v:V} {ds:List D} (env:EnvR K H0 B H σ γ) (S1:Same H H1) (tv:TV K (zof B γ σ) H0 H H1 s v) (hf:s.fix=true) (hd:s.d=.lst ds):∃ l vs,v=.ref l∧vs.length=ds.length∧
  ∀ (H':Hp) (Z':Addr→Prop),Later H0 (zof B γ σ) H1 Z' H'→H' l=some (.lst vs)∧∀ (i:Nat) d,ds[i]?=some d→∃ u,vs[i]?=some u∧TV K Z' H0 H' H' (s.sub d) u:=by
 have env1:=env.grow S1
 have key:∀ {s:S},(∀ d,s.sub d=.sh d)→Rp K (Pu.off (zof B γ σ) H1) (.lst ds) v→∃ l vs,v=.ref l∧vs.length=ds.length∧
   ∀ (H':Hp) (Z':Addr→Prop),Later H0 (zof B γ σ) H1 Z' H'→H' l=some (.lst vs)∧∀ (i:Nat) d,ds[i]?=some d→∃ u,vs[i]?=some u∧TV K Z' H0 H' H' (s.sub d) u:=fun hs h=>by
  obtain ⟨l,vs,rfl,h1,h2⟩:=Rp.lst_inv h
  refine ⟨l,vs,rfl,h2.len,fun H' Z' lt=>⟨off_sub _ _ (lt.off _ _ h1),fun i d hi=>?_⟩⟩
  obtain ⟨u,h3,h4⟩:=h2.get hi
  refine ⟨u,h3,?_⟩
  rw [hs]
  exact Rp.mono lt.off h4
 cases s with
 | bor d=>
  have tv:=Rp.strip tv
  rw [show d.strip=.lst ds from hd] at tv
  obtain ⟨l,vs,rfl,h1,h2⟩:=Rp.lst_inv tv
  refine ⟨l,vs,rfl,h2.len,fun H' Z' lt=>⟨lt.1 _ _ h1,fun i d hi=>?_⟩⟩
  obtain ⟨u,h3,h4⟩:=h2.get hi
  exact ⟨u,h3,argR lt.2.1 lt.1 h4⟩
 | sh d=>
  have:d=.lst ds:=hd
  subst this
  exact key (fun _=>rfl) tv
 | own es=>
  cases es with
  | lst es=>
   cases hd
   exact key (fun _=>rfl) (tv.shd env1.same env.zm S1 rfl)
  | lsA x es=>
   cases hd
   exact key (fun _=>rfl) (tv.shd env1.same env.zm S1 rfl)
  | dK es=>cases hd
  | dT es=>cases hd
  | ins x C xs cs=>cases hd
 | view es=>cases hf
 | tmp d=>cases hf
theorem Zlg {te:TE} {a:PTE} (ha:SndE K mg E te a):SndI K mg E (iList K te) (pIL a):=by
 intro H0 B H σ γ R X Q env h q qx
 refine ha H0 B H σ γ _ X _ env h (fun s v H1 h1 S1 t1=>?_) qx
 have env1:=env.grow S1
 split at h1
 ·rename_i ds ed
  obtain ⟨l,vs,rfl,hn,hl⟩:=t1.last env S1 h1.1 ed
  obtain ⟨hl1,_⟩:=hl H1 _ (Later.of env1 Fr.refl)
  refine ⟨l,rfl,⟨vs,SqL.of hl1⟩,q _ _ _ H1 h1.2 S1 ⟨fun i H' Z' hi lt=>?_,fun H' Z' lt=>?_⟩⟩
  ·obtain ⟨k1,k2⟩:=hl H' Z' lt
   have hd:ds[i]?=some (ds.getD i .non):=by rw [List.getD_eq_getElem?_getD,List.getElem?_eq_getElem hi];rfl
   obtain ⟨u,hu,tu⟩:=k2 i _ hd
   refine ⟨⟨vs,u,SqL.of k1,hu⟩,fun x H'' y=>?_⟩
   obtain ⟨rfl,y⟩:=y
   have:=y vs (SqL.of k1)
   rw [hu] at this
   cases this
   exact ⟨Same.refl _,tu⟩
  ·exact ⟨vs,SqL.of (hl H' Z' lt).1,by omega⟩
 ·rename_i ns ed
  have hs:∃ l,v=.ref l∧∀ (H':Hp) (Z':Addr→Prop),Later H0 (zof B γ σ) H1 Z' H'→SqL K H' l (ns.map V.int):=by
   cases s with
   | bor d=>
    have t1:=Rp.strip t1
    rw [show d.strip=.scr ns from ed] at t1
    cases t1 with
    | scr hs=>exact ⟨_,rfl,fun H' Z' lt=>lt.1.seq hs⟩
   | sh d=>
    have:d=.scr ns:=ed
    subst this
    cases t1 with
    | scr hs=>exact ⟨_,rfl,fun H' Z' lt=>off_sub.seq (lt.off.seq hs)⟩
   | own es=>cases es<;>cases ed
   | view es=>cases es<;>cases ed
   | tmp d=>cases h1.1
  obtain ⟨l,rfl,hl⟩:=hs
  refine ⟨l,rfl,⟨_,hl H1 _ (Later.of env1 Fr.refl)⟩,q _ _ _ H1 h1.2 S1 ⟨fun i H' Z' hi lt=>?_,fun H' Z' lt=>?_⟩⟩
  ·have k1:=hl H' Z' lt
   have hu:(ns.map V.int)[i]?=some (.int (ns.getD i 0)):=by
    rw [List.getElem?_map,List.getElem?_eq_getElem hi,List.getD_eq_getElem?_getD,List.getElem?_eq_getElem hi]
    rfl
   refine ⟨⟨_,_,k1,hu⟩,fun x H'' y=>?_⟩
   obtain ⟨rfl,y⟩:=y
   have:=y _ k1
   rw [hu] at this
   cases this
   exact ⟨Same.refl _,.int _⟩
  ·exact ⟨_,hl H' Z' lt,by rw [List.length_map];exact Nat.le_refl _⟩
 ·exact h1.elim
def fR1 (R:Nat→(Nat→S)→Prop):List D→Prop
 | [.int j]=>(-(2 ^ 62)≤j∧j < 2 ^ 62)∧R j.toNat fun i=>.sh (.int (0 + (i:Int)))
 | _=>False
def fR2 (R:Nat→(Nat→S)→Prop):List D→Prop
 | [.int i,.int j]=>(-(2 ^ 62)≤i∧i < 2 ^ 62∧-(2 ^ 62)≤j∧j < 2 ^ 62)∧R (j - i).toNat fun k=>.sh (.int (i + (k:Int)))
 | _=>False
def pIR1 (r:PTA):PTI:=fun γ R X=>r γ (fun ss=>fR1 R (ss.map S.d)) X
def pIR2 (r:PTA):PTI:=fun γ R X=>r γ (fun ss=>fR2 R (ss.map S.d)) X
theorem Rps.one_inv {d:D} {vs:List V} (h:Rps K H [d] vs):∃ v,vs=[v]∧Rp K H d v:=by
 cases h with
 | cons h r=>cases r;exact ⟨_,rfl,h⟩
theorem Rps.two_inv {d e:D} {vs:List V} (h:Rps K H [d,e] vs):∃ v u,vs=[v,u]∧Rp K H d v∧Rp K H e u:=by
 cases h with
 | cons h r=>cases r with | cons h2 r=>cases r;exact ⟨_,_,rfl,h,h2⟩
theorem Zqc {lo:Int} {n:Nat}:ItOk K H0 B H1 σ γ (Itr lo n) n fun i=>.sh (.int (lo + (i:Int))):=by
 refine ⟨fun i H' Z' hi lt=>⟨hi,fun x H'' y=>?_⟩,fun H' Z' lt=>Nat.le_refl _⟩
 obtain ⟨e,y⟩:=y
 subst e y
 exact ⟨Same.refl _,.int _⟩
theorem Zeb {ta:TA} {r:PTA} (hr:SndA K mg E ta r):SndI K mg E (iRng1 ta) (pIR1 r):=by
 intro H0 B H σ γ R X Q env h q qx
 refine hr H0 B H σ γ _ X _ env h (fun ss vs H1 h1 S1 t1=>?_) qx
 have rv:=t1.rps (env.grow S1).same
 unfold fR1 at h1
 split at h1
 ·rename_i j ej
  rw [ej] at rv
  obtain ⟨v,rfl,r1⟩:=rv.one_inv
  rw [r1.int_inv]
  exact ⟨j,rfl,h1.1.1,h1.1.2,q _ _ _ H1 h1.2 S1 Zqc⟩
 ·exact h1.elim
theorem Zj8 {ta:TA} {r:PTA} (hr:SndA K mg E ta r):SndI K mg E (iRng2 ta) (pIR2 r):=by
 intro H0 B H σ γ R X Q env h q qx
 refine hr H0 B H σ γ _ X _ env h (fun ss vs H1 h1 S1 t1=>?_) qx
 have rv:=t1.rps (env.grow S1).same
 unfold fR2 at h1
 split at h1
 ·rename_i i j ej
  rw [ej] at rv
  obtain ⟨v,u,rfl,r1,r2⟩:=rv.two_inv
  rw [r1.int_inv,r2.int_inv]
  exact ⟨i,j,rfl,h1.1,q _ _ _ H1 h1.2 S1 Zqc⟩
 ·exact h1.elim
end
end Pu
namespace Pu
open PySem PySem.Spec PyProof.Rows L2 Own
section
variable {K:PySem.W.Frag} {mg:Str→Option Value} {E:L2.St→XK} {H0 H H1 H':Hp} {B Z Z':Addr→Prop} {σ:L2.St} {γ:Γ}
def startP (N:List Str) (ds:List D):Γ:=ds.map (fun d=>some (arg d))++List.replicate (N.length - ds.length) none
theorem Zn0 {N:List Str} {ds:List D} {vs:List V} (r:Rps K H ds vs) (hn:ds.length≤N.length):EnvR K H (fun b=>Mut (H b)) H (start N vs) (startP N ds):=by
 have hlen:=r.len
 have get:∀ (i:Nat) (s:S),(startP N ds)[i]?=some (some s)→∃ d,ds[i]?=some d∧s=arg d:=fun i s h=>by
  unfold startP at h
  by_cases hi:i < ds.length
  ·rw [List.getElem?_append_left (by rw [List.length_map];exact hi),List.getElem?_map,List.getElem?_eq_getElem hi] at h
   exact ⟨_,List.getElem?_eq_getElem hi,(Option.some.inj (Option.some.inj h)).symm⟩
  ·rw [List.getElem?_append_right (by rw [List.length_map];omega),List.getElem?_replicate] at h
   split at h<;>cases h
 have noown:∀ (i:Nat) (es:O),(startP N ds)[i]?≠some (some (.own es)):=fun i es h=>by
  obtain ⟨d,_,e⟩:=get i _ h
  rcases Zi0 d with q | q<;>rw [q] at e<;>cases e
 refine ⟨Same.refl _,?_,fun b h=>h,fun i j a a' es es' b h=>absurd h (noown i es),fun i s h=>?_⟩
 ·unfold L2.start startP
  simp [hlen]
 ·obtain ⟨d,hd,rfl⟩:=get i s h
  obtain ⟨v,hv,rv⟩:=r.get hd
  refine ⟨v,?_,?_⟩
  ·unfold L2.start
   rw [List.getElem?_append_left (by rw [List.length_map];exact (List.getElem?_eq_some_iff.mp hv).1),List.getElem?_map,hv]
   rfl
  ·have tv:=argR (K:=K) (Z:=zof (fun b=>Mut (H b)) (startP N ds) (start N vs)) (H0:=H) (H:=H) (H':=H) (fun b z=>z.elim id fun ⟨k,es,_,k1,_⟩=>absurd k1 (noown k es)) (Same.refl _) rv
   rcases Zi0 d with q | q<;>rw [q] at tv ⊢<;>exact tv
theorem Zbf {c:Pc} {N:List Str} {t:TS} {p:PTS} {vs:List V} {Q:VK} {Ec:XK} {n:Nat} (h:spOf mg c K vs H Q Ec) (snd:SndS K mg (fun _=>Ec) t p) (hn:n≤N.length)
  (hp:∀ ds R X,c ds R X→ds.length=n∧p { nx:=fun _=>R (.sh .non),rt:=R,ex:=fun _ e=>X e } (startP N ds)):t { nx:=fun _ H'=>Q .non H',rt:=Q } (start N vs) H:=by
 obtain ⟨ds,R,X,r,hc,hQ,hX⟩:=h
 obtain ⟨e,hp⟩:=hp ds R X hc
 refine snd H (fun b=>Mut (H b)) H _ _ _ _ (fun b z=>Zdp z) (Zn0 r (by rw [e];exact hn)) hp ⟨fun σ' γ' H' h1 e1 f1=>hQ _ _ H' h1 e1.same .non,fun s v H' h1 S1 tv=>hQ s v H' h1 S1 tv,fun σ' γ' c H' h1 e1 f1=>hX c H' h1 e1.same,fun _ _ _ z=>z.elim,fun _ _ _ z=>z.elim,fun _ _ _ _ _ z=>z.elim⟩
theorem Zay {c:Pc} {vs:List V} {Q:VK} {Ec:XK} {n:Nat} (h:spOf mg c K vs H Q Ec) (hn:∀ ds R X,c ds R X→ds.length=n):vs.length=n:=by
 obtain ⟨ds,R,X,r,hc,_⟩:=h
 rw [r.len]
 exact hn ds R X hc
def atP (φ:List (Option Nat)) (γ:Γ):Γ:=φ.map fun o=>o.bind fun j=>(γ[j]?).join
structure CompW (φ:List (Option Nat)) (γ:Γ) (g:PTG) (c:PTT) (e:PTE) (n:Nat) (item:Nat→S) (R:S→Prop):Prop where
 w:n≤100000∧∃ f:Nat→Option D,(∀ i,i < n→g (item i) (atP φ γ) fun γ2=>c γ2 (fun b=>if b=true then e γ2 (fun s=>∃ d,s.shd=some d∧f i=some d) (fun _=>False) else f i=none) (fun _=>False))∧R (.own ((List.range n).filterMap f))
def pComp (φ:List (Option Nat)) (it:PTI) (g:PTG) (c:PTT) (e:PTE):PTE:=fun γ R X=>it γ (fun n item=>CompW φ γ g c e n item R) X
theorem Zjo {φ:List (Option Nat)} {i:Nat} {s:S} (h:(atP φ γ)[i]?=some (some s)):∃ j,φ[i]?=some (some j)∧γ[j]?=some (some s):=by
 unfold atP at h
 rw [List.getElem?_map] at h
 cases e:φ[i]? with
 | none=>rw [e] at h;cases h
 | some o=>
  rw [e] at h
  cases o with
  | none=>simp at h
  | some j=>
   refine ⟨j,rfl,?_⟩
   simp at h
   cases e2:γ[j]? with
   | none=>rw [e2] at h;simp at h
   | some w=>rw [e2] at h;simp at h;rw [h]
theorem Zom:∀ {φ:List (Option Nat)},(φ.filterMap id).Nodup→∀ (i j k:Nat),φ[i]?=some (some k)→φ[j]?=some (some k)→i=j
 | [],_,i,_,_,h,_=>by simp at h
 | none :: r,hn,i,j,k,h1,h2=>by
  cases i with
  | zero=>simp at h1
  | succ i=>
   cases j with
   | zero=>simp at h2
   | succ j=>exact congrArg (· + 1) (Zom (φ:=r) (by simpa using hn) i j k (by simpa using h1) (by simpa using h2))
 | some m :: r,hn,i,j,k,h1,h2=>by
  have hn':m∉r.filterMap id∧(r.filterMap id).Nodup:=by simpa using hn
  have mem:∀ {j:Nat},r[j]?=some (some k)→k∈r.filterMap id:=fun h=>List.mem_filterMap.mpr ⟨some k,List.mem_of_getElem? h,rfl⟩
  cases i with
  | zero=>
   cases j with
   | zero=>rfl
   | succ j=>
    have e:m=k:=by simpa using h1
    subst e
    exact absurd (mem (by simpa using h2)) hn'.1
  | succ i=>
   cases j with
   | zero=>
    have e:m=k:=by simpa using h2
    subst e
    exact absurd (mem (by simpa using h1)) hn'.1
   | succ j=>exact congrArg (· + 1) (Zom (φ:=r) hn'.2 i j k (by simpa using h1) (by simpa using h2))
theorem Zes {φ:List (Option Nat)} {i j:Nat} (h1:φ[i]?=some (some j)) {v:V} (h2:σ[j]?=some (some v)):(atStart φ σ)[i]?=some (some v):=by
 unfold atStart
 rw [List.getElem?_map,h1]
 simp [h2]
theorem Zj9 {φ:List (Option Nat)} {L:Addr} (env:EnvR K H0 B H σ γ) (nL:H L=none):∀ b o,H b=some o→¬ zof B γ σ b→¬ zof (fun b=>zof B γ σ b∨b=L) (atP φ γ) (atStart φ σ) b:=fun b o hb z y=>by
 rcases y with (y | y) | ⟨i',ds,x,y1,y2,y3⟩
 ·exact z y
 ·rw [y,nL] at hb;cases hb
 ·obtain ⟨m,m1,m2⟩:=Zjo y1
  obtain ⟨w,w1,_⟩:=env.slot m _ m2
  rw [Zes m1 w1] at y2
  exact z (.inr ⟨m,ds,x,m2,by rw [w1];exact congrArg some (Option.some.inj y2),y3⟩)
theorem Zlp {φ:List (Option Nat)} {L:Addr} (env:EnvR K H0 B H σ γ) (S1:Same H H') (nL:H L=none) (hL:∃ ys,H' L=some (.lst ys)) (hφ:(φ.filterMap id).Nodup) :
  EnvR K H0 (fun b=>zof B γ σ b∨b=L) H' (atStart φ σ) (atP φ γ):=by
 refine ⟨env.same.trans S1,by unfold atStart atP;simp,fun b z=>?_,fun i j a a' ds es b h1 h2 h3 h4 h5 h6=>?_,fun i s h=>?_⟩
 ·rcases z with z | rfl
  ·exact Zdm S1 (env.zm b z)
  ·obtain ⟨ys,e⟩:=hL
   rw [e]
   trivial
 ·obtain ⟨k,k1,k2⟩:=Zjo h1
  obtain ⟨l,l1,l2⟩:=Zjo h2
  obtain ⟨v,v1,_⟩:=env.slot k _ k2
  obtain ⟨u,u1,_⟩:=env.slot l _ l2
  rw [Zes k1 v1] at h3
  rw [Zes l1 u1] at h4
  have:=env.own k l a a' ds es b k2 l2 (by rw [v1];exact congrArg some (Option.some.inj h3)) (by rw [u1];exact congrArg some (Option.some.inj h4)) h5 h6
  subst this
  exact Zom hφ i j k k1 l1
 ·obtain ⟨k,k1,k2⟩:=Zjo h
  obtain ⟨v,v1,v2⟩:=env.slot k _ k2
  have So:Same (off (zof B γ σ) H) (off (zof (fun b=>zof B γ σ b∨b=L) (atP φ γ) (atStart φ σ)) H'):=Zau S1 (Zj9 env nL)
  refine ⟨v,Zes k1 v1,?_⟩
  cases s with
  | bor d=>exact v2
  | sh d=>exact Rp.mono So v2
  | own ds=>
   obtain ⟨a,e1,e3,e4⟩:=v2
   exact ⟨a,e1,e3,e4.mono So fun b _ x=>S1 b x⟩
  | view ds=>exact v2
  | tmp d=>exact v2
theorem Sub.of {σ σ':L2.St} {is:List Nat} (hl:σ'.length=σ.length) (h1:∀ j,j∉is→σ'[j]?=σ[j]?) (h2:∀ j∈is,∀ v,σ[j]?≠some (some v)):Sub σ σ':=⟨hl,fun i v e=>by
 by_cases hi:i∈is
 ·exact absurd e (h2 i hi v)
 ·rw [h1 i hi];exact e⟩
structure ItOkC (K:PySem.W.Frag) (H0:Hp) (B:Addr→Prop) (H1:Hp) (σ:L2.St) (γ:Γ) (J:It) (n:Nat) (item:Nat→S):Prop where
 go:∀ (i:Nat) (H':Hp) (Z':Addr→Prop),i < n→Same H1 H'→Later H0 (zof B γ σ) H1 Z' H'→J.go i H'∧∀ x H'',J.yld i H' x H''→Same H' H''∧TV K Z' H0 H' H'' (item i) x
 stop:∀ (H':Hp) (Z':Addr→Prop),Same H1 H'→Later H0 (zof B γ σ) H1 Z' H'→J.stop n H'
def SndIc (K:PySem.W.Frag) (mg:Str→Option Value) (E:L2.St→XK) (wi:TI) (it:PTI):Prop:=∀ (H0:Hp) (B:Addr→Prop) (H:Hp) (σ:L2.St) (γ:Γ) (R:Nat→(Nat→S)→Prop) (X:XR) (Q:It→Hp→Prop),EnvR K H0 B H σ γ→it γ R X→
 (∀ n item J H1,R n item→Same H H1→ItOkC K H0 B H1 σ γ J n item→Q J H1)→(∀ c H',X c→Same H H'→E σ (.ref (ExcR.clsOf mg c)) none H')→wi σ H Q
theorem SndI.c {wi:TI} {it:PTI} (h:SndI K mg E wi it):SndIc K mg E wi it:=fun H0 B H σ γ R X Q env p q qx=>
 h H0 B H σ γ R X Q env p (fun n item J H1 hR S1 ok=>q n item J H1 hR S1 ⟨fun i H' Z' hi _ lt=>ok.go i H' Z' hi lt,fun H' Z' _ lt=>ok.stop H' Z' lt⟩) qx
def pILc (a:PTE):PTI:=fun γ R X=>a γ (fun s=>match s.d with
 | .lst ds=>R ds.length fun i=>s.sub (ds.getD i .non)
 | .tup ds=>False
 | .scr ns=>R ns.length fun i=>.sh (.int (ns.getD i 0))
 | _=>False) X
theorem Zmr {te:TE} {a:PTE} (ha:SndE K mg E te a):SndIc K mg E (iList K te) (pILc a):=by
 intro H0 B H σ γ R X Q env h q qx
 refine ha H0 B H σ γ _ X _ env h (fun s v H1 h1 S1 t1=>?_) qx
 have env1:=env.grow S1
 split at h1
 ·rename_i ds ed
  have rv:=t1.rp env1.same
  rw [ed] at rv
  obtain ⟨l,vs,rfl,hl1,r1⟩:=rv.lst_inv
  refine ⟨l,rfl,⟨vs,SqL.of hl1⟩,q _ _ _ H1 h1 S1 ⟨fun i H' Z' hi S2 lt=>?_,fun H' Z' S2 lt=>⟨vs,SqL.of (S2 _ _ hl1),by rw [r1.len];exact Nat.le_refl _⟩⟩⟩
  have hd:ds[i]?=some (ds.getD i .non):=by rw [List.getD_eq_getElem?_getD,List.getElem?_eq_getElem hi];rfl
  have hi':∃ u,vs[i]?=some u∧TV K Z' H0 H' H' (s.sub (ds.getD i .non)) u:=by
   cases s with
   | bor d=>
    have t1:=Rp.strip t1
    rw [show d.strip=.lst ds from ed] at t1
    obtain ⟨l',vs',e',h3,r3⟩:=Rp.lst_inv t1
    cases e'
    rw [env1.same _ _ h3] at hl1
    cases hl1
    obtain ⟨u,h4,h5⟩:=r3.get hd
    exact ⟨u,h4,argR lt.2.1 lt.1 h5⟩
   | sh d=>
    have:d=.lst ds:=ed
    subst this
    obtain ⟨l',vs',e',h3,r3⟩:=Rp.lst_inv t1
    cases e'
    rw [off_sub _ _ h3] at hl1
    cases hl1
    obtain ⟨u,h4,h5⟩:=r3.get hd
    exact ⟨u,h4,Rp.mono lt.off h5⟩
   | own es=>
    cases es with
    | dK es=>cases ed
    | dT es=>cases ed
    | ins x C xs cs=>cases ed
    | lsA x es=>
     cases ed
     obtain ⟨l',e',h0,_,vs',h3,r3⟩:=t1
     cases e'
     rw [h3] at hl1
     cases hl1
     obtain ⟨u,h4,h5⟩:=r3.get hd
     exact ⟨u,h4,Rp.mono lt.off (Rp.mono (Zau (Same.refl _) fun b _ _ z y=>z (.inl y)) h5)⟩
    | lst es=>
    cases ed
    obtain ⟨l',e',h0,vs',h3,r3⟩:=t1
    cases e'
    rw [h3] at hl1
    cases hl1
    obtain ⟨u,h4,h5⟩:=r3.get hd
    exact ⟨u,h4,Rp.mono lt.off (Rp.mono (Zau (Same.refl _) fun b _ _ z y=>z (.inl y)) h5)⟩
   | view es=>
    cases es with
    | dK es=>cases ed
    | dT es=>cases ed
    | ins x C xs cs=>cases ed
    | lsA x es=>
     cases ed
     obtain ⟨l',e',_,vs',h3,r3⟩:=t1
     cases e'
     rw [h3] at hl1
     cases hl1
     obtain ⟨u,h4,h5⟩:=r3.get hd
     exact ⟨u,h4,Rp.mono lt.off h5⟩
    | lst es=>
    cases ed
    obtain ⟨l',e',vs',h3,r3⟩:=t1
    cases e'
    rw [h3] at hl1
    cases hl1
    obtain ⟨u,h4,h5⟩:=r3.get hd
    exact ⟨u,h4,Rp.mono lt.off h5⟩
   | tmp d=>
    have:d=.lst ds:=ed
    subst this
    obtain ⟨l',vs',e',h3,r3⟩:=Rp.lst_inv t1
    cases e'
    rw [h3] at hl1
    cases hl1
    obtain ⟨u,h4,h5⟩:=r3.get hd
    exact ⟨u,h4,argTR lt.2.1 (Rp.mono S2 h5)⟩
  obtain ⟨u,hu,tu⟩:=hi'
  refine ⟨⟨vs,u,SqL.of (S2 _ _ hl1),hu⟩,fun x H'' y=>?_⟩
  obtain ⟨rfl,y⟩:=y
  have:=y vs (SqL.of (S2 _ _ hl1))
  rw [hu] at this
  cases this
  exact ⟨Same.refl _,tu⟩
 ·exact h1.elim
 ·rename_i ns ed
  have rv:=t1.rp env1.same
  rw [ed] at rv
  cases rv with
  | scr hs=>
   refine ⟨_,rfl,⟨_,hs⟩,q _ _ _ H1 h1 S1 ⟨fun i H' Z' hi S2 lt=>?_,fun H' Z' S2 lt=>⟨_,S2.seq hs,by rw [List.length_map];exact Nat.le_refl _⟩⟩⟩
   have hu:(ns.map V.int)[i]?=some (.int (ns.getD i 0)):=by
    rw [List.getElem?_map,List.getElem?_eq_getElem hi,List.getD_eq_getElem?_getD,List.getElem?_eq_getElem hi]
    rfl
   refine ⟨⟨_,_,S2.seq hs,hu⟩,fun x H'' y=>?_⟩
   obtain ⟨rfl,y⟩:=y
   have:=y _ (S2.seq hs)
   rw [hu] at this
   cases this
   exact ⟨Same.refl _,.int _⟩
 ·exact h1.elim
theorem Zif {φ:List (Option Nat)} {is:List Nat} {wi:TI} {g:TG} {tc:TT} {te:TE} {it:PTI} {pg:PTG} {c:PTT} {a:PTE} (hi:SndIc K mg E wi it) (hg:SndGi K is g pg) (hc:SndT K mg E tc c) (he:SndE K mg E te a)
  (h1:(φ.filterMap id).Nodup:=by decide) (h2:∀ j∈is,φ[j]?=some none:=by decide):SndE K mg E (tComp φ wi g tc te) (pComp φ it pg c a):=by
 intro H0 B H σ γ R X Q env h q qx
 refine hi H0 B H σ γ _ X _ env h (fun n item J H1 h1' S1 ok=>?_) qx
 obtain ⟨hn,f,hf,hR⟩:=h1'.w
 have env1:=env.grow S1
 have hbig:n≤sizeLine:=Nat.le_trans hn (by decide)
 intro L nL
 refine ⟨fun i m ys H2=>m=n - i∧i≤n∧Same H1 H2∧H2 L=some (.lst ys)∧Rps K (off (fun b=>zof B γ σ b∨b=L) H2) ((List.range i).filterMap f) ys,⟨n,by simp,Nat.zero_le _,Zcq nL,Zbg,.nil⟩,?_⟩
 rintro i m ys H2 ⟨rfl,hin,S2,hL,hys⟩
 have env2:=env1.grow S2
 by_cases hlt:i < n
 ·have envI2:=Zlp (φ:=φ) env1 S2 nL ⟨ys,hL⟩ h1
  obtain ⟨go,yl⟩:=ok.go i H2 _ hlt S2 ⟨env2.same,envI2.zm,fun b o hb z=>⟨S2 _ _ hb,Zj9 env1 nL b o hb z⟩⟩
  refine .inr ⟨go,fun x H3 y=>?_⟩
  obtain ⟨S3,tv⟩:=yl x H3 y
  refine hg H0 _ H2 H3 _ _ _ _ _ _ envI2 S3 tv (hf i hlt) fun σ2 γ2 p2 e2 f2 k2=>⟨?_,?_⟩
  ·refine Sub.of (is:=is) k2.2 k2.1 fun j hj v z=>?_
   obtain ⟨k,k1,_⟩:=Own.Zhx z
   rw [h2 j hj] at k1
   cases k1
  ·refine hc H0 _ H3 σ2 γ2 _ _ _ e2 p2 (fun b H5 q5 S5=>?_) fun _ _ z=>z.elim
   have e5:=e2.grow S5
   cases b with
   | false=>
    rw [if_neg Bool.false_ne_true] at q5 ⊢
    refine ⟨n - (i + 1),by omega,rfl,hlt,(S2.trans S3).trans S5,(S3.trans S5) _ _ hL,?_⟩
    rw [List.range_succ,List.filterMap_append]
    simp only [List.filterMap_cons,q5,List.filterMap_nil,List.append_nil]
    exact Rps.mono (Zau (S3.trans S5) fun _ _ _ z=>z) hys
   | true=>
    rw [if_pos rfl] at q5 ⊢
    refine he H0 _ H5 σ2 γ2 _ _ _ e5 q5 (fun s v H6 q6 S6 t6=>?_) fun _ _ z=>z.elim
    obtain ⟨d,hd,hfd⟩:=q6
    have S26:=(S3.trans S5).trans S6
    have hr:=t6.shd (e5.grow S6).same e5.zm S6 hd
    have hlen:ys.length≤i:=by
     rw [hys.len]
     exact Nat.le_trans (List.length_filterMap_le _ _) (by rw [List.length_range];exact Nat.le_refl _)
    refine ⟨S26 _ _ hL,by omega,n - (i + 1),by omega,rfl,hlt,fun b o hb=>?_,Zbg,?_⟩
    ·rw [Za7 (Zb2 hb nL)]
     exact S26 _ _ (S2 _ _ hb)
    ·rw [List.range_succ,List.filterMap_append]
     have ef:[i].filterMap f=[d]:=by simp [hfd]
     rw [ef]
     have So:Same (off (fun b=>zof B γ σ b∨b=L) H6) (off (fun b=>zof B γ σ b∨b=L) (upd H6 L (.lst (ys++[v])))):=fun b o h=>by
      obtain ⟨a1,a2⟩:=Ze3 h
      refine Zcb ?_ a2
      rw [Za7 fun z=>a2 (.inr z)]
      exact a1
     refine Rps.append (Rps.mono So (Rps.mono (Zau S26 fun _ _ _ z=>z) hys)) (.cons (Rp.mono So (Rp.mono (Zau (Same.refl _) fun b _ _ z y=>z (.inl y)) hr)) .nil)
 ·have:i=n:=by omega
  subst this
  exact .inl ⟨ok.stop H2 _ S2 (Later.of env2 (Fr.grow S2)),q _ _ H2 hR (S1.trans S2) ⟨L,rfl,(fun _ e=>e ▸ S1.free nL),ys,hL,hys⟩⟩
def pYes:PTT:=fun _ R _=>R true
theorem Znv:SndT K mg E tNoIf pYes:=fun _ _ H _ _ _ _ _ _ p q _=>q _ H p (Same.refl _)
theorem Zie {α β:Type} (xs:List α) (f:α→Option β):(List.range xs.length).filterMap (fun i=>(xs[i]?).bind f)=xs.filterMap f:=by
 induction xs with
 | nil=>rfl
 | cons x r ih=>
  rw [List.length_cons,List.range_succ_eq_map,List.filterMap_cons,List.filterMap_map,List.filterMap_cons]
  have e:(fun i=>((x :: r)[i]?).bind f)∘Nat.succ=fun i=>(r[i]?).bind f:=by
   funext i
   simp
  rw [e,ih]
  rfl
end
end Pu
namespace Pu
open PySem PySem.Spec PyProof.Rows L2 Own M
section
variable {K:PySem.W.Frag} {mg:Str→Option Value} {E:L2.St→XK} {H0 H H1 H':Hp} {B Z Z':Addr→Prop} {σ:L2.St} {γ:Γ}
def pCB (f:List S→(S→Prop)→Prop) (r:PTA):PTE:=fun γ R X=>r γ (fun ss=>f ss R) X
theorem Zkf {rr:List V→Hp→VK→Prop} {f:List S→(S→Prop)→Prop} {ta:TA} {r:PTA} (hr:SndA K mg E ta r)
  (h:∀ (H0 H H1:Hp) (Z:Addr→Prop) (ss:List S) (vs:List V) (R:S→Prop) (Q:VK),Same H0 H1→Same H H1→(∀ b,Z b→Mut (H b))→TVs K Z H0 H H1 ss vs→f ss R→(∀ s z H',R s→Same H1 H'→TV K Z H0 H H' s z→Q z H')→rr vs H1 Q) :
  SndE K mg E (tCB rr ta) (pCB f r):=by
 intro H0 B H σ γ R X Q env p q qx
 refine hr H0 B H σ γ _ X _ env p (fun ss vs H1 h1 S1 t1=>?_) qx
 exact h H0 H H1 _ ss vs R Q (env.grow S1).same S1 env.zm t1 h1 fun s z H' hs S2 tv=>q s z H' hs (S1.trans S2) tv
def S.free:S→List D→Bool
 | .bor _,ds=>imms ds | .tmp _,ds=>imms ds | _,_=>true
theorem TVs.one_inv {s:S} {vs:List V} (h:TVs K Z H0 H H' [s] vs):∃ v,vs=[v]∧TV K Z H0 H H' s v:=by
 cases h with
 | cons h r=>cases r;exact ⟨_,rfl,h⟩
theorem TVs.two_inv {s t:S} {vs:List V} (h:TVs K Z H0 H H' [s,t] vs):∃ v u,vs=[v,u]∧TV K Z H0 H H' s v∧TV K Z H0 H H' t u:=by
 cases h with
 | cons h r=>cases r with | cons h2 r=>cases r;exact ⟨_,_,rfl,h,h2⟩
theorem TV.items {s:S} {v:V} {ds:List D} (h0:Same H0 H') (hm:∀ b,Z b→Mut (H b)) (S1:Same H H') (h:TV K Z H0 H H' s v) (hf:s.free ds=true) :
  (s.d=.lst ds→∃ a vs,v=.ref a∧H' a=some (.lst vs)∧Rps K (off Z H') ds vs)∧(s.d=.tup ds→∃ a vs,v=.ref a∧H' a=some (.tup vs)∧Rps K (off Z H') ds vs):=by
 have hm':∀ b,Z b→Mut (H' b):=fun b z=>Zdm S1 (hm b z)
 cases s with
 | bor d=>
  have h:=Rp.strip h
  refine ⟨fun e=>?_,fun e=>?_⟩<;>rw [show d.strip=_ from e] at h
  ·obtain ⟨a,vs,rfl,h1,r⟩:=Rp.lst_inv h
   exact ⟨a,vs,rfl,h0 _ _ h1,Rps.off hm' (Rps.mono h0 r) hf⟩
  ·obtain ⟨a,vs,rfl,h1,r⟩:=Rp.tup_inv h
   exact ⟨a,vs,rfl,h0 _ _ h1,Rps.off hm' (Rps.mono h0 r) hf⟩
 | sh d=>
  refine ⟨fun e=>?_,fun e=>?_⟩<;>(have e':d=_:=e;subst e')
  ·obtain ⟨a,vs,rfl,h1,r⟩:=Rp.lst_inv h
   exact ⟨a,vs,rfl,off_sub _ _ h1,r⟩
  ·obtain ⟨a,vs,rfl,h1,r⟩:=Rp.tup_inv h
   exact ⟨a,vs,rfl,off_sub _ _ h1,r⟩
 | own es=>
  cases es with
  | dK es=>exact ⟨(fun e=>by cases e),(fun e=>by cases e)⟩
  | dT es=>exact ⟨(fun e=>by cases e),(fun e=>by cases e)⟩
  | ins x C xs cs=>exact ⟨(fun e=>by cases e),(fun e=>by cases e)⟩
  | lst es=>
   refine ⟨fun e=>?_,fun e=>by cases e⟩
   cases e
   obtain ⟨a,rfl,e0,vs,e,r⟩:=h
   exact ⟨a,vs,rfl,e,Rps.mono (Zau (Same.refl _) fun b _ _ z y=>z (.inl y)) r⟩
  | lsA x es=>
   refine ⟨fun e=>?_,fun e=>by cases e⟩
   cases e
   obtain ⟨a,rfl,e0,_,vs,e,r⟩:=h
   exact ⟨a,vs,rfl,e,Rps.mono (Zau (Same.refl _) fun b _ _ z y=>z (.inl y)) r⟩
 | view es=>
  cases es with
  | dK es=>exact ⟨(fun e=>by cases e),(fun e=>by cases e)⟩
  | dT es=>exact ⟨(fun e=>by cases e),(fun e=>by cases e)⟩
  | ins x C xs cs=>exact ⟨(fun e=>by cases e),(fun e=>by cases e)⟩
  | lst es=>
   refine ⟨fun e=>?_,fun e=>by cases e⟩
   cases e
   obtain ⟨a,rfl,vs,e,r⟩:=h
   exact ⟨a,vs,rfl,e,r⟩
  | lsA x es=>
   refine ⟨fun e=>?_,fun e=>by cases e⟩
   cases e
   obtain ⟨a,rfl,_,vs,e,r⟩:=h
   exact ⟨a,vs,rfl,e,r⟩
 | tmp d=>
  refine ⟨fun e=>?_,fun e=>?_⟩<;>(have e':d=_:=e;subst e')
  ·obtain ⟨a,vs,rfl,h1,r⟩:=Rp.lst_inv h
   exact ⟨a,vs,rfl,h1,Rps.off hm' r hf⟩
  ·obtain ⟨a,vs,rfl,h1,r⟩:=Rp.tup_inv h
   exact ⟨a,vs,rfl,h1,Rps.off hm' r hf⟩
def fLen:List S→(S→Prop)→Prop
 | [s],R=>(match s.d with
  | .lst ds=>R (.sh (.int ds.length)) | .tup ds=>R (.sh (.int ds.length)) | .scr ns=>R (.sh (.int ns.length)) | .str x=>x.length≤sizeLine∧R (.sh (.int x.length)) | _=>False)
 | _,_=>False
theorem Zbt {ta:TA} {r:PTA} (hr:SndA K mg E ta r):SndE K mg E (tCB (fun xs H Q=>∃ x n,xs=[x]∧LenV K x H n∧Q (.int n) H) ta) (pCB fLen r):=by
 refine Zkf hr fun H0 H H1 Z ss vs R Q s0 s1 hm tv h q=>?_
 unfold fLen at h
 split at h
 ·rename_i s
  obtain ⟨v,rfl,t1⟩:=tv.one_inv
  have rv:=t1.rp s0
  split at h
  ·rename_i ds e
   rw [e] at rv
   obtain ⟨a,us,rfl,h1,r1⟩:=rv.lst_inv
   exact ⟨_,_,rfl,.inl ⟨us,SqL.of h1,rfl⟩,by rw [r1.len];exact q _ _ H1 h (Same.refl _) (.int _)⟩
  ·rename_i ds e
   rw [e] at rv
   obtain ⟨a,us,rfl,h1,r1⟩:=rv.tup_inv
   exact ⟨_,_,rfl,.inr ⟨us,SqT.of h1,rfl⟩,by rw [r1.len];exact q _ _ H1 h (Same.refl _) (.int _)⟩
  ·rename_i ns e
   rw [e] at rv
   cases rv with
   | scr hs=>exact ⟨_,_,rfl,.inl ⟨_,hs,rfl⟩,by rw [List.length_map];exact q _ _ H1 h (Same.refl _) (.int _)⟩
  ·rename_i x e
   rw [e] at rv
   rw [rv.str_inv]
   exact ⟨_,_,rfl,⟨h.1,rfl⟩,q _ _ H1 h.2 (Same.refl _) (.int _)⟩
  ·exact h.elim
 ·exact h.elim
def fList:List S→(S→Prop)→Prop
 | [s],R=>(match s.d with
  | .lst ds=>s.free ds=true∧R (.own ds) | .tup ds=>s.free ds=true∧R (.own ds) | _=>False)
 | _,_=>False
theorem Ziv {ta:TA} {r:PTA} (hr:SndA K mg E ta r):SndE K mg E (tCB (fun xs H Q=>∃ p ys,xs=[.ref p]∧(SqL K H p ys∨SqT K H p ys)∧∀ l,H l=none→Q (.ref l) (upd H l (.lst ys))) ta) (pCB fList r):=by
 refine Zkf hr fun H0 H H1 Z ss vs R Q s0 s1 hm tv h q=>?_
 unfold fList at h
 split at h
 ·rename_i s
  obtain ⟨v,rfl,t1⟩:=tv.one_inv
  split at h
  ·rename_i ds e
   obtain ⟨a,us,rfl,h1,r1⟩:=(t1.items s0 hm s1 h.1).1 e
   exact ⟨a,us,rfl,.inl (SqL.of h1),fun l nl=>q _ _ _ h.2 (Zcq nl) (Zgz s1 nl r1)⟩
  ·rename_i ds e
   obtain ⟨a,us,rfl,h1,r1⟩:=(t1.items s0 hm s1 h.1).2 e
   exact ⟨a,us,rfl,.inr (SqT.of h1),fun l nl=>q _ _ _ h.2 (Zcq nl) (Zgz s1 nl r1)⟩
  ·exact h.elim
 ·exact h.elim
theorem Rps.ints {K:PySem.W.Frag} {H:Hp}:∀ {js:List Int} {vs:List V},Rps K H (js.map D.int) vs→vs=js.map V.int
 | [],_,.nil=>rfl
 | j :: r,_,.cons h t=>by rw [Rp.int_inv h,Rps.ints t];rfl
theorem Rps.of_ints {K:PySem.W.Frag} {H:Hp}:∀ (js:List Int),Rps K H (js.map D.int) (js.map V.int)
 | []=>.nil
 | j :: r=>.cons (.int j) (Rps.of_ints r)
def fMax2:List S→(S→Prop)→Prop
 | [s,t],R=>(match s.d,t.d with | .int i,.int j=>R (.sh (.int (if j > i then j else i))) | _,_=>False)
 | _,_=>False
theorem Zoy {ta:TA} {r:PTA} (hr:SndA K mg E ta r):SndE K mg E (tCB (fun xs H Q=>∃ i j,xs=[.int i,.int j]∧Q (.int (if j > i then j else i)) H) ta) (pCB fMax2 r):=by
 refine Zkf hr fun H0 H H1 Z ss vs R Q s0 s1 hm tv h q=>?_
 unfold fMax2 at h
 split at h
 ·obtain ⟨v,u,rfl,t1,t2⟩:=tv.two_inv
  have r1:=t1.rp s0
  have r2:=t2.rp s0
  split at h
  ·rename_i i j e1 e2
   rw [e1] at r1
   rw [e2] at r2
   rw [r1.int_inv,r2.int_inv]
   exact ⟨i,j,rfl,q _ _ H1 h (Same.refl _) (.int _)⟩
  ·exact h.elim
 ·exact h.elim
def fAbs:List S→(S→Prop)→Prop
 | [s],R=>(match s.d with | .int i=>R (.sh (.int (if i < 0 then -i else i))) | _=>False)
 | _,_=>False
def tyD:D→Option String
 | .int _=>some "int" | .bl _=>some "bool" | .non=>some "NoneType" | .str _=>some "str" | .tup _=>some "tuple" | .lst _=>some "list" | .dK _=>some "dict" | .dT _=>some "dict" | _=>none
inductive IsiR:String→String→Bool→Prop
 | same (n:String):IsiR n n true
 | ib:IsiR "int" "bool" false
 | bi:IsiR "bool" "int" true
 | tl:IsiR "tuple" "list" false
 | lt:IsiR "list" "tuple" false
 | it:IsiR "int" "tuple" false
 | il:IsiR "int" "list" false
 | bt:IsiR "bool" "tuple" false
 | bL:IsiR "bool" "list" false
 | ti:IsiR "tuple" "int" false
 | li:IsiR "list" "int" false
 | si:IsiR "str" "int" false
 | is:IsiR "int" "str" false
 | ni:IsiR "NoneType" "int" false
 | nl:IsiR "NoneType" "list" false
 | nt:IsiR "NoneType" "tuple" false
theorem IsiR.kit {m n:String} {b:Bool} (h:IsiR m n b):PySem.W.kitOne K (.type m) (.type n)=some b:=by
 cases h with
 | same=>exact Zpx K _
 | _=>rfl
def fIsi:List S→(S→Prop)→Prop
 | [s,t],R=>(match tyD s.d,t.d with | some m,.ty n=>∃ b,IsiR m n b∧R (.sh (.bl b)) | _,_=>False)
 | _,_=>False
theorem Zrn {d:D} {v:V} {m:String} (h:Rp K H d v) (e:tyD d=some m):TyOf K H v (.type m):=by
 cases h with
 | int i=>cases e;exact .int i
 | bl b=>cases e;exact .bl b
 | non=>cases e;exact .non
 | str x=>cases e;exact .str x
 | ty n=>cases e
 | tup h r=>cases e;exact .tup h
 | lst h r=>cases e;exact .lst h
 | scr h=>cases e
 | dK h=>cases e;exact .dK h
 | dT h=>cases e;exact .dT h
 | loc h=>cases e
 | err h=>cases e
 | ref a=>cases e
 | ins h q r=>cases e
theorem Zh4 {ta:TA} {r:PTA} (hr:SndA K mg E ta r):SndE K mg E (tCB (fun xs H Q=>∃ x n t b,xs=[x,.ty n]∧TyOf K H x t∧PySem.W.kitOne K t (.type n)=some b∧Q (.bl b) H) ta) (pCB fIsi r):=by
 refine Zkf hr fun H0 H H1 Z ss vs R Q s0 s1 hm tv h q=>?_
 unfold fIsi at h
 split at h
 ·obtain ⟨v,u,rfl,t1,t2⟩:=tv.two_inv
  have r1:=t1.rp s0
  have r2:=t2.rp s0
  split at h
  ·rename_i m n e1 e2
   rw [e2] at r2
   rw [r2.ty_inv]
   obtain ⟨b,k,hR⟩:=h
   exact ⟨v,n,_,b,rfl,Zrn r1 e1,k.kit,q _ _ H1 hR (Same.refl _) (.bl _)⟩
  ·exact h.elim
 ·exact h.elim
def prD (p:Int×Int):D:=.tup [.int p.1,.int p.2]
inductive InR:D→D→Bool→Prop
 | li (i:Int) (hs:List Int):InR (.int i) (.lst (hs.map D.int)) (decide (i∈hs))
 | ti (i:Int) (hs:List Int):InR (.int i) (.tup (hs.map D.int)) (decide (i∈hs))
 | lp (q:Int×Int) (ps:List (Int×Int)):InR (prD q) (.lst (ps.map prD)) (decide (q∈ps))
def fIn (neg:Bool):S→S→(S→Prop)→Prop:=fun x y R=>∃ b,InR x.d y.d b∧R (.sh (.bl (if neg then !b else b)))
theorem Rp.pair {q:Int×Int} {v:V} (h:Rp K H (prD q) v):PairR H v q:=by
 obtain ⟨a,vs,rfl,h1,r⟩:=Rp.tup_inv h
 obtain ⟨x,y,rfl,r1,r2⟩:=r.two_inv
 rw [r1.int_inv,r2.int_inv] at h1
 exact ⟨a,rfl,h1⟩
theorem Rps.lv {K:PySem.W.Frag} {H:Hp} {ps:List (Int×Int)} {vs:List V} (h:Rps K H (ps.map prD) vs):LV PairR H vs ps:=by
 refine ⟨by rw [h.len,List.length_map],fun i p hp=>?_⟩
 obtain ⟨v,h1,h2⟩:=h.get (i:=i) (d:=prD p) (by rw [List.getElem?_map,hp];rfl)
 exact ⟨v,h1,h2.pair⟩
theorem Zp0 {neg:Bool} {ta tb:TE} {a b:PTE} (ha:SndE K mg E ta a) (hb:SndE K mg E tb b):SndE K mg E (tOp (fun x y H Q=>rIn K neg x y H Q∨rInP neg x y H Q) ta tb) (p2 a b (fIn neg)):=by
 refine se_2 ha hb fun H0 H H2 Z x y v u R Q s0 s1 hm tx ty h q=>?_
 obtain ⟨k,hk,hR⟩:=h
 have rx:=tx.rp s0
 have ry:=ty.rp s0
 generalize ex:x.d=dx at hk rx
 generalize ey:y.d=dy at hk ry
 cases hk with
 | li i hs=>
  obtain ⟨l,us,rfl,hl,r⟩:=ry.lst_inv
  rw [r.ints] at hl
  rw [rx.int_inv]
  refine .inl ⟨l,_,rfl,.inl (SqL.of hl),rfl,Zdd _,?_⟩
  rw [Zn2]
  exact q _ _ H2 hR (Same.refl _) (.bl _)
 | ti i hs=>
  obtain ⟨l,us,rfl,hl,r⟩:=ry.tup_inv
  rw [r.ints] at hl
  rw [rx.int_inv]
  refine .inl ⟨l,_,rfl,.inr (SqT.of hl),rfl,Zdd _,?_⟩
  rw [Zn2]
  exact q _ _ H2 hR (Same.refl _) (.bl _)
 | lp p ps=>
  obtain ⟨l,us,rfl,hl,r⟩:=ry.lst_inv
  exact .inr ⟨l,ps,p,rfl,rx.pair,⟨us,hl,r.lv⟩,q _ _ H2 hR (Same.refl _) (.bl _)⟩
def fEqU (neg:Bool):S→S→(S→Prop)→Prop:=fun x y R=>match x.d,y.d with
 | .lst ds,.lst es=>∃ xs ys:List Int,ds=xs.map D.int∧es=ys.map D.int∧R (.sh (.bl (if neg then !decide (xs=ys) else decide (xs=ys))))
 | _,_=>fEq neg x y R
theorem Zbl {ta tb:TE} {a b:PTE} (ha:SndE K mg E ta a) (hb:SndE K mg E tb b):SndE K mg E (tOp (fun x y H Q=>rEq x y H Q∨rEqL K false x y H Q) ta tb) (p2 a b (fEqU false)):=by
 refine se_2 ha hb fun H0 H H2 Z x y v u R Q s0 s1 hm tx ty h q=>?_
 have rx:=tx.rp s0
 have ry:=ty.rp s0
 unfold fEqU at h
 split at h
 ·rename_i ds es e1 e2
  obtain ⟨xs,ys,rfl,rfl,hR⟩:=h
  rw [e1] at rx
  rw [e2] at ry
  obtain ⟨l,us,rfl,hl,r⟩:=rx.lst_inv
  obtain ⟨m,ws,rfl,hm,r'⟩:=ry.lst_inv
  rw [r.ints] at hl
  rw [r'.ints] at hm
  refine .inr ⟨l,m,_,_,rfl,rfl,SqL.of hl,SqL.of hm,Zdd _,Zdd _,?_⟩
  rw [Zjl]
  exact q _ _ H2 hR (Same.refl _) (.bl _)
 ·refine .inl ?_
  unfold fEq at h
  split at h
  ·rename_i i j e1 e2
   rw [e1] at rx
   rw [e2] at ry
   rw [rx.int_inv,ry.int_inv]
   refine ⟨rfl,?_⟩
   rw [Zgu (f:=V.int) fun _ _ z=>V.int.inj z]
   exact q _ _ H2 h (Same.refl _) (.bl _)
  ·rename_i i j e1 e2
   rw [e1] at rx
   rw [e2] at ry
   rw [rx.str_inv,ry.str_inv]
   refine ⟨rfl,?_⟩
   rw [Zgu (f:=V.str) fun _ _ z=>V.str.inj z]
   exact q _ _ H2 h (Same.refl _) (.bl _)
  ·rename_i i j e1 e2
   rw [e1] at rx
   rw [e2] at ry
   rw [rx.bl_inv,ry.bl_inv]
   refine ⟨rfl,?_⟩
   rw [Zgu (f:=V.bl) fun _ _ z=>V.bl.inj z]
   exact q _ _ H2 h (Same.refl _) (.bl _)
  ·exact h.elim
theorem Zgc {ta tb:TE} {a b:PTE} (ha:SndE K mg E ta a) (hb:SndE K mg E tb b):SndE K mg E (tOp (fun x y H Q=>rNe x y H Q∨rEqL K true x y H Q) ta tb) (p2 a b (fEqU true)):=by
 refine se_2 ha hb fun H0 H H2 Z x y v u R Q s0 s1 hm tx ty h q=>?_
 have rx:=tx.rp s0
 have ry:=ty.rp s0
 unfold fEqU at h
 split at h
 ·rename_i ds es e1 e2
  obtain ⟨xs,ys,rfl,rfl,hR⟩:=h
  rw [e1] at rx
  rw [e2] at ry
  obtain ⟨l,us,rfl,hl,r⟩:=rx.lst_inv
  obtain ⟨m,ws,rfl,hm,r'⟩:=ry.lst_inv
  rw [r.ints] at hl
  rw [r'.ints] at hm
  refine .inr ⟨l,m,_,_,rfl,rfl,SqL.of hl,SqL.of hm,Zdd _,Zdd _,?_⟩
  rw [Zjl]
  exact q _ _ H2 hR (Same.refl _) (.bl _)
 ·refine .inl ?_
  unfold fEq at h
  split at h
  ·rename_i i j e1 e2
   rw [e1] at rx
   rw [e2] at ry
   rw [rx.int_inv,ry.int_inv]
   refine ⟨rfl,?_⟩
   rw [Zgu (f:=V.int) fun _ _ z=>V.int.inj z]
   exact q _ _ H2 h (Same.refl _) (.bl _)
  ·rename_i i j e1 e2
   rw [e1] at rx
   rw [e2] at ry
   rw [rx.str_inv,ry.str_inv]
   refine ⟨rfl,?_⟩
   rw [Zgu (f:=V.str) fun _ _ z=>V.str.inj z]
   exact q _ _ H2 h (Same.refl _) (.bl _)
  ·rename_i i j e1 e2
   rw [e1] at rx
   rw [e2] at ry
   rw [rx.bl_inv,ry.bl_inv]
   refine ⟨rfl,?_⟩
   rw [Zgu (f:=V.bl) fun _ _ z=>V.bl.inj z]
   exact q _ _ H2 h (Same.refl _) (.bl _)
  ·exact h.elim
abbrev tTru (K:PySem.W.Frag) (ta:TE):TT:=fun σ H Q=>ta σ H fun x H'=>∃ k,TruV K x H' k∧Q k H'
def pTru (a:PTE):PTT:=fun γ R X=>a γ (fun x=>match x.d with
 | .bl b=>R b | .lst ds=>R (!ds.isEmpty) | .tup ds=>R (!ds.isEmpty) | .int i=>R (i != 0) | .non=>R false | _=>False) X
theorem Zga {α β:Type} {l:List α} {m:List β} (h:l.length=m.length):l.isEmpty=m.isEmpty:=by
 cases l<;>cases m<;>simp at h ⊢
theorem Zef {te:TE} {a:PTE} (ha:SndE K mg E te a):SndT K mg E (tTru K te) (pTru a):=by
 intro H0 B H σ γ R X Q env p q qx
 refine ha H0 B H σ γ _ X _ env p (fun x v H1 h1 S1 t1=>?_) qx
 have rx:=t1.rp (env.grow S1).same
 split at h1
 ·rename_i b e
  rw [e] at rx
  rw [rx.bl_inv]
  exact ⟨b,rfl,q _ H1 h1 S1⟩
 ·rename_i ds e
  rw [e] at rx
  obtain ⟨l,us,rfl,hl,r⟩:=rx.lst_inv
  exact ⟨!us.isEmpty,.inl ⟨us,SqL.of hl,rfl⟩,by rw [Zga r.len];exact q _ H1 h1 S1⟩
 ·rename_i ds e
  rw [e] at rx
  obtain ⟨l,us,rfl,hl,r⟩:=rx.tup_inv
  exact ⟨!us.isEmpty,.inr (.inl ⟨us,SqT.of hl,rfl⟩),by rw [Zga r.len];exact q _ H1 h1 S1⟩
 ·rename_i i e
  rw [e] at rx
  rw [rx.int_inv]
  exact ⟨_,rfl,q _ H1 h1 S1⟩
 ·rename_i e
  rw [e] at rx
  rw [rx.non_inv]
  exact ⟨_,rfl,q _ H1 h1 S1⟩
 ·exact h1.elim
def cutD {α:Type} (xs:List α) (lo hi:Option Int):List α:=(xs.drop (HT.sIx xs.length 0 lo)).take (HT.sIx xs.length xs.length hi - HT.sIx xs.length 0 lo)
def pNoPart:PTO:=fun _ R _=>R none
def pPart (a:PTE):PTO:=fun γ R X=>a γ (fun s=>match s.d with | .int i=>R (some i) | _=>False) X
theorem Zc3:SndO K mg E tNoPart pNoPart:=fun _ _ H _ _ _ _ _ _ p q _=>q _ H p (Same.refl _)
theorem Zcn {te:TE} {a:PTE} (ha:SndE K mg E te a):SndO K mg E (tPart te) (pPart a):=by
 intro H0 B H σ γ R X Q env p q qx
 refine ha H0 B H σ γ _ X _ env p (fun x v H1 h1 S1 t1=>?_) qx
 have rx:=t1.rp (env.grow S1).same
 split at h1
 ·rename_i i e
  rw [e] at rx
  exact ⟨i,rx.int_inv,q _ H1 h1 S1⟩
 ·exact h1.elim
def pSl (a:PTE) (l u:PTO):PTE:=fun γ R X=>a γ (fun s=>l γ (fun lo=>u γ (fun hi=>match s.d with | .lst ds=>s.free ds=true∧R (.own (cutD ds lo hi)) | _=>False) X) X) X
theorem Rps.cut {ds:List D} {vs:List V} {lo hi:Option Int} (r:Rps K H ds vs):Rps K H (cutD ds lo hi) (cutV vs lo hi):=by
 unfold cutD cutV
 rw [r.len]
 exact Rps.take _ (Rps.drop _ r)
theorem Zcg {te:TE} {tl th:TO} {a:PTE} {l u:PTO} (ha:SndE K mg E te a) (hl:SndO K mg E tl l) (hu:SndO K mg E th u):SndE K mg E (tSl (rSlL K) te tl th) (pSl a l u):=by
 intro H0 B H σ γ R X Q env p q qx
 refine ha H0 B H σ γ _ X _ env p (fun x v H1 h1 S1 t1=>?_) qx
 refine hl H0 B H1 σ γ _ X _ (env.grow S1) h1 (fun lo H2 h2 S2=>?_) fun c H' hc S'=>qx c H' hc (S1.trans S')
 refine hu H0 B H2 σ γ _ X _ ((env.grow S1).grow S2) h2 (fun hi H3 h3 S3=>?_) fun c H' hc S'=>qx c H' hc ((S1.trans S2).trans S')
 have S13:=(S1.trans S2).trans S3
 split at h3
 ·rename_i ds e
  obtain ⟨b,us,rfl,hb,r⟩:=((t1.grow (S2.trans S3)).items (env.grow S13).same env.zm S13 h3.1).1 e
  exact ⟨b,us,rfl,SqL.of hb,fun m nm=>q _ _ _ h3.2 (S13.trans (Zcq nm)) (Zgz S13 nm r.cut)⟩
 ·exact h3.elim
def fCat:S→S→(S→Prop)→Prop:=fun x y R=>match x.d,y.d with
 | .lst ds,.lst es=>x.free ds=true∧y.free es=true∧ds.length + es.length≤100000∧R (.own (ds++es))
 | _,_=>False
theorem Zdu {ta tb:TE} {a b:PTE} (ha:SndE K mg E ta a) (hb:SndE K mg E tb b):SndE K mg E (tOp rCat ta tb) (p2 a b fCat):=by
 refine se_2 ha hb fun H0 H H2 Z x y v u R Q s0 s1 hm tx ty h q=>?_
 unfold fCat at h
 split at h
 ·rename_i ds es e1 e2
  obtain ⟨l,us,rfl,hl,r⟩:=(tx.items s0 hm s1 h.1).1 e1
  obtain ⟨m,ws,rfl,hm',r'⟩:=(ty.items s0 hm s1 h.2.1).1 e2
  have hz:us.length + ws.length≤sizeLine:=by rw [r.len,r'.len];exact Nat.le_trans h.2.2.1 (by decide)
  exact ⟨l,m,us,ws,rfl,rfl,hl,hm',hz,fun p np=>q _ _ _ h.2.2.2 (Zcq np) (Zgz s1 np (r.append r'))⟩
 ·exact h.elim
def pAppend (i:Nat) (a:PTE):PTS:=fun R γ=>match γ[i]? with
 | some (some (.own (.lst ds)))=>a γ (fun s=>match s.shd with
  | some d=>ds.length < 10000000∧R.nx (γ.set i (some (.own (ds++[d]))))
  | none=>False) (R.ex γ)
 | some (some (.own (.lsA x ds)))=>a γ (fun s=>match s.shd with
  | some d=>ds.length < 10000000∧R.nx (γ.set i (some (.own (.lsA x (ds++[d])))))
  | none=>False) (R.ex γ)
 | _=>False
theorem Zh2 (i:Nat) {te:TE} {a:PTE} (ha:SndE K mg E te a):SndS K mg E (tDrop (tBM K "list" rAppend (tVar i) (tCons te tNil))) (pAppend i a):=by
 intro H0 B H σ γ R D hB env h e
 unfold pAppend at h
 split at h
 ·rename_i ds hi
  obtain ⟨v,hv,b,rfl,hb0,us,hb,rb⟩:=env.slot i _ hi
  refine ⟨_,hv,.inl ⟨rfl,us,SqL.of hb⟩,ha H0 B H σ γ _ _ _ env h (fun s u H1 h1 S1 t1=>?_) fun c H' hc S'=>e.ex σ γ c H' hc (env.grow S') (Fr.grow S')⟩
  have env1:=env.grow S1
  split at h1
  ·rename_i d e2
   have rd:=t1.shd env1.same env.zm S1 e2
   refine ⟨b,us,u,rfl,rfl,S1 _ _ hb,by rw [rb.len];exact Nat.lt_trans h1.1 (by decide),?_⟩
   obtain ⟨e2,f2⟩:=env1.mutate (es:=.lst (ds++[d])) (us:=.lst (us++[u])) hi hv trivial fun F H' SF hF=>⟨_,hF,Rps.mono SF (Rps.append (Rps.mono (Zau S1 fun _ _ _ z=>z) rb) (.cons rd .nil))⟩
   exact e.nx _ _ _ h1.2 e2 ((Fr.grow S1).trans f2)
  ·exact h1.elim
 ·rename_i x ds hi
  obtain ⟨v,hv,b,rfl,hb0,rfl,us,hb,rb⟩:=env.slot i _ hi
  refine ⟨_,hv,.inl ⟨rfl,us,SqL.of hb⟩,ha H0 B H σ γ _ _ _ env h (fun s u H1 h1 S1 t1=>?_) fun c H' hc S'=>e.ex σ γ c H' hc (env.grow S') (Fr.grow S')⟩
  have env1:=env.grow S1
  split at h1
  ·rename_i d e2
   have rd:=t1.shd env1.same env.zm S1 e2
   refine ⟨b,us,u,rfl,rfl,S1 _ _ hb,by rw [rb.len];exact Nat.lt_trans h1.1 (by decide),?_⟩
   obtain ⟨e2,f2⟩:=env1.mutate (es:=.lsA b (ds++[d])) (us:=.lst (us++[u])) hi hv trivial fun F H' SF hF=>⟨rfl,_,hF,Rps.mono SF (Rps.append (Rps.mono (Zau S1 fun _ _ _ z=>z) rb) (.cons rd .nil))⟩
   exact e.nx _ _ _ h1.2 e2 ((Fr.grow S1).trans f2)
  ·exact h1.elim
 ·exact h.elim
end
section
variable {X:Cx} {K:PySem.W.Frag}
theorem Zqh (hu:X.A.in1.units < cLine) (hK:X.K=K:=by rfl):OpR X (compareOp .In) (fun x y H Q=>rIn K false x y H Q∨rInP false x y H Q):=(Zrj hK).or (Zr6 hu)
theorem Zk5 (hu:X.A.in1.units < cLine) (hK:X.K=K:=by rfl):OpR X (compareOp .NotIn) (fun x y H Q=>rIn K true x y H Q∨rInP true x y H Q):=(Znk hK).or (Zoh hu)
theorem Zbq (hu:X.A.units < cLine) (hK:X.K=K:=by rfl):OpR X (compareOp .Eq) (fun x y H Q=>rEq x y H Q∨rEqL K false x y H Q):=by subst hK;exact op_eq.or (Zqj hu)
theorem Zgo (hu:X.A.units < cLine) (hK:X.K=K:=by rfl):OpR X (compareOp .NotEq) (fun x y H Q=>rNe x y H Q∨rEqL K true x y H Q):=by subst hK;exact op_ne.or (Zrm hu)
theorem Zds {e:Expr} {te:TE} (ha:PE X e te) (hK:X.K=K:=by rfl) (he:∀ whole,isTrue e X.env whole=(do let v ← whole;standAt e.pos;holding [v] (truthy v)):=by intro _;rfl):PT X e (tTru K te):=by
 subst hK
 exact Zpj ha he
theorem Zed (hK:X.K=K:=by rfl):CallR X (.type "list") (fun xs H Q=>∃ p ys,xs=[.ref p]∧(SqL K H p ys∨SqT K H p ys)∧∀ l,H l=none→Q (.ref l) (upd H l (.lst ys))):=by subst hK;exact Zku
theorem Zdx (hK:X.K=K:=by rfl):CallR X (.builtin "isinstance") (fun xs H Q=>∃ x n t b,xs=[x,.ty n]∧TyOf K H x t∧PySem.W.kitOne K t (.type n)=some b∧Q (.bl b) H):=by subst hK;exact Zpg
theorem Zcc (hK:X.K=K:=by rfl):SlR X (rSlL K):=by subst hK;exact Zrb
theorem Zfj {tg l:Expr} {tl:TE} (hl:PE X l tl) (hK:X.K=K:=by rfl):PI X tg l (iList K tl):=by subst hK;exact Zqx hl
end
end Pu
namespace Pu
open PySem PySem.Spec PyProof.Rows L2 Own M
section
variable {P:Program} {w:World} {K:PySem.W.Frag} {mg:Str→Option Value} {base:Heap} {H H':Hp}
theorem Rp.scr_inv {ns:List Int} {v:V} (h:Rp K H (.scr ns) v):∃ a,v=.ref a∧SqL K H a (ns.map V.int):=by
 cases h with
 | scr h=>exact ⟨_,rfl,h⟩
theorem Zk3:∀ (ns:List Int),imms (ns.map D.int)=true
 | []=>by unfold List.map imms;rfl
 | n :: r=>by rw [List.map_cons];unfold imms;rw [Zk3 r];unfold imm;rfl
theorem Zpb (p:Int×Int):imm (prD p)=true:=by unfold prD imm imms imm imms imm imms;rfl
theorem Zb7:∀ (ps:List (Int×Int)),imms (ps.map prD)=true
 | []=>by unfold List.map imms;rfl
 | p :: r=>by rw [List.map_cons];unfold imms;rw [Zb7 r,Zpb];rfl
theorem Zma {α:Type} {f:α→D} {xs:List α} {i:Nat} (h:i < xs.length):(xs.map f).getD i .non=f xs[i]:=by
 rw [List.getD_eq_getElem?_getD,List.getElem?_map,List.getElem?_eq_getElem h]
 rfl
theorem Zit {α:Type} {f:α→D} {xs:List α} {i:Int} (h0:0≤i) (h:i < (xs.length:Int)):atI (xs.map f) i=some (f (xs[i.toNat]'(by omega))):=by
 have h':i.toNat < xs.length:=by omega
 exact Zj0 (Zi3 h0 (List.getElem?_eq_getElem h'))
theorem Zp9 {α:Type} {f:α→D} {xs:List α} {i:Nat} (h:i < xs.length):atI (xs.map f) (i:Int)=some (f xs[i]):=Zj0 (Zle (List.getElem?_eq_getElem h))
theorem Zn9 {α:Type} {φ:List (Option Nat)} {γ:Γ} {g:PTG} {c:PTT} {e:PTE} {s:S} {R:S→Prop} {xs:List α} {emb:α→D} (f:α→Option D) (hz:xs.length≤100000)
  (turn:∀ x∈xs,g (s.sub (emb x)) (atP φ γ) fun γ2=>c γ2 (fun b=>if b=true then e γ2 (fun s=>∃ d,s.shd=some d∧f x=some d) (fun _=>False) else f x=none) fun _=>False)
  (done:R (.own (xs.filterMap f))) :
  CompW φ γ g c e (xs.map emb).length (fun i=>s.sub ((xs.map emb).getD i .non)) R:=by
 rw [List.length_map]
 refine ⟨⟨hz,fun i=>(xs[i]?).bind f,fun i hi=>?_,by rw [Zie];exact done⟩⟩
 have e1:(xs[i]?).bind f=f xs[i]:=by rw [List.getElem?_eq_getElem hi];rfl
 have t:=turn xs[i] (List.getElem_mem hi)
 rw [← e1] at t
 rw [← Zma (f:=emb) hi] at t
 exact t
theorem Zmf {φ:List (Option Nat)} {γ:Γ} {g:PTG} {c:PTT} {e:PTE} {item:Nat→S} {R:S→Prop} {n:Nat} (f:Nat→Option D) (hz:n≤100000)
  (turn:∀ i,i < n→g (item i) (atP φ γ) fun γ2=>c γ2 (fun b=>if b=true then e γ2 (fun s=>∃ d,s.shd=some d∧f i=some d) (fun _=>False) else f i=none) fun _=>False)
  (done:R (.own ((List.range n).filterMap f))) :
  CompW φ γ g c e n item R:=⟨⟨hz,f,turn,done⟩⟩
theorem Zn7 {α:Type} {js:List Nat} {γ:Γ} {g:PTG} {body:PTS} {s:S} {R:PEnds} {xs:List α} {emb:α→D} (inv:Nat→Γ→Prop) (h0:inv 0 (clr js γ))
  (turn:∀ (i:Nat) (hi:i < xs.length) γ',inv i γ'→g (s.sub (emb xs[i])) γ' fun γ2=>body { R with nx:=fun γ3=>inv (i + 1) (clr js γ3),ct:=fun γ3=>inv (i + 1) (clr js γ3),bk:=R.nx } γ2)
  (done:∀ γ',inv xs.length γ'→R.nx γ') :
  ForW js γ g body R (xs.map emb).length (fun i=>s.sub ((xs.map emb).getD i .non)):=by
 refine ⟨⟨inv,h0,fun i γ' hi h=>?_,fun γ' h=>?_⟩⟩
 ·rw [List.length_map] at hi
  have t:=turn i hi γ' h
  rw [← Zma (f:=emb) hi] at t
  exact t
 ·rw [List.length_map] at h
  exact done γ' h
theorem Zg3 {js:List Nat} {γ:Γ} {g:PTG} {body:PTS} {R:PEnds} {n:Nat} {item:Nat→S} (inv:Nat→Γ→Prop) (h0:inv 0 (clr js γ))
  (turn:∀ (i:Nat) γ',i < n→inv i γ'→g (item i) γ' fun γ2=>body { R with nx:=fun γ3=>inv (i + 1) (clr js γ3),ct:=fun γ3=>inv (i + 1) (clr js γ3),bk:=R.nx } γ2)
  (done:∀ γ',inv n γ'→R.nx γ'):ForW js γ g body R n item:=⟨⟨inv,h0,turn,done⟩⟩
theorem Ze8 {p q:PTS} {R:PEnds} {γ:Γ} (J:Γ→Prop) (h1:p { R with nx:=J } γ) (h2:∀ γ',J γ'→q R γ'):JoinW p q R γ:=⟨⟨J,h1,h2⟩⟩
theorem pickD {α:Type} (c:α→Bool) (emb:α→D):∀ ws:List α,ws.filterMap (fun q=>if c q=true then some (emb q) else none)=(ws.filter c).map emb
 | []=>rfl
 | q :: r=>by
  by_cases h:c q=true
  ·rw [List.filterMap_cons_some (b:=emb q) (by rw [if_pos h]),List.filter_cons_of_pos h,List.map_cons,pickD c emb r]
  ·rw [List.filterMap_cons_none (by rw [if_neg h]),List.filter_cons_of_neg h,pickD c emb r]
theorem mapD {α:Type} (emb:α→D) (ws:List α):ws.filterMap (fun q=>some (emb q))=ws.map emb:=by rw [List.filterMap_eq_map']
theorem Zfu {α:Type} (f:α→D) (xs:List α) (lo hi:Option Int):cutD (xs.map f) lo hi=(cutD xs lo hi).map f:=by
 unfold cutD
 rw [List.length_map,List.map_take,List.map_drop]
theorem Zl0 {α:Type} (xs:List α) {n:Int} (h:0≤n):cutD xs none (some n)=xs.take n.toNat:=by
 unfold cutD
 have e:n=(n.toNat:Int):=by omega
 rw [HT.Zmb,e,HT.Zjt,List.drop_zero]
 rw [Nat.sub_zero,Int.toNat_natCast]
 by_cases c:n.toNat≤xs.length
 ·rw [Nat.min_eq_left c]
 ·rw [Nat.min_eq_right (by omega),List.take_of_length_le (Nat.le_refl _),List.take_of_length_le (by omega)]
theorem Zgh {α:Type} (xs:List α) {n:Int} (h:0≤n):cutD xs (some n) none=xs.drop n.toNat:=by
 unfold cutD
 have e:n=(n.toNat:Int):=by omega
 rw [HT.Zmb,e,HT.Zjt,Int.toNat_natCast]
 by_cases c:n.toNat≤xs.length
 ·rw [Nat.min_eq_left c,List.take_of_length_le (by rw [List.length_drop];omega)]
 ·rw [Nat.min_eq_right (by omega),List.drop_of_length_le (Nat.le_refl _),List.drop_of_length_le (by omega)]
  simp
def lawSp (K:PySem.W.Frag):Sp:=fun vs H Q _=>∃ (a:Addr) (ns:List Int),vs=[.ref a]∧SqL K H a (ns.map V.int)∧∀ H',Q (.bl true) H'
def Zp4:Pc:=fun ds R _=>∃ ns:List Int,ds=[.scr ns]∧R (.sh (.bl true))
theorem Zrr {vs:List V} {Q:VK} {Ec:XK} (h:lawSp K vs H Q Ec):spOf mg Zp4 K vs H Q Ec:=by
 obtain ⟨a,ns,rfl,hS,q⟩:=h
 refine ⟨[.scr ns],fun s=>s=.sh (.bl true),fun _=>False,.cons (.scr hS) .nil,⟨ns,rfl,rfl⟩,fun s v H' e S1 tv=>?_,fun _ _ z=>z.elim⟩
 subst e
 cases tv
 exact q H'
end
end Pu
namespace Pu
open PySem PySem.Spec PyProof.Rows L2 Own M
section
variable {K:PySem.W.Frag} {mg:Str→Option Value} {E:L2.St→XK} {H0 H H1 H':Hp} {B Z Z':Addr→Prop} {σ:L2.St} {γ:Γ}
def scalV:D→Option V
 | .int i=>some (.int i) | .bl b=>some (.bl b) | .non=>some .non | .str x=>some (.str x) | _=>none
theorem Zqz {d:D} {v u:V} (h:Rp K H d v) (e:scalV d=some u):v=u:=by
 cases h with
 | int i=>cases e;rfl
 | bl b=>cases e;rfl
 | non=>cases e;rfl
 | str x=>cases e;rfl
 | _=>cases e
theorem Zcx {α:Type} (d:α) (ds:List α):atI (d :: ds) 0=some d:=Zi3 (by decide) rfl
def em (l:Int) (p:List Int):D:=.lst ((l :: p).map D.int)
end
end Pu
namespace Pu
open PySem PySem.Spec PyProof.Rows L2 Own M
section
variable {K:PySem.W.Frag} {mg:Str→Option Value} {E:L2.St→XK} {H0 H H1 H':Hp} {B Z Z':Addr→Prop} {σ:L2.St} {γ:Γ}
def fSumL:List S→(S→Prop)→Prop
 | [s],R=>∃ ns:List Int,s.d=.lst (ns.map D.int)∧R (.sh (.int ns.sum))
 | _,_=>False
def fEqE (neg:Bool):S→S→(S→Prop)→Prop:=fun x y R=>match x.d,y.d with
 | .lst ds,.lst []=>R (.sh (.bl (if neg then !ds.isEmpty else ds.isEmpty)))
 | _,_=>False
theorem Zo1 {neg:Bool} {ta tb:TE} {a b:PTE} (ha:SndE K mg E ta a) (hb:SndE K mg E tb b):SndE K mg E (tOp (rEqE K neg) ta tb) (p2 a b (fEqE neg)):=by
 refine se_2 ha hb fun H0 H H2 Z x y v u R Q s0 s1 hm tx ty h q=>?_
 have rx:=tx.rp s0
 have ry:=ty.rp s0
 unfold fEqE at h
 split at h
 ·rename_i ds e1 e2
  rw [e1] at rx
  rw [e2] at ry
  obtain ⟨l,us,rfl,hl,r⟩:=rx.lst_inv
  obtain ⟨m,ws,rfl,hm',r'⟩:=ry.lst_inv
  cases r'
  refine ⟨l,m,us,rfl,rfl,SqL.of hl,SqL.of hm',?_⟩
  rw [Zga r.len]
  exact q _ _ H2 h (Same.refl _) (.bl _)
 ·exact h.elim
theorem Zp6 (x y:Int) {k:Int} (h:k=0∨k=1):atI [D.int x,D.int y] k=some (.int (if k=0 then x else y)):=by
 rcases h with rfl | rfl
 ·rfl
 ·rfl
theorem Zd6 {α:Type} (xs:List α) (lo hi:Option Int):(cutD xs lo hi).Sublist xs:=(List.take_sublist _ _).trans (List.drop_sublist _ _)
end
end Pu
namespace Pu
open PySem PySem.Spec PyProof.Rows L2 Own M
section
variable {K:PySem.W.Frag} {mg:Str→Option Value} {E:L2.St→XK} {H0 H H1 H':Hp} {B Z Z':Addr→Prop} {σ:L2.St} {γ:Γ}
theorem EnvR.gone (Ev:EnvR K H0 B H σ γ) (i:Nat):EnvR K H0 B H (σ.set i none) (γ.set i none)∧Fr B H σ γ H (σ.set i none) (γ.set i none):=by
 obtain ⟨e1,f1⟩:=Ev.drop i
 have got:∀ (j:Nat) (s:S),(γ.set i none)[j]?=some (some s)→j≠i:=fun j s h=>by
  rcases Za9 h with ⟨_,e,_⟩ | ⟨n,_⟩
  ·cases e
  ·exact n
 have hz:∀ b,zof B (γ.set i none) (σ.set i none) b↔zof B (γ.set i none) σ b:=fun b=>by
  constructor
  ·rintro (z | ⟨j,ds,x,z1,z2,z3⟩)
   ·exact .inl z
   ·rw [Ze4 (got j _ z1)] at z2
    exact .inr ⟨j,ds,x,z1,z2,z3⟩
  ·rintro (z | ⟨j,ds,x,z1,z2,z3⟩)
   ·exact .inl z
   ·exact .inr ⟨j,ds,x,z1,by rw [Ze4 (got j _ z1)];exact z2,z3⟩
 have ez:zof B (γ.set i none) (σ.set i none)=zof B (γ.set i none) σ:=funext fun b=>propext (hz b)
 refine ⟨⟨e1.same,by rw [List.length_set];exact e1.len,e1.bm,fun k j a a' ds es b h1 h2 h3 h4 h5 h6=>?_,fun j s h=>?_⟩,fun b o h z=>?_⟩
 ·rw [Ze4 (got k _ h1)] at h3
  rw [Ze4 (got j _ h2)] at h4
  exact e1.own k j a a' ds es b h1 h2 h3 h4 h5 h6
 ·obtain ⟨v,h1,h2⟩:=e1.slot j s h
  rw [ez]
  exact ⟨v,by rw [Ze4 (got j _ h)];exact h1,h2⟩
 ·rw [ez]
  exact f1 b o h z
def pTry (mg:Str→Option Value) (cs:List Str) (i:Nat) (pb ph:PTS):PTS:=fun R γ=>pb { R with ex:=fun γ' c=>c∈cs∧ph { nx:=fun g=>R.nx (g.set i none),rt:=R.rt,ex:=fun _ _=>False,bk:=fun g=>R.bk (g.set i none),ct:=fun g=>R.ct (g.set i none),rv:=R.rv } (γ'.set i (some (.sh (.err (ExcR.clsOf mg c))))) } γ
theorem Zqg {i:Nat} {C0:Addr} {tb:Ends→TS} {ts:TS} {pb ph:PTS} {E':L2.St→XK} (cs:List Str) (hcs:∀ c∈cs,ExcR.ErrGet K (ExcR.clsOf mg c)∧PySem.W.exmOne K (.ref (ExcR.clsOf mg c)) (.ref C0)=some true)
  (hb:∀ D,SndS K mg (ExcR.hx K C0 i ts D) (tb D) pb) (hh:SndS K mg E' ts ph):SndS K mg E (fun D σ H=>tb D D σ H) (pTry mg cs i pb ph):=by
 intro H0 B H σ γ R D hB env h e
 refine hb D H0 B H σ γ _ D hB env h ⟨e.nx,e.rt,fun σ' γ' c H' hc e' f'=>?_,e.bk,e.ct,e.rv⟩
 obtain ⟨hin,hp⟩:=hc
 obtain ⟨k1,k2⟩:=hcs c hin
 refine ⟨_,rfl,k1,k2,fun a na=>?_⟩
 have S1:=Zcq (o:=ExcR.ErrH a (ExcR.clsOf mg c)) na
 have tv:TV K (zof B γ' σ') H0 H' (upd H' a (ExcR.ErrH a (ExcR.clsOf mg c))) (.sh (.err (ExcR.clsOf mg c))) (.ref a):=.err (Zcb Zbg fun z=>by have:=e'.zm a z;rw [na] at this;exact this)
 obtain ⟨e2,f2⟩:=e'.set (i:=i) S1 tv rfl
 have f12:=f'.trans f2
 refine hh H0 B _ _ _ _ _ hB e2 hp ⟨fun σ3 γ3 H3 q3 e3 f3=>?_,e.rt,fun _ _ _ _ z=>z.elim,fun σ3 γ3 H3 q3 e3 f3=>?_,fun σ3 γ3 H3 q3 e3 f3=>?_,fun σ3 γ3 d v H3 q3 e3 f3=>e.rv σ3 γ3 d v H3 q3 e3 (f12.trans f3)⟩
 ·obtain ⟨e4,f4⟩:=e3.gone i
  exact e.nx _ _ H3 q3 e4 (f12.trans (f3.trans f4))
 ·obtain ⟨e4,f4⟩:=e3.gone i
  exact e.bk _ _ H3 q3 e4 (f12.trans (f3.trans f4))
 ·obtain ⟨e4,f4⟩:=e3.gone i
  exact e.ct _ _ H3 q3 e4 (f12.trans (f3.trans f4))
theorem Zej {a:Addr}:SndE K mg E (tC (.ref a)) (pC (.ref a)):=se_c fun _=>.ref a
def fIsiE (K:PySem.W.Frag):List S→(S→Prop)→Prop
 | [s,t],R=>(match s.d,t.d with
  | .err C,.ref C'=>∃ b,ExcR.ErrGet K C∧PySem.W.kitOne K (.ref C) (.ref C')=some b∧R (.sh (.bl b))
  | .err C,.ty n=>∃ b,ExcR.ErrGet K C∧PySem.W.kitOne K (.ref C) (.type n)=some b∧R (.sh (.bl b))
  | _,_=>False)
 | _,_=>False
theorem Rp.err_inv {C:Addr} {v:V} (h:Rp K H (.err C) v):∃ a,v=.ref a∧H a=some (ExcR.ErrH a C):=by
 cases h with
 | err h=>exact ⟨_,rfl,h⟩
theorem Rp.ref_inv {a:Addr} {v:V} (h:Rp K H (.ref a) v):v=.ref a:=by cases h;rfl
theorem Zcm {ta:TA} {r:PTA} (hr:SndA K mg E ta r):SndE K mg E (tCB (fun xs H Q=>∃ (a C:Addr) (c:V) (b:Bool),xs=[.ref a,c]∧H a=some (ExcR.ErrH a C)∧ExcR.ErrGet K C∧(∃ cv:Value,(∀ u,RelV c u→u=cv)∧PySem.W.kitOne K (.ref C) cv=some b)∧Q (.bl b) H) ta) (pCB (fIsiE K) r):=by
 refine Zkf hr fun H0 H H1 Z ss vs R Q s0 s1 hm tv h q=>?_
 unfold fIsiE at h
 split at h
 ·obtain ⟨v,u,rfl,t1,t2⟩:=tv.two_inv
  have r1:=t1.rp s0
  have r2:=t2.rp s0
  split at h
  ·rename_i C C' e1 e2
   rw [e1] at r1
   rw [e2] at r2
   obtain ⟨a,rfl,ha⟩:=r1.err_inv
   obtain ⟨b,h1,h2,h3⟩:=h
   rw [r2.ref_inv]
   exact ⟨a,C,_,b,rfl,ha,h1,⟨.ref C',fun u hu=>hu,h2⟩,q _ _ H1 h3 (Same.refl _) (.bl _)⟩
  ·rename_i C n e1 e2
   rw [e1] at r1
   rw [e2] at r2
   obtain ⟨a,rfl,ha⟩:=r1.err_inv
   obtain ⟨b,h1,h2,h3⟩:=h
   rw [r2.ty_inv]
   exact ⟨a,C,_,b,rfl,ha,h1,⟨.type n,fun u hu=>hu,h2⟩,q _ _ H1 h3 (Same.refl _) (.bl _)⟩
  ·exact h.elim
 ·exact h.elim
def pSetI (i:Nat) (b a:PTE):PTS:=fun R γ=>match γ[i]? with
 | some (some (.own (.lst ds)))=>a γ (fun s=>b γ (fun y=>match y.d with
   | .int k=>∃ j d,ixN ds.length k=some j∧s.shd=some d∧R.nx (γ.set i (some (.own (.lst (ds.set j d)))))
   | _=>False) (R.ex γ)) (R.ex γ)
 | some (some (.own (.lsA x ds)))=>a γ (fun s=>b γ (fun y=>match y.d with
   | .int k=>∃ j d,ixN ds.length k=some j∧s.shd=some d∧R.nx (γ.set i (some (.own (.lsA x (ds.set j d)))))
   | _=>False) (R.ex γ)) (R.ex γ)
 | _=>False
theorem Rps.set {d:D} {v:V} (h:Rp K H d v):∀ {ds:List D} {vs:List V} (j:Nat),Rps K H ds vs→Rps K H (ds.set j d) (vs.set j v)
 | _,_,_,.nil=>.nil
 | _,_,0,.cons _ r=>.cons h r
 | _,_,j + 1,.cons k r=>.cons k (Rps.set h j r)
def fRep:S→S→(S→Prop)→Prop:=fun x y R=>match x.d,y.d with
 | .lst ds,.int k=>x.free ds=true∧(-(2 ^ 63)≤k∧k < 2 ^ 63)∧ds.length * k.toNat≤10000000∧R (.own (.lst (List.replicate k.toNat ds).flatten))
 | _,_=>False
def scalVs:List D→Option (List V)
 | []=>some []
 | d :: r=>match scalV d,scalVs r with
  | some v,some vs=>some (v :: vs)
  | _,_=>none
theorem Zhv:∀ {ds:List D} {vs us:List V},Rps K H ds vs→scalVs ds=some us→vs=us
 | [],_,_,.nil,e=>by cases e;rfl
 | d :: r,_,us,.cons h t,e=>by
  unfold scalVs at e
  split at e
  ·rename_i v vs e1 e2
   cases e
   rw [Zqz h e1,Zhv t e2]
  ·cases e
def fEqV (neg:Bool):S→S→(S→Prop)→Prop:=fun x y R=>match x.d,y.d with
 | .lst ds,.lst es=>∃ us ws,scalVs ds=some us∧scalVs es=some ws∧us.all flatV=true∧ws.all flatV=true∧R (.sh (.bl (if neg then !eqL us ws else eqL us ws)))
 | _,_=>False
theorem Znn {neg:Bool} {ta tb:TE} {a b:PTE} (ha:SndE K mg E ta a) (hb:SndE K mg E tb b):SndE K mg E (tOp (rEqL K neg) ta tb) (p2 a b (fEqV neg)):=by
 refine se_2 ha hb fun H0 H H2 Z x y v u R Q s0 s1 hm tx ty h q=>?_
 unfold fEqV at h
 have rx:=tx.rp s0
 have ry:=ty.rp s0
 split at h
 ·rename_i ds es e1 e2
  rw [e1] at rx
  rw [e2] at ry
  obtain ⟨us,ws,h1,h2,h3,h4,h5⟩:=h
  obtain ⟨l,vs,rfl,hl,r⟩:=rx.lst_inv
  obtain ⟨m,vs',rfl,hm',r'⟩:=ry.lst_inv
  rw [Zhv r h1] at hl
  rw [Zhv r' h2] at hm'
  exact ⟨l,m,us,ws,rfl,rfl,SqL.of hl,SqL.of hm',h3,h4,q _ _ H2 h5 (Same.refl _) (.bl _)⟩
 ·exact h.elim
theorem Zlk {X:Cx} (hu:X.A.units < cLine) (hK:X.K=K:=by rfl):OpR X (compareOp .Eq) (rEqL K false):=by subst hK;exact Zqj hu
end
end Pu
namespace PySem
open Sem (wp)
section
variable {prog:Program} {w:World} {K:Type} {A:Around} {E:Value→Shared→Prop} {s:Shared}
end
end PySem
namespace Own
open PySem PySem.Spec PyProof.Rows L2
section
variable {X:Cx} {K:PySem.W.Frag}
end
end Own
namespace Own
open PySem PySem.Spec PyProof.Rows L2
section
variable {prog:Program} {w:World} {A:Around} {K:Type} {d r:Addr} {kvs:List (K×Value)} {ep:Nat} {h h':Heap}
end
section
variable {X:Cx}
end
end Own
namespace Pu
open PySem PySem.Spec PyProof.Rows L2 Own M
section
variable {K:PySem.W.Frag} {mg:Str→Option Value} {E:L2.St→XK} {H0 H H1 H':Hp} {B Z Z':Addr→Prop} {σ:L2.St} {γ:Γ}
end
section
variable {X:Cx} {K:PySem.W.Frag}
end
end Pu
namespace M
open PySem PySem.Spec PyProof.Rows L2 Own Pu
def oc (c:Int→Int→Int):List Int→Int
 | []=>0
 | a :: r=>(r.map (c a)).sum + oc c r
end M
namespace Own
open PySem PySem.Spec PyProof.Rows L2 PySem.SeqAt PySem.MeetsSeq PySem.MeetsSeq2 PySem.MeetsSeq3 PySem.SeqRoads2
open AutoSeq1 (wpAny_loadPart')
end Own
namespace Own
open PySem PySem.Spec PyProof.Rows L2
section
variable {X:Cx} {K:PySem.W.Frag}
end
end Own
namespace Pu
open PySem PySem.Spec PyProof.Rows L2 Own M
section
variable {K:PySem.W.Frag} {mg:Str→Option Value} {E:L2.St→XK}
end
end Pu
namespace Pu
open PySem PySem.Spec PyProof.Rows L2 Own
section
variable {K:PySem.W.Frag} {mg:Str→Option Value} {E:L2.St→XK} {H0 H H1 H':Hp} {B Z Z':Addr→Prop} {σ:L2.St} {γ:Γ}
def O.from:O→O→Prop
 | .ins x _ _ cs,.ins x' _ _ cs'=>x'=x∧∀ c∈cs,∃ c'∈cs',c'.1=c.1
 | .lsA x _,.lsA x' _=>x'=x
 | _,_=>False
theorem O.from_adr {o o':O} {a:Addr} (h:o.from o'):∀ b,o.adr a b→o'.adr a b:=by
 unfold O.from at h
 split at h
 ·intro b hb
  rcases hb with hb | ⟨c,hc,hb⟩
  ·exact .inl (hb.trans h.1.symm)
  ·obtain ⟨c',q1,q2⟩:=h.2 c hc
   exact .inr ⟨c',q1,hb.trans q2.symm⟩
 ·intro b hb
  exact (show b=_ from hb).trans h.symm
 ·exact h.elim
theorem O.from_at {o o':O} {a a':Addr} {F F' H H':Hp} (h:o.from o') (h1:OR K F H a o) (h2:OR K F' H' a' o'):a'=a:=by
 unfold O.from at h
 split at h
 ·exact h2.1.trans (h.1.trans h1.1.symm)
 ·exact h2.1.trans (h.trans h1.1.symm)
 ·exact h.elim
abbrev Pw:=O→List S→(O→D→Prop)→(O→Str→Prop)→Prop
def S.pass:S→Option S
 | .sh d=>some (.sh d) | .own o=>some (.sh o.d)
 | .bor d=>match imm d with | true=>some (.sh d) | false=>some (.bor d)
 | .tmp d=>match imm d with | true=>some (.sh d) | false=>none
 | .view _=>none
def S.flat:S→Prop
 | .sh _=>True | .bor _=>True | _=>False
def passes:List S→Option (List S)
 | []=>some []
 | s :: r=>match s.pass,passes r with | some s',some r'=>some (s' :: r') | _,_=>none
structure After (K:PySem.W.Frag) (B:Addr→Prop) (H:Hp) (a:Addr) (o o':O) (H':Hp):Prop where
 same:Same (off (o.adr a) H) H'
 old:∀ b,o.adr a b→o'.adr a b
 new:∀ b,o'.adr a b→o.adr a b∨H b=none
 at_:OR K (off (fun b=>B b∨o'.adr a b) H') H' a o'
def spW (mg:Str→Option Value) (c:Pw) (K:PySem.W.Frag):Sp:=fun vs H Q E=>∃ (o:O) (a:Addr) (ss:List S) (us:List V) (B:Addr→Prop) (R:O→D→Prop) (X:O→Str→Prop),
 vs=.ref a :: us∧(∀ b,B b→Mut (H b)∧¬ o.adr a b)∧OR K (off (fun b=>B b∨o.adr a b) H) H a o∧TVs K (fun b=>B b∨o.adr a b) (off (o.adr a) H) H H ss us∧(∀ s∈ss,s.flat)∧c o ss R X∧
 (∀ o' d v H',R o' d→After K B H a o o' H'→Rp K (off (fun b=>B b∨o'.adr a b) H') d v→Q v H')∧∀ o' e H',X o' e→After K B H a o o' H'→E (.ref (ExcR.clsOf mg e)) none H'
theorem TVs.get:∀ {ss:List S} {vs:List V} {i:Nat} {s:S},TVs K Z H0 H H' ss vs→ss[i]?=some s→∃ v,vs[i]?=some v∧TV K Z H0 H H' s v
 | _,_,_,_,.nil,e=>by simp at e
 | _,_,0,_,.cons h _,e=>by simp at e;subst e;exact ⟨_,rfl,h⟩
 | _,_,i + 1,s,.cons _ r,e=>by
  obtain ⟨v,h1,h2⟩:=TVs.get (i:=i) (s:=s) r (by simpa using e)
  exact ⟨v,by simpa using h1,h2⟩
def startW (N:List Str) (o:O) (ss:List S):Γ:=some (.own o) :: (ss.map some++List.replicate (N.length - (ss.length + 1)) none)
theorem Zm6 {N:List Str} {o:O} {a:Addr} {ss:List S} {us:List V} (hB:∀ b,B b→Mut (H b)∧¬ o.adr a b) (ho:OR K (off (fun b=>B b∨o.adr a b) H) H a o) (r:TVs K (fun b=>B b∨o.adr a b) (off (o.adr a) H) H H ss us) (hf:∀ s∈ss,s.flat) (hn:ss.length + 1≤N.length) :
  EnvR K (off (o.adr a) H) B H (start N (.ref a :: us)) (startW N o ss):=by
 have hlen:=r.len
 have get:∀ (i:Nat) (s:S),(startW N o ss)[i + 1]?=some (some s)→ss[i]?=some s:=fun i s h=>by
  unfold startW at h
  rw [List.getElem?_cons_succ] at h
  by_cases hi:i < ss.length
  ·rw [List.getElem?_append_left (by rw [List.length_map];exact hi),List.getElem?_map,List.getElem?_eq_getElem hi] at h
   rw [List.getElem?_eq_getElem hi]
   exact congrArg some (Option.some.inj (Option.some.inj h))
  ·rw [List.getElem?_append_right (by rw [List.length_map];omega),List.getElem?_replicate] at h
   split at h<;>cases h
 have noown:∀ (i:Nat) (es:O),(startW N o ss)[i + 1]?≠some (some (.own es)):=fun i es h=>hf _ (List.mem_of_getElem? (get i _ h))
 have st0:(start N (V.ref a :: us))[0]?=some (some (.ref a)):=by
  unfold L2.start
  rfl
 have hz:∀ b,zof B (startW N o ss) (start N (V.ref a :: us)) b→B b∨o.adr a b:=fun b z=>by
  rcases z with z | ⟨i,es,a',h1,h2,h3⟩
  ·exact .inl z
  ·cases i with
   | zero=>
    rw [st0] at h2
    cases h2
    have:o=es:=by
     have h1:some (some (S.own o))=some (some (S.own es)):=h1
     cases h1
     rfl
    subst this
    exact .inr h3
   | succ i=>exact absurd h1 (noown i es)
 refine ⟨off_sub,?_,fun b h=>(hB b h).1,fun i j x x' es es' b h1 h2 _ _ _ _=>?_,fun i s h=>?_⟩
 ·unfold L2.start startW
  simp [hlen]
 ·cases i with
  | succ i=>exact absurd h1 (noown i es)
  | zero=>
   cases j with
   | zero=>rfl
   | succ j=>exact absurd h2 (noown j es')
 ·cases i with
  | zero=>
   have h:some (some (S.own o))=some (some s):=h
   cases h
   refine ⟨_,st0,a,rfl,fun b hb=>?_,ho.mono (Zau (Same.refl _) fun b _ _ z y=>z (hz b y)) fun _ _ _ q=>q⟩
   unfold off
   rw [if_pos hb]
  | succ i=>
   have hs:=get i s h
   obtain ⟨v,hv,tv⟩:=r.get hs
   refine ⟨v,?_,?_⟩
   ·unfold L2.start
    rw [List.getElem?_append_left (by rw [List.length_map,List.length_cons];have:=(List.getElem?_eq_some_iff.mp hv).1;omega),List.getElem?_map,List.getElem?_cons_succ,hv]
    rfl
   ·have:=hf s (List.mem_of_getElem? hs)
    cases s with
    | bor d=>exact tv
    | sh d=>exact Rp.mono (Zau (Same.refl _) fun b _ _ z y=>z (hz b y)) tv
    | own _=>exact this.elim
    | view _=>exact this.elim
    | tmp _=>exact this.elim
def finW (o:O) (R:O→D→Prop) (γ:Γ) (d:D):Prop:=∃ o',γ[0]?=some (some (.own o'))∧o.from o'∧R o' d
def finX (o:O) (X:O→Str→Prop) (γ:Γ) (e:Str):Prop:=∃ o',γ[0]?=some (some (.own o'))∧o.from o'∧X o' e
def endsW (o:O) (R:O→D→Prop) (X:O→Str→Prop):PEnds:={ nx:=fun γ=>finW o R γ .non,rt:=fun _=>False,ex:=finX o X,rv:=finW o R }
theorem Zjm {a:Addr} {o o':O} {σ':L2.St} {γ':Γ} (ho:OR K (off (fun b=>B b∨o.adr a b) H) H a o) (e:EnvR K (off (o.adr a) H) B H' σ' γ') (h:γ'[0]?=some (some (.own o'))) (k:o.from o'):After K B H a o o' H'∧∀ b,B b∨o'.adr a b→zof B γ' σ' b:=by
 obtain ⟨v,h1,a',rfl,h2,h3⟩:=e.slot 0 _ h
 have ea:=O.from_at k ho h3
 subst ea
 have hz:∀ b,B b∨o'.adr a' b→zof B γ' σ' b:=fun b z=>z.imp id fun z=>⟨0,o',a',h,h1,z⟩
 refine ⟨⟨e.same,O.from_adr k,fun b hb=>?_,h3.mono (Zau (Same.refl _) fun b _ _ z y=>z (hz b y)) fun _ _ _ q=>q⟩,hz⟩
 have:=h2 b hb
 unfold off at this
 by_cases q:o.adr a' b
 ·exact .inl q
 ·rw [if_neg q] at this
  exact .inr this
theorem Zd8 {c:Pw} {N:List Str} {t:TS} {p:PTS} {vs:List V} {Q:VK} {Ec:XK} {n:Nat} (h:spW mg c K vs H Q Ec) (snd:SndS K mg (fun _=>Ec) t p) (hn:n + 1≤N.length)
  (hp:∀ o ss R X,c o ss R X→ss.length=n∧p (endsW o R X) (startW N o ss)):t { nx:=fun _ H'=>Q .non H',rt:=Q } (start N vs) H:=by
 obtain ⟨o,a,ss,us,B,R,X,rfl,hB,ho,r,hf,hc,hQ,hX⟩:=h
 obtain ⟨e,hp⟩:=hp o ss R X hc
 have env:=Zm6 (N:=N) hB ho r hf (by rw [e];exact hn)
 refine snd _ B H _ _ _ _ (fun b z=>?_) env hp ⟨fun σ' γ' H' h1 e1 f1=>?_,fun _ _ _ z=>z.elim,fun σ' γ' c H' h1 e1 f1=>?_,fun _ _ _ z=>z.elim,fun _ _ _ z=>z.elim,fun σ' γ' d v H' h1 e1 f1 rd=>?_⟩
 ·obtain ⟨q1,q2⟩:=hB b z
  obtain ⟨x,hx⟩:=Zdp q1
  exact ⟨x,Zcb hx q2⟩
 ·obtain ⟨o',q1,q2,q3⟩:=h1
  exact hQ o' .non .non H' q3 (Zjm ho e1 q1 q2).1 .non
 ·obtain ⟨o',q1,q2,q3⟩:=h1
  exact hX o' c H' q3 (Zjm ho e1 q1 q2).1
 ·obtain ⟨o',q1,q2,q3⟩:=h1
  obtain ⟨k1,k2⟩:=Zjm ho e1 q1 q2
  exact hQ o' d v H' q3 k1 (Rp.mono (Zau (Same.refl _) fun b _ _ z y=>z (k2 b y)) rd)
theorem Ze {c:Pw} {vs:List V} {Q:VK} {Ec:XK} {n:Nat} (h:spW mg c K vs H Q Ec) (hn:∀ o ss R X,c o ss R X→ss.length=n):vs.length=n + 1:=by
 obtain ⟨o,a,ss,us,B,R,X,rfl,_,_,r,_,hc,_⟩:=h
 rw [List.length_cons,r.len,hn o ss R X hc]
abbrev PTW:=Γ→(Γ→D→Prop)→(Γ→Str→Prop)→Prop
def SndW (K:PySem.W.Frag) (mg:Str→Option Value) (E:L2.St→XK) (t:TE) (p:PTW):Prop:=∀ (H0:Hp) (B:Addr→Prop) (H:Hp) (σ:L2.St) (γ:Γ) (R:Γ→D→Prop) (X:Γ→Str→Prop) (Q:VK),(∀ b,B b→∃ o,H0 b=some o)→EnvR K H0 B H σ γ→p γ R X→
 (∀ γ' d v H',R γ' d→EnvR K H0 B H' σ γ'→Fr B H σ γ H' σ γ'→Rp K (off (zof B γ' σ) H') d v→Q v H')→(∀ γ' c H',X γ' c→EnvR K H0 B H' σ γ'→Fr B H σ γ H' σ γ'→E σ (.ref (ExcR.clsOf mg c)) none H')→t σ H Q
variable {te:TE} {w:PTW}
def pAsgW (w:PTW) (g:PTG):PTS:=fun R γ=>w γ (fun γ' d=>g (.sh d) γ' R.nx) R.ex
theorem Zjn {is:List Nat} {g:TG} {pg:PTG} (hw:SndW K mg E te w) (hg:SndGi K is g pg):SndS K mg E (tAsg te g) (pAsgW w pg):=by
 intro H0 B H σ γ R D hB env h e
 refine hw H0 B H σ γ _ _ _ hB env h (fun γ' d v H1 h1 e1 f1 rd=>?_) fun γ' c H' hc e' f'=>e.ex σ γ' c H' hc e' f'
 exact hg H0 B H1 H1 σ γ' (.sh d) v _ _ e1 (Same.refl _) rd h1 fun σ2 γ2 h2 e2 f2 _=>e.nx σ2 γ2 H1 h2 e2 (f1.trans f2)
def pDropW (w:PTW):PTS:=fun R γ=>w γ (fun γ' _=>R.nx γ') R.ex
theorem Zgg (hw:SndW K mg E te w):SndS K mg E (tDrop te) (pDropW w):=by
 intro H0 B H σ γ R D hB env h e
 exact hw H0 B H σ γ _ _ _ hB env h (fun γ' d v H1 h1 e1 f1 _=>e.nx σ γ' H1 h1 e1 f1) fun γ' c H' hc e' f'=>e.ex σ γ' c H' hc e' f'
def pRetWW (w:PTW):PTS:=fun R γ=>w γ R.rv R.ex
theorem Zch (hw:SndW K mg E te w):SndS K mg E (tRet te) (pRetWW w):=by
 intro H0 B H σ γ R D hB env h e
 exact hw H0 B H σ γ _ _ _ hB env h (fun γ' d v H1 h1 e1 f1 rd=>e.rv σ γ' d v H1 h1 e1 f1 rd) fun γ' c H' hc e' f'=>e.ex σ γ' c H' hc e' f'
def pRetW (a:PTE):PTS:=fun R γ=>a γ (fun s=>match s.shd with | some d=>R.rv γ d | none=>False) (R.ex γ)
theorem Zg2 {a:PTE} (ha:SndE K mg E te a):SndS K mg E (tRet te) (pRetW a):=by
 intro H0 B H σ γ R D hB env h e
 refine ha H0 B H σ γ _ _ _ env h (fun s v H1 h1 S1 t1=>?_) fun c H' hc S'=>e.ex σ γ c H' hc (env.grow S') (Fr.grow S')
 split at h1
 ·rename_i d ed
  exact e.rv σ γ d v H1 h1 (env.grow S1) (Fr.grow S1) (t1.shd (env.grow S1).same env.zm S1 ed)
 ·exact h1.elim
theorem Zoi {s s':S} (h:s.pass=some s'):s'.flat:=by
 cases s with
 | sh d=>cases h;trivial
 | own o=>cases h;trivial
 | bor d=>unfold S.pass at h;cases q:imm d<;>simp [q] at h<;>subst h<;>trivial
 | tmp d=>
  unfold S.pass at h
  cases q:imm d<;>simp [q] at h
  subst h;trivial
 | view o=>cases h
theorem Zdr:∀ {ss ss':List S},passes ss=some ss'→∀ s∈ss',s.flat
 | [],_,h=>by cases h;simp
 | s :: r,_,h=>by
  unfold passes at h
  split at h
  ·rename_i s1 r1 e1 e2
   cases h
   intro x hx
   rcases List.mem_cons.mp hx with rfl | hx
   ·exact Zoi e1
   ·exact Zdr e2 x hx
  ·cases h
theorem TV.pass {s s':S} {v:V} {P W:Addr→Prop} {HB:Hp} (h0:Same H0 H') (hm:∀ b,Z b→Mut (H b)) (S1:Same H H') (hb:Same H0 (off P HB)) (hs:Same (off Z H') (off W HB)) (h:TV K Z H0 H H' s v) (e:s.pass=some s'):TV K W (off P HB) HB HB s' v:=by
 have shd:∀ d,s.shd=some d→Rp K (off W HB) d v:=fun d ed=>Rp.mono hs (h.shd h0 hm S1 ed)
 cases s with
 | sh d=>cases e;exact shd _ rfl
 | own o=>cases e;exact shd _ rfl
 | view o=>cases e
 | tmp d=>
  unfold S.pass at e
  cases q:imm d with
  | false=>simp [q] at e
  | true=>simp [q] at e;subst e;exact shd d (by unfold S.shd;simp [q])
 | bor d=>
  unfold S.pass at e
  cases q:imm d with
  | false=>simp [q] at e;subst e;exact Rp.mono hb h
  | true=>simp [q] at e;subst e;exact shd d (by unfold S.shd;simp [q])
theorem TVs.pass {P W:Addr→Prop} {HB:Hp} (h0:Same H0 H') (hm:∀ b,Z b→Mut (H b)) (S1:Same H H') (hb:Same H0 (off P HB)) (hs:Same (off Z H') (off W HB)):∀ {ss ss':List S} {vs:List V},TVs K Z H0 H H' ss vs→passes ss=some ss'→TVs K W (off P HB) HB HB ss' vs
 | _,_,_,.nil,e=>by cases e;exact .nil
 | _,_,_,.cons h r,e=>by
  unfold passes at e
  split at e
  ·rename_i s1 r1 e1 e2
   cases e
   exact .cons (h.pass h0 hm S1 hb hs e1) (TVs.pass h0 hm S1 hb hs r e2)
  ·cases e
theorem callW {c:Pw} {i:Nat} {o:O} {a:Addr} {ss ss':List S} {us:List V} {R:Γ→D→Prop} {X:Γ→Str→Prop} {Q:VK} {Ec:XK} (env:EnvR K H0 B H σ γ) (hB:∀ b,B b→∃ o,H0 b=some o) (S1:Same H H1) (hi:γ[i]?=some (some (.own o))) (ha:σ[i]?=some (some (.ref a)))
  (t1:TVs K (zof B γ σ) H0 H H1 ss us) (hp:passes ss=some ss') (hc:c o ss' (fun o' d=>R (γ.set i (some (.own o'))) d) (fun o' e=>X (γ.set i (some (.own o'))) e))
  (q:∀ γ' d v H',R γ' d→EnvR K H0 B H' σ γ'→Fr B H σ γ H' σ γ'→Rp K (off (zof B γ' σ) H') d v→Q v H') (qx:∀ γ' c H',X γ' c→EnvR K H0 B H' σ γ'→Fr B H σ γ H' σ γ'→Ec (.ref (ExcR.clsOf mg c)) none H'):spW mg c K (.ref a :: us) H1 Q Ec:=by
 have env1:=env.grow S1
 obtain ⟨v,h1,a',ev,h3,h4⟩:=env1.slot i _ hi
 rw [ha] at h1
 cases h1
 cases ev
 have za:∀ b,o.adr a b→zof B γ σ b:=fun b hb=>.inr ⟨i,o,a,hi,ha,hb⟩
 have aft:∀ o' H',After K (fun b=>zof B γ σ b∧¬ o.adr a b) H1 a o o' H'→EnvR K H0 B H' σ (γ.set i (some (.own o')))∧Fr B H σ γ H' σ (γ.set i (some (.own o')))∧∀ b x,H' b=some x→¬ ((zof B γ σ b∧¬ o.adr a b)∨o'.adr a b)→¬ zof B (γ.set i (some (.own o'))) σ b:=fun o' H' A=>by
  have hzz:∀ b x,H' b=some x→¬ ((zof B γ σ b∧¬ o.adr a b)∨o'.adr a b)→¬ zof B (γ.set i (some (.own o'))) σ b:=fun b x _ n z=>by
   rcases z with z | ⟨j,fs,a',e1,e2,e3⟩
   ·refine n (.inl ⟨.inl z,fun w=>?_⟩)
    obtain ⟨u,hu⟩:=hB b z
    rw [h3 b w] at hu
    cases hu
   ·rcases Za9 e1 with ⟨ej,q,_⟩ | ⟨nj,q⟩
    ·subst ej
     cases q
     rw [ha] at e2
     cases e2
     exact n (.inr e3)
    ·exact n (.inl ⟨.inr ⟨j,fs,a',q,e2,e3⟩,fun w=>nj (env.own j i a' a fs o b q hi e2 ha e3 w)⟩)
  obtain ⟨k1,k2⟩:=env1.change (o':=o') (H':=H') hi ha (fun b x hx n=>A.same b x (Zcb hx n)) (fun b hb=>A.at_.mut b (A.old b hb)) A.new (A.at_.mono (Zau (Same.refl _) fun b x hx z=>hzz b x hx z) fun _ _ _ q=>q)
  exact ⟨k1,(Fr.grow S1).trans k2,hzz⟩
 refine ⟨o,a,ss',us,fun b=>zof B γ σ b∧¬ o.adr a b,_,_,rfl,fun b hb=>⟨env1.zm b hb.1,hb.2⟩,h4.mono (Zau (Same.refl _) fun b _ _ z y=>z (y.elim (fun y=>y.1) (za b))) fun _ _ _ q=>q,?_,Zdr hp,hc,fun o' d v H' hR A rd=>?_,fun o' e H' hX A=>?_⟩
 ·refine t1.pass env1.same env.zm S1 (fun b x hx=>Zcb (env1.same b x hx) fun w=>?_) (Zau (Same.refl _) fun b _ _ z y=>z (y.elim (fun y=>y.1) (za b))) hp
  rw [h3 b w] at hx
  cases hx
 ·obtain ⟨k1,k2,k3⟩:=aft o' H' A
  exact q _ d v H' hR k1 k2 (Rp.mono (fun b x h=>let ⟨p1,p2⟩:=Ze3 h;Zcb p1 (k3 b x p1 p2)) rd)
 ·obtain ⟨k1,k2,_⟩:=aft o' H' A
  exact qx _ e H' hX k1 k2
def pCallW (i:Nat) (c:Pw) (r:PTA):PTW:=fun γ R X=>match γ[i]? with
 | some (some (.own o))=>r γ (fun ss=>match passes ss with | some ss'=>c o ss' (fun o' d=>R (γ.set i (some (.own o'))) d) (fun o' e=>X (γ.set i (some (.own o'))) e) | none=>False) (X γ)
 | _=>False
theorem Zo9 (i:Nat) {c:Pw} {ta:TA} {r:PTA} (hr:SndA K mg E ta r) {Ec:L2.St→XK} (hE:∀ σ,Ec σ=E σ):SndW K mg E (fun σ H Q=>tCons (tVar i) ta σ H fun vs H1=>spW mg c K (vs++[]) H1 Q (Ec σ)) (pCallW i c r):=by
 intro H0 B H σ γ R X Q hB env h q qx
 unfold pCallW at h
 split at h
 ·rename_i o hi
  obtain ⟨v,hv,a,rfl,_,_⟩:=env.slot i _ hi
  refine ⟨_,hv,hr H0 B H σ γ _ _ _ env h (fun ss us H1 h1 S1 t1=>?_) fun c H' hc S'=>qx γ c H' hc (env.grow S') (Fr.grow S')⟩
  show spW mg c K ((V.ref a :: us)++[]) H1 Q (Ec σ)
  rw [List.append_nil,hE]
  split at h1
  ·rename_i ss' ep
   exact callW env hB S1 hi hv t1 ep h1 q qx
  ·exact h1.elim
 ·exact h.elim
theorem Zqk (i:Nat) {c:Pw} {ta:TA} {r:PTA} (hr:SndA K mg E ta r):SndW K mg E (ExcR.tCallS (spW mg c K) E (tCons (tVar i) ta)) (pCallW i c r):=Zo9 i hr fun _=>rfl
def pCallWN (i:Nat) (c:Pw) (r:PTA):PTW:=fun γ R X=>match γ[i]? with
 | some (some (.own o))=>r γ (fun ss=>match passes ss with | some ss'=>c o ss' (fun o' d=>R (γ.set i (some (.own o'))) d) (fun _ _=>False) | none=>False) (X γ)
 | _=>False
theorem Zpu (i:Nat) {c:Pw} {ta:TA} {r:PTA} (hr:SndA K mg E ta r):SndW K mg E (tCall (spW mg c K) [] E0 (tCons (tVar i) ta)) (pCallWN i c r):=by
 intro H0 B H σ γ R X Q hB env h q qx
 unfold pCallWN at h
 split at h
 ·rename_i o hi
  obtain ⟨v,hv,a,rfl,_,_⟩:=env.slot i _ hi
  refine ⟨_,hv,hr H0 B H σ γ _ _ _ env h (fun ss us H1 h1 S1 t1=>?_) fun c H' hc S'=>qx γ c H' hc (env.grow S') (Fr.grow S')⟩
  show spW mg c K ((V.ref a :: us)++[]) H1 Q E0
  rw [List.append_nil]
  split at h1
  ·rename_i ss' ep
   exact callW (X:=fun _ _=>False) env hB S1 hi hv t1 ep h1 q fun _ _ _ z=>z.elim
  ·exact h1.elim
 ·exact h.elim
def fFld (C:Addr) (xs:List Str) (j:Nat):S→(S→Prop)→Prop
 | .view (.ins _ C' xs' cs),R=>C'=C∧xs'=xs∧∃ c,cs[j]?=some c∧R (.view (.lst c.2))
 | .bor (.ins C' xs' ds),R=>C'=C∧xs'=xs∧∃ d,ds[j]?=some d∧R (arg d)
 | _,_=>False
def pFld (C:Addr) (xs:List Str) (j:Nat) (a:PTE):PTE:=fun γ R X=>a γ (fun s=>fFld C xs j s R) X
theorem Rp.ins_inv {C:Addr} {xs:List Str} {ds:List D} {v:V} (h:Rp K H (.ins C xs ds) v):∃ a dx vs,v=.ref a∧H a=some (.ins C dx (xs.zip vs))∧xs.length=vs.length∧Rps K H ds vs:=by
 cases h with
 | ins h e r=>exact ⟨_,_,_,rfl,h,e,r⟩
def FldAt (f:Str) (xs:List Str) (j:Nat):Prop:=∀ vs:List V,xs.length=vs.length→(xs.zip vs).lookup f=vs[j]?
theorem Zjf {C:Addr} {f:Str} {xs:List Str} (j:Nat) {a:PTE} (hc:Cls K C) (hn:NoAttr K C f) (hj:FldAt f xs j) (ha:SndE K mg E te a):SndE K mg E (tFld K te f) (pFld C xs j a):=by
 intro H0 B H σ γ R X Q env p q qx
 refine ha H0 B H σ γ _ X _ env p (fun s v H1 h1 S1 t1=>?_) qx
 have env1:=env.grow S1
 unfold fFld at h1
 split at h1
 ·rename_i x C' xs' cs
  obtain ⟨rfl,rfl,c,ec,hR⟩:=h1
  obtain ⟨b,rfl,e1,e2,⟨dx,e3⟩,e4,e5⟩:=t1
  obtain ⟨us,u1,u2⟩:=e4 c (List.mem_of_getElem? ec)
  refine ⟨b,_,dx,_,_,rfl,e3,hc,hn,?_,q _ _ H1 hR S1 ⟨c.1,rfl,us,u1,u2⟩⟩
  rw [hj _ (by rw [List.length_map];exact e2),List.getElem?_map,ec]
  rfl
 ·rename_i C' xs' ds
  obtain ⟨rfl,rfl,d,ed,hR⟩:=h1
  obtain ⟨b,dx,vs,rfl,e1,e2,e3⟩:=Rp.ins_inv (show Rp K H0 (.ins C' xs' ds) v from t1)
  obtain ⟨u,hu,ru⟩:=e3.get ed
  refine ⟨b,_,dx,_,u,rfl,env1.same _ _ e1,hc,hn,by rw [hj _ e2];exact hu,q _ _ H1 hR S1 (argR env1.zm env1.same ru)⟩
 ·exact h1.elim
def pMeth (C:Addr) (xs:List Str) (c:Pc) (a:PTE) (r:PTA):PTE:=fun γ R X=>a γ (fun s=>match s.d with
 | .ins C' xs' ds=>C'=C∧xs'=xs∧r γ (fun ss=>c (.ins C' xs' ds :: ss.map S.d) (fun s=>R s.back) X) X
 | _=>False) X
def NoFld (m:Str) (xs:List Str):Prop:=∀ vs:List V,(xs.zip vs).lookup m=none
def tMethS (C:Addr) (m:Str) (sp:Sp) (E:L2.St→XK) (ta:TE) (t:TA):TE:=fun σ H Q=>ta σ H fun x H1=>∃ a dx fs,x=.ref a∧H1 a=some (.ins C dx fs)∧fs.lookup m=none∧t σ H1 fun vs H2=>sp (x :: (vs++[])) H2 Q (E σ)
theorem Zpd {C:Addr} {m:Str} {xs:List Str} {c:Pc} {ta:TA} {a:PTE} {r:PTA} (hx:NoFld m xs) (ha:SndE K mg E te a) (hr:SndA K mg E ta r):SndE K mg E (tMethS C m (spOf mg c K) E te ta) (pMeth C xs c a r):=by
 intro H0 B H σ γ R X Q env p q qx
 refine ha H0 B H σ γ _ X _ env p (fun s v H1 h1 S1 t1=>?_) qx
 have env1:=env.grow S1
 split at h1
 ·rename_i C' xs' ds ed
  obtain ⟨rfl,rfl,h1⟩:=h1
  have rs:=t1.rp env1.same
  rw [ed] at rs
  obtain ⟨b,dx,vs,rfl,e1,e2,e3⟩:=Rp.ins_inv rs
  refine ⟨b,dx,_,rfl,e1,hx vs,hr H0 B H1 σ γ _ X _ env1 h1 (fun ss us H2 h2 S2 t2=>?_) fun c H' hc S'=>qx c H' hc (S1.trans S')⟩
  have env2:=env1.grow S2
  rw [List.append_nil]
  refine ⟨_,_,X,Rps.cons (Rp.mono S2 rs) (t2.rps env2.same),h2,fun s v H' hs S3 tv=>q _ _ H' hs ((S1.trans S2).trans S3) (tv.back env2 (S1.trans S2) S3),fun e H' he S3=>qx e H' he ((S1.trans S2).trans S3)⟩
 ·exact h1.elim
theorem Zh7 {C:Addr} {m:Str} {xs:List Str} {c:Pc} {ta:TA} {a:PTE} {r:PTA} {Ec:XK} (hx:NoFld m xs) (ha:SndE K mg (fun _=>Ec) te a) (hr:SndA K mg (fun _=>Ec) ta r):SndE K mg (fun _=>Ec) (tMeth C m (spOf mg c K) [] Ec te ta) (pMeth C xs c a r):=Zpd (E:=fun _=>Ec) hx ha hr
def pMethN (C:Addr) (xs:List Str) (c:Pc) (a:PTE) (r:PTA):PTE:=fun γ R X=>a γ (fun s=>match s.d with
 | .ins C' xs' ds=>C'=C∧xs'=xs∧r γ (fun ss=>c (.ins C' xs' ds :: ss.map S.d) (fun s=>R s.back) fun _=>False) X
 | _=>False) X
theorem Zce {C:Addr} {m:Str} {xs:List Str} {c:Pc} {ta:TA} {a:PTE} {r:PTA} (hx:NoFld m xs) (ha:SndE K mg E te a) (hr:SndA K mg E ta r):SndE K mg E (tMeth C m (spOf mg c K) [] E0 te ta) (pMethN C xs c a r):=by
 intro H0 B H σ γ R X Q env p q qx
 refine ha H0 B H σ γ _ X _ env p (fun s v H1 h1 S1 t1=>?_) qx
 have env1:=env.grow S1
 split at h1
 ·rename_i C' xs' ds ed
  obtain ⟨rfl,rfl,h1⟩:=h1
  have rs:=t1.rp env1.same
  rw [ed] at rs
  obtain ⟨b,dx,vs,rfl,e1,e2,e3⟩:=Rp.ins_inv rs
  refine ⟨b,dx,_,rfl,e1,hx vs,hr H0 B H1 σ γ _ X _ env1 h1 (fun ss us H2 h2 S2 t2=>?_) fun c H' hc S'=>qx c H' hc (S1.trans S')⟩
  have env2:=env1.grow S2
  rw [List.append_nil]
  exact ⟨_,_,_,Rps.cons (Rp.mono S2 rs) (t2.rps env2.same),h2,fun s v H' hs S3 tv=>q _ _ H' hs ((S1.trans S2).trans S3) (tv.back env2 (S1.trans S2) S3),fun _ _ z=>z.elim⟩
 ·exact h1.elim
def pMethW (i:Nat) (C:Addr) (xs:List Str) (c:Pw) (r:PTA):PTW:=fun γ R X=>match γ[i]? with
 | some (some (.own (.ins x C' xs' cs)))=>C'=C∧xs'=xs∧r γ (fun ss=>match passes ss with | some ss'=>c (.ins x C' xs' cs) ss' (fun o' d=>R (γ.set i (some (.own o'))) d) (fun o' e=>X (γ.set i (some (.own o'))) e) | none=>False) (X γ)
 | _=>False
theorem Zmo (i:Nat) {C:Addr} {m:Str} {xs:List Str} {c:Pw} {ta:TA} {r:PTA} (hx:NoFld m xs) (hr:SndA K mg E ta r):SndW K mg E (tMethS C m (spW mg c K) E (tVar i) ta) (pMethW i C xs c r):=by
 intro H0 B H σ γ R X Q hB env h q qx
 unfold pMethW at h
 split at h
 ·rename_i x C' xs' cs hi
  obtain ⟨rfl,rfl,h⟩:=h
  obtain ⟨v,hv,a,rfl,_,e1,e2,⟨dx,e3⟩,e4⟩:=env.slot i _ hi
  refine ⟨_,hv,a,dx,_,rfl,e3,hx _,hr H0 B H σ γ _ _ _ env h (fun ss us H1 h1 S1 t1=>?_) fun c H' hc S'=>qx γ c H' hc (env.grow S') (Fr.grow S')⟩
  rw [List.append_nil]
  split at h1
  ·rename_i ss' ep
   exact callW env hB S1 hi hv t1 ep h1 q qx
  ·exact h1.elim
 ·exact h.elim
theorem Zio (i:Nat) {C:Addr} {m:Str} {xs:List Str} {c:Pw} {ta:TA} {r:PTA} {Ec:XK} (hx:NoFld m xs) (hr:SndA K mg (fun _=>Ec) ta r):SndW K mg (fun _=>Ec) (tMeth C m (spW mg c K) [] Ec (tVar i) ta) (pMethW i C xs c r):=Zmo (E:=fun _=>Ec) i hx hr
def pMethWN (i:Nat) (C:Addr) (xs:List Str) (c:Pw) (r:PTA):PTW:=fun γ R X=>match γ[i]? with
 | some (some (.own (.ins x C' xs' cs)))=>C'=C∧xs'=xs∧r γ (fun ss=>match passes ss with | some ss'=>c (.ins x C' xs' cs) ss' (fun o' d=>R (γ.set i (some (.own o'))) d) (fun _ _=>False) | none=>False) (X γ)
 | _=>False
theorem Zgk (i:Nat) {C:Addr} {m:Str} {xs:List Str} {c:Pw} {ta:TA} {r:PTA} (hx:NoFld m xs) (hr:SndA K mg E ta r):SndW K mg E (tMeth C m (spW mg c K) [] E0 (tVar i) ta) (pMethWN i C xs c r):=by
 intro H0 B H σ γ R X Q hB env h q qx
 unfold pMethWN at h
 split at h
 ·rename_i x C' xs' cs hi
  obtain ⟨rfl,rfl,h⟩:=h
  obtain ⟨v,hv,a,rfl,_,e1,e2,⟨dx,e3⟩,e4⟩:=env.slot i _ hi
  refine ⟨_,hv,a,dx,_,rfl,e3,hx _,hr H0 B H σ γ _ _ _ env h (fun ss us H1 h1 S1 t1=>?_) fun c H' hc S'=>qx γ c H' hc (env.grow S') (Fr.grow S')⟩
  rw [List.append_nil]
  split at h1
  ·rename_i ss' ep
   exact callW (X:=fun _ _=>False) env hB S1 hi hv t1 ep h1 q fun _ _ _ z=>z.elim
  ·exact h1.elim
 ·exact h.elim
theorem Zmp {α:Type}:∀ {l:List α} {i j:Nat} {x:α},l.Nodup→l[i]?=some x→l[j]?=some x→i=j
 | [],_,_,_,_,h,_=>by simp at h
 | y :: r,0,0,_,_,_,_=>rfl
 | y :: r,0,j + 1,x,hn,h1,h2=>by
  have e:y=x:=by simpa using h1
  exact absurd (e ▸ List.mem_of_getElem? (show r[j]?=some x by simpa using h2)) (List.nodup_cons.mp hn).1
 | y :: r,i + 1,0,x,hn,h1,h2=>by
  have e:y=x:=by simpa using h2
  exact absurd (e ▸ List.mem_of_getElem? (show r[i]?=some x by simpa using h1)) (List.nodup_cons.mp hn).1
 | y :: r,i + 1,j + 1,x,hn,h1,h2=>congrArg (· + 1) (Zmp (l:=r) (List.nodup_cons.mp hn).2 (by simpa using h1) (by simpa using h2))
theorem EnvR.cell {i j:Nat} {x C:Addr} {xs:List Str} {cs:List (Addr×List D)} {b:Addr} {ds es:List D} {us:List V} (env:EnvR K H0 B H σ γ) (hi:γ[i]?=some (some (.own (.ins x C xs cs)))) (hj:cs[j]?=some (b,ds)) (r:Rps K (off (zof B γ σ) H) es us) :
  EnvR K H0 B (upd H b (.lst us)) σ (γ.set i (some (.own (.ins x C xs (cs.set j (b,es))))))∧Fr B H σ γ (upd H b (.lst us)) σ (γ.set i (some (.own (.ins x C xs (cs.set j (b,es)))))):=by
 obtain ⟨v,hv,a,rfl,e0,e1,e2,⟨dx,e3⟩,e4,e5⟩:=env.slot i _ hi
 subst e1
 have hjl:j < cs.length:=(List.getElem?_eq_some_iff.mp hj).1
 have hbm:(b,ds)∈cs:=List.mem_of_getElem? hj
 have hab:a≠b:=fun z=>by
  obtain ⟨ws,w1,_⟩:=e4 _ hbm
  rw [← show a=b from z,e3] at w1
  cases w1
 have em:(cs.set j (b,es)).map (·.1)=cs.map (·.1):=by
  apply List.ext_getElem?
  intro k
  rw [List.getElem?_map,List.getElem?_map,List.getElem?_set]
  by_cases e:j=k
  ·subst e
   rw [if_pos rfl,if_pos hjl,hj]
   rfl
  ·rw [if_neg e]
 have em2:(cs.set j (b,es)).map (fun c=>V.ref c.1)=cs.map fun c=>V.ref c.1:=by
  have:=congrArg (List.map V.ref) em
  rw [List.map_map,List.map_map] at this
  exact this
 have adr:∀ c,(O.ins a C xs (cs.set j (b,es))).adr a c→(O.ins a C xs cs).adr a c:=fun c hc=>by
  rcases hc with hc | ⟨d,hd,hc⟩
  ·exact .inl hc
  ·have:d.1∈(cs.set j (b,es)).map (·.1):=List.mem_map_of_mem hd
   rw [em] at this
   obtain ⟨d',q1,q2⟩:=List.mem_map.mp this
   exact .inr ⟨d',q1,hc.trans q2.symm⟩
 have zb:∀ c,(O.ins a C xs cs).adr a c→zof B γ σ c:=fun c hc=>.inr ⟨i,_,a,hi,hv,hc⟩
 have So:Same (off (zof B γ σ) H) (off (zof B (γ.set i (some (.own (.ins a C xs (cs.set j (b,es)))))) σ) (upd H b (.lst us))):=fun c u h=>by
  obtain ⟨q1,q2⟩:=Ze3 h
  have nb:c≠b:=fun z=>q2 (zb c (.inr ⟨_,hbm,z⟩))
  refine Zcb (by rw [Za7 nb];exact q1) fun z=>q2 ?_
  rcases z with z | ⟨k,fs,a',k1,k2,k3⟩
  ·exact .inl z
  ·rcases Za9 k1 with ⟨ek,q,_⟩ | ⟨_,q⟩
   ·subst ek
    cases q
    rw [hv] at k2
    cases k2
    exact zb c (adr c k3)
   ·exact .inr ⟨k,fs,a',q,k2,k3⟩
 refine env.change hi hv (fun c u hu n=>?_) (fun c hc=>?_) (fun c hc=>.inl (adr c hc)) ⟨rfl,by rw [List.length_set];exact e2,⟨dx,?_⟩,fun c hc=>?_,by rw [em];exact e5⟩
 ·rw [Za7 fun z=>n (.inr ⟨_,hbm,z⟩)]
  exact hu
 ·by_cases z:c=b
  ·rw [z,Zbg];trivial
  ·rw [Za7 z];exact env.zm c (zb c hc)
 ·rw [Za7 hab,em2]
  exact e3
 ·obtain ⟨k,hk,ek⟩:=List.getElem_of_mem hc
  have hk':(cs.set j (b,es))[k]?=some c:=by rw [List.getElem?_eq_getElem hk,ek]
  rcases Za9 hk' with ⟨_,q,_⟩ | ⟨nk,q⟩
  ·subst q
   exact ⟨us,Zbg,Rps.mono So r⟩
  ·obtain ⟨ws,w1,w2⟩:=e4 c (List.mem_of_getElem? q)
   have nb:c.1≠b:=fun z=>nk (by
    have h1:(cs.map (·.1))[k]?=some b:=by rw [List.getElem?_map,q];exact congrArg some z
    have h2:(cs.map (·.1))[j]?=some b:=by rw [List.getElem?_map,hj];rfl
    exact Zmp e5 h1 h2)
   exact ⟨ws,by rw [Za7 nb];exact w1,Rps.mono So w2⟩
def pAppF (i j:Nat) (C:Addr) (xs:List Str) (a:PTE):PTW:=fun γ R X=>match γ[i]? with
 | some (some (.own (.ins x C' xs' cs)))=>C'=C∧xs'=xs∧∃ c,cs[j]?=some c∧a γ (fun s=>match s.shd with
  | some d=>c.2.length < 10000000∧R (γ.set i (some (.own (.ins x C' xs' (cs.set j (c.1,c.2++[d])))))) .non
  | none=>False) (X γ)
 | _=>False
theorem Zlf (i j:Nat) {C:Addr} {f:Str} {xs:List Str} {a:PTE} (hc:Cls K C) (hn:NoAttr K C f) (hj:FldAt f xs j) (ha:SndE K mg E te a):SndW K mg E (tBM K "list" rAppend (tFld K (tVar i) f) (tCons te tNil)) (pAppF i j C xs a):=by
 intro H0 B H σ γ R X Q hB env h q qx
 unfold pAppF at h
 split at h
 ·rename_i x C' xs' cs hi
  obtain ⟨rfl,rfl,c,ec,h⟩:=h
  obtain ⟨v,hv,b,rfl,_,e1,e2,⟨dx,e3⟩,e4,e5⟩:=env.slot i _ hi
  obtain ⟨us,u1,u2⟩:=e4 c (List.mem_of_getElem? ec)
  refine ⟨_,hv,b,_,dx,_,V.ref c.1,rfl,e3,hc,hn,?_,.inl ⟨rfl,us,SqL.of u1⟩,ha H0 B H σ γ _ _ _ env h (fun s u H1 h1 S1 t1=>?_) fun c H' hc S'=>qx γ c H' hc (env.grow S') (Fr.grow S')⟩
  ·rw [hj _ (by rw [List.length_map];exact e2),List.getElem?_map,ec]
   rfl
  ·have env1:=env.grow S1
   split at h1
   ·rename_i d ed
    have rd:=t1.shd env1.same env.zm S1 ed
    refine ⟨c.1,us,u,rfl,rfl,S1 _ _ u1,by rw [u2.len];exact Nat.lt_trans h1.1 (by decide),?_⟩
    obtain ⟨k1,k2⟩:=env1.cell (es:=c.2++[d]) (us:=us++[u]) hi ec (Rps.append (Rps.mono (Zau S1 fun _ _ _ z=>z) u2) (.cons rd .nil))
    exact q _ _ _ _ h1.2 k1 ((Fr.grow S1).trans k2) .non
   ·exact h1.elim
 ·exact h.elim
def pPopF (i j:Nat) (C:Addr) (xs:List Str):PTW:=fun γ R _=>match γ[i]? with
 | some (some (.own (.ins x C' xs' cs)))=>C'=C∧xs'=xs∧∃ c d,cs[j]?=some c∧c.2[c.2.length - 1]?=some d∧R (γ.set i (some (.own (.ins x C' xs' (cs.set j (c.1,c.2.dropLast)))))) d
 | _=>False
theorem Rps.dropLast:∀ {ds:List D} {vs:List V},Rps K H ds vs→Rps K H ds.dropLast vs.dropLast
 | _,_,.nil=>.nil
 | _,_,.cons _ .nil=>.nil
 | _,_,.cons h (.cons h' r)=>.cons h (Rps.dropLast (.cons h' r))
theorem Zlc (i j:Nat) {C:Addr} {f:Str} {xs:List Str} (hc:Cls K C) (hn:NoAttr K C f) (hj:FldAt f xs j):SndW K mg E (tBM0 K "list" rPop (tFld K (tVar i) f)) (pPopF i j C xs):=by
 intro H0 B H σ γ R X Q hB env h q qx
 unfold pPopF at h
 split at h
 ·rename_i x C' xs' cs hi
  obtain ⟨rfl,rfl,c,d,ec,ed,h⟩:=h
  obtain ⟨v,hv,b,rfl,_,e1,e2,⟨dx,e3⟩,e4,e5⟩:=env.slot i _ hi
  obtain ⟨us,u1,u2⟩:=e4 c (List.mem_of_getElem? ec)
  obtain ⟨u,hu,ru⟩:=u2.get ed
  refine ⟨_,hv,b,_,dx,_,V.ref c.1,rfl,e3,hc,hn,?_,.inl ⟨rfl,us,SqL.of u1⟩,c.1,us,u,rfl,rfl,u1,by rw [u2.len];exact hu,?_⟩
  ·rw [hj _ (by rw [List.length_map];exact e2),List.getElem?_map,ec]
   rfl
  ·obtain ⟨k1,k2⟩:=env.cell (es:=c.2.dropLast) (us:=us.dropLast) hi ec (Rps.dropLast u2)
   exact q _ _ _ _ h k1 k2 (Rp.mono k2.off ru)
 ·exact h.elim
def PutAt (f:Str) (xs:List Str):Prop:=∀ (vs:List V) (y:V),xs.length=vs.length→putF f y (xs.zip vs)=(xs++[f]).zip (vs++[y])
def pSetF (i:Nat) (C:Addr) (f:Str) (xs:List Str) (a:PTE):PTS:=fun R γ=>a γ (fun s=>match s with
 | .own (.lst ds)=>(match γ[i]? with
  | some (some (.own (.ins x C' xs' cs)))=>C'=C∧xs'=xs∧xs.length < 1000∧∀ b,R.nx (γ.set i (some (.own (.ins x C' (xs++[f]) (cs++[(b,ds)])))))
  | _=>False)
 | _=>False) (R.ex γ)
theorem Zls (i:Nat) {C:Addr} {f:Str} {xs:List Str} {a:PTE} (hc:Cls K C) (hn:NoAttr K C f) (hp:PutAt f xs) (ha:SndE K mg E te a):SndS K mg E (sFld K (tVar i) te f) (pSetF i C f xs a):=by
 intro H0 B H σ γ R D hB env h e
 refine ha H0 B H σ γ _ _ _ env h (fun s v H1 h1 S1 t1=>?_) fun c H' hc S'=>e.ex σ γ c H' hc (env.grow S') (Fr.grow S')
 have env1:=env.grow S1
 split at h1
 ·rename_i ds
  split at h1
  ·rename_i x C' xs' cs hi
   obtain ⟨rfl,rfl,hl,h1⟩:=h1
   obtain ⟨u,hv,b,rfl,e0,e1,e2,⟨dx,e3⟩,e4,e5⟩:=env.slot i _ hi
   subst e1
   obtain ⟨l,rfl,l0,vs,l1,l2⟩:=t1
   have l0:H l=none:=l0 l rfl
   have na:b≠l:=Zb2 e3 l0
   refine ⟨_,hv,b,_,dx,_,rfl,S1 _ _ e3,hc,hn,?_,?_⟩
   ·rw [List.length_zip,List.length_map];omega
   ·rw [hp _ _ (by rw [List.length_map];exact e2)]
    have nl:∀ c∈cs,c.1≠l:=fun c hc=>by
     obtain ⟨ws,w1,_⟩:=e4 c hc
     exact Zb2 w1 l0
    have nb:∀ c∈cs,c.1≠b:=fun c hc z=>by
     obtain ⟨ws,w1,_⟩:=e4 c hc
     rw [z,e3] at w1
     cases w1
    have zb:∀ c,(O.ins b C' xs' cs).adr b c→zof B γ σ c:=fun c hc=>.inr ⟨i,_,b,hi,hv,hc⟩
    have key:∀ c u,H1 c=some u→¬ (zof B γ σ c∨c=l)→¬ zof B (γ.set i (some (.own (.ins b C' (xs'++[f]) (cs++[(l,ds)]))))) σ c:=fun c u _ n z=>by
     rcases z with z | ⟨k,fs,a',k1,k2,k3⟩
     ·exact n (.inl (.inl z))
     ·rcases Za9 k1 with ⟨ek,q,_⟩ | ⟨_,q⟩
      ·subst ek
       cases q
       rw [hv] at k2
       cases k2
       rcases k3 with k3 | ⟨d,hd,k3⟩
       ·exact n (.inl (zb c (.inl k3)))
       ·rcases List.mem_append.mp hd with hd | hd
        ·exact n (.inl (zb c (.inr ⟨d,hd,k3⟩)))
        ·rw [List.mem_singleton] at hd
         subst hd
         exact n (.inr k3)
      ·exact n (.inl (.inr ⟨k,fs,a',q,k2,k3⟩))
    have So:Same (off (fun c=>zof B γ σ c∨c=l) H1) (off (zof B (γ.set i (some (.own (.ins b C' (xs'++[f]) (cs++[(l,ds)]))))) σ) (upd H1 b (.ins C' dx ((xs'++[f]).zip ((cs.map fun c=>V.ref c.1)++[.ref l]))))):=fun c u h=>by
     obtain ⟨q1,q2⟩:=Ze3 h
     exact Zcb (by rw [Za7 fun z=>q2 (.inl (zb c (.inl z)))];exact q1) (key c u q1 q2)
    have S0:Same (off (zof B γ σ) H) (off (fun c=>zof B γ σ c∨c=l) H1):=Zau S1 fun c u hc z y=>y.elim z fun y=>by rw [y,l0] at hc;cases hc
    obtain ⟨k1,k2⟩:=env.change (o':=.ins b C' (xs'++[f]) (cs++[(l,ds)])) (H':=upd H1 b (.ins C' dx ((xs'++[f]).zip ((cs.map fun c=>V.ref c.1)++[.ref l])))) hi hv
     (fun c u hu n=>by rw [Za7 fun z=>n (.inl z)];exact S1 _ _ hu)
     (fun c hc=>by
      by_cases z:c=b
      ·rw [z,Zbg];trivial
      ·rw [Za7 z];exact env1.zm c (zb c hc))
     (fun c hc=>by
      rcases hc with hc | ⟨d,hd,hc⟩
      ·exact .inl (.inl hc)
      ·rcases List.mem_append.mp hd with hd | hd
       ·exact .inl (.inr ⟨d,hd,hc⟩)
       ·rw [List.mem_singleton] at hd
        subst hd
        exact .inr (by rw [show c=l from hc];exact l0))
     ⟨rfl,by rw [List.length_append,List.length_append,e2];rfl,⟨dx,by rw [Zbg,List.map_append];rfl⟩,fun c hc=>by
      rcases List.mem_append.mp hc with hc | hc
      ·obtain ⟨ws,w1,w2⟩:=e4 c hc
       exact ⟨ws,by rw [Za7 (nb c hc)];exact S1 _ _ w1,Rps.mono So (Rps.mono S0 w2)⟩
      ·rw [List.mem_singleton] at hc
       subst hc
       exact ⟨vs,by rw [Za7 (fun z=>na z.symm)];exact l1,Rps.mono So l2⟩,by
      rw [List.map_append,List.nodup_append]
      exact ⟨e5,by simp,fun c hc d hd z=>by
       obtain ⟨c',q1,q2⟩:=List.mem_map.mp hc
       have:d=l:=by simpa using hd
       exact nl c' q1 (q2.trans (z.trans this))⟩⟩
    exact e.nx _ _ _ (h1 l) k1 k2
  ·exact h1.elim
 ·exact h1.elim
theorem makeW {C:Addr} {c:Pw} {ss ss':List S} {us:List V} {R:S→Prop} {X:XR} {Q:VK} {Ec:XK} (env:EnvR K H0 B H σ γ) (S1:Same H H1) (t1:TVs K (zof B γ σ) H0 H H1 ss us) (ep:passes ss=some ss')
  (h1:∀ x,c (.ins x C [] []) ss' (fun o' d=>d=.non∧R (.own o')) (fun _ e=>X e)) (q:∀ s v H',R s→Same H H'→TV K (zof B γ σ) H0 H H' s v→Q v H') (qx:∀ c H',X c→Same H H'→Ec (.ref (ExcR.clsOf mg c)) none H') :
  ∀ x dx,H1 x=none→H1 dx=none→dx≠x→spW mg c K (.ref x :: us) (upd (upd H1 dx (.own x)) x (.ins C dx [])) (fun v H2=>v=.non∧Q (.ref x) H2) Ec:=by
 have env1:=env.grow S1
 intro x dx nx ndx nex
 have S2:Same H1 (upd (upd H1 dx (.own x)) x (.ins C dx [])):=fun b o e=>by
  rw [Za7 (Zb2 e nx),Za7 (Zb2 e ndx)]
  exact e
 have aft:∀ o' H',After K (zof B γ σ) (upd (upd H1 dx (.own x)) x (.ins C dx [])) x (.ins x C [] []) o' H'→Same H1 H'∧∀ b,o'.adr x b→H b=none:=fun o' H' A=>by
  refine ⟨fun b o e=>A.same b o (Zcb (S2 b o e) fun z=>?_),fun b hb=>?_⟩
  ·rcases z with z | ⟨c,hc,_⟩
   ·rw [z,nx] at e;cases e
   ·cases hc
  ·rcases A.new b hb with (z | ⟨c,hc,_⟩) | z
   ·rw [z];exact S1.free nx
   ·cases hc
   ·exact S1.free (S2.free z)
 refine ⟨.ins x C [] [],x,ss',us,zof B γ σ,_,_,rfl,fun b hb=>⟨Zdm S2 (env1.zm b hb),fun z=>?_⟩,⟨rfl,rfl,⟨dx,Zbg⟩,(fun c hc=>by cases hc),List.nodup_nil⟩,?_,Zdr ep,h1 x,fun o' d v H' hR A rd=>?_,fun o' e H' hX A=>?_⟩
 ·rcases z with z | ⟨c,hc,_⟩
  ·have:=env1.zm b hb
   rw [z,nx] at this
   exact this
  ·cases hc
 ·refine t1.pass env1.same env.zm S1 (fun b o e=>Zcb (S2 _ _ (env1.same b o e)) fun z=>?_) (Zau S2 fun b o e z y=>?_) ep
  ·rcases z with z | ⟨c,hc,_⟩
   ·rw [z,(env1.same).free nx] at e;cases e
   ·cases hc
  ·rcases y with y | y | ⟨c,hc,_⟩
   ·exact z y
   ·rw [y,nx] at e;cases e
   ·cases hc
 ·obtain ⟨rfl,hR⟩:=hR
  obtain ⟨k1,k2⟩:=aft o' H' A
  exact ⟨Rp.non_inv rd,q _ _ H' hR (S1.trans k1) ⟨x,rfl,k2,A.at_⟩⟩
 ·exact qx e H' hX (S1.trans (aft o' H' A).1)
def pMakeN (C:Addr) (c:Pw) (r:PTA):PTE:=fun γ R X=>r γ (fun ss=>match passes ss with | some ss'=>∀ x,c (.ins x C [] []) ss' (fun o' d=>d=.non∧R (.own o')) (fun _ _=>False) | none=>False) X
theorem Zpy {C:Addr} {c:Pw} {ta:TA} {r:PTA} (hr:SndA K mg E ta r):SndE K mg E (tMake C (spW mg c K) [] E0 ta) (pMakeN C c r):=by
 intro H0 B H σ γ R X Q env p q qx
 refine hr H0 B H σ γ _ X _ env p (fun ss us H1 h1 S1 t1=>?_) qx
 split at h1
 ·rename_i ss' ep
  rw [List.append_nil]
  exact makeW (X:=fun _=>False) env S1 t1 ep h1 q fun _ _ z=>z.elim
 ·exact h1.elim
end
end Pu
namespace Pu
open PySem PySem.Spec PyProof.Rows L2 Own
theorem len0 {α:Type} {us:List α} (h:us.length=0):∃ _:True,us=[]:=⟨trivial,List.length_eq_zero_iff.mp h⟩
theorem len1 {α:Type} {us:List α} (h:us.length=1):∃ a,us=[a]:=List.length_eq_one_iff.mp h
theorem len2 {α:Type} {us:List α} (h:us.length=2):∃ a b,us=[a,b]:=by
 cases us with
 | nil=>cases h
 | cons a r=>obtain ⟨b,rfl⟩:=len1 (us:=r) (by simpa using h);exact ⟨a,b,rfl⟩
theorem len3 {α:Type} {us:List α} (h:us.length=3):∃ a b c,us=[a,b,c]:=by
 cases us with
 | nil=>cases h
 | cons a r=>obtain ⟨b,c,rfl⟩:=len2 (us:=r) (by simpa using h);exact ⟨a,b,c,rfl⟩
theorem len4 {α:Type} {us:List α} (h:us.length=4):∃ a b c d,us=[a,b,c,d]:=by
 cases us with
 | nil=>cases h
 | cons a r=>obtain ⟨b,c,d,rfl⟩:=len3 (us:=r) (by simpa using h);exact ⟨a,b,c,d,rfl⟩
structure DefM (K:PySem.W.Frag) (W:Addr→Prop) (x q:Str) (st:Stmt) (ps:List Str):Prop where
 ex:∃ f fd,Fun K x q st f fd∧W f∧Binds K fd ps []
structure CalleeM (P:Program) (w:World) (K:PySem.W.Frag) (mg:Str→Option Value) (base:Heap) (CX:CXT) (k:Nat) (W:Addr→Prop) (ps:List Str) (sp:Sp):Prop where
 ex:∃ f fd,FnOk P w K mg base CX k f fd ps sp∧W f∧Binds K fd ps []
section
variable {P:Program} {w:World} {K:PySem.W.Frag} {mg:Str→Option Value} {base:Heap} {W:Addr→Prop}
theorem DefM.ok {x q:Str} {st:Stmt} {N ps:List Str} {k:Nat} {sp:Sp} (D:DefM K W x q st ps) (S:FnScope N ps (defScope st)) (len:∀ vs H Q E,sp vs H Q E→vs.length=ps.length)
  (hbody:∀ (f:Addr) (cdv:Value) (A:Around) (outer:List Env) (s:Shared) (H:Hp) (vs:List V) (Q:VK) (E:XK),Room k (A.deeper (envOfC q (defScope st) s.heap.objs.size f cdv))→sp vs H Q E→
   ∃ t,PSs (cxOf CX0 P w K mg base N q (defScope st) f cdv A outer s H E).nox (defBody st) t∧t { nx:=fun _ H'=>Q .non H',rt:=Q } (start N vs) H):CalleeM P w K mg base CX0 (k + 1) W ps sp:=by
 obtain ⟨f,fd,F,hm,hb⟩:=D.ex
 exact ⟨f,fd,F.ok S len fun cdv A outer s H vs Q E hr h=>hbody f cdv A outer s H vs Q E hr h,hm,hb⟩
theorem DefM.okX {x q:Str} {st:Stmt} {N ps:List Str} {k:Nat} {sp:Sp} (D:DefM K W x q st ps) (S:FnScope N ps (defScope st)) (len:∀ vs H Q E,sp vs H Q E→vs.length=ps.length)
  (hbody:∀ (f:Addr) (cdv:Value) (A:Around) (outer:List Env) (s:Shared) (H:Hp) (vs:List V) (Q:VK) (E:XK),Room k (A.deeper (envOfC q (defScope st) s.heap.objs.size f cdv))→sp vs H Q E→
   ∃ t,PSs (cxOf (ExcR.CXe P w) P w K mg base N q (defScope st) f cdv A outer s H E) (defBody st) t∧t { nx:=fun _ H'=>Q .non H',rt:=Q } (start N vs) H):CalleeM P w K mg base (ExcR.CXe P w) (k + 1) W ps sp:=by
 obtain ⟨f,fd,F,hm,hb⟩:=D.ex
 obtain ⟨oc,od,kV,doc,pm,an,cdv,ct,osl,rfl,lk,hcd⟩:=F.ex
 exact ⟨f,_,Zq1 lk hcd S len fun A outer s H vs Q E hr hsp=>hbody f cdv A outer s H vs Q E hr hsp,hm,hb⟩
theorem Zo4 {X:Cx}:Passes (ExcR.CXe P w) X E0:=fun _ _ _ _ _ _ _ h=>by
 obtain ⟨a,T,C,H',_,_,z⟩:=h
 exact z.elim
end
section
variable {X:Cx} {CX:CXT} {k:Nat} {Cc:Addr} {ps:List Str} {sp:Sp} {E:XK} {ES:L2.St→XK} {x m:Str} {p pos apos:Pos} {e o:Expr} {es:List Expr} {ta:TE} {t:TA}
theorem Zf2 {pl:Sem Bool} (C:CalleeM X.prog X.w X.K X.mg X.base CX k (Meth X.K Cc m) ps sp) (c:Cls X.K Cc) (hr:Room k X.A) (hx:Passes CX X E) (he:PE X o ta) (ha:PA X (e :: es) t)
  (hst:starEach (e :: es) X.env=(false,eval e X.env) :: starEach es X.env:=by rfl) (hpl:(backTo pos (starEach es X.env)).any (·.1)=false:=by rfl)
  (ht:eval (.Call (.Attribute o m apos) (e :: es) [] pos) X.env=(do
   let ov ← eval o X.env
   standAt apos.atName
   let (f,first) ← holding [ov] (getMethod ov m pl)
   callWith pos f first (backTo pos (starEach (e :: es) X.env)) (backToKw pos (keywordEach [] X.env))):=by rfl) :
  PE X (.Call (.Attribute o m apos) (e :: es) [] pos) (tMeth Cc m sp [] E ta t):=by
 obtain ⟨f,fd,F,hm,hb⟩:=C.ex
 exact Zq0 he c hm F hr hb .nil hx ha hst hpl ht
theorem Zb8 {pl:Sem Bool} (C:CalleeM X.prog X.w X.K X.mg X.base CX k (Meth X.K Cc m) ps sp) (c:Cls X.K Cc) (hr:Room k X.A) (hx:Passes CX X E) (he:PE X o ta)
  (ht:eval (.Call (.Attribute o m apos) [] [] pos) X.env=(do
   let ov ← eval o X.env
   standAt apos.atName
   let (f,first) ← holding [ov] (getMethod ov m pl)
   callWith pos f first (backTo pos (starEach [] X.env)) (backToKw pos (keywordEach [] X.env))):=by rfl) :
  PE X (.Call (.Attribute o m apos) [] [] pos) (tMeth Cc m sp [] E ta tNil):=by
 obtain ⟨f,fd,F,hm,hb⟩:=C.ex
 exact Zpm he c hm F hr hb .nil hx ht
theorem Zr {f:Addr} {fd:FuncData} {pins:List (Addr×Obj)} {σ:L2.St} {H:Hp} {s:Shared} {Q:VK} {us:List Value} {vs:List V} (F:FnOk X.prog X.w X.K X.mg X.base CX k f fd ps sp) (hr:Room k X.A) (hb:Binds X.K fd ps []) (hx:ExcR.PassesS CX X ES)
  (I:Inv X pins σ H s) (r:Vals vs us) (h:sp vs H Q (ES σ)):wpAny (model X.prog X.w) X.A (call (.ref f) us) (EP X pins σ Q) X.xe s:=by
 have hl:(us++[]).length=ps.length:=by rw [List.append_nil,← r.length];exact F.len _ _ _ _ h
 refine wpAny_call (codeAny_mono (F.run X.A X.stack s H ⟨us,[]⟩ (us++[]) vs Q (ES σ) hr I.env0 (hb s us I.kIn hl) (by simpa using r) h) fun r s' hq=>?_)
 cases r with
 | error e=>exact hx pins σ H s e s' I hq
 | ok fl=>
  cases fl with
  | ret u=>exact I.after hq
  | next=>exact False.elim hq
  | brk=>exact False.elim hq
  | cont=>exact False.elim hq
theorem Zph {pl:Sem Bool} (C:CalleeM X.prog X.w X.K X.mg X.base CX k (Meth X.K Cc m) ps sp) (c:Cls X.K Cc) (hr:Room k X.A) (hx:ExcR.PassesS CX X ES) (he:PE X o ta)
  (ht:eval (.Call (.Attribute o m apos) [] [] pos) X.env=(do
   let ov ← eval o X.env
   standAt apos.atName
   let (f,first) ← holding [ov] (getMethod ov m pl)
   callWith pos f first (backTo pos (starEach [] X.env)) (backToKw pos (keywordEach [] X.env))):=by rfl) :
  PE X (.Call (.Attribute o m apos) [] [] pos) (tMethS Cc m sp ES ta tNil):=by
 obtain ⟨f,fd,F,hm,hb⟩:=C.ex
 intro pins s σ H Q I h
 refine PySem.W.methodCall_KW (pl:=pl) (thn (he pins s σ H _ I h) fun u s1 ⟨x,H1,I1,rx,a,dx,fs,ex,ea,l,q⟩=>?_) ht
 subst ex
 obtain rfl:u=Value.ref a:=rx
 refine Zfv I1 ea c hm l ?_
 exact PySem.W.callWith_K0 (first:=[.ref a]) I1.kIn hm.kp (Zr (us:=[.ref a]) (vs:=[.ref a]) F hr hb hx I1 (.cons rfl .nil) q)
theorem Zrt (C:CalleeM X.prog X.w X.K X.mg X.base CX k (Mk X.K Cc) ps sp) (hm:X.mg x=some (.ref Cc)) (hr:Room (k + 1) X.A) (hx:Passes CX X E) (ha:PA X (e :: es) t) (hg:Gl X x:=by rfl)
  (hdb:(x == ("__debug__" : Str))=false:=by decide) (he:starEach (e :: es) X.env=(false,eval e X.env) :: starEach es X.env:=by rfl) (hpl:(backTo pos (starEach es X.env)).any (·.1)=false:=by rfl) :
  PE X (.Call (.Name x p) (e :: es) [] pos) (tMake Cc sp [] E t):=by
 obtain ⟨f,fd,F,M,hb⟩:=C.ex
 exact Zqo M F hr hg hm hb .nil hx ha hdb he hpl
end
abbrev PTF:=Γ→Str→(Str→Prop)→XR→Prop
section
variable {K:PySem.W.Frag} {mg:Str→Option Value} {E:L2.St→XK} {t:ExcR.TF} {p:PTF} {te:TE} {a:PTE}
def SndF (K:PySem.W.Frag) (mg:Str→Option Value) (E:L2.St→XK) (t:ExcR.TF) (p:PTF):Prop:=∀ (H0:Hp) (B:Addr→Prop) (H:Hp) (σ:L2.St) (γ:Γ) (out:Str) (R:Str→Prop) (X:XR) (Q:Str→Hp→Prop),EnvR K H0 B H σ γ→p γ out R X→
 (∀ x H',R x→Same H H'→Q x H')→(∀ c H',X c→Same H H'→E σ (.ref (ExcR.clsOf mg c)) none H')→t σ H out Q
def pFNil:PTF:=fun _ out R _=>out.length≤sizeLine∧R out
theorem Zhs:SndF K mg E ExcR.fNil pFNil:=fun H0 B H σ γ out R X Q env h q _=>⟨h.1,q _ H h.2 (Same.refl _)⟩
def pFStr (x:Str) (p:PTF):PTF:=fun γ out R X=>(out++x).length≤sizeLine∧p γ (out++x) R X
theorem Zey {x:Str} (h:SndF K mg E t p):SndF K mg E (ExcR.fStr x t) (pFStr x p):=fun H0 B H σ γ out R X Q env hp q qx=>⟨hp.1,h H0 B H σ γ _ R X Q env hp.2 q qx⟩
def pFVal (a:PTE) (p:PTF):PTF:=fun γ out R X=>a γ (fun s=>match s.d with
 | .int i=>i.natAbs.log2 < 1920∧(out++(Str.ofString (toString i))).length≤sizeLine∧p γ (out++Str.ofString (toString i)) R X
 | .str x=>x.length≤sizeLine∧(out++x).length≤sizeLine∧p γ (out++x) R X
 | _=>False) X
theorem Ziq (ha:SndE K mg E te a) (h:SndF K mg E t p):SndF K mg E (ExcR.fVal te t) (pFVal a p):=fun H0 B H σ γ out R X Q env hp q qx=>by
 refine ha H0 B H σ γ _ X _ env hp (fun s v H1 h1 S1 t1=>?_) qx
 have env1:=env.grow S1
 have rs:=t1.rp env1.same
 split at h1
 ·rename_i i ei
  rw [ei] at rs
  exact .inl ⟨i,rs.int_inv,h1.1,h1.2.1,h H0 B H1 σ γ _ R X Q env1 h1.2.2 (fun x H' hx S'=>q x H' hx (S1.trans S')) fun c H' hc S'=>qx c H' hc (S1.trans S')⟩
 ·rename_i x ex
  rw [ex] at rs
  exact .inr ⟨x,rs.str_inv,h1.1,h1.2.1,h H0 B H1 σ γ _ R X Q env1 h1.2.2 (fun x H' hx S'=>q x H' hx (S1.trans S')) fun c H' hc S'=>qx c H' hc (S1.trans S')⟩
 ·exact h1.elim
def pF (p:PTF):PTE:=fun γ R X=>p γ Str.empty (fun x=>R (.sh (.str x))) X
theorem se_f (h:SndF K mg E t p):SndE K mg E (ExcR.tF t) (pF p):=fun H0 B H σ γ R X Q env hp q qx=>
 h H0 B H σ γ _ _ X _ env hp (fun x H' hx S'=>q _ _ H' hx S' (.str x)) qx
end
end Pu
namespace Pu
open PySem PySem.Spec PyProof.Rows L2 Own M
abbrev plD (f:List (Int×Int)):D:=.lst (f.map prD)
abbrev dD (q:Str×List Int):D:=.tup (.str q.1 :: q.2.map D.int)
abbrev vF:List Str:=["book", "fields", "wished"]
abbrev vO (C x b1 b2 b3:Addr) (bk:List (Str×List Int)) (fs ws:List (List (Int×Int))):O:=.ins x C vF [(b1,bk.map dD),(b2,fs.map plD),(b3,ws.map plD)]
abbrev vilD (C:Addr) (bk:List (Str×List Int)) (fs ws:List (List (Int×Int))):D:=.ins C vF [.lst (bk.map dD),.lst (fs.map plD),.lst (ws.map plD)]
theorem Zp1 {α:Type} (f:α→D) (xs:List α) (x:α):atI ((xs++[x]).map f) (-1)=some (f x):=by
 refine Zj0 ?_
 unfold atI ixN
 rw [if_neg (by omega),if_pos (by rw [List.length_append,List.length_singleton];omega)]
 show (xs++[x])[_]?=some x
 have e:((-1:Int) + ((xs++[x]).length:Int)).toNat=xs.length:=by rw [List.length_append,List.length_singleton];omega
 rw [e,List.getElem?_append_right (Nat.le_refl _),Nat.sub_self]
 rfl
def tellE (e:Option Str) (X:Str→Prop) (R:Prop):Prop:=match e with | some c=>X c | none=>R
def holdE (h:Int):Option Str:=if 1≤h∧h≤10 then none else some "BadHolder"
def firstE:List (Int×Int)→Option Str
 | []=>none
 | q :: r=>if ¬ (1≤q.1∧q.1≤10) then some "BadHolder" else if ¬ (1≤q.2∧q.2≤1000) then some "BadWidth" else firstE r
def stripE (ps:List (Int×Int)):Option Str:=if 40 < ps.length then some "TooManyStrips" else firstE ps
theorem Zg7:∀ {ps:List (Int×Int)},Field ps→firstE ps=none
 | [],_=>rfl
 | q :: r,h=>by
  obtain ⟨h1,h2,h3,h4⟩:=h q List.mem_cons_self
  unfold firstE
  rw [if_neg (fun z=>z ⟨h1,h2⟩),if_neg (fun z=>z ⟨h3,h4⟩)]
  exact Zg7 fun x hx=>h x (List.mem_cons_of_mem _ hx)
theorem Zkr {ps:List (Int×Int)} (h:Field ps) (hl:ps.length≤40):stripE ps=none:=by
 unfold stripE
 rw [if_neg (by omega)]
 exact Zg7 h
def placeE (ps:List (Int×Int)) (p:Int):Option Str:=if p < 1∨(ps.length:Int) < p then some "NoStrip" else none
def atP1 (ps:List (Int×Int)) (p:Int):Int×Int:=ps.getD (p - 1).toNat (0,0)
def soldE (ps:List (Int×Int)) (p h:Int):Option Str:=if p < 1∨(ps.length:Int) < p then some "NoStrip" else if ¬ (1≤h∧h≤10) then some "BadHolder" else if (atP1 ps p).1=h then some "OwnStrip" else none
def soldL (ps:List (Int×Int)) (p h:Int):List (Int×Int):=ps.set (p - 1).toNat (h,(atP1 ps p).2)
theorem Zof {ps:List (Int×Int)} {p:Int} {x:Int×Int} (h1:1≤p) (h2:p≤ps.length):cutD (ps.map prD) none (some (p - 1))++[prD x]++cutD (ps.map prD) (some p) none=(ps.set (p - 1).toNat x).map prD:=by
 rw [Zfu,Zfu,Zl0 ps (by omega),Zgh ps (by omega)]
 have e:p.toNat=(p - 1).toNat + 1:=by omega
 rw [e,List.set_eq_take_append_cons_drop,if_pos (by omega),List.map_append,List.map_cons,List.append_assoc]
 rfl
theorem Zem {ps:List (Int×Int)} {p:Int} (h1:1≤p) (h2:p≤ps.length):atI (ps.map prD) (p - 1)=some (prD (atP1 ps p)):=by
 rw [Zit (by omega) (by omega)]
 unfold atP1
 rw [List.getD_eq_getElem?_getD,List.getElem?_eq_getElem (show (p - 1).toNat < ps.length by omega)]
 rfl
theorem Zo7 (ps:List (Int×Int)) (p h:Int):(soldL ps p h).length=ps.length:=List.length_set ..
theorem Zl2 {ps:List (Int×Int)} {p h:Int} (hF:Field ps) (e:soldE ps p h=none):Field (soldL ps p h):=by
 unfold soldE at e
 split at e
 ·cases e
 ·split at e
  ·cases e
  ·rename_i c1 c2
   have hl:(p - 1).toNat < ps.length:=by omega
   intro q hq
   unfold soldL at hq
   rcases List.mem_or_eq_of_mem_set hq with hq | rfl
   ·exact hF q hq
   ·have:atP1 ps p∈ps:=by
     unfold atP1
     rw [List.getD_eq_getElem?_getD,List.getElem?_eq_getElem hl]
     exact List.getElem_mem hl
    obtain ⟨_,_,w1,w2⟩:=hF _ this
    have:=Classical.not_not.mp c2
    exact ⟨this.1,this.2,w1,w2⟩
theorem Zk8 (q:Int×Int) (r:List (Int×Int)):firstE (q :: r)=if ¬ (1≤q.1∧q.1≤10) then some ("BadHolder" : Str) else if ¬ (1≤q.2∧q.2≤1000) then some ("BadWidth" : Str) else firstE r:=rfl
theorem Zmh (q:Str×List Int):imm (dD q)=true:=by
 unfold dD imm imms
 rw [Zk3]
 unfold imm
 rfl
theorem Zje:∀ (bk:List (Str×List Int)),imms (bk.map dD)=true
 | []=>by unfold List.map imms;rfl
 | q :: r=>by
  rw [List.map_cons]
  unfold imms
  rw [Zmh,Zje r]
  rfl
theorem Zhm (q:Str×List Int):arg (dD q)=.sh (dD q):=by
 unfold arg
 rw [Zmh]
theorem Zm0 {N:List Str} {q:Str×List Int} {ds:List D}:startP N (dD q :: ds)=some (.sh (dD q)) :: (ds.map (fun d=>some (arg d))++List.replicate (N.length - (ds.length + 1)) none):=by
 unfold startP
 rw [List.map_cons,Zhm]
 rfl
theorem Zlo {q:Str×List Int} {i:Nat} (h:i < q.2.length):atI (.str q.1 :: q.2.map D.int) (1 + (i:Int))=some (.int q.2[i]):=by
 have e:(1 + (i:Int))=((i + 1:Nat):Int):=by omega
 rw [e]
 exact Zle (by rw [List.getElem?_cons_succ,List.getElem?_map,List.getElem?_eq_getElem h];rfl)
def soldK (ps:List (Int×Int)) (p h:Int):List Bool:=if p < 1∨(ps.length:Int) < p then [true,true,false,false] else if ¬ (1≤h∧h≤10) then [true,false,true,false] else if (atP1 ps p).1=h then [true,false,false,true] else []
theorem Zrh (ps:List (Int×Int)) (p h:Int):(soldE ps p h=some ("NoStrip" : Str)∧soldK ps p h=[true,true,false,false])∨(soldE ps p h=some ("BadHolder" : Str)∧soldK ps p h=[true,false,true,false])∨(soldE ps p h=some ("OwnStrip" : Str)∧soldK ps p h=[true,false,false,true])∨
  (soldE ps p h=none∧soldK ps p h=[]∧1≤p∧p≤ps.length):=by
 unfold soldE soldK
 by_cases c:p < 1∨(ps.length:Int) < p
 ·rw [if_pos c,if_pos c]
  exact .inl ⟨rfl,rfl⟩
 ·rw [if_neg c,if_neg c]
  by_cases c2:1≤h∧h≤10
  ·rw [if_neg (Classical.not_not.mpr c2),if_neg (Classical.not_not.mpr c2)]
   by_cases c3:(atP1 ps p).1=h
   ·rw [if_pos c3,if_pos c3]
    exact .inr (.inr (.inl ⟨rfl,rfl⟩))
   ·rw [if_neg c3,if_neg c3]
    exact .inr (.inr (.inr ⟨rfl,rfl,by omega,by omega⟩))
  ·rw [if_pos c2,if_pos c2]
   exact .inr (.inl ⟨rfl,rfl⟩)
def partE (ps:List (Int×Int)) (p w:Int):Option Str:=if p < 1∨(ps.length:Int) < p then some "NoStrip" else if w < 1∨(atP1 ps p).2≤w then some "BadPart" else if 40≤ps.length then some "TooManyStrips" else none
def partL (ps:List (Int×Int)) (p w:Int):List (Int×Int):=ps.take (p - 1).toNat++[((atP1 ps p).1,w),((atP1 ps p).1,(atP1 ps p).2 - w)]++ps.drop p.toNat
def partK (ps:List (Int×Int)) (p w:Int):List Bool:=if p < 1∨(ps.length:Int) < p then [true,true,false,false] else if w < 1∨(atP1 ps p).2≤w then [true,false,true,false] else if 40≤ps.length then [true,false,false,true] else []
theorem Zm1 (ps:List (Int×Int)) (p w:Int):(partE ps p w=some ("NoStrip" : Str)∧partK ps p w=[true,true,false,false])∨(partE ps p w=some ("BadPart" : Str)∧partK ps p w=[true,false,true,false])∨(partE ps p w=some ("TooManyStrips" : Str)∧partK ps p w=[true,false,false,true])∨
  (partE ps p w=none∧partK ps p w=[]∧1≤p∧p≤ps.length∧1≤w∧w < (atP1 ps p).2∧ps.length < 40):=by
 unfold partE partK
 by_cases c:p < 1∨(ps.length:Int) < p
 ·rw [if_pos c,if_pos c]
  exact .inl ⟨rfl,rfl⟩
 ·rw [if_neg c,if_neg c]
  by_cases c2:w < 1∨(atP1 ps p).2≤w
  ·rw [if_pos c2,if_pos c2]
   exact .inr (.inl ⟨rfl,rfl⟩)
  ·rw [if_neg c2,if_neg c2]
   by_cases c3:40≤ps.length
   ·rw [if_pos c3,if_pos c3]
    exact .inr (.inr (.inl ⟨rfl,rfl⟩))
   ·rw [if_neg c3,if_neg c3]
    exact .inr (.inr (.inr ⟨rfl,rfl,by omega,by omega,by omega,by omega,by omega⟩))
theorem Zhp {ps:List (Int×Int)} {p:Int} (h1:1≤p) (h2:p≤ps.length):atP1 ps p∈ps:=by
 have hl:(p - 1).toNat < ps.length:=by omega
 unfold atP1
 rw [List.getD_eq_getElem?_getD,List.getElem?_eq_getElem hl]
 exact List.getElem_mem hl
theorem Zml {ps:List (Int×Int)} {p w:Int} (h1:1≤p):cutD (ps.map prD) none (some (p - 1))++[prD ((atP1 ps p).1,w),prD ((atP1 ps p).1,(atP1 ps p).2 - w)]++cutD (ps.map prD) (some p) none=(partL ps p w).map prD:=by
 rw [Zfu,Zfu,Zl0 ps (by omega),Zgh ps (by omega)]
 unfold partL
 rw [List.map_append,List.map_append]
 rfl
theorem Zoe {ps:List (Int×Int)} {p w:Int} (h1:1≤p) (h2:p≤ps.length):(partL ps p w).length=ps.length + 1:=by
 unfold partL
 rw [List.length_append,List.length_append,List.length_take,List.length_drop]
 simp
 omega
theorem Zlz {ps:List (Int×Int)} {p w:Int} (hF:Field ps) (h1:1≤p) (h2:p≤ps.length) (h3:1≤w) (h4:w < (atP1 ps p).2):Field (partL ps p w):=by
 obtain ⟨a1,a2,a3,a4⟩:=hF _ (Zhp h1 h2)
 intro q hq
 unfold partL at hq
 rcases List.mem_append.mp hq with hq | hq
 ·rcases List.mem_append.mp hq with hq | hq
  ·exact hF q (List.mem_of_mem_take hq)
  ·rcases List.mem_cons.mp hq with rfl | hq
   ·exact ⟨a1,a2,h3,by show w≤1000;omega⟩
   ·rw [List.mem_singleton] at hq
    subst hq
    exact ⟨a1,a2,by show 1≤_ - w;omega,by show _ - w≤1000;omega⟩
 ·exact hF q (List.mem_of_mem_drop hq)
theorem Zlm:∀ ks:List Bool,scalVs (ks.map D.bl)=some (ks.map V.bl)
 | []=>rfl
 | k :: r=>by
  rw [List.map_cons,List.map_cons]
  unfold scalVs
  rw [Zlm r]
  rfl
theorem Zl7:∀ ks:List Bool,(ks.map V.bl).all flatV=true
 | []=>rfl
 | k :: r=>by rw [List.map_cons,List.all_cons,Zl7 r];rfl
theorem Zrl (ks:List Bool):eqL (ks.map V.bl) (ks.map V.bl)=true:=by
 unfold eqL
 rw [decide_eq_true rfl,Bool.true_and,List.all_eq_true]
 intro j hj
 have hj':j < ks.length:=by simpa using List.mem_range.mp hj
 rw [List.getD_eq_getElem?_getD,List.getElem?_map,List.getElem?_eq_getElem hj']
 cases ks[j]<;>rfl
end Pu
namespace Pu
open PySem PySem.Spec PyProof.Rows L2 Own M
section
variable {K:PySem.W.Frag} {mg:Str→Option Value} {E:L2.St→XK}
end
end Pu
namespace Pu
open PySem PySem.Spec PyProof.Rows L2 Own M
end Pu
namespace Pu
open PySem PySem.Spec PyProof.Rows L2 Own
section
variable {K:PySem.W.Frag} {mg:Str→Option Value} {E:L2.St→XK}
end
end Pu
namespace Own
open PySem PySem.Spec PyProof.Rows L2 PySem.SeqAt PySem.MeetsSeq PySem.MeetsSeq2 PySem.MeetsSeq3 PySem.SeqRoads2
open AutoSeq1 (wpAny_loadPart')
section
variable {X:Cx} {K:PySem.W.Frag}
end
end Own
namespace Pu
open PySem PySem.Spec PyProof.Rows L2 Own M
section
variable {K:PySem.W.Frag} {mg:Str→Option Value} {E:L2.St→XK}
end
end Pu
namespace Own
open PySem PySem.Spec PyProof.Rows L2
section
variable {prog:Program} {w:World} {A:Around} {s:Shared} {E:Value→Shared→Prop}
end
section
variable {X:Cx} {K:PySem.W.Frag}
end
end Own
namespace Pu
open PySem PySem.Spec PyProof.Rows L2 Own M
section
variable {K:PySem.W.Frag} {mg:Str→Option Value} {E:L2.St→XK}
end
end Pu
namespace Pu
open PySem PySem.Spec PyProof.Rows L2 Own M
def wishE (ws:List (Int×Int)) (a b:Int):Option Str:=if ¬ (1≤a∧a≤10) then some "BadHolder" else if ¬ (1≤b∧b≤10) then some "BadHolder" else if a=b then some "LikeHolders" else if (a,b)∈ws then some "WishStands" else if 20≤ws.length then some "TooManyWishes" else none
def dropE (ws:List (Int×Int)) (a b:Int):Option Str:=if (a,b)∈ws then none else some "NoWish"
def dropL (ws:List (Int×Int)) (a b:Int):List (Int×Int):=ws.filter fun q=>!decide (q=(a,b))
def uniE (ps:List (Int×Int)) (p:Int):Option Str:=if p < 1∨(ps.length:Int)≤p then some "NoStrip" else if ¬ (atP1 ps p).1=(atP1 ps (p + 1)).1 then some "UnlikeHolders" else if 1000 < (atP1 ps p).2 + (atP1 ps (p + 1)).2 then some "TooWide" else none
def uniL (ps:List (Int×Int)) (p:Int):List (Int×Int):=ps.take (p - 1).toNat++[((atP1 ps p).1,(atP1 ps p).2 + (atP1 ps (p + 1)).2)]++ps.drop (p + 1).toNat
theorem Znx {ps:List (Int×Int)} {p:Int} (h1:1≤p):cutD (ps.map prD) none (some (p - 1))++[prD ((atP1 ps p).1,(atP1 ps p).2 + (atP1 ps (p + 1)).2)]++cutD (ps.map prD) (some (p + 1)) none=(uniL ps p).map prD:=by
 rw [Zfu,Zfu,Zl0 ps (by omega),Zgh ps (by omega)]
 unfold uniL
 rw [List.map_append,List.map_append]
 rfl
theorem Zpl {ps:List (Int×Int)} {p:Int} (h1:1≤p) (h2:p < ps.length):(uniL ps p).length + 1=ps.length:=by
 unfold uniL
 rw [List.length_append,List.length_append,List.length_take,List.length_drop]
 simp
 omega
theorem Znc {ps:List (Int×Int)} {p:Int} (hF:Field ps) (e:uniE ps p=none):Field (uniL ps p):=by
 unfold uniE at e
 split at e
 ·cases e
 split at e
 ·cases e
 split at e
 ·cases e
 rename_i c1 c2 c3
 obtain ⟨a1,a2,a3,a4⟩:=hF _ (Zhp (ps:=ps) (p:=p) (by omega) (by omega))
 obtain ⟨b1,b2,b3,b4⟩:=hF _ (Zhp (ps:=ps) (p:=p + 1) (by omega) (by omega))
 intro q hq
 unfold uniL at hq
 rcases List.mem_append.mp hq with hq | hq
 ·rcases List.mem_append.mp hq with hq | hq
  ·exact hF q (List.mem_of_mem_take hq)
  ·rw [List.mem_singleton] at hq
   subst hq
   exact ⟨a1,a2,by show 1≤_ + _;omega,by show _ + _≤1000;omega⟩
 ·exact hF q (List.mem_of_mem_drop hq)
theorem Zmw {ws:List (Int×Int)} {a b:Int} (h:Wishes ws) (e:wishE ws a b=none):Wishes (ws++[(a,b)]):=by
 unfold wishE at e
 split at e
 ·cases e
 split at e
 ·cases e
 split at e
 ·cases e
 split at e
 ·cases e
 split at e
 ·cases e
 rename_i c1 c2 c3 c4 c5
 obtain ⟨h1,h2,h3⟩:=h
 have k1:=Classical.not_not.mp c1
 have k2:=Classical.not_not.mp c2
 refine ⟨by rw [List.length_append,List.length_singleton];omega,?_,fun q hq=>?_⟩
 ·rw [List.nodup_append]
  exact ⟨h2,by simp,fun x hx y hy z=>by rw [List.mem_singleton] at hy;subst hy;exact c4 (z ▸ hx)⟩
 ·rcases List.mem_append.mp hq with hq | hq
  ·exact h3 q hq
  ·rw [List.mem_singleton] at hq
   subst hq
   exact ⟨⟨k1.1,k1.2,k2.1,k2.2⟩,c3⟩
theorem Zli {ws:List (Int×Int)} {a b:Int} (h:Wishes ws):Wishes (dropL ws a b):=
 ⟨Nat.le_trans (List.length_filter_le _ _) h.1,h.2.1.filter _,fun q hq=>h.2.2 q (List.mem_filter.mp hq).1⟩
theorem Zne:Wishes []:=⟨by decide,List.nodup_nil,fun q hq=>by cases hq⟩
def holdP (m:List Int) (k:Int):Int:=1 + (k * m.getD 1 0 + m.getD 2 0) % 10
end Pu
namespace Pu
open PySem PySem.Spec PyProof.Rows L2 Own M
end Pu
namespace Pu
open PySem PySem.Spec PyProof.Rows L2 Own M
end Pu
namespace Pu
open PySem PySem.Spec PyProof.Rows L2 Own M
def uniK (ps:List (Int×Int)) (p:Int):List Bool:=if p < 1∨(ps.length:Int)≤p then [true,true,false,false] else if ¬ (atP1 ps p).1=(atP1 ps (p + 1)).1 then [true,false,true,false] else if 1000 < (atP1 ps p).2 + (atP1 ps (p + 1)).2 then [true,false,false,true] else []
theorem Zny (ps:List (Int×Int)) (p:Int):(uniE ps p=some ("NoStrip" : Str)∧uniK ps p=[true,true,false,false])∨(uniE ps p=some ("UnlikeHolders" : Str)∧uniK ps p=[true,false,true,false])∨(uniE ps p=some ("TooWide" : Str)∧uniK ps p=[true,false,false,true])∨
  (uniE ps p=none∧uniK ps p=[]∧1≤p∧p < ps.length):=by
 unfold uniE uniK
 by_cases c:p < 1∨(ps.length:Int)≤p
 ·rw [if_pos c,if_pos c]
  exact .inl ⟨rfl,rfl⟩
 ·rw [if_neg c,if_neg c]
  by_cases c2:(atP1 ps p).1=(atP1 ps (p + 1)).1
  ·rw [if_neg (Classical.not_not.mpr c2),if_neg (Classical.not_not.mpr c2)]
   by_cases c3:1000 < (atP1 ps p).2 + (atP1 ps (p + 1)).2
   ·rw [if_pos c3,if_pos c3]
    exact .inr (.inr (.inl ⟨rfl,rfl⟩))
   ·rw [if_neg c3,if_neg c3]
    exact .inr (.inr (.inr ⟨rfl,rfl,by omega,by omega⟩))
  ·rw [if_pos c2,if_pos c2]
   exact .inr (.inl ⟨rfl,rfl⟩)
theorem Zot {ps:List (Int×Int)} {p:Int} (h1:1≤p) (h2:p < ps.length):atI (ps.map prD) p=some (prD (atP1 ps (p + 1))):=by
 have:=Zem (ps:=ps) (p:=p + 1) (by omega) (by omega)
 rwa [show p + 1 - 1=p by omega] at this
end Pu
namespace Pu
open PySem PySem.Spec PyProof.Rows L2 Own M
abbrev d3 (k:Str) (a b:Int):D:=.tup [.str k,.int a,.int b]
end Pu
namespace Own
open PySem PySem.Spec PyProof.Rows L2
section
variable {X:Cx} {e st:Expr} {te ts:TE} {pos p2:Pos}
end
end Own
namespace Pu
open PySem PySem.Spec PyProof.Rows L2 Own
section
variable {K:PySem.W.Frag} {mg:Str→Option Value} {E:L2.St→XK} {H:Hp}
end
end Pu
namespace M
open PySem PySem.Spec PyProof.Rows L2 Own Pu
end M
namespace Pu
open PySem PySem.Spec PyProof.Rows L2 Own
section
variable {K:PySem.W.Frag} {mg:Str→Option Value} {E:L2.St→XK}
def rNeT (K:PySem.W.Frag):R2:=fun x y H Q=>∃ (p q:Addr) (xs ys:List V),x=.ref p∧y=.ref q∧SqT K H p xs∧SqT K H q ys∧xs.all flatV=true∧ys.all flatV=true∧Q (.bl (!eqL xs ys)) H
theorem Zp8 {X:Cx} (hu:X.A.units < cLine) (hK:X.K=K:=by rfl):OpR X (compareOp .NotEq) (rNeT K):=by
 subst hK
 intro pins s σ H x y v u Q I rx ry h
 obtain ⟨p,q,xs,ys,rfl,rfl,hp,hq,f1,f2,k⟩:=h
 obtain rfl:v=Value.ref p:=rx
 obtain rfl:u=Value.ref q:=ry
 obtain ⟨us,r1,p1,_⟩:=I.tuple hp
 obtain ⟨ws,r2,p2,_⟩:=I.tuple hq
 have l1:=r1.length
 have l2:=r2.length
 refine SeqAt.RcNeAt.tuples p1 p2 hu (fun j h1 h2=>Zog r1 r2 f1 f2 j h1 h2) _ _ _ _ ⟨.bl (!eqL xs ys),H,I,?_,k⟩
 show _=Value.bool (!eqL xs ys)
 unfold eqL
 rw [List.size_toArray,List.size_toArray,← l1,← l2]
 by_cases e:xs.length=ys.length
 ·rw [decide_eq_true e,Bool.true_and,← e,Nat.min_self,beq_self_eq_true,Bool.and_true]
 ·rw [decide_eq_false e,Bool.false_and,beq_eq_false_iff_ne.mpr e,Bool.and_false]
def fNeT:S→S→(S→Prop)→Prop:=fun x y R=>∃ xs ys:List Int,x.d=.tup (xs.map D.int)∧y.d=.tup (ys.map D.int)∧R (.sh (.bl (!decide (xs=ys))))
theorem Zqf {ta tb:TE} {a b:PTE} (ha:SndE K mg E ta a) (hb:SndE K mg E tb b):SndE K mg E (tOp (rNeT K) ta tb) (p2 a b fNeT):=by
 refine se_2 ha hb fun H0 H H2 Z x y v u R Q s0 s1 hm tx ty h q=>?_
 obtain ⟨xs,ys,e1,e2,hR⟩:=h
 have rx:=tx.rp s0
 have ry:=ty.rp s0
 rw [e1] at rx
 rw [e2] at ry
 obtain ⟨p,us,rfl,hp,r1⟩:=Rp.tup_inv rx
 obtain ⟨p',ws,rfl,hp',r2⟩:=Rp.tup_inv ry
 rw [r1.ints] at hp
 rw [r2.ints] at hp'
 refine ⟨p,p',_,_,rfl,rfl,SqT.of hp,SqT.of hp',Zdd _,Zdd _,?_⟩
 rw [Zjl]
 exact q _ _ H2 hR (Same.refl _) (.bl _)
def fInt1:List S→(S→Prop)→Prop
 | [s],R=>(match s.d with | .int i=>R (.sh (.int i)) | .bl k=>R (.sh (.int (if k then 1 else 0))) | _=>False)
 | _,_=>False
theorem Zra {ta:TA} {r:PTA} (hr:SndA K mg E ta r):SndE K mg E (tCB (fun xs H Q=>(∃ i,xs=[.int i]∧Q (.int i) H)∨∃ k,xs=[.bl k]∧Q (.int (if k then 1 else 0)) H) ta) (pCB fInt1 r):=by
 refine Zkf hr fun H0 H H1 Z ss vs R Q s0 s1 hm tv h q=>?_
 unfold fInt1 at h
 split at h
 ·rename_i s
  obtain ⟨v,rfl,t1⟩:=tv.one_inv
  have rv:=t1.rp s0
  split at h
  ·rename_i i e
   rw [e] at rv
   exact .inl ⟨i,by rw [rv.int_inv],q _ _ H1 h (Same.refl _) (.int _)⟩
  ·rename_i k e
   rw [e] at rv
   exact .inr ⟨k,by rw [rv.bl_inv],q _ _ H1 h (Same.refl _) (.int _)⟩
  ·exact h.elim
 ·exact h.elim
theorem Zpf (p q:Int×Int):decide ([p.1,p.2]=[q.1,q.2])=decide (p=q):=by
 by_cases h:p=q
 ·rw [h,decide_eq_true rfl,decide_eq_true rfl]
 ·rw [decide_eq_false h,decide_eq_false]
  intro z
  simp only [List.cons.injEq,and_true] at z
  exact h (Prod.ext z.1 z.2)
theorem Zpk {p q:Int×Int} {R:S→Prop} (h:R (.sh (.bl (!decide (p=q))))):fNeT (.sh (prD p)) (.sh (prD q)) R:=by
 refine ⟨[p.1,p.2],[q.1,q.2],rfl,rfl,?_⟩
 have e:decide ([p.1,p.2]=[q.1,q.2])=decide (p=q):=by
  by_cases h:p=q
  ·rw [h,decide_eq_true rfl,decide_eq_true rfl]
  ·rw [decide_eq_false h,decide_eq_false]
   intro z
   simp only [List.cons.injEq,and_true] at z
   exact h (Prod.ext z.1 z.2)
 rw [e]
 exact h
end
end Pu
namespace Pu
open PySem PySem.Spec PyProof.Rows L2 Own
structure DI (K:PySem.W.Frag) (x:Str) (st:Stmt):Prop where
 ex:∃ f fd,PySem.W.nsIn K mainGlobals x=some (some (.ref f))∧Fun K x x st f fd
structure MI (K:PySem.W.Frag) (C:Addr) (m q:Str) (st:Stmt):Prop where
 ex:∃ f fd,PySem.W.findIn K (.ref C) m=some (some (.ref f))∧PySem.W.isFn K (.ref f)=true∧Fun K m q st f fd
section
variable {K:PySem.W.Frag} {h:Heap} {mg:Str→Option Value}
theorem di {x:Str} {st:Stmt} {f:Addr} {oc:Value} {od an:Option Addr} {osl:Array (Option Value)} {kV doc pm cdv ct:Value} (a:PySem.W.nsIn K mainGlobals x=some (some (.ref f))) (l:K.lookup f=some ⟨oc,od,.func (PySem.W.fnOf x x (defArgs st) (defBody st) (defScope st) .none kV doc pm an cdv ct),osl⟩)
  (c:PySem.W.codeIn K cdv x=true) (k:PySem.W.keepIn K (.ref f)=true):DI K x st:=⟨f,_,a,Zn6 l c k⟩
theorem mi {C:Addr} {m q:Str} {st:Stmt} {f:Addr} {oc:Value} {od an:Option Addr} {osl:Array (Option Value)} {kV doc pm cdv ct:Value} (a:PySem.W.findIn K (.ref C) m=some (some (.ref f))) (i:PySem.W.isFn K (.ref f)=true) (l:K.lookup f=some ⟨oc,od,.func (PySem.W.fnOf m q (defArgs st) (defBody st) (defScope st) .none kV doc pm an cdv ct),osl⟩)
  (c:PySem.W.codeIn K cdv q=true) (k:PySem.W.keepIn K (.ref f)=true):MI K C m q st:=⟨f,_,a,i,Zn6 l c k⟩
theorem DI.d {x:Str} {st:Stmt} {ps:List Str} (D:DI K x st) (X:K.In h) (G0:h.Ns mainGlobals mg)
  (b:∀ (kV doc pm:Value) (an:Option Addr) (cdv ct:Value) (us:List Value),us.length=ps.length→bindArgs (PySem.W.fnOf x x (defArgs st) (defBody st) (defScope st) .none kV doc pm an cdv ct) ⟨us,[]⟩=pure (ps.zip us)):Def K mg x st ps:=
 let ⟨_,_,a,F⟩:=D.ex
 ⟨_,_,F,PySem.W.mg_of X G0 a,F.binds b⟩
theorem MI.d {C C':Addr} {m q:Str} {st:Stmt} {ps:List Str} (D:MI K C m q st) (e:C'=C)
  (b:∀ (kV doc pm:Value) (an:Option Addr) (cdv ct:Value) (us:List Value),us.length=ps.length→bindArgs (PySem.W.fnOf m q (defArgs st) (defBody st) (defScope st) .none kV doc pm an cdv ct) ⟨us,[]⟩=pure (ps.zip us)):DefM K (Meth K C' m) m q st ps:=
 let ⟨_,_,a,i,F⟩:=D.ex
 ⟨_,_,F,by rw [e];exact ⟨a,i,F.kp⟩,F.binds b⟩
theorem MI.i {C C':Addr} {q:Str} {st:Stmt} {ps:List Str} (D:MI K C "__init__" q st) (e:C'=C) (mk:PySem.W.makesIn K C=true) (kc:PySem.W.keepIn K (.ref C)=true)
  (b:∀ (kV doc pm:Value) (an:Option Addr) (cdv ct:Value) (us:List Value),us.length=ps.length→bindArgs (PySem.W.fnOf "__init__" q (defArgs st) (defBody st) (defScope st) .none kV doc pm an cdv ct) ⟨us,[]⟩=pure (ps.zip us)):DefM K (Mk K C') "__init__" q st ps:=
 let ⟨_,_,a,i,F⟩:=D.ex
 ⟨_,_,F,by rw [e];exact ⟨mk,a,i,kc⟩,F.binds b⟩
end
theorem fs {N P:List Str} {sc:Scope} (h1:sc.kind=.function:=by rfl) (h2:sc.isCoroutine=false:=by rfl) (h3:sc.isGenerator=false:=by rfl) (h4:N.Nodup:=by decide +kernel) (h5:N.take P.length=P:=by rfl) (h6:∀ x∈P,sc.names.lookup x=some .local∨sc.names.lookup x=some .cell:=by decide +kernel) (h7:∀ y∈sc.names,y.2≠.free:=by decide +kernel):FnScope N P sc:=⟨h1,h2,h3,h4,h5,h6,h7⟩
theorem pz {X:Cx} {pos:Pos} {x:Str} {e:Expr} {te:TE} {pos':Pos} (i:Nat) (hN:X.N.Nodup) (he:PE X e te) (hi:X.N[i]?=some x:=by rfl) (hx:Loc X.env.scope x:=by first | exact Or.inl rfl | exact Or.inr rfl) (hs:swapsWith e (some (.Name x pos')) pos.line X.env=pure false:=by rfl) (hf:X.fn x=true∨X.env.scope.names.lookup x=some .local:=by first | exact .inl rfl | exact .inr rfl | assumption) :
  PS X (.Assign [.Name x pos'] e pos) (tAsg te (gName i)):=Zs hN hi hx he hs hf
end Pu
namespace Pu
open PySem PySem.Spec PyProof.Rows L2 Own
end Pu
namespace Pu
open PySem PySem.Spec PyProof.Rows L2 Own
section
variable {K:PySem.W.Frag} {mg:Str→Option Value} {E:L2.St→XK} {H0 H H1 H':Hp} {B Z Z':Addr→Prop} {σ:L2.St} {γ:Γ}
theorem EnvR.named {i:Nat} {a:Addr} {ds:List D} (env:EnvR K H0 B H σ γ) (hi:γ[i]?=some (some (.own (.lst ds)))) (ha:σ[i]?=some (some (.ref a))):EnvR K H0 B H σ (γ.set i (some (.own (.lsA a ds))))∧Fr B H σ γ H σ (γ.set i (some (.own (.lsA a ds)))):=by
 obtain ⟨v,hv,b,rfl,hb0,us,hb,rb⟩:=env.slot i _ hi
 rw [ha] at hv
 cases hv
 have hz:∀ b,zof B (γ.set i (some (.own (.lsA a ds)))) σ b→zof B γ σ b:=fun b z=>by
  rcases z with z | ⟨j,fs,a',e1,e2,e3⟩
  ·exact .inl z
  ·rcases Za9 e1 with ⟨ej,q,_⟩ | ⟨_,e⟩
   ·subst ej
    cases q
    rw [ha] at e2
    cases e2
    exact .inr ⟨j,_,a,hi,ha,e3⟩
   ·exact .inr ⟨j,fs,a',e,e2,e3⟩
 exact env.change (o:=.lst ds) (o':=.lsA a ds) hi ha (fun _ _ h _=>h) (fun b h=>by rw [show b=a from h,hb];trivial) (fun b h=>.inl h) ⟨rfl,us,hb,Rps.mono (Zau (Same.refl _) fun b _ _ z y=>z (hz b y)) rb⟩
def pNm (i:Nat) (p:PTS):PTS:=fun R γ=>match γ[i]? with
 | some (some (.own (.lst ds)))=>∀ a,p R (γ.set i (some (.own (.lsA a ds))))
 | _=>p R γ
theorem Zpr (i:Nat) {t:TS} {p:PTS} (hp:SndS K mg E t p):SndS K mg E t (pNm i p):=by
 intro H0 B H σ γ R D hB env h e
 unfold pNm at h
 split at h
 ·rename_i ds hi
  obtain ⟨v,hv,b,rfl,hb0,us,hb,rb⟩:=env.slot i _ hi
  obtain ⟨e1,f1⟩:=env.named hi hv
  exact hp H0 B H σ _ R D hB e1 (h b) (e.from f1)
 ·exact hp H0 B H σ γ R D hB env h e
theorem EnvR.change2 {i j:Nat} {a1 a2:Addr} {o1 o1' o2 o2':O} (E:EnvR K H0 B H σ γ) (hij:i≠j) (hi:γ[i]?=some (some (.own o1))) (hj:γ[j]?=some (some (.own o2))) (ha1:σ[i]?=some (some (.ref a1))) (ha2:σ[j]?=some (some (.ref a2)))
  (hH:∀ b x,H b=some x→¬ o1.adr a1 b→¬ o2.adr a2 b→H' b=some x) (hm:∀ b,o1.adr a1 b∨o2.adr a2 b→Mut (H' b)) (n1:∀ b,o1'.adr a1 b→o1.adr a1 b∨H b=none) (n2:∀ b,o2'.adr a2 b→o2.adr a2 b∨H b=none) (ap:∀ b,o1'.adr a1 b→¬ o2'.adr a2 b)
  (r1:OR K (Pu.off (zof B ((γ.set i (some (.own o1'))).set j (some (.own o2'))) σ) H') H' a1 o1') (r2:OR K (Pu.off (zof B ((γ.set i (some (.own o1'))).set j (some (.own o2'))) σ) H') H' a2 o2') :
  EnvR K H0 B H' σ ((γ.set i (some (.own o1'))).set j (some (.own o2')))∧Fr B H σ γ H' σ ((γ.set i (some (.own o1'))).set j (some (.own o2'))):=by
 generalize eg:(γ.set i (some (S.own o1'))).set j (some (.own o2'))=γ2 at r1 r2 ⊢
 have get:∀ (k:Nat) (s:S),γ2[k]?=some (some s)→(k=j∧s=.own o2')∨(k=i∧k≠j∧s=.own o1')∨(k≠i∧k≠j∧γ[k]?=some (some s)):=fun k s h=>by
  rw [← eg] at h
  rcases Za9 h with ⟨e1,e2,_⟩ | ⟨e1,e2⟩
  ·exact .inl ⟨e1,(Option.some.inj e2).symm⟩
  ·rcases Za9 e2 with ⟨f1,f2,_⟩ | ⟨f1,f2⟩
   ·exact .inr (.inl ⟨f1,e1,(Option.some.inj f2).symm⟩)
   ·exact .inr (.inr ⟨f1,e1,f2⟩)
 obtain ⟨v1,q1,x1,rfl,h1,k1⟩:=E.slot i _ hi
 rw [ha1] at q1
 cases q1
 obtain ⟨v2,q2,x2,rfl,h2,k2⟩:=E.slot j _ hj
 rw [ha2] at q2
 cases q2
 have za:∀ b,o1.adr a1 b∨o2.adr a2 b→zof B γ σ b:=fun b hb=>hb.elim (fun hb=>.inr ⟨i,o1,a1,hi,ha1,hb⟩) fun hb=>.inr ⟨j,o2,a2,hj,ha2,hb⟩
 have hz:∀ b x,H b=some x→zof B γ2 σ b→zof B γ σ b:=fun b x hx z=>by
  rcases z with z | ⟨k,fs,a',e1,e2,e3⟩
  ·exact .inl z
  ·rcases get k _ e1 with ⟨ek,es⟩ | ⟨ek,_,es⟩ | ⟨_,_,e⟩
   ·subst ek;cases es
    rw [ha2] at e2;cases e2
    rcases n2 b e3 with w | w
    ·exact za b (.inr w)
    ·rw [w] at hx;cases hx
   ·subst ek;cases es
    rw [ha1] at e2;cases e2
    rcases n1 b e3 with w | w
    ·exact za b (.inl w)
    ·rw [w] at hx;cases hx
   ·exact .inr ⟨k,fs,a',e,e2,e3⟩
 have hH':∀ b x,H b=some x→¬ (o1.adr a1 b∨o2.adr a2 b)→H' b=some x:=fun b x hx n=>hH b x hx (fun z=>n (.inl z)) fun z=>n (.inr z)
 have S1:Same (Pu.off (zof B γ σ) H) (Pu.off (zof B γ2 σ) H'):=fun b x h=>by
  obtain ⟨q1,q2⟩:=Ze3 h
  exact Zcb (hH' b x q1 fun k=>q2 (za b k)) fun z=>q2 (hz b x q1 z)
 have old:∀ (k:Nat) (ds:O) (a b:Addr),γ[k]?=some (some (.own ds))→σ[k]?=some (some (.ref a))→ds.adr a b→∃ o,H b=some o:=fun k ds a b e1 e2 e3=>by
  obtain ⟨u,q1,a',q2,_,q3⟩:=E.slot k _ e1
  rw [e2] at q1
  cases q1
  cases q2
  exact Zdp (q3.mut b e3)
 have apart1:∀ (k:Nat) (ds:O) (a b:Addr),k≠i→γ[k]?=some (some (.own ds))→σ[k]?=some (some (.ref a))→ds.adr a b→¬ o1'.adr a1 b:=fun k ds a b nk e1 e2 e3 w=>by
  rcases n1 b w with w | w
  ·exact nk (E.own k i a a1 ds o1 b e1 hi e2 ha1 e3 w)
  ·obtain ⟨u,hu⟩:=old k ds a b e1 e2 e3
   rw [w] at hu;cases hu
 have apart2:∀ (k:Nat) (ds:O) (a b:Addr),k≠j→γ[k]?=some (some (.own ds))→σ[k]?=some (some (.ref a))→ds.adr a b→¬ o2'.adr a2 b:=fun k ds a b nk e1 e2 e3 w=>by
  rcases n2 b w with w | w
  ·exact nk (E.own k j a a2 ds o2 b e1 hj e2 ha2 e3 w)
  ·obtain ⟨u,hu⟩:=old k ds a b e1 e2 e3
   rw [w] at hu;cases hu
 refine ⟨⟨fun b x h=>?_,by rw [← eg,List.length_set,List.length_set];exact E.len,fun b hb=>?_,fun k l x x' fs fs' b e1 e2 e3 e4 e5 e6=>?_,fun k s h=>?_⟩,fun b x h z=>⟨?_,fun y=>z (hz b x h y)⟩⟩
 ·exact hH' b x (E.same b x h) fun k=>by
   rcases k with k | k
   ·rw [h1 b k] at h;cases h
   ·rw [h2 b k] at h;cases h
 ·by_cases k:o1.adr a1 b∨o2.adr a2 b
  ·exact hm b k
  ·have:=E.bm b hb
   obtain ⟨x,hx⟩:=Zdp this
   rw [hH' b x hx k,← hx]
   exact this
 ·rcases get k _ e1 with ⟨ek,es⟩ | ⟨ek,nk,es⟩ | ⟨nk,nk',e⟩<;>rcases get l _ e2 with ⟨el,et⟩ | ⟨el,nl,et⟩ | ⟨nl,nl',e'⟩
  ·rw [ek,el]
  ·subst ek el;cases es;cases et
   rw [ha2] at e3;cases e3
   rw [ha1] at e4;cases e4
   exact absurd e5 (ap b e6)
  ·subst ek;cases es
   rw [ha2] at e3;cases e3
   exact absurd e5 (apart2 l fs' x' b nl' e' e4 e6)
  ·subst ek el;cases es;cases et
   rw [ha1] at e3;cases e3
   rw [ha2] at e4;cases e4
   exact absurd e6 (ap b e5)
  ·rw [ek,el]
  ·subst ek;cases es
   rw [ha1] at e3;cases e3
   exact absurd e5 (apart1 l fs' x' b nl e' e4 e6)
  ·subst el;cases et
   rw [ha2] at e4;cases e4
   exact absurd e6 (apart2 k fs x b nk' e e3 e5)
  ·subst el;cases et
   rw [ha1] at e4;cases e4
   exact absurd e6 (apart1 k fs x b nk e e3 e5)
  ·exact E.own k l x x' fs fs' b e e' e3 e4 e5 e6
 ·rcases get k s h with ⟨ek,es⟩ | ⟨ek,_,es⟩ | ⟨nk,nk',e⟩
  ·subst ek es
   exact ⟨_,ha2,a2,rfl,fun b hb=>(n2 b hb).elim (h2 b) fun w=>E.same.free w,r2⟩
  ·subst ek es
   exact ⟨_,ha1,a1,rfl,fun b hb=>(n1 b hb).elim (h1 b) fun w=>E.same.free w,r1⟩
  ·obtain ⟨v,q1,q2⟩:=E.slot k s e
   refine ⟨v,q1,?_⟩
   cases s with
   | bor d=>exact q2
   | sh d=>exact Rp.mono S1 q2
   | own fs=>
    obtain ⟨x,rfl,e3,e4⟩:=q2
    exact ⟨x,rfl,e3,e4.mono S1 fun b hb y e2=>hH b y e2 (fun w=>nk (E.own k i x a1 fs o1 b e hi q1 ha1 hb w)) fun w=>nk' (E.own k j x a2 fs o2 b e hj q1 ha2 hb w)⟩
   | view ds=>exact q2
   | tmp d=>exact q2
 ·exact hH' b x h fun k=>z (za b k)
abbrev Pw2:=O→O→List S→(O→O→D→Prop)→(O→O→Str→Prop)→Prop
def two (o1 o2:O) (a1 a2:Addr):Addr→Prop:=fun b=>o1.adr a1 b∨o2.adr a2 b
structure After2 (K:PySem.W.Frag) (B:Addr→Prop) (H:Hp) (a1 a2:Addr) (o1 o2 o1' o2':O) (H':Hp):Prop where
 same:Same (off (two o1 o2 a1 a2) H) H'
 old1:∀ b,o1.adr a1 b→o1'.adr a1 b
 old2:∀ b,o2.adr a2 b→o2'.adr a2 b
 new1:∀ b,o1'.adr a1 b→o1.adr a1 b∨H b=none
 new2:∀ b,o2'.adr a2 b→o2.adr a2 b∨H b=none
 apart:∀ b,o1'.adr a1 b→¬ o2'.adr a2 b
 at1:OR K (off (fun b=>B b∨two o1' o2' a1 a2 b) H') H' a1 o1'
 at2:OR K (off (fun b=>B b∨two o1' o2' a1 a2 b) H') H' a2 o2'
def spW2 (mg:Str→Option Value) (c:Pw2) (K:PySem.W.Frag):Sp:=fun vs H Q E=>∃ (o1 o2:O) (a1 a2:Addr) (ss:List S) (us:List V) (B:Addr→Prop) (R:O→O→D→Prop) (X:O→O→Str→Prop),
 vs=.ref a1 :: .ref a2 :: us∧(∀ b,B b→Mut (H b)∧¬ two o1 o2 a1 a2 b)∧(∀ b,o1.adr a1 b→¬ o2.adr a2 b)∧OR K (off (fun b=>B b∨two o1 o2 a1 a2 b) H) H a1 o1∧OR K (off (fun b=>B b∨two o1 o2 a1 a2 b) H) H a2 o2∧
 TVs K (fun b=>B b∨two o1 o2 a1 a2 b) (off (two o1 o2 a1 a2) H) H H ss us∧(∀ s∈ss,s.flat)∧c o1 o2 ss R X∧
 (∀ o1' o2' d v H',R o1' o2' d→After2 K B H a1 a2 o1 o2 o1' o2' H'→Rp K (off (fun b=>B b∨two o1' o2' a1 a2 b) H') d v→Q v H')∧∀ o1' o2' e H',X o1' o2' e→After2 K B H a1 a2 o1 o2 o1' o2' H'→E (.ref (ExcR.clsOf mg e)) none H'
def startW2 (N:List Str) (o1 o2:O) (ss:List S):Γ:=some (.own o1) :: some (.own o2) :: (ss.map some++List.replicate (N.length - (ss.length + 2)) none)
theorem Zlr {N:List Str} {o1 o2:O} {a1 a2:Addr} {ss:List S} {us:List V} (hB:∀ b,B b→Mut (H b)∧¬ two o1 o2 a1 a2 b) (ap:∀ b,o1.adr a1 b→¬ o2.adr a2 b) (ho1:OR K (off (fun b=>B b∨two o1 o2 a1 a2 b) H) H a1 o1) (ho2:OR K (off (fun b=>B b∨two o1 o2 a1 a2 b) H) H a2 o2)
  (r:TVs K (fun b=>B b∨two o1 o2 a1 a2 b) (off (two o1 o2 a1 a2) H) H H ss us) (hf:∀ s∈ss,s.flat) (hn:ss.length + 2≤N.length) :
  EnvR K (off (two o1 o2 a1 a2) H) B H (start N (.ref a1 :: .ref a2 :: us)) (startW2 N o1 o2 ss):=by
 have hlen:=r.len
 have get:∀ (i:Nat) (s:S),(startW2 N o1 o2 ss)[i + 2]?=some (some s)→ss[i]?=some s:=fun i s h=>by
  unfold startW2 at h
  rw [List.getElem?_cons_succ,List.getElem?_cons_succ] at h
  by_cases hi:i < ss.length
  ·rw [List.getElem?_append_left (by rw [List.length_map];exact hi),List.getElem?_map,List.getElem?_eq_getElem hi] at h
   rw [List.getElem?_eq_getElem hi]
   exact congrArg some (Option.some.inj (Option.some.inj h))
  ·rw [List.getElem?_append_right (by rw [List.length_map];omega),List.getElem?_replicate] at h
   split at h<;>cases h
 have noown:∀ (i:Nat) (es:O),(startW2 N o1 o2 ss)[i + 2]?≠some (some (.own es)):=fun i es h=>hf _ (List.mem_of_getElem? (get i _ h))
 have st0:(start N (V.ref a1 :: V.ref a2 :: us))[0]?=some (some (.ref a1)):=by
  unfold L2.start
  rfl
 have st1:(start N (V.ref a1 :: V.ref a2 :: us))[1]?=some (some (.ref a2)):=by
  unfold L2.start
  rfl
 have g0:∀ s,(startW2 N o1 o2 ss)[0]?=some (some s)→s=.own o1:=fun s h=>by
  have h:some (some (S.own o1))=some (some s):=h
  cases h
  rfl
 have g1:∀ s,(startW2 N o1 o2 ss)[1]?=some (some s)→s=.own o2:=fun s h=>by
  have h:some (some (S.own o2))=some (some s):=h
  cases h
  rfl
 have hz:∀ b,zof B (startW2 N o1 o2 ss) (start N (V.ref a1 :: V.ref a2 :: us)) b→B b∨two o1 o2 a1 a2 b:=fun b z=>by
  rcases z with z | ⟨i,es,a',h1,h2,h3⟩
  ·exact .inl z
  ·match i,h1,h2 with
   | 0,h1,h2=>
    rw [st0] at h2
    cases h2
    cases g0 _ h1
    exact .inr (.inl h3)
   | 1,h1,h2=>
    rw [st1] at h2
    cases h2
    cases g1 _ h1
    exact .inr (.inr h3)
   | i + 2,h1,_=>exact absurd h1 (noown i es)
 have toz:∀ {o:O} {a:Addr},OR K (off (fun b=>B b∨two o1 o2 a1 a2 b) H) H a o→OR K (off (zof B (startW2 N o1 o2 ss) (start N (V.ref a1 :: V.ref a2 :: us))) H) H a o:=fun h=>h.mono (Zau (Same.refl _) fun b _ _ z y=>z (hz b y)) fun _ _ _ q=>q
 refine ⟨off_sub,?_,fun b h=>(hB b h).1,fun i j x x' es es' b h1 h2 h3 h4 h5 h6=>?_,fun i s h=>?_⟩
 ·unfold L2.start startW2
  simp [hlen]
 ·match i,j,h1,h2,h3,h4 with
  | 0,0,_,_,_,_=>rfl
  | 1,1,_,_,_,_=>rfl
  | 0,1,h1,h2,h3,h4=>
   cases g0 _ h1
   cases g1 _ h2
   rw [st0] at h3
   cases h3
   rw [st1] at h4
   cases h4
   exact absurd h6 (ap b h5)
  | 1,0,h1,h2,h3,h4=>
   cases g1 _ h1
   cases g0 _ h2
   rw [st1] at h3
   cases h3
   rw [st0] at h4
   cases h4
   exact absurd h5 (ap b h6)
  | i + 2,_,h1,_,_,_=>exact absurd h1 (noown i es)
  | 0,j + 2,_,h2,_,_=>exact absurd h2 (noown j es')
  | 1,j + 2,_,h2,_,_=>exact absurd h2 (noown j es')
 ·match i,h with
  | 0,h=>
   cases g0 _ h
   refine ⟨_,st0,a1,rfl,fun b hb=>?_,toz ho1⟩
   unfold off
   rw [if_pos (.inl hb)]
  | 1,h=>
   cases g1 _ h
   refine ⟨_,st1,a2,rfl,fun b hb=>?_,toz ho2⟩
   unfold off
   rw [if_pos (.inr hb)]
  | i + 2,h=>
   have hs:=get i s h
   obtain ⟨v,hv,tv⟩:=r.get hs
   refine ⟨v,?_,?_⟩
   ·unfold L2.start
    rw [List.getElem?_append_left (by rw [List.length_map,List.length_cons,List.length_cons];have:=(List.getElem?_eq_some_iff.mp hv).1;omega),List.getElem?_map,List.getElem?_cons_succ,List.getElem?_cons_succ,hv]
    rfl
   ·have:=hf s (List.mem_of_getElem? hs)
    cases s with
    | bor d=>exact tv
    | sh d=>exact Rp.mono (Zau (Same.refl _) fun b _ _ z y=>z (hz b y)) tv
    | own _=>exact this.elim
    | view _=>exact this.elim
    | tmp _=>exact this.elim
def finW2 (o1 o2:O) (R:O→O→D→Prop) (γ:Γ) (d:D):Prop:=∃ o1' o2',γ[0]?=some (some (.own o1'))∧γ[1]?=some (some (.own o2'))∧o1.from o1'∧o2.from o2'∧R o1' o2' d
def finX2 (o1 o2:O) (X:O→O→Str→Prop) (γ:Γ) (e:Str):Prop:=∃ o1' o2',γ[0]?=some (some (.own o1'))∧γ[1]?=some (some (.own o2'))∧o1.from o1'∧o2.from o2'∧X o1' o2' e
def endsW2 (o1 o2:O) (R:O→O→D→Prop) (X:O→O→Str→Prop):PEnds:={ nx:=fun γ=>finW2 o1 o2 R γ .non,rt:=fun _=>False,ex:=finX2 o1 o2 X,rv:=finW2 o1 o2 R }
theorem Zic {a1 a2:Addr} {o1 o2 o1' o2':O} {σ':L2.St} {γ':Γ} (ho1:OR K (off (fun b=>B b∨two o1 o2 a1 a2 b) H) H a1 o1) (ho2:OR K (off (fun b=>B b∨two o1 o2 a1 a2 b) H) H a2 o2) (e:EnvR K (off (two o1 o2 a1 a2) H) B H' σ' γ') (h1:γ'[0]?=some (some (.own o1'))) (h2:γ'[1]?=some (some (.own o2'))) (k1:o1.from o1') (k2:o2.from o2') :
  After2 K B H a1 a2 o1 o2 o1' o2' H'∧∀ b,B b∨two o1' o2' a1 a2 b→zof B γ' σ' b:=by
 obtain ⟨v1,s1,x1,rfl,p1,q1⟩:=e.slot 0 _ h1
 obtain rfl:=O.from_at k1 ho1 q1
 obtain ⟨v2,s2,x2,rfl,p2,q2⟩:=e.slot 1 _ h2
 obtain rfl:=O.from_at k2 ho2 q2
 have hz:∀ b,B b∨two o1' o2' x1 x2 b→zof B γ' σ' b:=fun b z=>by
  rcases z with z | z | z
  ·exact .inl z
  ·exact .inr ⟨0,o1',x1,h1,s1,z⟩
  ·exact .inr ⟨1,o2',x2,h2,s2,z⟩
 have ap:∀ b,o1'.adr x1 b→¬ o2'.adr x2 b:=fun b z y=>absurd (e.own 0 1 x1 x2 o1' o2' b h1 h2 s1 s2 z y) (by decide)
 have fromZ:∀ {o:O} {a:Addr},OR K (off (zof B γ' σ') H') H' a o→OR K (off (fun b=>B b∨two o1' o2' x1 x2 b) H') H' a o:=fun h=>h.mono (Zau (Same.refl _) fun b _ _ z y=>z (hz b y)) fun _ _ _ q=>q
 have free:∀ b,off (two o1 o2 x1 x2) H b=none→two o1 o2 x1 x2 b∨H b=none:=fun b w=>by
  unfold off at w
  by_cases q:two o1 o2 x1 x2 b
  ·exact .inl q
  ·rw [if_neg q] at w
   exact .inr w
 refine ⟨⟨e.same,O.from_adr k1,O.from_adr k2,fun b hb=>?_,fun b hb=>?_,ap,fromZ q1,fromZ q2⟩,hz⟩
 ·rcases free b (p1 b hb) with (w | w) | w
  ·exact .inl w
  ·exact absurd (O.from_adr k2 b w) (ap b hb)
  ·exact .inr w
 ·rcases free b (p2 b hb) with (w | w) | w
  ·exact absurd hb (ap b (O.from_adr k1 b w))
  ·exact .inl w
  ·exact .inr w
theorem Zmd {c:Pw2} {N:List Str} {t:TS} {p:PTS} {vs:List V} {Q:VK} {Ec:XK} {n:Nat} (h:spW2 mg c K vs H Q Ec) (snd:SndS K mg (fun _=>Ec) t p) (hn:n + 2≤N.length)
  (hp:∀ o1 o2 ss R X,c o1 o2 ss R X→ss.length=n∧p (endsW2 o1 o2 R X) (startW2 N o1 o2 ss)):t { nx:=fun _ H'=>Q .non H',rt:=Q } (start N vs) H:=by
 obtain ⟨o1,o2,a1,a2,ss,us,B,R,X,rfl,hB,ap,ho1,ho2,r,hf,hc,hQ,hX⟩:=h
 obtain ⟨e,hp⟩:=hp o1 o2 ss R X hc
 have env:=Zlr (N:=N) hB ap ho1 ho2 r hf (by rw [e];exact hn)
 refine snd _ B H _ _ _ _ (fun b z=>?_) env hp ⟨fun σ' γ' H' h1 e1 f1=>?_,fun _ _ _ z=>z.elim,fun σ' γ' c H' h1 e1 f1=>?_,fun _ _ _ z=>z.elim,fun _ _ _ z=>z.elim,fun σ' γ' d v H' h1 e1 f1 rd=>?_⟩
 ·obtain ⟨q1,q2⟩:=hB b z
  obtain ⟨x,hx⟩:=Zdp q1
  exact ⟨x,Zcb hx q2⟩
 ·obtain ⟨o1',o2',q1,q2,q3,q4,q5⟩:=h1
  exact hQ o1' o2' .non .non H' q5 (Zic ho1 ho2 e1 q1 q2 q3 q4).1 .non
 ·obtain ⟨o1',o2',q1,q2,q3,q4,q5⟩:=h1
  exact hX o1' o2' c H' q5 (Zic ho1 ho2 e1 q1 q2 q3 q4).1
 ·obtain ⟨o1',o2',q1,q2,q3,q4,q5⟩:=h1
  obtain ⟨k1,k2⟩:=Zic ho1 ho2 e1 q1 q2 q3 q4
  exact hQ o1' o2' d v H' q5 k1 (Rp.mono (Zau (Same.refl _) fun b _ _ z y=>z (k2 b y)) rd)
theorem Zmk {c:Pw2} {vs:List V} {Q:VK} {Ec:XK} {n:Nat} (h:spW2 mg c K vs H Q Ec) (hn:∀ o1 o2 ss R X,c o1 o2 ss R X→ss.length=n):vs.length=n + 2:=by
 obtain ⟨o1,o2,a1,a2,ss,us,B,R,X,rfl,_,_,_,_,r,_,hc,_⟩:=h
 rw [List.length_cons,List.length_cons,r.len,hn o1 o2 ss R X hc]
theorem callW2 {c:Pw2} {i j:Nat} {o1 o2:O} {a1 a2:Addr} {ss ss':List S} {us:List V} {R:Γ→D→Prop} {X:Γ→Str→Prop} {Q:VK} {Ec:XK} (env:EnvR K H0 B H σ γ) (hB:∀ b,B b→∃ o,H0 b=some o) (S1:Same H H1) (hij:i≠j) (hi:γ[i]?=some (some (.own o1))) (hj:γ[j]?=some (some (.own o2))) (ha1:σ[i]?=some (some (.ref a1))) (ha2:σ[j]?=some (some (.ref a2)))
  (t1:TVs K (zof B γ σ) H0 H H1 ss us) (hp:passes ss=some ss') (hc:c o1 o2 ss' (fun o1' o2' d=>R ((γ.set i (some (.own o1'))).set j (some (.own o2'))) d) (fun o1' o2' e=>X ((γ.set i (some (.own o1'))).set j (some (.own o2'))) e))
  (q:∀ γ' d v H',R γ' d→EnvR K H0 B H' σ γ'→Fr B H σ γ H' σ γ'→Rp K (off (zof B γ' σ) H') d v→Q v H') (qx:∀ γ' c H',X γ' c→EnvR K H0 B H' σ γ'→Fr B H σ γ H' σ γ'→Ec (.ref (ExcR.clsOf mg c)) none H'):spW2 mg c K (.ref a1 :: .ref a2 :: us) H1 Q Ec:=by
 have env1:=env.grow S1
 obtain ⟨v1,h1,x1,e1,h3,h4⟩:=env1.slot i _ hi
 rw [ha1] at h1
 cases h1
 cases e1
 obtain ⟨v2,h2,x2,e2,h5,h6⟩:=env1.slot j _ hj
 rw [ha2] at h2
 cases h2
 cases e2
 have ap:∀ b,o1.adr a1 b→¬ o2.adr a2 b:=fun b z y=>hij (env.own i j a1 a2 o1 o2 b hi hj ha1 ha2 z y)
 have za:∀ b,two o1 o2 a1 a2 b→zof B γ σ b:=fun b hb=>hb.elim (fun hb=>.inr ⟨i,o1,a1,hi,ha1,hb⟩) fun hb=>.inr ⟨j,o2,a2,hj,ha2,hb⟩
 have h0:∀ b,two o1 o2 a1 a2 b→H0 b=none:=fun b hb=>hb.elim (h3 b) (h5 b)
 have down:∀ {o:O} {a:Addr},OR K (off (zof B γ σ) H1) H1 a o→OR K (off (fun b=>(zof B γ σ b∧¬ two o1 o2 a1 a2 b)∨two o1 o2 a1 a2 b) H1) H1 a o:=fun h=>h.mono (Zau (Same.refl _) fun b _ _ z y=>z (y.elim (fun y=>y.1) (za b))) fun _ _ _ q=>q
 have aft:∀ o1' o2' H',After2 K (fun b=>zof B γ σ b∧¬ two o1 o2 a1 a2 b) H1 a1 a2 o1 o2 o1' o2' H'→EnvR K H0 B H' σ ((γ.set i (some (.own o1'))).set j (some (.own o2')))∧Fr B H σ γ H' σ ((γ.set i (some (.own o1'))).set j (some (.own o2')))∧∀ b x,H' b=some x→¬ ((zof B γ σ b∧¬ two o1 o2 a1 a2 b)∨two o1' o2' a1 a2 b)→¬ zof B ((γ.set i (some (.own o1'))).set j (some (.own o2'))) σ b:=fun o1' o2' H' A=>by
  have hzz:∀ b x,H' b=some x→¬ ((zof B γ σ b∧¬ two o1 o2 a1 a2 b)∨two o1' o2' a1 a2 b)→¬ zof B ((γ.set i (some (.own o1'))).set j (some (.own o2'))) σ b:=fun b x _ n z=>by
   rcases z with z | ⟨k,fs,a',e1,e2,e3⟩
   ·refine n (.inl ⟨.inl z,fun w=>?_⟩)
    obtain ⟨u,hu⟩:=hB b z
    rw [h0 b w] at hu
    cases hu
   ·rcases Za9 e1 with ⟨ek,q,_⟩ | ⟨nk,q⟩
    ·subst ek
     cases q
     rw [ha2] at e2
     cases e2
     exact n (.inr (.inr e3))
    ·rcases Za9 q with ⟨ek,q',_⟩ | ⟨nk',q'⟩
     ·subst ek
      cases q'
      rw [ha1] at e2
      cases e2
      exact n (.inr (.inl e3))
     ·refine n (.inl ⟨.inr ⟨k,fs,a',q',e2,e3⟩,fun w=>?_⟩)
      rcases w with w | w
      ·exact nk' (env.own k i a' a1 fs o1 b q' hi e2 ha1 e3 w)
      ·exact nk (env.own k j a' a2 fs o2 b q' hj e2 ha2 e3 w)
  have up:∀ {o:O} {a:Addr},OR K (off (fun b=>(zof B γ σ b∧¬ two o1 o2 a1 a2 b)∨two o1' o2' a1 a2 b) H') H' a o→OR K (off (zof B ((γ.set i (some (.own o1'))).set j (some (.own o2'))) σ) H') H' a o:=fun h=>h.mono (Zau (Same.refl _) fun b x hx z=>hzz b x hx z) fun _ _ _ q=>q
  obtain ⟨k1,k2⟩:=env1.change2 (o1':=o1') (o2':=o2') (H':=H') hij hi hj ha1 ha2 (fun b x hx n1 n2=>A.same b x (Zcb hx fun w=>w.elim n1 n2)) (fun b hb=>hb.elim (fun hb=>A.at1.mut b (A.old1 b hb)) fun hb=>A.at2.mut b (A.old2 b hb)) A.new1 A.new2 A.apart (up A.at1) (up A.at2)
  exact ⟨k1,(Fr.grow S1).trans k2,hzz⟩
 refine ⟨o1,o2,a1,a2,ss',us,fun b=>zof B γ σ b∧¬ two o1 o2 a1 a2 b,_,_,rfl,fun b hb=>⟨env1.zm b hb.1,hb.2⟩,ap,down h4,down h6,?_,Zdr hp,hc,fun o1' o2' d v H' hR A rd=>?_,fun o1' o2' e H' hX A=>?_⟩
 ·refine t1.pass env1.same env.zm S1 (fun b x hx=>Zcb (env1.same b x hx) fun w=>?_) (Zau (Same.refl _) fun b _ _ z y=>z (y.elim (fun y=>y.1) (za b))) hp
  rw [h0 b w] at hx
  cases hx
 ·obtain ⟨k1,k2,k3⟩:=aft o1' o2' H' A
  exact q _ d v H' hR k1 k2 (Rp.mono (fun b x h=>let ⟨p1,p2⟩:=Ze3 h;Zcb p1 (k3 b x p1 p2)) rd)
 ·obtain ⟨k1,k2,_⟩:=aft o1' o2' H' A
  exact qx _ e H' hX k1 k2
def pCallW2 (i j:Nat) (c:Pw2) (r:PTA):PTW:=fun γ R X=>match γ[i]?,γ[j]? with
 | some (some (.own o1)),some (some (.own o2))=>r γ (fun ss=>match passes ss with | some ss'=>c o1 o2 ss' (fun o1' o2' d=>R ((γ.set i (some (.own o1'))).set j (some (.own o2'))) d) (fun o1' o2' e=>X ((γ.set i (some (.own o1'))).set j (some (.own o2'))) e) | none=>False) (X γ)
 | _,_=>False
def pCallW2N (i j:Nat) (c:Pw2) (r:PTA):PTW:=fun γ R X=>match γ[i]?,γ[j]? with
 | some (some (.own o1)),some (some (.own o2))=>r γ (fun ss=>match passes ss with | some ss'=>c o1 o2 ss' (fun o1' o2' d=>R ((γ.set i (some (.own o1'))).set j (some (.own o2'))) d) (fun _ _ _=>False) | none=>False) (X γ)
 | _,_=>False
theorem Zid (i j:Nat) (hij:i≠j) {c:Pw2} {ta:TA} {r:PTA} (hr:SndA K mg E ta r):SndW K mg E (tCall (spW2 mg c K) [] E0 (tCons (tVar i) (tCons (tVar j) ta))) (pCallW2N i j c r):=by
 intro H0 B H σ γ R X Q hB env h q qx
 unfold pCallW2N at h
 split at h
 ·rename_i o1 o2 hi hj
  obtain ⟨v1,hv1,a1,rfl,_,_⟩:=env.slot i _ hi
  obtain ⟨v2,hv2,a2,rfl,_,_⟩:=env.slot j _ hj
  refine ⟨_,hv1,_,hv2,hr H0 B H σ γ _ _ _ env h (fun ss us H1 h1 S1 t1=>?_) fun c H' hc S'=>qx γ c H' hc (env.grow S') (Fr.grow S')⟩
  show spW2 mg c K ((V.ref a1 :: V.ref a2 :: us)++[]) H1 Q E0
  rw [List.append_nil]
  split at h1
  ·rename_i ss' ep
   exact callW2 (X:=fun _ _=>False) env hB S1 hij hi hj hv1 hv2 t1 ep h1 q fun _ _ _ z=>z.elim
  ·exact h1.elim
 ·exact h.elim
abbrev PTV:=Γ→(Γ→Bool→Prop)→(Γ→Str→Prop)→Prop
def SndV (K:PySem.W.Frag) (mg:Str→Option Value) (E:L2.St→XK) (t:TT) (p:PTV):Prop:=∀ (H0:Hp) (B:Addr→Prop) (H:Hp) (σ:L2.St) (γ:Γ) (R:Γ→Bool→Prop) (X:Γ→Str→Prop) (Q:Bool→Hp→Prop),(∀ b,B b→∃ o,H0 b=some o)→EnvR K H0 B H σ γ→p γ R X→
 (∀ γ' b H',R γ' b→EnvR K H0 B H' σ γ'→Fr B H σ γ H' σ γ'→Q b H')→(∀ γ' c H',X γ' c→EnvR K H0 B H' σ γ'→Fr B H σ γ H' σ γ'→E σ (.ref (ExcR.clsOf mg c)) none H')→t σ H Q
def pVW (w:PTW):PTV:=fun γ R X=>w γ (fun γ' d=>match d with | .bl c=>R γ' c | _=>False) X
theorem sv_w {te:TE} {w:PTW} (hw:SndW K mg E te w):SndV K mg E (tTru K te) (pVW w):=by
 intro H0 B H σ γ R X Q hB env h q qx
 refine hw H0 B H σ γ _ _ _ hB env h (fun γ' d v H' h1 e1 f1 rd=>?_) qx
 split at h1
 ·rw [rd.bl_inv]
  exact ⟨_,rfl,q _ _ _ h1 e1 f1⟩
 ·exact h1.elim
def pVP (p:PTT):PTV:=fun γ R X=>p γ (fun b=>R γ b) (X γ)
theorem sv_p {t:TT} {p:PTT} (hp:SndT K mg E t p):SndV K mg E t (pVP p):=by
 intro H0 B H σ γ R X Q hB env h q qx
 exact hp H0 B H σ γ _ _ _ env h (fun b H' h1 S1=>q γ b H' h1 (env.grow S1) (Fr.grow S1)) fun c H' hc S1=>qx γ c H' hc (env.grow S1) (Fr.grow S1)
def pVNot (p:PTV):PTV:=fun γ R X=>p γ (fun γ' b=>R γ' (!b)) X
theorem Zqe {t:TT} {p:PTV} (hp:SndV K mg E t p):SndV K mg E (tNot t) (pVNot p):=by
 intro H0 B H σ γ R X Q hB env h q qx
 exact hp H0 B H σ γ _ _ _ hB env h (fun γ' b H' h1 e1 f1=>q γ' (!b) H' h1 e1 f1) qx
def pVOr (p r:PTV):PTV:=fun γ R X=>p γ (fun γ' b=>if b=true then R γ' true else r γ' R X) X
theorem Zsb {t u:TT} {p r:PTV} (hp:SndV K mg E t p) (hr:SndV K mg E u r):SndV K mg E (tOr t u) (pVOr p r):=by
 intro H0 B H σ γ R X Q hB env h q qx
 refine hp H0 B H σ γ _ _ _ hB env h (fun γ' b H' h1 e1 f1=>?_) qx
 cases b with
 | true=>exact q _ _ _ (by simpa using h1) e1 f1
 | false=>
  have h1':r γ' R X:=by simpa using h1
  exact hr H0 B H' σ γ' _ _ _ hB e1 h1' (fun γ2 b H2 h2 e2 f2=>q _ _ _ h2 e2 (f1.trans f2)) fun γ2 c H2 h2 e2 f2=>qx _ _ _ h2 e2 (f1.trans f2)
def pIfV (c:PTV) (p q:PTS):PTS:=fun R γ=>c γ (fun γ' b=>if b=true then p R γ' else q R γ') R.ex
theorem Zqi {tt:TT} {c:PTV} {t u:TS} {p q:PTS} (hc:SndV K mg E tt c) (hp:SndS K mg E t p) (hq:SndS K mg E u q):SndS K mg E (tIfS tt t u) (pIfV c p q):=by
 intro H0 B H σ γ R D hB env h e
 refine hc H0 B H σ γ _ _ _ hB env h (fun γ' b H' h1 e1 f1=>?_) fun γ' c H' h1 e1 f1=>e.ex _ _ _ _ h1 e1 f1
 cases b with
 | true=>
  rw [if_pos rfl]
  exact hp H0 B H' σ γ' R D hB e1 (by simpa using h1) (e.from f1)
 | false=>
  rw [if_neg (by decide)]
  exact hq H0 B H' σ γ' R D hB e1 (by simpa using h1) (e.from f1)
def pPopA (i:Nat):PTW:=fun γ R _=>match γ[i]? with
 | some (some (.own (.lsA x ds)))=>∃ d,ds[ds.length - 1]?=some d∧R (γ.set i (some (.own (.lsA x ds.dropLast)))) d
 | some (some (.own (.lst ds)))=>∃ d,ds[ds.length - 1]?=some d∧R (γ.set i (some (.own (.lst ds.dropLast)))) d
 | _=>False
theorem Zq4 (i:Nat):SndW K mg E (tBM0 K "list" rPop (tVar i)) (pPopA i):=by
 intro H0 B H σ γ R X Q hB env h q qx
 unfold pPopA at h
 split at h
 ·rename_i x ds hi
  obtain ⟨d,ed,h⟩:=h
  obtain ⟨v,hv,b,rfl,hb0,rfl,us,hb,rb⟩:=env.slot i _ hi
  obtain ⟨u,hu,ru⟩:=rb.get ed
  refine ⟨_,hv,.inl ⟨rfl,us,SqL.of hb⟩,b,us,u,rfl,rfl,hb,by rw [rb.len];exact hu,?_⟩
  obtain ⟨e2,f2⟩:=env.mutate (es:=.lsA b ds.dropLast) (us:=.lst us.dropLast) hi hv trivial fun F H' SF hF=>⟨rfl,_,hF,Rps.mono SF (Rps.dropLast rb)⟩
  exact q _ _ _ _ h e2 f2 (Rp.mono f2.off ru)
 ·rename_i ds hi
  obtain ⟨d,ed,h⟩:=h
  obtain ⟨v,hv,b,rfl,hb0,us,hb,rb⟩:=env.slot i _ hi
  obtain ⟨u,hu,ru⟩:=rb.get ed
  refine ⟨_,hv,.inl ⟨rfl,us,SqL.of hb⟩,b,us,u,rfl,rfl,hb,by rw [rb.len];exact hu,?_⟩
  obtain ⟨e2,f2⟩:=env.mutate (es:=.lst ds.dropLast) (us:=.lst us.dropLast) hi hv trivial fun F H' SF hF=>⟨_,hF,Rps.mono SF (Rps.dropLast rb)⟩
  exact q _ _ _ _ h e2 f2 (Rp.mono f2.off ru)
 ·exact h.elim
def pIxW (w:PTW) (k:Int):PTW:=fun γ R X=>w γ (fun γ' d=>match d with | .tup ds=>∃ e,atI ds k=some e∧R γ' e | _=>False) X
theorem Zsa {te:TE} {w:PTW} {k:Int} (hw:SndW K mg E te w):SndW K mg E (tOp (fun x y H Q=>rIxL K x y H Q∨rIxT K x y H Q) te (tC (.int k))) (pIxW w k):=by
 intro H0 B H σ γ R X Q hB env h q qx
 refine hw H0 B H σ γ _ _ _ hB env h (fun γ' d v H' h1 e1 f1 rd=>?_) qx
 split at h1
 ·rename_i ds
  obtain ⟨e,he,h1⟩:=h1
  obtain ⟨a,vs,rfl,ha,r⟩:=Rp.tup_inv rd
  obtain ⟨u,hu,ru⟩:=r.at he
  exact .inr ⟨a,vs,k,u,rfl,rfl,SqT.of (off_sub _ _ ha),hu,q _ _ _ _ h1 e1 f1 ru⟩
 ·exact h1.elim
abbrev Pq:=List S→(S→Prop)→(Str→Prop)→Prop
def spS (mg:Str→Option Value) (c:Pq) (K:PySem.W.Frag):Sp:=fun vs H Q E=>∃ (ss:List S) (B:Addr→Prop) (R:S→Prop) (X:Str→Prop),(∀ b,B b→Mut (H b))∧TVs K B H H H ss vs∧(∀ s∈ss,s.flat)∧c ss R X∧
 (∀ s v H',R s→Same H H'→TV K B H H H' s v→Q v H')∧∀ e H',X e→Same H H'→E (.ref (ExcR.clsOf mg e)) none H'
def startS (N:List Str) (ss:List S):Γ:=ss.map some++List.replicate (N.length - ss.length) none
theorem Zm4 {N:List Str} {ss:List S} {us:List V} (hB:∀ b,B b→Mut (H b)) (r:TVs K B H H H ss us) (hf:∀ s∈ss,s.flat) (hn:ss.length≤N.length):EnvR K H B H (start N us) (startS N ss):=by
 have hlen:=r.len
 have get:∀ (i:Nat) (s:S),(startS N ss)[i]?=some (some s)→ss[i]?=some s:=fun i s h=>by
  unfold startS at h
  by_cases hi:i < ss.length
  ·rw [List.getElem?_append_left (by rw [List.length_map];exact hi),List.getElem?_map,List.getElem?_eq_getElem hi] at h
   rw [List.getElem?_eq_getElem hi]
   exact congrArg some (Option.some.inj (Option.some.inj h))
  ·rw [List.getElem?_append_right (by rw [List.length_map];omega),List.getElem?_replicate] at h
   split at h<;>cases h
 have noown:∀ (i:Nat) (es:O),(startS N ss)[i]?≠some (some (.own es)):=fun i es h=>hf _ (List.mem_of_getElem? (get i _ h))
 have hz:∀ b,zof B (startS N ss) (start N us) b→B b:=fun b z=>by
  rcases z with z | ⟨i,es,a',h1,h2,h3⟩
  ·exact z
  ·exact absurd h1 (noown i es)
 refine ⟨Same.refl _,?_,hB,fun i j x x' es es' b h1 _ _ _ _ _=>absurd h1 (noown i es),fun i s h=>?_⟩
 ·unfold L2.start startS
  simp [hlen]
 ·have hs:=get i s h
  obtain ⟨v,hv,tv⟩:=r.get hs
  refine ⟨v,?_,?_⟩
  ·unfold L2.start
   rw [List.getElem?_append_left (by rw [List.length_map];exact (List.getElem?_eq_some_iff.mp hv).1),List.getElem?_map,hv]
   rfl
  ·have:=hf s (List.mem_of_getElem? hs)
   cases s with
   | bor d=>exact tv
   | sh d=>exact Rp.mono (Zau (Same.refl _) fun b _ _ z y=>z (hz b y)) tv
   | own _=>exact this.elim
   | view _=>exact this.elim
   | tmp _=>exact this.elim
theorem Zll {c:Pq} {N:List Str} {t:TS} {p:PTS} {vs:List V} {Q:VK} {Ec:XK} {n:Nat} (h:spS mg c K vs H Q Ec) (snd:SndS K mg (fun _=>Ec) t p) (hn:n≤N.length)
  (hp:∀ ss R X,c ss R X→ss.length=n∧p { nx:=fun _=>R (.sh .non),rt:=R,ex:=fun _ e=>X e } (startS N ss)):t { nx:=fun _ H'=>Q .non H',rt:=Q } (start N vs) H:=by
 obtain ⟨ss,B,R,X,hB,r,hf,hc,hQ,hX⟩:=h
 obtain ⟨e,hp⟩:=hp ss R X hc
 exact snd H B H _ _ _ _ (fun b z=>Zdp (hB b z)) (Zm4 hB r hf (by rw [e];exact hn)) hp ⟨fun σ' γ' H' h1 e1 f1=>hQ _ _ H' h1 e1.same .non,fun s v H' h1 S1 tv=>hQ s v H' h1 S1 tv,fun σ' γ' c H' h1 e1 f1=>hX c H' h1 e1.same,fun _ _ _ z=>z.elim,fun _ _ _ z=>z.elim,fun _ _ _ _ _ z=>z.elim⟩
theorem Zlt {c:Pq} {vs:List V} {Q:VK} {Ec:XK} {n:Nat} (h:spS mg c K vs H Q Ec) (hn:∀ ss R X,c ss R X→ss.length=n):vs.length=n:=by
 obtain ⟨ss,B,R,X,_,r,_,hc,_⟩:=h
 rw [r.len]
 exact hn ss R X hc
theorem TV.backS {s:S} {v:V} (env:EnvR K H0 B H1 σ γ) (S1:Same H H1) (S2:Same H1 H') (h:TV K (zof B γ σ) H1 H1 H' s v):TV K (zof B γ σ) H0 H H' s.back v:=by
 cases s with
 | bor d=>exact argTR (fun b z=>Zdm S2 (env.zm b z)) (Rp.mono S2 h)
 | sh d=>exact h
 | own ds=>
  obtain ⟨a,rfl,e0,r⟩:=h
  exact ⟨a,rfl,(fun b hb=>S1.free (e0 b hb)),r⟩
 | view ds=>
  obtain ⟨a,rfl,r⟩:=h
  exact r.rp off_sub
 | tmp d=>exact h
theorem TV.passS {s s':S} {v:V} (env:EnvR K H0 B H1 σ γ) (hm:∀ b,zof B γ σ b→Mut (H b)) (S1:Same H H1) (h:TV K (zof B γ σ) H0 H H1 s v) (e:s.pass=some s'):TV K (zof B γ σ) H1 H1 H1 s' v:=by
 have shd:∀ d,s.shd=some d→Rp K (off (zof B γ σ) H1) d v:=fun d ed=>h.shd env.same hm S1 ed
 cases s with
 | sh d=>cases e;exact shd _ rfl
 | own o=>cases e;exact shd _ rfl
 | view o=>cases e
 | tmp d=>
  unfold S.pass at e
  cases q:imm d with
  | false=>simp [q] at e
  | true=>simp [q] at e;subst e;exact shd d (by unfold S.shd;simp [q])
 | bor d=>
  unfold S.pass at e
  cases q:imm d with
  | false=>simp [q] at e;subst e;exact Rp.mono env.same h
  | true=>simp [q] at e;subst e;exact shd d (by unfold S.shd;simp [q])
theorem TVs.passS (env:EnvR K H0 B H1 σ γ) (hm:∀ b,zof B γ σ b→Mut (H b)) (S1:Same H H1):∀ {ss ss':List S} {vs:List V},TVs K (zof B γ σ) H0 H H1 ss vs→passes ss=some ss'→TVs K (zof B γ σ) H1 H1 H1 ss' vs
 | _,_,_,.nil,e=>by cases e;exact .nil
 | _,_,_,.cons h r,e=>by
  unfold passes at e
  split at e
  ·rename_i s1 r1 e1 e2
   cases e
   exact .cons (h.passS env hm S1 e1) (TVs.passS env hm S1 r e2)
  ·cases e
def pCallQ (c:Pq) (r:PTA):PTE:=fun γ R X=>r γ (fun ss=>match passes ss with | some ss'=>c ss' (fun s=>R s.back) (fun _=>False) | none=>False) X
theorem Zjy {c:Pq} {ta:TA} {r:PTA} (hr:SndA K mg E ta r):SndE K mg E (tCall (spS mg c K) [] E0 ta) (pCallQ c r):=by
 intro H0 B H σ γ R X Q env p q qx
 refine hr H0 B H σ γ _ X _ env p (fun ss vs H1 h1 S1 t1=>?_) qx
 rw [List.append_nil]
 have env1:=env.grow S1
 split at h1
 ·rename_i ss' ep
  exact ⟨ss',zof B γ σ,_,_,env1.zm,t1.passS env1 env.zm S1 ep,Zdr ep,h1,fun s v H' hs S2 tv=>q _ _ H' hs (S1.trans S2) (tv.backS env1 S1 S2),fun _ _ z=>z.elim⟩
 ·exact h1.elim
def pSlV (a:PTE) (l u:PTO):PTE:=fun γ R X=>a γ (fun s=>l γ (fun lo=>u γ (fun hi=>match s.d with | .lst ds=>R (.tmp (.lst (cutD ds lo hi))) | _=>False) X) X) X
def pIBc (a:PTE) (l u:PTO):PTI:=fun γ R X=>a γ (fun s=>l γ (fun lo=>u γ (fun hi=>match s with
 | .bor d=>(match d.strip with | .lst ds=>R (cutD ds lo hi).length (fun i=>arg ((cutD ds lo hi).getD i .non)) | _=>False)
 | _=>False) X) X) X
theorem Zou {te:TE} {tl th:TO} {a:PTE} {l u:PTO} (ha:SndE K mg E te a) (hl:SndO K mg E tl l) (hu:SndO K mg E th u):SndIc K mg E (iList K (tSl (rSlL K) te tl th)) (pIBc a l u):=by
 intro H0 B H σ γ R X Q env p q qx
 refine ha H0 B H σ γ _ X _ env p (fun x v H1 h1 S1 t1=>?_) qx
 refine hl H0 B H1 σ γ _ X _ (env.grow S1) h1 (fun lo H2 h2 S2=>?_) fun c H' hc S'=>qx c H' hc (S1.trans S')
 refine hu H0 B H2 σ γ _ X _ ((env.grow S1).grow S2) h2 (fun hi H3 h3 S3=>?_) fun c H' hc S'=>qx c H' hc ((S1.trans S2).trans S')
 have S13:=(S1.trans S2).trans S3
 have env3:=env.grow S13
 split at h3
 ·rename_i d
  split at h3
  ·rename_i ds ed
   have t1:=Rp.strip t1
   rw [ed] at t1
   obtain ⟨b,us,rfl,hb,r⟩:=Rp.lst_inv t1
   refine ⟨b,us,rfl,SqL.of (env3.same _ _ hb),fun m nm=>?_⟩
   have S4:Same H3 (upd H3 m (.lst (cutV us lo hi))):=Zcq nm
   have rc:Rps K H0 (cutD ds lo hi) (cutV us lo hi):=r.cut
   refine ⟨m,rfl,⟨_,SqL.of Zbg⟩,q _ _ _ _ h3 (S13.trans S4) ⟨fun i H' Z' hlt S5 lt=>?_,fun H' Z' S5 lt=>⟨_,SqL.of (S5 _ _ Zbg),by rw [rc.len];exact Nat.le_refl _⟩⟩⟩
   have hd:(cutD ds lo hi)[i]?=some ((cutD ds lo hi).getD i .non):=by rw [List.getD_eq_getElem?_getD,List.getElem?_eq_getElem hlt];rfl
   obtain ⟨u,h4,h5⟩:=rc.get hd
   have tu:TV K Z' H0 H' H' (arg ((cutD ds lo hi).getD i .non)) u:=argR lt.2.1 lt.1 h5
   refine ⟨⟨_,u,SqL.of (S5 _ _ Zbg),h4⟩,fun x H'' y=>?_⟩
   obtain ⟨rfl,y⟩:=y
   have:=y _ (SqL.of (S5 _ _ Zbg))
   rw [h4] at this
   cases this
   exact ⟨Same.refl _,tu⟩
  ·exact h3.elim
 ·exact h3.elim
theorem Zpn {α:Type} {φ:List (Option Nat)} {γ:Γ} {g:PTG} {c:PTT} {e:PTE} {R:S→Prop} {xs:List α} {emb:α→D} (f:α→Option D) (hz:xs.length≤100000)
  (turn:∀ x∈xs,g (arg (emb x)) (atP φ γ) fun γ2=>c γ2 (fun b=>if b=true then e γ2 (fun s=>∃ d,s.shd=some d∧f x=some d) (fun _=>False) else f x=none) fun _=>False)
  (done:R (.own (xs.filterMap f))) :
  CompW φ γ g c e (xs.map emb).length (fun i=>arg ((xs.map emb).getD i .non)) R:=by
 refine ⟨⟨by rw [List.length_map];exact hz,fun i=>(xs[i]?).bind f,fun i hi=>?_,?_⟩⟩
 ·rw [List.length_map] at hi
  have t:=turn xs[i] (List.getElem_mem hi)
  have e1:(xs[i]?).bind f=f xs[i]:=by rw [List.getElem?_eq_getElem hi];rfl
  have e2:(xs.map emb).getD i .non=emb xs[i]:=by rw [List.getD_eq_getElem?_getD,List.getElem?_map,List.getElem?_eq_getElem hi];rfl
  show g (arg ((xs.map emb).getD i .non)) (atP φ γ) fun γ2=>c γ2 (fun b=>if b=true then e γ2 (fun s=>∃ d,s.shd=some d∧(xs[i]?).bind f=some d) (fun _=>False) else (xs[i]?).bind f=none) fun _=>False
  rw [e1,e2]
  exact t
 ·have:(List.range (xs.map emb).length).filterMap (fun i=>(xs[i]?).bind f)=xs.filterMap f:=by
   rw [List.length_map]
   have key:∀ l:List α,(List.range l.length).filterMap (fun i=>(l[i]?).bind f)=l.filterMap f:=fun l=>by
    induction l with
    | nil=>rfl
    | cons x r ih=>
     rw [List.length_cons,List.range_succ_eq_map,List.filterMap_cons,List.filterMap_map,List.filterMap_cons]
     simp only [List.getElem?_cons_zero,Option.bind_some]
     have e:((fun i=>((x :: r)[i]?).bind f)∘Nat.succ)=fun i=>(r[i]?).bind f:=by
      funext i
      simp
     rw [e,ih]
   exact key xs
  rw [this]
  exact done
def pSlN (a:PTE) (l u:PTO):PTE:=fun γ R X=>a γ (fun s=>l γ (fun lo=>u γ (fun hi=>match s.d with | .scr ns=>R (.own ((cutD ns lo hi).map D.int)) | _=>False) X) X) X
theorem Znw (ns:List Int) (lo hi:Option Int):cutV (ns.map V.int) lo hi=(cutD ns lo hi).map V.int:=by
 unfold cutV cutD
 rw [List.length_map,List.map_take,List.map_drop]
theorem Zn1 {te:TE} {tl th:TO} {a:PTE} {l u:PTO} (ha:SndE K mg E te a) (hl:SndO K mg E tl l) (hu:SndO K mg E th u):SndE K mg E (tSl (rSlL K) te tl th) (pSlN a l u):=by
 intro H0 B H σ γ R X Q env p q qx
 refine ha H0 B H σ γ _ X _ env p (fun x v H1 h1 S1 t1=>?_) qx
 refine hl H0 B H1 σ γ _ X _ (env.grow S1) h1 (fun lo H2 h2 S2=>?_) fun c H' hc S'=>qx c H' hc (S1.trans S')
 refine hu H0 B H2 σ γ _ X _ ((env.grow S1).grow S2) h2 (fun hi H3 h3 S3=>?_) fun c H' hc S'=>qx c H' hc ((S1.trans S2).trans S')
 have S13:=(S1.trans S2).trans S3
 split at h3
 ·rename_i ns e
  have rx:=(t1.grow (S2.trans S3)).rp (env.grow S13).same
  rw [e] at rx
  obtain ⟨b,rfl,hb⟩:=rx.scr_inv
  refine ⟨b,_,rfl,hb,fun m nm=>?_⟩
  rw [Znw]
  exact q _ _ _ h3 (S13.trans (Zcq nm)) (Zgz S13 nm (Rps.of_ints _))
 ·exact h3.elim
end
end Pu
namespace Pu
open PySem PySem.Spec PyProof.Rows L2 Own M
inductive Dd where
 | sell (p h:Int) | part (p w:Int) | unite (p:Int) | wish (a b:Int) | drop (a b:Int)
def Dd.q:Dd→Str×List Int
 | .sell p h=>("sell",[p,h]) | .part p w=>("part",[p,w]) | .unite p=>("unite",[p]) | .wish a b=>("wish",[a,b]) | .drop a b=>("drop",[a,b])
def Dd.land:Dd→Bool
 | .sell _ _=>true | .part _ _=>true | .unite _=>true | _=>false
def Dd.err (f w:List (Int×Int)):Dd→Option Str
 | .sell p h=>soldE f p h | .part p v=>partE f p v | .unite p=>uniE f p | .wish a b=>wishE w a b | .drop a b=>dropE w a b
def Dd.fld (f:List (Int×Int)):Dd→List (Int×Int)
 | .sell p h=>soldL f p h | .part p v=>partL f p v | .unite p=>uniL f p | _=>f
def Dd.wsh (w:List (Int×Int)):Dd→List (Int×Int)
 | .wish a b=>w++[(a,b)] | .drop a b=>dropL w a b | _=>w
def codeN:Option Str→Int
 | none=>0
 | some c=>if c=("NoStrip" : Str) then 1 else if c=("BadHolder" : Str) then 2 else if c=("OwnStrip" : Str) then 3 else if c=("BadPart" : Str) then 4 else if c=("TooManyStrips" : Str) then 5 else if c=("UnlikeHolders" : Str) then 6 else if c=("TooWide" : Str) then 7 else if c=("LikeHolders" : Str) then 8 else if c=("WishStands" : Str) then 9 else if c=("TooManyWishes" : Str) then 10 else 11
theorem Zde:codeN (some "NoStrip")=1:=by decide +kernel
theorem Zcf:codeN (some "BadHolder")=2:=by decide +kernel
theorem Zet:codeN (some "OwnStrip")=3:=by decide +kernel
theorem Zd5:codeN (some "BadPart")=4:=by decide +kernel
theorem Zcw:codeN (some "TooManyStrips")=5:=by decide +kernel
theorem Zcv:codeN (some "UnlikeHolders")=6:=by decide +kernel
theorem Zfe:codeN (some "TooWide")=7:=by decide +kernel
theorem Zdf:codeN (some "LikeHolders")=8:=by decide +kernel
theorem Zdq:codeN (some "WishStands")=9:=by decide +kernel
theorem Zcs:codeN (some "TooManyWishes")=10:=by decide +kernel
theorem Zf8:codeN (some "NoWish")=11:=by decide +kernel
def Dd.fld' (f:List (Int×Int)) (x:Dd):List (Int×Int):=if x.err f []=none then x.fld f else f
def Dd.wsh' (w:List (Int×Int)) (x:Dd):List (Int×Int):=if x.err [] w=none then x.wsh w else w
end Pu
namespace Pu
open PySem PySem.Spec PyProof.Rows L2 Own M
def Dd.nf (f w:List (Int×Int)) (x:Dd):List (Int×Int):=if x.err f w=none then x.fld f else f
def Dd.nw (f w:List (Int×Int)) (x:Dd):List (Int×Int):=if x.err f w=none then x.wsh w else w
theorem Dd.err_land {x:Dd} (h:x.land=true) (f w u:List (Int×Int)):x.err f w=x.err f u:=by
 cases x<;>first | rfl | cases h
theorem Dd.err_wish {x:Dd} (h:x.land=false) (f g w:List (Int×Int)):x.err f w=x.err g w:=by
 cases x<;>first | rfl | cases h
def kind12 (c:Int):List Bool:=if c=0 then [true] else true :: (List.range 12).map fun i:Nat=>decide ((1:Int) + (i:Int)=c)
theorem Dd.err_cases (f w : List (Int × Int)) (x : Dd) : x.err f w = none ∨ x.err f w = some ("NoStrip" : Str) ∨ x.err f w = some ("BadHolder" : Str) ∨ x.err f w = some ("OwnStrip" : Str) ∨ x.err f w = some ("BadPart" : Str) ∨ x.err f w = some ("TooManyStrips" : Str) ∨ x.err f w = some ("UnlikeHolders" : Str) ∨ x.err f w = some ("TooWide" : Str) ∨ x.err f w = some ("LikeHolders" : Str) ∨ x.err f w = some ("WishStands" : Str) ∨ x.err f w = some ("TooManyWishes" : Str) ∨ x.err f w = some ("NoWish" : Str) := by
  cases x with
  | sell p h => show soldE f p h = _ ∨ soldE f p h = _ ∨ soldE f p h = _ ∨ soldE f p h = _ ∨ _; unfold soldE; repeat' split
                all_goals simp
  | part p h => show partE f p h = _ ∨ partE f p h = _ ∨ partE f p h = _ ∨ partE f p h = _ ∨ partE f p h = _ ∨ partE f p h = _ ∨ _; unfold partE; repeat' split
                all_goals simp
  | unite p => show uniE f p = _ ∨ uniE f p = _ ∨ uniE f p = _ ∨ uniE f p = _ ∨ uniE f p = _ ∨ uniE f p = _ ∨ uniE f p = _ ∨ uniE f p = _ ∨ _; unfold uniE; repeat' split
               all_goals simp
  | wish a b => show wishE w a b = _ ∨ wishE w a b = _ ∨ wishE w a b = _ ∨ wishE w a b = _ ∨ wishE w a b = _ ∨ wishE w a b = _ ∨ wishE w a b = _ ∨ wishE w a b = _ ∨ wishE w a b = _ ∨ wishE w a b = _ ∨ wishE w a b = _ ∨ _; unfold wishE; repeat' split
                all_goals simp
  | drop a b => show dropE w a b = _ ∨ dropE w a b = _ ∨ dropE w a b = _ ∨ dropE w a b = _ ∨ dropE w a b = _ ∨ dropE w a b = _ ∨ dropE w a b = _ ∨ dropE w a b = _ ∨ dropE w a b = _ ∨ dropE w a b = _ ∨ dropE w a b = _ ∨ dropE w a b = _; unfold dropE; repeat' split
                all_goals simp
end Pu
namespace Pu
open PySem PySem.Spec PyProof.Rows L2 Own M
abbrev Hist:=List (Dd×List (Int×Int)×List (Int×Int))
def bkH (hs:Hist):List (Str×List Int):=hs.map fun h=>h.1.q
def fsH (f0:List (Int×Int)) (hs:Hist):List (List (Int×Int)):=f0 :: hs.map fun h=>h.2.1
def wsH (hs:Hist):List (List (Int×Int)):=[] :: hs.map fun h=>h.2.2
def pstD (h:Dd×List (Int×Int)×List (Int×Int)):D:=.tup [plD h.2.1,plD h.2.2,dD h.1.q]
def pst0 (f0:List (Int×Int)):D:=.tup [plD f0,.lst [],.tup []]
def pastH (f0:List (Int×Int)) (hs:Hist):List D:=pst0 f0 :: hs.map pstD
def curF (f0:List (Int×Int)) (hs:Hist):List (Int×Int):=match hs.getLast? with | some h=>h.2.1 | none=>f0
def curW (hs:Hist):List (Int×Int):=match hs.getLast? with | some h=>h.2.2 | none=>[]
theorem Zk9 (f0:List (Int×Int)) (hs:Hist):∃ fs,fsH f0 hs=fs++[curF f0 hs]∧fs.length=hs.length:=by
 unfold fsH curF
 rcases List.eq_nil_or_concat hs with rfl | ⟨h,x,rfl⟩
 ·exact ⟨[],rfl,rfl⟩
 ·refine ⟨f0 :: h.map fun h=>h.2.1,?_,by simp⟩
  simp
theorem Zlb (hs:Hist):∃ ws,wsH hs=ws++[curW hs]∧ws.length=hs.length:=by
 unfold wsH curW
 rcases List.eq_nil_or_concat hs with rfl | ⟨h,x,rfl⟩
 ·exact ⟨[],rfl,rfl⟩
 ·refine ⟨[] :: h.map fun h=>h.2.2,?_,by simp⟩
  simp
theorem Zgy (f0:List (Int×Int)) (hs:Hist):∃ d,atI (pastH f0 hs) (-1)=some (.tup [plD (curF f0 hs),plD (curW hs),d]):=by
 have key:∀ (l:List D) (x:D),l≠[]→l[l.length - 1]?=some x→atI l (-1)=some x:=fun l x hn h=>by
  have hp:0 < l.length:=List.length_pos_iff.mpr hn
  unfold atI ixN
  rw [if_neg (by omega),if_pos (by omega)]
  show l[_]?=_
  rw [show ((-1:Int) + (l.length:Int)).toNat=l.length - 1 by omega]
  exact h
 unfold pastH curF curW
 rcases List.eq_nil_or_concat hs with rfl | ⟨h,x,rfl⟩
 ·exact ⟨.tup [],key _ _ (by simp) rfl⟩
 ·refine ⟨dD x.1.q,key _ _ (by simp) ?_⟩
  rw [List.concat_eq_append,List.getLast?_concat,List.length_cons,List.length_map,List.length_append,List.length_singleton,Nat.add_sub_cancel,List.getElem?_cons_succ,List.map_append,List.getElem?_append_right (by rw [List.length_map];exact Nat.le_refl _),List.length_map,Nat.sub_self]
  rfl
theorem Zjx (hs:Hist) (h:Dd×List (Int×Int)×List (Int×Int)):bkH (hs++[h])=bkH hs++[h.1.q]:=by unfold bkH;rw [List.map_append];rfl
theorem Zhl (f0:List (Int×Int)) (hs:Hist) (h:Dd×List (Int×Int)×List (Int×Int)):fsH f0 (hs++[h])=fsH f0 hs++[h.2.1]:=by unfold fsH;rw [List.map_append];rfl
theorem Zhq (hs:Hist) (h:Dd×List (Int×Int)×List (Int×Int)):wsH (hs++[h])=wsH hs++[h.2.2]:=by unfold wsH;rw [List.map_append];rfl
theorem Zgv (f0:List (Int×Int)) (hs:Hist) (h:Dd×List (Int×Int)×List (Int×Int)):pastH f0 (hs++[h])=pastH f0 hs++[pstD h]:=by unfold pastH;rw [List.map_append];rfl
theorem Zjk (hs:Hist):(bkH hs).length=hs.length:=List.length_map ..
theorem Zq9 (f0:List (Int×Int)) (hs:Hist):(fsH f0 hs).length=hs.length + 1:=by unfold fsH;rw [List.length_cons,List.length_map]
theorem Zqm (hs:Hist):(wsH hs).length=hs.length + 1:=by unfold wsH;rw [List.length_cons,List.length_map]
theorem Ze7 (f0:List (Int×Int)) (hs:Hist):(pastH f0 hs).length=hs.length + 1:=by unfold pastH;rw [List.length_cons,List.length_map]
theorem Dd.q_len (x:Dd):x.q.2.length≤2:=by cases x<;>simp [Dd.q]
end Pu
namespace Pu
@[irreducible] def mixP (c k:Int):Int:=((c % 2147483647 + 7919 * k + 1) * 48271 % 2147483647 + 104729 * k + 11) * 69621 % 2147483647
end Pu
namespace Pu
open PySem PySem.Spec PyProof.Rows L2 Own M
theorem Dd.fld_ok {f w:List (Int×Int)} {d:Dd} (hF:Field f) (hl:f.length≤40) (e:d.err f w=none):Field (d.fld f)∧(d.fld f).length≤40:=by
 cases d with
 | sell p h=>exact ⟨Zl2 hF e,by rw [show (Dd.sell p h).fld f=soldL f p h from rfl,Zo7];exact hl⟩
 | part p v=>
  have e:partE f p v=none:=e
  rcases Zm1 f p v with ⟨z,_⟩ | ⟨z,_⟩ | ⟨z,_⟩ | ⟨_,_,h1,h2,h3,h4,h5⟩
  ·rw [e] at z;cases z
  ·rw [e] at z;cases z
  ·rw [e] at z;cases z
  ·exact ⟨Zlz hF h1 h2 h3 h4,by rw [show (Dd.part p v).fld f=partL f p v from rfl,Zoe h1 h2];omega⟩
 | unite p=>
  have e:uniE f p=none:=e
  rcases Zny f p with ⟨z,_⟩ | ⟨z,_⟩ | ⟨z,_⟩ | ⟨_,_,h1,h2⟩
  ·rw [e] at z;cases z
  ·rw [e] at z;cases z
  ·rw [e] at z;cases z
  ·exact ⟨Znc hF e,by rw [show (Dd.unite p).fld f=uniL f p from rfl];have:=Zpl h1 h2;omega⟩
 | wish a b=>exact ⟨hF,hl⟩
 | drop a b=>exact ⟨hF,hl⟩
theorem Dd.wsh_ok {f w:List (Int×Int)} {d:Dd} (hW:Wishes w) (e:d.err f w=none):Wishes (d.wsh w):=by
 cases d with
 | wish a b=>exact Zmw hW e
 | drop a b=>exact Zli hW
 | sell p h=>exact hW
 | part p v=>exact hW
 | unite p=>exact hW
def FineH (f0:List (Int×Int)) (hs:Hist):Prop:=(∀ g∈fsH f0 hs,Field g∧g.length≤40)∧∀ g∈wsH hs,Wishes g
theorem FineH.cur {f0:List (Int×Int)} {hs:Hist} (h:FineH f0 hs):(Field (curF f0 hs)∧(curF f0 hs).length≤40)∧Wishes (curW hs):=by
 obtain ⟨fs,ef,_⟩:=Zk9 f0 hs
 obtain ⟨ws,ew,_⟩:=Zlb hs
 exact ⟨h.1 _ (by rw [ef];simp),h.2 _ (by rw [ew];simp)⟩
theorem FineH.nil {f0:List (Int×Int)} (hF:Field f0) (hl:f0.length≤40):FineH f0 []:=
 ⟨fun g hg=>by rw [show fsH f0 []=[f0] from rfl,List.mem_singleton] at hg;subst hg;exact ⟨hF,hl⟩,fun g hg=>by rw [show wsH []=[[]] from rfl,List.mem_singleton] at hg;subst hg;exact Zne⟩
theorem FineH.snoc {f0:List (Int×Int)} {hs:Hist} {x:Dd×List (Int×Int)×List (Int×Int)} (h:FineH f0 hs) (h1:Field x.2.1∧x.2.1.length≤40) (h2:Wishes x.2.2):FineH f0 (hs++[x]):=
 ⟨fun g hg=>by rw [Zhl] at hg;rcases List.mem_append.mp hg with hg | hg;{ exact h.1 g hg };{ rw [List.mem_singleton] at hg;subst hg;exact h1 },fun g hg=>by rw [Zhq] at hg;rcases List.mem_append.mp hg with hg | hg;{ exact h.2 g hg };{ rw [List.mem_singleton] at hg;subst hg;exact h2 }⟩
theorem FineH.init {f0:List (Int×Int)} {hs:Hist} {x:Dd×List (Int×Int)×List (Int×Int)} (h:FineH f0 (hs++[x])):FineH f0 hs:=
 ⟨fun g hg=>h.1 g (by rw [Zhl];exact List.mem_append_left _ hg),fun g hg=>h.2 g (by rw [Zhq];exact List.mem_append_left _ hg)⟩
theorem FineH.back {f0:List (Int×Int)} {hs:Hist} (h:FineH f0 hs):FineH f0 hs.dropLast:=by
 rcases List.eq_nil_or_concat hs with rfl | ⟨l,x,rfl⟩
 ·exact h
 ·rw [List.concat_eq_append] at h ⊢
  rw [List.dropLast_concat]
  exact h.init
def addH (f0:List (Int×Int)) (hs:Hist) (d:Dd):Hist:=if d.err (curF f0 hs) (curW hs)=none then hs++[(d,d.fld (curF f0 hs),d.wsh (curW hs))] else hs
theorem Zmg (f0:List (Int×Int)) (hs:Hist) (d:Dd):(addH f0 hs d).length≤hs.length + 1:=by
 unfold addH
 split
 ·rw [List.length_append,List.length_singleton];exact Nat.le_refl _
 ·omega
theorem FineH.add {f0:List (Int×Int)} {hs:Hist} (h:FineH f0 hs) (d:Dd):FineH f0 (addH f0 hs d):=by
 unfold addH
 split
 ·rename_i e
  obtain ⟨⟨h1,h2⟩,h3⟩:=h.cur
  exact h.snoc (Dd.fld_ok h1 h2 e) (Dd.wsh_ok h3 e)
 ·exact h
theorem FineH.len {f0:List (Int×Int)} {hs:Hist} (h:FineH f0 hs):(∀ g∈fsH f0 hs,g.length≤1000)∧∀ g∈wsH hs,g.length≤1000:=⟨fun g hg=>by have:=(h.1 g hg).2;omega,fun g hg=>by have:=(h.2 g hg).1;omega⟩
end Pu
namespace Pu
open PySem PySem.Spec PyProof.Rows L2 Own M
theorem Dd.code0 (f w:List (Int×Int)) (x:Dd):codeN (x.err f w)=0↔x.err f w=none:=by
 rcases x.err_cases f w with e | e | e | e | e | e | e | e | e | e | e | e<;>rw [e]
 ·exact ⟨fun _=>rfl,fun _=>rfl⟩
 all_goals refine ⟨fun z=>?_,fun z=>by cases z⟩
 ·rw [Zde] at z;cases z
 ·rw [Zcf] at z;cases z
 ·rw [Zet] at z;cases z
 ·rw [Zd5] at z;cases z
 ·rw [Zcw] at z;cases z
 ·rw [Zcv] at z;cases z
 ·rw [Zfe] at z;cases z
 ·rw [Zdf] at z;cases z
 ·rw [Zdq] at z;cases z
 ·rw [Zcs] at z;cases z
 ·rw [Zf8] at z;cases z
end Pu
namespace Pu
open PySem PySem.Spec PyProof.Rows L2 Own M
end Pu
namespace Pu
open PySem PySem.Spec PyProof.Rows L2 Own M
end Pu
namespace Pu
open PySem PySem.Spec PyProof.Rows L2 Own M
end Pu
namespace Pu
open PySem PySem.Spec PyProof.Rows L2 Own M
end Pu
namespace Pu
open PySem PySem.Spec PyProof.Rows L2 Own M
end Pu
namespace Own
open PySem PySem.Spec PyProof.Rows L2
section
variable {prog:Program} {w:World} {A:Around} {E:Value→Shared→Prop} {s:Shared} {l:Addr} {xs:Array (Int×Tok)}
theorem Zng {Q:Value→Shared→Prop} (hh:A.handled=none) (hl:s.heap.IsTuple l (intItems xs)) (hne:0 < xs.size)
  (h:∀ v h' tk,(intItems xs)[argBest (fun i j=>decide (numAt xs i < numAt xs j)) (xs.size - 1)]?=some v→(∀ b o,s.heap.get? b=some o→h'.get? b=some o)→Q v { s with heap:=h',toks:=tk }) :
  wpAny (model prog w) A (call (.builtin "min") [.ref l]) Q E s:=by
 have hlt:l < s.heap.objs.size:=by obtain ⟨_,e,_⟩:=hl;exact Heap.lt_size e
 refine call_min_walk (wpAny_pyIter_tuple hl ?_)
 refine ⟨_,[_,l],[_],_,_,_,_,rfl,Walks.tuple (A:=A.in1) hh _ l (Nat.ne_of_lt hlt) (intItems xs),⟨⟨_,Heap.get?_push_size _ rfl,rfl,rfl⟩,hl.push _⟩,fun c hc=>?_,by simpa [intItems] using hne,CmpOf.ints_lt (numAt xs) (fun _ _=>intItems_at),fun v h' tk hP hk=>?_⟩
 ·show c < (s.heap.push _).objs.size
  rw [Heap.size_push]
  rcases List.mem_cons.mp hc with rfl | hc
  ·exact Nat.lt_succ_self _
  ·rcases List.mem_cons.mp hc with rfl | hc
   ·exact Nat.lt_succ_of_lt hlt
   ·cases hc
 ·refine h v h' tk (by simpa [intItems] using hP) fun b o e=>hk b o (fun hm=>?_) (Heap.get?_push_of_some _ e)
  rcases List.mem_cons.mp hm with e1 | hm
  ·exact absurd (e1 ▸ Heap.lt_size e) (Nat.lt_irrefl _)
  ·cases hm
theorem Znh {Q:Value→Shared→Prop} (hh:A.handled=none) (hl:s.heap.IsTuple l (intItems xs)) (hne:0 < xs.size)
  (h:∀ v h' tk,(intItems xs)[argBest (fun i j=>decide (numAt xs i > numAt xs j)) (xs.size - 1)]?=some v→(∀ b o,s.heap.get? b=some o→h'.get? b=some o)→Q v { s with heap:=h',toks:=tk }) :
  wpAny (model prog w) A (call (.builtin "max") [.ref l]) Q E s:=by
 have hlt:l < s.heap.objs.size:=by obtain ⟨_,e,_⟩:=hl;exact Heap.lt_size e
 refine call_max_walk (wpAny_pyIter_tuple hl ?_)
 refine ⟨_,[_,l],[_],_,_,_,_,rfl,Walks.tuple (A:=A.in1) hh _ l (Nat.ne_of_lt hlt) (intItems xs),⟨⟨_,Heap.get?_push_size _ rfl,rfl,rfl⟩,hl.push _⟩,fun c hc=>?_,by simpa [intItems] using hne,CmpOf.ints_gt (numAt xs) (fun _ _=>intItems_at),fun v h' tk hP hk=>?_⟩
 ·show c < (s.heap.push _).objs.size
  rw [Heap.size_push]
  rcases List.mem_cons.mp hc with rfl | hc
  ·exact Nat.lt_succ_self _
  ·rcases List.mem_cons.mp hc with rfl | hc
   ·exact Nat.lt_succ_of_lt hlt
   ·cases hc
 ·refine h v h' tk (by simpa [intItems] using hP) fun b o e=>hk b o (fun hm=>?_) (Heap.get?_push_of_some _ e)
  rcases List.mem_cons.mp hm with e1 | hm
  ·exact absurd (e1 ▸ Heap.lt_size e) (Nat.lt_irrefl _)
  ·cases hm
end
section
variable {X:Cx} {K:PySem.W.Frag}
theorem Zm7 (hc:X.calm=true) (hK:X.K=K:=by rfl):CallR X (.builtin "min") (fun xs H Q=>∃ (p:Addr) (a b:Int),xs=[.ref p]∧SqT K H p [.int a,.int b]∧Q (.int (if b < a then b else a)) H):=by
 subst hK
 intro pins s σ H xs us Q I rv h
 obtain ⟨p,a,b,rfl,hS,q⟩:=h
 obtain ⟨u,rfl,ru⟩:=rv.one
 obtain rfl:u=Value.ref p:=ru
 obtain ⟨its,r,pl,_⟩:=I.tuple hS
 cases r with
 | cons r1 r=>
  cases r with
  | cons r2 r=>
   cases r
   obtain ⟨t1,rfl⟩:=r1
   obtain ⟨t2,rfl⟩:=r2
   have hl:s.heap.IsTuple p (intItems #[(a,t1),(b,t2)]):=by have this:s.heap.IsTuple p _:=pl;simpa [intItems] using this
   refine Zng (I.ok.hd hc) hl (by simp) fun v h' tk hP hk=>?_
   have hP':(intItems #[(a,t1),(b,t2)])[argBest (fun i j=>decide (numAt #[(a,t1),(b,t2)] i < numAt #[(a,t1),(b,t2)] j)) 1]?=some v:=hP
   by_cases hba:b < a
   ·have e:argBest (fun i j=>decide (numAt #[(a,t1),(b,t2)] i < numAt #[(a,t1),(b,t2)] j)) 1=1:=by simp [argBest,numAt,hba]
    rw [e] at hP'
    obtain rfl:Value.int b t2=v:=by simpa [intItems] using hP'
    rw [if_pos hba] at q
    exact ⟨.int b,H,I.kept (t':=tk) hk,⟨_,rfl⟩,q⟩
   ·have e:argBest (fun i j=>decide (numAt #[(a,t1),(b,t2)] i < numAt #[(a,t1),(b,t2)] j)) 1=0:=by simp [argBest,numAt,hba]
    rw [e] at hP'
    obtain rfl:Value.int a t1=v:=by simpa [intItems] using hP'
    rw [if_neg hba] at q
    exact ⟨.int a,H,I.kept (t':=tk) hk,⟨_,rfl⟩,q⟩
theorem Zmy (hc:X.calm=true) (hK:X.K=K:=by rfl):CallR X (.builtin "max") (fun xs H Q=>∃ (p:Addr) (a b:Int),xs=[.ref p]∧SqT K H p [.int a,.int b]∧Q (.int (if b > a then b else a)) H):=by
 subst hK
 intro pins s σ H xs us Q I rv h
 obtain ⟨p,a,b,rfl,hS,q⟩:=h
 obtain ⟨u,rfl,ru⟩:=rv.one
 obtain rfl:u=Value.ref p:=ru
 obtain ⟨its,r,pl,_⟩:=I.tuple hS
 cases r with
 | cons r1 r=>
  cases r with
  | cons r2 r=>
   cases r
   obtain ⟨t1,rfl⟩:=r1
   obtain ⟨t2,rfl⟩:=r2
   have hl:s.heap.IsTuple p (intItems #[(a,t1),(b,t2)]):=by have this:s.heap.IsTuple p _:=pl;simpa [intItems] using this
   refine Znh (I.ok.hd hc) hl (by simp) fun v h' tk hP hk=>?_
   have hP':(intItems #[(a,t1),(b,t2)])[argBest (fun i j=>decide (numAt #[(a,t1),(b,t2)] i > numAt #[(a,t1),(b,t2)] j)) 1]?=some v:=hP
   by_cases hba:b > a
   ·have e:argBest (fun i j=>decide (numAt #[(a,t1),(b,t2)] i > numAt #[(a,t1),(b,t2)] j)) 1=1:=by simp [argBest,numAt,hba]
    rw [e] at hP'
    obtain rfl:Value.int b t2=v:=by simpa [intItems] using hP'
    rw [if_pos hba] at q
    exact ⟨.int b,H,I.kept (t':=tk) hk,⟨_,rfl⟩,q⟩
   ·have e:argBest (fun i j=>decide (numAt #[(a,t1),(b,t2)] i > numAt #[(a,t1),(b,t2)] j)) 1=0:=by simp [argBest,numAt,hba]
    rw [e] at hP'
    obtain rfl:Value.int a t1=v:=by simpa [intItems] using hP'
    rw [if_neg hba] at q
    exact ⟨.int a,H,I.kept (t':=tk) hk,⟨_,rfl⟩,q⟩
end
end Own
namespace Pu
open PySem PySem.Spec PyProof.Rows L2 Own
section
variable {K:PySem.W.Frag} {mg:Str→Option Value} {E:L2.St→XK}
def fMinT:List S→(S→Prop)→Prop
 | [s],R=>(match s.d with | .tup [.int a,.int b]=>R (.sh (.int (if b < a then b else a))) | _=>False)
 | _,_=>False
def fMaxT:List S→(S→Prop)→Prop
 | [s],R=>(match s.d with | .tup [.int a,.int b]=>R (.sh (.int (if b > a then b else a))) | _=>False)
 | _,_=>False
theorem Zq3 {ta:TA} {r:PTA} (hr:SndA K mg E ta r):SndE K mg E (tCB (fun xs H Q=>∃ (p:Addr) (a b:Int),xs=[.ref p]∧SqT K H p [.int a,.int b]∧Q (.int (if b < a then b else a)) H) ta) (pCB fMinT r):=by
 refine Zkf hr fun H0 H H1 Z ss vs R Q s0 s1 hm tv h q=>?_
 unfold fMinT at h
 split at h
 ·rename_i s
  obtain ⟨v,rfl,t1⟩:=tv.one_inv
  have rv:=t1.rp s0
  split at h
  ·rename_i a b e
   rw [e] at rv
   obtain ⟨p,us,rfl,hp,r1⟩:=Rp.tup_inv rv
   obtain ⟨x,y,rfl,q1,q2⟩:=r1.two_inv
   rw [q1.int_inv,q2.int_inv] at hp
   exact ⟨p,a,b,rfl,SqT.of hp,q _ _ H1 h (Same.refl _) (.int _)⟩
  ·exact h.elim
 ·exact h.elim
theorem Zqr {ta:TA} {r:PTA} (hr:SndA K mg E ta r):SndE K mg E (tCB (fun xs H Q=>∃ (p:Addr) (a b:Int),xs=[.ref p]∧SqT K H p [.int a,.int b]∧Q (.int (if b > a then b else a)) H) ta) (pCB fMaxT r):=by
 refine Zkf hr fun H0 H H1 Z ss vs R Q s0 s1 hm tv h q=>?_
 unfold fMaxT at h
 split at h
 ·rename_i s
  obtain ⟨v,rfl,t1⟩:=tv.one_inv
  have rv:=t1.rp s0
  split at h
  ·rename_i a b e
   rw [e] at rv
   obtain ⟨p,us,rfl,hp,r1⟩:=Rp.tup_inv rv
   obtain ⟨x,y,rfl,q1,q2⟩:=r1.two_inv
   rw [q1.int_inv,q2.int_inv] at hp
   exact ⟨p,a,b,rfl,SqT.of hp,q _ _ H1 h (Same.refl _) (.int _)⟩
  ·exact h.elim
 ·exact h.elim
end
end Pu
namespace T
open PySem PySem.Spec PyProof.Rows L2
def top (i:Nat):Stmt:=PySem.Challenge.pw_stripmeld_k28_each_deed.main.body.getD i (.Pass ⟨0,0,0,0⟩)
abbrev Zdb:Stmt:=top 21
theorem Zig:FnScope ["holder"] ["holder"] (defScope Zdb):=Pu.fs
abbrev Zdj:Stmt:=top 22
theorem Zj:FnScope ["width"] ["width"] (defScope Zdj):=Pu.fs
abbrev Zdc:Stmt:=top 23
theorem sc_check_strips:FnScope ["strips", "holder", "width"] ["strips"] (defScope Zdc):=Pu.fs
abbrev Zc:Stmt:=top 25
theorem Zg:FnScope ["strips", "place"] ["strips", "place"] (defScope Zc):=Pu.fs
abbrev Zdn:Stmt:=top 28
theorem Zja:FnScope ["strips", "place"] ["strips", "place"] (defScope Zdn):=Pu.fs
abbrev Zl8:Stmt:=top 29
theorem sc_sold:FnScope ["strips", "place", "holder", "strip"] ["strips", "place", "holder"] (defScope Zl8):=Pu.fs
abbrev Zhj:Stmt:=top 30
theorem sc_parted:FnScope ["strips", "place", "width", "strip"] ["strips", "place", "width"] (defScope Zhj):=Pu.fs
abbrev Zho:Stmt:=top 31
theorem sc_united:FnScope ["strips", "place", "left", "right"] ["strips", "place"] (defScope Zho):=Pu.fs
abbrev Zew:Stmt:=top 32
theorem Zkp:FnScope ["wishes", "ahead", "behind"] ["wishes", "ahead", "behind"] (defScope Zew):=Pu.fs
abbrev Zc9:Stmt:=top 33
theorem Zis:FnScope ["wishes", "ahead", "behind"] ["wishes", "ahead", "behind"] (defScope Zc9):=Pu.fs
abbrev Zc8:Stmt:=inClass (top 36) 0
theorem Zir:FnScope ["self", "strips"] ["self", "strips"] (defScope Zc8):=Pu.fs
abbrev Zck:Stmt:=inClass (top 36) 1
theorem Zgs:FnScope ["self"] ["self"] (defScope Zck):=Pu.fs
abbrev Zci:Stmt:=inClass (top 36) 2
theorem Zg1:FnScope ["self"] ["self"] (defScope Zci):=Pu.fs
abbrev Zct:Stmt:=inClass (top 36) 3
theorem Zhg:FnScope ["self"] ["self"] (defScope Zct):=Pu.fs
abbrev Zb0:Stmt:=inClass (top 36) 4
theorem Zfd:FnScope ["self"] ["self"] (defScope Zb0):=Pu.fs
abbrev Zc0:Stmt:=inClass (top 36) 5
theorem Zhc:FnScope ["self", "deed", "field", "wishes"] ["self", "deed", "field", "wishes"] (defScope Zc0):=Pu.fs
abbrev Zc6:Stmt:=inClass (top 36) 6
theorem sc_Village_sell:FnScope ["self", "place", "holder", "field"] ["self", "place", "holder"] (defScope Zc6):=Pu.fs
abbrev Zc7:Stmt:=inClass (top 36) 7
theorem sc_Village_part:FnScope ["self", "place", "width", "field"] ["self", "place", "width"] (defScope Zc7):=Pu.fs
abbrev Zcy:Stmt:=inClass (top 36) 8
theorem sc_Village_unite:FnScope ["self", "place", "field"] ["self", "place"] (defScope Zcy):=Pu.fs
abbrev Zd:Stmt:=inClass (top 36) 9
theorem sc_Village_wish:FnScope ["self", "ahead", "behind", "wishes"] ["self", "ahead", "behind"] (defScope Zd):=Pu.fs
abbrev Zda:Stmt:=inClass (top 36) 10
theorem sc_Village_drop:FnScope ["self", "ahead", "behind", "wishes"] ["self", "ahead", "behind"] (defScope Zda):=Pu.fs
abbrev Zb4:Stmt:=inClass (top 36) 11
theorem Zfw:FnScope ["self"] ["self"] (defScope Zb4):=Pu.fs
abbrev Zhk:Stmt:=top 38
theorem Zoa:FnScope ["_law_script", "_law_k"] ["_law_script", "_law_k"] (defScope Zhk):=Pu.fs
abbrev Zeu:Stmt:=top 39
theorem Zkw:FnScope ["_law_found"] ["_law_found"] (defScope Zeu):=Pu.fs
abbrev Zgi:Stmt:=top 40
theorem sc_law_mix:FnScope ["_law_cell", "_law_place_here", "_law_first"] ["_law_cell", "_law_place_here"] (defScope Zgi):=Pu.fs
abbrev Zfh:Stmt:=top 41
theorem Zlu:FnScope ["_law_script", "_law_k"] ["_law_script", "_law_k"] (defScope Zfh):=Pu.fs
abbrev Zfo:Stmt:=top 42
theorem sc_law_menu:FnScope ["_law_cell", "_law_wide", "_law_least"] ["_law_cell"] (defScope Zfo):=Pu.fs
abbrev Zd3:Stmt:=top 43
theorem Zjz:FnScope ["_law_menu_here", "_law_k"] ["_law_menu_here", "_law_k"] (defScope Zd3):=Pu.fs
abbrev Zd2:Stmt:=top 44
theorem sc_law_tuples:FnScope ["_law_found", "_law_due", "_law_k", "_law_j"] ["_law_found", "_law_due"] (defScope Zd2):=Pu.fs
abbrev Zdk:Stmt:=top 45
theorem sc_law_deed_is:FnScope ["_law_found", "_law_due", "_law_j"] ["_law_found", "_law_due"] (defScope Zdk):=Pu.fs
abbrev Zdo:Stmt:=top 46
theorem sc_law_book_is:FnScope ["_law_found", "_law_due", "_law_k"] ["_law_found", "_law_due"] (defScope Zdo):=Pu.fs
abbrev Zcj:Stmt:=top 47
theorem sc_law_field_step:FnScope ["_law_strips", "_law_deed_here", "_law_place_here", "_law_holder_here", "_law_width_here", "_law_parts"] ["_law_strips", "_law_deed_here"] (defScope Zcj):=Pu.fs
abbrev Zcp:Stmt:=top 48
theorem sc_law_wish_step:FnScope ["_law_wishes", "_law_deed_here", "_law_pair_here"] ["_law_wishes", "_law_deed_here"] (defScope Zcp):=Pu.fs
abbrev Zft:Stmt:=top 49
theorem sc_law_step:FnScope ["_law_now", "_law_deed_here", "_law_step_here"] ["_law_now", "_law_deed_here"] (defScope Zft):=Pu.fs
abbrev Zfn:Stmt:=top 50
theorem Zln:FnScope ["_law_village", "_law_deed_here"] ["_law_village", "_law_deed_here"] (defScope Zfn):=Pu.fs
abbrev Zhn:Stmt:=top 51
theorem sc_law_do:FnScope ["_law_village", "_law_deed_here", "_law_kinds", "_law_found", "e"] ["_law_village", "_law_deed_here"] (defScope Zhn):=Pu.fs
abbrev Zfq:Stmt:=top 52
theorem Zl:FnScope ["_law_found", "_law_refusal", "_law_count"] ["_law_found", "_law_refusal", "_law_count"] (defScope Zfq):=Pu.fs
abbrev Zfr:Stmt:=top 53
theorem sc_law_back:FnScope ["_law_village", "_law_past", "_law_found", "_law_refused", "e", "_law_due"] ["_law_village", "_law_past"] (defScope Zfr):=Pu.fs
abbrev Zd1:Stmt:=top 54
theorem Zjp:FnScope ["_law_village", "_law_past"] ["_law_village", "_law_past"] (defScope Zd1):=Pu.fs
abbrev Zfi:Stmt:=top 55
theorem sc_law_turn:FnScope ["_law_village", "_law_past", "_law_deed_here", "_law_found", "_law_step_here"] ["_law_village", "_law_past", "_law_deed_here"] (defScope Zfi):=Pu.fs
abbrev Zep:Stmt:=top 56
theorem sc_law_start:FnScope ["_law_script", "_law_menu_here", "_law_many", "_law_rest", "_law_strips", "_law_k", "_law_cell", "_law_width_here"] ["_law_script", "_law_menu_here", "_law_many"] (defScope Zep):=Pu.fs
abbrev Zfm:Stmt:=top 57
theorem Zla:FnScope ["_law_script", "_law_most"] ["_law_script", "_law_most"] (defScope Zfm):=Pu.fs
abbrev Zgf:Stmt:=top 58
theorem Znj:FnScope ["_law_cell", "_law_good"] ["_law_cell", "_law_good"] (defScope Zgf):=Pu.fs
abbrev Zeo:Stmt:=top 59
theorem Zka:FnScope ["_law_cell", "_law_strips"] ["_law_cell", "_law_strips"] (defScope Zeo):=Pu.fs
abbrev Zfk:Stmt:=top 60
theorem sc_law_pair:FnScope ["_law_cell", "_law_menu_here", "_law_pool", "_law_one", "_law_two", "_law_ahead"] ["_law_cell", "_law_menu_here"] (defScope Zfk):=Pu.fs
abbrev Zdl:Stmt:=top 61
theorem sc_law_opening:FnScope ["_law_script", "_law_menu_here", "_law_seed", "_law_many", "_law_deeds", "_law_k", "_law_pair_here"] ["_law_script", "_law_menu_here"] (defScope Zdl):=Pu.fs
abbrev Zer:Stmt:=top 62
theorem Zkm:FnScope ["_law_cell", "_law_strips", "_law_place_here"] ["_law_cell", "_law_strips", "_law_place_here"] (defScope Zer):=Pu.fs
abbrev Zfl:Stmt:=top 63
theorem sc_law_deed:FnScope ["_law_cell", "_law_menu_here", "_law_now", "_law_kind", "_law_rest", "_law_place_here", "_law_more", "_law_pair_here"] ["_law_cell", "_law_menu_here", "_law_now"] (defScope Zfl):=Pu.fs
abbrev Zjd:Stmt:=top 64
theorem sc_law:FnScope ["_law_script", "_law_menu_here", "_law_strips", "_law_village", "_law_past", "_law_deed_here", "_law_cell"] ["_law_script"] (defScope Zjd):=Pu.fs
structure Glob (K:PySem.W.Frag) (mg:Str→Option Value):Prop where
 ValueError:mg "ValueError" = none
 bool:mg "bool" = none
 int:mg "int" = none
 isinstance:mg "isinstance" = none
 len:mg "len" = none
 list:mg "list" = none
 max:mg "max" = none
 min:mg "min" = none
 range:mg "range" = none
 str:mg "str" = none
 tuple:mg "tuple" = none
 HOLDERS:∃ u,mg "HOLDERS" = some u∧RelV (.int 10) u
 STRIPS:∃ u,mg "STRIPS" = some u∧RelV (.int 40) u
 WIDEST:∃ u,mg "WIDEST" = some u∧RelV (.int 1000) u
 MOST_WISHES:∃ u,mg "MOST_WISHES" = some u∧RelV (.int 20) u
 MOST_DEEDS:∃ u,mg "MOST_DEEDS" = some u∧RelV (.int 100) u
 m_MeldError:mg "MeldError" = some (.ref (ExcR.clsOf mg "MeldError"))
 g_MeldError:ExcR.ErrGet K (ExcR.clsOf mg "MeldError")
 m_TooManyStrips:mg "TooManyStrips" = some (.ref (ExcR.clsOf mg "TooManyStrips"))
 g_TooManyStrips:ExcR.ErrGet K (ExcR.clsOf mg "TooManyStrips")
 m_BadHolder:mg "BadHolder" = some (.ref (ExcR.clsOf mg "BadHolder"))
 g_BadHolder:ExcR.ErrGet K (ExcR.clsOf mg "BadHolder")
 m_BadWidth:mg "BadWidth" = some (.ref (ExcR.clsOf mg "BadWidth"))
 g_BadWidth:ExcR.ErrGet K (ExcR.clsOf mg "BadWidth")
 m_NoStrip:mg "NoStrip" = some (.ref (ExcR.clsOf mg "NoStrip"))
 g_NoStrip:ExcR.ErrGet K (ExcR.clsOf mg "NoStrip")
 m_OwnStrip:mg "OwnStrip" = some (.ref (ExcR.clsOf mg "OwnStrip"))
 g_OwnStrip:ExcR.ErrGet K (ExcR.clsOf mg "OwnStrip")
 m_BadPart:mg "BadPart" = some (.ref (ExcR.clsOf mg "BadPart"))
 g_BadPart:ExcR.ErrGet K (ExcR.clsOf mg "BadPart")
 m_UnlikeHolders:mg "UnlikeHolders" = some (.ref (ExcR.clsOf mg "UnlikeHolders"))
 g_UnlikeHolders:ExcR.ErrGet K (ExcR.clsOf mg "UnlikeHolders")
 m_TooWide:mg "TooWide" = some (.ref (ExcR.clsOf mg "TooWide"))
 g_TooWide:ExcR.ErrGet K (ExcR.clsOf mg "TooWide")
 m_LikeHolders:mg "LikeHolders" = some (.ref (ExcR.clsOf mg "LikeHolders"))
 g_LikeHolders:ExcR.ErrGet K (ExcR.clsOf mg "LikeHolders")
 m_WishStands:mg "WishStands" = some (.ref (ExcR.clsOf mg "WishStands"))
 g_WishStands:ExcR.ErrGet K (ExcR.clsOf mg "WishStands")
 m_TooManyWishes:mg "TooManyWishes" = some (.ref (ExcR.clsOf mg "TooManyWishes"))
 g_TooManyWishes:ExcR.ErrGet K (ExcR.clsOf mg "TooManyWishes")
 m_NoWish:mg "NoWish" = some (.ref (ExcR.clsOf mg "NoWish"))
 g_NoWish:ExcR.ErrGet K (ExcR.clsOf mg "NoWish")
 m_BookFull:mg "BookFull" = some (.ref (ExcR.clsOf mg "BookFull"))
 g_BookFull:ExcR.ErrGet K (ExcR.clsOf mg "BookFull")
 m_NothingDone:mg "NothingDone" = some (.ref (ExcR.clsOf mg "NothingDone"))
 g_NothingDone:ExcR.ErrGet K (ExcR.clsOf mg "NothingDone")
 x_MeldError_MeldError:PySem.W.exmOne K (.ref (ExcR.clsOf mg "MeldError")) (.ref (ExcR.clsOf mg "MeldError"))=some true
 x_TooManyStrips_MeldError:PySem.W.exmOne K (.ref (ExcR.clsOf mg "TooManyStrips")) (.ref (ExcR.clsOf mg "MeldError"))=some true
 x_BadHolder_MeldError:PySem.W.exmOne K (.ref (ExcR.clsOf mg "BadHolder")) (.ref (ExcR.clsOf mg "MeldError"))=some true
 x_BadWidth_MeldError:PySem.W.exmOne K (.ref (ExcR.clsOf mg "BadWidth")) (.ref (ExcR.clsOf mg "MeldError"))=some true
 x_NoStrip_MeldError:PySem.W.exmOne K (.ref (ExcR.clsOf mg "NoStrip")) (.ref (ExcR.clsOf mg "MeldError"))=some true
 x_OwnStrip_MeldError:PySem.W.exmOne K (.ref (ExcR.clsOf mg "OwnStrip")) (.ref (ExcR.clsOf mg "MeldError"))=some true
 x_BadPart_MeldError:PySem.W.exmOne K (.ref (ExcR.clsOf mg "BadPart")) (.ref (ExcR.clsOf mg "MeldError"))=some true
 x_UnlikeHolders_MeldError:PySem.W.exmOne K (.ref (ExcR.clsOf mg "UnlikeHolders")) (.ref (ExcR.clsOf mg "MeldError"))=some true
 x_TooWide_MeldError:PySem.W.exmOne K (.ref (ExcR.clsOf mg "TooWide")) (.ref (ExcR.clsOf mg "MeldError"))=some true
 x_LikeHolders_MeldError:PySem.W.exmOne K (.ref (ExcR.clsOf mg "LikeHolders")) (.ref (ExcR.clsOf mg "MeldError"))=some true
 x_WishStands_MeldError:PySem.W.exmOne K (.ref (ExcR.clsOf mg "WishStands")) (.ref (ExcR.clsOf mg "MeldError"))=some true
 x_TooManyWishes_MeldError:PySem.W.exmOne K (.ref (ExcR.clsOf mg "TooManyWishes")) (.ref (ExcR.clsOf mg "MeldError"))=some true
 x_NoWish_MeldError:PySem.W.exmOne K (.ref (ExcR.clsOf mg "NoWish")) (.ref (ExcR.clsOf mg "MeldError"))=some true
 x_BookFull_MeldError:PySem.W.exmOne K (.ref (ExcR.clsOf mg "BookFull")) (.ref (ExcR.clsOf mg "MeldError"))=some true
 x_NothingDone_MeldError:PySem.W.exmOne K (.ref (ExcR.clsOf mg "NothingDone")) (.ref (ExcR.clsOf mg "MeldError"))=some true
 x_NothingDone_NothingDone:PySem.W.exmOne K (.ref (ExcR.clsOf mg "NothingDone")) (.ref (ExcR.clsOf mg "NothingDone"))=some true
 k_TooManyStrips_ValueError:PySem.W.kitOne K (.ref (ExcR.clsOf mg "TooManyStrips")) (.type "ValueError")=some true
 k_TooManyStrips_NoStrip:PySem.W.kitOne K (.ref (ExcR.clsOf mg "TooManyStrips")) (.ref (ExcR.clsOf mg "NoStrip"))=some false
 k_TooManyStrips_BadHolder:PySem.W.kitOne K (.ref (ExcR.clsOf mg "TooManyStrips")) (.ref (ExcR.clsOf mg "BadHolder"))=some false
 k_TooManyStrips_OwnStrip:PySem.W.kitOne K (.ref (ExcR.clsOf mg "TooManyStrips")) (.ref (ExcR.clsOf mg "OwnStrip"))=some false
 k_TooManyStrips_BadPart:PySem.W.kitOne K (.ref (ExcR.clsOf mg "TooManyStrips")) (.ref (ExcR.clsOf mg "BadPart"))=some false
 k_TooManyStrips_TooManyStrips:PySem.W.kitOne K (.ref (ExcR.clsOf mg "TooManyStrips")) (.ref (ExcR.clsOf mg "TooManyStrips"))=some true
 k_TooManyStrips_UnlikeHolders:PySem.W.kitOne K (.ref (ExcR.clsOf mg "TooManyStrips")) (.ref (ExcR.clsOf mg "UnlikeHolders"))=some false
 k_TooManyStrips_TooWide:PySem.W.kitOne K (.ref (ExcR.clsOf mg "TooManyStrips")) (.ref (ExcR.clsOf mg "TooWide"))=some false
 k_TooManyStrips_LikeHolders:PySem.W.kitOne K (.ref (ExcR.clsOf mg "TooManyStrips")) (.ref (ExcR.clsOf mg "LikeHolders"))=some false
 k_TooManyStrips_WishStands:PySem.W.kitOne K (.ref (ExcR.clsOf mg "TooManyStrips")) (.ref (ExcR.clsOf mg "WishStands"))=some false
 k_TooManyStrips_TooManyWishes:PySem.W.kitOne K (.ref (ExcR.clsOf mg "TooManyStrips")) (.ref (ExcR.clsOf mg "TooManyWishes"))=some false
 k_TooManyStrips_NoWish:PySem.W.kitOne K (.ref (ExcR.clsOf mg "TooManyStrips")) (.ref (ExcR.clsOf mg "NoWish"))=some false
 k_TooManyStrips_BookFull:PySem.W.kitOne K (.ref (ExcR.clsOf mg "TooManyStrips")) (.ref (ExcR.clsOf mg "BookFull"))=some false
 k_BadHolder_ValueError:PySem.W.kitOne K (.ref (ExcR.clsOf mg "BadHolder")) (.type "ValueError")=some true
 k_BadHolder_NoStrip:PySem.W.kitOne K (.ref (ExcR.clsOf mg "BadHolder")) (.ref (ExcR.clsOf mg "NoStrip"))=some false
 k_BadHolder_BadHolder:PySem.W.kitOne K (.ref (ExcR.clsOf mg "BadHolder")) (.ref (ExcR.clsOf mg "BadHolder"))=some true
 k_BadHolder_OwnStrip:PySem.W.kitOne K (.ref (ExcR.clsOf mg "BadHolder")) (.ref (ExcR.clsOf mg "OwnStrip"))=some false
 k_BadHolder_BadPart:PySem.W.kitOne K (.ref (ExcR.clsOf mg "BadHolder")) (.ref (ExcR.clsOf mg "BadPart"))=some false
 k_BadHolder_TooManyStrips:PySem.W.kitOne K (.ref (ExcR.clsOf mg "BadHolder")) (.ref (ExcR.clsOf mg "TooManyStrips"))=some false
 k_BadHolder_UnlikeHolders:PySem.W.kitOne K (.ref (ExcR.clsOf mg "BadHolder")) (.ref (ExcR.clsOf mg "UnlikeHolders"))=some false
 k_BadHolder_TooWide:PySem.W.kitOne K (.ref (ExcR.clsOf mg "BadHolder")) (.ref (ExcR.clsOf mg "TooWide"))=some false
 k_BadHolder_LikeHolders:PySem.W.kitOne K (.ref (ExcR.clsOf mg "BadHolder")) (.ref (ExcR.clsOf mg "LikeHolders"))=some false
 k_BadHolder_WishStands:PySem.W.kitOne K (.ref (ExcR.clsOf mg "BadHolder")) (.ref (ExcR.clsOf mg "WishStands"))=some false
 k_BadHolder_TooManyWishes:PySem.W.kitOne K (.ref (ExcR.clsOf mg "BadHolder")) (.ref (ExcR.clsOf mg "TooManyWishes"))=some false
 k_BadHolder_NoWish:PySem.W.kitOne K (.ref (ExcR.clsOf mg "BadHolder")) (.ref (ExcR.clsOf mg "NoWish"))=some false
 k_BadHolder_BookFull:PySem.W.kitOne K (.ref (ExcR.clsOf mg "BadHolder")) (.ref (ExcR.clsOf mg "BookFull"))=some false
 k_NoStrip_ValueError:PySem.W.kitOne K (.ref (ExcR.clsOf mg "NoStrip")) (.type "ValueError")=some true
 k_NoStrip_NoStrip:PySem.W.kitOne K (.ref (ExcR.clsOf mg "NoStrip")) (.ref (ExcR.clsOf mg "NoStrip"))=some true
 k_NoStrip_BadHolder:PySem.W.kitOne K (.ref (ExcR.clsOf mg "NoStrip")) (.ref (ExcR.clsOf mg "BadHolder"))=some false
 k_NoStrip_OwnStrip:PySem.W.kitOne K (.ref (ExcR.clsOf mg "NoStrip")) (.ref (ExcR.clsOf mg "OwnStrip"))=some false
 k_NoStrip_BadPart:PySem.W.kitOne K (.ref (ExcR.clsOf mg "NoStrip")) (.ref (ExcR.clsOf mg "BadPart"))=some false
 k_NoStrip_TooManyStrips:PySem.W.kitOne K (.ref (ExcR.clsOf mg "NoStrip")) (.ref (ExcR.clsOf mg "TooManyStrips"))=some false
 k_NoStrip_UnlikeHolders:PySem.W.kitOne K (.ref (ExcR.clsOf mg "NoStrip")) (.ref (ExcR.clsOf mg "UnlikeHolders"))=some false
 k_NoStrip_TooWide:PySem.W.kitOne K (.ref (ExcR.clsOf mg "NoStrip")) (.ref (ExcR.clsOf mg "TooWide"))=some false
 k_NoStrip_LikeHolders:PySem.W.kitOne K (.ref (ExcR.clsOf mg "NoStrip")) (.ref (ExcR.clsOf mg "LikeHolders"))=some false
 k_NoStrip_WishStands:PySem.W.kitOne K (.ref (ExcR.clsOf mg "NoStrip")) (.ref (ExcR.clsOf mg "WishStands"))=some false
 k_NoStrip_TooManyWishes:PySem.W.kitOne K (.ref (ExcR.clsOf mg "NoStrip")) (.ref (ExcR.clsOf mg "TooManyWishes"))=some false
 k_NoStrip_NoWish:PySem.W.kitOne K (.ref (ExcR.clsOf mg "NoStrip")) (.ref (ExcR.clsOf mg "NoWish"))=some false
 k_NoStrip_BookFull:PySem.W.kitOne K (.ref (ExcR.clsOf mg "NoStrip")) (.ref (ExcR.clsOf mg "BookFull"))=some false
 k_OwnStrip_ValueError:PySem.W.kitOne K (.ref (ExcR.clsOf mg "OwnStrip")) (.type "ValueError")=some true
 k_OwnStrip_NoStrip:PySem.W.kitOne K (.ref (ExcR.clsOf mg "OwnStrip")) (.ref (ExcR.clsOf mg "NoStrip"))=some false
 k_OwnStrip_BadHolder:PySem.W.kitOne K (.ref (ExcR.clsOf mg "OwnStrip")) (.ref (ExcR.clsOf mg "BadHolder"))=some false
 k_OwnStrip_OwnStrip:PySem.W.kitOne K (.ref (ExcR.clsOf mg "OwnStrip")) (.ref (ExcR.clsOf mg "OwnStrip"))=some true
 k_OwnStrip_BadPart:PySem.W.kitOne K (.ref (ExcR.clsOf mg "OwnStrip")) (.ref (ExcR.clsOf mg "BadPart"))=some false
 k_OwnStrip_TooManyStrips:PySem.W.kitOne K (.ref (ExcR.clsOf mg "OwnStrip")) (.ref (ExcR.clsOf mg "TooManyStrips"))=some false
 k_OwnStrip_UnlikeHolders:PySem.W.kitOne K (.ref (ExcR.clsOf mg "OwnStrip")) (.ref (ExcR.clsOf mg "UnlikeHolders"))=some false
 k_OwnStrip_TooWide:PySem.W.kitOne K (.ref (ExcR.clsOf mg "OwnStrip")) (.ref (ExcR.clsOf mg "TooWide"))=some false
 k_OwnStrip_LikeHolders:PySem.W.kitOne K (.ref (ExcR.clsOf mg "OwnStrip")) (.ref (ExcR.clsOf mg "LikeHolders"))=some false
 k_OwnStrip_WishStands:PySem.W.kitOne K (.ref (ExcR.clsOf mg "OwnStrip")) (.ref (ExcR.clsOf mg "WishStands"))=some false
 k_OwnStrip_TooManyWishes:PySem.W.kitOne K (.ref (ExcR.clsOf mg "OwnStrip")) (.ref (ExcR.clsOf mg "TooManyWishes"))=some false
 k_OwnStrip_NoWish:PySem.W.kitOne K (.ref (ExcR.clsOf mg "OwnStrip")) (.ref (ExcR.clsOf mg "NoWish"))=some false
 k_OwnStrip_BookFull:PySem.W.kitOne K (.ref (ExcR.clsOf mg "OwnStrip")) (.ref (ExcR.clsOf mg "BookFull"))=some false
 k_BadPart_ValueError:PySem.W.kitOne K (.ref (ExcR.clsOf mg "BadPart")) (.type "ValueError")=some true
 k_BadPart_NoStrip:PySem.W.kitOne K (.ref (ExcR.clsOf mg "BadPart")) (.ref (ExcR.clsOf mg "NoStrip"))=some false
 k_BadPart_BadHolder:PySem.W.kitOne K (.ref (ExcR.clsOf mg "BadPart")) (.ref (ExcR.clsOf mg "BadHolder"))=some false
 k_BadPart_OwnStrip:PySem.W.kitOne K (.ref (ExcR.clsOf mg "BadPart")) (.ref (ExcR.clsOf mg "OwnStrip"))=some false
 k_BadPart_BadPart:PySem.W.kitOne K (.ref (ExcR.clsOf mg "BadPart")) (.ref (ExcR.clsOf mg "BadPart"))=some true
 k_BadPart_TooManyStrips:PySem.W.kitOne K (.ref (ExcR.clsOf mg "BadPart")) (.ref (ExcR.clsOf mg "TooManyStrips"))=some false
 k_BadPart_UnlikeHolders:PySem.W.kitOne K (.ref (ExcR.clsOf mg "BadPart")) (.ref (ExcR.clsOf mg "UnlikeHolders"))=some false
 k_BadPart_TooWide:PySem.W.kitOne K (.ref (ExcR.clsOf mg "BadPart")) (.ref (ExcR.clsOf mg "TooWide"))=some false
 k_BadPart_LikeHolders:PySem.W.kitOne K (.ref (ExcR.clsOf mg "BadPart")) (.ref (ExcR.clsOf mg "LikeHolders"))=some false
 k_BadPart_WishStands:PySem.W.kitOne K (.ref (ExcR.clsOf mg "BadPart")) (.ref (ExcR.clsOf mg "WishStands"))=some false
 k_BadPart_TooManyWishes:PySem.W.kitOne K (.ref (ExcR.clsOf mg "BadPart")) (.ref (ExcR.clsOf mg "TooManyWishes"))=some false
 k_BadPart_NoWish:PySem.W.kitOne K (.ref (ExcR.clsOf mg "BadPart")) (.ref (ExcR.clsOf mg "NoWish"))=some false
 k_BadPart_BookFull:PySem.W.kitOne K (.ref (ExcR.clsOf mg "BadPart")) (.ref (ExcR.clsOf mg "BookFull"))=some false
 k_UnlikeHolders_ValueError:PySem.W.kitOne K (.ref (ExcR.clsOf mg "UnlikeHolders")) (.type "ValueError")=some true
 k_UnlikeHolders_NoStrip:PySem.W.kitOne K (.ref (ExcR.clsOf mg "UnlikeHolders")) (.ref (ExcR.clsOf mg "NoStrip"))=some false
 k_UnlikeHolders_BadHolder:PySem.W.kitOne K (.ref (ExcR.clsOf mg "UnlikeHolders")) (.ref (ExcR.clsOf mg "BadHolder"))=some false
 k_UnlikeHolders_OwnStrip:PySem.W.kitOne K (.ref (ExcR.clsOf mg "UnlikeHolders")) (.ref (ExcR.clsOf mg "OwnStrip"))=some false
 k_UnlikeHolders_BadPart:PySem.W.kitOne K (.ref (ExcR.clsOf mg "UnlikeHolders")) (.ref (ExcR.clsOf mg "BadPart"))=some false
 k_UnlikeHolders_TooManyStrips:PySem.W.kitOne K (.ref (ExcR.clsOf mg "UnlikeHolders")) (.ref (ExcR.clsOf mg "TooManyStrips"))=some false
 k_UnlikeHolders_UnlikeHolders:PySem.W.kitOne K (.ref (ExcR.clsOf mg "UnlikeHolders")) (.ref (ExcR.clsOf mg "UnlikeHolders"))=some true
 k_UnlikeHolders_TooWide:PySem.W.kitOne K (.ref (ExcR.clsOf mg "UnlikeHolders")) (.ref (ExcR.clsOf mg "TooWide"))=some false
 k_UnlikeHolders_LikeHolders:PySem.W.kitOne K (.ref (ExcR.clsOf mg "UnlikeHolders")) (.ref (ExcR.clsOf mg "LikeHolders"))=some false
 k_UnlikeHolders_WishStands:PySem.W.kitOne K (.ref (ExcR.clsOf mg "UnlikeHolders")) (.ref (ExcR.clsOf mg "WishStands"))=some false
 k_UnlikeHolders_TooManyWishes:PySem.W.kitOne K (.ref (ExcR.clsOf mg "UnlikeHolders")) (.ref (ExcR.clsOf mg "TooManyWishes"))=some false
 k_UnlikeHolders_NoWish:PySem.W.kitOne K (.ref (ExcR.clsOf mg "UnlikeHolders")) (.ref (ExcR.clsOf mg "NoWish"))=some false
 k_UnlikeHolders_BookFull:PySem.W.kitOne K (.ref (ExcR.clsOf mg "UnlikeHolders")) (.ref (ExcR.clsOf mg "BookFull"))=some false
 k_TooWide_ValueError:PySem.W.kitOne K (.ref (ExcR.clsOf mg "TooWide")) (.type "ValueError")=some true
 k_TooWide_NoStrip:PySem.W.kitOne K (.ref (ExcR.clsOf mg "TooWide")) (.ref (ExcR.clsOf mg "NoStrip"))=some false
 k_TooWide_BadHolder:PySem.W.kitOne K (.ref (ExcR.clsOf mg "TooWide")) (.ref (ExcR.clsOf mg "BadHolder"))=some false
 k_TooWide_OwnStrip:PySem.W.kitOne K (.ref (ExcR.clsOf mg "TooWide")) (.ref (ExcR.clsOf mg "OwnStrip"))=some false
 k_TooWide_BadPart:PySem.W.kitOne K (.ref (ExcR.clsOf mg "TooWide")) (.ref (ExcR.clsOf mg "BadPart"))=some false
 k_TooWide_TooManyStrips:PySem.W.kitOne K (.ref (ExcR.clsOf mg "TooWide")) (.ref (ExcR.clsOf mg "TooManyStrips"))=some false
 k_TooWide_UnlikeHolders:PySem.W.kitOne K (.ref (ExcR.clsOf mg "TooWide")) (.ref (ExcR.clsOf mg "UnlikeHolders"))=some false
 k_TooWide_TooWide:PySem.W.kitOne K (.ref (ExcR.clsOf mg "TooWide")) (.ref (ExcR.clsOf mg "TooWide"))=some true
 k_TooWide_LikeHolders:PySem.W.kitOne K (.ref (ExcR.clsOf mg "TooWide")) (.ref (ExcR.clsOf mg "LikeHolders"))=some false
 k_TooWide_WishStands:PySem.W.kitOne K (.ref (ExcR.clsOf mg "TooWide")) (.ref (ExcR.clsOf mg "WishStands"))=some false
 k_TooWide_TooManyWishes:PySem.W.kitOne K (.ref (ExcR.clsOf mg "TooWide")) (.ref (ExcR.clsOf mg "TooManyWishes"))=some false
 k_TooWide_NoWish:PySem.W.kitOne K (.ref (ExcR.clsOf mg "TooWide")) (.ref (ExcR.clsOf mg "NoWish"))=some false
 k_TooWide_BookFull:PySem.W.kitOne K (.ref (ExcR.clsOf mg "TooWide")) (.ref (ExcR.clsOf mg "BookFull"))=some false
 k_LikeHolders_ValueError:PySem.W.kitOne K (.ref (ExcR.clsOf mg "LikeHolders")) (.type "ValueError")=some true
 k_LikeHolders_NoStrip:PySem.W.kitOne K (.ref (ExcR.clsOf mg "LikeHolders")) (.ref (ExcR.clsOf mg "NoStrip"))=some false
 k_LikeHolders_BadHolder:PySem.W.kitOne K (.ref (ExcR.clsOf mg "LikeHolders")) (.ref (ExcR.clsOf mg "BadHolder"))=some false
 k_LikeHolders_OwnStrip:PySem.W.kitOne K (.ref (ExcR.clsOf mg "LikeHolders")) (.ref (ExcR.clsOf mg "OwnStrip"))=some false
 k_LikeHolders_BadPart:PySem.W.kitOne K (.ref (ExcR.clsOf mg "LikeHolders")) (.ref (ExcR.clsOf mg "BadPart"))=some false
 k_LikeHolders_TooManyStrips:PySem.W.kitOne K (.ref (ExcR.clsOf mg "LikeHolders")) (.ref (ExcR.clsOf mg "TooManyStrips"))=some false
 k_LikeHolders_UnlikeHolders:PySem.W.kitOne K (.ref (ExcR.clsOf mg "LikeHolders")) (.ref (ExcR.clsOf mg "UnlikeHolders"))=some false
 k_LikeHolders_TooWide:PySem.W.kitOne K (.ref (ExcR.clsOf mg "LikeHolders")) (.ref (ExcR.clsOf mg "TooWide"))=some false
 k_LikeHolders_LikeHolders:PySem.W.kitOne K (.ref (ExcR.clsOf mg "LikeHolders")) (.ref (ExcR.clsOf mg "LikeHolders"))=some true
 k_LikeHolders_WishStands:PySem.W.kitOne K (.ref (ExcR.clsOf mg "LikeHolders")) (.ref (ExcR.clsOf mg "WishStands"))=some false
 k_LikeHolders_TooManyWishes:PySem.W.kitOne K (.ref (ExcR.clsOf mg "LikeHolders")) (.ref (ExcR.clsOf mg "TooManyWishes"))=some false
 k_LikeHolders_NoWish:PySem.W.kitOne K (.ref (ExcR.clsOf mg "LikeHolders")) (.ref (ExcR.clsOf mg "NoWish"))=some false
 k_LikeHolders_BookFull:PySem.W.kitOne K (.ref (ExcR.clsOf mg "LikeHolders")) (.ref (ExcR.clsOf mg "BookFull"))=some false
 k_WishStands_ValueError:PySem.W.kitOne K (.ref (ExcR.clsOf mg "WishStands")) (.type "ValueError")=some true
 k_WishStands_NoStrip:PySem.W.kitOne K (.ref (ExcR.clsOf mg "WishStands")) (.ref (ExcR.clsOf mg "NoStrip"))=some false
 k_WishStands_BadHolder:PySem.W.kitOne K (.ref (ExcR.clsOf mg "WishStands")) (.ref (ExcR.clsOf mg "BadHolder"))=some false
 k_WishStands_OwnStrip:PySem.W.kitOne K (.ref (ExcR.clsOf mg "WishStands")) (.ref (ExcR.clsOf mg "OwnStrip"))=some false
 k_WishStands_BadPart:PySem.W.kitOne K (.ref (ExcR.clsOf mg "WishStands")) (.ref (ExcR.clsOf mg "BadPart"))=some false
 k_WishStands_TooManyStrips:PySem.W.kitOne K (.ref (ExcR.clsOf mg "WishStands")) (.ref (ExcR.clsOf mg "TooManyStrips"))=some false
 k_WishStands_UnlikeHolders:PySem.W.kitOne K (.ref (ExcR.clsOf mg "WishStands")) (.ref (ExcR.clsOf mg "UnlikeHolders"))=some false
 k_WishStands_TooWide:PySem.W.kitOne K (.ref (ExcR.clsOf mg "WishStands")) (.ref (ExcR.clsOf mg "TooWide"))=some false
 k_WishStands_LikeHolders:PySem.W.kitOne K (.ref (ExcR.clsOf mg "WishStands")) (.ref (ExcR.clsOf mg "LikeHolders"))=some false
 k_WishStands_WishStands:PySem.W.kitOne K (.ref (ExcR.clsOf mg "WishStands")) (.ref (ExcR.clsOf mg "WishStands"))=some true
 k_WishStands_TooManyWishes:PySem.W.kitOne K (.ref (ExcR.clsOf mg "WishStands")) (.ref (ExcR.clsOf mg "TooManyWishes"))=some false
 k_WishStands_NoWish:PySem.W.kitOne K (.ref (ExcR.clsOf mg "WishStands")) (.ref (ExcR.clsOf mg "NoWish"))=some false
 k_WishStands_BookFull:PySem.W.kitOne K (.ref (ExcR.clsOf mg "WishStands")) (.ref (ExcR.clsOf mg "BookFull"))=some false
 k_TooManyWishes_ValueError:PySem.W.kitOne K (.ref (ExcR.clsOf mg "TooManyWishes")) (.type "ValueError")=some true
 k_TooManyWishes_NoStrip:PySem.W.kitOne K (.ref (ExcR.clsOf mg "TooManyWishes")) (.ref (ExcR.clsOf mg "NoStrip"))=some false
 k_TooManyWishes_BadHolder:PySem.W.kitOne K (.ref (ExcR.clsOf mg "TooManyWishes")) (.ref (ExcR.clsOf mg "BadHolder"))=some false
 k_TooManyWishes_OwnStrip:PySem.W.kitOne K (.ref (ExcR.clsOf mg "TooManyWishes")) (.ref (ExcR.clsOf mg "OwnStrip"))=some false
 k_TooManyWishes_BadPart:PySem.W.kitOne K (.ref (ExcR.clsOf mg "TooManyWishes")) (.ref (ExcR.clsOf mg "BadPart"))=some false
 k_TooManyWishes_TooManyStrips:PySem.W.kitOne K (.ref (ExcR.clsOf mg "TooManyWishes")) (.ref (ExcR.clsOf mg "TooManyStrips"))=some false
 k_TooManyWishes_UnlikeHolders:PySem.W.kitOne K (.ref (ExcR.clsOf mg "TooManyWishes")) (.ref (ExcR.clsOf mg "UnlikeHolders"))=some false
 k_TooManyWishes_TooWide:PySem.W.kitOne K (.ref (ExcR.clsOf mg "TooManyWishes")) (.ref (ExcR.clsOf mg "TooWide"))=some false
 k_TooManyWishes_LikeHolders:PySem.W.kitOne K (.ref (ExcR.clsOf mg "TooManyWishes")) (.ref (ExcR.clsOf mg "LikeHolders"))=some false
 k_TooManyWishes_WishStands:PySem.W.kitOne K (.ref (ExcR.clsOf mg "TooManyWishes")) (.ref (ExcR.clsOf mg "WishStands"))=some false
 k_TooManyWishes_TooManyWishes:PySem.W.kitOne K (.ref (ExcR.clsOf mg "TooManyWishes")) (.ref (ExcR.clsOf mg "TooManyWishes"))=some true
 k_TooManyWishes_NoWish:PySem.W.kitOne K (.ref (ExcR.clsOf mg "TooManyWishes")) (.ref (ExcR.clsOf mg "NoWish"))=some false
 k_TooManyWishes_BookFull:PySem.W.kitOne K (.ref (ExcR.clsOf mg "TooManyWishes")) (.ref (ExcR.clsOf mg "BookFull"))=some false
 k_NoWish_ValueError:PySem.W.kitOne K (.ref (ExcR.clsOf mg "NoWish")) (.type "ValueError")=some true
 k_NoWish_NoStrip:PySem.W.kitOne K (.ref (ExcR.clsOf mg "NoWish")) (.ref (ExcR.clsOf mg "NoStrip"))=some false
 k_NoWish_BadHolder:PySem.W.kitOne K (.ref (ExcR.clsOf mg "NoWish")) (.ref (ExcR.clsOf mg "BadHolder"))=some false
 k_NoWish_OwnStrip:PySem.W.kitOne K (.ref (ExcR.clsOf mg "NoWish")) (.ref (ExcR.clsOf mg "OwnStrip"))=some false
 k_NoWish_BadPart:PySem.W.kitOne K (.ref (ExcR.clsOf mg "NoWish")) (.ref (ExcR.clsOf mg "BadPart"))=some false
 k_NoWish_TooManyStrips:PySem.W.kitOne K (.ref (ExcR.clsOf mg "NoWish")) (.ref (ExcR.clsOf mg "TooManyStrips"))=some false
 k_NoWish_UnlikeHolders:PySem.W.kitOne K (.ref (ExcR.clsOf mg "NoWish")) (.ref (ExcR.clsOf mg "UnlikeHolders"))=some false
 k_NoWish_TooWide:PySem.W.kitOne K (.ref (ExcR.clsOf mg "NoWish")) (.ref (ExcR.clsOf mg "TooWide"))=some false
 k_NoWish_LikeHolders:PySem.W.kitOne K (.ref (ExcR.clsOf mg "NoWish")) (.ref (ExcR.clsOf mg "LikeHolders"))=some false
 k_NoWish_WishStands:PySem.W.kitOne K (.ref (ExcR.clsOf mg "NoWish")) (.ref (ExcR.clsOf mg "WishStands"))=some false
 k_NoWish_TooManyWishes:PySem.W.kitOne K (.ref (ExcR.clsOf mg "NoWish")) (.ref (ExcR.clsOf mg "TooManyWishes"))=some false
 k_NoWish_NoWish:PySem.W.kitOne K (.ref (ExcR.clsOf mg "NoWish")) (.ref (ExcR.clsOf mg "NoWish"))=some true
 k_NoWish_BookFull:PySem.W.kitOne K (.ref (ExcR.clsOf mg "NoWish")) (.ref (ExcR.clsOf mg "BookFull"))=some false
 k_NothingDone_ValueError:PySem.W.kitOne K (.ref (ExcR.clsOf mg "NothingDone")) (.type "ValueError")=some true
 k_NothingDone_MeldError:PySem.W.kitOne K (.ref (ExcR.clsOf mg "NothingDone")) (.ref (ExcR.clsOf mg "MeldError"))=some true
 m_Village:mg "Village" = some (.ref (ExcR.clsOf mg "Village"))
 cl_Village:Cls K (ExcR.clsOf mg "Village")
 n_Village_book:NoAttr K (ExcR.clsOf mg "Village") "book"
 n_Village_fields:NoAttr K (ExcR.clsOf mg "Village") "fields"
 n_Village_wished:NoAttr K (ExcR.clsOf mg "Village") "wished"
theorem Zb3:Pu.FldAt "book" ["book", "fields", "wished"] 0:=fun vs h=>by obtain ⟨a0,a1,a2,rfl⟩:=Pu.len3 h.symm;simp only [List.zip_cons_cons,List.zip_nil_right,List.lookup,(show (("book" : Str) == "book")=true by decide +kernel)];rfl
theorem Ziu:Pu.PutAt "book" []:=fun vs y h=>by obtain ⟨_,rfl⟩:=Pu.len0 h.symm;simp only [List.zip_cons_cons,List.zip_nil_right,putF];rfl
theorem Zc2:Pu.FldAt "fields" ["book", "fields", "wished"] 1:=fun vs h=>by obtain ⟨a0,a1,a2,rfl⟩:=Pu.len3 h.symm;simp only [List.zip_cons_cons,List.zip_nil_right,List.lookup,(show (("fields" : Str) == "book")=false by decide +kernel),(show (("fields" : Str) == "fields")=true by decide +kernel)];rfl
theorem Zgw:Pu.PutAt "fields" ["book"]:=fun vs y h=>by obtain ⟨a0,rfl⟩:=Pu.len1 h.symm;simp only [List.zip_cons_cons,List.zip_nil_right,putF,if_neg (show ¬ (("book" : Str) = "fields") by decide +kernel)];rfl
theorem Zc5:Pu.FldAt "wished" ["book", "fields", "wished"] 2:=fun vs h=>by obtain ⟨a0,a1,a2,rfl⟩:=Pu.len3 h.symm;simp only [List.zip_cons_cons,List.zip_nil_right,List.lookup,(show (("wished" : Str) == "book")=false by decide +kernel),(show (("wished" : Str) == "fields")=false by decide +kernel),(show (("wished" : Str) == "wished")=true by decide +kernel)];rfl
theorem Zgt:Pu.PutAt "wished" ["book", "fields"]:=fun vs y h=>by obtain ⟨a0,a1,rfl⟩:=Pu.len2 h.symm;simp only [List.zip_cons_cons,List.zip_nil_right,putF,if_neg (show ¬ (("book" : Str) = "wished") by decide +kernel),if_neg (show ¬ (("fields" : Str) = "wished") by decide +kernel)];rfl
theorem Zbr:Pu.NoFld "strips" ["book", "fields", "wished"]:=fun vs=>match vs with | []=>rfl | [a0]=>by simp only [List.zip_cons_cons,List.zip_nil_right,List.lookup,(show (("strips" : Str) == "book")=false by decide +kernel),(show (("strips" : Str) == "fields")=false by decide +kernel),(show (("strips" : Str) == "wished")=false by decide +kernel)] | [a0,a1]=>by simp only [List.zip_cons_cons,List.zip_nil_right,List.lookup,(show (("strips" : Str) == "book")=false by decide +kernel),(show (("strips" : Str) == "fields")=false by decide +kernel),(show (("strips" : Str) == "wished")=false by decide +kernel)] | a0 :: a1 :: a2 :: _=>by simp only [List.zip_cons_cons,List.zip_nil_left,List.lookup,(show (("strips" : Str) == "book")=false by decide +kernel),(show (("strips" : Str) == "fields")=false by decide +kernel),(show (("strips" : Str) == "wished")=false by decide +kernel)]
theorem Zbs:Pu.NoFld "wishes" ["book", "fields", "wished"]:=fun vs=>match vs with | []=>rfl | [a0]=>by simp only [List.zip_cons_cons,List.zip_nil_right,List.lookup,(show (("wishes" : Str) == "book")=false by decide +kernel),(show (("wishes" : Str) == "fields")=false by decide +kernel),(show (("wishes" : Str) == "wished")=false by decide +kernel)] | [a0,a1]=>by simp only [List.zip_cons_cons,List.zip_nil_right,List.lookup,(show (("wishes" : Str) == "book")=false by decide +kernel),(show (("wishes" : Str) == "fields")=false by decide +kernel),(show (("wishes" : Str) == "wished")=false by decide +kernel)] | a0 :: a1 :: a2 :: _=>by simp only [List.zip_cons_cons,List.zip_nil_left,List.lookup,(show (("wishes" : Str) == "book")=false by decide +kernel),(show (("wishes" : Str) == "fields")=false by decide +kernel),(show (("wishes" : Str) == "wished")=false by decide +kernel)]
theorem Zhh:Pu.NoFld "deeds" ["book", "fields", "wished"]:=fun vs=>match vs with | []=>rfl | [a0]=>by simp only [List.zip_cons_cons,List.zip_nil_right,List.lookup,(show (("deeds" : Str) == "book")=false by decide +kernel),(show (("deeds" : Str) == "fields")=false by decide +kernel),(show (("deeds" : Str) == "wished")=false by decide +kernel)] | [a0,a1]=>by simp only [List.zip_cons_cons,List.zip_nil_right,List.lookup,(show (("deeds" : Str) == "book")=false by decide +kernel),(show (("deeds" : Str) == "fields")=false by decide +kernel),(show (("deeds" : Str) == "wished")=false by decide +kernel)] | a0 :: a1 :: a2 :: _=>by simp only [List.zip_cons_cons,List.zip_nil_left,List.lookup,(show (("deeds" : Str) == "book")=false by decide +kernel),(show (("deeds" : Str) == "fields")=false by decide +kernel),(show (("deeds" : Str) == "wished")=false by decide +kernel)]
theorem Zbe:Pu.NoFld "check_room" ["book", "fields", "wished"]:=fun vs=>match vs with | []=>rfl | [a0]=>by simp only [List.zip_cons_cons,List.zip_nil_right,List.lookup,(show (("check_room" : Str) == "book")=false by decide +kernel),(show (("check_room" : Str) == "fields")=false by decide +kernel),(show (("check_room" : Str) == "wished")=false by decide +kernel)] | [a0,a1]=>by simp only [List.zip_cons_cons,List.zip_nil_right,List.lookup,(show (("check_room" : Str) == "book")=false by decide +kernel),(show (("check_room" : Str) == "fields")=false by decide +kernel),(show (("check_room" : Str) == "wished")=false by decide +kernel)] | a0 :: a1 :: a2 :: _=>by simp only [List.zip_cons_cons,List.zip_nil_left,List.lookup,(show (("check_room" : Str) == "book")=false by decide +kernel),(show (("check_room" : Str) == "fields")=false by decide +kernel),(show (("check_room" : Str) == "wished")=false by decide +kernel)]
theorem Zb6:Pu.NoFld "enter" ["book", "fields", "wished"]:=fun vs=>match vs with | []=>rfl | [a0]=>by simp only [List.zip_cons_cons,List.zip_nil_right,List.lookup,(show (("enter" : Str) == "book")=false by decide +kernel),(show (("enter" : Str) == "fields")=false by decide +kernel),(show (("enter" : Str) == "wished")=false by decide +kernel)] | [a0,a1]=>by simp only [List.zip_cons_cons,List.zip_nil_right,List.lookup,(show (("enter" : Str) == "book")=false by decide +kernel),(show (("enter" : Str) == "fields")=false by decide +kernel),(show (("enter" : Str) == "wished")=false by decide +kernel)] | a0 :: a1 :: a2 :: _=>by simp only [List.zip_cons_cons,List.zip_nil_left,List.lookup,(show (("enter" : Str) == "book")=false by decide +kernel),(show (("enter" : Str) == "fields")=false by decide +kernel),(show (("enter" : Str) == "wished")=false by decide +kernel)]
theorem Zil:Pu.NoFld "sell" ["book", "fields", "wished"]:=fun vs=>match vs with | []=>rfl | [a0]=>by simp only [List.zip_cons_cons,List.zip_nil_right,List.lookup,(show (("sell" : Str) == "book")=false by decide +kernel),(show (("sell" : Str) == "fields")=false by decide +kernel),(show (("sell" : Str) == "wished")=false by decide +kernel)] | [a0,a1]=>by simp only [List.zip_cons_cons,List.zip_nil_right,List.lookup,(show (("sell" : Str) == "book")=false by decide +kernel),(show (("sell" : Str) == "fields")=false by decide +kernel),(show (("sell" : Str) == "wished")=false by decide +kernel)] | a0 :: a1 :: a2 :: _=>by simp only [List.zip_cons_cons,List.zip_nil_left,List.lookup,(show (("sell" : Str) == "book")=false by decide +kernel),(show (("sell" : Str) == "fields")=false by decide +kernel),(show (("sell" : Str) == "wished")=false by decide +kernel)]
theorem Zii:Pu.NoFld "part" ["book", "fields", "wished"]:=fun vs=>match vs with | []=>rfl | [a0]=>by simp only [List.zip_cons_cons,List.zip_nil_right,List.lookup,(show (("part" : Str) == "book")=false by decide +kernel),(show (("part" : Str) == "fields")=false by decide +kernel),(show (("part" : Str) == "wished")=false by decide +kernel)] | [a0,a1]=>by simp only [List.zip_cons_cons,List.zip_nil_right,List.lookup,(show (("part" : Str) == "book")=false by decide +kernel),(show (("part" : Str) == "fields")=false by decide +kernel),(show (("part" : Str) == "wished")=false by decide +kernel)] | a0 :: a1 :: a2 :: _=>by simp only [List.zip_cons_cons,List.zip_nil_left,List.lookup,(show (("part" : Str) == "book")=false by decide +kernel),(show (("part" : Str) == "fields")=false by decide +kernel),(show (("part" : Str) == "wished")=false by decide +kernel)]
theorem Zhb:Pu.NoFld "unite" ["book", "fields", "wished"]:=fun vs=>match vs with | []=>rfl | [a0]=>by simp only [List.zip_cons_cons,List.zip_nil_right,List.lookup,(show (("unite" : Str) == "book")=false by decide +kernel),(show (("unite" : Str) == "fields")=false by decide +kernel),(show (("unite" : Str) == "wished")=false by decide +kernel)] | [a0,a1]=>by simp only [List.zip_cons_cons,List.zip_nil_right,List.lookup,(show (("unite" : Str) == "book")=false by decide +kernel),(show (("unite" : Str) == "fields")=false by decide +kernel),(show (("unite" : Str) == "wished")=false by decide +kernel)] | a0 :: a1 :: a2 :: _=>by simp only [List.zip_cons_cons,List.zip_nil_left,List.lookup,(show (("unite" : Str) == "book")=false by decide +kernel),(show (("unite" : Str) == "fields")=false by decide +kernel),(show (("unite" : Str) == "wished")=false by decide +kernel)]
theorem Zht:Pu.NoFld "wish" ["book", "fields", "wished"]:=fun vs=>match vs with | []=>rfl | [a0]=>by simp only [List.zip_cons_cons,List.zip_nil_right,List.lookup,(show (("wish" : Str) == "book")=false by decide +kernel),(show (("wish" : Str) == "fields")=false by decide +kernel),(show (("wish" : Str) == "wished")=false by decide +kernel)] | [a0,a1]=>by simp only [List.zip_cons_cons,List.zip_nil_right,List.lookup,(show (("wish" : Str) == "book")=false by decide +kernel),(show (("wish" : Str) == "fields")=false by decide +kernel),(show (("wish" : Str) == "wished")=false by decide +kernel)] | a0 :: a1 :: a2 :: _=>by simp only [List.zip_cons_cons,List.zip_nil_left,List.lookup,(show (("wish" : Str) == "book")=false by decide +kernel),(show (("wish" : Str) == "fields")=false by decide +kernel),(show (("wish" : Str) == "wished")=false by decide +kernel)]
theorem Zik:Pu.NoFld "drop" ["book", "fields", "wished"]:=fun vs=>match vs with | []=>rfl | [a0]=>by simp only [List.zip_cons_cons,List.zip_nil_right,List.lookup,(show (("drop" : Str) == "book")=false by decide +kernel),(show (("drop" : Str) == "fields")=false by decide +kernel),(show (("drop" : Str) == "wished")=false by decide +kernel)] | [a0,a1]=>by simp only [List.zip_cons_cons,List.zip_nil_right,List.lookup,(show (("drop" : Str) == "book")=false by decide +kernel),(show (("drop" : Str) == "fields")=false by decide +kernel),(show (("drop" : Str) == "wished")=false by decide +kernel)] | a0 :: a1 :: a2 :: _=>by simp only [List.zip_cons_cons,List.zip_nil_left,List.lookup,(show (("drop" : Str) == "book")=false by decide +kernel),(show (("drop" : Str) == "fields")=false by decide +kernel),(show (("drop" : Str) == "wished")=false by decide +kernel)]
theorem Zfx:Pu.NoFld "take_back" ["book", "fields", "wished"]:=fun vs=>match vs with | []=>rfl | [a0]=>by simp only [List.zip_cons_cons,List.zip_nil_right,List.lookup,(show (("take_back" : Str) == "book")=false by decide +kernel),(show (("take_back" : Str) == "fields")=false by decide +kernel),(show (("take_back" : Str) == "wished")=false by decide +kernel)] | [a0,a1]=>by simp only [List.zip_cons_cons,List.zip_nil_right,List.lookup,(show (("take_back" : Str) == "book")=false by decide +kernel),(show (("take_back" : Str) == "fields")=false by decide +kernel),(show (("take_back" : Str) == "wished")=false by decide +kernel)] | a0 :: a1 :: a2 :: _=>by simp only [List.zip_cons_cons,List.zip_nil_left,List.lookup,(show (("take_back" : Str) == "book")=false by decide +kernel),(show (("take_back" : Str) == "fields")=false by decide +kernel),(show (("take_back" : Str) == "wished")=false by decide +kernel)]
end T
namespace M
open PySem PySem.Spec PyProof.Rows L2 Own Pu
def Zcz:Pc:=fun ds R X=>∃ h:Int,ds=[.int h]∧tellE (holdE h) X (R (.sh .non))
def widthE (h:Int):Option Str:=if 1≤h∧h≤1000 then none else some "BadWidth"
def Zfz:Pc:=fun ds R X=>∃ h:Int,ds=[.int h]∧tellE (widthE h) X (R (.sh .non))
def Zdw:Pc:=fun ds R X=>∃ (ps:List (Int×Int)) (p:Int),ds=[.lst (ps.map prD),.int p]∧(if p < 1∨(ps.length:Int)≤p then X "NoStrip" else R (.sh .non))
def Zd9:Pc:=fun ds R X=>∃ (ps:List (Int×Int)) (p:Int),ds=[plD ps,.int p]∧tellE (placeE ps p) X (R (.sh .non))
def Zf:Pc:=fun ds R X=>∃ (ws:List (Int×Int)) (a b:Int),ds=[plD ws,.int a,.int b]∧ws.length≤1000∧tellE (dropE ws a b) X (R (.own ((dropL ws a b).map prD)))
def Zbd (C:Addr):Pc:=fun ds R _=>∃ (bk:List (Str×List Int)) (fs ws:List (List (Int×Int))) (f:List (Int×Int)),ds=[vilD C bk (fs++[f]) ws]∧R (.own (f.map prD))
def Zbb (C:Addr):Pc:=fun ds R _=>∃ (bk:List (Str×List Int)) (fs ws:List (List (Int×Int))) (f:List (Int×Int)),ds=[vilD C bk fs (ws++[f])]∧R (.own (f.map prD))
def Ze0 (C:Addr):Pc:=fun ds R _=>∃ (bk:List (Str×List Int)) (fs ws:List (List (Int×Int))),ds=[vilD C bk fs ws]∧R (.own (bk.map dD))
def roomE (bk:List (Str×List Int)):Option Str:=if 100≤bk.length then some "BookFull" else none
def Za6 (C:Addr):Pc:=fun ds R X=>∃ (bk:List (Str×List Int)) (fs ws:List (List (Int×Int))),ds=[vilD C bk fs ws]∧tellE (roomE bk) X (R (.sh .non))
def Zbw (C:Addr):Pw:=fun o ss R _=>∃ (x b1 b2 b3:Addr) (bk:List (Str×List Int)) (fs ws:List (List (Int×Int))) (q:Str×List Int) (f w:List (Int×Int)),o=vO C x b1 b2 b3 bk fs ws∧ss=[.sh (dD q),.sh (plD f),.sh (plD w)]∧bk.length≤1000∧fs.length≤1000∧ws.length≤1000∧
 R (vO C x b1 b2 b3 (bk++[q]) (fs++[f]) (ws++[w])) (.int (bk.length + 1))
def Zdh (C:Addr):Pw:=fun o ss R X=>∃ (x b1 b2 b3:Addr) (bk:List (Str×List Int)) (fs ws:List (List (Int×Int))),o=vO C x b1 b2 b3 bk fs ws∧ss=[]∧fs.length=bk.length + 1∧ws.length=bk.length + 1∧
 (bk=[]→X (vO C x b1 b2 b3 bk fs ws) "NothingDone")∧∀ b0 q,bk=b0++[q]→R (vO C x b1 b2 b3 b0 fs.dropLast ws.dropLast) (dD q)
def Zek:Pc:=fun ds R _=>∃ (ns:List Int) (k:Int),ds=[.scr ns,.int k]∧0≤k∧R (.sh (.int (ns.getD k.toNat 0)))
def Zd4:Pc:=fun ds R _=>∃ i:Int,ds=[.int i]∧R (.sh (.bl true))
def Zec:Pc:=fun ds R _=>∃ c p:Int,ds=[.int c,.int p]∧R (.sh (.int (mixP c p)))
def Zi1:Pc:=fun ds R _=>∃ c:Int,ds=[.int c]∧∀ m,Menu m→R (.own (m.map D.int))
def Zcu:Pc:=fun ds R _=>∃ (m:List Int) (k:Int),ds=[.lst (m.map D.int),.int k]∧Menu m∧∀ h:Int,1≤h→h≤10→h=holdP m k→R (.sh (.int h))
def Zea:Pq:=fun ss R _=>∃ (f:List (Int×Int)) (x:Dd),ss=[.sh (plD f),.sh (dD x.q)]∧x.land=true∧f.length≤40∧R (.own [.int (codeN (x.err f [])),plD (x.fld' f)])
def Ze2:Pq:=fun ss R _=>∃ (w:List (Int×Int)) (x:Dd),ss=[.sh (plD w),.sh (dD x.q)]∧x.land=false∧w.length≤20∧R (.own [.int (codeN (x.err [] w)),plD (x.wsh' w)])
def Zg5:Pc:=fun ds R _=>∃ c g:Int,ds=[.int c,.int g]∧∀ v:Int,R (.sh (.int v))
def Zg9:Pc:=fun ds R _=>∃ (c:Int) (ps:List (Int×Int)),ds=[.int c,plD ps]∧ps.length≤1000∧∀ v:Int,R (.sh (.int v))
def Zg6:Pc:=fun ds R _=>∃ (c:Int) (ps:List (Int×Int)) (p:Int),ds=[.int c,plD ps,.int p]∧ps.length≤1000∧Field ps∧∀ v:Int,R (.sh (.int v))
def Zfg:Pc:=fun ds R X=>∃ ps:List (Int×Int),ds=[plD ps]∧ps.length≤1000∧tellE (stripE ps) X (R (.sh .non))
def Znp:Pc:=fun ds R X=>∃ (ps:List (Int×Int)) (p h:Int),ds=[plD ps,.int p,.int h]∧ps.length≤1000∧tellE (soldE ps p h) X (R (.own (soldL ps p h |>.map prD)))
def Zkb:Pc:=fun ds R X=>∃ (ps:List (Int×Int)) (p w:Int),ds=[plD ps,.int p,.int w]∧ps.length≤1000∧tellE (partE ps p w) X (R (.own ((partL ps p w).map prD)))
def Zkz:Pc:=fun ds R X=>∃ (ps:List (Int×Int)) (p:Int),ds=[plD ps,.int p]∧ps.length≤1000∧tellE (uniE ps p) X (R (.own ((uniL ps p).map prD)))
def Zh:Pc:=fun ds R X=>∃ (ws:List (Int×Int)) (a b:Int),ds=[plD ws,.int a,.int b]∧ws.length≤1000∧tellE (wishE ws a b) X (R (.own ((ws++[(a,b)]).map prD)))
def vdropE (bk:List (Str×List Int)) (w:List (Int×Int)) (a b:Int):Option Str:=if 100≤bk.length then some "BookFull" else dropE w a b
def Ze9 (C:Addr):Pw:=fun o ss R X=>∃ (x b1 b2 b3:Addr) (bk:List (Str×List Int)) (fs ws:List (List (Int×Int))) (f w:List (Int×Int)) (p h:Int),o=vO C x b1 b2 b3 bk (fs++[f]) (ws++[w])∧ss=[.sh (.int p),.sh (.int h)]∧bk.length≤1000∧fs.length≤900∧ws.length≤900∧w.length≤1000∧
 tellE (vdropE bk w p h) (X (vO C x b1 b2 b3 bk (fs++[f]) (ws++[w]))) (R (vO C x b1 b2 b3 (bk++[(("drop" : Str),[p,h])]) (fs++[f]++[f]) (ws++[w]++[dropL w p h])) (.int (bk.length + 1)))
def Zib:Pc:=fun ds R _=>∃ (ns:List Int) (k:Int),ds=[.scr ns,.int k]∧0≤k∧∀ v:Int,R (.sh (.int v))
def Zgn:Pc:=fun ds R _=>∃ ps:List (Int×Int),ds=[.lst (ps.map prD),.lst (ps.map prD)]∧ps.length≤1000000∧R (.sh (.bl true))
def Zd7:Pc:=fun ds R _=>∃ q:Str×List Int,ds=[dD q,dD q]∧q.2.length≤100∧R (.sh (.bl true))
def Zin:Pq:=fun ss R _=>∃ (f w:List (Int×Int)) (ds:List D) (x:Dd),ss=[.sh (.tup (plD f :: plD w :: ds)),.sh (dD x.q)]∧f.length≤40∧w.length≤20∧R (.own [.int (codeN (x.err f w)),plD (x.nf f w),plD (x.nw f w)])
def Zi2:Pc:=fun ds R _=>∃ (n c:Int),ds=[.tup [.int (if c=0 then n else -1),.lst ((kind12 c).map D.bl)],.int c,.int n]∧R (.sh (.bl true))
def Zg8:Pc:=fun ds R _=>∃ (ns m:List Int) (n:Int),ds=[.scr ns,.lst (m.map D.int),.int n]∧Menu m∧0≤n∧n≤1000∧∀ ps:List (Int×Int),Field ps→ps.length=n.toNat→R (.own (ps.map prD))
def Ziw:Pc:=fun ds R _=>∃ (ns:List Int) (n:Int),ds=[.scr ns,.int n]∧0≤n∧n≤1000∧∀ cs:List Int,(cs.length:Int)≤n→R (.own (cs.map D.int))
def Zf7:Pc:=fun ds R _=>∃ (c:Int) (m:List Int),ds=[.int c,.lst (m.map D.int)]∧Menu m∧∀ a b:Int,R (.sh (prD (a,b)))
def Ze5 (C:Addr):Pw:=fun o ss R X=>∃ (x:Addr) (ps:List (Int×Int)),o=.ins x C [] []∧ss=[.sh (plD ps)]∧ps.length≤1000∧tellE (stripE ps) (X (.ins x C [] [])) (∀ b1 b2 b3,R (vO C x b1 b2 b3 [] [ps] [[]]) .non)
def sellE (bk:List (Str×List Int)) (f:List (Int×Int)) (p h:Int):Option Str:=if 100≤bk.length then some "BookFull" else soldE f p h
def Zfb (C:Addr):Pw:=fun o ss R X=>∃ (x b1 b2 b3:Addr) (bk:List (Str×List Int)) (fs ws:List (List (Int×Int))) (f w:List (Int×Int)) (p h:Int),o=vO C x b1 b2 b3 bk (fs++[f]) (ws++[w])∧ss=[.sh (.int p),.sh (.int h)]∧bk.length≤1000∧fs.length≤900∧ws.length≤900∧f.length≤1000∧
 tellE (sellE bk f p h) (X (vO C x b1 b2 b3 bk (fs++[f]) (ws++[w]))) (R (vO C x b1 b2 b3 (bk++[(("sell" : Str),[p,h])]) (fs++[f]++[soldL f p h]) (ws++[w]++[w])) (.int (bk.length + 1)))
def partRE (bk:List (Str×List Int)) (f:List (Int×Int)) (p h:Int):Option Str:=if 100≤bk.length then some "BookFull" else partE f p h
def Zfc (C:Addr):Pw:=fun o ss R X=>∃ (x b1 b2 b3:Addr) (bk:List (Str×List Int)) (fs ws:List (List (Int×Int))) (f w:List (Int×Int)) (p h:Int),o=vO C x b1 b2 b3 bk (fs++[f]) (ws++[w])∧ss=[.sh (.int p),.sh (.int h)]∧bk.length≤1000∧fs.length≤900∧ws.length≤900∧f.length≤1000∧
 tellE (partRE bk f p h) (X (vO C x b1 b2 b3 bk (fs++[f]) (ws++[w]))) (R (vO C x b1 b2 b3 (bk++[(("part" : Str),[p,h])]) (fs++[f]++[partL f p h]) (ws++[w]++[w])) (.int (bk.length + 1)))
def uniteE (bk:List (Str×List Int)) (f:List (Int×Int)) (p:Int):Option Str:=if 100≤bk.length then some "BookFull" else uniE f p
def Ze1 (C:Addr):Pw:=fun o ss R X=>∃ (x b1 b2 b3:Addr) (bk:List (Str×List Int)) (fs ws:List (List (Int×Int))) (f w:List (Int×Int)) (p:Int),o=vO C x b1 b2 b3 bk (fs++[f]) (ws++[w])∧ss=[.sh (.int p)]∧bk.length≤1000∧fs.length≤900∧ws.length≤900∧f.length≤1000∧
 tellE (uniteE bk f p) (X (vO C x b1 b2 b3 bk (fs++[f]) (ws++[w]))) (R (vO C x b1 b2 b3 (bk++[(("unite" : Str),[p])]) (fs++[f]++[uniL f p]) (ws++[w]++[w])) (.int (bk.length + 1)))
def vwishE (bk:List (Str×List Int)) (w:List (Int×Int)) (a b:Int):Option Str:=if 100≤bk.length then some "BookFull" else wishE w a b
def Zfa (C:Addr):Pw:=fun o ss R X=>∃ (x b1 b2 b3:Addr) (bk:List (Str×List Int)) (fs ws:List (List (Int×Int))) (f w:List (Int×Int)) (p h:Int),o=vO C x b1 b2 b3 bk (fs++[f]) (ws++[w])∧ss=[.sh (.int p),.sh (.int h)]∧bk.length≤1000∧fs.length≤900∧ws.length≤900∧w.length≤1000∧
 tellE (vwishE bk w p h) (X (vO C x b1 b2 b3 bk (fs++[f]) (ws++[w]))) (R (vO C x b1 b2 b3 (bk++[(("wish" : Str),[p,h])]) (fs++[f]++[f]) (ws++[w]++[w++[(p,h)]])) (.int (bk.length + 1)))
def Zf1:Pc:=fun ds R _=>∃ bk:List (Str×List Int),ds=[.lst (bk.map dD),.lst (bk.map dD)]∧(∀ q∈bk,q.2.length≤100)∧bk.length≤1000∧R (.sh (.bl true))
def Ziy (C:Addr):Pw2:=fun o1 o2 ss R _=>∃ (x b1 b2 b3 a:Addr) (f0:List (Int×Int)) (hs:Hist),o1=vO C x b1 b2 b3 (bkH hs) (fsH f0 hs) (wsH hs)∧o2=.lsA a (pastH f0 hs)∧ss=[]∧hs.length≤200∧R (vO C x b1 b2 b3 (bkH hs.dropLast) (fsH f0 hs.dropLast) (wsH hs.dropLast)) (.lsA a (pastH f0 hs.dropLast)) (.bl true)
def Zf4:Pc:=fun ds R _=>∃ (ns m:List Int),ds=[.scr ns,.lst (m.map D.int)]∧Menu m∧∀ qs:List (Int×Int),qs.length≤24→R (.own (qs.map fun q=>dD (Dd.wish q.1 q.2).q))
def Zip:Pc:=fun ds R _=>∃ (c:Int) (m:List Int) (f w:List (Int×Int)) (es:List D),ds=[.int c,.lst (m.map D.int),.tup (plD f :: plD w :: es)]∧Menu m∧f.length≤1000∧Field f∧w.length≤1000∧(∀ x:Dd,R (.sh (dD x.q)))∧R (.sh (.tup [.str "back"]))
def callE (bk:List (Str×List Int)) (f w:List (Int×Int)) (d:Dd):Option Str:=if 100≤bk.length then some "BookFull" else d.err f w
def Zhz (C:Addr):Pw:=fun o ss R X=>∃ (x b1 b2 b3:Addr) (bk:List (Str×List Int)) (fs ws:List (List (Int×Int))) (f w:List (Int×Int)) (d:Dd),o=vO C x b1 b2 b3 bk (fs++[f]) (ws++[w])∧ss=[.sh (dD d.q)]∧bk.length≤1000∧fs.length≤900∧ws.length≤900∧f.length≤1000∧w.length≤1000∧
 tellE (callE bk f w d) (X (vO C x b1 b2 b3 bk (fs++[f]) (ws++[w]))) (R (vO C x b1 b2 b3 (bk++[d.q]) (fs++[f]++[d.fld f]) (ws++[w]++[d.wsh w])) (.int (bk.length + 1)))
def Zge (C:Addr):Pc:=fun ds R _=>∃ (f0:List (Int×Int)) (hs:List (Dd×List (Int×Int)×List (Int×Int))),ds=[vilD C (bkH hs) (fsH f0 hs) (wsH hs),.lst (pastH f0 hs)]∧hs.length≤200∧(∀ g∈fsH f0 hs,g.length≤1000)∧(∀ g∈wsH hs,g.length≤1000)∧R (.sh (.bl true))
def Zk0 (C:Addr):Pw:=fun o ss R _=>∃ (x b1 b2 b3:Addr) (bk:List (Str×List Int)) (fs ws:List (List (Int×Int))) (f w:List (Int×Int)) (d:Dd),o=vO C x b1 b2 b3 bk (fs++[f]) (ws++[w])∧ss=[.sh (dD d.q)]∧bk.length < 100∧fs.length≤900∧ws.length≤900∧f.length≤1000∧w.length≤1000∧
 R (if d.err f w=none then vO C x b1 b2 b3 (bk++[d.q]) (fs++[f]++[d.fld f]) (ws++[w]++[d.wsh w]) else vO C x b1 b2 b3 bk (fs++[f]) (ws++[w])) (.tup [.int (if d.err f w=none then bk.length + 1 else -1),.lst ((kind12 (codeN (d.err f w))).map D.bl)])
def Zh9 (C:Addr):Pw2:=fun o1 o2 ss R _=>∃ (x b1 b2 b3 a:Addr) (f0:List (Int×Int)) (hs:Hist) (q:D),o1=vO C x b1 b2 b3 (bkH hs) (fsH f0 hs) (wsH hs)∧o2=.lsA a (pastH f0 hs)∧ss=[.sh q]∧hs.length < 100∧FineH f0 hs∧
 ((q=.tup [.str "back"]∧R (vO C x b1 b2 b3 (bkH hs.dropLast) (fsH f0 hs.dropLast) (wsH hs.dropLast)) (.lsA a (pastH f0 hs.dropLast)) (.bl true))∨
  ∃ d:Dd,q=dD d.q∧R (vO C x b1 b2 b3 (bkH (addH f0 hs d)) (fsH f0 (addH f0 hs d)) (wsH (addH f0 hs d))) (.lsA a (pastH f0 (addH f0 hs d))) (.bl true))
end M
namespace M
open PySem PySem.Spec PyProof.Rows L2 Own Pu
end M
namespace T
open PySem PySem.Spec PyProof.Rows L2 Own M
section
variable {P:Program} {w:World} {K:PySem.W.Frag} {mg:Str→Option Value} {base:Heap}
end
end T
namespace T
open PySem PySem.Spec PyProof.Rows L2 Own M Pu
section
variable {P:Program} {w:World} {K:PySem.W.Frag} {mg:Str→Option Value} {base:Heap}
theorem Zij (G:Glob K mg) (DD:Def K mg "check_holder" Zdb ["holder"])
  : Callee P w K mg base (ExcR.CXe P w) 1 "check_holder" ["holder"] (Pu.spOf mg Zcz K):=by
 refine ExcR.Def.okX DD (k:=0) Zig (fun vs H Q E h=>Zay h (fun ds R X h=>?_)) (fun f cdv A outer s H vs Q E hr h=>?_)
 ·obtain ⟨h,rfl,hR⟩:=h
  rfl
 ·refine ⟨_,(Zah (Za3 (PW.pt (Zei (Zal Zgp (pv 0) Zad (nomark _)) (Zc1 (Zal Zi5 (pv 0) (ExcR.Zcd G.HOLDERS) (nomark _)))))
   (Zah (ExcR.Zb1 G.g_BadHolder.c G.m_BadHolder ExcR.Zbx rfl (Za (ExcR.pe_f (ExcR.Zez (ExcR.Zhy (ExcR.Zcd G.HOLDERS) ExcR.Zh5))) Zaf)))
   Zaq)),Pu.Zbf (n:=1) h
   (Za5 (Zeq (Zak (Zgm (Zab 0) Zac)) (Zak (Zi4 (Zab 0) Zac))) (Zbz (Zaa (se_f (Zey (Ziq Zac Zhs))) Zae)) Zar) (by decide) (fun ds R X h=>?_)⟩
  obtain ⟨h,rfl,hR⟩:=h
  refine ⟨rfl,?_⟩
  unfold holdE at hR
  refine ite2 (fun g=>iteT ?_) (fun g=>?_)
  ·rw [if_neg (by have:=of_decide_eq_true g;omega)] at hR
   exact ⟨by decide,by decide,by decide,by decide,by simp,hR⟩
  ·have g':¬ h < 1:=fun z=>g (decide_eq_true z)
   refine ite2 (fun g2=>?_) (fun g2=>?_)
   ·rw [if_neg (by have:=of_decide_eq_true g2;omega)] at hR
    exact ⟨by decide,by decide,by decide,by decide,by simp,hR⟩
   ·have g2':¬ 10 < h:=fun z=>g2 (decide_eq_true z)
    rw [if_pos (by omega)] at hR
    exact hR
theorem Zjb (G:Glob K mg) (DD:Def K mg "check_width" Zdj ["width"])
  : Callee P w K mg base (ExcR.CXe P w) 1 "check_width" ["width"] (Pu.spOf mg Zfz K):=by
 refine ExcR.Def.okX DD (k:=0) Zj (fun vs H Q E h=>Zay h (fun ds R X h=>?_)) (fun f cdv A outer s H vs Q E hr h=>?_)
 ·obtain ⟨h,rfl,hR⟩:=h
  rfl
 ·refine ⟨_,(Zah (Za3 (PW.pt (Zei (Zal Zgp (pv 0) Zad (nomark _)) (Zc1 (Zal Zi5 (pv 0) (ExcR.Zcd G.WIDEST) (nomark _)))))
   (Zah (ExcR.Zb1 G.g_BadWidth.c G.m_BadWidth ExcR.Zbx rfl (Za (ExcR.pe_f (ExcR.Zez (ExcR.Zhy (ExcR.Zcd G.WIDEST) ExcR.Zh5))) Zaf)))
   Zaq)),Pu.Zbf (n:=1) h
   (Za5 (Zeq (Zak (Zgm (Zab 0) Zac)) (Zak (Zi4 (Zab 0) Zac))) (Zbz (Zaa (se_f (Zey (Ziq Zac Zhs))) Zae)) Zar) (by decide) (fun ds R X h=>?_)⟩
  obtain ⟨h,rfl,hR⟩:=h
  refine ⟨rfl,?_⟩
  unfold widthE at hR
  refine ite2 (fun g=>iteT ?_) (fun g=>?_)
  ·rw [if_neg (by have:=of_decide_eq_true g;omega)] at hR
   exact ⟨by decide,by decide,by decide,by decide,by simp,hR⟩
  ·have g':¬ h < 1:=fun z=>g (decide_eq_true z)
   refine ite2 (fun g2=>?_) (fun g2=>?_)
   ·rw [if_neg (by have:=of_decide_eq_true g2;omega)] at hR
    exact ⟨by decide,by decide,by decide,by decide,by simp,hR⟩
   ·have g2':¬ 1000 < h:=fun z=>g2 (decide_eq_true z)
    rw [if_pos (by omega)] at hR
    exact hR
theorem Zf6 (G:Glob K mg) (DD:Def K mg "check_neighbours" Zc ["strips", "place"])
  : Callee P w K mg base (ExcR.CXe P w) 1 "check_neighbours" ["strips", "place"] (Pu.spOf mg Zdw K):=by
 refine ExcR.Def.okX DD (k:=0) Zg (fun vs H Q E h=>Zay h (fun ds R X h=>?_)) (fun f cdv A outer s H vs Q E hr h=>?_)
 ·obtain ⟨ps,p,rfl,hR⟩:=h
  rfl
 ·refine ⟨_,(Zah (Za3 (PW.pt (Zei (Zal Zgp (pv 1) Zad (nomark _)) (Zc1 (Zal Zm2 (pv 1) (Zan (Own.Zax (K:=K)) (by rfl) G.len PySem.boot_len (Za (pv 0) Zaf)) (nomark _)))))
   (Zah (ExcR.Zb1 G.g_NoStrip.c G.m_NoStrip ExcR.Zbx rfl (Za Zbn Zaf)))
   Zaq)),Pu.Zbf (n:=2) h
   (Za5 (Zeq (Zak (Zgm (Zab 1) Zac)) (Zak (Zmv (Zab 1) (Zbt (Zaa (Zab 0) Zae))))) (Zbz (Zaa Zbo Zae)) Zar) (by decide) (fun ds R X h=>?_)⟩
  obtain ⟨ps,p,rfl,hR⟩:=h
  refine ⟨rfl,?_⟩
  have hl:(ps.map prD).length=ps.length:=List.length_map ..
  refine ite2 (fun g=>iteT ?_) (fun g=>?_)
  ·rw [if_pos (.inl (of_decide_eq_true g))] at hR
   exact ⟨by simp,hR⟩
  ·have g':¬ p < 1:=fun z=>g (decide_eq_true z)
   refine ite2 (fun g2=>?_) (fun g2=>?_)
   ·have g2':((ps.map prD).length:Int)≤p:=of_decide_eq_true g2
    rw [if_pos (.inr (by omega))] at hR
    exact ⟨by simp,hR⟩
   ·have g2':¬ ((ps.map prD).length:Int)≤p:=fun z=>g2 (decide_eq_true z)
    rw [if_neg (by omega)] at hR
    exact hR
theorem Zi8 (G:Glob K mg) (DD:Def K mg "check_place" Zdn ["strips", "place"])
  : Callee P w K mg base (ExcR.CXe P w) 1 "check_place" ["strips", "place"] (Pu.spOf mg Zd9 K):=by
 refine ExcR.Def.okX DD (k:=0) Zja (fun vs H Q E h=>Zay h (fun ds R X h=>?_)) (fun f cdv A outer s H vs Q E hr h=>?_)
 ·obtain ⟨ps,p,rfl,hR⟩:=h
  rfl
 ·refine ⟨_,(Zah (Za3 (PW.pt (Zei (Zal Zgp (pv 1) Zad (nomark _)) (Zc1 (Zal Zi5 (pv 1) (Zan (Own.Zax (K:=K)) (by rfl) G.len PySem.boot_len (Za (pv 0) Zaf)) (nomark _)))))
   (Zah (ExcR.Zb1 G.g_NoStrip.c G.m_NoStrip ExcR.Zbx rfl (Za Zbn Zaf)))
   Zaq)),Pu.Zbf (n:=2) h
   (Za5 (Zeq (Zak (Zgm (Zab 1) Zac)) (Zak (Zi4 (Zab 1) (Zbt (Zaa (Zab 0) Zae))))) (Zbz (Zaa Zbo Zae)) Zar) (by decide) (fun ds R X h=>?_)⟩
  obtain ⟨ps,p,rfl,hR⟩:=h
  refine ⟨rfl,?_⟩
  have hl:(ps.map prD).length=ps.length:=List.length_map ..
  unfold placeE at hR
  refine ite2 (fun g=>iteT ?_) (fun g=>?_)
  ·rw [if_pos (.inl (of_decide_eq_true g))] at hR
   exact ⟨by simp,hR⟩
  ·have g':¬ p < 1:=fun z=>g (decide_eq_true z)
   refine ite2 (fun g2=>?_) (fun g2=>?_)
   ·have g2':((ps.map prD).length:Int) < p:=of_decide_eq_true g2
    rw [if_pos (.inr (by omega))] at hR
    exact ⟨by simp,hR⟩
   ·have g2':¬ ((ps.map prD).length:Int) < p:=fun z=>g2 (decide_eq_true z)
    rw [if_neg (by omega)] at hR
    exact hR
theorem Zim (G:Glob K mg) (DD:Def K mg "without_wish" Zc9 ["wishes", "ahead", "behind"])
  : Callee P w K mg base (ExcR.CXe P w) 1 "without_wish" ["wishes", "ahead", "behind"] (Pu.spOf mg Zf K):=by
 refine ExcR.Def.okX DD (k:=0) Zis (fun vs H Q E h=>Zay h (fun ds R X h=>?_)) (fun f cdv A outer s H vs Q E hr h=>?_)
 ·obtain ⟨ws,a,b,rfl,hz,hR⟩:=h
  rfl
 ·refine ⟨_,(Zag (Za3 (Zal (Pu.Zk5 (K:=K) (show _ < cLine from Zpq hr)) (Zbh (Za (pv 1) (Za (pv 2) Zaf))) (pv 0) (by with_unfolding_all rfl))
   (Zah (ExcR.Zb1 G.g_NoWish.c G.m_NoWish ExcR.Zbx rfl (Za Zbn Zaf)))
   Zaq)
   (Zah (Zas (Own.Zh0 (N':=["wish", "ahead", "behind"]) (φ:=[none,some 1,some 2]) rfl (Own.CompOk.of (by rfl)) (Pu.Zfj (K:=K) (pv 0)) (fun _ _ _ _ _=>⟨(Zcl (i:=0) (show (["wish", "ahead", "behind"]:List Str).Nodup from by decide +kernel) rfl (by first | exact Or.inl rfl | exact Or.inr rfl)),(Own.Zmj (Zal (Pu.Zp8 (K:=K) (show _ < cLine from hr.units0)) (pv 0) (Zbh (Za (pv 1) (Za (pv 2) Zaf))) (nomark _))),(pv 0)⟩))))),Pu.Zbf (n:=3) h
   (Zaj (Za5 (Zak (Zp0 (Zbi (Zaa (Zab 1) (Zaa (Zab 2) Zae))) (Zab 0))) (Zbz (Zaa Zbo Zae)) Zar)
    (Zaz 2 (Zaz 1 (Zav (Zif (Zmr (Zab 0)) (Zam 0) (Zak (Zqf (Zab 0) (Zbi (Zaa (Zab 1) (Zaa (Zab 2) Zae))))) (Zab 0)))))) (by decide) (fun ds R X h=>?_)⟩
  obtain ⟨ws,a,b,rfl,hz,hR⟩:=h
  refine ⟨rfl,?_⟩
  unfold dropE at hR
  refine ⟨by simp,_,.lp (a,b) ws,ite2 (fun g=>?_) (fun g=>?_)⟩
  ·have g':¬ (a,b)∈ws:=fun z=>by rw [if_pos rfl,decide_eq_true z] at g;cases g
   rw [if_neg g'] at hR
   exact ⟨by simp,hR⟩
  ·have g':(a,b)∈ws:=Classical.byContradiction fun z=>g (by rw [if_pos rfl,decide_eq_false z];rfl)
   rw [if_pos g'] at hR
   refine Zn9 (xs:=ws) (emb:=prD) (fun q=>if (!decide (q=(a,b)))=true then some (prD q) else none) (by omega) (fun q hq=>?_) ?_
   ·refine ⟨by simp,?_⟩
    show fNeT (.sh (prD q)) (.sh (prD (a,b))) _
    refine Zpk ?_
    exact ite2 (fun h=>⟨_,rfl,if_pos h⟩) (fun h=>if_neg h)
   ·rw [pickD (fun q:Int×Int=>!decide (q=(a,b)))]
    exact hR
theorem Zg4 (G:Glob K mg) (DD:Pu.DefM K (Meth K (ExcR.clsOf mg "Village") "strips") "strips" "Village.strips" Zck ["self"])
  : Pu.CalleeM P w K mg base CX0 1 (Meth K (ExcR.clsOf mg "Village") "strips") ["self"] (Pu.spOf mg (Zbd (ExcR.clsOf mg "Village")) K):=by
 refine Pu.DefM.ok DD (k:=0) Zgs (fun vs H Q E h=>Zay h (fun ds R X h=>?_)) (fun f cdv A outer s H vs Q E hr h=>?_)
 ·obtain ⟨bk,fs,ws,f,rfl,hR⟩:=h
  rfl
 ·refine ⟨_,(Zah (Zas (Zeh (Pu.Zed (K:=K)) (by rfl) G.list boot_list (Za (Zao (Own.Zai (K:=K)) (Zex (pv 0) rfl) (Zi7 Zf0 Zad) (fun _ _=>rfl)) Zaf)))),Pu.Zbf (n:=1) h
   (Zav (Ziv (Zaa (Zap (Zjf 1 G.cl_Village G.n_Village_fields Zc2 (Zab 0)) (Zf3 Zac)) Zae))) (by decide) (fun ds R X h=>?_)⟩
  obtain ⟨bk,fs,ws,f,rfl,hR⟩:=h
  refine ⟨rfl,?_⟩
  exact ⟨rfl,rfl,_,rfl,_,Zp1 plD fs f,Zb7 _,hR⟩
theorem Zgx (G:Glob K mg) (DD:Pu.DefM K (Meth K (ExcR.clsOf mg "Village") "wishes") "wishes" "Village.wishes" Zci ["self"])
  : Pu.CalleeM P w K mg base CX0 1 (Meth K (ExcR.clsOf mg "Village") "wishes") ["self"] (Pu.spOf mg (Zbb (ExcR.clsOf mg "Village")) K):=by
 refine Pu.DefM.ok DD (k:=0) Zg1 (fun vs H Q E h=>Zay h (fun ds R X h=>?_)) (fun f cdv A outer s H vs Q E hr h=>?_)
 ·obtain ⟨bk,fs,ws,f,rfl,hR⟩:=h
  rfl
 ·refine ⟨_,(Zah (Zas (Zeh (Pu.Zed (K:=K)) (by rfl) G.list boot_list (Za (Zao (Own.Zai (K:=K)) (Zex (pv 0) rfl) (Zi7 Zf0 Zad) (fun _ _=>rfl)) Zaf)))),Pu.Zbf (n:=1) h
   (Zav (Ziv (Zaa (Zap (Zjf 2 G.cl_Village G.n_Village_wished Zc5 (Zab 0)) (Zf3 Zac)) Zae))) (by decide) (fun ds R X h=>?_)⟩
  obtain ⟨bk,fs,ws,f,rfl,hR⟩:=h
  refine ⟨rfl,?_⟩
  exact ⟨rfl,rfl,_,rfl,_,Zp1 plD ws f,Zb7 _,hR⟩
theorem Zhi (G:Glob K mg) (DD:Pu.DefM K (Meth K (ExcR.clsOf mg "Village") "deeds") "deeds" "Village.deeds" Zct ["self"])
  : Pu.CalleeM P w K mg base CX0 1 (Meth K (ExcR.clsOf mg "Village") "deeds") ["self"] (Pu.spOf mg (Ze0 (ExcR.clsOf mg "Village")) K):=by
 refine Pu.DefM.ok DD (k:=0) Zhg (fun vs H Q E h=>Zay h (fun ds R X h=>?_)) (fun f cdv A outer s H vs Q E hr h=>?_)
 ·obtain ⟨bk,fs,ws,rfl,hR⟩:=h
  rfl
 ·refine ⟨_,(Zah (Zas (Zeh (Pu.Zed (K:=K)) (by rfl) G.list boot_list (Za (Zex (pv 0) rfl) Zaf)))),Pu.Zbf (n:=1) h
   (Zav (Ziv (Zaa (Zjf 0 G.cl_Village G.n_Village_book Zb3 (Zab 0)) Zae))) (by decide) (fun ds R X h=>?_)⟩
  obtain ⟨bk,fs,ws,rfl,hR⟩:=h
  refine ⟨rfl,?_⟩
  exact ⟨rfl,rfl,_,rfl,Zje _,hR⟩
theorem Ze6 (G:Glob K mg) (DD:Pu.DefM K (Meth K (ExcR.clsOf mg "Village") "check_room") "check_room" "Village.check_room" Zb0 ["self"])
  : Pu.CalleeM P w K mg base (ExcR.CXe P w) 1 (Meth K (ExcR.clsOf mg "Village") "check_room") ["self"] (Pu.spOf mg (Za6 (ExcR.clsOf mg "Village")) K):=by
 refine Pu.DefM.okX DD (k:=0) Zfd (fun vs H Q E h=>Zay h (fun ds R X h=>?_)) (fun f cdv A outer s H vs Q E hr h=>?_)
 ·obtain ⟨bk,fs,ws,rfl,hR⟩:=h
  rfl
 ·refine ⟨_,(Zah (Za3 (Zal Zm2 (Zan (Own.Zax (K:=K)) (by rfl) G.len PySem.boot_len (Za (Zex (pv 0) rfl) Zaf)) (ExcR.Zcd G.MOST_DEEDS) (nomark _))
   (Zah (ExcR.Zb1 G.g_BookFull.c G.m_BookFull ExcR.Zbx rfl (Za (ExcR.pe_f (ExcR.Zez (ExcR.Zhy (ExcR.Zcd G.MOST_DEEDS) (ExcR.Zez ExcR.Zh5)))) Zaf)))
   Zaq)),Pu.Zbf (n:=1) h
   (Za5 (Zak (Zmv (Zbt (Zaa (Zjf 0 G.cl_Village G.n_Village_book Zb3 (Zab 0)) Zae)) Zac)) (Zbz (Zaa (se_f (Zey (Ziq Zac (Zey Zhs)))) Zae)) Zar) (by decide) (fun ds R X h=>?_)⟩
  obtain ⟨bk,fs,ws,rfl,hR⟩:=h
  refine ⟨rfl,?_⟩
  have hl:(bk.map dD).length=bk.length:=List.length_map ..
  unfold roomE at hR
  refine ⟨rfl,rfl,_,rfl,ite2 (fun g=>?_) (fun g=>?_)⟩
  ·have g':(100:Int)≤((bk.map dD).length:Int):=of_decide_eq_true g
   rw [if_pos (by omega)] at hR
   exact ⟨by decide,by decide,by decide,by decide,by decide,by simp,hR⟩
  ·have g':¬ (100:Int)≤((bk.map dD).length:Int):=fun z=>g (decide_eq_true z)
   rw [if_neg (by omega)] at hR
   exact hR
theorem Zhf (G:Glob K mg) (DD:Pu.DefM K (Meth K (ExcR.clsOf mg "Village") "enter") "enter" "Village.enter" Zc0 ["self", "deed", "field", "wishes"])
  : Pu.CalleeM P w K mg base CX0 1 (Meth K (ExcR.clsOf mg "Village") "enter") ["self", "deed", "field", "wishes"] (Pu.spW mg (Zbw (ExcR.clsOf mg "Village")) K):=by
 refine Pu.DefM.ok DD (k:=0) Zhc (fun vs H Q E h=>Pu.Ze (n:=3) h (fun o ss R X h=>?_)) (fun f cdv A outer s H vs Q E hr h=>?_)
 ·obtain ⟨x,b1,b2,b3,bk,fs,ws,q,f,w,rfl,rfl,h1,h2,h3,hR⟩:=h
  rfl
 ·refine ⟨_,(Zag (Zbv (Zm9 PySem.F.plainAttrs_list PySem.F.slot_list_append PySem.F.type_list_append Zdy (Zex (pv 0) rfl) (Za (pv 1) Zaf)))
   (Zag (Zbv (Zm9 PySem.F.plainAttrs_list PySem.F.slot_list_append PySem.F.type_list_append Zdy (Zex (pv 0) rfl) (Za (pv 2) Zaf)))
   (Zag (Zbv (Zm9 PySem.F.plainAttrs_list PySem.F.slot_list_append PySem.F.type_list_append Zdy (Zex (pv 0) rfl) (Za (pv 3) Zaf)))
   (Zah (Zas (Zan (Own.Zax (K:=K)) (by rfl) G.len PySem.boot_len (Za (Zex (pv 0) rfl) Zaf))))))),Pu.Zd8 (n:=3) h
   (Zaj (Zaz 1 (Zgg (Zlf 0 0 G.cl_Village G.n_Village_book Zb3 (Zab 1))))
    (Zaj (Zaz 2 (Zgg (Zlf 0 1 G.cl_Village G.n_Village_fields Zc2 (Zab 2))))
    (Zaj (Zaz 3 (Zgg (Zlf 0 2 G.cl_Village G.n_Village_wished Zc5 (Zab 3))))
    (Zg2 (Zbt (Zaa (Zjf 0 G.cl_Village G.n_Village_book Zb3 (Zab 0)) Zae)))))) (by decide) (fun o ss R X h=>?_)⟩
  obtain ⟨x,b1,b2,b3,bk,fs,ws,q,f,w,rfl,rfl,h1,h2,h3,hR⟩:=h
  refine ⟨rfl,?_⟩
  have k1:(bk.map dD).length < 10000000:=by rw [List.length_map];omega
  have k2:(fs.map plD).length < 10000000:=by rw [List.length_map];omega
  have k3:(ws.map plD).length < 10000000:=by rw [List.length_map];omega
  refine ⟨rfl,rfl,_,rfl,k1,rfl,rfl,_,rfl,k2,rfl,rfl,_,rfl,k3,rfl,rfl,_,rfl,_,rfl,⟨rfl,by simp⟩,?_⟩
  have e:(((bk.map dD++[dD q]).length:Nat):Int)=(bk.length:Int) + 1:=by rw [List.length_append,List.length_map];simp
  show R (.ins x _ vF [(b1,bk.map dD++[dD q]),(b2,fs.map plD++[plD f]),(b3,ws.map plD++[plD w])]) (.int (((bk.map dD++[dD q]).length:Nat):Int))
  rw [e]
  have e1:bk.map dD++[dD q]=(bk++[q]).map dD:=by rw [List.map_append];rfl
  have e2:fs.map plD++[plD f]=(fs++[f]).map plD:=by rw [List.map_append];rfl
  have e3:ws.map plD++[plD w]=(ws++[w]).map plD:=by rw [List.map_append];rfl
  rw [e1,e2,e3]
  exact hR
theorem Zfy (G:Glob K mg) (DD:Pu.DefM K (Meth K (ExcR.clsOf mg "Village") "take_back") "take_back" "Village.take_back" Zb4 ["self"])
  : Pu.CalleeM P w K mg base (ExcR.CXe P w) 1 (Meth K (ExcR.clsOf mg "Village") "take_back") ["self"] (Pu.spW mg (Zdh (ExcR.clsOf mg "Village")) K):=by
 refine Pu.DefM.okX DD (k:=0) Zfw (fun vs H Q E h=>Pu.Ze (n:=0) h (fun o ss R X h=>?_)) (fun f cdv A outer s H vs Q E hr h=>?_)
 ·obtain ⟨x,b1,b2,b3,bk,fs,ws,rfl,rfl,h1,h2,hX,hR⟩:=h
  rfl
 ·refine ⟨_,(Zag (Za3 (Zdv (Pu.Zds (K:=K) (Zex (pv 0) rfl)))
   (Zah (ExcR.Zb1 G.g_NothingDone.c G.m_NothingDone ExcR.Zbx rfl (Za Zbn Zaf)))
   Zaq)
   (Zag (Zbv (Zmi PySem.F.plainAttrs_list PySem.F.slot_list_pop PySem.F.type_list_pop Zmm (Zex (pv 0) rfl)))
   (Zag (Zbv (Zmi PySem.F.plainAttrs_list PySem.F.slot_list_pop PySem.F.type_list_pop Zmm (Zex (pv 0) rfl)))
   (Zah (Zas (Zmi PySem.F.plainAttrs_list PySem.F.slot_list_pop PySem.F.type_list_pop Zmm (Zex (pv 0) rfl))))))),Pu.Zd8 (n:=0) h
   (Zaj (Za5 (Zel (Zef (Zjf 0 G.cl_Village G.n_Village_book Zb3 (Zab 0)))) (Zbz (Zaa Zbo Zae)) Zar)
    (Zaj (Zgg (Zlc 0 1 G.cl_Village G.n_Village_fields Zc2))
    (Zaj (Zgg (Zlc 0 2 G.cl_Village G.n_Village_wished Zc5))
    (Zch (Zlc 0 0 G.cl_Village G.n_Village_book Zb3))))) (by decide) (fun o ss R X h=>?_)⟩
  obtain ⟨x,b1,b2,b3,bk,fs,ws,rfl,rfl,h1,h2,hX,hR⟩:=h
  refine ⟨rfl,?_⟩
  have emp:(bk.map dD).isEmpty=decide (bk=[]):=by cases bk<;>simp
  refine ⟨rfl,rfl,_,rfl,?_⟩
  show if (!(!(bk.map dD).isEmpty))=true then _ else _
  rw [Bool.not_not,emp]
  refine ite2 (fun g=>⟨by simp,_,rfl,⟨rfl,by simp⟩,hX (of_decide_eq_true g)⟩) (fun g=>?_)
  have hne:bk≠[]:=fun z=>g (decide_eq_true z)
  obtain ⟨b0,q,rfl⟩:∃ b0 q,bk=b0++[q]:=⟨_,_,(List.dropLast_concat_getLast hne).symm⟩
  have hl:(b0++[q]).length=b0.length + 1:=by simp
  have f1:(fs.map plD)[(fs.map plD).length - 1]?=some (plD (fs[fs.length - 1]'(by omega))):=by
   rw [List.length_map,List.getElem?_map,List.getElem?_eq_getElem (by omega)]
   rfl
  have w1:(ws.map plD)[(ws.map plD).length - 1]?=some (plD (ws[ws.length - 1]'(by omega))):=by
   rw [List.length_map,List.getElem?_map,List.getElem?_eq_getElem (by omega)]
   rfl
  have q1:((b0++[q]).map dD)[((b0++[q]).map dD).length - 1]?=some (dD q):=by
   rw [List.length_map,List.getElem?_map,hl,Nat.add_sub_cancel,List.getElem?_append_right (Nat.le_refl _),Nat.sub_self]
   rfl
  refine ⟨rfl,rfl,_,_,rfl,f1,rfl,rfl,_,_,rfl,w1,rfl,rfl,_,_,rfl,q1,_,rfl,⟨rfl,by simp⟩,?_⟩
  have e1:((b0++[q]).map dD).dropLast=b0.map dD:=by rw [List.map_append];exact List.dropLast_concat
  have e2:(fs.map plD).dropLast=fs.dropLast.map plD:=List.map_dropLast.symm
  have e3:(ws.map plD).dropLast=ws.dropLast.map plD:=List.map_dropLast.symm
  have:=hR b0 q rfl
  rw [show vO (ExcR.clsOf mg "Village") x b1 b2 b3 b0 fs.dropLast ws.dropLast=.ins x (ExcR.clsOf mg "Village") vF [(b1,((b0++[q]).map dD).dropLast),(b2,(fs.map plD).dropLast),(b3,(ws.map plD).dropLast)] by rw [e1,e2,e3]] at this
  exact this
theorem Zn3 (G:Glob K mg) (DD:Def K mg "_law_at" Zhk ["_law_script", "_law_k"])
  : Callee P w K mg base CX0 1 "_law_at" ["_law_script", "_law_k"] (Pu.spOf mg Zek K):=by
 refine DD.ok (k:=0) Zoa (fun vs H Q E h=>Zay h (fun ds R X h=>?_)) (fun f cdv A outer s H vs Q E hr h=>?_)
 ·obtain ⟨ns,k,rfl,hk,hR⟩:=h
  rfl
 ·refine ⟨_,(Zag (Za3 (Zal Zgp (pv 1) (Zan (Own.Zax (K:=K)) (by rfl) G.len PySem.boot_len (Za (pv 0) Zaf)) (nomark _))
   (Zah (Zas (Zao (Own.Zai (K:=K)) (pv 0) (pv 1) (fun _ _=>rfl))))
   Zaq)
   (Zah (Zas Zad))),Pu.Zbf (n:=2) h
   (Zaj (Za5 (Zak (Zgm (Zab 1) (Zbt (Zaa (Zab 0) Zae)))) (Zav (Zap (Zab 0) (Zab 1))) Zar)
    (Zav Zac)) (by decide) (fun ds R X h=>?_)⟩
  obtain ⟨ns,k,rfl,hk,hR⟩:=h
  refine ⟨rfl,?_⟩
  refine ite2 (fun g=>?_) (fun g=>?_)
  ·have g':k < (ns.length:Int):=of_decide_eq_true g
   have e:=List.getElem?_eq_getElem (show k.toNat < ns.length by omega)
   rw [List.getD_eq_getElem?_getD,e] at hR
   exact ⟨_,Zi3 hk e,hR⟩
  ·have g':¬ k < (ns.length:Int):=fun z=>g (decide_eq_true z)
   rw [List.getD_eq_getElem?_getD,List.getElem?_eq_none (by omega)] at hR
   exact hR
theorem Zk4 (G:Glob K mg) (DD:Def K mg "_law_whole" Zeu ["_law_found"])
  : Callee P w K mg base CX0 1 "_law_whole" ["_law_found"] (Pu.spOf mg Zd4 K):=by
 refine DD.ok (k:=0) Zkw (fun vs H Q E h=>Zay h (fun ds R X h=>?_)) (fun f cdv A outer s H vs Q E hr h=>?_)
 ·obtain ⟨i,rfl,hR⟩:=h
  rfl
 ·refine ⟨_,(Zah (Zas (Zme (Zan (Pu.Zdx (K:=K)) (by rfl) G.isinstance boot_isinstance (Za (pv 0) (Za (Zev (v:=.ty "int") rfl G.int boot_int rfl) Zaf))) (Zob (Zr2 (Zan (Pu.Zdx (K:=K)) (by rfl) G.isinstance boot_isinstance (Za (pv 0) (Za (Zev (v:=.ty "bool") rfl G.bool boot_bool rfl) Zaf)))))))),Pu.Zbf (n:=1) h
   (Zav (Zjj (Zh4 (Zaa (Zab 0) (Zaa Zjr Zae))) (Zq8 (Zh4 (Zaa (Zab 0) (Zaa Zjr Zae)))))) (by decide) (fun ds R X h=>?_)⟩
  obtain ⟨i,rfl,hR⟩:=h
  refine ⟨rfl,?_⟩
  exact ⟨_,.same _,_,.ib,hR⟩
theorem Zni (G:Glob K mg) (DD:Def K mg "_law_mix" Zgi ["_law_cell", "_law_place_here"])
  : Callee P w K mg base CX0 1 "_law_mix" ["_law_cell", "_law_place_here"] (Pu.spOf mg Zec K):=by
 refine DD.ok (k:=0) sc_law_mix (fun vs H Q E h=>Zay h (fun ds R X h=>?_)) (fun f cdv A outer s H vs Q E hr h=>?_)
 ·obtain ⟨c,p,rfl,hR⟩:=h
  rfl
 ·refine ⟨_,(Zag (Pu.pz 2 sc_law_mix.nd (Zat Zba (Zat Zk (Zat Zbm (Zat Zbm (Zat Zba (pv 0) Zad) (Zat Zk Zad (pv 1))) Zad) Zad) Zad))
   (Zah (Zas (Zat Zba (Zat Zk (Zat Zbm (Zat Zbm (pv 2) (Zat Zk Zad (pv 1))) Zad) Zad) Zad)))),Pu.Zbf (n:=2) h
   (Zaj (Za2 (Zb (Zko (Zbp (Zbp (Zb (Zab 0) Zac) (Zko Zac (Zab 1))) Zac) Zac) Zac) (Zam 2))
    (Zav (Zb (Zko (Zbp (Zbp (Zab 2) (Zko Zac (Zab 1))) Zac) Zac) Zac))) (by decide) (fun ds R X h=>?_)⟩
  obtain ⟨c,p,rfl,hR⟩:=h
  refine ⟨rfl,?_⟩
  unfold mixP at hR
  exact ⟨(by show (0:Int) < 2147483647;decide),.inl ⟨by decide,by decide⟩,.inr ⟨by decide,by decide⟩,(by show (0:Int) < 2147483647;decide),.inl ⟨by decide,by decide⟩,.inr ⟨by decide,by decide⟩,(by show (0:Int) < 2147483647;decide),hR⟩
theorem Zl6 (G:Glob K mg) (DD:Def K mg "_law_menu" Zfo ["_law_cell"])
  : Callee P w K mg base CX0 1 "_law_menu" ["_law_cell"] (Pu.spOf mg Zi1 K):=by
 refine DD.ok (k:=0) sc_law_menu (fun vs H Q E h=>Zay h (fun ds R X h=>?_)) (fun f cdv A outer s H vs Q E hr h=>?_)
 ·obtain ⟨c,rfl,hR⟩:=h
  rfl
 ·refine ⟨_,(Zag (Pu.pz 1 sc_law_menu.nd (Zao (Own.Zai (K:=K)) (Za0 (Za Zad (Za Zad (Za Zad (Za Zad (Za Zad Zaf)))))) (Zat Zba (Zat Zbk (pv 0) Zad) Zad) (fun _ _=>rfl)))
   (Zag (Pu.pz 2 sc_law_menu.nd (Zao (Own.Zai (K:=K)) (Za0 (Za Zad (Za Zad (Za Zad (Za Zad (Za Zad Zaf)))))) (Zat Zba (Zat Zbk (pv 0) Zad) Zad) (fun _ _=>rfl)))
   (Zah (Zas (Za0 (Za (Zat Zbm Zad (Zat Zba (pv 0) Zad)) (Za (Zao (Own.Zai (K:=K)) (Za0 (Za Zad (Za Zad (Za Zad (Za Zad Zaf))))) (Zat Zba (Zat Zbk (pv 0) Zad) Zad) (fun _ _=>rfl)) (Za (Zat Zba (Zat Zbk (pv 0) Zad) Zad) (Za (pv 1) (Za (pv 2) Zaf)))))))))),Pu.Zbf (n:=1) h
   (Zaj (Za2 (Zap (Za1 (Zaa Zac (Zaa Zac (Zaa Zac (Zaa Zac (Zaa Zac Zae)))))) (Zb (Zbj (Zab 0) Zac) Zac)) (Zam 1))
    (Zaj (Za2 (Zap (Za1 (Zaa Zac (Zaa Zac (Zaa Zac (Zaa Zac (Zaa Zac Zae)))))) (Zb (Zbj (Zab 0) Zac) Zac)) (Zam 2))
    (Zaz 2 (Zaz 1 (Zav (Za1 (Zaa (Zbp Zac (Zb (Zab 0) Zac)) (Zaa (Zap (Za1 (Zaa Zac (Zaa Zac (Zaa Zac (Zaa Zac Zae))))) (Zb (Zbj (Zab 0) Zac) Zac)) (Zaa (Zb (Zbj (Zab 0) Zac) Zac) (Zaa (Zab 1) (Zaa (Zab 2) Zae))))))))))) (by decide) (fun ds R X h=>?_)⟩
  obtain ⟨c,rfl,hR⟩:=h
  refine ⟨rfl,?_⟩
  have h1:0≤c / 10 % 4∧c / 10 % 4 < 4:=by omega
  have h2:0≤c / 400 % 5∧c / 400 % 5 < 5:=by omega
  have hb:∀ v∈([1,3,7,9]:List Int),1≤v∧v≤9∧(v=1∨v=3∨v=7∨v=9):=by decide
  have hde:∀ i:Int,0≤i→i < 5→∃ d e:Int,atI [D.int 1000,.int 3,.int 1,.int 2,.int 3] i=some (.int d)∧atI [D.int 1,.int 1,.int 1,.int 1,.int 998] i=some (.int e)∧(1≤d∧d≤1000)∧1≤e∧e + d≤1001:=fun i a b=>by
   have:i=0∨i=1∨i=2∨i=3∨i=4:=by omega
   rcases this with rfl | rfl | rfl | rfl | rfl
   ·exact ⟨1000,1,rfl,rfl,by decide,by decide,by decide⟩
   ·exact ⟨3,1,rfl,rfl,by decide,by decide,by decide⟩
   ·exact ⟨1,1,rfl,rfl,by decide,by decide,by decide⟩
   ·exact ⟨2,1,rfl,rfl,by decide,by decide,by decide⟩
   ·exact ⟨3,998,rfl,rfl,by decide,by decide,by decide⟩
  obtain ⟨d,e,e1,e2,hd,he⟩:=hde _ h2.1 h2.2
  have hbb:=hb _ (List.getElem_mem (l:=([1,3,7,9]:List Int)) (n:=(c / 10 % 4).toNat) (by show (c / 10 % 4).toNat < 4;omega))
  refine ⟨by simp,⟨by decide,by decide⟩,(by show (0:Int) < 5;decide),_,e1,by simp,⟨by decide,by decide⟩,(by show (0:Int) < 5;decide),_,e2,(by show (0:Int) < 10;decide),by simp,⟨by decide,by decide⟩,(by show (0:Int) < 4;decide),_,Zit (f:=D.int) (xs:=[1,3,7,9]) h1.1 h1.2,⟨by decide,by decide⟩,(by show (0:Int) < 10;decide),by simp,?_⟩
  exact hR [_,_,_,_,_] ⟨_,_,_,_,_,rfl,by omega,hbb,by omega,hd,he⟩
theorem Zjs (G:Glob K mg) (DD:Def K mg "_law_holder" Zd3 ["_law_menu_here", "_law_k"])
  : Callee P w K mg base CX0 1 "_law_holder" ["_law_menu_here", "_law_k"] (Pu.spOf mg Zcu K):=by
 refine DD.ok (k:=0) Zjz (fun vs H Q E h=>Zay h (fun ds R X h=>?_)) (fun f cdv A outer s H vs Q E hr h=>?_)
 ·obtain ⟨m,k,rfl,hM,hR⟩:=h
  rfl
 ·refine ⟨_,(Zah (Zas (Zat Zbm Zad (Zat Zba (Zat Zbm (Zat Zk (pv 1) (Zao (Own.Zai (K:=K)) (pv 0) Zad (fun _ _=>rfl))) (Zao (Own.Zai (K:=K)) (pv 0) Zad (fun _ _=>rfl))) Zad)))),Pu.Zbf (n:=2) h
   (Zav (Zbp Zac (Zb (Zbp (Zko (Zab 1) (Zap (Zab 0) Zac)) (Zap (Zab 0) Zac)) Zac))) (by decide) (fun ds R X h=>?_)⟩
  obtain ⟨m,k,rfl,hM,hR⟩:=h
  refine ⟨rfl,?_⟩
  obtain ⟨a,b,c,d,e,rfl,ha,hb,hc,hd,he⟩:=hM
  exact ⟨_,rfl,.inr ⟨by omega,by omega⟩,_,rfl,(by show (0:Int) < 10;decide),hR _ (by omega) (by omega) rfl⟩
theorem Zgr (G:Glob K mg) (DD:Def K mg "_law_field_step" Zcj ["_law_strips", "_law_deed_here"])
  : Callee P w K mg base CX0 1 "_law_field_step" ["_law_strips", "_law_deed_here"] (Pu.spS mg Zea K):=by
 refine DD.ok (k:=0) sc_law_field_step (fun vs H Q E h=>Pu.Zlt h (fun ds R X h=>?_)) (fun f cdv A outer s H vs Q E hr h=>?_)
 ·obtain ⟨f,x,rfl,hx,hz,hR⟩:=h
  rfl
 ·refine ⟨_,(Zag (Pu.pz 2 sc_law_field_step.nd (Zao (Own.Zai (K:=K)) (pv 1) Zad (fun _ _=>rfl)))
   (Zag (Za3 (PW.pt (Zei (Zal Zgp (pv 2) Zad (nomark _)) (Zc1 (Zal Zi5 (pv 2) (Zat Zdg (Zan (Own.Zax (K:=K)) (by rfl) G.len PySem.boot_len (Za (pv 0) Zaf)) (Zeh Zoz (by rfl) G.int boot_int (Za (Zf9 (Pu.Zbq (K:=K) (show _ < cLine from hr.units0)) (Zao (Own.Zai (K:=K)) (pv 1) Zad (fun _ _=>rfl)) Zbn (nomark _)) Zaf))) (nomark _)))))
   (Zah (Zas (Za0 (Za Zad (Za (pv 0) Zaf)))))
   Zaq)
   (Zag (Pu.pz 3 sc_law_field_step.nd (Zao (Own.Zai (K:=K)) (Zao (Own.Zai (K:=K)) (pv 0) (Zat Zdg (pv 2) Zad) (fun _ _=>rfl)) Zad (fun _ _=>rfl)))
   (Zag (Pu.pz 4 sc_law_field_step.nd (Zao (Own.Zai (K:=K)) (Zao (Own.Zai (K:=K)) (pv 0) (Zat Zdg (pv 2) Zad) (fun _ _=>rfl)) Zad (fun _ _=>rfl)))
   (Zag (Za3 (Zal (Pu.Zbq (K:=K) (show _ < cLine from hr.units0)) (Zao (Own.Zai (K:=K)) (pv 1) Zad (fun _ _=>rfl)) Zbn (nomark _))
   (Zag (Za3 (PW.pt (Zei (Zal Zgp (Zao (Own.Zai (K:=K)) (pv 1) Zad (fun _ _=>rfl)) Zad (nomark _)) (Zc1 (Zal Zi5 (Zao (Own.Zai (K:=K)) (pv 1) Zad (fun _ _=>rfl)) Zad (nomark _)))))
   (Zah (Zas (Za0 (Za Zad (Za (pv 0) Zaf)))))
   Zaq)
   (Zag (Za3 (Zal (Pu.Zbq (K:=K) (show _ < cLine from hr.units0)) (Zao (Own.Zai (K:=K)) (pv 1) Zad (fun _ _=>rfl)) (pv 3) (nomark _))
   (Zah (Zas (Za0 (Za Zad (Za (pv 0) Zaf)))))
   Zaq)
   (Zah (Zas (Za0 (Za Zad (Za (Zat Zdt (Zat Zdt (Zb9 (Pu.Zcc (K:=K)) (pv 0) Zc4 (Zco (Zat Zdg (pv 2) Zad))) (Za0 (Za (Zbh (Za (Zao (Own.Zai (K:=K)) (pv 1) Zad (fun _ _=>rfl)) (Za (pv 4) Zaf))) Zaf))) (Zb9 (Pu.Zcc (K:=K)) (pv 0) (Zco (pv 2)) Zc4)) Zaf)))))))
   Zaq)
   (Zag (Za3 (Zal (Pu.Zbq (K:=K) (show _ < cLine from hr.units0)) (Zao (Own.Zai (K:=K)) (pv 1) Zad (fun _ _=>rfl)) Zbn (nomark _))
   (Zag (Za3 (PW.pt (Zei (Zal Zgp (Zao (Own.Zai (K:=K)) (pv 1) Zad (fun _ _=>rfl)) Zad (nomark _)) (Zc1 (Zal Zm2 (Zao (Own.Zai (K:=K)) (pv 1) Zad (fun _ _=>rfl)) (pv 4) (nomark _)))))
   (Zah (Zas (Za0 (Za Zad (Za (pv 0) Zaf)))))
   Zaq)
   (Zag (Za3 (Zal (Pu.Zbq (K:=K) (show _ < cLine from hr.units0)) (Zan (Own.Zax (K:=K)) (by rfl) G.len PySem.boot_len (Za (pv 0) Zaf)) Zad (nomark _))
   (Zah (Zas (Za0 (Za Zad (Za (pv 0) Zaf)))))
   Zaq)
   (Zag (Pu.pz 5 sc_law_field_step.nd (Za0 (Za (Zbh (Za (pv 3) (Za (Zao (Own.Zai (K:=K)) (pv 1) Zad (fun _ _=>rfl)) Zaf))) (Za (Zbh (Za (pv 3) (Za (Zat Zdg (pv 4) (Zao (Own.Zai (K:=K)) (pv 1) Zad (fun _ _=>rfl))) Zaf))) Zaf))))
   (Zah (Zas (Za0 (Za Zad (Za (Zat Zdt (Zat Zdt (Zb9 (Pu.Zcc (K:=K)) (pv 0) Zc4 (Zco (Zat Zdg (pv 2) Zad))) (pv 5)) (Zb9 (Pu.Zcc (K:=K)) (pv 0) (Zco (pv 2)) Zc4)) Zaf))))))))
   Zaq)
   (Zag (Za3 (Zal (Pu.Zgo (K:=K) (show _ < cLine from hr.units0)) (Zao (Own.Zai (K:=K)) (Zao (Own.Zai (K:=K)) (pv 0) (pv 2) (fun _ _=>rfl)) Zad (fun _ _=>rfl)) (pv 3) (nomark _))
   (Zah (Zas (Za0 (Za Zad (Za (pv 0) Zaf)))))
   Zaq)
   (Zag (Za3 (Zal Zi5 (Zat Zbm (pv 4) (Zao (Own.Zai (K:=K)) (Zao (Own.Zai (K:=K)) (pv 0) (pv 2) (fun _ _=>rfl)) Zad (fun _ _=>rfl))) Zad (nomark _))
   (Zah (Zas (Za0 (Za Zad (Za (pv 0) Zaf)))))
   Zaq)
   (Zah (Zas (Za0 (Za Zad (Za (Zat Zdt (Zat Zdt (Zb9 (Pu.Zcc (K:=K)) (pv 0) Zc4 (Zco (Zat Zdg (pv 2) Zad))) (Za0 (Za (Zbh (Za (pv 3) (Za (Zat Zbm (pv 4) (Zao (Own.Zai (K:=K)) (Zao (Own.Zai (K:=K)) (pv 0) (pv 2) (fun _ _=>rfl)) Zad (fun _ _=>rfl))) Zaf))) Zaf))) (Zb9 (Pu.Zcc (K:=K)) (pv 0) (Zco (Zat Zbm (pv 2) Zad)) Zc4)) Zaf))))))))))))),Pu.Zll (n:=2) h
   (Zaj (Za2 (Zap (Zab 1) Zac) (Zam 2))
    (Zaj (Za5 (Zeq (Zak (Zgm (Zab 2) Zac)) (Zak (Zi4 (Zab 2) (Zdi (Zbt (Zaa (Zab 0) Zae)) (Zra (Zaa (Zbl (Zap (Zab 1) Zac) Zbo) Zae)))))) (Zaz 0 (Zav (Za1 (Zaa Zac (Zaa (Zab 0) Zae))))) Zar)
    (Zaj (Za2 (Zap (Zap (Zab 0) (Zdi (Zab 2) Zac)) Zac) (Zam 3))
    (Zaj (Za2 (Zap (Zap (Zab 0) (Zdi (Zab 2) Zac)) Zac) (Zam 4))
    (Zaj (Za5 (Zak (Zbl (Zap (Zab 1) Zac) Zbo)) (Zaj (Za5 (Zeq (Zak (Zgm (Zap (Zab 1) Zac) Zac)) (Zak (Zi4 (Zap (Zab 1) Zac) Zac))) (Zaz 0 (Zav (Za1 (Zaa Zac (Zaa (Zab 0) Zae))))) Zar)
    (Zaj (Za5 (Zak (Zbl (Zap (Zab 1) Zac) (Zab 3))) (Zaz 0 (Zav (Za1 (Zaa Zac (Zaa (Zab 0) Zae))))) Zar)
    (Zav (Za1 (Zaa Zac (Zaa (Zdu (Zdu (Zcg (Zab 0) Zc3 (Zcn (Zdi (Zab 2) Zac))) (Za1 (Zaa (Zbi (Zaa (Zap (Zab 1) Zac) (Zaa (Zab 4) Zae))) Zae))) (Zcg (Zab 0) (Zcn (Zab 2)) Zc3)) Zae)))))) Zar)
    (Zaj (Za5 (Zak (Zbl (Zap (Zab 1) Zac) Zbo)) (Zaj (Za5 (Zeq (Zak (Zgm (Zap (Zab 1) Zac) Zac)) (Zak (Zmv (Zap (Zab 1) Zac) (Zab 4)))) (Zaz 0 (Zav (Za1 (Zaa Zac (Zaa (Zab 0) Zae))))) Zar)
    (Zaj (Za5 (Zak (Zbl (Zbt (Zaa (Zab 0) Zae)) Zac)) (Zaz 0 (Zav (Za1 (Zaa Zac (Zaa (Zab 0) Zae))))) Zar)
    (Zaj (Za2 (Za1 (Zaa (Zbi (Zaa (Zab 3) (Zaa (Zap (Zab 1) Zac) Zae))) (Zaa (Zbi (Zaa (Zab 3) (Zaa (Zdi (Zab 4) (Zap (Zab 1) Zac)) Zae))) Zae))) (Zam 5))
    (Zav (Za1 (Zaa Zac (Zaa (Zdu (Zdu (Zcg (Zab 0) Zc3 (Zcn (Zdi (Zab 2) Zac))) (Zab 5)) (Zcg (Zab 0) (Zcn (Zab 2)) Zc3)) Zae))))))) Zar)
    (Zaj (Za5 (Zak (Zgc (Zap (Zap (Zab 0) (Zab 2)) Zac) (Zab 3))) (Zaz 0 (Zav (Za1 (Zaa Zac (Zaa (Zab 0) Zae))))) Zar)
    (Zaj (Za5 (Zak (Zi4 (Zbp (Zab 4) (Zap (Zap (Zab 0) (Zab 2)) Zac)) Zac)) (Zaz 0 (Zav (Za1 (Zaa Zac (Zaa (Zab 0) Zae))))) Zar)
    (Zav (Za1 (Zaa Zac (Zaa (Zdu (Zdu (Zcg (Zab 0) Zc3 (Zcn (Zdi (Zab 2) Zac))) (Za1 (Zaa (Zbi (Zaa (Zab 3) (Zaa (Zbp (Zab 4) (Zap (Zap (Zab 0) (Zab 2)) Zac)) Zae))) Zae))) (Zcg (Zab 0) (Zcn (Zbp (Zab 2) Zac)) Zc3)) Zae)))))))))))) (by decide) (fun ds R X h=>?_)⟩
  obtain ⟨f,x,rfl,hx,hz,hR⟩:=h
  refine ⟨rfl,?_⟩
  have hl:(f.map prD).length=f.length:=List.length_map ..
  have l1:∀ p:Int,(cutD (f.map prD) none (some (p - 1))).length≤1000:=fun p=>by have:=(Zd6 (f.map prD) none (some (p - 1))).length_le;rw [List.length_map] at this;omega
  have l2:∀ p:Int,(cutD (f.map prD) (some p) none).length≤1000:=fun p=>by have:=(Zd6 (f.map prD) (some p) none).length_le;rw [List.length_map] at this;omega
  cases x with
  | wish a b=>cases hx
  | drop a b=>cases hx
  | sell p h=>
   have hR:R (.own [.int (codeN (soldE f p h)),plD (if soldE f p h=none then soldL f p h else f)]):=hR
   have no:∀ c:Str,soldE f p h=some c→R (.own [.int (codeN (some c)),plD f]):=fun c e=>by
    rw [e,if_neg (by intro z;cases z)] at hR
    exact hR
   unfold soldE at no hR
   have one:(p < 1∨(f.length:Int) < p)→R (.own [.int 1,plD f]):=fun z=>by
    rw [← Zde]
    exact no _ (if_pos z)
   refine ⟨_,rfl,ite2 (fun g=>iteT ?_) (fun g=>⟨_,rfl,ite2 (fun g2=>?_) (fun g2=>?_)⟩)⟩
   ·exact ⟨by simp,one (.inl (of_decide_eq_true g))⟩
   ·have g':(((f.map prD).length:Nat):Int) - 0 < p:=of_decide_eq_true g2
    exact ⟨by simp,one (.inr (by omega))⟩
   ·have n1:¬ p < 1:=fun z=>g (decide_eq_true z)
    have n2:¬ (((f.map prD).length:Nat):Int) - 0 < p:=fun z=>g2 (decide_eq_true z)
    rw [if_neg (by omega)] at no hR
    have a1:=Zem (ps:=f) (p:=p) (by omega) (by omega)
    refine ⟨_,a1,_,rfl,_,a1,_,rfl,_,rfl,?_⟩
    refine ⟨_,rfl,ite2 (fun g3=>iteT ?_) (fun g3=>⟨_,rfl,ite2 (fun g4=>?_) (fun g4=>?_)⟩)⟩
    ·have g':h < 1:=of_decide_eq_true g3
     have:=no _ (if_pos (by omega))
     rw [Zcf] at this
     exact ⟨by simp,this⟩
    ·have g':10 < h:=of_decide_eq_true g4
     have:=no _ (if_pos (by omega))
     rw [Zcf] at this
     exact ⟨by simp,this⟩
    ·have n3:¬ h < 1:=fun z=>g3 (decide_eq_true z)
     have n4:¬ 10 < h:=fun z=>g4 (decide_eq_true z)
     rw [if_neg (Classical.not_not.mpr ⟨by omega,by omega⟩)] at no hR
     refine ⟨_,rfl,ite2 (fun g5=>?_) (fun g5=>?_)⟩
     ·have g':h=(atP1 f p).1:=of_decide_eq_true g5
      have:=no _ (if_pos g'.symm)
      rw [Zet] at this
      exact ⟨by simp,this⟩
     ·have g':¬ h=(atP1 f p).1:=fun z=>g5 (decide_eq_true z)
      rw [if_neg (fun z=>g' z.symm),if_pos rfl] at hR
      have e:=Zof (ps:=f) (p:=p) (x:=(h,(atP1 f p).2)) (by omega) (by omega)
      refine ⟨rfl,_,rfl,by simp,by simp,rfl,rfl,Nat.le_trans (Nat.add_le_add (l1 p) (Nat.le_refl 1)) (by decide),rfl,rfl,rfl,Nat.le_trans (Nat.add_le_add (by rw [List.length_append];exact Nat.add_le_add (l1 p) (Nat.le_refl 1)) (l2 p)) (by decide),by simp,?_⟩
      have e9:plD (soldL f p h)=.lst (cutD (f.map prD) none (some (p - 1))++[prD (h,(atP1 f p).2)]++cutD (f.map prD) (some p) none):=congrArg D.lst e.symm
      rw [e9] at hR
      exact hR
  | part p w=>
   have hR:R (.own [.int (codeN (partE f p w)),plD (if partE f p w=none then partL f p w else f)]):=hR
   have no:∀ c:Str,partE f p w=some c→R (.own [.int (codeN (some c)),plD f]):=fun c e=>by
    rw [e,if_neg (by intro z;cases z)] at hR
    exact hR
   unfold partE at no hR
   have one:(p < 1∨(f.length:Int) < p)→R (.own [.int 1,plD f]):=fun z=>by
    rw [← Zde]
    exact no _ (if_pos z)
   refine ⟨_,rfl,ite2 (fun g=>iteT ?_) (fun g=>⟨_,rfl,ite2 (fun g2=>?_) (fun g2=>?_)⟩)⟩
   ·exact ⟨by simp,one (.inl (of_decide_eq_true g))⟩
   ·have g':(((f.map prD).length:Nat):Int) - 0 < p:=of_decide_eq_true g2
    exact ⟨by simp,one (.inr (by omega))⟩
   ·have n1:¬ p < 1:=fun z=>g (decide_eq_true z)
    have n2:¬ (((f.map prD).length:Nat):Int) - 0 < p:=fun z=>g2 (decide_eq_true z)
    rw [if_neg (by omega)] at no hR
    have a1:=Zem (ps:=f) (p:=p) (by omega) (by omega)
    refine ⟨_,a1,_,rfl,_,a1,_,rfl,_,rfl,_,rfl,?_⟩
    refine ⟨_,rfl,ite2 (fun g3=>iteT ?_) (fun g3=>⟨_,rfl,ite2 (fun g4=>?_) (fun g4=>?_)⟩)⟩
    ·have:=no _ (if_pos (.inl (of_decide_eq_true g3)))
     rw [Zd5] at this
     exact ⟨by simp,this⟩
    ·have:=no _ (if_pos (.inr (of_decide_eq_true g4)))
     rw [Zd5] at this
     exact ⟨by simp,this⟩
    ·have n3:¬ w < 1:=fun z=>g3 (decide_eq_true z)
     have n4:¬ (atP1 f p).2≤w:=fun z=>g4 (decide_eq_true z)
     rw [if_neg (by omega)] at no hR
     refine ite2 (fun g5=>?_) (fun g5=>?_)
     ·have g':(((f.map prD).length:Nat):Int)=40:=of_decide_eq_true g5
      have:=no _ (if_pos (by omega))
      rw [Zcw] at this
      exact ⟨by simp,this⟩
     ·have g':¬ (((f.map prD).length:Nat):Int)=40:=fun z=>g5 (decide_eq_true z)
      rw [if_neg (by omega),if_pos rfl] at hR
      refine ⟨_,rfl,by simp,_,rfl,by simp,by simp,?_⟩
      refine ⟨rfl,rfl,rfl,Nat.le_trans (Nat.add_le_add (l1 p) (Nat.le_refl 2)) (by decide),rfl,rfl,rfl,Nat.le_trans (Nat.add_le_add (by rw [List.length_append];exact Nat.add_le_add (l1 p) (Nat.le_refl 2)) (l2 p)) (by decide),by simp,?_⟩
      have e9:plD (partL f p w)=.lst (cutD (f.map prD) none (some (p - 1))++[prD ((atP1 f p).1,w),prD ((atP1 f p).1,(atP1 f p).2 - w)]++cutD (f.map prD) (some p) none):=congrArg D.lst (Zml (by omega)).symm
      rw [e9] at hR
      exact hR
  | unite p=>
   have hR:R (.own [.int (codeN (uniE f p)),plD (if uniE f p=none then uniL f p else f)]):=hR
   have no:∀ c:Str,uniE f p=some c→R (.own [.int (codeN (some c)),plD f]):=fun c e=>by
    rw [e,if_neg (by intro z;cases z)] at hR
    exact hR
   unfold uniE at no hR
   have one:(p < 1∨(f.length:Int)≤p)→R (.own [.int 1,plD f]):=fun z=>by
    rw [← Zde]
    exact no _ (if_pos z)
   refine ⟨_,rfl,ite2 (fun g=>iteT ?_) (fun g=>⟨_,rfl,ite2 (fun g2=>?_) (fun g2=>?_)⟩)⟩
   ·exact ⟨by simp,one (.inl (of_decide_eq_true g))⟩
   ·have g':(((f.map prD).length:Nat):Int) - 1 < p:=of_decide_eq_true g2
    exact ⟨by simp,one (.inr (by omega))⟩
   ·have n1:¬ p < 1:=fun z=>g (decide_eq_true z)
    have n2:¬ (((f.map prD).length:Nat):Int) - 1 < p:=fun z=>g2 (decide_eq_true z)
    rw [if_neg (by omega)] at no hR
    have a1:=Zem (ps:=f) (p:=p) (by omega) (by omega)
    have a2:=Zot (ps:=f) (p:=p) (by omega) (by omega)
    refine ⟨_,a1,_,rfl,_,a1,_,rfl,_,rfl,_,rfl,?_⟩
    refine ⟨_,a2,_,rfl,ite2 (fun g3=>?_) (fun g3=>?_)⟩
    ·have g':¬ (atP1 f (p + 1)).1=(atP1 f p).1:=fun z=>by rw [decide_eq_true z] at g3;cases g3
     have:=no _ (if_pos (fun z=>g' z.symm))
     rw [Zcv] at this
     exact ⟨by simp,this⟩
    ·have g':(atP1 f (p + 1)).1=(atP1 f p).1:=Classical.byContradiction fun z=>g3 (by rw [decide_eq_false z];rfl)
     rw [if_neg (Classical.not_not.mpr g'.symm)] at no hR
     refine ⟨_,a2,_,rfl,ite2 (fun g4=>?_) (fun g4=>?_)⟩
     ·have:=no _ (if_pos (of_decide_eq_true g4))
      rw [Zfe] at this
      exact ⟨by simp,this⟩
     ·rw [if_neg (fun z=>g4 (decide_eq_true z)),if_pos rfl] at hR
      refine ⟨rfl,_,a2,_,rfl,by simp,by simp,rfl,rfl,Nat.le_trans (Nat.add_le_add (l1 p) (Nat.le_refl 1)) (by decide),rfl,rfl,rfl,Nat.le_trans (Nat.add_le_add (by rw [List.length_append];exact Nat.add_le_add (l1 p) (Nat.le_refl 1)) (l2 (p + 1))) (by decide),by simp,?_⟩
      have e9:plD (uniL f p)=.lst (cutD (f.map prD) none (some (p - 1))++[prD ((atP1 f p).1,(atP1 f p).2 + (atP1 f (p + 1)).2)]++cutD (f.map prD) (some (p + 1)) none):=congrArg D.lst (Znx (by omega)).symm
      rw [e9] at hR
      exact hR
theorem Zhe (G:Glob K mg) (DD:Def K mg "_law_wish_step" Zcp ["_law_wishes", "_law_deed_here"])
  : Callee P w K mg base CX0 1 "_law_wish_step" ["_law_wishes", "_law_deed_here"] (Pu.spS mg Ze2 K):=by
 refine DD.ok (k:=0) sc_law_wish_step (fun vs H Q E h=>Pu.Zlt h (fun ds R X h=>?_)) (fun f cdv A outer s H vs Q E hr h=>?_)
 ·obtain ⟨w,x,rfl,hx,hz,hR⟩:=h
  rfl
 ·refine ⟨_,(Zag (Pu.pz 2 sc_law_wish_step.nd (Zbh (Za (Zao (Own.Zai (K:=K)) (pv 1) Zad (fun _ _=>rfl)) (Za (Zao (Own.Zai (K:=K)) (pv 1) Zad (fun _ _=>rfl)) Zaf))))
   (Zag (Za3 (Zal (Pu.Zbq (K:=K) (show _ < cLine from hr.units0)) (Zao (Own.Zai (K:=K)) (pv 1) Zad (fun _ _=>rfl)) Zbn (nomark _))
   (Zag (Za3 (Zal (Pu.Zk5 (K:=K) (show _ < cLine from Zpq hr)) (pv 2) (pv 0) (by with_unfolding_all rfl))
   (Zah (Zas (Za0 (Za Zad (Za (pv 0) Zaf)))))
   Zaq)
   (Zah (Zas (Za0 (Za Zad (Za (Own.Zh0 (N':=["_law_one", "_law_pair_here"]) (φ:=[none,some 2]) rfl (Own.CompOk.of (by rfl)) (Pu.Zfj (K:=K) (pv 0)) (fun _ _ _ _ _=>⟨(Zcl (i:=0) (show (["_law_one", "_law_pair_here"]:List Str).Nodup from by decide +kernel) rfl (by first | exact Or.inl rfl | exact Or.inr rfl)),(Own.Zmj (Zal (Pu.Zp8 (K:=K) (show _ < cLine from hr.units0)) (pv 0) (pv 1) (nomark _))),(pv 0)⟩)) Zaf))))))
   Zaq)
   (Zag (Za3 (PW.pt (Zei (Zal Zgp (Zan (Own.Zm7 (K:=K) rfl) (by rfl) G.min boot_min (Za (pv 2) Zaf)) Zad (nomark _)) (Zc1 (Zal Zi5 (Zan (Own.Zmy (K:=K) rfl) (by rfl) G.max boot_max (Za (pv 2) Zaf)) Zad (nomark _)))))
   (Zah (Zas (Za0 (Za Zad (Za (pv 0) Zaf)))))
   Zaq)
   (Zag (Za3 (Zal (Pu.Zbq (K:=K) (show _ < cLine from hr.units0)) (Zao (Own.Zai (K:=K)) (pv 1) Zad (fun _ _=>rfl)) (Zao (Own.Zai (K:=K)) (pv 1) Zad (fun _ _=>rfl)) (nomark _))
   (Zah (Zas (Za0 (Za Zad (Za (pv 0) Zaf)))))
   Zaq)
   (Zag (Za3 (Zal (Pu.Zqh (K:=K) (show _ < cLine from Zpq hr)) (pv 2) (pv 0) (by with_unfolding_all rfl))
   (Zah (Zas (Za0 (Za Zad (Za (pv 0) Zaf)))))
   Zaq)
   (Zag (Za3 (Zal (Pu.Zbq (K:=K) (show _ < cLine from hr.units0)) (Zan (Own.Zax (K:=K)) (by rfl) G.len PySem.boot_len (Za (pv 0) Zaf)) Zad (nomark _))
   (Zah (Zas (Za0 (Za Zad (Za (pv 0) Zaf)))))
   Zaq)
   (Zah (Zas (Za0 (Za Zad (Za (Zat Zdt (pv 0) (Za0 (Za (pv 2) Zaf))) Zaf))))))))))),Pu.Zll (n:=2) h
   (Zaj (Za2 (Zbi (Zaa (Zap (Zab 1) Zac) (Zaa (Zap (Zab 1) Zac) Zae))) (Zam 2))
    (Zaj (Za5 (Zak (Zbl (Zap (Zab 1) Zac) Zbo)) (Zaj (Za5 (Zak (Zp0 (Zab 2) (Zab 0))) (Zaz 0 (Zav (Za1 (Zaa Zac (Zaa (Zab 0) Zae))))) Zar)
    (Zav (Za1 (Zaa Zac (Zaa (Zif (Zmr (Zab 0)) (Zam 0) (Zak (Zqf (Zab 0) (Zab 1))) (Zab 0)) Zae))))) Zar)
    (Zaj (Za5 (Zeq (Zak (Zgm (Zq3 (Zaa (Zab 2) Zae)) Zac)) (Zak (Zi4 (Zqr (Zaa (Zab 2) Zae)) Zac))) (Zaz 0 (Zav (Za1 (Zaa Zac (Zaa (Zab 0) Zae))))) Zar)
    (Zaj (Za5 (Zak (Zbl (Zap (Zab 1) Zac) (Zap (Zab 1) Zac))) (Zaz 0 (Zav (Za1 (Zaa Zac (Zaa (Zab 0) Zae))))) Zar)
    (Zaj (Za5 (Zak (Zp0 (Zab 2) (Zab 0))) (Zaz 0 (Zav (Za1 (Zaa Zac (Zaa (Zab 0) Zae))))) Zar)
    (Zaj (Za5 (Zak (Zbl (Zbt (Zaa (Zab 0) Zae)) Zac)) (Zaz 0 (Zav (Za1 (Zaa Zac (Zaa (Zab 0) Zae))))) Zar)
    (Zaz 2 (Zav (Za1 (Zaa Zac (Zaa (Zdu (Zab 0) (Za1 (Zaa (Zab 2) Zae))) Zae))))))))))) (by decide) (fun ds R X h=>?_)⟩
  obtain ⟨w,x,rfl,hx,hz,hR⟩:=h
  refine ⟨rfl,?_⟩
  have hl:(w.map prD).length=w.length:=List.length_map ..
  cases x with
  | sell p h=>cases hx
  | part p h=>cases hx
  | unite p=>cases hx
  | drop a b=>
   refine ⟨_,rfl,_,rfl,by simp,_,rfl,?_⟩
   show ∃ c,InR (prD (a,b)) (plD w) c∧_
   have hR:R (.own [.int (codeN (dropE w a b)),plD (if dropE w a b=none then dropL w a b else w)]):=hR
   refine ⟨_,.lp (a,b) w,ite2 (fun g=>?_) (fun g=>?_)⟩
   ·have g':¬ (a,b)∈w:=fun z=>by rw [if_pos rfl,decide_eq_true z] at g;cases g
    have e:dropE w a b=some ("NoWish" : Str):=if_neg g'
    rw [e,Zf8,if_neg (by intro z;cases z)] at hR
    exact ⟨by simp,hR⟩
   ·have g':(a,b)∈w:=Classical.byContradiction fun z=>g (by rw [if_pos rfl,decide_eq_false z];rfl)
    have e:dropE w a b=none:=if_pos g'
    rw [e,if_pos rfl] at hR
    refine Zn9 (xs:=w) (emb:=prD) (fun q=>if (!decide (q=(a,b)))=true then some (prD q) else none) (by omega) (fun q hq=>?_) ?_
    ·refine ⟨[q.1,q.2],[a,b],rfl,rfl,?_⟩
     have e:decide ([q.1,q.2]=[a,b])=decide (q=(a,b)):=Zpf q (a,b)
     show if (!decide ([q.1,q.2]=[a,b]))=true then _ else _
     rw [e]
     exact ite2 (fun h=>⟨_,rfl,if_pos h⟩) (fun h=>if_neg h)
    ·rw [pickD (fun q:Int×Int=>!decide (q=(a,b)))]
     exact ⟨by simp,hR⟩
  | wish a b=>
   refine ⟨_,rfl,_,rfl,by simp,_,rfl,?_⟩
   have hR:R (.own [.int (codeN (wishE w a b)),plD (if wishE w a b=none then w++[(a,b)] else w)]):=hR
   have no:∀ c:Str,wishE w a b=some c→R (.own [.int (codeN (some c)),plD w]):=fun c e=>by
    rw [e,if_neg (by intro z;cases z)] at hR
    exact hR
   have bad:¬ ((1≤a∧a≤10)∧(1≤b∧b≤10))→R (.own [.int 2,plD w]):=fun z=>by
    rw [← Zcf]
    refine no _ ?_
    unfold wishE
    by_cases c1:1≤a∧a≤10
    ·rw [if_neg (Classical.not_not.mpr c1),if_pos (fun y=>z ⟨c1,y⟩)]
    ·rw [if_pos c1]
   have mn:∀ x y:Int,(if y < x then y else x)≤x∧(if y < x then y else x)≤y∧((if y < x then y else x)=x∨(if y < x then y else x)=y):=fun x y=>by split<;>omega
   have mx:∀ x y:Int,x≤(if y > x then y else x)∧y≤(if y > x then y else x)∧((if y > x then y else x)=x∨(if y > x then y else x)=y):=fun x y=>by split<;>omega
   have m1:=mn a b
   have m2:=mx a b
   refine ite2 (fun g=>iteT ?_) (fun g=>ite2 (fun g2=>?_) (fun g2=>?_))
   ·have g':(if b < a then b else a) < 1:=of_decide_eq_true g
    exact ⟨by simp,bad (by omega)⟩
   ·have g':10 < (if b > a then b else a):=of_decide_eq_true g2
    exact ⟨by simp,bad (by omega)⟩
   ·have n1:¬ (if b < a then b else a) < 1:=fun z=>g (decide_eq_true z)
    have n2:¬ 10 < (if b > a then b else a):=fun z=>g2 (decide_eq_true z)
    have c1:1≤a∧a≤10:=by omega
    have c2:1≤b∧b≤10:=by omega
    unfold wishE at no hR
    rw [if_neg (Classical.not_not.mpr c1),if_neg (Classical.not_not.mpr c2)] at no hR
    refine ⟨_,rfl,_,rfl,ite2 (fun g3=>?_) (fun g3=>?_)⟩
    ·have:=no _ (if_pos (of_decide_eq_true g3))
     rw [Zdf] at this
     exact ⟨by simp,this⟩
    ·have n3:¬ a=b:=fun z=>g3 (decide_eq_true z)
     rw [if_neg n3] at no hR
     show ∃ c,InR (prD (a,b)) (plD w) c∧_
     refine ⟨_,.lp (a,b) w,ite2 (fun g4=>?_) (fun g4=>?_)⟩
     ·have:=no _ (if_pos (of_decide_eq_true g4))
      rw [Zdq] at this
      exact ⟨by simp,this⟩
     ·have n4:¬ (a,b)∈w:=fun z=>g4 (decide_eq_true z)
      rw [if_neg n4] at no hR
      refine ite2 (fun g5=>?_) (fun g5=>?_)
      ·have g':(((w.map prD).length:Nat):Int)=20:=of_decide_eq_true g5
       have:=no _ (if_pos (by omega))
       rw [Zcs] at this
       exact ⟨by simp,this⟩
      ·have g':¬ (((w.map prD).length:Nat):Int)=20:=fun z=>g5 (decide_eq_true z)
       rw [if_neg (by omega),if_pos rfl] at hR
       refine ⟨by simp,rfl,rfl,Nat.le_trans (Nat.add_le_add (Nat.le_of_eq hl) (Nat.le_refl 1)) (by omega),by simp,?_⟩
       have e9:plD (w++[(a,b)])=.lst (w.map prD++[prD (a,b)]):=congrArg D.lst List.map_append
       rw [e9] at hR
       exact hR
theorem Zmt (G:Glob K mg) (DD:Def K mg "_law_odd" Zgf ["_law_cell", "_law_good"])
  : Callee P w K mg base CX0 1 "_law_odd" ["_law_cell", "_law_good"] (Pu.spOf mg Zg5 K):=by
 refine DD.ok (k:=0) Znj (fun vs H Q E h=>Zay h (fun ds R X h=>?_)) (fun f cdv A outer s H vs Q E hr h=>?_)
 ·obtain ⟨c,g,rfl,hR⟩:=h
  rfl
 ·refine ⟨_,(Zag (Za3 (Zal (Pu.Zbq (K:=K) (show _ < cLine from hr.units0)) (Zat Zba (pv 0) Zad) Zad (nomark _))
   (Zah (Zas (Zao (Own.Zai (K:=K)) (Za0 (Za Zad (Za Zad (Za (Zi7 Zf0 Zad) (Za (Zat Znz Zad Zad) Zaf))))) (Zat Zba (Zat Zbk (pv 0) Zad) Zad) (fun _ _=>rfl))))
   Zaq)
   (Zah (Zas (pv 1)))),Pu.Zbf (n:=2) h
   (Zaj (Za5 (Zak (Zbl (Zb (Zab 0) Zac) Zac)) (Zav (Zap (Za1 (Zaa Zac (Zaa Zac (Zaa (Zf3 Zac) (Zaa (Zo5 Zac Zac) Zae))))) (Zb (Zbj (Zab 0) Zac) Zac))) Zar)
    (Zlw 1)) (by decide) (fun ds R X h=>?_)⟩
  obtain ⟨c,g,rfl,hR⟩:=h
  refine ⟨rfl,?_⟩
  have h4:0≤c / 7 % 4∧c / 7 % 4 < 4:=by omega
  refine ⟨(by show (0:Int) < 7;decide),ite2 (fun _=>?_) (fun _=>hR _)⟩
  exact ⟨⟨by decide,by decide,by decide⟩,by simp,⟨by decide,by decide⟩,(by show (0:Int) < 4;decide),_,Zit (f:=D.int) (xs:=[0,11,-3,10 ^ (30:Int).toNat]) h4.1 h4.2,hR _⟩
theorem Zk2 (G:Glob K mg) (DD:Def K mg "_law_place" Zeo ["_law_cell", "_law_strips"])
  : Callee P w K mg base CX0 1 "_law_place" ["_law_cell", "_law_strips"] (Pu.spOf mg Zg9 K):=by
 refine DD.ok (k:=0) Zka (fun vs H Q E h=>Zay h (fun ds R X h=>?_)) (fun f cdv A outer s H vs Q E hr h=>?_)
 ·obtain ⟨c,ps,rfl,hz,hR⟩:=h
  rfl
 ·refine ⟨_,(Zag (Za3 (Zal (Pu.Zbq (K:=K) (show _ < cLine from hr.units0)) (Zat Zba (pv 0) Zad) Zad (nomark _))
   (Zah (Zas (Zao (Own.Zai (K:=K)) (Za0 (Za Zad (Za (Zi7 Zf0 Zad) (Za (Zat Zbm (Zan (Own.Zax (K:=K)) (by rfl) G.len PySem.boot_len (Za (pv 1) Zaf)) Zad) (Za (Zat Znz Zad Zad) Zaf))))) (Zat Zba (Zat Zbk (pv 0) Zad) Zad) (fun _ _=>rfl))))
   Zaq)
   (Zag (Za3 (Zal (Own.Zq (K:=K) (show _ < cLine from hr.units0)) (pv 1) (Za0 Zaf) (nomark _))
   (Zah (Zas Zad))
   Zaq)
   (Zah (Zas (Zat Zbm Zad (Zat Zba (Zat Zbk (pv 0) Zad) (Zan (Own.Zax (K:=K)) (by rfl) G.len PySem.boot_len (Za (pv 1) Zaf)))))))),Pu.Zbf (n:=2) h
   (Zaj (Za5 (Zak (Zbl (Zb (Zab 0) Zac) Zac)) (Zav (Zap (Za1 (Zaa Zac (Zaa (Zf3 Zac) (Zaa (Zbp (Zbt (Zaa (Zab 1) Zae)) Zac) (Zaa (Zo5 Zac Zac) Zae))))) (Zb (Zbj (Zab 0) Zac) Zac))) Zar)
    (Zaj (Za5 (Zak (Zo1 (Zab 1) (Za1 Zae))) (Zav Zac) Zar)
    (Zav (Zbp Zac (Zb (Zbj (Zab 0) Zac) (Zbt (Zaa (Zab 1) Zae))))))) (by decide) (fun ds R X h=>?_)⟩
  obtain ⟨c,ps,rfl,hz,hR⟩:=h
  refine ⟨rfl,?_⟩
  have h4:0≤c / 11 % 4∧c / 11 % 4 < 4:=by omega
  have hl:(ps.map prD).length=ps.length:=List.length_map ..
  refine ⟨(by show (0:Int) < 11;decide),ite2 (fun _=>?_) (fun _=>?_)⟩
  ·exact ⟨⟨by decide,by decide,by decide⟩,by simp,⟨by decide,by decide⟩,(by show (0:Int) < 4;decide),_,Zit (f:=D.int) (xs:=[0,-1,(((ps.map prD).length:Nat):Int) + 1,10 ^ (30:Int).toNat]) h4.1 h4.2,hR _⟩
  ·refine ⟨by simp,?_⟩
   have emp:(ps.map prD).isEmpty=decide (ps=[]):=by cases ps<;>simp
   show if (ps.map prD).isEmpty=true then _ else _
   rw [emp]
   refine ite2 (fun _=>hR _) (fun g=>?_)
   have hne:0 < ps.length:=List.length_pos_iff.mpr fun z=>g (decide_eq_true z)
   exact ⟨⟨by decide,by decide⟩,(by show 0 < (((ps.map prD).length:Nat):Int);omega),hR _⟩
theorem Zk1 (G:Glob K mg) (DD:Def K mg "_law_width" Zer ["_law_cell", "_law_strips", "_law_place_here"])
  : Callee P w K mg base CX0 1 "_law_width" ["_law_cell", "_law_strips", "_law_place_here"] (Pu.spOf mg Zg6 K):=by
 refine DD.ok (k:=0) Zkm (fun vs H Q E h=>Zay h (fun ds R X h=>?_)) (fun f cdv A outer s H vs Q E hr h=>?_)
 ·obtain ⟨c,ps,p,rfl,hz,hF,hR⟩:=h
  rfl
 ·refine ⟨_,(Zag (Za3 (PW.pt (Zei (Zal Zgp (pv 2) Zad (nomark _)) (Zei (Zal Zi5 (pv 2) (Zan (Own.Zax (K:=K)) (by rfl) G.len PySem.boot_len (Za (pv 1) Zaf)) (nomark _)) (Zc1 (Zal (Pu.Zbq (K:=K) (show _ < cLine from hr.units0)) (Zat Zba (pv 0) Zad) Zad (nomark _))))))
   (Zah (Zas (Zao (Own.Zai (K:=K)) (Za0 (Za Zad (Za (Zi7 Zf0 Zad) (Za Zad (Za Zad (Za Zad (Za Zad (Za (Zat Znz Zad Zad) Zaf)))))))) (Zat Zba (Zat Zbk (pv 0) Zad) Zad) (fun _ _=>rfl))))
   Zaq)
   (Zah (Zas (Zat Zba (Zat Zbk (pv 0) Zad) (Zat Zbm (Zao (Own.Zai (K:=K)) (Zao (Own.Zai (K:=K)) (pv 1) (Zat Zdg (pv 2) Zad) (fun _ _=>rfl)) Zad (fun _ _=>rfl)) Zad))))),Pu.Zbf (n:=3) h
   (Zaj (Za5 (Zeq (Zak (Zgm (Zab 2) Zac)) (Zeq (Zak (Zi4 (Zab 2) (Zbt (Zaa (Zab 1) Zae)))) (Zak (Zbl (Zb (Zab 0) Zac) Zac)))) (Zav (Zap (Za1 (Zaa Zac (Zaa (Zf3 Zac) (Zaa Zac (Zaa Zac (Zaa Zac (Zaa Zac (Zaa (Zo5 Zac Zac) Zae)))))))) (Zb (Zbj (Zab 0) Zac) Zac))) Zar)
    (Zav (Zb (Zbj (Zab 0) Zac) (Zbp (Zap (Zap (Zab 1) (Zdi (Zab 2) Zac)) Zac) Zac)))) (by decide) (fun ds R X h=>?_)⟩
  obtain ⟨c,ps,p,rfl,hz,hF,hR⟩:=h
  refine ⟨rfl,?_⟩
  have hl:(ps.map prD).length=ps.length:=List.length_map ..
  have h7:0≤c / 5 % 7∧c / 5 % 7 < 7:=by omega
  have out:∃ v:Int,atI ([0,-1,1,1000,1001,999,10 ^ (30:Int).toNat].map D.int) (c / 5 % 7)=some (.int v):=⟨_,Zit (f:=D.int) (xs:=[0,-1,1,1000,1001,999,10 ^ (30:Int).toNat]) h7.1 h7.2⟩
  obtain ⟨v,ev⟩:=out
  refine ite2 (fun g=>iteT ?_) (fun g=>ite2 (fun g2=>iteT ?_) (fun g2=>⟨(by show (0:Int) < 5;decide),ite2 (fun g3=>?_) (fun g3=>?_)⟩))
  ·exact ⟨⟨by decide,by decide,by decide⟩,by simp,⟨by decide,by decide⟩,(by show (0:Int) < 7;decide),_,ev,hR _⟩
  ·exact ⟨⟨by decide,by decide,by decide⟩,by simp,⟨by decide,by decide⟩,(by show (0:Int) < 7;decide),_,ev,hR _⟩
  ·exact ⟨⟨by decide,by decide,by decide⟩,by simp,⟨by decide,by decide⟩,(by show (0:Int) < 7;decide),_,ev,hR _⟩
  ·have n1:¬ p < 1:=fun z=>g (decide_eq_true z)
   have n2:¬ (((ps.map prD).length:Nat):Int) < p:=fun z=>g2 (decide_eq_true z)
   have hm:=hF _ (Zhp (ps:=ps) (p:=p) (by omega) (by omega))
   exact ⟨⟨by decide,by decide⟩,_,Zem (by omega) (by omega),_,rfl,(by show 0 < (atP1 ps p).2 + 1;omega),hR _⟩
theorem Zih (G:Glob K mg) (DD:Def K mg "check_strips" Zdc ["strips"])
  (c_check_holder:Callee P w K mg base (ExcR.CXe P w) 1 "check_holder" ["holder"] (Pu.spOf mg Zcz K))
  (c_check_width:Callee P w K mg base (ExcR.CXe P w) 1 "check_width" ["width"] (Pu.spOf mg Zfz K))
  : Callee P w K mg base (ExcR.CXe P w) 2 "check_strips" ["strips"] (Pu.spOf mg Zfg K):=by
 refine ExcR.Def.okX DD (k:=1) sc_check_strips (fun vs H Q E h=>Zay h (fun ds R X h=>?_)) (fun f cdv A outer s H vs Q E hr h=>?_)
 ·obtain ⟨ps,rfl,hz,hR⟩:=h
  rfl
 ·refine ⟨_,(Zag (Za3 (Zal Zi5 (Zan (Own.Zax (K:=K)) (by rfl) G.len PySem.boot_len (Za (pv 0) Zaf)) (ExcR.Zcd G.STRIPS) (nomark _))
   (Zah (ExcR.Zb1 G.g_TooManyStrips.c G.m_TooManyStrips ExcR.Zbx rfl (Za (ExcR.pe_f (ExcR.Zez (ExcR.Zhy (ExcR.Zcd G.STRIPS) (ExcR.Zez ExcR.Zh5)))) Zaf)))
   Zaq)
   (Zah (Zgj ExcR.Zqw rfl (Pu.Zfj (K:=K) (pv 0)) (Own.Zrf (K:=K) (n:=2) rfl (Zm (Zcl (i:=1) sc_check_strips.nd rfl (by first | exact Or.inl rfl | exact Or.inr rfl)) (Zm (Zcl (i:=2) sc_check_strips.nd rfl (by first | exact Or.inl rfl | exact Or.inr rfl)) Zre)))
   (Zag (Zbv (Own.Za4 c_check_holder (hr.mono (by decide)) ExcR.Za8 (Za (pv 1) Zaf)))
   (Zah (Zbv (Own.Za4 c_check_width (hr.mono (by decide)) ExcR.Za8 (Za (pv 2) Zaf)))))))),Pu.Zbf (n:=1) h
   (Zaj (Za5 (Zak (Zi4 (Zbt (Zaa (Zab 0) Zae)) Zac)) (Zbz (Zaa (se_f (Zey (Ziq Zac (Zey Zhs)))) Zae)) Zar)
    (Zaz 0 (Zgl [1,2] (Zlg (Zab 0)) (Zr4 (Zl9 (Zam 1) (Zl9 (Zam 2) Zqt)))
    (Zaj (Zcr (Zca (Zaa (Zab 1) Zae)))
    (Zcr (Zca (Zaa (Zab 2) Zae))))))) (by decide) (fun ds R X h=>?_)⟩
  obtain ⟨ps,rfl,hz,hR⟩:=h
  refine ⟨rfl,?_⟩
  have hl:(ps.map prD).length=ps.length:=List.length_map ..
  unfold stripE at hR
  refine ite2 (fun g=>?_) (fun g=>?_)
  ·have g':(40:Int) < ((ps.map prD).length:Int):=of_decide_eq_true g
   rw [if_pos (by omega)] at hR
   exact ⟨by decide,by decide,by decide,by decide,by decide,by simp,hR⟩
  ·have g':¬ (40:Int) < ((ps.map prD).length:Int):=fun z=>g (decide_eq_true z)
   rw [if_neg (by omega)] at hR
   refine ⟨rfl,Zn7 (xs:=ps) (emb:=prD) (fun i γ'=>γ'=[some (.bor (plD ps)),none,none]∧firstE (ps.drop i)=firstE ps) ⟨rfl,rfl⟩ ?_ ?_⟩
   ·rintro i hi γ' ⟨rfl,hf⟩
    have ed:ps.drop i=ps[i] :: ps.drop (i + 1):=List.drop_eq_getElem_cons hi
    rw [ed,Zk8] at hf
    generalize ps[i]=p at hf ⊢
    refine ⟨rfl,p.1,rfl,?_⟩
    unfold holdE
    by_cases c:1≤p.1∧p.1≤10
    ·rw [if_neg (fun z=>z c)] at hf
     rw [if_pos c]
     refine ⟨p.2,rfl,?_⟩
     unfold widthE
     by_cases c2:1≤p.2∧p.2≤1000
     ·rw [if_neg (fun z=>z c2)] at hf
      rw [if_pos c2]
      exact ⟨rfl,hf⟩
     ·rw [if_pos c2] at hf
      rw [if_neg c2]
      rw [← hf] at hR
      exact hR
    ·rw [if_pos c] at hf
     rw [if_neg c]
     rw [← hf] at hR
     exact hR
   ·rintro γ' ⟨rfl,hf⟩
    rw [List.drop_length] at hf
    rw [← hf] at hR
    exact hR
theorem Zq5 (G:Glob K mg) (DD:Def K mg "sold" Zl8 ["strips", "place", "holder"])
  (c_check_place:Callee P w K mg base (ExcR.CXe P w) 1 "check_place" ["strips", "place"] (Pu.spOf mg Zd9 K))
  (c_check_holder:Callee P w K mg base (ExcR.CXe P w) 1 "check_holder" ["holder"] (Pu.spOf mg Zcz K))
  : Callee P w K mg base (ExcR.CXe P w) 2 "sold" ["strips", "place", "holder"] (Pu.spOf mg Znp K):=by
 refine ExcR.Def.okX DD (k:=1) sc_sold (fun vs H Q E h=>Zay h (fun ds R X h=>?_)) (fun f cdv A outer s H vs Q E hr h=>?_)
 ·obtain ⟨ps,p,h,rfl,hz,hR⟩:=h
  rfl
 ·refine ⟨_,(Zag (Zbv (Own.Za4 c_check_place (hr.mono (by decide)) ExcR.Za8 (Za (pv 0) (Za (pv 1) Zaf))))
   (Zag (Zbv (Own.Za4 c_check_holder (hr.mono (by decide)) ExcR.Za8 (Za (pv 2) Zaf)))
   (Zag (Pu.pz 3 sc_sold.nd (Zao (Own.Zai (K:=K)) (pv 0) (Zat Zdg (pv 1) Zad) (fun _ _=>rfl)))
   (Zag (Za3 (Zal (Pu.Zbq (K:=K) (show _ < cLine from hr.units0)) (Zao (Own.Zai (K:=K)) (pv 3) Zad (fun _ _=>rfl)) (pv 2) (nomark _))
   (Zah (ExcR.Zb1 G.g_OwnStrip.c G.m_OwnStrip ExcR.Zbx rfl (Za Zbn Zaf)))
   Zaq)
   (Zah (Zas (Zat Zdt (Zat Zdt (Zb9 (Pu.Zcc (K:=K)) (pv 0) Zc4 (Zco (Zat Zdg (pv 1) Zad))) (Za0 (Za (Zbh (Za (pv 2) (Za (Zao (Own.Zai (K:=K)) (pv 3) Zad (fun _ _=>rfl)) Zaf))) Zaf))) (Zb9 (Pu.Zcc (K:=K)) (pv 0) (Zco (pv 1)) Zc4)))))))),Pu.Zbf (n:=3) h
   (Zaj (Zcr (Zca (Zaa (Zab 0) (Zaa (Zab 1) Zae))))
    (Zaj (Zcr (Zca (Zaa (Zab 2) Zae)))
    (Zaj (Za2 (Zap (Zab 0) (Zdi (Zab 1) Zac)) (Zam 3))
    (Zaj (Za5 (Zak (Zbl (Zap (Zab 3) Zac) (Zab 2))) (Zbz (Zaa Zbo Zae)) Zar)
    (Zaz 2 (Zav (Zdu (Zdu (Zcg (Zab 0) Zc3 (Zcn (Zdi (Zab 1) Zac))) (Za1 (Zaa (Zbi (Zaa (Zab 2) (Zaa (Zap (Zab 3) Zac) Zae))) Zae))) (Zcg (Zab 0) (Zcn (Zab 1)) Zc3)))))))) (by decide) (fun ds R X h=>?_)⟩
  obtain ⟨ps,p,h,rfl,hz,hR⟩:=h
  refine ⟨rfl,?_⟩
  unfold soldE at hR
  refine ⟨ps,p,rfl,?_⟩
  unfold placeE
  by_cases c:p < 1∨(ps.length:Int) < p
  ·rw [if_pos c] at hR ⊢
   exact hR
  ·rw [if_neg c] at hR ⊢
   refine ⟨h,rfl,?_⟩
   unfold holdE
   by_cases c2:1≤h∧h≤10
   ·rw [if_neg (fun z=>z c2)] at hR
    rw [if_pos c2]
    refine ⟨_,Zem (by omega) (by omega),?_⟩
    have l1:(cutD (ps.map prD) none (some (p - 1))).length≤1000:=by have:=(Zd6 (ps.map prD) none (some (p - 1))).length_le;rw [List.length_map] at this;omega
    have l2:(cutD (ps.map prD) (some p) none).length≤1000:=by have:=(Zd6 (ps.map prD) (some p) none).length_le;rw [List.length_map] at this;omega
    refine ⟨_,rfl,ite2 (fun g=>?_) (fun g=>?_)⟩
    ·have g':(atP1 ps p).1=h:=of_decide_eq_true g
     rw [if_pos g'] at hR
     exact ⟨by simp,hR⟩
    ·have g':¬ (atP1 ps p).1=h:=fun z=>g (decide_eq_true z)
     rw [if_neg g'] at hR
     refine ⟨Zb7 _,_,rfl,by simp,by simp,rfl,rfl,Nat.le_trans (Nat.add_le_add l1 (Nat.le_refl 1)) (by decide),Zb7 _,rfl,rfl,Nat.le_trans (Nat.add_le_add (by rw [List.length_append];exact Nat.add_le_add l1 (Nat.le_refl 1)) l2) (by decide),?_⟩
     have e:=Zof (ps:=ps) (p:=p) (x:=(h,(atP1 ps p).2)) (by omega) (by omega)
     show R (.own (cutD (ps.map prD) none (some (p - 1))++[prD (h,(atP1 ps p).2)]++cutD (ps.map prD) (some p) none))
     rw [e]
     exact hR
   ·rw [if_pos c2] at hR
    rw [if_neg c2]
    exact hR
theorem Zop (G:Glob K mg) (DD:Def K mg "parted" Zhj ["strips", "place", "width"])
  (c_check_place:Callee P w K mg base (ExcR.CXe P w) 1 "check_place" ["strips", "place"] (Pu.spOf mg Zd9 K))
  : Callee P w K mg base (ExcR.CXe P w) 2 "parted" ["strips", "place", "width"] (Pu.spOf mg Zkb K):=by
 refine ExcR.Def.okX DD (k:=1) sc_parted (fun vs H Q E h=>Zay h (fun ds R X h=>?_)) (fun f cdv A outer s H vs Q E hr h=>?_)
 ·obtain ⟨ps,p,w,rfl,hz,hR⟩:=h
  rfl
 ·refine ⟨_,(Zag (Zbv (Own.Za4 c_check_place (hr.mono (by decide)) ExcR.Za8 (Za (pv 0) (Za (pv 1) Zaf))))
   (Zag (Pu.pz 3 sc_parted.nd (Zao (Own.Zai (K:=K)) (pv 0) (Zat Zdg (pv 1) Zad) (fun _ _=>rfl)))
   (Zag (Za3 (PW.pt (Zei (Zal Zgp (pv 2) Zad (nomark _)) (Zc1 (Zal Zm2 (pv 2) (Zao (Own.Zai (K:=K)) (pv 3) Zad (fun _ _=>rfl)) (nomark _)))))
   (Zah (ExcR.Zb1 G.g_BadPart.c G.m_BadPart ExcR.Zbx rfl (Za Zbn Zaf)))
   Zaq)
   (Zag (Za3 (Zal Zm2 (Zan (Own.Zax (K:=K)) (by rfl) G.len PySem.boot_len (Za (pv 0) Zaf)) (ExcR.Zcd G.STRIPS) (nomark _))
   (Zah (ExcR.Zb1 G.g_TooManyStrips.c G.m_TooManyStrips ExcR.Zbx rfl (Za (ExcR.pe_f (ExcR.Zez (ExcR.Zhy (ExcR.Zcd G.STRIPS) (ExcR.Zez ExcR.Zh5)))) Zaf)))
   Zaq)
   (Zah (Zas (Zat Zdt (Zat Zdt (Zb9 (Pu.Zcc (K:=K)) (pv 0) Zc4 (Zco (Zat Zdg (pv 1) Zad))) (Za0 (Za (Zbh (Za (Zao (Own.Zai (K:=K)) (pv 3) Zad (fun _ _=>rfl)) (Za (pv 2) Zaf))) (Za (Zbh (Za (Zao (Own.Zai (K:=K)) (pv 3) Zad (fun _ _=>rfl)) (Za (Zat Zdg (Zao (Own.Zai (K:=K)) (pv 3) Zad (fun _ _=>rfl)) (pv 2)) Zaf))) Zaf)))) (Zb9 (Pu.Zcc (K:=K)) (pv 0) (Zco (pv 1)) Zc4)))))))),Pu.Zbf (n:=3) h
   (Zaj (Zcr (Zca (Zaa (Zab 0) (Zaa (Zab 1) Zae))))
    (Zaj (Za2 (Zap (Zab 0) (Zdi (Zab 1) Zac)) (Zam 3))
    (Zaj (Za5 (Zeq (Zak (Zgm (Zab 2) Zac)) (Zak (Zmv (Zab 2) (Zap (Zab 3) Zac)))) (Zbz (Zaa Zbo Zae)) Zar)
    (Zaj (Za5 (Zak (Zmv (Zbt (Zaa (Zab 0) Zae)) Zac)) (Zbz (Zaa (se_f (Zey (Ziq Zac (Zey Zhs)))) Zae)) Zar)
    (Zaz 2 (Zav (Zdu (Zdu (Zcg (Zab 0) Zc3 (Zcn (Zdi (Zab 1) Zac))) (Za1 (Zaa (Zbi (Zaa (Zap (Zab 3) Zac) (Zaa (Zab 2) Zae))) (Zaa (Zbi (Zaa (Zap (Zab 3) Zac) (Zaa (Zdi (Zap (Zab 3) Zac) (Zab 2)) Zae))) Zae)))) (Zcg (Zab 0) (Zcn (Zab 1)) Zc3)))))))) (by decide) (fun ds R X h=>?_)⟩
  obtain ⟨ps,p,w,rfl,hz,hR⟩:=h
  refine ⟨rfl,?_⟩
  have hl:(ps.map prD).length=ps.length:=List.length_map ..
  refine ⟨ps,p,rfl,?_⟩
  unfold partE at hR
  unfold placeE
  by_cases c:p < 1∨(ps.length:Int) < p
  ·rw [if_pos c] at hR ⊢
   exact hR
  ·rw [if_neg c] at hR ⊢
   refine ⟨_,Zem (by omega) (by omega),?_⟩
   have go:¬ (w < 1∨(atP1 ps p).2≤w)→_:=fun c2=>by
    rw [if_neg c2] at hR
    exact hR
   by_cases c2:w < 1∨(atP1 ps p).2≤w
   ·rw [if_pos c2] at hR
    refine ite2 (fun g=>iteT ⟨by simp,hR⟩) (fun g=>⟨_,rfl,ite2 (fun g2=>⟨by simp,hR⟩) (fun g2=>?_)⟩)
    have g':¬ w < 1:=fun z=>g (decide_eq_true z)
    have g2':¬ (atP1 ps p).2≤w:=fun z=>g2 (decide_eq_true z)
    omega
   ·rw [if_neg c2] at hR
    refine ite2 (fun g=>absurd (of_decide_eq_true g) (by omega)) (fun g=>⟨_,rfl,ite2 (fun g2=>absurd (of_decide_eq_true g2) (by omega)) (fun g2=>?_)⟩)
    refine ite2 (fun g3=>?_) (fun g3=>?_)
    ·have g3':(40:Int)≤((ps.map prD).length:Int):=of_decide_eq_true g3
     rw [if_pos (by omega)] at hR
     exact ⟨by decide,by decide,by decide,by decide,by decide,by simp,hR⟩
    ·have g3':¬ (40:Int)≤((ps.map prD).length:Int):=fun z=>g3 (decide_eq_true z)
     rw [if_neg (by omega)] at hR
     have l1:(cutD (ps.map prD) none (some (p - 1))).length≤1000:=by have:=(Zd6 (ps.map prD) none (some (p - 1))).length_le;rw [List.length_map] at this;omega
     have l2:(cutD (ps.map prD) (some p) none).length≤1000:=by have:=(Zd6 (ps.map prD) (some p) none).length_le;rw [List.length_map] at this;omega
     refine ⟨Zb7 _,_,rfl,by simp,_,rfl,_,rfl,by simp,by simp,rfl,rfl,Nat.le_trans (Nat.add_le_add l1 (Nat.le_refl 2)) (by decide),Zb7 _,rfl,rfl,Nat.le_trans (Nat.add_le_add (by rw [List.length_append];exact Nat.add_le_add l1 (Nat.le_refl 2)) l2) (by decide),?_⟩
     rw [← Zml (by omega)] at hR
     exact hR
theorem Zol (G:Glob K mg) (DD:Def K mg "united" Zho ["strips", "place"])
  (c_check_neighbours:Callee P w K mg base (ExcR.CXe P w) 1 "check_neighbours" ["strips", "place"] (Pu.spOf mg Zdw K))
  : Callee P w K mg base (ExcR.CXe P w) 2 "united" ["strips", "place"] (Pu.spOf mg Zkz K):=by
 refine ExcR.Def.okX DD (k:=1) sc_united (fun vs H Q E h=>Zay h (fun ds R X h=>?_)) (fun f cdv A outer s H vs Q E hr h=>?_)
 ·obtain ⟨ps,p,rfl,hz,hR⟩:=h
  rfl
 ·refine ⟨_,(Zag (Zbv (Own.Za4 c_check_neighbours (hr.mono (by decide)) ExcR.Za8 (Za (pv 0) (Za (pv 1) Zaf))))
   (Zag (Pu.pz 2 sc_united.nd (Zao (Own.Zai (K:=K)) (pv 0) (Zat Zdg (pv 1) Zad) (fun _ _=>rfl)))
   (Zag (Pu.pz 3 sc_united.nd (Zao (Own.Zai (K:=K)) (pv 0) (pv 1) (fun _ _=>rfl)))
   (Zag (Za3 (Zal (Pu.Zgo (K:=K) (show _ < cLine from hr.units0)) (Zao (Own.Zai (K:=K)) (pv 2) Zad (fun _ _=>rfl)) (Zao (Own.Zai (K:=K)) (pv 3) Zad (fun _ _=>rfl)) (nomark _))
   (Zah (ExcR.Zb1 G.g_UnlikeHolders.c G.m_UnlikeHolders ExcR.Zbx rfl (Za Zbn Zaf)))
   Zaq)
   (Zag (Za3 (Zal Zi5 (Zat Zbm (Zao (Own.Zai (K:=K)) (pv 2) Zad (fun _ _=>rfl)) (Zao (Own.Zai (K:=K)) (pv 3) Zad (fun _ _=>rfl))) (ExcR.Zcd G.WIDEST) (nomark _))
   (Zah (ExcR.Zb1 G.g_TooWide.c G.m_TooWide ExcR.Zbx rfl (Za (ExcR.pe_f (ExcR.Zez (ExcR.Zhy (ExcR.Zcd G.WIDEST) (ExcR.Zez ExcR.Zh5)))) Zaf)))
   Zaq)
   (Zah (Zas (Zat Zdt (Zat Zdt (Zb9 (Pu.Zcc (K:=K)) (pv 0) Zc4 (Zco (Zat Zdg (pv 1) Zad))) (Za0 (Za (Zbh (Za (Zao (Own.Zai (K:=K)) (pv 2) Zad (fun _ _=>rfl)) (Za (Zat Zbm (Zao (Own.Zai (K:=K)) (pv 2) Zad (fun _ _=>rfl)) (Zao (Own.Zai (K:=K)) (pv 3) Zad (fun _ _=>rfl))) Zaf))) Zaf))) (Zb9 (Pu.Zcc (K:=K)) (pv 0) (Zco (Zat Zbm (pv 1) Zad)) Zc4))))))))),Pu.Zbf (n:=2) h
   (Zaj (Zcr (Zca (Zaa (Zab 0) (Zaa (Zab 1) Zae))))
    (Zaj (Za2 (Zap (Zab 0) (Zdi (Zab 1) Zac)) (Zam 2))
    (Zaj (Za2 (Zap (Zab 0) (Zab 1)) (Zam 3))
    (Zaj (Za5 (Zak (Zgc (Zap (Zab 2) Zac) (Zap (Zab 3) Zac))) (Zbz (Zaa Zbo Zae)) Zar)
    (Zaj (Za5 (Zak (Zi4 (Zbp (Zap (Zab 2) Zac) (Zap (Zab 3) Zac)) Zac)) (Zbz (Zaa (se_f (Zey (Ziq Zac (Zey Zhs)))) Zae)) Zar)
    (Zav (Zdu (Zdu (Zcg (Zab 0) Zc3 (Zcn (Zdi (Zab 1) Zac))) (Za1 (Zaa (Zbi (Zaa (Zap (Zab 2) Zac) (Zaa (Zbp (Zap (Zab 2) Zac) (Zap (Zab 3) Zac)) Zae))) Zae))) (Zcg (Zab 0) (Zcn (Zbp (Zab 1) Zac)) Zc3)))))))) (by decide) (fun ds R X h=>?_)⟩
  obtain ⟨ps,p,rfl,hz,hR⟩:=h
  refine ⟨rfl,?_⟩
  have hl:(ps.map prD).length=ps.length:=List.length_map ..
  refine ⟨ps,p,rfl,?_⟩
  unfold uniE at hR
  by_cases c:p < 1∨(ps.length:Int)≤p
  ·rw [if_pos c] at hR ⊢
   exact hR
  ·rw [if_neg c] at hR ⊢
   have e2:atI (ps.map prD) p=some (prD (atP1 ps (p + 1))):=by
    have:=Zem (ps:=ps) (p:=p + 1) (by omega) (by omega)
    rwa [show p + 1 - 1=p by omega] at this
   refine ⟨_,Zem (by omega) (by omega),_,e2,_,rfl,_,rfl,ite2 (fun g=>?_) (fun g=>?_)⟩
   ·have g':¬ (atP1 ps p).1=(atP1 ps (p + 1)).1:=fun z=>by rw [decide_eq_true z] at g;cases g
    rw [if_pos g'] at hR
    exact ⟨by simp,hR⟩
   ·have g':(atP1 ps p).1=(atP1 ps (p + 1)).1:=Classical.byContradiction fun z=>g (by rw [decide_eq_false z];rfl)
    rw [if_neg (fun z=>z g')] at hR
    refine ⟨_,rfl,_,rfl,ite2 (fun g2=>?_) (fun g2=>?_)⟩
    ·rw [if_pos (of_decide_eq_true g2)] at hR
     exact ⟨by decide,by decide,by decide,by decide,by decide,by simp,hR⟩
    ·rw [if_neg (fun z=>g2 (decide_eq_true z))] at hR
     have l1:(cutD (ps.map prD) none (some (p - 1))).length≤1000:=by have:=(Zd6 (ps.map prD) none (some (p - 1))).length_le;rw [List.length_map] at this;omega
     have l2:(cutD (ps.map prD) (some (p + 1)) none).length≤1000:=by have:=(Zd6 (ps.map prD) (some (p + 1)) none).length_le;rw [List.length_map] at this;omega
     refine ⟨Zb7 _,_,rfl,_,rfl,_,rfl,by simp,by simp,rfl,rfl,Nat.le_trans (Nat.add_le_add l1 (Nat.le_refl 1)) (by decide),Zb7 _,rfl,rfl,Nat.le_trans (Nat.add_le_add (by rw [List.length_append];exact Nat.add_le_add l1 (Nat.le_refl 1)) l2) (by decide),?_⟩
     rw [← Znx (by omega)] at hR
     exact hR
theorem Zkv (G:Glob K mg) (DD:Def K mg "with_wish" Zew ["wishes", "ahead", "behind"])
  (c_check_holder:Callee P w K mg base (ExcR.CXe P w) 1 "check_holder" ["holder"] (Pu.spOf mg Zcz K))
  : Callee P w K mg base (ExcR.CXe P w) 2 "with_wish" ["wishes", "ahead", "behind"] (Pu.spOf mg Zh K):=by
 refine ExcR.Def.okX DD (k:=1) Zkp (fun vs H Q E h=>Zay h (fun ds R X h=>?_)) (fun f cdv A outer s H vs Q E hr h=>?_)
 ·obtain ⟨ws,a,b,rfl,hz,hR⟩:=h
  rfl
 ·refine ⟨_,(Zag (Zbv (Own.Za4 c_check_holder (hr.mono (by decide)) ExcR.Za8 (Za (pv 1) Zaf)))
   (Zag (Zbv (Own.Za4 c_check_holder (hr.mono (by decide)) ExcR.Za8 (Za (pv 2) Zaf)))
   (Zag (Za3 (Zal (Pu.Zbq (K:=K) (show _ < cLine from hr.units0)) (pv 1) (pv 2) (nomark _))
   (Zah (ExcR.Zb1 G.g_LikeHolders.c G.m_LikeHolders ExcR.Zbx rfl (Za Zbn Zaf)))
   Zaq)
   (Zag (Za3 (Zal (Pu.Zqh (K:=K) (show _ < cLine from Zpq hr)) (Zbh (Za (pv 1) (Za (pv 2) Zaf))) (pv 0) (by with_unfolding_all rfl))
   (Zah (ExcR.Zb1 G.g_WishStands.c G.m_WishStands ExcR.Zbx rfl (Za Zbn Zaf)))
   Zaq)
   (Zag (Za3 (Zal Zm2 (Zan (Own.Zax (K:=K)) (by rfl) G.len PySem.boot_len (Za (pv 0) Zaf)) (ExcR.Zcd G.MOST_WISHES) (nomark _))
   (Zah (ExcR.Zb1 G.g_TooManyWishes.c G.m_TooManyWishes ExcR.Zbx rfl (Za (ExcR.pe_f (ExcR.Zez (ExcR.Zhy (ExcR.Zcd G.MOST_WISHES) (ExcR.Zez ExcR.Zh5)))) Zaf)))
   Zaq)
   (Zah (Zas (Zat Zdt (pv 0) (Za0 (Za (Zbh (Za (pv 1) (Za (pv 2) Zaf))) Zaf)))))))))),Pu.Zbf (n:=3) h
   (Zaj (Zcr (Zca (Zaa (Zab 1) Zae)))
    (Zaj (Zcr (Zca (Zaa (Zab 2) Zae)))
    (Zaj (Za5 (Zak (Zbl (Zab 1) (Zab 2))) (Zbz (Zaa Zbo Zae)) Zar)
    (Zaj (Za5 (Zak (Zp0 (Zbi (Zaa (Zab 1) (Zaa (Zab 2) Zae))) (Zab 0))) (Zbz (Zaa Zbo Zae)) Zar)
    (Zaj (Za5 (Zak (Zmv (Zbt (Zaa (Zab 0) Zae)) Zac)) (Zbz (Zaa (se_f (Zey (Ziq Zac (Zey Zhs)))) Zae)) Zar)
    (Zaz 2 (Zaz 1 (Zav (Zdu (Zab 0) (Za1 (Zaa (Zbi (Zaa (Zab 1) (Zaa (Zab 2) Zae))) Zae))))))))))) (by decide) (fun ds R X h=>?_)⟩
  obtain ⟨ws,a,b,rfl,hz,hR⟩:=h
  refine ⟨rfl,?_⟩
  have hl:(ws.map prD).length=ws.length:=List.length_map ..
  unfold wishE at hR
  refine ⟨a,rfl,?_⟩
  unfold holdE
  by_cases c1:1≤a∧a≤10
  ·rw [if_neg (fun z=>z c1)] at hR
   rw [if_pos c1]
   refine ⟨b,rfl,?_⟩
   unfold holdE
   by_cases c2:1≤b∧b≤10
   ·rw [if_neg (fun z=>z c2)] at hR
    rw [if_pos c2]
    refine ite2 (fun g=>?_) (fun g=>?_)
    ·rw [if_pos (of_decide_eq_true g)] at hR
     exact ⟨by simp,hR⟩
    ·rw [if_neg (fun z=>g (decide_eq_true z))] at hR
     refine ⟨by simp,_,.lp (a,b) ws,ite2 (fun g2=>?_) (fun g2=>?_)⟩
     ·rw [if_pos (of_decide_eq_true g2)] at hR
      exact ⟨by simp,hR⟩
     ·rw [if_neg (fun z=>g2 (decide_eq_true z))] at hR
      refine ite2 (fun g3=>?_) (fun g3=>?_)
      ·have g3':(20:Int)≤((ws.map prD).length:Int):=of_decide_eq_true g3
       rw [if_pos (by omega)] at hR
       exact ⟨by decide,by decide,by decide,by decide,by decide,by simp,hR⟩
      ·have g3':¬ (20:Int)≤((ws.map prD).length:Int):=fun z=>g3 (decide_eq_true z)
       rw [if_neg (by omega)] at hR
       refine ⟨by simp,by simp,Zb7 _,rfl,Nat.le_trans (Nat.add_le_add (Nat.le_trans (Nat.le_of_eq hl) hz) (Nat.le_refl 1)) (by decide),?_⟩
       rw [List.map_append] at hR
       exact hR
   ·rw [if_pos c2] at hR
    rw [if_neg c2]
    exact hR
  ·rw [if_pos c1] at hR
   rw [if_neg c1]
   exact hR
theorem Zh8 (G:Glob K mg) (DD:Pu.DefM K (Meth K (ExcR.clsOf mg "Village") "drop") "drop" "Village.drop" Zda ["self", "ahead", "behind"])
  (c_Village_check_room:Pu.CalleeM P w K mg base (ExcR.CXe P w) 1 (Meth K (ExcR.clsOf mg "Village") "check_room") ["self"] (Pu.spOf mg (Za6 (ExcR.clsOf mg "Village")) K))
  (c_without_wish:Callee P w K mg base (ExcR.CXe P w) 1 "without_wish" ["wishes", "ahead", "behind"] (Pu.spOf mg Zf K))
  (c_Village_enter:Pu.CalleeM P w K mg base CX0 1 (Meth K (ExcR.clsOf mg "Village") "enter") ["self", "deed", "field", "wishes"] (Pu.spW mg (Zbw (ExcR.clsOf mg "Village")) K))
  (c_Village_wishes:Pu.CalleeM P w K mg base CX0 1 (Meth K (ExcR.clsOf mg "Village") "wishes") ["self"] (Pu.spOf mg (Zbb (ExcR.clsOf mg "Village")) K))
  (c_Village_strips:Pu.CalleeM P w K mg base CX0 1 (Meth K (ExcR.clsOf mg "Village") "strips") ["self"] (Pu.spOf mg (Zbd (ExcR.clsOf mg "Village")) K))
  : Pu.CalleeM P w K mg base (ExcR.CXe P w) 2 (Meth K (ExcR.clsOf mg "Village") "drop") ["self", "ahead", "behind"] (Pu.spW mg (Ze9 (ExcR.clsOf mg "Village")) K):=by
 refine Pu.DefM.okX DD (k:=1) sc_Village_drop (fun vs H Q E h=>Pu.Ze (n:=2) h (fun o ss R X h=>?_)) (fun f cdv A outer s H vs Q E hr h=>?_)
 ·obtain ⟨x,b1,b2,b3,bk,fs,ws,f,w,p,h,rfl,rfl,hb,hf,hw,hz,hR⟩:=h
  rfl
 ·refine ⟨_,(Zag (Zbv (Pu.Zb8 c_Village_check_room G.cl_Village (hr.mono (by decide)) ExcR.Za8 (pv 0)))
   (Zag (Pu.pz 3 sc_Village_drop.nd (Own.Za4 c_without_wish (hr.mono (by decide)) ExcR.Za8 (Za (Pu.Zb8 c_Village_wishes G.cl_Village (hr.mono (by decide)) pass0 (pv 0)) (Za (pv 1) (Za (pv 2) Zaf)))))
   (Zah (Zas (Pu.Zf2 c_Village_enter G.cl_Village (hr.mono (by decide)) pass0 (pv 0) (Za (Zbh (Za Zbn (Za (pv 1) (Za (pv 2) Zaf)))) (Za (Pu.Zb8 c_Village_strips G.cl_Village (hr.mono (by decide)) pass0 (pv 0)) (Za (pv 3) Zaf)))))))),Pu.Zd8 (n:=2) h
   (Zaj (Zcr (Zh7 Zbe (Zab 0) Zae))
    (Zaj (Za2 (Zca (Zaa (Zce Zbs (Zab 0) Zae) (Zaa (Zab 1) (Zaa (Zab 2) Zae)))) (Zam 3))
    (Zaz 2 (Zaz 1 (Zaz 3 (Zch (Zgk 0 Zb6 (Zaa (Zbi (Zaa Zbo (Zaa (Zab 1) (Zaa (Zab 2) Zae)))) (Zaa (Zce Zbr (Zab 0) Zae) (Zaa (Zab 3) Zae)))))))))) (by decide) (fun o ss R X h=>?_)⟩
  obtain ⟨x,b1,b2,b3,bk,fs,ws,f,w,p,h,rfl,rfl,hb,hf,hw,hz,hR⟩:=h
  refine ⟨rfl,?_⟩
  unfold vdropE at hR
  refine ⟨rfl,rfl,bk,fs++[f],ws++[w],rfl,?_⟩
  unfold roomE
  by_cases c:100≤bk.length
  ·rw [if_pos c] at hR ⊢
   exact ⟨_,rfl,⟨rfl,by simp⟩,hR⟩
  ·rw [if_neg c] at hR ⊢
   refine ⟨rfl,rfl,bk,fs++[f],ws,w,rfl,w,p,h,rfl,hz,?_⟩
   cases e:dropE w p h with
   | some c=>
    rw [e] at hR
    exact ⟨_,rfl,⟨rfl,by simp⟩,hR⟩
   | none=>
    rw [e] at hR
    refine ⟨rfl,rfl,by simp,rfl,rfl,bk,fs,ws++[w],f,rfl,?_⟩
    exact ⟨x,b1,b2,b3,bk,fs++[f],ws++[w],("drop",[p,h]),f,dropL w p h,rfl,rfl,hb,by rw [List.length_append];simp;omega,by rw [List.length_append];simp;omega,_,rfl,⟨rfl,by simp⟩,hR⟩
theorem Zk7 (G:Glob K mg) (DD:Def K mg "_law_draw" Zfh ["_law_script", "_law_k"])
  (c_law_mix:Callee P w K mg base CX0 1 "_law_mix" ["_law_cell", "_law_place_here"] (Pu.spOf mg Zec K))
  (c_law_at:Callee P w K mg base CX0 1 "_law_at" ["_law_script", "_law_k"] (Pu.spOf mg Zek K))
  : Callee P w K mg base CX0 2 "_law_draw" ["_law_script", "_law_k"] (Pu.spOf mg Zib K):=by
 refine DD.ok (k:=1) Zlu (fun vs H Q E h=>Zay h (fun ds R X h=>?_)) (fun f cdv A outer s H vs Q E hr h=>?_)
 ·obtain ⟨ns,k,rfl,hk,hR⟩:=h
  rfl
 ·refine ⟨_,(Zag (Za3 (Zal (Pu.Zbq (K:=K) (show _ < cLine from hr.units0)) (Zat Zba (Own.Za4 c_law_at (hr.mono (by decide)) pass0 (Za (pv 0) (Za Zad Zaf))) Zad) Zad (nomark _))
   (Zah (Zas (Own.Za4 c_law_at (hr.mono (by decide)) pass0 (Za (pv 0) (Za (Zat Zbm Zad (pv 1)) Zaf)))))
   Zaq)
   (Zah (Zas (Own.Za4 c_law_mix (hr.mono (by decide)) pass0 (Za (Own.Za4 c_law_at (hr.mono (by decide)) pass0 (Za (pv 0) (Za Zad Zaf))) (Za (pv 1) Zaf)))))),Pu.Zbf (n:=2) h
   (Zaj (Za5 (Zak (Zbl (Zb (Zaw (Zaa (Zab 0) (Zaa Zac Zae))) Zac) Zac)) (Zav (Zaw (Zaa (Zab 0) (Zaa (Zbp Zac (Zab 1)) Zae)))) Zar)
    (Zav (Zaw (Zaa (Zaw (Zaa (Zab 0) (Zaa Zac Zae))) (Zaa (Zab 1) Zae))))) (by decide) (fun ds R X h=>?_)⟩
  obtain ⟨ns,k,rfl,hk,hR⟩:=h
  refine ⟨rfl,?_⟩
  refine ⟨ns,0,rfl,by decide,(by show (0:Int) < 2;decide),ite2 (fun _=>?_) (fun _=>?_)⟩
  ·exact ⟨ns,_,rfl,by omega,hR _⟩
  ·exact ⟨ns,1,rfl,by decide,_,_,rfl,hR _⟩
theorem Zjv (G:Glob K mg) (DD:Def K mg "_law_tuples" Zd2 ["_law_found", "_law_due"])
  (c_law_whole:Callee P w K mg base CX0 1 "_law_whole" ["_law_found"] (Pu.spOf mg Zd4 K))
  : Callee P w K mg base CX0 2 "_law_tuples" ["_law_found", "_law_due"] (Pu.spOf mg Zgn K):=by
 refine DD.ok (k:=1) sc_law_tuples (fun vs H Q E h=>Zay h (fun ds R X h=>?_)) (fun f cdv A outer s H vs Q E hr h=>?_)
 ·obtain ⟨ps,rfl,hz,hR⟩:=h
  rfl
 ·refine ⟨_,(Zag (Za3 (PW.pt (Zei (Zdv (Pu.Zds (K:=K) (Zan (Pu.Zdx (K:=K)) (by rfl) G.isinstance boot_isinstance (Za (pv 0) (Za (Zev (v:=.ty "list") rfl G.list boot_list rfl) Zaf))))) (Zc1 (Zal (Pu.Zgo (K:=K) (show _ < cLine from hr.units0)) (Zan (Own.Zax (K:=K)) (by rfl) G.len PySem.boot_len (Za (pv 0) Zaf)) (Zan (Own.Zax (K:=K)) (by rfl) G.len PySem.boot_len (Za (pv 1) Zaf)) (nomark _)))))
   (Zah (Zas Zd0))
   Zaq)
   (Zag (Zgj PassesOwn.never rfl (Zee rfl G.range (Za (Zan (Own.Zax (K:=K)) (by rfl) G.len PySem.boot_len (Za (pv 1) Zaf)) Zaf)) (Zcl (i:=2) sc_law_tuples.nd rfl (by first | exact Or.inl rfl | exact Or.inr rfl))
   (Zag (Za3 (PW.pt (Zei (Zdv (Pu.Zds (K:=K) (Zan (Pu.Zdx (K:=K)) (by rfl) G.isinstance boot_isinstance (Za (Zao (Own.Zai (K:=K)) (pv 0) (pv 2) (fun _ _=>rfl)) (Za (Zev (v:=.ty "tuple") rfl G.tuple boot_tuple rfl) Zaf))))) (Zc1 (Zal (Pu.Zgo (K:=K) (show _ < cLine from hr.units0)) (Zan (Own.Zax (K:=K)) (by rfl) G.len PySem.boot_len (Za (Zao (Own.Zai (K:=K)) (pv 0) (pv 2) (fun _ _=>rfl)) Zaf)) (Zan (Own.Zax (K:=K)) (by rfl) G.len PySem.boot_len (Za (Zao (Own.Zai (K:=K)) (pv 1) (pv 2) (fun _ _=>rfl)) Zaf)) (nomark _)))))
   (Zah (Zas Zd0))
   Zaq)
   (Zah (Zgj PassesOwn.never rfl (Zee rfl G.range (Za (Zan (Own.Zax (K:=K)) (by rfl) G.len PySem.boot_len (Za (Zao (Own.Zai (K:=K)) (pv 1) (pv 2) (fun _ _=>rfl)) Zaf)) Zaf)) (Zcl (i:=3) sc_law_tuples.nd rfl (by first | exact Or.inl rfl | exact Or.inr rfl))
   (Zah (Za3 (PW.pt (Zei (Zdv (Pu.Zds (K:=K) (Own.Za4 c_law_whole (hr.mono (by decide)) pass0 (Za (Zao (Own.Zai (K:=K)) (Zao (Own.Zai (K:=K)) (pv 0) (pv 2) (fun _ _=>rfl)) (pv 3) (fun _ _=>rfl)) Zaf)))) (Zc1 (Zal (Pu.Zgo (K:=K) (show _ < cLine from hr.units0)) (Zao (Own.Zai (K:=K)) (Zao (Own.Zai (K:=K)) (pv 0) (pv 2) (fun _ _=>rfl)) (pv 3) (fun _ _=>rfl)) (Zao (Own.Zai (K:=K)) (Zao (Own.Zai (K:=K)) (pv 1) (pv 2) (fun _ _=>rfl)) (pv 3) (fun _ _=>rfl)) (nomark _)))))
   (Zah (Zas Zd0))
   Zaq))))))
   (Zah (Zas Zd0)))),Pu.Zbf (n:=2) h
   (Zaj (Za5 (Zeq (Zel (Zef (Zh4 (Zaa (Zab 0) (Zaa Zjr Zae))))) (Zak (Zgc (Zbt (Zaa (Zab 0) Zae)) (Zbt (Zaa (Zab 1) Zae))))) (Zav Zdz) Zar)
    (Zaj (Zgl [2,3] (Zeb (Zaa (Zbt (Zaa (Zab 1) Zae)) Zae)) (Zam 2)
    (Zaj (Za5 (Zeq (Zel (Zef (Zh4 (Zaa (Zap (Zab 0) (Zab 2)) (Zaa Zjr Zae))))) (Zak (Zgc (Zbt (Zaa (Zap (Zab 0) (Zab 2)) Zae)) (Zbt (Zaa (Zap (Zab 1) (Zab 2)) Zae))))) (Zav Zdz) Zar)
    (Zgl [3] (Zeb (Zaa (Zbt (Zaa (Zap (Zab 1) (Zab 2)) Zae)) Zae)) (Zam 3)
    (Za5 (Zeq (Zel (Zef (Zaw (Zaa (Zap (Zap (Zab 0) (Zab 2)) (Zab 3)) Zae)))) (Zak (Zgc (Zap (Zap (Zab 0) (Zab 2)) (Zab 3)) (Zap (Zap (Zab 1) (Zab 2)) (Zab 3))))) (Zav Zdz) Zar))))
    (Zav Zdz))) (by decide) (fun ds R X h=>?_)⟩
  obtain ⟨ps,rfl,hz,hR⟩:=h
  refine ⟨rfl,?_⟩
  have hl:(ps.map prD).length=ps.length:=List.length_map ..
  refine ⟨_,.same _,iteF (iteNS rfl ?_)⟩
  refine ⟨⟨by omega,by omega⟩,Zg3 (fun i γ'=>∃ t,γ'=[some (.bor (.lst (ps.map prD))),some (.bor (.lst (ps.map prD))),none,t]) ⟨_,rfl⟩ ?_ ?_⟩
  ·rintro i γ' hi ⟨t,rfl⟩
   have hi':i < (((ps.map prD).length:Nat):Int).toNat:=hi
   have ez:(0:Int) + (i:Int)=(i:Int):=by omega
   have hb:i < ps.length:=by omega
   have ha:atI (ps.map prD) (0 + (i:Int))=some (prD ps[i]):=by rw [ez];exact Zp9 hb
   generalize ps[i]=q at ha
   refine ⟨_,ha,_,.same _,iteF ⟨_,ha,_,ha,?_⟩⟩
   refine ⟨_,ha,⟨(by show -(2 ^ 62)≤(2:Int);decide),(by show (2:Int) < 2 ^ 62;decide)⟩,Zg3 (fun j γ'=>∃ t,γ'=[some (.bor (.lst (ps.map prD))),some (.bor (.lst (ps.map prD))),some (.sh (.int (0 + (i:Int)))),t]) ⟨_,rfl⟩ ?_ ?_⟩
   ·rintro j γ' hj ⟨t,rfl⟩
    have hj2:j < 2:=hj
    obtain ⟨z,ea⟩:∃ z:Int,atI [D.int q.1,D.int q.2] (0 + (j:Int))=some (.int z):=by
     have:j=0∨j=1:=by omega
     rcases this with rfl | rfl
     ·exact ⟨_,rfl⟩
     ·exact ⟨_,rfl⟩
    exact ⟨_,ha,_,ea,z,rfl,iteF ⟨_,ha,_,ea,_,ha,_,ea,iteNS rfl ⟨_,rfl⟩⟩⟩
   ·rintro γ' ⟨t,rfl⟩
    exact ⟨_,rfl⟩
  ·rintro γ' ⟨t,rfl⟩
   exact hR
theorem Zjc (G:Glob K mg) (DD:Def K mg "_law_deed_is" Zdk ["_law_found", "_law_due"])
  (c_law_whole:Callee P w K mg base CX0 1 "_law_whole" ["_law_found"] (Pu.spOf mg Zd4 K))
  : Callee P w K mg base CX0 2 "_law_deed_is" ["_law_found", "_law_due"] (Pu.spOf mg Zd7 K):=by
 refine DD.ok (k:=1) sc_law_deed_is (fun vs H Q E h=>Zay h (fun ds R X h=>?_)) (fun f cdv A outer s H vs Q E hr h=>?_)
 ·obtain ⟨q,rfl,hz,hR⟩:=h
  rfl
 ·refine ⟨_,(Zag (Za3 (PW.pt (Zei (Zdv (Pu.Zds (K:=K) (Zan (Pu.Zdx (K:=K)) (by rfl) G.isinstance boot_isinstance (Za (pv 0) (Za (Zev (v:=.ty "tuple") rfl G.tuple boot_tuple rfl) Zaf))))) (Zei (Zal (Pu.Zgo (K:=K) (show _ < cLine from hr.units0)) (Zan (Own.Zax (K:=K)) (by rfl) G.len PySem.boot_len (Za (pv 0) Zaf)) (Zan (Own.Zax (K:=K)) (by rfl) G.len PySem.boot_len (Za (pv 1) Zaf)) (nomark _)) (Zc1 (Zdv (Pu.Zds (K:=K) (Zan (Pu.Zdx (K:=K)) (by rfl) G.isinstance boot_isinstance (Za (Zao (Own.Zai (K:=K)) (pv 0) Zad (fun _ _=>rfl)) (Za (Zev (v:=.ty "str") rfl G.str boot_str rfl) Zaf)))))))))
   (Zah (Zas Zd0))
   Zaq)
   (Zag (Za3 (Zal (Pu.Zgo (K:=K) (show _ < cLine from hr.units0)) (Zao (Own.Zai (K:=K)) (pv 0) Zad (fun _ _=>rfl)) (Zao (Own.Zai (K:=K)) (pv 1) Zad (fun _ _=>rfl)) (nomark _))
   (Zah (Zas Zd0))
   Zaq)
   (Zag (Zgj PassesOwn.never rfl (Zj5 rfl G.range (Za Zad (Za (Zan (Own.Zax (K:=K)) (by rfl) G.len PySem.boot_len (Za (pv 1) Zaf)) Zaf))) (Zcl (i:=2) sc_law_deed_is.nd rfl (by first | exact Or.inl rfl | exact Or.inr rfl))
   (Zah (Za3 (PW.pt (Zei (Zdv (Pu.Zds (K:=K) (Own.Za4 c_law_whole (hr.mono (by decide)) pass0 (Za (Zao (Own.Zai (K:=K)) (pv 0) (pv 2) (fun _ _=>rfl)) Zaf)))) (Zc1 (Zal (Pu.Zgo (K:=K) (show _ < cLine from hr.units0)) (Zao (Own.Zai (K:=K)) (pv 0) (pv 2) (fun _ _=>rfl)) (Zao (Own.Zai (K:=K)) (pv 1) (pv 2) (fun _ _=>rfl)) (nomark _)))))
   (Zah (Zas Zd0))
   Zaq)))
   (Zah (Zas Zd0))))),Pu.Zbf (n:=2) h
   (Zaj (Za5 (Zeq (Zel (Zef (Zh4 (Zaa (Zab 0) (Zaa Zjr Zae))))) (Zeq (Zak (Zgc (Zbt (Zaa (Zab 0) Zae)) (Zbt (Zaa (Zab 1) Zae)))) (Zel (Zef (Zh4 (Zaa (Zap (Zab 0) Zac) (Zaa Zjr Zae))))))) (Zav Zdz) Zar)
    (Zaj (Za5 (Zak (Zgc (Zap (Zab 0) Zac) (Zap (Zab 1) Zac))) (Zav Zdz) Zar)
    (Zaj (Zgl [2] (Zj8 (Zaa Zac (Zaa (Zbt (Zaa (Zab 1) Zae)) Zae))) (Zam 2)
    (Za5 (Zeq (Zel (Zef (Zaw (Zaa (Zap (Zab 0) (Zab 2)) Zae)))) (Zak (Zgc (Zap (Zab 0) (Zab 2)) (Zap (Zab 1) (Zab 2))))) (Zav Zdz) Zar))
    (Zav Zdz)))) (by decide) (fun ds R X h=>?_)⟩
  obtain ⟨q,rfl,hz,hR⟩:=h
  refine ⟨rfl,?_⟩
  have hl:(D.str q.1 :: q.2.map D.int).length=q.2.length + 1:=by rw [List.length_cons,List.length_map]
  rw [Zm0]
  show _
  rw [List.map_cons,Zhm]
  refine ⟨_,.same _,iteF (iteNS rfl ⟨_,Zcx _ _,_,.same _,iteF ⟨_,Zcx _ _,_,Zcx _ _,iteNS rfl ?_⟩⟩)⟩
  refine ⟨⟨by omega,by omega⟩,Zg3 (fun i γ'=>γ'=[some (.sh (dD q)),some (.sh (dD q)),none]) rfl ?_ ?_⟩
  ·rintro i γ' hi rfl
   have hi':i < q.2.length:=by
    have:i < ((((D.str q.1 :: q.2.map D.int).length:Nat):Int) - 1).toNat:=hi
    omega
   exact ⟨_,Zlo hi',_,rfl,iteF ⟨_,Zlo hi',_,Zlo hi',iteNS rfl rfl⟩⟩
  ·rintro γ' rfl
   exact hR
theorem Zl5 (G:Glob K mg) (DD:Def K mg "_law_step" Zft ["_law_now", "_law_deed_here"])
  (c_law_field_step:Callee P w K mg base CX0 1 "_law_field_step" ["_law_strips", "_law_deed_here"] (Pu.spS mg Zea K))
  (c_law_wish_step:Callee P w K mg base CX0 1 "_law_wish_step" ["_law_wishes", "_law_deed_here"] (Pu.spS mg Ze2 K))
  : Callee P w K mg base CX0 2 "_law_step" ["_law_now", "_law_deed_here"] (Pu.spS mg Zin K):=by
 refine DD.ok (k:=1) sc_law_step (fun vs H Q E h=>Pu.Zlt h (fun ds R X h=>?_)) (fun f cdv A outer s H vs Q E hr h=>?_)
 ·obtain ⟨f,w,ds,x,rfl,hz,hw,hR⟩:=h
  rfl
 ·refine ⟨_,(Zag (Za3 (PW.pt (Zei (Zal (Pu.Zbq (K:=K) (show _ < cLine from hr.units0)) (Zao (Own.Zai (K:=K)) (pv 1) Zad (fun _ _=>rfl)) Zbn (nomark _)) (Zc1 (Zal (Pu.Zbq (K:=K) (show _ < cLine from hr.units0)) (Zao (Own.Zai (K:=K)) (pv 1) Zad (fun _ _=>rfl)) Zbn (nomark _)))))
   (Zag (Pu.pz 2 sc_law_step.nd (Own.Za4 c_law_wish_step (hr.mono (by decide)) pass0 (Za (Zao (Own.Zai (K:=K)) (pv 0) Zad (fun _ _=>rfl)) (Za (pv 1) Zaf))))
   (Zah (Zas (Za0 (Za (Zao (Own.Zai (K:=K)) (pv 2) Zad (fun _ _=>rfl)) (Za (Zao (Own.Zai (K:=K)) (pv 0) Zad (fun _ _=>rfl)) (Za (Zao (Own.Zai (K:=K)) (pv 2) Zad (fun _ _=>rfl)) Zaf)))))))
   Zaq)
   (Zag (Pu.pz 2 sc_law_step.nd (Own.Za4 c_law_field_step (hr.mono (by decide)) pass0 (Za (Zao (Own.Zai (K:=K)) (pv 0) Zad (fun _ _=>rfl)) (Za (pv 1) Zaf))))
   (Zah (Zas (Za0 (Za (Zao (Own.Zai (K:=K)) (pv 2) Zad (fun _ _=>rfl)) (Za (Zao (Own.Zai (K:=K)) (pv 2) Zad (fun _ _=>rfl)) (Za (Zao (Own.Zai (K:=K)) (pv 0) Zad (fun _ _=>rfl)) Zaf)))))))),Pu.Zll (n:=2) h
   (Zaj (Za5 (Zeq (Zak (Zbl (Zap (Zab 1) Zac) Zbo)) (Zak (Zbl (Zap (Zab 1) Zac) Zbo))) (Zaj (Zaz 1 (Za2 (Zjy (Zaa (Zap (Zab 0) Zac) (Zaa (Zab 1) Zae))) (Zam 2)))
    (Zav (Za1 (Zaa (Zap (Zab 2) Zac) (Zaa (Zap (Zab 0) Zac) (Zaa (Zap (Zab 2) Zac) Zae)))))) Zar)
    (Zaj (Zaz 1 (Za2 (Zjy (Zaa (Zap (Zab 0) Zac) (Zaa (Zab 1) Zae))) (Zam 2)))
    (Zav (Za1 (Zaa (Zap (Zab 2) Zac) (Zaa (Zap (Zab 2) Zac) (Zaa (Zap (Zab 0) Zac) Zae))))))) (by decide) (fun ds R X h=>?_)⟩
  obtain ⟨f,w,ds,x,rfl,hz,hw,hR⟩:=h
  refine ⟨rfl,?_⟩
  have at1:atI (plD f :: plD w :: ds) 1=some (plD w):=Zi3 (by decide) rfl
  have land:∀ x:Dd,x.land=true→R (.own [.int (codeN (x.err f w)),plD (x.nf f w),plD (x.nw f w)])→R (.own [.int (codeN (x.err f [])),plD (x.fld' f),plD w]):=fun x h k=>by
   have e:=x.err_land h f w []
   have e2:x.wsh w=w:=by cases x<;>first | rfl | cases h
   unfold Dd.nf Dd.nw at k
   rw [e2,e,ite_self] at k
   unfold Dd.fld'
   exact k
  have wish:∀ x:Dd,x.land=false→R (.own [.int (codeN (x.err f w)),plD (x.nf f w),plD (x.nw f w)])→R (.own [.int (codeN (x.err [] w)),plD f,plD (x.wsh' w)]):=fun x h k=>by
   have e:=x.err_wish h f [] w
   have e2:x.fld f=f:=by cases x<;>first | rfl | cases h
   unfold Dd.nf Dd.nw at k
   rw [e2,e,ite_self] at k
   unfold Dd.wsh'
   exact k
  cases x with
  | sell p h=>exact ⟨_,rfl,_,rfl,_,Zcx _ _,f,.sell p h,rfl,rfl,hz,_,rfl,_,rfl,_,at1,by simp,land _ rfl hR⟩
  | part p h=>exact ⟨_,rfl,_,rfl,_,Zcx _ _,f,.part p h,rfl,rfl,hz,_,rfl,_,rfl,_,at1,by simp,land _ rfl hR⟩
  | unite p=>exact ⟨_,rfl,_,rfl,_,Zcx _ _,f,.unite p,rfl,rfl,hz,_,rfl,_,rfl,_,at1,by simp,land _ rfl hR⟩
  | wish a b=>exact ⟨_,rfl,_,at1,w,.wish a b,rfl,rfl,hw,_,rfl,_,Zcx _ _,_,rfl,by simp,wish _ rfl hR⟩
  | drop a b=>exact ⟨_,rfl,_,rfl,_,at1,w,.drop a b,rfl,rfl,hw,_,rfl,_,Zcx _ _,_,rfl,by simp,wish _ rfl hR⟩
theorem Zlv (G:Glob K mg) (DD:Def K mg "_law_said" Zfq ["_law_found", "_law_refusal", "_law_count"])
  (c_law_whole:Callee P w K mg base CX0 1 "_law_whole" ["_law_found"] (Pu.spOf mg Zd4 K))
  : Callee P w K mg base CX0 2 "_law_said" ["_law_found", "_law_refusal", "_law_count"] (Pu.spOf mg Zi2 K):=by
 refine DD.ok (k:=1) Zl (fun vs H Q E h=>Zay h (fun ds R X h=>?_)) (fun f cdv A outer s H vs Q E hr h=>?_)
 ·obtain ⟨n,c,rfl,hR⟩:=h
  rfl
 ·refine ⟨_,(Zag (Za3 (Zal (Pu.Zbq (K:=K) (show _ < cLine from hr.units0)) (pv 1) Zad (nomark _))
   (Zah (Zas (Zme (Zf9 (Pu.Zlk (K:=K) (show _ < cLine from hr.units0)) (Zao (Own.Zai (K:=K)) (pv 0) Zad (fun _ _=>rfl)) (Za0 (Za Zd0 Zaf)) (nomark _)) (Zme (Own.Za4 c_law_whole (hr.mono (by decide)) pass0 (Za (Zao (Own.Zai (K:=K)) (pv 0) Zad (fun _ _=>rfl)) Zaf)) (Zob (Zf9 (Pu.Zbq (K:=K) (show _ < cLine from hr.units0)) (Zao (Own.Zai (K:=K)) (pv 0) Zad (fun _ _=>rfl)) (pv 2) (nomark _)))))))
   Zaq)
   (Zah (Zas (Zf9 (Pu.Zlk (K:=K) (show _ < cLine from hr.units0)) (Zao (Own.Zai (K:=K)) (pv 0) Zad (fun _ _=>rfl)) (Zat Zdt (Za0 (Za Zd0 Zaf)) (Own.Zh0 (N':=["_law_k", "_law_refusal"]) (φ:=[none,some 1]) rfl (Own.CompOk.of (by rfl)) (Zj5 rfl G.range (Za Zad (Za Zad Zaf))) (fun _ _ _ _ _=>⟨(Zcl (i:=0) (show (["_law_k", "_law_refusal"]:List Str).Nodup from by decide +kernel) rfl (by first | exact Or.inl rfl | exact Or.inr rfl)),Own.Zj3,(Zf9 (Pu.Zbq (K:=K) (show _ < cLine from hr.units0)) (pv 0) (pv 1) (nomark _))⟩))) (nomark _))))),Pu.Zbf (n:=3) h
   (Zaj (Za5 (Zak (Zbl (Zab 1) Zac)) (Zav (Zjj (Znn (Zap (Zab 0) Zac) (Za1 (Zaa Zdz Zae))) (Zjj (Zaw (Zaa (Zap (Zab 0) Zac) Zae)) (Zbl (Zap (Zab 0) Zac) (Zab 2))))) Zar)
    (Zav (Znn (Zap (Zab 0) Zac) (Zdu (Za1 (Zaa Zdz Zae)) (Zif (SndI.c (Zj8 (Zaa Zac (Zaa Zac Zae)))) (Zam 0) Znv (Zbl (Zab 0) (Zab 1))))))) (by decide) (fun ds R X h=>?_)⟩
  obtain ⟨n,c,rfl,hR⟩:=h
  refine ⟨rfl,?_⟩
  refine ite2 (fun g=>?_) (fun g=>?_)
  ·have g':c=0:=of_decide_eq_true g
   subst g'
   refine ⟨_,rfl,by simp,[.bl true],[.bl true],rfl,rfl,rfl,rfl,?_⟩
   show if eqL [V.bl true] [V.bl true]=true then _ else _
   refine iteT ⟨_,rfl,_,rfl,iteT ⟨_,rfl,?_⟩⟩
   show R (.sh (.bl (decide ((if (0:Int)=0 then n else -1)=n))))
   rw [if_pos rfl,decide_eq_true rfl]
   exact hR
  ·have g':¬ c=0:=fun z=>g (decide_eq_true z)
   refine ⟨_,rfl,by simp,⟨by decide,by decide,by decide,by decide⟩,Zmf (n:=12) (fun i=>some (.bl (decide ((1:Int) + (i:Int)=c)))) (by decide) (fun i hi=>⟨_,rfl,rfl⟩) ?_⟩
   have ek:[D.bl true]++(List.range 12).filterMap (fun i:Nat=>some (D.bl (decide ((1:Int) + (i:Int)=c))))=(kind12 c).map D.bl:=by
    unfold kind12
    rw [if_neg g',List.map_cons,List.map_map]
    rfl
   refine ⟨rfl,rfl,(by show 1 + 12≤100000;decide),?_⟩
   rw [ek]
   refine ⟨(kind12 c).map V.bl,(kind12 c).map V.bl,Zlm _,Zlm _,Zl7 _,Zl7 _,?_⟩
   show R (.sh (.bl (eqL ((kind12 c).map V.bl) ((kind12 c).map V.bl))))
   rw [Zrl]
   exact hR
theorem Zkc (G:Glob K mg) (DD:Def K mg "_law_start" Zep ["_law_script", "_law_menu_here", "_law_many"])
  (c_law_at:Callee P w K mg base CX0 1 "_law_at" ["_law_script", "_law_k"] (Pu.spOf mg Zek K))
  (c_law_mix:Callee P w K mg base CX0 1 "_law_mix" ["_law_cell", "_law_place_here"] (Pu.spOf mg Zec K))
  (c_law_holder:Callee P w K mg base CX0 1 "_law_holder" ["_law_menu_here", "_law_k"] (Pu.spOf mg Zcu K))
  : Callee P w K mg base CX0 2 "_law_start" ["_law_script", "_law_menu_here", "_law_many"] (Pu.spOf mg Zg8 K):=by
 refine DD.ok (k:=1) sc_law_start (fun vs H Q E h=>Zay h (fun ds R X h=>?_)) (fun f cdv A outer s H vs Q E hr h=>?_)
 ·obtain ⟨ns,m,n,rfl,hM,h0,h1,hR⟩:=h
  rfl
 ·refine ⟨_,(Zag (Pu.pz 3 sc_law_start.nd (Own.Za4 c_law_at (hr.mono (by decide)) pass0 (Za (pv 0) (Za Zad Zaf))))
   (Zag (Pu.pz 4 sc_law_start.nd (Za0 Zaf))
   (Zag (Zgj PassesOwn.never rfl (Zee rfl G.range (Za (pv 2) Zaf)) (Zcl (i:=5) sc_law_start.nd rfl (by first | exact Or.inl rfl | exact Or.inr rfl))
   (Zag (Pu.pz 6 sc_law_start.nd (pv 3))
   (Own.Zen (Za3 (Zal (Pu.Zbq (K:=K) (show _ < cLine from hr.units0)) (Zat Zba (Own.Za4 c_law_at (hr.mono (by decide)) pass0 (Za (pv 0) (Za Zad Zaf))) Zad) Zad (nomark _))
   (Zah (Pu.pz 6 sc_law_start.nd (Own.Za4 c_law_mix (hr.mono (by decide)) pass0 (Za (Own.Za4 c_law_at (hr.mono (by decide)) pass0 (Za (pv 0) (Za Zad Zaf))) (Za (Zat Zbm Zad (pv 5)) Zaf)))))
   Zaq)
   (Zag (Pu.pz 7 sc_law_start.nd (Zat Zbm (Zao (Own.Zai (K:=K)) (pv 1) Zad (fun _ _=>rfl)) (Zat Zba (Zat Zbk (pv 6) (Zao (Own.Zai (K:=K)) (pv 1) Zad (fun _ _=>rfl))) (Zao (Own.Zai (K:=K)) (pv 1) Zad (fun _ _=>rfl)))))
   (Zag (Zbv (Zm9 PySem.F.plainAttrs_list PySem.F.slot_list_append PySem.F.type_list_append Zdy (pv 4) (Za (Zbh (Za (Own.Za4 c_law_holder (hr.mono (by decide)) pass0 (Za (pv 1) (Za (Zat Zba (pv 6) (Zao (Own.Zai (K:=K)) (pv 1) Zad (fun _ _=>rfl))) Zaf))) (Za (pv 7) Zaf))) Zaf)))
   (Zah (Pu.pz 3 sc_law_start.nd (Zat Zbk (Zat Zbk (pv 3) (Zao (Own.Zai (K:=K)) (pv 1) Zad (fun _ _=>rfl))) (Zao (Own.Zai (K:=K)) (pv 1) Zad (fun _ _=>rfl))))))))))
   (Zah (Zas (pv 4)))))),Pu.Zbf (n:=3) h
   (Zaj (Za2 (Zaw (Zaa (Zab 0) (Zaa Zac Zae))) (Zam 3))
    (Zaj (Za2 (Za1 Zae) (Zam 4))
    (Zaj (Zgl [5,6,7] (Zeb (Zaa (Zab 2) Zae)) (Zam 5)
    (Zaj (Zaz 3 (Za2 (Zab 3) (Zam 6)))
    (Zf5 (Za5 (Zak (Zbl (Zb (Zaw (Zaa (Zab 0) (Zaa Zac Zae))) Zac) Zac)) (Za2 (Zaw (Zaa (Zaw (Zaa (Zab 0) (Zaa Zac Zae))) (Zaa (Zbp Zac (Zab 5)) Zae))) (Zam 6)) Zar)
    (Zaj (Za2 (Zbp (Zap (Zab 1) Zac) (Zb (Zbj (Zab 6) (Zap (Zab 1) Zac)) (Zap (Zab 1) Zac))) (Zam 7))
    (Zaj (Zaz 7 (Zh2 4 (Zbi (Zaa (Zaw (Zaa (Zab 1) (Zaa (Zb (Zab 6) (Zap (Zab 1) Zac)) Zae))) (Zaa (Zab 7) Zae)))))
    (Za2 (Zbj (Zbj (Zab 3) (Zap (Zab 1) Zac)) (Zap (Zab 1) Zac)) (Zam 3)))))))
    (Zlw 4)))) (by decide) (fun ds R X h=>?_)⟩
  obtain ⟨ns,m,n,rfl,hM,h0,h1,hR⟩:=h
  refine ⟨rfl,?_⟩
  have hMM:=hM
  obtain ⟨a,b,c,d,e,rfl,ha,hb,hc,hd,he⟩:=hM
  refine ⟨ns,2,rfl,by decide,by simp,⟨by omega,by omega⟩,Zg3 (fun i γ'=>∃ (ps:List (Int×Int)) (r:Int),γ'=[some (.bor (.scr ns)),some (.bor (.lst (([a,b,c,d,e]:List Int).map D.int))),some (.sh (.int n)),some (.sh (.int r)),some (.own (ps.map prD)),none,none,none]∧Field ps∧ps.length=i) ⟨[],_,rfl,(fun q hq=>by cases hq),rfl⟩ ?_ ?_⟩
  ·rintro i γ' hi ⟨ps,r,rfl,hF,hl⟩
   have hlm:(ps.map prD).length=ps.length:=List.length_map ..
   have hi':i < n.toNat:=hi
   refine Ze8 (fun γ'=>∃ (v:Int) (t:Option S),γ'=[some (.bor (.scr ns)),some (.bor (.lst (([a,b,c,d,e]:List Int).map D.int))),some (.sh (.int n)),some (.sh (.int r)),some (.own (ps.map prD)),t,some (.sh (.int v)),none]) ?_ ?_
   ·refine ⟨ns,0,rfl,by decide,(by show (0:Int) < 2;decide),ite2 (fun _=>?_) (fun _=>⟨_,_,rfl⟩)⟩
    exact ⟨ns,1,rfl,by decide,_,_,rfl,_,_,rfl⟩
   ·rintro γ' ⟨v,t,rfl⟩
    have q1:=Int.emod_nonneg (v / a) (show d≠0 by omega)
    have q2:=Int.emod_lt_of_pos (v / a) (show 0 < d by omega)
    refine ⟨_,rfl,_,rfl,⟨by omega,by omega⟩,_,rfl,(by show 0 < d;omega),_,rfl,(by show 0 < a;omega),[a,b,c,d,e],_,rfl,hMM,fun h l1 l2 _=>⟨by simp,by omega,?_⟩⟩
    refine ⟨_,rfl,⟨by omega,by omega⟩,_,rfl,⟨by omega,by omega⟩,ps++[(h,e + v / a % d)],r / a / d,?_,fun q hq=>?_,by rw [List.length_append,hl];rfl⟩
    ·rw [List.map_append]
     rfl
    ·rcases List.mem_append.mp hq with hq | hq
     ·exact hF q hq
     ·rw [List.mem_singleton] at hq
      subst hq
      exact ⟨l1,l2,by show 1≤e + v / a % d;omega,by show e + v / a % d≤1000;omega⟩
  ·rintro γ' ⟨ps,r,rfl,hF,hl⟩
   exact hR ps hF hl
theorem Zlx (G:Glob K mg) (DD:Def K mg "_law_days" Zfm ["_law_script", "_law_most"])
  (c_law_mix:Callee P w K mg base CX0 1 "_law_mix" ["_law_cell", "_law_place_here"] (Pu.spOf mg Zec K))
  (c_law_at:Callee P w K mg base CX0 1 "_law_at" ["_law_script", "_law_k"] (Pu.spOf mg Zek K))
  : Callee P w K mg base CX0 2 "_law_days" ["_law_script", "_law_most"] (Pu.spOf mg Ziw K):=by
 refine DD.ok (k:=1) Zla (fun vs H Q E h=>Zay h (fun ds R X h=>?_)) (fun f cdv A outer s H vs Q E hr h=>?_)
 ·obtain ⟨ns,n,rfl,h0,h1,hR⟩:=h
  rfl
 ·refine ⟨_,(Zag (Za3 (Zal (Pu.Zbq (K:=K) (show _ < cLine from hr.units0)) (Zat Zba (Own.Za4 c_law_at (hr.mono (by decide)) pass0 (Za (pv 0) (Za Zad Zaf))) Zad) Zad (nomark _))
   (Zah (Zas (Zb9 (Pu.Zcc (K:=K)) (pv 0) (Zco Zad) (Zco (Zat Zbm Zad (pv 1))))))
   Zaq)
   (Zah (Zas (Own.Zh0 (N':=["_law_k", "_law_script"]) (φ:=[none,some 0]) rfl (Own.CompOk.of (by rfl)) (Zee rfl G.range (Za (Zat Zba (Own.Za4 c_law_at (hr.mono (by decide)) pass0 (Za (pv 0) (Za Zad Zaf))) (Zat Zbm (pv 1) Zad)) Zaf)) (fun _ _ _ _ _=>⟨(Zcl (i:=0) (show (["_law_k", "_law_script"]:List Str).Nodup from by decide +kernel) rfl (by first | exact Or.inl rfl | exact Or.inr rfl)),Own.Zj3,(Own.Za4 c_law_mix (hr.mono (by decide)) pass0 (Za (Own.Za4 c_law_at (hr.mono (by decide)) pass0 (Za (pv 1) (Za Zad Zaf))) (Za (Zat Zbm Zad (pv 0)) Zaf)))⟩))))),Pu.Zbf (n:=2) h
   (Zaj (Za5 (Zak (Zbl (Zb (Zaw (Zaa (Zab 0) (Zaa Zac Zae))) Zac) Zac)) (Zav (Zn1 (Zab 0) (Zcn Zac) (Zcn (Zbp Zac (Zab 1))))) Zar)
    (Zav (Zif (SndI.c (Zeb (Zaa (Zb (Zaw (Zaa (Zab 0) (Zaa Zac Zae))) (Zbp (Zab 1) Zac)) Zae))) (Zam 0) Znv (Zaw (Zaa (Zaw (Zaa (Zab 1) (Zaa Zac Zae))) (Zaa (Zbp Zac (Zab 0)) Zae)))))) (by decide) (fun ds R X h=>?_)⟩
  obtain ⟨ns,n,rfl,h0,h1,hR⟩:=h
  refine ⟨rfl,?_⟩
  refine ⟨ns,0,rfl,by decide,(by show (0:Int) < 2;decide),ite2 (fun _=>?_) (fun _=>?_)⟩
  ·refine hR _ ?_
   unfold Pu.cutD
   rw [List.length_take]
   have e3:HT.sIx ns.length 0 (some 3)=min 3 ns.length:=by
    rw [show (3:Int)=((3:Nat):Int) by rfl,HT.Zjt]
   have e2:HT.sIx ns.length ns.length (some (3 + n))=min (3 + n).toNat ns.length:=by
    rw [show (3 + n:Int)=(((3 + n).toNat:Nat):Int) by omega,HT.Zjt]
    rfl
   rw [e3,e2]
   omega
  ·refine ⟨ns,2,rfl,by decide,(by show 0 < n + 1;omega),?_⟩
   have q1:=Int.emod_nonneg (ns.getD (2:Int).toNat 0) (show n + 1≠0 by omega)
   have q2:=Int.emod_lt_of_pos (ns.getD (2:Int).toNat 0) (show 0 < n + 1 by omega)
   refine ⟨⟨by omega,by omega⟩,Zmf (fun i=>some (.int (mixP (ns.getD (1:Int).toNat 0) (200 + (0 + (i:Int)))))) (by omega) (fun i hi=>⟨ns,1,rfl,by decide,_,_,rfl,_,rfl,rfl⟩) ?_⟩
   have e:(List.range (ns.getD (2:Int).toNat 0 % (n + 1)).toNat).filterMap (fun i:Nat=>some (D.int (mixP (ns.getD (1:Int).toNat 0) (200 + (0 + (i:Int))))))=((List.range (ns.getD (2:Int).toNat 0 % (n + 1)).toNat).map fun i:Nat=>mixP (ns.getD (1:Int).toNat 0) (200 + (0 + (i:Int)))).map D.int:=by
    rw [List.filterMap_eq_map',List.map_map]
    rfl
   rw [e]
   refine hR _ ?_
   rw [List.length_map,List.length_range]
   omega
theorem Zlh (G:Glob K mg) (DD:Def K mg "_law_pair" Zfk ["_law_cell", "_law_menu_here"])
  (c_law_odd:Callee P w K mg base CX0 1 "_law_odd" ["_law_cell", "_law_good"] (Pu.spOf mg Zg5 K))
  (c_law_holder:Callee P w K mg base CX0 1 "_law_holder" ["_law_menu_here", "_law_k"] (Pu.spOf mg Zcu K))
  : Callee P w K mg base CX0 2 "_law_pair" ["_law_cell", "_law_menu_here"] (Pu.spOf mg Zf7 K):=by
 refine DD.ok (k:=1) sc_law_pair (fun vs H Q E h=>Zay h (fun ds R X h=>?_)) (fun f cdv A outer s H vs Q E hr h=>?_)
 ·obtain ⟨c,m,rfl,hM,hR⟩:=h
  rfl
 ·refine ⟨_,(Zag (Pu.pz 2 sc_law_pair.nd (Zao (Own.Zai (K:=K)) (Za0 (Za Zad (Za (Zao (Own.Zai (K:=K)) (pv 1) Zad (fun _ _=>rfl)) (Za (Zao (Own.Zai (K:=K)) (pv 1) Zad (fun _ _=>rfl)) (Za (Zao (Own.Zai (K:=K)) (pv 1) Zad (fun _ _=>rfl)) Zaf))))) (Zat Zba (pv 0) Zad) (fun _ _=>rfl)))
   (Zag (Pu.pz 3 sc_law_pair.nd (Zat Zba (Zat Zbk (pv 0) Zad) (pv 2)))
   (Zag (Pu.pz 4 sc_law_pair.nd (Zat Zba (Zat Zbm (Zat Zbm (pv 3) Zad) (Zat Zba (Zat Zbk (pv 0) Zad) (Zan (Zkq rfl) (by rfl) G.max boot_max (Za Zad (Za (Zat Zdg (pv 2) Zad) Zaf))))) (pv 2)))
   (Zag (Pu.pz 5 sc_law_pair.nd (Own.Za4 c_law_odd (hr.mono (by decide)) pass0 (Za (Zat Zbk (pv 0) Zad) (Za (Own.Za4 c_law_holder (hr.mono (by decide)) pass0 (Za (pv 1) (Za (pv 3) Zaf))) Zaf))))
   (Zah (Zas (Zbh (Za (pv 5) (Za (Own.Za4 c_law_odd (hr.mono (by decide)) pass0 (Za (Zat Zbk (pv 0) Zad) (Za (Own.Za4 c_law_holder (hr.mono (by decide)) pass0 (Za (pv 1) (Za (pv 4) Zaf))) Zaf))) Zaf))))))))),Pu.Zbf (n:=2) h
   (Zaj (Za2 (Zap (Za1 (Zaa Zac (Zaa (Zap (Zab 1) Zac) (Zaa (Zap (Zab 1) Zac) (Zaa (Zap (Zab 1) Zac) Zae))))) (Zb (Zab 0) Zac)) (Zam 2))
    (Zaj (Za2 (Zb (Zbj (Zab 0) Zac) (Zab 2)) (Zam 3))
    (Zaj (Za2 (Zb (Zbp (Zbp (Zab 3) Zac) (Zb (Zbj (Zab 0) Zac) (Zoy (Zaa Zac (Zaa (Zdi (Zab 2) Zac) Zae))))) (Zab 2)) (Zam 4))
    (Zaj (Za2 (Zaw (Zaa (Zbj (Zab 0) Zac) (Zaa (Zaw (Zaa (Zab 1) (Zaa (Zab 3) Zae))) Zae))) (Zam 5))
    (Zaz 5 (Zav (Zbi (Zaa (Zab 5) (Zaa (Zaw (Zaa (Zbj (Zab 0) Zac) (Zaa (Zaw (Zaa (Zab 1) (Zaa (Zab 4) Zae))) Zae))) Zae))))))))) (by decide) (fun ds R X h=>?_)⟩
  obtain ⟨c,m,rfl,hM,hR⟩:=h
  refine ⟨rfl,?_⟩
  have hMM:=hM
  obtain ⟨a,b,e,d,f,rfl,ha,hb,he,hd,hf⟩:=hM
  have h4:0≤c % 4∧c % 4 < 4:=by omega
  obtain ⟨pool,ep,hp⟩:∃ p:Int,atI [D.int 10,.int a,.int a,.int a] (c % 4)=some (.int p)∧1≤p∧p≤10:=by
   have:c % 4=0∨c % 4=1∨c % 4=2∨c % 4=3:=by omega
   rcases this with e | e | e | e<;>rw [e]
   ·exact ⟨10,rfl,by decide,by decide⟩
   ·exact ⟨a,rfl,ha⟩
   ·exact ⟨a,rfl,ha⟩
   ·exact ⟨a,rfl,ha⟩
  have hmx:0 < (if pool - 1 > 1 then pool - 1 else 1):=by split<;>omega
  refine ⟨_,rfl,_,rfl,_,rfl,by simp,(by show (0:Int) < 4;decide),_,ep,?_⟩
  refine ⟨⟨by decide,by decide⟩,(by show 0 < pool;omega),⟨by decide,by decide⟩,hmx,(by show 0 < pool;omega),?_⟩
  refine ⟨⟨by decide,by decide⟩,_,_,rfl,hMM,fun h1 _ _ _=>⟨_,_,rfl,fun v1=>?_⟩⟩
  exact ⟨⟨by decide,by decide⟩,_,_,rfl,hMM,fun h2 _ _ _=>⟨_,_,rfl,fun v2=>⟨by simp,hR v1 v2⟩⟩⟩
theorem Zh1 (G:Glob K mg) (DD:Pu.DefM K (Mk K (ExcR.clsOf mg "Village")) "__init__" "Village.__init__" Zc8 ["self", "strips"])
  (c_check_strips:Callee P w K mg base (ExcR.CXe P w) 2 "check_strips" ["strips"] (Pu.spOf mg Zfg K))
  : Pu.CalleeM P w K mg base (ExcR.CXe P w) 3 (Mk K (ExcR.clsOf mg "Village")) ["self", "strips"] (Pu.spW mg (Ze5 (ExcR.clsOf mg "Village")) K):=by
 refine Pu.DefM.okX DD (k:=2) Zir (fun vs H Q E h=>Pu.Ze (n:=1) h (fun o ss R X h=>?_)) (fun f cdv A outer s H vs Q E hr h=>?_)
 ·obtain ⟨x,ps,rfl,rfl,hz,hR⟩:=h
  rfl
 ·refine ⟨_,(Zag (Zbv (Own.Za4 c_check_strips (hr.mono (by decide)) ExcR.Za8 (Za (pv 1) Zaf)))
   (Zag (Zno (pv 0) (Za0 Zaf) rfl)
   (Zag (Zno (pv 0) (Za0 (Za (Zeh (Pu.Zed (K:=K)) (by rfl) G.list boot_list (Za (pv 1) Zaf)) Zaf)) rfl)
   (Zah (Zno (pv 0) (Za0 (Za (Za0 Zaf) Zaf)) rfl))))),Pu.Zd8 (n:=1) h
   (Zaj (Zcr (Zca (Zaa (Zab 1) Zae)))
    (Zaj (Zls 0 G.cl_Village G.n_Village_book Ziu (Za1 Zae))
    (Zaj (Zls 0 G.cl_Village G.n_Village_fields Zgw (Za1 (Zaa (Ziv (Zaa (Zab 1) Zae)) Zae)))
    (Zls 0 G.cl_Village G.n_Village_wished Zgt (Za1 (Zaa (Za1 Zae) Zae)))))) (by decide) (fun o ss R X h=>?_)⟩
  obtain ⟨x,ps,rfl,rfl,hz,hR⟩:=h
  refine ⟨rfl,?_⟩
  refine ⟨ps,rfl,hz,?_⟩
  cases e:stripE ps with
  | some c=>
   rw [e] at hR
   exact ⟨_,rfl,⟨rfl,by simp⟩,hR⟩
  | none=>
   rw [e] at hR
   refine ⟨by simp,rfl,rfl,by decide,fun b1=>?_⟩
   refine ⟨rfl,by simp,rfl,rfl,by decide,fun b2=>?_⟩
   refine ⟨by simp,by simp,rfl,rfl,by decide,fun b3=>?_⟩
   exact ⟨_,rfl,⟨rfl,by simp⟩,hR b1 b2 b3⟩
theorem Zix (G:Glob K mg) (DD:Pu.DefM K (Meth K (ExcR.clsOf mg "Village") "sell") "sell" "Village.sell" Zc6 ["self", "place", "holder"])
  (c_Village_check_room:Pu.CalleeM P w K mg base (ExcR.CXe P w) 1 (Meth K (ExcR.clsOf mg "Village") "check_room") ["self"] (Pu.spOf mg (Za6 (ExcR.clsOf mg "Village")) K))
  (c_sold:Callee P w K mg base (ExcR.CXe P w) 2 "sold" ["strips", "place", "holder"] (Pu.spOf mg Znp K))
  (c_Village_enter:Pu.CalleeM P w K mg base CX0 1 (Meth K (ExcR.clsOf mg "Village") "enter") ["self", "deed", "field", "wishes"] (Pu.spW mg (Zbw (ExcR.clsOf mg "Village")) K))
  (c_Village_strips:Pu.CalleeM P w K mg base CX0 1 (Meth K (ExcR.clsOf mg "Village") "strips") ["self"] (Pu.spOf mg (Zbd (ExcR.clsOf mg "Village")) K))
  (c_Village_wishes:Pu.CalleeM P w K mg base CX0 1 (Meth K (ExcR.clsOf mg "Village") "wishes") ["self"] (Pu.spOf mg (Zbb (ExcR.clsOf mg "Village")) K))
  : Pu.CalleeM P w K mg base (ExcR.CXe P w) 3 (Meth K (ExcR.clsOf mg "Village") "sell") ["self", "place", "holder"] (Pu.spW mg (Zfb (ExcR.clsOf mg "Village")) K):=by
 refine Pu.DefM.okX DD (k:=2) sc_Village_sell (fun vs H Q E h=>Pu.Ze (n:=2) h (fun o ss R X h=>?_)) (fun f cdv A outer s H vs Q E hr h=>?_)
 ·obtain ⟨x,b1,b2,b3,bk,fs,ws,f,w,p,h,rfl,rfl,hb,hf,hw,hz,hR⟩:=h
  rfl
 ·refine ⟨_,(Zag (Zbv (Pu.Zb8 c_Village_check_room G.cl_Village (hr.mono (by decide)) ExcR.Za8 (pv 0)))
   (Zag (Pu.pz 3 sc_Village_sell.nd (Own.Za4 c_sold (hr.mono (by decide)) ExcR.Za8 (Za (Pu.Zb8 c_Village_strips G.cl_Village (hr.mono (by decide)) pass0 (pv 0)) (Za (pv 1) (Za (pv 2) Zaf)))))
   (Zah (Zas (Pu.Zf2 c_Village_enter G.cl_Village (hr.mono (by decide)) pass0 (pv 0) (Za (Zbh (Za Zbn (Za (pv 1) (Za (pv 2) Zaf)))) (Za (pv 3) (Za (Pu.Zb8 c_Village_wishes G.cl_Village (hr.mono (by decide)) pass0 (pv 0)) Zaf)))))))),Pu.Zd8 (n:=2) h
   (Zaj (Zcr (Zh7 Zbe (Zab 0) Zae))
    (Zaj (Za2 (Zca (Zaa (Zce Zbr (Zab 0) Zae) (Zaa (Zab 1) (Zaa (Zab 2) Zae)))) (Zam 3))
    (Zaz 2 (Zaz 1 (Zaz 3 (Zch (Zgk 0 Zb6 (Zaa (Zbi (Zaa Zbo (Zaa (Zab 1) (Zaa (Zab 2) Zae)))) (Zaa (Zab 3) (Zaa (Zce Zbs (Zab 0) Zae) Zae)))))))))) (by decide) (fun o ss R X h=>?_)⟩
  obtain ⟨x,b1,b2,b3,bk,fs,ws,f,w,p,h,rfl,rfl,hb,hf,hw,hz,hR⟩:=h
  refine ⟨rfl,?_⟩
  unfold sellE at hR
  refine ⟨rfl,rfl,bk,fs++[f],ws++[w],rfl,?_⟩
  unfold roomE
  by_cases c:100≤bk.length
  ·rw [if_pos c] at hR ⊢
   exact ⟨_,rfl,⟨rfl,by simp⟩,hR⟩
  ·rw [if_neg c] at hR ⊢
   refine ⟨rfl,rfl,bk,fs,ws++[w],f,rfl,f,p,h,rfl,hz,?_⟩
   cases e:soldE f p h with
   | some c=>
    rw [e] at hR
    exact ⟨_,rfl,⟨rfl,by simp⟩,hR⟩
   | none=>
    rw [e] at hR
    refine ⟨rfl,rfl,by simp,rfl,rfl,bk,fs++[f],ws,w,rfl,?_⟩
    exact ⟨x,b1,b2,b3,bk,fs++[f],ws++[w],("sell",[p,h]),soldL f p h,w,rfl,rfl,hb,by rw [List.length_append];simp;omega,by rw [List.length_append];simp;omega,_,rfl,⟨rfl,by simp⟩,hR⟩
theorem Zhr (G:Glob K mg) (DD:Pu.DefM K (Meth K (ExcR.clsOf mg "Village") "part") "part" "Village.part" Zc7 ["self", "place", "width"])
  (c_Village_check_room:Pu.CalleeM P w K mg base (ExcR.CXe P w) 1 (Meth K (ExcR.clsOf mg "Village") "check_room") ["self"] (Pu.spOf mg (Za6 (ExcR.clsOf mg "Village")) K))
  (c_parted:Callee P w K mg base (ExcR.CXe P w) 2 "parted" ["strips", "place", "width"] (Pu.spOf mg Zkb K))
  (c_Village_enter:Pu.CalleeM P w K mg base CX0 1 (Meth K (ExcR.clsOf mg "Village") "enter") ["self", "deed", "field", "wishes"] (Pu.spW mg (Zbw (ExcR.clsOf mg "Village")) K))
  (c_Village_strips:Pu.CalleeM P w K mg base CX0 1 (Meth K (ExcR.clsOf mg "Village") "strips") ["self"] (Pu.spOf mg (Zbd (ExcR.clsOf mg "Village")) K))
  (c_Village_wishes:Pu.CalleeM P w K mg base CX0 1 (Meth K (ExcR.clsOf mg "Village") "wishes") ["self"] (Pu.spOf mg (Zbb (ExcR.clsOf mg "Village")) K))
  : Pu.CalleeM P w K mg base (ExcR.CXe P w) 3 (Meth K (ExcR.clsOf mg "Village") "part") ["self", "place", "width"] (Pu.spW mg (Zfc (ExcR.clsOf mg "Village")) K):=by
 refine Pu.DefM.okX DD (k:=2) sc_Village_part (fun vs H Q E h=>Pu.Ze (n:=2) h (fun o ss R X h=>?_)) (fun f cdv A outer s H vs Q E hr h=>?_)
 ·obtain ⟨x,b1,b2,b3,bk,fs,ws,f,w,p,h,rfl,rfl,hb,hf,hw,hz,hR⟩:=h
  rfl
 ·refine ⟨_,(Zag (Zbv (Pu.Zb8 c_Village_check_room G.cl_Village (hr.mono (by decide)) ExcR.Za8 (pv 0)))
   (Zag (Pu.pz 3 sc_Village_part.nd (Own.Za4 c_parted (hr.mono (by decide)) ExcR.Za8 (Za (Pu.Zb8 c_Village_strips G.cl_Village (hr.mono (by decide)) pass0 (pv 0)) (Za (pv 1) (Za (pv 2) Zaf)))))
   (Zah (Zas (Pu.Zf2 c_Village_enter G.cl_Village (hr.mono (by decide)) pass0 (pv 0) (Za (Zbh (Za Zbn (Za (pv 1) (Za (pv 2) Zaf)))) (Za (pv 3) (Za (Pu.Zb8 c_Village_wishes G.cl_Village (hr.mono (by decide)) pass0 (pv 0)) Zaf)))))))),Pu.Zd8 (n:=2) h
   (Zaj (Zcr (Zh7 Zbe (Zab 0) Zae))
    (Zaj (Za2 (Zca (Zaa (Zce Zbr (Zab 0) Zae) (Zaa (Zab 1) (Zaa (Zab 2) Zae)))) (Zam 3))
    (Zaz 2 (Zaz 1 (Zaz 3 (Zch (Zgk 0 Zb6 (Zaa (Zbi (Zaa Zbo (Zaa (Zab 1) (Zaa (Zab 2) Zae)))) (Zaa (Zab 3) (Zaa (Zce Zbs (Zab 0) Zae) Zae)))))))))) (by decide) (fun o ss R X h=>?_)⟩
  obtain ⟨x,b1,b2,b3,bk,fs,ws,f,w,p,h,rfl,rfl,hb,hf,hw,hz,hR⟩:=h
  refine ⟨rfl,?_⟩
  unfold partRE at hR
  refine ⟨rfl,rfl,bk,fs++[f],ws++[w],rfl,?_⟩
  unfold roomE
  by_cases c:100≤bk.length
  ·rw [if_pos c] at hR ⊢
   exact ⟨_,rfl,⟨rfl,by simp⟩,hR⟩
  ·rw [if_neg c] at hR ⊢
   refine ⟨rfl,rfl,bk,fs,ws++[w],f,rfl,f,p,h,rfl,hz,?_⟩
   cases e:partE f p h with
   | some c=>
    rw [e] at hR
    exact ⟨_,rfl,⟨rfl,by simp⟩,hR⟩
   | none=>
    rw [e] at hR
    refine ⟨rfl,rfl,by simp,rfl,rfl,bk,fs++[f],ws,w,rfl,?_⟩
    exact ⟨x,b1,b2,b3,bk,fs++[f],ws++[w],("part",[p,h]),partL f p h,w,rfl,rfl,hb,by rw [List.length_append];simp;omega,by rw [List.length_append];simp;omega,_,rfl,⟨rfl,by simp⟩,hR⟩
theorem Zhd (G:Glob K mg) (DD:Pu.DefM K (Meth K (ExcR.clsOf mg "Village") "unite") "unite" "Village.unite" Zcy ["self", "place"])
  (c_Village_check_room:Pu.CalleeM P w K mg base (ExcR.CXe P w) 1 (Meth K (ExcR.clsOf mg "Village") "check_room") ["self"] (Pu.spOf mg (Za6 (ExcR.clsOf mg "Village")) K))
  (c_united:Callee P w K mg base (ExcR.CXe P w) 2 "united" ["strips", "place"] (Pu.spOf mg Zkz K))
  (c_Village_enter:Pu.CalleeM P w K mg base CX0 1 (Meth K (ExcR.clsOf mg "Village") "enter") ["self", "deed", "field", "wishes"] (Pu.spW mg (Zbw (ExcR.clsOf mg "Village")) K))
  (c_Village_strips:Pu.CalleeM P w K mg base CX0 1 (Meth K (ExcR.clsOf mg "Village") "strips") ["self"] (Pu.spOf mg (Zbd (ExcR.clsOf mg "Village")) K))
  (c_Village_wishes:Pu.CalleeM P w K mg base CX0 1 (Meth K (ExcR.clsOf mg "Village") "wishes") ["self"] (Pu.spOf mg (Zbb (ExcR.clsOf mg "Village")) K))
  : Pu.CalleeM P w K mg base (ExcR.CXe P w) 3 (Meth K (ExcR.clsOf mg "Village") "unite") ["self", "place"] (Pu.spW mg (Ze1 (ExcR.clsOf mg "Village")) K):=by
 refine Pu.DefM.okX DD (k:=2) sc_Village_unite (fun vs H Q E h=>Pu.Ze (n:=1) h (fun o ss R X h=>?_)) (fun f cdv A outer s H vs Q E hr h=>?_)
 ·obtain ⟨x,b1,b2,b3,bk,fs,ws,f,w,p,rfl,rfl,hb,hf,hw,hz,hR⟩:=h
  rfl
 ·refine ⟨_,(Zag (Zbv (Pu.Zb8 c_Village_check_room G.cl_Village (hr.mono (by decide)) ExcR.Za8 (pv 0)))
   (Zag (Pu.pz 2 sc_Village_unite.nd (Own.Za4 c_united (hr.mono (by decide)) ExcR.Za8 (Za (Pu.Zb8 c_Village_strips G.cl_Village (hr.mono (by decide)) pass0 (pv 0)) (Za (pv 1) Zaf))))
   (Zah (Zas (Pu.Zf2 c_Village_enter G.cl_Village (hr.mono (by decide)) pass0 (pv 0) (Za (Zbh (Za Zbn (Za (pv 1) Zaf))) (Za (pv 2) (Za (Pu.Zb8 c_Village_wishes G.cl_Village (hr.mono (by decide)) pass0 (pv 0)) Zaf)))))))),Pu.Zd8 (n:=1) h
   (Zaj (Zcr (Zh7 Zbe (Zab 0) Zae))
    (Zaj (Za2 (Zca (Zaa (Zce Zbr (Zab 0) Zae) (Zaa (Zab 1) Zae))) (Zam 2))
    (Zaz 1 (Zaz 2 (Zch (Zgk 0 Zb6 (Zaa (Zbi (Zaa Zbo (Zaa (Zab 1) Zae))) (Zaa (Zab 2) (Zaa (Zce Zbs (Zab 0) Zae) Zae))))))))) (by decide) (fun o ss R X h=>?_)⟩
  obtain ⟨x,b1,b2,b3,bk,fs,ws,f,w,p,rfl,rfl,hb,hf,hw,hz,hR⟩:=h
  refine ⟨rfl,?_⟩
  unfold uniteE at hR
  refine ⟨rfl,rfl,bk,fs++[f],ws++[w],rfl,?_⟩
  unfold roomE
  by_cases c:100≤bk.length
  ·rw [if_pos c] at hR ⊢
   exact ⟨_,rfl,⟨rfl,by simp⟩,hR⟩
  ·rw [if_neg c] at hR ⊢
   refine ⟨rfl,rfl,bk,fs,ws++[w],f,rfl,f,p,rfl,hz,?_⟩
   cases e:uniE f p with
   | some c=>
    rw [e] at hR
    exact ⟨_,rfl,⟨rfl,by simp⟩,hR⟩
   | none=>
    rw [e] at hR
    refine ⟨rfl,rfl,by simp,rfl,rfl,bk,fs++[f],ws,w,rfl,?_⟩
    exact ⟨x,b1,b2,b3,bk,fs++[f],ws++[w],("unite",[p]),uniL f p,w,rfl,rfl,hb,by rw [List.length_append];simp;omega,by rw [List.length_append];simp;omega,_,rfl,⟨rfl,by simp⟩,hR⟩
theorem Ziz (G:Glob K mg) (DD:Pu.DefM K (Meth K (ExcR.clsOf mg "Village") "wish") "wish" "Village.wish" Zd ["self", "ahead", "behind"])
  (c_Village_check_room:Pu.CalleeM P w K mg base (ExcR.CXe P w) 1 (Meth K (ExcR.clsOf mg "Village") "check_room") ["self"] (Pu.spOf mg (Za6 (ExcR.clsOf mg "Village")) K))
  (c_with_wish:Callee P w K mg base (ExcR.CXe P w) 2 "with_wish" ["wishes", "ahead", "behind"] (Pu.spOf mg Zh K))
  (c_Village_enter:Pu.CalleeM P w K mg base CX0 1 (Meth K (ExcR.clsOf mg "Village") "enter") ["self", "deed", "field", "wishes"] (Pu.spW mg (Zbw (ExcR.clsOf mg "Village")) K))
  (c_Village_wishes:Pu.CalleeM P w K mg base CX0 1 (Meth K (ExcR.clsOf mg "Village") "wishes") ["self"] (Pu.spOf mg (Zbb (ExcR.clsOf mg "Village")) K))
  (c_Village_strips:Pu.CalleeM P w K mg base CX0 1 (Meth K (ExcR.clsOf mg "Village") "strips") ["self"] (Pu.spOf mg (Zbd (ExcR.clsOf mg "Village")) K))
  : Pu.CalleeM P w K mg base (ExcR.CXe P w) 3 (Meth K (ExcR.clsOf mg "Village") "wish") ["self", "ahead", "behind"] (Pu.spW mg (Zfa (ExcR.clsOf mg "Village")) K):=by
 refine Pu.DefM.okX DD (k:=2) sc_Village_wish (fun vs H Q E h=>Pu.Ze (n:=2) h (fun o ss R X h=>?_)) (fun f cdv A outer s H vs Q E hr h=>?_)
 ·obtain ⟨x,b1,b2,b3,bk,fs,ws,f,w,p,h,rfl,rfl,hb,hf,hw,hz,hR⟩:=h
  rfl
 ·refine ⟨_,(Zag (Zbv (Pu.Zb8 c_Village_check_room G.cl_Village (hr.mono (by decide)) ExcR.Za8 (pv 0)))
   (Zag (Pu.pz 3 sc_Village_wish.nd (Own.Za4 c_with_wish (hr.mono (by decide)) ExcR.Za8 (Za (Pu.Zb8 c_Village_wishes G.cl_Village (hr.mono (by decide)) pass0 (pv 0)) (Za (pv 1) (Za (pv 2) Zaf)))))
   (Zah (Zas (Pu.Zf2 c_Village_enter G.cl_Village (hr.mono (by decide)) pass0 (pv 0) (Za (Zbh (Za Zbn (Za (pv 1) (Za (pv 2) Zaf)))) (Za (Pu.Zb8 c_Village_strips G.cl_Village (hr.mono (by decide)) pass0 (pv 0)) (Za (pv 3) Zaf)))))))),Pu.Zd8 (n:=2) h
   (Zaj (Zcr (Zh7 Zbe (Zab 0) Zae))
    (Zaj (Za2 (Zca (Zaa (Zce Zbs (Zab 0) Zae) (Zaa (Zab 1) (Zaa (Zab 2) Zae)))) (Zam 3))
    (Zaz 2 (Zaz 1 (Zaz 3 (Zch (Zgk 0 Zb6 (Zaa (Zbi (Zaa Zbo (Zaa (Zab 1) (Zaa (Zab 2) Zae)))) (Zaa (Zce Zbr (Zab 0) Zae) (Zaa (Zab 3) Zae)))))))))) (by decide) (fun o ss R X h=>?_)⟩
  obtain ⟨x,b1,b2,b3,bk,fs,ws,f,w,p,h,rfl,rfl,hb,hf,hw,hz,hR⟩:=h
  refine ⟨rfl,?_⟩
  unfold vwishE at hR
  refine ⟨rfl,rfl,bk,fs++[f],ws++[w],rfl,?_⟩
  unfold roomE
  by_cases c:100≤bk.length
  ·rw [if_pos c] at hR ⊢
   exact ⟨_,rfl,⟨rfl,by simp⟩,hR⟩
  ·rw [if_neg c] at hR ⊢
   refine ⟨rfl,rfl,bk,fs++[f],ws,w,rfl,w,p,h,rfl,hz,?_⟩
   cases e:wishE w p h with
   | some c=>
    rw [e] at hR
    exact ⟨_,rfl,⟨rfl,by simp⟩,hR⟩
   | none=>
    rw [e] at hR
    refine ⟨rfl,rfl,by simp,rfl,rfl,bk,fs,ws++[w],f,rfl,?_⟩
    exact ⟨x,b1,b2,b3,bk,fs++[f],ws++[w],("wish",[p,h]),f,w++[(p,h)],rfl,rfl,hb,by rw [List.length_append];simp;omega,by rw [List.length_append];simp;omega,_,rfl,⟨rfl,by simp⟩,hR⟩
theorem Zi6 (G:Glob K mg) (DD:Def K mg "_law_book_is" Zdo ["_law_found", "_law_due"])
  (c_law_deed_is:Callee P w K mg base CX0 2 "_law_deed_is" ["_law_found", "_law_due"] (Pu.spOf mg Zd7 K))
  : Callee P w K mg base CX0 3 "_law_book_is" ["_law_found", "_law_due"] (Pu.spOf mg Zf1 K):=by
 refine DD.ok (k:=2) sc_law_book_is (fun vs H Q E h=>Zay h (fun ds R X h=>?_)) (fun f cdv A outer s H vs Q E hr h=>?_)
 ·obtain ⟨bk,rfl,hq,hz,hR⟩:=h
  rfl
 ·refine ⟨_,(Zag (Za3 (PW.pt (Zei (Zdv (Pu.Zds (K:=K) (Zan (Pu.Zdx (K:=K)) (by rfl) G.isinstance boot_isinstance (Za (pv 0) (Za (Zev (v:=.ty "list") rfl G.list boot_list rfl) Zaf))))) (Zc1 (Zal (Pu.Zgo (K:=K) (show _ < cLine from hr.units0)) (Zan (Own.Zax (K:=K)) (by rfl) G.len PySem.boot_len (Za (pv 0) Zaf)) (Zan (Own.Zax (K:=K)) (by rfl) G.len PySem.boot_len (Za (pv 1) Zaf)) (nomark _)))))
   (Zah (Zas Zd0))
   Zaq)
   (Zag (Zgj PassesOwn.never rfl (Zee rfl G.range (Za (Zan (Own.Zax (K:=K)) (by rfl) G.len PySem.boot_len (Za (pv 1) Zaf)) Zaf)) (Zcl (i:=2) sc_law_book_is.nd rfl (by first | exact Or.inl rfl | exact Or.inr rfl))
   (Zah (Za3 (Zdv (Pu.Zds (K:=K) (Own.Za4 c_law_deed_is (hr.mono (by decide)) pass0 (Za (Zao (Own.Zai (K:=K)) (pv 0) (pv 2) (fun _ _=>rfl)) (Za (Zao (Own.Zai (K:=K)) (pv 1) (pv 2) (fun _ _=>rfl)) Zaf)))))
   (Zah (Zas Zd0))
   Zaq)))
   (Zah (Zas Zd0)))),Pu.Zbf (n:=2) h
   (Zaj (Za5 (Zeq (Zel (Zef (Zh4 (Zaa (Zab 0) (Zaa Zjr Zae))))) (Zak (Zgc (Zbt (Zaa (Zab 0) Zae)) (Zbt (Zaa (Zab 1) Zae))))) (Zav Zdz) Zar)
    (Zaj (Zgl [2] (Zeb (Zaa (Zbt (Zaa (Zab 1) Zae)) Zae)) (Zam 2)
    (Za5 (Zel (Zef (Zaw (Zaa (Zap (Zab 0) (Zab 2)) (Zaa (Zap (Zab 1) (Zab 2)) Zae))))) (Zav Zdz) Zar))
    (Zav Zdz))) (by decide) (fun ds R X h=>?_)⟩
  obtain ⟨bk,rfl,hq,hz,hR⟩:=h
  refine ⟨rfl,?_⟩
  have hl:(bk.map dD).length=bk.length:=List.length_map ..
  refine ⟨_,.same _,iteF (iteNS rfl ?_)⟩
  refine ⟨⟨by omega,by omega⟩,Zg3 (fun i γ'=>γ'=[some (.bor (.lst (bk.map dD))),some (.bor (.lst (bk.map dD))),none]) rfl ?_ ?_⟩
  ·rintro i γ' hi rfl
   have hi':i < (((bk.map dD).length:Nat):Int).toNat:=hi
   have ez:(0:Int) + (i:Int)=(i:Int):=by omega
   have hb:i < bk.length:=by omega
   have ha:atI (bk.map dD) (0 + (i:Int))=some (dD bk[i]):=by rw [ez];exact Zp9 hb
   refine ⟨_,ha,_,ha,bk[i],?_,hq _ (List.getElem_mem hb),iteF rfl⟩
   show [(arg (dD bk[i])).d,(arg (dD bk[i])).d]=_
   rw [Zhm]
   rfl
  ·rintro γ' rfl
   exact hR
theorem Zly (G:Glob K mg) (DD:Def K mg "_law_back" Zfr ["_law_village", "_law_past"])
  (c_Village_take_back:Pu.CalleeM P w K mg base (ExcR.CXe P w) 1 (Meth K (ExcR.clsOf mg "Village") "take_back") ["self"] (Pu.spW mg (Zdh (ExcR.clsOf mg "Village")) K))
  (c_law_deed_is:Callee P w K mg base CX0 2 "_law_deed_is" ["_law_found", "_law_due"] (Pu.spOf mg Zd7 K))
  : Callee P w K mg base CX0 3 "_law_back" ["_law_village", "_law_past"] (Pu.spW2 mg (Ziy (ExcR.clsOf mg "Village")) K):=by
 refine DD.ok (k:=2) sc_law_back (fun vs H Q E h=>Pu.Zmk (n:=0) h (fun o1 o2 ss R X h=>?_)) (fun f cdv A outer s H vs Q E hr h=>?_)
 ·obtain ⟨x,b1,b2,b3,a,f0,hs,rfl,rfl,rfl,hz,hR⟩:=h
  rfl
 ·refine ⟨_,(Zag (Pu.pz 2 sc_law_back.nd (Zbh Zaf))
   (Zag (Pu.pz 3 sc_law_back.nd (Za0 Zaf))
   (Own.Zen (ExcR.Zqd (fun pins D=>(Zah (Pu.pz 2 sc_law_back.nd (Pu.Zph c_Village_take_back G.cl_Village (hr.mono (by decide)) (ExcR.Zjg (pins:=pins) (D:=D) (i:=4) rfl rfl sc_law_back.nd rfl rfl rfl G.m_NothingDone (by decide) (fun a=>(Zah (Pu.pz 3 sc_law_back.nd (Za0 (Za (Zan (ExcR.Zbc (K:=K)) (by rfl) G.isinstance boot_isinstance (Za (pv 4) (Za (ExcR.Zeg G.m_MeldError) Zaf))) (Za (Zan (ExcR.Zbc (K:=K)) (by rfl) G.isinstance boot_isinstance (Za (pv 4) (Za (Zev (v:=.ty "ValueError") rfl G.ValueError (by decide +kernel) rfl) Zaf))) Zaf))))))) (pv 0))))))
   (Zag (Za3 (Zal (Pu.Zbq (K:=K) (show _ < cLine from hr.units0)) (Zan (Own.Zax (K:=K)) (by rfl) G.len PySem.boot_len (Za (pv 1) Zaf)) Zad (nomark _))
   (Zah (Zas (Zf9 (Pu.Zlk (K:=K) (show _ < cLine from hr.units0)) (pv 3) (Za0 (Za Zd0 (Za Zd0 Zaf))) (nomark _))))
   Zaq)
   (Zag (Pu.pz 5 sc_law_back.nd (Zao (Own.Zai (K:=K)) (Zmi PySem.F.plainAttrs_list PySem.F.slot_list_pop PySem.F.type_list_pop Zmm (pv 1)) Zad (fun _ _=>rfl)))
   (Zah (Zas (Zme (Zf9 (Own.Zq (K:=K) (show _ < cLine from hr.units0)) (pv 3) (Za0 Zaf) (nomark _)) (Zob (Own.Za4 c_law_deed_is (hr.mono (by decide)) pass0 (Za (pv 2) (Za (pv 5) Zaf)))))))))))),Pu.Zmd (n:=0) h
   (Zaj (Za2 (Zbi Zae) (Zam 2))
    (Zaj (Za2 (Za1 Zae) (Zam 3))
    (Zf5 (Zqg (E':=fun _=>E) ["NothingDone"] (fun c hc=>by
    simp only [List.mem_cons,List.not_mem_nil,or_false] at hc
    rcases hc with rfl
    ·exact ⟨G.g_NothingDone,G.x_NothingDone_NothingDone⟩)
    (fun D=>(Zjn (Zmo 0 Zfx Zae) (Zam 2))) (Za2 (Za1 (Zaa (Zcm (Zaa (Zab 4) (Zaa Zej Zae))) (Zaa (Zcm (Zaa (Zab 4) (Zaa Zjr Zae))) Zae))) (Zam 3)))
    (Zaj (Za5 (Zak (Zbl (Zbt (Zaa (Zab 1) Zae)) Zac)) (Zg2 (Znn (Zab 3) (Za1 (Zaa Zdz (Zaa Zdz Zae))))) Zar)
    (Zaj (Zjn (Zsa (Zq4 1)) (Zam 5))
    (Zg2 (Zjj (Zo1 (Zab 3) (Za1 Zae)) (Zaw (Zaa (Zab 2) (Zaa (Zab 5) Zae)))))))))) (by decide) (fun o1 o2 ss R X h=>?_)⟩
  obtain ⟨x,b1,b2,b3,a,f0,hs,rfl,rfl,rfl,hz,hR⟩:=h
  refine ⟨rfl,?_⟩
  have lp:=Ze7 f0 hs
  refine ⟨by simp,by simp,?_⟩
  rcases List.eq_nil_or_concat hs with rfl | ⟨h,y,rfl⟩
  ·refine Ze8 (fun γ'=>∃ t:Option S,γ'=[some (.own (vO (ExcR.clsOf mg "Village") x b1 b2 b3 (bkH []) (fsH f0 []) (wsH []))),some (.own (.lsA a (pastH f0 []))),some (.sh (.tup [])),some (.own (.lst [.bl true,.bl true])),t,none]) ?_ ?_
   ·refine ⟨rfl,rfl,x,b1,b2,b3,bkH [],fsH f0 [],wsH [],rfl,rfl,rfl,rfl,fun _=>?_,fun b0 q e=>by cases b0<;>cases e⟩
    exact ⟨by simp,_,G.g_NothingDone,G.k_NothingDone_MeldError,_,G.g_NothingDone,G.k_NothingDone_ValueError,by simp,_,rfl⟩
   ·rintro γ' ⟨t,rfl⟩
    refine ⟨by simp,[.bl true,.bl true],[.bl true,.bl true],rfl,rfl,rfl,rfl,?_⟩
    exact ⟨_,_,rfl,rfl,⟨rfl,by simp⟩,rfl,hR⟩
  ·rw [List.concat_eq_append] at hR lp hz ⊢
   rw [List.dropLast_concat] at hR
   refine Ze8 (fun γ'=>γ'=[some (.own (vO (ExcR.clsOf mg "Village") x b1 b2 b3 (bkH h) (fsH f0 h) (wsH h))),some (.own (.lsA a (pastH f0 (h++[y])))),some (.sh (dD y.1.q)),some (.own (.lst [])),none,none]) ?_ ?_
   ·refine ⟨rfl,rfl,x,b1,b2,b3,bkH (h++[y]),fsH f0 (h++[y]),wsH (h++[y]),rfl,rfl,by rw [Zq9,Zjk],by rw [Zqm,Zjk],fun e=>?_,fun b0 q e=>?_⟩
    ·rw [Zjx] at e
     simp at e
    ·rw [Zjx] at e
     obtain ⟨rfl,e2⟩:=List.append_inj' e rfl
     cases e2
     rw [Zhl,Zhq,List.dropLast_concat,List.dropLast_concat]
     exact rfl
   ·rintro γ' rfl
    have lp':(pastH f0 (h++[y])).length=h.length + 2:=by rw [Ze7,List.length_append,List.length_singleton]
    have g:¬ (((pastH f0 (h++[y])).length:Nat):Int)=1:=by omega
    have el:(pastH f0 (h++[y]))[(pastH f0 (h++[y])).length - 1]?=some (pstD y):=by
     rw [lp',Zgv,List.getElem?_append_right (by rw [Ze7];omega),Ze7]
     rw [show h.length + 2 - 1 - (h.length + 1)=0 by omega]
     rfl
    have ed:(pastH f0 (h++[y])).dropLast=pastH f0 h:=by rw [Zgv,List.dropLast_concat]
    show if decide ((((pastH f0 (h++[y])).length:Nat):Int)=1)=true then _ else _
    rw [decide_eq_false g]
    refine iteF ⟨_,el,_,rfl,?_⟩
    rw [ed]
    refine ⟨Nat.zero_le _,y.1.q,rfl,by have:=y.1.q_len;omega,?_⟩
    exact ⟨_,_,rfl,rfl,⟨rfl,by simp⟩,rfl,hR⟩
theorem Zi9 (G:Glob K mg) (DD:Def K mg "_law_opening" Zdl ["_law_script", "_law_menu_here"])
  (c_law_mix:Callee P w K mg base CX0 1 "_law_mix" ["_law_cell", "_law_place_here"] (Pu.spOf mg Zec K))
  (c_law_at:Callee P w K mg base CX0 1 "_law_at" ["_law_script", "_law_k"] (Pu.spOf mg Zek K))
  (c_law_pair:Callee P w K mg base CX0 2 "_law_pair" ["_law_cell", "_law_menu_here"] (Pu.spOf mg Zf7 K))
  (c_law_holder:Callee P w K mg base CX0 1 "_law_holder" ["_law_menu_here", "_law_k"] (Pu.spOf mg Zcu K))
  : Callee P w K mg base CX0 3 "_law_opening" ["_law_script", "_law_menu_here"] (Pu.spOf mg Zf4 K):=by
 refine DD.ok (k:=2) sc_law_opening (fun vs H Q E h=>Zay h (fun ds R X h=>?_)) (fun f cdv A outer s H vs Q E hr h=>?_)
 ·obtain ⟨ns,m,rfl,hM,hR⟩:=h
  rfl
 ·refine ⟨_,(Zag (Pu.pz 2 sc_law_opening.nd (Own.Za4 c_law_mix (hr.mono (by decide)) pass0 (Za (Own.Za4 c_law_at (hr.mono (by decide)) pass0 (Za (pv 0) (Za Zad Zaf))) (Za Zad Zaf))))
   (@Zag _ _ _ _ _ (@Pu.pz _ _ _ _ _ _ 3 sc_law_opening.nd (@Zao _ _ _ _ _ _ _ (Own.Zai (K:=K)) (@Za0 _ _ _ _ (@Za _ _ _ _ _ Zad (@Za _ _ _ _ _ Zad (@Za _ _ _ _ _ Zad (@Za _ _ _ _ _ Zad (@Za _ _ _ _ _ Zad (@Za _ _ _ _ _ Zad (@Za _ _ _ _ _ Zad (@Za _ _ _ _ _ Zad (@Za _ _ _ _ _ (Zao (Own.Zai (K:=K)) (pv 1) Zad (fun _ _=>rfl)) Zaf rfl) rfl) rfl) rfl) rfl) rfl) rfl) rfl) rfl)) (Zat Zba (pv 2) Zad) (fun _ _=>rfl)) rfl (by first | exact Or.inl rfl | exact Or.inr rfl) rfl (by first | exact .inl rfl | exact .inr rfl | assumption))
   (Zag (Pu.pz 4 sc_law_opening.nd (Za0 Zaf))
   (Zag (Zgj PassesOwn.never rfl (Zee rfl G.range (Za (pv 3) Zaf)) (Zcl (i:=5) sc_law_opening.nd rfl (by first | exact Or.inl rfl | exact Or.inr rfl))
   (Zag (Pu.pz 6 sc_law_opening.nd (Own.Za4 c_law_pair (hr.mono (by decide)) pass0 (Za (Own.Za4 c_law_mix (hr.mono (by decide)) pass0 (Za (pv 2) (Za (Zat Zbm Zad (pv 5)) Zaf))) (Za (pv 1) Zaf))))
   (Own.Zen (Za3 (Zal (Pu.Zbq (K:=K) (show _ < cLine from hr.units0)) (Zat Zba (pv 2) Zad) Zad (nomark _))
   (Zah (Pu.pz 6 sc_law_opening.nd (Zbh (Za (Zat Zbm Zad (Zat Zba (Zat Zbm (pv 2) (pv 5)) Zad)) (Za (Zat Zbm Zad (Zat Zba (Zat Zbm (Zat Zbm (Zat Zbm (pv 2) (pv 5)) Zad) (Zat Zbk (pv 5) Zad)) Zad)) Zaf)))))
   Zaq)
   (Own.Zen (Za3 (Zal (Pu.Zbq (K:=K) (show _ < cLine from hr.units0)) (Zat Zba (pv 2) Zad) Zad (nomark _))
   (Zah (Pu.pz 6 sc_law_opening.nd (Zbh (Za (Own.Za4 c_law_holder (hr.mono (by decide)) pass0 (Za (pv 1) (Za (pv 5) Zaf))) (Za (Own.Za4 c_law_holder (hr.mono (by decide)) pass0 (Za (pv 1) (Za (Zat Zba (Zat Zbm (pv 5) Zad) (pv 3)) Zaf))) Zaf)))))
   Zaq)
   (Zah (Zbv (Zm9 PySem.F.plainAttrs_list PySem.F.slot_list_append PySem.F.type_list_append Zdy (pv 4) (Za (Zbh (Za Zbn (Za (Zao (Own.Zai (K:=K)) (pv 6) Zad (fun _ _=>rfl)) (Za (Zao (Own.Zai (K:=K)) (pv 6) Zad (fun _ _=>rfl)) Zaf)))) Zaf))))))))
   (Zah (Zas (pv 4))))))),Pu.Zbf (n:=2) h
   (Zaj (Za2 (Zaw (Zaa (Zaw (Zaa (Zab 0) (Zaa Zac Zae))) (Zaa Zac Zae))) (Zam 2))
    (Zaj (Za2 (Zap (Za1 (Zaa Zac (Zaa Zac (Zaa Zac (Zaa Zac (Zaa Zac (Zaa Zac (Zaa Zac (Zaa Zac (Zaa (Zap (Zab 1) Zac) Zae)))))))))) (Zb (Zab 2) Zac)) (Zam 3))
    (Zaj (Za2 (Za1 Zae) (Zam 4))
    (Zaj (Zgl [5,6] (Zeb (Zaa (Zab 3) Zae)) (Zam 5)
    (Zaj (Za2 (Zaw (Zaa (Zaw (Zaa (Zab 2) (Zaa (Zbp Zac (Zab 5)) Zae))) (Zaa (Zab 1) Zae))) (Zam 6))
    (Zf5 (Za5 (Zak (Zbl (Zb (Zab 2) Zac) Zac)) (Za2 (Zbi (Zaa (Zbp Zac (Zb (Zbp (Zab 2) (Zab 5)) Zac)) (Zaa (Zbp Zac (Zb (Zbp (Zbp (Zbp (Zab 2) (Zab 5)) Zac) (Zbj (Zab 5) Zac)) Zac)) Zae))) (Zam 6)) Zar)
    (Zf5 (Za5 (Zak (Zbl (Zb (Zab 2) Zac) Zac)) (Za2 (Zbi (Zaa (Zaw (Zaa (Zab 1) (Zaa (Zab 5) Zae))) (Zaa (Zaw (Zaa (Zab 1) (Zaa (Zb (Zbp (Zab 5) Zac) (Zab 3)) Zae))) Zae))) (Zam 6)) Zar)
    (Zh2 4 (Zbi (Zaa Zbo (Zaa (Zap (Zab 6) Zac) (Zaa (Zap (Zab 6) Zac) Zae)))))))))
    (Zlw 4))))) (by decide) (fun ds R X h=>?_)⟩
  obtain ⟨ns,m,rfl,hM,hR⟩:=h
  refine ⟨rfl,?_⟩
  have hMM:=hM
  obtain ⟨a,b,c,d,e,rfl,ha,hb,hc,hd,he⟩:=hM
  refine ⟨ns,1,rfl,by decide,_,_,rfl,?_⟩
  generalize mixP (ns.getD (1:Int).toNat 0) 300=sd
  have h9:0≤sd % 9∧sd % 9 < 9:=by omega
  obtain ⟨many,em,hm⟩:∃ v:Int,atI ([0,1,2,3,4,6,9,24,a].map D.int) (sd % 9)=some (.int v)∧0≤v∧v≤24:=by
   refine ⟨_,Zit (f:=D.int) (xs:=[0,1,2,3,4,6,9,24,a]) h9.1 h9.2,?_⟩
   have hall:∀ v∈([0,1,2,3,4,6,9,24,a]:List Int),0≤v∧v≤24:=by
    intro v hv
    simp at hv
    rcases hv with rfl | rfl | rfl | rfl | rfl | rfl | rfl | rfl | rfl<;>omega
   exact hall _ (List.getElem_mem _)
  refine ⟨_,rfl,by simp,(by show (0:Int) < 9;decide),_,em,by simp,⟨by omega,by omega⟩,?_⟩
  refine Zg3 (fun i γ'=>∃ qs:List (Int×Int),qs.length=i∧γ'=[some (.bor (.scr ns)),some (.bor (.lst (([a,b,c,d,e]:List Int).map D.int))),some (.sh (.int sd)),some (.sh (.int many)),some (.own (qs.map fun q=>dD (Dd.wish q.1 q.2).q)),none,none]) ⟨[],rfl,rfl⟩ ?_ ?_
  ·rintro i γ' hi ⟨qs,hq,rfl⟩
   have hi':i < many.toNat:=hi
   have hlm:(qs.map fun q=>dD (Dd.wish q.1 q.2).q).length=qs.length:=List.length_map ..
   refine ⟨_,_,rfl,_,_,rfl,hMM,fun p1 p2=>?_⟩
   refine Ze8 (fun γ'=>∃ (x y:Int),γ'=[some (.bor (.scr ns)),some (.bor (.lst (([a,b,c,d,e]:List Int).map D.int))),some (.sh (.int sd)),some (.sh (.int many)),some (.own (qs.map fun q=>dD (Dd.wish q.1 q.2).q)),some (.sh (.int (0 + (i:Int)))),some (.sh (prD (x,y)))]) ?_ ?_
   ·refine ⟨(by show (0:Int) < 9;decide),ite2 (fun _=>?_) (fun _=>⟨p1,p2,rfl⟩)⟩
    exact ⟨(by show (0:Int) < 10;decide),⟨by decide,by decide⟩,(by show (0:Int) < 10;decide),by simp,_,_,rfl⟩
   ·rintro γ' ⟨p1,p2,rfl⟩
    refine Ze8 (fun γ'=>∃ (x y:Int),γ'=[some (.bor (.scr ns)),some (.bor (.lst (([a,b,c,d,e]:List Int).map D.int))),some (.sh (.int sd)),some (.sh (.int many)),some (.own (qs.map fun q=>dD (Dd.wish q.1 q.2).q)),some (.sh (.int (0 + (i:Int)))),some (.sh (prD (x,y)))]) ?_ ?_
    ·refine ⟨(by show (0:Int) < 9;decide),ite2 (fun _=>?_) (fun _=>⟨p1,p2,rfl⟩)⟩
     exact ⟨_,_,rfl,hMM,fun h1 _ _ _=>⟨(by show 0 < many;omega),_,_,rfl,hMM,fun h2 _ _ _=>⟨by simp,_,_,rfl⟩⟩⟩
    ·rintro γ' ⟨x,y,rfl⟩
     refine ⟨_,Zcx _ _,_,Zp6 _ _ (.inr rfl),by simp,by omega,?_⟩
     exact ⟨qs++[(x,y)],by rw [List.length_append,hq];rfl,by rw [List.map_append];rfl⟩
  ·rintro γ' ⟨qs,hq,rfl⟩
   have hq':qs.length=many.toNat:=hq
   exact hR qs (by omega)
theorem Zl4 (G:Glob K mg) (DD:Def K mg "_law_deed" Zfl ["_law_cell", "_law_menu_here", "_law_now"])
  (c_law_place:Callee P w K mg base CX0 1 "_law_place" ["_law_cell", "_law_strips"] (Pu.spOf mg Zg9 K))
  (c_law_pair:Callee P w K mg base CX0 2 "_law_pair" ["_law_cell", "_law_menu_here"] (Pu.spOf mg Zf7 K))
  (c_law_odd:Callee P w K mg base CX0 1 "_law_odd" ["_law_cell", "_law_good"] (Pu.spOf mg Zg5 K))
  (c_law_width:Callee P w K mg base CX0 1 "_law_width" ["_law_cell", "_law_strips", "_law_place_here"] (Pu.spOf mg Zg6 K))
  (c_law_holder:Callee P w K mg base CX0 1 "_law_holder" ["_law_menu_here", "_law_k"] (Pu.spOf mg Zcu K))
  : Callee P w K mg base CX0 3 "_law_deed" ["_law_cell", "_law_menu_here", "_law_now"] (Pu.spOf mg Zip K):=by
 refine DD.ok (k:=2) sc_law_deed (fun vs H Q E h=>Zay h (fun ds R X h=>?_)) (fun f cdv A outer s H vs Q E hr h=>?_)
 ·obtain ⟨c,m,f,w,es,rfl,hM,hz,hF,hw,hR,hB⟩:=h
  rfl
 ·refine ⟨_,(Zag (Pu.pz 3 sc_law_deed.nd (Zat Zba (pv 0) Zad))
   (Zag (Pu.pz 4 sc_law_deed.nd (Zat Zbk (pv 0) Zad))
   (Zag (Pu.pz 5 sc_law_deed.nd (Own.Za4 c_law_place (hr.mono (by decide)) pass0 (Za (pv 4) (Za (Zao (Own.Zai (K:=K)) (pv 2) Zad (fun _ _=>rfl)) Zaf))))
   (Zag (Pu.pz 6 sc_law_deed.nd (Zat Zbk (Zat Zbk (pv 4) Zad) (Zan (Zkq rfl) (by rfl) G.max boot_max (Za Zad (Za (Zan (Own.Zax (K:=K)) (by rfl) G.len PySem.boot_len (Za (Zao (Own.Zai (K:=K)) (pv 2) Zad (fun _ _=>rfl)) Zaf)) Zaf)))))
   (Zag (Za3 (Zal Zgp (pv 3) Zad (nomark _))
   (Zah (Zas (Zbh (Za Zbn (Za (pv 5) (Za (Own.Za4 c_law_odd (hr.mono (by decide)) pass0 (Za (pv 6) (Za (Own.Za4 c_law_holder (hr.mono (by decide)) pass0 (Za (pv 1) (Za (Zat Zba (Zat Zbk (pv 6) Zad) (Zao (Own.Zai (K:=K)) (pv 1) Zad (fun _ _=>rfl))) Zaf))) Zaf))) Zaf))))))
   Zaq)
   (Zag (Za3 (Zal Zgp (pv 3) Zad (nomark _))
   (Zah (Zas (Zbh (Za Zbn (Za (pv 5) (Za (Own.Za4 c_law_width (hr.mono (by decide)) pass0 (Za (pv 6) (Za (Zao (Own.Zai (K:=K)) (pv 2) Zad (fun _ _=>rfl)) (Za (pv 5) Zaf)))) Zaf))))))
   Zaq)
   (Zag (Za3 (Zal (Pu.Zbq (K:=K) (show _ < cLine from hr.units0)) (pv 3) Zad (nomark _))
   (Zah (Zas (Zbh (Za Zbn (Za (pv 5) Zaf)))))
   Zaq)
   (Zag (Pu.pz 7 sc_law_deed.nd (Own.Za4 c_law_pair (hr.mono (by decide)) pass0 (Za (pv 4) (Za (pv 1) Zaf))))
   (Own.Zen (Za3 (PW.pt (Zqa (Zal (Pu.Zbq (K:=K) (show _ < cLine from hr.units0)) (pv 3) Zad (nomark _)) (Zqa (Zal Zi5 (Zat Zba (pv 4) Zad) Zad (nomark _)) (Zqv (Zal (Own.Zrv (K:=K) (show _ < cLine from hr.units0)) (Zao (Own.Zai (K:=K)) (pv 2) Zad (fun _ _=>rfl)) (Za0 Zaf) (nomark _))))))
   (Zah (Pu.pz 7 sc_law_deed.nd (Zao (Own.Zai (K:=K)) (Zao (Own.Zai (K:=K)) (pv 2) Zad (fun _ _=>rfl)) (Zat Zba (Zat Zbk (pv 4) Zad) (Zan (Own.Zax (K:=K)) (by rfl) G.len PySem.boot_len (Za (Zao (Own.Zai (K:=K)) (pv 2) Zad (fun _ _=>rfl)) Zaf))) (fun _ _=>rfl))))
   Zaq)
   (Zag (Za3 (Zal Zgp (pv 3) Zad (nomark _))
   (Zah (Zas (Zbh (Za (Zao (Own.Zai (K:=K)) (Za0 (Za Zbn (Za Zbn Zaf))) (Zat Zbk (pv 3) Zad) (fun _ _=>rfl)) (Za (Zao (Own.Zai (K:=K)) (pv 7) Zad (fun _ _=>rfl)) (Za (Zao (Own.Zai (K:=K)) (pv 7) Zad (fun _ _=>rfl)) Zaf))))))
   Zaq)
   (Zah (Zas (Zbh (Za Zbn Zaf)))))))))))))),Pu.Zbf (n:=3) h
   (Zaj (Za2 (Zb (Zab 0) Zac) (Zam 3))
    (Zaj (Za2 (Zbj (Zab 0) Zac) (Zam 4))
    (Zaj (Za2 (Zaw (Zaa (Zab 4) (Zaa (Zap (Zab 2) Zac) Zae))) (Zam 5))
    (Zaj (Za2 (Zbj (Zbj (Zab 4) Zac) (Zoy (Zaa Zac (Zaa (Zbt (Zaa (Zap (Zab 2) Zac) Zae)) Zae)))) (Zam 6))
    (Zaj (Za5 (Zak (Zgm (Zab 3) Zac)) (Zaz 5 (Zav (Zbi (Zaa Zbo (Zaa (Zab 5) (Zaa (Zaw (Zaa (Zab 6) (Zaa (Zaw (Zaa (Zab 1) (Zaa (Zb (Zbj (Zab 6) Zac) (Zap (Zab 1) Zac)) Zae))) Zae))) Zae)))))) Zar)
    (Zaj (Za5 (Zak (Zgm (Zab 3) Zac)) (Zaz 5 (Zav (Zbi (Zaa Zbo (Zaa (Zab 5) (Zaa (Zaw (Zaa (Zab 6) (Zaa (Zap (Zab 2) Zac) (Zaa (Zab 5) Zae)))) Zae)))))) Zar)
    (Zaj (Za5 (Zak (Zbl (Zab 3) Zac)) (Zaz 5 (Zav (Zbi (Zaa Zbo (Zaa (Zab 5) Zae))))) Zar)
    (Zaj (Za2 (Zaw (Zaa (Zab 4) (Zaa (Zab 1) Zae))) (Zam 7))
    (Zf5 (Za5 (Zqb (Zak (Zbl (Zab 3) Zac)) (Zqb (Zak (Zi4 (Zb (Zab 4) Zac) Zac)) (Zak (Zo1 (Zap (Zab 2) Zac) (Za1 Zae))))) (Za2 (Zap (Zap (Zab 2) Zac) (Zb (Zbj (Zab 4) Zac) (Zbt (Zaa (Zap (Zab 2) Zac) Zae)))) (Zam 7)) Zar)
    (Zaj (Za5 (Zak (Zgm (Zab 3) Zac)) (Zav (Zbi (Zaa (Zap (Za1 (Zaa Zbo (Zaa Zbo Zae))) (Zbj (Zab 3) Zac)) (Zaa (Zap (Zab 7) Zac) (Zaa (Zap (Zab 7) Zac) Zae))))) Zar)
    (Zav (Zbi (Zaa Zbo Zae))))))))))))) (by decide) (fun ds R X h=>?_)⟩
  obtain ⟨c,m,f,w,es,rfl,hM,hz,hF,hw,hR,hB⟩:=h
  refine ⟨rfl,?_⟩
  have hMM:=hM
  have at1:atI (plD f :: plD w :: es) 1=some (plD w):=Zi3 (by decide) rfl
  have hl:(f.map prD).length=f.length:=List.length_map ..
  have hlw:(w.map prD).length=w.length:=List.length_map ..
  have hmx:∀ z:Int,0 < (if z > 1 then z else 1)∧((if z > 1 then z else 1)=z∨(if z > 1 then z else 1)=1):=fun z=>by split<;>omega
  have hm1:=hmx (((f.map prD).length:Nat):Int)
  refine ⟨(by show (0:Int) < 9;decide),⟨by decide,by decide⟩,_,Zcx _ _,_,f,rfl,hz,fun p=>?_⟩
  refine ⟨⟨by decide,by decide⟩,_,Zcx _ _,⟨hm1.1,Int.lt_of_le_of_lt (b:=1000) (by rcases hm1.2 with w | w<;>rw [w]<;>omega) (by decide)⟩,?_⟩
  obtain ⟨m0,m1,m2,m3,m4,em,ha,hb,hc,hd,he⟩:=hM
  have i0:atI (m.map D.int) 0=some (.int m0):=by rw [em];rfl
  refine ite2 (fun _=>?_) (fun _=>ite2 (fun _=>?_) (fun _=>ite2 (fun _=>?_) (fun g4=>?_)))
  ·exact ⟨⟨by decide,by decide⟩,_,i0,(by show 0 < m0;omega),m,_,rfl,hMM,fun h _ _ _=>⟨_,_,rfl,fun v=>⟨by simp,hR (.sell p v)⟩⟩⟩
  ·exact ⟨_,Zcx _ _,_,f,p,rfl,hz,hF,fun v=>⟨by simp,hR (.part p v)⟩⟩
  ·exact ⟨by simp,hR (.unite p)⟩
  ·refine ⟨_,m,rfl,hMM,fun a b=>?_⟩
   refine Ze8 (fun γ'=>∃ (a b:Int) (t1 t2 t3:Option S),γ'=[some (.sh (.int c)),some (.bor (.lst (m.map D.int))),some (.bor (.tup (plD f :: plD w :: es))),some (.sh (.int (c % 9))),t1,t2,t3,some (.sh (prD (a,b)))]) ?_ ?_
   ·refine ite2 (fun _=>⟨(by show (0:Int) < 4;decide),ite2 (fun _=>⟨_,at1,by simp,?_⟩) (fun _=>iteF ⟨a,b,_,_,_,rfl⟩)⟩) (fun _=>iteF ⟨a,b,_,_,_,rfl⟩)
    have emp:(w.map prD).isEmpty=decide (w=[]):=by cases w<;>simp
    show if (!(w.map prD).isEmpty)=true then _ else _
    rw [emp]
    refine ite2 (fun g=>?_) (fun g=>⟨a,b,_,_,_,rfl⟩)
    have hne:w≠[]:=fun z=>by rw [decide_eq_true z] at g;cases g
    have hp:0 < w.length:=List.length_pos_iff.mpr hne
    have q1:=Int.emod_nonneg (c / 9 / 4) (show (((w.map prD).length:Nat):Int)≠0 by omega)
    have q2:=Int.emod_lt_of_pos (c / 9 / 4) (show 0 < (((w.map prD).length:Nat):Int) by omega)
    exact ⟨_,at1,⟨by decide,by decide⟩,_,at1,(by show 0 < (((w.map prD).length:Nat):Int);omega),_,Zit (f:=prD) (xs:=w) q1 (by omega),_,_,_,_,_,rfl⟩
   ·rintro γ' ⟨a,b,t1,t2,t3,rfl⟩
    refine ite2 (fun g=>?_) (fun g=>⟨by simp,hB⟩)
    have g':c % 9 < 8:=of_decide_eq_true g
    have hk:c % 9 / 7=0∨c % 9 / 7=1:=by omega
    have ex:∃ k:Str,atI [D.str "wish",.str "drop"] (c % 9 / 7)=some (.str k)∧(k=("wish" : Str)∨k=("drop" : Str)):=by
     rcases hk with e | e<;>rw [e]
     ·exact ⟨_,rfl,.inl rfl⟩
     ·exact ⟨_,rfl,.inr rfl⟩
    obtain ⟨k,ek,hk2⟩:=ex
    refine ⟨by simp,⟨by decide,by decide⟩,_,ek,_,Zcx _ _,_,Zp6 _ _ (.inr rfl),by simp,?_⟩
    rcases hk2 with rfl | rfl
    ·exact hR (.wish a b)
    ·exact hR (.drop a b)
theorem Zld (G:Glob K mg) (DD:Def K mg "_law_call" Zfn ["_law_village", "_law_deed_here"])
  (c_Village_drop:Pu.CalleeM P w K mg base (ExcR.CXe P w) 2 (Meth K (ExcR.clsOf mg "Village") "drop") ["self", "ahead", "behind"] (Pu.spW mg (Ze9 (ExcR.clsOf mg "Village")) K))
  (c_Village_sell:Pu.CalleeM P w K mg base (ExcR.CXe P w) 3 (Meth K (ExcR.clsOf mg "Village") "sell") ["self", "place", "holder"] (Pu.spW mg (Zfb (ExcR.clsOf mg "Village")) K))
  (c_Village_part:Pu.CalleeM P w K mg base (ExcR.CXe P w) 3 (Meth K (ExcR.clsOf mg "Village") "part") ["self", "place", "width"] (Pu.spW mg (Zfc (ExcR.clsOf mg "Village")) K))
  (c_Village_unite:Pu.CalleeM P w K mg base (ExcR.CXe P w) 3 (Meth K (ExcR.clsOf mg "Village") "unite") ["self", "place"] (Pu.spW mg (Ze1 (ExcR.clsOf mg "Village")) K))
  (c_Village_wish:Pu.CalleeM P w K mg base (ExcR.CXe P w) 3 (Meth K (ExcR.clsOf mg "Village") "wish") ["self", "ahead", "behind"] (Pu.spW mg (Zfa (ExcR.clsOf mg "Village")) K))
  : Callee P w K mg base (ExcR.CXe P w) 4 "_law_call" ["_law_village", "_law_deed_here"] (Pu.spW mg (Zhz (ExcR.clsOf mg "Village")) K):=by
 refine ExcR.Def.okX DD (k:=3) Zln (fun vs H Q E h=>Pu.Ze (n:=1) h (fun o ss R X h=>?_)) (fun f cdv A outer s H vs Q E hr h=>?_)
 ·obtain ⟨x,b1,b2,b3,bk,fs,ws,f,w,d,rfl,rfl,hb,hf,hw,hz,hy,hR⟩:=h
  rfl
 ·refine ⟨_,(Zag (Za3 (Zal (Pu.Zbq (K:=K) (show _ < cLine from hr.units0)) (Zao (Own.Zai (K:=K)) (pv 1) Zad (fun _ _=>rfl)) Zbn (nomark _))
   (Zah (Zas (Pu.Zf2 c_Village_sell G.cl_Village (hr.mono (by decide)) ExcR.Za8 (pv 0) (Za (Zao (Own.Zai (K:=K)) (pv 1) Zad (fun _ _=>rfl)) (Za (Zao (Own.Zai (K:=K)) (pv 1) Zad (fun _ _=>rfl)) Zaf)))))
   Zaq)
   (Zag (Za3 (Zal (Pu.Zbq (K:=K) (show _ < cLine from hr.units0)) (Zao (Own.Zai (K:=K)) (pv 1) Zad (fun _ _=>rfl)) Zbn (nomark _))
   (Zah (Zas (Pu.Zf2 c_Village_part G.cl_Village (hr.mono (by decide)) ExcR.Za8 (pv 0) (Za (Zao (Own.Zai (K:=K)) (pv 1) Zad (fun _ _=>rfl)) (Za (Zao (Own.Zai (K:=K)) (pv 1) Zad (fun _ _=>rfl)) Zaf)))))
   Zaq)
   (Zag (Za3 (Zal (Pu.Zbq (K:=K) (show _ < cLine from hr.units0)) (Zao (Own.Zai (K:=K)) (pv 1) Zad (fun _ _=>rfl)) Zbn (nomark _))
   (Zah (Zas (Pu.Zf2 c_Village_unite G.cl_Village (hr.mono (by decide)) ExcR.Za8 (pv 0) (Za (Zao (Own.Zai (K:=K)) (pv 1) Zad (fun _ _=>rfl)) Zaf))))
   Zaq)
   (Zag (Za3 (Zal (Pu.Zbq (K:=K) (show _ < cLine from hr.units0)) (Zao (Own.Zai (K:=K)) (pv 1) Zad (fun _ _=>rfl)) Zbn (nomark _))
   (Zah (Zas (Pu.Zf2 c_Village_wish G.cl_Village (hr.mono (by decide)) ExcR.Za8 (pv 0) (Za (Zao (Own.Zai (K:=K)) (pv 1) Zad (fun _ _=>rfl)) (Za (Zao (Own.Zai (K:=K)) (pv 1) Zad (fun _ _=>rfl)) Zaf)))))
   Zaq)
   (Zah (Zas (Pu.Zf2 c_Village_drop G.cl_Village (hr.mono (by decide)) ExcR.Za8 (pv 0) (Za (Zao (Own.Zai (K:=K)) (pv 1) Zad (fun _ _=>rfl)) (Za (Zao (Own.Zai (K:=K)) (pv 1) Zad (fun _ _=>rfl)) Zaf))))))))),Pu.Zd8 (n:=1) h
   (Zaj (Za5 (Zak (Zbl (Zap (Zab 1) Zac) Zbo)) (Zch (Zio 0 Zil (Zaa (Zap (Zab 1) Zac) (Zaa (Zap (Zab 1) Zac) Zae)))) Zar)
    (Zaj (Za5 (Zak (Zbl (Zap (Zab 1) Zac) Zbo)) (Zch (Zio 0 Zii (Zaa (Zap (Zab 1) Zac) (Zaa (Zap (Zab 1) Zac) Zae)))) Zar)
    (Zaj (Za5 (Zak (Zbl (Zap (Zab 1) Zac) Zbo)) (Zch (Zio 0 Zhb (Zaa (Zap (Zab 1) Zac) Zae))) Zar)
    (Zaj (Za5 (Zak (Zbl (Zap (Zab 1) Zac) Zbo)) (Zch (Zio 0 Zht (Zaa (Zap (Zab 1) Zac) (Zaa (Zap (Zab 1) Zac) Zae)))) Zar)
    (Zch (Zio 0 Zik (Zaa (Zap (Zab 1) Zac) (Zaa (Zap (Zab 1) Zac) Zae)))))))) (by decide) (fun o ss R X h=>?_)⟩
  obtain ⟨x,b1,b2,b3,bk,fs,ws,f,w,d,rfl,rfl,hb,hf,hw,hz,hy,hR⟩:=h
  refine ⟨rfl,?_⟩
  cases d with
  | sell p h=>
   refine ⟨_,rfl,?_⟩
   refine ⟨rfl,rfl,_,rfl,_,rfl,x,b1,b2,b3,bk,fs,ws,f,w,p,h,rfl,rfl,hb,hf,hw,hz,?_⟩
   have hR:tellE (sellE bk f p h) (X (vO (ExcR.clsOf mg "Village") x b1 b2 b3 bk (fs++[f]) (ws++[w]))) (R (vO (ExcR.clsOf mg "Village") x b1 b2 b3 (bk++[(Dd.sell p h).q]) (fs++[f]++[(Dd.sell p h).fld f]) (ws++[w]++[(Dd.sell p h).wsh w])) (.int (bk.length + 1))):=hR
   cases e:sellE bk f p h with
   | some c=>rw [e] at hR;exact ⟨_,rfl,⟨rfl,by simp⟩,hR⟩
   | none=>rw [e] at hR;exact ⟨_,rfl,⟨rfl,by simp⟩,hR⟩
  | part p h=>
   refine ⟨_,rfl,_,rfl,?_⟩
   refine ⟨rfl,rfl,_,rfl,_,rfl,x,b1,b2,b3,bk,fs,ws,f,w,p,h,rfl,rfl,hb,hf,hw,hz,?_⟩
   have hR:tellE (partRE bk f p h) (X (vO (ExcR.clsOf mg "Village") x b1 b2 b3 bk (fs++[f]) (ws++[w]))) (R (vO (ExcR.clsOf mg "Village") x b1 b2 b3 (bk++[(Dd.part p h).q]) (fs++[f]++[(Dd.part p h).fld f]) (ws++[w]++[(Dd.part p h).wsh w])) (.int (bk.length + 1))):=hR
   cases e:partRE bk f p h with
   | some c=>rw [e] at hR;exact ⟨_,rfl,⟨rfl,by simp⟩,hR⟩
   | none=>rw [e] at hR;exact ⟨_,rfl,⟨rfl,by simp⟩,hR⟩
  | unite p=>
   refine ⟨_,rfl,_,rfl,_,rfl,?_⟩
   refine ⟨rfl,rfl,_,rfl,x,b1,b2,b3,bk,fs,ws,f,w,p,rfl,rfl,hb,hf,hw,hz,?_⟩
   have hR:tellE (uniteE bk f p) (X (vO (ExcR.clsOf mg "Village") x b1 b2 b3 bk (fs++[f]) (ws++[w]))) (R (vO (ExcR.clsOf mg "Village") x b1 b2 b3 (bk++[(Dd.unite p).q]) (fs++[f]++[(Dd.unite p).fld f]) (ws++[w]++[(Dd.unite p).wsh w])) (.int (bk.length + 1))):=hR
   cases e:uniteE bk f p with
   | some c=>rw [e] at hR;exact ⟨_,rfl,⟨rfl,by simp⟩,hR⟩
   | none=>rw [e] at hR;exact ⟨_,rfl,⟨rfl,by simp⟩,hR⟩
  | wish p h=>
   refine ⟨_,rfl,_,rfl,_,rfl,_,rfl,?_⟩
   refine ⟨rfl,rfl,_,rfl,_,rfl,x,b1,b2,b3,bk,fs,ws,f,w,p,h,rfl,rfl,hb,hf,hw,hy,?_⟩
   have hR:tellE (vwishE bk w p h) (X (vO (ExcR.clsOf mg "Village") x b1 b2 b3 bk (fs++[f]) (ws++[w]))) (R (vO (ExcR.clsOf mg "Village") x b1 b2 b3 (bk++[(Dd.wish p h).q]) (fs++[f]++[(Dd.wish p h).fld f]) (ws++[w]++[(Dd.wish p h).wsh w])) (.int (bk.length + 1))):=hR
   cases e:vwishE bk w p h with
   | some c=>rw [e] at hR;exact ⟨_,rfl,⟨rfl,by simp⟩,hR⟩
   | none=>rw [e] at hR;exact ⟨_,rfl,⟨rfl,by simp⟩,hR⟩
  | drop p h=>
   refine ⟨_,rfl,_,rfl,_,rfl,_,rfl,?_⟩
   refine ⟨rfl,rfl,_,rfl,_,rfl,x,b1,b2,b3,bk,fs,ws,f,w,p,h,rfl,rfl,hb,hf,hw,hy,?_⟩
   have hR:tellE (vdropE bk w p h) (X (vO (ExcR.clsOf mg "Village") x b1 b2 b3 bk (fs++[f]) (ws++[w]))) (R (vO (ExcR.clsOf mg "Village") x b1 b2 b3 (bk++[(Dd.drop p h).q]) (fs++[f]++[(Dd.drop p h).fld f]) (ws++[w]++[(Dd.drop p h).wsh w])) (.int (bk.length + 1))):=hR
   cases e:vdropE bk w p h with
   | some c=>rw [e] at hR;exact ⟨_,rfl,⟨rfl,by simp⟩,hR⟩
   | none=>rw [e] at hR;exact ⟨_,rfl,⟨rfl,by simp⟩,hR⟩
theorem Zju (G:Glob K mg) (DD:Def K mg "_law_stands" Zd1 ["_law_village", "_law_past"])
  (c_law_book_is:Callee P w K mg base CX0 3 "_law_book_is" ["_law_found", "_law_due"] (Pu.spOf mg Zf1 K))
  (c_law_tuples:Callee P w K mg base CX0 2 "_law_tuples" ["_law_found", "_law_due"] (Pu.spOf mg Zgn K))
  (c_Village_deeds:Pu.CalleeM P w K mg base CX0 1 (Meth K (ExcR.clsOf mg "Village") "deeds") ["self"] (Pu.spOf mg (Ze0 (ExcR.clsOf mg "Village")) K))
  (c_Village_strips:Pu.CalleeM P w K mg base CX0 1 (Meth K (ExcR.clsOf mg "Village") "strips") ["self"] (Pu.spOf mg (Zbd (ExcR.clsOf mg "Village")) K))
  (c_Village_wishes:Pu.CalleeM P w K mg base CX0 1 (Meth K (ExcR.clsOf mg "Village") "wishes") ["self"] (Pu.spOf mg (Zbb (ExcR.clsOf mg "Village")) K))
  : Callee P w K mg base CX0 4 "_law_stands" ["_law_village", "_law_past"] (Pu.spOf mg (Zge (ExcR.clsOf mg "Village")) K):=by
 refine DD.ok (k:=3) Zjp (fun vs H Q E h=>Zay h (fun ds R X h=>?_)) (fun f cdv A outer s H vs Q E hr h=>?_)
 ·obtain ⟨f0,hs,rfl,hz,hf,hw,hR⟩:=h
  rfl
 ·refine ⟨_,(Zag (Za3 (Zdv (Pu.Zds (K:=K) (Own.Za4 c_law_tuples (hr.mono (by decide)) pass0 (Za (Pu.Zb8 c_Village_strips G.cl_Village (hr.mono (by decide)) pass0 (pv 0)) (Za (Zao (Own.Zai (K:=K)) (Zao (Own.Zai (K:=K)) (pv 1) (Zi7 Zf0 Zad) (fun _ _=>rfl)) Zad (fun _ _=>rfl)) Zaf)))))
   (Zah (Zas Zd0))
   Zaq)
   (Zag (Za3 (Zdv (Pu.Zds (K:=K) (Own.Za4 c_law_tuples (hr.mono (by decide)) pass0 (Za (Pu.Zb8 c_Village_wishes G.cl_Village (hr.mono (by decide)) pass0 (pv 0)) (Za (Zao (Own.Zai (K:=K)) (Zao (Own.Zai (K:=K)) (pv 1) (Zi7 Zf0 Zad) (fun _ _=>rfl)) Zad (fun _ _=>rfl)) Zaf)))))
   (Zah (Zas Zd0))
   Zaq)
   (Zah (Zas (Own.Za4 c_law_book_is (hr.mono (by decide)) pass0 (Za (Pu.Zb8 c_Village_deeds G.cl_Village (hr.mono (by decide)) pass0 (pv 0)) (Za (Own.Zh0 (N':=["_law_one"]) (φ:=[none]) rfl (Own.CompOk.of (by rfl)) (Pu.Zfj (K:=K) (Zb9 (Pu.Zcc (K:=K)) (pv 1) (Zco Zad) Zc4)) (fun _ _ _ _ _=>⟨(Zcl (i:=0) (show (["_law_one"]:List Str).Nodup from by decide +kernel) rfl (by first | exact Or.inl rfl | exact Or.inr rfl)),Own.Zj3,(Zao (Own.Zai (K:=K)) (pv 0) Zad (fun _ _=>rfl))⟩)) Zaf))))))),Pu.Zbf (n:=2) h
   (Zaj (Za5 (Zel (Zef (Zaw (Zaa (Zce Zbr (Zab 0) Zae) (Zaa (Zap (Zap (Zab 1) (Zf3 Zac)) Zac) Zae))))) (Zav Zdz) Zar)
    (Zaj (Za5 (Zel (Zef (Zaw (Zaa (Zce Zbs (Zab 0) Zae) (Zaa (Zap (Zap (Zab 1) (Zf3 Zac)) Zac) Zae))))) (Zav Zdz) Zar)
    (Zav (Zaw (Zaa (Zce Zhh (Zab 0) Zae) (Zaa (Zif (Zou (Zab 1) (Zcn Zac) Zc3) (Zam 0) Znv (Zap (Zab 0) Zac)) Zae)))))) (by decide) (fun ds R X h=>?_)⟩
  obtain ⟨f0,hs,rfl,hz,hf,hw,hR⟩:=h
  refine ⟨rfl,?_⟩
  obtain ⟨fs,ef,lf⟩:=Zk9 f0 hs
  obtain ⟨ws,ew,lw⟩:=Zlb hs
  obtain ⟨d,el⟩:=Zgy f0 hs
  have h1:(curF f0 hs).length≤1000:=hf _ (by rw [ef];simp)
  have h2:(curW hs).length≤1000:=hw _ (by rw [ew];simp)
  have lb:=Zjk hs
  have bq:∀ q∈bkH hs,q.2.length≤100:=fun q hq=>by
   unfold bkH at hq
   obtain ⟨h,_,rfl⟩:=List.mem_map.mp hq
   have:=h.1.q_len
   omega
  have ec:cutD (pastH f0 hs) (some 1) none=hs.map pstD:=by
   rw [Zgh _ (by decide)]
   rfl
  refine ⟨rfl,rfl,bkH hs,fs,wsH hs,curF f0 hs,by rw [← ef];rfl,?_⟩
  refine ⟨_,el,_,rfl,curF f0 hs,rfl,by omega,iteF ?_⟩
  refine ⟨rfl,rfl,bkH hs,fsH f0 hs,ws,curW hs,by rw [← ew];rfl,?_⟩
  refine ⟨_,el,_,rfl,curW hs,rfl,by omega,iteF ?_⟩
  refine ⟨rfl,rfl,bkH hs,fsH f0 hs,wsH hs,rfl,?_⟩
  show CompW _ _ _ _ _ (cutD (pastH f0 hs) (some 1) none).length (fun i=>arg ((cutD (pastH f0 hs) (some 1) none).getD i .non)) _
  rw [ec]
  refine Zpn (xs:=hs) (emb:=pstD) (fun h=>some (dD h.1.q)) (by omega) (fun h _=>?_) ?_
  ·refine ⟨_,rfl,_,?_,rfl⟩
   show (arg (dD h.1.q)).shd=_
   rw [Zhm]
   rfl
  ·rw [mapD (fun h:Dd×List (Int×Int)×List (Int×Int)=>dD h.1.q)]
   have eb:hs.map (fun h:Dd×List (Int×Int)×List (Int×Int)=>dD h.1.q)=(bkH hs).map dD:=by
    unfold bkH
    rw [List.map_map]
    rfl
   rw [eb]
   exact ⟨bkH hs,rfl,bq,by omega,hR⟩
theorem Zoq (G:Glob K mg) (DD:Def K mg "_law_do" Zhn ["_law_village", "_law_deed_here"])
  (c_law_call:Callee P w K mg base (ExcR.CXe P w) 4 "_law_call" ["_law_village", "_law_deed_here"] (Pu.spW mg (Zhz (ExcR.clsOf mg "Village")) K))
  : Callee P w K mg base CX0 5 "_law_do" ["_law_village", "_law_deed_here"] (Pu.spW mg (Zk0 (ExcR.clsOf mg "Village")) K):=by
 refine DD.ok (k:=4) sc_law_do (fun vs H Q E h=>Pu.Ze (n:=1) h (fun o ss R X h=>?_)) (fun f cdv A outer s H vs Q E hr h=>?_)
 ·obtain ⟨x,b1,b2,b3,bk,fs,ws,f,w,d,rfl,rfl,hb,hf,hw,hz,hy,hR⟩:=h
  rfl
 ·refine ⟨_,(Zag (Pu.pz 2 sc_law_do.nd (Za0 (Za Zd0 Zaf)))
   (Zag (Pu.pz 3 sc_law_do.nd (Zi7 Zf0 Zad))
   (Own.Zen (ExcR.Zqd (fun pins D=>(Zah (Pu.pz 3 sc_law_do.nd (ExcR.Zrx c_law_call (hr.mono (by decide)) (ExcR.Zjg (pins:=pins) (D:=D) (i:=4) rfl rfl sc_law_do.nd rfl rfl rfl G.m_MeldError (by decide) (fun a=>(Zah (@Pu.pz _ _ _ _ _ _ 2 sc_law_do.nd (@Za0 _ _ _ _ (@Za _ _ _ _ _ (Zan (ExcR.Zbc (K:=K)) (by rfl) G.isinstance boot_isinstance (Za (pv 4) (Za (Zev (v:=.ty "ValueError") rfl G.ValueError (by decide +kernel) rfl) Zaf))) (@Za _ _ _ _ _ (Zan (ExcR.Zbc (K:=K)) (by rfl) G.isinstance boot_isinstance (Za (pv 4) (Za (ExcR.Zeg G.m_NoStrip) Zaf))) (@Za _ _ _ _ _ (Zan (ExcR.Zbc (K:=K)) (by rfl) G.isinstance boot_isinstance (Za (pv 4) (Za (ExcR.Zeg G.m_BadHolder) Zaf))) (@Za _ _ _ _ _ (Zan (ExcR.Zbc (K:=K)) (by rfl) G.isinstance boot_isinstance (Za (pv 4) (Za (ExcR.Zeg G.m_OwnStrip) Zaf))) (@Za _ _ _ _ _ (Zan (ExcR.Zbc (K:=K)) (by rfl) G.isinstance boot_isinstance (Za (pv 4) (Za (ExcR.Zeg G.m_BadPart) Zaf))) (@Za _ _ _ _ _ (Zan (ExcR.Zbc (K:=K)) (by rfl) G.isinstance boot_isinstance (Za (pv 4) (Za (ExcR.Zeg G.m_TooManyStrips) Zaf))) (@Za _ _ _ _ _ (Zan (ExcR.Zbc (K:=K)) (by rfl) G.isinstance boot_isinstance (Za (pv 4) (Za (ExcR.Zeg G.m_UnlikeHolders) Zaf))) (@Za _ _ _ _ _ (Zan (ExcR.Zbc (K:=K)) (by rfl) G.isinstance boot_isinstance (Za (pv 4) (Za (ExcR.Zeg G.m_TooWide) Zaf))) (@Za _ _ _ _ _ (Zan (ExcR.Zbc (K:=K)) (by rfl) G.isinstance boot_isinstance (Za (pv 4) (Za (ExcR.Zeg G.m_LikeHolders) Zaf))) (@Za _ _ _ _ _ (Zan (ExcR.Zbc (K:=K)) (by rfl) G.isinstance boot_isinstance (Za (pv 4) (Za (ExcR.Zeg G.m_WishStands) Zaf))) (@Za _ _ _ _ _ (Zan (ExcR.Zbc (K:=K)) (by rfl) G.isinstance boot_isinstance (Za (pv 4) (Za (ExcR.Zeg G.m_TooManyWishes) Zaf))) (@Za _ _ _ _ _ (Zan (ExcR.Zbc (K:=K)) (by rfl) G.isinstance boot_isinstance (Za (pv 4) (Za (ExcR.Zeg G.m_NoWish) Zaf))) (@Za _ _ _ _ _ (Zan (ExcR.Zbc (K:=K)) (by rfl) G.isinstance boot_isinstance (Za (pv 4) (Za (ExcR.Zeg G.m_BookFull) Zaf))) Zaf rfl) rfl) rfl) rfl) rfl) rfl) rfl) rfl) rfl) rfl) rfl) rfl) rfl)) rfl (by first | exact Or.inl rfl | exact Or.inr rfl) rfl (by first | exact .inl rfl | exact .inr rfl | assumption))))) (Za (pv 0) (Za (pv 1) Zaf)))))))
   (Zah (Zas (Zbh (Za (pv 3) (Za (pv 2) Zaf)))))))),Pu.Zd8 (n:=1) h
   (Zaj (Za2 (Za1 (Zaa Zdz Zae)) (Zam 2))
    (Zaj (Za2 (Zf3 Zac) (Zam 3))
    (Zf5 (Zqg (E':=fun _=>E) ["MeldError", "TooManyStrips", "BadHolder", "BadWidth", "NoStrip", "OwnStrip", "BadPart", "UnlikeHolders", "TooWide", "LikeHolders", "WishStands", "TooManyWishes", "NoWish", "BookFull", "NothingDone"] (fun c hc=>by
    simp only [List.mem_cons,List.not_mem_nil,or_false] at hc
    rcases hc with rfl | rfl | rfl | rfl | rfl | rfl | rfl | rfl | rfl | rfl | rfl | rfl | rfl | rfl | rfl
    ·exact ⟨G.g_MeldError,G.x_MeldError_MeldError⟩
    ·exact ⟨G.g_TooManyStrips,G.x_TooManyStrips_MeldError⟩
    ·exact ⟨G.g_BadHolder,G.x_BadHolder_MeldError⟩
    ·exact ⟨G.g_BadWidth,G.x_BadWidth_MeldError⟩
    ·exact ⟨G.g_NoStrip,G.x_NoStrip_MeldError⟩
    ·exact ⟨G.g_OwnStrip,G.x_OwnStrip_MeldError⟩
    ·exact ⟨G.g_BadPart,G.x_BadPart_MeldError⟩
    ·exact ⟨G.g_UnlikeHolders,G.x_UnlikeHolders_MeldError⟩
    ·exact ⟨G.g_TooWide,G.x_TooWide_MeldError⟩
    ·exact ⟨G.g_LikeHolders,G.x_LikeHolders_MeldError⟩
    ·exact ⟨G.g_WishStands,G.x_WishStands_MeldError⟩
    ·exact ⟨G.g_TooManyWishes,G.x_TooManyWishes_MeldError⟩
    ·exact ⟨G.g_NoWish,G.x_NoWish_MeldError⟩
    ·exact ⟨G.g_BookFull,G.x_BookFull_MeldError⟩
    ·exact ⟨G.g_NothingDone,G.x_NothingDone_MeldError⟩)
    (fun D=>(Zaz 1 (Zjn (Zqk 0 (Zaa (Zab 1) Zae)) (Zam 3)))) (Za2 (Za1 (Zaa (Zcm (Zaa (Zab 4) (Zaa Zjr Zae))) (Zaa (Zcm (Zaa (Zab 4) (Zaa Zej Zae))) (Zaa (Zcm (Zaa (Zab 4) (Zaa Zej Zae))) (Zaa (Zcm (Zaa (Zab 4) (Zaa Zej Zae))) (Zaa (Zcm (Zaa (Zab 4) (Zaa Zej Zae))) (Zaa (Zcm (Zaa (Zab 4) (Zaa Zej Zae))) (Zaa (Zcm (Zaa (Zab 4) (Zaa Zej Zae))) (Zaa (Zcm (Zaa (Zab 4) (Zaa Zej Zae))) (Zaa (Zcm (Zaa (Zab 4) (Zaa Zej Zae))) (Zaa (Zcm (Zaa (Zab 4) (Zaa Zej Zae))) (Zaa (Zcm (Zaa (Zab 4) (Zaa Zej Zae))) (Zaa (Zcm (Zaa (Zab 4) (Zaa Zej Zae))) (Zaa (Zcm (Zaa (Zab 4) (Zaa Zej Zae))) Zae)))))))))))))) (Zam 2)))
    (Zaz 2 (Zaz 3 (Zg2 (Zbi (Zaa (Zab 3) (Zaa (Zab 2) Zae))))))))) (by decide) (fun o ss R X h=>?_)⟩
  obtain ⟨x,b1,b2,b3,bk,fs,ws,f,w,d,rfl,rfl,hb,hf,hw,hz,hy,hR⟩:=h
  refine ⟨rfl,?_⟩
  refine ⟨by simp,?_⟩
  refine Ze8 (fun γ'=>∃ (o':O) (n:D) (ks:List Bool),γ'=[some (.own o'),some (.sh (dD d.q)),some (.own (ks.map D.bl)),some (.sh n),none]∧(vO (ExcR.clsOf mg "Village") x b1 b2 b3 bk (fs++[f]) (ws++[w])).from o'∧R o' (.tup [n,.lst (ks.map D.bl)])) ?_ ?_
  ·refine ⟨x,b1,b2,b3,bk,fs,ws,f,w,d,rfl,rfl,by omega,hf,hw,hz,hy,?_⟩
   unfold callE
   rw [if_neg (by omega)]
   have hk:=d.err_cases f w
   rcases hk with e | e | e | e | e | e | e | e | e | e | e | e
   ·rw [e] at hR ⊢
    rw [if_pos rfl,if_pos rfl] at hR
    exact ⟨_,_,[true],rfl,⟨rfl,by simp⟩,hR⟩
   ·rw [e] at hR ⊢
    rw [if_neg (by intro z;cases z),if_neg (by intro z;cases z),Zde] at hR
    exact ⟨by simp,_,G.g_NoStrip,G.k_NoStrip_ValueError,_,G.g_NoStrip,G.k_NoStrip_NoStrip,_,G.g_NoStrip,G.k_NoStrip_BadHolder,_,G.g_NoStrip,G.k_NoStrip_OwnStrip,_,G.g_NoStrip,G.k_NoStrip_BadPart,_,G.g_NoStrip,G.k_NoStrip_TooManyStrips,_,G.g_NoStrip,G.k_NoStrip_UnlikeHolders,_,G.g_NoStrip,G.k_NoStrip_TooWide,_,G.g_NoStrip,G.k_NoStrip_LikeHolders,_,G.g_NoStrip,G.k_NoStrip_WishStands,_,G.g_NoStrip,G.k_NoStrip_TooManyWishes,_,G.g_NoStrip,G.k_NoStrip_NoWish,_,G.g_NoStrip,G.k_NoStrip_BookFull,by simp,_,_,[true,true,false,false,false,false,false,false,false,false,false,false,false],rfl,⟨rfl,by simp⟩,hR⟩
   ·rw [e] at hR ⊢
    rw [if_neg (by intro z;cases z),if_neg (by intro z;cases z),Zcf] at hR
    exact ⟨by simp,_,G.g_BadHolder,G.k_BadHolder_ValueError,_,G.g_BadHolder,G.k_BadHolder_NoStrip,_,G.g_BadHolder,G.k_BadHolder_BadHolder,_,G.g_BadHolder,G.k_BadHolder_OwnStrip,_,G.g_BadHolder,G.k_BadHolder_BadPart,_,G.g_BadHolder,G.k_BadHolder_TooManyStrips,_,G.g_BadHolder,G.k_BadHolder_UnlikeHolders,_,G.g_BadHolder,G.k_BadHolder_TooWide,_,G.g_BadHolder,G.k_BadHolder_LikeHolders,_,G.g_BadHolder,G.k_BadHolder_WishStands,_,G.g_BadHolder,G.k_BadHolder_TooManyWishes,_,G.g_BadHolder,G.k_BadHolder_NoWish,_,G.g_BadHolder,G.k_BadHolder_BookFull,by simp,_,_,[true,false,true,false,false,false,false,false,false,false,false,false,false],rfl,⟨rfl,by simp⟩,hR⟩
   ·rw [e] at hR ⊢
    rw [if_neg (by intro z;cases z),if_neg (by intro z;cases z),Zet] at hR
    exact ⟨by simp,_,G.g_OwnStrip,G.k_OwnStrip_ValueError,_,G.g_OwnStrip,G.k_OwnStrip_NoStrip,_,G.g_OwnStrip,G.k_OwnStrip_BadHolder,_,G.g_OwnStrip,G.k_OwnStrip_OwnStrip,_,G.g_OwnStrip,G.k_OwnStrip_BadPart,_,G.g_OwnStrip,G.k_OwnStrip_TooManyStrips,_,G.g_OwnStrip,G.k_OwnStrip_UnlikeHolders,_,G.g_OwnStrip,G.k_OwnStrip_TooWide,_,G.g_OwnStrip,G.k_OwnStrip_LikeHolders,_,G.g_OwnStrip,G.k_OwnStrip_WishStands,_,G.g_OwnStrip,G.k_OwnStrip_TooManyWishes,_,G.g_OwnStrip,G.k_OwnStrip_NoWish,_,G.g_OwnStrip,G.k_OwnStrip_BookFull,by simp,_,_,[true,false,false,true,false,false,false,false,false,false,false,false,false],rfl,⟨rfl,by simp⟩,hR⟩
   ·rw [e] at hR ⊢
    rw [if_neg (by intro z;cases z),if_neg (by intro z;cases z),Zd5] at hR
    exact ⟨by simp,_,G.g_BadPart,G.k_BadPart_ValueError,_,G.g_BadPart,G.k_BadPart_NoStrip,_,G.g_BadPart,G.k_BadPart_BadHolder,_,G.g_BadPart,G.k_BadPart_OwnStrip,_,G.g_BadPart,G.k_BadPart_BadPart,_,G.g_BadPart,G.k_BadPart_TooManyStrips,_,G.g_BadPart,G.k_BadPart_UnlikeHolders,_,G.g_BadPart,G.k_BadPart_TooWide,_,G.g_BadPart,G.k_BadPart_LikeHolders,_,G.g_BadPart,G.k_BadPart_WishStands,_,G.g_BadPart,G.k_BadPart_TooManyWishes,_,G.g_BadPart,G.k_BadPart_NoWish,_,G.g_BadPart,G.k_BadPart_BookFull,by simp,_,_,[true,false,false,false,true,false,false,false,false,false,false,false,false],rfl,⟨rfl,by simp⟩,hR⟩
   ·rw [e] at hR ⊢
    rw [if_neg (by intro z;cases z),if_neg (by intro z;cases z),Zcw] at hR
    exact ⟨by simp,_,G.g_TooManyStrips,G.k_TooManyStrips_ValueError,_,G.g_TooManyStrips,G.k_TooManyStrips_NoStrip,_,G.g_TooManyStrips,G.k_TooManyStrips_BadHolder,_,G.g_TooManyStrips,G.k_TooManyStrips_OwnStrip,_,G.g_TooManyStrips,G.k_TooManyStrips_BadPart,_,G.g_TooManyStrips,G.k_TooManyStrips_TooManyStrips,_,G.g_TooManyStrips,G.k_TooManyStrips_UnlikeHolders,_,G.g_TooManyStrips,G.k_TooManyStrips_TooWide,_,G.g_TooManyStrips,G.k_TooManyStrips_LikeHolders,_,G.g_TooManyStrips,G.k_TooManyStrips_WishStands,_,G.g_TooManyStrips,G.k_TooManyStrips_TooManyWishes,_,G.g_TooManyStrips,G.k_TooManyStrips_NoWish,_,G.g_TooManyStrips,G.k_TooManyStrips_BookFull,by simp,_,_,[true,false,false,false,false,true,false,false,false,false,false,false,false],rfl,⟨rfl,by simp⟩,hR⟩
   ·rw [e] at hR ⊢
    rw [if_neg (by intro z;cases z),if_neg (by intro z;cases z),Zcv] at hR
    exact ⟨by simp,_,G.g_UnlikeHolders,G.k_UnlikeHolders_ValueError,_,G.g_UnlikeHolders,G.k_UnlikeHolders_NoStrip,_,G.g_UnlikeHolders,G.k_UnlikeHolders_BadHolder,_,G.g_UnlikeHolders,G.k_UnlikeHolders_OwnStrip,_,G.g_UnlikeHolders,G.k_UnlikeHolders_BadPart,_,G.g_UnlikeHolders,G.k_UnlikeHolders_TooManyStrips,_,G.g_UnlikeHolders,G.k_UnlikeHolders_UnlikeHolders,_,G.g_UnlikeHolders,G.k_UnlikeHolders_TooWide,_,G.g_UnlikeHolders,G.k_UnlikeHolders_LikeHolders,_,G.g_UnlikeHolders,G.k_UnlikeHolders_WishStands,_,G.g_UnlikeHolders,G.k_UnlikeHolders_TooManyWishes,_,G.g_UnlikeHolders,G.k_UnlikeHolders_NoWish,_,G.g_UnlikeHolders,G.k_UnlikeHolders_BookFull,by simp,_,_,[true,false,false,false,false,false,true,false,false,false,false,false,false],rfl,⟨rfl,by simp⟩,hR⟩
   ·rw [e] at hR ⊢
    rw [if_neg (by intro z;cases z),if_neg (by intro z;cases z),Zfe] at hR
    exact ⟨by simp,_,G.g_TooWide,G.k_TooWide_ValueError,_,G.g_TooWide,G.k_TooWide_NoStrip,_,G.g_TooWide,G.k_TooWide_BadHolder,_,G.g_TooWide,G.k_TooWide_OwnStrip,_,G.g_TooWide,G.k_TooWide_BadPart,_,G.g_TooWide,G.k_TooWide_TooManyStrips,_,G.g_TooWide,G.k_TooWide_UnlikeHolders,_,G.g_TooWide,G.k_TooWide_TooWide,_,G.g_TooWide,G.k_TooWide_LikeHolders,_,G.g_TooWide,G.k_TooWide_WishStands,_,G.g_TooWide,G.k_TooWide_TooManyWishes,_,G.g_TooWide,G.k_TooWide_NoWish,_,G.g_TooWide,G.k_TooWide_BookFull,by simp,_,_,[true,false,false,false,false,false,false,true,false,false,false,false,false],rfl,⟨rfl,by simp⟩,hR⟩
   ·rw [e] at hR ⊢
    rw [if_neg (by intro z;cases z),if_neg (by intro z;cases z),Zdf] at hR
    exact ⟨by simp,_,G.g_LikeHolders,G.k_LikeHolders_ValueError,_,G.g_LikeHolders,G.k_LikeHolders_NoStrip,_,G.g_LikeHolders,G.k_LikeHolders_BadHolder,_,G.g_LikeHolders,G.k_LikeHolders_OwnStrip,_,G.g_LikeHolders,G.k_LikeHolders_BadPart,_,G.g_LikeHolders,G.k_LikeHolders_TooManyStrips,_,G.g_LikeHolders,G.k_LikeHolders_UnlikeHolders,_,G.g_LikeHolders,G.k_LikeHolders_TooWide,_,G.g_LikeHolders,G.k_LikeHolders_LikeHolders,_,G.g_LikeHolders,G.k_LikeHolders_WishStands,_,G.g_LikeHolders,G.k_LikeHolders_TooManyWishes,_,G.g_LikeHolders,G.k_LikeHolders_NoWish,_,G.g_LikeHolders,G.k_LikeHolders_BookFull,by simp,_,_,[true,false,false,false,false,false,false,false,true,false,false,false,false],rfl,⟨rfl,by simp⟩,hR⟩
   ·rw [e] at hR ⊢
    rw [if_neg (by intro z;cases z),if_neg (by intro z;cases z),Zdq] at hR
    exact ⟨by simp,_,G.g_WishStands,G.k_WishStands_ValueError,_,G.g_WishStands,G.k_WishStands_NoStrip,_,G.g_WishStands,G.k_WishStands_BadHolder,_,G.g_WishStands,G.k_WishStands_OwnStrip,_,G.g_WishStands,G.k_WishStands_BadPart,_,G.g_WishStands,G.k_WishStands_TooManyStrips,_,G.g_WishStands,G.k_WishStands_UnlikeHolders,_,G.g_WishStands,G.k_WishStands_TooWide,_,G.g_WishStands,G.k_WishStands_LikeHolders,_,G.g_WishStands,G.k_WishStands_WishStands,_,G.g_WishStands,G.k_WishStands_TooManyWishes,_,G.g_WishStands,G.k_WishStands_NoWish,_,G.g_WishStands,G.k_WishStands_BookFull,by simp,_,_,[true,false,false,false,false,false,false,false,false,true,false,false,false],rfl,⟨rfl,by simp⟩,hR⟩
   ·rw [e] at hR ⊢
    rw [if_neg (by intro z;cases z),if_neg (by intro z;cases z),Zcs] at hR
    exact ⟨by simp,_,G.g_TooManyWishes,G.k_TooManyWishes_ValueError,_,G.g_TooManyWishes,G.k_TooManyWishes_NoStrip,_,G.g_TooManyWishes,G.k_TooManyWishes_BadHolder,_,G.g_TooManyWishes,G.k_TooManyWishes_OwnStrip,_,G.g_TooManyWishes,G.k_TooManyWishes_BadPart,_,G.g_TooManyWishes,G.k_TooManyWishes_TooManyStrips,_,G.g_TooManyWishes,G.k_TooManyWishes_UnlikeHolders,_,G.g_TooManyWishes,G.k_TooManyWishes_TooWide,_,G.g_TooManyWishes,G.k_TooManyWishes_LikeHolders,_,G.g_TooManyWishes,G.k_TooManyWishes_WishStands,_,G.g_TooManyWishes,G.k_TooManyWishes_TooManyWishes,_,G.g_TooManyWishes,G.k_TooManyWishes_NoWish,_,G.g_TooManyWishes,G.k_TooManyWishes_BookFull,by simp,_,_,[true,false,false,false,false,false,false,false,false,false,true,false,false],rfl,⟨rfl,by simp⟩,hR⟩
   ·rw [e] at hR ⊢
    rw [if_neg (by intro z;cases z),if_neg (by intro z;cases z),Zf8] at hR
    exact ⟨by simp,_,G.g_NoWish,G.k_NoWish_ValueError,_,G.g_NoWish,G.k_NoWish_NoStrip,_,G.g_NoWish,G.k_NoWish_BadHolder,_,G.g_NoWish,G.k_NoWish_OwnStrip,_,G.g_NoWish,G.k_NoWish_BadPart,_,G.g_NoWish,G.k_NoWish_TooManyStrips,_,G.g_NoWish,G.k_NoWish_UnlikeHolders,_,G.g_NoWish,G.k_NoWish_TooWide,_,G.g_NoWish,G.k_NoWish_LikeHolders,_,G.g_NoWish,G.k_NoWish_WishStands,_,G.g_NoWish,G.k_NoWish_TooManyWishes,_,G.g_NoWish,G.k_NoWish_NoWish,_,G.g_NoWish,G.k_NoWish_BookFull,by simp,_,_,[true,false,false,false,false,false,false,false,false,false,false,true,false],rfl,⟨rfl,by simp⟩,hR⟩
  ·rintro γ' ⟨o',n,ks,rfl,hfr,hR'⟩
   exact ⟨by simp,_,rfl,hfr,hR'⟩
theorem Zlq (G:Glob K mg) (DD:Def K mg "_law_turn" Zfi ["_law_village", "_law_past", "_law_deed_here"])
  (c_law_do:Callee P w K mg base CX0 5 "_law_do" ["_law_village", "_law_deed_here"] (Pu.spW mg (Zk0 (ExcR.clsOf mg "Village")) K))
  (c_law_step:Callee P w K mg base CX0 2 "_law_step" ["_law_now", "_law_deed_here"] (Pu.spS mg Zin K))
  (c_law_back:Callee P w K mg base CX0 3 "_law_back" ["_law_village", "_law_past"] (Pu.spW2 mg (Ziy (ExcR.clsOf mg "Village")) K))
  (c_law_said:Callee P w K mg base CX0 2 "_law_said" ["_law_found", "_law_refusal", "_law_count"] (Pu.spOf mg Zi2 K))
  : Callee P w K mg base CX0 6 "_law_turn" ["_law_village", "_law_past", "_law_deed_here"] (Pu.spW2 mg (Zh9 (ExcR.clsOf mg "Village")) K):=by
 refine DD.ok (k:=5) sc_law_turn (fun vs H Q E h=>Pu.Zmk (n:=1) h (fun o1 o2 ss R X h=>?_)) (fun f cdv A outer s H vs Q E hr h=>?_)
 ·obtain ⟨x,b1,b2,b3,a,f0,hs,q,rfl,rfl,rfl,hz,hf,hor⟩:=h
  rfl
 ·refine ⟨_,(Zag (Za3 (Zal (Pu.Zbq (K:=K) (show _ < cLine from hr.units0)) (Zao (Own.Zai (K:=K)) (pv 2) Zad (fun _ _=>rfl)) Zbn (nomark _))
   (Zah (Zas (Own.Za4 c_law_back (hr.mono (by decide)) pass0 (Za (pv 0) (Za (pv 1) Zaf)))))
   Zaq)
   (Zag (Pu.pz 3 sc_law_turn.nd (Own.Za4 c_law_do (hr.mono (by decide)) pass0 (Za (pv 0) (Za (pv 2) Zaf))))
   (Zag (Pu.pz 4 sc_law_turn.nd (Own.Za4 c_law_step (hr.mono (by decide)) pass0 (Za (Zao (Own.Zai (K:=K)) (pv 1) (Zi7 Zf0 Zad) (fun _ _=>rfl)) (Za (pv 2) Zaf))))
   (Zag (Za3 (Zdv (Pu.Zds (K:=K) (Own.Za4 c_law_said (hr.mono (by decide)) pass0 (Za (pv 3) (Za (Zao (Own.Zai (K:=K)) (pv 4) Zad (fun _ _=>rfl)) (Za (Zan (Own.Zax (K:=K)) (by rfl) G.len PySem.boot_len (Za (pv 1) Zaf)) Zaf))))))
   (Zah (Zas Zd0))
   Zaq)
   (Own.Zen (Za3 (Zal (Pu.Zbq (K:=K) (show _ < cLine from hr.units0)) (Zao (Own.Zai (K:=K)) (pv 4) Zad (fun _ _=>rfl)) Zad (nomark _))
   (Zah (Zbv (Zm9 PySem.F.plainAttrs_list PySem.F.slot_list_append PySem.F.type_list_append Zdy (pv 1) (Za (Zbh (Za (Zao (Own.Zai (K:=K)) (pv 4) Zad (fun _ _=>rfl)) (Za (Zao (Own.Zai (K:=K)) (pv 4) Zad (fun _ _=>rfl)) (Za (pv 2) Zaf)))) Zaf))))
   Zaq)
   (Zah (Zas Zd0))))))),Pu.Zmd (n:=1) h
   (Zaj (Za5 (Zak (Zbl (Zap (Zab 2) Zac) Zbo)) (Zpr 1 (Zch (Zid 0 1 (by decide) Zae))) Zar)
    (Zaj (Zaz 2 (Zjn (Zpu 0 (Zaa (Zab 2) Zae)) (Zam 3)))
    (Zaj (Zaz 2 (Za2 (Zjy (Zaa (Zap (Zab 1) (Zf3 Zac)) (Zaa (Zab 2) Zae))) (Zam 4)))
    (Zaj (Za5 (Zel (Zef (Zaw (Zaa (Zab 3) (Zaa (Zap (Zab 4) Zac) (Zaa (Zbt (Zaa (Zab 1) Zae)) Zae)))))) (Zg2 Zdz) Zar)
    (Zf5 (Za5 (Zak (Zbl (Zap (Zab 4) Zac) Zac)) (Zaz 2 (Zh2 1 (Zbi (Zaa (Zap (Zab 4) Zac) (Zaa (Zap (Zab 4) Zac) (Zaa (Zab 2) Zae)))))) Zar)
    (Zg2 Zdz)))))) (by decide) (fun o1 o2 ss R X h=>?_)⟩
  obtain ⟨x,b1,b2,b3,a,f0,hs,q,rfl,rfl,rfl,hz,hf,hor⟩:=h
  refine ⟨rfl,?_⟩
  obtain ⟨⟨h1,h2⟩,h3⟩:=hf.cur
  rcases hor with ⟨rfl,hR⟩ | ⟨d,rfl,hR⟩
  ·refine ⟨_,rfl,?_⟩
   refine ⟨x,b1,b2,b3,a,f0,hs,rfl,rfl,rfl,by omega,?_⟩
   exact ⟨_,_,rfl,rfl,⟨rfl,by simp⟩,rfl,hR⟩
  ·obtain ⟨fs,ef,lf⟩:=Zk9 f0 hs
   obtain ⟨ws,ew,lw⟩:=Zlb hs
   obtain ⟨dl,el⟩:=Zgy f0 hs
   have lb:=Zjk hs
   have nb:¬ d.q.1=("back" : Str):=by
    cases d with
    | sell p h=>exact (by decide +kernel:¬ ("sell" : Str) = "back")
    | part p h=>exact (by decide +kernel:¬ ("part" : Str) = "back")
    | unite p=>exact (by decide +kernel:¬ ("unite" : Str) = "back")
    | wish p h=>exact (by decide +kernel:¬ ("wish" : Str) = "back")
    | drop p h=>exact (by decide +kernel:¬ ("drop" : Str) = "back")
   refine ⟨_,Zcx _ _,?_⟩
   show if decide (d.q.1=("back" : Str))=true then _ else _
   rw [decide_eq_false nb]
   refine iteF ?_
   refine ⟨x,b1,b2,b3,bkH hs,fs,ws,curF f0 hs,curW hs,d,by rw [← ef,← ew],rfl,by omega,by omega,by omega,by omega,by have:=h3.1;omega,?_⟩
   generalize eo:(if d.err (curF f0 hs) (curW hs)=none then vO (ExcR.clsOf mg "Village") x b1 b2 b3 (bkH hs++[d.q]) (fs++[curF f0 hs]++[d.fld (curF f0 hs)]) (ws++[curW hs]++[d.wsh (curW hs)]) else vO (ExcR.clsOf mg "Village") x b1 b2 b3 (bkH hs) (fs++[curF f0 hs]) (ws++[curW hs]))=o'
   refine ⟨_,el,curF f0 hs,curW hs,[dl],d,rfl,h2,h3.1,?_⟩
   have lp:=Ze7 f0 hs
   have en:(if d.err (curF f0 hs) (curW hs)=none then (((bkH hs).length:Nat):Int) + 1 else -1)=if codeN (d.err (curF f0 hs) (curW hs))=0 then (((pastH f0 hs).length:Nat):Int) else -1:=by
    by_cases e:d.err (curF f0 hs) (curW hs)=none
    ·rw [if_pos e,if_pos ((Dd.code0 _ _ _).mpr e),lb,lp]
     omega
    ·rw [if_neg e,if_neg fun z=>e ((Dd.code0 _ _ _).mp z)]
   rw [en]
   refine ⟨_,rfl,_,_,rfl,iteF ?_⟩
   refine Ze8 (fun γ'=>∃ t1 t2 t3:Option S,γ'=[some (.own o'),some (.own (.lsA a (pastH f0 (addH f0 hs d)))),t1,t2,t3]) ?_ ?_
   ·refine ⟨_,rfl,?_⟩
    show if decide (codeN (d.err (curF f0 hs) (curW hs))=0)=true then _ else _
    refine ite2 (fun g=>?_) (fun g=>?_)
    ·have e:=(Dd.code0 _ _ _).mp (of_decide_eq_true g)
     have ea:pastH f0 (addH f0 hs d)=pastH f0 hs++[.tup [plD (d.nf (curF f0 hs) (curW hs)),plD (d.nw (curF f0 hs) (curW hs)),dD d.q]]:=by
      unfold addH Dd.nf Dd.nw
      rw [if_pos e,if_pos e,if_pos e,Zgv]
      rfl
     rw [ea]
     exact ⟨_,rfl,_,rfl,by simp,by omega,_,_,_,rfl⟩
    ·have e:¬ d.err (curF f0 hs) (curW hs)=none:=fun z=>g (decide_eq_true ((Dd.code0 _ _ _).mpr z))
     have ea:addH f0 hs d=hs:=by unfold addH;rw [if_neg e]
     rw [ea]
     exact ⟨_,_,_,rfl⟩
   ·rintro γ' ⟨t1,t2,t3,rfl⟩
    subst eo
    by_cases e:d.err (curF f0 hs) (curW hs)=none
    ·rw [if_pos e]
     have ea:addH f0 hs d=hs++[(d,d.fld (curF f0 hs),d.wsh (curW hs))]:=by unfold addH;rw [if_pos e]
     rw [ea] at hR ⊢
     rw [Zjx,Zhl,Zhq,ef,ew] at hR
     exact ⟨_,_,rfl,rfl,⟨rfl,by simp⟩,rfl,hR⟩
    ·rw [if_neg e]
     have ea:addH f0 hs d=hs:=by unfold addH;rw [if_neg e]
     rw [ea] at hR ⊢
     rw [ef,ew] at hR
     exact ⟨_,_,rfl,rfl,⟨rfl,by simp⟩,rfl,hR⟩
theorem Zrq (G:Glob K mg) (DD:Def K mg "law" Zjd ["_law_script"])
  (c_law_menu:Callee P w K mg base CX0 1 "_law_menu" ["_law_cell"] (Pu.spOf mg Zi1 K))
  (c_law_start:Callee P w K mg base CX0 2 "_law_start" ["_law_script", "_law_menu_here", "_law_many"] (Pu.spOf mg Zg8 K))
  (c_Village_init:Pu.CalleeM P w K mg base (ExcR.CXe P w) 3 (Mk K (ExcR.clsOf mg "Village")) ["self", "strips"] (Pu.spW mg (Ze5 (ExcR.clsOf mg "Village")) K))
  (c_law_opening:Callee P w K mg base CX0 3 "_law_opening" ["_law_script", "_law_menu_here"] (Pu.spOf mg Zf4 K))
  (c_law_days:Callee P w K mg base CX0 2 "_law_days" ["_law_script", "_law_most"] (Pu.spOf mg Ziw K))
  (c_law_stands:Callee P w K mg base CX0 4 "_law_stands" ["_law_village", "_law_past"] (Pu.spOf mg (Zge (ExcR.clsOf mg "Village")) K))
  (c_law_draw:Callee P w K mg base CX0 2 "_law_draw" ["_law_script", "_law_k"] (Pu.spOf mg Zib K))
  (c_law_deed:Callee P w K mg base CX0 3 "_law_deed" ["_law_cell", "_law_menu_here", "_law_now"] (Pu.spOf mg Zip K))
  (c_law_turn:Callee P w K mg base CX0 6 "_law_turn" ["_law_village", "_law_past", "_law_deed_here"] (Pu.spW2 mg (Zh9 (ExcR.clsOf mg "Village")) K))
  (c_law_at:Callee P w K mg base CX0 1 "_law_at" ["_law_script", "_law_k"] (Pu.spOf mg Zek K))
  : Callee P w K mg base CX0 7 "law" ["_law_script"] (Pu.spOf mg Zp4 K):=by
 refine DD.ok (k:=6) sc_law (fun vs H Q E h=>Zay h (fun ds R X h=>?_)) (fun f cdv A outer s H vs Q E hr h=>?_)
 ·obtain ⟨ns,rfl,hR⟩:=h
  rfl
 ·refine ⟨_,(Zag (Pu.pz 1 sc_law.nd (Own.Za4 c_law_menu (hr.mono (by decide)) pass0 (Za (Own.Za4 c_law_draw (hr.mono (by decide)) pass0 (Za (pv 0) (Za Zad Zaf))) Zaf)))
   (Zag (Pu.pz 2 sc_law.nd (Own.Za4 c_law_start (hr.mono (by decide)) pass0 (Za (pv 0) (Za (pv 1) (Za (Zat Zba (Zat Zbk (Own.Za4 c_law_at (hr.mono (by decide)) pass0 (Za (pv 0) (Za Zad Zaf))) Zad) Zad) Zaf)))))
   (Zag (Pu.pz 3 sc_law.nd (Pu.Zrt c_Village_init G.m_Village (hr.mono (by decide)) Pu.Zo4 (Za (Zeh (Pu.Zed (K:=K)) (by rfl) G.list boot_list (Za (pv 2) Zaf)) Zaf)))
   (Zag (Pu.pz 4 sc_law.nd (Za0 (Za (Zbh (Za (pv 2) (Za (Za0 Zaf) (Za (Zbh Zaf) Zaf)))) Zaf)))
   (Zag (Zgj PassesOwn.never rfl (Pu.Zfj (K:=K) (Own.Za4 c_law_opening (hr.mono (by decide)) pass0 (Za (pv 0) (Za (pv 1) Zaf)))) (Zcl (i:=5) sc_law.nd rfl (by first | exact Or.inl rfl | exact Or.inr rfl))
   (Zah (Za3 (Zdv (Pu.Zds (K:=K) (Own.Za4 c_law_turn (hr.mono (by decide)) pass0 (Za (pv 3) (Za (pv 4) (Za (pv 5) Zaf))))))
   (Zah (Zas Zd0))
   Zaq)))
   (Zag (Zgj PassesOwn.never rfl (Pu.Zfj (K:=K) (Own.Za4 c_law_days (hr.mono (by decide)) pass0 (Za (pv 0) (Za Zad Zaf)))) (Zcl (i:=6) sc_law.nd rfl (by first | exact Or.inl rfl | exact Or.inr rfl))
   (Zag (Pu.pz 5 sc_law.nd (Own.Za4 c_law_deed (hr.mono (by decide)) pass0 (Za (pv 6) (Za (pv 1) (Za (Zao (Own.Zai (K:=K)) (pv 4) (Zi7 Zf0 Zad) (fun _ _=>rfl)) Zaf)))))
   (Zah (Za3 (PW.pt (Zei (Zdv (Pu.Zds (K:=K) (Own.Za4 c_law_turn (hr.mono (by decide)) pass0 (Za (pv 3) (Za (pv 4) (Za (pv 5) Zaf)))))) (Zc1 (Zdv (Pu.Zds (K:=K) (Own.Za4 c_law_stands (hr.mono (by decide)) pass0 (Za (pv 3) (Za (pv 4) Zaf))))))))
   (Zah (Zas Zd0))
   Zaq))))
   (Zah (Zas (Own.Za4 c_law_stands (hr.mono (by decide)) pass0 (Za (pv 3) (Za (pv 4) Zaf))))))))))),Pu.Zbf (n:=1) h
   (Zaj (Za2 (Zaw (Zaa (Zaw (Zaa (Zab 0) (Zaa Zac Zae))) Zae)) (Zam 1))
    (Zaj (Za2 (Zaw (Zaa (Zab 0) (Zaa (Zab 1) (Zaa (Zb (Zbj (Zaw (Zaa (Zab 0) (Zaa Zac Zae))) Zac) Zac) Zae)))) (Zam 2))
    (Zaj (Za2 (Zpy (Zaa (Ziv (Zaa (Zab 2) Zae)) Zae)) (Zam 3))
    (Zaj (Zaz 2 (Za2 (Za1 (Zaa (Zbi (Zaa (Zab 2) (Zaa (Za1 Zae) (Zaa (Zbi Zae) Zae)))) Zae)) (Zam 4)))
    (Zaj (Zpr 4 (Zgl [5] (Zlg (Zaw (Zaa (Zab 0) (Zaa (Zab 1) Zae)))) (Zam 5)
    (Zaz 5 (Zpr 4 (Zqi (Zqe (sv_w (Zid 3 4 (by decide) (Zaa (Zab 5) Zae)))) (Zav Zdz) Zar)))))
    (Zaj (Zgl [5,6] (Zlg (Zaw (Zaa (Zab 0) (Zaa Zac Zae)))) (Zam 6)
    (Zaj (Za2 (Zaw (Zaa (Zab 6) (Zaa (Zab 1) (Zaa (Zap (Zab 4) (Zf3 Zac)) Zae)))) (Zam 5))
    (Zaz 5 (Zpr 4 (Zqi (Zsb (Zqe (sv_w (Zid 3 4 (by decide) (Zaa (Zab 5) Zae)))) (sv_p (Zel (Zef (Zaw (Zaa (Zab 3) (Zaa (Zab 4) Zae))))))) (Zav Zdz) Zar)))))
    (Zav (Zaw (Zaa (Zab 3) (Zaa (Zab 4) Zae)))))))))) (by decide) (fun ds R X h=>?_)⟩
  obtain ⟨ns,rfl,hR⟩:=h
  refine ⟨rfl,?_⟩
  refine ⟨ns,0,rfl,by decide,fun c0=>⟨c0,rfl,fun m hM=>?_⟩⟩
  refine ⟨ns,0,rfl,by decide,⟨by decide,by decide⟩,(by show (0:Int) < 41;decide),ns,m,_,rfl,hM,by omega,by omega,fun ps hF hlen=>?_⟩
  have hz:ps.length≤40:=by omega
  refine ⟨rfl,fun x=>⟨x,ps,rfl,rfl,by omega,?_⟩⟩
  rw [Zkr hF hz]
  refine fun b1 b2 b3=>⟨rfl,?_⟩
  refine ⟨by simp,by simp,by simp,by simp,fun a=>?_⟩
  refine ⟨ns,m,rfl,hM,fun qs hq=>?_⟩
  refine ⟨rfl,Zn7 (xs:=qs) (emb:=fun q:Int×Int=>dD (Dd.wish q.1 q.2).q) (fun i γ'=>∃ hs:Hist,hs.length≤i∧FineH ps hs∧γ'=[some (.bor (.scr ns)),some (.own (m.map D.int)),some (.sh (plD ps)),some (.own (vO (ExcR.clsOf mg "Village") x b1 b2 b3 (bkH hs) (fsH ps hs) (wsH hs))),some (.own (.lsA a (pastH ps hs))),none,none]) ?_ ?_ ?_⟩
  ·exact ⟨[],Nat.zero_le _,FineH.nil hF hz,rfl⟩
  ·rintro i γ' hi ⟨hs,h1,h2,rfl⟩
   refine ⟨x,b1,b2,b3,a,ps,hs,_,rfl,rfl,rfl,by omega,h2,.inr ⟨.wish qs[i].1 qs[i].2,rfl,?_⟩⟩
   refine iteF ?_
   exact ⟨addH ps hs (.wish qs[i].1 qs[i].2),by have:=Zmg ps hs (.wish qs[i].1 qs[i].2);omega,h2.add _,rfl⟩
  ·rintro γ' ⟨hs,h1,h2,rfl⟩
   refine ⟨ns,60,rfl,by decide,by decide,fun cs hc=>?_⟩
   refine ⟨rfl,Zn7 (xs:=cs) (emb:=D.int) (fun i γ'=>∃ hs:Hist,hs.length≤24 + i∧FineH ps hs∧γ'=[some (.bor (.scr ns)),some (.own (m.map D.int)),some (.sh (plD ps)),some (.own (vO (ExcR.clsOf mg "Village") x b1 b2 b3 (bkH hs) (fsH ps hs) (wsH hs))),some (.own (.lsA a (pastH ps hs))),none,none]) ?_ ?_ ?_⟩
   ·exact ⟨hs,by omega,h2,rfl⟩
   ·rintro i γ' hi ⟨hs,h1,h2,rfl⟩
    obtain ⟨⟨c1,c2⟩,c3⟩:=h2.cur
    obtain ⟨dl,el⟩:=Zgy ps hs
    refine ⟨_,el,_,m,curF ps hs,curW hs,[dl],rfl,hM,by omega,c1,by have:=c3.1;omega,fun d=>?_,?_⟩
    ·refine ⟨x,b1,b2,b3,a,ps,hs,_,rfl,rfl,rfl,by omega,h2,.inr ⟨d,rfl,?_⟩⟩
     have la:=Zmg ps hs d
     have hk:=h2.add d
     exact ⟨ps,addH ps hs d,rfl,by omega,hk.len.1,hk.len.2,addH ps hs d,by omega,hk,rfl⟩
    ·refine ⟨x,b1,b2,b3,a,ps,hs,_,rfl,rfl,rfl,by omega,h2,.inl ⟨rfl,?_⟩⟩
     have la:hs.dropLast.length≤hs.length:=by rw [List.length_dropLast];omega
     have hk:=h2.back
     exact ⟨ps,hs.dropLast,rfl,by omega,hk.len.1,hk.len.2,hs.dropLast,by omega,hk,rfl⟩
   ·rintro γ' ⟨hs,h1,h2,rfl⟩
    exact ⟨ps,hs,rfl,by omega,h2.len.1,h2.len.2,hR⟩
end
end T
namespace T
open PySem PySem.Spec PyProof.Rows L2 Own M
theorem Zrw {l:PySem.W.OpenLaw} {w:World} {K:PySem.W.Frag} {h:Heap} {mg:Str→Option Value} {fa:Addr} (X:K.In h) (G0:h.Ns mainGlobals mg) (hfa:mg "law" = some (.ref fa))
  {C_Village:Addr} (a_Village:PySem.W.nsIn K mainGlobals "Village" = some (some (.ref C_Village)))
  (pg_Village:PySem.W.plainGet K C_Village Str.empty=true) (hd_Village:PySem.W.hasDictIn K C_Village=true) (po_Village:PySem.W.plainOver K C_Village=true) (sa_Village:PySem.W.findIn K (.ref C_Village) "__setattr__" = some (some (.builtin "object.__setattr__"))) (mk_Village:PySem.W.makesIn K C_Village=true) (kc_Village:PySem.W.keepIn K (.ref C_Village)=true)
  (nA_Village_book:PySem.W.findIn K (.ref C_Village) "book" = some none)
  (nA_Village_fields:PySem.W.findIn K (.ref C_Village) "fields" = some none)
  (nA_Village_wished:PySem.W.findIn K (.ref C_Village) "wished" = some none)
  (a0:Pu.DI K "check_holder" Zdb)
  (a1:Pu.DI K "check_width" Zdj)
  (a2:Pu.DI K "check_strips" Zdc)
  (a3:Pu.DI K "check_neighbours" Zc)
  (a4:Pu.DI K "check_place" Zdn)
  (a5:Pu.DI K "sold" Zl8)
  (a6:Pu.DI K "parted" Zhj)
  (a7:Pu.DI K "united" Zho)
  (a8:Pu.DI K "with_wish" Zew)
  (a9:Pu.DI K "without_wish" Zc9)
  (a10:Pu.MI K C_Village "__init__" "Village.__init__" Zc8)
  (a11:Pu.MI K C_Village "strips" "Village.strips" Zck)
  (a12:Pu.MI K C_Village "wishes" "Village.wishes" Zci)
  (a13:Pu.MI K C_Village "deeds" "Village.deeds" Zct)
  (a14:Pu.MI K C_Village "check_room" "Village.check_room" Zb0)
  (a15:Pu.MI K C_Village "enter" "Village.enter" Zc0)
  (a16:Pu.MI K C_Village "sell" "Village.sell" Zc6)
  (a17:Pu.MI K C_Village "part" "Village.part" Zc7)
  (a18:Pu.MI K C_Village "unite" "Village.unite" Zcy)
  (a19:Pu.MI K C_Village "wish" "Village.wish" Zd)
  (a20:Pu.MI K C_Village "drop" "Village.drop" Zda)
  (a21:Pu.MI K C_Village "take_back" "Village.take_back" Zb4)
  (a22:Pu.DI K "_law_at" Zhk)
  (a23:Pu.DI K "_law_whole" Zeu)
  (a24:Pu.DI K "_law_mix" Zgi)
  (a25:Pu.DI K "_law_draw" Zfh)
  (a26:Pu.DI K "_law_menu" Zfo)
  (a27:Pu.DI K "_law_holder" Zd3)
  (a28:Pu.DI K "_law_tuples" Zd2)
  (a29:Pu.DI K "_law_deed_is" Zdk)
  (a30:Pu.DI K "_law_book_is" Zdo)
  (a31:Pu.DI K "_law_field_step" Zcj)
  (a32:Pu.DI K "_law_wish_step" Zcp)
  (a33:Pu.DI K "_law_step" Zft)
  (a34:Pu.DI K "_law_call" Zfn)
  (a35:Pu.DI K "_law_do" Zhn)
  (a36:Pu.DI K "_law_said" Zfq)
  (a37:Pu.DI K "_law_back" Zfr)
  (a38:Pu.DI K "_law_stands" Zd1)
  (a39:Pu.DI K "_law_turn" Zfi)
  (a40:Pu.DI K "_law_start" Zep)
  (a41:Pu.DI K "_law_days" Zfm)
  (a42:Pu.DI K "_law_odd" Zgf)
  (a43:Pu.DI K "_law_place" Zeo)
  (a44:Pu.DI K "_law_pair" Zfk)
  (a45:Pu.DI K "_law_opening" Zdl)
  (a46:Pu.DI K "_law_width" Zer)
  (a47:Pu.DI K "_law_deed" Zfl)
  {f48:Addr} {od48 an48:Option Addr} {sl48:Array (Option Value)} {oc48 kV48 dc48 pm48 cd48 ct48:Value}
  (a48:PySem.W.nsIn K mainGlobals "law" = some (some (.ref f48)))
  (l48:K.lookup f48=some ⟨oc48,od48,.func (PySem.W.fnOf "law" "law" (defArgs Zjd) (defBody Zjd) (defScope Zjd) .none kV48 dc48 pm48 an48 cd48 ct48),sl48⟩)
  (c48:PySem.W.codeIn K cd48 "law" = true) (k48:PySem.W.keepIn K (.ref f48)=true)
  (z_ValueError:PySem.W.nsIn K mainGlobals "ValueError" = some none)
  (z_bool:PySem.W.nsIn K mainGlobals "bool" = some none)
  (z_int:PySem.W.nsIn K mainGlobals "int" = some none)
  (z_isinstance:PySem.W.nsIn K mainGlobals "isinstance" = some none)
  (z_len:PySem.W.nsIn K mainGlobals "len" = some none)
  (z_list:PySem.W.nsIn K mainGlobals "list" = some none)
  (z_max:PySem.W.nsIn K mainGlobals "max" = some none)
  (z_min:PySem.W.nsIn K mainGlobals "min" = some none)
  (z_range:PySem.W.nsIn K mainGlobals "range" = some none)
  (z_str:PySem.W.nsIn K mainGlobals "str" = some none)
  (z_tuple:PySem.W.nsIn K mainGlobals "tuple" = some none)
  {t_HOLDERS:Tok} (z_HOLDERS:PySem.W.nsIn K mainGlobals "HOLDERS" = some (some (.int 10 t_HOLDERS)))
  {t_STRIPS:Tok} (z_STRIPS:PySem.W.nsIn K mainGlobals "STRIPS" = some (some (.int 40 t_STRIPS)))
  {t_WIDEST:Tok} (z_WIDEST:PySem.W.nsIn K mainGlobals "WIDEST" = some (some (.int 1000 t_WIDEST)))
  {t_MOST_WISHES:Tok} (z_MOST_WISHES:PySem.W.nsIn K mainGlobals "MOST_WISHES" = some (some (.int 20 t_MOST_WISHES)))
  {t_MOST_DEEDS:Tok} (z_MOST_DEEDS:PySem.W.nsIn K mainGlobals "MOST_DEEDS" = some (some (.int 100 t_MOST_DEEDS)))
  {C_MeldError:Addr} {d_MeldError:ClassData} (a_MeldError:PySem.W.nsIn K mainGlobals "MeldError" = some (some (.ref C_MeldError))) (q_MeldError:PySem.W.excIn K C_MeldError [.type "ValueError",.type "Exception",.type "BaseException",.type "object"] "ValueError.__new__" = true)
  (ga_MeldError:PySem.W.findIn K (.ref C_MeldError) "__getattribute__" = some (some (.builtin "BaseException.__getattribute__"))) (gt_MeldError:PySem.W.findIn K (.ref C_MeldError) "__getattr__" = some none)
  (cl_MeldError:PySem.W.findIn K (.ref C_MeldError) "__class__" = some (some (.builtin "object.__class__"))) (i_MeldError:PySem.W.clsIn K C_MeldError=some d_MeldError)
  {C_TooManyStrips:Addr} {d_TooManyStrips:ClassData} (a_TooManyStrips:PySem.W.nsIn K mainGlobals "TooManyStrips" = some (some (.ref C_TooManyStrips))) (q_TooManyStrips:PySem.W.excIn K C_TooManyStrips [.type "ValueError",.type "Exception",.type "BaseException",.type "object"] "ValueError.__new__" = true)
  (ga_TooManyStrips:PySem.W.findIn K (.ref C_TooManyStrips) "__getattribute__" = some (some (.builtin "BaseException.__getattribute__"))) (gt_TooManyStrips:PySem.W.findIn K (.ref C_TooManyStrips) "__getattr__" = some none)
  (cl_TooManyStrips:PySem.W.findIn K (.ref C_TooManyStrips) "__class__" = some (some (.builtin "object.__class__"))) (i_TooManyStrips:PySem.W.clsIn K C_TooManyStrips=some d_TooManyStrips)
  {C_BadHolder:Addr} {d_BadHolder:ClassData} (a_BadHolder:PySem.W.nsIn K mainGlobals "BadHolder" = some (some (.ref C_BadHolder))) (q_BadHolder:PySem.W.excIn K C_BadHolder [.type "ValueError",.type "Exception",.type "BaseException",.type "object"] "ValueError.__new__" = true)
  (ga_BadHolder:PySem.W.findIn K (.ref C_BadHolder) "__getattribute__" = some (some (.builtin "BaseException.__getattribute__"))) (gt_BadHolder:PySem.W.findIn K (.ref C_BadHolder) "__getattr__" = some none)
  (cl_BadHolder:PySem.W.findIn K (.ref C_BadHolder) "__class__" = some (some (.builtin "object.__class__"))) (i_BadHolder:PySem.W.clsIn K C_BadHolder=some d_BadHolder)
  {C_BadWidth:Addr} {d_BadWidth:ClassData} (a_BadWidth:PySem.W.nsIn K mainGlobals "BadWidth" = some (some (.ref C_BadWidth))) (q_BadWidth:PySem.W.excIn K C_BadWidth [.type "ValueError",.type "Exception",.type "BaseException",.type "object"] "ValueError.__new__" = true)
  (ga_BadWidth:PySem.W.findIn K (.ref C_BadWidth) "__getattribute__" = some (some (.builtin "BaseException.__getattribute__"))) (gt_BadWidth:PySem.W.findIn K (.ref C_BadWidth) "__getattr__" = some none)
  (cl_BadWidth:PySem.W.findIn K (.ref C_BadWidth) "__class__" = some (some (.builtin "object.__class__"))) (i_BadWidth:PySem.W.clsIn K C_BadWidth=some d_BadWidth)
  {C_NoStrip:Addr} {d_NoStrip:ClassData} (a_NoStrip:PySem.W.nsIn K mainGlobals "NoStrip" = some (some (.ref C_NoStrip))) (q_NoStrip:PySem.W.excIn K C_NoStrip [.type "ValueError",.type "Exception",.type "BaseException",.type "object"] "ValueError.__new__" = true)
  (ga_NoStrip:PySem.W.findIn K (.ref C_NoStrip) "__getattribute__" = some (some (.builtin "BaseException.__getattribute__"))) (gt_NoStrip:PySem.W.findIn K (.ref C_NoStrip) "__getattr__" = some none)
  (cl_NoStrip:PySem.W.findIn K (.ref C_NoStrip) "__class__" = some (some (.builtin "object.__class__"))) (i_NoStrip:PySem.W.clsIn K C_NoStrip=some d_NoStrip)
  {C_OwnStrip:Addr} {d_OwnStrip:ClassData} (a_OwnStrip:PySem.W.nsIn K mainGlobals "OwnStrip" = some (some (.ref C_OwnStrip))) (q_OwnStrip:PySem.W.excIn K C_OwnStrip [.type "ValueError",.type "Exception",.type "BaseException",.type "object"] "ValueError.__new__" = true)
  (ga_OwnStrip:PySem.W.findIn K (.ref C_OwnStrip) "__getattribute__" = some (some (.builtin "BaseException.__getattribute__"))) (gt_OwnStrip:PySem.W.findIn K (.ref C_OwnStrip) "__getattr__" = some none)
  (cl_OwnStrip:PySem.W.findIn K (.ref C_OwnStrip) "__class__" = some (some (.builtin "object.__class__"))) (i_OwnStrip:PySem.W.clsIn K C_OwnStrip=some d_OwnStrip)
  {C_BadPart:Addr} {d_BadPart:ClassData} (a_BadPart:PySem.W.nsIn K mainGlobals "BadPart" = some (some (.ref C_BadPart))) (q_BadPart:PySem.W.excIn K C_BadPart [.type "ValueError",.type "Exception",.type "BaseException",.type "object"] "ValueError.__new__" = true)
  (ga_BadPart:PySem.W.findIn K (.ref C_BadPart) "__getattribute__" = some (some (.builtin "BaseException.__getattribute__"))) (gt_BadPart:PySem.W.findIn K (.ref C_BadPart) "__getattr__" = some none)
  (cl_BadPart:PySem.W.findIn K (.ref C_BadPart) "__class__" = some (some (.builtin "object.__class__"))) (i_BadPart:PySem.W.clsIn K C_BadPart=some d_BadPart)
  {C_UnlikeHolders:Addr} {d_UnlikeHolders:ClassData} (a_UnlikeHolders:PySem.W.nsIn K mainGlobals "UnlikeHolders" = some (some (.ref C_UnlikeHolders))) (q_UnlikeHolders:PySem.W.excIn K C_UnlikeHolders [.type "ValueError",.type "Exception",.type "BaseException",.type "object"] "ValueError.__new__" = true)
  (ga_UnlikeHolders:PySem.W.findIn K (.ref C_UnlikeHolders) "__getattribute__" = some (some (.builtin "BaseException.__getattribute__"))) (gt_UnlikeHolders:PySem.W.findIn K (.ref C_UnlikeHolders) "__getattr__" = some none)
  (cl_UnlikeHolders:PySem.W.findIn K (.ref C_UnlikeHolders) "__class__" = some (some (.builtin "object.__class__"))) (i_UnlikeHolders:PySem.W.clsIn K C_UnlikeHolders=some d_UnlikeHolders)
  {C_TooWide:Addr} {d_TooWide:ClassData} (a_TooWide:PySem.W.nsIn K mainGlobals "TooWide" = some (some (.ref C_TooWide))) (q_TooWide:PySem.W.excIn K C_TooWide [.type "ValueError",.type "Exception",.type "BaseException",.type "object"] "ValueError.__new__" = true)
  (ga_TooWide:PySem.W.findIn K (.ref C_TooWide) "__getattribute__" = some (some (.builtin "BaseException.__getattribute__"))) (gt_TooWide:PySem.W.findIn K (.ref C_TooWide) "__getattr__" = some none)
  (cl_TooWide:PySem.W.findIn K (.ref C_TooWide) "__class__" = some (some (.builtin "object.__class__"))) (i_TooWide:PySem.W.clsIn K C_TooWide=some d_TooWide)
  {C_LikeHolders:Addr} {d_LikeHolders:ClassData} (a_LikeHolders:PySem.W.nsIn K mainGlobals "LikeHolders" = some (some (.ref C_LikeHolders))) (q_LikeHolders:PySem.W.excIn K C_LikeHolders [.type "ValueError",.type "Exception",.type "BaseException",.type "object"] "ValueError.__new__" = true)
  (ga_LikeHolders:PySem.W.findIn K (.ref C_LikeHolders) "__getattribute__" = some (some (.builtin "BaseException.__getattribute__"))) (gt_LikeHolders:PySem.W.findIn K (.ref C_LikeHolders) "__getattr__" = some none)
  (cl_LikeHolders:PySem.W.findIn K (.ref C_LikeHolders) "__class__" = some (some (.builtin "object.__class__"))) (i_LikeHolders:PySem.W.clsIn K C_LikeHolders=some d_LikeHolders)
  {C_WishStands:Addr} {d_WishStands:ClassData} (a_WishStands:PySem.W.nsIn K mainGlobals "WishStands" = some (some (.ref C_WishStands))) (q_WishStands:PySem.W.excIn K C_WishStands [.type "ValueError",.type "Exception",.type "BaseException",.type "object"] "ValueError.__new__" = true)
  (ga_WishStands:PySem.W.findIn K (.ref C_WishStands) "__getattribute__" = some (some (.builtin "BaseException.__getattribute__"))) (gt_WishStands:PySem.W.findIn K (.ref C_WishStands) "__getattr__" = some none)
  (cl_WishStands:PySem.W.findIn K (.ref C_WishStands) "__class__" = some (some (.builtin "object.__class__"))) (i_WishStands:PySem.W.clsIn K C_WishStands=some d_WishStands)
  {C_TooManyWishes:Addr} {d_TooManyWishes:ClassData} (a_TooManyWishes:PySem.W.nsIn K mainGlobals "TooManyWishes" = some (some (.ref C_TooManyWishes))) (q_TooManyWishes:PySem.W.excIn K C_TooManyWishes [.type "ValueError",.type "Exception",.type "BaseException",.type "object"] "ValueError.__new__" = true)
  (ga_TooManyWishes:PySem.W.findIn K (.ref C_TooManyWishes) "__getattribute__" = some (some (.builtin "BaseException.__getattribute__"))) (gt_TooManyWishes:PySem.W.findIn K (.ref C_TooManyWishes) "__getattr__" = some none)
  (cl_TooManyWishes:PySem.W.findIn K (.ref C_TooManyWishes) "__class__" = some (some (.builtin "object.__class__"))) (i_TooManyWishes:PySem.W.clsIn K C_TooManyWishes=some d_TooManyWishes)
  {C_NoWish:Addr} {d_NoWish:ClassData} (a_NoWish:PySem.W.nsIn K mainGlobals "NoWish" = some (some (.ref C_NoWish))) (q_NoWish:PySem.W.excIn K C_NoWish [.type "ValueError",.type "Exception",.type "BaseException",.type "object"] "ValueError.__new__" = true)
  (ga_NoWish:PySem.W.findIn K (.ref C_NoWish) "__getattribute__" = some (some (.builtin "BaseException.__getattribute__"))) (gt_NoWish:PySem.W.findIn K (.ref C_NoWish) "__getattr__" = some none)
  (cl_NoWish:PySem.W.findIn K (.ref C_NoWish) "__class__" = some (some (.builtin "object.__class__"))) (i_NoWish:PySem.W.clsIn K C_NoWish=some d_NoWish)
  {C_BookFull:Addr} {d_BookFull:ClassData} (a_BookFull:PySem.W.nsIn K mainGlobals "BookFull" = some (some (.ref C_BookFull))) (q_BookFull:PySem.W.excIn K C_BookFull [.type "ValueError",.type "Exception",.type "BaseException",.type "object"] "ValueError.__new__" = true)
  (ga_BookFull:PySem.W.findIn K (.ref C_BookFull) "__getattribute__" = some (some (.builtin "BaseException.__getattribute__"))) (gt_BookFull:PySem.W.findIn K (.ref C_BookFull) "__getattr__" = some none)
  (cl_BookFull:PySem.W.findIn K (.ref C_BookFull) "__class__" = some (some (.builtin "object.__class__"))) (i_BookFull:PySem.W.clsIn K C_BookFull=some d_BookFull)
  {C_NothingDone:Addr} {d_NothingDone:ClassData} (a_NothingDone:PySem.W.nsIn K mainGlobals "NothingDone" = some (some (.ref C_NothingDone))) (q_NothingDone:PySem.W.excIn K C_NothingDone [.type "ValueError",.type "Exception",.type "BaseException",.type "object"] "ValueError.__new__" = true)
  (ga_NothingDone:PySem.W.findIn K (.ref C_NothingDone) "__getattribute__" = some (some (.builtin "BaseException.__getattribute__"))) (gt_NothingDone:PySem.W.findIn K (.ref C_NothingDone) "__getattr__" = some none)
  (cl_NothingDone:PySem.W.findIn K (.ref C_NothingDone) "__class__" = some (some (.builtin "object.__class__"))) (i_NothingDone:PySem.W.clsIn K C_NothingDone=some d_NothingDone)
  (x_MeldError_MeldError:PySem.W.exmOne K (.ref C_MeldError) (.ref C_MeldError)=some true)
  (x_TooManyStrips_MeldError:PySem.W.exmOne K (.ref C_TooManyStrips) (.ref C_MeldError)=some true)
  (x_BadHolder_MeldError:PySem.W.exmOne K (.ref C_BadHolder) (.ref C_MeldError)=some true)
  (x_BadWidth_MeldError:PySem.W.exmOne K (.ref C_BadWidth) (.ref C_MeldError)=some true)
  (x_NoStrip_MeldError:PySem.W.exmOne K (.ref C_NoStrip) (.ref C_MeldError)=some true)
  (x_OwnStrip_MeldError:PySem.W.exmOne K (.ref C_OwnStrip) (.ref C_MeldError)=some true)
  (x_BadPart_MeldError:PySem.W.exmOne K (.ref C_BadPart) (.ref C_MeldError)=some true)
  (x_UnlikeHolders_MeldError:PySem.W.exmOne K (.ref C_UnlikeHolders) (.ref C_MeldError)=some true)
  (x_TooWide_MeldError:PySem.W.exmOne K (.ref C_TooWide) (.ref C_MeldError)=some true)
  (x_LikeHolders_MeldError:PySem.W.exmOne K (.ref C_LikeHolders) (.ref C_MeldError)=some true)
  (x_WishStands_MeldError:PySem.W.exmOne K (.ref C_WishStands) (.ref C_MeldError)=some true)
  (x_TooManyWishes_MeldError:PySem.W.exmOne K (.ref C_TooManyWishes) (.ref C_MeldError)=some true)
  (x_NoWish_MeldError:PySem.W.exmOne K (.ref C_NoWish) (.ref C_MeldError)=some true)
  (x_BookFull_MeldError:PySem.W.exmOne K (.ref C_BookFull) (.ref C_MeldError)=some true)
  (x_NothingDone_MeldError:PySem.W.exmOne K (.ref C_NothingDone) (.ref C_MeldError)=some true)
  (x_NothingDone_NothingDone:PySem.W.exmOne K (.ref C_NothingDone) (.ref C_NothingDone)=some true)
  (k_TooManyStrips_ValueError:PySem.W.kitOne K (.ref C_TooManyStrips) (.type "ValueError")=some true)
  (k_TooManyStrips_NoStrip:PySem.W.kitOne K (.ref C_TooManyStrips) (.ref C_NoStrip)=some false)
  (k_TooManyStrips_BadHolder:PySem.W.kitOne K (.ref C_TooManyStrips) (.ref C_BadHolder)=some false)
  (k_TooManyStrips_OwnStrip:PySem.W.kitOne K (.ref C_TooManyStrips) (.ref C_OwnStrip)=some false)
  (k_TooManyStrips_BadPart:PySem.W.kitOne K (.ref C_TooManyStrips) (.ref C_BadPart)=some false)
  (k_TooManyStrips_TooManyStrips:PySem.W.kitOne K (.ref C_TooManyStrips) (.ref C_TooManyStrips)=some true)
  (k_TooManyStrips_UnlikeHolders:PySem.W.kitOne K (.ref C_TooManyStrips) (.ref C_UnlikeHolders)=some false)
  (k_TooManyStrips_TooWide:PySem.W.kitOne K (.ref C_TooManyStrips) (.ref C_TooWide)=some false)
  (k_TooManyStrips_LikeHolders:PySem.W.kitOne K (.ref C_TooManyStrips) (.ref C_LikeHolders)=some false)
  (k_TooManyStrips_WishStands:PySem.W.kitOne K (.ref C_TooManyStrips) (.ref C_WishStands)=some false)
  (k_TooManyStrips_TooManyWishes:PySem.W.kitOne K (.ref C_TooManyStrips) (.ref C_TooManyWishes)=some false)
  (k_TooManyStrips_NoWish:PySem.W.kitOne K (.ref C_TooManyStrips) (.ref C_NoWish)=some false)
  (k_TooManyStrips_BookFull:PySem.W.kitOne K (.ref C_TooManyStrips) (.ref C_BookFull)=some false)
  (k_BadHolder_ValueError:PySem.W.kitOne K (.ref C_BadHolder) (.type "ValueError")=some true)
  (k_BadHolder_NoStrip:PySem.W.kitOne K (.ref C_BadHolder) (.ref C_NoStrip)=some false)
  (k_BadHolder_BadHolder:PySem.W.kitOne K (.ref C_BadHolder) (.ref C_BadHolder)=some true)
  (k_BadHolder_OwnStrip:PySem.W.kitOne K (.ref C_BadHolder) (.ref C_OwnStrip)=some false)
  (k_BadHolder_BadPart:PySem.W.kitOne K (.ref C_BadHolder) (.ref C_BadPart)=some false)
  (k_BadHolder_TooManyStrips:PySem.W.kitOne K (.ref C_BadHolder) (.ref C_TooManyStrips)=some false)
  (k_BadHolder_UnlikeHolders:PySem.W.kitOne K (.ref C_BadHolder) (.ref C_UnlikeHolders)=some false)
  (k_BadHolder_TooWide:PySem.W.kitOne K (.ref C_BadHolder) (.ref C_TooWide)=some false)
  (k_BadHolder_LikeHolders:PySem.W.kitOne K (.ref C_BadHolder) (.ref C_LikeHolders)=some false)
  (k_BadHolder_WishStands:PySem.W.kitOne K (.ref C_BadHolder) (.ref C_WishStands)=some false)
  (k_BadHolder_TooManyWishes:PySem.W.kitOne K (.ref C_BadHolder) (.ref C_TooManyWishes)=some false)
  (k_BadHolder_NoWish:PySem.W.kitOne K (.ref C_BadHolder) (.ref C_NoWish)=some false)
  (k_BadHolder_BookFull:PySem.W.kitOne K (.ref C_BadHolder) (.ref C_BookFull)=some false)
  (k_NoStrip_ValueError:PySem.W.kitOne K (.ref C_NoStrip) (.type "ValueError")=some true)
  (k_NoStrip_NoStrip:PySem.W.kitOne K (.ref C_NoStrip) (.ref C_NoStrip)=some true)
  (k_NoStrip_BadHolder:PySem.W.kitOne K (.ref C_NoStrip) (.ref C_BadHolder)=some false)
  (k_NoStrip_OwnStrip:PySem.W.kitOne K (.ref C_NoStrip) (.ref C_OwnStrip)=some false)
  (k_NoStrip_BadPart:PySem.W.kitOne K (.ref C_NoStrip) (.ref C_BadPart)=some false)
  (k_NoStrip_TooManyStrips:PySem.W.kitOne K (.ref C_NoStrip) (.ref C_TooManyStrips)=some false)
  (k_NoStrip_UnlikeHolders:PySem.W.kitOne K (.ref C_NoStrip) (.ref C_UnlikeHolders)=some false)
  (k_NoStrip_TooWide:PySem.W.kitOne K (.ref C_NoStrip) (.ref C_TooWide)=some false)
  (k_NoStrip_LikeHolders:PySem.W.kitOne K (.ref C_NoStrip) (.ref C_LikeHolders)=some false)
  (k_NoStrip_WishStands:PySem.W.kitOne K (.ref C_NoStrip) (.ref C_WishStands)=some false)
  (k_NoStrip_TooManyWishes:PySem.W.kitOne K (.ref C_NoStrip) (.ref C_TooManyWishes)=some false)
  (k_NoStrip_NoWish:PySem.W.kitOne K (.ref C_NoStrip) (.ref C_NoWish)=some false)
  (k_NoStrip_BookFull:PySem.W.kitOne K (.ref C_NoStrip) (.ref C_BookFull)=some false)
  (k_OwnStrip_ValueError:PySem.W.kitOne K (.ref C_OwnStrip) (.type "ValueError")=some true)
  (k_OwnStrip_NoStrip:PySem.W.kitOne K (.ref C_OwnStrip) (.ref C_NoStrip)=some false)
  (k_OwnStrip_BadHolder:PySem.W.kitOne K (.ref C_OwnStrip) (.ref C_BadHolder)=some false)
  (k_OwnStrip_OwnStrip:PySem.W.kitOne K (.ref C_OwnStrip) (.ref C_OwnStrip)=some true)
  (k_OwnStrip_BadPart:PySem.W.kitOne K (.ref C_OwnStrip) (.ref C_BadPart)=some false)
  (k_OwnStrip_TooManyStrips:PySem.W.kitOne K (.ref C_OwnStrip) (.ref C_TooManyStrips)=some false)
  (k_OwnStrip_UnlikeHolders:PySem.W.kitOne K (.ref C_OwnStrip) (.ref C_UnlikeHolders)=some false)
  (k_OwnStrip_TooWide:PySem.W.kitOne K (.ref C_OwnStrip) (.ref C_TooWide)=some false)
  (k_OwnStrip_LikeHolders:PySem.W.kitOne K (.ref C_OwnStrip) (.ref C_LikeHolders)=some false)
  (k_OwnStrip_WishStands:PySem.W.kitOne K (.ref C_OwnStrip) (.ref C_WishStands)=some false)
  (k_OwnStrip_TooManyWishes:PySem.W.kitOne K (.ref C_OwnStrip) (.ref C_TooManyWishes)=some false)
  (k_OwnStrip_NoWish:PySem.W.kitOne K (.ref C_OwnStrip) (.ref C_NoWish)=some false)
  (k_OwnStrip_BookFull:PySem.W.kitOne K (.ref C_OwnStrip) (.ref C_BookFull)=some false)
  (k_BadPart_ValueError:PySem.W.kitOne K (.ref C_BadPart) (.type "ValueError")=some true)
  (k_BadPart_NoStrip:PySem.W.kitOne K (.ref C_BadPart) (.ref C_NoStrip)=some false)
  (k_BadPart_BadHolder:PySem.W.kitOne K (.ref C_BadPart) (.ref C_BadHolder)=some false)
  (k_BadPart_OwnStrip:PySem.W.kitOne K (.ref C_BadPart) (.ref C_OwnStrip)=some false)
  (k_BadPart_BadPart:PySem.W.kitOne K (.ref C_BadPart) (.ref C_BadPart)=some true)
  (k_BadPart_TooManyStrips:PySem.W.kitOne K (.ref C_BadPart) (.ref C_TooManyStrips)=some false)
  (k_BadPart_UnlikeHolders:PySem.W.kitOne K (.ref C_BadPart) (.ref C_UnlikeHolders)=some false)
  (k_BadPart_TooWide:PySem.W.kitOne K (.ref C_BadPart) (.ref C_TooWide)=some false)
  (k_BadPart_LikeHolders:PySem.W.kitOne K (.ref C_BadPart) (.ref C_LikeHolders)=some false)
  (k_BadPart_WishStands:PySem.W.kitOne K (.ref C_BadPart) (.ref C_WishStands)=some false)
  (k_BadPart_TooManyWishes:PySem.W.kitOne K (.ref C_BadPart) (.ref C_TooManyWishes)=some false)
  (k_BadPart_NoWish:PySem.W.kitOne K (.ref C_BadPart) (.ref C_NoWish)=some false)
  (k_BadPart_BookFull:PySem.W.kitOne K (.ref C_BadPart) (.ref C_BookFull)=some false)
  (k_UnlikeHolders_ValueError:PySem.W.kitOne K (.ref C_UnlikeHolders) (.type "ValueError")=some true)
  (k_UnlikeHolders_NoStrip:PySem.W.kitOne K (.ref C_UnlikeHolders) (.ref C_NoStrip)=some false)
  (k_UnlikeHolders_BadHolder:PySem.W.kitOne K (.ref C_UnlikeHolders) (.ref C_BadHolder)=some false)
  (k_UnlikeHolders_OwnStrip:PySem.W.kitOne K (.ref C_UnlikeHolders) (.ref C_OwnStrip)=some false)
  (k_UnlikeHolders_BadPart:PySem.W.kitOne K (.ref C_UnlikeHolders) (.ref C_BadPart)=some false)
  (k_UnlikeHolders_TooManyStrips:PySem.W.kitOne K (.ref C_UnlikeHolders) (.ref C_TooManyStrips)=some false)
  (k_UnlikeHolders_UnlikeHolders:PySem.W.kitOne K (.ref C_UnlikeHolders) (.ref C_UnlikeHolders)=some true)
  (k_UnlikeHolders_TooWide:PySem.W.kitOne K (.ref C_UnlikeHolders) (.ref C_TooWide)=some false)
  (k_UnlikeHolders_LikeHolders:PySem.W.kitOne K (.ref C_UnlikeHolders) (.ref C_LikeHolders)=some false)
  (k_UnlikeHolders_WishStands:PySem.W.kitOne K (.ref C_UnlikeHolders) (.ref C_WishStands)=some false)
  (k_UnlikeHolders_TooManyWishes:PySem.W.kitOne K (.ref C_UnlikeHolders) (.ref C_TooManyWishes)=some false)
  (k_UnlikeHolders_NoWish:PySem.W.kitOne K (.ref C_UnlikeHolders) (.ref C_NoWish)=some false)
  (k_UnlikeHolders_BookFull:PySem.W.kitOne K (.ref C_UnlikeHolders) (.ref C_BookFull)=some false)
  (k_TooWide_ValueError:PySem.W.kitOne K (.ref C_TooWide) (.type "ValueError")=some true)
  (k_TooWide_NoStrip:PySem.W.kitOne K (.ref C_TooWide) (.ref C_NoStrip)=some false)
  (k_TooWide_BadHolder:PySem.W.kitOne K (.ref C_TooWide) (.ref C_BadHolder)=some false)
  (k_TooWide_OwnStrip:PySem.W.kitOne K (.ref C_TooWide) (.ref C_OwnStrip)=some false)
  (k_TooWide_BadPart:PySem.W.kitOne K (.ref C_TooWide) (.ref C_BadPart)=some false)
  (k_TooWide_TooManyStrips:PySem.W.kitOne K (.ref C_TooWide) (.ref C_TooManyStrips)=some false)
  (k_TooWide_UnlikeHolders:PySem.W.kitOne K (.ref C_TooWide) (.ref C_UnlikeHolders)=some false)
  (k_TooWide_TooWide:PySem.W.kitOne K (.ref C_TooWide) (.ref C_TooWide)=some true)
  (k_TooWide_LikeHolders:PySem.W.kitOne K (.ref C_TooWide) (.ref C_LikeHolders)=some false)
  (k_TooWide_WishStands:PySem.W.kitOne K (.ref C_TooWide) (.ref C_WishStands)=some false)
  (k_TooWide_TooManyWishes:PySem.W.kitOne K (.ref C_TooWide) (.ref C_TooManyWishes)=some false)
  (k_TooWide_NoWish:PySem.W.kitOne K (.ref C_TooWide) (.ref C_NoWish)=some false)
  (k_TooWide_BookFull:PySem.W.kitOne K (.ref C_TooWide) (.ref C_BookFull)=some false)
  (k_LikeHolders_ValueError:PySem.W.kitOne K (.ref C_LikeHolders) (.type "ValueError")=some true)
  (k_LikeHolders_NoStrip:PySem.W.kitOne K (.ref C_LikeHolders) (.ref C_NoStrip)=some false)
  (k_LikeHolders_BadHolder:PySem.W.kitOne K (.ref C_LikeHolders) (.ref C_BadHolder)=some false)
  (k_LikeHolders_OwnStrip:PySem.W.kitOne K (.ref C_LikeHolders) (.ref C_OwnStrip)=some false)
  (k_LikeHolders_BadPart:PySem.W.kitOne K (.ref C_LikeHolders) (.ref C_BadPart)=some false)
  (k_LikeHolders_TooManyStrips:PySem.W.kitOne K (.ref C_LikeHolders) (.ref C_TooManyStrips)=some false)
  (k_LikeHolders_UnlikeHolders:PySem.W.kitOne K (.ref C_LikeHolders) (.ref C_UnlikeHolders)=some false)
  (k_LikeHolders_TooWide:PySem.W.kitOne K (.ref C_LikeHolders) (.ref C_TooWide)=some false)
  (k_LikeHolders_LikeHolders:PySem.W.kitOne K (.ref C_LikeHolders) (.ref C_LikeHolders)=some true)
  (k_LikeHolders_WishStands:PySem.W.kitOne K (.ref C_LikeHolders) (.ref C_WishStands)=some false)
  (k_LikeHolders_TooManyWishes:PySem.W.kitOne K (.ref C_LikeHolders) (.ref C_TooManyWishes)=some false)
  (k_LikeHolders_NoWish:PySem.W.kitOne K (.ref C_LikeHolders) (.ref C_NoWish)=some false)
  (k_LikeHolders_BookFull:PySem.W.kitOne K (.ref C_LikeHolders) (.ref C_BookFull)=some false)
  (k_WishStands_ValueError:PySem.W.kitOne K (.ref C_WishStands) (.type "ValueError")=some true)
  (k_WishStands_NoStrip:PySem.W.kitOne K (.ref C_WishStands) (.ref C_NoStrip)=some false)
  (k_WishStands_BadHolder:PySem.W.kitOne K (.ref C_WishStands) (.ref C_BadHolder)=some false)
  (k_WishStands_OwnStrip:PySem.W.kitOne K (.ref C_WishStands) (.ref C_OwnStrip)=some false)
  (k_WishStands_BadPart:PySem.W.kitOne K (.ref C_WishStands) (.ref C_BadPart)=some false)
  (k_WishStands_TooManyStrips:PySem.W.kitOne K (.ref C_WishStands) (.ref C_TooManyStrips)=some false)
  (k_WishStands_UnlikeHolders:PySem.W.kitOne K (.ref C_WishStands) (.ref C_UnlikeHolders)=some false)
  (k_WishStands_TooWide:PySem.W.kitOne K (.ref C_WishStands) (.ref C_TooWide)=some false)
  (k_WishStands_LikeHolders:PySem.W.kitOne K (.ref C_WishStands) (.ref C_LikeHolders)=some false)
  (k_WishStands_WishStands:PySem.W.kitOne K (.ref C_WishStands) (.ref C_WishStands)=some true)
  (k_WishStands_TooManyWishes:PySem.W.kitOne K (.ref C_WishStands) (.ref C_TooManyWishes)=some false)
  (k_WishStands_NoWish:PySem.W.kitOne K (.ref C_WishStands) (.ref C_NoWish)=some false)
  (k_WishStands_BookFull:PySem.W.kitOne K (.ref C_WishStands) (.ref C_BookFull)=some false)
  (k_TooManyWishes_ValueError:PySem.W.kitOne K (.ref C_TooManyWishes) (.type "ValueError")=some true)
  (k_TooManyWishes_NoStrip:PySem.W.kitOne K (.ref C_TooManyWishes) (.ref C_NoStrip)=some false)
  (k_TooManyWishes_BadHolder:PySem.W.kitOne K (.ref C_TooManyWishes) (.ref C_BadHolder)=some false)
  (k_TooManyWishes_OwnStrip:PySem.W.kitOne K (.ref C_TooManyWishes) (.ref C_OwnStrip)=some false)
  (k_TooManyWishes_BadPart:PySem.W.kitOne K (.ref C_TooManyWishes) (.ref C_BadPart)=some false)
  (k_TooManyWishes_TooManyStrips:PySem.W.kitOne K (.ref C_TooManyWishes) (.ref C_TooManyStrips)=some false)
  (k_TooManyWishes_UnlikeHolders:PySem.W.kitOne K (.ref C_TooManyWishes) (.ref C_UnlikeHolders)=some false)
  (k_TooManyWishes_TooWide:PySem.W.kitOne K (.ref C_TooManyWishes) (.ref C_TooWide)=some false)
  (k_TooManyWishes_LikeHolders:PySem.W.kitOne K (.ref C_TooManyWishes) (.ref C_LikeHolders)=some false)
  (k_TooManyWishes_WishStands:PySem.W.kitOne K (.ref C_TooManyWishes) (.ref C_WishStands)=some false)
  (k_TooManyWishes_TooManyWishes:PySem.W.kitOne K (.ref C_TooManyWishes) (.ref C_TooManyWishes)=some true)
  (k_TooManyWishes_NoWish:PySem.W.kitOne K (.ref C_TooManyWishes) (.ref C_NoWish)=some false)
  (k_TooManyWishes_BookFull:PySem.W.kitOne K (.ref C_TooManyWishes) (.ref C_BookFull)=some false)
  (k_NoWish_ValueError:PySem.W.kitOne K (.ref C_NoWish) (.type "ValueError")=some true)
  (k_NoWish_NoStrip:PySem.W.kitOne K (.ref C_NoWish) (.ref C_NoStrip)=some false)
  (k_NoWish_BadHolder:PySem.W.kitOne K (.ref C_NoWish) (.ref C_BadHolder)=some false)
  (k_NoWish_OwnStrip:PySem.W.kitOne K (.ref C_NoWish) (.ref C_OwnStrip)=some false)
  (k_NoWish_BadPart:PySem.W.kitOne K (.ref C_NoWish) (.ref C_BadPart)=some false)
  (k_NoWish_TooManyStrips:PySem.W.kitOne K (.ref C_NoWish) (.ref C_TooManyStrips)=some false)
  (k_NoWish_UnlikeHolders:PySem.W.kitOne K (.ref C_NoWish) (.ref C_UnlikeHolders)=some false)
  (k_NoWish_TooWide:PySem.W.kitOne K (.ref C_NoWish) (.ref C_TooWide)=some false)
  (k_NoWish_LikeHolders:PySem.W.kitOne K (.ref C_NoWish) (.ref C_LikeHolders)=some false)
  (k_NoWish_WishStands:PySem.W.kitOne K (.ref C_NoWish) (.ref C_WishStands)=some false)
  (k_NoWish_TooManyWishes:PySem.W.kitOne K (.ref C_NoWish) (.ref C_TooManyWishes)=some false)
  (k_NoWish_NoWish:PySem.W.kitOne K (.ref C_NoWish) (.ref C_NoWish)=some true)
  (k_NoWish_BookFull:PySem.W.kitOne K (.ref C_NoWish) (.ref C_BookFull)=some false)
  (k_NothingDone_ValueError:PySem.W.kitOne K (.ref C_NothingDone) (.type "ValueError")=some true)
  (k_NothingDone_MeldError:PySem.W.kitOne K (.ref C_NothingDone) (.ref C_MeldError)=some true)
  : ∃ fd:FuncData,(∀ (s:Shared) (v:Value),BindsTo s fd ⟨[v],[]⟩ [("_law_script",v)])∧∀ base:Heap,K.In base→base.Ns mainGlobals mg→FnOk l.prog w K mg base CX0 7 fa fd ["_law_script"] (Pu.lawSp K):=by
 have e:=hfa.symm.trans (PySem.W.mg_of X G0 a48)
 cases e
 have e_MeldError:=ExcR.Zby (PySem.W.mg_of X G0 a_MeldError)
 have e_TooManyStrips:=ExcR.Zby (PySem.W.mg_of X G0 a_TooManyStrips)
 have e_BadHolder:=ExcR.Zby (PySem.W.mg_of X G0 a_BadHolder)
 have e_BadWidth:=ExcR.Zby (PySem.W.mg_of X G0 a_BadWidth)
 have e_NoStrip:=ExcR.Zby (PySem.W.mg_of X G0 a_NoStrip)
 have e_OwnStrip:=ExcR.Zby (PySem.W.mg_of X G0 a_OwnStrip)
 have e_BadPart:=ExcR.Zby (PySem.W.mg_of X G0 a_BadPart)
 have e_UnlikeHolders:=ExcR.Zby (PySem.W.mg_of X G0 a_UnlikeHolders)
 have e_TooWide:=ExcR.Zby (PySem.W.mg_of X G0 a_TooWide)
 have e_LikeHolders:=ExcR.Zby (PySem.W.mg_of X G0 a_LikeHolders)
 have e_WishStands:=ExcR.Zby (PySem.W.mg_of X G0 a_WishStands)
 have e_TooManyWishes:=ExcR.Zby (PySem.W.mg_of X G0 a_TooManyWishes)
 have e_NoWish:=ExcR.Zby (PySem.W.mg_of X G0 a_NoWish)
 have e_BookFull:=ExcR.Zby (PySem.W.mg_of X G0 a_BookFull)
 have e_NothingDone:=ExcR.Zby (PySem.W.mg_of X G0 a_NothingDone)
 have e_Village:=ExcR.Zby (PySem.W.mg_of X G0 a_Village)
 have G:Glob K mg:=⟨PySem.W.mg_none_of X G0 z_ValueError,PySem.W.mg_none_of X G0 z_bool,PySem.W.mg_none_of X G0 z_int,PySem.W.mg_none_of X G0 z_isinstance,PySem.W.mg_none_of X G0 z_len,PySem.W.mg_none_of X G0 z_list,PySem.W.mg_none_of X G0 z_max,PySem.W.mg_none_of X G0 z_min,PySem.W.mg_none_of X G0 z_range,PySem.W.mg_none_of X G0 z_str,PySem.W.mg_none_of X G0 z_tuple,⟨_,PySem.W.mg_of X G0 z_HOLDERS,⟨_,rfl⟩⟩,⟨_,PySem.W.mg_of X G0 z_STRIPS,⟨_,rfl⟩⟩,⟨_,PySem.W.mg_of X G0 z_WIDEST,⟨_,rfl⟩⟩,⟨_,PySem.W.mg_of X G0 z_MOST_WISHES,⟨_,rfl⟩⟩,⟨_,PySem.W.mg_of X G0 z_MOST_DEEDS,⟨_,rfl⟩⟩,(by rw [e_MeldError];exact PySem.W.mg_of X G0 a_MeldError),(by rw [e_MeldError];exact ⟨⟨q_MeldError⟩,ga_MeldError,gt_MeldError,cl_MeldError,by rw [i_MeldError];rfl⟩),(by rw [e_TooManyStrips];exact PySem.W.mg_of X G0 a_TooManyStrips),(by rw [e_TooManyStrips];exact ⟨⟨q_TooManyStrips⟩,ga_TooManyStrips,gt_TooManyStrips,cl_TooManyStrips,by rw [i_TooManyStrips];rfl⟩),(by rw [e_BadHolder];exact PySem.W.mg_of X G0 a_BadHolder),(by rw [e_BadHolder];exact ⟨⟨q_BadHolder⟩,ga_BadHolder,gt_BadHolder,cl_BadHolder,by rw [i_BadHolder];rfl⟩),(by rw [e_BadWidth];exact PySem.W.mg_of X G0 a_BadWidth),(by rw [e_BadWidth];exact ⟨⟨q_BadWidth⟩,ga_BadWidth,gt_BadWidth,cl_BadWidth,by rw [i_BadWidth];rfl⟩),(by rw [e_NoStrip];exact PySem.W.mg_of X G0 a_NoStrip),(by rw [e_NoStrip];exact ⟨⟨q_NoStrip⟩,ga_NoStrip,gt_NoStrip,cl_NoStrip,by rw [i_NoStrip];rfl⟩),(by rw [e_OwnStrip];exact PySem.W.mg_of X G0 a_OwnStrip),(by rw [e_OwnStrip];exact ⟨⟨q_OwnStrip⟩,ga_OwnStrip,gt_OwnStrip,cl_OwnStrip,by rw [i_OwnStrip];rfl⟩),(by rw [e_BadPart];exact PySem.W.mg_of X G0 a_BadPart),(by rw [e_BadPart];exact ⟨⟨q_BadPart⟩,ga_BadPart,gt_BadPart,cl_BadPart,by rw [i_BadPart];rfl⟩),(by rw [e_UnlikeHolders];exact PySem.W.mg_of X G0 a_UnlikeHolders),(by rw [e_UnlikeHolders];exact ⟨⟨q_UnlikeHolders⟩,ga_UnlikeHolders,gt_UnlikeHolders,cl_UnlikeHolders,by rw [i_UnlikeHolders];rfl⟩),(by rw [e_TooWide];exact PySem.W.mg_of X G0 a_TooWide),(by rw [e_TooWide];exact ⟨⟨q_TooWide⟩,ga_TooWide,gt_TooWide,cl_TooWide,by rw [i_TooWide];rfl⟩),(by rw [e_LikeHolders];exact PySem.W.mg_of X G0 a_LikeHolders),(by rw [e_LikeHolders];exact ⟨⟨q_LikeHolders⟩,ga_LikeHolders,gt_LikeHolders,cl_LikeHolders,by rw [i_LikeHolders];rfl⟩),(by rw [e_WishStands];exact PySem.W.mg_of X G0 a_WishStands),(by rw [e_WishStands];exact ⟨⟨q_WishStands⟩,ga_WishStands,gt_WishStands,cl_WishStands,by rw [i_WishStands];rfl⟩),(by rw [e_TooManyWishes];exact PySem.W.mg_of X G0 a_TooManyWishes),(by rw [e_TooManyWishes];exact ⟨⟨q_TooManyWishes⟩,ga_TooManyWishes,gt_TooManyWishes,cl_TooManyWishes,by rw [i_TooManyWishes];rfl⟩),(by rw [e_NoWish];exact PySem.W.mg_of X G0 a_NoWish),(by rw [e_NoWish];exact ⟨⟨q_NoWish⟩,ga_NoWish,gt_NoWish,cl_NoWish,by rw [i_NoWish];rfl⟩),(by rw [e_BookFull];exact PySem.W.mg_of X G0 a_BookFull),(by rw [e_BookFull];exact ⟨⟨q_BookFull⟩,ga_BookFull,gt_BookFull,cl_BookFull,by rw [i_BookFull];rfl⟩),(by rw [e_NothingDone];exact PySem.W.mg_of X G0 a_NothingDone),(by rw [e_NothingDone];exact ⟨⟨q_NothingDone⟩,ga_NothingDone,gt_NothingDone,cl_NothingDone,by rw [i_NothingDone];rfl⟩),(by rw [e_MeldError];exact x_MeldError_MeldError),(by rw [e_TooManyStrips,e_MeldError];exact x_TooManyStrips_MeldError),(by rw [e_BadHolder,e_MeldError];exact x_BadHolder_MeldError),(by rw [e_BadWidth,e_MeldError];exact x_BadWidth_MeldError),(by rw [e_NoStrip,e_MeldError];exact x_NoStrip_MeldError),(by rw [e_OwnStrip,e_MeldError];exact x_OwnStrip_MeldError),(by rw [e_BadPart,e_MeldError];exact x_BadPart_MeldError),(by rw [e_UnlikeHolders,e_MeldError];exact x_UnlikeHolders_MeldError),(by rw [e_TooWide,e_MeldError];exact x_TooWide_MeldError),(by rw [e_LikeHolders,e_MeldError];exact x_LikeHolders_MeldError),(by rw [e_WishStands,e_MeldError];exact x_WishStands_MeldError),(by rw [e_TooManyWishes,e_MeldError];exact x_TooManyWishes_MeldError),(by rw [e_NoWish,e_MeldError];exact x_NoWish_MeldError),(by rw [e_BookFull,e_MeldError];exact x_BookFull_MeldError),(by rw [e_NothingDone,e_MeldError];exact x_NothingDone_MeldError),(by rw [e_NothingDone];exact x_NothingDone_NothingDone),(by rw [e_TooManyStrips];exact k_TooManyStrips_ValueError),(by rw [e_TooManyStrips,e_NoStrip];exact k_TooManyStrips_NoStrip),(by rw [e_TooManyStrips,e_BadHolder];exact k_TooManyStrips_BadHolder),(by rw [e_TooManyStrips,e_OwnStrip];exact k_TooManyStrips_OwnStrip),(by rw [e_TooManyStrips,e_BadPart];exact k_TooManyStrips_BadPart),(by rw [e_TooManyStrips];exact k_TooManyStrips_TooManyStrips),(by rw [e_TooManyStrips,e_UnlikeHolders];exact k_TooManyStrips_UnlikeHolders),(by rw [e_TooManyStrips,e_TooWide];exact k_TooManyStrips_TooWide),(by rw [e_TooManyStrips,e_LikeHolders];exact k_TooManyStrips_LikeHolders),(by rw [e_TooManyStrips,e_WishStands];exact k_TooManyStrips_WishStands),(by rw [e_TooManyStrips,e_TooManyWishes];exact k_TooManyStrips_TooManyWishes),(by rw [e_TooManyStrips,e_NoWish];exact k_TooManyStrips_NoWish),(by rw [e_TooManyStrips,e_BookFull];exact k_TooManyStrips_BookFull),(by rw [e_BadHolder];exact k_BadHolder_ValueError),(by rw [e_BadHolder,e_NoStrip];exact k_BadHolder_NoStrip),(by rw [e_BadHolder];exact k_BadHolder_BadHolder),(by rw [e_BadHolder,e_OwnStrip];exact k_BadHolder_OwnStrip),(by rw [e_BadHolder,e_BadPart];exact k_BadHolder_BadPart),(by rw [e_BadHolder,e_TooManyStrips];exact k_BadHolder_TooManyStrips),(by rw [e_BadHolder,e_UnlikeHolders];exact k_BadHolder_UnlikeHolders),(by rw [e_BadHolder,e_TooWide];exact k_BadHolder_TooWide),(by rw [e_BadHolder,e_LikeHolders];exact k_BadHolder_LikeHolders),(by rw [e_BadHolder,e_WishStands];exact k_BadHolder_WishStands),(by rw [e_BadHolder,e_TooManyWishes];exact k_BadHolder_TooManyWishes),(by rw [e_BadHolder,e_NoWish];exact k_BadHolder_NoWish),(by rw [e_BadHolder,e_BookFull];exact k_BadHolder_BookFull),(by rw [e_NoStrip];exact k_NoStrip_ValueError),(by rw [e_NoStrip];exact k_NoStrip_NoStrip),(by rw [e_NoStrip,e_BadHolder];exact k_NoStrip_BadHolder),(by rw [e_NoStrip,e_OwnStrip];exact k_NoStrip_OwnStrip),(by rw [e_NoStrip,e_BadPart];exact k_NoStrip_BadPart),(by rw [e_NoStrip,e_TooManyStrips];exact k_NoStrip_TooManyStrips),(by rw [e_NoStrip,e_UnlikeHolders];exact k_NoStrip_UnlikeHolders),(by rw [e_NoStrip,e_TooWide];exact k_NoStrip_TooWide),(by rw [e_NoStrip,e_LikeHolders];exact k_NoStrip_LikeHolders),(by rw [e_NoStrip,e_WishStands];exact k_NoStrip_WishStands),(by rw [e_NoStrip,e_TooManyWishes];exact k_NoStrip_TooManyWishes),(by rw [e_NoStrip,e_NoWish];exact k_NoStrip_NoWish),(by rw [e_NoStrip,e_BookFull];exact k_NoStrip_BookFull),(by rw [e_OwnStrip];exact k_OwnStrip_ValueError),(by rw [e_OwnStrip,e_NoStrip];exact k_OwnStrip_NoStrip),(by rw [e_OwnStrip,e_BadHolder];exact k_OwnStrip_BadHolder),(by rw [e_OwnStrip];exact k_OwnStrip_OwnStrip),(by rw [e_OwnStrip,e_BadPart];exact k_OwnStrip_BadPart),(by rw [e_OwnStrip,e_TooManyStrips];exact k_OwnStrip_TooManyStrips),(by rw [e_OwnStrip,e_UnlikeHolders];exact k_OwnStrip_UnlikeHolders),(by rw [e_OwnStrip,e_TooWide];exact k_OwnStrip_TooWide),(by rw [e_OwnStrip,e_LikeHolders];exact k_OwnStrip_LikeHolders),(by rw [e_OwnStrip,e_WishStands];exact k_OwnStrip_WishStands),(by rw [e_OwnStrip,e_TooManyWishes];exact k_OwnStrip_TooManyWishes),(by rw [e_OwnStrip,e_NoWish];exact k_OwnStrip_NoWish),(by rw [e_OwnStrip,e_BookFull];exact k_OwnStrip_BookFull),(by rw [e_BadPart];exact k_BadPart_ValueError),(by rw [e_BadPart,e_NoStrip];exact k_BadPart_NoStrip),(by rw [e_BadPart,e_BadHolder];exact k_BadPart_BadHolder),(by rw [e_BadPart,e_OwnStrip];exact k_BadPart_OwnStrip),(by rw [e_BadPart];exact k_BadPart_BadPart),(by rw [e_BadPart,e_TooManyStrips];exact k_BadPart_TooManyStrips),(by rw [e_BadPart,e_UnlikeHolders];exact k_BadPart_UnlikeHolders),(by rw [e_BadPart,e_TooWide];exact k_BadPart_TooWide),(by rw [e_BadPart,e_LikeHolders];exact k_BadPart_LikeHolders),(by rw [e_BadPart,e_WishStands];exact k_BadPart_WishStands),(by rw [e_BadPart,e_TooManyWishes];exact k_BadPart_TooManyWishes),(by rw [e_BadPart,e_NoWish];exact k_BadPart_NoWish),(by rw [e_BadPart,e_BookFull];exact k_BadPart_BookFull),(by rw [e_UnlikeHolders];exact k_UnlikeHolders_ValueError),(by rw [e_UnlikeHolders,e_NoStrip];exact k_UnlikeHolders_NoStrip),(by rw [e_UnlikeHolders,e_BadHolder];exact k_UnlikeHolders_BadHolder),(by rw [e_UnlikeHolders,e_OwnStrip];exact k_UnlikeHolders_OwnStrip),(by rw [e_UnlikeHolders,e_BadPart];exact k_UnlikeHolders_BadPart),(by rw [e_UnlikeHolders,e_TooManyStrips];exact k_UnlikeHolders_TooManyStrips),(by rw [e_UnlikeHolders];exact k_UnlikeHolders_UnlikeHolders),(by rw [e_UnlikeHolders,e_TooWide];exact k_UnlikeHolders_TooWide),(by rw [e_UnlikeHolders,e_LikeHolders];exact k_UnlikeHolders_LikeHolders),(by rw [e_UnlikeHolders,e_WishStands];exact k_UnlikeHolders_WishStands),(by rw [e_UnlikeHolders,e_TooManyWishes];exact k_UnlikeHolders_TooManyWishes),(by rw [e_UnlikeHolders,e_NoWish];exact k_UnlikeHolders_NoWish),(by rw [e_UnlikeHolders,e_BookFull];exact k_UnlikeHolders_BookFull),(by rw [e_TooWide];exact k_TooWide_ValueError),(by rw [e_TooWide,e_NoStrip];exact k_TooWide_NoStrip),(by rw [e_TooWide,e_BadHolder];exact k_TooWide_BadHolder),(by rw [e_TooWide,e_OwnStrip];exact k_TooWide_OwnStrip),(by rw [e_TooWide,e_BadPart];exact k_TooWide_BadPart),(by rw [e_TooWide,e_TooManyStrips];exact k_TooWide_TooManyStrips),(by rw [e_TooWide,e_UnlikeHolders];exact k_TooWide_UnlikeHolders),(by rw [e_TooWide];exact k_TooWide_TooWide),(by rw [e_TooWide,e_LikeHolders];exact k_TooWide_LikeHolders),(by rw [e_TooWide,e_WishStands];exact k_TooWide_WishStands),(by rw [e_TooWide,e_TooManyWishes];exact k_TooWide_TooManyWishes),(by rw [e_TooWide,e_NoWish];exact k_TooWide_NoWish),(by rw [e_TooWide,e_BookFull];exact k_TooWide_BookFull),(by rw [e_LikeHolders];exact k_LikeHolders_ValueError),(by rw [e_LikeHolders,e_NoStrip];exact k_LikeHolders_NoStrip),(by rw [e_LikeHolders,e_BadHolder];exact k_LikeHolders_BadHolder),(by rw [e_LikeHolders,e_OwnStrip];exact k_LikeHolders_OwnStrip),(by rw [e_LikeHolders,e_BadPart];exact k_LikeHolders_BadPart),(by rw [e_LikeHolders,e_TooManyStrips];exact k_LikeHolders_TooManyStrips),(by rw [e_LikeHolders,e_UnlikeHolders];exact k_LikeHolders_UnlikeHolders),(by rw [e_LikeHolders,e_TooWide];exact k_LikeHolders_TooWide),(by rw [e_LikeHolders];exact k_LikeHolders_LikeHolders),(by rw [e_LikeHolders,e_WishStands];exact k_LikeHolders_WishStands),(by rw [e_LikeHolders,e_TooManyWishes];exact k_LikeHolders_TooManyWishes),(by rw [e_LikeHolders,e_NoWish];exact k_LikeHolders_NoWish),(by rw [e_LikeHolders,e_BookFull];exact k_LikeHolders_BookFull),(by rw [e_WishStands];exact k_WishStands_ValueError),(by rw [e_WishStands,e_NoStrip];exact k_WishStands_NoStrip),(by rw [e_WishStands,e_BadHolder];exact k_WishStands_BadHolder),(by rw [e_WishStands,e_OwnStrip];exact k_WishStands_OwnStrip),(by rw [e_WishStands,e_BadPart];exact k_WishStands_BadPart),(by rw [e_WishStands,e_TooManyStrips];exact k_WishStands_TooManyStrips),(by rw [e_WishStands,e_UnlikeHolders];exact k_WishStands_UnlikeHolders),(by rw [e_WishStands,e_TooWide];exact k_WishStands_TooWide),(by rw [e_WishStands,e_LikeHolders];exact k_WishStands_LikeHolders),(by rw [e_WishStands];exact k_WishStands_WishStands),(by rw [e_WishStands,e_TooManyWishes];exact k_WishStands_TooManyWishes),(by rw [e_WishStands,e_NoWish];exact k_WishStands_NoWish),(by rw [e_WishStands,e_BookFull];exact k_WishStands_BookFull),(by rw [e_TooManyWishes];exact k_TooManyWishes_ValueError),(by rw [e_TooManyWishes,e_NoStrip];exact k_TooManyWishes_NoStrip),(by rw [e_TooManyWishes,e_BadHolder];exact k_TooManyWishes_BadHolder),(by rw [e_TooManyWishes,e_OwnStrip];exact k_TooManyWishes_OwnStrip),(by rw [e_TooManyWishes,e_BadPart];exact k_TooManyWishes_BadPart),(by rw [e_TooManyWishes,e_TooManyStrips];exact k_TooManyWishes_TooManyStrips),(by rw [e_TooManyWishes,e_UnlikeHolders];exact k_TooManyWishes_UnlikeHolders),(by rw [e_TooManyWishes,e_TooWide];exact k_TooManyWishes_TooWide),(by rw [e_TooManyWishes,e_LikeHolders];exact k_TooManyWishes_LikeHolders),(by rw [e_TooManyWishes,e_WishStands];exact k_TooManyWishes_WishStands),(by rw [e_TooManyWishes];exact k_TooManyWishes_TooManyWishes),(by rw [e_TooManyWishes,e_NoWish];exact k_TooManyWishes_NoWish),(by rw [e_TooManyWishes,e_BookFull];exact k_TooManyWishes_BookFull),(by rw [e_NoWish];exact k_NoWish_ValueError),(by rw [e_NoWish,e_NoStrip];exact k_NoWish_NoStrip),(by rw [e_NoWish,e_BadHolder];exact k_NoWish_BadHolder),(by rw [e_NoWish,e_OwnStrip];exact k_NoWish_OwnStrip),(by rw [e_NoWish,e_BadPart];exact k_NoWish_BadPart),(by rw [e_NoWish,e_TooManyStrips];exact k_NoWish_TooManyStrips),(by rw [e_NoWish,e_UnlikeHolders];exact k_NoWish_UnlikeHolders),(by rw [e_NoWish,e_TooWide];exact k_NoWish_TooWide),(by rw [e_NoWish,e_LikeHolders];exact k_NoWish_LikeHolders),(by rw [e_NoWish,e_WishStands];exact k_NoWish_WishStands),(by rw [e_NoWish,e_TooManyWishes];exact k_NoWish_TooManyWishes),(by rw [e_NoWish];exact k_NoWish_NoWish),(by rw [e_NoWish,e_BookFull];exact k_NoWish_BookFull),(by rw [e_NothingDone];exact k_NothingDone_ValueError),(by rw [e_NothingDone,e_MeldError];exact k_NothingDone_MeldError),(by rw [e_Village];exact PySem.W.mg_of X G0 a_Village),(by rw [e_Village];exact ⟨pg_Village,hd_Village,po_Village,sa_Village⟩),(by rw [e_Village];exact nA_Village_book),(by rw [e_Village];exact nA_Village_fields),(by rw [e_Village];exact nA_Village_wished)⟩
 have D0:Def K mg "check_holder" Zdb ["holder"]:=a0.d X G0 fun _ _ _ _ _ _ us hl=>by obtain ⟨_,rfl⟩:=Pu.len1 hl;rfl
 have D1:Def K mg "check_width" Zdj ["width"]:=a1.d X G0 fun _ _ _ _ _ _ us hl=>by obtain ⟨_,rfl⟩:=Pu.len1 hl;rfl
 have D2:Def K mg "check_strips" Zdc ["strips"]:=a2.d X G0 fun _ _ _ _ _ _ us hl=>by obtain ⟨_,rfl⟩:=Pu.len1 hl;rfl
 have D3:Def K mg "check_neighbours" Zc ["strips", "place"]:=a3.d X G0 fun _ _ _ _ _ _ us hl=>by obtain ⟨_,_,rfl⟩:=Pu.len2 hl;rfl
 have D4:Def K mg "check_place" Zdn ["strips", "place"]:=a4.d X G0 fun _ _ _ _ _ _ us hl=>by obtain ⟨_,_,rfl⟩:=Pu.len2 hl;rfl
 have D5:Def K mg "sold" Zl8 ["strips", "place", "holder"]:=a5.d X G0 fun _ _ _ _ _ _ us hl=>by obtain ⟨_,_,_,rfl⟩:=Pu.len3 hl;rfl
 have D6:Def K mg "parted" Zhj ["strips", "place", "width"]:=a6.d X G0 fun _ _ _ _ _ _ us hl=>by obtain ⟨_,_,_,rfl⟩:=Pu.len3 hl;rfl
 have D7:Def K mg "united" Zho ["strips", "place"]:=a7.d X G0 fun _ _ _ _ _ _ us hl=>by obtain ⟨_,_,rfl⟩:=Pu.len2 hl;rfl
 have D8:Def K mg "with_wish" Zew ["wishes", "ahead", "behind"]:=a8.d X G0 fun _ _ _ _ _ _ us hl=>by obtain ⟨_,_,_,rfl⟩:=Pu.len3 hl;rfl
 have D9:Def K mg "without_wish" Zc9 ["wishes", "ahead", "behind"]:=a9.d X G0 fun _ _ _ _ _ _ us hl=>by obtain ⟨_,_,_,rfl⟩:=Pu.len3 hl;rfl
 have D10:Pu.DefM K (Mk K (ExcR.clsOf mg "Village")) "__init__" "Village.__init__" Zc8 ["self", "strips"]:=a10.i e_Village mk_Village kc_Village fun _ _ _ _ _ _ us hl=>by obtain ⟨_,_,rfl⟩:=Pu.len2 hl;rfl
 have D11:Pu.DefM K (Meth K (ExcR.clsOf mg "Village") "strips") "strips" "Village.strips" Zck ["self"]:=a11.d e_Village fun _ _ _ _ _ _ us hl=>by obtain ⟨_,rfl⟩:=Pu.len1 hl;rfl
 have D12:Pu.DefM K (Meth K (ExcR.clsOf mg "Village") "wishes") "wishes" "Village.wishes" Zci ["self"]:=a12.d e_Village fun _ _ _ _ _ _ us hl=>by obtain ⟨_,rfl⟩:=Pu.len1 hl;rfl
 have D13:Pu.DefM K (Meth K (ExcR.clsOf mg "Village") "deeds") "deeds" "Village.deeds" Zct ["self"]:=a13.d e_Village fun _ _ _ _ _ _ us hl=>by obtain ⟨_,rfl⟩:=Pu.len1 hl;rfl
 have D14:Pu.DefM K (Meth K (ExcR.clsOf mg "Village") "check_room") "check_room" "Village.check_room" Zb0 ["self"]:=a14.d e_Village fun _ _ _ _ _ _ us hl=>by obtain ⟨_,rfl⟩:=Pu.len1 hl;rfl
 have D15:Pu.DefM K (Meth K (ExcR.clsOf mg "Village") "enter") "enter" "Village.enter" Zc0 ["self", "deed", "field", "wishes"]:=a15.d e_Village fun _ _ _ _ _ _ us hl=>by obtain ⟨_,_,_,_,rfl⟩:=Pu.len4 hl;rfl
 have D16:Pu.DefM K (Meth K (ExcR.clsOf mg "Village") "sell") "sell" "Village.sell" Zc6 ["self", "place", "holder"]:=a16.d e_Village fun _ _ _ _ _ _ us hl=>by obtain ⟨_,_,_,rfl⟩:=Pu.len3 hl;rfl
 have D17:Pu.DefM K (Meth K (ExcR.clsOf mg "Village") "part") "part" "Village.part" Zc7 ["self", "place", "width"]:=a17.d e_Village fun _ _ _ _ _ _ us hl=>by obtain ⟨_,_,_,rfl⟩:=Pu.len3 hl;rfl
 have D18:Pu.DefM K (Meth K (ExcR.clsOf mg "Village") "unite") "unite" "Village.unite" Zcy ["self", "place"]:=a18.d e_Village fun _ _ _ _ _ _ us hl=>by obtain ⟨_,_,rfl⟩:=Pu.len2 hl;rfl
 have D19:Pu.DefM K (Meth K (ExcR.clsOf mg "Village") "wish") "wish" "Village.wish" Zd ["self", "ahead", "behind"]:=a19.d e_Village fun _ _ _ _ _ _ us hl=>by obtain ⟨_,_,_,rfl⟩:=Pu.len3 hl;rfl
 have D20:Pu.DefM K (Meth K (ExcR.clsOf mg "Village") "drop") "drop" "Village.drop" Zda ["self", "ahead", "behind"]:=a20.d e_Village fun _ _ _ _ _ _ us hl=>by obtain ⟨_,_,_,rfl⟩:=Pu.len3 hl;rfl
 have D21:Pu.DefM K (Meth K (ExcR.clsOf mg "Village") "take_back") "take_back" "Village.take_back" Zb4 ["self"]:=a21.d e_Village fun _ _ _ _ _ _ us hl=>by obtain ⟨_,rfl⟩:=Pu.len1 hl;rfl
 have D22:Def K mg "_law_at" Zhk ["_law_script", "_law_k"]:=a22.d X G0 fun _ _ _ _ _ _ us hl=>by obtain ⟨_,_,rfl⟩:=Pu.len2 hl;rfl
 have D23:Def K mg "_law_whole" Zeu ["_law_found"]:=a23.d X G0 fun _ _ _ _ _ _ us hl=>by obtain ⟨_,rfl⟩:=Pu.len1 hl;rfl
 have D24:Def K mg "_law_mix" Zgi ["_law_cell", "_law_place_here"]:=a24.d X G0 fun _ _ _ _ _ _ us hl=>by obtain ⟨_,_,rfl⟩:=Pu.len2 hl;rfl
 have D25:Def K mg "_law_draw" Zfh ["_law_script", "_law_k"]:=a25.d X G0 fun _ _ _ _ _ _ us hl=>by obtain ⟨_,_,rfl⟩:=Pu.len2 hl;rfl
 have D26:Def K mg "_law_menu" Zfo ["_law_cell"]:=a26.d X G0 fun _ _ _ _ _ _ us hl=>by obtain ⟨_,rfl⟩:=Pu.len1 hl;rfl
 have D27:Def K mg "_law_holder" Zd3 ["_law_menu_here", "_law_k"]:=a27.d X G0 fun _ _ _ _ _ _ us hl=>by obtain ⟨_,_,rfl⟩:=Pu.len2 hl;rfl
 have D28:Def K mg "_law_tuples" Zd2 ["_law_found", "_law_due"]:=a28.d X G0 fun _ _ _ _ _ _ us hl=>by obtain ⟨_,_,rfl⟩:=Pu.len2 hl;rfl
 have D29:Def K mg "_law_deed_is" Zdk ["_law_found", "_law_due"]:=a29.d X G0 fun _ _ _ _ _ _ us hl=>by obtain ⟨_,_,rfl⟩:=Pu.len2 hl;rfl
 have D30:Def K mg "_law_book_is" Zdo ["_law_found", "_law_due"]:=a30.d X G0 fun _ _ _ _ _ _ us hl=>by obtain ⟨_,_,rfl⟩:=Pu.len2 hl;rfl
 have D31:Def K mg "_law_field_step" Zcj ["_law_strips", "_law_deed_here"]:=a31.d X G0 fun _ _ _ _ _ _ us hl=>by obtain ⟨_,_,rfl⟩:=Pu.len2 hl;rfl
 have D32:Def K mg "_law_wish_step" Zcp ["_law_wishes", "_law_deed_here"]:=a32.d X G0 fun _ _ _ _ _ _ us hl=>by obtain ⟨_,_,rfl⟩:=Pu.len2 hl;rfl
 have D33:Def K mg "_law_step" Zft ["_law_now", "_law_deed_here"]:=a33.d X G0 fun _ _ _ _ _ _ us hl=>by obtain ⟨_,_,rfl⟩:=Pu.len2 hl;rfl
 have D34:Def K mg "_law_call" Zfn ["_law_village", "_law_deed_here"]:=a34.d X G0 fun _ _ _ _ _ _ us hl=>by obtain ⟨_,_,rfl⟩:=Pu.len2 hl;rfl
 have D35:Def K mg "_law_do" Zhn ["_law_village", "_law_deed_here"]:=a35.d X G0 fun _ _ _ _ _ _ us hl=>by obtain ⟨_,_,rfl⟩:=Pu.len2 hl;rfl
 have D36:Def K mg "_law_said" Zfq ["_law_found", "_law_refusal", "_law_count"]:=a36.d X G0 fun _ _ _ _ _ _ us hl=>by obtain ⟨_,_,_,rfl⟩:=Pu.len3 hl;rfl
 have D37:Def K mg "_law_back" Zfr ["_law_village", "_law_past"]:=a37.d X G0 fun _ _ _ _ _ _ us hl=>by obtain ⟨_,_,rfl⟩:=Pu.len2 hl;rfl
 have D38:Def K mg "_law_stands" Zd1 ["_law_village", "_law_past"]:=a38.d X G0 fun _ _ _ _ _ _ us hl=>by obtain ⟨_,_,rfl⟩:=Pu.len2 hl;rfl
 have D39:Def K mg "_law_turn" Zfi ["_law_village", "_law_past", "_law_deed_here"]:=a39.d X G0 fun _ _ _ _ _ _ us hl=>by obtain ⟨_,_,_,rfl⟩:=Pu.len3 hl;rfl
 have D40:Def K mg "_law_start" Zep ["_law_script", "_law_menu_here", "_law_many"]:=a40.d X G0 fun _ _ _ _ _ _ us hl=>by obtain ⟨_,_,_,rfl⟩:=Pu.len3 hl;rfl
 have D41:Def K mg "_law_days" Zfm ["_law_script", "_law_most"]:=a41.d X G0 fun _ _ _ _ _ _ us hl=>by obtain ⟨_,_,rfl⟩:=Pu.len2 hl;rfl
 have D42:Def K mg "_law_odd" Zgf ["_law_cell", "_law_good"]:=a42.d X G0 fun _ _ _ _ _ _ us hl=>by obtain ⟨_,_,rfl⟩:=Pu.len2 hl;rfl
 have D43:Def K mg "_law_place" Zeo ["_law_cell", "_law_strips"]:=a43.d X G0 fun _ _ _ _ _ _ us hl=>by obtain ⟨_,_,rfl⟩:=Pu.len2 hl;rfl
 have D44:Def K mg "_law_pair" Zfk ["_law_cell", "_law_menu_here"]:=a44.d X G0 fun _ _ _ _ _ _ us hl=>by obtain ⟨_,_,rfl⟩:=Pu.len2 hl;rfl
 have D45:Def K mg "_law_opening" Zdl ["_law_script", "_law_menu_here"]:=a45.d X G0 fun _ _ _ _ _ _ us hl=>by obtain ⟨_,_,rfl⟩:=Pu.len2 hl;rfl
 have D46:Def K mg "_law_width" Zer ["_law_cell", "_law_strips", "_law_place_here"]:=a46.d X G0 fun _ _ _ _ _ _ us hl=>by obtain ⟨_,_,_,rfl⟩:=Pu.len3 hl;rfl
 have D47:Def K mg "_law_deed" Zfl ["_law_cell", "_law_menu_here", "_law_now"]:=a47.d X G0 fun _ _ _ _ _ _ us hl=>by obtain ⟨_,_,_,rfl⟩:=Pu.len3 hl;rfl
 have F48:=Zn6 (st:=Zjd) l48 c48 k48
 have b48:=F48.binds (ps:=["_law_script"]) fun _ _ _ _ _ _ us hl=>by obtain ⟨_,rfl⟩:=Pu.len1 hl;rfl
 have D48:Def K mg "law" Zjd ["_law_script"]:=⟨_,_,F48,PySem.W.mg_of X G0 a48,b48⟩
 refine ⟨PySem.W.fnOf "law" "law" (defArgs Zjd) (defBody Zjd) (defScope Zjd) .none kV48 dc48 pm48 an48 cd48 ct48,fun s v=>.of_eq rfl,fun base _ _=>?_⟩
 have C0:=Zij (P:=l.prog) (w:=w) (base:=base) G D0
 have C1:=Zjb (P:=l.prog) (w:=w) (base:=base) G D1
 have C3:=Zf6 (P:=l.prog) (w:=w) (base:=base) G D3
 have C4:=Zi8 (P:=l.prog) (w:=w) (base:=base) G D4
 have C9:=Zim (P:=l.prog) (w:=w) (base:=base) G D9
 have C11:=Zg4 (P:=l.prog) (w:=w) (base:=base) G D11
 have C12:=Zgx (P:=l.prog) (w:=w) (base:=base) G D12
 have C13:=Zhi (P:=l.prog) (w:=w) (base:=base) G D13
 have C14:=Ze6 (P:=l.prog) (w:=w) (base:=base) G D14
 have C15:=Zhf (P:=l.prog) (w:=w) (base:=base) G D15
 have C21:=Zfy (P:=l.prog) (w:=w) (base:=base) G D21
 have C22:=Zn3 (P:=l.prog) (w:=w) (base:=base) G D22
 have C23:=Zk4 (P:=l.prog) (w:=w) (base:=base) G D23
 have C24:=Zni (P:=l.prog) (w:=w) (base:=base) G D24
 have C26:=Zl6 (P:=l.prog) (w:=w) (base:=base) G D26
 have C27:=Zjs (P:=l.prog) (w:=w) (base:=base) G D27
 have C31:=Zgr (P:=l.prog) (w:=w) (base:=base) G D31
 have C32:=Zhe (P:=l.prog) (w:=w) (base:=base) G D32
 have C42:=Zmt (P:=l.prog) (w:=w) (base:=base) G D42
 have C43:=Zk2 (P:=l.prog) (w:=w) (base:=base) G D43
 have C46:=Zk1 (P:=l.prog) (w:=w) (base:=base) G D46
 have C2:=Zih (P:=l.prog) (w:=w) (base:=base) G D2 C0 C1
 have C5:=Zq5 (P:=l.prog) (w:=w) (base:=base) G D5 C4 C0
 have C6:=Zop (P:=l.prog) (w:=w) (base:=base) G D6 C4
 have C7:=Zol (P:=l.prog) (w:=w) (base:=base) G D7 C3
 have C8:=Zkv (P:=l.prog) (w:=w) (base:=base) G D8 C0
 have C20:=Zh8 (P:=l.prog) (w:=w) (base:=base) G D20 C14 C9 C15 C12 C11
 have C25:=Zk7 (P:=l.prog) (w:=w) (base:=base) G D25 C24 C22
 have C28:=Zjv (P:=l.prog) (w:=w) (base:=base) G D28 C23
 have C29:=Zjc (P:=l.prog) (w:=w) (base:=base) G D29 C23
 have C33:=Zl5 (P:=l.prog) (w:=w) (base:=base) G D33 C31 C32
 have C36:=Zlv (P:=l.prog) (w:=w) (base:=base) G D36 C23
 have C40:=Zkc (P:=l.prog) (w:=w) (base:=base) G D40 C22 C24 C27
 have C41:=Zlx (P:=l.prog) (w:=w) (base:=base) G D41 C24 C22
 have C44:=Zlh (P:=l.prog) (w:=w) (base:=base) G D44 C42 C27
 have C10:=Zh1 (P:=l.prog) (w:=w) (base:=base) G D10 C2
 have C16:=Zix (P:=l.prog) (w:=w) (base:=base) G D16 C14 C5 C15 C11 C12
 have C17:=Zhr (P:=l.prog) (w:=w) (base:=base) G D17 C14 C6 C15 C11 C12
 have C18:=Zhd (P:=l.prog) (w:=w) (base:=base) G D18 C14 C7 C15 C11 C12
 have C19:=Ziz (P:=l.prog) (w:=w) (base:=base) G D19 C14 C8 C15 C12 C11
 have C30:=Zi6 (P:=l.prog) (w:=w) (base:=base) G D30 C29
 have C37:=Zly (P:=l.prog) (w:=w) (base:=base) G D37 C21 C29
 have C45:=Zi9 (P:=l.prog) (w:=w) (base:=base) G D45 C24 C22 C44 C27
 have C47:=Zl4 (P:=l.prog) (w:=w) (base:=base) G D47 C43 C44 C42 C46 C27
 have C34:=Zld (P:=l.prog) (w:=w) (base:=base) G D34 C20 C16 C17 C18 C19
 have C38:=Zju (P:=l.prog) (w:=w) (base:=base) G D38 C30 C28 C13 C11 C12
 have C35:=Zoq (P:=l.prog) (w:=w) (base:=base) G D35 C34
 have C39:=Zlq (P:=l.prog) (w:=w) (base:=base) G D39 C35 C33 C37 C36
 have C48:=Zrq (P:=l.prog) (w:=w) (base:=base) G D48 C26 C40 C10 C45 C41 C38 C25 C47 C39 C22
 exact (C48.at (PySem.W.mg_of X G0 a48) F48 D48).imp fun _ _ _ _ z=>Pu.Zrr z
end T
namespace PySem.W.Fast
theorem tw12302167856850720385:True:=⟨⟩
theorem tw9785042204467854336:True:=⟨⟩
theorem tw17610804399988543520:True:=⟨⟩
theorem tw17483981073318567968:True:=⟨⟩
theorem tw7275263553855581248:True:=⟨⟩
theorem tw13061262881403484256:True:=⟨⟩
theorem tw20325891530351840:True:=⟨⟩
theorem tw17981582524649445728:True:=⟨⟩
theorem tw9802147434527763808:True:=⟨⟩
theorem tw18061354631971562976:True:=⟨⟩
theorem tw15137093669901269472:True:=⟨⟩
theorem tw1623192514004067840:True:=⟨⟩
theorem tw13118727970967559712:True:=⟨⟩
theorem tw897705722011655712:True:=⟨⟩
theorem tw14930344959509466688:True:=⟨⟩
theorem tw17075948377681208064:True:=⟨⟩
theorem tw9911934768036461376:True:=⟨⟩
theorem tw15059842533119644512:True:=⟨⟩
theorem tw13131247522588976032:True:=⟨⟩
theorem tw11203436306940821440:True:=⟨⟩
theorem tw1200107310366894081:True:=⟨⟩
theorem tw13983123494569631745:True:=⟨⟩
theorem tw10954350850012619809:True:=⟨⟩
theorem tw14086129663968463905:True:=⟨⟩
theorem tw9891866837200635009:True:=⟨⟩
theorem tw11144616833710644353:True:=⟨⟩
theorem tw1356319778055612545:True:=⟨⟩
theorem tw15020652496418460865:True:=⟨⟩
theorem tw12739156205863692513:True:=⟨⟩
theorem tw2601978075159908609:True:=⟨⟩
theorem tw13288862058823969089:True:=⟨⟩
theorem tw6334518520433529281:True:=⟨⟩
theorem tw8551412679684658657:True:=⟨⟩
theorem tw18401027303573166593:True:=⟨⟩
theorem tw12378516810198273537:True:=⟨⟩
theorem tw5626678266146072097:True:=⟨⟩
theorem tw2883096262067934785:True:=⟨⟩
theorem tw6674228712751493921:True:=⟨⟩
theorem tw319678964796002113:True:=⟨⟩
theorem tw8916307052881623873:True:=⟨⟩
theorem tw1918214326161493825:True:=⟨⟩
theorem tw3897078887589896033:True:=⟨⟩
theorem tw1126692456319472513:True:=⟨⟩
theorem tw17471674419196576673:True:=⟨⟩
theorem tw2116262416544925665:True:=⟨⟩
theorem tw3854898696522807265:True:=⟨⟩
theorem tw16213952472344085473:True:=⟨⟩
theorem tw11678119944794572866:True:=⟨⟩
theorem tw4398213083603510466:True:=⟨⟩
theorem tw2584423997750526146:True:=⟨⟩
theorem tw13914160977651374338:True:=⟨⟩
theorem tw266065453417831746:True:=⟨⟩
theorem tw4799244982551831874:True:=⟨⟩
theorem tw17619508412775803266:True:=⟨⟩
theorem tw2354697421421767170:True:=⟨⟩
theorem tw11493980106332745314:True:=⟨⟩
theorem tw191406921553826466:True:=⟨⟩
theorem tw13172400870869325506:True:=⟨⟩
theorem tw4202026581623268130:True:=⟨⟩
theorem tw11458653471064570690:True:=⟨⟩
theorem tw17174148607930558274:True:=⟨⟩
theorem tw14208238284506525506:True:=⟨⟩
theorem tw17632076940553558882:True:=⟨⟩
theorem tw4167230896406412130:True:=⟨⟩
theorem tw9687850749257931682:True:=⟨⟩
theorem tw7786028925795631107:True:=⟨⟩
theorem tw5888716896015150115:True:=⟨⟩
theorem tw12850360497091276867:True:=⟨⟩
theorem tw1387180762490970211:True:=⟨⟩
theorem tw15946827394824661091:True:=⟨⟩
theorem tw5945662617150648579:True:=⟨⟩
theorem tw11171163028474085667:True:=⟨⟩
theorem tw11887814650922434883:True:=⟨⟩
theorem tw16836467484575256003:True:=⟨⟩
theorem tw5449829331742004739:True:=⟨⟩
theorem tw657729395248515587:True:=⟨⟩
theorem tw16959243530433664579:True:=⟨⟩
theorem tw11357069194434578147:True:=⟨⟩
theorem tw15361346297555233539:True:=⟨⟩
theorem tw14813840191201361699:True:=⟨⟩
theorem tw15730205186447742787:True:=⟨⟩
theorem tw14741981784290636611:True:=⟨⟩
theorem tw14324105511262335843:True:=⟨⟩
theorem tw10430867341317011299:True:=⟨⟩
theorem tw16702427649682755620:True:=⟨⟩
theorem tw14197090332396481572:True:=⟨⟩
theorem tw3364038050001129572:True:=⟨⟩
theorem tw17796982076334464100:True:=⟨⟩
theorem tw3655070582574003332:True:=⟨⟩
theorem tw15030704937739583652:True:=⟨⟩
theorem tw7912220648416347300:True:=⟨⟩
theorem tw12391334872069975236:True:=⟨⟩
theorem tw14752177952459626724:True:=⟨⟩
theorem tw14513776823896341732:True:=⟨⟩
theorem tw10593590617256871172:True:=⟨⟩
theorem tw6993183065955910916:True:=⟨⟩
theorem tw10900907512735069476:True:=⟨⟩
theorem tw4452346120962337092:True:=⟨⟩
theorem tw12353560567417501028:True:=⟨⟩
theorem tw27105963164549508:True:=⟨⟩
theorem tw16982940667804935588:True:=⟨⟩
theorem tw2853401420035550660:True:=⟨⟩
theorem tw3676706945334990308:True:=⟨⟩
theorem tw11073627093579414020:True:=⟨⟩
theorem tw7956128709759388164:True:=⟨⟩
theorem tw1326839155432220228:True:=⟨⟩
theorem tw14769696928761160292:True:=⟨⟩
theorem tw13389543694498834052:True:=⟨⟩
theorem tw1887766542059871940:True:=⟨⟩
theorem tw4424501024712236772:True:=⟨⟩
theorem tw18342799953729068836:True:=⟨⟩
theorem tw15112914039528158052:True:=⟨⟩
theorem tw18235568247927102469:True:=⟨⟩
theorem tw5173770800280887301:True:=⟨⟩
theorem tw9753226865859881029:True:=⟨⟩
theorem tw4855680330525096037:True:=⟨⟩
theorem tw14927917149288324197:True:=⟨⟩
theorem tw9278110979390700677:True:=⟨⟩
theorem tw12742112064405519525:True:=⟨⟩
theorem tw18245089298122550533:True:=⟨⟩
theorem tw11276080656527354117:True:=⟨⟩
theorem tw9845160106591784261:True:=⟨⟩
theorem tw14642779967587226949:True:=⟨⟩
theorem tw444709094431366469:True:=⟨⟩
theorem tw2049355908196102501:True:=⟨⟩
theorem tw15902148596923292037:True:=⟨⟩
theorem tw4811105252932596165:True:=⟨⟩
theorem tw9520631885484147173:True:=⟨⟩
theorem tw8767116460336982565:True:=⟨⟩
theorem tw5678212241693924901:True:=⟨⟩
theorem tw4681997977635644005:True:=⟨⟩
theorem tw12597973915330964197:True:=⟨⟩
theorem tw2065406723286477605:True:=⟨⟩
theorem tw6237259683190009637:True:=⟨⟩
theorem tw6234252962219223877:True:=⟨⟩
theorem tw1859775742398756741:True:=⟨⟩
theorem tw16827632628573467557:True:=⟨⟩
theorem tw7303775840741658597:True:=⟨⟩
theorem tw5621860701424865382:True:=⟨⟩
theorem tw10888379611031937222:True:=⟨⟩
theorem tw8321200836250647750:True:=⟨⟩
theorem tw448258411449277670:True:=⟨⟩
theorem tw5870152519703452902:True:=⟨⟩
theorem tw11232849439338620134:True:=⟨⟩
theorem tw1549798754286336230:True:=⟨⟩
theorem tw1864381287311282470:True:=⟨⟩
theorem tw13591118546521662758:True:=⟨⟩
theorem tw13474058601246567718:True:=⟨⟩
theorem tw6284357997043238214:True:=⟨⟩
theorem tw6789122250697215430:True:=⟨⟩
theorem tw11762439040410100166:True:=⟨⟩
theorem tw3795771824594428358:True:=⟨⟩
theorem tw11084976520753737158:True:=⟨⟩
theorem tw18419560527830938086:True:=⟨⟩
theorem tw6497616619574052358:True:=⟨⟩
theorem tw5625208930446265862:True:=⟨⟩
theorem tw430676704681843206:True:=⟨⟩
theorem tw15029758010955266566:True:=⟨⟩
theorem tw10019966361584272966:True:=⟨⟩
theorem tw9552326120944063046:True:=⟨⟩
theorem tw633488856672328262:True:=⟨⟩
theorem tw788942507829357158:True:=⟨⟩
theorem tw1502360470102257286:True:=⟨⟩
theorem tw6385587759615243942:True:=⟨⟩
theorem tw12235304751691923110:True:=⟨⟩
theorem tw2426878527198152390:True:=⟨⟩
theorem tw1273549715503374022:True:=⟨⟩
theorem tw2061407189513576166:True:=⟨⟩
theorem tw11834425320529411878:True:=⟨⟩
theorem tw2867816443018972998:True:=⟨⟩
theorem tw12605822675819830086:True:=⟨⟩
theorem tw16234647900246065990:True:=⟨⟩
theorem tw13380356736548295558:True:=⟨⟩
theorem tw15453320977047780230:True:=⟨⟩
theorem tw7616439396917189542:True:=⟨⟩
theorem tw1134163635775765414:True:=⟨⟩
theorem tw2736445946546957254:True:=⟨⟩
theorem tw7583107322593242054:True:=⟨⟩
theorem tw3667759743716922342:True:=⟨⟩
theorem tw17619237104047968263:True:=⟨⟩
theorem tw17342675811773240327:True:=⟨⟩
theorem tw576966475285363751:True:=⟨⟩
theorem tw18436640286577561671:True:=⟨⟩
theorem tw13207970082668276839:True:=⟨⟩
theorem tw16880524157095686311:True:=⟨⟩
theorem tw8195566649503515911:True:=⟨⟩
theorem tw16699544105332521223:True:=⟨⟩
theorem tw10864735865808303495:True:=⟨⟩
theorem tw17550788760433932679:True:=⟨⟩
theorem tw6437869150781987239:True:=⟨⟩
theorem tw985008725803524519:True:=⟨⟩
theorem tw13810675196207903175:True:=⟨⟩
theorem tw9980784054492964359:True:=⟨⟩
theorem tw3646841871155057223:True:=⟨⟩
theorem tw10644146878252184135:True:=⟨⟩
theorem tw12000494915507896935:True:=⟨⟩
theorem tw17347140292346433127:True:=⟨⟩
theorem tw1806794988323220135:True:=⟨⟩
theorem tw7722722139018418855:True:=⟨⟩
theorem tw12277066738026097383:True:=⟨⟩
theorem tw13055160510968032039:True:=⟨⟩
theorem tw14026589132447558503:True:=⟨⟩
theorem tw2901008343771554695:True:=⟨⟩
theorem tw16761869445180296103:True:=⟨⟩
theorem tw611154858311397287:True:=⟨⟩
theorem tw10011515877664862119:True:=⟨⟩
theorem tw10515341715264655271:True:=⟨⟩
theorem tw6734606801791775719:True:=⟨⟩
theorem tw8551435898442204232:True:=⟨⟩
theorem tw10314540799478809672:True:=⟨⟩
theorem tw14527245997480795272:True:=⟨⟩
theorem tw16339761298835736744:True:=⟨⟩
theorem tw4155135477814140136:True:=⟨⟩
theorem tw18411969806787309832:True:=⟨⟩
theorem tw1647638834866106664:True:=⟨⟩
theorem tw12382621479007933736:True:=⟨⟩
theorem tw14649335613992996168:True:=⟨⟩
theorem tw18278581681648068936:True:=⟨⟩
theorem tw6045880359014152552:True:=⟨⟩
theorem tw2134915660035531176:True:=⟨⟩
theorem tw2049004816382574024:True:=⟨⟩
theorem tw8583881704333692360:True:=⟨⟩
theorem tw3345748061043398184:True:=⟨⟩
theorem tw552837905782851176:True:=⟨⟩
theorem tw1923918753285930600:True:=⟨⟩
theorem tw8459600949165270728:True:=⟨⟩
theorem tw4730967748781677288:True:=⟨⟩
theorem tw1702638058889076488:True:=⟨⟩
theorem tw7291699958880956168:True:=⟨⟩
theorem tw8166011238080054088:True:=⟨⟩
theorem tw11919335769595652936:True:=⟨⟩
theorem tw2050177449745145672:True:=⟨⟩
theorem tw5277319593463677800:True:=⟨⟩
theorem tw14520352333244374920:True:=⟨⟩
theorem tw288667726118052744:True:=⟨⟩
theorem tw443606019205039177:True:=⟨⟩
theorem tw50872581578278985:True:=⟨⟩
theorem tw11605014982294790249:True:=⟨⟩
theorem tw7268306021629853865:True:=⟨⟩
theorem tw8697108485874368681:True:=⟨⟩
theorem tw5626297156482561193:True:=⟨⟩
theorem tw365853678191379689:True:=⟨⟩
theorem tw15959824818700982569:True:=⟨⟩
theorem tw16459411491933986089:True:=⟨⟩
theorem tw12026073057553174825:True:=⟨⟩
theorem tw10554753520840310089:True:=⟨⟩
theorem tw5474820357638086121:True:=⟨⟩
theorem tw13205877517757656585:True:=⟨⟩
theorem tw4096997533182711305:True:=⟨⟩
theorem tw16238883340835970569:True:=⟨⟩
theorem tw11989859593778404905:True:=⟨⟩
theorem tw5771190547162895945:True:=⟨⟩
theorem tw18358605479952406089:True:=⟨⟩
theorem tw9006694257800313417:True:=⟨⟩
theorem tw12624968418444502697:True:=⟨⟩
theorem tw14396990973029414633:True:=⟨⟩
theorem tw14557127625546062633:True:=⟨⟩
theorem tw3039928974314992425:True:=⟨⟩
theorem tw8654264284911830953:True:=⟨⟩
theorem tw10010929201928009641:True:=⟨⟩
theorem tw10695223699026213801:True:=⟨⟩
theorem tw14661015999183287241:True:=⟨⟩
theorem tw7856108228731798570:True:=⟨⟩
theorem tw4080744697631933514:True:=⟨⟩
theorem tw15069292259600647338:True:=⟨⟩
theorem tw16426002070845019370:True:=⟨⟩
theorem tw2607568329071021450:True:=⟨⟩
theorem tw4487034529692602826:True:=⟨⟩
theorem tw6405990946777266698:True:=⟨⟩
theorem tw2732047622124117546:True:=⟨⟩
theorem tw8275480197528019498:True:=⟨⟩
theorem tw1538659117061852746:True:=⟨⟩
theorem tw2467834412923758186:True:=⟨⟩
theorem tw2446892270195157706:True:=⟨⟩
theorem tw11230205619327487690:True:=⟨⟩
theorem tw9511847007391785802:True:=⟨⟩
theorem tw3797660011899708234:True:=⟨⟩
theorem tw90232367105264522:True:=⟨⟩
theorem tw3723400545315605515:True:=⟨⟩
theorem tw7385051001264082987:True:=⟨⟩
theorem tw8097137234277426219:True:=⟨⟩
theorem tw11193644949808640139:True:=⟨⟩
theorem tw759301175403153579:True:=⟨⟩
theorem tw7463757819074141387:True:=⟨⟩
theorem tw1689326639687523531:True:=⟨⟩
theorem tw489458477724164299:True:=⟨⟩
theorem tw12788115385656479979:True:=⟨⟩
theorem tw11609090671729422603:True:=⟨⟩
theorem tw407521262843674891:True:=⟨⟩
theorem tw18431524524682079499:True:=⟨⟩
theorem tw1360317209766647083:True:=⟨⟩
theorem tw7027994260629422411:True:=⟨⟩
theorem tw11665112924835488107:True:=⟨⟩
theorem tw311513532783790603:True:=⟨⟩
theorem tw16457956886725203467:True:=⟨⟩
theorem tw14708537912489461259:True:=⟨⟩
theorem tw2975624145678955019:True:=⟨⟩
theorem tw12859983991257890347:True:=⟨⟩
theorem tw11504747170308470347:True:=⟨⟩
theorem tw18243410084803485291:True:=⟨⟩
theorem tw540958640683612779:True:=⟨⟩
theorem tw9899401209296012939:True:=⟨⟩
theorem tw14451394231922866027:True:=⟨⟩
theorem tw8581901376545394571:True:=⟨⟩
theorem tw14455206979172407179:True:=⟨⟩
theorem tw12039101604242429867:True:=⟨⟩
theorem tw9989633914077946795:True:=⟨⟩
theorem tw5393653917435261867:True:=⟨⟩
theorem tw17458094319544631211:True:=⟨⟩
theorem tw15395125472973679628:True:=⟨⟩
theorem tw6594066127274312748:True:=⟨⟩
theorem tw16914336087512978476:True:=⟨⟩
theorem tw10011714826041186380:True:=⟨⟩
theorem tw13646540685368504428:True:=⟨⟩
theorem tw16791831736159647916:True:=⟨⟩
theorem tw7249867171737063660:True:=⟨⟩
theorem tw5392800749691756812:True:=⟨⟩
theorem tw15398926720449119564:True:=⟨⟩
theorem tw8080292150153958732:True:=⟨⟩
theorem tw7824264612279319916:True:=⟨⟩
theorem tw5142506911184841164:True:=⟨⟩
theorem tw3836800023207338540:True:=⟨⟩
theorem tw3666219776373828236:True:=⟨⟩
theorem tw5815605437991238508:True:=⟨⟩
theorem tw17682881423074600844:True:=⟨⟩
theorem tw10721319839304008652:True:=⟨⟩
theorem tw17276519860416600109:True:=⟨⟩
theorem tw14289081690886987853:True:=⟨⟩
theorem tw12849109707335341229:True:=⟨⟩
theorem tw6869286704851021005:True:=⟨⟩
theorem tw11989739221428080877:True:=⟨⟩
theorem tw5998755336506100973:True:=⟨⟩
theorem tw8203286220764251437:True:=⟨⟩
theorem tw13667669664091067757:True:=⟨⟩
theorem tw1976542149962172813:True:=⟨⟩
theorem tw12471745795483666829:True:=⟨⟩
theorem tw9661519844150704589:True:=⟨⟩
theorem tw2059155144580593133:True:=⟨⟩
theorem tw10423729495616621101:True:=⟨⟩
theorem tw4713195320406189677:True:=⟨⟩
theorem tw7310455806516316781:True:=⟨⟩
theorem tw11467027134929716877:True:=⟨⟩
theorem tw18119776112973593293:True:=⟨⟩
theorem tw9164504807507644109:True:=⟨⟩
theorem tw7134977587650849485:True:=⟨⟩
theorem tw11650274035312151277:True:=⟨⟩
theorem tw7200986439879546605:True:=⟨⟩
theorem tw15812831573760076653:True:=⟨⟩
theorem tw8320787021956429709:True:=⟨⟩
theorem tw13498765701721231309:True:=⟨⟩
theorem tw3089766348575707117:True:=⟨⟩
theorem tw10550560341927632877:True:=⟨⟩
theorem tw10457539883669266446:True:=⟨⟩
theorem tw3057441143357945870:True:=⟨⟩
theorem tw15940637219168352270:True:=⟨⟩
theorem tw17102187320696883246:True:=⟨⟩
theorem tw11008722377871388718:True:=⟨⟩
theorem tw3071077581380396110:True:=⟨⟩
theorem tw15719155802539213934:True:=⟨⟩
theorem tw6315375385427564686:True:=⟨⟩
theorem tw5425033283420496078:True:=⟨⟩
theorem tw11194516856385062126:True:=⟨⟩
theorem tw3642058684831139118:True:=⟨⟩
theorem tw7330209806038500654:True:=⟨⟩
theorem tw3455678690250288462:True:=⟨⟩
theorem tw12594238418507815406:True:=⟨⟩
theorem tw15335819538490647022:True:=⟨⟩
theorem tw8226486125400146446:True:=⟨⟩
theorem tw8899826262389741134:True:=⟨⟩
theorem tw16505793628439221870:True:=⟨⟩
theorem tw13090143530982659694:True:=⟨⟩
theorem tw11506524878121899662:True:=⟨⟩
theorem tw5219891424683157134:True:=⟨⟩
theorem tw11849636061381082830:True:=⟨⟩
theorem tw5430100762846606062:True:=⟨⟩
theorem tw15496193639529997038:True:=⟨⟩
theorem tw16961499333881684846:True:=⟨⟩
theorem tw16618065459185804142:True:=⟨⟩
theorem tw15442819915902841774:True:=⟨⟩
theorem tw13941888945619558415:True:=⟨⟩
theorem tw5508970433563132047:True:=⟨⟩
theorem tw8820882674838049967:True:=⟨⟩
theorem tw14498097502931199151:True:=⟨⟩
theorem tw9876053775021596879:True:=⟨⟩
theorem tw10906984111977907439:True:=⟨⟩
theorem tw9805316162124769551:True:=⟨⟩
theorem tw13696960353120350479:True:=⟨⟩
theorem tw17221175489700820271:True:=⟨⟩
theorem tw12138920331612256591:True:=⟨⟩
theorem tw15469632780090726895:True:=⟨⟩
theorem tw796442353332100655:True:=⟨⟩
theorem tw14487779401608697455:True:=⟨⟩
theorem tw17685302594859715183:True:=⟨⟩
theorem tw5465321936443574927:True:=⟨⟩
theorem tw13449202773651921551:True:=⟨⟩
theorem tw9782389123350897295:True:=⟨⟩
theorem tw3722626859594657455:True:=⟨⟩
theorem tw10783258666608330511:True:=⟨⟩
theorem tw10251940684982356751:True:=⟨⟩
theorem tw4033657193580236559:True:=⟨⟩
theorem tw16883140436327409423:True:=⟨⟩
theorem tw8798658145130038159:True:=⟨⟩
theorem tw7302811397465743279:True:=⟨⟩
theorem tw16489401093250593711:True:=⟨⟩
theorem tw12977087109642206159:True:=⟨⟩
theorem tw2035709013633542160:True:=⟨⟩
theorem tw9612660128100455472:True:=⟨⟩
theorem tw12600054002611447888:True:=⟨⟩
theorem tw1208583906033665200:True:=⟨⟩
theorem tw11464556821713953968:True:=⟨⟩
theorem tw16504275442781825200:True:=⟨⟩
theorem tw15403347870008771824:True:=⟨⟩
theorem tw10317196372226551024:True:=⟨⟩
theorem tw8367459060901272816:True:=⟨⟩
theorem tw18203670804483237200:True:=⟨⟩
theorem tw1214163631031824752:True:=⟨⟩
theorem tw10595206109266095504:True:=⟨⟩
theorem tw17897739866389350864:True:=⟨⟩
theorem tw4807112391631388176:True:=⟨⟩
theorem tw18119928908029740624:True:=⟨⟩
theorem tw161277781192938160:True:=⟨⟩
theorem tw14043227128565946032:True:=⟨⟩
theorem tw6702528259901984464:True:=⟨⟩
theorem tw10404789498126116592:True:=⟨⟩
theorem tw13905244938534285040:True:=⟨⟩
theorem tw14975220065244696368:True:=⟨⟩
theorem tw6452621294599494448:True:=⟨⟩
theorem tw749189279787752304:True:=⟨⟩
theorem tw11781257117372525424:True:=⟨⟩
theorem tw11739096146378409936:True:=⟨⟩
theorem tw4993865358139117520:True:=⟨⟩
theorem tw8848614837830500465:True:=⟨⟩
theorem tw5538181007663997073:True:=⟨⟩
theorem tw59377208607170961:True:=⟨⟩
theorem tw16765748413972905361:True:=⟨⟩
theorem tw3284120835971038705:True:=⟨⟩
theorem tw16854215815590833649:True:=⟨⟩
theorem tw6930156037681283697:True:=⟨⟩
theorem tw12225692542317789809:True:=⟨⟩
theorem tw14396720710700719729:True:=⟨⟩
theorem tw11894181863643520689:True:=⟨⟩
theorem tw6931906457978689201:True:=⟨⟩
theorem tw3317723322763620049:True:=⟨⟩
theorem tw6282071254868508369:True:=⟨⟩
theorem tw12076113041982231281:True:=⟨⟩
theorem tw7984644377058534257:True:=⟨⟩
theorem tw15418347815276682129:True:=⟨⟩
theorem tw9876443993425627025:True:=⟨⟩
theorem tw12614740230177601554:True:=⟨⟩
theorem tw14151403545846443026:True:=⟨⟩
theorem tw270843828289670194:True:=⟨⟩
theorem tw8684833334439784498:True:=⟨⟩
theorem tw9273105192472501298:True:=⟨⟩
theorem tw17553293763146806322:True:=⟨⟩
theorem tw5433667726808677426:True:=⟨⟩
theorem tw18294119288121921618:True:=⟨⟩
theorem tw7661940107898532946:True:=⟨⟩
theorem tw9638252722527964306:True:=⟨⟩
theorem tw2037638140105116914:True:=⟨⟩
theorem tw17211939996652262642:True:=⟨⟩
theorem tw15990087592733726994:True:=⟨⟩
theorem tw6811353837733385522:True:=⟨⟩
theorem tw9353449535198241106:True:=⟨⟩
theorem tw4485479665628824946:True:=⟨⟩
theorem tw9552992582818893234:True:=⟨⟩
theorem tw15963157978960957874:True:=⟨⟩
theorem tw9201341105832762802:True:=⟨⟩
theorem tw12483813515058200114:True:=⟨⟩
theorem tw3512895147956526642:True:=⟨⟩
theorem tw6135823820107197010:True:=⟨⟩
theorem tw10408030492689467026:True:=⟨⟩
theorem tw5198506654308074162:True:=⟨⟩
theorem tw6585923604708414162:True:=⟨⟩
theorem tw7107773812107884306:True:=⟨⟩
theorem tw8684070915588875058:True:=⟨⟩
theorem tw10222587131964370802:True:=⟨⟩
theorem tw6920756382219037554:True:=⟨⟩
theorem tw3915631032342256530:True:=⟨⟩
theorem tw9084759119867636722:True:=⟨⟩
theorem tw7859880851657918483:True:=⟨⟩
theorem tw10122788678279711827:True:=⟨⟩
theorem tw1546229021720922227:True:=⟨⟩
theorem tw9470903511827548307:True:=⟨⟩
theorem tw5703068110087628947:True:=⟨⟩
theorem tw17550966644992920787:True:=⟨⟩
theorem tw7911933354674691347:True:=⟨⟩
theorem tw13970760550258567539:True:=⟨⟩
theorem tw14454968965386978803:True:=⟨⟩
theorem tw3002487344644257267:True:=⟨⟩
theorem tw17214288806093498899:True:=⟨⟩
theorem tw12799511196524213811:True:=⟨⟩
theorem tw8038482637421646483:True:=⟨⟩
theorem tw10370697148355103379:True:=⟨⟩
theorem tw14576998723364448979:True:=⟨⟩
theorem tw15160540593401934579:True:=⟨⟩
theorem tw9841918862605672179:True:=⟨⟩
theorem tw5407955004805288723:True:=⟨⟩
theorem tw16708505019065378579:True:=⟨⟩
theorem tw10308260042833947507:True:=⟨⟩
theorem tw2814560724593957779:True:=⟨⟩
theorem tw8855626133739134867:True:=⟨⟩
theorem tw9884256310104675348:True:=⟨⟩
theorem tw7631739905495321684:True:=⟨⟩
theorem tw4627151250447748212:True:=⟨⟩
theorem tw15793996964116557012:True:=⟨⟩
theorem tw12122815001383838964:True:=⟨⟩
theorem tw14268774310382694900:True:=⟨⟩
theorem tw8432648932145725972:True:=⟨⟩
theorem tw15379203290630401556:True:=⟨⟩
theorem tw1001866752899483284:True:=⟨⟩
theorem tw716553633980554900:True:=⟨⟩
theorem tw11799666103538643604:True:=⟨⟩
theorem tw9391881756318603956:True:=⟨⟩
theorem tw12576933805349255892:True:=⟨⟩
theorem tw10099588574023656308:True:=⟨⟩
theorem tw8677685678107928436:True:=⟨⟩
theorem tw12367377038066070388:True:=⟨⟩
theorem tw10809132930696735636:True:=⟨⟩
theorem tw16698124721306889140:True:=⟨⟩
theorem tw13667214788464599028:True:=⟨⟩
theorem tw13071928324759253173:True:=⟨⟩
theorem tw14530695233780437301:True:=⟨⟩
theorem tw4238950010474569141:True:=⟨⟩
theorem tw3282251124165508565:True:=⟨⟩
theorem tw8169156412931489301:True:=⟨⟩
theorem tw15927942762863258133:True:=⟨⟩
theorem tw10145830893695659605:True:=⟨⟩
theorem tw10746448484963749525:True:=⟨⟩
theorem tw15020911926593362581:True:=⟨⟩
theorem tw7880726132550694581:True:=⟨⟩
theorem tw10950288741601792725:True:=⟨⟩
theorem tw15323605457482671861:True:=⟨⟩
theorem tw2453993314704603989:True:=⟨⟩
theorem tw18154178997252137845:True:=⟨⟩
theorem tw15934506865822927797:True:=⟨⟩
theorem tw18252610125446961077:True:=⟨⟩
theorem tw6656258280816480245:True:=⟨⟩
theorem tw16874484997316689909:True:=⟨⟩
theorem tw16072630359589368918:True:=⟨⟩
theorem tw190146924707636310:True:=⟨⟩
theorem tw12290816850391645366:True:=⟨⟩
theorem tw5952727428830610614:True:=⟨⟩
theorem tw5074640073663122646:True:=⟨⟩
theorem tw9233389698858932470:True:=⟨⟩
theorem tw16872416902898772214:True:=⟨⟩
theorem tw14286480049683152214:True:=⟨⟩
theorem tw9802259732353903958:True:=⟨⟩
theorem tw13969355199273674102:True:=⟨⟩
theorem tw16185015256881592694:True:=⟨⟩
theorem tw12601567495945293206:True:=⟨⟩
theorem tw10333580505763726742:True:=⟨⟩
theorem tw1369556044890516918:True:=⟨⟩
theorem tw3473161041287547382:True:=⟨⟩
theorem tw15478922745748705878:True:=⟨⟩
theorem tw2121709101247368854:True:=⟨⟩
theorem tw16917211996121281302:True:=⟨⟩
theorem tw1649990812220305206:True:=⟨⟩
theorem tw6188038541490371414:True:=⟨⟩
theorem tw5605885065554498454:True:=⟨⟩
theorem tw3405630701761154038:True:=⟨⟩
theorem tw8470159521633292278:True:=⟨⟩
theorem tw5650894850074660854:True:=⟨⟩
theorem tw8854133630625746967:True:=⟨⟩
theorem tw13470204347072285751:True:=⟨⟩
theorem tw12615974832037736535:True:=⟨⟩
theorem tw3744201199183903831:True:=⟨⟩
theorem tw7517735194630413431:True:=⟨⟩
theorem tw16020351583378110647:True:=⟨⟩
theorem tw8832084298423266551:True:=⟨⟩
theorem tw12028006850594271479:True:=⟨⟩
theorem tw17414455129768617239:True:=⟨⟩
theorem tw17230864222110965079:True:=⟨⟩
theorem tw13880789630711295415:True:=⟨⟩
theorem tw15817765930290762199:True:=⟨⟩
theorem tw17812663486493330935:True:=⟨⟩
theorem tw152230086519269911:True:=⟨⟩
theorem tw1488229365964764823:True:=⟨⟩
theorem tw9387949639470359255:True:=⟨⟩
theorem tw15015629428243888855:True:=⟨⟩
theorem tw1971476769692846839:True:=⟨⟩
theorem tw3596727085757240055:True:=⟨⟩
theorem tw3666662055750735639:True:=⟨⟩
theorem tw12764793701166195543:True:=⟨⟩
theorem tw4947220447421938551:True:=⟨⟩
theorem tw4188478001321386903:True:=⟨⟩
theorem tw2424400888858041239:True:=⟨⟩
theorem tw17826825096050308023:True:=⟨⟩
theorem tw13033297290589907959:True:=⟨⟩
theorem tw8163733906589406232:True:=⟨⟩
theorem tw11118747042376216600:True:=⟨⟩
theorem tw13391767553502220376:True:=⟨⟩
theorem tw12164184181679222968:True:=⟨⟩
theorem tw6183270412911015128:True:=⟨⟩
theorem tw14448301567508039960:True:=⟨⟩
theorem tw1819855669289675032:True:=⟨⟩
theorem tw3499862277754467640:True:=⟨⟩
theorem tw3273927320231139640:True:=⟨⟩
theorem tw10611284487257570648:True:=⟨⟩
theorem tw10365164157623793048:True:=⟨⟩
theorem tw18097551318663180760:True:=⟨⟩
theorem tw15124674560691663352:True:=⟨⟩
theorem tw430134431186794040:True:=⟨⟩
theorem tw13456955448932137528:True:=⟨⟩
theorem tw18165857505223123608:True:=⟨⟩
theorem tw3768048919577512664:True:=⟨⟩
theorem tw13611892081767309048:True:=⟨⟩
theorem tw6522028429584380696:True:=⟨⟩
theorem tw1996611246511187736:True:=⟨⟩
theorem tw15590226883804760920:True:=⟨⟩
theorem tw786866908312263512:True:=⟨⟩
theorem tw4663003018026541976:True:=⟨⟩
theorem tw10474182638262857656:True:=⟨⟩
theorem tw17244314328263828440:True:=⟨⟩
theorem tw11927009076701309912:True:=⟨⟩
theorem tw63168306165858264:True:=⟨⟩
theorem tw7281743380762467320:True:=⟨⟩
theorem tw16507108141689898009:True:=⟨⟩
theorem tw8423730619358588025:True:=⟨⟩
theorem tw13018185566397160665:True:=⟨⟩
theorem tw16810312987455933721:True:=⟨⟩
theorem tw13722182385364490553:True:=⟨⟩
theorem tw1990894195747630457:True:=⟨⟩
theorem tw5616192898122559865:True:=⟨⟩
theorem tw8189937964151383449:True:=⟨⟩
theorem tw1912836902526308793:True:=⟨⟩
theorem tw2415431441870452153:True:=⟨⟩
theorem tw7468266665865447897:True:=⟨⟩
theorem tw1525957306292513337:True:=⟨⟩
theorem tw15372224728123353689:True:=⟨⟩
theorem tw8344805258859561593:True:=⟨⟩
theorem tw12615389313877025433:True:=⟨⟩
theorem tw15013029997862519481:True:=⟨⟩
theorem tw13512205183217111737:True:=⟨⟩
theorem tw4405396468722280249:True:=⟨⟩
theorem tw14610529918891235193:True:=⟨⟩
theorem tw4515909563732173689:True:=⟨⟩
theorem tw4465780837323478937:True:=⟨⟩
theorem tw6901393657936266137:True:=⟨⟩
theorem tw18336898117808051097:True:=⟨⟩
theorem tw12557451642650514361:True:=⟨⟩
theorem tw4881572093894123449:True:=⟨⟩
theorem tw1151257911863044025:True:=⟨⟩
theorem tw15124179058396760057:True:=⟨⟩
theorem tw2343493656212964378:True:=⟨⟩
theorem tw17615614316334294042:True:=⟨⟩
theorem tw16114635249095203866:True:=⟨⟩
theorem tw11975434380856334458:True:=⟨⟩
theorem tw3949120784797614266:True:=⟨⟩
theorem tw1942703015354836186:True:=⟨⟩
theorem tw6561219131415203130:True:=⟨⟩
theorem tw11448841560023120218:True:=⟨⟩
theorem tw2779073903486067034:True:=⟨⟩
theorem tw14731970052472463738:True:=⟨⟩
theorem tw1754910416354431418:True:=⟨⟩
theorem tw16002597207208939962:True:=⟨⟩
theorem tw17079996266814901722:True:=⟨⟩
theorem tw11486306170945744442:True:=⟨⟩
theorem tw8713960279370535546:True:=⟨⟩
theorem tw4203862194027269786:True:=⟨⟩
theorem tw2201521539238406810:True:=⟨⟩
theorem tw15976610583122689690:True:=⟨⟩
theorem tw5308330543210318554:True:=⟨⟩
theorem tw16438823627395879674:True:=⟨⟩
theorem tw553427981134084890:True:=⟨⟩
theorem tw1742006642275557210:True:=⟨⟩
theorem tw25737801854953370:True:=⟨⟩
theorem tw3591198992203661339:True:=⟨⟩
theorem tw12258579829807376443:True:=⟨⟩
theorem tw3811297634701936731:True:=⟨⟩
theorem tw18231863191426742395:True:=⟨⟩
theorem tw16396384276614052987:True:=⟨⟩
theorem tw6921311522358216859:True:=⟨⟩
theorem tw17578150147407448251:True:=⟨⟩
theorem tw4322254623320220859:True:=⟨⟩
theorem tw17661786646898686139:True:=⟨⟩
theorem tw4133192978535311547:True:=⟨⟩
theorem tw16379359256953965819:True:=⟨⟩
theorem tw489295741350372603:True:=⟨⟩
theorem tw11151772573924983067:True:=⟨⟩
theorem tw7584935568549244187:True:=⟨⟩
theorem tw16050682572193859899:True:=⟨⟩
theorem tw18350990984609619259:True:=⟨⟩
theorem tw17414379512415698267:True:=⟨⟩
theorem tw15641454438238817755:True:=⟨⟩
theorem tw9489201647906958811:True:=⟨⟩
theorem tw5369081030815336955:True:=⟨⟩
theorem tw1631489058311686747:True:=⟨⟩
theorem tw18345434000958404219:True:=⟨⟩
theorem tw12758100826023159419:True:=⟨⟩
theorem tw4071964962008459931:True:=⟨⟩
theorem tw8628830421814015739:True:=⟨⟩
theorem tw11393823429836609339:True:=⟨⟩
theorem tw5438712227619769179:True:=⟨⟩
theorem tw8220448229935435611:True:=⟨⟩
theorem tw18423617281220832091:True:=⟨⟩
theorem tw12588145207207361371:True:=⟨⟩
theorem tw5594322440725385115:True:=⟨⟩
theorem tw8234984475073690587:True:=⟨⟩
theorem tw3399603502564003803:True:=⟨⟩
theorem tw15299679140657649692:True:=⟨⟩
theorem tw2387039012116750364:True:=⟨⟩
theorem tw16119879221600174172:True:=⟨⟩
theorem tw1791492412896959612:True:=⟨⟩
theorem tw7168734770618922108:True:=⟨⟩
theorem tw14623403825789365500:True:=⟨⟩
theorem tw18398189791074048284:True:=⟨⟩
theorem tw6073595494673933628:True:=⟨⟩
theorem tw5028784960912144796:True:=⟨⟩
theorem tw17092448547387596188:True:=⟨⟩
theorem tw4146086936014544348:True:=⟨⟩
theorem tw10279103784565579260:True:=⟨⟩
theorem tw2543856298747899388:True:=⟨⟩
theorem tw16417355056508566012:True:=⟨⟩
theorem tw5052260620021007900:True:=⟨⟩
theorem tw7486932620553394780:True:=⟨⟩
theorem tw9507714113299946108:True:=⟨⟩
theorem tw14487865071897466492:True:=⟨⟩
theorem tw11644276413476307644:True:=⟨⟩
theorem tw4633444688728223420:True:=⟨⟩
theorem tw9403345481062425436:True:=⟨⟩
theorem tw18339088983851837308:True:=⟨⟩
theorem tw1457514030565061564:True:=⟨⟩
theorem tw15494630109297057885:True:=⟨⟩
theorem tw17679422135681777789:True:=⟨⟩
theorem tw11878337339186940029:True:=⟨⟩
theorem tw8843165730246088861:True:=⟨⟩
theorem tw8447475453165321437:True:=⟨⟩
theorem tw10961936645993429213:True:=⟨⟩
theorem tw14017891142231654653:True:=⟨⟩
theorem tw7743943693483286781:True:=⟨⟩
theorem tw10172313905399688477:True:=⟨⟩
theorem tw17165237397236806941:True:=⟨⟩
theorem tw13101328160416647485:True:=⟨⟩
theorem tw2135614641334309245:True:=⟨⟩
theorem tw3767892718323851677:True:=⟨⟩
theorem tw17465952851832171933:True:=⟨⟩
theorem tw12566847273716642205:True:=⟨⟩
theorem tw17126962658090026429:True:=⟨⟩
theorem tw13402976096574197213:True:=⟨⟩
theorem tw6994568031077741053:True:=⟨⟩
theorem tw15717537075772678717:True:=⟨⟩
theorem tw18205677002797340253:True:=⟨⟩
theorem tw13810468358714107581:True:=⟨⟩
theorem tw6360583620632057629:True:=⟨⟩
theorem tw6777476216593494845:True:=⟨⟩
theorem tw3135511235716300669:True:=⟨⟩
theorem tw13893660703419880349:True:=⟨⟩
theorem tw1135752230632765437:True:=⟨⟩
theorem tw6192654649120098334:True:=⟨⟩
theorem tw13789275663234309150:True:=⟨⟩
theorem tw6185168047624675422:True:=⟨⟩
theorem tw2102565954531751102:True:=⟨⟩
theorem tw15083299768914308350:True:=⟨⟩
theorem tw12282182521265780990:True:=⟨⟩
theorem tw6593290360447587614:True:=⟨⟩
theorem tw14011999216071809342:True:=⟨⟩
theorem tw8366123955993355582:True:=⟨⟩
theorem tw9186839984519156062:True:=⟨⟩
theorem tw13091613620811463038:True:=⟨⟩
theorem tw17244230060271493566:True:=⟨⟩
theorem tw12392945568914807262:True:=⟨⟩
theorem tw7787314589858811454:True:=⟨⟩
theorem tw8905855843496621662:True:=⟨⟩
theorem tw1906543175439997598:True:=⟨⟩
theorem tw12845813650645017278:True:=⟨⟩
theorem tw3579538434083123998:True:=⟨⟩
theorem tw6482831037675023166:True:=⟨⟩
theorem tw5698523707876379486:True:=⟨⟩
theorem tw3276937085268237150:True:=⟨⟩
theorem tw1737866319369231230:True:=⟨⟩
theorem tw17587963072771435454:True:=⟨⟩
theorem tw1691808918361856990:True:=⟨⟩
theorem tw15662551781870081022:True:=⟨⟩
theorem tw12814925593979144223:True:=⟨⟩
theorem tw3564273363490546751:True:=⟨⟩
theorem tw17613239614582373471:True:=⟨⟩
theorem tw6933654977793542239:True:=⟨⟩
theorem tw2253992309632961663:True:=⟨⟩
theorem tw11829914608880116895:True:=⟨⟩
theorem tw16275742678001513663:True:=⟨⟩
theorem tw13653853207420777695:True:=⟨⟩
theorem tw15739881438569744607:True:=⟨⟩
theorem tw16824073447563346239:True:=⟨⟩
theorem tw77986526061113695:True:=⟨⟩
theorem tw5268249730821906847:True:=⟨⟩
theorem tw2043876018866648511:True:=⟨⟩
theorem tw7818260942504525247:True:=⟨⟩
theorem tw2347365314992062975:True:=⟨⟩
theorem tw16420659411440227903:True:=⟨⟩
theorem tw15162720525797525087:True:=⟨⟩
theorem tw11516580635360437855:True:=⟨⟩
theorem tw9798554599880764063:True:=⟨⟩
theorem tw17365765451760720575:True:=⟨⟩
theorem tw33643027575784191:True:=⟨⟩
theorem tw5036847042797707039:True:=⟨⟩
theorem tw1277936787390683039:True:=⟨⟩
theorem tw11701885086465224671:True:=⟨⟩
end PySem.W.Fast
open PySem PySem.W PyProof.Rows
set_option maxRecDepth 100000 in
set_option maxHeartbeats 0 in
theorem PySem.Challenge.cw_stripmeld_k28_each_deed_holds : PySem.Challenge.rw_stripmeld_k28_each_deed.Holds := by
 w_on;o_law;k_head;(case hw=>w_witness2)
 k_fill
 refine L2.Zpe (l:=PySem.Challenge.rw_stripmeld_k28_each_deed) (n:=63) (k:=7) (x:="_law_script") (CX:=L2.CX0) (sp:=Pu.lawSp) rfl (by decide) rfl ⟨rfl,by decide,by decide⟩ (fun w h Y=>PySem.W.kIn_of Y) ?F ?S ?C
 case F=>
  intro w mg fa h KX G hmg
  refine' T.Zrw KX G hmg ?a_Village ?pg_Village ?hd_Village ?po_Village ?sa_Village ?mk_Village ?kc_Village ?nA_Village_book ?nA_Village_fields ?nA_Village_wished ?a0 ?a1 ?a2 ?a3 ?a4 ?a5 ?a6 ?a7 ?a8 ?a9 ?a10 ?a11 ?a12 ?a13 ?a14 ?a15 ?a16 ?a17 ?a18 ?a19 ?a20 ?a21 ?a22 ?a23 ?a24 ?a25 ?a26 ?a27 ?a28 ?a29 ?a30 ?a31 ?a32 ?a33 ?a34 ?a35 ?a36 ?a37 ?a38 ?a39 ?a40 ?a41 ?a42 ?a43 ?a44 ?a45 ?a46 ?a47 ?a48 ?l48 ?c48 ?k48 ?z_ValueError ?z_bool ?z_int ?z_isinstance ?z_len ?z_list ?z_max ?z_min ?z_range ?z_str ?z_tuple ?z_HOLDERS ?z_STRIPS ?z_WIDEST ?z_MOST_WISHES ?z_MOST_DEEDS ?a_MeldError ?q_MeldError ?ga_MeldError ?gt_MeldError ?cl_MeldError ?i_MeldError ?a_TooManyStrips ?q_TooManyStrips ?ga_TooManyStrips ?gt_TooManyStrips ?cl_TooManyStrips ?i_TooManyStrips ?a_BadHolder ?q_BadHolder ?ga_BadHolder ?gt_BadHolder ?cl_BadHolder ?i_BadHolder ?a_BadWidth ?q_BadWidth ?ga_BadWidth ?gt_BadWidth ?cl_BadWidth ?i_BadWidth ?a_NoStrip ?q_NoStrip ?ga_NoStrip ?gt_NoStrip ?cl_NoStrip ?i_NoStrip ?a_OwnStrip ?q_OwnStrip ?ga_OwnStrip ?gt_OwnStrip ?cl_OwnStrip ?i_OwnStrip ?a_BadPart ?q_BadPart ?ga_BadPart ?gt_BadPart ?cl_BadPart ?i_BadPart ?a_UnlikeHolders ?q_UnlikeHolders ?ga_UnlikeHolders ?gt_UnlikeHolders ?cl_UnlikeHolders ?i_UnlikeHolders ?a_TooWide ?q_TooWide ?ga_TooWide ?gt_TooWide ?cl_TooWide ?i_TooWide ?a_LikeHolders ?q_LikeHolders ?ga_LikeHolders ?gt_LikeHolders ?cl_LikeHolders ?i_LikeHolders ?a_WishStands ?q_WishStands ?ga_WishStands ?gt_WishStands ?cl_WishStands ?i_WishStands ?a_TooManyWishes ?q_TooManyWishes ?ga_TooManyWishes ?gt_TooManyWishes ?cl_TooManyWishes ?i_TooManyWishes ?a_NoWish ?q_NoWish ?ga_NoWish ?gt_NoWish ?cl_NoWish ?i_NoWish ?a_BookFull ?q_BookFull ?ga_BookFull ?gt_BookFull ?cl_BookFull ?i_BookFull ?a_NothingDone ?q_NothingDone ?ga_NothingDone ?gt_NothingDone ?cl_NothingDone ?i_NothingDone ?x_MeldError_MeldError ?x_TooManyStrips_MeldError ?x_BadHolder_MeldError ?x_BadWidth_MeldError ?x_NoStrip_MeldError ?x_OwnStrip_MeldError ?x_BadPart_MeldError ?x_UnlikeHolders_MeldError ?x_TooWide_MeldError ?x_LikeHolders_MeldError ?x_WishStands_MeldError ?x_TooManyWishes_MeldError ?x_NoWish_MeldError ?x_BookFull_MeldError ?x_NothingDone_MeldError ?x_NothingDone_NothingDone ?k_TooManyStrips_ValueError ?k_TooManyStrips_NoStrip ?k_TooManyStrips_BadHolder ?k_TooManyStrips_OwnStrip ?k_TooManyStrips_BadPart ?k_TooManyStrips_TooManyStrips ?k_TooManyStrips_UnlikeHolders ?k_TooManyStrips_TooWide ?k_TooManyStrips_LikeHolders ?k_TooManyStrips_WishStands ?k_TooManyStrips_TooManyWishes ?k_TooManyStrips_NoWish ?k_TooManyStrips_BookFull ?k_BadHolder_ValueError ?k_BadHolder_NoStrip ?k_BadHolder_BadHolder ?k_BadHolder_OwnStrip ?k_BadHolder_BadPart ?k_BadHolder_TooManyStrips ?k_BadHolder_UnlikeHolders ?k_BadHolder_TooWide ?k_BadHolder_LikeHolders ?k_BadHolder_WishStands ?k_BadHolder_TooManyWishes ?k_BadHolder_NoWish ?k_BadHolder_BookFull ?k_NoStrip_ValueError ?k_NoStrip_NoStrip ?k_NoStrip_BadHolder ?k_NoStrip_OwnStrip ?k_NoStrip_BadPart ?k_NoStrip_TooManyStrips ?k_NoStrip_UnlikeHolders ?k_NoStrip_TooWide ?k_NoStrip_LikeHolders ?k_NoStrip_WishStands ?k_NoStrip_TooManyWishes ?k_NoStrip_NoWish ?k_NoStrip_BookFull ?k_OwnStrip_ValueError ?k_OwnStrip_NoStrip ?k_OwnStrip_BadHolder ?k_OwnStrip_OwnStrip ?k_OwnStrip_BadPart ?k_OwnStrip_TooManyStrips ?k_OwnStrip_UnlikeHolders ?k_OwnStrip_TooWide ?k_OwnStrip_LikeHolders ?k_OwnStrip_WishStands ?k_OwnStrip_TooManyWishes ?k_OwnStrip_NoWish ?k_OwnStrip_BookFull ?k_BadPart_ValueError ?k_BadPart_NoStrip ?k_BadPart_BadHolder ?k_BadPart_OwnStrip ?k_BadPart_BadPart ?k_BadPart_TooManyStrips ?k_BadPart_UnlikeHolders ?k_BadPart_TooWide ?k_BadPart_LikeHolders ?k_BadPart_WishStands ?k_BadPart_TooManyWishes ?k_BadPart_NoWish ?k_BadPart_BookFull ?k_UnlikeHolders_ValueError ?k_UnlikeHolders_NoStrip ?k_UnlikeHolders_BadHolder ?k_UnlikeHolders_OwnStrip ?k_UnlikeHolders_BadPart ?k_UnlikeHolders_TooManyStrips ?k_UnlikeHolders_UnlikeHolders ?k_UnlikeHolders_TooWide ?k_UnlikeHolders_LikeHolders ?k_UnlikeHolders_WishStands ?k_UnlikeHolders_TooManyWishes ?k_UnlikeHolders_NoWish ?k_UnlikeHolders_BookFull ?k_TooWide_ValueError ?k_TooWide_NoStrip ?k_TooWide_BadHolder ?k_TooWide_OwnStrip ?k_TooWide_BadPart ?k_TooWide_TooManyStrips ?k_TooWide_UnlikeHolders ?k_TooWide_TooWide ?k_TooWide_LikeHolders ?k_TooWide_WishStands ?k_TooWide_TooManyWishes ?k_TooWide_NoWish ?k_TooWide_BookFull ?k_LikeHolders_ValueError ?k_LikeHolders_NoStrip ?k_LikeHolders_BadHolder ?k_LikeHolders_OwnStrip ?k_LikeHolders_BadPart ?k_LikeHolders_TooManyStrips ?k_LikeHolders_UnlikeHolders ?k_LikeHolders_TooWide ?k_LikeHolders_LikeHolders ?k_LikeHolders_WishStands ?k_LikeHolders_TooManyWishes ?k_LikeHolders_NoWish ?k_LikeHolders_BookFull ?k_WishStands_ValueError ?k_WishStands_NoStrip ?k_WishStands_BadHolder ?k_WishStands_OwnStrip ?k_WishStands_BadPart ?k_WishStands_TooManyStrips ?k_WishStands_UnlikeHolders ?k_WishStands_TooWide ?k_WishStands_LikeHolders ?k_WishStands_WishStands ?k_WishStands_TooManyWishes ?k_WishStands_NoWish ?k_WishStands_BookFull ?k_TooManyWishes_ValueError ?k_TooManyWishes_NoStrip ?k_TooManyWishes_BadHolder ?k_TooManyWishes_OwnStrip ?k_TooManyWishes_BadPart ?k_TooManyWishes_TooManyStrips ?k_TooManyWishes_UnlikeHolders ?k_TooManyWishes_TooWide ?k_TooManyWishes_LikeHolders ?k_TooManyWishes_WishStands ?k_TooManyWishes_TooManyWishes ?k_TooManyWishes_NoWish ?k_TooManyWishes_BookFull ?k_NoWish_ValueError ?k_NoWish_NoStrip ?k_NoWish_BadHolder ?k_NoWish_OwnStrip ?k_NoWish_BadPart ?k_NoWish_TooManyStrips ?k_NoWish_UnlikeHolders ?k_NoWish_TooWide ?k_NoWish_LikeHolders ?k_NoWish_WishStands ?k_NoWish_TooManyWishes ?k_NoWish_NoWish ?k_NoWish_BookFull ?k_NothingDone_ValueError ?k_NothingDone_MeldError
  (case a_Village=>k_is)
  (case pg_Village=>k_is)
  (case hd_Village=>k_is)
  (case po_Village=>k_is)
  (case sa_Village=>k_is)
  (case mk_Village=>k_is)
  (case kc_Village=>k_is)
  (case nA_Village_book=>k_is)
  (case nA_Village_fields=>k_is)
  (case nA_Village_wished=>k_is)
  (case a0=>refine' Pu.di ?z0p ?z0q ?z0r ?z0s;(case z0p=>k_is);(case z0q=>k_is);(case z0r=>k_is);(case z0s=>k_is))
  (case a1=>refine' Pu.di ?z1p ?z1q ?z1r ?z1s;(case z1p=>k_is);(case z1q=>k_is);(case z1r=>k_is);(case z1s=>k_is))
  (case a2=>refine' Pu.di ?z2p ?z2q ?z2r ?z2s;(case z2p=>k_is);(case z2q=>k_is);(case z2r=>k_is);(case z2s=>k_is))
  (case a3=>refine' Pu.di ?z3p ?z3q ?z3r ?z3s;(case z3p=>k_is);(case z3q=>k_is);(case z3r=>k_is);(case z3s=>k_is))
  (case a4=>refine' Pu.di ?z4p ?z4q ?z4r ?z4s;(case z4p=>k_is);(case z4q=>k_is);(case z4r=>k_is);(case z4s=>k_is))
  (case a5=>refine' Pu.di ?z5p ?z5q ?z5r ?z5s;(case z5p=>k_is);(case z5q=>k_is);(case z5r=>k_is);(case z5s=>k_is))
  (case a6=>refine' Pu.di ?z6p ?z6q ?z6r ?z6s;(case z6p=>k_is);(case z6q=>k_is);(case z6r=>k_is);(case z6s=>k_is))
  (case a7=>refine' Pu.di ?z7p ?z7q ?z7r ?z7s;(case z7p=>k_is);(case z7q=>k_is);(case z7r=>k_is);(case z7s=>k_is))
  (case a8=>refine' Pu.di ?z8p ?z8q ?z8r ?z8s;(case z8p=>k_is);(case z8q=>k_is);(case z8r=>k_is);(case z8s=>k_is))
  (case a9=>refine' Pu.di ?z9p ?z9q ?z9r ?z9s;(case z9p=>k_is);(case z9q=>k_is);(case z9r=>k_is);(case z9s=>k_is))
  (case a10=>refine' Pu.mi ?z10p ?z10q ?z10r ?z10s ?z10t;(case z10p=>k_is);(case z10q=>k_is);(case z10r=>k_is);(case z10s=>k_is);(case z10t=>k_is))
  (case a11=>refine' Pu.mi ?z11p ?z11q ?z11r ?z11s ?z11t;(case z11p=>k_is);(case z11q=>k_is);(case z11r=>k_is);(case z11s=>k_is);(case z11t=>k_is))
  (case a12=>refine' Pu.mi ?z12p ?z12q ?z12r ?z12s ?z12t;(case z12p=>k_is);(case z12q=>k_is);(case z12r=>k_is);(case z12s=>k_is);(case z12t=>k_is))
  (case a13=>refine' Pu.mi ?z13p ?z13q ?z13r ?z13s ?z13t;(case z13p=>k_is);(case z13q=>k_is);(case z13r=>k_is);(case z13s=>k_is);(case z13t=>k_is))
  (case a14=>refine' Pu.mi ?z14p ?z14q ?z14r ?z14s ?z14t;(case z14p=>k_is);(case z14q=>k_is);(case z14r=>k_is);(case z14s=>k_is);(case z14t=>k_is))
  (case a15=>refine' Pu.mi ?z15p ?z15q ?z15r ?z15s ?z15t;(case z15p=>k_is);(case z15q=>k_is);(case z15r=>k_is);(case z15s=>k_is);(case z15t=>k_is))
  (case a16=>refine' Pu.mi ?z16p ?z16q ?z16r ?z16s ?z16t;(case z16p=>k_is);(case z16q=>k_is);(case z16r=>k_is);(case z16s=>k_is);(case z16t=>k_is))
  (case a17=>refine' Pu.mi ?z17p ?z17q ?z17r ?z17s ?z17t;(case z17p=>k_is);(case z17q=>k_is);(case z17r=>k_is);(case z17s=>k_is);(case z17t=>k_is))
  (case a18=>refine' Pu.mi ?z18p ?z18q ?z18r ?z18s ?z18t;(case z18p=>k_is);(case z18q=>k_is);(case z18r=>k_is);(case z18s=>k_is);(case z18t=>k_is))
  (case a19=>refine' Pu.mi ?z19p ?z19q ?z19r ?z19s ?z19t;(case z19p=>k_is);(case z19q=>k_is);(case z19r=>k_is);(case z19s=>k_is);(case z19t=>k_is))
  (case a20=>refine' Pu.mi ?z20p ?z20q ?z20r ?z20s ?z20t;(case z20p=>k_is);(case z20q=>k_is);(case z20r=>k_is);(case z20s=>k_is);(case z20t=>k_is))
  (case a21=>refine' Pu.mi ?z21p ?z21q ?z21r ?z21s ?z21t;(case z21p=>k_is);(case z21q=>k_is);(case z21r=>k_is);(case z21s=>k_is);(case z21t=>k_is))
  (case a22=>refine' Pu.di ?z22p ?z22q ?z22r ?z22s;(case z22p=>k_is);(case z22q=>k_is);(case z22r=>k_is);(case z22s=>k_is))
  (case a23=>refine' Pu.di ?z23p ?z23q ?z23r ?z23s;(case z23p=>k_is);(case z23q=>k_is);(case z23r=>k_is);(case z23s=>k_is))
  (case a24=>refine' Pu.di ?z24p ?z24q ?z24r ?z24s;(case z24p=>k_is);(case z24q=>k_is);(case z24r=>k_is);(case z24s=>k_is))
  (case a25=>refine' Pu.di ?z25p ?z25q ?z25r ?z25s;(case z25p=>k_is);(case z25q=>k_is);(case z25r=>k_is);(case z25s=>k_is))
  (case a26=>refine' Pu.di ?z26p ?z26q ?z26r ?z26s;(case z26p=>k_is);(case z26q=>k_is);(case z26r=>k_is);(case z26s=>k_is))
  (case a27=>refine' Pu.di ?z27p ?z27q ?z27r ?z27s;(case z27p=>k_is);(case z27q=>k_is);(case z27r=>k_is);(case z27s=>k_is))
  (case a28=>refine' Pu.di ?z28p ?z28q ?z28r ?z28s;(case z28p=>k_is);(case z28q=>k_is);(case z28r=>k_is);(case z28s=>k_is))
  (case a29=>refine' Pu.di ?z29p ?z29q ?z29r ?z29s;(case z29p=>k_is);(case z29q=>k_is);(case z29r=>k_is);(case z29s=>k_is))
  (case a30=>refine' Pu.di ?z30p ?z30q ?z30r ?z30s;(case z30p=>k_is);(case z30q=>k_is);(case z30r=>k_is);(case z30s=>k_is))
  (case a31=>refine' Pu.di ?z31p ?z31q ?z31r ?z31s;(case z31p=>k_is);(case z31q=>k_is);(case z31r=>k_is);(case z31s=>k_is))
  (case a32=>refine' Pu.di ?z32p ?z32q ?z32r ?z32s;(case z32p=>k_is);(case z32q=>k_is);(case z32r=>k_is);(case z32s=>k_is))
  (case a33=>refine' Pu.di ?z33p ?z33q ?z33r ?z33s;(case z33p=>k_is);(case z33q=>k_is);(case z33r=>k_is);(case z33s=>k_is))
  (case a34=>refine' Pu.di ?z34p ?z34q ?z34r ?z34s;(case z34p=>k_is);(case z34q=>k_is);(case z34r=>k_is);(case z34s=>k_is))
  (case a35=>refine' Pu.di ?z35p ?z35q ?z35r ?z35s;(case z35p=>k_is);(case z35q=>k_is);(case z35r=>k_is);(case z35s=>k_is))
  (case a36=>refine' Pu.di ?z36p ?z36q ?z36r ?z36s;(case z36p=>k_is);(case z36q=>k_is);(case z36r=>k_is);(case z36s=>k_is))
  (case a37=>refine' Pu.di ?z37p ?z37q ?z37r ?z37s;(case z37p=>k_is);(case z37q=>k_is);(case z37r=>k_is);(case z37s=>k_is))
  (case a38=>refine' Pu.di ?z38p ?z38q ?z38r ?z38s;(case z38p=>k_is);(case z38q=>k_is);(case z38r=>k_is);(case z38s=>k_is))
  (case a39=>refine' Pu.di ?z39p ?z39q ?z39r ?z39s;(case z39p=>k_is);(case z39q=>k_is);(case z39r=>k_is);(case z39s=>k_is))
  (case a40=>refine' Pu.di ?z40p ?z40q ?z40r ?z40s;(case z40p=>k_is);(case z40q=>k_is);(case z40r=>k_is);(case z40s=>k_is))
  (case a41=>refine' Pu.di ?z41p ?z41q ?z41r ?z41s;(case z41p=>k_is);(case z41q=>k_is);(case z41r=>k_is);(case z41s=>k_is))
  (case a42=>refine' Pu.di ?z42p ?z42q ?z42r ?z42s;(case z42p=>k_is);(case z42q=>k_is);(case z42r=>k_is);(case z42s=>k_is))
  (case a43=>refine' Pu.di ?z43p ?z43q ?z43r ?z43s;(case z43p=>k_is);(case z43q=>k_is);(case z43r=>k_is);(case z43s=>k_is))
  (case a44=>refine' Pu.di ?z44p ?z44q ?z44r ?z44s;(case z44p=>k_is);(case z44q=>k_is);(case z44r=>k_is);(case z44s=>k_is))
  (case a45=>refine' Pu.di ?z45p ?z45q ?z45r ?z45s;(case z45p=>k_is);(case z45q=>k_is);(case z45r=>k_is);(case z45s=>k_is))
  (case a46=>refine' Pu.di ?z46p ?z46q ?z46r ?z46s;(case z46p=>k_is);(case z46q=>k_is);(case z46r=>k_is);(case z46s=>k_is))
  (case a47=>refine' Pu.di ?z47p ?z47q ?z47r ?z47s;(case z47p=>k_is);(case z47q=>k_is);(case z47r=>k_is);(case z47s=>k_is))
  (case a48=>k_is)
  (case l48=>k_is)
  (case c48=>k_is)
  (case k48=>k_is)
  (case z_ValueError=>k_is)
  (case z_bool=>k_is)
  (case z_int=>k_is)
  (case z_isinstance=>k_is)
  (case z_len=>k_is)
  (case z_list=>k_is)
  (case z_max=>k_is)
  (case z_min=>k_is)
  (case z_range=>k_is)
  (case z_str=>k_is)
  (case z_tuple=>k_is)
  (case z_HOLDERS=>k_is)
  (case z_STRIPS=>k_is)
  (case z_WIDEST=>k_is)
  (case z_MOST_WISHES=>k_is)
  (case z_MOST_DEEDS=>k_is)
  (case a_MeldError=>k_is)
  (case q_MeldError=>k_exc)
  (case ga_MeldError=>k_is)
  (case gt_MeldError=>k_is)
  (case cl_MeldError=>k_is)
  (case i_MeldError=>k_is)
  (case a_TooManyStrips=>k_is)
  (case q_TooManyStrips=>k_exc)
  (case ga_TooManyStrips=>k_is)
  (case gt_TooManyStrips=>k_is)
  (case cl_TooManyStrips=>k_is)
  (case i_TooManyStrips=>k_is)
  (case a_BadHolder=>k_is)
  (case q_BadHolder=>k_exc)
  (case ga_BadHolder=>k_is)
  (case gt_BadHolder=>k_is)
  (case cl_BadHolder=>k_is)
  (case i_BadHolder=>k_is)
  (case a_BadWidth=>k_is)
  (case q_BadWidth=>k_exc)
  (case ga_BadWidth=>k_is)
  (case gt_BadWidth=>k_is)
  (case cl_BadWidth=>k_is)
  (case i_BadWidth=>k_is)
  (case a_NoStrip=>k_is)
  (case q_NoStrip=>k_exc)
  (case ga_NoStrip=>k_is)
  (case gt_NoStrip=>k_is)
  (case cl_NoStrip=>k_is)
  (case i_NoStrip=>k_is)
  (case a_OwnStrip=>k_is)
  (case q_OwnStrip=>k_exc)
  (case ga_OwnStrip=>k_is)
  (case gt_OwnStrip=>k_is)
  (case cl_OwnStrip=>k_is)
  (case i_OwnStrip=>k_is)
  (case a_BadPart=>k_is)
  (case q_BadPart=>k_exc)
  (case ga_BadPart=>k_is)
  (case gt_BadPart=>k_is)
  (case cl_BadPart=>k_is)
  (case i_BadPart=>k_is)
  (case a_UnlikeHolders=>k_is)
  (case q_UnlikeHolders=>k_exc)
  (case ga_UnlikeHolders=>k_is)
  (case gt_UnlikeHolders=>k_is)
  (case cl_UnlikeHolders=>k_is)
  (case i_UnlikeHolders=>k_is)
  (case a_TooWide=>k_is)
  (case q_TooWide=>k_exc)
  (case ga_TooWide=>k_is)
  (case gt_TooWide=>k_is)
  (case cl_TooWide=>k_is)
  (case i_TooWide=>k_is)
  (case a_LikeHolders=>k_is)
  (case q_LikeHolders=>k_exc)
  (case ga_LikeHolders=>k_is)
  (case gt_LikeHolders=>k_is)
  (case cl_LikeHolders=>k_is)
  (case i_LikeHolders=>k_is)
  (case a_WishStands=>k_is)
  (case q_WishStands=>k_exc)
  (case ga_WishStands=>k_is)
  (case gt_WishStands=>k_is)
  (case cl_WishStands=>k_is)
  (case i_WishStands=>k_is)
  (case a_TooManyWishes=>k_is)
  (case q_TooManyWishes=>k_exc)
  (case ga_TooManyWishes=>k_is)
  (case gt_TooManyWishes=>k_is)
  (case cl_TooManyWishes=>k_is)
  (case i_TooManyWishes=>k_is)
  (case a_NoWish=>k_is)
  (case q_NoWish=>k_exc)
  (case ga_NoWish=>k_is)
  (case gt_NoWish=>k_is)
  (case cl_NoWish=>k_is)
  (case i_NoWish=>k_is)
  (case a_BookFull=>k_is)
  (case q_BookFull=>k_exc)
  (case ga_BookFull=>k_is)
  (case gt_BookFull=>k_is)
  (case cl_BookFull=>k_is)
  (case i_BookFull=>k_is)
  (case a_NothingDone=>k_is)
  (case q_NothingDone=>k_exc)
  (case ga_NothingDone=>k_is)
  (case gt_NothingDone=>k_is)
  (case cl_NothingDone=>k_is)
  (case i_NothingDone=>k_is)
  (case x_MeldError_MeldError=>kts_exm)
  (case x_TooManyStrips_MeldError=>kts_exm)
  (case x_BadHolder_MeldError=>kts_exm)
  (case x_BadWidth_MeldError=>kts_exm)
  (case x_NoStrip_MeldError=>kts_exm)
  (case x_OwnStrip_MeldError=>kts_exm)
  (case x_BadPart_MeldError=>kts_exm)
  (case x_UnlikeHolders_MeldError=>kts_exm)
  (case x_TooWide_MeldError=>kts_exm)
  (case x_LikeHolders_MeldError=>kts_exm)
  (case x_WishStands_MeldError=>kts_exm)
  (case x_TooManyWishes_MeldError=>kts_exm)
  (case x_NoWish_MeldError=>kts_exm)
  (case x_BookFull_MeldError=>kts_exm)
  (case x_NothingDone_MeldError=>kts_exm)
  (case x_NothingDone_NothingDone=>kts_exm)
  (case k_TooManyStrips_ValueError=>kit_is)
  (case k_TooManyStrips_NoStrip=>kit_is)
  (case k_TooManyStrips_BadHolder=>kit_is)
  (case k_TooManyStrips_OwnStrip=>kit_is)
  (case k_TooManyStrips_BadPart=>kit_is)
  (case k_TooManyStrips_TooManyStrips=>kit_is)
  (case k_TooManyStrips_UnlikeHolders=>kit_is)
  (case k_TooManyStrips_TooWide=>kit_is)
  (case k_TooManyStrips_LikeHolders=>kit_is)
  (case k_TooManyStrips_WishStands=>kit_is)
  (case k_TooManyStrips_TooManyWishes=>kit_is)
  (case k_TooManyStrips_NoWish=>kit_is)
  (case k_TooManyStrips_BookFull=>kit_is)
  (case k_BadHolder_ValueError=>kit_is)
  (case k_BadHolder_NoStrip=>kit_is)
  (case k_BadHolder_BadHolder=>kit_is)
  (case k_BadHolder_OwnStrip=>kit_is)
  (case k_BadHolder_BadPart=>kit_is)
  (case k_BadHolder_TooManyStrips=>kit_is)
  (case k_BadHolder_UnlikeHolders=>kit_is)
  (case k_BadHolder_TooWide=>kit_is)
  (case k_BadHolder_LikeHolders=>kit_is)
  (case k_BadHolder_WishStands=>kit_is)
  (case k_BadHolder_TooManyWishes=>kit_is)
  (case k_BadHolder_NoWish=>kit_is)
  (case k_BadHolder_BookFull=>kit_is)
  (case k_NoStrip_ValueError=>kit_is)
  (case k_NoStrip_NoStrip=>kit_is)
  (case k_NoStrip_BadHolder=>kit_is)
  (case k_NoStrip_OwnStrip=>kit_is)
  (case k_NoStrip_BadPart=>kit_is)
  (case k_NoStrip_TooManyStrips=>kit_is)
  (case k_NoStrip_UnlikeHolders=>kit_is)
  (case k_NoStrip_TooWide=>kit_is)
  (case k_NoStrip_LikeHolders=>kit_is)
  (case k_NoStrip_WishStands=>kit_is)
  (case k_NoStrip_TooManyWishes=>kit_is)
  (case k_NoStrip_NoWish=>kit_is)
  (case k_NoStrip_BookFull=>kit_is)
  (case k_OwnStrip_ValueError=>kit_is)
  (case k_OwnStrip_NoStrip=>kit_is)
  (case k_OwnStrip_BadHolder=>kit_is)
  (case k_OwnStrip_OwnStrip=>kit_is)
  (case k_OwnStrip_BadPart=>kit_is)
  (case k_OwnStrip_TooManyStrips=>kit_is)
  (case k_OwnStrip_UnlikeHolders=>kit_is)
  (case k_OwnStrip_TooWide=>kit_is)
  (case k_OwnStrip_LikeHolders=>kit_is)
  (case k_OwnStrip_WishStands=>kit_is)
  (case k_OwnStrip_TooManyWishes=>kit_is)
  (case k_OwnStrip_NoWish=>kit_is)
  (case k_OwnStrip_BookFull=>kit_is)
  (case k_BadPart_ValueError=>kit_is)
  (case k_BadPart_NoStrip=>kit_is)
  (case k_BadPart_BadHolder=>kit_is)
  (case k_BadPart_OwnStrip=>kit_is)
  (case k_BadPart_BadPart=>kit_is)
  (case k_BadPart_TooManyStrips=>kit_is)
  (case k_BadPart_UnlikeHolders=>kit_is)
  (case k_BadPart_TooWide=>kit_is)
  (case k_BadPart_LikeHolders=>kit_is)
  (case k_BadPart_WishStands=>kit_is)
  (case k_BadPart_TooManyWishes=>kit_is)
  (case k_BadPart_NoWish=>kit_is)
  (case k_BadPart_BookFull=>kit_is)
  (case k_UnlikeHolders_ValueError=>kit_is)
  (case k_UnlikeHolders_NoStrip=>kit_is)
  (case k_UnlikeHolders_BadHolder=>kit_is)
  (case k_UnlikeHolders_OwnStrip=>kit_is)
  (case k_UnlikeHolders_BadPart=>kit_is)
  (case k_UnlikeHolders_TooManyStrips=>kit_is)
  (case k_UnlikeHolders_UnlikeHolders=>kit_is)
  (case k_UnlikeHolders_TooWide=>kit_is)
  (case k_UnlikeHolders_LikeHolders=>kit_is)
  (case k_UnlikeHolders_WishStands=>kit_is)
  (case k_UnlikeHolders_TooManyWishes=>kit_is)
  (case k_UnlikeHolders_NoWish=>kit_is)
  (case k_UnlikeHolders_BookFull=>kit_is)
  (case k_TooWide_ValueError=>kit_is)
  (case k_TooWide_NoStrip=>kit_is)
  (case k_TooWide_BadHolder=>kit_is)
  (case k_TooWide_OwnStrip=>kit_is)
  (case k_TooWide_BadPart=>kit_is)
  (case k_TooWide_TooManyStrips=>kit_is)
  (case k_TooWide_UnlikeHolders=>kit_is)
  (case k_TooWide_TooWide=>kit_is)
  (case k_TooWide_LikeHolders=>kit_is)
  (case k_TooWide_WishStands=>kit_is)
  (case k_TooWide_TooManyWishes=>kit_is)
  (case k_TooWide_NoWish=>kit_is)
  (case k_TooWide_BookFull=>kit_is)
  (case k_LikeHolders_ValueError=>kit_is)
  (case k_LikeHolders_NoStrip=>kit_is)
  (case k_LikeHolders_BadHolder=>kit_is)
  (case k_LikeHolders_OwnStrip=>kit_is)
  (case k_LikeHolders_BadPart=>kit_is)
  (case k_LikeHolders_TooManyStrips=>kit_is)
  (case k_LikeHolders_UnlikeHolders=>kit_is)
  (case k_LikeHolders_TooWide=>kit_is)
  (case k_LikeHolders_LikeHolders=>kit_is)
  (case k_LikeHolders_WishStands=>kit_is)
  (case k_LikeHolders_TooManyWishes=>kit_is)
  (case k_LikeHolders_NoWish=>kit_is)
  (case k_LikeHolders_BookFull=>kit_is)
  (case k_WishStands_ValueError=>kit_is)
  (case k_WishStands_NoStrip=>kit_is)
  (case k_WishStands_BadHolder=>kit_is)
  (case k_WishStands_OwnStrip=>kit_is)
  (case k_WishStands_BadPart=>kit_is)
  (case k_WishStands_TooManyStrips=>kit_is)
  (case k_WishStands_UnlikeHolders=>kit_is)
  (case k_WishStands_TooWide=>kit_is)
  (case k_WishStands_LikeHolders=>kit_is)
  (case k_WishStands_WishStands=>kit_is)
  (case k_WishStands_TooManyWishes=>kit_is)
  (case k_WishStands_NoWish=>kit_is)
  (case k_WishStands_BookFull=>kit_is)
  (case k_TooManyWishes_ValueError=>kit_is)
  (case k_TooManyWishes_NoStrip=>kit_is)
  (case k_TooManyWishes_BadHolder=>kit_is)
  (case k_TooManyWishes_OwnStrip=>kit_is)
  (case k_TooManyWishes_BadPart=>kit_is)
  (case k_TooManyWishes_TooManyStrips=>kit_is)
  (case k_TooManyWishes_UnlikeHolders=>kit_is)
  (case k_TooManyWishes_TooWide=>kit_is)
  (case k_TooManyWishes_LikeHolders=>kit_is)
  (case k_TooManyWishes_WishStands=>kit_is)
  (case k_TooManyWishes_TooManyWishes=>kit_is)
  (case k_TooManyWishes_NoWish=>kit_is)
  (case k_TooManyWishes_BookFull=>kit_is)
  (case k_NoWish_ValueError=>kit_is)
  (case k_NoWish_NoStrip=>kit_is)
  (case k_NoWish_BadHolder=>kit_is)
  (case k_NoWish_OwnStrip=>kit_is)
  (case k_NoWish_BadPart=>kit_is)
  (case k_NoWish_TooManyStrips=>kit_is)
  (case k_NoWish_UnlikeHolders=>kit_is)
  (case k_NoWish_TooWide=>kit_is)
  (case k_NoWish_LikeHolders=>kit_is)
  (case k_NoWish_WishStands=>kit_is)
  (case k_NoWish_TooManyWishes=>kit_is)
  (case k_NoWish_NoWish=>kit_is)
  (case k_NoWish_BookFull=>kit_is)
  (case k_NothingDone_ValueError=>kit_is)
  (case k_NothingDone_MeldError=>kit_is)
 case S=>exact fun K H a ns hl hO hS=>⟨a,ns,rfl,hS,fun _=>rfl⟩
 case C=>exact fun _ _ _ _ z=>z
