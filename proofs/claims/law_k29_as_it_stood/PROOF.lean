import PyProof.Rows.All
import Wide.All
import OpenK.AllK
import Wide.FinOn
import Lean
import PyProof.EqAt
import PyProof.EqKinds
import PyProof.TupleCall
import PySem.Challenge.RW_stripmeld_k29_as_it_stood
set_option Elab.async false
set_option linter.all false
set_option maxRecDepth 100000
noncomputable section
def ZR:=@List.length_map
def ZS:=@List.getElem?_eq_getElem
def ZT:=@decide_eq_true
def ZU:=@if_neg
def ZV:=@if_pos
def ZW:=@List.zip_cons_cons
def ZX:=@of_decide_eq_true
def ZY:=@List.getElem?_map
def ZZ:=@List.length_append
def Ya:=@Option.some.inj
def Yb:=@List.mem_singleton
def Yc:=@List.zip_nil_right
def Yd:=@List.size_toArray
def Ye:=@Nat.le_refl
def Yf:=@PySem.Heap.lt_size
def Yg:=@List.getD_eq_getElem?_getD
def Yh:=@List.mem_of_getElem?
def Yi:=@Nat.le_trans
def Yj:=@PySem.Heap.get?_push_of_some
def Yk:=@decide_eq_false
def Yl:=@Bool.false_ne_true
def Ym:=@List.mem_cons
def Yn:=@PyProof.Rows.boot_isinstance
def Yo:=@List.getElem?_eq_some_iff
def Yp:=@PySem.wpAny_bind
def Yq:=@List.map_append
def Yr:=@Nat.lt_of_lt_of_le
def Ys:=@List.length_cons
def Yt:=@List.mem_cons_of_mem
def Yu:=@Nat.add_le_add
def Yv:=@PySem.F.plainAttrs_list
def Yw:=@List.append_nil
def Yx:=@List.getElem?_cons_succ
def Yy:=@List.map_cons
def Yz:=@List.getElem?_append_right
def Y0:=@congrArg
def Y1:=@List.mem_append_right
def Y2:=@PySem.Heap.get?_push_size
def Y3:=@List.getElem?_append_left
def Y4:=@Classical.not_not
def Y5:=@List.zip_nil_left
def Y6:=@PySem.W.mg_none_of
def Y7:=@List.mem_append
def Y8:=@PySem.F.slot_list_append
def Y9:=@PySem.F.type_list_append
def YA:=@Nat.ne_of_lt
def YB:=@List.mem_cons_self
def YC:=@PySem.wpAny_pure
def YD:=@PySem.W.kia_one
def YE:=@List.length_set
def YF:=@List.lookup_cons
def YG:=@PySem.W.mg_of
def YH:=@List.length_singleton
def YI:=@List.getElem_mem
def YJ:=@PySem.Heap.get?_update_other
def YK:=@List.filterMap_cons
def YL:=@PySem.PassesOwn.never
def YM:=@Nat.lt_irrefl
def YN:=@PySem.wpAny_mono
def YO:=@List.mem_append_left
def YQ:=@Nat.le_of_eq
def YR:=@List.dropLast_concat
def YS:=@List.getElem?_replicate
def YT:=@PySem.mem_of_lookup
def YU:=@Bool.and_eq_true
def YV:=@List.all_eq_true
def YW:=@PySem.W.methodCall_KW
def YX:=@List.nodup_cons
def YY:=@List.eq_nil_or_concat
def YZ:=@Classical.byContradiction
def Wa:=@beq_eq_false_iff_ne
def Wb:=@PySem.wpAny_Call_Name_kw
def Wc:=@PySem.W.callWith_K
def Wd:=@List.getElem?_set_self
def We:=@PySem.wpAny_loadPart_at
def Wf:=@List.map_map
def Wg:=@PySem.F.slot_list_pop
def Wh:=@PySem.F.type_list_pop
def Wi:=@PyProof.Rows.callWith_type1
def Wj:=@List.getElem?_set_ne
def Wk:=@PySem.W.looks_findIn
def Wl:=@List.length_take
def Wm:=@Bool.true_and
def Wn:=@Array.getElem?_eq_some_iff
def Wo:=@PySem.wpAny_passesOwn
def Wp:=@PySem.codeAny_mono
def Wq:=@List.mem_map
def Wr:=@PySem.Heap.size_push
def Ws:=@List.length_eq_zero_iff
def Wt:=@PySem.wpAny_truthy_bool
def Wu:=@Nat.zero_le
def Wv:=@List.take_of_length_le
def Ww:=@Nat.lt_succ_self
def Wx:=@List.length_drop
def Wy:=@List.not_mem_nil
def Wz:=@PySem.Heap.get?_update_self
def W0:=@PySem.F.typeOf_object_class
def W1:=@List.concat_eq_append
def W2:=@PySem.Heap.get?_none_of_le
def W3:=@Bool.eq_iff_iff
def W4:=@Nat.not_lt
def W5:=@PySem.W.plainGet_of
def W6:=@List.length_pos_iff
def W7:=@List.mem_filterMap
def W8:=@Int.emod_lt_of_pos
def W9:=@List.any_cons
def WA:=@Int.toNat_natCast
def WB:=@List.getElem?_set
def WC:=@Nat.le_of_lt
def WD:=@Nat.lt_trans
abbrev Za:=PySem.W.Frag
namespace L2
open PySem PySem.Spec PyProof.Rows
abbrev Key:=Sum Int Str
def B7:Key->Value->Bool
 | .inl k,v=>Value.isInt k v
 | .inr x,v=>Value.isStrOf x v
def keyH (w:World):Key->Int
 | .inl k=>hashInt k
 | .inr x=>hashStr w x
def Up:∀{k:Key}{v:Value},B7 k v=true->(∃i t,k=Sum.inl i/\v=Value.int i t)\/(∃x t,k=Sum.inr x/\v=Value.str x t)
 | .inl i,v,h=>by
  obtain⟨t,e⟩:=Value.isInt_shape (k:=i) (v:=v) h;exact .inl ⟨i,t,rfl,e⟩
 | .inr x,v,h=>by
  obtain⟨t,e⟩:=Value.isStrOf_shape (x:=x) (v:=v) h;exact .inr ⟨x,t,rfl,e⟩
def Gc (a b:Int):decide ((Sum.inl a:Key)=Sum.inl b)=(a==b):=by
 by_cases e:a=b
 ·subst e;simp
 ·have h:¬(Sum.inl a:Key)=Sum.inl b:=fun q=>e (Sum.inl.inj q);rw[Yk h];exact(Wa.mpr e).symm
def DG (a b:Str):decide ((Sum.inr a:Key)=Sum.inr b)=decide (a=b):=by
 by_cases e:a=b
 ·subst e;simp
 ·have h:¬(Sum.inr a:Key)=Sum.inr b:=fun q=>e (Sum.inr.inj q);rw[Yk h,Yk e]
def Gk (a:Int) (b:Str):decide ((Sum.inl a:Key)=Sum.inr b)=false:=Yk (fun q=>nomatch q)
def Dk (a:Str) (b:Int):decide ((Sum.inr a:Key)=Sum.inl b)=false:=Yk (fun q=>nomatch q)
def P0 (prog:Program) (w:World):PySem.KeyKind prog w Key where
 is:=B7
 hash:=keyH w
 inj:=fun v a b ha hb=>by
  rcases Up ha with⟨i,t,rfl,rfl⟩|⟨x,t,rfl,rfl⟩
  ·rcases Up hb with⟨j,u,rfl,e⟩|⟨y,u,rfl,e⟩
   ·injection e with e1 _;rw[e1]
   ·exact nomatch e
  ·rcases Up hb with⟨j,u,rfl,e⟩|⟨y,u,rfl,e⟩
   ·exact nomatch e
   ·injection e with e1 _;rw[e1]
 byValue:=fun k v h=>by
  rcases Up h with⟨i,t,rfl,rfl⟩|⟨x,t,rfl,rfl⟩<;>rfl
 pyHash:=fun hv h=>by
  rcases Up hv with⟨i,t,rfl,rfl⟩|⟨x,t,rfl,rfl⟩
  ·exact wpAny_pyHash_int h
  ·exact wpAny_pyHash_str h
 eqBool:=fun hu hv h=>by
  rcases Up hu with⟨i,t,rfl,rfl⟩|⟨x,t,rfl,rfl⟩
  ·rcases Up hv with⟨j,u,rfl,rfl⟩|⟨y,u,rfl,rfl⟩
   ·rw[Gc] at h;exact wpAny_eqBool_int h
   ·rw[Gk] at h;exact SeqAt.EqAt.int_str i t y u _ _ _ _ h
  ·rcases Up hv with⟨j,u,rfl,rfl⟩|⟨y,u,rfl,rfl⟩
   ·rw[Dk] at h;exact SeqAt.EqAt.str_int x t j u _ _ _ _ h
   ·rw[DG] at h;exact wpAny_eqBool_str h
 «strs»:=fun k x t v h=>by
  rcases Up h with⟨i,u,rfl,e⟩|⟨y,u,rfl,e⟩
  ·exact nomatch e
  ·injection e with e1 _;subst e1;cases v<;>rfl
inductive V where
 | non|bl (b:Bool)|int (i:Int)|str (x:Str)|byt (b:Array UInt8)|flt (b:UInt64)|ref (a:Addr)|ty (n:String)
 deriving DecidableEq
def RelV:V->Value->Prop
 | .non,u=>u=Value.none
 | .bl b,u=>u=Value.bool b
 | .int i,u=>∃t,u=Value.int i t
 | .str x,u=>∃t,u=Value.str x t
 | .byt b,u=>∃t,u=Value.bytes b t
 | .flt b,u=>∃t,u=Value.float b t
 | .ref a,u=>u=Value.ref a
 | .ty n,u=>u=Value.type n
abbrev Vals:List V->List Value->Prop:=Paired RelV
def Vals.length {xs:List V}{us:List Value} (r:Vals xs us):xs.length=us.length:=Paired.length r
def Vals.get:∀{xs:List V}{us:List Value}{i:Nat}{x:V},Vals xs us->xs[i]?=some x->∃u,us[i]?=some u/\RelV x u
 | _,_,_,_,.nil,e=>by simp at e
 | _,_,0,_,.cons r _,e=>by simp at e;subst e;exact⟨_,rfl,r⟩
 | _,_,i+1,x,.cons _ t,e=>by
  obtain⟨u,h1,h2⟩:=Vals.get (i:=i) (x:=x) t (by simpa using e);exact⟨u,by simpa using h1,h2⟩
def Vals.set {x:V}{u:Value} (r:RelV x u):∀{xs:List V}{us:List Value} (i:Nat),Vals xs us->Vals (xs.set i x) (us.set i u)
 | _,_,_,.nil=>.nil
 | _,_,0,.cons _ t=>.cons r t
 | _,_,i+1,.cons q t=>.cons q (Vals.set r i t)
def Vals.append:∀{xs ys:List V}{us ws:List Value},Vals xs us->Vals ys ws->Vals (xs++ys) (us++ws)
 | _,_,_,_,.nil,s=>s
 | _,_,_,_,.cons r t,s=>.cons r (Vals.append t s)
def Vals.take:∀{xs:List V}{us:List Value} (n:Nat),Vals xs us->Vals (xs.take n) (us.take n)
 | _,_,0,_=>.nil
 | _,_,_+1,.nil=>.nil
 | _,_,n+1,.cons r t=>.cons r (Vals.take n t)
def Vals.drop:∀{xs:List V}{us:List Value} (n:Nat),Vals xs us->Vals (xs.drop n) (us.drop n)
 | _,_,0,r=>r
 | _,_,_+1,.nil=>.nil
 | _,_,n+1,.cons _ t=>Vals.drop n t
def RelO:Option V->Option Value->Prop
 | some v,some u=>RelV v u
 | none,none=>True
 | _,_=>False
def KV {κ:Type}:List (κ×V)->List (κ×Value)->Prop:=Paired fun(p:κ×V) (q:κ×Value)=>p.1=q.1/\RelV p.2 q.2
def kV:Key->V
 | .inl i=>.int i
 | .inr x=>.str x
inductive HO where
 | lst (xs:List V)
 | tup (xs:List V)
 | dK (kvs:List (Key×V))|dT (kvs:List (List Key×V))
 | set (S:Int->Bool) (n:Nat)
 | ins (C dx:Addr) (fs:List (Str×V))
 | own (x:Addr)
 | xd (fs:List (Str×V))
 | met (f x:Addr)
 | rng (lo hi:Int)
 | frz (o:Obj) (u:HO)
 | tbl (ps:Array Value)
 | ext (φ:Heap->Prop)
abbrev Hp:=Addr->Option HO
def upd (H:Hp) (a:Addr) (o:HO):Hp:=fun b=>if b=a then some o else H b
def VQ {H:Hp}{a:Addr}{o:HO}:upd H a o a=some o:=by unfold upd;rw[ZV rfl]
def V1 {H:Hp}{a b:Addr}{o:HO} (h:b≠a):upd H a o b=H b:=by unfold upd;rw[ZU h]
def JL {H:Hp}{a b:Addr}{o:HO} (h:H a=some o) (h':H b=none):a≠b:=by
 intro e;subst e;rw[h] at h';cases h'
section
variable (P:Program) (w:World)
def ObjOk (H:Hp) (h:Heap) (a:Addr):HO->Prop
 | .lst xs=>xs.length<=sizeLine/\∃(its:List Value) (n:Nat),Vals xs its/\h.get? a=some { cls:=.type "list",data:=.seq its.toArray n }
 | .tup xs=>xs.length<=sizeLine/\∃its:List Value,Vals xs its/\IsTup h a its.toArray
 | .dK kvs=>kvs.length<=sizeLine/\(a==sysModules)=false/\∃vs,KV kvs vs/\h.DictOf (P0 P w) a vs
 | .dT kvs=>kvs.length<=sizeLine/\(a==sysModules)=false/\∃xs:List (List Key×Addr×Value),
   Paired (fun(p:List Key×V) (q:List Key×Addr×Value)=>p.1=q.1/\H q.2.1=some (.tup (p.1.map kV))/\RelV p.2 q.2.2) kvs xs/\
   ∃o es ep,h.get? a=some o/\o.ExactDict/\o.data=.dict es ep/\es.toList=xs.map (entryOfKey (tupleKind (P0 P w)))/\(xs.map (·.1)).Nodup
 | .set S n=>h.SetOf (intKind P w) a S n
 | .ins C dx fs=>H dx=some (.own a)/\fs.length<=1000/\dx≠a/\h.get? a=some (PySem.W.instObj C dx)/\
   ∃mA,h.Ns1 dx mA/\(∀f,RelO (fs.lookup f) (mA f))/\PySem.Within mA (fs.map (·.1))
 | .own _=>∃o,h.get? a=some o
 | .xd fs=>∃mA,h.Ns1 a mA/\∀f,RelO (fs.lookup f) (mA f)
 | .rng lo hi=>∃t u v,h.get? a=some { cls:=.type "range",data:=.fields #[.int lo t,.int hi u,.int 1 v] }
 | .frz o u=>h.get? a=some o/\ObjOk H h a u
 | .tbl ps=>h.get? a=some { cls:=.none,data:=.fields ps }
 | .met f x=>h.get? a=some (PySem.W.methodObj (.ref f) (.ref x))
 | .ext φ=>φ h/\(∃o,h.get? a=some o)/\∀h1 h2:Heap,φ h1->(∀o,h1.get? a=some o->h2.get? a=some o)->φ h2
def HOk (H:Hp) (h:Heap):Prop:=∀a o,H a=some o->ObjOk P w H h a o
end
section
variable {P:Program}{w:World}{H H':Hp}{h h':Heap}{a:Addr}{o:HO}
def ObjOk.lt (x:ObjOk P w H h a o):a<h.objs.size:=by
 cases o with
 | lst xs=>obtain⟨_,_,_,_,e⟩:=x;exact Yf e
 | tup xs=>obtain⟨_,_,_,p⟩:=x;exact p.lt
 | dK kvs=>obtain⟨_,_,_,_,o,_,_,e,_⟩:=x;exact Yf e
 | dT kvs=>obtain⟨_,_,_,_,o,_,_,e,_⟩:=x;exact Yf e
 | set S n=>obtain⟨o,_,_,_,e,_⟩:=x;exact Yf e
 | ins C dx fs=>obtain⟨_,_,_,e,_⟩:=x;exact Yf e
 | own y=>obtain⟨_,e⟩:=x;exact Yf e
 | xd fs=>obtain⟨_,⟨_,_,_,e,_⟩,_⟩:=x;exact Yf e
 | rng lo hi=>obtain⟨_,_,_,e⟩:=x;exact Yf e
 | frz ob u=>obtain⟨e,_⟩:=x;exact Yf e
 | tbl ps=>exact Yf (show h.get? a=some _ from x)
 | met f y=>exact Yf (show h.get? a=some _ from x)
 | ext φ=>obtain⟨_,⟨_,e⟩,_⟩:=x;exact Yf e
def Paired.mapP {α β:Type}{F G:α->β->Prop}:∀{l₁:List α}{l₂:List β},Paired F l₁ l₂->(∀a b,F a b->G a b)->Paired G l₁ l₂
 | _,_,.nil,_=>.nil
 | _,_,.cons r t,f=>.cons (f _ _ r) (Paired.mapP t f)
def ObjOk.stay (x:ObjOk P w H h a o) (k:∀b u,(b=a\/H b=some (.own a))->h.get? b=some u->h'.get? b=some u)
  (ho:∀b,H b=some (.own a)->H' b=some (.own a)) (ht:∀b xs,H b=some (.tup xs)->H' b=some (.tup xs)):ObjOk P w H' h' a o:=by
 induction o with
 | lst xs=>obtain⟨z,its,n,r,e⟩:=x;exact⟨z,its,n,r,k _ _ (.inl rfl) e⟩
 | tup xs=>obtain⟨z,its,r,ob,e,c⟩:=x;exact⟨z,its,r,ob,k _ _ (.inl rfl) e,c⟩
 | dK kvs=>obtain⟨z,y,vs,r,ob,es,ep,e,c⟩:=x;exact⟨z,y,vs,r,ob,es,ep,k _ _ (.inl rfl) e,c⟩
 | dT kvs=>
  obtain⟨z,y,xs,r,ob,es,ep,e,c⟩:=x;exact⟨z,y,xs,Paired.mapP r fun p q z=>⟨z.1,ht _ _ z.2.1,z.2.2⟩,ob,es,ep,k _ _ (.inl rfl) e,c⟩
 | set S n=>obtain⟨ob,es,ep,t,e,c⟩:=x;exact⟨ob,es,ep,t,k _ _ (.inl rfl) e,c⟩
 | ins C dx fs=>
  obtain⟨d,z,ne,e,mA,⟨od,es,ep,e2,c⟩,r⟩:=x;exact⟨ho _ d,z,ne,k _ _ (.inl rfl) e,mA,⟨od,es,ep,k _ _ (.inr d) e2,c⟩,r⟩
 | own y=>obtain⟨ob,e⟩:=x;exact⟨ob,k _ _ (.inl rfl) e⟩
 | xd fs=>obtain⟨mA,⟨od,es,ep,e,c⟩,r⟩:=x;exact⟨mA,⟨od,es,ep,k _ _ (.inl rfl) e,c⟩,r⟩
 | rng lo hi=>obtain⟨t,u,v,e⟩:=x;exact⟨t,u,v,k _ _ (.inl rfl) e⟩
 | frz ob u ih=>obtain⟨e,q⟩:=x;exact⟨k _ _ (.inl rfl) e,ih q⟩
 | tbl ps=>
  have e:h.get? a=some { cls:=.none,data:=.fields ps }:=x;show h'.get? a=some { cls:=.none,data:=.fields ps };exact k a _ (.inl rfl) e
 | met f y=>
  have e:h.get? a=some (PySem.W.methodObj (.ref f) (.ref y)):=x;show h'.get? a=some (PySem.W.methodObj (.ref f) (.ref y));exact k a _ (.inl rfl) e
 | ext φ=>obtain⟨p,⟨o,e⟩,st⟩:=x;exact⟨st _ _ p fun o q=>k _ _ (.inl rfl) q,⟨o,k _ _ (.inl rfl) e⟩,st⟩
def HOk.lt (x:HOk P w H h) (e:H a=some o):a<h.objs.size:=(x a o e).lt
def HOk.fresh (x:HOk P w H h) (e:h.objs.size<=a):H a=none:=by
 cases q:H a with
 | none=>rfl
 | some u=>exact absurd (Yr (x.lt q) e) (YM _)
def HOk.kept (x:HOk P w H h) (k:∀b u,h.get? b=some u->h'.get? b=some u):HOk P w H h':=fun a o e=>
 (x a o e).stay (fun b u _ q=>k b u q) (fun _ q=>q) fun _ _ q=>q
def HOk.laid (x:HOk P w H h) (k:∀b u,h.get? b=some u->h'.get? b=some u) (hp:h.objs.size<=a) (new:ObjOk P w (upd H a o) h' a o):HOk P w (upd H a o) h':=fun b u e=>by
 have hn:=x.fresh hp;by_cases hb:b=a
 ·subst hb;rw[VQ] at e;cases e;exact new
 ·rw[V1 hb] at e;exact(x b u e).stay (fun c v _ q=>k c v q) (fun c q=>by rw[V1 (JL q hn)];exact q) fun c xs q=>by rw[V1 (JL q hn)];exact q
end
def Rd (H:Hp) (a:Addr) (u:HO):Prop:=H a=some u\/∃o,H a=some (.frz o u)
def Rd.ok {P:Program}{w:World}{H:Hp}{h:Heap}{a:Addr}{u:HO} (r:Rd H a u) (x:HOk P w H h):ObjOk P w H h a u:=by
 rcases r with r|⟨o,r⟩
 ·exact x a u r
 ·obtain⟨_,q⟩:=x a _ r;exact q
def Mut:Option HO->Prop
 | some (.lst _)=>True
 | some (.dK _)=>True
 | some (.dT _)=>True
 | some (.set _ _)=>True
 | some (.ins _ _ _)=>True
 | some (.ext _)=>True
 | _=>False
section
variable {P:Program}{w:World}{H:Hp}{h h':Heap}{x e:Addr}{o':HO}
def HOk.write (ok:HOk P w H h) (mu:Mut (H x)) (he:e=x\/H e=some (.own x)) (k:∀b u,b≠e->h.get? b=some u->h'.get? b=some u) (heo:∃u,h'.get? e=some u)
  (new:ObjOk P w (upd H x o') h' x o'):HOk P w (upd H x o') h':=fun b u q=>by
 have nown:∀c y,H c=some (.own y)->c≠x:=fun c y r z=>by subst z;rw[r] at mu;exact mu
 have ntup:∀c xs,H c=some (.tup xs)->c≠x:=fun c xs r z=>by subst z;rw[r] at mu;exact mu
 by_cases hb:b=x
 ·subst hb;rw[VQ] at q;cases q;exact new
 ·rw[V1 hb] at q;by_cases hbe:b=e
  ·have q':H b=some (.own x):=by
    rcases he with z|z
    ·exact absurd (hbe.trans z) hb
    ·rw[hbe];exact z
   rw[q] at q';cases q';obtain⟨v,hv⟩:=heo;exact⟨v,by rw[hbe];exact hv⟩
  ·refine(ok b u q).stay (fun c v hc r=>k c v ?_ r) (fun c r=>by rw[V1 (nown c b r)];exact r) fun c xs r=>by rw[V1 (ntup c xs r)];exact r
   rcases hc with rfl|hc
   ·exact hbe
   ·rintro rfl;rcases he with z|z
    ·exact nown c b hc z
    ·rw[hc] at z;cases z;exact hb rfl
end
structure Un (fs ex:List Addr) (H H':Hp) (h h':Heap):Prop where
 keep:∀b o,h.get? b=some o->H b=none->b∉fs->b∉ex->h'.get? b=some o
 slot:∀b o,h.get? b=some o->H b=none->b∈fs->b∉ex->∃sl,h'.get? b=some { o with slots:=sl }
 free:∀b o,h.get? b=some o->H b=none->b∉ex->H' b=none
 there:∀b o,h.get? b=some o->b∉ex->∃o',h'.get? b=some o'
 tups:∀b xs,H b=some (.tup xs)->H' b=some (.tup xs)
 frzs:∀b o u,H b=some (.frz o u)->H' b=some (.frz o u)
 tbls:∀b ps,H b=some (.tbl ps)->∃more,H' b=some (.tbl (ps++more))
section
variable {fs fs' ex ex':List Addr}{H H1 H2:Hp}{h h1 h2 h':Heap}{a x e:Addr}{o:HO}
def Un.any (u:Un fs ex H H1 h h1) {b:Addr}{ob:Obj} (q:h.get? b=some ob) (n:H b=none) (hx:b∉ex):∃sl,h1.get? b=some { ob with slots:=sl }:=by
 by_cases hb:b∈fs
 ·exact u.slot b ob q n hb hx
 ·exact⟨ob.slots,u.keep b ob q n hb hx⟩
def Un.kept (k:∀b u,h.get? b=some u->h'.get? b=some u):Un fs ex H H h h':=
 ⟨fun b ob q _ _ _=>k b ob q,fun b ob q _ _ _=>⟨ob.slots,k b ob q⟩,fun _ _ _ n _=>n,fun b ob q _=>⟨ob,k b ob q⟩,fun _ _ q=>q,fun _ _ _ q=>q,fun _ ps q=>⟨#[],by rw[q];simp⟩⟩
def Un.refl:Un fs ex H H h h:=Un.kept fun _ _ q=>q
def Un.laid (k:∀b u,h.get? b=some u->h'.get? b=some u) (hp:h.objs.size<=a) (hn:H a=none):Un fs ex H (upd H a o) h h' where
 keep:=fun b u q _ _ _=>k b u q
 slot:=fun b u q _ _ _=>⟨u.slots,k b u q⟩
 free:=fun b u q n _=>by rw[V1 (YA (Yr (Yf q) hp))];exact n
 there:=fun b u q _=>⟨u,k b u q⟩
 tups:=fun b xs q=>by rw[V1 (JL q hn)];exact q
 frzs:=fun b u xs q=>by rw[V1 (JL q hn)];exact q
 tbls:=fun b ps q=>⟨#[],by rw[V1 (JL q hn),q];simp⟩
def Un.write (mu:Mut (H x)) (he:e=x\/H e=some (.own x)) (k:∀b u,b≠e->h.get? b=some u->h'.get? b=some u) (heo:∃u,h'.get? e=some u):Un fs ex H (upd H x o) h h':=by
 have hx:∀b,H b=none->b≠x:=fun b n z=>by subst z;rw[n] at mu;exact mu
 have hb:∀b,H b=none->b≠e:=fun b n z=>by
  subst z;rcases he with r|r
  ·exact hx b n r
  ·rw[n] at r;cases r
 have hm:∀b u,H b=some u->¬Mut (some u)->b≠x:=fun b u q nm z=>by subst z;rw[q] at mu;exact nm mu
 refine⟨fun b u q n _ _=>k b u (hb b n) q,fun b u q n _ _=>⟨u.slots,k b u (hb b n) q⟩,fun b u q n _=>by rw[V1 (hx b n)];exact n,fun b u q _=>?_,
  fun b xs q=>by rw[V1 (hm b _ q fun z=>z)];exact q,fun b u xs q=>by rw[V1 (hm b _ q fun z=>z)];exact q,fun b ps q=>⟨#[],by rw[V1 (hm b _ q fun z=>z),q];simp⟩⟩
 by_cases hbe:b=e
 ·subst hbe;exact heo
 ·exact⟨u,k b u hbe q⟩
end
def trk (h:Heap) (H:Hp):List Addr:=(List.range h.objs.size).filter fun a=>(H a).isSome
def hidT (h:Heap) (H:Hp):Heap:=PySem.W.hideAll h (trk h H)
def DA (h:Heap) (H:Hp):(hidT h H).objs.size=h.objs.size:=PySem.W.hideAll_size _ _
def E7 {h:Heap}{H:Hp}{b:Addr}{o:Obj} (e:h.get? b=some o) (n:H b=none):(hidT h H).get? b=some o:=
 PySem.W.hideAll_get _ e fun hm=>by
  have q:(H b).isSome=true:=(List.mem_filter.mp hm).2;rw[n] at q;simp at q
def EH {h:Heap}{H:Hp}{b:Addr}{o:Obj} (e:(hidT h H).get? b=some o):h.get? b=some o/\H b=none:=by
 have e':h.get? b=some o:=PySem.W.of_hideAll (trk h H) e;refine⟨e',?_⟩;cases q:H b with
 | none=>rfl
 | some x=>
  have hm:b∈trk h H:=List.mem_filter.mpr ⟨List.mem_range.mpr (Yf e'),by simp[q]⟩;have z:(hidT h H).get? b=none:=PySem.W.hideAll_none (trk h H) hm;rw[z] at e;cases e
def GK (g h:Heap) (L:Addr):List (Addr×Obj):=(List.range h.objs.size).filterMap fun a=>if a=L\/(g.get? a).isSome=true then none else(h.get? a).map fun o=>(a,o)
def rest (g h:Heap) (L d:Addr):List (Addr×Obj):=(GK g h L).filter fun p=>decide (p.1≠d)
structure Mod (K:Za) (mg:Str->Option Value) (base:Heap):Prop where
 kin:K.In base
 glob:base.Ns mainGlobals mg
 blt:∃mb,base.Ns builtinsNs mb/\∀x:Str,x≠"__name__"->mb x=bootBuiltins x
 nolimit:base.NoLimit
structure Cx where
 prog:Program
 w:World
 K:Za
 mg:Str->Option Value
 base:Heap
 A:Around
 N:List Str
 s₀:Shared
 H₀:Hp
 env:Env
 outer:List Env
 stack:List Env
 ex:List Addr
 fn:Str->Bool
 calm:Bool
 pn:List (Addr×Obj)
 xe:Value->Shared->Prop
def frs (l:List Env):List Addr:=l.filterMap (·.frame)
abbrev Cx.fs (X:Cx):List Addr:=frs X.outer
def Vis (sc:Scope) (x:Str):Prop:=sc.names.lookup x=some .local\/sc.names.lookup x=some .cell\/sc.names.lookup x=some .free
def Loc (sc:Scope) (x:Str):Prop:=sc.names.lookup x=some .local\/sc.names.lookup x=some .cell
def Look (env:Env) (h:Heap) (m:Str->Option Value) (x:Str) (u:Value):Prop:=
 (env.kindOf x=some .local/\m x=some u)\/((env.kindOf x=some .cell\/env.kindOf x=some .free)/\∃c,env.cells.lookup x=some c/\h.IsCell c (some u))
structure Cx.Ok (X:Cx):Prop where
 mod:Mod X.K X.mg X.base
 kind:X.env.scope.kind=.function
 glob:X.env.globals=mainGlobals
 blt:X.env.builtins=builtinsNs
 above:X.s₀.heap.objs.size<=X.env.locals
 inj:∀x y c,X.env.cells.lookup x=some c->X.env.cells.lookup y=some c->x=y
 has:∀x,(X.env.kindOf x=some .cell\/X.env.kindOf x=some .free)->∃c,X.env.cells.lookup x=some c
 cab:∀x c,X.fn x=true->X.env.cells.lookup x=some c->X.s₀.heap.objs.size<=c
 hd:X.calm=true->X.A.handled=none
 frames:X.A.frames=some X.stack
 stk:X.stack=X.outer\/(X.stack=X.env::X.outer/\X.env.frame=some X.env.locals)
 exf:∀b∈X.ex,b≠X.env.locals/\∀x c,X.env.cells.lookup x=some c->c≠b
 bs:∀b o,X.base.get? b=some o->X.s₀.heap.get? b=some o/\X.H₀ b=none
 bsz:X.base.objs.size<=X.s₀.heap.objs.size
 noex:∀b o,X.base.get? b=some o->b∉X.ex
 exfs:∀b∈X.ex,b∉X.fs
 funs:X.s₀.heap.FunFrames X.base X.outer
 frf:∀b∈X.fs,X.H₀ b=none
structure Inv (X:Cx) (pins:List (Addr×Obj)) (σ:List (Option V)) (H:Hp) (s:Shared):Prop where
 ok:X.Ok
 os:s.os=X.s₀.os
 bare:AllBare s.gens
 base:Un X.fs X.ex X.H₀ H X.s₀.heap s.heap
 loc:∃m,s.heap.Ns X.env.locals m/\∀(i:Nat) (x:Str) (v:V),X.N[i]?=some x->σ[i]?=some (some v)->Vis X.env.scope x->∃u,RelV v u/\Look X.env s.heap m x u
 cell:∀x c,X.env.cells.lookup x=some c->∃v,s.heap.IsCell c v
 free:H X.env.locals=none
 freeC:∀x c,X.env.cells.lookup x=some c->H c=none
 pin:∀p∈X.pn++pins,s.heap.get? p.1=some p.2/\H p.1=none/\p.1≠X.env.locals/\p.1∉X.fs/\∀v,p.2.data≠.cell v
 hok:HOk X.prog X.w H s.heap
 len:σ.length=X.N.length
section
variable {X:Cx}{pins:List (Addr×Obj)}{σ:List (Option V)}{H H':Hp}{s:Shared}{h':Heap}
def Cx.Ok.nofr (ok:X.Ok) {b:Addr}{o:Obj} (e:X.base.get? b=some o):b∉X.fs:=fun hb=>by
 have:=(ok.funs.mem hb).1
 rw[e] at this;cases this
def Inv.bs (I:Inv X pins σ H s):∀b o,X.base.get? b=some o->s.heap.get? b=some o/\H b=none:=fun b o e=>
 ⟨I.base.keep b o (I.ok.bs b o e).1 (I.ok.bs b o e).2 (I.ok.nofr e) (I.ok.noex b o e),I.base.free b o (I.ok.bs b o e).1 (I.ok.bs b o e).2 (I.ok.noex b o e)⟩
def Inv.bk (I:Inv X pins σ H s):∀b o,X.base.get? b=some o->s.heap.get? b=some o:=fun b o e=>(I.bs b o e).1
def Inv.mod (I:Inv X pins σ H s):Mod X.K X.mg X.base:=I.ok.mod
def Inv.kIn (I:Inv X pins σ H s):X.K.In s.heap:=I.ok.mod.kin.keeps I.bk
def Inv.lt (I:Inv X pins σ H s):X.env.locals<s.heap.objs.size:=let ⟨_,hn,_⟩:=I.loc;hn.lt
def Inv.sz (I:Inv X pins σ H s):X.s₀.heap.objs.size<=s.heap.objs.size:=Yi I.ok.above (WC I.lt)
def Inv.nofs (I:Inv X pins σ H s) {a:Addr} (h:s.heap.objs.size<=a):a∉X.fs:=fun hb=>by
 obtain⟨_,o,ho,_⟩:=I.ok.funs.mem hb;exact absurd (Yr (Yf ho) (Yi I.sz h)) (YM _)
def Inv.cne (I:Inv X pins σ H s):∀x c,X.env.cells.lookup x=some c->c≠X.env.locals:=fun x c e z=>by
 obtain⟨v,o,ho,hd⟩:=I.cell x c e;obtain⟨m,⟨o',es,ep,ho',hd',_⟩,_⟩:=I.loc;rw[z,ho'] at ho;cases ho;rw[hd'] at hd;cases hd
def Inv.funs (I:Inv X pins σ H s):s.heap.FunFrames X.base X.outer:=by
 have all:∀(l:List Env),(∀b∈frs l,b∈X.fs)->X.s₀.heap.FunFrames X.base l->s.heap.FunFrames X.base l:=by
  intro l
  induction l with
  | nil=>intro _ _;trivial
  | cons env r ih=>
   intro hs hl;obtain⟨hk,⟨L,o,hf,hn,ho,hd⟩,hr⟩:=hl;have hL:L∈X.fs:=hs L (by unfold frs;rw[YK,hf];exact YB);obtain⟨sl,e⟩:=I.base.slot L o ho (I.ok.frf L hL) hL fun z=>I.ok.exfs L z hL;exact⟨hk,⟨L,_,hf,hn,e,hd⟩,ih (fun b hb=>hs b (by unfold frs;rw[YK,hf];exact Yt _ hb)) hr⟩
 exact all X.outer (fun _ hb=>hb) I.ok.funs
def Inv.stack (I:Inv X pins σ H s):s.heap.FunFrames X.base X.stack:=by
 rcases I.ok.stk with e|⟨e,hf⟩
 ·rw[e];exact I.funs
 ·rw[e];obtain⟨m,hn,_⟩:=I.loc;refine .cons (by rw[I.ok.kind];decide) hf hn ?_ I.funs;exact W2 (Yi I.ok.bsz I.ok.above)
def Inv.stkSub (I:Inv X pins σ H s):∀b∈frs X.stack,b∈X.env.locals::X.fs:=fun b hb=>by
 rcases I.ok.stk with e|⟨e,hf⟩
 ·rw[e] at hb;exact Yt _ hb
 ·rw[e] at hb;unfold frs at hb;rw[YK,hf] at hb;exact hb
def Inv.stkFree (I:Inv X pins σ H s):∀b∈frs X.stack,H b=none:=fun b hb=>by
 rcases Ym.mp (I.stkSub b hb) with e|hb
 ·rw[e];exact I.free
 ·obtain⟨_,o,ho,_⟩:=I.ok.funs.mem hb;exact I.base.free b o ho (I.ok.frf b hb) fun z=>I.ok.exfs b z hb
def Inv.step {g':Array GenState}{t':Nat}{d':Drawn}{ch:List Addr} (I:Inv X pins σ H s)
  (hch:∀b∈ch,(b∈X.ex\/X.s₀.heap.objs.size<=b)/\b≠X.env.locals/\(∀x c,X.env.cells.lookup x=some c->c≠b)/\∀p∈X.pn++pins,p.1≠b)
  (keep:∀b o,b≠X.env.locals->b∉X.fs->b∉ch->s.heap.get? b=some o->H b=none->h'.get? b=some o)
  (slot:∀b o,b≠X.env.locals->b∈X.fs->b∉ch->s.heap.get? b=some o->H b=none->∃sl,h'.get? b=some { o with slots:=sl }) (free:∀b o,b∉ch->s.heap.get? b=some o->H b=none->H' b=none)
  (there:∀b o,b∉ch->s.heap.get? b=some o->∃o',h'.get? b=some o')
  (tups:∀b xs,H b=some (.tup xs)->H' b=some (.tup xs)) (frzs:∀b o u,H b=some (.frz o u)->H' b=some (.frz o u)) (tbls:∀b ps,H b=some (.tbl ps)->∃more,H' b=some (.tbl (ps++more)))
  (ns:∀m,s.heap.Ns X.env.locals m->h'.Ns X.env.locals m) (hok:HOk X.prog X.w H' h') (hg:AllBare g') :
  Inv X pins σ H' { s with heap:=h',gens:=g',drawn:=d',toks:=t' }:=by
 have neL:∀b o,X.s₀.heap.get? b=some o->b≠X.env.locals:=fun b o e=>YA (Yr (Yf e) I.ok.above)
 have neC:∀b o,X.s₀.heap.get? b=some o->b∉X.ex->b∉ch:=fun b o e hx hb=>by
  rcases(hch b hb).1 with z|z
  ·exact hx z
  ·exact absurd (Yr (Yf e) z) (YM _)
 have cellK:∀x c,X.env.cells.lookup x=some c->∀v,s.heap.IsCell c v->h'.IsCell c v:=fun x c e v ⟨o,ho,hd⟩=>by
  have nch:c∉ch:=fun z=>(hch c z).2.2.1 x c e rfl;by_cases hc:c∈X.fs
  ·obtain⟨sl,q⟩:=slot c o (I.cne x c e) hc nch ho (I.freeC x c e);exact⟨_,q,hd⟩
  ·exact⟨o,keep c o (I.cne x c e) hc nch ho (I.freeC x c e),hd⟩
 refine⟨I.ok,I.os,hg,⟨fun b o e n hb hx=>?_,fun b o e n hb hx=>?_,fun b o e n hx=>?_,fun b o e hx=>?_,fun b xs e=>tups b xs (I.base.tups b xs e),fun b o xs e=>frzs b o xs (I.base.frzs b o xs e),fun b ps e=>?_⟩,?_,fun x c e=>?_,?_,fun x c e=>?_,fun p hp=>?_,hok,I.len⟩
 ·exact keep b o (neL b o e) hb (neC b o e hx) (I.base.keep b o e n hb hx) (I.base.free b o e n hx)
 ·obtain⟨sl,e1⟩:=I.base.slot b o e n hb hx;obtain⟨sl',e2⟩:=slot b _ (neL b o e) hb (neC b o e hx) e1 (I.base.free b o e n hx);exact⟨sl',e2⟩
 ·obtain⟨o',e1⟩:=I.base.there b o e hx;exact free b o' (neC b o e hx) e1 (I.base.free b o e n hx)
 ·obtain⟨o',e1⟩:=I.base.there b o e hx;exact there b o' (neC b o e hx) e1
 ·obtain⟨m1,e1⟩:=I.base.tbls b ps e;obtain⟨m2,e2⟩:=tbls b _ e1;exact⟨m1++m2,by rw[e2,Array.append_assoc]⟩
 ·obtain⟨m,hn,hl⟩:=I.loc;refine⟨m,ns m hn,fun i x v e1 e2 e3=>?_⟩;obtain⟨u,r,l⟩:=hl i x v e1 e2 e3;refine⟨u,r,?_⟩;rcases l with l|⟨k,c,e,z⟩
  ·exact .inl l
  ·exact .inr ⟨k,c,e,cellK x c e _ z⟩
 ·obtain⟨v,z⟩:=I.cell x c e;exact⟨v,cellK x c e v z⟩
 ·obtain⟨m,⟨o,_,_,ho,_⟩,_⟩:=I.loc;exact free _ o (fun z=>(hch _ z).2.1 rfl) ho I.free
 ·obtain⟨v,o,ho,hd⟩:=I.cell x c e;exact free c o (fun z=>(hch c z).2.2.1 x c e rfl) ho (I.freeC x c e)
 ·obtain⟨e,n,ne,nf,d⟩:=I.pin p hp;have nch:p.1∉ch:=fun z=>(hch p.1 z).2.2.2 p hp rfl;exact⟨keep p.1 p.2 ne nf nch e n,free p.1 p.2 nch e n,ne,nf,d⟩
def Inv.un {t':Nat} (I:Inv X pins σ H s) (u:Un X.fs [] H H' s.heap h') (hok:HOk X.prog X.w H' h'):Inv X pins σ H' { s with heap:=h',toks:=t' }:=by
 obtain⟨m,⟨o,es,ep,ho,r⟩,_⟩:=id I.loc;obtain⟨sl,hL⟩:=u.any ho I.free (by simp)
 exact I.step (g':=s.gens) (d':=s.drawn) (ch:=[]) (fun _ z=>nomatch z) (fun b o _ hb _ e n=>u.keep b o e n hb (by simp)) (fun b o _ hb _ e n=>u.slot b o e n hb (by simp)) (fun b o _ e n=>u.free b o e n (by simp)) (fun b o _ e=>u.there b o e (by simp)) u.tups u.frzs u.tbls (fun m' hm=>by
  obtain⟨o',es',ep',ho',r'⟩:=hm;rw[ho] at ho';cases ho';exact⟨_,es',ep',hL,r'⟩) hok I.bare
def Inv.call {g':Array GenState}{t':Nat}{d':Drawn}{ch:List Addr} (I:Inv X pins σ H s) (u:Un (frs X.stack) ch H H' s.heap h') (hok:HOk X.prog X.w H' h') (hg:AllBare g')
  (hch:∀b∈ch,(b∈X.ex\/X.s₀.heap.objs.size<=b)/\b≠X.env.locals/\(∀x c,X.env.cells.lookup x=some c->c≠b)/\∀p∈X.pn++pins,p.1≠b) :
  Inv X pins σ H' { s with heap:=h',gens:=g',drawn:=d',toks:=t' }:=by
 obtain⟨m,⟨o,es,ep,ho,r⟩,_⟩:=id I.loc;obtain⟨sl,hL⟩:=u.any ho I.free fun z=>(hch _ z).2.1 rfl
 exact I.step (ch:=ch) hch (fun b o hL hb hc e n=>u.keep b o e n (fun z=>(Ym.mp (I.stkSub b z)).elim hL hb) hc) (fun b o _ _ hc e n=>u.any e n hc) (fun b o hc e n=>u.free b o e n hc) (fun b o hc e=>u.there b o e hc) u.tups u.frzs u.tbls (fun m' hm=>by
  obtain⟨o',es',ep',ho',r'⟩:=hm;rw[ho] at ho';cases ho';exact⟨_,es',ep',hL,r'⟩) hok hg
def Inv.turned {t':Nat}{it:Addr} (I:Inv X pins σ H s) (k:∀b o,b≠it->s.heap.get? b=some o->h'.get? b=some o) (hn:H it=none) (hL:it≠X.env.locals)
  (h1:it∈X.ex\/X.s₀.heap.objs.size<=it) (h2:∀x c,X.env.cells.lookup x=some c->c≠it) (h3:∀p∈X.pn++pins,p.1≠it):Inv X pins σ H { s with heap:=h',toks:=t' }:=by
 have nit:∀b u,H b=some u->b≠it:=fun b u e z=>by rw[z,hn] at e;cases e
 refine I.step (g':=s.gens) (d':=s.drawn) (ch:=[it]) (fun b hb=>?_) (fun b o _ _ hc e _=>k b o (fun z=>hc (by simp[z])) e) (fun b o _ _ hc e _=>⟨o.slots,k b o (fun z=>hc (by simp[z])) e⟩) (fun _ _ _ _ n=>n)
  (fun b o hc e=>⟨o,k b o (fun z=>hc (by simp[z])) e⟩) (fun _ _ e=>e) (fun _ _ _ e=>e) (fun b ps e=>⟨#[],by rw[e];simp⟩) (fun m hm=>?_) (fun b u e=>?_) I.bare
 ·have e:b=it:=by simpa using hb
  subst e;exact⟨h1,hL,h2,h3⟩
 ·obtain⟨o,es,ep,ho,r⟩:=hm;exact⟨o,es,ep,k _ o (Ne.symm hL) ho,r⟩
 ·refine(I.hok b u e).stay (fun c v hc q=>k c v ?_ q) (fun _ q=>q) fun _ _ q=>q;rcases hc with z|z
  ·rw[z];exact nit b u e
  ·exact nit c _ z
def Inv.tok (I:Inv X pins σ H s) (t:Nat):Inv X pins σ H { s with toks:=t }:=I.un (h':=s.heap) (t':=t) Un.refl I.hok
def Inv.kept {t':Nat} (I:Inv X pins σ H s) (k:∀b u,s.heap.get? b=some u->h'.get? b=some u):Inv X pins σ H { s with heap:=h',toks:=t' }:=I.un (Un.kept k) (I.hok.kept k)
def Inv.laid {a:Addr}{o:HO}{t':Nat} (I:Inv X pins σ H s) (k:∀b u,s.heap.get? b=some u->h'.get? b=some u) (hp:s.heap.objs.size<=a) (new:ObjOk X.prog X.w (upd H a o) h' a o) :
  Inv X pins σ (upd H a o) { s with heap:=h',toks:=t' }:=I.un (Un.laid k hp (I.hok.fresh hp)) (I.hok.laid k hp new)
def Inv.write {x e:Addr}{o:HO}{t':Nat} (I:Inv X pins σ H s) (mu:Mut (H x)) (he:e=x\/H e=some (.own x)) (k:∀b u,b≠e->s.heap.get? b=some u->h'.get? b=some u) (heo:∃u,h'.get? e=some u)
  (new:ObjOk X.prog X.w (upd H x o) h' x o):Inv X pins σ (upd H x o) { s with heap:=h',toks:=t' }:=I.un (Un.write mu he k heo) (I.hok.write mu he k heo new)
def Inv.weak {σ':List (Option V)} (I:Inv X pins σ H s) (hl:σ'.length=σ.length) (w:∀(i:Nat) v,σ'[i]?=some (some v)->σ[i]?=some (some v)):Inv X pins σ' H s:=
 ⟨I.ok,I.os,I.bare,I.base,let ⟨m,hn,hl'⟩:=I.loc;⟨m,hn,fun i x v e1 e2 e3=>hl' i x v e1 (w i v e2) e3⟩,I.cell,I.free,I.freeC,I.pin,I.hok,hl.trans I.len⟩
def Inv.pins_of {pins':List (Addr×Obj)} (I:Inv X pins σ H s) (h:∀p∈pins',s.heap.get? p.1=some p.2/\H p.1=none/\p.1≠X.env.locals/\p.1∉X.fs/\∀v,p.2.data≠.cell v):Inv X pins' σ H s:=
 ⟨I.ok,I.os,I.bare,I.base,I.loc,I.cell,I.free,I.freeC,fun p hp=>(Y7.mp hp).elim (fun z=>I.pin p (YO _ z)) (h p),I.hok,I.len⟩
def Tj {N:List Str} (hN:N.Nodup) {i j:Nat}{x:Str} (a:N[i]?=some x) (b:N[j]?=some x):i=j:=by
 obtain⟨h1,e1⟩:=Yo.mp a;obtain⟨h2,e2⟩:=Yo.mp b;exact(List.getElem_inj hN).mp (e1.trans e2.symm)
def AH {M:Model}{A:Around}{E:Value->Shared->Prop}{i:Nat}{x:Str}{v:V}{u:Value}{Q:Unit->Shared->Prop} (I:Inv X pins σ H s) (hN:X.N.Nodup) (hi:X.N[i]?=some x) (hx:Loc X.env.scope x) (r:RelV v u)
  (h:∀s',Inv X pins (σ.set i (some v)) H s'->(∃a,Heap.SameBut a s.heap s'.heap/\(a=X.env.locals\/X.env.cells.lookup x=some a))->Q () s') (hf:X.fn x=true\/X.env.scope.names.lookup x=some .local:=by first|exact .inl rfl|exact .inr rfl|assumption):wpAny M A (storeName X.env x u) Q E s:=by
 obtain⟨m,hn,hl⟩:=id I.loc;have hcls:(X.env.scope.kind == .class || (X.env.scope.kind == .module&&X.env.locals != X.env.globals))=false:=by rw[I.ok.kind];rfl
 have hiσ:i<σ.length:=by rw[I.len];exact(Yo.mp hi).1
 have cne:=I.cne
 have tracked:∀{a:Addr} {h':Heap},(∃o,s.heap.get? a=some o/\H a=none)->Heap.SameBut a s.heap h'->HOk X.prog X.w H h':=fun {a h'} ha hs b ob e=>by
  obtain⟨_,_,hfree⟩:=ha;refine(I.hok b ob e).stay (fun c w' hc q=>(hs.2 c ?_).trans q) (fun _ q=>q) fun _ _ q=>q;rintro rfl;rcases hc with rfl|hc
  ·rw[hfree] at e;cases e
  ·rw[hfree] at hc;cases hc
 rcases hx with hk|hk
 ·refine wpAny_storeName_local hk hn (fun h' hn' hs=>?_) hcls;obtain⟨oL,_,_,hoL,_⟩:=id hn;refine h _ ⟨I.ok,I.os,I.bare,⟨fun b o e n hb hx=>?_,fun b o e n hb hx=>?_,I.base.free,fun b o e hx=>?_,I.base.tups,I.base.frzs,I.base.tbls⟩,⟨_,hn',fun j y v' e1 e2 e3=>?_⟩,fun y c e=>?_,I.free,I.freeC,fun p hp=>?_,tracked ⟨oL,hoL,I.free⟩ hs,by simpa using I.len⟩ ⟨_,hs,.inl rfl⟩
  ·exact(hs.2 b (YA (Yr (Yf e) I.ok.above))).trans (I.base.keep b o e n hb hx)
  ·obtain⟨sl,e1⟩:=I.base.slot b o e n hb hx;exact⟨sl,(hs.2 b (YA (Yr (Yf e) I.ok.above))).trans e1⟩
  ·obtain⟨o',e1⟩:=I.base.there b o e hx;exact⟨o',(hs.2 b (YA (Yr (Yf e) I.ok.above))).trans e1⟩
  ·by_cases hj:j=i
   ·subst hj;rw[hi] at e1;cases e1;rw[Wd hiσ] at e2;cases e2
    exact⟨u,r,.inl ⟨hk,by simp⟩⟩
   ·rw[Wj (Ne.symm hj)] at e2;obtain⟨u',r',q⟩:=hl j y v' e1 e2 e3;refine⟨u',r',?_⟩;rcases q with⟨k,e⟩|⟨k,c,e,z⟩
    ·refine .inl ⟨k,?_⟩
     have:y≠x:=fun e=>hj (Tj hN e1 (e▸hi))
     simp[this,e]
    ·exact .inr ⟨k,c,e,z.sameBut hs (cne y c e)⟩
  ·obtain⟨w',z⟩:=I.cell y c e;exact⟨w',z.sameBut hs (cne y c e)⟩
  ·obtain⟨e,n,ne,nf,d⟩:=I.pin p hp;exact⟨(hs.2 p.1 ne).trans e,n,ne,nf,d⟩
 ·have hfn:X.fn x=true:=by
   rcases hf with z|z
   ·exact z
   ·rw[z] at hk;cases hk
  obtain⟨c,hc⟩:=I.ok.has x (.inl hk);obtain⟨w',z⟩:=I.cell x c hc;refine wpAny_storeName_cell I.ok.kind hk hc z (fun h' hc' hs=>?_);obtain⟨oc,hoc,hocd⟩:=id z;refine h { s with heap:=h' } ⟨I.ok,I.os,I.bare,⟨fun b o e n hb hx=>?_,fun b o e n hb hx=>?_,I.base.free,fun b o e hx=>?_,I.base.tups,I.base.frzs,I.base.tbls⟩,⟨m,hn.sameBut hs (Ne.symm (cne x c hc)),fun j y v' e1 e2 e3=>?_⟩,fun y c' e=>?_,I.free,I.freeC,fun p hp=>?_,tracked ⟨oc,hoc,I.freeC x c hc⟩ hs,by simpa using I.len⟩ ⟨c,hs,.inr hc⟩
  ·exact(hs.2 b (YA (Yr (Yf e) (I.ok.cab x c hfn hc)))).trans (I.base.keep b o e n hb hx)
  ·obtain⟨sl,e1⟩:=I.base.slot b o e n hb hx;exact⟨sl,(hs.2 b (YA (Yr (Yf e) (I.ok.cab x c hfn hc)))).trans e1⟩
  ·obtain⟨o',e1⟩:=I.base.there b o e hx;exact⟨o',(hs.2 b (YA (Yr (Yf e) (I.ok.cab x c hfn hc)))).trans e1⟩
  ·by_cases hj:j=i
   ·subst hj;rw[hi] at e1;cases e1;rw[Wd hiσ] at e2;cases e2
    exact⟨u,r,.inr ⟨.inl hk,c,hc,hc'⟩⟩
   ·rw[Wj (Ne.symm hj)] at e2;obtain⟨u',r',q⟩:=hl j y v' e1 e2 e3;refine⟨u',r',?_⟩;rcases q with q|⟨k,c',e,z'⟩
    ·exact .inl q
    ·refine .inr ⟨k,c',e,z'.sameBut hs ?_⟩;rintro rfl;exact hj (Tj hN e1 (I.ok.inj _ _ _ e hc▸hi))
  ·by_cases hcc:c'=c
   ·subst hcc;exact⟨_,hc'⟩
   ·obtain⟨w2,z2⟩:=I.cell y c' e;exact⟨w2,z2.sameBut hs hcc⟩
  ·obtain⟨e,n,ne,nf,d⟩:=I.pin p hp;refine⟨(hs.2 p.1 ?_).trans e,n,ne,nf,d⟩;intro q;rw[q,hoc] at e;have q':oc=p.2:=Ya e;exact d w' (by rw[←q'];exact hocd)
def PM {M:Model}{A:Around}{E:Value->Shared->Prop}{i:Nat}{x:Str}{v:V}{u:Value}{Q:Unit->Shared->Prop} (I:Inv X pins σ H s) (hN:X.N.Nodup) (hi:X.N[i]?=some x) (hx:Loc X.env.scope x) (r:RelV v u)
  (h:∀s',Inv X pins (σ.set i (some v)) H s'->Q () s') (hf:X.fn x=true\/X.env.scope.names.lookup x=some .local:=by first|exact .inl rfl|exact .inr rfl|assumption):wpAny M A (storeName X.env x u) Q E s:=
 AH I hN hi hx r (fun s' I' _=>h s' I') hf
def Inv.call' {s':Shared}{ch:List Addr} (I:Inv X pins σ H s) (ho:s'.os=s.os) (u:Un (frs X.stack) ch H H' s.heap s'.heap) (hok:HOk X.prog X.w H' s'.heap) (hg:AllBare s'.gens)
  (hch:∀b∈ch,(b∈X.ex\/X.s₀.heap.objs.size<=b)/\b≠X.env.locals/\(∀x c,X.env.cells.lookup x=some c->c≠b)/\∀p∈X.pn++pins,p.1≠b):Inv X pins σ H' s':=by
 obtain⟨h',g',d',t',o'⟩:=s';have e:o'=s.os:=ho;subst e;exact I.call (g':=g') (t':=t') (d':=d') u hok hg hch
end
abbrev XK:=Value->Option Addr->Hp->Prop
abbrev St:=List (Option V)
abbrev VK:=V->Hp->Prop
abbrev TE:=St->Hp->VK->Prop
abbrev TT:=St->Hp->(Bool->Hp->Prop)->Prop
abbrev TA:=St->Hp->(List V->Hp->Prop)->Prop
structure Ends where
 nx:St->Hp->Prop
 rt:VK
 bk:St->Hp->Prop:=fun _ _=>False
 ct:St->Hp->Prop:=fun _ _=>False
abbrev TS:=Ends->St->Hp->Prop
def EP (X:Cx) (pins:List (Addr×Obj)) (σ:St) (Q:VK) (u:Value) (s':Shared):Prop:=∃v H',Inv X pins σ H' s'/\RelV v u/\Q v H'
def TP (X:Cx) (pins:List (Addr×Obj)) (σ:St) (Q:Bool->Hp->Prop) (b:Bool) (s':Shared):Prop:=∃H',Inv X pins σ H' s'/\Q b H'
def AP (X:Cx) (pins:List (Addr×Obj)) (σ:St) (Q:List V->Hp->Prop) (us:List Value) (s':Shared):Prop:=∃vs H',Inv X pins σ H' s'/\Vals vs us/\Q vs H'
def SP (X:Cx) (pins:List (Addr×Obj)) (D:Ends) (f:Flow) (s':Shared):Prop:=
 match f with
 | .next=>∃σ' H',Inv X pins σ' H' s'/\D.nx σ' H'
 | .brk=>∃σ' H',Inv X pins σ' H' s'/\D.bk σ' H'
 | .cont=>∃σ' H',Inv X pins σ' H' s'/\D.ct σ' H'
 | .ret u=>∃v σ' H',Inv X pins σ' H' s'/\RelV v u/\D.rt v H'
def PE (X:Cx) (e:Expr) (t:TE):Prop:=
 ∀(pins:List (Addr×Obj)) (s:Shared) (σ:St) (H:Hp) (Q:VK),Inv X pins σ H s->t σ H Q->wpAny (model X.prog X.w) X.A (eval e X.env) (EP X pins σ Q) X.xe s
def PT (X:Cx) (e:Expr) (t:TT):Prop:=
 ∀(pins:List (Addr×Obj)) (s:Shared) (σ:St) (H:Hp) (Q:Bool->Hp->Prop),Inv X pins σ H s->t σ H Q->wpAny (model X.prog X.w) X.A (isTrue e X.env (eval e X.env)) (TP X pins σ Q) X.xe s
def PW (X:Cx) (e:Expr) (t:TT):Prop:=
 ∀(whole:Sem Value) (pins:List (Addr×Obj)) (s:Shared) (σ:St) (H:Hp) (Q:Bool->Hp->Prop),Inv X pins σ H s->t σ H Q->wpAny (model X.prog X.w) X.A (isTrue e X.env whole) (TP X pins σ Q) X.xe s
def PW.pt {X:Cx}{e:Expr}{t:TT} (h:PW X e t):PT X e t:=h _
def PA (X:Cx) (es:List Expr) (t:TA):Prop:=
 ∀(pos:Pos) (pins:List (Addr×Obj)) (s:Shared) (σ:St) (H:Hp) (Q:List V->Hp->Prop),Inv X pins σ H s->t σ H Q->wpAny (model X.prog X.w) X.A (spliced (backTo pos (starEach es X.env))) (AP X pins σ Q) X.xe s
def PS (X:Cx) (st:Stmt) (t:TS):Prop:=
 ∀(pins:List (Addr×Obj)) (s:Shared) (σ:St) (H:Hp) (D:Ends),Inv X pins σ H s->t D σ H->wpAny (model X.prog X.w) X.A (exec st X.env) (SP X pins D) X.xe s
def PSs (X:Cx) (st:List Stmt) (t:TS):Prop:=
 ∀(pins:List (Addr×Obj)) (s:Shared) (σ:St) (H:Hp) (D:Ends),Inv X pins σ H s->t D σ H->wpAny (model X.prog X.w) X.A (execs st X.env) (SP X pins D) X.xe s
def thn {α:Type}{t:Sem α}{Q Q':α->Shared->Prop}{M:Model}{A:Around}{E:Value->Shared->Prop}{s:Shared} (h:wpAny M A t Q E s) (hQ:∀a s,Q a s->Q' a s):wpAny M A t Q' E s:=YN h hQ fun _ _ x=>x
section
variable {X:Cx}
def bin {a b:Expr}{ta tb:TE} (ha:PE X a ta) (hb:PE X b tb) {pins:List (Addr×Obj)}{s:Shared}{σ:St}{H:Hp}{R:V->V->Hp->Prop} (I:Inv X pins σ H s) (h:ta σ H fun x H1=>tb σ H1 fun y H2=>R x y H2)
  {α:Type} {Q:α->Shared->Prop} {f:Value->Value->Sem α}
  (hf:∀v u s2 x y H2,Inv X pins σ H2 s2->RelV x v->RelV y u->R x y H2->wpAny (model X.prog X.w) X.A (f v u) Q X.xe s2) :
  wpAny (model X.prog X.w) X.A (eval a X.env) (fun v s₁=>wpAny (model X.prog X.w) X.A (eval b X.env) (fun u s₂=>wpAny (model X.prog X.w) X.A (f v u) Q X.xe s₂) X.xe s₁) X.xe s:=by
 refine thn (ha pins s σ H _ I h) fun v s1 ⟨x,H1,I1,r1,q1⟩=>?_;refine thn (hb pins s1 σ H1 _ I1 q1) fun u s2 ⟨y,H2,I2,r2,q2⟩=>?_;exact hf v u s2 x y H2 I2 r1 r2 q2
def tVar (i:Nat):TE:=fun σ H Q=>∃v,σ[i]?=some (some v)/\Q v H
def tC (v:V):TE:=fun _ H Q=>Q v H
def EL {i:Nat}{x:Str}{pos:Pos} (hN:X.N[i]?=some x) (hv:Vis X.env.scope x) (hd:(x==("__debug__" : Str))=false:=by decide) (hcd:(x==("__classdict__" : Str))=false:=by decide):PE X (.Name x pos) (tVar i):=by
 intro pins s σ H Q I h;obtain⟨v,e,h⟩:=h;obtain⟨m,hn,hl⟩:=I.loc;obtain⟨u,r,l⟩:=hl i x v hN e hv;have fin:EP X pins σ Q u s:=⟨v,H,I,r,h⟩;rcases l with⟨hk,hm⟩|⟨hk,c,hc,hcell⟩
 ·exact wpAny_Name (wpAny_loadName_local I.ok.kind hk hn hm fin) hd
 ·rcases hk with hk|hk
  ·exact wpAny_Name (wpAny_loadName_cell I.ok.kind hk hc hcell fin) hd
  ·exact wpAny_Name (wpAny_loadName_free I.ok.kind hk hc hcell fin hcd) hd
def Vd {i j pos}:PE X (.Constant (.int i) j pos) (tC (.int i)):=fun _ _ _ H _ I h=>wpAny_Constant_int ⟨.int i,H,I.tok _,⟨_,rfl⟩,h⟩
def VJ {b j pos}:PE X (.Constant (.bool b) j pos) (tC (.bl b)):=fun _ _ _ H _ I h=>Constant_bool ⟨.bl b,H,I,rfl,h⟩
def VB {x j pos}:PE X (.Constant (.str x) j pos) (tC (.str x)):=fun _ _ _ H _ I h=>Calls.Constant_str ⟨.str x,H,I.tok _,⟨_,rfl⟩,h⟩
def Gl (X:Cx) (x:Str):Prop:=X.env.kindOf x=some .globalImplicit
def Xk {E:Value->Shared->Prop}{pins:List (Addr×Obj)}{s:Shared}{σ:St}{H:Hp}{x:Str}{u:Value}{pos:Pos}{Q:Value->Shared->Prop} (I:Inv X pins σ H s) (hg:Gl X x) (hm:X.mg x=some u) (h:Q u s)
  (hd:(x==("__debug__" : Str))=false:=by decide):wpAny (model X.prog X.w) X.A (eval (.Name x pos) X.env) Q E s:=
 Calls.Name_function_global I.ok.kind hg (Calls.loadGlobal_global (by rw[I.ok.glob];exact I.mod.glob.keeps I.bk) hm h) hd
def X7 {E:Value->Shared->Prop}{pins:List (Addr×Obj)}{s:Shared}{σ:St}{H:Hp}{x:Str}{u:Value}{pos:Pos}{Q:Value->Shared->Prop} (I:Inv X pins σ H s) (hg:Gl X x) (hm:X.mg x=none) (hv:bootBuiltins x=some u) (h:Q u s)
  (hn:x≠"__name__":=by decide) (hd:(x==("__debug__" : Str))=false:=by decide):wpAny (model X.prog X.w) X.A (eval (.Name x pos) X.env) Q E s:=by
 obtain⟨mb,h1,h2⟩:=I.mod.blt;exact Calls.Name_function_global I.ok.kind hg (Calls.loadGlobal_builtin (by rw[I.ok.glob];exact I.mod.glob.keeps I.bk) hm (by rw[I.ok.blt];exact h1.keeps I.bk) ((h2 x hn).trans hv) h) hd
def Bx {x:Str}{v:V}{u:Value}{pos:Pos} (hg:Gl X x) (hm:X.mg x=some u) (r:RelV v u) (hd:(x==("__debug__" : Str))=false:=by decide):PE X (.Name x pos) (tC v):=
 fun _ _ _ H _ I h=>Xk I hg hm ⟨v,H,I,r,h⟩ hd
def JW {x:Str}{v:V}{u:Value}{pos:Pos} (hg:Gl X x) (hm:X.mg x=none) (hv:bootBuiltins x=some u) (r:RelV v u) (hn:x≠"__name__":=by decide) (hd:(x==("__debug__" : Str))=false:=by decide):PE X (.Name x pos) (tC v):=
 fun _ _ _ H _ I h=>X7 I hg hm hv ⟨v,H,I,r,h⟩ hn hd
variable {a b:Expr}{ta tb:TE}{pos:Pos}
variable {tA tB':TT}{rest:List Expr}
def tAnd (t u:TT):TT:=fun σ H Q=>t σ H fun c H1=>if c=true then u σ H1 Q else Q false H1
def tOr (t u:TT):TT:=fun σ H Q=>t σ H fun c H1=>if c=true then Q true H1 else u σ H1 Q
def tNot (t:TT):TT:=fun σ H Q=>t σ H fun c H1=>Q (!c) H1
def Ea (ha:PT X a tA):PW X (.BoolOp .And [a] pos) tA:=by
 intro wh pins s σ H Q I h;refine isTrue_and (thn (ha pins s σ H Q I h) fun c s1 e=>?_);cases c with
 | true=>exact isTrue_and_nil e
 | false=>exact e
def Jb (ha:PT X a tA):PW X (.BoolOp .Or [a] pos) tA:=by
 intro wh pins s σ H Q I h;refine isTrue_or (thn (ha pins s σ H Q I h) fun c s1 e=>?_);cases c with
 | false=>exact isTrue_or_nil e
 | true=>exact e
def BE (ha:PT X a tA) (hb:PW X (.BoolOp .And (b::rest) pos) tB'):PW X (.BoolOp .And (a::b::rest) pos) (tAnd tA tB'):=by
 intro wh pins s σ H Q I h;refine isTrue_and (thn (ha pins s σ H _ I h) fun c s1 ⟨H1,I1,q1⟩=>?_);cases c with
 | true=>exact hb wh pins s1 σ H1 Q I1 q1
 | false=>exact⟨H1,I1,q1⟩
def VU (ha:PT X a tA) (hb:PW X (.BoolOp .Or (b::rest) pos) tB'):PW X (.BoolOp .Or (a::b::rest) pos) (tOr tA tB'):=by
 intro wh pins s σ H Q I h;refine isTrue_or (thn (ha pins s σ H _ I h) fun c s1 ⟨H1,I1,q1⟩=>?_);cases c with
 | true=>exact⟨H1,I1,q1⟩
 | false=>exact hb wh pins s1 σ H1 Q I1 q1
def Jc (ha:PT X a tA):PT X (.UnaryOp .Not a pos) (tNot tA):=by
 intro pins s σ H Q I h;exact isTrue_not (ha pins s σ H (fun c H1=>Q (!c) H1) I h)
def SU (ta tb:TE):TE:=fun σ H Q=>ta σ H fun x H1=>∃c,x=.bl c/\if c=true then tb σ H1 Q else Q (.bl false) H1
def N6 (ta:TE):TE:=fun σ H Q=>ta σ H fun x H1=>∃c,x=.bl c/\Q (.bl (!c)) H1
def PK {op}{t:TE} (h:PE X a t):PE X (.BoolOp op [a] pos) t:=fun pins s σ H Q I hw=>BoolOp_one (h pins s σ H Q I hw)
def KG (ha:PE X a ta) (hb:PE X (.BoolOp .And (b::rest) pos) tb):PE X (.BoolOp .And (a::b::rest) pos) (SU ta tb):=by
 intro pins s σ H Q I h;refine BoolOp_and (thn (ha pins s σ H _ I h) fun v s1 ⟨x,H1,I1,r1,q1⟩=>?_);obtain⟨c,rfl,q1⟩:=q1;cases r1
 refine Wt ?_;cases c with
 | true=>exact hb pins s1 σ H1 Q I1 q1
 | false=>exact⟨.bl false,H1,I1,rfl,q1⟩
def Cy (ha:PE X a ta):PE X (.UnaryOp .Not a pos) (N6 ta):=by
 intro pins s σ H Q I h;refine UnaryOp_ (thn (ha pins s σ H _ I h) fun v s1 ⟨x,H1,I1,r1,q1⟩=>?_);obtain⟨c,rfl,q1⟩:=q1;cases r1
 exact not_of (Wt ⟨.bl (!c),H1,I1,rfl,q1⟩)
end
def SqL (K:Za) (H:Hp) (a:Addr) (xs:List V):Prop:=
 Rd H a (.lst xs)\/
  ∃(o:Obj) (its:Array Value) (n:Nat),K.lookup a=some o/\o.cls=.type "list"/\o.dict=none/\o.data=.seq its n/\its.size<=sizeLine/\Vals xs its.toList
def SqT (K:Za) (H:Hp) (a:Addr) (xs:List V):Prop:=
 Rd H a (.tup xs)\/
  ∃(o:Obj) (its:Array Value) (n:Nat),K.lookup a=some o/\o.cls=.type "tuple"/\o.data=.seq its n/\its.size<=sizeLine/\Vals xs its.toList
def absV:Value->Option V
 | .none=>some .non
 | .bool b=>some (.bl b)
 | .int i _=>some (.int i)
 | .str x _=>some (.str x)
 | .bytes b _=>some (.byt b)
 | .float b _=>some (.flt b)
 | .ref a=>some (.ref a)
 | .type n=>some (.ty n)
 | _=>none
def RelV.abs {x:V}{u:Value} (r:RelV x u):absV u=some x:=by
 cases x with
 | non=>cases r;rfl
 | bl _=>cases r;rfl
 | int _=>obtain⟨t,rfl⟩:=r;rfl
 | str _=>obtain⟨t,rfl⟩:=r;rfl
 | byt _=>obtain⟨t,rfl⟩:=r;rfl
 | flt _=>obtain⟨t,rfl⟩:=r;rfl
 | ref _=>cases r;rfl
 | ty _=>cases r;rfl
def RelV.inj {x y:V}{u:Value} (r:RelV x u) (q:RelV y u):x=y:=Ya (r.abs.symm.trans q.abs)
def Vals.inj:∀{xs ys:List V}{us:List Value},Vals xs us->Vals ys us->xs=ys
 | _,_,_,.nil,.nil=>rfl
 | _,_,_,.cons r t,.cons r' t'=>by rw[r.inj r',Vals.inj t t']
section
variable {X:Cx}{pins:List (Addr×Obj)}{σ:St}{H:Hp}{s:Shared}{a:Addr}{xs ys:List V}
def SqL.of {K:Za} (h:H a=some (.lst xs)):SqL K H a xs:=.inl (.inl h)
def SqT.of {K:Za} (h:H a=some (.tup xs)):SqT K H a xs:=.inl (.inl h)
def Inv.list (I:Inv X pins σ H s) (h:SqL X.K H a xs):∃its:List Value,Vals xs its/\PlainL s.heap a its.toArray/\xs.length<=sizeLine:=by
 rcases h with h|⟨o,its,n,hk,hc,hd,hs,hz,r⟩
 ·obtain⟨z,its,n,r,e⟩:=h.ok I.hok;exact⟨its,r,⟨_,n,e,rfl,rfl,rfl⟩,z⟩
 ·refine⟨its.toList,r,⟨o,n,I.kIn a o hk,hc,hd,by simpa using hs⟩,?_⟩;have e:=r.length;simp only[Array.length_toList] at e;omega
def Inv.tuple (I:Inv X pins σ H s) (h:SqT X.K H a xs):∃its:List Value,Vals xs its/\IsTup s.heap a its.toArray/\xs.length<=sizeLine:=by
 rcases h with h|⟨o,its,n,hk,hc,hs,hz,r⟩
 ·obtain⟨z,its,r,p⟩:=h.ok I.hok;exact⟨its,r,p,z⟩
 ·refine⟨its.toList,r,⟨o,I.kIn a o hk,hc,n,by simpa using hs⟩,?_⟩;have e:=r.length;simp only[Array.length_toList] at e;omega
def Inv.list_inj (I:Inv X pins σ H s) (h:SqL X.K H a xs) (h':SqL X.K H a ys):xs=ys:=by
 obtain⟨its,r,⟨o,n,e,_,_,d⟩,_⟩:=I.list h;obtain⟨its',r',⟨o',n',e',_,_,d'⟩,_⟩:=I.list h';rw[e] at e';cases e';rw[d] at d';injection d' with d1 _
 have:its=its':=by simpa using Y0 Array.toList d1
 subst this;exact r.inj r'
end
abbrev Cx.wish (X:Cx) (E:Value->Shared->Prop):Cx:={ X with xe:=E }
abbrev Cx.nox (X:Cx):Cx:=X.wish fun _ _=>False
def Cx.Ok.wish {X:Cx} (ok:X.Ok) (E:Value->Shared->Prop):(X.wish E).Ok:=
 ⟨ok.mod,ok.kind,ok.glob,ok.blt,ok.above,ok.inj,ok.has,ok.cab,ok.hd,ok.frames,ok.stk,ok.exf,ok.bs,ok.bsz,ok.noex,ok.exfs,ok.funs,ok.frf⟩
def Cx.Ok.unwish {X:Cx}{E:Value->Shared->Prop} (ok:(X.wish E).Ok):X.Ok:=
 ⟨ok.mod,ok.kind,ok.glob,ok.blt,ok.above,ok.inj,ok.has,ok.cab,ok.hd,ok.frames,ok.stk,ok.exf,ok.bs,ok.bsz,ok.noex,ok.exfs,ok.funs,ok.frf⟩
section
variable {X:Cx}{pins:List (Addr×Obj)}{σ:St}{H:Hp}{s:Shared}{E:Value->Shared->Prop}
def Inv.wish (I:Inv X pins σ H s) (E:Value->Shared->Prop):Inv (X.wish E) pins σ H s:=⟨I.ok.wish E,I.os,I.bare,I.base,I.loc,I.cell,I.free,I.freeC,I.pin,I.hok,I.len⟩
def Inv.unwish (I:Inv (X.wish E) pins σ H s):Inv X pins σ H s:=⟨I.ok.unwish,I.os,I.bare,I.base,I.loc,I.cell,I.free,I.freeC,I.pin,I.hok,I.len⟩
def SP.unwish {D:Ends}{f:Flow}{s':Shared} (h:SP (X.wish E) pins D f s'):SP X pins D f s':=by
 cases f with
 | next=>obtain⟨σ',H',I,q⟩:=h;exact⟨σ',H',I.unwish,q⟩
 | brk=>obtain⟨σ',H',I,q⟩:=h;exact⟨σ',H',I.unwish,q⟩
 | cont=>obtain⟨σ',H',I,q⟩:=h;exact⟨σ',H',I.unwish,q⟩
 | ret u=>obtain⟨v,σ',H',I,r,q⟩:=h;exact⟨v,σ',H',I.unwish,r,q⟩
def PSs.nox {st:List Stmt}{t:TS} (h:PSs X.nox st t):PSs X st t:=fun pins s σ H D I hw=>
 YN (h pins s σ H D (I.wish _) hw) (fun _ _ q=>q.unwish) fun _ _ z=>False.elim z
end
section
variable {X:Cx}{st:Stmt}{rest:List Stmt}{t u:TS}{e:Expr}{te:TE}{pos:Pos}
def Su:TS:=fun D σ H=>D.nx σ H
def tSeq (t u:TS):TS:=fun D σ H=>t { D with nx:=u D } σ H
def Vq:PSs X [] Su:=fun _ _ σ H _ I h=>wpAny_execs_nil ⟨σ,H,I,h⟩
def Vg (h1:PS X st t) (h2:PSs X rest u):PSs X (st::rest) (tSeq t u):=by
 intro pins s σ H D I h;refine wpAny_execs_cons (thn (h1 pins s σ H { D with nx:=u D } I h) fun f s1 q=>?_)
 cases f with
 | next=>
  obtain⟨σ',H',I',q⟩:=q;exact h2 pins s1 σ' H' D I' q
 | ret v=>exact q
 | brk=>exact q
 | cont=>exact q
def Vf (h1:PS X st t):PSs X [st] t:=by
 intro pins s σ H D I h;refine wpAny_execs_cons (thn (h1 pins s σ H D I h) fun f s1 q=>?_);cases f with
 | next=>exact wpAny_execs_nil q
 | ret v=>exact q
 | brk=>exact q
 | cont=>exact q
def Inv.quiet {pins:List (Addr×Obj)}{σ:St}{H:Hp}{s:Shared} (I:Inv X pins σ H s):interactive X.env=false:=by simp[interactive,I.ok.kind]
def Xo (te:TE):TS:=fun D σ H=>te σ H fun _ H1=>D.nx σ H1
def VO (he:PE X e te) (hs:swapsWith e none pos.line X.env=pure false:=by rfl):PS X (.Expr e pos) (Xo te):=by
 intro pins s σ H D I h;exact wpAny_Expr_any (thn (he pins s σ H _ I h) fun v s1 ⟨x,H1,I1,r1,q1⟩=>⟨σ,H1,I1,q1⟩) I.quiet hs
def tRet (te:TE):TS:=fun D σ H=>te σ H D.rt
def Vj (he:PE X e te):PS X (.Return (some e) pos) (tRet te):=by
 intro pins s σ H D I h;exact wpAny_Return_some (thn (he pins s σ H _ I h) fun v s1 ⟨x,H1,I1,r1,q1⟩=>⟨x,σ,H1,I1,r1,q1⟩)
def tIfS (c:TT) (t u:TS):TS:=fun D σ H=>c σ H fun b H1=>if b=true then t D σ H1 else u D σ H1
def Vo {c:Expr}{a b:List Stmt}{tc:TT} (hc:PT X c tc) (ha:PSs X a t) (hb:PSs X b u):PS X (.If c a b pos) (tIfS tc t u):=by
 intro pins s σ H D I h;refine wpAny_If (thn (hc pins s σ H _ I h) fun d s1 ⟨H1,I1,q1⟩=>?_);cases d with
 | true=>exact ha pins s1 σ H1 D I1 q1
 | false=>exact hb pins s1 σ H1 D I1 q1
end
abbrev TG:=V->St->Hp->(St->Hp->Prop)->Prop
abbrev TGs:=List V->St->Hp->(St->Hp->Prop)->Prop
def PG (X:Cx) (target:Expr) (t:TG):Prop:=
 ∀(pins:List (Addr×Obj)) (s:Shared) (σ:St) (H:Hp) (v:V) (u:Value) (Q:St->Hp->Prop),Inv X pins σ H s->RelV v u->t v σ H Q->
  wpAny (model X.prog X.w) X.A (assign target X.env u) (fun _ s'=>∃σ' H',Inv X pins σ' H' s'/\Q σ' H') X.xe s
def PGs (X:Cx) (ts:List Expr) (t:TGs):Prop:=
 ∀(pins:List (Addr×Obj)) (s:Shared) (σ:St) (H:Hp) (vs:List V) (us:List Value) (Q:St->Hp->Prop),Inv X pins σ H s->Vals vs us->t vs σ H Q->
  wpAny (model X.prog X.w) X.A (assignInOrder ((assignEach ts X.env).map (·.2)) us) (fun _ s'=>∃σ' H',Inv X pins σ' H' s'/\Q σ' H') X.xe s
abbrev TSet:=V->V->V->Hp->(Hp->Prop)->Prop
def PSet (X:Cx) (t:TSet):Prop:=
 ∀(pins:List (Addr×Obj)) (s:Shared) (σ:St) (H:Hp) (o i v:V) (ov iv u:Value) (Q:Hp->Prop),Inv X pins σ H s->RelV o ov->RelV i iv->RelV v u->t o i v H Q->
  wpAny (model X.prog X.w) X.A (setItem ov iv u) (fun _ s'=>∃H',Inv X pins σ H' s'/\Q H') X.xe s
section
variable {X:Cx}{pos:Pos}
def Xp (i:Nat):TG:=fun v σ H Q=>Q (σ.set i (some v)) H
def A6 {i:Nat}{x:Str} (hN:X.N.Nodup) (hi:X.N[i]?=some x) (hx:Loc X.env.scope x) (hf:X.fn x=true\/X.env.scope.names.lookup x=some .local:=by first|exact .inl rfl|exact .inr rfl|assumption):PG X (.Name x pos) (Xp i):=by
 intro pins s σ H v u Q I r h;exact wpAny_assign_Name (PM I hN hi hx r (fun s' I'=>⟨_,H,I',h⟩) hf)
def gNil:TGs:=fun vs σ H Q=>vs=[]/\Q σ H
def Fw (t:TG) (u:TGs):TGs:=fun vs σ H Q=>∃v r,vs=v::r/\t v σ H fun σ' H'=>u r σ' H' Q
def G8:PGs X [] gNil:=by
 intro pins s σ H vs us Q I r h;obtain⟨e,h⟩:=h;subst e;cases r
 exact assignInOrder_nil ⟨σ,H,I,h⟩
def BG {e:Expr}{es:List Expr}{t:TG}{u:TGs} (h1:PG X e t) (h2:PGs X es u)
  (hs:(assignEach (e::es) X.env).map (·.2)=assign e X.env::(assignEach es X.env).map (·.2):=by rfl):PGs X (e::es) (Fw t u):=by
 intro pins s σ H vs us Q I r h;obtain⟨v,vr,e1,h⟩:=h;subst e1;cases r with
 | cons r rr=>
  rw[hs];refine assignInOrder_cons (thn (h1 pins s σ H _ _ _ I r h) fun _ s1 ⟨σ1,H1,I1,q1⟩=>?_);exact h2 pins s1 σ1 H1 _ _ Q I1 rr q1
def gTup (K:Za) (n:Nat) (t:TGs):TG:=fun v σ H Q=>∃a xs,v=.ref a/\SqT K H a xs/\xs.length=n/\t xs σ H Q
def A0 {es:List Expr}{k:Nat}{t:TGs}{n:Nat} (hc:X.calm=true) (h:PGs X es t)
  (hn:(assignEach es X.env).length=n:=by rfl) (hst:(assignEach es X.env).findIdx? (·.1)=none:=by rfl):PG X (.Tuple es k pos) (gTup X.K n t):=by
 intro pins s σ H v u Q I r hw;obtain⟨a,xs,e1,hq,hl,hw⟩:=hw;subst e1;cases r
 obtain⟨its,rv,ht,hz⟩:=I.tuple hq;refine assign_Tuple_tuple (I.ok.hd hc) ht (by simp[hn,←hl,rv.length]) hst fun h' hx=>?_;have I1:Inv X pins σ H { s with heap:=h' }:=I.kept (t':=s.toks) fun b o e=>hx b o (YA (Yf e)) e
 exact h pins _ σ H xs _ Q I1 (by simpa using rv) hw
def gSub (to ti:TE) (t:TSet):TG:=fun v σ H Q=>to σ H fun o H1=>ti σ H1 fun i H2=>t o i v H2 fun H3=>Q σ H3
def Dx {o i:Expr}{to ti:TE}{t:TSet} (ho:PE X o to) (hi:PE X i ti) (hs:PSet X t)
  (ha:∀v,assign (.Subscript o i pos) X.env v=(do
   let ov ←holding [v] (eval o X.env)
   let iv ←holding [v,ov] (eval i X.env)
   standAt pos
   holding [v,ov,iv] (setItem ov iv v)
   release [v,ov,iv] []):=by intro _;rfl):PG X (.Subscript o i pos) (gSub to ti t):=by
 intro pins s σ H v u Q I r h;rw[ha];refine Yp (wpAny_holding (thn (ho pins s σ H _ I h) fun ov s1 ⟨x,H1,I1,r1,q1⟩=>?_));refine Yp (wpAny_holding (thn (hi pins s1 σ H1 _ I1 q1) fun iv s2 ⟨y,H2,I2,r2,q2⟩=>?_));refine Yp (wpAny_standAt (Yp (wpAny_holding (thn (hs pins s2 σ H2 x y v ov iv u _ I2 r1 r2 r q2) fun _ s3 ⟨H3,I3,q3⟩=>?_))));exact wpAny_release ⟨σ,H3,I3,q3⟩
def tAsg (te:TE) (g:TG):TS:=fun D σ H=>te σ H fun x H1=>g x σ H1 D.nx
def Eu {tg e:Expr}{te:TE}{g:TG} (he:PE X e te) (hg:PG X tg g) (hs:swapsWithSole [tg] e pos.line X.env=pure false:=by rfl) (hw:swappedStores [tg] e X.env=pure none:=by rfl)
  (h1:(assignEach [tg] X.env).map (·.2)=[assign tg X.env]:=by rfl):PS X (.Assign [tg] e pos) (tAsg te g):=by
 intro pins s σ H D I h;refine wpAny_Assign_stores (thn (he pins s σ H _ I h) fun v s1 ⟨x,H1,I1,r1,q1⟩=>?_) hs hw;rw[h1];exact thn (hg pins s1 σ H1 x v _ I1 r1 q1) fun _ s2 q=>q
def GO {i:Nat}{x:Str}{e:Expr}{te:TE}{pos':Pos} (hN:X.N.Nodup) (hi:X.N[i]?=some x) (hx:Loc X.env.scope x) (he:PE X e te) (hs:swapsWith e (some (.Name x pos')) pos.line X.env=pure false:=by rfl) (hf:X.fn x=true\/X.env.scope.names.lookup x=some .local:=by first|exact .inl rfl|exact .inr rfl|assumption) :
  PS X (.Assign [.Name x pos'] e pos) (tAsg te (Xp i)):=by
 intro pins s σ H D I h;refine wpAny_Assign_Name (thn (he pins s σ H _ I h) fun v s1 ⟨y,H1,I1,r1,q1⟩=>?_) hs;exact PM I1 hN hi hx r1 (fun s2 I2=>⟨_,H1,I2,q1⟩) hf
end
structure It where
 go:Nat->Hp->Prop
 yld:Nat->Hp->V->Hp->Prop
 stop:Nat->Hp->Prop
def FpOk (X:Cx) (pins:List (Addr×Obj)) (H:Hp) (b:Addr):Prop:=
 H b=none/\b≠X.env.locals/\b∉X.fs/\(b∈X.ex\/X.s₀.heap.objs.size<=b)/\(∀x c,X.env.cells.lookup x=some c->c≠b)/\∀p∈X.pn++pins,p.1≠b
def Inv.fpOk {X:Cx}{pins:List (Addr×Obj)}{σ:St}{H H':Hp}{s:Shared}{b:Addr} (I:Inv X pins σ H s) (hb:s.heap.objs.size<=b) (hn:H' b=none):FpOk X pins H' b:=by
 refine⟨hn,Nat.ne_of_gt (Yr I.lt hb),I.nofs hb,.inr (Yi I.sz hb),fun x c e z=>?_,fun p hp z=>?_⟩
 ·obtain⟨v,q⟩:=I.cell x c e;exact absurd (Yr q.lt (by rw[z];exact hb)) (YM _)
 ·exact absurd (Yr (Yf (I.pin p hp).1) (by rw[z];exact hb)) (YM _)
structure Turn (P:Program) (w:World) (K:Za) (tg:Expr) (J:It) (fp:List Addr) (it:Addr) (tn:Nat->Heap->Prop):Prop where
 mem:it∈fp
 obj:∀i h,tn i h->∀b∈fp,∃o,h.get? b=some o/\∀v,o.data≠.cell v
 keep:∀i h h',tn i h->(∀b∈fp,∀o,h.get? b=some o->h'.get? b=some o)->tn i h'
 item:∀(X:Cx),X.prog=P->X.w=w->X.K=K->X.calm=true->∀(i:Nat) (pins:List (Addr×Obj)) (s:Shared) (σ:St) (H:Hp) (E:Value->Shared->Prop),Inv X pins σ H s->(∀b∈fp,FpOk X pins H b)->tn i s.heap->J.go i H->
  wpAny (model P w) X.A (pyNext (.ref it)) (fun r s1=>∃u,r=some u/\
   wpAny (model P w) X.A (letOwnedTupleGo tg (.ref it) u) (fun _ s2=>∃x H',Inv X pins σ H' s2/\RelV x u/\J.yld i H x H'/\tn (i+1) s2.heap/\∀b∈fp,H' b=none) E s1) E s
 done:∀(X:Cx),X.prog=P->X.w=w->X.K=K->X.calm=true->∀(i:Nat) (pins:List (Addr×Obj)) (s:Shared) (σ:St) (H:Hp) (E:Value->Shared->Prop),Inv X pins σ H s->(∀b∈fp,FpOk X pins H b)->tn i s.heap->J.stop i H->
  wpAny (model P w) X.A (pyNext (.ref it)) (fun r s1=>r=none/\Inv X pins σ H s1) E s
 self:∀(A:Around) (i:Nat) (s:Shared) (Q:Value->Shared->Prop) (E:Value->Shared->Prop),tn i s.heap->Q (.ref it) s->wpAny (model P w) A (pyIter (.ref it)) Q E s
abbrev TI:=St->Hp->(It->Hp->Prop)->Prop
def PIE (X:Cx) (pins:List (Addr×Obj)) (σ:St) (tg:Expr) (R:It->Hp->Prop) (itv:Value) (s2:Shared):Prop:=
 ∃(it:Addr) (fp:List Addr) (tn:Nat->Heap->Prop) (J:It) (H':Hp),itv=.ref it/\Inv X pins σ H' s2/\Turn X.prog X.w X.K tg J fp it tn/\tn 0 s2.heap/\(∀b∈fp,FpOk X pins H' b)/\R J H'
def PI (X:Cx) (tg iter:Expr) (wi:TI):Prop:=
 ∀(pins:List (Addr×Obj)) (s:Shared) (σ:St) (H:Hp) (R:It->Hp->Prop),Inv X pins σ H s->wi σ H R->
  wpAny (model X.prog X.w) X.A (eval iter X.env) (fun v s1=>wpAny (model X.prog X.w) X.A (pyIter v) (PIE X pins σ tg R) X.xe s1) X.xe s
def F2 {M : Model} {A : Around} {E : Value → Shared → Prop} {s : Shared} {tg : Expr} {it : Addr} {u : Value} {o : Obj} {n : String} {vs : Array Value} {Q : Unit → Shared → Prop} (ho : s.heap.get? it = some o) (hc : o.cls = .type n) (hd : o.data = .fields vs)
    (hn : ["enumerate", "zip", "dict_itemiterator", "dict_reverseitemiterator", "odict_iterator", "itertools.zip_longest", "itertools.pairwise"].contains n = false) (hQ : Q () s) : wpAny M A (letOwnedTupleGo tg (.ref it) u) Q E s := by
  unfold letOwnedTupleGo
  cases tg <;> first
    | exact YC hQ
    | (cases u <;> first
        | exact YC hQ
        | (refine Yp (wpAny_load ho ?_)
           rw [hc, hd]
           show wpAny M A (if (["enumerate", "zip", "dict_itemiterator", "dict_reverseitemiterator", "odict_iterator", "itertools.zip_longest", "itertools.pairwise"].contains n && vs[0]? == some (rawInt _)) = true then _ else _) Q E s
           rw [ZU (by intro h; rw [hn, Bool.false_and] at h; cases h)]
           exact YC hQ))
def Itl (K:Za) (a:Addr):It:=
 ⟨fun i H=>∃xs x,SqL K H a xs/\xs[i]?=some x,fun i H x H'=>H'=H/\∀xs,SqL K H a xs->xs[i]?=some x,fun i H=>∃xs,SqL K H a xs/\xs.length<=i⟩
def Itr (lo:Int) (n:Nat):It:=⟨fun i _=>i<n,fun i H x H'=>H'=H/\x=.int (lo+i),fun i _=>n<=i⟩
def AB {P:Program}{w:World}{K:Za}{tg:Expr} (a it:Addr):Turn P w K tg (Itl K a) [it] it (fun i h=>h.IsListIter it a i) where
 mem:=by simp
 obj:=fun i h st b hb=>by
  have e:b=it:=by simpa using hb
  subst e;obtain⟨o,e,c,d⟩:=st;exact⟨o,e,fun v z=>by rw[d] at z;cases z⟩
 keep:=fun i h h' st k=>st.at fun o e=>k it (by simp) o e
 item:=by
  intro X hP hw hK hc i pins s σ H E I hf st hg;subst hP hw hK;obtain⟨xs,x,hq,hx⟩:=hg;obtain⟨its,rv,p,hz⟩:=I.list hq;obtain⟨u,hu,ru⟩:=rv.get hx;obtain⟨f0,f1,f2,f3,f4,f5⟩:=hf it (by simp);refine wpAny_pyNext_list_item st p.isList (x:=u) (by simpa using hu) fun h' st' sb=>?_;have I1:Inv X pins σ H { s with heap:=h' }:=I.turned (t':=s.toks) (fun b o hb e=>(sb.2 b hb).trans e) f0 f1 f3 f4 f5
  obtain⟨o,e,c,d⟩:=id st';exact⟨u,rfl,F2 (s:={ s with heap:=h' }) e c d (by decide) ⟨x,H,I1,ru,⟨rfl,fun ys hy=>by rw[I.list_inj hy hq];exact hx⟩,st',fun b hb=>(hf b hb).1⟩⟩
 done:=by
  intro X hP hw hK hc i pins s σ H E I hf st hg;subst hP hw hK;obtain⟨xs,hq,hx⟩:=hg;obtain⟨its,rv,p,hz⟩:=I.list hq;obtain⟨f0,f1,f2,f3,f4,f5⟩:=hf it (by simp);have hl:=rv.length;exact wpAny_pyNext_list_end (I.ok.hd hc) st p.isList (by simp;omega) fun h' eb=>⟨rfl,I.turned (t':=s.toks) (fun b o hb e=>eb b o hb e) f0 f1 f3 f4 f5⟩
 self:=fun _ _ _ _ _ st h=>wpAny_pyIter_listiter st h
def An {P:Program}{w:World}{K:Za}{tg:Expr} (it:Addr) (lo:Int) (n:Nat):Turn P w K tg (Itr lo n) [it] it (fun i h=>IsRangeIter h it (lo+(i:Nat)*1) ((n:Int)-(i:Nat)) 1) where
 mem:=by simp
 obj:=fun i h st b hb=>by
  have e:b=it:=by simpa using hb
  subst e
  exact⟨_,st,fun v z=>by
   have z':Data.fields _=Data.cell v:=z;cases z'⟩
 keep:=fun i h h' st k=>k it (by simp) _ st
 item:=by
  intro X hP hw hK hc i pins s σ H E I hf st hg;subst hP hw hK;obtain⟨f0,f1,f2,f3,f4,f5⟩:=hf it (by simp);have W:=Walks.range (prog:=X.prog) (w:=X.w) (I.ok.hd hc) it lo 1 n;refine W.item i s _ _ hg st fun v h' tk hv st' kk=>?_;obtain⟨t,rfl⟩:=hv;have I1:Inv X pins σ H { s with heap:=h',toks:=tk }:=I.turned (fun b o hb e=>kk b o (by simpa using hb) e) f0 f1 f3 f4 f5
  refine⟨_,rfl,F2 (s:={ s with heap:=h',toks:=tk }) (n:="range_iterator") st' rfl rfl (by decide) ⟨.int (lo+i),H,I1,⟨t,?_⟩,⟨rfl,rfl⟩,st',fun b hb=>(hf b hb).1⟩⟩
  rw[Int.mul_one]
 done:=by
  intro X hP hw hK hc i pins s σ H E I hf st hg;subst hP hw hK;obtain⟨f0,f1,f2,f3,f4,f5⟩:=hf it (by simp);exact wpAny_pyNext_range_end (I.ok.hd hc) st (by have:n<=i:=hg;omega) fun h' eb=>⟨rfl,I.turned (t':=s.toks) (fun b o hb e=>eb b o hb e) f0 f1 f3 f4 f5⟩
 self:=fun _ _ _ _ _ st h=>wpAny_pyIter_rangeiter st h
section
variable {X:Cx}{tg:Expr}
def X5 (K:Za) (tl:TE):TI:=fun σ H R=>tl σ H fun x H1=>∃a,x=.ref a/\(∃xs,SqL K H1 a xs)/\R (Itl K a) H1
def Hz {l:Expr}{tl:TE} (hl:PE X l tl):PI X tg l (X5 X.K tl):=by
 intro pins s σ H R I h;refine thn (hl pins s σ H _ I h) fun v s1 ⟨x,H1,I1,r1,q1⟩=>?_;obtain⟨a,e,⟨xs,hq⟩,q⟩:=q1;subst e;cases r1
 obtain⟨its,rv,p,hz⟩:=I1.list hq;refine wpAny_pyIter_list p.isList ?_;refine⟨s1.heap.objs.size,[s1.heap.objs.size],_,_,H1,rfl,I1.kept (t':=s1.toks) fun b o e=>Yj _ e,AB a _,⟨_,Y2 _ rfl,rfl,rfl⟩,fun b hb=>?_,q⟩;have e:b=s1.heap.objs.size:=by simpa using hb
 subst e;exact I1.fpOk (Ye _) (I1.hok.fresh (Ye _))
def Sy {pins:List (Addr×Obj)}{σ:St}{H:Hp}{s:Shared}{R:It->Hp->Prop}{E:Value->Shared->Prop}{lo hi:Int}{t u v:Tok}{tk:Nat} (I:Inv X pins σ H s) (h1:-(2 ^ 62)<=lo) (h2:lo<2 ^ 62) (h3:-(2 ^ 62)<=hi) (h4:hi<2 ^ 62)
  (q:R (Itr lo (hi-lo).toNat) H):wpAny (model X.prog X.w) X.A (pyIter (.ref s.heap.objs.size)) (PIE X pins σ tg R) E { s with heap:=s.heap.push { cls:=.type "range",data:=.fields #[.int lo t,.int hi u,.int 1 v] },toks:=tk }:=by
 refine wpAny_pyIter_range (IsRange.new ..) (small_one h1 h2 h3 h4) ?_;have I1:Inv X pins σ H { s with heap:=s.heap.push { cls:=.type "range",data:=.fields #[.int lo t,.int hi u,.int 1 v] },toks:=tk }:=I.kept fun b o e=>Yj _ e
 refine⟨(s.heap.push { cls:=.type "range",data:=.fields #[.int lo t,.int hi u,.int 1 v] }).objs.size,[(s.heap.push { cls:=.type "range",data:=.fields #[.int lo t,.int hi u,.int 1 v] }).objs.size],_,_,H,rfl,
  I1.kept (t':=tk) fun b o e=>Yj _ e,An _ lo (hi-lo).toNat,?_,fun b hb=>?_,q⟩
 ·have e1:lo+((0:Nat):Int)*1=lo:=by simp
  have e2:(((hi-lo).toNat:Nat):Int)-((0:Nat):Int)=Builtin.Range.rangeSize lo hi 1:=by rw[rangeSize_one];split<;>omega
  show IsRangeIter _ _ (lo+((0:Nat):Int)*1) ((((hi-lo).toNat:Nat):Int)-((0:Nat):Int)) 1;rw[e1,e2];exact Y2 _ rfl
 ·have e:b=(s.heap.push { cls:=.type "range",data:=.fields #[.int lo t,.int hi u,.int 1 v] }).objs.size:=by simpa using hb
  subst e;exact I1.fpOk (Ye _) (I1.hok.fresh (Ye _))
def Fh (ta:TA):TI:=fun σ H R=>ta σ H fun vs H1=>∃j:Int,vs=[.int j]/\-(2 ^ 62)<=j/\j<2 ^ 62/\R (Itr 0 j.toNat) H1
def BN (ta:TA):TI:=fun σ H R=>ta σ H fun vs H1=>∃i j:Int,vs=[.int i,.int j]/\(-(2 ^ 62)<=i/\i<2 ^ 62/\-(2 ^ 62)<=j/\j<2 ^ 62)/\R (Itr i (j-i).toNat) H1
def UL {a:Expr}{ta:TA}{p pos:Pos} (hg:Gl X "range") (hm:X.mg "range"=none) (ha:PA X [a] ta) (hs:starEach [a] X.env=[(false,eval a X.env)]:=by rfl):PI X tg (.Call (.Name "range" p) [a] [] pos) (Fh ta):=by
 intro pins s σ H R I h;refine Call_ (X7 I hg hm boot_range (Wi (thn (ha pos pins s σ H _ I h) fun us s1 ⟨vs,H1,I1,r1,q1⟩=>?_) hs rfl));obtain⟨j,e,q1,q2,q⟩:=q1;subst e;cases r1 with
 | cons r rr=>
  cases rr
  obtain⟨t,rfl⟩:=r;exact call_range_1 (Sy I1 (by omega) (by omega) q1 q2 (by simpa using q))
def SO {a b:Expr}{ta:TA}{p pos:Pos} (hg:Gl X "range") (hm:X.mg "range"=none) (ha:PA X [a,b] ta) (hs:starEach [a,b] X.env=[(false,eval a X.env),(false,eval b X.env)]:=by rfl) (hs2:starEach [b] X.env=[(false,eval b X.env)]:=by rfl) :
  PI X tg (.Call (.Name "range" p) [a,b] [] pos) (BN ta):=by
 intro pins s σ H R I h;refine Call_ (X7 I hg hm boot_range (Wi (thn (ha pos pins s σ H _ I h) fun us s1 ⟨vs,H1,I1,r1,q1⟩=>?_) (by rw[hs,hs2]) (by rw[hs2];rfl)));obtain⟨i,j,e,⟨q1,q2,q3,q4⟩,q⟩:=q1;subst e;cases r1 with
 | cons r rr=>
  cases rr with
  | cons r' rr=>
   cases rr
   obtain⟨t,rfl⟩:=r;obtain⟨t',rfl⟩:=r';exact call_range_2 (Sy I1 q1 q2 q3 q4 q)
def tFor (wi:TI) (g:TG) (tb:TS):TS:=fun D σ H=>wi σ H fun J H1=>∃W:Nat->Nat->St->Hp->Prop,(∃m,W 0 m σ H1)/\∀i m σ H,W i m σ H->
 (J.stop i H/\D.nx σ H)\/(J.go i H/\∃N:St->Hp->Prop,(∀σ' H',N σ' H'->∃m',m'<m/\W (i+1) m' σ' H')/\∀x H',J.yld i H x H'->g x σ H' fun σ2 H2=>tb { D with nx:=N,ct:=N,bk:=D.nx } σ2 H2)
def XC (fp:List Addr) (h:Heap):List (Addr×Obj):=fp.filterMap fun b=>(h.get? b).map fun o=>(b,o)
def Kl {fp:List Addr}{h:Heap}{b:Addr}{o:Obj} (hb:b∈fp) (e:h.get? b=some o):(b,o)∈XC fp h:=W7.mpr ⟨b,hb,by rw[e];rfl⟩
def GQ {fp:List Addr}{h:Heap}{p:Addr×Obj} (hp:p∈XC fp h):p.1∈fp/\h.get? p.1=some p.2:=by
 obtain⟨b,hb,e⟩:=W7.mp hp;cases q:h.get? b with
 | none=>rw[q] at e;cases e
 | some o=>
  rw[q] at e;have e':(b,o)=p:=Ya e;subst e';exact⟨hb,q⟩
def Inv.pinned {pins:List (Addr×Obj)}{σ:St}{H:Hp}{s:Shared}{fp:List Addr} (I:Inv X pins σ H s) (hf:∀b∈fp,FpOk X pins H b) (ho:∀b∈fp,∃o,s.heap.get? b=some o/\∀v,o.data≠.cell v):Inv X (pins++XC fp s.heap) σ H s:=
 I.pins_of fun p hp=>(Y7.mp hp).elim (fun z=>I.pin p (Y1 _ z)) fun z=>by
  obtain⟨hb,e⟩:=GQ z;obtain⟨f0,f1,f2,_⟩:=hf p.1 hb;obtain⟨o,e',d⟩:=ho p.1 hb;rw[e] at e';cases e';exact⟨e,f0,f1,f2,d⟩
def Inv.unpinned {pins pl:List (Addr×Obj)}{σ:St}{H:Hp}{s:Shared} (I:Inv X (pins++pl) σ H s):Inv X pins σ H s:=I.pins_of fun p hp=>I.pin p (Y1 _ (YO _ hp))
def JY {iter:Expr}{body:List Stmt}{wi:TI}{g:TG}{tb:TS}{pos:Pos} (hp:PassesOwn (model X.prog X.w) X.A X.env X.xe) (hc:X.calm=true) (hi:PI X tg iter wi) (hg:PG X tg g) (hb:PSs X body tb)
  (hs:∀x,foldedSetIterable iter X.env x=pure x:=by intro _;rfl):PS X (.For tg iter body [] pos) (tFor wi g tb):=by
 intro pins s σ H D I h;refine wpAny_For (thn (hi pins s σ H _ I h) fun v s1 h1=>thn h1 fun itv s2 h2=>?_) hs;obtain⟨it,fp,tn,J,H2,e,I2,T,st2,f2,W,⟨m0,w0⟩,turn⟩:=h2;subst e;have stat:∀{H':Hp},(∀b∈fp,H' b=none)->∀b∈fp,FpOk X pins H' b:=fun hn b hb=>⟨hn b hb,(f2 b hb).2⟩;refine codeAny_forLoop_any (fun n s'=>∃i σ' H',Inv X pins σ' H' s'/\tn i s'.heap/\(∀b∈fp,H' b=none)/\W i n σ' H') ?_ m0 ⟨0,σ,H2,I2,st2,fun b hb=>(f2 b hb).1,w0⟩;rintro n s3 ⟨i,σ3,H3,I3,st3,fr3,w3⟩;rcases turn i n σ3 H3 w3 with⟨stop,qn⟩|⟨go,N,hN,step⟩
 ·refine Wo hp (thn (T.done X rfl rfl rfl hc i pins s3 σ3 H3 X.xe I3 (stat fr3) st3 stop) fun r s4 ⟨hr,I4⟩=>?_);subst hr;exact wpAny_execs_nil ⟨σ3,H3,I4,qn⟩
 ·refine Wo hp (thn (T.item X rfl rfl rfl hc i pins s3 σ3 H3 X.xe I3 (stat fr3) st3 go) fun r s4 ⟨u,hr,h4⟩=>?_);subst hr;refine Wo hp (thn h4 fun _ s5 ⟨x,H5,I5,r5,y5,st5,fr5⟩=>?_);have I5':=I5.pinned (stat fr5) (T.obj _ _ st5);refine Wo hp (thn (hg _ s5 σ3 H5 x u _ I5' r5 (step x H5 y5)) fun _ s6 ⟨σ6,H6,I6,q6⟩=>?_);refine Wo hp (thn (hb _ s6 σ6 H6 _ I6 q6) fun f s7 q7=>?_)
  have again:∀{σ7:St} {H7:Hp},Inv X (pins++XC fp s5.heap) σ7 H7 s7->N σ7 H7->∃m,m<n/\∃i σ' H',Inv X pins σ' H' s7/\tn i s7.heap/\(∀b∈fp,H' b=none)/\W i m σ' H':=fun {σ7 H7} I7 n7=>by
   obtain⟨m',hm,w7⟩:=hN σ7 H7 n7;refine⟨m',hm,i+1,σ7,H7,I7.unpinned,T.keep _ _ _ st5 fun b hb o e=>(I7.pin (b,o) (Y1 _ (Y1 _ (Kl hb e)))).1,fun b hb=>?_,w7⟩;obtain⟨o,e,d⟩:=T.obj _ _ st5 b hb;exact(I7.pin (b,o) (Y1 _ (Y1 _ (Kl hb e)))).2.1
  cases f with
  | next=>obtain⟨σ7,H7,I7,n7⟩:=q7;exact again I7 n7
  | cont=>obtain⟨σ7,H7,I7,n7⟩:=q7;exact again I7 n7
  | brk=>obtain⟨σ7,H7,I7,q7⟩:=q7;exact⟨σ7,H7,I7.unpinned,q7⟩
  | ret v=>obtain⟨x7,σ7,H7,I7,r7,q7⟩:=q7;exact⟨x7,σ7,H7,I7.unpinned,r7,q7⟩
end
abbrev R2:=V->V->Hp->VK->Prop
def OpR (X:Cx) (f:Value->Value->Sem Value) (r:R2):Prop:=
 ∀(pins:List (Addr×Obj)) (s:Shared) (σ:St) (H:Hp) (x y:V) (v u:Value) (Q:VK),Inv X pins σ H s->RelV x v->RelV y u->r x y H Q->
  wpAny (model X.prog X.w) X.A (f v u) (EP X pins σ Q) X.xe s
def UnR (X:Cx) (f:Value->Sem Value) (r:V->Hp->VK->Prop):Prop:=
 ∀(pins:List (Addr×Obj)) (s:Shared) (σ:St) (H:Hp) (x:V) (v:Value) (Q:VK),Inv X pins σ H s->RelV x v->r x H Q->
  wpAny (model X.prog X.w) X.A (f v) (EP X pins σ Q) X.xe s
def J7 (X:Cx) (f:Value) (r:List V->Hp->VK->Prop):Prop:=
 ∀(pins:List (Addr×Obj)) (s:Shared) (σ:St) (H:Hp) (xs:List V) (us:List Value) (Q:VK),Inv X pins σ H s->Vals xs us->r xs H Q->
  wpAny (model X.prog X.w) X.A (call f us) (EP X pins σ Q) X.xe s
def TruR (X:Cx) (r:V->Hp->(Bool->Hp->Prop)->Prop):Prop:=
 ∀(pins:List (Addr×Obj)) (s:Shared) (σ:St) (H:Hp) (x:V) (v:Value) (Q:Bool->Hp->Prop),Inv X pins σ H s->RelV x v->r x H Q->
  wpAny (model X.prog X.w) X.A (truthy v) (TP X pins σ Q) X.xe s
def tOp (r:R2) (ta tb:TE):TE:=fun σ H Q=>ta σ H fun x H1=>tb σ H1 fun y H2=>r x y H2 Q
def tUn (r:V->Hp->VK->Prop) (ta:TE):TE:=fun σ H Q=>ta σ H fun x H1=>r x H1 Q
def rI (C:Int->Int->Prop) (g:Int->Int->V):R2:=fun x y H Q=>∃i j,x=.int i/\y=.int j/\C i j/\Q (g i j) H
def rI0 (g:Int->Int->V):R2:=fun x y H Q=>∃i j,x=.int i/\y=.int j/\Q (g i j) H
def rU (g:Int->V):V->Hp->VK->Prop:=fun x H Q=>∃i,x=.int i/\Q (g i) H
section
variable {X:Cx}{a b c:Expr}{ta tb tc:TE}{pos:Pos}
def binT (ha:PE X a ta) (hb:PE X b tb) {pins:List (Addr×Obj)}{s:Shared}{σ:St}{H:Hp}{R:V->V->Hp->Prop} (I:Inv X pins σ H s)
  (h:ta σ H fun x H1=>tb σ H1 fun y H2=>R x y H2) {Q:Value->Shared->Prop} {f:Value->Value->Sem Value}
  (hf:∀v u s2 x y H2,Inv X pins σ H2 s2->RelV x v->RelV y u->R x y H2->wpAny (model X.prog X.w) X.A (f v u) Q X.xe s2) :
  wpAny (model X.prog X.w) X.A (eval a X.env) (fun v s₁=>wpAny (model X.prog X.w) X.A (eval b X.env) (fun u s₂=>wpAny (model X.prog X.w) X.A (f v u) Q X.xe s₂) X.xe s₁) X.xe s:=by
 refine thn (ha pins s σ H _ I h) fun v s1 ⟨x,H1,I1,r1,q1⟩=>?_;refine thn (hb pins s1 σ H1 _ I1 q1) fun u s2 ⟨y,H2,I2,r2,q2⟩=>?_;exact hf v u s2 x y H2 I2 r1 r2 q2
def Vi {op:Operator}{r:R2} (ho:OpR X (binaryOp op) r) (ha:PE X a ta) (hb:PE X b tb):PE X (.BinOp a op b pos) (tOp r ta tb):=by
 intro pins s σ H Q I h;exact wpAny_BinOp (binT ha hb I h fun v u s2 x y H2 I2 rx ry q=>ho pins s2 σ H2 x y v u Q I2 rx ry q)
def JP {op:UnaryOp}{r:V->Hp->VK->Prop} (ho:UnR X (unaryOp op) r) (ha:PE X a ta):PE X (.UnaryOp op a pos) (tUn r ta):=by
 intro pins s σ H Q I h;exact UnaryOp_ (thn (ha pins s σ H _ I h) fun v s1 ⟨x,H1,I1,r1,q1⟩=>ho pins s1 σ H1 x v Q I1 r1 q1)
def opI {f:Value->Value->Sem Value}{C:Int->Int->Prop}{g:Int->Int->Int}
  (rule:∀(i j:Int) (t u:Tok) (s:Shared) (Q:Value->Shared->Prop) (E:Value->Shared->Prop),C i j->Q (.int (g i j) s.toks) { s with toks:=s.toks+1 }->wpAny (model X.prog X.w) X.A (f (.int i t) (.int j u)) Q E s) :
  OpR X f (rI C fun i j=>.int (g i j)):=by
 intro pins s σ H x y v u Q I rx ry h;obtain⟨i,j,rfl,rfl,hc,q⟩:=h;obtain⟨t,rfl⟩:=rx;obtain⟨t',rfl⟩:=ry;exact rule i j t t' s _ _ hc ⟨.int (g i j),H,I.tok _,⟨_,rfl⟩,q⟩
def opI0 {f:Value->Value->Sem Value}{g:Int->Int->Int}
  (rule:∀(i j:Int) (t u:Tok) (s:Shared) (Q:Value->Shared->Prop) (E:Value->Shared->Prop),Q (.int (g i j) s.toks) { s with toks:=s.toks+1 }->wpAny (model X.prog X.w) X.A (f (.int i t) (.int j u)) Q E s) :
  OpR X f (rI0 fun i j=>.int (g i j)):=by
 intro pins s σ H x y v u Q I rx ry h;obtain⟨i,j,rfl,rfl,q⟩:=h;obtain⟨t,rfl⟩:=rx;obtain⟨t',rfl⟩:=ry;exact rule i j t t' s _ _ ⟨.int (g i j),H,I.tok _,⟨_,rfl⟩,q⟩
def opB0 {f:Value->Value->Sem Value}{g:Int->Int->Bool}
  (rule:∀(i j:Int) (t u:Tok) (s:Shared) (Q:Value->Shared->Prop) (E:Value->Shared->Prop),Q (.bool (g i j)) s->wpAny (model X.prog X.w) X.A (f (.int i t) (.int j u)) Q E s) :
  OpR X f (rI0 fun i j=>.bl (g i j)):=by
 intro pins s σ H x y v u Q I rx ry h;obtain⟨i,j,rfl,rfl,q⟩:=h;obtain⟨t,rfl⟩:=rx;obtain⟨t',rfl⟩:=ry;exact rule i j t t' s _ _ ⟨.bl (g i j),H,I,rfl,q⟩
def CDiv (i j:Int):Prop:=0<j/\j<1073741824
def CPow (i j:Int):Prop:=0<=j/\j<=1000000/\i.natAbs<2 ^ 64
def CMul (i j:Int):Prop:=(-(2 ^ 64)<i/\i<2 ^ 64)\/(-(2 ^ 64)<j/\j<2 ^ 64)
def CMul.ok {i j:Int} (h:CMul i j):IntMulOk i j:=by
 rcases h with⟨h1,h2⟩|⟨h1,h2⟩
 ·exact .of_left (intBits_le_64 h1 h2)
 ·exact .of_right (intBits_le_64 h1 h2)
def VC:OpR X (binaryOp .Add) (rI0 fun i j=>.int (i+j)):=opI0 fun _ _ _ _ _ _ _ q=>add_int q
def Jr:OpR X (binaryOp .Sub) (rI0 fun i j=>.int (i-j)):=opI0 fun _ _ _ _ _ _ _ q=>sub_int q
def X1:OpR X (binaryOp .Mult) (rI CMul fun i j=>.int (i*j)):=opI fun _ _ _ _ _ _ _ hc q=>mul_int q hc.ok
def VS:OpR X (binaryOp .FloorDiv) (rI CDiv fun i j=>.int (i / j)):=opI fun i j _ _ _ _ _ hc q=>by
 have h1:(0:Int)<j:=hc.1;have h2:j<1073741824:=hc.2;exact floordiv_int (by omega) (by rw[Int.fdiv_eq_ediv_of_nonneg i (by omega)];exact q) (.inl (PyProof.noPylong_small (by omega)))
def V6:OpR X (binaryOp .Mod) (rI (fun _ j=>0<j) fun i j=>.int (i % j)):=opI fun i j _ _ _ _ _ hc q=>by
 have h1:(0:Int)<j:=hc;exact mod_int' (by omega) (by rw[Int.fmod_eq_emod_of_nonneg i (by omega)];exact q)
def XQ:OpR X (binaryOp .Pow) (rI CPow fun i j=>.int (i ^ j.toNat)):=opI fun _ _ _ _ _ _ _ hc q=>pow_int_small hc.1 hc.2.1 hc.2.2 q
def unI {f:Value->Sem Value}{g:Int->Int}
  (rule:∀(i:Int) (t:Tok) (s:Shared) (Q:Value->Shared->Prop) (E:Value->Shared->Prop),Q (.int (g i) s.toks) { s with toks:=s.toks+1 }->wpAny (model X.prog X.w) X.A (f (.int i t)) Q E s) :
  UnR X f (rU fun i=>.int (g i)):=by
 intro pins s σ H x v Q I rx h;obtain⟨i,rfl,q⟩:=h;obtain⟨t,rfl⟩:=rx;exact rule i t s _ _ ⟨.int (g i),H,I.tok _,⟨_,rfl⟩,q⟩
def JK:UnR X (unaryOp .USub) (rU fun i=>.int (-i)):=unI fun _ _ _ _ _ q=>neg_int q
end
def scal:V->V->Bool
 | .non,.non=>true | .non,.int _=>true | .int _,.non=>true | .non,.bl _=>true | .bl _,.non=>true | .non,.str _=>true | .str _,.non=>true
 | .int _,.int _=>true | .bl _,.bl _=>true | .str _,.str _=>true | .byt _,.byt _=>true
 | .int _,.str _=>true | .str _,.int _=>true | .bl _,.str _=>true | .str _,.bl _=>true
 | _,_=>false
def rEq:R2:=fun x y H Q=>scal x y=true/\Q (.bl (decide (x=y))) H
def rNe:R2:=fun x y H Q=>scal x y=true/\Q (.bl (!decide (x=y))) H
def NK {i j:Int}:decide (V.int i=V.int j)=(i==j):=by
 rw[W3];simp
def Si {i j:Bool}:decide (V.bl i=V.bl j)=(i==j):=by
 rw[W3];simp
def Sm {i j:Str}:decide (V.str i=V.str j)=(i==j):=by
 rw[W3];simp
def Sw {i j:Array UInt8}:decide (V.byt i=V.byt j)=(i.toList==j.toList):=by
 rw[W3];cases i
 cases j
 simp
section
variable {X:Cx}{a b c:Expr}{ta tb tc:TE}{pos:Pos}
def VG {pins:List (Addr×Obj)}{σ:St}{H:Hp}{s:Shared}{Q:VK}{k k':Bool} (I:Inv X pins σ H s) (q:Q (.bl k) H) (e:k=k'):EP X pins σ Q (.bool k') s:=by
 subst e;exact⟨.bl k,H,I,rfl,q⟩
def op_eq:OpR X (compareOp .Eq) rEq:=by
 intro pins s σ H x y v u Q I rx ry h;obtain⟨hs,q⟩:=h;cases x with
 | non=>
  cases rx
  cases y with
  | non=>cases ry;exact PySem.EqNone.eq_none_none (VG I q (by simp))
  | bl j=>cases ry;exact PySem.EqNone.eq_none_bool (VG I q (by simp))
  | int j=>obtain⟨t',rfl⟩:=ry;exact PySem.EqNone.eq_none_int (VG I q (by simp))
  | str j=>obtain⟨t',rfl⟩:=ry;exact PySem.EqNone.eq_none_str (VG I q (by simp))
  | _=>exact absurd (show false=true from hs) Yl
 | bl i=>
  cases rx
  cases y with
  | non=>cases ry;exact PySem.EqNone.eq_bool_none (VG I q (by simp))
  | bl j=>cases ry;exact eq_bool (VG I q Si)
  | str j=>obtain⟨t',rfl⟩:=ry;exact PySem.EqMixed.eq_bool_str (VG I q (by simp))
  | _=>exact absurd (show false=true from hs) Yl
 | int i=>
  obtain⟨t,rfl⟩:=rx;cases y with
  | non=>cases ry;exact PySem.EqNone.eq_int_none (VG I q (by simp))
  | int j=>obtain⟨t',rfl⟩:=ry;exact eq_int (VG I q NK)
  | str j=>obtain⟨t',rfl⟩:=ry;exact PySem.EqMixed.eq_int_str (VG I q (by simp))
  | _=>exact absurd (show false=true from hs) Yl
 | str i=>
  obtain⟨t,rfl⟩:=rx;cases y with
  | non=>cases ry;exact PySem.EqNone.eq_str_none (VG I q (by simp))
  | bl j=>cases ry;exact PySem.EqMixed.eq_str_bool (VG I q (by simp))
  | int j=>obtain⟨t',rfl⟩:=ry;exact PySem.EqMixed.eq_str_int (VG I q (by simp))
  | str j=>obtain⟨t',rfl⟩:=ry;exact eq_str (VG I q Sm)
  | _=>exact absurd (show false=true from hs) Yl
 | byt i=>
  obtain⟨t,rfl⟩:=rx;cases y with
  | byt j=>obtain⟨t',rfl⟩:=ry;exact PySem.W.eq_bytes (VG I q Sw)
  | _=>exact absurd (show false=true from hs) Yl
 | _=>cases y<;>exact absurd (show false=true from hs) Yl
def op_ne:OpR X (compareOp .NotEq) rNe:=by
 intro pins s σ H x y v u Q I rx ry h;obtain⟨hs,q⟩:=h;cases x with
 | non=>
  cases rx
  cases y with
  | non=>cases ry;exact PySem.EqNone.ne_none_none (VG I q (by simp))
  | bl j=>cases ry;exact PySem.EqNone.ne_none_bool (VG I q (by simp))
  | int j=>obtain⟨t',rfl⟩:=ry;exact PySem.EqNone.ne_none_int (VG I q (by simp))
  | str j=>obtain⟨t',rfl⟩:=ry;exact PySem.EqNone.ne_none_str (VG I q (by simp))
  | _=>exact absurd (show false=true from hs) Yl
 | bl i=>
  cases rx
  cases y with
  | non=>cases ry;exact PySem.EqNone.ne_bool_none (VG I q (by simp))
  | bl j=>cases ry;exact ne_bool (VG I q (Y0 not Si))
  | str j=>obtain⟨t',rfl⟩:=ry;exact PySem.EqMixed.ne_bool_str (VG I q (by simp))
  | _=>exact absurd (show false=true from hs) Yl
 | int i=>
  obtain⟨t,rfl⟩:=rx;cases y with
  | non=>cases ry;exact PySem.EqNone.ne_int_none (VG I q (by simp))
  | int j=>obtain⟨t',rfl⟩:=ry;exact ne_int (VG I q (Y0 not NK))
  | str j=>obtain⟨t',rfl⟩:=ry;exact PySem.EqMixed.ne_int_str (VG I q (by simp))
  | _=>exact absurd (show false=true from hs) Yl
 | str i=>
  obtain⟨t,rfl⟩:=rx;cases y with
  | non=>cases ry;exact PySem.EqNone.ne_str_none (VG I q (by simp))
  | bl j=>cases ry;exact PySem.EqMixed.ne_str_bool (VG I q (by simp))
  | int j=>obtain⟨t',rfl⟩:=ry;exact PySem.EqMixed.ne_str_int (VG I q (by simp))
  | str j=>obtain⟨t',rfl⟩:=ry;exact ne_str (VG I q (Y0 not Sm))
  | _=>exact absurd (show false=true from hs) Yl
 | byt i=>
  obtain⟨t,rfl⟩:=rx;cases y with
  | byt j=>obtain⟨t',rfl⟩:=ry;exact PySem.W.ne_bytes (VG I q (Y0 not Sw))
  | _=>exact absurd (show false=true from hs) Yl
 | _=>cases y<;>exact absurd (show false=true from hs) Yl
def Jt:OpR X (compareOp .Lt) (rI0 fun i j=>.bl (decide (i<j))):=opB0 fun _ _ _ _ _ _ _ q=>lt_int q
def JT:OpR X (compareOp .Gt) (rI0 fun i j=>.bl (decide (j<i))):=opB0 fun _ _ _ _ _ _ _ q=>gt_int q
def Xg:OpR X (compareOp .GtE) (rI0 fun i j=>.bl (decide (j<=i))):=opB0 fun _ _ _ _ _ _ _ q=>ge_int q
def OpR.or {f:Value->Value->Sem Value}{r r':R2} (h:OpR X f r) (h':OpR X f r'):OpR X f (fun x y H Q=>r x y H Q\/r' x y H Q):=by
 intro pins s σ H x y v u Q I rx ry q;rcases q with q|q
 ·exact h pins s σ H x y v u Q I rx ry q
 ·exact h' pins s σ H x y v u Q I rx ry q
def V0 (b:Expr) {op:CmpOp} (h:op≠.In:=by decide) (h2:op≠.NotIn:=by decide):behindInMarks op b=false:=by
 have e1:(op==CmpOp.In)=false:=by cases op<;>first|rfl|exact absurd rfl h
 have e2:(op==CmpOp.NotIn)=false:=by cases op<;>first|rfl|exact absurd rfl h2
 cases b<;>simp[behindInMarks,e1,e2]
def Ux {op:CmpOp}{r:R2} (ho:OpR X (compareOp op) r) (ha:PE X a ta) (hb:PE X b tb) (hm:behindInMarks op b=false):PE X (.Compare a [op] [b] pos) (tOp r ta tb):=by
 intro pins s σ H Q I h;exact wpAny_Compare1 (binT ha hb I h fun v u s2 x y H2 I2 rx ry q=>ho pins s2 σ H2 x y v u Q I2 rx ry q) hm
def Kw (t:TE):TT:=fun σ H Q=>t σ H fun x H'=>∃k,x=.bl k/\Q k H'
def V3 {op:CmpOp}{r:R2} (ho:OpR X (compareOp op) r) (ha:PE X a ta) (hb:PE X b tb) (hm:behindInMarks op b=false):PT X (.Compare a [op] [b] pos) (Kw (tOp r ta tb)):=by
 intro pins s σ H Q I h
 refine wpAny_isTrue_Compare1 (thn (ha pins s σ H _ I h) fun v s1 ⟨x,H1,I1,r1,q1⟩=>thn (hb pins s1 σ H1 _ I1 q1) fun u s2 ⟨y,H2,I2,r2,q2⟩=>
  thn (ho pins s2 σ H2 x y v u _ I2 r1 r2 q2) fun c s3 ⟨z,H3,I3,r3,k,e,q3⟩=>?_) hm
 subst e;cases r3
 exact Wt ⟨H3,I3,q3⟩
def TruV (K:Za) (x:V) (H:Hp) (k:Bool):Prop:=
 match x with
 | .non=>k=false
 | .bl b=>k=b
 | .int i=>k=(i != 0)
 | .str y=>y.length<=sizeLine/\k=((y.length:Int) != 0)
 | .byt y=>y.size<=sizeLine/\k=((y.size:Int) != 0)
 | .ref p=>(∃xs,SqL K H p xs/\k=!xs.isEmpty)\/(∃xs,SqT K H p xs/\k=!xs.isEmpty)\/∃kvs,H p=some (.dK kvs)/\k=!kvs.isEmpty
 | _=>False
def FC {κ:Type}{kvs:List (κ×V)}{vs:List (κ×Value)} (r:KV kvs vs):(!vs.isEmpty)=!kvs.isEmpty:=by
 cases r<;>rfl
def Bl {xs:List V}{its:List Value} (r:Vals xs its):(!its.toArray.isEmpty)=!xs.isEmpty:=by
 cases r<;>simp
def XI:(sizeLine:Nat)<2 ^ 63:=by rw[sizeLine_eq];decide
def GW:TruR X (fun x H Q=>∃k,TruV X.K x H k/\Q k H):=by
 intro pins s σ H x v Q I rx h;obtain⟨k,e,q⟩:=h;have hl:=XI;have hs:sizeLine=16777216:=sizeLine_eq;cases x with
 | non=>
  cases rx
  have e':k=false:=e;subst e';exact truthy_none ⟨H,I,q⟩
 | bl b=>
  cases rx
  have e':k=b:=e;subst e';exact Wt ⟨H,I,q⟩
 | int i=>
  obtain⟨t,rfl⟩:=rx;have e':k=(i != 0):=e;subst e';exact PySem.P.truthy_int ⟨H,I,q⟩
 | str y=>
  obtain⟨t,rfl⟩:=rx;obtain⟨hy,e'⟩:y.length<=sizeLine/\k=((y.length:Int) != 0):=e;subst e';exact PySem.P.truthy_str (by omega) ⟨H,I.tok _,q⟩
 | byt y=>
  obtain⟨t,rfl⟩:=rx;obtain⟨hy,e'⟩:y.size<=sizeLine/\k=((y.size:Int) != 0):=e;subst e';exact PySem.W.truthy_bytes (by omega) ⟨H,I.tok _,q⟩
 | ref p=>
  cases rx
  have e':(∃xs,SqL X.K H p xs/\k=!xs.isEmpty)\/(∃xs,SqT X.K H p xs/\k=!xs.isEmpty)\/∃kvs,H p=some (.dK kvs)/\k=!kvs.isEmpty:=e;rcases e' with⟨xs,hx,e'⟩|⟨xs,hx,e'⟩|⟨kvs,hx,e'⟩
  ·subst e';obtain⟨its,r,pl,hz⟩:=I.list hx;have hlen:=r.length;exact wpAny_truthy_list pl.isList (by simp only[Yd];omega) ⟨H,I.tok _,by rw[Bl r];exact q⟩
  ·subst e';obtain⟨its,r,pl,hz⟩:=I.tuple hx;have hlen:=r.length;exact truthy_tuple pl (by simp only[Yd];omega) ⟨H,I.tok _,by rw[Bl r];exact q⟩
  ·subst e';obtain⟨hz,hS,vs,r,m⟩:kvs.length<=sizeLine/\(p==sysModules)=false/\∃vs,KV kvs vs/\s.heap.DictOf (P0 X.prog X.w) p vs:=I.hok p _ hx;have hlen:kvs.length=vs.length:=Paired.length r;exact wpAny_truthy_dict hS m (by omega) ⟨H,I.tok _,by rw[FC r];exact q⟩
 | _=>exact(show False from e).elim
def A9 (ha:PE X a ta) (he:∀whole,isTrue a X.env whole=(do let v ←whole;standAt a.pos;holding [v] (truthy v))) :
  PT X a (fun σ H Q=>ta σ H fun x H'=>∃k,TruV X.K x H' k/\Q k H'):=by
 intro pins s σ H Q I h;exact isTrue_plain (thn (ha pins s σ H _ I h) fun v s1 ⟨x,H1,I1,r1,q1⟩=>GW pins s1 σ H1 x v Q I1 r1 q1) (he _)
def vals1 {x:V}{us:List Value} (r:Vals [x] us):∃u,us=[u]/\RelV x u:=by
 cases r with
 | cons r1 r2=>cases r2;exact⟨_,rfl,r1⟩
def vals2 {x y:V}{us:List Value} (r:Vals [x,y] us):∃u w',us=[u,w']/\RelV x u/\RelV y w':=by
 cases r with
 | cons r1 r2=>
  cases r2 with
  | cons r3 r4=>cases r4;exact⟨_,_,rfl,r1,r3⟩
def Sk (hc:X.calm=true):J7 X (.builtin "max") (fun xs H Q=>∃i j,xs=[.int i,.int j]/\Q (.int (if j>i then j else i)) H):=by
 intro pins s σ H xs us Q I r h;obtain⟨i,j,rfl,q⟩:=h;obtain⟨u,w',rfl,⟨t,rfl⟩,⟨t',rfl⟩⟩:=vals2 r;refine max_two_ints (I.ok.hd hc) fun h' tk k=>⟨_,H,I.kept k,?_,q⟩;by_cases hj:j>i
 ·rw[ZV hj,ZV hj];exact⟨_,rfl⟩
 ·rw[ZU hj,ZU hj];exact⟨_,rfl⟩
def FH:J7 X (.type "int") (fun xs H Q=>(∃i,xs=[.int i]/\Q (.int i) H)\/∃k,xs=[.bl k]/\Q (.int (if k then 1 else 0)) H):=by
 intro pins s σ H xs us Q I r h;rcases h with⟨i,rfl,q⟩|⟨k,rfl,q⟩
 ·obtain⟨u,rfl,t,rfl⟩:=vals1 r;exact call_int_int ⟨.int i,H,I,⟨_,rfl⟩,q⟩
 ·obtain⟨u,rfl,r1⟩:=vals1 r;cases r1
  exact call_int_bool ⟨.int (if k then 1 else 0),H,I.tok _,⟨_,rfl⟩,q⟩
def LenV (K:Za) (x:V) (H:Hp) (n:Nat):Prop:=
 match x with
 | .str y=>y.length<=sizeLine/\n=y.length
 | .byt y=>y.size<=sizeLine/\n=y.size
 | .ref p=>(∃xs,SqL K H p xs/\n=xs.length)\/∃xs,SqT K H p xs/\n=xs.length
 | _=>False
def CT:J7 X (.builtin "len") (fun xs H Q=>∃x n,xs=[x]/\LenV X.K x H n/\Q (.int n) H):=by
 intro pins s σ H xs us Q I r h;obtain⟨x,n,rfl,e,q⟩:=h;obtain⟨u,rfl,rx⟩:=vals1 r;have hl:=XI;have hs:sizeLine=16777216:=sizeLine_eq;cases x with
 | str y=>
  obtain⟨t,rfl⟩:=rx;obtain⟨hy,e'⟩:y.length<=sizeLine/\n=y.length:=e;subst e';exact len_str (by omega) ⟨.int _,H,I.tok _,⟨_,rfl⟩,q⟩
 | byt y=>
  obtain⟨t,rfl⟩:=rx;obtain⟨hy,e'⟩:y.size<=sizeLine/\n=y.size:=e;subst e';exact PySem.W.len_bytes (by omega) ⟨.int _,H,I.tok _,⟨_,rfl⟩,q⟩
 | ref p=>
  cases rx
  have e':(∃xs,SqL X.K H p xs/\n=xs.length)\/∃xs,SqT X.K H p xs/\n=xs.length:=e;rcases e' with⟨xs,hx,e'⟩|⟨xs,hx,e'⟩
  ·subst e';obtain⟨its,r',pl,hz⟩:=I.list hx;have hlen:=r'.length;exact Calls.call_len_list pl.isList (by simp only[Yd];omega) ⟨.int xs.length,H,I.tok _,⟨_,by simp only[Yd];rw[hlen]⟩,q⟩
  ·subst e';obtain⟨its,r',pl,hz⟩:=I.tuple hx;have hlen:=r'.length;exact len_tuple pl (by simp only[Yd];omega) ⟨.int xs.length,H,I.tok _,⟨_,by simp only[Yd];rw[hlen]⟩,q⟩
 | _=>exact(show False from e).elim
end
structure ObjM (h:Heap) (x dx C:Addr) (mA:Str->Option Value):Prop where
 obj:h.get? x=some (PySem.W.instObj C dx)
 ns:h.Ns1 dx mA
 ne:dx≠x
def Gi {h:Heap}{dx:Addr}{mA:Str->Option Value} (n:h.Ns1 dx mA):∃od,h.get? dx=some od/\∀name,PySem.W.lookIn name od=some (mA name):=by
 obtain⟨o,es,ep,ho,hd,hk,_,hm⟩:=n;refine⟨o,ho,fun name=>?_⟩;have e:=hm name;unfold nsFind findBy at e;rw[←Array.find?_toList] at e;unfold PySem.W.lookIn;rw[hd]
 dsimp only
 split
 ·rename_i y q;rw[q] at e;exact Y0 some e
 ·rename_i q;rw[q] at e
  have a:es.toList.any (·.refKey)=false:=by
   rw[List.any_eq_false];intro y hy;obtain⟨z,t,hkey⟩:=hk y (Array.mem_toList_iff.mp hy);simp[DictEntry.refKey,hkey]
  have a':¬es.toList.any (·.refKey)=true:=by rw[a];exact Yl
  rw[ZU a'];exact Y0 some e
def ObjM.look {h:Heap}{x dx C:Addr}{mA:Str->Option Value} (I:ObjM h x dx C mA):∃od,PySem.W.InstAt h x (PySem.W.instObj C dx) C (some od)/\∀name,PySem.W.lookIn name od=some (mA name):=
 let ⟨od,ho,hl⟩:=Gi I.ns
 ⟨od,⟨I.obj,rfl,rfl,ho⟩,hl⟩
section
variable {prog:Program}{w:World}{A:Around}{E:Value->Shared->Prop}{s:Shared}{K:Za}{x dx C f:Addr}{mA:Str->Option Value}{name:Str}{v:Value}
def Aq {expr:Bool}{Q:Value->Shared->Prop} (X:K.In s.heap) (I:ObjM s.heap x dx C mA) (hg:PySem.W.plainGet K C name=true) (hh:PySem.W.hasDictIn K C=true)
  (ha:PySem.W.findIn K (.ref C) name=some none) (hv:mA name=some v) (hv':PySem.W.handedIn v=true) (h:Q v { s with toks:=s.toks+1 }) :
  wpAny (model prog w) A (getAttr (.ref x) name expr) Q E s:=by
 obtain⟨od,J,hl⟩:=I.look;exact PySem.W.get_value X J (W5 hg).1 (PySem.W.findObj_own hh ha rfl (by rw[hl,hv])) hv' h
def DL {pl:Sem Bool}{Q:Value×List Value->Shared->Prop} (X:K.In s.heap) (I:ObjM s.heap x dx C mA) (hg:PySem.W.plainGet K C name=true)
  (hf:PySem.W.findIn K (.ref C) name=some (some (.ref f))) (ht:PySem.W.isFn K (.ref f)=true) (hv:mA name=none) (h:Q (.ref f,[.ref x]) s) :
  wpAny (model prog w) A (getMethod (.ref x) name pl) Q E s:=by
 obtain⟨od,J,hl⟩:=I.look;exact PySem.W.method_fn X J (W5 hg).1 (W5 hg).2 hf (beq_iff_eq.mp ht) (by show(PySem.W.lookIn name od).map (·.isSome)=some false;rw[hl,hv];rfl) h
def GU {ns:List Str}{Q:Unit->Shared->Prop} (X:K.In s.heap) (I:ObjM s.heap x dx C mA)
  (hs:PySem.W.findIn K (.ref C) "__setattr__"=some (some (.builtin "object.__setattr__"))) (hp:PySem.W.plainOver K C=true) (ht:PySem.W.takerIn K C name=some none) (hh:PySem.W.hasDictIn K C=true)
  (hw:PySem.Within mA ns) (hsz:ns.length<=sizeLine)
  (h:∀h',ObjM h' x dx C (fun y=>if y=name then some v else mA y)->Heap.SameBut dx s.heap h'->Q () { s with heap:=h',toks:=s.toks+2 }) :
  wpAny (model prog w) A (setAttr (.ref x) name v) Q E s:=by
 obtain⟨od,J,hl⟩:=I.look;refine PySem.W.set_plain X J hs (PySem.W.osa_open (s:={ s with toks:=s.toks+1 }) (r:=none) X J hp ht fun b=>?_)
 obtain⟨cd,hc,hd'⟩:=PySem.W.any_some hh;have hx:s.heap.get? x=some ⟨.ref C,some dx,.plain,#[]⟩:=I.obj;refine Yp (YC (Yp (Yp (wpAny_loadPart hx (Yp (PySem.W.Looks.here (s:={ s with toks:=s.toks+1 }) (PySem.W.looks_clsIn X hc) ?_))))))
 rw[hd'];refine YC (a:=some dx) (Yp (YC (Yp ?_)));refine wpAny_nsSet1 (s:={ s with toks:=s.toks+1 }) I.ns fun h' hn2 hs2=>?_
 obtain⟨oD,esD,epD,hoD,hdD,hcD⟩:=hn2.count (PySem.Within.cons name v hw);refine Yp (wpAny_lookBehind hoD (by rw[hdD];exact pastItsLine_dict (Yi hcD (by rw[Ys];omega))) ?_);exact YC (h _ ⟨(hs2.2 _ (Ne.symm I.ne)).trans I.obj,hn2,I.ne⟩ hs2)
def F5 {R:Result->Shared->Prop}{vs:List Value}{kw:List (Str×Value)} (X:K.In s.heap) (hm:PySem.W.makesIn K C=true)
  (hi:PySem.W.findIn K (.ref C) "__init__"=some (some (.ref f))) (hf:PySem.W.typeIn K (.ref f)=some (.type "function"))
  (h:codeAny (model prog w) (A.under (.builtin "type.__call__" ⟨.ref C::vs,kw⟩)) (.call (.ref f) ⟨.ref (s.heap.objs.size+1)::vs,kw⟩) (PySem.W.InitBack (s.heap.objs.size+1) R)
   { s with heap:=(s.heap.push PySem.W.emptyDict).push (PySem.W.instObj C s.heap.objs.size) }) :
  codeAny (model prog w) A (.call (.ref C) ⟨vs,kw⟩) R s:=by
 obtain⟨hh,g,d,t,os⟩:=s;exact PySem.W.make_core (PySem.W.makes_of X hm) (Wk X hi) (fun self=>PySem.W.bind_fn X self hf) (.inl rfl) h
end
def putF (f:Str) (v:V):List (Str×V)->List (Str×V)
 | []=>[(f,v)]
 | (g,x)::r=>if g=f then(g,v)::r else(g,x)::putF f v r
def Bk (f g:Str) (v:V):∀fs:List (Str×V),(putF f v fs).lookup g=if g=f then some v else fs.lookup g
 | []=>by
  show List.lookup g [(f,v)]=_;by_cases h:g=f
  ·have hb:(g==f)=true:=beq_iff_eq.mpr h;simp only[List.lookup,hb,ZV h]
  ·have hb:(g==f)=false:=Wa.mpr h;simp only[List.lookup,hb,ZU h]
 | (k,x)::r=>by
  have ih:=Bk f g v r;rw[show putF f v ((k,x)::r)=(if k=f then(k,v)::r else(k,x)::putF f v r) from rfl]
  by_cases hk:k=f
  ·rw[ZV hk];by_cases h:g=k
   ·have hb:(g==k)=true:=beq_iff_eq.mpr h;simp only[List.lookup,hb,ZV (h.trans hk)]
   ·have hb:(g==k)=false:=Wa.mpr h;simp only[List.lookup,hb,ZU (fun e:g=f=>h (e.trans hk.symm))]
  ·rw[ZU hk];by_cases h:g=k
   ·have hb:(g==k)=true:=beq_iff_eq.mpr h;simp only[List.lookup,hb,ZU (fun e:g=f=>hk (h.symm.trans e))]
   ·have hb:(g==k)=false:=Wa.mpr h;simp only[List.lookup,hb];exact ih
def Pl (f:Str) (v:V):∀fs:List (Str×V),f∈(putF f v fs).map (·.1)/\∀g,g∈fs.map (·.1)->g∈(putF f v fs).map (·.1)
 | []=>⟨by simp[putF],fun g h=>by simp at h⟩
 | (k,x)::r=>by
  obtain⟨i1,i2⟩:=Pl f v r;rw[show putF f v ((k,x)::r)=(if k=f then(k,v)::r else(k,x)::putF f v r) from rfl]
  by_cases hk:k=f
  ·rw[ZV hk];subst hk;exact⟨by simp,fun g h=>by simpa using h⟩
  ·rw[ZU hk];refine⟨?_,fun g h=>?_⟩
   ·rw[Yy];exact Yt _ i1
   ·rw[Yy] at h ⊢;rcases Ym.mp h with e|e
    ·exact Ym.mpr (.inl e)
    ·exact Yt _ (i2 g e)
def Bv (f:Str) (v:V):∀fs:List (Str×V),(putF f v fs).length<=fs.length+1
 | []=>by simp[putF]
 | (k,x)::r=>by
  have ih:=Bv f v r;rw[show putF f v ((k,x)::r)=(if k=f then(k,v)::r else(k,x)::putF f v r) from rfl]
  by_cases hk:k=f
  ·rw[ZV hk,Ys,Ys];omega
  ·rw[ZU hk,Ys,Ys];omega
def RelO.some_of {v:V}{o:Option Value} (r:RelO (some v) o):∃u,o=some u/\RelV v u:=by
 cases o with
 | none=>exact(show False from r).elim
 | some u=>exact⟨u,rfl,r⟩
def RelO.none_of {o:Option Value} (r:RelO none o):o=none:=by
 cases o with
 | none=>rfl
 | some u=>exact(show False from r).elim
def GA {v:V}{u:Value} (r:RelV v u):PySem.W.handedIn u=true:=by
 cases v with
 | non=>cases (show u=Value.none from r);rfl
 | bl b=>cases (show u=Value.bool b from r);rfl
 | int i=>obtain⟨t,e⟩:=(show ∃t,u=Value.int i t from r);cases e;rfl
 | str x=>obtain⟨t,e⟩:=(show ∃t,u=Value.str x t from r);cases e;rfl
 | byt b=>obtain⟨t,e⟩:=(show ∃t,u=Value.bytes b t from r);cases e;rfl
 | flt b=>obtain⟨t,e⟩:=(show ∃t,u=Value.float b t from r);cases e;rfl
 | ref a=>cases (show u=Value.ref a from r);rfl
 | ty n=>cases (show u=Value.type n from r);rfl
section
variable {P:Program}{w:World}{H H':Hp}{h h':Heap}{a C dx:Addr}{fs fs':List (Str×V)}
def Ki (hok:HOk P w H h) (e:H a=some (.ins C dx fs)):∃mA,ObjM h a dx C mA/\(∀f,RelO (fs.lookup f) (mA f))/\PySem.Within mA (fs.map (·.1))/\fs.length<=1000/\H dx=some (.own a):=by
 obtain⟨d,z,ne,ob,mA,n,r,q⟩:=(show ObjOk P w H h a (.ins C dx fs) from hok a _ e)
 exact⟨mA,⟨ob,n,ne⟩,r,q,z,d⟩
end
structure Cls (K:Za) (C:Addr):Prop where
 pg:PySem.W.plainGet K C Str.empty=true
 hd:PySem.W.hasDictIn K C=true
 po:PySem.W.plainOver K C=true
 sa:PySem.W.findIn K (.ref C) "__setattr__"=some (some (.builtin "object.__setattr__"))
def Cls.get {K:Za}{C:Addr} (c:Cls K C) (f:Str):PySem.W.plainGet K C f=true:=c.pg
def NoAttr (K:Za) (C:Addr) (f:Str):Prop:=PySem.W.findIn K (.ref C) f=some none
def NoAttr.taker {K:Za}{C:Addr}{f:Str} (n:NoAttr K C f):PySem.W.takerIn K C f=some none:=by
 unfold PySem.W.takerIn;rw[show PySem.W.findIn K (.ref C) f=some none from n]
 rfl
structure Meth (K:Za) (C:Addr) (m:Str) (f:Addr):Prop where
 at_:PySem.W.findIn K (.ref C) m=some (some (.ref f))
 fn:PySem.W.isFn K (.ref f)=true
 kp:PySem.W.keepIn K (.ref f)=true
section
variable {X:Cx}{pins:List (Addr×Obj)}{σ:St}{H:Hp}{s:Shared}{a C dx:Addr}{fs:List (Str×V)}{f:Str}{v:V}{A:Around}{E:Value->Shared->Prop}
def F4 {b:Bool}{Q:Value->Shared->Prop} (I:Inv X pins σ H s) (e:H a=some (.ins C dx fs)) (c:Cls X.K C) (n:NoAttr X.K C f) (l:fs.lookup f=some v)
  (h:∀u s',Inv X pins σ H s'->RelV v u->Q u s'):wpAny (model X.prog X.w) A (getAttr (.ref a) f b) Q E s:=by
 obtain⟨mA,O,r,_,_,_⟩:=Ki I.hok e;obtain⟨u,hu,ru⟩:=RelO.some_of (v:=v) (o:=mA f) (by rw[←l];exact r f);exact Aq I.kIn O (c.get f) c.hd n hu (GA ru) (h u _ (I.tok _) ru)
def XM {m:Str}{g:Addr}{pl:Sem Bool}{Q:Value×List Value->Shared->Prop} (I:Inv X pins σ H s) (e:H a=some (.ins C dx fs)) (c:Cls X.K C) (k:Meth X.K C m g) (l:fs.lookup m=none)
  (h:Q (.ref g,[.ref a]) s):wpAny (model X.prog X.w) A (getMethod (.ref a) m pl) Q E s:=by
 obtain⟨mA,O,r,_,_,_⟩:=Ki I.hok e;have hn:mA m=none:=RelO.none_of (by rw[←l];exact r m);exact DL I.kIn O (c.get m) k.at_ k.fn hn h
def Hm {y:V}{u:Value}{Q:Unit->Shared->Prop} (I:Inv X pins σ H s) (e:H a=some (.ins C dx fs)) (c:Cls X.K C) (n:NoAttr X.K C f) (hl:fs.length<1000) (ry:RelV y u)
  (h:∀s',Inv X pins σ (upd H a (.ins C dx (putF f y fs))) s'->Q () s'):wpAny (model X.prog X.w) A (setAttr (.ref a) f u) Q E s:=by
 obtain⟨mA,O,r,wi,_,ho⟩:=Ki I.hok e;have hz:(fs.map (·.1)).length<=sizeLine:=by rw[ZR,sizeLine_eq];omega
 refine GU I.kIn O c.sa c.po n.taker c.hd wi hz fun h' O' sb=>h _ ?_;have hd:∃o,h'.get? dx=some o:=let ⟨o,_,_,e',_⟩:=O'.ns;⟨o,e'⟩;refine I.write (x:=a) (e:=dx) (by rw[e];exact True.intro) (.inr ho) (fun b q hb z=>(sb.2 b hb).trans z) hd ?_;refine⟨by rw[V1 O.ne];exact ho,?_,O.ne,O'.obj,_,O'.ns,fun g=>?_,fun g hg=>?_⟩
 ·have:=Bv f y fs;omega
 ·show RelO ((putF f y fs).lookup g) (if g=f then some u else mA g);rw[Bk];by_cases q:g=f
  ·rw[ZV q,ZV q];exact ry
  ·rw[ZU q,ZU q];exact r g
 ·by_cases q:g=f
  ·rw[q];exact(Pl f y fs).1
  ·refine(Pl f y fs).2 g (wi g fun z=>hg ?_);show(if g=f then some u else mA g)=none;rw[ZU q];exact z
def Inv.made (I:Inv X pins σ H s):Inv X pins σ (upd (upd H s.heap.objs.size (.own (s.heap.objs.size+1))) (s.heap.objs.size+1) (.ins C s.heap.objs.size []))
  { s with heap:=(s.heap.push PySem.W.emptyDict).push (PySem.W.instObj C s.heap.objs.size) }:=by
 have e1:(s.heap.push PySem.W.emptyDict).get? s.heap.objs.size=some PySem.W.emptyDict:=Y2 s.heap rfl
 have e2:((s.heap.push PySem.W.emptyDict).push (PySem.W.instObj C s.heap.objs.size)).get? (s.heap.objs.size+1)=some (PySem.W.instObj C s.heap.objs.size):=by
  have:=Y2 (s.heap.push PySem.W.emptyDict) (o:=PySem.W.instObj C s.heap.objs.size) rfl
  rwa[Wr] at this
 have e3:(s.heap.push PySem.W.emptyDict).Ns s.heap.objs.size (fun _=>none):=⟨PySem.W.emptyDict,#[],_,e1,rfl,(fun e he=>absurd he (by simp)),fun _=>rfl⟩;have I1:=I.laid (a:=s.heap.objs.size) (o:=.own (s.heap.objs.size+1)) (h':=s.heap.push PySem.W.emptyDict) (t':=s.toks) (fun b u q=>Yj _ q) (Ye _) ⟨_,e1⟩;refine I1.laid (a:=s.heap.objs.size+1) (o:=.ins C s.heap.objs.size []) (t':=s.toks) (fun b u q=>Yj _ q) (YQ (Wr _ _)) ?_;have ne:s.heap.objs.size≠s.heap.objs.size+1:=YA (Ww _);refine⟨by rw[V1 ne,VQ],Wu _,ne,e2,fun _=>none,(Heap.Ns1.of_empty e3).at fun o q=>Yj _ q,fun _=>True.intro,fun y hy=>absurd rfl hy⟩
def Dq {prog:Program}{w:World}{env:Env}{e:Expr}{f:Str}{pos:Pos}{s:Shared}{Q:Value->Shared->Prop} (hb:attributeBase e f env (eval e env)=eval e env)
  (h:wpAny (model prog w) A (eval e env) (fun o s₁=>wpAny (model prog w) A (getAttr o f true) Q E s₁) E s):wpAny (model prog w) A (eval (.Attribute e f pos) env) Q E s:=
 Attribute_any_ h (by rw[arm_eval_Attribute,hb])
end
def tFld (K:Za) (ta:TE) (f:Str):TE:=fun σ H Q=>ta σ H fun x H1=>∃a C dx fs v,x=.ref a/\H1 a=some (.ins C dx fs)/\Cls K C/\NoAttr K C f/\fs.lookup f=some v/\Q v H1
def sFld (K:Za) (ta tv:TE) (f:Str):TS:=fun D σ H=>tv σ H fun y H1=>ta σ H1 fun x H2=>∃a C dx fs,x=.ref a/\H2 a=some (.ins C dx fs)/\Cls K C/\NoAttr K C f/\fs.length<1000/\
 D.nx σ (upd H2 a (.ins C dx (putF f y fs)))
section
variable {X:Cx}{o e value:Expr}{f:Str}{pos pos' tpos:Pos}{ta tv:TE}
def Js (he:PE X e ta) (hb:attributeBase e f X.env (eval e X.env)=eval e X.env):PE X (.Attribute e f pos) (tFld X.K ta f):=by
 intro pins s σ H Q I h;refine Dq hb (thn (he pins s σ H _ I h) fun u s1 ⟨x,H1,I1,rx,a,C,dx,fs,v,ex,ea,c,n,l,q⟩=>?_);subst ex;obtain rfl:u=Value.ref a:=rx;exact F4 I1 ea c n l fun u' s2 I2 ru=>⟨v,H1,I2,ru,q⟩
def Tb (ha:PE X o ta) (hv:PE X value tv) (hs:swapsWith value (some (.Attribute o f pos')) pos.line X.env=pure false):PS X (.Assign [.Attribute o f pos'] value pos) (sFld X.K ta tv f):=by
 intro pins s σ H D I h;refine plainObj_wpAny_Assign_Attribute (thn (hv pins s σ H _ I h) fun u s1 ⟨y,H1,I1,ry,q⟩=>thn (ha pins s1 σ H1 _ I1 q) fun ov s2 ⟨x,H2,I2,rx,a,C,dx,fs,ex,ea,c,n,l,q2⟩=>?_) hs;subst ex;obtain rfl:ov=Value.ref a:=rx;exact Hm I2 ea c n l ry fun s3 I3=>⟨σ,_,I3,q2⟩
def HQ {pl:Sem Bool}{m:Str}{apos:Pos}{args:List Expr}{pins:List (Addr×Obj)}{s:Shared}{σ:St}{H:Hp}{Q:Value->Shared->Prop}{te:TE} (he:PE X e te) (I:Inv X pins σ H s)
  (h:te σ H fun x H1=>∃a C dx fs g,x=.ref a/\H1 a=some (.ins C dx fs)/\Cls X.K C/\Meth X.K C m g/\fs.lookup m=none/\
   ∀s1,Inv X pins σ H1 s1->wpAny (model X.prog X.w) X.A (callWith pos (.ref g) [.ref a] (backTo pos (starEach args X.env)) (backToKw pos (keywordEach [] X.env))) Q X.xe s1)
  (ht:eval (.Call (.Attribute e m apos) args [] pos) X.env=(do
   let ov ←eval e X.env
   standAt apos.atName
   let (f,first) ←holding [ov] (getMethod ov m pl)
   callWith pos f first (backTo pos (starEach args X.env)) (backToKw pos (keywordEach [] X.env)))) :
  wpAny (model X.prog X.w) X.A (eval (.Call (.Attribute e m apos) args [] pos) X.env) Q X.xe s:=by
 refine YW (pl:=pl) (thn (he pins s σ H _ I h) fun u s1 ⟨x,H1,I1,rx,a,C,dx,fs,g,ex,ea,c,k,l,q⟩=>?_) ht;subst ex;obtain rfl:u=Value.ref a:=rx;exact XM I1 ea c k l (q s1 I1)
end
section
variable {X:Cx}{pins:List (Addr×Obj)}{σ:St}{H:Hp}{s:Shared}{A:Around}{E:Value->Shared->Prop}{Q:Value->Shared->Prop}{c:Value}{b:Bool}
inductive TyOf (K:Za) (H:Hp):V->Value->Prop where
 | non:TyOf K H .non (.type "NoneType")
 | bl (x:Bool):TyOf K H (.bl x) (.type "bool")
 | int (i:Int):TyOf K H (.int i) (.type "int")
 | str (x:Str):TyOf K H (.str x) (.type "str")
 | flt (x:UInt64):TyOf K H (.flt x) (.type "float")
 | lst {a:Addr} {xs:List V} (e:H a=some (.lst xs)):TyOf K H (.ref a) (.type "list")
 | frz {a:Addr} {o:Obj} {xs:List V} (e:H a=some (.frz o (.lst xs))):TyOf K H (.ref a) (.type "list")
 | tup {a:Addr} {xs:List V} (e:H a=some (.tup xs)):TyOf K H (.ref a) (.type "tuple")
 | dK {a:Addr} {kvs:List (Key×V)} (e:H a=some (.dK kvs)):TyOf K H (.ref a) (.type "dict")
 | dT {a:Addr} {kvs:List (List Key×V)} (e:H a=some (.dT kvs)):TyOf K H (.ref a) (.type "dict")
 | ins {a C dx:Addr} {fs:List (Str×V)} (e:H a=some (.ins C dx fs)) (cl:Cls K C) (ha:PySem.W.findIn K (.ref C) "__class__"=some (some (.builtin "object.__class__")))
   (hn:PySem.W.specialIn K (.builtin "object.__class__") "__get__"=some (some (.builtin "getset_descriptor.__get__"))) (htk:PySem.W.takesIn K (.builtin "object.__class__")=some true)
   (hm:PySem.W.mroIn K C (.type "object")=some true):TyOf K H (.ref a) (.ref C)
def GB {x:V}{u t:Value} (I:Inv X pins σ H s) (rx:RelV x u) (ty:TyOf X.K H x t) (e:PySem.W.kitOne X.K t c=some b) (h:∀tk,Q (.bool b) { s with toks:=tk }) :
  wpAny (model X.prog X.w) A (call (.builtin "isinstance") [u,c]) Q E s:=by
 cases ty with
 | non=>cases (show u=Value.none from rx);exact YD PySem.W.kitx_none I.kIn True.intro e (fun z=>nomatch z) h
 | bl y=>cases (show u=Value.bool y from rx);exact YD PySem.W.kitx_bool I.kIn True.intro e (fun z=>nomatch z) h
 | int i=>obtain⟨t,q⟩:=(show ∃t,u=Value.int i t from rx);cases q;exact YD PySem.W.kitx_int I.kIn True.intro e (fun z=>nomatch z) h
 | str y=>obtain⟨t,q⟩:=(show ∃t,u=Value.str y t from rx);cases q;exact YD PySem.W.kitx_str I.kIn True.intro e (fun z=>nomatch z) h
 | flt y=>obtain⟨t,q⟩:=(show ∃t,u=Value.float y t from rx);cases q;exact YD PySem.W.kitx_float I.kIn True.intro e (fun z=>nomatch z) h
 | @lst a xs ea=>
  cases (show u=Value.ref a from rx)
  obtain⟨_,_,n,_,h1⟩:=(show ObjOk X.prog X.w H s.heap a (.lst xs) from I.hok a _ ea)
  exact YD PySem.W.kitx_list I.kIn ⟨_,h1,rfl⟩ e (fun z=>nomatch z) h
 | @frz a ob xs ea=>
  cases (show u=Value.ref a from rx)
  obtain⟨_,_,_,n,_,h1⟩:=(show ObjOk X.prog X.w H s.heap a (.frz ob (.lst xs)) from I.hok a _ ea)
  exact YD PySem.W.kitx_list I.kIn ⟨_,h1,rfl⟩ e (fun z=>nomatch z) h
 | @tup a xs ea=>
  cases (show u=Value.ref a from rx)
  obtain⟨_,_,_,p⟩:=(show ObjOk X.prog X.w H s.heap a (.tup xs) from I.hok a _ ea)
  obtain⟨o,h1,h2,_⟩:=p;exact YD PySem.W.kitx_tuple I.kIn ⟨o,h1,h2⟩ e (fun z=>nomatch z) h
 | @dK a kvs ea=>
  cases (show u=Value.ref a from rx)
  obtain⟨_,_,vs,_,p⟩:=(show ObjOk X.prog X.w H s.heap a (.dK kvs) from I.hok a _ ea)
  obtain⟨o,es,ep,h1,h2,_⟩:=p;exact YD PySem.W.kitx_dict I.kIn ⟨o,h1,h2.1⟩ e (fun z=>nomatch z) h
 | @dT a kvs ea=>
  cases (show u=Value.ref a from rx)
  obtain⟨_,_,xs,_,o,es,ep,h1,h2,_⟩:=(show ObjOk X.prog X.w H s.heap a (.dT kvs) from I.hok a _ ea)
  exact YD PySem.W.kitx_dict I.kIn ⟨o,h1,h2.1⟩ e (fun z=>nomatch z) h
 | @ins a C dx fs ea cl ha hn htk hm=>
  cases (show u=Value.ref a from rx)
  obtain⟨mA,O,_⟩:=Ki I.hok ea;obtain⟨od,J,_⟩:=O.look;exact YD (PySem.W.kitx_own (cl.get _) cl.hd ha hn htk hm) I.kIn J e (fun z=>nomatch z) h
end
structure Room (k:Nat) (A:Around):Prop where
 hd:A.handled=none
 dp:A.depth+3*k+5<recursionLimit
 un:A.units+16*k+200<cLine
def Room.mono {j k:Nat}{A:Around} (r:Room k A) (h:j<=k):Room j A:=⟨r.hd,by have:=r.dp;omega,by have:=r.un;omega⟩
def Room.deeper {k:Nat}{A:Around} (r:Room (k+1) A) (env:Env):Room k (A.deeper env):=
 ⟨r.hd,by have:=r.dp;show A.depth+1+3*k+5<_;omega,by have:=r.un;show A.units+3+16*k+200<_;omega⟩
def GY {A:Around}{C:Addr}{us:List Value}{kw:List (Str×Value)}:(A.under (.builtin "type.__call__" ⟨.ref C::us,kw⟩)).depth=A.depth+1:=by
 first|rfl|simp[Around.under,Code.weight,Code.isCreation,Code.isGuard,Code.isCaller,Code.frames,Code.isFrame,guardIds]
def EB {A:Around}{C:Addr}{us:List Value}{kw:List (Str×Value)}:(A.under (.builtin "type.__call__" ⟨.ref C::us,kw⟩)).units=A.units+1:=by
 first|rfl|simp[Around.under,Code.cUnits,Code.frames,Code.isFrame]
def Room.make {k:Nat}{A:Around} (r:Room (k+1) A) (C:Addr) (us:List Value) (kw:List (Str×Value)):Room k (A.under (.builtin "type.__call__" ⟨.ref C::us,kw⟩)):=
 ⟨r.hd,by have:=r.dp;rw[GY];omega,by have:=r.un;rw[EB];omega⟩
def Room.depth {k:Nat}{A:Around} (r:Room k A):A.depth<recursionLimit:=by have:=r.dp;omega
def Room.units {k:Nat}{A:Around} (r:Room k A):A.units+64<cLine:=by have:=r.un;omega
def Room.units0 {k:Nat}{A:Around} (r:Room k A):A.units<cLine:=by have:=r.un;omega
def tNil:TA:=fun _ H Q=>Q [] H
def VN (ta:TE) (tr:TA):TA:=fun σ H Q=>ta σ H fun x H1=>tr σ H1 fun xs H2=>Q (x::xs) H2
section
variable {X:Cx}{e:Expr}{es:List Expr}{te:TE}{t:TA}{pos:Pos}
def VL:PA X [] tNil:=fun _ _ _ _ H Q I h=>Calls.spliced_nil ⟨[],H,I,.nil,h⟩
def Vs (ha:PE X e te) (hr:PA X es t) (hs:starEach (e::es) X.env=(false,eval e X.env)::starEach es X.env:=by rfl):PA X (e::es) (VN te t):=by
 intro pos pins s σ H Q I h;rw[hs];show wpAny _ _ (spliced ((false,eval e X.env)::backTo pos (starEach es X.env))) _ _ s;refine Calls.spliced_cons (thn (ha pins s σ H _ I h) fun u s1 ⟨x,H1,I1,r1,q1⟩=>?_);exact thn (hr pos pins s1 σ H1 _ I1 q1) fun us s2 ⟨xs,H2,I2,r2,q2⟩=>⟨x::xs,H2,I2,.cons r1 r2,q2⟩
def tTup (t:TA):TE:=fun σ H Q=>t σ H fun xs H1=>xs.length<=sizeLine/\∀p,H1 p=none->Q (.ref p) (upd H1 p (.tup xs))
def tLst (t:TA):TE:=fun σ H Q=>t σ H fun xs H1=>xs.length<=sizeLine/\∀p,H1 p=none->Q (.ref p) (upd H1 p (.lst xs))
def V7 {x1} (h:PA X es t):PE X (.Tuple es x1 pos) (tTup t):=by
 intro pins s σ H Q I hq;refine wpAny_Tuple_spliced (thn (h pos pins s σ H _ I hq) fun us s1 ⟨xs,H1,I1,r,z,q⟩=>⟨by rw[←r.length];exact z,?_⟩);have hf:H1 s1.heap.objs.size=none:=I1.hok.fresh (Ye _);refine⟨.ref s1.heap.objs.size,upd H1 s1.heap.objs.size (.tup xs),I1.laid (t':=s1.toks) (fun b u e=>Yj _ e) (Ye _) ?_,rfl,q _ hf⟩;exact⟨z,us,r,⟨_,Y2 _ rfl,rfl,_,rfl⟩⟩
def Vv (h:PA X es t):PE X (.List es pos) (tLst t):=by
 intro pins s σ H Q I hq;refine wpAny_List_spliced (thn (h pos pins s σ H _ I hq) fun us s1 ⟨xs,H1,I1,r,z,q⟩=>⟨by rw[←r.length];exact z,?_⟩);have hf:H1 s1.heap.objs.size=none:=I1.hok.fresh (Ye _);refine⟨.ref s1.heap.objs.size,upd H1 s1.heap.objs.size (.lst xs),I1.laid (t':=s1.toks) (fun b u e=>Yj _ e) (Ye _) ?_,rfl,q _ hf⟩;exact⟨z,us,0,r,Y2 _ rfl⟩
end
abbrev Sp:=List V->Hp->VK->XK->Prop
abbrev CXT:=List Env->Hp->Shared->XK->Value->Shared->Prop
structure Env0 (P:Program) (w:World) (K:Za) (mg:Str->Option Value) (base:Heap) (A:Around) (outer:List Env) (s:Shared) (H:Hp):Prop where
 frames:A.frames=some outer
 mod:Mod K mg base
 bs:∀b o,base.get? b=some o->s.heap.get? b=some o/\H b=none
 bsz:base.objs.size<=s.heap.objs.size
 funs:s.heap.FunFrames base outer
 frf:∀b∈frs outer,H b=none
 hok:HOk P w H s.heap
 bare:AllBare s.gens
def CE (outer:List Env) (P:Program) (w:World) (H:Hp) (s:Shared) (Q:VK) (u:Value) (s':Shared):Prop:=
 ∃v H',s'.os=s.os/\AllBare s'.gens/\Un (frs outer) [] H H' s.heap s'.heap/\HOk P w H' s'.heap/\RelV v u/\Q v H'
def CR (CX:CXT) (outer:List Env) (P:Program) (w:World) (H:Hp) (s:Shared) (Q:VK) (E:XK) (r:Result) (s':Shared):Prop:=
 match r with
 | .ok (.ret u)=>CE outer P w H s Q u s'
 | .ok _=>False
 | .error e=>CX outer H s E e s'
structure FnOk (P:Program) (w:World) (K:Za) (mg:Str->Option Value) (base:Heap) (CX:CXT) (k:Nat) (f:Addr) (fd:FuncData) (ps:List Str) (sp:Sp):Prop where
 len:∀vs H Q E,sp vs H Q E->vs.length=ps.length
 run:∀(A:Around) (outer:List Env) (s:Shared) (H:Hp) (args:Args) (us:List Value) (vs:List V) (Q:VK) (E:XK),Room k A->Env0 P w K mg base A outer s H->BindsTo s fd args (ps.zip us)->Vals vs us->sp vs H Q E->
  codeAny (model P w) A (.call (.ref f) args) (CR CX outer P w H s Q E) s
def FnOk.imp {P:Program}{w:World}{K:Za}{mg:Str->Option Value}{base:Heap}{CX:CXT}{k:Nat}{f:Addr}{fd:FuncData}{ps:List Str}{sp sp':Sp} (F:FnOk P w K mg base CX k f fd ps sp)
  (h:∀vs H Q E,sp' vs H Q E->sp vs H Q E):FnOk P w K mg base CX k f fd ps sp':=
 ⟨fun vs H Q E q=>F.len vs H Q E (h _ _ _ _ q),fun A outer s H args us vs Q E hr he hb hv hs=>F.run A outer s H args us vs Q E hr he hb hv (h _ _ _ _ hs)⟩
def Env0.make {P:Program}{w:World}{K:Za}{mg:Str->Option Value}{base:Heap}{A:Around}{outer:List Env}{s:Shared}{H:Hp} (e:Env0 P w K mg base A outer s H) (C:Addr) (us:List Value) (kw:List (Str×Value)) :
  Env0 P w K mg base (A.under (.builtin "type.__call__" ⟨.ref C::us,kw⟩)) outer s H:=⟨by first|exact e.frames|(simpa [Around.under,Code.envs,Code.isFrame,pushEnvs] using e.frames),e.mod,e.bs,e.bsz,e.funs,e.frf,e.hok,e.bare⟩
section
variable {X:Cx}{pins:List (Addr×Obj)}{σ:St}{H:Hp}{s s':Shared}
def Inv.env0 (I:Inv X pins σ H s):Env0 X.prog X.w X.K X.mg X.base X.A X.stack s H:=
 ⟨I.ok.frames,I.ok.mod,I.bs,Yi I.ok.bsz I.sz,I.stack,I.stkFree,I.hok,I.bare⟩
def Inv.after {Q:VK}{u:Value} (I:Inv X pins σ H s) (h:CE X.stack X.prog X.w H s Q u s'):EP X pins σ Q u s':=by
 obtain⟨v,H',os,bare,un,hok,r,q⟩:=h;obtain⟨hh,g,d,t,os'⟩:=s';obtain rfl:os'=s.os:=os;exact⟨v,H',I.call (h':=hh) (g':=g) (d':=d) (t':=t) (ch:=[]) un hok bare (fun b z=>absurd z (by simp)),r,q⟩
end
def U4 (sp:Sp) (dvs:List V) (E:XK) (t:TA):TE:=fun σ H Q=>t σ H fun vs H1=>sp (vs++dvs) H1 Q E
def Ur (C:Addr) (m:Str) (sp:Sp) (dvs:List V) (E:XK) (ta:TE) (t:TA):TE:=fun σ H Q=>ta σ H fun x H1=>∃a dx fs,x=.ref a/\H1 a=some (.ins C dx fs)/\fs.lookup m=none/\
 t σ H1 fun vs H2=>sp (x::(vs++dvs)) H2 Q E
def PH (C:Addr) (sp:Sp) (dvs:List V) (E:XK) (t:TA):TE:=fun σ H Q=>t σ H fun vs H1=>∀x dx,H1 x=none->H1 dx=none->dx≠x->
 sp (.ref x::(vs++dvs)) (upd (upd H1 dx (.own x)) x (.ins C dx [])) (fun v H2=>v=.non/\Q (.ref x) H2) E
def Binds (K:Za) (fd:FuncData) (ps:List Str) (ds:List Value):Prop:=
 ∀(s:Shared) (us:List Value),K.In s.heap->(us++ds).length=ps.length->BindsTo s fd ⟨us,[]⟩ (ps.zip (us++ds))
def Binds.all {K:Za}{fd:FuncData}{ps:List Str} (h:∀us:List Value,us.length=ps.length->bindArgs fd ⟨us,[]⟩=pure (ps.zip us)):Binds K fd ps []:=fun s us _ hl=>by
 rw[Yw] at hl ⊢;exact .of_eq (h us hl)
def JG (CX:CXT) (X:Cx) (E:XK):Prop:=∀(pins:List (Addr×Obj)) (σ:St) (H:Hp) (s:Shared) (e:Value) (s':Shared),Inv X pins σ H s->CX X.stack H s E e s'->X.xe e s'
section
variable {X:Cx}{CX:CXT}{k:Nat}{f C:Addr}{fd:FuncData}{ps:List Str}{sp:Sp}{dvs:List V}{ds:List Value}{E:XK}{x m:Str}{p pos apos:Pos}{e o:Expr}{es:List Expr}{ta:TE}{t:TA}
def KL {pins:List (Addr×Obj)}{σ:St}{H:Hp}{s:Shared}{Q:VK}{us:List Value}{vs:List V} (F:FnOk X.prog X.w X.K X.mg X.base CX k f fd ps sp) (hr:Room k X.A) (hb:Binds X.K fd ps ds) (hd:Vals dvs ds) (hx:JG CX X E)
  (I:Inv X pins σ H s) (r:Vals vs us) (h:sp (vs++dvs) H Q E):wpAny (model X.prog X.w) X.A (call (.ref f) us) (EP X pins σ Q) X.xe s:=by
 have r2:Vals (vs++dvs) (us++ds):=r.append hd;have hl:(us++ds).length=ps.length:=by rw[←r2.length];exact F.len _ _ _ _ h
 refine wpAny_call (Wp (F.run X.A X.stack s H ⟨us,[]⟩ (us++ds) (vs++dvs) Q E hr I.env0 (hb s us I.kIn hl) r2 h) fun r s' hq=>?_);cases r with
 | error e=>exact hx pins σ H s e s' I hq
 | ok fl=>
  cases fl with
  | ret u=>exact I.after hq
  | next=>exact False.elim hq
  | brk=>exact False.elim hq
  | cont=>exact False.elim hq
def Hn (F:FnOk X.prog X.w X.K X.mg X.base CX k f fd ps sp) (hr:Room k X.A) (hg:Gl X x) (hm:X.mg x=some (.ref f)) (hk:PySem.W.keepIn X.K (.ref f)=true) (hb:Binds X.K fd ps ds) (hd:Vals dvs ds) (hx:JG CX X E)
  (ha:PA X (e::es) t) (hdb:(x==("__debug__" : Str))=false:=by decide) (he:starEach (e::es) X.env=(false,eval e X.env)::starEach es X.env:=by rfl) (hpl:(backTo pos (starEach es X.env)).any (·.1)=false:=by rfl) :
  PE X (.Call (.Name x p) (e::es) [] pos) (U4 sp dvs E t):=by
 intro pins s σ H Q I h;refine Wb (Xk I hg hm ?_ hdb);refine Wc (h₀:=X.base) I.ok.mod.kin hk (thn (ha pos pins s σ H _ I h) fun us s1 ⟨vs,H1,I1,r,q⟩=>⟨I1.kIn,?_⟩) he hpl;exact KL F hr hb hd hx I1 r q
def DP {pl:Sem Bool} (he:PE X o ta) (c:Cls X.K C) (hm:Meth X.K C m f) (F:FnOk X.prog X.w X.K X.mg X.base CX k f fd ps sp) (hr:Room k X.A) (hb:Binds X.K fd ps ds) (hd:Vals dvs ds) (hx:JG CX X E) (ha:PA X (e::es) t)
  (hst:starEach (e::es) X.env=(false,eval e X.env)::starEach es X.env:=by rfl) (hpl:(backTo pos (starEach es X.env)).any (·.1)=false:=by rfl)
  (ht:eval (.Call (.Attribute o m apos) (e::es) [] pos) X.env=(do
   let ov ←eval o X.env
   standAt apos.atName
   let (f,first) ←holding [ov] (getMethod ov m pl)
   callWith pos f first (backTo pos (starEach (e::es) X.env)) (backToKw pos (keywordEach [] X.env))):=by rfl) :
  PE X (.Call (.Attribute o m apos) (e::es) [] pos) (Ur C m sp dvs E ta t):=by
 intro pins s σ H Q I h;refine YW (pl:=pl) (thn (he pins s σ H _ I h) fun u s1 ⟨x,H1,I1,rx,a,dx,fs,ex,ea,l,q⟩=>?_) ht;subst ex;obtain rfl:u=Value.ref a:=rx;refine XM I1 ea c hm l ?_;refine Wc (first:=[.ref a]) (h₀:=X.base) I.ok.mod.kin hm.kp (thn (ha pos pins s1 σ H1 _ I1 q) fun us s2 ⟨vs,H2,I2,r,q2⟩=>⟨I2.kIn,?_⟩) hst hpl
 exact KL (us:=.ref a::us) (vs:=.ref a::vs) F hr hb hd hx I2 (.cons rfl r) q2
def Gj {pl:Sem Bool} (he:PE X o ta) (c:Cls X.K C) (hm:Meth X.K C m f) (F:FnOk X.prog X.w X.K X.mg X.base CX k f fd ps sp) (hr:Room k X.A) (hb:Binds X.K fd ps ds) (hd:Vals dvs ds) (hx:JG CX X E)
  (ht:eval (.Call (.Attribute o m apos) [] [] pos) X.env=(do
   let ov ←eval o X.env
   standAt apos.atName
   let (f,first) ←holding [ov] (getMethod ov m pl)
   callWith pos f first (backTo pos (starEach [] X.env)) (backToKw pos (keywordEach [] X.env))):=by rfl) :
  PE X (.Call (.Attribute o m apos) [] [] pos) (Ur C m sp dvs E ta tNil):=by
 intro pins s σ H Q I h;refine YW (pl:=pl) (thn (he pins s σ H _ I h) fun u s1 ⟨x,H1,I1,rx,a,dx,fs,ex,ea,l,q⟩=>?_) ht;subst ex;obtain rfl:u=Value.ref a:=rx;refine XM I1 ea c hm l ?_;exact PySem.W.callWith_K0 (first:=[.ref a]) I1.kIn hm.kp (KL (us:=[.ref a]) (vs:=[.ref a]) F hr hb hd hx I1 (.cons rfl .nil) q)
structure Mk (K:Za) (C f:Addr):Prop where
 makes:PySem.W.makesIn K C=true
 init:PySem.W.findIn K (.ref C) "__init__"=some (some (.ref f))
 fn:PySem.W.isFn K (.ref f)=true
 kp:PySem.W.keepIn K (.ref C)=true
def D3 {pins:List (Addr×Obj)}{σ:St}{H:Hp}{s:Shared}{Q:VK}{us:List Value}{vs:List V} (M:Mk X.K C f) (F:FnOk X.prog X.w X.K X.mg X.base CX k f fd ps sp) (hr:Room (k+1) X.A) (hb:Binds X.K fd ps ds) (hd:Vals dvs ds)
  (hx:JG CX X E) (I:Inv X pins σ H s) (r:Vals vs us)
  (h:∀x dx,H x=none->H dx=none->dx≠x->sp (.ref x::(vs++dvs)) (upd (upd H dx (.own x)) x (.ins C dx [])) (fun v H2=>v=.non/\Q (.ref x) H2) E) :
  wpAny (model X.prog X.w) X.A (call (.ref C) us) (EP X pins σ Q) X.xe s:=by
 have hq:=h (s.heap.objs.size+1) s.heap.objs.size (I.hok.fresh (Nat.le_succ _)) (I.hok.fresh (Ye _)) (YA (Ww _));have I2:=Inv.made (C:=C) I;have r2:Vals (V.ref (s.heap.objs.size+1)::(vs++dvs)) (Value.ref (s.heap.objs.size+1)::(us++ds)):=.cons rfl (r.append hd)
 have hl:(Value.ref (s.heap.objs.size+1)::us++ds).length=ps.length:=by
  have e:=r2.length;rw[F.len _ _ _ _ hq] at e;exact e.symm
 refine wpAny_call (F5 (f:=f) I.kIn M.makes M.init (beq_iff_eq.mp M.fn) (Wp (F.run _ X.stack _ _ ⟨Value.ref (s.heap.objs.size+1)::us,[]⟩ (Value.ref (s.heap.objs.size+1)::(us++ds)) _ _ E (hr.make C us [])
  (I2.env0.make C us []) (hb _ (Value.ref (s.heap.objs.size+1)::us) I2.kIn hl) r2 hq) fun r s' hq'=>?_))
 cases r with
 | error e=>exact hx pins σ _ _ e s' I2 hq'
 | ok fl=>
  cases fl with
  | ret u=>
   obtain⟨v,H',I3,rv,ev,q3⟩:=I2.after hq';subst ev;exact⟨rv,⟨V.ref (s.heap.objs.size+1),H',I3,rfl,q3⟩⟩
  | next=>exact False.elim hq'
  | brk=>exact False.elim hq'
  | cont=>exact False.elim hq'
def GZ (M:Mk X.K C f) (F:FnOk X.prog X.w X.K X.mg X.base CX k f fd ps sp) (hr:Room (k+1) X.A) (hg:Gl X x) (hm:X.mg x=some (.ref C)) (hb:Binds X.K fd ps ds) (hd:Vals dvs ds) (hx:JG CX X E)
  (ha:PA X (e::es) t) (hdb:(x==("__debug__" : Str))=false:=by decide) (he:starEach (e::es) X.env=(false,eval e X.env)::starEach es X.env:=by rfl) (hpl:(backTo pos (starEach es X.env)).any (·.1)=false:=by rfl) :
  PE X (.Call (.Name x p) (e::es) [] pos) (PH C sp dvs E t):=by
 intro pins s σ H Q I h;refine Wb (Xk I hg hm ?_ hdb);refine Wc (h₀:=X.base) I.ok.mod.kin M.kp (thn (ha pos pins s σ H _ I h) fun us s1 ⟨vs,H1,I1,r,q⟩=>⟨I1.kIn,?_⟩) he hpl;exact D3 M F hr hb hd hx I1 r q
end
structure FnScope (N P:List Str) (sc:Scope):Prop where
 kind:sc.kind=.function
 co:sc.isCoroutine=false
 gen:sc.isGenerator=false
 nd:N.Nodup
 pre:N.take P.length=P
 par:∀x∈P,sc.names.lookup x=some .local\/sc.names.lookup x=some .cell
 nofree:∀y∈sc.names,y.2≠.free
def Ft {kindOf:Str->Option NameKind}{x:Str}:∀{binds:List (Str×Value)}{m:Str->Option Value},(∀v,(x,v)∉binds)->bindL kindOf binds m x=m x
 | [],_,_=>rfl
 | (n,v)::r,m,h=>by
  unfold bindL;rw[Ft fun w hw=>h w (Yt _ hw)];split
  ·have:x≠n:=by rintro rfl;exact h v YB
   simp[this]
  ·rfl
def Fy {kindOf:Str->Option NameKind}{x:Str}:∀{binds:List (Str×Value)}{m:Str->Option Value},(∀v,(x,v)∉binds)->bindC kindOf binds m x=m x
 | [],_,_=>rfl
 | (n,v)::r,m,h=>by
  unfold bindC;rw[Fy fun w hw=>h w (Yt _ hw)];split
  ·rfl
  ·have:x≠n:=by rintro rfl;exact h v YB
   simp[this]
def Bh {kindOf:Str->Option NameKind}{x:Str}{v:Value}:∀{P:List Str}{vs:List Value}{i:Nat}{m:Str->Option Value},P.Nodup->P[i]?=some x->vs[i]?=some v->kindOf x=some .local->
  bindL kindOf (P.zip vs) m x=some v
 | [],_,_,_,_,h,_,_=>by simp at h
 | _::_,[],_,_,_,_,h,_=>by simp at h
 | p::P,w::vs,0,m,nd,h1,h2,hk=>by
  simp at h1 h2;subst h1;subst h2;show bindL kindOf ((p,w)::P.zip vs) m p=_;unfold bindL;rw[Ft fun v hv=>(YX.mp nd).1 (List.of_mem_zip hv).1,ZV hk];simp
 | p::P,w::vs,i+1,m,nd,h1,h2,hk=>by
  show bindL kindOf ((p,w)::P.zip vs) m x=_;unfold bindL;exact Bh (i:=i) (YX.mp nd).2 (by simpa using h1) (by simpa using h2) hk
def NZ {kindOf:Str->Option NameKind}{x:Str}{v:Value}:∀{P:List Str}{vs:List Value}{i:Nat}{m:Str->Option Value},P.Nodup->P[i]?=some x->vs[i]?=some v->kindOf x≠some .local->
  bindC kindOf (P.zip vs) m x=some v
 | [],_,_,_,_,h,_,_=>by simp at h
 | _::_,[],_,_,_,_,h,_=>by simp at h
 | p::P,w::vs,0,m,nd,h1,h2,hk=>by
  simp at h1 h2;subst h1;subst h2;show bindC kindOf ((p,w)::P.zip vs) m p=_;unfold bindC;rw[Fy fun v hv=>(YX.mp nd).1 (List.of_mem_zip hv).1,ZU hk];simp
 | p::P,w::vs,i+1,m,nd,h1,h2,hk=>by
  show bindC kindOf ((p,w)::P.zip vs) m x=_;unfold bindC;exact NZ (i:=i) (YX.mp nd).2 (by simpa using h1) (by simpa using h2) hk
def start (N:List Str) (vs:List V):St:=vs.map some++List.replicate (N.length-vs.length) none
def cxOf (CX:CXT) (P:Program) (w:World) (K:Za) (mg:Str->Option Value) (base:Heap) (N:List Str) (qual:Str) (scope:Scope) (f:Addr) (cd:Value) (A:Around) (outer:List Env) (s:Shared) (H:Hp) (E:XK):Cx where
 prog:=P
 w:=w
 K:=K
 mg:=mg
 base:=base
 A:=A.deeper (envOfC qual scope s.heap.objs.size f cd)
 N:=N
 s₀:=s
 H₀:=H
 env:=envOfC qual scope s.heap.objs.size f cd
 outer:=outer
 stack:=envOfC qual scope s.heap.objs.size f cd::outer
 ex:=[]
 calm:=true
 fn:=fun _=>true
 pn:=[]
 xe:=fun e s'=>wpAny (model P w) (A.deeper (envOfC qual scope s.heap.objs.size f cd)) (leaving (envOfC qual scope s.heap.objs.size f cd) e) (fun _ s''=>CX outer H s E e s'') (fun e' s''=>CX outer H s E e' s'') s'
def NH {sc:Scope}{n:Nat}{x:Str} (h:sc.names.lookup x=some .cell):∃c,(cellsFrom n sc.names []).lookup x=some c:=by
 have q:=PySem.W.cellsFrom_some sc.names n [] (.inl h);exact Option.isSome_iff_exists.mp q
def Dw {CX:CXT}{P:Program}{w:World}{K:Za}{mg:Str->Option Value}{base:Heap}{N ps:List Str}{qual:Str}{scope:Scope}{f:Addr}{cd:Value}{A:Around}{outer:List Env}{s s1:Shared}{H:Hp}{E:XK}{us:List Value}{vs:List V}
  (S:FnScope N ps scope) (hd:A.handled=none) (e0:Env0 P w K mg base A outer s H) (hl:vs.length=ps.length) (r:Vals vs us)
  (x:InCallC s s.heap.objs.size (bindL (envOfC qual scope s.heap.objs.size f cd).kindOf (ps.zip us) fun _=>none) (cellsFrom (s.heap.objs.size+1) scope.names []) (bindC (envOfC qual scope s.heap.objs.size f cd).kindOf (ps.zip us) fun _=>none) s1) :
  Inv (cxOf CX P w K mg base N qual scope f cd A outer s H E) [] (start N vs) H s1:=by
 have hpl:ps.length<=N.length:=by have:=Y0 List.length S.pre;rw[Wl] at this;omega
 obtain⟨h1,tk,rfl,hk⟩:=x.done;have noA:∀b:Addr,b∉(cxOf CX P w K mg base N qual scope f cd A outer s H E).ex:=fun b z=>absurd (show b∈([]:List Addr) from z) (by simp)
 refine⟨⟨e0.mod,S.kind,rfl,rfl,Ye _,fun y z c h1 h2=>?_,fun y hy=>?_,fun y c _ h=>?_,fun _=>hd,Around.frames_deeper e0.frames,.inr ⟨rfl,rfl⟩,fun b z=>absurd z (noA b),e0.bs,e0.bsz,fun b _ _=>noA b,fun b z=>absurd z (noA b),e0.funs,e0.frf⟩,
  rfl,e0.bare,Un.kept hk,⟨_,x.toInCall.ns,fun i y v h1 h2 h3=>?_⟩,fun y c h=>⟨_,x.cell y c h⟩,e0.hok.fresh (Ye _),fun y c h=>?_,fun p hp=>absurd (show p∈([]:List (Addr×Obj)) from hp) (by simp),e0.hok.kept hk,?_⟩
 ·exact name_of_addr x.apart (YT h1) (YT h2)
 ·have hy:scope.names.lookup y=some .cell\/scope.names.lookup y=some .free:=hy;rcases hy with hy|hy
  ·exact NH hy
  ·exact absurd rfl (S.nofree _ (YT hy))
 ·exact WC (x.above y c (YT h))
 ·have hi:i<vs.length:=by
   unfold start at h2;by_cases hi:i<vs.length
   ·exact hi
   ·rw[Yz (by simpa using hi)] at h2;rw[YS] at h2;split at h2<;>cases h2
  have ha:vs[i]?=some v:=by
   unfold start at h2;rw[Y3 (by simpa using hi),ZY] at h2;cases e:vs[i]? with
   | none=>rw[e] at h2;cases h2
   | some a=>rw[e] at h2;cases h2;rfl
  obtain⟨u,hu,rv⟩:=r.get ha
  have hp:ps[i]?=some y:=by
   rw[←S.pre,List.getElem?_take_of_lt (by omega)];exact h1
  have ndP:ps.Nodup:=by rw[←S.pre];exact S.nd.sublist (List.take_sublist _ _)
  refine⟨u,rv,?_⟩;rcases S.par y (Yh hp) with k|k
  ·exact .inl ⟨k,Bh ndP hp hu k⟩
  ·obtain⟨c,e⟩:=NH (n:=s.heap.objs.size+1) k;refine .inr ⟨.inl k,c,e,?_⟩;have q:=x.cell y c e;rw[NZ ndP hp hu (by show scope.names.lookup y≠_;rw[k];decide)] at q;exact q
 ·exact e0.hok.fresh (WC (x.above y c (YT h)))
 ·unfold start;show _=N.length;rw[ZZ,ZR,List.length_replicate];omega
def Te {CX:CXT}{P:Program}{w:World}{K:Za}{mg:Str->Option Value}{base:Heap}{k:Nat}{f:Addr}{name qual:Str}{params:Arguments}{body:List Stmt}{scope:Scope}{dV kV doc pm cdv ct oc:Value}{an od:Option Addr}
  {osl:Array (Option Value)} {N ps:List Str} {sp:Sp} (lk:K.lookup f=some ⟨oc,od,.func (PySem.W.fnOf name qual params body scope dV kV doc pm an cdv ct),osl⟩) (hcd:PySem.W.codeIn K cdv qual=true) (S:FnScope N ps scope)
  (len:∀vs H Q E,sp vs H Q E->vs.length=ps.length)
  (hbody:∀(A:Around) (outer:List Env) (s:Shared) (H:Hp) (vs:List V) (Q:VK) (E:XK),Room k (A.deeper (envOfC qual scope s.heap.objs.size f cdv))->sp vs H Q E->
   ∃t,PSs (cxOf CX P w K mg base N qual scope f cdv A outer s H E) body t/\t { nx:=fun _ H'=>Q .non H',rt:=Q } (start N vs) H) :
  FnOk P w K mg base CX (k+1) f (PySem.W.fnOf name qual params body scope dV kV doc pm an cdv ct) ps sp:=by
 refine⟨len,fun A outer s H args us vs Q E hr e0 hb r hsp=>?_⟩;have hl:=len _ _ _ _ hsp;have KX:K.In s.heap:=e0.mod.kin.keeps fun b o e=>(e0.bs b o e).1;have lim:s.heap.NoLimit:=e0.mod.nolimit.keeps fun b o e=>(e0.bs b o e).1
 have hkind:∀y∈ps.zip us,scope.names.lookup y.1=some .local\/(scope.names.lookup y.1=some .cell/\((cellsFrom (s.heap.objs.size+1) scope.names []).lookup y.1).isSome=true):=fun⟨n,v⟩ hy=>by
  rcases S.par n (List.of_mem_zip hy).1 with q|q
  ·exact .inl q
  ·exact .inr ⟨q,PySem.W.cellsFrom_some _ _ _ (.inl q)⟩
 refine codeAny_call_function hr.depth (KX _ _ lk) rfl S.co S.gen rfl (PySem.W.codeRec_of KX hcd) (hb _ _ _ _ ?_);refine wpAny_newFunctionEnv_cells S.kind hkind fun env he s1 x=>?_;subst he;refine⟨lim.keeps x.toInCall.keep,codeAny_func ?_⟩;obtain⟨t,ht,hq⟩:=hbody A outer s H vs Q E (hr.deeper _) hsp;have I:Inv (cxOf CX P w K mg base N qual scope f cdv A outer s H E) [] (start N vs) H s1:=Dw S hr.hd e0 hl r x;refine YN (ht [] s1 (start N vs) H _ I hq) (fun fl s' hs=>?_) fun e s' hs=>hs
 have fin:∀{σ':St} {H':Hp} {v:V} {u:Value},Inv (cxOf CX P w K mg base N qual scope f cdv A outer s H E) [] σ' H' s'->RelV v u->Q v H'->CE outer P w H s Q u s':=
  fun {σ' H' v u} J rv q=>⟨v,H',J.os,J.bare,J.base,J.hok,rv,q⟩
 cases fl with
 | ret u=>
  obtain⟨v,σ',H',J,rv,q⟩:=hs;exact fin J rv q
 | next=>
  obtain⟨σ',H',J,q⟩:=hs;exact fin (v:=V.non) (u:=Value.none) J rfl q
 | brk=>
  obtain⟨_,_,_,q⟩:=hs;exact False.elim q
 | cont=>
  obtain⟨_,_,_,q⟩:=hs;exact False.elim q
section
variable {X:Cx}{x:Str}{p pos:Pos}{e:Expr}{es:List Expr}{t:TA}{id T:String}{r:List V->Hp->VK->Prop}
def tCB (r:List V->Hp->VK->Prop) (t:TA):TE:=fun σ H Q=>t σ H fun vs H1=>r vs H1 Q
def VH (hc:J7 X (.builtin id) r) (hg:Gl X x) (hm:X.mg x=none) (hv:bootBuiltins x=some (.builtin id)) (ha:PA X (e::es) t) (hn:x≠"__name__":=by decide) (hdb:(x==("__debug__" : Str))=false:=by decide)
  (he:starEach (e::es) X.env=(false,eval e X.env)::starEach es X.env:=by rfl) (hpl:(backTo pos (starEach es X.env)).any (·.1)=false:=by rfl):PE X (.Call (.Name x p) (e::es) [] pos) (tCB r t):=by
 intro pins s σ H Q I h;refine Wb (X7 I hg hm hv ?_ hn hdb);exact PyProof.Rows.callWith_builtin1 (thn (ha pos pins s σ H _ I h) fun us s1 ⟨vs,H1,I1,r1,q1⟩=>hc pins s1 σ H1 vs us Q I1 r1 q1) he hpl
def Uy (hc:J7 X (.type T) r) (hg:Gl X x) (hm:X.mg x=none) (hv:bootBuiltins x=some (.type T)) (ha:PA X (e::es) t) (hn:x≠"__name__":=by decide) (hdb:(x==("__debug__" : Str))=false:=by decide)
  (he:starEach (e::es) X.env=(false,eval e X.env)::starEach es X.env:=by rfl) (hpl:(backTo pos (starEach es X.env)).any (·.1)=false:=by rfl):PE X (.Call (.Name x p) (e::es) [] pos) (tCB r t):=by
 intro pins s σ H Q I h;refine Wb (X7 I hg hm hv ?_ hn hdb);exact Wi (thn (ha pos pins s σ H _ I h) fun us s1 ⟨vs,H1,I1,r1,q1⟩=>hc pins s1 σ H1 vs us Q I1 r1 q1) he hpl
end
end L2
namespace HT
open PySem PyProof.Rows
section
variable {prog:Program}{w:World}{A:Around}{E:Value->Shared->Prop}{s:Shared}
def sIx (n d:Nat):Option Int->Nat
 | none=>d
 | some v=>if v<0 then(v+(n:Int)).toNat else min v.toNat n
def Se (n d:Nat):sIx n d none=d:=rfl
def Kd (n d k:Nat):sIx n d (some (k:Int))=min k n:=by
 show(if (k:Int)<0 then((k:Int)+(n:Int)).toNat else min (k:Int).toNat n)=min k n;rw[ZU (by omega),WA]
end
end HT
namespace L2
open PySem PySem.Spec PyProof.Rows
abbrev TO:=St->Hp->(Option Int->Hp->Prop)->Prop
def PO (X:Cx) (e:Option Expr) (t:TO):Prop:=
 ∀(pins:List (Addr×Obj)) (s:Shared) (σ:St) (H:Hp) (Q:Option Int->Hp->Prop),Inv X pins σ H s->t σ H Q->
  wpAny (model X.prog X.w) X.A (evalPart e X.env) (fun u s'=>∃o H',Inv X pins σ H' s'/\IsPart u o/\Q o H') X.xe s
def B9:TO:=fun _ H Q=>Q none H
def Fn (t:TE):TO:=fun σ H Q=>t σ H fun x H1=>∃i,x=.int i/\Q (some i) H1
section
variable {X:Cx}{e:Expr}{te:TE}{lo hi:Option Expr}{tl th:TO}{pos p2:Pos}
def JD:PO X none B9:=by
 intro pins s σ H Q I h;rw[evalPart_none];exact YC ⟨none,H,I,.none,h⟩
def Jy (h:PE X e te):PO X (some e) (Fn te):=by
 intro pins s σ H Q I hw;rw[evalPart_some];refine thn (h pins s σ H _ I hw) fun u s1 ⟨x,H1,I1,r1,q1⟩=>?_;obtain⟨i,rfl,q⟩:=q1;obtain⟨t,rfl⟩:=r1;exact⟨some i,H1,I1,.int i t,q⟩
def SlR (X:Cx) (r:V->Option Int->Option Int->Hp->VK->Prop):Prop:=
 ∀(pins:List (Addr×Obj)) (s:Shared) (σ:St) (H:Hp) (x:V) (v vl vu:Value) (lo hi:Option Int) (sl:Addr) (Q:VK),Inv X pins σ H s->RelV x v->s.heap.IsSliceOf sl vl vu .none->IsPart vl lo->IsPart vu hi->r x lo hi H Q->
  ∃T id,typeLookup (.type T) "__getitem__"=pure (some (.builtin id))/\s.TypeIs v T/\wpAny (model X.prog X.w) X.A (getItem v (.ref sl)) (EP X pins σ Q) X.xe s
def tSl (r:V->Option Int->Option Int->Hp->VK->Prop) (te:TE) (tl th:TO):TE:=fun σ H Q=>te σ H fun x H1=>tl σ H1 fun l H2=>th σ H2 fun u H3=>r x l u H3 Q
def J9 {r:V->Option Int->Option Int->Hp->VK->Prop} (hr:SlR X r) (he:PE X e te) (hl:PO X lo tl) (hu:PO X hi th):PE X (.Subscript e (.Slice lo hi none p2) pos) (tSl r te tl th):=by
 intro pins s σ H Q I h;refine Subscript_ (thn (he pins s σ H _ I h) fun v s1 ⟨x,H1,I1,r1,q1⟩=>?_);refine wpAny_Slice (thn (hl pins s1 σ H1 _ I1 q1) fun vl s2 ⟨l,H2,I2,pl,q2⟩=>thn (hu pins s2 σ H2 _ I2 q2) fun vu s3 ⟨u,H3,I3,pu,q3⟩=>?_);rw[evalPart_none];refine YC ?_;have I4:Inv X pins σ H3 { s3 with heap:=s3.heap.push { cls:=.type "slice",data:=.fields #[vl,vu,.none] } }:=I3.kept (t':=s3.toks) fun b ob q=>Yj _ q
 obtain⟨T,id,hT,ht,hg⟩:=hr pins { s3 with heap:=s3.heap.push { cls:=.type "slice",data:=.fields #[vl,vu,.none] } } σ H3 x v vl vu l u s3.heap.objs.size Q I4 r1 (Heap.IsSliceOf.new ..) pl pu q3
 show wpAny (model X.prog X.w) X.A (subscriptTail e (.Slice lo hi none p2) v (.ref s3.heap.objs.size)) (EP X pins σ Q) X.xe { s3 with heap:=s3.heap.push { cls:=.type "slice",data:=.fields #[vl,vu,.none] } }
 exact tail_any (ops:=[.ref s3.heap.objs.size,v]) ht hT hg (by with_unfolding_all rfl)
def cutV (xs:List V) (lo hi:Option Int):List V:=(xs.drop (HT.sIx xs.length 0 lo)).take (HT.sIx xs.length xs.length hi-HT.sIx xs.length 0 lo)
def DN (xs:List V) (lo hi:Option Int):(cutV xs lo hi).length<=xs.length:=by
 unfold cutV;rw[Wl,Wx];omega
end
def ixN (n:Nat) (i:Int):Option Nat:=if 0<=i then(if i<n then some i.toNat else none) else if -(n:Int)<=i then some (i+n).toNat else none
def atI {α:Type} (xs:List α) (i:Int):Option α:=(ixN xs.length i).bind fun j=>xs[j]?
def ND {n:Nat}{i:Int}{j:Nat} (h:ixN n i=some j):seqIndex? i n=some j/\j<n/\-(n:Int)<=i/\i<n:=by
 unfold ixN at h;by_cases h0:0<=i
 ·rw[ZV h0] at h;by_cases h1:i<n
  ·rw[ZV h1] at h;have e:i.toNat=j:=Ya h;exact⟨by rw[seqIndex_of h0 h1,e],by omega,by omega,h1⟩
  ·rw[ZU h1] at h;cases h
 ·rw[ZU h0] at h;by_cases h1:-(n:Int)<=i
  ·rw[ZV h1] at h;have e:(i+n).toNat=j:=Ya h;exact⟨by rw[seqIndex_neg (by omega) h1,e],by omega,h1,by omega⟩
  ·rw[ZU h1] at h;cases h
def BR {α:Type}{xs:List α}{i:Int}{v:α} (h:atI xs i=some v):∃j,seqIndex? i xs.length=some j/\xs[j]?=some v/\j<xs.length/\-(xs.length:Int)<=i/\i<xs.length:=by
 unfold atI at h;cases e:ixN xs.length i with
 | none=>rw[e] at h;cases h
 | some j=>
  rw[e] at h;obtain⟨h1,h2,h3,h4⟩:=ND e;exact⟨j,h1,h,h2,h3,h4⟩
def Ks {α:Type}{xs:List α}{j:Nat}{v:α} (h:xs[j]?=some v):atI xs (j:Int)=some v:=by
 have hj:j<xs.length:=(Yo.mp h).1
 have e:ixN xs.length (j:Int)=some j:=by
  unfold ixN;rw[ZV (by omega),ZV (by omega)];simp
 unfold atI;rw[e];exact h
def NM (b:Expr):Prop:=∀o i,subscripted b false o i=operate [o,i] (getItem o i)
def IxR (X:Cx) (r:R2):Prop:=
 ∀(value slice:Expr) (pins:List (Addr×Obj)) (s:Shared) (σ:St) (H:Hp) (x y:V) (v u:Value) (Q:VK),Inv X pins σ H s->RelV x v->RelV y u->r x y H Q->
  subscripted slice false v u=operate [v,u] (getItem v u)->wpAny (model X.prog X.w) X.A (subscriptTail value slice v u) (EP X pins σ Q) X.xe s
def MtR (X:Cx) (id:String) (r:V->List V->Hp->VK->Prop):Prop:=
 ∀(pins:List (Addr×Obj)) (s:Shared) (σ:St) (H:Hp) (x:V) (xs:List V) (v:Value) (us:List Value) (Q:VK),Inv X pins σ H s->RelV x v->Vals xs us->r x xs H Q->
  wpAny (model X.prog X.w) X.A (call (.builtin id) (v::us)) (EP X pins σ Q) X.xe s
section
variable {X:Cx}{a b:Expr}{ta tb:TE}{pos:Pos}
def IxR.or {r r':R2} (h:IxR X r) (h':IxR X r'):IxR X (fun x y H Q=>r x y H Q\/r' x y H Q):=by
 intro value slice pins s σ H x y v u Q I rx ry q hs;rcases q with q|q
 ·exact h value slice pins s σ H x y v u Q I rx ry q hs
 ·exact h' value slice pins s σ H x y v u Q I rx ry q hs
def NR {r:R2} (hr:IxR X r) (ha:PE X a ta) (hb:PE X b tb) (hs:NM b):PE X (.Subscript a b pos) (tOp r ta tb):=by
 intro pins s σ H Q I h;exact Subscript_ (binT ha hb I h fun v u s2 x y H2 I2 rx ry q=>hr a b pins s2 σ H2 x y v u Q I2 rx ry q (hs _ _))
def rIxL (K:Za):R2:=fun x y H Q=>∃p xs i v,x=.ref p/\y=.int i/\SqL K H p xs/\atI xs i=some v/\Q v H
def rIxT (K:Za):R2:=fun x y H Q=>∃p xs i v,x=.ref p/\y=.int i/\SqT K H p xs/\atI xs i=some v/\Q v H
def ix_list:IxR X (rIxL X.K):=by
 intro value slice pins s σ H x y v u Q I rx ry h hs;obtain⟨p,xs,i,z,rfl,rfl,hq,he,q⟩:=h;cases rx
 obtain⟨t,rfl⟩:=ry;obtain⟨its,r,pl,hz⟩:=I.list hq;obtain⟨j,h1,h2,h3,h4,h5⟩:=BR he;obtain⟨w,ew,rw'⟩:=r.get h2;have hl:=r.length;have hn:=XI;have fin:EP X pins σ Q w s:=⟨z,H,I,rw',q⟩;by_cases h0:0<=i
 ·have hj:i.toNat=j:=by
   rw[seqIndex_of h0 h5] at h1;exact Ya h1
  exact item_listR pl.isList h0 (by omega) (by rw[hj];simpa using ew) fin hs
 ·have hj:(i+(its.toArray.size:Int)).toNat=j:=by
   rw[seqIndex_neg (by omega) h4] at h1;rw[Yd,←hl];exact Ya h1
  exact subscriptTail_builtinR (x:=w) pl.isList.typeIs slot_list_getitem.lookup
   (wpAny_getItem_list_neg (Q:=fun r s'=>r=w/\EP X pins σ Q r s') pl.isList (by omega) (by rw[Yd]<;>omega) (by omega) (by rw[hj];simpa using ew) ⟨rfl,fin⟩) hs
def G9:IxR X (rIxT X.K):=by
 intro value slice pins s σ H x y v u Q I rx ry h hs;obtain⟨p,xs,i,z,rfl,rfl,hq,he,q⟩:=h;cases rx
 obtain⟨t,rfl⟩:=ry;obtain⟨its,r,pl,hz⟩:=I.tuple hq;obtain⟨j,h1,h2,h3,h4,h5⟩:=BR he;obtain⟨w,ew,rw'⟩:=r.get h2;have hl:=r.length;have hn:=XI;have fin:EP X pins σ Q w s:=⟨z,H,I,rw',q⟩
 exact subscriptTail_builtinR (x:=w) pl.typeIs slot_tuple_getitem.lookup
  (getItem_tuple (j:=j) (Q:=fun r s'=>r=w/\EP X pins σ Q r s') pl (by omega) (by omega) (by rw[Yd,←hl];exact h1) (by simpa using ew) ⟨rfl,fin⟩) hs
def HG (its:List Value) (n j:Nat) (u:Value):Obj.mapSeq (·.setIfInBounds j u) { cls:=.type "list",data:=.seq its.toArray n }={ cls:=.type "list",data:=.seq (its.set j u).toArray n }:=by
 simp[Obj.mapSeq]
def Inv.lst {pins:List (Addr×Obj)}{σ:St}{H:Hp}{s:Shared}{p:Addr}{xs:List V} (I:Inv X pins σ H s) (h:H p=some (.lst xs)) :
  ∃(its:List Value) (n:Nat),Vals xs its/\s.heap.get? p=some { cls:=.type "list",data:=.seq its.toArray n }/\xs.length<=sizeLine:=by
 obtain⟨z,its,n,r,e⟩:=I.hok p _ h;exact⟨its,n,r,e,z⟩
def Inv.lstUpd {pins:List (Addr×Obj)}{σ:St}{H:Hp}{s:Shared}{p:Addr}{xs ys:List V}{its its':List Value}{n n':Nat}{f:Obj->Obj} (I:Inv X pins σ H s) (h:H p=some (.lst xs))
  (ho:s.heap.get? p=some { cls:=.type "list",data:=.seq its.toArray n }) (hf:f { cls:=.type "list",data:=.seq its.toArray n }={ cls:=.type "list",data:=.seq its'.toArray n' }) (r:Vals ys its') (hz:ys.length<=sizeLine) (t:Nat) :
  Inv X pins σ (upd H p (.lst ys)) { s with heap:=s.heap.update p f,toks:=t }:=by
 have e:(s.heap.update p f).get? p=some { cls:=.type "list",data:=.seq its'.toArray n' }:=by
  rw[Wz f ho (by rw[hf]<;>rfl),hf]
 refine I.write (x:=p) (e:=p) (by rw[h];trivial) (.inl rfl) (fun b u hb q=>(YJ _ _ (Ne.symm hb)).trans q) ⟨_,e⟩ ?_;exact⟨hz,its',n',r,e⟩
def Fk:V->V->V->Hp->(Hp->Prop)->Prop:=fun o i v H Q=>∃p xs k j,o=.ref p/\i=.int k/\H p=some (.lst xs)/\ixN xs.length k=some j/\Q (upd H p (.lst (xs.set j v)))
def FA:PSet X Fk:=by
 intro pins s σ H o i v ov iv u Q I ro ri rv h;obtain⟨p,xs,k,j,rfl,rfl,hp,hj,q⟩:=h;cases ro
 obtain⟨t,rfl⟩:=ri;obtain⟨its,n,r,ho,hz⟩:=I.lst hp;obtain⟨h1,h2,h3,h4⟩:=ND hj;have hl:=r.length;have hn:=XI
 have I':Inv X pins σ (upd H p (.lst (xs.set j v))) { s with heap:=s.heap.update p (Obj.mapSeq (·.setIfInBounds j u)) }:=
  I.lstUpd hp ho (HG its n j u) (r.set rv j) (by rw[YE];exact hz) s.toks
 by_cases h0:0<=k
 ·have hk:k.toNat=j:=by
   rw[seqIndex_of h0 h4] at h1;exact Ya h1
  exact PySem.W.ki_setAt ho h0 (by omega) (by rw[Yd,←hl];exact h4) (by rw[hk];exact⟨_,I',q⟩)
 ·have hk:(k+(its.toArray.size:Int)).toNat=j:=by
   rw[seqIndex_neg (by omega) h3] at h1;rw[Yd,←hl];exact Ya h1
  exact PySem.W.ki_setBack ho (by omega) (by rw[Yd,←hl];exact h3) (by omega) (by rw[hk];exact⟨_,I',q⟩)
def Cj (lo hi:Option Int) (n:Nat):(sliceBounds lo hi none n).1=((HT.sIx n 0 lo:Nat):Int)/\(sliceBounds lo hi none n).2.1=((HT.sIx n n hi:Nat):Int)/\(sliceBounds lo hi none n).2.2=1:=by
 refine⟨?_,?_,rfl⟩
 ·cases lo with
  | none=>simp[sliceBounds,HT.sIx]
  | some i=>
   simp only[sliceBounds,HT.sIx,Option.getD_none,show(1:Int)>0 by decide,if_true];by_cases h:i<0
   ·simp only[h,if_true]<;>omega
   ·simp only[h,if_false]<;>omega
 ·cases hi with
  | none=>simp[sliceBounds,HT.sIx]
  | some i=>
   simp only[sliceBounds,HT.sIx,Option.getD_none,show(1:Int)>0 by decide,if_true];by_cases h:i<0
   ·simp only[h,if_true]<;>omega
   ·simp only[h,if_false]<;>omega
def Eb (its:List Value) (lo hi:Option Int):slicePick its.toArray lo hi none=((its.drop (HT.sIx its.length 0 lo)).take (HT.sIx its.length its.length hi-HT.sIx its.length 0 lo)).toArray:=by
 obtain⟨h1,h2,h3⟩:=Cj lo hi its.toArray.size;unfold slicePick;rw[h1,h2,h3];simp only[sliceRange_one,pick_run,Yd]<;>rfl
def rSlL (K:Za):V->Option Int->Option Int->Hp->VK->Prop:=fun x lo hi H Q=>∃a xs,x=.ref a/\SqL K H a xs/\∀p,H p=none->Q (.ref p) (upd H p (.lst (cutV xs lo hi)))
def AI:SlR X (rSlL X.K):=by
 intro pins s σ H x v vl vu lo hi sl Q I rx hs pl pu h;obtain⟨a,xs,rfl,hx,q⟩:=h;cases rx
 obtain⟨its,r,ht,hz⟩:=I.list hx;have hlen:=r.length;refine⟨"list",_,slot_list_getitem.lookup,ht.isList.typeIs,?_⟩;refine wpAny_getItem_list_slice ht.isList hs pl pu .none (by simp) ?_ (by rw[Yd]<;>omega);rw[Eb,←hlen];refine⟨.ref s.heap.objs.size,_,I.laid (t':=s.toks) (o:=.lst (cutV xs lo hi)) (fun b ob q=>Yj _ q) (Ye _) ?_,rfl,q _ (I.hok.fresh (Ye _))⟩;exact⟨Yi (DN xs lo hi) hz,_,0,(r.drop (HT.sIx xs.length 0 lo)).take (HT.sIx xs.length xs.length hi-HT.sIx xs.length 0 lo),Y2 _ rfl⟩
def Jf:V->Bool
 | .non=>true
 | .bl _=>true
 | .int _=>true
 | .str _=>true
 | _=>false
def eqV:V->V->Bool
 | .non,.non=>true
 | .bl a,.bl b=>a==b
 | .bl a,.int b=>(if a then 1 else 0)==b
 | .int a,.bl b=>a==(if b then 1 else 0)
 | .int a,.int b=>a==b
 | .str a,.str b=>a==b
 | _,_=>false
def NQ {A:Around}{s:Shared}{y x:V}{u v:Value} (ry:RelV y u) (rx:RelV x v) (fy:Jf y=true) (fx:Jf x=true):SeqAt.EqAt A s u v (eqV y x):=by
 cases y with
 | non=>
  cases ry
  cases x with
  | non=>cases rx;exact SeqAt.EqAt.same _
  | bl b=>cases rx;exact SeqAt.EqAt.none_bool b
  | int b=>obtain⟨t,rfl⟩:=rx;exact SeqAt.EqAt.none_int b t
  | str b=>obtain⟨t,rfl⟩:=rx;exact SeqAt.EqAt.none_str b t
  | _=>exact absurd (show false=true from fx) Yl
 | bl a=>
  cases ry
  cases x with
  | non=>cases rx;exact SeqAt.EqAt.bool_none a
  | bl b=>cases rx;exact SeqAt.EqAt.bool_bool a b
  | int b=>obtain⟨t,rfl⟩:=rx;exact SeqAt.EqAt.bool_int a b t
  | str b=>obtain⟨t,rfl⟩:=rx;exact SeqAt.EqAt.bool_str a b t
  | _=>exact absurd (show false=true from fx) Yl
 | int a=>
  obtain⟨t',rfl⟩:=ry;cases x with
  | non=>cases rx;exact SeqAt.EqAt.int_none a t'
  | bl b=>cases rx;exact SeqAt.EqAt.int_bool a t' b
  | int b=>obtain⟨t,rfl⟩:=rx;exact SeqAt.EqAt.int_int a t' b t
  | str b=>obtain⟨t,rfl⟩:=rx;exact SeqAt.EqAt.int_str a t' b t
  | _=>exact absurd (show false=true from fx) Yl
 | str a=>
  obtain⟨t',rfl⟩:=ry;cases x with
  | non=>cases rx;exact SeqAt.EqAt.str_none a t'
  | bl b=>cases rx;exact SeqAt.EqAt.str_bool a t' b
  | int b=>obtain⟨t,rfl⟩:=rx;exact SeqAt.EqAt.str_int a t' b t
  | str b=>obtain⟨t,rfl⟩:=rx;exact SeqAt.EqAt.str_str a t' b t
  | _=>exact absurd (show false=true from fx) Yl
 | _=>exact absurd (show false=true from fy) Yl
def eqU (x:V) (u:Value):Bool:=match u with
 | .none=>eqV .non x
 | .bool b=>eqV (.bl b) x
 | .int i _=>eqV (.int i) x
 | .str z _=>eqV (.str z) x
 | _=>false
def NI {x y:V}{u:Value} (r:RelV y u) (f:Jf y=true):eqU x u=eqV y x:=by
 cases y with
 | non=>cases r;rfl
 | bl b=>cases r;rfl
 | int i=>obtain⟨t,rfl⟩:=r;rfl
 | str z=>obtain⟨t,rfl⟩:=r;rfl
 | _=>exact absurd (show false=true from f) Yl
def XB {x:V}:∀{xs:List V}{us:List Value},Vals xs us->xs.all Jf=true->us.any (eqU x)=xs.any fun y=>eqV y x
 | _,_,.nil,_=>rfl
 | y::xs,u::us,.cons r t,f=>by
  rw[List.all_cons,YU] at f;rw[W9,W9,NI r f.1,XB t f.2]
def X9 {A:Around}{s:Shared}{x:V}{v:Value} (rx:RelV x v) (fx:Jf x=true):∀{xs:List V}{us:List Value},Vals xs us->xs.all Jf=true->∀u∈us,SeqAt.EqAt A s u v (eqU x u)
 | _,_,.nil,_=>fun u hu=>by cases hu
 | y::xs,u::us,.cons r t,f=>fun u' hu=>by
  rw[List.all_cons,YU] at f;rcases Ym.mp hu with rfl|hu
  ·rw[NI r f.1];exact NQ r rx f.1 fx
  ·exact X9 rx fx t f.2 u' hu
def inV (x:V) (xs:List V):Bool:=xs.any fun y=>eqV y x
def rIn (K:Za) (neg:Bool):R2:=fun x y H Q=>∃p xs,y=.ref p/\(SqL K H p xs\/SqT K H p xs)/\Jf x=true/\xs.all Jf=true/\Q (.bl (if neg then !inV x xs else inV x xs)) H
def DS:OpR X (compareOp .In) (rIn X.K false):=by
 intro pins s σ H x y v u Q I rx ry h;obtain⟨p,xs,rfl,hq,fx,fs,q⟩:=h;cases ry
 rcases hq with hq|hq
 ·obtain⟨its,r,pl,hz⟩:=I.list hq;refine SeqAt.in_listAt (eqU x) pl.isList (fun w hw=>X9 rx fx r fs w (by simpa using hw)) ⟨.bl _,H,I,rfl,?_⟩;rw[show its.toArray.any (eqU x)=its.any (eqU x) by simp,XB r fs];exact q
 ·obtain⟨its,r,pl,hz⟩:=I.tuple hq;refine SeqAt.in_tupleAt (eqU x) pl (fun w hw=>X9 rx fx r fs w (by simpa using hw)) ⟨.bl _,H,I,rfl,?_⟩;rw[show its.toArray.any (eqU x)=its.any (eqU x) by simp,XB r fs];exact q
def Ht:OpR X (compareOp .NotIn) (rIn X.K true):=by
 intro pins s σ H x y v u Q I rx ry h;obtain⟨p,xs,rfl,hq,fx,fs,q⟩:=h;cases ry
 rcases hq with hq|hq
 ·obtain⟨its,r,pl,hz⟩:=I.list hq;refine SeqAt.notIn_listAt (eqU x) pl.isList (fun w hw=>X9 rx fx r fs w (by simpa using hw)) ⟨.bl _,H,I,rfl,?_⟩;rw[show its.toArray.any (eqU x)=its.any (eqU x) by simp,XB r fs];exact q
 ·obtain⟨its,r,pl,hz⟩:=I.tuple hq;refine SeqAt.notIn_tupleAt (eqU x) pl (fun w hw=>X9 rx fx r fs w (by simpa using hw)) ⟨.bl _,H,I,rfl,?_⟩;rw[show its.toArray.any (eqU x)=its.any (eqU x) by simp,XB r fs];exact q
def GI:J7 X (.type "list") (fun xs H Q=>∃p ys,xs=[.ref p]/\(SqL X.K H p ys\/SqT X.K H p ys)/\∀l,H l=none->Q (.ref l) (upd H l (.lst ys))):=by
 intro pins s σ H xs us Q I r h;obtain⟨p,ys,rfl,hq,q⟩:=h;obtain⟨u,rfl,rx⟩:=vals1 r;cases rx
 have fin:∀(its:List Value),Vals ys its->ys.length<=sizeLine->∀(h':Heap) (c':Nat),(∀b o',s.heap.get? b=some o'->h'.get? b=some o')->
   h'.get? s.heap.objs.size=some { cls:=.type "list",dict:=none,data:=.seq its.toArray c',slots:=#[] }->EP X pins σ Q (.ref s.heap.objs.size) { s with heap:=h' }:=fun its r' hz h' c' kp e=>
  ⟨.ref s.heap.objs.size,_,I.laid (t':=s.toks) kp (Ye _) (show ObjOk X.prog X.w _ h' _ (.lst ys) from⟨hz,its,c',r',e⟩),rfl,q _ (I.hok.fresh (Ye _))⟩
 rcases hq with hq|hq
 ·obtain⟨its,r',pl,hz⟩:=I.list hq;have hlen:=r'.length;obtain⟨o,ho,hc,n,hd⟩:=pl.isList;exact call_list_seq p (.inl rfl) ho hc hd (fun h' c' kp e=>fin its r' hz h' c' kp e) (by simp only[Yd]<;>omega)
 ·obtain⟨its,r',pl,hz⟩:=I.tuple hq;have hlen:=r'.length;obtain⟨o,ho,hc,n,hd⟩:=pl;exact call_list_seq p (.inr rfl) ho hc hd (fun h' c' kp e=>fin its r' hz h' c' kp e) (by simp only[Yd]<;>omega)
def tyV (K:Za) (T:String) (x:V) (H:Hp):Prop:=match x with
 | .str _=>T = "str"
 | .int _=>T = "int"
 | .ref p=>(T = "list"/\∃xs,SqL K H p xs)\/(T = "tuple"/\∃o,K.lookup p=some o/\o.cls=.type "tuple"/\o.dict=none)\/
   (T = "dict"/\((∃kvs,H p=some (.dK kvs))\/∃kvs,H p=some (.dT kvs)))\/(T = "set"/\∃S n,H p=some (.set S n))
 | _=>False
def SS {pins:List (Addr×Obj)}{σ:St}{H:Hp}{s:Shared}{T:String}{x:V}{v:Value} (I:Inv X pins σ H s) (r:RelV x v) (ty:tyV X.K T x H) :
  s.TypeIs v T/\∀a,v=.ref a->∃ob,s.heap.get? a=some ob/\ob.dict=none:=by
 cases x with
 | str z=>
  obtain⟨t,rfl⟩:=r;cases (show T = "str" from ty)
  exact⟨typeIs_str s z t,fun _ e=>nomatch e⟩
 | int i=>
  obtain⟨t,rfl⟩:=r;cases (show T = "int" from ty)
  exact⟨typeIs_int s i t,fun _ e=>nomatch e⟩
 | ref p=>
  cases r
  rcases ty with⟨rfl,xs,hq⟩|⟨rfl,o,hk,hc,hd⟩|⟨rfl,hk⟩|⟨rfl,S,n,hk⟩
  ·obtain⟨its,_,pl,_⟩:=I.list hq;refine⟨pl.isList.typeIs,fun a e=>?_⟩;cases e
   obtain⟨o,n,e,c,hd,_⟩:=pl;exact⟨o,e,hd⟩
  ·refine⟨⟨o,I.kIn p o hk,hc⟩,fun a e=>?_⟩;cases e
   exact⟨o,I.kIn _ o hk,hd⟩
  ·have z:∃o,s.heap.get? p=some o/\o.ExactDict:=by
    rcases hk with⟨kvs,hk⟩|⟨kvs,hk⟩
    ·obtain⟨_,_,_,_,o,_,_,e,ex,_⟩:=I.hok p _ hk;exact⟨o,e,ex⟩
    ·obtain⟨_,_,_,_,o,_,_,e,ex,_⟩:=I.hok p _ hk;exact⟨o,e,ex⟩
   obtain⟨o,e,ex⟩:=z;refine⟨⟨o,e,ex.1⟩,fun a e2=>?_⟩;cases e2
   exact⟨o,e,ex.2.1⟩
  ·obtain⟨o,_,_,_,e,ex,_⟩:=I.hok p _ hk;refine⟨⟨o,e,ex.1⟩,fun a e2=>?_⟩;cases e2
   exact⟨o,e,ex.2.1⟩
 | _=>exact False.elim ty
def tBM0 (K:Za) (T:String) (r:V->List V->Hp->VK->Prop) (to:TE):TE:=fun σ H Q=>to σ H fun x H1=>tyV K T x H1/\r x [] H1 Q
def tBM (K:Za) (T:String) (r:V->List V->Hp->VK->Prop) (to:TE) (t:TA):TE:=fun σ H Q=>to σ H fun x H1=>tyV K T x H1/\t σ H1 fun xs H2=>r x xs H2 Q
variable {o e:Expr}{es:List Expr}{to:TE}{t:TA}{name:Str}{apos cpos:Pos}{T id:String}{r:V->List V->Hp->VK->Prop}
def XU (pa:PlainAttrs T) (slot:Slot T name id) (hty:typeOf (.builtin id)=pure (.type "method_descriptor")) (hm:MtR X id r) (ho:PE X o to)
  (hbase:attributeBase o name X.env (eval o X.env)=eval o X.env:=by rfl) (hline:(apos.endLine==cpos.line)=true:=by rfl):PE X (.Call (.Attribute o name apos) [] [] cpos) (tBM0 X.K T r to):=by
 intro pins s σ H Q I h;refine wpAny_Call_method0_late hbase hline (thn (ho pins s σ H _ I h) fun v s1 ⟨x,H1,I1,r1,ty,q1⟩=>?_);obtain⟨h1,h2⟩:=SS I1 r1 ty;exact⟨T,id,pa,slot,hty,h1,h2,Calls.callWith_builtin rfl (PySem.evalArgs_none (hm pins s1 σ H1 x [] v [] Q I1 r1 .nil q1))⟩
def Uw (pa:PlainAttrs T) (slot:Slot T name id) (hty:typeOf (.builtin id)=pure (.type "method_descriptor")) (hm:MtR X id r) (ho:PE X o to) (ha:PA X (e::es) t)
  (hbase:attributeBase o name X.env (eval o X.env)=eval o X.env:=by rfl)
  (hfew:((backTo cpos (starEach (e::es) X.env)).all (fun x=>!x.1)&&(backToKw cpos (keywordEach [] X.env)).all (fun x=>x.1.isSome)
   && decide ((e::es).length+([]:List Keyword).length+(if ([]:List Keyword).isEmpty then 0 else 1)<30))=true:=by rfl)
  (hline:(apos.endLine==cpos.line)=true:=by rfl) (hs:starEach (e::es) X.env=(false,eval e X.env)::starEach es X.env:=by rfl) (hplain:(backTo cpos (starEach es X.env)).any (·.1)=false:=by rfl) :
  PE X (.Call (.Attribute o name apos) (e::es) [] cpos) (tBM X.K T r to t):=by
 intro pins s σ H Q I h;refine wpAny_Call_method_late hbase hfew hline rfl (thn (ho pins s σ H _ I h) fun v s1 ⟨x,H1,I1,r1,ty,q1⟩=>?_);obtain⟨h1,h2⟩:=SS I1 r1 ty;refine⟨T,id,pa,slot,hty,h1,h2,?_⟩;have hA:=ha cpos pins s1 σ H1 _ I1 q1;rw[hs] at hA ⊢;refine Calls.callWith_builtin (by show(false || (backTo cpos (starEach es X.env)).any (·.1))=false;rw[hplain]<;>rfl) (Calls.evalArgs_plain ?_);exact thn hA fun us s2 ⟨vs,H2,I2,r2,q2⟩=>hm pins s2 σ H2 x vs v us Q I2 r1 r2 q2
end
def MtM (X:Cx) (id:String) (r:V->List V->Hp->VK->Prop):Prop:=
 ∀(pins:List (Addr×Obj)) (s:Shared) (σ:St) (H:Hp) (x:V) (xs:List V) (v:Value) (us:List Value) (Q:VK),Inv X pins σ H s->RelV x v->Vals xs us->r x xs H Q->
  wpAny (model X.prog X.w) X.A (call (.builtin id) (v::us)) (EP X pins σ Q) X.xe s
def Vals.one:∀{x:V}{us:List Value},Vals [x] us->∃u,us=[u]/\RelV x u
 | _,_,.cons r .nil=>⟨_,rfl,r⟩
def Vals.zero:∀{us:List Value},Vals [] us->us=[]
 | _,.nil=>rfl
def Vals.dropLast {xs:List V}{us:List Value} (h:Vals xs us):Vals xs.dropLast us.dropLast:=by
 induction h with
 | nil=>exact .nil
 | cons r t ih=>
  cases t with
  | nil=>exact .nil
  | cons q t'=>exact .cons r ih
def GM {α:Type} (l:List α):l.eraseIdx (l.length-1)=l.dropLast:=by
 induction l with
 | nil=>rfl
 | cons a r ih=>
  cases r with
  | nil=>rfl
  | cons b r=>
   have e:(a::b::r).length-1=((b::r).length-1)+1:=by
    have h1:(a::b::r).length=r.length+2:=rfl;have h2:(b::r).length=r.length+1:=rfl;omega
   rw[e,List.eraseIdx_cons_succ,ih]
   all_goals rfl
section
variable {X:Cx}{pins:List (Addr×Obj)}{σ:St}{H:Hp}{s:Shared}{l b:Addr}{xs ys zs:List V}
def Inv.lset {its its':List Value}{n:Nat}{f:Array Value->Array Value}{t':Nat} (I:Inv X pins σ H s) (hH:H l=some (.lst xs))
  (e:s.heap.get? l=some { cls:=.type "list",data:=.seq its.toArray n }) (hf:f its.toArray=its'.toArray) (hv:Vals ys its') (hz:ys.length<=sizeLine) :
  Inv X pins σ (upd H l (.lst ys)) { s with heap:=s.heap.update l (Obj.mapSeq f),toks:=t' }:=by
 have q:=PySem.IsL.update e f;rw[hf] at q;refine I.write (x:=l) (e:=l) (by rw[hH];exact trivial) (.inl rfl) (fun b' u hb hu=>(YJ s.heap (Obj.mapSeq f) (Ne.symm hb)).trans hu) ⟨_,q⟩ ?_;exact⟨hz,its',_,hv,q⟩
def Inv.lnew {its:List Value}{t':Nat} (I:Inv X pins σ H s) (hv:Vals ys its) (hz:ys.length<=sizeLine) :
  Inv X pins σ (upd H s.heap.objs.size (.lst ys)) { s with heap:=s.heap.push { cls:=.type "list",data:=.seq its.toArray },toks:=t' }:=
 I.laid (fun _ _ q=>Yj _ q) (Ye _) ⟨hz,its,0,hv,Y2 _ rfl⟩
def Inv.fresh (I:Inv X pins σ H s):H s.heap.objs.size=none:=I.hok.fresh (Ye _)
def Inv.lstM (I:Inv X pins σ H s) (hH:H l=some (.lst xs)):xs.length<=sizeLine/\∃(its:List Value) (n:Nat),Vals xs its/\xs.length=its.length/\s.heap.get? l=some { cls:=.type "list",data:=.seq its.toArray n }:=by
 obtain⟨z,its,n,r,e⟩:=I.hok l _ hH;exact⟨z,its,n,r,r.length,e⟩
def DZ {n:Nat} (h:n<=sizeLine):Builtin.List.listTooLong n=false:=by
 unfold Builtin.List.listTooLong;exact Yk (by omega)
end
section
variable {X:Cx}
def KC:V->List V->Hp->VK->Prop:=fun x vs H Q=>∃l xs y,x=.ref l/\vs=[y]/\H l=some (.lst xs)/\xs.length<sizeLine/\Q .non (upd H l (.lst (xs++[y])))
def Uq:MtM X "list.append" KC:=by
 intro pins s σ H x vs v us Q I rx rv h;obtain⟨l,xs,y,rfl,rfl,hH,hz,q⟩:=h;cases rx
 obtain⟨u,rfl,ru⟩:=rv.one;obtain⟨z,its,n,r,hl,e⟩:=I.lstM hH;refine call_meets F.slot_list_append ⟨_,e,rfl⟩ F.entry_list_append (F.args_list_append_2 _ _) (PySem.list_append l its.toArray n u (by rw[Yd];omega)) ⟨e,?_⟩;refine⟨.non,_,I.lset (its':=its++[u]) hH e (by simp) (r.append (.cons ru .nil)) ?_,rfl,q⟩;rw[ZZ,YH];omega
def Ep:V->List V->Hp->VK->Prop:=fun x vs H Q=>∃l b xs zs,x=.ref l/\vs=[.ref b]/\H l=some (.lst xs)/\H b=some (.lst zs)/\xs.length+zs.length<=sizeLine/\Q .non (upd H l (.lst (xs++zs)))
def HN:MtM X "list.extend" Ep:=by
 intro pins s σ H x vs v us Q I rx rv h;obtain⟨l,b,xs,zs,rfl,rfl,hH,hB,hz,q⟩:=h;cases rx
 obtain⟨u,rfl,ru⟩:=rv.one;cases ru
 obtain⟨z,its,n,r,hl,e⟩:=I.lstM hH;obtain⟨z2,its2,n2,r2,hl2,e2⟩:=I.lstM hB;have hsz:its.toArray.size+its2.toArray.size<=sizeLine:=by rw[Yd,Yd];omega
 have hlong:¬(!its.toArray.isEmpty&&Builtin.List.listTooLong (its.toArray.size+its2.toArray.size))=true:=by
  rw[DZ hsz,Bool.and_false];exact Yl
 refine call_meets F.slot_list_extend ⟨_,e,rfl⟩ F.entry_list_extend (F.args_list_extend_2 _ _)
  (AutoSeq1.list_extend_list_list_0 l its.toArray n b its2.toArray n2 hlong (by rw[Yd];omega) (by omega)) ⟨e,e2,?_⟩
 refine⟨.non,_,I.lset (its':=its++its2) hH e (by simp) (r.append r2) ?_,rfl,q⟩;rw[ZZ];omega
def rPop:V->List V->Hp->VK->Prop:=fun x vs H Q=>∃l xs y,x=.ref l/\vs=[]/\H l=some (.lst xs)/\xs[xs.length-1]?=some y/\Q y (upd H l (.lst xs.dropLast))
def XW:MtM X "list.pop" rPop:=by
 intro pins s σ H x vs v us Q I rx rv h;obtain⟨l,xs,y,rfl,rfl,hH,hy,q⟩:=h;cases rx
 have hus:=rv.zero;subst hus;obtain⟨z,its,n,r,hl,e⟩:=I.lstM hH;obtain⟨u,hu,ru⟩:=r.get hy
 have hy':its.toArray[its.toArray.size-1]?=some u:=by
  show its.toArray[its.length-1]?=some u;rw[←Array.getElem?_toList,←hl];exact hu
 refine call_meets F.slot_list_pop ⟨_,e,rfl⟩ F.entry_list_pop (F.args_list_pop_1 _) (MeetsSeq.list_pop_last l its.toArray n u hy' (by rw[Yd];omega)) ⟨e,?_⟩;refine⟨y,_,I.lset (its':=its.dropLast) hH e ?_ r.dropLast ?_,ru,q⟩
 ·show its.toArray.eraseIdxIfInBounds (its.toArray.size-1)=its.dropLast.toArray;rw[Yd,List.eraseIdxIfInBounds_toArray,GM]
 ·rw[List.length_dropLast];omega
def rCat:R2:=fun x y H Q=>∃l b xs zs,x=.ref l/\y=.ref b/\H l=some (.lst xs)/\H b=some (.lst zs)/\xs.length+zs.length<=sizeLine/\∀p,H p=none->Q (.ref p) (upd H p (.lst (xs++zs)))
def Jv:OpR X (binaryOp .Add) rCat:=by
 intro pins s σ H x y v u Q I rx ry h;obtain⟨l,b,xs,zs,rfl,rfl,hH,hB,hz,q⟩:=h;cases rx
 cases ry
 obtain⟨z,its,n,r,hl,e⟩:=I.lstM hH;obtain⟨z2,its2,n2,r2,hl2,e2⟩:=I.lstM hB;refine PySem.P.add_list e e2 ?_ (by rw[Yd,Yd];omega);have ea:its.toArray++its2.toArray=(its++its2).toArray:=by simp
 rw[ea];exact⟨.ref _,_,I.lnew (t':=s.toks) (r.append r2) (by rw[ZZ];omega),rfl,q _ I.fresh⟩
end
end L2
namespace Att
open PySem PySem.W PySem.Calls PyProof.Rows
def FU {P:Params}{h:Heap}:∀(ns:List Int) (vs:List Value),WellAll P h vs (ns.map WData.int)->IntsAre vs ns:=by
 intro ns
 induction ns with
 | nil=>
  intro vs w;rw[List.map_nil] at w;cases w
  exact .nil
 | cons n ns ih=>
  intro vs w;rw[Yy] at w;cases w with
  | cons a b=>
   cases a
   exact .cons _ _ (ih _ b)
def Hs {l:OpenLaw}{n:Nat} (hn:l.most=some n) {P:Params}{h:Heap}{args:List WData}{vals:List Value}
  (hpre:l.row.toRowW.claim.pre args=true) (hwl:WellAll P h vals args) :
  ∃a vs ns,vals=[Value.ref a]/\args=[WData.list (ns.map WData.int)]/\h.get? a=some { cls:=.type "list",data:=.seq vs.toArray }/\IntsAre vs ns/\ns.length<=n:=by
 have hsh:WShape.hasAll [] args [.list .int]=true:=(pre_splitW hpre).1;have hc:l.pre.holds [] { args:=args }=true:=(pre_splitW hpre).2;obtain⟨d,r,rfl,h1,h2⟩:=hasAllW_cons hsh;obtain rfl:=hasAllW_nil h2;obtain⟨xs,rfl,h3⟩:=hasW_list h1;obtain⟨ns,rfl⟩:=items_int h3
 have hlen:ns.length<=n:=by
  unfold OpenLaw.pre at hc
  have h4:(WTm.not (.lt (.lit (.int (n:Int))) (.len (.arg 0)))).holds [] { args:=[.list (ns.map .int)] }=true:=by
   have h4:=(holds_andW hc).1;rw[hn] at h4;exact h4
  have h5:=condW_of h4 (w_not (w_lt w_lit (w_len_list (w_arg rfl))));rw[ZR] at h5;refine Nat.le_of_not_lt fun q=>?_;have q':(n:Int)<((ns.length:Nat):Int):=by omega
  first
   | (rw[ZT q'] at h5;exact absurd h5 (by decide))
   | (simp at h5;omega)
 cases hwl with
 | cons w1 w2=>
  cases w2
  cases w1 with
  | list ho hall=>exact⟨_,_,ns,rfl,rfl,ho,FU ns _ hall,hlen⟩
def Ge (l:OpenLaw) (args:List WData):l.row.toRowW.claim.post args (.bool true) args=true:=
 postW_of (r:=l.row.toRowW) (X:=(true==true))
  (show WShape.has [] (.bool true) .bool=true by first|rfl|decide|simp[WShape.has,WShape.arms,WShape.armsAll])
  (show(WTm.eq .res (.lit (.bool true))).value [] { args:=args,res:=some (.bool true),after:=args }=some (.bool (true==true)) from w_eq_bool (w_res rfl) w_lit) rfl
def Gv {l:OpenLaw}{n:Nat}{q:Program}{loose:List Str}{XP:(Str->Option Value)->Heap->Prop}{YP:World->Heap->Prop}{d:DefRec}
  (hn:l.most=some n) (hdf:d.params.defaults=[])
  (call:∀(w:World) (s₀ s₁:Shared) (mg mb:Str->Option Value) (fa:Addr) (o:Obj) (pm cd doc:Value) (a:Addr) (vs:List Value) (ns:List Int),
   Ground q loose [] XP w s₀ mg mb s₁.heap->YP w s₁.heap->
   s₁.heap.get? fa=some o->o.data=.func (docDef d.name d.params d.body d.scope pm cd doc)->s₁.heap.CodeRec cd d.name->mg d.name=some (.ref fa)->
   s₁.heap.get? a=some { cls:=.type "list",data:=.seq vs.toArray }->IntsAre vs ns->ns.length<=n->s₁.gens=#[]->
   codeAny (model l.prog w) callerA (.call (.ref fa) ⟨[.ref a],[]⟩) (fun r s'=>r=.ok (.ret (.bool true))/\OldK s₁.heap s'.heap/\s'.os=s₁.os/\AllBare s'.gens) s₁) :
  WalkO q loose XP YP l.row.toRowW d [] (fun f vs=>PySem.call f vs):=by
 intro w s₀ s₁ mg mb G Y fa o pm cd doc dV kV ho hd hcd hD hmg hg args vals as hpre hlay hrd hwl hlo;obtain rfl:dV=.none:=Dflts.none hD hdf;obtain rfl:kV=.none:=Dflts.noKw hD;obtain⟨a,vs,ns,rfl,rfl,hobj,hints,hlen⟩:=Hs hn hpre hwl;refine enter_call (Wp (call w s₀ s₁ mg mb fa o pm cd doc a vs ns G Y ho (fd_plain hd) hcd hmg hobj hints hlen hg) fun r s' hq=>?_);obtain⟨rfl,h2,h3,h4⟩:=hq;exact⟨.inl ⟨.bool true,.bool true,[],rfl,fun _=>rfl,.bool true,Ge l _,fun _=>⟨List.Pairwise.nil,fun _ hm=>(nomatch hm)⟩⟩,h2,h3,h4⟩
end Att
namespace L2
open PySem PySem.Spec PyProof.Rows
def Ff:∀{vs:List Value}{ns:List Int},IntsAre vs ns->Vals (ns.map V.int) vs
 | _,_,.nil=>.nil
 | _,_,.cons n t h=>.cons ⟨t,rfl⟩ (Ff h)
def Only (H:Hp):Prop:=∀b,H b=none\/∃o xs,H b=some (.frz o (.lst xs))
def Da {P:Program}{w:World}{K:Za}{mg mb:Str->Option Value}{CX:CXT}{k:Nat}{fa a:Addr}{fd:FuncData}{x:Str}{sp:Sp}{s₁:Shared}{vs:List Value}{ns:List Int}
  (KX:K.In s₁.heap) (hns:s₁.heap.Ns mainGlobals mg) (hb:s₁.heap.Ns builtinsNs mb) (hbb:∀x:Str,x≠"__name__"->mb x=bootBuiltins x) (hlim:s₁.heap.NoLimit) (hg:s₁.gens=#[])
  (ha:s₁.heap.get? a=some { cls:=.type "list",data:=.seq vs.toArray }) (hi:IntsAre vs ns) (hl:ns.length<=sizeLine) (hr:Room k callerA)
  (F:∀base:Heap,K.In base->base.Ns mainGlobals mg->FnOk P w K mg base CX k fa fd [x] sp) (hbind:∀(s:Shared) (u:Value),BindsTo s fd ⟨[u],[]⟩ [(x,u)])
  (hsp:∀H:Hp,Only H->SqL K H a (ns.map V.int)->sp [.ref a] H (fun v _=>v=.bl true) fun _ _ _=>False)
  (hCX:∀H e s',CX [] H s₁ (fun _ _ _=>False) e s'->False) :
  codeAny (model P w) callerA (.call (.ref fa) ⟨[.ref a],[]⟩) (fun r s'=>r=.ok (.ret (.bool true))/\OldK s₁.heap s'.heap/\s'.os=s₁.os/\AllBare s'.gens) s₁:=by
 have rv:=Ff hi;have lenV:=hi.length
 have core:∀H:Hp,Only H->SqL K H a (ns.map V.int)->HOk P w H s₁.heap->(∀b,H b≠none->b=a)->(H a≠none->K.lookup a=none)->
   codeAny (model P w) callerA (.call (.ref fa) ⟨[.ref a],[]⟩) (fun r s'=>r=.ok (.ret (.bool true))/\OldK s₁.heap s'.heap/\s'.os=s₁.os/\AllBare s'.gens) s₁:=by
  intro H hO hS hok hA hK;have base_of:∀{b:Addr} {o:Obj},s₁.heap.get? b=some o->H b=none->(hidT s₁.heap H).get? b=some o:=fun e n=>E7 e n
  have noA:∀{b:Addr} {o:Obj} {es:Array DictEntry} {ep:Nat},s₁.heap.get? b=some o->o.data=.dict es ep->H b=none:=fun {b o es ep} e d=>by
   cases q:H b with
   | none=>rfl
   | some u=>
    have e':b=a:=hA b (by rw[q];simp);subst e';rw[ha] at e;cases e;have d':Data.seq vs.toArray _=Data.dict es ep:=d;cases d'
  have nsK:∀{b:Addr} {m:Str->Option Value},s₁.heap.Ns b m->(hidT s₁.heap H).Ns b m:=fun {b m} ⟨o,es,ep,e,d,r⟩=>⟨o,es,ep,base_of e (noA e d),d,r⟩
  have hKb:K.In (hidT s₁.heap H):=fun b o e=>base_of (KX b o e) (by
   cases q:H b with
   | none=>rfl
   | some u=>
    have e':b=a:=hA b (by rw[q];simp);subst e';rw[hK (by rw[q];simp)] at e;cases e)
  have hM:Mod K mg (hidT s₁.heap H):=⟨hKb,nsK hns,⟨mb,nsK hb,hbb⟩,let ⟨mc,h1,h2⟩:=hlim;⟨mc,nsK h1,h2⟩⟩;have e0:Env0 P w K mg (hidT s₁.heap H) callerA [] s₁ H:=⟨rfl,hM,fun b o e=>EH e,YQ (DA _ _),trivial,fun b hb=>absurd (show b∈([]:List Addr) from hb) (by simp),hok,.of_eq hg⟩
  refine Wp ((F _ hKb (nsK hns)).run callerA [] s₁ H ⟨[.ref a],[]⟩ [.ref a] [.ref a] _ _ hr e0 (hbind s₁ (.ref a)) (.cons rfl .nil) (hsp H hO hS)) fun r s' h=>?_;cases r with
  | error e=>exact(hCX H e s' h).elim
  | ok fl=>
   cases fl with
   | next=>exact False.elim h
   | brk=>exact False.elim h
   | cont=>exact False.elim h
   | ret u=>
    obtain⟨v,H',os,bare,un,hok',r',q⟩:=h;have q':v=.bl true:=q;subst q';obtain rfl:u=Value.bool true:=r';refine⟨rfl,OldK.of_keep fun b o e=>?_,os,bare⟩;cases q:H b with
    | none=>exact un.keep b o e q (by intro z;exact absurd (show b∈([]:List Addr) from z) (by simp)) (by simp)
    | some u=>
     rcases hO b with z|⟨ob,xs,z⟩
     ·rw[q] at z;cases z
     ·have z2:=un.frzs b ob _ z;obtain⟨e1,_⟩:=hok b _ z;obtain⟨e2,_⟩:=hok' b _ z2;rw[e] at e1;cases e1;exact e2
 cases hk:K.lookup a with
 | some o=>
  have e:=KX a o hk;rw[ha] at e;cases e
  refine core (fun _=>none) (fun _=>.inl rfl) (.inr ⟨_,vs.toArray,_,hk,rfl,rfl,rfl,by rw[Yd,lenV];exact hl,by simpa using rv⟩) (fun b u z=>by have z':(none:Option HO)=some u:=z;cases z') (fun b z=>absurd rfl z) fun z=>absurd rfl z
 | none=>
  refine core (fun b=>if b=a then some (.frz { cls:=.type "list",data:=.seq vs.toArray } (.lst (ns.map V.int))) else none) (fun b=>?_) (.inl (.inr ⟨{ cls:=.type "list",data:=.seq vs.toArray },ZV rfl⟩)) (fun b u z=>?_) (fun b z=>?_) fun _=>hk
  ·by_cases hb:b=a
   ·exact .inr ⟨_,_,ZV hb⟩
   ·exact .inl (ZU hb)
  ·by_cases hb:b=a
   ·have z':=(ZV hb).symm.trans z;cases z'
    subst hb;exact⟨ha,by rw[ZR];exact hl,vs,_,rv,ha⟩
   ·have z':=(ZU hb).symm.trans z;cases z'
  ·by_cases hb:b=a
   ·exact hb
   ·exact absurd (ZU hb) z
def Ga {l:PySem.W.OpenLaw}{n k:Nat}{q:Program}{loose:List Str}{XP:(Str->Option Value)->Heap->Prop}{YP:World->Heap->Prop}{d:DefRec}{K:Params->Za}{CX:World->CXT}{sp:World->Sp}{x:Str}
  (hn:l.most=some n) (hn2:n<=sizeLine) (hdf:d.params.defaults=[]) (hr:Room k callerA)
  (hY:∀(w:World) (h:Heap),YP w h->(K w.params).In h)
  (F:∀(w:World) (mg:Str->Option Value) (fa:Addr) (h:Heap),(K w.params).In h->h.Ns mainGlobals mg->mg d.name=some (.ref fa)->
   ∃fd:FuncData,(∀(s:Shared) (u:Value),BindsTo s fd ⟨[u],[]⟩ [(x,u)])/\
    ∀base:Heap,(K w.params).In base->base.Ns mainGlobals mg->FnOk l.prog w (K w.params) mg base (CX w) k fa fd [x] (sp w))
  (hsp:∀(w:World) (H:Hp) (a:Addr) (ns:List Int),ns.length<=n->Only H->SqL (K w.params) H a (ns.map V.int)->sp w [.ref a] H (fun v _=>v=.bl true) fun _ _ _=>False)
  (hCX:∀(w:World) (H:Hp) (s:Shared) (e:Value) (s':Shared),CX w [] H s (fun _ _ _=>False) e s'->False) :
  PySem.W.WalkO q loose XP YP l.row.toRowW d [] (fun f vs=>PySem.call f vs):=by
 refine Att.Gv hn hdf fun w s₀ s₁ mg mb fa o pm cd doc a vs ns G Y ho hd hcd hmg hobj hints hlen hg=>?_;have KX:=hY w _ Y;obtain⟨fd,hb,hF⟩:=F w mg fa _ KX G.T.g hmg;exact Da KX G.T.g G.T.b G.T.builtins G.T.nolimit hg hobj hints (Yi hlen hn2) hr hF hb (fun H hO hS=>hsp w H a ns hlen hO hS) fun H e s'=>hCX w H s₁ e s'
def E3 {l:PySem.W.OpenLaw}{n k:Nat}{q:Program}{loose:List Str}{XP:(Str->Option Value)->Heap->Prop}{YP:World->Heap->Prop}{d:DefRec}{K:Params->Za}{CX:CXT}{sp:Za->Sp}{x:Str}
  (hn:l.most=some n) (hn2:n<=sizeLine) (hdf:d.params.defaults=[]) (hr:Room k callerA)
  (hY:∀(w:World) (h:Heap),YP w h->(K w.params).In h)
  (F:∀(w:World) (mg:Str->Option Value) (fa:Addr) (h:Heap),(K w.params).In h->h.Ns mainGlobals mg->mg d.name=some (.ref fa)->
   ∃fd:FuncData,(∀(s:Shared) (u:Value),BindsTo s fd ⟨[u],[]⟩ [(x,u)])/\
    ∀base:Heap,(K w.params).In base->base.Ns mainGlobals mg->FnOk l.prog w (K w.params) mg base CX k fa fd [x] (sp (K w.params)))
  (hsp:∀(K:Za) (H:Hp) (a:Addr) (ns:List Int),ns.length<=n->Only H->SqL K H a (ns.map V.int)->sp K [.ref a] H (fun v _=>v=.bl true) fun _ _ _=>False)
  (hCX:∀(H:Hp) (s:Shared) (e:Value) (s':Shared),CX [] H s (fun _ _ _=>False) e s'->False) :
  PySem.W.WalkO q loose XP YP l.row.toRowW d [] (fun f vs=>PySem.call f vs):=
 Ga (K:=K) (CX:=fun _=>CX) (sp:=fun w=>sp (K w.params)) hn hn2 hdf hr hY F (fun w H a ns h1 h2 h3=>hsp (K w.params) H a ns h1 h2 h3) fun _ H s e s'=>hCX H s e s'
def inClass (s:Stmt) (j:Nat):Stmt:=match s with
 | .ClassDef _ _ _ body _ _ _ _ _ _ _=>body.getD j (.Pass ⟨0,0,0,0⟩)
 | _=>.Pass ⟨0,0,0,0⟩
def JN (s:Stmt):Arguments:=match s with
 | .FunctionDef _ a _ _ _ _ _ _ _ _=>a
 | _=>{ posonlyargs:=[],args:=[],vararg:=none,kwonlyargs:=[],kw_defaults:=[],kwarg:=none,defaults:=[] }
def Ja (s:Stmt):List Stmt:=match s with
 | .FunctionDef _ _ b _ _ _ _ _ _ _=>b
 | _=>[]
def Vk (s:Stmt):Scope:=match s with
 | .FunctionDef _ _ _ _ _ _ sc _ _ _=>sc
 | _=>{ kind:=.function,names:=[],isGenerator:=false,isCoroutine:=false }
abbrev CX0:CXT:=fun _ _ _ _ _ _=>False
abbrev E0:XK:=fun _ _ _=>False
def Je {X:Cx}:JG CX0 X E0:=fun _ _ _ _ _ _ _ h=>h.elim
structure Fun (K:Za) (x qual:Str) (st:Stmt) (f:Addr) (fd:FuncData):Prop where
 ex:∃(oc:Value) (od:Option Addr) (kV doc pm:Value) (an:Option Addr) (cdv ct:Value) (osl:Array (Option Value)),
  fd=PySem.W.fnOf x qual (JN st) (Ja st) (Vk st) .none kV doc pm an cdv ct/\K.lookup f=some ⟨oc,od,.func fd,osl⟩/\PySem.W.codeIn K cdv qual=true
 kp:PySem.W.keepIn K (.ref f)=true
section
variable {P:Program}{w:World}{K:Za}{mg:Str->Option Value}{base:Heap}
def Fun.ok {x qual:Str}{st:Stmt}{f:Addr}{fd:FuncData}{N ps:List Str}{k:Nat}{sp:Sp} (F:Fun K x qual st f fd) (S:FnScope N ps (Vk st)) (len:∀vs H Q E,sp vs H Q E->vs.length=ps.length)
  (hbody:∀(cdv:Value) (A:Around) (outer:List Env) (s:Shared) (H:Hp) (vs:List V) (Q:VK) (E:XK),Room k (A.deeper (envOfC qual (Vk st) s.heap.objs.size f cdv))->sp vs H Q E->
   ∃t,PSs (cxOf CX0 P w K mg base N qual (Vk st) f cdv A outer s H E).nox (Ja st) t/\t { nx:=fun _ H'=>Q .non H',rt:=Q } (start N vs) H):FnOk P w K mg base CX0 (k+1) f fd ps sp:=by
 obtain⟨oc,od,kV,doc,pm,an,cdv,ct,osl,rfl,lk,hcd⟩:=F.ex;refine Te lk hcd S len fun A outer s H vs Q E hr hsp=>?_;obtain⟨t,h,q⟩:=hbody cdv A outer s H vs Q E hr hsp;exact⟨t,h.nox,q⟩
def Fun.binds {x qual:Str}{st:Stmt}{f:Addr}{fd:FuncData}{ps:List Str} (F:Fun K x qual st f fd)
  (h:∀(kV doc pm:Value) (an:Option Addr) (cdv ct:Value) (us:List Value),us.length=ps.length->bindArgs (PySem.W.fnOf x qual (JN st) (Ja st) (Vk st) .none kV doc pm an cdv ct) ⟨us,[]⟩=pure (ps.zip us)):Binds K fd ps []:=by
 obtain⟨oc,od,kV,doc,pm,an,cdv,ct,osl,rfl,lk,hcd⟩:=F.ex;exact .all (h kV doc pm an cdv ct)
def KZ {x qual:Str}{st:Stmt}{f:Addr}{oc:Value}{od an:Option Addr}{osl:Array (Option Value)}{kV doc pm cdv ct:Value} (l:K.lookup f=some ⟨oc,od,.func (PySem.W.fnOf x qual (JN st) (Ja st) (Vk st) .none kV doc pm an cdv ct),osl⟩)
  (c:PySem.W.codeIn K cdv qual=true) (k:PySem.W.keepIn K (.ref f)=true):Fun K x qual st f (PySem.W.fnOf x qual (JN st) (Ja st) (Vk st) .none kV doc pm an cdv ct):=⟨⟨oc,od,kV,doc,pm,an,cdv,ct,osl,rfl,l,c⟩,k⟩
end
def Kv {A:Around}{k:Nat} (hr:Room k A):A.units+1<cLine:=Nat.lt_of_le_of_lt (Nat.add_le_add_left (by decide:1<=64) _) hr.units
def Dt {n:Nat} (h:n<=1000):n<sizeLine:=Nat.lt_of_le_of_lt h (by decide)
section
variable {X:Cx}
def pv (i:Nat) {x:Str}{pos:Pos} (hN:X.N[i]?=some x:=by rfl) (hv:Vis X.env.scope x:=by first|exact Or.inl rfl|exact Or.inr (Or.inl rfl)|exact Or.inr (Or.inr rfl)) (hd:(x==("__debug__" : Str))=false:=by decide)
  (hcd:(x==("__classdict__" : Str))=false:=by decide):PE X (.Name x pos) (tVar i):=EL hN hv hd hcd
end
def iteF {A B:Prop} (h:B):if false=true then A else B:=by
 rw[ZU Yl];exact h
def iteT {A B:Prop} (h:A):if true=true then A else B:=by
 rw[ZV rfl];exact h
def ite2 {c A B:Prop} [Decidable c] (h1:c->A) (h2:¬c->B):if c then A else B:=by
 by_cases h:c
 ·rw[ZV h];exact h1 h
 ·rw[ZU h];exact h2 h
def UV {c A B:Prop} [Decidable c] (hc:c) (h:B):if (!decide c)=true then A else B:=by
 rw[ZT hc];exact iteF h
def Same (H H':Hp):Prop:=∀b o,H b=some o->H' b=some o
def Same.refl (H:Hp):Same H H:=fun _ _ h=>h
def Same.trans {H H1 H2:Hp} (a:Same H H1) (b:Same H1 H2):Same H H2:=fun c o h=>b c o (a c o h)
def Same.free {H H':Hp} (e:Same H H') {l:Addr} (h:H' l=Option.none):H l=Option.none:=by
 cases q:H l with
 | none=>rfl
 | some o=>
  rw[e l o q] at h;cases h
def Same.seq {K:Za}{H H':Hp}{a:Addr}{xs:List V} (e:Same H H') (h:SqL K H a xs):SqL K H' a xs:=by
 rcases h with(h|⟨o,h⟩)|h
 ·exact .inl (.inl (e _ _ h))
 ·exact .inl (.inr ⟨o,e _ _ h⟩)
 ·exact .inr h
end L2
set_option maxHeartbeats 4000000
set_option genInjectivity false
set_option genSizeOfSpec false
namespace Own
open PySem PySem.Spec PyProof.Rows L2
structure Def (K:Za) (mg:Str->Option Value) (x:Str) (st:Stmt) (ps:List Str):Prop where
 ex:∃f fd,Fun K x x st f fd/\mg x=some (.ref f)/\Binds K fd ps []
structure Callee (P:Program) (w:World) (K:Za) (mg:Str->Option Value) (base:Heap) (CX:CXT) (k:Nat) (x:Str) (ps:List Str) (sp:Sp):Prop where
 ex:∃f fd,FnOk P w K mg base CX k f fd ps sp/\mg x=some (.ref f)/\PySem.W.keepIn K (.ref f)=true/\(∃o:Obj,K.lookup f=some o/\o.data=.func fd)/\Binds K fd ps []
section
variable {P:Program}{w:World}{K:Za}{mg:Str->Option Value}{base:Heap}
def Callee.at {CX:CXT}{x:Str}{st:Stmt}{f:Addr}{fd:FuncData}{k:Nat}{ps:List Str}{sp:Sp} (C:Callee P w K mg base CX k x ps sp) (hm:mg x=some (.ref f)) (F:Fun K x x st f fd) (_:Def K mg x st ps):FnOk P w K mg base CX k f fd ps sp:=by
 obtain⟨f',fd',Fo,hm',_,hl,_⟩:=C.ex;rw[hm] at hm';cases hm'
 obtain⟨oc,od,kV,doc,pm,an,cdv,ct,osl,_,lk,_⟩:=F.ex;obtain⟨o',lk',hd'⟩:=hl;rw[lk] at lk';cases lk'
 cases hd'
 exact Fo
def Def.ok {x:Str}{st:Stmt}{N ps:List Str}{k:Nat}{sp:Sp} (D:Def K mg x st ps) (S:FnScope N ps (Vk st)) (len:∀vs H Q E,sp vs H Q E->vs.length=ps.length)
  (hbody:∀(f:Addr) (cdv:Value) (A:Around) (outer:List Env) (s:Shared) (H:Hp) (vs:List V) (Q:VK) (E:XK),Room k (A.deeper (envOfC x (Vk st) s.heap.objs.size f cdv))->sp vs H Q E->
   ∃t,PSs (cxOf CX0 P w K mg base N x (Vk st) f cdv A outer s H E).nox (Ja st) t/\t { nx:=fun _ H'=>Q .non H',rt:=Q } (start N vs) H):Callee P w K mg base CX0 (k+1) x ps sp:=by
 obtain⟨f,fd,F,hm,hb⟩:=D.ex;refine⟨f,fd,F.ok S len fun cdv A outer s H vs Q E hr h=>hbody f cdv A outer s H vs Q E hr h,hm,F.kp,?_,hb⟩;obtain⟨oc,od,kV,doc,pm,an,cdv,ct,osl,_,lk,_⟩:=F.ex;exact⟨_,lk,rfl⟩
end
section
variable {X:Cx}{CX:CXT}{k:Nat}{ps:List Str}{sp:Sp}{E:XK}{x:Str}{p pos:Pos}{e:Expr}{es:List Expr}{t:TA}
def J1 (C:Callee X.prog X.w X.K X.mg X.base CX k x ps sp) (hr:Room k X.A) (hx:JG CX X E) (ha:PA X (e::es) t) (hg:Gl X x:=by rfl)
  (hdb:(x==("__debug__" : Str))=false:=by decide) (he:starEach (e::es) X.env=(false,eval e X.env)::starEach es X.env:=by rfl) (hpl:(backTo pos (starEach es X.env)).any (·.1)=false:=by rfl) :
  PE X (.Call (.Name x p) (e::es) [] pos) (U4 sp [] E t):=by
 obtain⟨f,fd,F,hm,hk,_,hb⟩:=C.ex;exact Hn F hr hg hm hk hb .nil hx ha hdb he hpl
def Gz:J7 X (.builtin "isinstance") (fun xs H Q=>∃x n t b,xs=[x,.ty n]/\TyOf X.K H x t/\PySem.W.kitOne X.K t (.type n)=some b/\Q (.bl b) H):=by
 intro pins s σ H xs us Q I rv h;obtain⟨x,n,t,b,rfl,ty,e,q⟩:=h;cases rv with
 | cons r rr=>
  cases rr with
  | cons r' rr'=>
   cases rr'
   obtain rfl:_=Value.type n:=r';exact GB I r ty e fun tk=>⟨.bl b,H,I.tok tk,rfl,q⟩
def AF:IxR X (fun x y H Q=>rIxL X.K x y H Q\/rIxT X.K x y H Q):=ix_list.or G9
end
def NL (t u:TS):TS:=fun D σ H=>∃J:L2.St->Hp->Prop,t { D with nx:=J } σ H/\∀σ' H',J σ' H'->u D σ' H'
def U1 {X:Cx}{st:Stmt}{rest:List Stmt}{t u:TS} (h1:PS X st t) (h2:PSs X rest u):PSs X (st::rest) (NL t u):=by
 intro pins s σ H D I h;obtain⟨J,h,k⟩:=h;refine wpAny_execs_cons (thn (h1 pins s σ H { D with nx:=J } I h) fun f s1 q=>?_)
 cases f with
 | next=>
  obtain⟨σ',H',I',q⟩:=q;exact h2 pins s1 σ' H' D I' (k σ' H' q)
 | ret v=>exact q
 | brk=>exact q
 | cont=>exact q
def Ha (K:Za) (n:String):PySem.W.kitOne K (.type n) (.type n)=some true:=by
 unfold PySem.W.kitOne;rw[ZV (by simp)]
def Ke {α β:Type}{f:α->β}{xs:List α}{i:Int}{v:α} (h:atI xs i=some v):atI (xs.map f) i=some (f v):=by
 unfold atI at h ⊢;rw[ZR];cases e:ixN xs.length i with
 | none=>rw[e] at h;cases h
 | some j=>
  rw[e] at h;have h':xs[j]?=some v:=h;show(xs.map f)[j]?=some (f v);rw[ZY,h'];rfl
def Xr {α:Type}{xs:List α}{i:Int}{v:α} (h0:0<=i) (h:xs[i.toNat]?=some v):atI xs i=some v:=by
 have e:((i.toNat:Nat):Int)=i:=by omega
 have:=Ks h
 rwa[e] at this
def JO {H:Hp}{a:Addr}{o:HO} (h:H a=none):Same H (upd H a o):=fun b u e=>by rw[V1 (JL e h)];exact e
def Cp {env:Env} (names:List (Str×NameKind)) (hall:∀x∈names,x.2=.free->∃c,env.cells.lookup x.1=some c):∀cs0:List (Str×Addr),(∀x c,cs0.lookup x=some c->env.cells.lookup x=some c)->
  ∃cl:List (Str×Addr),(forIn names cs0 (fun(x:Str×NameKind) (cs:List (Str×Addr))=>if (x.2 == .free)=true then(do let c ←cellOf env x.1;pure (ForInStep.yield ((x.1,c)::cs))) else pure (ForInStep.yield cs)):Sem (List (Str×Addr)))=pure cl/\
   (∀x c,cl.lookup x=some c->env.cells.lookup x=some c)/\(∀x,(∃c,cs0.lookup x=some c)->∃c,cl.lookup x=some c)/\∀x∈names,x.2=.free->∃c,cl.lookup x.1=some c:=by
 induction names with
 | nil=>
  intro cs0 h0;exact⟨cs0,rfl,h0,fun _ h=>h,fun x hx=>by cases hx⟩
 | cons y r ih=>
  intro cs0 h0;have ih':=ih fun x hx=>hall x (Yt _ hx);obtain⟨n,k⟩:=y;by_cases hk:k=.free
  ·subst hk;obtain⟨c,hc⟩:=hall (n,.free) YB rfl
   have h1:∀x d,List.lookup x ((n,c)::cs0)=some d->env.cells.lookup x=some d:=fun x d e=>by
    rw[YF] at e;by_cases hx:x=n
    ·subst hx;simp at e;subst e;exact hc
    ·have:(x==n)=false:=by simpa using hx
     rw[this] at e;exact h0 x d e
   obtain⟨cl,e,p1,p2,p3⟩:=ih' ((n,c)::cs0) h1;refine⟨cl,?_,p1,fun x hx=>p2 x ?_,fun x hx hf=>?_⟩
   ·rw[List.forIn_cons];show((if (NameKind.free==NameKind.free)=true then(do let c ←cellOf env n;pure (ForInStep.yield ((n,c)::cs0))) else pure (ForInStep.yield cs0)) >>= _)=_
    rw[ZV (show(NameKind.free==NameKind.free)=true by decide)];have ec:cellOf env n=pure c:=by unfold cellOf;rw[hc]
    rw[ec];exact e
   ·rw[YF];cases (x==n)
    ·exact hx
    ·exact⟨c,rfl⟩
   ·rcases Ym.mp hx with rfl|hx
    ·exact p2 n ⟨c,by simp[YF]⟩
    ·exact p3 x hx hf
  ·obtain⟨cl,e,p1,p2,p3⟩:=ih' cs0 h0;refine⟨cl,?_,p1,p2,fun x hx hf=>?_⟩
   ·rw[List.forIn_cons];have hb:(k==NameKind.free)=false:=by simpa using hk
    show((if (k==NameKind.free)=true then(do let c ←cellOf env n;pure (ForInStep.yield ((n,c)::cs0))) else pure (ForInStep.yield cs0)) >>= _)=_
    rw[ZU (by rw[hb];decide)];exact e
   ·rcases Ym.mp hx with rfl|hx
    ·exact absurd hf hk
    ·exact p3 x hx hf
def EV {env:Env}{sc:Scope} (hall:∀x∈sc.names,x.2=.free->∃c,env.cells.lookup x.1=some c) :
  ∃cl:List (Str×Addr),closureFor sc env=pure cl/\(∀x c,cl.lookup x=some c->env.cells.lookup x=some c)/\∀x∈sc.names,x.2=.free->∃c,cl.lookup x.1=some c:=by
 obtain⟨cl,e,p1,_,p3⟩:=Cp sc.names hall [] (fun x c h=>by cases h);refine⟨cl,?_,p1,p3⟩;unfold closureFor;show((forIn sc.names ([]:List (Str×Addr)) (fun(x:Str×NameKind) (cs:List (Str×Addr))=>if (x.2 == .free)=true then(do let c ←cellOf env x.1;pure (ForInStep.yield ((x.1,c)::cs))) else pure (ForInStep.yield cs)):Sem (List (Str×Addr))) >>= fun cs=>pure cs)=pure cl
 rw[e];rfl
def Jq (X:Cx) (N':List Str) (sc:Scope) (cl:List (Str×Addr)) (C:Addr) (s₃:Shared) (H₃:Hp) (ex:List Addr):Cx:=
 { X with N:=N',s₀:=s₃,H₀:=H₃,env:=compEnvC sc cl C X.env,outer:=X.stack,ex:=ex,fn:=fun _=>false,pn:=[],xe:=fun _ _=>False }
structure CompOk (X:Cx) (N':List Str) (φ:List (Option Nat)) (sc:Scope):Prop where
 kind:sc.kind=.function
 okind:X.env.scope.kind=.function
 nocell:∀y∈sc.names,y.2≠.cell
 names:∀y∈sc.names,y.2=.local->sc.names.lookup y.1=some .local
 frees:∀y∈sc.names,y.2=.free->X.env.scope.names.lookup y.1=some .cell
 len:φ.length=N'.length
 pick:∀(i:Nat) (x:Str) (j:Nat),N'[i]?=some x->φ[i]?=some (some j)->X.N[j]?=some x/\sc.names.lookup x=some .free
def atStart (φ:List (Option Nat)) (σ:L2.St):L2.St:=φ.map fun o=>o.bind fun j=>(σ[j]?).join
def Sub (σ σ':L2.St):Prop:=σ'.length=σ.length/\∀(i:Nat) (v:V),σ[i]?=some (some v)->σ'[i]?=some (some v)
def Sub.refl {σ:L2.St}:Sub σ σ:=⟨rfl,fun _ _ h=>h⟩
def Sf {env:Env} (hk:env.scope.kind=.function):∀{names:List (Str×NameKind)}{x:Str},names.lookup x=some .free->env.scope.names.lookup x=some .cell->
  (names.map fun(n,k)=>if (k==NameKind.free&&env.scope.kind == .function&&env.kindOf n==some .cell) then(n,NameKind.cell) else(n,k)).lookup x=some .cell
 | [],_,h,_=>by simp at h
 | (n,k)::r,x,h,hc=>by
  have ih:=@Sf env hk r x;show List.lookup x ((if (k==NameKind.free&&env.scope.kind == .function&&env.kindOf n==some .cell)=true then(n,NameKind.cell) else(n,k))::_)=_;cases hx:x==n with
  | true=>
   simp only[YF,hx] at h;cases h
   have e:x=n:=by simpa using hx
   subst e;have hkk:env.kindOf x=some .cell:=hc;rw[hk,hkk];simp[YF]
  | false=>
   simp only[YF,hx] at h;by_cases hcc:(k==NameKind.free&&env.scope.kind == .function&&env.kindOf n==some .cell)=true
   ·rw[ZV hcc];simp only[YF,hx];exact ih h hc
   ·rw[ZU hcc];simp only[YF,hx];exact ih h hc
def T8 {env:Env}:∀{names:List (Str×NameKind)}{x:Str}{q:NameKind},
  (names.map fun(n,k)=>if (k==NameKind.free&&env.scope.kind == .function&&env.kindOf n==some .cell) then(n,NameKind.cell) else(n,k)).lookup x=some q->∃k,(x,k)∈names/\(q=k\/k=.free)
 | [],_,_,h=>by simp at h
 | (n,k)::r,x,q,h=>by
  have ih:=@T8 env r x q;have h':List.lookup x ((if (k==NameKind.free&&env.scope.kind == .function&&env.kindOf n==some .cell)=true then(n,NameKind.cell) else(n,k))::(r.map fun(n,k)=>if (k==NameKind.free&&env.scope.kind == .function&&env.kindOf n==some .cell) then(n,NameKind.cell) else(n,k)))=some q:=h;cases hx:x==n with
  | true=>
   have e:x=n:=by simpa using hx
   subst e;by_cases hcc:(k==NameKind.free&&env.scope.kind == .function&&env.kindOf x==some .cell)=true
   ·refine⟨k,YB,.inr ?_⟩
    have:=(YU _ _▸(YU _ _▸hcc).1).1
    simpa using this
   ·rw[ZU hcc] at h';simp[YF] at h';exact⟨k,YB,.inl h'.symm⟩
  | false=>
   have h2:List.lookup x (r.map fun(n,k)=>if (k==NameKind.free&&env.scope.kind == .function&&env.kindOf n==some .cell) then(n,NameKind.cell) else(n,k))=some q:=by
    by_cases hcc:(k==NameKind.free&&env.scope.kind == .function&&env.kindOf n==some .cell)=true
    ·rw[ZV hcc] at h';simp only[YF,hx] at h';exact h'
    ·rw[ZU hcc] at h';simp only[YF,hx] at h';exact h'
   obtain⟨k',hm,hq⟩:=ih h2;exact⟨k',Yt _ hm,hq⟩
def EW {prog:Program}{w:World}{A:Around}{R:Result->Shared->Prop}{s:Shared}{elt target iter:Expr}{ifs:List Expr}{scope:Scope}{pos:Pos}{it acc:Value}{env:Env} (I:Nat->Shared->Prop)
  (turn:∀n s,I n s->wpAny (model prog w) A (pyNext it) (fun r s₁=>match r with
   | none=>R (.ok .next) s₁
   | some v=>wpAny (model prog w) A (letOwnedTupleGo target it v) (fun _ s₁'=>wpAny (model prog w) A (assign target env v) (fun _ s₂=>
     wpAny (model prog w) A (forIn ifs true fun c r=>if r=true then do let ok ←isTrue c env (eval c env);pure (ForInStep.yield ok) else pure (ForInStep.yield r)) (fun ok s₃=>
      if ok=true then wpAny (model prog w) A (eval elt env) (fun x s₄=>
       wpAny (model prog w) A (call (.builtin "list.append") [acc,x]) (fun _ s₅=>∃m,m<n/\I m s₅) (fun _ _=>False) s₄) (fun _ _=>False) s₃
      else ∃m,m<n/\I m s₃) (fun _ _=>False) s₂) (fun _ _=>False) s₁') (fun _ _=>False) s₁) (fun _ _=>False) s)
  (n:Nat) (h:I n s) :
  codeAny (model prog w) A (.compLoop (.ListComp elt [⟨target,iter,ifs,0⟩] scope pos) 0 it acc env) R s:=by
 refine codeAny_loop rfl I (fun n s hI=>?_) n h;show wpAny _ A ((compTurn (.ListComp elt [⟨target,iter,ifs,0⟩] scope pos) 0 it acc env).onRaise (fun x=>do noteFrame x env;theTreesLotGoes x)) _ _ s
 refine wpAny_noted ?_;rw[compTurn_list];refine Yp (wpAny_standAt (Yp (YN (turn n s hI) (fun r s₁ h₁=>?_) fun _ _ h'=>h'.elim)));cases r with
 | none=>exact YC h₁
 | some v=>
  refine Yp (YN h₁ (fun _ s₁' h₁'=>?_) fun _ _ h'=>h'.elim);refine Yp (YN h₁' (fun _ s₂ h₂=>Yp (YN h₂ (fun ok s₃ h₃=>?_) fun _ _ h'=>h'.elim)) fun _ _ h'=>h'.elim);cases ok with
  | false=>exact YC ⟨rfl,h₃⟩
  | true=>
   exact Yp (Yp (YN h₃ (fun x s₄ h₄=>Yp (YN h₄ (fun _ s₅ h₅=>YC (YC ⟨rfl,h₅⟩)) fun _ _ h'=>h'.elim)) fun _ _ h'=>h'.elim))
def PIfs (X:Cx) (ifs:List Expr) (t:TT):Prop:=
 ∀(pins:List (Addr×Obj)) (s:Shared) (σ:L2.St) (H:Hp) (Q:Bool->Hp->Prop),Inv X pins σ H s->t σ H Q->
  wpAny (model X.prog X.w) X.A (forIn ifs true fun c r=>if r=true then do let ok ←isTrue c X.env (eval c X.env);pure (ForInStep.yield ok) else pure (ForInStep.yield r)) (TP X pins σ Q) X.xe s
def N7:TT:=fun _ H Q=>Q true H
def PC {X:Cx}:PIfs X [] N7:=fun _ _ _ H _ I h=>YC ⟨H,I,h⟩
def BF {X:Cx}{c:Expr}{t:TT} (hc:PT X c t):PIfs X [c] t:=by
 intro pins s σ H Q I h;rw[List.forIn_cons];refine Yp ?_;rw[ZV rfl];exact Yp (thn (hc pins s σ H Q I h) fun b s1 q=>YC (YC q))
def Nv (φ:List (Option Nat)) (wi:TI) (g:TG) (tc:TT) (te:TE):TE:=fun σ H Q=>wi σ H fun J H1=>∀D,H1 D=none->∃W:Nat->Nat->List V->Hp->Prop,(∃m,W 0 m [] (upd H1 D (.lst [])))/\
 ∀i m ys H2,W i m ys H2->(J.stop i H2/\Q (.ref D) H2)\/(J.go i H2/\∀x H3,J.yld i H2 x H3->g x (atStart φ σ) H3 fun σ2 H4=>Sub (atStart φ σ) σ2/\tc σ2 H4 fun b H5=>
  if b=true then te σ2 H5 fun y H6=>H6 D=some (.lst ys)/\ys.length<sizeLine/\∃m',m'<m/\W (i+1) m' (ys++[y]) (upd H6 D (.lst (ys++[y]))) else ∃m',m'<m/\W (i+1) m' ys H5)
def Inv.weak {X:Cx}{pins:List (Addr×Obj)}{σ σ':L2.St}{H:Hp}{s:Shared} (I:Inv X pins σ' H s) (S:Sub σ σ'):Inv X pins σ H s:=
 ⟨I.ok,I.os,I.bare,I.base,let ⟨m,hn,hl⟩:=I.loc;⟨m,hn,fun i x v h1 h2 h3=>hl i x v h1 (S.2 i v h2) h3⟩,I.cell,I.free,I.freeC,I.pin,I.hok,by rw[←S.1];exact I.len⟩
def N0 {φ:List (Option Nat)}{σ:L2.St}{i:Nat}{v:V} (h:(atStart φ σ)[i]?=some (some v)):∃j,φ[i]?=some (some j)/\σ[j]?=some (some v):=by
 unfold atStart at h;rw[ZY] at h;cases e:φ[i]? with
 | none=>rw[e] at h;cases h
 | some o=>
  rw[e] at h;cases o with
  | none=>simp at h
  | some j=>
   refine⟨j,rfl,?_⟩;simp at h;cases e2:σ[j]? with
   | none=>rw[e2] at h;simp at h
   | some w=>rw[e2] at h;simp at h;rw[h]
def CompEnd (X:Cx) (pins:List (Addr×Obj)) (σ:L2.St) (Q:VK) (use:Option (Value->Sem Unit)) (QQ:Value->Shared->Prop):Prop:=
 ∀(D C:Addr) (H5:Hp) (s6:Shared),Q (.ref D) H5->Inv X pins σ H5 s6->(∃m,s6.heap.Ns C m)->H5 C=none->C≠X.env.locals->X.s₀.heap.objs.size<=C->(∀x c,X.env.cells.lookup x=some c->c≠C)->(∀p∈X.pn++pins,p.1≠C)->C∉X.fs->
  compPost (model X.prog X.w) X.A X.xe use QQ (.ref D) C (.ok .next) s6
def FV {X:Cx}{N':List Str}{φ:List (Option Nat)}{sc:Scope}{elt iter tg:Expr}{ifs:List Expr}{pos pos':Pos}{wi:TI}{g:TG}{tc:TT}{te:TE}{use:Option (Value->Sem Unit)}{QQ:Value->Shared->Prop} (hcalm:X.calm=true) (S:CompOk X N' φ sc) (hi:PI X tg iter wi)
  (hin:∀cl C s₃ H₃ ex,PG (Jq X N' sc cl C s₃ H₃ ex) tg g/\PIfs (Jq X N' sc cl C s₃ H₃ ex) ifs tc/\PE (Jq X N' sc cl C s₃ H₃ ex) elt te) (hs:∀x,foldedSetIterable iter X.env x=pure x)
  {pins:List (Addr×Obj)} {s:Shared} {σ:L2.St} {H:Hp} {Q:VK} (I:Inv X pins σ H s) (h:Nv φ wi g tc te σ H Q) (fin:CompEnd X pins σ Q use QQ) :
  wpAny (model X.prog X.w) X.A (comprehension (.ListComp elt [⟨tg,iter,ifs,0⟩] sc pos) sc X.env pos' (newList []) false (eval iter X.env) use) QQ X.xe s:=by
 obtain⟨cl,hcl,p1,p3⟩:=EV (env:=X.env) (sc:=sc) fun x hx hf=>I.ok.has x.1 (.inl (S.frees x hx hf));refine wpAny_comprehension_free (use:=use) rfl hs hcl S.kind S.names ?_;refine thn (hi pins s σ H _ I h) fun v s1 h1=>thn h1 fun itv s2 h2=>?_;obtain⟨it,fp,tn,J,H2,e,I2,T,st2,f2,hR⟩:=h2;subst e;refine wpAny_newObj_type ?_;have hf:H2 s2.heap.objs.size=none:=I2.hok.fresh (Ye _);obtain⟨W,⟨m0,w0⟩,turn⟩:=hR s2.heap.objs.size hf;generalize eD:s2.heap.objs.size=D at *
 have I3:Inv X pins σ (upd H2 D (.lst [])) { s2 with heap:=s2.heap.push { cls:=.type "list",dict:=none,data:=.seq ([]:List Value).toArray } }:=
  I2.laid (t':=s2.toks) (fun b u e=>Yj _ e) (YQ eD) ⟨Wu _,[],0,.nil,by rw[←eD];exact Y2 _ rfl⟩
 have st3:tn 0 (s2.heap.push { cls:=.type "list",dict:=none,data:=.seq ([]:List Value).toArray }):=T.keep _ _ _ st2 fun b _ o e=>Yj _ e
 have hfpD:∀b∈fp,b≠D:=fun b hb z=>by
  obtain⟨o,ho,_⟩:=T.obj _ _ st2 b hb
  have:=Yf ho
  rw[z,←eD] at this;exact YM _ this
 have f3:∀b∈fp,FpOk X pins (upd H2 D (.lst [])) b:=fun b hb=>⟨by rw[V1 (hfpD b hb)];exact(f2 b hb).1,(f2 b hb).2⟩;generalize es3:({ s2 with heap:=s2.heap.push { cls:=.type "list",dict:=none,data:=.seq ([]:List Value).toArray } }:Shared)=s3 at *
 have st3':tn 0 s3.heap:=by rw[←es3];exact st3
 generalize eH3:upd H2 D (.lst [])=H3 at *;refine wpAny_newFunctionEnv S.nocell (by intro y hy;simp at hy) (fun h₁ hns₁ hsb₁=>?_) S.kind;have hh3:s3.heap=s2.heap.push { cls:=.type "list",dict:=none,data:=.seq ([]:List Value).toArray }:=by rw[←es3]
 rw[hh3] at hns₁ hsb₁;rw[←hh3] at hns₁ hsb₁;have old:∀b o,s3.heap.get? b=some o->h₁.get? b=some o:=fun b o e=>hsb₁.extBut b o (YA (Yf e)) (Yj _ e)
 have hC0:s3.heap.get? s3.heap.objs.size=none:=by
  cases e:s3.heap.get? s3.heap.objs.size with
  | none=>rfl
  | some o=>exact absurd (Yf e) (YM _)
 generalize eC:s3.heap.objs.size=C at *;have hH3C:H3 C=none:=I3.hok.fresh (YQ eC)
 have OK:(Jq X N' sc cl C s3 H3 fp).Ok:=by
  refine⟨I.ok.mod,?_,I.ok.glob,I.ok.blt,YQ eC,fun x y c h1 h2=>I.ok.inj x y c (p1 x c h1) (p1 y c h2),?_,(fun x c hx=>by cases hx),I.ok.hd,I.ok.frames,.inl rfl,?_,I3.bs,Yi I.ok.bsz I3.sz,?_,?_,I3.stack,I3.stkFree⟩
  ·exact S.kind
  ·intro x hx;have hx':(∃k,(x,k)∈sc.names/\(NameKind.cell=k\/k=.free))\/∃k,(x,k)∈sc.names/\(NameKind.free=k\/k=.free):=hx.imp T8 T8
   have hfr:(x,NameKind.free)∈sc.names:=by
    rcases hx' with⟨k,hm,rfl|rfl⟩|⟨k,hm,rfl|rfl⟩
    ·exact absurd rfl (S.nocell _ hm)
    ·exact hm
    ·exact hm
    ·exact hm
   exact p3 _ hfr rfl
  ·intro b hb;refine⟨fun z=>?_,fun x c hx=>(f3 b hb).2.2.2.2.1 x c (p1 x c hx)⟩;obtain⟨o,ho,_⟩:=T.obj _ _ st3' b hb;have z':b=C:=z;rw[z',hC0] at ho;cases ho
  ·intro b o hb hx;obtain⟨_,_,_,q,_,_⟩:=f3 b hx;rcases q with q|q
   ·exact I.ok.noex b o hb q
   ·have:=Yr (Yf hb) (Yi I.ok.bsz q)
    exact YM _ this
  ·intro b hb hz;rcases Ym.mp (I.stkSub b hz) with q|q
   ·exact(f3 b hb).2.1 q
   ·exact(f3 b hb).2.2.1 q
 have hlen0:(atStart φ σ).length=N'.length:=by unfold atStart;rw[ZR];exact S.len
 have I4:Inv (Jq X N' sc cl C s3 H3 fp) [] (atStart φ σ) H3 { s3 with heap:=h₁,toks:=s3.toks+([]:List (Str×Value)).length }:=by
  refine⟨OK,rfl,I3.bare,Un.kept old,⟨_,hns₁,fun i x v h1 h2 h3=>?_⟩,fun x c hx=>?_,hH3C,fun x c hx=>I3.freeC x c (p1 x c hx),fun p hp=>?_,I3.hok.kept old,hlen0⟩
  ·obtain⟨j,hj,hv⟩:=N0 h2;obtain⟨hN,hfr⟩:=S.pick i x j h1 hj;obtain⟨m,_,hl⟩:=I3.loc;have hm:(x,NameKind.free)∈sc.names:=YT hfr;have hcell:=S.frees _ hm rfl;obtain⟨u,ru,lk⟩:=hl j x v hN hv (.inr (.inl hcell));refine⟨u,ru,.inr ⟨.inl (Sf S.okind hfr hcell),?_⟩⟩;obtain⟨c,hc⟩:=p3 _ hm rfl;rcases lk with⟨hk,_⟩|⟨_,c',hc',hcl'⟩
   ·have hk':X.env.scope.names.lookup x=some .local:=hk;rw[hcell] at hk';cases hk'
   ·have e:=p1 _ _ hc;rw[hc'] at e;cases e
    obtain⟨o,ho,hd⟩:=hcl';exact⟨_,hc,o,old _ o ho,hd⟩
  ·obtain⟨v,hv⟩:=I3.cell x c (p1 x c hx);obtain⟨o,ho,hd⟩:=hv;exact⟨v,o,old _ o ho,hd⟩
  ·exact absurd hp (by simp[Jq])
 have st4:tn 0 h₁:=T.keep _ _ _ st3' fun b _ o e=>old b o e
 have stat:∀{H':Hp},(∀b∈fp,H' b=none)->∀b∈fp,FpOk (Jq X N' sc cl C s3 H3 fp) [] H' b:=fun hn b hb=>
  ⟨hn b hb,(OK.exf b hb).1,OK.exfs b hb,.inl hb,(OK.exf b hb).2,fun p hp=>absurd hp (by simp[Jq])⟩
 obtain⟨hPG,hPI,hPE⟩:=hin cl C s3 H3 fp
 have loop:codeAny (model X.prog X.w) X.A (.compLoop (.ListComp elt [⟨tg,iter,ifs,0⟩] sc pos) 0 (.ref it) (.ref D) (compEnvC sc cl C X.env)) (compPost (model X.prog X.w) X.A X.xe use QQ (.ref D) C) { s3 with heap:=h₁,toks:=s3.toks+([]:List (Str×Value)).length }:=by
  refine EW (fun n s'=>∃i ys σ' H',Inv (Jq X N' sc cl C s3 H3 fp) [] σ' H' s'/\Sub (atStart φ σ) σ'/\tn i s'.heap/\(∀b∈fp,H' b=none)/\W i n ys H') ?_ m0 ⟨0,[],_,_,I4,Sub.refl,st4,fun b hb=>(f3 b hb).1,w0⟩;rintro n s5 ⟨i,ys,σ5,H5,I5,sub5,st5,fr5,w5⟩;have I5':=Own.Inv.weak I5 sub5;rcases turn i n ys H5 w5 with⟨stop,qn⟩|⟨go,step⟩
  ·refine thn (T.done (Jq X N' sc cl C s3 H3 fp) rfl rfl rfl hcalm i [] s5 _ H5 _ I5' (stat fr5) st5 stop) fun r s6 ⟨hr,I6⟩=>?_;subst hr;obtain⟨m,hn,_⟩:=I6.loc;obtain⟨hh,gg,dd,tt,oo⟩:=s6;obtain rfl:oo=s3.os:=I6.os;have R:Inv X pins σ H5 { s3 with heap:=hh,gens:=gg,drawn:=dd,toks:=tt }:=I3.call (ch:=fp) (h':=hh) (g':=gg) (d':=dd) (t':=tt) I6.base I6.hok I6.bare fun b hb=>⟨(f3 b hb).2.2.2.1,(f3 b hb).2.1,(f3 b hb).2.2.2.2.1,(f3 b hb).2.2.2.2.2⟩
   have hC3:s3.heap.objs.size<=C:=YQ eC;obtain⟨q0,q1,q2,q3,q4,q5⟩:=I3.fpOk (b:=C) (H':=H3) hC3 hH3C;refine fin D C H5 _ qn R ⟨m,hn⟩ I6.free q1 (Yi I3.sz hC3) q4 q5 q2
  ·refine thn (T.item (Jq X N' sc cl C s3 H3 fp) rfl rfl rfl hcalm i [] s5 _ H5 _ I5' (stat fr5) st5 go) fun r s6 ⟨u,hr,h6⟩=>?_;subst hr;refine thn h6 fun _ s7 ⟨x,H7,I7,r7,y7,st7,fr7⟩=>?_;have I7':=I7.pinned (stat fr7) (T.obj _ _ st7);refine thn (hPG _ s7 _ H7 x u _ I7' r7 (step x H7 y7)) fun _ s8 ⟨σ8,H8,I8,sub8,q8⟩=>?_;refine thn (hPI _ s8 σ8 H8 _ I8 q8) fun ok s9 ⟨H9,I9,q9⟩=>?_
   have again:∀{s10:Shared} {H10:Hp} {ys':List V} {m':Nat},Inv (Jq X N' sc cl C s3 H3 fp) ([]++XC fp s7.heap) σ8 H10 s10->W (i+1) m' ys' H10->∃i ys σ' H',Inv (Jq X N' sc cl C s3 H3 fp) [] σ' H' s10/\Sub (atStart φ σ) σ'/\tn i s10.heap/\(∀b∈fp,H' b=none)/\W i m' ys H':=fun {s10 H10 ys' m'} J10 w10=>by
    refine⟨i+1,ys',σ8,H10,J10.unpinned,sub8,T.keep _ _ _ st7 fun b hb o e=>(J10.pin (b,o) (Y1 _ (Y1 _ (Kl hb e)))).1,fun b hb=>?_,w10⟩;obtain⟨o,e,d⟩:=T.obj _ _ st7 b hb;exact(J10.pin (b,o) (Y1 _ (Y1 _ (Kl hb e)))).2.1
   cases ok with
   | false=>
    obtain⟨m',hm,w'⟩:=q9;exact⟨m',hm,again I9 w'⟩
   | true=>
    refine thn (hPE _ s9 σ8 H9 _ I9 q9) fun xv s10 ⟨y,H10,I10,r10,hD,hl,m',hm,w'⟩=>?_;refine thn (Uq _ s10 σ8 H10 (.ref D) [y] (.ref D) [xv] (fun _ H11=>H11=upd H10 D (.lst (ys++[y]))) I10 rfl (.cons r10 .nil) ⟨D,ys,y,rfl,rfl,hD,hl,rfl⟩) fun _ s11 ⟨_,H11,I11,_,e11⟩=>?_;subst e11;exact⟨m',hm,again I11 w'⟩
 refine codeAny_compStart_list loop (T.self _ 0 _ _ _ st4 loop)
def Xz {X:Cx}{N':List Str}{φ:List (Option Nat)}{sc:Scope}{elt iter tg:Expr}{ifs:List Expr}{pos:Pos}{wi:TI}{g:TG}{tc:TT}{te:TE} (hcalm:X.calm=true) (S:CompOk X N' φ sc) (hi:PI X tg iter wi)
  (hin:∀cl C s₃ H₃ ex,PG (Jq X N' sc cl C s₃ H₃ ex) tg g/\PIfs (Jq X N' sc cl C s₃ H₃ ex) ifs tc/\PE (Jq X N' sc cl C s₃ H₃ ex) elt te)
  (hs:∀x,foldedSetIterable iter X.env x=pure x:=by intro _;rfl):PE X (.ListComp elt [⟨tg,iter,ifs,0⟩] sc pos) (Nv φ wi g tc te):=by
 intro pins s σ H Q I h;rw[eval_ListComp];refine FV (use:=none) hcalm S hi hin hs I h fun D C H5 s6 q R hm c0 c1 c2 c3 c4 c5=>?_;obtain⟨m,hn⟩:=hm;exact⟨m,hn,fun h' sb=>⟨.ref D,H5,R.turned (it:=C) (t':=s6.toks) (fun b o hb e=>sb.extBut b o hb e) c0 c1 (.inr c2) c3 c4,rfl,q⟩⟩
def B3 (sc osc:Scope) (N N':List Str) (φ:List (Option Nat)):Bool:=
 sc.kind == .function&&osc.kind == .function&&(sc.names.all fun y=>y.2 != .cell&&(y.2 != .local || sc.names.lookup y.1==some .local)&&(y.2 != .free || osc.names.lookup y.1==some .cell)) &&
  φ.length==N'.length&&((N'.zip φ).all fun p=>match p.2 with|none=>true|some j=>N[j]? == some p.1&&sc.names.lookup p.1==some .free)
def CompOk.of {X:Cx}{N':List Str}{φ:List (Option Nat)}{sc:Scope} (h:B3 sc X.env.scope X.N N' φ=true):CompOk X N' φ sc:=by
 unfold B3 at h;simp only[YU,beq_iff_eq,YV,Bool.or_eq_true,bne_iff_ne,ne_eq] at h;obtain⟨⟨⟨⟨h1,h2⟩,h3⟩,h4⟩,h5⟩:=h;refine⟨h1,h2,fun y hy=>(h3 y hy).1.1,fun y hy hl=>?_,fun y hy hf=>?_,h4,fun i x j hi hj=>?_⟩
 ·rcases(h3 y hy).1.2 with z|z
  ·exact absurd hl z
  ·exact z
 ·rcases(h3 y hy).2 with z|z
  ·exact absurd hf z
  ·exact z
 ·have hz:(N'.zip φ)[i]?=some (x,some j):=by rw[List.getElem?_zip_eq_some];exact⟨hi,hj⟩
  have:=h5 _ (Yh hz)
  simpa using this
section
variable {X:Cx}{K:Za}
def Ny (hK:X.K=K:=by rfl):IxR X (fun x y H Q=>rIxL K x y H Q\/rIxT K x y H Q):=by subst hK;exact AF
def F3 (hK:X.K=K:=by rfl):J7 X (.builtin "len") (fun xs H Q=>∃x n,xs=[x]/\LenV K x H n/\Q (.int n) H):=by subst hK;exact CT
def G6 (hK:X.K=K:=by rfl):OpR X (compareOp .In) (rIn K false):=by subst hK;exact DS
def Ca (hK:X.K=K:=by rfl):OpR X (compareOp .NotIn) (rIn K true):=by subst hK;exact Ht
def AO {pos:Pos}{es:List Expr}{k:Nat}{t:TGs}{n:Nat} (hc:X.calm=true) (h:PGs X es t) (hK:X.K=K:=by rfl)
  (hn:(assignEach es X.env).length=n:=by rfl) (hst:(assignEach es X.env).findIdx? (·.1)=none:=by rfl):PG X (.Tuple es k pos) (gTup K n t):=by subst hK;exact A0 hc h hn hst
end
def eqL (xs ys:List V):Bool:=decide (xs.length=ys.length)&&(List.range xs.length).all fun j=>eqV (xs.getD j .non) (ys.getD j .non)
def rEqL (K:Za) (neg:Bool):R2:=fun x y H Q=>∃(p q:Addr) (xs ys:List V),x=.ref p/\y=.ref q/\SqL K H p xs/\SqL K H q ys/\xs.all Jf=true/\ys.all Jf=true/\Q (.bl (if neg then !eqL xs ys else eqL xs ys)) H
section
variable {X:Cx}
def TK {A:Around}{s:Shared}{xs ys:List V}{us ws:List Value} (r1:Vals xs us) (r2:Vals ys ws) (f1:xs.all Jf=true) (f2:ys.all Jf=true) (j:Nat) (h1:j<us.toArray.size) (h2:j<ws.toArray.size) :
  SeqAt.EqAt A s us.toArray[j] ws.toArray[j] (eqV (xs.getD j .non) (ys.getD j .non)):=by
 have l1:=r1.length;have l2:=r2.length;have g1:j<us.length:=by simpa using h1
 have g2:j<ws.length:=by simpa using h2
 have k1:xs[j]?=some (xs[j]'(by omega)):=ZS _;have k2:ys[j]?=some (ys[j]'(by omega)):=ZS _;obtain⟨u,eu,ru⟩:=r1.get k1;obtain⟨w,ew,rw'⟩:=r2.get k2
 have e1:us.toArray[j]=u:=by
  have:us[j]?=some us[j]:=ZS g1
  rw[this] at eu;simpa using Ya eu
 have e2:ws.toArray[j]=w:=by
  have:ws[j]?=some ws[j]:=ZS g2
  rw[this] at ew;simpa using Ya ew
 have d1:xs.getD j .non=xs[j]'(by omega):=by rw[Yg,k1];rfl
 have d2:ys.getD j .non=ys[j]'(by omega):=by rw[Yg,k2];rfl
 rw[e1,e2,d1,d2];exact NQ ru rw' (YV.mp f1 _ (YI _)) (YV.mp f2 _ (YI _))
def Ba (hu:X.A.units<cLine):OpR X (compareOp .Eq) (rEqL X.K false):=by
 intro pins s σ H x y v u Q I rx ry h;obtain⟨p,q,xs,ys,rfl,rfl,hp,hq,f1,f2,k⟩:=h;obtain rfl:v=Value.ref p:=rx;obtain rfl:u=Value.ref q:=ry;obtain⟨us,r1,p1,_⟩:=I.list hp;obtain⟨ws,r2,p2,_⟩:=I.list hq;have l1:=r1.length;have l2:=r2.length;have k':Q (.bl (eqL xs ys)) H:=k;by_cases e:xs.length=ys.length
 ·refine SeqAt.eq_listAt p1.isList p2.isList (by simp;omega) hu (fun j h1 h2=>TK r1 r2 f1 f2 j h1 h2) ⟨.bl (eqL xs ys),H,I,?_,k'⟩;show _=Value.bool (eqL xs ys);unfold eqL;rw[ZT e,Wm,Yd,←l1]
 ·refine SeqAt.eq_list_lengthsAt p1.isList p2.isList (by simp;omega) hu ⟨.bl (eqL xs ys),H,I,?_,k'⟩;show _=Value.bool (eqL xs ys);unfold eqL;rw[Yk e];rfl
def DC (hu:X.A.units<cLine):OpR X (compareOp .NotEq) (rEqL X.K true):=by
 intro pins s σ H x y v u Q I rx ry h;obtain⟨p,q,xs,ys,rfl,rfl,hp,hq,f1,f2,k⟩:=h;obtain rfl:v=Value.ref p:=rx;obtain rfl:u=Value.ref q:=ry;obtain⟨us,r1,p1,_⟩:=I.list hp;obtain⟨ws,r2,p2,_⟩:=I.list hq;have l1:=r1.length;have l2:=r2.length;have k':Q (.bl (!eqL xs ys)) H:=k;by_cases e:xs.length=ys.length
 ·refine SeqAt.RcNeAt.lists p1.isList p2.isList (by simp;omega) hu (fun j h1 h2=>TK r1 r2 f1 f2 j h1 h2) _ _ _ _ ⟨.bl (!eqL xs ys),H,I,?_,k'⟩;show _=Value.bool (!eqL xs ys);unfold eqL;rw[ZT e,Wm,Yd,←l1]
 ·refine SeqAt.RcNeAt.lists_lengths p1.isList p2.isList (by simp;omega) hu _ _ _ _ ⟨.bl (!eqL xs ys),H,I,?_,k'⟩;show _=Value.bool (!eqL xs ys);unfold eqL;rw[Yk e];rfl
end
def Pz (xs ys:List Int):eqL (xs.map V.int) (ys.map V.int)=decide (xs=ys):=by
 unfold eqL;rw[ZR,ZR];by_cases e:xs=ys
 ·subst e;rw[ZT rfl,ZT rfl,Wm,YV];intro j hj;have hj':j<xs.length:=by simpa using hj
  rw[Yg,ZY,ZS hj'];show(xs[j]==xs[j])=true;simp
 ·rw[Yk e];by_cases hl:xs.length=ys.length
  ·rw[ZT hl,Wm,Bool.eq_false_iff];intro hall;apply e;apply List.ext_getElem hl;intro j h1 h2
   have:=YV.mp hall j (by simpa using h1)
   rw[Yg,ZY,ZS h1,Yg,ZY,ZS h2] at this;have h3:(xs[j]==ys[j])=true:=this;simpa using h3
  ·rw[Yk hl];rfl
def U9 (xs:List Int):(xs.map V.int).all Jf=true:=by
 rw[List.all_map];exact YV.mpr fun _ _=>rfl
end Own
namespace M
open PySem PySem.Spec PyProof.Rows L2 Own
def LV {α:Type} (R:Hp->V->α->Prop) (H:Hp) (vs:List V) (xs:List α):Prop:=
 vs.length=xs.length/\∀(i:Nat) (x:α),xs[i]?=some x->∃v,vs[i]?=some v/\R H v x
def LAt {α:Type} (R:Hp->V->α->Prop) (H:Hp) (l:Addr) (xs:List α):Prop:=∃vs,H l=some (.lst vs)/\LV R H vs xs
def JS (H:Hp) (v:V) (q:Int×Int):Prop:=∃a,v=.ref a/\H a=some (.tup [.int q.1,.int q.2])
def Menu (m:List Int):Prop:=∃a b c d e:Int,m=[a,b,c,d,e]/\(1<=a/\a<=10)/\(1<=b/\b<=9/\(b=1\/b=3\/b=7\/b=9))/\(0<=c/\c<=9)/\(1<=d/\d<=1000)/\(1<=e/\e+d<=1001)
def Field (ps:List (Int×Int)):Prop:=∀q∈ps,1<=q.1/\q.1<=10/\1<=q.2/\q.2<=1000
def Bt (z:Int) (xs:List Int):inV (.int z) (xs.map V.int)=decide (z∈xs):=by
 unfold inV;rw[List.any_map]
 induction xs with
 | nil=>simp
 | cons x r ih=>
  rw[W9,ih];show((x==z) || _)=_;by_cases e:x=z
  ·subst e;simp
  ·have:(x==z)=false:=by simpa using e
   rw[this];simp only[Bool.false_or];by_cases h:z∈r
   ·rw[ZT h,ZT (Yt _ h)]
   ·rw[Yk h,Yk];intro hz;rcases Ym.mp hz with hz|hz
    ·exact e hz.symm
    ·exact h hz
end M
namespace ExcR
open PySem PySem.Spec PyProof.Rows L2
structure KeepX (fs ex:List Addr) (h h':Heap):Prop where
 keep:∀b o,h.get? b=some o->b∉fs->b∉ex->h'.get? b=some o
 slot:∀b o,h.get? b=some o->b∉ex->∃sl,h'.get? b=some { o with slots:=sl }
 size:h.objs.size<=h'.objs.size
def KeepX.trans {fs ex:List Addr}{h1 h2 h3:Heap} (a:KeepX fs ex h1 h2) (b:KeepX fs ex h2 h3):KeepX fs ex h1 h3:=
 ⟨fun c o e n m=>b.keep c o (a.keep c o e n m) n m,fun c o e m=>by
  obtain⟨s1,e1⟩:=a.slot c o e m;obtain⟨s2,e2⟩:=b.slot c _ e1 m;exact⟨s2,e2⟩,Yi a.size b.size⟩
def KeepX.mono {fs fs' ex ex':List Addr}{h1 h2:Heap} (a:KeepX fs ex h1 h2) (hf:∀b∈fs,b∈fs') (hx:∀b∈ex,b∈ex'):KeepX fs' ex' h1 h2:=
 ⟨fun c o e n m=>a.keep c o e (fun z=>n (hf c z)) (fun z=>m (hx c z)),fun c o e m=>a.slot c o e fun z=>m (hx c z),a.size⟩
structure Trc (h:Heap) (e T:Addr) (cls fl:Value):Prop where
 ne:T≠e
 exc:∃oe vs,h.get? e=some oe/\oe.cls=cls/\oe.data=.fields vs/\vs[1]?=some (.ref T)
 ent:∃oT ts,h.get? T=some oT/\oT.data=.fields ts/\ts[3]?=some fl
section
variable {M:Model}{A:Around}{E:Value->Shared->Prop}{s:Shared}{base:Heap}{env:Env}{outer:List Env}{L e:Addr}
def Sv {oe:Obj}{vs:Array Value}{head:Value}{hadNext:Bool}{Q:Unit->Shared->Prop} (hfr:A.frames=some (env::outer)) (hl:s.heap.FunFrames base (env::outer)) (hf:env.frame=some L)
  (he:s.heap.get? e=some oe) (hd:oe.data=.fields vs) (hsz:1<vs.size)
  (h:∀h' T,s.heap.objs.size<=T->Trc h' e T oe.cls (rawInt L)->KeepX (frs (env::outer)) [e] s.heap h'->Q () { s with heap:=h' }) :
  wpAny M A (do let a ←frameOf env;let pl ←entryPlaceOf L hadNext;let b ←EntryCells.newEntry head a .none (rawInt L) .none pl;setField (.ref e) 1 b) Q E s:=by
 have hene:e∉frs (env::outer):=fun hm=>by
  obtain⟨_,o,ho,hnf⟩:=hl.mem hm;rw[he] at ho;cases ho
  exact hnf vs hd
 refine Yp (wpAny_frameOf_fun hfr hl hf fun h1 s1=>Yp (wpAny_entryPlaceOf fun pl hpl=>?_));unfold EntryCells.newEntry newFields;refine Yp (wpAny_newObj_type ?_ (hpl.sizeOk5 _ _ _ _ _));have he1:h1.get? e=some oe:=(s1.2.1 e hene).trans he;generalize eo:({ cls:=.type "traceback",dict:=none,data:=.fields ([head,.ref L,.none,rawInt L,.none]++(if pl.isEmpty then List.replicate 6 Value.none else pl)).toArray }:Obj)=ot;have he2:=Yj (h:=h1) ot he1;refine wpAny_setField he2 hd hsz (h _ h1.objs.size (YQ s1.1.symm) ?_ ?_)
 ·have ne1:h1.objs.size≠e:=Nat.ne_of_gt (Yf he1);have d3:=Obj.data_mapFields hd (·.setIfInBounds 1 (Value.ref h1.objs.size));refine⟨ne1,⟨_,_,Wz _ he2 (Obj.isFreed_of_fields d3),Obj.cls_mapFields _ _,d3,by simp[hsz]⟩,ot,_,?_,by rw[←eo],?_⟩
  ·exact(YJ _ _ (Ne.symm ne1)).trans (Y2 h1 (by rw[←eo];rfl))
  ·first
    | (simp;done)
    | (rcases hpl with rfl|⟨_,_,_,_,_,_,_,rfl⟩<;>simp)
 ·refine⟨fun b o q nb nx=>?_,fun b o q nx=>?_,?_⟩
  ·have hbe:b≠e:=fun z=>nx (by simp[z]);rw[YJ _ _ (Ne.symm hbe)];exact Yj _ ((s1.2.1 b nb).trans q)
  ·have hbe:b≠e:=fun z=>nx (by simp[z]);obtain⟨sl,q1⟩:=s1.2.2 b o q;exact⟨sl,by rw[YJ _ _ (Ne.symm hbe)];exact Yj _ q1⟩
  ·rw[Heap.size_update,Wr,s1.1];exact Nat.le_succ _
def FN {oe:Obj}{vs:Array Value}{Q:Unit->Shared->Prop} (hfr:A.frames=some (env::outer)) (hl:s.heap.FunFrames base (env::outer)) (hf:env.frame=some L)
  (he:s.heap.get? e=some oe) (hd:oe.data=.fields vs) (h1:vs[1]?=some .none)
  (h:∀h' T,s.heap.objs.size<=T->Trc h' e T oe.cls (rawInt L)->KeepX (frs (env::outer)) [e] s.heap h'->Q () { s with heap:=h' }):wpAny M A (noteFrame (.ref e) env) Q E s:=by
 unfold noteFrame;simp only[hf];refine Yp (wpAny_field he hd h1 ?_);rw[ZU (by decide)];exact Sv hfr hl hf he hd (Wn.mp h1).1 h
def Sz {T:Addr}{cls fl:Value}{Q:Unit->Shared->Prop} (x:Trc s.heap e T cls fl) (h:∀h',Trc h' e T cls .none->KeepX [] [T] s.heap h'->Q () { s with heap:=h' }) :
  wpAny M A (setField (.ref T) 3 .none) Q E s:=by
 obtain⟨ne,⟨oe,vs,g1,g2,g3,g4⟩,oT,ts,k1,k2,k3⟩:=x;have hz:=(Wn.mp k3).1;refine wpAny_setField k1 k2 hz (h _ ?_ ?_)
 ·have d3:=Obj.data_mapFields k2 (·.setIfInBounds 3 Value.none);exact⟨ne,⟨oe,vs,(YJ _ _ ne).trans g1,g2,g3,g4⟩,_,_,Wz _ k1 (Obj.isFreed_of_fields d3),d3,by simp[hz]⟩
 ·have ot:∀b,b≠T->(s.heap.update T (Obj.mapFields (·.setIfInBounds 3 Value.none))).get? b=s.heap.get? b:=fun b hb=>YJ _ _ (Ne.symm hb);exact⟨fun b o q _ nx=>(ot b fun z=>nx (by simp[z])).trans q,fun b o q nx=>⟨o.slots,(ot b fun z=>nx (by simp[z])).trans q⟩,YQ (Heap.size_update ..).symm⟩
def S8 {T:Addr}{cls:Value}{Q:Unit->Shared->Prop} (hfr:A.frames=some (env::outer)) (hl:s.heap.FunFrames base (env::outer)) (hf:env.frame=some L) (x:Trc s.heap e T cls .none)
  (h:∀h' T',s.heap.objs.size<=T'->Trc h' e T' cls (rawInt L)->KeepX (frs (env::outer)) [e,T] s.heap h'->Q () { s with heap:=h' }):wpAny M A (noteFrame (.ref e) env) Q E s:=by
 obtain⟨ne,⟨oe,vs,g1,g2,g3,g4⟩,oT,ts,k1,k2,k3⟩:=id x;unfold noteFrame;simp only[hf];refine Yp (wpAny_field g1 g3 g4 ?_);rw[ZV (show(Value.ref T != Value.none)=true from by simp)]
 refine Yp (wpAny_field k1 k2 k3 ?_);rw[ZU (show ¬((Value.none==rawInt L)=true) from by simp[rawInt])]
 refine Yp (Sz x fun h1 x1 K1=>?_)
 have hTf:T∉frs (env::outer):=fun hm=>by
  obtain⟨_,o,ho,hnf⟩:=hl.mem hm;rw[k1] at ho;cases ho
  exact hnf ts k2
 have hl1:h1.FunFrames base (env::outer):=hl.of_keeps fun b o q hnf=>⟨o,K1.keep b o q (by simp) (fun z=>by
  rw[Yb.mp z,k1] at q;cases q
  exact hnf ts k2),rfl⟩
 obtain⟨_,⟨oe1,vs1,p1,p2,p3,p4⟩,_⟩:=id x1;refine Sv (s:={ s with heap:=h1 }) hfr hl1 hf p1 p3 (Wn.mp p4).1 fun h2 T' hT' x2 K2=>h h2 T' (Yi K1.size hT') (by rw[←p2];exact x2) ?_
 exact(K1.mono (by simp) (by simp)).trans (K2.mono (fun _ z=>z) (by simp))
def KB {T:Addr}{cls fl:Value}{Q:Unit->Shared->Prop} (x:Trc s.heap e T cls fl) (h:∀h',Trc h' e T cls .none->KeepX [] [T] s.heap h'->Q () { s with heap:=h' }) :
  wpAny M A (setFlight (.ref e) none) Q E s:=by
 obtain⟨ne,⟨oe,vs,g1,g2,g3,g4⟩,_⟩:=id x;unfold setFlight;refine Yp (wpAny_field g1 g3 g4 ?_);rw[ZV (show(Value.ref T != Value.none)=true from by simp)]
 exact Sz x h
def Ey {oe:Obj}{vs:Array Value}{Q:Unit->Shared->Prop} (hfr:A.frames=some (env::outer)) (hl:s.heap.FunFrames base (env::outer)) (hf:env.frame=some L)
  (he:s.heap.get? e=some oe) (hd:oe.data=.fields vs) (h1:vs[1]?=some .none)
  (h:∀h' T,s.heap.objs.size<=T->Trc h' e T oe.cls .none->KeepX (frs (env::outer)) [e] s.heap h'->Q () { s with heap:=h' }):wpAny M A (leaving env (.ref e)) Q E s:=by
 unfold leaving;refine Yp (FN hfr hl hf he hd h1 fun h2 T hT x K=>KB x fun h3 x3 K3=>h h3 T hT x3 ?_);refine⟨fun b o q nb nx=>K3.keep b o (K.keep b o q nb nx) (by simp) (fun z=>?_),fun b o q nx=>?_,Yi K.size K3.size⟩
 ·rw[Yb.mp z] at q;exact absurd (Yf q) (W4.mpr hT)
 ·obtain⟨sl,q2⟩:=K.slot b o q nx;exact⟨sl,K3.keep b _ q2 (by simp) (fun z=>by rw[Yb.mp z] at q;exact absurd (Yf q) (W4.mpr hT))⟩
def Ek {T:Addr}{cls:Value}{Q:Unit->Shared->Prop} (hfr:A.frames=some (env::outer)) (hl:s.heap.FunFrames base (env::outer)) (hf:env.frame=some L) (x:Trc s.heap e T cls .none)
  (h:∀h' T',s.heap.objs.size<=T'->Trc h' e T' cls .none->KeepX (frs (env::outer)) [e,T] s.heap h'->Q () { s with heap:=h' }):wpAny M A (leaving env (.ref e)) Q E s:=by
 unfold leaving;refine Yp (S8 hfr hl hf x fun h2 T' hT x2 K=>KB x2 fun h3 x3 K3=>h h3 T' hT x3 ?_);refine⟨fun b o q nb nx=>K3.keep b o (K.keep b o q nb nx) (by simp) (fun z=>?_),fun b o q nx=>?_,Yi K.size K3.size⟩
 ·rw[Yb.mp z] at q;exact absurd (Yf q) (W4.mpr hT)
 ·obtain⟨sl,q2⟩:=K.slot b o q nx;exact⟨sl,K3.keep b _ q2 (by simp) (fun z=>by rw[Yb.mp z] at q;exact absurd (Yf q) (W4.mpr hT))⟩
end
section
variable {P:Program}{w:World}{H H':Hp}{h h':Heap}{a:Addr}{o:HO}{fs ex:List Addr}
def has (x:ObjOk P w H h a o):∃u,h.get? a=some u:=by
 cases o with
 | lst xs=>exact let ⟨_,_,_,_,e⟩:=x;⟨_,e⟩
 | tup xs=>exact let ⟨_,_,_,u,e,_⟩:=x;⟨u,e⟩
 | dK kvs=>exact let ⟨_,_,_,_,u,_,_,e,_⟩:=x;⟨u,e⟩
 | dT kvs=>exact let ⟨_,_,_,_,u,_,_,e,_⟩:=x;⟨u,e⟩
 | set S n=>exact let ⟨u,_,_,_,e,_⟩:=x;⟨u,e⟩
 | ins C dx fs=>exact let ⟨_,_,_,e,_⟩:=x;⟨_,e⟩
 | own y=>exact x
 | xd fs=>exact let ⟨_,⟨u,_,_,e,_⟩,_⟩:=x;⟨u,e⟩
 | rng lo hi=>exact let ⟨_,_,_,e⟩:=x;⟨_,e⟩
 | frz ob u=>exact⟨_,x.1⟩
 | tbl ps=>exact⟨_,x⟩
 | met f y=>exact⟨_,x⟩
 | ext φ=>exact x.2.1
def SJ (ok:HOk P w H h) (e:h.get? a=none):H a=none:=by
 cases q:H a with
 | none=>rfl
 | some o=>
  obtain⟨u,z⟩:=has (ok a o q);rw[e] at z;cases z
def XT (ok:HOk P w H h) (k:KeepX fs ex h h') (hf:∀b∈fs,H b=none) (hx:∀b∈ex,H b=none):HOk P w H h':=fun a o e=>by
 refine(ok a o e).stay (fun b u hb q=>?_) (fun _ q=>q) (fun _ _ q=>q)
 have hn:H b≠none:=by
  rcases hb with rfl|hb
  ·rw[e];simp
  ·rw[hb];simp
 exact k.keep b u q (fun z=>hn (hf b z)) fun z=>hn (hx b z)
end
structure XAt (P:Program) (w:World) (outer:List Env) (H H':Hp) (s s':Shared) (a T C:Addr):Prop where
 os:s'.os=s.os
 bare:AllBare s'.gens
 un:Un (frs outer) [] H H' s.heap s'.heap
 hok:HOk P w H' s'.heap
 na:s.heap.get? a=none
 nT:s.heap.get? T=none
 fa:H' a=none
 fT:H' T=none
 tr:Trc s'.heap a T (.ref C) .none
def CXe (P:Program) (w:World):CXT:=fun outer H s E e s'=>∃a T C H',e=.ref a/\XAt P w outer H H' s s' a T C/\E (.ref C) none H'
section
variable {X:Cx}{pins:List (Addr×Obj)}{σ:L2.St}{H H':Hp}{s s':Shared}{a T C:Addr}
def Bm {ex:List Addr}{h':Heap} (I:Inv X pins σ H s) (hex:X.ex=[]) (k:KeepX (frs X.stack) ex s.heap h') (hx:∀b∈ex,X.s₀.heap.get? b=none):Un X.fs [] X.H₀ H X.s₀.heap h':=by
 have B:=I.base;rw[hex] at B;have out:∀b o,X.s₀.heap.get? b=some o->b∉ex:=fun b o q z=>by rw[hx b z] at q;cases q
 have nl:∀b o,X.s₀.heap.get? b=some o->b∉X.fs->b∉frs X.stack:=fun b o q nf z=>by
  rcases Ym.mp (I.stkSub b z) with e|e
  ·have h1:=Yf q;have h2:=I.ok.above;rw[e] at h1;exact absurd h1 (W4.mpr h2)
  ·exact nf e
 refine⟨fun b o q n nf ne=>k.keep b o (B.keep b o q n nf ne) (nl b o q nf) (out b o q),fun b o q n hf ne=>?_,fun b o q n ne=>B.free b o q n ne,fun b o q ne=>?_,B.tups,B.frzs,B.tbls⟩
 ·obtain⟨sl,q1⟩:=B.slot b o q n hf ne;obtain⟨sl2,q2⟩:=k.slot b _ q1 (out b o q);exact⟨sl2,q2⟩
 ·obtain⟨o1,q1⟩:=B.there b o q ne;obtain⟨sl2,q2⟩:=k.slot b _ q1 (out b o q);exact⟨_,q2⟩
def X0 {b:Addr} (I:Inv X pins σ H s) (hex:X.ex=[]) (e:s.heap.get? b=none):X.s₀.heap.get? b=none:=by
 cases q:X.s₀.heap.get? b with
 | none=>rfl
 | some o=>
  obtain⟨u,z⟩:=I.base.there b o q (by rw[hex];simp);rw[e] at z;cases z
variable {E:Value->Shared->Prop}
def G2 (I:Inv X pins σ H s) (hex:X.ex=[]) (hst:X.stack=X.env::X.outer) (hfr:X.env.frame=some X.env.locals) (x:XAt X.prog X.w X.stack H H' s s' a T C) :
  wpAny (model X.prog X.w) X.A (leaving X.env (.ref a)) (fun _ s2=>∃T2,XAt X.prog X.w X.outer X.H₀ H' X.s₀ s2 a T2 C) E s':=by
 have J:Inv X pins σ H' s':=I.call' (ch:=[]) x.os x.un x.hok x.bare fun b z=>absurd z (by simp);have hF:=J.stack;have hA:=J.ok.frames;rw[hst] at hF hA;refine Ek hA hF hfr x.tr fun h2 T2 hT2 tr k=>⟨T2,J.os,J.bare,?_,?_,X0 I hex x.na,?_,x.fa,x.hok.fresh hT2,tr⟩
 ·exact Bm J hex (by rw[hst];exact k) fun b hb=>by
   rcases Ym.mp hb with rfl|hb
   ·exact X0 I hex x.na
   ·rw[Yb.mp hb];exact X0 I hex x.nT
 ·refine XT x.hok k (fun b hb=>J.stkFree b (by rw[hst];exact hb)) fun b hb=>?_;rcases Ym.mp hb with rfl|hb
  ·exact x.fa
  ·rw[Yb.mp hb];exact x.fT
 ·exact W2 (Yi J.sz hT2)
def HF {h':Heap}{oe:Obj}{vs:Array Value} (I:Inv X pins σ H s) (hex:X.ex=[]) (hst:X.stack=X.env::X.outer) (hfr:X.env.frame=some X.env.locals) (keeps:∀b o,s.heap.get? b=some o->h'.get? b=some o)
  (new:s.heap.get? a=none) (he:h'.get? a=some oe) (hc:oe.cls=.ref C) (hd:oe.data=.fields vs) (h1:vs[1]?=some .none) :
  wpAny (model X.prog X.w) X.A (leaving X.env (.ref a)) (fun _ s2=>∃T2,XAt X.prog X.w X.outer X.H₀ H X.s₀ s2 a T2 C) E { s with heap:=h' }:=by
 have J:Inv X pins σ H { s with heap:=h' }:=I.call' (s':={ s with heap:=h' }) (ch:=[]) rfl (Un.kept keeps) (I.hok.kept keeps) I.bare fun b z=>absurd z (by simp)
 have hF:=J.stack;have hA:=J.ok.frames;rw[hst] at hF hA;have fa:=SJ I.hok new;refine Ey (s:={ s with heap:=h' }) hA hF hfr he hd h1 fun h2 T2 hT2 tr k=>⟨T2,J.os,J.bare,?_,?_,X0 I hex new,?_,fa,J.hok.fresh hT2,by rw[←hc];exact tr⟩
 ·exact Bm J hex (by rw[hst];exact k) fun b hb=>by rw[Yb.mp hb];exact X0 I hex new
 ·exact XT J.hok k (fun b hb=>J.stkFree b (by rw[hst];exact hb)) fun b hb=>by rw[Yb.mp hb];exact fa
 ·exact W2 (Yi J.sz hT2)
end
structure ErrCls (K:Za) (C:Addr):Prop where
 q:PySem.W.excIn K C [.type "ValueError",.type "Exception",.type "BaseException",.type "object"] "ValueError.__new__"=true
def ErrCls.obj {K:Za}{C:Addr}{h:Heap} (c:ErrCls K C) (k:K.In h):∃bm N nm q bs hdct sn sub ab col dd k0 k1 k2 k3 k5 mN,h.get? C=some (excClassObj nm q C N bs bm hdct sn sub ab col dd k0 k1 k2 k3 k5 "ValueError.__new__")/\h.Ns N mN/\mN "__init__"=none/\
  OwnTail h [.type "ValueError",.type "Exception",.type "BaseException",.type "object"] bm:=by
 have e:=c.q;unfold PySem.W.excIn at e;split at e
 next dd cd sl ho=>
  split at e
  next C1 bm k0 k1 k2 k3 n k5 hm hs=>
   simp only[YU,beq_iff_eq,Bool.not_eq_true'] at e;obtain⟨⟨⟨⟨⟨e1,e2⟩,e3⟩,e4⟩,e5⟩,e6⟩:=e;subst e1 e2;have hg:=k _ _ ho;cases cd with
   | mk nm bs mro ns qn hd sn sub ab col del=>
    simp only at hm e3 e5 e6
    have hsl:sl=#[k0,k1,k2,k3,some (.builtin "ValueError.__new__"),k5]:=by
     cases sl with
     | mk l=>simp only at hs;rw[hs]
    rw[hm,e3,hsl] at hg;exact⟨bm,ns,nm,qn,bs,hd,sn,sub,ab,col,dd,k0,k1,k2,k3,k5,_,hg,.of_isNs (PySem.W.isNs_of_in k e5),PySem.W.nsMap_none_of_in k e5 e6,PySem.W.tail_of_in k e4⟩
  next=>cases e
 next=>cases e
abbrev TF:=L2.St->Hp->Str->(Str->Hp->Prop)->Prop
def PF (X:Cx) (es:List Expr) (t:TF):Prop:=
 ∀(pins:List (Addr×Obj)) (s:Shared) (σ:L2.St) (H:Hp) (out:Str) (Q:Str->Hp->Prop),Inv X pins σ H s->t σ H out Q->
  wpAny (model X.prog X.w) X.A (joinParts out (evalEach es X.env)) (fun u s'=>∃x H',Inv X pins σ H' s'/\RelV (.str x) u/\Q x H') X.xe s
section
variable {X:Cx}{e e1 e2:Expr}{es:List Expr}{t:TF}{tv:TE}{pos:Pos}
def fNil:TF:=fun _ H out Q=>out.length<=sizeLine/\Q out H
def fStr (x:Str) (t:TF):TF:=fun σ H out Q=>(out++x).length<=sizeLine/\t σ H (out++x) Q
def fVal (tv:TE) (t:TF):TF:=fun σ H out Q=>tv σ H fun v H1=>(∃i:Int,v=.int i/\i.natAbs.log2<1920/\(out++(Str.ofString (toString i))).length<=sizeLine/\t σ H1 (out++Str.ofString (toString i)) Q)\/
 ∃x:Str,v=.str x/\x.length<=sizeLine/\(out++x).length<=sizeLine/\t σ H1 (out++x) Q
def UB:PF X [] fNil:=fun pins s σ H out Q I h=>joinParts_nilE (joinParts_nil ⟨out,H,I.tok _,⟨_,rfl⟩,h.2⟩ h.1)
def JJ {x:Str}{j} (h:PF X es t):PF X (.Constant (.str x) j pos::es) (fStr x t):=fun pins s σ H out Q I q=>
 joinParts_consE (joinParts_cons (Calls.Constant_str ⟨q.1,h pins _ σ H _ Q (I.tok _) q.2⟩))
def UC (hv:PE X e tv) (h:PF X es t):PF X (.FormattedValue e (-1) none pos::es) (fVal tv t):=fun pins s σ H out Q I q=>by
 refine joinParts_consE (joinParts_cons (FormattedValue_plain (thn (hv pins s σ H _ I q) fun u s1 ⟨v,H1,I1,r,q1⟩=>?_)));rcases q1 with⟨i,rfl,hs,hz,q2⟩|⟨x,rfl,hx,hz,q2⟩
 ·obtain⟨tk,rfl⟩:=r;exact formatField_int_small hs ⟨hz,h pins _ σ H1 _ Q (I1.tok _) q2⟩
 ·obtain⟨tk,rfl⟩:=r;exact formatField_str (fun t' tk'=>⟨hz,h pins _ σ H1 _ Q (I1.tok _) q2⟩) hx
def tF (t:TF):TE:=fun σ H Q=>t σ H Str.empty fun x H'=>Q (.str x) H'
def pe_f (h:PF X (e1::e2::es) t):PE X (.JoinedStr (e1::e2::es) pos) (tF t):=fun pins s σ H Q I q=>
 JoinedStr_many (thn (h pins s σ H _ _ I q) fun u s1 ⟨x,H1,I1,r,q1⟩=>⟨.str x,H1,I1,r,q1⟩)
end
def SQ (X:Cx) (E:XK):Prop:=∀(pins:List (Addr×Obj)) (σ:L2.St) (H:Hp) (s:Shared) (C a:Addr) (h':Heap) (args:List Value),Inv X pins σ H s->Heap.MadeExcOf s.heap h' a (.ref C) args->E (.ref C) none H->X.xe (.ref a) { s with heap:=h' }
def B5 (C:Addr) (E:XK) (t:TA):TS:=fun _ σ H=>t σ H fun vs H1=>vs.length<=sizeLine/\E (.ref C) none H1
section
variable {X:Cx}{x:Str}{C:Addr}{E:XK}{e:Expr}{es:List Expr}{t:TA}{p cpos pos:Pos}
def Jm (c:ErrCls X.K C) (hm:X.mg x=some (.ref C)) (hR:SQ X E) (hc:X.calm=true) (ha:PA X (e::es) t) (hg:Gl X x:=by rfl) (hdb:(x==("__debug__" : Str))=false:=by decide)
  (he:starEach (e::es) X.env=(false,eval e X.env)::starEach es X.env:=by rfl) (hpl:(backTo cpos (starEach es X.env)).any (·.1)=false:=by rfl):PS X (.Raise (some (.Call (.Name x p) (e::es) [] cpos)) none pos) (B5 C E t):=by
 intro pins s σ H D I h;obtain⟨bm,N,nm,q,bs,hdct,sn,sub,ab,col,dd,k0,k1,k2,k3,k5,mN,hC,hN,hni,hT⟩:=c.obj I.ok.mod.kin
 have hpl':(backTo cpos (starEach (e::es) X.env)).any (·.1)=false:=by
  rw[he];show(false || (backTo cpos (starEach es X.env)).any (·.1))=false;rw[hpl];rfl
 refine wpAny_Raise_call_subU (C:=C) (nm:=nm) (q:=q) (N:=N) (bs:=bs) (bm:=bm) (hdct:=hdct) (sn:=sn) (sub:=sub) (ab:=ab) (col:=col) (dd:=dd) (k0:=k0) (k1:=k1) (k2:=k2) (k3:=k3) (k5:=k5)
  PySem.F.excBase_ValueError (by decide +kernel) PySem.F.excBase_ValueError (hT.hasType (by decide +kernel)) (I.ok.hd hc) hpl' hni (Xk I hg hm ⟨rfl,?_⟩ hdb)
 have hA:=ha cpos pins s σ H _ I h;rw[he] at hA ⊢;refine Calls.evalArgs_plain (thn hA fun us s2 ⟨vs,H2,I2,r2,q1,q2⟩=>⟨rfl,by rw[←r2.length];exact q1,I2.bk _ _ hC,hN.keeps I2.bk,hT.keeps I2.bk,fun h' a hm'=>?_⟩);exact hR pins σ H2 s2 C a h' us I2 hm' q2
end
section
variable {P:Program}{w:World}{K:Za}{mg:Str->Option Value}{base:Heap}{N ps:List Str}{qual x:Str}{scope:Scope}{f:Addr}{cd:Value}{A:Around}{outer:List Env}{s:Shared}{H:Hp}{E:XK}
def Jk:SQ (cxOf (CXe P w) P w K mg base N qual scope f cd A outer s H E) E:=by
 intro pins σ H1 s1 C a h' args I m q;obtain⟨t,ht,_,_⟩:=m.there;exact YN (HF I rfl rfl rfl m.keeps m.new ht rfl rfl rfl) (fun _ s3 ⟨T2,y⟩=>⟨a,T2,C,H1,rfl,y,q⟩) fun _ _ z=>z
def VT:JG (CXe P w) (cxOf (CXe P w) P w K mg base N qual scope f cd A outer s H E) E:=by
 rintro pins σ H1 s1 e s2 I ⟨a,T,C,H',rfl,y,q⟩;exact YN (G2 I rfl rfl rfl y) (fun _ s3 ⟨T2,z⟩=>⟨a,T2,C,H',rfl,z,q⟩) fun _ _ z=>z
def HC:PassesOwn (model P w) (cxOf (CXe P w) P w K mg base N qual scope f cd A outer s H E).A (cxOf (CXe P w) P w K mg base N qual scope f cd A outer s H E).env (cxOf (CXe P w) P w K mg base N qual scope f cd A outer s H E).xe:=PassesOwn.leaving
def Def.okX {st:Stmt}{k:Nat}{sp:Sp} (D:Own.Def K mg x st ps) (S:FnScope N ps (Vk st)) (len:∀vs H Q E,sp vs H Q E->vs.length=ps.length)
  (hbody:∀(f:Addr) (cdv:Value) (A:Around) (outer:List Env) (s:Shared) (H:Hp) (vs:List V) (Q:VK) (E:XK),Room k (A.deeper (envOfC x (Vk st) s.heap.objs.size f cdv))->sp vs H Q E->
   ∃t,PSs (cxOf (CXe P w) P w K mg base N x (Vk st) f cdv A outer s H E) (Ja st) t/\t { nx:=fun _ H'=>Q .non H',rt:=Q } (start N vs) H):Own.Callee P w K mg base (CXe P w) (k+1) x ps sp:=by
 obtain⟨f,fd,F,hm,hb⟩:=D.ex;have kp:=F.kp;obtain⟨oc,od,kV,doc,pm,an,cdv,ct,osl,rfl,lk,hcd⟩:=F.ex;exact⟨f,_,Te lk hcd S len fun A outer s H vs Q E hr hsp=>hbody f cdv A outer s H vs Q E hr hsp,hm,kp,⟨_,lk,rfl⟩,hb⟩
end
end ExcR
namespace ExcR
open PySem PySem.Spec PyProof.Rows L2
open Sem (wp)
structure ErrGet (K:Za) (C:Addr):Prop where
 c:ErrCls K C
 ga:PySem.W.findIn K (.ref C) "__getattribute__"=some (some (.builtin "BaseException.__getattribute__"))
 gt:PySem.W.findIn K (.ref C) "__getattr__"=some none
 cl:PySem.W.findIn K (.ref C) "__class__"=some (some (.builtin "object.__class__"))
 is:(PySem.W.clsIn K C).isSome=true
section
variable {prog:Program}{w:World}{A:Around}{E:Value->Shared->Prop}{h:Heap}{g:Array GenState}{d:Drawn}{t:Nat}{os:OsState}{a C:Addr}{o:Obj}{K:Za}
def CN {R:Result->Shared->Prop} (k:K.In h) (G:ErrGet K C) (hx:h.get? a=some o) (hc:o.cls=.ref C) (hq:R (.ok (.ret (.ref C))) ⟨h,g,d,t,os⟩) :
  codeAny (model prog w) A (.call (.builtin "getset_descriptor.__get__") ⟨[.builtin "object.__class__",.ref a,.ref C],[]⟩) R ⟨h,g,d,t,os⟩:=by
 obtain⟨bm,N,nm,q,bs,hdct,sn,sub,ab,col,dd,k0,k1,k2,k3,k5,mN,hC,hN,hni,hT⟩:=G.c.obj k;have hty:(⟨h,g,d,t,os⟩:Shared).TypeIs (.builtin "object.__class__") "getset_descriptor":=W0
 have hob:(Value.ref C::bm).contains (.type (".".intercalate ("object.__class__".cutAt '.').dropLast))=true:=by
  rw[F.owner_object_class,List.contains_cons,hT.hasType (b:=true) (by decide +kernel)];rfl
 refine codeAny_call_builtin F.slot_gs_get.plain F.entry_gs_get (F.slot_gs_get.check _ _ _ _ _ _ _ _ hty (F.args_gs_get _ _ _) ?_)
 repeat (any_goals (first|assumption|(with_reducible refine We hx ?_;rw[hc])|(with_reducible refine wpAny_isSubtype_exc hC ?_;rw[hob])|wp_step))
 refine⟨Code.quiet_builtin _ (by decide +kernel),codeAny_builtin F.entry_object_class ?_⟩
 repeat (any_goals (first|assumption|(with_reducible refine We hx ?_;rw[hc])|wp_step))
def AG {tk:Tok}{Q:Fin->Shared->Prop} (k:K.In h) (G:ErrGet K C) (hx:h.get? a=some o) (hc:o.cls=.ref C) (hq:Q (.done (.ret (.ref C))) ⟨h,g,d,t,os⟩) :
  wpAny (model prog w) A (Builtin.«object.__getattribute__» ⟨[.ref a,.str "__class__" tk],[]⟩) Q E ⟨h,g,d,t,os⟩:=by
 have hty:(⟨h,g,d,t,os⟩:Shared).TypeIs (.builtin "object.__class__") "getset_descriptor":=W0;have f1:=W0;have f2:=F.slot_gs_get.lookup;have f3:=F.slot_gs_set.lookup;have L:=Wk (M:=model prog w) k G.cl
 repeat (any_goals (first|assumption|(with_reducible refine We hx ?_;rw[hc])|with_reducible refine L.at ?_|wp_step))
 refine CN k G hx hc ?_
 repeat (any_goals (first|assumption|wp_step))
def De {M:Model}{v:Value}{Q:Unit->Shared->Prop} (k:K.In h) (G:ErrGet K C) (hx:h.get? a=some o) (hc:o.cls=.ref C) (hq:Q () ⟨h,g,d,t,os⟩) :
  wpAny M A (checkBuiltinCall "BaseException.__getattribute__" ⟨[.ref a,v],[]⟩) Q E ⟨h,g,d,t,os⟩:=by
 obtain⟨bm,N,nm,q,bs,hdct,sn,sub,ab,col,dd,k0,k1,k2,k3,k5,mN,hC,hN,hni,hT⟩:=G.c.obj k;have hbe:(Value.ref C::bm).contains (.type "BaseException")=true:=by rw[List.contains_cons,hT.hasType (b:=true) (by decide +kernel)];rfl
 have e1:builtinKind "BaseException.__getattribute__"=some .slot:=by decide +kernel
 have e2:splitId "BaseException.__getattribute__"=some ("BaseException","__getattribute__"):=by decide +kernel
 have e3:=F.args_bexc_ga (.ref a) v;simp only[checkBuiltinCall,e1,e2];refine Yp ?_;unfold isInstance
 repeat (first|(with_reducible refine We hx ?_;rw[hc])|(with_reducible refine wpAny_isSubtype_exc hC ?_;rw[hbe])|wp_step)
 exact hq
def Cm {tk:Tok}{Q:Value->Shared->Prop} (k:K.In h) (G:ErrGet K C) (hx:h.get? a=some o) (hc:o.cls=.ref C) (hq:Q (.ref C) ⟨h,g,d,t,os⟩) :
  wpAny (model prog w) A (getAttrBy (.ref a) (.str "__class__" tk) false) Q E ⟨h,g,d,t,os⟩:=by
 obtain⟨bm,N,nm,q,bs,hdct,sn,sub,ab,col,dd,k0,k1,k2,k3,k5,mN,hC,hN,hni,hT⟩:=G.c.obj k;have f0:=F.attrBase_ValueError.ga.bind (.ref a);have x2:(Value.builtin "BaseException.__getattribute__" == Value.builtin "object.__getattribute__")=false:=by decide +kernel
 have x1:(onTheHeap (Value.ref C)&&Value.builtin "BaseException.__getattribute__" == Value.builtin "object.__getattribute__")=false:=by rw[x2];rfl
 have L:=Wk (M:=model prog w) k G.ga;have L2:=Wk (M:=model prog w) k G.gt
 repeat (any_goals (first|assumption|(with_reducible refine We hx ?_;rw[hc])|with_reducible refine L.at ?_|with_reducible refine L2.at ?_|wp_step))
 refine codeAny_call_builtin F.attrBase_ValueError.ga.plain F.entry_bexc_ga (De k G hx hc (AG k G hx hc ?_))
 repeat (any_goals (first|assumption|wp_step))
def GX {Q:Option Value->Shared->Prop} (k:K.In h) (G:ErrGet K C) (hx:h.get? a=some o) (hc:o.cls=.ref C) (hq:Q (some (.ref C)) ⟨h,g,d,t+1,os⟩) :
  wpAny (model prog w) A (getAttr? (.ref a) "__class__") Q E ⟨h,g,d,t,os⟩:=by
 unfold getAttr? getAttrBy?
 repeat (any_goals (first|assumption|with_reducible apply Cm k G hx hc|wp_step))
end
end ExcR
namespace ExcR
open PySem PySem.Spec PyProof.Rows L2
def ErrH (a C:Addr):HO:=.ext fun h=>∃o,h.get? a=some o/\o.cls=.ref C/\∃vs,o.data=.fields vs
def Eo {P:Program}{w:World}{H:Hp}{h:Heap}{a T C:Addr}{fl:Value} (x:Trc h a T (.ref C) fl):ObjOk P w H h a (ErrH a C):=by
 obtain⟨_,⟨o,vs,e1,e2,e3,_⟩,_⟩:=x;exact⟨⟨o,e1,e2,vs,e3⟩,⟨o,e1⟩,fun h1 h2 ⟨o1,q1,q2⟩ k=>⟨o1,k o1 q1,q2⟩⟩
def Cq {K:Za}{M:Model}{h:Heap}{C:Addr} (k:K.In h) (e:(PySem.W.clsIn K C).isSome=true):PySem.W.Looks M h (isType (.ref C)) true:=by
 unfold PySem.W.clsIn at e;split at e
 next ho=>
  intro A' Q' E' s' kk q;unfold isType loadHead;exact Yp (wpAny_loadPart (kk _ _ (k _ _ ho)) (YC q))
 next=>cases e
def CD {K:Za}{a C:Addr} (G:ErrGet K C):PySem.W.KitX K (.ref a) (.ref C) (fun h=>∃o,h.get? a=some o/\o.cls=.ref C) where
 ty:=fun M h _ ⟨o,h1,h2⟩=>h2▸(PySem.W.Looks.ld h1).andThen .now
 it:=fun M h k _=>Cq k G.is
 ne:=fun h tp dd its n sl k htp=>by
  refine Bool.eq_false_iff.mpr fun q=>?_;obtain rfl:C=tp:=Value.ref.inj (beq_iff_eq.mp q);obtain⟨bm,N,nm,q,bs,hdct,sn,sub,ab,col,dd,k0,k1,k2,k3,k5,mN,hC,_⟩:=G.c.obj k;rw[htp] at hC;have z:Value.type "tuple"=Value.type "type":=Y0 Obj.cls (Ya hC);injection z with z;exact absurd z (by decide)
 ca:=fun {prog w A E Q s} k ⟨o,h1,h2⟩ q=>by
  obtain⟨h,g,d,t,os⟩:=s;exact GX k G h1 h2 q
section
variable {X:Cx}
def AV:J7 X (.builtin "isinstance") (fun xs H Q=>∃(a C:Addr) (c:V) (b:Bool),xs=[.ref a,c]/\H a=some (ErrH a C)/\ErrGet X.K C/\(∃cv:Value,(∀u,RelV c u->u=cv)/\PySem.W.kitOne X.K (.ref C) cv=some b)/\Q (.bl b) H):=by
 intro pins s σ H xs us Q I rv h;obtain⟨a,C,c,b,rfl,ha,G,⟨cv,hcv,e⟩,q⟩:=h;cases rv with
 | cons r rr=>
  cases rr with
  | cons r' rr'=>
   cases rr'
   obtain rfl:_=Value.ref a:=r;cases hcv _ r'
   obtain⟨⟨o,h1,h2,_⟩,_⟩:=(show ObjOk X.prog X.w H s.heap a (ErrH a C) from I.hok a _ ha)
   exact YD (CD G) I.kIn ⟨o,h1,h2⟩ e (fun z=>nomatch z) fun tk=>⟨.bl b,H,I.tok tk,rfl,q⟩
def Jn {K:Za} (hK:X.K=K:=by rfl):J7 X (.builtin "isinstance") (fun xs H Q=>∃(a C:Addr) (c:V) (b:Bool),xs=[.ref a,c]/\H a=some (ErrH a C)/\ErrGet K C/\(∃cv:Value,(∀u,RelV c u->u=cv)/\PySem.W.kitOne K (.ref C) cv=some b)/\Q (.bl b) H):=by
 subst hK;exact AV
end
def Tv {fs ex:List Addr}{H H':Hp}{h h1 h2:Heap} (u:Un fs [] H H' h h1) (k:KeepX fs ex h1 h2) (hx:∀b∈ex,h.get? b=none):Un fs [] H H' h h2:=by
 have out:∀b o,h.get? b=some o->b∉ex:=fun b o q z=>by rw[hx b z] at q;cases q
 refine⟨fun b o q n nf ne=>k.keep b o (u.keep b o q n nf ne) nf (out b o q),fun b o q n hf ne=>?_,u.free,fun b o q ne=>?_,u.tups,u.frzs,u.tbls⟩
 ·obtain⟨sl,q1⟩:=u.slot b o q n hf ne;obtain⟨sl2,q2⟩:=k.slot b _ q1 (out b o q);exact⟨sl2,q2⟩
 ·obtain⟨o1,q1⟩:=u.there b o q ne;obtain⟨sl2,q2⟩:=k.slot b _ q1 (out b o q);exact⟨_,q2⟩
def sufX (X:Cx) (a:Addr):Cx:={ X with A:=X.A.mark (some (.ref a)),calm:=false,xe:=fun _ _=>False }
def tryX (X:Cx) (pins:List (Addr×Obj)) (D:Ends) (h0:ExceptHandler):Cx:=
 { X with pn:=X.pn++pins,xe:=fun e s1=>wpAny (model X.prog X.w) X.A (noteFrame e X.env) (fun _ s2=>wpAny (model X.prog X.w) X.A (setFlight e none) (fun _ s3=>wpAny (model X.prog X.w) X.A (handleBy e X.env [h0]) (SP X pins D) X.xe s3) X.xe s2) X.xe s1 }
section
variable {X:Cx}{pins pins1:List (Addr×Obj)}{σ:L2.St}{H H':Hp}{s s':Shared}{a T C:Addr}{D:Ends}{h0:ExceptHandler}
def HH (o:X.Ok):(sufX X a).Ok:=⟨o.mod,o.kind,o.glob,o.blt,o.above,o.inj,o.has,o.cab,(fun z=>nomatch z),o.frames,o.stk,o.exf,o.bs,o.bsz,o.noex,o.exfs,o.funs,o.frf⟩
def SG (I:Inv X pins σ H s):Inv (sufX X a) pins σ H s:=⟨HH I.ok,I.os,I.bare,I.base,I.loc,I.cell,I.free,I.freeC,I.pin,I.hok,I.len⟩
def D9 (o:X.Ok) (I:Inv (sufX X a) pins σ H s):Inv X pins σ H s:=⟨o,I.os,I.bare,I.base,I.loc,I.cell,I.free,I.freeC,I.pin,I.hok,I.len⟩
def Cs (o:X.Ok):(tryX X pins D h0).Ok:=⟨o.mod,o.kind,o.glob,o.blt,o.above,o.inj,o.has,o.cab,o.hd,o.frames,o.stk,o.exf,o.bs,o.bsz,o.noex,o.exfs,o.funs,o.frf⟩
def CI (o:(tryX X pins D h0).Ok):X.Ok:=⟨o.mod,o.kind,o.glob,o.blt,o.above,o.inj,o.has,o.cab,o.hd,o.frames,o.stk,o.exf,o.bs,o.bsz,o.noex,o.exfs,o.funs,o.frf⟩
def Hf (I:Inv X pins σ H s):Inv (tryX X pins D h0) [] σ H s:=⟨Cs I.ok,I.os,I.bare,I.base,I.loc,I.cell,I.free,I.freeC,fun p hp=>I.pin p (by simpa [tryX] using hp),I.hok,I.len⟩
def XA (I:Inv (tryX X pins D h0) pins1 σ H s):Inv X pins σ H s:=⟨CI I.ok,I.os,I.bare,I.base,I.loc,I.cell,I.free,I.freeC,fun p hp=>I.pin p (YO _ hp),I.hok,I.len⟩
def GG {i:Nat}{n:Str}{m:Str->Option Value}{v:Option Value}{h':Heap}{tk:Nat} (I:Inv X pins σ H s) (hN:X.N.Nodup) (hi:X.N[i]?=some n) (hk:X.env.scope.names.lookup n=some .local)
  (hm:∀(i:Nat) (x:Str) (v:V),X.N[i]?=some x->σ[i]?=some (some v)->Vis X.env.scope x->∃u,RelV v u/\Look X.env s.heap m x u) (hn:s.heap.Ns X.env.locals m)
  (hn':h'.Ns X.env.locals (fun x=>if x=n then v else m x)) (hs:Heap.SameBut X.env.locals s.heap h'):Inv X pins (σ.set i none) H { s with heap:=h',toks:=tk }:=by
 have cne:=I.cne;have nl:∀{b o},X.s₀.heap.get? b=some o->b≠X.env.locals:=fun e=>YA (Yr (Yf e) I.ok.above);refine⟨I.ok,I.os,I.bare,⟨fun b o e n hb hx=>(hs.2 b (nl e)).trans (I.base.keep b o e n hb hx),fun b o e n hb hx=>?_,I.base.free,fun b o e hx=>?_,I.base.tups,I.base.frzs,I.base.tbls⟩,⟨_,hn',fun j y v' e1 e2 e3=>?_⟩,fun y c e=>?_,I.free,I.freeC,fun p hp=>?_,fun b ob e=>?_,by simpa using I.len⟩
 ·obtain⟨sl,e1⟩:=I.base.slot b o e n hb hx;exact⟨sl,(hs.2 b (nl e)).trans e1⟩
 ·obtain⟨o',e1⟩:=I.base.there b o e hx;exact⟨o',(hs.2 b (nl e)).trans e1⟩
 ·by_cases hj:j=i
  ·subst hj;have hz:j<σ.length:=by rw[I.len];exact(Yo.mp hi).1
   rw[Wd hz] at e2;cases e2
  ·rw[Wj (Ne.symm hj)] at e2;obtain⟨u',r',q⟩:=hm j y v' e1 e2 e3;refine⟨u',r',?_⟩;rcases q with⟨k,e⟩|⟨k,c,e,z⟩
   ·have hy:y≠n:=fun z=>hj (Tj hN e1 (z▸hi));exact .inl ⟨k,by simp[hy,e]⟩
   ·exact .inr ⟨k,c,e,z.sameBut hs (cne y c e)⟩
 ·obtain⟨w',z⟩:=I.cell y c e;exact⟨w',z.sameBut hs (cne y c e)⟩
 ·obtain⟨e,n,ne,nf,d⟩:=I.pin p hp;exact⟨(hs.2 p.1 ne).trans e,n,ne,nf,d⟩
 ·refine(I.hok b ob e).stay (fun c u hc q=>(hs.2 c ?_).trans q) (fun _ q=>q) fun _ _ q=>q;rintro rfl;have hf:=I.free;rcases hc with z|z
  ·rw[←z,hf] at e;cases e
  ·rw[hf] at z;cases z
end
def sufD (i:Nat) (D:Ends):Ends:={ nx:=fun σ H=>D.nx (σ.set i none) H,rt:=D.rt,bk:=fun σ H=>D.bk (σ.set i none) H,ct:=fun σ H=>D.ct (σ.set i none) H }
def hx (K:Za) (C0:Addr) (i:Nat) (ts:TS) (D:Ends):L2.St->XK:=fun σ c _ H=>∃C,c=.ref C/\ErrGet K C/\PySem.W.exmOne K (.ref C) (.ref C0)=some true/\
 ∀a,H a=none->ts (sufD i D) (σ.set i (some (.ref a))) (upd H a (ErrH a C))
def XE (CX:CXT) (X:Cx) (E:L2.St->XK):Prop:=∀(pins:List (Addr×Obj)) (σ:L2.St) (H:Hp) (s:Shared) (e:Value) (s':Shared),Inv X pins σ H s->CX X.stack H s (E σ) e s'->X.xe e s'
def B4 (sp:Sp) (E:L2.St->XK) (t:TA):TE:=fun σ H Q=>t σ H fun vs H1=>sp (vs++[]) H1 Q (E σ)
section
variable {X:Cx}{CX:CXT}{k:Nat}{ps:List Str}{sp:Sp}{E:L2.St->XK}{x:Str}{p pos:Pos}{e:Expr}{es:List Expr}{t:TA}
def DM (C:Own.Callee X.prog X.w X.K X.mg X.base CX k x ps sp) (hr:Room k X.A) (hp:XE CX X E) (ha:PA X (e::es) t) (hg:Gl X x:=by rfl)
  (hdb:(x==("__debug__" : Str))=false:=by decide) (he:starEach (e::es) X.env=(false,eval e X.env)::starEach es X.env:=by rfl) (hpl:(backTo pos (starEach es X.env)).any (·.1)=false:=by rfl) :
  PE X (.Call (.Name x p) (e::es) [] pos) (B4 sp E t):=by
 obtain⟨f,fd,F,hm,hk,_,hb⟩:=C.ex;intro pins s σ H Q I h;refine Wb (Xk I hg hm ?_ hdb);refine Wc (h₀:=X.base) I.ok.mod.kin hk (thn (ha pos pins s σ H _ I h) fun us s1 ⟨vs,H1,I1,r,q⟩=>⟨I1.kIn,?_⟩) he hpl;have hl:(us++[]).length=ps.length:=by rw[Yw,←r.length,←F.len _ _ _ _ q,Yw]
 refine wpAny_call (Wp (F.run X.A X.stack s1 H1 ⟨us,[]⟩ (us++[]) (vs++[]) Q (E σ) hr I1.env0 (hb s1 us I1.kIn hl) (by simpa using r) q) fun r s' hq=>?_);cases r with
 | error e=>exact hp pins σ H1 s1 e s' I1 hq
 | ok fl=>
  cases fl with
  | ret u=>exact I1.after hq
  | next=>exact False.elim hq
  | brk=>exact False.elim hq
  | cont=>exact False.elim hq
end
section
variable {X:Cx}{pins:List (Addr×Obj)}{D:Ends}{x n:Str}{np hpos pos:Pos}{b0:Stmt}{suite body:List Stmt}{C0:Addr}{i:Nat}{ts:TS}
def Tu (hst:X.stack=X.env::X.outer) (hfr:X.env.frame=some X.env.locals) (hN:X.N.Nodup) (hi:X.N[i]?=some n) (hk:X.env.scope.names.lookup n=some .local) (hg:Gl X x) (hm:X.mg x=some (.ref C0)) (hdb:(x==("__debug__" : Str))=false)
  (hs:∀a,PSs (sufX X a) (b0::suite) ts):XE (CXe X.prog X.w) (tryX X pins D (.ExceptHandler (some (.Name x np)) (some n) (b0::suite) hpos)) (hx X.K C0 i ts D):=by
 rintro pins1 σ H s e s' I ⟨a,T,C,H',rfl,y,C',ec,G,em,q⟩;obtain rfl:C=C':=Value.ref.inj ec;have I:=XA I;have J:Inv X pins σ H' s':=I.call' (ch:=[]) y.os y.un y.hok y.bare fun b z=>absurd z (by simp);have hF:=J.stack;have hA:=J.ok.frames;rw[hst] at hF hA;refine S8 hA hF hfr y.tr fun h2 T2 hT2 tr2 k2=>?_
 have nT2:s.heap.get? T2=none:=by
  cases z:s.heap.get? T2 with
  | none=>rfl
  | some o=>
   obtain⟨o1,z1⟩:=y.un.there T2 o z (by simp);exact absurd (Yf z1) (W4.mpr hT2)
 have fT2:H' T2=none:=y.hok.fresh hT2
 have u2:Un (frs X.stack) [] H H' s.heap h2:=Tv y.un (by rw[hst];exact k2) fun b hb=>by
  rcases Ym.mp hb with rfl|hb
  ·exact y.na
  ·rw[Yb.mp hb];exact y.nT
 have ok2:HOk X.prog X.w H' h2:=XT y.hok k2 (fun b hb=>J.stkFree b (by rw[hst];exact hb)) fun b hb=>by
  rcases Ym.mp hb with rfl|hb
  ·exact y.fa
  ·rw[Yb.mp hb];exact y.fT
 refine KB (s:={ s' with heap:=h2 }) tr2 fun h3 tr3 k3=>?_
 have u3:Un (frs X.stack) [] H H' s.heap h3:=Tv u2 (k3.mono (by simp) fun _ z=>z) fun b hb=>by rw[Yb.mp hb];exact nT2
 have ok3:HOk X.prog X.w H' h3:=XT ok2 k3 (by simp) fun b hb=>by rw[Yb.mp hb];exact fT2
 have J3:Inv X pins σ H' { s' with heap:=h3 }:=I.call' (s':={ s' with heap:=h3 }) (ch:=[]) y.os u3 ok3 y.bare fun b z=>absurd z (by simp)
 have S3:Inv (sufX X a) pins σ H' { s' with heap:=h3 }:=SG J3
 refine wpAny_handleBy_cons (codeAny_handlers_test (Xk S3 hg hm ?_ hdb)) (by intro z;cases z);obtain⟨_,⟨oe,vs,g1,g2,g3,g4⟩,_⟩:=id tr3;refine(PySem.W.exm_one (M:=model X.prog X.w) (cls:=.ref C) J3.kIn (g2▸(PySem.W.Looks.ld g1).andThen .now) em).here ?_;refine codeAny_handlers_suite_as (KB (s:={ s' with heap:=h3 }) tr3 fun h4 tr4 k4=>?_)
 have u4:Un (frs X.stack) [] H H' s.heap h4:=Tv u3 (k4.mono (by simp) fun _ z=>z) fun b hb=>by rw[Yb.mp hb];exact nT2
 have ok4:HOk X.prog X.w H' h4:=XT ok3 k4 (by simp) fun b hb=>by rw[Yb.mp hb];exact fT2
 have fr4:∀b,b=a->H b=none:=fun b z=>by rw[z];exact SJ I.hok y.na
 have u5:Un (frs X.stack) [] H (upd H' a (ErrH a C)) s.heap h4:=by
  have ne:∀b o,s.heap.get? b=some o->b≠a:=fun b o z w=>by rw[w,y.na] at z;cases z
  have ne2:∀b o,H' b=some o->b≠a:=fun b o z w=>by rw[w,y.fa] at z;cases z
  refine⟨u4.keep,u4.slot,fun b o z n m=>by rw[V1 (ne b o z)];exact u4.free b o z n m,u4.there,fun b xs z=>?_,fun b o u z=>?_,fun b ps z=>?_⟩
  ·rw[V1 (ne2 b _ (u4.tups b xs z))];exact u4.tups b xs z
  ·rw[V1 (ne2 b _ (u4.frzs b o u z))];exact u4.frzs b o u z
  ·obtain⟨more,z1⟩:=u4.tbls b ps z;exact⟨more,by rw[V1 (ne2 b _ z1)];exact z1⟩
 have ok5:HOk X.prog X.w (upd H' a (ErrH a C)) h4:=fun b ob e=>by
  by_cases hb:b=a
  ·subst hb;rw[VQ] at e;cases e
   exact Eo tr4
  ·rw[V1 hb] at e;refine(ok4 b ob e).stay (fun _ _ _ z=>z) (fun c z=>?_) fun c xs z=>?_
   ·rw[V1 fun w=>by rw[w,y.fa] at z;cases z];exact z
   ·rw[V1 fun w=>by rw[w,y.fa] at z;cases z];exact z
 have J5:Inv X pins σ (upd H' a (ErrH a C)) { s' with heap:=h4 }:=I.call' (s':={ s' with heap:=h4 }) (ch:=[]) y.os u5 ok5 y.bare fun b z=>absurd z (by simp)
 have S5:Inv (sufX X a) pins σ (upd H' a (ErrH a C)) { s' with heap:=h4 }:=SG J5
 refine PM (X:=sufX X a) S5 hN hi (.inl hk) (v:=.ref a) rfl (fun s6 S6=>?_) (.inr hk);refine YN (hs a pins s6 _ _ _ S6 (q a y.fa)) (fun f s7 h7=>?_) fun _ _ z=>z.elim
 have gone:∀{σ':L2.St} {H7:Hp} {R:Unit->Shared->Prop},Inv (sufX X a) pins σ' H7 s7->(∀s8,Inv X pins (σ'.set i none) H7 s8->R () s8)->wpAny (model X.prog X.w) X.A (do bindName X.env n .none;unbindBehindTheSuite X.env n hpos) R X.xe s7:=fun {σ' H7 R} S7 hR=>by
  obtain⟨m,hn,hl⟩:=id S7.loc;exact wpAny_nameGoes_keeps hk hn (by rw[show X.env.scope.kind=.function from J5.ok.kind];rfl) fun h8 v hn8 hs8=>hR _ (GG (D9 J5.ok S7) hN hi hk hl hn hn8 hs8)
 cases f with
 | next=>obtain⟨σ',H7,S7,q7⟩:=h7;exact gone S7 fun s8 I8=>⟨_,_,I8,q7⟩
 | brk=>obtain⟨σ',H7,S7,q7⟩:=h7;exact gone S7 fun s8 I8=>⟨_,_,I8,q7⟩
 | cont=>obtain⟨σ',H7,S7,q7⟩:=h7;exact gone S7 fun s8 I8=>⟨_,_,I8,q7⟩
 | ret u=>obtain⟨v,σ',H7,S7,rv,q7⟩:=h7;exact gone S7 fun s8 I8=>⟨v,_,_,I8,rv,q7⟩
def Nw {tb:Ends->TS} (hb:∀pins D,PSs (tryX X pins D (.ExceptHandler (some (.Name x np)) (some n) (b0::suite) hpos)) body (tb D)) :
  PS X (.Try body [.ExceptHandler (some (.Name x np)) (some n) (b0::suite) hpos] [] [] pos) (fun D σ H=>tb D D σ H):=by
 intro pins s σ H D I h;refine wpAny_Try_except (YN (hb pins D [] s σ H D (Hf I) h) (fun f s1 h1=>?_) fun _ _ z=>z);cases f with
 | next=>
  obtain⟨σ',H',J,q⟩:=h1;exact YC ⟨σ',H',XA J,q⟩
 | brk=>obtain⟨σ',H',J,q⟩:=h1;exact⟨σ',H',XA J,q⟩
 | cont=>obtain⟨σ',H',J,q⟩:=h1;exact⟨σ',H',XA J,q⟩
 | ret u=>obtain⟨v,σ',H',J,r,q⟩:=h1;exact⟨v,σ',H',XA J,r,q⟩
end
def Vb (mg:Str->Option Value) (x:Str):Addr:=match mg x with
 | some (.ref C)=>C
 | _=>0
def BI {mg:Str->Option Value}{x:Str}{C:Addr} (h:mg x=some (.ref C)):Vb mg x=C:=by unfold Vb;rw[h]
def JC {X:Cx}{x:Str}{v:V}{pos:Pos} (h:∃u,X.mg x=some u/\RelV v u) (hg:Gl X x:=by rfl) (hd:(x==("__debug__" : Str))=false:=by decide):PE X (.Name x pos) (tC v):=by
 obtain⟨u,h1,h2⟩:=h;exact Bx hg h1 h2 hd
def J4 {X:Cx}{x:Str}{C:Addr}{pos:Pos} (h:X.mg x=some (.ref C)) (hg:Gl X x:=by rfl) (hd:(x==("__debug__" : Str))=false:=by decide):PE X (.Name x pos) (tC (.ref C)):=Bx hg h rfl hd
end ExcR
namespace Own
open PySem PySem.Spec PyProof.Rows L2 M
section
variable {X:Cx}{pins:List (Addr×Obj)}{σ:L2.St}{H:Hp}{s:Shared}
def NV {p:Int×Int}{its:List Value} (r:Vals [V.int p.1,V.int p.2] its):∃t1 t2,its=[.int p.1 t1,.int p.2 t2]:=by
 cases r with
 | cons r1 rr=>
  cases rr with
  | cons r2 r3=>
   cases r3
   obtain⟨t1,rfl⟩:=r1;obtain⟨t2,rfl⟩:=r2;exact⟨t1,t2,rfl⟩
def Dv {A:Around}{x y:V}{p q:Int×Int}{u v:Value} (I:Inv X pins σ H s) (hu:A.units<cLine) (rx:RelV x u) (ry:RelV y v) (hp:JS H x p) (hq:JS H y q):SeqAt.EqAt A s u v (decide (p=q)):=by
 obtain⟨a,rfl,ha⟩:=hp;obtain⟨b,rfl,hb⟩:=hq;obtain rfl:u=Value.ref a:=rx;obtain rfl:v=Value.ref b:=ry;by_cases hab:a=b
 ·subst hab;rw[ha] at hb
  have e:p=q:=by
   injection hb with hb;injection hb with hb;injection hb with h1 h2;injection h2 with h2 _;exact Prod.ext (V.int.inj h1) (V.int.inj h2)
  rw[ZT e];exact SeqAt.EqAt.same _
 ·obtain⟨_,its,r1,t1⟩:=(show ObjOk X.prog X.w H s.heap a (.tup [.int p.1,.int p.2]) from I.hok a _ ha)
  obtain⟨_,jts,r2,t2⟩:=(show ObjOk X.prog X.w H s.heap b (.tup [.int q.1,.int q.2]) from I.hok b _ hb)
  obtain⟨k1,k2,rfl⟩:=NV r1;obtain⟨k3,k4,rfl⟩:=NV r2
  have h:=SeqAt.RcAt.tuples (A:=A) (s:=s) (e:=fun j=>if j=0 then p.1==q.1 else p.2==q.2) t1 t2 hu (fun j h1 h2=>by
   have hj:j=0\/j=1:=by
    have h1':j<2:=h1;omega
   rcases hj with rfl|rfl
   ·exact SeqAt.EqAt.int_int _ _ _ _
   ·exact SeqAt.EqAt.int_int _ _ _ _)
  have e:((List.range (min ([Value.int p.1 k1,Value.int p.2 k2].toArray).size ([Value.int q.1 k3,Value.int q.2 k4].toArray).size)).all (fun j=>if j=0 then p.1==q.1 else p.2==q.2)&&([Value.int p.1 k1,Value.int p.2 k2].toArray).size==([Value.int q.1 k3,Value.int q.2 k4].toArray).size)=decide (p=q):=by
   show((List.range 2).all (fun j=>if j=0 then p.1==q.1 else p.2==q.2)&&true)=decide (p=q);rw[Bool.and_true];have e2:(List.range 2).all (fun j=>if j=0 then p.1==q.1 else p.2==q.2)=((p.1==q.1)&&(p.2==q.2)):=by simp[List.range,List.range.loop]
   rw[e2];by_cases h1:p.1=q.1
   ·by_cases h2:p.2=q.2
    ·rw[ZT (Prod.ext h1 h2)];simp[h1,h2]
    ·rw[Yk (fun z=>h2 (by rw[z]))];simp[h2]
   ·rw[Yk (fun z=>h1 (by rw[z]))];simp[h1]
  rw[e] at h;exact SeqAt.EqAt.of_refs hab h
def eP (H:Hp) (q:Int×Int) (u:Value):Bool:=match u with
 | .ref a=>(match H a with
  | some (.tup [.int i,.int j])=>decide ((i,j)=q)
  | _=>false)
 | _=>false
def Sl {v:V}{u:Value}{p q:Int×Int} (h:JS H v p) (r:RelV v u):eP H q u=decide (p=q):=by
 obtain⟨a,rfl,ha⟩:=h;obtain rfl:u=Value.ref a:=r;unfold eP;simp only[ha]
def PU {q:Int×Int}:∀{vs:List V}{us:List Value}{ps:List (Int×Int)},Vals vs us->LV JS H vs ps->us.any (eP H q)=decide (q∈ps)
 | _,_,[],.nil,_=>rfl
 | _,_,_::_,.nil,h=>absurd h.1 (by simp)
 | v::vs,u::us,[],.cons _ _,h=>absurd h.1 (by simp)
 | v::vs,u::us,p::ps,.cons r t,h=>by
  obtain⟨v',e,hv⟩:=h.2 0 p rfl;cases e
  have ht:LV JS H vs ps:=⟨by simpa using h.1,fun i x e=>h.2 (i+1) x e⟩;rw[W9,Sl hv r,PU t ht];by_cases e1:p=q
  ·subst e1;simp
  ·by_cases e2:q∈ps
   ·simp[e1,e2]
   ·have:¬q=p:=fun z=>e1 z.symm
    simp[e1,e2,this]
def rInP (neg:Bool):R2:=fun x y H Q=>∃(l:Addr) (ps:List (Int×Int)) (q:Int×Int),y=.ref l/\JS H x q/\LAt JS H l ps/\Q (.bl (if neg then !decide (q∈ps) else decide (q∈ps))) H
def Pp {A:Around}{x:V}{v:Value}{q:Int×Int} (I:Inv X pins σ H s) (hu:A.units<cLine) (rx:RelV x v) (hx:JS H x q):∀{vs:List V}{us:List Value}{ps:List (Int×Int)},Vals vs us->LV JS H vs ps->∀u∈us,SeqAt.EqAt A s u v (eP H q u)
 | _,_,_,.nil,_,u,hu'=>by cases hu'
 | w::vs,u::us,[],.cons _ _,h,_,_=>absurd h.1 (by simp)
 | w::vs,u::us,p::ps,.cons r t,h,u',hu'=>by
  obtain⟨w',e,hw⟩:=h.2 0 p rfl;cases e
  have ht:LV JS H vs ps:=⟨by simpa using h.1,fun i x e=>h.2 (i+1) x e⟩;rcases Ym.mp hu' with rfl|hu'
  ·rw[Sl hw r];exact Dv I hu r rx hw hx
  ·exact Pp I hu rx hx t ht u' hu'
def Ac (hu:X.A.in1.units<cLine):OpR X (compareOp .In) (rInP false):=by
 intro pins s σ H x y v u Q I rx ry h;obtain⟨l,ps,q,rfl,hx,⟨vs,hl,hv⟩,k⟩:=h;cases ry
 obtain⟨its,r,pl,hz⟩:=I.list (SqL.of hl);refine SeqAt.in_listAt (eP H q) pl.isList (fun w hw=>Pp I hu rx hx r hv w (by simpa using hw)) ⟨.bl _,H,I,rfl,?_⟩;rw[show its.toArray.any (eP H q)=its.any (eP H q) by simp,PU r hv];exact k
def FP (hu:X.A.in1.units<cLine):OpR X (compareOp .NotIn) (rInP true):=by
 intro pins s σ H x y v u Q I rx ry h;obtain⟨l,ps,q,rfl,hx,⟨vs,hl,hv⟩,k⟩:=h;cases ry
 obtain⟨its,r,pl,hz⟩:=I.list (SqL.of hl);refine SeqAt.notIn_listAt (eP H q) pl.isList (fun w hw=>Pp I hu rx hx r hv w (by simpa using hw)) ⟨.bl _,H,I,rfl,?_⟩;rw[show its.toArray.any (eP H q)=its.any (eP H q) by simp,PU r hv];exact k
end
end Own
namespace M
open PySem PySem.Spec PyProof.Rows L2 Own
section
variable {α:Type}{R:Hp->V->α->Prop}{H:Hp}
def pick (c:α->Bool) (d:V×α):Option V:=if c d.2=true then some d.1 else none
end
end M
namespace Own
open PySem PySem.Spec PyProof.Rows L2
section
variable {X:Cx}{K:Za}
def rEqE (K:Za) (neg:Bool):R2:=fun x y H Q=>∃(p q:Addr) (xs:List V),x=.ref p/\y=.ref q/\SqL K H p xs/\SqL K H q []/\Q (.bl (if neg then !xs.isEmpty else xs.isEmpty)) H
def Bp (hu:X.A.units<cLine) (hK:X.K=K:=by rfl):OpR X (compareOp .Eq) (rEqE K false):=by
 subst hK;intro pins s σ H x y v u Q I rx ry h;obtain⟨p,q,xs,rfl,rfl,hp,hq,k⟩:=h;obtain rfl:v=Value.ref p:=rx;obtain rfl:u=Value.ref q:=ry;obtain⟨us,r1,p1,_⟩:=I.list hp;obtain⟨ws,r2,p2,_⟩:=I.list hq;have l1:=r1.length;have l2:0=ws.length:=r2.length;have k':Q (.bl xs.isEmpty) H:=k;by_cases e:xs.length=0
 ·refine SeqAt.eq_listAt (e:=fun _=>true) p1.isList p2.isList (by simp;omega) hu (fun j h1 h2=>by simp at h2;omega) ⟨.bl xs.isEmpty,H,I,?_,k'⟩;show _=Value.bool xs.isEmpty
  have:xs=[]:=Ws.mp e
  subst this;rw[Yd,←l1];rfl
 ·refine SeqAt.eq_list_lengthsAt p1.isList p2.isList (by simp;omega) hu ⟨.bl xs.isEmpty,H,I,?_,k'⟩;show _=Value.bool xs.isEmpty;cases xs with
  | nil=>exact absurd rfl e
  | cons a r=>rfl
def Ax (hu:X.A.units<cLine) (hK:X.K=K:=by rfl):OpR X (compareOp .NotEq) (rEqE K true):=by
 subst hK;intro pins s σ H x y v u Q I rx ry h;obtain⟨p,q,xs,rfl,rfl,hp,hq,k⟩:=h;obtain rfl:v=Value.ref p:=rx;obtain rfl:u=Value.ref q:=ry;obtain⟨us,r1,p1,_⟩:=I.list hp;obtain⟨ws,r2,p2,_⟩:=I.list hq;have l1:=r1.length;have l2:0=ws.length:=r2.length;have k':Q (.bl (!xs.isEmpty)) H:=k;by_cases e:xs.length=0
 ·refine SeqAt.RcNeAt.lists (e:=fun _=>true) p1.isList p2.isList (by simp;omega) hu (fun j h1 h2=>by simp at h2;omega) _ _ _ _ ⟨.bl (!xs.isEmpty),H,I,?_,k'⟩;show _=Value.bool (!xs.isEmpty)
  have:xs=[]:=Ws.mp e
  subst this;rw[Yd,←l1];rfl
 ·refine SeqAt.RcNeAt.lists_lengths p1.isList p2.isList (by simp;omega) hu _ _ _ _ ⟨.bl (!xs.isEmpty),H,I,?_,k'⟩;show _=Value.bool (!xs.isEmpty);cases xs with
  | nil=>exact absurd rfl e
  | cons a r=>rfl
end
end Own
namespace M
def sl:List Int->List Int->Prop
 | x::xs,y::ys=>x<y\/(x=y/\sl xs ys)
 | _,_=>False
def Ui (ws:List (Int×Int)):Prop:=ws.length<=20/\ws.Nodup/\∀q∈ws,(1<=q.1/\q.1<=10/\1<=q.2/\q.2<=10)/\q.1≠q.2
end M
namespace Pu
open PySem PySem.Spec PyProof.Rows L2 Own
inductive D where
 | int (i:Int)|bl (b:Bool)|non|str (x:Str)|ty (n:String)|tup (ds:List D)|lst (ds:List D)|scr (ns:List Int)|dK (kvs:List (Key×V))|dT (kvs:List (List Key×V))|loc (a:Addr) (d:D)|err (C:Addr)|ref (a:Addr)|ins (C:Addr) (xs:List Str) (ds:List D)
mutual
inductive Rp (K:Za) (H:Hp):D->V->Prop
 | int (i:Int):Rp K H (.int i) (.int i)
 | bl (b:Bool):Rp K H (.bl b) (.bl b)
 | non:Rp K H .non .non
 | str (x:Str):Rp K H (.str x) (.str x)
 | ty (n:String):Rp K H (.ty n) (.ty n)
 | tup {ds:List D} {vs:List V} {a:Addr}:H a=some (.tup vs)->Rps K H ds vs->Rp K H (.tup ds) (.ref a)
 | lst {ds:List D} {vs:List V} {a:Addr}:H a=some (.lst vs)->Rps K H ds vs->Rp K H (.lst ds) (.ref a)
 | scr {ns:List Int} {a:Addr}:SqL K H a (ns.map V.int)->Rp K H (.scr ns) (.ref a)
 | dK {kvs:List (Key×V)} {a:Addr}:H a=some (.dK kvs)->Rp K H (.dK kvs) (.ref a)
 | dT {kvs:List (List Key×V)} {a:Addr}:H a=some (.dT kvs)->Rp K H (.dT kvs) (.ref a)
 | loc {d:D} {a:Addr}:Rp K H d (.ref a)->Rp K H (.loc a d) (.ref a)
 | err {C a:Addr}:H a=some (ExcR.ErrH a C)->Rp K H (.err C) (.ref a)
 | ref (a:Addr):Rp K H (.ref a) (.ref a)
 | ins {C a dx:Addr} {xs:List Str} {ds:List D} {vs:List V}:H a=some (.ins C dx (xs.zip vs))->xs.length=vs.length->Rps K H ds vs->Rp K H (.ins C xs ds) (.ref a)
inductive Rps (K:Za) (H:Hp):List D->List V->Prop
 | nil:Rps K H [] []
 | cons {d:D} {v:V} {ds:List D} {vs:List V}:Rp K H d v->Rps K H ds vs->Rps K H (d::ds) (v::vs)
end
section
variable {K:Za}{H H':Hp}
mutual
def Rp.mono (S:Same H H'):∀{d:D}{v:V},Rp K H d v->Rp K H' d v
 | _,_,.int i=>.int i
 | _,_,.bl b=>.bl b
 | _,_,.non=>.non
 | _,_,.str x=>.str x
 | _,_,.ty n=>.ty n
 | _,_,.tup h r=>.tup (S _ _ h) (Rps.mono S r)
 | _,_,.lst h r=>.lst (S _ _ h) (Rps.mono S r)
 | _,_,.scr h=>.scr (S.seq h)
 | _,_,.dK h=>.dK (S _ _ h)
 | _,_,.dT h=>.dT (S _ _ h)
 | _,_,.loc h=>.loc (Rp.mono S h)
 | _,_,.err h=>.err (S _ _ h)
 | _,_,.ref a=>.ref a
 | _,_,.ins h e r=>.ins (S _ _ h) e (Rps.mono S r)
def Rps.mono (S:Same H H'):∀{ds:List D}{vs:List V},Rps K H ds vs->Rps K H' ds vs
 | _,_,.nil=>.nil
 | _,_,.cons h r=>.cons (Rp.mono S h) (Rps.mono S r)
end
def Rps.len:∀{ds:List D}{vs:List V},Rps K H ds vs->vs.length=ds.length
 | _,_,.nil=>rfl
 | _,_,.cons _ r=>Y0 (· + 1) (Rps.len r)
def Rps.get:∀{ds:List D}{vs:List V}{i:Nat}{d:D},Rps K H ds vs->ds[i]?=some d->∃v,vs[i]?=some v/\Rp K H d v
 | _,_,_,_,.nil,e=>by simp at e
 | _,_,0,_,.cons h _,e=>by simp at e;subst e;exact⟨_,rfl,h⟩
 | _,_,i+1,d,.cons _ r,e=>by
  obtain⟨v,h1,h2⟩:=Rps.get (i:=i) (d:=d) r (by simpa using e);exact⟨v,by simpa using h1,h2⟩
def Rps.append:∀{ds es:List D}{vs us:List V},Rps K H ds vs->Rps K H es us->Rps K H (ds++es) (vs++us)
 | _,_,_,_,.nil,s=>s
 | _,_,_,_,.cons h r,s=>.cons h (Rps.append r s)
def Rps.at {ds:List D}{vs:List V}{i:Int}{d:D} (r:Rps K H ds vs) (e:atI ds i=some d):∃v,atI vs i=some v/\Rp K H d v:=by
 unfold atI at e ⊢;rw[r.len];cases q:ixN ds.length i with
 | none=>rw[q] at e;cases e
 | some j=>
  rw[q] at e;exact r.get (show ds[j]?=some d from e)
def Rps.drop:∀{ds:List D}{vs:List V} (n:Nat),Rps K H ds vs->Rps K H (ds.drop n) (vs.drop n)
 | _,_,0,r=>r
 | _,_,_+1,.nil=>.nil
 | _,_,n+1,.cons _ r=>Rps.drop n r
def Rps.take:∀{ds:List D}{vs:List V} (n:Nat),Rps K H ds vs->Rps K H (ds.take n) (vs.take n)
 | _,_,0,_=>.nil
 | _,_,_+1,.nil=>.nil
 | _,_,n+1,.cons h r=>.cons h (Rps.take n r)
end
mutual
def imm:D->Bool
 | .tup ds=>imms ds
 | .lst _=>false
 | .scr _=>false
 | .dK _=>false
 | .dT _=>false
 | .loc _ _=>false
 | .err _=>false
 | .ins _ _ _=>false
 | _=>true
def imms:List D->Bool
 | []=>true
 | d::r=>imm d&&imms r
end
open Classical in
noncomputable def off (Z:Addr->Prop) (H:Hp):Hp:=fun b=>if Z b then none else H b
section
variable {K:Za}{H H':Hp}{Z Z':Addr->Prop}
def JF {b:Addr}{o:HO} (h:off Z H b=some o):H b=some o/\¬Z b:=by
 unfold off at h;by_cases z:Z b
 ·rw[ZV z] at h;cases h
 ·rw[ZU z] at h;exact⟨h,z⟩
def VM {b:Addr}{o:HO} (h:H b=some o) (z:¬Z b):off Z H b=some o:=by
 unfold off;rw[ZU z];exact h
def Vy (S:Same H H') (hz:∀b o,H b=some o->¬Z b->¬Z' b):Same (off Z H) (off Z' H'):=fun b o h=>by
 obtain⟨h1,h2⟩:=JF h;exact VM (S b o h1) (hz b o h1 h2)
def off_sub:Same (off Z H) H:=fun _ _ h=>(JF h).1
mutual
def Rp.off (hm:∀b,Z b->Mut (H b)):∀{d:D}{v:V},Rp K H d v->imm d=true->Rp K (off Z H) d v
 | _,_,.int i,_=>.int i
 | _,_,.bl b,_=>.bl b
 | _,_,.non,_=>.non
 | _,_,.str x,_=>.str x
 | _,_,.ty n,_=>.ty n
 | _,_,.tup h r,e=>.tup (VM h fun z=>by have:=hm _ z;rw[h] at this;exact this) (Rps.off hm r (by unfold imm at e;exact e))
 | _,_,.lst _ _,e=>by unfold imm at e;cases e
 | _,_,.scr _,e=>by unfold imm at e;cases e
 | _,_,.dK _,e=>by unfold imm at e;cases e
 | _,_,.dT _,e=>by unfold imm at e;cases e
 | _,_,.loc _,e=>by unfold imm at e;cases e
 | _,_,.err _,e=>by unfold imm at e;cases e
 | _,_,.ref a,_=>.ref a
 | _,_,.ins _ _ _,e=>by unfold imm at e;cases e
def Rps.off (hm:∀b,Z b->Mut (H b)):∀{ds:List D}{vs:List V},Rps K H ds vs->imms ds=true->Rps K (off Z H) ds vs
 | _,_,.nil,_=>.nil
 | _,_,.cons h r,e=>by
  unfold imms at e;rw[YU] at e;exact .cons (Rp.off hm h e.1) (Rps.off hm r e.2)
end
end
inductive O where
 | lst (ds:List D)|dK (kvs:List (Key×V))|dT (kvs:List (List Key×V))|ins (a C:Addr) (xs:List Str) (cs:List (Addr×List D))|lsA (a:Addr) (ds:List D)|nst (cs:List (Addr×List D))
instance:Coe (List D) O:=⟨O.lst⟩
def O.d:O->D
 | .lst ds=>.lst ds | .dK kvs=>.dK kvs | .dT kvs=>.dT kvs | .ins _ C xs cs=>.ins C xs (cs.map fun c=>.lst c.2) | .lsA _ ds=>.lst ds | .nst cs=>.tup (cs.map fun c=>.lst c.2)
def O.adr (a:Addr):O->Addr->Prop
 | .lst _=>fun b=>b=a
 | .dK _=>fun b=>b=a
 | .dT _=>fun b=>b=a
 | .ins x _ _ cs=>fun b=>b=x\/∃c∈cs,b=c.1
 | .lsA x _=>fun b=>b=x
 | .nst cs=>fun b=>∃c∈cs,b=c.1
def OR (K:Za) (F H:Hp) (a:Addr):O->Prop
 | .lst ds=>∃vs,H a=some (.lst vs)/\Rps K F ds vs
 | .dK kvs=>H a=some (.dK kvs)
 | .dT kvs=>H a=some (.dT kvs)
 | .lsA x ds=>a=x/\∃vs,H a=some (.lst vs)/\Rps K F ds vs
 | .ins x C xs cs=>a=x/\xs.length=cs.length/\(∃dx,H a=some (.ins C dx (xs.zip (cs.map fun c=>V.ref c.1))))/\(∀c∈cs,∃vs,H c.1=some (.lst vs)/\Rps K F c.2 vs)/\(cs.map (·.1)).Nodup
 | .nst cs=>F a=some (.tup (cs.map fun c=>V.ref c.1))/\(∀c∈cs,∃vs,H c.1=some (.lst vs)/\Rps K F c.2 vs)/\(cs.map (·.1)).Nodup
def OR.mono {K:Za}{F F' H H':Hp}{a:Addr}{o:O} (S1:Same F F') (S2:∀b,o.adr a b->∀x,H b=some x->H' b=some x) (h:OR K F H a o):OR K F' H' a o:=by
 cases o with
 | lst ds=>obtain⟨vs,h1,h2⟩:=h;exact⟨vs,S2 _ rfl _ h1,Rps.mono S1 h2⟩
 | dK kvs=>exact S2 _ rfl _ h
 | dT kvs=>exact S2 _ rfl _ h
 | lsA x ds=>obtain⟨rfl,vs,h1,h2⟩:=h;exact⟨rfl,vs,S2 _ rfl _ h1,Rps.mono S1 h2⟩
 | nst cs=>
  obtain⟨h1,h2,h3⟩:=h;exact⟨S1 _ _ h1,fun c hc=>let ⟨vs,q1,q2⟩:=h2 c hc;⟨vs,S2 _ ⟨c,hc,rfl⟩ _ q1,Rps.mono S1 q2⟩,h3⟩
 | ins x C xs cs=>
  obtain⟨e,l,⟨dx,h1⟩,h2,h3⟩:=h;exact⟨e,l,⟨dx,S2 _ (.inl e) _ h1⟩,fun c hc=>let ⟨vs,q1,q2⟩:=h2 c hc;⟨vs,S2 _ (.inr ⟨c,hc,rfl⟩) _ q1,Rps.mono S1 q2⟩,h3⟩
def Xu {K:Za}{F:Hp}:∀{cs:List (Addr×List D)},(∀c∈cs,∃vs,F c.1=some (.lst vs)/\Rps K F c.2 vs)->Rps K F (cs.map fun c=>.lst c.2) (cs.map fun c=>V.ref c.1)
 | [],_=>.nil
 | c::cs,h=>let ⟨_,q1,q2⟩:=h c YB;.cons (.lst q1 q2) (Xu fun c' hc=>h c' (Yt _ hc))
def OR.rpIn {K:Za}{F F' H:Hp}{a:Addr}{o:O} (S1:Same F F') (S2:∀b,o.adr a b->∀x,H b=some x->F' b=some x) (h:OR K F H a o):Rp K F' o.d (.ref a):=by
 cases o with
 | lst ds=>obtain⟨vs,h1,h2⟩:=h;exact .lst (S2 _ rfl _ h1) (Rps.mono S1 h2)
 | dK kvs=>exact .dK (S2 _ rfl _ h)
 | dT kvs=>exact .dT (S2 _ rfl _ h)
 | lsA x ds=>obtain⟨rfl,vs,h1,h2⟩:=h;exact .lst (S2 _ rfl _ h1) (Rps.mono S1 h2)
 | nst cs=>
  obtain⟨h1,h2,h3⟩:=h;exact .tup (S1 _ _ h1) (Xu fun c hc=>let ⟨vs,q1,q2⟩:=h2 c hc;⟨vs,S2 _ ⟨c,hc,rfl⟩ _ q1,Rps.mono S1 q2⟩)
 | ins x C xs cs=>
  obtain⟨e,l,⟨dx,h1⟩,h2,h3⟩:=h;exact .ins (S2 _ (.inl e) _ h1) (by rw[ZR];exact l) (Xu fun c hc=>let ⟨vs,q1,q2⟩:=h2 c hc;⟨vs,S2 _ (.inr ⟨c,hc,rfl⟩) _ q1,Rps.mono S1 q2⟩)
def OR.rp {K:Za}{F H:Hp}{a:Addr}{o:O} (S1:Same F H) (h:OR K F H a o):Rp K H o.d (.ref a):=h.rpIn S1 fun _ _ _ e=>e
def OR.mut {K:Za}{F H:Hp}{a:Addr}{o:O} (h:OR K F H a o):∀b,o.adr a b->Mut (H b):=by
 cases o with
 | lst ds=>obtain⟨vs,h1,h2⟩:=h;intro b e;rw[show b=a from e,h1];trivial
 | dK kvs=>intro b e;rw[show b=a from e,show H a=some (.dK kvs) from h];trivial
 | dT kvs=>intro b e;rw[show b=a from e,show H a=some (.dT kvs) from h];trivial
 | lsA x ds=>obtain⟨rfl,vs,h1,h2⟩:=h;intro b e;rw[show b=a from e,h1];trivial
 | nst cs=>
  obtain⟨h1,h2,h3⟩:=h;rintro b ⟨c,hc,hb⟩;obtain⟨vs,q1,_⟩:=h2 c hc;rw[hb,q1];trivial
 | ins x C xs cs=>
  obtain⟨e,l,⟨dx,h1⟩,h2,h3⟩:=h;intro b hb;rcases hb with hb|⟨c,hc,hb⟩
  ·rw[show b=a from hb.trans e.symm,h1];trivial
  ·obtain⟨vs,q1,_⟩:=h2 c hc;rw[hb,q1];trivial
inductive S where
 | bor (d:D)|sh (d:D)|own (o:O)|view (o:O)|tmp (d:D)
abbrev Γ:=List (Option S)
def D.strip:D->D
 | .loc _ d=>d|d=>d
def Rp.strip {K:Za}{H:Hp}{d:D}{v:V} (h:Rp K H d v):Rp K H d.strip v:=by
 cases h with
 | loc h=>exact h
 | int i=>exact .int i
 | bl b=>exact .bl b
 | non=>exact .non
 | str x=>exact .str x
 | ty n=>exact .ty n
 | tup h r=>exact .tup h r
 | lst h r=>exact .lst h r
 | scr h=>exact .scr h
 | dK h=>exact .dK h
 | dT h=>exact .dT h
 | err h=>exact .err h
 | ref a=>exact .ref a
 | ins h e r=>exact .ins h e r
def S.d:S->D
 | .bor d=>d.strip | .sh d=>d | .own o=>o.d | .view o=>o.d | .tmp d=>d
def arg (d:D):S:=match imm d with|true=>.sh d|false=>.bor d
def argT (d:D):S:=match imm d with|true=>.sh d|false=>.tmp d
def S.sub:S->D->S
 | .bor _,e=>arg e | .tmp _,e=>argT e | .own (.nst _),e=>argT e | .view (.nst _),e=>argT e|_,e=>.sh e
def S.shd:S->Option D
 | .sh d=>some d | .own o=>some o.d
 | .bor d=>match imm d with|true=>some d|false=>none
 | .tmp d=>match imm d with|true=>some d|false=>none
 | .view _=>none
def S.slot:S->Option S
 | .view _=>none | .bor d=>some (.bor d) | .sh d=>some (.sh d) | .own ds=>some (.own ds)
 | .tmp d=>match imm d with|true=>some (.sh d)|false=>none
def AS (γ:Γ) (σ:L2.St) (b:Addr):Prop:=∃(i:Nat) (ds:O) (a:Addr),γ[i]?=some (some (.own ds))/\σ[i]?=some (some (.ref a))/\ds.adr a b
def zof (B:Addr->Prop) (γ:Γ) (σ:L2.St):Addr->Prop:=fun b=>B b\/AS γ σ b
def SV (K:Za) (Z:Addr->Prop) (H0 H:Hp):S->V->Prop
 | .bor d,v=>Rp K H0 d v
 | .sh d,v=>Rp K (off Z H) d v
 | .own o,v=>∃a,v=.ref a/\(∀b,o.adr a b->H0 b=none)/\OR K (off Z H) H a o
 | _,_=>False
def TV (K:Za) (Z:Addr->Prop) (H0 H H':Hp):S->V->Prop
 | .bor d,v=>Rp K H0 d v
 | .sh d,v=>Rp K (off Z H') d v
 | .own o,v=>∃a,v=.ref a/\(∀b,o.adr a b->H b=none)/\OR K (off (fun b=>Z b\/o.adr a b) H') H' a o
 | .view o,v=>∃a,v=.ref a/\OR K (off Z H') H' a o
 | .tmp d,v=>Rp K H' d v
structure EnvR (K:Za) (H0:Hp) (B:Addr->Prop) (H:Hp) (σ:L2.St) (γ:Γ):Prop where
 same:Same H0 H
 len:σ.length=γ.length
 bm:∀b,B b->Mut (H b)
 own:∀(i j:Nat) (a a':Addr) (ds es:O) (b:Addr),γ[i]?=some (some (.own ds))->γ[j]?=some (some (.own es))->σ[i]?=some (some (.ref a))->σ[j]?=some (some (.ref a'))->ds.adr a b->es.adr a' b->i=j
 slot:∀(i:Nat) (s:S),γ[i]?=some (some s)->∃v,σ[i]?=some (some v)/\SV K (zof B γ σ) H0 H s v
section
variable {K:Za}{H0 H H1 H':Hp}{B Z Z':Addr->Prop}{σ:L2.St}{γ:Γ}
def Uc (S:Same H H') {b:Addr} (h:Mut (H b)):Mut (H' b):=by
 cases e:H b with
 | none=>rw[e] at h;exact h.elim
 | some o=>rw[S b o e,←e];exact h
def Ul {b:Addr} (h:Mut (H b)):∃o,H b=some o:=by
 cases e:H b with
 | none=>rw[e] at h;exact h.elim
 | some o=>exact⟨o,rfl⟩
def EnvR.grow (E:EnvR K H0 B H σ γ) (S:Same H H'):EnvR K H0 B H' σ γ where
 same:=E.same.trans S
 len:=E.len
 bm b h:=Uc S (E.bm b h)
 own:=E.own
 slot i s h:=by
  obtain⟨v,h1,h2⟩:=E.slot i s h;refine⟨v,h1,?_⟩;cases s with
  | bor d=>exact h2
  | sh d=>exact Rp.mono (Vy S fun _ _ _ z=>z) h2
  | own ds=>
   obtain⟨a,e1,e3,e4⟩:=h2;exact⟨a,e1,e3,e4.mono (Vy S fun _ _ _ z=>z) fun b _ x=>S b x⟩
  | view ds=>exact h2
  | tmp d=>exact h2
def EnvR.zm (E:EnvR K H0 B H σ γ):∀b,zof B γ σ b->Mut (H b):=fun b h=>by
 rcases h with h|⟨i,ds,x,h1,h2,hb⟩
 ·exact E.bm b h
 ·obtain⟨v,e1,a,e2,e3,e4⟩:=E.slot i _ h1;rw[h2] at e1;cases e1
  cases e2
  exact e4.mut b hb
def TV.rp {s:S}{v:V} (h0:Same H0 H') (h:TV K Z H0 H H' s v):Rp K H' s.d v:=by
 cases s with
 | bor d=>exact(Rp.mono h0 h).strip
 | sh d=>exact Rp.mono off_sub h
 | own ds=>
  obtain⟨a,rfl,_,r⟩:=h;exact r.rp off_sub
 | view ds=>
  obtain⟨a,rfl,r⟩:=h;exact r.rp off_sub
 | tmp d=>exact h
def TV.grow {s:S}{v:V} (S1:Same H' H1) (h:TV K Z H0 H H' s v):TV K Z H0 H H1 s v:=by
 cases s with
 | bor d=>exact h
 | sh d=>exact Rp.mono (Vy S1 fun _ _ _ z=>z) h
 | own ds=>
  obtain⟨a,rfl,e0,r⟩:=h;exact⟨a,rfl,e0,r.mono (Vy S1 fun _ _ _ z=>z) fun b _ x=>S1 b x⟩
 | view ds=>
  obtain⟨a,rfl,r⟩:=h;exact⟨a,rfl,r.mono (Vy S1 fun _ _ _ z=>z) fun b _ x=>S1 b x⟩
 | tmp d=>exact Rp.mono S1 h
def TV.weak {s:S}{v:V} (S1:Same H H1) (hz:∀b,Z b->Z' b) (h:TV K Z' H0 H1 H' s v):TV K Z H0 H H' s v:=by
 cases s with
 | bor d=>exact h
 | sh d=>exact Rp.mono (Vy (Same.refl _) fun b _ _ z y=>z (hz b y)) h
 | own ds=>
  obtain⟨a,rfl,e0,r⟩:=h;exact⟨a,rfl,fun b hb=>S1.free (e0 b hb),r.mono (Vy (Same.refl _) fun b _ _ z y=>z (y.imp (hz b) id)) fun _ _ _ q=>q⟩
 | view ds=>
  obtain⟨a,rfl,r⟩:=h;exact⟨a,rfl,r.mono (Vy (Same.refl _) fun b _ _ z y=>z (hz b y)) fun _ _ _ q=>q⟩
 | tmp d=>exact h
def TV.shd {s:S}{v:V}{d:D} (h0:Same H0 H') (hm:∀b,Z b->Mut (H b)) (S1:Same H H') (h:TV K Z H0 H H' s v) (e:s.shd=some d):Rp K (off Z H') d v:=by
 have hm':∀b,Z b->Mut (H' b):=fun b z=>Uc S1 (hm b z);cases s with
 | bor d'=>
  unfold S.shd at e;cases q:imm d' with
  | false=>simp[q] at e
  | true=>
   simp[q] at e;subst e;exact Rp.off hm' (Rp.mono h0 h) q
 | sh d'=>cases e;exact h
 | own ds=>
  cases e
  obtain⟨a,rfl,e0,r⟩:=h;exact r.rpIn (Vy (Same.refl _) fun b _ _ z y=>z (.inl y)) fun b hb x e=>VM e fun z=>by have:=hm _ z;rw[e0 b hb] at this;exact this
 | view ds=>cases e
 | tmp d'=>
  unfold S.shd at e;cases q:imm d' with
  | false=>simp[q] at e
  | true=>
   simp[q] at e;subst e;exact Rp.off hm' h q
def argR {d:D}{v:V} (hm:∀b,Z b->Mut (H' b)) (h0:Same H0 H') (h:Rp K H0 d v):TV K Z H0 H H' (arg d) v:=by
 unfold arg;cases q:imm d with
 | true=>exact Rp.off hm (Rp.mono h0 h) q
 | false=>exact h
def UA {d:D}{v:V} (hm:∀b,Z b->Mut (H' b)) (h:Rp K H' d v):TV K Z H0 H H' (argT d) v:=by
 unfold argT;cases q:imm d with
 | true=>exact Rp.off hm h q
 | false=>exact h
def Rp.lst_inv {ds:List D}{v:V} (h:Rp K H (.lst ds) v):∃a vs,v=.ref a/\H a=some (.lst vs)/\Rps K H ds vs:=by
 cases h with
 | lst h r=>exact⟨_,_,rfl,h,r⟩
def Rp.tup_inv {ds:List D}{v:V} (h:Rp K H (.tup ds) v):∃a vs,v=.ref a/\H a=some (.tup vs)/\Rps K H ds vs:=by
 cases h with
 | tup h r=>exact⟨_,_,rfl,h,r⟩
def TV.part {s:S}{v:V} (h0:Same H0 H') (hm:∀b,Z b->Mut (H b)) (S1:Same H H') (h:TV K Z H0 H H' s v) :
  (∀ds,s.d=.lst ds->∃a vs,v=.ref a/\H' a=some (.lst vs)/\vs.length=ds.length/\∀(i:Nat) d,ds[i]?=some d->∃u,vs[i]?=some u/\TV K Z H0 H H' (s.sub d) u)/\
  (∀ds,s.d=.tup ds->∃a vs,v=.ref a/\H' a=some (.tup vs)/\vs.length=ds.length/\∀(i:Nat) d,ds[i]?=some d->∃u,vs[i]?=some u/\TV K Z H0 H H' (s.sub d) u):=by
 have hm':∀b,Z b->Mut (H' b):=fun b z=>Uc S1 (hm b z);cases s with
 | bor d=>
  have h:=Rp.strip h;refine⟨fun ds e=>?_,fun ds e=>?_⟩<;>rw[show d.strip=_ from e] at h
  ·obtain⟨a,vs,rfl,h,r⟩:=Rp.lst_inv h;exact⟨_,_,rfl,h0 _ _ h,r.len,fun i d e=>let ⟨u,h1,h2⟩:=r.get e;⟨u,h1,argR hm' h0 h2⟩⟩
  ·obtain⟨a,vs,rfl,h,r⟩:=Rp.tup_inv h;exact⟨_,_,rfl,h0 _ _ h,r.len,fun i d e=>let ⟨u,h1,h2⟩:=r.get e;⟨u,h1,argR hm' h0 h2⟩⟩
 | sh d=>
  refine⟨fun ds e=>?_,fun ds e=>?_⟩<;>(have e':d=_:=e;subst e')
  ·obtain⟨a,vs,rfl,h,r⟩:=Rp.lst_inv h;exact⟨_,_,rfl,off_sub _ _ h,r.len,fun i d e=>r.get e⟩
  ·obtain⟨a,vs,rfl,h,r⟩:=Rp.tup_inv h;exact⟨_,_,rfl,off_sub _ _ h,r.len,fun i d e=>r.get e⟩
 | own es=>
  cases es with
  | lst es=>
   refine⟨fun ds e=>?_,fun ds e=>by cases e⟩;cases e
   obtain⟨a,rfl,e0,vs,e,r⟩:=h;exact⟨a,vs,rfl,e,r.len,fun i d e=>let ⟨u,h1,h2⟩:=r.get e;⟨u,h1,Rp.mono (Vy (Same.refl _) fun b _ _ z y=>z (.inl y)) h2⟩⟩
  | lsA x es=>
   refine⟨fun ds e=>?_,fun ds e=>by cases e⟩;cases e
   obtain⟨a,rfl,e0,_,vs,e,r⟩:=h;exact⟨a,vs,rfl,e,r.len,fun i d e=>let ⟨u,h1,h2⟩:=r.get e;⟨u,h1,Rp.mono (Vy (Same.refl _) fun b _ _ z y=>z (.inl y)) h2⟩⟩
  | dK es=>exact⟨(fun ds e=>by cases e),(fun ds e=>by cases e)⟩
  | dT es=>exact⟨(fun ds e=>by cases e),(fun ds e=>by cases e)⟩
  | nst cs=>
   refine⟨(fun ds e=>by cases e),fun ds e=>?_⟩;cases e
   obtain⟨a,rfl,e0,e1,e2,e3⟩:=h;have r:Rps K H' (cs.map fun c=>D.lst c.2) (cs.map fun c=>V.ref c.1):=Xu fun c hc=>let ⟨vs,q1,q2⟩:=e2 c hc;⟨vs,q1,Rps.mono off_sub q2⟩;exact⟨a,_,rfl,off_sub _ _ e1,r.len,fun i d e=>let ⟨u,h1,h2⟩:=r.get e;⟨u,h1,UA hm' h2⟩⟩
  | ins x C xs cs=>exact⟨(fun ds e=>by cases e),(fun ds e=>by cases e)⟩
 | view es=>
  cases es with
  | lst es=>
   refine⟨fun ds e=>?_,fun ds e=>by cases e⟩;cases e
   obtain⟨a,rfl,vs,e,r⟩:=h;exact⟨a,vs,rfl,e,r.len,fun i d e=>r.get e⟩
  | lsA x es=>
   refine⟨fun ds e=>?_,fun ds e=>by cases e⟩;cases e
   obtain⟨a,rfl,_,vs,e,r⟩:=h;exact⟨a,vs,rfl,e,r.len,fun i d e=>r.get e⟩
  | dK es=>exact⟨(fun ds e=>by cases e),(fun ds e=>by cases e)⟩
  | dT es=>exact⟨(fun ds e=>by cases e),(fun ds e=>by cases e)⟩
  | nst cs=>
   refine⟨(fun ds e=>by cases e),fun ds e=>?_⟩;cases e
   obtain⟨a,rfl,e1,e2,e3⟩:=h;have r:Rps K H' (cs.map fun c=>D.lst c.2) (cs.map fun c=>V.ref c.1):=Xu fun c hc=>let ⟨vs,q1,q2⟩:=e2 c hc;⟨vs,q1,Rps.mono off_sub q2⟩;exact⟨a,_,rfl,off_sub _ _ e1,r.len,fun i d e=>let ⟨u,h1,h2⟩:=r.get e;⟨u,h1,UA hm' h2⟩⟩
  | ins x C xs cs=>exact⟨(fun ds e=>by cases e),(fun ds e=>by cases e)⟩
 | tmp d=>
  refine⟨fun ds e=>?_,fun ds e=>?_⟩<;>(have e':d=_:=e;subst e')
  ·obtain⟨a,vs,rfl,h,r⟩:=Rp.lst_inv h;exact⟨_,_,rfl,h,r.len,fun i d e=>let ⟨u,h1,h2⟩:=r.get e;⟨u,h1,UA hm' h2⟩⟩
  ·obtain⟨a,vs,rfl,h,r⟩:=Rp.tup_inv h;exact⟨_,_,rfl,h,r.len,fun i d e=>let ⟨u,h1,h2⟩:=r.get e;⟨u,h1,UA hm' h2⟩⟩
def Fr (B:Addr->Prop) (H:Hp) (σ:L2.St) (γ:Γ) (H':Hp) (σ':L2.St) (γ':Γ):Prop:=∀b o,H b=some o->¬zof B γ σ b->H' b=some o/\¬zof B γ' σ' b
def Fr.refl:Fr B H σ γ H σ γ:=fun _ _ h z=>⟨h,z⟩
def Fr.trans {H1 H2:Hp}{σ1 σ2:L2.St}{γ1 γ2:Γ} (a:Fr B H σ γ H1 σ1 γ1) (b:Fr B H1 σ1 γ1 H2 σ2 γ2):Fr B H σ γ H2 σ2 γ2:=fun x o h z=>let ⟨h1,z1⟩:=a x o h z;b x o h1 z1
def Fr.grow (S1:Same H H'):Fr B H σ γ H' σ γ:=fun _ _ h z=>⟨S1 _ _ h,z⟩
def Fr.off {H':Hp}{σ':L2.St}{γ':Γ} (f:Fr B H σ γ H' σ' γ'):Same (off (zof B γ σ) H) (Pu.off (zof B γ' σ') H'):=fun b o h=>by
 obtain⟨h1,h2⟩:=JF h;obtain⟨h3,h4⟩:=f b o h1 h2;exact VM h3 h4
def VD {α:Type}{l:List α}{i j:Nat}{x y:α} (h:(l.set i x)[j]?=some y):(j=i/\x=y/\i<l.length)\/(j≠i/\l[j]?=some y):=by
 rw[WB] at h;by_cases e:i=j
 ·subst e;rw[ZV rfl] at h;by_cases e2:i<l.length
  ·rw[ZV e2] at h;exact .inl ⟨rfl,Ya h,e2⟩
  ·rw[ZU e2] at h;cases h
 ·rw[ZU e] at h;exact .inr ⟨fun z=>e z.symm,h⟩
def Kg {α:Type}{l:List α}{i:Nat}{x:α} (h:i<l.length):(l.set i x)[i]?=some x:=by rw[Wd h]
def JM {α:Type}{l:List α}{i j:Nat}{x:α} (h:j≠i):(l.set i x)[j]?=l[j]?:=Wj fun z=>h z.symm
def EnvR.drop (E:EnvR K H0 B H σ γ) (i:Nat):EnvR K H0 B H σ (γ.set i none)/\Fr B H σ γ H σ (γ.set i none):=by
 have hz:∀b,zof B (γ.set i none) σ b->zof B γ σ b:=fun b z=>z.imp id fun⟨j,ds,a,h1,h2,h3⟩=>by
  rcases VD h1 with⟨_,e,_⟩|⟨_,e⟩
  ·cases e
  ·exact⟨j,ds,a,e,h2,h3⟩
 refine⟨⟨E.same,by rw[YE];exact E.len,E.bm,fun k j a a' ds es b h1 h2=>?_,fun k s h=>?_⟩,fun b o h z=>⟨h,fun y=>z (hz b y)⟩⟩
 ·rcases VD h1 with⟨_,e,_⟩|⟨_,e1⟩
  ·cases e
  ·rcases VD h2 with⟨_,e,_⟩|⟨_,e2⟩
   ·cases e
   ·exact E.own k j a a' ds es b e1 e2
 ·rcases VD h with⟨_,e,_⟩|⟨_,e⟩
  ·cases e
  ·obtain⟨v,h1,h2⟩:=E.slot k s e;refine⟨v,h1,?_⟩;have S1:Same (Pu.off (zof B γ σ) H) (Pu.off (zof B (γ.set i none) σ) H):=Vy (Same.refl _) fun b _ _ z y=>z (hz b y);cases s with
   | bor d=>exact h2
   | sh d=>exact Rp.mono S1 h2
   | own ds=>
    obtain⟨a,e1,e3,e4⟩:=h2;exact⟨a,e1,e3,e4.mono S1 fun _ _ _ q=>q⟩
   | view ds=>exact h2
   | tmp d=>exact h2
def EnvR.put {i:Nat}{s s':S}{v:V} (E:EnvR K H0 B H σ γ) (S1:Same H H') (h:TV K (zof B γ σ) H0 H H' s v) (e:s.slot=some s') (hi:i<γ.length) :
  EnvR K H0 B H' (σ.set i (some v)) (γ.set i (some s'))/\Fr B H σ γ H' (σ.set i (some v)) (γ.set i (some s')):=by
 have hiσ:i<σ.length:=by rw[E.len];exact hi
 have E':=E.grow S1
 have isown:∀ds,s'=.own ds->s=.own ds:=fun ds q=>by
  subst q;cases s with
  | own es=>cases e;rfl
  | bor d=>cases e
  | sh d=>cases e
  | view d=>cases e
  | tmp d=>unfold S.slot at e;cases q:imm d<;>simp[q] at e
 have hown:∀b,zof B (γ.set i (some s')) (σ.set i (some v)) b->zof B γ σ b\/∃ds a,s=.own ds/\v=.ref a/\ds.adr a b:=fun b z=>by
  rcases z with z|⟨j,ds,a,h1,h2,h3⟩
  ·exact .inl (.inl z)
  ·rcases VD h1 with⟨ej,e1,_⟩|⟨nj,e1⟩
   ·subst ej;rw[Kg hiσ] at h2
    have:s'=.own ds:=Ya e1
    exact .inr ⟨ds,a,isown ds this,Ya (Ya h2),h3⟩
   ·rw[JM nj] at h2;exact .inl (.inr ⟨j,ds,a,e1,h2,h3⟩)
 have fresh:∀ds a b,s=.own ds->v=.ref a->ds.adr a b->H b=none:=fun ds a b es ev hb=>by
  subst es;obtain⟨a',e1,e0,_⟩:=h;rw[ev] at e1;cases e1
  exact e0 b hb
 have hz:∀b o,H b=some o->¬zof B γ σ b->¬zof B (γ.set i (some s')) (σ.set i (some v)) b:=fun b o hb z y=>by
  rcases hown b y with y|⟨ds,a,y1,y2,y3⟩
  ·exact z y
  ·rw[fresh ds a b y1 y2 y3] at hb;cases hb
 have So:Same (off (zof B γ σ) H) (Pu.off (zof B (γ.set i (some s')) (σ.set i (some v))) H'):=Vy S1 hz;refine⟨⟨E'.same,by rw[YE,YE];exact E.len,E'.bm,fun k j a a' ds es b h1 h2 h3 h4 h5 h6=>?_,fun k u hk=>?_⟩,fun b o hb z=>⟨S1 b o hb,hz b o hb z⟩⟩
 ·have old:∀(k:Nat) (ds:O) (a b:Addr),γ[k]?=some (some (.own ds))->σ[k]?=some (some (.ref a))->ds.adr a b->∃o,H b=some o:=fun k ds a b e1 e2 e3=>by
   obtain⟨u,q1,a',q2,_,q3⟩:=E.slot k _ e1;rw[e2] at q1;cases q1
   cases q2
   exact Ul (q3.mut b e3)
  rcases VD h1 with⟨ek,e1,_⟩|⟨nk,e1⟩
  ·rcases VD h2 with⟨ej,e2,_⟩|⟨nj,e2⟩
   ·rw[ek,ej]
   ·subst ek;rw[Kg hiσ] at h3;rw[JM nj] at h4;obtain⟨o,ho⟩:=old j es a' b e2 h4 h6;rw[fresh ds a b (isown ds (Ya e1)) (Ya (Ya h3)) h5] at ho;cases ho
  ·rcases VD h2 with⟨ej,e2,_⟩|⟨nj,e2⟩
   ·subst ej;rw[Kg hiσ] at h4;rw[JM nk] at h3;obtain⟨o,ho⟩:=old k ds a b e1 h3 h5;rw[fresh es a' b (isown es (Ya e2)) (Ya (Ya h4)) h6] at ho;cases ho
   ·rw[JM nk] at h3;rw[JM nj] at h4;exact E.own k j a a' ds es b e1 e2 h3 h4 h5 h6
 ·rcases VD hk with⟨ek,e1,_⟩|⟨nk,e1⟩
  ·subst ek
   have:u=s':=(Ya e1).symm
   subst this;refine⟨v,Kg hiσ,?_⟩;cases s with
   | own ds=>
    cases e
    obtain⟨a,rfl,e0,r⟩:=h;refine⟨a,rfl,fun b hb=>E.same.free (e0 b hb),r.mono (Vy (Same.refl _) fun b o _ z y=>?_) fun _ _ _ q=>q⟩;rcases hown b y with y|⟨_,_,y1,y,y2⟩
    ·exact z (.inl y)
    ·cases y;cases y1;exact z (.inr y2)
   | sh d=>
    cases e
    refine Rp.mono (Vy (Same.refl _) fun b o _ z y=>?_) h;rcases hown b y with y|⟨_,_,y,_⟩
    ·exact z y
    ·cases y
   | bor d=>cases e;exact h
   | view d=>cases e
   | tmp d=>
    unfold S.slot at e;cases q:imm d with
    | false=>simp[q] at e
    | true=>
     simp[q] at e;subst e;refine Rp.off (fun b y=>?_) h q;rcases hown b y with y|⟨_,_,y,_⟩
     ·exact Uc S1 (E.zm b y)
     ·cases y
  ·obtain⟨w,q1,q2⟩:=E.slot k u e1;refine⟨w,by rw[JM nk];exact q1,?_⟩;cases u with
   | bor d=>exact q2
   | sh d=>exact Rp.mono So q2
   | own ds=>
    obtain⟨a,e1,e3,e4⟩:=q2;exact⟨a,e1,e3,e4.mono So fun b _ x=>S1 b x⟩
   | view ds=>exact q2
   | tmp d=>exact q2
def frz (i:Nat) (γ:Γ):Γ:=match γ[i]? with
 | some (some (.own o))=>γ.set i (some (.sh o.d))
 | _=>γ
def EnvR.frz (E:EnvR K H0 B H σ γ) (hB:∀b,B b->∃o,H0 b=some o) (i:Nat):EnvR K H0 B H σ (frz i γ)/\Fr B H σ γ H σ (Pu.frz i γ):=by
 unfold Pu.frz;split
 ·rename_i ds hi;have hlt:i<γ.length:=(Yo.mp hi).1
  have hz:∀b,zof B (γ.set i (some (.sh ds.d))) σ b->zof B γ σ b:=fun b z=>z.imp id fun⟨j,es,a,h1,h2,h3⟩=>by
   rcases VD h1 with⟨_,e,_⟩|⟨_,e⟩
   ·cases e
   ·exact⟨j,es,a,e,h2,h3⟩
  have S1:Same (Pu.off (zof B γ σ) H) (Pu.off (zof B (γ.set i (some (.sh ds.d))) σ) H):=Vy (Same.refl _) fun b _ _ z y=>z (hz b y);refine⟨⟨E.same,by rw[YE];exact E.len,E.bm,fun k j a a' es es' b h1 h2=>?_,fun k s h=>?_⟩,fun b o h z=>⟨h,fun y=>z (hz b y)⟩⟩
  ·rcases VD h1 with⟨_,e,_⟩|⟨_,e1⟩
   ·cases e
   ·rcases VD h2 with⟨_,e,_⟩|⟨_,e2⟩
    ·cases e
    ·exact E.own k j a a' es es' b e1 e2
  ·rcases VD h with⟨ek,e,_⟩|⟨nk,e⟩
   ·subst ek
    have:=Ya e
    subst this;obtain⟨v,h1,a,rfl,h3,h4⟩:=E.slot k _ hi;refine⟨_,h1,h4.rpIn S1 fun b hb x h2=>VM h2 fun z=>?_⟩;rcases z with z|⟨j,es,a',e1,e2,e3⟩
    ·obtain⟨o,ho⟩:=hB b z;rw[h3 b hb] at ho;cases ho
    ·rcases VD e1 with⟨_,q,_⟩|⟨nj,q⟩
     ·cases q
     ·exact nj (E.own j k a' a es ds b q hi e2 h1 e3 hb)
   ·obtain⟨v,h1,h2⟩:=E.slot k s e;refine⟨v,h1,?_⟩;cases s with
    | bor d=>exact h2
    | sh d=>exact Rp.mono S1 h2
    | own ds=>
     obtain⟨a,e1,e3,e4⟩:=h2;exact⟨a,e1,e3,e4.mono S1 fun _ _ _ q=>q⟩
    | view ds=>exact h2
    | tmp d=>exact h2
 ·exact⟨E,Fr.refl⟩
def EnvR.change {i:Nat}{a:Addr}{o o':O} (E:EnvR K H0 B H σ γ) (hi:γ[i]?=some (some (.own o))) (ha:σ[i]?=some (some (.ref a)))
  (hH:∀b x,H b=some x->¬o.adr a b->H' b=some x) (hm:∀b,o.adr a b->Mut (H' b)) (hadr:∀b,o'.adr a b->o.adr a b\/H b=none) (r:OR K (Pu.off (zof B (γ.set i (some (.own o'))) σ) H') H' a o') :
  EnvR K H0 B H' σ (γ.set i (some (.own o')))/\Fr B H σ γ H' σ (γ.set i (some (.own o'))):=by
 have hlt:i<γ.length:=(Yo.mp hi).1;obtain⟨v,h1,a',rfl,h3,h4⟩:=E.slot i _ hi;rw[ha] at h1;cases h1
 have za:∀b,o.adr a b->zof B γ σ b:=fun b hb=>.inr ⟨i,o,a,hi,ha,hb⟩
 have hz:∀b x,H b=some x->zof B (γ.set i (some (.own o'))) σ b->zof B γ σ b:=fun b x hx z=>by
  rcases z with z|⟨j,fs,a',e1,e2,e3⟩
  ·exact .inl z
  ·rcases VD e1 with⟨ej,q,_⟩|⟨_,e⟩
   ·subst ej;cases q
    rw[ha] at e2;cases e2
    rcases hadr b e3 with k|k
    ·exact za b k
    ·rw[k] at hx;cases hx
   ·exact .inr ⟨j,fs,a',e,e2,e3⟩
 have S1:Same (Pu.off (zof B γ σ) H) (Pu.off (zof B (γ.set i (some (.own o'))) σ) H'):=fun b x h=>by
  obtain⟨q1,q2⟩:=JF h;exact VM (hH b x q1 fun k=>q2 (za b k)) fun z=>q2 (hz b x q1 z)
 have old:∀(k:Nat) (ds:O) (a b:Addr),γ[k]?=some (some (.own ds))->σ[k]?=some (some (.ref a))->ds.adr a b->∃o,H b=some o:=fun k ds a b e1 e2 e3=>by
  obtain⟨u,q1,a',q2,_,q3⟩:=E.slot k _ e1;rw[e2] at q1;cases q1
  cases q2
  exact Ul (q3.mut b e3)
 refine⟨⟨fun b x h=>?_,by rw[YE];exact E.len,fun b hb=>?_,fun k j x x' fs fs' b e1 e2 e3 e4 e5 e6=>?_,fun k s h=>?_⟩,fun b x h z=>⟨?_,fun y=>z (hz b x h y)⟩⟩
 ·exact hH b x (E.same b x h) fun k=>by rw[h3 b k] at h;cases h
 ·by_cases k:o.adr a b
  ·exact hm b k
  ·have:=E.bm b hb
   obtain⟨x,hx⟩:=Ul this;rw[hH b x hx k,←hx];exact this
 ·rcases VD e1 with⟨ek,q1,_⟩|⟨nk,q1⟩
  ·rcases VD e2 with⟨ej,_,_⟩|⟨nj,q2⟩
   ·rw[ek,ej]
   ·subst ek;cases q1
    rw[ha] at e3;cases e3
    rcases hadr b e5 with w|w
    ·exact E.own k j _ _ _ _ b hi q2 ha e4 w e6
    ·obtain⟨u,hu⟩:=old j fs' x' b q2 e4 e6;rw[w] at hu;cases hu
  ·rcases VD e2 with⟨ej,q2,_⟩|⟨nj,q2⟩
   ·subst ej;cases q2
    rw[ha] at e4;cases e4
    rcases hadr b e6 with w|w
    ·exact E.own k j _ _ _ _ b q1 hi e3 ha e5 w
    ·obtain⟨u,hu⟩:=old k fs x b q1 e3 e5;rw[w] at hu;cases hu
   ·exact E.own k j x x' fs fs' b q1 q2 e3 e4 e5 e6
 ·rcases VD h with⟨ek,e,_⟩|⟨nk,e⟩
  ·subst ek
   have:=Ya e
   subst this;exact⟨_,ha,a,rfl,fun b hb=>(hadr b hb).elim (h3 b) fun w=>E.same.free w,r⟩
  ·obtain⟨v,q1,q2⟩:=E.slot k s e;refine⟨v,q1,?_⟩;cases s with
   | bor d=>exact q2
   | sh d=>exact Rp.mono S1 q2
   | own fs=>
    obtain⟨x,rfl,e3,e4⟩:=q2;exact⟨x,rfl,e3,e4.mono S1 fun b hb y e2=>hH b y e2 fun w=>nk (E.own k i x a fs o b e hi q1 ha hb w)⟩
   | view ds=>exact q2
   | tmp d=>exact q2
 ·exact hH b x h fun k=>z (za b k)
def EnvR.mutate {i:Nat}{a:Addr}{ds es:O}{us:HO} (E:EnvR K H0 B H σ γ) (hi:γ[i]?=some (some (.own ds))) (ha:σ[i]?=some (some (.ref a))) (hu:Mut (some us)) (r:∀F H':Hp,Same (Pu.off (zof B γ σ) H) F->H' a=some us->OR K F H' a es)
  (k1:ds.adr a=fun b=>b=a:=by rfl) (k2:es.adr a=fun b=>b=a:=by rfl) :
  EnvR K H0 B (upd H a us) σ (γ.set i (some (.own es)))/\Fr B H σ γ (upd H a us) σ (γ.set i (some (.own es))):=by
 refine E.change (o:=ds) (o':=es) hi ha (fun b x h n=>by rw[V1 (fun z=>n (by rw[k1];exact z))];exact h) (fun b h=>by rw[k1] at h;rw[show b=a from h,VQ];exact hu) (fun b h=>.inl (by rw[k1];rw[k2] at h;exact h)) (r _ _ ?_ VQ)
 intro b x h;obtain⟨q1,q2⟩:=JF h;have nb:b≠a:=fun z=>q2 (.inr ⟨i,ds,a,hi,ha,by rw[k1];exact z⟩);refine VM (by rw[V1 nb];exact q1) fun z=>q2 ?_;rcases z with z|⟨j,fs,a',e1,e2,e3⟩
 ·exact .inl z
 ·rcases VD e1 with⟨ej,q,_⟩|⟨_,e⟩
  ·subst ej;cases q
   rw[ha] at e2;cases e2
   rw[k2] at e3;exact absurd e3 nb
  ·exact .inr ⟨j,fs,a',e,e2,e3⟩
end
end Pu
namespace Pu
open PySem PySem.Spec PyProof.Rows L2 Own
abbrev XR:=Str->Prop
abbrev PTE:=Γ->(S->Prop)->XR->Prop
abbrev PTT:=Γ->(Bool->Prop)->XR->Prop
abbrev PTA:=Γ->(List S->Prop)->XR->Prop
abbrev PTO:=Γ->(Option Int->Prop)->XR->Prop
structure PEnds where
 nx:Γ->Prop
 rt:S->Prop
 ex:Γ->Str->Prop
 bk:Γ->Prop:=fun _=>False
 ct:Γ->Prop:=fun _=>False
 rv:Γ->D->Prop:=fun _ _=>False
abbrev PTS:=PEnds->Γ->Prop
abbrev PTG:=S->Γ->(Γ->Prop)->Prop
abbrev PTGs:=List S->Γ->(Γ->Prop)->Prop
inductive TVs (K:Za) (Z:Addr->Prop) (H0 H H':Hp):List S->List V->Prop
 | nil:TVs K Z H0 H H' [] []
 | cons {s:S} {v:V} {ss:List S} {vs:List V}:TV K Z H0 H H' s v->TVs K Z H0 H H' ss vs->TVs K Z H0 H H' (s::ss) (v::vs)
section
variable (K:Za) (mg:Str->Option Value) (E:L2.St->XK)
def SndE (t:TE) (p:PTE):Prop:=∀(H0:Hp) (B:Addr->Prop) (H:Hp) (σ:L2.St) (γ:Γ) (R:S->Prop) (X:XR) (Q:VK),EnvR K H0 B H σ γ->p γ R X->
 (∀s v H',R s->Same H H'->TV K (zof B γ σ) H0 H H' s v->Q v H')->(∀c H',X c->Same H H'->E σ (.ref (ExcR.Vb mg c)) none H')->t σ H Q
def SndT (t:TT) (p:PTT):Prop:=∀(H0:Hp) (B:Addr->Prop) (H:Hp) (σ:L2.St) (γ:Γ) (R:Bool->Prop) (X:XR) (Q:Bool->Hp->Prop),EnvR K H0 B H σ γ->p γ R X->
 (∀b H',R b->Same H H'->Q b H')->(∀c H',X c->Same H H'->E σ (.ref (ExcR.Vb mg c)) none H')->t σ H Q
def SndA (t:TA) (p:PTA):Prop:=∀(H0:Hp) (B:Addr->Prop) (H:Hp) (σ:L2.St) (γ:Γ) (R:List S->Prop) (X:XR) (Q:List V->Hp->Prop),EnvR K H0 B H σ γ->p γ R X->
 (∀ss vs H',R ss->Same H H'->TVs K (zof B γ σ) H0 H H' ss vs->Q vs H')->(∀c H',X c->Same H H'->E σ (.ref (ExcR.Vb mg c)) none H')->t σ H Q
def SndO (t:TO) (p:PTO):Prop:=∀(H0:Hp) (B:Addr->Prop) (H:Hp) (σ:L2.St) (γ:Γ) (R:Option Int->Prop) (X:XR) (Q:Option Int->Hp->Prop),EnvR K H0 B H σ γ->p γ R X->
 (∀o H',R o->Same H H'->Q o H')->(∀c H',X c->Same H H'->E σ (.ref (ExcR.Vb mg c)) none H')->t σ H Q
structure EndR (H0:Hp) (B:Addr->Prop) (H:Hp) (σ:L2.St) (γ:Γ) (R:PEnds) (D:Ends):Prop where
 nx:∀σ' γ' H',R.nx γ'->EnvR K H0 B H' σ' γ'->Fr B H σ γ H' σ' γ'->D.nx σ' H'
 rt:∀s v H',R.rt s->Same H0 H'->TV K B H0 H0 H' s v->D.rt v H'
 ex:∀σ' γ' c H',R.ex γ' c->EnvR K H0 B H' σ' γ'->Fr B H σ γ H' σ' γ'->E σ' (.ref (ExcR.Vb mg c)) none H'
 bk:∀σ' γ' H',R.bk γ'->EnvR K H0 B H' σ' γ'->Fr B H σ γ H' σ' γ'->D.bk σ' H'
 ct:∀σ' γ' H',R.ct γ'->EnvR K H0 B H' σ' γ'->Fr B H σ γ H' σ' γ'->D.ct σ' H'
 rv:∀σ' γ' d v H',R.rv γ' d->EnvR K H0 B H' σ' γ'->Fr B H σ γ H' σ' γ'->Rp K (off (zof B γ' σ') H') d v->D.rt v H'
def SndS (t:TS) (p:PTS):Prop:=∀(H0:Hp) (B:Addr->Prop) (H:Hp) (σ:L2.St) (γ:Γ) (R:PEnds) (D:Ends),(∀b,B b->∃o,H0 b=some o)->EnvR K H0 B H σ γ->p R γ->EndR K mg E H0 B H σ γ R D->t D σ H
end
section
variable {K:Za}{mg:Str->Option Value}{E:L2.St->XK}{H0 H H1 H':Hp}{B Z Z':Addr->Prop}{σ:L2.St}{γ:Γ}
def TVs.weakG {H1 H2:Hp}:∀{ss:List S}{vs:List V},Same H H1->TVs K Z H0 H1 H2 ss vs->TVs K Z H0 H H2 ss vs
 | _,_,_,.nil=>.nil
 | _,_,S1,.cons h r=>.cons (TV.weak S1 (fun _ z=>z) h) (TVs.weakG S1 r)
def TVs.rps (h0:Same H0 H'):∀{ss:List S}{vs:List V},TVs K Z H0 H H' ss vs->Rps K H' (ss.map S.d) vs
 | _,_,.nil=>.nil
 | _,_,.cons h r=>.cons (h.rp h0) (TVs.rps h0 r)
def TVs.shd {ds:List D} (h0:Same H0 H') (hm:∀b,Z b->Mut (H b)) (S1:Same H H'):∀{ss:List S}{vs:List V}{ds:List D},TVs K Z H0 H H' ss vs->ss.map S.shd=ds.map some->Rps K (off Z H') ds vs
 | _,_,[],.nil,_=>.nil
 | _,_,_::_,.nil,e=>by cases e
 | _,_,[],.cons _ _,e=>by cases e
 | _,_,d::ds,.cons h r,e=>by
  rw[Yy,Yy,List.cons.injEq] at e;exact .cons (h.shd h0 hm S1 e.1) (TVs.shd (ds:=ds) h0 hm S1 r e.2)
def Rp.int_inv {i:Int}{v:V} (h:Rp K H (.int i) v):v=.int i:=by cases h;rfl
def Rp.bl_inv {b:Bool}{v:V} (h:Rp K H (.bl b) v):v=.bl b:=by cases h;rfl
def Rp.str_inv {x:Str}{v:V} (h:Rp K H (.str x) v):v=.str x:=by cases h;rfl
def Rp.non_inv {v:V} (h:Rp K H .non v):v=.non:=by cases h;rfl
def Rp.ty_inv {n:String}{v:V} (h:Rp K H (.ty n) v):v=.ty n:=by cases h;rfl
def pVar (i:Nat):PTE:=fun γ R _=>match γ[i]? with
 | some (some (.own ds))=>R (.view ds)
 | some (some s)=>R s
 | _=>False
def Va (i:Nat):SndE K mg E (tVar i) (pVar i):=by
 intro H0 B H σ γ R X Q env h q _;unfold pVar at h;split at h
 ·rename_i ds e;obtain⟨v,h1,a,rfl,h3,h4⟩:=env.slot i _ e;exact⟨_,h1,q _ _ H h (Same.refl _) ⟨a,rfl,h4⟩⟩
 ·rename_i s ns e;obtain⟨v,h1,h2⟩:=env.slot i _ e;refine⟨v,h1,q _ _ H h (Same.refl _) ?_⟩;cases s with
  | bor d=>exact h2
  | sh d=>exact h2
  | own ds=>exact absurd rfl (ns ds)
  | view ds=>exact h2.elim
  | tmp d=>exact h2.elim
 ·exact h.elim
def pC (d:D):PTE:=fun _ R _=>R (.sh d)
def se_c {d:D}{v:V} (h:∀H,Rp K H d v):SndE K mg E (tC v) (pC d):=by
 intro H0 B H σ γ R X Q env p q _;exact q _ _ H p (Same.refl _) (h _)
def Vc {i:Int}:SndE K mg E (tC (.int i)) (pC (.int i)):=se_c fun _=>.int i
def VI {b:Bool}:SndE K mg E (tC (.bl b)) (pC (.bl b)):=se_c fun _=>.bl b
def VA {x:Str}:SndE K mg E (tC (.str x)) (pC (.str x)):=se_c fun _=>.str x
def Ua {n:String}:SndE K mg E (tC (.ty n)) (pC (.ty n)):=se_c fun _=>.ty n
def p2 (a b:PTE) (f:S->S->(S->Prop)->Prop):PTE:=fun γ R X=>a γ (fun x=>b γ (fun y=>f x y R) X) X
def se_2 {r:R2}{ta tb:TE}{a b:PTE}{f:S->S->(S->Prop)->Prop} (ha:SndE K mg E ta a) (hb:SndE K mg E tb b)
  (hr:∀(H0 H H2:Hp) (Z:Addr->Prop) (x y:S) (v u:V) (R:S->Prop) (Q:VK),Same H0 H2->Same H H2->(∀b,Z b->Mut (H b))->TV K Z H0 H H2 x v->TV K Z H0 H H2 y u->f x y R->(∀s z H',R s->Same H2 H'->TV K Z H0 H H' s z->Q z H')->r v u H2 Q) :
  SndE K mg E (tOp r ta tb) (p2 a b f):=by
 intro H0 B H σ γ R X Q env p q qx;refine ha H0 B H σ γ _ X _ env p (fun x v H1 h1 S1 t1=>?_) qx;have env1:=env.grow S1;refine hb H0 B H1 σ γ _ X _ env1 h1 (fun y u H2 h2 S2 t2=>?_) fun c H' hc S'=>qx c H' hc (S1.trans S');exact hr H0 H H2 _ x y v u R Q (env1.same.trans S2) (S1.trans S2) env.zm (t1.grow S2) (TV.weak S1 (fun _ z=>z) t2) h2 fun s z H' hs S3 t3=>q s z H' hs ((S1.trans S2).trans S3) t3
def fI0 (g:Int->Int->D):S->S->(S->Prop)->Prop:=fun x y R=>match x.d,y.d with
 | .int i,.int j=>R (.sh (g i j))
 | _,_=>False
def fI (C:Int->Int->Prop) (g:Int->Int->D):S->S->(S->Prop)->Prop:=fun x y R=>match x.d,y.d with
 | .int i,.int j=>C i j/\R (.sh (g i j))
 | _,_=>False
def XD {g:Int->Int->V}{g':Int->Int->D}{ta tb:TE}{a b:PTE} (hg:∀H i j,Rp K H (g' i j) (g i j)) (ha:SndE K mg E ta a) (hb:SndE K mg E tb b):SndE K mg E (tOp (rI0 g) ta tb) (p2 a b (fI0 g')):=by
 refine se_2 ha hb fun H0 H H2 Z x y v u R Q s0 s1 hm tx ty h q=>?_;unfold fI0 at h;have rx:=tx.rp s0;have ry:=ty.rp s0;split at h
 ·rename_i i j e1 e2;rw[e1] at rx;rw[e2] at ry;exact⟨i,j,rx.int_inv,ry.int_inv,q _ _ H2 h (Same.refl _) (hg _ i j)⟩
 ·exact h.elim
def se_I {C:Int->Int->Prop}{g:Int->Int->V}{g':Int->Int->D}{ta tb:TE}{a b:PTE} (hg:∀H i j,Rp K H (g' i j) (g i j)) (ha:SndE K mg E ta a) (hb:SndE K mg E tb b):SndE K mg E (tOp (rI C g) ta tb) (p2 a b (fI C g')):=by
 refine se_2 ha hb fun H0 H H2 Z x y v u R Q s0 s1 hm tx ty h q=>?_;unfold fI at h;have rx:=tx.rp s0;have ry:=ty.rp s0;split at h
 ·rename_i i j e1 e2;rw[e1] at rx;rw[e2] at ry;exact⟨i,j,rx.int_inv,ry.int_inv,h.1,q _ _ H2 h.2 (Same.refl _) (hg _ i j)⟩
 ·exact h.elim
section
variable {ta tb tc:TE}{a b c:PTE}
def VF (ha:SndE K mg E ta a) (hb:SndE K mg E tb b):SndE K mg E (tOp (rI0 fun i j=>.int (i+j)) ta tb) (p2 a b (fI0 fun i j=>.int (i+j))):=XD (fun _ _ _=>.int _) ha hb
def Jp (ha:SndE K mg E ta a) (hb:SndE K mg E tb b):SndE K mg E (tOp (rI0 fun i j=>.int (i-j)) ta tb) (p2 a b (fI0 fun i j=>.int (i-j))):=XD (fun _ _ _=>.int _) ha hb
def Xw (ha:SndE K mg E ta a) (hb:SndE K mg E tb b):SndE K mg E (tOp (rI CMul fun i j=>.int (i*j)) ta tb) (p2 a b (fI CMul fun i j=>.int (i*j))):=se_I (fun _ _ _=>.int _) ha hb
def VR (ha:SndE K mg E ta a) (hb:SndE K mg E tb b):SndE K mg E (tOp (rI CDiv fun i j=>.int (i / j)) ta tb) (p2 a b (fI CDiv fun i j=>.int (i / j))):=se_I (fun _ _ _=>.int _) ha hb
def V5 (ha:SndE K mg E ta a) (hb:SndE K mg E tb b):SndE K mg E (tOp (rI (fun _ j=>0<j) fun i j=>.int (i % j)) ta tb) (p2 a b (fI (fun _ j=>0<j) fun i j=>.int (i % j))):=se_I (fun _ _ _=>.int _) ha hb
def XN (ha:SndE K mg E ta a) (hb:SndE K mg E tb b):SndE K mg E (tOp (rI CPow fun i j=>.int (i ^ j.toNat)) ta tb) (p2 a b (fI CPow fun i j=>.int (i ^ j.toNat))):=se_I (fun _ _ _=>.int _) ha hb
def Ju (ha:SndE K mg E ta a) (hb:SndE K mg E tb b):SndE K mg E (tOp (rI0 fun i j=>.bl (decide (i<j))) ta tb) (p2 a b (fI0 fun i j=>.bl (decide (i<j)))):=XD (fun _ _ _=>.bl _) ha hb
def JQ (ha:SndE K mg E ta a) (hb:SndE K mg E tb b):SndE K mg E (tOp (rI0 fun i j=>.bl (decide (j<i))) ta tb) (p2 a b (fI0 fun i j=>.bl (decide (j<i)))):=XD (fun _ _ _=>.bl _) ha hb
def Xn (ha:SndE K mg E ta a) (hb:SndE K mg E tb b):SndE K mg E (tOp (rI0 fun i j=>.bl (decide (j<=i))) ta tb) (p2 a b (fI0 fun i j=>.bl (decide (j<=i)))):=XD (fun _ _ _=>.bl _) ha hb
def fEq (neg:Bool):S->S->(S->Prop)->Prop:=fun x y R=>match x.d,y.d with
 | .int i,.int j=>R (.sh (.bl (if neg then !decide (i=j) else decide (i=j))))
 | .str i,.str j=>R (.sh (.bl (if neg then !decide (i=j) else decide (i=j))))
 | .bl i,.bl j=>R (.sh (.bl (if neg then !decide (i=j) else decide (i=j))))
 | _,_=>False
def Xa {α β:Type} [DecidableEq α] [DecidableEq β] {f:α->β} (hf:∀a b,f a=f b->a=b) (a b:α):decide (f a=f b)=decide (a=b):=by
 by_cases e:a=b
 ·rw[ZT e,ZT (Y0 f e)]
 ·rw[Yk e,Yk fun z=>e (hf a b z)]
def fIx:S->S->(S->Prop)->Prop:=fun x y R=>match x.d,y.d with
 | .lst ds,.int k=>∃d,atI ds k=some d/\R (x.sub d)
 | .tup ds,.int k=>∃d,atI ds k=some d/\R (x.sub d)
 | .scr ns,.int k=>∃i,atI ns k=some i/\R (.sh (.int i))
 | _,_=>False
def BQ {ds:List D}{vs:List V}{k:Int}{d:D}{P:D->V->Prop} (hl:vs.length=ds.length) (h:∀(i:Nat) d,ds[i]?=some d->∃u,vs[i]?=some u/\P d u) (e:atI ds k=some d):∃u,atI vs k=some u/\P d u:=by
 unfold atI at e ⊢;rw[hl];cases q:ixN ds.length k with
 | none=>rw[q] at e;cases e
 | some j=>
  rw[q] at e;exact h j d e
def Ve (ha:SndE K mg E ta a) (hb:SndE K mg E tb b):SndE K mg E (tOp (fun x y H Q=>rIxL K x y H Q\/rIxT K x y H Q) ta tb) (p2 a b fIx):=by
 refine se_2 ha hb fun H0 H H2 Z x y v u R Q s0 s1 hm tx ty h q=>?_;unfold fIx at h;have ry:=ty.rp s0;obtain⟨pl,pt⟩:=tx.part s0 hm s1;split at h
 ·rename_i ds k e1 e2;rw[e2] at ry;obtain⟨d,hd,hR⟩:=h;obtain⟨l,vs,rfl,hl,hn,hp⟩:=pl ds e1;obtain⟨z,hz,tz⟩:=BQ hn hp hd;exact .inl ⟨l,vs,k,z,rfl,ry.int_inv,SqL.of hl,hz,q _ _ H2 hR (Same.refl _) tz⟩
 ·rename_i ds k e1 e2;rw[e2] at ry;obtain⟨d,hd,hR⟩:=h;obtain⟨l,vs,rfl,hl,hn,hp⟩:=pt ds e1;obtain⟨z,hz,tz⟩:=BQ hn hp hd;exact .inr ⟨l,vs,k,z,rfl,ry.int_inv,SqT.of hl,hz,q _ _ H2 hR (Same.refl _) tz⟩
 ·rename_i ns k e1 e2;rw[e2] at ry;obtain⟨i,hi,hR⟩:=h;have rx:=tx.rp s0;rw[e1] at rx;cases rx with
  | scr hs=>exact .inl ⟨_,_,k,.int i,rfl,ry.int_inv,hs,Ke hi,q _ _ H2 hR (Same.refl _) (.int i)⟩
 ·exact h.elim
def E6 (a b:PTE):PTE:=fun γ R X=>a γ (fun x=>match x.d with | .bl c=>if c=true then b γ R X else R (.sh (.bl false))|_=>False) X
def GH (a:PTE):PTE:=fun γ R X=>a γ (fun x=>match x.d with | .bl c=>R (.sh (.bl (!c)))|_=>False) X
def Ku (ha:SndE K mg E ta a) (hb:SndE K mg E tb b):SndE K mg E (SU ta tb) (E6 a b):=by
 intro H0 B H σ γ R X Q env p q qx;refine ha H0 B H σ γ _ X _ env p (fun x v H1 h1 S1 t1=>?_) qx;have env1:=env.grow S1;have rx:=t1.rp env1.same;split at h1
 ·rename_i c e1;rw[e1] at rx;refine⟨c,rx.bl_inv,?_⟩;split at h1
  ·rename_i hc;rw[ZV hc];exact hb H0 B H1 σ γ _ X _ env1 h1 (fun y u H2 h2 S2 t2=>q y u H2 h2 (S1.trans S2) (TV.weak S1 (fun _ z=>z) t2)) fun c H' hc S'=>qx c H' hc (S1.trans S')
  ·rename_i hc;rw[ZU hc];exact q _ _ H1 h1 S1 (.bl _)
 ·exact h1.elim
def Es (ha:SndE K mg E ta a):SndE K mg E (N6 ta) (GH a):=by
 intro H0 B H σ γ R X Q env p q qx;refine ha H0 B H σ γ _ X _ env p (fun x v H1 h1 S1 t1=>?_) qx;have rx:=t1.rp (env.grow S1).same;split at h1
 ·rename_i c e1;rw[e1] at rx;exact⟨c,rx.bl_inv,q _ _ H1 h1 S1 (.bl _)⟩
 ·exact h1.elim
def pNeg (a:PTE):PTE:=fun γ R X=>a γ (fun x=>match x.d with | .int i=>R (.sh (.int (-i)))|_=>False) X
def JR (ha:SndE K mg E ta a):SndE K mg E (tUn (rU fun i=>.int (-i)) ta) (pNeg a):=by
 intro H0 B H σ γ R X Q env p q qx;refine ha H0 B H σ γ _ X _ env p (fun x v H1 h1 S1 t1=>?_) qx;have rx:=t1.rp (env.grow S1).same;split at h1
 ·rename_i c e1;rw[e1] at rx;exact⟨c,rx.int_inv,q _ _ H1 h1 S1 (.int _)⟩
 ·exact h1.elim
def Ew (a:PTE):PTT:=fun γ R X=>a γ (fun x=>match x.d with | .bl c=>R c|_=>False) X
def Vl (ha:SndE K mg E ta a):SndT K mg E (Kw ta) (Ew a):=by
 intro H0 B H σ γ R X Q env p q qx;refine ha H0 B H σ γ _ X _ env p (fun x v H1 h1 S1 t1=>?_) qx;have rx:=t1.rp (env.grow S1).same;split at h1
 ·rename_i c e1;rw[e1] at rx;exact⟨c,rx.bl_inv,q _ H1 h1 S1⟩
 ·exact h1.elim
variable {sa sb:TT}{pa pb:PTT}
def pAnd (a b:PTT):PTT:=fun γ R X=>a γ (fun c=>if c=true then b γ R X else R false) X
def pOr (a b:PTT):PTT:=fun γ R X=>a γ (fun c=>if c=true then R true else b γ R X) X
def pNot (a:PTT):PTT:=fun γ R X=>a γ (fun c=>R (!c)) X
def Sn (ha:SndT K mg E sa pa) (hb:SndT K mg E sb pb):SndT K mg E (tAnd sa sb) (pAnd pa pb):=by
 intro H0 B H σ γ R X Q env p q qx;refine ha H0 B H σ γ _ X _ env p (fun c H1 h1 S1=>?_) qx;split at h1
 ·rename_i hc;rw[ZV hc];exact hb H0 B H1 σ γ _ X _ (env.grow S1) h1 (fun y H2 h2 S2=>q y H2 h2 (S1.trans S2)) fun c H' hc S'=>qx c H' hc (S1.trans S')
 ·rename_i hc;rw[ZU hc];exact q _ H1 h1 S1
def VV (ha:SndT K mg E sa pa) (hb:SndT K mg E sb pb):SndT K mg E (tOr sa sb) (pOr pa pb):=by
 intro H0 B H σ γ R X Q env p q qx;refine ha H0 B H σ γ _ X _ env p (fun c H1 h1 S1=>?_) qx;split at h1
 ·rename_i hc;rw[ZV hc];exact q _ H1 h1 S1
 ·rename_i hc;rw[ZU hc];exact hb H0 B H1 σ γ _ X _ (env.grow S1) h1 (fun y H2 h2 S2=>q y H2 h2 (S1.trans S2)) fun c H' hc S'=>qx c H' hc (S1.trans S')
def Jg (ha:SndT K mg E sa pa):SndT K mg E (tNot sa) (pNot pa):=by
 intro H0 B H σ γ R X Q env p q qx;exact ha H0 B H σ γ _ X _ env p (fun c H1 h1 S1=>q _ H1 h1 S1) qx
end
def pNil:PTA:=fun _ R _=>R []
def UO (a:PTE) (r:PTA):PTA:=fun γ R X=>a γ (fun s=>r γ (fun ss=>R (s::ss)) X) X
def V2:SndA K mg E tNil pNil:=by
 intro H0 B H σ γ R X Q env p q _;exact q _ _ H p (Same.refl _) .nil
def Vt {te:TE}{ta:TA}{a:PTE}{r:PTA} (ha:SndE K mg E te a) (hr:SndA K mg E ta r):SndA K mg E (VN te ta) (UO a r):=by
 intro H0 B H σ γ R X Q env p q qx;refine ha H0 B H σ γ _ X _ env p (fun s v H1 h1 S1 t1=>?_) qx;refine hr H0 B H1 σ γ _ X _ (env.grow S1) h1 (fun ss vs H2 h2 S2 t2=>?_) fun c H' hc S'=>qx c H' hc (S1.trans S');exact q _ _ H2 h2 (S1.trans S2) (.cons (t1.grow S2) (TVs.weakG S1 t2))
def shds:List S->Option (List D)
 | []=>some []
 | s::r=>match s.shd,shds r with
  | some d,some ds=>some (d::ds)
  | _,_=>none
def KM:∀{ss:List S}{ds:List D},shds ss=some ds->ss.map S.shd=ds.map some
 | [],ds,h=>by cases h;rfl
 | s::r,ds,h=>by
  unfold shds at h;split at h
  ·rename_i d es e1 e2;cases h
   rw[Yy,Yy,e1,KM e2]
  ·cases h
def pTup (r:PTA):PTE:=fun γ R X=>r γ (fun ss=>match shds ss with|some ds=>ds.length<=1000/\R (.sh (.tup ds))|none=>False) X
def pLst (r:PTA):PTE:=fun γ R X=>r γ (fun ss=>match shds ss with|some ds=>ds.length<=1000/\R (.own ds)|none=>False) X
def Np {n:Nat} (h:n<=1000):n<=sizeLine:=WC (Dt h)
def V8 {ta:TA}{r:PTA} (hr:SndA K mg E ta r):SndE K mg E (tTup ta) (pTup r):=by
 intro H0 B H σ γ R X Q env p q qx;refine hr H0 B H σ γ _ X _ env p (fun ss vs H1 h1 S1 t1=>?_) qx;split at h1
 ·rename_i ds e;have env1:=env.grow S1;have rp:=t1.shd (ds:=ds) env1.same env.zm S1 (KM e);refine⟨by rw[rp.len];exact Np h1.1,fun l nl=>?_⟩;have S2:=JO (o:=.tup vs) nl;refine q _ _ _ h1.2 (S1.trans S2) (.tup (VM VQ fun z=>?_) (Rps.mono (Vy S2 fun _ _ _ z=>z) rp))
  have:=env1.zm l z
  rw[nl] at this;exact this
 ·exact h1.elim
def UY {H H1:Hp}{l:Addr}{vs:List V}{ds:List D} (S1:Same H H1) (nl:H1 l=none) (rp:Rps K (off Z H1) ds vs):TV K Z H0 H (upd H1 l (.lst vs)) (.own ds) (.ref l):=
 ⟨l,rfl,(fun _ e=>e▸S1.free nl),vs,VQ,Rps.mono (Vy (JO nl) fun b o hb z y=>y.elim z fun e=>by rw[e,nl] at hb;cases hb) rp⟩
def Vu {ta:TA}{r:PTA} (hr:SndA K mg E ta r):SndE K mg E (tLst ta) (pLst r):=by
 intro H0 B H σ γ R X Q env p q qx;refine hr H0 B H σ γ _ X _ env p (fun ss vs H1 h1 S1 t1=>?_) qx;split at h1
 ·rename_i ds e;have env1:=env.grow S1;have rp:=t1.shd (ds:=ds) env1.same env.zm S1 (KM e);refine⟨by rw[rp.len];exact Np h1.1,fun l nl=>?_⟩;exact q _ _ _ h1.2 (S1.trans (JO nl)) (UY S1 nl rp)
 ·exact h1.elim
abbrev Pc:=List D->(S->Prop)->XR->Prop
def spOf (mg:Str->Option Value) (c:Pc) (K:Za):Sp:=fun vs H Q E=>∃ds R X,Rps K H ds vs/\c ds R X/\(∀s v H',R s->Same H H'->TV K (fun b=>Mut (H b)) H H H' s v->Q v H')/\∀e H',X e->Same H H'->E (.ref (ExcR.Vb mg e)) none H'
def S.back:S->S
 | .bor d=>argT d | .view o=>.tmp o.d|s=>s
def TV.back {s:S}{v:V} (env:EnvR K H0 B H1 σ γ) (S1:Same H H1) (S2:Same H1 H') (h:TV K (fun b=>Mut (H1 b)) H1 H1 H' s v):TV K (zof B γ σ) H0 H H' s.back v:=by
 cases s with
 | bor d=>exact UA (fun b z=>Uc S2 (env.zm b z)) (Rp.mono S2 h)
 | sh d=>exact Rp.mono (Vy (Same.refl _) fun b _ _ z y=>z (env.zm b y)) h
 | own ds=>
  obtain⟨a,rfl,e0,r⟩:=h;exact⟨a,rfl,(fun b hb=>S1.free (e0 b hb)),r.mono (Vy (Same.refl _) fun b _ _ z y=>z (y.imp (env.zm b) id)) fun _ _ _ q=>q⟩
 | view ds=>
  obtain⟨a,rfl,r⟩:=h;exact r.rp off_sub
 | tmp d=>exact h
def Hr (c:Pc) (r:PTA):PTE:=fun γ R X=>r γ (fun ss=>c (ss.map S.d) (fun s=>R s.back) fun _=>False) X
def As (c:Pc) (r:PTA):PTE:=fun γ R X=>r γ (fun ss=>c (ss.map S.d) (fun s=>R s.back) X) X
def Vz {c:Pc}{ta:TA}{r:PTA} (hr:SndA K mg E ta r):SndE K mg E (U4 (spOf mg c K) [] E0 ta) (Hr c r):=by
 intro H0 B H σ γ R X Q env p q qx;refine hr H0 B H σ γ _ X _ env p (fun ss vs H1 h1 S1 t1=>?_) qx;rw[Yw];have env1:=env.grow S1;exact⟨_,_,_,t1.rps env1.same,h1,fun s v H' hs S2 tv=>q _ _ H' hs (S1.trans S2) (tv.back env1 S1 S2),fun _ _ z=>z.elim⟩
def J2 {c:Pc}{ta:TA}{r:PTA}{Ec:XK} (hr:SndA K mg (fun _=>Ec) ta r):SndE K mg (fun _=>Ec) (U4 (spOf mg c K) [] Ec ta) (As c r):=by
 intro H0 B H σ γ R X Q env p q qx;refine hr H0 B H σ γ _ X _ env p (fun ss vs H1 h1 S1 t1=>?_) qx;rw[Yw];have env1:=env.grow S1;exact⟨_,_,X,t1.rps env1.same,h1,fun s v H' hs S2 tv=>q _ _ H' hs (S1.trans S2) (tv.back env1 S1 S2),fun e H' he S2=>qx e H' he (S1.trans S2)⟩
end
section
variable {K:Za}{mg:Str->Option Value}{E:L2.St->XK}{H0 H H1 H':Hp}{B Z Z':Addr->Prop}{σ:L2.St}{γ:Γ}
def EnvR.set {i:Nat}{s s':S}{v:V} (Ev:EnvR K H0 B H σ γ) (S1:Same H H') (h:TV K (zof B γ σ) H0 H H' s v) (e:s.slot=some s') :
  EnvR K H0 B H' (σ.set i (some v)) (γ.set i (some s'))/\Fr B H σ γ H' (σ.set i (some v)) (γ.set i (some s')):=by
 by_cases hi:i<γ.length
 ·exact Ev.put S1 h e hi
 ·rw[List.set_eq_of_length_le (by rw[Ev.len];omega),List.set_eq_of_length_le (by omega)];exact⟨Ev.grow S1,Fr.grow S1⟩
def Upd (is:List Nat) (σ σ':L2.St):Prop:=(∀j,j∉is->σ'[j]?=σ[j]?)/\σ'.length=σ.length
def UJ (K:Za) (is:List Nat) (t:TG) (p:PTG):Prop:=∀(H0:Hp) (B:Addr->Prop) (H H':Hp) (σ:L2.St) (γ:Γ) (s:S) (v:V) (R:Γ->Prop) (Q:L2.St->Hp->Prop),EnvR K H0 B H σ γ->Same H H'->TV K (zof B γ σ) H0 H H' s v->p s γ R->
 (∀σ' γ',R γ'->EnvR K H0 B H' σ' γ'->Fr B H σ γ H' σ' γ'->Upd is σ σ'->Q σ' H')->t v σ H' Q
def BJ (i:Nat):PTG:=fun s γ R=>match s.slot with|some s'=>R (γ.set i (some s'))|none=>False
def Vm (i:Nat):UJ K [i] (Xp i) (BJ i):=by
 intro H0 B H H' σ γ s v R Q env S1 tv p q;unfold BJ at p;split at p
 ·rename_i s' e;obtain⟨e1,f1⟩:=env.set (i:=i) S1 tv e;exact q _ _ p e1 f1 ⟨fun j hj=>JM fun z=>hj (by rw[z];exact Yb.mpr rfl),YE⟩
 ·exact p.elim
def EA:PTGs:=fun ss γ R=>match ss with|[]=>R γ|_=>False
def A3 (g:PTG) (r:PTGs):PTGs:=fun ss γ R=>match ss with|s::t=>g s γ fun γ'=>r t γ' R|[]=>False
def TV.notown {s:S}{v:V}{σ':L2.St}{γ':Γ}{Hb:Hp} (f:Fr B H σ γ H' σ' γ') (hb:Same H H') (n:∀ds,s≠.own ds) (nv:∀ds,s≠.view ds) (h:TV K (zof B γ σ) H0 Hb H s v):TV K (zof B γ' σ') H0 H' H' s v:=by
 cases s with
 | bor d=>exact h
 | sh d=>exact Rp.mono f.off h
 | own ds=>exact absurd rfl (n ds)
 | view ds=>exact absurd rfl (nv ds)
 | tmp d=>exact Rp.mono hb h
def TVs.notown {σ':L2.St}{γ':Γ}{Hb:Hp} (f:Fr B H σ γ H σ' γ'):∀{ss:List S}{vs:List V},(∀s∈ss,∀ds,s≠.own ds/\s≠.view ds)->TVs K (zof B γ σ) H0 Hb H ss vs->TVs K (zof B γ' σ') H0 H H ss vs
 | _,_,_,.nil=>.nil
 | _,_,n,.cons h r=>.cons (h.notown f (Same.refl _) (fun ds=>(n _ YB ds).1) fun ds=>(n _ YB ds).2) (TVs.notown f (fun s hs=>n s (Yt _ hs)) r)
def TX (d:D):arg d=.sh d\/arg d=.bor d:=by unfold arg;cases imm d<;>simp
def Nf (d:D):argT d=.sh d\/argT d=.tmp d:=by unfold argT;cases imm d<;>simp
def SX (s:S) (d:D):∀ds,s.sub d≠.own ds/\s.sub d≠.view ds:=fun ds=>by
 cases s with
 | bor b=>rcases TX d with e|e<;>(show arg d≠_/\arg d≠_;rw[e];exact⟨(fun z=>by cases z),(fun z=>by cases z)⟩)
 | tmp b=>rcases Nf d with e|e<;>(show argT d≠_/\argT d≠_;rw[e];exact⟨(fun z=>by cases z),(fun z=>by cases z)⟩)
 | sh b=>exact⟨(fun z=>by cases z),(fun z=>by cases z)⟩
 | own b=>
  cases b with
  | nst cs=>rcases Nf d with e|e<;>(show argT d≠_/\argT d≠_;rw[e];exact⟨(fun z=>by cases z),(fun z=>by cases z)⟩)
  | _=>exact⟨(fun z=>by cases z),(fun z=>by cases z)⟩
 | view b=>
  cases b with
  | nst cs=>rcases Nf d with e|e<;>(show argT d≠_/\argT d≠_;rw[e];exact⟨(fun z=>by cases z),(fun z=>by cases z)⟩)
  | _=>exact⟨(fun z=>by cases z),(fun z=>by cases z)⟩
def Kh (K:Za) (is:List Nat) (t:TGs) (p:PTGs):Prop:=∀(H0:Hp) (B:Addr->Prop) (H:Hp) (σ:L2.St) (γ:Γ) (ss:List S) (vs:List V) (R:Γ->Prop) (Q:L2.St->Hp->Prop),EnvR K H0 B H σ γ->TVs K (zof B γ σ) H0 H H ss vs->(∀s∈ss,∀ds,s≠.own ds/\s≠.view ds)->p ss γ R->
 (∀σ' γ',R γ'->EnvR K H0 B H σ' γ'->Fr B H σ γ H σ' γ'->Upd is σ σ'->Q σ' H)->t vs σ H Q
def F6:Kh K [] gNil EA:=by
 intro H0 B H σ γ ss vs R Q env tv no p q;cases tv with
 | nil=>exact⟨rfl,q _ _ p env Fr.refl ⟨fun _ _=>rfl,rfl⟩⟩
 | cons _ _=>exact p.elim
def Fm {is js:List Nat}{g:TG}{r:TGs}{pg:PTG}{pr:PTGs} (hg:UJ K is g pg) (hr:Kh K js r pr):Kh K (is++js) (Fw g r) (A3 pg pr):=by
 intro H0 B H σ γ ss vs R Q env tv no p q;cases tv with
 | nil=>exact p.elim
 | cons h t=>
  refine⟨_,_,rfl,hg H0 B H H σ γ _ _ _ _ env (Same.refl _) h p fun σ1 γ1 p1 e1 f1 k1=>?_⟩;refine hr H0 B H σ1 γ1 _ _ _ _ e1 (TVs.notown f1 (fun s hs=>no s (Yt _ hs)) t) (fun s hs=>no s (Yt _ hs)) p1 fun σ2 γ2 p2 e2 f2 k2=>?_;exact q σ2 γ2 p2 e2 (f1.trans f2) ⟨fun j hj=>(k2.1 j fun z=>hj (Y1 _ z)).trans (k1.1 j fun z=>hj (YO _ z)),k2.2.trans k1.2⟩
def SN (n:Nat) (r:PTGs):PTG:=fun s γ R=>match s.d with | .tup ds=>ds.length=n/\r (ds.map s.sub) γ R|_=>False
def TVs.of_part {ds:List D}{s:S}:∀{vs:List V}{ds:List D},vs.length=ds.length->(∀(i:Nat) d,ds[i]?=some d->∃u,vs[i]?=some u/\TV K Z H0 H H' (s.sub d) u)->TVs K Z H0 H H' (ds.map s.sub) vs
 | [],[],_,_=>.nil
 | [],_::_,e,_=>by cases e
 | _::_,[],e,_=>by cases e
 | v::vs,d::ds,e,h=>by
  obtain⟨u,h1,h2⟩:=h 0 d rfl;cases h1
  exact .cons h2 (TVs.of_part (ds:=ds) (by simpa using e) fun i d' hd=>by simpa using h (i+1) d' (by simpa using hd))
def Ab {n:Nat}{is:List Nat}{r:TGs}{pr:PTGs} (hr:Kh K is r pr):UJ K is (gTup K n r) (SN n pr):=by
 intro H0 B H H' σ γ s v R Q env S1 tv p q;unfold SN at p;have env1:=env.grow S1;obtain⟨_,pt⟩:=tv.part env1.same env.zm S1;split at p
 ·rename_i ds e;obtain⟨a,vs,rfl,ha,hn,hp⟩:=pt ds e;refine⟨a,vs,rfl,SqT.of ha,hn.trans p.1,?_⟩;have tvs:=TVs.of_part (ds:=ds) hn hp;refine hr H0 B H' σ γ _ vs R Q env1 (TVs.notown (Fr.refl) (fun s' hs ds=>?_) tvs) (fun s' hs ds=>?_) p.2 fun σ' γ' hR e1 f1 k1=>q σ' γ' hR e1 (Fr.trans (Fr.grow S1) f1) k1
  ·obtain⟨d,_,rfl⟩:=Wq.mp hs;exact SX s d ds
  ·obtain⟨d,_,rfl⟩:=Wq.mp hs;exact SX s d ds
 ·exact p.elim
def EndR.from {R:PEnds}{D:Ends}{σ1:L2.St}{γ1:Γ} (e:EndR K mg E H0 B H σ γ R D) (f:Fr B H σ γ H1 σ1 γ1):EndR K mg E H0 B H1 σ1 γ1 R D:=
 ⟨fun σ' γ' H' h1 h2 h3=>e.nx σ' γ' H' h1 h2 (f.trans h3),e.rt,fun σ' γ' c H' h1 h2 h3=>e.ex σ' γ' c H' h1 h2 (f.trans h3),fun σ' γ' H' h1 h2 h3=>e.bk σ' γ' H' h1 h2 (f.trans h3),fun σ' γ' H' h1 h2 h3=>e.ct σ' γ' H' h1 h2 (f.trans h3),fun σ' γ' d v H' h1 h2 h3=>e.rv σ' γ' d v H' h1 h2 (f.trans h3)⟩
variable {te:TE}{a:PTE}{tt:TT}{c:PTT}{t u:TS}{p q:PTS}
def Hd:PTS:=fun R γ=>R.nx γ
def Vp:SndS K mg E Su Hd:=fun _ _ _ _ _ _ _ _ env h e=>e.nx _ _ _ h env Fr.refl
def pSeq (p q:PTS):PTS:=fun R γ=>p { R with nx:=q R } γ
def Vh (hp:SndS K mg E t p) (hq:SndS K mg E u q):SndS K mg E (tSeq t u) (pSeq p q):=by
 intro H0 B H σ γ R D hB env h e;refine hp H0 B H σ γ _ _ hB env h ⟨fun σ' γ' H' h1 e1 f1=>?_,e.rt,e.ex,e.bk,e.ct,e.rv⟩;exact hq H0 B H' σ' γ' R D hB e1 h1 (e.from f1)
structure JoinW (p q:PTS) (R:PEnds) (γ:Γ):Prop where
 w:∃J:Γ->Prop,p { R with nx:=J } γ/\∀γ',J γ'->q R γ'
def A4 (p q:PTS):PTS:=fun R γ=>JoinW p q R γ
def U3 (hp:SndS K mg E t p) (hq:SndS K mg E u q):SndS K mg E (NL t u) (A4 p q):=by
 intro H0 B H σ γ R D hB env h e;obtain⟨J,h,k⟩:=h.w;refine⟨fun σ' H'=>∃γ',J γ'/\EnvR K H0 B H' σ' γ'/\Fr B H σ γ H' σ' γ',hp H0 B H σ γ _ _ hB env h ⟨fun σ' γ' H' h1 e1 f1=>⟨γ',h1,e1,f1⟩,e.rt,e.ex,e.bk,e.ct,e.rv⟩,?_⟩;rintro σ' H' ⟨γ',h1,e1,f1⟩;exact hq H0 B H' σ' γ' R D hB e1 (k γ' h1) (e.from f1)
def pFrz (i:Nat) (p:PTS):PTS:=fun R γ=>p R (frz i γ)
def Vw (i:Nat) (hp:SndS K mg E t p):SndS K mg E t (pFrz i p):=by
 intro H0 B H σ γ R D hB env h e;obtain⟨e1,f1⟩:=env.frz hB i;exact hp H0 B H σ _ R D hB e1 h (e.from f1)
def pAsg (a:PTE) (g:PTG):PTS:=fun R γ=>a γ (fun s=>g s γ R.nx) (R.ex γ)
def Vx {is:List Nat}{g:TG}{pg:PTG} (ha:SndE K mg E te a) (hg:UJ K is g pg):SndS K mg E (tAsg te g) (pAsg a pg):=by
 intro H0 B H σ γ R D hB env h e;refine ha H0 B H σ γ _ _ _ env h (fun s v H1 h1 S1 t1=>?_) fun c H' hc S'=>e.ex σ γ c H' hc (env.grow S') (Fr.grow S');exact hg H0 B H H1 σ γ s v _ _ env S1 t1 h1 fun σ' γ' h2 e2 f2 _=>e.nx σ' γ' H1 h2 e2 f2
def pAug (i:Nat) (f:Int->Int->Int) (a:PTE):PTS:=fun R γ=>match γ[i]? with
 | some (some (.sh (.int x)))=>a γ (fun y=>match y.d with | .int j=>R.nx (γ.set i (some (.sh (.int (f x j)))))|_=>False) (R.ex γ)
 | _=>False
def pRet (a:PTE):PTS:=fun R γ=>a γ R.rt (R.ex γ)
def Vn (ha:SndE K mg E te a):SndS K mg E (tRet te) (pRet a):=by
 intro H0 B H σ γ R D hB env h e;refine ha H0 B H σ γ _ _ _ env h (fun s v H1 h1 S1 t1=>?_) fun c H' hc S'=>e.ex σ γ c H' hc (env.grow S') (Fr.grow S');exact e.rt s v H1 h1 (env.same.trans S1) (TV.weak env.same (fun b z=>.inl z) t1)
def NF (i:Nat):PTS:=fun R γ=>match γ[i]? with|some (some s)=>R.rt s|_=>False
def Tn (i:Nat):SndS K mg E (tRet (tVar i)) (NF i):=by
 intro H0 B H σ γ R D hB env h e;unfold NF at h;split at h
 ·rename_i s hs;obtain⟨v,h1,h2⟩:=env.slot i _ hs;refine⟨v,h1,e.rt s v H h env.same ?_⟩;cases s with
  | bor d=>exact h2
  | sh d=>exact Rp.mono (Vy (Same.refl _) fun b _ _ z y=>z (.inl y)) h2
  | own ds=>
   obtain⟨l,rfl,e2,e3⟩:=h2;exact⟨l,rfl,e2,e3.mono (Vy (Same.refl _) fun b _ _ z y=>z (y.elim .inl fun w=>.inr ⟨i,ds,l,hs,h1,w⟩)) fun _ _ _ q=>q⟩
  | view ds=>exact h2.elim
  | tmp d=>exact h2.elim
 ·exact h.elim
def pIfS (c:PTT) (p q:PTS):PTS:=fun R γ=>c γ (fun b=>if b=true then p R γ else q R γ) (R.ex γ)
def Vr (hc:SndT K mg E tt c) (hp:SndS K mg E t p) (hq:SndS K mg E u q):SndS K mg E (tIfS tt t u) (pIfS c p q):=by
 intro H0 B H σ γ R D hB env h e;refine hc H0 B H σ γ _ _ _ env h (fun b H1 h1 S1=>?_) fun c H' hc S'=>e.ex σ γ c H' hc (env.grow S') (Fr.grow S');split at h1
 ·rename_i hb;rw[ZV hb];exact hp H0 B H1 σ γ R D hB (env.grow S1) h1 (e.from (Fr.grow S1))
 ·rename_i hb;rw[ZU hb];exact hq H0 B H1 σ γ R D hB (env.grow S1) h1 (e.from (Fr.grow S1))
def Gx (a:PTE):PTS:=fun R γ=>a γ (fun _=>R.nx γ) (R.ex γ)
def Jx (ha:SndE K mg E te a):SndS K mg E (Xo te) (Gx a):=by
 intro H0 B H σ γ R D hB env h e;exact ha H0 B H σ γ _ _ _ env h (fun s v H1 h1 S1 t1=>e.nx σ γ H1 h1 (env.grow S1) (Fr.grow S1)) fun c H' hc S'=>e.ex σ γ c H' hc (env.grow S') (Fr.grow S')
def FI (x:Str) (r:PTA):PTS:=fun R γ=>r γ (fun ss=>ss.length<=1000/\R.ex γ x) (R.ex γ)
def TVs.len:∀{ss:List S}{vs:List V},TVs K Z H0 H H' ss vs->vs.length=ss.length
 | _,_,.nil=>rfl
 | _,_,.cons _ r=>Y0 (· + 1) (TVs.len r)
def Jo {x:Str}{ta:TA}{r:PTA}{Ec:XK} (hr:SndA K mg (fun _=>Ec) ta r):SndS K mg (fun _=>Ec) (ExcR.B5 (ExcR.Vb mg x) Ec ta) (FI x r):=by
 intro H0 B H σ γ R D hB env h e;refine hr H0 B H σ γ _ _ _ env h (fun ss vs H1 h1 S1 t1=>⟨?_,?_⟩) fun c H' hc S'=>e.ex σ γ c H' hc (env.grow S') (Fr.grow S')
 ·rw[t1.len];exact Np h1.1
 ·exact e.ex σ γ x H1 h1.2 (env.grow S1) (Fr.grow S1)
def fPar (i j:Nat) (γ:Γ) (R:Γ->Prop):List S->Prop
 | [.sh d,.sh e]=>R ((γ.set i (some (.sh d))).set j (some (.sh e)))
 | _=>False
def clr:List Nat->Γ->Γ
 | [],γ=>γ
 | i::r,γ=>clr r (γ.set i none)
def EnvR.clr:∀(is:List Nat) {γ:Γ},EnvR K H0 B H σ γ->EnvR K H0 B H σ (clr is γ)/\Fr B H σ γ H σ (Pu.clr is γ)
 | [],_,e=>⟨e,Fr.refl⟩
 | i::r,γ,e=>by
  obtain⟨e1,f1⟩:=e.drop i;obtain⟨e2,f2⟩:=EnvR.clr r e1;exact⟨e2,f1.trans f2⟩
def Later (H0:Hp) (Z:Addr->Prop) (H1:Hp) (Z':Addr->Prop) (H':Hp):Prop:=Same H0 H'/\(∀b,Z' b->Mut (H' b))/\∀b o,H1 b=some o->¬Z b->H' b=some o/\¬Z' b
def Later.of {σ':L2.St}{γ':Γ} (e:EnvR K H0 B H' σ' γ') (f:Fr B H1 σ γ H' σ' γ'):Later H0 (zof B γ σ) H1 (zof B γ' σ') H':=⟨e.same,e.zm,f⟩
def Later.off (l:Later H0 Z H1 Z' H'):Same (off Z H1) (Pu.off Z' H'):=fun b o h=>by
 obtain⟨h1,h2⟩:=JF h;obtain⟨h3,h4⟩:=l.2.2 b o h1 h2;exact VM h3 h4
structure ItOk (K:Za) (H0:Hp) (B:Addr->Prop) (H1:Hp) (σ:L2.St) (γ:Γ) (J:It) (n:Nat) (item:Nat->S):Prop where
 go:∀(i:Nat) (H':Hp) (Z':Addr->Prop),i<n->Later H0 (zof B γ σ) H1 Z' H'->J.go i H'/\∀x H'',J.yld i H' x H''->Same H' H''/\TV K Z' H0 H' H'' (item i) x
 stop:∀(H':Hp) (Z':Addr->Prop),Later H0 (zof B γ σ) H1 Z' H'->J.stop n H'
abbrev PTI:=Γ->(Nat->(Nat->S)->Prop)->XR->Prop
def SndI (K:Za) (mg:Str->Option Value) (E:L2.St->XK) (wi:TI) (it:PTI):Prop:=∀(H0:Hp) (B:Addr->Prop) (H:Hp) (σ:L2.St) (γ:Γ) (R:Nat->(Nat->S)->Prop) (X:XR) (Q:It->Hp->Prop),EnvR K H0 B H σ γ->it γ R X->
 (∀n item J H1,R n item->Same H H1->ItOk K H0 B H1 σ γ J n item->Q J H1)->(∀c H',X c->Same H H'->E σ (.ref (ExcR.Vb mg c)) none H')->wi σ H Q
structure ForW (js:List Nat) (γ:Γ) (g:PTG) (body:PTS) (R:PEnds) (n:Nat) (item:Nat->S):Prop where
 w:∃inv:Nat->Γ->Prop,inv 0 (clr js γ)/\
 (∀i γ',i<n->inv i γ'->g (item i) γ' fun γ2=>body { R with nx:=fun γ3=>inv (i+1) (clr js γ3),ct:=fun γ3=>inv (i+1) (clr js γ3),bk:=R.nx } γ2)/\∀γ',inv n γ'->R.nx γ'
def pFor (js:List Nat) (it:PTI) (g:PTG) (body:PTS):PTS:=fun R γ=>it γ (fun n item=>ForW js γ g body R n item) (R.ex γ)
def JX {is:List Nat}{wi:TI}{g:TG}{it:PTI}{pg:PTG} (js:List Nat) (hi:SndI K mg E wi it) (hg:UJ K is g pg) (hb:SndS K mg E t p):SndS K mg E (tFor wi g t) (pFor js it pg p):=by
 intro H0 B H σ γ R D hB env h e;refine hi H0 B H σ γ _ _ _ env h (fun n item J H1 h1 S1 ok=>?_) fun c H' hc S'=>e.ex σ γ c H' hc (env.grow S') (Fr.grow S');obtain⟨inv,h0,hs,hd⟩:=h1.w;have env1:=env.grow S1;refine⟨fun i m σ' H'=>m=n-i/\i<=n/\∃γ',inv i γ'/\EnvR K H0 B H' σ' γ'/\Fr B H1 σ γ H' σ' γ',⟨n,by simp,Wu _,_,h0,(env1.clr js).1,(env1.clr js).2⟩,?_⟩;rintro i m σ' H' ⟨rfl,hin,γ',hi',e',f'⟩;by_cases hlt:i<n
 ·obtain⟨go,yl⟩:=ok.go i H' _ hlt (Later.of e' f');refine .inr ⟨go,fun σ2 H2=>∃γ2,inv (i+1) γ2/\EnvR K H0 B H2 σ2 γ2/\Fr B H1 σ γ H2 σ2 γ2,fun σ2 H2 ⟨γ2,a1,a2,a3⟩=>⟨n-(i+1),by omega,rfl,hlt,γ2,a1,a2,a3⟩,fun x H'' y=>?_⟩;obtain⟨S2,tv⟩:=yl x H'' y;refine hg H0 B H' H'' σ' γ' _ _ _ _ e' S2 tv (hs i γ' hlt hi') fun σ2 γ2 q2 e2 f2 _=>?_;have fall:=f'.trans f2;refine hb H0 B H'' σ2 γ2 _ _ hB e2 q2 ⟨fun σ3 γ3 H3 q3 e3 f3=>?_,e.rt,fun σ3 γ3 c H3 q3 e3 f3=>e.ex σ3 γ3 c H3 q3 e3 ((Fr.grow S1).trans (fall.trans f3)),fun σ3 γ3 H3 q3 e3 f3=>e.nx σ3 γ3 H3 q3 e3 ((Fr.grow S1).trans (fall.trans f3)),fun σ3 γ3 H3 q3 e3 f3=>?_,fun σ3 γ3 d v H3 q3 e3 f3=>e.rv σ3 γ3 d v H3 q3 e3 ((Fr.grow S1).trans (fall.trans f3))⟩
  ·exact⟨_,q3,(e3.clr js).1,(fall.trans f3).trans (e3.clr js).2⟩
  ·exact⟨_,q3,(e3.clr js).1,(fall.trans f3).trans (e3.clr js).2⟩
 ·have:i=n:=by omega
  subst this;exact .inl ⟨ok.stop H' _ (Later.of e' f'),e.nx σ' γ' H' (hd γ' hi') e' ((Fr.grow S1).trans f')⟩
def S.fix:S->Bool
 | .bor _=>true | .sh _=>true | .own _=>true|_=>false
def pIL (a:PTE):PTI:=fun γ R X=>a γ (fun s=>match s.d with
 | .lst ds=>s.fix=true/\R ds.length fun i=>s.sub (ds.getD i .non)
 | .scr ns=>s.fix=true/\R ns.length fun i=>.sh (.int (ns.getD i 0))
 | _=>False) X
def TV.last {s:S}{v:V}{ds:List D} (env:EnvR K H0 B H σ γ) (S1:Same H H1) (tv:TV K (zof B γ σ) H0 H H1 s v) (hf:s.fix=true) (hd:s.d=.lst ds):∃l vs,v=.ref l/\vs.length=ds.length/\
  ∀(H':Hp) (Z':Addr->Prop),Later H0 (zof B γ σ) H1 Z' H'->H' l=some (.lst vs)/\∀(i:Nat) d,ds[i]?=some d->∃u,vs[i]?=some u/\TV K Z' H0 H' H' (s.sub d) u:=by
 have env1:=env.grow S1
 have key:∀{s:S},(∀d,s.sub d=.sh d)->Rp K (Pu.off (zof B γ σ) H1) (.lst ds) v->∃l vs,v=.ref l/\vs.length=ds.length/\
   ∀(H':Hp) (Z':Addr->Prop),Later H0 (zof B γ σ) H1 Z' H'->H' l=some (.lst vs)/\∀(i:Nat) d,ds[i]?=some d->∃u,vs[i]?=some u/\TV K Z' H0 H' H' (s.sub d) u:=fun hs h=>by
  obtain⟨l,vs,rfl,h1,h2⟩:=Rp.lst_inv h;refine⟨l,vs,rfl,h2.len,fun H' Z' lt=>⟨off_sub _ _ (lt.off _ _ h1),fun i d hi=>?_⟩⟩;obtain⟨u,h3,h4⟩:=h2.get hi;refine⟨u,h3,?_⟩;rw[hs];exact Rp.mono lt.off h4
 cases s with
 | bor d=>
  have tv:=Rp.strip tv;rw[show d.strip=.lst ds from hd] at tv
  obtain⟨l,vs,rfl,h1,h2⟩:=Rp.lst_inv tv;refine⟨l,vs,rfl,h2.len,fun H' Z' lt=>⟨lt.1 _ _ h1,fun i d hi=>?_⟩⟩;obtain⟨u,h3,h4⟩:=h2.get hi;exact⟨u,h3,argR lt.2.1 lt.1 h4⟩
 | sh d=>
  have:d=.lst ds:=hd
  subst this;exact key (fun _=>rfl) tv
 | own es=>
  cases es with
  | lst es=>
   cases hd
   exact key (fun _=>rfl) (tv.shd env1.same env.zm S1 rfl)
  | lsA x es=>
   cases hd
   exact key (fun _=>rfl) (tv.shd env1.same env.zm S1 rfl)
  | dK es=>cases hd
  | dT es=>cases hd
  | ins x C xs cs=>cases hd
  | nst cs=>cases hd
 | view es=>cases hf
 | tmp d=>cases hf
def Kn {te:TE}{a:PTE} (ha:SndE K mg E te a):SndI K mg E (X5 K te) (pIL a):=by
 intro H0 B H σ γ R X Q env h q qx;refine ha H0 B H σ γ _ X _ env h (fun s v H1 h1 S1 t1=>?_) qx;have env1:=env.grow S1;split at h1
 ·rename_i ds ed;obtain⟨l,vs,rfl,hn,hl⟩:=t1.last env S1 h1.1 ed;obtain⟨hl1,_⟩:=hl H1 _ (Later.of env1 Fr.refl);refine⟨l,rfl,⟨vs,SqL.of hl1⟩,q _ _ _ H1 h1.2 S1 ⟨fun i H' Z' hi lt=>?_,fun H' Z' lt=>?_⟩⟩
  ·obtain⟨k1,k2⟩:=hl H' Z' lt;have hd:ds[i]?=some (ds.getD i .non):=by rw[Yg,ZS hi];rfl
   obtain⟨u,hu,tu⟩:=k2 i _ hd;refine⟨⟨vs,u,SqL.of k1,hu⟩,fun x H'' y=>?_⟩;obtain⟨rfl,y⟩:=y
   have:=y vs (SqL.of k1)
   rw[hu] at this;cases this
   exact⟨Same.refl _,tu⟩
  ·exact⟨vs,SqL.of (hl H' Z' lt).1,by omega⟩
 ·rename_i ns ed
  have hs:∃l,v=.ref l/\∀(H':Hp) (Z':Addr->Prop),Later H0 (zof B γ σ) H1 Z' H'->SqL K H' l (ns.map V.int):=by
   cases s with
   | bor d=>
    have t1:=Rp.strip t1;rw[show d.strip=.scr ns from ed] at t1
    cases t1 with
    | scr hs=>exact⟨_,rfl,fun H' Z' lt=>lt.1.seq hs⟩
   | sh d=>
    have:d=.scr ns:=ed
    subst this;cases t1 with
    | scr hs=>exact⟨_,rfl,fun H' Z' lt=>off_sub.seq (lt.off.seq hs)⟩
   | own es=>cases es<;>cases ed
   | view es=>cases es<;>cases ed
   | tmp d=>cases h1.1
  obtain⟨l,rfl,hl⟩:=hs;refine⟨l,rfl,⟨_,hl H1 _ (Later.of env1 Fr.refl)⟩,q _ _ _ H1 h1.2 S1 ⟨fun i H' Z' hi lt=>?_,fun H' Z' lt=>?_⟩⟩
  ·have k1:=hl H' Z' lt
   have hu:(ns.map V.int)[i]?=some (.int (ns.getD i 0)):=by
    rw[ZY,ZS hi,Yg,ZS hi];rfl
   refine⟨⟨_,_,k1,hu⟩,fun x H'' y=>?_⟩;obtain⟨rfl,y⟩:=y
   have:=y _ k1
   rw[hu] at this;cases this
   exact⟨Same.refl _,.int _⟩
  ·exact⟨_,hl H' Z' lt,by rw[ZR];exact Ye _⟩
 ·exact h1.elim
def fR1 (R:Nat->(Nat->S)->Prop):List D->Prop
 | [.int j]=>(-(2 ^ 62)<=j/\j<2 ^ 62)/\R j.toNat fun i=>.sh (.int (0+(i:Int)))
 | _=>False
def fR2 (R:Nat->(Nat->S)->Prop):List D->Prop
 | [.int i,.int j]=>(-(2 ^ 62)<=i/\i<2 ^ 62/\-(2 ^ 62)<=j/\j<2 ^ 62)/\R (j-i).toNat fun k=>.sh (.int (i+(k:Int)))
 | _=>False
def pIR1 (r:PTA):PTI:=fun γ R X=>r γ (fun ss=>fR1 R (ss.map S.d)) X
def pIR2 (r:PTA):PTI:=fun γ R X=>r γ (fun ss=>fR2 R (ss.map S.d)) X
def Rps.one_inv {d:D}{vs:List V} (h:Rps K H [d] vs):∃v,vs=[v]/\Rp K H d v:=by
 cases h with
 | cons h r=>cases r;exact⟨_,rfl,h⟩
def Rps.two_inv {d e:D}{vs:List V} (h:Rps K H [d,e] vs):∃v u,vs=[v,u]/\Rp K H d v/\Rp K H e u:=by
 cases h with
 | cons h r=>cases r with|cons h2 r=>cases r;exact⟨_,_,rfl,h,h2⟩
def N3 {lo:Int}{n:Nat}:ItOk K H0 B H1 σ γ (Itr lo n) n fun i=>.sh (.int (lo+(i:Int))):=by
 refine⟨fun i H' Z' hi lt=>⟨hi,fun x H'' y=>?_⟩,fun H' Z' lt=>Ye _⟩;obtain⟨e,y⟩:=y;subst e y;exact⟨Same.refl _,.int _⟩
def UK {ta:TA}{r:PTA} (hr:SndA K mg E ta r):SndI K mg E (Fh ta) (pIR1 r):=by
 intro H0 B H σ γ R X Q env h q qx;refine hr H0 B H σ γ _ X _ env h (fun ss vs H1 h1 S1 t1=>?_) qx;have rv:=t1.rps (env.grow S1).same;unfold fR1 at h1;split at h1
 ·rename_i j ej;rw[ej] at rv;obtain⟨v,rfl,r1⟩:=rv.one_inv;rw[r1.int_inv];exact⟨j,rfl,h1.1.1,h1.1.2,q _ _ _ H1 h1.2 S1 N3⟩
 ·exact h1.elim
def Ss {ta:TA}{r:PTA} (hr:SndA K mg E ta r):SndI K mg E (BN ta) (pIR2 r):=by
 intro H0 B H σ γ R X Q env h q qx;refine hr H0 B H σ γ _ X _ env h (fun ss vs H1 h1 S1 t1=>?_) qx;have rv:=t1.rps (env.grow S1).same;unfold fR2 at h1;split at h1
 ·rename_i i j ej;rw[ej] at rv;obtain⟨v,u,rfl,r1,r2⟩:=rv.two_inv;rw[r1.int_inv,r2.int_inv];exact⟨i,j,rfl,h1.1,q _ _ _ H1 h1.2 S1 N3⟩
 ·exact h1.elim
end
section
variable {K:Za}{mg:Str->Option Value}{E:L2.St->XK}{H0 H H1 H':Hp}{B Z Z':Addr->Prop}{σ:L2.St}{γ:Γ}
def Uh (N:List Str) (ds:List D):Γ:=ds.map (fun d=>some (arg d))++List.replicate (N.length-ds.length) none
def GJ {N:List Str}{ds:List D}{vs:List V} (r:Rps K H ds vs) (hn:ds.length<=N.length):EnvR K H (fun b=>Mut (H b)) H (start N vs) (Uh N ds):=by
 have hlen:=r.len
 have get:∀(i:Nat) (s:S),(Uh N ds)[i]?=some (some s)->∃d,ds[i]?=some d/\s=arg d:=fun i s h=>by
  unfold Uh at h;by_cases hi:i<ds.length
  ·rw[Y3 (by rw[ZR];exact hi),ZY,ZS hi] at h;exact⟨_,ZS hi,(Ya (Ya h)).symm⟩
  ·rw[Yz (by rw[ZR];omega),YS] at h;split at h<;>cases h
 have noown:∀(i:Nat) (es:O),(Uh N ds)[i]?≠some (some (.own es)):=fun i es h=>by
  obtain⟨d,_,e⟩:=get i _ h;rcases TX d with q|q<;>rw[q] at e<;>cases e
 refine⟨Same.refl _,?_,fun b h=>h,fun i j a a' es es' b h=>absurd h (noown i es),fun i s h=>?_⟩
 ·unfold L2.start Uh;simp[hlen]
 ·obtain⟨d,hd,rfl⟩:=get i s h;obtain⟨v,hv,rv⟩:=r.get hd;refine⟨v,?_,?_⟩
  ·unfold L2.start;rw[Y3 (by rw[ZR];exact(Yo.mp hv).1),ZY,hv];rfl
  ·have tv:=argR (K:=K) (Z:=zof (fun b=>Mut (H b)) (Uh N ds) (start N vs)) (H0:=H) (H:=H) (H':=H) (fun b z=>z.elim id fun⟨k,es,_,k1,_⟩=>absurd k1 (noown k es)) (Same.refl _) rv;rcases TX d with q|q<;>rw[q] at tv ⊢<;>exact tv
def EJ {c:Pc}{N:List Str}{t:TS}{p:PTS}{vs:List V}{Q:VK}{Ec:XK}{n:Nat} (h:spOf mg c K vs H Q Ec) (snd:SndS K mg (fun _=>Ec) t p) (hn:n<=N.length)
  (hp:∀ds R X,c ds R X->ds.length=n/\p { nx:=fun _=>R (.sh .non),rt:=R,ex:=fun _ e=>X e } (Uh N ds)):t { nx:=fun _ H'=>Q .non H',rt:=Q } (start N vs) H:=by
 obtain⟨ds,R,X,r,hc,hQ,hX⟩:=h;obtain⟨e,hp⟩:=hp ds R X hc;refine snd H (fun b=>Mut (H b)) H _ _ _ _ (fun b z=>Ul z) (GJ r (by rw[e];exact hn)) hp ⟨fun σ' γ' H' h1 e1 f1=>hQ _ _ H' h1 e1.same .non,fun s v H' h1 S1 tv=>hQ s v H' h1 S1 tv,fun σ' γ' c H' h1 e1 f1=>hX c H' h1 e1.same,fun _ _ _ z=>z.elim,fun _ _ _ z=>z.elim,fun _ _ _ _ _ z=>z.elim⟩
def G1 {c:Pc}{vs:List V}{Q:VK}{Ec:XK}{n:Nat} (h:spOf mg c K vs H Q Ec) (hn:∀ds R X,c ds R X->ds.length=n):vs.length=n:=by
 obtain⟨ds,R,X,r,hc,_⟩:=h;rw[r.len];exact hn ds R X hc
def atP (φ:List (Option Nat)) (γ:Γ):Γ:=φ.map fun o=>o.bind fun j=>(γ[j]?).join
structure CompW (φ:List (Option Nat)) (γ:Γ) (g:PTG) (c:PTT) (e:PTE) (n:Nat) (item:Nat->S) (R:S->Prop):Prop where
 w:n<=100000/\∃f:Nat->Option D,(∀i,i<n->g (item i) (atP φ γ) fun γ2=>c γ2 (fun b=>if b=true then e γ2 (fun s=>∃d,s.shd=some d/\f i=some d) (fun _=>False) else f i=none) (fun _=>False))/\R (.own ((List.range n).filterMap f))
def Ck (φ:List (Option Nat)) (it:PTI) (g:PTG) (c:PTT) (e:PTE):PTE:=fun γ R X=>it γ (fun n item=>CompW φ γ g c e n item R) X
def Kk {φ:List (Option Nat)}{i:Nat}{s:S} (h:(atP φ γ)[i]?=some (some s)):∃j,φ[i]?=some (some j)/\γ[j]?=some (some s):=by
 unfold atP at h;rw[ZY] at h;cases e:φ[i]? with
 | none=>rw[e] at h;cases h
 | some o=>
  rw[e] at h;cases o with
  | none=>simp at h
  | some j=>
   refine⟨j,rfl,?_⟩;simp at h;cases e2:γ[j]? with
   | none=>rw[e2] at h;simp at h
   | some w=>rw[e2] at h;simp at h;rw[h]
def Pd:∀{φ:List (Option Nat)},(φ.filterMap id).Nodup->∀(i j k:Nat),φ[i]?=some (some k)->φ[j]?=some (some k)->i=j
 | [],_,i,_,_,h,_=>by simp at h
 | none::r,hn,i,j,k,h1,h2=>by
  cases i with
  | zero=>simp at h1
  | succ i=>
   cases j with
   | zero=>simp at h2
   | succ j=>exact Y0 (· + 1) (Pd (φ:=r) (by simpa using hn) i j k (by simpa using h1) (by simpa using h2))
 | some m::r,hn,i,j,k,h1,h2=>by
  have hn':m∉r.filterMap id/\(r.filterMap id).Nodup:=by simpa using hn
  have mem:∀{j:Nat},r[j]?=some (some k)->k∈r.filterMap id:=fun h=>W7.mpr ⟨some k,Yh h,rfl⟩;cases i with
  | zero=>
   cases j with
   | zero=>rfl
   | succ j=>
    have e:m=k:=by simpa using h1
    subst e;exact absurd (mem (by simpa using h2)) hn'.1
  | succ i=>
   cases j with
   | zero=>
    have e:m=k:=by simpa using h2
    subst e;exact absurd (mem (by simpa using h1)) hn'.1
   | succ j=>exact Y0 (· + 1) (Pd (φ:=r) hn'.2 i j k (by simpa using h1) (by simpa using h2))
def Kp {φ:List (Option Nat)}{i j:Nat} (h1:φ[i]?=some (some j)) {v:V} (h2:σ[j]?=some (some v)):(atStart φ σ)[i]?=some (some v):=by
 unfold atStart;rw[ZY,h1];simp[h2]
def Fl {φ:List (Option Nat)}{L:Addr} (env:EnvR K H0 B H σ γ) (nL:H L=none):∀b o,H b=some o->¬zof B γ σ b->¬zof (fun b=>zof B γ σ b\/b=L) (atP φ γ) (atStart φ σ) b:=fun b o hb z y=>by
 rcases y with(y|y)|⟨i',ds,x,y1,y2,y3⟩
 ·exact z y
 ·rw[y,nL] at hb;cases hb
 ·obtain⟨m,m1,m2⟩:=Kk y1;obtain⟨w,w1,_⟩:=env.slot m _ m2;rw[Kp m1 w1] at y2;exact z (.inr ⟨m,ds,x,m2,by rw[w1];exact Y0 some (Ya y2),y3⟩)
def Gg {φ:List (Option Nat)}{L:Addr} (env:EnvR K H0 B H σ γ) (S1:Same H H') (nL:H L=none) (hL:∃ys,H' L=some (.lst ys)) (hφ:(φ.filterMap id).Nodup) :
  EnvR K H0 (fun b=>zof B γ σ b\/b=L) H' (atStart φ σ) (atP φ γ):=by
 refine⟨env.same.trans S1,by unfold atStart atP;simp,fun b z=>?_,fun i j a a' ds es b h1 h2 h3 h4 h5 h6=>?_,fun i s h=>?_⟩
 ·rcases z with z|rfl
  ·exact Uc S1 (env.zm b z)
  ·obtain⟨ys,e⟩:=hL;rw[e];trivial
 ·obtain⟨k,k1,k2⟩:=Kk h1;obtain⟨l,l1,l2⟩:=Kk h2;obtain⟨v,v1,_⟩:=env.slot k _ k2;obtain⟨u,u1,_⟩:=env.slot l _ l2;rw[Kp k1 v1] at h3;rw[Kp l1 u1] at h4
  have:=env.own k l a a' ds es b k2 l2 (by rw[v1];exact Y0 some (Ya h3)) (by rw[u1];exact Y0 some (Ya h4)) h5 h6
  subst this;exact Pd hφ i j k k1 l1
 ·obtain⟨k,k1,k2⟩:=Kk h;obtain⟨v,v1,v2⟩:=env.slot k _ k2;have So:Same (off (zof B γ σ) H) (off (zof (fun b=>zof B γ σ b\/b=L) (atP φ γ) (atStart φ σ)) H'):=Vy S1 (Fl env nL);refine⟨v,Kp k1 v1,?_⟩;cases s with
  | bor d=>exact v2
  | sh d=>exact Rp.mono So v2
  | own ds=>
   obtain⟨a,e1,e3,e4⟩:=v2;exact⟨a,e1,e3,e4.mono So fun b _ x=>S1 b x⟩
  | view ds=>exact v2
  | tmp d=>exact v2
def Sub.of {σ σ':L2.St}{is:List Nat} (hl:σ'.length=σ.length) (h1:∀j,j∉is->σ'[j]?=σ[j]?) (h2:∀j∈is,∀v,σ[j]?≠some (some v)):Sub σ σ':=⟨hl,fun i v e=>by
 by_cases hi:i∈is
 ·exact absurd e (h2 i hi v)
 ·rw[h1 i hi];exact e⟩
structure ItOkC (K:Za) (H0:Hp) (B:Addr->Prop) (H1:Hp) (σ:L2.St) (γ:Γ) (J:It) (n:Nat) (item:Nat->S):Prop where
 go:∀(i:Nat) (H':Hp) (Z':Addr->Prop),i<n->Same H1 H'->Later H0 (zof B γ σ) H1 Z' H'->J.go i H'/\∀x H'',J.yld i H' x H''->Same H' H''/\TV K Z' H0 H' H'' (item i) x
 stop:∀(H':Hp) (Z':Addr->Prop),Same H1 H'->Later H0 (zof B γ σ) H1 Z' H'->J.stop n H'
def K9 (K:Za) (mg:Str->Option Value) (E:L2.St->XK) (wi:TI) (it:PTI):Prop:=∀(H0:Hp) (B:Addr->Prop) (H:Hp) (σ:L2.St) (γ:Γ) (R:Nat->(Nat->S)->Prop) (X:XR) (Q:It->Hp->Prop),EnvR K H0 B H σ γ->it γ R X->
 (∀n item J H1,R n item->Same H H1->ItOkC K H0 B H1 σ γ J n item->Q J H1)->(∀c H',X c->Same H H'->E σ (.ref (ExcR.Vb mg c)) none H')->wi σ H Q
def SndI.c {wi:TI}{it:PTI} (h:SndI K mg E wi it):K9 K mg E wi it:=fun H0 B H σ γ R X Q env p q qx=>
 h H0 B H σ γ R X Q env p (fun n item J H1 hR S1 ok=>q n item J H1 hR S1 ⟨fun i H' Z' hi _ lt=>ok.go i H' Z' hi lt,fun H' Z' _ lt=>ok.stop H' Z' lt⟩) qx
def pILc (a:PTE):PTI:=fun γ R X=>a γ (fun s=>match s.d with
 | .lst ds=>R ds.length fun i=>s.sub (ds.getD i .non)
 | .tup ds=>False
 | .scr ns=>R ns.length fun i=>.sh (.int (ns.getD i 0))
 | _=>False) X
def BS {te:TE}{a:PTE} (ha:SndE K mg E te a):K9 K mg E (X5 K te) (pILc a):=by
 intro H0 B H σ γ R X Q env h q qx;refine ha H0 B H σ γ _ X _ env h (fun s v H1 h1 S1 t1=>?_) qx;have env1:=env.grow S1;split at h1
 ·rename_i ds ed;have rv:=t1.rp env1.same;rw[ed] at rv;obtain⟨l,vs,rfl,hl1,r1⟩:=rv.lst_inv;refine⟨l,rfl,⟨vs,SqL.of hl1⟩,q _ _ _ H1 h1 S1 ⟨fun i H' Z' hi S2 lt=>?_,fun H' Z' S2 lt=>⟨vs,SqL.of (S2 _ _ hl1),by rw[r1.len];exact Ye _⟩⟩⟩;have hd:ds[i]?=some (ds.getD i .non):=by rw[Yg,ZS hi];rfl
  have hi':∃u,vs[i]?=some u/\TV K Z' H0 H' H' (s.sub (ds.getD i .non)) u:=by
   cases s with
   | bor d=>
    have t1:=Rp.strip t1;rw[show d.strip=.lst ds from ed] at t1
    obtain⟨l',vs',e',h3,r3⟩:=Rp.lst_inv t1;cases e'
    rw[env1.same _ _ h3] at hl1;cases hl1
    obtain⟨u,h4,h5⟩:=r3.get hd;exact⟨u,h4,argR lt.2.1 lt.1 h5⟩
   | sh d=>
    have:d=.lst ds:=ed
    subst this;obtain⟨l',vs',e',h3,r3⟩:=Rp.lst_inv t1;cases e'
    rw[off_sub _ _ h3] at hl1;cases hl1
    obtain⟨u,h4,h5⟩:=r3.get hd;exact⟨u,h4,Rp.mono lt.off h5⟩
   | own es=>
    cases es with
    | dK es=>cases ed
    | dT es=>cases ed
    | ins x C xs cs=>cases ed
    | nst cs=>cases ed
    | lsA x es=>
     cases ed
     obtain⟨l',e',h0,_,vs',h3,r3⟩:=t1;cases e'
     rw[h3] at hl1;cases hl1
     obtain⟨u,h4,h5⟩:=r3.get hd;exact⟨u,h4,Rp.mono lt.off (Rp.mono (Vy (Same.refl _) fun b _ _ z y=>z (.inl y)) h5)⟩
    | lst es=>
    cases ed
    obtain⟨l',e',h0,vs',h3,r3⟩:=t1;cases e'
    rw[h3] at hl1;cases hl1
    obtain⟨u,h4,h5⟩:=r3.get hd;exact⟨u,h4,Rp.mono lt.off (Rp.mono (Vy (Same.refl _) fun b _ _ z y=>z (.inl y)) h5)⟩
   | view es=>
    cases es with
    | dK es=>cases ed
    | dT es=>cases ed
    | ins x C xs cs=>cases ed
    | nst cs=>cases ed
    | lsA x es=>
     cases ed
     obtain⟨l',e',_,vs',h3,r3⟩:=t1;cases e'
     rw[h3] at hl1;cases hl1
     obtain⟨u,h4,h5⟩:=r3.get hd;exact⟨u,h4,Rp.mono lt.off h5⟩
    | lst es=>
    cases ed
    obtain⟨l',e',vs',h3,r3⟩:=t1;cases e'
    rw[h3] at hl1;cases hl1
    obtain⟨u,h4,h5⟩:=r3.get hd;exact⟨u,h4,Rp.mono lt.off h5⟩
   | tmp d=>
    have:d=.lst ds:=ed
    subst this;obtain⟨l',vs',e',h3,r3⟩:=Rp.lst_inv t1;cases e'
    rw[h3] at hl1;cases hl1
    obtain⟨u,h4,h5⟩:=r3.get hd;exact⟨u,h4,UA lt.2.1 (Rp.mono S2 h5)⟩
  obtain⟨u,hu,tu⟩:=hi';refine⟨⟨vs,u,SqL.of (S2 _ _ hl1),hu⟩,fun x H'' y=>?_⟩;obtain⟨rfl,y⟩:=y
  have:=y vs (SqL.of (S2 _ _ hl1))
  rw[hu] at this;cases this
  exact⟨Same.refl _,tu⟩
 ·exact h1.elim
 ·rename_i ns ed;have rv:=t1.rp env1.same;rw[ed] at rv;cases rv with
  | scr hs=>
   refine⟨_,rfl,⟨_,hs⟩,q _ _ _ H1 h1 S1 ⟨fun i H' Z' hi S2 lt=>?_,fun H' Z' S2 lt=>⟨_,S2.seq hs,by rw[ZR];exact Ye _⟩⟩⟩
   have hu:(ns.map V.int)[i]?=some (.int (ns.getD i 0)):=by
    rw[ZY,ZS hi,Yg,ZS hi];rfl
   refine⟨⟨_,_,S2.seq hs,hu⟩,fun x H'' y=>?_⟩;obtain⟨rfl,y⟩:=y
   have:=y _ (S2.seq hs)
   rw[hu] at this;cases this
   exact⟨Same.refl _,.int _⟩
 ·exact h1.elim
def Xq {φ:List (Option Nat)}{is:List Nat}{wi:TI}{g:TG}{tc:TT}{te:TE}{it:PTI}{pg:PTG}{c:PTT}{a:PTE} (hi:K9 K mg E wi it) (hg:UJ K is g pg) (hc:SndT K mg E tc c) (he:SndE K mg E te a)
  (h1:(φ.filterMap id).Nodup:=by decide) (h2:∀j∈is,φ[j]?=some none:=by decide):SndE K mg E (Nv φ wi g tc te) (Ck φ it pg c a):=by
 intro H0 B H σ γ R X Q env h q qx;refine hi H0 B H σ γ _ X _ env h (fun n item J H1 h1' S1 ok=>?_) qx;obtain⟨hn,f,hf,hR⟩:=h1'.w;have env1:=env.grow S1;have hbig:n<=sizeLine:=Yi hn (by decide);intro L nL;refine⟨fun i m ys H2=>m=n-i/\i<=n/\Same H1 H2/\H2 L=some (.lst ys)/\Rps K (off (fun b=>zof B γ σ b\/b=L) H2) ((List.range i).filterMap f) ys,⟨n,by simp,Wu _,JO nL,VQ,.nil⟩,?_⟩;rintro i m ys H2 ⟨rfl,hin,S2,hL,hys⟩;have env2:=env1.grow S2;by_cases hlt:i<n
 ·have envI2:=Gg (φ:=φ) env1 S2 nL ⟨ys,hL⟩ h1;obtain⟨go,yl⟩:=ok.go i H2 _ hlt S2 ⟨env2.same,envI2.zm,fun b o hb z=>⟨S2 _ _ hb,Fl env1 nL b o hb z⟩⟩;refine .inr ⟨go,fun x H3 y=>?_⟩;obtain⟨S3,tv⟩:=yl x H3 y;refine hg H0 _ H2 H3 _ _ _ _ _ _ envI2 S3 tv (hf i hlt) fun σ2 γ2 p2 e2 f2 k2=>⟨?_,?_⟩
  ·refine Sub.of (is:=is) k2.2 k2.1 fun j hj v z=>?_;obtain⟨k,k1,_⟩:=N0 z;rw[h2 j hj] at k1;cases k1
  ·refine hc H0 _ H3 σ2 γ2 _ _ _ e2 p2 (fun b H5 q5 S5=>?_) fun _ _ z=>z.elim;have e5:=e2.grow S5;cases b with
   | false=>
    rw[ZU Yl] at q5 ⊢;refine⟨n-(i+1),by omega,rfl,hlt,(S2.trans S3).trans S5,(S3.trans S5) _ _ hL,?_⟩;rw[List.range_succ,List.filterMap_append];simp only[YK,q5,List.filterMap_nil,Yw];exact Rps.mono (Vy (S3.trans S5) fun _ _ _ z=>z) hys
   | true=>
    rw[ZV rfl] at q5 ⊢;refine he H0 _ H5 σ2 γ2 _ _ _ e5 q5 (fun s v H6 q6 S6 t6=>?_) fun _ _ z=>z.elim;obtain⟨d,hd,hfd⟩:=q6;have S26:=(S3.trans S5).trans S6;have hr:=t6.shd (e5.grow S6).same e5.zm S6 hd
    have hlen:ys.length<=i:=by
     rw[hys.len];exact Yi (List.length_filterMap_le _ _) (by rw[List.length_range];exact Ye _)
    refine⟨S26 _ _ hL,by omega,n-(i+1),by omega,rfl,hlt,fun b o hb=>?_,VQ,?_⟩
    ·rw[V1 (JL hb nL)];exact S26 _ _ (S2 _ _ hb)
    ·rw[List.range_succ,List.filterMap_append];have ef:[i].filterMap f=[d]:=by simp[hfd]
     rw[ef]
     have So:Same (off (fun b=>zof B γ σ b\/b=L) H6) (off (fun b=>zof B γ σ b\/b=L) (upd H6 L (.lst (ys++[v])))):=fun b o h=>by
      obtain⟨a1,a2⟩:=JF h;refine VM ?_ a2;rw[V1 fun z=>a2 (.inr z)];exact a1
     refine Rps.append (Rps.mono So (Rps.mono (Vy S26 fun _ _ _ z=>z) hys)) (.cons (Rp.mono So (Rp.mono (Vy (Same.refl _) fun b _ _ z y=>z (.inl y)) hr)) .nil)
 ·have:i=n:=by omega
  subst this;exact .inl ⟨ok.stop H2 _ S2 (Later.of env2 (Fr.grow S2)),q _ _ H2 hR (S1.trans S2) ⟨L,rfl,(fun _ e=>e▸S1.free nL),ys,hL,hys⟩⟩
def pYes:PTT:=fun _ R _=>R true
def P9:SndT K mg E N7 pYes:=fun _ _ H _ _ _ _ _ _ p q _=>q _ H p (Same.refl _)
def CS {α β:Type} (xs:List α) (f:α->Option β):(List.range xs.length).filterMap (fun i=>(xs[i]?).bind f)=xs.filterMap f:=by
 induction xs with
 | nil=>rfl
 | cons x r ih=>
  rw[Ys,List.range_succ_eq_map,YK,List.filterMap_map,YK]
  have e:(fun i=>((x::r)[i]?).bind f)∘Nat.succ=fun i=>(r[i]?).bind f:=by
   funext i;simp
  rw[e,ih];rfl
end
open M
section
variable {K:Za}{mg:Str->Option Value}{E:L2.St->XK}{H0 H H1 H':Hp}{B Z Z':Addr->Prop}{σ:L2.St}{γ:Γ}
def pCB (f:List S->(S->Prop)->Prop) (r:PTA):PTE:=fun γ R X=>r γ (fun ss=>f ss R) X
def U0 {rr:List V->Hp->VK->Prop}{f:List S->(S->Prop)->Prop}{ta:TA}{r:PTA} (hr:SndA K mg E ta r)
  (h:∀(H0 H H1:Hp) (Z:Addr->Prop) (ss:List S) (vs:List V) (R:S->Prop) (Q:VK),Same H0 H1->Same H H1->(∀b,Z b->Mut (H b))->TVs K Z H0 H H1 ss vs->f ss R->(∀s z H',R s->Same H1 H'->TV K Z H0 H H' s z->Q z H')->rr vs H1 Q) :
  SndE K mg E (tCB rr ta) (pCB f r):=by
 intro H0 B H σ γ R X Q env p q qx;refine hr H0 B H σ γ _ X _ env p (fun ss vs H1 h1 S1 t1=>?_) qx;exact h H0 H H1 _ ss vs R Q (env.grow S1).same S1 env.zm t1 h1 fun s z H' hs S2 tv=>q s z H' hs (S1.trans S2) tv
def S.free:S->List D->Bool
 | .bor _,ds=>imms ds | .tmp _,ds=>imms ds | .view (.nst _),ds=>imms ds|_,_=>true
def TVs.one_inv {s:S}{vs:List V} (h:TVs K Z H0 H H' [s] vs):∃v,vs=[v]/\TV K Z H0 H H' s v:=by
 cases h with
 | cons h r=>cases r;exact⟨_,rfl,h⟩
def TVs.two_inv {s t:S}{vs:List V} (h:TVs K Z H0 H H' [s,t] vs):∃v u,vs=[v,u]/\TV K Z H0 H H' s v/\TV K Z H0 H H' t u:=by
 cases h with
 | cons h r=>cases r with|cons h2 r=>cases r;exact⟨_,_,rfl,h,h2⟩
def TV.items {s:S}{v:V}{ds:List D} (h0:Same H0 H') (hm:∀b,Z b->Mut (H b)) (S1:Same H H') (h:TV K Z H0 H H' s v) (hf:s.free ds=true) :
  (s.d=.lst ds->∃a vs,v=.ref a/\H' a=some (.lst vs)/\Rps K (off Z H') ds vs)/\(s.d=.tup ds->∃a vs,v=.ref a/\H' a=some (.tup vs)/\Rps K (off Z H') ds vs):=by
 have hm':∀b,Z b->Mut (H' b):=fun b z=>Uc S1 (hm b z);cases s with
 | bor d=>
  have h:=Rp.strip h;refine⟨fun e=>?_,fun e=>?_⟩<;>rw[show d.strip=_ from e] at h
  ·obtain⟨a,vs,rfl,h1,r⟩:=Rp.lst_inv h;exact⟨a,vs,rfl,h0 _ _ h1,Rps.off hm' (Rps.mono h0 r) hf⟩
  ·obtain⟨a,vs,rfl,h1,r⟩:=Rp.tup_inv h;exact⟨a,vs,rfl,h0 _ _ h1,Rps.off hm' (Rps.mono h0 r) hf⟩
 | sh d=>
  refine⟨fun e=>?_,fun e=>?_⟩<;>(have e':d=_:=e;subst e')
  ·obtain⟨a,vs,rfl,h1,r⟩:=Rp.lst_inv h;exact⟨a,vs,rfl,off_sub _ _ h1,r⟩
  ·obtain⟨a,vs,rfl,h1,r⟩:=Rp.tup_inv h;exact⟨a,vs,rfl,off_sub _ _ h1,r⟩
 | own es=>
  cases es with
  | dK es=>exact⟨(fun e=>by cases e),(fun e=>by cases e)⟩
  | dT es=>exact⟨(fun e=>by cases e),(fun e=>by cases e)⟩
  | ins x C xs cs=>exact⟨(fun e=>by cases e),(fun e=>by cases e)⟩
  | nst cs=>
   refine⟨(fun e=>by cases e),fun e=>?_⟩;have h2:=h.shd h0 hm S1 (d:=.tup (cs.map fun c=>.lst c.2)) rfl;cases e
   obtain⟨a,vs,rfl,h1,r⟩:=Rp.tup_inv h2;exact⟨a,vs,rfl,off_sub _ _ h1,r⟩
  | lst es=>
   refine⟨fun e=>?_,fun e=>by cases e⟩;cases e
   obtain⟨a,rfl,e0,vs,e,r⟩:=h;exact⟨a,vs,rfl,e,Rps.mono (Vy (Same.refl _) fun b _ _ z y=>z (.inl y)) r⟩
  | lsA x es=>
   refine⟨fun e=>?_,fun e=>by cases e⟩;cases e
   obtain⟨a,rfl,e0,_,vs,e,r⟩:=h;exact⟨a,vs,rfl,e,Rps.mono (Vy (Same.refl _) fun b _ _ z y=>z (.inl y)) r⟩
 | view es=>
  cases es with
  | dK es=>exact⟨(fun e=>by cases e),(fun e=>by cases e)⟩
  | dT es=>exact⟨(fun e=>by cases e),(fun e=>by cases e)⟩
  | ins x C xs cs=>exact⟨(fun e=>by cases e),(fun e=>by cases e)⟩
  | nst cs=>
   refine⟨(fun e=>by cases e),fun e=>?_⟩;have h2:=h.rp h0;rw[e] at h2;obtain⟨a,vs,rfl,h1,r⟩:=Rp.tup_inv h2;exact⟨a,vs,rfl,h1,Rps.off hm' r hf⟩
  | lst es=>
   refine⟨fun e=>?_,fun e=>by cases e⟩;cases e
   obtain⟨a,rfl,vs,e,r⟩:=h;exact⟨a,vs,rfl,e,r⟩
  | lsA x es=>
   refine⟨fun e=>?_,fun e=>by cases e⟩;cases e
   obtain⟨a,rfl,_,vs,e,r⟩:=h;exact⟨a,vs,rfl,e,r⟩
 | tmp d=>
  refine⟨fun e=>?_,fun e=>?_⟩<;>(have e':d=_:=e;subst e')
  ·obtain⟨a,vs,rfl,h1,r⟩:=Rp.lst_inv h;exact⟨a,vs,rfl,h1,Rps.off hm' r hf⟩
  ·obtain⟨a,vs,rfl,h1,r⟩:=Rp.tup_inv h;exact⟨a,vs,rfl,h1,Rps.off hm' r hf⟩
def fLen:List S->(S->Prop)->Prop
 | [s],R=>(match s.d with
  | .lst ds=>R (.sh (.int ds.length)) | .tup ds=>R (.sh (.int ds.length)) | .scr ns=>R (.sh (.int ns.length)) | .str x=>x.length<=sizeLine/\R (.sh (.int x.length))|_=>False)
 | _,_=>False
def V9 {ta:TA}{r:PTA} (hr:SndA K mg E ta r):SndE K mg E (tCB (fun xs H Q=>∃x n,xs=[x]/\LenV K x H n/\Q (.int n) H) ta) (pCB fLen r):=by
 refine U0 hr fun H0 H H1 Z ss vs R Q s0 s1 hm tv h q=>?_;unfold fLen at h;split at h
 ·rename_i s;obtain⟨v,rfl,t1⟩:=tv.one_inv;have rv:=t1.rp s0;split at h
  ·rename_i ds e;rw[e] at rv;obtain⟨a,us,rfl,h1,r1⟩:=rv.lst_inv;exact⟨_,_,rfl,.inl ⟨us,SqL.of h1,rfl⟩,by rw[r1.len];exact q _ _ H1 h (Same.refl _) (.int _)⟩
  ·rename_i ds e;rw[e] at rv;obtain⟨a,us,rfl,h1,r1⟩:=rv.tup_inv;exact⟨_,_,rfl,.inr ⟨us,SqT.of h1,rfl⟩,by rw[r1.len];exact q _ _ H1 h (Same.refl _) (.int _)⟩
  ·rename_i ns e;rw[e] at rv;cases rv with
   | scr hs=>exact⟨_,_,rfl,.inl ⟨_,hs,rfl⟩,by rw[ZR];exact q _ _ H1 h (Same.refl _) (.int _)⟩
  ·rename_i x e;rw[e] at rv;rw[rv.str_inv];exact⟨_,_,rfl,⟨h.1,rfl⟩,q _ _ H1 h.2 (Same.refl _) (.int _)⟩
  ·exact h.elim
 ·exact h.elim
def BZ:List S->(S->Prop)->Prop
 | [s],R=>(match s.d with
  | .lst ds=>s.free ds=true/\R (.own ds) | .tup ds=>s.free ds=true/\R (.own ds)|_=>False)
 | _,_=>False
def UE {ta:TA}{r:PTA} (hr:SndA K mg E ta r):SndE K mg E (tCB (fun xs H Q=>∃p ys,xs=[.ref p]/\(SqL K H p ys\/SqT K H p ys)/\∀l,H l=none->Q (.ref l) (upd H l (.lst ys))) ta) (pCB BZ r):=by
 refine U0 hr fun H0 H H1 Z ss vs R Q s0 s1 hm tv h q=>?_;unfold BZ at h;split at h
 ·rename_i s;obtain⟨v,rfl,t1⟩:=tv.one_inv;split at h
  ·rename_i ds e;obtain⟨a,us,rfl,h1,r1⟩:=(t1.items s0 hm s1 h.1).1 e;exact⟨a,us,rfl,.inl (SqL.of h1),fun l nl=>q _ _ _ h.2 (JO nl) (UY s1 nl r1)⟩
  ·rename_i ds e;obtain⟨a,us,rfl,h1,r1⟩:=(t1.items s0 hm s1 h.1).2 e;exact⟨a,us,rfl,.inr (SqT.of h1),fun l nl=>q _ _ _ h.2 (JO nl) (UY s1 nl r1)⟩
  ·exact h.elim
 ·exact h.elim
def Rps.ints {K:Za}{H:Hp}:∀{js:List Int}{vs:List V},Rps K H (js.map D.int) vs->vs=js.map V.int
 | [],_,.nil=>rfl
 | j::r,_,.cons h t=>by rw[Rp.int_inv h,Rps.ints t];rfl
def Rps.of_ints {K:Za}{H:Hp}:∀(js:List Int),Rps K H (js.map D.int) (js.map V.int)
 | []=>.nil
 | j::r=>.cons (.int j) (Rps.of_ints r)
def Sg:List S->(S->Prop)->Prop
 | [s,t],R=>(match s.d,t.d with | .int i,.int j=>R (.sh (.int (if j>i then j else i)))|_,_=>False)
 | _,_=>False
def BX {ta:TA}{r:PTA} (hr:SndA K mg E ta r):SndE K mg E (tCB (fun xs H Q=>∃i j,xs=[.int i,.int j]/\Q (.int (if j>i then j else i)) H) ta) (pCB Sg r):=by
 refine U0 hr fun H0 H H1 Z ss vs R Q s0 s1 hm tv h q=>?_;unfold Sg at h;split at h
 ·obtain⟨v,u,rfl,t1,t2⟩:=tv.two_inv;have r1:=t1.rp s0;have r2:=t2.rp s0;split at h
  ·rename_i i j e1 e2;rw[e1] at r1;rw[e2] at r2;rw[r1.int_inv,r2.int_inv];exact⟨i,j,rfl,q _ _ H1 h (Same.refl _) (.int _)⟩
  ·exact h.elim
 ·exact h.elim
def fAbs:List S->(S->Prop)->Prop
 | [s],R=>(match s.d with | .int i=>R (.sh (.int (if i<0 then -i else i)))|_=>False)
 | _,_=>False
def tyD:D->Option String
 | .int _=>some "int" | .bl _=>some "bool" | .non=>some "NoneType" | .str _=>some "str" | .tup _=>some "tuple" | .lst _=>some "list" | .dK _=>some "dict" | .dT _=>some "dict" | _=>none
inductive IsiR:String->String->Bool->Prop
 | same (n:String):IsiR n n true
 | ib:IsiR "int" "bool" false
 | bi:IsiR "bool" "int" true
 | tl:IsiR "tuple" "list" false
 | lt:IsiR "list" "tuple" false
 | it:IsiR "int" "tuple" false
 | il:IsiR "int" "list" false
 | bt:IsiR "bool" "tuple" false
 | bL:IsiR "bool" "list" false
 | ti:IsiR "tuple" "int" false
 | li:IsiR "list" "int" false
 | si:IsiR "str" "int" false
 | is:IsiR "int" "str" false
 | ni:IsiR "NoneType" "int" false
 | nl:IsiR "NoneType" "list" false
 | nt:IsiR "NoneType" "tuple" false
def IsiR.kit {m n:String}{b:Bool} (h:IsiR m n b):PySem.W.kitOne K (.type m) (.type n)=some b:=by
 cases h with
 | same=>exact Ha K _
 | _=>rfl
def fIsi:List S->(S->Prop)->Prop
 | [s,t],R=>(match tyD s.d,t.d with|some m,.ty n=>∃b,IsiR m n b/\R (.sh (.bl b))|_,_=>False)
 | _,_=>False
def CC {d:D}{v:V}{m:String} (h:Rp K H d v) (e:tyD d=some m):TyOf K H v (.type m):=by
 cases h with
 | int i=>cases e;exact .int i
 | bl b=>cases e;exact .bl b
 | non=>cases e;exact .non
 | str x=>cases e;exact .str x
 | ty n=>cases e
 | tup h r=>cases e;exact .tup h
 | lst h r=>cases e;exact .lst h
 | scr h=>cases e
 | dK h=>cases e;exact .dK h
 | dT h=>cases e;exact .dT h
 | loc h=>cases e
 | err h=>cases e
 | ref a=>cases e
 | ins h q r=>cases e
def U6 {ta:TA}{r:PTA} (hr:SndA K mg E ta r):SndE K mg E (tCB (fun xs H Q=>∃x n t b,xs=[x,.ty n]/\TyOf K H x t/\PySem.W.kitOne K t (.type n)=some b/\Q (.bl b) H) ta) (pCB fIsi r):=by
 refine U0 hr fun H0 H H1 Z ss vs R Q s0 s1 hm tv h q=>?_;unfold fIsi at h;split at h
 ·obtain⟨v,u,rfl,t1,t2⟩:=tv.two_inv;have r1:=t1.rp s0;have r2:=t2.rp s0;split at h
  ·rename_i m n e1 e2;rw[e2] at r2;rw[r2.ty_inv];obtain⟨b,k,hR⟩:=h;exact⟨v,n,_,b,rfl,CC r1 e1,k.kit,q _ _ H1 hR (Same.refl _) (.bl _)⟩
  ·exact h.elim
 ·exact h.elim
def prD (p:Int×Int):D:=.tup [.int p.1,.int p.2]
inductive InR:D->D->Bool->Prop
 | li (i:Int) (hs:List Int):InR (.int i) (.lst (hs.map D.int)) (decide (i∈hs))
 | ti (i:Int) (hs:List Int):InR (.int i) (.tup (hs.map D.int)) (decide (i∈hs))
 | lp (q:Int×Int) (ps:List (Int×Int)):InR (prD q) (.lst (ps.map prD)) (decide (q∈ps))
def fIn (neg:Bool):S->S->(S->Prop)->Prop:=fun x y R=>∃b,InR x.d y.d b/\R (.sh (.bl (if neg then !b else b)))
def Rp.pair {q:Int×Int}{v:V} (h:Rp K H (prD q) v):JS H v q:=by
 obtain⟨a,vs,rfl,h1,r⟩:=Rp.tup_inv h;obtain⟨x,y,rfl,r1,r2⟩:=r.two_inv;rw[r1.int_inv,r2.int_inv] at h1;exact⟨a,rfl,h1⟩
def Rps.lv {K:Za}{H:Hp}{ps:List (Int×Int)}{vs:List V} (h:Rps K H (ps.map prD) vs):LV JS H vs ps:=by
 refine⟨by rw[h.len,ZR],fun i p hp=>?_⟩;obtain⟨v,h1,h2⟩:=h.get (i:=i) (d:=prD p) (by rw[ZY,hp];rfl);exact⟨v,h1,h2.pair⟩
def K4 {neg:Bool}{ta tb:TE}{a b:PTE} (ha:SndE K mg E ta a) (hb:SndE K mg E tb b):SndE K mg E (tOp (fun x y H Q=>rIn K neg x y H Q\/rInP neg x y H Q) ta tb) (p2 a b (fIn neg)):=by
 refine se_2 ha hb fun H0 H H2 Z x y v u R Q s0 s1 hm tx ty h q=>?_;obtain⟨k,hk,hR⟩:=h;have rx:=tx.rp s0;have ry:=ty.rp s0;generalize ex:x.d=dx at hk rx;generalize ey:y.d=dy at hk ry;cases hk with
 | li i hs=>
  obtain⟨l,us,rfl,hl,r⟩:=ry.lst_inv;rw[r.ints] at hl;rw[rx.int_inv];refine .inl ⟨l,_,rfl,.inl (SqL.of hl),rfl,U9 _,?_⟩;rw[Bt];exact q _ _ H2 hR (Same.refl _) (.bl _)
 | ti i hs=>
  obtain⟨l,us,rfl,hl,r⟩:=ry.tup_inv;rw[r.ints] at hl;rw[rx.int_inv];refine .inl ⟨l,_,rfl,.inr (SqT.of hl),rfl,U9 _,?_⟩;rw[Bt];exact q _ _ H2 hR (Same.refl _) (.bl _)
 | lp p ps=>
  obtain⟨l,us,rfl,hl,r⟩:=ry.lst_inv;exact .inr ⟨l,ps,p,rfl,rx.pair,⟨us,hl,r.lv⟩,q _ _ H2 hR (Same.refl _) (.bl _)⟩
def fEqU (neg:Bool):S->S->(S->Prop)->Prop:=fun x y R=>match x.d,y.d with
 | .lst ds,.lst es=>∃xs ys:List Int,ds=xs.map D.int/\es=ys.map D.int/\R (.sh (.bl (if neg then !decide (xs=ys) else decide (xs=ys))))
 | _,_=>fEq neg x y R
def VE {ta tb:TE}{a b:PTE} (ha:SndE K mg E ta a) (hb:SndE K mg E tb b):SndE K mg E (tOp (fun x y H Q=>rEq x y H Q\/rEqL K false x y H Q) ta tb) (p2 a b (fEqU false)):=by
 refine se_2 ha hb fun H0 H H2 Z x y v u R Q s0 s1 hm tx ty h q=>?_;have rx:=tx.rp s0;have ry:=ty.rp s0;unfold fEqU at h;split at h
 ·rename_i ds es e1 e2;obtain⟨xs,ys,rfl,rfl,hR⟩:=h;rw[e1] at rx;rw[e2] at ry;obtain⟨l,us,rfl,hl,r⟩:=rx.lst_inv;obtain⟨m,ws,rfl,hm,r'⟩:=ry.lst_inv;rw[r.ints] at hl;rw[r'.ints] at hm;refine .inr ⟨l,m,_,_,rfl,rfl,SqL.of hl,SqL.of hm,U9 _,U9 _,?_⟩;rw[Pz];exact q _ _ H2 hR (Same.refl _) (.bl _)
 ·refine .inl ?_;unfold fEq at h;split at h
  ·rename_i i j e1 e2;rw[e1] at rx;rw[e2] at ry;rw[rx.int_inv,ry.int_inv];refine⟨rfl,?_⟩;rw[Xa (f:=V.int) fun _ _ z=>V.int.inj z];exact q _ _ H2 h (Same.refl _) (.bl _)
  ·rename_i i j e1 e2;rw[e1] at rx;rw[e2] at ry;rw[rx.str_inv,ry.str_inv];refine⟨rfl,?_⟩;rw[Xa (f:=V.str) fun _ _ z=>V.str.inj z];exact q _ _ H2 h (Same.refl _) (.bl _)
  ·rename_i i j e1 e2;rw[e1] at rx;rw[e2] at ry;rw[rx.bl_inv,ry.bl_inv];refine⟨rfl,?_⟩;rw[Xa (f:=V.bl) fun _ _ z=>V.bl.inj z];exact q _ _ H2 h (Same.refl _) (.bl _)
  ·exact h.elim
def Ud {ta tb:TE}{a b:PTE} (ha:SndE K mg E ta a) (hb:SndE K mg E tb b):SndE K mg E (tOp (fun x y H Q=>rNe x y H Q\/rEqL K true x y H Q) ta tb) (p2 a b (fEqU true)):=by
 refine se_2 ha hb fun H0 H H2 Z x y v u R Q s0 s1 hm tx ty h q=>?_;have rx:=tx.rp s0;have ry:=ty.rp s0;unfold fEqU at h;split at h
 ·rename_i ds es e1 e2;obtain⟨xs,ys,rfl,rfl,hR⟩:=h;rw[e1] at rx;rw[e2] at ry;obtain⟨l,us,rfl,hl,r⟩:=rx.lst_inv;obtain⟨m,ws,rfl,hm,r'⟩:=ry.lst_inv;rw[r.ints] at hl;rw[r'.ints] at hm;refine .inr ⟨l,m,_,_,rfl,rfl,SqL.of hl,SqL.of hm,U9 _,U9 _,?_⟩;rw[Pz];exact q _ _ H2 hR (Same.refl _) (.bl _)
 ·refine .inl ?_;unfold fEq at h;split at h
  ·rename_i i j e1 e2;rw[e1] at rx;rw[e2] at ry;rw[rx.int_inv,ry.int_inv];refine⟨rfl,?_⟩;rw[Xa (f:=V.int) fun _ _ z=>V.int.inj z];exact q _ _ H2 h (Same.refl _) (.bl _)
  ·rename_i i j e1 e2;rw[e1] at rx;rw[e2] at ry;rw[rx.str_inv,ry.str_inv];refine⟨rfl,?_⟩;rw[Xa (f:=V.str) fun _ _ z=>V.str.inj z];exact q _ _ H2 h (Same.refl _) (.bl _)
  ·rename_i i j e1 e2;rw[e1] at rx;rw[e2] at ry;rw[rx.bl_inv,ry.bl_inv];refine⟨rfl,?_⟩;rw[Xa (f:=V.bl) fun _ _ z=>V.bl.inj z];exact q _ _ H2 h (Same.refl _) (.bl _)
  ·exact h.elim
abbrev tTru (K:Za) (ta:TE):TT:=fun σ H Q=>ta σ H fun x H'=>∃k,TruV K x H' k/\Q k H'
def pTru (a:PTE):PTT:=fun γ R X=>a γ (fun x=>match x.d with
 | .bl b=>R b | .lst ds=>R (!ds.isEmpty) | .tup ds=>R (!ds.isEmpty) | .int i=>R (i != 0) | .non=>R false|_=>False) X
def Py {α β:Type}{l:List α}{m:List β} (h:l.length=m.length):l.isEmpty=m.isEmpty:=by
 cases l<;>cases m<;>simp at h ⊢
def Jh {te:TE}{a:PTE} (ha:SndE K mg E te a):SndT K mg E (tTru K te) (pTru a):=by
 intro H0 B H σ γ R X Q env p q qx;refine ha H0 B H σ γ _ X _ env p (fun x v H1 h1 S1 t1=>?_) qx;have rx:=t1.rp (env.grow S1).same;split at h1
 ·rename_i b e;rw[e] at rx;rw[rx.bl_inv];exact⟨b,rfl,q _ H1 h1 S1⟩
 ·rename_i ds e;rw[e] at rx;obtain⟨l,us,rfl,hl,r⟩:=rx.lst_inv;exact⟨!us.isEmpty,.inl ⟨us,SqL.of hl,rfl⟩,by rw[Py r.len];exact q _ H1 h1 S1⟩
 ·rename_i ds e;rw[e] at rx;obtain⟨l,us,rfl,hl,r⟩:=rx.tup_inv;exact⟨!us.isEmpty,.inr (.inl ⟨us,SqT.of hl,rfl⟩),by rw[Py r.len];exact q _ H1 h1 S1⟩
 ·rename_i i e;rw[e] at rx;rw[rx.int_inv];exact⟨_,rfl,q _ H1 h1 S1⟩
 ·rename_i e;rw[e] at rx;rw[rx.non_inv];exact⟨_,rfl,q _ H1 h1 S1⟩
 ·exact h1.elim
def cutD {α:Type} (xs:List α) (lo hi:Option Int):List α:=(xs.drop (HT.sIx xs.length 0 lo)).take (HT.sIx xs.length xs.length hi-HT.sIx xs.length 0 lo)
def CH:PTO:=fun _ R _=>R none
def GP (a:PTE):PTO:=fun γ R X=>a γ (fun s=>match s.d with | .int i=>R (some i)|_=>False) X
def JE:SndO K mg E B9 CH:=fun _ _ H _ _ _ _ _ _ p q _=>q _ H p (Same.refl _)
def Jw {te:TE}{a:PTE} (ha:SndE K mg E te a):SndO K mg E (Fn te) (GP a):=by
 intro H0 B H σ γ R X Q env p q qx;refine ha H0 B H σ γ _ X _ env p (fun x v H1 h1 S1 t1=>?_) qx;have rx:=t1.rp (env.grow S1).same;split at h1
 ·rename_i i e;rw[e] at rx;exact⟨i,rx.int_inv,q _ H1 h1 S1⟩
 ·exact h1.elim
def pSl (a:PTE) (l u:PTO):PTE:=fun γ R X=>a γ (fun s=>l γ (fun lo=>u γ (fun hi=>match s.d with | .lst ds=>s.free ds=true/\R (.own (cutD ds lo hi))|_=>False) X) X) X
def Rps.cut {ds:List D}{vs:List V}{lo hi:Option Int} (r:Rps K H ds vs):Rps K H (cutD ds lo hi) (cutV vs lo hi):=by
 unfold cutD cutV;rw[r.len];exact Rps.take _ (Rps.drop _ r)
def JI {te:TE}{tl th:TO}{a:PTE}{l u:PTO} (ha:SndE K mg E te a) (hl:SndO K mg E tl l) (hu:SndO K mg E th u):SndE K mg E (tSl (rSlL K) te tl th) (pSl a l u):=by
 intro H0 B H σ γ R X Q env p q qx;refine ha H0 B H σ γ _ X _ env p (fun x v H1 h1 S1 t1=>?_) qx;refine hl H0 B H1 σ γ _ X _ (env.grow S1) h1 (fun lo H2 h2 S2=>?_) fun c H' hc S'=>qx c H' hc (S1.trans S');refine hu H0 B H2 σ γ _ X _ ((env.grow S1).grow S2) h2 (fun hi H3 h3 S3=>?_) fun c H' hc S'=>qx c H' hc ((S1.trans S2).trans S');have S13:=(S1.trans S2).trans S3;split at h3
 ·rename_i ds e;obtain⟨b,us,rfl,hb,r⟩:=((t1.grow (S2.trans S3)).items (env.grow S13).same env.zm S13 h3.1).1 e;exact⟨b,us,rfl,SqL.of hb,fun m nm=>q _ _ _ h3.2 (S13.trans (JO nm)) (UY S13 nm r.cut)⟩
 ·exact h3.elim
def fCat:S->S->(S->Prop)->Prop:=fun x y R=>match x.d,y.d with
 | .lst ds,.lst es=>x.free ds=true/\y.free es=true/\ds.length+es.length<=100000/\R (.own (ds++es))
 | _,_=>False
def Jz {ta tb:TE}{a b:PTE} (ha:SndE K mg E ta a) (hb:SndE K mg E tb b):SndE K mg E (tOp rCat ta tb) (p2 a b fCat):=by
 refine se_2 ha hb fun H0 H H2 Z x y v u R Q s0 s1 hm tx ty h q=>?_;unfold fCat at h;split at h
 ·rename_i ds es e1 e2;obtain⟨l,us,rfl,hl,r⟩:=(tx.items s0 hm s1 h.1).1 e1;obtain⟨m,ws,rfl,hm',r'⟩:=(ty.items s0 hm s1 h.2.1).1 e2;have hz:us.length+ws.length<=sizeLine:=by rw[r.len,r'.len];exact Yi h.2.2.1 (by decide)
  exact⟨l,m,us,ws,rfl,rfl,hl,hm',hz,fun p np=>q _ _ _ h.2.2.2 (JO np) (UY s1 np (r.append r'))⟩
 ·exact h.elim
def BV (i:Nat) (a:PTE):PTS:=fun R γ=>match γ[i]? with
 | some (some (.own (.lst ds)))=>a γ (fun s=>match s.shd with
  | some d=>ds.length<10000000/\R.nx (γ.set i (some (.own (ds++[d]))))
  | none=>False) (R.ex γ)
 | some (some (.own (.lsA x ds)))=>a γ (fun s=>match s.shd with
  | some d=>ds.length<10000000/\R.nx (γ.set i (some (.own (.lsA x (ds++[d])))))
  | none=>False) (R.ex γ)
 | _=>False
def Ph (i:Nat) {te:TE}{a:PTE} (ha:SndE K mg E te a):SndS K mg E (Xo (tBM K "list" KC (tVar i) (VN te tNil))) (BV i a):=by
 intro H0 B H σ γ R D hB env h e;unfold BV at h;split at h
 ·rename_i ds hi;obtain⟨v,hv,b,rfl,hb0,us,hb,rb⟩:=env.slot i _ hi;refine⟨_,hv,.inl ⟨rfl,us,SqL.of hb⟩,ha H0 B H σ γ _ _ _ env h (fun s u H1 h1 S1 t1=>?_) fun c H' hc S'=>e.ex σ γ c H' hc (env.grow S') (Fr.grow S')⟩;have env1:=env.grow S1;split at h1
  ·rename_i d e2;have rd:=t1.shd env1.same env.zm S1 e2;refine⟨b,us,u,rfl,rfl,S1 _ _ hb,by rw[rb.len];exact WD h1.1 (by decide),?_⟩;obtain⟨e2,f2⟩:=env1.mutate (es:=.lst (ds++[d])) (us:=.lst (us++[u])) hi hv trivial fun F H' SF hF=>⟨_,hF,Rps.mono SF (Rps.append (Rps.mono (Vy S1 fun _ _ _ z=>z) rb) (.cons rd .nil))⟩;exact e.nx _ _ _ h1.2 e2 ((Fr.grow S1).trans f2)
  ·exact h1.elim
 ·rename_i x ds hi;obtain⟨v,hv,b,rfl,hb0,rfl,us,hb,rb⟩:=env.slot i _ hi;refine⟨_,hv,.inl ⟨rfl,us,SqL.of hb⟩,ha H0 B H σ γ _ _ _ env h (fun s u H1 h1 S1 t1=>?_) fun c H' hc S'=>e.ex σ γ c H' hc (env.grow S') (Fr.grow S')⟩;have env1:=env.grow S1;split at h1
  ·rename_i d e2;have rd:=t1.shd env1.same env.zm S1 e2;refine⟨b,us,u,rfl,rfl,S1 _ _ hb,by rw[rb.len];exact WD h1.1 (by decide),?_⟩;obtain⟨e2,f2⟩:=env1.mutate (es:=.lsA b (ds++[d])) (us:=.lst (us++[u])) hi hv trivial fun F H' SF hF=>⟨rfl,_,hF,Rps.mono SF (Rps.append (Rps.mono (Vy S1 fun _ _ _ z=>z) rb) (.cons rd .nil))⟩;exact e.nx _ _ _ h1.2 e2 ((Fr.grow S1).trans f2)
  ·exact h1.elim
 ·exact h.elim
end
section
variable {X:Cx}{K:Za}
def BC (hu:X.A.in1.units<cLine) (hK:X.K=K:=by rfl):OpR X (compareOp .In) (fun x y H Q=>rIn K false x y H Q\/rInP false x y H Q):=(G6 hK).or (Ac hu)
def Sq (hu:X.A.in1.units<cLine) (hK:X.K=K:=by rfl):OpR X (compareOp .NotIn) (fun x y H Q=>rIn K true x y H Q\/rInP true x y H Q):=(Ca hK).or (FP hu)
def XX (hu:X.A.units<cLine) (hK:X.K=K:=by rfl):OpR X (compareOp .Eq) (fun x y H Q=>rEq x y H Q\/rEqL K false x y H Q):=by subst hK;exact op_eq.or (Ba hu)
def DX (hu:X.A.units<cLine) (hK:X.K=K:=by rfl):OpR X (compareOp .NotEq) (fun x y H Q=>rNe x y H Q\/rEqL K true x y H Q):=by subst hK;exact op_ne.or (DC hu)
def Jd {e:Expr}{te:TE} (ha:PE X e te) (hK:X.K=K:=by rfl) (he:∀whole,isTrue e X.env whole=(do let v ←whole;standAt e.pos;holding [v] (truthy v)):=by intro _;rfl):PT X e (tTru K te):=by
 subst hK;exact A9 ha he
def UH (hK:X.K=K:=by rfl):J7 X (.type "list") (fun xs H Q=>∃p ys,xs=[.ref p]/\(SqL K H p ys\/SqT K H p ys)/\∀l,H l=none->Q (.ref l) (upd H l (.lst ys))):=by subst hK;exact GI
def U2 (hK:X.K=K:=by rfl):J7 X (.builtin "isinstance") (fun xs H Q=>∃x n t b,xs=[x,.ty n]/\TyOf K H x t/\PySem.W.kitOne K t (.type n)=some b/\Q (.bl b) H):=by subst hK;exact Gz
def J6 (hK:X.K=K:=by rfl):SlR X (rSlL K):=by subst hK;exact AI
def UR {tg l:Expr}{tl:TE} (hl:PE X l tl) (hK:X.K=K:=by rfl):PI X tg l (X5 K tl):=by subst hK;exact Hz hl
end
section
variable {P:Program}{w:World}{K:Za}{mg:Str->Option Value}{base:Heap}{H H':Hp}
def Rp.scr_inv {ns:List Int}{v:V} (h:Rp K H (.scr ns) v):∃a,v=.ref a/\SqL K H a (ns.map V.int):=by
 cases h with
 | scr h=>exact⟨_,rfl,h⟩
def Fi:∀(ns:List Int),imms (ns.map D.int)=true
 | []=>by unfold List.map imms;rfl
 | n::r=>by rw[Yy];unfold imms;rw[Fi r];unfold imm;rfl
def Gf (p:Int×Int):imm (prD p)=true:=by unfold prD imm imms imm imms imm imms;rfl
def JB:∀(ps:List (Int×Int)),imms (ps.map prD)=true
 | []=>by unfold List.map imms;rfl
 | p::r=>by rw[Yy];unfold imms;rw[JB r,Gf];rfl
def Bc {α:Type}{f:α->D}{xs:List α}{i:Nat} (h:i<xs.length):(xs.map f).getD i .non=f xs[i]:=by
 rw[Yg,ZY,ZS h];rfl
def Uk {α:Type}{f:α->D}{xs:List α}{i:Int} (h0:0<=i) (h:i<(xs.length:Int)):atI (xs.map f) i=some (f (xs[i.toNat]'(by omega))):=by
 have h':i.toNat<xs.length:=by omega
 exact Ke (Xr h0 (ZS h'))
def NY {α:Type}{f:α->D}{xs:List α}{i:Nat} (h:i<xs.length):atI (xs.map f) (i:Int)=some (f xs[i]):=Ke (Ks (ZS h))
def BM {α:Type}{φ:List (Option Nat)}{γ:Γ}{g:PTG}{c:PTT}{e:PTE}{s:S}{R:S->Prop}{xs:List α}{emb:α->D} (f:α->Option D) (hz:xs.length<=100000)
  (turn:∀x∈xs,g (s.sub (emb x)) (atP φ γ) fun γ2=>c γ2 (fun b=>if b=true then e γ2 (fun s=>∃d,s.shd=some d/\f x=some d) (fun _=>False) else f x=none) fun _=>False)
  (done:R (.own (xs.filterMap f))) :
  CompW φ γ g c e (xs.map emb).length (fun i=>s.sub ((xs.map emb).getD i .non)) R:=by
 rw[ZR];refine⟨⟨hz,fun i=>(xs[i]?).bind f,fun i hi=>?_,by rw[CS];exact done⟩⟩;have e1:(xs[i]?).bind f=f xs[i]:=by rw[ZS hi];rfl
 have t:=turn xs[i] (YI hi);rw[←e1] at t;rw[←Bc (f:=emb) hi] at t;exact t
def SY {φ:List (Option Nat)}{γ:Γ}{g:PTG}{c:PTT}{e:PTE}{item:Nat->S}{R:S->Prop}{n:Nat} (f:Nat->Option D) (hz:n<=100000)
  (turn:∀i,i<n->g (item i) (atP φ γ) fun γ2=>c γ2 (fun b=>if b=true then e γ2 (fun s=>∃d,s.shd=some d/\f i=some d) (fun _=>False) else f i=none) fun _=>False)
  (done:R (.own ((List.range n).filterMap f))) :
  CompW φ γ g c e n item R:=⟨⟨hz,f,turn,done⟩⟩
def Kq {α:Type}{js:List Nat}{γ:Γ}{g:PTG}{body:PTS}{s:S}{R:PEnds}{xs:List α}{emb:α->D} (inv:Nat->Γ->Prop) (h0:inv 0 (clr js γ))
  (turn:∀(i:Nat) (hi:i<xs.length) γ',inv i γ'->g (s.sub (emb xs[i])) γ' fun γ2=>body { R with nx:=fun γ3=>inv (i+1) (clr js γ3),ct:=fun γ3=>inv (i+1) (clr js γ3),bk:=R.nx } γ2)
  (done:∀γ',inv xs.length γ'->R.nx γ') :
  ForW js γ g body R (xs.map emb).length (fun i=>s.sub ((xs.map emb).getD i .non)):=by
 refine⟨⟨inv,h0,fun i γ' hi h=>?_,fun γ' h=>?_⟩⟩
 ·rw[ZR] at hi;have t:=turn i hi γ' h;rw[←Bc (f:=emb) hi] at t;exact t
 ·rw[ZR] at h;exact done γ' h
def UD {js:List Nat}{γ:Γ}{g:PTG}{body:PTS}{R:PEnds}{n:Nat}{item:Nat->S} (inv:Nat->Γ->Prop) (h0:inv 0 (clr js γ))
  (turn:∀(i:Nat) γ',i<n->inv i γ'->g (item i) γ' fun γ2=>body { R with nx:=fun γ3=>inv (i+1) (clr js γ3),ct:=fun γ3=>inv (i+1) (clr js γ3),bk:=R.nx } γ2)
  (done:∀γ',inv n γ'->R.nx γ'):ForW js γ g body R n item:=⟨⟨inv,h0,turn,done⟩⟩
def Um {p q:PTS}{R:PEnds}{γ:Γ} (J:Γ->Prop) (h1:p { R with nx:=J } γ) (h2:∀γ',J γ'->q R γ'):JoinW p q R γ:=⟨⟨J,h1,h2⟩⟩
def KD {α:Type} (c:α->Bool) (emb:α->D):∀ws:List α,ws.filterMap (fun q=>if c q=true then some (emb q) else none)=(ws.filter c).map emb
 | []=>rfl
 | q::r=>by
  by_cases h:c q=true
  ·rw[List.filterMap_cons_some (b:=emb q) (by rw[ZV h]),List.filter_cons_of_pos h,Yy,KD c emb r]
  ·rw[List.filterMap_cons_none (by rw[ZU h]),List.filter_cons_of_neg h,KD c emb r]
def mapD {α:Type} (emb:α->D) (ws:List α):ws.filterMap (fun q=>some (emb q))=ws.map emb:=by rw[List.filterMap_eq_map']
def Xd {α:Type} (f:α->D) (xs:List α) (lo hi:Option Int):cutD (xs.map f) lo hi=(cutD xs lo hi).map f:=by
 unfold cutD;rw[ZR,List.map_take,List.map_drop]
def Nm {α:Type} (xs:List α) {n:Int} (h:0<=n):cutD xs none (some n)=xs.take n.toNat:=by
 unfold cutD;have e:n=(n.toNat:Int):=by omega
 rw[HT.Se,e,HT.Kd,List.drop_zero];rw[Nat.sub_zero,WA];by_cases c:n.toNat<=xs.length
 ·rw[Nat.min_eq_left c]
 ·rw[Nat.min_eq_right (by omega),Wv (Ye _),Wv (by omega)]
def KH {α:Type} (xs:List α) {n:Int} (h:0<=n):cutD xs (some n) none=xs.drop n.toNat:=by
 unfold cutD;have e:n=(n.toNat:Int):=by omega
 rw[HT.Se,e,HT.Kd,WA];by_cases c:n.toNat<=xs.length
 ·rw[Nat.min_eq_left c,Wv (by rw[Wx];omega)]
 ·rw[Nat.min_eq_right (by omega),List.drop_of_length_le (Ye _),List.drop_of_length_le (by omega)];simp
def Po (K:Za):Sp:=fun vs H Q _=>∃(a:Addr) (ns:List Int),vs=[.ref a]/\SqL K H a (ns.map V.int)/\∀H',Q (.bl true) H'
def SD:Pc:=fun ds R _=>∃ns:List Int,ds=[.scr ns]/\R (.sh (.bl true))
def D8 {vs:List V}{Q:VK}{Ec:XK} (h:Po K vs H Q Ec):spOf mg SD K vs H Q Ec:=by
 obtain⟨a,ns,rfl,hS,q⟩:=h;refine⟨[.scr ns],fun s=>s=.sh (.bl true),fun _=>False,.cons (.scr hS) .nil,⟨ns,rfl,rfl⟩,fun s v H' e S1 tv=>?_,fun _ _ z=>z.elim⟩;subst e;cases tv
 exact q H'
end
section
variable {K:Za}{mg:Str->Option Value}{E:L2.St->XK}{H0 H H1 H':Hp}{B Z Z':Addr->Prop}{σ:L2.St}{γ:Γ}
def Bo:D->Option V
 | .int i=>some (.int i) | .bl b=>some (.bl b) | .non=>some .non | .str x=>some (.str x)|_=>none
def Gq {d:D}{v u:V} (h:Rp K H d v) (e:Bo d=some u):v=u:=by
 cases h with
 | int i=>cases e;rfl
 | bl b=>cases e;rfl
 | non=>cases e;rfl
 | str x=>cases e;rfl
 | _=>cases e
def J0 {α:Type} (d:α) (ds:List α):atI (d::ds) 0=some d:=Xr (by decide) rfl
def em (l:Int) (p:List Int):D:=.lst ((l::p).map D.int)
end
section
variable {K:Za}{mg:Str->Option Value}{E:L2.St->XK}{H0 H H1 H':Hp}{B Z Z':Addr->Prop}{σ:L2.St}{γ:Γ}
def HK:List S->(S->Prop)->Prop
 | [s],R=>∃ns:List Int,s.d=.lst (ns.map D.int)/\R (.sh (.int ns.sum))
 | _,_=>False
def fEqE (neg:Bool):S->S->(S->Prop)->Prop:=fun x y R=>match x.d,y.d with
 | .lst ds,.lst []=>R (.sh (.bl (if neg then !ds.isEmpty else ds.isEmpty)))
 | _,_=>False
def TC {neg:Bool}{ta tb:TE}{a b:PTE} (ha:SndE K mg E ta a) (hb:SndE K mg E tb b):SndE K mg E (tOp (rEqE K neg) ta tb) (p2 a b (fEqE neg)):=by
 refine se_2 ha hb fun H0 H H2 Z x y v u R Q s0 s1 hm tx ty h q=>?_;have rx:=tx.rp s0;have ry:=ty.rp s0;unfold fEqE at h;split at h
 ·rename_i ds e1 e2;rw[e1] at rx;rw[e2] at ry;obtain⟨l,us,rfl,hl,r⟩:=rx.lst_inv;obtain⟨m,ws,rfl,hm',r'⟩:=ry.lst_inv;cases r'
  refine⟨l,m,us,rfl,rfl,SqL.of hl,SqL.of hm',?_⟩;rw[Py r.len];exact q _ _ H2 h (Same.refl _) (.bl _)
 ·exact h.elim
def Bw (x y:Int) {k:Int} (h:k=0\/k=1):atI [D.int x,D.int y] k=some (.int (if k=0 then x else y)):=by
 rcases h with rfl|rfl
 ·rfl
 ·rfl
def Uu {α:Type} (xs:List α) (lo hi:Option Int):(cutD xs lo hi).Sublist xs:=(List.take_sublist _ _).trans (List.drop_sublist _ _)
end
section
variable {K:Za}{mg:Str->Option Value}{E:L2.St->XK}{H0 H H1 H':Hp}{B Z Z':Addr->Prop}{σ:L2.St}{γ:Γ}
def EnvR.gone (Ev:EnvR K H0 B H σ γ) (i:Nat):EnvR K H0 B H (σ.set i none) (γ.set i none)/\Fr B H σ γ H (σ.set i none) (γ.set i none):=by
 obtain⟨e1,f1⟩:=Ev.drop i
 have got:∀(j:Nat) (s:S),(γ.set i none)[j]?=some (some s)->j≠i:=fun j s h=>by
  rcases VD h with⟨_,e,_⟩|⟨n,_⟩
  ·cases e
  ·exact n
 have hz:∀b,zof B (γ.set i none) (σ.set i none) b↔zof B (γ.set i none) σ b:=fun b=>by
  constructor
  ·rintro(z|⟨j,ds,x,z1,z2,z3⟩)
   ·exact .inl z
   ·rw[JM (got j _ z1)] at z2;exact .inr ⟨j,ds,x,z1,z2,z3⟩
  ·rintro(z|⟨j,ds,x,z1,z2,z3⟩)
   ·exact .inl z
   ·exact .inr ⟨j,ds,x,z1,by rw[JM (got j _ z1)];exact z2,z3⟩
 have ez:zof B (γ.set i none) (σ.set i none)=zof B (γ.set i none) σ:=funext fun b=>propext (hz b);refine⟨⟨e1.same,by rw[YE];exact e1.len,e1.bm,fun k j a a' ds es b h1 h2 h3 h4 h5 h6=>?_,fun j s h=>?_⟩,fun b o h z=>?_⟩
 ·rw[JM (got k _ h1)] at h3;rw[JM (got j _ h2)] at h4;exact e1.own k j a a' ds es b h1 h2 h3 h4 h5 h6
 ·obtain⟨v,h1,h2⟩:=e1.slot j s h;rw[ez];exact⟨v,by rw[JM (got j _ h)];exact h1,h2⟩
 ·rw[ez];exact f1 b o h z
def pTry (mg:Str->Option Value) (cs:List Str) (i:Nat) (pb ph:PTS):PTS:=fun R γ=>pb { R with ex:=fun γ' c=>c∈cs/\ph { nx:=fun g=>R.nx (g.set i none),rt:=R.rt,ex:=fun _ _=>False,bk:=fun g=>R.bk (g.set i none),ct:=fun g=>R.ct (g.set i none),rv:=R.rv } (γ'.set i (some (.sh (.err (ExcR.Vb mg c))))) } γ
def TM {i:Nat}{C0:Addr}{tb:Ends->TS}{ts:TS}{pb ph:PTS}{E':L2.St->XK} (cs:List Str) (hcs:∀c∈cs,ExcR.ErrGet K (ExcR.Vb mg c)/\PySem.W.exmOne K (.ref (ExcR.Vb mg c)) (.ref C0)=some true)
  (hb:∀D,SndS K mg (ExcR.hx K C0 i ts D) (tb D) pb) (hh:SndS K mg E' ts ph):SndS K mg E (fun D σ H=>tb D D σ H) (pTry mg cs i pb ph):=by
 intro H0 B H σ γ R D hB env h e;refine hb D H0 B H σ γ _ D hB env h ⟨e.nx,e.rt,fun σ' γ' c H' hc e' f'=>?_,e.bk,e.ct,e.rv⟩;obtain⟨hin,hp⟩:=hc;obtain⟨k1,k2⟩:=hcs c hin;refine⟨_,rfl,k1,k2,fun a na=>?_⟩;have S1:=JO (o:=ExcR.ErrH a (ExcR.Vb mg c)) na;have tv:TV K (zof B γ' σ') H0 H' (upd H' a (ExcR.ErrH a (ExcR.Vb mg c))) (.sh (.err (ExcR.Vb mg c))) (.ref a):=.err (VM VQ fun z=>by have:=e'.zm a z;rw[na] at this;exact this);obtain⟨e2,f2⟩:=e'.set (i:=i) S1 tv rfl;have f12:=f'.trans f2;refine hh H0 B _ _ _ _ _ hB e2 hp ⟨fun σ3 γ3 H3 q3 e3 f3=>?_,e.rt,fun _ _ _ _ z=>z.elim,fun σ3 γ3 H3 q3 e3 f3=>?_,fun σ3 γ3 H3 q3 e3 f3=>?_,fun σ3 γ3 d v H3 q3 e3 f3=>e.rv σ3 γ3 d v H3 q3 e3 (f12.trans f3)⟩
 ·obtain⟨e4,f4⟩:=e3.gone i;exact e.nx _ _ H3 q3 e4 (f12.trans (f3.trans f4))
 ·obtain⟨e4,f4⟩:=e3.gone i;exact e.bk _ _ H3 q3 e4 (f12.trans (f3.trans f4))
 ·obtain⟨e4,f4⟩:=e3.gone i;exact e.ct _ _ H3 q3 e4 (f12.trans (f3.trans f4))
def JA {a:Addr}:SndE K mg E (tC (.ref a)) (pC (.ref a)):=se_c fun _=>.ref a
def Bf (K:Za):List S->(S->Prop)->Prop
 | [s,t],R=>(match s.d,t.d with
  | .err C,.ref C'=>∃b,ExcR.ErrGet K C/\PySem.W.kitOne K (.ref C) (.ref C')=some b/\R (.sh (.bl b))
  | .err C,.ty n=>∃b,ExcR.ErrGet K C/\PySem.W.kitOne K (.ref C) (.type n)=some b/\R (.sh (.bl b))
  | _,_=>False)
 | _,_=>False
def Rp.err_inv {C:Addr}{v:V} (h:Rp K H (.err C) v):∃a,v=.ref a/\H a=some (ExcR.ErrH a C):=by
 cases h with
 | err h=>exact⟨_,rfl,h⟩
def Rp.ref_inv {a:Addr}{v:V} (h:Rp K H (.ref a) v):v=.ref a:=by cases h;rfl
def Jl {ta:TA}{r:PTA} (hr:SndA K mg E ta r):SndE K mg E (tCB (fun xs H Q=>∃(a C:Addr) (c:V) (b:Bool),xs=[.ref a,c]/\H a=some (ExcR.ErrH a C)/\ExcR.ErrGet K C/\(∃cv:Value,(∀u,RelV c u->u=cv)/\PySem.W.kitOne K (.ref C) cv=some b)/\Q (.bl b) H) ta) (pCB (Bf K) r):=by
 refine U0 hr fun H0 H H1 Z ss vs R Q s0 s1 hm tv h q=>?_;unfold Bf at h;split at h
 ·obtain⟨v,u,rfl,t1,t2⟩:=tv.two_inv;have r1:=t1.rp s0;have r2:=t2.rp s0;split at h
  ·rename_i C C' e1 e2;rw[e1] at r1;rw[e2] at r2;obtain⟨a,rfl,ha⟩:=r1.err_inv;obtain⟨b,h1,h2,h3⟩:=h;rw[r2.ref_inv];exact⟨a,C,_,b,rfl,ha,h1,⟨.ref C',fun u hu=>hu,h2⟩,q _ _ H1 h3 (Same.refl _) (.bl _)⟩
  ·rename_i C n e1 e2;rw[e1] at r1;rw[e2] at r2;obtain⟨a,rfl,ha⟩:=r1.err_inv;obtain⟨b,h1,h2,h3⟩:=h;rw[r2.ty_inv];exact⟨a,C,_,b,rfl,ha,h1,⟨.type n,fun u hu=>hu,h2⟩,q _ _ H1 h3 (Same.refl _) (.bl _)⟩
  ·exact h.elim
 ·exact h.elim
def HL (i:Nat) (b a:PTE):PTS:=fun R γ=>match γ[i]? with
 | some (some (.own (.lst ds)))=>a γ (fun s=>b γ (fun y=>match y.d with
   | .int k=>∃j d,ixN ds.length k=some j/\s.shd=some d/\R.nx (γ.set i (some (.own (.lst (ds.set j d)))))
   | _=>False) (R.ex γ)) (R.ex γ)
 | some (some (.own (.lsA x ds)))=>a γ (fun s=>b γ (fun y=>match y.d with
   | .int k=>∃j d,ixN ds.length k=some j/\s.shd=some d/\R.nx (γ.set i (some (.own (.lsA x (ds.set j d)))))
   | _=>False) (R.ex γ)) (R.ex γ)
 | _=>False
def Rps.set {d:D}{v:V} (h:Rp K H d v):∀{ds:List D}{vs:List V} (j:Nat),Rps K H ds vs->Rps K H (ds.set j d) (vs.set j v)
 | _,_,_,.nil=>.nil
 | _,_,0,.cons _ r=>.cons h r
 | _,_,j+1,.cons k r=>.cons k (Rps.set h j r)
def fRep:S->S->(S->Prop)->Prop:=fun x y R=>match x.d,y.d with
 | .lst ds,.int k=>x.free ds=true/\(-(2 ^ 63)<=k/\k<2 ^ 63)/\ds.length*k.toNat<=10000000/\R (.own (.lst (List.replicate k.toNat ds).flatten))
 | _,_=>False
def UQ:List D->Option (List V)
 | []=>some []
 | d::r=>match Bo d,UQ r with
  | some v,some vs=>some (v::vs)
  | _,_=>none
def KP:∀{ds:List D}{vs us:List V},Rps K H ds vs->UQ ds=some us->vs=us
 | [],_,_,.nil,e=>by cases e;rfl
 | d::r,_,us,.cons h t,e=>by
  unfold UQ at e;split at e
  ·rename_i v vs e1 e2;cases e
   rw[Gq h e1,KP t e2]
  ·cases e
def fEqV (neg:Bool):S->S->(S->Prop)->Prop:=fun x y R=>match x.d,y.d with
 | .lst ds,.lst es=>∃us ws,UQ ds=some us/\UQ es=some ws/\us.all Jf=true/\ws.all Jf=true/\R (.sh (.bl (if neg then !eqL us ws else eqL us ws)))
 | _,_=>False
def KI {neg:Bool}{ta tb:TE}{a b:PTE} (ha:SndE K mg E ta a) (hb:SndE K mg E tb b):SndE K mg E (tOp (rEqL K neg) ta tb) (p2 a b (fEqV neg)):=by
 refine se_2 ha hb fun H0 H H2 Z x y v u R Q s0 s1 hm tx ty h q=>?_;unfold fEqV at h;have rx:=tx.rp s0;have ry:=ty.rp s0;split at h
 ·rename_i ds es e1 e2;rw[e1] at rx;rw[e2] at ry;obtain⟨us,ws,h1,h2,h3,h4,h5⟩:=h;obtain⟨l,vs,rfl,hl,r⟩:=rx.lst_inv;obtain⟨m,vs',rfl,hm',r'⟩:=ry.lst_inv;rw[KP r h1] at hl;rw[KP r' h2] at hm';exact⟨l,m,us,ws,rfl,rfl,SqL.of hl,SqL.of hm',h3,h4,q _ _ H2 h5 (Same.refl _) (.bl _)⟩
 ·exact h.elim
def KA {X:Cx} (hu:X.A.units<cLine) (hK:X.K=K:=by rfl):OpR X (compareOp .Eq) (rEqL K false):=by subst hK;exact Ba hu
end
end Pu
namespace M
open PySem PySem.Spec PyProof.Rows L2 Own Pu
def oc (c:Int->Int->Int):List Int->Int
 | []=>0
 | a::r=>(r.map (c a)).sum+oc c r
end M
namespace Pu
open PySem PySem.Spec PyProof.Rows L2 Own
section
variable {K:Za}{mg:Str->Option Value}{E:L2.St->XK}{H0 H H1 H':Hp}{B Z Z':Addr->Prop}{σ:L2.St}{γ:Γ}
def O.from:O->O->Prop
 | .ins x _ _ cs,.ins x' _ _ cs'=>x'=x/\∀c∈cs,∃c'∈cs',c'.1=c.1
 | .lsA x _,.lsA x' _=>x'=x
 | _,_=>False
def O.from_adr {o o':O}{a:Addr} (h:o.from o'):∀b,o.adr a b->o'.adr a b:=by
 unfold O.from at h
 split at h
 ·intro b hb;rcases hb with hb|⟨c,hc,hb⟩
  ·exact .inl (hb.trans h.1.symm)
  ·obtain⟨c',q1,q2⟩:=h.2 c hc;exact .inr ⟨c',q1,hb.trans q2.symm⟩
 ·intro b hb;exact(show b=_ from hb).trans h.symm
 ·exact h.elim
def O.from_at {o o':O}{a a':Addr}{F F' H H':Hp} (h:o.from o') (h1:OR K F H a o) (h2:OR K F' H' a' o'):a'=a:=by
 unfold O.from at h
 split at h
 ·exact h2.1.trans (h.1.trans h1.1.symm)
 ·exact h2.1.trans (h.trans h1.1.symm)
 ·exact h.elim
abbrev Pw:=O->List S->(O->D->Prop)->(O->Str->Prop)->Prop
def S.pass:S->Option S
 | .sh d=>some (.sh d) | .own o=>some (.sh o.d)
 | .bor d=>match imm d with|true=>some (.sh d)|false=>some (.bor d)
 | .tmp d=>match imm d with|true=>some (.sh d)|false=>none
 | .view _=>none
def S.flat:S->Prop
 | .sh _=>True | .bor _=>True|_=>False
def passes:List S->Option (List S)
 | []=>some []
 | s::r=>match s.pass,passes r with|some s',some r'=>some (s'::r')|_,_=>none
structure After (K:Za) (B:Addr->Prop) (H:Hp) (a:Addr) (o o':O) (H':Hp):Prop where
 same:Same (off (o.adr a) H) H'
 old:∀b,o.adr a b->o'.adr a b
 new:∀b,o'.adr a b->o.adr a b\/H b=none
 at_:OR K (off (fun b=>B b\/o'.adr a b) H') H' a o'
def spW (mg:Str->Option Value) (c:Pw) (K:Za):Sp:=fun vs H Q E=>∃(o:O) (a:Addr) (ss:List S) (us:List V) (B:Addr->Prop) (R:O->D->Prop) (X:O->Str->Prop),
 vs=.ref a::us/\(∀b,B b->Mut (H b)/\¬o.adr a b)/\OR K (off (fun b=>B b\/o.adr a b) H) H a o/\TVs K (fun b=>B b\/o.adr a b) (off (o.adr a) H) H H ss us/\(∀s∈ss,s.flat)/\c o ss R X/\
 (∀o' d v H',R o' d->After K B H a o o' H'->Rp K (off (fun b=>B b\/o'.adr a b) H') d v->Q v H')/\∀o' e H',X o' e->After K B H a o o' H'->E (.ref (ExcR.Vb mg e)) none H'
def TVs.get:∀{ss:List S}{vs:List V}{i:Nat}{s:S},TVs K Z H0 H H' ss vs->ss[i]?=some s->∃v,vs[i]?=some v/\TV K Z H0 H H' s v
 | _,_,_,_,.nil,e=>by simp at e
 | _,_,0,_,.cons h _,e=>by simp at e;subst e;exact⟨_,rfl,h⟩
 | _,_,i+1,s,.cons _ r,e=>by
  obtain⟨v,h1,h2⟩:=TVs.get (i:=i) (s:=s) r (by simpa using e);exact⟨v,by simpa using h1,h2⟩
def Us (N:List Str) (o:O) (ss:List S):Γ:=some (.own o)::(ss.map some++List.replicate (N.length-(ss.length+1)) none)
def En {N:List Str}{o:O}{a:Addr}{ss:List S}{us:List V} (hB:∀b,B b->Mut (H b)/\¬o.adr a b) (ho:OR K (off (fun b=>B b\/o.adr a b) H) H a o) (r:TVs K (fun b=>B b\/o.adr a b) (off (o.adr a) H) H H ss us) (hf:∀s∈ss,s.flat) (hn:ss.length+1<=N.length) :
  EnvR K (off (o.adr a) H) B H (start N (.ref a::us)) (Us N o ss):=by
 have hlen:=r.len
 have get:∀(i:Nat) (s:S),(Us N o ss)[i+1]?=some (some s)->ss[i]?=some s:=fun i s h=>by
  unfold Us at h;rw[Yx] at h;by_cases hi:i<ss.length
  ·rw[Y3 (by rw[ZR];exact hi),ZY,ZS hi] at h;rw[ZS hi];exact Y0 some (Ya (Ya h))
  ·rw[Yz (by rw[ZR];omega),YS] at h;split at h<;>cases h
 have noown:∀(i:Nat) (es:O),(Us N o ss)[i+1]?≠some (some (.own es)):=fun i es h=>hf _ (Yh (get i _ h))
 have st0:(start N (V.ref a::us))[0]?=some (some (.ref a)):=by
  unfold L2.start;rfl
 have hz:∀b,zof B (Us N o ss) (start N (V.ref a::us)) b->B b\/o.adr a b:=fun b z=>by
  rcases z with z|⟨i,es,a',h1,h2,h3⟩
  ·exact .inl z
  ·cases i with
   | zero=>
    rw[st0] at h2;cases h2
    have:o=es:=by
     have h1:some (some (S.own o))=some (some (S.own es)):=h1;cases h1
     rfl
    subst this;exact .inr h3
   | succ i=>exact absurd h1 (noown i es)
 refine⟨off_sub,?_,fun b h=>(hB b h).1,fun i j x x' es es' b h1 h2 _ _ _ _=>?_,fun i s h=>?_⟩
 ·unfold L2.start Us;simp[hlen]
 ·cases i with
  | succ i=>exact absurd h1 (noown i es)
  | zero=>
   cases j with
   | zero=>rfl
   | succ j=>exact absurd h2 (noown j es')
 ·cases i with
  | zero=>
   have h:some (some (S.own o))=some (some s):=h;cases h
   refine⟨_,st0,a,rfl,fun b hb=>?_,ho.mono (Vy (Same.refl _) fun b _ _ z y=>z (hz b y)) fun _ _ _ q=>q⟩;unfold off;rw[ZV hb]
  | succ i=>
   have hs:=get i s h;obtain⟨v,hv,tv⟩:=r.get hs;refine⟨v,?_,?_⟩
   ·unfold L2.start;rw[Y3 (by rw[ZR,Ys];have:=(Yo.mp hv).1;omega),ZY,Yx,hv];rfl
   ·have:=hf s (Yh hs)
    cases s with
    | bor d=>exact tv
    | sh d=>exact Rp.mono (Vy (Same.refl _) fun b _ _ z y=>z (hz b y)) tv
    | own _=>exact this.elim
    | view _=>exact this.elim
    | tmp _=>exact this.elim
def finW (o:O) (R:O->D->Prop) (γ:Γ) (d:D):Prop:=∃o',γ[0]?=some (some (.own o'))/\o.from o'/\R o' d
def finX (o:O) (X:O->Str->Prop) (γ:Γ) (e:Str):Prop:=∃o',γ[0]?=some (some (.own o'))/\o.from o'/\X o' e
def BH (o:O) (R:O->D->Prop) (X:O->Str->Prop):PEnds:={ nx:=fun γ=>finW o R γ .non,rt:=fun _=>False,ex:=finX o X,rv:=finW o R }
def Nd {a:Addr}{o o':O}{σ':L2.St}{γ':Γ} (ho:OR K (off (fun b=>B b\/o.adr a b) H) H a o) (e:EnvR K (off (o.adr a) H) B H' σ' γ') (h:γ'[0]?=some (some (.own o'))) (k:o.from o'):After K B H a o o' H'/\∀b,B b\/o'.adr a b->zof B γ' σ' b:=by
 obtain⟨v,h1,a',rfl,h2,h3⟩:=e.slot 0 _ h;have ea:=O.from_at k ho h3;subst ea;have hz:∀b,B b\/o'.adr a' b->zof B γ' σ' b:=fun b z=>z.imp id fun z=>⟨0,o',a',h,h1,z⟩;refine⟨⟨e.same,O.from_adr k,fun b hb=>?_,h3.mono (Vy (Same.refl _) fun b _ _ z y=>z (hz b y)) fun _ _ _ q=>q⟩,hz⟩
 have:=h2 b hb
 unfold off at this;by_cases q:o.adr a' b
 ·exact .inl q
 ·rw[ZU q] at this;exact .inr this
def Gn {c:Pw}{N:List Str}{t:TS}{p:PTS}{vs:List V}{Q:VK}{Ec:XK}{n:Nat} (h:spW mg c K vs H Q Ec) (snd:SndS K mg (fun _=>Ec) t p) (hn:n+1<=N.length)
  (hp:∀o ss R X,c o ss R X->ss.length=n/\p (BH o R X) (Us N o ss)):t { nx:=fun _ H'=>Q .non H',rt:=Q } (start N vs) H:=by
 obtain⟨o,a,ss,us,B,R,X,rfl,hB,ho,r,hf,hc,hQ,hX⟩:=h;obtain⟨e,hp⟩:=hp o ss R X hc;have env:=En (N:=N) hB ho r hf (by rw[e];exact hn);refine snd _ B H _ _ _ _ (fun b z=>?_) env hp ⟨fun σ' γ' H' h1 e1 f1=>?_,fun _ _ _ z=>z.elim,fun σ' γ' c H' h1 e1 f1=>?_,fun _ _ _ z=>z.elim,fun _ _ _ z=>z.elim,fun σ' γ' d v H' h1 e1 f1 rd=>?_⟩
 ·obtain⟨q1,q2⟩:=hB b z;obtain⟨x,hx⟩:=Ul q1;exact⟨x,VM hx q2⟩
 ·obtain⟨o',q1,q2,q3⟩:=h1;exact hQ o' .non .non H' q3 (Nd ho e1 q1 q2).1 .non
 ·obtain⟨o',q1,q2,q3⟩:=h1;exact hX o' c H' q3 (Nd ho e1 q1 q2).1
 ·obtain⟨o',q1,q2,q3⟩:=h1;obtain⟨k1,k2⟩:=Nd ho e1 q1 q2;exact hQ o' d v H' q3 k1 (Rp.mono (Vy (Same.refl _) fun b _ _ z y=>z (k2 b y)) rd)
def Ex {c:Pw}{vs:List V}{Q:VK}{Ec:XK}{n:Nat} (h:spW mg c K vs H Q Ec) (hn:∀o ss R X,c o ss R X->ss.length=n):vs.length=n+1:=by
 obtain⟨o,a,ss,us,B,R,X,rfl,_,_,r,_,hc,_⟩:=h;rw[Ys,r.len,hn o ss R X hc]
abbrev PTW:=Γ->(Γ->D->Prop)->(Γ->Str->Prop)->Prop
def SndW (K:Za) (mg:Str->Option Value) (E:L2.St->XK) (t:TE) (p:PTW):Prop:=∀(H0:Hp) (B:Addr->Prop) (H:Hp) (σ:L2.St) (γ:Γ) (R:Γ->D->Prop) (X:Γ->Str->Prop) (Q:VK),(∀b,B b->∃o,H0 b=some o)->EnvR K H0 B H σ γ->p γ R X->
 (∀γ' d v H',R γ' d->EnvR K H0 B H' σ γ'->Fr B H σ γ H' σ γ'->Rp K (off (zof B γ' σ) H') d v->Q v H')->(∀γ' c H',X γ' c->EnvR K H0 B H' σ γ'->Fr B H σ γ H' σ γ'->E σ (.ref (ExcR.Vb mg c)) none H')->t σ H Q
variable {te:TE}{w:PTW}
def A1 (w:PTW) (g:PTG):PTS:=fun R γ=>w γ (fun γ' d=>g (.sh d) γ' R.nx) R.ex
def XZ {is:List Nat}{g:TG}{pg:PTG} (hw:SndW K mg E te w) (hg:UJ K is g pg):SndS K mg E (tAsg te g) (A1 w pg):=by
 intro H0 B H σ γ R D hB env h e;refine hw H0 B H σ γ _ _ _ hB env h (fun γ' d v H1 h1 e1 f1 rd=>?_) fun γ' c H' hc e' f'=>e.ex σ γ' c H' hc e' f';exact hg H0 B H1 H1 σ γ' (.sh d) v _ _ e1 (Same.refl _) rd h1 fun σ2 γ2 h2 e2 f2 _=>e.nx σ2 γ2 H1 h2 e2 (f1.trans f2)
def EO (w:PTW):PTS:=fun R γ=>w γ (fun γ' _=>R.nx γ') R.ex
def X3 (hw:SndW K mg E te w):SndS K mg E (Xo te) (EO w):=by
 intro H0 B H σ γ R D hB env h e;exact hw H0 B H σ γ _ _ _ hB env h (fun γ' d v H1 h1 e1 f1 _=>e.nx σ γ' H1 h1 e1 f1) fun γ' c H' hc e' f'=>e.ex σ γ' c H' hc e' f'
def Ar (w:PTW):PTS:=fun R γ=>w γ R.rv R.ex
def JV (hw:SndW K mg E te w):SndS K mg E (tRet te) (Ar w):=by
 intro H0 B H σ γ R D hB env h e;exact hw H0 B H σ γ _ _ _ hB env h (fun γ' d v H1 h1 e1 f1 rd=>e.rv σ γ' d v H1 h1 e1 f1 rd) fun γ' c H' hc e' f'=>e.ex σ γ' c H' hc e' f'
def Hu (a:PTE):PTS:=fun R γ=>a γ (fun s=>match s.shd with|some d=>R.rv γ d|none=>False) (R.ex γ)
def Xj {a:PTE} (ha:SndE K mg E te a):SndS K mg E (tRet te) (Hu a):=by
 intro H0 B H σ γ R D hB env h e;refine ha H0 B H σ γ _ _ _ env h (fun s v H1 h1 S1 t1=>?_) fun c H' hc S'=>e.ex σ γ c H' hc (env.grow S') (Fr.grow S');split at h1
 ·rename_i d ed;exact e.rv σ γ d v H1 h1 (env.grow S1) (Fr.grow S1) (t1.shd (env.grow S1).same env.zm S1 ed)
 ·exact h1.elim
def Au {s s':S} (h:s.pass=some s'):s'.flat:=by
 cases s with
 | sh d=>cases h;trivial
 | own o=>cases h;trivial
 | bor d=>unfold S.pass at h;cases q:imm d<;>simp[q] at h<;>subst h<;>trivial
 | tmp d=>
  unfold S.pass at h;cases q:imm d<;>simp[q] at h
  subst h;trivial
 | view o=>cases h
def Xx:∀{ss ss':List S},passes ss=some ss'->∀s∈ss',s.flat
 | [],_,h=>by cases h;simp
 | s::r,_,h=>by
  unfold passes at h;split at h
  ·rename_i s1 r1 e1 e2;cases h
   intro x hx;rcases Ym.mp hx with rfl|hx
   ·exact Au e1
   ·exact Xx e2 x hx
  ·cases h
def TV.pass {s s':S}{v:V}{P W:Addr->Prop}{HB:Hp} (h0:Same H0 H') (hm:∀b,Z b->Mut (H b)) (S1:Same H H') (hb:Same H0 (off P HB)) (hs:Same (off Z H') (off W HB)) (h:TV K Z H0 H H' s v) (e:s.pass=some s'):TV K W (off P HB) HB HB s' v:=by
 have shd:∀d,s.shd=some d->Rp K (off W HB) d v:=fun d ed=>Rp.mono hs (h.shd h0 hm S1 ed);cases s with
 | sh d=>cases e;exact shd _ rfl
 | own o=>cases e;exact shd _ rfl
 | view o=>cases e
 | tmp d=>
  unfold S.pass at e;cases q:imm d with
  | false=>simp[q] at e
  | true=>simp[q] at e;subst e;exact shd d (by unfold S.shd;simp[q])
 | bor d=>
  unfold S.pass at e;cases q:imm d with
  | false=>simp[q] at e;subst e;exact Rp.mono hb h
  | true=>simp[q] at e;subst e;exact shd d (by unfold S.shd;simp[q])
def TVs.pass {P W:Addr->Prop}{HB:Hp} (h0:Same H0 H') (hm:∀b,Z b->Mut (H b)) (S1:Same H H') (hb:Same H0 (off P HB)) (hs:Same (off Z H') (off W HB)):∀{ss ss':List S}{vs:List V},TVs K Z H0 H H' ss vs->passes ss=some ss'->TVs K W (off P HB) HB HB ss' vs
 | _,_,_,.nil,e=>by cases e;exact .nil
 | _,_,_,.cons h r,e=>by
  unfold passes at e;split at e
  ·rename_i s1 r1 e1 e2;cases e
   exact .cons (h.pass h0 hm S1 hb hs e1) (TVs.pass h0 hm S1 hb hs r e2)
  ·cases e
def Kt {c:Pw}{i:Nat}{o:O}{a:Addr}{ss ss':List S}{us:List V}{R:Γ->D->Prop}{X:Γ->Str->Prop}{Q:VK}{Ec:XK} (env:EnvR K H0 B H σ γ) (hB:∀b,B b->∃o,H0 b=some o) (S1:Same H H1) (hi:γ[i]?=some (some (.own o))) (ha:σ[i]?=some (some (.ref a)))
  (t1:TVs K (zof B γ σ) H0 H H1 ss us) (hp:passes ss=some ss') (hc:c o ss' (fun o' d=>R (γ.set i (some (.own o'))) d) (fun o' e=>X (γ.set i (some (.own o'))) e))
  (q:∀γ' d v H',R γ' d->EnvR K H0 B H' σ γ'->Fr B H σ γ H' σ γ'->Rp K (off (zof B γ' σ) H') d v->Q v H') (qx:∀γ' c H',X γ' c->EnvR K H0 B H' σ γ'->Fr B H σ γ H' σ γ'->Ec (.ref (ExcR.Vb mg c)) none H'):spW mg c K (.ref a::us) H1 Q Ec:=by
 have env1:=env.grow S1;obtain⟨v,h1,a',ev,h3,h4⟩:=env1.slot i _ hi;rw[ha] at h1;cases h1
 cases ev
 have za:∀b,o.adr a b->zof B γ σ b:=fun b hb=>.inr ⟨i,o,a,hi,ha,hb⟩
 have aft:∀o' H',After K (fun b=>zof B γ σ b/\¬o.adr a b) H1 a o o' H'->EnvR K H0 B H' σ (γ.set i (some (.own o')))/\Fr B H σ γ H' σ (γ.set i (some (.own o')))/\∀b x,H' b=some x->¬((zof B γ σ b/\¬o.adr a b)\/o'.adr a b)->¬zof B (γ.set i (some (.own o'))) σ b:=fun o' H' A=>by
  have hzz:∀b x,H' b=some x->¬((zof B γ σ b/\¬o.adr a b)\/o'.adr a b)->¬zof B (γ.set i (some (.own o'))) σ b:=fun b x _ n z=>by
   rcases z with z|⟨j,fs,a',e1,e2,e3⟩
   ·refine n (.inl ⟨.inl z,fun w=>?_⟩);obtain⟨u,hu⟩:=hB b z;rw[h3 b w] at hu;cases hu
   ·rcases VD e1 with⟨ej,q,_⟩|⟨nj,q⟩
    ·subst ej;cases q
     rw[ha] at e2;cases e2
     exact n (.inr e3)
    ·exact n (.inl ⟨.inr ⟨j,fs,a',q,e2,e3⟩,fun w=>nj (env.own j i a' a fs o b q hi e2 ha e3 w)⟩)
  obtain⟨k1,k2⟩:=env1.change (o':=o') (H':=H') hi ha (fun b x hx n=>A.same b x (VM hx n)) (fun b hb=>A.at_.mut b (A.old b hb)) A.new (A.at_.mono (Vy (Same.refl _) fun b x hx z=>hzz b x hx z) fun _ _ _ q=>q);exact⟨k1,(Fr.grow S1).trans k2,hzz⟩
 refine⟨o,a,ss',us,fun b=>zof B γ σ b/\¬o.adr a b,_,_,rfl,fun b hb=>⟨env1.zm b hb.1,hb.2⟩,h4.mono (Vy (Same.refl _) fun b _ _ z y=>z (y.elim (fun y=>y.1) (za b))) fun _ _ _ q=>q,?_,Xx hp,hc,fun o' d v H' hR A rd=>?_,fun o' e H' hX A=>?_⟩
 ·refine t1.pass env1.same env.zm S1 (fun b x hx=>VM (env1.same b x hx) fun w=>?_) (Vy (Same.refl _) fun b _ _ z y=>z (y.elim (fun y=>y.1) (za b))) hp;rw[h3 b w] at hx;cases hx
 ·obtain⟨k1,k2,k3⟩:=aft o' H' A;exact q _ d v H' hR k1 k2 (Rp.mono (fun b x h=>let ⟨p1,p2⟩:=JF h;VM p1 (k3 b x p1 p2)) rd)
 ·obtain⟨k1,k2,_⟩:=aft o' H' A;exact qx _ e H' hX k1 k2
def P2 (i:Nat) (c:Pw) (r:PTA):PTW:=fun γ R X=>match γ[i]? with
 | some (some (.own o))=>r γ (fun ss=>match passes ss with|some ss'=>c o ss' (fun o' d=>R (γ.set i (some (.own o'))) d) (fun o' e=>X (γ.set i (some (.own o'))) e)|none=>False) (X γ)
 | _=>False
def HD (i:Nat) {c:Pw}{ta:TA}{r:PTA} (hr:SndA K mg E ta r) {Ec:L2.St->XK} (hE:∀σ,Ec σ=E σ):SndW K mg E (fun σ H Q=>VN (tVar i) ta σ H fun vs H1=>spW mg c K (vs++[]) H1 Q (Ec σ)) (P2 i c r):=by
 intro H0 B H σ γ R X Q hB env h q qx;unfold P2 at h;split at h
 ·rename_i o hi;obtain⟨v,hv,a,rfl,_,_⟩:=env.slot i _ hi;refine⟨_,hv,hr H0 B H σ γ _ _ _ env h (fun ss us H1 h1 S1 t1=>?_) fun c H' hc S'=>qx γ c H' hc (env.grow S') (Fr.grow S')⟩;show spW mg c K ((V.ref a::us)++[]) H1 Q (Ec σ);rw[Yw,hE];split at h1
  ·rename_i ss' ep;exact Kt env hB S1 hi hv t1 ep h1 q qx
  ·exact h1.elim
 ·exact h.elim
def FJ (i:Nat) {c:Pw}{ta:TA}{r:PTA} (hr:SndA K mg E ta r):SndW K mg E (ExcR.B4 (spW mg c K) E (VN (tVar i) ta)) (P2 i c r):=HD i hr fun _=>rfl
def F1 (i:Nat) (c:Pw) (r:PTA):PTW:=fun γ R X=>match γ[i]? with
 | some (some (.own o))=>r γ (fun ss=>match passes ss with|some ss'=>c o ss' (fun o' d=>R (γ.set i (some (.own o'))) d) (fun _ _=>False)|none=>False) (X γ)
 | _=>False
def Ci (i:Nat) {c:Pw}{ta:TA}{r:PTA} (hr:SndA K mg E ta r):SndW K mg E (U4 (spW mg c K) [] E0 (VN (tVar i) ta)) (F1 i c r):=by
 intro H0 B H σ γ R X Q hB env h q qx;unfold F1 at h;split at h
 ·rename_i o hi;obtain⟨v,hv,a,rfl,_,_⟩:=env.slot i _ hi;refine⟨_,hv,hr H0 B H σ γ _ _ _ env h (fun ss us H1 h1 S1 t1=>?_) fun c H' hc S'=>qx γ c H' hc (env.grow S') (Fr.grow S')⟩;show spW mg c K ((V.ref a::us)++[]) H1 Q E0;rw[Yw];split at h1
  ·rename_i ss' ep;exact Kt (X:=fun _ _=>False) env hB S1 hi hv t1 ep h1 q fun _ _ _ z=>z.elim
  ·exact h1.elim
 ·exact h.elim
def fFld (C:Addr) (xs:List Str) (j:Nat):S->(S->Prop)->Prop
 | .view (.ins _ C' xs' cs),R=>C'=C/\xs'=xs/\∃c,cs[j]?=some c/\R (.view (.lst c.2))
 | .bor (.ins C' xs' ds),R=>C'=C/\xs'=xs/\∃d,ds[j]?=some d/\R (arg d)
 | _,_=>False
def pFld (C:Addr) (xs:List Str) (j:Nat) (a:PTE):PTE:=fun γ R X=>a γ (fun s=>fFld C xs j s R) X
def Rp.ins_inv {C:Addr}{xs:List Str}{ds:List D}{v:V} (h:Rp K H (.ins C xs ds) v):∃a dx vs,v=.ref a/\H a=some (.ins C dx (xs.zip vs))/\xs.length=vs.length/\Rps K H ds vs:=by
 cases h with
 | ins h e r=>exact⟨_,_,_,rfl,h,e,r⟩
def Xh (f:Str) (xs:List Str) (j:Nat):Prop:=∀vs:List V,xs.length=vs.length->(xs.zip vs).lookup f=vs[j]?
def Uj {C:Addr}{f:Str}{xs:List Str} (j:Nat) {a:PTE} (hc:Cls K C) (hn:NoAttr K C f) (hj:Xh f xs j) (ha:SndE K mg E te a):SndE K mg E (tFld K te f) (pFld C xs j a):=by
 intro H0 B H σ γ R X Q env p q qx;refine ha H0 B H σ γ _ X _ env p (fun s v H1 h1 S1 t1=>?_) qx;have env1:=env.grow S1;unfold fFld at h1;split at h1
 ·rename_i x C' xs' cs;obtain⟨rfl,rfl,c,ec,hR⟩:=h1;obtain⟨b,rfl,e1,e2,⟨dx,e3⟩,e4,e5⟩:=t1;obtain⟨us,u1,u2⟩:=e4 c (Yh ec);refine⟨b,_,dx,_,_,rfl,e3,hc,hn,?_,q _ _ H1 hR S1 ⟨c.1,rfl,us,u1,u2⟩⟩;rw[hj _ (by rw[ZR];exact e2),ZY,ec];rfl
 ·rename_i C' xs' ds;obtain⟨rfl,rfl,d,ed,hR⟩:=h1;obtain⟨b,dx,vs,rfl,e1,e2,e3⟩:=Rp.ins_inv (show Rp K H0 (.ins C' xs' ds) v from t1)
  obtain⟨u,hu,ru⟩:=e3.get ed;refine⟨b,_,dx,_,u,rfl,env1.same _ _ e1,hc,hn,by rw[hj _ e2];exact hu,q _ _ H1 hR S1 (argR env1.zm env1.same ru)⟩
 ·exact h1.elim
def Fg (C:Addr) (xs:List Str) (c:Pc) (a:PTE) (r:PTA):PTE:=fun γ R X=>a γ (fun s=>match s.d with
 | .ins C' xs' ds=>C'=C/\xs'=xs/\r γ (fun ss=>c (.ins C' xs' ds::ss.map S.d) (fun s=>R s.back) X) X
 | _=>False) X
def Ji (m:Str) (xs:List Str):Prop:=∀vs:List V,(xs.zip vs).lookup m=none
def KF (C:Addr) (m:Str) (sp:Sp) (E:L2.St->XK) (ta:TE) (t:TA):TE:=fun σ H Q=>ta σ H fun x H1=>∃a dx fs,x=.ref a/\H1 a=some (.ins C dx fs)/\fs.lookup m=none/\t σ H1 fun vs H2=>sp (x::(vs++[])) H2 Q (E σ)
def NJ {C:Addr}{m:Str}{xs:List Str}{c:Pc}{ta:TA}{a:PTE}{r:PTA} (hx:Ji m xs) (ha:SndE K mg E te a) (hr:SndA K mg E ta r):SndE K mg E (KF C m (spOf mg c K) E te ta) (Fg C xs c a r):=by
 intro H0 B H σ γ R X Q env p q qx;refine ha H0 B H σ γ _ X _ env p (fun s v H1 h1 S1 t1=>?_) qx;have env1:=env.grow S1;split at h1
 ·rename_i C' xs' ds ed;obtain⟨rfl,rfl,h1⟩:=h1;have rs:=t1.rp env1.same;rw[ed] at rs;obtain⟨b,dx,vs,rfl,e1,e2,e3⟩:=Rp.ins_inv rs;refine⟨b,dx,_,rfl,e1,hx vs,hr H0 B H1 σ γ _ X _ env1 h1 (fun ss us H2 h2 S2 t2=>?_) fun c H' hc S'=>qx c H' hc (S1.trans S')⟩;have env2:=env1.grow S2;rw[Yw];refine⟨_,_,X,Rps.cons (Rp.mono S2 rs) (t2.rps env2.same),h2,fun s v H' hs S3 tv=>q _ _ H' hs ((S1.trans S2).trans S3) (tv.back env2 (S1.trans S2) S3),fun e H' he S3=>qx e H' he ((S1.trans S2).trans S3)⟩
 ·exact h1.elim
def X8 {C:Addr}{m:Str}{xs:List Str}{c:Pc}{ta:TA}{a:PTE}{r:PTA}{Ec:XK} (hx:Ji m xs) (ha:SndE K mg (fun _=>Ec) te a) (hr:SndA K mg (fun _=>Ec) ta r):SndE K mg (fun _=>Ec) (Ur C m (spOf mg c K) [] Ec te ta) (Fg C xs c a r):=NJ (E:=fun _=>Ec) hx ha hr
def GD (C:Addr) (xs:List Str) (c:Pc) (a:PTE) (r:PTA):PTE:=fun γ R X=>a γ (fun s=>match s.d with
 | .ins C' xs' ds=>C'=C/\xs'=xs/\r γ (fun ss=>c (.ins C' xs' ds::ss.map S.d) (fun s=>R s.back) fun _=>False) X
 | _=>False) X
def J8 {C:Addr}{m:Str}{xs:List Str}{c:Pc}{ta:TA}{a:PTE}{r:PTA} (hx:Ji m xs) (ha:SndE K mg E te a) (hr:SndA K mg E ta r):SndE K mg E (Ur C m (spOf mg c K) [] E0 te ta) (GD C xs c a r):=by
 intro H0 B H σ γ R X Q env p q qx;refine ha H0 B H σ γ _ X _ env p (fun s v H1 h1 S1 t1=>?_) qx;have env1:=env.grow S1;split at h1
 ·rename_i C' xs' ds ed;obtain⟨rfl,rfl,h1⟩:=h1;have rs:=t1.rp env1.same;rw[ed] at rs;obtain⟨b,dx,vs,rfl,e1,e2,e3⟩:=Rp.ins_inv rs;refine⟨b,dx,_,rfl,e1,hx vs,hr H0 B H1 σ γ _ X _ env1 h1 (fun ss us H2 h2 S2 t2=>?_) fun c H' hc S'=>qx c H' hc (S1.trans S')⟩;have env2:=env1.grow S2;rw[Yw];exact⟨_,_,_,Rps.cons (Rp.mono S2 rs) (t2.rps env2.same),h2,fun s v H' hs S3 tv=>q _ _ H' hs ((S1.trans S2).trans S3) (tv.back env2 (S1.trans S2) S3),fun _ _ z=>z.elim⟩
 ·exact h1.elim
def Td (i:Nat) (C:Addr) (xs:List Str) (c:Pw) (r:PTA):PTW:=fun γ R X=>match γ[i]? with
 | some (some (.own (.ins x C' xs' cs)))=>C'=C/\xs'=xs/\r γ (fun ss=>match passes ss with|some ss'=>c (.ins x C' xs' cs) ss' (fun o' d=>R (γ.set i (some (.own o'))) d) (fun o' e=>X (γ.set i (some (.own o'))) e)|none=>False) (X γ)
 | _=>False
def Fu (i:Nat) {C:Addr}{m:Str}{xs:List Str}{c:Pw}{ta:TA}{r:PTA} (hx:Ji m xs) (hr:SndA K mg E ta r):SndW K mg E (KF C m (spW mg c K) E (tVar i) ta) (Td i C xs c r):=by
 intro H0 B H σ γ R X Q hB env h q qx;unfold Td at h;split at h
 ·rename_i x C' xs' cs hi;obtain⟨rfl,rfl,h⟩:=h;obtain⟨v,hv,a,rfl,_,e1,e2,⟨dx,e3⟩,e4⟩:=env.slot i _ hi;refine⟨_,hv,a,dx,_,rfl,e3,hx _,hr H0 B H σ γ _ _ _ env h (fun ss us H1 h1 S1 t1=>?_) fun c H' hc S'=>qx γ c H' hc (env.grow S') (Fr.grow S')⟩;rw[Yw];split at h1
  ·rename_i ss' ep;exact Kt env hB S1 hi hv t1 ep h1 q qx
  ·exact h1.elim
 ·exact h.elim
def XO (i:Nat) {C:Addr}{m:Str}{xs:List Str}{c:Pw}{ta:TA}{r:PTA}{Ec:XK} (hx:Ji m xs) (hr:SndA K mg (fun _=>Ec) ta r):SndW K mg (fun _=>Ec) (Ur C m (spW mg c K) [] Ec (tVar i) ta) (Td i C xs c r):=Fu (E:=fun _=>Ec) i hx hr
def Sj (i:Nat) (C:Addr) (xs:List Str) (c:Pw) (r:PTA):PTW:=fun γ R X=>match γ[i]? with
 | some (some (.own (.ins x C' xs' cs)))=>C'=C/\xs'=xs/\r γ (fun ss=>match passes ss with|some ss'=>c (.ins x C' xs' cs) ss' (fun o' d=>R (γ.set i (some (.own o'))) d) (fun _ _=>False)|none=>False) (X γ)
 | _=>False
def X6 (i:Nat) {C:Addr}{m:Str}{xs:List Str}{c:Pw}{ta:TA}{r:PTA} (hx:Ji m xs) (hr:SndA K mg E ta r):SndW K mg E (Ur C m (spW mg c K) [] E0 (tVar i) ta) (Sj i C xs c r):=by
 intro H0 B H σ γ R X Q hB env h q qx;unfold Sj at h;split at h
 ·rename_i x C' xs' cs hi;obtain⟨rfl,rfl,h⟩:=h;obtain⟨v,hv,a,rfl,_,e1,e2,⟨dx,e3⟩,e4⟩:=env.slot i _ hi;refine⟨_,hv,a,dx,_,rfl,e3,hx _,hr H0 B H σ γ _ _ _ env h (fun ss us H1 h1 S1 t1=>?_) fun c H' hc S'=>qx γ c H' hc (env.grow S') (Fr.grow S')⟩;rw[Yw];split at h1
  ·rename_i ss' ep;exact Kt (X:=fun _ _=>False) env hB S1 hi hv t1 ep h1 q fun _ _ _ z=>z.elim
  ·exact h1.elim
 ·exact h.elim
def Pf {α:Type}:∀{l:List α}{i j:Nat}{x:α},l.Nodup->l[i]?=some x->l[j]?=some x->i=j
 | [],_,_,_,_,h,_=>by simp at h
 | y::r,0,0,_,_,_,_=>rfl
 | y::r,0,j+1,x,hn,h1,h2=>by
  have e:y=x:=by simpa using h1
  exact absurd (e▸Yh (show r[j]?=some x by simpa using h2)) (YX.mp hn).1
 | y::r,i+1,0,x,hn,h1,h2=>by
  have e:y=x:=by simpa using h2
  exact absurd (e▸Yh (show r[i]?=some x by simpa using h1)) (YX.mp hn).1
 | y::r,i+1,j+1,x,hn,h1,h2=>Y0 (· + 1) (Pf (l:=r) (YX.mp hn).2 (by simpa using h1) (by simpa using h2))
def EnvR.cell {i j:Nat}{x C:Addr}{xs:List Str}{cs:List (Addr×List D)}{b:Addr}{ds es:List D}{us:List V} (env:EnvR K H0 B H σ γ) (hi:γ[i]?=some (some (.own (.ins x C xs cs)))) (hj:cs[j]?=some (b,ds)) (r:Rps K (off (zof B γ σ) H) es us) :
  EnvR K H0 B (upd H b (.lst us)) σ (γ.set i (some (.own (.ins x C xs (cs.set j (b,es))))))/\Fr B H σ γ (upd H b (.lst us)) σ (γ.set i (some (.own (.ins x C xs (cs.set j (b,es)))))):=by
 obtain⟨v,hv,a,rfl,e0,e1,e2,⟨dx,e3⟩,e4,e5⟩:=env.slot i _ hi;subst e1;have hjl:j<cs.length:=(Yo.mp hj).1;have hbm:(b,ds)∈cs:=Yh hj
 have hab:a≠b:=fun z=>by
  obtain⟨ws,w1,_⟩:=e4 _ hbm;rw[←show a=b from z,e3] at w1
  cases w1
 have em:(cs.set j (b,es)).map (·.1)=cs.map (·.1):=by
  apply List.ext_getElem?;intro k;rw[ZY,ZY,WB];by_cases e:j=k
  ·subst e;rw[ZV rfl,ZV hjl,hj];rfl
  ·rw[ZU e]
 have em2:(cs.set j (b,es)).map (fun c=>V.ref c.1)=cs.map fun c=>V.ref c.1:=by
  have:=Y0 (List.map V.ref) em
  rw[Wf,Wf] at this;exact this
 have adr:∀c,(O.ins a C xs (cs.set j (b,es))).adr a c->(O.ins a C xs cs).adr a c:=fun c hc=>by
  rcases hc with hc|⟨d,hd,hc⟩
  ·exact .inl hc
  ·have:d.1∈(cs.set j (b,es)).map (·.1):=List.mem_map_of_mem hd
   rw[em] at this;obtain⟨d',q1,q2⟩:=Wq.mp this;exact .inr ⟨d',q1,hc.trans q2.symm⟩
 have zb:∀c,(O.ins a C xs cs).adr a c->zof B γ σ c:=fun c hc=>.inr ⟨i,_,a,hi,hv,hc⟩
 have So:Same (off (zof B γ σ) H) (off (zof B (γ.set i (some (.own (.ins a C xs (cs.set j (b,es)))))) σ) (upd H b (.lst us))):=fun c u h=>by
  obtain⟨q1,q2⟩:=JF h;have nb:c≠b:=fun z=>q2 (zb c (.inr ⟨_,hbm,z⟩));refine VM (by rw[V1 nb];exact q1) fun z=>q2 ?_;rcases z with z|⟨k,fs,a',k1,k2,k3⟩
  ·exact .inl z
  ·rcases VD k1 with⟨ek,q,_⟩|⟨_,q⟩
   ·subst ek;cases q
    rw[hv] at k2;cases k2
    exact zb c (adr c k3)
   ·exact .inr ⟨k,fs,a',q,k2,k3⟩
 refine env.change hi hv (fun c u hu n=>?_) (fun c hc=>?_) (fun c hc=>.inl (adr c hc)) ⟨rfl,by rw[YE];exact e2,⟨dx,?_⟩,fun c hc=>?_,by rw[em];exact e5⟩
 ·rw[V1 fun z=>n (.inr ⟨_,hbm,z⟩)];exact hu
 ·by_cases z:c=b
  ·rw[z,VQ];trivial
  ·rw[V1 z];exact env.zm c (zb c hc)
 ·rw[V1 hab,em2];exact e3
 ·obtain⟨k,hk,ek⟩:=List.getElem_of_mem hc;have hk':(cs.set j (b,es))[k]?=some c:=by rw[ZS hk,ek]
  rcases VD hk' with⟨_,q,_⟩|⟨nk,q⟩
  ·subst q;exact⟨us,VQ,Rps.mono So r⟩
  ·obtain⟨ws,w1,w2⟩:=e4 c (Yh q)
   have nb:c.1≠b:=fun z=>nk (by
    have h1:(cs.map (·.1))[k]?=some b:=by rw[ZY,q];exact Y0 some z
    have h2:(cs.map (·.1))[j]?=some b:=by rw[ZY,hj];rfl
    exact Pf e5 h1 h2)
   exact⟨ws,by rw[V1 nb];exact w1,Rps.mono So w2⟩
def NW (i j:Nat) (C:Addr) (xs:List Str) (a:PTE):PTW:=fun γ R X=>match γ[i]? with
 | some (some (.own (.ins x C' xs' cs)))=>C'=C/\xs'=xs/\∃c,cs[j]?=some c/\a γ (fun s=>match s.shd with
  | some d=>c.2.length<10000000/\R (γ.set i (some (.own (.ins x C' xs' (cs.set j (c.1,c.2++[d])))))) .non
  | none=>False) (X γ)
 | _=>False
def Tt (i j:Nat) {C:Addr}{f:Str}{xs:List Str}{a:PTE} (hc:Cls K C) (hn:NoAttr K C f) (hj:Xh f xs j) (ha:SndE K mg E te a):SndW K mg E (tBM K "list" KC (tFld K (tVar i) f) (VN te tNil)) (NW i j C xs a):=by
 intro H0 B H σ γ R X Q hB env h q qx;unfold NW at h;split at h
 ·rename_i x C' xs' cs hi;obtain⟨rfl,rfl,c,ec,h⟩:=h;obtain⟨v,hv,b,rfl,_,e1,e2,⟨dx,e3⟩,e4,e5⟩:=env.slot i _ hi;obtain⟨us,u1,u2⟩:=e4 c (Yh ec);refine⟨_,hv,b,_,dx,_,V.ref c.1,rfl,e3,hc,hn,?_,.inl ⟨rfl,us,SqL.of u1⟩,ha H0 B H σ γ _ _ _ env h (fun s u H1 h1 S1 t1=>?_) fun c H' hc S'=>qx γ c H' hc (env.grow S') (Fr.grow S')⟩
  ·rw[hj _ (by rw[ZR];exact e2),ZY,ec];rfl
  ·have env1:=env.grow S1;split at h1
   ·rename_i d ed;have rd:=t1.shd env1.same env.zm S1 ed;refine⟨c.1,us,u,rfl,rfl,S1 _ _ u1,by rw[u2.len];exact WD h1.1 (by decide),?_⟩;obtain⟨k1,k2⟩:=env1.cell (es:=c.2++[d]) (us:=us++[u]) hi ec (Rps.append (Rps.mono (Vy S1 fun _ _ _ z=>z) u2) (.cons rd .nil));exact q _ _ _ _ h1.2 k1 ((Fr.grow S1).trans k2) .non
   ·exact h1.elim
 ·exact h.elim
def SW (i j:Nat) (C:Addr) (xs:List Str):PTW:=fun γ R _=>match γ[i]? with
 | some (some (.own (.ins x C' xs' cs)))=>C'=C/\xs'=xs/\∃c d,cs[j]?=some c/\c.2[c.2.length-1]?=some d/\R (γ.set i (some (.own (.ins x C' xs' (cs.set j (c.1,c.2.dropLast)))))) d
 | _=>False
def Rps.dropLast:∀{ds:List D}{vs:List V},Rps K H ds vs->Rps K H ds.dropLast vs.dropLast
 | _,_,.nil=>.nil
 | _,_,.cons _ .nil=>.nil
 | _,_,.cons h (.cons h' r)=>.cons h (Rps.dropLast (.cons h' r))
def Nh (i j:Nat) {C:Addr}{f:Str}{xs:List Str} (hc:Cls K C) (hn:NoAttr K C f) (hj:Xh f xs j):SndW K mg E (tBM0 K "list" rPop (tFld K (tVar i) f)) (SW i j C xs):=by
 intro H0 B H σ γ R X Q hB env h q qx;unfold SW at h;split at h
 ·rename_i x C' xs' cs hi;obtain⟨rfl,rfl,c,d,ec,ed,h⟩:=h;obtain⟨v,hv,b,rfl,_,e1,e2,⟨dx,e3⟩,e4,e5⟩:=env.slot i _ hi;obtain⟨us,u1,u2⟩:=e4 c (Yh ec);obtain⟨u,hu,ru⟩:=u2.get ed;refine⟨_,hv,b,_,dx,_,V.ref c.1,rfl,e3,hc,hn,?_,.inl ⟨rfl,us,SqL.of u1⟩,c.1,us,u,rfl,rfl,u1,by rw[u2.len];exact hu,?_⟩
  ·rw[hj _ (by rw[ZR];exact e2),ZY,ec];rfl
  ·obtain⟨k1,k2⟩:=env.cell (es:=c.2.dropLast) (us:=us.dropLast) hi ec (Rps.dropLast u2);exact q _ _ _ _ h k1 k2 (Rp.mono k2.off ru)
 ·exact h.elim
def XY (f:Str) (xs:List Str):Prop:=∀(vs:List V) (y:V),xs.length=vs.length->putF f y (xs.zip vs)=(xs++[f]).zip (vs++[y])
def E1 (i:Nat) (C:Addr) (f:Str) (xs:List Str) (a:PTE):PTS:=fun R γ=>a γ (fun s=>match s with
 | .own (.lst ds)=>(match γ[i]? with
  | some (some (.own (.ins x C' xs' cs)))=>C'=C/\xs'=xs/\xs.length<1000/\∀b,R.nx (γ.set i (some (.own (.ins x C' (xs++[f]) (cs++[(b,ds)])))))
  | _=>False)
 | _=>False) (R.ex γ)
def To (i:Nat) {C:Addr}{f:Str}{xs:List Str}{a:PTE} (hc:Cls K C) (hn:NoAttr K C f) (hp:XY f xs) (ha:SndE K mg E te a):SndS K mg E (sFld K (tVar i) te f) (E1 i C f xs a):=by
 intro H0 B H σ γ R D hB env h e;refine ha H0 B H σ γ _ _ _ env h (fun s v H1 h1 S1 t1=>?_) fun c H' hc S'=>e.ex σ γ c H' hc (env.grow S') (Fr.grow S');have env1:=env.grow S1;split at h1
 ·rename_i ds;split at h1
  ·rename_i x C' xs' cs hi;obtain⟨rfl,rfl,hl,h1⟩:=h1;obtain⟨u,hv,b,rfl,e0,e1,e2,⟨dx,e3⟩,e4,e5⟩:=env.slot i _ hi;subst e1;obtain⟨l,rfl,l0,vs,l1,l2⟩:=t1;have l0:H l=none:=l0 l rfl;have na:b≠l:=JL e3 l0;refine⟨_,hv,b,_,dx,_,rfl,S1 _ _ e3,hc,hn,?_,?_⟩
   ·rw[List.length_zip,ZR];omega
   ·rw[hp _ _ (by rw[ZR];exact e2)]
    have nl:∀c∈cs,c.1≠l:=fun c hc=>by
     obtain⟨ws,w1,_⟩:=e4 c hc;exact JL w1 l0
    have nb:∀c∈cs,c.1≠b:=fun c hc z=>by
     obtain⟨ws,w1,_⟩:=e4 c hc;rw[z,e3] at w1;cases w1
    have zb:∀c,(O.ins b C' xs' cs).adr b c->zof B γ σ c:=fun c hc=>.inr ⟨i,_,b,hi,hv,hc⟩
    have key:∀c u,H1 c=some u->¬(zof B γ σ c\/c=l)->¬zof B (γ.set i (some (.own (.ins b C' (xs'++[f]) (cs++[(l,ds)]))))) σ c:=fun c u _ n z=>by
     rcases z with z|⟨k,fs,a',k1,k2,k3⟩
     ·exact n (.inl (.inl z))
     ·rcases VD k1 with⟨ek,q,_⟩|⟨_,q⟩
      ·subst ek;cases q
       rw[hv] at k2;cases k2
       rcases k3 with k3|⟨d,hd,k3⟩
       ·exact n (.inl (zb c (.inl k3)))
       ·rcases Y7.mp hd with hd|hd
        ·exact n (.inl (zb c (.inr ⟨d,hd,k3⟩)))
        ·rw[Yb] at hd;subst hd;exact n (.inr k3)
      ·exact n (.inl (.inr ⟨k,fs,a',q,k2,k3⟩))
    have So:Same (off (fun c=>zof B γ σ c\/c=l) H1) (off (zof B (γ.set i (some (.own (.ins b C' (xs'++[f]) (cs++[(l,ds)]))))) σ) (upd H1 b (.ins C' dx ((xs'++[f]).zip ((cs.map fun c=>V.ref c.1)++[.ref l]))))):=fun c u h=>by
     obtain⟨q1,q2⟩:=JF h;exact VM (by rw[V1 fun z=>q2 (.inl (zb c (.inl z)))];exact q1) (key c u q1 q2)
    have S0:Same (off (zof B γ σ) H) (off (fun c=>zof B γ σ c\/c=l) H1):=Vy S1 fun c u hc z y=>y.elim z fun y=>by rw[y,l0] at hc;cases hc
    obtain⟨k1,k2⟩:=env.change (o':=.ins b C' (xs'++[f]) (cs++[(l,ds)])) (H':=upd H1 b (.ins C' dx ((xs'++[f]).zip ((cs.map fun c=>V.ref c.1)++[.ref l])))) hi hv
     (fun c u hu n=>by rw[V1 fun z=>n (.inl z)];exact S1 _ _ hu)
     (fun c hc=>by
      by_cases z:c=b
      ·rw[z,VQ];trivial
      ·rw[V1 z];exact env1.zm c (zb c hc))
     (fun c hc=>by
      rcases hc with hc|⟨d,hd,hc⟩
      ·exact .inl (.inl hc)
      ·rcases Y7.mp hd with hd|hd
       ·exact .inl (.inr ⟨d,hd,hc⟩)
       ·rw[Yb] at hd;subst hd;exact .inr (by rw[show c=l from hc];exact l0))
     ⟨rfl,by rw[ZZ,ZZ,e2];rfl,⟨dx,by rw[VQ,Yq];rfl⟩,fun c hc=>by
      rcases Y7.mp hc with hc|hc
      ·obtain⟨ws,w1,w2⟩:=e4 c hc;exact⟨ws,by rw[V1 (nb c hc)];exact S1 _ _ w1,Rps.mono So (Rps.mono S0 w2)⟩
      ·rw[Yb] at hc;subst hc;exact⟨vs,by rw[V1 (fun z=>na z.symm)];exact l1,Rps.mono So l2⟩,by
      rw[Yq,List.nodup_append]
      exact⟨e5,by simp,fun c hc d hd z=>by
       obtain⟨c',q1,q2⟩:=Wq.mp hc
       have:d=l:=by simpa using hd
       exact nl c' q1 (q2.trans (z.trans this))⟩⟩
    exact e.nx _ _ _ (h1 l) k1 k2
  ·exact h1.elim
 ·exact h1.elim
def Em {C:Addr}{c:Pw}{ss ss':List S}{us:List V}{R:S->Prop}{X:XR}{Q:VK}{Ec:XK} (env:EnvR K H0 B H σ γ) (S1:Same H H1) (t1:TVs K (zof B γ σ) H0 H H1 ss us) (ep:passes ss=some ss')
  (h1:∀x,c (.ins x C [] []) ss' (fun o' d=>d=.non/\R (.own o')) (fun _ e=>X e)) (q:∀s v H',R s->Same H H'->TV K (zof B γ σ) H0 H H' s v->Q v H') (qx:∀c H',X c->Same H H'->Ec (.ref (ExcR.Vb mg c)) none H') :
  ∀x dx,H1 x=none->H1 dx=none->dx≠x->spW mg c K (.ref x::us) (upd (upd H1 dx (.own x)) x (.ins C dx [])) (fun v H2=>v=.non/\Q (.ref x) H2) Ec:=by
 have env1:=env.grow S1;intro x dx nx ndx nex
 have S2:Same H1 (upd (upd H1 dx (.own x)) x (.ins C dx [])):=fun b o e=>by
  rw[V1 (JL e nx),V1 (JL e ndx)];exact e
 have aft:∀o' H',After K (zof B γ σ) (upd (upd H1 dx (.own x)) x (.ins C dx [])) x (.ins x C [] []) o' H'->Same H1 H'/\∀b,o'.adr x b->H b=none:=fun o' H' A=>by
  refine⟨fun b o e=>A.same b o (VM (S2 b o e) fun z=>?_),fun b hb=>?_⟩
  ·rcases z with z|⟨c,hc,_⟩
   ·rw[z,nx] at e;cases e
   ·cases hc
  ·rcases A.new b hb with(z|⟨c,hc,_⟩)|z
   ·rw[z];exact S1.free nx
   ·cases hc
   ·exact S1.free (S2.free z)
 refine⟨.ins x C [] [],x,ss',us,zof B γ σ,_,_,rfl,fun b hb=>⟨Uc S2 (env1.zm b hb),fun z=>?_⟩,⟨rfl,rfl,⟨dx,VQ⟩,(fun c hc=>by cases hc),List.nodup_nil⟩,?_,Xx ep,h1 x,fun o' d v H' hR A rd=>?_,fun o' e H' hX A=>?_⟩
 ·rcases z with z|⟨c,hc,_⟩
  ·have:=env1.zm b hb
   rw[z,nx] at this;exact this
  ·cases hc
 ·refine t1.pass env1.same env.zm S1 (fun b o e=>VM (S2 _ _ (env1.same b o e)) fun z=>?_) (Vy S2 fun b o e z y=>?_) ep
  ·rcases z with z|⟨c,hc,_⟩
   ·rw[z,(env1.same).free nx] at e;cases e
   ·cases hc
  ·rcases y with y|y|⟨c,hc,_⟩
   ·exact z y
   ·rw[y,nx] at e;cases e
   ·cases hc
 ·obtain⟨rfl,hR⟩:=hR;obtain⟨k1,k2⟩:=aft o' H' A;exact⟨Rp.non_inv rd,q _ _ H' hR (S1.trans k1) ⟨x,rfl,k2,A.at_⟩⟩
 ·exact qx e H' hX (S1.trans (aft o' H' A).1)
def G4 (C:Addr) (c:Pw) (r:PTA):PTE:=fun γ R X=>r γ (fun ss=>match passes ss with|some ss'=>∀x,c (.ins x C [] []) ss' (fun o' d=>d=.non/\R (.own o')) (fun _ _=>False)|none=>False) X
def Gu {C:Addr}{c:Pw}{ta:TA}{r:PTA} (hr:SndA K mg E ta r):SndE K mg E (PH C (spW mg c K) [] E0 ta) (G4 C c r):=by
 intro H0 B H σ γ R X Q env p q qx;refine hr H0 B H σ γ _ X _ env p (fun ss us H1 h1 S1 t1=>?_) qx;split at h1
 ·rename_i ss' ep;rw[Yw];exact Em (X:=fun _=>False) env S1 t1 ep h1 q fun _ _ z=>z.elim
 ·exact h1.elim
end
def len0 {α:Type}{us:List α} (h:us.length=0):∃_:True,us=[]:=⟨trivial,Ws.mp h⟩
def len1 {α:Type}{us:List α} (h:us.length=1):∃a,us=[a]:=List.length_eq_one_iff.mp h
def len2 {α:Type}{us:List α} (h:us.length=2):∃a b,us=[a,b]:=by
 cases us with
 | nil=>cases h
 | cons a r=>obtain⟨b,rfl⟩:=len1 (us:=r) (by simpa using h);exact⟨a,b,rfl⟩
def len3 {α:Type}{us:List α} (h:us.length=3):∃a b c,us=[a,b,c]:=by
 cases us with
 | nil=>cases h
 | cons a r=>obtain⟨b,c,rfl⟩:=len2 (us:=r) (by simpa using h);exact⟨a,b,c,rfl⟩
def len4 {α:Type}{us:List α} (h:us.length=4):∃a b c d,us=[a,b,c,d]:=by
 cases us with
 | nil=>cases h
 | cons a r=>obtain⟨b,c,d,rfl⟩:=len3 (us:=r) (by simpa using h);exact⟨a,b,c,d,rfl⟩
def len5 {α:Type}{us:List α} (h:us.length=5):∃a b c d e,us=[a,b,c,d,e]:=by
 cases us with
 | nil=>cases h
 | cons a r=>obtain⟨b,c,d,e,rfl⟩:=len4 (us:=r) (by simpa using h);exact⟨a,b,c,d,e,rfl⟩
structure DefM (K:Za) (W:Addr->Prop) (x q:Str) (st:Stmt) (ps:List Str):Prop where
 ex:∃f fd,Fun K x q st f fd/\W f/\Binds K fd ps []
structure CalleeM (P:Program) (w:World) (K:Za) (mg:Str->Option Value) (base:Heap) (CX:CXT) (k:Nat) (W:Addr->Prop) (ps:List Str) (sp:Sp):Prop where
 ex:∃f fd,FnOk P w K mg base CX k f fd ps sp/\W f/\Binds K fd ps []
section
variable {P:Program}{w:World}{K:Za}{mg:Str->Option Value}{base:Heap}{W:Addr->Prop}
def DefM.ok {x q:Str}{st:Stmt}{N ps:List Str}{k:Nat}{sp:Sp} (D:DefM K W x q st ps) (S:FnScope N ps (Vk st)) (len:∀vs H Q E,sp vs H Q E->vs.length=ps.length)
  (hbody:∀(f:Addr) (cdv:Value) (A:Around) (outer:List Env) (s:Shared) (H:Hp) (vs:List V) (Q:VK) (E:XK),Room k (A.deeper (envOfC q (Vk st) s.heap.objs.size f cdv))->sp vs H Q E->
   ∃t,PSs (cxOf CX0 P w K mg base N q (Vk st) f cdv A outer s H E).nox (Ja st) t/\t { nx:=fun _ H'=>Q .non H',rt:=Q } (start N vs) H):CalleeM P w K mg base CX0 (k+1) W ps sp:=by
 obtain⟨f,fd,F,hm,hb⟩:=D.ex;exact⟨f,fd,F.ok S len fun cdv A outer s H vs Q E hr h=>hbody f cdv A outer s H vs Q E hr h,hm,hb⟩
def DefM.okX {x q:Str}{st:Stmt}{N ps:List Str}{k:Nat}{sp:Sp} (D:DefM K W x q st ps) (S:FnScope N ps (Vk st)) (len:∀vs H Q E,sp vs H Q E->vs.length=ps.length)
  (hbody:∀(f:Addr) (cdv:Value) (A:Around) (outer:List Env) (s:Shared) (H:Hp) (vs:List V) (Q:VK) (E:XK),Room k (A.deeper (envOfC q (Vk st) s.heap.objs.size f cdv))->sp vs H Q E->
   ∃t,PSs (cxOf (ExcR.CXe P w) P w K mg base N q (Vk st) f cdv A outer s H E) (Ja st) t/\t { nx:=fun _ H'=>Q .non H',rt:=Q } (start N vs) H):CalleeM P w K mg base (ExcR.CXe P w) (k+1) W ps sp:=by
 obtain⟨f,fd,F,hm,hb⟩:=D.ex;obtain⟨oc,od,kV,doc,pm,an,cdv,ct,osl,rfl,lk,hcd⟩:=F.ex;exact⟨f,_,Te lk hcd S len fun A outer s H vs Q E hr hsp=>hbody f cdv A outer s H vs Q E hr hsp,hm,hb⟩
def BD {X:Cx}:JG (ExcR.CXe P w) X E0:=fun _ _ _ _ _ _ _ h=>by
 obtain⟨a,T,C,H',_,_,z⟩:=h;exact z.elim
end
section
variable {X:Cx}{CX:CXT}{k:Nat}{Cc:Addr}{ps:List Str}{sp:Sp}{E:XK}{ES:L2.St->XK}{x m:Str}{p pos apos:Pos}{e o:Expr}{es:List Expr}{ta:TE}{t:TA}
def JZ {pl:Sem Bool} (C:CalleeM X.prog X.w X.K X.mg X.base CX k (Meth X.K Cc m) ps sp) (c:Cls X.K Cc) (hr:Room k X.A) (hx:JG CX X E) (he:PE X o ta) (ha:PA X (e::es) t)
  (hst:starEach (e::es) X.env=(false,eval e X.env)::starEach es X.env:=by rfl) (hpl:(backTo pos (starEach es X.env)).any (·.1)=false:=by rfl)
  (ht:eval (.Call (.Attribute o m apos) (e::es) [] pos) X.env=(do
   let ov ←eval o X.env
   standAt apos.atName
   let (f,first) ←holding [ov] (getMethod ov m pl)
   callWith pos f first (backTo pos (starEach (e::es) X.env)) (backToKw pos (keywordEach [] X.env))):=by rfl) :
  PE X (.Call (.Attribute o m apos) (e::es) [] pos) (Ur Cc m sp [] E ta t):=by
 obtain⟨f,fd,F,hm,hb⟩:=C.ex;exact DP he c hm F hr hb .nil hx ha hst hpl ht
def Jj {pl:Sem Bool} (C:CalleeM X.prog X.w X.K X.mg X.base CX k (Meth X.K Cc m) ps sp) (c:Cls X.K Cc) (hr:Room k X.A) (hx:JG CX X E) (he:PE X o ta)
  (ht:eval (.Call (.Attribute o m apos) [] [] pos) X.env=(do
   let ov ←eval o X.env
   standAt apos.atName
   let (f,first) ←holding [ov] (getMethod ov m pl)
   callWith pos f first (backTo pos (starEach [] X.env)) (backToKw pos (keywordEach [] X.env))):=by rfl) :
  PE X (.Call (.Attribute o m apos) [] [] pos) (Ur Cc m sp [] E ta tNil):=by
 obtain⟨f,fd,F,hm,hb⟩:=C.ex;exact Gj he c hm F hr hb .nil hx ht
def NG {f:Addr}{fd:FuncData}{pins:List (Addr×Obj)}{σ:L2.St}{H:Hp}{s:Shared}{Q:VK}{us:List Value}{vs:List V} (F:FnOk X.prog X.w X.K X.mg X.base CX k f fd ps sp) (hr:Room k X.A) (hb:Binds X.K fd ps []) (hx:ExcR.XE CX X ES)
  (I:Inv X pins σ H s) (r:Vals vs us) (h:sp vs H Q (ES σ)):wpAny (model X.prog X.w) X.A (call (.ref f) us) (EP X pins σ Q) X.xe s:=by
 have hl:(us++[]).length=ps.length:=by rw[Yw,←r.length];exact F.len _ _ _ _ h
 refine wpAny_call (Wp (F.run X.A X.stack s H ⟨us,[]⟩ (us++[]) vs Q (ES σ) hr I.env0 (hb s us I.kIn hl) (by simpa using r) h) fun r s' hq=>?_);cases r with
 | error e=>exact hx pins σ H s e s' I hq
 | ok fl=>
  cases fl with
  | ret u=>exact I.after hq
  | next=>exact False.elim hq
  | brk=>exact False.elim hq
  | cont=>exact False.elim hq
def Cd {pl:Sem Bool} (C:CalleeM X.prog X.w X.K X.mg X.base CX k (Meth X.K Cc m) ps sp) (c:Cls X.K Cc) (hr:Room k X.A) (hx:ExcR.XE CX X ES) (he:PE X o ta) (ha:PA X (e::es) t)
  (hst:starEach (e::es) X.env=(false,eval e X.env)::starEach es X.env:=by rfl) (hpl:(backTo pos (starEach es X.env)).any (·.1)=false:=by rfl)
  (ht:eval (.Call (.Attribute o m apos) (e::es) [] pos) X.env=(do
   let ov ←eval o X.env
   standAt apos.atName
   let (f,first) ←holding [ov] (getMethod ov m pl)
   callWith pos f first (backTo pos (starEach (e::es) X.env)) (backToKw pos (keywordEach [] X.env))):=by rfl) :
  PE X (.Call (.Attribute o m apos) (e::es) [] pos) (KF Cc m sp ES ta t):=by
 obtain⟨f,fd,F,hm,hb⟩:=C.ex;intro pins s σ H Q I h;refine YW (pl:=pl) (thn (he pins s σ H _ I h) fun u s1 ⟨x,H1,I1,rx,a,dx,fs,ex,ea,l,q⟩=>?_) ht;subst ex;obtain rfl:u=Value.ref a:=rx;refine XM I1 ea c hm l ?_;refine Wc (first:=[.ref a]) (h₀:=X.base) I.ok.mod.kin hm.kp (thn (ha pos pins s1 σ H1 _ I1 q) fun us s2 ⟨vs,H2,I2,r,q2⟩=>⟨I2.kIn,?_⟩) hst hpl
 exact NG (us:=.ref a::us) (vs:=.ref a::(vs++[])) F hr hb hx I2 (.cons rfl (by rw[Yw];exact r)) q2
def Ed {pl:Sem Bool} (C:CalleeM X.prog X.w X.K X.mg X.base CX k (Meth X.K Cc m) ps sp) (c:Cls X.K Cc) (hr:Room k X.A) (hx:ExcR.XE CX X ES) (he:PE X o ta)
  (ht:eval (.Call (.Attribute o m apos) [] [] pos) X.env=(do
   let ov ←eval o X.env
   standAt apos.atName
   let (f,first) ←holding [ov] (getMethod ov m pl)
   callWith pos f first (backTo pos (starEach [] X.env)) (backToKw pos (keywordEach [] X.env))):=by rfl) :
  PE X (.Call (.Attribute o m apos) [] [] pos) (KF Cc m sp ES ta tNil):=by
 obtain⟨f,fd,F,hm,hb⟩:=C.ex;intro pins s σ H Q I h;refine YW (pl:=pl) (thn (he pins s σ H _ I h) fun u s1 ⟨x,H1,I1,rx,a,dx,fs,ex,ea,l,q⟩=>?_) ht;subst ex;obtain rfl:u=Value.ref a:=rx;refine XM I1 ea c hm l ?_;exact PySem.W.callWith_K0 (first:=[.ref a]) I1.kIn hm.kp (NG (us:=[.ref a]) (vs:=[.ref a]) F hr hb hx I1 (.cons rfl .nil) q)
def HE (C:CalleeM X.prog X.w X.K X.mg X.base CX k (Mk X.K Cc) ps sp) (hm:X.mg x=some (.ref Cc)) (hr:Room (k+1) X.A) (hx:JG CX X E) (ha:PA X (e::es) t) (hg:Gl X x:=by rfl)
  (hdb:(x==("__debug__" : Str))=false:=by decide) (he:starEach (e::es) X.env=(false,eval e X.env)::starEach es X.env:=by rfl) (hpl:(backTo pos (starEach es X.env)).any (·.1)=false:=by rfl) :
  PE X (.Call (.Name x p) (e::es) [] pos) (PH Cc sp [] E t):=by
 obtain⟨f,fd,F,M,hb⟩:=C.ex;exact GZ M F hr hg hm hb .nil hx ha hdb he hpl
end
abbrev PTF:=Γ->Str->(Str->Prop)->XR->Prop
section
variable {K:Za}{mg:Str->Option Value}{E:L2.St->XK}{t:ExcR.TF}{p:PTF}{te:TE}{a:PTE}
def SndF (K:Za) (mg:Str->Option Value) (E:L2.St->XK) (t:ExcR.TF) (p:PTF):Prop:=∀(H0:Hp) (B:Addr->Prop) (H:Hp) (σ:L2.St) (γ:Γ) (out:Str) (R:Str->Prop) (X:XR) (Q:Str->Hp->Prop),EnvR K H0 B H σ γ->p γ out R X->
 (∀x H',R x->Same H H'->Q x H')->(∀c H',X c->Same H H'->E σ (.ref (ExcR.Vb mg c)) none H')->t σ H out Q
def Hg:PTF:=fun _ out R _=>out.length<=sizeLine/\R out
def US:SndF K mg E ExcR.fNil Hg:=fun H0 B H σ γ out R X Q env h q _=>⟨h.1,q _ H h.2 (Same.refl _)⟩
def G3 (x:Str) (p:PTF):PTF:=fun γ out R X=>(out++x).length<=sizeLine/\p γ (out++x) R X
def JU {x:Str} (h:SndF K mg E t p):SndF K mg E (ExcR.fStr x t) (G3 x p):=fun H0 B H σ γ out R X Q env hp q qx=>⟨hp.1,h H0 B H σ γ _ R X Q env hp.2 q qx⟩
def DO (a:PTE) (p:PTF):PTF:=fun γ out R X=>a γ (fun s=>match s.d with
 | .int i=>i.natAbs.log2<1920/\(out++(Str.ofString (toString i))).length<=sizeLine/\p γ (out++Str.ofString (toString i)) R X
 | .str x=>x.length<=sizeLine/\(out++x).length<=sizeLine/\p γ (out++x) R X
 | _=>False) X
def UU (ha:SndE K mg E te a) (h:SndF K mg E t p):SndF K mg E (ExcR.fVal te t) (DO a p):=fun H0 B H σ γ out R X Q env hp q qx=>by
 refine ha H0 B H σ γ _ X _ env hp (fun s v H1 h1 S1 t1=>?_) qx;have env1:=env.grow S1;have rs:=t1.rp env1.same;split at h1
 ·rename_i i ei;rw[ei] at rs;exact .inl ⟨i,rs.int_inv,h1.1,h1.2.1,h H0 B H1 σ γ _ R X Q env1 h1.2.2 (fun x H' hx S'=>q x H' hx (S1.trans S')) fun c H' hc S'=>qx c H' hc (S1.trans S')⟩
 ·rename_i x ex;rw[ex] at rs;exact .inr ⟨x,rs.str_inv,h1.1,h1.2.1,h H0 B H1 σ γ _ R X Q env1 h1.2.2 (fun x H' hx S'=>q x H' hx (S1.trans S')) fun c H' hc S'=>qx c H' hc (S1.trans S')⟩
 ·exact h1.elim
def pF (p:PTF):PTE:=fun γ R X=>p γ Str.empty (fun x=>R (.sh (.str x))) X
def se_f (h:SndF K mg E t p):SndE K mg E (ExcR.tF t) (pF p):=fun H0 B H σ γ R X Q env hp q qx=>
 h H0 B H σ γ _ _ X _ env hp (fun x H' hx S'=>q _ _ H' hx S' (.str x)) qx
end
open M
abbrev plD (f:List (Int×Int)):D:=.lst (f.map prD)
abbrev dD (q:Str×List Int):D:=.tup (.str q.1::q.2.map D.int)
abbrev vF:List Str:=["book","fields","wished"]
abbrev vO (C x b1 b2 b3:Addr) (bk:List (Str×List Int)) (fs ws:List (List (Int×Int))):O:=.ins x C vF [(b1,bk.map dD),(b2,fs.map plD),(b3,ws.map plD)]
abbrev vilD (C:Addr) (bk:List (Str×List Int)) (fs ws:List (List (Int×Int))):D:=.ins C vF [.lst (bk.map dD),.lst (fs.map plD),.lst (ws.map plD)]
def Br {α:Type} (f:α->D) (xs:List α) (x:α):atI ((xs++[x]).map f) (-1)=some (f x):=by
 refine Ke ?_;unfold atI ixN;rw[ZU (by omega),ZV (by rw[ZZ,YH];omega)];show(xs++[x])[_]?=some x;have e:((-1:Int)+((xs++[x]).length:Int)).toNat=xs.length:=by rw[ZZ,YH];omega
 rw[e,Yz (Ye _),Nat.sub_self];rfl
def VX (e:Option Str) (X:Str->Prop) (R:Prop):Prop:=match e with|some c=>X c|none=>R
def UW (h:Int):Option Str:=if 1<=h/\h<=10 then none else some "BadHolder"
def U5:List (Int×Int)->Option Str
 | []=>none
 | q::r=>if ¬(1<=q.1/\q.1<=10) then some "BadHolder" else if ¬(1<=q.2/\q.2<=1000) then some "BadWidth" else U5 r
def Xb (ps:List (Int×Int)):Option Str:=if 40<ps.length then some "TooManyStrips" else U5 ps
def SL:∀{ps:List (Int×Int)},Field ps->U5 ps=none
 | [],_=>rfl
 | q::r,h=>by
  obtain⟨h1,h2,h3,h4⟩:=h q YB;unfold U5;rw[ZU (fun z=>z ⟨h1,h2⟩),ZU (fun z=>z ⟨h3,h4⟩)];exact SL fun x hx=>h x (Yt _ hx)
def FE {ps:List (Int×Int)} (h:Field ps) (hl:ps.length<=40):Xb ps=none:=by
 unfold Xb;rw[ZU (by omega)];exact SL h
def Kf (ps:List (Int×Int)) (p:Int):Option Str:=if p<1\/(ps.length:Int)<p then some "NoStrip" else none
def atP1 (ps:List (Int×Int)) (p:Int):Int×Int:=ps.getD (p-1).toNat (0,0)
def VZ (ps:List (Int×Int)) (p h:Int):Option Str:=if p<1\/(ps.length:Int)<p then some "NoStrip" else if ¬(1<=h/\h<=10) then some "BadHolder" else if (atP1 ps p).1=h then some "OwnStrip" else none
def Ue (ps:List (Int×Int)) (p h:Int):List (Int×Int):=ps.set (p-1).toNat (h,(atP1 ps p).2)
def B1 {ps:List (Int×Int)}{p:Int}{x:Int×Int} (h1:1<=p) (h2:p<=ps.length):cutD (ps.map prD) none (some (p-1))++[prD x]++cutD (ps.map prD) (some p) none=(ps.set (p-1).toNat x).map prD:=by
 rw[Xd,Xd,Nm ps (by omega),KH ps (by omega)];have e:p.toNat=(p-1).toNat+1:=by omega
 rw[e,List.set_eq_take_append_cons_drop,ZV (by omega),Yq,Yy,List.append_assoc];rfl
def Uo {ps:List (Int×Int)}{p:Int} (h1:1<=p) (h2:p<=ps.length):atI (ps.map prD) (p-1)=some (prD (atP1 ps p)):=by
 rw[Uk (by omega) (by omega)];unfold atP1;rw[Yg,ZS (show(p-1).toNat<ps.length by omega)];rfl
def Av (ps:List (Int×Int)) (p h:Int):(Ue ps p h).length=ps.length:=YE ..
def Hx {ps:List (Int×Int)}{p h:Int} (hF:Field ps) (e:VZ ps p h=none):Field (Ue ps p h):=by
 unfold VZ at e;split at e
 ·cases e
 ·split at e
  ·cases e
  ·rename_i c1 c2;have hl:(p-1).toNat<ps.length:=by omega
   intro q hq;unfold Ue at hq;rcases List.mem_or_eq_of_mem_set hq with hq|rfl
   ·exact hF q hq
   ·have:atP1 ps p∈ps:=by
     unfold atP1;rw[Yg,ZS hl];exact YI hl
    obtain⟨_,_,w1,w2⟩:=hF _ this
    have:=Y4.mp c2
    exact⟨this.1,this.2,w1,w2⟩
def FF (q:Int×Int) (r:List (Int×Int)):U5 (q::r)=if ¬(1<=q.1/\q.1<=10) then some ("BadHolder" : Str) else if ¬(1<=q.2/\q.2<=1000) then some ("BadWidth" : Str) else U5 r:=rfl
def SM (q:Str×List Int):imm (dD q)=true:=by
 unfold dD imm imms;rw[Fi];unfold imm;rfl
def NX:∀(bk:List (Str×List Int)),imms (bk.map dD)=true
 | []=>by unfold List.map imms;rfl
 | q::r=>by
  rw[Yy];unfold imms;rw[SM,NX r];rfl
def K0 (q:Str×List Int):arg (dD q)=.sh (dD q):=by
 unfold arg;rw[SM]
def Al {N:List Str}{q:Str×List Int}{ds:List D}:Uh N (dD q::ds)=some (.sh (dD q))::(ds.map (fun d=>some (arg d))++List.replicate (N.length-(ds.length+1)) none):=by
 unfold Uh;rw[Yy,K0];rfl
def Nb {q:Str×List Int}{i:Nat} (h:i<q.2.length):atI (.str q.1::q.2.map D.int) (1+(i:Int))=some (.int q.2[i]):=by
 have e:(1+(i:Int))=((i+1:Nat):Int):=by omega
 rw[e];exact Ks (by rw[Yx,ZY,ZS h];rfl)
def Xs (ps:List (Int×Int)) (p h:Int):List Bool:=if p<1\/(ps.length:Int)<p then[true,true,false,false] else if ¬(1<=h/\h<=10) then[true,false,true,false] else if (atP1 ps p).1=h then[true,false,false,true] else[]
def HP (ps:List (Int×Int)) (p h:Int):(VZ ps p h=some ("NoStrip" : Str)/\Xs ps p h=[true,true,false,false])\/(VZ ps p h=some ("BadHolder" : Str)/\Xs ps p h=[true,false,true,false])\/(VZ ps p h=some ("OwnStrip" : Str)/\Xs ps p h=[true,false,false,true])\/
  (VZ ps p h=none/\Xs ps p h=[]/\1<=p/\p<=ps.length):=by
 unfold VZ Xs;by_cases c:p<1\/(ps.length:Int)<p
 ·rw[ZV c,ZV c];exact .inl ⟨rfl,rfl⟩
 ·rw[ZU c,ZU c];by_cases c2:1<=h/\h<=10
  ·rw[ZU (Y4.mpr c2),ZU (Y4.mpr c2)];by_cases c3:(atP1 ps p).1=h
   ·rw[ZV c3,ZV c3];exact .inr (.inr (.inl ⟨rfl,rfl⟩))
   ·rw[ZU c3,ZU c3];exact .inr (.inr (.inr ⟨rfl,rfl,by omega,by omega⟩))
  ·rw[ZV c2,ZV c2];exact .inr (.inl ⟨rfl,rfl⟩)
def VW (ps:List (Int×Int)) (p w:Int):Option Str:=if p<1\/(ps.length:Int)<p then some "NoStrip" else if w<1\/(atP1 ps p).2<=w then some "BadPart" else if 40<=ps.length then some "TooManyStrips" else none
def JH (ps:List (Int×Int)) (p w:Int):List (Int×Int):=ps.take (p-1).toNat++[((atP1 ps p).1,w),((atP1 ps p).1,(atP1 ps p).2-w)]++ps.drop p.toNat
def Xy (ps:List (Int×Int)) (p w:Int):List Bool:=if p<1\/(ps.length:Int)<p then[true,true,false,false] else if w<1\/(atP1 ps p).2<=w then[true,false,true,false] else if 40<=ps.length then[true,false,false,true] else[]
def Gp (ps:List (Int×Int)) (p w:Int):(VW ps p w=some ("NoStrip" : Str)/\Xy ps p w=[true,true,false,false])\/(VW ps p w=some ("BadPart" : Str)/\Xy ps p w=[true,false,true,false])\/(VW ps p w=some ("TooManyStrips" : Str)/\Xy ps p w=[true,false,false,true])\/
  (VW ps p w=none/\Xy ps p w=[]/\1<=p/\p<=ps.length/\1<=w/\w<(atP1 ps p).2/\ps.length<40):=by
 unfold VW Xy;by_cases c:p<1\/(ps.length:Int)<p
 ·rw[ZV c,ZV c];exact .inl ⟨rfl,rfl⟩
 ·rw[ZU c,ZU c];by_cases c2:w<1\/(atP1 ps p).2<=w
  ·rw[ZV c2,ZV c2];exact .inr (.inl ⟨rfl,rfl⟩)
  ·rw[ZU c2,ZU c2];by_cases c3:40<=ps.length
   ·rw[ZV c3,ZV c3];exact .inr (.inr (.inl ⟨rfl,rfl⟩))
   ·rw[ZU c3,ZU c3];exact .inr (.inr (.inr ⟨rfl,rfl,by omega,by omega,by omega,by omega,by omega⟩))
def Kc {ps:List (Int×Int)}{p:Int} (h1:1<=p) (h2:p<=ps.length):atP1 ps p∈ps:=by
 have hl:(p-1).toNat<ps.length:=by omega
 unfold atP1;rw[Yg,ZS hl];exact YI hl
def Fb {ps:List (Int×Int)}{p w:Int} (h1:1<=p):cutD (ps.map prD) none (some (p-1))++[prD ((atP1 ps p).1,w),prD ((atP1 ps p).1,(atP1 ps p).2-w)]++cutD (ps.map prD) (some p) none=(JH ps p w).map prD:=by
 rw[Xd,Xd,Nm ps (by omega),KH ps (by omega)];unfold JH;rw[Yq,Yq];rfl
def CU {ps:List (Int×Int)}{p w:Int} (h1:1<=p) (h2:p<=ps.length):(JH ps p w).length=ps.length+1:=by
 unfold JH;rw[ZZ,ZZ,Wl,Wx];simp;omega
def GF {ps:List (Int×Int)}{p w:Int} (hF:Field ps) (h1:1<=p) (h2:p<=ps.length) (h3:1<=w) (h4:w<(atP1 ps p).2):Field (JH ps p w):=by
 obtain⟨a1,a2,a3,a4⟩:=hF _ (Kc h1 h2);intro q hq;unfold JH at hq;rcases Y7.mp hq with hq|hq
 ·rcases Y7.mp hq with hq|hq
  ·exact hF q (List.mem_of_mem_take hq)
  ·rcases Ym.mp hq with rfl|hq
   ·exact⟨a1,a2,h3,by show w<=1000;omega⟩
   ·rw[Yb] at hq;subst hq;exact⟨a1,a2,by show 1<=_-w;omega,by show _-w<=1000;omega⟩
 ·exact hF q (List.mem_of_mem_drop hq)
def Tq:∀ks:List Bool,UQ (ks.map D.bl)=some (ks.map V.bl)
 | []=>rfl
 | k::r=>by
  rw[Yy,Yy];unfold UQ;rw[Tq r];rfl
def Na:∀ks:List Bool,(ks.map V.bl).all Jf=true
 | []=>rfl
 | k::r=>by rw[Yy,List.all_cons,Na r];rfl
def FG (ks:List Bool):eqL (ks.map V.bl) (ks.map V.bl)=true:=by
 unfold eqL;rw[ZT rfl,Wm,YV];intro j hj;have hj':j<ks.length:=by simpa using List.mem_range.mp hj
 rw[Yg,ZY,ZS hj'];cases ks[j]<;>rfl
def VP (ws:List (Int×Int)) (a b:Int):Option Str:=if ¬(1<=a/\a<=10) then some "BadHolder" else if ¬(1<=b/\b<=10) then some "BadHolder" else if a=b then some "LikeHolders" else if (a,b)∈ws then some "WishStands" else if 20<=ws.length then some "TooManyWishes" else none
def VY (ws:List (Int×Int)) (a b:Int):Option Str:=if (a,b)∈ws then none else some "NoWish"
def UZ (ws:List (Int×Int)) (a b:Int):List (Int×Int):=ws.filter fun q=>!decide (q=(a,b))
def uniE (ps:List (Int×Int)) (p:Int):Option Str:=if p<1\/(ps.length:Int)<=p then some "NoStrip" else if ¬(atP1 ps p).1=(atP1 ps (p+1)).1 then some "UnlikeHolders" else if 1000<(atP1 ps p).2+(atP1 ps (p+1)).2 then some "TooWide" else none
def uniL (ps:List (Int×Int)) (p:Int):List (Int×Int):=ps.take (p-1).toNat++[((atP1 ps p).1,(atP1 ps p).2+(atP1 ps (p+1)).2)]++ps.drop (p+1).toNat
def Fz {ps:List (Int×Int)}{p:Int} (h1:1<=p):cutD (ps.map prD) none (some (p-1))++[prD ((atP1 ps p).1,(atP1 ps p).2+(atP1 ps (p+1)).2)]++cutD (ps.map prD) (some (p+1)) none=(uniL ps p).map prD:=by
 rw[Xd,Xd,Nm ps (by omega),KH ps (by omega)];unfold uniL;rw[Yq,Yq];rfl
def Ao {ps:List (Int×Int)}{p:Int} (h1:1<=p) (h2:p<ps.length):(uniL ps p).length+1=ps.length:=by
 unfold uniL;rw[ZZ,ZZ,Wl,Wx];simp;omega
def G5 {ps:List (Int×Int)}{p:Int} (hF:Field ps) (e:uniE ps p=none):Field (uniL ps p):=by
 unfold uniE at e;split at e
 ·cases e
 split at e
 ·cases e
 split at e
 ·cases e
 rename_i c1 c2 c3;obtain⟨a1,a2,a3,a4⟩:=hF _ (Kc (ps:=ps) (p:=p) (by omega) (by omega));obtain⟨b1,b2,b3,b4⟩:=hF _ (Kc (ps:=ps) (p:=p+1) (by omega) (by omega));intro q hq;unfold uniL at hq;rcases Y7.mp hq with hq|hq
 ·rcases Y7.mp hq with hq|hq
  ·exact hF q (List.mem_of_mem_take hq)
  ·rw[Yb] at hq;subst hq;exact⟨a1,a2,by show 1<=_+_;omega,by show _+_<=1000;omega⟩
 ·exact hF q (List.mem_of_mem_drop hq)
def AK {ws:List (Int×Int)}{a b:Int} (h:Ui ws) (e:VP ws a b=none):Ui (ws++[(a,b)]):=by
 unfold VP at e;split at e
 ·cases e
 split at e
 ·cases e
 split at e
 ·cases e
 split at e
 ·cases e
 split at e
 ·cases e
 rename_i c1 c2 c3 c4 c5;obtain⟨h1,h2,h3⟩:=h;have k1:=Y4.mp c1;have k2:=Y4.mp c2;refine⟨by rw[ZZ,YH];omega,?_,fun q hq=>?_⟩
 ·rw[List.nodup_append];exact⟨h2,by simp,fun x hx y hy z=>by rw[Yb] at hy;subst hy;exact c4 (z▸hx)⟩
 ·rcases Y7.mp hq with hq|hq
  ·exact h3 q hq
  ·rw[Yb] at hq;subst hq;exact⟨⟨k1.1,k1.2,k2.1,k2.2⟩,c3⟩
def Ef {ws:List (Int×Int)}{a b:Int} (h:Ui ws):Ui (UZ ws a b):=
 ⟨Yi (List.length_filter_le _ _) h.1,h.2.1.filter _,fun q hq=>h.2.2 q (List.mem_filter.mp hq).1⟩
def CF:Ui []:=⟨by decide,List.nodup_nil,fun q hq=>by cases hq⟩
def EG (m:List Int) (k:Int):Int:=1+(k*m.getD 1 0+m.getD 2 0) % 10
def uniK (ps:List (Int×Int)) (p:Int):List Bool:=if p<1\/(ps.length:Int)<=p then[true,true,false,false] else if ¬(atP1 ps p).1=(atP1 ps (p+1)).1 then[true,false,true,false] else if 1000<(atP1 ps p).2+(atP1 ps (p+1)).2 then[true,false,false,true] else[]
def A5 (ps:List (Int×Int)) (p:Int):(uniE ps p=some ("NoStrip" : Str)/\uniK ps p=[true,true,false,false])\/(uniE ps p=some ("UnlikeHolders" : Str)/\uniK ps p=[true,false,true,false])\/(uniE ps p=some ("TooWide" : Str)/\uniK ps p=[true,false,false,true])\/
  (uniE ps p=none/\uniK ps p=[]/\1<=p/\p<ps.length):=by
 unfold uniE uniK;by_cases c:p<1\/(ps.length:Int)<=p
 ·rw[ZV c,ZV c];exact .inl ⟨rfl,rfl⟩
 ·rw[ZU c,ZU c];by_cases c2:(atP1 ps p).1=(atP1 ps (p+1)).1
  ·rw[ZU (Y4.mpr c2),ZU (Y4.mpr c2)];by_cases c3:1000<(atP1 ps p).2+(atP1 ps (p+1)).2
   ·rw[ZV c3,ZV c3];exact .inr (.inr (.inl ⟨rfl,rfl⟩))
   ·rw[ZU c3,ZU c3];exact .inr (.inr (.inr ⟨rfl,rfl,by omega,by omega⟩))
  ·rw[ZV c2,ZV c2];exact .inr (.inl ⟨rfl,rfl⟩)
def Cr {ps:List (Int×Int)}{p:Int} (h1:1<=p) (h2:p<ps.length):atI (ps.map prD) p=some (prD (atP1 ps (p+1))):=by
 have:=Uo (ps:=ps) (p:=p+1) (by omega) (by omega)
 rwa[show p+1-1=p by omega] at this
abbrev d3 (k:Str) (a b:Int):D:=.tup [.str k,.int a,.int b]
end Pu
namespace Pu
open PySem PySem.Spec PyProof.Rows L2 Own
section
variable {K:Za}{mg:Str->Option Value}{E:L2.St->XK}
def rNeT (K:Za):R2:=fun x y H Q=>∃(p q:Addr) (xs ys:List V),x=.ref p/\y=.ref q/\SqT K H p xs/\SqT K H q ys/\xs.all Jf=true/\ys.all Jf=true/\Q (.bl (!eqL xs ys)) H
def Bb {X:Cx} (hu:X.A.units<cLine) (hK:X.K=K:=by rfl):OpR X (compareOp .NotEq) (rNeT K):=by
 subst hK;intro pins s σ H x y v u Q I rx ry h;obtain⟨p,q,xs,ys,rfl,rfl,hp,hq,f1,f2,k⟩:=h;obtain rfl:v=Value.ref p:=rx;obtain rfl:u=Value.ref q:=ry;obtain⟨us,r1,p1,_⟩:=I.tuple hp;obtain⟨ws,r2,p2,_⟩:=I.tuple hq;have l1:=r1.length;have l2:=r2.length;refine SeqAt.RcNeAt.tuples p1 p2 hu (fun j h1 h2=>TK r1 r2 f1 f2 j h1 h2) _ _ _ _ ⟨.bl (!eqL xs ys),H,I,?_,k⟩;show _=Value.bool (!eqL xs ys);unfold eqL;rw[Yd,Yd,←l1,←l2];by_cases e:xs.length=ys.length
 ·rw[ZT e,Wm,←e,Nat.min_self,beq_self_eq_true,Bool.and_true]
 ·rw[Yk e,Bool.false_and,Wa.mpr e,Bool.and_false]
def fNeT:S->S->(S->Prop)->Prop:=fun x y R=>∃xs ys:List Int,x.d=.tup (xs.map D.int)/\y.d=.tup (ys.map D.int)/\R (.sh (.bl (!decide (xs=ys))))
def N9 {ta tb:TE}{a b:PTE} (ha:SndE K mg E ta a) (hb:SndE K mg E tb b):SndE K mg E (tOp (rNeT K) ta tb) (p2 a b fNeT):=by
 refine se_2 ha hb fun H0 H H2 Z x y v u R Q s0 s1 hm tx ty h q=>?_;obtain⟨xs,ys,e1,e2,hR⟩:=h;have rx:=tx.rp s0;have ry:=ty.rp s0;rw[e1] at rx;rw[e2] at ry;obtain⟨p,us,rfl,hp,r1⟩:=Rp.tup_inv rx;obtain⟨p',ws,rfl,hp',r2⟩:=Rp.tup_inv ry;rw[r1.ints] at hp;rw[r2.ints] at hp';refine⟨p,p',_,_,rfl,rfl,SqT.of hp,SqT.of hp',U9 _,U9 _,?_⟩;rw[Pz];exact q _ _ H2 hR (Same.refl _) (.bl _)
def N1:List S->(S->Prop)->Prop
 | [s],R=>(match s.d with | .int i=>R (.sh (.int i)) | .bl k=>R (.sh (.int (if k then 1 else 0)))|_=>False)
 | _,_=>False
def Cg {ta:TA}{r:PTA} (hr:SndA K mg E ta r):SndE K mg E (tCB (fun xs H Q=>(∃i,xs=[.int i]/\Q (.int i) H)\/∃k,xs=[.bl k]/\Q (.int (if k then 1 else 0)) H) ta) (pCB N1 r):=by
 refine U0 hr fun H0 H H1 Z ss vs R Q s0 s1 hm tv h q=>?_;unfold N1 at h;split at h
 ·rename_i s;obtain⟨v,rfl,t1⟩:=tv.one_inv;have rv:=t1.rp s0;split at h
  ·rename_i i e;rw[e] at rv;exact .inl ⟨i,by rw[rv.int_inv],q _ _ H1 h (Same.refl _) (.int _)⟩
  ·rename_i k e;rw[e] at rv;exact .inr ⟨k,by rw[rv.bl_inv],q _ _ H1 h (Same.refl _) (.int _)⟩
  ·exact h.elim
 ·exact h.elim
def FD (p q:Int×Int):decide ([p.1,p.2]=[q.1,q.2])=decide (p=q):=by
 by_cases h:p=q
 ·rw[h,ZT rfl,ZT rfl]
 ·rw[Yk h,Yk];intro z;simp only[List.cons.injEq,and_true] at z;exact h (Prod.ext z.1 z.2)
def CL {p q:Int×Int}{R:S->Prop} (h:R (.sh (.bl (!decide (p=q))))):fNeT (.sh (prD p)) (.sh (prD q)) R:=by
 refine⟨[p.1,p.2],[q.1,q.2],rfl,rfl,?_⟩
 have e:decide ([p.1,p.2]=[q.1,q.2])=decide (p=q):=by
  by_cases h:p=q
  ·rw[h,ZT rfl,ZT rfl]
  ·rw[Yk h,Yk];intro z;simp only[List.cons.injEq,and_true] at z;exact h (Prod.ext z.1 z.2)
 rw[e];exact h
end
structure DI (K:Za) (x:Str) (st:Stmt):Prop where
 ex:∃f fd,PySem.W.nsIn K mainGlobals x=some (some (.ref f))/\Fun K x x st f fd
structure MI (K:Za) (C:Addr) (m q:Str) (st:Stmt):Prop where
 ex:∃f fd,PySem.W.findIn K (.ref C) m=some (some (.ref f))/\PySem.W.isFn K (.ref f)=true/\Fun K m q st f fd
section
variable {K:Za}{h:Heap}{mg:Str->Option Value}
def di {x:Str}{st:Stmt}{f:Addr}{oc:Value}{od an:Option Addr}{osl:Array (Option Value)}{kV doc pm cdv ct:Value} (a:PySem.W.nsIn K mainGlobals x=some (some (.ref f))) (l:K.lookup f=some ⟨oc,od,.func (PySem.W.fnOf x x (JN st) (Ja st) (Vk st) .none kV doc pm an cdv ct),osl⟩)
  (c:PySem.W.codeIn K cdv x=true) (k:PySem.W.keepIn K (.ref f)=true):DI K x st:=⟨f,_,a,KZ l c k⟩
def mi {C:Addr}{m q:Str}{st:Stmt}{f:Addr}{oc:Value}{od an:Option Addr}{osl:Array (Option Value)}{kV doc pm cdv ct:Value} (a:PySem.W.findIn K (.ref C) m=some (some (.ref f))) (i:PySem.W.isFn K (.ref f)=true) (l:K.lookup f=some ⟨oc,od,.func (PySem.W.fnOf m q (JN st) (Ja st) (Vk st) .none kV doc pm an cdv ct),osl⟩)
  (c:PySem.W.codeIn K cdv q=true) (k:PySem.W.keepIn K (.ref f)=true):MI K C m q st:=⟨f,_,a,i,KZ l c k⟩
def DI.d {x:Str}{st:Stmt}{ps:List Str} (D:DI K x st) (X:K.In h) (G0:h.Ns mainGlobals mg)
  (b:∀(kV doc pm:Value) (an:Option Addr) (cdv ct:Value) (us:List Value),us.length=ps.length->bindArgs (PySem.W.fnOf x x (JN st) (Ja st) (Vk st) .none kV doc pm an cdv ct) ⟨us,[]⟩=pure (ps.zip us)):Def K mg x st ps:=
 let ⟨_,_,a,F⟩:=D.ex
 ⟨_,_,F,YG X G0 a,F.binds b⟩
def MI.d {C C':Addr}{m q:Str}{st:Stmt}{ps:List Str} (D:MI K C m q st) (e:C'=C)
  (b:∀(kV doc pm:Value) (an:Option Addr) (cdv ct:Value) (us:List Value),us.length=ps.length->bindArgs (PySem.W.fnOf m q (JN st) (Ja st) (Vk st) .none kV doc pm an cdv ct) ⟨us,[]⟩=pure (ps.zip us)):DefM K (Meth K C' m) m q st ps:=
 let ⟨_,_,a,i,F⟩:=D.ex
 ⟨_,_,F,by rw[e];exact⟨a,i,F.kp⟩,F.binds b⟩
def MI.i {C C':Addr}{q:Str}{st:Stmt}{ps:List Str} (D:MI K C "__init__" q st) (e:C'=C) (mk:PySem.W.makesIn K C=true) (kc:PySem.W.keepIn K (.ref C)=true)
  (b:∀(kV doc pm:Value) (an:Option Addr) (cdv ct:Value) (us:List Value),us.length=ps.length->bindArgs (PySem.W.fnOf "__init__" q (JN st) (Ja st) (Vk st) .none kV doc pm an cdv ct) ⟨us,[]⟩=pure (ps.zip us)):DefM K (Mk K C') "__init__" q st ps:=
 let ⟨_,_,a,i,F⟩:=D.ex
 ⟨_,_,F,by rw[e];exact⟨mk,a,i,kc⟩,F.binds b⟩
end
def fs {N P:List Str}{sc:Scope} (h1:sc.kind=.function:=by rfl) (h2:sc.isCoroutine=false:=by rfl) (h3:sc.isGenerator=false:=by rfl) (h4:N.Nodup:=by decide +kernel) (h5:N.take P.length=P:=by rfl) (h6:∀x∈P,sc.names.lookup x=some .local\/sc.names.lookup x=some .cell:=by decide +kernel) (h7:∀y∈sc.names,y.2≠.free:=by decide +kernel):FnScope N P sc:=⟨h1,h2,h3,h4,h5,h6,h7⟩
def pz {X:Cx}{pos:Pos}{x:Str}{e:Expr}{te:TE}{pos':Pos} (i:Nat) (hN:X.N.Nodup) (he:PE X e te) (hi:X.N[i]?=some x:=by rfl) (hx:Loc X.env.scope x:=by first|exact Or.inl rfl|exact Or.inr rfl) (hs:swapsWith e (some (.Name x pos')) pos.line X.env=pure false:=by rfl) (hf:X.fn x=true\/X.env.scope.names.lookup x=some .local:=by first|exact .inl rfl|exact .inr rfl|assumption) :
  PS X (.Assign [.Name x pos'] e pos) (tAsg te (Xp i)):=GO hN hi hx he hs hf
section
variable {K:Za}{mg:Str->Option Value}{E:L2.St->XK}{H0 H H1 H':Hp}{B Z Z':Addr->Prop}{σ:L2.St}{γ:Γ}
def EnvR.named {i:Nat}{a:Addr}{ds:List D} (env:EnvR K H0 B H σ γ) (hi:γ[i]?=some (some (.own (.lst ds)))) (ha:σ[i]?=some (some (.ref a))):EnvR K H0 B H σ (γ.set i (some (.own (.lsA a ds))))/\Fr B H σ γ H σ (γ.set i (some (.own (.lsA a ds)))):=by
 obtain⟨v,hv,b,rfl,hb0,us,hb,rb⟩:=env.slot i _ hi;rw[ha] at hv;cases hv
 have hz:∀b,zof B (γ.set i (some (.own (.lsA a ds)))) σ b->zof B γ σ b:=fun b z=>by
  rcases z with z|⟨j,fs,a',e1,e2,e3⟩
  ·exact .inl z
  ·rcases VD e1 with⟨ej,q,_⟩|⟨_,e⟩
   ·subst ej;cases q
    rw[ha] at e2;cases e2
    exact .inr ⟨j,_,a,hi,ha,e3⟩
   ·exact .inr ⟨j,fs,a',e,e2,e3⟩
 exact env.change (o:=.lst ds) (o':=.lsA a ds) hi ha (fun _ _ h _=>h) (fun b h=>by rw[show b=a from h,hb];trivial) (fun b h=>.inl h) ⟨rfl,us,hb,Rps.mono (Vy (Same.refl _) fun b _ _ z y=>z (hz b y)) rb⟩
def pNm (i:Nat) (p:PTS):PTS:=fun R γ=>match γ[i]? with
 | some (some (.own (.lst ds)))=>∀a,p R (γ.set i (some (.own (.lsA a ds))))
 | _=>p R γ
def K7 (i:Nat) {t:TS}{p:PTS} (hp:SndS K mg E t p):SndS K mg E t (pNm i p):=by
 intro H0 B H σ γ R D hB env h e;unfold pNm at h;split at h
 ·rename_i ds hi;obtain⟨v,hv,b,rfl,hb0,us,hb,rb⟩:=env.slot i _ hi;obtain⟨e1,f1⟩:=env.named hi hv;exact hp H0 B H σ _ R D hB e1 (h b) (e.from f1)
 ·exact hp H0 B H σ γ R D hB env h e
def EnvR.change2 {i j:Nat}{a1 a2:Addr}{o1 o1' o2 o2':O} (E:EnvR K H0 B H σ γ) (hij:i≠j) (hi:γ[i]?=some (some (.own o1))) (hj:γ[j]?=some (some (.own o2))) (ha1:σ[i]?=some (some (.ref a1))) (ha2:σ[j]?=some (some (.ref a2)))
  (hH:∀b x,H b=some x->¬o1.adr a1 b->¬o2.adr a2 b->H' b=some x) (hm:∀b,o1.adr a1 b\/o2.adr a2 b->Mut (H' b)) (n1:∀b,o1'.adr a1 b->o1.adr a1 b\/H b=none) (n2:∀b,o2'.adr a2 b->o2.adr a2 b\/H b=none) (ap:∀b,o1'.adr a1 b->¬o2'.adr a2 b)
  (r1:OR K (Pu.off (zof B ((γ.set i (some (.own o1'))).set j (some (.own o2'))) σ) H') H' a1 o1') (r2:OR K (Pu.off (zof B ((γ.set i (some (.own o1'))).set j (some (.own o2'))) σ) H') H' a2 o2') :
  EnvR K H0 B H' σ ((γ.set i (some (.own o1'))).set j (some (.own o2')))/\Fr B H σ γ H' σ ((γ.set i (some (.own o1'))).set j (some (.own o2'))):=by
 generalize eg:(γ.set i (some (S.own o1'))).set j (some (.own o2'))=γ2 at r1 r2 ⊢
 have get:∀(k:Nat) (s:S),γ2[k]?=some (some s)->(k=j/\s=.own o2')\/(k=i/\k≠j/\s=.own o1')\/(k≠i/\k≠j/\γ[k]?=some (some s)):=fun k s h=>by
  rw[←eg] at h;rcases VD h with⟨e1,e2,_⟩|⟨e1,e2⟩
  ·exact .inl ⟨e1,(Ya e2).symm⟩
  ·rcases VD e2 with⟨f1,f2,_⟩|⟨f1,f2⟩
   ·exact .inr (.inl ⟨f1,e1,(Ya f2).symm⟩)
   ·exact .inr (.inr ⟨f1,e1,f2⟩)
 obtain⟨v1,q1,x1,rfl,h1,k1⟩:=E.slot i _ hi;rw[ha1] at q1;cases q1
 obtain⟨v2,q2,x2,rfl,h2,k2⟩:=E.slot j _ hj;rw[ha2] at q2;cases q2
 have za:∀b,o1.adr a1 b\/o2.adr a2 b->zof B γ σ b:=fun b hb=>hb.elim (fun hb=>.inr ⟨i,o1,a1,hi,ha1,hb⟩) fun hb=>.inr ⟨j,o2,a2,hj,ha2,hb⟩
 have hz:∀b x,H b=some x->zof B γ2 σ b->zof B γ σ b:=fun b x hx z=>by
  rcases z with z|⟨k,fs,a',e1,e2,e3⟩
  ·exact .inl z
  ·rcases get k _ e1 with⟨ek,es⟩|⟨ek,_,es⟩|⟨_,_,e⟩
   ·subst ek;cases es;rw[ha2] at e2;cases e2;rcases n2 b e3 with w|w
    ·exact za b (.inr w)
    ·rw[w] at hx;cases hx
   ·subst ek;cases es;rw[ha1] at e2;cases e2;rcases n1 b e3 with w|w
    ·exact za b (.inl w)
    ·rw[w] at hx;cases hx
   ·exact .inr ⟨k,fs,a',e,e2,e3⟩
 have hH':∀b x,H b=some x->¬(o1.adr a1 b\/o2.adr a2 b)->H' b=some x:=fun b x hx n=>hH b x hx (fun z=>n (.inl z)) fun z=>n (.inr z)
 have S1:Same (Pu.off (zof B γ σ) H) (Pu.off (zof B γ2 σ) H'):=fun b x h=>by
  obtain⟨q1,q2⟩:=JF h;exact VM (hH' b x q1 fun k=>q2 (za b k)) fun z=>q2 (hz b x q1 z)
 have old:∀(k:Nat) (ds:O) (a b:Addr),γ[k]?=some (some (.own ds))->σ[k]?=some (some (.ref a))->ds.adr a b->∃o,H b=some o:=fun k ds a b e1 e2 e3=>by
  obtain⟨u,q1,a',q2,_,q3⟩:=E.slot k _ e1;rw[e2] at q1;cases q1
  cases q2
  exact Ul (q3.mut b e3)
 have apart1:∀(k:Nat) (ds:O) (a b:Addr),k≠i->γ[k]?=some (some (.own ds))->σ[k]?=some (some (.ref a))->ds.adr a b->¬o1'.adr a1 b:=fun k ds a b nk e1 e2 e3 w=>by
  rcases n1 b w with w|w
  ·exact nk (E.own k i a a1 ds o1 b e1 hi e2 ha1 e3 w)
  ·obtain⟨u,hu⟩:=old k ds a b e1 e2 e3;rw[w] at hu;cases hu
 have apart2:∀(k:Nat) (ds:O) (a b:Addr),k≠j->γ[k]?=some (some (.own ds))->σ[k]?=some (some (.ref a))->ds.adr a b->¬o2'.adr a2 b:=fun k ds a b nk e1 e2 e3 w=>by
  rcases n2 b w with w|w
  ·exact nk (E.own k j a a2 ds o2 b e1 hj e2 ha2 e3 w)
  ·obtain⟨u,hu⟩:=old k ds a b e1 e2 e3;rw[w] at hu;cases hu
 refine⟨⟨fun b x h=>?_,by rw[←eg,YE,YE];exact E.len,fun b hb=>?_,fun k l x x' fs fs' b e1 e2 e3 e4 e5 e6=>?_,fun k s h=>?_⟩,fun b x h z=>⟨?_,fun y=>z (hz b x h y)⟩⟩
 ·exact hH' b x (E.same b x h) fun k=>by
   rcases k with k|k
   ·rw[h1 b k] at h;cases h
   ·rw[h2 b k] at h;cases h
 ·by_cases k:o1.adr a1 b\/o2.adr a2 b
  ·exact hm b k
  ·have:=E.bm b hb
   obtain⟨x,hx⟩:=Ul this;rw[hH' b x hx k,←hx];exact this
 ·rcases get k _ e1 with⟨ek,es⟩|⟨ek,nk,es⟩|⟨nk,nk',e⟩<;>rcases get l _ e2 with⟨el,et⟩|⟨el,nl,et⟩|⟨nl,nl',e'⟩
  ·rw[ek,el]
  ·subst ek el;cases es;cases et;rw[ha2] at e3;cases e3;rw[ha1] at e4;cases e4;exact absurd e5 (ap b e6)
  ·subst ek;cases es;rw[ha2] at e3;cases e3;exact absurd e5 (apart2 l fs' x' b nl' e' e4 e6)
  ·subst ek el;cases es;cases et;rw[ha1] at e3;cases e3;rw[ha2] at e4;cases e4;exact absurd e6 (ap b e5)
  ·rw[ek,el]
  ·subst ek;cases es;rw[ha1] at e3;cases e3;exact absurd e5 (apart1 l fs' x' b nl e' e4 e6)
  ·subst el;cases et;rw[ha2] at e4;cases e4;exact absurd e6 (apart2 k fs x b nk' e e3 e5)
  ·subst el;cases et;rw[ha1] at e4;cases e4;exact absurd e6 (apart1 k fs x b nk e e3 e5)
  ·exact E.own k l x x' fs fs' b e e' e3 e4 e5 e6
 ·rcases get k s h with⟨ek,es⟩|⟨ek,_,es⟩|⟨nk,nk',e⟩
  ·subst ek es;exact⟨_,ha2,a2,rfl,fun b hb=>(n2 b hb).elim (h2 b) fun w=>E.same.free w,r2⟩
  ·subst ek es;exact⟨_,ha1,a1,rfl,fun b hb=>(n1 b hb).elim (h1 b) fun w=>E.same.free w,r1⟩
  ·obtain⟨v,q1,q2⟩:=E.slot k s e;refine⟨v,q1,?_⟩;cases s with
   | bor d=>exact q2
   | sh d=>exact Rp.mono S1 q2
   | own fs=>
    obtain⟨x,rfl,e3,e4⟩:=q2;exact⟨x,rfl,e3,e4.mono S1 fun b hb y e2=>hH b y e2 (fun w=>nk (E.own k i x a1 fs o1 b e hi q1 ha1 hb w)) fun w=>nk' (E.own k j x a2 fs o2 b e hj q1 ha2 hb w)⟩
   | view ds=>exact q2
   | tmp d=>exact q2
 ·exact hH' b x h fun k=>z (za b k)
abbrev Pw2:=O->O->List S->(O->O->D->Prop)->(O->O->Str->Prop)->Prop
def two (o1 o2:O) (a1 a2:Addr):Addr->Prop:=fun b=>o1.adr a1 b\/o2.adr a2 b
structure After2 (K:Za) (B:Addr->Prop) (H:Hp) (a1 a2:Addr) (o1 o2 o1' o2':O) (H':Hp):Prop where
 same:Same (off (two o1 o2 a1 a2) H) H'
 old1:∀b,o1.adr a1 b->o1'.adr a1 b
 old2:∀b,o2.adr a2 b->o2'.adr a2 b
 new1:∀b,o1'.adr a1 b->o1.adr a1 b\/H b=none
 new2:∀b,o2'.adr a2 b->o2.adr a2 b\/H b=none
 apart:∀b,o1'.adr a1 b->¬o2'.adr a2 b
 at1:OR K (off (fun b=>B b\/two o1' o2' a1 a2 b) H') H' a1 o1'
 at2:OR K (off (fun b=>B b\/two o1' o2' a1 a2 b) H') H' a2 o2'
def spW2 (mg:Str->Option Value) (c:Pw2) (K:Za):Sp:=fun vs H Q E=>∃(o1 o2:O) (a1 a2:Addr) (ss:List S) (us:List V) (B:Addr->Prop) (R:O->O->D->Prop) (X:O->O->Str->Prop),
 vs=.ref a1 :: .ref a2::us/\(∀b,B b->Mut (H b)/\¬two o1 o2 a1 a2 b)/\(∀b,o1.adr a1 b->¬o2.adr a2 b)/\OR K (off (fun b=>B b\/two o1 o2 a1 a2 b) H) H a1 o1/\OR K (off (fun b=>B b\/two o1 o2 a1 a2 b) H) H a2 o2/\
 TVs K (fun b=>B b\/two o1 o2 a1 a2 b) (off (two o1 o2 a1 a2) H) H H ss us/\(∀s∈ss,s.flat)/\c o1 o2 ss R X/\
 (∀o1' o2' d v H',R o1' o2' d->After2 K B H a1 a2 o1 o2 o1' o2' H'->Rp K (off (fun b=>B b\/two o1' o2' a1 a2 b) H') d v->Q v H')/\∀o1' o2' e H',X o1' o2' e->After2 K B H a1 a2 o1 o2 o1' o2' H'->E (.ref (ExcR.Vb mg e)) none H'
def Ub (N:List Str) (o1 o2:O) (ss:List S):Γ:=some (.own o1)::some (.own o2)::(ss.map some++List.replicate (N.length-(ss.length+2)) none)
def HJ {N:List Str}{o1 o2:O}{a1 a2:Addr}{ss:List S}{us:List V} (hB:∀b,B b->Mut (H b)/\¬two o1 o2 a1 a2 b) (ap:∀b,o1.adr a1 b->¬o2.adr a2 b) (ho1:OR K (off (fun b=>B b\/two o1 o2 a1 a2 b) H) H a1 o1) (ho2:OR K (off (fun b=>B b\/two o1 o2 a1 a2 b) H) H a2 o2)
  (r:TVs K (fun b=>B b\/two o1 o2 a1 a2 b) (off (two o1 o2 a1 a2) H) H H ss us) (hf:∀s∈ss,s.flat) (hn:ss.length+2<=N.length) :
  EnvR K (off (two o1 o2 a1 a2) H) B H (start N (.ref a1 :: .ref a2::us)) (Ub N o1 o2 ss):=by
 have hlen:=r.len
 have get:∀(i:Nat) (s:S),(Ub N o1 o2 ss)[i+2]?=some (some s)->ss[i]?=some s:=fun i s h=>by
  unfold Ub at h;rw[Yx,Yx] at h;by_cases hi:i<ss.length
  ·rw[Y3 (by rw[ZR];exact hi),ZY,ZS hi] at h;rw[ZS hi];exact Y0 some (Ya (Ya h))
  ·rw[Yz (by rw[ZR];omega),YS] at h;split at h<;>cases h
 have noown:∀(i:Nat) (es:O),(Ub N o1 o2 ss)[i+2]?≠some (some (.own es)):=fun i es h=>hf _ (Yh (get i _ h))
 have st0:(start N (V.ref a1::V.ref a2::us))[0]?=some (some (.ref a1)):=by
  unfold L2.start;rfl
 have st1:(start N (V.ref a1::V.ref a2::us))[1]?=some (some (.ref a2)):=by
  unfold L2.start;rfl
 have g0:∀s,(Ub N o1 o2 ss)[0]?=some (some s)->s=.own o1:=fun s h=>by
  have h:some (some (S.own o1))=some (some s):=h;cases h
  rfl
 have g1:∀s,(Ub N o1 o2 ss)[1]?=some (some s)->s=.own o2:=fun s h=>by
  have h:some (some (S.own o2))=some (some s):=h;cases h
  rfl
 have hz:∀b,zof B (Ub N o1 o2 ss) (start N (V.ref a1::V.ref a2::us)) b->B b\/two o1 o2 a1 a2 b:=fun b z=>by
  rcases z with z|⟨i,es,a',h1,h2,h3⟩
  ·exact .inl z
  ·match i,h1,h2 with
   | 0,h1,h2=>
    rw[st0] at h2;cases h2
    cases g0 _ h1
    exact .inr (.inl h3)
   | 1,h1,h2=>
    rw[st1] at h2;cases h2
    cases g1 _ h1
    exact .inr (.inr h3)
   | i+2,h1,_=>exact absurd h1 (noown i es)
 have toz:∀{o:O} {a:Addr},OR K (off (fun b=>B b\/two o1 o2 a1 a2 b) H) H a o->OR K (off (zof B (Ub N o1 o2 ss) (start N (V.ref a1::V.ref a2::us))) H) H a o:=fun h=>h.mono (Vy (Same.refl _) fun b _ _ z y=>z (hz b y)) fun _ _ _ q=>q;refine⟨off_sub,?_,fun b h=>(hB b h).1,fun i j x x' es es' b h1 h2 h3 h4 h5 h6=>?_,fun i s h=>?_⟩
 ·unfold L2.start Ub;simp[hlen]
 ·match i,j,h1,h2,h3,h4 with
  | 0,0,_,_,_,_=>rfl
  | 1,1,_,_,_,_=>rfl
  | 0,1,h1,h2,h3,h4=>
   cases g0 _ h1
   cases g1 _ h2
   rw[st0] at h3;cases h3
   rw[st1] at h4;cases h4
   exact absurd h6 (ap b h5)
  | 1,0,h1,h2,h3,h4=>
   cases g1 _ h1
   cases g0 _ h2
   rw[st1] at h3;cases h3
   rw[st0] at h4;cases h4
   exact absurd h5 (ap b h6)
  | i+2,_,h1,_,_,_=>exact absurd h1 (noown i es)
  | 0,j+2,_,h2,_,_=>exact absurd h2 (noown j es')
  | 1,j+2,_,h2,_,_=>exact absurd h2 (noown j es')
 ·match i,h with
  | 0,h=>
   cases g0 _ h
   refine⟨_,st0,a1,rfl,fun b hb=>?_,toz ho1⟩;unfold off;rw[ZV (.inl hb)]
  | 1,h=>
   cases g1 _ h
   refine⟨_,st1,a2,rfl,fun b hb=>?_,toz ho2⟩;unfold off;rw[ZV (.inr hb)]
  | i+2,h=>
   have hs:=get i s h;obtain⟨v,hv,tv⟩:=r.get hs;refine⟨v,?_,?_⟩
   ·unfold L2.start;rw[Y3 (by rw[ZR,Ys,Ys];have:=(Yo.mp hv).1;omega),ZY,Yx,Yx,hv];rfl
   ·have:=hf s (Yh hs)
    cases s with
    | bor d=>exact tv
    | sh d=>exact Rp.mono (Vy (Same.refl _) fun b _ _ z y=>z (hz b y)) tv
    | own _=>exact this.elim
    | view _=>exact this.elim
    | tmp _=>exact this.elim
def BW (o1 o2:O) (R:O->O->D->Prop) (γ:Γ) (d:D):Prop:=∃o1' o2',γ[0]?=some (some (.own o1'))/\γ[1]?=some (some (.own o2'))/\o1.from o1'/\o2.from o2'/\R o1' o2' d
def Af (o1 o2:O) (X:O->O->Str->Prop) (γ:Γ) (e:Str):Prop:=∃o1' o2',γ[0]?=some (some (.own o1'))/\γ[1]?=some (some (.own o2'))/\o1.from o1'/\o2.from o2'/\X o1' o2' e
def SE (o1 o2:O) (R:O->O->D->Prop) (X:O->O->Str->Prop):PEnds:={ nx:=fun γ=>BW o1 o2 R γ .non,rt:=fun _=>False,ex:=Af o1 o2 X,rv:=BW o1 o2 R }
def Th {a1 a2:Addr}{o1 o2 o1' o2':O}{σ':L2.St}{γ':Γ} (ho1:OR K (off (fun b=>B b\/two o1 o2 a1 a2 b) H) H a1 o1) (ho2:OR K (off (fun b=>B b\/two o1 o2 a1 a2 b) H) H a2 o2) (e:EnvR K (off (two o1 o2 a1 a2) H) B H' σ' γ') (h1:γ'[0]?=some (some (.own o1'))) (h2:γ'[1]?=some (some (.own o2'))) (k1:o1.from o1') (k2:o2.from o2') :
  After2 K B H a1 a2 o1 o2 o1' o2' H'/\∀b,B b\/two o1' o2' a1 a2 b->zof B γ' σ' b:=by
 obtain⟨v1,s1,x1,rfl,p1,q1⟩:=e.slot 0 _ h1;obtain rfl:=O.from_at k1 ho1 q1;obtain⟨v2,s2,x2,rfl,p2,q2⟩:=e.slot 1 _ h2;obtain rfl:=O.from_at k2 ho2 q2
 have hz:∀b,B b\/two o1' o2' x1 x2 b->zof B γ' σ' b:=fun b z=>by
  rcases z with z|z|z
  ·exact .inl z
  ·exact .inr ⟨0,o1',x1,h1,s1,z⟩
  ·exact .inr ⟨1,o2',x2,h2,s2,z⟩
 have ap:∀b,o1'.adr x1 b->¬o2'.adr x2 b:=fun b z y=>absurd (e.own 0 1 x1 x2 o1' o2' b h1 h2 s1 s2 z y) (by decide);have fromZ:∀{o:O} {a:Addr},OR K (off (zof B γ' σ') H') H' a o->OR K (off (fun b=>B b\/two o1' o2' x1 x2 b) H') H' a o:=fun h=>h.mono (Vy (Same.refl _) fun b _ _ z y=>z (hz b y)) fun _ _ _ q=>q
 have free:∀b,off (two o1 o2 x1 x2) H b=none->two o1 o2 x1 x2 b\/H b=none:=fun b w=>by
  unfold off at w;by_cases q:two o1 o2 x1 x2 b
  ·exact .inl q
  ·rw[ZU q] at w;exact .inr w
 refine⟨⟨e.same,O.from_adr k1,O.from_adr k2,fun b hb=>?_,fun b hb=>?_,ap,fromZ q1,fromZ q2⟩,hz⟩
 ·rcases free b (p1 b hb) with(w|w)|w
  ·exact .inl w
  ·exact absurd (O.from_adr k2 b w) (ap b hb)
  ·exact .inr w
 ·rcases free b (p2 b hb) with(w|w)|w
  ·exact absurd hb (ap b (O.from_adr k1 b w))
  ·exact .inl w
  ·exact .inr w
def Hv {c:Pw2}{N:List Str}{t:TS}{p:PTS}{vs:List V}{Q:VK}{Ec:XK}{n:Nat} (h:spW2 mg c K vs H Q Ec) (snd:SndS K mg (fun _=>Ec) t p) (hn:n+2<=N.length)
  (hp:∀o1 o2 ss R X,c o1 o2 ss R X->ss.length=n/\p (SE o1 o2 R X) (Ub N o1 o2 ss)):t { nx:=fun _ H'=>Q .non H',rt:=Q } (start N vs) H:=by
 obtain⟨o1,o2,a1,a2,ss,us,B,R,X,rfl,hB,ap,ho1,ho2,r,hf,hc,hQ,hX⟩:=h;obtain⟨e,hp⟩:=hp o1 o2 ss R X hc;have env:=HJ (N:=N) hB ap ho1 ho2 r hf (by rw[e];exact hn);refine snd _ B H _ _ _ _ (fun b z=>?_) env hp ⟨fun σ' γ' H' h1 e1 f1=>?_,fun _ _ _ z=>z.elim,fun σ' γ' c H' h1 e1 f1=>?_,fun _ _ _ z=>z.elim,fun _ _ _ z=>z.elim,fun σ' γ' d v H' h1 e1 f1 rd=>?_⟩
 ·obtain⟨q1,q2⟩:=hB b z;obtain⟨x,hx⟩:=Ul q1;exact⟨x,VM hx q2⟩
 ·obtain⟨o1',o2',q1,q2,q3,q4,q5⟩:=h1;exact hQ o1' o2' .non .non H' q5 (Th ho1 ho2 e1 q1 q2 q3 q4).1 .non
 ·obtain⟨o1',o2',q1,q2,q3,q4,q5⟩:=h1;exact hX o1' o2' c H' q5 (Th ho1 ho2 e1 q1 q2 q3 q4).1
 ·obtain⟨o1',o2',q1,q2,q3,q4,q5⟩:=h1;obtain⟨k1,k2⟩:=Th ho1 ho2 e1 q1 q2 q3 q4;exact hQ o1' o2' d v H' q5 k1 (Rp.mono (Vy (Same.refl _) fun b _ _ z y=>z (k2 b y)) rd)
def E8 {c:Pw2}{vs:List V}{Q:VK}{Ec:XK}{n:Nat} (h:spW2 mg c K vs H Q Ec) (hn:∀o1 o2 ss R X,c o1 o2 ss R X->ss.length=n):vs.length=n+2:=by
 obtain⟨o1,o2,a1,a2,ss,us,B,R,X,rfl,_,_,_,_,r,_,hc,_⟩:=h;rw[Ys,Ys,r.len,hn o1 o2 ss R X hc]
def Ak {c:Pw2}{i j:Nat}{o1 o2:O}{a1 a2:Addr}{ss ss':List S}{us:List V}{R:Γ->D->Prop}{X:Γ->Str->Prop}{Q:VK}{Ec:XK} (env:EnvR K H0 B H σ γ) (hB:∀b,B b->∃o,H0 b=some o) (S1:Same H H1) (hij:i≠j) (hi:γ[i]?=some (some (.own o1))) (hj:γ[j]?=some (some (.own o2))) (ha1:σ[i]?=some (some (.ref a1))) (ha2:σ[j]?=some (some (.ref a2)))
  (t1:TVs K (zof B γ σ) H0 H H1 ss us) (hp:passes ss=some ss') (hc:c o1 o2 ss' (fun o1' o2' d=>R ((γ.set i (some (.own o1'))).set j (some (.own o2'))) d) (fun o1' o2' e=>X ((γ.set i (some (.own o1'))).set j (some (.own o2'))) e))
  (q:∀γ' d v H',R γ' d->EnvR K H0 B H' σ γ'->Fr B H σ γ H' σ γ'->Rp K (off (zof B γ' σ) H') d v->Q v H') (qx:∀γ' c H',X γ' c->EnvR K H0 B H' σ γ'->Fr B H σ γ H' σ γ'->Ec (.ref (ExcR.Vb mg c)) none H'):spW2 mg c K (.ref a1 :: .ref a2::us) H1 Q Ec:=by
 have env1:=env.grow S1;obtain⟨v1,h1,x1,e1,h3,h4⟩:=env1.slot i _ hi;rw[ha1] at h1;cases h1
 cases e1
 obtain⟨v2,h2,x2,e2,h5,h6⟩:=env1.slot j _ hj;rw[ha2] at h2;cases h2
 cases e2
 have ap:∀b,o1.adr a1 b->¬o2.adr a2 b:=fun b z y=>hij (env.own i j a1 a2 o1 o2 b hi hj ha1 ha2 z y);have za:∀b,two o1 o2 a1 a2 b->zof B γ σ b:=fun b hb=>hb.elim (fun hb=>.inr ⟨i,o1,a1,hi,ha1,hb⟩) fun hb=>.inr ⟨j,o2,a2,hj,ha2,hb⟩;have h0:∀b,two o1 o2 a1 a2 b->H0 b=none:=fun b hb=>hb.elim (h3 b) (h5 b);have down:∀{o:O} {a:Addr},OR K (off (zof B γ σ) H1) H1 a o->OR K (off (fun b=>(zof B γ σ b/\¬two o1 o2 a1 a2 b)\/two o1 o2 a1 a2 b) H1) H1 a o:=fun h=>h.mono (Vy (Same.refl _) fun b _ _ z y=>z (y.elim (fun y=>y.1) (za b))) fun _ _ _ q=>q
 have aft:∀o1' o2' H',After2 K (fun b=>zof B γ σ b/\¬two o1 o2 a1 a2 b) H1 a1 a2 o1 o2 o1' o2' H'->EnvR K H0 B H' σ ((γ.set i (some (.own o1'))).set j (some (.own o2')))/\Fr B H σ γ H' σ ((γ.set i (some (.own o1'))).set j (some (.own o2')))/\∀b x,H' b=some x->¬((zof B γ σ b/\¬two o1 o2 a1 a2 b)\/two o1' o2' a1 a2 b)->¬zof B ((γ.set i (some (.own o1'))).set j (some (.own o2'))) σ b:=fun o1' o2' H' A=>by
  have hzz:∀b x,H' b=some x->¬((zof B γ σ b/\¬two o1 o2 a1 a2 b)\/two o1' o2' a1 a2 b)->¬zof B ((γ.set i (some (.own o1'))).set j (some (.own o2'))) σ b:=fun b x _ n z=>by
   rcases z with z|⟨k,fs,a',e1,e2,e3⟩
   ·refine n (.inl ⟨.inl z,fun w=>?_⟩);obtain⟨u,hu⟩:=hB b z;rw[h0 b w] at hu;cases hu
   ·rcases VD e1 with⟨ek,q,_⟩|⟨nk,q⟩
    ·subst ek;cases q
     rw[ha2] at e2;cases e2
     exact n (.inr (.inr e3))
    ·rcases VD q with⟨ek,q',_⟩|⟨nk',q'⟩
     ·subst ek;cases q'
      rw[ha1] at e2;cases e2
      exact n (.inr (.inl e3))
     ·refine n (.inl ⟨.inr ⟨k,fs,a',q',e2,e3⟩,fun w=>?_⟩);rcases w with w|w
      ·exact nk' (env.own k i a' a1 fs o1 b q' hi e2 ha1 e3 w)
      ·exact nk (env.own k j a' a2 fs o2 b q' hj e2 ha2 e3 w)
  have up:∀{o:O} {a:Addr},OR K (off (fun b=>(zof B γ σ b/\¬two o1 o2 a1 a2 b)\/two o1' o2' a1 a2 b) H') H' a o->OR K (off (zof B ((γ.set i (some (.own o1'))).set j (some (.own o2'))) σ) H') H' a o:=fun h=>h.mono (Vy (Same.refl _) fun b x hx z=>hzz b x hx z) fun _ _ _ q=>q;obtain⟨k1,k2⟩:=env1.change2 (o1':=o1') (o2':=o2') (H':=H') hij hi hj ha1 ha2 (fun b x hx n1 n2=>A.same b x (VM hx fun w=>w.elim n1 n2)) (fun b hb=>hb.elim (fun hb=>A.at1.mut b (A.old1 b hb)) fun hb=>A.at2.mut b (A.old2 b hb)) A.new1 A.new2 A.apart (up A.at1) (up A.at2);exact⟨k1,(Fr.grow S1).trans k2,hzz⟩
 refine⟨o1,o2,a1,a2,ss',us,fun b=>zof B γ σ b/\¬two o1 o2 a1 a2 b,_,_,rfl,fun b hb=>⟨env1.zm b hb.1,hb.2⟩,ap,down h4,down h6,?_,Xx hp,hc,fun o1' o2' d v H' hR A rd=>?_,fun o1' o2' e H' hX A=>?_⟩
 ·refine t1.pass env1.same env.zm S1 (fun b x hx=>VM (env1.same b x hx) fun w=>?_) (Vy (Same.refl _) fun b _ _ z y=>z (y.elim (fun y=>y.1) (za b))) hp;rw[h0 b w] at hx;cases hx
 ·obtain⟨k1,k2,k3⟩:=aft o1' o2' H' A;exact q _ d v H' hR k1 k2 (Rp.mono (fun b x h=>let ⟨p1,p2⟩:=JF h;VM p1 (k3 b x p1 p2)) rd)
 ·obtain⟨k1,k2,_⟩:=aft o1' o2' H' A;exact qx _ e H' hX k1 k2
def HM (i j:Nat) (c:Pw2) (r:PTA):PTW:=fun γ R X=>match γ[i]?,γ[j]? with
 | some (some (.own o1)),some (some (.own o2))=>r γ (fun ss=>match passes ss with|some ss'=>c o1 o2 ss' (fun o1' o2' d=>R ((γ.set i (some (.own o1'))).set j (some (.own o2'))) d) (fun o1' o2' e=>X ((γ.set i (some (.own o1'))).set j (some (.own o2'))) e)|none=>False) (X γ)
 | _,_=>False
def NP (i j:Nat) (c:Pw2) (r:PTA):PTW:=fun γ R X=>match γ[i]?,γ[j]? with
 | some (some (.own o1)),some (some (.own o2))=>r γ (fun ss=>match passes ss with|some ss'=>c o1 o2 ss' (fun o1' o2' d=>R ((γ.set i (some (.own o1'))).set j (some (.own o2'))) d) (fun _ _ _=>False)|none=>False) (X γ)
 | _,_=>False
def T3 (i j:Nat) (hij:i≠j) {c:Pw2}{ta:TA}{r:PTA} (hr:SndA K mg E ta r):SndW K mg E (U4 (spW2 mg c K) [] E0 (VN (tVar i) (VN (tVar j) ta))) (NP i j c r):=by
 intro H0 B H σ γ R X Q hB env h q qx;unfold NP at h;split at h
 ·rename_i o1 o2 hi hj;obtain⟨v1,hv1,a1,rfl,_,_⟩:=env.slot i _ hi;obtain⟨v2,hv2,a2,rfl,_,_⟩:=env.slot j _ hj;refine⟨_,hv1,_,hv2,hr H0 B H σ γ _ _ _ env h (fun ss us H1 h1 S1 t1=>?_) fun c H' hc S'=>qx γ c H' hc (env.grow S') (Fr.grow S')⟩;show spW2 mg c K ((V.ref a1::V.ref a2::us)++[]) H1 Q E0;rw[Yw];split at h1
  ·rename_i ss' ep;exact Ak (X:=fun _ _=>False) env hB S1 hij hi hj hv1 hv2 t1 ep h1 q fun _ _ _ z=>z.elim
  ·exact h1.elim
 ·exact h.elim
abbrev PTV:=Γ->(Γ->Bool->Prop)->(Γ->Str->Prop)->Prop
def SndV (K:Za) (mg:Str->Option Value) (E:L2.St->XK) (t:TT) (p:PTV):Prop:=∀(H0:Hp) (B:Addr->Prop) (H:Hp) (σ:L2.St) (γ:Γ) (R:Γ->Bool->Prop) (X:Γ->Str->Prop) (Q:Bool->Hp->Prop),(∀b,B b->∃o,H0 b=some o)->EnvR K H0 B H σ γ->p γ R X->
 (∀γ' b H',R γ' b->EnvR K H0 B H' σ γ'->Fr B H σ γ H' σ γ'->Q b H')->(∀γ' c H',X γ' c->EnvR K H0 B H' σ γ'->Fr B H σ γ H' σ γ'->E σ (.ref (ExcR.Vb mg c)) none H')->t σ H Q
def pVW (w:PTW):PTV:=fun γ R X=>w γ (fun γ' d=>match d with | .bl c=>R γ' c|_=>False) X
def sv_w {te:TE}{w:PTW} (hw:SndW K mg E te w):SndV K mg E (tTru K te) (pVW w):=by
 intro H0 B H σ γ R X Q hB env h q qx;refine hw H0 B H σ γ _ _ _ hB env h (fun γ' d v H' h1 e1 f1 rd=>?_) qx;split at h1
 ·rw[rd.bl_inv];exact⟨_,rfl,q _ _ _ h1 e1 f1⟩
 ·exact h1.elim
def HA (p:PTV):PTV:=fun γ R X=>p γ (fun γ' b=>R γ' (!b)) X
def NB {t:TT}{p:PTV} (hp:SndV K mg E t p):SndV K mg E (tNot t) (HA p):=by
 intro H0 B H σ γ R X Q hB env h q qx;exact hp H0 B H σ γ _ _ _ hB env h (fun γ' b H' h1 e1 f1=>q γ' (!b) H' h1 e1 f1) qx
def pIfV (c:PTV) (p q:PTS):PTS:=fun R γ=>c γ (fun γ' b=>if b=true then p R γ' else q R γ') R.ex
def F0 {tt:TT}{c:PTV}{t u:TS}{p q:PTS} (hc:SndV K mg E tt c) (hp:SndS K mg E t p) (hq:SndS K mg E u q):SndS K mg E (tIfS tt t u) (pIfV c p q):=by
 intro H0 B H σ γ R D hB env h e;refine hc H0 B H σ γ _ _ _ hB env h (fun γ' b H' h1 e1 f1=>?_) fun γ' c H' h1 e1 f1=>e.ex _ _ _ _ h1 e1 f1;cases b with
 | true=>
  rw[ZV rfl];exact hp H0 B H' σ γ' R D hB e1 (by simpa using h1) (e.from f1)
 | false=>
  rw[ZU (by decide)];exact hq H0 B H' σ γ' R D hB e1 (by simpa using h1) (e.from f1)
def Nz (i:Nat):PTW:=fun γ R _=>match γ[i]? with
 | some (some (.own (.lsA x ds)))=>∃d,ds[ds.length-1]?=some d/\R (γ.set i (some (.own (.lsA x ds.dropLast)))) d
 | some (some (.own (.lst ds)))=>∃d,ds[ds.length-1]?=some d/\R (γ.set i (some (.own (.lst ds.dropLast)))) d
 | _=>False
def D5 (i:Nat):SndW K mg E (tBM0 K "list" rPop (tVar i)) (Nz i):=by
 intro H0 B H σ γ R X Q hB env h q qx;unfold Nz at h;split at h
 ·rename_i x ds hi;obtain⟨d,ed,h⟩:=h;obtain⟨v,hv,b,rfl,hb0,rfl,us,hb,rb⟩:=env.slot i _ hi;obtain⟨u,hu,ru⟩:=rb.get ed;refine⟨_,hv,.inl ⟨rfl,us,SqL.of hb⟩,b,us,u,rfl,rfl,hb,by rw[rb.len];exact hu,?_⟩;obtain⟨e2,f2⟩:=env.mutate (es:=.lsA b ds.dropLast) (us:=.lst us.dropLast) hi hv trivial fun F H' SF hF=>⟨rfl,_,hF,Rps.mono SF (Rps.dropLast rb)⟩;exact q _ _ _ _ h e2 f2 (Rp.mono f2.off ru)
 ·rename_i ds hi;obtain⟨d,ed,h⟩:=h;obtain⟨v,hv,b,rfl,hb0,us,hb,rb⟩:=env.slot i _ hi;obtain⟨u,hu,ru⟩:=rb.get ed;refine⟨_,hv,.inl ⟨rfl,us,SqL.of hb⟩,b,us,u,rfl,rfl,hb,by rw[rb.len];exact hu,?_⟩;obtain⟨e2,f2⟩:=env.mutate (es:=.lst ds.dropLast) (us:=.lst us.dropLast) hi hv trivial fun F H' SF hF=>⟨_,hF,Rps.mono SF (Rps.dropLast rb)⟩;exact q _ _ _ _ h e2 f2 (Rp.mono f2.off ru)
 ·exact h.elim
def pIxW (w:PTW) (k:Int):PTW:=fun γ R X=>w γ (fun γ' d=>match d with | .tup ds=>∃e,atI ds k=some e/\R γ' e|_=>False) X
def Cw {te:TE}{w:PTW}{k:Int} (hw:SndW K mg E te w):SndW K mg E (tOp (fun x y H Q=>rIxL K x y H Q\/rIxT K x y H Q) te (tC (.int k))) (pIxW w k):=by
 intro H0 B H σ γ R X Q hB env h q qx;refine hw H0 B H σ γ _ _ _ hB env h (fun γ' d v H' h1 e1 f1 rd=>?_) qx;split at h1
 ·rename_i ds;obtain⟨e,he,h1⟩:=h1;obtain⟨a,vs,rfl,ha,r⟩:=Rp.tup_inv rd;obtain⟨u,hu,ru⟩:=r.at he;exact .inr ⟨a,vs,k,u,rfl,rfl,SqT.of (off_sub _ _ ha),hu,q _ _ _ _ h1 e1 f1 ru⟩
 ·exact h1.elim
abbrev Pq:=List S->(S->Prop)->(Str->Prop)->Prop
def spS (mg:Str->Option Value) (c:Pq) (K:Za):Sp:=fun vs H Q E=>∃(ss:List S) (B:Addr->Prop) (R:S->Prop) (X:Str->Prop),(∀b,B b->Mut (H b))/\TVs K B H H H ss vs/\(∀s∈ss,s.flat)/\c ss R X/\
 (∀s v H',R s->Same H H'->TV K B H H H' s v->Q v H')/\∀e H',X e->Same H H'->E (.ref (ExcR.Vb mg e)) none H'
def U7 (N:List Str) (ss:List S):Γ:=ss.map some++List.replicate (N.length-ss.length) none
def Ad {N:List Str}{ss:List S}{us:List V} (hB:∀b,B b->Mut (H b)) (r:TVs K B H H H ss us) (hf:∀s∈ss,s.flat) (hn:ss.length<=N.length):EnvR K H B H (start N us) (U7 N ss):=by
 have hlen:=r.len
 have get:∀(i:Nat) (s:S),(U7 N ss)[i]?=some (some s)->ss[i]?=some s:=fun i s h=>by
  unfold U7 at h;by_cases hi:i<ss.length
  ·rw[Y3 (by rw[ZR];exact hi),ZY,ZS hi] at h;rw[ZS hi];exact Y0 some (Ya (Ya h))
  ·rw[Yz (by rw[ZR];omega),YS] at h;split at h<;>cases h
 have noown:∀(i:Nat) (es:O),(U7 N ss)[i]?≠some (some (.own es)):=fun i es h=>hf _ (Yh (get i _ h))
 have hz:∀b,zof B (U7 N ss) (start N us) b->B b:=fun b z=>by
  rcases z with z|⟨i,es,a',h1,h2,h3⟩
  ·exact z
  ·exact absurd h1 (noown i es)
 refine⟨Same.refl _,?_,hB,fun i j x x' es es' b h1 _ _ _ _ _=>absurd h1 (noown i es),fun i s h=>?_⟩
 ·unfold L2.start U7;simp[hlen]
 ·have hs:=get i s h;obtain⟨v,hv,tv⟩:=r.get hs;refine⟨v,?_,?_⟩
  ·unfold L2.start;rw[Y3 (by rw[ZR];exact(Yo.mp hv).1),ZY,hv];rfl
  ·have:=hf s (Yh hs)
   cases s with
   | bor d=>exact tv
   | sh d=>exact Rp.mono (Vy (Same.refl _) fun b _ _ z y=>z (hz b y)) tv
   | own _=>exact this.elim
   | view _=>exact this.elim
   | tmp _=>exact this.elim
def DJ {c:Pq}{N:List Str}{t:TS}{p:PTS}{vs:List V}{Q:VK}{Ec:XK}{n:Nat} (h:spS mg c K vs H Q Ec) (snd:SndS K mg (fun _=>Ec) t p) (hn:n<=N.length)
  (hp:∀ss R X,c ss R X->ss.length=n/\p { nx:=fun _=>R (.sh .non),rt:=R,ex:=fun _ e=>X e } (U7 N ss)):t { nx:=fun _ H'=>Q .non H',rt:=Q } (start N vs) H:=by
 obtain⟨ss,B,R,X,hB,r,hf,hc,hQ,hX⟩:=h;obtain⟨e,hp⟩:=hp ss R X hc;exact snd H B H _ _ _ _ (fun b z=>Ul (hB b z)) (Ad hB r hf (by rw[e];exact hn)) hp ⟨fun σ' γ' H' h1 e1 f1=>hQ _ _ H' h1 e1.same .non,fun s v H' h1 S1 tv=>hQ s v H' h1 S1 tv,fun σ' γ' c H' h1 e1 f1=>hX c H' h1 e1.same,fun _ _ _ z=>z.elim,fun _ _ _ z=>z.elim,fun _ _ _ _ _ z=>z.elim⟩
def Hi {c:Pq}{vs:List V}{Q:VK}{Ec:XK}{n:Nat} (h:spS mg c K vs H Q Ec) (hn:∀ss R X,c ss R X->ss.length=n):vs.length=n:=by
 obtain⟨ss,B,R,X,_,r,_,hc,_⟩:=h;rw[r.len];exact hn ss R X hc
def TV.backS {s:S}{v:V} (env:EnvR K H0 B H1 σ γ) (S1:Same H H1) (S2:Same H1 H') (h:TV K (zof B γ σ) H1 H1 H' s v):TV K (zof B γ σ) H0 H H' s.back v:=by
 cases s with
 | bor d=>exact UA (fun b z=>Uc S2 (env.zm b z)) (Rp.mono S2 h)
 | sh d=>exact h
 | own ds=>
  obtain⟨a,rfl,e0,r⟩:=h;exact⟨a,rfl,(fun b hb=>S1.free (e0 b hb)),r⟩
 | view ds=>
  obtain⟨a,rfl,r⟩:=h;exact r.rp off_sub
 | tmp d=>exact h
def TV.passS {s s':S}{v:V} (env:EnvR K H0 B H1 σ γ) (hm:∀b,zof B γ σ b->Mut (H b)) (S1:Same H H1) (h:TV K (zof B γ σ) H0 H H1 s v) (e:s.pass=some s'):TV K (zof B γ σ) H1 H1 H1 s' v:=by
 have shd:∀d,s.shd=some d->Rp K (off (zof B γ σ) H1) d v:=fun d ed=>h.shd env.same hm S1 ed;cases s with
 | sh d=>cases e;exact shd _ rfl
 | own o=>cases e;exact shd _ rfl
 | view o=>cases e
 | tmp d=>
  unfold S.pass at e;cases q:imm d with
  | false=>simp[q] at e
  | true=>simp[q] at e;subst e;exact shd d (by unfold S.shd;simp[q])
 | bor d=>
  unfold S.pass at e;cases q:imm d with
  | false=>simp[q] at e;subst e;exact Rp.mono env.same h
  | true=>simp[q] at e;subst e;exact shd d (by unfold S.shd;simp[q])
def TVs.passS (env:EnvR K H0 B H1 σ γ) (hm:∀b,zof B γ σ b->Mut (H b)) (S1:Same H H1):∀{ss ss':List S}{vs:List V},TVs K (zof B γ σ) H0 H H1 ss vs->passes ss=some ss'->TVs K (zof B γ σ) H1 H1 H1 ss' vs
 | _,_,_,.nil,e=>by cases e;exact .nil
 | _,_,_,.cons h r,e=>by
  unfold passes at e;split at e
  ·rename_i s1 r1 e1 e2;cases e
   exact .cons (h.passS env hm S1 e1) (TVs.passS env hm S1 r e2)
  ·cases e
def FL (c:Pq) (r:PTA):PTE:=fun γ R X=>r γ (fun ss=>match passes ss with|some ss'=>c ss' (fun s=>R s.back) (fun _=>False)|none=>False) X
def KY {c:Pq}{ta:TA}{r:PTA} (hr:SndA K mg E ta r):SndE K mg E (U4 (spS mg c K) [] E0 ta) (FL c r):=by
 intro H0 B H σ γ R X Q env p q qx;refine hr H0 B H σ γ _ X _ env p (fun ss vs H1 h1 S1 t1=>?_) qx;rw[Yw];have env1:=env.grow S1;split at h1
 ·rename_i ss' ep;exact⟨ss',zof B γ σ,_,_,env1.zm,t1.passS env1 env.zm S1 ep,Xx ep,h1,fun s v H' hs S2 tv=>q _ _ H' hs (S1.trans S2) (tv.backS env1 S1 S2),fun _ _ z=>z.elim⟩
 ·exact h1.elim
def pSlV (a:PTE) (l u:PTO):PTE:=fun γ R X=>a γ (fun s=>l γ (fun lo=>u γ (fun hi=>match s.d with | .lst ds=>R (.tmp (.lst (cutD ds lo hi)))|_=>False) X) X) X
def pIBc (a:PTE) (l u:PTO):PTI:=fun γ R X=>a γ (fun s=>l γ (fun lo=>u γ (fun hi=>match s with
 | .bor d=>(match d.strip with | .lst ds=>R (cutD ds lo hi).length (fun i=>arg ((cutD ds lo hi).getD i .non))|_=>False)
 | _=>False) X) X) X
def Dl {te:TE}{tl th:TO}{a:PTE}{l u:PTO} (ha:SndE K mg E te a) (hl:SndO K mg E tl l) (hu:SndO K mg E th u):K9 K mg E (X5 K (tSl (rSlL K) te tl th)) (pIBc a l u):=by
 intro H0 B H σ γ R X Q env p q qx;refine ha H0 B H σ γ _ X _ env p (fun x v H1 h1 S1 t1=>?_) qx;refine hl H0 B H1 σ γ _ X _ (env.grow S1) h1 (fun lo H2 h2 S2=>?_) fun c H' hc S'=>qx c H' hc (S1.trans S');refine hu H0 B H2 σ γ _ X _ ((env.grow S1).grow S2) h2 (fun hi H3 h3 S3=>?_) fun c H' hc S'=>qx c H' hc ((S1.trans S2).trans S');have S13:=(S1.trans S2).trans S3;have env3:=env.grow S13;split at h3
 ·rename_i d;split at h3
  ·rename_i ds ed;have t1:=Rp.strip t1;rw[ed] at t1;obtain⟨b,us,rfl,hb,r⟩:=Rp.lst_inv t1;refine⟨b,us,rfl,SqL.of (env3.same _ _ hb),fun m nm=>?_⟩;have S4:Same H3 (upd H3 m (.lst (cutV us lo hi))):=JO nm;have rc:Rps K H0 (cutD ds lo hi) (cutV us lo hi):=r.cut;refine⟨m,rfl,⟨_,SqL.of VQ⟩,q _ _ _ _ h3 (S13.trans S4) ⟨fun i H' Z' hlt S5 lt=>?_,fun H' Z' S5 lt=>⟨_,SqL.of (S5 _ _ VQ),by rw[rc.len];exact Ye _⟩⟩⟩;have hd:(cutD ds lo hi)[i]?=some ((cutD ds lo hi).getD i .non):=by rw[Yg,ZS hlt];rfl
   obtain⟨u,h4,h5⟩:=rc.get hd;have tu:TV K Z' H0 H' H' (arg ((cutD ds lo hi).getD i .non)) u:=argR lt.2.1 lt.1 h5;refine⟨⟨_,u,SqL.of (S5 _ _ VQ),h4⟩,fun x H'' y=>?_⟩;obtain⟨rfl,y⟩:=y
   have:=y _ (SqL.of (S5 _ _ VQ))
   rw[h4] at this;cases this
   exact⟨Same.refl _,tu⟩
  ·exact h3.elim
 ·exact h3.elim
def Ee {α:Type}{φ:List (Option Nat)}{γ:Γ}{g:PTG}{c:PTT}{e:PTE}{R:S->Prop}{xs:List α}{emb:α->D} (f:α->Option D) (hz:xs.length<=100000)
  (turn:∀x∈xs,g (arg (emb x)) (atP φ γ) fun γ2=>c γ2 (fun b=>if b=true then e γ2 (fun s=>∃d,s.shd=some d/\f x=some d) (fun _=>False) else f x=none) fun _=>False)
  (done:R (.own (xs.filterMap f))) :
  CompW φ γ g c e (xs.map emb).length (fun i=>arg ((xs.map emb).getD i .non)) R:=by
 refine⟨⟨by rw[ZR];exact hz,fun i=>(xs[i]?).bind f,fun i hi=>?_,?_⟩⟩
 ·rw[ZR] at hi;have t:=turn xs[i] (YI hi);have e1:(xs[i]?).bind f=f xs[i]:=by rw[ZS hi];rfl
  have e2:(xs.map emb).getD i .non=emb xs[i]:=by rw[Yg,ZY,ZS hi];rfl
  show g (arg ((xs.map emb).getD i .non)) (atP φ γ) fun γ2=>c γ2 (fun b=>if b=true then e γ2 (fun s=>∃d,s.shd=some d/\(xs[i]?).bind f=some d) (fun _=>False) else(xs[i]?).bind f=none) fun _=>False;rw[e1,e2];exact t
 ·have:(List.range (xs.map emb).length).filterMap (fun i=>(xs[i]?).bind f)=xs.filterMap f:=by
   rw[ZR]
   have key:∀l:List α,(List.range l.length).filterMap (fun i=>(l[i]?).bind f)=l.filterMap f:=fun l=>by
    induction l with
    | nil=>rfl
    | cons x r ih=>
     rw[Ys,List.range_succ_eq_map,YK,List.filterMap_map,YK];simp only[List.getElem?_cons_zero,Option.bind_some]
     have e:((fun i=>((x::r)[i]?).bind f)∘Nat.succ)=fun i=>(r[i]?).bind f:=by
      funext i;simp
     rw[e,ih]
   exact key xs
  rw[this];exact done
def pSlN (a:PTE) (l u:PTO):PTE:=fun γ R X=>a γ (fun s=>l γ (fun lo=>u γ (fun hi=>match s.d with | .scr ns=>R (.own ((cutD ns lo hi).map D.int))|_=>False) X) X) X
def Du (ns:List Int) (lo hi:Option Int):cutV (ns.map V.int) lo hi=(cutD ns lo hi).map V.int:=by
 unfold cutV cutD;rw[ZR,List.map_take,List.map_drop]
def Dy {te:TE}{tl th:TO}{a:PTE}{l u:PTO} (ha:SndE K mg E te a) (hl:SndO K mg E tl l) (hu:SndO K mg E th u):SndE K mg E (tSl (rSlL K) te tl th) (pSlN a l u):=by
 intro H0 B H σ γ R X Q env p q qx;refine ha H0 B H σ γ _ X _ env p (fun x v H1 h1 S1 t1=>?_) qx;refine hl H0 B H1 σ γ _ X _ (env.grow S1) h1 (fun lo H2 h2 S2=>?_) fun c H' hc S'=>qx c H' hc (S1.trans S');refine hu H0 B H2 σ γ _ X _ ((env.grow S1).grow S2) h2 (fun hi H3 h3 S3=>?_) fun c H' hc S'=>qx c H' hc ((S1.trans S2).trans S');have S13:=(S1.trans S2).trans S3;split at h3
 ·rename_i ns e;have rx:=(t1.grow (S2.trans S3)).rp (env.grow S13).same;rw[e] at rx;obtain⟨b,rfl,hb⟩:=rx.scr_inv;refine⟨b,_,rfl,hb,fun m nm=>?_⟩;rw[Du];exact q _ _ _ h3 (S13.trans (JO nm)) (UY S13 nm (Rps.of_ints _))
 ·exact h3.elim
end
open M
inductive Dd where
 | sell (p h:Int)|part (p w:Int)|unite (p:Int)|wish (a b:Int)|drop (a b:Int)
def Dd.q:Dd->Str×List Int
 | .sell p h=>("sell",[p,h]) | .part p w=>("part",[p,w]) | .unite p=>("unite",[p]) | .wish a b=>("wish",[a,b]) | .drop a b=>("drop",[a,b])
def Dd.land:Dd->Bool
 | .sell _ _=>true | .part _ _=>true | .unite _=>true|_=>false
def Dd.err (f w:List (Int×Int)):Dd->Option Str
 | .sell p h=>VZ f p h | .part p v=>VW f p v | .unite p=>uniE f p | .wish a b=>VP w a b | .drop a b=>VY w a b
def Dd.fld (f:List (Int×Int)):Dd->List (Int×Int)
 | .sell p h=>Ue f p h | .part p v=>JH f p v | .unite p=>uniL f p|_=>f
def Dd.wsh (w:List (Int×Int)):Dd->List (Int×Int)
 | .wish a b=>w++[(a,b)] | .drop a b=>UZ w a b|_=>w
def codeN:Option Str->Int
 | none=>0
 | some c=>if c=("NoStrip" : Str) then 1 else if c=("BadHolder" : Str) then 2 else if c=("OwnStrip" : Str) then 3 else if c=("BadPart" : Str) then 4 else if c=("TooManyStrips" : Str) then 5 else if c=("UnlikeHolders" : Str) then 6 else if c=("TooWide" : Str) then 7 else if c=("LikeHolders" : Str) then 8 else if c=("WishStands" : Str) then 9 else if c=("TooManyWishes" : Str) then 10 else 11
def XG:codeN (some "NoStrip")=1:=by decide +kernel
def Xv:codeN (some "BadHolder")=2:=by decide +kernel
def P3:codeN (some "OwnStrip")=3:=by decide +kernel
def KJ:codeN (some "BadPart")=4:=by decide +kernel
def Nl:codeN (some "TooManyStrips")=5:=by decide +kernel
def Pn:codeN (some "UnlikeHolders")=6:=by decide +kernel
def PD:codeN (some "TooWide")=7:=by decide +kernel
def TQ:codeN (some "LikeHolders")=8:=by decide +kernel
def Nq:codeN (some "WishStands")=9:=by decide +kernel
def Pv:codeN (some "TooManyWishes")=10:=by decide +kernel
def TZ:codeN (some "NoWish")=11:=by decide +kernel
def Dd.fld' (f:List (Int×Int)) (x:Dd):List (Int×Int):=if x.err f []=none then x.fld f else f
def Dd.wsh' (w:List (Int×Int)) (x:Dd):List (Int×Int):=if x.err [] w=none then x.wsh w else w
def Dd.nf (f w:List (Int×Int)) (x:Dd):List (Int×Int):=if x.err f w=none then x.fld f else f
def Dd.nw (f w:List (Int×Int)) (x:Dd):List (Int×Int):=if x.err f w=none then x.wsh w else w
def Dd.err_land {x:Dd} (h:x.land=true) (f w u:List (Int×Int)):x.err f w=x.err f u:=by
 cases x<;>first|rfl|cases h
def Dd.err_wish {x:Dd} (h:x.land=false) (f g w:List (Int×Int)):x.err f w=x.err g w:=by
 cases x<;>first|rfl|cases h
def Uv (c:Int):List Bool:=if c=0 then[true] else true::(List.range 12).map fun i:Nat=>decide ((1:Int)+(i:Int)=c)
def Dd.err_cases (f w : List (Int × Int)) (x : Dd) : x.err f w = none ∨ x.err f w = some ("NoStrip" : Str) ∨ x.err f w = some ("BadHolder" : Str) ∨ x.err f w = some ("OwnStrip" : Str) ∨ x.err f w = some ("BadPart" : Str) ∨ x.err f w = some ("TooManyStrips" : Str) ∨ x.err f w = some ("UnlikeHolders" : Str) ∨ x.err f w = some ("TooWide" : Str) ∨ x.err f w = some ("LikeHolders" : Str) ∨ x.err f w = some ("WishStands" : Str) ∨ x.err f w = some ("TooManyWishes" : Str) ∨ x.err f w = some ("NoWish" : Str) := by
  cases x with
  | sell p h => show VZ f p h = _ ∨ VZ f p h = _ ∨ VZ f p h = _ ∨ VZ f p h = _ ∨ _; unfold VZ; repeat' split
                all_goals simp
  | part p h => show VW f p h = _ ∨ VW f p h = _ ∨ VW f p h = _ ∨ VW f p h = _ ∨ VW f p h = _ ∨ VW f p h = _ ∨ _; unfold VW; repeat' split
                all_goals simp
  | unite p => show uniE f p = _ ∨ uniE f p = _ ∨ uniE f p = _ ∨ uniE f p = _ ∨ uniE f p = _ ∨ uniE f p = _ ∨ uniE f p = _ ∨ uniE f p = _ ∨ _; unfold uniE; repeat' split
               all_goals simp
  | wish a b => show VP w a b = _ ∨ VP w a b = _ ∨ VP w a b = _ ∨ VP w a b = _ ∨ VP w a b = _ ∨ VP w a b = _ ∨ VP w a b = _ ∨ VP w a b = _ ∨ VP w a b = _ ∨ VP w a b = _ ∨ VP w a b = _ ∨ _; unfold VP; repeat' split
                all_goals simp
  | drop a b => show VY w a b = _ ∨ VY w a b = _ ∨ VY w a b = _ ∨ VY w a b = _ ∨ VY w a b = _ ∨ VY w a b = _ ∨ VY w a b = _ ∨ VY w a b = _ ∨ VY w a b = _ ∨ VY w a b = _ ∨ VY w a b = _ ∨ VY w a b = _; unfold VY; repeat' split
                all_goals simp
abbrev Hist:=List (Dd×List (Int×Int)×List (Int×Int))
def bkH (hs:Hist):List (Str×List Int):=hs.map fun h=>h.1.q
def fsH (f0:List (Int×Int)) (hs:Hist):List (List (Int×Int)):=f0::hs.map fun h=>h.2.1
def wsH (hs:Hist):List (List (Int×Int)):=[]::hs.map fun h=>h.2.2
def pstD (h:Dd×List (Int×Int)×List (Int×Int)):D:=.tup [plD h.2.1,plD h.2.2,dD h.1.q]
def pst0 (f0:List (Int×Int)):D:=.tup [plD f0,.lst [],.tup []]
def V4 (f0:List (Int×Int)) (hs:Hist):List D:=pst0 f0::hs.map pstD
def curF (f0:List (Int×Int)) (hs:Hist):List (Int×Int):=match hs.getLast? with|some h=>h.2.1|none=>f0
def curW (hs:Hist):List (Int×Int):=match hs.getLast? with|some h=>h.2.2|none=>[]
def Tx (f0:List (Int×Int)) (hs:Hist):∃fs,fsH f0 hs=fs++[curF f0 hs]/\fs.length=hs.length:=by
 unfold fsH curF;rcases YY hs with rfl|⟨h,x,rfl⟩
 ·exact⟨[],rfl,rfl⟩
 ·refine⟨f0::h.map fun h=>h.2.1,?_,by simp⟩;simp
def PJ (hs:Hist):∃ws,wsH hs=ws++[curW hs]/\ws.length=hs.length:=by
 unfold wsH curW;rcases YY hs with rfl|⟨h,x,rfl⟩
 ·exact⟨[],rfl,rfl⟩
 ·refine⟨[]::h.map fun h=>h.2.2,?_,by simp⟩;simp
def PL (f0:List (Int×Int)) (hs:Hist):∃d,atI (V4 f0 hs) (-1)=some (.tup [plD (curF f0 hs),plD (curW hs),d]):=by
 have key:∀(l:List D) (x:D),l≠[]->l[l.length-1]?=some x->atI l (-1)=some x:=fun l x hn h=>by
  have hp:0<l.length:=W6.mpr hn;unfold atI ixN;rw[ZU (by omega),ZV (by omega)];show l[_]?=_;rw[show((-1:Int)+(l.length:Int)).toNat=l.length-1 by omega];exact h
 unfold V4 curF curW;rcases YY hs with rfl|⟨h,x,rfl⟩
 ·exact⟨.tup [],key _ _ (by simp) rfl⟩
 ·refine⟨dD x.1.q,key _ _ (by simp) ?_⟩;rw[W1,List.getLast?_concat,Ys,ZR,ZZ,YH,Nat.add_sub_cancel,Yx,Yq,Yz (by rw[ZR];exact Ye _),ZR,Nat.sub_self];rfl
def Nu (hs:Hist) (h:Dd×List (Int×Int)×List (Int×Int)):bkH (hs++[h])=bkH hs++[h.1.q]:=by unfold bkH;rw[Yq];rfl
def Kj (f0:List (Int×Int)) (hs:Hist) (h:Dd×List (Int×Int)×List (Int×Int)):fsH f0 (hs++[h])=fsH f0 hs++[h.2.1]:=by unfold fsH;rw[Yq];rfl
def K5 (hs:Hist) (h:Dd×List (Int×Int)×List (Int×Int)):wsH (hs++[h])=wsH hs++[h.2.2]:=by unfold wsH;rw[Yq];rfl
def Nc (f0:List (Int×Int)) (hs:Hist) (h:Dd×List (Int×Int)×List (Int×Int)):V4 f0 (hs++[h])=V4 f0 hs++[pstD h]:=by unfold V4;rw[Yq];rfl
def Xt (hs:Hist):(bkH hs).length=hs.length:=ZR ..
def NO (f0:List (Int×Int)) (hs:Hist):(fsH f0 hs).length=hs.length+1:=by unfold fsH;rw[Ys,ZR]
def Bu (hs:Hist):(wsH hs).length=hs.length+1:=by unfold wsH;rw[Ys,ZR]
def UX (f0:List (Int×Int)) (hs:Hist):(V4 f0 hs).length=hs.length+1:=by unfold V4;rw[Ys,ZR]
def Dd.q_len (x:Dd):x.q.2.length<=2:=by cases x<;>simp[Dd.q]
end Pu
namespace Pu
@[irreducible] def mixP (c k:Int):Int:=((c % 2147483647+7919*k+1)*48271 % 2147483647+104729*k+11)*69621 % 2147483647
open L2 M Own PyProof.Rows PySem PySem.Spec
def Dd.fld_ok {f w:List (Int×Int)}{d:Dd} (hF:Field f) (hl:f.length<=40) (e:d.err f w=none):Field (d.fld f)/\(d.fld f).length<=40:=by
 cases d with
 | sell p h=>exact⟨Hx hF e,by rw[show(Dd.sell p h).fld f=Ue f p h from rfl,Av];exact hl⟩
 | part p v=>
  have e:VW f p v=none:=e;rcases Gp f p v with⟨z,_⟩|⟨z,_⟩|⟨z,_⟩|⟨_,_,h1,h2,h3,h4,h5⟩
  ·rw[e] at z;cases z
  ·rw[e] at z;cases z
  ·rw[e] at z;cases z
  ·exact⟨GF hF h1 h2 h3 h4,by rw[show(Dd.part p v).fld f=JH f p v from rfl,CU h1 h2];omega⟩
 | unite p=>
  have e:uniE f p=none:=e;rcases A5 f p with⟨z,_⟩|⟨z,_⟩|⟨z,_⟩|⟨_,_,h1,h2⟩
  ·rw[e] at z;cases z
  ·rw[e] at z;cases z
  ·rw[e] at z;cases z
  ·exact⟨G5 hF e,by rw[show(Dd.unite p).fld f=uniL f p from rfl];have:=Ao h1 h2;omega⟩
 | wish a b=>exact⟨hF,hl⟩
 | drop a b=>exact⟨hF,hl⟩
def Dd.wsh_ok {f w:List (Int×Int)}{d:Dd} (hW:Ui w) (e:d.err f w=none):Ui (d.wsh w):=by
 cases d with
 | wish a b=>exact AK hW e
 | drop a b=>exact Ef hW
 | sell p h=>exact hW
 | part p v=>exact hW
 | unite p=>exact hW
def FineH (f0:List (Int×Int)) (hs:Hist):Prop:=(∀g∈fsH f0 hs,Field g/\g.length<=40)/\∀g∈wsH hs,Ui g
def FineH.cur {f0:List (Int×Int)}{hs:Hist} (h:FineH f0 hs):(Field (curF f0 hs)/\(curF f0 hs).length<=40)/\Ui (curW hs):=by
 obtain⟨fs,ef,_⟩:=Tx f0 hs;obtain⟨ws,ew,_⟩:=PJ hs;exact⟨h.1 _ (by rw[ef];simp),h.2 _ (by rw[ew];simp)⟩
def FineH.nil {f0:List (Int×Int)} (hF:Field f0) (hl:f0.length<=40):FineH f0 []:=
 ⟨fun g hg=>by rw[show fsH f0 []=[f0] from rfl,Yb] at hg;subst hg;exact⟨hF,hl⟩,fun g hg=>by rw[show wsH []=[[]] from rfl,Yb] at hg;subst hg;exact CF⟩
def FineH.snoc {f0:List (Int×Int)}{hs:Hist}{x:Dd×List (Int×Int)×List (Int×Int)} (h:FineH f0 hs) (h1:Field x.2.1/\x.2.1.length<=40) (h2:Ui x.2.2):FineH f0 (hs++[x]):=
 ⟨fun g hg=>by rw[Kj] at hg;rcases Y7.mp hg with hg|hg;{ exact h.1 g hg };{ rw[Yb] at hg;subst hg;exact h1 },fun g hg=>by rw[K5] at hg;rcases Y7.mp hg with hg|hg;{ exact h.2 g hg };{ rw[Yb] at hg;subst hg;exact h2 }⟩
def FineH.init {f0:List (Int×Int)}{hs:Hist}{x:Dd×List (Int×Int)×List (Int×Int)} (h:FineH f0 (hs++[x])):FineH f0 hs:=
 ⟨fun g hg=>h.1 g (by rw[Kj];exact YO _ hg),fun g hg=>h.2 g (by rw[K5];exact YO _ hg)⟩
def FineH.back {f0:List (Int×Int)}{hs:Hist} (h:FineH f0 hs):FineH f0 hs.dropLast:=by
 rcases YY hs with rfl|⟨l,x,rfl⟩
 ·exact h
 ·rw[W1] at h ⊢;rw[YR];exact h.init
def addH (f0:List (Int×Int)) (hs:Hist) (d:Dd):Hist:=if d.err (curF f0 hs) (curW hs)=none then hs++[(d,d.fld (curF f0 hs),d.wsh (curW hs))] else hs
def BU (f0:List (Int×Int)) (hs:Hist) (d:Dd):(addH f0 hs d).length<=hs.length+1:=by
 unfold addH;split
 ·rw[ZZ,YH];exact Ye _
 ·omega
def FineH.add {f0:List (Int×Int)}{hs:Hist} (h:FineH f0 hs) (d:Dd):FineH f0 (addH f0 hs d):=by
 unfold addH;split
 ·rename_i e;obtain⟨⟨h1,h2⟩,h3⟩:=h.cur;exact h.snoc (Dd.fld_ok h1 h2 e) (Dd.wsh_ok h3 e)
 ·exact h
def FineH.len {f0:List (Int×Int)}{hs:Hist} (h:FineH f0 hs):(∀g∈fsH f0 hs,g.length<=1000)/\∀g∈wsH hs,g.length<=1000:=⟨fun g hg=>by have:=(h.1 g hg).2;omega,fun g hg=>by have:=(h.2 g hg).1;omega⟩
def Dd.code0 (f w:List (Int×Int)) (x:Dd):codeN (x.err f w)=0↔x.err f w=none:=by
 rcases x.err_cases f w with e|e|e|e|e|e|e|e|e|e|e|e<;>rw[e]
 ·exact⟨fun _=>rfl,fun _=>rfl⟩
 all_goals refine⟨fun z=>?_,fun z=>by cases z⟩
 ·rw[XG] at z;cases z
 ·rw[Xv] at z;cases z
 ·rw[P3] at z;cases z
 ·rw[KJ] at z;cases z
 ·rw[Nl] at z;cases z
 ·rw[Pn] at z;cases z
 ·rw[PD] at z;cases z
 ·rw[TQ] at z;cases z
 ·rw[Nq] at z;cases z
 ·rw[Pv] at z;cases z
 ·rw[TZ] at z;cases z
end Pu
namespace Own
open PySem PySem.Spec PyProof.Rows L2
section
variable {prog:Program}{w:World}{A:Around}{E:Value->Shared->Prop}{s:Shared}{l:Addr}{xs:Array (Int×Tok)}
def Do {Q:Value->Shared->Prop} (hh:A.handled=none) (hl:s.heap.IsTuple l (intItems xs)) (hne:0<xs.size)
  (h:∀v h' tk,(intItems xs)[argBest (fun i j=>decide (numAt xs i<numAt xs j)) (xs.size-1)]?=some v->(∀b o,s.heap.get? b=some o->h'.get? b=some o)->Q v { s with heap:=h',toks:=tk }) :
  wpAny (model prog w) A (call (.builtin "min") [.ref l]) Q E s:=by
 have hlt:l<s.heap.objs.size:=by obtain⟨_,e,_⟩:=hl;exact Yf e
 refine call_min_walk (wpAny_pyIter_tuple hl ?_);refine⟨_,[_,l],[_],_,_,_,_,rfl,Walks.tuple (A:=A.in1) hh _ l (YA hlt) (intItems xs),⟨⟨_,Y2 _ rfl,rfl,rfl⟩,hl.push _⟩,fun c hc=>?_,by simpa [intItems] using hne,CmpOf.ints_lt (numAt xs) (fun _ _=>intItems_at),fun v h' tk hP hk=>?_⟩
 ·show c<(s.heap.push _).objs.size;rw[Wr];rcases Ym.mp hc with rfl|hc
  ·exact Ww _
  ·rcases Ym.mp hc with rfl|hc
   ·exact Nat.lt_succ_of_lt hlt
   ·cases hc
 ·refine h v h' tk (by simpa [intItems] using hP) fun b o e=>hk b o (fun hm=>?_) (Yj _ e);rcases Ym.mp hm with e1|hm
  ·exact absurd (e1▸Yf e) (YM _)
  ·cases hm
def Dg {Q:Value->Shared->Prop} (hh:A.handled=none) (hl:s.heap.IsTuple l (intItems xs)) (hne:0<xs.size)
  (h:∀v h' tk,(intItems xs)[argBest (fun i j=>decide (numAt xs i>numAt xs j)) (xs.size-1)]?=some v->(∀b o,s.heap.get? b=some o->h'.get? b=some o)->Q v { s with heap:=h',toks:=tk }) :
  wpAny (model prog w) A (call (.builtin "max") [.ref l]) Q E s:=by
 have hlt:l<s.heap.objs.size:=by obtain⟨_,e,_⟩:=hl;exact Yf e
 refine call_max_walk (wpAny_pyIter_tuple hl ?_);refine⟨_,[_,l],[_],_,_,_,_,rfl,Walks.tuple (A:=A.in1) hh _ l (YA hlt) (intItems xs),⟨⟨_,Y2 _ rfl,rfl,rfl⟩,hl.push _⟩,fun c hc=>?_,by simpa [intItems] using hne,CmpOf.ints_gt (numAt xs) (fun _ _=>intItems_at),fun v h' tk hP hk=>?_⟩
 ·show c<(s.heap.push _).objs.size;rw[Wr];rcases Ym.mp hc with rfl|hc
  ·exact Ww _
  ·rcases Ym.mp hc with rfl|hc
   ·exact Nat.lt_succ_of_lt hlt
   ·cases hc
 ·refine h v h' tk (by simpa [intItems] using hP) fun b o e=>hk b o (fun hm=>?_) (Yj _ e);rcases Ym.mp hm with e1|hm
  ·exact absurd (e1▸Yf e) (YM _)
  ·cases hm
end
section
variable {X:Cx}{K:Za}
def Hk (hc:X.calm=true) (hK:X.K=K:=by rfl):J7 X (.builtin "min") (fun xs H Q=>∃(p:Addr) (a b:Int),xs=[.ref p]/\SqT K H p [.int a,.int b]/\Q (.int (if b<a then b else a)) H):=by
 subst hK;intro pins s σ H xs us Q I rv h;obtain⟨p,a,b,rfl,hS,q⟩:=h;obtain⟨u,rfl,ru⟩:=rv.one;obtain rfl:u=Value.ref p:=ru;obtain⟨its,r,pl,_⟩:=I.tuple hS;cases r with
 | cons r1 r=>
  cases r with
  | cons r2 r=>
   cases r
   obtain⟨t1,rfl⟩:=r1;obtain⟨t2,rfl⟩:=r2;have hl:s.heap.IsTuple p (intItems #[(a,t1),(b,t2)]):=by have this:s.heap.IsTuple p _:=pl;simpa [intItems] using this
   refine Do (I.ok.hd hc) hl (by simp) fun v h' tk hP hk=>?_;have hP':(intItems #[(a,t1),(b,t2)])[argBest (fun i j=>decide (numAt #[(a,t1),(b,t2)] i<numAt #[(a,t1),(b,t2)] j)) 1]?=some v:=hP;by_cases hba:b<a
   ·have e:argBest (fun i j=>decide (numAt #[(a,t1),(b,t2)] i<numAt #[(a,t1),(b,t2)] j)) 1=1:=by simp[argBest,numAt,hba]
    rw[e] at hP';obtain rfl:Value.int b t2=v:=by simpa [intItems] using hP'
    rw[ZV hba] at q;exact⟨.int b,H,I.kept (t':=tk) hk,⟨_,rfl⟩,q⟩
   ·have e:argBest (fun i j=>decide (numAt #[(a,t1),(b,t2)] i<numAt #[(a,t1),(b,t2)] j)) 1=0:=by simp[argBest,numAt,hba]
    rw[e] at hP';obtain rfl:Value.int a t1=v:=by simpa [intItems] using hP'
    rw[ZU hba] at q;exact⟨.int a,H,I.kept (t':=tk) hk,⟨_,rfl⟩,q⟩
def AJ (hc:X.calm=true) (hK:X.K=K:=by rfl):J7 X (.builtin "max") (fun xs H Q=>∃(p:Addr) (a b:Int),xs=[.ref p]/\SqT K H p [.int a,.int b]/\Q (.int (if b>a then b else a)) H):=by
 subst hK;intro pins s σ H xs us Q I rv h;obtain⟨p,a,b,rfl,hS,q⟩:=h;obtain⟨u,rfl,ru⟩:=rv.one;obtain rfl:u=Value.ref p:=ru;obtain⟨its,r,pl,_⟩:=I.tuple hS;cases r with
 | cons r1 r=>
  cases r with
  | cons r2 r=>
   cases r
   obtain⟨t1,rfl⟩:=r1;obtain⟨t2,rfl⟩:=r2;have hl:s.heap.IsTuple p (intItems #[(a,t1),(b,t2)]):=by have this:s.heap.IsTuple p _:=pl;simpa [intItems] using this
   refine Dg (I.ok.hd hc) hl (by simp) fun v h' tk hP hk=>?_;have hP':(intItems #[(a,t1),(b,t2)])[argBest (fun i j=>decide (numAt #[(a,t1),(b,t2)] i>numAt #[(a,t1),(b,t2)] j)) 1]?=some v:=hP;by_cases hba:b>a
   ·have e:argBest (fun i j=>decide (numAt #[(a,t1),(b,t2)] i>numAt #[(a,t1),(b,t2)] j)) 1=1:=by simp[argBest,numAt,hba]
    rw[e] at hP';obtain rfl:Value.int b t2=v:=by simpa [intItems] using hP'
    rw[ZV hba] at q;exact⟨.int b,H,I.kept (t':=tk) hk,⟨_,rfl⟩,q⟩
   ·have e:argBest (fun i j=>decide (numAt #[(a,t1),(b,t2)] i>numAt #[(a,t1),(b,t2)] j)) 1=0:=by simp[argBest,numAt,hba]
    rw[e] at hP';obtain rfl:Value.int a t1=v:=by simpa [intItems] using hP'
    rw[ZU hba] at q;exact⟨.int a,H,I.kept (t':=tk) hk,⟨_,rfl⟩,q⟩
end
end Own
namespace Pu
open PySem PySem.Spec PyProof.Rows L2 Own
section
variable {K:Za}{mg:Str->Option Value}{E:L2.St->XK}
def SB:List S->(S->Prop)->Prop
 | [s],R=>(match s.d with | .tup [.int a,.int b]=>R (.sh (.int (if b<a then b else a)))|_=>False)
 | _,_=>False
def Fs:List S->(S->Prop)->Prop
 | [s],R=>(match s.d with | .tup [.int a,.int b]=>R (.sh (.int (if b>a then b else a)))|_=>False)
 | _,_=>False
def Co {ta:TA}{r:PTA} (hr:SndA K mg E ta r):SndE K mg E (tCB (fun xs H Q=>∃(p:Addr) (a b:Int),xs=[.ref p]/\SqT K H p [.int a,.int b]/\Q (.int (if b<a then b else a)) H) ta) (pCB SB r):=by
 refine U0 hr fun H0 H H1 Z ss vs R Q s0 s1 hm tv h q=>?_;unfold SB at h;split at h
 ·rename_i s;obtain⟨v,rfl,t1⟩:=tv.one_inv;have rv:=t1.rp s0;split at h
  ·rename_i a b e;rw[e] at rv;obtain⟨p,us,rfl,hp,r1⟩:=Rp.tup_inv rv;obtain⟨x,y,rfl,q1,q2⟩:=r1.two_inv;rw[q1.int_inv,q2.int_inv] at hp;exact⟨p,a,b,rfl,SqT.of hp,q _ _ H1 h (Same.refl _) (.int _)⟩
  ·exact h.elim
 ·exact h.elim
def CV {ta:TA}{r:PTA} (hr:SndA K mg E ta r):SndE K mg E (tCB (fun xs H Q=>∃(p:Addr) (a b:Int),xs=[.ref p]/\SqT K H p [.int a,.int b]/\Q (.int (if b>a then b else a)) H) ta) (pCB Fs r):=by
 refine U0 hr fun H0 H H1 Z ss vs R Q s0 s1 hm tv h q=>?_;unfold Fs at h;split at h
 ·rename_i s;obtain⟨v,rfl,t1⟩:=tv.one_inv;have rv:=t1.rp s0;split at h
  ·rename_i a b e;rw[e] at rv;obtain⟨p,us,rfl,hp,r1⟩:=Rp.tup_inv rv;obtain⟨x,y,rfl,q1,q2⟩:=r1.two_inv;rw[q1.int_inv,q2.int_inv] at hp;exact⟨p,a,b,rfl,SqT.of hp,q _ _ H1 h (Same.refl _) (.int _)⟩
  ·exact h.elim
 ·exact h.elim
end
section
variable {X:Cx}{k j:Nat}{x:Str}{ps:List Str}{sp:Sp}{e a b c:Expr}{es:List Expr}{t:TA}{te tf tg:TE}{p pos:Pos}
def fz (C:Callee X.prog X.w X.K X.mg X.base CX0 k x ps sp) (hr:Room j X.A) (ha:PA X (e::es) t) (hk:k<=j:=by decide) (hg:Gl X x:=by rfl) (hdb:(x==("__debug__" : Str))=false:=by decide) (he:starEach (e::es) X.env=(false,eval e X.env)::starEach es X.env:=by rfl) (hpl:(backTo pos (starEach es X.env)).any (·.1)=false:=by rfl) :
  PE X (.Call (.Name x p) (e::es) [] pos) (U4 sp [] E0 t):=J1 C (hr.mono hk) Je ha hg hdb he hpl
def jx (K:Za) (ha:PE X a te) (hb:PE X b tf) (hK:X.K=K:=by rfl) (hs:NM b:=by intro _ _;rfl):PE X (.Subscript a b pos) (tOp (fun x y H Q=>rIxL K x y H Q\/rIxT K x y H Q) te tf):=NR (Ny hK) ha hb hs
def gz (i:Nat) (hN:X.N.Nodup) (hi:X.N[i]?=some x:=by rfl) (hx:Loc X.env.scope x:=by first|exact Or.inl rfl|exact Or.inr rfl) (hf:X.fn x=true\/X.env.scope.names.lookup x=some .local:=by first|exact .inl rfl|exact .inr rfl|assumption):PG X (.Name x pos) (Xp i):=A6 hN hi hx hf
def ln (K:Za) (hm:X.mg "len"=none) (ha:PE X a te) (hK:X.K=K:=by rfl) (hg:Gl X "len":=by rfl) (hs:starEach [a] X.env=(false,eval a X.env)::starEach [] X.env:=by rfl) (hpl:(backTo pos (starEach [] X.env)).any (·.1)=false:=by rfl) :
  PE X (.Call (.Name "len" p) [a] [] pos) (tCB (fun xs H Q=>∃x n,xs=[x]/\LenV K x H n/\Q (.int (n:Nat)) H) (VN te tNil)):=VH (F3 hK) hg hm PySem.boot_len (Vs ha VL hs) (by decide) (by decide) hs hpl
def cq (K:Za) (hr:Room j X.A) (ha:PE X a te) (hb:PE X b tf) (hK:X.K=K:=by rfl):PT X (.Compare a [.Eq] [b] pos) (Kw (tOp (fun x y H Q=>rEq x y H Q\/rEqL K false x y H Q) te tf)):=V3 (XX hr.units0 hK) ha hb (V0 _)
def cn (K:Za) (hr:Room j X.A) (ha:PE X a te) (hb:PE X b tf) (hK:X.K=K:=by rfl):PT X (.Compare a [.NotEq] [b] pos) (Kw (tOp (fun x y H Q=>rNe x y H Q\/rEqL K true x y H Q) te tf)):=V3 (DX hr.units0 hK) ha hb (V0 _)
def az (ha:PE X a te) (h1:starEach [a] X.env=(false,eval a X.env)::starEach [] X.env:=by rfl):PA X [a] (VN te tNil):=Vs ha VL h1
def bz (ha:PE X a te) (hb:PE X b tf) (h1:starEach [a,b] X.env=(false,eval a X.env)::starEach [b] X.env:=by rfl) (h2:starEach [b] X.env=(false,eval b X.env)::starEach [] X.env:=by rfl):PA X [a,b] (VN te (VN tf tNil)):=Vs ha (Vs hb VL h2) h1
def dz (ha:PE X a te) (hb:PE X b tf) (hc:PE X c tg) (h1:starEach [a,b,c] X.env=(false,eval a X.env)::starEach [b,c] X.env:=by rfl) (h2:starEach [b,c] X.env=(false,eval b X.env)::starEach [c] X.env:=by rfl) (h3:starEach [c] X.env=(false,eval c X.env)::starEach [] X.env:=by rfl):PA X [a,b,c] (VN te (VN tf (VN tg tNil))):=Vs ha (Vs hb (Vs hc VL h3) h2) h1
end
section
variable {K:Za}{mg:Str->Option Value}{E:L2.St->XK}{ta tb tc:TE}{a b c:PTE}
def sz (ha:SndE K mg E ta a):SndA K mg E (VN ta tNil) (UO a pNil):=Vt ha V2
def tz (ha:SndE K mg E ta a) (hb:SndE K mg E tb b):SndA K mg E (VN ta (VN tb tNil)) (UO a (UO b pNil)):=Vt ha (sz hb)
def uz (ha:SndE K mg E ta a) (hb:SndE K mg E tb b) (hc:SndE K mg E tc c):SndA K mg E (VN ta (VN tb (VN tc tNil))) (UO a (UO b (UO c pNil))):=Vt ha (tz hb hc)
end
section
variable {K:Za}{h:Heap}{mg:Str->Option Value}{C C':Addr}{x m q:Str}{st:Stmt}{ps:List Str}
abbrev Bd (x q:Str) (st:Stmt) (ps:List Str):Prop:=∀(kV doc pm:Value) (an:Option Addr) (cdv ct:Value) (us:List Value),us.length=ps.length->bindArgs (PySem.W.fnOf x q (JN st) (Ja st) (Vk st) .none kV doc pm an cdv ct) ⟨us,[]⟩=pure (ps.zip us)
def DI.e (D:DI K x st) (X:K.In h) (G0:h.Ns mainGlobals mg) (b:Bd x x st ps:=by
  intro _ _ _ _ _ _ us hl
  first
   | (obtain⟨_,rfl⟩:=Pu.len1 hl;rfl)
   | (obtain⟨_,_,rfl⟩:=Pu.len2 hl;rfl)
   | (obtain⟨_,_,_,rfl⟩:=Pu.len3 hl;rfl)
   | (obtain⟨_,_,_,_,rfl⟩:=Pu.len4 hl;rfl)
   | (obtain⟨_,_,_,_,_,rfl⟩:=Pu.len5 hl;rfl)):Def K mg x st ps:=D.d X G0 b
def MI.e (D:MI K C m q st) (e:C'=C) (b:Bd m q st ps:=by
  intro _ _ _ _ _ _ us hl
  first
   | (obtain⟨_,rfl⟩:=Pu.len1 hl;rfl)
   | (obtain⟨_,_,rfl⟩:=Pu.len2 hl;rfl)
   | (obtain⟨_,_,_,rfl⟩:=Pu.len3 hl;rfl)
   | (obtain⟨_,_,_,_,rfl⟩:=Pu.len4 hl;rfl)):DefM K (Meth K C' m) m q st ps:=D.d e b
def MI.j (D:MI K C "__init__" q st) (e:C'=C) (mk:PySem.W.makesIn K C=true) (kc:PySem.W.keepIn K (.ref C)=true) (b:Bd "__init__" q st ps:=by
  intro _ _ _ _ _ _ us hl
  first
   | (obtain⟨_,rfl⟩:=Pu.len1 hl;rfl)
   | (obtain⟨_,_,rfl⟩:=Pu.len2 hl;rfl)
   | (obtain⟨_,_,_,rfl⟩:=Pu.len3 hl;rfl)):DefM K (Mk K C') "__init__" q st ps:=D.i e mk kc b
end
section
variable {P:Program}{w:World}{K:Za}{mg:Str->Option Value}{base:Heap}{N ps:List Str}{sp:Sp}{p:PTS}{x q:Str}{st:Stmt}{k:Nat}{W:Addr->Prop}
structure Uz (K:Za) (mg:Str->Option Value) (N ps:List Str) (sp:Sp) (p:PTS):Prop where
 len:∀vs H Q E,sp vs H Q E->vs.length=ps.length
 run:∀vs H Q E t,sp vs H Q E->SndS K mg (fun _=>E) t p->t { nx:=fun _ H'=>Q .non H',rt:=Q } (start N vs) H
def Uz.a {c:Pc} (hp:∀ds R X,c ds R X->ds.length=ps.length/\p { nx:=fun _=>R (.sh .non),rt:=R,ex:=fun _ e=>X e } (Uh N ds)) (hn:ps.length<=N.length:=by decide):Uz K mg N ps (spOf mg c K) p:=
 ⟨fun _ _ _ _ h=>G1 h fun ds R X z=>(hp ds R X z).1,fun _ _ _ _ _ h s=>EJ h s hn hp⟩
def Uz.b {c:Pq} (hp:∀ss R X,c ss R X->ss.length=ps.length/\p { nx:=fun _=>R (.sh .non),rt:=R,ex:=fun _ e=>X e } (U7 N ss)) (hn:ps.length<=N.length:=by decide):Uz K mg N ps (spS mg c K) p:=
 ⟨fun _ _ _ _ h=>Hi h fun ds R X z=>(hp ds R X z).1,fun _ _ _ _ _ h s=>DJ h s hn hp⟩
def Uz.c {c:Pw}{y:Str} (hp:∀o ss R X,c o ss R X->ss.length=ps.length/\p (BH o R X) (Us N o ss)) (hn:ps.length+1<=N.length:=by decide):Uz K mg N (y::ps) (spW mg c K) p:=
 ⟨fun _ _ _ _ h=>Ex h fun o ds R X z=>(hp o ds R X z).1,fun _ _ _ _ _ h s=>Gn h s hn hp⟩
def Uz.d {c:Pw2}{y z:Str} (hp:∀o1 o2 ss R X,c o1 o2 ss R X->ss.length=ps.length/\p (SE o1 o2 R X) (Ub N o1 o2 ss)) (hn:ps.length+2<=N.length:=by decide):Uz K mg N (y::z::ps) (spW2 mg c K) p:=
 ⟨fun _ _ _ _ h=>E8 h fun o1 o2 ds R X z=>(hp o1 o2 ds R X z).1,fun _ _ _ _ _ h s=>Hv h s hn hp⟩
def _root_.Own.Def.oz (D:Def K mg x st ps) (S:FnScope N ps (Vk st))
  (tr:∀(f:Addr) (cdv:Value) (A:Around) (outer:List Env) (s:Shared) (H:Hp) (E:XK),Room k (A.deeper (envOfC x (Vk st) s.heap.objs.size f cdv))->
   ∃t,PSs (cxOf CX0 P w K mg base N x (Vk st) f cdv A outer s H E).nox (Ja st) t/\SndS K mg (fun _=>E) t p) (u:Uz K mg N ps sp p):Callee P w K mg base CX0 (k+1) x ps sp:=
 D.ok S u.len fun f cdv A outer s H vs Q E hr h=>(tr f cdv A outer s H E hr).elim fun t z=>⟨t,z.1,u.run _ _ _ _ _ h z.2⟩
def _root_.Own.Def.ox (D:Def K mg x st ps) (S:FnScope N ps (Vk st))
  (tr:∀(f:Addr) (cdv:Value) (A:Around) (outer:List Env) (s:Shared) (H:Hp) (E:XK),Room k (A.deeper (envOfC x (Vk st) s.heap.objs.size f cdv))->
   ∃t,PSs (cxOf (ExcR.CXe P w) P w K mg base N x (Vk st) f cdv A outer s H E) (Ja st) t/\SndS K mg (fun _=>E) t p) (u:Uz K mg N ps sp p):Callee P w K mg base (ExcR.CXe P w) (k+1) x ps sp:=
 ExcR.Def.okX D S u.len fun f cdv A outer s H vs Q E hr h=>(tr f cdv A outer s H E hr).elim fun t z=>⟨t,z.1,u.run _ _ _ _ _ h z.2⟩
def DefM.oz (D:DefM K W x q st ps) (S:FnScope N ps (Vk st))
  (tr:∀(f:Addr) (cdv:Value) (A:Around) (outer:List Env) (s:Shared) (H:Hp) (E:XK),Room k (A.deeper (envOfC q (Vk st) s.heap.objs.size f cdv))->
   ∃t,PSs (cxOf CX0 P w K mg base N q (Vk st) f cdv A outer s H E).nox (Ja st) t/\SndS K mg (fun _=>E) t p) (u:Uz K mg N ps sp p):CalleeM P w K mg base CX0 (k+1) W ps sp:=
 D.ok S u.len fun f cdv A outer s H vs Q E hr h=>(tr f cdv A outer s H E hr).elim fun t z=>⟨t,z.1,u.run _ _ _ _ _ h z.2⟩
def DefM.ox (D:DefM K W x q st ps) (S:FnScope N ps (Vk st))
  (tr:∀(f:Addr) (cdv:Value) (A:Around) (outer:List Env) (s:Shared) (H:Hp) (E:XK),Room k (A.deeper (envOfC q (Vk st) s.heap.objs.size f cdv))->
   ∃t,PSs (cxOf (ExcR.CXe P w) P w K mg base N q (Vk st) f cdv A outer s H E) (Ja st) t/\SndS K mg (fun _=>E) t p) (u:Uz K mg N ps sp p):CalleeM P w K mg base (ExcR.CXe P w) (k+1) W ps sp:=
 D.okX S u.len fun f cdv A outer s H vs Q E hr h=>(tr f cdv A outer s H E hr).elim fun t z=>⟨t,z.1,u.run _ _ _ _ _ h z.2⟩
end
section
variable {K:Za}{h:Heap}{mg:Str->Option Value}{x:Str}{C:Addr}
structure EI (K:Za) (x:Str) (C:Addr):Prop where
 a:PySem.W.nsIn K mainGlobals x=some (some (.ref C))
 g:ExcR.ErrGet K C
def ei {d:ClassData} (a:PySem.W.nsIn K mainGlobals x=some (some (.ref C))) (q:PySem.W.excIn K C [.type "ValueError",.type "Exception",.type "BaseException",.type "object"] "ValueError.__new__"=true)
  (ga:PySem.W.findIn K (.ref C) "__getattribute__"=some (some (.builtin "BaseException.__getattribute__"))) (gt:PySem.W.findIn K (.ref C) "__getattr__"=some none)
  (cl:PySem.W.findIn K (.ref C) "__class__"=some (some (.builtin "object.__class__"))) (i:PySem.W.clsIn K C=some d):EI K x C:=⟨a,⟨⟨q⟩,ga,gt,cl,by rw[i];rfl⟩⟩
def EI.c (y:EI K x C) (X:K.In h) (G0:h.Ns mainGlobals mg):ExcR.Vb mg x=C:=ExcR.BI (YG X G0 y.a)
def EI.m (y:EI K x C) (X:K.In h) (G0:h.Ns mainGlobals mg):mg x=some (.ref (ExcR.Vb mg x)):=by rw[y.c X G0];exact YG X G0 y.a
def EI.k (y:EI K x C) (X:K.In h) (G0:h.Ns mainGlobals mg):ExcR.ErrGet K (ExcR.Vb mg x):=by rw[y.c X G0];exact y.g
end
section
variable {K:Za}{mg:Str->Option Value}{E:L2.St->XK}{H0 H H1 H':Hp}{B Z Z':Addr->Prop}{σ:L2.St}{γ:Γ}
def FB (a b:PTE):PTE:=fun γ R X=>a γ (fun s=>b γ (fun u=>match s,u with
 | .own (.lst d1),.own (.lst d2)=>imms d1=true/\imms d2=true/\∀x y,R (.own (.nst [(x,d1),(y,d2)]))
 | _,_=>False) X) X
def Ce {t1 t2:TE}{a b:PTE} (ha:SndE K mg E t1 a) (hb:SndE K mg E t2 b):SndE K mg E (tTup (VN t1 (VN t2 tNil))) (FB a b):=by
 intro H0 B H σ γ R X Q env h q qx;refine ha H0 B H σ γ _ X _ env h (fun s v H1 p1 S1 t1=>?_) qx;have env1:=env.grow S1;refine hb H0 B H1 σ γ _ X _ env1 p1 (fun u w H2 p2 S2 t2=>?_) fun c H' hc S'=>qx c H' hc (S1.trans S');have env2:=env1.grow S2;split at p2
 ·rename_i d1 d2;obtain⟨i1,i2,p2⟩:=p2;obtain⟨x,rfl,x0,vs,x1,x2⟩:=t1;obtain⟨y,rfl,y0,ws,y1,y2⟩:=t2;have nx:H x=none:=x0 x rfl;have ny:H1 y=none:=y0 y rfl;have nxy:x≠y:=JL x1 ny;refine⟨by show 2<=sizeLine;decide,fun l nl=>?_⟩;have S3:=JO (o:=.tup [.ref x,.ref y]) nl;have g1:=S3 _ _ (S2 _ _ x1);have g2:=S3 _ _ y1
  have hm:∀c,(zof B γ σ c\/(O.nst [(x,d1),(y,d2)]).adr l c)->Mut (upd H2 l (.tup [.ref x,.ref y]) c):=fun c z=>by
   rcases z with z|⟨e,he,z⟩
   ·exact Uc S3 (env2.zm c z)
   ·rcases Ym.mp he with rfl|he
    ·rw[z,g1];trivial
    ·rw[Yb.mp he] at z;rw[z,g2];trivial
  refine q _ _ _ (p2 x y) ((S1.trans S2).trans S3) ⟨l,rfl,?_,?_,?_,?_⟩
  ·rintro c ⟨e,he,rfl⟩;rcases Ym.mp he with rfl|he
   ·exact nx
   ·rw[Yb.mp he];exact S1.free ny
  ·refine VM VQ fun z=>?_
   have:=hm l z
   rw[VQ] at this;exact this
  ·rintro c hc;rcases Ym.mp hc with rfl|hc
   ·exact⟨vs,g1,Rps.off hm (Rps.mono (off_sub.trans (S2.trans S3)) x2) i1⟩
   ·rw[Yb.mp hc];exact⟨ws,g2,Rps.off hm (Rps.mono (off_sub.trans S3) y2) i2⟩
  ·show[x,y].Nodup;simp[nxy]
 ·exact p2.elim
def EnvR.cellN {i j:Nat}{cs:List (Addr×List D)}{b:Addr}{ds es:List D}{us:List V} (env:EnvR K H0 B H σ γ) (hi:γ[i]?=some (some (.own (.nst cs)))) (hj:cs[j]?=some (b,ds)) (r:Rps K (off (zof B γ σ) H) es us) :
  EnvR K H0 B (upd H b (.lst us)) σ (γ.set i (some (.own (.nst (cs.set j (b,es))))))/\Fr B H σ γ (upd H b (.lst us)) σ (γ.set i (some (.own (.nst (cs.set j (b,es)))))):=by
 obtain⟨v,hv,a,rfl,e0,e3,e4,e5⟩:=env.slot i _ hi;have hjl:j<cs.length:=(Yo.mp hj).1;have hbm:(b,ds)∈cs:=Yh hj
 have em:(cs.set j (b,es)).map (·.1)=cs.map (·.1):=by
  apply List.ext_getElem?;intro k;rw[ZY,ZY,WB];by_cases e:j=k
  ·subst e;rw[ZV rfl,ZV hjl,hj];rfl
  ·rw[ZU e]
 have em2:(cs.set j (b,es)).map (fun c=>V.ref c.1)=cs.map fun c=>V.ref c.1:=by
  have:=Y0 (List.map V.ref) em
  rw[Wf,Wf] at this;exact this
 have adr:∀c,(O.nst (cs.set j (b,es))).adr a c->(O.nst cs).adr a c:=fun c ⟨d,hd,hc⟩=>by
  have:d.1∈(cs.set j (b,es)).map (·.1):=List.mem_map_of_mem hd
  rw[em] at this;obtain⟨d',q1,q2⟩:=Wq.mp this;exact⟨d',q1,hc.trans q2.symm⟩
 have zb:∀c,(O.nst cs).adr a c->zof B γ σ c:=fun c hc=>.inr ⟨i,_,a,hi,hv,hc⟩
 have So:Same (off (zof B γ σ) H) (off (zof B (γ.set i (some (.own (.nst (cs.set j (b,es)))))) σ) (upd H b (.lst us))):=fun c u h=>by
  obtain⟨q1,q2⟩:=JF h;have nb:c≠b:=fun z=>q2 (zb c ⟨_,hbm,z⟩);refine VM (by rw[V1 nb];exact q1) fun z=>q2 ?_;rcases z with z|⟨k,fs,a',k1,k2,k3⟩
  ·exact .inl z
  ·rcases VD k1 with⟨ek,q,_⟩|⟨_,e⟩
   ·subst ek;cases q
    rw[hv] at k2;cases k2
    exact zb c (adr c k3)
   ·exact .inr ⟨k,fs,a',e,k2,k3⟩
 refine env.change hi hv (fun c u hu n=>?_) (fun c hc=>?_) (fun c hc=>.inl (adr c hc)) ⟨?_,fun c hc=>?_,by rw[em];exact e5⟩
 ·rw[V1 fun z=>n ⟨_,hbm,z⟩];exact hu
 ·by_cases z:c=b
  ·rw[z,VQ];trivial
  ·rw[V1 z];exact env.zm c (zb c hc)
 ·rw[em2];exact So _ _ e3
 ·obtain⟨k,hk,ek⟩:=List.getElem_of_mem hc;have hk':(cs.set j (b,es))[k]?=some c:=by rw[ZS hk,ek]
  rcases VD hk' with⟨_,q,_⟩|⟨nk,q⟩
  ·subst q;exact⟨us,VQ,Rps.mono So r⟩
  ·obtain⟨ws,w1,w2⟩:=e4 c (Yh q)
   have nb:c.1≠b:=fun z=>nk (by
    have h1:(cs.map (·.1))[k]?=some b:=by rw[ZY,q];exact Y0 some z
    have h2:(cs.map (·.1))[j]?=some b:=by rw[ZY,hj];rfl
    exact Pf e5 h1 h2)
   exact⟨ws,by rw[V1 nb];exact w1,Rps.mono So w2⟩
def NC (i:Nat) (b a:PTE):PTS:=fun R γ=>match γ[i]? with
 | some (some (.own (.nst cs)))=>b γ (fun y=>match y.d with
  | .int k=>∃j c,ixN cs.length k=some j/\cs[j]?=some c/\a γ (fun s=>match s.shd with
   | some d=>c.2.length<10000000/\R.nx (γ.set i (some (.own (.nst (cs.set j (c.1,c.2++[d]))))))
   | none=>False) (R.ex γ)
  | _=>False) (R.ex γ)
 | _=>False
def Bq {cs:List (Addr×List D)}{k:Int}{j:Nat}{c:Addr×List D} (h1:ixN cs.length k=some j) (h2:cs[j]?=some c):atI (cs.map fun c=>V.ref c.1) k=some (.ref c.1):=by
 unfold atI;rw[ZR,h1];show(cs.map fun c=>V.ref c.1)[j]?=_;rw[ZY,h2];rfl
def Fp (i:Nat) {tb te:TE}{a b:PTE} (hb:SndE K mg E tb b) (ha:SndE K mg E te a) :
  SndS K mg E (Xo (tBM K "list" KC (tOp (fun x y H Q=>rIxL K x y H Q\/rIxT K x y H Q) (tVar i) tb) (VN te tNil))) (NC i b a):=by
 intro H0 B H σ γ R D hB env h e;have hx:∀c H',R.ex γ c->Same H H'->E σ (.ref (ExcR.Vb mg c)) none H':=fun c H' hc S'=>e.ex σ γ c H' hc (env.grow S') (Fr.grow S');unfold NC at h;split at h
 ·rename_i cs hi;obtain⟨v,hv,l,rfl,e0,e3,e4,e5⟩:=env.slot i _ hi;refine⟨_,hv,hb H0 B H σ γ _ _ _ env h (fun y w H1 h1 S1 t1=>?_) hx⟩;have env1:=env.grow S1;have ry:=t1.rp env1.same;split at h1
  ·rename_i k ek;rw[ek] at ry;obtain⟨j,c,h3,h4,h5⟩:=h1;obtain⟨us,u1,u2⟩:=e4 c (Yh h4);refine .inr ⟨l,_,k,.ref c.1,rfl,ry.int_inv,SqT.of (S1 _ _ (off_sub _ _ e3)),Bq h3 h4,?_⟩;refine⟨.inl ⟨rfl,us,SqL.of (S1 _ _ u1)⟩,ha H0 B H1 σ γ _ _ _ env1 h5 (fun s u H2 h2 S2 t2=>?_) fun c H' hc S'=>hx c H' hc (S1.trans S')⟩;have env2:=env1.grow S2;split at h2
   ·rename_i d ed;have rd:=t2.shd env2.same env1.zm S2 ed;refine⟨c.1,us,u,rfl,rfl,S2 _ _ (S1 _ _ u1),by rw[u2.len];exact WD h2.1 (by decide),?_⟩;obtain⟨k1,k2⟩:=env2.cellN (es:=c.2++[d]) (us:=us++[u]) hi h4 (Rps.append (Rps.mono (Vy (S1.trans S2) fun _ _ _ z=>z) u2) (.cons rd .nil));exact e.nx _ _ _ h2.2 k1 ((Fr.grow (S1.trans S2)).trans k2)
   ·exact h2.elim
  ·exact h1.elim
 ·exact h.elim
def SZ (i:Nat) (c b a:PTE):PTS:=fun R γ=>match γ[i]? with
 | some (some (.own (.nst cs)))=>a γ (fun s=>c γ (fun z=>match z.d with
  | .int k=>∃j e,ixN cs.length k=some j/\cs[j]?=some e/\b γ (fun y=>match y.d with
   | .int n=>∃m d,ixN e.2.length n=some m/\s.shd=some d/\R.nx (γ.set i (some (.own (.nst (cs.set j (e.1,e.2.set m d))))))
   | _=>False) (R.ex γ)
  | _=>False) (R.ex γ)) (R.ex γ)
 | _=>False
def Gs (i:Nat) {tc tb te:TE}{a b c:PTE} (hc:SndE K mg E tc c) (hb:SndE K mg E tb b) (ha:SndE K mg E te a) :
  SndS K mg E (tAsg te (gSub (tOp (fun x y H Q=>rIxL K x y H Q\/rIxT K x y H Q) (tVar i) tc) tb Fk)) (SZ i c b a):=by
 intro H0 B H σ γ R D hB env h e;have hx:∀c H',R.ex γ c->Same H H'->E σ (.ref (ExcR.Vb mg c)) none H':=fun c H' hc S'=>e.ex σ γ c H' hc (env.grow S') (Fr.grow S');unfold SZ at h;split at h
 ·rename_i cs hi;obtain⟨v,hv,l,rfl,e0,e3,e4,e5⟩:=env.slot i _ hi;refine ha H0 B H σ γ _ _ _ env h (fun s u H1 h1 S1 t1=>⟨_,hv,?_⟩) hx;have env1:=env.grow S1;refine hc H0 B H1 σ γ _ _ _ env1 h1 (fun z w H2 h2 S2 t2=>?_) fun c H' hc S'=>hx c H' hc (S1.trans S');have env2:=env1.grow S2;have rz:=t2.rp env2.same;have S12:=S1.trans S2;split at h2
  ·rename_i k ek;rw[ek] at rz;obtain⟨j,c0,h3,h4,h5⟩:=h2;obtain⟨us,u1,u2⟩:=e4 c0 (Yh h4);refine .inr ⟨l,_,k,.ref c0.1,rfl,rz.int_inv,SqT.of (S12 _ _ (off_sub _ _ e3)),Bq h3 h4,?_⟩;refine hb H0 B H2 σ γ _ _ _ env2 h5 (fun y w' H3 h6 S3 t3=>?_) fun c H' hc S'=>hx c H' hc (S12.trans S');have env3:=env2.grow S3;have S13:=S12.trans S3;have ry:=t3.rp env3.same;split at h6
   ·rename_i n en;rw[en] at ry;obtain⟨m,d,h7,h8,h9⟩:=h6;have rd:=Rp.mono (Vy (S2.trans S3) fun _ _ _ z=>z) (t1.shd env1.same env.zm S1 h8);refine⟨c0.1,us,n,m,rfl,ry.int_inv,S13 _ _ u1,by rw[u2.len];exact h7,?_⟩;obtain⟨k1,k2⟩:=env3.cellN (es:=c0.2.set m d) (us:=us.set m u) hi h4 (Rps.set rd m (Rps.mono (Vy S13 fun _ _ _ z=>z) u2));exact e.nx _ _ _ h9 k1 ((Fr.grow S13).trans k2)
   ·exact h6.elim
  ·exact h2.elim
 ·exact h.elim
end
end Pu
namespace T
open PySem PySem.Spec PyProof.Rows L2
def top (i:Nat):Stmt:=PySem.Challenge.pw_stripmeld_k29_as_it_stood.main.body.getD i (.Pass ⟨0,0,0,0⟩)
abbrev Nn:Stmt:=top 22
def E2:FnScope ["holder"] ["holder"] (Vk Nn):=Pu.fs
abbrev KR:Stmt:=top 23
def Hc:FnScope ["width"] ["width"] (Vk KR):=Pu.fs
abbrev TB:Stmt:=top 24
def Pi:FnScope ["strips","holder","width"] ["strips"] (Vk TB):=Pu.fs
abbrev T1:Stmt:=top 26
def D6:FnScope ["strips","place"] ["strips","place"] (Vk T1):=Pu.fs
abbrev Tf:Stmt:=top 29
def DY:FnScope ["strips","place"] ["strips","place"] (Vk Tf):=Pu.fs
abbrev PP:Stmt:=top 30
def Fd:FnScope ["strips","place","holder","strip"] ["strips","place","holder"] (Vk PP):=Pu.fs
abbrev Pj:Stmt:=top 31
def SC:FnScope ["strips","place","width","strip"] ["strips","place","width"] (Vk Pj):=Pu.fs
abbrev PV:Stmt:=top 32
def Tc:FnScope ["strips","place","left","right"] ["strips","place"] (Vk PV):=Pu.fs
abbrev P1:Stmt:=top 33
def AL:FnScope ["wishes","ahead","behind"] ["wishes","ahead","behind"] (Vk P1):=Pu.fs
abbrev KW:Stmt:=top 34
def Dp:FnScope ["wishes","ahead","behind"] ["wishes","ahead","behind"] (Vk KW):=Pu.fs
abbrev T4:Stmt:=inClass (top 37) 0
def Ct:FnScope ["self","strips"] ["self","strips"] (Vk T4):=Pu.fs
abbrev Pk:Stmt:=inClass (top 37) 1
def AZ:FnScope ["self"] ["self"] (Vk Pk):=Pu.fs
abbrev P4:Stmt:=inClass (top 37) 2
def ET:FnScope ["self"] ["self"] (Vk P4):=Pu.fs
abbrev Tw:Stmt:=inClass (top 37) 3
def F9:FnScope ["self"] ["self"] (Vk Tw):=Pu.fs
abbrev PX:Stmt:=inClass (top 37) 4
def Eg:FnScope ["self"] ["self"] (Vk PX):=Pu.fs
abbrev PB:Stmt:=inClass (top 37) 5
def FK:FnScope ["self","deed","field","wishes"] ["self","deed","field","wishes"] (Vk PB):=Pu.fs
abbrev Pg:Stmt:=inClass (top 37) 6
def Sx:FnScope ["self","place","holder","field"] ["self","place","holder"] (Vk Pg):=Pu.fs
abbrev P7:Stmt:=inClass (top 37) 7
def Bi:FnScope ["self","place","width","field"] ["self","place","width"] (Vk P7):=Pu.fs
abbrev P5:Stmt:=inClass (top 37) 8
def NT:FnScope ["self","place","field"] ["self","place"] (Vk P5):=Pu.fs
abbrev T9:Stmt:=inClass (top 37) 9
def NU:FnScope ["self","ahead","behind","wishes"] ["self","ahead","behind"] (Vk T9):=Pu.fs
abbrev KU:Stmt:=inClass (top 37) 10
def B8:FnScope ["self","ahead","behind","wishes"] ["self","ahead","behind"] (Vk KU):=Pu.fs
abbrev Pt:Stmt:=inClass (top 37) 11
def CA:FnScope ["self"] ["self"] (Vk Pt):=Pu.fs
abbrev TU:Stmt:=inClass (top 37) 12
def Cz:FnScope ["self","many"] ["self","many"] (Vk TU):=Pu.fs
abbrev TN:Stmt:=top 39
def He:FnScope ["_law_script","_law_k"] ["_law_script","_law_k"] (Vk TN):=Pu.fs
abbrev T7:Stmt:=top 40
def CK:FnScope ["_law_found"] ["_law_found"] (Vk T7):=Pu.fs
abbrev Pa:Stmt:=top 41
def Bs:FnScope ["_law_cell","_law_place_here","_law_first"] ["_law_cell","_law_place_here"] (Vk Pa):=Pu.fs
abbrev TJ:Stmt:=top 42
def EK:FnScope ["_law_script","_law_k"] ["_law_script","_law_k"] (Vk TJ):=Pu.fs
abbrev Nk:Stmt:=top 43
def Pe:FnScope ["_law_cell","_law_wide","_law_least"] ["_law_cell"] (Vk Nk):=Pu.fs
abbrev Ni:Stmt:=top 44
def GT:FnScope ["_law_menu_here","_law_k"] ["_law_menu_here","_law_k"] (Vk Ni):=Pu.fs
abbrev P6:Stmt:=top 45
def KN:FnScope ["_law_found","_law_due","_law_k","_law_j"] ["_law_found","_law_due"] (Vk P6):=Pu.fs
abbrev KQ:Stmt:=top 46
def N4:FnScope ["_law_found","_law_due","_law_j"] ["_law_found","_law_due"] (Vk KQ):=Pu.fs
abbrev Px:Stmt:=top 47
def SA:FnScope ["_law_found","_law_due","_law_k"] ["_law_found","_law_due"] (Vk Px):=Pu.fs
abbrev Ng:Stmt:=top 48
def X4:FnScope ["_law_strips","_law_deed_here","_law_place_here","_law_holder_here","_law_width_here","_law_parts"] ["_law_strips","_law_deed_here"] (Vk Ng):=Pu.fs
abbrev Tz:Stmt:=top 49
def B2:FnScope ["_law_wishes","_law_deed_here","_law_pair_here"] ["_law_wishes","_law_deed_here"] (Vk Tz):=Pu.fs
abbrev Ta:Stmt:=top 50
def Ts:FnScope ["_law_now","_law_deed_here","_law_step_here"] ["_law_now","_law_deed_here"] (Vk Ta):=Pu.fs
abbrev Pr:Stmt:=top 51
def Eh:FnScope ["_law_village","_law_deed_here"] ["_law_village","_law_deed_here"] (Vk Pr):=Pu.fs
abbrev TH:Stmt:=top 52
def Xl:FnScope ["_law_village","_law_deed_here","_law_kinds","_law_found","e"] ["_law_village","_law_deed_here"] (Vk TH):=Pu.fs
abbrev PQ:Stmt:=top 53
def EX:FnScope ["_law_found","_law_refusal","_law_count"] ["_law_found","_law_refusal","_law_count"] (Vk PQ):=Pu.fs
abbrev TL:Stmt:=top 54
def UF:FnScope ["_law_village","_law_past","_law_found","_law_refused","e","_law_due"] ["_law_village","_law_past"] (Vk TL):=Pu.fs
abbrev T5:Stmt:=top 55
def Gr:FnScope ["_law_village","_law_past"] ["_law_village","_law_past"] (Vk T5):=Pu.fs
abbrev P8:Stmt:=top 56
def Tp:FnScope ["_law_village","_law_past","_law_deed_here","_law_found","_law_step_here"] ["_law_village","_law_past","_law_deed_here"] (Vk P8):=Pu.fs
abbrev KS:Stmt:=top 57
def Ut:FnScope ["_law_script","_law_menu_here","_law_many","_law_rest","_law_strips","_law_k","_law_cell","_law_width_here"] ["_law_script","_law_menu_here","_law_many"] (Vk KS):=Pu.fs
abbrev Nt:Stmt:=top 58
def Df:FnScope ["_law_script","_law_most"] ["_law_script","_law_most"] (Vk Nt):=Pu.fs
abbrev PR:Stmt:=top 59
def AQ:FnScope ["_law_cell","_law_good"] ["_law_cell","_law_good"] (Vk PR):=Pu.fs
abbrev PY:Stmt:=top 60
def Hq:FnScope ["_law_cell","_law_strips"] ["_law_cell","_law_strips"] (Vk PY):=Pu.fs
abbrev KO:Stmt:=top 61
def XF:FnScope ["_law_cell","_law_menu_here","_law_pool","_law_one","_law_two","_law_ahead"] ["_law_cell","_law_menu_here"] (Vk KO):=Pu.fs
abbrev Nj:Stmt:=top 62
def U8:FnScope ["_law_script","_law_menu_here","_law_seed","_law_many","_law_deeds","_law_k","_law_pair_here"] ["_law_script","_law_menu_here"] (Vk Nj):=Pu.fs
abbrev Pb:Stmt:=top 63
def DR:FnScope ["_law_cell","_law_strips","_law_place_here"] ["_law_cell","_law_strips","_law_place_here"] (Vk Pb):=Pu.fs
abbrev Nr:Stmt:=top 64
def UM:FnScope ["_law_cell","_law_menu_here","_law_now","_law_kind","_law_rest","_law_place_here","_law_more","_law_pair_here"] ["_law_cell","_law_menu_here","_law_now"] (Vk Nr):=Pu.fs
abbrev PN:Stmt:=top 65
def Kr:FnScope ["_law_village","_law_many","_law_kinds","e"] ["_law_village","_law_many"] (Vk PN):=Pu.fs
abbrev TY:Stmt:=top 66
def Ko:FnScope ["_law_village","_law_past","_law_k","_law_found","_law_many"] ["_law_village","_law_past"] (Vk TY):=Pu.fs
abbrev Ug:Stmt:=top 67
def UI:FnScope ["_law_script","_law_menu_here","_law_strips","_law_village","_law_past","_law_deed_here","_law_cell"] ["_law_script"] (Vk Ug):=Pu.fs
structure Glob (K:Za) (mg:Str->Option Value):Prop where
 ValueError:mg "ValueError"=none
 bool:mg "bool"=none
 int:mg "int"=none
 isinstance:mg "isinstance"=none
 len:mg "len"=none
 list:mg "list"=none
 max:mg "max"=none
 min:mg "min"=none
 range:mg "range"=none
 str:mg "str"=none
 tuple:mg "tuple"=none
 HOLDERS:∃u,mg "HOLDERS"=some u/\RelV (.int 10) u
 STRIPS:∃u,mg "STRIPS"=some u/\RelV (.int 40) u
 WIDEST:∃u,mg "WIDEST"=some u/\RelV (.int 1000) u
 MOST_WISHES:∃u,mg "MOST_WISHES"=some u/\RelV (.int 20) u
 MOST_DEEDS:∃u,mg "MOST_DEEDS"=some u/\RelV (.int 100) u
 m_MeldError:mg "MeldError"=some (.ref (ExcR.Vb mg "MeldError"))
 g_MeldError:ExcR.ErrGet K (ExcR.Vb mg "MeldError")
 m_TooManyStrips:mg "TooManyStrips"=some (.ref (ExcR.Vb mg "TooManyStrips"))
 g_TooManyStrips:ExcR.ErrGet K (ExcR.Vb mg "TooManyStrips")
 m_BadHolder:mg "BadHolder"=some (.ref (ExcR.Vb mg "BadHolder"))
 g_BadHolder:ExcR.ErrGet K (ExcR.Vb mg "BadHolder")
 m_BadWidth:mg "BadWidth"=some (.ref (ExcR.Vb mg "BadWidth"))
 g_BadWidth:ExcR.ErrGet K (ExcR.Vb mg "BadWidth")
 m_NoStrip:mg "NoStrip"=some (.ref (ExcR.Vb mg "NoStrip"))
 g_NoStrip:ExcR.ErrGet K (ExcR.Vb mg "NoStrip")
 m_OwnStrip:mg "OwnStrip"=some (.ref (ExcR.Vb mg "OwnStrip"))
 g_OwnStrip:ExcR.ErrGet K (ExcR.Vb mg "OwnStrip")
 m_BadPart:mg "BadPart"=some (.ref (ExcR.Vb mg "BadPart"))
 g_BadPart:ExcR.ErrGet K (ExcR.Vb mg "BadPart")
 m_UnlikeHolders:mg "UnlikeHolders"=some (.ref (ExcR.Vb mg "UnlikeHolders"))
 g_UnlikeHolders:ExcR.ErrGet K (ExcR.Vb mg "UnlikeHolders")
 m_TooWide:mg "TooWide"=some (.ref (ExcR.Vb mg "TooWide"))
 g_TooWide:ExcR.ErrGet K (ExcR.Vb mg "TooWide")
 m_LikeHolders:mg "LikeHolders"=some (.ref (ExcR.Vb mg "LikeHolders"))
 g_LikeHolders:ExcR.ErrGet K (ExcR.Vb mg "LikeHolders")
 m_WishStands:mg "WishStands"=some (.ref (ExcR.Vb mg "WishStands"))
 g_WishStands:ExcR.ErrGet K (ExcR.Vb mg "WishStands")
 m_TooManyWishes:mg "TooManyWishes"=some (.ref (ExcR.Vb mg "TooManyWishes"))
 g_TooManyWishes:ExcR.ErrGet K (ExcR.Vb mg "TooManyWishes")
 m_NoWish:mg "NoWish"=some (.ref (ExcR.Vb mg "NoWish"))
 g_NoWish:ExcR.ErrGet K (ExcR.Vb mg "NoWish")
 m_BookFull:mg "BookFull"=some (.ref (ExcR.Vb mg "BookFull"))
 g_BookFull:ExcR.ErrGet K (ExcR.Vb mg "BookFull")
 m_NothingDone:mg "NothingDone"=some (.ref (ExcR.Vb mg "NothingDone"))
 g_NothingDone:ExcR.ErrGet K (ExcR.Vb mg "NothingDone")
 m_NoSuchDeed:mg "NoSuchDeed"=some (.ref (ExcR.Vb mg "NoSuchDeed"))
 g_NoSuchDeed:ExcR.ErrGet K (ExcR.Vb mg "NoSuchDeed")
 x_MeldError_MeldError:PySem.W.exmOne K (.ref (ExcR.Vb mg "MeldError")) (.ref (ExcR.Vb mg "MeldError"))=some true
 x_TooManyStrips_MeldError:PySem.W.exmOne K (.ref (ExcR.Vb mg "TooManyStrips")) (.ref (ExcR.Vb mg "MeldError"))=some true
 x_BadHolder_MeldError:PySem.W.exmOne K (.ref (ExcR.Vb mg "BadHolder")) (.ref (ExcR.Vb mg "MeldError"))=some true
 x_BadWidth_MeldError:PySem.W.exmOne K (.ref (ExcR.Vb mg "BadWidth")) (.ref (ExcR.Vb mg "MeldError"))=some true
 x_NoStrip_MeldError:PySem.W.exmOne K (.ref (ExcR.Vb mg "NoStrip")) (.ref (ExcR.Vb mg "MeldError"))=some true
 x_OwnStrip_MeldError:PySem.W.exmOne K (.ref (ExcR.Vb mg "OwnStrip")) (.ref (ExcR.Vb mg "MeldError"))=some true
 x_BadPart_MeldError:PySem.W.exmOne K (.ref (ExcR.Vb mg "BadPart")) (.ref (ExcR.Vb mg "MeldError"))=some true
 x_UnlikeHolders_MeldError:PySem.W.exmOne K (.ref (ExcR.Vb mg "UnlikeHolders")) (.ref (ExcR.Vb mg "MeldError"))=some true
 x_TooWide_MeldError:PySem.W.exmOne K (.ref (ExcR.Vb mg "TooWide")) (.ref (ExcR.Vb mg "MeldError"))=some true
 x_LikeHolders_MeldError:PySem.W.exmOne K (.ref (ExcR.Vb mg "LikeHolders")) (.ref (ExcR.Vb mg "MeldError"))=some true
 x_WishStands_MeldError:PySem.W.exmOne K (.ref (ExcR.Vb mg "WishStands")) (.ref (ExcR.Vb mg "MeldError"))=some true
 x_TooManyWishes_MeldError:PySem.W.exmOne K (.ref (ExcR.Vb mg "TooManyWishes")) (.ref (ExcR.Vb mg "MeldError"))=some true
 x_NoWish_MeldError:PySem.W.exmOne K (.ref (ExcR.Vb mg "NoWish")) (.ref (ExcR.Vb mg "MeldError"))=some true
 x_BookFull_MeldError:PySem.W.exmOne K (.ref (ExcR.Vb mg "BookFull")) (.ref (ExcR.Vb mg "MeldError"))=some true
 x_NothingDone_MeldError:PySem.W.exmOne K (.ref (ExcR.Vb mg "NothingDone")) (.ref (ExcR.Vb mg "MeldError"))=some true
 x_NothingDone_NothingDone:PySem.W.exmOne K (.ref (ExcR.Vb mg "NothingDone")) (.ref (ExcR.Vb mg "NothingDone"))=some true
 x_NoSuchDeed_MeldError:PySem.W.exmOne K (.ref (ExcR.Vb mg "NoSuchDeed")) (.ref (ExcR.Vb mg "MeldError"))=some true
 x_NoSuchDeed_NoSuchDeed:PySem.W.exmOne K (.ref (ExcR.Vb mg "NoSuchDeed")) (.ref (ExcR.Vb mg "NoSuchDeed"))=some true
 k_TooManyStrips_ValueError:PySem.W.kitOne K (.ref (ExcR.Vb mg "TooManyStrips")) (.type "ValueError")=some true
 k_TooManyStrips_NoStrip:PySem.W.kitOne K (.ref (ExcR.Vb mg "TooManyStrips")) (.ref (ExcR.Vb mg "NoStrip"))=some false
 k_TooManyStrips_BadHolder:PySem.W.kitOne K (.ref (ExcR.Vb mg "TooManyStrips")) (.ref (ExcR.Vb mg "BadHolder"))=some false
 k_TooManyStrips_OwnStrip:PySem.W.kitOne K (.ref (ExcR.Vb mg "TooManyStrips")) (.ref (ExcR.Vb mg "OwnStrip"))=some false
 k_TooManyStrips_BadPart:PySem.W.kitOne K (.ref (ExcR.Vb mg "TooManyStrips")) (.ref (ExcR.Vb mg "BadPart"))=some false
 k_TooManyStrips_TooManyStrips:PySem.W.kitOne K (.ref (ExcR.Vb mg "TooManyStrips")) (.ref (ExcR.Vb mg "TooManyStrips"))=some true
 k_TooManyStrips_UnlikeHolders:PySem.W.kitOne K (.ref (ExcR.Vb mg "TooManyStrips")) (.ref (ExcR.Vb mg "UnlikeHolders"))=some false
 k_TooManyStrips_TooWide:PySem.W.kitOne K (.ref (ExcR.Vb mg "TooManyStrips")) (.ref (ExcR.Vb mg "TooWide"))=some false
 k_TooManyStrips_LikeHolders:PySem.W.kitOne K (.ref (ExcR.Vb mg "TooManyStrips")) (.ref (ExcR.Vb mg "LikeHolders"))=some false
 k_TooManyStrips_WishStands:PySem.W.kitOne K (.ref (ExcR.Vb mg "TooManyStrips")) (.ref (ExcR.Vb mg "WishStands"))=some false
 k_TooManyStrips_TooManyWishes:PySem.W.kitOne K (.ref (ExcR.Vb mg "TooManyStrips")) (.ref (ExcR.Vb mg "TooManyWishes"))=some false
 k_TooManyStrips_NoWish:PySem.W.kitOne K (.ref (ExcR.Vb mg "TooManyStrips")) (.ref (ExcR.Vb mg "NoWish"))=some false
 k_TooManyStrips_BookFull:PySem.W.kitOne K (.ref (ExcR.Vb mg "TooManyStrips")) (.ref (ExcR.Vb mg "BookFull"))=some false
 k_BadHolder_ValueError:PySem.W.kitOne K (.ref (ExcR.Vb mg "BadHolder")) (.type "ValueError")=some true
 k_BadHolder_NoStrip:PySem.W.kitOne K (.ref (ExcR.Vb mg "BadHolder")) (.ref (ExcR.Vb mg "NoStrip"))=some false
 k_BadHolder_BadHolder:PySem.W.kitOne K (.ref (ExcR.Vb mg "BadHolder")) (.ref (ExcR.Vb mg "BadHolder"))=some true
 k_BadHolder_OwnStrip:PySem.W.kitOne K (.ref (ExcR.Vb mg "BadHolder")) (.ref (ExcR.Vb mg "OwnStrip"))=some false
 k_BadHolder_BadPart:PySem.W.kitOne K (.ref (ExcR.Vb mg "BadHolder")) (.ref (ExcR.Vb mg "BadPart"))=some false
 k_BadHolder_TooManyStrips:PySem.W.kitOne K (.ref (ExcR.Vb mg "BadHolder")) (.ref (ExcR.Vb mg "TooManyStrips"))=some false
 k_BadHolder_UnlikeHolders:PySem.W.kitOne K (.ref (ExcR.Vb mg "BadHolder")) (.ref (ExcR.Vb mg "UnlikeHolders"))=some false
 k_BadHolder_TooWide:PySem.W.kitOne K (.ref (ExcR.Vb mg "BadHolder")) (.ref (ExcR.Vb mg "TooWide"))=some false
 k_BadHolder_LikeHolders:PySem.W.kitOne K (.ref (ExcR.Vb mg "BadHolder")) (.ref (ExcR.Vb mg "LikeHolders"))=some false
 k_BadHolder_WishStands:PySem.W.kitOne K (.ref (ExcR.Vb mg "BadHolder")) (.ref (ExcR.Vb mg "WishStands"))=some false
 k_BadHolder_TooManyWishes:PySem.W.kitOne K (.ref (ExcR.Vb mg "BadHolder")) (.ref (ExcR.Vb mg "TooManyWishes"))=some false
 k_BadHolder_NoWish:PySem.W.kitOne K (.ref (ExcR.Vb mg "BadHolder")) (.ref (ExcR.Vb mg "NoWish"))=some false
 k_BadHolder_BookFull:PySem.W.kitOne K (.ref (ExcR.Vb mg "BadHolder")) (.ref (ExcR.Vb mg "BookFull"))=some false
 k_NoStrip_ValueError:PySem.W.kitOne K (.ref (ExcR.Vb mg "NoStrip")) (.type "ValueError")=some true
 k_NoStrip_NoStrip:PySem.W.kitOne K (.ref (ExcR.Vb mg "NoStrip")) (.ref (ExcR.Vb mg "NoStrip"))=some true
 k_NoStrip_BadHolder:PySem.W.kitOne K (.ref (ExcR.Vb mg "NoStrip")) (.ref (ExcR.Vb mg "BadHolder"))=some false
 k_NoStrip_OwnStrip:PySem.W.kitOne K (.ref (ExcR.Vb mg "NoStrip")) (.ref (ExcR.Vb mg "OwnStrip"))=some false
 k_NoStrip_BadPart:PySem.W.kitOne K (.ref (ExcR.Vb mg "NoStrip")) (.ref (ExcR.Vb mg "BadPart"))=some false
 k_NoStrip_TooManyStrips:PySem.W.kitOne K (.ref (ExcR.Vb mg "NoStrip")) (.ref (ExcR.Vb mg "TooManyStrips"))=some false
 k_NoStrip_UnlikeHolders:PySem.W.kitOne K (.ref (ExcR.Vb mg "NoStrip")) (.ref (ExcR.Vb mg "UnlikeHolders"))=some false
 k_NoStrip_TooWide:PySem.W.kitOne K (.ref (ExcR.Vb mg "NoStrip")) (.ref (ExcR.Vb mg "TooWide"))=some false
 k_NoStrip_LikeHolders:PySem.W.kitOne K (.ref (ExcR.Vb mg "NoStrip")) (.ref (ExcR.Vb mg "LikeHolders"))=some false
 k_NoStrip_WishStands:PySem.W.kitOne K (.ref (ExcR.Vb mg "NoStrip")) (.ref (ExcR.Vb mg "WishStands"))=some false
 k_NoStrip_TooManyWishes:PySem.W.kitOne K (.ref (ExcR.Vb mg "NoStrip")) (.ref (ExcR.Vb mg "TooManyWishes"))=some false
 k_NoStrip_NoWish:PySem.W.kitOne K (.ref (ExcR.Vb mg "NoStrip")) (.ref (ExcR.Vb mg "NoWish"))=some false
 k_NoStrip_BookFull:PySem.W.kitOne K (.ref (ExcR.Vb mg "NoStrip")) (.ref (ExcR.Vb mg "BookFull"))=some false
 k_OwnStrip_ValueError:PySem.W.kitOne K (.ref (ExcR.Vb mg "OwnStrip")) (.type "ValueError")=some true
 k_OwnStrip_NoStrip:PySem.W.kitOne K (.ref (ExcR.Vb mg "OwnStrip")) (.ref (ExcR.Vb mg "NoStrip"))=some false
 k_OwnStrip_BadHolder:PySem.W.kitOne K (.ref (ExcR.Vb mg "OwnStrip")) (.ref (ExcR.Vb mg "BadHolder"))=some false
 k_OwnStrip_OwnStrip:PySem.W.kitOne K (.ref (ExcR.Vb mg "OwnStrip")) (.ref (ExcR.Vb mg "OwnStrip"))=some true
 k_OwnStrip_BadPart:PySem.W.kitOne K (.ref (ExcR.Vb mg "OwnStrip")) (.ref (ExcR.Vb mg "BadPart"))=some false
 k_OwnStrip_TooManyStrips:PySem.W.kitOne K (.ref (ExcR.Vb mg "OwnStrip")) (.ref (ExcR.Vb mg "TooManyStrips"))=some false
 k_OwnStrip_UnlikeHolders:PySem.W.kitOne K (.ref (ExcR.Vb mg "OwnStrip")) (.ref (ExcR.Vb mg "UnlikeHolders"))=some false
 k_OwnStrip_TooWide:PySem.W.kitOne K (.ref (ExcR.Vb mg "OwnStrip")) (.ref (ExcR.Vb mg "TooWide"))=some false
 k_OwnStrip_LikeHolders:PySem.W.kitOne K (.ref (ExcR.Vb mg "OwnStrip")) (.ref (ExcR.Vb mg "LikeHolders"))=some false
 k_OwnStrip_WishStands:PySem.W.kitOne K (.ref (ExcR.Vb mg "OwnStrip")) (.ref (ExcR.Vb mg "WishStands"))=some false
 k_OwnStrip_TooManyWishes:PySem.W.kitOne K (.ref (ExcR.Vb mg "OwnStrip")) (.ref (ExcR.Vb mg "TooManyWishes"))=some false
 k_OwnStrip_NoWish:PySem.W.kitOne K (.ref (ExcR.Vb mg "OwnStrip")) (.ref (ExcR.Vb mg "NoWish"))=some false
 k_OwnStrip_BookFull:PySem.W.kitOne K (.ref (ExcR.Vb mg "OwnStrip")) (.ref (ExcR.Vb mg "BookFull"))=some false
 k_BadPart_ValueError:PySem.W.kitOne K (.ref (ExcR.Vb mg "BadPart")) (.type "ValueError")=some true
 k_BadPart_NoStrip:PySem.W.kitOne K (.ref (ExcR.Vb mg "BadPart")) (.ref (ExcR.Vb mg "NoStrip"))=some false
 k_BadPart_BadHolder:PySem.W.kitOne K (.ref (ExcR.Vb mg "BadPart")) (.ref (ExcR.Vb mg "BadHolder"))=some false
 k_BadPart_OwnStrip:PySem.W.kitOne K (.ref (ExcR.Vb mg "BadPart")) (.ref (ExcR.Vb mg "OwnStrip"))=some false
 k_BadPart_BadPart:PySem.W.kitOne K (.ref (ExcR.Vb mg "BadPart")) (.ref (ExcR.Vb mg "BadPart"))=some true
 k_BadPart_TooManyStrips:PySem.W.kitOne K (.ref (ExcR.Vb mg "BadPart")) (.ref (ExcR.Vb mg "TooManyStrips"))=some false
 k_BadPart_UnlikeHolders:PySem.W.kitOne K (.ref (ExcR.Vb mg "BadPart")) (.ref (ExcR.Vb mg "UnlikeHolders"))=some false
 k_BadPart_TooWide:PySem.W.kitOne K (.ref (ExcR.Vb mg "BadPart")) (.ref (ExcR.Vb mg "TooWide"))=some false
 k_BadPart_LikeHolders:PySem.W.kitOne K (.ref (ExcR.Vb mg "BadPart")) (.ref (ExcR.Vb mg "LikeHolders"))=some false
 k_BadPart_WishStands:PySem.W.kitOne K (.ref (ExcR.Vb mg "BadPart")) (.ref (ExcR.Vb mg "WishStands"))=some false
 k_BadPart_TooManyWishes:PySem.W.kitOne K (.ref (ExcR.Vb mg "BadPart")) (.ref (ExcR.Vb mg "TooManyWishes"))=some false
 k_BadPart_NoWish:PySem.W.kitOne K (.ref (ExcR.Vb mg "BadPart")) (.ref (ExcR.Vb mg "NoWish"))=some false
 k_BadPart_BookFull:PySem.W.kitOne K (.ref (ExcR.Vb mg "BadPart")) (.ref (ExcR.Vb mg "BookFull"))=some false
 k_UnlikeHolders_ValueError:PySem.W.kitOne K (.ref (ExcR.Vb mg "UnlikeHolders")) (.type "ValueError")=some true
 k_UnlikeHolders_NoStrip:PySem.W.kitOne K (.ref (ExcR.Vb mg "UnlikeHolders")) (.ref (ExcR.Vb mg "NoStrip"))=some false
 k_UnlikeHolders_BadHolder:PySem.W.kitOne K (.ref (ExcR.Vb mg "UnlikeHolders")) (.ref (ExcR.Vb mg "BadHolder"))=some false
 k_UnlikeHolders_OwnStrip:PySem.W.kitOne K (.ref (ExcR.Vb mg "UnlikeHolders")) (.ref (ExcR.Vb mg "OwnStrip"))=some false
 k_UnlikeHolders_BadPart:PySem.W.kitOne K (.ref (ExcR.Vb mg "UnlikeHolders")) (.ref (ExcR.Vb mg "BadPart"))=some false
 k_UnlikeHolders_TooManyStrips:PySem.W.kitOne K (.ref (ExcR.Vb mg "UnlikeHolders")) (.ref (ExcR.Vb mg "TooManyStrips"))=some false
 k_UnlikeHolders_UnlikeHolders:PySem.W.kitOne K (.ref (ExcR.Vb mg "UnlikeHolders")) (.ref (ExcR.Vb mg "UnlikeHolders"))=some true
 k_UnlikeHolders_TooWide:PySem.W.kitOne K (.ref (ExcR.Vb mg "UnlikeHolders")) (.ref (ExcR.Vb mg "TooWide"))=some false
 k_UnlikeHolders_LikeHolders:PySem.W.kitOne K (.ref (ExcR.Vb mg "UnlikeHolders")) (.ref (ExcR.Vb mg "LikeHolders"))=some false
 k_UnlikeHolders_WishStands:PySem.W.kitOne K (.ref (ExcR.Vb mg "UnlikeHolders")) (.ref (ExcR.Vb mg "WishStands"))=some false
 k_UnlikeHolders_TooManyWishes:PySem.W.kitOne K (.ref (ExcR.Vb mg "UnlikeHolders")) (.ref (ExcR.Vb mg "TooManyWishes"))=some false
 k_UnlikeHolders_NoWish:PySem.W.kitOne K (.ref (ExcR.Vb mg "UnlikeHolders")) (.ref (ExcR.Vb mg "NoWish"))=some false
 k_UnlikeHolders_BookFull:PySem.W.kitOne K (.ref (ExcR.Vb mg "UnlikeHolders")) (.ref (ExcR.Vb mg "BookFull"))=some false
 k_TooWide_ValueError:PySem.W.kitOne K (.ref (ExcR.Vb mg "TooWide")) (.type "ValueError")=some true
 k_TooWide_NoStrip:PySem.W.kitOne K (.ref (ExcR.Vb mg "TooWide")) (.ref (ExcR.Vb mg "NoStrip"))=some false
 k_TooWide_BadHolder:PySem.W.kitOne K (.ref (ExcR.Vb mg "TooWide")) (.ref (ExcR.Vb mg "BadHolder"))=some false
 k_TooWide_OwnStrip:PySem.W.kitOne K (.ref (ExcR.Vb mg "TooWide")) (.ref (ExcR.Vb mg "OwnStrip"))=some false
 k_TooWide_BadPart:PySem.W.kitOne K (.ref (ExcR.Vb mg "TooWide")) (.ref (ExcR.Vb mg "BadPart"))=some false
 k_TooWide_TooManyStrips:PySem.W.kitOne K (.ref (ExcR.Vb mg "TooWide")) (.ref (ExcR.Vb mg "TooManyStrips"))=some false
 k_TooWide_UnlikeHolders:PySem.W.kitOne K (.ref (ExcR.Vb mg "TooWide")) (.ref (ExcR.Vb mg "UnlikeHolders"))=some false
 k_TooWide_TooWide:PySem.W.kitOne K (.ref (ExcR.Vb mg "TooWide")) (.ref (ExcR.Vb mg "TooWide"))=some true
 k_TooWide_LikeHolders:PySem.W.kitOne K (.ref (ExcR.Vb mg "TooWide")) (.ref (ExcR.Vb mg "LikeHolders"))=some false
 k_TooWide_WishStands:PySem.W.kitOne K (.ref (ExcR.Vb mg "TooWide")) (.ref (ExcR.Vb mg "WishStands"))=some false
 k_TooWide_TooManyWishes:PySem.W.kitOne K (.ref (ExcR.Vb mg "TooWide")) (.ref (ExcR.Vb mg "TooManyWishes"))=some false
 k_TooWide_NoWish:PySem.W.kitOne K (.ref (ExcR.Vb mg "TooWide")) (.ref (ExcR.Vb mg "NoWish"))=some false
 k_TooWide_BookFull:PySem.W.kitOne K (.ref (ExcR.Vb mg "TooWide")) (.ref (ExcR.Vb mg "BookFull"))=some false
 k_LikeHolders_ValueError:PySem.W.kitOne K (.ref (ExcR.Vb mg "LikeHolders")) (.type "ValueError")=some true
 k_LikeHolders_NoStrip:PySem.W.kitOne K (.ref (ExcR.Vb mg "LikeHolders")) (.ref (ExcR.Vb mg "NoStrip"))=some false
 k_LikeHolders_BadHolder:PySem.W.kitOne K (.ref (ExcR.Vb mg "LikeHolders")) (.ref (ExcR.Vb mg "BadHolder"))=some false
 k_LikeHolders_OwnStrip:PySem.W.kitOne K (.ref (ExcR.Vb mg "LikeHolders")) (.ref (ExcR.Vb mg "OwnStrip"))=some false
 k_LikeHolders_BadPart:PySem.W.kitOne K (.ref (ExcR.Vb mg "LikeHolders")) (.ref (ExcR.Vb mg "BadPart"))=some false
 k_LikeHolders_TooManyStrips:PySem.W.kitOne K (.ref (ExcR.Vb mg "LikeHolders")) (.ref (ExcR.Vb mg "TooManyStrips"))=some false
 k_LikeHolders_UnlikeHolders:PySem.W.kitOne K (.ref (ExcR.Vb mg "LikeHolders")) (.ref (ExcR.Vb mg "UnlikeHolders"))=some false
 k_LikeHolders_TooWide:PySem.W.kitOne K (.ref (ExcR.Vb mg "LikeHolders")) (.ref (ExcR.Vb mg "TooWide"))=some false
 k_LikeHolders_LikeHolders:PySem.W.kitOne K (.ref (ExcR.Vb mg "LikeHolders")) (.ref (ExcR.Vb mg "LikeHolders"))=some true
 k_LikeHolders_WishStands:PySem.W.kitOne K (.ref (ExcR.Vb mg "LikeHolders")) (.ref (ExcR.Vb mg "WishStands"))=some false
 k_LikeHolders_TooManyWishes:PySem.W.kitOne K (.ref (ExcR.Vb mg "LikeHolders")) (.ref (ExcR.Vb mg "TooManyWishes"))=some false
 k_LikeHolders_NoWish:PySem.W.kitOne K (.ref (ExcR.Vb mg "LikeHolders")) (.ref (ExcR.Vb mg "NoWish"))=some false
 k_LikeHolders_BookFull:PySem.W.kitOne K (.ref (ExcR.Vb mg "LikeHolders")) (.ref (ExcR.Vb mg "BookFull"))=some false
 k_WishStands_ValueError:PySem.W.kitOne K (.ref (ExcR.Vb mg "WishStands")) (.type "ValueError")=some true
 k_WishStands_NoStrip:PySem.W.kitOne K (.ref (ExcR.Vb mg "WishStands")) (.ref (ExcR.Vb mg "NoStrip"))=some false
 k_WishStands_BadHolder:PySem.W.kitOne K (.ref (ExcR.Vb mg "WishStands")) (.ref (ExcR.Vb mg "BadHolder"))=some false
 k_WishStands_OwnStrip:PySem.W.kitOne K (.ref (ExcR.Vb mg "WishStands")) (.ref (ExcR.Vb mg "OwnStrip"))=some false
 k_WishStands_BadPart:PySem.W.kitOne K (.ref (ExcR.Vb mg "WishStands")) (.ref (ExcR.Vb mg "BadPart"))=some false
 k_WishStands_TooManyStrips:PySem.W.kitOne K (.ref (ExcR.Vb mg "WishStands")) (.ref (ExcR.Vb mg "TooManyStrips"))=some false
 k_WishStands_UnlikeHolders:PySem.W.kitOne K (.ref (ExcR.Vb mg "WishStands")) (.ref (ExcR.Vb mg "UnlikeHolders"))=some false
 k_WishStands_TooWide:PySem.W.kitOne K (.ref (ExcR.Vb mg "WishStands")) (.ref (ExcR.Vb mg "TooWide"))=some false
 k_WishStands_LikeHolders:PySem.W.kitOne K (.ref (ExcR.Vb mg "WishStands")) (.ref (ExcR.Vb mg "LikeHolders"))=some false
 k_WishStands_WishStands:PySem.W.kitOne K (.ref (ExcR.Vb mg "WishStands")) (.ref (ExcR.Vb mg "WishStands"))=some true
 k_WishStands_TooManyWishes:PySem.W.kitOne K (.ref (ExcR.Vb mg "WishStands")) (.ref (ExcR.Vb mg "TooManyWishes"))=some false
 k_WishStands_NoWish:PySem.W.kitOne K (.ref (ExcR.Vb mg "WishStands")) (.ref (ExcR.Vb mg "NoWish"))=some false
 k_WishStands_BookFull:PySem.W.kitOne K (.ref (ExcR.Vb mg "WishStands")) (.ref (ExcR.Vb mg "BookFull"))=some false
 k_TooManyWishes_ValueError:PySem.W.kitOne K (.ref (ExcR.Vb mg "TooManyWishes")) (.type "ValueError")=some true
 k_TooManyWishes_NoStrip:PySem.W.kitOne K (.ref (ExcR.Vb mg "TooManyWishes")) (.ref (ExcR.Vb mg "NoStrip"))=some false
 k_TooManyWishes_BadHolder:PySem.W.kitOne K (.ref (ExcR.Vb mg "TooManyWishes")) (.ref (ExcR.Vb mg "BadHolder"))=some false
 k_TooManyWishes_OwnStrip:PySem.W.kitOne K (.ref (ExcR.Vb mg "TooManyWishes")) (.ref (ExcR.Vb mg "OwnStrip"))=some false
 k_TooManyWishes_BadPart:PySem.W.kitOne K (.ref (ExcR.Vb mg "TooManyWishes")) (.ref (ExcR.Vb mg "BadPart"))=some false
 k_TooManyWishes_TooManyStrips:PySem.W.kitOne K (.ref (ExcR.Vb mg "TooManyWishes")) (.ref (ExcR.Vb mg "TooManyStrips"))=some false
 k_TooManyWishes_UnlikeHolders:PySem.W.kitOne K (.ref (ExcR.Vb mg "TooManyWishes")) (.ref (ExcR.Vb mg "UnlikeHolders"))=some false
 k_TooManyWishes_TooWide:PySem.W.kitOne K (.ref (ExcR.Vb mg "TooManyWishes")) (.ref (ExcR.Vb mg "TooWide"))=some false
 k_TooManyWishes_LikeHolders:PySem.W.kitOne K (.ref (ExcR.Vb mg "TooManyWishes")) (.ref (ExcR.Vb mg "LikeHolders"))=some false
 k_TooManyWishes_WishStands:PySem.W.kitOne K (.ref (ExcR.Vb mg "TooManyWishes")) (.ref (ExcR.Vb mg "WishStands"))=some false
 k_TooManyWishes_TooManyWishes:PySem.W.kitOne K (.ref (ExcR.Vb mg "TooManyWishes")) (.ref (ExcR.Vb mg "TooManyWishes"))=some true
 k_TooManyWishes_NoWish:PySem.W.kitOne K (.ref (ExcR.Vb mg "TooManyWishes")) (.ref (ExcR.Vb mg "NoWish"))=some false
 k_TooManyWishes_BookFull:PySem.W.kitOne K (.ref (ExcR.Vb mg "TooManyWishes")) (.ref (ExcR.Vb mg "BookFull"))=some false
 k_NoWish_ValueError:PySem.W.kitOne K (.ref (ExcR.Vb mg "NoWish")) (.type "ValueError")=some true
 k_NoWish_NoStrip:PySem.W.kitOne K (.ref (ExcR.Vb mg "NoWish")) (.ref (ExcR.Vb mg "NoStrip"))=some false
 k_NoWish_BadHolder:PySem.W.kitOne K (.ref (ExcR.Vb mg "NoWish")) (.ref (ExcR.Vb mg "BadHolder"))=some false
 k_NoWish_OwnStrip:PySem.W.kitOne K (.ref (ExcR.Vb mg "NoWish")) (.ref (ExcR.Vb mg "OwnStrip"))=some false
 k_NoWish_BadPart:PySem.W.kitOne K (.ref (ExcR.Vb mg "NoWish")) (.ref (ExcR.Vb mg "BadPart"))=some false
 k_NoWish_TooManyStrips:PySem.W.kitOne K (.ref (ExcR.Vb mg "NoWish")) (.ref (ExcR.Vb mg "TooManyStrips"))=some false
 k_NoWish_UnlikeHolders:PySem.W.kitOne K (.ref (ExcR.Vb mg "NoWish")) (.ref (ExcR.Vb mg "UnlikeHolders"))=some false
 k_NoWish_TooWide:PySem.W.kitOne K (.ref (ExcR.Vb mg "NoWish")) (.ref (ExcR.Vb mg "TooWide"))=some false
 k_NoWish_LikeHolders:PySem.W.kitOne K (.ref (ExcR.Vb mg "NoWish")) (.ref (ExcR.Vb mg "LikeHolders"))=some false
 k_NoWish_WishStands:PySem.W.kitOne K (.ref (ExcR.Vb mg "NoWish")) (.ref (ExcR.Vb mg "WishStands"))=some false
 k_NoWish_TooManyWishes:PySem.W.kitOne K (.ref (ExcR.Vb mg "NoWish")) (.ref (ExcR.Vb mg "TooManyWishes"))=some false
 k_NoWish_NoWish:PySem.W.kitOne K (.ref (ExcR.Vb mg "NoWish")) (.ref (ExcR.Vb mg "NoWish"))=some true
 k_NoWish_BookFull:PySem.W.kitOne K (.ref (ExcR.Vb mg "NoWish")) (.ref (ExcR.Vb mg "BookFull"))=some false
 k_NothingDone_ValueError:PySem.W.kitOne K (.ref (ExcR.Vb mg "NothingDone")) (.type "ValueError")=some true
 k_NothingDone_MeldError:PySem.W.kitOne K (.ref (ExcR.Vb mg "NothingDone")) (.ref (ExcR.Vb mg "MeldError"))=some true
 k_NoSuchDeed_ValueError:PySem.W.kitOne K (.ref (ExcR.Vb mg "NoSuchDeed")) (.type "ValueError")=some true
 k_NoSuchDeed_MeldError:PySem.W.kitOne K (.ref (ExcR.Vb mg "NoSuchDeed")) (.ref (ExcR.Vb mg "MeldError"))=some true
 m_Village:mg "Village"=some (.ref (ExcR.Vb mg "Village"))
 cl_Village:Cls K (ExcR.Vb mg "Village")
 n_Village_book:NoAttr K (ExcR.Vb mg "Village") "book"
 n_Village_fields:NoAttr K (ExcR.Vb mg "Village") "fields"
 n_Village_wished:NoAttr K (ExcR.Vb mg "Village") "wished"
def UT:Pu.Xh "book" ["book","fields","wished"] 0:=fun vs h=>by obtain⟨a0,a1,a2,rfl⟩:=Pu.len3 h.symm;simp only[ZW,Yc,List.lookup,(show(("book" : Str) == "book")=true by decide +kernel)];rfl
def FY:Pu.XY "book" []:=fun vs y h=>by obtain⟨_,rfl⟩:=Pu.len0 h.symm;simp only[ZW,Yc,putF];rfl
def Ka:Pu.Xh "fields" ["book","fields","wished"] 1:=fun vs h=>by obtain⟨a0,a1,a2,rfl⟩:=Pu.len3 h.symm;simp only[ZW,Yc,List.lookup,(show(("fields" : Str) == "book")=false by decide +kernel),(show(("fields" : Str) == "fields")=true by decide +kernel)];rfl
def CM:Pu.XY "fields" ["book"]:=fun vs y h=>by obtain⟨a0,rfl⟩:=Pu.len1 h.symm;simp only[ZW,Yc,putF,ZU (show ¬(("book" : Str) = "fields") by decide +kernel)];rfl
def K6:Pu.Xh "wished" ["book","fields","wished"] 2:=fun vs h=>by obtain⟨a0,a1,a2,rfl⟩:=Pu.len3 h.symm;simp only[ZW,Yc,List.lookup,(show(("wished" : Str) == "book")=false by decide +kernel),(show(("wished" : Str) == "fields")=false by decide +kernel),(show(("wished" : Str) == "wished")=true by decide +kernel)];rfl
def AD:Pu.XY "wished" ["book","fields"]:=fun vs y h=>by obtain⟨a0,a1,rfl⟩:=Pu.len2 h.symm;simp only[ZW,Yc,putF,ZU (show ¬(("book" : Str) = "wished") by decide +kernel),ZU (show ¬(("fields" : Str) = "wished") by decide +kernel)];rfl
def Xi:Pu.Ji "strips" ["book","fields","wished"]:=fun vs=>match vs with|[]=>rfl|[a0]=>by simp only[ZW,Yc,List.lookup,(show(("strips" : Str) == "book")=false by decide +kernel),(show(("strips" : Str) == "fields")=false by decide +kernel),(show(("strips" : Str) == "wished")=false by decide +kernel)]|[a0,a1]=>by simp only[ZW,Yc,List.lookup,(show(("strips" : Str) == "book")=false by decide +kernel),(show(("strips" : Str) == "fields")=false by decide +kernel),(show(("strips" : Str) == "wished")=false by decide +kernel)]|a0::a1::a2::_=>by simp only[ZW,Y5,List.lookup,(show(("strips" : Str) == "book")=false by decide +kernel),(show(("strips" : Str) == "fields")=false by decide +kernel),(show(("strips" : Str) == "wished")=false by decide +kernel)]
def Xf:Pu.Ji "wishes" ["book","fields","wished"]:=fun vs=>match vs with|[]=>rfl|[a0]=>by simp only[ZW,Yc,List.lookup,(show(("wishes" : Str) == "book")=false by decide +kernel),(show(("wishes" : Str) == "fields")=false by decide +kernel),(show(("wishes" : Str) == "wished")=false by decide +kernel)]|[a0,a1]=>by simp only[ZW,Yc,List.lookup,(show(("wishes" : Str) == "book")=false by decide +kernel),(show(("wishes" : Str) == "fields")=false by decide +kernel),(show(("wishes" : Str) == "wished")=false by decide +kernel)]|a0::a1::a2::_=>by simp only[ZW,Y5,List.lookup,(show(("wishes" : Str) == "book")=false by decide +kernel),(show(("wishes" : Str) == "fields")=false by decide +kernel),(show(("wishes" : Str) == "wished")=false by decide +kernel)]
def EN:Pu.Ji "deeds" ["book","fields","wished"]:=fun vs=>match vs with|[]=>rfl|[a0]=>by simp only[ZW,Yc,List.lookup,(show(("deeds" : Str) == "book")=false by decide +kernel),(show(("deeds" : Str) == "fields")=false by decide +kernel),(show(("deeds" : Str) == "wished")=false by decide +kernel)]|[a0,a1]=>by simp only[ZW,Yc,List.lookup,(show(("deeds" : Str) == "book")=false by decide +kernel),(show(("deeds" : Str) == "fields")=false by decide +kernel),(show(("deeds" : Str) == "wished")=false by decide +kernel)]|a0::a1::a2::_=>by simp only[ZW,Y5,List.lookup,(show(("deeds" : Str) == "book")=false by decide +kernel),(show(("deeds" : Str) == "fields")=false by decide +kernel),(show(("deeds" : Str) == "wished")=false by decide +kernel)]
def XH:Pu.Ji "check_room" ["book","fields","wished"]:=fun vs=>match vs with|[]=>rfl|[a0]=>by simp only[ZW,Yc,List.lookup,(show(("check_room" : Str) == "book")=false by decide +kernel),(show(("check_room" : Str) == "fields")=false by decide +kernel),(show(("check_room" : Str) == "wished")=false by decide +kernel)]|[a0,a1]=>by simp only[ZW,Yc,List.lookup,(show(("check_room" : Str) == "book")=false by decide +kernel),(show(("check_room" : Str) == "fields")=false by decide +kernel),(show(("check_room" : Str) == "wished")=false by decide +kernel)]|a0::a1::a2::_=>by simp only[ZW,Y5,List.lookup,(show(("check_room" : Str) == "book")=false by decide +kernel),(show(("check_room" : Str) == "fields")=false by decide +kernel),(show(("check_room" : Str) == "wished")=false by decide +kernel)]
def XS:Pu.Ji "enter" ["book","fields","wished"]:=fun vs=>match vs with|[]=>rfl|[a0]=>by simp only[ZW,Yc,List.lookup,(show(("enter" : Str) == "book")=false by decide +kernel),(show(("enter" : Str) == "fields")=false by decide +kernel),(show(("enter" : Str) == "wished")=false by decide +kernel)]|[a0,a1]=>by simp only[ZW,Yc,List.lookup,(show(("enter" : Str) == "book")=false by decide +kernel),(show(("enter" : Str) == "fields")=false by decide +kernel),(show(("enter" : Str) == "wished")=false by decide +kernel)]|a0::a1::a2::_=>by simp only[ZW,Y5,List.lookup,(show(("enter" : Str) == "book")=false by decide +kernel),(show(("enter" : Str) == "fields")=false by decide +kernel),(show(("enter" : Str) == "wished")=false by decide +kernel)]
def FQ:Pu.Ji "sell" ["book","fields","wished"]:=fun vs=>match vs with|[]=>rfl|[a0]=>by simp only[ZW,Yc,List.lookup,(show(("sell" : Str) == "book")=false by decide +kernel),(show(("sell" : Str) == "fields")=false by decide +kernel),(show(("sell" : Str) == "wished")=false by decide +kernel)]|[a0,a1]=>by simp only[ZW,Yc,List.lookup,(show(("sell" : Str) == "book")=false by decide +kernel),(show(("sell" : Str) == "fields")=false by decide +kernel),(show(("sell" : Str) == "wished")=false by decide +kernel)]|a0::a1::a2::_=>by simp only[ZW,Y5,List.lookup,(show(("sell" : Str) == "book")=false by decide +kernel),(show(("sell" : Str) == "fields")=false by decide +kernel),(show(("sell" : Str) == "wished")=false by decide +kernel)]
def DU:Pu.Ji "part" ["book","fields","wished"]:=fun vs=>match vs with|[]=>rfl|[a0]=>by simp only[ZW,Yc,List.lookup,(show(("part" : Str) == "book")=false by decide +kernel),(show(("part" : Str) == "fields")=false by decide +kernel),(show(("part" : Str) == "wished")=false by decide +kernel)]|[a0,a1]=>by simp only[ZW,Yc,List.lookup,(show(("part" : Str) == "book")=false by decide +kernel),(show(("part" : Str) == "fields")=false by decide +kernel),(show(("part" : Str) == "wished")=false by decide +kernel)]|a0::a1::a2::_=>by simp only[ZW,Y5,List.lookup,(show(("part" : Str) == "book")=false by decide +kernel),(show(("part" : Str) == "fields")=false by decide +kernel),(show(("part" : Str) == "wished")=false by decide +kernel)]
def FO:Pu.Ji "unite" ["book","fields","wished"]:=fun vs=>match vs with|[]=>rfl|[a0]=>by simp only[ZW,Yc,List.lookup,(show(("unite" : Str) == "book")=false by decide +kernel),(show(("unite" : Str) == "fields")=false by decide +kernel),(show(("unite" : Str) == "wished")=false by decide +kernel)]|[a0,a1]=>by simp only[ZW,Yc,List.lookup,(show(("unite" : Str) == "book")=false by decide +kernel),(show(("unite" : Str) == "fields")=false by decide +kernel),(show(("unite" : Str) == "wished")=false by decide +kernel)]|a0::a1::a2::_=>by simp only[ZW,Y5,List.lookup,(show(("unite" : Str) == "book")=false by decide +kernel),(show(("unite" : Str) == "fields")=false by decide +kernel),(show(("unite" : Str) == "wished")=false by decide +kernel)]
def CZ:Pu.Ji "wish" ["book","fields","wished"]:=fun vs=>match vs with|[]=>rfl|[a0]=>by simp only[ZW,Yc,List.lookup,(show(("wish" : Str) == "book")=false by decide +kernel),(show(("wish" : Str) == "fields")=false by decide +kernel),(show(("wish" : Str) == "wished")=false by decide +kernel)]|[a0,a1]=>by simp only[ZW,Yc,List.lookup,(show(("wish" : Str) == "book")=false by decide +kernel),(show(("wish" : Str) == "fields")=false by decide +kernel),(show(("wish" : Str) == "wished")=false by decide +kernel)]|a0::a1::a2::_=>by simp only[ZW,Y5,List.lookup,(show(("wish" : Str) == "book")=false by decide +kernel),(show(("wish" : Str) == "fields")=false by decide +kernel),(show(("wish" : Str) == "wished")=false by decide +kernel)]
def AU:Pu.Ji "drop" ["book","fields","wished"]:=fun vs=>match vs with|[]=>rfl|[a0]=>by simp only[ZW,Yc,List.lookup,(show(("drop" : Str) == "book")=false by decide +kernel),(show(("drop" : Str) == "fields")=false by decide +kernel),(show(("drop" : Str) == "wished")=false by decide +kernel)]|[a0,a1]=>by simp only[ZW,Yc,List.lookup,(show(("drop" : Str) == "book")=false by decide +kernel),(show(("drop" : Str) == "fields")=false by decide +kernel),(show(("drop" : Str) == "wished")=false by decide +kernel)]|a0::a1::a2::_=>by simp only[ZW,Y5,List.lookup,(show(("drop" : Str) == "book")=false by decide +kernel),(show(("drop" : Str) == "fields")=false by decide +kernel),(show(("drop" : Str) == "wished")=false by decide +kernel)]
def D7:Pu.Ji "take_back" ["book","fields","wished"]:=fun vs=>match vs with|[]=>rfl|[a0]=>by simp only[ZW,Yc,List.lookup,(show(("take_back" : Str) == "book")=false by decide +kernel),(show(("take_back" : Str) == "fields")=false by decide +kernel),(show(("take_back" : Str) == "wished")=false by decide +kernel)]|[a0,a1]=>by simp only[ZW,Yc,List.lookup,(show(("take_back" : Str) == "book")=false by decide +kernel),(show(("take_back" : Str) == "fields")=false by decide +kernel),(show(("take_back" : Str) == "wished")=false by decide +kernel)]|a0::a1::a2::_=>by simp only[ZW,Y5,List.lookup,(show(("take_back" : Str) == "book")=false by decide +kernel),(show(("take_back" : Str) == "fields")=false by decide +kernel),(show(("take_back" : Str) == "wished")=false by decide +kernel)]
def BO:Pu.Ji "stood" ["book","fields","wished"]:=fun vs=>match vs with|[]=>rfl|[a0]=>by simp only[ZW,Yc,List.lookup,(show(("stood" : Str) == "book")=false by decide +kernel),(show(("stood" : Str) == "fields")=false by decide +kernel),(show(("stood" : Str) == "wished")=false by decide +kernel)]|[a0,a1]=>by simp only[ZW,Yc,List.lookup,(show(("stood" : Str) == "book")=false by decide +kernel),(show(("stood" : Str) == "fields")=false by decide +kernel),(show(("stood" : Str) == "wished")=false by decide +kernel)]|a0::a1::a2::_=>by simp only[ZW,Y5,List.lookup,(show(("stood" : Str) == "book")=false by decide +kernel),(show(("stood" : Str) == "fields")=false by decide +kernel),(show(("stood" : Str) == "wished")=false by decide +kernel)]
end T
namespace M
open PySem PySem.Spec PyProof.Rows L2 Own Pu
def FT:Pc:=fun ds R X=>∃h:Int,ds=[.int h]/\VX (UW h) X (R (.sh .non))
def Pm (h:Int):Option Str:=if 1<=h/\h<=1000 then none else some "BadWidth"
def AM:Pc:=fun ds R X=>∃h:Int,ds=[.int h]/\VX (Pm h) X (R (.sh .non))
def DT:Pc:=fun ds R X=>∃(ps:List (Int×Int)) (p:Int),ds=[.lst (ps.map prD),.int p]/\(if p<1\/(ps.length:Int)<=p then X "NoStrip" else R (.sh .non))
def Dh:Pc:=fun ds R X=>∃(ps:List (Int×Int)) (p:Int),ds=[plD ps,.int p]/\VX (Kf ps p) X (R (.sh .non))
def EM:Pc:=fun ds R X=>∃(ws:List (Int×Int)) (a b:Int),ds=[plD ws,.int a,.int b]/\ws.length<=1000/\VX (VY ws a b) X (R (.own ((UZ ws a b).map prD)))
def Hh (C:Addr):Pc:=fun ds R _=>∃(bk:List (Str×List Int)) (fs ws:List (List (Int×Int))) (f:List (Int×Int)),ds=[vilD C bk (fs++[f]) ws]/\R (.own (f.map prD))
def GC (C:Addr):Pc:=fun ds R _=>∃(bk:List (Str×List Int)) (fs ws:List (List (Int×Int))) (f:List (Int×Int)),ds=[vilD C bk fs (ws++[f])]/\R (.own (f.map prD))
def Ez (C:Addr):Pc:=fun ds R _=>∃(bk:List (Str×List Int)) (fs ws:List (List (Int×Int))),ds=[vilD C bk fs ws]/\R (.own (bk.map dD))
def UN (bk:List (Str×List Int)):Option Str:=if 100<=bk.length then some "BookFull" else none
def DK (C:Addr):Pc:=fun ds R X=>∃(bk:List (Str×List Int)) (fs ws:List (List (Int×Int))),ds=[vilD C bk fs ws]/\VX (UN bk) X (R (.sh .non))
def GN (C:Addr):Pw:=fun o ss R _=>∃(x b1 b2 b3:Addr) (bk:List (Str×List Int)) (fs ws:List (List (Int×Int))) (q:Str×List Int) (f w:List (Int×Int)),o=vO C x b1 b2 b3 bk fs ws/\ss=[.sh (dD q),.sh (plD f),.sh (plD w)]/\bk.length<=1000/\fs.length<=1000/\ws.length<=1000/\
 R (vO C x b1 b2 b3 (bk++[q]) (fs++[f]) (ws++[w])) (.int (bk.length+1))
def Az (C:Addr):Pw:=fun o ss R X=>∃(x b1 b2 b3:Addr) (bk:List (Str×List Int)) (fs ws:List (List (Int×Int))),o=vO C x b1 b2 b3 bk fs ws/\ss=[]/\fs.length=bk.length+1/\ws.length=bk.length+1/\
 (bk=[]->X (vO C x b1 b2 b3 bk fs ws) "NothingDone")/\∀b0 q,bk=b0++[q]->R (vO C x b1 b2 b3 b0 fs.dropLast ws.dropLast) (dD q)
def FS (C:Addr):Pc:=fun ds R X=>∃(bk:List (Str×List Int)) (fs ws:List (List (Int×Int))) (k:Int),ds=[vilD C bk fs ws,.int k]/\fs.length=bk.length+1/\ws.length=bk.length+1/\(k<0\/(bk.length:Int)<k->X "NoSuchDeed")/\
 ∀(f w:List (Int×Int)) (i:Nat) (x y:Addr),k=i->fs[i]?=some f->ws[i]?=some w->R (.own (.nst [(x,f.map prD),(y,w.map prD)]))
def Cv:Pc:=fun ds R _=>∃(ns:List Int) (k:Int),ds=[.scr ns,.int k]/\0<=k/\R (.sh (.int (ns.getD k.toNat 0)))
def Ho:Pc:=fun ds R _=>∃i:Int,ds=[.int i]/\R (.sh (.bl true))
def F7:Pc:=fun ds R _=>∃c p:Int,ds=[.int c,.int p]/\R (.sh (.int (mixP c p)))
def DE:Pc:=fun ds R _=>∃c:Int,ds=[.int c]/\∀m,Menu m->R (.own (m.map D.int))
def Ai:Pc:=fun ds R _=>∃(m:List Int) (k:Int),ds=[.lst (m.map D.int),.int k]/\Menu m/\∀h:Int,1<=h->h<=10->h=EG m k->R (.sh (.int h))
def F8:Pq:=fun ss R _=>∃(f:List (Int×Int)) (x:Dd),ss=[.sh (plD f),.sh (dD x.q)]/\x.land=true/\f.length<=40/\R (.own [.int (codeN (x.err f [])),plD (x.fld' f)])
def CW:Pq:=fun ss R _=>∃(w:List (Int×Int)) (x:Dd),ss=[.sh (plD w),.sh (dD x.q)]/\x.land=false/\w.length<=20/\R (.own [.int (codeN (x.err [] w)),plD (x.wsh' w)])
def D4:Pc:=fun ds R _=>∃c g:Int,ds=[.int c,.int g]/\∀v:Int,R (.sh (.int v))
def Cu:Pc:=fun ds R _=>∃(c:Int) (ps:List (Int×Int)),ds=[.int c,plD ps]/\ps.length<=1000/\∀v:Int,R (.sh (.int v))
def Gh:Pc:=fun ds R _=>∃(c:Int) (ps:List (Int×Int)) (p:Int),ds=[.int c,plD ps,.int p]/\ps.length<=1000/\Field ps/\∀v:Int,R (.sh (.int v))
def AA:Pc:=fun ds R X=>∃ps:List (Int×Int),ds=[plD ps]/\ps.length<=1000/\VX (Xb ps) X (R (.sh .non))
def GE:Pc:=fun ds R X=>∃(ps:List (Int×Int)) (p h:Int),ds=[plD ps,.int p,.int h]/\ps.length<=1000/\VX (VZ ps p h) X (R (.own (Ue ps p h |>.map prD)))
def FM:Pc:=fun ds R X=>∃(ps:List (Int×Int)) (p w:Int),ds=[plD ps,.int p,.int w]/\ps.length<=1000/\VX (VW ps p w) X (R (.own ((JH ps p w).map prD)))
def FW:Pc:=fun ds R X=>∃(ps:List (Int×Int)) (p:Int),ds=[plD ps,.int p]/\ps.length<=1000/\VX (uniE ps p) X (R (.own ((uniL ps p).map prD)))
def Hj:Pc:=fun ds R X=>∃(ws:List (Int×Int)) (a b:Int),ds=[plD ws,.int a,.int b]/\ws.length<=1000/\VX (VP ws a b) X (R (.own ((ws++[(a,b)]).map prD)))
def Kb (bk:List (Str×List Int)) (w:List (Int×Int)) (a b:Int):Option Str:=if 100<=bk.length then some "BookFull" else VY w a b
def EE (C:Addr):Pw:=fun o ss R X=>∃(x b1 b2 b3:Addr) (bk:List (Str×List Int)) (fs ws:List (List (Int×Int))) (f w:List (Int×Int)) (p h:Int),o=vO C x b1 b2 b3 bk (fs++[f]) (ws++[w])/\ss=[.sh (.int p),.sh (.int h)]/\bk.length<=1000/\fs.length<=900/\ws.length<=900/\w.length<=1000/\
 VX (Kb bk w p h) (X (vO C x b1 b2 b3 bk (fs++[f]) (ws++[w]))) (R (vO C x b1 b2 b3 (bk++[(("drop" : Str),[p,h])]) (fs++[f]++[f]) (ws++[w]++[UZ w p h])) (.int (bk.length+1)))
def DQ:Pc:=fun ds R _=>∃(ns:List Int) (k:Int),ds=[.scr ns,.int k]/\0<=k/\∀v:Int,R (.sh (.int v))
def El:Pc:=fun ds R _=>∃ps:List (Int×Int),ds=[.lst (ps.map prD),.lst (ps.map prD)]/\ps.length<=1000000/\R (.sh (.bl true))
def HI:Pc:=fun ds R _=>∃q:Str×List Int,ds=[dD q,dD q]/\q.2.length<=100/\R (.sh (.bl true))
def AX:Pq:=fun ss R _=>∃(f w:List (Int×Int)) (ds:List D) (x:Dd),ss=[.sh (.tup (plD f::plD w::ds)),.sh (dD x.q)]/\f.length<=40/\w.length<=20/\R (.own [.int (codeN (x.err f w)),plD (x.nf f w),plD (x.nw f w)])
def Ej:Pc:=fun ds R _=>∃(n c:Int),ds=[.tup [.int (if c=0 then n else -1),.lst ((Uv c).map D.bl)],.int c,.int n]/\R (.sh (.bl true))
def Ae:Pc:=fun ds R _=>∃(ns m:List Int) (n:Int),ds=[.scr ns,.lst (m.map D.int),.int n]/\Menu m/\0<=n/\n<=1000/\∀ps:List (Int×Int),Field ps->ps.length=n.toNat->R (.own (ps.map prD))
def Cb:Pc:=fun ds R _=>∃(ns:List Int) (n:Int),ds=[.scr ns,.int n]/\0<=n/\n<=1000/\∀cs:List Int,(cs.length:Int)<=n->R (.own (cs.map D.int))
def DB:Pc:=fun ds R _=>∃(c:Int) (m:List Int),ds=[.int c,.lst (m.map D.int)]/\Menu m/\∀a b:Int,R (.sh (prD (a,b)))
def Et (C:Addr):Pc:=fun ds R _=>∃(bk:List (Str×List Int)) (fs ws:List (List (Int×Int))) (k:Int),ds=[vilD C bk fs ws,.int k]/\fs.length=bk.length+1/\ws.length=bk.length+1/\(k<0\/(bk.length:Int)<k)/\R (.sh (.bl true))
def Cn (C:Addr):Pw:=fun o ss R X=>∃(x:Addr) (ps:List (Int×Int)),o=.ins x C [] []/\ss=[.sh (plD ps)]/\ps.length<=1000/\VX (Xb ps) (X (.ins x C [] [])) (∀b1 b2 b3,R (vO C x b1 b2 b3 [] [ps] [[]]) .non)
def KE (bk:List (Str×List Int)) (f:List (Int×Int)) (p h:Int):Option Str:=if 100<=bk.length then some "BookFull" else VZ f p h
def DV (C:Addr):Pw:=fun o ss R X=>∃(x b1 b2 b3:Addr) (bk:List (Str×List Int)) (fs ws:List (List (Int×Int))) (f w:List (Int×Int)) (p h:Int),o=vO C x b1 b2 b3 bk (fs++[f]) (ws++[w])/\ss=[.sh (.int p),.sh (.int h)]/\bk.length<=1000/\fs.length<=900/\ws.length<=900/\f.length<=1000/\
 VX (KE bk f p h) (X (vO C x b1 b2 b3 bk (fs++[f]) (ws++[w]))) (R (vO C x b1 b2 b3 (bk++[(("sell" : Str),[p,h])]) (fs++[f]++[Ue f p h]) (ws++[w]++[w])) (.int (bk.length+1)))
def Km (bk:List (Str×List Int)) (f:List (Int×Int)) (p h:Int):Option Str:=if 100<=bk.length then some "BookFull" else VW f p h
def CO (C:Addr):Pw:=fun o ss R X=>∃(x b1 b2 b3:Addr) (bk:List (Str×List Int)) (fs ws:List (List (Int×Int))) (f w:List (Int×Int)) (p h:Int),o=vO C x b1 b2 b3 bk (fs++[f]) (ws++[w])/\ss=[.sh (.int p),.sh (.int h)]/\bk.length<=1000/\fs.length<=900/\ws.length<=900/\f.length<=1000/\
 VX (Km bk f p h) (X (vO C x b1 b2 b3 bk (fs++[f]) (ws++[w]))) (R (vO C x b1 b2 b3 (bk++[(("part" : Str),[p,h])]) (fs++[f]++[JH f p h]) (ws++[w]++[w])) (.int (bk.length+1)))
def K8 (bk:List (Str×List Int)) (f:List (Int×Int)) (p:Int):Option Str:=if 100<=bk.length then some "BookFull" else uniE f p
def AE (C:Addr):Pw:=fun o ss R X=>∃(x b1 b2 b3:Addr) (bk:List (Str×List Int)) (fs ws:List (List (Int×Int))) (f w:List (Int×Int)) (p:Int),o=vO C x b1 b2 b3 bk (fs++[f]) (ws++[w])/\ss=[.sh (.int p)]/\bk.length<=1000/\fs.length<=900/\ws.length<=900/\f.length<=1000/\
 VX (K8 bk f p) (X (vO C x b1 b2 b3 bk (fs++[f]) (ws++[w]))) (R (vO C x b1 b2 b3 (bk++[(("unite" : Str),[p])]) (fs++[f]++[uniL f p]) (ws++[w]++[w])) (.int (bk.length+1)))
def Kx (bk:List (Str×List Int)) (w:List (Int×Int)) (a b:Int):Option Str:=if 100<=bk.length then some "BookFull" else VP w a b
def A8 (C:Addr):Pw:=fun o ss R X=>∃(x b1 b2 b3:Addr) (bk:List (Str×List Int)) (fs ws:List (List (Int×Int))) (f w:List (Int×Int)) (p h:Int),o=vO C x b1 b2 b3 bk (fs++[f]) (ws++[w])/\ss=[.sh (.int p),.sh (.int h)]/\bk.length<=1000/\fs.length<=900/\ws.length<=900/\w.length<=1000/\
 VX (Kx bk w p h) (X (vO C x b1 b2 b3 bk (fs++[f]) (ws++[w]))) (R (vO C x b1 b2 b3 (bk++[(("wish" : Str),[p,h])]) (fs++[f]++[f]) (ws++[w]++[w++[(p,h)]])) (.int (bk.length+1)))
def EZ:Pc:=fun ds R _=>∃bk:List (Str×List Int),ds=[.lst (bk.map dD),.lst (bk.map dD)]/\(∀q∈bk,q.2.length<=100)/\bk.length<=1000/\R (.sh (.bl true))
def FZ (C:Addr):Pw2:=fun o1 o2 ss R _=>∃(x b1 b2 b3 a:Addr) (f0:List (Int×Int)) (hs:Hist),o1=vO C x b1 b2 b3 (bkH hs) (fsH f0 hs) (wsH hs)/\o2=.lsA a (V4 f0 hs)/\ss=[]/\hs.length<=200/\R (vO C x b1 b2 b3 (bkH hs.dropLast) (fsH f0 hs.dropLast) (wsH hs.dropLast)) (.lsA a (V4 f0 hs.dropLast)) (.bl true)
def Dj:Pc:=fun ds R _=>∃(ns m:List Int),ds=[.scr ns,.lst (m.map D.int)]/\Menu m/\∀qs:List (Int×Int),qs.length<=24->R (.own (qs.map fun q=>dD (Dd.wish q.1 q.2).q))
def Gw:Pc:=fun ds R _=>∃(c:Int) (m:List Int) (f w:List (Int×Int)) (es:List D),ds=[.int c,.lst (m.map D.int),.tup (plD f::plD w::es)]/\Menu m/\f.length<=1000/\Field f/\w.length<=1000/\(∀x:Dd,R (.sh (dD x.q)))/\R (.sh (.tup [.str "back"]))
def CP (C:Addr):Pc:=fun ds R _=>∃(f0:List (Int×Int)) (hs:Hist),ds=[vilD C (bkH hs) (fsH f0 hs) (wsH hs),.lst (V4 f0 hs)]/\hs.length<=200/\(∀g∈fsH f0 hs,g.length<=1000)/\(∀g∈wsH hs,g.length<=1000)/\R (.sh (.bl true))
def By (bk:List (Str×List Int)) (f w:List (Int×Int)) (d:Dd):Option Str:=if 100<=bk.length then some "BookFull" else d.err f w
def Gd (C:Addr):Pw:=fun o ss R X=>∃(x b1 b2 b3:Addr) (bk:List (Str×List Int)) (fs ws:List (List (Int×Int))) (f w:List (Int×Int)) (d:Dd),o=vO C x b1 b2 b3 bk (fs++[f]) (ws++[w])/\ss=[.sh (dD d.q)]/\bk.length<=1000/\fs.length<=900/\ws.length<=900/\f.length<=1000/\w.length<=1000/\
 VX (By bk f w d) (X (vO C x b1 b2 b3 bk (fs++[f]) (ws++[w]))) (R (vO C x b1 b2 b3 (bk++[d.q]) (fs++[f]++[d.fld f]) (ws++[w]++[d.wsh w])) (.int (bk.length+1)))
def Cf (C:Addr):Pc:=fun ds R _=>∃(f0:List (Int×Int)) (hs:List (Dd×List (Int×Int)×List (Int×Int))),ds=[vilD C (bkH hs) (fsH f0 hs) (wsH hs),.lst (V4 f0 hs)]/\hs.length<=200/\(∀g∈fsH f0 hs,g.length<=1000)/\(∀g∈wsH hs,g.length<=1000)/\R (.sh (.bl true))
def E4 (C:Addr):Pw:=fun o ss R _=>∃(x b1 b2 b3:Addr) (bk:List (Str×List Int)) (fs ws:List (List (Int×Int))) (f w:List (Int×Int)) (d:Dd),o=vO C x b1 b2 b3 bk (fs++[f]) (ws++[w])/\ss=[.sh (dD d.q)]/\bk.length<100/\fs.length<=900/\ws.length<=900/\f.length<=1000/\w.length<=1000/\
 R (if d.err f w=none then vO C x b1 b2 b3 (bk++[d.q]) (fs++[f]++[d.fld f]) (ws++[w]++[d.wsh w]) else vO C x b1 b2 b3 bk (fs++[f]) (ws++[w])) (.tup [.int (if d.err f w=none then bk.length+1 else -1),.lst ((Uv (codeN (d.err f w))).map D.bl)])
def CQ (C:Addr):Pw2:=fun o1 o2 ss R _=>∃(x b1 b2 b3 a:Addr) (f0:List (Int×Int)) (hs:Hist) (q:D),o1=vO C x b1 b2 b3 (bkH hs) (fsH f0 hs) (wsH hs)/\o2=.lsA a (V4 f0 hs)/\ss=[.sh q]/\hs.length<100/\FineH f0 hs/\
 ((q=.tup [.str "back"]/\R (vO C x b1 b2 b3 (bkH hs.dropLast) (fsH f0 hs.dropLast) (wsH hs.dropLast)) (.lsA a (V4 f0 hs.dropLast)) (.bl true))\/
  ∃d:Dd,q=dD d.q/\R (vO C x b1 b2 b3 (bkH (addH f0 hs d)) (fsH f0 (addH f0 hs d)) (wsH (addH f0 hs d))) (.lsA a (V4 f0 (addH f0 hs d))) (.bl true))
variable (P:Program) (w:World) (K:Za) (mg:Str->Option Value) (base:Heap)
abbrev Ky:Prop:=Callee P w K mg base (ExcR.CXe P w) 1 "check_holder" ["holder"] (Pu.spOf mg FT K)
abbrev SK:Prop:=Callee P w K mg base (ExcR.CXe P w) 1 "check_width" ["width"] (Pu.spOf mg AM K)
abbrev Bn:Prop:=Callee P w K mg base (ExcR.CXe P w) 1 "check_neighbours" ["strips","place"] (Pu.spOf mg DT K)
abbrev TR:Prop:=Callee P w K mg base (ExcR.CXe P w) 1 "check_place" ["strips","place"] (Pu.spOf mg Dh K)
abbrev SH:Prop:=Callee P w K mg base (ExcR.CXe P w) 1 "without_wish" ["wishes","ahead","behind"] (Pu.spOf mg EM K)
abbrev UP:Prop:=Pu.CalleeM P w K mg base CX0 1 (Meth K (ExcR.Vb mg "Village") "strips") ["self"] (Pu.spOf mg (Hh (ExcR.Vb mg "Village")) K)
abbrev UG:Prop:=Pu.CalleeM P w K mg base CX0 1 (Meth K (ExcR.Vb mg "Village") "wishes") ["self"] (Pu.spOf mg (GC (ExcR.Vb mg "Village")) K)
abbrev BB:Prop:=Pu.CalleeM P w K mg base CX0 1 (Meth K (ExcR.Vb mg "Village") "deeds") ["self"] (Pu.spOf mg (Ez (ExcR.Vb mg "Village")) K)
abbrev Xe:Prop:=Pu.CalleeM P w K mg base (ExcR.CXe P w) 1 (Meth K (ExcR.Vb mg "Village") "check_room") ["self"] (Pu.spOf mg (DK (ExcR.Vb mg "Village")) K)
abbrev Xm:Prop:=Pu.CalleeM P w K mg base CX0 1 (Meth K (ExcR.Vb mg "Village") "enter") ["self","deed","field","wishes"] (Pu.spW mg (GN (ExcR.Vb mg "Village")) K)
abbrev Fc:Prop:=Pu.CalleeM P w K mg base (ExcR.CXe P w) 1 (Meth K (ExcR.Vb mg "Village") "take_back") ["self"] (Pu.spW mg (Az (ExcR.Vb mg "Village")) K)
abbrev Tr:Prop:=Pu.CalleeM P w K mg base (ExcR.CXe P w) 1 (Meth K (ExcR.Vb mg "Village") "stood") ["self","many"] (Pu.spOf mg (FS (ExcR.Vb mg "Village")) K)
abbrev Xc:Prop:=Callee P w K mg base CX0 1 "_law_at" ["_law_script","_law_k"] (Pu.spOf mg Cv K)
abbrev Kz:Prop:=Callee P w K mg base CX0 1 "_law_whole" ["_law_found"] (Pu.spOf mg Ho K)
abbrev XJ:Prop:=Callee P w K mg base CX0 1 "_law_mix" ["_law_cell","_law_place_here"] (Pu.spOf mg F7 K)
abbrev NS:Prop:=Callee P w K mg base CX0 1 "_law_menu" ["_law_cell"] (Pu.spOf mg DE K)
abbrev X2:Prop:=Callee P w K mg base CX0 1 "_law_holder" ["_law_menu_here","_law_k"] (Pu.spOf mg Ai K)
abbrev S9:Prop:=Callee P w K mg base CX0 1 "_law_field_step" ["_law_strips","_law_deed_here"] (Pu.spS mg F8 K)
abbrev Fv:Prop:=Callee P w K mg base CX0 1 "_law_wish_step" ["_law_wishes","_law_deed_here"] (Pu.spS mg CW K)
abbrev Tg:Prop:=Callee P w K mg base CX0 1 "_law_odd" ["_law_cell","_law_good"] (Pu.spOf mg D4 K)
abbrev BA:Prop:=Callee P w K mg base CX0 1 "_law_place" ["_law_cell","_law_strips"] (Pu.spOf mg Cu K)
abbrev Bz:Prop:=Callee P w K mg base CX0 1 "_law_width" ["_law_cell","_law_strips","_law_place_here"] (Pu.spOf mg Gh K)
abbrev Sb:Prop:=Callee P w K mg base (ExcR.CXe P w) 2 "check_strips" ["strips"] (Pu.spOf mg AA K)
abbrev Fq:Prop:=Callee P w K mg base (ExcR.CXe P w) 2 "sold" ["strips","place","holder"] (Pu.spOf mg GE K)
abbrev NA:Prop:=Callee P w K mg base (ExcR.CXe P w) 2 "parted" ["strips","place","width"] (Pu.spOf mg FM K)
abbrev SI:Prop:=Callee P w K mg base (ExcR.CXe P w) 2 "united" ["strips","place"] (Pu.spOf mg FW K)
abbrev N5:Prop:=Callee P w K mg base (ExcR.CXe P w) 2 "with_wish" ["wishes","ahead","behind"] (Pu.spOf mg Hj K)
abbrev N8:Prop:=Pu.CalleeM P w K mg base (ExcR.CXe P w) 2 (Meth K (ExcR.Vb mg "Village") "drop") ["self","ahead","behind"] (Pu.spW mg (EE (ExcR.Vb mg "Village")) K)
abbrev Fe:Prop:=Callee P w K mg base CX0 2 "_law_draw" ["_law_script","_law_k"] (Pu.spOf mg DQ K)
abbrev T6:Prop:=Callee P w K mg base CX0 2 "_law_tuples" ["_law_found","_law_due"] (Pu.spOf mg El K)
abbrev Ti:Prop:=Callee P w K mg base CX0 2 "_law_deed_is" ["_law_found","_law_due"] (Pu.spOf mg HI K)
abbrev Fx:Prop:=Callee P w K mg base CX0 2 "_law_step" ["_law_now","_law_deed_here"] (Pu.spS mg AX K)
abbrev BK:Prop:=Callee P w K mg base CX0 2 "_law_said" ["_law_found","_law_refusal","_law_count"] (Pu.spOf mg Ej K)
abbrev Nx:Prop:=Callee P w K mg base CX0 2 "_law_start" ["_law_script","_law_menu_here","_law_many"] (Pu.spOf mg Ae K)
abbrev Sh:Prop:=Callee P w K mg base CX0 2 "_law_days" ["_law_script","_law_most"] (Pu.spOf mg Cb K)
abbrev PZ:Prop:=Callee P w K mg base CX0 2 "_law_pair" ["_law_cell","_law_menu_here"] (Pu.spOf mg DB K)
abbrev B6:Prop:=Callee P w K mg base CX0 2 "_law_none_such" ["_law_village","_law_many"] (Pu.spOf mg (Et (ExcR.Vb mg "Village")) K)
abbrev NN:Prop:=Pu.CalleeM P w K mg base (ExcR.CXe P w) 3 (Mk K (ExcR.Vb mg "Village")) ["self","strips"] (Pu.spW mg (Cn (ExcR.Vb mg "Village")) K)
abbrev Sa:Prop:=Pu.CalleeM P w K mg base (ExcR.CXe P w) 3 (Meth K (ExcR.Vb mg "Village") "sell") ["self","place","holder"] (Pu.spW mg (DV (ExcR.Vb mg "Village")) K)
abbrev Bg:Prop:=Pu.CalleeM P w K mg base (ExcR.CXe P w) 3 (Meth K (ExcR.Vb mg "Village") "part") ["self","place","width"] (Pu.spW mg (CO (ExcR.Vb mg "Village")) K)
abbrev Bj:Prop:=Pu.CalleeM P w K mg base (ExcR.CXe P w) 3 (Meth K (ExcR.Vb mg "Village") "unite") ["self","place"] (Pu.spW mg (AE (ExcR.Vb mg "Village")) K)
abbrev BP:Prop:=Pu.CalleeM P w K mg base (ExcR.CXe P w) 3 (Meth K (ExcR.Vb mg "Village") "wish") ["self","ahead","behind"] (Pu.spW mg (A8 (ExcR.Vb mg "Village")) K)
abbrev Fj:Prop:=Callee P w K mg base CX0 3 "_law_book_is" ["_law_found","_law_due"] (Pu.spOf mg EZ K)
abbrev Sr:Prop:=Callee P w K mg base CX0 3 "_law_back" ["_law_village","_law_past"] (Pu.spW2 mg (FZ (ExcR.Vb mg "Village")) K)
abbrev N2:Prop:=Callee P w K mg base CX0 3 "_law_opening" ["_law_script","_law_menu_here"] (Pu.spOf mg Dj K)
abbrev BL:Prop:=Callee P w K mg base CX0 3 "_law_deed" ["_law_cell","_law_menu_here","_law_now"] (Pu.spOf mg Gw K)
abbrev Be:Prop:=Callee P w K mg base CX0 3 "_law_past_is" ["_law_village","_law_past"] (Pu.spOf mg (CP (ExcR.Vb mg "Village")) K)
abbrev Sd:Prop:=Callee P w K mg base (ExcR.CXe P w) 4 "_law_call" ["_law_village","_law_deed_here"] (Pu.spW mg (Gd (ExcR.Vb mg "Village")) K)
abbrev SR:Prop:=Callee P w K mg base CX0 4 "_law_stands" ["_law_village","_law_past"] (Pu.spOf mg (Cf (ExcR.Vb mg "Village")) K)
abbrev B0:Prop:=Callee P w K mg base CX0 5 "_law_do" ["_law_village","_law_deed_here"] (Pu.spW mg (E4 (ExcR.Vb mg "Village")) K)
abbrev BY:Prop:=Callee P w K mg base CX0 6 "_law_turn" ["_law_village","_law_past","_law_deed_here"] (Pu.spW2 mg (CQ (ExcR.Vb mg "Village")) K)
abbrev Dm:Prop:=Callee P w K mg base CX0 7 "law" ["_law_script"] (Pu.spOf mg SD K)
end M
namespace M
open PySem PySem.Spec PyProof.Rows L2 Own Pu
def D2 (f0:List (Int×Int)) (hs:Hist) (k:Nat) (h:k<hs.length+1):∃f w d,(fsH f0 hs)[k]?=some f/\(wsH hs)[k]?=some w/\atI (V4 f0 hs) (k:Int)=some (.tup [plD f,plD w,d]):=by
 cases k with
 | zero=>exact⟨f0,[],.tup [],rfl,rfl,J0 _ _⟩
 | succ k=>
  have hk:k<hs.length:=by omega
  refine⟨hs[k].2.1,hs[k].2.2,dD hs[k].1.q,?_,?_,Ks ?_⟩
  ·unfold fsH;rw[Yx,ZY,ZS hk];rfl
  ·unfold wsH;rw[Yx,ZY,ZS hk];rfl
  ·unfold V4;rw[Yx,ZY,ZS hk];rfl
end M
namespace T
open PySem PySem.Spec PyProof.Rows L2 Own M Pu
section
variable {P:Program}{w:World}{K:Za}{mg:Str->Option Value}{base:Heap}
def A7 (G:Glob K mg) (DD:Def K mg "check_holder" Nn ["holder"])
  : Ky P w K mg base:=by
 refine DD.ox (k:=0) E2 (fun _ _ _ _ _ _ E hr=>⟨_,(Vf (Vo (PW.pt (VU (V3 Jt (pv 0) Vd (V0 _)) (Jb (V3 JT (pv 0) (ExcR.JC G.HOLDERS) (V0 _))))) (Vf (ExcR.Jm G.g_BadHolder.c G.m_BadHolder ExcR.Jk rfl (az (ExcR.pe_f (ExcR.JJ (ExcR.UC (ExcR.JC G.HOLDERS) ExcR.UB))))))
   Vq)), (Vr (VV (Vl (Ju (Va 0) Vc)) (Vl (JQ (Va 0) Vc))) (Jo (sz (se_f (JU (UU Vc US))))) Vp)⟩) (.a fun ds R X h=>?_)
 ·obtain⟨h,rfl,hR⟩:=h;refine⟨rfl,?_⟩;unfold UW at hR;refine ite2 (fun g=>iteT ?_) (fun g=>?_)
  ·rw[ZU (by have:=ZX g;omega)] at hR;exact⟨by decide,by decide,by decide,by decide,by simp,hR⟩
  ·have g':¬h<1:=fun z=>g (ZT z);refine ite2 (fun g2=>?_) (fun g2=>?_)
   ·rw[ZU (by have:=ZX g2;omega)] at hR;exact⟨by decide,by decide,by decide,by decide,by simp,hR⟩
   ·have g2':¬10<h:=fun z=>g2 (ZT z);rw[ZV (by omega)] at hR;exact hR
def Aa (G:Glob K mg) (DD:Def K mg "check_width" KR ["width"])
  : SK P w K mg base:=by
 refine DD.ox (k:=0) Hc (fun _ _ _ _ _ _ E hr=>⟨_,(Vf (Vo (PW.pt (VU (V3 Jt (pv 0) Vd (V0 _)) (Jb (V3 JT (pv 0) (ExcR.JC G.WIDEST) (V0 _))))) (Vf (ExcR.Jm G.g_BadWidth.c G.m_BadWidth ExcR.Jk rfl (az (ExcR.pe_f (ExcR.JJ (ExcR.UC (ExcR.JC G.WIDEST) ExcR.UB))))))
   Vq)), (Vr (VV (Vl (Ju (Va 0) Vc)) (Vl (JQ (Va 0) Vc))) (Jo (sz (se_f (JU (UU Vc US))))) Vp)⟩) (.a fun ds R X h=>?_)
 ·obtain⟨h,rfl,hR⟩:=h;refine⟨rfl,?_⟩;unfold Pm at hR;refine ite2 (fun g=>iteT ?_) (fun g=>?_)
  ·rw[ZU (by have:=ZX g;omega)] at hR;exact⟨by decide,by decide,by decide,by decide,by simp,hR⟩
  ·have g':¬h<1:=fun z=>g (ZT z);refine ite2 (fun g2=>?_) (fun g2=>?_)
   ·rw[ZU (by have:=ZX g2;omega)] at hR;exact⟨by decide,by decide,by decide,by decide,by simp,hR⟩
   ·have g2':¬1000<h:=fun z=>g2 (ZT z);rw[ZV (by omega)] at hR;exact hR
def EC (G:Glob K mg) (DD:Def K mg "check_neighbours" T1 ["strips","place"])
  : Bn P w K mg base:=by
 refine DD.ox (k:=0) D6 (fun _ _ _ _ _ _ E hr=>⟨_,(Vf (Vo (PW.pt (VU (V3 Jt (pv 1) Vd (V0 _)) (Jb (V3 Xg (pv 1) (ln K G.len (pv 0)) (V0 _))))) (Vf (ExcR.Jm G.g_NoStrip.c G.m_NoStrip ExcR.Jk rfl (az VB)))
   Vq)), (Vr (VV (Vl (Ju (Va 1) Vc)) (Vl (Xn (Va 1) (V9 (sz (Va 0)))))) (Jo (sz VA)) Vp)⟩) (.a fun ds R X h=>?_)
 ·obtain⟨ps,p,rfl,hR⟩:=h;refine⟨rfl,?_⟩;have hl:(ps.map prD).length=ps.length:=ZR ..;refine ite2 (fun g=>iteT ?_) (fun g=>?_)
  ·rw[ZV (.inl (ZX g))] at hR;exact⟨by simp,hR⟩
  ·have g':¬p<1:=fun z=>g (ZT z);refine ite2 (fun g2=>?_) (fun g2=>?_)
   ·have g2':((ps.map prD).length:Int)<=p:=ZX g2;rw[ZV (.inr (by omega))] at hR;exact⟨by simp,hR⟩
   ·have g2':¬((ps.map prD).length:Int)<=p:=fun z=>g2 (ZT z);rw[ZU (by omega)] at hR;exact hR
def CY (G:Glob K mg) (DD:Def K mg "check_place" Tf ["strips","place"])
  : TR P w K mg base:=by
 refine DD.ox (k:=0) DY (fun _ _ _ _ _ _ E hr=>⟨_,(Vf (Vo (PW.pt (VU (V3 Jt (pv 1) Vd (V0 _)) (Jb (V3 JT (pv 1) (ln K G.len (pv 0)) (V0 _))))) (Vf (ExcR.Jm G.g_NoStrip.c G.m_NoStrip ExcR.Jk rfl (az VB)))
   Vq)), (Vr (VV (Vl (Ju (Va 1) Vc)) (Vl (JQ (Va 1) (V9 (sz (Va 0)))))) (Jo (sz VA)) Vp)⟩) (.a fun ds R X h=>?_)
 ·obtain⟨ps,p,rfl,hR⟩:=h;refine⟨rfl,?_⟩;have hl:(ps.map prD).length=ps.length:=ZR ..;unfold Kf at hR;refine ite2 (fun g=>iteT ?_) (fun g=>?_)
  ·rw[ZV (.inl (ZX g))] at hR;exact⟨by simp,hR⟩
  ·have g':¬p<1:=fun z=>g (ZT z);refine ite2 (fun g2=>?_) (fun g2=>?_)
   ·have g2':((ps.map prD).length:Int)<p:=ZX g2;rw[ZV (.inr (by omega))] at hR;exact⟨by simp,hR⟩
   ·have g2':¬((ps.map prD).length:Int)<p:=fun z=>g2 (ZT z);rw[ZU (by omega)] at hR;exact hR
def GS (G:Glob K mg) (DD:Def K mg "without_wish" KW ["wishes","ahead","behind"])
  : SH P w K mg base:=by
 refine DD.ox (k:=0) Dp (fun _ _ _ _ _ _ E hr=>⟨_,(Vg (Vo (V3 (Sq (K:=K) (show _<cLine from Kv hr)) (V7 (bz (pv 1) (pv 2))) (pv 0) (by with_unfolding_all rfl)) (Vf (ExcR.Jm G.g_NoWish.c G.m_NoWish ExcR.Jk rfl (az VB)))
   Vq) (Vf (Vj (Xz (N':=["wish","ahead","behind"]) (φ:=[none,some 1,some 2]) rfl (Own.CompOk.of (by rfl)) (UR (K:=K) (pv 0)) (fun _ _ _ _ _=>⟨(gz 0 (show(["wish","ahead","behind"]:List Str).Nodup from by decide +kernel)),(BF (V3 (Bb (K:=K) (show _<cLine from hr.units0)) (pv 0) (V7 (bz (pv 1) (pv 2))) (V0 _))),(pv 0)⟩))))), (Vh (Vr (Vl (K4 (V8 (tz (Va 1) (Va 2))) (Va 0))) (Jo (sz VA)) Vp) (Vw 2 (Vw 1 (Vn (Xq (BS (Va 0)) (Vm 0) (Vl (N9 (Va 0) (V8 (tz (Va 1) (Va 2))))) (Va 0))))))⟩) (.a fun ds R X h=>?_)
 ·obtain⟨ws,a,b,rfl,hz,hR⟩:=h;refine⟨rfl,?_⟩;unfold VY at hR;refine⟨by simp,_,.lp (a,b) ws,ite2 (fun g=>?_) (fun g=>?_)⟩
  ·have g':¬(a,b)∈ws:=fun z=>by rw[ZV rfl,ZT z] at g;cases g
   rw[ZU g'] at hR;exact⟨by simp,hR⟩
  ·have g':(a,b)∈ws:=YZ fun z=>g (by rw[ZV rfl,Yk z];rfl);rw[ZV g'] at hR;refine BM (xs:=ws) (emb:=prD) (fun q=>if (!decide (q=(a,b)))=true then some (prD q) else none) (by omega) (fun q hq=>?_) ?_
   ·refine⟨by simp,?_⟩;show fNeT (.sh (prD q)) (.sh (prD (a,b))) _;refine CL ?_;exact ite2 (fun h=>⟨_,rfl,ZV h⟩) (fun h=>ZU h)
   ·rw[KD (fun q:Int×Int=>!decide (q=(a,b)))];exact hR
def E9 (G:Glob K mg) (DD:Pu.DefM K (Meth K (ExcR.Vb mg "Village") "strips") "strips" "Village.strips" Pk ["self"])
  : UP P w K mg base:=by
 refine DD.oz (k:=0) AZ (fun _ _ _ _ _ _ E hr=>⟨_,(Vf (Vj (Uy (UH (K:=K)) (by rfl) G.list boot_list (az (jx K (Js (pv 0) rfl) (JP JK Vd)))))), (Vn (UE (sz (Ve (Uj 1 G.cl_Village G.n_Village_fields Ka (Va 0)) (JR Vc)))))⟩) (.a fun ds R X h=>?_)
 ·obtain⟨bk,fs,ws,f,rfl,hR⟩:=h;refine⟨rfl,?_⟩;exact⟨rfl,rfl,_,rfl,_,Br plD fs f,JB _,hR⟩
def DF (G:Glob K mg) (DD:Pu.DefM K (Meth K (ExcR.Vb mg "Village") "wishes") "wishes" "Village.wishes" P4 ["self"])
  : UG P w K mg base:=by
 refine DD.oz (k:=0) ET (fun _ _ _ _ _ _ E hr=>⟨_,(Vf (Vj (Uy (UH (K:=K)) (by rfl) G.list boot_list (az (jx K (Js (pv 0) rfl) (JP JK Vd)))))), (Vn (UE (sz (Ve (Uj 2 G.cl_Village G.n_Village_wished K6 (Va 0)) (JR Vc)))))⟩) (.a fun ds R X h=>?_)
 ·obtain⟨bk,fs,ws,f,rfl,hR⟩:=h;refine⟨rfl,?_⟩;exact⟨rfl,rfl,_,rfl,_,Br plD ws f,JB _,hR⟩
def D1 (G:Glob K mg) (DD:Pu.DefM K (Meth K (ExcR.Vb mg "Village") "deeds") "deeds" "Village.deeds" Tw ["self"])
  : BB P w K mg base:=by
 refine DD.oz (k:=0) F9 (fun _ _ _ _ _ _ E hr=>⟨_,(Vf (Vj (Uy (UH (K:=K)) (by rfl) G.list boot_list (az (Js (pv 0) rfl))))), (Vn (UE (sz (Uj 0 G.cl_Village G.n_Village_book UT (Va 0)))))⟩) (.a fun ds R X h=>?_)
 ·obtain⟨bk,fs,ws,rfl,hR⟩:=h;refine⟨rfl,?_⟩;exact⟨rfl,rfl,_,rfl,NX _,hR⟩
def FR (G:Glob K mg) (DD:Pu.DefM K (Meth K (ExcR.Vb mg "Village") "check_room") "check_room" "Village.check_room" PX ["self"])
  : Xe P w K mg base:=by
 refine DD.ox (k:=0) Eg (fun _ _ _ _ _ _ E hr=>⟨_,(Vf (Vo (V3 Xg (ln K G.len (Js (pv 0) rfl)) (ExcR.JC G.MOST_DEEDS) (V0 _)) (Vf (ExcR.Jm G.g_BookFull.c G.m_BookFull ExcR.Jk rfl (az (ExcR.pe_f (ExcR.JJ (ExcR.UC (ExcR.JC G.MOST_DEEDS) (ExcR.JJ ExcR.UB)))))))
   Vq)), (Vr (Vl (Xn (V9 (sz (Uj 0 G.cl_Village G.n_Village_book UT (Va 0)))) Vc)) (Jo (sz (se_f (JU (UU Vc (JU US)))))) Vp)⟩) (.a fun ds R X h=>?_)
 ·obtain⟨bk,fs,ws,rfl,hR⟩:=h;refine⟨rfl,?_⟩;have hl:(bk.map dD).length=bk.length:=ZR ..;unfold UN at hR;refine⟨rfl,rfl,_,rfl,ite2 (fun g=>?_) (fun g=>?_)⟩
  ·have g':(100:Int)<=((bk.map dD).length:Int):=ZX g;rw[ZV (by omega)] at hR;exact⟨by decide,by decide,by decide,by decide,by decide,by simp,hR⟩
  ·have g':¬(100:Int)<=((bk.map dD).length:Int):=fun z=>g (ZT z);rw[ZU (by omega)] at hR;exact hR
def E5 (G:Glob K mg) (DD:Pu.DefM K (Meth K (ExcR.Vb mg "Village") "enter") "enter" "Village.enter" PB ["self","deed","field","wishes"])
  : Xm P w K mg base:=by
 refine DD.oz (k:=0) FK (fun _ _ _ _ _ _ E hr=>⟨_,(Vg (VO (Uw Yv Y8 Y9 Uq (Js (pv 0) rfl) (az (pv 1)))) (Vg (VO (Uw Yv Y8 Y9 Uq (Js (pv 0) rfl) (az (pv 2)))) (Vg (VO (Uw Yv Y8 Y9 Uq (Js (pv 0) rfl) (az (pv 3)))) (Vf (Vj (ln K G.len (Js (pv 0) rfl))))))), (Vh (Vw 1 (X3 (Tt 0 0 G.cl_Village G.n_Village_book UT (Va 1)))) (Vh (Vw 2 (X3 (Tt 0 1 G.cl_Village G.n_Village_fields Ka (Va 2)))) (Vh (Vw 3 (X3 (Tt 0 2 G.cl_Village G.n_Village_wished K6 (Va 3)))) (Xj (V9 (sz (Uj 0 G.cl_Village G.n_Village_book UT (Va 0))))))))⟩) (.c fun o ss R X h=>?_)
 ·obtain⟨x,b1,b2,b3,bk,fs,ws,q,f,w,rfl,rfl,h1,h2,h3,hR⟩:=h;refine⟨rfl,?_⟩;have k1:(bk.map dD).length<10000000:=by rw[ZR];omega
  have k2:(fs.map plD).length<10000000:=by rw[ZR];omega
  have k3:(ws.map plD).length<10000000:=by rw[ZR];omega
  refine⟨rfl,rfl,_,rfl,k1,rfl,rfl,_,rfl,k2,rfl,rfl,_,rfl,k3,rfl,rfl,_,rfl,_,rfl,⟨rfl,by simp⟩,?_⟩;have e:(((bk.map dD++[dD q]).length:Nat):Int)=(bk.length:Int)+1:=by rw[ZZ,ZR];simp
  show R (.ins x _ vF [(b1,bk.map dD++[dD q]),(b2,fs.map plD++[plD f]),(b3,ws.map plD++[plD w])]) (.int (((bk.map dD++[dD q]).length:Nat):Int));rw[e];have e1:bk.map dD++[dD q]=(bk++[q]).map dD:=by rw[Yq];rfl
  have e2:fs.map plD++[plD f]=(fs++[f]).map plD:=by rw[Yq];rfl
  have e3:ws.map plD++[plD w]=(ws++[w]).map plD:=by rw[Yq];rfl
  rw[e1,e2,e3];exact hR
def Am (G:Glob K mg) (DD:Pu.DefM K (Meth K (ExcR.Vb mg "Village") "take_back") "take_back" "Village.take_back" Pt ["self"])
  : Fc P w K mg base:=by
 refine DD.ox (k:=0) CA (fun _ _ _ _ _ _ E hr=>⟨_,(Vg (Vo (Jc (Jd (K:=K) (Js (pv 0) rfl))) (Vf (ExcR.Jm G.g_NothingDone.c G.m_NothingDone ExcR.Jk rfl (az VB)))
   Vq) (Vg (VO (XU Yv Wg Wh XW (Js (pv 0) rfl))) (Vg (VO (XU Yv Wg Wh XW (Js (pv 0) rfl))) (Vf (Vj (XU Yv Wg Wh XW (Js (pv 0) rfl))))))), (Vh (Vr (Jg (Jh (Uj 0 G.cl_Village G.n_Village_book UT (Va 0)))) (Jo (sz VA)) Vp) (Vh (X3 (Nh 0 1 G.cl_Village G.n_Village_fields Ka)) (Vh (X3 (Nh 0 2 G.cl_Village G.n_Village_wished K6)) (JV (Nh 0 0 G.cl_Village G.n_Village_book UT)))))⟩) (.c fun o ss R X h=>?_)
 ·obtain⟨x,b1,b2,b3,bk,fs,ws,rfl,rfl,h1,h2,hX,hR⟩:=h;refine⟨rfl,?_⟩;have emp:(bk.map dD).isEmpty=decide (bk=[]):=by cases bk<;>simp
  refine⟨rfl,rfl,_,rfl,?_⟩;show if (!(!(bk.map dD).isEmpty))=true then _ else _;rw[Bool.not_not,emp];refine ite2 (fun g=>⟨by simp,_,rfl,⟨rfl,by simp⟩,hX (ZX g)⟩) (fun g=>?_);have hne:bk≠[]:=fun z=>g (ZT z);obtain⟨b0,q,rfl⟩:∃b0 q,bk=b0++[q]:=⟨_,_,(List.dropLast_concat_getLast hne).symm⟩;have hl:(b0++[q]).length=b0.length+1:=by simp
  have f1:(fs.map plD)[(fs.map plD).length-1]?=some (plD (fs[fs.length-1]'(by omega))):=by
   rw[ZR,ZY,ZS (by omega)];rfl
  have w1:(ws.map plD)[(ws.map plD).length-1]?=some (plD (ws[ws.length-1]'(by omega))):=by
   rw[ZR,ZY,ZS (by omega)];rfl
  have q1:((b0++[q]).map dD)[((b0++[q]).map dD).length-1]?=some (dD q):=by
   rw[ZR,ZY,hl,Nat.add_sub_cancel,Yz (Ye _),Nat.sub_self];rfl
  refine⟨rfl,rfl,_,_,rfl,f1,rfl,rfl,_,_,rfl,w1,rfl,rfl,_,_,rfl,q1,_,rfl,⟨rfl,by simp⟩,?_⟩;have e1:((b0++[q]).map dD).dropLast=b0.map dD:=by rw[Yq];exact YR
  have e2:(fs.map plD).dropLast=fs.dropLast.map plD:=List.map_dropLast.symm;have e3:(ws.map plD).dropLast=ws.dropLast.map plD:=List.map_dropLast.symm
  have:=hR b0 q rfl
  rw[show vO (ExcR.Vb mg "Village") x b1 b2 b3 b0 fs.dropLast ws.dropLast=.ins x (ExcR.Vb mg "Village") vF [(b1,((b0++[q]).map dD).dropLast),(b2,(fs.map plD).dropLast),(b3,(ws.map plD).dropLast)] by rw[e1,e2,e3]] at this;exact this
def Hy (G:Glob K mg) (DD:Pu.DefM K (Meth K (ExcR.Vb mg "Village") "stood") "stood" "Village.stood" TU ["self","many"])
  : Tr P w K mg base:=by
 refine DD.ox (k:=0) Cz (fun _ _ _ _ _ _ E hr=>⟨_,(Vg (Vo (PW.pt (VU (V3 Jt (pv 1) Vd (V0 _)) (Jb (V3 JT (pv 1) (ln K G.len (Js (pv 0) rfl)) (V0 _))))) (Vf (ExcR.Jm G.g_NoSuchDeed.c G.m_NoSuchDeed ExcR.Jk rfl (az VB)))
   Vq) (Vf (Vj (V7 (bz (Uy (UH (K:=K)) (by rfl) G.list boot_list (az (jx K (Js (pv 0) rfl) (pv 1)))) (Uy (UH (K:=K)) (by rfl) G.list boot_list (az (jx K (Js (pv 0) rfl) (pv 1))))))))), (Vh (Vr (VV (Vl (Ju (Va 1) Vc)) (Vl (JQ (Va 1) (V9 (sz (Uj 0 G.cl_Village G.n_Village_book UT (Va 0))))))) (Jo (sz VA)) Vp) (Vn (Ce (UE (sz (Ve (Uj 1 G.cl_Village G.n_Village_fields Ka (Va 0)) (Va 1)))) (UE (sz (Ve (Uj 2 G.cl_Village G.n_Village_wished K6 (Va 0)) (Va 1)))))))⟩) (.a fun ds R X h=>?_)
 ·obtain⟨bk,fs,ws,k,rfl,h1,h2,hX,hR⟩:=h;refine⟨rfl,?_⟩;have lb:(bk.map dD).length=bk.length:=ZR ..;refine ite2 (fun g=>iteT ?_) (fun g=>?_)
  ·exact⟨by simp,hX (.inl (ZX g))⟩
  ·have g':¬k<0:=fun z=>g (ZT z);refine⟨rfl,rfl,_,rfl,ite2 (fun g2=>?_) (fun g2=>?_)⟩
   ·have g2':((bk.map dD).length:Int)<k:=ZX g2;exact⟨by simp,hX (.inr (by omega))⟩
   ·have g2':¬((bk.map dD).length:Int)<k:=fun z=>g2 (ZT z);have hk:k.toNat<fs.length:=by omega
    have hk2:k.toNat<ws.length:=by omega
    refine⟨rfl,rfl,_,rfl,_,Uk (f:=plD) (xs:=fs) (by omega) (by omega),JB _,rfl,rfl,_,rfl,_,Uk (f:=plD) (xs:=ws) (by omega) (by omega),JB _,JB _,JB _,fun x y=>?_⟩;exact hR _ _ k.toNat x y (by omega) (ZS hk) (ZS hk2)
def Ds (G:Glob K mg) (DD:Def K mg "_law_at" TN ["_law_script","_law_k"])
  : Xc P w K mg base:=by
 refine DD.oz (k:=0) He (fun _ _ _ _ _ _ E hr=>⟨_,(Vg (Vo (V3 Jt (pv 1) (ln K G.len (pv 0)) (V0 _)) (Vf (Vj (jx K (pv 0) (pv 1))))
   Vq) (Vf (Vj Vd))), (Vh (Vr (Vl (Ju (Va 1) (V9 (sz (Va 0))))) (Vn (Ve (Va 0) (Va 1))) Vp) (Vn Vc))⟩) (.a fun ds R X h=>?_)
 ·obtain⟨ns,k,rfl,hk,hR⟩:=h;refine⟨rfl,?_⟩;refine ite2 (fun g=>?_) (fun g=>?_)
  ·have g':k<(ns.length:Int):=ZX g;have e:=ZS (show k.toNat<ns.length by omega);rw[Yg,e] at hR;exact⟨_,Xr hk e,hR⟩
  ·have g':¬k<(ns.length:Int):=fun z=>g (ZT z);rw[Yg,List.getElem?_eq_none (by omega)] at hR;exact hR
def Gm (G:Glob K mg) (DD:Def K mg "_law_whole" T7 ["_law_found"])
  : Kz P w K mg base:=by
 refine DD.oz (k:=0) CK (fun _ _ _ _ _ _ E hr=>⟨_,(Vf (Vj (KG (VH (U2 (K:=K)) (by rfl) G.isinstance Yn (bz (pv 0) (JW (v:=.ty "int") rfl G.int boot_int rfl))) (PK (Cy (VH (U2 (K:=K)) (by rfl) G.isinstance Yn (bz (pv 0) (JW (v:=.ty "bool") rfl G.bool boot_bool rfl)))))))), (Vn (Ku (U6 (tz (Va 0) Ua)) (Es (U6 (tz (Va 0) Ua)))))⟩) (.a fun ds R X h=>?_)
 ·obtain⟨i,rfl,hR⟩:=h;refine⟨rfl,?_⟩;exact⟨_,.same _,_,.ib,hR⟩
def Aw (G:Glob K mg) (DD:Def K mg "_law_mix" Pa ["_law_cell","_law_place_here"])
  : XJ P w K mg base:=by
 refine DD.oz (k:=0) Bs (fun _ _ _ _ _ _ E hr=>⟨_,(Vg (Pu.pz 2 Bs.nd (Vi V6 (Vi X1 (Vi VC (Vi VC (Vi V6 (pv 0) Vd) (Vi X1 Vd (pv 1))) Vd) Vd) Vd)) (Vf (Vj (Vi V6 (Vi X1 (Vi VC (Vi VC (pv 2) (Vi X1 Vd (pv 1))) Vd) Vd) Vd)))), (Vh (Vx (V5 (Xw (VF (VF (V5 (Va 0) Vc) (Xw Vc (Va 1))) Vc) Vc) Vc) (Vm 2)) (Vn (V5 (Xw (VF (VF (Va 2) (Xw Vc (Va 1))) Vc) Vc) Vc)))⟩) (.a fun ds R X h=>?_)
 ·obtain⟨c,p,rfl,hR⟩:=h;refine⟨rfl,?_⟩;unfold mixP at hR;exact⟨(by show(0:Int)<2147483647;decide),.inl ⟨by decide,by decide⟩,.inr ⟨by decide,by decide⟩,(by show(0:Int)<2147483647;decide),.inl ⟨by decide,by decide⟩,.inr ⟨by decide,by decide⟩,(by show(0:Int)<2147483647;decide),hR⟩
def CG (G:Glob K mg) (DD:Def K mg "_law_menu" Nk ["_law_cell"])
  : NS P w K mg base:=by
 refine DD.oz (k:=0) Pe (fun _ _ _ _ _ _ E hr=>⟨_,(Vg (Pu.pz 1 Pe.nd (jx K (Vv (Vs Vd (Vs Vd (Vs Vd (Vs Vd (Vs Vd VL)))))) (Vi V6 (Vi VS (pv 0) Vd) Vd))) (Vg (Pu.pz 2 Pe.nd (jx K (Vv (Vs Vd (Vs Vd (Vs Vd (Vs Vd (Vs Vd VL)))))) (Vi V6 (Vi VS (pv 0) Vd) Vd))) (Vf (Vj (Vv (Vs (Vi VC Vd (Vi V6 (pv 0) Vd)) (Vs (jx K (Vv (Vs Vd (Vs Vd (Vs Vd (Vs Vd VL))))) (Vi V6 (Vi VS (pv 0) Vd) Vd)) (Vs (Vi V6 (Vi VS (pv 0) Vd) Vd) (Vs (pv 1) (Vs (pv 2) VL)))))))))), (Vh (Vx (Ve (Vu (Vt Vc (Vt Vc (Vt Vc (Vt Vc (Vt Vc V2)))))) (V5 (VR (Va 0) Vc) Vc)) (Vm 1)) (Vh (Vx (Ve (Vu (Vt Vc (Vt Vc (Vt Vc (Vt Vc (Vt Vc V2)))))) (V5 (VR (Va 0) Vc) Vc)) (Vm 2)) (Vw 2 (Vw 1 (Vn (Vu (Vt (VF Vc (V5 (Va 0) Vc)) (Vt (Ve (Vu (Vt Vc (Vt Vc (Vt Vc (Vt Vc V2))))) (V5 (VR (Va 0) Vc) Vc)) (Vt (V5 (VR (Va 0) Vc) Vc) (Vt (Va 1) (Vt (Va 2) V2)))))))))))⟩) (.a fun ds R X h=>?_)
 ·obtain⟨c,rfl,hR⟩:=h;refine⟨rfl,?_⟩;have h1:0<=c / 10 % 4/\c / 10 % 4<4:=by omega
  have h2:0<=c / 400 % 5/\c / 400 % 5<5:=by omega
  have hb:∀v∈([1,3,7,9]:List Int),1<=v/\v<=9/\(v=1\/v=3\/v=7\/v=9):=by decide
  have hde:∀i:Int,0<=i->i<5->∃d e:Int,atI [D.int 1000,.int 3,.int 1,.int 2,.int 3] i=some (.int d)/\atI [D.int 1,.int 1,.int 1,.int 1,.int 998] i=some (.int e)/\(1<=d/\d<=1000)/\1<=e/\e+d<=1001:=fun i a b=>by
   have:i=0\/i=1\/i=2\/i=3\/i=4:=by omega
   rcases this with rfl|rfl|rfl|rfl|rfl
   ·exact⟨1000,1,rfl,rfl,by decide,by decide,by decide⟩
   ·exact⟨3,1,rfl,rfl,by decide,by decide,by decide⟩
   ·exact⟨1,1,rfl,rfl,by decide,by decide,by decide⟩
   ·exact⟨2,1,rfl,rfl,by decide,by decide,by decide⟩
   ·exact⟨3,998,rfl,rfl,by decide,by decide,by decide⟩
  obtain⟨d,e,e1,e2,hd,he⟩:=hde _ h2.1 h2.2;have hbb:=hb _ (YI (l:=([1,3,7,9]:List Int)) (n:=(c / 10 % 4).toNat) (by show(c / 10 % 4).toNat<4;omega));refine⟨by simp,⟨by decide,by decide⟩,(by show(0:Int)<5;decide),_,e1,by simp,⟨by decide,by decide⟩,(by show(0:Int)<5;decide),_,e2,(by show(0:Int)<10;decide),by simp,⟨by decide,by decide⟩,(by show(0:Int)<4;decide),_,Uk (f:=D.int) (xs:=[1,3,7,9]) h1.1 h1.2,⟨by decide,by decide⟩,(by show(0:Int)<10;decide),by simp,?_⟩;exact hR [_,_,_,_,_] ⟨_,_,_,_,_,rfl,by omega,hbb,by omega,hd,he⟩
def GL (G:Glob K mg) (DD:Def K mg "_law_holder" Ni ["_law_menu_here","_law_k"])
  : X2 P w K mg base:=by
 refine DD.oz (k:=0) GT (fun _ _ _ _ _ _ E hr=>⟨_,(Vf (Vj (Vi VC Vd (Vi V6 (Vi VC (Vi X1 (pv 1) (jx K (pv 0) Vd)) (jx K (pv 0) Vd)) Vd)))), (Vn (VF Vc (V5 (VF (Xw (Va 1) (Ve (Va 0) Vc)) (Ve (Va 0) Vc)) Vc)))⟩) (.a fun ds R X h=>?_)
 ·obtain⟨m,k,rfl,hM,hR⟩:=h;refine⟨rfl,?_⟩;obtain⟨a,b,c,d,e,rfl,ha,hb,hc,hd,he⟩:=hM;exact⟨_,rfl,.inr ⟨by omega,by omega⟩,_,rfl,(by show(0:Int)<10;decide),hR _ (by omega) (by omega) rfl⟩
def Dz (G:Glob K mg) (DD:Def K mg "_law_field_step" Ng ["_law_strips","_law_deed_here"])
  : S9 P w K mg base:=by
 refine DD.oz (k:=0) X4 (fun _ _ _ _ _ _ E hr=>⟨_,(Vg (Pu.pz 2 X4.nd (jx K (pv 1) Vd)) (Vg (Vo (PW.pt (VU (V3 Jt (pv 2) Vd (V0 _)) (Jb (V3 JT (pv 2) (Vi Jr (ln K G.len (pv 0)) (Uy FH (by rfl) G.int boot_int (az (Ux (XX (K:=K) (show _<cLine from hr.units0)) (jx K (pv 1) Vd) VB (V0 _))))) (V0 _))))) (Vf (Vj (Vv (bz Vd (pv 0)))))
   Vq) (Vg (Pu.pz 3 X4.nd (jx K (jx K (pv 0) (Vi Jr (pv 2) Vd)) Vd)) (Vg (Pu.pz 4 X4.nd (jx K (jx K (pv 0) (Vi Jr (pv 2) Vd)) Vd)) (Vg (Vo (cq K hr (jx K (pv 1) Vd) VB) (Vg (Vo (PW.pt (VU (V3 Jt (jx K (pv 1) Vd) Vd (V0 _)) (Jb (V3 JT (jx K (pv 1) Vd) Vd (V0 _))))) (Vf (Vj (Vv (bz Vd (pv 0)))))
   Vq) (Vg (Vo (cq K hr (jx K (pv 1) Vd) (pv 3)) (Vf (Vj (Vv (bz Vd (pv 0)))))
   Vq) (Vf (Vj (Vv (bz Vd (Vi Jv (Vi Jv (J9 (J6 (K:=K)) (pv 0) JD (Jy (Vi Jr (pv 2) Vd))) (Vv (az (V7 (bz (jx K (pv 1) Vd) (pv 4)))))) (J9 (J6 (K:=K)) (pv 0) (Jy (pv 2)) JD))))))))
   Vq) (Vg (Vo (cq K hr (jx K (pv 1) Vd) VB) (Vg (Vo (PW.pt (VU (V3 Jt (jx K (pv 1) Vd) Vd (V0 _)) (Jb (V3 Xg (jx K (pv 1) Vd) (pv 4) (V0 _))))) (Vf (Vj (Vv (bz Vd (pv 0)))))
   Vq) (Vg (Vo (cq K hr (ln K G.len (pv 0)) Vd) (Vf (Vj (Vv (bz Vd (pv 0)))))
   Vq) (Vg (Pu.pz 5 X4.nd (Vv (bz (V7 (bz (pv 3) (jx K (pv 1) Vd))) (V7 (bz (pv 3) (Vi Jr (pv 4) (jx K (pv 1) Vd))))))) (Vf (Vj (Vv (bz Vd (Vi Jv (Vi Jv (J9 (J6 (K:=K)) (pv 0) JD (Jy (Vi Jr (pv 2) Vd))) (pv 5)) (J9 (J6 (K:=K)) (pv 0) (Jy (pv 2)) JD)))))))))
   Vq) (Vg (Vo (cn K hr (jx K (jx K (pv 0) (pv 2)) Vd) (pv 3)) (Vf (Vj (Vv (bz Vd (pv 0)))))
   Vq) (Vg (Vo (V3 JT (Vi VC (pv 4) (jx K (jx K (pv 0) (pv 2)) Vd)) Vd (V0 _)) (Vf (Vj (Vv (bz Vd (pv 0)))))
   Vq) (Vf (Vj (Vv (bz Vd (Vi Jv (Vi Jv (J9 (J6 (K:=K)) (pv 0) JD (Jy (Vi Jr (pv 2) Vd))) (Vv (az (V7 (bz (pv 3) (Vi VC (pv 4) (jx K (jx K (pv 0) (pv 2)) Vd))))))) (J9 (J6 (K:=K)) (pv 0) (Jy (Vi VC (pv 2) Vd)) JD)))))))))))))), (Vh (Vx (Ve (Va 1) Vc) (Vm 2)) (Vh (Vr (VV (Vl (Ju (Va 2) Vc)) (Vl (JQ (Va 2) (Jp (V9 (sz (Va 0))) (Cg (sz (VE (Ve (Va 1) Vc) VA))))))) (Vw 0 (Vn (Vu (tz Vc (Va 0))))) Vp) (Vh (Vx (Ve (Ve (Va 0) (Jp (Va 2) Vc)) Vc) (Vm 3)) (Vh (Vx (Ve (Ve (Va 0) (Jp (Va 2) Vc)) Vc) (Vm 4)) (Vh (Vr (Vl (VE (Ve (Va 1) Vc) VA)) (Vh (Vr (VV (Vl (Ju (Ve (Va 1) Vc) Vc)) (Vl (JQ (Ve (Va 1) Vc) Vc))) (Vw 0 (Vn (Vu (tz Vc (Va 0))))) Vp) (Vh (Vr (Vl (VE (Ve (Va 1) Vc) (Va 3))) (Vw 0 (Vn (Vu (tz Vc (Va 0))))) Vp) (Vn (Vu (tz Vc (Jz (Jz (JI (Va 0) JE (Jw (Jp (Va 2) Vc))) (Vu (sz (V8 (tz (Ve (Va 1) Vc) (Va 4)))))) (JI (Va 0) (Jw (Va 2)) JE))))))) Vp) (Vh (Vr (Vl (VE (Ve (Va 1) Vc) VA)) (Vh (Vr (VV (Vl (Ju (Ve (Va 1) Vc) Vc)) (Vl (Xn (Ve (Va 1) Vc) (Va 4)))) (Vw 0 (Vn (Vu (tz Vc (Va 0))))) Vp) (Vh (Vr (Vl (VE (V9 (sz (Va 0))) Vc)) (Vw 0 (Vn (Vu (tz Vc (Va 0))))) Vp) (Vh (Vx (Vu (tz (V8 (tz (Va 3) (Ve (Va 1) Vc))) (V8 (tz (Va 3) (Jp (Va 4) (Ve (Va 1) Vc)))))) (Vm 5)) (Vn (Vu (tz Vc (Jz (Jz (JI (Va 0) JE (Jw (Jp (Va 2) Vc))) (Va 5)) (JI (Va 0) (Jw (Va 2)) JE)))))))) Vp) (Vh (Vr (Vl (Ud (Ve (Ve (Va 0) (Va 2)) Vc) (Va 3))) (Vw 0 (Vn (Vu (tz Vc (Va 0))))) Vp) (Vh (Vr (Vl (JQ (VF (Va 4) (Ve (Ve (Va 0) (Va 2)) Vc)) Vc)) (Vw 0 (Vn (Vu (tz Vc (Va 0))))) Vp) (Vn (Vu (tz Vc (Jz (Jz (JI (Va 0) JE (Jw (Jp (Va 2) Vc))) (Vu (sz (V8 (tz (Va 3) (VF (Va 4) (Ve (Ve (Va 0) (Va 2)) Vc))))))) (JI (Va 0) (Jw (VF (Va 2) Vc)) JE)))))))))))))⟩) (.b fun ds R X h=>?_)
 ·obtain⟨f,x,rfl,hx,hz,hR⟩:=h;refine⟨rfl,?_⟩;have hl:(f.map prD).length=f.length:=ZR ..;have l1:∀p:Int,(cutD (f.map prD) none (some (p-1))).length<=1000:=fun p=>by have:=(Uu (f.map prD) none (some (p-1))).length_le;rw[ZR] at this;omega
  have l2:∀p:Int,(cutD (f.map prD) (some p) none).length<=1000:=fun p=>by have:=(Uu (f.map prD) (some p) none).length_le;rw[ZR] at this;omega
  cases x with
  | wish a b=>cases hx
  | drop a b=>cases hx
  | sell p h=>
   have hR:R (.own [.int (codeN (VZ f p h)),plD (if VZ f p h=none then Ue f p h else f)]):=hR
   have no:∀c:Str,VZ f p h=some c->R (.own [.int (codeN (some c)),plD f]):=fun c e=>by
    rw[e,ZU (by intro z;cases z)] at hR;exact hR
   unfold VZ at no hR
   have one:(p<1\/(f.length:Int)<p)->R (.own [.int 1,plD f]):=fun z=>by
    rw[←XG];exact no _ (ZV z)
   refine⟨_,rfl,ite2 (fun g=>iteT ?_) (fun g=>⟨_,rfl,ite2 (fun g2=>?_) (fun g2=>?_)⟩)⟩
   ·exact⟨by simp,one (.inl (ZX g))⟩
   ·have g':(((f.map prD).length:Nat):Int)-0<p:=ZX g2;exact⟨by simp,one (.inr (by omega))⟩
   ·have n1:¬p<1:=fun z=>g (ZT z);have n2:¬(((f.map prD).length:Nat):Int)-0<p:=fun z=>g2 (ZT z);rw[ZU (by omega)] at no hR;have a1:=Uo (ps:=f) (p:=p) (by omega) (by omega);refine⟨_,a1,_,rfl,_,a1,_,rfl,_,rfl,?_⟩;refine⟨_,rfl,ite2 (fun g3=>iteT ?_) (fun g3=>⟨_,rfl,ite2 (fun g4=>?_) (fun g4=>?_)⟩)⟩
    ·have g':h<1:=ZX g3
     have:=no _ (ZV (by omega))
     rw[Xv] at this;exact⟨by simp,this⟩
    ·have g':10<h:=ZX g4
     have:=no _ (ZV (by omega))
     rw[Xv] at this;exact⟨by simp,this⟩
    ·have n3:¬h<1:=fun z=>g3 (ZT z);have n4:¬10<h:=fun z=>g4 (ZT z);rw[ZU (Y4.mpr ⟨by omega,by omega⟩)] at no hR;refine⟨_,rfl,ite2 (fun g5=>?_) (fun g5=>?_)⟩
     ·have g':h=(atP1 f p).1:=ZX g5
      have:=no _ (ZV g'.symm)
      rw[P3] at this;exact⟨by simp,this⟩
     ·have g':¬h=(atP1 f p).1:=fun z=>g5 (ZT z);rw[ZU (fun z=>g' z.symm),ZV rfl] at hR;have e:=B1 (ps:=f) (p:=p) (x:=(h,(atP1 f p).2)) (by omega) (by omega);refine⟨rfl,_,rfl,by simp,by simp,rfl,rfl,Yi (Yu (l1 p) (Ye 1)) (by decide),rfl,rfl,rfl,Yi (Yu (by rw[ZZ];exact Yu (l1 p) (Ye 1)) (l2 p)) (by decide),by simp,?_⟩;have e9:plD (Ue f p h)=.lst (cutD (f.map prD) none (some (p-1))++[prD (h,(atP1 f p).2)]++cutD (f.map prD) (some p) none):=Y0 D.lst e.symm;rw[e9] at hR;exact hR
  | part p w=>
   have hR:R (.own [.int (codeN (VW f p w)),plD (if VW f p w=none then JH f p w else f)]):=hR
   have no:∀c:Str,VW f p w=some c->R (.own [.int (codeN (some c)),plD f]):=fun c e=>by
    rw[e,ZU (by intro z;cases z)] at hR;exact hR
   unfold VW at no hR
   have one:(p<1\/(f.length:Int)<p)->R (.own [.int 1,plD f]):=fun z=>by
    rw[←XG];exact no _ (ZV z)
   refine⟨_,rfl,ite2 (fun g=>iteT ?_) (fun g=>⟨_,rfl,ite2 (fun g2=>?_) (fun g2=>?_)⟩)⟩
   ·exact⟨by simp,one (.inl (ZX g))⟩
   ·have g':(((f.map prD).length:Nat):Int)-0<p:=ZX g2;exact⟨by simp,one (.inr (by omega))⟩
   ·have n1:¬p<1:=fun z=>g (ZT z);have n2:¬(((f.map prD).length:Nat):Int)-0<p:=fun z=>g2 (ZT z);rw[ZU (by omega)] at no hR;have a1:=Uo (ps:=f) (p:=p) (by omega) (by omega);refine⟨_,a1,_,rfl,_,a1,_,rfl,_,rfl,_,rfl,?_⟩;refine⟨_,rfl,ite2 (fun g3=>iteT ?_) (fun g3=>⟨_,rfl,ite2 (fun g4=>?_) (fun g4=>?_)⟩)⟩
    ·have:=no _ (ZV (.inl (ZX g3)))
     rw[KJ] at this;exact⟨by simp,this⟩
    ·have:=no _ (ZV (.inr (ZX g4)))
     rw[KJ] at this;exact⟨by simp,this⟩
    ·have n3:¬w<1:=fun z=>g3 (ZT z);have n4:¬(atP1 f p).2<=w:=fun z=>g4 (ZT z);rw[ZU (by omega)] at no hR;refine ite2 (fun g5=>?_) (fun g5=>?_)
     ·have g':(((f.map prD).length:Nat):Int)=40:=ZX g5
      have:=no _ (ZV (by omega))
      rw[Nl] at this;exact⟨by simp,this⟩
     ·have g':¬(((f.map prD).length:Nat):Int)=40:=fun z=>g5 (ZT z);rw[ZU (by omega),ZV rfl] at hR;refine⟨_,rfl,by simp,_,rfl,by simp,by simp,?_⟩;refine⟨rfl,rfl,rfl,Yi (Yu (l1 p) (Ye 2)) (by decide),rfl,rfl,rfl,Yi (Yu (by rw[ZZ];exact Yu (l1 p) (Ye 2)) (l2 p)) (by decide),by simp,?_⟩;have e9:plD (JH f p w)=.lst (cutD (f.map prD) none (some (p-1))++[prD ((atP1 f p).1,w),prD ((atP1 f p).1,(atP1 f p).2-w)]++cutD (f.map prD) (some p) none):=Y0 D.lst (Fb (by omega)).symm;rw[e9] at hR;exact hR
  | unite p=>
   have hR:R (.own [.int (codeN (uniE f p)),plD (if uniE f p=none then uniL f p else f)]):=hR
   have no:∀c:Str,uniE f p=some c->R (.own [.int (codeN (some c)),plD f]):=fun c e=>by
    rw[e,ZU (by intro z;cases z)] at hR;exact hR
   unfold uniE at no hR
   have one:(p<1\/(f.length:Int)<=p)->R (.own [.int 1,plD f]):=fun z=>by
    rw[←XG];exact no _ (ZV z)
   refine⟨_,rfl,ite2 (fun g=>iteT ?_) (fun g=>⟨_,rfl,ite2 (fun g2=>?_) (fun g2=>?_)⟩)⟩
   ·exact⟨by simp,one (.inl (ZX g))⟩
   ·have g':(((f.map prD).length:Nat):Int)-1<p:=ZX g2;exact⟨by simp,one (.inr (by omega))⟩
   ·have n1:¬p<1:=fun z=>g (ZT z);have n2:¬(((f.map prD).length:Nat):Int)-1<p:=fun z=>g2 (ZT z);rw[ZU (by omega)] at no hR;have a1:=Uo (ps:=f) (p:=p) (by omega) (by omega);have a2:=Cr (ps:=f) (p:=p) (by omega) (by omega);refine⟨_,a1,_,rfl,_,a1,_,rfl,_,rfl,_,rfl,?_⟩;refine⟨_,a2,_,rfl,ite2 (fun g3=>?_) (fun g3=>?_)⟩
    ·have g':¬(atP1 f (p+1)).1=(atP1 f p).1:=fun z=>by rw[ZT z] at g3;cases g3
     have:=no _ (ZV (fun z=>g' z.symm))
     rw[Pn] at this;exact⟨by simp,this⟩
    ·have g':(atP1 f (p+1)).1=(atP1 f p).1:=YZ fun z=>g3 (by rw[Yk z];rfl);rw[ZU (Y4.mpr g'.symm)] at no hR;refine⟨_,a2,_,rfl,ite2 (fun g4=>?_) (fun g4=>?_)⟩
     ·have:=no _ (ZV (ZX g4))
      rw[PD] at this;exact⟨by simp,this⟩
     ·rw[ZU (fun z=>g4 (ZT z)),ZV rfl] at hR;refine⟨rfl,_,a2,_,rfl,by simp,by simp,rfl,rfl,Yi (Yu (l1 p) (Ye 1)) (by decide),rfl,rfl,rfl,Yi (Yu (by rw[ZZ];exact Yu (l1 p) (Ye 1)) (l2 (p+1))) (by decide),by simp,?_⟩;have e9:plD (uniL f p)=.lst (cutD (f.map prD) none (some (p-1))++[prD ((atP1 f p).1,(atP1 f p).2+(atP1 f (p+1)).2)]++cutD (f.map prD) (some (p+1)) none):=Y0 D.lst (Fz (by omega)).symm;rw[e9] at hR;exact hR
def GV (G:Glob K mg) (DD:Def K mg "_law_wish_step" Tz ["_law_wishes","_law_deed_here"])
  : Fv P w K mg base:=by
 refine DD.oz (k:=0) B2 (fun _ _ _ _ _ _ E hr=>⟨_,(Vg (Pu.pz 2 B2.nd (V7 (bz (jx K (pv 1) Vd) (jx K (pv 1) Vd)))) (Vg (Vo (cq K hr (jx K (pv 1) Vd) VB) (Vg (Vo (V3 (Sq (K:=K) (show _<cLine from Kv hr)) (pv 2) (pv 0) (by with_unfolding_all rfl)) (Vf (Vj (Vv (bz Vd (pv 0)))))
   Vq) (Vf (Vj (Vv (bz Vd (Xz (N':=["_law_one","_law_pair_here"]) (φ:=[none,some 2]) rfl (Own.CompOk.of (by rfl)) (UR (K:=K) (pv 0)) (fun _ _ _ _ _=>⟨(gz 0 (show(["_law_one","_law_pair_here"]:List Str).Nodup from by decide +kernel)),(BF (V3 (Bb (K:=K) (show _<cLine from hr.units0)) (pv 0) (pv 1) (V0 _))),(pv 0)⟩)))))))
   Vq) (Vg (Vo (PW.pt (VU (V3 Jt (VH (Hk (K:=K) rfl) (by rfl) G.min boot_min (az (pv 2))) Vd (V0 _)) (Jb (V3 JT (VH (AJ (K:=K) rfl) (by rfl) G.max boot_max (az (pv 2))) Vd (V0 _))))) (Vf (Vj (Vv (bz Vd (pv 0)))))
   Vq) (Vg (Vo (cq K hr (jx K (pv 1) Vd) (jx K (pv 1) Vd)) (Vf (Vj (Vv (bz Vd (pv 0)))))
   Vq) (Vg (Vo (V3 (BC (K:=K) (show _<cLine from Kv hr)) (pv 2) (pv 0) (by with_unfolding_all rfl)) (Vf (Vj (Vv (bz Vd (pv 0)))))
   Vq) (Vg (Vo (cq K hr (ln K G.len (pv 0)) Vd) (Vf (Vj (Vv (bz Vd (pv 0)))))
   Vq) (Vf (Vj (Vv (bz Vd (Vi Jv (pv 0) (Vv (az (pv 2)))))))))))))), (Vh (Vx (V8 (tz (Ve (Va 1) Vc) (Ve (Va 1) Vc))) (Vm 2)) (Vh (Vr (Vl (VE (Ve (Va 1) Vc) VA)) (Vh (Vr (Vl (K4 (Va 2) (Va 0))) (Vw 0 (Vn (Vu (tz Vc (Va 0))))) Vp) (Vn (Vu (tz Vc (Xq (BS (Va 0)) (Vm 0) (Vl (N9 (Va 0) (Va 1))) (Va 0)))))) Vp) (Vh (Vr (VV (Vl (Ju (Co (sz (Va 2))) Vc)) (Vl (JQ (CV (sz (Va 2))) Vc))) (Vw 0 (Vn (Vu (tz Vc (Va 0))))) Vp) (Vh (Vr (Vl (VE (Ve (Va 1) Vc) (Ve (Va 1) Vc))) (Vw 0 (Vn (Vu (tz Vc (Va 0))))) Vp) (Vh (Vr (Vl (K4 (Va 2) (Va 0))) (Vw 0 (Vn (Vu (tz Vc (Va 0))))) Vp) (Vh (Vr (Vl (VE (V9 (sz (Va 0))) Vc)) (Vw 0 (Vn (Vu (tz Vc (Va 0))))) Vp) (Vw 2 (Vn (Vu (tz Vc (Jz (Va 0) (Vu (sz (Va 2))))))))))))))⟩) (.b fun ds R X h=>?_)
 ·obtain⟨w,x,rfl,hx,hz,hR⟩:=h;refine⟨rfl,?_⟩;have hl:(w.map prD).length=w.length:=ZR ..;cases x with
  | sell p h=>cases hx
  | part p h=>cases hx
  | unite p=>cases hx
  | drop a b=>
   refine⟨_,rfl,_,rfl,by simp,_,rfl,?_⟩;show ∃c,InR (prD (a,b)) (plD w) c/\_;have hR:R (.own [.int (codeN (VY w a b)),plD (if VY w a b=none then UZ w a b else w)]):=hR;refine⟨_,.lp (a,b) w,ite2 (fun g=>?_) (fun g=>?_)⟩
   ·have g':¬(a,b)∈w:=fun z=>by rw[ZV rfl,ZT z] at g;cases g
    have e:VY w a b=some ("NoWish" : Str):=ZU g';rw[e,TZ,ZU (by intro z;cases z)] at hR;exact⟨by simp,hR⟩
   ·have g':(a,b)∈w:=YZ fun z=>g (by rw[ZV rfl,Yk z];rfl);have e:VY w a b=none:=ZV g';rw[e,ZV rfl] at hR;refine BM (xs:=w) (emb:=prD) (fun q=>if (!decide (q=(a,b)))=true then some (prD q) else none) (by omega) (fun q hq=>?_) ?_
    ·refine⟨[q.1,q.2],[a,b],rfl,rfl,?_⟩;have e:decide ([q.1,q.2]=[a,b])=decide (q=(a,b)):=FD q (a,b);show if (!decide ([q.1,q.2]=[a,b]))=true then _ else _;rw[e];exact ite2 (fun h=>⟨_,rfl,ZV h⟩) (fun h=>ZU h)
    ·rw[KD (fun q:Int×Int=>!decide (q=(a,b)))];exact⟨by simp,hR⟩
  | wish a b=>
   refine⟨_,rfl,_,rfl,by simp,_,rfl,?_⟩;have hR:R (.own [.int (codeN (VP w a b)),plD (if VP w a b=none then w++[(a,b)] else w)]):=hR
   have no:∀c:Str,VP w a b=some c->R (.own [.int (codeN (some c)),plD w]):=fun c e=>by
    rw[e,ZU (by intro z;cases z)] at hR;exact hR
   have bad:¬((1<=a/\a<=10)/\(1<=b/\b<=10))->R (.own [.int 2,plD w]):=fun z=>by
    rw[←Xv];refine no _ ?_;unfold VP;by_cases c1:1<=a/\a<=10
    ·rw[ZU (Y4.mpr c1),ZV (fun y=>z ⟨c1,y⟩)]
    ·rw[ZV c1]
   have mn:∀x y:Int,(if y<x then y else x)<=x/\(if y<x then y else x)<=y/\((if y<x then y else x)=x\/(if y<x then y else x)=y):=fun x y=>by split<;>omega
   have mx:∀x y:Int,x<=(if y>x then y else x)/\y<=(if y>x then y else x)/\((if y>x then y else x)=x\/(if y>x then y else x)=y):=fun x y=>by split<;>omega
   have m1:=mn a b;have m2:=mx a b;refine ite2 (fun g=>iteT ?_) (fun g=>ite2 (fun g2=>?_) (fun g2=>?_))
   ·have g':(if b<a then b else a)<1:=ZX g;exact⟨by simp,bad (by omega)⟩
   ·have g':10<(if b>a then b else a):=ZX g2;exact⟨by simp,bad (by omega)⟩
   ·have n1:¬(if b<a then b else a)<1:=fun z=>g (ZT z);have n2:¬10<(if b>a then b else a):=fun z=>g2 (ZT z);have c1:1<=a/\a<=10:=by omega
    have c2:1<=b/\b<=10:=by omega
    unfold VP at no hR;rw[ZU (Y4.mpr c1),ZU (Y4.mpr c2)] at no hR;refine⟨_,rfl,_,rfl,ite2 (fun g3=>?_) (fun g3=>?_)⟩
    ·have:=no _ (ZV (ZX g3))
     rw[TQ] at this;exact⟨by simp,this⟩
    ·have n3:¬a=b:=fun z=>g3 (ZT z);rw[ZU n3] at no hR;show ∃c,InR (prD (a,b)) (plD w) c/\_;refine⟨_,.lp (a,b) w,ite2 (fun g4=>?_) (fun g4=>?_)⟩
     ·have:=no _ (ZV (ZX g4))
      rw[Nq] at this;exact⟨by simp,this⟩
     ·have n4:¬(a,b)∈w:=fun z=>g4 (ZT z);rw[ZU n4] at no hR;refine ite2 (fun g5=>?_) (fun g5=>?_)
      ·have g':(((w.map prD).length:Nat):Int)=20:=ZX g5
       have:=no _ (ZV (by omega))
       rw[Pv] at this;exact⟨by simp,this⟩
      ·have g':¬(((w.map prD).length:Nat):Int)=20:=fun z=>g5 (ZT z);rw[ZU (by omega),ZV rfl] at hR;refine⟨by simp,rfl,rfl,Yi (Yu (YQ hl) (Ye 1)) (by omega),by simp,?_⟩;have e9:plD (w++[(a,b)])=.lst (w.map prD++[prD (a,b)]):=Y0 D.lst Yq;rw[e9] at hR;exact hR
def EF (G:Glob K mg) (DD:Def K mg "_law_odd" PR ["_law_cell","_law_good"])
  : Tg P w K mg base:=by
 refine DD.oz (k:=0) AQ (fun _ _ _ _ _ _ E hr=>⟨_,(Vg (Vo (cq K hr (Vi V6 (pv 0) Vd) Vd) (Vf (Vj (jx K (Vv (Vs Vd (Vs Vd (Vs (JP JK Vd) (Vs (Vi XQ Vd Vd) VL))))) (Vi V6 (Vi VS (pv 0) Vd) Vd))))
   Vq) (Vf (Vj (pv 1)))), (Vh (Vr (Vl (VE (V5 (Va 0) Vc) Vc)) (Vn (Ve (Vu (Vt Vc (Vt Vc (Vt (JR Vc) (Vt (XN Vc Vc) V2))))) (V5 (VR (Va 0) Vc) Vc))) Vp) (Tn 1))⟩) (.a fun ds R X h=>?_)
 ·obtain⟨c,g,rfl,hR⟩:=h;refine⟨rfl,?_⟩;have h4:0<=c / 7 % 4/\c / 7 % 4<4:=by omega
  refine⟨(by show(0:Int)<7;decide),ite2 (fun _=>?_) (fun _=>hR _)⟩;exact⟨⟨by decide,by decide,by decide⟩,by simp,⟨by decide,by decide⟩,(by show(0:Int)<4;decide),_,Uk (f:=D.int) (xs:=[0,11,-3,10 ^ (30:Int).toNat]) h4.1 h4.2,hR _⟩
def AN (G:Glob K mg) (DD:Def K mg "_law_place" PY ["_law_cell","_law_strips"])
  : BA P w K mg base:=by
 refine DD.oz (k:=0) Hq (fun _ _ _ _ _ _ E hr=>⟨_,(Vg (Vo (cq K hr (Vi V6 (pv 0) Vd) Vd) (Vf (Vj (jx K (Vv (Vs Vd (Vs (JP JK Vd) (Vs (Vi VC (ln K G.len (pv 1)) Vd) (Vs (Vi XQ Vd Vd) VL))))) (Vi V6 (Vi VS (pv 0) Vd) Vd))))
   Vq) (Vg (Vo (V3 (Bp (K:=K) (show _<cLine from hr.units0)) (pv 1) (Vv VL) (V0 _)) (Vf (Vj Vd))
   Vq) (Vf (Vj (Vi VC Vd (Vi V6 (Vi VS (pv 0) Vd) (ln K G.len (pv 1)))))))), (Vh (Vr (Vl (VE (V5 (Va 0) Vc) Vc)) (Vn (Ve (Vu (Vt Vc (Vt (JR Vc) (Vt (VF (V9 (sz (Va 1))) Vc) (Vt (XN Vc Vc) V2))))) (V5 (VR (Va 0) Vc) Vc))) Vp) (Vh (Vr (Vl (TC (Va 1) (Vu V2))) (Vn Vc) Vp) (Vn (VF Vc (V5 (VR (Va 0) Vc) (V9 (sz (Va 1))))))))⟩) (.a fun ds R X h=>?_)
 ·obtain⟨c,ps,rfl,hz,hR⟩:=h;refine⟨rfl,?_⟩;have h4:0<=c / 11 % 4/\c / 11 % 4<4:=by omega
  have hl:(ps.map prD).length=ps.length:=ZR ..;refine⟨(by show(0:Int)<11;decide),ite2 (fun _=>?_) (fun _=>?_)⟩
  ·exact⟨⟨by decide,by decide,by decide⟩,by simp,⟨by decide,by decide⟩,(by show(0:Int)<4;decide),_,Uk (f:=D.int) (xs:=[0,-1,(((ps.map prD).length:Nat):Int)+1,10 ^ (30:Int).toNat]) h4.1 h4.2,hR _⟩
  ·refine⟨by simp,?_⟩;have emp:(ps.map prD).isEmpty=decide (ps=[]):=by cases ps<;>simp
   show if (ps.map prD).isEmpty=true then _ else _;rw[emp];refine ite2 (fun _=>hR _) (fun g=>?_);have hne:0<ps.length:=W6.mpr fun z=>g (ZT z);exact⟨⟨by decide,by decide⟩,(by show 0<(((ps.map prD).length:Nat):Int);omega),hR _⟩
def Ay (G:Glob K mg) (DD:Def K mg "_law_width" Pb ["_law_cell","_law_strips","_law_place_here"])
  : Bz P w K mg base:=by
 refine DD.oz (k:=0) DR (fun _ _ _ _ _ _ E hr=>⟨_,(Vg (Vo (PW.pt (VU (V3 Jt (pv 2) Vd (V0 _)) (VU (V3 JT (pv 2) (ln K G.len (pv 1)) (V0 _)) (Jb (cq K hr (Vi V6 (pv 0) Vd) Vd))))) (Vf (Vj (jx K (Vv (Vs Vd (Vs (JP JK Vd) (Vs Vd (Vs Vd (Vs Vd (Vs Vd (Vs (Vi XQ Vd Vd) VL)))))))) (Vi V6 (Vi VS (pv 0) Vd) Vd))))
   Vq) (Vf (Vj (Vi V6 (Vi VS (pv 0) Vd) (Vi VC (jx K (jx K (pv 1) (Vi Jr (pv 2) Vd)) Vd) Vd))))), (Vh (Vr (VV (Vl (Ju (Va 2) Vc)) (VV (Vl (JQ (Va 2) (V9 (sz (Va 1))))) (Vl (VE (V5 (Va 0) Vc) Vc)))) (Vn (Ve (Vu (Vt Vc (Vt (JR Vc) (Vt Vc (Vt Vc (Vt Vc (Vt Vc (Vt (XN Vc Vc) V2)))))))) (V5 (VR (Va 0) Vc) Vc))) Vp) (Vn (V5 (VR (Va 0) Vc) (VF (Ve (Ve (Va 1) (Jp (Va 2) Vc)) Vc) Vc))))⟩) (.a fun ds R X h=>?_)
 ·obtain⟨c,ps,p,rfl,hz,hF,hR⟩:=h;refine⟨rfl,?_⟩;have hl:(ps.map prD).length=ps.length:=ZR ..;have h7:0<=c / 5 % 7/\c / 5 % 7<7:=by omega
  have out:∃v:Int,atI ([0,-1,1,1000,1001,999,10 ^ (30:Int).toNat].map D.int) (c / 5 % 7)=some (.int v):=⟨_,Uk (f:=D.int) (xs:=[0,-1,1,1000,1001,999,10 ^ (30:Int).toNat]) h7.1 h7.2⟩;obtain⟨v,ev⟩:=out;refine ite2 (fun g=>iteT ?_) (fun g=>ite2 (fun g2=>iteT ?_) (fun g2=>⟨(by show(0:Int)<5;decide),ite2 (fun g3=>?_) (fun g3=>?_)⟩))
  ·exact⟨⟨by decide,by decide,by decide⟩,by simp,⟨by decide,by decide⟩,(by show(0:Int)<7;decide),_,ev,hR _⟩
  ·exact⟨⟨by decide,by decide,by decide⟩,by simp,⟨by decide,by decide⟩,(by show(0:Int)<7;decide),_,ev,hR _⟩
  ·exact⟨⟨by decide,by decide,by decide⟩,by simp,⟨by decide,by decide⟩,(by show(0:Int)<7;decide),_,ev,hR _⟩
  ·have n1:¬p<1:=fun z=>g (ZT z);have n2:¬(((ps.map prD).length:Nat):Int)<p:=fun z=>g2 (ZT z);have hm:=hF _ (Kc (ps:=ps) (p:=p) (by omega) (by omega));exact⟨⟨by decide,by decide⟩,_,Uo (by omega) (by omega),_,rfl,(by show 0<(atP1 ps p).2+1;omega),hR _⟩
def Dc (G:Glob K mg) (DD:Def K mg "check_strips" TB ["strips"])
  (Zi:Ky P w K mg base)
  (Zs:SK P w K mg base)
  : Sb P w K mg base:=by
 refine DD.ox (k:=1) Pi (fun _ _ _ _ _ _ E hr=>⟨_,(Vg (Vo (V3 JT (ln K G.len (pv 0)) (ExcR.JC G.STRIPS) (V0 _)) (Vf (ExcR.Jm G.g_TooManyStrips.c G.m_TooManyStrips ExcR.Jk rfl (az (ExcR.pe_f (ExcR.JJ (ExcR.UC (ExcR.JC G.STRIPS) (ExcR.JJ ExcR.UB)))))))
   Vq) (Vf (JY ExcR.HC rfl (UR (K:=K) (pv 0)) (AO (K:=K) (n:=2) rfl (BG (gz 1 Pi.nd) (BG (gz 2 Pi.nd) G8))) (Vg (VO (J1 Zi (hr.mono (by decide)) ExcR.VT (az (pv 1)))) (Vf (VO (J1 Zs (hr.mono (by decide)) ExcR.VT (az (pv 2))))))))), (Vh (Vr (Vl (JQ (V9 (sz (Va 0))) Vc)) (Jo (sz (se_f (JU (UU Vc (JU US)))))) Vp) (Vw 0 (JX [1,2] (Kn (Va 0)) (Ab (Fm (Vm 1) (Fm (Vm 2) F6))) (Vh (Jx (J2 (sz (Va 1)))) (Jx (J2 (sz (Va 2))))))))⟩) (.a fun ds R X h=>?_)
 ·obtain⟨ps,rfl,hz,hR⟩:=h;refine⟨rfl,?_⟩;have hl:(ps.map prD).length=ps.length:=ZR ..;unfold Xb at hR;refine ite2 (fun g=>?_) (fun g=>?_)
  ·have g':(40:Int)<((ps.map prD).length:Int):=ZX g;rw[ZV (by omega)] at hR;exact⟨by decide,by decide,by decide,by decide,by decide,by simp,hR⟩
  ·have g':¬(40:Int)<((ps.map prD).length:Int):=fun z=>g (ZT z);rw[ZU (by omega)] at hR;refine⟨rfl,Kq (xs:=ps) (emb:=prD) (fun i γ'=>γ'=[some (.bor (plD ps)),none,none]/\U5 (ps.drop i)=U5 ps) ⟨rfl,rfl⟩ ?_ ?_⟩
   ·rintro i hi γ' ⟨rfl,hf⟩;have ed:ps.drop i=ps[i]::ps.drop (i+1):=List.drop_eq_getElem_cons hi;rw[ed,FF] at hf;generalize ps[i]=p at hf ⊢;refine⟨rfl,p.1,rfl,?_⟩;unfold UW;by_cases c:1<=p.1/\p.1<=10
    ·rw[ZU (fun z=>z c)] at hf;rw[ZV c];refine⟨p.2,rfl,?_⟩;unfold Pm;by_cases c2:1<=p.2/\p.2<=1000
     ·rw[ZU (fun z=>z c2)] at hf;rw[ZV c2];exact⟨rfl,hf⟩
     ·rw[ZV c2] at hf;rw[ZU c2];rw[←hf] at hR;exact hR
    ·rw[ZV c] at hf;rw[ZU c];rw[←hf] at hR;exact hR
   ·rintro γ' ⟨rfl,hf⟩;rw[List.drop_length] at hf;rw[←hf] at hR;exact hR
def Dr (G:Glob K mg) (DD:Def K mg "sold" PP ["strips","place","holder"])
  (Zm:TR P w K mg base)
  (Zi:Ky P w K mg base)
  : Fq P w K mg base:=by
 refine DD.ox (k:=1) Fd (fun _ _ _ _ _ _ E hr=>⟨_,(Vg (VO (J1 Zm (hr.mono (by decide)) ExcR.VT (bz (pv 0) (pv 1)))) (Vg (VO (J1 Zi (hr.mono (by decide)) ExcR.VT (az (pv 2)))) (Vg (Pu.pz 3 Fd.nd (jx K (pv 0) (Vi Jr (pv 1) Vd))) (Vg (Vo (cq K hr (jx K (pv 3) Vd) (pv 2)) (Vf (ExcR.Jm G.g_OwnStrip.c G.m_OwnStrip ExcR.Jk rfl (az VB)))
   Vq) (Vf (Vj (Vi Jv (Vi Jv (J9 (J6 (K:=K)) (pv 0) JD (Jy (Vi Jr (pv 1) Vd))) (Vv (az (V7 (bz (pv 2) (jx K (pv 3) Vd)))))) (J9 (J6 (K:=K)) (pv 0) (Jy (pv 1)) JD)))))))), (Vh (Jx (J2 (tz (Va 0) (Va 1)))) (Vh (Jx (J2 (sz (Va 2)))) (Vh (Vx (Ve (Va 0) (Jp (Va 1) Vc)) (Vm 3)) (Vh (Vr (Vl (VE (Ve (Va 3) Vc) (Va 2))) (Jo (sz VA)) Vp) (Vw 2 (Vn (Jz (Jz (JI (Va 0) JE (Jw (Jp (Va 1) Vc))) (Vu (sz (V8 (tz (Va 2) (Ve (Va 3) Vc)))))) (JI (Va 0) (Jw (Va 1)) JE))))))))⟩) (.a fun ds R X h=>?_)
 ·obtain⟨ps,p,h,rfl,hz,hR⟩:=h;refine⟨rfl,?_⟩;unfold VZ at hR;refine⟨ps,p,rfl,?_⟩;unfold Kf;by_cases c:p<1\/(ps.length:Int)<p
  ·rw[ZV c] at hR ⊢;exact hR
  ·rw[ZU c] at hR ⊢;refine⟨h,rfl,?_⟩;unfold UW;by_cases c2:1<=h/\h<=10
   ·rw[ZU (fun z=>z c2)] at hR;rw[ZV c2];refine⟨_,Uo (by omega) (by omega),?_⟩;have l1:(cutD (ps.map prD) none (some (p-1))).length<=1000:=by have:=(Uu (ps.map prD) none (some (p-1))).length_le;rw[ZR] at this;omega
    have l2:(cutD (ps.map prD) (some p) none).length<=1000:=by have:=(Uu (ps.map prD) (some p) none).length_le;rw[ZR] at this;omega
    refine⟨_,rfl,ite2 (fun g=>?_) (fun g=>?_)⟩
    ·have g':(atP1 ps p).1=h:=ZX g;rw[ZV g'] at hR;exact⟨by simp,hR⟩
    ·have g':¬(atP1 ps p).1=h:=fun z=>g (ZT z);rw[ZU g'] at hR;refine⟨JB _,_,rfl,by simp,by simp,rfl,rfl,Yi (Yu l1 (Ye 1)) (by decide),JB _,rfl,rfl,Yi (Yu (by rw[ZZ];exact Yu l1 (Ye 1)) l2) (by decide),?_⟩;have e:=B1 (ps:=ps) (p:=p) (x:=(h,(atP1 ps p).2)) (by omega) (by omega);show R (.own (cutD (ps.map prD) none (some (p-1))++[prD (h,(atP1 ps p).2)]++cutD (ps.map prD) (some p) none));rw[e];exact hR
   ·rw[ZV c2] at hR;rw[ZU c2];exact hR
def Hl (G:Glob K mg) (DD:Def K mg "parted" Pj ["strips","place","width"])
  (Zm:TR P w K mg base)
  : NA P w K mg base:=by
 refine DD.ox (k:=1) SC (fun _ _ _ _ _ _ E hr=>⟨_,(Vg (VO (J1 Zm (hr.mono (by decide)) ExcR.VT (bz (pv 0) (pv 1)))) (Vg (Pu.pz 3 SC.nd (jx K (pv 0) (Vi Jr (pv 1) Vd))) (Vg (Vo (PW.pt (VU (V3 Jt (pv 2) Vd (V0 _)) (Jb (V3 Xg (pv 2) (jx K (pv 3) Vd) (V0 _))))) (Vf (ExcR.Jm G.g_BadPart.c G.m_BadPart ExcR.Jk rfl (az VB)))
   Vq) (Vg (Vo (V3 Xg (ln K G.len (pv 0)) (ExcR.JC G.STRIPS) (V0 _)) (Vf (ExcR.Jm G.g_TooManyStrips.c G.m_TooManyStrips ExcR.Jk rfl (az (ExcR.pe_f (ExcR.JJ (ExcR.UC (ExcR.JC G.STRIPS) (ExcR.JJ ExcR.UB)))))))
   Vq) (Vf (Vj (Vi Jv (Vi Jv (J9 (J6 (K:=K)) (pv 0) JD (Jy (Vi Jr (pv 1) Vd))) (Vv (bz (V7 (bz (jx K (pv 3) Vd) (pv 2))) (V7 (bz (jx K (pv 3) Vd) (Vi Jr (jx K (pv 3) Vd) (pv 2))))))) (J9 (J6 (K:=K)) (pv 0) (Jy (pv 1)) JD)))))))), (Vh (Jx (J2 (tz (Va 0) (Va 1)))) (Vh (Vx (Ve (Va 0) (Jp (Va 1) Vc)) (Vm 3)) (Vh (Vr (VV (Vl (Ju (Va 2) Vc)) (Vl (Xn (Va 2) (Ve (Va 3) Vc)))) (Jo (sz VA)) Vp) (Vh (Vr (Vl (Xn (V9 (sz (Va 0))) Vc)) (Jo (sz (se_f (JU (UU Vc (JU US)))))) Vp) (Vw 2 (Vn (Jz (Jz (JI (Va 0) JE (Jw (Jp (Va 1) Vc))) (Vu (tz (V8 (tz (Ve (Va 3) Vc) (Va 2))) (V8 (tz (Ve (Va 3) Vc) (Jp (Ve (Va 3) Vc) (Va 2))))))) (JI (Va 0) (Jw (Va 1)) JE))))))))⟩) (.a fun ds R X h=>?_)
 ·obtain⟨ps,p,w,rfl,hz,hR⟩:=h;refine⟨rfl,?_⟩;have hl:(ps.map prD).length=ps.length:=ZR ..;refine⟨ps,p,rfl,?_⟩;unfold VW at hR;unfold Kf;by_cases c:p<1\/(ps.length:Int)<p
  ·rw[ZV c] at hR ⊢;exact hR
  ·rw[ZU c] at hR ⊢;refine⟨_,Uo (by omega) (by omega),?_⟩
   have go:¬(w<1\/(atP1 ps p).2<=w)->_:=fun c2=>by
    rw[ZU c2] at hR;exact hR
   by_cases c2:w<1\/(atP1 ps p).2<=w
   ·rw[ZV c2] at hR;refine ite2 (fun g=>iteT ⟨by simp,hR⟩) (fun g=>⟨_,rfl,ite2 (fun g2=>⟨by simp,hR⟩) (fun g2=>?_)⟩);have g':¬w<1:=fun z=>g (ZT z);have g2':¬(atP1 ps p).2<=w:=fun z=>g2 (ZT z);omega
   ·rw[ZU c2] at hR;refine ite2 (fun g=>absurd (ZX g) (by omega)) (fun g=>⟨_,rfl,ite2 (fun g2=>absurd (ZX g2) (by omega)) (fun g2=>?_)⟩);refine ite2 (fun g3=>?_) (fun g3=>?_)
    ·have g3':(40:Int)<=((ps.map prD).length:Int):=ZX g3;rw[ZV (by omega)] at hR;exact⟨by decide,by decide,by decide,by decide,by decide,by simp,hR⟩
    ·have g3':¬(40:Int)<=((ps.map prD).length:Int):=fun z=>g3 (ZT z);rw[ZU (by omega)] at hR;have l1:(cutD (ps.map prD) none (some (p-1))).length<=1000:=by have:=(Uu (ps.map prD) none (some (p-1))).length_le;rw[ZR] at this;omega
     have l2:(cutD (ps.map prD) (some p) none).length<=1000:=by have:=(Uu (ps.map prD) (some p) none).length_le;rw[ZR] at this;omega
     refine⟨JB _,_,rfl,by simp,_,rfl,_,rfl,by simp,by simp,rfl,rfl,Yi (Yu l1 (Ye 2)) (by decide),JB _,rfl,rfl,Yi (Yu (by rw[ZZ];exact Yu l1 (Ye 2)) l2) (by decide),?_⟩;rw[←Fb (by omega)] at hR;exact hR
def Gy (G:Glob K mg) (DD:Def K mg "united" PV ["strips","place"])
  (Zt:Bn P w K mg base)
  : SI P w K mg base:=by
 refine DD.ox (k:=1) Tc (fun _ _ _ _ _ _ E hr=>⟨_,(Vg (VO (J1 Zt (hr.mono (by decide)) ExcR.VT (bz (pv 0) (pv 1)))) (Vg (Pu.pz 2 Tc.nd (jx K (pv 0) (Vi Jr (pv 1) Vd))) (Vg (Pu.pz 3 Tc.nd (jx K (pv 0) (pv 1))) (Vg (Vo (cn K hr (jx K (pv 2) Vd) (jx K (pv 3) Vd)) (Vf (ExcR.Jm G.g_UnlikeHolders.c G.m_UnlikeHolders ExcR.Jk rfl (az VB)))
   Vq) (Vg (Vo (V3 JT (Vi VC (jx K (pv 2) Vd) (jx K (pv 3) Vd)) (ExcR.JC G.WIDEST) (V0 _)) (Vf (ExcR.Jm G.g_TooWide.c G.m_TooWide ExcR.Jk rfl (az (ExcR.pe_f (ExcR.JJ (ExcR.UC (ExcR.JC G.WIDEST) (ExcR.JJ ExcR.UB)))))))
   Vq) (Vf (Vj (Vi Jv (Vi Jv (J9 (J6 (K:=K)) (pv 0) JD (Jy (Vi Jr (pv 1) Vd))) (Vv (az (V7 (bz (jx K (pv 2) Vd) (Vi VC (jx K (pv 2) Vd) (jx K (pv 3) Vd))))))) (J9 (J6 (K:=K)) (pv 0) (Jy (Vi VC (pv 1) Vd)) JD))))))))), (Vh (Jx (J2 (tz (Va 0) (Va 1)))) (Vh (Vx (Ve (Va 0) (Jp (Va 1) Vc)) (Vm 2)) (Vh (Vx (Ve (Va 0) (Va 1)) (Vm 3)) (Vh (Vr (Vl (Ud (Ve (Va 2) Vc) (Ve (Va 3) Vc))) (Jo (sz VA)) Vp) (Vh (Vr (Vl (JQ (VF (Ve (Va 2) Vc) (Ve (Va 3) Vc)) Vc)) (Jo (sz (se_f (JU (UU Vc (JU US)))))) Vp) (Vn (Jz (Jz (JI (Va 0) JE (Jw (Jp (Va 1) Vc))) (Vu (sz (V8 (tz (Ve (Va 2) Vc) (VF (Ve (Va 2) Vc) (Ve (Va 3) Vc))))))) (JI (Va 0) (Jw (VF (Va 1) Vc)) JE))))))))⟩) (.a fun ds R X h=>?_)
 ·obtain⟨ps,p,rfl,hz,hR⟩:=h;refine⟨rfl,?_⟩;have hl:(ps.map prD).length=ps.length:=ZR ..;refine⟨ps,p,rfl,?_⟩;unfold uniE at hR;by_cases c:p<1\/(ps.length:Int)<=p
  ·rw[ZV c] at hR ⊢;exact hR
  ·rw[ZU c] at hR ⊢
   have e2:atI (ps.map prD) p=some (prD (atP1 ps (p+1))):=by
    have:=Uo (ps:=ps) (p:=p+1) (by omega) (by omega)
    rwa[show p+1-1=p by omega] at this
   refine⟨_,Uo (by omega) (by omega),_,e2,_,rfl,_,rfl,ite2 (fun g=>?_) (fun g=>?_)⟩
   ·have g':¬(atP1 ps p).1=(atP1 ps (p+1)).1:=fun z=>by rw[ZT z] at g;cases g
    rw[ZV g'] at hR;exact⟨by simp,hR⟩
   ·have g':(atP1 ps p).1=(atP1 ps (p+1)).1:=YZ fun z=>g (by rw[Yk z];rfl);rw[ZU (fun z=>z g')] at hR;refine⟨_,rfl,_,rfl,ite2 (fun g2=>?_) (fun g2=>?_)⟩
    ·rw[ZV (ZX g2)] at hR;exact⟨by decide,by decide,by decide,by decide,by decide,by simp,hR⟩
    ·rw[ZU (fun z=>g2 (ZT z))] at hR;have l1:(cutD (ps.map prD) none (some (p-1))).length<=1000:=by have:=(Uu (ps.map prD) none (some (p-1))).length_le;rw[ZR] at this;omega
     have l2:(cutD (ps.map prD) (some (p+1)) none).length<=1000:=by have:=(Uu (ps.map prD) (some (p+1)) none).length_le;rw[ZR] at this;omega
     refine⟨JB _,_,rfl,_,rfl,_,rfl,by simp,by simp,rfl,rfl,Yi (Yu l1 (Ye 1)) (by decide),JB _,rfl,rfl,Yi (Yu (by rw[ZZ];exact Yu l1 (Ye 1)) l2) (by decide),?_⟩;rw[←Fz (by omega)] at hR;exact hR
def AC (G:Glob K mg) (DD:Def K mg "with_wish" P1 ["wishes","ahead","behind"])
  (Zi:Ky P w K mg base)
  : N5 P w K mg base:=by
 refine DD.ox (k:=1) AL (fun _ _ _ _ _ _ E hr=>⟨_,(Vg (VO (J1 Zi (hr.mono (by decide)) ExcR.VT (az (pv 1)))) (Vg (VO (J1 Zi (hr.mono (by decide)) ExcR.VT (az (pv 2)))) (Vg (Vo (cq K hr (pv 1) (pv 2)) (Vf (ExcR.Jm G.g_LikeHolders.c G.m_LikeHolders ExcR.Jk rfl (az VB)))
   Vq) (Vg (Vo (V3 (BC (K:=K) (show _<cLine from Kv hr)) (V7 (bz (pv 1) (pv 2))) (pv 0) (by with_unfolding_all rfl)) (Vf (ExcR.Jm G.g_WishStands.c G.m_WishStands ExcR.Jk rfl (az VB)))
   Vq) (Vg (Vo (V3 Xg (ln K G.len (pv 0)) (ExcR.JC G.MOST_WISHES) (V0 _)) (Vf (ExcR.Jm G.g_TooManyWishes.c G.m_TooManyWishes ExcR.Jk rfl (az (ExcR.pe_f (ExcR.JJ (ExcR.UC (ExcR.JC G.MOST_WISHES) (ExcR.JJ ExcR.UB)))))))
   Vq) (Vf (Vj (Vi Jv (pv 0) (Vv (az (V7 (bz (pv 1) (pv 2))))))))))))), (Vh (Jx (J2 (sz (Va 1)))) (Vh (Jx (J2 (sz (Va 2)))) (Vh (Vr (Vl (VE (Va 1) (Va 2))) (Jo (sz VA)) Vp) (Vh (Vr (Vl (K4 (V8 (tz (Va 1) (Va 2))) (Va 0))) (Jo (sz VA)) Vp) (Vh (Vr (Vl (Xn (V9 (sz (Va 0))) Vc)) (Jo (sz (se_f (JU (UU Vc (JU US)))))) Vp) (Vw 2 (Vw 1 (Vn (Jz (Va 0) (Vu (sz (V8 (tz (Va 1) (Va 2))))))))))))))⟩) (.a fun ds R X h=>?_)
 ·obtain⟨ws,a,b,rfl,hz,hR⟩:=h;refine⟨rfl,?_⟩;have hl:(ws.map prD).length=ws.length:=ZR ..;unfold VP at hR;refine⟨a,rfl,?_⟩;unfold UW;by_cases c1:1<=a/\a<=10
  ·rw[ZU (fun z=>z c1)] at hR;rw[ZV c1];refine⟨b,rfl,?_⟩;unfold UW;by_cases c2:1<=b/\b<=10
   ·rw[ZU (fun z=>z c2)] at hR;rw[ZV c2];refine ite2 (fun g=>?_) (fun g=>?_)
    ·rw[ZV (ZX g)] at hR;exact⟨by simp,hR⟩
    ·rw[ZU (fun z=>g (ZT z))] at hR;refine⟨by simp,_,.lp (a,b) ws,ite2 (fun g2=>?_) (fun g2=>?_)⟩
     ·rw[ZV (ZX g2)] at hR;exact⟨by simp,hR⟩
     ·rw[ZU (fun z=>g2 (ZT z))] at hR;refine ite2 (fun g3=>?_) (fun g3=>?_)
      ·have g3':(20:Int)<=((ws.map prD).length:Int):=ZX g3;rw[ZV (by omega)] at hR;exact⟨by decide,by decide,by decide,by decide,by decide,by simp,hR⟩
      ·have g3':¬(20:Int)<=((ws.map prD).length:Int):=fun z=>g3 (ZT z);rw[ZU (by omega)] at hR;refine⟨by simp,by simp,JB _,rfl,Yi (Yu (Yi (YQ hl) hz) (Ye 1)) (by decide),?_⟩;rw[Yq] at hR;exact hR
   ·rw[ZV c2] at hR;rw[ZU c2];exact hR
  ·rw[ZV c1] at hR;rw[ZU c1];exact hR
def Gb (G:Glob K mg) (DD:Pu.DefM K (Meth K (ExcR.Vb mg "Village") "drop") "drop" "Village.drop" KU ["self","ahead","behind"])
  (Ze:Xe P w K mg base)
  (Zu:SH P w K mg base)
  (Zf:Xm P w K mg base)
  (Zc:UG P w K mg base)
  (Zd:UP P w K mg base)
  : N8 P w K mg base:=by
 refine DD.ox (k:=1) B8 (fun _ _ _ _ _ _ E hr=>⟨_,(Vg (VO (Jj Ze G.cl_Village (hr.mono (by decide)) ExcR.VT (pv 0))) (Vg (Pu.pz 3 B8.nd (J1 Zu (hr.mono (by decide)) ExcR.VT (dz (Jj Zc G.cl_Village (hr.mono (by decide)) Je (pv 0)) (pv 1) (pv 2)))) (Vf (Vj (JZ Zf G.cl_Village (hr.mono (by decide)) Je (pv 0) (dz (V7 (dz VB (pv 1) (pv 2))) (Jj Zd G.cl_Village (hr.mono (by decide)) Je (pv 0)) (pv 3))))))), (Vh (Jx (X8 XH (Va 0) V2)) (Vh (Vx (J2 (uz (J8 Xf (Va 0) V2) (Va 1) (Va 2))) (Vm 3)) (Vw 2 (Vw 1 (Vw 3 (JV (X6 0 XS (uz (V8 (uz VA (Va 1) (Va 2))) (J8 Xi (Va 0) V2) (Va 3)))))))))⟩) (.c fun o ss R X h=>?_)
 ·obtain⟨x,b1,b2,b3,bk,fs,ws,f,w,p,h,rfl,rfl,hb,hf,hw,hz,hR⟩:=h;refine⟨rfl,?_⟩;unfold Kb at hR;refine⟨rfl,rfl,bk,fs++[f],ws++[w],rfl,?_⟩;unfold UN;by_cases c:100<=bk.length
  ·rw[ZV c] at hR ⊢;exact⟨_,rfl,⟨rfl,by simp⟩,hR⟩
  ·rw[ZU c] at hR ⊢;refine⟨rfl,rfl,bk,fs++[f],ws,w,rfl,w,p,h,rfl,hz,?_⟩;cases e:VY w p h with
   | some c=>
    rw[e] at hR;exact⟨_,rfl,⟨rfl,by simp⟩,hR⟩
   | none=>
    rw[e] at hR;refine⟨rfl,rfl,by simp,rfl,rfl,bk,fs,ws++[w],f,rfl,?_⟩;exact⟨x,b1,b2,b3,bk,fs++[f],ws++[w],("drop",[p,h]),f,UZ w p h,rfl,rfl,hb,by rw[ZZ];simp;omega,by rw[ZZ];simp;omega,_,rfl,⟨rfl,by simp⟩,hR⟩
def Ag (G:Glob K mg) (DD:Def K mg "_law_draw" TJ ["_law_script","_law_k"])
  (Zh:XJ P w K mg base)
  (Zb:Xc P w K mg base)
  : Fe P w K mg base:=by
 refine DD.oz (k:=1) EK (fun _ _ _ _ _ _ E hr=>⟨_,(Vg (Vo (cq K hr (Vi V6 (fz Zb hr (bz (pv 0) Vd)) Vd) Vd) (Vf (Vj (fz Zb hr (bz (pv 0) (Vi VC Vd (pv 1))))))
   Vq) (Vf (Vj (fz Zh hr (bz (fz Zb hr (bz (pv 0) Vd)) (pv 1)))))), (Vh (Vr (Vl (VE (V5 (Vz (tz (Va 0) Vc)) Vc) Vc)) (Vn (Vz (tz (Va 0) (VF Vc (Va 1))))) Vp) (Vn (Vz (tz (Vz (tz (Va 0) Vc)) (Va 1)))))⟩) (.a fun ds R X h=>?_)
 ·obtain⟨ns,k,rfl,hk,hR⟩:=h;refine⟨rfl,?_⟩;refine⟨ns,0,rfl,by decide,(by show(0:Int)<2;decide),ite2 (fun _=>?_) (fun _=>?_)⟩
  ·exact⟨ns,_,rfl,by omega,hR _⟩
  ·exact⟨ns,1,rfl,by decide,_,_,rfl,hR _⟩
def EY (G:Glob K mg) (DD:Def K mg "_law_tuples" P6 ["_law_found","_law_due"])
  (Zj:Kz P w K mg base)
  : T6 P w K mg base:=by
 refine DD.oz (k:=1) KN (fun _ _ _ _ _ _ E hr=>⟨_,(Vg (Vo (PW.pt (VU (Jc (Jd (K:=K) (VH (U2 (K:=K)) (by rfl) G.isinstance Yn (bz (pv 0) (JW (v:=.ty "list") rfl G.list boot_list rfl))))) (Jb (cn K hr (ln K G.len (pv 0)) (ln K G.len (pv 1)))))) (Vf (Vj VJ))
   Vq) (Vg (JY YL rfl (UL rfl G.range (az (ln K G.len (pv 1)))) (gz 2 KN.nd) (Vg (Vo (PW.pt (VU (Jc (Jd (K:=K) (VH (U2 (K:=K)) (by rfl) G.isinstance Yn (bz (jx K (pv 0) (pv 2)) (JW (v:=.ty "tuple") rfl G.tuple boot_tuple rfl))))) (Jb (cn K hr (ln K G.len (jx K (pv 0) (pv 2))) (ln K G.len (jx K (pv 1) (pv 2))))))) (Vf (Vj VJ))
   Vq) (Vf (JY YL rfl (UL rfl G.range (az (ln K G.len (jx K (pv 1) (pv 2))))) (gz 3 KN.nd) (Vf (Vo (PW.pt (VU (Jc (Jd (K:=K) (fz Zj hr (az (jx K (jx K (pv 0) (pv 2)) (pv 3)))))) (Jb (cn K hr (jx K (jx K (pv 0) (pv 2)) (pv 3)) (jx K (jx K (pv 1) (pv 2)) (pv 3)))))) (Vf (Vj VJ))
   Vq)))))) (Vf (Vj VJ)))), (Vh (Vr (VV (Jg (Jh (U6 (tz (Va 0) Ua)))) (Vl (Ud (V9 (sz (Va 0))) (V9 (sz (Va 1)))))) (Vn VI) Vp) (Vh (JX [2,3] (UK (sz (V9 (sz (Va 1))))) (Vm 2) (Vh (Vr (VV (Jg (Jh (U6 (tz (Ve (Va 0) (Va 2)) Ua)))) (Vl (Ud (V9 (sz (Ve (Va 0) (Va 2)))) (V9 (sz (Ve (Va 1) (Va 2))))))) (Vn VI) Vp) (JX [3] (UK (sz (V9 (sz (Ve (Va 1) (Va 2)))))) (Vm 3) (Vr (VV (Jg (Jh (Vz (sz (Ve (Ve (Va 0) (Va 2)) (Va 3)))))) (Vl (Ud (Ve (Ve (Va 0) (Va 2)) (Va 3)) (Ve (Ve (Va 1) (Va 2)) (Va 3))))) (Vn VI) Vp)))) (Vn VI)))⟩) (.a fun ds R X h=>?_)
 ·obtain⟨ps,rfl,hz,hR⟩:=h;refine⟨rfl,?_⟩;have hl:(ps.map prD).length=ps.length:=ZR ..;refine⟨_,.same _,iteF (UV rfl ?_)⟩;refine⟨⟨by omega,by omega⟩,UD (fun i γ'=>∃t,γ'=[some (.bor (.lst (ps.map prD))),some (.bor (.lst (ps.map prD))),none,t]) ⟨_,rfl⟩ ?_ ?_⟩
  ·rintro i γ' hi ⟨t,rfl⟩;have hi':i<(((ps.map prD).length:Nat):Int).toNat:=hi;have ez:(0:Int)+(i:Int)=(i:Int):=by omega
   have hb:i<ps.length:=by omega
   have ha:atI (ps.map prD) (0+(i:Int))=some (prD ps[i]):=by rw[ez];exact NY hb
   generalize ps[i]=q at ha;refine⟨_,ha,_,.same _,iteF ⟨_,ha,_,ha,?_⟩⟩;refine⟨_,ha,⟨(by show -(2 ^ 62)<=(2:Int);decide),(by show(2:Int)<2 ^ 62;decide)⟩,UD (fun j γ'=>∃t,γ'=[some (.bor (.lst (ps.map prD))),some (.bor (.lst (ps.map prD))),some (.sh (.int (0+(i:Int)))),t]) ⟨_,rfl⟩ ?_ ?_⟩
   ·rintro j γ' hj ⟨t,rfl⟩;have hj2:j<2:=hj
    obtain⟨z,ea⟩:∃z:Int,atI [D.int q.1,D.int q.2] (0+(j:Int))=some (.int z):=by
     have:j=0\/j=1:=by omega
     rcases this with rfl|rfl
     ·exact⟨_,rfl⟩
     ·exact⟨_,rfl⟩
    exact⟨_,ha,_,ea,z,rfl,iteF ⟨_,ha,_,ea,_,ha,_,ea,UV rfl ⟨_,rfl⟩⟩⟩
   ·rintro γ' ⟨t,rfl⟩;exact⟨_,rfl⟩
  ·rintro γ' ⟨t,rfl⟩;exact hR
def Dn (G:Glob K mg) (DD:Def K mg "_law_deed_is" KQ ["_law_found","_law_due"])
  (Zj:Kz P w K mg base)
  : Ti P w K mg base:=by
 refine DD.oz (k:=1) N4 (fun _ _ _ _ _ _ E hr=>⟨_,(Vg (Vo (PW.pt (VU (Jc (Jd (K:=K) (VH (U2 (K:=K)) (by rfl) G.isinstance Yn (bz (pv 0) (JW (v:=.ty "tuple") rfl G.tuple boot_tuple rfl))))) (VU (cn K hr (ln K G.len (pv 0)) (ln K G.len (pv 1))) (Jb (Jc (Jd (K:=K) (VH (U2 (K:=K)) (by rfl) G.isinstance Yn (bz (jx K (pv 0) Vd) (JW (v:=.ty "str") rfl G.str boot_str rfl))))))))) (Vf (Vj VJ))
   Vq) (Vg (Vo (cn K hr (jx K (pv 0) Vd) (jx K (pv 1) Vd)) (Vf (Vj VJ))
   Vq) (Vg (JY YL rfl (SO rfl G.range (bz Vd (ln K G.len (pv 1)))) (gz 2 N4.nd) (Vf (Vo (PW.pt (VU (Jc (Jd (K:=K) (fz Zj hr (az (jx K (pv 0) (pv 2)))))) (Jb (cn K hr (jx K (pv 0) (pv 2)) (jx K (pv 1) (pv 2)))))) (Vf (Vj VJ))
   Vq))) (Vf (Vj VJ))))), (Vh (Vr (VV (Jg (Jh (U6 (tz (Va 0) Ua)))) (VV (Vl (Ud (V9 (sz (Va 0))) (V9 (sz (Va 1))))) (Jg (Jh (U6 (tz (Ve (Va 0) Vc) Ua)))))) (Vn VI) Vp) (Vh (Vr (Vl (Ud (Ve (Va 0) Vc) (Ve (Va 1) Vc))) (Vn VI) Vp) (Vh (JX [2] (Ss (tz Vc (V9 (sz (Va 1))))) (Vm 2) (Vr (VV (Jg (Jh (Vz (sz (Ve (Va 0) (Va 2)))))) (Vl (Ud (Ve (Va 0) (Va 2)) (Ve (Va 1) (Va 2))))) (Vn VI) Vp)) (Vn VI))))⟩) (.a fun ds R X h=>?_)
 ·obtain⟨q,rfl,hz,hR⟩:=h;refine⟨rfl,?_⟩;have hl:(D.str q.1::q.2.map D.int).length=q.2.length+1:=by rw[Ys,ZR]
  rw[Al];show _;rw[Yy,K0];refine⟨_,.same _,iteF (UV rfl ⟨_,J0 _ _,_,.same _,iteF ⟨_,J0 _ _,_,J0 _ _,UV rfl ?_⟩⟩)⟩;refine⟨⟨by omega,by omega⟩,UD (fun i γ'=>γ'=[some (.sh (dD q)),some (.sh (dD q)),none]) rfl ?_ ?_⟩
  ·rintro i γ' hi rfl
   have hi':i<q.2.length:=by
    have:i<((((D.str q.1::q.2.map D.int).length:Nat):Int)-1).toNat:=hi
    omega
   exact⟨_,Nb hi',_,rfl,iteF ⟨_,Nb hi',_,Nb hi',UV rfl rfl⟩⟩
  ·rintro γ' rfl;exact hR
def A2 (G:Glob K mg) (DD:Def K mg "_law_step" Ta ["_law_now","_law_deed_here"])
  (Zv:S9 P w K mg base)
  (Zw:Fv P w K mg base)
  : Fx P w K mg base:=by
 refine DD.oz (k:=1) Ts (fun _ _ _ _ _ _ E hr=>⟨_,(Vg (Vo (PW.pt (VU (cq K hr (jx K (pv 1) Vd) VB) (Jb (cq K hr (jx K (pv 1) Vd) VB)))) (Vg (Pu.pz 2 Ts.nd (fz Zw hr (bz (jx K (pv 0) Vd) (pv 1)))) (Vf (Vj (Vv (dz (jx K (pv 2) Vd) (jx K (pv 0) Vd) (jx K (pv 2) Vd))))))
   Vq) (Vg (Pu.pz 2 Ts.nd (fz Zv hr (bz (jx K (pv 0) Vd) (pv 1)))) (Vf (Vj (Vv (dz (jx K (pv 2) Vd) (jx K (pv 2) Vd) (jx K (pv 0) Vd))))))), (Vh (Vr (VV (Vl (VE (Ve (Va 1) Vc) VA)) (Vl (VE (Ve (Va 1) Vc) VA))) (Vh (Vw 1 (Vx (KY (tz (Ve (Va 0) Vc) (Va 1))) (Vm 2))) (Vn (Vu (uz (Ve (Va 2) Vc) (Ve (Va 0) Vc) (Ve (Va 2) Vc))))) Vp) (Vh (Vw 1 (Vx (KY (tz (Ve (Va 0) Vc) (Va 1))) (Vm 2))) (Vn (Vu (uz (Ve (Va 2) Vc) (Ve (Va 2) Vc) (Ve (Va 0) Vc))))))⟩) (.b fun ds R X h=>?_)
 ·obtain⟨f,w,ds,x,rfl,hz,hw,hR⟩:=h;refine⟨rfl,?_⟩;have at1:atI (plD f::plD w::ds) 1=some (plD w):=Xr (by decide) rfl
  have land:∀x:Dd,x.land=true->R (.own [.int (codeN (x.err f w)),plD (x.nf f w),plD (x.nw f w)])->R (.own [.int (codeN (x.err f [])),plD (x.fld' f),plD w]):=fun x h k=>by
   have e:=x.err_land h f w [];have e2:x.wsh w=w:=by cases x<;>first|rfl|cases h
   unfold Dd.nf Dd.nw at k;rw[e2,e,ite_self] at k;unfold Dd.fld';exact k
  have wish:∀x:Dd,x.land=false->R (.own [.int (codeN (x.err f w)),plD (x.nf f w),plD (x.nw f w)])->R (.own [.int (codeN (x.err [] w)),plD f,plD (x.wsh' w)]):=fun x h k=>by
   have e:=x.err_wish h f [] w;have e2:x.fld f=f:=by cases x<;>first|rfl|cases h
   unfold Dd.nf Dd.nw at k;rw[e2,e,ite_self] at k;unfold Dd.wsh';exact k
  cases x with
  | sell p h=>exact⟨_,rfl,_,rfl,_,J0 _ _,f,.sell p h,rfl,rfl,hz,_,rfl,_,rfl,_,at1,by simp,land _ rfl hR⟩
  | part p h=>exact⟨_,rfl,_,rfl,_,J0 _ _,f,.part p h,rfl,rfl,hz,_,rfl,_,rfl,_,at1,by simp,land _ rfl hR⟩
  | unite p=>exact⟨_,rfl,_,rfl,_,J0 _ _,f,.unite p,rfl,rfl,hz,_,rfl,_,rfl,_,at1,by simp,land _ rfl hR⟩
  | wish a b=>exact⟨_,rfl,_,at1,w,.wish a b,rfl,rfl,hw,_,rfl,_,J0 _ _,_,rfl,by simp,wish _ rfl hR⟩
  | drop a b=>exact⟨_,rfl,_,rfl,_,at1,w,.drop a b,rfl,rfl,hw,_,rfl,_,J0 _ _,_,rfl,by simp,wish _ rfl hR⟩
def Ei (G:Glob K mg) (DD:Def K mg "_law_said" PQ ["_law_found","_law_refusal","_law_count"])
  (Zj:Kz P w K mg base)
  : BK P w K mg base:=by
 refine DD.oz (k:=1) EX (fun _ _ _ _ _ _ E hr=>⟨_,(Vg (Vo (cq K hr (pv 1) Vd) (Vf (Vj (KG (Ux (KA (K:=K) (show _<cLine from hr.units0)) (jx K (pv 0) Vd) (Vv (az VJ)) (V0 _)) (KG (fz Zj hr (az (jx K (pv 0) Vd))) (PK (Ux (XX (K:=K) (show _<cLine from hr.units0)) (jx K (pv 0) Vd) (pv 2) (V0 _)))))))
   Vq) (Vf (Vj (Ux (KA (K:=K) (show _<cLine from hr.units0)) (jx K (pv 0) Vd) (Vi Jv (Vv (az VJ)) (Xz (N':=["_law_k","_law_refusal"]) (φ:=[none,some 1]) rfl (Own.CompOk.of (by rfl)) (SO rfl G.range (bz Vd Vd)) (fun _ _ _ _ _=>⟨(gz 0 (show(["_law_k","_law_refusal"]:List Str).Nodup from by decide +kernel)),PC,(Ux (XX (K:=K) (show _<cLine from hr.units0)) (pv 0) (pv 1) (V0 _))⟩))) (V0 _))))), (Vh (Vr (Vl (VE (Va 1) Vc)) (Vn (Ku (KI (Ve (Va 0) Vc) (Vu (sz VI))) (Ku (Vz (sz (Ve (Va 0) Vc))) (VE (Ve (Va 0) Vc) (Va 2))))) Vp) (Vn (KI (Ve (Va 0) Vc) (Jz (Vu (sz VI)) (Xq (SndI.c (Ss (tz Vc Vc))) (Vm 0) P9 (VE (Va 0) (Va 1)))))))⟩) (.a fun ds R X h=>?_)
 ·obtain⟨n,c,rfl,hR⟩:=h;refine⟨rfl,?_⟩;refine ite2 (fun g=>?_) (fun g=>?_)
  ·have g':c=0:=ZX g;subst g';refine⟨_,rfl,by simp,[.bl true],[.bl true],rfl,rfl,rfl,rfl,?_⟩;show if eqL [V.bl true] [V.bl true]=true then _ else _;refine iteT ⟨_,rfl,_,rfl,iteT ⟨_,rfl,?_⟩⟩;show R (.sh (.bl (decide ((if (0:Int)=0 then n else -1)=n))));rw[ZV rfl,ZT rfl];exact hR
  ·have g':¬c=0:=fun z=>g (ZT z);refine⟨_,rfl,by simp,⟨by decide,by decide,by decide,by decide⟩,SY (n:=12) (fun i=>some (.bl (decide ((1:Int)+(i:Int)=c)))) (by decide) (fun i hi=>⟨_,rfl,rfl⟩) ?_⟩
   have ek:[D.bl true]++(List.range 12).filterMap (fun i:Nat=>some (D.bl (decide ((1:Int)+(i:Int)=c))))=(Uv c).map D.bl:=by
    unfold Uv;rw[ZU g',Yy,Wf];rfl
   refine⟨rfl,rfl,(by show 1+12<=100000;decide),?_⟩;rw[ek];refine⟨(Uv c).map V.bl,(Uv c).map V.bl,Tq _,Tq _,Na _,Na _,?_⟩;show R (.sh (.bl (eqL ((Uv c).map V.bl) ((Uv c).map V.bl))));rw[FG];exact hR
def DH (G:Glob K mg) (DD:Def K mg "_law_start" KS ["_law_script","_law_menu_here","_law_many"])
  (Zb:Xc P w K mg base)
  (Zh:XJ P w K mg base)
  (Zg:X2 P w K mg base)
  : Nx P w K mg base:=by
 refine DD.oz (k:=1) Ut (fun _ _ _ _ _ _ E hr=>⟨_,(Vg (Pu.pz 3 Ut.nd (fz Zb hr (bz (pv 0) Vd))) (Vg (Pu.pz 4 Ut.nd (Vv VL)) (Vg (JY YL rfl (UL rfl G.range (az (pv 2))) (gz 5 Ut.nd) (Vg (Pu.pz 6 Ut.nd (pv 3)) (U1 (Vo (cq K hr (Vi V6 (fz Zb hr (bz (pv 0) Vd)) Vd) Vd) (Vf (Pu.pz 6 Ut.nd (fz Zh hr (bz (fz Zb hr (bz (pv 0) Vd)) (Vi VC Vd (pv 5))))))
   Vq) (Vg (Pu.pz 7 Ut.nd (Vi VC (jx K (pv 1) Vd) (Vi V6 (Vi VS (pv 6) (jx K (pv 1) Vd)) (jx K (pv 1) Vd)))) (Vg (VO (Uw Yv Y8 Y9 Uq (pv 4) (az (V7 (bz (fz Zg hr (bz (pv 1) (Vi V6 (pv 6) (jx K (pv 1) Vd)))) (pv 7)))))) (Vf (Pu.pz 3 Ut.nd (Vi VS (Vi VS (pv 3) (jx K (pv 1) Vd)) (jx K (pv 1) Vd))))))))) (Vf (Vj (pv 4)))))), (Vh (Vx (Vz (tz (Va 0) Vc)) (Vm 3)) (Vh (Vx (Vu V2) (Vm 4)) (Vh (JX [5,6,7] (UK (sz (Va 2))) (Vm 5) (Vh (Vw 3 (Vx (Va 3) (Vm 6))) (U3 (Vr (Vl (VE (V5 (Vz (tz (Va 0) Vc)) Vc) Vc)) (Vx (Vz (tz (Vz (tz (Va 0) Vc)) (VF Vc (Va 5)))) (Vm 6)) Vp) (Vh (Vx (VF (Ve (Va 1) Vc) (V5 (VR (Va 6) (Ve (Va 1) Vc)) (Ve (Va 1) Vc))) (Vm 7)) (Vh (Vw 7 (Ph 4 (V8 (tz (Vz (tz (Va 1) (V5 (Va 6) (Ve (Va 1) Vc)))) (Va 7))))) (Vx (VR (VR (Va 3) (Ve (Va 1) Vc)) (Ve (Va 1) Vc)) (Vm 3))))))) (Tn 4))))⟩) (.a fun ds R X h=>?_)
 ·obtain⟨ns,m,n,rfl,hM,h0,h1,hR⟩:=h;refine⟨rfl,?_⟩;have hMM:=hM;obtain⟨a,b,c,d,e,rfl,ha,hb,hc,hd,he⟩:=hM;refine⟨ns,2,rfl,by decide,by simp,⟨by omega,by omega⟩,UD (fun i γ'=>∃(ps:List (Int×Int)) (r:Int),γ'=[some (.bor (.scr ns)),some (.bor (.lst (([a,b,c,d,e]:List Int).map D.int))),some (.sh (.int n)),some (.sh (.int r)),some (.own (ps.map prD)),none,none,none]/\Field ps/\ps.length=i) ⟨[],_,rfl,(fun q hq=>by cases hq),rfl⟩ ?_ ?_⟩
  ·rintro i γ' hi ⟨ps,r,rfl,hF,hl⟩;have hlm:(ps.map prD).length=ps.length:=ZR ..;have hi':i<n.toNat:=hi;refine Um (fun γ'=>∃(v:Int) (t:Option S),γ'=[some (.bor (.scr ns)),some (.bor (.lst (([a,b,c,d,e]:List Int).map D.int))),some (.sh (.int n)),some (.sh (.int r)),some (.own (ps.map prD)),t,some (.sh (.int v)),none]) ?_ ?_
   ·refine⟨ns,0,rfl,by decide,(by show(0:Int)<2;decide),ite2 (fun _=>?_) (fun _=>⟨_,_,rfl⟩)⟩;exact⟨ns,1,rfl,by decide,_,_,rfl,_,_,rfl⟩
   ·rintro γ' ⟨v,t,rfl⟩;have q1:=Int.emod_nonneg (v / a) (show d≠0 by omega);have q2:=W8 (v / a) (show 0<d by omega);refine⟨_,rfl,_,rfl,⟨by omega,by omega⟩,_,rfl,(by show 0<d;omega),_,rfl,(by show 0<a;omega),[a,b,c,d,e],_,rfl,hMM,fun h l1 l2 _=>⟨by simp,by omega,?_⟩⟩;refine⟨_,rfl,⟨by omega,by omega⟩,_,rfl,⟨by omega,by omega⟩,ps++[(h,e+v / a % d)],r / a / d,?_,fun q hq=>?_,by rw[ZZ,hl];rfl⟩
    ·rw[Yq];rfl
    ·rcases Y7.mp hq with hq|hq
     ·exact hF q hq
     ·rw[Yb] at hq;subst hq;exact⟨l1,l2,by show 1<=e+v / a % d;omega,by show e+v / a % d<=1000;omega⟩
  ·rintro γ' ⟨ps,r,rfl,hF,hl⟩;exact hR ps hF hl
def Hw (G:Glob K mg) (DD:Def K mg "_law_days" Nt ["_law_script","_law_most"])
  (Zh:XJ P w K mg base)
  (Zb:Xc P w K mg base)
  : Sh P w K mg base:=by
 refine DD.oz (k:=1) Df (fun _ _ _ _ _ _ E hr=>⟨_,(Vg (Vo (cq K hr (Vi V6 (fz Zb hr (bz (pv 0) Vd)) Vd) Vd) (Vf (Vj (J9 (J6 (K:=K)) (pv 0) (Jy Vd) (Jy (Vi VC Vd (pv 1))))))
   Vq) (Vf (Vj (Xz (N':=["_law_k","_law_script"]) (φ:=[none,some 0]) rfl (Own.CompOk.of (by rfl)) (UL rfl G.range (az (Vi V6 (fz Zb hr (bz (pv 0) Vd)) (Vi VC (pv 1) Vd)))) (fun _ _ _ _ _=>⟨(gz 0 (show(["_law_k","_law_script"]:List Str).Nodup from by decide +kernel)),PC,(fz Zh hr (bz (fz Zb hr (bz (pv 1) Vd)) (Vi VC Vd (pv 0))))⟩))))), (Vh (Vr (Vl (VE (V5 (Vz (tz (Va 0) Vc)) Vc) Vc)) (Vn (Dy (Va 0) (Jw Vc) (Jw (VF Vc (Va 1))))) Vp) (Vn (Xq (SndI.c (UK (sz (V5 (Vz (tz (Va 0) Vc)) (VF (Va 1) Vc))))) (Vm 0) P9 (Vz (tz (Vz (tz (Va 1) Vc)) (VF Vc (Va 0)))))))⟩) (.a fun ds R X h=>?_)
 ·obtain⟨ns,n,rfl,h0,h1,hR⟩:=h;refine⟨rfl,?_⟩;refine⟨ns,0,rfl,by decide,(by show(0:Int)<2;decide),ite2 (fun _=>?_) (fun _=>?_)⟩
  ·refine hR _ ?_;unfold Pu.cutD;rw[Wl]
   have e3:HT.sIx ns.length 0 (some 3)=min 3 ns.length:=by
    rw[show(3:Int)=((3:Nat):Int) by rfl,HT.Kd]
   have e2:HT.sIx ns.length ns.length (some (3+n))=min (3+n).toNat ns.length:=by
    rw[show(3+n:Int)=(((3+n).toNat:Nat):Int) by omega,HT.Kd];rfl
   rw[e3,e2];omega
  ·refine⟨ns,2,rfl,by decide,(by show 0<n+1;omega),?_⟩;have q1:=Int.emod_nonneg (ns.getD (2:Int).toNat 0) (show n+1≠0 by omega);have q2:=W8 (ns.getD (2:Int).toNat 0) (show 0<n+1 by omega);refine⟨⟨by omega,by omega⟩,SY (fun i=>some (.int (mixP (ns.getD (1:Int).toNat 0) (200+(0+(i:Int)))))) (by omega) (fun i hi=>⟨ns,1,rfl,by decide,_,_,rfl,_,rfl,rfl⟩) ?_⟩
   have e:(List.range (ns.getD (2:Int).toNat 0 % (n+1)).toNat).filterMap (fun i:Nat=>some (D.int (mixP (ns.getD (1:Int).toNat 0) (200+(0+(i:Int))))))=((List.range (ns.getD (2:Int).toNat 0 % (n+1)).toNat).map fun i:Nat=>mixP (ns.getD (1:Int).toNat 0) (200+(0+(i:Int)))).map D.int:=by
    rw[List.filterMap_eq_map',Wf];rfl
   rw[e];refine hR _ ?_;rw[ZR,List.length_range];omega
def FX (G:Glob K mg) (DD:Def K mg "_law_pair" KO ["_law_cell","_law_menu_here"])
  (Zl:Tg P w K mg base)
  (Zg:X2 P w K mg base)
  : PZ P w K mg base:=by
 refine DD.oz (k:=1) XF (fun _ _ _ _ _ _ E hr=>⟨_,(Vg (Pu.pz 2 XF.nd (jx K (Vv (Vs Vd (Vs (jx K (pv 1) Vd) (Vs (jx K (pv 1) Vd) (Vs (jx K (pv 1) Vd) VL))))) (Vi V6 (pv 0) Vd))) (Vg (Pu.pz 3 XF.nd (Vi V6 (Vi VS (pv 0) Vd) (pv 2))) (Vg (Pu.pz 4 XF.nd (Vi V6 (Vi VC (Vi VC (pv 3) Vd) (Vi V6 (Vi VS (pv 0) Vd) (VH (Sk rfl) (by rfl) G.max boot_max (bz Vd (Vi Jr (pv 2) Vd))))) (pv 2))) (Vg (Pu.pz 5 XF.nd (fz Zl hr (bz (Vi VS (pv 0) Vd) (fz Zg hr (bz (pv 1) (pv 3)))))) (Vf (Vj (V7 (bz (pv 5) (fz Zl hr (bz (Vi VS (pv 0) Vd) (fz Zg hr (bz (pv 1) (pv 4))))))))))))), (Vh (Vx (Ve (Vu (Vt Vc (Vt (Ve (Va 1) Vc) (Vt (Ve (Va 1) Vc) (Vt (Ve (Va 1) Vc) V2))))) (V5 (Va 0) Vc)) (Vm 2)) (Vh (Vx (V5 (VR (Va 0) Vc) (Va 2)) (Vm 3)) (Vh (Vx (V5 (VF (VF (Va 3) Vc) (V5 (VR (Va 0) Vc) (BX (tz Vc (Jp (Va 2) Vc))))) (Va 2)) (Vm 4)) (Vh (Vx (Vz (tz (VR (Va 0) Vc) (Vz (tz (Va 1) (Va 3))))) (Vm 5)) (Vw 5 (Vn (V8 (tz (Va 5) (Vz (tz (VR (Va 0) Vc) (Vz (tz (Va 1) (Va 4)))))))))))))⟩) (.a fun ds R X h=>?_)
 ·obtain⟨c,m,rfl,hM,hR⟩:=h;refine⟨rfl,?_⟩;have hMM:=hM;obtain⟨a,b,e,d,f,rfl,ha,hb,he,hd,hf⟩:=hM;have h4:0<=c % 4/\c % 4<4:=by omega
  obtain⟨pool,ep,hp⟩:∃p:Int,atI [D.int 10,.int a,.int a,.int a] (c % 4)=some (.int p)/\1<=p/\p<=10:=by
   have:c % 4=0\/c % 4=1\/c % 4=2\/c % 4=3:=by omega
   rcases this with e|e|e|e<;>rw[e]
   ·exact⟨10,rfl,by decide,by decide⟩
   ·exact⟨a,rfl,ha⟩
   ·exact⟨a,rfl,ha⟩
   ·exact⟨a,rfl,ha⟩
  have hmx:0<(if pool-1>1 then pool-1 else 1):=by split<;>omega
  refine⟨_,rfl,_,rfl,_,rfl,by simp,(by show(0:Int)<4;decide),_,ep,?_⟩;refine⟨⟨by decide,by decide⟩,(by show 0<pool;omega),⟨by decide,by decide⟩,hmx,(by show 0<pool;omega),?_⟩;refine⟨⟨by decide,by decide⟩,_,_,rfl,hMM,fun h1 _ _ _=>⟨_,_,rfl,fun v1=>?_⟩⟩;exact⟨⟨by decide,by decide⟩,_,_,rfl,hMM,fun h2 _ _ _=>⟨_,_,rfl,fun v2=>⟨by simp,hR v1 v2⟩⟩⟩
def EU (G:Glob K mg) (DD:Def K mg "_law_none_such" PN ["_law_village","_law_many"])
  (Zn:Tr P w K mg base)
  : B6 P w K mg base:=by
 refine DD.oz (k:=1) Kr (fun _ _ _ _ _ _ E hr=>⟨_,(Vg (Pu.pz 2 Kr.nd (Vv VL)) (U1 (ExcR.Nw (fun pins D=>(Vf (VO (Cd Zn G.cl_Village (hr.mono (by decide)) (ExcR.Tu (pins:=pins) (D:=D) (i:=3) rfl rfl Kr.nd rfl rfl rfl G.m_NoSuchDeed (by decide) (fun a=>(Vf (Pu.pz 2 Kr.nd (Vv (bz (VH (ExcR.Jn (K:=K)) (by rfl) G.isinstance Yn (bz (pv 3) (ExcR.J4 G.m_MeldError))) (VH (ExcR.Jn (K:=K)) (by rfl) G.isinstance Yn (bz (pv 3) (JW (v:=.ty "ValueError") rfl G.ValueError (by decide +kernel) rfl))))))))) (pv 0) (az (pv 1))))))) (Vf (Vj (Ux (KA (K:=K) (show _<cLine from hr.units0)) (pv 2) (Vv (bz VJ VJ)) (V0 _)))))), (Vh (Vx (Vu V2) (Vm 2)) (U3 (TM (E':=fun _=>E) ["NoSuchDeed"] (fun c hc=>by
    simp only[Ym,Wy,or_false] at hc;rcases hc with rfl
    ·exact⟨G.g_NoSuchDeed,G.x_NoSuchDeed_NoSuchDeed⟩)
    (fun D=>(Jx (NJ BO (Va 0) (sz (Va 1))))) (Vx (Vu (tz (Jl (tz (Va 3) JA)) (Jl (tz (Va 3) Ua)))) (Vm 2))) (Vn (KI (Va 2) (Vu (tz VI VI))))))⟩) (.a fun ds R X h=>?_)
 ·obtain⟨bk,fs,ws,k,rfl,h1,h2,hk,hR⟩:=h;refine⟨rfl,?_⟩;refine⟨by simp,?_⟩;refine Um (fun γ'=>∃t:Option S,γ'=[some (.bor (vilD (ExcR.Vb mg "Village") bk fs ws)),some (.sh (.int k)),some (.own (.lst [.bl true,.bl true])),t]) ?_ ?_
  ·refine⟨rfl,rfl,bk,fs,ws,k,rfl,h1,h2,fun _=>?_,fun f w i x y e ef _=>?_⟩
   ·exact⟨by simp,_,G.g_NoSuchDeed,G.k_NoSuchDeed_MeldError,_,G.g_NoSuchDeed,G.k_NoSuchDeed_ValueError,by simp,_,rfl⟩
   ·have:=(Yo.mp ef).1
    omega
  ·rintro γ' ⟨t,rfl⟩;exact⟨by simp,[.bl true,.bl true],[.bl true,.bl true],rfl,rfl,rfl,rfl,hR⟩
def ED (G:Glob K mg) (DD:Pu.DefM K (Mk K (ExcR.Vb mg "Village")) "__init__" "Village.__init__" T4 ["self","strips"])
  (Zx:Sb P w K mg base)
  : NN P w K mg base:=by
 refine DD.ox (k:=2) Ct (fun _ _ _ _ _ _ E hr=>⟨_,(Vg (VO (J1 Zx (hr.mono (by decide)) ExcR.VT (az (pv 1)))) (Vg (Tb (pv 0) (Vv VL) rfl) (Vg (Tb (pv 0) (Vv (az (Uy (UH (K:=K)) (by rfl) G.list boot_list (az (pv 1))))) rfl) (Vf (Tb (pv 0) (Vv (az (Vv VL))) rfl))))), (Vh (Jx (J2 (sz (Va 1)))) (Vh (To 0 G.cl_Village G.n_Village_book FY (Vu V2)) (Vh (To 0 G.cl_Village G.n_Village_fields CM (Vu (sz (UE (sz (Va 1)))))) (To 0 G.cl_Village G.n_Village_wished AD (Vu (sz (Vu V2)))))))⟩) (.c fun o ss R X h=>?_)
 ·obtain⟨x,ps,rfl,rfl,hz,hR⟩:=h;refine⟨rfl,?_⟩;refine⟨ps,rfl,hz,?_⟩;cases e:Xb ps with
  | some c=>
   rw[e] at hR;exact⟨_,rfl,⟨rfl,by simp⟩,hR⟩
  | none=>
   rw[e] at hR;refine⟨by simp,rfl,rfl,by decide,fun b1=>?_⟩;refine⟨rfl,by simp,rfl,rfl,by decide,fun b2=>?_⟩;refine⟨by simp,by simp,rfl,rfl,by decide,fun b3=>?_⟩;exact⟨_,rfl,⟨rfl,by simp⟩,hR b1 b2 b3⟩
def ER (G:Glob K mg) (DD:Pu.DefM K (Meth K (ExcR.Vb mg "Village") "sell") "sell" "Village.sell" Pg ["self","place","holder"])
  (Ze:Xe P w K mg base)
  (Zy:Fq P w K mg base)
  (Zf:Xm P w K mg base)
  (Zd:UP P w K mg base)
  (Zc:UG P w K mg base)
  : Sa P w K mg base:=by
 refine DD.ox (k:=2) Sx (fun _ _ _ _ _ _ E hr=>⟨_,(Vg (VO (Jj Ze G.cl_Village (hr.mono (by decide)) ExcR.VT (pv 0))) (Vg (Pu.pz 3 Sx.nd (J1 Zy (hr.mono (by decide)) ExcR.VT (dz (Jj Zd G.cl_Village (hr.mono (by decide)) Je (pv 0)) (pv 1) (pv 2)))) (Vf (Vj (JZ Zf G.cl_Village (hr.mono (by decide)) Je (pv 0) (dz (V7 (dz VB (pv 1) (pv 2))) (pv 3) (Jj Zc G.cl_Village (hr.mono (by decide)) Je (pv 0)))))))), (Vh (Jx (X8 XH (Va 0) V2)) (Vh (Vx (J2 (uz (J8 Xi (Va 0) V2) (Va 1) (Va 2))) (Vm 3)) (Vw 2 (Vw 1 (Vw 3 (JV (X6 0 XS (uz (V8 (uz VA (Va 1) (Va 2))) (Va 3) (J8 Xf (Va 0) V2)))))))))⟩) (.c fun o ss R X h=>?_)
 ·obtain⟨x,b1,b2,b3,bk,fs,ws,f,w,p,h,rfl,rfl,hb,hf,hw,hz,hR⟩:=h;refine⟨rfl,?_⟩;unfold KE at hR;refine⟨rfl,rfl,bk,fs++[f],ws++[w],rfl,?_⟩;unfold UN;by_cases c:100<=bk.length
  ·rw[ZV c] at hR ⊢;exact⟨_,rfl,⟨rfl,by simp⟩,hR⟩
  ·rw[ZU c] at hR ⊢;refine⟨rfl,rfl,bk,fs,ws++[w],f,rfl,f,p,h,rfl,hz,?_⟩;cases e:VZ f p h with
   | some c=>
    rw[e] at hR;exact⟨_,rfl,⟨rfl,by simp⟩,hR⟩
   | none=>
    rw[e] at hR;refine⟨rfl,rfl,by simp,rfl,rfl,bk,fs++[f],ws,w,rfl,?_⟩;exact⟨x,b1,b2,b3,bk,fs++[f],ws++[w],("sell",[p,h]),Ue f p h,w,rfl,rfl,hb,by rw[ZZ];simp;omega,by rw[ZZ];simp;omega,_,rfl,⟨rfl,by simp⟩,hR⟩
def Ah (G:Glob K mg) (DD:Pu.DefM K (Meth K (ExcR.Vb mg "Village") "part") "part" "Village.part" P7 ["self","place","width"])
  (Ze:Xe P w K mg base)
  (Zz:NA P w K mg base)
  (Zf:Xm P w K mg base)
  (Zd:UP P w K mg base)
  (Zc:UG P w K mg base)
  : Bg P w K mg base:=by
 refine DD.ox (k:=2) Bi (fun _ _ _ _ _ _ E hr=>⟨_,(Vg (VO (Jj Ze G.cl_Village (hr.mono (by decide)) ExcR.VT (pv 0))) (Vg (Pu.pz 3 Bi.nd (J1 Zz (hr.mono (by decide)) ExcR.VT (dz (Jj Zd G.cl_Village (hr.mono (by decide)) Je (pv 0)) (pv 1) (pv 2)))) (Vf (Vj (JZ Zf G.cl_Village (hr.mono (by decide)) Je (pv 0) (dz (V7 (dz VB (pv 1) (pv 2))) (pv 3) (Jj Zc G.cl_Village (hr.mono (by decide)) Je (pv 0)))))))), (Vh (Jx (X8 XH (Va 0) V2)) (Vh (Vx (J2 (uz (J8 Xi (Va 0) V2) (Va 1) (Va 2))) (Vm 3)) (Vw 2 (Vw 1 (Vw 3 (JV (X6 0 XS (uz (V8 (uz VA (Va 1) (Va 2))) (Va 3) (J8 Xf (Va 0) V2)))))))))⟩) (.c fun o ss R X h=>?_)
 ·obtain⟨x,b1,b2,b3,bk,fs,ws,f,w,p,h,rfl,rfl,hb,hf,hw,hz,hR⟩:=h;refine⟨rfl,?_⟩;unfold Km at hR;refine⟨rfl,rfl,bk,fs++[f],ws++[w],rfl,?_⟩;unfold UN;by_cases c:100<=bk.length
  ·rw[ZV c] at hR ⊢;exact⟨_,rfl,⟨rfl,by simp⟩,hR⟩
  ·rw[ZU c] at hR ⊢;refine⟨rfl,rfl,bk,fs,ws++[w],f,rfl,f,p,h,rfl,hz,?_⟩;cases e:VW f p h with
   | some c=>
    rw[e] at hR;exact⟨_,rfl,⟨rfl,by simp⟩,hR⟩
   | none=>
    rw[e] at hR;refine⟨rfl,rfl,by simp,rfl,rfl,bk,fs++[f],ws,w,rfl,?_⟩;exact⟨x,b1,b2,b3,bk,fs++[f],ws++[w],("part",[p,h]),JH f p h,w,rfl,rfl,hb,by rw[ZZ];simp;omega,by rw[ZZ];simp;omega,_,rfl,⟨rfl,by simp⟩,hR⟩
def AW (G:Glob K mg) (DD:Pu.DefM K (Meth K (ExcR.Vb mg "Village") "unite") "unite" "Village.unite" P5 ["self","place"])
  (Ze:Xe P w K mg base)
  (Z0:SI P w K mg base)
  (Zf:Xm P w K mg base)
  (Zd:UP P w K mg base)
  (Zc:UG P w K mg base)
  : Bj P w K mg base:=by
 refine DD.ox (k:=2) NT (fun _ _ _ _ _ _ E hr=>⟨_,(Vg (VO (Jj Ze G.cl_Village (hr.mono (by decide)) ExcR.VT (pv 0))) (Vg (Pu.pz 2 NT.nd (J1 Z0 (hr.mono (by decide)) ExcR.VT (bz (Jj Zd G.cl_Village (hr.mono (by decide)) Je (pv 0)) (pv 1)))) (Vf (Vj (JZ Zf G.cl_Village (hr.mono (by decide)) Je (pv 0) (dz (V7 (bz VB (pv 1))) (pv 2) (Jj Zc G.cl_Village (hr.mono (by decide)) Je (pv 0)))))))), (Vh (Jx (X8 XH (Va 0) V2)) (Vh (Vx (J2 (tz (J8 Xi (Va 0) V2) (Va 1))) (Vm 2)) (Vw 1 (Vw 2 (JV (X6 0 XS (uz (V8 (tz VA (Va 1))) (Va 2) (J8 Xf (Va 0) V2))))))))⟩) (.c fun o ss R X h=>?_)
 ·obtain⟨x,b1,b2,b3,bk,fs,ws,f,w,p,rfl,rfl,hb,hf,hw,hz,hR⟩:=h;refine⟨rfl,?_⟩;unfold K8 at hR;refine⟨rfl,rfl,bk,fs++[f],ws++[w],rfl,?_⟩;unfold UN;by_cases c:100<=bk.length
  ·rw[ZV c] at hR ⊢;exact⟨_,rfl,⟨rfl,by simp⟩,hR⟩
  ·rw[ZU c] at hR ⊢;refine⟨rfl,rfl,bk,fs,ws++[w],f,rfl,f,p,rfl,hz,?_⟩;cases e:uniE f p with
   | some c=>
    rw[e] at hR;exact⟨_,rfl,⟨rfl,by simp⟩,hR⟩
   | none=>
    rw[e] at hR;refine⟨rfl,rfl,by simp,rfl,rfl,bk,fs++[f],ws,w,rfl,?_⟩;exact⟨x,b1,b2,b3,bk,fs++[f],ws++[w],("unite",[p]),uniL f p,w,rfl,rfl,hb,by rw[ZZ];simp;omega,by rw[ZZ];simp;omega,_,rfl,⟨rfl,by simp⟩,hR⟩
def AR (G:Glob K mg) (DD:Pu.DefM K (Meth K (ExcR.Vb mg "Village") "wish") "wish" "Village.wish" T9 ["self","ahead","behind"])
  (Ze:Xe P w K mg base)
  (Z1:N5 P w K mg base)
  (Zf:Xm P w K mg base)
  (Zc:UG P w K mg base)
  (Zd:UP P w K mg base)
  : BP P w K mg base:=by
 refine DD.ox (k:=2) NU (fun _ _ _ _ _ _ E hr=>⟨_,(Vg (VO (Jj Ze G.cl_Village (hr.mono (by decide)) ExcR.VT (pv 0))) (Vg (Pu.pz 3 NU.nd (J1 Z1 (hr.mono (by decide)) ExcR.VT (dz (Jj Zc G.cl_Village (hr.mono (by decide)) Je (pv 0)) (pv 1) (pv 2)))) (Vf (Vj (JZ Zf G.cl_Village (hr.mono (by decide)) Je (pv 0) (dz (V7 (dz VB (pv 1) (pv 2))) (Jj Zd G.cl_Village (hr.mono (by decide)) Je (pv 0)) (pv 3))))))), (Vh (Jx (X8 XH (Va 0) V2)) (Vh (Vx (J2 (uz (J8 Xf (Va 0) V2) (Va 1) (Va 2))) (Vm 3)) (Vw 2 (Vw 1 (Vw 3 (JV (X6 0 XS (uz (V8 (uz VA (Va 1) (Va 2))) (J8 Xi (Va 0) V2) (Va 3)))))))))⟩) (.c fun o ss R X h=>?_)
 ·obtain⟨x,b1,b2,b3,bk,fs,ws,f,w,p,h,rfl,rfl,hb,hf,hw,hz,hR⟩:=h;refine⟨rfl,?_⟩;unfold Kx at hR;refine⟨rfl,rfl,bk,fs++[f],ws++[w],rfl,?_⟩;unfold UN;by_cases c:100<=bk.length
  ·rw[ZV c] at hR ⊢;exact⟨_,rfl,⟨rfl,by simp⟩,hR⟩
  ·rw[ZU c] at hR ⊢;refine⟨rfl,rfl,bk,fs++[f],ws,w,rfl,w,p,h,rfl,hz,?_⟩;cases e:VP w p h with
   | some c=>
    rw[e] at hR;exact⟨_,rfl,⟨rfl,by simp⟩,hR⟩
   | none=>
    rw[e] at hR;refine⟨rfl,rfl,by simp,rfl,rfl,bk,fs,ws++[w],f,rfl,?_⟩;exact⟨x,b1,b2,b3,bk,fs++[f],ws++[w],("wish",[p,h]),f,w++[(p,h)],rfl,rfl,hb,by rw[ZZ];simp;omega,by rw[ZZ];simp;omega,_,rfl,⟨rfl,by simp⟩,hR⟩
def CJ (G:Glob K mg) (DD:Def K mg "_law_book_is" Px ["_law_found","_law_due"])
  (Zo:Ti P w K mg base)
  : Fj P w K mg base:=by
 refine DD.oz (k:=2) SA (fun _ _ _ _ _ _ E hr=>⟨_,(Vg (Vo (PW.pt (VU (Jc (Jd (K:=K) (VH (U2 (K:=K)) (by rfl) G.isinstance Yn (bz (pv 0) (JW (v:=.ty "list") rfl G.list boot_list rfl))))) (Jb (cn K hr (ln K G.len (pv 0)) (ln K G.len (pv 1)))))) (Vf (Vj VJ))
   Vq) (Vg (JY YL rfl (UL rfl G.range (az (ln K G.len (pv 1)))) (gz 2 SA.nd) (Vf (Vo (Jc (Jd (K:=K) (fz Zo hr (bz (jx K (pv 0) (pv 2)) (jx K (pv 1) (pv 2)))))) (Vf (Vj VJ))
   Vq))) (Vf (Vj VJ)))), (Vh (Vr (VV (Jg (Jh (U6 (tz (Va 0) Ua)))) (Vl (Ud (V9 (sz (Va 0))) (V9 (sz (Va 1)))))) (Vn VI) Vp) (Vh (JX [2] (UK (sz (V9 (sz (Va 1))))) (Vm 2) (Vr (Jg (Jh (Vz (tz (Ve (Va 0) (Va 2)) (Ve (Va 1) (Va 2)))))) (Vn VI) Vp)) (Vn VI)))⟩) (.a fun ds R X h=>?_)
 ·obtain⟨bk,rfl,hq,hz,hR⟩:=h;refine⟨rfl,?_⟩;have hl:(bk.map dD).length=bk.length:=ZR ..;refine⟨_,.same _,iteF (UV rfl ?_)⟩;refine⟨⟨by omega,by omega⟩,UD (fun i γ'=>γ'=[some (.bor (.lst (bk.map dD))),some (.bor (.lst (bk.map dD))),none]) rfl ?_ ?_⟩
  ·rintro i γ' hi rfl;have hi':i<(((bk.map dD).length:Nat):Int).toNat:=hi;have ez:(0:Int)+(i:Int)=(i:Int):=by omega
   have hb:i<bk.length:=by omega
   have ha:atI (bk.map dD) (0+(i:Int))=some (dD bk[i]):=by rw[ez];exact NY hb
   refine⟨_,ha,_,ha,bk[i],?_,hq _ (YI hb),iteF rfl⟩;show[(arg (dD bk[i])).d,(arg (dD bk[i])).d]=_;rw[K0];rfl
  ·rintro γ' rfl;exact hR
def DW (G:Glob K mg) (DD:Def K mg "_law_back" TL ["_law_village","_law_past"])
  (Z2:Fc P w K mg base)
  (Zo:Ti P w K mg base)
  : Sr P w K mg base:=by
 refine DD.oz (k:=2) UF (fun _ _ _ _ _ _ E hr=>⟨_,(Vg (Pu.pz 2 UF.nd (V7 VL)) (Vg (Pu.pz 3 UF.nd (Vv VL)) (U1 (ExcR.Nw (fun pins D=>(Vf (Pu.pz 2 UF.nd (Ed Z2 G.cl_Village (hr.mono (by decide)) (ExcR.Tu (pins:=pins) (D:=D) (i:=4) rfl rfl UF.nd rfl rfl rfl G.m_NothingDone (by decide) (fun a=>(Vf (Pu.pz 3 UF.nd (Vv (bz (VH (ExcR.Jn (K:=K)) (by rfl) G.isinstance Yn (bz (pv 4) (ExcR.J4 G.m_MeldError))) (VH (ExcR.Jn (K:=K)) (by rfl) G.isinstance Yn (bz (pv 4) (JW (v:=.ty "ValueError") rfl G.ValueError (by decide +kernel) rfl))))))))) (pv 0)))))) (Vg (Vo (cq K hr (ln K G.len (pv 1)) Vd) (Vf (Vj (Ux (KA (K:=K) (show _<cLine from hr.units0)) (pv 3) (Vv (bz VJ VJ)) (V0 _))))
   Vq) (Vg (Pu.pz 5 UF.nd (jx K (XU Yv Wg Wh XW (pv 1)) Vd)) (Vf (Vj (KG (Ux (Bp (K:=K) (show _<cLine from hr.units0)) (pv 3) (Vv VL) (V0 _)) (PK (fz Zo hr (bz (pv 2) (pv 5)))))))))))), (Vh (Vx (V8 V2) (Vm 2)) (Vh (Vx (Vu V2) (Vm 3)) (U3 (TM (E':=fun _=>E) ["NothingDone"] (fun c hc=>by
    simp only[Ym,Wy,or_false] at hc;rcases hc with rfl
    ·exact⟨G.g_NothingDone,G.x_NothingDone_NothingDone⟩)
    (fun D=>(XZ (Fu 0 D7 V2) (Vm 2))) (Vx (Vu (tz (Jl (tz (Va 4) JA)) (Jl (tz (Va 4) Ua)))) (Vm 3))) (Vh (Vr (Vl (VE (V9 (sz (Va 1))) Vc)) (Xj (KI (Va 3) (Vu (tz VI VI)))) Vp) (Vh (XZ (Cw (D5 1)) (Vm 5)) (Xj (Ku (TC (Va 3) (Vu V2)) (Vz (tz (Va 2) (Va 5))))))))))⟩) (.d fun o1 o2 ss R X h=>?_)
 ·obtain⟨x,b1,b2,b3,a,f0,hs,rfl,rfl,rfl,hz,hR⟩:=h;refine⟨rfl,?_⟩;have lp:=UX f0 hs;refine⟨by simp,by simp,?_⟩;rcases YY hs with rfl|⟨h,y,rfl⟩
  ·refine Um (fun γ'=>∃t:Option S,γ'=[some (.own (vO (ExcR.Vb mg "Village") x b1 b2 b3 (bkH []) (fsH f0 []) (wsH []))),some (.own (.lsA a (V4 f0 []))),some (.sh (.tup [])),some (.own (.lst [.bl true,.bl true])),t,none]) ?_ ?_
   ·refine⟨rfl,rfl,x,b1,b2,b3,bkH [],fsH f0 [],wsH [],rfl,rfl,rfl,rfl,fun _=>?_,fun b0 q e=>by cases b0<;>cases e⟩;exact⟨by simp,_,G.g_NothingDone,G.k_NothingDone_MeldError,_,G.g_NothingDone,G.k_NothingDone_ValueError,by simp,_,rfl⟩
   ·rintro γ' ⟨t,rfl⟩;refine⟨by simp,[.bl true,.bl true],[.bl true,.bl true],rfl,rfl,rfl,rfl,?_⟩;exact⟨_,_,rfl,rfl,⟨rfl,by simp⟩,rfl,hR⟩
  ·rw[W1] at hR lp hz ⊢;rw[YR] at hR;refine Um (fun γ'=>γ'=[some (.own (vO (ExcR.Vb mg "Village") x b1 b2 b3 (bkH h) (fsH f0 h) (wsH h))),some (.own (.lsA a (V4 f0 (h++[y])))),some (.sh (dD y.1.q)),some (.own (.lst [])),none,none]) ?_ ?_
   ·refine⟨rfl,rfl,x,b1,b2,b3,bkH (h++[y]),fsH f0 (h++[y]),wsH (h++[y]),rfl,rfl,by rw[NO,Xt],by rw[Bu,Xt],fun e=>?_,fun b0 q e=>?_⟩
    ·rw[Nu] at e;simp at e
    ·rw[Nu] at e;obtain⟨rfl,e2⟩:=List.append_inj' e rfl;cases e2
     rw[Kj,K5,YR,YR];exact rfl
   ·rintro γ' rfl;have lp':(V4 f0 (h++[y])).length=h.length+2:=by rw[UX,ZZ,YH]
    have g:¬(((V4 f0 (h++[y])).length:Nat):Int)=1:=by omega
    have el:(V4 f0 (h++[y]))[(V4 f0 (h++[y])).length-1]?=some (pstD y):=by
     rw[lp',Nc,Yz (by rw[UX];omega),UX];rw[show h.length+2-1-(h.length+1)=0 by omega];rfl
    have ed:(V4 f0 (h++[y])).dropLast=V4 f0 h:=by rw[Nc,YR]
    show if decide ((((V4 f0 (h++[y])).length:Nat):Int)=1)=true then _ else _;rw[Yk g];refine iteF ⟨_,el,_,rfl,?_⟩;rw[ed];refine⟨Wu _,y.1.q,rfl,by have:=y.1.q_len;omega,?_⟩;exact⟨_,_,rfl,rfl,⟨rfl,by simp⟩,rfl,hR⟩
def AY (G:Glob K mg) (DD:Def K mg "_law_opening" Nj ["_law_script","_law_menu_here"])
  (Zh:XJ P w K mg base)
  (Zb:Xc P w K mg base)
  (Zp:PZ P w K mg base)
  (Zg:X2 P w K mg base)
  : N2 P w K mg base:=by
 refine DD.oz (k:=2) U8 (fun _ _ _ _ _ _ E hr=>⟨_,(Vg (Pu.pz 2 U8.nd (fz Zh hr (bz (fz Zb hr (bz (pv 0) Vd)) Vd))) (@Vg _ _ _ _ _ (@Pu.pz _ _ _ _ _ _ 3 U8.nd (@NR _ _ _ _ _ _ _ (Ny (K:=K)) (@Vv _ _ _ _ (@Vs _ _ _ _ _ Vd (@Vs _ _ _ _ _ Vd (@Vs _ _ _ _ _ Vd (@Vs _ _ _ _ _ Vd (@Vs _ _ _ _ _ Vd (@Vs _ _ _ _ _ Vd (@Vs _ _ _ _ _ Vd (@Vs _ _ _ _ _ Vd (@Vs _ _ _ _ _ (jx K (pv 1) Vd) VL rfl) rfl) rfl) rfl) rfl) rfl) rfl) rfl) rfl)) (Vi V6 (pv 2) Vd) (fun _ _=>rfl)) rfl (by first|exact Or.inl rfl|exact Or.inr rfl) rfl (by first|exact .inl rfl|exact .inr rfl|assumption)) (Vg (Pu.pz 4 U8.nd (Vv VL)) (Vg (JY YL rfl (UL rfl G.range (az (pv 3))) (gz 5 U8.nd) (Vg (Pu.pz 6 U8.nd (fz Zp hr (bz (fz Zh hr (bz (pv 2) (Vi VC Vd (pv 5)))) (pv 1)))) (U1 (Vo (cq K hr (Vi V6 (pv 2) Vd) Vd) (Vf (Pu.pz 6 U8.nd (V7 (bz (Vi VC Vd (Vi V6 (Vi VC (pv 2) (pv 5)) Vd)) (Vi VC Vd (Vi V6 (Vi VC (Vi VC (Vi VC (pv 2) (pv 5)) Vd) (Vi VS (pv 5) Vd)) Vd))))))
   Vq) (U1 (Vo (cq K hr (Vi V6 (pv 2) Vd) Vd) (Vf (Pu.pz 6 U8.nd (V7 (bz (fz Zg hr (bz (pv 1) (pv 5))) (fz Zg hr (bz (pv 1) (Vi V6 (Vi VC (pv 5) Vd) (pv 3))))))))
   Vq) (Vf (VO (Uw Yv Y8 Y9 Uq (pv 4) (az (V7 (dz VB (jx K (pv 6) Vd) (jx K (pv 6) Vd))))))))))) (Vf (Vj (pv 4))))))), (Vh (Vx (Vz (tz (Vz (tz (Va 0) Vc)) Vc)) (Vm 2)) (Vh (Vx (Ve (Vu (Vt Vc (Vt Vc (Vt Vc (Vt Vc (Vt Vc (Vt Vc (Vt Vc (Vt Vc (Vt (Ve (Va 1) Vc) V2)))))))))) (V5 (Va 2) Vc)) (Vm 3)) (Vh (Vx (Vu V2) (Vm 4)) (Vh (JX [5,6] (UK (sz (Va 3))) (Vm 5) (Vh (Vx (Vz (tz (Vz (tz (Va 2) (VF Vc (Va 5)))) (Va 1))) (Vm 6)) (U3 (Vr (Vl (VE (V5 (Va 2) Vc) Vc)) (Vx (V8 (tz (VF Vc (V5 (VF (Va 2) (Va 5)) Vc)) (VF Vc (V5 (VF (VF (VF (Va 2) (Va 5)) Vc) (VR (Va 5) Vc)) Vc)))) (Vm 6)) Vp) (U3 (Vr (Vl (VE (V5 (Va 2) Vc) Vc)) (Vx (V8 (tz (Vz (tz (Va 1) (Va 5))) (Vz (tz (Va 1) (V5 (VF (Va 5) Vc) (Va 3)))))) (Vm 6)) Vp) (Ph 4 (V8 (uz VA (Ve (Va 6) Vc) (Ve (Va 6) Vc)))))))) (Tn 4)))))⟩) (.a fun ds R X h=>?_)
 ·obtain⟨ns,m,rfl,hM,hR⟩:=h;refine⟨rfl,?_⟩;have hMM:=hM;obtain⟨a,b,c,d,e,rfl,ha,hb,hc,hd,he⟩:=hM;refine⟨ns,1,rfl,by decide,_,_,rfl,?_⟩;generalize mixP (ns.getD (1:Int).toNat 0) 300=sd;have h9:0<=sd % 9/\sd % 9<9:=by omega
  obtain⟨many,em,hm⟩:∃v:Int,atI ([0,1,2,3,4,6,9,24,a].map D.int) (sd % 9)=some (.int v)/\0<=v/\v<=24:=by
   refine⟨_,Uk (f:=D.int) (xs:=[0,1,2,3,4,6,9,24,a]) h9.1 h9.2,?_⟩
   have hall:∀v∈([0,1,2,3,4,6,9,24,a]:List Int),0<=v/\v<=24:=by
    intro v hv;simp at hv;rcases hv with rfl|rfl|rfl|rfl|rfl|rfl|rfl|rfl|rfl<;>omega
   exact hall _ (YI _)
  refine⟨_,rfl,by simp,(by show(0:Int)<9;decide),_,em,by simp,⟨by omega,by omega⟩,?_⟩;refine UD (fun i γ'=>∃qs:List (Int×Int),qs.length=i/\γ'=[some (.bor (.scr ns)),some (.bor (.lst (([a,b,c,d,e]:List Int).map D.int))),some (.sh (.int sd)),some (.sh (.int many)),some (.own (qs.map fun q=>dD (Dd.wish q.1 q.2).q)),none,none]) ⟨[],rfl,rfl⟩ ?_ ?_
  ·rintro i γ' hi ⟨qs,hq,rfl⟩;have hi':i<many.toNat:=hi;have hlm:(qs.map fun q=>dD (Dd.wish q.1 q.2).q).length=qs.length:=ZR ..;refine⟨_,_,rfl,_,_,rfl,hMM,fun p1 p2=>?_⟩;refine Um (fun γ'=>∃(x y:Int),γ'=[some (.bor (.scr ns)),some (.bor (.lst (([a,b,c,d,e]:List Int).map D.int))),some (.sh (.int sd)),some (.sh (.int many)),some (.own (qs.map fun q=>dD (Dd.wish q.1 q.2).q)),some (.sh (.int (0+(i:Int)))),some (.sh (prD (x,y)))]) ?_ ?_
   ·refine⟨(by show(0:Int)<9;decide),ite2 (fun _=>?_) (fun _=>⟨p1,p2,rfl⟩)⟩;exact⟨(by show(0:Int)<10;decide),⟨by decide,by decide⟩,(by show(0:Int)<10;decide),by simp,_,_,rfl⟩
   ·rintro γ' ⟨p1,p2,rfl⟩;refine Um (fun γ'=>∃(x y:Int),γ'=[some (.bor (.scr ns)),some (.bor (.lst (([a,b,c,d,e]:List Int).map D.int))),some (.sh (.int sd)),some (.sh (.int many)),some (.own (qs.map fun q=>dD (Dd.wish q.1 q.2).q)),some (.sh (.int (0+(i:Int)))),some (.sh (prD (x,y)))]) ?_ ?_
    ·refine⟨(by show(0:Int)<9;decide),ite2 (fun _=>?_) (fun _=>⟨p1,p2,rfl⟩)⟩;exact⟨_,_,rfl,hMM,fun h1 _ _ _=>⟨(by show 0<many;omega),_,_,rfl,hMM,fun h2 _ _ _=>⟨by simp,_,_,rfl⟩⟩⟩
    ·rintro γ' ⟨x,y,rfl⟩;refine⟨_,J0 _ _,_,Bw _ _ (.inr rfl),by simp,by omega,?_⟩;exact⟨qs++[(x,y)],by rw[ZZ,hq];rfl,by rw[Yq];rfl⟩
  ·rintro γ' ⟨qs,hq,rfl⟩;have hq':qs.length=many.toNat:=hq;exact hR qs (by omega)
def Di (G:Glob K mg) (DD:Def K mg "_law_deed" Nr ["_law_cell","_law_menu_here","_law_now"])
  (Z3:BA P w K mg base)
  (Zp:PZ P w K mg base)
  (Zl:Tg P w K mg base)
  (Z4:Bz P w K mg base)
  (Zg:X2 P w K mg base)
  : BL P w K mg base:=by
 refine DD.oz (k:=2) UM (fun _ _ _ _ _ _ E hr=>⟨_,(Vg (Pu.pz 3 UM.nd (Vi V6 (pv 0) Vd)) (Vg (Pu.pz 4 UM.nd (Vi VS (pv 0) Vd)) (Vg (Pu.pz 5 UM.nd (fz Z3 hr (bz (pv 4) (jx K (pv 2) Vd)))) (Vg (Pu.pz 6 UM.nd (Vi VS (Vi VS (pv 4) Vd) (VH (Sk rfl) (by rfl) G.max boot_max (bz Vd (ln K G.len (jx K (pv 2) Vd)))))) (Vg (Vo (V3 Jt (pv 3) Vd (V0 _)) (Vf (Vj (V7 (dz VB (pv 5) (fz Zl hr (bz (pv 6) (fz Zg hr (bz (pv 1) (Vi V6 (Vi VS (pv 6) Vd) (jx K (pv 1) Vd))))))))))
   Vq) (Vg (Vo (V3 Jt (pv 3) Vd (V0 _)) (Vf (Vj (V7 (dz VB (pv 5) (fz Z4 hr (dz (pv 6) (jx K (pv 2) Vd) (pv 5)))))))
   Vq) (Vg (Vo (cq K hr (pv 3) Vd) (Vf (Vj (V7 (bz VB (pv 5)))))
   Vq) (Vg (Pu.pz 7 UM.nd (fz Zp hr (bz (pv 4) (pv 1)))) (U1 (Vo (PW.pt (BE (cq K hr (pv 3) Vd) (BE (V3 JT (Vi V6 (pv 4) Vd) Vd (V0 _)) (Ea (V3 (Ax (K:=K) (show _<cLine from hr.units0)) (jx K (pv 2) Vd) (Vv VL) (V0 _)))))) (Vf (Pu.pz 7 UM.nd (jx K (jx K (pv 2) Vd) (Vi V6 (Vi VS (pv 4) Vd) (ln K G.len (jx K (pv 2) Vd))))))
   Vq) (Vg (Vo (V3 Jt (pv 3) Vd (V0 _)) (Vf (Vj (V7 (dz (jx K (Vv (bz VB VB)) (Vi VS (pv 3) Vd)) (jx K (pv 7) Vd) (jx K (pv 7) Vd)))))
   Vq) (Vf (Vj (V7 (az VB)))))))))))))), (Vh (Vx (V5 (Va 0) Vc) (Vm 3)) (Vh (Vx (VR (Va 0) Vc) (Vm 4)) (Vh (Vx (Vz (tz (Va 4) (Ve (Va 2) Vc))) (Vm 5)) (Vh (Vx (VR (VR (Va 4) Vc) (BX (tz Vc (V9 (sz (Ve (Va 2) Vc)))))) (Vm 6)) (Vh (Vr (Vl (Ju (Va 3) Vc)) (Vw 5 (Vn (V8 (uz VA (Va 5) (Vz (tz (Va 6) (Vz (tz (Va 1) (V5 (VR (Va 6) Vc) (Ve (Va 1) Vc)))))))))) Vp) (Vh (Vr (Vl (Ju (Va 3) Vc)) (Vw 5 (Vn (V8 (uz VA (Va 5) (Vz (uz (Va 6) (Ve (Va 2) Vc) (Va 5))))))) Vp) (Vh (Vr (Vl (VE (Va 3) Vc)) (Vw 5 (Vn (V8 (tz VA (Va 5))))) Vp) (Vh (Vx (Vz (tz (Va 4) (Va 1))) (Vm 7)) (U3 (Vr (Sn (Vl (VE (Va 3) Vc)) (Sn (Vl (JQ (V5 (Va 4) Vc) Vc)) (Vl (TC (Ve (Va 2) Vc) (Vu V2))))) (Vx (Ve (Ve (Va 2) Vc) (V5 (VR (Va 4) Vc) (V9 (sz (Ve (Va 2) Vc))))) (Vm 7)) Vp) (Vh (Vr (Vl (Ju (Va 3) Vc)) (Vn (V8 (uz (Ve (Vu (tz VA VA)) (VR (Va 3) Vc)) (Ve (Va 7) Vc) (Ve (Va 7) Vc)))) Vp) (Vn (V8 (sz VA)))))))))))))⟩) (.a fun ds R X h=>?_)
 ·obtain⟨c,m,f,w,es,rfl,hM,hz,hF,hw,hR,hB⟩:=h;refine⟨rfl,?_⟩;have hMM:=hM;have at1:atI (plD f::plD w::es) 1=some (plD w):=Xr (by decide) rfl;have hl:(f.map prD).length=f.length:=ZR ..;have hlw:(w.map prD).length=w.length:=ZR ..;have hmx:∀z:Int,0<(if z>1 then z else 1)/\((if z>1 then z else 1)=z\/(if z>1 then z else 1)=1):=fun z=>by split<;>omega
  have hm1:=hmx (((f.map prD).length:Nat):Int);refine⟨(by show(0:Int)<9;decide),⟨by decide,by decide⟩,_,J0 _ _,_,f,rfl,hz,fun p=>?_⟩;refine⟨⟨by decide,by decide⟩,_,J0 _ _,⟨hm1.1,Int.lt_of_le_of_lt (b:=1000) (by rcases hm1.2 with w|w<;>rw[w]<;>omega) (by decide)⟩,?_⟩
  obtain⟨m0,m1,m2,m3,m4,em,ha,hb,hc,hd,he⟩:=hM;have i0:atI (m.map D.int) 0=some (.int m0):=by rw[em];rfl
  refine ite2 (fun _=>?_) (fun _=>ite2 (fun _=>?_) (fun _=>ite2 (fun _=>?_) (fun g4=>?_)))
  ·exact⟨⟨by decide,by decide⟩,_,i0,(by show 0<m0;omega),m,_,rfl,hMM,fun h _ _ _=>⟨_,_,rfl,fun v=>⟨by simp,hR (.sell p v)⟩⟩⟩
  ·exact⟨_,J0 _ _,_,f,p,rfl,hz,hF,fun v=>⟨by simp,hR (.part p v)⟩⟩
  ·exact⟨by simp,hR (.unite p)⟩
  ·refine⟨_,m,rfl,hMM,fun a b=>?_⟩;refine Um (fun γ'=>∃(a b:Int) (t1 t2 t3:Option S),γ'=[some (.sh (.int c)),some (.bor (.lst (m.map D.int))),some (.bor (.tup (plD f::plD w::es))),some (.sh (.int (c % 9))),t1,t2,t3,some (.sh (prD (a,b)))]) ?_ ?_
   ·refine ite2 (fun _=>⟨(by show(0:Int)<4;decide),ite2 (fun _=>⟨_,at1,by simp,?_⟩) (fun _=>iteF ⟨a,b,_,_,_,rfl⟩)⟩) (fun _=>iteF ⟨a,b,_,_,_,rfl⟩);have emp:(w.map prD).isEmpty=decide (w=[]):=by cases w<;>simp
    show if (!(w.map prD).isEmpty)=true then _ else _;rw[emp];refine ite2 (fun g=>?_) (fun g=>⟨a,b,_,_,_,rfl⟩);have hne:w≠[]:=fun z=>by rw[ZT z] at g;cases g
    have hp:0<w.length:=W6.mpr hne;have q1:=Int.emod_nonneg (c / 9 / 4) (show(((w.map prD).length:Nat):Int)≠0 by omega);have q2:=W8 (c / 9 / 4) (show 0<(((w.map prD).length:Nat):Int) by omega);exact⟨_,at1,⟨by decide,by decide⟩,_,at1,(by show 0<(((w.map prD).length:Nat):Int);omega),_,Uk (f:=prD) (xs:=w) q1 (by omega),_,_,_,_,_,rfl⟩
   ·rintro γ' ⟨a,b,t1,t2,t3,rfl⟩;refine ite2 (fun g=>?_) (fun g=>⟨by simp,hB⟩);have g':c % 9<8:=ZX g;have hk:c % 9 / 7=0\/c % 9 / 7=1:=by omega
    have ex:∃k:Str,atI [D.str "wish",.str "drop"] (c % 9 / 7)=some (.str k)/\(k=("wish" : Str)\/k=("drop" : Str)):=by
     rcases hk with e|e<;>rw[e]
     ·exact⟨_,rfl,.inl rfl⟩
     ·exact⟨_,rfl,.inr rfl⟩
    obtain⟨k,ek,hk2⟩:=ex;refine⟨by simp,⟨by decide,by decide⟩,_,ek,_,J0 _ _,_,Bw _ _ (.inr rfl),by simp,?_⟩;rcases hk2 with rfl|rfl
    ·exact hR (.wish a b)
    ·exact hR (.drop a b)
def GR (G:Glob K mg) (DD:Def K mg "_law_past_is" TY ["_law_village","_law_past"])
  (Zn:Tr P w K mg base)
  (Z5:B6 P w K mg base)
  (Zk:T6 P w K mg base)
  : Be P w K mg base:=by
 refine DD.oz (k:=2) Ko (fun _ _ _ _ _ _ E hr=>⟨_,(Vg (JY YL rfl (UL rfl G.range (az (ln K G.len (pv 1)))) (gz 2 Ko.nd) (Vg (Pu.pz 3 Ko.nd (JZ Zn G.cl_Village (hr.mono (by decide)) BD (pv 0) (az (pv 2)))) (Vg (Vo (PW.pt (VU (Jc (Jd (K:=K) (VH (U2 (K:=K)) (by rfl) G.isinstance Yn (bz (pv 3) (JW (v:=.ty "tuple") rfl G.tuple boot_tuple rfl))))) (Jb (cn K hr (ln K G.len (pv 3)) Vd)))) (Vf (Vj VJ))
   Vq) (Vg (Vo (PW.pt (VU (Jc (Jd (K:=K) (fz Zk hr (bz (jx K (pv 3) Vd) (jx K (jx K (pv 1) (pv 2)) Vd))))) (Jb (Jc (Jd (K:=K) (fz Zk hr (bz (jx K (pv 3) Vd) (jx K (jx K (pv 1) (pv 2)) Vd)))))))) (Vf (Vj VJ))
   Vq) (Vg (VO (Uw Yv Y8 Y9 Uq (jx K (pv 3) Vd) (az (V7 (bz Vd Vd))))) (Vg (VO (Uw Yv Y8 Y9 Uq (jx K (pv 3) Vd) (az (V7 (bz Vd Vd))))) (Vf (Eu (V7 (bz Vd Vd)) (Dx (jx K (pv 3) Vd) Vd FA))))))))) (Vg (JY YL rfl (UR (K:=K) (Vv (Vs (JP JK Vd) (Vs (ln K G.len (pv 1)) (Vs (JP JK (Vi XQ Vd Vd)) (Vs (Vi XQ Vd Vd) VL)))))) (gz 4 Ko.nd) (Vf (Vo (Jc (Jd (K:=K) (fz Z5 hr (bz (pv 0) (pv 4))))) (Vf (Vj VJ))
   Vq))) (Vf (Vj VJ)))), (Vh (JX [2,3] (UK (sz (V9 (sz (Va 1))))) (Vm 2) (Vh (Vx (J8 BO (Va 0) (sz (Va 2))) (Vm 3)) (Vh (Vr (VV (Jg (Jh (U6 (tz (Va 3) Ua)))) (Vl (Ud (V9 (sz (Va 3))) Vc))) (Vn VI) Vp) (Vh (Vr (VV (Jg (Jh (Vz (tz (Ve (Va 3) Vc) (Ve (Ve (Va 1) (Va 2)) Vc))))) (Jg (Jh (Vz (tz (Ve (Va 3) Vc) (Ve (Ve (Va 1) (Va 2)) Vc)))))) (Vn VI) Vp) (Vh (Fp 3 Vc (V8 (tz Vc Vc))) (Vh (Fp 3 Vc (V8 (tz Vc Vc))) (Gs 3 Vc Vc (V8 (tz Vc Vc))))))))) (Vh (JX [4] (Kn (Vu (Vt (JR Vc) (Vt (V9 (sz (Va 1))) (Vt (JR (XN Vc Vc)) (Vt (XN Vc Vc) V2)))))) (Vm 4) (Vr (Jg (Jh (Vz (tz (Va 0) (Va 4))))) (Vn VI) Vp)) (Vn VI)))⟩) (.a fun ds R X h=>?_)
 ·obtain⟨f0,hs,rfl,hz,hf,hw,hR⟩:=h;refine⟨rfl,?_⟩;have lp:=UX f0 hs;have lf:=NO f0 hs;have lw:=Bu hs;have lb:=Xt hs;refine⟨⟨by omega,by omega⟩,UD (fun i γ'=>γ'=[some (.bor (vilD (ExcR.Vb mg "Village") (bkH hs) (fsH f0 hs) (wsH hs))),some (.bor (.lst (V4 f0 hs))),none,none,none]) rfl ?_ ?_⟩
  ·rintro i γ' hi rfl;have hi':i<(((V4 f0 hs).length:Nat):Int).toNat:=hi;have ez:(0:Int)+(i:Int)=(i:Int):=by omega
   obtain⟨f,w,d,ef,ew,ea⟩:=D2 f0 hs i (by omega);have g1:f.length<=1000:=hf _ (Yh ef);have g2:w.length<=1000:=hw _ (Yh ew);have ea':atI (V4 f0 hs) (0+(i:Int))=some (.tup [plD f,plD w,d]):=by rw[ez];exact ea
   refine⟨rfl,rfl,bkH hs,fsH f0 hs,wsH hs,0+(i:Int),rfl,by omega,by omega,fun z=>?_,fun f' w' j x y ej ef' ew'=>?_⟩
   ·rcases z with z|z
    ·exact absurd z (by omega)
    ·exact absurd z (by omega)
   have:j=i:=by omega
   subst this;rw[ef] at ef';rw[ew] at ew';cases ef'
   cases ew'
   refine⟨true,.same _,iteF ?_⟩;refine⟨_,rfl,_,ea',_,rfl,f,rfl,by omega,iteF ?_⟩;refine⟨_,rfl,_,ea',_,rfl,w,rfl,by omega,iteF ?_⟩;refine⟨0,_,rfl,rfl,by simp,by rw[ZR];omega,?_⟩;refine⟨1,_,rfl,rfl,by simp,by rw[ZR];omega,?_⟩;refine⟨by simp,0,_,rfl,rfl,0,_,?_,rfl,rfl⟩;unfold ixN;rw[ZV (Int.le_refl 0),ZV (by show(0:Int)<(((f.map prD)++[_]).length:Nat);rw[ZZ,YH];omega)];rfl
  ·rintro γ' rfl
   have hx:∀z∈[(-1:Int),((V4 f0 hs).length:Nat),-(10 ^ 30),10 ^ 30],z<0\/((bkH hs).length:Int)<z:=fun z hz'=>by
    simp only[Ym,Wy,or_false] at hz';omega
   have cp:CPow 10 30:=⟨by decide,by decide,by decide⟩;refine⟨cp,cp,by simp,rfl,?_⟩;refine Kq (xs:=[(-1:Int),((V4 f0 hs).length:Nat),-(10 ^ 30),10 ^ 30]) (emb:=D.int) (fun i γ'=>γ'=[some (.bor (vilD (ExcR.Vb mg "Village") (bkH hs) (fsH f0 hs) (wsH hs))),some (.bor (.lst (V4 f0 hs))),none,none,none]) rfl ?_ ?_
   ·rintro i hi γ' rfl;exact⟨bkH hs,fsH f0 hs,wsH hs,_,rfl,by omega,by omega,hx _ (YI hi),iteF rfl⟩
   ·rintro γ' rfl;exact hR
def Er (G:Glob K mg) (DD:Def K mg "_law_call" Pr ["_law_village","_law_deed_here"])
  (Z6:N8 P w K mg base)
  (Z7:Sa P w K mg base)
  (Z8:Bg P w K mg base)
  (Z9:Bj P w K mg base)
  (ZA:BP P w K mg base)
  : Sd P w K mg base:=by
 refine DD.ox (k:=3) Eh (fun _ _ _ _ _ _ E hr=>⟨_,(Vg (Vo (cq K hr (jx K (pv 1) Vd) VB) (Vf (Vj (JZ Z7 G.cl_Village (hr.mono (by decide)) ExcR.VT (pv 0) (bz (jx K (pv 1) Vd) (jx K (pv 1) Vd)))))
   Vq) (Vg (Vo (cq K hr (jx K (pv 1) Vd) VB) (Vf (Vj (JZ Z8 G.cl_Village (hr.mono (by decide)) ExcR.VT (pv 0) (bz (jx K (pv 1) Vd) (jx K (pv 1) Vd)))))
   Vq) (Vg (Vo (cq K hr (jx K (pv 1) Vd) VB) (Vf (Vj (JZ Z9 G.cl_Village (hr.mono (by decide)) ExcR.VT (pv 0) (az (jx K (pv 1) Vd)))))
   Vq) (Vg (Vo (cq K hr (jx K (pv 1) Vd) VB) (Vf (Vj (JZ ZA G.cl_Village (hr.mono (by decide)) ExcR.VT (pv 0) (bz (jx K (pv 1) Vd) (jx K (pv 1) Vd)))))
   Vq) (Vf (Vj (JZ Z6 G.cl_Village (hr.mono (by decide)) ExcR.VT (pv 0) (bz (jx K (pv 1) Vd) (jx K (pv 1) Vd))))))))), (Vh (Vr (Vl (VE (Ve (Va 1) Vc) VA)) (JV (XO 0 FQ (tz (Ve (Va 1) Vc) (Ve (Va 1) Vc)))) Vp) (Vh (Vr (Vl (VE (Ve (Va 1) Vc) VA)) (JV (XO 0 DU (tz (Ve (Va 1) Vc) (Ve (Va 1) Vc)))) Vp) (Vh (Vr (Vl (VE (Ve (Va 1) Vc) VA)) (JV (XO 0 FO (sz (Ve (Va 1) Vc)))) Vp) (Vh (Vr (Vl (VE (Ve (Va 1) Vc) VA)) (JV (XO 0 CZ (tz (Ve (Va 1) Vc) (Ve (Va 1) Vc)))) Vp) (JV (XO 0 AU (tz (Ve (Va 1) Vc) (Ve (Va 1) Vc))))))))⟩) (.c fun o ss R X h=>?_)
 ·obtain⟨x,b1,b2,b3,bk,fs,ws,f,w,d,rfl,rfl,hb,hf,hw,hz,hy,hR⟩:=h;refine⟨rfl,?_⟩;cases d with
  | sell p h=>
   refine⟨_,rfl,?_⟩;refine⟨rfl,rfl,_,rfl,_,rfl,x,b1,b2,b3,bk,fs,ws,f,w,p,h,rfl,rfl,hb,hf,hw,hz,?_⟩;have hR:VX (KE bk f p h) (X (vO (ExcR.Vb mg "Village") x b1 b2 b3 bk (fs++[f]) (ws++[w]))) (R (vO (ExcR.Vb mg "Village") x b1 b2 b3 (bk++[(Dd.sell p h).q]) (fs++[f]++[(Dd.sell p h).fld f]) (ws++[w]++[(Dd.sell p h).wsh w])) (.int (bk.length+1))):=hR;cases e:KE bk f p h with
   | some c=>rw[e] at hR;exact⟨_,rfl,⟨rfl,by simp⟩,hR⟩
   | none=>rw[e] at hR;exact⟨_,rfl,⟨rfl,by simp⟩,hR⟩
  | part p h=>
   refine⟨_,rfl,_,rfl,?_⟩;refine⟨rfl,rfl,_,rfl,_,rfl,x,b1,b2,b3,bk,fs,ws,f,w,p,h,rfl,rfl,hb,hf,hw,hz,?_⟩;have hR:VX (Km bk f p h) (X (vO (ExcR.Vb mg "Village") x b1 b2 b3 bk (fs++[f]) (ws++[w]))) (R (vO (ExcR.Vb mg "Village") x b1 b2 b3 (bk++[(Dd.part p h).q]) (fs++[f]++[(Dd.part p h).fld f]) (ws++[w]++[(Dd.part p h).wsh w])) (.int (bk.length+1))):=hR;cases e:Km bk f p h with
   | some c=>rw[e] at hR;exact⟨_,rfl,⟨rfl,by simp⟩,hR⟩
   | none=>rw[e] at hR;exact⟨_,rfl,⟨rfl,by simp⟩,hR⟩
  | unite p=>
   refine⟨_,rfl,_,rfl,_,rfl,?_⟩;refine⟨rfl,rfl,_,rfl,x,b1,b2,b3,bk,fs,ws,f,w,p,rfl,rfl,hb,hf,hw,hz,?_⟩;have hR:VX (K8 bk f p) (X (vO (ExcR.Vb mg "Village") x b1 b2 b3 bk (fs++[f]) (ws++[w]))) (R (vO (ExcR.Vb mg "Village") x b1 b2 b3 (bk++[(Dd.unite p).q]) (fs++[f]++[(Dd.unite p).fld f]) (ws++[w]++[(Dd.unite p).wsh w])) (.int (bk.length+1))):=hR;cases e:K8 bk f p with
   | some c=>rw[e] at hR;exact⟨_,rfl,⟨rfl,by simp⟩,hR⟩
   | none=>rw[e] at hR;exact⟨_,rfl,⟨rfl,by simp⟩,hR⟩
  | wish p h=>
   refine⟨_,rfl,_,rfl,_,rfl,_,rfl,?_⟩;refine⟨rfl,rfl,_,rfl,_,rfl,x,b1,b2,b3,bk,fs,ws,f,w,p,h,rfl,rfl,hb,hf,hw,hy,?_⟩;have hR:VX (Kx bk w p h) (X (vO (ExcR.Vb mg "Village") x b1 b2 b3 bk (fs++[f]) (ws++[w]))) (R (vO (ExcR.Vb mg "Village") x b1 b2 b3 (bk++[(Dd.wish p h).q]) (fs++[f]++[(Dd.wish p h).fld f]) (ws++[w]++[(Dd.wish p h).wsh w])) (.int (bk.length+1))):=hR;cases e:Kx bk w p h with
   | some c=>rw[e] at hR;exact⟨_,rfl,⟨rfl,by simp⟩,hR⟩
   | none=>rw[e] at hR;exact⟨_,rfl,⟨rfl,by simp⟩,hR⟩
  | drop p h=>
   refine⟨_,rfl,_,rfl,_,rfl,_,rfl,?_⟩;refine⟨rfl,rfl,_,rfl,_,rfl,x,b1,b2,b3,bk,fs,ws,f,w,p,h,rfl,rfl,hb,hf,hw,hy,?_⟩;have hR:VX (Kb bk w p h) (X (vO (ExcR.Vb mg "Village") x b1 b2 b3 bk (fs++[f]) (ws++[w]))) (R (vO (ExcR.Vb mg "Village") x b1 b2 b3 (bk++[(Dd.drop p h).q]) (fs++[f]++[(Dd.drop p h).fld f]) (ws++[w]++[(Dd.drop p h).wsh w])) (.int (bk.length+1))):=hR;cases e:Kb bk w p h with
   | some c=>rw[e] at hR;exact⟨_,rfl,⟨rfl,by simp⟩,hR⟩
   | none=>rw[e] at hR;exact⟨_,rfl,⟨rfl,by simp⟩,hR⟩
def G7 (G:Glob K mg) (DD:Def K mg "_law_stands" T5 ["_law_village","_law_past"])
  (ZC:Fj P w K mg base)
  (Zk:T6 P w K mg base)
  (ZD:BB P w K mg base)
  (Zd:UP P w K mg base)
  (Zc:UG P w K mg base)
  : SR P w K mg base:=by
 refine DD.oz (k:=3) Gr (fun _ _ _ _ _ _ E hr=>⟨_,(Vg (Vo (Jc (Jd (K:=K) (fz Zk hr (bz (Jj Zd G.cl_Village (hr.mono (by decide)) Je (pv 0)) (jx K (jx K (pv 1) (JP JK Vd)) Vd))))) (Vf (Vj VJ))
   Vq) (Vg (Vo (Jc (Jd (K:=K) (fz Zk hr (bz (Jj Zc G.cl_Village (hr.mono (by decide)) Je (pv 0)) (jx K (jx K (pv 1) (JP JK Vd)) Vd))))) (Vf (Vj VJ))
   Vq) (Vf (Vj (fz ZC hr (bz (Jj ZD G.cl_Village (hr.mono (by decide)) Je (pv 0)) (Xz (N':=["_law_one"]) (φ:=[none]) rfl (Own.CompOk.of (by rfl)) (UR (K:=K) (J9 (J6 (K:=K)) (pv 1) (Jy Vd) JD)) (fun _ _ _ _ _=>⟨(gz 0 (show(["_law_one"]:List Str).Nodup from by decide +kernel)),PC,(jx K (pv 0) Vd)⟩)))))))), (Vh (Vr (Jg (Jh (Vz (tz (J8 Xi (Va 0) V2) (Ve (Ve (Va 1) (JR Vc)) Vc))))) (Vn VI) Vp) (Vh (Vr (Jg (Jh (Vz (tz (J8 Xf (Va 0) V2) (Ve (Ve (Va 1) (JR Vc)) Vc))))) (Vn VI) Vp) (Vn (Vz (tz (J8 EN (Va 0) V2) (Xq (Dl (Va 1) (Jw Vc) JE) (Vm 0) P9 (Ve (Va 0) Vc)))))))⟩) (.a fun ds R X h=>?_)
 ·obtain⟨f0,hs,rfl,hz,hf,hw,hR⟩:=h;refine⟨rfl,?_⟩;obtain⟨fs,ef,lf⟩:=Tx f0 hs;obtain⟨ws,ew,lw⟩:=PJ hs;obtain⟨d,el⟩:=PL f0 hs;have h1:(curF f0 hs).length<=1000:=hf _ (by rw[ef];simp);have h2:(curW hs).length<=1000:=hw _ (by rw[ew];simp);have lb:=Xt hs
  have bq:∀q∈bkH hs,q.2.length<=100:=fun q hq=>by
   unfold bkH at hq;obtain⟨h,_,rfl⟩:=Wq.mp hq
   have:=h.1.q_len
   omega
  have ec:cutD (V4 f0 hs) (some 1) none=hs.map pstD:=by
   rw[KH _ (by decide)];rfl
  refine⟨rfl,rfl,bkH hs,fs,wsH hs,curF f0 hs,by rw[←ef];rfl,?_⟩;refine⟨_,el,_,rfl,curF f0 hs,rfl,by omega,iteF ?_⟩;refine⟨rfl,rfl,bkH hs,fsH f0 hs,ws,curW hs,by rw[←ew];rfl,?_⟩;refine⟨_,el,_,rfl,curW hs,rfl,by omega,iteF ?_⟩;refine⟨rfl,rfl,bkH hs,fsH f0 hs,wsH hs,rfl,?_⟩;show CompW _ _ _ _ _ (cutD (V4 f0 hs) (some 1) none).length (fun i=>arg ((cutD (V4 f0 hs) (some 1) none).getD i .non)) _;rw[ec];refine Ee (xs:=hs) (emb:=pstD) (fun h=>some (dD h.1.q)) (by omega) (fun h _=>?_) ?_
  ·refine⟨_,rfl,_,?_,rfl⟩;show(arg (dD h.1.q)).shd=_;rw[K0];rfl
  ·rw[mapD (fun h:Dd×List (Int×Int)×List (Int×Int)=>dD h.1.q)]
   have eb:hs.map (fun h:Dd×List (Int×Int)×List (Int×Int)=>dD h.1.q)=(bkH hs).map dD:=by
    unfold bkH;rw[Wf];rfl
   rw[eb];exact⟨bkH hs,rfl,bq,by omega,hR⟩
def CB (G:Glob K mg) (DD:Def K mg "_law_do" TH ["_law_village","_law_deed_here"])
  (ZE:Sd P w K mg base)
  : B0 P w K mg base:=by
 refine DD.oz (k:=4) Xl (fun _ _ _ _ _ _ E hr=>⟨_,(Vg (Pu.pz 2 Xl.nd (Vv (az VJ))) (Vg (Pu.pz 3 Xl.nd (JP JK Vd)) (U1 (ExcR.Nw (fun pins D=>(Vf (Pu.pz 3 Xl.nd (ExcR.DM ZE (hr.mono (by decide)) (ExcR.Tu (pins:=pins) (D:=D) (i:=4) rfl rfl Xl.nd rfl rfl rfl G.m_MeldError (by decide) (fun a=>(Vf (@Pu.pz _ _ _ _ _ _ 2 Xl.nd (@Vv _ _ _ _ (@Vs _ _ _ _ _ (VH (ExcR.Jn (K:=K)) (by rfl) G.isinstance Yn (bz (pv 4) (JW (v:=.ty "ValueError") rfl G.ValueError (by decide +kernel) rfl))) (@Vs _ _ _ _ _ (VH (ExcR.Jn (K:=K)) (by rfl) G.isinstance Yn (bz (pv 4) (ExcR.J4 G.m_NoStrip))) (@Vs _ _ _ _ _ (VH (ExcR.Jn (K:=K)) (by rfl) G.isinstance Yn (bz (pv 4) (ExcR.J4 G.m_BadHolder))) (@Vs _ _ _ _ _ (VH (ExcR.Jn (K:=K)) (by rfl) G.isinstance Yn (bz (pv 4) (ExcR.J4 G.m_OwnStrip))) (@Vs _ _ _ _ _ (VH (ExcR.Jn (K:=K)) (by rfl) G.isinstance Yn (bz (pv 4) (ExcR.J4 G.m_BadPart))) (@Vs _ _ _ _ _ (VH (ExcR.Jn (K:=K)) (by rfl) G.isinstance Yn (bz (pv 4) (ExcR.J4 G.m_TooManyStrips))) (@Vs _ _ _ _ _ (VH (ExcR.Jn (K:=K)) (by rfl) G.isinstance Yn (bz (pv 4) (ExcR.J4 G.m_UnlikeHolders))) (@Vs _ _ _ _ _ (VH (ExcR.Jn (K:=K)) (by rfl) G.isinstance Yn (bz (pv 4) (ExcR.J4 G.m_TooWide))) (@Vs _ _ _ _ _ (VH (ExcR.Jn (K:=K)) (by rfl) G.isinstance Yn (bz (pv 4) (ExcR.J4 G.m_LikeHolders))) (@Vs _ _ _ _ _ (VH (ExcR.Jn (K:=K)) (by rfl) G.isinstance Yn (bz (pv 4) (ExcR.J4 G.m_WishStands))) (@Vs _ _ _ _ _ (VH (ExcR.Jn (K:=K)) (by rfl) G.isinstance Yn (bz (pv 4) (ExcR.J4 G.m_TooManyWishes))) (@Vs _ _ _ _ _ (VH (ExcR.Jn (K:=K)) (by rfl) G.isinstance Yn (bz (pv 4) (ExcR.J4 G.m_NoWish))) (@Vs _ _ _ _ _ (VH (ExcR.Jn (K:=K)) (by rfl) G.isinstance Yn (bz (pv 4) (ExcR.J4 G.m_BookFull))) VL rfl) rfl) rfl) rfl) rfl) rfl) rfl) rfl) rfl) rfl) rfl) rfl) rfl)) rfl (by first|exact Or.inl rfl|exact Or.inr rfl) rfl (by first|exact .inl rfl|exact .inr rfl|assumption))))) (bz (pv 0) (pv 1))))))) (Vf (Vj (V7 (bz (pv 3) (pv 2)))))))), (Vh (Vx (Vu (sz VI)) (Vm 2)) (Vh (Vx (JR Vc) (Vm 3)) (U3 (TM (E':=fun _=>E) ["MeldError","TooManyStrips","BadHolder","BadWidth","NoStrip","OwnStrip","BadPart","UnlikeHolders","TooWide","LikeHolders","WishStands","TooManyWishes","NoWish","BookFull","NothingDone","NoSuchDeed"] (fun c hc=>by
    simp only[Ym,Wy,or_false] at hc;rcases hc with rfl|rfl|rfl|rfl|rfl|rfl|rfl|rfl|rfl|rfl|rfl|rfl|rfl|rfl|rfl|rfl
    ·exact⟨G.g_MeldError,G.x_MeldError_MeldError⟩
    ·exact⟨G.g_TooManyStrips,G.x_TooManyStrips_MeldError⟩
    ·exact⟨G.g_BadHolder,G.x_BadHolder_MeldError⟩
    ·exact⟨G.g_BadWidth,G.x_BadWidth_MeldError⟩
    ·exact⟨G.g_NoStrip,G.x_NoStrip_MeldError⟩
    ·exact⟨G.g_OwnStrip,G.x_OwnStrip_MeldError⟩
    ·exact⟨G.g_BadPart,G.x_BadPart_MeldError⟩
    ·exact⟨G.g_UnlikeHolders,G.x_UnlikeHolders_MeldError⟩
    ·exact⟨G.g_TooWide,G.x_TooWide_MeldError⟩
    ·exact⟨G.g_LikeHolders,G.x_LikeHolders_MeldError⟩
    ·exact⟨G.g_WishStands,G.x_WishStands_MeldError⟩
    ·exact⟨G.g_TooManyWishes,G.x_TooManyWishes_MeldError⟩
    ·exact⟨G.g_NoWish,G.x_NoWish_MeldError⟩
    ·exact⟨G.g_BookFull,G.x_BookFull_MeldError⟩
    ·exact⟨G.g_NothingDone,G.x_NothingDone_MeldError⟩
    ·exact⟨G.g_NoSuchDeed,G.x_NoSuchDeed_MeldError⟩)
    (fun D=>(Vw 1 (XZ (FJ 0 (sz (Va 1))) (Vm 3)))) (Vx (Vu (Vt (Jl (tz (Va 4) Ua)) (Vt (Jl (tz (Va 4) JA)) (Vt (Jl (tz (Va 4) JA)) (Vt (Jl (tz (Va 4) JA)) (Vt (Jl (tz (Va 4) JA)) (Vt (Jl (tz (Va 4) JA)) (Vt (Jl (tz (Va 4) JA)) (Vt (Jl (tz (Va 4) JA)) (Vt (Jl (tz (Va 4) JA)) (Vt (Jl (tz (Va 4) JA)) (Vt (Jl (tz (Va 4) JA)) (Vt (Jl (tz (Va 4) JA)) (Vt (Jl (tz (Va 4) JA)) V2)))))))))))))) (Vm 2))) (Vw 2 (Vw 3 (Xj (V8 (tz (Va 3) (Va 2)))))))))⟩) (.c fun o ss R X h=>?_)
 ·obtain⟨x,b1,b2,b3,bk,fs,ws,f,w,d,rfl,rfl,hb,hf,hw,hz,hy,hR⟩:=h;refine⟨rfl,?_⟩;refine⟨by simp,?_⟩;refine Um (fun γ'=>∃(o':O) (n:D) (ks:List Bool),γ'=[some (.own o'),some (.sh (dD d.q)),some (.own (ks.map D.bl)),some (.sh n),none]/\(vO (ExcR.Vb mg "Village") x b1 b2 b3 bk (fs++[f]) (ws++[w])).from o'/\R o' (.tup [n,.lst (ks.map D.bl)])) ?_ ?_
  ·refine⟨x,b1,b2,b3,bk,fs,ws,f,w,d,rfl,rfl,by omega,hf,hw,hz,hy,?_⟩;unfold By;rw[ZU (by omega)];have hk:=d.err_cases f w;rcases hk with e|e|e|e|e|e|e|e|e|e|e|e
   ·rw[e] at hR ⊢;rw[ZV rfl,ZV rfl] at hR;exact⟨_,_,[true],rfl,⟨rfl,by simp⟩,hR⟩
   ·rw[e] at hR ⊢;rw[ZU (by intro z;cases z),ZU (by intro z;cases z),XG] at hR;exact⟨by simp,_,G.g_NoStrip,G.k_NoStrip_ValueError,_,G.g_NoStrip,G.k_NoStrip_NoStrip,_,G.g_NoStrip,G.k_NoStrip_BadHolder,_,G.g_NoStrip,G.k_NoStrip_OwnStrip,_,G.g_NoStrip,G.k_NoStrip_BadPart,_,G.g_NoStrip,G.k_NoStrip_TooManyStrips,_,G.g_NoStrip,G.k_NoStrip_UnlikeHolders,_,G.g_NoStrip,G.k_NoStrip_TooWide,_,G.g_NoStrip,G.k_NoStrip_LikeHolders,_,G.g_NoStrip,G.k_NoStrip_WishStands,_,G.g_NoStrip,G.k_NoStrip_TooManyWishes,_,G.g_NoStrip,G.k_NoStrip_NoWish,_,G.g_NoStrip,G.k_NoStrip_BookFull,by simp,_,_,[true,true,false,false,false,false,false,false,false,false,false,false,false],rfl,⟨rfl,by simp⟩,hR⟩
   ·rw[e] at hR ⊢;rw[ZU (by intro z;cases z),ZU (by intro z;cases z),Xv] at hR;exact⟨by simp,_,G.g_BadHolder,G.k_BadHolder_ValueError,_,G.g_BadHolder,G.k_BadHolder_NoStrip,_,G.g_BadHolder,G.k_BadHolder_BadHolder,_,G.g_BadHolder,G.k_BadHolder_OwnStrip,_,G.g_BadHolder,G.k_BadHolder_BadPart,_,G.g_BadHolder,G.k_BadHolder_TooManyStrips,_,G.g_BadHolder,G.k_BadHolder_UnlikeHolders,_,G.g_BadHolder,G.k_BadHolder_TooWide,_,G.g_BadHolder,G.k_BadHolder_LikeHolders,_,G.g_BadHolder,G.k_BadHolder_WishStands,_,G.g_BadHolder,G.k_BadHolder_TooManyWishes,_,G.g_BadHolder,G.k_BadHolder_NoWish,_,G.g_BadHolder,G.k_BadHolder_BookFull,by simp,_,_,[true,false,true,false,false,false,false,false,false,false,false,false,false],rfl,⟨rfl,by simp⟩,hR⟩
   ·rw[e] at hR ⊢;rw[ZU (by intro z;cases z),ZU (by intro z;cases z),P3] at hR;exact⟨by simp,_,G.g_OwnStrip,G.k_OwnStrip_ValueError,_,G.g_OwnStrip,G.k_OwnStrip_NoStrip,_,G.g_OwnStrip,G.k_OwnStrip_BadHolder,_,G.g_OwnStrip,G.k_OwnStrip_OwnStrip,_,G.g_OwnStrip,G.k_OwnStrip_BadPart,_,G.g_OwnStrip,G.k_OwnStrip_TooManyStrips,_,G.g_OwnStrip,G.k_OwnStrip_UnlikeHolders,_,G.g_OwnStrip,G.k_OwnStrip_TooWide,_,G.g_OwnStrip,G.k_OwnStrip_LikeHolders,_,G.g_OwnStrip,G.k_OwnStrip_WishStands,_,G.g_OwnStrip,G.k_OwnStrip_TooManyWishes,_,G.g_OwnStrip,G.k_OwnStrip_NoWish,_,G.g_OwnStrip,G.k_OwnStrip_BookFull,by simp,_,_,[true,false,false,true,false,false,false,false,false,false,false,false,false],rfl,⟨rfl,by simp⟩,hR⟩
   ·rw[e] at hR ⊢;rw[ZU (by intro z;cases z),ZU (by intro z;cases z),KJ] at hR;exact⟨by simp,_,G.g_BadPart,G.k_BadPart_ValueError,_,G.g_BadPart,G.k_BadPart_NoStrip,_,G.g_BadPart,G.k_BadPart_BadHolder,_,G.g_BadPart,G.k_BadPart_OwnStrip,_,G.g_BadPart,G.k_BadPart_BadPart,_,G.g_BadPart,G.k_BadPart_TooManyStrips,_,G.g_BadPart,G.k_BadPart_UnlikeHolders,_,G.g_BadPart,G.k_BadPart_TooWide,_,G.g_BadPart,G.k_BadPart_LikeHolders,_,G.g_BadPart,G.k_BadPart_WishStands,_,G.g_BadPart,G.k_BadPart_TooManyWishes,_,G.g_BadPart,G.k_BadPart_NoWish,_,G.g_BadPart,G.k_BadPart_BookFull,by simp,_,_,[true,false,false,false,true,false,false,false,false,false,false,false,false],rfl,⟨rfl,by simp⟩,hR⟩
   ·rw[e] at hR ⊢;rw[ZU (by intro z;cases z),ZU (by intro z;cases z),Nl] at hR;exact⟨by simp,_,G.g_TooManyStrips,G.k_TooManyStrips_ValueError,_,G.g_TooManyStrips,G.k_TooManyStrips_NoStrip,_,G.g_TooManyStrips,G.k_TooManyStrips_BadHolder,_,G.g_TooManyStrips,G.k_TooManyStrips_OwnStrip,_,G.g_TooManyStrips,G.k_TooManyStrips_BadPart,_,G.g_TooManyStrips,G.k_TooManyStrips_TooManyStrips,_,G.g_TooManyStrips,G.k_TooManyStrips_UnlikeHolders,_,G.g_TooManyStrips,G.k_TooManyStrips_TooWide,_,G.g_TooManyStrips,G.k_TooManyStrips_LikeHolders,_,G.g_TooManyStrips,G.k_TooManyStrips_WishStands,_,G.g_TooManyStrips,G.k_TooManyStrips_TooManyWishes,_,G.g_TooManyStrips,G.k_TooManyStrips_NoWish,_,G.g_TooManyStrips,G.k_TooManyStrips_BookFull,by simp,_,_,[true,false,false,false,false,true,false,false,false,false,false,false,false],rfl,⟨rfl,by simp⟩,hR⟩
   ·rw[e] at hR ⊢;rw[ZU (by intro z;cases z),ZU (by intro z;cases z),Pn] at hR;exact⟨by simp,_,G.g_UnlikeHolders,G.k_UnlikeHolders_ValueError,_,G.g_UnlikeHolders,G.k_UnlikeHolders_NoStrip,_,G.g_UnlikeHolders,G.k_UnlikeHolders_BadHolder,_,G.g_UnlikeHolders,G.k_UnlikeHolders_OwnStrip,_,G.g_UnlikeHolders,G.k_UnlikeHolders_BadPart,_,G.g_UnlikeHolders,G.k_UnlikeHolders_TooManyStrips,_,G.g_UnlikeHolders,G.k_UnlikeHolders_UnlikeHolders,_,G.g_UnlikeHolders,G.k_UnlikeHolders_TooWide,_,G.g_UnlikeHolders,G.k_UnlikeHolders_LikeHolders,_,G.g_UnlikeHolders,G.k_UnlikeHolders_WishStands,_,G.g_UnlikeHolders,G.k_UnlikeHolders_TooManyWishes,_,G.g_UnlikeHolders,G.k_UnlikeHolders_NoWish,_,G.g_UnlikeHolders,G.k_UnlikeHolders_BookFull,by simp,_,_,[true,false,false,false,false,false,true,false,false,false,false,false,false],rfl,⟨rfl,by simp⟩,hR⟩
   ·rw[e] at hR ⊢;rw[ZU (by intro z;cases z),ZU (by intro z;cases z),PD] at hR;exact⟨by simp,_,G.g_TooWide,G.k_TooWide_ValueError,_,G.g_TooWide,G.k_TooWide_NoStrip,_,G.g_TooWide,G.k_TooWide_BadHolder,_,G.g_TooWide,G.k_TooWide_OwnStrip,_,G.g_TooWide,G.k_TooWide_BadPart,_,G.g_TooWide,G.k_TooWide_TooManyStrips,_,G.g_TooWide,G.k_TooWide_UnlikeHolders,_,G.g_TooWide,G.k_TooWide_TooWide,_,G.g_TooWide,G.k_TooWide_LikeHolders,_,G.g_TooWide,G.k_TooWide_WishStands,_,G.g_TooWide,G.k_TooWide_TooManyWishes,_,G.g_TooWide,G.k_TooWide_NoWish,_,G.g_TooWide,G.k_TooWide_BookFull,by simp,_,_,[true,false,false,false,false,false,false,true,false,false,false,false,false],rfl,⟨rfl,by simp⟩,hR⟩
   ·rw[e] at hR ⊢;rw[ZU (by intro z;cases z),ZU (by intro z;cases z),TQ] at hR;exact⟨by simp,_,G.g_LikeHolders,G.k_LikeHolders_ValueError,_,G.g_LikeHolders,G.k_LikeHolders_NoStrip,_,G.g_LikeHolders,G.k_LikeHolders_BadHolder,_,G.g_LikeHolders,G.k_LikeHolders_OwnStrip,_,G.g_LikeHolders,G.k_LikeHolders_BadPart,_,G.g_LikeHolders,G.k_LikeHolders_TooManyStrips,_,G.g_LikeHolders,G.k_LikeHolders_UnlikeHolders,_,G.g_LikeHolders,G.k_LikeHolders_TooWide,_,G.g_LikeHolders,G.k_LikeHolders_LikeHolders,_,G.g_LikeHolders,G.k_LikeHolders_WishStands,_,G.g_LikeHolders,G.k_LikeHolders_TooManyWishes,_,G.g_LikeHolders,G.k_LikeHolders_NoWish,_,G.g_LikeHolders,G.k_LikeHolders_BookFull,by simp,_,_,[true,false,false,false,false,false,false,false,true,false,false,false,false],rfl,⟨rfl,by simp⟩,hR⟩
   ·rw[e] at hR ⊢;rw[ZU (by intro z;cases z),ZU (by intro z;cases z),Nq] at hR;exact⟨by simp,_,G.g_WishStands,G.k_WishStands_ValueError,_,G.g_WishStands,G.k_WishStands_NoStrip,_,G.g_WishStands,G.k_WishStands_BadHolder,_,G.g_WishStands,G.k_WishStands_OwnStrip,_,G.g_WishStands,G.k_WishStands_BadPart,_,G.g_WishStands,G.k_WishStands_TooManyStrips,_,G.g_WishStands,G.k_WishStands_UnlikeHolders,_,G.g_WishStands,G.k_WishStands_TooWide,_,G.g_WishStands,G.k_WishStands_LikeHolders,_,G.g_WishStands,G.k_WishStands_WishStands,_,G.g_WishStands,G.k_WishStands_TooManyWishes,_,G.g_WishStands,G.k_WishStands_NoWish,_,G.g_WishStands,G.k_WishStands_BookFull,by simp,_,_,[true,false,false,false,false,false,false,false,false,true,false,false,false],rfl,⟨rfl,by simp⟩,hR⟩
   ·rw[e] at hR ⊢;rw[ZU (by intro z;cases z),ZU (by intro z;cases z),Pv] at hR;exact⟨by simp,_,G.g_TooManyWishes,G.k_TooManyWishes_ValueError,_,G.g_TooManyWishes,G.k_TooManyWishes_NoStrip,_,G.g_TooManyWishes,G.k_TooManyWishes_BadHolder,_,G.g_TooManyWishes,G.k_TooManyWishes_OwnStrip,_,G.g_TooManyWishes,G.k_TooManyWishes_BadPart,_,G.g_TooManyWishes,G.k_TooManyWishes_TooManyStrips,_,G.g_TooManyWishes,G.k_TooManyWishes_UnlikeHolders,_,G.g_TooManyWishes,G.k_TooManyWishes_TooWide,_,G.g_TooManyWishes,G.k_TooManyWishes_LikeHolders,_,G.g_TooManyWishes,G.k_TooManyWishes_WishStands,_,G.g_TooManyWishes,G.k_TooManyWishes_TooManyWishes,_,G.g_TooManyWishes,G.k_TooManyWishes_NoWish,_,G.g_TooManyWishes,G.k_TooManyWishes_BookFull,by simp,_,_,[true,false,false,false,false,false,false,false,false,false,true,false,false],rfl,⟨rfl,by simp⟩,hR⟩
   ·rw[e] at hR ⊢;rw[ZU (by intro z;cases z),ZU (by intro z;cases z),TZ] at hR;exact⟨by simp,_,G.g_NoWish,G.k_NoWish_ValueError,_,G.g_NoWish,G.k_NoWish_NoStrip,_,G.g_NoWish,G.k_NoWish_BadHolder,_,G.g_NoWish,G.k_NoWish_OwnStrip,_,G.g_NoWish,G.k_NoWish_BadPart,_,G.g_NoWish,G.k_NoWish_TooManyStrips,_,G.g_NoWish,G.k_NoWish_UnlikeHolders,_,G.g_NoWish,G.k_NoWish_TooWide,_,G.g_NoWish,G.k_NoWish_LikeHolders,_,G.g_NoWish,G.k_NoWish_WishStands,_,G.g_NoWish,G.k_NoWish_TooManyWishes,_,G.g_NoWish,G.k_NoWish_NoWish,_,G.g_NoWish,G.k_NoWish_BookFull,by simp,_,_,[true,false,false,false,false,false,false,false,false,false,false,true,false],rfl,⟨rfl,by simp⟩,hR⟩
  ·rintro γ' ⟨o',n,ks,rfl,hfr,hR'⟩;exact⟨by simp,_,rfl,hfr,hR'⟩
def Aj (G:Glob K mg) (DD:Def K mg "_law_turn" P8 ["_law_village","_law_past","_law_deed_here"])
  (ZF:B0 P w K mg base)
  (ZG:Fx P w K mg base)
  (ZH:Sr P w K mg base)
  (ZI:BK P w K mg base)
  : BY P w K mg base:=by
 refine DD.oz (k:=5) Tp (fun _ _ _ _ _ _ E hr=>⟨_,(Vg (Vo (cq K hr (jx K (pv 2) Vd) VB) (Vf (Vj (fz ZH hr (bz (pv 0) (pv 1)))))
   Vq) (Vg (Pu.pz 3 Tp.nd (fz ZF hr (bz (pv 0) (pv 2)))) (Vg (Pu.pz 4 Tp.nd (fz ZG hr (bz (jx K (pv 1) (JP JK Vd)) (pv 2)))) (Vg (Vo (Jc (Jd (K:=K) (fz ZI hr (dz (pv 3) (jx K (pv 4) Vd) (ln K G.len (pv 1)))))) (Vf (Vj VJ))
   Vq) (U1 (Vo (cq K hr (jx K (pv 4) Vd) Vd) (Vf (VO (Uw Yv Y8 Y9 Uq (pv 1) (az (V7 (dz (jx K (pv 4) Vd) (jx K (pv 4) Vd) (pv 2)))))))
   Vq) (Vf (Vj VJ))))))), (Vh (Vr (Vl (VE (Ve (Va 2) Vc) VA)) (K7 1 (JV (T3 0 1 (by decide) V2))) Vp) (Vh (Vw 2 (XZ (Ci 0 (sz (Va 2))) (Vm 3))) (Vh (Vw 2 (Vx (KY (tz (Ve (Va 1) (JR Vc)) (Va 2))) (Vm 4))) (Vh (Vr (Jg (Jh (Vz (uz (Va 3) (Ve (Va 4) Vc) (V9 (sz (Va 1))))))) (Xj VI) Vp) (U3 (Vr (Vl (VE (Ve (Va 4) Vc) Vc)) (Vw 2 (Ph 1 (V8 (uz (Ve (Va 4) Vc) (Ve (Va 4) Vc) (Va 2))))) Vp) (Xj VI))))))⟩) (.d fun o1 o2 ss R X h=>?_)
 ·obtain⟨x,b1,b2,b3,a,f0,hs,q,rfl,rfl,rfl,hz,hf,hor⟩:=h;refine⟨rfl,?_⟩;obtain⟨⟨h1,h2⟩,h3⟩:=hf.cur;rcases hor with⟨rfl,hR⟩|⟨d,rfl,hR⟩
  ·refine⟨_,rfl,?_⟩;refine⟨x,b1,b2,b3,a,f0,hs,rfl,rfl,rfl,by omega,?_⟩;exact⟨_,_,rfl,rfl,⟨rfl,by simp⟩,rfl,hR⟩
  ·obtain⟨fs,ef,lf⟩:=Tx f0 hs;obtain⟨ws,ew,lw⟩:=PJ hs;obtain⟨dl,el⟩:=PL f0 hs;have lb:=Xt hs
   have nb:¬d.q.1=("back" : Str):=by
    cases d with
    | sell p h=>exact(by decide +kernel:¬("sell" : Str) = "back")
    | part p h=>exact(by decide +kernel:¬("part" : Str) = "back")
    | unite p=>exact(by decide +kernel:¬("unite" : Str) = "back")
    | wish p h=>exact(by decide +kernel:¬("wish" : Str) = "back")
    | drop p h=>exact(by decide +kernel:¬("drop" : Str) = "back")
   refine⟨_,J0 _ _,?_⟩;show if decide (d.q.1=("back" : Str))=true then _ else _;rw[Yk nb];refine iteF ?_;refine⟨x,b1,b2,b3,bkH hs,fs,ws,curF f0 hs,curW hs,d,by rw[←ef,←ew],rfl,by omega,by omega,by omega,by omega,by have:=h3.1;omega,?_⟩;generalize eo:(if d.err (curF f0 hs) (curW hs)=none then vO (ExcR.Vb mg "Village") x b1 b2 b3 (bkH hs++[d.q]) (fs++[curF f0 hs]++[d.fld (curF f0 hs)]) (ws++[curW hs]++[d.wsh (curW hs)]) else vO (ExcR.Vb mg "Village") x b1 b2 b3 (bkH hs) (fs++[curF f0 hs]) (ws++[curW hs]))=o';refine⟨_,el,curF f0 hs,curW hs,[dl],d,rfl,h2,h3.1,?_⟩;have lp:=UX f0 hs
   have en:(if d.err (curF f0 hs) (curW hs)=none then(((bkH hs).length:Nat):Int)+1 else -1)=if codeN (d.err (curF f0 hs) (curW hs))=0 then(((V4 f0 hs).length:Nat):Int) else -1:=by
    by_cases e:d.err (curF f0 hs) (curW hs)=none
    ·rw[ZV e,ZV ((Dd.code0 _ _ _).mpr e),lb,lp];omega
    ·rw[ZU e,ZU fun z=>e ((Dd.code0 _ _ _).mp z)]
   rw[en];refine⟨_,rfl,_,_,rfl,iteF ?_⟩;refine Um (fun γ'=>∃t1 t2 t3:Option S,γ'=[some (.own o'),some (.own (.lsA a (V4 f0 (addH f0 hs d)))),t1,t2,t3]) ?_ ?_
   ·refine⟨_,rfl,?_⟩;show if decide (codeN (d.err (curF f0 hs) (curW hs))=0)=true then _ else _;refine ite2 (fun g=>?_) (fun g=>?_)
    ·have e:=(Dd.code0 _ _ _).mp (ZX g)
     have ea:V4 f0 (addH f0 hs d)=V4 f0 hs++[.tup [plD (d.nf (curF f0 hs) (curW hs)),plD (d.nw (curF f0 hs) (curW hs)),dD d.q]]:=by
      unfold addH Dd.nf Dd.nw;rw[ZV e,ZV e,ZV e,Nc];rfl
     rw[ea];exact⟨_,rfl,_,rfl,by simp,by omega,_,_,_,rfl⟩
    ·have e:¬d.err (curF f0 hs) (curW hs)=none:=fun z=>g (ZT ((Dd.code0 _ _ _).mpr z));have ea:addH f0 hs d=hs:=by unfold addH;rw[ZU e]
     rw[ea];exact⟨_,_,_,rfl⟩
   ·rintro γ' ⟨t1,t2,t3,rfl⟩;subst eo;by_cases e:d.err (curF f0 hs) (curW hs)=none
    ·rw[ZV e];have ea:addH f0 hs d=hs++[(d,d.fld (curF f0 hs),d.wsh (curW hs))]:=by unfold addH;rw[ZV e]
     rw[ea] at hR ⊢;rw[Nu,Kj,K5,ef,ew] at hR;exact⟨_,_,rfl,rfl,⟨rfl,by simp⟩,rfl,hR⟩
    ·rw[ZU e];have ea:addH f0 hs d=hs:=by unfold addH;rw[ZU e]
     rw[ea] at hR ⊢;rw[ef,ew] at hR;exact⟨_,_,rfl,rfl,⟨rfl,by simp⟩,rfl,hR⟩
def D0 (G:Glob K mg) (DD:Def K mg "law" Ug ["_law_script"])
  (ZJ:NS P w K mg base)
  (ZK:Nx P w K mg base)
  (ZL:NN P w K mg base)
  (ZM:N2 P w K mg base)
  (ZN:Sh P w K mg base)
  (ZO:SR P w K mg base)
  (ZP:Fe P w K mg base)
  (Zq:BY P w K mg base)
  (Zr:Be P w K mg base)
  (Zb:Xc P w K mg base)
  (ZQ:BL P w K mg base)
  : Dm P w K mg base:=by
 refine DD.oz (k:=6) UI (fun _ _ _ _ _ _ E hr=>⟨_,(Vg (Pu.pz 1 UI.nd (fz ZJ hr (az (fz ZP hr (bz (pv 0) Vd))))) (Vg (Pu.pz 2 UI.nd (fz ZK hr (dz (pv 0) (pv 1) (Vi V6 (Vi VS (fz Zb hr (bz (pv 0) Vd)) Vd) Vd)))) (Vg (Pu.pz 3 UI.nd (HE ZL G.m_Village (hr.mono (by decide)) BD (az (Uy (UH (K:=K)) (by rfl) G.list boot_list (az (pv 2)))))) (Vg (Pu.pz 4 UI.nd (Vv (az (V7 (dz (pv 2) (Vv VL) (V7 VL)))))) (Vg (JY YL rfl (UR (K:=K) (fz ZM hr (bz (pv 0) (pv 1)))) (gz 5 UI.nd) (Vf (Vo (Jc (Jd (K:=K) (fz Zq hr (dz (pv 3) (pv 4) (pv 5))))) (Vf (Vj VJ))
   Vq))) (Vg (JY YL rfl (UR (K:=K) (fz ZN hr (bz (pv 0) Vd))) (gz 6 UI.nd) (Vf (Vo (Jc (Jd (K:=K) (fz Zq hr (dz (pv 3) (pv 4) (fz ZQ hr (dz (pv 6) (pv 1) (jx K (pv 4) (JP JK Vd)))))))) (Vf (Vj VJ))
   Vq))) (Vg (Vo (PW.pt (VU (Jc (Jd (K:=K) (fz Zr hr (bz (pv 3) (pv 4))))) (Jb (Jc (Jd (K:=K) (fz Zr hr (bz (pv 3) (pv 4)))))))) (Vf (Vj VJ))
   Vq) (Vf (Vj (fz ZO hr (bz (pv 3) (pv 4)))))))))))), (Vh (Vx (Vz (sz (Vz (tz (Va 0) Vc)))) (Vm 1)) (Vh (Vx (Vz (uz (Va 0) (Va 1) (V5 (VR (Vz (tz (Va 0) Vc)) Vc) Vc))) (Vm 2)) (Vh (Vx (Gu (sz (UE (sz (Va 2))))) (Vm 3)) (Vh (Vw 2 (Vx (Vu (sz (V8 (uz (Va 2) (Vu V2) (V8 V2))))) (Vm 4))) (Vh (K7 4 (JX [5] (Kn (Vz (tz (Va 0) (Va 1)))) (Vm 5) (Vw 5 (K7 4 (F0 (NB (sv_w (T3 3 4 (by decide) (sz (Va 5))))) (Vn VI) Vp))))) (Vh (JX [6] (Kn (Vz (tz (Va 0) Vc))) (Vm 6) (K7 4 (F0 (NB (sv_w (T3 3 4 (by decide) (sz (Vz (uz (Va 6) (Va 1) (Ve (Va 4) (JR Vc)))))))) (Vn VI) Vp))) (Vh (Vr (VV (Jg (Jh (Vz (tz (Va 3) (Va 4))))) (Jg (Jh (Vz (tz (Va 3) (Va 4)))))) (Vn VI) Vp) (Vn (Vz (tz (Va 3) (Va 4)))))))))))⟩) (.a fun ds R X h=>?_)
 ·obtain⟨ns,rfl,hR⟩:=h;refine⟨rfl,?_⟩;refine⟨ns,0,rfl,by decide,fun c0=>⟨c0,rfl,fun m hM=>?_⟩⟩;refine⟨ns,0,rfl,by decide,⟨by decide,by decide⟩,(by show(0:Int)<41;decide),ns,m,_,rfl,hM,by omega,by omega,fun ps hF hlen=>?_⟩;have hz:ps.length<=40:=by omega
  refine⟨rfl,fun x=>⟨x,ps,rfl,rfl,by omega,?_⟩⟩;rw[FE hF hz];refine fun b1 b2 b3=>⟨rfl,?_⟩;refine⟨by simp,by simp,by simp,by simp,fun a=>?_⟩;refine⟨ns,m,rfl,hM,fun qs hq=>?_⟩;refine⟨rfl,Kq (xs:=qs) (emb:=fun q:Int×Int=>dD (Dd.wish q.1 q.2).q) (fun i γ'=>∃hs:Hist,hs.length<=i/\FineH ps hs/\γ'=[some (.bor (.scr ns)),some (.own (m.map D.int)),some (.sh (plD ps)),some (.own (vO (ExcR.Vb mg "Village") x b1 b2 b3 (bkH hs) (fsH ps hs) (wsH hs))),some (.own (.lsA a (V4 ps hs))),none,none]) ?_ ?_ ?_⟩
  ·exact⟨[],Wu _,FineH.nil hF hz,rfl⟩
  ·rintro i γ' hi ⟨hs,h1,h2,rfl⟩;refine⟨x,b1,b2,b3,a,ps,hs,_,rfl,rfl,rfl,by omega,h2,.inr ⟨.wish qs[i].1 qs[i].2,rfl,?_⟩⟩;refine iteF ?_;exact⟨addH ps hs (.wish qs[i].1 qs[i].2),by have:=BU ps hs (.wish qs[i].1 qs[i].2);omega,h2.add _,rfl⟩
  ·rintro γ' ⟨hs,h1,h2,rfl⟩;refine⟨ns,60,rfl,by decide,by decide,fun cs hc=>?_⟩;refine⟨rfl,Kq (xs:=cs) (emb:=D.int) (fun i γ'=>∃hs:Hist,hs.length<=24+i/\FineH ps hs/\γ'=[some (.bor (.scr ns)),some (.own (m.map D.int)),some (.sh (plD ps)),some (.own (vO (ExcR.Vb mg "Village") x b1 b2 b3 (bkH hs) (fsH ps hs) (wsH hs))),some (.own (.lsA a (V4 ps hs))),none,none]) ?_ ?_ ?_⟩
   ·exact⟨hs,by omega,h2,rfl⟩
   ·rintro i γ' hi ⟨hs,h1,h2,rfl⟩;obtain⟨⟨c1,c2⟩,c3⟩:=h2.cur;obtain⟨dl,el⟩:=PL ps hs;refine⟨_,el,_,m,curF ps hs,curW hs,[dl],rfl,hM,by omega,c1,by have:=c3.1;omega,fun d=>?_,?_⟩
    ·refine⟨x,b1,b2,b3,a,ps,hs,_,rfl,rfl,rfl,by omega,h2,.inr ⟨d,rfl,?_⟩⟩;have la:=BU ps hs d;have hk:=h2.add d;exact iteF ⟨addH ps hs d,by omega,hk,rfl⟩
    ·refine⟨x,b1,b2,b3,a,ps,hs,_,rfl,rfl,rfl,by omega,h2,.inl ⟨rfl,?_⟩⟩;have la:hs.dropLast.length<=hs.length:=by rw[List.length_dropLast];omega
     have hk:=h2.back;exact iteF ⟨hs.dropLast,by omega,hk,rfl⟩
   ·rintro γ' ⟨hs,h1,h2,rfl⟩;refine⟨ps,hs,rfl,by omega,h2.len.1,h2.len.2,?_⟩;refine iteF ⟨ps,hs,rfl,by omega,h2.len.1,h2.len.2,iteF ?_⟩;exact⟨ps,hs,rfl,by omega,h2.len.1,h2.len.2,hR⟩
end
end T
namespace T
open PySem PySem.Spec PyProof.Rows L2 Own M
def Ap {l:PySem.W.OpenLaw}{w:World}{K:Za}{h:Heap}{mg:Str->Option Value}{fa:Addr} (X:K.In h) (G0:h.Ns mainGlobals mg) (hfa:mg "law"=some (.ref fa))
  {Qc:Addr} (Q0:PySem.W.nsIn K mainGlobals "Village"=some (some (.ref Qc)))
  (Q3:PySem.W.plainGet K Qc Str.empty=true) (Q4:PySem.W.hasDictIn K Qc=true) (Q5:PySem.W.plainOver K Qc=true) (Q6:PySem.W.findIn K (.ref Qc) "__setattr__"=some (some (.builtin "object.__setattr__"))) (Q7:PySem.W.makesIn K Qc=true) (Q8:PySem.W.keepIn K (.ref Qc)=true)
  (Q9:PySem.W.findIn K (.ref Qc) "book"=some none)
  (QA:PySem.W.findIn K (.ref Qc) "fields"=some none)
  (QB:PySem.W.findIn K (.ref Qc) "wished"=some none)
  (a0:Pu.DI K "check_holder" Nn)
  (a1:Pu.DI K "check_width" KR)
  (a2:Pu.DI K "check_strips" TB)
  (a3:Pu.DI K "check_neighbours" T1)
  (a4:Pu.DI K "check_place" Tf)
  (a5:Pu.DI K "sold" PP)
  (a6:Pu.DI K "parted" Pj)
  (a7:Pu.DI K "united" PV)
  (a8:Pu.DI K "with_wish" P1)
  (a9:Pu.DI K "without_wish" KW)
  (a10:Pu.MI K Qc "__init__" "Village.__init__" T4)
  (a11:Pu.MI K Qc "strips" "Village.strips" Pk)
  (a12:Pu.MI K Qc "wishes" "Village.wishes" P4)
  (a13:Pu.MI K Qc "deeds" "Village.deeds" Tw)
  (a14:Pu.MI K Qc "check_room" "Village.check_room" PX)
  (a15:Pu.MI K Qc "enter" "Village.enter" PB)
  (a16:Pu.MI K Qc "sell" "Village.sell" Pg)
  (a17:Pu.MI K Qc "part" "Village.part" P7)
  (a18:Pu.MI K Qc "unite" "Village.unite" P5)
  (a19:Pu.MI K Qc "wish" "Village.wish" T9)
  (a20:Pu.MI K Qc "drop" "Village.drop" KU)
  (a21:Pu.MI K Qc "take_back" "Village.take_back" Pt)
  (a22:Pu.MI K Qc "stood" "Village.stood" TU)
  (a23:Pu.DI K "_law_at" TN)
  (a24:Pu.DI K "_law_whole" T7)
  (a25:Pu.DI K "_law_mix" Pa)
  (a26:Pu.DI K "_law_draw" TJ)
  (a27:Pu.DI K "_law_menu" Nk)
  (a28:Pu.DI K "_law_holder" Ni)
  (a29:Pu.DI K "_law_tuples" P6)
  (a30:Pu.DI K "_law_deed_is" KQ)
  (a31:Pu.DI K "_law_book_is" Px)
  (a32:Pu.DI K "_law_field_step" Ng)
  (a33:Pu.DI K "_law_wish_step" Tz)
  (a34:Pu.DI K "_law_step" Ta)
  (a35:Pu.DI K "_law_call" Pr)
  (a36:Pu.DI K "_law_do" TH)
  (a37:Pu.DI K "_law_said" PQ)
  (a38:Pu.DI K "_law_back" TL)
  (a39:Pu.DI K "_law_stands" T5)
  (a40:Pu.DI K "_law_turn" P8)
  (a41:Pu.DI K "_law_start" KS)
  (a42:Pu.DI K "_law_days" Nt)
  (a43:Pu.DI K "_law_odd" PR)
  (a44:Pu.DI K "_law_place" PY)
  (a45:Pu.DI K "_law_pair" KO)
  (a46:Pu.DI K "_law_opening" Nj)
  (a47:Pu.DI K "_law_width" Pb)
  (a48:Pu.DI K "_law_deed" Nr)
  (a49:Pu.DI K "_law_none_such" PN)
  (a50:Pu.DI K "_law_past_is" TY)
  {f51:Addr} {od51 an51:Option Addr} {sl51:Array (Option Value)} {oc51 kV51 dc51 pm51 cd51 ct51:Value}
  (a51:PySem.W.nsIn K mainGlobals "law"=some (some (.ref f51)))
  (l51:K.lookup f51=some ⟨oc51,od51,.func (PySem.W.fnOf "law" "law" (JN Ug) (Ja Ug) (Vk Ug) .none kV51 dc51 pm51 an51 cd51 ct51),sl51⟩)
  (c51:PySem.W.codeIn K cd51 "law"=true) (k51:PySem.W.keepIn K (.ref f51)=true)
  (QC:PySem.W.nsIn K mainGlobals "ValueError"=some none)
  (QD:PySem.W.nsIn K mainGlobals "bool"=some none)
  (QE:PySem.W.nsIn K mainGlobals "int"=some none)
  (QF:PySem.W.nsIn K mainGlobals "isinstance"=some none)
  (QG:PySem.W.nsIn K mainGlobals "len"=some none)
  (QH:PySem.W.nsIn K mainGlobals "list"=some none)
  (QI:PySem.W.nsIn K mainGlobals "max"=some none)
  (QJ:PySem.W.nsIn K mainGlobals "min"=some none)
  (QK:PySem.W.nsIn K mainGlobals "range"=some none)
  (QL:PySem.W.nsIn K mainGlobals "str"=some none)
  (QM:PySem.W.nsIn K mainGlobals "tuple"=some none)
  {QU:Tok} (QN:PySem.W.nsIn K mainGlobals "HOLDERS"=some (some (.int 10 QU)))
  {QV:Tok} (QO:PySem.W.nsIn K mainGlobals "STRIPS"=some (some (.int 40 QV)))
  {QW:Tok} (QP:PySem.W.nsIn K mainGlobals "WIDEST"=some (some (.int 1000 QW)))
  {QX:Tok} (QR:PySem.W.nsIn K mainGlobals "MOST_WISHES"=some (some (.int 20 QX)))
  {QY:Tok} (QS:PySem.W.nsIn K mainGlobals "MOST_DEEDS"=some (some (.int 100 QY)))
  {Qd:Addr} (Qk:Pu.EI K "MeldError" Qd)
  {WE:Addr} (Ql:Pu.EI K "TooManyStrips" WE)
  {WG:Addr} (Qm:Pu.EI K "BadHolder" WG)
  {QT:Addr} (Qn:Pu.EI K "BadWidth" QT)
  {WH:Addr} (Qo:Pu.EI K "NoStrip" WH)
  {WI:Addr} (Qp:Pu.EI K "OwnStrip" WI)
  {WJ:Addr} (Qq:Pu.EI K "BadPart" WJ)
  {WK:Addr} (Qr:Pu.EI K "UnlikeHolders" WK)
  {WL:Addr} (Qs:Pu.EI K "TooWide" WL)
  {WM:Addr} (Qt:Pu.EI K "LikeHolders" WM)
  {WN:Addr} (Qu:Pu.EI K "WishStands" WN)
  {WO:Addr} (Qv:Pu.EI K "TooManyWishes" WO)
  {WQ:Addr} (Qw:Pu.EI K "NoWish" WQ)
  {Qg:Addr} (Qx:Pu.EI K "BookFull" Qg)
  {Qi:Addr} (Qy:Pu.EI K "NothingDone" Qi)
  {Qj:Addr} (Qz:Pu.EI K "NoSuchDeed" Qj)
  (x_MeldError_MeldError:PySem.W.exmOne K (.ref Qd) (.ref Qd)=some true)
  (x_TooManyStrips_MeldError:PySem.W.exmOne K (.ref WE) (.ref Qd)=some true)
  (x_BadHolder_MeldError:PySem.W.exmOne K (.ref WG) (.ref Qd)=some true)
  (x_BadWidth_MeldError:PySem.W.exmOne K (.ref QT) (.ref Qd)=some true)
  (x_NoStrip_MeldError:PySem.W.exmOne K (.ref WH) (.ref Qd)=some true)
  (x_OwnStrip_MeldError:PySem.W.exmOne K (.ref WI) (.ref Qd)=some true)
  (x_BadPart_MeldError:PySem.W.exmOne K (.ref WJ) (.ref Qd)=some true)
  (x_UnlikeHolders_MeldError:PySem.W.exmOne K (.ref WK) (.ref Qd)=some true)
  (x_TooWide_MeldError:PySem.W.exmOne K (.ref WL) (.ref Qd)=some true)
  (x_LikeHolders_MeldError:PySem.W.exmOne K (.ref WM) (.ref Qd)=some true)
  (x_WishStands_MeldError:PySem.W.exmOne K (.ref WN) (.ref Qd)=some true)
  (x_TooManyWishes_MeldError:PySem.W.exmOne K (.ref WO) (.ref Qd)=some true)
  (x_NoWish_MeldError:PySem.W.exmOne K (.ref WQ) (.ref Qd)=some true)
  (x_BookFull_MeldError:PySem.W.exmOne K (.ref Qg) (.ref Qd)=some true)
  (x_NothingDone_MeldError:PySem.W.exmOne K (.ref Qi) (.ref Qd)=some true)
  (x_NothingDone_NothingDone:PySem.W.exmOne K (.ref Qi) (.ref Qi)=some true)
  (x_NoSuchDeed_MeldError:PySem.W.exmOne K (.ref Qj) (.ref Qd)=some true)
  (x_NoSuchDeed_NoSuchDeed:PySem.W.exmOne K (.ref Qj) (.ref Qj)=some true)
  (k_TooManyStrips_ValueError:PySem.W.kitOne K (.ref WE) (.type "ValueError")=some true)
  (k_TooManyStrips_NoStrip:PySem.W.kitOne K (.ref WE) (.ref WH)=some false)
  (k_TooManyStrips_BadHolder:PySem.W.kitOne K (.ref WE) (.ref WG)=some false)
  (k_TooManyStrips_OwnStrip:PySem.W.kitOne K (.ref WE) (.ref WI)=some false)
  (k_TooManyStrips_BadPart:PySem.W.kitOne K (.ref WE) (.ref WJ)=some false)
  (k_TooManyStrips_TooManyStrips:PySem.W.kitOne K (.ref WE) (.ref WE)=some true)
  (k_TooManyStrips_UnlikeHolders:PySem.W.kitOne K (.ref WE) (.ref WK)=some false)
  (k_TooManyStrips_TooWide:PySem.W.kitOne K (.ref WE) (.ref WL)=some false)
  (k_TooManyStrips_LikeHolders:PySem.W.kitOne K (.ref WE) (.ref WM)=some false)
  (k_TooManyStrips_WishStands:PySem.W.kitOne K (.ref WE) (.ref WN)=some false)
  (k_TooManyStrips_TooManyWishes:PySem.W.kitOne K (.ref WE) (.ref WO)=some false)
  (k_TooManyStrips_NoWish:PySem.W.kitOne K (.ref WE) (.ref WQ)=some false)
  (k_TooManyStrips_BookFull:PySem.W.kitOne K (.ref WE) (.ref Qg)=some false)
  (k_BadHolder_ValueError:PySem.W.kitOne K (.ref WG) (.type "ValueError")=some true)
  (k_BadHolder_NoStrip:PySem.W.kitOne K (.ref WG) (.ref WH)=some false)
  (k_BadHolder_BadHolder:PySem.W.kitOne K (.ref WG) (.ref WG)=some true)
  (k_BadHolder_OwnStrip:PySem.W.kitOne K (.ref WG) (.ref WI)=some false)
  (k_BadHolder_BadPart:PySem.W.kitOne K (.ref WG) (.ref WJ)=some false)
  (k_BadHolder_TooManyStrips:PySem.W.kitOne K (.ref WG) (.ref WE)=some false)
  (k_BadHolder_UnlikeHolders:PySem.W.kitOne K (.ref WG) (.ref WK)=some false)
  (k_BadHolder_TooWide:PySem.W.kitOne K (.ref WG) (.ref WL)=some false)
  (k_BadHolder_LikeHolders:PySem.W.kitOne K (.ref WG) (.ref WM)=some false)
  (k_BadHolder_WishStands:PySem.W.kitOne K (.ref WG) (.ref WN)=some false)
  (k_BadHolder_TooManyWishes:PySem.W.kitOne K (.ref WG) (.ref WO)=some false)
  (k_BadHolder_NoWish:PySem.W.kitOne K (.ref WG) (.ref WQ)=some false)
  (k_BadHolder_BookFull:PySem.W.kitOne K (.ref WG) (.ref Qg)=some false)
  (k_NoStrip_ValueError:PySem.W.kitOne K (.ref WH) (.type "ValueError")=some true)
  (k_NoStrip_NoStrip:PySem.W.kitOne K (.ref WH) (.ref WH)=some true)
  (k_NoStrip_BadHolder:PySem.W.kitOne K (.ref WH) (.ref WG)=some false)
  (k_NoStrip_OwnStrip:PySem.W.kitOne K (.ref WH) (.ref WI)=some false)
  (k_NoStrip_BadPart:PySem.W.kitOne K (.ref WH) (.ref WJ)=some false)
  (k_NoStrip_TooManyStrips:PySem.W.kitOne K (.ref WH) (.ref WE)=some false)
  (k_NoStrip_UnlikeHolders:PySem.W.kitOne K (.ref WH) (.ref WK)=some false)
  (k_NoStrip_TooWide:PySem.W.kitOne K (.ref WH) (.ref WL)=some false)
  (k_NoStrip_LikeHolders:PySem.W.kitOne K (.ref WH) (.ref WM)=some false)
  (k_NoStrip_WishStands:PySem.W.kitOne K (.ref WH) (.ref WN)=some false)
  (k_NoStrip_TooManyWishes:PySem.W.kitOne K (.ref WH) (.ref WO)=some false)
  (k_NoStrip_NoWish:PySem.W.kitOne K (.ref WH) (.ref WQ)=some false)
  (k_NoStrip_BookFull:PySem.W.kitOne K (.ref WH) (.ref Qg)=some false)
  (k_OwnStrip_ValueError:PySem.W.kitOne K (.ref WI) (.type "ValueError")=some true)
  (k_OwnStrip_NoStrip:PySem.W.kitOne K (.ref WI) (.ref WH)=some false)
  (k_OwnStrip_BadHolder:PySem.W.kitOne K (.ref WI) (.ref WG)=some false)
  (k_OwnStrip_OwnStrip:PySem.W.kitOne K (.ref WI) (.ref WI)=some true)
  (k_OwnStrip_BadPart:PySem.W.kitOne K (.ref WI) (.ref WJ)=some false)
  (k_OwnStrip_TooManyStrips:PySem.W.kitOne K (.ref WI) (.ref WE)=some false)
  (k_OwnStrip_UnlikeHolders:PySem.W.kitOne K (.ref WI) (.ref WK)=some false)
  (k_OwnStrip_TooWide:PySem.W.kitOne K (.ref WI) (.ref WL)=some false)
  (k_OwnStrip_LikeHolders:PySem.W.kitOne K (.ref WI) (.ref WM)=some false)
  (k_OwnStrip_WishStands:PySem.W.kitOne K (.ref WI) (.ref WN)=some false)
  (k_OwnStrip_TooManyWishes:PySem.W.kitOne K (.ref WI) (.ref WO)=some false)
  (k_OwnStrip_NoWish:PySem.W.kitOne K (.ref WI) (.ref WQ)=some false)
  (k_OwnStrip_BookFull:PySem.W.kitOne K (.ref WI) (.ref Qg)=some false)
  (k_BadPart_ValueError:PySem.W.kitOne K (.ref WJ) (.type "ValueError")=some true)
  (k_BadPart_NoStrip:PySem.W.kitOne K (.ref WJ) (.ref WH)=some false)
  (k_BadPart_BadHolder:PySem.W.kitOne K (.ref WJ) (.ref WG)=some false)
  (k_BadPart_OwnStrip:PySem.W.kitOne K (.ref WJ) (.ref WI)=some false)
  (k_BadPart_BadPart:PySem.W.kitOne K (.ref WJ) (.ref WJ)=some true)
  (k_BadPart_TooManyStrips:PySem.W.kitOne K (.ref WJ) (.ref WE)=some false)
  (k_BadPart_UnlikeHolders:PySem.W.kitOne K (.ref WJ) (.ref WK)=some false)
  (k_BadPart_TooWide:PySem.W.kitOne K (.ref WJ) (.ref WL)=some false)
  (k_BadPart_LikeHolders:PySem.W.kitOne K (.ref WJ) (.ref WM)=some false)
  (k_BadPart_WishStands:PySem.W.kitOne K (.ref WJ) (.ref WN)=some false)
  (k_BadPart_TooManyWishes:PySem.W.kitOne K (.ref WJ) (.ref WO)=some false)
  (k_BadPart_NoWish:PySem.W.kitOne K (.ref WJ) (.ref WQ)=some false)
  (k_BadPart_BookFull:PySem.W.kitOne K (.ref WJ) (.ref Qg)=some false)
  (k_UnlikeHolders_ValueError:PySem.W.kitOne K (.ref WK) (.type "ValueError")=some true)
  (k_UnlikeHolders_NoStrip:PySem.W.kitOne K (.ref WK) (.ref WH)=some false)
  (k_UnlikeHolders_BadHolder:PySem.W.kitOne K (.ref WK) (.ref WG)=some false)
  (k_UnlikeHolders_OwnStrip:PySem.W.kitOne K (.ref WK) (.ref WI)=some false)
  (k_UnlikeHolders_BadPart:PySem.W.kitOne K (.ref WK) (.ref WJ)=some false)
  (k_UnlikeHolders_TooManyStrips:PySem.W.kitOne K (.ref WK) (.ref WE)=some false)
  (k_UnlikeHolders_UnlikeHolders:PySem.W.kitOne K (.ref WK) (.ref WK)=some true)
  (k_UnlikeHolders_TooWide:PySem.W.kitOne K (.ref WK) (.ref WL)=some false)
  (k_UnlikeHolders_LikeHolders:PySem.W.kitOne K (.ref WK) (.ref WM)=some false)
  (k_UnlikeHolders_WishStands:PySem.W.kitOne K (.ref WK) (.ref WN)=some false)
  (k_UnlikeHolders_TooManyWishes:PySem.W.kitOne K (.ref WK) (.ref WO)=some false)
  (k_UnlikeHolders_NoWish:PySem.W.kitOne K (.ref WK) (.ref WQ)=some false)
  (k_UnlikeHolders_BookFull:PySem.W.kitOne K (.ref WK) (.ref Qg)=some false)
  (k_TooWide_ValueError:PySem.W.kitOne K (.ref WL) (.type "ValueError")=some true)
  (k_TooWide_NoStrip:PySem.W.kitOne K (.ref WL) (.ref WH)=some false)
  (k_TooWide_BadHolder:PySem.W.kitOne K (.ref WL) (.ref WG)=some false)
  (k_TooWide_OwnStrip:PySem.W.kitOne K (.ref WL) (.ref WI)=some false)
  (k_TooWide_BadPart:PySem.W.kitOne K (.ref WL) (.ref WJ)=some false)
  (k_TooWide_TooManyStrips:PySem.W.kitOne K (.ref WL) (.ref WE)=some false)
  (k_TooWide_UnlikeHolders:PySem.W.kitOne K (.ref WL) (.ref WK)=some false)
  (k_TooWide_TooWide:PySem.W.kitOne K (.ref WL) (.ref WL)=some true)
  (k_TooWide_LikeHolders:PySem.W.kitOne K (.ref WL) (.ref WM)=some false)
  (k_TooWide_WishStands:PySem.W.kitOne K (.ref WL) (.ref WN)=some false)
  (k_TooWide_TooManyWishes:PySem.W.kitOne K (.ref WL) (.ref WO)=some false)
  (k_TooWide_NoWish:PySem.W.kitOne K (.ref WL) (.ref WQ)=some false)
  (k_TooWide_BookFull:PySem.W.kitOne K (.ref WL) (.ref Qg)=some false)
  (k_LikeHolders_ValueError:PySem.W.kitOne K (.ref WM) (.type "ValueError")=some true)
  (k_LikeHolders_NoStrip:PySem.W.kitOne K (.ref WM) (.ref WH)=some false)
  (k_LikeHolders_BadHolder:PySem.W.kitOne K (.ref WM) (.ref WG)=some false)
  (k_LikeHolders_OwnStrip:PySem.W.kitOne K (.ref WM) (.ref WI)=some false)
  (k_LikeHolders_BadPart:PySem.W.kitOne K (.ref WM) (.ref WJ)=some false)
  (k_LikeHolders_TooManyStrips:PySem.W.kitOne K (.ref WM) (.ref WE)=some false)
  (k_LikeHolders_UnlikeHolders:PySem.W.kitOne K (.ref WM) (.ref WK)=some false)
  (k_LikeHolders_TooWide:PySem.W.kitOne K (.ref WM) (.ref WL)=some false)
  (k_LikeHolders_LikeHolders:PySem.W.kitOne K (.ref WM) (.ref WM)=some true)
  (k_LikeHolders_WishStands:PySem.W.kitOne K (.ref WM) (.ref WN)=some false)
  (k_LikeHolders_TooManyWishes:PySem.W.kitOne K (.ref WM) (.ref WO)=some false)
  (k_LikeHolders_NoWish:PySem.W.kitOne K (.ref WM) (.ref WQ)=some false)
  (k_LikeHolders_BookFull:PySem.W.kitOne K (.ref WM) (.ref Qg)=some false)
  (k_WishStands_ValueError:PySem.W.kitOne K (.ref WN) (.type "ValueError")=some true)
  (k_WishStands_NoStrip:PySem.W.kitOne K (.ref WN) (.ref WH)=some false)
  (k_WishStands_BadHolder:PySem.W.kitOne K (.ref WN) (.ref WG)=some false)
  (k_WishStands_OwnStrip:PySem.W.kitOne K (.ref WN) (.ref WI)=some false)
  (k_WishStands_BadPart:PySem.W.kitOne K (.ref WN) (.ref WJ)=some false)
  (k_WishStands_TooManyStrips:PySem.W.kitOne K (.ref WN) (.ref WE)=some false)
  (k_WishStands_UnlikeHolders:PySem.W.kitOne K (.ref WN) (.ref WK)=some false)
  (k_WishStands_TooWide:PySem.W.kitOne K (.ref WN) (.ref WL)=some false)
  (k_WishStands_LikeHolders:PySem.W.kitOne K (.ref WN) (.ref WM)=some false)
  (k_WishStands_WishStands:PySem.W.kitOne K (.ref WN) (.ref WN)=some true)
  (k_WishStands_TooManyWishes:PySem.W.kitOne K (.ref WN) (.ref WO)=some false)
  (k_WishStands_NoWish:PySem.W.kitOne K (.ref WN) (.ref WQ)=some false)
  (k_WishStands_BookFull:PySem.W.kitOne K (.ref WN) (.ref Qg)=some false)
  (k_TooManyWishes_ValueError:PySem.W.kitOne K (.ref WO) (.type "ValueError")=some true)
  (k_TooManyWishes_NoStrip:PySem.W.kitOne K (.ref WO) (.ref WH)=some false)
  (k_TooManyWishes_BadHolder:PySem.W.kitOne K (.ref WO) (.ref WG)=some false)
  (k_TooManyWishes_OwnStrip:PySem.W.kitOne K (.ref WO) (.ref WI)=some false)
  (k_TooManyWishes_BadPart:PySem.W.kitOne K (.ref WO) (.ref WJ)=some false)
  (k_TooManyWishes_TooManyStrips:PySem.W.kitOne K (.ref WO) (.ref WE)=some false)
  (k_TooManyWishes_UnlikeHolders:PySem.W.kitOne K (.ref WO) (.ref WK)=some false)
  (k_TooManyWishes_TooWide:PySem.W.kitOne K (.ref WO) (.ref WL)=some false)
  (k_TooManyWishes_LikeHolders:PySem.W.kitOne K (.ref WO) (.ref WM)=some false)
  (k_TooManyWishes_WishStands:PySem.W.kitOne K (.ref WO) (.ref WN)=some false)
  (k_TooManyWishes_TooManyWishes:PySem.W.kitOne K (.ref WO) (.ref WO)=some true)
  (k_TooManyWishes_NoWish:PySem.W.kitOne K (.ref WO) (.ref WQ)=some false)
  (k_TooManyWishes_BookFull:PySem.W.kitOne K (.ref WO) (.ref Qg)=some false)
  (k_NoWish_ValueError:PySem.W.kitOne K (.ref WQ) (.type "ValueError")=some true)
  (k_NoWish_NoStrip:PySem.W.kitOne K (.ref WQ) (.ref WH)=some false)
  (k_NoWish_BadHolder:PySem.W.kitOne K (.ref WQ) (.ref WG)=some false)
  (k_NoWish_OwnStrip:PySem.W.kitOne K (.ref WQ) (.ref WI)=some false)
  (k_NoWish_BadPart:PySem.W.kitOne K (.ref WQ) (.ref WJ)=some false)
  (k_NoWish_TooManyStrips:PySem.W.kitOne K (.ref WQ) (.ref WE)=some false)
  (k_NoWish_UnlikeHolders:PySem.W.kitOne K (.ref WQ) (.ref WK)=some false)
  (k_NoWish_TooWide:PySem.W.kitOne K (.ref WQ) (.ref WL)=some false)
  (k_NoWish_LikeHolders:PySem.W.kitOne K (.ref WQ) (.ref WM)=some false)
  (k_NoWish_WishStands:PySem.W.kitOne K (.ref WQ) (.ref WN)=some false)
  (k_NoWish_TooManyWishes:PySem.W.kitOne K (.ref WQ) (.ref WO)=some false)
  (k_NoWish_NoWish:PySem.W.kitOne K (.ref WQ) (.ref WQ)=some true)
  (k_NoWish_BookFull:PySem.W.kitOne K (.ref WQ) (.ref Qg)=some false)
  (k_NothingDone_ValueError:PySem.W.kitOne K (.ref Qi) (.type "ValueError")=some true)
  (k_NothingDone_MeldError:PySem.W.kitOne K (.ref Qi) (.ref Qd)=some true)
  (k_NoSuchDeed_ValueError:PySem.W.kitOne K (.ref Qj) (.type "ValueError")=some true)
  (k_NoSuchDeed_MeldError:PySem.W.kitOne K (.ref Qj) (.ref Qd)=some true)
  : ∃fd:FuncData,(∀(s:Shared) (v:Value),BindsTo s fd ⟨[v],[]⟩ [("_law_script",v)])/\∀base:Heap,K.In base->base.Ns mainGlobals mg->FnOk l.prog w K mg base CX0 7 fa fd ["_law_script"] (Pu.Po K):=by
 have e:=hfa.symm.trans (YG X G0 a51);cases e
 have Qe:=Qk.c X G0;have WR:=Ql.c X G0;have WS:=Qm.c X G0;have QZ:=Qn.c X G0;have WT:=Qo.c X G0;have WU:=Qp.c X G0;have WV:=Qq.c X G0;have WW:=Qr.c X G0;have WX:=Qs.c X G0;have WY:=Qt.c X G0;have WZ:=Qu.c X G0;have Qa:=Qv.c X G0;have Qb:=Qw.c X G0;have Qh:=Qx.c X G0;have Q1:=Qy.c X G0;have Q2:=Qz.c X G0;have Qf:=ExcR.BI (YG X G0 Q0);have G:Glob K mg:=⟨Y6 X G0 QC,Y6 X G0 QD,Y6 X G0 QE,Y6 X G0 QF,Y6 X G0 QG,Y6 X G0 QH,Y6 X G0 QI,Y6 X G0 QJ,Y6 X G0 QK,Y6 X G0 QL,Y6 X G0 QM,⟨_,YG X G0 QN,⟨_,rfl⟩⟩,⟨_,YG X G0 QO,⟨_,rfl⟩⟩,⟨_,YG X G0 QP,⟨_,rfl⟩⟩,⟨_,YG X G0 QR,⟨_,rfl⟩⟩,⟨_,YG X G0 QS,⟨_,rfl⟩⟩,(Qk.m X G0),(Qk.k X G0),(Ql.m X G0),(Ql.k X G0),(Qm.m X G0),(Qm.k X G0),(Qn.m X G0),(Qn.k X G0),(Qo.m X G0),(Qo.k X G0),(Qp.m X G0),(Qp.k X G0),(Qq.m X G0),(Qq.k X G0),(Qr.m X G0),(Qr.k X G0),(Qs.m X G0),(Qs.k X G0),(Qt.m X G0),(Qt.k X G0),(Qu.m X G0),(Qu.k X G0),(Qv.m X G0),(Qv.k X G0),(Qw.m X G0),(Qw.k X G0),(Qx.m X G0),(Qx.k X G0),(Qy.m X G0),(Qy.k X G0),(Qz.m X G0),(Qz.k X G0),(by rw[Qe];exact x_MeldError_MeldError),(by rw[WR,Qe];exact x_TooManyStrips_MeldError),(by rw[WS,Qe];exact x_BadHolder_MeldError),(by rw[QZ,Qe];exact x_BadWidth_MeldError),(by rw[WT,Qe];exact x_NoStrip_MeldError),(by rw[WU,Qe];exact x_OwnStrip_MeldError),(by rw[WV,Qe];exact x_BadPart_MeldError),(by rw[WW,Qe];exact x_UnlikeHolders_MeldError),(by rw[WX,Qe];exact x_TooWide_MeldError),(by rw[WY,Qe];exact x_LikeHolders_MeldError),(by rw[WZ,Qe];exact x_WishStands_MeldError),(by rw[Qa,Qe];exact x_TooManyWishes_MeldError),(by rw[Qb,Qe];exact x_NoWish_MeldError),(by rw[Qh,Qe];exact x_BookFull_MeldError),(by rw[Q1,Qe];exact x_NothingDone_MeldError),(by rw[Q1];exact x_NothingDone_NothingDone),(by rw[Q2,Qe];exact x_NoSuchDeed_MeldError),(by rw[Q2];exact x_NoSuchDeed_NoSuchDeed),(by rw[WR];exact k_TooManyStrips_ValueError),(by rw[WR,WT];exact k_TooManyStrips_NoStrip),(by rw[WR,WS];exact k_TooManyStrips_BadHolder),(by rw[WR,WU];exact k_TooManyStrips_OwnStrip),(by rw[WR,WV];exact k_TooManyStrips_BadPart),(by rw[WR];exact k_TooManyStrips_TooManyStrips),(by rw[WR,WW];exact k_TooManyStrips_UnlikeHolders),(by rw[WR,WX];exact k_TooManyStrips_TooWide),(by rw[WR,WY];exact k_TooManyStrips_LikeHolders),(by rw[WR,WZ];exact k_TooManyStrips_WishStands),(by rw[WR,Qa];exact k_TooManyStrips_TooManyWishes),(by rw[WR,Qb];exact k_TooManyStrips_NoWish),(by rw[WR,Qh];exact k_TooManyStrips_BookFull),(by rw[WS];exact k_BadHolder_ValueError),(by rw[WS,WT];exact k_BadHolder_NoStrip),(by rw[WS];exact k_BadHolder_BadHolder),(by rw[WS,WU];exact k_BadHolder_OwnStrip),(by rw[WS,WV];exact k_BadHolder_BadPart),(by rw[WS,WR];exact k_BadHolder_TooManyStrips),(by rw[WS,WW];exact k_BadHolder_UnlikeHolders),(by rw[WS,WX];exact k_BadHolder_TooWide),(by rw[WS,WY];exact k_BadHolder_LikeHolders),(by rw[WS,WZ];exact k_BadHolder_WishStands),(by rw[WS,Qa];exact k_BadHolder_TooManyWishes),(by rw[WS,Qb];exact k_BadHolder_NoWish),(by rw[WS,Qh];exact k_BadHolder_BookFull),(by rw[WT];exact k_NoStrip_ValueError),(by rw[WT];exact k_NoStrip_NoStrip),(by rw[WT,WS];exact k_NoStrip_BadHolder),(by rw[WT,WU];exact k_NoStrip_OwnStrip),(by rw[WT,WV];exact k_NoStrip_BadPart),(by rw[WT,WR];exact k_NoStrip_TooManyStrips),(by rw[WT,WW];exact k_NoStrip_UnlikeHolders),(by rw[WT,WX];exact k_NoStrip_TooWide),(by rw[WT,WY];exact k_NoStrip_LikeHolders),(by rw[WT,WZ];exact k_NoStrip_WishStands),(by rw[WT,Qa];exact k_NoStrip_TooManyWishes),(by rw[WT,Qb];exact k_NoStrip_NoWish),(by rw[WT,Qh];exact k_NoStrip_BookFull),(by rw[WU];exact k_OwnStrip_ValueError),(by rw[WU,WT];exact k_OwnStrip_NoStrip),(by rw[WU,WS];exact k_OwnStrip_BadHolder),(by rw[WU];exact k_OwnStrip_OwnStrip),(by rw[WU,WV];exact k_OwnStrip_BadPart),(by rw[WU,WR];exact k_OwnStrip_TooManyStrips),(by rw[WU,WW];exact k_OwnStrip_UnlikeHolders),(by rw[WU,WX];exact k_OwnStrip_TooWide),(by rw[WU,WY];exact k_OwnStrip_LikeHolders),(by rw[WU,WZ];exact k_OwnStrip_WishStands),(by rw[WU,Qa];exact k_OwnStrip_TooManyWishes),(by rw[WU,Qb];exact k_OwnStrip_NoWish),(by rw[WU,Qh];exact k_OwnStrip_BookFull),(by rw[WV];exact k_BadPart_ValueError),(by rw[WV,WT];exact k_BadPart_NoStrip),(by rw[WV,WS];exact k_BadPart_BadHolder),(by rw[WV,WU];exact k_BadPart_OwnStrip),(by rw[WV];exact k_BadPart_BadPart),(by rw[WV,WR];exact k_BadPart_TooManyStrips),(by rw[WV,WW];exact k_BadPart_UnlikeHolders),(by rw[WV,WX];exact k_BadPart_TooWide),(by rw[WV,WY];exact k_BadPart_LikeHolders),(by rw[WV,WZ];exact k_BadPart_WishStands),(by rw[WV,Qa];exact k_BadPart_TooManyWishes),(by rw[WV,Qb];exact k_BadPart_NoWish),(by rw[WV,Qh];exact k_BadPart_BookFull),(by rw[WW];exact k_UnlikeHolders_ValueError),(by rw[WW,WT];exact k_UnlikeHolders_NoStrip),(by rw[WW,WS];exact k_UnlikeHolders_BadHolder),(by rw[WW,WU];exact k_UnlikeHolders_OwnStrip),(by rw[WW,WV];exact k_UnlikeHolders_BadPart),(by rw[WW,WR];exact k_UnlikeHolders_TooManyStrips),(by rw[WW];exact k_UnlikeHolders_UnlikeHolders),(by rw[WW,WX];exact k_UnlikeHolders_TooWide),(by rw[WW,WY];exact k_UnlikeHolders_LikeHolders),(by rw[WW,WZ];exact k_UnlikeHolders_WishStands),(by rw[WW,Qa];exact k_UnlikeHolders_TooManyWishes),(by rw[WW,Qb];exact k_UnlikeHolders_NoWish),(by rw[WW,Qh];exact k_UnlikeHolders_BookFull),(by rw[WX];exact k_TooWide_ValueError),(by rw[WX,WT];exact k_TooWide_NoStrip),(by rw[WX,WS];exact k_TooWide_BadHolder),(by rw[WX,WU];exact k_TooWide_OwnStrip),(by rw[WX,WV];exact k_TooWide_BadPart),(by rw[WX,WR];exact k_TooWide_TooManyStrips),(by rw[WX,WW];exact k_TooWide_UnlikeHolders),(by rw[WX];exact k_TooWide_TooWide),(by rw[WX,WY];exact k_TooWide_LikeHolders),(by rw[WX,WZ];exact k_TooWide_WishStands),(by rw[WX,Qa];exact k_TooWide_TooManyWishes),(by rw[WX,Qb];exact k_TooWide_NoWish),(by rw[WX,Qh];exact k_TooWide_BookFull),(by rw[WY];exact k_LikeHolders_ValueError),(by rw[WY,WT];exact k_LikeHolders_NoStrip),(by rw[WY,WS];exact k_LikeHolders_BadHolder),(by rw[WY,WU];exact k_LikeHolders_OwnStrip),(by rw[WY,WV];exact k_LikeHolders_BadPart),(by rw[WY,WR];exact k_LikeHolders_TooManyStrips),(by rw[WY,WW];exact k_LikeHolders_UnlikeHolders),(by rw[WY,WX];exact k_LikeHolders_TooWide),(by rw[WY];exact k_LikeHolders_LikeHolders),(by rw[WY,WZ];exact k_LikeHolders_WishStands),(by rw[WY,Qa];exact k_LikeHolders_TooManyWishes),(by rw[WY,Qb];exact k_LikeHolders_NoWish),(by rw[WY,Qh];exact k_LikeHolders_BookFull),(by rw[WZ];exact k_WishStands_ValueError),(by rw[WZ,WT];exact k_WishStands_NoStrip),(by rw[WZ,WS];exact k_WishStands_BadHolder),(by rw[WZ,WU];exact k_WishStands_OwnStrip),(by rw[WZ,WV];exact k_WishStands_BadPart),(by rw[WZ,WR];exact k_WishStands_TooManyStrips),(by rw[WZ,WW];exact k_WishStands_UnlikeHolders),(by rw[WZ,WX];exact k_WishStands_TooWide),(by rw[WZ,WY];exact k_WishStands_LikeHolders),(by rw[WZ];exact k_WishStands_WishStands),(by rw[WZ,Qa];exact k_WishStands_TooManyWishes),(by rw[WZ,Qb];exact k_WishStands_NoWish),(by rw[WZ,Qh];exact k_WishStands_BookFull),(by rw[Qa];exact k_TooManyWishes_ValueError),(by rw[Qa,WT];exact k_TooManyWishes_NoStrip),(by rw[Qa,WS];exact k_TooManyWishes_BadHolder),(by rw[Qa,WU];exact k_TooManyWishes_OwnStrip),(by rw[Qa,WV];exact k_TooManyWishes_BadPart),(by rw[Qa,WR];exact k_TooManyWishes_TooManyStrips),(by rw[Qa,WW];exact k_TooManyWishes_UnlikeHolders),(by rw[Qa,WX];exact k_TooManyWishes_TooWide),(by rw[Qa,WY];exact k_TooManyWishes_LikeHolders),(by rw[Qa,WZ];exact k_TooManyWishes_WishStands),(by rw[Qa];exact k_TooManyWishes_TooManyWishes),(by rw[Qa,Qb];exact k_TooManyWishes_NoWish),(by rw[Qa,Qh];exact k_TooManyWishes_BookFull),(by rw[Qb];exact k_NoWish_ValueError),(by rw[Qb,WT];exact k_NoWish_NoStrip),(by rw[Qb,WS];exact k_NoWish_BadHolder),(by rw[Qb,WU];exact k_NoWish_OwnStrip),(by rw[Qb,WV];exact k_NoWish_BadPart),(by rw[Qb,WR];exact k_NoWish_TooManyStrips),(by rw[Qb,WW];exact k_NoWish_UnlikeHolders),(by rw[Qb,WX];exact k_NoWish_TooWide),(by rw[Qb,WY];exact k_NoWish_LikeHolders),(by rw[Qb,WZ];exact k_NoWish_WishStands),(by rw[Qb,Qa];exact k_NoWish_TooManyWishes),(by rw[Qb];exact k_NoWish_NoWish),(by rw[Qb,Qh];exact k_NoWish_BookFull),(by rw[Q1];exact k_NothingDone_ValueError),(by rw[Q1,Qe];exact k_NothingDone_MeldError),(by rw[Q2];exact k_NoSuchDeed_ValueError),(by rw[Q2,Qe];exact k_NoSuchDeed_MeldError),(by rw[Qf];exact YG X G0 Q0),(by rw[Qf];exact⟨Q3,Q4,Q5,Q6⟩),(by rw[Qf];exact Q9),(by rw[Qf];exact QA),(by rw[Qf];exact QB)⟩
 have F51:=KZ (st:=Ug) l51 c51 k51;have b51:=F51.binds (ps:=["_law_script"]) fun _ _ _ _ _ _ us hl=>by obtain⟨_,rfl⟩:=Pu.len1 hl;rfl
 have D51:Def K mg "law" Ug ["_law_script"]:=⟨_,_,F51,YG X G0 a51,b51⟩;refine⟨PySem.W.fnOf "law" "law" (JN Ug) (Ja Ug) (Vk Ug) .none kV51 dc51 pm51 an51 cd51 ct51,fun s v=>.of_eq rfl,fun base _ _=>?_⟩;have C0:=A7 (P:=l.prog) (w:=w) (base:=base) G (a0.e X G0);have C1:=Aa (P:=l.prog) (w:=w) (base:=base) G (a1.e X G0);have C3:=EC (P:=l.prog) (w:=w) (base:=base) G (a3.e X G0);have C4:=CY (P:=l.prog) (w:=w) (base:=base) G (a4.e X G0);have C9:=GS (P:=l.prog) (w:=w) (base:=base) G (a9.e X G0);have C11:=E9 (P:=l.prog) (w:=w) (base:=base) G (a11.e Qf);have C12:=DF (P:=l.prog) (w:=w) (base:=base) G (a12.e Qf);have C13:=D1 (P:=l.prog) (w:=w) (base:=base) G (a13.e Qf);have C14:=FR (P:=l.prog) (w:=w) (base:=base) G (a14.e Qf);have C15:=E5 (P:=l.prog) (w:=w) (base:=base) G (a15.e Qf);have C21:=Am (P:=l.prog) (w:=w) (base:=base) G (a21.e Qf);have C22:=Hy (P:=l.prog) (w:=w) (base:=base) G (a22.e Qf);have C23:=Ds (P:=l.prog) (w:=w) (base:=base) G (a23.e X G0);have C24:=Gm (P:=l.prog) (w:=w) (base:=base) G (a24.e X G0);have C25:=Aw (P:=l.prog) (w:=w) (base:=base) G (a25.e X G0);have C27:=CG (P:=l.prog) (w:=w) (base:=base) G (a27.e X G0);have C28:=GL (P:=l.prog) (w:=w) (base:=base) G (a28.e X G0);have C32:=Dz (P:=l.prog) (w:=w) (base:=base) G (a32.e X G0);have C33:=GV (P:=l.prog) (w:=w) (base:=base) G (a33.e X G0);have C43:=EF (P:=l.prog) (w:=w) (base:=base) G (a43.e X G0);have C44:=AN (P:=l.prog) (w:=w) (base:=base) G (a44.e X G0);have C47:=Ay (P:=l.prog) (w:=w) (base:=base) G (a47.e X G0);have C2:=Dc (P:=l.prog) (w:=w) (base:=base) G (a2.e X G0) C0 C1;have C5:=Dr (P:=l.prog) (w:=w) (base:=base) G (a5.e X G0) C4 C0;have C6:=Hl (P:=l.prog) (w:=w) (base:=base) G (a6.e X G0) C4;have C7:=Gy (P:=l.prog) (w:=w) (base:=base) G (a7.e X G0) C3;have C8:=AC (P:=l.prog) (w:=w) (base:=base) G (a8.e X G0) C0;have C20:=Gb (P:=l.prog) (w:=w) (base:=base) G (a20.e Qf) C14 C9 C15 C12 C11;have C26:=Ag (P:=l.prog) (w:=w) (base:=base) G (a26.e X G0) C25 C23;have C29:=EY (P:=l.prog) (w:=w) (base:=base) G (a29.e X G0) C24;have C30:=Dn (P:=l.prog) (w:=w) (base:=base) G (a30.e X G0) C24;have C34:=A2 (P:=l.prog) (w:=w) (base:=base) G (a34.e X G0) C32 C33;have C37:=Ei (P:=l.prog) (w:=w) (base:=base) G (a37.e X G0) C24;have C41:=DH (P:=l.prog) (w:=w) (base:=base) G (a41.e X G0) C23 C25 C28;have C42:=Hw (P:=l.prog) (w:=w) (base:=base) G (a42.e X G0) C25 C23;have C45:=FX (P:=l.prog) (w:=w) (base:=base) G (a45.e X G0) C43 C28;have C49:=EU (P:=l.prog) (w:=w) (base:=base) G (a49.e X G0) C22;have C10:=ED (P:=l.prog) (w:=w) (base:=base) G (a10.j Qf Q7 Q8) C2;have C16:=ER (P:=l.prog) (w:=w) (base:=base) G (a16.e Qf) C14 C5 C15 C11 C12;have C17:=Ah (P:=l.prog) (w:=w) (base:=base) G (a17.e Qf) C14 C6 C15 C11 C12;have C18:=AW (P:=l.prog) (w:=w) (base:=base) G (a18.e Qf) C14 C7 C15 C11 C12;have C19:=AR (P:=l.prog) (w:=w) (base:=base) G (a19.e Qf) C14 C8 C15 C12 C11;have C31:=CJ (P:=l.prog) (w:=w) (base:=base) G (a31.e X G0) C30;have C38:=DW (P:=l.prog) (w:=w) (base:=base) G (a38.e X G0) C21 C30;have C46:=AY (P:=l.prog) (w:=w) (base:=base) G (a46.e X G0) C25 C23 C45 C28;have C48:=Di (P:=l.prog) (w:=w) (base:=base) G (a48.e X G0) C44 C45 C43 C47 C28;have C50:=GR (P:=l.prog) (w:=w) (base:=base) G (a50.e X G0) C22 C49 C29;have C35:=Er (P:=l.prog) (w:=w) (base:=base) G (a35.e X G0) C20 C16 C17 C18 C19;have C39:=G7 (P:=l.prog) (w:=w) (base:=base) G (a39.e X G0) C31 C29 C13 C11 C12;have C36:=CB (P:=l.prog) (w:=w) (base:=base) G (a36.e X G0) C35;have C40:=Aj (P:=l.prog) (w:=w) (base:=base) G (a40.e X G0) C36 C34 C38 C37;have C51:=D0 (P:=l.prog) (w:=w) (base:=base) G D51 C27 C41 C10 C46 C42 C39 C26 C40 C50 C23 C48;exact(C51.at (YG X G0 a51) F51 D51).imp fun _ _ _ _ z=>Pu.D8 z
end T
structure PySem.W.Fast:Prop where (tw872733838378195860 tw6326919428749429888 tw14651902123492246688 tw12802554292108912800 tw4174650794258002112 tw10364097229864803552 tw3242509222468912544 tw669470540106237408 tw313286929327018464 tw5290466127271903808 tw2099229619315997248 tw2174956906435819136 tw3877394179684320928 tw18409504139745897184 tw14025105903212356384 tw16260457276965487424 tw2580481114945765184 tw10163913963897672544 tw18212481296488008576 tw17511608510122907552 tw16844909361611196384 tw6669704514702120961 tw2182551913983653889 tw10544085916280834049 tw2605401474063565921 tw9473936867561189537 tw2056471536373224609 tw7226352166142712033 tw8418039964515400993 tw8938339182928929089 tw6300798661075413313 tw2834531897356547425 tw8135566866193363393 tw1103276126806373825 tw17210945873322121729 tw1487811286999055873 tw16222586344479084033 tw12680502114598639105 tw9270057288304746049 tw5645530408646598241 tw14571137796599722625 tw15704508460488844961 tw9086693107825910497 tw12961602172312130305 tw8188395400620742529 tw8867054783880209281 tw13453286046089947009 tw15527947591062438817 tw13246598110192431009 tw11726690204772560833 tw17754153194098137057 tw4510568898810045409 tw1052425182376823874 tw12986376371989371970 tw18328169627222247522 tw2077973257288234082 tw9871063282316058818 tw4701219264294796578 tw5246901080632413474 tw5503477254032249282 tw14897931440907983458 tw16870751340518997602 tw11522584793809498818 tw5628843635405370050 tw7624813651498787650 tw6041671956099488610 tw17565427061695553410 tw11639140870794925954 tw17902552492136031299 tw7228218892592436323 tw9251337014809262211 tw9265888354252755107 tw8266936107004534979 tw1885642350395576515 tw17739545123913337219 tw1640654656658842115 tw2464282719497500163 tw11756359373135858275 tw5025080545987670691 tw7674611848999855779 tw10990650239645105859 tw2308737736652242627 tw15204805773064135427 tw15155932674111863651 tw11441155837581525891 tw5609022843841746819 tw14316889596228019075 tw10510440178835592099 tw13552136994364815331 tw10608340803758352388 tw6821401470151621636 tw15358767882346579012 tw11986620294978478244 tw12400023614503982276 tw5650532283850253540 tw11579157636700269796 tw5489277667983638788 tw9541722228162457924 tw4358793267414267236 tw1419415138594100612 tw9375483611957523844 tw3021740994455780804 tw2021044456353000932 tw9894682709559043652 tw14167501627458652772 tw3115297992296229508 tw17495798054674258692 tw2219028150515657508 tw11846081855033238340 tw2441928581375808356 tw9539189409551846276 tw897539048901738372 tw1588079321669279652 tw16599531862667058148 tw15920647503037931621 tw9461524917142782085 tw1131396562432659589 tw10470137193122769093 tw10974511319421277413 tw794178110819336453 tw5035015508055943461 tw13203802806826674533 tw4544319075750859141 tw3044464789971485157 tw7200499044747870789 tw9006087988817678949 tw6031415966172601957 tw6735482343240873605 tw6495484993612974757 tw13021827561195732645 tw6620970153965023941 tw18233280391057684197 tw5505105142021199621 tw18396897646112561957 tw17280231280812309381 tw8366263819579974565 tw3934609096930307013 tw6729731961391038405 tw694682726374092806 tw13214028268691570726 tw17007711548726149190 tw8065947131819672678 tw15141264478589464742 tw9745116835891961094 tw11415639444911522086 tw10692409210035770662 tw5141554224565708070 tw1469821763469883718 tw147264611157477734 tw13506499219340812678 tw17186560482819220902 tw1045499396358763974 tw10220120056290050598 tw17834119074133060166 tw1963872119599053382 tw1224249627877328486 tw9205470670165231206 tw15168007423567204038 tw11563802053066582726 tw12601995108989781766 tw9156295410889053958 tw11591082519886991142 tw6255994190019030822 tw16389704769282252614 tw11810633186662558534 tw16738873398134071238 tw16847807058463030246 tw11949085803927856199 tw11883487204323108967 tw6676921863908227271 tw8222644181568824551 tw1822689260289248519 tw10282671594518043911 tw9393975587817016615 tw15171658548119163239 tw12351412347271483783 tw5886216964513408679 tw7588230674911065767 tw5099771545513365191 tw10994618186958426887 tw11993542371233266471 tw1105028145097804647 tw9432680196068352935 tw3104345986623260583 tw697133684904712135 tw3158985457125437415 tw9263246576026253320 tw1141841248969961512 tw10240884809039623208 tw3296655262030843976 tw5092213229033988200 tw666873727658547336 tw17790040823498582216 tw15854018953912710408 tw11836796967425769832 tw1733892282278213992 tw6789152904046787976 tw16063932567550183816 tw8212717540609319304 tw14219573444631227784 tw16685671559682475432 tw13397730072160635368 tw12697533910555244008 tw15288497047261603304 tw10141362384595055080 tw1632365875156138504 tw7950111455260370440 tw2933528625132281448 tw11595305224025624232 tw17269411620637228744 tw15592421773753388776 tw5995203227080604392 tw5371074433701202664 tw14754955824380160968 tw3385106478437519304 tw5414754712020812776 tw8159148636598275081 tw9275694635987674153 tw5192269540479958153 tw4433868356033029289 tw14028221962831596745 tw13870904531081859305 tw1619121622576664809 tw16751385332452819241 tw17070580982640445769 tw16462214051036732777 tw11653774271469549033 tw17399551664118789609 tw15277218063343129097 tw18056347237293050409 tw1712408656394657353 tw9230584812627964489 tw11971100858758516297 tw3803773929113184873 tw8034969438189850249 tw6244169391127389833 tw16617563977099549449 tw14202518552773796617 tw3258713601615068073 tw11332425946804986825 tw855159697410409417 tw1294273759668366281 tw13681704933542502442 tw4435020647524972650 tw11626373940903360746 tw8981291901671033066 tw1273722453698938154 tw14701628455297354026 tw5509844893596223818 tw14723526915603470666 tw8580531530788685130 tw12339352901539629418 tw8340956677336782314 tw11312608256800291306 tw8824845966375849482 tw9451719245427577354 tw13906424416035867178 tw3872419053477006922 tw9690196153583710858 tw6060933530994309834 tw2113893608436940586 tw12086009935486733098 tw662391439253343050 tw17432347803793592170 tw14152785253287773098 tw3546376221112440778 tw4331749982703521770 tw3925440796125140970 tw3926644325240644586 tw2475247003142662251 tw3151087201586067563 tw3696004894948656299 tw1386444898470585515 tw2566369139296279787 tw8246132791068138731 tw6600638211672269067 tw4037967628200270123 tw12974414598572401035 tw14536846756398011819 tw1560908488637534635 tw1974978935270527403 tw8948813888888101323 tw13372162642927747563 tw9469725742098298347 tw2144169771106459115 tw8532970792206064203 tw2596574886427860619 tw8959496199520577163 tw16427577249883311819 tw13898823715185832715 tw2051863917875332907 tw8000463909638051627 tw14867319269311935307 tw481331049813692267 tw9493206332575209355 tw17607768326057889739 tw1168292768854062027 tw12204810350491576299 tw11678049196188847083 tw5602044010101155884 tw9746132633023700012 tw1126763127851789388 tw13396940250702236748 tw18356936780117920844 tw4122876721244860492 tw7829930363770148972 tw8249058413856924812 tw17499401354964865196 tw13817807652822160556 tw11689856428853455052 tw10757387150934156524 tw14798723017482476812 tw6818716094025108780 tw4825736762429542700 tw3377525506280104268 tw9800200787034820940 tw16567409697402727820 tw4300993857433352588 tw4905804677450103244 tw2619924461035862540 tw2555664260500778572 tw12686340464797021772 tw807261469564228268 tw3938200207513095916 tw10061774902273994476 tw18292037002508046124 tw7272504752066010956 tw12160487704402256780 tw8757754542360723469 tw6600725645733562381 tw1193684464908666893 tw7968046144587033613 tw6814579812118733933 tw1624021374382162029 tw5826471316858387661 tw14531154432161514733 tw10542933855822203117 tw2024227990656962829 tw3129304850144053581 tw6360559330893457741 tw15963474027916822893 tw11088815448715158925 tw12042020913327108621 tw14542639397260125773 tw5574525835105070669 tw8864188234126957 tw17444036570025553517 tw4701301707367370413 tw14208158993932711597 tw17879075002424044237 tw2438471925401861837 tw3507776258490839789 tw14364966736511163117 tw14103714559968863981 tw9099712895381446413 tw2683752366123910957 tw16908569878811513645 tw3403222419379624749 tw15661602913107699501 tw8621240031414370157 tw6551654341095407469 tw9979729625943561069 tw15716188117206168429 tw14982253564805360525 tw15159923958586317741 tw17318681447897052141 tw3019440661146387437 tw5133175055869210605 tw5260895529179052013 tw1614872755553650702 tw15711639944983860238 tw12557158887256637486 tw1004011970895614030 tw16107647611018967150 tw15828241132389021902 tw11417058335051259118 tw4787149426278485230 tw13844964182652060974 tw2910996302336839982 tw9945404469787560270 tw6814471593630141838 tw15312248500019945870 tw3153979724749720046 tw15216400227788580398 tw653829322532746926 tw7719231858029728558 tw11189948173213503438 tw4437968636958742543 tw9866717420902854671 tw17910809404017067023 tw13086026615915876463 tw10438273229789172847 tw14469391833538760911 tw3393027205043504431 tw401476868334427503 tw10246014649693972847 tw1298320696415434095 tw4339969555577026927 tw15365269430859516303 tw13840339207914288527 tw14893457500204717551 tw9045742913165792815 tw3081103135563156175 tw9917320935429481199 tw2243485358526658319 tw10684132030535038863 tw16384968793309035503 tw11937066209401203728 tw850167063406702608 tw13174420729872649360 tw9444744123132939472 tw1952295723875177712 tw1466734987606485232 tw16077833582559046928 tw10511793622304679184 tw11779407746802763120 tw16446744734347336080 tw9419509106679391728 tw1058779130898372080 tw12997260830551053904 tw15095376651215526544 tw14661675067390573232 tw17059529651143900880 tw12870944823048446736 tw9210448803656155920 tw16442936382685180784 tw18002505412588387216 tw2893117051649085328 tw14560329535310645297 tw10558903478448103537 tw18175912547805903985 tw14649422424513298577 tw14878807112217010353 tw14743655039278607569 tw1393078215697673457 tw4153156904351884529 tw1046222209632580945 tw4748623827443469713 tw16300287898476560881 tw1328470492607189585 tw887740036602617457 tw9927307847475758833 tw14075245701366550257 tw2664932446685936369 tw10811788951349950257 tw9780251541980711954 tw10296320891520358418 tw12709544415130601490 tw4447519370120224786 tw3626708122193113138 tw5587386702700870706 tw3673870083754254450 tw14542038481267197106 tw17426907229115309234 tw15411559590347536562 tw901238929950542034 tw575253642874391794 tw2235900699266742578 tw8883038172915540306 tw9959596741651498386 tw5264010161282769330 tw6508243159463635410 tw6226577885528942098 tw8803195694698468914 tw12848420647824707122 tw16248155782515855090 tw9764460973805484786 tw7581595852774210290 tw15596435466914195218 tw3100394718408740722 tw1852003468079935442 tw15200279587227228114 tw4561308434810802162 tw16309655389280948210 tw15064478477214675954 tw4807721678010790963 tw6001949641388570675 tw13700462324826446931 tw10925517631025725619 tw13500319944349928627 tw11280763579364687059 tw18023375411183463667 tw5727036820137506035 tw6322034479926118675 tw17287481487524920659 tw11166923857330090355 tw13271870470201164147 tw17110161435953838483 tw16590767398870565331 tw11903646351313575475 tw5216362477872470579 tw4009692429909806675 tw5979785288288901875 tw13532441467701412595 tw2628306391796116211 tw12661581013080682323 tw10328804877642584947 tw6995090778971504499 tw509794024594121619 tw1922643561321301939 tw149514650168240083 tw9443139620843106259 tw1281692667294418964 tw7741267036321409076 tw11840375635168492596 tw5676767137606576404 tw2221927589237502228 tw8763828019554730260 tw10621547781114817844 tw720889608338980180 tw3065879560718960020 tw2857502698797157780 tw15374909579173785076 tw2050979765469518452 tw12549332589974414964 tw2550495299639596692 tw17602371398600364724 tw16790964926936383156 tw3815098273653091028 tw319330390788200180 tw11338628810360878868 tw11262581732052050740 tw17690476064718205748 tw8439270879853624212 tw1950911358112912276 tw3459819730626762644 tw2046086945781013396 tw2210388446828706740 tw5481132849830102996 tw17106153273181016020 tw11471442293856162869 tw275868804083071093 tw4141995313955485813 tw11606851380303656085 tw1706584133728190645 tw7375494041409022133 tw8994778275743502613 tw14402609091812253973 tw15948198083431440725 tw1772449367555322229 tw4941987823134896501 tw15878828413546829269 tw8492771098723438069 tw12505152911626272245 tw12850488334149061205 tw4231159127533005461 tw9295994689318208149 tw1891299368788847253 tw8284755199123541749 tw8964129674700117749 tw8772748445927076629 tw10083986022827894613 tw8605146152841402229 tw15601192099342964661 tw13601293738449950645 tw5718982173872890837 tw15592158958312134645 tw5792460678321061910 tw9944029293314263062 tw8918158759403365462 tw5371667672859076694 tw14203434849800076406 tw17859900324910597270 tw14490501449193654422 tw5842848285934654614 tw16715424537848458486 tw13074975677010681238 tw9987623688289884598 tw1110544985156474326 tw9967459826064312854 tw6917197568054804022 tw4702135585785020022 tw5796798178943202966 tw16497068005720065718 tw945271812324253430 tw1710349784340892470 tw726634954791359318 tw4310280975345578870 tw7113031544023153526 tw9243750689731802070 tw11001767992258192374 tw1265773497145476119 tw8811368719960180855 tw18124067779215880311 tw11499204924629556503 tw13191981399285177655 tw5201909970156767575 tw14042310252639829367 tw6026410651778255319 tw17883710694897000951 tw14472716888738509303 tw16684832348525417975 tw17452904060676445719 tw6713129760407985687 tw4630987075860336183 tw16048440203248607799 tw6703172002992929399 tw13289089107214726775 tw8647610132493473463 tw8883784298478675671 tw15157407794300740343 tw1959340579797849943 tw8983103152510829463 tw9221554726593210263 tw1255333123292814295 tw6742387620552558680 tw14196195985244219480 tw3489715214966264952 tw11558656930714114168 tw7081938086946478232 tw17794739901537156280 tw18173716079611227352 tw1183413342008137976 tw1341895662347372824 tw453232895630466328 tw6513586722989117848 tw5213783484621120920 tw6790840196958615992 tw15363772413532836312 tw14595263633186739672 tw1608024591998248408 tw2571808004591678936 tw5317062451690746360 tw14125150473765547512 tw11055242043884112408 tw12008491071896424024 tw13091113350853163608 tw13875837043123334776 tw252812335808249464 tw648825040122333848 tw8345287259411289816 tw8966683143803344632 tw8480095738288320248 tw6353325036281402168 tw3893389429198897976 tw9864441586628056888 tw11300020462848308024 tw2560721792834930616 tw15606358534654090168 tw12588124976547002328 tw3600916527944306745 tw9778509263229687929 tw6666440551716967545 tw16851757591650301049 tw5217514573660575897 tw15641609192245205241 tw313042028379970841 tw7500228896690105625 tw8352510961346050329 tw16894776163074434393 tw15819935932868627865 tw18034646942660447641 tw3572248838531686873 tw10710714577953038873 tw12987677612701906457 tw4620896250565615225 tw4873193941175231129 tw4899837883268822713 tw18427098130246600441 tw17917508296087932761 tw15241301123139732441 tw17904320419930716186 tw7323742067305862170 tw10615915436878316666 tw240917285314145434 tw8436710071926843546 tw18226499879769528506 tw17524462449171200218 tw6596711558196978938 tw1798458043686326650 tw11023355546378618234 tw11355633286702582138 tw3870616743193435578 tw13507539889716594330 tw11039916175005599386 tw11445967076297892506 tw10041507372873058010 tw1703134081595420378 tw6511282612895743706 tw9102007349565293306 tw17705426470350993146 tw10980086314118606586 tw1024640624623777530 tw4325986719128939322 tw6371662000648930170 tw112309224421972858 tw6292167184826282906 tw16292773608866168762 tw9366009302559846394 tw17588387524189158394 tw6888256155098021882 tw8071741936011113531 tw1713114503633453147 tw15850324275991296219 tw13481348512484990203 tw2488747744834683163 tw16025963910506766619 tw13074418628590679355 tw9975034557878274395 tw11840663062039695707 tw2293330226252871003 tw10672956701517926811 tw6708601631901063611 tw10227163665216656827 tw14852258000413943259 tw3051344331854776827 tw5019973867611363835 tw4364368214024324635 tw17866788459859812891 tw15445980213508052571 tw12755413539252114075 tw974496011938840219 tw15977868947611261627 tw7054524248426575547 tw14957520021260779227 tw15676688973179875035 tw16868444625896902427 tw5590072333972226843 tw9438502393184857947 tw13889711308007205787 tw5807216110622684155 tw9494310580329073692 tw9882147395850864700 tw12970725356942090332 tw13639437757337139292 tw9813334234517604476 tw14999571041226873020 tw15720882097790944476 tw2394945817399294172 tw17643656584495348988 tw13293064740212032764 tw3832904013349294364 tw13881357324904027516 tw14107894130680268188 tw8434615687921941916 tw12039591294059057628 tw5349315498034053628 tw15171529712384555548 tw901701988337279548 tw4524394567279438492 tw4289368675941387004 tw7713455493035233020 tw8605252250281784092 tw632288401667577660 tw14491117178365519708 tw16369709661082931036 tw16531894264658461660 tw9324442230923350012 tw16315574836442542237 tw10723878879656798365 tw2468211135892761821 tw5750603751521942749 tw13392428275274683645 tw14635032023133426941 tw10324995413835913469 tw8652017285151145309 tw6662794745528803773 tw17556656618844661213 tw4091109500784750109 tw1299980488978353725 tw14925997761154132605 tw11987780680411993725 tw1865741428472067741 tw1863249996219966173 tw3297097954731034365 tw17109207321837975357 tw720923421942005565 tw10521890310814186397 tw15044548915685181405 tw7718180179636680669 tw15502572979639061501 tw10080950757037931517 tw10207645798987574334 tw17201570320771032158 tw5696707499999988862 tw12571521070977865854 tw2157548482227423390 tw6072393025186493630 tw4782804155191328990 tw7962841639314554078 tw8358620336981579070 tw9431519804047934878 tw9411509953404660254 tw3090946393065850430 tw9080697785962819166 tw12040989627007587006 tw7138864496186494718 tw4700902609594662686 tw16106692279536816958 tw31720253812305726 tw15275168925508181854 tw11728594054216878974 tw6336839968672401278 tw9230490518924607390 tw6128702900061816734 tw11763659263514759070 tw5170769351371716542 tw4451755176401940446 tw6621999724301743070 tw3434463081008530430 tw6720877264126783519 tw974343399416529983 tw355014576577304703 tw516692899539094719 tw14868918684153336063 tw15301960350693140799 tw6858782405485688159 tw11290081304367227295 tw6224902532514728383 tw18436788819102000575 tw4815330222127537663 tw9276420073081725439 tw5968396821766541855 tw1189108469394560575 tw8042260892130040415 tw17726082555450447487 tw9328443924967568031 tw17775295361387795167 tw13361230693983953631 tw4226639506170474271 tw18221083526178675519 tw11232724429769336639 tw8370672745466136415 tw13400364396047340383 tw1798218507171553151 tw5099973305425074111 tw10752991045084310495 tw6175112635311680479:True)
open PySem PySem.W PyProof.Rows
set_option maxRecDepth 100000 in
set_option maxHeartbeats 0 in
theorem PySem.Challenge.cw_stripmeld_k29_as_it_stood_holds : PySem.Challenge.rw_stripmeld_k29_as_it_stood.Holds := by
 w_on;o_law;k_head;(case hw=>w_witness2)
 k_fill
 refine L2.E3 (l:=PySem.Challenge.rw_stripmeld_k29_as_it_stood) (n:=63) (k:=7) (x:="_law_script") (CX:=L2.CX0) (sp:=Pu.Po) rfl (by decide) rfl ⟨rfl,by decide,by decide⟩ (fun w h Y=>PySem.W.kIn_of Y) ?F ?S ?C
 case F=>
  intro w mg fa h KX G hmg
  refine' T.Ap KX G hmg ?Q0 ?Q3 ?Q4 ?Q5 ?Q6 ?Q7 ?Q8 ?Q9 ?QA ?QB ?a0 ?a1 ?a2 ?a3 ?a4 ?a5 ?a6 ?a7 ?a8 ?a9 ?a10 ?a11 ?a12 ?a13 ?a14 ?a15 ?a16 ?a17 ?a18 ?a19 ?a20 ?a21 ?a22 ?a23 ?a24 ?a25 ?a26 ?a27 ?a28 ?a29 ?a30 ?a31 ?a32 ?a33 ?a34 ?a35 ?a36 ?a37 ?a38 ?a39 ?a40 ?a41 ?a42 ?a43 ?a44 ?a45 ?a46 ?a47 ?a48 ?a49 ?a50 ?a51 ?l51 ?c51 ?k51 ?QC ?QD ?QE ?QF ?QG ?QH ?QI ?QJ ?QK ?QL ?QM ?QN ?QO ?QP ?QR ?QS ?Qk ?Ql ?Qm ?Qn ?Qo ?Qp ?Qq ?Qr ?Qs ?Qt ?Qu ?Qv ?Qw ?Qx ?Qy ?Qz ?x_MeldError_MeldError ?x_TooManyStrips_MeldError ?x_BadHolder_MeldError ?x_BadWidth_MeldError ?x_NoStrip_MeldError ?x_OwnStrip_MeldError ?x_BadPart_MeldError ?x_UnlikeHolders_MeldError ?x_TooWide_MeldError ?x_LikeHolders_MeldError ?x_WishStands_MeldError ?x_TooManyWishes_MeldError ?x_NoWish_MeldError ?x_BookFull_MeldError ?x_NothingDone_MeldError ?x_NothingDone_NothingDone ?x_NoSuchDeed_MeldError ?x_NoSuchDeed_NoSuchDeed ?k_TooManyStrips_ValueError ?k_TooManyStrips_NoStrip ?k_TooManyStrips_BadHolder ?k_TooManyStrips_OwnStrip ?k_TooManyStrips_BadPart ?k_TooManyStrips_TooManyStrips ?k_TooManyStrips_UnlikeHolders ?k_TooManyStrips_TooWide ?k_TooManyStrips_LikeHolders ?k_TooManyStrips_WishStands ?k_TooManyStrips_TooManyWishes ?k_TooManyStrips_NoWish ?k_TooManyStrips_BookFull ?k_BadHolder_ValueError ?k_BadHolder_NoStrip ?k_BadHolder_BadHolder ?k_BadHolder_OwnStrip ?k_BadHolder_BadPart ?k_BadHolder_TooManyStrips ?k_BadHolder_UnlikeHolders ?k_BadHolder_TooWide ?k_BadHolder_LikeHolders ?k_BadHolder_WishStands ?k_BadHolder_TooManyWishes ?k_BadHolder_NoWish ?k_BadHolder_BookFull ?k_NoStrip_ValueError ?k_NoStrip_NoStrip ?k_NoStrip_BadHolder ?k_NoStrip_OwnStrip ?k_NoStrip_BadPart ?k_NoStrip_TooManyStrips ?k_NoStrip_UnlikeHolders ?k_NoStrip_TooWide ?k_NoStrip_LikeHolders ?k_NoStrip_WishStands ?k_NoStrip_TooManyWishes ?k_NoStrip_NoWish ?k_NoStrip_BookFull ?k_OwnStrip_ValueError ?k_OwnStrip_NoStrip ?k_OwnStrip_BadHolder ?k_OwnStrip_OwnStrip ?k_OwnStrip_BadPart ?k_OwnStrip_TooManyStrips ?k_OwnStrip_UnlikeHolders ?k_OwnStrip_TooWide ?k_OwnStrip_LikeHolders ?k_OwnStrip_WishStands ?k_OwnStrip_TooManyWishes ?k_OwnStrip_NoWish ?k_OwnStrip_BookFull ?k_BadPart_ValueError ?k_BadPart_NoStrip ?k_BadPart_BadHolder ?k_BadPart_OwnStrip ?k_BadPart_BadPart ?k_BadPart_TooManyStrips ?k_BadPart_UnlikeHolders ?k_BadPart_TooWide ?k_BadPart_LikeHolders ?k_BadPart_WishStands ?k_BadPart_TooManyWishes ?k_BadPart_NoWish ?k_BadPart_BookFull ?k_UnlikeHolders_ValueError ?k_UnlikeHolders_NoStrip ?k_UnlikeHolders_BadHolder ?k_UnlikeHolders_OwnStrip ?k_UnlikeHolders_BadPart ?k_UnlikeHolders_TooManyStrips ?k_UnlikeHolders_UnlikeHolders ?k_UnlikeHolders_TooWide ?k_UnlikeHolders_LikeHolders ?k_UnlikeHolders_WishStands ?k_UnlikeHolders_TooManyWishes ?k_UnlikeHolders_NoWish ?k_UnlikeHolders_BookFull ?k_TooWide_ValueError ?k_TooWide_NoStrip ?k_TooWide_BadHolder ?k_TooWide_OwnStrip ?k_TooWide_BadPart ?k_TooWide_TooManyStrips ?k_TooWide_UnlikeHolders ?k_TooWide_TooWide ?k_TooWide_LikeHolders ?k_TooWide_WishStands ?k_TooWide_TooManyWishes ?k_TooWide_NoWish ?k_TooWide_BookFull ?k_LikeHolders_ValueError ?k_LikeHolders_NoStrip ?k_LikeHolders_BadHolder ?k_LikeHolders_OwnStrip ?k_LikeHolders_BadPart ?k_LikeHolders_TooManyStrips ?k_LikeHolders_UnlikeHolders ?k_LikeHolders_TooWide ?k_LikeHolders_LikeHolders ?k_LikeHolders_WishStands ?k_LikeHolders_TooManyWishes ?k_LikeHolders_NoWish ?k_LikeHolders_BookFull ?k_WishStands_ValueError ?k_WishStands_NoStrip ?k_WishStands_BadHolder ?k_WishStands_OwnStrip ?k_WishStands_BadPart ?k_WishStands_TooManyStrips ?k_WishStands_UnlikeHolders ?k_WishStands_TooWide ?k_WishStands_LikeHolders ?k_WishStands_WishStands ?k_WishStands_TooManyWishes ?k_WishStands_NoWish ?k_WishStands_BookFull ?k_TooManyWishes_ValueError ?k_TooManyWishes_NoStrip ?k_TooManyWishes_BadHolder ?k_TooManyWishes_OwnStrip ?k_TooManyWishes_BadPart ?k_TooManyWishes_TooManyStrips ?k_TooManyWishes_UnlikeHolders ?k_TooManyWishes_TooWide ?k_TooManyWishes_LikeHolders ?k_TooManyWishes_WishStands ?k_TooManyWishes_TooManyWishes ?k_TooManyWishes_NoWish ?k_TooManyWishes_BookFull ?k_NoWish_ValueError ?k_NoWish_NoStrip ?k_NoWish_BadHolder ?k_NoWish_OwnStrip ?k_NoWish_BadPart ?k_NoWish_TooManyStrips ?k_NoWish_UnlikeHolders ?k_NoWish_TooWide ?k_NoWish_LikeHolders ?k_NoWish_WishStands ?k_NoWish_TooManyWishes ?k_NoWish_NoWish ?k_NoWish_BookFull ?k_NothingDone_ValueError ?k_NothingDone_MeldError ?k_NoSuchDeed_ValueError ?k_NoSuchDeed_MeldError
  (case Q0|Q3|Q4|Q5|Q6|Q7|Q8|Q9|QA|QB=>k_is)
  (case a0|a1|a2|a3|a4|a5|a6|a7|a8|a9=>apply Pu.di<;>k_is)
  (case a10|a11|a12|a13|a14|a15|a16|a17|a18|a19|a20|a21|a22=>apply Pu.mi<;>k_is)
  (case a23|a24|a25|a26|a27|a28|a29|a30|a31|a32|a33|a34|a35|a36|a37|a38|a39|a40|a41|a42|a43|a44|a45|a46|a47|a48|a49|a50=>apply Pu.di<;>k_is)
  (case a51|l51|c51|k51|QC|QD|QE|QF|QG|QH|QI|QJ|QK|QL|QM|QN|QO|QP|QR|QS=>k_is)
  (case Qk|Ql|Qm|Qn|Qo|Qp|Qq|Qr|Qs|Qt|Qu|Qv|Qw|Qx|Qy|Qz=>apply Pu.ei<;>first|(k_is;done)|k_exc)
  (case x_MeldError_MeldError|x_TooManyStrips_MeldError|x_BadHolder_MeldError|x_BadWidth_MeldError|x_NoStrip_MeldError|x_OwnStrip_MeldError|x_BadPart_MeldError|x_UnlikeHolders_MeldError|x_TooWide_MeldError|x_LikeHolders_MeldError|x_WishStands_MeldError|x_TooManyWishes_MeldError|x_NoWish_MeldError|x_BookFull_MeldError|x_NothingDone_MeldError|x_NothingDone_NothingDone|x_NoSuchDeed_MeldError|x_NoSuchDeed_NoSuchDeed=>kts_exm)
  (case k_TooManyStrips_ValueError|k_TooManyStrips_NoStrip|k_TooManyStrips_BadHolder|k_TooManyStrips_OwnStrip|k_TooManyStrips_BadPart|k_TooManyStrips_TooManyStrips|k_TooManyStrips_UnlikeHolders|k_TooManyStrips_TooWide|k_TooManyStrips_LikeHolders|k_TooManyStrips_WishStands|k_TooManyStrips_TooManyWishes|k_TooManyStrips_NoWish|k_TooManyStrips_BookFull|k_BadHolder_ValueError|k_BadHolder_NoStrip|k_BadHolder_BadHolder|k_BadHolder_OwnStrip|k_BadHolder_BadPart|k_BadHolder_TooManyStrips|k_BadHolder_UnlikeHolders|k_BadHolder_TooWide|k_BadHolder_LikeHolders|k_BadHolder_WishStands|k_BadHolder_TooManyWishes|k_BadHolder_NoWish|k_BadHolder_BookFull|k_NoStrip_ValueError|k_NoStrip_NoStrip|k_NoStrip_BadHolder|k_NoStrip_OwnStrip|k_NoStrip_BadPart|k_NoStrip_TooManyStrips|k_NoStrip_UnlikeHolders|k_NoStrip_TooWide|k_NoStrip_LikeHolders|k_NoStrip_WishStands|k_NoStrip_TooManyWishes|k_NoStrip_NoWish|k_NoStrip_BookFull|k_OwnStrip_ValueError|k_OwnStrip_NoStrip|k_OwnStrip_BadHolder|k_OwnStrip_OwnStrip|k_OwnStrip_BadPart|k_OwnStrip_TooManyStrips|k_OwnStrip_UnlikeHolders|k_OwnStrip_TooWide|k_OwnStrip_LikeHolders|k_OwnStrip_WishStands|k_OwnStrip_TooManyWishes|k_OwnStrip_NoWish|k_OwnStrip_BookFull|k_BadPart_ValueError|k_BadPart_NoStrip|k_BadPart_BadHolder|k_BadPart_OwnStrip|k_BadPart_BadPart|k_BadPart_TooManyStrips|k_BadPart_UnlikeHolders|k_BadPart_TooWide|k_BadPart_LikeHolders|k_BadPart_WishStands|k_BadPart_TooManyWishes|k_BadPart_NoWish|k_BadPart_BookFull|k_UnlikeHolders_ValueError|k_UnlikeHolders_NoStrip|k_UnlikeHolders_BadHolder|k_UnlikeHolders_OwnStrip|k_UnlikeHolders_BadPart|k_UnlikeHolders_TooManyStrips|k_UnlikeHolders_UnlikeHolders|k_UnlikeHolders_TooWide|k_UnlikeHolders_LikeHolders|k_UnlikeHolders_WishStands|k_UnlikeHolders_TooManyWishes|k_UnlikeHolders_NoWish|k_UnlikeHolders_BookFull|k_TooWide_ValueError|k_TooWide_NoStrip|k_TooWide_BadHolder|k_TooWide_OwnStrip|k_TooWide_BadPart|k_TooWide_TooManyStrips|k_TooWide_UnlikeHolders|k_TooWide_TooWide|k_TooWide_LikeHolders|k_TooWide_WishStands|k_TooWide_TooManyWishes|k_TooWide_NoWish|k_TooWide_BookFull|k_LikeHolders_ValueError|k_LikeHolders_NoStrip|k_LikeHolders_BadHolder|k_LikeHolders_OwnStrip|k_LikeHolders_BadPart|k_LikeHolders_TooManyStrips|k_LikeHolders_UnlikeHolders|k_LikeHolders_TooWide|k_LikeHolders_LikeHolders|k_LikeHolders_WishStands|k_LikeHolders_TooManyWishes|k_LikeHolders_NoWish|k_LikeHolders_BookFull|k_WishStands_ValueError|k_WishStands_NoStrip|k_WishStands_BadHolder|k_WishStands_OwnStrip|k_WishStands_BadPart|k_WishStands_TooManyStrips|k_WishStands_UnlikeHolders|k_WishStands_TooWide|k_WishStands_LikeHolders|k_WishStands_WishStands|k_WishStands_TooManyWishes|k_WishStands_NoWish|k_WishStands_BookFull|k_TooManyWishes_ValueError|k_TooManyWishes_NoStrip|k_TooManyWishes_BadHolder|k_TooManyWishes_OwnStrip|k_TooManyWishes_BadPart|k_TooManyWishes_TooManyStrips|k_TooManyWishes_UnlikeHolders|k_TooManyWishes_TooWide|k_TooManyWishes_LikeHolders|k_TooManyWishes_WishStands|k_TooManyWishes_TooManyWishes|k_TooManyWishes_NoWish|k_TooManyWishes_BookFull|k_NoWish_ValueError|k_NoWish_NoStrip|k_NoWish_BadHolder|k_NoWish_OwnStrip|k_NoWish_BadPart|k_NoWish_TooManyStrips|k_NoWish_UnlikeHolders|k_NoWish_TooWide|k_NoWish_LikeHolders|k_NoWish_WishStands|k_NoWish_TooManyWishes|k_NoWish_NoWish|k_NoWish_BookFull|k_NothingDone_ValueError|k_NothingDone_MeldError|k_NoSuchDeed_ValueError|k_NoSuchDeed_MeldError=>kit_is)
 case S=>exact fun K H a ns hl hO hS=>⟨a,ns,rfl,hS,fun _=>rfl⟩
 case C=>exact fun _ _ _ _ z=>z
