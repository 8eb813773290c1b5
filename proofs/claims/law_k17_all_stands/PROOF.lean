import PyProof.Rows.All
import Wide.All
import OpenK.AllK
import Wide.FinOn
import Lean
import PyProof.EqAt
import PyProof.EqKinds
import PyProof.TupleCall
import PySem.Challenge.RW_stripmeld_k17_all_stands
set_option Elab.async false
set_option linter.all false
set_option maxRecDepth 100000
noncomputable section
def Zs:=@PySem.wpAny_bind
def Zt:=@List.length_map
def Zu:=@List.getElem?_eq_getElem
def Zv:=@PySem.wpAny_pure
def Zw:=@List.getD_eq_getElem?_getD
def Zx:=@PySem.Heap.get?_push_of_some
def Zy:=@Bool.false_ne_true
def Zz:=@List.size_toArray
def Z0:=@Option.some.inj
def Z1:=@PySem.Heap.lt_size
def Z2:=@PySem.Heap.get?_push_size
def Z3:=@Nat.le_refl
def Z4:=@List.map_cons
def Z5:=@List.getElem?_map
def Z6:=@if_neg
def Z7:=@decide_eq_true
def Z8:=@List.mem_append_right
def Z9:=@decide_eq_false
def ZA:=@Nat.le_trans
def ZC:=@Nat.lt_of_lt_of_le
def ZD:=@List.mem_cons_of_mem
def ZE:=@if_pos
def ZF:=@List.length_append
def ZG:=@List.mem_singleton
def ZH:=@List.mem_cons_self
def ZI:=@Nat.ne_of_lt
def ZJ:=@PySem.wpAny_newObj_type
def ZK:=@List.length_cons
def ZL:=@List.lookup_cons
def ZM:=@List.getElem?_eq_some_iff
def ZN:=@List.mem_cons
def ZO:=@PySem.W.kia_one
def ZP:=@PySem.PassesOwn.never
def ZQ:=@PySem.W.mg_none_of
def ZR:=@Bool.and_eq_true
def ZS:=@List.getElem_mem
def ZT:=@congrArg
def ZU:=@List.drop_eq_getElem_cons
def ZV:=@PySem.wpAny_mono
def ZW:=@Int.toNat_natCast
def ZX:=@List.nodup_cons
def ZY:=@List.mem_map
def ZZ:=@List.getElem?_append_right
def Ya:=@List.length_take
def Yb:=@PySem.wpAny_typeNameOfWhole_itemiter
def Yc:=@of_decide_eq_true
def Yd:=@PySem.F.slot_dict_itemiterator_next
def Ye:=@PySem.mem_of_lookup
def Yf:=@List.mem_filter
def Yg:=@PyProof.Rows.boot_isinstance
def Yh:=@Nat.lt_irrefl
def Yi:=@List.perm_ext_iff_of_nodup
def Yj:=@PySem.wpAny_typeNameOf_itemiter
def Yk:=@List.all_eq_true
def Yl:=@List.map_map
def Ym:=@List.take_succ_eq_append_getElem
def Yn:=@Array.length_toList
def Yo:=@List.filter_cons_of_pos
def Yp:=@List.filter_cons_of_neg
def Yq:=@List.any_cons
def Yr:=@List.mem_append
def Ys:=@List.find?_cons
def Yt:=@List.length_set
def Yu:=@List.map_append
def Yv:=@PySem.wpAny_setField_rec
def Yw:=@List.take_of_length_le
def Yx:=@List.drop_of_length_le
def Yy:=@PySem.wpAny_truthy_bool
def Yz:=@PyProof.Rows.callWith_type1
def Y0:=@List.mem_append_left
def Y1:=@PySem.wpAny_call_entry
def Y2:=@List.getElem_map
def Y3:=@PySem.wpAny_field
def Y4:=@List.filterMap_cons
def Y5:=@PySem.wpAny_passesOwn
def Y6:=@List.append_nil
def Y7:=@List.getElem?_append_left
def Y8:=@PySem.codeAny_builtin
def Y9:=@Nat.ne_of_gt
def YA:=@PySem.F.args_tuple_add_2
def YB:=@PySem.F.entry_tuple_add
def YC:=@PySem.wpAny_callSpecial?_slot
def YD:=@List.length_range
def YE:=@List.nodup_append
def YF:=@List.pairwise_map
def YG:=@List.getElem?_set_self
def YH:=@PySem.F.slot_tuple_add
def YI:=@Nat.zero_le
def YJ:=@PySem.wpAny_isOneOf_itemiter
def YK:=@Bool.true_and
def YL:=@PySem.W.mg_of
def YM:=@PyProof.Rows.slot_tuple_getitem
def YN:=@Nat.le_of_lt
def YO:=@List.getElem?_set_ne
def YQ:=@Bool.eq_iff_iff
def YR:=@List.mem_of_getElem?
def YS:=@Nat.le_of_eq
def YT:=@Nat.lt_trans
def YU:=@PySem.Around.under_plainId
def YV:=@beq_eq_false_iff_ne
def YW:=@List.mem_filterMap
def YX:=@List.pairwise_cons
def YY:=@List.sum_cons
def YZ:=@List.append_assoc
def Wa:=@List.length_drop
def Wb:=@List.take_length
abbrev Za:=PySem.W.Frag
namespace L2
open PySem PySem.Spec PyProof.Rows
abbrev Key:=Sum Int Str
def QR:Key->Value->Bool
 | .inl k,v=>Value.isInt k v
 | .inr x,v=>Value.isStrOf x v
def keyH(w:World):Key->Int
 | .inl k=>hashInt k
 | .inr x=>hashStr w x
def Qt:∀{k:Key}{v:Value},QR k v=true->(∃i t,k=Sum.inl i/\v=Value.int i t)\/(∃x t,k=Sum.inr x/\v=Value.str x t)
 | .inl i,v,h=>by
  obtain⟨t,e⟩:=Value.isInt_shape (k:=i) (v:=v) h;exact .inl ⟨i,t,rfl,e⟩
 | .inr x,v,h=>by
  obtain⟨t,e⟩:=Value.isStrOf_shape (x:=x) (v:=v) h;exact .inr ⟨x,t,rfl,e⟩
def KQ(i:Int)(t:Tok):QR (.inl i) (.int i t)=true:=by simp[QR,Value.isInt]
def Nf(x:Str)(t:Tok):QR (.inr x) (.str x t)=true:=by simp[QR,Value.isStrOf]
def PD(a b:Int):decide ((Sum.inl a:Key)=Sum.inl b)=(a==b):=by
 by_cases e:a=b
 ·subst e;simp
 ·have h:¬(Sum.inl a:Key)=Sum.inl b:=fun q=>e (Sum.inl.inj q);rw[Z9 h];exact(YV.mpr e).symm
def Kr(a b:Str):decide ((Sum.inr a:Key)=Sum.inr b)=decide (a=b):=by
 by_cases e:a=b
 ·subst e;simp
 ·have h:¬(Sum.inr a:Key)=Sum.inr b:=fun q=>e (Sum.inr.inj q);rw[Z9 h,Z9 e]
def PP(a:Int)(b:Str):decide ((Sum.inl a:Key)=Sum.inr b)=false:=Z9 (fun q=>nomatch q)
def KI(a:Str)(b:Int):decide ((Sum.inr a:Key)=Sum.inl b)=false:=Z9 (fun q=>nomatch q)
def WT(prog:Program)(w:World):PySem.KeyKind prog w Key where
 is:=QR
 hash:=keyH w
 inj:=fun v a b ha hb=>by
  rcases Qt ha with⟨i,t,rfl,rfl⟩|⟨x,t,rfl,rfl⟩
  ·rcases Qt hb with⟨j,u,rfl,e⟩|⟨y,u,rfl,e⟩
   ·injection e with e1 _;rw[e1]
   ·exact nomatch e
  ·rcases Qt hb with⟨j,u,rfl,e⟩|⟨y,u,rfl,e⟩
   ·exact nomatch e
   ·injection e with e1 _;rw[e1]
 byValue:=fun k v h=>by
  rcases Qt h with⟨i,t,rfl,rfl⟩|⟨x,t,rfl,rfl⟩<;>rfl
 pyHash:=fun hv h=>by
  rcases Qt hv with⟨i,t,rfl,rfl⟩|⟨x,t,rfl,rfl⟩
  ·exact wpAny_pyHash_int h
  ·exact wpAny_pyHash_str h
 eqBool:=fun hu hv h=>by
  rcases Qt hu with⟨i,t,rfl,rfl⟩|⟨x,t,rfl,rfl⟩
  ·rcases Qt hv with⟨j,u,rfl,rfl⟩|⟨y,u,rfl,rfl⟩
   ·rw[PD]at h;exact wpAny_eqBool_int h
   ·rw[PP]at h;exact SeqAt.EqAt.int_str i t y u _ _ _ _ h
  ·rcases Qt hv with⟨j,u,rfl,rfl⟩|⟨y,u,rfl,rfl⟩
   ·rw[KI]at h;exact SeqAt.EqAt.str_int x t j u _ _ _ _ h
   ·rw[Kr]at h;exact wpAny_eqBool_str h
 «strs»:=fun k x t v h=>by
  rcases Qt h with⟨i,u,rfl,e⟩|⟨y,u,rfl,e⟩
  ·exact nomatch e
  ·injection e with e1 _;subst e1;cases v<;>rfl
def KW(prog:Program)(w:World)(i:Int)(t:Tok):(WT prog w).is (.inl i) (.int i t)=true:=KQ i t
def Sa(prog:Program)(w:World)(x:Str)(t:Tok):(WT prog w).is (.inr x) (.str x t)=true:=Nf x t
inductive V where
 |non|bl (b:Bool)|int (i:Int)|str (x:Str)|byt (b:Array UInt8)|flt (b:UInt64)|ref (a:Addr)|ty (n:String)
 deriving DecidableEq
def RelV:V->Value->Prop
 | .non,u=>u=Value.none
 | .bl b,u=>u=Value.bool b
 | .int i,u=>∃t,u=Value.int i t
 | .str x,u=>∃t,u=Value.str x t
 | .byt b,u=>∃t,u=Value.bytes b t
 | .flt b,u=>∃t,u=Value.float b t
 | .ref a,u=>u=Value.ref a
 | .ty n,u=>u=Value.type n
abbrev Vals:List V->List Value->Prop:=Paired RelV
def Vals.length {xs:List V}{us:List Value} (r:Vals xs us):xs.length=us.length:=Paired.length r
def Vals.get:∀{xs:List V}{us:List Value}{i:Nat}{x:V},Vals xs us->xs[i]?=some x->∃u,us[i]?=some u/\RelV x u
 |_,_,_,_,.nil,e=>by simp at e
 |_,_,0,_,.cons r _,e=>by simp at e;subst e;exact⟨_,rfl,r⟩
 |_,_,i+1,x,.cons _ t,e=>by
  obtain⟨u,h1,h2⟩:=Vals.get (i:=i) (x:=x) t (by simpa using e);exact⟨u,by simpa using h1,h2⟩
def Vals.append:∀{xs ys:List V}{us ws:List Value},Vals xs us->Vals ys ws->Vals (xs++ys) (us++ws)
 |_,_,_,_,.nil,s=>s
 |_,_,_,_,.cons r t,s=>.cons r (Vals.append t s)
def Vals.take:∀{xs:List V}{us:List Value} (n:Nat),Vals xs us->Vals (xs.take n) (us.take n)
 |_,_,0,_=>.nil
 |_,_,_+1,.nil=>.nil
 |_,_,n+1,.cons r t=>.cons r (Vals.take n t)
def Vals.drop:∀{xs:List V}{us:List Value} (n:Nat),Vals xs us->Vals (xs.drop n) (us.drop n)
 |_,_,0,r=>r
 |_,_,_+1,.nil=>.nil
 |_,_,n+1,.cons _ t=>Vals.drop n t
def RelO:Option V->Option Value->Prop
 |some v,some u=>RelV v u
 |none,none=>True
 |_,_=>False
def KV{κ:Type}:List (κ×V)->List (κ×Value)->Prop:=Paired fun(p:κ×V) (q:κ×Value)=>p.1=q.1/\RelV p.2 q.2
def kV:Key->V
 | .inl i=>.int i
 | .inr x=>.str x
inductive HO where
 |lst (xs:List V)
 |tup (xs:List V)
 |dK (kvs:List (Key×V))|dT (kvs:List (List Key×V))
 |set (S:Int->Bool) (n:Nat)
 |ins (C dx:Addr) (fs:List (Str×V))
 |own (x:Addr)
 |xd (fs:List (Str×V))
 |met (f x:Addr)
 |rng (lo hi:Int)
 |frz (o:Obj) (u:HO)
 |tbl (ps:Array Value)
 |ext (φ:Heap->Prop)
abbrev Hp:=Addr->Option HO
def upd(H:Hp)(a:Addr)(o:HO):Hp:=fun b=>if b=a then some o else H b
def WL{H:Hp}{a:Addr}{o:HO}:upd H a o a=some o:=by unfold upd;rw[ZE rfl]
def Wz{H:Hp}{a b:Addr}{o:HO}(h:b≠a):upd H a o b=H b:=by unfold upd;rw[Z6 h]
def Ub{H:Hp}{a b:Addr}{o u:HO}(h:H a=some o)(h':H b=some u)(d:o≠u):a≠b:=by
 intro e;subst e;rw[h]at h';exact d (Z0 h')
def WO{H:Hp}{a b:Addr}{o:HO}(h:H a=some o)(h':H b=none):a≠b:=by
 intro e;subst e;rw[h]at h';cases h'
section
variable (P:Program) (w:World)
def ObjOk(H:Hp)(h:Heap)(a:Addr):HO->Prop
 | .lst xs=>xs.length<=sizeLine/\∃(its:List Value) (n:Nat),Vals xs its/\h.get? a=some {cls:=.type "list",data:=.seq its.toArray n}
 | .tup xs=>xs.length<=sizeLine/\∃its:List Value,Vals xs its/\IsTup h a its.toArray
 | .dK kvs=>kvs.length<=sizeLine/\(a==sysModules)=false/\∃vs,KV kvs vs/\h.DictOf (WT P w) a vs
 | .dT kvs=>kvs.length<=sizeLine/\(a==sysModules)=false/\∃xs:List (List Key×Addr×Value),
   Paired (fun(p:List Key×V) (q:List Key×Addr×Value)=>p.1=q.1/\H q.2.1=some (.tup (p.1.map kV))/\RelV p.2 q.2.2) kvs xs/\
   ∃o es ep,h.get? a=some o/\o.ExactDict/\o.data=.dict es ep/\es.toList=xs.map (entryOfKey (tupleKind (WT P w)))/\(xs.map (·.1)).Nodup
 | .set S n=>h.SetOf (intKind P w) a S n
 | .ins C dx fs=>H dx=some (.own a)/\fs.length<=1000/\dx≠a/\h.get? a=some (PySem.W.instObj C dx)/\
   ∃mA,h.Ns1 dx mA/\(∀f,RelO (fs.lookup f) (mA f))/\PySem.Within mA (fs.map (·.1))
 | .own _=>∃o,h.get? a=some o
 | .xd fs=>∃mA,h.Ns1 a mA/\∀f,RelO (fs.lookup f) (mA f)
 | .rng lo hi=>∃t u v,h.get? a=some {cls:=.type "range",data:=.fields #[.int lo t,.int hi u,.int 1 v]}
 | .frz o u=>h.get? a=some o/\ObjOk H h a u
 | .tbl ps=>h.get? a=some {cls:=.none,data:=.fields ps}
 | .met f x=>h.get? a=some (PySem.W.methodObj (.ref f) (.ref x))
 | .ext φ=>φ h/\(∃o,h.get? a=some o)/\∀h1 h2:Heap,φ h1->(∀o,h1.get? a=some o->h2.get? a=some o)->φ h2
def HOk(H:Hp)(h:Heap):Prop:=∀a o,H a=some o->ObjOk P w H h a o
end
section
variable {P:Program}{w:World}{H H':Hp}{h h':Heap}{a:Addr}{o:HO}
def ObjOk.lt (x:ObjOk P w H h a o):a<h.objs.size:=by
 cases o with
 |lst xs=>obtain⟨_,_,_,_,e⟩:=x;exact Z1 e
 |tup xs=>obtain⟨_,_,_,p⟩:=x;exact p.lt
 |dK kvs=>obtain⟨_,_,_,_,o,_,_,e,_⟩:=x;exact Z1 e
 |dT kvs=>obtain⟨_,_,_,_,o,_,_,e,_⟩:=x;exact Z1 e
 |set S n=>obtain⟨o,_,_,_,e,_⟩:=x;exact Z1 e
 |ins C dx fs=>obtain⟨_,_,_,e,_⟩:=x;exact Z1 e
 |own y=>obtain⟨_,e⟩:=x;exact Z1 e
 |xd fs=>obtain⟨_,⟨_,_,_,e,_⟩,_⟩:=x;exact Z1 e
 |rng lo hi=>obtain⟨_,_,_,e⟩:=x;exact Z1 e
 |frz ob u=>obtain⟨e,_⟩:=x;exact Z1 e
 |tbl ps=>exact Z1 (show h.get? a=some _ from x)
 |met f y=>exact Z1 (show h.get? a=some _ from x)
 |ext φ=>obtain⟨_,⟨_,e⟩,_⟩:=x;exact Z1 e
def Paired.mapP {α β:Type}{F G:α->β->Prop}:∀{l₁:List α}{l₂:List β},Paired F l₁ l₂->(∀a b,F a b->G a b)->Paired G l₁ l₂
 |_,_,.nil,_=>.nil
 |_,_,.cons r t,f=>.cons (f _ _ r) (Paired.mapP t f)
def ObjOk.stay (x:ObjOk P w H h a o) (k:∀b u,(b=a\/H b=some (.own a))->h.get? b=some u->h'.get? b=some u)
  (ho:∀b,H b=some (.own a)->H' b=some (.own a)) (ht:∀b xs,H b=some (.tup xs)->H' b=some (.tup xs)):ObjOk P w H' h' a o:=by
 induction o with
 |lst xs=>obtain⟨z,its,n,r,e⟩:=x;exact⟨z,its,n,r,k _ _ (.inl rfl) e⟩
 |tup xs=>obtain⟨z,its,r,ob,e,c⟩:=x;exact⟨z,its,r,ob,k _ _ (.inl rfl) e,c⟩
 |dK kvs=>obtain⟨z,y,vs,r,ob,es,ep,e,c⟩:=x;exact⟨z,y,vs,r,ob,es,ep,k _ _ (.inl rfl) e,c⟩
 |dT kvs=>
  obtain⟨z,y,xs,r,ob,es,ep,e,c⟩:=x;exact⟨z,y,xs,Paired.mapP r fun p q z=>⟨z.1,ht _ _ z.2.1,z.2.2⟩,ob,es,ep,k _ _ (.inl rfl) e,c⟩
 |set S n=>obtain⟨ob,es,ep,t,e,c⟩:=x;exact⟨ob,es,ep,t,k _ _ (.inl rfl) e,c⟩
 |ins C dx fs=>
  obtain⟨d,z,ne,e,mA,⟨od,es,ep,e2,c⟩,r⟩:=x;exact⟨ho _ d,z,ne,k _ _ (.inl rfl) e,mA,⟨od,es,ep,k _ _ (.inr d) e2,c⟩,r⟩
 |own y=>obtain⟨ob,e⟩:=x;exact⟨ob,k _ _ (.inl rfl) e⟩
 |xd fs=>obtain⟨mA,⟨od,es,ep,e,c⟩,r⟩:=x;exact⟨mA,⟨od,es,ep,k _ _ (.inl rfl) e,c⟩,r⟩
 |rng lo hi=>obtain⟨t,u,v,e⟩:=x;exact⟨t,u,v,k _ _ (.inl rfl) e⟩
 |frz ob u ih=>obtain⟨e,q⟩:=x;exact⟨k _ _ (.inl rfl) e,ih q⟩
 |tbl ps=>
  have e:h.get? a=some {cls:=.none,data:=.fields ps}:=x;show h'.get? a=some {cls:=.none,data:=.fields ps};exact k a _ (.inl rfl) e
 |met f y=>
  have e:h.get? a=some (PySem.W.methodObj (.ref f) (.ref y)):=x;show h'.get? a=some (PySem.W.methodObj (.ref f) (.ref y));exact k a _ (.inl rfl) e
 |ext φ=>obtain⟨p,⟨o,e⟩,st⟩:=x;exact⟨st _ _ p fun o q=>k _ _ (.inl rfl) q,⟨o,k _ _ (.inl rfl) e⟩,st⟩
def HOk.lt (x:HOk P w H h) (e:H a=some o):a<h.objs.size:=(x a o e).lt
def HOk.fresh (x:HOk P w H h) (e:h.objs.size<=a):H a=none:=by
 cases q:H a with
 |none=>rfl
 |some u=>exact absurd (ZC (x.lt q) e) (Yh _)
def HOk.kept (x:HOk P w H h) (k:∀b u,h.get? b=some u->h'.get? b=some u):HOk P w H h':=fun a o e=>
 (x a o e).stay (fun b u _ q=>k b u q) (fun _ q=>q) fun _ _ q=>q
def HOk.laid (x:HOk P w H h) (k:∀b u,h.get? b=some u->h'.get? b=some u) (hp:h.objs.size<=a) (new:ObjOk P w (upd H a o) h' a o):HOk P w (upd H a o) h':=fun b u e=>by
 have hn:=x.fresh hp;by_cases hb:b=a
 ·subst hb;rw[WL]at e;cases e;exact new
 ·rw[Wz hb]at e;exact(x b u e).stay (fun c v _ q=>k c v q) (fun c q=>by rw[Wz (WO q hn)];exact q) fun c xs q=>by rw[Wz (WO q hn)];exact q
end
def Rd(H:Hp)(a:Addr)(u:HO):Prop:=H a=some u\/∃o,H a=some (.frz o u)
def Rd.ok {P:Program}{w:World}{H:Hp}{h:Heap}{a:Addr}{u:HO} (r:Rd H a u) (x:HOk P w H h):ObjOk P w H h a u:=by
 rcases r with r|⟨o,r⟩
 ·exact x a u r
 ·obtain⟨_,q⟩:=x a _ r;exact q
def Mut:Option HO->Prop
 |some (.lst _)=>True
 |some (.dK _)=>True
 |some (.dT _)=>True
 |some (.set _ _)=>True
 |some (.ins _ _ _)=>True
 |some (.ext _)=>True
 |_=>False
section
variable {P:Program}{w:World}{H:Hp}{h h':Heap}{x e:Addr}{o':HO}
def HOk.write (ok:HOk P w H h) (mu:Mut (H x)) (he:e=x\/H e=some (.own x)) (k:∀b u,b≠e->h.get? b=some u->h'.get? b=some u) (heo:∃u,h'.get? e=some u)
  (new:ObjOk P w (upd H x o') h' x o'):HOk P w (upd H x o') h':=fun b u q=>by
 have nown:∀c y,H c=some (.own y)->c≠x:=fun c y r z=>by subst z;rw[r]at mu;exact mu
 have ntup:∀c xs,H c=some (.tup xs)->c≠x:=fun c xs r z=>by subst z;rw[r]at mu;exact mu
 by_cases hb:b=x
 ·subst hb;rw[WL]at q;cases q;exact new
 ·rw[Wz hb]at q;by_cases hbe:b=e
  ·have q':H b=some (.own x):=by
    rcases he with z|z
    ·exact absurd (hbe.trans z) hb
    ·rw[hbe];exact z
   rw[q]at q';cases q';obtain⟨v,hv⟩:=heo;exact⟨v,by rw[hbe];exact hv⟩
  ·refine(ok b u q).stay (fun c v hc r=>k c v ?_ r) (fun c r=>by rw[Wz (nown c b r)];exact r) fun c xs r=>by rw[Wz (ntup c xs r)];exact r
   rcases hc with rfl|hc
   ·exact hbe
   ·rintro rfl;rcases he with z|z
    ·exact nown c b hc z
    ·rw[hc]at z;cases z;exact hb rfl
end
structure Un (fs ex:List Addr) (H H':Hp) (h h':Heap):Prop where
 keep:∀b o,h.get? b=some o->H b=none->b∉fs->b∉ex->h'.get? b=some o
 slot:∀b o,h.get? b=some o->H b=none->b∈fs->b∉ex->∃sl,h'.get? b=some {o with slots:=sl}
 free:∀b o,h.get? b=some o->H b=none->b∉ex->H' b=none
 there:∀b o,h.get? b=some o->b∉ex->∃o',h'.get? b=some o'
 tups:∀b xs,H b=some (.tup xs)->H' b=some (.tup xs)
 frzs:∀b o u,H b=some (.frz o u)->H' b=some (.frz o u)
 tbls:∀b ps,H b=some (.tbl ps)->∃more,H' b=some (.tbl (ps++more))
section
variable {fs fs' ex ex':List Addr}{H H1 H2:Hp}{h h1 h2 h':Heap}{a x e:Addr}{o:HO}
def Un.any (u:Un fs ex H H1 h h1) {b:Addr}{ob:Obj} (q:h.get? b=some ob) (n:H b=none) (hx:b∉ex):∃sl,h1.get? b=some {ob with slots:=sl}:=by
 by_cases hb:b∈fs
 ·exact u.slot b ob q n hb hx
 ·exact⟨ob.slots,u.keep b ob q n hb hx⟩
def Un.kept (k:∀b u,h.get? b=some u->h'.get? b=some u):Un fs ex H H h h':=
 ⟨fun b ob q _ _ _=>k b ob q,fun b ob q _ _ _=>⟨ob.slots,k b ob q⟩,fun _ _ _ n _=>n,fun b ob q _=>⟨ob,k b ob q⟩,fun _ _ q=>q,fun _ _ _ q=>q,fun _ ps q=>⟨#[],by rw[q];simp⟩⟩
def Un.refl:Un fs ex H H h h:=Un.kept fun _ _ q=>q
def Un.laid (k:∀b u,h.get? b=some u->h'.get? b=some u) (hp:h.objs.size<=a) (hn:H a=none):Un fs ex H (upd H a o) h h' where
 keep:=fun b u q _ _ _=>k b u q
 slot:=fun b u q _ _ _=>⟨u.slots,k b u q⟩
 free:=fun b u q n _=>by rw[Wz (ZI (ZC (Z1 q) hp))];exact n
 there:=fun b u q _=>⟨u,k b u q⟩
 tups:=fun b xs q=>by rw[Wz (WO q hn)];exact q
 frzs:=fun b u xs q=>by rw[Wz (WO q hn)];exact q
 tbls:=fun b ps q=>⟨#[],by rw[Wz (WO q hn),q];simp⟩
def Un.write (mu:Mut (H x)) (he:e=x\/H e=some (.own x)) (k:∀b u,b≠e->h.get? b=some u->h'.get? b=some u) (heo:∃u,h'.get? e=some u):Un fs ex H (upd H x o) h h':=by
 have hx:∀b,H b=none->b≠x:=fun b n z=>by subst z;rw[n]at mu;exact mu
 have hb:∀b,H b=none->b≠e:=fun b n z=>by
  subst z;rcases he with r|r
  ·exact hx b n r
  ·rw[n]at r;cases r
 have hm:∀b u,H b=some u->¬Mut (some u)->b≠x:=fun b u q nm z=>by subst z;rw[q]at mu;exact nm mu
 refine⟨fun b u q n _ _=>k b u (hb b n) q,fun b u q n _ _=>⟨u.slots,k b u (hb b n) q⟩,fun b u q n _=>by rw[Wz (hx b n)];exact n,fun b u q _=>?_,
  fun b xs q=>by rw[Wz (hm b _ q fun z=>z)];exact q,fun b u xs q=>by rw[Wz (hm b _ q fun z=>z)];exact q,fun b ps q=>⟨#[],by rw[Wz (hm b _ q fun z=>z),q];simp⟩⟩
 by_cases hbe:b=e
 ·subst hbe;exact heo
 ·exact⟨u,k b u hbe q⟩
end
def trk(h:Heap)(H:Hp):List Addr:=(List.range h.objs.size).filter fun a=>(H a).isSome
def hidT(h:Heap)(H:Hp):Heap:=PySem.W.hideAll h (trk h H)
def NT(h:Heap)(H:Hp):(hidT h H).objs.size=h.objs.size:=PySem.W.hideAll_size _ _
def P1{h:Heap}{H:Hp}{b:Addr}{o:Obj}(e:h.get? b=some o)(n:H b=none):(hidT h H).get? b=some o:=
 PySem.W.hideAll_get _ e fun hm=>by
  have q:(H b).isSome=true:=(Yf.mp hm).2;rw[n]at q;simp at q
def T2{h:Heap}{H:Hp}{b:Addr}{o:Obj}(e:(hidT h H).get? b=some o):h.get? b=some o/\H b=none:=by
 have e':h.get? b=some o:=PySem.W.of_hideAll (trk h H) e;refine⟨e',?_⟩;cases q:H b with
 |none=>rfl
 |some x=>
  have hm:b∈trk h H:=Yf.mpr ⟨List.mem_range.mpr (Z1 e'),by simp[q]⟩;have z:(hidT h H).get? b=none:=PySem.W.hideAll_none (trk h H) hm;rw[z]at e;cases e
def Km(g h:Heap)(L:Addr):List (Addr×Obj):=(List.range h.objs.size).filterMap fun a=>if a=L\/(g.get? a).isSome=true then none else(h.get? a).map fun o=>(a,o)
def rest(g h:Heap)(L d:Addr):List (Addr×Obj):=(Km g h L).filter fun p=>decide (p.1≠d)
structure Mod (K:Za) (mg:Str->Option Value) (base:Heap):Prop where
 kin:K.In base
 glob:base.Ns mainGlobals mg
 blt:∃mb,base.Ns builtinsNs mb/\∀x:Str,x≠"__name__"->mb x=bootBuiltins x
 nolimit:base.NoLimit
structure Cx where
 prog:Program
 w:World
 K:Za
 mg:Str->Option Value
 base:Heap
 A:Around
 N:List Str
 s₀:Shared
 H₀:Hp
 env:Env
 outer:List Env
 stack:List Env
 ex:List Addr
 fn:Str->Bool
 calm:Bool
 pn:List (Addr×Obj)
 xe:Value->Shared->Prop
def frs(l:List Env):List Addr:=l.filterMap (·.frame)
abbrev Cx.fs (X:Cx):List Addr:=frs X.outer
def Vis(sc:Scope)(x:Str):Prop:=sc.names.lookup x=some .local\/sc.names.lookup x=some .cell\/sc.names.lookup x=some .free
def Loc(sc:Scope)(x:Str):Prop:=sc.names.lookup x=some .local\/sc.names.lookup x=some .cell
def Look(env:Env)(h:Heap)(m:Str->Option Value)(x:Str)(u:Value):Prop:=
 (env.kindOf x=some .local/\m x=some u)\/((env.kindOf x=some .cell\/env.kindOf x=some .free)/\∃c,env.cells.lookup x=some c/\h.IsCell c (some u))
structure Cx.Ok (X:Cx):Prop where
 mod:Mod X.K X.mg X.base
 kind:X.env.scope.kind=.function
 glob:X.env.globals=mainGlobals
 blt:X.env.builtins=builtinsNs
 above:X.s₀.heap.objs.size<=X.env.locals
 inj:∀x y c,X.env.cells.lookup x=some c->X.env.cells.lookup y=some c->x=y
 has:∀x,(X.env.kindOf x=some .cell\/X.env.kindOf x=some .free)->∃c,X.env.cells.lookup x=some c
 cab:∀x c,X.fn x=true->X.env.cells.lookup x=some c->X.s₀.heap.objs.size<=c
 hd:X.calm=true->X.A.handled=none
 frames:X.A.frames=some X.stack
 stk:X.stack=X.outer\/(X.stack=X.env::X.outer/\X.env.frame=some X.env.locals)
 exf:∀b∈X.ex,b≠X.env.locals/\∀x c,X.env.cells.lookup x=some c->c≠b
 bs:∀b o,X.base.get? b=some o->X.s₀.heap.get? b=some o/\X.H₀ b=none
 bsz:X.base.objs.size<=X.s₀.heap.objs.size
 noex:∀b o,X.base.get? b=some o->b∉X.ex
 exfs:∀b∈X.ex,b∉X.fs
 funs:X.s₀.heap.FunFrames X.base X.outer
 frf:∀b∈X.fs,X.H₀ b=none
structure Inv (X:Cx) (pins:List (Addr×Obj)) (σ:List (Option V)) (H:Hp) (s:Shared):Prop where
 ok:X.Ok
 os:s.os=X.s₀.os
 bare:AllBare s.gens
 base:Un X.fs X.ex X.H₀ H X.s₀.heap s.heap
 loc:∃m,s.heap.Ns X.env.locals m/\∀(i:Nat) (x:Str) (v:V),X.N[i]?=some x->σ[i]?=some (some v)->Vis X.env.scope x->∃u,RelV v u/\Look X.env s.heap m x u
 cell:∀x c,X.env.cells.lookup x=some c->∃v,s.heap.IsCell c v
 free:H X.env.locals=none
 freeC:∀x c,X.env.cells.lookup x=some c->H c=none
 pin:∀p∈X.pn++pins,s.heap.get? p.1=some p.2/\H p.1=none/\p.1≠X.env.locals/\p.1∉X.fs/\∀v,p.2.data≠.cell v
 hok:HOk X.prog X.w H s.heap
 len:σ.length=X.N.length
section
variable {X:Cx}{pins:List (Addr×Obj)}{σ:List (Option V)}{H H':Hp}{s:Shared}{h':Heap}
def Cx.Ok.nofr (ok:X.Ok) {b:Addr}{o:Obj} (e:X.base.get? b=some o):b∉X.fs:=fun hb=>by
 have:=(ok.funs.mem hb).1
 rw[e]at this;cases this
def Inv.bs (I:Inv X pins σ H s):∀b o,X.base.get? b=some o->s.heap.get? b=some o/\H b=none:=fun b o e=>
 ⟨I.base.keep b o (I.ok.bs b o e).1 (I.ok.bs b o e).2 (I.ok.nofr e) (I.ok.noex b o e),I.base.free b o (I.ok.bs b o e).1 (I.ok.bs b o e).2 (I.ok.noex b o e)⟩
def Inv.bk (I:Inv X pins σ H s):∀b o,X.base.get? b=some o->s.heap.get? b=some o:=fun b o e=>(I.bs b o e).1
def Inv.mod (I:Inv X pins σ H s):Mod X.K X.mg X.base:=I.ok.mod
def Inv.kIn (I:Inv X pins σ H s):X.K.In s.heap:=I.ok.mod.kin.keeps I.bk
def Inv.lt (I:Inv X pins σ H s):X.env.locals<s.heap.objs.size:=let ⟨_,hn,_⟩:=I.loc;hn.lt
def Inv.sz (I:Inv X pins σ H s):X.s₀.heap.objs.size<=s.heap.objs.size:=ZA I.ok.above (YN I.lt)
def Inv.nofs (I:Inv X pins σ H s) {a:Addr} (h:s.heap.objs.size<=a):a∉X.fs:=fun hb=>by
 obtain⟨_,o,ho,_⟩:=I.ok.funs.mem hb;exact absurd (ZC (Z1 ho) (ZA I.sz h)) (Yh _)
def Inv.cne (I:Inv X pins σ H s):∀x c,X.env.cells.lookup x=some c->c≠X.env.locals:=fun x c e z=>by
 obtain⟨v,o,ho,hd⟩:=I.cell x c e;obtain⟨m,⟨o',es,ep,ho',hd',_⟩,_⟩:=I.loc;rw[z,ho']at ho;cases ho;rw[hd']at hd;cases hd
def Inv.funs (I:Inv X pins σ H s):s.heap.FunFrames X.base X.outer:=by
 have all:∀(l:List Env),(∀b∈frs l,b∈X.fs)->X.s₀.heap.FunFrames X.base l->s.heap.FunFrames X.base l:=by
  intro l
  induction l with
  |nil=>intro _ _;trivial
  |cons env r ih=>
   intro hs hl;obtain⟨hk,⟨L,o,hf,hn,ho,hd⟩,hr⟩:=hl;have hL:L∈X.fs:=hs L (by unfold frs;rw[Y4,hf];exact ZH);obtain⟨sl,e⟩:=I.base.slot L o ho (I.ok.frf L hL) hL fun z=>I.ok.exfs L z hL;exact⟨hk,⟨L,_,hf,hn,e,hd⟩,ih (fun b hb=>hs b (by unfold frs;rw[Y4,hf];exact ZD _ hb)) hr⟩
 exact all X.outer (fun _ hb=>hb) I.ok.funs
def Inv.stack (I:Inv X pins σ H s):s.heap.FunFrames X.base X.stack:=by
 rcases I.ok.stk with e|⟨e,hf⟩
 ·rw[e];exact I.funs
 ·rw[e];obtain⟨m,hn,_⟩:=I.loc;refine .cons (by rw[I.ok.kind];decide) hf hn ?_ I.funs;exact Heap.get?_none_of_le (ZA I.ok.bsz I.ok.above)
def Inv.stkSub (I:Inv X pins σ H s):∀b∈frs X.stack,b∈X.env.locals::X.fs:=fun b hb=>by
 rcases I.ok.stk with e|⟨e,hf⟩
 ·rw[e]at hb;exact ZD _ hb
 ·rw[e]at hb;unfold frs at hb;rw[Y4,hf]at hb;exact hb
def Inv.stkFree (I:Inv X pins σ H s):∀b∈frs X.stack,H b=none:=fun b hb=>by
 rcases ZN.mp (I.stkSub b hb)with e|hb
 ·rw[e];exact I.free
 ·obtain⟨_,o,ho,_⟩:=I.ok.funs.mem hb;exact I.base.free b o ho (I.ok.frf b hb) fun z=>I.ok.exfs b z hb
def Inv.step {g':Array GenState}{t':Nat}{d':Drawn}{ch:List Addr} (I:Inv X pins σ H s)
  (hch:∀b∈ch,(b∈X.ex\/X.s₀.heap.objs.size<=b)/\b≠X.env.locals/\(∀x c,X.env.cells.lookup x=some c->c≠b)/\∀p∈X.pn++pins,p.1≠b)
  (keep:∀b o,b≠X.env.locals->b∉X.fs->b∉ch->s.heap.get? b=some o->H b=none->h'.get? b=some o)
  (slot:∀b o,b≠X.env.locals->b∈X.fs->b∉ch->s.heap.get? b=some o->H b=none->∃sl,h'.get? b=some {o with slots:=sl}) (free:∀b o,b∉ch->s.heap.get? b=some o->H b=none->H' b=none)
  (there:∀b o,b∉ch->s.heap.get? b=some o->∃o',h'.get? b=some o')
  (tups:∀b xs,H b=some (.tup xs)->H' b=some (.tup xs)) (frzs:∀b o u,H b=some (.frz o u)->H' b=some (.frz o u)) (tbls:∀b ps,H b=some (.tbl ps)->∃more,H' b=some (.tbl (ps++more)))
  (ns:∀m,s.heap.Ns X.env.locals m->h'.Ns X.env.locals m) (hok:HOk X.prog X.w H' h') (hg:AllBare g') :
  Inv X pins σ H' {s with heap:=h',gens:=g',drawn:=d',toks:=t'}:=by
 have neL:∀b o,X.s₀.heap.get? b=some o->b≠X.env.locals:=fun b o e=>ZI (ZC (Z1 e) I.ok.above)
 have neC:∀b o,X.s₀.heap.get? b=some o->b∉X.ex->b∉ch:=fun b o e hx hb=>by
  rcases(hch b hb).1 with z|z
  ·exact hx z
  ·exact absurd (ZC (Z1 e) z) (Yh _)
 have cellK:∀x c,X.env.cells.lookup x=some c->∀v,s.heap.IsCell c v->h'.IsCell c v:=fun x c e v ⟨o,ho,hd⟩=>by
  have nch:c∉ch:=fun z=>(hch c z).2.2.1 x c e rfl;by_cases hc:c∈X.fs
  ·obtain⟨sl,q⟩:=slot c o (I.cne x c e) hc nch ho (I.freeC x c e);exact⟨_,q,hd⟩
  ·exact⟨o,keep c o (I.cne x c e) hc nch ho (I.freeC x c e),hd⟩
 refine⟨I.ok,I.os,hg,⟨fun b o e n hb hx=>?_,fun b o e n hb hx=>?_,fun b o e n hx=>?_,fun b o e hx=>?_,fun b xs e=>tups b xs (I.base.tups b xs e),fun b o xs e=>frzs b o xs (I.base.frzs b o xs e),fun b ps e=>?_⟩,?_,fun x c e=>?_,?_,fun x c e=>?_,fun p hp=>?_,hok,I.len⟩
 ·exact keep b o (neL b o e) hb (neC b o e hx) (I.base.keep b o e n hb hx) (I.base.free b o e n hx)
 ·obtain⟨sl,e1⟩:=I.base.slot b o e n hb hx;obtain⟨sl',e2⟩:=slot b _ (neL b o e) hb (neC b o e hx) e1 (I.base.free b o e n hx);exact⟨sl',e2⟩
 ·obtain⟨o',e1⟩:=I.base.there b o e hx;exact free b o' (neC b o e hx) e1 (I.base.free b o e n hx)
 ·obtain⟨o',e1⟩:=I.base.there b o e hx;exact there b o' (neC b o e hx) e1
 ·obtain⟨m1,e1⟩:=I.base.tbls b ps e;obtain⟨m2,e2⟩:=tbls b _ e1;exact⟨m1++m2,by rw[e2,Array.append_assoc]⟩
 ·obtain⟨m,hn,hl⟩:=I.loc;refine⟨m,ns m hn,fun i x v e1 e2 e3=>?_⟩;obtain⟨u,r,l⟩:=hl i x v e1 e2 e3;refine⟨u,r,?_⟩;rcases l with l|⟨k,c,e,z⟩
  ·exact .inl l
  ·exact .inr ⟨k,c,e,cellK x c e _ z⟩
 ·obtain⟨v,z⟩:=I.cell x c e;exact⟨v,cellK x c e v z⟩
 ·obtain⟨m,⟨o,_,_,ho,_⟩,_⟩:=I.loc;exact free _ o (fun z=>(hch _ z).2.1 rfl) ho I.free
 ·obtain⟨v,o,ho,hd⟩:=I.cell x c e;exact free c o (fun z=>(hch c z).2.2.1 x c e rfl) ho (I.freeC x c e)
 ·obtain⟨e,n,ne,nf,d⟩:=I.pin p hp;have nch:p.1∉ch:=fun z=>(hch p.1 z).2.2.2 p hp rfl;exact⟨keep p.1 p.2 ne nf nch e n,free p.1 p.2 nch e n,ne,nf,d⟩
def Inv.un {t':Nat} (I:Inv X pins σ H s) (u:Un X.fs [] H H' s.heap h') (hok:HOk X.prog X.w H' h'):Inv X pins σ H' {s with heap:=h',toks:=t'}:=by
 obtain⟨m,⟨o,es,ep,ho,r⟩,_⟩:=id I.loc;obtain⟨sl,hL⟩:=u.any ho I.free (by simp)
 exact I.step (g':=s.gens) (d':=s.drawn) (ch:=[]) (fun _ z=>nomatch z) (fun b o _ hb _ e n=>u.keep b o e n hb (by simp)) (fun b o _ hb _ e n=>u.slot b o e n hb (by simp)) (fun b o _ e n=>u.free b o e n (by simp)) (fun b o _ e=>u.there b o e (by simp)) u.tups u.frzs u.tbls (fun m' hm=>by
  obtain⟨o',es',ep',ho',r'⟩:=hm;rw[ho]at ho';cases ho';exact⟨_,es',ep',hL,r'⟩) hok I.bare
def Inv.call {g':Array GenState}{t':Nat}{d':Drawn}{ch:List Addr} (I:Inv X pins σ H s) (u:Un (frs X.stack) ch H H' s.heap h') (hok:HOk X.prog X.w H' h') (hg:AllBare g')
  (hch:∀b∈ch,(b∈X.ex\/X.s₀.heap.objs.size<=b)/\b≠X.env.locals/\(∀x c,X.env.cells.lookup x=some c->c≠b)/\∀p∈X.pn++pins,p.1≠b) :
  Inv X pins σ H' {s with heap:=h',gens:=g',drawn:=d',toks:=t'}:=by
 obtain⟨m,⟨o,es,ep,ho,r⟩,_⟩:=id I.loc;obtain⟨sl,hL⟩:=u.any ho I.free fun z=>(hch _ z).2.1 rfl
 exact I.step (ch:=ch) hch (fun b o hL hb hc e n=>u.keep b o e n (fun z=>(ZN.mp (I.stkSub b z)).elim hL hb) hc) (fun b o _ _ hc e n=>u.any e n hc) (fun b o hc e n=>u.free b o e n hc) (fun b o hc e=>u.there b o e hc) u.tups u.frzs u.tbls (fun m' hm=>by
  obtain⟨o',es',ep',ho',r'⟩:=hm;rw[ho]at ho';cases ho';exact⟨_,es',ep',hL,r'⟩) hok hg
def Inv.turned {t':Nat}{it:Addr} (I:Inv X pins σ H s) (k:∀b o,b≠it->s.heap.get? b=some o->h'.get? b=some o) (hn:H it=none) (hL:it≠X.env.locals)
  (h1:it∈X.ex\/X.s₀.heap.objs.size<=it) (h2:∀x c,X.env.cells.lookup x=some c->c≠it) (h3:∀p∈X.pn++pins,p.1≠it):Inv X pins σ H {s with heap:=h',toks:=t'}:=by
 have nit:∀b u,H b=some u->b≠it:=fun b u e z=>by rw[z,hn]at e;cases e
 refine I.step (g':=s.gens) (d':=s.drawn) (ch:=[it]) (fun b hb=>?_) (fun b o _ _ hc e _=>k b o (fun z=>hc (by simp[z])) e) (fun b o _ _ hc e _=>⟨o.slots,k b o (fun z=>hc (by simp[z])) e⟩) (fun _ _ _ _ n=>n)
  (fun b o hc e=>⟨o,k b o (fun z=>hc (by simp[z])) e⟩) (fun _ _ e=>e) (fun _ _ _ e=>e) (fun b ps e=>⟨#[],by rw[e];simp⟩) (fun m hm=>?_) (fun b u e=>?_) I.bare
 ·have e:b=it:=by simpa using hb
  subst e;exact⟨h1,hL,h2,h3⟩
 ·obtain⟨o,es,ep,ho,r⟩:=hm;exact⟨o,es,ep,k _ o (Ne.symm hL) ho,r⟩
 ·refine(I.hok b u e).stay (fun c v hc q=>k c v ?_ q) (fun _ q=>q) fun _ _ q=>q;rcases hc with z|z
  ·rw[z];exact nit b u e
  ·exact nit c _ z
def Inv.tok (I:Inv X pins σ H s) (t:Nat):Inv X pins σ H {s with toks:=t}:=I.un (h':=s.heap) (t':=t) Un.refl I.hok
def Inv.kept {t':Nat} (I:Inv X pins σ H s) (k:∀b u,s.heap.get? b=some u->h'.get? b=some u):Inv X pins σ H {s with heap:=h',toks:=t'}:=I.un (Un.kept k) (I.hok.kept k)
def Inv.laid {a:Addr}{o:HO}{t':Nat} (I:Inv X pins σ H s) (k:∀b u,s.heap.get? b=some u->h'.get? b=some u) (hp:s.heap.objs.size<=a) (new:ObjOk X.prog X.w (upd H a o) h' a o) :
  Inv X pins σ (upd H a o) {s with heap:=h',toks:=t'}:=I.un (Un.laid k hp (I.hok.fresh hp)) (I.hok.laid k hp new)
def Inv.write {x e:Addr}{o:HO}{t':Nat} (I:Inv X pins σ H s) (mu:Mut (H x)) (he:e=x\/H e=some (.own x)) (k:∀b u,b≠e->s.heap.get? b=some u->h'.get? b=some u) (heo:∃u,h'.get? e=some u)
  (new:ObjOk X.prog X.w (upd H x o) h' x o):Inv X pins σ (upd H x o) {s with heap:=h',toks:=t'}:=I.un (Un.write mu he k heo) (I.hok.write mu he k heo new)
def Inv.weak {σ':List (Option V)} (I:Inv X pins σ H s) (hl:σ'.length=σ.length) (w:∀(i:Nat) v,σ'[i]?=some (some v)->σ[i]?=some (some v)):Inv X pins σ' H s:=
 ⟨I.ok,I.os,I.bare,I.base,let ⟨m,hn,hl'⟩:=I.loc;⟨m,hn,fun i x v e1 e2 e3=>hl' i x v e1 (w i v e2) e3⟩,I.cell,I.free,I.freeC,I.pin,I.hok,hl.trans I.len⟩
def Inv.pins_of {pins':List (Addr×Obj)} (I:Inv X pins σ H s) (h:∀p∈pins',s.heap.get? p.1=some p.2/\H p.1=none/\p.1≠X.env.locals/\p.1∉X.fs/\∀v,p.2.data≠.cell v):Inv X pins' σ H s:=
 ⟨I.ok,I.os,I.bare,I.base,I.loc,I.cell,I.free,I.freeC,fun p hp=>(Yr.mp hp).elim (fun z=>I.pin p (Y0 _ z)) (h p),I.hok,I.len⟩
def JF{N:List Str}(hN:N.Nodup){i j:Nat}{x:Str}(a:N[i]?=some x)(b:N[j]?=some x):i=j:=by
 obtain⟨h1,e1⟩:=ZM.mp a;obtain⟨h2,e2⟩:=ZM.mp b;exact(List.getElem_inj hN).mp (e1.trans e2.symm)
def N8{M:Model}{A:Around}{E:Value->Shared->Prop}{i:Nat}{x:Str}{v:V}{u:Value}{Q:Unit->Shared->Prop}(I:Inv X pins σ H s)(hN:X.N.Nodup)(hi:X.N[i]?=some x)(hx:Loc X.env.scope x)(r:RelV v u)(h:∀s',Inv X pins (σ.set i (some v)) H s'->(∃a,Heap.SameBut a s.heap s'.heap/\(a=X.env.locals\/X.env.cells.lookup x=some a))->Q () s')(hf:X.fn x=true\/X.env.scope.names.lookup x=some .local:=by first|exact .inl rfl|exact .inr rfl|assumption):wpAny M A (storeName X.env x u) Q E s:=by
 obtain⟨m,hn,hl⟩:=id I.loc;have hcls:(X.env.scope.kind == .class || (X.env.scope.kind == .module&&X.env.locals != X.env.globals))=false:=by rw[I.ok.kind];rfl
 have hiσ:i<σ.length:=by rw[I.len];exact(ZM.mp hi).1
 have cne:=I.cne
 have tracked:∀{a:Addr} {h':Heap},(∃o,s.heap.get? a=some o/\H a=none)->Heap.SameBut a s.heap h'->HOk X.prog X.w H h':=fun {a h'} ha hs b ob e=>by
  obtain⟨_,_,hfree⟩:=ha;refine(I.hok b ob e).stay (fun c w' hc q=>(hs.2 c ?_).trans q) (fun _ q=>q) fun _ _ q=>q;rintro rfl;rcases hc with rfl|hc
  ·rw[hfree]at e;cases e
  ·rw[hfree]at hc;cases hc
 rcases hx with hk|hk
 ·refine wpAny_storeName_local hk hn (fun h' hn' hs=>?_) hcls;obtain⟨oL,_,_,hoL,_⟩:=id hn;refine h _ ⟨I.ok,I.os,I.bare,⟨fun b o e n hb hx=>?_,fun b o e n hb hx=>?_,I.base.free,fun b o e hx=>?_,I.base.tups,I.base.frzs,I.base.tbls⟩,⟨_,hn',fun j y v' e1 e2 e3=>?_⟩,fun y c e=>?_,I.free,I.freeC,fun p hp=>?_,tracked ⟨oL,hoL,I.free⟩ hs,by simpa using I.len⟩ ⟨_,hs,.inl rfl⟩
  ·exact(hs.2 b (ZI (ZC (Z1 e) I.ok.above))).trans (I.base.keep b o e n hb hx)
  ·obtain⟨sl,e1⟩:=I.base.slot b o e n hb hx;exact⟨sl,(hs.2 b (ZI (ZC (Z1 e) I.ok.above))).trans e1⟩
  ·obtain⟨o',e1⟩:=I.base.there b o e hx;exact⟨o',(hs.2 b (ZI (ZC (Z1 e) I.ok.above))).trans e1⟩
  ·by_cases hj:j=i
   ·subst hj;rw[hi]at e1;cases e1;rw[YG hiσ]at e2;cases e2
    exact⟨u,r,.inl ⟨hk,by simp⟩⟩
   ·rw[YO (Ne.symm hj)]at e2;obtain⟨u',r',q⟩:=hl j y v' e1 e2 e3;refine⟨u',r',?_⟩;rcases q with⟨k,e⟩|⟨k,c,e,z⟩
    ·refine .inl ⟨k,?_⟩
     have:y≠x:=fun e=>hj (JF hN e1 (e▸hi))
     simp[this,e]
    ·exact .inr ⟨k,c,e,z.sameBut hs (cne y c e)⟩
  ·obtain⟨w',z⟩:=I.cell y c e;exact⟨w',z.sameBut hs (cne y c e)⟩
  ·obtain⟨e,n,ne,nf,d⟩:=I.pin p hp;exact⟨(hs.2 p.1 ne).trans e,n,ne,nf,d⟩
 ·have hfn:X.fn x=true:=by
   rcases hf with z|z
   ·exact z
   ·rw[z]at hk;cases hk
  obtain⟨c,hc⟩:=I.ok.has x (.inl hk);obtain⟨w',z⟩:=I.cell x c hc;refine wpAny_storeName_cell I.ok.kind hk hc z (fun h' hc' hs=>?_);obtain⟨oc,hoc,hocd⟩:=id z;refine h {s with heap:=h'} ⟨I.ok,I.os,I.bare,⟨fun b o e n hb hx=>?_,fun b o e n hb hx=>?_,I.base.free,fun b o e hx=>?_,I.base.tups,I.base.frzs,I.base.tbls⟩,⟨m,hn.sameBut hs (Ne.symm (cne x c hc)),fun j y v' e1 e2 e3=>?_⟩,fun y c' e=>?_,I.free,I.freeC,fun p hp=>?_,tracked ⟨oc,hoc,I.freeC x c hc⟩ hs,by simpa using I.len⟩ ⟨c,hs,.inr hc⟩
  ·exact(hs.2 b (ZI (ZC (Z1 e) (I.ok.cab x c hfn hc)))).trans (I.base.keep b o e n hb hx)
  ·obtain⟨sl,e1⟩:=I.base.slot b o e n hb hx;exact⟨sl,(hs.2 b (ZI (ZC (Z1 e) (I.ok.cab x c hfn hc)))).trans e1⟩
  ·obtain⟨o',e1⟩:=I.base.there b o e hx;exact⟨o',(hs.2 b (ZI (ZC (Z1 e) (I.ok.cab x c hfn hc)))).trans e1⟩
  ·by_cases hj:j=i
   ·subst hj;rw[hi]at e1;cases e1;rw[YG hiσ]at e2;cases e2
    exact⟨u,r,.inr ⟨.inl hk,c,hc,hc'⟩⟩
   ·rw[YO (Ne.symm hj)]at e2;obtain⟨u',r',q⟩:=hl j y v' e1 e2 e3;refine⟨u',r',?_⟩;rcases q with q|⟨k,c',e,z'⟩
    ·exact .inl q
    ·refine .inr ⟨k,c',e,z'.sameBut hs ?_⟩;rintro rfl;exact hj (JF hN e1 (I.ok.inj _ _ _ e hc▸hi))
  ·by_cases hcc:c'=c
   ·subst hcc;exact⟨_,hc'⟩
   ·obtain⟨w2,z2⟩:=I.cell y c' e;exact⟨w2,z2.sameBut hs hcc⟩
  ·obtain⟨e,n,ne,nf,d⟩:=I.pin p hp;refine⟨(hs.2 p.1 ?_).trans e,n,ne,nf,d⟩;intro q;rw[q,hoc]at e;have q':oc=p.2:=Z0 e;exact d w' (by rw[←q'];exact hocd)
def VC{M:Model}{A:Around}{E:Value->Shared->Prop}{i:Nat}{x:Str}{v:V}{u:Value}{Q:Unit->Shared->Prop}(I:Inv X pins σ H s)(hN:X.N.Nodup)(hi:X.N[i]?=some x)(hx:Loc X.env.scope x)(r:RelV v u)(h:∀s',Inv X pins (σ.set i (some v)) H s'->Q () s')(hf:X.fn x=true\/X.env.scope.names.lookup x=some .local:=by first|exact .inl rfl|exact .inr rfl|assumption):wpAny M A (storeName X.env x u) Q E s:=
 N8 I hN hi hx r (fun s' I' _=>h s' I') hf
end
abbrev XK:=Value->Option Addr->Hp->Prop
abbrev St:=List (Option V)
abbrev VK:=V->Hp->Prop
abbrev TE:=St->Hp->VK->Prop
abbrev TT:=St->Hp->(Bool->Hp->Prop)->Prop
abbrev TA:=St->Hp->(List V->Hp->Prop)->Prop
structure Ends where
 nx:St->Hp->Prop
 rt:VK
 bk:St->Hp->Prop:=fun _ _=>False
 ct:St->Hp->Prop:=fun _ _=>False
abbrev TS:=Ends->St->Hp->Prop
def EP(X:Cx)(pins:List (Addr×Obj))(σ:St)(Q:VK)(u:Value)(s':Shared):Prop:=∃v H',Inv X pins σ H' s'/\RelV v u/\Q v H'
def TP(X:Cx)(pins:List (Addr×Obj))(σ:St)(Q:Bool->Hp->Prop)(b:Bool)(s':Shared):Prop:=∃H',Inv X pins σ H' s'/\Q b H'
def AP(X:Cx)(pins:List (Addr×Obj))(σ:St)(Q:List V->Hp->Prop)(us:List Value)(s':Shared):Prop:=∃vs H',Inv X pins σ H' s'/\Vals vs us/\Q vs H'
def SP(X:Cx)(pins:List (Addr×Obj))(D:Ends)(f:Flow)(s':Shared):Prop:=
 match f with
 | .next=>∃σ' H',Inv X pins σ' H' s'/\D.nx σ' H'
 | .brk=>∃σ' H',Inv X pins σ' H' s'/\D.bk σ' H'
 | .cont=>∃σ' H',Inv X pins σ' H' s'/\D.ct σ' H'
 | .ret u=>∃v σ' H',Inv X pins σ' H' s'/\RelV v u/\D.rt v H'
def PE(X:Cx)(e:Expr)(t:TE):Prop:=
 ∀(pins:List (Addr×Obj)) (s:Shared) (σ:St) (H:Hp) (Q:VK),Inv X pins σ H s->t σ H Q->wpAny (model X.prog X.w) X.A (eval e X.env) (EP X pins σ Q) X.xe s
def PT(X:Cx)(e:Expr)(t:TT):Prop:=
 ∀(pins:List (Addr×Obj)) (s:Shared) (σ:St) (H:Hp) (Q:Bool->Hp->Prop),Inv X pins σ H s->t σ H Q->wpAny (model X.prog X.w) X.A (isTrue e X.env (eval e X.env)) (TP X pins σ Q) X.xe s
def PW(X:Cx)(e:Expr)(t:TT):Prop:=
 ∀(whole:Sem Value) (pins:List (Addr×Obj)) (s:Shared) (σ:St) (H:Hp) (Q:Bool->Hp->Prop),Inv X pins σ H s->t σ H Q->wpAny (model X.prog X.w) X.A (isTrue e X.env whole) (TP X pins σ Q) X.xe s
def PW.pt {X:Cx}{e:Expr}{t:TT} (h:PW X e t):PT X e t:=h _
def PA(X:Cx)(es:List Expr)(t:TA):Prop:=
 ∀(pos:Pos) (pins:List (Addr×Obj)) (s:Shared) (σ:St) (H:Hp) (Q:List V->Hp->Prop),Inv X pins σ H s->t σ H Q->wpAny (model X.prog X.w) X.A (spliced (backTo pos (starEach es X.env))) (AP X pins σ Q) X.xe s
def PS(X:Cx)(st:Stmt)(t:TS):Prop:=
 ∀(pins:List (Addr×Obj)) (s:Shared) (σ:St) (H:Hp) (D:Ends),Inv X pins σ H s->t D σ H->wpAny (model X.prog X.w) X.A (exec st X.env) (SP X pins D) X.xe s
def PSs(X:Cx)(st:List Stmt)(t:TS):Prop:=
 ∀(pins:List (Addr×Obj)) (s:Shared) (σ:St) (H:Hp) (D:Ends),Inv X pins σ H s->t D σ H->wpAny (model X.prog X.w) X.A (execs st X.env) (SP X pins D) X.xe s
def thn{α:Type}{t:Sem α}{Q Q':α->Shared->Prop}{M:Model}{A:Around}{E:Value->Shared->Prop}{s:Shared}(h:wpAny M A t Q E s)(hQ:∀a s,Q a s->Q' a s):wpAny M A t Q' E s:=ZV h hQ fun _ _ x=>x
section
variable {X:Cx}
def bin{a b:Expr}{ta tb:TE}(ha:PE X a ta)(hb:PE X b tb){pins:List (Addr×Obj)}{s:Shared}{σ:St}{H:Hp}{R:V->V->Hp->Prop}(I:Inv X pins σ H s)(h:ta σ H fun x H1=>tb σ H1 fun y H2=>R x y H2){α:Type}{Q:α->Shared->Prop}{f:Value->Value->Sem α}(hf:∀v u s2 x y H2,Inv X pins σ H2 s2->RelV x v->RelV y u->R x y H2->wpAny (model X.prog X.w) X.A (f v u) Q X.xe s2) :
  wpAny (model X.prog X.w) X.A (eval a X.env) (fun v s₁=>wpAny (model X.prog X.w) X.A (eval b X.env) (fun u s₂=>wpAny (model X.prog X.w) X.A (f v u) Q X.xe s₂) X.xe s₁) X.xe s:=by
 refine thn (ha pins s σ H _ I h) fun v s1 ⟨x,H1,I1,r1,q1⟩=>?_;refine thn (hb pins s1 σ H1 _ I1 q1) fun u s2 ⟨y,H2,I2,r2,q2⟩=>?_;exact hf v u s2 x y H2 I2 r1 r2 q2
def tVar(i:Nat):TE:=fun σ H Q=>∃v,σ[i]?=some (some v)/\Q v H
def tC(v:V):TE:=fun _ H Q=>Q v H
def Sd{i:Nat}{x:Str}{pos:Pos}(hN:X.N[i]?=some x)(hv:Vis X.env.scope x)(hd:(x==("__debug__" : Str))=false:=by decide)(hcd:(x==("__classdict__" : Str))=false:=by decide):PE X (.Name x pos) (tVar i):=by
 intro pins s σ H Q I h;obtain⟨v,e,h⟩:=h;obtain⟨m,hn,hl⟩:=I.loc;obtain⟨u,r,l⟩:=hl i x v hN e hv;have fin:EP X pins σ Q u s:=⟨v,H,I,r,h⟩;rcases l with⟨hk,hm⟩|⟨hk,c,hc,hcell⟩
 ·exact wpAny_Name (wpAny_loadName_local I.ok.kind hk hn hm fin) hd
 ·rcases hk with hk|hk
  ·exact wpAny_Name (wpAny_loadName_cell I.ok.kind hk hc hcell fin) hd
  ·exact wpAny_Name (wpAny_loadName_free I.ok.kind hk hc hcell fin hcd) hd
def Wp{i j pos}:PE X (.Constant (.int i) j pos) (tC (.int i)):=fun _ _ _ H _ I h=>wpAny_Constant_int ⟨.int i,H,I.tok _,⟨_,rfl⟩,h⟩
def WS{b j pos}:PE X (.Constant (.bool b) j pos) (tC (.bl b)):=fun _ _ _ H _ I h=>Constant_bool ⟨.bl b,H,I,rfl,h⟩
def J4{j pos}:PE X (.Constant .none j pos) (tC .non):=fun _ _ _ H _ I h=>Constant_none ⟨.non,H,I,rfl,h⟩
def Gl(X:Cx)(x:Str):Prop:=X.env.kindOf x=some .globalImplicit
def JO{E:Value->Shared->Prop}{pins:List (Addr×Obj)}{s:Shared}{σ:St}{H:Hp}{x:Str}{u:Value}{pos:Pos}{Q:Value->Shared->Prop}(I:Inv X pins σ H s)(hg:Gl X x)(hm:X.mg x=some u)(h:Q u s)(hd:(x==("__debug__" : Str))=false:=by decide):wpAny (model X.prog X.w) X.A (eval (.Name x pos) X.env) Q E s:=
 Calls.Name_function_global I.ok.kind hg (Calls.loadGlobal_global (by rw[I.ok.glob];exact I.mod.glob.keeps I.bk) hm h) hd
def Va{E:Value->Shared->Prop}{pins:List (Addr×Obj)}{s:Shared}{σ:St}{H:Hp}{x:Str}{u:Value}{pos:Pos}{Q:Value->Shared->Prop}(I:Inv X pins σ H s)(hg:Gl X x)(hm:X.mg x=none)(hv:bootBuiltins x=some u)(h:Q u s)(hn:x≠"__name__":=by decide)(hd:(x==("__debug__" : Str))=false:=by decide):wpAny (model X.prog X.w) X.A (eval (.Name x pos) X.env) Q E s:=by
 obtain⟨mb,h1,h2⟩:=I.mod.blt;exact Calls.Name_function_global I.ok.kind hg (Calls.loadGlobal_builtin (by rw[I.ok.glob];exact I.mod.glob.keeps I.bk) hm (by rw[I.ok.blt];exact h1.keeps I.bk) ((h2 x hn).trans hv) h) hd
def NW{x:Str}{v:V}{u:Value}{pos:Pos}(hg:Gl X x)(hm:X.mg x=some u)(r:RelV v u)(hd:(x==("__debug__" : Str))=false:=by decide):PE X (.Name x pos) (tC v):=
 fun _ _ _ H _ I h=>JO I hg hm ⟨v,H,I,r,h⟩ hd
def Q3{x:Str}{v:V}{u:Value}{pos:Pos}(hg:Gl X x)(hm:X.mg x=none)(hv:bootBuiltins x=some u)(r:RelV v u)(hn:x≠"__name__":=by decide)(hd:(x==("__debug__" : Str))=false:=by decide):PE X (.Name x pos) (tC v):=
 fun _ _ _ H _ I h=>Va I hg hm hv ⟨v,H,I,r,h⟩ hn hd
variable {a b:Expr}{ta tb:TE}{pos:Pos}
def PC(X:Cx)(op:CmpOp)(a b:Expr)(t:TE):Prop:=
 ∀(pins:List (Addr×Obj)) (s:Shared) (σ:St) (H:Hp) (Q:VK),Inv X pins σ H s->t σ H Q->
  wpAny (model X.prog X.w) X.A (eval a X.env) (fun v s₁=>wpAny (model X.prog X.w) X.A (eval b X.env) (fun u s₂=>wpAny (model X.prog X.w) X.A (compareOp op v u) (EP X pins σ Q) X.xe s₂) X.xe s₁) X.xe s
def TZ(b:Expr){op:CmpOp}(h:op≠.In)(h2:op≠.NotIn):behindInMarks op b=false:=by
 have e1:(op==CmpOp.In)=false:=by cases op<;>first|rfl|exact absurd rfl h
 have e2:(op==CmpOp.NotIn)=false:=by cases op<;>first|rfl|exact absurd rfl h2
 cases b<;>simp[behindInMarks,e1,e2]
def tIsN(ta:TE):TE:=fun σ H Q=>ta σ H fun x H1=>Q (.bl (decide (x=.non))) H1
def RelV.none_iff {x:V}{v:Value} (r:RelV x v):(v==Value.none)=decide (x=.non):=by
 cases x with
 |non=>cases r;rfl
 |bl _=>cases r;rfl
 |int _=>obtain⟨t,rfl⟩:=r;rfl
 |str _=>obtain⟨t,rfl⟩:=r;rfl
 |byt _=>obtain⟨t,rfl⟩:=r;rfl
 |flt _=>obtain⟨t,rfl⟩:=r;rfl
 |ref _=>cases r;rfl
 |ty _=>cases r;rfl
def ND{j pos'}(ha:PE X a ta):PC X .Is a (.Constant .none j pos') (tIsN ta):=by
 intro pins s σ H Q I h;refine thn (ha pins s σ H _ I h) fun v s1 ⟨x,H1,I1,r1,q1⟩=>?_;exact Constant_none (is_none_gen ⟨.bl _,H1,I1,by rw[r1.none_iff];rfl,q1⟩)
def tB(t:TE):TT:=fun σ H Q=>t σ H fun x H1=>∃c,x=.bl c/\Q c H1
def XD{op:CmpOp}{t:TE}(h:PC X op a b t)(h1:behindInMarks op b=false:=by first|exact TZ _ (by decide) (by decide)|rfl):PT X (.Compare a [op] [b] pos) (tB t):=by
 intro pins s σ H Q I hw;refine wpAny_isTrue_Compare1 (thn (h pins s σ H _ I hw) fun v s1 h1=>thn h1 fun u s2 h2=>thn h2 fun c s3 ⟨x,H1,I1,r1,q1⟩=>?_) h1;obtain⟨d,rfl,q⟩:=q1;cases r1
 exact Yy ⟨H1,I1,q⟩
variable {tA tB':TT}{rest:List Expr}
def tAnd(t u:TT):TT:=fun σ H Q=>t σ H fun c H1=>if c=true then u σ H1 Q else Q false H1
def tOr(t u:TT):TT:=fun σ H Q=>t σ H fun c H1=>if c=true then Q true H1 else u σ H1 Q
def tNot(t:TT):TT:=fun σ H Q=>t σ H fun c H1=>Q (!c) H1
def Nt(ha:PT X a tA):PW X (.BoolOp .And [a] pos) tA:=by
 intro wh pins s σ H Q I h;refine isTrue_and (thn (ha pins s σ H Q I h) fun c s1 e=>?_);cases c with
 |true=>exact isTrue_and_nil e
 |false=>exact e
def Q2(ha:PT X a tA):PW X (.BoolOp .Or [a] pos) tA:=by
 intro wh pins s σ H Q I h;refine isTrue_or (thn (ha pins s σ H Q I h) fun c s1 e=>?_);cases c with
 |false=>exact isTrue_or_nil e
 |true=>exact e
def SG(ha:PT X a tA)(hb:PW X (.BoolOp .And (b::rest) pos) tB'):PW X (.BoolOp .And (a::b::rest) pos) (tAnd tA tB'):=by
 intro wh pins s σ H Q I h;refine isTrue_and (thn (ha pins s σ H _ I h) fun c s1 ⟨H1,I1,q1⟩=>?_);cases c with
 |true=>exact hb wh pins s1 σ H1 Q I1 q1
 |false=>exact⟨H1,I1,q1⟩
def Qj(ha:PT X a tA)(hb:PW X (.BoolOp .Or (b::rest) pos) tB'):PW X (.BoolOp .Or (a::b::rest) pos) (tOr tA tB'):=by
 intro wh pins s σ H Q I h;refine isTrue_or (thn (ha pins s σ H _ I h) fun c s1 ⟨H1,I1,q1⟩=>?_);cases c with
 |true=>exact⟨H1,I1,q1⟩
 |false=>exact hb wh pins s1 σ H1 Q I1 q1
def WZ(ha:PT X a tA):PT X (.UnaryOp .Not a pos) (tNot tA):=by
 intro pins s σ H Q I h;exact isTrue_not (ha pins s σ H (fun c H1=>Q (!c) H1) I h)
def JQ(ta tb:TE):TE:=fun σ H Q=>ta σ H fun x H1=>∃c,x=.bl c/\if c=true then tb σ H1 Q else Q (.bl false) H1
def Xx(ta:TE):TE:=fun σ H Q=>ta σ H fun x H1=>∃c,x=.bl c/\Q (.bl (!c)) H1
def TC{op}{t:TE}(h:PE X a t):PE X (.BoolOp op [a] pos) t:=fun pins s σ H Q I hw=>BoolOp_one (h pins s σ H Q I hw)
def T8(ha:PE X a ta)(hb:PE X (.BoolOp .And (b::rest) pos) tb):PE X (.BoolOp .And (a::b::rest) pos) (JQ ta tb):=by
 intro pins s σ H Q I h;refine BoolOp_and (thn (ha pins s σ H _ I h) fun v s1 ⟨x,H1,I1,r1,q1⟩=>?_);obtain⟨c,rfl,q1⟩:=q1;cases r1
 refine Yy ?_;cases c with
 |true=>exact hb pins s1 σ H1 Q I1 q1
 |false=>exact⟨.bl false,H1,I1,rfl,q1⟩
def Td(ha:PE X a ta):PE X (.UnaryOp .Not a pos) (Xx ta):=by
 intro pins s σ H Q I h;refine UnaryOp_ (thn (ha pins s σ H _ I h) fun v s1 ⟨x,H1,I1,r1,q1⟩=>?_);obtain⟨c,rfl,q1⟩:=q1;cases r1
 exact not_of (Yy ⟨.bl (!c),H1,I1,rfl,q1⟩)
end
def SqL(K:Za)(H:Hp)(a:Addr)(xs:List V):Prop:=
 Rd H a (.lst xs)\/
  ∃(o:Obj) (its:Array Value) (n:Nat),K.lookup a=some o/\o.cls=.type "list"/\o.dict=none/\o.data=.seq its n/\its.size<=sizeLine/\Vals xs its.toList
def SqT(K:Za)(H:Hp)(a:Addr)(xs:List V):Prop:=
 Rd H a (.tup xs)\/
  ∃(o:Obj) (its:Array Value) (n:Nat),K.lookup a=some o/\o.cls=.type "tuple"/\o.data=.seq its n/\its.size<=sizeLine/\Vals xs its.toList
def absV:Value->Option V
 | .none=>some .non
 | .bool b=>some (.bl b)
 | .int i _=>some (.int i)
 | .str x _=>some (.str x)
 | .bytes b _=>some (.byt b)
 | .float b _=>some (.flt b)
 | .ref a=>some (.ref a)
 | .type n=>some (.ty n)
 |_=>none
def RelV.abs {x:V}{u:Value} (r:RelV x u):absV u=some x:=by
 cases x with
 |non=>cases r;rfl
 |bl _=>cases r;rfl
 |int _=>obtain⟨t,rfl⟩:=r;rfl
 |str _=>obtain⟨t,rfl⟩:=r;rfl
 |byt _=>obtain⟨t,rfl⟩:=r;rfl
 |flt _=>obtain⟨t,rfl⟩:=r;rfl
 |ref _=>cases r;rfl
 |ty _=>cases r;rfl
def RelV.inj {x y:V}{u:Value} (r:RelV x u) (q:RelV y u):x=y:=Z0 (r.abs.symm.trans q.abs)
def Vals.inj:∀{xs ys:List V}{us:List Value},Vals xs us->Vals ys us->xs=ys
 |_,_,_,.nil,.nil=>rfl
 |_,_,_,.cons r t,.cons r' t'=>by rw[r.inj r',Vals.inj t t']
section
variable {X:Cx}{pins:List (Addr×Obj)}{σ:St}{H:Hp}{s:Shared}{a:Addr}{xs ys:List V}
def SqL.of {K:Za} (h:H a=some (.lst xs)):SqL K H a xs:=.inl (.inl h)
def SqT.of {K:Za} (h:H a=some (.tup xs)):SqT K H a xs:=.inl (.inl h)
def Inv.list (I:Inv X pins σ H s) (h:SqL X.K H a xs):∃its:List Value,Vals xs its/\PlainL s.heap a its.toArray/\xs.length<=sizeLine:=by
 rcases h with h|⟨o,its,n,hk,hc,hd,hs,hz,r⟩
 ·obtain⟨z,its,n,r,e⟩:=h.ok I.hok;exact⟨its,r,⟨_,n,e,rfl,rfl,rfl⟩,z⟩
 ·refine⟨its.toList,r,⟨o,n,I.kIn a o hk,hc,hd,by simpa using hs⟩,?_⟩;have e:=r.length;simp only[Yn]at e;omega
def Inv.tuple (I:Inv X pins σ H s) (h:SqT X.K H a xs):∃its:List Value,Vals xs its/\IsTup s.heap a its.toArray/\xs.length<=sizeLine:=by
 rcases h with h|⟨o,its,n,hk,hc,hs,hz,r⟩
 ·obtain⟨z,its,r,p⟩:=h.ok I.hok;exact⟨its,r,p,z⟩
 ·refine⟨its.toList,r,⟨o,I.kIn a o hk,hc,n,by simpa using hs⟩,?_⟩;have e:=r.length;simp only[Yn]at e;omega
def Inv.list_inj (I:Inv X pins σ H s) (h:SqL X.K H a xs) (h':SqL X.K H a ys):xs=ys:=by
 obtain⟨its,r,⟨o,n,e,_,_,d⟩,_⟩:=I.list h;obtain⟨its',r',⟨o',n',e',_,_,d'⟩,_⟩:=I.list h';rw[e]at e';cases e';rw[d]at d';injection d' with d1 _
 have:its=its':=by simpa using ZT Array.toList d1
 subst this;exact r.inj r'
def Inv.tuple_inj (I:Inv X pins σ H s) (h:SqT X.K H a xs) (h':SqT X.K H a ys):xs=ys:=by
 obtain⟨its,r,⟨o,e,_,n,d⟩,_⟩:=I.tuple h;obtain⟨its',r',⟨o',e',_,n',d'⟩,_⟩:=I.tuple h';rw[e]at e';cases e';rw[d]at d';injection d' with d1 _
 have:its=its':=by simpa using ZT Array.toList d1
 subst this;exact r.inj r'
end
abbrev Cx.wish (X:Cx) (E:Value->Shared->Prop):Cx:={X with xe:=E}
abbrev Cx.nox (X:Cx):Cx:=X.wish fun _ _=>False
def Cx.Ok.wish {X:Cx} (ok:X.Ok) (E:Value->Shared->Prop):(X.wish E).Ok:=
 ⟨ok.mod,ok.kind,ok.glob,ok.blt,ok.above,ok.inj,ok.has,ok.cab,ok.hd,ok.frames,ok.stk,ok.exf,ok.bs,ok.bsz,ok.noex,ok.exfs,ok.funs,ok.frf⟩
def Cx.Ok.unwish {X:Cx}{E:Value->Shared->Prop} (ok:(X.wish E).Ok):X.Ok:=
 ⟨ok.mod,ok.kind,ok.glob,ok.blt,ok.above,ok.inj,ok.has,ok.cab,ok.hd,ok.frames,ok.stk,ok.exf,ok.bs,ok.bsz,ok.noex,ok.exfs,ok.funs,ok.frf⟩
section
variable {X:Cx}{pins:List (Addr×Obj)}{σ:St}{H:Hp}{s:Shared}{E:Value->Shared->Prop}
def Inv.wish (I:Inv X pins σ H s) (E:Value->Shared->Prop):Inv (X.wish E) pins σ H s:=⟨I.ok.wish E,I.os,I.bare,I.base,I.loc,I.cell,I.free,I.freeC,I.pin,I.hok,I.len⟩
def Inv.unwish (I:Inv (X.wish E) pins σ H s):Inv X pins σ H s:=⟨I.ok.unwish,I.os,I.bare,I.base,I.loc,I.cell,I.free,I.freeC,I.pin,I.hok,I.len⟩
def SP.unwish {D:Ends}{f:Flow}{s':Shared} (h:SP (X.wish E) pins D f s'):SP X pins D f s':=by
 cases f with
 |next=>obtain⟨σ',H',I,q⟩:=h;exact⟨σ',H',I.unwish,q⟩
 |brk=>obtain⟨σ',H',I,q⟩:=h;exact⟨σ',H',I.unwish,q⟩
 |cont=>obtain⟨σ',H',I,q⟩:=h;exact⟨σ',H',I.unwish,q⟩
 |ret u=>obtain⟨v,σ',H',I,r,q⟩:=h;exact⟨v,σ',H',I.unwish,r,q⟩
def PSs.nox {st:List Stmt}{t:TS} (h:PSs X.nox st t):PSs X st t:=fun pins s σ H D I hw=>
 ZV (h pins s σ H D (I.wish _) hw) (fun _ _ q=>q.unwish) fun _ _ z=>False.elim z
end
section
variable {X:Cx}{st:Stmt}{rest:List Stmt}{t u:TS}{e:Expr}{te:TE}{pos:Pos}
def JM:TS:=fun D σ H=>D.nx σ H
def tSeq(t u:TS):TS:=fun D σ H=>t {D with nx:=u D} σ H
def WB:PSs X [] JM:=fun _ _ σ H _ I h=>wpAny_execs_nil ⟨σ,H,I,h⟩
def Wu(h1:PS X st t)(h2:PSs X rest u):PSs X (st::rest) (tSeq t u):=by
 intro pins s σ H D I h;refine wpAny_execs_cons (thn (h1 pins s σ H {D with nx:=u D} I h) fun f s1 q=>?_)
 cases f with
 |next=>
  obtain⟨σ',H',I',q⟩:=q;exact h2 pins s1 σ' H' D I' q
 |ret v=>exact q
 |brk=>exact q
 |cont=>exact q
def Wr(h1:PS X st t):PSs X [st] t:=by
 intro pins s σ H D I h;refine wpAny_execs_cons (thn (h1 pins s σ H D I h) fun f s1 q=>?_);cases f with
 |next=>exact wpAny_execs_nil q
 |ret v=>exact q
 |brk=>exact q
 |cont=>exact q
def Inv.quiet {pins:List (Addr×Obj)}{σ:St}{H:Hp}{s:Shared} (I:Inv X pins σ H s):interactive X.env=false:=by simp[interactive,I.ok.kind]
def VV(te:TE):TS:=fun D σ H=>te σ H fun _ H1=>D.nx σ H1
def VF(he:PE X e te)(hs:swapsWith e none pos.line X.env=pure false:=by rfl):PS X (.Expr e pos) (VV te):=by
 intro pins s σ H D I h;exact wpAny_Expr_any (thn (he pins s σ H _ I h) fun v s1 ⟨x,H1,I1,r1,q1⟩=>⟨σ,H1,I1,q1⟩) I.quiet hs
def tRet(te:TE):TS:=fun D σ H=>te σ H D.rt
def Wx(he:PE X e te):PS X (.Return (some e) pos) (tRet te):=by
 intro pins s σ H D I h;exact wpAny_Return_some (thn (he pins s σ H _ I h) fun v s1 ⟨x,H1,I1,r1,q1⟩=>⟨x,σ,H1,I1,r1,q1⟩)
def tIfS(c:TT)(t u:TS):TS:=fun D σ H=>c σ H fun b H1=>if b=true then t D σ H1 else u D σ H1
def WE{c:Expr}{a b:List Stmt}{tc:TT}(hc:PT X c tc)(ha:PSs X a t)(hb:PSs X b u):PS X (.If c a b pos) (tIfS tc t u):=by
 intro pins s σ H D I h;refine wpAny_If (thn (hc pins s σ H _ I h) fun d s1 ⟨H1,I1,q1⟩=>?_);cases d with
 |true=>exact ha pins s1 σ H1 D I1 q1
 |false=>exact hb pins s1 σ H1 D I1 q1
def JI:TS:=fun _ _ _=>False
def SA:PS X st JI:=fun _ _ _ _ _ _ h=>h.elim
end
abbrev TG:=V->St->Hp->(St->Hp->Prop)->Prop
abbrev TGs:=List V->St->Hp->(St->Hp->Prop)->Prop
def PG(X:Cx)(target:Expr)(t:TG):Prop:=
 ∀(pins:List (Addr×Obj)) (s:Shared) (σ:St) (H:Hp) (v:V) (u:Value) (Q:St->Hp->Prop),Inv X pins σ H s->RelV v u->t v σ H Q->
  wpAny (model X.prog X.w) X.A (assign target X.env u) (fun _ s'=>∃σ' H',Inv X pins σ' H' s'/\Q σ' H') X.xe s
def PGs(X:Cx)(ts:List Expr)(t:TGs):Prop:=
 ∀(pins:List (Addr×Obj)) (s:Shared) (σ:St) (H:Hp) (vs:List V) (us:List Value) (Q:St->Hp->Prop),Inv X pins σ H s->Vals vs us->t vs σ H Q->
  wpAny (model X.prog X.w) X.A (assignInOrder ((assignEach ts X.env).map (·.2)) us) (fun _ s'=>∃σ' H',Inv X pins σ' H' s'/\Q σ' H') X.xe s
section
variable {X:Cx}{pos:Pos}
def QH(i:Nat):TG:=fun v σ H Q=>Q (σ.set i (some v)) H
def NG{i:Nat}{x:Str}(hN:X.N.Nodup)(hi:X.N[i]?=some x)(hx:Loc X.env.scope x)(hf:X.fn x=true\/X.env.scope.names.lookup x=some .local:=by first|exact .inl rfl|exact .inr rfl|assumption):PG X (.Name x pos) (QH i):=by
 intro pins s σ H v u Q I r h;exact wpAny_assign_Name (VC I hN hi hx r (fun s' I'=>⟨_,H,I',h⟩) hf)
def gNil:TGs:=fun vs σ H Q=>vs=[]/\Q σ H
def Xr(t:TG)(u:TGs):TGs:=fun vs σ H Q=>∃v r,vs=v::r/\t v σ H fun σ' H'=>u r σ' H' Q
def UX:PGs X [] gNil:=by
 intro pins s σ H vs us Q I r h;obtain⟨e,h⟩:=h;subst e;cases r
 exact assignInOrder_nil ⟨σ,H,I,h⟩
def Vt{e:Expr}{es:List Expr}{t:TG}{u:TGs}(h1:PG X e t)(h2:PGs X es u)(hs:(assignEach (e::es) X.env).map (·.2)=assign e X.env::(assignEach es X.env).map (·.2):=by rfl):PGs X (e::es) (Xr t u):=by
 intro pins s σ H vs us Q I r h;obtain⟨v,vr,e1,h⟩:=h;subst e1;cases r with
 |cons r rr=>
  rw[hs];refine assignInOrder_cons (thn (h1 pins s σ H _ _ _ I r h) fun _ s1 ⟨σ1,H1,I1,q1⟩=>?_);exact h2 pins s1 σ1 H1 _ _ Q I1 rr q1
def gTup(K:Za)(n:Nat)(t:TGs):TG:=fun v σ H Q=>∃a xs,v=.ref a/\SqT K H a xs/\xs.length=n/\t xs σ H Q
def T3{es:List Expr}{k:Nat}{t:TGs}{n:Nat}(hc:X.calm=true)(h:PGs X es t)(hn:(assignEach es X.env).length=n:=by rfl)(hst:(assignEach es X.env).findIdx? (·.1)=none:=by rfl):PG X (.Tuple es k pos) (gTup X.K n t):=by
 intro pins s σ H v u Q I r hw;obtain⟨a,xs,e1,hq,hl,hw⟩:=hw;subst e1;cases r
 obtain⟨its,rv,ht,hz⟩:=I.tuple hq;refine assign_Tuple_tuple (I.ok.hd hc) ht (by simp[hn,←hl,rv.length]) hst fun h' hx=>?_;have I1:Inv X pins σ H {s with heap:=h'}:=I.kept (t':=s.toks) fun b o e=>hx b o (ZI (Z1 e)) e
 exact h pins _ σ H xs _ Q I1 (by simpa using rv) hw
def tAsg(te:TE)(g:TG):TS:=fun D σ H=>te σ H fun x H1=>g x σ H1 D.nx
def PZ{i:Nat}{x:Str}{e:Expr}{te:TE}{pos':Pos}(hN:X.N.Nodup)(hi:X.N[i]?=some x)(hx:Loc X.env.scope x)(he:PE X e te)(hs:swapsWith e (some (.Name x pos')) pos.line X.env=pure false:=by rfl)(hf:X.fn x=true\/X.env.scope.names.lookup x=some .local:=by first|exact .inl rfl|exact .inr rfl|assumption) :
  PS X (.Assign [.Name x pos'] e pos) (tAsg te (QH i)):=by
 intro pins s σ H D I h;refine wpAny_Assign_Name (thn (he pins s σ H _ I h) fun v s1 ⟨y,H1,I1,r1,q1⟩=>?_) hs;exact VC I1 hN hi hx r1 (fun s2 I2=>⟨_,H1,I2,q1⟩) hf
end
structure It where
 go:Nat->Hp->Prop
 yld:Nat->Hp->V->Hp->Prop
 stop:Nat->Hp->Prop
def FpOk(X:Cx)(pins:List (Addr×Obj))(H:Hp)(b:Addr):Prop:=
 H b=none/\b≠X.env.locals/\b∉X.fs/\(b∈X.ex\/X.s₀.heap.objs.size<=b)/\(∀x c,X.env.cells.lookup x=some c->c≠b)/\∀p∈X.pn++pins,p.1≠b
def Inv.fpOk {X:Cx}{pins:List (Addr×Obj)}{σ:St}{H H':Hp}{s:Shared}{b:Addr} (I:Inv X pins σ H s) (hb:s.heap.objs.size<=b) (hn:H' b=none):FpOk X pins H' b:=by
 refine⟨hn,Y9 (ZC I.lt hb),I.nofs hb,.inr (ZA I.sz hb),fun x c e z=>?_,fun p hp z=>?_⟩
 ·obtain⟨v,q⟩:=I.cell x c e;exact absurd (ZC q.lt (by rw[z];exact hb)) (Yh _)
 ·exact absurd (ZC (Z1 (I.pin p hp).1) (by rw[z];exact hb)) (Yh _)
structure Turn (P:Program) (w:World) (K:Za) (tg:Expr) (J:It) (fp:List Addr) (it:Addr) (tn:Nat->Heap->Prop):Prop where
 mem:it∈fp
 obj:∀i h,tn i h->∀b∈fp,∃o,h.get? b=some o/\∀v,o.data≠.cell v
 keep:∀i h h',tn i h->(∀b∈fp,∀o,h.get? b=some o->h'.get? b=some o)->tn i h'
 item:∀(X:Cx),X.prog=P->X.w=w->X.K=K->X.calm=true->∀(i:Nat) (pins:List (Addr×Obj)) (s:Shared) (σ:St) (H:Hp) (E:Value->Shared->Prop),Inv X pins σ H s->(∀b∈fp,FpOk X pins H b)->tn i s.heap->J.go i H->
  wpAny (model P w) X.A (pyNext (.ref it)) (fun r s1=>∃u,r=some u/\
   wpAny (model P w) X.A (letOwnedTupleGo tg (.ref it) u) (fun _ s2=>∃x H',Inv X pins σ H' s2/\RelV x u/\J.yld i H x H'/\tn (i+1) s2.heap/\∀b∈fp,H' b=none) E s1) E s
 done:∀(X:Cx),X.prog=P->X.w=w->X.K=K->X.calm=true->∀(i:Nat) (pins:List (Addr×Obj)) (s:Shared) (σ:St) (H:Hp) (E:Value->Shared->Prop),Inv X pins σ H s->(∀b∈fp,FpOk X pins H b)->tn i s.heap->J.stop i H->
  wpAny (model P w) X.A (pyNext (.ref it)) (fun r s1=>r=none/\Inv X pins σ H s1) E s
 self:∀(A:Around) (i:Nat) (s:Shared) (Q:Value->Shared->Prop) (E:Value->Shared->Prop),tn i s.heap->Q (.ref it) s->wpAny (model P w) A (pyIter (.ref it)) Q E s
abbrev TI:=St->Hp->(It->Hp->Prop)->Prop
def PIE(X:Cx)(pins:List (Addr×Obj))(σ:St)(tg:Expr)(R:It->Hp->Prop)(itv:Value)(s2:Shared):Prop:=
 ∃(it:Addr) (fp:List Addr) (tn:Nat->Heap->Prop) (J:It) (H':Hp),itv=.ref it/\Inv X pins σ H' s2/\Turn X.prog X.w X.K tg J fp it tn/\tn 0 s2.heap/\(∀b∈fp,FpOk X pins H' b)/\R J H'
def PI(X:Cx)(tg iter:Expr)(wi:TI):Prop:=
 ∀(pins:List (Addr×Obj)) (s:Shared) (σ:St) (H:Hp) (R:It->Hp->Prop),Inv X pins σ H s->wi σ H R->
  wpAny (model X.prog X.w) X.A (eval iter X.env) (fun v s1=>wpAny (model X.prog X.w) X.A (pyIter v) (PIE X pins σ tg R) X.xe s1) X.xe s
def Jw {M : Model} {A : Around} {E : Value → Shared → Prop} {s : Shared} {tg : Expr} {it : Addr} {u : Value} {o : Obj} {n : String} {vs : Array Value} {Q : Unit → Shared → Prop} (ho : s.heap.get? it = some o) (hc : o.cls = .type n) (hd : o.data = .fields vs)
    (hn : ["enumerate", "zip", "dict_itemiterator", "dict_reverseitemiterator", "odict_iterator", "itertools.zip_longest", "itertools.pairwise"].contains n = false) (hQ : Q () s) : wpAny M A (letOwnedTupleGo tg (.ref it) u) Q E s := by
  unfold letOwnedTupleGo
  cases tg <;> first
    | exact Zv hQ
    | (cases u <;> first
        | exact Zv hQ
        | (refine Zs (wpAny_load ho ?_)
           rw [hc, hd]
           show wpAny M A (if (["enumerate", "zip", "dict_itemiterator", "dict_reverseitemiterator", "odict_iterator", "itertools.zip_longest", "itertools.pairwise"].contains n && vs[0]? == some (rawInt _)) = true then _ else _) Q E s
           rw [Z6 (by intro h; rw [hn, Bool.false_and] at h; cases h)]
           exact Zv hQ))
def Itl(K:Za)(a:Addr):It:=
 ⟨fun i H=>∃xs x,SqL K H a xs/\xs[i]?=some x,fun i H x H'=>H'=H/\∀xs,SqL K H a xs->xs[i]?=some x,fun i H=>∃xs,SqL K H a xs/\xs.length<=i⟩
def Itt(K:Za)(a:Addr):It:=
 ⟨fun i H=>∃xs x,SqT K H a xs/\xs[i]?=some x,fun i H x H'=>H'=H/\∀xs,SqT K H a xs->xs[i]?=some x,fun i H=>∃xs,SqT K H a xs/\xs.length<=i⟩
def Itr(lo:Int)(n:Nat):It:=⟨fun i _=>i<n,fun i H x H'=>H'=H/\x=.int (lo+i),fun i _=>n<=i⟩
def Tv{P:Program}{w:World}{K:Za}{tg:Expr}(a it:Addr):Turn P w K tg (Itl K a) [it] it (fun i h=>h.IsListIter it a i) where
 mem:=by simp
 obj:=fun i h st b hb=>by
  have e:b=it:=by simpa using hb
  subst e;obtain⟨o,e,c,d⟩:=st;exact⟨o,e,fun v z=>by rw[d]at z;cases z⟩
 keep:=fun i h h' st k=>st.at fun o e=>k it (by simp) o e
 item:=by
  intro X hP hw hK hc i pins s σ H E I hf st hg;subst hP hw hK;obtain⟨xs,x,hq,hx⟩:=hg;obtain⟨its,rv,p,hz⟩:=I.list hq;obtain⟨u,hu,ru⟩:=rv.get hx;obtain⟨f0,f1,f2,f3,f4,f5⟩:=hf it (by simp);refine wpAny_pyNext_list_item st p.isList (x:=u) (by simpa using hu) fun h' st' sb=>?_;have I1:Inv X pins σ H {s with heap:=h'}:=I.turned (t':=s.toks) (fun b o hb e=>(sb.2 b hb).trans e) f0 f1 f3 f4 f5
  obtain⟨o,e,c,d⟩:=id st';exact⟨u,rfl,Jw (s:={s with heap:=h'}) e c d (by decide) ⟨x,H,I1,ru,⟨rfl,fun ys hy=>by rw[I.list_inj hy hq];exact hx⟩,st',fun b hb=>(hf b hb).1⟩⟩
 done:=by
  intro X hP hw hK hc i pins s σ H E I hf st hg;subst hP hw hK;obtain⟨xs,hq,hx⟩:=hg;obtain⟨its,rv,p,hz⟩:=I.list hq;obtain⟨f0,f1,f2,f3,f4,f5⟩:=hf it (by simp);have hl:=rv.length;exact wpAny_pyNext_list_end (I.ok.hd hc) st p.isList (by simp;omega) fun h' eb=>⟨rfl,I.turned (t':=s.toks) (fun b o hb e=>eb b o hb e) f0 f1 f3 f4 f5⟩
 self:=fun _ _ _ _ _ st h=>wpAny_pyIter_listiter st h
def P3{P:Program}{w:World}{K:Za}{tg:Expr}(a it:Addr):Turn P w K tg (Itt K a) [it] it (fun i h=>h.IsTupleIter it a i) where
 mem:=by simp
 obj:=fun i h st b hb=>by
  have e:b=it:=by simpa using hb
  subst e;obtain⟨o,e,c,d⟩:=st;exact⟨o,e,fun v z=>by rw[d]at z;cases z⟩
 keep:=fun i h h' st k=>st.at fun o e=>k it (by simp) o e
 item:=by
  intro X hP hw hK hc i pins s σ H E I hf st hg;subst hP hw hK;obtain⟨xs,x,hq,hx⟩:=hg;obtain⟨its,rv,p,hz⟩:=I.tuple hq;obtain⟨u,hu,ru⟩:=rv.get hx;obtain⟨f0,f1,f2,f3,f4,f5⟩:=hf it (by simp);refine wpAny_pyNext_tuple_item st (show s.heap.IsTuple a its.toArray from p) (x:=u) (by simpa using hu) fun h' st' sb=>?_
  have I1:Inv X pins σ H {s with heap:=h'}:=I.turned (t':=s.toks) (fun b o hb e=>(sb.2 b hb).trans e) f0 f1 f3 f4 f5
  obtain⟨o,e,c,d⟩:=id st';exact⟨u,rfl,Jw (s:={s with heap:=h'}) e c d (by decide) ⟨x,H,I1,ru,⟨rfl,fun ys hy=>by rw[I.tuple_inj hy hq];exact hx⟩,st',fun b hb=>(hf b hb).1⟩⟩
 done:=by
  intro X hP hw hK hc i pins s σ H E I hf st hg;subst hP hw hK;obtain⟨xs,hq,hx⟩:=hg;obtain⟨its,rv,p,hz⟩:=I.tuple hq;obtain⟨f0,f1,f2,f3,f4,f5⟩:=hf it (by simp);have hl:=rv.length;exact wpAny_pyNext_tuple_end (I.ok.hd hc) st (show s.heap.IsTuple a its.toArray from p) (by simp;omega) fun h' eb=>⟨rfl,I.turned (t':=s.toks) (fun b o hb e=>eb b o hb e) f0 f1 f3 f4 f5⟩
 self:=fun _ _ _ _ _ st h=>wpAny_pyIter_tupleiter st h
def Ti{P:Program}{w:World}{K:Za}{tg:Expr}(it:Addr)(lo:Int)(n:Nat):Turn P w K tg (Itr lo n) [it] it (fun i h=>IsRangeIter h it (lo+(i:Nat)*1) ((n:Int)-(i:Nat)) 1) where
 mem:=by simp
 obj:=fun i h st b hb=>by
  have e:b=it:=by simpa using hb
  subst e
  exact⟨_,st,fun v z=>by
   have z':Data.fields _=Data.cell v:=z;cases z'⟩
 keep:=fun i h h' st k=>k it (by simp) _ st
 item:=by
  intro X hP hw hK hc i pins s σ H E I hf st hg;subst hP hw hK;obtain⟨f0,f1,f2,f3,f4,f5⟩:=hf it (by simp);have W:=Walks.range (prog:=X.prog) (w:=X.w) (I.ok.hd hc) it lo 1 n;refine W.item i s _ _ hg st fun v h' tk hv st' kk=>?_;obtain⟨t,rfl⟩:=hv;have I1:Inv X pins σ H {s with heap:=h',toks:=tk}:=I.turned (fun b o hb e=>kk b o (by simpa using hb) e) f0 f1 f3 f4 f5
  refine⟨_,rfl,Jw (s:={s with heap:=h',toks:=tk}) (n:="range_iterator") st' rfl rfl (by decide) ⟨.int (lo+i),H,I1,⟨t,?_⟩,⟨rfl,rfl⟩,st',fun b hb=>(hf b hb).1⟩⟩
  rw[Int.mul_one]
 done:=by
  intro X hP hw hK hc i pins s σ H E I hf st hg;subst hP hw hK;obtain⟨f0,f1,f2,f3,f4,f5⟩:=hf it (by simp);exact wpAny_pyNext_range_end (I.ok.hd hc) st (by have:n<=i:=hg;omega) fun h' eb=>⟨rfl,I.turned (t':=s.toks) (fun b o hb e=>eb b o hb e) f0 f1 f3 f4 f5⟩
 self:=fun _ _ _ _ _ st h=>wpAny_pyIter_rangeiter st h
section
variable {X:Cx}{tg:Expr}
def Jp(K:Za)(tl:TE):TI:=fun σ H R=>tl σ H fun x H1=>∃a,x=.ref a/\(∃xs,SqL K H1 a xs)/\R (Itl K a) H1
def iTup(K:Za)(tl:TE):TI:=fun σ H R=>tl σ H fun x H1=>∃a,x=.ref a/\(∃xs,SqT K H1 a xs)/\R (Itt K a) H1
def Sk{l:Expr}{tl:TE}(hl:PE X l tl):PI X tg l (Jp X.K tl):=by
 intro pins s σ H R I h;refine thn (hl pins s σ H _ I h) fun v s1 ⟨x,H1,I1,r1,q1⟩=>?_;obtain⟨a,e,⟨xs,hq⟩,q⟩:=q1;subst e;cases r1
 obtain⟨its,rv,p,hz⟩:=I1.list hq;refine wpAny_pyIter_list p.isList ?_;refine⟨s1.heap.objs.size,[s1.heap.objs.size],_,_,H1,rfl,I1.kept (t':=s1.toks) fun b o e=>Zx _ e,Tv a _,⟨_,Z2 _ rfl,rfl,rfl⟩,fun b hb=>?_,q⟩;have e:b=s1.heap.objs.size:=by simpa using hb
 subst e;exact I1.fpOk (Z3 _) (I1.hok.fresh (Z3 _))
def Sy{l:Expr}{tl:TE}(hl:PE X l tl):PI X tg l (iTup X.K tl):=by
 intro pins s σ H R I h;refine thn (hl pins s σ H _ I h) fun v s1 ⟨x,H1,I1,r1,q1⟩=>?_;obtain⟨a,e,⟨xs,hq⟩,q⟩:=q1;subst e;cases r1
 obtain⟨its,rv,p,hz⟩:=I1.tuple hq;refine wpAny_pyIter_tuple (show s1.heap.IsTuple a its.toArray from p) ?_
 refine⟨s1.heap.objs.size,[s1.heap.objs.size],_,_,H1,rfl,I1.kept (t':=s1.toks) fun b o e=>Zx _ e,P3 a _,⟨_,Z2 _ rfl,rfl,rfl⟩,fun b hb=>?_,q⟩;have e:b=s1.heap.objs.size:=by simpa using hb
 subst e;exact I1.fpOk (Z3 _) (I1.hok.fresh (Z3 _))
def Xh{pins:List (Addr×Obj)}{σ:St}{H:Hp}{s:Shared}{R:It->Hp->Prop}{E:Value->Shared->Prop}{lo hi:Int}{t u v:Tok}{tk:Nat}(I:Inv X pins σ H s)(h1:-(2 ^ 62)<=lo)(h2:lo<2 ^ 62)(h3:-(2 ^ 62)<=hi)(h4:hi<2 ^ 62)(q:R (Itr lo (hi-lo).toNat) H):wpAny (model X.prog X.w) X.A (pyIter (.ref s.heap.objs.size)) (PIE X pins σ tg R) E {s with heap:=s.heap.push {cls:=.type "range",data:=.fields #[.int lo t,.int hi u,.int 1 v]},toks:=tk}:=by
 refine wpAny_pyIter_range (IsRange.new ..) (small_one h1 h2 h3 h4) ?_;have I1:Inv X pins σ H {s with heap:=s.heap.push {cls:=.type "range",data:=.fields #[.int lo t,.int hi u,.int 1 v]},toks:=tk}:=I.kept fun b o e=>Zx _ e
 refine⟨(s.heap.push {cls:=.type "range",data:=.fields #[.int lo t,.int hi u,.int 1 v]}).objs.size,[(s.heap.push {cls:=.type "range",data:=.fields #[.int lo t,.int hi u,.int 1 v]}).objs.size],_,_,H,rfl,
  I1.kept (t':=tk) fun b o e=>Zx _ e,Ti _ lo (hi-lo).toNat,?_,fun b hb=>?_,q⟩
 ·have e1:lo+((0:Nat):Int)*1=lo:=by simp
  have e2:(((hi-lo).toNat:Nat):Int)-((0:Nat):Int)=Builtin.Range.rangeSize lo hi 1:=by rw[rangeSize_one];split<;>omega
  show IsRangeIter _ _ (lo+((0:Nat):Int)*1) ((((hi-lo).toNat:Nat):Int)-((0:Nat):Int)) 1;rw[e1,e2];exact Z2 _ rfl
 ·have e:b=(s.heap.push {cls:=.type "range",data:=.fields #[.int lo t,.int hi u,.int 1 v]}).objs.size:=by simpa using hb
  subst e;exact I1.fpOk (Z3 _) (I1.hok.fresh (Z3 _))
def U3(ta:TA):TI:=fun σ H R=>ta σ H fun vs H1=>∃j:Int,vs=[.int j]/\-(2 ^ 62)<=j/\j<2 ^ 62/\R (Itr 0 j.toNat) H1
def Ki(ta:TA):TI:=fun σ H R=>ta σ H fun vs H1=>∃i j:Int,vs=[.int i,.int j]/\(-(2 ^ 62)<=i/\i<2 ^ 62/\-(2 ^ 62)<=j/\j<2 ^ 62)/\R (Itr i (j-i).toNat) H1
def Qw{a:Expr}{ta:TA}{p pos:Pos}(hg:Gl X "range")(hm:X.mg "range"=none)(ha:PA X [a] ta)(hs:starEach [a] X.env=[(false,eval a X.env)]:=by rfl):PI X tg (.Call (.Name "range" p) [a] [] pos) (U3 ta):=by
 intro pins s σ H R I h;refine Call_ (Va I hg hm boot_range (Yz (thn (ha pos pins s σ H _ I h) fun us s1 ⟨vs,H1,I1,r1,q1⟩=>?_) hs rfl));obtain⟨j,e,q1,q2,q⟩:=q1;subst e;cases r1 with
 |cons r rr=>
  cases rr
  obtain⟨t,rfl⟩:=r;exact call_range_1 (Xh I1 (by omega) (by omega) q1 q2 (by simpa using q))
def TM{a b:Expr}{ta:TA}{p pos:Pos}(hg:Gl X "range")(hm:X.mg "range"=none)(ha:PA X [a,b] ta)(hs:starEach [a,b] X.env=[(false,eval a X.env),(false,eval b X.env)]:=by rfl)(hs2:starEach [b] X.env=[(false,eval b X.env)]:=by rfl) :
  PI X tg (.Call (.Name "range" p) [a,b] [] pos) (Ki ta):=by
 intro pins s σ H R I h;refine Call_ (Va I hg hm boot_range (Yz (thn (ha pos pins s σ H _ I h) fun us s1 ⟨vs,H1,I1,r1,q1⟩=>?_) (by rw[hs,hs2]) (by rw[hs2];rfl)));obtain⟨i,j,e,⟨q1,q2,q3,q4⟩,q⟩:=q1;subst e;cases r1 with
 |cons r rr=>
  cases rr with
  |cons r' rr=>
   cases rr
   obtain⟨t,rfl⟩:=r;obtain⟨t',rfl⟩:=r';exact call_range_2 (Xh I1 q1 q2 q3 q4 q)
def tFor(wi:TI)(g:TG)(tb:TS):TS:=fun D σ H=>wi σ H fun J H1=>∃W:Nat->Nat->St->Hp->Prop,(∃m,W 0 m σ H1)/\∀i m σ H,W i m σ H->
 (J.stop i H/\D.nx σ H)\/(J.go i H/\∃N:St->Hp->Prop,(∀σ' H',N σ' H'->∃m',m'<m/\W (i+1) m' σ' H')/\∀x H',J.yld i H x H'->g x σ H' fun σ2 H2=>tb {D with nx:=N,ct:=N,bk:=D.nx} σ2 H2)
def Vh(fp:List Addr)(h:Heap):List (Addr×Obj):=fp.filterMap fun b=>(h.get? b).map fun o=>(b,o)
def Vj{fp:List Addr}{h:Heap}{b:Addr}{o:Obj}(hb:b∈fp)(e:h.get? b=some o):(b,o)∈Vh fp h:=YW.mpr ⟨b,hb,by rw[e];rfl⟩
def NQ{fp:List Addr}{h:Heap}{p:Addr×Obj}(hp:p∈Vh fp h):p.1∈fp/\h.get? p.1=some p.2:=by
 obtain⟨b,hb,e⟩:=YW.mp hp;cases q:h.get? b with
 |none=>rw[q]at e;cases e
 |some o=>
  rw[q]at e;have e':(b,o)=p:=Z0 e;subst e';exact⟨hb,q⟩
def Inv.pinned {pins:List (Addr×Obj)}{σ:St}{H:Hp}{s:Shared}{fp:List Addr} (I:Inv X pins σ H s) (hf:∀b∈fp,FpOk X pins H b) (ho:∀b∈fp,∃o,s.heap.get? b=some o/\∀v,o.data≠.cell v):Inv X (pins++Vh fp s.heap) σ H s:=
 I.pins_of fun p hp=>(Yr.mp hp).elim (fun z=>I.pin p (Z8 _ z)) fun z=>by
  obtain⟨hb,e⟩:=NQ z;obtain⟨f0,f1,f2,_⟩:=hf p.1 hb;obtain⟨o,e',d⟩:=ho p.1 hb;rw[e]at e';cases e';exact⟨e,f0,f1,f2,d⟩
def Inv.unpinned {pins pl:List (Addr×Obj)}{σ:St}{H:Hp}{s:Shared} (I:Inv X (pins++pl) σ H s):Inv X pins σ H s:=I.pins_of fun p hp=>I.pin p (Z8 _ (Y0 _ hp))
def Qh{iter:Expr}{body:List Stmt}{wi:TI}{g:TG}{tb:TS}{pos:Pos}(hp:PassesOwn (model X.prog X.w) X.A X.env X.xe)(hc:X.calm=true)(hi:PI X tg iter wi)(hg:PG X tg g)(hb:PSs X body tb)(hs:∀x,foldedSetIterable iter X.env x=pure x:=by intro _;rfl):PS X (.For tg iter body [] pos) (tFor wi g tb):=by
 intro pins s σ H D I h;refine wpAny_For (thn (hi pins s σ H _ I h) fun v s1 h1=>thn h1 fun itv s2 h2=>?_) hs;obtain⟨it,fp,tn,J,H2,e,I2,T,st2,f2,W,⟨m0,w0⟩,turn⟩:=h2;subst e;have stat:∀{H':Hp},(∀b∈fp,H' b=none)->∀b∈fp,FpOk X pins H' b:=fun hn b hb=>⟨hn b hb,(f2 b hb).2⟩;refine codeAny_forLoop_any (fun n s'=>∃i σ' H',Inv X pins σ' H' s'/\tn i s'.heap/\(∀b∈fp,H' b=none)/\W i n σ' H') ?_ m0 ⟨0,σ,H2,I2,st2,fun b hb=>(f2 b hb).1,w0⟩;rintro n s3 ⟨i,σ3,H3,I3,st3,fr3,w3⟩;rcases turn i n σ3 H3 w3 with⟨stop,qn⟩|⟨go,N,hN,step⟩
 ·refine Y5 hp (thn (T.done X rfl rfl rfl hc i pins s3 σ3 H3 X.xe I3 (stat fr3) st3 stop) fun r s4 ⟨hr,I4⟩=>?_);subst hr;exact wpAny_execs_nil ⟨σ3,H3,I4,qn⟩
 ·refine Y5 hp (thn (T.item X rfl rfl rfl hc i pins s3 σ3 H3 X.xe I3 (stat fr3) st3 go) fun r s4 ⟨u,hr,h4⟩=>?_);subst hr;refine Y5 hp (thn h4 fun _ s5 ⟨x,H5,I5,r5,y5,st5,fr5⟩=>?_);have I5':=I5.pinned (stat fr5) (T.obj _ _ st5);refine Y5 hp (thn (hg _ s5 σ3 H5 x u _ I5' r5 (step x H5 y5)) fun _ s6 ⟨σ6,H6,I6,q6⟩=>?_);refine Y5 hp (thn (hb _ s6 σ6 H6 _ I6 q6) fun f s7 q7=>?_)
  have again:∀{σ7:St} {H7:Hp},Inv X (pins++Vh fp s5.heap) σ7 H7 s7->N σ7 H7->∃m,m<n/\∃i σ' H',Inv X pins σ' H' s7/\tn i s7.heap/\(∀b∈fp,H' b=none)/\W i m σ' H':=fun {σ7 H7} I7 n7=>by
   obtain⟨m',hm,w7⟩:=hN σ7 H7 n7;refine⟨m',hm,i+1,σ7,H7,I7.unpinned,T.keep _ _ _ st5 fun b hb o e=>(I7.pin (b,o) (Z8 _ (Z8 _ (Vj hb e)))).1,fun b hb=>?_,w7⟩;obtain⟨o,e,d⟩:=T.obj _ _ st5 b hb;exact(I7.pin (b,o) (Z8 _ (Z8 _ (Vj hb e)))).2.1
  cases f with
  |next=>obtain⟨σ7,H7,I7,n7⟩:=q7;exact again I7 n7
  |cont=>obtain⟨σ7,H7,I7,n7⟩:=q7;exact again I7 n7
  |brk=>obtain⟨σ7,H7,I7,q7⟩:=q7;exact⟨σ7,H7,I7.unpinned,q7⟩
  |ret v=>obtain⟨x7,σ7,H7,I7,r7,q7⟩:=q7;exact⟨x7,σ7,H7,I7.unpinned,r7,q7⟩
end
abbrev R2:=V->V->Hp->VK->Prop
def OpR(X:Cx)(f:Value->Value->Sem Value)(r:R2):Prop:=
 ∀(pins:List (Addr×Obj)) (s:Shared) (σ:St) (H:Hp) (x y:V) (v u:Value) (Q:VK),Inv X pins σ H s->RelV x v->RelV y u->r x y H Q->
  wpAny (model X.prog X.w) X.A (f v u) (EP X pins σ Q) X.xe s
def WW(X:Cx)(f:Value)(r:List V->Hp->VK->Prop):Prop:=
 ∀(pins:List (Addr×Obj)) (s:Shared) (σ:St) (H:Hp) (xs:List V) (us:List Value) (Q:VK),Inv X pins σ H s->Vals xs us->r xs H Q->
  wpAny (model X.prog X.w) X.A (call f us) (EP X pins σ Q) X.xe s
def TruR(X:Cx)(r:V->Hp->(Bool->Hp->Prop)->Prop):Prop:=
 ∀(pins:List (Addr×Obj)) (s:Shared) (σ:St) (H:Hp) (x:V) (v:Value) (Q:Bool->Hp->Prop),Inv X pins σ H s->RelV x v->r x H Q->
  wpAny (model X.prog X.w) X.A (truthy v) (TP X pins σ Q) X.xe s
def tOp(r:R2)(ta tb:TE):TE:=fun σ H Q=>ta σ H fun x H1=>tb σ H1 fun y H2=>r x y H2 Q
def rI(C:Int->Int->Prop)(g:Int->Int->V):R2:=fun x y H Q=>∃i j,x=.int i/\y=.int j/\C i j/\Q (g i j) H
def rI0(g:Int->Int->V):R2:=fun x y H Q=>∃i j,x=.int i/\y=.int j/\Q (g i j) H
section
variable {X:Cx}{a b c:Expr}{ta tb tc:TE}{pos:Pos}
def binT(ha:PE X a ta)(hb:PE X b tb){pins:List (Addr×Obj)}{s:Shared}{σ:St}{H:Hp}{R:V->V->Hp->Prop}(I:Inv X pins σ H s)(h:ta σ H fun x H1=>tb σ H1 fun y H2=>R x y H2){Q:Value->Shared->Prop}{f:Value->Value->Sem Value}(hf:∀v u s2 x y H2,Inv X pins σ H2 s2->RelV x v->RelV y u->R x y H2->wpAny (model X.prog X.w) X.A (f v u) Q X.xe s2) :
  wpAny (model X.prog X.w) X.A (eval a X.env) (fun v s₁=>wpAny (model X.prog X.w) X.A (eval b X.env) (fun u s₂=>wpAny (model X.prog X.w) X.A (f v u) Q X.xe s₂) X.xe s₁) X.xe s:=by
 refine thn (ha pins s σ H _ I h) fun v s1 ⟨x,H1,I1,r1,q1⟩=>?_;refine thn (hb pins s1 σ H1 _ I1 q1) fun u s2 ⟨y,H2,I2,r2,q2⟩=>?_;exact hf v u s2 x y H2 I2 r1 r2 q2
def Wq{op:Operator}{r:R2}(ho:OpR X (binaryOp op) r)(ha:PE X a ta)(hb:PE X b tb):PE X (.BinOp a op b pos) (tOp r ta tb):=by
 intro pins s σ H Q I h;exact wpAny_BinOp (binT ha hb I h fun v u s2 x y H2 I2 rx ry q=>ho pins s2 σ H2 x y v u Q I2 rx ry q)
def opI{f:Value->Value->Sem Value}{C:Int->Int->Prop}{g:Int->Int->Int}(rule:∀(i j:Int) (t u:Tok) (s:Shared) (Q:Value->Shared->Prop) (E:Value->Shared->Prop),C i j->Q (.int (g i j) s.toks) {s with toks:=s.toks+1}->wpAny (model X.prog X.w) X.A (f (.int i t) (.int j u)) Q E s) :
  OpR X f (rI C fun i j=>.int (g i j)):=by
 intro pins s σ H x y v u Q I rx ry h;obtain⟨i,j,rfl,rfl,hc,q⟩:=h;obtain⟨t,rfl⟩:=rx;obtain⟨t',rfl⟩:=ry;exact rule i j t t' s _ _ hc ⟨.int (g i j),H,I.tok _,⟨_,rfl⟩,q⟩
def opI0{f:Value->Value->Sem Value}{g:Int->Int->Int}(rule:∀(i j:Int) (t u:Tok) (s:Shared) (Q:Value->Shared->Prop) (E:Value->Shared->Prop),Q (.int (g i j) s.toks) {s with toks:=s.toks+1}->wpAny (model X.prog X.w) X.A (f (.int i t) (.int j u)) Q E s) :
  OpR X f (rI0 fun i j=>.int (g i j)):=by
 intro pins s σ H x y v u Q I rx ry h;obtain⟨i,j,rfl,rfl,q⟩:=h;obtain⟨t,rfl⟩:=rx;obtain⟨t',rfl⟩:=ry;exact rule i j t t' s _ _ ⟨.int (g i j),H,I.tok _,⟨_,rfl⟩,q⟩
def opB0{f:Value->Value->Sem Value}{g:Int->Int->Bool}(rule:∀(i j:Int) (t u:Tok) (s:Shared) (Q:Value->Shared->Prop) (E:Value->Shared->Prop),Q (.bool (g i j)) s->wpAny (model X.prog X.w) X.A (f (.int i t) (.int j u)) Q E s) :
  OpR X f (rI0 fun i j=>.bl (g i j)):=by
 intro pins s σ H x y v u Q I rx ry h;obtain⟨i,j,rfl,rfl,q⟩:=h;obtain⟨t,rfl⟩:=rx;obtain⟨t',rfl⟩:=ry;exact rule i j t t' s _ _ ⟨.bl (g i j),H,I,rfl,q⟩
def CDiv(i j:Int):Prop:=0<j/\j<1073741824
def CMul(i j:Int):Prop:=(-(2 ^ 64)<i/\i<2 ^ 64)\/(-(2 ^ 64)<j/\j<2 ^ 64)
def CMul.ok {i j:Int} (h:CMul i j):IntMulOk i j:=by
 rcases h with⟨h1,h2⟩|⟨h1,h2⟩
 ·exact .of_left (intBits_le_64 h1 h2)
 ·exact .of_right (intBits_le_64 h1 h2)
def WD:OpR X (binaryOp .Add) (rI0 fun i j=>.int (i+j)):=opI0 fun _ _ _ _ _ _ _ q=>add_int q
def QT:OpR X (binaryOp .Sub) (rI0 fun i j=>.int (i-j)):=opI0 fun _ _ _ _ _ _ _ q=>sub_int q
def Q1:OpR X (binaryOp .Mult) (rI CMul fun i j=>.int (i*j)):=opI fun _ _ _ _ _ _ _ hc q=>mul_int q hc.ok
def QS:OpR X (binaryOp .FloorDiv) (rI CDiv fun i j=>.int (i / j)):=opI fun i j _ _ _ _ _ hc q=>by
 have h1:(0:Int)<j:=hc.1;have h2:j<1073741824:=hc.2;exact floordiv_int (by omega) (by rw[Int.fdiv_eq_ediv_of_nonneg i (by omega)];exact q) (.inl (PyProof.noPylong_small (by omega)))
def WU:OpR X (binaryOp .Mod) (rI (fun _ j=>0<j) fun i j=>.int (i % j)):=opI fun i j _ _ _ _ _ hc q=>by
 have h1:(0:Int)<j:=hc;exact mod_int' (by omega) (by rw[Int.fmod_eq_emod_of_nonneg i (by omega)];exact q)
end
def scal:V->V->Bool
 | .non,.non=>true | .non,.int _=>true | .int _,.non=>true | .non,.bl _=>true | .bl _,.non=>true | .non,.str _=>true | .str _,.non=>true
 | .int _,.int _=>true | .bl _,.bl _=>true | .str _,.str _=>true | .byt _,.byt _=>true
 | .int _,.str _=>true | .str _,.int _=>true | .bl _,.str _=>true | .str _,.bl _=>true
 |_,_=>false
def rEq:R2:=fun x y H Q=>scal x y=true/\Q (.bl (decide (x=y))) H
def rNe:R2:=fun x y H Q=>scal x y=true/\Q (.bl (!decide (x=y))) H
def JS{i j:Int}:decide (V.int i=V.int j)=(i==j):=by
 rw[YQ];simp
def XF{i j:Bool}:decide (V.bl i=V.bl j)=(i==j):=by
 rw[YQ];simp
def Xw{i j:Str}:decide (V.str i=V.str j)=(i==j):=by
 rw[YQ];simp
def Xg{i j:Array UInt8}:decide (V.byt i=V.byt j)=(i.toList==j.toList):=by
 rw[YQ];cases i
 cases j
 simp
section
variable {X:Cx}{a b c:Expr}{ta tb tc:TE}{pos:Pos}
def W0{pins:List (Addr×Obj)}{σ:St}{H:Hp}{s:Shared}{Q:VK}{k k':Bool}(I:Inv X pins σ H s)(q:Q (.bl k) H)(e:k=k'):EP X pins σ Q (.bool k') s:=by
 subst e;exact⟨.bl k,H,I,rfl,q⟩
def op_eq:OpR X (compareOp .Eq) rEq:=by
 intro pins s σ H x y v u Q I rx ry h;obtain⟨hs,q⟩:=h;cases x with
 |non=>
  cases rx
  cases y with
  |non=>cases ry;exact PySem.EqNone.eq_none_none (W0 I q (by simp))
  |bl j=>cases ry;exact PySem.EqNone.eq_none_bool (W0 I q (by simp))
  |int j=>obtain⟨t',rfl⟩:=ry;exact PySem.EqNone.eq_none_int (W0 I q (by simp))
  |str j=>obtain⟨t',rfl⟩:=ry;exact PySem.EqNone.eq_none_str (W0 I q (by simp))
  |_=>exact absurd (show false=true from hs) Zy
 |bl i=>
  cases rx
  cases y with
  |non=>cases ry;exact PySem.EqNone.eq_bool_none (W0 I q (by simp))
  |bl j=>cases ry;exact eq_bool (W0 I q XF)
  |str j=>obtain⟨t',rfl⟩:=ry;exact PySem.EqMixed.eq_bool_str (W0 I q (by simp))
  |_=>exact absurd (show false=true from hs) Zy
 |int i=>
  obtain⟨t,rfl⟩:=rx;cases y with
  |non=>cases ry;exact PySem.EqNone.eq_int_none (W0 I q (by simp))
  |int j=>obtain⟨t',rfl⟩:=ry;exact eq_int (W0 I q JS)
  |str j=>obtain⟨t',rfl⟩:=ry;exact PySem.EqMixed.eq_int_str (W0 I q (by simp))
  |_=>exact absurd (show false=true from hs) Zy
 |str i=>
  obtain⟨t,rfl⟩:=rx;cases y with
  |non=>cases ry;exact PySem.EqNone.eq_str_none (W0 I q (by simp))
  |bl j=>cases ry;exact PySem.EqMixed.eq_str_bool (W0 I q (by simp))
  |int j=>obtain⟨t',rfl⟩:=ry;exact PySem.EqMixed.eq_str_int (W0 I q (by simp))
  |str j=>obtain⟨t',rfl⟩:=ry;exact eq_str (W0 I q Xw)
  |_=>exact absurd (show false=true from hs) Zy
 |byt i=>
  obtain⟨t,rfl⟩:=rx;cases y with
  |byt j=>obtain⟨t',rfl⟩:=ry;exact PySem.W.eq_bytes (W0 I q Xg)
  |_=>exact absurd (show false=true from hs) Zy
 |_=>cases y<;>exact absurd (show false=true from hs) Zy
def op_ne:OpR X (compareOp .NotEq) rNe:=by
 intro pins s σ H x y v u Q I rx ry h;obtain⟨hs,q⟩:=h;cases x with
 |non=>
  cases rx
  cases y with
  |non=>cases ry;exact PySem.EqNone.ne_none_none (W0 I q (by simp))
  |bl j=>cases ry;exact PySem.EqNone.ne_none_bool (W0 I q (by simp))
  |int j=>obtain⟨t',rfl⟩:=ry;exact PySem.EqNone.ne_none_int (W0 I q (by simp))
  |str j=>obtain⟨t',rfl⟩:=ry;exact PySem.EqNone.ne_none_str (W0 I q (by simp))
  |_=>exact absurd (show false=true from hs) Zy
 |bl i=>
  cases rx
  cases y with
  |non=>cases ry;exact PySem.EqNone.ne_bool_none (W0 I q (by simp))
  |bl j=>cases ry;exact ne_bool (W0 I q (ZT not XF))
  |str j=>obtain⟨t',rfl⟩:=ry;exact PySem.EqMixed.ne_bool_str (W0 I q (by simp))
  |_=>exact absurd (show false=true from hs) Zy
 |int i=>
  obtain⟨t,rfl⟩:=rx;cases y with
  |non=>cases ry;exact PySem.EqNone.ne_int_none (W0 I q (by simp))
  |int j=>obtain⟨t',rfl⟩:=ry;exact ne_int (W0 I q (ZT not JS))
  |str j=>obtain⟨t',rfl⟩:=ry;exact PySem.EqMixed.ne_int_str (W0 I q (by simp))
  |_=>exact absurd (show false=true from hs) Zy
 |str i=>
  obtain⟨t,rfl⟩:=rx;cases y with
  |non=>cases ry;exact PySem.EqNone.ne_str_none (W0 I q (by simp))
  |bl j=>cases ry;exact PySem.EqMixed.ne_str_bool (W0 I q (by simp))
  |int j=>obtain⟨t',rfl⟩:=ry;exact PySem.EqMixed.ne_str_int (W0 I q (by simp))
  |str j=>obtain⟨t',rfl⟩:=ry;exact ne_str (W0 I q (ZT not Xw))
  |_=>exact absurd (show false=true from hs) Zy
 |byt i=>
  obtain⟨t,rfl⟩:=rx;cases y with
  |byt j=>obtain⟨t',rfl⟩:=ry;exact PySem.W.ne_bytes (W0 I q (ZT not Xg))
  |_=>exact absurd (show false=true from hs) Zy
 |_=>cases y<;>exact absurd (show false=true from hs) Zy
def TU:OpR X (compareOp .Lt) (rI0 fun i j=>.bl (decide (i<j))):=opB0 fun _ _ _ _ _ _ _ q=>lt_int q
def Jj:OpR X (compareOp .Gt) (rI0 fun i j=>.bl (decide (j<i))):=opB0 fun _ _ _ _ _ _ _ q=>gt_int q
def OpR.or {f:Value->Value->Sem Value}{r r':R2} (h:OpR X f r) (h':OpR X f r'):OpR X f (fun x y H Q=>r x y H Q\/r' x y H Q):=by
 intro pins s σ H x y v u Q I rx ry q;rcases q with q|q
 ·exact h pins s σ H x y v u Q I rx ry q
 ·exact h' pins s σ H x y v u Q I rx ry q
def Qp(b:Expr){op:CmpOp}(h:op≠.In:=by decide)(h2:op≠.NotIn:=by decide):behindInMarks op b=false:=by
 have e1:(op==CmpOp.In)=false:=by cases op<;>first|rfl|exact absurd rfl h
 have e2:(op==CmpOp.NotIn)=false:=by cases op<;>first|rfl|exact absurd rfl h2
 cases b<;>simp[behindInMarks,e1,e2]
def Xt{op:CmpOp}{r:R2}(ho:OpR X (compareOp op) r)(ha:PE X a ta)(hb:PE X b tb)(hm:behindInMarks op b=false):PE X (.Compare a [op] [b] pos) (tOp r ta tb):=by
 intro pins s σ H Q I h;exact wpAny_Compare1 (binT ha hb I h fun v u s2 x y H2 I2 rx ry q=>ho pins s2 σ H2 x y v u Q I2 rx ry q) hm
def Vr(t:TE):TT:=fun σ H Q=>t σ H fun x H'=>∃k,x=.bl k/\Q k H'
def Qv{op:CmpOp}{r:R2}(ho:OpR X (compareOp op) r)(ha:PE X a ta)(hb:PE X b tb)(hm:behindInMarks op b=false):PT X (.Compare a [op] [b] pos) (Vr (tOp r ta tb)):=by
 intro pins s σ H Q I h
 refine wpAny_isTrue_Compare1 (thn (ha pins s σ H _ I h) fun v s1 ⟨x,H1,I1,r1,q1⟩=>thn (hb pins s1 σ H1 _ I1 q1) fun u s2 ⟨y,H2,I2,r2,q2⟩=>
  thn (ho pins s2 σ H2 x y v u _ I2 r1 r2 q2) fun c s3 ⟨z,H3,I3,r3,k,e,q3⟩=>?_) hm
 subst e;cases r3
 exact Yy ⟨H3,I3,q3⟩
def TruV(K:Za)(x:V)(H:Hp)(k:Bool):Prop:=
 match x with
 | .non=>k=false
 | .bl b=>k=b
 | .int i=>k=(i != 0)
 | .str y=>y.length<=sizeLine/\k=((y.length:Int) != 0)
 | .byt y=>y.size<=sizeLine/\k=((y.size:Int) != 0)
 | .ref p=>(∃xs,SqL K H p xs/\k=!xs.isEmpty)\/(∃xs,SqT K H p xs/\k=!xs.isEmpty)\/∃kvs,H p=some (.dK kvs)/\k=!kvs.isEmpty
 |_=>False
def Sj{κ:Type}{kvs:List (κ×V)}{vs:List (κ×Value)}(r:KV kvs vs):(!vs.isEmpty)=!kvs.isEmpty:=by
 cases r<;>rfl
def XY{xs:List V}{its:List Value}(r:Vals xs its):(!its.toArray.isEmpty)=!xs.isEmpty:=by
 cases r<;>simp
def Vi:(sizeLine:Nat)<2 ^ 63:=by rw[sizeLine_eq];decide
def KO:TruR X (fun x H Q=>∃k,TruV X.K x H k/\Q k H):=by
 intro pins s σ H x v Q I rx h;obtain⟨k,e,q⟩:=h;have hl:=Vi;have hs:sizeLine=16777216:=sizeLine_eq;cases x with
 |non=>
  cases rx
  have e':k=false:=e;subst e';exact truthy_none ⟨H,I,q⟩
 |bl b=>
  cases rx
  have e':k=b:=e;subst e';exact Yy ⟨H,I,q⟩
 |int i=>
  obtain⟨t,rfl⟩:=rx;have e':k=(i != 0):=e;subst e';exact PySem.P.truthy_int ⟨H,I,q⟩
 |str y=>
  obtain⟨t,rfl⟩:=rx;obtain⟨hy,e'⟩:y.length<=sizeLine/\k=((y.length:Int) != 0):=e;subst e';exact PySem.P.truthy_str (by omega) ⟨H,I.tok _,q⟩
 |byt y=>
  obtain⟨t,rfl⟩:=rx;obtain⟨hy,e'⟩:y.size<=sizeLine/\k=((y.size:Int) != 0):=e;subst e';exact PySem.W.truthy_bytes (by omega) ⟨H,I.tok _,q⟩
 |ref p=>
  cases rx
  have e':(∃xs,SqL X.K H p xs/\k=!xs.isEmpty)\/(∃xs,SqT X.K H p xs/\k=!xs.isEmpty)\/∃kvs,H p=some (.dK kvs)/\k=!kvs.isEmpty:=e;rcases e' with⟨xs,hx,e'⟩|⟨xs,hx,e'⟩|⟨kvs,hx,e'⟩
  ·subst e';obtain⟨its,r,pl,hz⟩:=I.list hx;have hlen:=r.length;exact wpAny_truthy_list pl.isList (by simp only[Zz];omega) ⟨H,I.tok _,by rw[XY r];exact q⟩
  ·subst e';obtain⟨its,r,pl,hz⟩:=I.tuple hx;have hlen:=r.length;exact truthy_tuple pl (by simp only[Zz];omega) ⟨H,I.tok _,by rw[XY r];exact q⟩
  ·subst e';obtain⟨hz,hS,vs,r,m⟩:kvs.length<=sizeLine/\(p==sysModules)=false/\∃vs,KV kvs vs/\s.heap.DictOf (WT X.prog X.w) p vs:=I.hok p _ hx;have hlen:kvs.length=vs.length:=Paired.length r;exact wpAny_truthy_dict hS m (by omega) ⟨H,I.tok _,by rw[Sj r];exact q⟩
 |_=>exact(show False from e).elim
def Ph(ha:PE X a ta)(he:∀whole,isTrue a X.env whole=(do let v ←whole;standAt a.pos;holding [v] (truthy v))) :
  PT X a (fun σ H Q=>ta σ H fun x H'=>∃k,TruV X.K x H' k/\Q k H'):=by
 intro pins s σ H Q I h;exact isTrue_plain (thn (ha pins s σ H _ I h) fun v s1 ⟨x,H1,I1,r1,q1⟩=>KO pins s1 σ H1 x v Q I1 r1 q1) (he _)
def vals1{x:V}{us:List Value}(r:Vals [x] us):∃u,us=[u]/\RelV x u:=by
 cases r with
 |cons r1 r2=>cases r2;exact⟨_,rfl,r1⟩
def LenV(K:Za)(x:V)(H:Hp)(n:Nat):Prop:=
 match x with
 | .str y=>y.length<=sizeLine/\n=y.length
 | .byt y=>y.size<=sizeLine/\n=y.size
 | .ref p=>(∃xs,SqL K H p xs/\n=xs.length)\/∃xs,SqT K H p xs/\n=xs.length
 |_=>False
def Ts:WW X (.builtin "len") (fun xs H Q=>∃x n,xs=[x]/\LenV X.K x H n/\Q (.int n) H):=by
 intro pins s σ H xs us Q I r h;obtain⟨x,n,rfl,e,q⟩:=h;obtain⟨u,rfl,rx⟩:=vals1 r;have hl:=Vi;have hs:sizeLine=16777216:=sizeLine_eq;cases x with
 |str y=>
  obtain⟨t,rfl⟩:=rx;obtain⟨hy,e'⟩:y.length<=sizeLine/\n=y.length:=e;subst e';exact len_str (by omega) ⟨.int _,H,I.tok _,⟨_,rfl⟩,q⟩
 |byt y=>
  obtain⟨t,rfl⟩:=rx;obtain⟨hy,e'⟩:y.size<=sizeLine/\n=y.size:=e;subst e';exact PySem.W.len_bytes (by omega) ⟨.int _,H,I.tok _,⟨_,rfl⟩,q⟩
 |ref p=>
  cases rx
  have e':(∃xs,SqL X.K H p xs/\n=xs.length)\/∃xs,SqT X.K H p xs/\n=xs.length:=e;rcases e' with⟨xs,hx,e'⟩|⟨xs,hx,e'⟩
  ·subst e';obtain⟨its,r',pl,hz⟩:=I.list hx;have hlen:=r'.length;exact Calls.call_len_list pl.isList (by simp only[Zz];omega) ⟨.int xs.length,H,I.tok _,⟨_,by simp only[Zz];rw[hlen]⟩,q⟩
  ·subst e';obtain⟨its,r',pl,hz⟩:=I.tuple hx;have hlen:=r'.length;exact len_tuple pl (by simp only[Zz];omega) ⟨.int xs.length,H,I.tok _,⟨_,by simp only[Zz];rw[hlen]⟩,q⟩
 |_=>exact(show False from e).elim
end
structure ObjM (h:Heap) (x dx C:Addr) (mA:Str->Option Value):Prop where
 obj:h.get? x=some (PySem.W.instObj C dx)
 ns:h.Ns1 dx mA
 ne:dx≠x
def NC{h:Heap}{dx:Addr}{mA:Str->Option Value}(n:h.Ns1 dx mA):∃od,h.get? dx=some od/\∀name,PySem.W.lookIn name od=some (mA name):=by
 obtain⟨o,es,ep,ho,hd,hk,_,hm⟩:=n;refine⟨o,ho,fun name=>?_⟩;have e:=hm name;unfold nsFind findBy at e;rw[←Array.find?_toList]at e;unfold PySem.W.lookIn;rw[hd]
 dsimp only
 split
 ·rename_i y q;rw[q]at e;exact ZT some e
 ·rename_i q;rw[q]at e
  have a:es.toList.any (·.refKey)=false:=by
   rw[List.any_eq_false];intro y hy;obtain⟨z,t,hkey⟩:=hk y (Array.mem_toList_iff.mp hy);simp[DictEntry.refKey,hkey]
  have a':¬es.toList.any (·.refKey)=true:=by rw[a];exact Zy
  rw[Z6 a'];exact ZT some e
def ObjM.look {h:Heap}{x dx C:Addr}{mA:Str->Option Value} (I:ObjM h x dx C mA):∃od,PySem.W.InstAt h x (PySem.W.instObj C dx) C (some od)/\∀name,PySem.W.lookIn name od=some (mA name):=
 let ⟨od,ho,hl⟩:=NC I.ns
 ⟨od,⟨I.obj,rfl,rfl,ho⟩,hl⟩
def RelO.some_of {v:V}{o:Option Value} (r:RelO (some v) o):∃u,o=some u/\RelV v u:=by
 cases o with
 |none=>exact(show False from r).elim
 |some u=>exact⟨u,rfl,r⟩
section
variable {P:Program}{w:World}{H H':Hp}{h h':Heap}{a C dx:Addr}{fs fs':List (Str×V)}
def NX(hok:HOk P w H h)(e:H a=some (.ins C dx fs)):∃mA,ObjM h a dx C mA/\(∀f,RelO (fs.lookup f) (mA f))/\PySem.Within mA (fs.map (·.1))/\fs.length<=1000/\H dx=some (.own a):=by
 obtain⟨d,z,ne,ob,mA,n,r,q⟩:=(show ObjOk P w H h a (.ins C dx fs)from hok a _ e)
 exact⟨mA,⟨ob,n,ne⟩,r,q,z,d⟩
end
structure Cls (K:Za) (C:Addr):Prop where
 pg:PySem.W.plainGet K C Str.empty=true
 hd:PySem.W.hasDictIn K C=true
 po:PySem.W.plainOver K C=true
 sa:PySem.W.findIn K (.ref C) "__setattr__"=some (some (.builtin "object.__setattr__"))
def Cls.get {K:Za}{C:Addr} (c:Cls K C) (f:Str):PySem.W.plainGet K C f=true:=c.pg
section
variable {X:Cx}{pins:List (Addr×Obj)}{σ:St}{H:Hp}{s:Shared}{A:Around}{E:Value->Shared->Prop}{Q:Value->Shared->Prop}{c:Value}{b:Bool}
inductive TyOf (K:Za) (H:Hp):V->Value->Prop where
 |non:TyOf K H .non (.type "NoneType")
 |bl (x:Bool):TyOf K H (.bl x) (.type "bool")
 |int (i:Int):TyOf K H (.int i) (.type "int")
 |str (x:Str):TyOf K H (.str x) (.type "str")
 |flt (x:UInt64):TyOf K H (.flt x) (.type "float")
 |lst {a:Addr} {xs:List V} (e:H a=some (.lst xs)):TyOf K H (.ref a) (.type "list")
 |frz {a:Addr} {o:Obj} {xs:List V} (e:H a=some (.frz o (.lst xs))):TyOf K H (.ref a) (.type "list")
 |tup {a:Addr} {xs:List V} (e:H a=some (.tup xs)):TyOf K H (.ref a) (.type "tuple")
 |dK {a:Addr} {kvs:List (Key×V)} (e:H a=some (.dK kvs)):TyOf K H (.ref a) (.type "dict")
 |dT {a:Addr} {kvs:List (List Key×V)} (e:H a=some (.dT kvs)):TyOf K H (.ref a) (.type "dict")
 |ins {a C dx:Addr} {fs:List (Str×V)} (e:H a=some (.ins C dx fs)) (cl:Cls K C) (ha:PySem.W.findIn K (.ref C) "__class__"=some (some (.builtin "object.__class__")))
   (hn:PySem.W.specialIn K (.builtin "object.__class__") "__get__"=some (some (.builtin "getset_descriptor.__get__"))) (htk:PySem.W.takesIn K (.builtin "object.__class__")=some true)
   (hm:PySem.W.mroIn K C (.type "object")=some true):TyOf K H (.ref a) (.ref C)
def N3{x:V}{u t:Value}(I:Inv X pins σ H s)(rx:RelV x u)(ty:TyOf X.K H x t)(e:PySem.W.kitOne X.K t c=some b)(h:∀tk,Q (.bool b) {s with toks:=tk}) :
  wpAny (model X.prog X.w) A (call (.builtin "isinstance") [u,c]) Q E s:=by
 cases ty with
 |non=>cases (show u=Value.none from rx);exact ZO PySem.W.kitx_none I.kIn True.intro e (fun z=>nomatch z) h
 |bl y=>cases (show u=Value.bool y from rx);exact ZO PySem.W.kitx_bool I.kIn True.intro e (fun z=>nomatch z) h
 |int i=>obtain⟨t,q⟩:=(show ∃t,u=Value.int i t from rx);cases q;exact ZO PySem.W.kitx_int I.kIn True.intro e (fun z=>nomatch z) h
 |str y=>obtain⟨t,q⟩:=(show ∃t,u=Value.str y t from rx);cases q;exact ZO PySem.W.kitx_str I.kIn True.intro e (fun z=>nomatch z) h
 |flt y=>obtain⟨t,q⟩:=(show ∃t,u=Value.float y t from rx);cases q;exact ZO PySem.W.kitx_float I.kIn True.intro e (fun z=>nomatch z) h
 | @lst a xs ea=>
  cases (show u=Value.ref a from rx)
  obtain⟨_,_,n,_,h1⟩:=(show ObjOk X.prog X.w H s.heap a (.lst xs)from I.hok a _ ea)
  exact ZO PySem.W.kitx_list I.kIn ⟨_,h1,rfl⟩ e (fun z=>nomatch z) h
 | @frz a ob xs ea=>
  cases (show u=Value.ref a from rx)
  obtain⟨_,_,_,n,_,h1⟩:=(show ObjOk X.prog X.w H s.heap a (.frz ob (.lst xs))from I.hok a _ ea)
  exact ZO PySem.W.kitx_list I.kIn ⟨_,h1,rfl⟩ e (fun z=>nomatch z) h
 | @tup a xs ea=>
  cases (show u=Value.ref a from rx)
  obtain⟨_,_,_,p⟩:=(show ObjOk X.prog X.w H s.heap a (.tup xs)from I.hok a _ ea)
  obtain⟨o,h1,h2,_⟩:=p;exact ZO PySem.W.kitx_tuple I.kIn ⟨o,h1,h2⟩ e (fun z=>nomatch z) h
 | @dK a kvs ea=>
  cases (show u=Value.ref a from rx)
  obtain⟨_,_,vs,_,p⟩:=(show ObjOk X.prog X.w H s.heap a (.dK kvs)from I.hok a _ ea)
  obtain⟨o,es,ep,h1,h2,_⟩:=p;exact ZO PySem.W.kitx_dict I.kIn ⟨o,h1,h2.1⟩ e (fun z=>nomatch z) h
 | @dT a kvs ea=>
  cases (show u=Value.ref a from rx)
  obtain⟨_,_,xs,_,o,es,ep,h1,h2,_⟩:=(show ObjOk X.prog X.w H s.heap a (.dT kvs)from I.hok a _ ea)
  exact ZO PySem.W.kitx_dict I.kIn ⟨o,h1,h2.1⟩ e (fun z=>nomatch z) h
 | @ins a C dx fs ea cl ha hn htk hm=>
  cases (show u=Value.ref a from rx)
  obtain⟨mA,O,_⟩:=NX I.hok ea;obtain⟨od,J,_⟩:=O.look;exact ZO (PySem.W.kitx_own (cl.get _) cl.hd ha hn htk hm) I.kIn J e (fun z=>nomatch z) h
end
structure Room (k:Nat) (A:Around):Prop where
 hd:A.handled=none
 dp:A.depth+3*k+5<recursionLimit
 un:A.units+16*k+200<cLine
def Room.mono {j k:Nat}{A:Around} (r:Room k A) (h:j<=k):Room j A:=⟨r.hd,by have:=r.dp;omega,by have:=r.un;omega⟩
def Room.deeper {k:Nat}{A:Around} (r:Room (k+1) A) (env:Env):Room k (A.deeper env):=
 ⟨r.hd,by have:=r.dp;show A.depth+1+3*k+5<_;omega,by have:=r.un;show A.units+3+16*k+200<_;omega⟩
def Room.depth {k:Nat}{A:Around} (r:Room k A):A.depth<recursionLimit:=by have:=r.dp;omega
def Room.units {k:Nat}{A:Around} (r:Room k A):A.units+64<cLine:=by have:=r.un;omega
def Room.units0 {k:Nat}{A:Around} (r:Room k A):A.units<cLine:=by have:=r.un;omega
def tNil:TA:=fun _ H Q=>Q [] H
def WH(ta:TE)(tr:TA):TA:=fun σ H Q=>ta σ H fun x H1=>tr σ H1 fun xs H2=>Q (x::xs) H2
section
variable {X:Cx}{e:Expr}{es:List Expr}{te:TE}{t:TA}{pos:Pos}
def Qg:PA X [] tNil:=fun _ _ _ _ H Q I h=>Calls.spliced_nil ⟨[],H,I,.nil,h⟩
def W3(ha:PE X e te)(hr:PA X es t)(hs:starEach (e::es) X.env=(false,eval e X.env)::starEach es X.env:=by rfl):PA X (e::es) (WH te t):=by
 intro pos pins s σ H Q I h;rw[hs];show wpAny _ _ (spliced ((false,eval e X.env)::backTo pos (starEach es X.env))) _ _ s;refine Calls.spliced_cons (thn (ha pins s σ H _ I h) fun u s1 ⟨x,H1,I1,r1,q1⟩=>?_);exact thn (hr pos pins s1 σ H1 _ I1 q1) fun us s2 ⟨xs,H2,I2,r2,q2⟩=>⟨x::xs,H2,I2,.cons r1 r2,q2⟩
def tTup(t:TA):TE:=fun σ H Q=>t σ H fun xs H1=>xs.length<=sizeLine/\∀p,H1 p=none->Q (.ref p) (upd H1 p (.tup xs))
def tLst(t:TA):TE:=fun σ H Q=>t σ H fun xs H1=>xs.length<=sizeLine/\∀p,H1 p=none->Q (.ref p) (upd H1 p (.lst xs))
def QJ{x1}(h:PA X es t):PE X (.Tuple es x1 pos) (tTup t):=by
 intro pins s σ H Q I hq;refine wpAny_Tuple_spliced (thn (h pos pins s σ H _ I hq) fun us s1 ⟨xs,H1,I1,r,z,q⟩=>⟨by rw[←r.length];exact z,?_⟩);have hf:H1 s1.heap.objs.size=none:=I1.hok.fresh (Z3 _);refine⟨.ref s1.heap.objs.size,upd H1 s1.heap.objs.size (.tup xs),I1.laid (t':=s1.toks) (fun b u e=>Zx _ e) (Z3 _) ?_,rfl,q _ hf⟩;exact⟨z,us,r,⟨_,Z2 _ rfl,rfl,_,rfl⟩⟩
def QA(h:PA X es t):PE X (.List es pos) (tLst t):=by
 intro pins s σ H Q I hq;refine wpAny_List_spliced (thn (h pos pins s σ H _ I hq) fun us s1 ⟨xs,H1,I1,r,z,q⟩=>⟨by rw[←r.length];exact z,?_⟩);have hf:H1 s1.heap.objs.size=none:=I1.hok.fresh (Z3 _);refine⟨.ref s1.heap.objs.size,upd H1 s1.heap.objs.size (.lst xs),I1.laid (t':=s1.toks) (fun b u e=>Zx _ e) (Z3 _) ?_,rfl,q _ hf⟩;exact⟨z,us,0,r,Z2 _ rfl⟩
end
abbrev Sp:=List V->Hp->VK->XK->Prop
abbrev CXT:=List Env->Hp->Shared->XK->Value->Shared->Prop
structure Env0 (P:Program) (w:World) (K:Za) (mg:Str->Option Value) (base:Heap) (A:Around) (outer:List Env) (s:Shared) (H:Hp):Prop where
 frames:A.frames=some outer
 mod:Mod K mg base
 bs:∀b o,base.get? b=some o->s.heap.get? b=some o/\H b=none
 bsz:base.objs.size<=s.heap.objs.size
 funs:s.heap.FunFrames base outer
 frf:∀b∈frs outer,H b=none
 hok:HOk P w H s.heap
 bare:AllBare s.gens
def CE(outer:List Env)(P:Program)(w:World)(H:Hp)(s:Shared)(Q:VK)(u:Value)(s':Shared):Prop:=
 ∃v H',s'.os=s.os/\AllBare s'.gens/\Un (frs outer) [] H H' s.heap s'.heap/\HOk P w H' s'.heap/\RelV v u/\Q v H'
def CR(CX:CXT)(outer:List Env)(P:Program)(w:World)(H:Hp)(s:Shared)(Q:VK)(E:XK)(r:Result)(s':Shared):Prop:=
 match r with
 | .ok (.ret u)=>CE outer P w H s Q u s'
 | .ok _=>False
 | .error e=>CX outer H s E e s'
structure FnOk (P:Program) (w:World) (K:Za) (mg:Str->Option Value) (base:Heap) (CX:CXT) (k:Nat) (f:Addr) (fd:FuncData) (ps:List Str) (sp:Sp):Prop where
 len:∀vs H Q E,sp vs H Q E->vs.length=ps.length
 run:∀(A:Around) (outer:List Env) (s:Shared) (H:Hp) (args:Args) (us:List Value) (vs:List V) (Q:VK) (E:XK),Room k A->Env0 P w K mg base A outer s H->BindsTo s fd args (ps.zip us)->Vals vs us->sp vs H Q E->
  codeAny (model P w) A (.call (.ref f) args) (CR CX outer P w H s Q E) s
def FnOk.imp {P:Program}{w:World}{K:Za}{mg:Str->Option Value}{base:Heap}{CX:CXT}{k:Nat}{f:Addr}{fd:FuncData}{ps:List Str}{sp sp':Sp} (F:FnOk P w K mg base CX k f fd ps sp)
  (h:∀vs H Q E,sp' vs H Q E->sp vs H Q E):FnOk P w K mg base CX k f fd ps sp':=
 ⟨fun vs H Q E q=>F.len vs H Q E (h _ _ _ _ q),fun A outer s H args us vs Q E hr he hb hv hs=>F.run A outer s H args us vs Q E hr he hb hv (h _ _ _ _ hs)⟩
section
variable {X:Cx}{pins:List (Addr×Obj)}{σ:St}{H:Hp}{s s':Shared}
def Inv.env0 (I:Inv X pins σ H s):Env0 X.prog X.w X.K X.mg X.base X.A X.stack s H:=
 ⟨I.ok.frames,I.ok.mod,I.bs,ZA I.ok.bsz I.sz,I.stack,I.stkFree,I.hok,I.bare⟩
def Inv.after {Q:VK}{u:Value} (I:Inv X pins σ H s) (h:CE X.stack X.prog X.w H s Q u s'):EP X pins σ Q u s':=by
 obtain⟨v,H',os,bare,un,hok,r,q⟩:=h;obtain⟨hh,g,d,t,os'⟩:=s';obtain rfl:os'=s.os:=os;exact⟨v,H',I.call (h':=hh) (g':=g) (d':=d) (t':=t) (ch:=[]) un hok bare (fun b z=>absurd z (by simp)),r,q⟩
end
def Vl(sp:Sp)(dvs:List V)(E:XK)(t:TA):TE:=fun σ H Q=>t σ H fun vs H1=>sp (vs++dvs) H1 Q E
def Binds(K:Za)(fd:FuncData)(ps:List Str)(ds:List Value):Prop:=
 ∀(s:Shared) (us:List Value),K.In s.heap->(us++ds).length=ps.length->BindsTo s fd ⟨us,[]⟩ (ps.zip (us++ds))
def Binds.all {K:Za}{fd:FuncData}{ps:List Str} (h:∀us:List Value,us.length=ps.length->bindArgs fd ⟨us,[]⟩=pure (ps.zip us)):Binds K fd ps []:=fun s us _ hl=>by
 rw[Y6]at hl ⊢;exact .of_eq (h us hl)
def Vy(CX:CXT)(X:Cx)(E:XK):Prop:=∀(pins:List (Addr×Obj)) (σ:St) (H:Hp) (s:Shared) (e:Value) (s':Shared),Inv X pins σ H s->CX X.stack H s E e s'->X.xe e s'
section
variable {X:Cx}{CX:CXT}{k:Nat}{f C:Addr}{fd:FuncData}{ps:List Str}{sp:Sp}{dvs:List V}{ds:List Value}{E:XK}{x m:Str}{p pos apos:Pos}{e o:Expr}{es:List Expr}{ta:TE}{t:TA}
def KN{pins:List (Addr×Obj)}{σ:St}{H:Hp}{s:Shared}{Q:VK}{us:List Value}{vs:List V}(F:FnOk X.prog X.w X.K X.mg X.base CX k f fd ps sp)(hr:Room k X.A)(hb:Binds X.K fd ps ds)(hd:Vals dvs ds)(hx:Vy CX X E)(I:Inv X pins σ H s)(r:Vals vs us)(h:sp (vs++dvs) H Q E):wpAny (model X.prog X.w) X.A (call (.ref f) us) (EP X pins σ Q) X.xe s:=by
 have r2:Vals (vs++dvs) (us++ds):=r.append hd;have hl:(us++ds).length=ps.length:=by rw[←r2.length];exact F.len _ _ _ _ h
 refine wpAny_call (codeAny_mono (F.run X.A X.stack s H ⟨us,[]⟩ (us++ds) (vs++dvs) Q E hr I.env0 (hb s us I.kIn hl) r2 h) fun r s' hq=>?_);cases r with
 |error e=>exact hx pins σ H s e s' I hq
 |ok fl=>
  cases fl with
  |ret u=>exact I.after hq
  |next=>exact False.elim hq
  |brk=>exact False.elim hq
  |cont=>exact False.elim hq
def KY(F:FnOk X.prog X.w X.K X.mg X.base CX k f fd ps sp)(hr:Room k X.A)(hg:Gl X x)(hm:X.mg x=some (.ref f))(hk:PySem.W.keepIn X.K (.ref f)=true)(hb:Binds X.K fd ps ds)(hd:Vals dvs ds)(hx:Vy CX X E)(ha:PA X (e::es) t)(hdb:(x==("__debug__" : Str))=false:=by decide)(he:starEach (e::es) X.env=(false,eval e X.env)::starEach es X.env:=by rfl)(hpl:(backTo pos (starEach es X.env)).any (·.1)=false:=by rfl) :
  PE X (.Call (.Name x p) (e::es) [] pos) (Vl sp dvs E t):=by
 intro pins s σ H Q I h;refine wpAny_Call_Name_kw (JO I hg hm ?_ hdb);refine PySem.W.callWith_K (h₀:=X.base) I.ok.mod.kin hk (thn (ha pos pins s σ H _ I h) fun us s1 ⟨vs,H1,I1,r,q⟩=>⟨I1.kIn,?_⟩) he hpl;exact KN F hr hb hd hx I1 r q
end
structure FnScope (N P:List Str) (sc:Scope):Prop where
 kind:sc.kind=.function
 co:sc.isCoroutine=false
 gen:sc.isGenerator=false
 nd:N.Nodup
 pre:N.take P.length=P
 par:∀x∈P,sc.names.lookup x=some .local\/sc.names.lookup x=some .cell
 nofree:∀y∈sc.names,y.2≠.free
def UR{kindOf:Str->Option NameKind}{x:Str}:∀{binds:List (Str×Value)}{m:Str->Option Value},(∀v,(x,v)∉binds)->bindL kindOf binds m x=m x
 |[],_,_=>rfl
 |(n,v)::r,m,h=>by
  unfold bindL;rw[UR fun w hw=>h w (ZD _ hw)];split
  ·have:x≠n:=by rintro rfl;exact h v ZH
   simp[this]
  ·rfl
def JJ{kindOf:Str->Option NameKind}{x:Str}:∀{binds:List (Str×Value)}{m:Str->Option Value},(∀v,(x,v)∉binds)->bindC kindOf binds m x=m x
 |[],_,_=>rfl
 |(n,v)::r,m,h=>by
  unfold bindC;rw[JJ fun w hw=>h w (ZD _ hw)];split
  ·rfl
  ·have:x≠n:=by rintro rfl;exact h v ZH
   simp[this]
def Xs{kindOf:Str->Option NameKind}{x:Str}{v:Value}:∀{P:List Str}{vs:List Value}{i:Nat}{m:Str->Option Value},P.Nodup->P[i]?=some x->vs[i]?=some v->kindOf x=some .local->
  bindL kindOf (P.zip vs) m x=some v
 |[],_,_,_,_,h,_,_=>by simp at h
 |_::_,[],_,_,_,_,h,_=>by simp at h
 |p::P,w::vs,0,m,nd,h1,h2,hk=>by
  simp at h1 h2;subst h1;subst h2;show bindL kindOf ((p,w)::P.zip vs) m p=_;unfold bindL;rw[UR fun v hv=>(ZX.mp nd).1 (List.of_mem_zip hv).1,ZE hk];simp
 |p::P,w::vs,i+1,m,nd,h1,h2,hk=>by
  show bindL kindOf ((p,w)::P.zip vs) m x=_;unfold bindL;exact Xs (i:=i) (ZX.mp nd).2 (by simpa using h1) (by simpa using h2) hk
def X5{kindOf:Str->Option NameKind}{x:Str}{v:Value}:∀{P:List Str}{vs:List Value}{i:Nat}{m:Str->Option Value},P.Nodup->P[i]?=some x->vs[i]?=some v->kindOf x≠some .local->
  bindC kindOf (P.zip vs) m x=some v
 |[],_,_,_,_,h,_,_=>by simp at h
 |_::_,[],_,_,_,_,h,_=>by simp at h
 |p::P,w::vs,0,m,nd,h1,h2,hk=>by
  simp at h1 h2;subst h1;subst h2;show bindC kindOf ((p,w)::P.zip vs) m p=_;unfold bindC;rw[JJ fun v hv=>(ZX.mp nd).1 (List.of_mem_zip hv).1,Z6 hk];simp
 |p::P,w::vs,i+1,m,nd,h1,h2,hk=>by
  show bindC kindOf ((p,w)::P.zip vs) m x=_;unfold bindC;exact X5 (i:=i) (ZX.mp nd).2 (by simpa using h1) (by simpa using h2) hk
def start(N:List Str)(vs:List V):St:=vs.map some++List.replicate (N.length-vs.length) none
def cxOf(CX:CXT)(P:Program)(w:World)(K:Za)(mg:Str->Option Value)(base:Heap)(N:List Str)(qual:Str)(scope:Scope)(f:Addr)(cd:Value)(A:Around)(outer:List Env)(s:Shared)(H:Hp)(E:XK):Cx where
 prog:=P
 w:=w
 K:=K
 mg:=mg
 base:=base
 A:=A.deeper (envOfC qual scope s.heap.objs.size f cd)
 N:=N
 s₀:=s
 H₀:=H
 env:=envOfC qual scope s.heap.objs.size f cd
 outer:=outer
 stack:=envOfC qual scope s.heap.objs.size f cd::outer
 ex:=[]
 calm:=true
 fn:=fun _=>true
 pn:=[]
 xe:=fun e s'=>wpAny (model P w) (A.deeper (envOfC qual scope s.heap.objs.size f cd)) (leaving (envOfC qual scope s.heap.objs.size f cd) e) (fun _ s''=>CX outer H s E e s'') (fun e' s''=>CX outer H s E e' s'') s'
def JD{sc:Scope}{n:Nat}{x:Str}(h:sc.names.lookup x=some .cell):∃c,(cellsFrom n sc.names []).lookup x=some c:=by
 have q:=PySem.W.cellsFrom_some sc.names n [] (.inl h);exact Option.isSome_iff_exists.mp q
def NL{CX:CXT}{P:Program}{w:World}{K:Za}{mg:Str->Option Value}{base:Heap}{N ps:List Str}{qual:Str}{scope:Scope}{f:Addr}{cd:Value}{A:Around}{outer:List Env}{s s1:Shared}{H:Hp}{E:XK}{us:List Value}{vs:List V}(S:FnScope N ps scope)(hd:A.handled=none)(e0:Env0 P w K mg base A outer s H)(hl:vs.length=ps.length)(r:Vals vs us)(x:InCallC s s.heap.objs.size (bindL (envOfC qual scope s.heap.objs.size f cd).kindOf (ps.zip us) fun _=>none) (cellsFrom (s.heap.objs.size+1) scope.names []) (bindC (envOfC qual scope s.heap.objs.size f cd).kindOf (ps.zip us) fun _=>none) s1) :
  Inv (cxOf CX P w K mg base N qual scope f cd A outer s H E) [] (start N vs) H s1:=by
 have hpl:ps.length<=N.length:=by have:=ZT List.length S.pre;rw[Ya]at this;omega
 obtain⟨h1,tk,rfl,hk⟩:=x.done;have noA:∀b:Addr,b∉(cxOf CX P w K mg base N qual scope f cd A outer s H E).ex:=fun b z=>absurd (show b∈([]:List Addr)from z) (by simp)
 refine⟨⟨e0.mod,S.kind,rfl,rfl,Z3 _,fun y z c h1 h2=>?_,fun y hy=>?_,fun y c _ h=>?_,fun _=>hd,Around.frames_deeper e0.frames,.inr ⟨rfl,rfl⟩,fun b z=>absurd z (noA b),e0.bs,e0.bsz,fun b _ _=>noA b,fun b z=>absurd z (noA b),e0.funs,e0.frf⟩,
  rfl,e0.bare,Un.kept hk,⟨_,x.toInCall.ns,fun i y v h1 h2 h3=>?_⟩,fun y c h=>⟨_,x.cell y c h⟩,e0.hok.fresh (Z3 _),fun y c h=>?_,fun p hp=>absurd (show p∈([]:List (Addr×Obj))from hp) (by simp),e0.hok.kept hk,?_⟩
 ·exact name_of_addr x.apart (Ye h1) (Ye h2)
 ·have hy:scope.names.lookup y=some .cell\/scope.names.lookup y=some .free:=hy;rcases hy with hy|hy
  ·exact JD hy
  ·exact absurd rfl (S.nofree _ (Ye hy))
 ·exact YN (x.above y c (Ye h))
 ·have hi:i<vs.length:=by
   unfold start at h2;by_cases hi:i<vs.length
   ·exact hi
   ·rw[ZZ (by simpa using hi)]at h2;rw[List.getElem?_replicate]at h2;split at h2<;>cases h2
  have ha:vs[i]?=some v:=by
   unfold start at h2;rw[Y7 (by simpa using hi),Z5]at h2;cases e:vs[i]? with
   |none=>rw[e]at h2;cases h2
   |some a=>rw[e]at h2;cases h2;rfl
  obtain⟨u,hu,rv⟩:=r.get ha
  have hp:ps[i]?=some y:=by
   rw[←S.pre,List.getElem?_take_of_lt (by omega)];exact h1
  have ndP:ps.Nodup:=by rw[←S.pre];exact S.nd.sublist (List.take_sublist _ _)
  refine⟨u,rv,?_⟩;rcases S.par y (YR hp)with k|k
  ·exact .inl ⟨k,Xs ndP hp hu k⟩
  ·obtain⟨c,e⟩:=JD (n:=s.heap.objs.size+1) k;refine .inr ⟨.inl k,c,e,?_⟩;have q:=x.cell y c e;rw[X5 ndP hp hu (by show scope.names.lookup y≠_;rw[k];decide)]at q;exact q
 ·exact e0.hok.fresh (YN (x.above y c (Ye h)))
 ·unfold start;show _=N.length;rw[ZF,Zt,List.length_replicate];omega
def Nl{CX:CXT}{P:Program}{w:World}{K:Za}{mg:Str->Option Value}{base:Heap}{k:Nat}{f:Addr}{name qual:Str}{params:Arguments}{body:List Stmt}{scope:Scope}{dV kV doc pm cdv ct oc:Value}{an od:Option Addr}{osl:Array (Option Value)}{N ps:List Str}{sp:Sp}(lk:K.lookup f=some ⟨oc,od,.func (PySem.W.fnOf name qual params body scope dV kV doc pm an cdv ct),osl⟩)(hcd:PySem.W.codeIn K cdv qual=true)(S:FnScope N ps scope)(len:∀vs H Q E,sp vs H Q E->vs.length=ps.length)
  (hbody:∀(A:Around) (outer:List Env) (s:Shared) (H:Hp) (vs:List V) (Q:VK) (E:XK),Room k (A.deeper (envOfC qual scope s.heap.objs.size f cdv))->sp vs H Q E->
   ∃t,PSs (cxOf CX P w K mg base N qual scope f cdv A outer s H E) body t/\t {nx:=fun _ H'=>Q .non H',rt:=Q} (start N vs) H) :
  FnOk P w K mg base CX (k+1) f (PySem.W.fnOf name qual params body scope dV kV doc pm an cdv ct) ps sp:=by
 refine⟨len,fun A outer s H args us vs Q E hr e0 hb r hsp=>?_⟩;have hl:=len _ _ _ _ hsp;have KX:K.In s.heap:=e0.mod.kin.keeps fun b o e=>(e0.bs b o e).1;have lim:s.heap.NoLimit:=e0.mod.nolimit.keeps fun b o e=>(e0.bs b o e).1
 have hkind:∀y∈ps.zip us,scope.names.lookup y.1=some .local\/(scope.names.lookup y.1=some .cell/\((cellsFrom (s.heap.objs.size+1) scope.names []).lookup y.1).isSome=true):=fun⟨n,v⟩ hy=>by
  rcases S.par n (List.of_mem_zip hy).1 with q|q
  ·exact .inl q
  ·exact .inr ⟨q,PySem.W.cellsFrom_some _ _ _ (.inl q)⟩
 refine codeAny_call_function hr.depth (KX _ _ lk) rfl S.co S.gen rfl (PySem.W.codeRec_of KX hcd) (hb _ _ _ _ ?_);refine wpAny_newFunctionEnv_cells S.kind hkind fun env he s1 x=>?_;subst he;refine⟨lim.keeps x.toInCall.keep,codeAny_func ?_⟩;obtain⟨t,ht,hq⟩:=hbody A outer s H vs Q E (hr.deeper _) hsp;have I:Inv (cxOf CX P w K mg base N qual scope f cdv A outer s H E) [] (start N vs) H s1:=NL S hr.hd e0 hl r x;refine ZV (ht [] s1 (start N vs) H _ I hq) (fun fl s' hs=>?_) fun e s' hs=>hs
 have fin:∀{σ':St} {H':Hp} {v:V} {u:Value},Inv (cxOf CX P w K mg base N qual scope f cdv A outer s H E) [] σ' H' s'->RelV v u->Q v H'->CE outer P w H s Q u s':=
  fun {σ' H' v u} J rv q=>⟨v,H',J.os,J.bare,J.base,J.hok,rv,q⟩
 cases fl with
 |ret u=>
  obtain⟨v,σ',H',J,rv,q⟩:=hs;exact fin J rv q
 |next=>
  obtain⟨σ',H',J,q⟩:=hs;exact fin (v:=V.non) (u:=Value.none) J rfl q
 |brk=>
  obtain⟨_,_,_,q⟩:=hs;exact False.elim q
 |cont=>
  obtain⟨_,_,_,q⟩:=hs;exact False.elim q
section
variable {X:Cx}{x:Str}{p pos:Pos}{e:Expr}{es:List Expr}{t:TA}{id T:String}{r:List V->Hp->VK->Prop}
def tCB(r:List V->Hp->VK->Prop)(t:TA):TE:=fun σ H Q=>t σ H fun vs H1=>r vs H1 Q
def Qm(hc:WW X (.builtin id) r)(hg:Gl X x)(hm:X.mg x=none)(hv:bootBuiltins x=some (.builtin id))(ha:PA X (e::es) t)(hn:x≠"__name__":=by decide)(hdb:(x==("__debug__" : Str))=false:=by decide)(he:starEach (e::es) X.env=(false,eval e X.env)::starEach es X.env:=by rfl)(hpl:(backTo pos (starEach es X.env)).any (·.1)=false:=by rfl):PE X (.Call (.Name x p) (e::es) [] pos) (tCB r t):=by
 intro pins s σ H Q I h;refine wpAny_Call_Name_kw (Va I hg hm hv ?_ hn hdb);exact PyProof.Rows.callWith_builtin1 (thn (ha pos pins s σ H _ I h) fun us s1 ⟨vs,H1,I1,r1,q1⟩=>hc pins s1 σ H1 vs us Q I1 r1 q1) he hpl
def Ve(hc:WW X (.type T) r)(hg:Gl X x)(hm:X.mg x=none)(hv:bootBuiltins x=some (.type T))(ha:PA X (e::es) t)(hn:x≠"__name__":=by decide)(hdb:(x==("__debug__" : Str))=false:=by decide)(he:starEach (e::es) X.env=(false,eval e X.env)::starEach es X.env:=by rfl)(hpl:(backTo pos (starEach es X.env)).any (·.1)=false:=by rfl):PE X (.Call (.Name x p) (e::es) [] pos) (tCB r t):=by
 intro pins s σ H Q I h;refine wpAny_Call_Name_kw (Va I hg hm hv ?_ hn hdb);exact Yz (thn (ha pos pins s σ H _ I h) fun us s1 ⟨vs,H1,I1,r1,q1⟩=>hc pins s1 σ H1 vs us Q I1 r1 q1) he hpl
end
end L2
namespace HT
open PySem PyProof.Rows
section
variable {prog:Program}{w:World}{A:Around}{E:Value->Shared->Prop}{s:Shared}
def SD{t b:Addr}{vs ws:List Value}{Q:Value->Shared->Prop}(ht:IsTup s.heap t vs.toArray)(hb:IsTup s.heap b ws.toArray)(hv:vs≠[])(h1:ws=[]->Q (.ref t) s)(h2:ws≠[]->Q (.ref s.heap.objs.size) {s with heap:=s.heap.push {cls:=.type "tuple",data:=.seq (vs++ws).toArray}})(hsz:vs.length+ws.length<=sizeLine):wpAny (model prog w) A (binaryOp .Add (.ref t) (.ref b)) Q E s:=by
 obtain⟨⟨cls,dd,data,sl⟩,ho,hc,n,hd⟩:=id ht;obtain⟨⟨cls2,dd2,data2,sl2⟩,ho2,hc2,n2,hd2⟩:=id hb;simp only at hc hd hc2 hd2;subst hc hd hc2 hd2;have e:vs.toArray++ws.toArray=(vs++ws).toArray:=by simp
 by_cases hw:ws=[]
 ·exact concat_meets ⟨_,ho,rfl⟩ ⟨_,ho2,rfl⟩ noFill_tuple_add seq_tuple_add YH YB (YA _ _)
   (tuple_addW1 t b vs.toArray ws.toArray n n2 dd dd2 sl sl2 (by simpa using hv) (by simp[hw])) ⟨ho,ho2,h1 hw⟩
 ·refine concat_meets ⟨_,ho,rfl⟩ ⟨_,ho2,rfl⟩ noFill_tuple_add seq_tuple_add YH YB (YA _ _)
   (tuple_addW2 t b vs.toArray ws.toArray n n2 dd dd2 sl sl2 (by simpa using hv) (by simpa using hw) (by rw[Zz,Zz];exact hsz)) ⟨ho,ho2,?_⟩
  rw[e];exact h2 hw
def sIx(n d:Nat):Option Int->Nat
 |none=>d
 |some v=>if v<0 then(v+(n:Int)).toNat else min v.toNat n
def X2(n d:Nat):sIx n d none=d:=rfl
def V7(n d k:Nat):sIx n d (some (k:Int))=min k n:=by
 show(if (k:Int)<0 then((k:Int)+(n:Int)).toNat else min (k:Int).toNat n)=min k n;rw[Z6 (by omega),ZW]
def NR(n d:Nat)(hd:d<=n)(o:Option Int):sIx n d o<=n:=by
 cases o with
 |none=>exact hd
 |some v=>
  show(if v<0 then(v+(n:Int)).toNat else min v.toNat n)<=n;by_cases hv:v<0
  ·rw[ZE hv];omega
  ·rw[Z6 hv];exact Nat.min_le_right _ _
def XO(v:Int)(n d:Nat):(if v<0 then max (v+(n:Int)) 0 else min v (n:Int))=((sIx n d (some v):Nat):Int):=by
 show(if v<0 then max (v+(n:Int)) 0 else min v (n:Int))=(((if v<0 then(v+(n:Int)).toNat else min v.toNat n):Nat):Int);by_cases hv:v<0
 ·simp only[ZE hv];omega
 ·simp only[Z6 hv];omega
def NI(lo hi:Option Int)(n:Nat):Builtin.Slice.sliceAdjust lo hi 1 (n:Int)=(((sIx n 0 lo:Nat):Int),((sIx n n hi:Nat):Int)):=by
 have h1:¬((1:Int)<0):=by omega
 unfold Builtin.Slice.sliceAdjust;simp only[h1,if_false];refine Prod.ext ?_ ?_
 ·cases lo with
  |none=>rfl
  |some v=>exact XO v n 0
 ·cases hi with
  |none=>rfl
  |some v=>exact XO v n n
def Si(i j:Nat):Builtin.Slice.slicePlaces (i:Int) (j:Int) 1=j-i:=by
 unfold Builtin.Slice.slicePlaces;have h1:(1:Int)>0:=by omega
 simp only[h1,if_true,Int.ediv_one];split<;>omega
def UZ{v:Value}{o:Option Int}{Q:Option Int->Shared->Prop}(p:IsPart v o)(h:Q o s):wpAny (model prog w) A (Builtin.Slice.slicePartIndex v) Q E s:=by
 cases p with
 |none=>exact slicePart_none h
 |int i t=>exact slicePart_int h
def K7{sl:Addr}{vl vu:Value}{lo hi:Option Int}{n:Nat}{Q:Int×Int×Nat->Shared->Prop}(hs:s.heap.IsSliceOf sl vl vu .none)(pl:IsPart vl lo)(pu:IsPart vu hi)(h:Q (((sIx n 0 lo:Nat):Int),1,sIx n n hi-sIx n 0 lo) s):wpAny (model prog w) A (Builtin.Slice.sliceApplied (.ref sl) (pure (n:Int))) Q E s:=by
 obtain⟨os,hos,hcs,hds⟩:=id hs;unfold Builtin.Slice.sliceApplied Builtin.Slice.sliceFields;refine Zs (Zs (Y3 hos hds (x:=vl) rfl (Zs (Y3 hos hds (x:=vu) rfl (Zs (Y3 hos hds (x:=.none) rfl (Zv ?_)))))));refine Zs (slicePart_none ?_);show wpAny _ _ (if ((1:Int)==0)=true then _ else _) _ _ s;rw[Z6 (by decide)];refine Zs (UZ pl (Zs (UZ pu (Zs (Zv ?_)))));show wpAny _ _ (match Builtin.Slice.sliceAdjust lo hi 1 (n:Int)with|(lo,hi)=>pure (lo,(1:Int),Builtin.Slice.slicePlaces lo hi 1)) _ _ s
 rw[NI lo hi n];show wpAny _ _ (pure (((sIx n 0 lo:Nat):Int),(1:Int),Builtin.Slice.slicePlaces ((sIx n 0 lo:Nat):Int) ((sIx n n hi:Nat):Int) 1)) _ _ s;rw[Si];exact Zv h
def NO(xs:Array Value)(i k:Nat):((List.range k).filterMap fun(m:Nat)=>xs[((i:Int)+(m:Int)*1).toNat]?).toArray=((xs.toList.drop i).take k).toArray:=by
 have e:(fun(m:Nat)=>xs[((i:Int)+(m:Int)*1).toNat]?)=fun m=>xs[i+m]?:=by
  funext m
  have:((i:Int)+(m:Int)*1).toNat=i+m:=by omega
  rw[this]
 rw[e]
 have:=pick_run xs i k
 rw[List.filterMap_map]at this;have e2:((fun x=>xs[x]?)∘fun x=>i+x)=fun m=>xs[i+m]?:=rfl;rw[e2]at this;rw[this]
def NS{t sl:Addr}{items:Array Value}{vl vu:Value}{lo hi:Option Int}{Q:Value->Shared->Prop}(ht:IsTup s.heap t items)(hs:s.heap.IsSliceOf sl vl vu .none)(pl:IsPart vl lo)(pu:IsPart vu hi)(hw:¬(sIx items.size 0 lo=0/\sIx items.size items.size hi=items.size))(h:Q (.ref s.heap.objs.size) {s with heap:=s.heap.push {cls:=.type "tuple",data:=.seq ((items.toList.drop (sIx items.size 0 lo)).take (sIx items.size items.size hi-sIx items.size 0 lo)).toArray}})(hsz:items.size<=sizeLine):wpAny (model prog w) A (getItem (.ref t) (.ref sl)) Q E s:=by
 have htake:sizeOk (.seq ((items.toList.drop (sIx items.size 0 lo)).take (sIx items.size items.size hi-sIx items.size 0 lo)).toArray):=by
  show((items.toList.drop (sIx items.size 0 lo)).take (sIx items.size items.size hi-sIx items.size 0 lo)).toArray.size<=sizeLine;rw[Zz,Ya,Wa,Yn];omega
 have hj:sIx items.size items.size hi<=items.size:=NR _ _ (Z3 _) hi;obtain⟨os,hos,hcs,hds⟩:=id hs;have hTs:s.TypeIs (.ref sl) "slice":=⟨os,hos,hcs⟩;unfold getItem
 try with_reducible refine wpAny_holding ?_
 first|refine Zs (Zv ?_)|skip
 refine Zs (wpAny_sequenceKey ht.typeIs (by decide) ?_)
 refine Zs (YC (name:=Str.ofString "__getitem__") ht.typeIs YM
  (Y1 YM ht.typeIs entry_tuple_getitem ?_ (args_tuple_getitem _ _)))
 show wpAny _ _ (Builtin.Tuple.tupleItemsOf (.ref t) >>= _) _ _ s;refine Zs (tupleItemsOf_ ht ?_);refine Zs (wpAny_typeOf hTs ?_);rw[ZE (by decide)];refine Zs (K7 hs pl pu ?_)
 have hno:¬((((sIx items.size 0 lo:Nat):Int)==0&&(1:Int)==1&&(sIx items.size items.size hi-sIx items.size 0 lo)==items.size)=true):=by
  intro q;rw[ZR,ZR]at q;have q1:((sIx items.size 0 lo:Nat):Int)=0:=eq_of_beq q.1.1;have q2:sIx items.size items.size hi-sIx items.size 0 lo=items.size:=eq_of_beq q.2;exact hw ⟨by omega,by omega⟩
 show wpAny _ _ (if (((sIx items.size 0 lo:Nat):Int)==0&&(1:Int)==1&&(sIx items.size items.size hi-sIx items.size 0 lo)==items.size)=true then _ else _) _ _ s;rw[Z6 hno,NO]
 first
  |exact Zs (m:=Builtin.Tuple.tupleExact _) (ZJ (Zv ⟨_,rfl,Zv h⟩) htake)
  |exact Zs (m:=Builtin.Tuple.tupleExact _) (ZJ (Zs (Zv (Zv ⟨_,rfl,Zv h⟩))) htake)
  |exact Zs (Zs (m:=Builtin.Tuple.tupleExact _) (ZJ (Zv (Zv ⟨_,rfl,Zv h⟩)) htake))
  |exact Zs (Zs (m:=Builtin.Tuple.tupleExact _) (ZJ (Zv ⟨_,rfl,Zv h⟩) htake))
end
end HT
namespace L2
open PySem PySem.Spec PyProof.Rows
abbrev TO:=St->Hp->(Option Int->Hp->Prop)->Prop
def PO(X:Cx)(e:Option Expr)(t:TO):Prop:=
 ∀(pins:List (Addr×Obj)) (s:Shared) (σ:St) (H:Hp) (Q:Option Int->Hp->Prop),Inv X pins σ H s->t σ H Q->
  wpAny (model X.prog X.w) X.A (evalPart e X.env) (fun u s'=>∃o H',Inv X pins σ H' s'/\IsPart u o/\Q o H') X.xe s
def Xb:TO:=fun _ H Q=>Q none H
def UD(t:TE):TO:=fun σ H Q=>t σ H fun x H1=>∃i,x=.int i/\Q (some i) H1
def JT{ns:List Int}:∀{us:List Value},Vals (ns.map V.int) us->IntsAre us ns:=by
 induction ns with
 |nil=>intro us r;rw[List.map_nil]at r;cases r;exact .nil
 |cons n ns ih=>
  intro us r;rw[Z4]at r;cases r with
  |cons r1 r2=>
   obtain⟨t,e⟩:=r1;subst e;exact .cons n t (ih r2)
section
variable {X:Cx}{e:Expr}{te:TE}{lo hi:Option Expr}{tl th:TO}{pos p2:Pos}
def Kj:PO X none Xb:=by
 intro pins s σ H Q I h;rw[evalPart_none];exact Zv ⟨none,H,I,.none,h⟩
def XH(h:PE X e te):PO X (some e) (UD te):=by
 intro pins s σ H Q I hw;rw[evalPart_some];refine thn (h pins s σ H _ I hw) fun u s1 ⟨x,H1,I1,r1,q1⟩=>?_;obtain⟨i,rfl,q⟩:=q1;obtain⟨t,rfl⟩:=r1;exact⟨some i,H1,I1,.int i t,q⟩
def SlR(X:Cx)(r:V->Option Int->Option Int->Hp->VK->Prop):Prop:=
 ∀(pins:List (Addr×Obj)) (s:Shared) (σ:St) (H:Hp) (x:V) (v vl vu:Value) (lo hi:Option Int) (sl:Addr) (Q:VK),Inv X pins σ H s->RelV x v->s.heap.IsSliceOf sl vl vu .none->IsPart vl lo->IsPart vu hi->r x lo hi H Q->
  ∃T id,typeLookup (.type T) "__getitem__"=pure (some (.builtin id))/\s.TypeIs v T/\wpAny (model X.prog X.w) X.A (getItem v (.ref sl)) (EP X pins σ Q) X.xe s
def tSl(r:V->Option Int->Option Int->Hp->VK->Prop)(te:TE)(tl th:TO):TE:=fun σ H Q=>te σ H fun x H1=>tl σ H1 fun l H2=>th σ H2 fun u H3=>r x l u H3 Q
def X0{r:V->Option Int->Option Int->Hp->VK->Prop}(hr:SlR X r)(he:PE X e te)(hl:PO X lo tl)(hu:PO X hi th):PE X (.Subscript e (.Slice lo hi none p2) pos) (tSl r te tl th):=by
 intro pins s σ H Q I h;refine Subscript_ (thn (he pins s σ H _ I h) fun v s1 ⟨x,H1,I1,r1,q1⟩=>?_);refine wpAny_Slice (thn (hl pins s1 σ H1 _ I1 q1) fun vl s2 ⟨l,H2,I2,pl,q2⟩=>thn (hu pins s2 σ H2 _ I2 q2) fun vu s3 ⟨u,H3,I3,pu,q3⟩=>?_);rw[evalPart_none];refine Zv ?_;have I4:Inv X pins σ H3 {s3 with heap:=s3.heap.push {cls:=.type "slice",data:=.fields #[vl,vu,.none]}}:=I3.kept (t':=s3.toks) fun b ob q=>Zx _ q
 obtain⟨T,id,hT,ht,hg⟩:=hr pins {s3 with heap:=s3.heap.push {cls:=.type "slice",data:=.fields #[vl,vu,.none]}} σ H3 x v vl vu l u s3.heap.objs.size Q I4 r1 (Heap.IsSliceOf.new ..) pl pu q3
 show wpAny (model X.prog X.w) X.A (subscriptTail e (.Slice lo hi none p2) v (.ref s3.heap.objs.size)) (EP X pins σ Q) X.xe {s3 with heap:=s3.heap.push {cls:=.type "slice",data:=.fields #[vl,vu,.none]}}
 exact tail_any (ops:=[.ref s3.heap.objs.size,v]) ht hT hg (by with_unfolding_all rfl)
def cutV(xs:List V)(lo hi:Option Int):List V:=(xs.drop (HT.sIx xs.length 0 lo)).take (HT.sIx xs.length xs.length hi-HT.sIx xs.length 0 lo)
def UF(xs:List V)(lo hi:Option Int):(cutV xs lo hi).length<=xs.length:=by
 unfold cutV;rw[Ya,Wa];omega
def rSlT(K:Za):V->Option Int->Option Int->Hp->VK->Prop:=fun x lo hi H Q=>∃a xs,x=.ref a/\SqT K H a xs/\
 ¬(HT.sIx xs.length 0 lo=0/\HT.sIx xs.length xs.length hi=xs.length)/\∀p,H p=none->Q (.ref p) (upd H p (.tup (cutV xs lo hi)))
def Kz:SlR X (rSlT X.K):=by
 intro pins s σ H x v vl vu lo hi sl Q I rx hs pl pu h;obtain⟨a,xs,rfl,hx,hw,q⟩:=h;cases rx
 obtain⟨its,r,ht,hz⟩:=I.tuple hx;have hlen:its.toArray.size=xs.length:=by rw[Zz];exact r.length.symm
 refine⟨"tuple",_,PyProof.Rows.slot_tuple_getitem.lookup,ht.typeIs,?_⟩;refine HT.NS ht hs pl pu (by rw[hlen];exact hw) ?_ (by rw[hlen];exact hz);rw[hlen];refine⟨.ref s.heap.objs.size,_,I.laid (t':=s.toks) (o:=.tup (cutV xs lo hi)) (fun b ob q=>Zx _ q) (Z3 _) ?_,rfl,q _ (I.hok.fresh (Z3 _))⟩;exact⟨ZA (UF xs lo hi) hz,_,(r.drop (HT.sIx xs.length 0 lo)).take (HT.sIx xs.length xs.length hi-HT.sIx xs.length 0 lo),IsTup.new _ _⟩
def Pn(K:Za):R2:=fun x y H Q=>∃a b xs ys,x=.ref a/\y=.ref b/\SqT K H a xs/\SqT K H b ys/\xs≠[]/\xs.length+ys.length<=sizeLine/\
 (ys=[]->Q (.ref a) H)/\(ys≠[]->∀p,H p=none->Q (.ref p) (upd H p (.tup (xs++ys))))
def Vals.nil_iff {xs:List V}{us:List Value} (r:Vals xs us):us=[]↔xs=[]:=by
 cases r with
 |nil=>simp
 |cons _ _=>simp
def Sf:OpR X (binaryOp .Add) (Pn X.K):=by
 intro pins s σ H x y v u Q I rx ry h;obtain⟨a,b,xs,ys,rfl,rfl,ha,hb,hx,hz,q1,q2⟩:=h;cases rx
 cases ry
 obtain⟨its,r1,p1,_⟩:=I.tuple ha;obtain⟨its2,r2,p2,_⟩:=I.tuple hb;refine HT.SD p1 p2 (fun z=>hx (r1.nil_iff.mp z)) (fun z=>⟨.ref a,H,I,rfl,q1 (r2.nil_iff.mp z)⟩) (fun z=>?_) (by rw[←r1.length,←r2.length];exact hz);refine⟨.ref s.heap.objs.size,_,I.laid (t':=s.toks) (o:=.tup (xs++ys)) (fun b ob q=>Zx _ q) (Z3 _) ?_,rfl,q2 (fun w=>z (r2.nil_iff.mpr w)) _ (I.hok.fresh (Z3 _))⟩;exact⟨by rw[ZF];exact hz,_,r1.append r2,IsTup.new _ _⟩
end
def ixN(n:Nat)(i:Int):Option Nat:=if 0<=i then(if i<n then some i.toNat else none)else if -(n:Int)<=i then some (i+n).toNat else none
def atI{α:Type}(xs:List α)(i:Int):Option α:=(ixN xs.length i).bind fun j=>xs[j]?
def Nw{n:Nat}{i:Int}{j:Nat}(h:ixN n i=some j):seqIndex? i n=some j/\j<n/\-(n:Int)<=i/\i<n:=by
 unfold ixN at h;by_cases h0:0<=i
 ·rw[ZE h0]at h;by_cases h1:i<n
  ·rw[ZE h1]at h;have e:i.toNat=j:=Z0 h;exact⟨by rw[seqIndex_of h0 h1,e],by omega,by omega,h1⟩
  ·rw[Z6 h1]at h;cases h
 ·rw[Z6 h0]at h;by_cases h1:-(n:Int)<=i
  ·rw[ZE h1]at h;have e:(i+n).toNat=j:=Z0 h;exact⟨by rw[seqIndex_neg (by omega) h1,e],by omega,h1,by omega⟩
  ·rw[Z6 h1]at h;cases h
def Uc{α:Type}{xs:List α}{i:Int}{v:α}(h:atI xs i=some v):∃j,seqIndex? i xs.length=some j/\xs[j]?=some v/\j<xs.length/\-(xs.length:Int)<=i/\i<xs.length:=by
 unfold atI at h;cases e:ixN xs.length i with
 |none=>rw[e]at h;cases h
 |some j=>
  rw[e]at h;obtain⟨h1,h2,h3,h4⟩:=Nw e;exact⟨j,h1,h,h2,h3,h4⟩
def QG{α:Type}{xs:List α}{j:Nat}{v:α}(h:xs[j]?=some v):atI xs (j:Int)=some v:=by
 have hj:j<xs.length:=(ZM.mp h).1
 have e:ixN xs.length (j:Int)=some j:=by
  unfold ixN;rw[ZE (by omega),ZE (by omega)];simp
 unfold atI;rw[e];exact h
def UQ(b:Expr):Prop:=∀o i,subscripted b false o i=operate [o,i] (getItem o i)
def IxR(X:Cx)(r:R2):Prop:=
 ∀(value slice:Expr) (pins:List (Addr×Obj)) (s:Shared) (σ:St) (H:Hp) (x y:V) (v u:Value) (Q:VK),Inv X pins σ H s->RelV x v->RelV y u->r x y H Q->
  subscripted slice false v u=operate [v,u] (getItem v u)->wpAny (model X.prog X.w) X.A (subscriptTail value slice v u) (EP X pins σ Q) X.xe s
def MtR(X:Cx)(id:String)(r:V->List V->Hp->VK->Prop):Prop:=
 ∀(pins:List (Addr×Obj)) (s:Shared) (σ:St) (H:Hp) (x:V) (xs:List V) (v:Value) (us:List Value) (Q:VK),Inv X pins σ H s->RelV x v->Vals xs us->r x xs H Q->
  wpAny (model X.prog X.w) X.A (call (.builtin id) (v::us)) (EP X pins σ Q) X.xe s
section
variable {X:Cx}{a b:Expr}{ta tb:TE}{pos:Pos}
def IxR.or {r r':R2} (h:IxR X r) (h':IxR X r'):IxR X (fun x y H Q=>r x y H Q\/r' x y H Q):=by
 intro value slice pins s σ H x y v u Q I rx ry q hs;rcases q with q|q
 ·exact h value slice pins s σ H x y v u Q I rx ry q hs
 ·exact h' value slice pins s σ H x y v u Q I rx ry q hs
def Nd{r:R2}(hr:IxR X r)(ha:PE X a ta)(hb:PE X b tb)(hs:UQ b):PE X (.Subscript a b pos) (tOp r ta tb):=by
 intro pins s σ H Q I h;exact Subscript_ (binT ha hb I h fun v u s2 x y H2 I2 rx ry q=>hr a b pins s2 σ H2 x y v u Q I2 rx ry q (hs _ _))
def rIxL(K:Za):R2:=fun x y H Q=>∃p xs i v,x=.ref p/\y=.int i/\SqL K H p xs/\atI xs i=some v/\Q v H
def rIxT(K:Za):R2:=fun x y H Q=>∃p xs i v,x=.ref p/\y=.int i/\SqT K H p xs/\atI xs i=some v/\Q v H
def ix_list:IxR X (rIxL X.K):=by
 intro value slice pins s σ H x y v u Q I rx ry h hs;obtain⟨p,xs,i,z,rfl,rfl,hq,he,q⟩:=h;cases rx
 obtain⟨t,rfl⟩:=ry;obtain⟨its,r,pl,hz⟩:=I.list hq;obtain⟨j,h1,h2,h3,h4,h5⟩:=Uc he;obtain⟨w,ew,rw'⟩:=r.get h2;have hl:=r.length;have hn:=Vi;have fin:EP X pins σ Q w s:=⟨z,H,I,rw',q⟩;by_cases h0:0<=i
 ·have hj:i.toNat=j:=by
   rw[seqIndex_of h0 h5]at h1;exact Z0 h1
  exact item_listR pl.isList h0 (by omega) (by rw[hj];simpa using ew) fin hs
 ·have hj:(i+(its.toArray.size:Int)).toNat=j:=by
   rw[seqIndex_neg (by omega) h4]at h1;rw[Zz,←hl];exact Z0 h1
  exact subscriptTail_builtinR (x:=w) pl.isList.typeIs slot_list_getitem.lookup
   (wpAny_getItem_list_neg (Q:=fun r s'=>r=w/\EP X pins σ Q r s') pl.isList (by omega) (by rw[Zz]<;>omega) (by omega) (by rw[hj];simpa using ew) ⟨rfl,fin⟩) hs
def Ny:IxR X (rIxT X.K):=by
 intro value slice pins s σ H x y v u Q I rx ry h hs;obtain⟨p,xs,i,z,rfl,rfl,hq,he,q⟩:=h;cases rx
 obtain⟨t,rfl⟩:=ry;obtain⟨its,r,pl,hz⟩:=I.tuple hq;obtain⟨j,h1,h2,h3,h4,h5⟩:=Uc he;obtain⟨w,ew,rw'⟩:=r.get h2;have hl:=r.length;have hn:=Vi;have fin:EP X pins σ Q w s:=⟨z,H,I,rw',q⟩
 exact subscriptTail_builtinR (x:=w) pl.typeIs slot_tuple_getitem.lookup
  (getItem_tuple (j:=j) (Q:=fun r s'=>r=w/\EP X pins σ Q r s') pl (by omega) (by omega) (by rw[Zz,←hl];exact h1) (by simpa using ew) ⟨rfl,fin⟩) hs
def Tn(lo hi:Option Int)(n:Nat):(sliceBounds lo hi none n).1=((HT.sIx n 0 lo:Nat):Int)/\(sliceBounds lo hi none n).2.1=((HT.sIx n n hi:Nat):Int)/\(sliceBounds lo hi none n).2.2=1:=by
 refine⟨?_,?_,rfl⟩
 ·cases lo with
  |none=>simp[sliceBounds,HT.sIx]
  |some i=>
   simp only[sliceBounds,HT.sIx,Option.getD_none,show(1:Int)>0 by decide,if_true];by_cases h:i<0
   ·simp only[h,if_true]<;>omega
   ·simp only[h,if_false]<;>omega
 ·cases hi with
  |none=>simp[sliceBounds,HT.sIx]
  |some i=>
   simp only[sliceBounds,HT.sIx,Option.getD_none,show(1:Int)>0 by decide,if_true];by_cases h:i<0
   ·simp only[h,if_true]<;>omega
   ·simp only[h,if_false]<;>omega
def KL(its:List Value)(lo hi:Option Int):slicePick its.toArray lo hi none=((its.drop (HT.sIx its.length 0 lo)).take (HT.sIx its.length its.length hi-HT.sIx its.length 0 lo)).toArray:=by
 obtain⟨h1,h2,h3⟩:=Tn lo hi its.toArray.size;unfold slicePick;rw[h1,h2,h3];simp only[sliceRange_one,pick_run,Zz]<;>rfl
def rSlL(K:Za):V->Option Int->Option Int->Hp->VK->Prop:=fun x lo hi H Q=>∃a xs,x=.ref a/\SqL K H a xs/\∀p,H p=none->Q (.ref p) (upd H p (.lst (cutV xs lo hi)))
def SM:SlR X (rSlL X.K):=by
 intro pins s σ H x v vl vu lo hi sl Q I rx hs pl pu h;obtain⟨a,xs,rfl,hx,q⟩:=h;cases rx
 obtain⟨its,r,ht,hz⟩:=I.list hx;have hlen:=r.length;refine⟨"list",_,slot_list_getitem.lookup,ht.isList.typeIs,?_⟩;refine wpAny_getItem_list_slice ht.isList hs pl pu .none (by simp) ?_ (by rw[Zz]<;>omega);rw[KL,←hlen];refine⟨.ref s.heap.objs.size,_,I.laid (t':=s.toks) (o:=.lst (cutV xs lo hi)) (fun b ob q=>Zx _ q) (Z3 _) ?_,rfl,q _ (I.hok.fresh (Z3 _))⟩;exact⟨ZA (UF xs lo hi) hz,_,0,(r.drop (HT.sIx xs.length 0 lo)).take (HT.sIx xs.length xs.length hi-HT.sIx xs.length 0 lo),Z2 _ rfl⟩
def WN:V->Bool
 | .non=>true
 | .bl _=>true
 | .int _=>true
 | .str _=>true
 |_=>false
def eqV:V->V->Bool
 | .non,.non=>true
 | .bl a,.bl b=>a==b
 | .bl a,.int b=>(if a then 1 else 0)==b
 | .int a,.bl b=>a==(if b then 1 else 0)
 | .int a,.int b=>a==b
 | .str a,.str b=>a==b
 |_,_=>false
def JZ{A:Around}{s:Shared}{y x:V}{u v:Value}(ry:RelV y u)(rx:RelV x v)(fy:WN y=true)(fx:WN x=true):SeqAt.EqAt A s u v (eqV y x):=by
 cases y with
 |non=>
  cases ry
  cases x with
  |non=>cases rx;exact SeqAt.EqAt.same _
  |bl b=>cases rx;exact SeqAt.EqAt.none_bool b
  |int b=>obtain⟨t,rfl⟩:=rx;exact SeqAt.EqAt.none_int b t
  |str b=>obtain⟨t,rfl⟩:=rx;exact SeqAt.EqAt.none_str b t
  |_=>exact absurd (show false=true from fx) Zy
 |bl a=>
  cases ry
  cases x with
  |non=>cases rx;exact SeqAt.EqAt.bool_none a
  |bl b=>cases rx;exact SeqAt.EqAt.bool_bool a b
  |int b=>obtain⟨t,rfl⟩:=rx;exact SeqAt.EqAt.bool_int a b t
  |str b=>obtain⟨t,rfl⟩:=rx;exact SeqAt.EqAt.bool_str a b t
  |_=>exact absurd (show false=true from fx) Zy
 |int a=>
  obtain⟨t',rfl⟩:=ry;cases x with
  |non=>cases rx;exact SeqAt.EqAt.int_none a t'
  |bl b=>cases rx;exact SeqAt.EqAt.int_bool a t' b
  |int b=>obtain⟨t,rfl⟩:=rx;exact SeqAt.EqAt.int_int a t' b t
  |str b=>obtain⟨t,rfl⟩:=rx;exact SeqAt.EqAt.int_str a t' b t
  |_=>exact absurd (show false=true from fx) Zy
 |str a=>
  obtain⟨t',rfl⟩:=ry;cases x with
  |non=>cases rx;exact SeqAt.EqAt.str_none a t'
  |bl b=>cases rx;exact SeqAt.EqAt.str_bool a t' b
  |int b=>obtain⟨t,rfl⟩:=rx;exact SeqAt.EqAt.str_int a t' b t
  |str b=>obtain⟨t,rfl⟩:=rx;exact SeqAt.EqAt.str_str a t' b t
  |_=>exact absurd (show false=true from fx) Zy
 |_=>exact absurd (show false=true from fy) Zy
def eqU(x:V)(u:Value):Bool:=match u with
 | .none=>eqV .non x
 | .bool b=>eqV (.bl b) x
 | .int i _=>eqV (.int i) x
 | .str z _=>eqV (.str z) x
 |_=>false
def Xm{x y:V}{u:Value}(r:RelV y u)(f:WN y=true):eqU x u=eqV y x:=by
 cases y with
 |non=>cases r;rfl
 |bl b=>cases r;rfl
 |int i=>obtain⟨t,rfl⟩:=r;rfl
 |str z=>obtain⟨t,rfl⟩:=r;rfl
 |_=>exact absurd (show false=true from f) Zy
def Jy{x:V}:∀{xs:List V}{us:List Value},Vals xs us->xs.all WN=true->us.any (eqU x)=xs.any fun y=>eqV y x
 |_,_,.nil,_=>rfl
 |y::xs,u::us,.cons r t,f=>by
  rw[List.all_cons,ZR]at f;rw[Yq,Yq,Xm r f.1,Jy t f.2]
def Jv{A:Around}{s:Shared}{x:V}{v:Value}(rx:RelV x v)(fx:WN x=true):∀{xs:List V}{us:List Value},Vals xs us->xs.all WN=true->∀u∈us,SeqAt.EqAt A s u v (eqU x u)
 |_,_,.nil,_=>fun u hu=>by cases hu
 |y::xs,u::us,.cons r t,f=>fun u' hu=>by
  rw[List.all_cons,ZR]at f;rcases ZN.mp hu with rfl|hu
  ·rw[Xm r f.1];exact JZ r rx f.1 fx
  ·exact Jv rx fx t f.2 u' hu
def inV(x:V)(xs:List V):Bool:=xs.any fun y=>eqV y x
def rIn(K:Za)(neg:Bool):R2:=fun x y H Q=>∃p xs,y=.ref p/\(SqL K H p xs\/SqT K H p xs)/\WN x=true/\xs.all WN=true/\Q (.bl (if neg then !inV x xs else inV x xs)) H
def PY:OpR X (compareOp .NotIn) (rIn X.K true):=by
 intro pins s σ H x y v u Q I rx ry h;obtain⟨p,xs,rfl,hq,fx,fs,q⟩:=h;cases ry
 rcases hq with hq|hq
 ·obtain⟨its,r,pl,hz⟩:=I.list hq;refine SeqAt.notIn_listAt (eqU x) pl.isList (fun w hw=>Jv rx fx r fs w (by simpa using hw)) ⟨.bl _,H,I,rfl,?_⟩;rw[show its.toArray.any (eqU x)=its.any (eqU x) by simp,Jy r fs];exact q
 ·obtain⟨its,r,pl,hz⟩:=I.tuple hq;refine SeqAt.notIn_tupleAt (eqU x) pl (fun w hw=>Jv rx fx r fs w (by simpa using hw)) ⟨.bl _,H,I,rfl,?_⟩;rw[show its.toArray.any (eqU x)=its.any (eqU x) by simp,Jy r fs];exact q
def KS:WW X (.type "list") (fun xs H Q=>∃p ys,xs=[.ref p]/\(SqL X.K H p ys\/SqT X.K H p ys)/\∀l,H l=none->Q (.ref l) (upd H l (.lst ys))):=by
 intro pins s σ H xs us Q I r h;obtain⟨p,ys,rfl,hq,q⟩:=h;obtain⟨u,rfl,rx⟩:=vals1 r;cases rx
 have fin:∀(its:List Value),Vals ys its->ys.length<=sizeLine->∀(h':Heap) (c':Nat),(∀b o',s.heap.get? b=some o'->h'.get? b=some o')->
   h'.get? s.heap.objs.size=some {cls:=.type "list",dict:=none,data:=.seq its.toArray c',slots:=#[]}->EP X pins σ Q (.ref s.heap.objs.size) {s with heap:=h'}:=fun its r' hz h' c' kp e=>
  ⟨.ref s.heap.objs.size,_,I.laid (t':=s.toks) kp (Z3 _) (show ObjOk X.prog X.w _ h' _ (.lst ys)from⟨hz,its,c',r',e⟩),rfl,q _ (I.hok.fresh (Z3 _))⟩
 rcases hq with hq|hq
 ·obtain⟨its,r',pl,hz⟩:=I.list hq;have hlen:=r'.length;obtain⟨o,ho,hc,n,hd⟩:=pl.isList;exact call_list_seq p (.inl rfl) ho hc hd (fun h' c' kp e=>fin its r' hz h' c' kp e) (by simp only[Zz]<;>omega)
 ·obtain⟨its,r',pl,hz⟩:=I.tuple hq;have hlen:=r'.length;obtain⟨o,ho,hc,n,hd⟩:=pl;exact call_list_seq p (.inr rfl) ho hc hd (fun h' c' kp e=>fin its r' hz h' c' kp e) (by simp only[Zz]<;>omega)
def tyV(K:Za)(T:String)(x:V)(H:Hp):Prop:=match x with
 | .str _=>T = "str"
 | .int _=>T = "int"
 | .ref p=>(T = "list"/\∃xs,SqL K H p xs)\/(T = "tuple"/\∃o,K.lookup p=some o/\o.cls=.type "tuple"/\o.dict=none)\/
   (T = "dict"/\((∃kvs,H p=some (.dK kvs))\/∃kvs,H p=some (.dT kvs)))\/(T = "set"/\∃S n,H p=some (.set S n))
 |_=>False
def Sr{pins:List (Addr×Obj)}{σ:St}{H:Hp}{s:Shared}{T:String}{x:V}{v:Value}(I:Inv X pins σ H s)(r:RelV x v)(ty:tyV X.K T x H) :
  s.TypeIs v T/\∀a,v=.ref a->∃ob,s.heap.get? a=some ob/\ob.dict=none:=by
 cases x with
 |str z=>
  obtain⟨t,rfl⟩:=r;cases (show T = "str" from ty)
  exact⟨typeIs_str s z t,fun _ e=>nomatch e⟩
 |int i=>
  obtain⟨t,rfl⟩:=r;cases (show T = "int" from ty)
  exact⟨typeIs_int s i t,fun _ e=>nomatch e⟩
 |ref p=>
  cases r
  rcases ty with⟨rfl,xs,hq⟩|⟨rfl,o,hk,hc,hd⟩|⟨rfl,hk⟩|⟨rfl,S,n,hk⟩
  ·obtain⟨its,_,pl,_⟩:=I.list hq;refine⟨pl.isList.typeIs,fun a e=>?_⟩;cases e
   obtain⟨o,n,e,c,hd,_⟩:=pl;exact⟨o,e,hd⟩
  ·refine⟨⟨o,I.kIn p o hk,hc⟩,fun a e=>?_⟩;cases e
   exact⟨o,I.kIn _ o hk,hd⟩
  ·have z:∃o,s.heap.get? p=some o/\o.ExactDict:=by
    rcases hk with⟨kvs,hk⟩|⟨kvs,hk⟩
    ·obtain⟨_,_,_,_,o,_,_,e,ex,_⟩:=I.hok p _ hk;exact⟨o,e,ex⟩
    ·obtain⟨_,_,_,_,o,_,_,e,ex,_⟩:=I.hok p _ hk;exact⟨o,e,ex⟩
   obtain⟨o,e,ex⟩:=z;refine⟨⟨o,e,ex.1⟩,fun a e2=>?_⟩;cases e2
   exact⟨o,e,ex.2.1⟩
  ·obtain⟨o,_,_,_,e,ex,_⟩:=I.hok p _ hk;refine⟨⟨o,e,ex.1⟩,fun a e2=>?_⟩;cases e2
   exact⟨o,e,ex.2.1⟩
 |_=>exact False.elim ty
def tBM(K:Za)(T:String)(r:V->List V->Hp->VK->Prop)(to:TE)(t:TA):TE:=fun σ H Q=>to σ H fun x H1=>tyV K T x H1/\t σ H1 fun xs H2=>r x xs H2 Q
variable {o e:Expr}{es:List Expr}{to:TE}{t:TA}{name:Str}{apos cpos:Pos}{T id:String}{r:V->List V->Hp->VK->Prop}
def Us(pa:PlainAttrs T)(slot:Slot T name id)(hty:typeOf (.builtin id)=pure (.type "method_descriptor"))(hm:MtR X id r)(ho:PE X o to)(ha:PA X (e::es) t)(hbase:attributeBase o name X.env (eval o X.env)=eval o X.env:=by rfl)
  (hfew:((backTo cpos (starEach (e::es) X.env)).all (fun x=>!x.1)&&(backToKw cpos (keywordEach [] X.env)).all (fun x=>x.1.isSome)
   && decide ((e::es).length+([]:List Keyword).length+(if ([]:List Keyword).isEmpty then 0 else 1)<30))=true:=by rfl)
  (hline:(apos.endLine==cpos.line)=true:=by rfl) (hs:starEach (e::es) X.env=(false,eval e X.env)::starEach es X.env:=by rfl) (hplain:(backTo cpos (starEach es X.env)).any (·.1)=false:=by rfl) :
  PE X (.Call (.Attribute o name apos) (e::es) [] cpos) (tBM X.K T r to t):=by
 intro pins s σ H Q I h;refine wpAny_Call_method_late hbase hfew hline rfl (thn (ho pins s σ H _ I h) fun v s1 ⟨x,H1,I1,r1,ty,q1⟩=>?_);obtain⟨h1,h2⟩:=Sr I1 r1 ty;refine⟨T,id,pa,slot,hty,h1,h2,?_⟩;have hA:=ha cpos pins s1 σ H1 _ I1 q1;rw[hs]at hA ⊢;refine Calls.callWith_builtin (by show(false || (backTo cpos (starEach es X.env)).any (·.1))=false;rw[hplain]<;>rfl) (Calls.evalArgs_plain ?_);exact thn hA fun us s2 ⟨vs,H2,I2,r2,q2⟩=>hm pins s2 σ H2 x vs v us Q I2 r1 r2 q2
end
def MtM(X:Cx)(id:String)(r:V->List V->Hp->VK->Prop):Prop:=
 ∀(pins:List (Addr×Obj)) (s:Shared) (σ:St) (H:Hp) (x:V) (xs:List V) (v:Value) (us:List Value) (Q:VK),Inv X pins σ H s->RelV x v->Vals xs us->r x xs H Q->
  wpAny (model X.prog X.w) X.A (call (.builtin id) (v::us)) (EP X pins σ Q) X.xe s
def Vals.one:∀{x:V}{us:List Value},Vals [x] us->∃u,us=[u]/\RelV x u
 |_,_,.cons r .nil=>⟨_,rfl,r⟩
section
variable {X:Cx}{pins:List (Addr×Obj)}{σ:St}{H:Hp}{s:Shared}{l b:Addr}{xs ys zs:List V}
def Inv.lset {its its':List Value}{n:Nat}{f:Array Value->Array Value}{t':Nat} (I:Inv X pins σ H s) (hH:H l=some (.lst xs))
  (e:s.heap.get? l=some {cls:=.type "list",data:=.seq its.toArray n}) (hf:f its.toArray=its'.toArray) (hv:Vals ys its') (hz:ys.length<=sizeLine) :
  Inv X pins σ (upd H l (.lst ys)) {s with heap:=s.heap.update l (Obj.mapSeq f),toks:=t'}:=by
 have q:=PySem.IsL.update e f;rw[hf]at q;refine I.write (x:=l) (e:=l) (by rw[hH];exact trivial) (.inl rfl) (fun b' u hb hu=>(Heap.get?_update_other s.heap (Obj.mapSeq f) (Ne.symm hb)).trans hu) ⟨_,q⟩ ?_;exact⟨hz,its',_,hv,q⟩
def Inv.lstM (I:Inv X pins σ H s) (hH:H l=some (.lst xs)):xs.length<=sizeLine/\∃(its:List Value) (n:Nat),Vals xs its/\xs.length=its.length/\s.heap.get? l=some {cls:=.type "list",data:=.seq its.toArray n}:=by
 obtain⟨z,its,n,r,e⟩:=I.hok l _ hH;exact⟨z,its,n,r,r.length,e⟩
end
section
variable {X:Cx}
def Kd:V->List V->Hp->VK->Prop:=fun x vs H Q=>∃l xs y,x=.ref l/\vs=[y]/\H l=some (.lst xs)/\xs.length<sizeLine/\Q .non (upd H l (.lst (xs++[y])))
def VT:MtM X "list.append" Kd:=by
 intro pins s σ H x vs v us Q I rx rv h;obtain⟨l,xs,y,rfl,rfl,hH,hz,q⟩:=h;cases rx
 obtain⟨u,rfl,ru⟩:=rv.one;obtain⟨z,its,n,r,hl,e⟩:=I.lstM hH;refine call_meets F.slot_list_append ⟨_,e,rfl⟩ F.entry_list_append (F.args_list_append_2 _ _) (PySem.list_append l its.toArray n u (by rw[Zz];omega)) ⟨e,?_⟩;refine⟨.non,_,I.lset (its':=its++[u]) hH e (by simp) (r.append (.cons ru .nil)) ?_,rfl,q⟩;rw[ZF,List.length_singleton];omega
end
end L2
namespace Att
open PySem PySem.W PySem.Calls PyProof.Rows
def S9{P:Params}{h:Heap}:∀(ns:List Int) (vs:List Value),WellAll P h vs (ns.map WData.int)->IntsAre vs ns:=by
 intro ns
 induction ns with
 |nil=>
  intro vs w;rw[List.map_nil]at w;cases w
  exact .nil
 |cons n ns ih=>
  intro vs w;rw[Z4]at w;cases w with
  |cons a b=>
   cases a
   exact .cons _ _ (ih _ b)
def Sn{l:OpenLaw}{n:Nat}(hn:l.most=some n){P:Params}{h:Heap}{args:List WData}{vals:List Value}(hpre:l.row.toRowW.claim.pre args=true)(hwl:WellAll P h vals args) :
  ∃a vs ns,vals=[Value.ref a]/\args=[WData.list (ns.map WData.int)]/\h.get? a=some {cls:=.type "list",data:=.seq vs.toArray}/\IntsAre vs ns/\ns.length<=n:=by
 have hsh:WShape.hasAll [] args [.list .int]=true:=(pre_splitW hpre).1;have hc:l.pre.holds [] {args:=args}=true:=(pre_splitW hpre).2;obtain⟨d,r,rfl,h1,h2⟩:=hasAllW_cons hsh;obtain rfl:=hasAllW_nil h2;obtain⟨xs,rfl,h3⟩:=hasW_list h1;obtain⟨ns,rfl⟩:=items_int h3
 have hlen:ns.length<=n:=by
  unfold OpenLaw.pre at hc
  have h4:(WTm.not (.lt (.lit (.int (n:Int))) (.len (.arg 0)))).holds [] {args:=[.list (ns.map .int)]}=true:=by
   have h4:=(holds_andW hc).1;rw[hn]at h4;exact h4
  have h5:=condW_of h4 (w_not (w_lt w_lit (w_len_list (w_arg rfl))));rw[Zt]at h5;refine Nat.le_of_not_lt fun q=>?_;have q':(n:Int)<((ns.length:Nat):Int):=by omega
  first
   |(rw[Z7 q']at h5;exact absurd h5 (by decide))
   |(simp at h5;omega)
 cases hwl with
 |cons w1 w2=>
  cases w2
  cases w1 with
  |list ho hall=>exact⟨_,_,ns,rfl,rfl,ho,S9 ns _ hall,hlen⟩
def PK(l:OpenLaw)(args:List WData):l.row.toRowW.claim.post args (.bool true) args=true:=
 postW_of (r:=l.row.toRowW) (X:=(true==true))
  (show WShape.has [] (.bool true) .bool=true by first|rfl|decide|simp[WShape.has,WShape.arms,WShape.armsAll])
  (show(WTm.eq .res (.lit (.bool true))).value [] {args:=args,res:=some (.bool true),after:=args}=some (.bool (true==true))from w_eq_bool (w_res rfl) w_lit) rfl
def K8{l:OpenLaw}{n:Nat}{q:Program}{loose:List Str}{XP:(Str->Option Value)->Heap->Prop}{YP:World->Heap->Prop}{d:DefRec}(hn:l.most=some n)(hdf:d.params.defaults=[])
  (call:∀(w:World) (s₀ s₁:Shared) (mg mb:Str->Option Value) (fa:Addr) (o:Obj) (pm cd doc:Value) (a:Addr) (vs:List Value) (ns:List Int),
   Ground q loose [] XP w s₀ mg mb s₁.heap->YP w s₁.heap->
   s₁.heap.get? fa=some o->o.data=.func (docDef d.name d.params d.body d.scope pm cd doc)->s₁.heap.CodeRec cd d.name->mg d.name=some (.ref fa)->
   s₁.heap.get? a=some {cls:=.type "list",data:=.seq vs.toArray}->IntsAre vs ns->ns.length<=n->s₁.gens=#[]->
   codeAny (model l.prog w) callerA (.call (.ref fa) ⟨[.ref a],[]⟩) (fun r s'=>r=.ok (.ret (.bool true))/\OldK s₁.heap s'.heap/\s'.os=s₁.os/\AllBare s'.gens) s₁) :
  WalkO q loose XP YP l.row.toRowW d [] (fun f vs=>PySem.call f vs):=by
 intro w s₀ s₁ mg mb G Y fa o pm cd doc dV kV ho hd hcd hD hmg hg args vals as hpre hlay hrd hwl hlo;obtain rfl:dV=.none:=Dflts.none hD hdf;obtain rfl:kV=.none:=Dflts.noKw hD;obtain⟨a,vs,ns,rfl,rfl,hobj,hints,hlen⟩:=Sn hn hpre hwl;refine enter_call (codeAny_mono (call w s₀ s₁ mg mb fa o pm cd doc a vs ns G Y ho (fd_plain hd) hcd hmg hobj hints hlen hg) fun r s' hq=>?_);obtain⟨rfl,h2,h3,h4⟩:=hq;exact⟨.inl ⟨.bool true,.bool true,[],rfl,fun _=>rfl,.bool true,PK l _,fun _=>⟨List.Pairwise.nil,fun _ hm=>(nomatch hm)⟩⟩,h2,h3,h4⟩
end Att
namespace L2
open PySem PySem.Spec PyProof.Rows
def J8:∀{vs:List Value}{ns:List Int},IntsAre vs ns->Vals (ns.map V.int) vs
 |_,_,.nil=>.nil
 |_,_,.cons n t h=>.cons ⟨t,rfl⟩ (J8 h)
def Only(H:Hp):Prop:=∀b,H b=none\/∃o xs,H b=some (.frz o (.lst xs))
def NN{P:Program}{w:World}{K:Za}{mg mb:Str->Option Value}{CX:CXT}{k:Nat}{fa a:Addr}{fd:FuncData}{x:Str}{sp:Sp}{s₁:Shared}{vs:List Value}{ns:List Int}(KX:K.In s₁.heap)(hns:s₁.heap.Ns mainGlobals mg)(hb:s₁.heap.Ns builtinsNs mb)(hbb:∀x:Str,x≠"__name__"->mb x=bootBuiltins x)(hlim:s₁.heap.NoLimit)(hg:s₁.gens=#[])(ha:s₁.heap.get? a=some {cls:=.type "list",data:=.seq vs.toArray})(hi:IntsAre vs ns)(hl:ns.length<=sizeLine)(hr:Room k callerA)(F:∀base:Heap,K.In base->base.Ns mainGlobals mg->FnOk P w K mg base CX k fa fd [x] sp)(hbind:∀(s:Shared) (u:Value),BindsTo s fd ⟨[u],[]⟩ [(x,u)])(hsp:∀H:Hp,Only H->SqL K H a (ns.map V.int)->sp [.ref a] H (fun v _=>v=.bl true) fun _ _ _=>False)(hCX:∀H e s',CX [] H s₁ (fun _ _ _=>False) e s'->False) :
  codeAny (model P w) callerA (.call (.ref fa) ⟨[.ref a],[]⟩) (fun r s'=>r=.ok (.ret (.bool true))/\OldK s₁.heap s'.heap/\s'.os=s₁.os/\AllBare s'.gens) s₁:=by
 have rv:=J8 hi;have lenV:=hi.length
 have core:∀H:Hp,Only H->SqL K H a (ns.map V.int)->HOk P w H s₁.heap->(∀b,H b≠none->b=a)->(H a≠none->K.lookup a=none)->
   codeAny (model P w) callerA (.call (.ref fa) ⟨[.ref a],[]⟩) (fun r s'=>r=.ok (.ret (.bool true))/\OldK s₁.heap s'.heap/\s'.os=s₁.os/\AllBare s'.gens) s₁:=by
  intro H hO hS hok hA hK;have base_of:∀{b:Addr} {o:Obj},s₁.heap.get? b=some o->H b=none->(hidT s₁.heap H).get? b=some o:=fun e n=>P1 e n
  have noA:∀{b:Addr} {o:Obj} {es:Array DictEntry} {ep:Nat},s₁.heap.get? b=some o->o.data=.dict es ep->H b=none:=fun {b o es ep} e d=>by
   cases q:H b with
   |none=>rfl
   |some u=>
    have e':b=a:=hA b (by rw[q];simp);subst e';rw[ha]at e;cases e;have d':Data.seq vs.toArray _=Data.dict es ep:=d;cases d'
  have nsK:∀{b:Addr} {m:Str->Option Value},s₁.heap.Ns b m->(hidT s₁.heap H).Ns b m:=fun {b m} ⟨o,es,ep,e,d,r⟩=>⟨o,es,ep,base_of e (noA e d),d,r⟩
  have hKb:K.In (hidT s₁.heap H):=fun b o e=>base_of (KX b o e) (by
   cases q:H b with
   |none=>rfl
   |some u=>
    have e':b=a:=hA b (by rw[q];simp);subst e';rw[hK (by rw[q];simp)]at e;cases e)
  have hM:Mod K mg (hidT s₁.heap H):=⟨hKb,nsK hns,⟨mb,nsK hb,hbb⟩,let ⟨mc,h1,h2⟩:=hlim;⟨mc,nsK h1,h2⟩⟩;have e0:Env0 P w K mg (hidT s₁.heap H) callerA [] s₁ H:=⟨rfl,hM,fun b o e=>T2 e,YS (NT _ _),trivial,fun b hb=>absurd (show b∈([]:List Addr)from hb) (by simp),hok,.of_eq hg⟩
  refine codeAny_mono ((F _ hKb (nsK hns)).run callerA [] s₁ H ⟨[.ref a],[]⟩ [.ref a] [.ref a] _ _ hr e0 (hbind s₁ (.ref a)) (.cons rfl .nil) (hsp H hO hS)) fun r s' h=>?_;cases r with
  |error e=>exact(hCX H e s' h).elim
  |ok fl=>
   cases fl with
   |next=>exact False.elim h
   |brk=>exact False.elim h
   |cont=>exact False.elim h
   |ret u=>
    obtain⟨v,H',os,bare,un,hok',r',q⟩:=h;have q':v=.bl true:=q;subst q';obtain rfl:u=Value.bool true:=r';refine⟨rfl,OldK.of_keep fun b o e=>?_,os,bare⟩;cases q:H b with
    |none=>exact un.keep b o e q (by intro z;exact absurd (show b∈([]:List Addr)from z) (by simp)) (by simp)
    |some u=>
     rcases hO b with z|⟨ob,xs,z⟩
     ·rw[q]at z;cases z
     ·have z2:=un.frzs b ob _ z;obtain⟨e1,_⟩:=hok b _ z;obtain⟨e2,_⟩:=hok' b _ z2;rw[e]at e1;cases e1;exact e2
 cases hk:K.lookup a with
 |some o=>
  have e:=KX a o hk;rw[ha]at e;cases e
  refine core (fun _=>none) (fun _=>.inl rfl) (.inr ⟨_,vs.toArray,_,hk,rfl,rfl,rfl,by rw[Zz,lenV];exact hl,by simpa using rv⟩) (fun b u z=>by have z':(none:Option HO)=some u:=z;cases z') (fun b z=>absurd rfl z) fun z=>absurd rfl z
 |none=>
  refine core (fun b=>if b=a then some (.frz {cls:=.type "list",data:=.seq vs.toArray} (.lst (ns.map V.int)))else none) (fun b=>?_) (.inl (.inr ⟨{cls:=.type "list",data:=.seq vs.toArray},ZE rfl⟩)) (fun b u z=>?_) (fun b z=>?_) fun _=>hk
  ·by_cases hb:b=a
   ·exact .inr ⟨_,_,ZE hb⟩
   ·exact .inl (Z6 hb)
  ·by_cases hb:b=a
   ·have z':=(ZE hb).symm.trans z;cases z'
    subst hb;exact⟨ha,by rw[Zt];exact hl,vs,_,rv,ha⟩
   ·have z':=(Z6 hb).symm.trans z;cases z'
  ·by_cases hb:b=a
   ·exact hb
   ·exact absurd (Z6 hb) z
def Pg{l:PySem.W.OpenLaw}{n k:Nat}{q:Program}{loose:List Str}{XP:(Str->Option Value)->Heap->Prop}{YP:World->Heap->Prop}{d:DefRec}{K:Params->Za}{CX:World->CXT}{sp:World->Sp}{x:Str}(hn:l.most=some n)(hn2:n<=sizeLine)(hdf:d.params.defaults=[])(hr:Room k callerA)(hY:∀(w:World) (h:Heap),YP w h->(K w.params).In h)
  (F:∀(w:World) (mg:Str->Option Value) (fa:Addr) (h:Heap),(K w.params).In h->h.Ns mainGlobals mg->mg d.name=some (.ref fa)->
   ∃fd:FuncData,(∀(s:Shared) (u:Value),BindsTo s fd ⟨[u],[]⟩ [(x,u)])/\
    ∀base:Heap,(K w.params).In base->base.Ns mainGlobals mg->FnOk l.prog w (K w.params) mg base (CX w) k fa fd [x] (sp w))
  (hsp:∀(w:World) (H:Hp) (a:Addr) (ns:List Int),ns.length<=n->Only H->SqL (K w.params) H a (ns.map V.int)->sp w [.ref a] H (fun v _=>v=.bl true) fun _ _ _=>False)
  (hCX:∀(w:World) (H:Hp) (s:Shared) (e:Value) (s':Shared),CX w [] H s (fun _ _ _=>False) e s'->False) :
  PySem.W.WalkO q loose XP YP l.row.toRowW d [] (fun f vs=>PySem.call f vs):=by
 refine Att.K8 hn hdf fun w s₀ s₁ mg mb fa o pm cd doc a vs ns G Y ho hd hcd hmg hobj hints hlen hg=>?_;have KX:=hY w _ Y;obtain⟨fd,hb,hF⟩:=F w mg fa _ KX G.T.g hmg;exact NN KX G.T.g G.T.b G.T.builtins G.T.nolimit hg hobj hints (ZA hlen hn2) hr hF hb (fun H hO hS=>hsp w H a ns hlen hO hS) fun H e s'=>hCX w H s₁ e s'
def KA{l:PySem.W.OpenLaw}{n k:Nat}{q:Program}{loose:List Str}{XP:(Str->Option Value)->Heap->Prop}{YP:World->Heap->Prop}{d:DefRec}{K:Params->Za}{CX:CXT}{sp:Za->Sp}{x:Str}(hn:l.most=some n)(hn2:n<=sizeLine)(hdf:d.params.defaults=[])(hr:Room k callerA)(hY:∀(w:World) (h:Heap),YP w h->(K w.params).In h)
  (F:∀(w:World) (mg:Str->Option Value) (fa:Addr) (h:Heap),(K w.params).In h->h.Ns mainGlobals mg->mg d.name=some (.ref fa)->
   ∃fd:FuncData,(∀(s:Shared) (u:Value),BindsTo s fd ⟨[u],[]⟩ [(x,u)])/\
    ∀base:Heap,(K w.params).In base->base.Ns mainGlobals mg->FnOk l.prog w (K w.params) mg base CX k fa fd [x] (sp (K w.params)))
  (hsp:∀(K:Za) (H:Hp) (a:Addr) (ns:List Int),ns.length<=n->Only H->SqL K H a (ns.map V.int)->sp K [.ref a] H (fun v _=>v=.bl true) fun _ _ _=>False)
  (hCX:∀(H:Hp) (s:Shared) (e:Value) (s':Shared),CX [] H s (fun _ _ _=>False) e s'->False) :
  PySem.W.WalkO q loose XP YP l.row.toRowW d [] (fun f vs=>PySem.call f vs):=
 Pg (K:=K) (CX:=fun _=>CX) (sp:=fun w=>sp (K w.params)) hn hn2 hdf hr hY F (fun w H a ns h1 h2 h3=>hsp (K w.params) H a ns h1 h2 h3) fun _ H s e s'=>hCX H s e s'
def Qo(s:Stmt):Arguments:=match s with
 | .FunctionDef _ a _ _ _ _ _ _ _ _=>a
 |_=>{posonlyargs:=[],args:=[],vararg:=none,kwonlyargs:=[],kw_defaults:=[],kwarg:=none,defaults:=[]}
def Qd(s:Stmt):List Stmt:=match s with
 | .FunctionDef _ _ b _ _ _ _ _ _ _=>b
 |_=>[]
def Ww(s:Stmt):Scope:=match s with
 | .FunctionDef _ _ _ _ _ _ sc _ _ _=>sc
 |_=>{kind:=.function,names:=[],isGenerator:=false,isCoroutine:=false}
abbrev CX0:CXT:=fun _ _ _ _ _ _=>False
abbrev E0:XK:=fun _ _ _=>False
def PL{X:Cx}:Vy CX0 X E0:=fun _ _ _ _ _ _ _ h=>h.elim
structure Fun (K:Za) (x qual:Str) (st:Stmt) (f:Addr) (fd:FuncData):Prop where
 ex:∃(oc:Value) (od:Option Addr) (kV doc pm:Value) (an:Option Addr) (cdv ct:Value) (osl:Array (Option Value)),
  fd=PySem.W.fnOf x qual (Qo st) (Qd st) (Ww st) .none kV doc pm an cdv ct/\K.lookup f=some ⟨oc,od,.func fd,osl⟩/\PySem.W.codeIn K cdv qual=true
 kp:PySem.W.keepIn K (.ref f)=true
section
variable {P:Program}{w:World}{K:Za}{mg:Str->Option Value}{base:Heap}
def Fun.ok {x qual:Str}{st:Stmt}{f:Addr}{fd:FuncData}{N ps:List Str}{k:Nat}{sp:Sp} (F:Fun K x qual st f fd) (S:FnScope N ps (Ww st)) (len:∀vs H Q E,sp vs H Q E->vs.length=ps.length)
  (hbody:∀(cdv:Value) (A:Around) (outer:List Env) (s:Shared) (H:Hp) (vs:List V) (Q:VK) (E:XK),Room k (A.deeper (envOfC qual (Ww st) s.heap.objs.size f cdv))->sp vs H Q E->
   ∃t,PSs (cxOf CX0 P w K mg base N qual (Ww st) f cdv A outer s H E).nox (Qd st) t/\t {nx:=fun _ H'=>Q .non H',rt:=Q} (start N vs) H):FnOk P w K mg base CX0 (k+1) f fd ps sp:=by
 obtain⟨oc,od,kV,doc,pm,an,cdv,ct,osl,rfl,lk,hcd⟩:=F.ex;refine Nl lk hcd S len fun A outer s H vs Q E hr hsp=>?_;obtain⟨t,h,q⟩:=hbody cdv A outer s H vs Q E hr hsp;exact⟨t,h.nox,q⟩
def Fun.binds {x qual:Str}{st:Stmt}{f:Addr}{fd:FuncData}{ps:List Str} (F:Fun K x qual st f fd)
  (h:∀(kV doc pm:Value) (an:Option Addr) (cdv ct:Value) (us:List Value),us.length=ps.length->bindArgs (PySem.W.fnOf x qual (Qo st) (Qd st) (Ww st) .none kV doc pm an cdv ct) ⟨us,[]⟩=pure (ps.zip us)):Binds K fd ps []:=by
 obtain⟨oc,od,kV,doc,pm,an,cdv,ct,osl,rfl,lk,hcd⟩:=F.ex;exact .all (h kV doc pm an cdv ct)
def JV{x qual:Str}{st:Stmt}{f:Addr}{oc:Value}{od an:Option Addr}{osl:Array (Option Value)}{kV doc pm cdv ct:Value}(l:K.lookup f=some ⟨oc,od,.func (PySem.W.fnOf x qual (Qo st) (Qd st) (Ww st) .none kV doc pm an cdv ct),osl⟩)(c:PySem.W.codeIn K cdv qual=true)(k:PySem.W.keepIn K (.ref f)=true):Fun K x qual st f (PySem.W.fnOf x qual (Qo st) (Qd st) (Ww st) .none kV doc pm an cdv ct):=⟨⟨oc,od,kV,doc,pm,an,cdv,ct,osl,rfl,l,c⟩,k⟩
end
def QN{A:Around}{k:Nat}(hr:Room k A):A.units+1<cLine:=Nat.lt_of_le_of_lt (Nat.add_le_add_left (by decide:1<=64) _) hr.units
def NM{n:Nat}(h:n<=1000):n<sizeLine:=Nat.lt_of_le_of_lt h (by decide)
section
variable {X:Cx}
def pv(i:Nat){x:Str}{pos:Pos}(hN:X.N[i]?=some x:=by rfl)(hv:Vis X.env.scope x:=by first|exact Or.inl rfl|exact Or.inr (Or.inl rfl)|exact Or.inr (Or.inr rfl))(hd:(x==("__debug__" : Str))=false:=by decide)(hcd:(x==("__classdict__" : Str))=false:=by decide):PE X (.Name x pos) (tVar i):=Sd hN hv hd hcd
end
def iteF{A B:Prop}(h:B):if false=true then A else B:=by
 rw[Z6 Zy];exact h
def ite2{c A B:Prop}[Decidable c](h1:c->A)(h2:¬c->B):if c then A else B:=by
 by_cases h:c
 ·rw[ZE h];exact h1 h
 ·rw[Z6 h];exact h2 h
def Vk{c A B:Prop}[Decidable c](hc:c)(h:B):if (!decide c)=true then A else B:=by
 rw[Z7 hc];exact iteF h
def Same(H H':Hp):Prop:=∀b o,H b=some o->H' b=some o
def Same.refl (H:Hp):Same H H:=fun _ _ h=>h
def Same.trans {H H1 H2:Hp} (a:Same H H1) (b:Same H1 H2):Same H H2:=fun c o h=>b c o (a c o h)
def Same.free {H H':Hp} (e:Same H H') {l:Addr} (h:H' l=Option.none):H l=Option.none:=by
 cases q:H l with
 |none=>rfl
 |some o=>
  rw[e l o q]at h;cases h
def Same.seq {K:Za}{H H':Hp}{a:Addr}{xs:List V} (e:Same H H') (h:SqL K H a xs):SqL K H' a xs:=by
 rcases h with(h|⟨o,h⟩)|h
 ·exact .inl (.inl (e _ _ h))
 ·exact .inl (.inr ⟨o,e _ _ h⟩)
 ·exact .inr h
end L2
set_option maxHeartbeats 4000000
namespace L2
open PySem PySem.Spec PyProof.Rows
section
variable {κ:Type} [DecidableEq κ]
def valV(kvs:List (κ×V))(k:κ):Option V:=(kvs.find? fun kv=>decide (kv.1=k)).map (·.2)
def putK(kvs:List (κ×V))(k:κ)(v:V):List (κ×V):=
 if (kvs.any fun kv=>decide (kv.1=k))=true then kvs.map (fun kv=>if kv.1=k then(kv.1,v)else kv)else kvs++[(k,v)]
def Vn{p:κ×V}{r:List (κ×V)}{k:κ}(e:p.1=k):valV (p::r) k=some p.2:=by simp[valV,Ys,e]
def Vv{p:κ×V}{r:List (κ×V)}{k:κ}(e:¬p.1=k):valV (p::r) k=valV r k:=by simp[valV,Ys,e]
def VP(k:κ):∀kvs:List (κ×V),(kvs.any fun kv=>decide (kv.1=k))=(valV kvs k).isSome
 |[]=>rfl
 |p::r=>by
  rw[Yq];by_cases e:p.1=k
  ·simp only[Vn e,Z7 e,Bool.true_or,Option.isSome_some]
  ·rw[Vv e,Z9 e,Bool.false_or];exact VP k r
def Ka(kvs:List (κ×V))(k:κ)(v:V):(putK kvs k v).length<=kvs.length+1:=by
 unfold putK;split
 ·rw[Zt];omega
 ·rw[ZF,ZK,List.length_nil];omega
def Kn{kvs:List (κ×V)}{k:κ}(v:V)(h:valV kvs k=none):putK kvs k v=kvs++[(k,v)]:=by
 unfold putK;rw[VP,h];exact Z6 (by decide)
def RelO.isSome_eq {o:Option V}{u:Option Value} (r:RelO o u):o.isSome=u.isSome:=by
 cases o with
 |none=>cases u with
  |none=>rfl
  |some _=>exact(show False from r).elim
 |some _=>cases u with
  |none=>exact(show False from r).elim
  |some _=>rfl
def KV.val {kvs:List (κ×V)}{vs:List (κ×Value)} (r:KV kvs vs) (k:κ):RelO (valV kvs k) (valueAt vs k):=by
 unfold KV at r
 induction r with
 |nil=>exact True.intro
 | @cons p q ps qs h t ih=>
  obtain⟨h1,h2⟩:=h;by_cases e:p.1=k
  ·have e':q.1=k:=h1.symm.trans e;have b:valueAt (q::qs) k=some q.2:=by simp[valueAt,Ys,e']
   rw[Vn e,b];exact h2
  ·have e':¬q.1=k:=fun z=>e (h1.trans z);have b:valueAt (q::qs) k=valueAt qs k:=by simp[valueAt,Ys,e']
   rw[Vv e,b];exact ih
def KV.any {kvs:List (κ×V)}{vs:List (κ×Value)} (r:KV kvs vs) (k:κ):(kvs.any fun kv=>decide (kv.1=k))=vs.any fun kv=>decide (kv.1=k):=by
 unfold KV at r
 induction r with
 |nil=>rfl
 |cons h t ih=>rw[Yq,Yq,ih,h.1]
def KV.repl {kvs:List (κ×V)}{vs:List (κ×Value)} (r:KV kvs vs) (k:κ) {y:V}{u:Value} (ry:RelV y u) :
  KV (kvs.map fun kv=>if kv.1=k then(kv.1,y)else kv) (vs.map fun kv=>if kv.1=k then(kv.1,u)else kv):=by
 unfold KV at r ⊢
 induction r with
 |nil=>exact .nil
 | @cons p q ps qs h t ih=>
  rw[Z4,Z4];refine .cons ?_ ih;obtain⟨h1,h2⟩:=h;by_cases e:p.1=k
  ·rw[ZE e,ZE (h1.symm.trans e)];exact⟨h1,ry⟩
  ·rw[Z6 e,Z6 (fun z=>e (h1.trans z))];exact⟨h1,h2⟩
def KV.put {kvs:List (κ×V)}{vs:List (κ×Value)} (r:KV kvs vs) (k:κ) {y:V}{u:Value} (ry:RelV y u):KV (putK kvs k y) (stored vs k u):=by
 unfold putK stored;rw[r.any k];by_cases e:(vs.any fun kv=>decide (kv.1=k))=true
 ·rw[ZE e,ZE e];exact r.repl k ry
 ·rw[Z6 e,Z6 e];exact Paired.snoc r ⟨rfl,ry⟩
def KV.length {kvs:List (κ×V)}{vs:List (κ×Value)} (r:KV kvs vs):kvs.length=vs.length:=Paired.length r
end
def Vp{P:Program}{w:World}{k:Key}{u:Value}(r:RelV (kV k) u):(WT P w).is k u=true:=by
 cases k with
 |inl i=>obtain⟨t,e⟩:=(show ∃t,u=Value.int i t from r);subst e;exact KW P w i t
 |inr x=>obtain⟨t,e⟩:=(show ∃t,u=Value.str x t from r);subst e;exact Sa P w x t
def UC{P:Program}{w:World}:∀{ks:List Key}{us:List Value},Vals (ks.map kV) us->ItemsAre (WT P w) ks us
 |[],_,r=>by rw[List.map_nil]at r;cases r;exact .nil
 |k::ks,_,r=>by
  rw[Z4]at r;cases r with
  |cons h t=>exact .cons (Vp h) (UC t)
abbrev KT(H:Hp):List (List Key×V)->List (List Key×Addr×Value)->Prop:=Paired fun p q=>p.1=q.1/\H q.2.1=some (.tup (p.1.map kV))/\RelV p.2 q.2.2
def KT.val {H:Hp}{kvs:List (List Key×V)}{xs:List (List Key×Addr×Value)} (r:KT H kvs xs) (k:List Key):RelO (valV kvs k) ((atKey xs k).map (·.2)):=by
 induction r with
 |nil=>exact True.intro
 | @cons p q ps qs h t ih=>
  obtain⟨h1,_,h2⟩:=h;by_cases e:p.1=k
  ·have e':q.1=k:=h1.symm.trans e;have b:atKey (q::qs) k=some q.2:=by simp[atKey,Ys,e']
   rw[Vn e,b];exact h2
  ·have e':¬q.1=k:=fun z=>e (h1.trans z);have b:atKey (q::qs) k=atKey qs k:=by simp[atKey,Ys,e']
   rw[Vv e,b];exact ih
def KT.repl {H:Hp}{kvs:List (List Key×V)}{xs:List (List Key×Addr×Value)} (r:KT H kvs xs) (k:List Key) {y:V}{u:Value} (ry:RelV y u) :
  KT H (kvs.map fun kv=>if kv.1=k then(kv.1,y)else kv) (xs.map (putAt k u)):=by
 induction r with
 |nil=>exact .nil
 | @cons p q ps qs h t ih=>
  rw[Z4,Z4];refine .cons ?_ ih;obtain⟨h1,h2,h3⟩:=h;unfold putAt;by_cases e:p.1=k
  ·rw[ZE e,ZE (h1.symm.trans e)];exact⟨h1,h2,ry⟩
  ·rw[Z6 e,Z6 (fun z=>e (h1.trans z))];exact⟨h1,h2,h3⟩
def KT.put {H:Hp}{kvs:List (List Key×V)}{xs:List (List Key×Addr×Value)} (r:KT H kvs xs) (k:List Key) {b:Addr}{y:V}{u:Value} (hb:H b=some (.tup (k.map kV))) (ry:RelV y u) :
  KT H (putK kvs k y) (storedH xs k b u):=by
 have e:(kvs.any fun kv=>decide (kv.1=k))=(atKey xs k).isSome:=by
  rw[VP,(r.val k).isSome_eq,Option.isSome_map]
 unfold putK storedH;rw[e];by_cases q:(atKey xs k).isSome=true
 ·rw[ZE q,ZE q];exact r.repl k ry
 ·rw[Z6 q,Z6 q];exact Paired.snoc r ⟨rfl,hb,ry⟩
def KT.keeps {H H':Hp}{kvs:List (List Key×V)}{xs:List (List Key×Addr×Value)} (r:KT H kvs xs) (ht:∀b ys,H b=some (.tup ys)->H' b=some (.tup ys)):KT H' kvs xs:=
 Paired.mapP r fun _ _ z=>⟨z.1,ht _ _ z.2.1,z.2.2⟩
section
variable {P:Program}{w:World}{H:Hp}{h:Heap}{a:Addr}
def Uu{u:HO}(ok:HOk P w H h)(e:Rd H a u):ObjOk P w H h a u:=e.ok ok
def V0{kvs:List (Key×V)}(ok:HOk P w H h)(e:Rd H a (.dK kvs)):kvs.length<=sizeLine/\(a==sysModules)=false/\∃vs,KV kvs vs/\h.DictOf (WT P w) a vs:=
 show ObjOk P w H h a (.dK kvs)from Uu ok e
def P6{kvs:List (Key×V)}(ok:HOk P w H h)(e:H a=some (.dK kvs)):kvs.length<=sizeLine/\(a==sysModules)=false/\∃vs,KV kvs vs/\h.DictOf (WT P w) a vs:=V0 ok (.inl e)
def V9{ks:List Key}(ok:HOk P w H h)(e:H a=some (.tup (ks.map kV))):(tupleKind (WT P w)).is h ks a:=by
 obtain⟨_,its,r,o,h1,h2,n,h3⟩:=(show ObjOk P w H h a (.tup (ks.map kV))from ok a _ e)
 exact⟨o,its.toArray,n,h1,h2,h3,by simpa using UC r⟩
def Vz{kvs:List (List Key×V)}(ok:HOk P w H h)(e:Rd H a (.dT kvs)):kvs.length<=sizeLine/\(a==sysModules)=false/\
  ∃xs,KT H kvs xs/\h.DictOfH (tupleKind (WT P w)) a xs:=by
 obtain⟨z,y,xs,r,o,es,ep,h1,h2,h3,h4,h5⟩:=(show ObjOk P w H h a (.dT kvs)from Uu ok e)
 refine⟨z,y,xs,r,o,es,ep,h1,h2,h3,h4,fun x hx=>?_,h5⟩
 have all:∀{l:List (List Key×V)} {m:List (List Key×Addr×Value)},KT H l m->∀x∈m,(tupleKind (WT P w)).is h x.1 x.2.1:=by
  intro l m q
  induction q with
  |nil=>intro x hx;exact nomatch hx
  | @cons p q ps qs hq t ih=>
   intro x hx;rcases ZN.mp hx with e|hx
   ·subst e;exact V9 ok (by rw[←hq.1];exact hq.2.1)
   ·exact ih x hx
 exact all r x hx
def Nj{kvs:List (List Key×V)}(ok:HOk P w H h)(e:H a=some (.dT kvs)):kvs.length<=sizeLine/\(a==sysModules)=false/\
  ∃xs,KT H kvs xs/\h.DictOfH (tupleKind (WT P w)) a xs:=Vz ok (.inl e)
end
def DGet(H:Hp)(a:Addr)(y:V)(r:Option V):Prop:=
 (∃kvs k,Rd H a (.dK kvs)/\y=kV k/\r=valV kvs k)\/∃kvs k b,Rd H a (.dT kvs)/\y=.ref b/\H b=some (.tup (k.map kV))/\r=valV kvs k
def DPut(H:Hp)(a:Addr)(y v:V)(H':Hp):Prop:=
 (∃kvs k,H a=some (.dK kvs)/\y=kV k/\kvs.length<sizeLine/\H'=upd H a (.dK (putK kvs k v)))\/
 ∃kvs k b,H a=some (.dT kvs)/\y=.ref b/\H b=some (.tup (k.map kV))/\kvs.length<sizeLine/\H'=upd H a (.dT (putK kvs k v))
def DPut.k {H:Hp}{a:Addr}{kvs:List (Key×V)}{k:Key}{v:V} (e:H a=some (.dK kvs)) (hl:kvs.length<sizeLine):DPut H a (kV k) v (upd H a (.dK (putK kvs k v))):=.inl ⟨kvs,k,e,rfl,hl,rfl⟩
def DPut.t {H:Hp}{a b:Addr}{kvs:List (List Key×V)}{k:List Key}{v:V} (e:H a=some (.dT kvs)) (eb:H b=some (.tup (k.map kV))) (hl:kvs.length<sizeLine) :
  DPut H a (.ref b) v (upd H a (.dT (putK kvs k v))):=.inr ⟨kvs,k,b,e,rfl,eb,hl,rfl⟩
section
variable {X:Cx}{pins:List (Addr×Obj)}{σ:St}{H:Hp}{s:Shared}{a:Addr}{y v:V}{u r:Value}{o:Option V}{A:Around}{E:Value->Shared->Prop}
def Inv.big (I:Inv X pins σ H s):sysModules<s.heap.objs.size:=by
 have h:mainGlobals<s.heap.objs.size:=(I.mod.glob.keeps I.bk).lt;exact YT (by decide) h
def Nm{Q:Value->Shared->Prop}(hu:A.units+1<cLine)(I:Inv X pins σ H s)(g:DGet H a y (some v))(ry:RelV y u)(h:∀w' s',Inv X pins σ H s'->RelV v w'->Q w' s') :
  wpAny (model X.prog X.w) A (getItem (.ref a) u) Q E s:=by
 rcases g with⟨kvs,k,e,ey,l⟩|⟨kvs,k,b,e,ey,eb,l⟩
 ·subst ey;obtain⟨z,hd,vs,rel,dd⟩:=V0 I.hok e;obtain⟨w',hw,rw'⟩:=RelO.some_of (v:=v) (o:=valueAt vs k) (by rw[l];exact rel.val k);exact wpAny_getItem_of (Vp ry) dd.mapOf hw (h w' _ (I.tok _) rw')
 ·subst ey;cases (show u=Value.ref b from ry)
  obtain⟨z,hd,xs,rel,dd⟩:=Vz I.hok e;obtain⟨w',hw,rw'⟩:=RelO.some_of (v:=v) (o:=(atKey xs k).map (·.2)) (by rw[l];exact rel.val k);obtain⟨p,hp,hp2⟩:=Option.map_eq_some_iff.mp hw;refine wpAny_getItem_heap (tupleKind_room_in1 hu) (V9 I.hok eb) dd hp ?_;rw[hp2];exact h w' _ (I.tok _) rw'
def NU{Q:Value->Shared->Prop}(hu:A.units+1<cLine)(I:Inv X pins σ H s)(g:DGet H a y o)(ry:RelV y u)(h:∀s',Inv X pins σ H s'->Q (.bool (!o.isSome)) s') :
  wpAny (model X.prog X.w) A (compareOp .NotIn u (.ref a)) Q E s:=by
 rcases g with⟨kvs,k,e,ey,l⟩|⟨kvs,k,b,e,ey,eb,l⟩
 ·subst ey;obtain⟨z,hd,vs,rel,dd⟩:=V0 I.hok e;refine wpAny_notIn_of (Vp ry) hd dd.mapOf ?_;rw[←(rel.val k).isSome_eq,←l];exact h _ (I.tok _)
 ·subst ey;cases (show u=Value.ref b from ry)
  obtain⟨z,hd,xs,rel,dd⟩:=Vz I.hok e;refine wpAny_notIn_heap (tupleKind_room_in1 hu) (V9 I.hok eb) hd dd ?_;have q:=(rel.val k).isSome_eq;rw[Option.isSome_map]at q;rw[←q,←l];exact h _ (I.tok _)
def Jt{h':Heap}{t':Nat}{ob:HO}(I:Inv X pins σ H s)(mu:Mut (H a))(hs:Heap.SameBut a s.heap h')(he:∃q,h'.get? a=some q)(new:ObjOk X.prog X.w (upd H a ob) h' a ob) :
  Inv X pins σ (upd H a ob) {s with heap:=h',toks:=t'}:=
 I.write (x:=a) (e:=a) mu (.inl rfl) (fun b q hb z=>(hs.2 b hb).trans z) he new
def Kt{P:Program}{w:World}{H':Hp}{h':Heap}{kvs:List (Key×V)}{vs:List (Key×Value)}(z:kvs.length<=sizeLine)(hd:(a==sysModules)=false)(rel:KV kvs vs)(dd:h'.DictOf (WT P w) a vs) :
  ObjOk P w H' h' a (.dK kvs):=⟨z,hd,vs,rel,dd⟩
def Tp{H':Hp}{Q:Unit->Shared->Prop}(hu:A.units+1<cLine)(I:Inv X pins σ H s)(g:DPut H a y v H')(ry:RelV y u)(rv:RelV v r)(h:∀s',Inv X pins σ H' s'->Q () s') :
  wpAny (model X.prog X.w) A (setItem (.ref a) u r) Q E s:=by
 rcases g with⟨kvs,k,e,ey,l,eH⟩|⟨kvs,k,b,e,ey,eb,l,eH⟩
 ·subst ey eH;obtain⟨z,hd,vs,rel,dd⟩:=P6 I.hok e;have hz:vs.length<=sizeLine:=by rw[←rel.length];exact z
  have hl:(putK kvs k v).length<=sizeLine:=by have:=Ka kvs k v;omega
  refine wpAny_setItem_pairs (hsz:=hz) (Vp ry) dd fun h' dd' hs=>h _ ?_;have he:∃q,h'.get? a=some q:=let ⟨q,_,_,hq,_⟩:=dd';⟨q,hq⟩;exact Jt I (by rw[e];exact True.intro) hs he (Kt hl hd (rel.put k rv) dd')
 ·subst ey eH;cases (show u=Value.ref b from ry)
  obtain⟨z,hd,xs,rel,dd⟩:=Nj I.hok e;have hz:xs.length<=sizeLine:=by rw[←Paired.length rel];exact z
  have hl:(putK kvs k v).length<=sizeLine:=by have:=Ka kvs k v;omega
  refine wpAny_setItem_heap (hsz:=hz) (tupleKind_room_in1 hu) (V9 I.hok eb) dd fun h' dd' hs=>h _ ?_;obtain⟨q,es,ep,hq,h2,h3,h4,_,h5⟩:=dd';refine Jt I (by rw[e];exact True.intro) hs ⟨q,hq⟩ ⟨hl,hd,_,(rel.put k eb rv).keeps fun c ys ec=>?_,q,es,ep,hq,h2,h3,h4,h5⟩;rw[Wz (Ub ec e (fun z=>nomatch z))];exact ec
end
def NoSl(i:Expr):Prop:=∀ov iv,subscripted i false ov iv=operate [ov,iv] (getItem ov iv)
def NA{prog:Program}{w:World}{A:Around}{E:Value->Shared->Prop}{s:Shared}{env:Env}{value slice:Expr}{pos:Pos}{T id:String}{Q:Value->Shared->Prop}(hl:typeLookup (.type T) "__getitem__"=pure (some (.builtin id)))(hs:NoSl slice)(h:wpAny (model prog w) A (eval value env) (fun o s₁=>wpAny (model prog w) A (eval slice env) (fun i s₂=>s₂.TypeIs o T/\wpAny (model prog w) A (getItem o i) Q E s₂) E s₁) E s) :
  wpAny (model prog w) A (eval (.Subscript value slice pos) env) Q E s:=by
 refine Subscript_ (ZV h (fun o s₁ h₁=>ZV h₁ (fun i s₂ h₂=>?_) fun _ _ x=>x) fun _ _ x=>x);obtain⟨hT,h₂⟩:=h₂;unfold subscriptTail;refine Zs ?_;rw[getitemInPython_of_ne hT.not_modules];refine Zs (wpAny_specialOf hT hl ?_)
 have fin:wpAny (model prog w) A (subscripted slice false o i) (fun r s₃=>wpAny (model prog w) A (letTemporaryGo value o r >>= fun _=>pure r) Q E s₃) E s₂:=by
  rw[hs o i];exact wpAny_operating (ZV h₂ (fun r s₃ h₃=>Zs (wpAny_letTemporaryGo (Zv h₃))) fun _ _ x=>x)
 first
  |exact Zv (Zs fin)
  |exact Zs (Zv (Zs fin))
  |exact Zs fin
def Te{X:Cx}{pins:List (Addr×Obj)}{σ:St}{H:Hp}{s:Shared}{a:Addr}{y:V}{o:Option V}(I:Inv X pins σ H s)(g:DGet H a y o):s.TypeIs (.ref a) "dict":=by
 rcases g with⟨kvs,k,e,_,_⟩|⟨kvs,k,b,e,_,_,_⟩
 ·obtain⟨_,_,vs,_,dd⟩:=V0 I.hok e;exact dd.typeIs
 ·obtain⟨_,_,xs,_,dd⟩:=Vz I.hok e;exact dd.typeIs
def Ui(td ty:TE):TE:=fun σ H Q=>td σ H fun x H1=>ty σ H1 fun y H2=>∃a v,x=.ref a/\DGet H2 a y (some v)/\Q v H2
def XB(ty td:TE):TE:=fun σ H Q=>ty σ H fun y H1=>td σ H1 fun x H2=>∃a o,x=.ref a/\DGet H2 a y o/\Q (.bl (!o.isSome)) H2
def UK(td ty tv:TE):TS:=fun D σ H=>tv σ H fun v H1=>td σ H1 fun x H2=>ty σ H2 fun y H3=>∃a H4,x=.ref a/\DPut H3 a y v H4/\D.nx σ H4
section
variable {X:Cx}{o i e value:Expr}{pos pos' tpos:Pos}{td ty tv:TE}
def UG(hu:X.A.units+1<cLine)(ho:PE X o td)(hi:PE X i ty)(hs:NoSl i):PE X (.Subscript o i pos) (Ui td ty):=by
 intro pins s σ H Q I h;refine NA PySem.F.slot_dict_getitem.lookup hs (thn (ho pins s σ H _ I h) fun u s1 ⟨x,H1,I1,rx,q1⟩=>thn (hi pins s1 σ H1 _ I1 q1) fun iv s2 ⟨y,H2,I2,ry,a,v,ex,g,q2⟩=>?_);subst ex;obtain rfl:u=Value.ref a:=rx;exact⟨Te I2 g,Nm hu I2 g ry fun w' s3 I3 rw'=>⟨v,H2,I3,rw',q2⟩⟩
def NP(hu:X.A.units+1<cLine)(hi:PE X i ty)(ho:PE X o td):PC X .NotIn i o (XB ty td):=by
 intro pins s σ H Q I h;refine thn (hi pins s σ H _ I h) fun iv s1 ⟨y,H1,I1,ry,q1⟩=>thn (ho pins s1 σ H1 _ I1 q1) fun u s2 ⟨x,H2,I2,rx,a,ov,ex,g,q2⟩=>?_;subst ex;obtain rfl:u=Value.ref a:=rx;exact NU hu I2 g ry fun s3 I3=>⟨.bl (!ov.isSome),H2,I3,rfl,q2⟩
def N7(hu:X.A.units+1<cLine)(ho:PE X o td)(hi:PE X i ty)(hv:PE X value tv)(hs:swapsWith value (some (.Subscript o i pos')) pos.line X.env=pure false) :
  PS X (.Assign [.Subscript o i pos'] value pos) (UK td ty tv):=by
 intro pins s σ H D I h;refine wpAny_Assign_Subscript (thn (hv pins s σ H _ I h) fun r s1 ⟨v,H1,I1,rv,q1⟩=>thn (ho pins s1 σ H1 _ I1 q1) fun u s2 ⟨x,H2,I2,rx,q2⟩=>thn (hi pins s2 σ H2 _ I2 q2) fun iv s3 ⟨y,H3,I3,ry,a,H4,ex,g,q3⟩=>?_) hs;subst ex;obtain rfl:u=Value.ref a:=rx;exact Tp hu I3 g ry rv fun s4 I4=>⟨σ,H4,I4,q3⟩
end
def S8{P:Program}{w:World}{H:Hp}(h:Heap)(hb:sysModules<h.objs.size):ObjOk P w H (h.push {cls:=.type "dict",data:=.dict #[]}) h.objs.size (.dT []):=
 ⟨YI _,YV.mpr (Ne.symm (ZI hb)),[],.nil,_,#[],0,Z2 _ rfl,⟨rfl,rfl,rfl⟩,rfl,rfl,List.nodup_nil⟩
def Ur:TE:=fun _ H Q=>∀p,H p=none->Q (.ref p) (upd H p (.dT []))
section
variable {X:Cx}{pos:Pos}
def To:PE X (.Dict [] [] pos) Ur:=fun pins s σ H Q I h=>
 wpAny_Dict_empty ⟨.ref s.heap.objs.size,_,I.laid (a:=s.heap.objs.size) (o:=.dT []) (t':=s.toks) (fun _ _ q=>Zx _ q) (Z3 _) (S8 s.heap I.big),rfl,h _ (I.hok.fresh (Z3 _))⟩
end
end L2
set_option genInjectivity false
set_option genSizeOfSpec false
namespace Own
open PySem PySem.Spec PyProof.Rows L2
structure Def (K:Za) (mg:Str->Option Value) (x:Str) (st:Stmt) (ps:List Str):Prop where
 ex:∃f fd,Fun K x x st f fd/\mg x=some (.ref f)/\Binds K fd ps []
structure Callee (P:Program) (w:World) (K:Za) (mg:Str->Option Value) (base:Heap) (CX:CXT) (k:Nat) (x:Str) (ps:List Str) (sp:Sp):Prop where
 ex:∃f fd,FnOk P w K mg base CX k f fd ps sp/\mg x=some (.ref f)/\PySem.W.keepIn K (.ref f)=true/\(∃o:Obj,K.lookup f=some o/\o.data=.func fd)/\Binds K fd ps []
section
variable {P:Program}{w:World}{K:Za}{mg:Str->Option Value}{base:Heap}
def Callee.at {CX:CXT}{x:Str}{st:Stmt}{f:Addr}{fd:FuncData}{k:Nat}{ps:List Str}{sp:Sp} (C:Callee P w K mg base CX k x ps sp) (hm:mg x=some (.ref f)) (F:Fun K x x st f fd) (_:Def K mg x st ps):FnOk P w K mg base CX k f fd ps sp:=by
 obtain⟨f',fd',Fo,hm',_,hl,_⟩:=C.ex;rw[hm]at hm';cases hm'
 obtain⟨oc,od,kV,doc,pm,an,cdv,ct,osl,_,lk,_⟩:=F.ex;obtain⟨o',lk',hd'⟩:=hl;rw[lk]at lk';cases lk'
 cases hd'
 exact Fo
def Def.ok {x:Str}{st:Stmt}{N ps:List Str}{k:Nat}{sp:Sp} (D:Def K mg x st ps) (S:FnScope N ps (Ww st)) (len:∀vs H Q E,sp vs H Q E->vs.length=ps.length)
  (hbody:∀(f:Addr) (cdv:Value) (A:Around) (outer:List Env) (s:Shared) (H:Hp) (vs:List V) (Q:VK) (E:XK),Room k (A.deeper (envOfC x (Ww st) s.heap.objs.size f cdv))->sp vs H Q E->
   ∃t,PSs (cxOf CX0 P w K mg base N x (Ww st) f cdv A outer s H E).nox (Qd st) t/\t {nx:=fun _ H'=>Q .non H',rt:=Q} (start N vs) H):Callee P w K mg base CX0 (k+1) x ps sp:=by
 obtain⟨f,fd,F,hm,hb⟩:=D.ex;refine⟨f,fd,F.ok S len fun cdv A outer s H vs Q E hr h=>hbody f cdv A outer s H vs Q E hr h,hm,F.kp,?_,hb⟩;obtain⟨oc,od,kV,doc,pm,an,cdv,ct,osl,_,lk,_⟩:=F.ex;exact⟨_,lk,rfl⟩
end
section
variable {X:Cx}{CX:CXT}{k:Nat}{ps:List Str}{sp:Sp}{E:XK}{x:Str}{p pos:Pos}{e:Expr}{es:List Expr}{t:TA}
def Sm(C:Callee X.prog X.w X.K X.mg X.base CX k x ps sp)(hr:Room k X.A)(hx:Vy CX X E)(ha:PA X (e::es) t)(hg:Gl X x:=by rfl)(hdb:(x==("__debug__" : Str))=false:=by decide)(he:starEach (e::es) X.env=(false,eval e X.env)::starEach es X.env:=by rfl)(hpl:(backTo pos (starEach es X.env)).any (·.1)=false:=by rfl) :
  PE X (.Call (.Name x p) (e::es) [] pos) (Vl sp [] E t):=by
 obtain⟨f,fd,F,hm,hk,_,hb⟩:=C.ex;exact KY F hr hg hm hk hb .nil hx ha hdb he hpl
def Nq:WW X (.builtin "isinstance") (fun xs H Q=>∃x n t b,xs=[x,.ty n]/\TyOf X.K H x t/\PySem.W.kitOne X.K t (.type n)=some b/\Q (.bl b) H):=by
 intro pins s σ H xs us Q I rv h;obtain⟨x,n,t,b,rfl,ty,e,q⟩:=h;cases rv with
 |cons r rr=>
  cases rr with
  |cons r' rr'=>
   cases rr'
   obtain rfl:_=Value.type n:=r';exact N3 I r ty e fun tk=>⟨.bl b,H,I.tok tk,rfl,q⟩
def Nv:IxR X (fun x y H Q=>rIxL X.K x y H Q\/rIxT X.K x y H Q):=ix_list.or Ny
end
def Kf(t u:TS):TS:=fun D σ H=>∃J:L2.St->Hp->Prop,t {D with nx:=J} σ H/\∀σ' H',J σ' H'->u D σ' H'
def SE{X:Cx}{st:Stmt}{rest:List Stmt}{t u:TS}(h1:PS X st t)(h2:PSs X rest u):PSs X (st::rest) (Kf t u):=by
 intro pins s σ H D I h;obtain⟨J,h,k⟩:=h;refine wpAny_execs_cons (thn (h1 pins s σ H {D with nx:=J} I h) fun f s1 q=>?_)
 cases f with
 |next=>
  obtain⟨σ',H',I',q⟩:=q;exact h2 pins s1 σ' H' D I' (k σ' H' q)
 |ret v=>exact q
 |brk=>exact q
 |cont=>exact q
def T9(K:Za)(n:String):PySem.W.kitOne K (.type n) (.type n)=some true:=by
 unfold PySem.W.kitOne;rw[ZE (by simp)]
def Q5{α β:Type}{f:α->β}{xs:List α}{i:Int}{v:α}(h:atI xs i=some v):atI (xs.map f) i=some (f v):=by
 unfold atI at h ⊢;rw[Zt];cases e:ixN xs.length i with
 |none=>rw[e]at h;cases h
 |some j=>
  rw[e]at h;have h':xs[j]?=some v:=h;show(xs.map f)[j]?=some (f v);rw[Z5,h'];rfl
def Ue{α:Type}{xs:List α}{i:Int}{v:α}(h0:0<=i)(h:xs[i.toNat]?=some v):atI xs i=some v:=by
 have e:((i.toNat:Nat):Int)=i:=by omega
 have:=QG h
 rwa[e]at this
def WJ{H:Hp}{a:Addr}{o:HO}(h:H a=none):Same H (upd H a o):=fun b u e=>by rw[Wz (WO e h)];exact e
def N4{env:Env}(names:List (Str×NameKind))(hall:∀x∈names,x.2=.free->∃c,env.cells.lookup x.1=some c):∀cs0:List (Str×Addr),(∀x c,cs0.lookup x=some c->env.cells.lookup x=some c)->
  ∃cl:List (Str×Addr),(forIn names cs0 (fun(x:Str×NameKind) (cs:List (Str×Addr))=>if (x.2 == .free)=true then(do let c ←cellOf env x.1;pure (ForInStep.yield ((x.1,c)::cs)))else pure (ForInStep.yield cs)):Sem (List (Str×Addr)))=pure cl/\
   (∀x c,cl.lookup x=some c->env.cells.lookup x=some c)/\(∀x,(∃c,cs0.lookup x=some c)->∃c,cl.lookup x=some c)/\∀x∈names,x.2=.free->∃c,cl.lookup x.1=some c:=by
 induction names with
 |nil=>
  intro cs0 h0;exact⟨cs0,rfl,h0,fun _ h=>h,fun x hx=>by cases hx⟩
 |cons y r ih=>
  intro cs0 h0;have ih':=ih fun x hx=>hall x (ZD _ hx);obtain⟨n,k⟩:=y;by_cases hk:k=.free
  ·subst hk;obtain⟨c,hc⟩:=hall (n,.free) ZH rfl
   have h1:∀x d,List.lookup x ((n,c)::cs0)=some d->env.cells.lookup x=some d:=fun x d e=>by
    rw[ZL]at e;by_cases hx:x=n
    ·subst hx;simp at e;subst e;exact hc
    ·have:(x==n)=false:=by simpa using hx
     rw[this]at e;exact h0 x d e
   obtain⟨cl,e,p1,p2,p3⟩:=ih' ((n,c)::cs0) h1;refine⟨cl,?_,p1,fun x hx=>p2 x ?_,fun x hx hf=>?_⟩
   ·rw[List.forIn_cons];show((if (NameKind.free==NameKind.free)=true then(do let c ←cellOf env n;pure (ForInStep.yield ((n,c)::cs0)))else pure (ForInStep.yield cs0)) >>= _)=_
    rw[ZE (show(NameKind.free==NameKind.free)=true by decide)];have ec:cellOf env n=pure c:=by unfold cellOf;rw[hc]
    rw[ec];exact e
   ·rw[ZL];cases (x==n)
    ·exact hx
    ·exact⟨c,rfl⟩
   ·rcases ZN.mp hx with rfl|hx
    ·exact p2 n ⟨c,by simp[ZL]⟩
    ·exact p3 x hx hf
  ·obtain⟨cl,e,p1,p2,p3⟩:=ih' cs0 h0;refine⟨cl,?_,p1,p2,fun x hx hf=>?_⟩
   ·rw[List.forIn_cons];have hb:(k==NameKind.free)=false:=by simpa using hk
    show((if (k==NameKind.free)=true then(do let c ←cellOf env n;pure (ForInStep.yield ((n,c)::cs0)))else pure (ForInStep.yield cs0)) >>= _)=_
    rw[Z6 (by rw[hb];decide)];exact e
   ·rcases ZN.mp hx with rfl|hx
    ·exact absurd hf hk
    ·exact p3 x hx hf
def Nk{env:Env}{sc:Scope}(hall:∀x∈sc.names,x.2=.free->∃c,env.cells.lookup x.1=some c) :
  ∃cl:List (Str×Addr),closureFor sc env=pure cl/\(∀x c,cl.lookup x=some c->env.cells.lookup x=some c)/\∀x∈sc.names,x.2=.free->∃c,cl.lookup x.1=some c:=by
 obtain⟨cl,e,p1,_,p3⟩:=N4 sc.names hall [] (fun x c h=>by cases h);refine⟨cl,?_,p1,p3⟩;unfold closureFor;show((forIn sc.names ([]:List (Str×Addr)) (fun(x:Str×NameKind) (cs:List (Str×Addr))=>if (x.2 == .free)=true then(do let c ←cellOf env x.1;pure (ForInStep.yield ((x.1,c)::cs)))else pure (ForInStep.yield cs)):Sem (List (Str×Addr))) >>= fun cs=>pure cs)=pure cl
 rw[e];rfl
def WA(X:Cx)(N':List Str)(sc:Scope)(cl:List (Str×Addr))(C:Addr)(s₃:Shared)(H₃:Hp)(ex:List Addr):Cx:=
 {X with N:=N',s₀:=s₃,H₀:=H₃,env:=compEnvC sc cl C X.env,outer:=X.stack,ex:=ex,fn:=fun _=>false,pn:=[],xe:=fun _ _=>False}
structure CompOk (X:Cx) (N':List Str) (φ:List (Option Nat)) (sc:Scope):Prop where
 kind:sc.kind=.function
 okind:X.env.scope.kind=.function
 nocell:∀y∈sc.names,y.2≠.cell
 names:∀y∈sc.names,y.2=.local->sc.names.lookup y.1=some .local
 frees:∀y∈sc.names,y.2=.free->X.env.scope.names.lookup y.1=some .cell
 len:φ.length=N'.length
 pick:∀(i:Nat) (x:Str) (j:Nat),N'[i]?=some x->φ[i]?=some (some j)->X.N[j]?=some x/\sc.names.lookup x=some .free
def atStart(φ:List (Option Nat))(σ:L2.St):L2.St:=φ.map fun o=>o.bind fun j=>(σ[j]?).join
def Sub(σ σ':L2.St):Prop:=σ'.length=σ.length/\∀(i:Nat) (v:V),σ[i]?=some (some v)->σ'[i]?=some (some v)
def Sub.refl {σ:L2.St}:Sub σ σ:=⟨rfl,fun _ _ h=>h⟩
def Xf{env:Env}(hk:env.scope.kind=.function):∀{names:List (Str×NameKind)}{x:Str},names.lookup x=some .free->env.scope.names.lookup x=some .cell->
  (names.map fun(n,k)=>if (k==NameKind.free&&env.scope.kind == .function&&env.kindOf n==some .cell)then(n,NameKind.cell)else(n,k)).lookup x=some .cell
 |[],_,h,_=>by simp at h
 |(n,k)::r,x,h,hc=>by
  have ih:=@Xf env hk r x;show List.lookup x ((if (k==NameKind.free&&env.scope.kind == .function&&env.kindOf n==some .cell)=true then(n,NameKind.cell)else(n,k))::_)=_;cases hx:x==n with
  |true=>
   simp only[ZL,hx]at h;cases h
   have e:x=n:=by simpa using hx
   subst e;have hkk:env.kindOf x=some .cell:=hc;rw[hk,hkk];simp[ZL]
  |false=>
   simp only[ZL,hx]at h;by_cases hcc:(k==NameKind.free&&env.scope.kind == .function&&env.kindOf n==some .cell)=true
   ·rw[ZE hcc];simp only[ZL,hx];exact ih h hc
   ·rw[Z6 hcc];simp only[ZL,hx];exact ih h hc
def Jz{env:Env}:∀{names:List (Str×NameKind)}{x:Str}{q:NameKind},
  (names.map fun(n,k)=>if (k==NameKind.free&&env.scope.kind == .function&&env.kindOf n==some .cell)then(n,NameKind.cell)else(n,k)).lookup x=some q->∃k,(x,k)∈names/\(q=k\/k=.free)
 |[],_,_,h=>by simp at h
 |(n,k)::r,x,q,h=>by
  have ih:=@Jz env r x q;have h':List.lookup x ((if (k==NameKind.free&&env.scope.kind == .function&&env.kindOf n==some .cell)=true then(n,NameKind.cell)else(n,k))::(r.map fun(n,k)=>if (k==NameKind.free&&env.scope.kind == .function&&env.kindOf n==some .cell)then(n,NameKind.cell)else(n,k)))=some q:=h;cases hx:x==n with
  |true=>
   have e:x=n:=by simpa using hx
   subst e;by_cases hcc:(k==NameKind.free&&env.scope.kind == .function&&env.kindOf x==some .cell)=true
   ·refine⟨k,ZH,.inr ?_⟩
    have:=(ZR _ _▸(ZR _ _▸hcc).1).1
    simpa using this
   ·rw[Z6 hcc]at h';simp[ZL]at h';exact⟨k,ZH,.inl h'.symm⟩
  |false=>
   have h2:List.lookup x (r.map fun(n,k)=>if (k==NameKind.free&&env.scope.kind == .function&&env.kindOf n==some .cell)then(n,NameKind.cell)else(n,k))=some q:=by
    by_cases hcc:(k==NameKind.free&&env.scope.kind == .function&&env.kindOf n==some .cell)=true
    ·rw[ZE hcc]at h';simp only[ZL,hx]at h';exact h'
    ·rw[Z6 hcc]at h';simp only[ZL,hx]at h';exact h'
   obtain⟨k',hm,hq⟩:=ih h2;exact⟨k',ZD _ hm,hq⟩
def SH{prog:Program}{w:World}{A:Around}{R:Result->Shared->Prop}{s:Shared}{elt target iter:Expr}{ifs:List Expr}{scope:Scope}{pos:Pos}{it acc:Value}{env:Env}(I:Nat->Shared->Prop)
  (turn:∀n s,I n s->wpAny (model prog w) A (pyNext it) (fun r s₁=>match r with
   |none=>R (.ok .next) s₁
   |some v=>wpAny (model prog w) A (letOwnedTupleGo target it v) (fun _ s₁'=>wpAny (model prog w) A (assign target env v) (fun _ s₂=>
     wpAny (model prog w) A (forIn ifs true fun c r=>if r=true then do let ok ←isTrue c env (eval c env);pure (ForInStep.yield ok)else pure (ForInStep.yield r)) (fun ok s₃=>
      if ok=true then wpAny (model prog w) A (eval elt env) (fun x s₄=>
       wpAny (model prog w) A (call (.builtin "list.append") [acc,x]) (fun _ s₅=>∃m,m<n/\I m s₅) (fun _ _=>False) s₄) (fun _ _=>False) s₃
      else ∃m,m<n/\I m s₃) (fun _ _=>False) s₂) (fun _ _=>False) s₁') (fun _ _=>False) s₁) (fun _ _=>False) s)
  (n:Nat) (h:I n s) :
  codeAny (model prog w) A (.compLoop (.ListComp elt [⟨target,iter,ifs,0⟩] scope pos) 0 it acc env) R s:=by
 refine codeAny_loop rfl I (fun n s hI=>?_) n h;show wpAny _ A ((compTurn (.ListComp elt [⟨target,iter,ifs,0⟩] scope pos) 0 it acc env).onRaise (fun x=>do noteFrame x env;theTreesLotGoes x)) _ _ s
 refine wpAny_noted ?_;rw[compTurn_list];refine Zs (wpAny_standAt (Zs (ZV (turn n s hI) (fun r s₁ h₁=>?_) fun _ _ h'=>h'.elim)));cases r with
 |none=>exact Zv h₁
 |some v=>
  refine Zs (ZV h₁ (fun _ s₁' h₁'=>?_) fun _ _ h'=>h'.elim);refine Zs (ZV h₁' (fun _ s₂ h₂=>Zs (ZV h₂ (fun ok s₃ h₃=>?_) fun _ _ h'=>h'.elim)) fun _ _ h'=>h'.elim);cases ok with
  |false=>exact Zv ⟨rfl,h₃⟩
  |true=>
   exact Zs (Zs (ZV h₃ (fun x s₄ h₄=>Zs (ZV h₄ (fun _ s₅ h₅=>Zv (Zv ⟨rfl,h₅⟩)) fun _ _ h'=>h'.elim)) fun _ _ h'=>h'.elim))
def PIfs(X:Cx)(ifs:List Expr)(t:TT):Prop:=
 ∀(pins:List (Addr×Obj)) (s:Shared) (σ:L2.St) (H:Hp) (Q:Bool->Hp->Prop),Inv X pins σ H s->t σ H Q->
  wpAny (model X.prog X.w) X.A (forIn ifs true fun c r=>if r=true then do let ok ←isTrue c X.env (eval c X.env);pure (ForInStep.yield ok)else pure (ForInStep.yield r)) (TP X pins σ Q) X.xe s
def Xa:TT:=fun _ H Q=>Q true H
def Px{X:Cx}:PIfs X [] Xa:=fun _ _ _ H _ I h=>Zv ⟨H,I,h⟩
def S4{X:Cx}{c:Expr}{t:TT}(hc:PT X c t):PIfs X [c] t:=by
 intro pins s σ H Q I h;rw[List.forIn_cons];refine Zs ?_;rw[ZE rfl];exact Zs (thn (hc pins s σ H Q I h) fun b s1 q=>Zv (Zv q))
def Vq(φ:List (Option Nat))(wi:TI)(g:TG)(tc:TT)(te:TE):TE:=fun σ H Q=>wi σ H fun J H1=>∀D,H1 D=none->∃W:Nat->Nat->List V->Hp->Prop,(∃m,W 0 m [] (upd H1 D (.lst [])))/\
 ∀i m ys H2,W i m ys H2->(J.stop i H2/\Q (.ref D) H2)\/(J.go i H2/\∀x H3,J.yld i H2 x H3->g x (atStart φ σ) H3 fun σ2 H4=>Sub (atStart φ σ) σ2/\tc σ2 H4 fun b H5=>
  if b=true then te σ2 H5 fun y H6=>H6 D=some (.lst ys)/\ys.length<sizeLine/\∃m',m'<m/\W (i+1) m' (ys++[y]) (upd H6 D (.lst (ys++[y])))else ∃m',m'<m/\W (i+1) m' ys H5)
def Inv.weak {X:Cx}{pins:List (Addr×Obj)}{σ σ':L2.St}{H:Hp}{s:Shared} (I:Inv X pins σ' H s) (S:Sub σ σ'):Inv X pins σ H s:=
 ⟨I.ok,I.os,I.bare,I.base,let ⟨m,hn,hl⟩:=I.loc;⟨m,hn,fun i x v h1 h2 h3=>hl i x v h1 (S.2 i v h2) h3⟩,I.cell,I.free,I.freeC,I.pin,I.hok,by rw[←S.1];exact I.len⟩
def UJ{φ:List (Option Nat)}{σ:L2.St}{i:Nat}{v:V}(h:(atStart φ σ)[i]?=some (some v)):∃j,φ[i]?=some (some j)/\σ[j]?=some (some v):=by
 unfold atStart at h;rw[Z5]at h;cases e:φ[i]? with
 |none=>rw[e]at h;cases h
 |some o=>
  rw[e]at h;cases o with
  |none=>simp at h
  |some j=>
   refine⟨j,rfl,?_⟩;simp at h;cases e2:σ[j]? with
   |none=>rw[e2]at h;simp at h
   |some w=>rw[e2]at h;simp at h;rw[h]
def CompEnd(X:Cx)(pins:List (Addr×Obj))(σ:L2.St)(Q:VK)(use:Option (Value->Sem Unit))(QQ:Value->Shared->Prop):Prop:=
 ∀(D C:Addr) (H5:Hp) (s6:Shared),Q (.ref D) H5->Inv X pins σ H5 s6->(∃m,s6.heap.Ns C m)->H5 C=none->C≠X.env.locals->X.s₀.heap.objs.size<=C->(∀x c,X.env.cells.lookup x=some c->c≠C)->(∀p∈X.pn++pins,p.1≠C)->C∉X.fs->
  compPost (model X.prog X.w) X.A X.xe use QQ (.ref D) C (.ok .next) s6
def Kc{X:Cx}{N':List Str}{φ:List (Option Nat)}{sc:Scope}{elt iter tg:Expr}{ifs:List Expr}{pos pos':Pos}{wi:TI}{g:TG}{tc:TT}{te:TE}{use:Option (Value->Sem Unit)}{QQ:Value->Shared->Prop}(hcalm:X.calm=true)(S:CompOk X N' φ sc)(hi:PI X tg iter wi)(hin:∀cl C s₃ H₃ ex,PG (WA X N' sc cl C s₃ H₃ ex) tg g/\PIfs (WA X N' sc cl C s₃ H₃ ex) ifs tc/\PE (WA X N' sc cl C s₃ H₃ ex) elt te)(hs:∀x,foldedSetIterable iter X.env x=pure x){pins:List (Addr×Obj)}{s:Shared}{σ:L2.St}{H:Hp}{Q:VK}(I:Inv X pins σ H s)(h:Vq φ wi g tc te σ H Q)(fin:CompEnd X pins σ Q use QQ) :
  wpAny (model X.prog X.w) X.A (comprehension (.ListComp elt [⟨tg,iter,ifs,0⟩] sc pos) sc X.env pos' (newList []) false (eval iter X.env) use) QQ X.xe s:=by
 obtain⟨cl,hcl,p1,p3⟩:=Nk (env:=X.env) (sc:=sc) fun x hx hf=>I.ok.has x.1 (.inl (S.frees x hx hf));refine wpAny_comprehension_free (use:=use) rfl hs hcl S.kind S.names ?_;refine thn (hi pins s σ H _ I h) fun v s1 h1=>thn h1 fun itv s2 h2=>?_;obtain⟨it,fp,tn,J,H2,e,I2,T,st2,f2,hR⟩:=h2;subst e;refine ZJ ?_;have hf:H2 s2.heap.objs.size=none:=I2.hok.fresh (Z3 _);obtain⟨W,⟨m0,w0⟩,turn⟩:=hR s2.heap.objs.size hf;generalize eD:s2.heap.objs.size=D at *
 have I3:Inv X pins σ (upd H2 D (.lst [])) {s2 with heap:=s2.heap.push {cls:=.type "list",dict:=none,data:=.seq ([]:List Value).toArray}}:=
  I2.laid (t':=s2.toks) (fun b u e=>Zx _ e) (YS eD) ⟨YI _,[],0,.nil,by rw[←eD];exact Z2 _ rfl⟩
 have st3:tn 0 (s2.heap.push {cls:=.type "list",dict:=none,data:=.seq ([]:List Value).toArray}):=T.keep _ _ _ st2 fun b _ o e=>Zx _ e
 have hfpD:∀b∈fp,b≠D:=fun b hb z=>by
  obtain⟨o,ho,_⟩:=T.obj _ _ st2 b hb
  have:=Z1 ho
  rw[z,←eD]at this;exact Yh _ this
 have f3:∀b∈fp,FpOk X pins (upd H2 D (.lst [])) b:=fun b hb=>⟨by rw[Wz (hfpD b hb)];exact(f2 b hb).1,(f2 b hb).2⟩;generalize es3:({s2 with heap:=s2.heap.push {cls:=.type "list",dict:=none,data:=.seq ([]:List Value).toArray}}:Shared)=s3 at *
 have st3':tn 0 s3.heap:=by rw[←es3];exact st3
 generalize eH3:upd H2 D (.lst [])=H3 at *;refine wpAny_newFunctionEnv S.nocell (by intro y hy;simp at hy) (fun h₁ hns₁ hsb₁=>?_) S.kind;have hh3:s3.heap=s2.heap.push {cls:=.type "list",dict:=none,data:=.seq ([]:List Value).toArray}:=by rw[←es3]
 rw[hh3]at hns₁ hsb₁;rw[←hh3]at hns₁ hsb₁;have old:∀b o,s3.heap.get? b=some o->h₁.get? b=some o:=fun b o e=>hsb₁.extBut b o (ZI (Z1 e)) (Zx _ e)
 have hC0:s3.heap.get? s3.heap.objs.size=none:=by
  cases e:s3.heap.get? s3.heap.objs.size with
  |none=>rfl
  |some o=>exact absurd (Z1 e) (Yh _)
 generalize eC:s3.heap.objs.size=C at *;have hH3C:H3 C=none:=I3.hok.fresh (YS eC)
 have OK:(WA X N' sc cl C s3 H3 fp).Ok:=by
  refine⟨I.ok.mod,?_,I.ok.glob,I.ok.blt,YS eC,fun x y c h1 h2=>I.ok.inj x y c (p1 x c h1) (p1 y c h2),?_,(fun x c hx=>by cases hx),I.ok.hd,I.ok.frames,.inl rfl,?_,I3.bs,ZA I.ok.bsz I3.sz,?_,?_,I3.stack,I3.stkFree⟩
  ·exact S.kind
  ·intro x hx;have hx':(∃k,(x,k)∈sc.names/\(NameKind.cell=k\/k=.free))\/∃k,(x,k)∈sc.names/\(NameKind.free=k\/k=.free):=hx.imp Jz Jz
   have hfr:(x,NameKind.free)∈sc.names:=by
    rcases hx' with⟨k,hm,rfl|rfl⟩|⟨k,hm,rfl|rfl⟩
    ·exact absurd rfl (S.nocell _ hm)
    ·exact hm
    ·exact hm
    ·exact hm
   exact p3 _ hfr rfl
  ·intro b hb;refine⟨fun z=>?_,fun x c hx=>(f3 b hb).2.2.2.2.1 x c (p1 x c hx)⟩;obtain⟨o,ho,_⟩:=T.obj _ _ st3' b hb;have z':b=C:=z;rw[z',hC0]at ho;cases ho
  ·intro b o hb hx;obtain⟨_,_,_,q,_,_⟩:=f3 b hx;rcases q with q|q
   ·exact I.ok.noex b o hb q
   ·have:=ZC (Z1 hb) (ZA I.ok.bsz q)
    exact Yh _ this
  ·intro b hb hz;rcases ZN.mp (I.stkSub b hz)with q|q
   ·exact(f3 b hb).2.1 q
   ·exact(f3 b hb).2.2.1 q
 have hlen0:(atStart φ σ).length=N'.length:=by unfold atStart;rw[Zt];exact S.len
 have I4:Inv (WA X N' sc cl C s3 H3 fp) [] (atStart φ σ) H3 {s3 with heap:=h₁,toks:=s3.toks+([]:List (Str×Value)).length}:=by
  refine⟨OK,rfl,I3.bare,Un.kept old,⟨_,hns₁,fun i x v h1 h2 h3=>?_⟩,fun x c hx=>?_,hH3C,fun x c hx=>I3.freeC x c (p1 x c hx),fun p hp=>?_,I3.hok.kept old,hlen0⟩
  ·obtain⟨j,hj,hv⟩:=UJ h2;obtain⟨hN,hfr⟩:=S.pick i x j h1 hj;obtain⟨m,_,hl⟩:=I3.loc;have hm:(x,NameKind.free)∈sc.names:=Ye hfr;have hcell:=S.frees _ hm rfl;obtain⟨u,ru,lk⟩:=hl j x v hN hv (.inr (.inl hcell));refine⟨u,ru,.inr ⟨.inl (Xf S.okind hfr hcell),?_⟩⟩;obtain⟨c,hc⟩:=p3 _ hm rfl;rcases lk with⟨hk,_⟩|⟨_,c',hc',hcl'⟩
   ·have hk':X.env.scope.names.lookup x=some .local:=hk;rw[hcell]at hk';cases hk'
   ·have e:=p1 _ _ hc;rw[hc']at e;cases e
    obtain⟨o,ho,hd⟩:=hcl';exact⟨_,hc,o,old _ o ho,hd⟩
  ·obtain⟨v,hv⟩:=I3.cell x c (p1 x c hx);obtain⟨o,ho,hd⟩:=hv;exact⟨v,o,old _ o ho,hd⟩
  ·exact absurd hp (by simp[WA])
 have st4:tn 0 h₁:=T.keep _ _ _ st3' fun b _ o e=>old b o e
 have stat:∀{H':Hp},(∀b∈fp,H' b=none)->∀b∈fp,FpOk (WA X N' sc cl C s3 H3 fp) [] H' b:=fun hn b hb=>
  ⟨hn b hb,(OK.exf b hb).1,OK.exfs b hb,.inl hb,(OK.exf b hb).2,fun p hp=>absurd hp (by simp[WA])⟩
 obtain⟨hPG,hPI,hPE⟩:=hin cl C s3 H3 fp
 have loop:codeAny (model X.prog X.w) X.A (.compLoop (.ListComp elt [⟨tg,iter,ifs,0⟩] sc pos) 0 (.ref it) (.ref D) (compEnvC sc cl C X.env)) (compPost (model X.prog X.w) X.A X.xe use QQ (.ref D) C) {s3 with heap:=h₁,toks:=s3.toks+([]:List (Str×Value)).length}:=by
  refine SH (fun n s'=>∃i ys σ' H',Inv (WA X N' sc cl C s3 H3 fp) [] σ' H' s'/\Sub (atStart φ σ) σ'/\tn i s'.heap/\(∀b∈fp,H' b=none)/\W i n ys H') ?_ m0 ⟨0,[],_,_,I4,Sub.refl,st4,fun b hb=>(f3 b hb).1,w0⟩;rintro n s5 ⟨i,ys,σ5,H5,I5,sub5,st5,fr5,w5⟩;have I5':=Own.Inv.weak I5 sub5;rcases turn i n ys H5 w5 with⟨stop,qn⟩|⟨go,step⟩
  ·refine thn (T.done (WA X N' sc cl C s3 H3 fp) rfl rfl rfl hcalm i [] s5 _ H5 _ I5' (stat fr5) st5 stop) fun r s6 ⟨hr,I6⟩=>?_;subst hr;obtain⟨m,hn,_⟩:=I6.loc;obtain⟨hh,gg,dd,tt,oo⟩:=s6;obtain rfl:oo=s3.os:=I6.os;have R:Inv X pins σ H5 {s3 with heap:=hh,gens:=gg,drawn:=dd,toks:=tt}:=I3.call (ch:=fp) (h':=hh) (g':=gg) (d':=dd) (t':=tt) I6.base I6.hok I6.bare fun b hb=>⟨(f3 b hb).2.2.2.1,(f3 b hb).2.1,(f3 b hb).2.2.2.2.1,(f3 b hb).2.2.2.2.2⟩
   have hC3:s3.heap.objs.size<=C:=YS eC;obtain⟨q0,q1,q2,q3,q4,q5⟩:=I3.fpOk (b:=C) (H':=H3) hC3 hH3C;refine fin D C H5 _ qn R ⟨m,hn⟩ I6.free q1 (ZA I3.sz hC3) q4 q5 q2
  ·refine thn (T.item (WA X N' sc cl C s3 H3 fp) rfl rfl rfl hcalm i [] s5 _ H5 _ I5' (stat fr5) st5 go) fun r s6 ⟨u,hr,h6⟩=>?_;subst hr;refine thn h6 fun _ s7 ⟨x,H7,I7,r7,y7,st7,fr7⟩=>?_;have I7':=I7.pinned (stat fr7) (T.obj _ _ st7);refine thn (hPG _ s7 _ H7 x u _ I7' r7 (step x H7 y7)) fun _ s8 ⟨σ8,H8,I8,sub8,q8⟩=>?_;refine thn (hPI _ s8 σ8 H8 _ I8 q8) fun ok s9 ⟨H9,I9,q9⟩=>?_
   have again:∀{s10:Shared} {H10:Hp} {ys':List V} {m':Nat},Inv (WA X N' sc cl C s3 H3 fp) ([]++Vh fp s7.heap) σ8 H10 s10->W (i+1) m' ys' H10->∃i ys σ' H',Inv (WA X N' sc cl C s3 H3 fp) [] σ' H' s10/\Sub (atStart φ σ) σ'/\tn i s10.heap/\(∀b∈fp,H' b=none)/\W i m' ys H':=fun {s10 H10 ys' m'} J10 w10=>by
    refine⟨i+1,ys',σ8,H10,J10.unpinned,sub8,T.keep _ _ _ st7 fun b hb o e=>(J10.pin (b,o) (Z8 _ (Z8 _ (Vj hb e)))).1,fun b hb=>?_,w10⟩;obtain⟨o,e,d⟩:=T.obj _ _ st7 b hb;exact(J10.pin (b,o) (Z8 _ (Z8 _ (Vj hb e)))).2.1
   cases ok with
   |false=>
    obtain⟨m',hm,w'⟩:=q9;exact⟨m',hm,again I9 w'⟩
   |true=>
    refine thn (hPE _ s9 σ8 H9 _ I9 q9) fun xv s10 ⟨y,H10,I10,r10,hD,hl,m',hm,w'⟩=>?_;refine thn (VT _ s10 σ8 H10 (.ref D) [y] (.ref D) [xv] (fun _ H11=>H11=upd H10 D (.lst (ys++[y]))) I10 rfl (.cons r10 .nil) ⟨D,ys,y,rfl,rfl,hD,hl,rfl⟩) fun _ s11 ⟨_,H11,I11,_,e11⟩=>?_;subst e11;exact⟨m',hm,again I11 w'⟩
 refine codeAny_compStart_list loop (T.self _ 0 _ _ _ st4 loop)
def Sv{X:Cx}{N':List Str}{φ:List (Option Nat)}{sc:Scope}{elt iter tg:Expr}{ifs:List Expr}{pos:Pos}{wi:TI}{g:TG}{tc:TT}{te:TE}(hcalm:X.calm=true)(S:CompOk X N' φ sc)(hi:PI X tg iter wi)(hin:∀cl C s₃ H₃ ex,PG (WA X N' sc cl C s₃ H₃ ex) tg g/\PIfs (WA X N' sc cl C s₃ H₃ ex) ifs tc/\PE (WA X N' sc cl C s₃ H₃ ex) elt te)(hs:∀x,foldedSetIterable iter X.env x=pure x:=by intro _;rfl):PE X (.ListComp elt [⟨tg,iter,ifs,0⟩] sc pos) (Vq φ wi g tc te):=by
 intro pins s σ H Q I h;rw[eval_ListComp];refine Kc (use:=none) hcalm S hi hin hs I h fun D C H5 s6 q R hm c0 c1 c2 c3 c4 c5=>?_;obtain⟨m,hn⟩:=hm;exact⟨m,hn,fun h' sb=>⟨.ref D,H5,R.turned (it:=C) (t':=s6.toks) (fun b o hb e=>sb.extBut b o hb e) c0 c1 (.inr c2) c3 c4,rfl,q⟩⟩
def Pm{X:Cx}{N':List Str}{φ:List (Option Nat)}{sc:Scope}{elt iter tg:Expr}{ifs:List Expr}{pos spos py:Pos}{wi:TI}{g:TG}{tc:TT}{te:TE}{i:Nat}{y:Str}(hN:X.N.Nodup)(hy:X.N[i]?=some y)(hl:X.env.scope.names.lookup y=some .local)(hcalm:X.calm=true)(S:CompOk X N' φ sc)(hi:PI X tg iter wi)(hin:∀cl C s₃ H₃ ex,PG (WA X N' sc cl C s₃ H₃ ex) tg g/\PIfs (WA X N' sc cl C s₃ H₃ ex) ifs tc/\PE (WA X N' sc cl C s₃ H₃ ex) elt te)(hs:∀x,foldedSetIterable iter X.env x=pure x:=by intro _;rfl)(hsw:swapsWith (.ListComp elt [⟨tg,iter,ifs,0⟩] sc pos) (some (.Name y py)) spos.line X.env=pure true:=by rfl) :
  PS X (.Assign [.Name y py] (.ListComp elt [⟨tg,iter,ifs,0⟩] sc pos) spos) (tAsg (Vq φ wi g tc te) (QH i)):=by
 intro pins s σ H D0 I h;rw[exec_Assign_Name_used _ _ _ _ hsw];refine Zs (wpAny_standAt (Zs ?_));show wpAny _ X.A (do let _ ←comprehension (.ListComp elt [⟨tg,iter,ifs,0⟩] sc pos) sc X.env _ (newList []) false (eval iter X.env) (some (assign (.Name y py) X.env))) _ _ s
 refine Zs (ZV (Kc (use:=some (assign (.Name y py) X.env)) (QQ:=fun _ s'=>SP X pins D0 .next s') hcalm S hi hin hs I h fun D C H5 s6 q R hm c0 c1 c2 c3 c4 c5=>?_) (fun _ s' z=>Zv (Zv z)) fun _ _ e=>e);obtain⟨m,oC,es,ep,hoC,hdC,rC⟩:=hm
 have R2:Inv X (pins++[(C,oC)]) σ H5 s6:=R.pins_of fun p hp=>(Yr.mp hp).elim (fun z=>R.pin p (Z8 _ z)) fun z=>by
  rw[ZG.mp z];exact⟨hoC,c0,c1,c5,fun v e=>by rw[hdC]at e;cases e⟩
 show wpAny _ X.A (assign (.Name y py) X.env (.ref D)) _ _ _;refine wpAny_assign_Name (VC R2 hN hy (.inl hl) (v:=.ref D) (u:=.ref D) rfl (fun s7 I7=>?_) (.inr hl));have hC7:=(I7.pin (C,oC) (Z8 _ (Z8 _ (ZG.mpr rfl)))).1;refine⟨m,⟨oC,es,ep,hC7,hdC,rC⟩,fun h' sb=>?_⟩;have I8:Inv X pins (σ.set i (some (.ref D))) H5 s7:=I7.unpinned;exact⟨_,H5,I8.turned (it:=C) (t':=s7.toks) (fun b o hb e=>sb.extBut b o hb e) c0 c1 (.inr c2) c3 c4,q⟩
def XE(sc osc:Scope)(N N':List Str)(φ:List (Option Nat)):Bool:=
 sc.kind == .function&&osc.kind == .function&&(sc.names.all fun y=>y.2 != .cell&&(y.2 != .local || sc.names.lookup y.1==some .local)&&(y.2 != .free || osc.names.lookup y.1==some .cell)) &&
  φ.length==N'.length&&((N'.zip φ).all fun p=>match p.2 with|none=>true|some j=>N[j]? == some p.1&&sc.names.lookup p.1==some .free)
def CompOk.of {X:Cx}{N':List Str}{φ:List (Option Nat)}{sc:Scope} (h:XE sc X.env.scope X.N N' φ=true):CompOk X N' φ sc:=by
 unfold XE at h;simp only[ZR,beq_iff_eq,Yk,Bool.or_eq_true,bne_iff_ne,ne_eq]at h;obtain⟨⟨⟨⟨h1,h2⟩,h3⟩,h4⟩,h5⟩:=h;refine⟨h1,h2,fun y hy=>(h3 y hy).1.1,fun y hy hl=>?_,fun y hy hf=>?_,h4,fun i x j hi hj=>?_⟩
 ·rcases(h3 y hy).1.2 with z|z
  ·exact absurd hl z
  ·exact z
 ·rcases(h3 y hy).2 with z|z
  ·exact absurd hf z
  ·exact z
 ·have hz:(N'.zip φ)[i]?=some (x,some j):=by rw[List.getElem?_zip_eq_some];exact⟨hi,hj⟩
  have:=h5 _ (YR hz)
  simpa using this
section
variable {X:Cx}{K:Za}
def Ks(hK:X.K=K:=by rfl):IxR X (fun x y H Q=>rIxL K x y H Q\/rIxT K x y H Q):=by subst hK;exact Nv
def KP(hK:X.K=K:=by rfl):WW X (.builtin "len") (fun xs H Q=>∃x n,xs=[x]/\LenV K x H n/\Q (.int n) H):=by subst hK;exact Ts
def P0(hK:X.K=K:=by rfl):OpR X (compareOp .NotIn) (rIn K true):=by subst hK;exact PY
def Kg{pos:Pos}{es:List Expr}{k:Nat}{t:TGs}{n:Nat}(hc:X.calm=true)(h:PGs X es t)(hK:X.K=K:=by rfl)(hn:(assignEach es X.env).length=n:=by rfl)(hst:(assignEach es X.env).findIdx? (·.1)=none:=by rfl):PG X (.Tuple es k pos) (gTup K n t):=by subst hK;exact T3 hc h hn hst
end
def eqL(xs ys:List V):Bool:=decide (xs.length=ys.length)&&(List.range xs.length).all fun j=>eqV (xs.getD j .non) (ys.getD j .non)
def rEqL(K:Za)(neg:Bool):R2:=fun x y H Q=>∃(p q:Addr) (xs ys:List V),x=.ref p/\y=.ref q/\SqL K H p xs/\SqL K H q ys/\xs.all WN=true/\ys.all WN=true/\Q (.bl (if neg then !eqL xs ys else eqL xs ys)) H
section
variable {X:Cx}
def Vm{A:Around}{s:Shared}{xs ys:List V}{us ws:List Value}(r1:Vals xs us)(r2:Vals ys ws)(f1:xs.all WN=true)(f2:ys.all WN=true)(j:Nat)(h1:j<us.toArray.size)(h2:j<ws.toArray.size) :
  SeqAt.EqAt A s us.toArray[j] ws.toArray[j] (eqV (xs.getD j .non) (ys.getD j .non)):=by
 have l1:=r1.length;have l2:=r2.length;have g1:j<us.length:=by simpa using h1
 have g2:j<ws.length:=by simpa using h2
 have k1:xs[j]?=some (xs[j]'(by omega)):=Zu _;have k2:ys[j]?=some (ys[j]'(by omega)):=Zu _;obtain⟨u,eu,ru⟩:=r1.get k1;obtain⟨w,ew,rw'⟩:=r2.get k2
 have e1:us.toArray[j]=u:=by
  have:us[j]?=some us[j]:=Zu g1
  rw[this]at eu;simpa using Z0 eu
 have e2:ws.toArray[j]=w:=by
  have:ws[j]?=some ws[j]:=Zu g2
  rw[this]at ew;simpa using Z0 ew
 have d1:xs.getD j .non=xs[j]'(by omega):=by rw[Zw,k1];rfl
 have d2:ys.getD j .non=ys[j]'(by omega):=by rw[Zw,k2];rfl
 rw[e1,e2,d1,d2];exact JZ ru rw' (Yk.mp f1 _ (ZS _)) (Yk.mp f2 _ (ZS _))
def T7(hu:X.A.units<cLine):OpR X (compareOp .Eq) (rEqL X.K false):=by
 intro pins s σ H x y v u Q I rx ry h;obtain⟨p,q,xs,ys,rfl,rfl,hp,hq,f1,f2,k⟩:=h;obtain rfl:v=Value.ref p:=rx;obtain rfl:u=Value.ref q:=ry;obtain⟨us,r1,p1,_⟩:=I.list hp;obtain⟨ws,r2,p2,_⟩:=I.list hq;have l1:=r1.length;have l2:=r2.length;have k':Q (.bl (eqL xs ys)) H:=k;by_cases e:xs.length=ys.length
 ·refine SeqAt.eq_listAt p1.isList p2.isList (by simp;omega) hu (fun j h1 h2=>Vm r1 r2 f1 f2 j h1 h2) ⟨.bl (eqL xs ys),H,I,?_,k'⟩;show _=Value.bool (eqL xs ys);unfold eqL;rw[Z7 e,YK,Zz,←l1]
 ·refine SeqAt.eq_list_lengthsAt p1.isList p2.isList (by simp;omega) hu ⟨.bl (eqL xs ys),H,I,?_,k'⟩;show _=Value.bool (eqL xs ys);unfold eqL;rw[Z9 e];rfl
def TH(hu:X.A.units<cLine):OpR X (compareOp .NotEq) (rEqL X.K true):=by
 intro pins s σ H x y v u Q I rx ry h;obtain⟨p,q,xs,ys,rfl,rfl,hp,hq,f1,f2,k⟩:=h;obtain rfl:v=Value.ref p:=rx;obtain rfl:u=Value.ref q:=ry;obtain⟨us,r1,p1,_⟩:=I.list hp;obtain⟨ws,r2,p2,_⟩:=I.list hq;have l1:=r1.length;have l2:=r2.length;have k':Q (.bl (!eqL xs ys)) H:=k;by_cases e:xs.length=ys.length
 ·refine SeqAt.RcNeAt.lists p1.isList p2.isList (by simp;omega) hu (fun j h1 h2=>Vm r1 r2 f1 f2 j h1 h2) _ _ _ _ ⟨.bl (!eqL xs ys),H,I,?_,k'⟩;show _=Value.bool (!eqL xs ys);unfold eqL;rw[Z7 e,YK,Zz,←l1]
 ·refine SeqAt.RcNeAt.lists_lengths p1.isList p2.isList (by simp;omega) hu _ _ _ _ ⟨.bl (!eqL xs ys),H,I,?_,k'⟩;show _=Value.bool (!eqL xs ys);unfold eqL;rw[Z9 e];rfl
end
def Jl(xs ys:List Int):eqL (xs.map V.int) (ys.map V.int)=decide (xs=ys):=by
 unfold eqL;rw[Zt,Zt];by_cases e:xs=ys
 ·subst e;rw[Z7 rfl,Z7 rfl,YK,Yk];intro j hj;have hj':j<xs.length:=by simpa using hj
  rw[Zw,Z5,Zu hj'];show(xs[j]==xs[j])=true;simp
 ·rw[Z9 e];by_cases hl:xs.length=ys.length
  ·rw[Z7 hl,YK,Bool.eq_false_iff];intro hall;apply e;apply List.ext_getElem hl;intro j h1 h2
   have:=Yk.mp hall j (by simpa using h1)
   rw[Zw,Z5,Zu h1,Zw,Z5,Zu h2]at this;have h3:(xs[j]==ys[j])=true:=this;simpa using h3
  ·rw[Z9 hl];rfl
def Qk(xs:List Int):(xs.map V.int).all WN=true:=by
 rw[List.all_map];exact Yk.mpr fun _ _=>rfl
end Own
namespace M
open PySem PySem.Spec PyProof.Rows L2 Own
def LV{α:Type}(R:Hp->V->α->Prop)(H:Hp)(vs:List V)(xs:List α):Prop:=
 vs.length=xs.length/\∀(i:Nat) (x:α),xs[i]?=some x->∃v,vs[i]?=some v/\R H v x
def LAt{α:Type}(R:Hp->V->α->Prop)(H:Hp)(l:Addr)(xs:List α):Prop:=∃vs,H l=some (.lst vs)/\LV R H vs xs
def Qe(H:Hp)(v:V)(q:Int×Int):Prop:=∃a,v=.ref a/\H a=some (.tup [.int q.1,.int q.2])
def Menu(m:List Int):Prop:=∃a b c d e:Int,m=[a,b,c,d,e]/\(1<=a/\a<=10)/\(1<=b/\b<=9/\(b=1\/b=3\/b=7\/b=9))/\(0<=c/\c<=9)/\(1<=d/\d<=1000)/\(1<=e/\e+d<=1001)
def Field(ps:List (Int×Int)):Prop:=∀q∈ps,1<=q.1/\q.1<=10/\1<=q.2/\q.2<=1000
def TQ{l:List Int}(h:l.Pairwise (·<=·))(n:l.Nodup):l.Pairwise (· < ·):=by
 have:=h.and n
 exact this.imp fun {a b} h=>by have:=h.1;have:=h.2;omega
def Um{l₁ l₂:List Int}(h1:l₁.Pairwise (· < ·))(h2:l₂.Pairwise (· < ·))(h:∀z,z∈l₁↔z∈l₂):l₁=l₂:=by
 have n1:l₁.Nodup:=h1.imp fun {a b} h=>by omega
 have n2:l₂.Nodup:=h2.imp fun {a b} h=>by omega
 have p:l₁.Perm l₂:=(Yi n1 n2).mpr h;exact p.eq_of_pairwise (le:=(· < ·)) (fun a b _ _ x y=>by omega) h1 h2
def Xj(z:Int)(xs:List Int):inV (.int z) (xs.map V.int)=decide (z∈xs):=by
 unfold inV;rw[List.any_map]
 induction xs with
 |nil=>simp
 |cons x r ih=>
  rw[Yq,ih];show((x==z) || _)=_;by_cases e:x=z
  ·subst e;simp
  ·have:(x==z)=false:=by simpa using e
   rw[this];simp only[Bool.false_or];by_cases h:z∈r
   ·rw[Z7 h,Z7 (ZD _ h)]
   ·rw[Z9 h,Z9];intro hz;rcases ZN.mp hz with hz|hz
    ·exact e hz.symm
    ·exact h hz
end M
namespace ExcR
open PySem PySem.Spec PyProof.Rows L2
section
variable {P:Program}{w:World}{H H':Hp}{h h':Heap}{a:Addr}{o:HO}{fs ex:List Addr}
def has(x:ObjOk P w H h a o):∃u,h.get? a=some u:=by
 cases o with
 |lst xs=>exact let ⟨_,_,_,_,e⟩:=x;⟨_,e⟩
 |tup xs=>exact let ⟨_,_,_,u,e,_⟩:=x;⟨u,e⟩
 |dK kvs=>exact let ⟨_,_,_,_,u,_,_,e,_⟩:=x;⟨u,e⟩
 |dT kvs=>exact let ⟨_,_,_,_,u,_,_,e,_⟩:=x;⟨u,e⟩
 |set S n=>exact let ⟨u,_,_,_,e,_⟩:=x;⟨u,e⟩
 |ins C dx fs=>exact let ⟨_,_,_,e,_⟩:=x;⟨_,e⟩
 |own y=>exact x
 |xd fs=>exact let ⟨_,⟨u,_,_,e,_⟩,_⟩:=x;⟨u,e⟩
 |rng lo hi=>exact let ⟨_,_,_,e⟩:=x;⟨_,e⟩
 |frz ob u=>exact⟨_,x.1⟩
 |tbl ps=>exact⟨_,x⟩
 |met f y=>exact⟨_,x⟩
 |ext φ=>exact x.2.1
end
structure ErrCls (K:Za) (C:Addr):Prop where
 q:PySem.W.excIn K C [.type "ValueError",.type "Exception",.type "BaseException",.type "object"] "ValueError.__new__"=true
abbrev TF:=L2.St->Hp->Str->(Str->Hp->Prop)->Prop
end ExcR
namespace ExcR
open PySem PySem.Spec PyProof.Rows L2
open Sem (wp)
structure ErrGet (K:Za) (C:Addr):Prop where
 c:ErrCls K C
 ga:PySem.W.findIn K (.ref C) "__getattribute__"=some (some (.builtin "BaseException.__getattribute__"))
 gt:PySem.W.findIn K (.ref C) "__getattr__"=some none
 cl:PySem.W.findIn K (.ref C) "__class__"=some (some (.builtin "object.__class__"))
 is:(PySem.W.clsIn K C).isSome=true
end ExcR
namespace ExcR
open PySem PySem.Spec PyProof.Rows L2
def ErrH(a C:Addr):HO:=.ext fun h=>∃o,h.get? a=some o/\o.cls=.ref C/\∃vs,o.data=.fields vs
def sufD(i:Nat)(D:Ends):Ends:={nx:=fun σ H=>D.nx (σ.set i none) H,rt:=D.rt,bk:=fun σ H=>D.bk (σ.set i none) H,ct:=fun σ H=>D.ct (σ.set i none) H}
def hx(K:Za)(C0:Addr)(i:Nat)(ts:TS)(D:Ends):L2.St->XK:=fun σ c _ H=>∃C,c=.ref C/\ErrGet K C/\PySem.W.exmOne K (.ref C) (.ref C0)=some true/\
 ∀a,H a=none->ts (sufD i D) (σ.set i (some (.ref a))) (upd H a (ErrH a C))
def Qn(mg:Str->Option Value)(x:Str):Addr:=match mg x with
 |some (.ref C)=>C
 |_=>0
def VS{X:Cx}{x:Str}{v:V}{pos:Pos}(h:∃u,X.mg x=some u/\RelV v u)(hg:Gl X x:=by rfl)(hd:(x==("__debug__" : Str))=false:=by decide):PE X (.Name x pos) (tC v):=by
 obtain⟨u,h1,h2⟩:=h;exact NW hg h1 h2 hd
end ExcR
namespace Own
open PySem PySem.Spec PyProof.Rows L2 M
section
variable {X:Cx}{pins:List (Addr×Obj)}{σ:L2.St}{H:Hp}{s:Shared}
def UE{p:Int×Int}{its:List Value}(r:Vals [V.int p.1,V.int p.2] its):∃t1 t2,its=[.int p.1 t1,.int p.2 t2]:=by
 cases r with
 |cons r1 rr=>
  cases rr with
  |cons r2 r3=>
   cases r3
   obtain⟨t1,rfl⟩:=r1;obtain⟨t2,rfl⟩:=r2;exact⟨t1,t2,rfl⟩
def S0{A:Around}{x y:V}{p q:Int×Int}{u v:Value}(I:Inv X pins σ H s)(hu:A.units<cLine)(rx:RelV x u)(ry:RelV y v)(hp:Qe H x p)(hq:Qe H y q):SeqAt.EqAt A s u v (decide (p=q)):=by
 obtain⟨a,rfl,ha⟩:=hp;obtain⟨b,rfl,hb⟩:=hq;obtain rfl:u=Value.ref a:=rx;obtain rfl:v=Value.ref b:=ry;by_cases hab:a=b
 ·subst hab;rw[ha]at hb
  have e:p=q:=by
   injection hb with hb;injection hb with hb;injection hb with h1 h2;injection h2 with h2 _;exact Prod.ext (V.int.inj h1) (V.int.inj h2)
  rw[Z7 e];exact SeqAt.EqAt.same _
 ·obtain⟨_,its,r1,t1⟩:=(show ObjOk X.prog X.w H s.heap a (.tup [.int p.1,.int p.2])from I.hok a _ ha)
  obtain⟨_,jts,r2,t2⟩:=(show ObjOk X.prog X.w H s.heap b (.tup [.int q.1,.int q.2])from I.hok b _ hb)
  obtain⟨k1,k2,rfl⟩:=UE r1;obtain⟨k3,k4,rfl⟩:=UE r2
  have h:=SeqAt.RcAt.tuples (A:=A) (s:=s) (e:=fun j=>if j=0 then p.1==q.1 else p.2==q.2) t1 t2 hu (fun j h1 h2=>by
   have hj:j=0\/j=1:=by
    have h1':j<2:=h1;omega
   rcases hj with rfl|rfl
   ·exact SeqAt.EqAt.int_int _ _ _ _
   ·exact SeqAt.EqAt.int_int _ _ _ _)
  have e:((List.range (min ([Value.int p.1 k1,Value.int p.2 k2].toArray).size ([Value.int q.1 k3,Value.int q.2 k4].toArray).size)).all (fun j=>if j=0 then p.1==q.1 else p.2==q.2)&&([Value.int p.1 k1,Value.int p.2 k2].toArray).size==([Value.int q.1 k3,Value.int q.2 k4].toArray).size)=decide (p=q):=by
   show((List.range 2).all (fun j=>if j=0 then p.1==q.1 else p.2==q.2)&&true)=decide (p=q);rw[Bool.and_true];have e2:(List.range 2).all (fun j=>if j=0 then p.1==q.1 else p.2==q.2)=((p.1==q.1)&&(p.2==q.2)):=by simp[List.range,List.range.loop]
   rw[e2];by_cases h1:p.1=q.1
   ·by_cases h2:p.2=q.2
    ·rw[Z7 (Prod.ext h1 h2)];simp[h1,h2]
    ·rw[Z9 (fun z=>h2 (by rw[z]))];simp[h2]
   ·rw[Z9 (fun z=>h1 (by rw[z]))];simp[h1]
  rw[e]at h;exact SeqAt.EqAt.of_refs hab h
def eP(H:Hp)(q:Int×Int)(u:Value):Bool:=match u with
 | .ref a=>(match H a with
  |some (.tup [.int i,.int j])=>decide ((i,j)=q)
  |_=>false)
 |_=>false
def Xz{v:V}{u:Value}{p q:Int×Int}(h:Qe H v p)(r:RelV v u):eP H q u=decide (p=q):=by
 obtain⟨a,rfl,ha⟩:=h;obtain rfl:u=Value.ref a:=r;unfold eP;simp only[ha]
def JW{q:Int×Int}:∀{vs:List V}{us:List Value}{ps:List (Int×Int)},Vals vs us->LV Qe H vs ps->us.any (eP H q)=decide (q∈ps)
 |_,_,[],.nil,_=>rfl
 |_,_,_::_,.nil,h=>absurd h.1 (by simp)
 |v::vs,u::us,[],.cons _ _,h=>absurd h.1 (by simp)
 |v::vs,u::us,p::ps,.cons r t,h=>by
  obtain⟨v',e,hv⟩:=h.2 0 p rfl;cases e
  have ht:LV Qe H vs ps:=⟨by simpa using h.1,fun i x e=>h.2 (i+1) x e⟩;rw[Yq,Xz hv r,JW t ht];by_cases e1:p=q
  ·subst e1;simp
  ·by_cases e2:q∈ps
   ·simp[e1,e2]
   ·have:¬q=p:=fun z=>e1 z.symm
    simp[e1,e2,this]
def rInP(neg:Bool):R2:=fun x y H Q=>∃(l:Addr) (ps:List (Int×Int)) (q:Int×Int),y=.ref l/\Qe H x q/\LAt Qe H l ps/\Q (.bl (if neg then !decide (q∈ps)else decide (q∈ps))) H
def XJ{A:Around}{x:V}{v:Value}{q:Int×Int}(I:Inv X pins σ H s)(hu:A.units<cLine)(rx:RelV x v)(hx:Qe H x q):∀{vs:List V}{us:List Value}{ps:List (Int×Int)},Vals vs us->LV Qe H vs ps->∀u∈us,SeqAt.EqAt A s u v (eP H q u)
 |_,_,_,.nil,_,u,hu'=>by cases hu'
 |w::vs,u::us,[],.cons _ _,h,_,_=>absurd h.1 (by simp)
 |w::vs,u::us,p::ps,.cons r t,h,u',hu'=>by
  obtain⟨w',e,hw⟩:=h.2 0 p rfl;cases e
  have ht:LV Qe H vs ps:=⟨by simpa using h.1,fun i x e=>h.2 (i+1) x e⟩;rcases ZN.mp hu' with rfl|hu'
  ·rw[Xz hw r];exact S0 I hu r rx hw hx
  ·exact XJ I hu rx hx t ht u' hu'
def N5(hu:X.A.in1.units<cLine):OpR X (compareOp .NotIn) (rInP true):=by
 intro pins s σ H x y v u Q I rx ry h;obtain⟨l,ps,q,rfl,hx,⟨vs,hl,hv⟩,k⟩:=h;cases ry
 obtain⟨its,r,pl,hz⟩:=I.list (SqL.of hl);refine SeqAt.notIn_listAt (eP H q) pl.isList (fun w hw=>XJ I hu rx hx r hv w (by simpa using hw)) ⟨.bl _,H,I,rfl,?_⟩;rw[show its.toArray.any (eP H q)=its.any (eP H q) by simp,JW r hv];exact k
end
end Own
namespace M
open PySem PySem.Spec PyProof.Rows L2 Own
section
variable {α:Type}{R:Hp->V->α->Prop}{H:Hp}
def pick(c:α->Bool)(d:V×α):Option V:=if c d.2=true then some d.1 else none
end
end M
namespace Own
open PySem PySem.Spec PyProof.Rows L2 M
section
variable {X:Cx}
def UV:WW X (.type "range") (fun xs H Q=>∃i j:Int,xs=[.int i,.int j]/\∀r,H r=none->Q (.ref r) (upd H r (.rng i j))):=by
 intro pins s σ H xs us Q I rv h;obtain⟨i,j,rfl,q⟩:=h;cases rv with
 |cons r rr=>
  cases rr with
  |cons r' rr=>
   cases rr
   obtain⟨t,rfl⟩:=r;obtain⟨t',rfl⟩:=r';refine call_range_2 ⟨.ref s.heap.objs.size,upd H s.heap.objs.size (.rng i j),?_,rfl,q _ (I.hok.fresh (Z3 _))⟩;exact I.laid (t':=s.toks+1) (fun b o e=>Zx _ e) (Z3 _) ⟨t,t',s.toks,Z2 _ rfl⟩
def runI(i:Int)(n:Nat):List Int:=(List.range n).map fun(k:Nat)=>i+(k:Int)
def U2{i:Int}:∀(n:Nat) (us:List Value),us.length=n->(∀(j:Nat) (v:Value),us[j]?=some v->∃t,v=Value.int (i+(j:Int)*1) t)->Vals ((runI i n).map V.int) us:=by
 intro n us hl h
 have key:∀(us:List Value) (o:Nat),(∀(j:Nat) (v:Value),us[j]?=some v->∃t,v=Value.int (i+((o+j:Nat):Int)) t)->Vals (((List.range' o us.length).map fun(k:Nat)=>i+(k:Int)).map V.int) us:=by
  intro us
  induction us with
  |nil=>intro o _;exact .nil
  |cons u us ih=>
   intro o h;obtain⟨t,e⟩:=h 0 u rfl;show Vals (((List.range' o (us.length+1)).map fun(k:Nat)=>i+(k:Int)).map V.int) (u::us);rw[List.range'_succ,Z4,Z4];refine .cons ⟨t,by rw[e];simp⟩ (ih (o+1) fun j v hv=>?_);obtain⟨t',e'⟩:=h (j+1) v hv;exact⟨t',by rw[e'];congr 1<;>omega⟩
 have:=key us 0 (fun j v hv=>by obtain⟨t,e⟩:=h j v hv;exact⟨t,by rw[e];congr 1<;>omega⟩)
 unfold runI;rw[List.range_eq_range',←hl];exact this
def KG(hc:X.calm=true):WW X (.type "list") (fun xs H Q=>∃(r:Addr) (i j:Int),xs=[.ref r]/\H r=some (.rng i j)/\(-(2 ^ 62)<=i/\i<2 ^ 62/\-(2 ^ 62)<=j/\j<2 ^ 62)/\(j-i).toNat<=1000000/\
  ∀l,H l=none->Q (.ref l) (upd H l (.lst ((runI i (j-i).toNat).map V.int)))):=by
 intro pins s σ H xs us Q I rv h;obtain⟨r,i,j,rfl,hr,⟨b1,b2,b3,b4⟩,hn,q⟩:=h;obtain⟨u,rfl,ru⟩:=rv.one;obtain rfl:u=Value.ref r:=ru;obtain⟨t,u,v,e⟩:=(show ObjOk X.prog X.w H s.heap r (.rng i j)from I.hok r _ hr)
 refine call_list_range (I.ok.hd hc) (show IsRange s.heap r i j 1 t u v from e) (small_one b1 b2 b3 b4) (rangeSize_nat i j) (ZA hn (by decide)) fun h' tk acc c hk hD hI=>?_
 refine⟨.ref s.heap.objs.size,upd H s.heap.objs.size (.lst ((runI i (j-i).toNat).map V.int)),?_,rfl,q _ (I.hok.fresh (Z3 _))⟩;have hv:Vals ((runI i (j-i).toNat).map V.int) acc.toList:=U2 _ _ (by rw[Yn];exact hI.1) fun k w hw=>hI.2 k w (by rw[←hw,Array.getElem?_toList]);refine I.laid (t':=tk) hk (Z3 _) ⟨?_,acc.toList,c,hv,by simpa using hD⟩;rw[Zt];unfold runI;rw[Zt,YD];exact ZA hn (by decide)
end
end Own
namespace Own
open PySem PySem.Spec PyProof.Rows L2
section
variable {X:Cx}{K:Za}
def PB(hc:X.calm=true)(hK:X.K=K:=by rfl):WW X (.builtin "sum") (fun xs H Q=>∃(p:Addr) (ns:List Int),xs=[.ref p]/\SqL K H p (ns.map V.int)/\Q (.int ns.sum) H):=by
 subst hK;intro pins s σ H xs us Q I rv h;obtain⟨p,ns,rfl,hS,q⟩:=h;obtain⟨u,rfl,ru⟩:=rv.one;obtain rfl:u=Value.ref p:=ru;obtain⟨its,r,pl,_⟩:=I.list hS;have hi:IntsAre its ns:=by simpa using JT r
 obtain⟨ys,hx⟩:=hi.allInts.items;have hl:=pl.isList;rw[hx]at hl;refine sum_intListG (I.ok.hd hc) hl fun h' tk t' hk=>?_
 have e1:ns=ys.toList.map (·.1):=by
  rw[←nums_intItems,←hx];exact(show numsOf its.toArray.toList=ns from hi.numsOf).symm
 have e2:preSum (numAt ys) ys.size=ns.sum:=by
  rw[preSum_eq,Yw (by simp),e1]
 rw[e2];exact⟨.int ns.sum,H,I.kept (t':=tk) hk,⟨_,rfl⟩,q⟩
end
end Own
namespace M
def sl:List Int->List Int->Prop
 |x::xs,y::ys=>x<y\/(x=y/\sl xs ys)
 |_,_=>False
open Own
def Ug(ns:List Int)(p:Nat):List Int:=ns.take (p-1)++[ns.getD p 0,ns.getD (p-1) 0]++ns.drop (p+1)
def Qu(n:Nat):(runI 1 n).length=n:=by unfold runI;rw[Zt,YD]
end M
namespace Pu
open PySem PySem.Spec PyProof.Rows L2 Own
inductive D where
 |int (i:Int)|bl (b:Bool)|non|str (x:Str)|ty (n:String)|tup (ds:List D)|lst (ds:List D)|scr (ns:List Int)|dK (kvs:List (Key×V))|dT (kvs:List (List Key×V))|loc (a:Addr) (d:D)|err (C:Addr)|ref (a:Addr)|ins (C:Addr) (xs:List Str) (ds:List D)|dF (kvs:List (List Key×V))
mutual
inductive Rp (K:Za) (H:Hp):D->V->Prop
 |int (i:Int):Rp K H (.int i) (.int i)
 |bl (b:Bool):Rp K H (.bl b) (.bl b)
 |non:Rp K H .non .non
 |str (x:Str):Rp K H (.str x) (.str x)
 |ty (n:String):Rp K H (.ty n) (.ty n)
 |tup {ds:List D} {vs:List V} {a:Addr}:H a=some (.tup vs)->Rps K H ds vs->Rp K H (.tup ds) (.ref a)
 |lst {ds:List D} {vs:List V} {a:Addr}:H a=some (.lst vs)->Rps K H ds vs->Rp K H (.lst ds) (.ref a)
 |scr {ns:List Int} {a:Addr}:SqL K H a (ns.map V.int)->Rp K H (.scr ns) (.ref a)
 |dK {kvs:List (Key×V)} {a:Addr}:H a=some (.dK kvs)->Rp K H (.dK kvs) (.ref a)
 |dT {kvs:List (List Key×V)} {a:Addr}:H a=some (.dT kvs)->Rp K H (.dT kvs) (.ref a)
 |dF {kvs:List (List Key×V)} {o:Obj} {a:Addr}:H a=some (.frz o (.dT kvs))->Rp K H (.dF kvs) (.ref a)
 |loc {d:D} {a:Addr}:Rp K H d (.ref a)->Rp K H (.loc a d) (.ref a)
 |err {C a:Addr}:H a=some (ExcR.ErrH a C)->Rp K H (.err C) (.ref a)
 |ref (a:Addr):Rp K H (.ref a) (.ref a)
 |ins {C a dx:Addr} {xs:List Str} {ds:List D} {vs:List V}:H a=some (.ins C dx (xs.zip vs))->xs.length=vs.length->Rps K H ds vs->Rp K H (.ins C xs ds) (.ref a)
inductive Rps (K:Za) (H:Hp):List D->List V->Prop
 |nil:Rps K H [] []
 |cons {d:D} {v:V} {ds:List D} {vs:List V}:Rp K H d v->Rps K H ds vs->Rps K H (d::ds) (v::vs)
end
section
variable {K:Za}{H H':Hp}
mutual
def Rp.mono (S:Same H H'):∀{d:D}{v:V},Rp K H d v->Rp K H' d v
 |_,_,.int i=>.int i
 |_,_,.bl b=>.bl b
 |_,_,.non=>.non
 |_,_,.str x=>.str x
 |_,_,.ty n=>.ty n
 |_,_,.tup h r=>.tup (S _ _ h) (Rps.mono S r)
 |_,_,.lst h r=>.lst (S _ _ h) (Rps.mono S r)
 |_,_,.scr h=>.scr (S.seq h)
 |_,_,.dK h=>.dK (S _ _ h)
 |_,_,.dT h=>.dT (S _ _ h)
 |_,_,.loc h=>.loc (Rp.mono S h)
 |_,_,.dF h=>.dF (S _ _ h)
 |_,_,.err h=>.err (S _ _ h)
 |_,_,.ref a=>.ref a
 |_,_,.ins h e r=>.ins (S _ _ h) e (Rps.mono S r)
def Rps.mono (S:Same H H'):∀{ds:List D}{vs:List V},Rps K H ds vs->Rps K H' ds vs
 |_,_,.nil=>.nil
 |_,_,.cons h r=>.cons (Rp.mono S h) (Rps.mono S r)
end
def Rps.len:∀{ds:List D}{vs:List V},Rps K H ds vs->vs.length=ds.length
 |_,_,.nil=>rfl
 |_,_,.cons _ r=>ZT (· + 1) (Rps.len r)
def Rps.get:∀{ds:List D}{vs:List V}{i:Nat}{d:D},Rps K H ds vs->ds[i]?=some d->∃v,vs[i]?=some v/\Rp K H d v
 |_,_,_,_,.nil,e=>by simp at e
 |_,_,0,_,.cons h _,e=>by simp at e;subst e;exact⟨_,rfl,h⟩
 |_,_,i+1,d,.cons _ r,e=>by
  obtain⟨v,h1,h2⟩:=Rps.get (i:=i) (d:=d) r (by simpa using e);exact⟨v,by simpa using h1,h2⟩
def Rps.append:∀{ds es:List D}{vs us:List V},Rps K H ds vs->Rps K H es us->Rps K H (ds++es) (vs++us)
 |_,_,_,_,.nil,s=>s
 |_,_,_,_,.cons h r,s=>.cons h (Rps.append r s)
def Rps.drop:∀{ds:List D}{vs:List V} (n:Nat),Rps K H ds vs->Rps K H (ds.drop n) (vs.drop n)
 |_,_,0,r=>r
 |_,_,_+1,.nil=>.nil
 |_,_,n+1,.cons _ r=>Rps.drop n r
def Rps.take:∀{ds:List D}{vs:List V} (n:Nat),Rps K H ds vs->Rps K H (ds.take n) (vs.take n)
 |_,_,0,_=>.nil
 |_,_,_+1,.nil=>.nil
 |_,_,n+1,.cons h r=>.cons h (Rps.take n r)
end
mutual
def imm:D->Bool
 | .tup ds=>imms ds
 | .lst _=>false
 | .scr _=>false
 | .dK _=>false
 | .dT _=>false
 | .loc _ _=>false
 | .err _=>false
 | .ins _ _ _=>false
 |_=>true
def imms:List D->Bool
 |[]=>true
 |d::r=>imm d&&imms r
end
open Classical in
noncomputable def off(Z:Addr->Prop)(H:Hp):Hp:=fun b=>if Z b then none else H b
section
variable {K:Za}{H H':Hp}{Z Z':Addr->Prop}
def Q9{b:Addr}{o:HO}(h:off Z H b=some o):H b=some o/\¬Z b:=by
 unfold off at h;by_cases z:Z b
 ·rw[ZE z]at h;cases h
 ·rw[Z6 z]at h;exact⟨h,z⟩
def WK{b:Addr}{o:HO}(h:H b=some o)(z:¬Z b):off Z H b=some o:=by
 unfold off;rw[Z6 z];exact h
def Wy(S:Same H H')(hz:∀b o,H b=some o->¬Z b->¬Z' b):Same (off Z H) (off Z' H'):=fun b o h=>by
 obtain⟨h1,h2⟩:=Q9 h;exact WK (S b o h1) (hz b o h1 h2)
def off_sub:Same (off Z H) H:=fun _ _ h=>(Q9 h).1
mutual
def Rp.off (hm:∀b,Z b->Mut (H b)):∀{d:D}{v:V},Rp K H d v->imm d=true->Rp K (off Z H) d v
 |_,_,.int i,_=>.int i
 |_,_,.bl b,_=>.bl b
 |_,_,.non,_=>.non
 |_,_,.str x,_=>.str x
 |_,_,.ty n,_=>.ty n
 |_,_,.tup h r,e=>.tup (WK h fun z=>by have:=hm _ z;rw[h]at this;exact this) (Rps.off hm r (by unfold imm at e;exact e))
 |_,_,.lst _ _,e=>by unfold imm at e;cases e
 |_,_,.scr _,e=>by unfold imm at e;cases e
 |_,_,.dK _,e=>by unfold imm at e;cases e
 |_,_,.dT _,e=>by unfold imm at e;cases e
 |_,_,.loc _,e=>by unfold imm at e;cases e
 |_,_,.dF h,_=>.dF (WK h fun z=>by have:=hm _ z;rw[h]at this;exact this)
 |_,_,.err _,e=>by unfold imm at e;cases e
 |_,_,.ref a,_=>.ref a
 |_,_,.ins _ _ _,e=>by unfold imm at e;cases e
def Rps.off (hm:∀b,Z b->Mut (H b)):∀{ds:List D}{vs:List V},Rps K H ds vs->imms ds=true->Rps K (off Z H) ds vs
 |_,_,.nil,_=>.nil
 |_,_,.cons h r,e=>by
  unfold imms at e;rw[ZR]at e;exact .cons (Rp.off hm h e.1) (Rps.off hm r e.2)
end
end
inductive O where
 |lst (ds:List D)|dK (kvs:List (Key×V))|dT (kvs:List (List Key×V))|ins (a C:Addr) (xs:List Str) (cs:List (Addr×List D))|lsA (a:Addr) (ds:List D)|nst (cs:List (Addr×List D))
instance:Coe (List D) O:=⟨O.lst⟩
def O.d:O->D
 | .lst ds=>.lst ds | .dK kvs=>.dK kvs | .dT kvs=>.dT kvs | .ins _ C xs cs=>.ins C xs (cs.map fun c=>.lst c.2) | .lsA _ ds=>.lst ds | .nst cs=>.tup (cs.map fun c=>.lst c.2)
def O.adr (a:Addr):O->Addr->Prop
 | .lst _=>fun b=>b=a
 | .dK _=>fun b=>b=a
 | .dT _=>fun b=>b=a
 | .ins x _ _ cs=>fun b=>b=x\/∃c∈cs,b=c.1
 | .lsA x _=>fun b=>b=x
 | .nst cs=>fun b=>∃c∈cs,b=c.1
def OR(K:Za)(F H:Hp)(a:Addr):O->Prop
 | .lst ds=>∃vs,H a=some (.lst vs)/\Rps K F ds vs
 | .dK kvs=>H a=some (.dK kvs)
 | .dT kvs=>H a=some (.dT kvs)
 | .lsA x ds=>a=x/\∃vs,H a=some (.lst vs)/\Rps K F ds vs
 | .ins x C xs cs=>a=x/\xs.length=cs.length/\(∃dx,H a=some (.ins C dx (xs.zip (cs.map fun c=>V.ref c.1))))/\(∀c∈cs,∃vs,H c.1=some (.lst vs)/\Rps K F c.2 vs)/\(cs.map (·.1)).Nodup
 | .nst cs=>F a=some (.tup (cs.map fun c=>V.ref c.1))/\(∀c∈cs,∃vs,H c.1=some (.lst vs)/\Rps K F c.2 vs)/\(cs.map (·.1)).Nodup
def OR.mono {K:Za}{F F' H H':Hp}{a:Addr}{o:O} (S1:Same F F') (S2:∀b,o.adr a b->∀x,H b=some x->H' b=some x) (h:OR K F H a o):OR K F' H' a o:=by
 cases o with
 |lst ds=>obtain⟨vs,h1,h2⟩:=h;exact⟨vs,S2 _ rfl _ h1,Rps.mono S1 h2⟩
 |dK kvs=>exact S2 _ rfl _ h
 |dT kvs=>exact S2 _ rfl _ h
 |lsA x ds=>obtain⟨rfl,vs,h1,h2⟩:=h;exact⟨rfl,vs,S2 _ rfl _ h1,Rps.mono S1 h2⟩
 |nst cs=>
  obtain⟨h1,h2,h3⟩:=h;exact⟨S1 _ _ h1,fun c hc=>let ⟨vs,q1,q2⟩:=h2 c hc;⟨vs,S2 _ ⟨c,hc,rfl⟩ _ q1,Rps.mono S1 q2⟩,h3⟩
 |ins x C xs cs=>
  obtain⟨e,l,⟨dx,h1⟩,h2,h3⟩:=h;exact⟨e,l,⟨dx,S2 _ (.inl e) _ h1⟩,fun c hc=>let ⟨vs,q1,q2⟩:=h2 c hc;⟨vs,S2 _ (.inr ⟨c,hc,rfl⟩) _ q1,Rps.mono S1 q2⟩,h3⟩
def QX{K:Za}{F:Hp}:∀{cs:List (Addr×List D)},(∀c∈cs,∃vs,F c.1=some (.lst vs)/\Rps K F c.2 vs)->Rps K F (cs.map fun c=>.lst c.2) (cs.map fun c=>V.ref c.1)
 |[],_=>.nil
 |c::cs,h=>let ⟨_,q1,q2⟩:=h c ZH;.cons (.lst q1 q2) (QX fun c' hc=>h c' (ZD _ hc))
def OR.rpIn {K:Za}{F F' H:Hp}{a:Addr}{o:O} (S1:Same F F') (S2:∀b,o.adr a b->∀x,H b=some x->F' b=some x) (h:OR K F H a o):Rp K F' o.d (.ref a):=by
 cases o with
 |lst ds=>obtain⟨vs,h1,h2⟩:=h;exact .lst (S2 _ rfl _ h1) (Rps.mono S1 h2)
 |dK kvs=>exact .dK (S2 _ rfl _ h)
 |dT kvs=>exact .dT (S2 _ rfl _ h)
 |lsA x ds=>obtain⟨rfl,vs,h1,h2⟩:=h;exact .lst (S2 _ rfl _ h1) (Rps.mono S1 h2)
 |nst cs=>
  obtain⟨h1,h2,h3⟩:=h;exact .tup (S1 _ _ h1) (QX fun c hc=>let ⟨vs,q1,q2⟩:=h2 c hc;⟨vs,S2 _ ⟨c,hc,rfl⟩ _ q1,Rps.mono S1 q2⟩)
 |ins x C xs cs=>
  obtain⟨e,l,⟨dx,h1⟩,h2,h3⟩:=h;exact .ins (S2 _ (.inl e) _ h1) (by rw[Zt];exact l) (QX fun c hc=>let ⟨vs,q1,q2⟩:=h2 c hc;⟨vs,S2 _ (.inr ⟨c,hc,rfl⟩) _ q1,Rps.mono S1 q2⟩)
def OR.rp {K:Za}{F H:Hp}{a:Addr}{o:O} (S1:Same F H) (h:OR K F H a o):Rp K H o.d (.ref a):=h.rpIn S1 fun _ _ _ e=>e
def OR.mut {K:Za}{F H:Hp}{a:Addr}{o:O} (h:OR K F H a o):∀b,o.adr a b->Mut (H b):=by
 cases o with
 |lst ds=>obtain⟨vs,h1,h2⟩:=h;intro b e;rw[show b=a from e,h1];trivial
 |dK kvs=>intro b e;rw[show b=a from e,show H a=some (.dK kvs)from h];trivial
 |dT kvs=>intro b e;rw[show b=a from e,show H a=some (.dT kvs)from h];trivial
 |lsA x ds=>obtain⟨rfl,vs,h1,h2⟩:=h;intro b e;rw[show b=a from e,h1];trivial
 |nst cs=>
  obtain⟨h1,h2,h3⟩:=h;rintro b ⟨c,hc,hb⟩;obtain⟨vs,q1,_⟩:=h2 c hc;rw[hb,q1];trivial
 |ins x C xs cs=>
  obtain⟨e,l,⟨dx,h1⟩,h2,h3⟩:=h;intro b hb;rcases hb with hb|⟨c,hc,hb⟩
  ·rw[show b=a from hb.trans e.symm,h1];trivial
  ·obtain⟨vs,q1,_⟩:=h2 c hc;rw[hb,q1];trivial
inductive S where
 |bor (d:D)|sh (d:D)|own (o:O)|view (o:O)|tmp (d:D)
abbrev Γ:=List (Option S)
def D.strip:D->D
 | .loc _ d=>d|d=>d
def Rp.strip {K:Za}{H:Hp}{d:D}{v:V} (h:Rp K H d v):Rp K H d.strip v:=by
 cases h with
 |loc h=>exact h
 |int i=>exact .int i
 |bl b=>exact .bl b
 |non=>exact .non
 |str x=>exact .str x
 |ty n=>exact .ty n
 |tup h r=>exact .tup h r
 |lst h r=>exact .lst h r
 |scr h=>exact .scr h
 |dK h=>exact .dK h
 |dT h=>exact .dT h
 |dF h=>exact .dF h
 |err h=>exact .err h
 |ref a=>exact .ref a
 |ins h e r=>exact .ins h e r
def S.d:S->D
 | .bor d=>d.strip | .sh d=>d | .own o=>o.d | .view o=>o.d | .tmp d=>d
def arg(d:D):S:=match imm d with|true=>.sh d|false=>.bor d
def argT(d:D):S:=match imm d with|true=>.sh d|false=>.tmp d
def S.sub:S->D->S
 | .bor _,e=>arg e | .tmp _,e=>argT e | .own (.nst _),e=>argT e | .view (.nst _),e=>argT e|_,e=>.sh e
def S.shd:S->Option D
 | .sh d=>some d | .own o=>some o.d
 | .bor d=>match imm d with|true=>some d|false=>none
 | .tmp d=>match imm d with|true=>some d|false=>none
 | .view _=>none
def S.slot:S->Option S
 | .view _=>none | .bor d=>some (.bor d) | .sh d=>some (.sh d) | .own ds=>some (.own ds)
 | .tmp d=>match imm d with|true=>some (.sh d)|false=>none
def Po(γ:Γ)(σ:L2.St)(b:Addr):Prop:=∃(i:Nat) (ds:O) (a:Addr),γ[i]?=some (some (.own ds))/\σ[i]?=some (some (.ref a))/\ds.adr a b
def zof(B:Addr->Prop)(γ:Γ)(σ:L2.St):Addr->Prop:=fun b=>B b\/Po γ σ b
def SV(K:Za)(Z:Addr->Prop)(H0 H:Hp):S->V->Prop
 | .bor d,v=>Rp K H0 d v
 | .sh d,v=>Rp K (off Z H) d v
 | .own o,v=>∃a,v=.ref a/\(∀b,o.adr a b->H0 b=none)/\OR K (off Z H) H a o
 |_,_=>False
def TV(K:Za)(Z:Addr->Prop)(H0 H H':Hp):S->V->Prop
 | .bor d,v=>Rp K H0 d v
 | .sh d,v=>Rp K (off Z H') d v
 | .own o,v=>∃a,v=.ref a/\(∀b,o.adr a b->H b=none)/\OR K (off (fun b=>Z b\/o.adr a b) H') H' a o
 | .view o,v=>∃a,v=.ref a/\OR K (off Z H') H' a o
 | .tmp d,v=>Rp K H' d v
structure EnvR (K:Za) (H0:Hp) (B:Addr->Prop) (H:Hp) (σ:L2.St) (γ:Γ):Prop where
 same:Same H0 H
 len:σ.length=γ.length
 bm:∀b,B b->Mut (H b)
 own:∀(i j:Nat) (a a':Addr) (ds es:O) (b:Addr),γ[i]?=some (some (.own ds))->γ[j]?=some (some (.own es))->σ[i]?=some (some (.ref a))->σ[j]?=some (some (.ref a'))->ds.adr a b->es.adr a' b->i=j
 slot:∀(i:Nat) (s:S),γ[i]?=some (some s)->∃v,σ[i]?=some (some v)/\SV K (zof B γ σ) H0 H s v
section
variable {K:Za}{H0 H H1 H':Hp}{B Z Z':Addr->Prop}{σ:L2.St}{γ:Γ}
def Qr(S:Same H H'){b:Addr}(h:Mut (H b)):Mut (H' b):=by
 cases e:H b with
 |none=>rw[e]at h;exact h.elim
 |some o=>rw[S b o e,←e];exact h
def V4{b:Addr}(h:Mut (H b)):∃o,H b=some o:=by
 cases e:H b with
 |none=>rw[e]at h;exact h.elim
 |some o=>exact⟨o,rfl⟩
def EnvR.grow (E:EnvR K H0 B H σ γ) (S:Same H H'):EnvR K H0 B H' σ γ where
 same:=E.same.trans S
 len:=E.len
 bm b h:=Qr S (E.bm b h)
 own:=E.own
 slot i s h:=by
  obtain⟨v,h1,h2⟩:=E.slot i s h;refine⟨v,h1,?_⟩;cases s with
  |bor d=>exact h2
  |sh d=>exact Rp.mono (Wy S fun _ _ _ z=>z) h2
  |own ds=>
   obtain⟨a,e1,e3,e4⟩:=h2;exact⟨a,e1,e3,e4.mono (Wy S fun _ _ _ z=>z) fun b _ x=>S b x⟩
  |view ds=>exact h2
  |tmp d=>exact h2
def EnvR.zm (E:EnvR K H0 B H σ γ):∀b,zof B γ σ b->Mut (H b):=fun b h=>by
 rcases h with h|⟨i,ds,x,h1,h2,hb⟩
 ·exact E.bm b h
 ·obtain⟨v,e1,a,e2,e3,e4⟩:=E.slot i _ h1;rw[h2]at e1;cases e1
  cases e2
  exact e4.mut b hb
def TV.rp {s:S}{v:V} (h0:Same H0 H') (h:TV K Z H0 H H' s v):Rp K H' s.d v:=by
 cases s with
 |bor d=>exact(Rp.mono h0 h).strip
 |sh d=>exact Rp.mono off_sub h
 |own ds=>
  obtain⟨a,rfl,_,r⟩:=h;exact r.rp off_sub
 |view ds=>
  obtain⟨a,rfl,r⟩:=h;exact r.rp off_sub
 |tmp d=>exact h
def TV.grow {s:S}{v:V} (S1:Same H' H1) (h:TV K Z H0 H H' s v):TV K Z H0 H H1 s v:=by
 cases s with
 |bor d=>exact h
 |sh d=>exact Rp.mono (Wy S1 fun _ _ _ z=>z) h
 |own ds=>
  obtain⟨a,rfl,e0,r⟩:=h;exact⟨a,rfl,e0,r.mono (Wy S1 fun _ _ _ z=>z) fun b _ x=>S1 b x⟩
 |view ds=>
  obtain⟨a,rfl,r⟩:=h;exact⟨a,rfl,r.mono (Wy S1 fun _ _ _ z=>z) fun b _ x=>S1 b x⟩
 |tmp d=>exact Rp.mono S1 h
def TV.weak {s:S}{v:V} (S1:Same H H1) (hz:∀b,Z b->Z' b) (h:TV K Z' H0 H1 H' s v):TV K Z H0 H H' s v:=by
 cases s with
 |bor d=>exact h
 |sh d=>exact Rp.mono (Wy (Same.refl _) fun b _ _ z y=>z (hz b y)) h
 |own ds=>
  obtain⟨a,rfl,e0,r⟩:=h;exact⟨a,rfl,fun b hb=>S1.free (e0 b hb),r.mono (Wy (Same.refl _) fun b _ _ z y=>z (y.imp (hz b) id)) fun _ _ _ q=>q⟩
 |view ds=>
  obtain⟨a,rfl,r⟩:=h;exact⟨a,rfl,r.mono (Wy (Same.refl _) fun b _ _ z y=>z (hz b y)) fun _ _ _ q=>q⟩
 |tmp d=>exact h
def TV.shd {s:S}{v:V}{d:D} (h0:Same H0 H') (hm:∀b,Z b->Mut (H b)) (S1:Same H H') (h:TV K Z H0 H H' s v) (e:s.shd=some d):Rp K (off Z H') d v:=by
 have hm':∀b,Z b->Mut (H' b):=fun b z=>Qr S1 (hm b z);cases s with
 |bor d'=>
  unfold S.shd at e;cases q:imm d' with
  |false=>simp[q]at e
  |true=>
   simp[q]at e;subst e;exact Rp.off hm' (Rp.mono h0 h) q
 |sh d'=>cases e;exact h
 |own ds=>
  cases e
  obtain⟨a,rfl,e0,r⟩:=h;exact r.rpIn (Wy (Same.refl _) fun b _ _ z y=>z (.inl y)) fun b hb x e=>WK e fun z=>by have:=hm _ z;rw[e0 b hb]at this;exact this
 |view ds=>cases e
 |tmp d'=>
  unfold S.shd at e;cases q:imm d' with
  |false=>simp[q]at e
  |true=>
   simp[q]at e;subst e;exact Rp.off hm' h q
def argR{d:D}{v:V}(hm:∀b,Z b->Mut (H' b))(h0:Same H0 H')(h:Rp K H0 d v):TV K Z H0 H H' (arg d) v:=by
 unfold arg;cases q:imm d with
 |true=>exact Rp.off hm (Rp.mono h0 h) q
 |false=>exact h
def QY{d:D}{v:V}(hm:∀b,Z b->Mut (H' b))(h:Rp K H' d v):TV K Z H0 H H' (argT d) v:=by
 unfold argT;cases q:imm d with
 |true=>exact Rp.off hm h q
 |false=>exact h
def Rp.lst_inv {ds:List D}{v:V} (h:Rp K H (.lst ds) v):∃a vs,v=.ref a/\H a=some (.lst vs)/\Rps K H ds vs:=by
 cases h with
 |lst h r=>exact⟨_,_,rfl,h,r⟩
def Rp.tup_inv {ds:List D}{v:V} (h:Rp K H (.tup ds) v):∃a vs,v=.ref a/\H a=some (.tup vs)/\Rps K H ds vs:=by
 cases h with
 |tup h r=>exact⟨_,_,rfl,h,r⟩
def TV.part {s:S}{v:V} (h0:Same H0 H') (hm:∀b,Z b->Mut (H b)) (S1:Same H H') (h:TV K Z H0 H H' s v) :
  (∀ds,s.d=.lst ds->∃a vs,v=.ref a/\H' a=some (.lst vs)/\vs.length=ds.length/\∀(i:Nat) d,ds[i]?=some d->∃u,vs[i]?=some u/\TV K Z H0 H H' (s.sub d) u)/\
  (∀ds,s.d=.tup ds->∃a vs,v=.ref a/\H' a=some (.tup vs)/\vs.length=ds.length/\∀(i:Nat) d,ds[i]?=some d->∃u,vs[i]?=some u/\TV K Z H0 H H' (s.sub d) u):=by
 have hm':∀b,Z b->Mut (H' b):=fun b z=>Qr S1 (hm b z);cases s with
 |bor d=>
  have h:=Rp.strip h;refine⟨fun ds e=>?_,fun ds e=>?_⟩<;>rw[show d.strip=_ from e]at h
  ·obtain⟨a,vs,rfl,h,r⟩:=Rp.lst_inv h;exact⟨_,_,rfl,h0 _ _ h,r.len,fun i d e=>let ⟨u,h1,h2⟩:=r.get e;⟨u,h1,argR hm' h0 h2⟩⟩
  ·obtain⟨a,vs,rfl,h,r⟩:=Rp.tup_inv h;exact⟨_,_,rfl,h0 _ _ h,r.len,fun i d e=>let ⟨u,h1,h2⟩:=r.get e;⟨u,h1,argR hm' h0 h2⟩⟩
 |sh d=>
  refine⟨fun ds e=>?_,fun ds e=>?_⟩<;>(have e':d=_:=e;subst e')
  ·obtain⟨a,vs,rfl,h,r⟩:=Rp.lst_inv h;exact⟨_,_,rfl,off_sub _ _ h,r.len,fun i d e=>r.get e⟩
  ·obtain⟨a,vs,rfl,h,r⟩:=Rp.tup_inv h;exact⟨_,_,rfl,off_sub _ _ h,r.len,fun i d e=>r.get e⟩
 |own es=>
  cases es with
  |lst es=>
   refine⟨fun ds e=>?_,fun ds e=>by cases e⟩;cases e
   obtain⟨a,rfl,e0,vs,e,r⟩:=h;exact⟨a,vs,rfl,e,r.len,fun i d e=>let ⟨u,h1,h2⟩:=r.get e;⟨u,h1,Rp.mono (Wy (Same.refl _) fun b _ _ z y=>z (.inl y)) h2⟩⟩
  |lsA x es=>
   refine⟨fun ds e=>?_,fun ds e=>by cases e⟩;cases e
   obtain⟨a,rfl,e0,_,vs,e,r⟩:=h;exact⟨a,vs,rfl,e,r.len,fun i d e=>let ⟨u,h1,h2⟩:=r.get e;⟨u,h1,Rp.mono (Wy (Same.refl _) fun b _ _ z y=>z (.inl y)) h2⟩⟩
  |dK es=>exact⟨(fun ds e=>by cases e),(fun ds e=>by cases e)⟩
  |dT es=>exact⟨(fun ds e=>by cases e),(fun ds e=>by cases e)⟩
  |nst cs=>
   refine⟨(fun ds e=>by cases e),fun ds e=>?_⟩;cases e
   obtain⟨a,rfl,e0,e1,e2,e3⟩:=h;have r:Rps K H' (cs.map fun c=>D.lst c.2) (cs.map fun c=>V.ref c.1):=QX fun c hc=>let ⟨vs,q1,q2⟩:=e2 c hc;⟨vs,q1,Rps.mono off_sub q2⟩;exact⟨a,_,rfl,off_sub _ _ e1,r.len,fun i d e=>let ⟨u,h1,h2⟩:=r.get e;⟨u,h1,QY hm' h2⟩⟩
  |ins x C xs cs=>exact⟨(fun ds e=>by cases e),(fun ds e=>by cases e)⟩
 |view es=>
  cases es with
  |lst es=>
   refine⟨fun ds e=>?_,fun ds e=>by cases e⟩;cases e
   obtain⟨a,rfl,vs,e,r⟩:=h;exact⟨a,vs,rfl,e,r.len,fun i d e=>r.get e⟩
  |lsA x es=>
   refine⟨fun ds e=>?_,fun ds e=>by cases e⟩;cases e
   obtain⟨a,rfl,_,vs,e,r⟩:=h;exact⟨a,vs,rfl,e,r.len,fun i d e=>r.get e⟩
  |dK es=>exact⟨(fun ds e=>by cases e),(fun ds e=>by cases e)⟩
  |dT es=>exact⟨(fun ds e=>by cases e),(fun ds e=>by cases e)⟩
  |nst cs=>
   refine⟨(fun ds e=>by cases e),fun ds e=>?_⟩;cases e
   obtain⟨a,rfl,e1,e2,e3⟩:=h;have r:Rps K H' (cs.map fun c=>D.lst c.2) (cs.map fun c=>V.ref c.1):=QX fun c hc=>let ⟨vs,q1,q2⟩:=e2 c hc;⟨vs,q1,Rps.mono off_sub q2⟩;exact⟨a,_,rfl,off_sub _ _ e1,r.len,fun i d e=>let ⟨u,h1,h2⟩:=r.get e;⟨u,h1,QY hm' h2⟩⟩
  |ins x C xs cs=>exact⟨(fun ds e=>by cases e),(fun ds e=>by cases e)⟩
 |tmp d=>
  refine⟨fun ds e=>?_,fun ds e=>?_⟩<;>(have e':d=_:=e;subst e')
  ·obtain⟨a,vs,rfl,h,r⟩:=Rp.lst_inv h;exact⟨_,_,rfl,h,r.len,fun i d e=>let ⟨u,h1,h2⟩:=r.get e;⟨u,h1,QY hm' h2⟩⟩
  ·obtain⟨a,vs,rfl,h,r⟩:=Rp.tup_inv h;exact⟨_,_,rfl,h,r.len,fun i d e=>let ⟨u,h1,h2⟩:=r.get e;⟨u,h1,QY hm' h2⟩⟩
def Fr(B:Addr->Prop)(H:Hp)(σ:L2.St)(γ:Γ)(H':Hp)(σ':L2.St)(γ':Γ):Prop:=∀b o,H b=some o->¬zof B γ σ b->H' b=some o/\¬zof B γ' σ' b
def Fr.refl:Fr B H σ γ H σ γ:=fun _ _ h z=>⟨h,z⟩
def Fr.trans {H1 H2:Hp}{σ1 σ2:L2.St}{γ1 γ2:Γ} (a:Fr B H σ γ H1 σ1 γ1) (b:Fr B H1 σ1 γ1 H2 σ2 γ2):Fr B H σ γ H2 σ2 γ2:=fun x o h z=>let ⟨h1,z1⟩:=a x o h z;b x o h1 z1
def Fr.grow (S1:Same H H'):Fr B H σ γ H' σ γ:=fun _ _ h z=>⟨S1 _ _ h,z⟩
def Fr.off {H':Hp}{σ':L2.St}{γ':Γ} (f:Fr B H σ γ H' σ' γ'):Same (off (zof B γ σ) H) (Pu.off (zof B γ' σ') H'):=fun b o h=>by
 obtain⟨h1,h2⟩:=Q9 h;obtain⟨h3,h4⟩:=f b o h1 h2;exact WK h3 h4
def W7{α:Type}{l:List α}{i j:Nat}{x y:α}(h:(l.set i x)[j]?=some y):(j=i/\x=y/\i<l.length)\/(j≠i/\l[j]?=some y):=by
 rw[List.getElem?_set]at h;by_cases e:i=j
 ·subst e;rw[ZE rfl]at h;by_cases e2:i<l.length
  ·rw[ZE e2]at h;exact .inl ⟨rfl,Z0 h,e2⟩
  ·rw[Z6 e2]at h;cases h
 ·rw[Z6 e]at h;exact .inr ⟨fun z=>e z.symm,h⟩
def V2{α:Type}{l:List α}{i:Nat}{x:α}(h:i<l.length):(l.set i x)[i]?=some x:=by rw[YG h]
def Q4{α:Type}{l:List α}{i j:Nat}{x:α}(h:j≠i):(l.set i x)[j]?=l[j]?:=YO fun z=>h z.symm
def EnvR.drop (E:EnvR K H0 B H σ γ) (i:Nat):EnvR K H0 B H σ (γ.set i none)/\Fr B H σ γ H σ (γ.set i none):=by
 have hz:∀b,zof B (γ.set i none) σ b->zof B γ σ b:=fun b z=>z.imp id fun⟨j,ds,a,h1,h2,h3⟩=>by
  rcases W7 h1 with⟨_,e,_⟩|⟨_,e⟩
  ·cases e
  ·exact⟨j,ds,a,e,h2,h3⟩
 refine⟨⟨E.same,by rw[Yt];exact E.len,E.bm,fun k j a a' ds es b h1 h2=>?_,fun k s h=>?_⟩,fun b o h z=>⟨h,fun y=>z (hz b y)⟩⟩
 ·rcases W7 h1 with⟨_,e,_⟩|⟨_,e1⟩
  ·cases e
  ·rcases W7 h2 with⟨_,e,_⟩|⟨_,e2⟩
   ·cases e
   ·exact E.own k j a a' ds es b e1 e2
 ·rcases W7 h with⟨_,e,_⟩|⟨_,e⟩
  ·cases e
  ·obtain⟨v,h1,h2⟩:=E.slot k s e;refine⟨v,h1,?_⟩;have S1:Same (Pu.off (zof B γ σ) H) (Pu.off (zof B (γ.set i none) σ) H):=Wy (Same.refl _) fun b _ _ z y=>z (hz b y);cases s with
   |bor d=>exact h2
   |sh d=>exact Rp.mono S1 h2
   |own ds=>
    obtain⟨a,e1,e3,e4⟩:=h2;exact⟨a,e1,e3,e4.mono S1 fun _ _ _ q=>q⟩
   |view ds=>exact h2
   |tmp d=>exact h2
def EnvR.put {i:Nat}{s s':S}{v:V} (E:EnvR K H0 B H σ γ) (S1:Same H H') (h:TV K (zof B γ σ) H0 H H' s v) (e:s.slot=some s') (hi:i<γ.length) :
  EnvR K H0 B H' (σ.set i (some v)) (γ.set i (some s'))/\Fr B H σ γ H' (σ.set i (some v)) (γ.set i (some s')):=by
 have hiσ:i<σ.length:=by rw[E.len];exact hi
 have E':=E.grow S1
 have isown:∀ds,s'=.own ds->s=.own ds:=fun ds q=>by
  subst q;cases s with
  |own es=>cases e;rfl
  |bor d=>cases e
  |sh d=>cases e
  |view d=>cases e
  |tmp d=>unfold S.slot at e;cases q:imm d<;>simp[q]at e
 have hown:∀b,zof B (γ.set i (some s')) (σ.set i (some v)) b->zof B γ σ b\/∃ds a,s=.own ds/\v=.ref a/\ds.adr a b:=fun b z=>by
  rcases z with z|⟨j,ds,a,h1,h2,h3⟩
  ·exact .inl (.inl z)
  ·rcases W7 h1 with⟨ej,e1,_⟩|⟨nj,e1⟩
   ·subst ej;rw[V2 hiσ]at h2
    have:s'=.own ds:=Z0 e1
    exact .inr ⟨ds,a,isown ds this,Z0 (Z0 h2),h3⟩
   ·rw[Q4 nj]at h2;exact .inl (.inr ⟨j,ds,a,e1,h2,h3⟩)
 have fresh:∀ds a b,s=.own ds->v=.ref a->ds.adr a b->H b=none:=fun ds a b es ev hb=>by
  subst es;obtain⟨a',e1,e0,_⟩:=h;rw[ev]at e1;cases e1
  exact e0 b hb
 have hz:∀b o,H b=some o->¬zof B γ σ b->¬zof B (γ.set i (some s')) (σ.set i (some v)) b:=fun b o hb z y=>by
  rcases hown b y with y|⟨ds,a,y1,y2,y3⟩
  ·exact z y
  ·rw[fresh ds a b y1 y2 y3]at hb;cases hb
 have So:Same (off (zof B γ σ) H) (Pu.off (zof B (γ.set i (some s')) (σ.set i (some v))) H'):=Wy S1 hz;refine⟨⟨E'.same,by rw[Yt,Yt];exact E.len,E'.bm,fun k j a a' ds es b h1 h2 h3 h4 h5 h6=>?_,fun k u hk=>?_⟩,fun b o hb z=>⟨S1 b o hb,hz b o hb z⟩⟩
 ·have old:∀(k:Nat) (ds:O) (a b:Addr),γ[k]?=some (some (.own ds))->σ[k]?=some (some (.ref a))->ds.adr a b->∃o,H b=some o:=fun k ds a b e1 e2 e3=>by
   obtain⟨u,q1,a',q2,_,q3⟩:=E.slot k _ e1;rw[e2]at q1;cases q1
   cases q2
   exact V4 (q3.mut b e3)
  rcases W7 h1 with⟨ek,e1,_⟩|⟨nk,e1⟩
  ·rcases W7 h2 with⟨ej,e2,_⟩|⟨nj,e2⟩
   ·rw[ek,ej]
   ·subst ek;rw[V2 hiσ]at h3;rw[Q4 nj]at h4;obtain⟨o,ho⟩:=old j es a' b e2 h4 h6;rw[fresh ds a b (isown ds (Z0 e1)) (Z0 (Z0 h3)) h5]at ho;cases ho
  ·rcases W7 h2 with⟨ej,e2,_⟩|⟨nj,e2⟩
   ·subst ej;rw[V2 hiσ]at h4;rw[Q4 nk]at h3;obtain⟨o,ho⟩:=old k ds a b e1 h3 h5;rw[fresh es a' b (isown es (Z0 e2)) (Z0 (Z0 h4)) h6]at ho;cases ho
   ·rw[Q4 nk]at h3;rw[Q4 nj]at h4;exact E.own k j a a' ds es b e1 e2 h3 h4 h5 h6
 ·rcases W7 hk with⟨ek,e1,_⟩|⟨nk,e1⟩
  ·subst ek
   have:u=s':=(Z0 e1).symm
   subst this;refine⟨v,V2 hiσ,?_⟩;cases s with
   |own ds=>
    cases e
    obtain⟨a,rfl,e0,r⟩:=h;refine⟨a,rfl,fun b hb=>E.same.free (e0 b hb),r.mono (Wy (Same.refl _) fun b o _ z y=>?_) fun _ _ _ q=>q⟩;rcases hown b y with y|⟨_,_,y1,y,y2⟩
    ·exact z (.inl y)
    ·cases y;cases y1;exact z (.inr y2)
   |sh d=>
    cases e
    refine Rp.mono (Wy (Same.refl _) fun b o _ z y=>?_) h;rcases hown b y with y|⟨_,_,y,_⟩
    ·exact z y
    ·cases y
   |bor d=>cases e;exact h
   |view d=>cases e
   |tmp d=>
    unfold S.slot at e;cases q:imm d with
    |false=>simp[q]at e
    |true=>
     simp[q]at e;subst e;refine Rp.off (fun b y=>?_) h q;rcases hown b y with y|⟨_,_,y,_⟩
     ·exact Qr S1 (E.zm b y)
     ·cases y
  ·obtain⟨w,q1,q2⟩:=E.slot k u e1;refine⟨w,by rw[Q4 nk];exact q1,?_⟩;cases u with
   |bor d=>exact q2
   |sh d=>exact Rp.mono So q2
   |own ds=>
    obtain⟨a,e1,e3,e4⟩:=q2;exact⟨a,e1,e3,e4.mono So fun b _ x=>S1 b x⟩
   |view ds=>exact q2
   |tmp d=>exact q2
def frz(i:Nat)(γ:Γ):Γ:=match γ[i]? with
 |some (some (.own o))=>γ.set i (some (.sh o.d))
 |_=>γ
def EnvR.frz (E:EnvR K H0 B H σ γ) (hB:∀b,B b->∃o,H0 b=some o) (i:Nat):EnvR K H0 B H σ (frz i γ)/\Fr B H σ γ H σ (Pu.frz i γ):=by
 unfold Pu.frz;split
 ·rename_i ds hi;have hlt:i<γ.length:=(ZM.mp hi).1
  have hz:∀b,zof B (γ.set i (some (.sh ds.d))) σ b->zof B γ σ b:=fun b z=>z.imp id fun⟨j,es,a,h1,h2,h3⟩=>by
   rcases W7 h1 with⟨_,e,_⟩|⟨_,e⟩
   ·cases e
   ·exact⟨j,es,a,e,h2,h3⟩
  have S1:Same (Pu.off (zof B γ σ) H) (Pu.off (zof B (γ.set i (some (.sh ds.d))) σ) H):=Wy (Same.refl _) fun b _ _ z y=>z (hz b y);refine⟨⟨E.same,by rw[Yt];exact E.len,E.bm,fun k j a a' es es' b h1 h2=>?_,fun k s h=>?_⟩,fun b o h z=>⟨h,fun y=>z (hz b y)⟩⟩
  ·rcases W7 h1 with⟨_,e,_⟩|⟨_,e1⟩
   ·cases e
   ·rcases W7 h2 with⟨_,e,_⟩|⟨_,e2⟩
    ·cases e
    ·exact E.own k j a a' es es' b e1 e2
  ·rcases W7 h with⟨ek,e,_⟩|⟨nk,e⟩
   ·subst ek
    have:=Z0 e
    subst this;obtain⟨v,h1,a,rfl,h3,h4⟩:=E.slot k _ hi;refine⟨_,h1,h4.rpIn S1 fun b hb x h2=>WK h2 fun z=>?_⟩;rcases z with z|⟨j,es,a',e1,e2,e3⟩
    ·obtain⟨o,ho⟩:=hB b z;rw[h3 b hb]at ho;cases ho
    ·rcases W7 e1 with⟨_,q,_⟩|⟨nj,q⟩
     ·cases q
     ·exact nj (E.own j k a' a es ds b q hi e2 h1 e3 hb)
   ·obtain⟨v,h1,h2⟩:=E.slot k s e;refine⟨v,h1,?_⟩;cases s with
    |bor d=>exact h2
    |sh d=>exact Rp.mono S1 h2
    |own ds=>
     obtain⟨a,e1,e3,e4⟩:=h2;exact⟨a,e1,e3,e4.mono S1 fun _ _ _ q=>q⟩
    |view ds=>exact h2
    |tmp d=>exact h2
 ·exact⟨E,Fr.refl⟩
def EnvR.change {i:Nat}{a:Addr}{o o':O} (E:EnvR K H0 B H σ γ) (hi:γ[i]?=some (some (.own o))) (ha:σ[i]?=some (some (.ref a)))
  (hH:∀b x,H b=some x->¬o.adr a b->H' b=some x) (hm:∀b,o.adr a b->Mut (H' b)) (hadr:∀b,o'.adr a b->o.adr a b\/H b=none) (r:OR K (Pu.off (zof B (γ.set i (some (.own o'))) σ) H') H' a o') :
  EnvR K H0 B H' σ (γ.set i (some (.own o')))/\Fr B H σ γ H' σ (γ.set i (some (.own o'))):=by
 have hlt:i<γ.length:=(ZM.mp hi).1;obtain⟨v,h1,a',rfl,h3,h4⟩:=E.slot i _ hi;rw[ha]at h1;cases h1
 have za:∀b,o.adr a b->zof B γ σ b:=fun b hb=>.inr ⟨i,o,a,hi,ha,hb⟩
 have hz:∀b x,H b=some x->zof B (γ.set i (some (.own o'))) σ b->zof B γ σ b:=fun b x hx z=>by
  rcases z with z|⟨j,fs,a',e1,e2,e3⟩
  ·exact .inl z
  ·rcases W7 e1 with⟨ej,q,_⟩|⟨_,e⟩
   ·subst ej;cases q
    rw[ha]at e2;cases e2
    rcases hadr b e3 with k|k
    ·exact za b k
    ·rw[k]at hx;cases hx
   ·exact .inr ⟨j,fs,a',e,e2,e3⟩
 have S1:Same (Pu.off (zof B γ σ) H) (Pu.off (zof B (γ.set i (some (.own o'))) σ) H'):=fun b x h=>by
  obtain⟨q1,q2⟩:=Q9 h;exact WK (hH b x q1 fun k=>q2 (za b k)) fun z=>q2 (hz b x q1 z)
 have old:∀(k:Nat) (ds:O) (a b:Addr),γ[k]?=some (some (.own ds))->σ[k]?=some (some (.ref a))->ds.adr a b->∃o,H b=some o:=fun k ds a b e1 e2 e3=>by
  obtain⟨u,q1,a',q2,_,q3⟩:=E.slot k _ e1;rw[e2]at q1;cases q1
  cases q2
  exact V4 (q3.mut b e3)
 refine⟨⟨fun b x h=>?_,by rw[Yt];exact E.len,fun b hb=>?_,fun k j x x' fs fs' b e1 e2 e3 e4 e5 e6=>?_,fun k s h=>?_⟩,fun b x h z=>⟨?_,fun y=>z (hz b x h y)⟩⟩
 ·exact hH b x (E.same b x h) fun k=>by rw[h3 b k]at h;cases h
 ·by_cases k:o.adr a b
  ·exact hm b k
  ·have:=E.bm b hb
   obtain⟨x,hx⟩:=V4 this;rw[hH b x hx k,←hx];exact this
 ·rcases W7 e1 with⟨ek,q1,_⟩|⟨nk,q1⟩
  ·rcases W7 e2 with⟨ej,_,_⟩|⟨nj,q2⟩
   ·rw[ek,ej]
   ·subst ek;cases q1
    rw[ha]at e3;cases e3
    rcases hadr b e5 with w|w
    ·exact E.own k j _ _ _ _ b hi q2 ha e4 w e6
    ·obtain⟨u,hu⟩:=old j fs' x' b q2 e4 e6;rw[w]at hu;cases hu
  ·rcases W7 e2 with⟨ej,q2,_⟩|⟨nj,q2⟩
   ·subst ej;cases q2
    rw[ha]at e4;cases e4
    rcases hadr b e6 with w|w
    ·exact E.own k j _ _ _ _ b q1 hi e3 ha e5 w
    ·obtain⟨u,hu⟩:=old k fs x b q1 e3 e5;rw[w]at hu;cases hu
   ·exact E.own k j x x' fs fs' b q1 q2 e3 e4 e5 e6
 ·rcases W7 h with⟨ek,e,_⟩|⟨nk,e⟩
  ·subst ek
   have:=Z0 e
   subst this;exact⟨_,ha,a,rfl,fun b hb=>(hadr b hb).elim (h3 b) fun w=>E.same.free w,r⟩
  ·obtain⟨v,q1,q2⟩:=E.slot k s e;refine⟨v,q1,?_⟩;cases s with
   |bor d=>exact q2
   |sh d=>exact Rp.mono S1 q2
   |own fs=>
    obtain⟨x,rfl,e3,e4⟩:=q2;exact⟨x,rfl,e3,e4.mono S1 fun b hb y e2=>hH b y e2 fun w=>nk (E.own k i x a fs o b e hi q1 ha hb w)⟩
   |view ds=>exact q2
   |tmp d=>exact q2
 ·exact hH b x h fun k=>z (za b k)
def EnvR.mutate {i:Nat}{a:Addr}{ds es:O}{us:HO} (E:EnvR K H0 B H σ γ) (hi:γ[i]?=some (some (.own ds))) (ha:σ[i]?=some (some (.ref a))) (hu:Mut (some us)) (r:∀F H':Hp,Same (Pu.off (zof B γ σ) H) F->H' a=some us->OR K F H' a es)
  (k1:ds.adr a=fun b=>b=a:=by rfl) (k2:es.adr a=fun b=>b=a:=by rfl) :
  EnvR K H0 B (upd H a us) σ (γ.set i (some (.own es)))/\Fr B H σ γ (upd H a us) σ (γ.set i (some (.own es))):=by
 refine E.change (o:=ds) (o':=es) hi ha (fun b x h n=>by rw[Wz (fun z=>n (by rw[k1];exact z))];exact h) (fun b h=>by rw[k1]at h;rw[show b=a from h,WL];exact hu) (fun b h=>.inl (by rw[k1];rw[k2]at h;exact h)) (r _ _ ?_ WL)
 intro b x h;obtain⟨q1,q2⟩:=Q9 h;have nb:b≠a:=fun z=>q2 (.inr ⟨i,ds,a,hi,ha,by rw[k1];exact z⟩);refine WK (by rw[Wz nb];exact q1) fun z=>q2 ?_;rcases z with z|⟨j,fs,a',e1,e2,e3⟩
 ·exact .inl z
 ·rcases W7 e1 with⟨ej,q,_⟩|⟨_,e⟩
  ·subst ej;cases q
   rw[ha]at e2;cases e2
   rw[k2]at e3;exact absurd e3 nb
  ·exact .inr ⟨j,fs,a',e,e2,e3⟩
end
end Pu
namespace Pu
open PySem PySem.Spec PyProof.Rows L2 Own
abbrev XR:=Str->Prop
abbrev PTE:=Γ->(S->Prop)->XR->Prop
abbrev PTT:=Γ->(Bool->Prop)->XR->Prop
abbrev PTA:=Γ->(List S->Prop)->XR->Prop
abbrev PTO:=Γ->(Option Int->Prop)->XR->Prop
structure PEnds where
 nx:Γ->Prop
 rt:S->Prop
 ex:Γ->Str->Prop
 bk:Γ->Prop:=fun _=>False
 ct:Γ->Prop:=fun _=>False
 rv:Γ->D->Prop:=fun _ _=>False
abbrev PTS:=PEnds->Γ->Prop
abbrev PTG:=S->Γ->(Γ->Prop)->Prop
abbrev PTGs:=List S->Γ->(Γ->Prop)->Prop
inductive TVs (K:Za) (Z:Addr->Prop) (H0 H H':Hp):List S->List V->Prop
 |nil:TVs K Z H0 H H' [] []
 |cons {s:S} {v:V} {ss:List S} {vs:List V}:TV K Z H0 H H' s v->TVs K Z H0 H H' ss vs->TVs K Z H0 H H' (s::ss) (v::vs)
section
variable (K:Za) (mg:Str->Option Value) (E:L2.St->XK)
def SndE(t:TE)(p:PTE):Prop:=∀(H0:Hp) (B:Addr->Prop) (H:Hp) (σ:L2.St) (γ:Γ) (R:S->Prop) (X:XR) (Q:VK),EnvR K H0 B H σ γ->p γ R X->
 (∀s v H',R s->Same H H'->TV K (zof B γ σ) H0 H H' s v->Q v H')->(∀c H',X c->Same H H'->E σ (.ref (ExcR.Qn mg c)) none H')->t σ H Q
def SndT(t:TT)(p:PTT):Prop:=∀(H0:Hp) (B:Addr->Prop) (H:Hp) (σ:L2.St) (γ:Γ) (R:Bool->Prop) (X:XR) (Q:Bool->Hp->Prop),EnvR K H0 B H σ γ->p γ R X->
 (∀b H',R b->Same H H'->Q b H')->(∀c H',X c->Same H H'->E σ (.ref (ExcR.Qn mg c)) none H')->t σ H Q
def SndA(t:TA)(p:PTA):Prop:=∀(H0:Hp) (B:Addr->Prop) (H:Hp) (σ:L2.St) (γ:Γ) (R:List S->Prop) (X:XR) (Q:List V->Hp->Prop),EnvR K H0 B H σ γ->p γ R X->
 (∀ss vs H',R ss->Same H H'->TVs K (zof B γ σ) H0 H H' ss vs->Q vs H')->(∀c H',X c->Same H H'->E σ (.ref (ExcR.Qn mg c)) none H')->t σ H Q
def SndO(t:TO)(p:PTO):Prop:=∀(H0:Hp) (B:Addr->Prop) (H:Hp) (σ:L2.St) (γ:Γ) (R:Option Int->Prop) (X:XR) (Q:Option Int->Hp->Prop),EnvR K H0 B H σ γ->p γ R X->
 (∀o H',R o->Same H H'->Q o H')->(∀c H',X c->Same H H'->E σ (.ref (ExcR.Qn mg c)) none H')->t σ H Q
structure EndR (H0:Hp) (B:Addr->Prop) (H:Hp) (σ:L2.St) (γ:Γ) (R:PEnds) (D:Ends):Prop where
 nx:∀σ' γ' H',R.nx γ'->EnvR K H0 B H' σ' γ'->Fr B H σ γ H' σ' γ'->D.nx σ' H'
 rt:∀s v H',R.rt s->Same H0 H'->TV K B H0 H0 H' s v->D.rt v H'
 ex:∀σ' γ' c H',R.ex γ' c->EnvR K H0 B H' σ' γ'->Fr B H σ γ H' σ' γ'->E σ' (.ref (ExcR.Qn mg c)) none H'
 bk:∀σ' γ' H',R.bk γ'->EnvR K H0 B H' σ' γ'->Fr B H σ γ H' σ' γ'->D.bk σ' H'
 ct:∀σ' γ' H',R.ct γ'->EnvR K H0 B H' σ' γ'->Fr B H σ γ H' σ' γ'->D.ct σ' H'
 rv:∀σ' γ' d v H',R.rv γ' d->EnvR K H0 B H' σ' γ'->Fr B H σ γ H' σ' γ'->Rp K (off (zof B γ' σ') H') d v->D.rt v H'
def SndS(t:TS)(p:PTS):Prop:=∀(H0:Hp) (B:Addr->Prop) (H:Hp) (σ:L2.St) (γ:Γ) (R:PEnds) (D:Ends),(∀b,B b->∃o,H0 b=some o)->EnvR K H0 B H σ γ->p R γ->EndR K mg E H0 B H σ γ R D->t D σ H
end
section
variable {K:Za}{mg:Str->Option Value}{E:L2.St->XK}{H0 H H1 H':Hp}{B Z Z':Addr->Prop}{σ:L2.St}{γ:Γ}
def TVs.weakG {H1 H2:Hp}:∀{ss:List S}{vs:List V},Same H H1->TVs K Z H0 H1 H2 ss vs->TVs K Z H0 H H2 ss vs
 |_,_,_,.nil=>.nil
 |_,_,S1,.cons h r=>.cons (TV.weak S1 (fun _ z=>z) h) (TVs.weakG S1 r)
def TVs.rps (h0:Same H0 H'):∀{ss:List S}{vs:List V},TVs K Z H0 H H' ss vs->Rps K H' (ss.map S.d) vs
 |_,_,.nil=>.nil
 |_,_,.cons h r=>.cons (h.rp h0) (TVs.rps h0 r)
def TVs.shd {ds:List D} (h0:Same H0 H') (hm:∀b,Z b->Mut (H b)) (S1:Same H H'):∀{ss:List S}{vs:List V}{ds:List D},TVs K Z H0 H H' ss vs->ss.map S.shd=ds.map some->Rps K (off Z H') ds vs
 |_,_,[],.nil,_=>.nil
 |_,_,_::_,.nil,e=>by cases e
 |_,_,[],.cons _ _,e=>by cases e
 |_,_,d::ds,.cons h r,e=>by
  rw[Z4,Z4,List.cons.injEq]at e;exact .cons (h.shd h0 hm S1 e.1) (TVs.shd (ds:=ds) h0 hm S1 r e.2)
def Rp.int_inv {i:Int}{v:V} (h:Rp K H (.int i) v):v=.int i:=by cases h;rfl
def Rp.bl_inv {b:Bool}{v:V} (h:Rp K H (.bl b) v):v=.bl b:=by cases h;rfl
def Rp.str_inv {x:Str}{v:V} (h:Rp K H (.str x) v):v=.str x:=by cases h;rfl
def Rp.non_inv {v:V} (h:Rp K H .non v):v=.non:=by cases h;rfl
def Rp.ty_inv {n:String}{v:V} (h:Rp K H (.ty n) v):v=.ty n:=by cases h;rfl
def pVar(i:Nat):PTE:=fun γ R _=>match γ[i]? with
 |some (some (.own ds))=>R (.view ds)
 |some (some s)=>R s
 |_=>False
def Wn(i:Nat):SndE K mg E (tVar i) (pVar i):=by
 intro H0 B H σ γ R X Q env h q _;unfold pVar at h;split at h
 ·rename_i ds e;obtain⟨v,h1,a,rfl,h3,h4⟩:=env.slot i _ e;exact⟨_,h1,q _ _ H h (Same.refl _) ⟨a,rfl,h4⟩⟩
 ·rename_i s ns e;obtain⟨v,h1,h2⟩:=env.slot i _ e;refine⟨v,h1,q _ _ H h (Same.refl _) ?_⟩;cases s with
  |bor d=>exact h2
  |sh d=>exact h2
  |own ds=>exact absurd rfl (ns ds)
  |view ds=>exact h2.elim
  |tmp d=>exact h2.elim
 ·exact h.elim
def pC(d:D):PTE:=fun _ R _=>R (.sh d)
def se_c{d:D}{v:V}(h:∀H,Rp K H d v):SndE K mg E (tC v) (pC d):=by
 intro H0 B H σ γ R X Q env p q _;exact q _ _ H p (Same.refl _) (h _)
def Wo{i:Int}:SndE K mg E (tC (.int i)) (pC (.int i)):=se_c fun _=>.int i
def WQ{b:Bool}:SndE K mg E (tC (.bl b)) (pC (.bl b)):=se_c fun _=>.bl b
def VE:SndE K mg E (tC .non) (pC .non):=se_c fun _=>.non
def QB{n:String}:SndE K mg E (tC (.ty n)) (pC (.ty n)):=se_c fun _=>.ty n
def p2(a b:PTE)(f:S->S->(S->Prop)->Prop):PTE:=fun γ R X=>a γ (fun x=>b γ (fun y=>f x y R) X) X
def se_2{r:R2}{ta tb:TE}{a b:PTE}{f:S->S->(S->Prop)->Prop}(ha:SndE K mg E ta a)(hb:SndE K mg E tb b)(hr:∀(H0 H H2:Hp) (Z:Addr->Prop) (x y:S) (v u:V) (R:S->Prop) (Q:VK),Same H0 H2->Same H H2->(∀b,Z b->Mut (H b))->TV K Z H0 H H2 x v->TV K Z H0 H H2 y u->f x y R->(∀s z H',R s->Same H2 H'->TV K Z H0 H H' s z->Q z H')->r v u H2 Q) :
  SndE K mg E (tOp r ta tb) (p2 a b f):=by
 intro H0 B H σ γ R X Q env p q qx;refine ha H0 B H σ γ _ X _ env p (fun x v H1 h1 S1 t1=>?_) qx;have env1:=env.grow S1;refine hb H0 B H1 σ γ _ X _ env1 h1 (fun y u H2 h2 S2 t2=>?_) fun c H' hc S'=>qx c H' hc (S1.trans S');exact hr H0 H H2 _ x y v u R Q (env1.same.trans S2) (S1.trans S2) env.zm (t1.grow S2) (TV.weak S1 (fun _ z=>z) t2) h2 fun s z H' hs S3 t3=>q s z H' hs ((S1.trans S2).trans S3) t3
def fI0(g:Int->Int->D):S->S->(S->Prop)->Prop:=fun x y R=>match x.d,y.d with
 | .int i,.int j=>R (.sh (g i j))
 |_,_=>False
def fI(C:Int->Int->Prop)(g:Int->Int->D):S->S->(S->Prop)->Prop:=fun x y R=>match x.d,y.d with
 | .int i,.int j=>C i j/\R (.sh (g i j))
 |_,_=>False
def V5{g:Int->Int->V}{g':Int->Int->D}{ta tb:TE}{a b:PTE}(hg:∀H i j,Rp K H (g' i j) (g i j))(ha:SndE K mg E ta a)(hb:SndE K mg E tb b):SndE K mg E (tOp (rI0 g) ta tb) (p2 a b (fI0 g')):=by
 refine se_2 ha hb fun H0 H H2 Z x y v u R Q s0 s1 hm tx ty h q=>?_;unfold fI0 at h;have rx:=tx.rp s0;have ry:=ty.rp s0;split at h
 ·rename_i i j e1 e2;rw[e1]at rx;rw[e2]at ry;exact⟨i,j,rx.int_inv,ry.int_inv,q _ _ H2 h (Same.refl _) (hg _ i j)⟩
 ·exact h.elim
def se_I{C:Int->Int->Prop}{g:Int->Int->V}{g':Int->Int->D}{ta tb:TE}{a b:PTE}(hg:∀H i j,Rp K H (g' i j) (g i j))(ha:SndE K mg E ta a)(hb:SndE K mg E tb b):SndE K mg E (tOp (rI C g) ta tb) (p2 a b (fI C g')):=by
 refine se_2 ha hb fun H0 H H2 Z x y v u R Q s0 s1 hm tx ty h q=>?_;unfold fI at h;have rx:=tx.rp s0;have ry:=ty.rp s0;split at h
 ·rename_i i j e1 e2;rw[e1]at rx;rw[e2]at ry;exact⟨i,j,rx.int_inv,ry.int_inv,h.1,q _ _ H2 h.2 (Same.refl _) (hg _ i j)⟩
 ·exact h.elim
section
variable {ta tb tc:TE}{a b c:PTE}
def W9(ha:SndE K mg E ta a)(hb:SndE K mg E tb b):SndE K mg E (tOp (rI0 fun i j=>.int (i+j)) ta tb) (p2 a b (fI0 fun i j=>.int (i+j))):=V5 (fun _ _ _=>.int _) ha hb
def QF(ha:SndE K mg E ta a)(hb:SndE K mg E tb b):SndE K mg E (tOp (rI0 fun i j=>.int (i-j)) ta tb) (p2 a b (fI0 fun i j=>.int (i-j))):=V5 (fun _ _ _=>.int _) ha hb
def Qz(ha:SndE K mg E ta a)(hb:SndE K mg E tb b):SndE K mg E (tOp (rI CMul fun i j=>.int (i*j)) ta tb) (p2 a b (fI CMul fun i j=>.int (i*j))):=se_I (fun _ _ _=>.int _) ha hb
def QL(ha:SndE K mg E ta a)(hb:SndE K mg E tb b):SndE K mg E (tOp (rI CDiv fun i j=>.int (i / j)) ta tb) (p2 a b (fI CDiv fun i j=>.int (i / j))):=se_I (fun _ _ _=>.int _) ha hb
def WV(ha:SndE K mg E ta a)(hb:SndE K mg E tb b):SndE K mg E (tOp (rI (fun _ j=>0<j) fun i j=>.int (i % j)) ta tb) (p2 a b (fI (fun _ j=>0<j) fun i j=>.int (i % j))):=se_I (fun _ _ _=>.int _) ha hb
def Pw(ha:SndE K mg E ta a)(hb:SndE K mg E tb b):SndE K mg E (tOp (rI0 fun i j=>.bl (decide (i<j))) ta tb) (p2 a b (fI0 fun i j=>.bl (decide (i<j)))):=V5 (fun _ _ _=>.bl _) ha hb
def Jb(ha:SndE K mg E ta a)(hb:SndE K mg E tb b):SndE K mg E (tOp (rI0 fun i j=>.bl (decide (j<i))) ta tb) (p2 a b (fI0 fun i j=>.bl (decide (j<i)))):=V5 (fun _ _ _=>.bl _) ha hb
def fEq(neg:Bool):S->S->(S->Prop)->Prop:=fun x y R=>match x.d,y.d with
 | .int i,.int j=>R (.sh (.bl (if neg then !decide (i=j)else decide (i=j))))
 | .str i,.str j=>R (.sh (.bl (if neg then !decide (i=j)else decide (i=j))))
 | .bl i,.bl j=>R (.sh (.bl (if neg then !decide (i=j)else decide (i=j))))
 |_,_=>False
def QK{α β:Type}[DecidableEq α][DecidableEq β]{f:α->β}(hf:∀a b,f a=f b->a=b)(a b:α):decide (f a=f b)=decide (a=b):=by
 by_cases e:a=b
 ·rw[Z7 e,Z7 (ZT f e)]
 ·rw[Z9 e,Z9 fun z=>e (hf a b z)]
def fIx:S->S->(S->Prop)->Prop:=fun x y R=>match x.d,y.d with
 | .lst ds,.int k=>∃d,atI ds k=some d/\R (x.sub d)
 | .tup ds,.int k=>∃d,atI ds k=some d/\R (x.sub d)
 | .scr ns,.int k=>∃i,atI ns k=some i/\R (.sh (.int i))
 |_,_=>False
def Xc{ds:List D}{vs:List V}{k:Int}{d:D}{P:D->V->Prop}(hl:vs.length=ds.length)(h:∀(i:Nat) d,ds[i]?=some d->∃u,vs[i]?=some u/\P d u)(e:atI ds k=some d):∃u,atI vs k=some u/\P d u:=by
 unfold atI at e ⊢;rw[hl];cases q:ixN ds.length k with
 |none=>rw[q]at e;cases e
 |some j=>
  rw[q]at e;exact h j d e
def Ws(ha:SndE K mg E ta a)(hb:SndE K mg E tb b):SndE K mg E (tOp (fun x y H Q=>rIxL K x y H Q\/rIxT K x y H Q) ta tb) (p2 a b fIx):=by
 refine se_2 ha hb fun H0 H H2 Z x y v u R Q s0 s1 hm tx ty h q=>?_;unfold fIx at h;have ry:=ty.rp s0;obtain⟨pl,pt⟩:=tx.part s0 hm s1;split at h
 ·rename_i ds k e1 e2;rw[e2]at ry;obtain⟨d,hd,hR⟩:=h;obtain⟨l,vs,rfl,hl,hn,hp⟩:=pl ds e1;obtain⟨z,hz,tz⟩:=Xc hn hp hd;exact .inl ⟨l,vs,k,z,rfl,ry.int_inv,SqL.of hl,hz,q _ _ H2 hR (Same.refl _) tz⟩
 ·rename_i ds k e1 e2;rw[e2]at ry;obtain⟨d,hd,hR⟩:=h;obtain⟨l,vs,rfl,hl,hn,hp⟩:=pt ds e1;obtain⟨z,hz,tz⟩:=Xc hn hp hd;exact .inr ⟨l,vs,k,z,rfl,ry.int_inv,SqT.of hl,hz,q _ _ H2 hR (Same.refl _) tz⟩
 ·rename_i ns k e1 e2;rw[e2]at ry;obtain⟨i,hi,hR⟩:=h;have rx:=tx.rp s0;rw[e1]at rx;cases rx with
  |scr hs=>exact .inl ⟨_,_,k,.int i,rfl,ry.int_inv,hs,Q5 hi,q _ _ H2 hR (Same.refl _) (.int i)⟩
 ·exact h.elim
def PQ(a b:PTE):PTE:=fun γ R X=>a γ (fun x=>match x.d with | .bl c=>if c=true then b γ R X else R (.sh (.bl false))|_=>False) X
def P7(a:PTE):PTE:=fun γ R X=>a γ (fun x=>match x.d with | .bl c=>R (.sh (.bl (!c)))|_=>False) X
def PN(ha:SndE K mg E ta a)(hb:SndE K mg E tb b):SndE K mg E (JQ ta tb) (PQ a b):=by
 intro H0 B H σ γ R X Q env p q qx;refine ha H0 B H σ γ _ X _ env p (fun x v H1 h1 S1 t1=>?_) qx;have env1:=env.grow S1;have rx:=t1.rp env1.same;split at h1
 ·rename_i c e1;rw[e1]at rx;refine⟨c,rx.bl_inv,?_⟩;split at h1
  ·rename_i hc;rw[ZE hc];exact hb H0 B H1 σ γ _ X _ env1 h1 (fun y u H2 h2 S2 t2=>q y u H2 h2 (S1.trans S2) (TV.weak S1 (fun _ z=>z) t2)) fun c H' hc S'=>qx c H' hc (S1.trans S')
  ·rename_i hc;rw[Z6 hc];exact q _ _ H1 h1 S1 (.bl _)
 ·exact h1.elim
def K5(ha:SndE K mg E ta a):SndE K mg E (Xx ta) (P7 a):=by
 intro H0 B H σ γ R X Q env p q qx;refine ha H0 B H σ γ _ X _ env p (fun x v H1 h1 S1 t1=>?_) qx;have rx:=t1.rp (env.grow S1).same;split at h1
 ·rename_i c e1;rw[e1]at rx;exact⟨c,rx.bl_inv,q _ _ H1 h1 S1 (.bl _)⟩
 ·exact h1.elim
def U4(a:PTE):PTT:=fun γ R X=>a γ (fun x=>match x.d with | .bl c=>R c|_=>False) X
def WI(ha:SndE K mg E ta a):SndT K mg E (Vr ta) (U4 a):=by
 intro H0 B H σ γ R X Q env p q qx;refine ha H0 B H σ γ _ X _ env p (fun x v H1 h1 S1 t1=>?_) qx;have rx:=t1.rp (env.grow S1).same;split at h1
 ·rename_i c e1;rw[e1]at rx;exact⟨c,rx.bl_inv,q _ H1 h1 S1⟩
 ·exact h1.elim
def st_b(ha:SndE K mg E ta a):SndT K mg E (tB ta) (U4 a):=WI ha
variable {sa sb:TT}{pa pb:PTT}
def pAnd(a b:PTT):PTT:=fun γ R X=>a γ (fun c=>if c=true then b γ R X else R false) X
def pOr(a b:PTT):PTT:=fun γ R X=>a γ (fun c=>if c=true then R true else b γ R X) X
def pNot(a:PTT):PTT:=fun γ R X=>a γ (fun c=>R (!c)) X
def Sl(ha:SndT K mg E sa pa)(hb:SndT K mg E sb pb):SndT K mg E (tAnd sa sb) (pAnd pa pb):=by
 intro H0 B H σ γ R X Q env p q qx;refine ha H0 B H σ γ _ X _ env p (fun c H1 h1 S1=>?_) qx;split at h1
 ·rename_i hc;rw[ZE hc];exact hb H0 B H1 σ γ _ X _ (env.grow S1) h1 (fun y H2 h2 S2=>q y H2 h2 (S1.trans S2)) fun c H' hc S'=>qx c H' hc (S1.trans S')
 ·rename_i hc;rw[Z6 hc];exact q _ H1 h1 S1
def Ql(ha:SndT K mg E sa pa)(hb:SndT K mg E sb pb):SndT K mg E (tOr sa sb) (pOr pa pb):=by
 intro H0 B H σ γ R X Q env p q qx;refine ha H0 B H σ γ _ X _ env p (fun c H1 h1 S1=>?_) qx;split at h1
 ·rename_i hc;rw[ZE hc];exact q _ H1 h1 S1
 ·rename_i hc;rw[Z6 hc];exact hb H0 B H1 σ γ _ X _ (env.grow S1) h1 (fun y H2 h2 S2=>q y H2 h2 (S1.trans S2)) fun c H' hc S'=>qx c H' hc (S1.trans S')
def Qa(ha:SndT K mg E sa pa):SndT K mg E (tNot sa) (pNot pa):=by
 intro H0 B H σ γ R X Q env p q qx;exact ha H0 B H σ γ _ X _ env p (fun c H1 h1 S1=>q _ H1 h1 S1) qx
end
def pNil:PTA:=fun _ R _=>R []
def Q8(a:PTE)(r:PTA):PTA:=fun γ R X=>a γ (fun s=>r γ (fun ss=>R (s::ss)) X) X
def Qx:SndA K mg E tNil pNil:=by
 intro H0 B H σ γ R X Q env p q _;exact q _ _ H p (Same.refl _) .nil
def W6{te:TE}{ta:TA}{a:PTE}{r:PTA}(ha:SndE K mg E te a)(hr:SndA K mg E ta r):SndA K mg E (WH te ta) (Q8 a r):=by
 intro H0 B H σ γ R X Q env p q qx;refine ha H0 B H σ γ _ X _ env p (fun s v H1 h1 S1 t1=>?_) qx;refine hr H0 B H1 σ γ _ X _ (env.grow S1) h1 (fun ss vs H2 h2 S2 t2=>?_) fun c H' hc S'=>qx c H' hc (S1.trans S');exact q _ _ H2 h2 (S1.trans S2) (.cons (t1.grow S2) (TVs.weakG S1 t2))
def shds:List S->Option (List D)
 |[]=>some []
 |s::r=>match s.shd,shds r with
  |some d,some ds=>some (d::ds)
  |_,_=>none
def Ji:∀{ss:List S}{ds:List D},shds ss=some ds->ss.map S.shd=ds.map some
 |[],ds,h=>by cases h;rfl
 |s::r,ds,h=>by
  unfold shds at h;split at h
  ·rename_i d es e1 e2;cases h
   rw[Z4,Z4,e1,Ji e2]
  ·cases h
def pTup(r:PTA):PTE:=fun γ R X=>r γ (fun ss=>match shds ss with|some ds=>ds.length<=1000/\R (.sh (.tup ds))|none=>False) X
def pLst(r:PTA):PTE:=fun γ R X=>r γ (fun ss=>match shds ss with|some ds=>ds.length<=1000/\R (.own ds)|none=>False) X
def Ud{n:Nat}(h:n<=1000):n<=sizeLine:=YN (NM h)
def QM{ta:TA}{r:PTA}(hr:SndA K mg E ta r):SndE K mg E (tTup ta) (pTup r):=by
 intro H0 B H σ γ R X Q env p q qx;refine hr H0 B H σ γ _ X _ env p (fun ss vs H1 h1 S1 t1=>?_) qx;split at h1
 ·rename_i ds e;have env1:=env.grow S1;have rp:=t1.shd (ds:=ds) env1.same env.zm S1 (Ji e);refine⟨by rw[rp.len];exact Ud h1.1,fun l nl=>?_⟩;have S2:=WJ (o:=.tup vs) nl;refine q _ _ _ h1.2 (S1.trans S2) (.tup (WK WL fun z=>?_) (Rps.mono (Wy S2 fun _ _ _ z=>z) rp))
  have:=env1.zm l z
  rw[nl]at this;exact this
 ·exact h1.elim
def QV{H H1:Hp}{l:Addr}{vs:List V}{ds:List D}(S1:Same H H1)(nl:H1 l=none)(rp:Rps K (off Z H1) ds vs):TV K Z H0 H (upd H1 l (.lst vs)) (.own ds) (.ref l):=
 ⟨l,rfl,(fun _ e=>e▸S1.free nl),vs,WL,Rps.mono (Wy (WJ nl) fun b o hb z y=>y.elim z fun e=>by rw[e,nl]at hb;cases hb) rp⟩
def QD{ta:TA}{r:PTA}(hr:SndA K mg E ta r):SndE K mg E (tLst ta) (pLst r):=by
 intro H0 B H σ γ R X Q env p q qx;refine hr H0 B H σ γ _ X _ env p (fun ss vs H1 h1 S1 t1=>?_) qx;split at h1
 ·rename_i ds e;have env1:=env.grow S1;have rp:=t1.shd (ds:=ds) env1.same env.zm S1 (Ji e);refine⟨by rw[rp.len];exact Ud h1.1,fun l nl=>?_⟩;exact q _ _ _ h1.2 (S1.trans (WJ nl)) (QV S1 nl rp)
 ·exact h1.elim
abbrev Pc:=List D->(S->Prop)->XR->Prop
def spOf(mg:Str->Option Value)(c:Pc)(K:Za):Sp:=fun vs H Q E=>∃ds R X,Rps K H ds vs/\c ds R X/\(∀s v H',R s->Same H H'->TV K (fun b=>Mut (H b)) H H H' s v->Q v H')/\∀e H',X e->Same H H'->E (.ref (ExcR.Qn mg e)) none H'
def S.back:S->S
 | .bor d=>argT d | .view o=>.tmp o.d|s=>s
def TV.back {s:S}{v:V} (env:EnvR K H0 B H1 σ γ) (S1:Same H H1) (S2:Same H1 H') (h:TV K (fun b=>Mut (H1 b)) H1 H1 H' s v):TV K (zof B γ σ) H0 H H' s.back v:=by
 cases s with
 |bor d=>exact QY (fun b z=>Qr S2 (env.zm b z)) (Rp.mono S2 h)
 |sh d=>exact Rp.mono (Wy (Same.refl _) fun b _ _ z y=>z (env.zm b y)) h
 |own ds=>
  obtain⟨a,rfl,e0,r⟩:=h;exact⟨a,rfl,(fun b hb=>S1.free (e0 b hb)),r.mono (Wy (Same.refl _) fun b _ _ z y=>z (y.imp (env.zm b) id)) fun _ _ _ q=>q⟩
 |view ds=>
  obtain⟨a,rfl,r⟩:=h;exact r.rp off_sub
 |tmp d=>exact h
def KC(c:Pc)(r:PTA):PTE:=fun γ R X=>r γ (fun ss=>c (ss.map S.d) (fun s=>R s.back) fun _=>False) X
def W4{c:Pc}{ta:TA}{r:PTA}(hr:SndA K mg E ta r):SndE K mg E (Vl (spOf mg c K) [] E0 ta) (KC c r):=by
 intro H0 B H σ γ R X Q env p q qx;refine hr H0 B H σ γ _ X _ env p (fun ss vs H1 h1 S1 t1=>?_) qx;rw[Y6];have env1:=env.grow S1;exact⟨_,_,_,t1.rps env1.same,h1,fun s v H' hs S2 tv=>q _ _ H' hs (S1.trans S2) (tv.back env1 S1 S2),fun _ _ z=>z.elim⟩
end
section
variable {K:Za}{mg:Str->Option Value}{E:L2.St->XK}{H0 H H1 H':Hp}{B Z Z':Addr->Prop}{σ:L2.St}{γ:Γ}
def EnvR.set {i:Nat}{s s':S}{v:V} (Ev:EnvR K H0 B H σ γ) (S1:Same H H') (h:TV K (zof B γ σ) H0 H H' s v) (e:s.slot=some s') :
  EnvR K H0 B H' (σ.set i (some v)) (γ.set i (some s'))/\Fr B H σ γ H' (σ.set i (some v)) (γ.set i (some s')):=by
 by_cases hi:i<γ.length
 ·exact Ev.put S1 h e hi
 ·rw[List.set_eq_of_length_le (by rw[Ev.len];omega),List.set_eq_of_length_le (by omega)];exact⟨Ev.grow S1,Fr.grow S1⟩
def Upd(is:List Nat)(σ σ':L2.St):Prop:=(∀j,j∉is->σ'[j]?=σ[j]?)/\σ'.length=σ.length
def QI(K:Za)(is:List Nat)(t:TG)(p:PTG):Prop:=∀(H0:Hp) (B:Addr->Prop) (H H':Hp) (σ:L2.St) (γ:Γ) (s:S) (v:V) (R:Γ->Prop) (Q:L2.St->Hp->Prop),EnvR K H0 B H σ γ->Same H H'->TV K (zof B γ σ) H0 H H' s v->p s γ R->
 (∀σ' γ',R γ'->EnvR K H0 B H' σ' γ'->Fr B H σ γ H' σ' γ'->Upd is σ σ'->Q σ' H')->t v σ H' Q
def JK(i:Nat):PTG:=fun s γ R=>match s.slot with|some s'=>R (γ.set i (some s'))|none=>False
def Wv(i:Nat):QI K [i] (QH i) (JK i):=by
 intro H0 B H H' σ γ s v R Q env S1 tv p q;unfold JK at p;split at p
 ·rename_i s' e;obtain⟨e1,f1⟩:=env.set (i:=i) S1 tv e;exact q _ _ p e1 f1 ⟨fun j hj=>Q4 fun z=>hj (by rw[z];exact ZG.mpr rfl),Yt⟩
 ·exact p.elim
def Ta:PTGs:=fun ss γ R=>match ss with|[]=>R γ|_=>False
def PV(g:PTG)(r:PTGs):PTGs:=fun ss γ R=>match ss with|s::t=>g s γ fun γ'=>r t γ' R|[]=>False
def TV.notown {s:S}{v:V}{σ':L2.St}{γ':Γ}{Hb:Hp} (f:Fr B H σ γ H' σ' γ') (hb:Same H H') (n:∀ds,s≠.own ds) (nv:∀ds,s≠.view ds) (h:TV K (zof B γ σ) H0 Hb H s v):TV K (zof B γ' σ') H0 H' H' s v:=by
 cases s with
 |bor d=>exact h
 |sh d=>exact Rp.mono f.off h
 |own ds=>exact absurd rfl (n ds)
 |view ds=>exact absurd rfl (nv ds)
 |tmp d=>exact Rp.mono hb h
def TVs.notown {σ':L2.St}{γ':Γ}{Hb:Hp} (f:Fr B H σ γ H σ' γ'):∀{ss:List S}{vs:List V},(∀s∈ss,∀ds,s≠.own ds/\s≠.view ds)->TVs K (zof B γ σ) H0 Hb H ss vs->TVs K (zof B γ' σ') H0 H H ss vs
 |_,_,_,.nil=>.nil
 |_,_,n,.cons h r=>.cons (h.notown f (Same.refl _) (fun ds=>(n _ ZH ds).1) fun ds=>(n _ ZH ds).2) (TVs.notown f (fun s hs=>n s (ZD _ hs)) r)
def VU(d:D):arg d=.sh d\/arg d=.bor d:=by unfold arg;cases imm d<;>simp
def Jc(d:D):argT d=.sh d\/argT d=.tmp d:=by unfold argT;cases imm d<;>simp
def Xp(s:S)(d:D):∀ds,s.sub d≠.own ds/\s.sub d≠.view ds:=fun ds=>by
 cases s with
 |bor b=>rcases VU d with e|e<;>(show arg d≠_/\arg d≠_;rw[e];exact⟨(fun z=>by cases z),(fun z=>by cases z)⟩)
 |tmp b=>rcases Jc d with e|e<;>(show argT d≠_/\argT d≠_;rw[e];exact⟨(fun z=>by cases z),(fun z=>by cases z)⟩)
 |sh b=>exact⟨(fun z=>by cases z),(fun z=>by cases z)⟩
 |own b=>
  cases b with
  |nst cs=>rcases Jc d with e|e<;>(show argT d≠_/\argT d≠_;rw[e];exact⟨(fun z=>by cases z),(fun z=>by cases z)⟩)
  |_=>exact⟨(fun z=>by cases z),(fun z=>by cases z)⟩
 |view b=>
  cases b with
  |nst cs=>rcases Jc d with e|e<;>(show argT d≠_/\argT d≠_;rw[e];exact⟨(fun z=>by cases z),(fun z=>by cases z)⟩)
  |_=>exact⟨(fun z=>by cases z),(fun z=>by cases z)⟩
def V1(K:Za)(is:List Nat)(t:TGs)(p:PTGs):Prop:=∀(H0:Hp) (B:Addr->Prop) (H:Hp) (σ:L2.St) (γ:Γ) (ss:List S) (vs:List V) (R:Γ->Prop) (Q:L2.St->Hp->Prop),EnvR K H0 B H σ γ->TVs K (zof B γ σ) H0 H H ss vs->(∀s∈ss,∀ds,s≠.own ds/\s≠.view ds)->p ss γ R->
 (∀σ' γ',R γ'->EnvR K H0 B H σ' γ'->Fr B H σ γ H σ' γ'->Upd is σ σ'->Q σ' H)->t vs σ H Q
def Uo:V1 K [] gNil Ta:=by
 intro H0 B H σ γ ss vs R Q env tv no p q;cases tv with
 |nil=>exact⟨rfl,q _ _ p env Fr.refl ⟨fun _ _=>rfl,rfl⟩⟩
 |cons _ _=>exact p.elim
def VA{is js:List Nat}{g:TG}{r:TGs}{pg:PTG}{pr:PTGs}(hg:QI K is g pg)(hr:V1 K js r pr):V1 K (is++js) (Xr g r) (PV pg pr):=by
 intro H0 B H σ γ ss vs R Q env tv no p q;cases tv with
 |nil=>exact p.elim
 |cons h t=>
  refine⟨_,_,rfl,hg H0 B H H σ γ _ _ _ _ env (Same.refl _) h p fun σ1 γ1 p1 e1 f1 k1=>?_⟩;refine hr H0 B H σ1 γ1 _ _ _ _ e1 (TVs.notown f1 (fun s hs=>no s (ZD _ hs)) t) (fun s hs=>no s (ZD _ hs)) p1 fun σ2 γ2 p2 e2 f2 k2=>?_;exact q σ2 γ2 p2 e2 (f1.trans f2) ⟨fun j hj=>(k2.1 j fun z=>hj (Z8 _ z)).trans (k1.1 j fun z=>hj (Y0 _ z)),k2.2.trans k1.2⟩
def Xo(n:Nat)(r:PTGs):PTG:=fun s γ R=>match s.d with | .tup ds=>ds.length=n/\r (ds.map s.sub) γ R|_=>False
def TVs.of_part {ds:List D}{s:S}:∀{vs:List V}{ds:List D},vs.length=ds.length->(∀(i:Nat) d,ds[i]?=some d->∃u,vs[i]?=some u/\TV K Z H0 H H' (s.sub d) u)->TVs K Z H0 H H' (ds.map s.sub) vs
 |[],[],_,_=>.nil
 |[],_::_,e,_=>by cases e
 |_::_,[],e,_=>by cases e
 |v::vs,d::ds,e,h=>by
  obtain⟨u,h1,h2⟩:=h 0 d rfl;cases h1
  exact .cons h2 (TVs.of_part (ds:=ds) (by simpa using e) fun i d' hd=>by simpa using h (i+1) d' (by simpa using hd))
def XZ{n:Nat}{is:List Nat}{r:TGs}{pr:PTGs}(hr:V1 K is r pr):QI K is (gTup K n r) (Xo n pr):=by
 intro H0 B H H' σ γ s v R Q env S1 tv p q;unfold Xo at p;have env1:=env.grow S1;obtain⟨_,pt⟩:=tv.part env1.same env.zm S1;split at p
 ·rename_i ds e;obtain⟨a,vs,rfl,ha,hn,hp⟩:=pt ds e;refine⟨a,vs,rfl,SqT.of ha,hn.trans p.1,?_⟩;have tvs:=TVs.of_part (ds:=ds) hn hp;refine hr H0 B H' σ γ _ vs R Q env1 (TVs.notown (Fr.refl) (fun s' hs ds=>?_) tvs) (fun s' hs ds=>?_) p.2 fun σ' γ' hR e1 f1 k1=>q σ' γ' hR e1 (Fr.trans (Fr.grow S1) f1) k1
  ·obtain⟨d,_,rfl⟩:=ZY.mp hs;exact Xp s d ds
  ·obtain⟨d,_,rfl⟩:=ZY.mp hs;exact Xp s d ds
 ·exact p.elim
def EndR.from {R:PEnds}{D:Ends}{σ1:L2.St}{γ1:Γ} (e:EndR K mg E H0 B H σ γ R D) (f:Fr B H σ γ H1 σ1 γ1):EndR K mg E H0 B H1 σ1 γ1 R D:=
 ⟨fun σ' γ' H' h1 h2 h3=>e.nx σ' γ' H' h1 h2 (f.trans h3),e.rt,fun σ' γ' c H' h1 h2 h3=>e.ex σ' γ' c H' h1 h2 (f.trans h3),fun σ' γ' H' h1 h2 h3=>e.bk σ' γ' H' h1 h2 (f.trans h3),fun σ' γ' H' h1 h2 h3=>e.ct σ' γ' H' h1 h2 (f.trans h3),fun σ' γ' d v H' h1 h2 h3=>e.rv σ' γ' d v H' h1 h2 (f.trans h3)⟩
variable {te:TE}{a:PTE}{tt:TT}{c:PTT}{t u:TS}{p q:PTS}
def TL:PTS:=fun R γ=>R.nx γ
def W8:SndS K mg E JM TL:=fun _ _ _ _ _ _ _ _ env h e=>e.nx _ _ _ h env Fr.refl
def pSeq(p q:PTS):PTS:=fun R γ=>p {R with nx:=q R} γ
def Wt(hp:SndS K mg E t p)(hq:SndS K mg E u q):SndS K mg E (tSeq t u) (pSeq p q):=by
 intro H0 B H σ γ R D hB env h e;refine hp H0 B H σ γ _ _ hB env h ⟨fun σ' γ' H' h1 e1 f1=>?_,e.rt,e.ex,e.bk,e.ct,e.rv⟩;exact hq H0 B H' σ' γ' R D hB e1 h1 (e.from f1)
structure JoinW (p q:PTS) (R:PEnds) (γ:Γ):Prop where
 w:∃J:Γ->Prop,p {R with nx:=J} γ/\∀γ',J γ'->q R γ'
def K0(p q:PTS):PTS:=fun R γ=>JoinW p q R γ
def T5(hp:SndS K mg E t p)(hq:SndS K mg E u q):SndS K mg E (Kf t u) (K0 p q):=by
 intro H0 B H σ γ R D hB env h e;obtain⟨J,h,k⟩:=h.w;refine⟨fun σ' H'=>∃γ',J γ'/\EnvR K H0 B H' σ' γ'/\Fr B H σ γ H' σ' γ',hp H0 B H σ γ _ _ hB env h ⟨fun σ' γ' H' h1 e1 f1=>⟨γ',h1,e1,f1⟩,e.rt,e.ex,e.bk,e.ct,e.rv⟩,?_⟩;rintro σ' H' ⟨γ',h1,e1,f1⟩;exact hq H0 B H' σ' γ' R D hB e1 (k γ' h1) (e.from f1)
def pFrz(i:Nat)(p:PTS):PTS:=fun R γ=>p R (frz i γ)
def Vf(i:Nat)(hp:SndS K mg E t p):SndS K mg E t (pFrz i p):=by
 intro H0 B H σ γ R D hB env h e;obtain⟨e1,f1⟩:=env.frz hB i;exact hp H0 B H σ _ R D hB e1 h (e.from f1)
def pAsg(a:PTE)(g:PTG):PTS:=fun R γ=>a γ (fun s=>g s γ R.nx) (R.ex γ)
def W5{is:List Nat}{g:TG}{pg:PTG}(ha:SndE K mg E te a)(hg:QI K is g pg):SndS K mg E (tAsg te g) (pAsg a pg):=by
 intro H0 B H σ γ R D hB env h e;refine ha H0 B H σ γ _ _ _ env h (fun s v H1 h1 S1 t1=>?_) fun c H' hc S'=>e.ex σ γ c H' hc (env.grow S') (Fr.grow S');exact hg H0 B H H1 σ γ s v _ _ env S1 t1 h1 fun σ' γ' h2 e2 f2 _=>e.nx σ' γ' H1 h2 e2 f2
def pAug(i:Nat)(f:Int->Int->Int)(a:PTE):PTS:=fun R γ=>match γ[i]? with
 |some (some (.sh (.int x)))=>a γ (fun y=>match y.d with | .int j=>R.nx (γ.set i (some (.sh (.int (f x j)))))|_=>False) (R.ex γ)
 |_=>False
def pRet(a:PTE):PTS:=fun R γ=>a γ R.rt (R.ex γ)
def W2(ha:SndE K mg E te a):SndS K mg E (tRet te) (pRet a):=by
 intro H0 B H σ γ R D hB env h e;refine ha H0 B H σ γ _ _ _ env h (fun s v H1 h1 S1 t1=>?_) fun c H' hc S'=>e.ex σ γ c H' hc (env.grow S') (Fr.grow S');exact e.rt s v H1 h1 (env.same.trans S1) (TV.weak env.same (fun b z=>.inl z) t1)
def UY(i:Nat):PTS:=fun R γ=>match γ[i]? with|some (some s)=>R.rt s|_=>False
def Jg(i:Nat):SndS K mg E (tRet (tVar i)) (UY i):=by
 intro H0 B H σ γ R D hB env h e;unfold UY at h;split at h
 ·rename_i s hs;obtain⟨v,h1,h2⟩:=env.slot i _ hs;refine⟨v,h1,e.rt s v H h env.same ?_⟩;cases s with
  |bor d=>exact h2
  |sh d=>exact Rp.mono (Wy (Same.refl _) fun b _ _ z y=>z (.inl y)) h2
  |own ds=>
   obtain⟨l,rfl,e2,e3⟩:=h2;exact⟨l,rfl,e2,e3.mono (Wy (Same.refl _) fun b _ _ z y=>z (y.elim .inl fun w=>.inr ⟨i,ds,l,hs,h1,w⟩)) fun _ _ _ q=>q⟩
  |view ds=>exact h2.elim
  |tmp d=>exact h2.elim
 ·exact h.elim
def pIfS(c:PTT)(p q:PTS):PTS:=fun R γ=>c γ (fun b=>if b=true then p R γ else q R γ) (R.ex γ)
def WC(hc:SndT K mg E tt c)(hp:SndS K mg E t p)(hq:SndS K mg E u q):SndS K mg E (tIfS tt t u) (pIfS c p q):=by
 intro H0 B H σ γ R D hB env h e;refine hc H0 B H σ γ _ _ _ env h (fun b H1 h1 S1=>?_) fun c H' hc S'=>e.ex σ γ c H' hc (env.grow S') (Fr.grow S');split at h1
 ·rename_i hb;rw[ZE hb];exact hp H0 B H1 σ γ R D hB (env.grow S1) h1 (e.from (Fr.grow S1))
 ·rename_i hb;rw[Z6 hb];exact hq H0 B H1 σ γ R D hB (env.grow S1) h1 (e.from (Fr.grow S1))
def Pv(a:PTE):PTS:=fun R γ=>a γ (fun _=>R.nx γ) (R.ex γ)
def Pi(ha:SndE K mg E te a):SndS K mg E (VV te) (Pv a):=by
 intro H0 B H σ γ R D hB env h e;exact ha H0 B H σ γ _ _ _ env h (fun s v H1 h1 S1 t1=>e.nx σ γ H1 h1 (env.grow S1) (Fr.grow S1)) fun c H' hc S'=>e.ex σ γ c H' hc (env.grow S') (Fr.grow S')
def PF:PTS:=fun _ _=>False
def Kx:SndS K mg E JI PF:=fun _ _ _ _ _ _ _ _ _ h _=>h
def fPar(i j:Nat)(γ:Γ)(R:Γ->Prop):List S->Prop
 |[.sh d,.sh e]=>R ((γ.set i (some (.sh d))).set j (some (.sh e)))
 |_=>False
def clr:List Nat->Γ->Γ
 |[],γ=>γ
 |i::r,γ=>clr r (γ.set i none)
def EnvR.clr:∀(is:List Nat) {γ:Γ},EnvR K H0 B H σ γ->EnvR K H0 B H σ (clr is γ)/\Fr B H σ γ H σ (Pu.clr is γ)
 |[],_,e=>⟨e,Fr.refl⟩
 |i::r,γ,e=>by
  obtain⟨e1,f1⟩:=e.drop i;obtain⟨e2,f2⟩:=EnvR.clr r e1;exact⟨e2,f1.trans f2⟩
def Later(H0:Hp)(Z:Addr->Prop)(H1:Hp)(Z':Addr->Prop)(H':Hp):Prop:=Same H0 H'/\(∀b,Z' b->Mut (H' b))/\∀b o,H1 b=some o->¬Z b->H' b=some o/\¬Z' b
def Later.of {σ':L2.St}{γ':Γ} (e:EnvR K H0 B H' σ' γ') (f:Fr B H1 σ γ H' σ' γ'):Later H0 (zof B γ σ) H1 (zof B γ' σ') H':=⟨e.same,e.zm,f⟩
def Later.off (l:Later H0 Z H1 Z' H'):Same (off Z H1) (Pu.off Z' H'):=fun b o h=>by
 obtain⟨h1,h2⟩:=Q9 h;obtain⟨h3,h4⟩:=l.2.2 b o h1 h2;exact WK h3 h4
structure ItOk (K:Za) (H0:Hp) (B:Addr->Prop) (H1:Hp) (σ:L2.St) (γ:Γ) (J:It) (n:Nat) (item:Nat->S):Prop where
 go:∀(i:Nat) (H':Hp) (Z':Addr->Prop),i<n->Later H0 (zof B γ σ) H1 Z' H'->J.go i H'/\∀x H'',J.yld i H' x H''->Same H' H''/\TV K Z' H0 H' H'' (item i) x
 stop:∀(H':Hp) (Z':Addr->Prop),Later H0 (zof B γ σ) H1 Z' H'->J.stop n H'
abbrev PTI:=Γ->(Nat->(Nat->S)->Prop)->XR->Prop
def SndI(K:Za)(mg:Str->Option Value)(E:L2.St->XK)(wi:TI)(it:PTI):Prop:=∀(H0:Hp) (B:Addr->Prop) (H:Hp) (σ:L2.St) (γ:Γ) (R:Nat->(Nat->S)->Prop) (X:XR) (Q:It->Hp->Prop),EnvR K H0 B H σ γ->it γ R X->
 (∀n item J H1,R n item->Same H H1->ItOk K H0 B H1 σ γ J n item->Q J H1)->(∀c H',X c->Same H H'->E σ (.ref (ExcR.Qn mg c)) none H')->wi σ H Q
structure ForW (js:List Nat) (γ:Γ) (g:PTG) (body:PTS) (R:PEnds) (n:Nat) (item:Nat->S):Prop where
 w:∃inv:Nat->Γ->Prop,inv 0 (clr js γ)/\
 (∀i γ',i<n->inv i γ'->g (item i) γ' fun γ2=>body {R with nx:=fun γ3=>inv (i+1) (clr js γ3),ct:=fun γ3=>inv (i+1) (clr js γ3),bk:=R.nx} γ2)/\∀γ',inv n γ'->R.nx γ'
def pFor(js:List Nat)(it:PTI)(g:PTG)(body:PTS):PTS:=fun R γ=>it γ (fun n item=>ForW js γ g body R n item) (R.ex γ)
def Qf{is:List Nat}{wi:TI}{g:TG}{it:PTI}{pg:PTG}(js:List Nat)(hi:SndI K mg E wi it)(hg:QI K is g pg)(hb:SndS K mg E t p):SndS K mg E (tFor wi g t) (pFor js it pg p):=by
 intro H0 B H σ γ R D hB env h e;refine hi H0 B H σ γ _ _ _ env h (fun n item J H1 h1 S1 ok=>?_) fun c H' hc S'=>e.ex σ γ c H' hc (env.grow S') (Fr.grow S');obtain⟨inv,h0,hs,hd⟩:=h1.w;have env1:=env.grow S1;refine⟨fun i m σ' H'=>m=n-i/\i<=n/\∃γ',inv i γ'/\EnvR K H0 B H' σ' γ'/\Fr B H1 σ γ H' σ' γ',⟨n,by simp,YI _,_,h0,(env1.clr js).1,(env1.clr js).2⟩,?_⟩;rintro i m σ' H' ⟨rfl,hin,γ',hi',e',f'⟩;by_cases hlt:i<n
 ·obtain⟨go,yl⟩:=ok.go i H' _ hlt (Later.of e' f');refine .inr ⟨go,fun σ2 H2=>∃γ2,inv (i+1) γ2/\EnvR K H0 B H2 σ2 γ2/\Fr B H1 σ γ H2 σ2 γ2,fun σ2 H2 ⟨γ2,a1,a2,a3⟩=>⟨n-(i+1),by omega,rfl,hlt,γ2,a1,a2,a3⟩,fun x H'' y=>?_⟩;obtain⟨S2,tv⟩:=yl x H'' y;refine hg H0 B H' H'' σ' γ' _ _ _ _ e' S2 tv (hs i γ' hlt hi') fun σ2 γ2 q2 e2 f2 _=>?_;have fall:=f'.trans f2;refine hb H0 B H'' σ2 γ2 _ _ hB e2 q2 ⟨fun σ3 γ3 H3 q3 e3 f3=>?_,e.rt,fun σ3 γ3 c H3 q3 e3 f3=>e.ex σ3 γ3 c H3 q3 e3 ((Fr.grow S1).trans (fall.trans f3)),fun σ3 γ3 H3 q3 e3 f3=>e.nx σ3 γ3 H3 q3 e3 ((Fr.grow S1).trans (fall.trans f3)),fun σ3 γ3 H3 q3 e3 f3=>?_,fun σ3 γ3 d v H3 q3 e3 f3=>e.rv σ3 γ3 d v H3 q3 e3 ((Fr.grow S1).trans (fall.trans f3))⟩
  ·exact⟨_,q3,(e3.clr js).1,(fall.trans f3).trans (e3.clr js).2⟩
  ·exact⟨_,q3,(e3.clr js).1,(fall.trans f3).trans (e3.clr js).2⟩
 ·have:i=n:=by omega
  subst this;exact .inl ⟨ok.stop H' _ (Later.of e' f'),e.nx σ' γ' H' (hd γ' hi') e' ((Fr.grow S1).trans f')⟩
def S.fix:S->Bool
 | .bor _=>true | .sh _=>true | .own _=>true|_=>false
def pIL(a:PTE):PTI:=fun γ R X=>a γ (fun s=>match s.d with
 | .lst ds=>s.fix=true/\R ds.length fun i=>s.sub (ds.getD i .non)
 | .scr ns=>s.fix=true/\R ns.length fun i=>.sh (.int (ns.getD i 0))
 |_=>False) X
def TV.last {s:S}{v:V}{ds:List D} (env:EnvR K H0 B H σ γ) (S1:Same H H1) (tv:TV K (zof B γ σ) H0 H H1 s v) (hf:s.fix=true) (hd:s.d=.lst ds):∃l vs,v=.ref l/\vs.length=ds.length/\
  ∀(H':Hp) (Z':Addr->Prop),Later H0 (zof B γ σ) H1 Z' H'->H' l=some (.lst vs)/\∀(i:Nat) d,ds[i]?=some d->∃u,vs[i]?=some u/\TV K Z' H0 H' H' (s.sub d) u:=by
 have env1:=env.grow S1
 have key:∀{s:S},(∀d,s.sub d=.sh d)->Rp K (Pu.off (zof B γ σ) H1) (.lst ds) v->∃l vs,v=.ref l/\vs.length=ds.length/\
   ∀(H':Hp) (Z':Addr->Prop),Later H0 (zof B γ σ) H1 Z' H'->H' l=some (.lst vs)/\∀(i:Nat) d,ds[i]?=some d->∃u,vs[i]?=some u/\TV K Z' H0 H' H' (s.sub d) u:=fun hs h=>by
  obtain⟨l,vs,rfl,h1,h2⟩:=Rp.lst_inv h;refine⟨l,vs,rfl,h2.len,fun H' Z' lt=>⟨off_sub _ _ (lt.off _ _ h1),fun i d hi=>?_⟩⟩;obtain⟨u,h3,h4⟩:=h2.get hi;refine⟨u,h3,?_⟩;rw[hs];exact Rp.mono lt.off h4
 cases s with
 |bor d=>
  have tv:=Rp.strip tv;rw[show d.strip=.lst ds from hd]at tv
  obtain⟨l,vs,rfl,h1,h2⟩:=Rp.lst_inv tv;refine⟨l,vs,rfl,h2.len,fun H' Z' lt=>⟨lt.1 _ _ h1,fun i d hi=>?_⟩⟩;obtain⟨u,h3,h4⟩:=h2.get hi;exact⟨u,h3,argR lt.2.1 lt.1 h4⟩
 |sh d=>
  have:d=.lst ds:=hd
  subst this;exact key (fun _=>rfl) tv
 |own es=>
  cases es with
  |lst es=>
   cases hd
   exact key (fun _=>rfl) (tv.shd env1.same env.zm S1 rfl)
  |lsA x es=>
   cases hd
   exact key (fun _=>rfl) (tv.shd env1.same env.zm S1 rfl)
  |dK es=>cases hd
  |dT es=>cases hd
  |ins x C xs cs=>cases hd
  |nst cs=>cases hd
 |view es=>cases hf
 |tmp d=>cases hf
def Up{te:TE}{a:PTE}(ha:SndE K mg E te a):SndI K mg E (Jp K te) (pIL a):=by
 intro H0 B H σ γ R X Q env h q qx;refine ha H0 B H σ γ _ X _ env h (fun s v H1 h1 S1 t1=>?_) qx;have env1:=env.grow S1;split at h1
 ·rename_i ds ed;obtain⟨l,vs,rfl,hn,hl⟩:=t1.last env S1 h1.1 ed;obtain⟨hl1,_⟩:=hl H1 _ (Later.of env1 Fr.refl);refine⟨l,rfl,⟨vs,SqL.of hl1⟩,q _ _ _ H1 h1.2 S1 ⟨fun i H' Z' hi lt=>?_,fun H' Z' lt=>?_⟩⟩
  ·obtain⟨k1,k2⟩:=hl H' Z' lt;have hd:ds[i]?=some (ds.getD i .non):=by rw[Zw,Zu hi];rfl
   obtain⟨u,hu,tu⟩:=k2 i _ hd;refine⟨⟨vs,u,SqL.of k1,hu⟩,fun x H'' y=>?_⟩;obtain⟨rfl,y⟩:=y
   have:=y vs (SqL.of k1)
   rw[hu]at this;cases this
   exact⟨Same.refl _,tu⟩
  ·exact⟨vs,SqL.of (hl H' Z' lt).1,by omega⟩
 ·rename_i ns ed
  have hs:∃l,v=.ref l/\∀(H':Hp) (Z':Addr->Prop),Later H0 (zof B γ σ) H1 Z' H'->SqL K H' l (ns.map V.int):=by
   cases s with
   |bor d=>
    have t1:=Rp.strip t1;rw[show d.strip=.scr ns from ed]at t1
    cases t1 with
    |scr hs=>exact⟨_,rfl,fun H' Z' lt=>lt.1.seq hs⟩
   |sh d=>
    have:d=.scr ns:=ed
    subst this;cases t1 with
    |scr hs=>exact⟨_,rfl,fun H' Z' lt=>off_sub.seq (lt.off.seq hs)⟩
   |own es=>cases es<;>cases ed
   |view es=>cases es<;>cases ed
   |tmp d=>cases h1.1
  obtain⟨l,rfl,hl⟩:=hs;refine⟨l,rfl,⟨_,hl H1 _ (Later.of env1 Fr.refl)⟩,q _ _ _ H1 h1.2 S1 ⟨fun i H' Z' hi lt=>?_,fun H' Z' lt=>?_⟩⟩
  ·have k1:=hl H' Z' lt
   have hu:(ns.map V.int)[i]?=some (.int (ns.getD i 0)):=by
    rw[Z5,Zu hi,Zw,Zu hi];rfl
   refine⟨⟨_,_,k1,hu⟩,fun x H'' y=>?_⟩;obtain⟨rfl,y⟩:=y
   have:=y _ k1
   rw[hu]at this;cases this
   exact⟨Same.refl _,.int _⟩
  ·exact⟨_,hl H' Z' lt,by rw[Zt];exact Z3 _⟩
 ·exact h1.elim
def fR1(R:Nat->(Nat->S)->Prop):List D->Prop
 |[.int j]=>(-(2 ^ 62)<=j/\j<2 ^ 62)/\R j.toNat fun i=>.sh (.int (0+(i:Int)))
 |_=>False
def fR2(R:Nat->(Nat->S)->Prop):List D->Prop
 |[.int i,.int j]=>(-(2 ^ 62)<=i/\i<2 ^ 62/\-(2 ^ 62)<=j/\j<2 ^ 62)/\R (j-i).toNat fun k=>.sh (.int (i+(k:Int)))
 |_=>False
def pIR1(r:PTA):PTI:=fun γ R X=>r γ (fun ss=>fR1 R (ss.map S.d)) X
def pIR2(r:PTA):PTI:=fun γ R X=>r γ (fun ss=>fR2 R (ss.map S.d)) X
def Rps.one_inv {d:D}{vs:List V} (h:Rps K H [d] vs):∃v,vs=[v]/\Rp K H d v:=by
 cases h with
 |cons h r=>cases r;exact⟨_,rfl,h⟩
def Rps.two_inv {d e:D}{vs:List V} (h:Rps K H [d,e] vs):∃v u,vs=[v,u]/\Rp K H d v/\Rp K H e u:=by
 cases h with
 |cons h r=>cases r with|cons h2 r=>cases r;exact⟨_,_,rfl,h,h2⟩
def UO{lo:Int}{n:Nat}:ItOk K H0 B H1 σ γ (Itr lo n) n fun i=>.sh (.int (lo+(i:Int))):=by
 refine⟨fun i H' Z' hi lt=>⟨hi,fun x H'' y=>?_⟩,fun H' Z' lt=>Z3 _⟩;obtain⟨e,y⟩:=y;subst e y;exact⟨Same.refl _,.int _⟩
def Q0{ta:TA}{r:PTA}(hr:SndA K mg E ta r):SndI K mg E (U3 ta) (pIR1 r):=by
 intro H0 B H σ γ R X Q env h q qx;refine hr H0 B H σ γ _ X _ env h (fun ss vs H1 h1 S1 t1=>?_) qx;have rv:=t1.rps (env.grow S1).same;unfold fR1 at h1;split at h1
 ·rename_i j ej;rw[ej]at rv;obtain⟨v,rfl,r1⟩:=rv.one_inv;rw[r1.int_inv];exact⟨j,rfl,h1.1.1,h1.1.2,q _ _ _ H1 h1.2 S1 UO⟩
 ·exact h1.elim
def KH{ta:TA}{r:PTA}(hr:SndA K mg E ta r):SndI K mg E (Ki ta) (pIR2 r):=by
 intro H0 B H σ γ R X Q env h q qx;refine hr H0 B H σ γ _ X _ env h (fun ss vs H1 h1 S1 t1=>?_) qx;have rv:=t1.rps (env.grow S1).same;unfold fR2 at h1;split at h1
 ·rename_i i j ej;rw[ej]at rv;obtain⟨v,u,rfl,r1,r2⟩:=rv.two_inv;rw[r1.int_inv,r2.int_inv];exact⟨i,j,rfl,h1.1,q _ _ _ H1 h1.2 S1 UO⟩
 ·exact h1.elim
end
section
variable {K:Za}{mg:Str->Option Value}{E:L2.St->XK}{H0 H H1 H':Hp}{B Z Z':Addr->Prop}{σ:L2.St}{γ:Γ}
def Qb(N:List Str)(ds:List D):Γ:=ds.map (fun d=>some (arg d))++List.replicate (N.length-ds.length) none
def Pq{N:List Str}{ds:List D}{vs:List V}(r:Rps K H ds vs)(hn:ds.length<=N.length):EnvR K H (fun b=>Mut (H b)) H (start N vs) (Qb N ds):=by
 have hlen:=r.len
 have get:∀(i:Nat) (s:S),(Qb N ds)[i]?=some (some s)->∃d,ds[i]?=some d/\s=arg d:=fun i s h=>by
  unfold Qb at h;by_cases hi:i<ds.length
  ·rw[Y7 (by rw[Zt];exact hi),Z5,Zu hi]at h;exact⟨_,Zu hi,(Z0 (Z0 h)).symm⟩
  ·rw[ZZ (by rw[Zt];omega),List.getElem?_replicate]at h;split at h<;>cases h
 have noown:∀(i:Nat) (es:O),(Qb N ds)[i]?≠some (some (.own es)):=fun i es h=>by
  obtain⟨d,_,e⟩:=get i _ h;rcases VU d with q|q<;>rw[q]at e<;>cases e
 refine⟨Same.refl _,?_,fun b h=>h,fun i j a a' es es' b h=>absurd h (noown i es),fun i s h=>?_⟩
 ·unfold L2.start Qb;simp[hlen]
 ·obtain⟨d,hd,rfl⟩:=get i s h;obtain⟨v,hv,rv⟩:=r.get hd;refine⟨v,?_,?_⟩
  ·unfold L2.start;rw[Y7 (by rw[Zt];exact(ZM.mp hv).1),Z5,hv];rfl
  ·have tv:=argR (K:=K) (Z:=zof (fun b=>Mut (H b)) (Qb N ds) (start N vs)) (H0:=H) (H:=H) (H':=H) (fun b z=>z.elim id fun⟨k,es,_,k1,_⟩=>absurd k1 (noown k es)) (Same.refl _) rv;rcases VU d with q|q<;>rw[q]at tv ⊢<;>exact tv
def NJ{c:Pc}{N:List Str}{t:TS}{p:PTS}{vs:List V}{Q:VK}{Ec:XK}{n:Nat}(h:spOf mg c K vs H Q Ec)(snd:SndS K mg (fun _=>Ec) t p)(hn:n<=N.length)(hp:∀ds R X,c ds R X->ds.length=n/\p {nx:=fun _=>R (.sh .non),rt:=R,ex:=fun _ e=>X e} (Qb N ds)):t {nx:=fun _ H'=>Q .non H',rt:=Q} (start N vs) H:=by
 obtain⟨ds,R,X,r,hc,hQ,hX⟩:=h;obtain⟨e,hp⟩:=hp ds R X hc;refine snd H (fun b=>Mut (H b)) H _ _ _ _ (fun b z=>V4 z) (Pq r (by rw[e];exact hn)) hp ⟨fun σ' γ' H' h1 e1 f1=>hQ _ _ H' h1 e1.same .non,fun s v H' h1 S1 tv=>hQ s v H' h1 S1 tv,fun σ' γ' c H' h1 e1 f1=>hX c H' h1 e1.same,fun _ _ _ z=>z.elim,fun _ _ _ z=>z.elim,fun _ _ _ _ _ z=>z.elim⟩
def N0{c:Pc}{vs:List V}{Q:VK}{Ec:XK}{n:Nat}(h:spOf mg c K vs H Q Ec)(hn:∀ds R X,c ds R X->ds.length=n):vs.length=n:=by
 obtain⟨ds,R,X,r,hc,_⟩:=h;rw[r.len];exact hn ds R X hc
def atP(φ:List (Option Nat))(γ:Γ):Γ:=φ.map fun o=>o.bind fun j=>(γ[j]?).join
structure CompW (φ:List (Option Nat)) (γ:Γ) (g:PTG) (c:PTT) (e:PTE) (n:Nat) (item:Nat->S) (R:S->Prop):Prop where
 w:n<=100000/\∃f:Nat->Option D,(∀i,i<n->g (item i) (atP φ γ) fun γ2=>c γ2 (fun b=>if b=true then e γ2 (fun s=>∃d,s.shd=some d/\f i=some d) (fun _=>False)else f i=none) (fun _=>False))/\R (.own ((List.range n).filterMap f))
def Pd(φ:List (Option Nat))(it:PTI)(g:PTG)(c:PTT)(e:PTE):PTE:=fun γ R X=>it γ (fun n item=>CompW φ γ g c e n item R) X
def Vx{φ:List (Option Nat)}{i:Nat}{s:S}(h:(atP φ γ)[i]?=some (some s)):∃j,φ[i]?=some (some j)/\γ[j]?=some (some s):=by
 unfold atP at h;rw[Z5]at h;cases e:φ[i]? with
 |none=>rw[e]at h;cases h
 |some o=>
  rw[e]at h;cases o with
  |none=>simp at h
  |some j=>
   refine⟨j,rfl,?_⟩;simp at h;cases e2:γ[j]? with
   |none=>rw[e2]at h;simp at h
   |some w=>rw[e2]at h;simp at h;rw[h]
def J1:∀{φ:List (Option Nat)},(φ.filterMap id).Nodup->∀(i j k:Nat),φ[i]?=some (some k)->φ[j]?=some (some k)->i=j
 |[],_,i,_,_,h,_=>by simp at h
 |none::r,hn,i,j,k,h1,h2=>by
  cases i with
  |zero=>simp at h1
  |succ i=>
   cases j with
   |zero=>simp at h2
   |succ j=>exact ZT (· + 1) (J1 (φ:=r) (by simpa using hn) i j k (by simpa using h1) (by simpa using h2))
 |some m::r,hn,i,j,k,h1,h2=>by
  have hn':m∉r.filterMap id/\(r.filterMap id).Nodup:=by simpa using hn
  have mem:∀{j:Nat},r[j]?=some (some k)->k∈r.filterMap id:=fun h=>YW.mpr ⟨some k,YR h,rfl⟩;cases i with
  |zero=>
   cases j with
   |zero=>rfl
   |succ j=>
    have e:m=k:=by simpa using h1
    subst e;exact absurd (mem (by simpa using h2)) hn'.1
  |succ i=>
   cases j with
   |zero=>
    have e:m=k:=by simpa using h2
    subst e;exact absurd (mem (by simpa using h1)) hn'.1
   |succ j=>exact ZT (· + 1) (J1 (φ:=r) hn'.2 i j k (by simpa using h1) (by simpa using h2))
def V3{φ:List (Option Nat)}{i j:Nat}(h1:φ[i]?=some (some j)){v:V}(h2:σ[j]?=some (some v)):(atStart φ σ)[i]?=some (some v):=by
 unfold atStart;rw[Z5,h1];simp[h2]
def UL{φ:List (Option Nat)}{L:Addr}(env:EnvR K H0 B H σ γ)(nL:H L=none):∀b o,H b=some o->¬zof B γ σ b->¬zof (fun b=>zof B γ σ b\/b=L) (atP φ γ) (atStart φ σ) b:=fun b o hb z y=>by
 rcases y with(y|y)|⟨i',ds,x,y1,y2,y3⟩
 ·exact z y
 ·rw[y,nL]at hb;cases hb
 ·obtain⟨m,m1,m2⟩:=Vx y1;obtain⟨w,w1,_⟩:=env.slot m _ m2;rw[V3 m1 w1]at y2;exact z (.inr ⟨m,ds,x,m2,by rw[w1];exact ZT some (Z0 y2),y3⟩)
def Tc{φ:List (Option Nat)}{L:Addr}(env:EnvR K H0 B H σ γ)(S1:Same H H')(nL:H L=none)(hL:∃ys,H' L=some (.lst ys))(hφ:(φ.filterMap id).Nodup) :
  EnvR K H0 (fun b=>zof B γ σ b\/b=L) H' (atStart φ σ) (atP φ γ):=by
 refine⟨env.same.trans S1,by unfold atStart atP;simp,fun b z=>?_,fun i j a a' ds es b h1 h2 h3 h4 h5 h6=>?_,fun i s h=>?_⟩
 ·rcases z with z|rfl
  ·exact Qr S1 (env.zm b z)
  ·obtain⟨ys,e⟩:=hL;rw[e];trivial
 ·obtain⟨k,k1,k2⟩:=Vx h1;obtain⟨l,l1,l2⟩:=Vx h2;obtain⟨v,v1,_⟩:=env.slot k _ k2;obtain⟨u,u1,_⟩:=env.slot l _ l2;rw[V3 k1 v1]at h3;rw[V3 l1 u1]at h4
  have:=env.own k l a a' ds es b k2 l2 (by rw[v1];exact ZT some (Z0 h3)) (by rw[u1];exact ZT some (Z0 h4)) h5 h6
  subst this;exact J1 hφ i j k k1 l1
 ·obtain⟨k,k1,k2⟩:=Vx h;obtain⟨v,v1,v2⟩:=env.slot k _ k2;have So:Same (off (zof B γ σ) H) (off (zof (fun b=>zof B γ σ b\/b=L) (atP φ γ) (atStart φ σ)) H'):=Wy S1 (UL env nL);refine⟨v,V3 k1 v1,?_⟩;cases s with
  |bor d=>exact v2
  |sh d=>exact Rp.mono So v2
  |own ds=>
   obtain⟨a,e1,e3,e4⟩:=v2;exact⟨a,e1,e3,e4.mono So fun b _ x=>S1 b x⟩
  |view ds=>exact v2
  |tmp d=>exact v2
def Sub.of {σ σ':L2.St}{is:List Nat} (hl:σ'.length=σ.length) (h1:∀j,j∉is->σ'[j]?=σ[j]?) (h2:∀j∈is,∀v,σ[j]?≠some (some v)):Sub σ σ':=⟨hl,fun i v e=>by
 by_cases hi:i∈is
 ·exact absurd e (h2 i hi v)
 ·rw[h1 i hi];exact e⟩
structure ItOkC (K:Za) (H0:Hp) (B:Addr->Prop) (H1:Hp) (σ:L2.St) (γ:Γ) (J:It) (n:Nat) (item:Nat->S):Prop where
 go:∀(i:Nat) (H':Hp) (Z':Addr->Prop),i<n->Same H1 H'->Later H0 (zof B γ σ) H1 Z' H'->J.go i H'/\∀x H'',J.yld i H' x H''->Same H' H''/\TV K Z' H0 H' H'' (item i) x
 stop:∀(H':Hp) (Z':Addr->Prop),Same H1 H'->Later H0 (zof B γ σ) H1 Z' H'->J.stop n H'
def JP(K:Za)(mg:Str->Option Value)(E:L2.St->XK)(wi:TI)(it:PTI):Prop:=∀(H0:Hp) (B:Addr->Prop) (H:Hp) (σ:L2.St) (γ:Γ) (R:Nat->(Nat->S)->Prop) (X:XR) (Q:It->Hp->Prop),EnvR K H0 B H σ γ->it γ R X->
 (∀n item J H1,R n item->Same H H1->ItOkC K H0 B H1 σ γ J n item->Q J H1)->(∀c H',X c->Same H H'->E σ (.ref (ExcR.Qn mg c)) none H')->wi σ H Q
def SndI.c {wi:TI}{it:PTI} (h:SndI K mg E wi it):JP K mg E wi it:=fun H0 B H σ γ R X Q env p q qx=>
 h H0 B H σ γ R X Q env p (fun n item J H1 hR S1 ok=>q n item J H1 hR S1 ⟨fun i H' Z' hi _ lt=>ok.go i H' Z' hi lt,fun H' Z' _ lt=>ok.stop H' Z' lt⟩) qx
def Xe{φ:List (Option Nat)}{is:List Nat}{wi:TI}{g:TG}{tc:TT}{te:TE}{it:PTI}{pg:PTG}{c:PTT}{a:PTE}(hi:JP K mg E wi it)(hg:QI K is g pg)(hc:SndT K mg E tc c)(he:SndE K mg E te a)(h1:(φ.filterMap id).Nodup:=by decide)(h2:∀j∈is,φ[j]?=some none:=by decide):SndE K mg E (Vq φ wi g tc te) (Pd φ it pg c a):=by
 intro H0 B H σ γ R X Q env h q qx;refine hi H0 B H σ γ _ X _ env h (fun n item J H1 h1' S1 ok=>?_) qx;obtain⟨hn,f,hf,hR⟩:=h1'.w;have env1:=env.grow S1;have hbig:n<=sizeLine:=ZA hn (by decide);intro L nL;refine⟨fun i m ys H2=>m=n-i/\i<=n/\Same H1 H2/\H2 L=some (.lst ys)/\Rps K (off (fun b=>zof B γ σ b\/b=L) H2) ((List.range i).filterMap f) ys,⟨n,by simp,YI _,WJ nL,WL,.nil⟩,?_⟩;rintro i m ys H2 ⟨rfl,hin,S2,hL,hys⟩;have env2:=env1.grow S2;by_cases hlt:i<n
 ·have envI2:=Tc (φ:=φ) env1 S2 nL ⟨ys,hL⟩ h1;obtain⟨go,yl⟩:=ok.go i H2 _ hlt S2 ⟨env2.same,envI2.zm,fun b o hb z=>⟨S2 _ _ hb,UL env1 nL b o hb z⟩⟩;refine .inr ⟨go,fun x H3 y=>?_⟩;obtain⟨S3,tv⟩:=yl x H3 y;refine hg H0 _ H2 H3 _ _ _ _ _ _ envI2 S3 tv (hf i hlt) fun σ2 γ2 p2 e2 f2 k2=>⟨?_,?_⟩
  ·refine Sub.of (is:=is) k2.2 k2.1 fun j hj v z=>?_;obtain⟨k,k1,_⟩:=UJ z;rw[h2 j hj]at k1;cases k1
  ·refine hc H0 _ H3 σ2 γ2 _ _ _ e2 p2 (fun b H5 q5 S5=>?_) fun _ _ z=>z.elim;have e5:=e2.grow S5;cases b with
   |false=>
    rw[Z6 Zy]at q5 ⊢;refine⟨n-(i+1),by omega,rfl,hlt,(S2.trans S3).trans S5,(S3.trans S5) _ _ hL,?_⟩;rw[List.range_succ,List.filterMap_append];simp only[Y4,q5,List.filterMap_nil,Y6];exact Rps.mono (Wy (S3.trans S5) fun _ _ _ z=>z) hys
   |true=>
    rw[ZE rfl]at q5 ⊢;refine he H0 _ H5 σ2 γ2 _ _ _ e5 q5 (fun s v H6 q6 S6 t6=>?_) fun _ _ z=>z.elim;obtain⟨d,hd,hfd⟩:=q6;have S26:=(S3.trans S5).trans S6;have hr:=t6.shd (e5.grow S6).same e5.zm S6 hd
    have hlen:ys.length<=i:=by
     rw[hys.len];exact ZA (List.length_filterMap_le _ _) (by rw[YD];exact Z3 _)
    refine⟨S26 _ _ hL,by omega,n-(i+1),by omega,rfl,hlt,fun b o hb=>?_,WL,?_⟩
    ·rw[Wz (WO hb nL)];exact S26 _ _ (S2 _ _ hb)
    ·rw[List.range_succ,List.filterMap_append];have ef:[i].filterMap f=[d]:=by simp[hfd]
     rw[ef]
     have So:Same (off (fun b=>zof B γ σ b\/b=L) H6) (off (fun b=>zof B γ σ b\/b=L) (upd H6 L (.lst (ys++[v])))):=fun b o h=>by
      obtain⟨a1,a2⟩:=Q9 h;refine WK ?_ a2;rw[Wz fun z=>a2 (.inr z)];exact a1
     refine Rps.append (Rps.mono So (Rps.mono (Wy S26 fun _ _ _ z=>z) hys)) (.cons (Rp.mono So (Rp.mono (Wy (Same.refl _) fun b _ _ z y=>z (.inl y)) hr)) .nil)
 ·have:i=n:=by omega
  subst this;exact .inl ⟨ok.stop H2 _ S2 (Later.of env2 (Fr.grow S2)),q _ _ H2 hR (S1.trans S2) ⟨L,rfl,(fun _ e=>e▸S1.free nL),ys,hL,hys⟩⟩
def pYes:PTT:=fun _ R _=>R true
def PJ:SndT K mg E Xa pYes:=fun _ _ H _ _ _ _ _ _ p q _=>q _ H p (Same.refl _)
end
open M
section
variable {K:Za}{mg:Str->Option Value}{E:L2.St->XK}{H0 H H1 H':Hp}{B Z Z':Addr->Prop}{σ:L2.St}{γ:Γ}
def pCB(f:List S->(S->Prop)->Prop)(r:PTA):PTE:=fun γ R X=>r γ (fun ss=>f ss R) X
def Vg{rr:List V->Hp->VK->Prop}{f:List S->(S->Prop)->Prop}{ta:TA}{r:PTA}(hr:SndA K mg E ta r)(h:∀(H0 H H1:Hp) (Z:Addr->Prop) (ss:List S) (vs:List V) (R:S->Prop) (Q:VK),Same H0 H1->Same H H1->(∀b,Z b->Mut (H b))->TVs K Z H0 H H1 ss vs->f ss R->(∀s z H',R s->Same H1 H'->TV K Z H0 H H' s z->Q z H')->rr vs H1 Q) :
  SndE K mg E (tCB rr ta) (pCB f r):=by
 intro H0 B H σ γ R X Q env p q qx;refine hr H0 B H σ γ _ X _ env p (fun ss vs H1 h1 S1 t1=>?_) qx;exact h H0 H H1 _ ss vs R Q (env.grow S1).same S1 env.zm t1 h1 fun s z H' hs S2 tv=>q s z H' hs (S1.trans S2) tv
def S.free:S->List D->Bool
 | .bor _,ds=>imms ds | .tmp _,ds=>imms ds | .view (.nst _),ds=>imms ds|_,_=>true
def TVs.one_inv {s:S}{vs:List V} (h:TVs K Z H0 H H' [s] vs):∃v,vs=[v]/\TV K Z H0 H H' s v:=by
 cases h with
 |cons h r=>cases r;exact⟨_,rfl,h⟩
def TVs.two_inv {s t:S}{vs:List V} (h:TVs K Z H0 H H' [s,t] vs):∃v u,vs=[v,u]/\TV K Z H0 H H' s v/\TV K Z H0 H H' t u:=by
 cases h with
 |cons h r=>cases r with|cons h2 r=>cases r;exact⟨_,_,rfl,h,h2⟩
def TV.items {s:S}{v:V}{ds:List D} (h0:Same H0 H') (hm:∀b,Z b->Mut (H b)) (S1:Same H H') (h:TV K Z H0 H H' s v) (hf:s.free ds=true) :
  (s.d=.lst ds->∃a vs,v=.ref a/\H' a=some (.lst vs)/\Rps K (off Z H') ds vs)/\(s.d=.tup ds->∃a vs,v=.ref a/\H' a=some (.tup vs)/\Rps K (off Z H') ds vs):=by
 have hm':∀b,Z b->Mut (H' b):=fun b z=>Qr S1 (hm b z);cases s with
 |bor d=>
  have h:=Rp.strip h;refine⟨fun e=>?_,fun e=>?_⟩<;>rw[show d.strip=_ from e]at h
  ·obtain⟨a,vs,rfl,h1,r⟩:=Rp.lst_inv h;exact⟨a,vs,rfl,h0 _ _ h1,Rps.off hm' (Rps.mono h0 r) hf⟩
  ·obtain⟨a,vs,rfl,h1,r⟩:=Rp.tup_inv h;exact⟨a,vs,rfl,h0 _ _ h1,Rps.off hm' (Rps.mono h0 r) hf⟩
 |sh d=>
  refine⟨fun e=>?_,fun e=>?_⟩<;>(have e':d=_:=e;subst e')
  ·obtain⟨a,vs,rfl,h1,r⟩:=Rp.lst_inv h;exact⟨a,vs,rfl,off_sub _ _ h1,r⟩
  ·obtain⟨a,vs,rfl,h1,r⟩:=Rp.tup_inv h;exact⟨a,vs,rfl,off_sub _ _ h1,r⟩
 |own es=>
  cases es with
  |dK es=>exact⟨(fun e=>by cases e),(fun e=>by cases e)⟩
  |dT es=>exact⟨(fun e=>by cases e),(fun e=>by cases e)⟩
  |ins x C xs cs=>exact⟨(fun e=>by cases e),(fun e=>by cases e)⟩
  |nst cs=>
   refine⟨(fun e=>by cases e),fun e=>?_⟩;have h2:=h.shd h0 hm S1 (d:=.tup (cs.map fun c=>.lst c.2)) rfl;cases e
   obtain⟨a,vs,rfl,h1,r⟩:=Rp.tup_inv h2;exact⟨a,vs,rfl,off_sub _ _ h1,r⟩
  |lst es=>
   refine⟨fun e=>?_,fun e=>by cases e⟩;cases e
   obtain⟨a,rfl,e0,vs,e,r⟩:=h;exact⟨a,vs,rfl,e,Rps.mono (Wy (Same.refl _) fun b _ _ z y=>z (.inl y)) r⟩
  |lsA x es=>
   refine⟨fun e=>?_,fun e=>by cases e⟩;cases e
   obtain⟨a,rfl,e0,_,vs,e,r⟩:=h;exact⟨a,vs,rfl,e,Rps.mono (Wy (Same.refl _) fun b _ _ z y=>z (.inl y)) r⟩
 |view es=>
  cases es with
  |dK es=>exact⟨(fun e=>by cases e),(fun e=>by cases e)⟩
  |dT es=>exact⟨(fun e=>by cases e),(fun e=>by cases e)⟩
  |ins x C xs cs=>exact⟨(fun e=>by cases e),(fun e=>by cases e)⟩
  |nst cs=>
   refine⟨(fun e=>by cases e),fun e=>?_⟩;have h2:=h.rp h0;rw[e]at h2;obtain⟨a,vs,rfl,h1,r⟩:=Rp.tup_inv h2;exact⟨a,vs,rfl,h1,Rps.off hm' r hf⟩
  |lst es=>
   refine⟨fun e=>?_,fun e=>by cases e⟩;cases e
   obtain⟨a,rfl,vs,e,r⟩:=h;exact⟨a,vs,rfl,e,r⟩
  |lsA x es=>
   refine⟨fun e=>?_,fun e=>by cases e⟩;cases e
   obtain⟨a,rfl,_,vs,e,r⟩:=h;exact⟨a,vs,rfl,e,r⟩
 |tmp d=>
  refine⟨fun e=>?_,fun e=>?_⟩<;>(have e':d=_:=e;subst e')
  ·obtain⟨a,vs,rfl,h1,r⟩:=Rp.lst_inv h;exact⟨a,vs,rfl,h1,Rps.off hm' r hf⟩
  ·obtain⟨a,vs,rfl,h1,r⟩:=Rp.tup_inv h;exact⟨a,vs,rfl,h1,Rps.off hm' r hf⟩
def fLen:List S->(S->Prop)->Prop
 |[s],R=>(match s.d with
  | .lst ds=>R (.sh (.int ds.length)) | .tup ds=>R (.sh (.int ds.length)) | .scr ns=>R (.sh (.int ns.length)) | .str x=>x.length<=sizeLine/\R (.sh (.int x.length))|_=>False)
 |_,_=>False
def WM{ta:TA}{r:PTA}(hr:SndA K mg E ta r):SndE K mg E (tCB (fun xs H Q=>∃x n,xs=[x]/\LenV K x H n/\Q (.int n) H) ta) (pCB fLen r):=by
 refine Vg hr fun H0 H H1 Z ss vs R Q s0 s1 hm tv h q=>?_;unfold fLen at h;split at h
 ·rename_i s;obtain⟨v,rfl,t1⟩:=tv.one_inv;have rv:=t1.rp s0;split at h
  ·rename_i ds e;rw[e]at rv;obtain⟨a,us,rfl,h1,r1⟩:=rv.lst_inv;exact⟨_,_,rfl,.inl ⟨us,SqL.of h1,rfl⟩,by rw[r1.len];exact q _ _ H1 h (Same.refl _) (.int _)⟩
  ·rename_i ds e;rw[e]at rv;obtain⟨a,us,rfl,h1,r1⟩:=rv.tup_inv;exact⟨_,_,rfl,.inr ⟨us,SqT.of h1,rfl⟩,by rw[r1.len];exact q _ _ H1 h (Same.refl _) (.int _)⟩
  ·rename_i ns e;rw[e]at rv;cases rv with
   |scr hs=>exact⟨_,_,rfl,.inl ⟨_,hs,rfl⟩,by rw[Zt];exact q _ _ H1 h (Same.refl _) (.int _)⟩
  ·rename_i x e;rw[e]at rv;rw[rv.str_inv];exact⟨_,_,rfl,⟨h.1,rfl⟩,q _ _ H1 h.2 (Same.refl _) (.int _)⟩
  ·exact h.elim
 ·exact h.elim
def UT:List S->(S->Prop)->Prop
 |[s],R=>(match s.d with
  | .lst ds=>s.free ds=true/\R (.own ds) | .tup ds=>s.free ds=true/\R (.own ds)|_=>False)
 |_,_=>False
def P5{ta:TA}{r:PTA}(hr:SndA K mg E ta r):SndE K mg E (tCB (fun xs H Q=>∃p ys,xs=[.ref p]/\(SqL K H p ys\/SqT K H p ys)/\∀l,H l=none->Q (.ref l) (upd H l (.lst ys))) ta) (pCB UT r):=by
 refine Vg hr fun H0 H H1 Z ss vs R Q s0 s1 hm tv h q=>?_;unfold UT at h;split at h
 ·rename_i s;obtain⟨v,rfl,t1⟩:=tv.one_inv;split at h
  ·rename_i ds e;obtain⟨a,us,rfl,h1,r1⟩:=(t1.items s0 hm s1 h.1).1 e;exact⟨a,us,rfl,.inl (SqL.of h1),fun l nl=>q _ _ _ h.2 (WJ nl) (QV s1 nl r1)⟩
  ·rename_i ds e;obtain⟨a,us,rfl,h1,r1⟩:=(t1.items s0 hm s1 h.1).2 e;exact⟨a,us,rfl,.inr (SqT.of h1),fun l nl=>q _ _ _ h.2 (WJ nl) (QV s1 nl r1)⟩
  ·exact h.elim
 ·exact h.elim
def Rps.ints {K:Za}{H:Hp}:∀{js:List Int}{vs:List V},Rps K H (js.map D.int) vs->vs=js.map V.int
 |[],_,.nil=>rfl
 |j::r,_,.cons h t=>by rw[Rp.int_inv h,Rps.ints t];rfl
def Rps.of_ints {K:Za}{H:Hp}:∀(js:List Int),Rps K H (js.map D.int) (js.map V.int)
 |[]=>.nil
 |j::r=>.cons (.int j) (Rps.of_ints r)
def SK:List S->(S->Prop)->Prop
 |[s,t],R=>(match s.d,t.d with | .int i,.int j=>R (.sh (.int (if j>i then j else i)))|_,_=>False)
 |_,_=>False
def fAbs:List S->(S->Prop)->Prop
 |[s],R=>(match s.d with | .int i=>R (.sh (.int (if i<0 then -i else i)))|_=>False)
 |_,_=>False
def tyD:D->Option String
 | .int _=>some "int" | .bl _=>some "bool" | .non=>some "NoneType" | .str _=>some "str" | .tup _=>some "tuple" | .lst _=>some "list" | .dK _=>some "dict" | .dT _=>some "dict" |_=>none
inductive IsiR:String->String->Bool->Prop
 |same (n:String):IsiR n n true
 |ib:IsiR "int" "bool" false
 |bi:IsiR "bool" "int" true
 |tl:IsiR "tuple" "list" false
 |lt:IsiR "list" "tuple" false
 |it:IsiR "int" "tuple" false
 |il:IsiR "int" "list" false
 |bt:IsiR "bool" "tuple" false
 |bL:IsiR "bool" "list" false
 |ti:IsiR "tuple" "int" false
 |li:IsiR "list" "int" false
 |si:IsiR "str" "int" false
 |is:IsiR "int" "str" false
 |ni:IsiR "NoneType" "int" false
 |nl:IsiR "NoneType" "list" false
 |nt:IsiR "NoneType" "tuple" false
def IsiR.kit {m n:String}{b:Bool} (h:IsiR m n b):PySem.W.kitOne K (.type m) (.type n)=some b:=by
 cases h with
 |same=>exact T9 K _
 |_=>rfl
def fIsi:List S->(S->Prop)->Prop
 |[s,t],R=>(match tyD s.d,t.d with|some m,.ty n=>∃b,IsiR m n b/\R (.sh (.bl b))|_,_=>False)
 |_,_=>False
def Pl{d:D}{v:V}{m:String}(h:Rp K H d v)(e:tyD d=some m):TyOf K H v (.type m):=by
 cases h with
 |int i=>cases e;exact .int i
 |bl b=>cases e;exact .bl b
 |non=>cases e;exact .non
 |str x=>cases e;exact .str x
 |ty n=>cases e
 |tup h r=>cases e;exact .tup h
 |lst h r=>cases e;exact .lst h
 |scr h=>cases e
 |dK h=>cases e;exact .dK h
 |dT h=>cases e;exact .dT h
 |dF h=>cases e
 |loc h=>cases e
 |err h=>cases e
 |ref a=>cases e
 |ins h q r=>cases e
def QE{ta:TA}{r:PTA}(hr:SndA K mg E ta r):SndE K mg E (tCB (fun xs H Q=>∃x n t b,xs=[x,.ty n]/\TyOf K H x t/\PySem.W.kitOne K t (.type n)=some b/\Q (.bl b) H) ta) (pCB fIsi r):=by
 refine Vg hr fun H0 H H1 Z ss vs R Q s0 s1 hm tv h q=>?_;unfold fIsi at h;split at h
 ·obtain⟨v,u,rfl,t1,t2⟩:=tv.two_inv;have r1:=t1.rp s0;have r2:=t2.rp s0;split at h
  ·rename_i m n e1 e2;rw[e2]at r2;rw[r2.ty_inv];obtain⟨b,k,hR⟩:=h;exact⟨v,n,_,b,rfl,Pl r1 e1,k.kit,q _ _ H1 hR (Same.refl _) (.bl _)⟩
  ·exact h.elim
 ·exact h.elim
def UM:List S->(S->Prop)->Prop
 |[s,t],R=>(match s.d,t.d with | .int i,.int j=>(-(2 ^ 62)<=i/\i<2 ^ 62/\-(2 ^ 62)<=j/\j<2 ^ 62)/\(j-i).toNat<=1000000/\R (.own ((runI i (j-i).toNat).map D.int))|_,_=>False)
 |_,_=>False
abbrev Ku:List V->Hp->VK->Prop:=fun xs H Q=>∃(r:Addr) (i j:Int),xs=[.ref r]/\H r=some (.rng i j)/\(-(2 ^ 62)<=i/\i<2 ^ 62/\-(2 ^ 62)<=j/\j<2 ^ 62)/\(j-i).toNat<=1000000/\∀l,H l=none->Q (.ref l) (upd H l (.lst ((runI i (j-i).toNat).map V.int)))
def NK{ta:TA}{r:PTA}(hr:SndA K mg E ta r):SndE K mg E (tCB Ku (WH (tCB (fun xs H Q=>∃i j:Int,xs=[.int i,.int j]/\∀r,H r=none->Q (.ref r) (upd H r (.rng i j))) ta) tNil)) (pCB UM r):=by
 intro H0 B H σ γ R X Q env p q qx;refine hr H0 B H σ γ _ X _ env p (fun ss vs H1 h1 S1 t1=>?_) qx;have s0:=(env.grow S1).same;unfold UM at h1;split at h1
 ·obtain⟨v,u,rfl,t1',t2'⟩:=t1.two_inv;have r1:=t1'.rp s0;have r2:=t2'.rp s0;split at h1
  ·rename_i i j e1 e2;rw[e1]at r1;rw[e2]at r2;rw[r1.int_inv,r2.int_inv];refine⟨i,j,rfl,fun a na=>⟨a,i,j,rfl,WL,h1.1,h1.2.1,fun l nl=>?_⟩⟩;have S2:=WJ (o:=.rng i j) na;exact q _ _ _ h1.2.2 ((S1.trans S2).trans (WJ nl)) (QV (S1.trans S2) nl (Rps.of_ints _))
  ·exact h1.elim
 ·exact h1.elim
def prD(p:Int×Int):D:=.tup [.int p.1,.int p.2]
inductive InR:D->D->Bool->Prop
 |li (i:Int) (hs:List Int):InR (.int i) (.lst (hs.map D.int)) (decide (i∈hs))
 |ti (i:Int) (hs:List Int):InR (.int i) (.tup (hs.map D.int)) (decide (i∈hs))
 |lp (q:Int×Int) (ps:List (Int×Int)):InR (prD q) (.lst (ps.map prD)) (decide (q∈ps))
def fIn(neg:Bool):S->S->(S->Prop)->Prop:=fun x y R=>∃b,InR x.d y.d b/\R (.sh (.bl (if neg then !b else b)))
def Rp.pair {q:Int×Int}{v:V} (h:Rp K H (prD q) v):Qe H v q:=by
 obtain⟨a,vs,rfl,h1,r⟩:=Rp.tup_inv h;obtain⟨x,y,rfl,r1,r2⟩:=r.two_inv;rw[r1.int_inv,r2.int_inv]at h1;exact⟨a,rfl,h1⟩
def Rps.lv {K:Za}{H:Hp}{ps:List (Int×Int)}{vs:List V} (h:Rps K H (ps.map prD) vs):LV Qe H vs ps:=by
 refine⟨by rw[h.len,Zt],fun i p hp=>?_⟩;obtain⟨v,h1,h2⟩:=h.get (i:=i) (d:=prD p) (by rw[Z5,hp];rfl);exact⟨v,h1,h2.pair⟩
def Xu{neg:Bool}{ta tb:TE}{a b:PTE}(ha:SndE K mg E ta a)(hb:SndE K mg E tb b):SndE K mg E (tOp (fun x y H Q=>rIn K neg x y H Q\/rInP neg x y H Q) ta tb) (p2 a b (fIn neg)):=by
 refine se_2 ha hb fun H0 H H2 Z x y v u R Q s0 s1 hm tx ty h q=>?_;obtain⟨k,hk,hR⟩:=h;have rx:=tx.rp s0;have ry:=ty.rp s0;generalize ex:x.d=dx at hk rx;generalize ey:y.d=dy at hk ry;cases hk with
 |li i hs=>
  obtain⟨l,us,rfl,hl,r⟩:=ry.lst_inv;rw[r.ints]at hl;rw[rx.int_inv];refine .inl ⟨l,_,rfl,.inl (SqL.of hl),rfl,Qk _,?_⟩;rw[Xj];exact q _ _ H2 hR (Same.refl _) (.bl _)
 |ti i hs=>
  obtain⟨l,us,rfl,hl,r⟩:=ry.tup_inv;rw[r.ints]at hl;rw[rx.int_inv];refine .inl ⟨l,_,rfl,.inr (SqT.of hl),rfl,Qk _,?_⟩;rw[Xj];exact q _ _ H2 hR (Same.refl _) (.bl _)
 |lp p ps=>
  obtain⟨l,us,rfl,hl,r⟩:=ry.lst_inv;exact .inr ⟨l,ps,p,rfl,rx.pair,⟨us,hl,r.lv⟩,q _ _ H2 hR (Same.refl _) (.bl _)⟩
def fEqU(neg:Bool):S->S->(S->Prop)->Prop:=fun x y R=>match x.d,y.d with
 | .lst ds,.lst es=>∃xs ys:List Int,ds=xs.map D.int/\es=ys.map D.int/\R (.sh (.bl (if neg then !decide (xs=ys)else decide (xs=ys))))
 |_,_=>fEq neg x y R
def Jr{ta tb:TE}{a b:PTE}(ha:SndE K mg E ta a)(hb:SndE K mg E tb b):SndE K mg E (tOp (fun x y H Q=>rEq x y H Q\/rEqL K false x y H Q) ta tb) (p2 a b (fEqU false)):=by
 refine se_2 ha hb fun H0 H H2 Z x y v u R Q s0 s1 hm tx ty h q=>?_;have rx:=tx.rp s0;have ry:=ty.rp s0;unfold fEqU at h;split at h
 ·rename_i ds es e1 e2;obtain⟨xs,ys,rfl,rfl,hR⟩:=h;rw[e1]at rx;rw[e2]at ry;obtain⟨l,us,rfl,hl,r⟩:=rx.lst_inv;obtain⟨m,ws,rfl,hm,r'⟩:=ry.lst_inv;rw[r.ints]at hl;rw[r'.ints]at hm;refine .inr ⟨l,m,_,_,rfl,rfl,SqL.of hl,SqL.of hm,Qk _,Qk _,?_⟩;rw[Jl];exact q _ _ H2 hR (Same.refl _) (.bl _)
 ·refine .inl ?_;unfold fEq at h;split at h
  ·rename_i i j e1 e2;rw[e1]at rx;rw[e2]at ry;rw[rx.int_inv,ry.int_inv];refine⟨rfl,?_⟩;rw[QK (f:=V.int) fun _ _ z=>V.int.inj z];exact q _ _ H2 h (Same.refl _) (.bl _)
  ·rename_i i j e1 e2;rw[e1]at rx;rw[e2]at ry;rw[rx.str_inv,ry.str_inv];refine⟨rfl,?_⟩;rw[QK (f:=V.str) fun _ _ z=>V.str.inj z];exact q _ _ H2 h (Same.refl _) (.bl _)
  ·rename_i i j e1 e2;rw[e1]at rx;rw[e2]at ry;rw[rx.bl_inv,ry.bl_inv];refine⟨rfl,?_⟩;rw[QK (f:=V.bl) fun _ _ z=>V.bl.inj z];exact q _ _ H2 h (Same.refl _) (.bl _)
  ·exact h.elim
def Qy{ta tb:TE}{a b:PTE}(ha:SndE K mg E ta a)(hb:SndE K mg E tb b):SndE K mg E (tOp (fun x y H Q=>rNe x y H Q\/rEqL K true x y H Q) ta tb) (p2 a b (fEqU true)):=by
 refine se_2 ha hb fun H0 H H2 Z x y v u R Q s0 s1 hm tx ty h q=>?_;have rx:=tx.rp s0;have ry:=ty.rp s0;unfold fEqU at h;split at h
 ·rename_i ds es e1 e2;obtain⟨xs,ys,rfl,rfl,hR⟩:=h;rw[e1]at rx;rw[e2]at ry;obtain⟨l,us,rfl,hl,r⟩:=rx.lst_inv;obtain⟨m,ws,rfl,hm,r'⟩:=ry.lst_inv;rw[r.ints]at hl;rw[r'.ints]at hm;refine .inr ⟨l,m,_,_,rfl,rfl,SqL.of hl,SqL.of hm,Qk _,Qk _,?_⟩;rw[Jl];exact q _ _ H2 hR (Same.refl _) (.bl _)
 ·refine .inl ?_;unfold fEq at h;split at h
  ·rename_i i j e1 e2;rw[e1]at rx;rw[e2]at ry;rw[rx.int_inv,ry.int_inv];refine⟨rfl,?_⟩;rw[QK (f:=V.int) fun _ _ z=>V.int.inj z];exact q _ _ H2 h (Same.refl _) (.bl _)
  ·rename_i i j e1 e2;rw[e1]at rx;rw[e2]at ry;rw[rx.str_inv,ry.str_inv];refine⟨rfl,?_⟩;rw[QK (f:=V.str) fun _ _ z=>V.str.inj z];exact q _ _ H2 h (Same.refl _) (.bl _)
  ·rename_i i j e1 e2;rw[e1]at rx;rw[e2]at ry;rw[rx.bl_inv,ry.bl_inv];refine⟨rfl,?_⟩;rw[QK (f:=V.bl) fun _ _ z=>V.bl.inj z];exact q _ _ H2 h (Same.refl _) (.bl _)
  ·exact h.elim
abbrev tTru(K:Za)(ta:TE):TT:=fun σ H Q=>ta σ H fun x H'=>∃k,TruV K x H' k/\Q k H'
def pTru(a:PTE):PTT:=fun γ R X=>a γ (fun x=>match x.d with
 | .bl b=>R b | .lst ds=>R (!ds.isEmpty) | .tup ds=>R (!ds.isEmpty) | .int i=>R (i != 0) | .non=>R false|_=>False) X
def Xk{α β:Type}{l:List α}{m:List β}(h:l.length=m.length):l.isEmpty=m.isEmpty:=by
 cases l<;>cases m<;>simp at h ⊢
def Qc{te:TE}{a:PTE}(ha:SndE K mg E te a):SndT K mg E (tTru K te) (pTru a):=by
 intro H0 B H σ γ R X Q env p q qx;refine ha H0 B H σ γ _ X _ env p (fun x v H1 h1 S1 t1=>?_) qx;have rx:=t1.rp (env.grow S1).same;split at h1
 ·rename_i b e;rw[e]at rx;rw[rx.bl_inv];exact⟨b,rfl,q _ H1 h1 S1⟩
 ·rename_i ds e;rw[e]at rx;obtain⟨l,us,rfl,hl,r⟩:=rx.lst_inv;exact⟨!us.isEmpty,.inl ⟨us,SqL.of hl,rfl⟩,by rw[Xk r.len];exact q _ H1 h1 S1⟩
 ·rename_i ds e;rw[e]at rx;obtain⟨l,us,rfl,hl,r⟩:=rx.tup_inv;exact⟨!us.isEmpty,.inr (.inl ⟨us,SqT.of hl,rfl⟩),by rw[Xk r.len];exact q _ H1 h1 S1⟩
 ·rename_i i e;rw[e]at rx;rw[rx.int_inv];exact⟨_,rfl,q _ H1 h1 S1⟩
 ·rename_i e;rw[e]at rx;rw[rx.non_inv];exact⟨_,rfl,q _ H1 h1 S1⟩
 ·exact h1.elim
def cutD{α:Type}(xs:List α)(lo hi:Option Int):List α:=(xs.drop (HT.sIx xs.length 0 lo)).take (HT.sIx xs.length xs.length hi-HT.sIx xs.length 0 lo)
def Tg:PTO:=fun _ R _=>R none
def Tt(a:PTE):PTO:=fun γ R X=>a γ (fun s=>match s.d with | .int i=>R (some i)|_=>False) X
def XA:SndO K mg E Xb Tg:=fun _ _ H _ _ _ _ _ _ p q _=>q _ H p (Same.refl _)
def Kb{te:TE}{a:PTE}(ha:SndE K mg E te a):SndO K mg E (UD te) (Tt a):=by
 intro H0 B H σ γ R X Q env p q qx;refine ha H0 B H σ γ _ X _ env p (fun x v H1 h1 S1 t1=>?_) qx;have rx:=t1.rp (env.grow S1).same;split at h1
 ·rename_i i e;rw[e]at rx;exact⟨i,rx.int_inv,q _ H1 h1 S1⟩
 ·exact h1.elim
def Rps.cut {ds:List D}{vs:List V}{lo hi:Option Int} (r:Rps K H ds vs):Rps K H (cutD ds lo hi) (cutV vs lo hi):=by
 unfold cutD cutV;rw[r.len];exact Rps.take _ (Rps.drop _ r)
def XX(i:Nat)(a:PTE):PTS:=fun R γ=>match γ[i]? with
 |some (some (.own (.lst ds)))=>a γ (fun s=>match s.shd with
  |some d=>ds.length<10000000/\R.nx (γ.set i (some (.own (ds++[d]))))
  |none=>False) (R.ex γ)
 |some (some (.own (.lsA x ds)))=>a γ (fun s=>match s.shd with
  |some d=>ds.length<10000000/\R.nx (γ.set i (some (.own (.lsA x (ds++[d])))))
  |none=>False) (R.ex γ)
 |_=>False
def UP(i:Nat){te:TE}{a:PTE}(ha:SndE K mg E te a):SndS K mg E (VV (tBM K "list" Kd (tVar i) (WH te tNil))) (XX i a):=by
 intro H0 B H σ γ R D hB env h e;unfold XX at h;split at h
 ·rename_i ds hi;obtain⟨v,hv,b,rfl,hb0,us,hb,rb⟩:=env.slot i _ hi;refine⟨_,hv,.inl ⟨rfl,us,SqL.of hb⟩,ha H0 B H σ γ _ _ _ env h (fun s u H1 h1 S1 t1=>?_) fun c H' hc S'=>e.ex σ γ c H' hc (env.grow S') (Fr.grow S')⟩;have env1:=env.grow S1;split at h1
  ·rename_i d e2;have rd:=t1.shd env1.same env.zm S1 e2;refine⟨b,us,u,rfl,rfl,S1 _ _ hb,by rw[rb.len];exact YT h1.1 (by decide),?_⟩;obtain⟨e2,f2⟩:=env1.mutate (es:=.lst (ds++[d])) (us:=.lst (us++[u])) hi hv trivial fun F H' SF hF=>⟨_,hF,Rps.mono SF (Rps.append (Rps.mono (Wy S1 fun _ _ _ z=>z) rb) (.cons rd .nil))⟩;exact e.nx _ _ _ h1.2 e2 ((Fr.grow S1).trans f2)
  ·exact h1.elim
 ·rename_i x ds hi;obtain⟨v,hv,b,rfl,hb0,rfl,us,hb,rb⟩:=env.slot i _ hi;refine⟨_,hv,.inl ⟨rfl,us,SqL.of hb⟩,ha H0 B H σ γ _ _ _ env h (fun s u H1 h1 S1 t1=>?_) fun c H' hc S'=>e.ex σ γ c H' hc (env.grow S') (Fr.grow S')⟩;have env1:=env.grow S1;split at h1
  ·rename_i d e2;have rd:=t1.shd env1.same env.zm S1 e2;refine⟨b,us,u,rfl,rfl,S1 _ _ hb,by rw[rb.len];exact YT h1.1 (by decide),?_⟩;obtain⟨e2,f2⟩:=env1.mutate (es:=.lsA b (ds++[d])) (us:=.lst (us++[u])) hi hv trivial fun F H' SF hF=>⟨rfl,_,hF,Rps.mono SF (Rps.append (Rps.mono (Wy S1 fun _ _ _ z=>z) rb) (.cons rd .nil))⟩;exact e.nx _ _ _ h1.2 e2 ((Fr.grow S1).trans f2)
  ·exact h1.elim
 ·exact h.elim
end
section
variable {X:Cx}{K:Za}
def JL(hu:X.A.in1.units<cLine)(hK:X.K=K:=by rfl):OpR X (compareOp .NotIn) (fun x y H Q=>rIn K true x y H Q\/rInP true x y H Q):=(P0 hK).or (N5 hu)
def UW(hu:X.A.units<cLine)(hK:X.K=K:=by rfl):OpR X (compareOp .Eq) (fun x y H Q=>rEq x y H Q\/rEqL K false x y H Q):=by subst hK;exact op_eq.or (T7 hu)
def Nr(hu:X.A.units<cLine)(hK:X.K=K:=by rfl):OpR X (compareOp .NotEq) (fun x y H Q=>rNe x y H Q\/rEqL K true x y H Q):=by subst hK;exact op_ne.or (TH hu)
def WX{e:Expr}{te:TE}(ha:PE X e te)(hK:X.K=K:=by rfl)(he:∀whole,isTrue e X.env whole=(do let v ←whole;standAt e.pos;holding [v] (truthy v)):=by intro _;rfl):PT X e (tTru K te):=by
 subst hK;exact Ph ha he
def Pe(hK:X.K=K:=by rfl):WW X (.type "list") (fun xs H Q=>∃p ys,xs=[.ref p]/\(SqL K H p ys\/SqT K H p ys)/\∀l,H l=none->Q (.ref l) (upd H l (.lst ys))):=by subst hK;exact KS
def QC(hK:X.K=K:=by rfl):WW X (.builtin "isinstance") (fun xs H Q=>∃x n t b,xs=[x,.ty n]/\TyOf K H x t/\PySem.W.kitOne K t (.type n)=some b/\Q (.bl b) H):=by subst hK;exact Nq
def Uw{tg l:Expr}{tl:TE}(hl:PE X l tl)(hK:X.K=K:=by rfl):PI X tg l (Jp K tl):=by subst hK;exact Sk hl
end
section
variable {P:Program}{w:World}{K:Za}{mg:Str->Option Value}{base:Heap}{H H':Hp}
def Rp.ints_inv {ns:List Int}{v:V} (h:Rp K H (.lst (ns.map D.int)) v):∃a,v=.ref a/\H a=some (.lst (ns.map V.int)):=by
 obtain⟨a,vs,rfl,h1,r⟩:=h.lst_inv;rw[r.ints]at h1;exact⟨a,rfl,h1⟩
def VD:∀(ns:List Int),imms (ns.map D.int)=true
 |[]=>by unfold List.map imms;rfl
 |n::r=>by rw[Z4];unfold imms;rw[VD r];unfold imm;rfl
def TR{α:Type}{f:α->D}{xs:List α}{i:Nat}(h:i<xs.length):(xs.map f).getD i .non=f xs[i]:=by
 rw[Zw,Z5,Zu h];rfl
def JX{α:Type}{f:α->D}{xs:List α}{i:Int}(h0:0<=i)(h:i<(xs.length:Int)):atI (xs.map f) i=some (f (xs[i.toNat]'(by omega))):=by
 have h':i.toNat<xs.length:=by omega
 exact Q5 (Ue h0 (Zu h'))
def X4{α:Type}{f:α->D}{xs:List α}{i:Nat}(h:i<xs.length):atI (xs.map f) (i:Int)=some (f xs[i]):=Q5 (QG (Zu h))
def Ua{φ:List (Option Nat)}{γ:Γ}{g:PTG}{c:PTT}{e:PTE}{item:Nat->S}{R:S->Prop}{n:Nat}(f:Nat->Option D)(hz:n<=100000)(turn:∀i,i<n->g (item i) (atP φ γ) fun γ2=>c γ2 (fun b=>if b=true then e γ2 (fun s=>∃d,s.shd=some d/\f i=some d) (fun _=>False)else f i=none) fun _=>False)(done:R (.own ((List.range n).filterMap f))) :
  CompW φ γ g c e n item R:=⟨⟨hz,f,turn,done⟩⟩
def VL{α:Type}{js:List Nat}{γ:Γ}{g:PTG}{body:PTS}{s:S}{R:PEnds}{xs:List α}{emb:α->D}(inv:Nat->Γ->Prop)(h0:inv 0 (clr js γ))(turn:∀(i:Nat) (hi:i<xs.length) γ',inv i γ'->g (s.sub (emb xs[i])) γ' fun γ2=>body {R with nx:=fun γ3=>inv (i+1) (clr js γ3),ct:=fun γ3=>inv (i+1) (clr js γ3),bk:=R.nx} γ2)(done:∀γ',inv xs.length γ'->R.nx γ') :
  ForW js γ g body R (xs.map emb).length (fun i=>s.sub ((xs.map emb).getD i .non)):=by
 refine⟨⟨inv,h0,fun i γ' hi h=>?_,fun γ' h=>?_⟩⟩
 ·rw[Zt]at hi;have t:=turn i hi γ' h;rw[←TR (f:=emb) hi]at t;exact t
 ·rw[Zt]at h;exact done γ' h
def Q7{js:List Nat}{γ:Γ}{g:PTG}{body:PTS}{R:PEnds}{n:Nat}{item:Nat->S}(inv:Nat->Γ->Prop)(h0:inv 0 (clr js γ))(turn:∀(i:Nat) γ',i<n->inv i γ'->g (item i) γ' fun γ2=>body {R with nx:=fun γ3=>inv (i+1) (clr js γ3),ct:=fun γ3=>inv (i+1) (clr js γ3),bk:=R.nx} γ2)(done:∀γ',inv n γ'->R.nx γ'):ForW js γ g body R n item:=⟨⟨inv,h0,turn,done⟩⟩
def SI{p q:PTS}{R:PEnds}{γ:Γ}(J:Γ->Prop)(h1:p {R with nx:=J} γ)(h2:∀γ',J γ'->q R γ'):JoinW p q R γ:=⟨⟨J,h1,h2⟩⟩
def V6{α:Type}(f:α->D)(xs:List α)(lo hi:Option Int):cutD (xs.map f) lo hi=(cutD xs lo hi).map f:=by
 unfold cutD;rw[Zt,List.map_take,List.map_drop]
def JY{α:Type}(xs:List α){n:Int}(h:0<=n):cutD xs none (some n)=xs.take n.toNat:=by
 unfold cutD;have e:n=(n.toNat:Int):=by omega
 rw[HT.X2,e,HT.V7,List.drop_zero];rw[Nat.sub_zero,ZW];by_cases c:n.toNat<=xs.length
 ·rw[Nat.min_eq_left c]
 ·rw[Nat.min_eq_right (by omega),Yw (Z3 _),Yw (by omega)]
def U6{α:Type}(xs:List α){n:Int}(h:0<=n):cutD xs (some n) none=xs.drop n.toNat:=by
 unfold cutD;have e:n=(n.toNat:Int):=by omega
 rw[HT.X2,e,HT.V7,ZW];by_cases c:n.toNat<=xs.length
 ·rw[Nat.min_eq_left c,Yw (by rw[Wa];omega)]
 ·rw[Nat.min_eq_right (by omega),Yx (Z3 _),Yx (by omega)];simp
def J9(K:Za):Sp:=fun vs H Q _=>∃(a:Addr) (ns:List Int),vs=[.ref a]/\SqL K H a (ns.map V.int)/\∀H',Q (.bl true) H'
def Uj:Pc:=fun ds R _=>∃ns:List Int,ds=[.scr ns]/\R (.sh (.bl true))
def Nh{vs:List V}{Q:VK}{Ec:XK}(h:J9 K vs H Q Ec):spOf mg Uj K vs H Q Ec:=by
 obtain⟨a,ns,rfl,hS,q⟩:=h;refine⟨[.scr ns],fun s=>s=.sh (.bl true),fun _=>False,.cons (.scr hS) .nil,⟨ns,rfl,rfl⟩,fun s v H' e S1 tv=>?_,fun _ _ z=>z.elim⟩;subst e;cases tv
 exact q H'
end
section
variable {K:Za}{mg:Str->Option Value}{E:L2.St->XK}{H0 H H1 H':Hp}{B Z Z':Addr->Prop}{σ:L2.St}{γ:Γ}
def Jm:D->Option V
 | .int i=>some (.int i) | .bl b=>some (.bl b) | .non=>some .non | .str x=>some (.str x)|_=>none
def vD:V->D
 | .int i=>.int i | .bl b=>.bl b | .str x=>.str x|_=>.non
def Vs:V->Bool
 | .int _=>true | .bl _=>true | .str _=>true | .non=>true|_=>false
def XS{v:V}(h:Vs v=true):Rp K H (vD v) v:=by
 cases v with
 |int i=>exact .int i
 |bl b=>exact .bl b
 |str x=>exact .str x
 |non=>exact .non
 |_=>cases h
def Uk{d:D}{v u:V}(h:Rp K H d v)(e:Jm d=some u):v=u:=by
 cases h with
 |int i=>cases e;rfl
 |bl b=>cases e;rfl
 |non=>cases e;rfl
 |str x=>cases e;rfl
 |_=>cases e
def keyD:D->Option Key
 | .int i=>some (.inl i) | .str x=>some (.inr x)|_=>none
def QP:List D->Option (List Key)
 |[]=>some []
 |d::r=>match keyD d,QP r with
  |some k,some ks=>some (k::ks)
  |_,_=>none
def Vc:D->Option (List Key)
 | .tup ds=>QP ds
 |_=>none
def XI{d:D}{v:V}{k:Key}(h:Rp K H d v)(e:keyD d=some k):v=kV k:=by
 cases h with
 |int i=>cases e;rfl
 |str x=>cases e;rfl
 |_=>cases e
def UN:∀{ds:List D}{vs:List V}{ks:List Key},Rps K H ds vs->QP ds=some ks->vs=ks.map kV
 |[],_,_,.nil,e=>by cases e;rfl
 |d::r,_,ks,.cons h t,e=>by
  unfold QP at e;split at e
  ·rename_i k js e1 e2;cases e
   rw[XI h e1,UN t e2];rfl
  ·cases e
def Je{d:D}{v:V}{ks:List Key}(h:Rp K H d v)(e:Vc d=some ks):∃b,v=.ref b/\H b=some (.tup (ks.map kV)):=by
 cases h with
 |tup h r=>
  rw[UN r e]at h;exact⟨_,rfl,h⟩
 |_=>cases e
def NB:PTE:=fun _ R _=>R (.own (.dT []))
def N9:SndE K mg E Ur NB:=by
 intro H0 B H σ γ R X Q env p q _;intro l nl;exact q _ _ _ p (WJ nl) ⟨l,rfl,(fun _ e=>e▸nl),WL⟩
def Xy(i:Nat)(b a:PTE):PTS:=fun R γ=>match γ[i]? with
 |some (some (.own (.dK kvs)))=>a γ (fun s=>b γ (fun y=>∃k u,keyD y.d=some k/\Jm s.d=some u/\kvs.length<100000/\R.nx (γ.set i (some (.own (.dK (putK kvs k u)))))) (R.ex γ)) (R.ex γ)
 |some (some (.own (.dT kvs)))=>a γ (fun s=>b γ (fun y=>∃k u,Vc y.d=some k/\Jm s.d=some u/\kvs.length<100000/\R.nx (γ.set i (some (.own (.dT (putK kvs k u)))))) (R.ex γ)) (R.ex γ)
 |_=>False
def Pf(i:Nat){ty tv:TE}{a b:PTE}(hb:SndE K mg E ty b)(ha:SndE K mg E tv a):SndS K mg E (UK (tVar i) ty tv) (Xy i b a):=by
 intro H0 B H σ γ R D hB env h e;have hx:∀c H',R.ex γ c->Same H H'->E σ (.ref (ExcR.Qn mg c)) none H':=fun c H' hc S'=>e.ex σ γ c H' hc (env.grow S') (Fr.grow S');unfold Xy at h;split at h
 ·rename_i kvs hi;obtain⟨v,hv,l,rfl,hb0,hl⟩:=env.slot i _ hi;refine ha H0 B H σ γ _ _ _ env h (fun s u H1 h1 S1 t1=>⟨_,hv,?_⟩) hx;have env1:=env.grow S1;refine hb H0 B H1 σ γ _ _ _ env1 h1 (fun y w H2 h2 S2 t2=>?_) fun c H' hc S'=>hx c H' hc (S1.trans S');obtain⟨k,z,k1,k2,k3,k4⟩:=h2;have env2:=env1.grow S2;have eu:=Uk (t1.rp env1.same) k2;have ew:=XI (t2.rp env2.same) k1;subst eu ew;refine⟨l,_,rfl,DPut.k (S2 _ _ (S1 _ _ hl)) (YT k3 (by decide)),?_⟩;obtain⟨e2,f2⟩:=env2.mutate (es:=.dK (putK kvs k u)) (us:=.dK (putK kvs k u)) hi hv trivial fun F H' SF hF=>hF;exact e.nx _ _ _ k4 e2 ((Fr.grow (S1.trans S2)).trans f2)
 ·rename_i kvs hi;obtain⟨v,hv,l,rfl,hb0,hl⟩:=env.slot i _ hi;refine ha H0 B H σ γ _ _ _ env h (fun s u H1 h1 S1 t1=>⟨_,hv,?_⟩) hx;have env1:=env.grow S1;refine hb H0 B H1 σ γ _ _ _ env1 h1 (fun y w H2 h2 S2 t2=>?_) fun c H' hc S'=>hx c H' hc (S1.trans S');obtain⟨k,z,k1,k2,k3,k4⟩:=h2;have env2:=env1.grow S2;have eu:=Uk (t1.rp env1.same) k2;obtain⟨b',rfl,hb'⟩:=Je (t2.rp env2.same) k1;subst eu;refine⟨l,_,rfl,DPut.t (S2 _ _ (S1 _ _ hl)) hb' (YT k3 (by decide)),?_⟩;obtain⟨e2,f2⟩:=env2.mutate (es:=.dT (putK kvs k u)) (us:=.dT (putK kvs k u)) hi hv trivial fun F H' SF hF=>hF;exact e.nx _ _ _ k4 e2 ((Fr.grow (S1.trans S2)).trans f2)
 ·exact h.elim
end
section
variable {K:Za}{mg:Str->Option Value}{E:L2.St->XK}{H0 H H1 H':Hp}{B Z Z':Addr->Prop}{σ:L2.St}{γ:Γ}
def XN:List S->(S->Prop)->Prop
 |[s],R=>∃ns:List Int,s.d=.lst (ns.map D.int)/\R (.sh (.int ns.sum))
 |_,_=>False
def Pz{ta:TA}{r:PTA}(hr:SndA K mg E ta r):SndE K mg E (tCB (fun xs H Q=>∃(p:Addr) (ns:List Int),xs=[.ref p]/\SqL K H p (ns.map V.int)/\Q (.int ns.sum) H) ta) (pCB XN r):=by
 refine Vg hr fun H0 H H1 Z ss vs R Q s0 s1 hm tv h q=>?_;unfold XN at h;split at h
 ·obtain⟨v,rfl,t1⟩:=tv.one_inv;obtain⟨ns,e,hR⟩:=h;have rv:=t1.rp s0;rw[e]at rv;obtain⟨a,rfl,ha⟩:=rv.ints_inv;exact⟨a,ns,rfl,SqL.of ha,q _ _ H1 hR (Same.refl _) (.int _)⟩
 ·exact h.elim
end
end Pu
namespace Own
open PySem PySem.Spec PyProof.Rows L2
def Ke(K:Za):R2:=fun x y H Q=>∃a b xs ys,x=.ref a/\y=.ref b/\SqT K H a xs/\SqT K H b ys/\xs.length+ys.length<=sizeLine/\
 (xs=[]->Q (.ref b) H)/\(xs≠[]->ys=[]->Q (.ref a) H)/\(xs≠[]->ys≠[]->∀p,H p=none->Q (.ref p) (upd H p (.tup (xs++ys))))
section
variable {X:Cx}{K:Za}
def Ja(hK:X.K=K:=by rfl):OpR X (binaryOp .Add) (Ke K):=by
 subst hK;intro pins s σ H x y v u Q I rx ry h;obtain⟨a,b,xs,ys,rfl,rfl,ha,hb,hz,q0,q1,q2⟩:=h;cases rx
 cases ry
 by_cases hx:xs=[]
 ·obtain⟨its,r1,p1,_⟩:=I.tuple ha;obtain⟨its2,r2,p2,_⟩:=I.tuple hb;have e:its=[]:=r1.nil_iff.mpr hx;obtain⟨⟨cls,dd,data,sl⟩,ho,hc,n,hd⟩:=id p1;obtain⟨⟨cls2,dd2,data2,sl2⟩,ho2,hc2,n2,hd2⟩:=id p2;simp only at hc hd hc2 hd2;subst hc hd hc2 hd2
  exact concat_meets ⟨_,ho,rfl⟩ ⟨_,ho2,rfl⟩ noFill_tuple_add seq_tuple_add YH YB (YA _ _)
   (tuple_addW0 a b its.toArray its2.toArray n n2 dd dd2 sl sl2 (by simp[e])) ⟨ho,ho2,⟨.ref b,H,I,rfl,q0 hx⟩⟩
 ·exact Sf pins s σ H (.ref a) (.ref b) _ _ Q I rfl rfl ⟨a,b,xs,ys,rfl,rfl,ha,hb,hx,hz,q1 hx,q2 hx⟩
end
end Own
namespace Pu
open PySem PySem.Spec PyProof.Rows L2 Own M
section
variable {K:Za}{mg:Str->Option Value}{E:L2.St->XK}{H0 H H1 H':Hp}{B Z Z':Addr->Prop}{σ:L2.St}{γ:Γ}
def tupD:Option D->Option (List D)
 |some (.tup ds)=>some ds|_=>none
def VY{o:Option D}{ds:List D}(h:tupD o=some ds):o=some (.tup ds):=by
 unfold tupD at h;split at h
 ·cases h;rfl
 ·cases h
def Sw:S->S->(S->Prop)->Prop:=fun x y R=>∃ds es,tupD x.shd=some ds/\tupD y.shd=some es/\ds.length+es.length<=100000/\R (.sh (.tup (ds++es)))
def VW{ta tb:TE}{a b:PTE}(ha:SndE K mg E ta a)(hb:SndE K mg E tb b):SndE K mg E (tOp (Ke K) ta tb) (p2 a b Sw):=by
 refine se_2 ha hb fun H0 H H2 Z x y v u R Q s0 s1 hm tx ty h q=>?_;obtain⟨ds,es,e1,e2,hz,h⟩:=h;have hm':∀b,Z b->Mut (H2 b):=fun b z=>Qr s1 (hm b z);have r1:=tx.shd s0 hm s1 (VY e1);have r2:=ty.shd s0 hm s1 (VY e2);obtain⟨l,us,rfl,h1,k1⟩:=Rp.tup_inv r1;obtain⟨m,ws,rfl,h2,k2⟩:=Rp.tup_inv r2;refine⟨l,m,us,ws,rfl,rfl,SqT.of (off_sub _ _ h1),SqT.of (off_sub _ _ h2),by rw[k1.len,k2.len];exact ZA hz (by decide),fun e=>?_,fun _ e=>?_,fun _ _ p np=>?_⟩
 ·subst e;cases k1
  exact q _ _ _ h (Same.refl _) r2
 ·subst e;cases k2
  refine q _ _ _ h (Same.refl _) ?_;rw[Y6];exact r1
 ·refine q _ _ _ h (WJ np) (.tup (WK WL fun z=>?_) (Rps.mono (Wy (WJ np) fun _ _ _ z=>z) (k1.append k2)))
  have:=hm' p z
  rw[np]at this;exact this
def pIT(a:PTE):PTI:=fun γ R X=>a γ (fun s=>∃ds,tupD s.shd=some ds/\R ds.length fun i=>.sh (ds.getD i .non)) X
def KM{te:TE}{a:PTE}(ha:SndE K mg E te a):SndI K mg E (iTup K te) (pIT a):=by
 intro H0 B H σ γ R X Q env h q qx;refine ha H0 B H σ γ _ X _ env h (fun s v H1 h1 S1 t1=>?_) qx;have env1:=env.grow S1;obtain⟨ds,ed,h1⟩:=h1;have r1:=t1.shd env1.same env.zm S1 (VY ed);obtain⟨l,vs,rfl,hl,k1⟩:=Rp.tup_inv r1;refine⟨l,rfl,⟨vs,SqT.of (off_sub _ _ hl)⟩,q _ _ _ H1 h1 S1 ⟨fun i H' Z' hi lt=>?_,fun H' Z' lt=>?_⟩⟩
 ·have hd:ds[i]?=some (ds.getD i .non):=by rw[Zw,Zu hi];rfl
  obtain⟨u,hu,tu⟩:=k1.get hd;have k:=off_sub _ _ (lt.off _ _ hl);refine⟨⟨vs,u,SqT.of k,hu⟩,fun x H'' y=>?_⟩;obtain⟨rfl,y⟩:=y
  have:=y vs (SqT.of k)
  rw[hu]at this;cases this
  exact⟨Same.refl _,Rp.mono lt.off tu⟩
 ·exact⟨vs,SqT.of (off_sub _ _ (lt.off _ _ hl)),by rw[k1.len];exact Z3 _⟩
def Q6:List (List Key×V)->Bool
 |[]=>true
 |p::r=>Vs p.2&&Q6 r
end
section
variable {X:Cx}{K:Za}
def TB{tg l:Expr}{tl:TE}(hl:PE X l tl)(hK:X.K=K:=by rfl):PI X tg l (iTup K tl):=by subst hK;exact Sy hl
end
end Pu
namespace M
open PySem PySem.Spec PyProof.Rows L2 Own Pu
def tD(ms:List Int):D:=.tup (ms.map D.int)
def kT(ms:List Int):List Key:=ms.map Sum.inl
def US(ms:List Int):arg (tD ms)=.sh (tD ms):=by
 unfold arg tD imm;rw[VD]
def Sh{N:List Str}{ms:List Int}{ds:List D}:Qb N (tD ms::ds)=some (.sh (tD ms))::(ds.map (fun d=>some (arg d))++List.replicate (N.length-(ds.length+1)) none):=by
 unfold Qb;rw[Z4,US];rfl
def V8(ms:List Int):Vc (tD ms)=some (kT ms):=by
 show QP (ms.map D.int)=some (ms.map Sum.inl)
 induction ms with
 |nil=>rfl
 |cons m r ih=>
  rw[Z4,Z4];unfold QP;rw[ih];rfl
def Pp(ms:List Int):imm (tD ms)=true:=by
 unfold tD imm;exact VD ms
def oc(c:Int->Int->Int):List Int->Int
 |[]=>0
 |a::r=>(r.map (c a)).sum+oc c r
def Xl{f:Int->Int}{xs ys:List Int}(h:xs.Perm ys):(xs.map f).sum=(ys.map f).sum:=by
 induction h with
 |nil=>rfl
 |cons x _ ih=>rw[Z4,Z4,YY,YY,ih]
 |swap x y l=>
  simp only[Z4,YY];omega
 |trans _ _ i1 i2=>exact i1.trans i2
def JG{a b:List Int}(h:kT a=kT b):a=b:=List.map_inj_right (fun _ _=>Sum.inl.inj) |>.mp h
def UI:∀{kvs:List (List Key×V)},(kvs.map (·.1)).Nodup->∀p∈kvs,valV kvs p.1=some p.2
 |[],_,p,h=>by cases h
 |q::r,nd,p,h=>by
  rw[Z4,ZX]at nd;rcases ZN.mp h with e|h
  ·rw[e];exact Vn rfl
  ·rw[Vv fun e=>nd.1 (ZY.mpr ⟨p,h,e.symm⟩)];exact UI nd.2 p h
end M
namespace Own
open PySem PySem.Spec PyProof.Rows L2 PySem.SeqAt PySem.MeetsSeq PySem.MeetsSeq2 PySem.MeetsSeq3 PySem.SeqRoads2
open AutoSeq1 (wpAny_loadPart')
def leF(e c:Nat->Bool):Nat->Nat->Bool
 | 0,_=>true
 |k+1,i=>if e i=true then leF e c k (i+1)else c i
end Own
namespace Pu
open PySem PySem.Spec PyProof.Rows L2 Own
section
variable {K:Za}{mg:Str->Option Value}{E:L2.St->XK}{H0 H H1 H':Hp}{B Z Z':Addr->Prop}{σ:L2.St}{γ:Γ}
abbrev PTW:=Γ->(Γ->D->Prop)->(Γ->Str->Prop)->Prop
variable {te:TE}{w:PTW}
end
def len1{α:Type}{us:List α}(h:us.length=1):∃a,us=[a]:=List.length_eq_one_iff.mp h
def len2{α:Type}{us:List α}(h:us.length=2):∃a b,us=[a,b]:=by
 cases us with
 |nil=>cases h
 |cons a r=>obtain⟨b,rfl⟩:=len1 (us:=r) (by simpa using h);exact⟨a,b,rfl⟩
def len3{α:Type}{us:List α}(h:us.length=3):∃a b c,us=[a,b,c]:=by
 cases us with
 |nil=>cases h
 |cons a r=>obtain⟨b,c,rfl⟩:=len2 (us:=r) (by simpa using h);exact⟨a,b,c,rfl⟩
def len4{α:Type}{us:List α}(h:us.length=4):∃a b c d,us=[a,b,c,d]:=by
 cases us with
 |nil=>cases h
 |cons a r=>obtain⟨b,c,d,rfl⟩:=len3 (us:=r) (by simpa using h);exact⟨a,b,c,d,rfl⟩
def len5{α:Type}{us:List α}(h:us.length=5):∃a b c d e,us=[a,b,c,d,e]:=by
 cases us with
 |nil=>cases h
 |cons a r=>obtain⟨b,c,d,e,rfl⟩:=len4 (us:=r) (by simpa using h);exact⟨a,b,c,d,e,rfl⟩
abbrev PTF:=Γ->Str->(Str->Prop)->XR->Prop
open M
abbrev plD(f:List (Int×Int)):D:=.lst (f.map prD)
def atP1(ps:List (Int×Int))(p:Int):Int×Int:=ps.getD (p-1).toNat (0,0)
def SL{ps:List (Int×Int)}{p:Int}{x:Int×Int}(h1:1<=p)(h2:p<=ps.length):cutD (ps.map prD) none (some (p-1))++[prD x]++cutD (ps.map prD) (some p) none=(ps.set (p-1).toNat x).map prD:=by
 rw[V6,V6,JY ps (by omega),U6 ps (by omega)];have e:p.toNat=(p-1).toNat+1:=by omega
 rw[e,List.set_eq_take_append_cons_drop,ZE (by omega),Yu,Z4,YZ];rfl
def Vo{ps:List (Int×Int)}{p:Int}(h1:1<=p)(h2:p<=ps.length):atI (ps.map prD) (p-1)=some (prD (atP1 ps p)):=by
 rw[JX (by omega) (by omega)];unfold atP1;rw[Zw,Zu (show(p-1).toNat<ps.length by omega)];rfl
def X8{ps:List (Int×Int)}{p:Int}(h1:1<=p)(h2:p<=ps.length):atP1 ps p∈ps:=by
 have hl:(p-1).toNat<ps.length:=by omega
 unfold atP1;rw[Zw,Zu hl];exact ZS hl
def nextM(hs r:List Int):List (List Int):=(hs.filter fun h=>!decide (h∈r)).map fun h=>r++[h]
def WR(hs:List Int):Nat->List (List Int)
 | 0=>[[]]
 |k+1=>(WR hs k).flatMap (nextM hs)
def next_mem{hs r o:List Int}:o∈nextM hs r↔∃h,h∈hs/\h∉r/\o=r++[h]:=by
 unfold nextM;rw[ZY];constructor
 ·rintro⟨h,h1,rfl⟩;rw[Yf]at h1;exact⟨h,h1.1,by simpa using h1.2,rfl⟩
 ·rintro⟨h,h1,h2,rfl⟩;exact⟨h,Yf.mpr ⟨h1,by simpa using h2⟩,rfl⟩
def rows_mem{hs:List Int}:∀{k:Nat}{r:List Int},r∈WR hs k↔r.length=k/\r.Nodup/\∀x∈r,x∈hs
 | 0,r=>by
  unfold WR;constructor
  ·intro h;rw[ZG]at h;subst h;exact⟨rfl,List.nodup_nil,by simp⟩
  ·rintro⟨h,_⟩;rw[List.length_eq_zero_iff.mp h];exact ZG.mpr rfl
 |k+1,r=>by
  unfold WR;rw[List.mem_flatMap];constructor
  ·rintro⟨p,hp,ho⟩;obtain⟨h,h1,h2,rfl⟩:=next_mem.mp ho;obtain⟨a,b,c⟩:=rows_mem.mp hp;refine⟨by rw[ZF,a];rfl,?_,fun x hx=>?_⟩
   ·rw[YE];exact⟨b,by simp,fun x hx y hy z=>h2 (by rw[ZG]at hy;rw[←hy,←z];exact hx)⟩
   ·rcases Yr.mp hx with hx|hx
    ·exact c x hx
    ·rw[ZG]at hx;rw[hx];exact h1
  ·rintro⟨a,b,c⟩;rcases List.eq_nil_or_concat r with rfl|⟨p,h,rfl⟩
   ·cases a
   ·rw[List.concat_eq_append]at a b c ⊢;rw[YE]at b;obtain⟨b1,_,b3⟩:=b;refine⟨p,rows_mem.mpr ⟨by rw[ZF]at a;simpa using a,b1,fun x hx=>c x (Y0 _ hx)⟩,next_mem.mpr ⟨h,c h (by simp),fun z=>b3 h z h (by simp) rfl,rfl⟩⟩
def Xq:∀{a b:List Int} (x y:List Int),sl a b->sl (a++x) (b++y)
 |[],_,_,_,h=>by cases h
 |_::_,[],_,_,h=>by cases h
 |a::r,b::t,x,y,h=>by
  rcases h with h|⟨e,h⟩
  ·exact .inl h
  ·exact .inr ⟨e,Xq x y h⟩
def Xv:∀(r:List Int) {a b:Int},a<b->sl (r++[a]) (r++[b])
 |[],_,_,h=>.inl h
 |c::r,_,_,h=>.inr ⟨rfl,Xv r h⟩
def JB{hs:List Int}(hr:hs.Pairwise (· < ·)):∀k,(WR hs k).Pairwise sl
 | 0=>by unfold WR;exact List.pairwise_singleton _ _
 |k+1=>by
  unfold WR;rw[List.pairwise_flatMap];refine⟨fun r _=>?_,(JB hr k).imp fun {a b} h x hx y hy=>?_⟩
  ·unfold nextM;rw[YF];exact(hr.filter _).imp fun h=>Xv r h
  ·obtain⟨_,_,_,rfl⟩:=next_mem.mp hx;obtain⟨_,_,_,rfl⟩:=next_mem.mp hy;exact Xq _ _ h
def Jq{hs r:List Int}(nd:hs.Nodup):r∈WR hs hs.length↔r.Perm hs:=by
 rw[rows_mem];constructor
 ·rintro⟨h1,h2,h3⟩;rw[Yi h2 nd];refine fun x=>⟨h3 x,fun hx=>?_⟩;by_cases c:x∈r
  ·exact c
  ·have:(x::r).length<=hs.length:=List.Nodup.length_le_of_subset (ZX.mpr ⟨c,h2⟩) (by
    intro y hy;rcases ZN.mp hy with rfl|hy
    ·exact hx
    ·exact h3 y hy)
   rw[ZK]at this;omega
 ·intro h;exact⟨h.length_eq,h.nodup_iff.mpr nd,fun x hx=>h.mem_iff.mp hx⟩
def J2:∀{a b:List Int},sl a b->¬sl b a
 |[],_,h,_=>by cases h
 |_::_,[],h,_=>by cases h
 |a::r,b::t,h,k=>by
  rcases h with h|⟨e,h⟩
  ·rcases k with k|⟨e,_⟩<;>omega
  ·rcases k with k|⟨_,k⟩
   ·omega
   ·exact J2 h k
def wdM(ps:List (Int×Int))(x:Int):Int:=(atP1 ps x).2
def WG(ps:List (Int×Int))(r:List Int)(x:Int):Int:=wdM ps x*(((runI 1 (x-1).toNat).filter fun y=>!decide (y∈r)).map (wdM ps)).sum
def stD(q:List Int×Int):D:=.tup [tD q.1,.int q.2]
def WY(ps:List (Int×Int))(q:List Int×Int):List (List Int×Int):=((runI 1 ps.length).filter fun x=>!decide (x∈q.1)).map fun x=>(q.1++[x],q.2+WG ps q.1 x)
def KE(q:List Int×Int):imm (stD q)=true:=by
 unfold stD imm imms;rw[Pp];unfold imms imm;rfl
def J3(q:List Int×Int):arg (stD q)=.sh (stD q):=by
 unfold arg;rw[KE]
def run_mem{n:Nat}{x:Int}:x∈runI 1 n↔1<=x/\x<=n:=by
 unfold runI;rw[ZY];constructor
 ·rintro⟨k,hk,rfl⟩
  have:=List.mem_range.mp hk
  omega
 ·rintro⟨h1,h2⟩;exact⟨(x-1).toNat,List.mem_range.mpr (by omega),by omega⟩
def KB(ps:List (Int×Int))(q:List Int×Int):(WY ps q).length<=ps.length:=by
 unfold WY;rw[Zt]
 have:=List.length_filter_le (fun x=>!decide (x∈q.1)) (runI 1 ps.length)
 rwa[Qu]at this
def VN{ps:List (Int×Int)}(h:ps.length<=7):∀S:List (List Int×Int),(S.flatMap (WY ps)).length<=S.length*7
 |[]=>by simp
 |q::t=>by
  rw[List.flatMap_cons,ZF,ZK,Nat.succ_mul];have h1:=KB ps q;have h2:=VN h t;omega
def W1(ps:List (Int×Int)):Nat->List (List Int×Int)
 | 0=>[([],0)]
 |k+1=>(W1 ps k).flatMap (WY ps)
def UU{ps:List (Int×Int)}:∀{k:Nat}{q:List Int×Int},q∈W1 ps k->q.1.length=k
 | 0,q,h=>by
  unfold W1 at h;rw[ZG]at h;rw[h];rfl
 |k+1,q,h=>by
  unfold W1 at h;obtain⟨p,hp,hq⟩:=List.mem_flatMap.mp h;unfold WY at hq;obtain⟨x,_,rfl⟩:=ZY.mp hq;show(p.1++[x]).length=k+1;rw[ZF,UU hp];rfl
def JU{ps:List (Int×Int)}(h:ps.length<=7):∀k,(W1 ps k).length<=7 ^ k
 | 0=>by unfold W1;simp
 |k+1=>by
  unfold W1;rw[Nat.pow_succ];exact ZA (VN h _) (Nat.mul_le_mul_right _ (JU h k))
def cstA(ps:List (Int×Int)):List Int->List Int->Int
 |_,[]=>0
 |pre,x::t=>WG ps pre x+cstA ps (pre++[x]) t
def UH(ps:List (Int×Int))(x:Int):∀(t pre:List Int),cstA ps pre (t++[x])=cstA ps pre t+WG ps (pre++t) x
 |[],pre=>by
  show WG ps pre x+0=0+WG ps (pre++[]) x;rw[Y6];omega
 |y::t,pre=>by
  show WG ps pre y+cstA ps (pre++[y]) (t++[x])=WG ps pre y+cstA ps (pre++[y]) t+WG ps (pre++y::t) x;rw[UH ps x t (pre++[y]),YZ];show _+(_+WG ps (pre++y::t) x)=_;omega
def Vw(ps:List (Int×Int)):∀k,W1 ps k=(WR (runI 1 ps.length) k).map fun r=>(r,cstA ps [] r)
 | 0=>rfl
 |k+1=>by
  unfold W1 WR;rw[Vw ps k,List.flatMap_map,List.map_flatMap];congr 1;funext r;unfold WY nextM;rw[Yl];apply List.map_congr_left;intro x _;show(r++[x],cstA ps [] r+WG ps r x)=(r++[x],cstA ps [] (r++[x]));rw[UH,List.nil_append]
def invM(ps:List (Int×Int)):List Int->Int
 |[]=>0
 |x::t=>wdM ps x*((t.filter fun y=>decide (y<x)).map (wdM ps)).sum+invM ps t
def Qs(n:Nat):(runI 1 n).Nodup:=by
 unfold runI;rw[List.Nodup,YF];exact List.nodup_range.imp fun h z=>h (by omega)
def QW(n:Nat):(runI 1 n).Pairwise (· < ·):=by
 unfold runI;rw[YF];exact List.pairwise_lt_range.imp fun h=>by omega
def Jf{ps:List (Int×Int)}:∀{t pre:List Int},(pre++t).Perm (runI 1 ps.length)->cstA ps pre t=invM ps t
 |[],_,_=>rfl
 |x::t,pre,h=>by
  have nd:=h.nodup_iff.mpr (Qs _)
  have hmem:∀y,y∈pre\/y=x\/y∈t↔1<=y/\y<=ps.length:=fun y=>by
   rw[←run_mem,←h.mem_iff,Yr,ZN]
  rw[YE]at nd;obtain⟨n1,n2,n3⟩:=nd;have n4:=ZX.mp n2
  have key:((runI 1 (x-1).toNat).filter fun y=>!decide (y∈pre)).Perm (t.filter fun y=>decide (y<x)):=by
   rw[Yi ((Qs _).filter _) (n4.2.filter _)];intro y;rw[Yf,Yf,run_mem];have hy:=hmem y;have hx:=(hmem x).mp (.inr (.inl rfl));constructor
   ·rintro⟨⟨a,b⟩,c⟩;have c':y∉pre:=by simpa using c
    have:y<x:=by omega
    rcases hy.mpr (by omega)with z|z|z
    ·exact absurd z c'
    ·omega
    ·exact⟨z,Z7 this⟩
   ·rintro⟨a,b⟩;have b':y<x:=Yc b
    have:=hy.mp (.inr (.inr a))
    refine⟨by omega,?_⟩
    have:y∉pre:=fun z=>n3 y z y (ZD _ a) rfl
    simpa using this
  show WG ps pre x+cstA ps (pre++[x]) t=wdM ps x*_+invM ps t;rw[Jf (t:=t) (pre:=pre++[x]) (by rw[YZ];exact h)];unfold WG;rw[Xl key]
def Jh{ps:List (Int×Int)}{x y:Int}(h:x<y)(b:List Int):∀a:List Int,invM ps (a++y::x::b)=invM ps (a++x::y::b)+wdM ps x*wdM ps y
 |[]=>by
  show wdM ps y*(((x::b).filter fun z=>decide (z<y)).map (wdM ps)).sum+(wdM ps x*((b.filter fun z=>decide (z<x)).map (wdM ps)).sum+invM ps b)=wdM ps x*(((y::b).filter fun z=>decide (z<x)).map (wdM ps)).sum+(wdM ps y*((b.filter fun z=>decide (z<y)).map (wdM ps)).sum+invM ps b)+wdM ps x*wdM ps y;have e1:((x::b).filter fun z=>decide (z<y))=x::b.filter fun z=>decide (z<y):=Yo (Z7 h);have e2:((y::b).filter fun z=>decide (z<x))=b.filter fun z=>decide (z<x):=Yp (by simp;omega);rw[e1,e2,Z4,YY,Int.mul_add,Int.mul_comm (wdM ps x) (wdM ps y)];omega
 |c::a=>by
  show wdM ps c*(((a++y::x::b).filter fun z=>decide (z<c)).map (wdM ps)).sum+invM ps (a++y::x::b)=wdM ps c*(((a++x::y::b).filter fun z=>decide (z<c)).map (wdM ps)).sum+invM ps (a++x::y::b)+wdM ps x*wdM ps y;rw[Jh h b a,Xl (List.Perm.filter _ (List.Perm.append_left a (List.Perm.swap x y b)))];omega
def JR:∀{r:List Int},r.Nodup->(∀a x y b,r=a++x::y::b->¬y<x)->r.Pairwise (· < ·)
 |[],_,_=>List.Pairwise.nil
 |[x],_,_=>List.pairwise_singleton _ _
 |x::y::t,nd,h=>by
  have nd':=ZX.mp nd;have ih:=JR nd'.2 fun a u v b e=>h (x::a) u v b (by rw[e];rfl)
  have hxy:x<y:=by
   have h1:=h [] x y t rfl;have h2:x≠y:=fun z=>nd'.1 (by rw[z];simp);omega
  refine YX.mpr ⟨fun z hz=>?_,ih⟩;rcases ZN.mp hz with rfl|hz
  ·exact hxy
  ·have:=(YX.mp ih).1 z hz
   omega
def PR{n:Nat}{r:List Int}(h:r.Perm (runI 1 n))(ne:r≠runI 1 n):∃a x y b,r=a++x::y::b/\y<x:=by
 by_cases c:∃a x y b,r=a++x::y::b/\y<x
 ·exact c
 ·refine absurd ?_ ne;exact Um (JR (h.nodup_iff.mpr (Qs n)) fun a x y b e z=>c ⟨a,x,y,b,e,z⟩) (QW n) fun z=>h.mem_iff
end Pu
namespace Pu
open PySem PySem.Spec PyProof.Rows L2 Own
section
variable {K:Za}{mg:Str->Option Value}{E:L2.St->XK}
def pSlT(a:PTE)(l u:PTO):PTE:=fun γ R X=>a γ (fun s=>l γ (fun lo=>u γ (fun hi=>∃ds,tupD s.shd=some ds/\¬(HT.sIx ds.length 0 lo=0/\HT.sIx ds.length ds.length hi=ds.length)/\R (.sh (.tup (cutD ds lo hi)))) X) X) X
def X1{te:TE}{tl th:TO}{a:PTE}{l u:PTO}(ha:SndE K mg E te a)(hl:SndO K mg E tl l)(hu:SndO K mg E th u):SndE K mg E (tSl (rSlT K) te tl th) (pSlT a l u):=by
 intro H0 B H σ γ R X Q env p q qx;refine ha H0 B H σ γ _ X _ env p (fun x v H1 h1 S1 t1=>?_) qx;refine hl H0 B H1 σ γ _ X _ (env.grow S1) h1 (fun lo H2 h2 S2=>?_) fun c H' hc S'=>qx c H' hc (S1.trans S');refine hu H0 B H2 σ γ _ X _ ((env.grow S1).grow S2) h2 (fun hi H3 h3 S3=>?_) fun c H' hc S'=>qx c H' hc ((S1.trans S2).trans S');have S13:=(S1.trans S2).trans S3;obtain⟨ds,e,hn,hR⟩:=h3;have env3:=env.grow S13;have t3:=t1.grow (S2.trans S3);cases es:x.shd with
 |none=>rw[es]at e;cases e
 |some d=>
  rw[es]at e;have rd:=t3.shd env3.same env.zm S13 es;cases d with
  |tup ds'=>
   cases e
   obtain⟨b,us,rfl,hb,r⟩:=Rp.tup_inv rd;refine⟨b,us,rfl,SqT.of (off_sub _ _ hb),by rw[r.len];exact hn,fun m nm=>q _ _ _ hR (S13.trans (WJ nm)) ?_⟩;refine .tup (WK WL fun z=>?_) (Rps.mono (Wy (WJ nm) fun _ _ _ z=>z) r.cut)
   have:=Qr S13 (env.zm m z)
   rw[nm]at this;exact this
  |int _=>cases e
  |bl _=>cases e
  |non=>cases e
  |str _=>cases e
  |ty _=>cases e
  |lst _=>cases e
  |scr _=>cases e
  |dK _=>cases e
  |dT _=>cases e
  |loc _ _=>cases e
  |err _=>cases e
  |ref _=>cases e
  |dF _=>cases e
  |ins _ _ _=>cases e
def Ut{X:Cx}(hK:X.K=K:=by rfl):SlR X (rSlT K):=by subst hK;exact Kz
def rEqT(K:Za):R2:=fun x y H Q=>∃(p q:Addr) (xs ys:List V),x=.ref p/\y=.ref q/\SqT K H p xs/\SqT K H q ys/\xs.all WN=true/\ys.all WN=true/\Q (.bl (eqL xs ys)) H
def Su{X:Cx}(hu:X.A.units<cLine)(hK:X.K=K:=by rfl):OpR X (compareOp .Eq) (rEqT K):=by
 subst hK;intro pins s σ H x y v u Q I rx ry h;obtain⟨p,q,xs,ys,rfl,rfl,hp,hq,f1,f2,k⟩:=h;obtain rfl:v=Value.ref p:=rx;obtain rfl:u=Value.ref q:=ry;obtain⟨us,r1,p1,_⟩:=I.tuple hp;obtain⟨ws,r2,p2,_⟩:=I.tuple hq;have l1:=r1.length;have l2:=r2.length;refine SeqAt.eq_tupleAt p1 p2 hu (fun j h1 h2=>Vm r1 r2 f1 f2 j h1 h2) ⟨.bl (eqL xs ys),H,I,?_,k⟩;show _=Value.bool (eqL xs ys);unfold eqL;rw[Zz,Zz,←l1,←l2];by_cases e:xs.length=ys.length
 ·rw[Z7 e,YK,←e,Nat.min_self,beq_self_eq_true,Bool.and_true]
 ·rw[Z9 e,Bool.false_and,YV.mpr e,Bool.and_false]
def fEqT:S->S->(S->Prop)->Prop:=fun x y R=>∃xs ys:List Int,x.d=.tup (xs.map D.int)/\y.d=.tup (ys.map D.int)/\R (.sh (.bl (decide (xs=ys))))
def Se{ta tb:TE}{a b:PTE}(ha:SndE K mg E ta a)(hb:SndE K mg E tb b):SndE K mg E (tOp (rEqT K) ta tb) (p2 a b fEqT):=by
 refine se_2 ha hb fun H0 H H2 Z x y v u R Q s0 s1 hm tx ty h q=>?_;obtain⟨xs,ys,e1,e2,hR⟩:=h;have rx:=tx.rp s0;have ry:=ty.rp s0;rw[e1]at rx;rw[e2]at ry;obtain⟨p,us,rfl,hp,r1⟩:=Rp.tup_inv rx;obtain⟨p',ws,rfl,hp',r2⟩:=Rp.tup_inv ry;rw[r1.ints]at hp;rw[r2.ints]at hp';refine⟨p,p',_,_,rfl,rfl,SqT.of hp,SqT.of hp',Qk _,Qk _,?_⟩;rw[Jl];exact q _ _ H2 hR (Same.refl _) (.bl _)
end
end Pu
namespace Own
open PySem PySem.Spec PyProof.Rows L2 PySem.SeqAt PySem.MeetsSeq PySem.MeetsSeq2 PySem.MeetsSeq3 PySem.SeqRoads2
open AutoSeq1 (wpAny_loadPart')
def GeAt(A:Around)(s:Shared)(y x:Value)(b:Bool):Prop:=
 ∀(prog:Program) (w:World) (E:Value->Shared->Prop) (Q:Value->Shared->Prop),Q (.bool b) s->wpAny (model prog w) A (richCompare .GtE y x) Q E s
def Tr(p q:Addr)(us ws:Array Value)(m m2:Nat)(da db:Option Addr)(sa sb:Array (Option Value))(hsz:us.size=ws.size)(e c:Nat->Bool) :
  Meets (Builtin.«tuple.__ge__» ⟨[.ref p,.ref q],[]⟩)
   (fun A R s=>s.heap.get? p=some {cls:=.type "tuple",dict:=da,data:=.seq us m,slots:=sa}/\s.heap.get? q=some {cls:=.type "tuple",dict:=db,data:=.seq ws m2,slots:=sb}/\
    (∀j (a:j<us.size) (b:j<ws.size),EqAt A.in1 s us[j] ws[j] (e j)/\GeAt A.in1 s us[j] ws[j] (c j))/\
    R (.ok (.ret (.bool (leF e c us.size 0)))) s):=
 .of_wp fun prog w A R s h=>by
  obtain⟨hp,ge,dr,tk,os⟩:=s;obtain⟨h1,h2,both,hR⟩:=h;have sub:=AutoSeq1.sub_tuple_tuple;have hZ:(us.toList.zip ws.toList).length=us.size:=by simp;omega
  wp_walk using wpAny_loadPart' h1,wpAny_loadPart' h2,wpAny_forIn_list _ (fun rest b s'=>b.1=none/\s'=⟨hp,ge,dr,tk,os⟩/\∃i,i<=us.size/\rest=(us.toList.zip ws.toList).drop i/\
   R (.ok (.ret (.bool (leF e c (us.size-i) i)))) ⟨hp,ge,dr,tk,os⟩) _
  case turn=>
   rintro⟨y,x⟩ rest b s' ⟨hn,rfl,i,hi,hz,hr⟩
   have lt:i<(us.toList.zip ws.toList).length:=by
    by_cases z:i<(us.toList.zip ws.toList).length
    ·exact z
    ·rw[Yx (by omega)]at hz;cases hz
   have a1:i<us.size:=by omega
   have a2:i<ws.size:=by omega
   rw[ZU lt]at hz;obtain⟨yx,tl⟩:=List.cons.inj hz;obtain rfl:y=us[i]:=by simpa using ZT Prod.fst yx
   obtain rfl:x=ws[i]:=by simpa using ZT Prod.snd yx
   have sk:us.size-i=(us.size-(i+1))+1:=by omega
   rw[sk]at hr;unfold leF at hr;refine Zs ((both i a1 a2).1 prog w _ _ ?_);cases ei:e i with
   |true=>
    rw[ei,ZE rfl]at hr
    wp_walk
    exact⟨rfl,rfl,i+1,by omega,tl,hr⟩
   |false=>
    rw[ei,Z6 Zy]at hr;have gc:∀{F:Value->Shared->Prop} {P:Value->Shared->Prop},P (.bool (c i)) ⟨hp,ge,dr,tk,os⟩->wpAny (model prog w) A.in1 (richCompare .GtE us[i] ws[i]) P F ⟨hp,ge,dr,tk,os⟩:=fun hQ=>(both i a1 a2).2 prog w _ _ hQ
    wp_walk using gc
    exact⟨_,rfl,hr⟩
  case fin=>
   rintro⟨b1,b2⟩ s' ⟨hn,rfl,i,hi,hz,hr⟩;simp only at hn;subst hn
   have ge':us.size<=i:=by
    by_cases z:i<(us.toList.zip ws.toList).length
    ·rw[ZU z]at hz;cases hz
    ·omega
   rw[show us.size-i=0 by omega]at hr
   wp_walk
   exact⟨_,rfl,by simpa [Builtin.Tuple.tupleCompareSizes,leF,hsz]using hr⟩
  case h=>
   exact⟨rfl,rfl,0,YI _,rfl,by simpa using hR⟩
def geI:List Int->List Int->Bool
 |a::r,b::t=>if a=b then geI r t else decide (b<=a)
 |_,_=>true
def Kh{xs ys:List Int}{e c:Nat->Bool}(hl:xs.length=ys.length)(he:∀j (h1:j<xs.length) (h2:j<ys.length),e j=decide (xs[j]=ys[j])/\c j=decide (ys[j]<=xs[j])) :
  ∀(k i:Nat),xs.length-i=k->leF e c k i=geI (xs.drop i) (ys.drop i)
 | 0,i,h=>by
  rw[Yx (by omega)];rfl
 |k+1,i,h=>by
  have h1:i<xs.length:=by omega
  have h2:i<ys.length:=by omega
  rw[ZU h1,ZU h2];unfold leF geI;rw[(he i h1 h2).1,(he i h1 h2).2,Kh hl he k (i+1) (by omega)];by_cases z:xs[i]=ys[i]
  ·rw[ZE (Z7 z),ZE z]
  ·rw[Z6 (fun y=>z (Yc y)),Z6 z]
def rGeT(K:Za):R2:=fun x y H Q=>∃(p q:Addr) (xs ys:List Int),x=.ref p/\y=.ref q/\SqT K H p (xs.map V.int)/\SqT K H q (ys.map V.int)/\xs.length=ys.length/\Q (.bl (geI xs ys)) H
section
variable {X:Cx}{K:Za}
def TJ(hu:X.A.units<cLine)(hK:X.K=K:=by rfl):OpR X (compareOp .GtE) (rGeT K):=by
 subst hK;intro pins s σ H x y v u Q I rx ry h;obtain⟨p,q,xs,ys,rfl,rfl,hp,hq,hl,k⟩:=h;obtain rfl:v=Value.ref p:=rx;obtain rfl:u=Value.ref q:=ry;obtain⟨us,r1,p1,_⟩:=I.tuple hp;obtain⟨ws,r2,p2,_⟩:=I.tuple hq;have l1:=r1.length;have l2:=r2.length;rw[Zt]at l1 l2;obtain⟨⟨cls,dd,data,sl⟩,ho,hc,n,hd⟩:=id p1;obtain⟨⟨cls2,dd2,data2,sl2⟩,ho2,hc2,n2,hd2⟩:=id p2;simp only at hc hd hc2 hd2;subst hc hd hc2 hd2
 have hlt:leF (fun j=>eqV ((xs.map V.int).getD j .non) ((ys.map V.int).getD j .non)) (fun j=>decide (ys.getD j 0<=xs.getD j 0)) us.toArray.size 0=geI xs ys:=by
  rw[Zz,←l1];refine(Kh hl (fun j h1 h2=>⟨?_,?_⟩) xs.length 0 (by omega))
  ·rw[Zw,Zw,Z5,Z5,Zu h1,Zu h2];show eqV (V.int xs[j]) (V.int ys[j])=_;show(xs[j]==ys[j])=decide (xs[j]=ys[j]);by_cases z:xs[j]=ys[j]<;>simp[z]
  ·rw[Zw,Zw,Zu h1,Zu h2];rfl
 show wpAny _ _ (richCompare .GtE (.ref p) (.ref q)) _ _ s
 refine richCompare_meets_room (op:=.GtE) ⟨_,ho,rfl⟩ ⟨_,ho2,rfl⟩ PySem.F.slot_tuple_ge PySem.F.entry_tuple_ge (PySem.F.args_tuple_ge_2 _ _)
  (Tr p q us.toArray ws.toArray n n2 dd dd2 sl sl2 (by simp;omega) (fun j=>eqV ((xs.map V.int).getD j .non) ((ys.map V.int).getD j .non)) (fun j=>decide (ys.getD j 0<=xs.getD j 0)))
  ⟨ho,ho2,fun j h1 h2=>⟨Vm r1 r2 (Qk _) (Qk _) j h1 h2,?_⟩,?_⟩ hu
 ·have g1:j<us.length:=by simpa using h1
  have g2:j<ws.length:=by simpa using h2
  have k1:(xs.map V.int)[j]?=some (.int (xs[j]'(by omega))):=by rw[Z5,Zu (by omega)];rfl
  have k2:(ys.map V.int)[j]?=some (.int (ys[j]'(by omega))):=by rw[Z5,Zu (by omega)];rfl
  obtain⟨u,eu,t,ru⟩:=r1.get k1;obtain⟨w,ew,t',rw'⟩:=r2.get k2
  have e1:us.toArray[j]=.int (xs[j]'(by omega)) t:=by
   rw[Zu g1,ru]at eu;simpa using eu
  have e2:ws.toArray[j]=.int (ys[j]'(by omega)) t':=by
   rw[Zu g2,rw']at ew;simpa using ew
  rw[e1,e2];intro prog w E Q hQ;show wpAny _ _ (compareOp .GtE _ _) _ _ _;refine ge_int ?_;rw[Zw,Zw,Zu (by omega),Zu (by omega)]at hQ;exact hQ
 ·rw[hlt];exact⟨(fun x=>nomatch x),.bl (geI xs ys),H,I,rfl,k⟩
end
end Own
namespace Pu
open PySem PySem.Spec PyProof.Rows L2 Own M
section
variable {K:Za}{mg:Str->Option Value}{E:L2.St->XK}
def fGeT:S->S->(S->Prop)->Prop:=fun x y R=>∃xs ys:List Int,x.d=.tup (xs.map D.int)/\y.d=.tup (ys.map D.int)/\xs.length=ys.length/\R (.sh (.bl (geI xs ys)))
def K3{ta tb:TE}{a b:PTE}(ha:SndE K mg E ta a)(hb:SndE K mg E tb b):SndE K mg E (tOp (rGeT K) ta tb) (p2 a b fGeT):=by
 refine se_2 ha hb fun H0 H H2 Z x y v u R Q s0 s1 hm tx ty h q=>?_;obtain⟨xs,ys,e1,e2,hl,hR⟩:=h;have rx:=tx.rp s0;have ry:=ty.rp s0;rw[e1]at rx;rw[e2]at ry;obtain⟨p,us,rfl,hp,r1⟩:=Rp.tup_inv rx;obtain⟨p',ws,rfl,hp',r2⟩:=Rp.tup_inv ry;rw[r1.ints]at hp;rw[r2.ints]at hp';exact⟨p,p',_,_,rfl,rfl,SqT.of hp,SqT.of hp',hl,q _ _ H2 hR (Same.refl _) (.bl _)⟩
def U1:∀{a b:List Int},sl a b->geI a b=false
 |[],_,h=>by cases h
 |_::_,[],h=>by cases h
 |x::r,y::t,h=>by
  unfold geI;rcases h with h|⟨e,h⟩
  ·rw[Z6 (by omega)];exact Z9 (by omega)
  ·rw[ZE e];exact U1 h
end
end Pu
namespace Own
open PySem PySem.Spec PyProof.Rows L2
section
variable {prog:Program}{w:World}{A:Around}{s:Shared}{E:Value->Shared->Prop}
def gotH(hp:Heap)(vs:List Value):Heap:=
 (hp.push (seqObj "list" #[] 0)).update hp.objs.size
  (Obj.mapSeq (·++vs.toArray))
def Sb{p:Addr}{vs:List Value}{Q:List Value->Shared->Prop}(ht:s.heap.IsTuple p vs.toArray)(h:Q vs {s with heap:=gotH s.heap vs})(hz:vs.length<=sizeLine) :
  wpAny (model prog w) A (collect (.ref p)) Q E s:=by
 obtain⟨ob,g0,hc,n,hd⟩:=id ht;unfold collect
 refine Zs (wpAny_runValue
  (Y8 entry_proto_collect' ?_))
 show wpAny _ _ (do
  again (.builtin "list.__iadd__" ⟨[←newList [],.ref p],[]⟩)) _ _ s
 refine Zs (wpAny_newList (Zv
  ⟨Code.quiet_builtin _ (by decide +kernel),Y8 entry_list_iadd' ?_⟩))
 show wpAny _ _ (Builtin.List.listExtendWith (.ref s.heap.objs.size)
  (.ref p) (.ref s.heap.objs.size)) _ _ {s with heap:=s.heap.push (seqObj "list" #[] 0)}
 unfold Builtin.List.listExtendWith
 have g1:(s.heap.push (seqObj "list" #[] 0)).get? p=some ob:=
  Zx _ g0
 refine Zs (wpAny_typeOf (T:="tuple") ⟨ob,g1,hc⟩ ?_);have tt:(Value.type "tuple" == Value.type "tuple")=true:=by decide +kernel
 rw[ZE (by rw[tt,Bool.or_true])];refine Zs (listItems_at g1 hd ?_)
 refine Zs (listItems_at (xs:=#[]) (n:=0)
  (Z2 _ rfl) rfl ?_)
 rw[Z6 (by simp)]
 refine Zs (listUpdate_at (xs:=#[]) (n:=0)
  (Z2 _ rfl) rfl ?_ (YI _)
  (by show(#[]++vs.toArray).size<=sizeLine+1;simp only[Array.size_append,Zz,List.length_nil];omega))
 refine Zv ?_
 show wpAny (model prog w) A (do
   let o ←load s.heap.objs.size
   match o.data with
   | .seq xs _=>pure xs.toList
   |_=>unsupported "internal:collect") Q E {s with heap:=gotH s.heap vs}
 refine Zs (wpAny_load (get?_update_seq
  (Z2 _ rfl) _) ?_)
 show wpAny _ _ (pure ((#[]:Array Value)++vs.toArray).toList)
  Q E _
 rw[show((#[]:Array Value)++vs.toArray).toList
  = vs by simp]
 exact Zv h
def SB(hp:Heap)(vs:List Value):(gotH hp vs).objs.size=hp.objs.size+1:=by
 unfold gotH;rw[Heap.size_update,size_push']
def Th{hp:Heap}{vs:List Value}{b:Addr}{o:Obj}(g:hp.get? b=some o):(gotH hp vs).get? b=some o:=by
 unfold gotH;rw[Heap.get?_update_ne _ _ _ _ (ZI (Z1 g))];exact Zx _ g
def Kl{p:Addr}{vs:List Value}{ns:List Int}{Q:Value->Shared->Prop}(ht:s.heap.IsTuple p vs.toArray)(hI:IntsAre vs ns)(h64:vs.length<64)
  (h:∀(out:Array Value) (ms:List Int),IntsAre out.toList ms->ms.Perm ns->ms.Pairwise (·<=·)->
   Q (.ref (gotH s.heap vs).objs.size) {s with heap:=sortedHeap ((gotH s.heap vs).push (seqObj "list" vs.toArray 0)) (gotH s.heap vs).objs.size vs out}) :
  wpAny (model prog w) A (call (.builtin "sorted") [.ref p]) Q E s:=by
 refine Calls.call_function_entry kind_sorted
  plain_sorted entry_sorted (args_sorted1 _) ?_
 unfold Builtin.«sorted»
 refine Zs (m:=checkCount "sorted" 1 1 _)
  (Zv ?_)
 refine Zs (Sb ht ?_ (ZA (YN h64) (by decide)));refine Zs (wpAny_newList ?_);have at_:((gotH s.heap vs).push (seqObj "list" vs.toArray 0)).get? (gotH s.heap vs).objs.size=some (seqObj "list" vs.toArray 0):=Z2 _ rfl
 refine Zs (wpAny_holding (Y1 slot_list_sort ⟨_,at_,rfl⟩
  entry_list_sort (list_sort_tree at_ hI h64 fun out ms a1 a2 a3=>⟨_,rfl,?_⟩) (args_list_sort _)))
 exact Zv ⟨_,rfl,h out ms a1 a2 a3⟩
end
section
variable {X:Cx}{K:Za}
def TY(hK:X.K=K:=by rfl):WW X (.builtin "sorted") (fun xs H Q=>∃(p:Addr) (js:List Int),xs=[.ref p]/\js.length<64/\SqT K H p (js.map V.int)/\
  ∀(l:Addr) (ns:List Int),H l=none->ns.Perm js->ns.Pairwise (·<=·)->Q (.ref l) (upd H l (.lst (ns.map V.int)))):=by
 subst hK;intro pins s σ H xs us Q I rv h;obtain⟨p,js,rfl,hz,hS,q⟩:=h;obtain⟨u,rfl,ru⟩:=rv.one;obtain rfl:u=Value.ref p:=ru;obtain⟨its,r,pt,_⟩:=I.tuple hS;have hI:IntsAre its js:=by simpa using JT r
 refine Kl pt hI (by rw[IntsAre.length hI];exact hz) fun out ns a1 a2 a3=>?_;generalize eg:gotH s.heap its=hp;have keep:∀b o,s.heap.get? b=some o->hp.get? b=some o:=fun b o g=>eg▸Th g;have le:s.heap.objs.size<=hp.objs.size:=by rw[←eg,SB];omega
 have at_:(hp.push (seqObj "list" its.toArray 0)).get? hp.objs.size=some (seqObj "list" its.toArray 0):=Z2 _ rfl;have hf:H hp.objs.size=none:=I.hok.fresh le;obtain⟨e,he⟩:=sortedHeap_at (out:=out) at_
 have old:∀b o,s.heap.get? b=some o->(sortedHeap (hp.push (seqObj "list" its.toArray 0)) hp.objs.size its out).get? b=some o:=fun b o g=>by
  have g1:=keep b o g;have lt:=Z1 g1;rw[sortedHeap_old (ZI lt) (Z1 (Zx _ g1))];exact Zx _ g1
 have big:(ns.map V.int).length<=sizeLine:=by
  rw[Zt,a2.length_eq]
  have:(64:Nat)<=sizeLine:=by decide
  omega
 refine⟨.ref hp.objs.size,upd H hp.objs.size (.lst (ns.map V.int)),I.laid (t':=s.toks) old le ⟨big,out.toList,e,J8 a1,?_⟩,rfl,q _ ns hf a2 a3⟩;simpa [seqObj]using he
end
end Own
namespace Pu
open PySem PySem.Spec PyProof.Rows L2 Own M
section
variable {K:Za}{mg:Str->Option Value}{E:L2.St->XK}
def Uy:List S->(S->Prop)->Prop
 |[s],R=>∃js:List Int,s.d=.tup (js.map D.int)/\js.length<64/\∀ns:List Int,ns.Perm js->ns.Pairwise (·<=·)->R (.own (ns.map D.int))
 |_,_=>False
def S7{ta:TA}{r:PTA}(hr:SndA K mg E ta r):SndE K mg E (tCB (fun xs H Q=>∃(p:Addr) (js:List Int),xs=[.ref p]/\js.length<64/\SqT K H p (js.map V.int)/\
  ∀(l:Addr) (ns:List Int),H l=none->ns.Perm js->ns.Pairwise (·<=·)->Q (.ref l) (upd H l (.lst (ns.map V.int)))) ta) (pCB Uy r):=by
 refine Vg hr fun H0 H H1 Z ss vs R Q s0 s1 hm tv h q=>?_;unfold Uy at h;split at h
 ·rename_i s;obtain⟨v,rfl,tv1⟩:=tv.one_inv;obtain⟨js,e,hz,hR⟩:=h;have rv:=tv1.rp s0;rw[e]at rv;obtain⟨p,us,rfl,hp,r1⟩:=Rp.tup_inv rv;rw[r1.ints]at hp;exact⟨p,js,rfl,hz,SqT.of hp,fun l ns nl a b=>q _ _ _ (hR ns a b) (WJ nl) (QV s1 nl (Rps.of_ints ns))⟩
 ·exact h.elim
end
def N2(m:List Int)(k:Int):Int:=1+(k*m.getD 1 0+m.getD 2 0) % 10
end Pu
namespace Pu
open PySem PySem.Spec PyProof.Rows L2 Own
structure DI (K:Za) (x:Str) (st:Stmt):Prop where
 ex:∃f fd,PySem.W.nsIn K mainGlobals x=some (some (.ref f))/\Fun K x x st f fd
section
variable {K:Za}{h:Heap}{mg:Str->Option Value}
def di{x:Str}{st:Stmt}{f:Addr}{oc:Value}{od an:Option Addr}{osl:Array (Option Value)}{kV doc pm cdv ct:Value}(a:PySem.W.nsIn K mainGlobals x=some (some (.ref f)))(l:K.lookup f=some ⟨oc,od,.func (PySem.W.fnOf x x (Qo st) (Qd st) (Ww st) .none kV doc pm an cdv ct),osl⟩)(c:PySem.W.codeIn K cdv x=true)(k:PySem.W.keepIn K (.ref f)=true):DI K x st:=⟨f,_,a,JV l c k⟩
def DI.d {x:Str}{st:Stmt}{ps:List Str} (D:DI K x st) (X:K.In h) (G0:h.Ns mainGlobals mg)
  (b:∀(kV doc pm:Value) (an:Option Addr) (cdv ct:Value) (us:List Value),us.length=ps.length->bindArgs (PySem.W.fnOf x x (Qo st) (Qd st) (Ww st) .none kV doc pm an cdv ct) ⟨us,[]⟩=pure (ps.zip us)):Def K mg x st ps:=
 let ⟨_,_,a,F⟩:=D.ex
 ⟨_,_,F,YL X G0 a,F.binds b⟩
end
def fs{N P:List Str}{sc:Scope}(h1:sc.kind=.function:=by rfl)(h2:sc.isCoroutine=false:=by rfl)(h3:sc.isGenerator=false:=by rfl)(h4:N.Nodup:=by decide +kernel)(h5:N.take P.length=P:=by rfl)(h6:∀x∈P,sc.names.lookup x=some .local\/sc.names.lookup x=some .cell:=by decide +kernel)(h7:∀y∈sc.names,y.2≠.free:=by decide +kernel):FnScope N P sc:=⟨h1,h2,h3,h4,h5,h6,h7⟩
def pz{X:Cx}{pos:Pos}{x:Str}{e:Expr}{te:TE}{pos':Pos}(i:Nat)(hN:X.N.Nodup)(he:PE X e te)(hi:X.N[i]?=some x:=by rfl)(hx:Loc X.env.scope x:=by first|exact Or.inl rfl|exact Or.inr rfl)(hs:swapsWith e (some (.Name x pos')) pos.line X.env=pure false:=by rfl)(hf:X.fn x=true\/X.env.scope.names.lookup x=some .local:=by first|exact .inl rfl|exact .inr rfl|assumption) :
  PS X (.Assign [.Name x pos'] e pos) (tAsg te (QH i)):=PZ hN hi hx he hs hf
section
variable {K:Za}{mg:Str->Option Value}{E:L2.St->XK}{H:Hp}
def isN:D->Bool
 | .non=>true
 |_=>false
def Rp.isN {d:D}{v:V} (h:Rp K H d v):decide (v=V.non)=isN d:=by
 cases h<;>first|rfl|exact Z9 (fun z=>by cases z)
def pIsN(a:PTE):PTE:=fun γ R X=>a γ (fun x=>R (.sh (.bl (isN x.d)))) X
def KZ{te:TE}{a:PTE}(ha:SndE K mg E te a):SndE K mg E (tIsN te) (pIsN a):=by
 intro H0 B H σ γ R X Q env p q qx;refine ha H0 B H σ γ _ X _ env p (fun x v H1 h1 S1 t1=>?_) qx;have rx:=t1.rp (env.grow S1).same;show Q (.bl (decide (v=V.non))) H1;rw[rx.isN];exact q _ _ H1 h1 S1 (.bl _)
end
end Pu
namespace M
open PySem PySem.Spec PyProof.Rows L2 Own Pu
def TN{ns:List Int}{p:Nat}(h1:1<=p)(h2:p<ns.length):∃A x y B,ns=A++x::y::B/\A.length+1=p/\Ug ns p=A++y::x::B/\ns.getD (p-1) 0=x/\ns.getD p 0=y:=by
 have h3:ns.drop (p-1)=ns[p-1]'(by omega)::ns.drop (p-1+1):=ZU (by omega);have h4:ns.drop p=ns[p]::ns.drop (p+1):=ZU h2;have h5:p-1+1=p:=by omega
 rw[h5,h4]at h3;have e1:ns.getD p 0=ns[p]:=by rw[Zw,Zu h2];rfl
 have e2:ns.getD (p-1) 0=ns[p-1]'(by omega):=by rw[Zw,Zu (by omega)];rfl
 refine⟨ns.take (p-1),ns[p-1]'(by omega),ns[p],ns.drop (p+1),by rw[←h3,List.take_append_drop],by rw[Ya];omega,?_,e2,e1⟩;unfold Ug;rw[e1,e2];simp
end M
namespace Pu
open PySem PySem.Spec PyProof.Rows L2 Own
section
variable {X:Cx}{k j:Nat}{x:Str}{ps:List Str}{sp:Sp}{e a b c:Expr}{es:List Expr}{t:TA}{te tf tg:TE}{p pos:Pos}
def fz(C:Callee X.prog X.w X.K X.mg X.base CX0 k x ps sp)(hr:Room j X.A)(ha:PA X (e::es) t)(hk:k<=j:=by decide)(hg:Gl X x:=by rfl)(hdb:(x==("__debug__" : Str))=false:=by decide)(he:starEach (e::es) X.env=(false,eval e X.env)::starEach es X.env:=by rfl)(hpl:(backTo pos (starEach es X.env)).any (·.1)=false:=by rfl) :
  PE X (.Call (.Name x p) (e::es) [] pos) (Vl sp [] E0 t):=Sm C (hr.mono hk) PL ha hg hdb he hpl
def jx(K:Za)(ha:PE X a te)(hb:PE X b tf)(hK:X.K=K:=by rfl)(hs:UQ b:=by intro _ _;rfl):PE X (.Subscript a b pos) (tOp (fun x y H Q=>rIxL K x y H Q\/rIxT K x y H Q) te tf):=Nd (Ks hK) ha hb hs
def gz(i:Nat)(hN:X.N.Nodup)(hi:X.N[i]?=some x:=by rfl)(hx:Loc X.env.scope x:=by first|exact Or.inl rfl|exact Or.inr rfl)(hf:X.fn x=true\/X.env.scope.names.lookup x=some .local:=by first|exact .inl rfl|exact .inr rfl|assumption):PG X (.Name x pos) (QH i):=NG hN hi hx hf
def ln(K:Za)(hm:X.mg "len"=none)(ha:PE X a te)(hK:X.K=K:=by rfl)(hg:Gl X "len":=by rfl)(hs:starEach [a] X.env=(false,eval a X.env)::starEach [] X.env:=by rfl)(hpl:(backTo pos (starEach [] X.env)).any (·.1)=false:=by rfl) :
  PE X (.Call (.Name "len" p) [a] [] pos) (tCB (fun xs H Q=>∃x n,xs=[x]/\LenV K x H n/\Q (.int (n:Nat)) H) (WH te tNil)):=Qm (KP hK) hg hm PySem.boot_len (W3 ha Qg hs) (by decide) (by decide) hs hpl
def cq(K:Za)(hr:Room j X.A)(ha:PE X a te)(hb:PE X b tf)(hK:X.K=K:=by rfl):PT X (.Compare a [.Eq] [b] pos) (Vr (tOp (fun x y H Q=>rEq x y H Q\/rEqL K false x y H Q) te tf)):=Qv (UW hr.units0 hK) ha hb (Qp _)
def cn(K:Za)(hr:Room j X.A)(ha:PE X a te)(hb:PE X b tf)(hK:X.K=K:=by rfl):PT X (.Compare a [.NotEq] [b] pos) (Vr (tOp (fun x y H Q=>rNe x y H Q\/rEqL K true x y H Q) te tf)):=Qv (Nr hr.units0 hK) ha hb (Qp _)
def az(ha:PE X a te)(h1:starEach [a] X.env=(false,eval a X.env)::starEach [] X.env:=by rfl):PA X [a] (WH te tNil):=W3 ha Qg h1
def bz(ha:PE X a te)(hb:PE X b tf)(h1:starEach [a,b] X.env=(false,eval a X.env)::starEach [b] X.env:=by rfl)(h2:starEach [b] X.env=(false,eval b X.env)::starEach [] X.env:=by rfl):PA X [a,b] (WH te (WH tf tNil)):=W3 ha (W3 hb Qg h2) h1
def dz(ha:PE X a te)(hb:PE X b tf)(hc:PE X c tg)(h1:starEach [a,b,c] X.env=(false,eval a X.env)::starEach [b,c] X.env:=by rfl)(h2:starEach [b,c] X.env=(false,eval b X.env)::starEach [c] X.env:=by rfl)(h3:starEach [c] X.env=(false,eval c X.env)::starEach [] X.env:=by rfl):PA X [a,b,c] (WH te (WH tf (WH tg tNil))):=W3 ha (W3 hb (W3 hc Qg h3) h2) h1
end
section
variable {K:Za}{mg:Str->Option Value}{E:L2.St->XK}{ta tb tc:TE}{a b c:PTE}
def sz(ha:SndE K mg E ta a):SndA K mg E (WH ta tNil) (Q8 a pNil):=W6 ha Qx
def tz(ha:SndE K mg E ta a)(hb:SndE K mg E tb b):SndA K mg E (WH ta (WH tb tNil)) (Q8 a (Q8 b pNil)):=W6 ha (sz hb)
def uz(ha:SndE K mg E ta a)(hb:SndE K mg E tb b)(hc:SndE K mg E tc c):SndA K mg E (WH ta (WH tb (WH tc tNil))) (Q8 a (Q8 b (Q8 c pNil))):=W6 ha (tz hb hc)
end
section
variable {K:Za}{h:Heap}{mg:Str->Option Value}{C C':Addr}{x m q:Str}{st:Stmt}{ps:List Str}
abbrev Bd(x q:Str)(st:Stmt)(ps:List Str):Prop:=∀(kV doc pm:Value) (an:Option Addr) (cdv ct:Value) (us:List Value),us.length=ps.length->bindArgs (PySem.W.fnOf x q (Qo st) (Qd st) (Ww st) .none kV doc pm an cdv ct) ⟨us,[]⟩=pure (ps.zip us)
def DI.e (D:DI K x st) (X:K.In h) (G0:h.Ns mainGlobals mg) (b:Bd x x st ps:=by
  intro _ _ _ _ _ _ us hl
  first
   |(obtain⟨_,rfl⟩:=Pu.len1 hl;rfl)
   |(obtain⟨_,_,rfl⟩:=Pu.len2 hl;rfl)
   |(obtain⟨_,_,_,rfl⟩:=Pu.len3 hl;rfl)
   |(obtain⟨_,_,_,_,rfl⟩:=Pu.len4 hl;rfl)
   |(obtain⟨_,_,_,_,_,rfl⟩:=Pu.len5 hl;rfl)):Def K mg x st ps:=D.d X G0 b
end
section
variable {P:Program}{w:World}{K:Za}{mg:Str->Option Value}{base:Heap}{N ps:List Str}{sp:Sp}{p:PTS}{x q:Str}{st:Stmt}{k:Nat}{W:Addr->Prop}
structure Uz (K:Za) (mg:Str->Option Value) (N ps:List Str) (sp:Sp) (p:PTS):Prop where
 len:∀vs H Q E,sp vs H Q E->vs.length=ps.length
 run:∀vs H Q E t,sp vs H Q E->SndS K mg (fun _=>E) t p->t {nx:=fun _ H'=>Q .non H',rt:=Q} (start N vs) H
def Uz.a {c:Pc} (hp:∀ds R X,c ds R X->ds.length=ps.length/\p {nx:=fun _=>R (.sh .non),rt:=R,ex:=fun _ e=>X e} (Qb N ds)) (hn:ps.length<=N.length:=by decide):Uz K mg N ps (spOf mg c K) p:=
 ⟨fun _ _ _ _ h=>N0 h fun ds R X z=>(hp ds R X z).1,fun _ _ _ _ _ h s=>NJ h s hn hp⟩
def _root_.Own.Def.oz (D:Def K mg x st ps) (S:FnScope N ps (Ww st))
  (tr:∀(f:Addr) (cdv:Value) (A:Around) (outer:List Env) (s:Shared) (H:Hp) (E:XK),Room k (A.deeper (envOfC x (Ww st) s.heap.objs.size f cdv))->
   ∃t,PSs (cxOf CX0 P w K mg base N x (Ww st) f cdv A outer s H E).nox (Qd st) t/\SndS K mg (fun _=>E) t p) (u:Uz K mg N ps sp p):Callee P w K mg base CX0 (k+1) x ps sp:=
 D.ok S u.len fun f cdv A outer s H vs Q E hr h=>(tr f cdv A outer s H E hr).elim fun t z=>⟨t,z.1,u.run _ _ _ _ _ h z.2⟩
end
section
variable {K:Za}{h:Heap}{mg:Str->Option Value}{x:Str}{C:Addr}
structure EI (K:Za) (x:Str) (C:Addr):Prop where
 a:PySem.W.nsIn K mainGlobals x=some (some (.ref C))
 g:ExcR.ErrGet K C
def ei{d:ClassData}(a:PySem.W.nsIn K mainGlobals x=some (some (.ref C)))(q:PySem.W.excIn K C [.type "ValueError",.type "Exception",.type "BaseException",.type "object"] "ValueError.__new__"=true)(ga:PySem.W.findIn K (.ref C) "__getattribute__"=some (some (.builtin "BaseException.__getattribute__")))(gt:PySem.W.findIn K (.ref C) "__getattr__"=some none)(cl:PySem.W.findIn K (.ref C) "__class__"=some (some (.builtin "object.__class__")))(i:PySem.W.clsIn K C=some d):EI K x C:=⟨a,⟨⟨q⟩,ga,gt,cl,by rw[i];rfl⟩⟩
end
end Pu
namespace PySem
open Sem (wp)
structure IPairs (es:List DictEntry) (kvs:List (Value×Value)):Prop where
 length:es.length=kvs.length
 get?:∀{i:Nat} {e:DictEntry} {k v:Value},es[i]?=some e->kvs[i]?=some (k,v)->e.key=k/\e.val=v
def Vb(h:Heap)(a:Addr)(kvs:List (Value×Value))(ep:Nat):Prop:=
 ∃o es,h.get? a=some o/\o.ExactDict/\o.data=.dict es ep/\True/\IPairs es.toList kvs/\True
section
variable {prog:Program}{w:World}{A:Around}{E:Value->Shared->Prop}{s:Shared}
def SJ(d:Addr)(hd:(d==sysModules)=false) :
  MeetsIn prog w (Builtin.«dict.items» ⟨[.ref d],[]⟩) (fun _ R s=>s.TypeIs (.ref d) "dict"/\
   R (.ok (.ret (.ref s.heap.objs.size))) {s with heap:=s.heap.push {cls:=.type "dict_items",data:=.fields #[.ref d]}}):=
 .of_wp fun A R s ⟨hm,h⟩=>by
  unfold Builtin.«dict.items»;refine Zs ?_;unfold Builtin.Dict.noArgs;refine Zs (wpAny_notOrdered_dict hm ?_);show wpAny _ _ (pure d) _ _ s;refine Zv ?_;show wpAny _ _ (Builtin.Dict.showsAll d >>= _) _ _ s;unfold Builtin.Dict.showsAll;rw[Z6 (by rw[hd];exact Zy)];refine Zs (Zv ?_);exact Zs (ZJ (Zv ⟨_,rfl,h⟩))
def Nb{v d:Addr}{kvs:List (Value×Value)}{ep:Nat}{Q:Value->Shared->Prop}(hv:s.heap.IsItemsView v d)(hm:Vb s.heap d kvs ep)(hQ:Q (.ref s.heap.objs.size) {s with heap:=s.heap.push {cls:=.type "dict_itemiterator",data:=.fields #[.none,.bool false,.ref d,.int 0 0,.int kvs.length 0,.int ep 0,.none,.none]}}) :
  wpAny (model prog w) A (pyIter (.ref v)) Q E s:=by
 obtain⟨ov,hov,hcv,hdv⟩:=id hv;obtain⟨o,es,ho,hc,hdat,hk,hp,hn⟩:=id hm;refine wpAny_pyIter_slot hv.typeIs F.slot_dict_items_iter (Y1 F.slot_dict_items_iter hv.typeIs F.entry_dict_items_iter ?_ (F.args_dict_items_iter_1 _));unfold Builtin.«dict_items.__iter__»;refine Zs (Zv ?_);refine Zs ?_;unfold Builtin.Dict_items.dictOf;refine Zs (Y3 hov hdv (x:=.ref d) rfl (Zv ?_));refine Zs ?_;unfold Builtin.Dict_items.newIterator;refine Zs (wpAny_dictEntries ho hdat ?_);refine Zs (wpAny_dictEpoch ho hdat ?_);have hsz:es.size=kvs.length:=by rw[←hp.length];simp
 have hown:Builtin.Dict_items.ownsTuple "dict_itemiterator"=true:=by decide
 simp only[hown,if_true]
 refine ZJ (Zv ⟨_,rfl, "dict_itemiterator",_,⟨_,Z2 _ rfl,rfl⟩,F.slot_dict_itemiterator_next.lookup,?_⟩)
  (by simp only[sizeOk,Builtin.Dict_items.ownedTupleFields,Zz,ZF,ZK,List.length_nil,sizeLine_eq];omega)
 simpa [rawInt,hsz,Builtin.Dict_items.ownedTupleFields]using hQ
def Kq{it d:Addr}{i ep:Nat}{kvs:List (Value×Value)}{k:Value}{v ok ov:Value}{Q:Option Value->Shared->Prop}(hit:IsItemIter s.heap it d i kvs.length ep ok ov)(hm:Vb s.heap d kvs ep)(hx:kvs[i]?=some (k,v))
  (hQ:∀key h',key=k->IsItemIterOut h' it d (i+1) kvs.length ep key v s.heap.objs.size->
   h'.get? s.heap.objs.size=some {cls:=.type "tuple",data:=.seq #[key,v]}->h'.objs.size=s.heap.objs.size+1->
   (∀b o,b≠it->s.heap.get? b=some o->h'.get? b=some o)->Q (some (.ref s.heap.objs.size)) {s with heap:=h'}) :
  wpAny (model prog w) A (pyNext (.ref it)) Q E s:=by
 obtain⟨hp,g,dr,tk,os⟩:=s;obtain⟨od,es,hod,hcd,hdd,hk,hpr,hn⟩:=id hm;have hT:Shared.TypeIs ⟨hp,g,dr,tk,os⟩ (.ref it) "dict_itemiterator":=⟨_,hit,rfl⟩;unfold pyNext
 refine Zs (wpAny_attempt (YC (name:=Str.ofString "__next__") hT Yd
  (Y1 Yd hT F.entry_dict_itemiterator_next ?_ (F.args_dict_itemiterator_next_1 _))))
 refine Zs (Zv ?_);refine Zs ?_;refine Zs ?_
 first|refine Zs (Yb hT (Zv ?_))|refine Zs (Yj hT (Zv ?_))
 refine Zs (wpAny_fieldsOf hit rfl ?_);have hown:Builtin.Dict_items.ownsTuple "dict_itemiterator"=true:=by decide
 simp only[hown,if_true];show wpAny _ _ (if (Value.ref d==Value.none)=true then _ else _) _ _ _;rw[Z6 (show ¬((Value.ref d==Value.none)=true)from Zy)]
 refine Zs (Zv ?_);refine Zs (wpAny_dictEntries hod hdd ?_);have hsz:es.size=kvs.length:=by rw[←hpr.length];simp
 rw[Z6 (by rw[hsz];simp)];refine Zs (Zv ?_);refine Zs (wpAny_dictEpoch hod hdd ?_);rw[Z6 (by simp)];refine Zv ?_
 have hlt:i<kvs.length:=by
  rcases Nat.lt_or_ge i kvs.length with h|h
  ·exact h
  ·simp[List.getElem?_eq_none h]at hx
 have hlt':i<es.size:=by rw[hsz];exact hlt
 obtain⟨hkey,hval⟩:=hpr.get? (e:=es[i]) (by simp[hlt']) hx;simp only[show ¬((i:Int)<0)from by omega,if_false,ZW,Array.getElem?_eq_getElem hlt']
 refine Zs ?_
 first|refine Zs (Yb hT (Zv ?_))|refine Zs (Yj hT (Zv ?_))
 refine Zs (YJ hT ?_);show wpAny _ _ (setField (.ref it) 3 (rawInt ((i:Int)+1)) >>= _) _ _ ⟨hp,g,dr,tk,os⟩;refine Zs (Yv hit (by simp) fun h₁ he₁ hs₁=>?_)
 replace hs₁:Heap.SameBut it hp h₁:=hs₁
 replace he₁:IsItemIter h₁ it d (i+1) kvs.length ep ok ov:=by
  have e:((i+1:Nat):Int)=(i:Int)+1:=by omega
  unfold IsItemIter;rw[e];simpa [rawInt]using he₁
 have hT₁:Shared.TypeIs ⟨h₁,g,dr,tk,os⟩ (.ref it) "dict_itemiterator":=⟨_,he₁,rfl⟩;refine Zs (wpAny_holding ?_);refine Zs (YJ hT₁ ?_);refine Zs (YJ hT₁ ?_);show wpAny _ _ (Builtin.Dict_items.pairFromOwner (.ref it) 6 es[i].key es[i].val) _ _ ⟨h₁,g,dr,tk,os⟩;unfold Builtin.Dict_items.pairFromOwner;refine Zs (wpAny_newTuple ?_);have he₂:IsItemIter (h₁.push {cls:=.type "tuple",data:=.seq #[es[i].key,es[i].val]}) it d (i+1) kvs.length ep ok ov:=Zx _ he₁;generalize hh₂:h₁.push {cls:=.type "tuple",data:=.seq #[es[i].key,es[i].val]}=h₂ at he₂;have hz₁:h₁.objs.size=hp.objs.size:=hs₁.1;have hil:it<hp.objs.size:=Z1 hit;have ht₂:h₂.get? hp.objs.size=some {cls:=.type "tuple",data:=.seq #[es[i].key,es[i].val]}:=by rw[←hh₂,←hz₁];exact Z2 _ rfl
 have hz₂:h₂.objs.size=hp.objs.size+1:=by rw[←hh₂,Heap.size_push,hz₁]
 have hk₂:∀b o,b≠it->hp.get? b=some o->h₂.get? b=some o:=fun b o hb e=>by rw[←hh₂];exact Zx _ (hs₁.extBut b o hb e)
 show wpAny _ _ (Builtin.Dict_items.ownedTupleIsFree (.ref it) >>= _) _ _ ⟨h₂,g,dr,tk,os⟩;rw[hz₁];clear hh₂ he₁ hs₁ hT₁ hz₁ h₁;refine Zs ?_;unfold Builtin.Dict_items.ownedTupleIsFree;refine Zs (Y3 he₂ rfl (x:=.none) rfl (Zv ?_));simp only[if_true];refine Zs (Y3 he₂ rfl (x:=ok) rfl ?_);refine Zs (Y3 he₂ rfl (x:=ov) rfl ?_);refine Zs (Yv he₂ (by simp) fun h₃ he₃ hs₃=>?_)
 replace hs₃:Heap.SameBut it h₂ h₃:=hs₃
 replace he₃:IsItemIter h₃ it d (i+1) kvs.length ep es[i].key ov:=he₃
 refine Zs (Yv he₃ (by simp) fun h₄ he₄ hs₄=>?_)
 replace hs₄:Heap.SameBut it h₃ h₄:=hs₄
 replace he₄:IsItemIter h₄ it d (i+1) kvs.length ep es[i].key es[i].val:=he₄
 refine Zs (Yv he₄ (by simp) fun h₅ he₅ hs₅=>?_)
 replace hs₅:Heap.SameBut it h₄ h₅:=hs₅
 replace he₅:IsItemIterOut h₅ it d (i+1) kvs.length ep es[i].key es[i].val hp.objs.size:=he₅
 refine Zs (Yv he₅ (by simp) fun h₆ he₆ hs₆=>?_)
 replace hs₆:Heap.SameBut it h₅ h₆:=hs₆
 replace he₆:IsItemIterOut h₆ it d (i+1) kvs.length ep es[i].key es[i].val hp.objs.size:=he₆
 refine Zs (wpAny_letGo (Zv (Zv ⟨_,rfl,Zv (hQ es[i].key h₆ hkey (hval▸he₆) ?_ ?_ ?_)⟩)))
 ·rw[←hval];exact hs₆.extBut _ _ (Y9 hil) (hs₅.extBut _ _ (Y9 hil) (hs₄.extBut _ _ (Y9 hil) (hs₃.extBut _ _ (Y9 hil) ht₂)))
 ·show h₆.objs.size=hp.objs.size+1;rw[hs₆.1,hs₅.1,hs₄.1,hs₃.1,hz₂]
 ·exact fun b o hb e=>hs₆.extBut b o hb (hs₅.extBut b o hb (hs₄.extBut b o hb (hs₃.extBut b o hb (hk₂ b o hb e))))
def KD{it d:Addr}{i ep:Nat}{kvs:List (Value×Value)}{ok ov:Value}{Q:Option Value->Shared->Prop}(hh:A.handled=none)(hit:IsItemIter s.heap it d i kvs.length ep ok ov)(hm:Vb s.heap d kvs ep)(hx:kvs[i]?=none)(hQ:∀h',Heap.ExtBut it s.heap h'->Q none {s with heap:=h'}):wpAny (model prog w) A (pyNext (.ref it)) Q E s:=by
 obtain⟨od,es,hod,hcd,hdd,hk,hpr,hn⟩:=id hm;have hT:s.TypeIs (.ref it) "dict_itemiterator":=⟨_,hit,rfl⟩;unfold pyNext
 refine Zs (wpAny_attempt (YC (name:=Str.ofString "__next__") hT Yd
  (Y1 Yd hT F.entry_dict_itemiterator_next ?_ (F.args_dict_itemiterator_next_1 _))))
 refine Zs (Zv ?_);refine Zs ?_;refine Zs ?_
 first|refine Zs (Yb hT (Zv ?_))|refine Zs (Yj hT (Zv ?_))
 refine Zs (wpAny_fieldsOf hit rfl ?_);have hown:Builtin.Dict_items.ownsTuple "dict_itemiterator"=true:=by decide
 simp only[hown,if_true];show wpAny _ _ (if (Value.ref d==Value.none)=true then _ else _) _ _ s;rw[Z6 (show ¬((Value.ref d==Value.none)=true)from Zy)]
 refine Zs (Zv ?_);refine Zs (wpAny_dictEntries hod hdd ?_);have hsz:es.size=kvs.length:=by rw[←hpr.length];simp
 rw[Z6 (by rw[hsz];simp)];refine Zs (Zv ?_);refine Zs (wpAny_dictEpoch hod hdd ?_);rw[Z6 (by simp)];refine Zv ?_;have hge:es.size<=i:=by rw[hsz];simpa using hx
 simp only[show ¬((i:Int)<0)from by omega,if_false,ZW,Array.getElem?_eq_none hge]
 refine Zs ?_
 first|refine Zs (Yb hT (Zv ?_))|refine Zs (Yj hT (Zv ?_))
 show wpAny _ _ (setField (.ref it) 2 .none >>= _) _ _ s;refine Zs (wpAny_setField hit rfl (by simp) ?_);show wpAny _ _ (newExc (.type "StopIteration") [] >>= _) _ _ _;refine Zs ?_;simp only[newExc,newTuple];refine Zs (ZJ ?_ (by size_fits));refine Zs (m:=firstArgMember _ _) (wpAny_of_eq (a:=Value.none) (by first|rfl|(simp only[firstArgMember];rfl)) ?_)
 refine ZJ ?_ (by size_fits);simp only[raiseNew];refine Zs (wpAny_handled ?_);rw[show A.in1.handled=none from hh]
 refine Zs (Zv (wpAny_throw ?_));refine Zs (wpAny_isInstance (T:="StopIteration") (b:=true) ⟨_,Z2 _ rfl,rfl⟩ isSubtype_stop ?_);exact Zv (hQ _ (((Heap.SameBut.update ..).extBut.push _).push _))
end
end PySem
namespace Own
open PySem PySem.Spec PyProof.Rows L2
section
variable {X:Cx}
def NY{pins:List (Addr×Obj)}{s:Shared}{σ:L2.St}{H:Hp}{l:Addr}{kvs:List (List Key×V)}(I:Inv X pins σ H s)(h:H l=some (.dT kvs)):∃o,Inv X pins σ (upd H l (.frz o (.dT kvs))) s:=by
 obtain⟨z,y,xs,r,o,es,ep,h1,h2,h3,h4,h5⟩:=(show ObjOk X.prog X.w H s.heap l (.dT kvs)from I.hok l _ h)
 have tn:∀b ys,H b=some (.tup ys)->(upd H l (.frz o (.dT kvs))) b=some (.tup ys):=fun b ys e=>by rw[Wz (Ub e h (fun z=>nomatch z))];exact e
 exact⟨o,Jt (t':=s.toks) (h':=s.heap) (ob:=.frz o (.dT kvs)) I (by rw[h];trivial) ⟨rfl,fun _ _=>rfl⟩ ⟨o,h1⟩ ⟨h1,z,y,xs,Paired.mapP r fun p q w=>⟨w.1,tn _ _ w.2.1,w.2.2⟩,o,es,ep,h1,h2,h3,h4,h5⟩⟩
def JE(i:Nat):TS:=fun D σ H=>∃l kvs,σ[i]?=some (some (.ref l))/\H l=some (.dT kvs)/\∀o,D.rt (.ref l) (upd H l (.frz o (.dT kvs)))
def N1{e:Expr}{pos:Pos}{i:Nat}(he:PE X e (tVar i)):PS X (.Return (some e) pos) (JE i):=by
 intro pins s σ H D I h;obtain⟨l,kvs,hl,hd,h⟩:=h;refine wpAny_Return_some (thn (he pins s σ H (fun x H1=>x=.ref l/\H1=H) I ⟨_,hl,rfl,rfl⟩) fun v s1 ⟨x,H1,I1,r1,q1⟩=>?_);obtain⟨rfl,rfl⟩:=q1;obtain⟨o,I2⟩:=NY I1 hd;exact⟨.ref l,σ,_,I2,r1,h o⟩
def U5{α β:Type}{F:α->β->Prop}:∀{l₁:List α}{l₂:List β}{i:Nat}{a:α},Paired F l₁ l₂->l₁[i]?=some a->∃b,l₂[i]?=some b/\F a b
 |_,_,_,_,.nil,e=>by simp at e
 |_,_,0,_,.cons h _,e=>by simp at e;subst e;exact⟨_,rfl,h⟩
 |_,_,i+1,a,.cons _ r,e=>by
  obtain⟨b,h1,h2⟩:=U5 (i:=i) (a:=a) r (by simpa using e);exact⟨b,by simpa using h1,h2⟩
def Iti(d:Addr)(o:Obj)(kvs:List (List Key×V)):It:=
 ⟨fun i H=>H d=some (.frz o (.dT kvs))/\i<kvs.length,fun i H x H'=>∃T b ks v,H T=none/\kvs[i]?=some (ks,v)/\H b=some (.tup (ks.map kV))/\x=.ref T/\H'=upd H T (.tup [.ref b,v]),fun i H=>H d=some (.frz o (.dT kvs))/\kvs.length<=i⟩
def VZ{P:Program}{w:World}{H:Hp}{h:Heap}{d:Addr}{o:Obj}{kvs:List (List Key×V)}{es:Array DictEntry}{ep:Nat}(ok:HOk P w H h)(hd:H d=some (.frz o (.dT kvs)))(ho:o.data=.dict es ep) :
  h.get? d=some o/\o.ExactDict/\∃xs:List (List Key×Addr×Value),xs.length=kvs.length/\(∀(i:Nat) p,kvs[i]?=some p->∃x,xs[i]?=some x/\H x.2.1=some (.tup (p.1.map kV))/\RelV p.2 x.2.2)/\Vb h d (xs.map fun x=>(Value.ref x.2.1,x.2.2)) ep:=by
 obtain⟨hget,z,y,xs,r,o',es',ep',e1,e2,e3,e4,e5⟩:=(show ObjOk P w H h d (.frz o (.dT kvs))from ok d _ hd)
 obtain rfl:o'=o:=Z0 (e1.symm.trans hget);rw[ho]at e3;cases e3
 refine⟨hget,e2,xs,(Paired.length r).symm,fun i p hp=>?_,o',es,hget,e2,ho,trivial,⟨by rw[e4,Zt,Zt],fun {i e k v} h1 h2=>?_⟩,trivial⟩
 ·obtain⟨x,q1,q2⟩:=U5 r hp;exact⟨x,q1,q2.2.1,q2.2.2⟩
 ·rw[e4,Z5]at h1;rw[Z5]at h2;cases hi:xs[i]? with
  |none=>rw[hi]at h1;cases h1
  |some x=>
   rw[hi]at h1 h2;cases h1
   cases h2
   exact⟨rfl,rfl⟩
def Pb{P:Program}{w:World}{K:Za}{elts:List Expr}{k1:Nat}{tp:Pos}(d it:Addr)(o:Obj)(kvs:List (List Key×V))(es:Array DictEntry)(ep:Nat)(ho:o.data=.dict es ep) :
  Turn P w K (.Tuple elts k1 tp) (Iti d o kvs) [it] it (fun i h=>∃ok ov,IsItemIter h it d i kvs.length ep ok ov) where
 mem:=by simp
 obj:=fun i h st b hb=>by
  obtain⟨ok,ov,h1⟩:=st;rw[ZG.mp hb];exact⟨_,h1,fun v z=>by cases z⟩
 keep:=fun i h h' st k=>by
  obtain⟨ok,ov,h1⟩:=st;exact⟨ok,ov,k it (by simp) _ h1⟩
 item:=by
  intro X hP hw hK hc i pins s σ H E I hf st hg;subst hP hw hK;obtain⟨ok,ov,hit⟩:=st;obtain⟨hd,hi⟩:=hg;obtain⟨hget,hx,xs,lx,hxs,hid⟩:=VZ I.hok hd ho;obtain⟨x,q1,q2,q3⟩:=hxs i kvs[i] (Zu hi);obtain⟨a0,a1,a2,a3,a4,a5⟩:=hf it (by simp);have hfr:H s.heap.objs.size=none:=I.hok.fresh (Z3 _);have hiL:it<s.heap.objs.size:=Z1 hit;have ll:(xs.map fun x=>(Value.ref x.2.1,x.2.2)).length=kvs.length:=by rw[Zt,lx]
  have hit':IsItemIter s.heap it d i (xs.map fun x=>(Value.ref x.2.1,x.2.2)).length ep ok ov:=by rw[ll];exact hit
  refine Kq (k:=Value.ref x.2.1) (v:=x.2.2) hit' hid (by rw[Z5,q1];rfl) fun key h1 ek he ht hz k1=>⟨_,rfl,?_⟩;subst ek;refine wpAny_letOwnedTupleGo_items he fun h2 e2 sb2=>?_;have keep2:∀b o,b∉[it]->s.heap.get? b=some o->h2.get? b=some o:=fun b o hb q=>sb2.extBut b o (fun z=>hb (by simp[z])) (k1 b o (fun z=>hb (by simp[z])) q);have hT2:h2.get? s.heap.objs.size=some {cls:=.type "tuple",data:=.seq #[.ref x.2.1,x.2.2]}:=sb2.extBut _ _ (Y9 hiL) ht;have n0:∀b,b∈[it]->H b=none:=fun b hb=>by rw[ZG.mp hb];exact a0
  have un:Un (frs X.stack) [it] H (upd H s.heap.objs.size (.tup [.ref x.2.1,kvs[i].2])) s.heap h2:=by
   refine⟨fun b o q _ _ hx'=>keep2 b o hx' q,fun b o q _ _ hx'=>⟨o.slots,keep2 b o hx' q⟩,fun b o q n _=>by rw[Wz (ZI (Z1 q))];exact n,fun b o q hx'=>⟨o,keep2 b o hx' q⟩,
    fun b ys q=>by rw[Wz (WO q hfr)];exact q,fun b o ys q=>by rw[Wz (WO q hfr)];exact q,fun b ps q=>⟨#[],by rw[Wz (WO q hfr),q];simp⟩⟩
  have ok2:HOk X.prog X.w (upd H s.heap.objs.size (.tup [.ref x.2.1,kvs[i].2])) h2:=fun b o q=>by
   by_cases hb:b=s.heap.objs.size
   ·subst hb;rw[WL]at q;cases q
    exact⟨by show 2<=sizeLine;decide,[.ref x.2.1,x.2.2],.cons rfl (.cons q3 .nil),_,hT2,rfl,_,rfl⟩
   ·rw[Wz hb]at q;refine(I.hok b o q).stay (fun c v hc' r=>keep2 c v (fun z=>?_) r) (fun c r=>by rw[Wz (WO r hfr)];exact r) fun c ys r=>by rw[Wz (WO r hfr)];exact r
    have hcn:=n0 c z;rcases hc' with rfl|hc'
    ·rw[hcn]at q;cases q
    ·rw[hcn]at hc';cases hc'
  have I2:Inv X pins σ (upd H s.heap.objs.size (.tup [.ref x.2.1,kvs[i].2])) {s with heap:=h2}:=I.call (ch:=[it]) (h':=h2) (g':=s.gens) (d':=s.drawn) (t':=s.toks) un ok2 I.bare fun b hb=>by
   rw[ZG.mp hb];exact⟨a3,a1,a4,a5⟩
  refine⟨.ref s.heap.objs.size,_,I2,rfl,⟨_,x.2.1,kvs[i].1,kvs[i].2,hfr,Zu hi,q2,rfl,rfl⟩,⟨_,_,by rw[ll]at e2;exact e2⟩,fun b hb=>?_⟩;rw[Wz]
  ·exact n0 b hb
  ·rw[ZG.mp hb];exact ZI hiL
 done:=by
  intro X hP hw hK hc i pins s σ H E I hf st hg;subst hP hw hK;obtain⟨ok,ov,hit⟩:=st;obtain⟨hd,hi⟩:=hg;obtain⟨hget,hx,xs,lx,hxs,hid⟩:=VZ I.hok hd ho;obtain⟨b0,b1,b2,b3,b4,b5⟩:=hf it (by simp);have ll:(xs.map fun x=>(Value.ref x.2.1,x.2.2)).length=kvs.length:=by rw[Zt,lx]
  have hit':IsItemIter s.heap it d i (xs.map fun x=>(Value.ref x.2.1,x.2.2)).length ep ok ov:=by rw[ll];exact hit
  refine KD (I.ok.hd hc) hit' hid (List.getElem?_eq_none (by rw[ll];exact hi)) fun h' eb=>⟨rfl,?_⟩;exact I.turned (it:=it) (t':=s.toks) (fun b o hb q=>eb b o hb q) b0 b1 b3 b4 b5
 self:=by
  intro A i s Q E st q;obtain⟨ok,ov,hit⟩:=st;exact PySem.W.kcp_self hit q
def XT(te:TE):TI:=fun σ H R=>te σ H fun x H1=>∃d o kvs,x=.ref d/\H1 d=some (.frz o (.dT kvs))/\R (Iti d o kvs) H1
def Sg{elts:List Expr}{k1:Nat}{tp:Pos}{o:Expr}{to:TE}{name:Str}{apos cpos:Pos}(ho:PE X o to)(hn:name = "items":=by rfl)(hbase:attributeBase o name X.env (eval o X.env)=eval o X.env:=by rfl)(hline:(apos.endLine==cpos.line)=true:=by rfl):PI X (.Tuple elts k1 tp) (.Call (.Attribute o name apos) [] [] cpos) (XT to):=by
 subst hn;intro pins s σ H R I h;refine wpAny_Call_method (T:="dict") (id:="dict.items") hbase rfl hline PySem.F.plainAttrs_dict PySem.F.slot_dict_items PySem.F.type_dict_items (thn (ho pins s σ H _ I h) fun v s1 ⟨x,H1,I1,r1,q1⟩=>?_);obtain⟨d,ob,kvs,rfl,hd,q⟩:=q1;obtain rfl:v=Value.ref d:=r1;obtain⟨_,z0,y0,_,_,o',es,ep,e1,_,ho,_,_⟩:=(show ObjOk X.prog X.w H1 s1.heap d (.frz ob (.dT kvs))from I1.hok d _ hd)
 obtain⟨hget,hx,xs,lx,hxs,hid⟩:=VZ (es:=es) (ep:=ep) I1.hok hd (by
  obtain⟨g,_⟩:=(show ObjOk X.prog X.w H1 s1.heap d (.frz ob (.dT kvs))from I1.hok d _ hd)
  rw[g]at e1;cases e1
  exact ho)
 have hob:ob.data=.dict es ep:=by
  rw[hget]at e1;cases e1
  exact ho
 have hT:s1.TypeIs (.ref d) "dict":=⟨ob,hget,hx.1⟩;have ll:(xs.map fun x=>(Value.ref x.2.1,x.2.2)).length=kvs.length:=by rw[Zt,lx]
 refine⟨hT,fun b e=>by cases e;exact⟨ob,hget,hx.2.1⟩,?_⟩;show wpAny _ _ (callWith cpos (.builtin "dict.items") [.ref d] [] []) _ _ s1;refine method_meetsIn PySem.F.slot_dict_items PySem.F.entry_dict_items rfl (PySem.evalArgs_none ⟨rfl,hT,PySem.F.args_dict_items_1 _,_,SJ d y0,hT,?_⟩)
 have hid2:Vb (s1.heap.push {cls:=.type "dict_items",data:=.fields #[.ref d]}) d (xs.map fun x=>(Value.ref x.2.1,x.2.2)) ep:=by
  obtain⟨a,b,c1,c2⟩:=hid;exact⟨a,b,Zx _ c1,c2⟩
 refine Nb (v:=s1.heap.objs.size) (d:=d) (kvs:=xs.map fun x=>(Value.ref x.2.1,x.2.2)) (ep:=ep) ⟨_,Z2 _ rfl,rfl,rfl⟩ hid2 ?_;have I2:=I1.kept (t':=s1.toks) (h':=(s1.heap.push {cls:=.type "dict_items",data:=.fields #[.ref d]}).push {cls:=.type "dict_itemiterator",data:=.fields #[.none,.bool false,.ref d,.int 0 0,.int (xs.map fun x=>(Value.ref x.2.1,x.2.2)).length 0,.int ep 0,.none,.none]}) fun b o e=>Zx _ (Zx _ e);have hsz:(s1.heap.push {cls:=.type "dict_items",data:=.fields #[.ref d]}).objs.size=s1.heap.objs.size+1:=Heap.size_push ..;refine⟨_,[_],_,_,H1,rfl,I2,Pb d _ ob kvs es ep hob,⟨.none,.none,?_⟩,fun b hb=>?_,q⟩
 ·rw[←ll];exact Z2 _ rfl
 ·rw[ZG.mp hb];show FpOk X pins H1 (s1.heap.push {cls:=.type "dict_items",data:=.fields #[.ref d]}).objs.size;rw[hsz];exact I1.fpOk (Nat.le_succ _) (I1.hok.fresh (Nat.le_succ _))
end
set_option maxRecDepth 100000
section
variable {prog:Program}{w:World}{A:Around}{s:Shared}{E:Value->Shared->Prop}
def KR{r:Addr}{a b:Int}{t u v:Tok}{n:Nat}{Q:List Value->Shared->Prop}(hh:A.handled=none)(hr:IsRange s.heap r a b 1 t u v)(hsmall:Builtin.Range.small a b 1=true)(hn:Builtin.Range.rangeSize a b 1=n)(hlen:n<=2 ^ 24)(hQ:∀(h':Heap) (tk:Nat) (acc:Array Value),(∀b o,s.heap.get? b=some o->h'.get? b=some o)->ItemsOf (fun i v=>∃t,v=.int (a+i*1) t) acc n->Q acc.toList {s with heap:=h',toks:=tk}):wpAny (model prog w) A (collect (.ref r)) Q E s:=by
 unfold collect;refine Zs (wpAny_runValue (Y8 PySem.F.entry_proto_collect ?_));rw[YU PySem.F.plain_proto_collect _];show wpAny _ A.in1 (newList [] >>= fun l=>again (.builtin "list.__iadd__" ⟨[l,.ref r],[]⟩)) _ _ s;refine Zs (ZJ ?_);refine Zv ⟨plainId_quiet PySem.F.plain_list_iadd _,Y8 PySem.F.entry_list_iadd ?_⟩;rw[YU PySem.F.plain_list_iadd _];show wpAny _ A.in1 (Builtin.List.listExtendWith (.ref s.heap.objs.size) (.ref r) (.ref s.heap.objs.size)) _ _ _;have hS:(s.heap.push {cls:=.type "list",data:=.seq ([]:List Value).toArray}).get? s.heap.objs.size=some {cls:=.type "list",data:=.seq #[] 0}:=Z2 _ rfl
 have fin':∀h' tk (acc:Array Value) c',(∀b o,b≠s.heap.objs.size->(s.heap.push {cls:=.type "list",data:=.seq ([]:List Value).toArray}).get? b=some o->h'.get? b=some o)->h'.get? s.heap.objs.size=some {cls:=.type "list",dict:=none,data:=.seq acc c',slots:=#[]}->ItemsOf (fun i v=>∃t,v=.int (a+i*1) t) acc n->
   wpAny (model prog w) A (match Value.ref s.heap.objs.size with
   |Value.ref a=>do
    match (←load a).data with
     |Data.seq xs _=>pure xs.toList
     |_=>unsupported "internal:collect"
   |_=>unsupported "internal:collect") Q E {s with heap:=h',toks:=tk}:=fun h' tk acc c' hk hL hI=>by
  show wpAny _ A (load s.heap.objs.size >>= _) _ _ _;refine Zs (wpAny_load hL ?_);refine Zv ?_;exact hQ h' tk acc (fun b o' hb=>hk b o' (ZI (Z1 hb)) (Zx _ hb)) hI
 refine ZV (wpAny_extend_range (A:=A) (R:=fun r' s'=>r'=.ok (.ret (.ref s.heap.objs.size))/\∃h' tk acc c',s'={s with heap:=h',toks:=tk}/\(∀b o,b≠s.heap.objs.size->(s.heap.push {cls:=.type "list",data:=.seq ([]:List Value).toArray}).get? b=some o->h'.get? b=some o)/\h'.get? s.heap.objs.size=some {cls:=.type "list",dict:=none,data:=.seq acc c',slots:=#[]}/\ItemsOf (fun i v=>∃t,v=.int (a+i*1) t) acc n)
  (s:={s with heap:=s.heap.push {cls:=.type "list",data:=.seq ([]:List Value).toArray}}) hh (Zx _ hr) hsmall hn hlen _ _ 0 hS fun h' tk acc c' h1 h2 h3=>⟨rfl,h',tk,acc,c',rfl,h1,h2,h3⟩) (fun fin s' h=>?_) (fun e s' h=>?_)
 ·cases fin with
  |done f=>
   obtain⟨e,h',tk,acc,c',rfl,h1,h2,h3⟩:=h;cases e
   exact fin' h' tk acc c' h1 h2 h3
  |again c'=>exact⟨h.1,codeAny_mono h.2 fun r s'' hr=>by obtain⟨rfl,h',tk,acc,c',rfl,h1,h2,h3⟩:=hr;exact fin' h' tk acc c' h1 h2 h3⟩
 ·exact absurd h.1 (by simp)
def T4{r:Addr}{a b:Int}{t u v:Tok}{n:Nat}{Q₁:Value->Shared->Prop}(hh:A.handled=none)(hr:IsRange s.heap r a b 1 t u v)(hsmall:Builtin.Range.small a b 1=true)(hn:Builtin.Range.rangeSize a b 1=n)(hlen:n<=2 ^ 24)(h:∀(h':Heap) (tk:Nat) (acc:Array Value),(∀b o,s.heap.get? b=some o->h'.get? b=some o)->ItemsOf (fun i v=>∃t,v=.int (a+i*1) t) acc n->Q₁ (.ref h'.objs.size) {s with heap:=h'.push {cls:=.type "tuple",data:=.seq acc},toks:=tk}) :
  codeAny (model prog w) A (.call (.builtin "tuple.__new__") ⟨[.type "tuple",.ref r],[]⟩) (wants Q₁ E) s:=by
 refine codeAny_of_tree ?_;show wpAny _ A.in1 (do checkBuiltinCall "tuple.__new__" ⟨[.type "tuple",.ref r],[]⟩;again (.builtin "tuple.__new__" ⟨[.type "tuple",.ref r],[]⟩)) _ _ s
 refine Zs (wpAny_of_eq (PySem.F.newCall_tuple_1 _) (Zv ⟨plainId_quiet (by decide +kernel) _,Y8 PySem.F.entry_tuple_new ?_⟩));rw[YU (by decide +kernel) _];have hsub:=sub_tuple_self;have hinit:=init_tuple_lookup;have hmh:=madeHere_tuple;have hTI:s.TypeIs (.ref r) "range":=⟨_,hr,rfl⟩
 wp_walk using wpAny_typeOf hTI,KR (by exact hh) hr hsmall hn hlen
 intro h' tk acc hk hacc;show wpAny _ _ (Builtin.Tuple.tupleExact acc.toList.toArray >>= fun v=>ret v) _ _ _;unfold Builtin.Tuple.tupleExact;refine Zs (ZJ ?_ (by show acc.toList.toArray.size<=sizeLine;simp only[Array.toArray_toList];rw[hacc.1];exact ZA hlen (by decide)));refine Zv ?_;have e:acc.toList.toArray=acc:=by simp
 rw[e];exact h h' tk acc hk hacc
def Ng{r:Addr}{a b:Int}{t u v:Tok}{n:Nat}{Q:Value->Shared->Prop}(hh:A.handled=none)(hr:IsRange s.heap r a b 1 t u v)(hsmall:Builtin.Range.small a b 1=true)(hn:Builtin.Range.rangeSize a b 1=n)(hlen:n<=2 ^ 24)(hQ:∀(h':Heap) (tk:Nat) (acc:Array Value),(∀b o,s.heap.get? b=some o->h'.get? b=some o)->ItemsOf (fun i v=>∃t,v=.int (a+i*1) t) acc n->Q (.ref h'.objs.size) {s with heap:=h'.push {cls:=.type "tuple",data:=.seq acc},toks:=tk}) :
  wpAny (model prog w) A (call (.type "tuple") [.ref r]) Q E s:=by
 refine callType_codes (Q₁:=fun obj s₁=>s₁.TypeIs obj "tuple"/\Q obj s₁) PySem.F.called_tuple (PySem.F.typeCall_tuple_1 _) PySem.F.entry_object_init
  (T4 (A:=A.in1) hh hr hsmall hn hlen fun h' tk acc hk hacc=>⟨⟨_,Z2 _ rfl,rfl⟩,hQ h' tk acc hk hacc⟩) fun obj s₁ h₁=>?_
 exact⟨h₁.1,PySem.F.args_object_init_2 obj _,object_init_meets PySem.F.called_tuple.init.lookup PySem.F.called_tuple.made (by decide) prog w A.in1 _ s₁ ⟨h₁.1,rfl,h₁.2⟩⟩
end
section
variable {X:Cx}
def Sz(hc:X.calm=true):WW X (.type "tuple") (fun xs H Q=>∃(r:Addr) (i j:Int),xs=[.ref r]/\H r=some (.rng i j)/\(-(2 ^ 62)<=i/\i<2 ^ 62/\-(2 ^ 62)<=j/\j<2 ^ 62)/\(j-i).toNat<=1000000/\
  ∀l,H l=none->Q (.ref l) (upd H l (.tup ((runI i (j-i).toNat).map V.int)))):=by
 intro pins s σ H xs us Q I rv h;obtain⟨r,i,j,rfl,hr,⟨b1,b2,b3,b4⟩,hn,q⟩:=h;obtain⟨u,rfl,ru⟩:=rv.one;obtain rfl:u=Value.ref r:=ru;obtain⟨t,u,v,e⟩:=(show ObjOk X.prog X.w H s.heap r (.rng i j)from I.hok r _ hr)
 refine Ng (I.ok.hd hc) (show IsRange s.heap r i j 1 t u v from e) (small_one b1 b2 b3 b4) (rangeSize_nat i j) (ZA hn (by decide)) fun h' tk acc hk hI=>?_
 have hv:Vals ((runI i (j-i).toNat).map V.int) acc.toList:=U2 _ _ (by rw[Yn];exact hI.1) fun k w hw=>hI.2 k w (by rw[←hw,Array.getElem?_toList]);have I1:Inv X pins σ H {s with heap:=h',toks:=tk}:=I.kept (t':=tk) hk
 refine⟨.ref h'.objs.size,upd H h'.objs.size (.tup ((runI i (j-i).toNat).map V.int)),?_,rfl,q _ (I1.hok.fresh (Z3 _))⟩;refine I1.laid (t':=tk) (fun b o e=>Zx _ e) (Z3 _) ⟨?_,acc.toList,hv,_,Z2 _ rfl,rfl,0,by simp⟩;rw[Zt];unfold runI;rw[Zt,YD];exact ZA hn (by decide)
end
end Own
namespace Pu
open PySem PySem.Spec PyProof.Rows L2 Own M
section
variable {K:Za}{mg:Str->Option Value}{E:L2.St->XK}{H:Hp}
def Rp.dF_inv {kvs:List (List Key×V)}{v:V} (h:Rp K H (.dF kvs) v):∃a o,v=.ref a/\H a=some (.frz o (.dT kvs)):=by
 cases h with
 |dF h=>exact⟨_,_,rfl,h⟩
def P4:S->S->(S->Prop)->Prop:=fun x y R=>∃kvs k v,x.d=.dF kvs/\Vc y.d=some k/\valV kvs k=some v/\Vs v=true/\R (.sh (vD v))
def XQ{td ty:TE}{a b:PTE}(ha:SndE K mg E td a)(hb:SndE K mg E ty b):SndE K mg E (Ui td ty) (p2 a b P4):=by
 show SndE K mg E (tOp (fun x y H Q=>∃a v,x=.ref a/\DGet H a y (some v)/\Q v H) td ty) _;refine se_2 ha hb fun H0 H H2 Z x y v u R Q s0 s1 hm tx ty h q=>?_;obtain⟨kvs,k,w,e,h1,h2,h3,h4⟩:=h;have rx:=tx.rp s0;have ry:=ty.rp s0;rw[e]at rx;obtain⟨l,o,rfl,hl⟩:=rx.dF_inv;obtain⟨b,rfl,hb⟩:=Je ry h1;refine⟨l,w,rfl,?_,q _ _ H2 h4 (Same.refl _) (XS h3)⟩;exact .inr ⟨kvs,k,b,.inr ⟨o,hl⟩,rfl,hb,h2.symm⟩
def Sq(neg:Bool):S->S->(S->Prop)->Prop:=fun y x R=>∃kvs k,x.d=.dF kvs/\Vc y.d=some k/\R (.sh (.bl (if neg then !(valV kvs k).isSome else(valV kvs k).isSome)))
def K4{td ty:TE}{a b:PTE}(ha:SndE K mg E ty a)(hb:SndE K mg E td b):SndE K mg E (XB ty td) (p2 a b (Sq true)):=by
 show SndE K mg E (tOp (fun y x H Q=>∃a o,x=.ref a/\DGet H a y o/\Q (.bl (!o.isSome)) H) ty td) _;refine se_2 ha hb fun H0 H H2 Z y x u v R Q s0 s1 hm ty tx h q=>?_;obtain⟨kvs,k,e,h1,h4⟩:=h;have rx:=tx.rp s0;have ry:=ty.rp s0;rw[e]at rx;obtain⟨l,o,rfl,hl⟩:=rx.dF_inv;obtain⟨b,rfl,hb⟩:=Je ry h1;exact⟨l,_,rfl,.inr ⟨kvs,k,b,.inr ⟨o,hl⟩,rfl,hb,rfl⟩,q _ _ H2 h4 (Same.refl _) (.bl _)⟩
def Xd(i:Nat):PTS:=fun R γ=>match γ[i]? with
 |some (some (.own (.dT kvs)))=>R.rt (.sh (.dF kvs))
 |_=>False
def K6(i:Nat):SndS K mg E (JE i) (Xd i):=by
 intro H0 B H σ γ R D hB env h e;unfold Xd at h;split at h
 ·rename_i kvs hi;obtain⟨v,hv,l,rfl,h0,hl⟩:=env.slot i _ hi;refine⟨l,kvs,hv,hl,fun o=>e.rt (.sh (.dF kvs)) _ _ h (fun b x hb=>by rw[Wz (WO hb (h0 l rfl))];exact env.same b x hb) (.dF (WK WL fun z=>?_))⟩;obtain⟨o',ho'⟩:=hB l z;rw[h0 l rfl]at ho';cases ho'
 ·exact h.elim
def kD:Key->D
 | .inl i=>.int i | .inr x=>.str x
def JC{H:Hp}:∀ks:List Key,Rps K H (ks.map kD) (ks.map kV)
 |[]=>.nil
 | .inl i::r=>.cons (.int i) (JC r)
 | .inr x::r=>.cons (.str x) (JC r)
def XU:∀{kvs:List (List Key×V)}{i:Nat}{p:List Key×V},Q6 kvs=true->kvs[i]?=some p->Vs p.2=true
 |[],i,p,_,e=>by simp at e
 |q::r,0,p,h,e=>by
  simp at e;subst e;unfold Q6 at h;exact(ZR _ _▸h).1
 |q::r,i+1,p,h,e=>by
  unfold Q6 at h;exact XU (ZR _ _▸h).2 (by simpa using e)
def itD(p:List Key×V):D:=.tup [.tup (p.1.map kD),vD p.2]
def pII(a:PTE):PTI:=fun γ R X=>a γ (fun s=>∃kvs,s.shd=some (.dF kvs)/\Q6 kvs=true/\R kvs.length fun i=>.sh (itD (kvs.getD i ([],.non)))) X
def PH{te:TE}{a:PTE}(ha:SndE K mg E te a):SndI K mg E (XT te) (pII a):=by
 intro H0 B H σ γ R X Q env h q qx;refine ha H0 B H σ γ _ X _ env h (fun s v H1 h1 S1 t1=>?_) qx;have env1:=env.grow S1;obtain⟨kvs,es,hs,hR⟩:=h1;have r1:=t1.shd env1.same env.zm S1 es;obtain⟨l,o,rfl,hl⟩:=r1.dF_inv;refine⟨l,o,kvs,rfl,off_sub _ _ hl,q _ _ _ H1 hR S1 ⟨fun i H' Z' hi lt=>?_,fun H' Z' lt=>⟨off_sub _ _ (lt.off _ _ hl),Z3 _⟩⟩⟩;refine⟨⟨off_sub _ _ (lt.off _ _ hl),hi⟩,fun x H'' y=>?_⟩;obtain⟨T,b,ks,v,nT,ek,hb,rfl,rfl⟩:=y;have eg:kvs.getD i ([],.non)=(ks,v):=by rw[Zw,ek];rfl
 rw[eg]
 have noZ:∀c ys,H' c=some (.tup ys)->¬Z' c:=fun c ys hc z=>by
  have:=lt.2.1 c z
  rw[hc]at this;exact this
 have nTZ:¬Z' T:=fun z=>by
  have:=lt.2.1 T z
  rw[nT]at this;exact this
 refine⟨WJ nT,.tup (WK WL nTZ) (.cons (.tup (WK (by rw[Wz (WO hb nT)];exact hb) (noZ _ _ hb)) (JC ks)) (.cons (XS (XU hs ek)) .nil))⟩
def Tf{js:List Nat}{γ:Γ}{g:PTG}{body:PTS}{R:PEnds}{kvs:List (List Key×V)}(inv:Nat->Γ->Prop)(h0:inv 0 (clr js γ))(turn:∀(i:Nat) (hi:i<kvs.length) γ',inv i γ'->g (.sh (itD kvs[i])) γ' fun γ2=>body {R with nx:=fun γ3=>inv (i+1) (clr js γ3),ct:=fun γ3=>inv (i+1) (clr js γ3),bk:=R.nx} γ2)(done:∀γ',inv kvs.length γ'->R.nx γ'):ForW js γ g body R kvs.length (fun i=>.sh (itD (kvs.getD i ([],.non)))):=by
 refine⟨⟨inv,h0,fun i γ' hi h=>?_,fun γ' h=>done γ' h⟩⟩;have t:=turn i hi γ' h;rw[show kvs.getD i ([],V.non)=kvs[i] by rw[Zw,Zu hi];rfl];exact t
def Uh:List S->(S->Prop)->Prop
 |[s,t],R=>(match s.d,t.d with
  | .int i,.int j=>(-(2 ^ 62)<=i/\i<2 ^ 62/\-(2 ^ 62)<=j/\j<2 ^ 62)/\(j-i).toNat<=1000000/\R (.sh (tD (runI i (j-i).toNat)))
  |_,_=>False)
 |_,_=>False
def PM:List V->Hp->VK->Prop:=fun xs H Q=>∃(r:Addr) (i j:Int),xs=[.ref r]/\H r=some (.rng i j)/\(-(2 ^ 62)<=i/\i<2 ^ 62/\-(2 ^ 62)<=j/\j<2 ^ 62)/\(j-i).toNat<=1000000/\
  ∀l,H l=none->Q (.ref l) (upd H l (.tup ((runI i (j-i).toNat).map V.int)))
def SC{ta:TA}{r:PTA}(hr:SndA K mg E ta r):SndE K mg E (tCB PM (WH (tCB (fun xs H Q=>∃i j:Int,xs=[.int i,.int j]/\∀r,H r=none->Q (.ref r) (upd H r (.rng i j))) ta) tNil)) (pCB Uh r):=by
 intro H0 B H σ γ R X Q env p q qx;refine hr H0 B H σ γ _ X _ env p (fun ss vs H1 h1 S1 t1=>?_) qx;have s0:=(env.grow S1).same;unfold Uh at h1;split at h1
 ·obtain⟨v,u,rfl,t1',t2'⟩:=t1.two_inv;have r1:=t1'.rp s0;have r2:=t2'.rp s0;split at h1
  ·rename_i i j e1 e2;rw[e1]at r1;rw[e2]at r2;rw[r1.int_inv,r2.int_inv];refine⟨i,j,rfl,fun a na=>⟨a,i,j,rfl,WL,h1.1,h1.2.1,fun l nl=>?_⟩⟩;have S2:=WJ (o:=.rng i j) na;refine q _ _ _ h1.2.2 ((S1.trans S2).trans (WJ nl)) (.tup (WK WL fun z=>?_) (Rps.of_ints _))
   have:=((env.grow S1).grow S2).zm l z
   rw[nl]at this;exact this
  ·exact h1.elim
 ·exact h1.elim
def entS(q:List Int×Int):List Key×V:=(kT q.1,.int q.2)
end
end Pu
namespace T
open PySem PySem.Spec PyProof.Rows L2
def top(i:Nat):Stmt:=PySem.Challenge.pw_stripmeld_k17_all_stands.main.body.getD i (.Pass ⟨0,0,0,0⟩)
abbrev VJ:Stmt:=top 4
def NZ:FnScope ["strips"] ["strips"] (Ww VJ):=Pu.fs
abbrev Ju:Stmt:=top 7
def PU:FnScope ["strips"] ["strips"] (Ww Ju):=Pu.fs
abbrev Jo:Stmt:=top 8
def UA:FnScope ["strips","stand","number","passed"] ["strips","stand","number"] (Ww Jo):=Pu.fs
abbrev J6:Stmt:=top 9
def Vd:FnScope ["strips","stands","longer","stand","cost","number"] ["strips","stands"] (Ww J6):=Pu.fs
abbrev J5:Stmt:=top 10
def VB:FnScope ["strips","stands","length"] ["strips"] (Ww J5):=Pu.fs
abbrev Jd:Stmt:=top 12
def Nc:FnScope ["_law_script","_law_k"] ["_law_script","_law_k"] (Ww Jd):=Pu.fs
abbrev VM:Stmt:=top 13
def Sx:FnScope ["_law_found"] ["_law_found"] (Ww VM):=Pu.fs
abbrev VQ:Stmt:=top 14
def X7:FnScope ["_law_cell","_law_place","_law_first"] ["_law_cell","_law_place"] (Ww VQ):=Pu.fs
abbrev Jx:Stmt:=top 15
def Tj:FnScope ["_law_script","_law_k"] ["_law_script","_law_k"] (Ww Jx):=Pu.fs
abbrev J0:Stmt:=top 16
def Jn:FnScope ["_law_cell","_law_wide","_law_least"] ["_law_cell"] (Ww J0):=Pu.fs
abbrev Jk:Stmt:=top 17
def Pj:FnScope ["_law_menu_here","_law_k"] ["_law_menu_here","_law_k"] (Ww Jk):=Pu.fs
abbrev VH:Stmt:=top 18
def QZ:FnScope ["_law_script","_law_menu_here","_law_many","_law_strips_here","_law_k","_law_cell","_law_width"] ["_law_script","_law_menu_here","_law_many"] (Ww VH):=Pu.fs
abbrev VR:Stmt:=top 19
def VG:FnScope ["_law_found","_law_due","_law_k","_law_j"] ["_law_found","_law_due"] (Ww VR):=Pu.fs
abbrev VO:Stmt:=top 20
def K2:FnScope ["_law_stand","_law_k"] ["_law_stand","_law_k"] (Ww VO):=Pu.fs
abbrev Js:Stmt:=top 21
def JN:FnScope ["_law_found","_law_many","_law_number"] ["_law_found","_law_many"] (Ww Js):=Pu.fs
abbrev VI:Stmt:=top 22
def QO:FnScope ["_law_told","_law_many","_law_count","_law_k","_law_prices_here"] ["_law_told","_law_many"] (Ww VI):=Pu.fs
abbrev J7:Stmt:=top 23
def Qq:FnScope ["_law_prices_here","_law_strips_here","_law_own","_law_stand","_law_price","_law_met","_law_k","_law_step","_law_other"] ["_law_prices_here","_law_strips_here"] (Ww J7):=Pu.fs
abbrev Qi:Stmt:=top 24
def QU:FnScope ["_law_script","_law_menu_here","_law_strips_here","_law_handed","_law_found","_law_prices_here"] ["_law_script"] (Ww Qi):=Pu.fs
structure Glob (K:Za) (mg:Str->Option Value):Prop where
 bool:mg "bool"=none
 int:mg "int"=none
 isinstance:mg "isinstance"=none
 len:mg "len"=none
 list:mg "list"=none
 range:mg "range"=none
 sorted:mg "sorted"=none
 sum:mg "sum"=none
 tuple:mg "tuple"=none
 SMALL:∃u,mg "SMALL"=some u/\RelV (.int 7) u
end T
namespace M
open PySem PySem.Spec PyProof.Rows L2 Own Pu
def P9:Pc:=fun ds R _=>∃ps:List (Int×Int),ds=[.lst (ps.map prD)]/\ps.length<=1000/\R (.own ((runI 1 ps.length).map D.int))
def TK:Pc:=fun ds R _=>∃ps:List (Int×Int),ds=[plD ps]/\ps.length<=7/\R (.sh .non)
def Na:Pc:=fun ds R _=>∃(ps:List (Int×Int)) (r:List Int) (x:Int),ds=[plD ps,tD r,.int x]/\Field ps/\ps.length<=50/\1<=x/\x<=ps.length/\R (.sh (.int (WG ps r x)))
def Kv:Pc:=fun ds R _=>∃(ns:List Int) (k:Int),ds=[.scr ns,.int k]/\0<=k/\∀v:Int,R (.sh (.int v))
def Tx:Pc:=fun ds R _=>∃i:Int,ds=[.int i]/\R (.sh (.bl true))
def Tu:Pc:=fun ds R _=>∃c p:Int,ds=[.int c,.int p]/\∀v:Int,R (.sh (.int v))
def Nn:Pc:=fun ds R _=>∃c:Int,ds=[.int c]/\∀m,Menu m->R (.own (m.map D.int))
def Tq:Pc:=fun ds R _=>∃(m:List Int) (k:Int),ds=[.lst (m.map D.int),.int k]/\Menu m/\∀h:Int,1<=h->h<=10->h=N2 m k->R (.sh (.int h))
def Kk:Pc:=fun ds R _=>∃(a b:List Int) (x y:Int),ds=[tD (a++x::y::b),.int a.length]/\a.length<=100/\b.length<=100/\R (.sh (tD (a++y::x::b)))
def Ni:Pc:=fun ds R _=>∃(ps:List (Int×Int)) (S:List (List Int×Int)),ds=[plD ps,.lst (S.map stD)]/\Field ps/\ps.length<=7/\S.length<=1000000/\(∀q∈S,q.1.length<=10)/\R (.own ((S.flatMap (WY ps)).map stD))
def TX:Pc:=fun ds R _=>∃(ns:List Int) (k:Int),ds=[.scr ns,.int k]/\0<=k/\∀v:Int,R (.sh (.int v))
def P8:Pc:=fun ds R _=>∃ps:List (Int×Int),ds=[.lst (ps.map prD),.lst (ps.map prD)]/\ps.length<=1000000/\R (.sh (.bl true))
def Nx:Pc:=fun ds R _=>∃(q:List Int×Int) (n:Nat),ds=[stD q,.int n]/\n<=7/\q.1.Perm (runI 1 n)/\R (.sh (.bl true))
def Py:Pc:=fun ds R _=>∃(ps:List (Int×Int)),ds=[.dF ((W1 ps ps.length).map entS),plD ps]/\Field ps/\ps.length<=7/\R (.sh (.bl true))
def Nu:Pc:=fun ds R _=>∃ps:List (Int×Int),ds=[plD ps]/\Field ps/\ps.length<=7/\R (.own ((W1 ps ps.length).map stD))
def Kp:Pc:=fun ds R _=>∃(ns m:List Int) (n:Int),ds=[.scr ns,.lst (m.map D.int),.int n]/\Menu m/\0<=n/\n<=1000/\∀ps:List (Int×Int),Field ps->ps.length=n.toNat->R (.own (ps.map prD))
def NF:Pc:=fun ds R _=>∃(ps:List (Int×Int)),ds=[.lst ((W1 ps ps.length).map stD),.int ps.length]/\ps.length<=7/\R (.sh (.dF ((W1 ps ps.length).map entS)))
variable (P:Program) (w:World) (K:Za) (mg:Str->Option Value) (base:Heap)
abbrev Uq:Prop:=Callee P w K mg base CX0 1 "own_numbers" ["strips"] (Pu.spOf mg P9 K)
abbrev Ul:Prop:=Callee P w K mg base CX0 1 "check_small" ["strips"] (Pu.spOf mg TK K)
abbrev Uv:Prop:=Callee P w K mg base CX0 1 "cost_to_come_next" ["strips","stand","number"] (Pu.spOf mg Na K)
abbrev VX:Prop:=Callee P w K mg base CX0 1 "_law_at" ["_law_script","_law_k"] (Pu.spOf mg Kv K)
abbrev Vu:Prop:=Callee P w K mg base CX0 1 "_law_whole" ["_law_found"] (Pu.spOf mg Tx K)
abbrev U8:Prop:=Callee P w K mg base CX0 1 "_law_mix" ["_law_cell","_law_place"] (Pu.spOf mg Tu K)
abbrev XW:Prop:=Callee P w K mg base CX0 1 "_law_menu" ["_law_cell"] (Pu.spOf mg Nn K)
abbrev X9:Prop:=Callee P w K mg base CX0 1 "_law_holder" ["_law_menu_here","_law_k"] (Pu.spOf mg Tq K)
abbrev XG:Prop:=Callee P w K mg base CX0 1 "_law_swapped" ["_law_stand","_law_k"] (Pu.spOf mg Kk K)
abbrev X6:Prop:=Callee P w K mg base CX0 2 "longer_stands" ["strips","stands"] (Pu.spOf mg Ni K)
abbrev JA:Prop:=Callee P w K mg base CX0 2 "_law_draw" ["_law_script","_law_k"] (Pu.spOf mg TX K)
abbrev Xi:Prop:=Callee P w K mg base CX0 2 "_law_tuples" ["_law_found","_law_due"] (Pu.spOf mg P8 K)
abbrev XM:Prop:=Callee P w K mg base CX0 2 "_law_stand_is" ["_law_found","_law_many"] (Pu.spOf mg Nx K)
abbrev U7:Prop:=Callee P w K mg base CX0 2 "_law_price_list" ["_law_prices_here","_law_strips_here"] (Pu.spOf mg Py K)
abbrev Xn:Prop:=Callee P w K mg base CX0 3 "all_stands" ["strips"] (Pu.spOf mg Nu K)
abbrev JH:Prop:=Callee P w K mg base CX0 3 "_law_strips" ["_law_script","_law_menu_here","_law_many"] (Pu.spOf mg Kp K)
abbrev X3:Prop:=Callee P w K mg base CX0 3 "_law_prices" ["_law_told","_law_many"] (Pu.spOf mg NF K)
abbrev Tz:Prop:=Callee P w K mg base CX0 4 "law" ["_law_script"] (Pu.spOf mg Uj K)
end M
namespace M
open PySem PySem.Spec PyProof.Rows L2 Own Pu
def U9:∀L:List (List Int×Int),Q6 (L.map entS)=true
 |[]=>rfl
 |q::L=>by
  rw[Z4];unfold Q6;rw[U9 L];rfl
def PX(q:List Int×Int):itD (entS q)=stD q:=by
 unfold itD entS kT stD tD;rw[Yl];rfl
def Ux{ps:List (Int×Int)}{r:List Int}(h:r.Perm (runI 1 ps.length)):valV ((W1 ps ps.length).map entS) (kT r)=some (.int (invM ps r)):=by
 have hrows:=Vw ps ps.length
 have hr:r∈WR (runI 1 ps.length) ps.length:=by
  have:=(Jq (Qs ps.length)).mpr h
  rwa[Qu]at this
 have hm:(r,cstA ps [] r)∈W1 ps ps.length:=by
  rw[hrows];exact ZY.mpr ⟨r,hr,rfl⟩
 have nd:(((W1 ps ps.length).map entS).map (·.1)).Nodup:=by
  rw[Yl,hrows,Yl];show((WR (runI 1 ps.length) ps.length).map kT).Nodup;rw[List.Nodup,YF]
  exact(JB (QW ps.length) ps.length).imp fun {a b} hs e=>by
   rw[JG e]at hs;exact J2 hs hs
 have:=UI nd (entS (r,cstA ps [] r)) (ZY.mpr ⟨_,hm,rfl⟩)
 rw[←Jf (ps:=ps) (t:=r) (pre:=[]) (by simpa using h)];exact this
def Pa(ps:List (Int×Int))(n:Nat):invM ps (runI 1 n)=0:=by
 have key:∀l:List Int,l.Pairwise (· < ·)->invM ps l=0:=fun l=>by
  induction l with
  |nil=>intro _;rfl
  |cons x l ih=>
   intro h;rw[YX]at h;unfold invM;rw[ih h.2,List.filter_eq_nil_iff.mpr fun y hy=>by have:=h.1 y hy;simp;omega];simp
 exact key _ (QW n)
def lenP(n:Nat):Nat->Nat
 | 0=>1
 |k+1=>lenP n k*(n-k)
def facP:Nat->Nat
 | 0=>1
 |k+1=>facP k*(k+1)
def XC:∀n,n<8->lenP n n=facP n/\facP n<=5040:=by decide
def T1{hs r:List Int}(nd:hs.Nodup)(nr:r.Nodup)(hr:∀x∈r,x∈hs):(nextM hs r).length=hs.length-r.length:=by
 have e1:(hs.filter fun h=>decide (h∈r)).Perm r:=by
  rw[Yi (nd.filter _) nr];intro x;rw[Yf];exact⟨fun h=>Yc h.2,fun h=>⟨hr x h,Z7 h⟩⟩
 have e2:=e1.length_eq;unfold nextM;rw[Zt]
 have e3:∀l:List Int,(l.filter fun h=>!decide (h∈r)).length+(l.filter fun h=>decide (h∈r)).length=l.length:=fun l=>by
  induction l with
  |nil=>rfl
  |cons x l ih=>
   by_cases c:x∈r
   ·rw[Yp (by simp[c]),Yo (by simp[c]),ZK,ZK];omega
   ·rw[Yo (by simp[c]),Yp (by simp[c]),ZK,ZK];omega
 have:=e3 hs
 omega
def UB{α β:Type}{f:α->List β}{c:Nat}:∀{l:List α},(∀x∈l,(f x).length=c)->(l.flatMap f).length=l.length*c
 |[],_=>by simp
 |x::l,h=>by
  rw[List.flatMap_cons,ZF,h x ZH,UB fun y hy=>h y (ZD _ hy),ZK,Nat.add_mul];omega
def U0{hs:List Int}(nd:hs.Nodup):∀k,(WR hs k).length=lenP hs.length k
 | 0=>rfl
 |k+1=>by
  unfold WR lenP;rw[UB (c:=hs.length-k) fun r hr=>by rw[T1 nd (rows_mem.mp hr).2.1 (rows_mem.mp hr).2.2,(rows_mem.mp hr).1],U0 nd k]
def Tb{kvs:List (List Key×V)}{k:List Key}(h:∀p∈kvs,p.1≠k):valV kvs k=none:=by
 unfold valV;rw[List.find?_eq_none.mpr fun p hp=>by simpa using h p hp];rfl
end M
namespace T
open PySem PySem.Spec PyProof.Rows L2 Own M Pu
section
variable {P:Program}{w:World}{K:Za}{mg:Str->Option Value}{base:Heap}
def P2(G:Glob K mg)(DD:Def K mg "own_numbers" VJ ["strips"])
  : Uq P w K mg base:=by
 refine DD.oz (k:=0) NZ (fun _ _ _ _ _ _ E hr=>⟨_,(Wr (Wx (Sv (N':=["index"]) (φ:=[none]) rfl (Own.CompOk.of (by rfl)) (Qw rfl G.range (az (ln K G.len (pv 0)))) (fun _ _ _ _ _=>⟨(gz 0 (show(["index"]:List Str).Nodup from by decide +kernel)),Px,(Wq WD (pv 0) Wp)⟩)))), (W2 (Xe (SndI.c (Q0 (sz (WM (sz (Wn 0)))))) (Wv 0) PJ (W9 (Wn 0) Wo)))⟩) (.a fun ds R X h=>?_)
 ·obtain⟨ps,rfl,hz,hR⟩:=h;refine⟨rfl,?_⟩;have hl:(ps.map prD).length=ps.length:=Zt ..;refine⟨⟨by omega,by omega⟩,Ua (fun i=>some (.int (0+(i:Int)+1))) (by omega) (fun i _=>⟨_,rfl,rfl⟩) ?_⟩
  have e:(List.range ((ps.map prD).length:Int).toNat).filterMap (fun(i:Nat)=>some (D.int (0+(i:Int)+1)))=(runI 1 ps.length).map D.int:=by
   unfold runI;rw[List.filterMap_eq_map',Yl,hl,ZW];refine List.map_congr_left fun i _=>?_;show D.int (0+(i:Int)+1)=D.int (1+(i:Int));congr 1;omega
  rw[e];exact hR
def T6(G:Glob K mg)(DD:Def K mg "check_small" Ju ["strips"])
  : Ul P w K mg base:=by
 refine DD.oz (k:=0) PU (fun _ _ _ _ _ _ E hr=>⟨_,(Wr (WE (Qv Jj (ln K G.len (pv 0)) (ExcR.VS G.SMALL) (Qp _)) (Wr SA)
   WB)), (WC (WI (Jb (WM (sz (Wn 0))) Wo)) Kx W8)⟩) (.a fun ds R X h=>?_)
 ·obtain⟨ps,rfl,hz,hR⟩:=h;refine⟨rfl,?_⟩;have hl:(ps.map prD).length=ps.length:=Zt ..;refine ite2 (fun g=>?_) (fun g=>hR);have g':(7:Int)<((ps.map prD).length:Int):=Yc g;omega
def Pk(G:Glob K mg)(DD:Def K mg "cost_to_come_next" Jo ["strips","stand","number"])
  : Uv P w K mg base:=by
 refine DD.oz (k:=0) UA (fun _ _ _ _ _ _ E hr=>⟨_,(Wu (Pm (N':=["other","strips","stand"]) (φ:=[none,some 0,some 1]) (i:=3) UA.nd rfl rfl rfl (Own.CompOk.of (by rfl)) (TM rfl G.range (bz Wp (pv 2))) (fun _ _ _ _ _=>⟨(gz 0 (show(["other","strips","stand"]:List Str).Nodup from by decide +kernel)),(S4 (Qv (JL (K:=K) (show _<cLine from QN hr)) (pv 0) (pv 2) (by with_unfolding_all rfl))),(jx K (jx K (pv 1) (Wq QT (pv 0) Wp)) Wp)⟩)) (Wr (Wx (Wq Q1 (jx K (jx K (pv 0) (Wq QT (pv 2) Wp)) Wp) (Qm (PB (K:=K) rfl) (by rfl) G.sum boot_sum (az (pv 3))))))), (Wt (W5 (Xe (SndI.c (KH (tz Wo (Wn 2)))) (Wv 0) (WI (Xu (Wn 0) (Wn 2))) (Ws (Ws (Wn 1) (QF (Wn 0) Wo)) Wo)) (Wv 3)) (W2 (Qz (Ws (Ws (Wn 0) (QF (Wn 2) Wo)) Wo) (Pz (sz (Wn 3))))))⟩) (.a fun ds R X h=>?_)
 ·obtain⟨ps,r,x,rfl,hF,hz,h1,h2,hR⟩:=h;refine⟨rfl,?_⟩;unfold Qb;rw[Z4,Z4,US];have hl:(ps.map prD).length=ps.length:=Zt ..;have hw:∀y:Int,1<=y->y<=ps.length->1<=wdM ps y/\wdM ps y<=1000:=fun y a b=>(hF _ (X8 a b)).2.2;refine⟨⟨by omega,by omega⟩,Ua (fun i=>if (!decide ((1+(i:Int))∈r))=true then some (.int (wdM ps (1+(i:Int))))else none) (by show(x-1).toNat<=100000;omega) (fun i hi=>?_) ?_⟩
  ·have hi':i<(x-1).toNat:=hi;refine⟨_,.ti _ _,ite2 (fun g=>⟨_,Vo (by omega) (by omega),_,rfl,_,rfl,ZE g⟩) (fun g=>Z6 g)⟩
  ·have e:(List.range (x-1).toNat).filterMap (fun(i:Nat)=>if (!decide ((1+(i:Int))∈r))=true then some (D.int (wdM ps (1+(i:Int))))else none)=(((runI 1 (x-1).toNat).filter fun y=>!decide (y∈r)).map (wdM ps)).map D.int:=by
    unfold runI;rw[List.filter_map,Yl,Yl,←List.filterMap_eq_map,List.filterMap_filter];rfl
   have:=hw x h1 h2
   refine⟨_,Vo (by omega) (by omega),_,rfl,_,ZT D.lst e,.inl ⟨by show -(2 ^ 64)<wdM ps x;omega,by show wdM ps x<2 ^ 64;omega⟩,hR⟩
def KJ(G:Glob K mg)(DD:Def K mg "_law_at" Jd ["_law_script","_law_k"])
  : VX P w K mg base:=by
 refine DD.oz (k:=0) Nc (fun _ _ _ _ _ _ E hr=>⟨_,(Wu (WE (Qv TU (pv 1) (ln K G.len (pv 0)) (Qp _)) (Wr (Wx (jx K (pv 0) (pv 1))))
   WB) (Wr (Wx Wp))), (Wt (WC (WI (Pw (Wn 1) (WM (sz (Wn 0))))) (W2 (Ws (Wn 0) (Wn 1))) W8) (W2 Wo))⟩) (.a fun ds R X h=>?_)
 ·obtain⟨ns,k,rfl,hk,hR⟩:=h;refine⟨rfl,?_⟩;refine ite2 (fun g=>?_) (fun _=>hR 0);have g':k<(ns.length:Int):=Yc g;exact⟨_,Ue hk (Zu (show k.toNat<ns.length by omega)),hR _⟩
def KU(G:Glob K mg)(DD:Def K mg "_law_whole" VM ["_law_found"])
  : Vu P w K mg base:=by
 refine DD.oz (k:=0) Sx (fun _ _ _ _ _ _ E hr=>⟨_,(Wr (Wx (T8 (Qm (QC (K:=K)) (by rfl) G.isinstance Yg (bz (pv 0) (Q3 (v:=.ty "int") rfl G.int boot_int rfl))) (TC (Td (Qm (QC (K:=K)) (by rfl) G.isinstance Yg (bz (pv 0) (Q3 (v:=.ty "bool") rfl G.bool boot_bool rfl)))))))), (W2 (PN (QE (tz (Wn 0) QB)) (K5 (QE (tz (Wn 0) QB)))))⟩) (.a fun ds R X h=>?_)
 ·obtain⟨i,rfl,hR⟩:=h;refine⟨rfl,?_⟩;exact⟨_,.same _,_,.ib,hR⟩
def NV(G:Glob K mg)(DD:Def K mg "_law_mix" VQ ["_law_cell","_law_place"])
  : U8 P w K mg base:=by
 refine DD.oz (k:=0) X7 (fun _ _ _ _ _ _ E hr=>⟨_,(Wu (Pu.pz 2 X7.nd (Wq WU (Wq Q1 (Wq WD (Wq WD (Wq WU (pv 0) Wp) (Wq Q1 Wp (pv 1))) Wp) Wp) Wp)) (Wr (Wx (Wq WU (Wq Q1 (Wq WD (Wq WD (pv 2) (Wq Q1 Wp (pv 1))) Wp) Wp) Wp)))), (Wt (W5 (WV (Qz (W9 (W9 (WV (Wn 0) Wo) (Qz Wo (Wn 1))) Wo) Wo) Wo) (Wv 2)) (W2 (WV (Qz (W9 (W9 (Wn 2) (Qz Wo (Wn 1))) Wo) Wo) Wo)))⟩) (.a fun ds R X h=>?_)
 ·obtain⟨c,p,rfl,hR⟩:=h;refine⟨rfl,?_⟩;exact⟨(by show(0:Int)<2147483647;decide),.inl ⟨by decide,by decide⟩,.inr ⟨by decide,by decide⟩,(by show(0:Int)<2147483647;decide),.inl ⟨by decide,by decide⟩,.inr ⟨by decide,by decide⟩,(by show(0:Int)<2147483647;decide),hR _⟩
def NH(G:Glob K mg)(DD:Def K mg "_law_menu" J0 ["_law_cell"])
  : XW P w K mg base:=by
 refine DD.oz (k:=0) Jn (fun _ _ _ _ _ _ E hr=>⟨_,(Wu (Pu.pz 1 Jn.nd (jx K (QA (W3 Wp (W3 Wp (W3 Wp (W3 Wp (W3 Wp Qg)))))) (Wq WU (Wq QS (pv 0) Wp) Wp))) (Wu (Pu.pz 2 Jn.nd (jx K (QA (W3 Wp (W3 Wp (W3 Wp (W3 Wp (W3 Wp Qg)))))) (Wq WU (Wq QS (pv 0) Wp) Wp))) (Wr (Wx (QA (W3 (Wq WD Wp (Wq WU (pv 0) Wp)) (W3 (jx K (QA (W3 Wp (W3 Wp (W3 Wp (W3 Wp Qg))))) (Wq WU (Wq QS (pv 0) Wp) Wp)) (W3 (Wq WU (Wq QS (pv 0) Wp) Wp) (W3 (pv 1) (W3 (pv 2) Qg)))))))))), (Wt (W5 (Ws (QD (W6 Wo (W6 Wo (W6 Wo (W6 Wo (W6 Wo Qx)))))) (WV (QL (Wn 0) Wo) Wo)) (Wv 1)) (Wt (W5 (Ws (QD (W6 Wo (W6 Wo (W6 Wo (W6 Wo (W6 Wo Qx)))))) (WV (QL (Wn 0) Wo) Wo)) (Wv 2)) (Vf 2 (Vf 1 (W2 (QD (W6 (W9 Wo (WV (Wn 0) Wo)) (W6 (Ws (QD (W6 Wo (W6 Wo (W6 Wo (W6 Wo Qx))))) (WV (QL (Wn 0) Wo) Wo)) (W6 (WV (QL (Wn 0) Wo) Wo) (W6 (Wn 1) (W6 (Wn 2) Qx)))))))))))⟩) (.a fun ds R X h=>?_)
 ·obtain⟨c,rfl,hR⟩:=h;refine⟨rfl,?_⟩;have h1:0<=c / 10 % 4/\c / 10 % 4<4:=by omega
  have h2:0<=c / 400 % 5/\c / 400 % 5<5:=by omega
  have hb:∀v∈([1,3,7,9]:List Int),1<=v/\v<=9/\(v=1\/v=3\/v=7\/v=9):=by decide
  have hde:∀i:Int,0<=i->i<5->∃d e:Int,atI [D.int 1000,.int 3,.int 1,.int 2,.int 3] i=some (.int d)/\atI [D.int 1,.int 1,.int 1,.int 1,.int 998] i=some (.int e)/\(1<=d/\d<=1000)/\1<=e/\e+d<=1001:=fun i a b=>by
   have:i=0\/i=1\/i=2\/i=3\/i=4:=by omega
   rcases this with rfl|rfl|rfl|rfl|rfl
   ·exact⟨1000,1,rfl,rfl,by decide,by decide,by decide⟩
   ·exact⟨3,1,rfl,rfl,by decide,by decide,by decide⟩
   ·exact⟨1,1,rfl,rfl,by decide,by decide,by decide⟩
   ·exact⟨2,1,rfl,rfl,by decide,by decide,by decide⟩
   ·exact⟨3,998,rfl,rfl,by decide,by decide,by decide⟩
  obtain⟨d,e,e1,e2,hd,he⟩:=hde _ h2.1 h2.2;have hbb:=hb _ (ZS (l:=([1,3,7,9]:List Int)) (n:=(c / 10 % 4).toNat) (by show(c / 10 % 4).toNat<4;omega));refine⟨by simp,⟨by decide,by decide⟩,(by show(0:Int)<5;decide),_,e1,by simp,⟨by decide,by decide⟩,(by show(0:Int)<5;decide),_,e2,(by show(0:Int)<10;decide),by simp,⟨by decide,by decide⟩,(by show(0:Int)<4;decide),_,JX (f:=D.int) (xs:=[1,3,7,9]) h1.1 h1.2,⟨by decide,by decide⟩,(by show(0:Int)<10;decide),by simp,?_⟩;exact hR [_,_,_,_,_] ⟨_,_,_,_,_,rfl,by omega,hbb,by omega,hd,he⟩
def Pt(G:Glob K mg)(DD:Def K mg "_law_holder" Jk ["_law_menu_here","_law_k"])
  : X9 P w K mg base:=by
 refine DD.oz (k:=0) Pj (fun _ _ _ _ _ _ E hr=>⟨_,(Wr (Wx (Wq WD Wp (Wq WU (Wq WD (Wq Q1 (pv 1) (jx K (pv 0) Wp)) (jx K (pv 0) Wp)) Wp)))), (W2 (W9 Wo (WV (W9 (Qz (Wn 1) (Ws (Wn 0) Wo)) (Ws (Wn 0) Wo)) Wo)))⟩) (.a fun ds R X h=>?_)
 ·obtain⟨m,k,rfl,hM,hR⟩:=h;refine⟨rfl,?_⟩;obtain⟨a,b,c,d,e,rfl,ha,hb,hc,hd,he⟩:=hM;exact⟨_,rfl,.inr ⟨by omega,by omega⟩,_,rfl,(by show(0:Int)<10;decide),hR _ (by omega) (by omega) rfl⟩
def Pr(G:Glob K mg)(DD:Def K mg "_law_swapped" VO ["_law_stand","_law_k"])
  : XG P w K mg base:=by
 refine DD.oz (k:=0) K2 (fun _ _ _ _ _ _ E hr=>⟨_,(Wr (Wx (Wq (Ja (K:=K)) (Wq (Ja (K:=K)) (X0 (Ut (K:=K)) (pv 0) Kj (XH (pv 1))) (QJ (bz (jx K (pv 0) (Wq WD (pv 1) Wp)) (jx K (pv 0) (pv 1))))) (X0 (Ut (K:=K)) (pv 0) (XH (Wq WD (pv 1) Wp)) Kj)))), (W2 (VW (VW (X1 (Wn 0) XA (Kb (Wn 1))) (QM (tz (Ws (Wn 0) (W9 (Wn 1) Wo)) (Ws (Wn 0) (Wn 1))))) (X1 (Wn 0) (Kb (W9 (Wn 1) Wo)) XA)))⟩) (.a fun ds R X h=>?_)
 ·obtain⟨a,b,x,y,rfl,ha,hb,hR⟩:=h;refine⟨rfl,?_⟩;rw[Sh];have hl:((a++x::y::b).map D.int).length=a.length+b.length+2:=by rw[Zt,ZF,ZK,ZK];omega
  have e1:cutD ((a++x::y::b).map D.int) none (some (a.length:Int))=a.map D.int:=by
   rw[V6,JY _ (by omega)];simp
  have e2:cutD ((a++x::y::b).map D.int) (some ((a.length:Int)+2)) none=b.map D.int:=by
   rw[V6,U6 _ (by omega)]
   have:((a.length:Int)+2).toNat=a.length+2:=by omega
   rw[this,List.drop_append];simp
  have ax:atI ((a++x::y::b).map D.int) (a.length:Int)=some (.int x):=Q5 (QG (by simp))
  have ay:atI ((a++x::y::b).map D.int) ((a.length:Int)+1)=some (.int y):=by
   have:((a.length:Int)+1)=((a.length+1:Nat):Int):=by omega
   rw[this];exact Q5 (QG (by rw[ZZ (by omega)];simp))
  refine⟨_,rfl,?_,_,ay,_,ax,by simp,_,_,rfl,rfl,?_,_,rfl,?_,_,_,rfl,rfl,?_,?_⟩
  ·rintro⟨_,z⟩;rw[HT.V7,hl]at z;omega
  ·rw[e1,Zt];show a.length+2<=100000;omega
  ·rintro⟨z,_⟩
   have:((a.length:Int)+2)=((a.length+2:Nat):Int):=by omega
   rw[this,HT.V7,hl]at z;omega
  ·rw[e1,e2,ZF,Zt,Zt];show a.length+2+b.length<=100000;omega
  ·rw[e1,e2];have e:a.map D.int++[D.int y,D.int x]++b.map D.int=(a++y::x::b).map D.int:=by simp
   show R (.sh (.tup (a.map D.int++[D.int y,D.int x]++b.map D.int)));rw[e];exact hR
def Ky(G:Glob K mg)(DD:Def K mg "longer_stands" J6 ["strips","stands"])(Ze:Uq P w K mg base)(Zf:Uv P w K mg base)
  : X6 P w K mg base:=by
 refine DD.oz (k:=1) Vd (fun _ _ _ _ _ _ E hr=>⟨_,(Wu (Pu.pz 2 Vd.nd (QA Qg)) (Wu (Qh ZP rfl (Uw (K:=K) (pv 1)) (Kg (K:=K) (n:=2) rfl (Vt (gz 3 Vd.nd) (Vt (gz 4 Vd.nd) UX))) (Wr (Qh ZP rfl (Uw (K:=K) (fz Ze hr (az (pv 0)))) (gz 5 Vd.nd) (Wr (WE (Qv (JL (K:=K) (show _<cLine from QN hr)) (pv 5) (pv 3) (by with_unfolding_all rfl)) (Wr (VF (Us PySem.F.plainAttrs_list PySem.F.slot_list_append PySem.F.type_list_append VT (pv 2) (az (QJ (bz (Wq (Ja (K:=K)) (pv 3) (QJ (az (pv 5)))) (Wq WD (pv 4) (fz Zf hr (dz (pv 0) (pv 3) (pv 5))))))))))
   WB))))) (Wr (Wx (pv 2))))), (Wt (W5 (QD Qx) (Wv 2)) (Wt (Vf 1 (Qf [3,4,5] (Up (Wn 1)) (XZ (VA (Wv 3) (VA (Wv 4) Uo))) (Qf [5] (Up (W4 (sz (Wn 0)))) (Wv 5) (WC (WI (Xu (Wn 5) (Wn 3))) (Vf 5 (UP 2 (QM (tz (VW (Wn 3) (QM (sz (Wn 5)))) (W9 (Wn 4) (W4 (uz (Wn 0) (Wn 3) (Wn 5)))))))) W8)))) (Jg 2)))⟩) (.a fun ds R X h=>?_)
 ·obtain⟨ps,Ss,rfl,hF,hz,hS,hq,hR⟩:=h;refine⟨rfl,?_⟩;refine⟨by simp,rfl,VL (xs:=Ss) (emb:=stD) (fun i γ'=>γ'=[some (.bor (plD ps)),some (.bor (.lst (Ss.map stD))),some (.own (((Ss.take i).flatMap (WY ps)).map stD)),none,none,none]) rfl ?_ ?_⟩
  ·rintro i hi γ' rfl
   have et:(Ss.take (i+1)).flatMap (WY ps)=(Ss.take i).flatMap (WY ps)++WY ps Ss[i]:=by
    rw[Ym hi,List.flatMap_append];simp
   have hfl:=VN hz (Ss.take i);have htl:(Ss.take i).length<=1000000:=by rw[Ya];omega
   have hql:=hq _ (ZS hi);rw[et];generalize Ss[i]=q at hql ⊢;generalize (Ss.take i).flatMap (WY ps)=A at hfl ⊢;rw[show(arg (D.lst (Ss.map stD))).sub (stD q)=Pu.S.sh (stD q)from J3 q]
   refine⟨rfl,ps,rfl,by omega,?_⟩;refine⟨rfl,VL (xs:=runI 1 ps.length) (emb:=D.int) (fun j γ'=>γ'=[some (.bor (plD ps)),some (.bor (.lst (Ss.map stD))),some (.own ((A++((((runI 1 ps.length).take j).filter fun x=>!decide (x∈q.1)).map fun x=>(q.1++[x],q.2+WG ps q.1 x))).map stD)),some (.sh (tD q.1)),some (.sh (.int q.2)),none]) (by simp;rfl) ?_ ?_⟩
   ·rintro j hj γ' rfl;have hm:=run_mem.mp (ZS hj);have ej:(runI 1 ps.length).take (j+1)=(runI 1 ps.length).take j++[(runI 1 ps.length)[j]]:=Ym hj;have hpl:=List.length_filter_le (fun x=>!decide (x∈q.1)) ((runI 1 ps.length).take j);rw[Ya]at hpl;have hrl:(runI 1 ps.length).length=ps.length:=Qu _;rw[ej,List.filter_append,Yu];generalize (runI 1 ps.length)[j]=x at hm ⊢;generalize hP:(((runI 1 ps.length).take j).filter fun x=>!decide (x∈q.1))=P at hpl ⊢;refine⟨_,.ti _ _,ite2 (fun g=>?_) (fun g=>?_)⟩
    ·refine⟨by simp,_,_,rfl,rfl,?_,ps,q.1,x,rfl,hF,by omega,hm.1,hm.2,by simp,?_,?_⟩
     ·show(q.1.map D.int).length+1<=100000;rw[Zt];omega
     ·rw[ZF,Zt,Zt,Zt];omega
     ·rw[show([x].filter fun x=>!decide (x∈q.1))=[x]from Yo g]
      show[_,_,some (Pu.S.own (O.lst ((A.map stD++(P.map fun x=>(q.1++[x],q.2+WG ps q.1 x)).map stD)++[.tup [.tup (q.1.map D.int++[D.int x]),.int (q.2+WG ps q.1 x)]]))),_,_,_]=_
      have e:D.tup [.tup (q.1.map D.int++[D.int x]),.int (q.2+WG ps q.1 x)]=stD (q.1++[x],q.2+WG ps q.1 x):=by
       unfold stD tD;rw[Yu];rfl
      rw[e];simp[Yu]
    ·rw[show([x].filter fun x=>!decide (x∈q.1))=[]from Yp g]
     simp;rfl
   ·rintro γ' rfl;rw[Wb];rfl
  ·rintro γ' rfl;rw[Wb];exact hR
def K9(G:Glob K mg)(DD:Def K mg "_law_draw" Jx ["_law_script","_law_k"])(Zg:U8 P w K mg base)(Zc:VX P w K mg base)
  : JA P w K mg base:=by
 refine DD.oz (k:=1) Tj (fun _ _ _ _ _ _ E hr=>⟨_,(Wu (WE (cq K hr (Wq WU (fz Zc hr (bz (pv 0) Wp)) Wp) Wp) (Wr (Wx (fz Zc hr (bz (pv 0) (Wq WD Wp (pv 1))))))
   WB) (Wr (Wx (fz Zg hr (bz (fz Zc hr (bz (pv 0) Wp)) (pv 1)))))), (Wt (WC (WI (Jr (WV (W4 (tz (Wn 0) Wo)) Wo) Wo)) (W2 (W4 (tz (Wn 0) (W9 Wo (Wn 1))))) W8) (W2 (W4 (tz (W4 (tz (Wn 0) Wo)) (Wn 1)))))⟩) (.a fun ds R X h=>?_)
 ·obtain⟨ns,k,rfl,hk,hR⟩:=h;refine⟨rfl,?_⟩;refine⟨ns,0,rfl,by decide,fun v=>⟨(by show(0:Int)<2;decide),ite2 (fun _=>?_) (fun _=>?_)⟩⟩
  ·exact⟨ns,_,rfl,by omega,fun v=>hR v⟩
  ·exact⟨ns,1,rfl,by decide,fun u=>⟨_,_,rfl,fun v=>hR v⟩⟩
def N6(G:Glob K mg)(DD:Def K mg "_law_tuples" VR ["_law_found","_law_due"])(Zb:Vu P w K mg base)
  : Xi P w K mg base:=by
 refine DD.oz (k:=1) VG (fun _ _ _ _ _ _ E hr=>⟨_,(Wu (WE (PW.pt (Qj (WZ (WX (K:=K) (Qm (QC (K:=K)) (by rfl) G.isinstance Yg (bz (pv 0) (Q3 (v:=.ty "list") rfl G.list boot_list rfl))))) (Q2 (cn K hr (ln K G.len (pv 0)) (ln K G.len (pv 1)))))) (Wr (Wx WS))
   WB) (Wu (Qh ZP rfl (Qw rfl G.range (az (ln K G.len (pv 1)))) (gz 2 VG.nd) (Wu (WE (PW.pt (Qj (WZ (WX (K:=K) (Qm (QC (K:=K)) (by rfl) G.isinstance Yg (bz (jx K (pv 0) (pv 2)) (Q3 (v:=.ty "tuple") rfl G.tuple boot_tuple rfl))))) (Q2 (cn K hr (ln K G.len (jx K (pv 0) (pv 2))) (ln K G.len (jx K (pv 1) (pv 2))))))) (Wr (Wx WS))
   WB) (Wr (Qh ZP rfl (Qw rfl G.range (az (ln K G.len (jx K (pv 1) (pv 2))))) (gz 3 VG.nd) (Wr (WE (PW.pt (Qj (WZ (WX (K:=K) (fz Zb hr (az (jx K (jx K (pv 0) (pv 2)) (pv 3)))))) (Q2 (cn K hr (jx K (jx K (pv 0) (pv 2)) (pv 3)) (jx K (jx K (pv 1) (pv 2)) (pv 3)))))) (Wr (Wx WS))
   WB)))))) (Wr (Wx WS)))), (Wt (WC (Ql (Qa (Qc (QE (tz (Wn 0) QB)))) (WI (Qy (WM (sz (Wn 0))) (WM (sz (Wn 1)))))) (W2 WQ) W8) (Wt (Qf [2,3] (Q0 (sz (WM (sz (Wn 1))))) (Wv 2) (Wt (WC (Ql (Qa (Qc (QE (tz (Ws (Wn 0) (Wn 2)) QB)))) (WI (Qy (WM (sz (Ws (Wn 0) (Wn 2)))) (WM (sz (Ws (Wn 1) (Wn 2))))))) (W2 WQ) W8) (Qf [3] (Q0 (sz (WM (sz (Ws (Wn 1) (Wn 2)))))) (Wv 3) (WC (Ql (Qa (Qc (W4 (sz (Ws (Ws (Wn 0) (Wn 2)) (Wn 3)))))) (WI (Qy (Ws (Ws (Wn 0) (Wn 2)) (Wn 3)) (Ws (Ws (Wn 1) (Wn 2)) (Wn 3))))) (W2 WQ) W8)))) (W2 WQ)))⟩) (.a fun ds R X h=>?_)
 ·obtain⟨ps,rfl,hz,hR⟩:=h;refine⟨rfl,?_⟩;have hl:(ps.map prD).length=ps.length:=Zt ..;refine⟨_,.same _,iteF (Vk rfl ?_)⟩;refine⟨⟨by omega,by omega⟩,Q7 (fun i γ'=>∃t,γ'=[some (.bor (.lst (ps.map prD))),some (.bor (.lst (ps.map prD))),none,t]) ⟨_,rfl⟩ ?_ ?_⟩
  ·rintro i γ' hi ⟨t,rfl⟩;have hi':i<(((ps.map prD).length:Nat):Int).toNat:=hi;have ez:(0:Int)+(i:Int)=(i:Int):=by omega
   have hb:i<ps.length:=by omega
   have ha:atI (ps.map prD) (0+(i:Int))=some (prD ps[i]):=by rw[ez];exact X4 hb
   generalize ps[i]=q at ha;refine⟨_,ha,_,.same _,iteF ⟨_,ha,_,ha,?_⟩⟩;refine⟨_,ha,⟨(by show -(2 ^ 62)<=(2:Int);decide),(by show(2:Int)<2 ^ 62;decide)⟩,Q7 (fun j γ'=>∃t,γ'=[some (.bor (.lst (ps.map prD))),some (.bor (.lst (ps.map prD))),some (.sh (.int (0+(i:Int)))),t]) ⟨_,rfl⟩ ?_ ?_⟩
   ·rintro j γ' hj ⟨t,rfl⟩;have hj2:j<2:=hj
    obtain⟨z,ea⟩:∃z:Int,atI [D.int q.1,D.int q.2] (0+(j:Int))=some (.int z):=by
     have:j=0\/j=1:=by omega
     rcases this with rfl|rfl
     ·exact⟨_,rfl⟩
     ·exact⟨_,rfl⟩
    exact⟨_,ha,_,ea,z,rfl,iteF ⟨_,ha,_,ea,_,ha,_,ea,Vk rfl ⟨_,rfl⟩⟩⟩
   ·rintro γ' ⟨t,rfl⟩;exact⟨_,rfl⟩
  ·rintro γ' ⟨t,rfl⟩;exact hR
def Tw(G:Glob K mg)(DD:Def K mg "_law_stand_is" Js ["_law_found","_law_many"])(Zb:Vu P w K mg base)
  : XM P w K mg base:=by
 refine DD.oz (k:=1) JN (fun _ _ _ _ _ _ E hr=>⟨_,(Wu (WE (PW.pt (Qj (WZ (WX (K:=K) (Qm (QC (K:=K)) (by rfl) G.isinstance Yg (bz (pv 0) (Q3 (v:=.ty "tuple") rfl G.tuple boot_tuple rfl))))) (Qj (cn K hr (ln K G.len (pv 0)) Wp) (Q2 (WZ (WX (K:=K) (Qm (QC (K:=K)) (by rfl) G.isinstance Yg (bz (jx K (pv 0) Wp) (Q3 (v:=.ty "tuple") rfl G.tuple boot_tuple rfl))))))))) (Wr (Wx WS))
   WB) (Wu (WE (PW.pt (Qj (WZ (WX (K:=K) (fz Zb hr (az (jx K (pv 0) Wp))))) (Q2 (cn K hr (ln K G.len (jx K (pv 0) Wp)) (pv 1))))) (Wr (Wx WS))
   WB) (Wu (Qh ZP rfl (TB (K:=K) (jx K (pv 0) Wp)) (gz 2 JN.nd) (Wr (WE (WZ (WX (K:=K) (fz Zb hr (az (pv 2))))) (Wr (Wx WS))
   WB))) (Wr (Wx (Xt (UW (K:=K) (show _<cLine from hr.units0)) (Qm (TY (K:=K)) (by rfl) G.sorted boot_sorted (az (jx K (pv 0) Wp))) (Ve (KG rfl) (by rfl) G.list boot_list (az (Ve UV (by rfl) G.range boot_range (bz Wp (Wq WD (pv 1) Wp))))) (Qp _))))))), (Wt (WC (Ql (Qa (Qc (QE (tz (Wn 0) QB)))) (Ql (WI (Qy (WM (sz (Wn 0))) Wo)) (Qa (Qc (QE (tz (Ws (Wn 0) Wo) QB)))))) (W2 WQ) W8) (Wt (WC (Ql (Qa (Qc (W4 (sz (Ws (Wn 0) Wo))))) (WI (Qy (WM (sz (Ws (Wn 0) Wo))) (Wn 1)))) (W2 WQ) W8) (Wt (Qf [2] (KM (Ws (Wn 0) Wo)) (Wv 2) (WC (Qa (Qc (W4 (sz (Wn 2))))) (W2 WQ) W8)) (W2 (Jr (S7 (sz (Ws (Wn 0) Wo))) (NK (tz Wo (W9 (Wn 1) Wo))))))))⟩) (.a fun ds R X h=>?_)
 ·obtain⟨q,n,rfl,hn,hp,hR⟩:=h;refine⟨rfl,?_⟩;have hl:q.1.length=n:=by rw[hp.length_eq,Qu]
  have hl2:(q.1.map D.int).length=n:=by rw[Zt];exact hl
  unfold Qb;rw[Z4,Z4,J3];refine⟨true,.same _,iteF ?_⟩;refine⟨_,rfl,true,.same _,iteF ?_⟩;refine⟨_,rfl,q.2,rfl,iteF ⟨_,rfl,Vk (by rw[hl2]) ?_⟩⟩;refine⟨_,rfl,_,rfl,VL (s:=.sh .non) (xs:=q.1) (emb:=D.int) (fun i γ'=>γ'=[some (.sh (stD q)),some (.sh (.int n)),none]) rfl ?_ ?_⟩
  ·rintro i hi γ' rfl;exact⟨_,rfl,iteF rfl⟩
  ·rintro γ' rfl;refine⟨_,rfl,q.1,rfl,by omega,fun ns h1 h2=>?_⟩;have nd:ns.Nodup:=(h1.trans hp).symm.nodup (Qs n);have es:ns=runI 1 n:=Um (TQ h2 nd) (QW n) fun z=>(h1.trans hp).mem_iff;have en:((n:Int)+1-1).toNat=n:=by omega
   refine⟨⟨by decide,by decide,by omega,by omega⟩,by omega,_,_,rfl,rfl,?_⟩;show R (.sh (.bl (decide (ns=runI 1 ((n:Int)+1-1).toNat))));rw[en,Z7 es];exact hR
def Np(G:Glob K mg)(DD:Def K mg "_law_price_list" J7 ["_law_prices_here","_law_strips_here"])(Zh:XG P w K mg base)
  : U7 P w K mg base:=by
 refine DD.oz (k:=1) Qq (fun _ _ _ _ _ _ E hr=>⟨_,(Wu (Pu.pz 2 Qq.nd (Ve (Sz rfl) (by rfl) G.tuple boot_tuple (az (Ve UV (by rfl) G.range boot_range (bz Wp (Wq WD (ln K G.len (pv 1)) Wp)))))) (Wu (WE (PW.pt (Qj (XD (NP (QN hr) (pv 2) (pv 0))) (Q2 (cn K hr (UG (QN hr) (pv 0) (pv 2) (fun _ _=>rfl)) Wp)))) (Wr (Wx WS))
   WB) (Wu (Qh ZP rfl (Sg (pv 0)) (Kg (K:=K) (n:=2) rfl (Vt (gz 3 Qq.nd) (Vt (gz 4 Qq.nd) UX))) (Wu (Pu.pz 5 Qq.nd (Xt (Su (K:=K) (show _<cLine from hr.units0)) (pv 3) (pv 2) (Qp _))) (Wu (Qh ZP rfl (Qw rfl G.range (az (Wq QT (ln K G.len (pv 1)) Wp))) (gz 6 Qq.nd) (Wu (Pu.pz 7 Qq.nd (Wq Q1 (jx K (jx K (pv 1) (Wq QT (jx K (pv 3) (pv 6)) Wp)) Wp) (jx K (jx K (pv 1) (Wq QT (jx K (pv 3) (Wq WD (pv 6) Wp)) Wp)) Wp))) (Wu (Pu.pz 8 Qq.nd (Wq WD (UG (QN hr) (pv 0) (fz Zh hr (bz (pv 3) (pv 6))) (fun _ _=>rfl)) (pv 7))) (Wu (WE (Qv Jj (pv 4) (pv 8) (Qp _)) (Wr (Wx WS))
   WB) (Wr (WE (cq K hr (pv 4) (pv 8)) (Wr (Pu.pz 5 Qq.nd WS))
   WB)))))) (Wr (WE (WZ (WX (K:=K) (pv 5))) (Wr (Wx WS))
   WB))))) (Wr (Wx WS))))), (Wt (W5 (SC (tz Wo (W9 (WM (sz (Wn 1))) Wo))) (Wv 2)) (Wt (WC (Ql (st_b (K4 (Wn 2) (Wn 0))) (WI (Qy (XQ (Wn 0) (Wn 2)) Wo))) (W2 WQ) W8) (Wt (Qf [3,4,5,6,7,8] (PH (Wn 0)) (XZ (VA (Wv 3) (VA (Wv 4) Uo))) (Wt (W5 (Se (Wn 3) (Wn 2)) (Wv 5)) (Wt (Qf [6,7,8] (Q0 (sz (QF (WM (sz (Wn 1))) Wo))) (Wv 6) (Wt (W5 (Qz (Ws (Ws (Wn 1) (QF (Ws (Wn 3) (Wn 6)) Wo)) Wo) (Ws (Ws (Wn 1) (QF (Ws (Wn 3) (W9 (Wn 6) Wo)) Wo)) Wo)) (Wv 7)) (Wt (W5 (W9 (XQ (Wn 0) (W4 (tz (Wn 3) (Wn 6)))) (Wn 7)) (Wv 8)) (Wt (WC (WI (Jb (Wn 4) (Wn 8))) (W2 WQ) W8) (WC (WI (Jr (Wn 4) (Wn 8))) (W5 WQ (Wv 5)) W8))))) (WC (Qa (Qc (Wn 5))) (W2 WQ) W8)))) (W2 WQ))))⟩) (.a fun ds R X h=>?_)
 ·obtain⟨ps,rfl,hF,hz,hR⟩:=h;refine⟨rfl,?_⟩;have hl:(ps.map prD).length=ps.length:=Zt ..;have en:((((ps.map prD).length:Nat):Int)+1-1).toNat=ps.length:=by omega
  have hw:∀y:Int,1<=y->y<=ps.length->1<=wdM ps y/\wdM ps y<=1000:=fun y a b=>(hF _ (X8 a b)).2.2;have h0:valV ((W1 ps ps.length).map entS) (kT (runI 1 ps.length))=some (.int 0):=by rw[Ux (.refl _),Pa]
  refine⟨⟨by decide,by decide,by omega,by omega⟩,by omega,?_⟩;rw[en];refine⟨_,kT (runI 1 ps.length),rfl,V8 _,?_⟩;rw[h0];refine iteF ⟨_,kT (runI 1 ps.length),.int 0,rfl,V8 _,h0,rfl,?_⟩;have hrows:=Vw ps ps.length
  have hrow:∀q∈W1 ps ps.length,q.1.Perm (runI 1 ps.length)/\q.2=invM ps q.1:=fun q hq=>by
   rw[hrows]at hq;obtain⟨r,hr,rfl⟩:=ZY.mp hq;have h2:=(Jq (Qs ps.length)).mp (by rw[Qu];exact hr);exact⟨h2,Jf (ps:=ps) (t:=r) (pre:=[]) (by simpa using h2)⟩
  have hpr:∀r:List Int,r.Perm (runI 1 ps.length)->valV ((W1 ps ps.length).map entS) (kT r)=some (.int (invM ps r)):=fun r h=>Ux h;generalize W1 ps ps.length=L at hrow hpr ⊢;refine⟨_,rfl,U9 L,Tf (fun i γ'=>γ'=[some (.sh (.dF (L.map entS))),some (.bor (plD ps)),some (.sh (tD (runI 1 ps.length))),none,none,none,none,none,none]) rfl ?_ ?_⟩
  ·rintro i hi γ' rfl;have hi':i<L.length:=by simpa using hi
   rw[Y2,PX];obtain⟨hr,hc⟩:=hrow _ (ZS hi');generalize L[i]=q at hr hc ⊢;obtain⟨r,c⟩:=q
   dsimp only at hr hc
   subst hc;have lr:r.length=ps.length:=by rw[hr.length_eq,Qu]
   have hin:∀z∈r,1<=z/\z<=ps.length:=fun z hz=>run_mem.mp (hr.mem_iff.mp hz);refine⟨rfl,r,runI 1 ps.length,rfl,rfl,?_⟩;refine⟨⟨by omega,by omega⟩,Q7 (fun k γ'=>∃b:Bool,(r=runI 1 ps.length->b=true)/\(∀j,j<k->r.getD (j+1) 0<r.getD j 0->b=true)/\γ'=[some (.sh (.dF (L.map entS))),some (.bor (plD ps)),some (.sh (tD (runI 1 ps.length))),some (.sh (tD r)),some (.sh (.int (invM ps r))),some (.sh (.bl b)),none,none,none]) ⟨_,fun e=>Z7 e,fun j hj=>absurd hj (Nat.not_lt_zero _),rfl⟩ ?_ ?_⟩
   ·rintro k γ' hk ⟨b,b1,b2,rfl⟩;have hk1:k<(((ps.map prD).length:Nat)-1:Int).toNat:=hk;obtain⟨A,x,y,B,er,la,_,ex,ey⟩:=TN (ns:=r) (p:=k+1) (by omega) (by omega);have hx:=hin x (by rw[er];simp);have hy:=hin y (by rw[er];simp);have wx:=hw x hx.1 hx.2;have wy:=hw y hy.1 hy.2;have ka:k=A.length:=by omega
    have lB:A.length+B.length+2=r.length:=by rw[er];simp;omega
    have ax:atI (r.map D.int) (0+(k:Int))=some (.int x):=by
     rw[er,show(0:Int)+(k:Int)=((A.length:Nat):Int) by omega];exact Q5 (QG (by simp))
    have ay:atI (r.map D.int) (0+(k:Int)+1)=some (.int y):=by
     rw[er,show(0:Int)+(k:Int)+1=((A.length+1:Nat):Int) by omega];exact Q5 (QG (by rw[ZZ (by omega)];simp))
    have hsw:(A++y::x::B).Perm (runI 1 ps.length):=by
     rw[er]at hr;exact((List.Perm.swap x y B).append_left A).trans hr
    refine⟨_,ax,_,Vo hx.1 hx.2,_,rfl,_,ay,_,Vo hy.1 hy.2,_,rfl,.inl ⟨by show -(2 ^ 64)<wdM ps x;omega,by show wdM ps x<2 ^ 64;omega⟩,?_⟩;refine⟨A,B,x,y,by rw[er,show(0:Int)+(k:Int)=((A.length:Nat):Int) by omega];rfl,by omega,by omega,?_⟩;refine⟨_,kT (A++y::x::B),.int (invM ps (A++y::x::B)),rfl,V8 _,hpr _ hsw,rfl,?_⟩
    have hne:x≠y:=fun e=>by
     have nd:=hr.symm.nodup (Qs _);rw[er,e]at nd
     have:=(YE.mp nd).2.1
     exact(ZX.mp this).1 ZH
    have hpos:0<wdM ps x*wdM ps y:=Int.mul_pos (by omega) (by omega)
    have key:(x<y->invM ps (A++y::x::B)=invM ps r+wdM ps x*wdM ps y)/\(y<x->invM ps r=invM ps (A++y::x::B)+wdM ps x*wdM ps y):=by
     refine⟨fun h=>by rw[er];exact Jh h B A,fun h=>?_⟩;rw[er,Jh h B A,Int.mul_comm]
    have lt:¬invM ps (A++y::x::B)+wdM ps x*wdM ps y<invM ps r:=fun z=>by
     rcases Int.lt_or_gt_of_ne hne with h|h
     ·have:=key.1 h;omega
     ·have:=key.2 h;omega
    refine ite2 (fun g=>absurd (show invM ps (A++y::x::B)+wdM ps x*wdM ps y<invM ps r from Yc g) lt) (fun _=>?_)
    refine ite2 (fun g=>?_) (fun g=>?_)
    ·exact⟨true,fun _=>rfl,fun _ _ _=>rfl,rfl⟩
    ·have g':¬invM ps r=invM ps (A++y::x::B)+wdM ps x*wdM ps y:=fun z=>g (Z7 z);refine⟨b,b1,fun j hj hf=>?_,rfl⟩;by_cases e:j=k
     ·subst e;rw[Nat.add_sub_cancel]at ex;rw[ex,ey]at hf;exact absurd (key.2 hf) g'
     ·exact b2 j (by omega) hf
   ·rintro γ' ⟨b,b1,b2,rfl⟩
    have hb:b=true:=by
     by_cases e:r=runI 1 ps.length
     ·exact b1 e
     ·obtain⟨a,x,y,b',er,hf⟩:=PR hr e;have la:a.length+b'.length+2=r.length:=by rw[er];simp;omega
      refine b2 a.length (by show a.length<(((ps.map prD).length:Nat)-1:Int).toNat;omega) ?_;have g1:r.getD a.length 0=x:=by rw[er,Zw];simp
      have g2:r.getD (a.length+1) 0=y:=by rw[er,Zw,ZZ (by omega)];simp
      rw[g1,g2];exact hf
    subst hb;exact rfl
  ·rintro γ' rfl;exact hR
def Kw(G:Glob K mg)(DD:Def K mg "all_stands" J5 ["strips"])(Zi:Ul P w K mg base)(Zj:X6 P w K mg base)
  : Xn P w K mg base:=by
 refine DD.oz (k:=2) VB (fun _ _ _ _ _ _ E hr=>⟨_,(Wu (VF (fz Zi hr (az (pv 0)))) (Wu (Pu.pz 1 VB.nd (QA (az (QJ (bz (QJ Qg) Wp))))) (Wu (Qh ZP rfl (Qw rfl G.range (az (ln K G.len (pv 0)))) (gz 2 VB.nd) (Wr (Pu.pz 1 VB.nd (fz Zj hr (bz (pv 0) (pv 1)))))) (Wr (Wx (pv 1)))))), (Wt (Pi (W4 (sz (Wn 0)))) (Wt (W5 (QD (sz (QM (tz (QM Qx) Wo)))) (Wv 1)) (Wt (Qf [2] (Q0 (sz (WM (sz (Wn 0))))) (Wv 2) (W5 (W4 (tz (Wn 0) (Wn 1))) (Wv 1))) (Jg 1))))⟩) (.a fun ds R X h=>?_)
 ·obtain⟨ps,rfl,hF,hz,hR⟩:=h;refine⟨rfl,?_⟩;have hl:(ps.map prD).length=ps.length:=Zt ..;refine⟨ps,rfl,hz,by simp,by simp,by simp,?_⟩;refine⟨⟨by omega,by omega⟩,Q7 (fun i γ'=>γ'=[some (.bor (plD ps)),some (.own ((W1 ps i).map stD)),none]) ?_ ?_ ?_⟩
  ·rfl
  ·rintro i γ' hi rfl;have hi':i<(((ps.map prD).length:Nat):Int).toNat:=hi;have h6:(W1 ps i).length<=7 ^ 6:=ZA (JU hz i) (Nat.pow_le_pow_right (n:=7) (by decide) (by omega));exact⟨ps,W1 ps i,rfl,hF,hz,ZA h6 (by decide),(fun q hq=>by rw[UU hq];omega),rfl⟩
  ·rintro γ' rfl;have e:(((ps.map prD).length:Nat):Int).toNat=ps.length:=by omega
   show R (.own ((W1 ps (((ps.map prD).length:Nat):Int).toNat).map stD));rw[e];exact hR
def Nz(G:Glob K mg)(DD:Def K mg "_law_strips" VH ["_law_script","_law_menu_here","_law_many"])(Zd:JA P w K mg base)(Zk:X9 P w K mg base)
  : JH P w K mg base:=by
 refine DD.oz (k:=2) QZ (fun _ _ _ _ _ _ E hr=>⟨_,(Wu (Pu.pz 3 QZ.nd (QA Qg)) (Wu (Qh ZP rfl (Qw rfl G.range (az (pv 2))) (gz 4 QZ.nd) (Wu (Pu.pz 5 QZ.nd (fz Zd hr (bz (pv 0) (Wq WD Wp (pv 4))))) (Wu (Pu.pz 6 QZ.nd (Wq WD (jx K (pv 1) Wp) (Wq WU (Wq QS (pv 5) (jx K (pv 1) Wp)) (jx K (pv 1) Wp)))) (Wr (VF (Us PySem.F.plainAttrs_list PySem.F.slot_list_append PySem.F.type_list_append VT (pv 3) (az (QJ (bz (fz Zk hr (bz (pv 1) (Wq WU (pv 5) (jx K (pv 1) Wp)))) (pv 6)))))))))) (Wr (Wx (pv 3))))), (Wt (W5 (QD Qx) (Wv 3)) (Wt (Qf [4,5,6] (Q0 (sz (Wn 2))) (Wv 4) (Wt (W5 (W4 (tz (Wn 0) (W9 Wo (Wn 4)))) (Wv 5)) (Wt (W5 (W9 (Ws (Wn 1) Wo) (WV (QL (Wn 5) (Ws (Wn 1) Wo)) (Ws (Wn 1) Wo))) (Wv 6)) (Vf 6 (UP 3 (QM (tz (W4 (tz (Wn 1) (WV (Wn 5) (Ws (Wn 1) Wo)))) (Wn 6)))))))) (Jg 3)))⟩) (.a fun ds R X h=>?_)
 ·obtain⟨ns,m,n,rfl,hM,h0,h1,hR⟩:=h;refine⟨rfl,?_⟩;have hMM:=hM;obtain⟨a,b,c,d,e,rfl,ha,hb,hc,hd,he⟩:=hM;refine⟨by simp,⟨by omega,by omega⟩,Q7 (fun i γ'=>∃ps:List (Int×Int),γ'=[some (.bor (.scr ns)),some (.bor (.lst (([a,b,c,d,e]:List Int).map D.int))),some (.sh (.int n)),some (.own (ps.map prD)),none,none,none]/\Field ps/\ps.length=i) ⟨[],rfl,(fun q hq=>by cases hq),rfl⟩ ?_ ?_⟩
  ·rintro i γ' hi ⟨ps,rfl,hF,hl⟩;have hlm:(ps.map prD).length=ps.length:=Zt ..;have hi':i<n.toNat:=hi;refine⟨ns,_,rfl,by omega,fun v=>?_⟩;have q1:=Int.emod_nonneg (v / a) (show d≠0 by omega);have q2:=Int.emod_lt_of_pos (v / a) (show 0<d by omega);refine⟨_,rfl,_,rfl,⟨by omega,by omega⟩,_,rfl,(by show 0<d;omega),_,rfl,(by show 0<a;omega),[a,b,c,d,e],_,rfl,hMM,fun h l1 l2 _=>⟨by simp,by omega,ps++[(h,e+v / a % d)],?_,fun q hq=>?_,by rw[ZF,hl];rfl⟩⟩
   ·rw[Yu];rfl
   ·rcases Yr.mp hq with hq|hq
    ·exact hF q hq
    ·rw[ZG]at hq;subst hq;exact⟨l1,l2,by show 1<=e+v / a % d;omega,by show e+v / a % d<=1000;omega⟩
  ·rintro γ' ⟨ps,rfl,hF,hl⟩;exact hR ps hF hl
def KF(G:Glob K mg)(DD:Def K mg "_law_prices" VI ["_law_told","_law_many"])(Zl:XM P w K mg base)
  : X3 P w K mg base:=by
 refine DD.oz (k:=2) QO (fun _ _ _ _ _ _ E hr=>⟨_,(Wu (Pu.pz 2 QO.nd Wp) (Wu (Qh ZP rfl (Qw rfl G.range (az (pv 1))) (gz 3 QO.nd) (Wr (Pu.pz 2 QO.nd (Wq Q1 (pv 2) (Wq WD (pv 3) Wp))))) (Wu (WE (PW.pt (Qj (WZ (WX (K:=K) (Qm (QC (K:=K)) (by rfl) G.isinstance Yg (bz (pv 0) (Q3 (v:=.ty "list") rfl G.list boot_list rfl))))) (Q2 (cn K hr (ln K G.len (pv 0)) (pv 2))))) (Wr (Wx J4))
   WB) (Wu (Pu.pz 4 QO.nd To) (Wu (Qh ZP rfl (Qw rfl G.range (az (pv 2))) (gz 3 QO.nd) (Wu (WE (WZ (WX (K:=K) (fz Zl hr (bz (jx K (pv 0) (pv 3)) (pv 1))))) (Wr (Wx J4))
   WB) (SE (WE (PW.pt (SG (Qv Jj (pv 3) Wp (Qp _)) (Nt (Qv (TJ (K:=K) (show _<cLine from hr.units0)) (jx K (jx K (pv 0) (Wq QT (pv 3) Wp)) Wp) (jx K (jx K (pv 0) (pv 3)) Wp) (Qp _))))) (Wr (Wx J4))
   WB) (Wr (N7 (QN hr) (pv 4) (jx K (jx K (pv 0) (pv 3)) Wp) (jx K (jx K (pv 0) (pv 3)) Wp) rfl))))) (Wr (N1 (pv 4)))))))), (Wt (W5 Wo (Wv 2)) (Wt (Qf [3] (Q0 (sz (Wn 1))) (Wv 3) (W5 (Qz (Wn 2) (W9 (Wn 3) Wo)) (Wv 2))) (Wt (WC (Ql (Qa (Qc (QE (tz (Wn 0) QB)))) (WI (Qy (WM (sz (Wn 0))) (Wn 2)))) (W2 VE) W8) (Wt (W5 N9 (Wv 4)) (Wt (Qf [3] (Q0 (sz (Wn 2))) (Wv 3) (Wt (WC (Qa (Qc (W4 (tz (Ws (Wn 0) (Wn 3)) (Wn 1))))) (W2 VE) W8) (T5 (WC (Sl (WI (Jb (Wn 3) Wo)) (WI (K3 (Ws (Ws (Wn 0) (QF (Wn 3) Wo)) Wo) (Ws (Ws (Wn 0) (Wn 3)) Wo)))) (W2 VE) W8) (Pf 4 (Ws (Ws (Wn 0) (Wn 3)) Wo) (Ws (Ws (Wn 0) (Wn 3)) Wo))))) (K6 4))))))⟩) (.a fun ds R X h=>?_)
 ·obtain⟨ps,rfl,hz,hR⟩:=h;refine⟨rfl,?_⟩;have hn:ps.length<8:=by omega
  obtain⟨f1,f2⟩:=XC _ hn;have hrows:=Vw ps ps.length
  have hlen:(W1 ps ps.length).length=facP ps.length:=by
   rw[hrows,Zt,U0 (Qs _),Qu,f1]
  have hl2:((W1 ps ps.length).map stD).length=facP ps.length:=by rw[Zt];exact hlen
  have hmono:∀k,k<=ps.length->facP k<=5040:=fun k hk=>(XC k (by omega)).2
  have hsrt:((W1 ps ps.length).map (·.1)).Pairwise sl:=by
   rw[hrows,Yl,show((fun x:List Int×Int=>x.1)∘fun r=>(r,cstA ps [] r))=id from rfl,List.map_id]
   exact JB (QW ps.length) ps.length
  have hrow:∀q∈W1 ps ps.length,q.1.Perm (runI 1 ps.length):=fun q hq=>by
   rw[hrows]at hq;obtain⟨r,hr,rfl⟩:=ZY.mp hq
   have:=Qu ps.length
   rw[←this]at hr;have h2:=(Jq (Qs ps.length)).mp (by rw[Qu]at hr ⊢;exact hr);exact h2
  generalize W1 ps ps.length=L at hlen hl2 hsrt hrow hR ⊢;refine⟨⟨by omega,by omega⟩,Q7 (fun i γ'=>γ'=[some (.bor (.lst (L.map stD))),some (.sh (.int ps.length)),some (.sh (.int (facP i:Nat))),none,none]) rfl ?_ ?_⟩
  ·rintro i γ' hi rfl;have hi':i<((ps.length:Nat):Int).toNat:=hi
   have:=hmono i (by omega)
   refine⟨.inl ⟨by omega,by omega⟩,?_⟩;show _=[_,_,some (S.sh (.int ((facP i*(i+1):Nat):Int))),_,_];rw[show((facP i*(i+1):Nat):Int)=(facP i:Int)*(0+(i:Int)+1) by rw[Int.natCast_mul];congr 1;omega];rfl
  ·rintro γ' rfl;rw[ZW];refine⟨true,.same _,iteF (Vk (by rw[hl2]) ?_)⟩;refine⟨⟨by omega,by omega⟩,Q7 (fun i γ'=>γ'=[some (.bor (.lst (L.map stD))),some (.sh (.int ps.length)),some (.sh (.int (facP ps.length:Nat))),none,some (.own (.dT ((L.take i).map entS)))]) rfl ?_ ?_⟩
   ·rintro i γ' hi rfl;have hi1:i<((facP ps.length:Nat):Int).toNat:=hi;have hi':i<L.length:=by omega
    have at_:∀(j:Nat) (k:Int) (hj:j<L.length),k=(j:Int)->atI (L.map stD) k=some (stD L[j]):=fun j k hj e=>by rw[e];exact X4 hj
    have sb:∀q,(S.bor (D.lst (L.map stD))).sub (stD q)=S.sh (stD q):=fun q=>J3 q;refine⟨_,at_ i _ hi' (by omega),?_⟩;rw[sb];refine⟨L[i],ps.length,rfl,hz,hrow _ (ZS hi'),iteF ?_⟩;refine SI (fun γ'=>γ'=[some (.bor (.lst (L.map stD))),some (.sh (.int ps.length)),some (.sh (.int (facP ps.length:Nat))),some (.sh (.int (0+(i:Int)))),some (.own (.dT ((L.take i).map entS)))]) ?_ ?_
    ·refine ite2 (fun g=>?_) (fun g=>iteF rfl);have g':0<0+(i:Int):=Yc g;refine⟨_,at_ (i-1) _ (by omega) (by omega),?_⟩;rw[sb];refine⟨_,rfl,_,at_ i _ hi' (by omega),?_⟩;rw[sb]
     have hs:sl L[i-1].1 L[i].1:=by
      have:=List.pairwise_iff_getElem.mp hsrt (i-1) i (by rw[Zt];omega) (by rw[Zt];exact hi') (by omega)
      rw[Y2,Y2]at this;exact this
     refine⟨_,rfl,L[i-1].1,L[i].1,rfl,rfl,?_,?_⟩
     ·rw[(hrow _ (ZS (show i-1<L.length by omega))).length_eq,(hrow _ (ZS hi')).length_eq]
     ·rw[U1 hs];exact rfl
    ·rintro γ' rfl;refine⟨_,at_ i _ hi' (by omega),?_⟩;rw[sb];refine⟨_,rfl,_,at_ i _ hi' (by omega),?_⟩;rw[sb];refine⟨_,rfl,kT L[i].1,.int L[i].2,V8 _,rfl,by rw[Zt,Ya];omega,?_⟩
     have hno:valV ((L.take i).map entS) (kT L[i].1)=none:=by
      refine Tb fun p hp e=>?_;obtain⟨q,hq,rfl⟩:=ZY.mp hp;obtain⟨j,hj,rfl⟩:=List.getElem_of_mem hq;rw[Ya]at hj;rw[List.getElem_take]at e
      have:=List.pairwise_iff_getElem.mp hsrt j i (by rw[Zt];omega) (by rw[Zt];exact hi') (by omega)
      rw[Y2,Y2,JG e]at this;exact J2 this this
     rw[Kn _ hno,Ym hi',Yu];rfl
   ·rintro γ' rfl;rw[ZW,←hlen,Wb];exact hR
def Ko(G:Glob K mg)(DD:Def K mg "law" Qi ["_law_script"])(Zm:XW P w K mg base)(Zn:JH P w K mg base)(Zo:Xn P w K mg base)(Zp:X3 P w K mg base)(Zq:U7 P w K mg base)(Zd:JA P w K mg base)(Zr:Xi P w K mg base)(Zb:Vu P w K mg base)(Zc:VX P w K mg base)
  : Tz P w K mg base:=by
 refine DD.oz (k:=3) QU (fun _ _ _ _ _ _ E hr=>⟨_,(Wu (Pu.pz 1 QU.nd (fz Zm hr (az (fz Zd hr (bz (pv 0) Wp))))) (Wu (Pu.pz 2 QU.nd (fz Zn hr (dz (pv 0) (pv 1) (Wq WU (Wq QS (fz Zc hr (bz (pv 0) Wp)) Wp) Wp)))) (Wu (Pu.pz 3 QU.nd (Ve (Pe (K:=K)) (by rfl) G.list boot_list (az (pv 2)))) (Wu (Pu.pz 4 QU.nd (fz Zo hr (az (pv 3)))) (Wu (WE (PW.pt (Qj (WZ (WX (K:=K) (fz Zr hr (bz (pv 3) (pv 2))))) (Qj (WZ (WX (K:=K) (fz Zb hr (az (ExcR.VS G.SMALL))))) (Q2 (cn K hr (ExcR.VS G.SMALL) Wp))))) (Wr (Wx WS))
   WB) (Wu (Pu.pz 5 QU.nd (fz Zp hr (bz (pv 4) (ln K G.len (pv 2))))) (Wu (WE (XD (ND (pv 5))) (Wr (Wx WS))
   WB) (Wr (Wx (fz Zq hr (bz (pv 5) (pv 2)))))))))))), (Wt (W5 (W4 (sz (W4 (tz (Wn 0) Wo)))) (Wv 1)) (Wt (W5 (W4 (uz (Wn 0) (Wn 1) (WV (QL (W4 (tz (Wn 0) Wo)) Wo) Wo))) (Wv 2)) (Wt (W5 (P5 (sz (Wn 2))) (Wv 3)) (Wt (W5 (W4 (sz (Wn 3))) (Wv 4)) (Wt (WC (Ql (Qa (Qc (W4 (tz (Wn 3) (Wn 2))))) (Ql (Qa (Qc (W4 (sz Wo)))) (WI (Qy Wo Wo)))) (W2 WQ) W8) (Wt (W5 (W4 (tz (Wn 4) (WM (sz (Wn 2))))) (Wv 5)) (Wt (WC (st_b (KZ (Wn 5))) (W2 WQ) W8) (W2 (W4 (tz (Wn 5) (Wn 2)))))))))))⟩) (.a fun ds R X h=>?_)
 ·obtain⟨ns,rfl,hR⟩:=h;refine⟨rfl,?_⟩;refine⟨ns,0,rfl,by decide,fun c0=>⟨c0,rfl,fun m hM=>?_⟩⟩;refine⟨ns,0,rfl,by decide,fun a0=>⟨⟨by decide,by decide⟩,(by show(0:Int)<8;decide),ns,m,_,rfl,hM,by omega,by omega,fun ps hF hlen=>?_⟩⟩;have hz:ps.length<=7:=by omega
  have hl:(ps.map prD).length=ps.length:=Zt ..;refine⟨rfl,ps,rfl,hF,hz,?_⟩;refine⟨ps,rfl,by omega,iteF ⟨7,rfl,iteF ?_⟩⟩;refine⟨ps,by rw[hl];rfl,hz,?_⟩;exact⟨ps,rfl,hF,hz,hR⟩
end
end T
namespace T
open PySem PySem.Spec PyProof.Rows L2 Own M
def K1{l:PySem.W.OpenLaw}{w:World}{K:Za}{h:Heap}{mg:Str->Option Value}{fa:Addr}(X:K.In h)(G0:h.Ns mainGlobals mg)(hfa:mg "law"=some (.ref fa))(a0:Pu.DI K "own_numbers" VJ)(a1:Pu.DI K "check_small" Ju)(a2:Pu.DI K "cost_to_come_next" Jo)(a3:Pu.DI K "longer_stands" J6)(a4:Pu.DI K "all_stands" J5)(a5:Pu.DI K "_law_at" Jd)(a6:Pu.DI K "_law_whole" VM)(a7:Pu.DI K "_law_mix" VQ)(a8:Pu.DI K "_law_draw" Jx)(a9:Pu.DI K "_law_menu" J0)(a10:Pu.DI K "_law_holder" Jk)(a11:Pu.DI K "_law_strips" VH)(a12:Pu.DI K "_law_tuples" VR)(a13:Pu.DI K "_law_swapped" VO)(a14:Pu.DI K "_law_stand_is" Js)(a15:Pu.DI K "_law_prices" VI)(a16:Pu.DI K "_law_price_list" J7){f17:Addr}{od17 an17:Option Addr}{sl17:Array (Option Value)}{oc17 kV17 dc17 pm17 cd17 ct17:Value}(a17:PySem.W.nsIn K mainGlobals "law"=some (some (.ref f17)))(l17:K.lookup f17=some ⟨oc17,od17,.func (PySem.W.fnOf "law" "law" (Qo Qi) (Qd Qi) (Ww Qi) .none kV17 dc17 pm17 an17 cd17 ct17),sl17⟩)(c17:PySem.W.codeIn K cd17 "law"=true)(k17:PySem.W.keepIn K (.ref f17)=true)(Wc:PySem.W.nsIn K mainGlobals "bool"=some none)(Wd:PySem.W.nsIn K mainGlobals "int"=some none)(We:PySem.W.nsIn K mainGlobals "isinstance"=some none)(Wf:PySem.W.nsIn K mainGlobals "len"=some none)(Wg:PySem.W.nsIn K mainGlobals "list"=some none)(Wh:PySem.W.nsIn K mainGlobals "range"=some none)(Wi:PySem.W.nsIn K mainGlobals "sorted"=some none)(Wj:PySem.W.nsIn K mainGlobals "sum"=some none)(Wk:PySem.W.nsIn K mainGlobals "tuple"=some none){Wm:Tok}(Wl:PySem.W.nsIn K mainGlobals "SMALL"=some (some (.int 7 Wm)))
  : ∃fd:FuncData,(∀(s:Shared) (v:Value),BindsTo s fd ⟨[v],[]⟩ [("_law_script",v)])/\∀base:Heap,K.In base->base.Ns mainGlobals mg->FnOk l.prog w K mg base CX0 4 fa fd ["_law_script"] (Pu.J9 K):=by
 have e:=hfa.symm.trans (YL X G0 a17);cases e
 have G:Glob K mg:=⟨ZQ X G0 Wc,ZQ X G0 Wd,ZQ X G0 We,ZQ X G0 Wf,ZQ X G0 Wg,ZQ X G0 Wh,ZQ X G0 Wi,ZQ X G0 Wj,ZQ X G0 Wk,⟨_,YL X G0 Wl,⟨_,rfl⟩⟩⟩;have F17:=JV (st:=Qi) l17 c17 k17;have b17:=F17.binds (ps:=["_law_script"]) fun _ _ _ _ _ _ us hl=>by obtain⟨_,rfl⟩:=Pu.len1 hl;rfl
 have D17:Def K mg "law" Qi ["_law_script"]:=⟨_,_,F17,YL X G0 a17,b17⟩;refine⟨PySem.W.fnOf "law" "law" (Qo Qi) (Qd Qi) (Ww Qi) .none kV17 dc17 pm17 an17 cd17 ct17,fun s v=>.of_eq rfl,fun base _ _=>?_⟩;have C0:=@P2 l.prog w K mg base G (a0.e X G0);have C1:=@T6 l.prog w K mg base G (a1.e X G0);have C2:=@Pk l.prog w K mg base G (a2.e X G0);have C5:=@KJ l.prog w K mg base G (a5.e X G0);have C6:=@KU l.prog w K mg base G (a6.e X G0);have C7:=@NV l.prog w K mg base G (a7.e X G0);have C9:=@NH l.prog w K mg base G (a9.e X G0);have C10:=@Pt l.prog w K mg base G (a10.e X G0);have C13:=@Pr l.prog w K mg base G (a13.e X G0);have C3:=@Ky l.prog w K mg base G (a3.e X G0) C0 C2;have C8:=@K9 l.prog w K mg base G (a8.e X G0) C7 C5;have C12:=@N6 l.prog w K mg base G (a12.e X G0) C6;have C14:=@Tw l.prog w K mg base G (a14.e X G0) C6;have C16:=@Np l.prog w K mg base G (a16.e X G0) C13;have C4:=@Kw l.prog w K mg base G (a4.e X G0) C1 C3;have C11:=@Nz l.prog w K mg base G (a11.e X G0) C8 C10;have C15:=@KF l.prog w K mg base G (a15.e X G0) C14;have C17:=@Ko l.prog w K mg base G D17 C9 C11 C4 C15 C16 C8 C12 C6 C5;exact(C17.at (YL X G0 a17) F17 D17).imp fun _ _ _ _ z=>Pu.Nh z
end T
structure PySem.W.Fast:Prop where (tw14043222905679886798 tw2983984525752997920 tw5820908410271274144 tw16823710243057439584 tw11530722744509800577 tw7756065321588592897 tw17495891186019372321 tw3368364322153790817 tw12070774864126509921 tw12517065493264413537 tw9291908653974023073 tw7534952486122622945 tw4163777496789588994 tw7965908859846848738 tw10033614484720589122 tw10488573405854563714 tw9493216193137135106 tw1672278298245349954 tw13683039975163017922 tw7713836463460163330 tw14882304734759251842 tw6305215926260338787 tw14163802423571041571 tw11989117704079981891 tw15497464593310821731 tw9572701689619570403 tw4362764588445670532 tw11891660686492408068 tw16364719611431583044 tw3782782529710097764 tw10495320472145216868 tw11520634631753667108 tw2546807189072305700 tw10381628907847761476 tw6687076788320994980 tw73858749891745508 tw14564819831291775493 tw8554597341482938981 tw2606285304342194821 tw15495427407331532485 tw13231995889605517285 tw4705934813929922918 tw11831063194700851078 tw11500927319105425350 tw13109105518037404743 tw18140782684432713863 tw4458799289287806151 tw1114057193529770215 tw8648126882523224359 tw13213801220785627847 tw15310309919856785223 tw6362831954777792616 tw6170607516975156360 tw17486670447082300744 tw3405158417911502184 tw9404004659906199144 tw4015240876343239336 tw6788684774037591752 tw13871258303447344201 tw11499112607264666857 tw17372691021092868393 tw2173207046490757577 tw15877641124756472457 tw2324130473881856745 tw11728718408390988649 tw6071491814229579721 tw14526022952717251594 tw16306431750882688394 tw3522258147673025290 tw9490638949444101227 tw11014925867032439307 tw17339445254358663244 tw17871381076573453388 tw10359647212390099052 tw13161160133367352812 tw16617206855875793676 tw4703057751597740173 tw10335307566322866861 tw8118436722564146190 tw14561783340580329550 tw9732060720004291662 tw18049735547132434670 tw14199111895488562446 tw17868668680104737134 tw6801656309625642638 tw11344981793978637295 tw9482809600149975344 tw81482433916634800 tw12358861847850956528 tw15291903885518127153 tw16850915902235999313 tw5987498975857181841 tw16262095858482695409 tw7319549891904687665 tw8315145055539379889 tw10084894914642806705 tw6547254564055769298 tw5612543573477773586 tw13413669359272318290 tw7205266352170929074 tw9619609592773942226 tw9982271193517848530 tw15285437374972139506 tw11632389916066393331 tw10838177857986895251 tw654024188105008723 tw8008957507010920179 tw4916512745900083027 tw9617375503636416339 tw913849390539232308 tw14013273417530666068 tw6895741549286003892 tw1960463458251056308 tw9728199520318343540 tw7416336148436639092 tw1771660353483936532 tw18057225708935350517 tw14669417091963609397 tw1048478665182958069 tw11215647100432374421 tw4413476730590723829 tw5787085832636412693 tw5159161926886551477 tw8975856061131361269 tw14973419281720899094 tw18376064338306700854 tw12343996070142142422 tw15580957073874580470 tw11615023375249878295 tw1343919877301437975 tw7890020745937576567 tw6186260966477674359 tw15619911281481768919 tw921396291603618968 tw79826031795286200 tw3932772365391112600 tw4325981174260106712 tw17802243449036723960 tw16677348014134575193 tw15434121666054076601 tw9315267685080450457 tw5705169177630481849 tw1717021826508263961 tw12201442915840008089 tw17194724653879411738 tw12969452371820956186 tw17942331324847741466 tw3538870017911756410 tw13791277655153158138 tw15635975453102857243 tw17431319130910859899 tw10181533074150224827 tw17599325412997451836 tw17004912326893154620 tw4855869331484032444 tw10792984200088269436 tw5187116305369373404 tw13739984211525460892 tw10429196033059768316 tw1935977562144315517 tw5712649786879142301 tw848485340133685725 tw15377066750475067229 tw1548990693335531389 tw10809602234107183101 tw9276904348703883838 tw10856554887871657662 tw17240756455739278110 tw3903549844590763199 tw6948905714134697183 tw5201781139532412255 tw2471039053420853663 tw16789170086373981823 tw6284143359222380191 tw4785407435383962463:True)
open PySem PySem.W PyProof.Rows
set_option maxRecDepth 100000 in
set_option maxHeartbeats 0 in
theorem PySem.Challenge.cw_stripmeld_k17_all_stands_holds : PySem.Challenge.rw_stripmeld_k17_all_stands.Holds := by
 w_on;o_law;k_head;(case hw=>w_witness2)
 k_fill
 refine L2.KA (l:=PySem.Challenge.rw_stripmeld_k17_all_stands) (n:=63) (k:=4) (x:="_law_script") (CX:=L2.CX0) (sp:=Pu.J9) rfl (by decide) rfl ⟨rfl,by decide,by decide⟩ (fun w h Y=>PySem.W.kIn_of Y) ?F ?S ?C
 case F=>
  intro w mg fa h KX G hmg
  refine' T.K1 KX G hmg ?a0 ?a1 ?a2 ?a3 ?a4 ?a5 ?a6 ?a7 ?a8 ?a9 ?a10 ?a11 ?a12 ?a13 ?a14 ?a15 ?a16 ?a17 ?l17 ?c17 ?k17 ?Wc ?Wd ?We ?Wf ?Wg ?Wh ?Wi ?Wj ?Wk ?Wl
  (case a0|a1|a2|a3|a4|a5|a6|a7|a8|a9|a10|a11|a12|a13|a14|a15|a16=>apply Pu.di<;>k_is)
  (case a17|l17|c17|k17|Wc|Wd|We|Wf|Wg|Wh|Wi|Wj|Wk|Wl=>k_is)
 case S=>exact fun K H a ns hl hO hS=>⟨a,ns,rfl,hS,fun _=>rfl⟩
 case C=>exact fun _ _ _ _ z=>z
