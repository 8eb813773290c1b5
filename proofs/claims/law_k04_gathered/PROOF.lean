import PyProof.Rows.All
import Wide.All
import OpenK.AllK
import Wide.FinOn
import Lean
import PyProof.EqAt
import PyProof.EqKinds
import PyProof.TupleCall
import PySem.Challenge.RW_stripmeld_k04_gathered
set_option Elab.async false
set_option linter.all false
set_option maxRecDepth 100000
noncomputable section
def Zp:=@PySem.wpAny_bind
def Zq:=@List.getElem?_eq_getElem
def Zr:=@PySem.Heap.get?_push_of_some
def Zs:=@List.length_map
def Zt:=@PySem.wpAny_pure
def Zu:=@List.getD_eq_getElem?_getD
def Zv:=@PySem.Heap.lt_size
def Zw:=@Option.some.inj
def Zx:=@Nat.le_refl
def Zy:=@List.size_toArray
def Zz:=@List.getElem?_map
def Z0:=@if_pos
def Z1:=@Bool.false_ne_true
def Z2:=@if_neg
def Z3:=@PySem.Heap.get?_push_size
def Z4:=@List.mem_singleton
def Z5:=@Nat.lt_of_lt_of_le
def Z6:=@List.mem_append_right
def Z7:=@Nat.ne_of_lt
def Z8:=@Nat.le_trans
def Z9:=@decide_eq_false
def ZA:=@List.mem_cons
def ZC:=@decide_eq_true
def ZD:=@List.getElem?_eq_some_iff
def ZE:=@List.mem_cons_of_mem
def ZF:=@Array.length_toList
def ZG:=@PySem.Heap.SameBut.update
def ZH:=@PyProof.Rows.wpS_bind
def ZI:=@PySem.mem_of_lookup
def ZJ:=@Array.getElem?_toList
def ZK:=@Int.toNat_natCast
def ZL:=@List.mem_cons_self
def ZM:=@PySem.wpAny_mono
def ZN:=@congrArg
def ZO:=@Bool.and_eq_true
def ZP:=@PySem.Heap.get?_update_other
def ZQ:=@List.lookup_cons
def ZR:=@PySem.Heap.get?_update_self
def ZS:=@PySem.boot_len
def ZT:=@PySem.W.kia_one
def ZU:=@PySem.W.mg_none_of
def ZV:=@List.getElem_mem
def ZW:=@PySem.Obj.data_mapFields
def ZX:=@Bool.false_eq_true
def ZY:=@Nat.lt_irrefl
def ZZ:=@Nat.zero_le
def Ya:=@PySem.wpAny_newObj_type
def Yb:=@List.mem_filter
def Yc:=@List.filterMap_cons
def Yd:=@PySem.sizeLine_eq
def Ye:=@List.map_cons
def Yf:=@PyProof.Rows.wpS_pure
def Yg:=@List.mem_range
def Yh:=@List.filterMap_append
def Yi:=@List.getElem?_append_left
def Yj:=@Array.getElem?_eq_getElem
def Yk:=@of_decide_eq_true
def Yl:=@PySem.F.plainAttrs_list
def Ym:=@List.all_eq_true
def Yn:=@List.length_append
def Yo:=@Nat.le_of_eq
def Yp:=@PyProof.Rows.F.plain_set_update_loop
def Yq:=@List.mem_append
def Yr:=@PySem.wpAny_passesOwn
def Ys:=@PySem.Obj.isFreed_of_fields
def Yt:=@List.length_set
def Yu:=@List.getElem?_append_right
def Yv:=@PySem.wpAny_holding
def Yw:=@PySem.wpAny_truthy_bool
def Yx:=@PySem.wpAny_setState_of
def Yy:=@List.mem_of_getElem?
def Yz:=@PySem.Around.under_plainId
def Y0:=@PySem.wpAny_setField
def Y1:=@if_false
def Y2:=@PySem.wpAny_Call_Name_kw
def Y3:=@PySem.codeAny_builtin
def Y4:=@List.length_range
def Y5:=@List.getElem?_eq_none
def Y6:=@PyProof.Rows.callWith_type1
def Y7:=@List.mem_append_left
def Y8:=@List.getElem?_set_ne
def Y9:=@List.length_take
def YA:=@List.length_eraseIdx_of_lt
def YB:=@Array.getElem?_eq_some_iff
def YC:=@PySem.wpAny_execs_nil
def YD:=@List.append_nil
def YE:=@List.pairwise_iff_getElem
def YF:=@List.map_append
def YG:=@List.range_succ
def YH:=@PyProof.Rows.boot_isinstance
def YI:=@PySem.PassesOwn.never
def YJ:=@Nat.le_of_lt
def YK:=@PySem.codeAny_mono
def YL:=@PyProof.Rows.F.entry_set_update_loop
def YM:=@List.length_filterMap_le
def YN:=@List.idxOf_lt_length_iff
def YO:=@PySem.fits_of_scanBound
def YQ:=@Nat.lt_succ_of_lt
def YR:=@List.getElem?_set_self
def YS:=@PySem.W.cellsFrom_some
def YT:=@List.pairwise_lt_range
def YU:=@PySem.plainId_quiet
def YV:=@PySem.wpAny_execs_cons
def YW:=@List.not_mem_nil
def YX:=@PySem.wpAny_call_entry
def YY:=@List.take_succ_eq_append_getElem
def YZ:=@List.length_filter_le
def Wa:=@PySem.Heap.get?_none_of_le
def Wb:=@Bool.eq_iff_iff
def Wc:=@List.nodup_cons
def Wd:=@PySem.wpAny_rule
def We:=@Nat.not_lt
def Wf:=@getElem?_pos
def Wg:=@Nat.le_succ
def Wh:=@List.mem_filterMap
def Wi:=@List.getElem_idxOf
def Wj:=@Bool.true_and
def Wk:=@PySem.W.mg_of
def Wl:=@List.ext_getElem?
def Wm:=@Nat.ne_of_gt
def Wn:=@List.mem_map
def Wo:=@List.ext_getElem
def Wp:=@List.length_cons
def Wq:=@decide_false
def Wr:=@List.map_map
abbrev Za:=PySem.W.Frag
namespace L2
open PySem PySem.Spec PyProof.Rows
abbrev Key:=Sum Int Str
def Xe:Key->Value->Bool
 | .inl k,v=>Value.isInt k v
 | .inr x,v=>Value.isStrOf x v
def keyH(w:World):Key->Int
 | .inl k=>hashInt k
 | .inr x=>hashStr w x
def Qt:∀{k:Key}{v:Value},Xe k v=true->(∃i t,k=Sum.inl i/\v=Value.int i t)\/(∃x t,k=Sum.inr x/\v=Value.str x t)
 | .inl i,v,h=>by
  obtain⟨t,e⟩:=Value.isInt_shape (k:=i) (v:=v) h;exact .inl ⟨i,t,rfl,e⟩
 | .inr x,v,h=>by
  obtain⟨t,e⟩:=Value.isStrOf_shape (x:=x) (v:=v) h;exact .inr ⟨x,t,rfl,e⟩
def Pj(a b:Int):decide ((Sum.inl a:Key)=Sum.inl b)=(a==b):=by
 by_cases e:a=b
 ·subst e;simp
 ·have h:¬(Sum.inl a:Key)=Sum.inl b:=fun q=>e (Sum.inl.inj q);rw[Z9 h];exact(beq_eq_false_iff_ne.mpr e).symm
def Tw(a b:Str):decide ((Sum.inr a:Key)=Sum.inr b)=decide (a=b):=by
 by_cases e:a=b
 ·subst e;simp
 ·have h:¬(Sum.inr a:Key)=Sum.inr b:=fun q=>e (Sum.inr.inj q);rw[Z9 h,Z9 e]
def Kl(a:Int)(b:Str):decide ((Sum.inl a:Key)=Sum.inr b)=false:=Z9 (fun q=>nomatch q)
def XM(a:Str)(b:Int):decide ((Sum.inr a:Key)=Sum.inl b)=false:=Z9 (fun q=>nomatch q)
def V7(prog:Program)(w:World):PySem.KeyKind prog w Key where
 is:=Xe
 hash:=keyH w
 inj:=fun v a b ha hb=>by
  rcases Qt ha with⟨i,t,rfl,rfl⟩|⟨x,t,rfl,rfl⟩
  ·rcases Qt hb with⟨j,u,rfl,e⟩|⟨y,u,rfl,e⟩
   ·injection e with e1 _;rw[e1]
   ·exact nomatch e
  ·rcases Qt hb with⟨j,u,rfl,e⟩|⟨y,u,rfl,e⟩
   ·exact nomatch e
   ·injection e with e1 _;rw[e1]
 byValue:=fun k v h=>by
  rcases Qt h with⟨i,t,rfl,rfl⟩|⟨x,t,rfl,rfl⟩<;>rfl
 pyHash:=fun hv h=>by
  rcases Qt hv with⟨i,t,rfl,rfl⟩|⟨x,t,rfl,rfl⟩
  ·exact wpAny_pyHash_int h
  ·exact wpAny_pyHash_str h
 eqBool:=fun hu hv h=>by
  rcases Qt hu with⟨i,t,rfl,rfl⟩|⟨x,t,rfl,rfl⟩
  ·rcases Qt hv with⟨j,u,rfl,rfl⟩|⟨y,u,rfl,rfl⟩
   ·rw[Pj]at h;exact wpAny_eqBool_int h
   ·rw[Kl]at h;exact SeqAt.EqAt.int_str i t y u _ _ _ _ h
  ·rcases Qt hv with⟨j,u,rfl,rfl⟩|⟨y,u,rfl,rfl⟩
   ·rw[XM]at h;exact SeqAt.EqAt.str_int x t j u _ _ _ _ h
   ·rw[Tw]at h;exact wpAny_eqBool_str h
 «strs»:=fun k x t v h=>by
  rcases Qt h with⟨i,u,rfl,e⟩|⟨y,u,rfl,e⟩
  ·exact nomatch e
  ·injection e with e1 _;subst e1;cases v<;>rfl
inductive V where
 |non|bl (b:Bool)|int (i:Int)|str (x:Str)|byt (b:Array UInt8)|flt (b:UInt64)|ref (a:Addr)|ty (n:String)
 deriving DecidableEq
def RelV:V->Value->Prop
 | .non,u=>u=Value.none
 | .bl b,u=>u=Value.bool b
 | .int i,u=>∃t,u=Value.int i t
 | .str x,u=>∃t,u=Value.str x t
 | .byt b,u=>∃t,u=Value.bytes b t
 | .flt b,u=>∃t,u=Value.float b t
 | .ref a,u=>u=Value.ref a
 | .ty n,u=>u=Value.type n
abbrev Vals:List V->List Value->Prop:=Paired RelV
def Vals.length {xs:List V}{us:List Value} (r:Vals xs us):xs.length=us.length:=Paired.length r
def Vals.get:∀{xs:List V}{us:List Value}{i:Nat}{x:V},Vals xs us->xs[i]?=some x->∃u,us[i]?=some u/\RelV x u
 |_,_,_,_,.nil,e=>by simp at e
 |_,_,0,_,.cons r _,e=>by simp at e;subst e;exact⟨_,rfl,r⟩
 |_,_,i+1,x,.cons _ t,e=>by
  obtain⟨u,h1,h2⟩:=Vals.get (i:=i) (x:=x) t (by simpa using e);exact⟨u,by simpa using h1,h2⟩
def Vals.set {x:V}{u:Value} (r:RelV x u):∀{xs:List V}{us:List Value} (i:Nat),Vals xs us->Vals (xs.set i x) (us.set i u)
 |_,_,_,.nil=>.nil
 |_,_,0,.cons _ t=>.cons r t
 |_,_,i+1,.cons q t=>.cons q (Vals.set r i t)
def Vals.append:∀{xs ys:List V}{us ws:List Value},Vals xs us->Vals ys ws->Vals (xs++ys) (us++ws)
 |_,_,_,_,.nil,s=>s
 |_,_,_,_,.cons r t,s=>.cons r (Vals.append t s)
def Vals.take:∀{xs:List V}{us:List Value} (n:Nat),Vals xs us->Vals (xs.take n) (us.take n)
 |_,_,0,_=>.nil
 |_,_,_+1,.nil=>.nil
 |_,_,n+1,.cons r t=>.cons r (Vals.take n t)
def Vals.drop:∀{xs:List V}{us:List Value} (n:Nat),Vals xs us->Vals (xs.drop n) (us.drop n)
 |_,_,0,r=>r
 |_,_,_+1,.nil=>.nil
 |_,_,n+1,.cons _ t=>Vals.drop n t
def RelO:Option V->Option Value->Prop
 |some v,some u=>RelV v u
 |none,none=>True
 |_,_=>False
def KV{κ:Type}:List (κ×V)->List (κ×Value)->Prop:=Paired fun(p:κ×V) (q:κ×Value)=>p.1=q.1/\RelV p.2 q.2
def kV:Key->V
 | .inl i=>.int i
 | .inr x=>.str x
inductive HO where
 |lst (xs:List V)
 |tup (xs:List V)
 |dK (kvs:List (Key×V))|dT (kvs:List (List Key×V))
 |set (S:Int->Bool) (n:Nat)
 |ins (C dx:Addr) (fs:List (Str×V))
 |own (x:Addr)
 |xd (fs:List (Str×V))
 |met (f x:Addr)
 |rng (lo hi:Int)
 |frz (o:Obj) (u:HO)
 |tbl (ps:Array Value)
 |ext (φ:Heap->Prop)
abbrev Hp:=Addr->Option HO
def upd(H:Hp)(a:Addr)(o:HO):Hp:=fun b=>if b=a then some o else H b
def WC{H:Hp}{a:Addr}{o:HO}:upd H a o a=some o:=by unfold upd;rw[Z0 rfl]
def W7{H:Hp}{a b:Addr}{o:HO}(h:b≠a):upd H a o b=H b:=by unfold upd;rw[Z2 h]
def U6{H:Hp}{a:Addr}{o u:HO}:upd (upd H a o) a u=upd H a u:=by
 funext b;unfold upd;split<;>rfl
def WK{H:Hp}{a b:Addr}{o:HO}(h:H a=some o)(h':H b=none):a≠b:=by
 intro e;subst e;rw[h]at h';cases h'
section
variable (P:Program) (w:World)
def ObjOk(H:Hp)(h:Heap)(a:Addr):HO->Prop
 | .lst xs=>xs.length<=sizeLine/\∃(its:List Value) (n:Nat),Vals xs its/\h.get? a=some {cls:=.type "list",data:=.seq its.toArray n}
 | .tup xs=>xs.length<=sizeLine/\∃its:List Value,Vals xs its/\IsTup h a its.toArray
 | .dK kvs=>kvs.length<=sizeLine/\(a==sysModules)=false/\∃vs,KV kvs vs/\h.DictOf (V7 P w) a vs
 | .dT kvs=>kvs.length<=sizeLine/\(a==sysModules)=false/\∃xs:List (List Key×Addr×Value),
   Paired (fun(p:List Key×V) (q:List Key×Addr×Value)=>p.1=q.1/\H q.2.1=some (.tup (p.1.map kV))/\RelV p.2 q.2.2) kvs xs/\
   ∃o es ep,h.get? a=some o/\o.ExactDict/\o.data=.dict es ep/\es.toList=xs.map (entryOfKey (tupleKind (V7 P w)))/\(xs.map (·.1)).Nodup
 | .set S n=>h.SetOf (intKind P w) a S n
 | .ins C dx fs=>H dx=some (.own a)/\fs.length<=1000/\dx≠a/\h.get? a=some (PySem.W.instObj C dx)/\
   ∃mA,h.Ns1 dx mA/\(∀f,RelO (fs.lookup f) (mA f))/\PySem.Within mA (fs.map (·.1))
 | .own _=>∃o,h.get? a=some o
 | .xd fs=>∃mA,h.Ns1 a mA/\∀f,RelO (fs.lookup f) (mA f)
 | .rng lo hi=>∃t u v,h.get? a=some {cls:=.type "range",data:=.fields #[.int lo t,.int hi u,.int 1 v]}
 | .frz o u=>h.get? a=some o/\ObjOk H h a u
 | .tbl ps=>h.get? a=some {cls:=.none,data:=.fields ps}
 | .met f x=>h.get? a=some (PySem.W.methodObj (.ref f) (.ref x))
 | .ext φ=>φ h/\(∃o,h.get? a=some o)/\∀h1 h2:Heap,φ h1->(∀o,h1.get? a=some o->h2.get? a=some o)->φ h2
def HOk(H:Hp)(h:Heap):Prop:=∀a o,H a=some o->ObjOk P w H h a o
end
section
variable {P:Program}{w:World}{H H':Hp}{h h':Heap}{a:Addr}{o:HO}
def ObjOk.lt (x:ObjOk P w H h a o):a<h.objs.size:=by
 cases o with
 |lst xs=>obtain⟨_,_,_,_,e⟩:=x;exact Zv e
 |tup xs=>obtain⟨_,_,_,p⟩:=x;exact p.lt
 |dK kvs=>obtain⟨_,_,_,_,o,_,_,e,_⟩:=x;exact Zv e
 |dT kvs=>obtain⟨_,_,_,_,o,_,_,e,_⟩:=x;exact Zv e
 |set S n=>obtain⟨o,_,_,_,e,_⟩:=x;exact Zv e
 |ins C dx fs=>obtain⟨_,_,_,e,_⟩:=x;exact Zv e
 |own y=>obtain⟨_,e⟩:=x;exact Zv e
 |xd fs=>obtain⟨_,⟨_,_,_,e,_⟩,_⟩:=x;exact Zv e
 |rng lo hi=>obtain⟨_,_,_,e⟩:=x;exact Zv e
 |frz ob u=>obtain⟨e,_⟩:=x;exact Zv e
 |tbl ps=>exact Zv (show h.get? a=some _ from x)
 |met f y=>exact Zv (show h.get? a=some _ from x)
 |ext φ=>obtain⟨_,⟨_,e⟩,_⟩:=x;exact Zv e
def Paired.mapP {α β:Type}{F G:α->β->Prop}:∀{l₁:List α}{l₂:List β},Paired F l₁ l₂->(∀a b,F a b->G a b)->Paired G l₁ l₂
 |_,_,.nil,_=>.nil
 |_,_,.cons r t,f=>.cons (f _ _ r) (Paired.mapP t f)
def ObjOk.stay (x:ObjOk P w H h a o) (k:∀b u,(b=a\/H b=some (.own a))->h.get? b=some u->h'.get? b=some u)
  (ho:∀b,H b=some (.own a)->H' b=some (.own a)) (ht:∀b xs,H b=some (.tup xs)->H' b=some (.tup xs)):ObjOk P w H' h' a o:=by
 induction o with
 |lst xs=>obtain⟨z,its,n,r,e⟩:=x;exact⟨z,its,n,r,k _ _ (.inl rfl) e⟩
 |tup xs=>obtain⟨z,its,r,ob,e,c⟩:=x;exact⟨z,its,r,ob,k _ _ (.inl rfl) e,c⟩
 |dK kvs=>obtain⟨z,y,vs,r,ob,es,ep,e,c⟩:=x;exact⟨z,y,vs,r,ob,es,ep,k _ _ (.inl rfl) e,c⟩
 |dT kvs=>
  obtain⟨z,y,xs,r,ob,es,ep,e,c⟩:=x;exact⟨z,y,xs,Paired.mapP r fun p q z=>⟨z.1,ht _ _ z.2.1,z.2.2⟩,ob,es,ep,k _ _ (.inl rfl) e,c⟩
 |set S n=>obtain⟨ob,es,ep,t,e,c⟩:=x;exact⟨ob,es,ep,t,k _ _ (.inl rfl) e,c⟩
 |ins C dx fs=>
  obtain⟨d,z,ne,e,mA,⟨od,es,ep,e2,c⟩,r⟩:=x;exact⟨ho _ d,z,ne,k _ _ (.inl rfl) e,mA,⟨od,es,ep,k _ _ (.inr d) e2,c⟩,r⟩
 |own y=>obtain⟨ob,e⟩:=x;exact⟨ob,k _ _ (.inl rfl) e⟩
 |xd fs=>obtain⟨mA,⟨od,es,ep,e,c⟩,r⟩:=x;exact⟨mA,⟨od,es,ep,k _ _ (.inl rfl) e,c⟩,r⟩
 |rng lo hi=>obtain⟨t,u,v,e⟩:=x;exact⟨t,u,v,k _ _ (.inl rfl) e⟩
 |frz ob u ih=>obtain⟨e,q⟩:=x;exact⟨k _ _ (.inl rfl) e,ih q⟩
 |tbl ps=>
  have e:h.get? a=some {cls:=.none,data:=.fields ps}:=x;show h'.get? a=some {cls:=.none,data:=.fields ps};exact k a _ (.inl rfl) e
 |met f y=>
  have e:h.get? a=some (PySem.W.methodObj (.ref f) (.ref y)):=x;show h'.get? a=some (PySem.W.methodObj (.ref f) (.ref y));exact k a _ (.inl rfl) e
 |ext φ=>obtain⟨p,⟨o,e⟩,st⟩:=x;exact⟨st _ _ p fun o q=>k _ _ (.inl rfl) q,⟨o,k _ _ (.inl rfl) e⟩,st⟩
def HOk.lt (x:HOk P w H h) (e:H a=some o):a<h.objs.size:=(x a o e).lt
def HOk.fresh (x:HOk P w H h) (e:h.objs.size<=a):H a=none:=by
 cases q:H a with
 |none=>rfl
 |some u=>exact absurd (Z5 (x.lt q) e) (ZY _)
def HOk.kept (x:HOk P w H h) (k:∀b u,h.get? b=some u->h'.get? b=some u):HOk P w H h':=fun a o e=>
 (x a o e).stay (fun b u _ q=>k b u q) (fun _ q=>q) fun _ _ q=>q
def HOk.laid (x:HOk P w H h) (k:∀b u,h.get? b=some u->h'.get? b=some u) (hp:h.objs.size<=a) (new:ObjOk P w (upd H a o) h' a o):HOk P w (upd H a o) h':=fun b u e=>by
 have hn:=x.fresh hp;by_cases hb:b=a
 ·subst hb;rw[WC]at e;cases e;exact new
 ·rw[W7 hb]at e;exact(x b u e).stay (fun c v _ q=>k c v q) (fun c q=>by rw[W7 (WK q hn)];exact q) fun c xs q=>by rw[W7 (WK q hn)];exact q
end
def Rd(H:Hp)(a:Addr)(u:HO):Prop:=H a=some u\/∃o,H a=some (.frz o u)
def Rd.ok {P:Program}{w:World}{H:Hp}{h:Heap}{a:Addr}{u:HO} (r:Rd H a u) (x:HOk P w H h):ObjOk P w H h a u:=by
 rcases r with r|⟨o,r⟩
 ·exact x a u r
 ·obtain⟨_,q⟩:=x a _ r;exact q
def Mut:Option HO->Prop
 |some (.lst _)=>True
 |some (.dK _)=>True
 |some (.dT _)=>True
 |some (.set _ _)=>True
 |some (.ins _ _ _)=>True
 |some (.ext _)=>True
 |_=>False
section
variable {P:Program}{w:World}{H:Hp}{h h':Heap}{x e:Addr}{o':HO}
def HOk.write (ok:HOk P w H h) (mu:Mut (H x)) (he:e=x\/H e=some (.own x)) (k:∀b u,b≠e->h.get? b=some u->h'.get? b=some u) (heo:∃u,h'.get? e=some u)
  (new:ObjOk P w (upd H x o') h' x o'):HOk P w (upd H x o') h':=fun b u q=>by
 have nown:∀c y,H c=some (.own y)->c≠x:=fun c y r z=>by subst z;rw[r]at mu;exact mu
 have ntup:∀c xs,H c=some (.tup xs)->c≠x:=fun c xs r z=>by subst z;rw[r]at mu;exact mu
 by_cases hb:b=x
 ·subst hb;rw[WC]at q;cases q;exact new
 ·rw[W7 hb]at q;by_cases hbe:b=e
  ·have q':H b=some (.own x):=by
    rcases he with z|z
    ·exact absurd (hbe.trans z) hb
    ·rw[hbe];exact z
   rw[q]at q';cases q';obtain⟨v,hv⟩:=heo;exact⟨v,by rw[hbe];exact hv⟩
  ·refine(ok b u q).stay (fun c v hc r=>k c v ?_ r) (fun c r=>by rw[W7 (nown c b r)];exact r) fun c xs r=>by rw[W7 (ntup c xs r)];exact r
   rcases hc with rfl|hc
   ·exact hbe
   ·rintro rfl;rcases he with z|z
    ·exact nown c b hc z
    ·rw[hc]at z;cases z;exact hb rfl
end
structure Un (fs ex:List Addr) (H H':Hp) (h h':Heap):Prop where
 keep:∀b o,h.get? b=some o->H b=none->b∉fs->b∉ex->h'.get? b=some o
 slot:∀b o,h.get? b=some o->H b=none->b∈fs->b∉ex->∃sl,h'.get? b=some {o with slots:=sl}
 free:∀b o,h.get? b=some o->H b=none->b∉ex->H' b=none
 there:∀b o,h.get? b=some o->b∉ex->∃o',h'.get? b=some o'
 tups:∀b xs,H b=some (.tup xs)->H' b=some (.tup xs)
 frzs:∀b o u,H b=some (.frz o u)->H' b=some (.frz o u)
 tbls:∀b ps,H b=some (.tbl ps)->∃more,H' b=some (.tbl (ps++more))
section
variable {fs fs' ex ex':List Addr}{H H1 H2:Hp}{h h1 h2 h':Heap}{a x e:Addr}{o:HO}
def Un.any (u:Un fs ex H H1 h h1) {b:Addr}{ob:Obj} (q:h.get? b=some ob) (n:H b=none) (hx:b∉ex):∃sl,h1.get? b=some {ob with slots:=sl}:=by
 by_cases hb:b∈fs
 ·exact u.slot b ob q n hb hx
 ·exact⟨ob.slots,u.keep b ob q n hb hx⟩
def Un.kept (k:∀b u,h.get? b=some u->h'.get? b=some u):Un fs ex H H h h':=
 ⟨fun b ob q _ _ _=>k b ob q,fun b ob q _ _ _=>⟨ob.slots,k b ob q⟩,fun _ _ _ n _=>n,fun b ob q _=>⟨ob,k b ob q⟩,fun _ _ q=>q,fun _ _ _ q=>q,fun _ ps q=>⟨#[],by rw[q];simp⟩⟩
def Un.refl:Un fs ex H H h h:=Un.kept fun _ _ q=>q
def Un.laid (k:∀b u,h.get? b=some u->h'.get? b=some u) (hp:h.objs.size<=a) (hn:H a=none):Un fs ex H (upd H a o) h h' where
 keep:=fun b u q _ _ _=>k b u q
 slot:=fun b u q _ _ _=>⟨u.slots,k b u q⟩
 free:=fun b u q n _=>by rw[W7 (Z7 (Z5 (Zv q) hp))];exact n
 there:=fun b u q _=>⟨u,k b u q⟩
 tups:=fun b xs q=>by rw[W7 (WK q hn)];exact q
 frzs:=fun b u xs q=>by rw[W7 (WK q hn)];exact q
 tbls:=fun b ps q=>⟨#[],by rw[W7 (WK q hn),q];simp⟩
def Un.write (mu:Mut (H x)) (he:e=x\/H e=some (.own x)) (k:∀b u,b≠e->h.get? b=some u->h'.get? b=some u) (heo:∃u,h'.get? e=some u):Un fs ex H (upd H x o) h h':=by
 have hx:∀b,H b=none->b≠x:=fun b n z=>by subst z;rw[n]at mu;exact mu
 have hb:∀b,H b=none->b≠e:=fun b n z=>by
  subst z;rcases he with r|r
  ·exact hx b n r
  ·rw[n]at r;cases r
 have hm:∀b u,H b=some u->¬Mut (some u)->b≠x:=fun b u q nm z=>by subst z;rw[q]at mu;exact nm mu
 refine⟨fun b u q n _ _=>k b u (hb b n) q,fun b u q n _ _=>⟨u.slots,k b u (hb b n) q⟩,fun b u q n _=>by rw[W7 (hx b n)];exact n,fun b u q _=>?_,
  fun b xs q=>by rw[W7 (hm b _ q fun z=>z)];exact q,fun b u xs q=>by rw[W7 (hm b _ q fun z=>z)];exact q,fun b ps q=>⟨#[],by rw[W7 (hm b _ q fun z=>z),q];simp⟩⟩
 by_cases hbe:b=e
 ·subst hbe;exact heo
 ·exact⟨u,k b u hbe q⟩
def Un.mono (u:Un fs ex H H1 h h1) (hs:∀b∈fs,b∈fs') (hx:∀b∈ex,b∈ex'):Un fs' ex' H H1 h h1:=
 ⟨fun b ob q n hb he=>u.keep b ob q n (fun z=>hb (hs b z)) fun z=>he (hx b z),fun _ _ q n _ he=>u.any q n fun z=>he (hx _ z),fun b ob q n he=>u.free b ob q n fun z=>he (hx b z),fun b ob q he=>u.there b ob q fun z=>he (hx b z),u.tups,u.frzs,u.tbls⟩
end
def trk(h:Heap)(H:Hp):List Addr:=(List.range h.objs.size).filter fun a=>(H a).isSome
def hidT(h:Heap)(H:Hp):Heap:=PySem.W.hideAll h (trk h H)
def PF(h:Heap)(H:Hp):(hidT h H).objs.size=h.objs.size:=PySem.W.hideAll_size _ _
def N4{h:Heap}{H:Hp}{b:Addr}{o:Obj}(e:h.get? b=some o)(n:H b=none):(hidT h H).get? b=some o:=
 PySem.W.hideAll_get _ e fun hm=>by
  have q:(H b).isSome=true:=(Yb.mp hm).2;rw[n]at q;simp at q
def Jc{h:Heap}{H:Hp}{b:Addr}{o:Obj}(e:(hidT h H).get? b=some o):h.get? b=some o/\H b=none:=by
 have e':h.get? b=some o:=PySem.W.of_hideAll (trk h H) e;refine⟨e',?_⟩;cases q:H b with
 |none=>rfl
 |some x=>
  have hm:b∈trk h H:=Yb.mpr ⟨Yg.mpr (Zv e'),by simp[q]⟩;have z:(hidT h H).get? b=none:=PySem.W.hideAll_none (trk h H) hm;rw[z]at e;cases e
def N9(g h:Heap)(L:Addr):List (Addr×Obj):=(List.range h.objs.size).filterMap fun a=>if a=L\/(g.get? a).isSome=true then none else(h.get? a).map fun o=>(a,o)
def rest(g h:Heap)(L d:Addr):List (Addr×Obj):=(N9 g h L).filter fun p=>decide (p.1≠d)
structure Mod (K:Za) (mg:Str->Option Value) (base:Heap):Prop where
 kin:K.In base
 glob:base.Ns mainGlobals mg
 blt:∃mb,base.Ns builtinsNs mb/\∀x:Str,x≠"__name__"->mb x=bootBuiltins x
 nolimit:base.NoLimit
structure Cx where
 prog:Program
 w:World
 K:Za
 mg:Str->Option Value
 base:Heap
 A:Around
 N:List Str
 s₀:Shared
 H₀:Hp
 env:Env
 outer:List Env
 stack:List Env
 ex:List Addr
 fn:Str->Bool
 calm:Bool
 pn:List (Addr×Obj)
 xe:Value->Shared->Prop
def frs(l:List Env):List Addr:=l.filterMap (·.frame)
abbrev Cx.fs (X:Cx):List Addr:=frs X.outer
def Vis(sc:Scope)(x:Str):Prop:=sc.names.lookup x=some .local\/sc.names.lookup x=some .cell\/sc.names.lookup x=some .free
def Loc(sc:Scope)(x:Str):Prop:=sc.names.lookup x=some .local\/sc.names.lookup x=some .cell
def Look(env:Env)(h:Heap)(m:Str->Option Value)(x:Str)(u:Value):Prop:=
 (env.kindOf x=some .local/\m x=some u)\/((env.kindOf x=some .cell\/env.kindOf x=some .free)/\∃c,env.cells.lookup x=some c/\h.IsCell c (some u))
structure Cx.Ok (X:Cx):Prop where
 mod:Mod X.K X.mg X.base
 kind:X.env.scope.kind=.function
 glob:X.env.globals=mainGlobals
 blt:X.env.builtins=builtinsNs
 above:X.s₀.heap.objs.size<=X.env.locals
 inj:∀x y c,X.env.cells.lookup x=some c->X.env.cells.lookup y=some c->x=y
 has:∀x,(X.env.kindOf x=some .cell\/X.env.kindOf x=some .free)->∃c,X.env.cells.lookup x=some c
 cab:∀x c,X.fn x=true->X.env.cells.lookup x=some c->X.s₀.heap.objs.size<=c
 hd:X.calm=true->X.A.handled=none
 frames:X.A.frames=some X.stack
 stk:X.stack=X.outer\/(X.stack=X.env::X.outer/\X.env.frame=some X.env.locals)
 exf:∀b∈X.ex,b≠X.env.locals/\∀x c,X.env.cells.lookup x=some c->c≠b
 bs:∀b o,X.base.get? b=some o->X.s₀.heap.get? b=some o/\X.H₀ b=none
 bsz:X.base.objs.size<=X.s₀.heap.objs.size
 noex:∀b o,X.base.get? b=some o->b∉X.ex
 exfs:∀b∈X.ex,b∉X.fs
 funs:X.s₀.heap.FunFrames X.base X.outer
 frf:∀b∈X.fs,X.H₀ b=none
structure Inv (X:Cx) (pins:List (Addr×Obj)) (σ:List (Option V)) (H:Hp) (s:Shared):Prop where
 ok:X.Ok
 os:s.os=X.s₀.os
 bare:AllBare s.gens
 base:Un X.fs X.ex X.H₀ H X.s₀.heap s.heap
 loc:∃m,s.heap.Ns X.env.locals m/\∀(i:Nat) (x:Str) (v:V),X.N[i]?=some x->σ[i]?=some (some v)->Vis X.env.scope x->∃u,RelV v u/\Look X.env s.heap m x u
 cell:∀x c,X.env.cells.lookup x=some c->∃v,s.heap.IsCell c v
 free:H X.env.locals=none
 freeC:∀x c,X.env.cells.lookup x=some c->H c=none
 pin:∀p∈X.pn++pins,s.heap.get? p.1=some p.2/\H p.1=none/\p.1≠X.env.locals/\p.1∉X.fs/\∀v,p.2.data≠.cell v
 hok:HOk X.prog X.w H s.heap
 len:σ.length=X.N.length
section
variable {X:Cx}{pins:List (Addr×Obj)}{σ:List (Option V)}{H H':Hp}{s:Shared}{h':Heap}
def Cx.Ok.nofr (ok:X.Ok) {b:Addr}{o:Obj} (e:X.base.get? b=some o):b∉X.fs:=fun hb=>by
 have:=(ok.funs.mem hb).1
 rw[e]at this;cases this
def Inv.bs (I:Inv X pins σ H s):∀b o,X.base.get? b=some o->s.heap.get? b=some o/\H b=none:=fun b o e=>
 ⟨I.base.keep b o (I.ok.bs b o e).1 (I.ok.bs b o e).2 (I.ok.nofr e) (I.ok.noex b o e),I.base.free b o (I.ok.bs b o e).1 (I.ok.bs b o e).2 (I.ok.noex b o e)⟩
def Inv.bk (I:Inv X pins σ H s):∀b o,X.base.get? b=some o->s.heap.get? b=some o:=fun b o e=>(I.bs b o e).1
def Inv.mod (I:Inv X pins σ H s):Mod X.K X.mg X.base:=I.ok.mod
def Inv.kIn (I:Inv X pins σ H s):X.K.In s.heap:=I.ok.mod.kin.keeps I.bk
def Inv.nolimit (I:Inv X pins σ H s):s.heap.NoLimit:=I.ok.mod.nolimit.keeps I.bk
def Inv.lt (I:Inv X pins σ H s):X.env.locals<s.heap.objs.size:=let ⟨_,hn,_⟩:=I.loc;hn.lt
def Inv.sz (I:Inv X pins σ H s):X.s₀.heap.objs.size<=s.heap.objs.size:=Z8 I.ok.above (YJ I.lt)
def Inv.nofs (I:Inv X pins σ H s) {a:Addr} (h:s.heap.objs.size<=a):a∉X.fs:=fun hb=>by
 obtain⟨_,o,ho,_⟩:=I.ok.funs.mem hb;exact absurd (Z5 (Zv ho) (Z8 I.sz h)) (ZY _)
def Inv.cne (I:Inv X pins σ H s):∀x c,X.env.cells.lookup x=some c->c≠X.env.locals:=fun x c e z=>by
 obtain⟨v,o,ho,hd⟩:=I.cell x c e;obtain⟨m,⟨o',es,ep,ho',hd',_⟩,_⟩:=I.loc;rw[z,ho']at ho;cases ho;rw[hd']at hd;cases hd
def Inv.funs (I:Inv X pins σ H s):s.heap.FunFrames X.base X.outer:=by
 have all:∀(l:List Env),(∀b∈frs l,b∈X.fs)->X.s₀.heap.FunFrames X.base l->s.heap.FunFrames X.base l:=by
  intro l
  induction l with
  |nil=>intro _ _;trivial
  |cons env r ih=>
   intro hs hl;obtain⟨hk,⟨L,o,hf,hn,ho,hd⟩,hr⟩:=hl;have hL:L∈X.fs:=hs L (by unfold frs;rw[Yc,hf];exact ZL);obtain⟨sl,e⟩:=I.base.slot L o ho (I.ok.frf L hL) hL fun z=>I.ok.exfs L z hL;exact⟨hk,⟨L,_,hf,hn,e,hd⟩,ih (fun b hb=>hs b (by unfold frs;rw[Yc,hf];exact ZE _ hb)) hr⟩
 exact all X.outer (fun _ hb=>hb) I.ok.funs
def Inv.stack (I:Inv X pins σ H s):s.heap.FunFrames X.base X.stack:=by
 rcases I.ok.stk with e|⟨e,hf⟩
 ·rw[e];exact I.funs
 ·rw[e];obtain⟨m,hn,_⟩:=I.loc;refine .cons (by rw[I.ok.kind];decide) hf hn ?_ I.funs;exact Wa (Z8 I.ok.bsz I.ok.above)
def Inv.stkSub (I:Inv X pins σ H s):∀b∈frs X.stack,b∈X.env.locals::X.fs:=fun b hb=>by
 rcases I.ok.stk with e|⟨e,hf⟩
 ·rw[e]at hb;exact ZE _ hb
 ·rw[e]at hb;unfold frs at hb;rw[Yc,hf]at hb;exact hb
def Inv.stkFree (I:Inv X pins σ H s):∀b∈frs X.stack,H b=none:=fun b hb=>by
 rcases ZA.mp (I.stkSub b hb)with e|hb
 ·rw[e];exact I.free
 ·obtain⟨_,o,ho,_⟩:=I.ok.funs.mem hb;exact I.base.free b o ho (I.ok.frf b hb) fun z=>I.ok.exfs b z hb
def Inv.step {g':Array GenState}{t':Nat}{d':Drawn}{ch:List Addr} (I:Inv X pins σ H s)
  (hch:∀b∈ch,(b∈X.ex\/X.s₀.heap.objs.size<=b)/\b≠X.env.locals/\(∀x c,X.env.cells.lookup x=some c->c≠b)/\∀p∈X.pn++pins,p.1≠b)
  (keep:∀b o,b≠X.env.locals->b∉X.fs->b∉ch->s.heap.get? b=some o->H b=none->h'.get? b=some o)
  (slot:∀b o,b≠X.env.locals->b∈X.fs->b∉ch->s.heap.get? b=some o->H b=none->∃sl,h'.get? b=some {o with slots:=sl}) (free:∀b o,b∉ch->s.heap.get? b=some o->H b=none->H' b=none)
  (there:∀b o,b∉ch->s.heap.get? b=some o->∃o',h'.get? b=some o')
  (tups:∀b xs,H b=some (.tup xs)->H' b=some (.tup xs)) (frzs:∀b o u,H b=some (.frz o u)->H' b=some (.frz o u)) (tbls:∀b ps,H b=some (.tbl ps)->∃more,H' b=some (.tbl (ps++more)))
  (ns:∀m,s.heap.Ns X.env.locals m->h'.Ns X.env.locals m) (hok:HOk X.prog X.w H' h') (hg:AllBare g') :
  Inv X pins σ H' {s with heap:=h',gens:=g',drawn:=d',toks:=t'}:=by
 have neL:∀b o,X.s₀.heap.get? b=some o->b≠X.env.locals:=fun b o e=>Z7 (Z5 (Zv e) I.ok.above)
 have neC:∀b o,X.s₀.heap.get? b=some o->b∉X.ex->b∉ch:=fun b o e hx hb=>by
  rcases(hch b hb).1 with z|z
  ·exact hx z
  ·exact absurd (Z5 (Zv e) z) (ZY _)
 have cellK:∀x c,X.env.cells.lookup x=some c->∀v,s.heap.IsCell c v->h'.IsCell c v:=fun x c e v ⟨o,ho,hd⟩=>by
  have nch:c∉ch:=fun z=>(hch c z).2.2.1 x c e rfl;by_cases hc:c∈X.fs
  ·obtain⟨sl,q⟩:=slot c o (I.cne x c e) hc nch ho (I.freeC x c e);exact⟨_,q,hd⟩
  ·exact⟨o,keep c o (I.cne x c e) hc nch ho (I.freeC x c e),hd⟩
 refine⟨I.ok,I.os,hg,⟨fun b o e n hb hx=>?_,fun b o e n hb hx=>?_,fun b o e n hx=>?_,fun b o e hx=>?_,fun b xs e=>tups b xs (I.base.tups b xs e),fun b o xs e=>frzs b o xs (I.base.frzs b o xs e),fun b ps e=>?_⟩,?_,fun x c e=>?_,?_,fun x c e=>?_,fun p hp=>?_,hok,I.len⟩
 ·exact keep b o (neL b o e) hb (neC b o e hx) (I.base.keep b o e n hb hx) (I.base.free b o e n hx)
 ·obtain⟨sl,e1⟩:=I.base.slot b o e n hb hx;obtain⟨sl',e2⟩:=slot b _ (neL b o e) hb (neC b o e hx) e1 (I.base.free b o e n hx);exact⟨sl',e2⟩
 ·obtain⟨o',e1⟩:=I.base.there b o e hx;exact free b o' (neC b o e hx) e1 (I.base.free b o e n hx)
 ·obtain⟨o',e1⟩:=I.base.there b o e hx;exact there b o' (neC b o e hx) e1
 ·obtain⟨m1,e1⟩:=I.base.tbls b ps e;obtain⟨m2,e2⟩:=tbls b _ e1;exact⟨m1++m2,by rw[e2,Array.append_assoc]⟩
 ·obtain⟨m,hn,hl⟩:=I.loc;refine⟨m,ns m hn,fun i x v e1 e2 e3=>?_⟩;obtain⟨u,r,l⟩:=hl i x v e1 e2 e3;refine⟨u,r,?_⟩;rcases l with l|⟨k,c,e,z⟩
  ·exact .inl l
  ·exact .inr ⟨k,c,e,cellK x c e _ z⟩
 ·obtain⟨v,z⟩:=I.cell x c e;exact⟨v,cellK x c e v z⟩
 ·obtain⟨m,⟨o,_,_,ho,_⟩,_⟩:=I.loc;exact free _ o (fun z=>(hch _ z).2.1 rfl) ho I.free
 ·obtain⟨v,o,ho,hd⟩:=I.cell x c e;exact free c o (fun z=>(hch c z).2.2.1 x c e rfl) ho (I.freeC x c e)
 ·obtain⟨e,n,ne,nf,d⟩:=I.pin p hp;have nch:p.1∉ch:=fun z=>(hch p.1 z).2.2.2 p hp rfl;exact⟨keep p.1 p.2 ne nf nch e n,free p.1 p.2 nch e n,ne,nf,d⟩
def Inv.un {t':Nat} (I:Inv X pins σ H s) (u:Un X.fs [] H H' s.heap h') (hok:HOk X.prog X.w H' h'):Inv X pins σ H' {s with heap:=h',toks:=t'}:=by
 obtain⟨m,⟨o,es,ep,ho,r⟩,_⟩:=id I.loc;obtain⟨sl,hL⟩:=u.any ho I.free (by simp)
 exact I.step (g':=s.gens) (d':=s.drawn) (ch:=[]) (fun _ z=>nomatch z) (fun b o _ hb _ e n=>u.keep b o e n hb (by simp)) (fun b o _ hb _ e n=>u.slot b o e n hb (by simp)) (fun b o _ e n=>u.free b o e n (by simp)) (fun b o _ e=>u.there b o e (by simp)) u.tups u.frzs u.tbls (fun m' hm=>by
  obtain⟨o',es',ep',ho',r'⟩:=hm;rw[ho]at ho';cases ho';exact⟨_,es',ep',hL,r'⟩) hok I.bare
def Inv.call {g':Array GenState}{t':Nat}{d':Drawn}{ch:List Addr} (I:Inv X pins σ H s) (u:Un (frs X.stack) ch H H' s.heap h') (hok:HOk X.prog X.w H' h') (hg:AllBare g')
  (hch:∀b∈ch,(b∈X.ex\/X.s₀.heap.objs.size<=b)/\b≠X.env.locals/\(∀x c,X.env.cells.lookup x=some c->c≠b)/\∀p∈X.pn++pins,p.1≠b) :
  Inv X pins σ H' {s with heap:=h',gens:=g',drawn:=d',toks:=t'}:=by
 obtain⟨m,⟨o,es,ep,ho,r⟩,_⟩:=id I.loc;obtain⟨sl,hL⟩:=u.any ho I.free fun z=>(hch _ z).2.1 rfl
 exact I.step (ch:=ch) hch (fun b o hL hb hc e n=>u.keep b o e n (fun z=>(ZA.mp (I.stkSub b z)).elim hL hb) hc) (fun b o _ _ hc e n=>u.any e n hc) (fun b o hc e n=>u.free b o e n hc) (fun b o hc e=>u.there b o e hc) u.tups u.frzs u.tbls (fun m' hm=>by
  obtain⟨o',es',ep',ho',r'⟩:=hm;rw[ho]at ho';cases ho';exact⟨_,es',ep',hL,r'⟩) hok hg
def Inv.turned {t':Nat}{it:Addr} (I:Inv X pins σ H s) (k:∀b o,b≠it->s.heap.get? b=some o->h'.get? b=some o) (hn:H it=none) (hL:it≠X.env.locals)
  (h1:it∈X.ex\/X.s₀.heap.objs.size<=it) (h2:∀x c,X.env.cells.lookup x=some c->c≠it) (h3:∀p∈X.pn++pins,p.1≠it):Inv X pins σ H {s with heap:=h',toks:=t'}:=by
 have nit:∀b u,H b=some u->b≠it:=fun b u e z=>by rw[z,hn]at e;cases e
 refine I.step (g':=s.gens) (d':=s.drawn) (ch:=[it]) (fun b hb=>?_) (fun b o _ _ hc e _=>k b o (fun z=>hc (by simp[z])) e) (fun b o _ _ hc e _=>⟨o.slots,k b o (fun z=>hc (by simp[z])) e⟩) (fun _ _ _ _ n=>n)
  (fun b o hc e=>⟨o,k b o (fun z=>hc (by simp[z])) e⟩) (fun _ _ e=>e) (fun _ _ _ e=>e) (fun b ps e=>⟨#[],by rw[e];simp⟩) (fun m hm=>?_) (fun b u e=>?_) I.bare
 ·have e:b=it:=by simpa using hb
  subst e;exact⟨h1,hL,h2,h3⟩
 ·obtain⟨o,es,ep,ho,r⟩:=hm;exact⟨o,es,ep,k _ o (Ne.symm hL) ho,r⟩
 ·refine(I.hok b u e).stay (fun c v hc q=>k c v ?_ q) (fun _ q=>q) fun _ _ q=>q;rcases hc with z|z
  ·rw[z];exact nit b u e
  ·exact nit c _ z
def Inv.tok (I:Inv X pins σ H s) (t:Nat):Inv X pins σ H {s with toks:=t}:=I.un (h':=s.heap) (t':=t) Un.refl I.hok
def Inv.kept {t':Nat} (I:Inv X pins σ H s) (k:∀b u,s.heap.get? b=some u->h'.get? b=some u):Inv X pins σ H {s with heap:=h',toks:=t'}:=I.un (Un.kept k) (I.hok.kept k)
def Inv.laid {a:Addr}{o:HO}{t':Nat} (I:Inv X pins σ H s) (k:∀b u,s.heap.get? b=some u->h'.get? b=some u) (hp:s.heap.objs.size<=a) (new:ObjOk X.prog X.w (upd H a o) h' a o) :
  Inv X pins σ (upd H a o) {s with heap:=h',toks:=t'}:=I.un (Un.laid k hp (I.hok.fresh hp)) (I.hok.laid k hp new)
def Inv.write {x e:Addr}{o:HO}{t':Nat} (I:Inv X pins σ H s) (mu:Mut (H x)) (he:e=x\/H e=some (.own x)) (k:∀b u,b≠e->s.heap.get? b=some u->h'.get? b=some u) (heo:∃u,h'.get? e=some u)
  (new:ObjOk X.prog X.w (upd H x o) h' x o):Inv X pins σ (upd H x o) {s with heap:=h',toks:=t'}:=I.un (Un.write mu he k heo) (I.hok.write mu he k heo new)
def Inv.weak {σ':List (Option V)} (I:Inv X pins σ H s) (hl:σ'.length=σ.length) (w:∀(i:Nat) v,σ'[i]?=some (some v)->σ[i]?=some (some v)):Inv X pins σ' H s:=
 ⟨I.ok,I.os,I.bare,I.base,let ⟨m,hn,hl'⟩:=I.loc;⟨m,hn,fun i x v e1 e2 e3=>hl' i x v e1 (w i v e2) e3⟩,I.cell,I.free,I.freeC,I.pin,I.hok,hl.trans I.len⟩
def Inv.pins_of {pins':List (Addr×Obj)} (I:Inv X pins σ H s) (h:∀p∈pins',s.heap.get? p.1=some p.2/\H p.1=none/\p.1≠X.env.locals/\p.1∉X.fs/\∀v,p.2.data≠.cell v):Inv X pins' σ H s:=
 ⟨I.ok,I.os,I.bare,I.base,I.loc,I.cell,I.free,I.freeC,fun p hp=>(Yq.mp hp).elim (fun z=>I.pin p (Y7 _ z)) (h p),I.hok,I.len⟩
def Xk{N:List Str}(hN:N.Nodup){i j:Nat}{x:Str}(a:N[i]?=some x)(b:N[j]?=some x):i=j:=by
 obtain⟨h1,e1⟩:=ZD.mp a;obtain⟨h2,e2⟩:=ZD.mp b;exact(List.getElem_inj hN).mp (e1.trans e2.symm)
def NX{M:Model}{A:Around}{E:Value->Shared->Prop}{i:Nat}{x:Str}{v:V}{u:Value}{Q:Unit->Shared->Prop}(I:Inv X pins σ H s)(hN:X.N.Nodup)(hi:X.N[i]?=some x)(hx:Loc X.env.scope x)(r:RelV v u)(h:∀s',Inv X pins (σ.set i (some v)) H s'->(∃a,Heap.SameBut a s.heap s'.heap/\(a=X.env.locals\/X.env.cells.lookup x=some a))->Q () s')(hf:X.fn x=true\/X.env.scope.names.lookup x=some .local:=by first|exact .inl rfl|exact .inr rfl|assumption):wpAny M A (storeName X.env x u) Q E s:=by
 obtain⟨m,hn,hl⟩:=id I.loc;have hcls:(X.env.scope.kind == .class || (X.env.scope.kind == .module&&X.env.locals != X.env.globals))=false:=by rw[I.ok.kind];rfl
 have hiσ:i<σ.length:=by rw[I.len];exact(ZD.mp hi).1
 have cne:=I.cne
 have tracked:∀{a:Addr} {h':Heap},(∃o,s.heap.get? a=some o/\H a=none)->Heap.SameBut a s.heap h'->HOk X.prog X.w H h':=fun {a h'} ha hs b ob e=>by
  obtain⟨_,_,hfree⟩:=ha;refine(I.hok b ob e).stay (fun c w' hc q=>(hs.2 c ?_).trans q) (fun _ q=>q) fun _ _ q=>q;rintro rfl;rcases hc with rfl|hc
  ·rw[hfree]at e;cases e
  ·rw[hfree]at hc;cases hc
 rcases hx with hk|hk
 ·refine wpAny_storeName_local hk hn (fun h' hn' hs=>?_) hcls;obtain⟨oL,_,_,hoL,_⟩:=id hn;refine h _ ⟨I.ok,I.os,I.bare,⟨fun b o e n hb hx=>?_,fun b o e n hb hx=>?_,I.base.free,fun b o e hx=>?_,I.base.tups,I.base.frzs,I.base.tbls⟩,⟨_,hn',fun j y v' e1 e2 e3=>?_⟩,fun y c e=>?_,I.free,I.freeC,fun p hp=>?_,tracked ⟨oL,hoL,I.free⟩ hs,by simpa using I.len⟩ ⟨_,hs,.inl rfl⟩
  ·exact(hs.2 b (Z7 (Z5 (Zv e) I.ok.above))).trans (I.base.keep b o e n hb hx)
  ·obtain⟨sl,e1⟩:=I.base.slot b o e n hb hx;exact⟨sl,(hs.2 b (Z7 (Z5 (Zv e) I.ok.above))).trans e1⟩
  ·obtain⟨o',e1⟩:=I.base.there b o e hx;exact⟨o',(hs.2 b (Z7 (Z5 (Zv e) I.ok.above))).trans e1⟩
  ·by_cases hj:j=i
   ·subst hj;rw[hi]at e1;cases e1;rw[YR hiσ]at e2;cases e2
    exact⟨u,r,.inl ⟨hk,by simp⟩⟩
   ·rw[Y8 (Ne.symm hj)]at e2;obtain⟨u',r',q⟩:=hl j y v' e1 e2 e3;refine⟨u',r',?_⟩;rcases q with⟨k,e⟩|⟨k,c,e,z⟩
    ·refine .inl ⟨k,?_⟩
     have:y≠x:=fun e=>hj (Xk hN e1 (e▸hi))
     simp[this,e]
    ·exact .inr ⟨k,c,e,z.sameBut hs (cne y c e)⟩
  ·obtain⟨w',z⟩:=I.cell y c e;exact⟨w',z.sameBut hs (cne y c e)⟩
  ·obtain⟨e,n,ne,nf,d⟩:=I.pin p hp;exact⟨(hs.2 p.1 ne).trans e,n,ne,nf,d⟩
 ·have hfn:X.fn x=true:=by
   rcases hf with z|z
   ·exact z
   ·rw[z]at hk;cases hk
  obtain⟨c,hc⟩:=I.ok.has x (.inl hk);obtain⟨w',z⟩:=I.cell x c hc;refine wpAny_storeName_cell I.ok.kind hk hc z (fun h' hc' hs=>?_);obtain⟨oc,hoc,hocd⟩:=id z;refine h {s with heap:=h'} ⟨I.ok,I.os,I.bare,⟨fun b o e n hb hx=>?_,fun b o e n hb hx=>?_,I.base.free,fun b o e hx=>?_,I.base.tups,I.base.frzs,I.base.tbls⟩,⟨m,hn.sameBut hs (Ne.symm (cne x c hc)),fun j y v' e1 e2 e3=>?_⟩,fun y c' e=>?_,I.free,I.freeC,fun p hp=>?_,tracked ⟨oc,hoc,I.freeC x c hc⟩ hs,by simpa using I.len⟩ ⟨c,hs,.inr hc⟩
  ·exact(hs.2 b (Z7 (Z5 (Zv e) (I.ok.cab x c hfn hc)))).trans (I.base.keep b o e n hb hx)
  ·obtain⟨sl,e1⟩:=I.base.slot b o e n hb hx;exact⟨sl,(hs.2 b (Z7 (Z5 (Zv e) (I.ok.cab x c hfn hc)))).trans e1⟩
  ·obtain⟨o',e1⟩:=I.base.there b o e hx;exact⟨o',(hs.2 b (Z7 (Z5 (Zv e) (I.ok.cab x c hfn hc)))).trans e1⟩
  ·by_cases hj:j=i
   ·subst hj;rw[hi]at e1;cases e1;rw[YR hiσ]at e2;cases e2
    exact⟨u,r,.inr ⟨.inl hk,c,hc,hc'⟩⟩
   ·rw[Y8 (Ne.symm hj)]at e2;obtain⟨u',r',q⟩:=hl j y v' e1 e2 e3;refine⟨u',r',?_⟩;rcases q with q|⟨k,c',e,z'⟩
    ·exact .inl q
    ·refine .inr ⟨k,c',e,z'.sameBut hs ?_⟩;rintro rfl;exact hj (Xk hN e1 (I.ok.inj _ _ _ e hc▸hi))
  ·by_cases hcc:c'=c
   ·subst hcc;exact⟨_,hc'⟩
   ·obtain⟨w2,z2⟩:=I.cell y c' e;exact⟨w2,z2.sameBut hs hcc⟩
  ·obtain⟨e,n,ne,nf,d⟩:=I.pin p hp;refine⟨(hs.2 p.1 ?_).trans e,n,ne,nf,d⟩;intro q;rw[q,hoc]at e;have q':oc=p.2:=Zw e;exact d w' (by rw[←q'];exact hocd)
def Ux{M:Model}{A:Around}{E:Value->Shared->Prop}{i:Nat}{x:Str}{v:V}{u:Value}{Q:Unit->Shared->Prop}(I:Inv X pins σ H s)(hN:X.N.Nodup)(hi:X.N[i]?=some x)(hx:Loc X.env.scope x)(r:RelV v u)(h:∀s',Inv X pins (σ.set i (some v)) H s'->Q () s')(hf:X.fn x=true\/X.env.scope.names.lookup x=some .local:=by first|exact .inl rfl|exact .inr rfl|assumption):wpAny M A (storeName X.env x u) Q E s:=
 NX I hN hi hx r (fun s' I' _=>h s' I') hf
def Inv.call' {s':Shared}{ch:List Addr} (I:Inv X pins σ H s) (ho:s'.os=s.os) (u:Un (frs X.stack) ch H H' s.heap s'.heap) (hok:HOk X.prog X.w H' s'.heap) (hg:AllBare s'.gens)
  (hch:∀b∈ch,(b∈X.ex\/X.s₀.heap.objs.size<=b)/\b≠X.env.locals/\(∀x c,X.env.cells.lookup x=some c->c≠b)/\∀p∈X.pn++pins,p.1≠b):Inv X pins σ H' s':=by
 obtain⟨h',g',d',t',o'⟩:=s';have e:o'=s.os:=ho;subst e;exact I.call (g':=g') (t':=t') (d':=d') u hok hg hch
end
abbrev XK:=Value->Option Addr->Hp->Prop
abbrev St:=List (Option V)
abbrev VK:=V->Hp->Prop
abbrev TE:=St->Hp->VK->Prop
abbrev TT:=St->Hp->(Bool->Hp->Prop)->Prop
abbrev TA:=St->Hp->(List V->Hp->Prop)->Prop
structure Ends where
 nx:St->Hp->Prop
 rt:VK
 bk:St->Hp->Prop:=fun _ _=>False
 ct:St->Hp->Prop:=fun _ _=>False
abbrev TS:=Ends->St->Hp->Prop
def EP(X:Cx)(pins:List (Addr×Obj))(σ:St)(Q:VK)(u:Value)(s':Shared):Prop:=∃v H',Inv X pins σ H' s'/\RelV v u/\Q v H'
def TP(X:Cx)(pins:List (Addr×Obj))(σ:St)(Q:Bool->Hp->Prop)(b:Bool)(s':Shared):Prop:=∃H',Inv X pins σ H' s'/\Q b H'
def AP(X:Cx)(pins:List (Addr×Obj))(σ:St)(Q:List V->Hp->Prop)(us:List Value)(s':Shared):Prop:=∃vs H',Inv X pins σ H' s'/\Vals vs us/\Q vs H'
def SP(X:Cx)(pins:List (Addr×Obj))(D:Ends)(f:Flow)(s':Shared):Prop:=
 match f with
 | .next=>∃σ' H',Inv X pins σ' H' s'/\D.nx σ' H'
 | .brk=>∃σ' H',Inv X pins σ' H' s'/\D.bk σ' H'
 | .cont=>∃σ' H',Inv X pins σ' H' s'/\D.ct σ' H'
 | .ret u=>∃v σ' H',Inv X pins σ' H' s'/\RelV v u/\D.rt v H'
def PE(X:Cx)(e:Expr)(t:TE):Prop:=
 ∀(pins:List (Addr×Obj)) (s:Shared) (σ:St) (H:Hp) (Q:VK),Inv X pins σ H s->t σ H Q->wpAny (model X.prog X.w) X.A (eval e X.env) (EP X pins σ Q) X.xe s
def PT(X:Cx)(e:Expr)(t:TT):Prop:=
 ∀(pins:List (Addr×Obj)) (s:Shared) (σ:St) (H:Hp) (Q:Bool->Hp->Prop),Inv X pins σ H s->t σ H Q->wpAny (model X.prog X.w) X.A (isTrue e X.env (eval e X.env)) (TP X pins σ Q) X.xe s
def PW(X:Cx)(e:Expr)(t:TT):Prop:=
 ∀(whole:Sem Value) (pins:List (Addr×Obj)) (s:Shared) (σ:St) (H:Hp) (Q:Bool->Hp->Prop),Inv X pins σ H s->t σ H Q->wpAny (model X.prog X.w) X.A (isTrue e X.env whole) (TP X pins σ Q) X.xe s
def PW.pt {X:Cx}{e:Expr}{t:TT} (h:PW X e t):PT X e t:=h _
def PA(X:Cx)(es:List Expr)(t:TA):Prop:=
 ∀(pos:Pos) (pins:List (Addr×Obj)) (s:Shared) (σ:St) (H:Hp) (Q:List V->Hp->Prop),Inv X pins σ H s->t σ H Q->wpAny (model X.prog X.w) X.A (spliced (backTo pos (starEach es X.env))) (AP X pins σ Q) X.xe s
def PS(X:Cx)(st:Stmt)(t:TS):Prop:=
 ∀(pins:List (Addr×Obj)) (s:Shared) (σ:St) (H:Hp) (D:Ends),Inv X pins σ H s->t D σ H->wpAny (model X.prog X.w) X.A (exec st X.env) (SP X pins D) X.xe s
def PSs(X:Cx)(st:List Stmt)(t:TS):Prop:=
 ∀(pins:List (Addr×Obj)) (s:Shared) (σ:St) (H:Hp) (D:Ends),Inv X pins σ H s->t D σ H->wpAny (model X.prog X.w) X.A (execs st X.env) (SP X pins D) X.xe s
def thn{α:Type}{t:Sem α}{Q Q':α->Shared->Prop}{M:Model}{A:Around}{E:Value->Shared->Prop}{s:Shared}(h:wpAny M A t Q E s)(hQ:∀a s,Q a s->Q' a s):wpAny M A t Q' E s:=ZM h hQ fun _ _ x=>x
section
variable {X:Cx}
def bin{a b:Expr}{ta tb:TE}(ha:PE X a ta)(hb:PE X b tb){pins:List (Addr×Obj)}{s:Shared}{σ:St}{H:Hp}{R:V->V->Hp->Prop}(I:Inv X pins σ H s)(h:ta σ H fun x H1=>tb σ H1 fun y H2=>R x y H2){α:Type}{Q:α->Shared->Prop}{f:Value->Value->Sem α}(hf:∀v u s2 x y H2,Inv X pins σ H2 s2->RelV x v->RelV y u->R x y H2->wpAny (model X.prog X.w) X.A (f v u) Q X.xe s2) :
  wpAny (model X.prog X.w) X.A (eval a X.env) (fun v s₁=>wpAny (model X.prog X.w) X.A (eval b X.env) (fun u s₂=>wpAny (model X.prog X.w) X.A (f v u) Q X.xe s₂) X.xe s₁) X.xe s:=by
 refine thn (ha pins s σ H _ I h) fun v s1 ⟨x,H1,I1,r1,q1⟩=>?_;refine thn (hb pins s1 σ H1 _ I1 q1) fun u s2 ⟨y,H2,I2,r2,q2⟩=>?_;exact hf v u s2 x y H2 I2 r1 r2 q2
def tVar(i:Nat):TE:=fun σ H Q=>∃v,σ[i]?=some (some v)/\Q v H
def tC(v:V):TE:=fun _ H Q=>Q v H
def N1{i:Nat}{x:Str}{pos:Pos}(hN:X.N[i]?=some x)(hv:Vis X.env.scope x)(hd:(x==("__debug__" : Str))=false:=by decide)(hcd:(x==("__classdict__" : Str))=false:=by decide):PE X (.Name x pos) (tVar i):=by
 intro pins s σ H Q I h;obtain⟨v,e,h⟩:=h;obtain⟨m,hn,hl⟩:=I.loc;obtain⟨u,r,l⟩:=hl i x v hN e hv;have fin:EP X pins σ Q u s:=⟨v,H,I,r,h⟩;rcases l with⟨hk,hm⟩|⟨hk,c,hc,hcell⟩
 ·exact wpAny_Name (wpAny_loadName_local I.ok.kind hk hn hm fin) hd
 ·rcases hk with hk|hk
  ·exact wpAny_Name (wpAny_loadName_cell I.ok.kind hk hc hcell fin) hd
  ·exact wpAny_Name (wpAny_loadName_free I.ok.kind hk hc hcell fin hcd) hd
def W5{i j pos}:PE X (.Constant (.int i) j pos) (tC (.int i)):=fun _ _ _ H _ I h=>wpAny_Constant_int ⟨.int i,H,I.tok _,⟨_,rfl⟩,h⟩
def Qz{b j pos}:PE X (.Constant (.bool b) j pos) (tC (.bl b)):=fun _ _ _ H _ I h=>Constant_bool ⟨.bl b,H,I,rfl,h⟩
def XX{x j pos}:PE X (.Constant (.str x) j pos) (tC (.str x)):=fun _ _ _ H _ I h=>Calls.Constant_str ⟨.str x,H,I.tok _,⟨_,rfl⟩,h⟩
def Gl(X:Cx)(x:Str):Prop:=X.env.kindOf x=some .globalImplicit
def VJ{E:Value->Shared->Prop}{pins:List (Addr×Obj)}{s:Shared}{σ:St}{H:Hp}{x:Str}{u:Value}{pos:Pos}{Q:Value->Shared->Prop}(I:Inv X pins σ H s)(hg:Gl X x)(hm:X.mg x=some u)(h:Q u s)(hd:(x==("__debug__" : Str))=false:=by decide):wpAny (model X.prog X.w) X.A (eval (.Name x pos) X.env) Q E s:=
 Calls.Name_function_global I.ok.kind hg (Calls.loadGlobal_global (by rw[I.ok.glob];exact I.mod.glob.keeps I.bk) hm h) hd
def QN{E:Value->Shared->Prop}{pins:List (Addr×Obj)}{s:Shared}{σ:St}{H:Hp}{x:Str}{u:Value}{pos:Pos}{Q:Value->Shared->Prop}(I:Inv X pins σ H s)(hg:Gl X x)(hm:X.mg x=none)(hv:bootBuiltins x=some u)(h:Q u s)(hn:x≠"__name__":=by decide)(hd:(x==("__debug__" : Str))=false:=by decide):wpAny (model X.prog X.w) X.A (eval (.Name x pos) X.env) Q E s:=by
 obtain⟨mb,h1,h2⟩:=I.mod.blt;exact Calls.Name_function_global I.ok.kind hg (Calls.loadGlobal_builtin (by rw[I.ok.glob];exact I.mod.glob.keeps I.bk) hm (by rw[I.ok.blt];exact h1.keeps I.bk) ((h2 x hn).trans hv) h) hd
def QT{x:Str}{v:V}{u:Value}{pos:Pos}(hg:Gl X x)(hm:X.mg x=none)(hv:bootBuiltins x=some u)(r:RelV v u)(hn:x≠"__name__":=by decide)(hd:(x==("__debug__" : Str))=false:=by decide):PE X (.Name x pos) (tC v):=
 fun _ _ _ H _ I h=>QN I hg hm hv ⟨v,H,I,r,h⟩ hn hd
variable {a b:Expr}{ta tb:TE}{pos:Pos}
def PC(X:Cx)(op:CmpOp)(a b:Expr)(t:TE):Prop:=
 ∀(pins:List (Addr×Obj)) (s:Shared) (σ:St) (H:Hp) (Q:VK),Inv X pins σ H s->t σ H Q->
  wpAny (model X.prog X.w) X.A (eval a X.env) (fun v s₁=>wpAny (model X.prog X.w) X.A (eval b X.env) (fun u s₂=>wpAny (model X.prog X.w) X.A (compareOp op v u) (EP X pins σ Q) X.xe s₂) X.xe s₁) X.xe s
def KE(b:Expr){op:CmpOp}(h:op≠.In)(h2:op≠.NotIn):behindInMarks op b=false:=by
 have e1:(op==CmpOp.In)=false:=by cases op<;>first|rfl|exact absurd rfl h
 have e2:(op==CmpOp.NotIn)=false:=by cases op<;>first|rfl|exact absurd rfl h2
 cases b<;>simp[behindInMarks,e1,e2]
def tB(t:TE):TT:=fun σ H Q=>t σ H fun x H1=>∃c,x=.bl c/\Q c H1
def Sa{op:CmpOp}{t:TE}(h:PC X op a b t)(h1:behindInMarks op b=false:=by first|exact KE _ (by decide) (by decide)|rfl):PT X (.Compare a [op] [b] pos) (tB t):=by
 intro pins s σ H Q I hw;refine wpAny_isTrue_Compare1 (thn (h pins s σ H _ I hw) fun v s1 h1=>thn h1 fun u s2 h2=>thn h2 fun c s3 ⟨x,H1,I1,r1,q1⟩=>?_) h1;obtain⟨d,rfl,q⟩:=q1;cases r1
 exact Yw ⟨H1,I1,q⟩
def Va{e:Expr}{t:TE}(h:PE X e t)(he:∀whole,isTrue e X.env whole=(do let v ←whole;standAt e.pos;holding [v] (truthy v)):=by intro _;rfl):PT X e (tB t):=by
 intro pins s σ H Q I hw;refine isTrue_plain (thn (h pins s σ H _ I hw) fun v s1 ⟨x,H1,I1,r1,q1⟩=>?_) (he _);obtain⟨d,rfl,q⟩:=q1;cases r1
 exact Yw ⟨H1,I1,q⟩
variable {tA tB':TT}{rest:List Expr}
def tOr(t u:TT):TT:=fun σ H Q=>t σ H fun c H1=>if c=true then Q true H1 else u σ H1 Q
def tNot(t:TT):TT:=fun σ H Q=>t σ H fun c H1=>Q (!c) H1
def QI(ha:PT X a tA):PW X (.BoolOp .Or [a] pos) tA:=by
 intro wh pins s σ H Q I h;refine isTrue_or (thn (ha pins s σ H Q I h) fun c s1 e=>?_);cases c with
 |false=>exact isTrue_or_nil e
 |true=>exact e
def QH(ha:PT X a tA)(hb:PW X (.BoolOp .Or (b::rest) pos) tB'):PW X (.BoolOp .Or (a::b::rest) pos) (tOr tA tB'):=by
 intro wh pins s σ H Q I h;refine isTrue_or (thn (ha pins s σ H _ I h) fun c s1 ⟨H1,I1,q1⟩=>?_);cases c with
 |true=>exact⟨H1,I1,q1⟩
 |false=>exact hb wh pins s1 σ H1 Q I1 q1
def Q7(ha:PT X a tA):PT X (.UnaryOp .Not a pos) (tNot tA):=by
 intro pins s σ H Q I h;exact isTrue_not (ha pins s σ H (fun c H1=>Q (!c) H1) I h)
def Ki(ta tb:TE):TE:=fun σ H Q=>ta σ H fun x H1=>∃c,x=.bl c/\if c=true then tb σ H1 Q else Q (.bl false) H1
def XA(ta:TE):TE:=fun σ H Q=>ta σ H fun x H1=>∃c,x=.bl c/\Q (.bl (!c)) H1
def NO{op}{t:TE}(h:PE X a t):PE X (.BoolOp op [a] pos) t:=fun pins s σ H Q I hw=>BoolOp_one (h pins s σ H Q I hw)
def Tp(ha:PE X a ta)(hb:PE X (.BoolOp .And (b::rest) pos) tb):PE X (.BoolOp .And (a::b::rest) pos) (Ki ta tb):=by
 intro pins s σ H Q I h;refine BoolOp_and (thn (ha pins s σ H _ I h) fun v s1 ⟨x,H1,I1,r1,q1⟩=>?_);obtain⟨c,rfl,q1⟩:=q1;cases r1
 refine Yw ?_;cases c with
 |true=>exact hb pins s1 σ H1 Q I1 q1
 |false=>exact⟨.bl false,H1,I1,rfl,q1⟩
def Ph(ha:PE X a ta):PE X (.UnaryOp .Not a pos) (XA ta):=by
 intro pins s σ H Q I h;refine UnaryOp_ (thn (ha pins s σ H _ I h) fun v s1 ⟨x,H1,I1,r1,q1⟩=>?_);obtain⟨c,rfl,q1⟩:=q1;cases r1
 exact not_of (Yw ⟨.bl (!c),H1,I1,rfl,q1⟩)
end
def SqL(K:Za)(H:Hp)(a:Addr)(xs:List V):Prop:=
 Rd H a (.lst xs)\/
  ∃(o:Obj) (its:Array Value) (n:Nat),K.lookup a=some o/\o.cls=.type "list"/\o.dict=none/\o.data=.seq its n/\its.size<=sizeLine/\Vals xs its.toList
def SqT(K:Za)(H:Hp)(a:Addr)(xs:List V):Prop:=
 Rd H a (.tup xs)\/
  ∃(o:Obj) (its:Array Value) (n:Nat),K.lookup a=some o/\o.cls=.type "tuple"/\o.data=.seq its n/\its.size<=sizeLine/\Vals xs its.toList
def absV:Value->Option V
 | .none=>some .non
 | .bool b=>some (.bl b)
 | .int i _=>some (.int i)
 | .str x _=>some (.str x)
 | .bytes b _=>some (.byt b)
 | .float b _=>some (.flt b)
 | .ref a=>some (.ref a)
 | .type n=>some (.ty n)
 |_=>none
def RelV.abs {x:V}{u:Value} (r:RelV x u):absV u=some x:=by
 cases x with
 |non=>cases r;rfl
 |bl _=>cases r;rfl
 |int _=>obtain⟨t,rfl⟩:=r;rfl
 |str _=>obtain⟨t,rfl⟩:=r;rfl
 |byt _=>obtain⟨t,rfl⟩:=r;rfl
 |flt _=>obtain⟨t,rfl⟩:=r;rfl
 |ref _=>cases r;rfl
 |ty _=>cases r;rfl
def RelV.inj {x y:V}{u:Value} (r:RelV x u) (q:RelV y u):x=y:=Zw (r.abs.symm.trans q.abs)
def Vals.inj:∀{xs ys:List V}{us:List Value},Vals xs us->Vals ys us->xs=ys
 |_,_,_,.nil,.nil=>rfl
 |_,_,_,.cons r t,.cons r' t'=>by rw[r.inj r',Vals.inj t t']
section
variable {X:Cx}{pins:List (Addr×Obj)}{σ:St}{H:Hp}{s:Shared}{a:Addr}{xs ys:List V}
def SqL.of {K:Za} (h:H a=some (.lst xs)):SqL K H a xs:=.inl (.inl h)
def SqT.of {K:Za} (h:H a=some (.tup xs)):SqT K H a xs:=.inl (.inl h)
def Inv.list (I:Inv X pins σ H s) (h:SqL X.K H a xs):∃its:List Value,Vals xs its/\PlainL s.heap a its.toArray/\xs.length<=sizeLine:=by
 rcases h with h|⟨o,its,n,hk,hc,hd,hs,hz,r⟩
 ·obtain⟨z,its,n,r,e⟩:=h.ok I.hok;exact⟨its,r,⟨_,n,e,rfl,rfl,rfl⟩,z⟩
 ·refine⟨its.toList,r,⟨o,n,I.kIn a o hk,hc,hd,by simpa using hs⟩,?_⟩;have e:=r.length;simp only[ZF]at e;omega
def Inv.tuple (I:Inv X pins σ H s) (h:SqT X.K H a xs):∃its:List Value,Vals xs its/\IsTup s.heap a its.toArray/\xs.length<=sizeLine:=by
 rcases h with h|⟨o,its,n,hk,hc,hs,hz,r⟩
 ·obtain⟨z,its,r,p⟩:=h.ok I.hok;exact⟨its,r,p,z⟩
 ·refine⟨its.toList,r,⟨o,I.kIn a o hk,hc,n,by simpa using hs⟩,?_⟩;have e:=r.length;simp only[ZF]at e;omega
def Inv.list_inj (I:Inv X pins σ H s) (h:SqL X.K H a xs) (h':SqL X.K H a ys):xs=ys:=by
 obtain⟨its,r,⟨o,n,e,_,_,d⟩,_⟩:=I.list h;obtain⟨its',r',⟨o',n',e',_,_,d'⟩,_⟩:=I.list h';rw[e]at e';cases e';rw[d]at d';injection d' with d1 _
 have:its=its':=by simpa using ZN Array.toList d1
 subst this;exact r.inj r'
end
abbrev Cx.wish (X:Cx) (E:Value->Shared->Prop):Cx:={X with xe:=E}
abbrev Cx.nox (X:Cx):Cx:=X.wish fun _ _=>False
def Cx.Ok.wish {X:Cx} (ok:X.Ok) (E:Value->Shared->Prop):(X.wish E).Ok:=
 ⟨ok.mod,ok.kind,ok.glob,ok.blt,ok.above,ok.inj,ok.has,ok.cab,ok.hd,ok.frames,ok.stk,ok.exf,ok.bs,ok.bsz,ok.noex,ok.exfs,ok.funs,ok.frf⟩
def Cx.Ok.unwish {X:Cx}{E:Value->Shared->Prop} (ok:(X.wish E).Ok):X.Ok:=
 ⟨ok.mod,ok.kind,ok.glob,ok.blt,ok.above,ok.inj,ok.has,ok.cab,ok.hd,ok.frames,ok.stk,ok.exf,ok.bs,ok.bsz,ok.noex,ok.exfs,ok.funs,ok.frf⟩
section
variable {X:Cx}{pins:List (Addr×Obj)}{σ:St}{H:Hp}{s:Shared}{E:Value->Shared->Prop}
def Inv.wish (I:Inv X pins σ H s) (E:Value->Shared->Prop):Inv (X.wish E) pins σ H s:=⟨I.ok.wish E,I.os,I.bare,I.base,I.loc,I.cell,I.free,I.freeC,I.pin,I.hok,I.len⟩
def Inv.unwish (I:Inv (X.wish E) pins σ H s):Inv X pins σ H s:=⟨I.ok.unwish,I.os,I.bare,I.base,I.loc,I.cell,I.free,I.freeC,I.pin,I.hok,I.len⟩
def SP.unwish {D:Ends}{f:Flow}{s':Shared} (h:SP (X.wish E) pins D f s'):SP X pins D f s':=by
 cases f with
 |next=>obtain⟨σ',H',I,q⟩:=h;exact⟨σ',H',I.unwish,q⟩
 |brk=>obtain⟨σ',H',I,q⟩:=h;exact⟨σ',H',I.unwish,q⟩
 |cont=>obtain⟨σ',H',I,q⟩:=h;exact⟨σ',H',I.unwish,q⟩
 |ret u=>obtain⟨v,σ',H',I,r,q⟩:=h;exact⟨v,σ',H',I.unwish,r,q⟩
def PSs.nox {st:List Stmt}{t:TS} (h:PSs X.nox st t):PSs X st t:=fun pins s σ H D I hw=>
 ZM (h pins s σ H D (I.wish _) hw) (fun _ _ q=>q.unwish) fun _ _ z=>False.elim z
end
section
variable {X:Cx}{st:Stmt}{rest:List Stmt}{t u:TS}{e:Expr}{te:TE}{pos:Pos}
def Jy:TS:=fun D σ H=>D.nx σ H
def tSeq(t u:TS):TS:=fun D σ H=>t {D with nx:=u D} σ H
def Qr:PSs X [] Jy:=fun _ _ σ H _ I h=>YC ⟨σ,H,I,h⟩
def WI(h1:PS X st t)(h2:PSs X rest u):PSs X (st::rest) (tSeq t u):=by
 intro pins s σ H D I h;refine YV (thn (h1 pins s σ H {D with nx:=u D} I h) fun f s1 q=>?_)
 cases f with
 |next=>
  obtain⟨σ',H',I',q⟩:=q;exact h2 pins s1 σ' H' D I' q
 |ret v=>exact q
 |brk=>exact q
 |cont=>exact q
def WD(h1:PS X st t):PSs X [st] t:=by
 intro pins s σ H D I h;refine YV (thn (h1 pins s σ H D I h) fun f s1 q=>?_);cases f with
 |next=>exact YC q
 |ret v=>exact q
 |brk=>exact q
 |cont=>exact q
def Inv.quiet {pins:List (Addr×Obj)}{σ:St}{H:Hp}{s:Shared} (I:Inv X pins σ H s):interactive X.env=false:=by simp[interactive,I.ok.kind]
def VO(te:TE):TS:=fun D σ H=>te σ H fun _ H1=>D.nx σ H1
def QU(he:PE X e te)(hs:swapsWith e none pos.line X.env=pure false:=by rfl):PS X (.Expr e pos) (VO te):=by
 intro pins s σ H D I h;exact wpAny_Expr_any (thn (he pins s σ H _ I h) fun v s1 ⟨x,H1,I1,r1,q1⟩=>⟨σ,H1,I1,q1⟩) I.quiet hs
def tRet(te:TE):TS:=fun D σ H=>te σ H D.rt
def WL(he:PE X e te):PS X (.Return (some e) pos) (tRet te):=by
 intro pins s σ H D I h;exact wpAny_Return_some (thn (he pins s σ H _ I h) fun v s1 ⟨x,H1,I1,r1,q1⟩=>⟨x,σ,H1,I1,r1,q1⟩)
def tIfS(c:TT)(t u:TS):TS:=fun D σ H=>c σ H fun b H1=>if b=true then t D σ H1 else u D σ H1
def Qo{c:Expr}{a b:List Stmt}{tc:TT}(hc:PT X c tc)(ha:PSs X a t)(hb:PSs X b u):PS X (.If c a b pos) (tIfS tc t u):=by
 intro pins s σ H D I h;refine wpAny_If (thn (hc pins s σ H _ I h) fun d s1 ⟨H1,I1,q1⟩=>?_);cases d with
 |true=>exact ha pins s1 σ H1 D I1 q1
 |false=>exact hb pins s1 σ H1 D I1 q1
end
abbrev TG:=V->St->Hp->(St->Hp->Prop)->Prop
abbrev TGs:=List V->St->Hp->(St->Hp->Prop)->Prop
def PG(X:Cx)(target:Expr)(t:TG):Prop:=
 ∀(pins:List (Addr×Obj)) (s:Shared) (σ:St) (H:Hp) (v:V) (u:Value) (Q:St->Hp->Prop),Inv X pins σ H s->RelV v u->t v σ H Q->
  wpAny (model X.prog X.w) X.A (assign target X.env u) (fun _ s'=>∃σ' H',Inv X pins σ' H' s'/\Q σ' H') X.xe s
def PGs(X:Cx)(ts:List Expr)(t:TGs):Prop:=
 ∀(pins:List (Addr×Obj)) (s:Shared) (σ:St) (H:Hp) (vs:List V) (us:List Value) (Q:St->Hp->Prop),Inv X pins σ H s->Vals vs us->t vs σ H Q->
  wpAny (model X.prog X.w) X.A (assignInOrder ((assignEach ts X.env).map (·.2)) us) (fun _ s'=>∃σ' H',Inv X pins σ' H' s'/\Q σ' H') X.xe s
section
variable {X:Cx}{pos:Pos}
def QO(i:Nat):TG:=fun v σ H Q=>Q (σ.set i (some v)) H
def Ql{i:Nat}{x:Str}(hN:X.N.Nodup)(hi:X.N[i]?=some x)(hx:Loc X.env.scope x)(hf:X.fn x=true\/X.env.scope.names.lookup x=some .local:=by first|exact .inl rfl|exact .inr rfl|assumption):PG X (.Name x pos) (QO i):=by
 intro pins s σ H v u Q I r h;exact wpAny_assign_Name (Ux I hN hi hx r (fun s' I'=>⟨_,H,I',h⟩) hf)
def gNil:TGs:=fun vs σ H Q=>vs=[]/\Q σ H
def Pa(t:TG)(u:TGs):TGs:=fun vs σ H Q=>∃v r,vs=v::r/\t v σ H fun σ' H'=>u r σ' H' Q
def KZ:PGs X [] gNil:=by
 intro pins s σ H vs us Q I r h;obtain⟨e,h⟩:=h;subst e;cases r
 exact assignInOrder_nil ⟨σ,H,I,h⟩
def Jt{e:Expr}{es:List Expr}{t:TG}{u:TGs}(h1:PG X e t)(h2:PGs X es u)(hs:(assignEach (e::es) X.env).map (·.2)=assign e X.env::(assignEach es X.env).map (·.2):=by rfl):PGs X (e::es) (Pa t u):=by
 intro pins s σ H vs us Q I r h;obtain⟨v,vr,e1,h⟩:=h;subst e1;cases r with
 |cons r rr=>
  rw[hs];refine assignInOrder_cons (thn (h1 pins s σ H _ _ _ I r h) fun _ s1 ⟨σ1,H1,I1,q1⟩=>?_);exact h2 pins s1 σ1 H1 _ _ Q I1 rr q1
def gTup(K:Za)(n:Nat)(t:TGs):TG:=fun v σ H Q=>∃a xs,v=.ref a/\SqT K H a xs/\xs.length=n/\t xs σ H Q
def Kp{es:List Expr}{k:Nat}{t:TGs}{n:Nat}(hc:X.calm=true)(h:PGs X es t)(hn:(assignEach es X.env).length=n:=by rfl)(hst:(assignEach es X.env).findIdx? (·.1)=none:=by rfl):PG X (.Tuple es k pos) (gTup X.K n t):=by
 intro pins s σ H v u Q I r hw;obtain⟨a,xs,e1,hq,hl,hw⟩:=hw;subst e1;cases r
 obtain⟨its,rv,ht,hz⟩:=I.tuple hq;refine assign_Tuple_tuple (I.ok.hd hc) ht (by simp[hn,←hl,rv.length]) hst fun h' hx=>?_;have I1:Inv X pins σ H {s with heap:=h'}:=I.kept (t':=s.toks) fun b o e=>hx b o (Z7 (Zv e)) e
 exact h pins _ σ H xs _ Q I1 (by simpa using rv) hw
def tAsg(te:TE)(g:TG):TS:=fun D σ H=>te σ H fun x H1=>g x σ H1 D.nx
def KG{i:Nat}{x:Str}{e:Expr}{te:TE}{pos':Pos}(hN:X.N.Nodup)(hi:X.N[i]?=some x)(hx:Loc X.env.scope x)(he:PE X e te)(hs:swapsWith e (some (.Name x pos')) pos.line X.env=pure false:=by rfl)(hf:X.fn x=true\/X.env.scope.names.lookup x=some .local:=by first|exact .inl rfl|exact .inr rfl|assumption) :
  PS X (.Assign [.Name x pos'] e pos) (tAsg te (QO i)):=by
 intro pins s σ H D I h;refine wpAny_Assign_Name (thn (he pins s σ H _ I h) fun v s1 ⟨y,H1,I1,r1,q1⟩=>?_) hs;exact Ux I1 hN hi hx r1 (fun s2 I2=>⟨_,H1,I2,q1⟩) hf
end
section
variable {X:Cx}{pos:Pos}
def P6(c:TT)(tb:TS):TS:=fun D σ H=>∃W:Nat->St->Hp->Prop,(∃m,W m σ H)/\∀m σ H,W m σ H->
 c σ H fun b H1=>if b=true then ∃N:St->Hp->Prop,(∀σ' H',N σ' H'->∃m',m'<m/\W m' σ' H')/\tb {D with nx:=N,ct:=N,bk:=D.nx} σ H1 else D.nx σ H1
def K6{c:Expr}{body:List Stmt}{tc:TT}{tb:TS}(hp:PassesOwn (model X.prog X.w) X.A X.env X.xe)(hc:PT X c tc)(hb:PSs X body tb):PS X (.While c body [] pos) (P6 tc tb):=by
 intro pins s σ H D I h;obtain⟨W,⟨m0,w0⟩,turn⟩:=h;refine wpAny_While (codeAny_whileLoop (fun n s'=>∃σ' H',Inv X pins σ' H' s'/\W n σ' H') ?_ m0 ⟨σ,H,I,w0⟩);rintro n s1 ⟨σ1,H1,I1,w1⟩;refine Yr hp (thn (hc pins s1 σ1 H1 _ I1 (turn n σ1 H1 w1)) fun b s2 ⟨H2,I2,q2⟩=>?_);cases b with
 |true=>
  obtain⟨N,hN,q2⟩:=q2;rw[Z0 rfl];refine Yr hp (thn (hb pins s2 σ1 H2 _ I2 q2) fun f s3 q3=>?_);cases f with
  |next=>
   obtain⟨σ3,H3,I3,n3⟩:=q3;obtain⟨m',hm,w3⟩:=hN σ3 H3 n3;exact⟨m',hm,σ3,H3,I3,w3⟩
  |cont=>
   obtain⟨σ3,H3,I3,n3⟩:=q3;obtain⟨m',hm,w3⟩:=hN σ3 H3 n3;exact⟨m',hm,σ3,H3,I3,w3⟩
  |brk=>exact q3
  |ret v=>exact q3
 |false=>
  rw[Z2 Z1];exact YC ⟨σ1,H2,I2,q2⟩
end
structure It where
 go:Nat->Hp->Prop
 yld:Nat->Hp->V->Hp->Prop
 stop:Nat->Hp->Prop
def FpOk(X:Cx)(pins:List (Addr×Obj))(H:Hp)(b:Addr):Prop:=
 H b=none/\b≠X.env.locals/\b∉X.fs/\(b∈X.ex\/X.s₀.heap.objs.size<=b)/\(∀x c,X.env.cells.lookup x=some c->c≠b)/\∀p∈X.pn++pins,p.1≠b
def Inv.fpOk {X:Cx}{pins:List (Addr×Obj)}{σ:St}{H H':Hp}{s:Shared}{b:Addr} (I:Inv X pins σ H s) (hb:s.heap.objs.size<=b) (hn:H' b=none):FpOk X pins H' b:=by
 refine⟨hn,Wm (Z5 I.lt hb),I.nofs hb,.inr (Z8 I.sz hb),fun x c e z=>?_,fun p hp z=>?_⟩
 ·obtain⟨v,q⟩:=I.cell x c e;exact absurd (Z5 q.lt (by rw[z];exact hb)) (ZY _)
 ·exact absurd (Z5 (Zv (I.pin p hp).1) (by rw[z];exact hb)) (ZY _)
structure Turn (P:Program) (w:World) (K:Za) (tg:Expr) (J:It) (fp:List Addr) (it:Addr) (tn:Nat->Heap->Prop):Prop where
 mem:it∈fp
 obj:∀i h,tn i h->∀b∈fp,∃o,h.get? b=some o/\∀v,o.data≠.cell v
 keep:∀i h h',tn i h->(∀b∈fp,∀o,h.get? b=some o->h'.get? b=some o)->tn i h'
 item:∀(X:Cx),X.prog=P->X.w=w->X.K=K->X.calm=true->∀(i:Nat) (pins:List (Addr×Obj)) (s:Shared) (σ:St) (H:Hp) (E:Value->Shared->Prop),Inv X pins σ H s->(∀b∈fp,FpOk X pins H b)->tn i s.heap->J.go i H->
  wpAny (model P w) X.A (pyNext (.ref it)) (fun r s1=>∃u,r=some u/\
   wpAny (model P w) X.A (letOwnedTupleGo tg (.ref it) u) (fun _ s2=>∃x H',Inv X pins σ H' s2/\RelV x u/\J.yld i H x H'/\tn (i+1) s2.heap/\∀b∈fp,H' b=none) E s1) E s
 done:∀(X:Cx),X.prog=P->X.w=w->X.K=K->X.calm=true->∀(i:Nat) (pins:List (Addr×Obj)) (s:Shared) (σ:St) (H:Hp) (E:Value->Shared->Prop),Inv X pins σ H s->(∀b∈fp,FpOk X pins H b)->tn i s.heap->J.stop i H->
  wpAny (model P w) X.A (pyNext (.ref it)) (fun r s1=>r=none/\Inv X pins σ H s1) E s
 self:∀(A:Around) (i:Nat) (s:Shared) (Q:Value->Shared->Prop) (E:Value->Shared->Prop),tn i s.heap->Q (.ref it) s->wpAny (model P w) A (pyIter (.ref it)) Q E s
abbrev TI:=St->Hp->(It->Hp->Prop)->Prop
def PIE(X:Cx)(pins:List (Addr×Obj))(σ:St)(tg:Expr)(R:It->Hp->Prop)(itv:Value)(s2:Shared):Prop:=
 ∃(it:Addr) (fp:List Addr) (tn:Nat->Heap->Prop) (J:It) (H':Hp),itv=.ref it/\Inv X pins σ H' s2/\Turn X.prog X.w X.K tg J fp it tn/\tn 0 s2.heap/\(∀b∈fp,FpOk X pins H' b)/\R J H'
def PI(X:Cx)(tg iter:Expr)(wi:TI):Prop:=
 ∀(pins:List (Addr×Obj)) (s:Shared) (σ:St) (H:Hp) (R:It->Hp->Prop),Inv X pins σ H s->wi σ H R->
  wpAny (model X.prog X.w) X.A (eval iter X.env) (fun v s1=>wpAny (model X.prog X.w) X.A (pyIter v) (PIE X pins σ tg R) X.xe s1) X.xe s
def Jz {M : Model} {A : Around} {E : Value → Shared → Prop} {s : Shared} {tg : Expr} {it : Addr} {u : Value} {o : Obj} {n : String} {vs : Array Value} {Q : Unit → Shared → Prop} (ho : s.heap.get? it = some o) (hc : o.cls = .type n) (hd : o.data = .fields vs)
    (hn : ["enumerate", "zip", "dict_itemiterator", "dict_reverseitemiterator", "odict_iterator", "itertools.zip_longest", "itertools.pairwise"].contains n = false) (hQ : Q () s) : wpAny M A (letOwnedTupleGo tg (.ref it) u) Q E s := by
  unfold letOwnedTupleGo
  cases tg <;> first
    | exact Zt hQ
    | (cases u <;> first
        | exact Zt hQ
        | (refine Zp (wpAny_load ho ?_)
           rw [hc, hd]
           show wpAny M A (if (["enumerate", "zip", "dict_itemiterator", "dict_reverseitemiterator", "odict_iterator", "itertools.zip_longest", "itertools.pairwise"].contains n && vs[0]? == some (rawInt _)) = true then _ else _) Q E s
           rw [Z2 (by intro h; rw [hn, Bool.false_and] at h; cases h)]
           exact Zt hQ))
def Itl(K:Za)(a:Addr):It:=
 ⟨fun i H=>∃xs x,SqL K H a xs/\xs[i]?=some x,fun i H x H'=>H'=H/\∀xs,SqL K H a xs->xs[i]?=some x,fun i H=>∃xs,SqL K H a xs/\xs.length<=i⟩
def Itr(lo:Int)(n:Nat):It:=⟨fun i _=>i<n,fun i H x H'=>H'=H/\x=.int (lo+i),fun i _=>n<=i⟩
def KM{P:Program}{w:World}{K:Za}{tg:Expr}(a it:Addr):Turn P w K tg (Itl K a) [it] it (fun i h=>h.IsListIter it a i) where
 mem:=by simp
 obj:=fun i h st b hb=>by
  have e:b=it:=by simpa using hb
  subst e;obtain⟨o,e,c,d⟩:=st;exact⟨o,e,fun v z=>by rw[d]at z;cases z⟩
 keep:=fun i h h' st k=>st.at fun o e=>k it (by simp) o e
 item:=by
  intro X hP hw hK hc i pins s σ H E I hf st hg;subst hP hw hK;obtain⟨xs,x,hq,hx⟩:=hg;obtain⟨its,rv,p,hz⟩:=I.list hq;obtain⟨u,hu,ru⟩:=rv.get hx;obtain⟨f0,f1,f2,f3,f4,f5⟩:=hf it (by simp);refine wpAny_pyNext_list_item st p.isList (x:=u) (by simpa using hu) fun h' st' sb=>?_;have I1:Inv X pins σ H {s with heap:=h'}:=I.turned (t':=s.toks) (fun b o hb e=>(sb.2 b hb).trans e) f0 f1 f3 f4 f5
  obtain⟨o,e,c,d⟩:=id st';exact⟨u,rfl,Jz (s:={s with heap:=h'}) e c d (by decide) ⟨x,H,I1,ru,⟨rfl,fun ys hy=>by rw[I.list_inj hy hq];exact hx⟩,st',fun b hb=>(hf b hb).1⟩⟩
 done:=by
  intro X hP hw hK hc i pins s σ H E I hf st hg;subst hP hw hK;obtain⟨xs,hq,hx⟩:=hg;obtain⟨its,rv,p,hz⟩:=I.list hq;obtain⟨f0,f1,f2,f3,f4,f5⟩:=hf it (by simp);have hl:=rv.length;exact wpAny_pyNext_list_end (I.ok.hd hc) st p.isList (by simp;omega) fun h' eb=>⟨rfl,I.turned (t':=s.toks) (fun b o hb e=>eb b o hb e) f0 f1 f3 f4 f5⟩
 self:=fun _ _ _ _ _ st h=>wpAny_pyIter_listiter st h
def KO{P:Program}{w:World}{K:Za}{tg:Expr}(it:Addr)(lo:Int)(n:Nat):Turn P w K tg (Itr lo n) [it] it (fun i h=>IsRangeIter h it (lo+(i:Nat)*1) ((n:Int)-(i:Nat)) 1) where
 mem:=by simp
 obj:=fun i h st b hb=>by
  have e:b=it:=by simpa using hb
  subst e
  exact⟨_,st,fun v z=>by
   have z':Data.fields _=Data.cell v:=z;cases z'⟩
 keep:=fun i h h' st k=>k it (by simp) _ st
 item:=by
  intro X hP hw hK hc i pins s σ H E I hf st hg;subst hP hw hK;obtain⟨f0,f1,f2,f3,f4,f5⟩:=hf it (by simp);have W:=Walks.range (prog:=X.prog) (w:=X.w) (I.ok.hd hc) it lo 1 n;refine W.item i s _ _ hg st fun v h' tk hv st' kk=>?_;obtain⟨t,rfl⟩:=hv;have I1:Inv X pins σ H {s with heap:=h',toks:=tk}:=I.turned (fun b o hb e=>kk b o (by simpa using hb) e) f0 f1 f3 f4 f5
  refine⟨_,rfl,Jz (s:={s with heap:=h',toks:=tk}) (n:="range_iterator") st' rfl rfl (by decide) ⟨.int (lo+i),H,I1,⟨t,?_⟩,⟨rfl,rfl⟩,st',fun b hb=>(hf b hb).1⟩⟩
  rw[Int.mul_one]
 done:=by
  intro X hP hw hK hc i pins s σ H E I hf st hg;subst hP hw hK;obtain⟨f0,f1,f2,f3,f4,f5⟩:=hf it (by simp);exact wpAny_pyNext_range_end (I.ok.hd hc) st (by have:n<=i:=hg;omega) fun h' eb=>⟨rfl,I.turned (t':=s.toks) (fun b o hb e=>eb b o hb e) f0 f1 f3 f4 f5⟩
 self:=fun _ _ _ _ _ st h=>wpAny_pyIter_rangeiter st h
section
variable {X:Cx}{tg:Expr}
def Vi(K:Za)(tl:TE):TI:=fun σ H R=>tl σ H fun x H1=>∃a,x=.ref a/\(∃xs,SqL K H1 a xs)/\R (Itl K a) H1
def V8{l:Expr}{tl:TE}(hl:PE X l tl):PI X tg l (Vi X.K tl):=by
 intro pins s σ H R I h;refine thn (hl pins s σ H _ I h) fun v s1 ⟨x,H1,I1,r1,q1⟩=>?_;obtain⟨a,e,⟨xs,hq⟩,q⟩:=q1;subst e;cases r1
 obtain⟨its,rv,p,hz⟩:=I1.list hq;refine wpAny_pyIter_list p.isList ?_;refine⟨s1.heap.objs.size,[s1.heap.objs.size],_,_,H1,rfl,I1.kept (t':=s1.toks) fun b o e=>Zr _ e,KM a _,⟨_,Z3 _ rfl,rfl,rfl⟩,fun b hb=>?_,q⟩;have e:b=s1.heap.objs.size:=by simpa using hb
 subst e;exact I1.fpOk (Zx _) (I1.hok.fresh (Zx _))
def U2{pins:List (Addr×Obj)}{σ:St}{H:Hp}{s:Shared}{R:It->Hp->Prop}{E:Value->Shared->Prop}{lo hi:Int}{t u v:Tok}{tk:Nat}(I:Inv X pins σ H s)(h1:-(2 ^ 62)<=lo)(h2:lo<2 ^ 62)(h3:-(2 ^ 62)<=hi)(h4:hi<2 ^ 62)(q:R (Itr lo (hi-lo).toNat) H):wpAny (model X.prog X.w) X.A (pyIter (.ref s.heap.objs.size)) (PIE X pins σ tg R) E {s with heap:=s.heap.push {cls:=.type "range",data:=.fields #[.int lo t,.int hi u,.int 1 v]},toks:=tk}:=by
 refine wpAny_pyIter_range (IsRange.new ..) (small_one h1 h2 h3 h4) ?_;have I1:Inv X pins σ H {s with heap:=s.heap.push {cls:=.type "range",data:=.fields #[.int lo t,.int hi u,.int 1 v]},toks:=tk}:=I.kept fun b o e=>Zr _ e
 refine⟨(s.heap.push {cls:=.type "range",data:=.fields #[.int lo t,.int hi u,.int 1 v]}).objs.size,[(s.heap.push {cls:=.type "range",data:=.fields #[.int lo t,.int hi u,.int 1 v]}).objs.size],_,_,H,rfl,
  I1.kept (t':=tk) fun b o e=>Zr _ e,KO _ lo (hi-lo).toNat,?_,fun b hb=>?_,q⟩
 ·have e1:lo+((0:Nat):Int)*1=lo:=by simp
  have e2:(((hi-lo).toNat:Nat):Int)-((0:Nat):Int)=Builtin.Range.rangeSize lo hi 1:=by rw[rangeSize_one];split<;>omega
  show IsRangeIter _ _ (lo+((0:Nat):Int)*1) ((((hi-lo).toNat:Nat):Int)-((0:Nat):Int)) 1;rw[e1,e2];exact Z3 _ rfl
 ·have e:b=(s.heap.push {cls:=.type "range",data:=.fields #[.int lo t,.int hi u,.int 1 v]}).objs.size:=by simpa using hb
  subst e;exact I1.fpOk (Zx _) (I1.hok.fresh (Zx _))
def Kw(ta:TA):TI:=fun σ H R=>ta σ H fun vs H1=>∃j:Int,vs=[.int j]/\-(2 ^ 62)<=j/\j<2 ^ 62/\R (Itr 0 j.toNat) H1
def PU(ta:TA):TI:=fun σ H R=>ta σ H fun vs H1=>∃i j:Int,vs=[.int i,.int j]/\(-(2 ^ 62)<=i/\i<2 ^ 62/\-(2 ^ 62)<=j/\j<2 ^ 62)/\R (Itr i (j-i).toNat) H1
def Vn{a:Expr}{ta:TA}{p pos:Pos}(hg:Gl X "range")(hm:X.mg "range"=none)(ha:PA X [a] ta)(hs:starEach [a] X.env=[(false,eval a X.env)]:=by rfl):PI X tg (.Call (.Name "range" p) [a] [] pos) (Kw ta):=by
 intro pins s σ H R I h;refine Call_ (QN I hg hm boot_range (Y6 (thn (ha pos pins s σ H _ I h) fun us s1 ⟨vs,H1,I1,r1,q1⟩=>?_) hs rfl));obtain⟨j,e,q1,q2,q⟩:=q1;subst e;cases r1 with
 |cons r rr=>
  cases rr
  obtain⟨t,rfl⟩:=r;exact call_range_1 (U2 I1 (by omega) (by omega) q1 q2 (by simpa using q))
def TH{a b:Expr}{ta:TA}{p pos:Pos}(hg:Gl X "range")(hm:X.mg "range"=none)(ha:PA X [a,b] ta)(hs:starEach [a,b] X.env=[(false,eval a X.env),(false,eval b X.env)]:=by rfl)(hs2:starEach [b] X.env=[(false,eval b X.env)]:=by rfl) :
  PI X tg (.Call (.Name "range" p) [a,b] [] pos) (PU ta):=by
 intro pins s σ H R I h;refine Call_ (QN I hg hm boot_range (Y6 (thn (ha pos pins s σ H _ I h) fun us s1 ⟨vs,H1,I1,r1,q1⟩=>?_) (by rw[hs,hs2]) (by rw[hs2];rfl)));obtain⟨i,j,e,⟨q1,q2,q3,q4⟩,q⟩:=q1;subst e;cases r1 with
 |cons r rr=>
  cases rr with
  |cons r' rr=>
   cases rr
   obtain⟨t,rfl⟩:=r;obtain⟨t',rfl⟩:=r';exact call_range_2 (U2 I1 q1 q2 q3 q4 q)
def tFor(wi:TI)(g:TG)(tb:TS):TS:=fun D σ H=>wi σ H fun J H1=>∃W:Nat->Nat->St->Hp->Prop,(∃m,W 0 m σ H1)/\∀i m σ H,W i m σ H->
 (J.stop i H/\D.nx σ H)\/(J.go i H/\∃N:St->Hp->Prop,(∀σ' H',N σ' H'->∃m',m'<m/\W (i+1) m' σ' H')/\∀x H',J.yld i H x H'->g x σ H' fun σ2 H2=>tb {D with nx:=N,ct:=N,bk:=D.nx} σ2 H2)
def QY(fp:List Addr)(h:Heap):List (Addr×Obj):=fp.filterMap fun b=>(h.get? b).map fun o=>(b,o)
def Vv{fp:List Addr}{h:Heap}{b:Addr}{o:Obj}(hb:b∈fp)(e:h.get? b=some o):(b,o)∈QY fp h:=Wh.mpr ⟨b,hb,by rw[e];rfl⟩
def TL{fp:List Addr}{h:Heap}{p:Addr×Obj}(hp:p∈QY fp h):p.1∈fp/\h.get? p.1=some p.2:=by
 obtain⟨b,hb,e⟩:=Wh.mp hp;cases q:h.get? b with
 |none=>rw[q]at e;cases e
 |some o=>
  rw[q]at e;have e':(b,o)=p:=Zw e;subst e';exact⟨hb,q⟩
def Inv.pinned {pins:List (Addr×Obj)}{σ:St}{H:Hp}{s:Shared}{fp:List Addr} (I:Inv X pins σ H s) (hf:∀b∈fp,FpOk X pins H b) (ho:∀b∈fp,∃o,s.heap.get? b=some o/\∀v,o.data≠.cell v):Inv X (pins++QY fp s.heap) σ H s:=
 I.pins_of fun p hp=>(Yq.mp hp).elim (fun z=>I.pin p (Z6 _ z)) fun z=>by
  obtain⟨hb,e⟩:=TL z;obtain⟨f0,f1,f2,_⟩:=hf p.1 hb;obtain⟨o,e',d⟩:=ho p.1 hb;rw[e]at e';cases e';exact⟨e,f0,f1,f2,d⟩
def Inv.unpinned {pins pl:List (Addr×Obj)}{σ:St}{H:Hp}{s:Shared} (I:Inv X (pins++pl) σ H s):Inv X pins σ H s:=I.pins_of fun p hp=>I.pin p (Z6 _ (Y7 _ hp))
def Vb{iter:Expr}{body:List Stmt}{wi:TI}{g:TG}{tb:TS}{pos:Pos}(hp:PassesOwn (model X.prog X.w) X.A X.env X.xe)(hc:X.calm=true)(hi:PI X tg iter wi)(hg:PG X tg g)(hb:PSs X body tb)(hs:∀x,foldedSetIterable iter X.env x=pure x:=by intro _;rfl):PS X (.For tg iter body [] pos) (tFor wi g tb):=by
 intro pins s σ H D I h;refine wpAny_For (thn (hi pins s σ H _ I h) fun v s1 h1=>thn h1 fun itv s2 h2=>?_) hs;obtain⟨it,fp,tn,J,H2,e,I2,T,st2,f2,W,⟨m0,w0⟩,turn⟩:=h2;subst e;have stat:∀{H':Hp},(∀b∈fp,H' b=none)->∀b∈fp,FpOk X pins H' b:=fun hn b hb=>⟨hn b hb,(f2 b hb).2⟩;refine codeAny_forLoop_any (fun n s'=>∃i σ' H',Inv X pins σ' H' s'/\tn i s'.heap/\(∀b∈fp,H' b=none)/\W i n σ' H') ?_ m0 ⟨0,σ,H2,I2,st2,fun b hb=>(f2 b hb).1,w0⟩;rintro n s3 ⟨i,σ3,H3,I3,st3,fr3,w3⟩;rcases turn i n σ3 H3 w3 with⟨stop,qn⟩|⟨go,N,hN,step⟩
 ·refine Yr hp (thn (T.done X rfl rfl rfl hc i pins s3 σ3 H3 X.xe I3 (stat fr3) st3 stop) fun r s4 ⟨hr,I4⟩=>?_);subst hr;exact YC ⟨σ3,H3,I4,qn⟩
 ·refine Yr hp (thn (T.item X rfl rfl rfl hc i pins s3 σ3 H3 X.xe I3 (stat fr3) st3 go) fun r s4 ⟨u,hr,h4⟩=>?_);subst hr;refine Yr hp (thn h4 fun _ s5 ⟨x,H5,I5,r5,y5,st5,fr5⟩=>?_);have I5':=I5.pinned (stat fr5) (T.obj _ _ st5);refine Yr hp (thn (hg _ s5 σ3 H5 x u _ I5' r5 (step x H5 y5)) fun _ s6 ⟨σ6,H6,I6,q6⟩=>?_);refine Yr hp (thn (hb _ s6 σ6 H6 _ I6 q6) fun f s7 q7=>?_)
  have again:∀{σ7:St} {H7:Hp},Inv X (pins++QY fp s5.heap) σ7 H7 s7->N σ7 H7->∃m,m<n/\∃i σ' H',Inv X pins σ' H' s7/\tn i s7.heap/\(∀b∈fp,H' b=none)/\W i m σ' H':=fun {σ7 H7} I7 n7=>by
   obtain⟨m',hm,w7⟩:=hN σ7 H7 n7;refine⟨m',hm,i+1,σ7,H7,I7.unpinned,T.keep _ _ _ st5 fun b hb o e=>(I7.pin (b,o) (Z6 _ (Z6 _ (Vv hb e)))).1,fun b hb=>?_,w7⟩;obtain⟨o,e,d⟩:=T.obj _ _ st5 b hb;exact(I7.pin (b,o) (Z6 _ (Z6 _ (Vv hb e)))).2.1
  cases f with
  |next=>obtain⟨σ7,H7,I7,n7⟩:=q7;exact again I7 n7
  |cont=>obtain⟨σ7,H7,I7,n7⟩:=q7;exact again I7 n7
  |brk=>obtain⟨σ7,H7,I7,q7⟩:=q7;exact⟨σ7,H7,I7.unpinned,q7⟩
  |ret v=>obtain⟨x7,σ7,H7,I7,r7,q7⟩:=q7;exact⟨x7,σ7,H7,I7.unpinned,r7,q7⟩
end
def Vt{lo:Int}{n:Nat}{g:TG}{tb:TS}{D:Ends}{σ:St}{H:Hp}(Pv:Nat->St->Hp->Prop)(h0:Pv 0 σ H)(hs:∀i σ H,i<n->Pv i σ H->g (.int (lo+i)) σ H fun σ2 H2=>tb {D with nx:=Pv (i+1),ct:=Pv (i+1),bk:=D.nx} σ2 H2)(hd:∀σ H,Pv n σ H->D.nx σ H) :
  ∃W:Nat->Nat->St->Hp->Prop,(∃m,W 0 m σ H)/\∀i m σ H,W i m σ H->
   ((Itr lo n).stop i H/\D.nx σ H)\/((Itr lo n).go i H/\∃N:St->Hp->Prop,(∀σ' H',N σ' H'->∃m',m'<m/\W (i+1) m' σ' H')/\∀x H',(Itr lo n).yld i H x H'->g x σ H' fun σ2 H2=>tb {D with nx:=N,ct:=N,bk:=D.nx} σ2 H2):=by
 refine⟨fun i m σ H=>m=n-i/\i<=n/\Pv i σ H,⟨n,by simp,ZZ _,h0⟩,?_⟩;rintro i m σ H ⟨rfl,hi,p⟩;by_cases hlt:i<n
 ·refine .inr ⟨hlt,Pv (i+1),fun σ' H' p'=>⟨n-(i+1),by omega,rfl,hlt,p'⟩,fun x H' y=>?_⟩;obtain⟨e,y⟩:=y;subst e y;exact hs i σ _ hlt p
 ·have e:i=n:=by omega
  subst e;exact .inl ⟨Zx _,hd σ H p⟩
abbrev R2:=V->V->Hp->VK->Prop
def OpR(X:Cx)(f:Value->Value->Sem Value)(r:R2):Prop:=
 ∀(pins:List (Addr×Obj)) (s:Shared) (σ:St) (H:Hp) (x y:V) (v u:Value) (Q:VK),Inv X pins σ H s->RelV x v->RelV y u->r x y H Q->
  wpAny (model X.prog X.w) X.A (f v u) (EP X pins σ Q) X.xe s
def UnR(X:Cx)(f:Value->Sem Value)(r:V->Hp->VK->Prop):Prop:=
 ∀(pins:List (Addr×Obj)) (s:Shared) (σ:St) (H:Hp) (x:V) (v:Value) (Q:VK),Inv X pins σ H s->RelV x v->r x H Q->
  wpAny (model X.prog X.w) X.A (f v) (EP X pins σ Q) X.xe s
def Qs(X:Cx)(f:Value)(r:List V->Hp->VK->Prop):Prop:=
 ∀(pins:List (Addr×Obj)) (s:Shared) (σ:St) (H:Hp) (xs:List V) (us:List Value) (Q:VK),Inv X pins σ H s->Vals xs us->r xs H Q->
  wpAny (model X.prog X.w) X.A (call f us) (EP X pins σ Q) X.xe s
def TruR(X:Cx)(r:V->Hp->(Bool->Hp->Prop)->Prop):Prop:=
 ∀(pins:List (Addr×Obj)) (s:Shared) (σ:St) (H:Hp) (x:V) (v:Value) (Q:Bool->Hp->Prop),Inv X pins σ H s->RelV x v->r x H Q->
  wpAny (model X.prog X.w) X.A (truthy v) (TP X pins σ Q) X.xe s
def tOp(r:R2)(ta tb:TE):TE:=fun σ H Q=>ta σ H fun x H1=>tb σ H1 fun y H2=>r x y H2 Q
def tUn(r:V->Hp->VK->Prop)(ta:TE):TE:=fun σ H Q=>ta σ H fun x H1=>r x H1 Q
def rI(C:Int->Int->Prop)(g:Int->Int->V):R2:=fun x y H Q=>∃i j,x=.int i/\y=.int j/\C i j/\Q (g i j) H
def rI0(g:Int->Int->V):R2:=fun x y H Q=>∃i j,x=.int i/\y=.int j/\Q (g i j) H
def rU(g:Int->V):V->Hp->VK->Prop:=fun x H Q=>∃i,x=.int i/\Q (g i) H
section
variable {X:Cx}{a b c:Expr}{ta tb tc:TE}{pos:Pos}
def binT(ha:PE X a ta)(hb:PE X b tb){pins:List (Addr×Obj)}{s:Shared}{σ:St}{H:Hp}{R:V->V->Hp->Prop}(I:Inv X pins σ H s)(h:ta σ H fun x H1=>tb σ H1 fun y H2=>R x y H2){Q:Value->Shared->Prop}{f:Value->Value->Sem Value}(hf:∀v u s2 x y H2,Inv X pins σ H2 s2->RelV x v->RelV y u->R x y H2->wpAny (model X.prog X.w) X.A (f v u) Q X.xe s2) :
  wpAny (model X.prog X.w) X.A (eval a X.env) (fun v s₁=>wpAny (model X.prog X.w) X.A (eval b X.env) (fun u s₂=>wpAny (model X.prog X.w) X.A (f v u) Q X.xe s₂) X.xe s₁) X.xe s:=by
 refine thn (ha pins s σ H _ I h) fun v s1 ⟨x,H1,I1,r1,q1⟩=>?_;refine thn (hb pins s1 σ H1 _ I1 q1) fun u s2 ⟨y,H2,I2,r2,q2⟩=>?_;exact hf v u s2 x y H2 I2 r1 r2 q2
def W9{op:Operator}{r:R2}(ho:OpR X (binaryOp op) r)(ha:PE X a ta)(hb:PE X b tb):PE X (.BinOp a op b pos) (tOp r ta tb):=by
 intro pins s σ H Q I h;exact wpAny_BinOp (binT ha hb I h fun v u s2 x y H2 I2 rx ry q=>ho pins s2 σ H2 x y v u Q I2 rx ry q)
def XD{op:UnaryOp}{r:V->Hp->VK->Prop}(ho:UnR X (unaryOp op) r)(ha:PE X a ta):PE X (.UnaryOp op a pos) (tUn r ta):=by
 intro pins s σ H Q I h;exact UnaryOp_ (thn (ha pins s σ H _ I h) fun v s1 ⟨x,H1,I1,r1,q1⟩=>ho pins s1 σ H1 x v Q I1 r1 q1)
def opI{f:Value->Value->Sem Value}{C:Int->Int->Prop}{g:Int->Int->Int}(rule:∀(i j:Int) (t u:Tok) (s:Shared) (Q:Value->Shared->Prop) (E:Value->Shared->Prop),C i j->Q (.int (g i j) s.toks) {s with toks:=s.toks+1}->wpAny (model X.prog X.w) X.A (f (.int i t) (.int j u)) Q E s) :
  OpR X f (rI C fun i j=>.int (g i j)):=by
 intro pins s σ H x y v u Q I rx ry h;obtain⟨i,j,rfl,rfl,hc,q⟩:=h;obtain⟨t,rfl⟩:=rx;obtain⟨t',rfl⟩:=ry;exact rule i j t t' s _ _ hc ⟨.int (g i j),H,I.tok _,⟨_,rfl⟩,q⟩
def opI0{f:Value->Value->Sem Value}{g:Int->Int->Int}(rule:∀(i j:Int) (t u:Tok) (s:Shared) (Q:Value->Shared->Prop) (E:Value->Shared->Prop),Q (.int (g i j) s.toks) {s with toks:=s.toks+1}->wpAny (model X.prog X.w) X.A (f (.int i t) (.int j u)) Q E s) :
  OpR X f (rI0 fun i j=>.int (g i j)):=by
 intro pins s σ H x y v u Q I rx ry h;obtain⟨i,j,rfl,rfl,q⟩:=h;obtain⟨t,rfl⟩:=rx;obtain⟨t',rfl⟩:=ry;exact rule i j t t' s _ _ ⟨.int (g i j),H,I.tok _,⟨_,rfl⟩,q⟩
def opB0{f:Value->Value->Sem Value}{g:Int->Int->Bool}(rule:∀(i j:Int) (t u:Tok) (s:Shared) (Q:Value->Shared->Prop) (E:Value->Shared->Prop),Q (.bool (g i j)) s->wpAny (model X.prog X.w) X.A (f (.int i t) (.int j u)) Q E s) :
  OpR X f (rI0 fun i j=>.bl (g i j)):=by
 intro pins s σ H x y v u Q I rx ry h;obtain⟨i,j,rfl,rfl,q⟩:=h;obtain⟨t,rfl⟩:=rx;obtain⟨t',rfl⟩:=ry;exact rule i j t t' s _ _ ⟨.bl (g i j),H,I,rfl,q⟩
def CDiv(i j:Int):Prop:=0<j/\j<1073741824
def CMul(i j:Int):Prop:=(-(2 ^ 64)<i/\i<2 ^ 64)\/(-(2 ^ 64)<j/\j<2 ^ 64)
def CMul.ok {i j:Int} (h:CMul i j):IntMulOk i j:=by
 rcases h with⟨h1,h2⟩|⟨h1,h2⟩
 ·exact .of_left (intBits_le_64 h1 h2)
 ·exact .of_right (intBits_le_64 h1 h2)
def Qj:OpR X (binaryOp .Add) (rI0 fun i j=>.int (i+j)):=opI0 fun _ _ _ _ _ _ _ q=>add_int q
def Vc:OpR X (binaryOp .Mult) (rI CMul fun i j=>.int (i*j)):=opI fun _ _ _ _ _ _ _ hc q=>mul_int q hc.ok
def Q5:OpR X (binaryOp .FloorDiv) (rI CDiv fun i j=>.int (i / j)):=opI fun i j _ _ _ _ _ hc q=>by
 have h1:(0:Int)<j:=hc.1;have h2:j<1073741824:=hc.2;exact floordiv_int (by omega) (by rw[Int.fdiv_eq_ediv_of_nonneg i (by omega)];exact q) (.inl (PyProof.noPylong_small (by omega)))
def WV:OpR X (binaryOp .Mod) (rI (fun _ j=>0<j) fun i j=>.int (i % j)):=opI fun i j _ _ _ _ _ hc q=>by
 have h1:(0:Int)<j:=hc;exact mod_int' (by omega) (by rw[Int.fmod_eq_emod_of_nonneg i (by omega)];exact q)
def unI{f:Value->Sem Value}{g:Int->Int}(rule:∀(i:Int) (t:Tok) (s:Shared) (Q:Value->Shared->Prop) (E:Value->Shared->Prop),Q (.int (g i) s.toks) {s with toks:=s.toks+1}->wpAny (model X.prog X.w) X.A (f (.int i t)) Q E s) :
  UnR X f (rU fun i=>.int (g i)):=by
 intro pins s σ H x v Q I rx h;obtain⟨i,rfl,q⟩:=h;obtain⟨t,rfl⟩:=rx;exact rule i t s _ _ ⟨.int (g i),H,I.tok _,⟨_,rfl⟩,q⟩
def Nh:UnR X (unaryOp .USub) (rU fun i=>.int (-i)):=unI fun _ _ _ _ _ q=>neg_int q
end
def scal:V->V->Bool
 | .non,.non=>true | .non,.int _=>true | .int _,.non=>true | .non,.bl _=>true | .bl _,.non=>true | .non,.str _=>true | .str _,.non=>true
 | .int _,.int _=>true | .bl _,.bl _=>true | .str _,.str _=>true | .byt _,.byt _=>true
 | .int _,.str _=>true | .str _,.int _=>true | .bl _,.str _=>true | .str _,.bl _=>true
 |_,_=>false
def rEq:R2:=fun x y H Q=>scal x y=true/\Q (.bl (decide (x=y))) H
def rNe:R2:=fun x y H Q=>scal x y=true/\Q (.bl (!decide (x=y))) H
def UQ{i j:Int}:decide (V.int i=V.int j)=(i==j):=by
 rw[Wb];simp
def JH{i j:Bool}:decide (V.bl i=V.bl j)=(i==j):=by
 rw[Wb];simp
def U4{i j:Str}:decide (V.str i=V.str j)=(i==j):=by
 rw[Wb];simp
def Ub{i j:Array UInt8}:decide (V.byt i=V.byt j)=(i.toList==j.toList):=by
 rw[Wb];cases i
 cases j
 simp
section
variable {X:Cx}{a b c:Expr}{ta tb tc:TE}{pos:Pos}
def WB{pins:List (Addr×Obj)}{σ:St}{H:Hp}{s:Shared}{Q:VK}{k k':Bool}(I:Inv X pins σ H s)(q:Q (.bl k) H)(e:k=k'):EP X pins σ Q (.bool k') s:=by
 subst e;exact⟨.bl k,H,I,rfl,q⟩
def op_eq:OpR X (compareOp .Eq) rEq:=by
 intro pins s σ H x y v u Q I rx ry h;obtain⟨hs,q⟩:=h;cases x with
 |non=>
  cases rx
  cases y with
  |non=>cases ry;exact PySem.EqNone.eq_none_none (WB I q (by simp))
  |bl j=>cases ry;exact PySem.EqNone.eq_none_bool (WB I q (by simp))
  |int j=>obtain⟨t',rfl⟩:=ry;exact PySem.EqNone.eq_none_int (WB I q (by simp))
  |str j=>obtain⟨t',rfl⟩:=ry;exact PySem.EqNone.eq_none_str (WB I q (by simp))
  |_=>exact absurd (show false=true from hs) Z1
 |bl i=>
  cases rx
  cases y with
  |non=>cases ry;exact PySem.EqNone.eq_bool_none (WB I q (by simp))
  |bl j=>cases ry;exact eq_bool (WB I q JH)
  |str j=>obtain⟨t',rfl⟩:=ry;exact PySem.EqMixed.eq_bool_str (WB I q (by simp))
  |_=>exact absurd (show false=true from hs) Z1
 |int i=>
  obtain⟨t,rfl⟩:=rx;cases y with
  |non=>cases ry;exact PySem.EqNone.eq_int_none (WB I q (by simp))
  |int j=>obtain⟨t',rfl⟩:=ry;exact eq_int (WB I q UQ)
  |str j=>obtain⟨t',rfl⟩:=ry;exact PySem.EqMixed.eq_int_str (WB I q (by simp))
  |_=>exact absurd (show false=true from hs) Z1
 |str i=>
  obtain⟨t,rfl⟩:=rx;cases y with
  |non=>cases ry;exact PySem.EqNone.eq_str_none (WB I q (by simp))
  |bl j=>cases ry;exact PySem.EqMixed.eq_str_bool (WB I q (by simp))
  |int j=>obtain⟨t',rfl⟩:=ry;exact PySem.EqMixed.eq_str_int (WB I q (by simp))
  |str j=>obtain⟨t',rfl⟩:=ry;exact eq_str (WB I q U4)
  |_=>exact absurd (show false=true from hs) Z1
 |byt i=>
  obtain⟨t,rfl⟩:=rx;cases y with
  |byt j=>obtain⟨t',rfl⟩:=ry;exact PySem.W.eq_bytes (WB I q Ub)
  |_=>exact absurd (show false=true from hs) Z1
 |_=>cases y<;>exact absurd (show false=true from hs) Z1
def op_ne:OpR X (compareOp .NotEq) rNe:=by
 intro pins s σ H x y v u Q I rx ry h;obtain⟨hs,q⟩:=h;cases x with
 |non=>
  cases rx
  cases y with
  |non=>cases ry;exact PySem.EqNone.ne_none_none (WB I q (by simp))
  |bl j=>cases ry;exact PySem.EqNone.ne_none_bool (WB I q (by simp))
  |int j=>obtain⟨t',rfl⟩:=ry;exact PySem.EqNone.ne_none_int (WB I q (by simp))
  |str j=>obtain⟨t',rfl⟩:=ry;exact PySem.EqNone.ne_none_str (WB I q (by simp))
  |_=>exact absurd (show false=true from hs) Z1
 |bl i=>
  cases rx
  cases y with
  |non=>cases ry;exact PySem.EqNone.ne_bool_none (WB I q (by simp))
  |bl j=>cases ry;exact ne_bool (WB I q (ZN not JH))
  |str j=>obtain⟨t',rfl⟩:=ry;exact PySem.EqMixed.ne_bool_str (WB I q (by simp))
  |_=>exact absurd (show false=true from hs) Z1
 |int i=>
  obtain⟨t,rfl⟩:=rx;cases y with
  |non=>cases ry;exact PySem.EqNone.ne_int_none (WB I q (by simp))
  |int j=>obtain⟨t',rfl⟩:=ry;exact ne_int (WB I q (ZN not UQ))
  |str j=>obtain⟨t',rfl⟩:=ry;exact PySem.EqMixed.ne_int_str (WB I q (by simp))
  |_=>exact absurd (show false=true from hs) Z1
 |str i=>
  obtain⟨t,rfl⟩:=rx;cases y with
  |non=>cases ry;exact PySem.EqNone.ne_str_none (WB I q (by simp))
  |bl j=>cases ry;exact PySem.EqMixed.ne_str_bool (WB I q (by simp))
  |int j=>obtain⟨t',rfl⟩:=ry;exact PySem.EqMixed.ne_str_int (WB I q (by simp))
  |str j=>obtain⟨t',rfl⟩:=ry;exact ne_str (WB I q (ZN not U4))
  |_=>exact absurd (show false=true from hs) Z1
 |byt i=>
  obtain⟨t,rfl⟩:=rx;cases y with
  |byt j=>obtain⟨t',rfl⟩:=ry;exact PySem.W.ne_bytes (WB I q (ZN not Ub))
  |_=>exact absurd (show false=true from hs) Z1
 |_=>cases y<;>exact absurd (show false=true from hs) Z1
def NM:OpR X (compareOp .Lt) (rI0 fun i j=>.bl (decide (i<j))):=opB0 fun _ _ _ _ _ _ _ q=>lt_int q
def OpR.or {f:Value->Value->Sem Value}{r r':R2} (h:OpR X f r) (h':OpR X f r'):OpR X f (fun x y H Q=>r x y H Q\/r' x y H Q):=by
 intro pins s σ H x y v u Q I rx ry q;rcases q with q|q
 ·exact h pins s σ H x y v u Q I rx ry q
 ·exact h' pins s σ H x y v u Q I rx ry q
def Qk(b:Expr){op:CmpOp}(h:op≠.In:=by decide)(h2:op≠.NotIn:=by decide):behindInMarks op b=false:=by
 have e1:(op==CmpOp.In)=false:=by cases op<;>first|rfl|exact absurd rfl h
 have e2:(op==CmpOp.NotIn)=false:=by cases op<;>first|rfl|exact absurd rfl h2
 cases b<;>simp[behindInMarks,e1,e2]
def Vj(t:TE):TT:=fun σ H Q=>t σ H fun x H'=>∃k,x=.bl k/\Q k H'
def Qc{op:CmpOp}{r:R2}(ho:OpR X (compareOp op) r)(ha:PE X a ta)(hb:PE X b tb)(hm:behindInMarks op b=false):PT X (.Compare a [op] [b] pos) (Vj (tOp r ta tb)):=by
 intro pins s σ H Q I h
 refine wpAny_isTrue_Compare1 (thn (ha pins s σ H _ I h) fun v s1 ⟨x,H1,I1,r1,q1⟩=>thn (hb pins s1 σ H1 _ I1 q1) fun u s2 ⟨y,H2,I2,r2,q2⟩=>
  thn (ho pins s2 σ H2 x y v u _ I2 r1 r2 q2) fun c s3 ⟨z,H3,I3,r3,k,e,q3⟩=>?_) hm
 subst e;cases r3
 exact Yw ⟨H3,I3,q3⟩
def TruV(K:Za)(x:V)(H:Hp)(k:Bool):Prop:=
 match x with
 | .non=>k=false
 | .bl b=>k=b
 | .int i=>k=(i != 0)
 | .str y=>y.length<=sizeLine/\k=((y.length:Int) != 0)
 | .byt y=>y.size<=sizeLine/\k=((y.size:Int) != 0)
 | .ref p=>(∃xs,SqL K H p xs/\k=!xs.isEmpty)\/(∃xs,SqT K H p xs/\k=!xs.isEmpty)\/∃kvs,H p=some (.dK kvs)/\k=!kvs.isEmpty
 |_=>False
def Xz{κ:Type}{kvs:List (κ×V)}{vs:List (κ×Value)}(r:KV kvs vs):(!vs.isEmpty)=!kvs.isEmpty:=by
 cases r<;>rfl
def US{xs:List V}{its:List Value}(r:Vals xs its):(!its.toArray.isEmpty)=!xs.isEmpty:=by
 cases r<;>simp
def V0:(sizeLine:Nat)<2 ^ 63:=by rw[Yd];decide
def NJ:TruR X (fun x H Q=>∃k,TruV X.K x H k/\Q k H):=by
 intro pins s σ H x v Q I rx h;obtain⟨k,e,q⟩:=h;have hl:=V0;have hs:sizeLine=16777216:=Yd;cases x with
 |non=>
  cases rx
  have e':k=false:=e;subst e';exact truthy_none ⟨H,I,q⟩
 |bl b=>
  cases rx
  have e':k=b:=e;subst e';exact Yw ⟨H,I,q⟩
 |int i=>
  obtain⟨t,rfl⟩:=rx;have e':k=(i != 0):=e;subst e';exact PySem.P.truthy_int ⟨H,I,q⟩
 |str y=>
  obtain⟨t,rfl⟩:=rx;obtain⟨hy,e'⟩:y.length<=sizeLine/\k=((y.length:Int) != 0):=e;subst e';exact PySem.P.truthy_str (by omega) ⟨H,I.tok _,q⟩
 |byt y=>
  obtain⟨t,rfl⟩:=rx;obtain⟨hy,e'⟩:y.size<=sizeLine/\k=((y.size:Int) != 0):=e;subst e';exact PySem.W.truthy_bytes (by omega) ⟨H,I.tok _,q⟩
 |ref p=>
  cases rx
  have e':(∃xs,SqL X.K H p xs/\k=!xs.isEmpty)\/(∃xs,SqT X.K H p xs/\k=!xs.isEmpty)\/∃kvs,H p=some (.dK kvs)/\k=!kvs.isEmpty:=e;rcases e' with⟨xs,hx,e'⟩|⟨xs,hx,e'⟩|⟨kvs,hx,e'⟩
  ·subst e';obtain⟨its,r,pl,hz⟩:=I.list hx;have hlen:=r.length;exact wpAny_truthy_list pl.isList (by simp only[Zy];omega) ⟨H,I.tok _,by rw[US r];exact q⟩
  ·subst e';obtain⟨its,r,pl,hz⟩:=I.tuple hx;have hlen:=r.length;exact truthy_tuple pl (by simp only[Zy];omega) ⟨H,I.tok _,by rw[US r];exact q⟩
  ·subst e';obtain⟨hz,hS,vs,r,m⟩:kvs.length<=sizeLine/\(p==sysModules)=false/\∃vs,KV kvs vs/\s.heap.DictOf (V7 X.prog X.w) p vs:=I.hok p _ hx;have hlen:kvs.length=vs.length:=Paired.length r;exact wpAny_truthy_dict hS m (by omega) ⟨H,I.tok _,by rw[Xz r];exact q⟩
 |_=>exact(show False from e).elim
def PM(ha:PE X a ta)(he:∀whole,isTrue a X.env whole=(do let v ←whole;standAt a.pos;holding [v] (truthy v))) :
  PT X a (fun σ H Q=>ta σ H fun x H'=>∃k,TruV X.K x H' k/\Q k H'):=by
 intro pins s σ H Q I h;exact isTrue_plain (thn (ha pins s σ H _ I h) fun v s1 ⟨x,H1,I1,r1,q1⟩=>NJ pins s1 σ H1 x v Q I1 r1 q1) (he _)
def vals1{x:V}{us:List Value}(r:Vals [x] us):∃u,us=[u]/\RelV x u:=by
 cases r with
 |cons r1 r2=>cases r2;exact⟨_,rfl,r1⟩
def LenV(K:Za)(x:V)(H:Hp)(n:Nat):Prop:=
 match x with
 | .str y=>y.length<=sizeLine/\n=y.length
 | .byt y=>y.size<=sizeLine/\n=y.size
 | .ref p=>(∃xs,SqL K H p xs/\n=xs.length)\/∃xs,SqT K H p xs/\n=xs.length
 |_=>False
def WZ:Qs X (.builtin "len") (fun xs H Q=>∃x n,xs=[x]/\LenV X.K x H n/\Q (.int n) H):=by
 intro pins s σ H xs us Q I r h;obtain⟨x,n,rfl,e,q⟩:=h;obtain⟨u,rfl,rx⟩:=vals1 r;have hl:=V0;have hs:sizeLine=16777216:=Yd;cases x with
 |str y=>
  obtain⟨t,rfl⟩:=rx;obtain⟨hy,e'⟩:y.length<=sizeLine/\n=y.length:=e;subst e';exact len_str (by omega) ⟨.int _,H,I.tok _,⟨_,rfl⟩,q⟩
 |byt y=>
  obtain⟨t,rfl⟩:=rx;obtain⟨hy,e'⟩:y.size<=sizeLine/\n=y.size:=e;subst e';exact PySem.W.len_bytes (by omega) ⟨.int _,H,I.tok _,⟨_,rfl⟩,q⟩
 |ref p=>
  cases rx
  have e':(∃xs,SqL X.K H p xs/\n=xs.length)\/∃xs,SqT X.K H p xs/\n=xs.length:=e;rcases e' with⟨xs,hx,e'⟩|⟨xs,hx,e'⟩
  ·subst e';obtain⟨its,r',pl,hz⟩:=I.list hx;have hlen:=r'.length;exact Calls.call_len_list pl.isList (by simp only[Zy];omega) ⟨.int xs.length,H,I.tok _,⟨_,by simp only[Zy];rw[hlen]⟩,q⟩
  ·subst e';obtain⟨its,r',pl,hz⟩:=I.tuple hx;have hlen:=r'.length;exact len_tuple pl (by simp only[Zy];omega) ⟨.int xs.length,H,I.tok _,⟨_,by simp only[Zy];rw[hlen]⟩,q⟩
 |_=>exact(show False from e).elim
end
structure ObjM (h:Heap) (x dx C:Addr) (mA:Str->Option Value):Prop where
 obj:h.get? x=some (PySem.W.instObj C dx)
 ns:h.Ns1 dx mA
 ne:dx≠x
def PP{h:Heap}{dx:Addr}{mA:Str->Option Value}(n:h.Ns1 dx mA):∃od,h.get? dx=some od/\∀name,PySem.W.lookIn name od=some (mA name):=by
 obtain⟨o,es,ep,ho,hd,hk,_,hm⟩:=n;refine⟨o,ho,fun name=>?_⟩;have e:=hm name;unfold nsFind findBy at e;rw[←Array.find?_toList]at e;unfold PySem.W.lookIn;rw[hd]
 dsimp only
 split
 ·rename_i y q;rw[q]at e;exact ZN some e
 ·rename_i q;rw[q]at e
  have a:es.toList.any (·.refKey)=false:=by
   rw[List.any_eq_false];intro y hy;obtain⟨z,t,hkey⟩:=hk y (Array.mem_toList_iff.mp hy);simp[DictEntry.refKey,hkey]
  have a':¬es.toList.any (·.refKey)=true:=by rw[a];exact Z1
  rw[Z2 a'];exact ZN some e
def ObjM.look {h:Heap}{x dx C:Addr}{mA:Str->Option Value} (I:ObjM h x dx C mA):∃od,PySem.W.InstAt h x (PySem.W.instObj C dx) C (some od)/\∀name,PySem.W.lookIn name od=some (mA name):=
 let ⟨od,ho,hl⟩:=PP I.ns
 ⟨od,⟨I.obj,rfl,rfl,ho⟩,hl⟩
section
variable {P:Program}{w:World}{H H':Hp}{h h':Heap}{a C dx:Addr}{fs fs':List (Str×V)}
def Pn(hok:HOk P w H h)(e:H a=some (.ins C dx fs)):∃mA,ObjM h a dx C mA/\(∀f,RelO (fs.lookup f) (mA f))/\PySem.Within mA (fs.map (·.1))/\fs.length<=1000/\H dx=some (.own a):=by
 obtain⟨d,z,ne,ob,mA,n,r,q⟩:=(show ObjOk P w H h a (.ins C dx fs)from hok a _ e)
 exact⟨mA,⟨ob,n,ne⟩,r,q,z,d⟩
end
structure Cls (K:Za) (C:Addr):Prop where
 pg:PySem.W.plainGet K C Str.empty=true
 hd:PySem.W.hasDictIn K C=true
 po:PySem.W.plainOver K C=true
 sa:PySem.W.findIn K (.ref C) "__setattr__"=some (some (.builtin "object.__setattr__"))
def Cls.get {K:Za}{C:Addr} (c:Cls K C) (f:Str):PySem.W.plainGet K C f=true:=c.pg
section
variable {X:Cx}{pins:List (Addr×Obj)}{σ:St}{H:Hp}{s:Shared}{A:Around}{E:Value->Shared->Prop}{Q:Value->Shared->Prop}{c:Value}{b:Bool}
inductive TyOf (K:Za) (H:Hp):V->Value->Prop where
 |non:TyOf K H .non (.type "NoneType")
 |bl (x:Bool):TyOf K H (.bl x) (.type "bool")
 |int (i:Int):TyOf K H (.int i) (.type "int")
 |str (x:Str):TyOf K H (.str x) (.type "str")
 |flt (x:UInt64):TyOf K H (.flt x) (.type "float")
 |lst {a:Addr} {xs:List V} (e:H a=some (.lst xs)):TyOf K H (.ref a) (.type "list")
 |frz {a:Addr} {o:Obj} {xs:List V} (e:H a=some (.frz o (.lst xs))):TyOf K H (.ref a) (.type "list")
 |tup {a:Addr} {xs:List V} (e:H a=some (.tup xs)):TyOf K H (.ref a) (.type "tuple")
 |dK {a:Addr} {kvs:List (Key×V)} (e:H a=some (.dK kvs)):TyOf K H (.ref a) (.type "dict")
 |dT {a:Addr} {kvs:List (List Key×V)} (e:H a=some (.dT kvs)):TyOf K H (.ref a) (.type "dict")
 |ins {a C dx:Addr} {fs:List (Str×V)} (e:H a=some (.ins C dx fs)) (cl:Cls K C) (ha:PySem.W.findIn K (.ref C) "__class__"=some (some (.builtin "object.__class__")))
   (hn:PySem.W.specialIn K (.builtin "object.__class__") "__get__"=some (some (.builtin "getset_descriptor.__get__"))) (htk:PySem.W.takesIn K (.builtin "object.__class__")=some true)
   (hm:PySem.W.mroIn K C (.type "object")=some true):TyOf K H (.ref a) (.ref C)
def X5{x:V}{u t:Value}(I:Inv X pins σ H s)(rx:RelV x u)(ty:TyOf X.K H x t)(e:PySem.W.kitOne X.K t c=some b)(h:∀tk,Q (.bool b) {s with toks:=tk}) :
  wpAny (model X.prog X.w) A (call (.builtin "isinstance") [u,c]) Q E s:=by
 cases ty with
 |non=>cases (show u=Value.none from rx);exact ZT PySem.W.kitx_none I.kIn True.intro e (fun z=>nomatch z) h
 |bl y=>cases (show u=Value.bool y from rx);exact ZT PySem.W.kitx_bool I.kIn True.intro e (fun z=>nomatch z) h
 |int i=>obtain⟨t,q⟩:=(show ∃t,u=Value.int i t from rx);cases q;exact ZT PySem.W.kitx_int I.kIn True.intro e (fun z=>nomatch z) h
 |str y=>obtain⟨t,q⟩:=(show ∃t,u=Value.str y t from rx);cases q;exact ZT PySem.W.kitx_str I.kIn True.intro e (fun z=>nomatch z) h
 |flt y=>obtain⟨t,q⟩:=(show ∃t,u=Value.float y t from rx);cases q;exact ZT PySem.W.kitx_float I.kIn True.intro e (fun z=>nomatch z) h
 | @lst a xs ea=>
  cases (show u=Value.ref a from rx)
  obtain⟨_,_,n,_,h1⟩:=(show ObjOk X.prog X.w H s.heap a (.lst xs)from I.hok a _ ea)
  exact ZT PySem.W.kitx_list I.kIn ⟨_,h1,rfl⟩ e (fun z=>nomatch z) h
 | @frz a ob xs ea=>
  cases (show u=Value.ref a from rx)
  obtain⟨_,_,_,n,_,h1⟩:=(show ObjOk X.prog X.w H s.heap a (.frz ob (.lst xs))from I.hok a _ ea)
  exact ZT PySem.W.kitx_list I.kIn ⟨_,h1,rfl⟩ e (fun z=>nomatch z) h
 | @tup a xs ea=>
  cases (show u=Value.ref a from rx)
  obtain⟨_,_,_,p⟩:=(show ObjOk X.prog X.w H s.heap a (.tup xs)from I.hok a _ ea)
  obtain⟨o,h1,h2,_⟩:=p;exact ZT PySem.W.kitx_tuple I.kIn ⟨o,h1,h2⟩ e (fun z=>nomatch z) h
 | @dK a kvs ea=>
  cases (show u=Value.ref a from rx)
  obtain⟨_,_,vs,_,p⟩:=(show ObjOk X.prog X.w H s.heap a (.dK kvs)from I.hok a _ ea)
  obtain⟨o,es,ep,h1,h2,_⟩:=p;exact ZT PySem.W.kitx_dict I.kIn ⟨o,h1,h2.1⟩ e (fun z=>nomatch z) h
 | @dT a kvs ea=>
  cases (show u=Value.ref a from rx)
  obtain⟨_,_,xs,_,o,es,ep,h1,h2,_⟩:=(show ObjOk X.prog X.w H s.heap a (.dT kvs)from I.hok a _ ea)
  exact ZT PySem.W.kitx_dict I.kIn ⟨o,h1,h2.1⟩ e (fun z=>nomatch z) h
 | @ins a C dx fs ea cl ha hn htk hm=>
  cases (show u=Value.ref a from rx)
  obtain⟨mA,O,_⟩:=Pn I.hok ea;obtain⟨od,J,_⟩:=O.look;exact ZT (PySem.W.kitx_own (cl.get _) cl.hd ha hn htk hm) I.kIn J e (fun z=>nomatch z) h
end
structure Room (k:Nat) (A:Around):Prop where
 hd:A.handled=none
 dp:A.depth+3*k+5<recursionLimit
 un:A.units+16*k+200<cLine
def Room.mono {j k:Nat}{A:Around} (r:Room k A) (h:j<=k):Room j A:=⟨r.hd,by have:=r.dp;omega,by have:=r.un;omega⟩
def Room.deeper {k:Nat}{A:Around} (r:Room (k+1) A) (env:Env):Room k (A.deeper env):=
 ⟨r.hd,by have:=r.dp;show A.depth+1+3*k+5<_;omega,by have:=r.un;show A.units+3+16*k+200<_;omega⟩
def Room.depth {k:Nat}{A:Around} (r:Room k A):A.depth<recursionLimit:=by have:=r.dp;omega
def Room.units0 {k:Nat}{A:Around} (r:Room k A):A.units<cLine:=by have:=r.un;omega
def tNil:TA:=fun _ H Q=>Q [] H
def WM(ta:TE)(tr:TA):TA:=fun σ H Q=>ta σ H fun x H1=>tr σ H1 fun xs H2=>Q (x::xs) H2
section
variable {X:Cx}{e:Expr}{es:List Expr}{te:TE}{t:TA}{pos:Pos}
def W6:PA X [] tNil:=fun _ _ _ _ H Q I h=>Calls.spliced_nil ⟨[],H,I,.nil,h⟩
def W4(ha:PE X e te)(hr:PA X es t)(hs:starEach (e::es) X.env=(false,eval e X.env)::starEach es X.env:=by rfl):PA X (e::es) (WM te t):=by
 intro pos pins s σ H Q I h;rw[hs];show wpAny _ _ (spliced ((false,eval e X.env)::backTo pos (starEach es X.env))) _ _ s;refine Calls.spliced_cons (thn (ha pins s σ H _ I h) fun u s1 ⟨x,H1,I1,r1,q1⟩=>?_);exact thn (hr pos pins s1 σ H1 _ I1 q1) fun us s2 ⟨xs,H2,I2,r2,q2⟩=>⟨x::xs,H2,I2,.cons r1 r2,q2⟩
def tTup(t:TA):TE:=fun σ H Q=>t σ H fun xs H1=>xs.length<=sizeLine/\∀p,H1 p=none->Q (.ref p) (upd H1 p (.tup xs))
def tLst(t:TA):TE:=fun σ H Q=>t σ H fun xs H1=>xs.length<=sizeLine/\∀p,H1 p=none->Q (.ref p) (upd H1 p (.lst xs))
def Tz{x1}(h:PA X es t):PE X (.Tuple es x1 pos) (tTup t):=by
 intro pins s σ H Q I hq;refine wpAny_Tuple_spliced (thn (h pos pins s σ H _ I hq) fun us s1 ⟨xs,H1,I1,r,z,q⟩=>⟨by rw[←r.length];exact z,?_⟩);have hf:H1 s1.heap.objs.size=none:=I1.hok.fresh (Zx _);refine⟨.ref s1.heap.objs.size,upd H1 s1.heap.objs.size (.tup xs),I1.laid (t':=s1.toks) (fun b u e=>Zr _ e) (Zx _) ?_,rfl,q _ hf⟩;exact⟨z,us,r,⟨_,Z3 _ rfl,rfl,_,rfl⟩⟩
def Qx(h:PA X es t):PE X (.List es pos) (tLst t):=by
 intro pins s σ H Q I hq;refine wpAny_List_spliced (thn (h pos pins s σ H _ I hq) fun us s1 ⟨xs,H1,I1,r,z,q⟩=>⟨by rw[←r.length];exact z,?_⟩);have hf:H1 s1.heap.objs.size=none:=I1.hok.fresh (Zx _);refine⟨.ref s1.heap.objs.size,upd H1 s1.heap.objs.size (.lst xs),I1.laid (t':=s1.toks) (fun b u e=>Zr _ e) (Zx _) ?_,rfl,q _ hf⟩;exact⟨z,us,0,r,Z3 _ rfl⟩
end
abbrev Sp:=List V->Hp->VK->XK->Prop
abbrev CXT:=List Env->Hp->Shared->XK->Value->Shared->Prop
structure Env0 (P:Program) (w:World) (K:Za) (mg:Str->Option Value) (base:Heap) (A:Around) (outer:List Env) (s:Shared) (H:Hp):Prop where
 frames:A.frames=some outer
 mod:Mod K mg base
 bs:∀b o,base.get? b=some o->s.heap.get? b=some o/\H b=none
 bsz:base.objs.size<=s.heap.objs.size
 funs:s.heap.FunFrames base outer
 frf:∀b∈frs outer,H b=none
 hok:HOk P w H s.heap
 bare:AllBare s.gens
def CE(outer:List Env)(P:Program)(w:World)(H:Hp)(s:Shared)(Q:VK)(u:Value)(s':Shared):Prop:=
 ∃v H',s'.os=s.os/\AllBare s'.gens/\Un (frs outer) [] H H' s.heap s'.heap/\HOk P w H' s'.heap/\RelV v u/\Q v H'
def CR(CX:CXT)(outer:List Env)(P:Program)(w:World)(H:Hp)(s:Shared)(Q:VK)(E:XK)(r:Result)(s':Shared):Prop:=
 match r with
 | .ok (.ret u)=>CE outer P w H s Q u s'
 | .ok _=>False
 | .error e=>CX outer H s E e s'
structure FnOk (P:Program) (w:World) (K:Za) (mg:Str->Option Value) (base:Heap) (CX:CXT) (k:Nat) (f:Addr) (fd:FuncData) (ps:List Str) (sp:Sp):Prop where
 len:∀vs H Q E,sp vs H Q E->vs.length=ps.length
 run:∀(A:Around) (outer:List Env) (s:Shared) (H:Hp) (args:Args) (us:List Value) (vs:List V) (Q:VK) (E:XK),Room k A->Env0 P w K mg base A outer s H->BindsTo s fd args (ps.zip us)->Vals vs us->sp vs H Q E->
  codeAny (model P w) A (.call (.ref f) args) (CR CX outer P w H s Q E) s
def FnOk.imp {P:Program}{w:World}{K:Za}{mg:Str->Option Value}{base:Heap}{CX:CXT}{k:Nat}{f:Addr}{fd:FuncData}{ps:List Str}{sp sp':Sp} (F:FnOk P w K mg base CX k f fd ps sp)
  (h:∀vs H Q E,sp' vs H Q E->sp vs H Q E):FnOk P w K mg base CX k f fd ps sp':=
 ⟨fun vs H Q E q=>F.len vs H Q E (h _ _ _ _ q),fun A outer s H args us vs Q E hr he hb hv hs=>F.run A outer s H args us vs Q E hr he hb hv (h _ _ _ _ hs)⟩
section
variable {X:Cx}{pins:List (Addr×Obj)}{σ:St}{H:Hp}{s s':Shared}
def Inv.env0 (I:Inv X pins σ H s):Env0 X.prog X.w X.K X.mg X.base X.A X.stack s H:=
 ⟨I.ok.frames,I.ok.mod,I.bs,Z8 I.ok.bsz I.sz,I.stack,I.stkFree,I.hok,I.bare⟩
def Inv.after {Q:VK}{u:Value} (I:Inv X pins σ H s) (h:CE X.stack X.prog X.w H s Q u s'):EP X pins σ Q u s':=by
 obtain⟨v,H',os,bare,un,hok,r,q⟩:=h;obtain⟨hh,g,d,t,os'⟩:=s';obtain rfl:os'=s.os:=os;exact⟨v,H',I.call (h':=hh) (g':=g) (d':=d) (t':=t) (ch:=[]) un hok bare (fun b z=>absurd z (by simp)),r,q⟩
end
def QK(sp:Sp)(dvs:List V)(E:XK)(t:TA):TE:=fun σ H Q=>t σ H fun vs H1=>sp (vs++dvs) H1 Q E
def Binds(K:Za)(fd:FuncData)(ps:List Str)(ds:List Value):Prop:=
 ∀(s:Shared) (us:List Value),K.In s.heap->(us++ds).length=ps.length->BindsTo s fd ⟨us,[]⟩ (ps.zip (us++ds))
def Binds.all {K:Za}{fd:FuncData}{ps:List Str} (h:∀us:List Value,us.length=ps.length->bindArgs fd ⟨us,[]⟩=pure (ps.zip us)):Binds K fd ps []:=fun s us _ hl=>by
 rw[YD]at hl ⊢;exact .of_eq (h us hl)
def QG(CX:CXT)(X:Cx)(E:XK):Prop:=∀(pins:List (Addr×Obj)) (σ:St) (H:Hp) (s:Shared) (e:Value) (s':Shared),Inv X pins σ H s->CX X.stack H s E e s'->X.xe e s'
section
variable {X:Cx}{CX:CXT}{k:Nat}{f C:Addr}{fd:FuncData}{ps:List Str}{sp:Sp}{dvs:List V}{ds:List Value}{E:XK}{x m:Str}{p pos apos:Pos}{e o:Expr}{es:List Expr}{ta:TE}{t:TA}
def Xd{pins:List (Addr×Obj)}{σ:St}{H:Hp}{s:Shared}{Q:VK}{us:List Value}{vs:List V}(F:FnOk X.prog X.w X.K X.mg X.base CX k f fd ps sp)(hr:Room k X.A)(hb:Binds X.K fd ps ds)(hd:Vals dvs ds)(hx:QG CX X E)(I:Inv X pins σ H s)(r:Vals vs us)(h:sp (vs++dvs) H Q E):wpAny (model X.prog X.w) X.A (call (.ref f) us) (EP X pins σ Q) X.xe s:=by
 have r2:Vals (vs++dvs) (us++ds):=r.append hd;have hl:(us++ds).length=ps.length:=by rw[←r2.length];exact F.len _ _ _ _ h
 refine wpAny_call (YK (F.run X.A X.stack s H ⟨us,[]⟩ (us++ds) (vs++dvs) Q E hr I.env0 (hb s us I.kIn hl) r2 h) fun r s' hq=>?_);cases r with
 |error e=>exact hx pins σ H s e s' I hq
 |ok fl=>
  cases fl with
  |ret u=>exact I.after hq
  |next=>exact False.elim hq
  |brk=>exact False.elim hq
  |cont=>exact False.elim hq
def Tg(F:FnOk X.prog X.w X.K X.mg X.base CX k f fd ps sp)(hr:Room k X.A)(hg:Gl X x)(hm:X.mg x=some (.ref f))(hk:PySem.W.keepIn X.K (.ref f)=true)(hb:Binds X.K fd ps ds)(hd:Vals dvs ds)(hx:QG CX X E)(ha:PA X (e::es) t)(hdb:(x==("__debug__" : Str))=false:=by decide)(he:starEach (e::es) X.env=(false,eval e X.env)::starEach es X.env:=by rfl)(hpl:(backTo pos (starEach es X.env)).any (·.1)=false:=by rfl) :
  PE X (.Call (.Name x p) (e::es) [] pos) (QK sp dvs E t):=by
 intro pins s σ H Q I h;refine Y2 (VJ I hg hm ?_ hdb);refine PySem.W.callWith_K (h₀:=X.base) I.ok.mod.kin hk (thn (ha pos pins s σ H _ I h) fun us s1 ⟨vs,H1,I1,r,q⟩=>⟨I1.kIn,?_⟩) he hpl;exact Xd F hr hb hd hx I1 r q
end
structure FnScope (N P:List Str) (sc:Scope):Prop where
 kind:sc.kind=.function
 co:sc.isCoroutine=false
 gen:sc.isGenerator=false
 nd:N.Nodup
 pre:N.take P.length=P
 par:∀x∈P,sc.names.lookup x=some .local\/sc.names.lookup x=some .cell
 nofree:∀y∈sc.names,y.2≠.free
def Ug{kindOf:Str->Option NameKind}{x:Str}:∀{binds:List (Str×Value)}{m:Str->Option Value},(∀v,(x,v)∉binds)->bindL kindOf binds m x=m x
 |[],_,_=>rfl
 |(n,v)::r,m,h=>by
  unfold bindL;rw[Ug fun w hw=>h w (ZE _ hw)];split
  ·have:x≠n:=by rintro rfl;exact h v ZL
   simp[this]
  ·rfl
def UE{kindOf:Str->Option NameKind}{x:Str}:∀{binds:List (Str×Value)}{m:Str->Option Value},(∀v,(x,v)∉binds)->bindC kindOf binds m x=m x
 |[],_,_=>rfl
 |(n,v)::r,m,h=>by
  unfold bindC;rw[UE fun w hw=>h w (ZE _ hw)];split
  ·rfl
  ·have:x≠n:=by rintro rfl;exact h v ZL
   simp[this]
def J9{kindOf:Str->Option NameKind}{x:Str}{v:Value}:∀{P:List Str}{vs:List Value}{i:Nat}{m:Str->Option Value},P.Nodup->P[i]?=some x->vs[i]?=some v->kindOf x=some .local->
  bindL kindOf (P.zip vs) m x=some v
 |[],_,_,_,_,h,_,_=>by simp at h
 |_::_,[],_,_,_,_,h,_=>by simp at h
 |p::P,w::vs,0,m,nd,h1,h2,hk=>by
  simp at h1 h2;subst h1;subst h2;show bindL kindOf ((p,w)::P.zip vs) m p=_;unfold bindL;rw[Ug fun v hv=>(Wc.mp nd).1 (List.of_mem_zip hv).1,Z0 hk];simp
 |p::P,w::vs,i+1,m,nd,h1,h2,hk=>by
  show bindL kindOf ((p,w)::P.zip vs) m x=_;unfold bindL;exact J9 (i:=i) (Wc.mp nd).2 (by simpa using h1) (by simpa using h2) hk
def Ur{kindOf:Str->Option NameKind}{x:Str}{v:Value}:∀{P:List Str}{vs:List Value}{i:Nat}{m:Str->Option Value},P.Nodup->P[i]?=some x->vs[i]?=some v->kindOf x≠some .local->
  bindC kindOf (P.zip vs) m x=some v
 |[],_,_,_,_,h,_,_=>by simp at h
 |_::_,[],_,_,_,_,h,_=>by simp at h
 |p::P,w::vs,0,m,nd,h1,h2,hk=>by
  simp at h1 h2;subst h1;subst h2;show bindC kindOf ((p,w)::P.zip vs) m p=_;unfold bindC;rw[UE fun v hv=>(Wc.mp nd).1 (List.of_mem_zip hv).1,Z2 hk];simp
 |p::P,w::vs,i+1,m,nd,h1,h2,hk=>by
  show bindC kindOf ((p,w)::P.zip vs) m x=_;unfold bindC;exact Ur (i:=i) (Wc.mp nd).2 (by simpa using h1) (by simpa using h2) hk
def start(N:List Str)(vs:List V):St:=vs.map some++List.replicate (N.length-vs.length) none
def cxOf(CX:CXT)(P:Program)(w:World)(K:Za)(mg:Str->Option Value)(base:Heap)(N:List Str)(qual:Str)(scope:Scope)(f:Addr)(cd:Value)(A:Around)(outer:List Env)(s:Shared)(H:Hp)(E:XK):Cx where
 prog:=P
 w:=w
 K:=K
 mg:=mg
 base:=base
 A:=A.deeper (envOfC qual scope s.heap.objs.size f cd)
 N:=N
 s₀:=s
 H₀:=H
 env:=envOfC qual scope s.heap.objs.size f cd
 outer:=outer
 stack:=envOfC qual scope s.heap.objs.size f cd::outer
 ex:=[]
 calm:=true
 fn:=fun _=>true
 pn:=[]
 xe:=fun e s'=>wpAny (model P w) (A.deeper (envOfC qual scope s.heap.objs.size f cd)) (leaving (envOfC qual scope s.heap.objs.size f cd) e) (fun _ s''=>CX outer H s E e s'') (fun e' s''=>CX outer H s E e' s'') s'
def Ud{sc:Scope}{n:Nat}{x:Str}(h:sc.names.lookup x=some .cell):∃c,(cellsFrom n sc.names []).lookup x=some c:=by
 have q:=YS sc.names n [] (.inl h);exact Option.isSome_iff_exists.mp q
def UJ{CX:CXT}{P:Program}{w:World}{K:Za}{mg:Str->Option Value}{base:Heap}{N ps:List Str}{qual:Str}{scope:Scope}{f:Addr}{cd:Value}{A:Around}{outer:List Env}{s s1:Shared}{H:Hp}{E:XK}{us:List Value}{vs:List V}(S:FnScope N ps scope)(hd:A.handled=none)(e0:Env0 P w K mg base A outer s H)(hl:vs.length=ps.length)(r:Vals vs us)(x:InCallC s s.heap.objs.size (bindL (envOfC qual scope s.heap.objs.size f cd).kindOf (ps.zip us) fun _=>none) (cellsFrom (s.heap.objs.size+1) scope.names []) (bindC (envOfC qual scope s.heap.objs.size f cd).kindOf (ps.zip us) fun _=>none) s1) :
  Inv (cxOf CX P w K mg base N qual scope f cd A outer s H E) [] (start N vs) H s1:=by
 have hpl:ps.length<=N.length:=by have:=ZN List.length S.pre;rw[Y9]at this;omega
 obtain⟨h1,tk,rfl,hk⟩:=x.done;have noA:∀b:Addr,b∉(cxOf CX P w K mg base N qual scope f cd A outer s H E).ex:=fun b z=>absurd (show b∈([]:List Addr)from z) (by simp)
 refine⟨⟨e0.mod,S.kind,rfl,rfl,Zx _,fun y z c h1 h2=>?_,fun y hy=>?_,fun y c _ h=>?_,fun _=>hd,Around.frames_deeper e0.frames,.inr ⟨rfl,rfl⟩,fun b z=>absurd z (noA b),e0.bs,e0.bsz,fun b _ _=>noA b,fun b z=>absurd z (noA b),e0.funs,e0.frf⟩,
  rfl,e0.bare,Un.kept hk,⟨_,x.toInCall.ns,fun i y v h1 h2 h3=>?_⟩,fun y c h=>⟨_,x.cell y c h⟩,e0.hok.fresh (Zx _),fun y c h=>?_,fun p hp=>absurd (show p∈([]:List (Addr×Obj))from hp) (by simp),e0.hok.kept hk,?_⟩
 ·exact name_of_addr x.apart (ZI h1) (ZI h2)
 ·have hy:scope.names.lookup y=some .cell\/scope.names.lookup y=some .free:=hy;rcases hy with hy|hy
  ·exact Ud hy
  ·exact absurd rfl (S.nofree _ (ZI hy))
 ·exact YJ (x.above y c (ZI h))
 ·have hi:i<vs.length:=by
   unfold start at h2;by_cases hi:i<vs.length
   ·exact hi
   ·rw[Yu (by simpa using hi)]at h2;rw[List.getElem?_replicate]at h2;split at h2<;>cases h2
  have ha:vs[i]?=some v:=by
   unfold start at h2;rw[Yi (by simpa using hi),Zz]at h2;cases e:vs[i]? with
   |none=>rw[e]at h2;cases h2
   |some a=>rw[e]at h2;cases h2;rfl
  obtain⟨u,hu,rv⟩:=r.get ha
  have hp:ps[i]?=some y:=by
   rw[←S.pre,List.getElem?_take_of_lt (by omega)];exact h1
  have ndP:ps.Nodup:=by rw[←S.pre];exact S.nd.sublist (List.take_sublist _ _)
  refine⟨u,rv,?_⟩;rcases S.par y (Yy hp)with k|k
  ·exact .inl ⟨k,J9 ndP hp hu k⟩
  ·obtain⟨c,e⟩:=Ud (n:=s.heap.objs.size+1) k;refine .inr ⟨.inl k,c,e,?_⟩;have q:=x.cell y c e;rw[Ur ndP hp hu (by show scope.names.lookup y≠_;rw[k];decide)]at q;exact q
 ·exact e0.hok.fresh (YJ (x.above y c (ZI h)))
 ·unfold start;show _=N.length;rw[Yn,Zs,List.length_replicate];omega
def JE{CX:CXT}{P:Program}{w:World}{K:Za}{mg:Str->Option Value}{base:Heap}{k:Nat}{f:Addr}{name qual:Str}{params:Arguments}{body:List Stmt}{scope:Scope}{dV kV doc pm cdv ct oc:Value}{an od:Option Addr}{osl:Array (Option Value)}{N ps:List Str}{sp:Sp}(lk:K.lookup f=some ⟨oc,od,.func (PySem.W.fnOf name qual params body scope dV kV doc pm an cdv ct),osl⟩)(hcd:PySem.W.codeIn K cdv qual=true)(S:FnScope N ps scope)(len:∀vs H Q E,sp vs H Q E->vs.length=ps.length)
  (hbody:∀(A:Around) (outer:List Env) (s:Shared) (H:Hp) (vs:List V) (Q:VK) (E:XK),Room k (A.deeper (envOfC qual scope s.heap.objs.size f cdv))->sp vs H Q E->
   ∃t,PSs (cxOf CX P w K mg base N qual scope f cdv A outer s H E) body t/\t {nx:=fun _ H'=>Q .non H',rt:=Q} (start N vs) H) :
  FnOk P w K mg base CX (k+1) f (PySem.W.fnOf name qual params body scope dV kV doc pm an cdv ct) ps sp:=by
 refine⟨len,fun A outer s H args us vs Q E hr e0 hb r hsp=>?_⟩;have hl:=len _ _ _ _ hsp;have KX:K.In s.heap:=e0.mod.kin.keeps fun b o e=>(e0.bs b o e).1;have lim:s.heap.NoLimit:=e0.mod.nolimit.keeps fun b o e=>(e0.bs b o e).1
 have hkind:∀y∈ps.zip us,scope.names.lookup y.1=some .local\/(scope.names.lookup y.1=some .cell/\((cellsFrom (s.heap.objs.size+1) scope.names []).lookup y.1).isSome=true):=fun⟨n,v⟩ hy=>by
  rcases S.par n (List.of_mem_zip hy).1 with q|q
  ·exact .inl q
  ·exact .inr ⟨q,YS _ _ _ (.inl q)⟩
 refine codeAny_call_function hr.depth (KX _ _ lk) rfl S.co S.gen rfl (PySem.W.codeRec_of KX hcd) (hb _ _ _ _ ?_);refine wpAny_newFunctionEnv_cells S.kind hkind fun env he s1 x=>?_;subst he;refine⟨lim.keeps x.toInCall.keep,codeAny_func ?_⟩;obtain⟨t,ht,hq⟩:=hbody A outer s H vs Q E (hr.deeper _) hsp;have I:Inv (cxOf CX P w K mg base N qual scope f cdv A outer s H E) [] (start N vs) H s1:=UJ S hr.hd e0 hl r x;refine ZM (ht [] s1 (start N vs) H _ I hq) (fun fl s' hs=>?_) fun e s' hs=>hs
 have fin:∀{σ':St} {H':Hp} {v:V} {u:Value},Inv (cxOf CX P w K mg base N qual scope f cdv A outer s H E) [] σ' H' s'->RelV v u->Q v H'->CE outer P w H s Q u s':=
  fun {σ' H' v u} J rv q=>⟨v,H',J.os,J.bare,J.base,J.hok,rv,q⟩
 cases fl with
 |ret u=>
  obtain⟨v,σ',H',J,rv,q⟩:=hs;exact fin J rv q
 |next=>
  obtain⟨σ',H',J,q⟩:=hs;exact fin (v:=V.non) (u:=Value.none) J rfl q
 |brk=>
  obtain⟨_,_,_,q⟩:=hs;exact False.elim q
 |cont=>
  obtain⟨_,_,_,q⟩:=hs;exact False.elim q
section
variable {X:Cx}{x:Str}{p pos:Pos}{e:Expr}{es:List Expr}{t:TA}{id T:String}{r:List V->Hp->VK->Prop}
def tCB(r:List V->Hp->VK->Prop)(t:TA):TE:=fun σ H Q=>t σ H fun vs H1=>r vs H1 Q
def WO(hc:Qs X (.builtin id) r)(hg:Gl X x)(hm:X.mg x=none)(hv:bootBuiltins x=some (.builtin id))(ha:PA X (e::es) t)(hn:x≠"__name__":=by decide)(hdb:(x==("__debug__" : Str))=false:=by decide)(he:starEach (e::es) X.env=(false,eval e X.env)::starEach es X.env:=by rfl)(hpl:(backTo pos (starEach es X.env)).any (·.1)=false:=by rfl):PE X (.Call (.Name x p) (e::es) [] pos) (tCB r t):=by
 intro pins s σ H Q I h;refine Y2 (QN I hg hm hv ?_ hn hdb);exact PyProof.Rows.callWith_builtin1 (thn (ha pos pins s σ H _ I h) fun us s1 ⟨vs,H1,I1,r1,q1⟩=>hc pins s1 σ H1 vs us Q I1 r1 q1) he hpl
def Vr(hc:Qs X (.type T) r)(hg:Gl X x)(hm:X.mg x=none)(hv:bootBuiltins x=some (.type T))(ha:PA X (e::es) t)(hn:x≠"__name__":=by decide)(hdb:(x==("__debug__" : Str))=false:=by decide)(he:starEach (e::es) X.env=(false,eval e X.env)::starEach es X.env:=by rfl)(hpl:(backTo pos (starEach es X.env)).any (·.1)=false:=by rfl):PE X (.Call (.Name x p) (e::es) [] pos) (tCB r t):=by
 intro pins s σ H Q I h;refine Y2 (QN I hg hm hv ?_ hn hdb);exact Y6 (thn (ha pos pins s σ H _ I h) fun us s1 ⟨vs,H1,I1,r1,q1⟩=>hc pins s1 σ H1 vs us Q I1 r1 q1) he hpl
end
end L2
namespace HT
open PySem PyProof.Rows
section
variable {prog:Program}{w:World}{A:Around}{E:Value->Shared->Prop}{s:Shared}
def sIx(n d:Nat):Option Int->Nat
 |none=>d
 |some v=>if v<0 then(v+(n:Int)).toNat else min v.toNat n
end
end HT
namespace L2
open PySem PySem.Spec PyProof.Rows
abbrev TO:=St->Hp->(Option Int->Hp->Prop)->Prop
def JM{ns:List Int}:∀{us:List Value},Vals (ns.map V.int) us->IntsAre us ns:=by
 induction ns with
 |nil=>intro us r;rw[List.map_nil]at r;cases r;exact .nil
 |cons n ns ih=>
  intro us r;rw[Ye]at r;cases r with
  |cons r1 r2=>
   obtain⟨t,e⟩:=r1;subst e;exact .cons n t (ih r2)
section
variable {X:Cx}{e:Expr}{te:TE}{lo hi:Option Expr}{tl th:TO}{pos p2:Pos}
def SlR(X:Cx)(r:V->Option Int->Option Int->Hp->VK->Prop):Prop:=
 ∀(pins:List (Addr×Obj)) (s:Shared) (σ:St) (H:Hp) (x:V) (v vl vu:Value) (lo hi:Option Int) (sl:Addr) (Q:VK),Inv X pins σ H s->RelV x v->s.heap.IsSliceOf sl vl vu .none->IsPart vl lo->IsPart vu hi->r x lo hi H Q->
  ∃T id,typeLookup (.type T) "__getitem__"=pure (some (.builtin id))/\s.TypeIs v T/\wpAny (model X.prog X.w) X.A (getItem v (.ref sl)) (EP X pins σ Q) X.xe s
def cutV(xs:List V)(lo hi:Option Int):List V:=(xs.drop (HT.sIx xs.length 0 lo)).take (HT.sIx xs.length xs.length hi-HT.sIx xs.length 0 lo)
def KF(xs:List V)(lo hi:Option Int):(cutV xs lo hi).length<=xs.length:=by
 unfold cutV;rw[Y9,List.length_drop];omega
end
def ixN(n:Nat)(i:Int):Option Nat:=if 0<=i then(if i<n then some i.toNat else none)else if -(n:Int)<=i then some (i+n).toNat else none
def atI{α:Type}(xs:List α)(i:Int):Option α:=(ixN xs.length i).bind fun j=>xs[j]?
def Kv{n:Nat}{i:Int}{j:Nat}(h:ixN n i=some j):seqIndex? i n=some j/\j<n/\-(n:Int)<=i/\i<n:=by
 unfold ixN at h;by_cases h0:0<=i
 ·rw[Z0 h0]at h;by_cases h1:i<n
  ·rw[Z0 h1]at h;have e:i.toNat=j:=Zw h;exact⟨by rw[seqIndex_of h0 h1,e],by omega,by omega,h1⟩
  ·rw[Z2 h1]at h;cases h
 ·rw[Z2 h0]at h;by_cases h1:-(n:Int)<=i
  ·rw[Z0 h1]at h;have e:(i+n).toNat=j:=Zw h;exact⟨by rw[seqIndex_neg (by omega) h1,e],by omega,h1,by omega⟩
  ·rw[Z2 h1]at h;cases h
def Jx{α:Type}{xs:List α}{i:Int}{v:α}(h:atI xs i=some v):∃j,seqIndex? i xs.length=some j/\xs[j]?=some v/\j<xs.length/\-(xs.length:Int)<=i/\i<xs.length:=by
 unfold atI at h;cases e:ixN xs.length i with
 |none=>rw[e]at h;cases h
 |some j=>
  rw[e]at h;obtain⟨h1,h2,h3,h4⟩:=Kv e;exact⟨j,h1,h,h2,h3,h4⟩
def V1{α:Type}{xs:List α}{j:Nat}{v:α}(h:xs[j]?=some v):atI xs (j:Int)=some v:=by
 have hj:j<xs.length:=(ZD.mp h).1
 have e:ixN xs.length (j:Int)=some j:=by
  unfold ixN;rw[Z0 (by omega),Z0 (by omega)];simp
 unfold atI;rw[e];exact h
def NK{α:Type}(xs:List α)(v:α):atI (xs++[v]) (-1)=some v:=by
 have hl:(xs++[v]).length=xs.length+1:=by simp
 have e:ixN (xs++[v]).length (-1)=some xs.length:=by
  unfold ixN;rw[hl,Z2 (by decide),Z0 (by omega)];congr 1;omega
 unfold atI;rw[e];show(xs++[v])[xs.length]?=some v;simp
def Jk(b:Expr):Prop:=∀o i,subscripted b false o i=operate [o,i] (getItem o i)
def IxR(X:Cx)(r:R2):Prop:=
 ∀(value slice:Expr) (pins:List (Addr×Obj)) (s:Shared) (σ:St) (H:Hp) (x y:V) (v u:Value) (Q:VK),Inv X pins σ H s->RelV x v->RelV y u->r x y H Q->
  subscripted slice false v u=operate [v,u] (getItem v u)->wpAny (model X.prog X.w) X.A (subscriptTail value slice v u) (EP X pins σ Q) X.xe s
def MtR(X:Cx)(id:String)(r:V->List V->Hp->VK->Prop):Prop:=
 ∀(pins:List (Addr×Obj)) (s:Shared) (σ:St) (H:Hp) (x:V) (xs:List V) (v:Value) (us:List Value) (Q:VK),Inv X pins σ H s->RelV x v->Vals xs us->r x xs H Q->
  wpAny (model X.prog X.w) X.A (call (.builtin id) (v::us)) (EP X pins σ Q) X.xe s
section
variable {X:Cx}{a b:Expr}{ta tb:TE}{pos:Pos}
def IxR.or {r r':R2} (h:IxR X r) (h':IxR X r'):IxR X (fun x y H Q=>r x y H Q\/r' x y H Q):=by
 intro value slice pins s σ H x y v u Q I rx ry q hs;rcases q with q|q
 ·exact h value slice pins s σ H x y v u Q I rx ry q hs
 ·exact h' value slice pins s σ H x y v u Q I rx ry q hs
def WG{r:R2}(hr:IxR X r)(ha:PE X a ta)(hb:PE X b tb)(hs:Jk b):PE X (.Subscript a b pos) (tOp r ta tb):=by
 intro pins s σ H Q I h;exact Subscript_ (binT ha hb I h fun v u s2 x y H2 I2 rx ry q=>hr a b pins s2 σ H2 x y v u Q I2 rx ry q (hs _ _))
def rIxL(K:Za):R2:=fun x y H Q=>∃p xs i v,x=.ref p/\y=.int i/\SqL K H p xs/\atI xs i=some v/\Q v H
def rIxT(K:Za):R2:=fun x y H Q=>∃p xs i v,x=.ref p/\y=.int i/\SqT K H p xs/\atI xs i=some v/\Q v H
def ix_list:IxR X (rIxL X.K):=by
 intro value slice pins s σ H x y v u Q I rx ry h hs;obtain⟨p,xs,i,z,rfl,rfl,hq,he,q⟩:=h;cases rx
 obtain⟨t,rfl⟩:=ry;obtain⟨its,r,pl,hz⟩:=I.list hq;obtain⟨j,h1,h2,h3,h4,h5⟩:=Jx he;obtain⟨w,ew,rw'⟩:=r.get h2;have hl:=r.length;have hn:=V0;have fin:EP X pins σ Q w s:=⟨z,H,I,rw',q⟩;by_cases h0:0<=i
 ·have hj:i.toNat=j:=by
   rw[seqIndex_of h0 h5]at h1;exact Zw h1
  exact item_listR pl.isList h0 (by omega) (by rw[hj];simpa using ew) fin hs
 ·have hj:(i+(its.toArray.size:Int)).toNat=j:=by
   rw[seqIndex_neg (by omega) h4]at h1;rw[Zy,←hl];exact Zw h1
  exact subscriptTail_builtinR (x:=w) pl.isList.typeIs slot_list_getitem.lookup
   (wpAny_getItem_list_neg (Q:=fun r s'=>r=w/\EP X pins σ Q r s') pl.isList (by omega) (by rw[Zy]<;>omega) (by omega) (by rw[hj];simpa using ew) ⟨rfl,fin⟩) hs
def XZ:IxR X (rIxT X.K):=by
 intro value slice pins s σ H x y v u Q I rx ry h hs;obtain⟨p,xs,i,z,rfl,rfl,hq,he,q⟩:=h;cases rx
 obtain⟨t,rfl⟩:=ry;obtain⟨its,r,pl,hz⟩:=I.tuple hq;obtain⟨j,h1,h2,h3,h4,h5⟩:=Jx he;obtain⟨w,ew,rw'⟩:=r.get h2;have hl:=r.length;have hn:=V0;have fin:EP X pins σ Q w s:=⟨z,H,I,rw',q⟩
 exact subscriptTail_builtinR (x:=w) pl.typeIs slot_tuple_getitem.lookup
  (getItem_tuple (j:=j) (Q:=fun r s'=>r=w/\EP X pins σ Q r s') pl (by omega) (by omega) (by rw[Zy,←hl];exact h1) (by simpa using ew) ⟨rfl,fin⟩) hs
def Tc(lo hi:Option Int)(n:Nat):(sliceBounds lo hi none n).1=((HT.sIx n 0 lo:Nat):Int)/\(sliceBounds lo hi none n).2.1=((HT.sIx n n hi:Nat):Int)/\(sliceBounds lo hi none n).2.2=1:=by
 refine⟨?_,?_,rfl⟩
 ·cases lo with
  |none=>simp[sliceBounds,HT.sIx]
  |some i=>
   simp only[sliceBounds,HT.sIx,Option.getD_none,show(1:Int)>0 by decide,if_true];by_cases h:i<0
   ·simp only[h,if_true]<;>omega
   ·simp only[h,Y1]<;>omega
 ·cases hi with
  |none=>simp[sliceBounds,HT.sIx]
  |some i=>
   simp only[sliceBounds,HT.sIx,Option.getD_none,show(1:Int)>0 by decide,if_true];by_cases h:i<0
   ·simp only[h,if_true]<;>omega
   ·simp only[h,Y1]<;>omega
def K5(its:List Value)(lo hi:Option Int):slicePick its.toArray lo hi none=((its.drop (HT.sIx its.length 0 lo)).take (HT.sIx its.length its.length hi-HT.sIx its.length 0 lo)).toArray:=by
 obtain⟨h1,h2,h3⟩:=Tc lo hi its.toArray.size;unfold slicePick;rw[h1,h2,h3];simp only[sliceRange_one,pick_run,Zy]<;>rfl
def rSlL(K:Za):V->Option Int->Option Int->Hp->VK->Prop:=fun x lo hi H Q=>∃a xs,x=.ref a/\SqL K H a xs/\∀p,H p=none->Q (.ref p) (upd H p (.lst (cutV xs lo hi)))
def Se:SlR X (rSlL X.K):=by
 intro pins s σ H x v vl vu lo hi sl Q I rx hs pl pu h;obtain⟨a,xs,rfl,hx,q⟩:=h;cases rx
 obtain⟨its,r,ht,hz⟩:=I.list hx;have hlen:=r.length;refine⟨"list",_,slot_list_getitem.lookup,ht.isList.typeIs,?_⟩;refine wpAny_getItem_list_slice ht.isList hs pl pu .none (by simp) ?_ (by rw[Zy]<;>omega);rw[K5,←hlen];refine⟨.ref s.heap.objs.size,_,I.laid (t':=s.toks) (o:=.lst (cutV xs lo hi)) (fun b ob q=>Zr _ q) (Zx _) ?_,rfl,q _ (I.hok.fresh (Zx _))⟩;exact⟨Z8 (KF xs lo hi) hz,_,0,(r.drop (HT.sIx xs.length 0 lo)).take (HT.sIx xs.length xs.length hi-HT.sIx xs.length 0 lo),Z3 _ rfl⟩
def WW:V->Bool
 | .non=>true
 | .bl _=>true
 | .int _=>true
 | .str _=>true
 |_=>false
def eqV:V->V->Bool
 | .non,.non=>true
 | .bl a,.bl b=>a==b
 | .bl a,.int b=>(if a then 1 else 0)==b
 | .int a,.bl b=>a==(if b then 1 else 0)
 | .int a,.int b=>a==b
 | .str a,.str b=>a==b
 |_,_=>false
def J1{A:Around}{s:Shared}{y x:V}{u v:Value}(ry:RelV y u)(rx:RelV x v)(fy:WW y=true)(fx:WW x=true):SeqAt.EqAt A s u v (eqV y x):=by
 cases y with
 |non=>
  cases ry
  cases x with
  |non=>cases rx;exact SeqAt.EqAt.same _
  |bl b=>cases rx;exact SeqAt.EqAt.none_bool b
  |int b=>obtain⟨t,rfl⟩:=rx;exact SeqAt.EqAt.none_int b t
  |str b=>obtain⟨t,rfl⟩:=rx;exact SeqAt.EqAt.none_str b t
  |_=>exact absurd (show false=true from fx) Z1
 |bl a=>
  cases ry
  cases x with
  |non=>cases rx;exact SeqAt.EqAt.bool_none a
  |bl b=>cases rx;exact SeqAt.EqAt.bool_bool a b
  |int b=>obtain⟨t,rfl⟩:=rx;exact SeqAt.EqAt.bool_int a b t
  |str b=>obtain⟨t,rfl⟩:=rx;exact SeqAt.EqAt.bool_str a b t
  |_=>exact absurd (show false=true from fx) Z1
 |int a=>
  obtain⟨t',rfl⟩:=ry;cases x with
  |non=>cases rx;exact SeqAt.EqAt.int_none a t'
  |bl b=>cases rx;exact SeqAt.EqAt.int_bool a t' b
  |int b=>obtain⟨t,rfl⟩:=rx;exact SeqAt.EqAt.int_int a t' b t
  |str b=>obtain⟨t,rfl⟩:=rx;exact SeqAt.EqAt.int_str a t' b t
  |_=>exact absurd (show false=true from fx) Z1
 |str a=>
  obtain⟨t',rfl⟩:=ry;cases x with
  |non=>cases rx;exact SeqAt.EqAt.str_none a t'
  |bl b=>cases rx;exact SeqAt.EqAt.str_bool a t' b
  |int b=>obtain⟨t,rfl⟩:=rx;exact SeqAt.EqAt.str_int a t' b t
  |str b=>obtain⟨t,rfl⟩:=rx;exact SeqAt.EqAt.str_str a t' b t
  |_=>exact absurd (show false=true from fx) Z1
 |_=>exact absurd (show false=true from fy) Z1
def eqU(x:V)(u:Value):Bool:=match u with
 | .none=>eqV .non x
 | .bool b=>eqV (.bl b) x
 | .int i _=>eqV (.int i) x
 | .str z _=>eqV (.str z) x
 |_=>false
def U1{x y:V}{u:Value}(r:RelV y u)(f:WW y=true):eqU x u=eqV y x:=by
 cases y with
 |non=>cases r;rfl
 |bl b=>cases r;rfl
 |int i=>obtain⟨t,rfl⟩:=r;rfl
 |str z=>obtain⟨t,rfl⟩:=r;rfl
 |_=>exact absurd (show false=true from f) Z1
def VH{x:V}:∀{xs:List V}{us:List Value},Vals xs us->xs.all WW=true->us.any (eqU x)=xs.any fun y=>eqV y x
 |_,_,.nil,_=>rfl
 |y::xs,u::us,.cons r t,f=>by
  rw[List.all_cons,ZO]at f;rw[List.any_cons,List.any_cons,U1 r f.1,VH t f.2]
def VP{A:Around}{s:Shared}{x:V}{v:Value}(rx:RelV x v)(fx:WW x=true):∀{xs:List V}{us:List Value},Vals xs us->xs.all WW=true->∀u∈us,SeqAt.EqAt A s u v (eqU x u)
 |_,_,.nil,_=>fun u hu=>by cases hu
 |y::xs,u::us,.cons r t,f=>fun u' hu=>by
  rw[List.all_cons,ZO]at f;rcases ZA.mp hu with rfl|hu
  ·rw[U1 r f.1];exact J1 r rx f.1 fx
  ·exact VP rx fx t f.2 u' hu
def inV(x:V)(xs:List V):Bool:=xs.any fun y=>eqV y x
def rIn(K:Za)(neg:Bool):R2:=fun x y H Q=>∃p xs,y=.ref p/\(SqL K H p xs\/SqT K H p xs)/\WW x=true/\xs.all WW=true/\Q (.bl (if neg then !inV x xs else inV x xs)) H
def Pk:OpR X (compareOp .In) (rIn X.K false):=by
 intro pins s σ H x y v u Q I rx ry h;obtain⟨p,xs,rfl,hq,fx,fs,q⟩:=h;cases ry
 rcases hq with hq|hq
 ·obtain⟨its,r,pl,hz⟩:=I.list hq;refine SeqAt.in_listAt (eqU x) pl.isList (fun w hw=>VP rx fx r fs w (by simpa using hw)) ⟨.bl _,H,I,rfl,?_⟩;rw[show its.toArray.any (eqU x)=its.any (eqU x) by simp,VH r fs];exact q
 ·obtain⟨its,r,pl,hz⟩:=I.tuple hq;refine SeqAt.in_tupleAt (eqU x) pl (fun w hw=>VP rx fx r fs w (by simpa using hw)) ⟨.bl _,H,I,rfl,?_⟩;rw[show its.toArray.any (eqU x)=its.any (eqU x) by simp,VH r fs];exact q
def Uy:Qs X (.type "list") (fun xs H Q=>∃p ys,xs=[.ref p]/\(SqL X.K H p ys\/SqT X.K H p ys)/\∀l,H l=none->Q (.ref l) (upd H l (.lst ys))):=by
 intro pins s σ H xs us Q I r h;obtain⟨p,ys,rfl,hq,q⟩:=h;obtain⟨u,rfl,rx⟩:=vals1 r;cases rx
 have fin:∀(its:List Value),Vals ys its->ys.length<=sizeLine->∀(h':Heap) (c':Nat),(∀b o',s.heap.get? b=some o'->h'.get? b=some o')->
   h'.get? s.heap.objs.size=some {cls:=.type "list",dict:=none,data:=.seq its.toArray c',slots:=#[]}->EP X pins σ Q (.ref s.heap.objs.size) {s with heap:=h'}:=fun its r' hz h' c' kp e=>
  ⟨.ref s.heap.objs.size,_,I.laid (t':=s.toks) kp (Zx _) (show ObjOk X.prog X.w _ h' _ (.lst ys)from⟨hz,its,c',r',e⟩),rfl,q _ (I.hok.fresh (Zx _))⟩
 rcases hq with hq|hq
 ·obtain⟨its,r',pl,hz⟩:=I.list hq;have hlen:=r'.length;obtain⟨o,ho,hc,n,hd⟩:=pl.isList;exact call_list_seq p (.inl rfl) ho hc hd (fun h' c' kp e=>fin its r' hz h' c' kp e) (by simp only[Zy]<;>omega)
 ·obtain⟨its,r',pl,hz⟩:=I.tuple hq;have hlen:=r'.length;obtain⟨o,ho,hc,n,hd⟩:=pl;exact call_list_seq p (.inr rfl) ho hc hd (fun h' c' kp e=>fin its r' hz h' c' kp e) (by simp only[Zy]<;>omega)
def tyV(K:Za)(T:String)(x:V)(H:Hp):Prop:=match x with
 | .str _=>T = "str"
 | .int _=>T = "int"
 | .ref p=>(T = "list"/\∃xs,SqL K H p xs)\/(T = "tuple"/\∃o,K.lookup p=some o/\o.cls=.type "tuple"/\o.dict=none)\/
   (T = "dict"/\((∃kvs,H p=some (.dK kvs))\/∃kvs,H p=some (.dT kvs)))\/(T = "set"/\∃S n,H p=some (.set S n))
 |_=>False
def Nz{pins:List (Addr×Obj)}{σ:St}{H:Hp}{s:Shared}{T:String}{x:V}{v:Value}(I:Inv X pins σ H s)(r:RelV x v)(ty:tyV X.K T x H) :
  s.TypeIs v T/\∀a,v=.ref a->∃ob,s.heap.get? a=some ob/\ob.dict=none:=by
 cases x with
 |str z=>
  obtain⟨t,rfl⟩:=r;cases (show T = "str" from ty)
  exact⟨typeIs_str s z t,fun _ e=>nomatch e⟩
 |int i=>
  obtain⟨t,rfl⟩:=r;cases (show T = "int" from ty)
  exact⟨typeIs_int s i t,fun _ e=>nomatch e⟩
 |ref p=>
  cases r
  rcases ty with⟨rfl,xs,hq⟩|⟨rfl,o,hk,hc,hd⟩|⟨rfl,hk⟩|⟨rfl,S,n,hk⟩
  ·obtain⟨its,_,pl,_⟩:=I.list hq;refine⟨pl.isList.typeIs,fun a e=>?_⟩;cases e
   obtain⟨o,n,e,c,hd,_⟩:=pl;exact⟨o,e,hd⟩
  ·refine⟨⟨o,I.kIn p o hk,hc⟩,fun a e=>?_⟩;cases e
   exact⟨o,I.kIn _ o hk,hd⟩
  ·have z:∃o,s.heap.get? p=some o/\o.ExactDict:=by
    rcases hk with⟨kvs,hk⟩|⟨kvs,hk⟩
    ·obtain⟨_,_,_,_,o,_,_,e,ex,_⟩:=I.hok p _ hk;exact⟨o,e,ex⟩
    ·obtain⟨_,_,_,_,o,_,_,e,ex,_⟩:=I.hok p _ hk;exact⟨o,e,ex⟩
   obtain⟨o,e,ex⟩:=z;refine⟨⟨o,e,ex.1⟩,fun a e2=>?_⟩;cases e2
   exact⟨o,e,ex.2.1⟩
  ·obtain⟨o,_,_,_,e,ex,_⟩:=I.hok p _ hk;refine⟨⟨o,e,ex.1⟩,fun a e2=>?_⟩;cases e2
   exact⟨o,e,ex.2.1⟩
 |_=>exact False.elim ty
def tBM(K:Za)(T:String)(r:V->List V->Hp->VK->Prop)(to:TE)(t:TA):TE:=fun σ H Q=>to σ H fun x H1=>tyV K T x H1/\t σ H1 fun xs H2=>r x xs H2 Q
variable {o e:Expr}{es:List Expr}{to:TE}{t:TA}{name:Str}{apos cpos:Pos}{T id:String}{r:V->List V->Hp->VK->Prop}
def QS(pa:PlainAttrs T)(slot:Slot T name id)(hty:typeOf (.builtin id)=pure (.type "method_descriptor"))(hm:MtR X id r)(ho:PE X o to)(ha:PA X (e::es) t)(hbase:attributeBase o name X.env (eval o X.env)=eval o X.env:=by rfl)
  (hfew:((backTo cpos (starEach (e::es) X.env)).all (fun x=>!x.1)&&(backToKw cpos (keywordEach [] X.env)).all (fun x=>x.1.isSome)
   && decide ((e::es).length+([]:List Keyword).length+(if ([]:List Keyword).isEmpty then 0 else 1)<30))=true:=by rfl)
  (hline:(apos.endLine==cpos.line)=true:=by rfl) (hs:starEach (e::es) X.env=(false,eval e X.env)::starEach es X.env:=by rfl) (hplain:(backTo cpos (starEach es X.env)).any (·.1)=false:=by rfl) :
  PE X (.Call (.Attribute o name apos) (e::es) [] cpos) (tBM X.K T r to t):=by
 intro pins s σ H Q I h;refine wpAny_Call_method_late hbase hfew hline rfl (thn (ho pins s σ H _ I h) fun v s1 ⟨x,H1,I1,r1,ty,q1⟩=>?_);obtain⟨h1,h2⟩:=Nz I1 r1 ty;refine⟨T,id,pa,slot,hty,h1,h2,?_⟩;have hA:=ha cpos pins s1 σ H1 _ I1 q1;rw[hs]at hA ⊢;refine Calls.callWith_builtin (by show(false || (backTo cpos (starEach es X.env)).any (·.1))=false;rw[hplain]<;>rfl) (Calls.evalArgs_plain ?_);exact thn hA fun us s2 ⟨vs,H2,I2,r2,q2⟩=>hm pins s2 σ H2 x vs v us Q I2 r1 r2 q2
end
def MtM(X:Cx)(id:String)(r:V->List V->Hp->VK->Prop):Prop:=
 ∀(pins:List (Addr×Obj)) (s:Shared) (σ:St) (H:Hp) (x:V) (xs:List V) (v:Value) (us:List Value) (Q:VK),Inv X pins σ H s->RelV x v->Vals xs us->r x xs H Q->
  wpAny (model X.prog X.w) X.A (call (.builtin id) (v::us)) (EP X pins σ Q) X.xe s
def Vals.one:∀{x:V}{us:List Value},Vals [x] us->∃u,us=[u]/\RelV x u
 |_,_,.cons r .nil=>⟨_,rfl,r⟩
def Vals.eraseIdx:∀{xs:List V}{us:List Value} (i:Nat),Vals xs us->Vals (xs.eraseIdx i) (us.eraseIdx i)
 |_,_,_,.nil=>.nil
 |_,_,0,.cons _ t=>t
 |_,_,i+1,.cons r t=>.cons r (Vals.eraseIdx i t)
section
variable {X:Cx}{pins:List (Addr×Obj)}{σ:St}{H:Hp}{s:Shared}{l b:Addr}{xs ys zs:List V}
def Inv.lset {its its':List Value}{n:Nat}{f:Array Value->Array Value}{t':Nat} (I:Inv X pins σ H s) (hH:H l=some (.lst xs))
  (e:s.heap.get? l=some {cls:=.type "list",data:=.seq its.toArray n}) (hf:f its.toArray=its'.toArray) (hv:Vals ys its') (hz:ys.length<=sizeLine) :
  Inv X pins σ (upd H l (.lst ys)) {s with heap:=s.heap.update l (Obj.mapSeq f),toks:=t'}:=by
 have q:=PySem.IsL.update e f;rw[hf]at q;refine I.write (x:=l) (e:=l) (by rw[hH];exact trivial) (.inl rfl) (fun b' u hb hu=>(ZP s.heap (Obj.mapSeq f) (Ne.symm hb)).trans hu) ⟨_,q⟩ ?_;exact⟨hz,its',_,hv,q⟩
def Inv.lstM (I:Inv X pins σ H s) (hH:H l=some (.lst xs)):xs.length<=sizeLine/\∃(its:List Value) (n:Nat),Vals xs its/\xs.length=its.length/\s.heap.get? l=some {cls:=.type "list",data:=.seq its.toArray n}:=by
 obtain⟨z,its,n,r,e⟩:=I.hok l _ hH;exact⟨z,its,n,r,r.length,e⟩
def TJ{n:Nat}(h:n<=sizeLine):Builtin.List.listTooLong n=false:=by
 unfold Builtin.List.listTooLong;exact Z9 (by omega)
end
section
variable {X:Cx}
def K9:V->List V->Hp->VK->Prop:=fun x vs H Q=>∃l xs y,x=.ref l/\vs=[y]/\H l=some (.lst xs)/\xs.length<sizeLine/\Q .non (upd H l (.lst (xs++[y])))
def V4:MtM X "list.append" K9:=by
 intro pins s σ H x vs v us Q I rx rv h;obtain⟨l,xs,y,rfl,rfl,hH,hz,q⟩:=h;cases rx
 obtain⟨u,rfl,ru⟩:=rv.one;obtain⟨z,its,n,r,hl,e⟩:=I.lstM hH;refine call_meets F.slot_list_append ⟨_,e,rfl⟩ F.entry_list_append (F.args_list_append_2 _ _) (PySem.list_append l its.toArray n u (by rw[Zy];omega)) ⟨e,?_⟩;refine⟨.non,_,I.lset (its':=its++[u]) hH e (by simp) (r.append (.cons ru .nil)) ?_,rfl,q⟩;rw[Yn,List.length_singleton];omega
def JQ:V->List V->Hp->VK->Prop:=fun x vs H Q=>∃l b xs zs,x=.ref l/\vs=[.ref b]/\H l=some (.lst xs)/\H b=some (.lst zs)/\xs.length+zs.length<=sizeLine/\Q .non (upd H l (.lst (xs++zs)))
def XU:MtM X "list.extend" JQ:=by
 intro pins s σ H x vs v us Q I rx rv h;obtain⟨l,b,xs,zs,rfl,rfl,hH,hB,hz,q⟩:=h;cases rx
 obtain⟨u,rfl,ru⟩:=rv.one;cases ru
 obtain⟨z,its,n,r,hl,e⟩:=I.lstM hH;obtain⟨z2,its2,n2,r2,hl2,e2⟩:=I.lstM hB;have hsz:its.toArray.size+its2.toArray.size<=sizeLine:=by rw[Zy,Zy];omega
 have hlong:¬(!its.toArray.isEmpty&&Builtin.List.listTooLong (its.toArray.size+its2.toArray.size))=true:=by
  rw[TJ hsz,Bool.and_false];exact Z1
 refine call_meets F.slot_list_extend ⟨_,e,rfl⟩ F.entry_list_extend (F.args_list_extend_2 _ _)
  (AutoSeq1.list_extend_list_list_0 l its.toArray n b its2.toArray n2 hlong (by rw[Zy];omega) (by omega)) ⟨e,e2,?_⟩
 refine⟨.non,_,I.lset (its':=its++its2) hH e (by simp) (r.append r2) ?_,rfl,q⟩;rw[Yn];omega
end
end L2
namespace Att
open PySem PySem.W PySem.Calls PyProof.Rows
def Xv{P:Params}{h:Heap}:∀(ns:List Int) (vs:List Value),WellAll P h vs (ns.map WData.int)->IntsAre vs ns:=by
 intro ns
 induction ns with
 |nil=>
  intro vs w;rw[List.map_nil]at w;cases w
  exact .nil
 |cons n ns ih=>
  intro vs w;rw[Ye]at w;cases w with
  |cons a b=>
   cases a
   exact .cons _ _ (ih _ b)
def XC{l:OpenLaw}{n:Nat}(hn:l.most=some n){P:Params}{h:Heap}{args:List WData}{vals:List Value}(hpre:l.row.toRowW.claim.pre args=true)(hwl:WellAll P h vals args) :
  ∃a vs ns,vals=[Value.ref a]/\args=[WData.list (ns.map WData.int)]/\h.get? a=some {cls:=.type "list",data:=.seq vs.toArray}/\IntsAre vs ns/\ns.length<=n:=by
 have hsh:WShape.hasAll [] args [.list .int]=true:=(pre_splitW hpre).1;have hc:l.pre.holds [] {args:=args}=true:=(pre_splitW hpre).2;obtain⟨d,r,rfl,h1,h2⟩:=hasAllW_cons hsh;obtain rfl:=hasAllW_nil h2;obtain⟨xs,rfl,h3⟩:=hasW_list h1;obtain⟨ns,rfl⟩:=items_int h3
 have hlen:ns.length<=n:=by
  unfold OpenLaw.pre at hc
  have h4:(WTm.not (.lt (.lit (.int (n:Int))) (.len (.arg 0)))).holds [] {args:=[.list (ns.map .int)]}=true:=by
   have h4:=(holds_andW hc).1;rw[hn]at h4;exact h4
  have h5:=condW_of h4 (w_not (w_lt w_lit (w_len_list (w_arg rfl))));rw[Zs]at h5;refine Nat.le_of_not_lt fun q=>?_;have q':(n:Int)<((ns.length:Nat):Int):=by omega
  first
   |(rw[ZC q']at h5;exact absurd h5 (by decide))
   |(simp at h5;omega)
 cases hwl with
 |cons w1 w2=>
  cases w2
  cases w1 with
  |list ho hall=>exact⟨_,_,ns,rfl,rfl,ho,Xv ns _ hall,hlen⟩
def NA(l:OpenLaw)(args:List WData):l.row.toRowW.claim.post args (.bool true) args=true:=
 postW_of (r:=l.row.toRowW) (X:=(true==true))
  (show WShape.has [] (.bool true) .bool=true by first|rfl|decide|simp[WShape.has,WShape.arms,WShape.armsAll])
  (show(WTm.eq .res (.lit (.bool true))).value [] {args:=args,res:=some (.bool true),after:=args}=some (.bool (true==true))from w_eq_bool (w_res rfl) w_lit) rfl
def Ko{l:OpenLaw}{n:Nat}{q:Program}{loose:List Str}{XP:(Str->Option Value)->Heap->Prop}{YP:World->Heap->Prop}{d:DefRec}(hn:l.most=some n)(hdf:d.params.defaults=[])
  (call:∀(w:World) (s₀ s₁:Shared) (mg mb:Str->Option Value) (fa:Addr) (o:Obj) (pm cd doc:Value) (a:Addr) (vs:List Value) (ns:List Int),
   Ground q loose [] XP w s₀ mg mb s₁.heap->YP w s₁.heap->
   s₁.heap.get? fa=some o->o.data=.func (docDef d.name d.params d.body d.scope pm cd doc)->s₁.heap.CodeRec cd d.name->mg d.name=some (.ref fa)->
   s₁.heap.get? a=some {cls:=.type "list",data:=.seq vs.toArray}->IntsAre vs ns->ns.length<=n->s₁.gens=#[]->
   codeAny (model l.prog w) callerA (.call (.ref fa) ⟨[.ref a],[]⟩) (fun r s'=>r=.ok (.ret (.bool true))/\OldK s₁.heap s'.heap/\s'.os=s₁.os/\AllBare s'.gens) s₁) :
  WalkO q loose XP YP l.row.toRowW d [] (fun f vs=>PySem.call f vs):=by
 intro w s₀ s₁ mg mb G Y fa o pm cd doc dV kV ho hd hcd hD hmg hg args vals as hpre hlay hrd hwl hlo;obtain rfl:dV=.none:=Dflts.none hD hdf;obtain rfl:kV=.none:=Dflts.noKw hD;obtain⟨a,vs,ns,rfl,rfl,hobj,hints,hlen⟩:=XC hn hpre hwl;refine enter_call (YK (call w s₀ s₁ mg mb fa o pm cd doc a vs ns G Y ho (fd_plain hd) hcd hmg hobj hints hlen hg) fun r s' hq=>?_);obtain⟨rfl,h2,h3,h4⟩:=hq;exact⟨.inl ⟨.bool true,.bool true,[],rfl,fun _=>rfl,.bool true,NA l _,fun _=>⟨List.Pairwise.nil,fun _ hm=>(nomatch hm)⟩⟩,h2,h3,h4⟩
end Att
namespace L2
open PySem PySem.Spec PyProof.Rows
def Vq:∀{vs:List Value}{ns:List Int},IntsAre vs ns->Vals (ns.map V.int) vs
 |_,_,.nil=>.nil
 |_,_,.cons n t h=>.cons ⟨t,rfl⟩ (Vq h)
def Only(H:Hp):Prop:=∀b,H b=none\/∃o xs,H b=some (.frz o (.lst xs))
def Qm(s:Stmt):Arguments:=match s with
 | .FunctionDef _ a _ _ _ _ _ _ _ _=>a
 |_=>{posonlyargs:=[],args:=[],vararg:=none,kwonlyargs:=[],kw_defaults:=[],kwarg:=none,defaults:=[]}
def WT(s:Stmt):List Stmt:=match s with
 | .FunctionDef _ _ b _ _ _ _ _ _ _=>b
 |_=>[]
def W8(s:Stmt):Scope:=match s with
 | .FunctionDef _ _ _ _ _ _ sc _ _ _=>sc
 |_=>{kind:=.function,names:=[],isGenerator:=false,isCoroutine:=false}
abbrev CX0:CXT:=fun _ _ _ _ _ _=>False
abbrev E0:XK:=fun _ _ _=>False
def Qh{X:Cx}:QG CX0 X E0:=fun _ _ _ _ _ _ _ h=>h.elim
structure Fun (K:Za) (x qual:Str) (st:Stmt) (f:Addr) (fd:FuncData):Prop where
 ex:∃(oc:Value) (od:Option Addr) (kV doc pm:Value) (an:Option Addr) (cdv ct:Value) (osl:Array (Option Value)),
  fd=PySem.W.fnOf x qual (Qm st) (WT st) (W8 st) .none kV doc pm an cdv ct/\K.lookup f=some ⟨oc,od,.func fd,osl⟩/\PySem.W.codeIn K cdv qual=true
 kp:PySem.W.keepIn K (.ref f)=true
section
variable {P:Program}{w:World}{K:Za}{mg:Str->Option Value}{base:Heap}
def Fun.ok {x qual:Str}{st:Stmt}{f:Addr}{fd:FuncData}{N ps:List Str}{k:Nat}{sp:Sp} (F:Fun K x qual st f fd) (S:FnScope N ps (W8 st)) (len:∀vs H Q E,sp vs H Q E->vs.length=ps.length)
  (hbody:∀(cdv:Value) (A:Around) (outer:List Env) (s:Shared) (H:Hp) (vs:List V) (Q:VK) (E:XK),Room k (A.deeper (envOfC qual (W8 st) s.heap.objs.size f cdv))->sp vs H Q E->
   ∃t,PSs (cxOf CX0 P w K mg base N qual (W8 st) f cdv A outer s H E).nox (WT st) t/\t {nx:=fun _ H'=>Q .non H',rt:=Q} (start N vs) H):FnOk P w K mg base CX0 (k+1) f fd ps sp:=by
 obtain⟨oc,od,kV,doc,pm,an,cdv,ct,osl,rfl,lk,hcd⟩:=F.ex;refine JE lk hcd S len fun A outer s H vs Q E hr hsp=>?_;obtain⟨t,h,q⟩:=hbody cdv A outer s H vs Q E hr hsp;exact⟨t,h.nox,q⟩
def Fun.binds {x qual:Str}{st:Stmt}{f:Addr}{fd:FuncData}{ps:List Str} (F:Fun K x qual st f fd)
  (h:∀(kV doc pm:Value) (an:Option Addr) (cdv ct:Value) (us:List Value),us.length=ps.length->bindArgs (PySem.W.fnOf x qual (Qm st) (WT st) (W8 st) .none kV doc pm an cdv ct) ⟨us,[]⟩=pure (ps.zip us)):Binds K fd ps []:=by
 obtain⟨oc,od,kV,doc,pm,an,cdv,ct,osl,rfl,lk,hcd⟩:=F.ex;exact .all (h kV doc pm an cdv ct)
def Jo{x qual:Str}{st:Stmt}{f:Addr}{oc:Value}{od an:Option Addr}{osl:Array (Option Value)}{kV doc pm cdv ct:Value}(l:K.lookup f=some ⟨oc,od,.func (PySem.W.fnOf x qual (Qm st) (WT st) (W8 st) .none kV doc pm an cdv ct),osl⟩)(c:PySem.W.codeIn K cdv qual=true)(k:PySem.W.keepIn K (.ref f)=true):Fun K x qual st f (PySem.W.fnOf x qual (Qm st) (WT st) (W8 st) .none kV doc pm an cdv ct):=⟨⟨oc,od,kV,doc,pm,an,cdv,ct,osl,rfl,l,c⟩,k⟩
end
def VQ{n:Nat}(h:n<=1000):n<sizeLine:=Nat.lt_of_le_of_lt h (by decide)
section
variable {X:Cx}
def pv(i:Nat){x:Str}{pos:Pos}(hN:X.N[i]?=some x:=by rfl)(hv:Vis X.env.scope x:=by first|exact Or.inl rfl|exact Or.inr (Or.inl rfl)|exact Or.inr (Or.inr rfl))(hd:(x==("__debug__" : Str))=false:=by decide)(hcd:(x==("__classdict__" : Str))=false:=by decide):PE X (.Name x pos) (tVar i):=N1 hN hv hd hcd
end
def iteF{A B:Prop}(h:B):if false=true then A else B:=by
 rw[Z2 Z1];exact h
def iteT{A B:Prop}(h:A):if true=true then A else B:=by
 rw[Z0 rfl];exact h
def ite2{c A B:Prop}[Decidable c](h1:c->A)(h2:¬c->B):if c then A else B:=by
 by_cases h:c
 ·rw[Z0 h];exact h1 h
 ·rw[Z2 h];exact h2 h
def QX{c A B:Prop}[Decidable c](hc:c)(h:B):if (!decide c)=true then A else B:=by
 rw[ZC hc];exact iteF h
def Same(H H':Hp):Prop:=∀b o,H b=some o->H' b=some o
def Same.refl (H:Hp):Same H H:=fun _ _ h=>h
def Same.trans {H H1 H2:Hp} (a:Same H H1) (b:Same H1 H2):Same H H2:=fun c o h=>b c o (a c o h)
def Same.free {H H':Hp} (e:Same H H') {l:Addr} (h:H' l=Option.none):H l=Option.none:=by
 cases q:H l with
 |none=>rfl
 |some o=>
  rw[e l o q]at h;cases h
def Same.seq {K:Za}{H H':Hp}{a:Addr}{xs:List V} (e:Same H H') (h:SqL K H a xs):SqL K H' a xs:=by
 rcases h with(h|⟨o,h⟩)|h
 ·exact .inl (.inl (e _ _ h))
 ·exact .inl (.inr ⟨o,e _ _ h⟩)
 ·exact .inr h
end L2
set_option maxHeartbeats 4000000
set_option genInjectivity false
set_option genSizeOfSpec false
namespace Own
open PySem PySem.Spec PyProof.Rows L2
structure Def (K:Za) (mg:Str->Option Value) (x:Str) (st:Stmt) (ps:List Str):Prop where
 ex:∃f fd,Fun K x x st f fd/\mg x=some (.ref f)/\Binds K fd ps []
structure Callee (P:Program) (w:World) (K:Za) (mg:Str->Option Value) (base:Heap) (CX:CXT) (k:Nat) (x:Str) (ps:List Str) (sp:Sp):Prop where
 ex:∃f fd,FnOk P w K mg base CX k f fd ps sp/\mg x=some (.ref f)/\PySem.W.keepIn K (.ref f)=true/\(∃o:Obj,K.lookup f=some o/\o.data=.func fd)/\Binds K fd ps []
section
variable {P:Program}{w:World}{K:Za}{mg:Str->Option Value}{base:Heap}
def Def.ok {x:Str}{st:Stmt}{N ps:List Str}{k:Nat}{sp:Sp} (D:Def K mg x st ps) (S:FnScope N ps (W8 st)) (len:∀vs H Q E,sp vs H Q E->vs.length=ps.length)
  (hbody:∀(f:Addr) (cdv:Value) (A:Around) (outer:List Env) (s:Shared) (H:Hp) (vs:List V) (Q:VK) (E:XK),Room k (A.deeper (envOfC x (W8 st) s.heap.objs.size f cdv))->sp vs H Q E->
   ∃t,PSs (cxOf CX0 P w K mg base N x (W8 st) f cdv A outer s H E).nox (WT st) t/\t {nx:=fun _ H'=>Q .non H',rt:=Q} (start N vs) H):Callee P w K mg base CX0 (k+1) x ps sp:=by
 obtain⟨f,fd,F,hm,hb⟩:=D.ex;refine⟨f,fd,F.ok S len fun cdv A outer s H vs Q E hr h=>hbody f cdv A outer s H vs Q E hr h,hm,F.kp,?_,hb⟩;obtain⟨oc,od,kV,doc,pm,an,cdv,ct,osl,_,lk,_⟩:=F.ex;exact⟨_,lk,rfl⟩
end
section
variable {X:Cx}{CX:CXT}{k:Nat}{ps:List Str}{sp:Sp}{E:XK}{x:Str}{p pos:Pos}{e:Expr}{es:List Expr}{t:TA}
def Qd(C:Callee X.prog X.w X.K X.mg X.base CX k x ps sp)(hr:Room k X.A)(hx:QG CX X E)(ha:PA X (e::es) t)(hg:Gl X x:=by rfl)(hdb:(x==("__debug__" : Str))=false:=by decide)(he:starEach (e::es) X.env=(false,eval e X.env)::starEach es X.env:=by rfl)(hpl:(backTo pos (starEach es X.env)).any (·.1)=false:=by rfl) :
  PE X (.Call (.Name x p) (e::es) [] pos) (QK sp [] E t):=by
 obtain⟨f,fd,F,hm,hk,_,hb⟩:=C.ex;exact Tg F hr hg hm hk hb .nil hx ha hdb he hpl
def QV:Qs X (.builtin "isinstance") (fun xs H Q=>∃x n t b,xs=[x,.ty n]/\TyOf X.K H x t/\PySem.W.kitOne X.K t (.type n)=some b/\Q (.bl b) H):=by
 intro pins s σ H xs us Q I rv h;obtain⟨x,n,t,b,rfl,ty,e,q⟩:=h;cases rv with
 |cons r rr=>
  cases rr with
  |cons r' rr'=>
   cases rr'
   obtain rfl:_=Value.type n:=r';exact X5 I r ty e fun tk=>⟨.bl b,H,I.tok tk,rfl,q⟩
def WH:IxR X (fun x y H Q=>rIxL X.K x y H Q\/rIxT X.K x y H Q):=ix_list.or XZ
end
def Vl(K:Za)(n:String):PySem.W.kitOne K (.type n) (.type n)=some true:=by
 unfold PySem.W.kitOne;rw[Z0 (by simp)]
def NU(K:Za):PySem.W.kitOne K (.type "int") (.type "bool")=some false:=by rfl
def Vw{α β:Type}{f:α->β}{xs:List α}{i:Int}{v:α}(h:atI xs i=some v):atI (xs.map f) i=some (f v):=by
 unfold atI at h ⊢;rw[Zs];cases e:ixN xs.length i with
 |none=>rw[e]at h;cases h
 |some j=>
  rw[e]at h;have h':xs[j]?=some v:=h;show(xs.map f)[j]?=some (f v);rw[Zz,h'];rfl
def Vs{α:Type}{xs:List α}{i:Int}{v:α}(h0:0<=i)(h:xs[i.toNat]?=some v):atI xs i=some v:=by
 have e:((i.toNat:Nat):Int)=i:=by omega
 have:=V1 h
 rwa[e]at this
def WU{H:Hp}{a:Addr}{o:HO}(h:H a=none):Same H (upd H a o):=fun b u e=>by rw[W7 (WK e h)];exact e
def Same.upd {H H':Hp}{a:Addr}{o:HO} (S:Same H H') (h:H a=none):Same H (upd H' a o):=fun b u e=>by rw[W7 (WK e h)];exact S b u e
def Same.new {H H':Hp}{a:Addr}{o:HO} (S:Same H H') (h:H' a=none):Same H (L2.upd H' a o):=Own.Same.upd S (S.free h)
def XG{env:Env}(names:List (Str×NameKind))(hall:∀x∈names,x.2=.free->∃c,env.cells.lookup x.1=some c):∀cs0:List (Str×Addr),(∀x c,cs0.lookup x=some c->env.cells.lookup x=some c)->
  ∃cl:List (Str×Addr),(forIn names cs0 (fun(x:Str×NameKind) (cs:List (Str×Addr))=>if (x.2 == .free)=true then(do let c ←cellOf env x.1;pure (ForInStep.yield ((x.1,c)::cs)))else pure (ForInStep.yield cs)):Sem (List (Str×Addr)))=pure cl/\
   (∀x c,cl.lookup x=some c->env.cells.lookup x=some c)/\(∀x,(∃c,cs0.lookup x=some c)->∃c,cl.lookup x=some c)/\∀x∈names,x.2=.free->∃c,cl.lookup x.1=some c:=by
 induction names with
 |nil=>
  intro cs0 h0;exact⟨cs0,rfl,h0,fun _ h=>h,fun x hx=>by cases hx⟩
 |cons y r ih=>
  intro cs0 h0;have ih':=ih fun x hx=>hall x (ZE _ hx);obtain⟨n,k⟩:=y;by_cases hk:k=.free
  ·subst hk;obtain⟨c,hc⟩:=hall (n,.free) ZL rfl
   have h1:∀x d,List.lookup x ((n,c)::cs0)=some d->env.cells.lookup x=some d:=fun x d e=>by
    rw[ZQ]at e;by_cases hx:x=n
    ·subst hx;simp at e;subst e;exact hc
    ·have:(x==n)=false:=by simpa using hx
     rw[this]at e;exact h0 x d e
   obtain⟨cl,e,p1,p2,p3⟩:=ih' ((n,c)::cs0) h1;refine⟨cl,?_,p1,fun x hx=>p2 x ?_,fun x hx hf=>?_⟩
   ·rw[List.forIn_cons];show((if (NameKind.free==NameKind.free)=true then(do let c ←cellOf env n;pure (ForInStep.yield ((n,c)::cs0)))else pure (ForInStep.yield cs0)) >>= _)=_
    rw[Z0 (show(NameKind.free==NameKind.free)=true by decide)];have ec:cellOf env n=pure c:=by unfold cellOf;rw[hc]
    rw[ec];exact e
   ·rw[ZQ];cases (x==n)
    ·exact hx
    ·exact⟨c,rfl⟩
   ·rcases ZA.mp hx with rfl|hx
    ·exact p2 n ⟨c,by simp[ZQ]⟩
    ·exact p3 x hx hf
  ·obtain⟨cl,e,p1,p2,p3⟩:=ih' cs0 h0;refine⟨cl,?_,p1,p2,fun x hx hf=>?_⟩
   ·rw[List.forIn_cons];have hb:(k==NameKind.free)=false:=by simpa using hk
    show((if (k==NameKind.free)=true then(do let c ←cellOf env n;pure (ForInStep.yield ((n,c)::cs0)))else pure (ForInStep.yield cs0)) >>= _)=_
    rw[Z2 (by rw[hb];decide)];exact e
   ·rcases ZA.mp hx with rfl|hx
    ·exact absurd hf hk
    ·exact p3 x hx hf
def JA{env:Env}{sc:Scope}(hall:∀x∈sc.names,x.2=.free->∃c,env.cells.lookup x.1=some c) :
  ∃cl:List (Str×Addr),closureFor sc env=pure cl/\(∀x c,cl.lookup x=some c->env.cells.lookup x=some c)/\∀x∈sc.names,x.2=.free->∃c,cl.lookup x.1=some c:=by
 obtain⟨cl,e,p1,_,p3⟩:=XG sc.names hall [] (fun x c h=>by cases h);refine⟨cl,?_,p1,p3⟩;unfold closureFor;show((forIn sc.names ([]:List (Str×Addr)) (fun(x:Str×NameKind) (cs:List (Str×Addr))=>if (x.2 == .free)=true then(do let c ←cellOf env x.1;pure (ForInStep.yield ((x.1,c)::cs)))else pure (ForInStep.yield cs)):Sem (List (Str×Addr))) >>= fun cs=>pure cs)=pure cl
 rw[e];rfl
def WQ(X:Cx)(N':List Str)(sc:Scope)(cl:List (Str×Addr))(C:Addr)(s₃:Shared)(H₃:Hp)(ex:List Addr):Cx:=
 {X with N:=N',s₀:=s₃,H₀:=H₃,env:=compEnvC sc cl C X.env,outer:=X.stack,ex:=ex,fn:=fun _=>false,pn:=[],xe:=fun _ _=>False}
structure CompOk (X:Cx) (N':List Str) (φ:List (Option Nat)) (sc:Scope):Prop where
 kind:sc.kind=.function
 okind:X.env.scope.kind=.function
 nocell:∀y∈sc.names,y.2≠.cell
 names:∀y∈sc.names,y.2=.local->sc.names.lookup y.1=some .local
 frees:∀y∈sc.names,y.2=.free->X.env.scope.names.lookup y.1=some .cell
 len:φ.length=N'.length
 pick:∀(i:Nat) (x:Str) (j:Nat),N'[i]?=some x->φ[i]?=some (some j)->X.N[j]?=some x/\sc.names.lookup x=some .free
def atStart(φ:List (Option Nat))(σ:L2.St):L2.St:=φ.map fun o=>o.bind fun j=>(σ[j]?).join
def Sub(σ σ':L2.St):Prop:=σ'.length=σ.length/\∀(i:Nat) (v:V),σ[i]?=some (some v)->σ'[i]?=some (some v)
def Sub.refl {σ:L2.St}:Sub σ σ:=⟨rfl,fun _ _ h=>h⟩
def Sub.skip {σ σ':L2.St}{x:Option V} (h:Sub σ σ'):Sub (none::σ) (x::σ'):=by
 refine⟨by simp[h.1],fun i v e=>?_⟩;cases i with
 |zero=>simp at e
 |succ i=>simp at e ⊢;exact h.2 i v e
def Sub.keep {σ σ':L2.St}{x:Option V} (h:Sub σ σ'):Sub (x::σ) (x::σ'):=by
 refine⟨by simp[h.1],fun i v e=>?_⟩;cases i with
 |zero=>simpa using e
 |succ i=>simp at e ⊢;exact h.2 i v e
def JW{env:Env}(hk:env.scope.kind=.function):∀{names:List (Str×NameKind)}{x:Str},names.lookup x=some .free->env.scope.names.lookup x=some .cell->
  (names.map fun(n,k)=>if (k==NameKind.free&&env.scope.kind == .function&&env.kindOf n==some .cell)then(n,NameKind.cell)else(n,k)).lookup x=some .cell
 |[],_,h,_=>by simp at h
 |(n,k)::r,x,h,hc=>by
  have ih:=@JW env hk r x;show List.lookup x ((if (k==NameKind.free&&env.scope.kind == .function&&env.kindOf n==some .cell)=true then(n,NameKind.cell)else(n,k))::_)=_;cases hx:x==n with
  |true=>
   simp only[ZQ,hx]at h;cases h
   have e:x=n:=by simpa using hx
   subst e;have hkk:env.kindOf x=some .cell:=hc;rw[hk,hkk];simp[ZQ]
  |false=>
   simp only[ZQ,hx]at h;by_cases hcc:(k==NameKind.free&&env.scope.kind == .function&&env.kindOf n==some .cell)=true
   ·rw[Z0 hcc];simp only[ZQ,hx];exact ih h hc
   ·rw[Z2 hcc];simp only[ZQ,hx];exact ih h hc
def Je{env:Env}:∀{names:List (Str×NameKind)}{x:Str}{q:NameKind},
  (names.map fun(n,k)=>if (k==NameKind.free&&env.scope.kind == .function&&env.kindOf n==some .cell)then(n,NameKind.cell)else(n,k)).lookup x=some q->∃k,(x,k)∈names/\(q=k\/k=.free)
 |[],_,_,h=>by simp at h
 |(n,k)::r,x,q,h=>by
  have ih:=@Je env r x q;have h':List.lookup x ((if (k==NameKind.free&&env.scope.kind == .function&&env.kindOf n==some .cell)=true then(n,NameKind.cell)else(n,k))::(r.map fun(n,k)=>if (k==NameKind.free&&env.scope.kind == .function&&env.kindOf n==some .cell)then(n,NameKind.cell)else(n,k)))=some q:=h;cases hx:x==n with
  |true=>
   have e:x=n:=by simpa using hx
   subst e;by_cases hcc:(k==NameKind.free&&env.scope.kind == .function&&env.kindOf x==some .cell)=true
   ·refine⟨k,ZL,.inr ?_⟩
    have:=(ZO _ _▸(ZO _ _▸hcc).1).1
    simpa using this
   ·rw[Z2 hcc]at h';simp[ZQ]at h';exact⟨k,ZL,.inl h'.symm⟩
  |false=>
   have h2:List.lookup x (r.map fun(n,k)=>if (k==NameKind.free&&env.scope.kind == .function&&env.kindOf n==some .cell)then(n,NameKind.cell)else(n,k))=some q:=by
    by_cases hcc:(k==NameKind.free&&env.scope.kind == .function&&env.kindOf n==some .cell)=true
    ·rw[Z0 hcc]at h';simp only[ZQ,hx]at h';exact h'
    ·rw[Z2 hcc]at h';simp only[ZQ,hx]at h';exact h'
   obtain⟨k',hm,hq⟩:=ih h2;exact⟨k',ZE _ hm,hq⟩
def Ts{prog:Program}{w:World}{A:Around}{R:Result->Shared->Prop}{s:Shared}{elt target iter:Expr}{ifs:List Expr}{scope:Scope}{pos:Pos}{it acc:Value}{env:Env}(I:Nat->Shared->Prop)
  (turn:∀n s,I n s->wpAny (model prog w) A (pyNext it) (fun r s₁=>match r with
   |none=>R (.ok .next) s₁
   |some v=>wpAny (model prog w) A (letOwnedTupleGo target it v) (fun _ s₁'=>wpAny (model prog w) A (assign target env v) (fun _ s₂=>
     wpAny (model prog w) A (forIn ifs true fun c r=>if r=true then do let ok ←isTrue c env (eval c env);pure (ForInStep.yield ok)else pure (ForInStep.yield r)) (fun ok s₃=>
      if ok=true then wpAny (model prog w) A (eval elt env) (fun x s₄=>
       wpAny (model prog w) A (call (.builtin "list.append") [acc,x]) (fun _ s₅=>∃m,m<n/\I m s₅) (fun _ _=>False) s₄) (fun _ _=>False) s₃
      else ∃m,m<n/\I m s₃) (fun _ _=>False) s₂) (fun _ _=>False) s₁') (fun _ _=>False) s₁) (fun _ _=>False) s)
  (n:Nat) (h:I n s) :
  codeAny (model prog w) A (.compLoop (.ListComp elt [⟨target,iter,ifs,0⟩] scope pos) 0 it acc env) R s:=by
 refine codeAny_loop rfl I (fun n s hI=>?_) n h;show wpAny _ A ((compTurn (.ListComp elt [⟨target,iter,ifs,0⟩] scope pos) 0 it acc env).onRaise (fun x=>do noteFrame x env;theTreesLotGoes x)) _ _ s
 refine wpAny_noted ?_;rw[compTurn_list];refine Zp (wpAny_standAt (Zp (ZM (turn n s hI) (fun r s₁ h₁=>?_) fun _ _ h'=>h'.elim)));cases r with
 |none=>exact Zt h₁
 |some v=>
  refine Zp (ZM h₁ (fun _ s₁' h₁'=>?_) fun _ _ h'=>h'.elim);refine Zp (ZM h₁' (fun _ s₂ h₂=>Zp (ZM h₂ (fun ok s₃ h₃=>?_) fun _ _ h'=>h'.elim)) fun _ _ h'=>h'.elim);cases ok with
  |false=>exact Zt ⟨rfl,h₃⟩
  |true=>
   exact Zp (Zp (ZM h₃ (fun x s₄ h₄=>Zp (ZM h₄ (fun _ s₅ h₅=>Zt (Zt ⟨rfl,h₅⟩)) fun _ _ h'=>h'.elim)) fun _ _ h'=>h'.elim))
def PIfs(X:Cx)(ifs:List Expr)(t:TT):Prop:=
 ∀(pins:List (Addr×Obj)) (s:Shared) (σ:L2.St) (H:Hp) (Q:Bool->Hp->Prop),Inv X pins σ H s->t σ H Q->
  wpAny (model X.prog X.w) X.A (forIn ifs true fun c r=>if r=true then do let ok ←isTrue c X.env (eval c X.env);pure (ForInStep.yield ok)else pure (ForInStep.yield r)) (TP X pins σ Q) X.xe s
def PY:TT:=fun _ H Q=>Q true H
def Us{X:Cx}:PIfs X [] PY:=fun _ _ _ H _ I h=>Zt ⟨H,I,h⟩
def JS{X:Cx}{c:Expr}{t:TT}(hc:PT X c t):PIfs X [c] t:=by
 intro pins s σ H Q I h;rw[List.forIn_cons];refine Zp ?_;rw[Z0 rfl];exact Zp (thn (hc pins s σ H Q I h) fun b s1 q=>Zt (Zt q))
def V2(φ:List (Option Nat))(wi:TI)(g:TG)(tc:TT)(te:TE):TE:=fun σ H Q=>wi σ H fun J H1=>∀D,H1 D=none->∃W:Nat->Nat->List V->Hp->Prop,(∃m,W 0 m [] (upd H1 D (.lst [])))/\
 ∀i m ys H2,W i m ys H2->(J.stop i H2/\Q (.ref D) H2)\/(J.go i H2/\∀x H3,J.yld i H2 x H3->g x (atStart φ σ) H3 fun σ2 H4=>Sub (atStart φ σ) σ2/\tc σ2 H4 fun b H5=>
  if b=true then te σ2 H5 fun y H6=>H6 D=some (.lst ys)/\ys.length<sizeLine/\∃m',m'<m/\W (i+1) m' (ys++[y]) (upd H6 D (.lst (ys++[y])))else ∃m',m'<m/\W (i+1) m' ys H5)
def Inv.weak {X:Cx}{pins:List (Addr×Obj)}{σ σ':L2.St}{H:Hp}{s:Shared} (I:Inv X pins σ' H s) (S:Sub σ σ'):Inv X pins σ H s:=
 ⟨I.ok,I.os,I.bare,I.base,let ⟨m,hn,hl⟩:=I.loc;⟨m,hn,fun i x v h1 h2 h3=>hl i x v h1 (S.2 i v h2) h3⟩,I.cell,I.free,I.freeC,I.pin,I.hok,by rw[←S.1];exact I.len⟩
def VI{φ:List (Option Nat)}{σ:L2.St}{i:Nat}{v:V}(h:(atStart φ σ)[i]?=some (some v)):∃j,φ[i]?=some (some j)/\σ[j]?=some (some v):=by
 unfold atStart at h;rw[Zz]at h;cases e:φ[i]? with
 |none=>rw[e]at h;cases h
 |some o=>
  rw[e]at h;cases o with
  |none=>simp at h
  |some j=>
   refine⟨j,rfl,?_⟩;simp at h;cases e2:σ[j]? with
   |none=>rw[e2]at h;simp at h
   |some w=>rw[e2]at h;simp at h;rw[h]
def CompEnd(X:Cx)(pins:List (Addr×Obj))(σ:L2.St)(Q:VK)(use:Option (Value->Sem Unit))(QQ:Value->Shared->Prop):Prop:=
 ∀(D C:Addr) (H5:Hp) (s6:Shared),Q (.ref D) H5->Inv X pins σ H5 s6->(∃m,s6.heap.Ns C m)->H5 C=none->C≠X.env.locals->X.s₀.heap.objs.size<=C->(∀x c,X.env.cells.lookup x=some c->c≠C)->(∀p∈X.pn++pins,p.1≠C)->C∉X.fs->
  compPost (model X.prog X.w) X.A X.xe use QQ (.ref D) C (.ok .next) s6
def Pp{X:Cx}{N':List Str}{φ:List (Option Nat)}{sc:Scope}{elt iter tg:Expr}{ifs:List Expr}{pos pos':Pos}{wi:TI}{g:TG}{tc:TT}{te:TE}{use:Option (Value->Sem Unit)}{QQ:Value->Shared->Prop}(hcalm:X.calm=true)(S:CompOk X N' φ sc)(hi:PI X tg iter wi)(hin:∀cl C s₃ H₃ ex,PG (WQ X N' sc cl C s₃ H₃ ex) tg g/\PIfs (WQ X N' sc cl C s₃ H₃ ex) ifs tc/\PE (WQ X N' sc cl C s₃ H₃ ex) elt te)(hs:∀x,foldedSetIterable iter X.env x=pure x){pins:List (Addr×Obj)}{s:Shared}{σ:L2.St}{H:Hp}{Q:VK}(I:Inv X pins σ H s)(h:V2 φ wi g tc te σ H Q)(fin:CompEnd X pins σ Q use QQ) :
  wpAny (model X.prog X.w) X.A (comprehension (.ListComp elt [⟨tg,iter,ifs,0⟩] sc pos) sc X.env pos' (newList []) false (eval iter X.env) use) QQ X.xe s:=by
 obtain⟨cl,hcl,p1,p3⟩:=JA (env:=X.env) (sc:=sc) fun x hx hf=>I.ok.has x.1 (.inl (S.frees x hx hf));refine wpAny_comprehension_free (use:=use) rfl hs hcl S.kind S.names ?_;refine thn (hi pins s σ H _ I h) fun v s1 h1=>thn h1 fun itv s2 h2=>?_;obtain⟨it,fp,tn,J,H2,e,I2,T,st2,f2,hR⟩:=h2;subst e;refine Ya ?_;have hf:H2 s2.heap.objs.size=none:=I2.hok.fresh (Zx _);obtain⟨W,⟨m0,w0⟩,turn⟩:=hR s2.heap.objs.size hf;generalize eD:s2.heap.objs.size=D at *
 have I3:Inv X pins σ (upd H2 D (.lst [])) {s2 with heap:=s2.heap.push {cls:=.type "list",dict:=none,data:=.seq ([]:List Value).toArray}}:=
  I2.laid (t':=s2.toks) (fun b u e=>Zr _ e) (Yo eD) ⟨ZZ _,[],0,.nil,by rw[←eD];exact Z3 _ rfl⟩
 have st3:tn 0 (s2.heap.push {cls:=.type "list",dict:=none,data:=.seq ([]:List Value).toArray}):=T.keep _ _ _ st2 fun b _ o e=>Zr _ e
 have hfpD:∀b∈fp,b≠D:=fun b hb z=>by
  obtain⟨o,ho,_⟩:=T.obj _ _ st2 b hb
  have:=Zv ho
  rw[z,←eD]at this;exact ZY _ this
 have f3:∀b∈fp,FpOk X pins (upd H2 D (.lst [])) b:=fun b hb=>⟨by rw[W7 (hfpD b hb)];exact(f2 b hb).1,(f2 b hb).2⟩;generalize es3:({s2 with heap:=s2.heap.push {cls:=.type "list",dict:=none,data:=.seq ([]:List Value).toArray}}:Shared)=s3 at *
 have st3':tn 0 s3.heap:=by rw[←es3];exact st3
 generalize eH3:upd H2 D (.lst [])=H3 at *;refine wpAny_newFunctionEnv S.nocell (by intro y hy;simp at hy) (fun h₁ hns₁ hsb₁=>?_) S.kind;have hh3:s3.heap=s2.heap.push {cls:=.type "list",dict:=none,data:=.seq ([]:List Value).toArray}:=by rw[←es3]
 rw[hh3]at hns₁ hsb₁;rw[←hh3]at hns₁ hsb₁;have old:∀b o,s3.heap.get? b=some o->h₁.get? b=some o:=fun b o e=>hsb₁.extBut b o (Z7 (Zv e)) (Zr _ e)
 have hC0:s3.heap.get? s3.heap.objs.size=none:=by
  cases e:s3.heap.get? s3.heap.objs.size with
  |none=>rfl
  |some o=>exact absurd (Zv e) (ZY _)
 generalize eC:s3.heap.objs.size=C at *;have hH3C:H3 C=none:=I3.hok.fresh (Yo eC)
 have OK:(WQ X N' sc cl C s3 H3 fp).Ok:=by
  refine⟨I.ok.mod,?_,I.ok.glob,I.ok.blt,Yo eC,fun x y c h1 h2=>I.ok.inj x y c (p1 x c h1) (p1 y c h2),?_,(fun x c hx=>by cases hx),I.ok.hd,I.ok.frames,.inl rfl,?_,I3.bs,Z8 I.ok.bsz I3.sz,?_,?_,I3.stack,I3.stkFree⟩
  ·exact S.kind
  ·intro x hx;have hx':(∃k,(x,k)∈sc.names/\(NameKind.cell=k\/k=.free))\/∃k,(x,k)∈sc.names/\(NameKind.free=k\/k=.free):=hx.imp Je Je
   have hfr:(x,NameKind.free)∈sc.names:=by
    rcases hx' with⟨k,hm,rfl|rfl⟩|⟨k,hm,rfl|rfl⟩
    ·exact absurd rfl (S.nocell _ hm)
    ·exact hm
    ·exact hm
    ·exact hm
   exact p3 _ hfr rfl
  ·intro b hb;refine⟨fun z=>?_,fun x c hx=>(f3 b hb).2.2.2.2.1 x c (p1 x c hx)⟩;obtain⟨o,ho,_⟩:=T.obj _ _ st3' b hb;have z':b=C:=z;rw[z',hC0]at ho;cases ho
  ·intro b o hb hx;obtain⟨_,_,_,q,_,_⟩:=f3 b hx;rcases q with q|q
   ·exact I.ok.noex b o hb q
   ·have:=Z5 (Zv hb) (Z8 I.ok.bsz q)
    exact ZY _ this
  ·intro b hb hz;rcases ZA.mp (I.stkSub b hz)with q|q
   ·exact(f3 b hb).2.1 q
   ·exact(f3 b hb).2.2.1 q
 have hlen0:(atStart φ σ).length=N'.length:=by unfold atStart;rw[Zs];exact S.len
 have I4:Inv (WQ X N' sc cl C s3 H3 fp) [] (atStart φ σ) H3 {s3 with heap:=h₁,toks:=s3.toks+([]:List (Str×Value)).length}:=by
  refine⟨OK,rfl,I3.bare,Un.kept old,⟨_,hns₁,fun i x v h1 h2 h3=>?_⟩,fun x c hx=>?_,hH3C,fun x c hx=>I3.freeC x c (p1 x c hx),fun p hp=>?_,I3.hok.kept old,hlen0⟩
  ·obtain⟨j,hj,hv⟩:=VI h2;obtain⟨hN,hfr⟩:=S.pick i x j h1 hj;obtain⟨m,_,hl⟩:=I3.loc;have hm:(x,NameKind.free)∈sc.names:=ZI hfr;have hcell:=S.frees _ hm rfl;obtain⟨u,ru,lk⟩:=hl j x v hN hv (.inr (.inl hcell));refine⟨u,ru,.inr ⟨.inl (JW S.okind hfr hcell),?_⟩⟩;obtain⟨c,hc⟩:=p3 _ hm rfl;rcases lk with⟨hk,_⟩|⟨_,c',hc',hcl'⟩
   ·have hk':X.env.scope.names.lookup x=some .local:=hk;rw[hcell]at hk';cases hk'
   ·have e:=p1 _ _ hc;rw[hc']at e;cases e
    obtain⟨o,ho,hd⟩:=hcl';exact⟨_,hc,o,old _ o ho,hd⟩
  ·obtain⟨v,hv⟩:=I3.cell x c (p1 x c hx);obtain⟨o,ho,hd⟩:=hv;exact⟨v,o,old _ o ho,hd⟩
  ·exact absurd hp (by simp[WQ])
 have st4:tn 0 h₁:=T.keep _ _ _ st3' fun b _ o e=>old b o e
 have stat:∀{H':Hp},(∀b∈fp,H' b=none)->∀b∈fp,FpOk (WQ X N' sc cl C s3 H3 fp) [] H' b:=fun hn b hb=>
  ⟨hn b hb,(OK.exf b hb).1,OK.exfs b hb,.inl hb,(OK.exf b hb).2,fun p hp=>absurd hp (by simp[WQ])⟩
 obtain⟨hPG,hPI,hPE⟩:=hin cl C s3 H3 fp
 have loop:codeAny (model X.prog X.w) X.A (.compLoop (.ListComp elt [⟨tg,iter,ifs,0⟩] sc pos) 0 (.ref it) (.ref D) (compEnvC sc cl C X.env)) (compPost (model X.prog X.w) X.A X.xe use QQ (.ref D) C) {s3 with heap:=h₁,toks:=s3.toks+([]:List (Str×Value)).length}:=by
  refine Ts (fun n s'=>∃i ys σ' H',Inv (WQ X N' sc cl C s3 H3 fp) [] σ' H' s'/\Sub (atStart φ σ) σ'/\tn i s'.heap/\(∀b∈fp,H' b=none)/\W i n ys H') ?_ m0 ⟨0,[],_,_,I4,Sub.refl,st4,fun b hb=>(f3 b hb).1,w0⟩;rintro n s5 ⟨i,ys,σ5,H5,I5,sub5,st5,fr5,w5⟩;have I5':=Own.Inv.weak I5 sub5;rcases turn i n ys H5 w5 with⟨stop,qn⟩|⟨go,step⟩
  ·refine thn (T.done (WQ X N' sc cl C s3 H3 fp) rfl rfl rfl hcalm i [] s5 _ H5 _ I5' (stat fr5) st5 stop) fun r s6 ⟨hr,I6⟩=>?_;subst hr;obtain⟨m,hn,_⟩:=I6.loc;obtain⟨hh,gg,dd,tt,oo⟩:=s6;obtain rfl:oo=s3.os:=I6.os;have R:Inv X pins σ H5 {s3 with heap:=hh,gens:=gg,drawn:=dd,toks:=tt}:=I3.call (ch:=fp) (h':=hh) (g':=gg) (d':=dd) (t':=tt) I6.base I6.hok I6.bare fun b hb=>⟨(f3 b hb).2.2.2.1,(f3 b hb).2.1,(f3 b hb).2.2.2.2.1,(f3 b hb).2.2.2.2.2⟩
   have hC3:s3.heap.objs.size<=C:=Yo eC;obtain⟨q0,q1,q2,q3,q4,q5⟩:=I3.fpOk (b:=C) (H':=H3) hC3 hH3C;refine fin D C H5 _ qn R ⟨m,hn⟩ I6.free q1 (Z8 I3.sz hC3) q4 q5 q2
  ·refine thn (T.item (WQ X N' sc cl C s3 H3 fp) rfl rfl rfl hcalm i [] s5 _ H5 _ I5' (stat fr5) st5 go) fun r s6 ⟨u,hr,h6⟩=>?_;subst hr;refine thn h6 fun _ s7 ⟨x,H7,I7,r7,y7,st7,fr7⟩=>?_;have I7':=I7.pinned (stat fr7) (T.obj _ _ st7);refine thn (hPG _ s7 _ H7 x u _ I7' r7 (step x H7 y7)) fun _ s8 ⟨σ8,H8,I8,sub8,q8⟩=>?_;refine thn (hPI _ s8 σ8 H8 _ I8 q8) fun ok s9 ⟨H9,I9,q9⟩=>?_
   have again:∀{s10:Shared} {H10:Hp} {ys':List V} {m':Nat},Inv (WQ X N' sc cl C s3 H3 fp) ([]++QY fp s7.heap) σ8 H10 s10->W (i+1) m' ys' H10->∃i ys σ' H',Inv (WQ X N' sc cl C s3 H3 fp) [] σ' H' s10/\Sub (atStart φ σ) σ'/\tn i s10.heap/\(∀b∈fp,H' b=none)/\W i m' ys H':=fun {s10 H10 ys' m'} J10 w10=>by
    refine⟨i+1,ys',σ8,H10,J10.unpinned,sub8,T.keep _ _ _ st7 fun b hb o e=>(J10.pin (b,o) (Z6 _ (Z6 _ (Vv hb e)))).1,fun b hb=>?_,w10⟩;obtain⟨o,e,d⟩:=T.obj _ _ st7 b hb;exact(J10.pin (b,o) (Z6 _ (Z6 _ (Vv hb e)))).2.1
   cases ok with
   |false=>
    obtain⟨m',hm,w'⟩:=q9;exact⟨m',hm,again I9 w'⟩
   |true=>
    refine thn (hPE _ s9 σ8 H9 _ I9 q9) fun xv s10 ⟨y,H10,I10,r10,hD,hl,m',hm,w'⟩=>?_;refine thn (V4 _ s10 σ8 H10 (.ref D) [y] (.ref D) [xv] (fun _ H11=>H11=upd H10 D (.lst (ys++[y]))) I10 rfl (.cons r10 .nil) ⟨D,ys,y,rfl,rfl,hD,hl,rfl⟩) fun _ s11 ⟨_,H11,I11,_,e11⟩=>?_;subst e11;exact⟨m',hm,again I11 w'⟩
 refine codeAny_compStart_list loop (T.self _ 0 _ _ _ st4 loop)
def Vu{X:Cx}{N':List Str}{φ:List (Option Nat)}{sc:Scope}{elt iter tg:Expr}{ifs:List Expr}{pos:Pos}{wi:TI}{g:TG}{tc:TT}{te:TE}(hcalm:X.calm=true)(S:CompOk X N' φ sc)(hi:PI X tg iter wi)(hin:∀cl C s₃ H₃ ex,PG (WQ X N' sc cl C s₃ H₃ ex) tg g/\PIfs (WQ X N' sc cl C s₃ H₃ ex) ifs tc/\PE (WQ X N' sc cl C s₃ H₃ ex) elt te)(hs:∀x,foldedSetIterable iter X.env x=pure x:=by intro _;rfl):PE X (.ListComp elt [⟨tg,iter,ifs,0⟩] sc pos) (V2 φ wi g tc te):=by
 intro pins s σ H Q I h;rw[eval_ListComp];refine Pp (use:=none) hcalm S hi hin hs I h fun D C H5 s6 q R hm c0 c1 c2 c3 c4 c5=>?_;obtain⟨m,hn⟩:=hm;exact⟨m,hn,fun h' sb=>⟨.ref D,H5,R.turned (it:=C) (t':=s6.toks) (fun b o hb e=>sb.extBut b o hb e) c0 c1 (.inr c2) c3 c4,rfl,q⟩⟩
def Xi(sc osc:Scope)(N N':List Str)(φ:List (Option Nat)):Bool:=
 sc.kind == .function&&osc.kind == .function&&(sc.names.all fun y=>y.2 != .cell&&(y.2 != .local || sc.names.lookup y.1==some .local)&&(y.2 != .free || osc.names.lookup y.1==some .cell)) &&
  φ.length==N'.length&&((N'.zip φ).all fun p=>match p.2 with|none=>true|some j=>N[j]? == some p.1&&sc.names.lookup p.1==some .free)
def CompOk.of {X:Cx}{N':List Str}{φ:List (Option Nat)}{sc:Scope} (h:Xi sc X.env.scope X.N N' φ=true):CompOk X N' φ sc:=by
 unfold Xi at h;simp only[ZO,beq_iff_eq,Ym,Bool.or_eq_true,bne_iff_ne,ne_eq]at h;obtain⟨⟨⟨⟨h1,h2⟩,h3⟩,h4⟩,h5⟩:=h;refine⟨h1,h2,fun y hy=>(h3 y hy).1.1,fun y hy hl=>?_,fun y hy hf=>?_,h4,fun i x j hi hj=>?_⟩
 ·rcases(h3 y hy).1.2 with z|z
  ·exact absurd hl z
  ·exact z
 ·rcases(h3 y hy).2 with z|z
  ·exact absurd hf z
  ·exact z
 ·have hz:(N'.zip φ)[i]?=some (x,some j):=by rw[List.getElem?_zip_eq_some];exact⟨hi,hj⟩
  have:=h5 _ (Yy hz)
  simpa using this
end Own
namespace SetR
open PySem PySem.Spec PyProof.Rows L2
def Ris(xs:Array Nat):Prop:=∀i j,i<j->j<xs.size->xs.getD i 0<xs.getD j 0
def JI{xs:Array Nat}{i a b:Nat}(h:i<xs.size):xs.getD i a=xs.getD i b:=by simp[Array.getD,h]
def Pq{xs:Array Nat}(R:Ris xs)(j:Nat):∀(fuel lo hi:Nat),hi-lo<=fuel->lo<=hi->hi<=xs.size->(∀k,k<lo->xs.getD k 0<j)->(∀k,hi<=k->k<xs.size->j<=xs.getD k 0)->
  let r:=SetTable.below.go xs j fuel lo hi
  r<=xs.size/\(∀k,k<r->xs.getD k 0<j)/\∀k,r<=k->k<xs.size->j<=xs.getD k 0:=by
 intro fuel
 induction fuel with
 |zero=>
  intro lo hi h1 h2 h3 h4 h5;have e:lo=hi:=by omega
  subst e;exact⟨h3,h4,h5⟩
 |succ fuel ih=>
  intro lo hi h1 h2 h3 h4 h5;show(let r:=(if lo<hi then(if xs.getD ((lo+hi) / 2) j<j then SetTable.below.go xs j fuel ((lo+hi) / 2+1) hi else SetTable.below.go xs j fuel lo ((lo+hi) / 2))else lo);r<=xs.size/\(∀k,k<r->xs.getD k 0<j)/\∀k,r<=k->k<xs.size->j<=xs.getD k 0);by_cases hl:lo<hi
  ·rw[Z0 hl];have hm:(lo+hi) / 2<xs.size:=by omega
   by_cases hc:xs.getD ((lo+hi) / 2) j<j
   ·rw[Z0 hc];refine ih _ _ (by omega) (by omega) h3 (fun k hk=>?_) h5;rw[JI (b:=0) hm]at hc;by_cases e:k=(lo+hi) / 2
    ·rw[e];exact hc
    ·exact Nat.lt_trans (R k _ (by omega) hm) hc
   ·rw[Z2 hc];refine ih _ _ (by omega) (by omega) (by omega) h4 (fun k hk hk2=>?_);rw[JI (b:=0) hm]at hc;by_cases e:k=(lo+hi) / 2
    ·rw[e];omega
    ·have:=R _ k (show(lo+hi) / 2<k by omega) hk2
     omega
  ·rw[Z2 hl];have e:lo=hi:=by omega
   subst e;exact⟨h3,h4,h5⟩
def UR{xs:Array Nat}(R:Ris xs)(j:Nat):SetTable.below xs j<=xs.size/\(∀k,k<SetTable.below xs j->xs.getD k 0<j)/\∀k,SetTable.below xs j<=k->k<xs.size->j<=xs.getD k 0:=
 Pq R j xs.size 0 xs.size (by omega) (by omega) (by omega) (fun k hk=>by omega) (fun k h1 h2=>by omega)
def Nq{xs:Array Nat}(R:Ris xs){i:Nat}(hi:i<=xs.size){slot:Nat}(h1:∀k,k<i->xs.getD k 0<slot)(h2:∀k,i<=k->k<xs.size->slot<=xs.getD k 0):SetTable.below xs slot=i:=by
 obtain⟨a,b,c⟩:=UR R slot;rcases Nat.lt_trichotomy (SetTable.below xs slot) i with h|h|h
 ·have:=c _ (Zx _) (by omega)
  have:=h1 _ h
  omega
 ·exact h
 ·have:=b i h
  have:=h2 i (Zx _) (by omega)
  omega
def Rise(xs:Array Nat):Prop:=xs.toList.Pairwise (· < ·)
def Rise.ris {xs:Array Nat} (h:Rise xs):Ris xs:=by
 intro i j hij hj;have hi:i<xs.size:=by omega
 have:=(YE.mp h) i j (by simpa using hi) (by simpa using hj) hij
 simpa [Array.getD,hi,hj]using this
def Pt{xs:Array Nat}{j:Nat}(h:Rise xs)(hn:xs[SetTable.below xs j]?≠some j):Rise (SetTable.insertAt xs (SetTable.below xs j) j):=by
 obtain⟨a,b,c⟩:=UR h.ris j;generalize SetTable.below xs j=p at *;unfold Rise;rw[SetTable.toList_insertAt];refine List.pairwise_append.mpr ⟨h.sublist (List.take_sublist _ _),List.pairwise_cons.mpr ⟨fun y hy=>?_,h.sublist (List.drop_sublist _ _)⟩,fun x hx y hy=>?_⟩
 ·obtain⟨k,hk,e⟩:=List.mem_drop_iff_getElem.mp hy
  have hk':p+k<xs.size:=by
   simp only[ZF]at hk;omega
  have h1:=c (p+k) (by omega) hk';have e':xs.getD (p+k) 0=y:=by simpa [Array.getD,hk']using e
  rw[e']at h1;rcases Nat.lt_or_ge j y with h2|h2
  ·exact h2
  ·have ey:y=j:=by omega
   exfalso;rcases Nat.eq_zero_or_pos k with rfl|hk0
   ·apply hn;rw[Yj (by omega)]
    have:xs[p]=y:=by simpa using e
    rw[this,ey]
   ·have h3:=h.ris p (p+k) (by omega) hk';have h4:=c p (Zx _) (by omega);omega
 ·have hx':x<j:=by
   obtain⟨k,hk,e⟩:=List.mem_take_iff_getElem.mp hx;have hk1:k<p:=by omega
   have hk2:k<xs.size:=by omega
   have:=b k hk1
   have e':xs.getD k 0=x:=by simpa [Array.getD,hk2]using e
   omega
  rcases ZA.mp hy with rfl|hy
  ·exact hx'
  ·obtain⟨k,hk,e⟩:=List.mem_drop_iff_getElem.mp hy
   have hk':p+k<xs.size:=by
    simp only[ZF]at hk;omega
   have h1:=c (p+k) (by omega) hk';have e':xs.getD (p+k) 0=y:=by simpa [Array.getD,hk']using e
   omega
structure Tb (b:Bool) (t:SetTable):Prop where
 led:t.led=b
 dum:t.dummies=#[]
 ris:Rise t.place
def JK(j:Nat):SetTable.has #[] j=false:=by
 unfold SetTable.has;simp
def Tb.fresh (b:Bool):Tb b (.fresh 0 0 b):=⟨rfl,rfl,List.Pairwise.nil⟩
def Na(n:Nat):Rise (Array.range n):=by
 unfold Rise;rw[Array.toList_range];exact YT
def Tb.stand {b:Bool}{t:SetTable} (h:Tb b t) (n:Nat):Tb b (t.standIn n):=⟨h.led,rfl,Na n⟩
def Tb.orStand {b:Bool}{t:SetTable} (h:Tb b t) (n:Nat):Tb b (t.orStandIn n):=by
 unfold SetTable.orStandIn;split
 ·exact h
 ·exact h.stand n
def Tb.plainOff {b:Bool}{t:SetTable} (h:Tb b t):Tb b {t with plain:=false}:=⟨h.led,h.dum,h.ris⟩
def Tb.put {b:Bool}{t:SetTable} (h:Tb b t) {j:Nat} (hn:t.place[SetTable.below t.place j]?≠some j):Tb b (t.put j).1:=by
 refine⟨h.led,?_,Pt h.ris hn⟩;show(if SetTable.has t.dummies j=true then _ else t.dummies)=#[];rw[h.dum,JK];rfl
def PL{b:Bool}{t:SetTable}(h:Tb b t)(f:Nat->Int)(z:Int):∀(fuel:Nat) (p:SetTable.Probe) (j:Nat) (d:Option Nat),p.dummy=none->SetTable.probe.go t f z fuel p=some (.empty j d)->d=none/\t.place[SetTable.below t.place j]?≠some j:=by
 intro fuel
 induction fuel with
 |zero=>intro p j d _ e;cases e
 |succ fuel ih=>
  intro p j d hp e;unfold SetTable.probe.go at e
  have hadv:∀q:SetTable.Probe,q.dummy=none->(t.advance q).dummy=none:=fun q hq=>by
   unfold SetTable.advance;split
   ·exact hq
   ·exact hq
  cases es:t.slot p.j with
  |empty=>
   rw[es]at e;have e':=Zw e;injection e' with e1 e2;subst e1;refine⟨e2.symm.trans hp,fun hz=>?_⟩;unfold SetTable.slot at es
   dsimp only at es
   rw[hz]at es;simp at es
  |dummy=>
   exfalso;unfold SetTable.slot at es
   dsimp only at es
   split at es
   ·cases es
   ·rw[h.dum,JK]at es;simp at es
  |live i=>
   rw[es]at e
   dsimp only at e
   split at e
   ·cases e
   ·exact ih _ j d (hadv p hp) e
def Tb.layNew {b:Bool}{t:SetTable} (h:Tb b t) (es:Array (Int×Value)) (z:Int) (x:Value):Tb b (PySem.layNew t es z x).2.1:=by
 unfold PySem.layNew;split
 ·rename_i slot wasDummy e
  have hn:t.place[SetTable.below t.place slot]?≠some slot:=by
   unfold SetTable.freeSlot SetTable.probe at e;split at e
   ·rename_i j dummy e';obtain⟨h1,h2⟩:=PL h _ _ _ _ _ _ rfl e';subst h1
    have:=Zw e
    have hj:j=slot:=ZN Prod.fst this;rw[←hj];exact h2
   ·cases e
  exact(h.put hn).orStand _
 ·exact h.stand _
def XJ(n:Nat)(f:Nat->Option Nat):((List.range n).filterMap fun j=>(f j).map (j,·)).Pairwise (fun a b=>a.1<b.1):=by
 refine List.Pairwise.filterMap _ ?_ YT;intro a a' haa b hb b' hb';cases e:f a with
 |none=>rw[e]at hb;cases hb
 |some v=>
  cases e':f a' with
  |none=>rw[e']at hb';cases hb'
  |some v'=>
   rw[e]at hb;rw[e']at hb';cases hb
   cases hb'
   exact haa
def Tb.relayAll {b:Bool}{t:SetTable} (h:Tb b t) (es:Array (Int×Value)) (n:Nat):Tb b (PySem.relayAll t es n).2.1:=by
 unfold PySem.relayAll;split
 ·rename_i t' order e
  dsimp only
  split
  ·unfold SetTable.relaid SetTable.laid at e;cases e2:SetTable.layClean (SetTable.sizeAbove n-1) (es.map (·.1))with
   |none=>rw[e2]at e;cases e
   |some owner=>
    rw[e2]at e;have e':=ZN Prod.fst (Zw e);subst e';refine⟨h.led,rfl,?_⟩;show(List.map (fun x:Nat×Nat=>x.fst) ((List.range (SetTable.sizeAbove n-1+1)).filterMap fun j=>(owner.getD j none).map (j,·))).toArray.toList.Pairwise (· < ·);rw[List.toList_toArray,List.pairwise_map];exact XJ _ _
  ·exact h.stand _
 ·exact h.stand _
def keyOf(e:Int×Value):Int:=match e.2 with
 | .int k _=>k
 |_=>0
def Ent(e:Int×Value):Prop:=∃(k:Int) (t:Tok),e=(hashInt k,.int k t)
section
variable (prog:Program) (w:World)
def WX(w:World):Bool:=w.params.followText "set-order"
structure SetAt (h:Heap) (a:Addr) (js:List Int) (es:Array (Int×Value)) (ep:Nat) (t:SetTable):Prop where
 obj:∃o,h.get? a=some o/\o.ExactSet/\o.data=.set es ep t
 ent:∀e∈es.toList,Ent e
 per:(es.toList.map keyOf).Perm js
 nod:js.Nodup
 few:es.size<scanBound
 fit:t.fits es.size=true
 tab:Tb (!WX w) t
def SetB(h:Heap)(a:Addr)(js:List Int):Prop:=∃es ep t,SetAt w h a js es ep t
end
section
variable {prog:Program}{w:World}{A:Around}{E:Value->Shared->Prop}{s:Shared}
def Ent.elems {l:List (Int×Value)} (h:∀e∈l,Ent e):ElemsOf (intKind prog w) l:=fun e he=>by
 obtain⟨k,t,rfl⟩:=h e he;exact⟨⟨k,intKind_is _ _ _ _,rfl⟩,rfl⟩
def JL{e:Int×Value}(h:Ent e)(k:Int):(intKind prog w).is k e.2=decide (k=keyOf e):=by
 obtain⟨k',t,rfl⟩:=h;show Value.isInt k (.int k' t)=decide (k=k');by_cases e:k=k'
 ·subst e;simp[Value.isInt]
 ·rw[Z9 e];simp[Value.isInt];exact fun z=>e z.symm
def SetB.len {h:Heap}{a:Addr}{js:List Int}{es:Array (Int×Value)}{ep:Nat}{t:SetTable} (S:SetAt w h a js es ep t):es.size=js.length:=by
 have:=S.per.length_eq
 simpa using this
def SetB.at {h h':Heap}{a:Addr}{js:List Int} (S:SetB w h a js) (k:∀o,h.get? a=some o->h'.get? a=some o):SetB w h' a js:=by
 obtain⟨es,ep,t,⟨o,ho,r⟩,b,c,d,e,f,g⟩:=S;exact⟨es,ep,t,⟨o,k o ho,r⟩,b,c,d,e,f,g⟩
def SetAt.store {h:Heap}{a:Addr}{js js':List Int}{es es':Array (Int×Value)}{ep:Nat}{t t':SetTable} (S:SetAt w h a js es ep t) (h1:∀e∈es'.toList,Ent e) (h2:(es'.toList.map keyOf).Perm js') (h3:js'.Nodup) (h4:es'.size<scanBound)
  (h5:t'.fits es'.size=true) (h6:Tb (!WX w) t'):SetAt w (h.update a (Obj.putSet es' t')) a js' es' (ep+1) t':=by
 obtain⟨o,ho,hx,hd⟩:=S.obj;refine⟨⟨{o with data:=.set es' (ep+1) t'},?_,hx,rfl⟩,h1,h2,h3,h4,h5,h6⟩
 have q:=ZR (Obj.putSet es' t') ho (by rw[putSet_of es' t' hd];rfl);rwa[putSet_of es' t' hd]at q
def UX{g:Bool->Sem Unit}(hg:∀(b:Bool) (s':Shared) (R':Unit->Shared->Prop),R' () s'->wpAny (model prog w) A (g b) R' E s'){a:Addr}{js js':List Int}{es es':Array (Int×Value)}{ep:Nat}{t t':SetTable}(S:SetAt w s.heap a js es ep t)(h1:∀e∈es'.toList,Ent e)(h2:(es'.toList.map keyOf).Perm js')(h3:js'.Nodup)(h4:es'.size<scanBound)(h5:t'.fits es'.size=true)(h6:Tb (!WX w) t'){d:Bool}{R:Option Bool->Shared->Prop}(fin:∀h',Heap.SameBut a s.heap h'->SetB w h' a js'->R (some true) {s with heap:=h'}) :
  wpAny (model prog w) A (do
    storeSet a es' t'
    if (!d&&t'.tooFull)=true then do
      g (relayAll t' es' (SetTable.grown es'.size)).2.2
      storeSet a (relayAll t' es' (SetTable.grown es'.size)).1 (relayAll t' es' (SetTable.grown es'.size)).2.1
      pure (some true)
     else pure (some true)) R E s:=by
 obtain⟨o,ho,hx,hd⟩:=S.obj;have S1:=S.store h1 h2 h3 h4 h5 h6;obtain⟨o1,ho1,hx1,hd1⟩:=S1.obj;have B1:=ZG s.heap a (Obj.putSet es' t');refine Zp (wpAny_storeSet_of ho hd ?_ (YO h4));split
 ·have pp:=relayAll_perm t' es' (SetTable.grown es'.size);have ff:=relayAll_fits t' es' (SetTable.grown es'.size);have tt:=h6.relayAll es' (SetTable.grown es'.size);generalize relayAll t' es' (SetTable.grown es'.size)=y at pp ff tt ⊢;obtain⟨es2,t2,g2⟩:=y
  dsimp only at pp ff tt ⊢
  have z:es2.size=es'.size:=by rw[←ZF,pp.length_eq,ZF]
  refine Zp (hg _ _ _ (Zp (wpAny_storeSet_of ho1 hd1 ?_ (YO (by rw[z];exact h4)))));exact Zt (fin _ (B1.trans (ZG _ a _)) ⟨_,_,_,S1.store (fun e he=>h1 e (pp.mem_iff.mp he)) ((pp.map keyOf).trans h2) h3 (by rw[z];exact h4) ff tt⟩)
 ·exact Zt (fin _ B1 ⟨_,_,_,S1⟩)
def addJ(js:List Int)(k:Int):List Int:=if k∈js then js else js++[k]
def K0{a:Addr}{js:List Int}{k:Int}{tk:Tok}{R:Bool->Shared->Prop}(S:SetB w s.heap a js)(room:js.length+1<scanBound)(fin:∀(r:Bool) h',Heap.SameBut a s.heap h'->SetB w h' a (addJ js k)->R r {s with heap:=h'}) :
  wpAny (model prog w) A (setAddHashed a (.int k tk) (hashInt k)) R E s:=by
 obtain⟨es,ep,t,S⟩:=S;obtain⟨o,ho,hx,hd⟩:=S.obj;have el:=Ent.elems (prog:=prog) (w:=w) S.ent;have hz:es.size=js.length:=SetB.len S;unfold setAddHashed setAddHashedIn;refine Yv (Zp (Yx ho hd S.fit ?_))
 dsimp only
 rw[byScan_of (x:=.int k tk) rfl S.few el];simp only[↓reduceIte];unfold setAddByScan;refine Zp (Zp (Wd (Zp (wpAny_setScan_of (knd:=intKind prog w) (k:=k) (intKind_is _ _ _ _) ho hd S.fit el ?_))));have mem:∀z:Int,z∈js↔∃e∈es.toList,keyOf e=z:=fun z=>by rw[←S.per.mem_iff,Wn]
 cases q:List.findIdx? (fun e=>(intKind prog w).is k e.2) es.toList with
 |some j=>
  dsimp only
  obtain⟨hj,pj,_⟩:=List.findIdx?_eq_some_iff_getElem.mp q
  have hk:k∈js:=by
   rw[JL (S.ent _ (ZV hj))]at pj;exact(mem k).mpr ⟨_,ZV hj,(Yk pj).symm⟩
  refine Zt (Zt ?_);have f:=fin false s.heap (Heap.SameBut.refl a s.heap);unfold addJ at f;rw[Z0 hk]at f;exact f ⟨_,_,_,S⟩
 |none=>
  dsimp only
  have hk:¬k∈js:=fun hz=>by
   obtain⟨e,he,hke⟩:=(mem k).mp hz
   have:=List.findIdx?_eq_none_iff.mp q e he
   rw[JL (S.ent e he),ZC hke.symm]at this;cases this
  have P:=layNew_perm t es (hashInt k) (.int k tk);have F:=layNew_fits t es (hashInt k) (.int k tk);have T:=S.tab.layNew es (hashInt k) (.int k tk);change wpAny (model prog w) A (match layNew t es (hashInt k) (.int k tk)with|(es,t,wasDummy,gave)=>_) _ _ _
  generalize layNew t es (hashInt k) (.int k tk)=y at P F T ⊢;obtain⟨es1,t1,d1,g1⟩:=y
  dsimp only at P F T ⊢
  rw[Array.toList_push]at P
  have e1:∀e∈es1.toList,Ent e:=fun e he=>by
   rcases Yq.mp (P.mem_iff.mp he)with he|he
   ·exact S.ent e he
   ·rw[Z4.mp he];exact⟨k,tk,rfl⟩
  have e2:(es1.toList.map keyOf).Perm (js++[k]):=by
   refine(P.map keyOf).trans ?_;rw[YF];exact S.per.append_right _
  have e3:(js++[k]).Nodup:=List.nodup_append.mpr ⟨S.nod,by simp,fun x hx y hy=>by rw[Z4.mp hy];rintro rfl;exact hk hx⟩
  have e4:es1.size<scanBound:=by
   rw[←ZF,P.length_eq,Yn,ZF,hz];exact room
  have fin':∀h',Heap.SameBut a s.heap h'->SetB w h' a (js++[k])->R true {s with heap:=h'}:=fun h' sb q'=>by
   have f:=fin true h' sb;unfold addJ at f;rw[Z2 hk]at f;exact f q'
  have gw:∀(b:Bool) {s':Shared} {R':Unit->Shared->Prop},R' () s'->wpAny (model prog w) A (match b with|true=>rule "set.scan.the-table-gave-way" |false=>pure ()) R' E s':=fun b s' R' r'=>by cases b<;>first|exact Zt r'|exact Wd r'
  refine Zp (gw _ ?_);split
  ·refine Zp ?_;rw[hashByValue_scannable 8 (x:=.int k tk) rfl];refine Zt (UX (fun b s' R' r'=>gw b r') S e1 e2 e3 e4 ?_ ?_ fun h' sb q'=>Zt (fin' h' sb q'))
   ·split
    ·exact F
    ·exact SetTable.fits_plain_off F
   ·split
    ·exact T
    ·exact T.plainOff
  ·refine Zp (Zt ?_);simp only[↓reduceIte];exact UX (fun b s' R' r'=>gw b r') S e1 e2 e3 e4 F T fun h' sb q'=>Zt (fin' h' sb q')
def NV{R:Result->Shared->Prop}{I:Addr}{fp wr:List Addr}{P:Nat->Value->Prop}{St:Nat->Heap->Prop}{ns:List Int}(W:Walks prog w A.in1 I fp wr ns.length P St)(S:Addr)(hS:S∉fp)(hv:∀i v,P i v->∃t,v=.int (ns.getD i 0) t)(room:ns.length+1<scanBound):∀(k i:Nat) (s:Shared) (js:List Int),ns.length-i=k->i<=ns.length->St i s.heap->SetB w s.heap S js->js.length<=i->
   (∀h' tk,(∀b o,b∉S::wr->s.heap.get? b=some o->h'.get? b=some o)->SetB w h' S ((ns.drop i).foldl addJ js)->R (.ok (.ret .none)) {s with heap:=h',toks:=tk})->
   codeAny (model prog w) A (.builtin "set.update.loop" ⟨[.ref S,.ref I],[]⟩) R s:=by
 have hSw:S∉wr:=fun z=>hS (W.sub _ z);intro k
 induction k with
 |zero=>
  intro i s js hk hi st B hj fin;have ei:i=ns.length:=by omega
  refine Y3 YL ?_;rw[Yz Yp _];show wpAny _ A.in1 (pyNext (.ref I) >>= _) _ _ s;refine Zp (W.done s _ _ (ei▸st) fun h' tk keep=>?_);show wpAny _ A.in1 (ret Value.none) _ _ _;refine Zt (fin h' tk (fun b o hb e=>keep b o (fun z=>hb (ZE _ z)) e) ?_);rw[ei,List.drop_length];exact B.at fun o e=>keep S o hSw e
 |succ k ih=>
  intro i s js hk hi st B hj fin;have hlt:i<ns.length:=by omega
  refine Y3 YL ?_;rw[Yz Yp _];show wpAny _ A.in1 (pyNext (.ref I) >>= _) _ _ s;refine Zp (W.item i s _ _ hlt st fun v h1 tk1 pv st1 keep1=>?_);obtain⟨t,rfl⟩:=hv i v pv;have B1:SetB w h1 S js:=B.at fun o e=>keep1 S o hSw e;show wpAny _ A.in1 (holding [Value.int (ns.getD i 0) t] (setAdd S (.int (ns.getD i 0) t)) >>= _) _ _ _;unfold setAdd;refine Zp (Yv (Yv (Zp ((intKind prog w).pyHash (k:=ns.getD i 0) (intKind_is _ _ _ _) ?_))));refine K0 (k:=ns.getD i 0) B1 (by omega) fun r h2 sb B2=>?_
  have el:(addJ js (ns.getD i 0)).length<=i+1:=by
   unfold addJ;split
   ·omega
   ·simp;omega
  refine Zt ⟨YU Yp _,ih (i+1) _ _ (by omega) hlt (W.frame _ h1 _ st1 fun b hb o e=>?_) B2 el fun h' tk keep B'=>?_⟩
  ·rw[sb.2 b (fun z:b=S=>hS (by rw[←z];exact hb))];exact e
  ·refine fin h' tk (fun b o hb e=>keep b o hb ?_) ?_
   ·rw[sb.2 b (fun z:b=S=>hb (by rw[z];exact ZL))];exact keep1 b o (fun z=>hb (ZE _ z)) e
   ·have e1:ns.drop i=ns.getD i 0::ns.drop (i+1):=by
     rw[List.drop_eq_getElem_cons hlt,Zu,Zq hlt];rfl
    rw[e1];exact B'
def TK(a:Value){Q:Value->Shared->Prop}(fin:Q (.ref s.heap.objs.size) {s with heap:=s.heap.push {cls:=.type "set",dict:=none,data:=.set #[] 0 (.fresh 0 0 (!WX w))}}) :
  codeAny (model prog w) A (.call (.builtin "set.__new__") ⟨[.type "set",a],[]⟩) (wants Q E) s:=by
 refine codeAny_of_tree (show wpAny _ A.in1 (do checkBuiltinCall "set.__new__" ⟨[.type "set",a],[]⟩;again (.builtin "set.__new__" ⟨[.type "set",a],[]⟩)) _ _ s from ?_)
 refine Zp (wpAny_of_eq (F.newCall_set_1 a) (Zt ⟨YU F.plain_set_new _,Y3 F.entry_set_new ?_⟩));have und:=Yz (A:=A) F.plain_set_new ⟨[.type "set",a],[]⟩;rw[und];unfold Builtin.«set.__new__» Builtin.Frozenset.newClass;have q1:=sub_set_self;obtain⟨hh,gg,dd,tt,oo⟩:=s
 dsimp only
 wp_walk
 refine wpAny_askSetting (Zt (show wpAny _ _ _ _ _ _ from ?_))
 dsimp only
 simp only[newObj];exact Zp (wpAny_alloc (Zt (Zt fin)))
set_option maxHeartbeats 4000000 in
def NT{l:Addr}{its:Array Value}{ns:List Int}{Q:Value->Shared->Prop}(hh:A.handled=none)(hl:s.heap.IsList l its)(hi:IntsAre its.toList ns)(room:ns.length+1<scanBound)(fin:∀(h':Heap) (tk:Nat),SetB w h' s.heap.objs.size (ns.foldl addJ [])->(∀b o,b<s.heap.objs.size->s.heap.get? b=some o->h'.get? b=some o)->Q (.ref s.heap.objs.size) {s with heap:=h',toks:=tk}) :
  wpAny (model prog w) A (call (.type "set") [.ref l]) Q E s:=by
 have hn:its.size=ns.length:=by have:=IntsAre.length hi;simpa using this
 obtain⟨mroC,mroT,mro⟩:=F.called_set.mro;have made:=F.called_set.made;have subs:=F.called_set.sub;refine wpAny_call (codeAny_of_tree (show wpAny _ _ (callAny (.type "set") _) _ _ _ from ?_))
 refine Zt ⟨Code.quiet_builtin _ (by decide +kernel),Y3 F.entry_type_call ?_⟩;have wt:=Around.under_plain (A:=A) (weight_type_call_type "set" [.ref l] []) rfl;rw[wt];have nt:=F.called_set.notType;have cc:=F.called_set.canCreate;have tc:=F.typeCall_set_1 (.ref l)
 repeat (any_goals (first|assumption|wp_step))
 refine YK (TK (.ref l) (E:=E) (Q:=fun obj s1=>obj=.ref s.heap.objs.size/\s1={s with heap:=s.heap.push {cls:=.type "set",dict:=none,data:=.set #[] 0 (.fresh 0 0 (!WX w))}}) ⟨rfl,rfl⟩) fun r s1 hr=>?_
 cases r with
 |error e=>exact hr
 |ok fl=>
  cases fl with
  |next=>exact hr.elim
  |brk=>exact hr.elim
  |cont=>exact hr.elim
  |ret obj=>
   obtain⟨rfl,rfl⟩:=hr;generalize eH:s.heap.push {cls:=.type "set",dict:=none,data:=.set #[] 0 (.fresh 0 0 (!WX w))}=H1;have g1:H1.get? s.heap.objs.size=some {cls:=.type "set",dict:=none,data:=.set #[] 0 (.fresh 0 0 (!WX w))}:=by rw[←eH];exact Z3 _ rfl
   have hT:Shared.TypeIs {s with heap:=H1} (.ref s.heap.objs.size) "set":=⟨_,g1,rfl⟩
   have ini:=F.called_set.init.lookup;have inb:=F.called_set.init.bind (.ref s.heap.objs.size)
   repeat (any_goals (first|assumption|wp_step))
   refine YK (codeAny_call_builtin (R:=wants (fun r s2=>r=.none/\∃h' tk,s2={s with heap:=h',toks:=tk}/\SetB w h' s.heap.objs.size (ns.foldl addJ [])/\(∀b o,b<s.heap.objs.size->s.heap.get? b=some o->h'.get? b=some o)) E)
    F.called_set.init.plain F.entry_set_init (check_set_init_1 hT ?_)) fun r2 s2 hr2=>?_
   ·obtain⟨ob,hob,hcl,nl,hdl⟩:=hl;obtain⟨c1,d1,dt1,sl1⟩:=ob;simp only at hcl hdl;subst hcl;subst hdl;have hob1:H1.get? l=some {cls:=.type "list",dict:=d1,data:=.seq its nl,slots:=sl1}:=by rw[←eH];exact Zr _ hob
    have sz1:H1.objs.size=s.heap.objs.size+1:=by rw[←eH,Heap.size_push]
    have no1:=F.sub_list_set;have no2:=F.sub_list_frozenset;have no3:(Value.type "list" == Value.type "dict")=false:=by decide
    have L1:H1.IsList l its:=⟨_,hob1,rfl,nl,rfl⟩;unfold Builtin.«set.__init__» noKeywords Builtin.Frozenset.updateFrom;generalize eP:pyIter=PI
    wp_walk
    subst eP;refine wpAny_pyIter_list L1 (Zp (wpAny_runValue ?_));have lt1:l<s.heap.objs.size:=Zv hob;have hd3:A.in1.in1.in1.handled=none:=by simp[hh]
    have ne1:l≠H1.objs.size:=by rw[sz1];exact Z7 (YQ lt1)
    have no4:s.heap.objs.size∉[H1.objs.size,l]:=by
     rw[sz1];simp only[ZA,YW,or_false,not_or];exact⟨Z7 (Nat.lt_succ_self _),Wm lt1⟩
    have W0:=Walks.list (prog:=prog) (w:=w) hd3 H1.objs.size l ne1 its;rw[hn]at W0;refine NV (ns:=ns) W0 s.heap.objs.size no4 (fun i v hv=>IntsAre.int_at hi i v (by rw[ZJ];exact hv)) room (ns.length-0) 0 _ [] rfl (ZZ _) ⟨⟨_,Z3 _ rfl,rfl,rfl⟩,L1.push _⟩ ?_ (ZZ _) fun h' tk keep B=>?_
    ·exact⟨#[],0,_,⟨_,Zr _ g1,⟨rfl,rfl,rfl⟩,rfl⟩,fun e he=>by simp at he,by simp,List.nodup_nil,by show(0:Nat)<4096;decide,rfl,Tb.fresh _⟩
    ·show wpAny _ _ _ _ _ _;refine Zt (show wpAny _ _ (ret Value.none) _ _ _ from Zt ⟨rfl,h',tk,rfl,B,fun b o hb e=>?_⟩)
     refine keep b o ?_ (Zr _ (by rw[←eH];exact Zr _ e));rw[sz1];simp only[ZA,YW,or_false,not_or];exact⟨Z7 hb,Z7 (YQ hb)⟩
   ·cases r2 with
    |error e=>exact hr2
    |ok f2=>
     cases f2 with
     |next=>exact hr2.elim
     |brk=>exact hr2.elim
     |cont=>exact hr2.elim
     |ret r=>
      obtain⟨rfl,h',tk,rfl,B,keep⟩:=hr2
      repeat (any_goals (first|assumption|wp_step))
      exact fin _ _ B keep
end
def si_slot:Slot "set_iterator" "__next__" "set_iterator.__next__":=
 Slot.of (owner:="set_iterator") (n:="__next__") (by rw[typeLookup_type,builtinLookup_eq_fast];kernel_rfl) (by decide +kernel) (by decide +kernel) (by decide +kernel)
  (by first|exact Or.inl (by decide +kernel)|exact Or.inr (by decide +kernel)) (by rw[isSubtype_type];kernel_rfl)
def Kh:entryFor table "set_iterator.__next__"=some Builtin.«set_iterator.__next__»:=entryFor_of_tree (by kernel_rfl)
def NQ(a:Value):argsOk "set_iterator.__next__" ⟨[a],[]⟩:=by unfold argsOk;kernel_rfl
def Py:entryFor table "set.__iter__"=some Builtin.«frozenset.__iter__»:=entryFor_alias (id':="frozenset.__iter__") (by kernel_rfl) rfl (by decide +kernel) (by kernel_rfl)
def Jr:Slot "set_iterator" "__iter__" "set_iterator.__iter__":=
 Slot.of (owner:="set_iterator") (n:="__iter__") (by rw[typeLookup_type,builtinLookup_eq_fast];kernel_rfl) (by decide +kernel) (by decide +kernel) (by decide +kernel)
  (by first|exact Or.inl (by decide +kernel)|exact Or.inr (by decide +kernel)) (by rw[isSubtype_type];kernel_rfl)
def XQ:entryFor table "set_iterator.__iter__"=some Builtin.«dict_keyiterator.__iter__»:=entryFor_alias (id':="dict_keyiterator.__iter__") (by kernel_rfl) rfl (by decide +kernel) (by kernel_rfl)
def Px(a:Value):argsOk "set_iterator.__iter__" ⟨[a],[]⟩:=by unfold argsOk;kernel_rfl
def SI(h:Heap)(I a:Addr)(first:Value)(i n ep:Nat):Prop:=∃o,h.get? I=some o/\o.cls=.type "set_iterator"/\o.data=.fields #[first,.int i 0,.ref a,.int n 0,.int ep 0]
section
variable {prog:Program}{w:World}{A:Around}{E:Value->Shared->Prop}{s:Shared}{I a:Addr}{first:Value}{i n ep:Nat}{js:List Int}{es:Array (Int×Value)}{t:SetTable}
def SI.typ (h:SI s.heap I a first i n ep):s.TypeIs (.ref I) "set_iterator":=let ⟨o,ho,hc,_⟩:=h;⟨o,ho,hc⟩
def SI.at {h h':Heap} (x:SI h I a first i n ep) (k:∀o,h.get? I=some o->h'.get? I=some o):SI h' I a first i n ep:=let ⟨o,ho,r⟩:=x;⟨o,k o ho,r⟩
def QJ(first:Value)(a I:Addr)(i ep:Int):Sem PySem.Fin:=
 match first with
 |Value.int slot _=>do
  match ←setNext a slot.toNat i.toNat ep.toNat with
  |some (x,next)=>
   setField (.ref I) 0 (rawInt next)
   setField (.ref I) 1 (rawInt (i+1))
   ret x
  |none=>
   setField (.ref I) 2 .none
   raiseNew (←newExc (.type "StopIteration") [])
 |_=>do
  let some places ←seqItems? first|unsupported "internal:set_iterator"
  match places[i.toNat]? with
  |some (.int place _)=>
   let x ←setNextDrawn a place.toNat ep.toNat
   setField (.ref I) 1 (rawInt (i+1))
   ret x
  |some _=>unsupported "internal:set_iterator"
  |none=>
   setField (.ref I) 0 (rawInt 0)
   setField (.ref I) 2 .none
   raiseNew (←newExc (.type "StopIteration") [])
def Vx{Q:Option Value->Shared->Prop}(hit:SI s.heap I a first i es.size ep)(S:SetAt w s.heap a js es ep t)
  (body:wpAny (model prog w) A.in1 (QJ first a I i ep) (fun fin s'=>∃v,fin=.done (.ret v)/\Q (some v) s')
   (fun e s'=>wpAny (model prog w) A (isInstance e (.type "StopIteration")) (fun b s''=>b=true/\Q none s'') E s') s) :
  wpAny (model prog w) A (pyNext (.ref I)) Q E s:=by
 obtain⟨o,ho,hc,hd⟩:=id hit;obtain⟨ob,hob,hx,hdd⟩:=S.obj;unfold pyNext;refine Zp (wpAny_attempt (wpAny_callSpecial?_slot (name:=Str.ofString "__next__") hit.typ si_slot (YX si_slot hit.typ Kh ?_ (NQ _))));unfold Builtin.«set_iterator.__next__»;refine Zp (Zt (Zp (wpAny_fieldsOf ho hd ?_)));show wpAny _ _ (setEntries a >>= fun x=>if ((x.size:Int) != (es.size:Int))=true then _ else QJ first a I i ep) _ _ s
 refine Zp (wpAny_setEntries_of hob hdd S.fit ?_);rw[Z2 (by simp)];refine ZM body (fun fin s' h=>?_) fun e s' h=>?_
 ·obtain⟨v,e,q⟩:=h;exact⟨v,e,Zt q⟩
 ·refine Zp (ZM h (fun b s'' h2=>?_) fun _ _ z=>z);obtain⟨rfl,q⟩:=h2;exact Zt q
def Uk{Q:Option Value->Shared->Prop}{o:Obj}{vs:Array Value}(hh:A.handled=none)(ho:s.heap.get? I=some o)(hd:o.data=.fields vs)(h2:2<vs.size)(fin:∀h',Heap.ExtBut I s.heap h'->Q none {s with heap:=h'}){R:PySem.Fin->Shared->Prop} :
  wpAny (model prog w) A.in1 (do setField (.ref I) 2 .none;raiseNew (←newExc (.type "StopIteration") [])) R (fun e s'=>wpAny (model prog w) A (isInstance e (.type "StopIteration")) (fun b s''=>b=true/\Q none s'') E s') s:=by
 refine Zp (Y0 ho hd h2 (Zp ?_));simp only[newExc,newTuple];refine Zp (Ya ?_ (by size_fits));refine Zp (m:=firstArgMember _ _) (wpAny_of_eq (a:=Value.none) (by first|rfl|(simp only[firstArgMember];rfl)) (Ya ?_ (by size_fits)))
 simp only[raiseNew];refine Zp (wpAny_handled ?_);have e1:A.in1.handled=none:=hh;rw[e1];refine Zp (Zt (wpAny_throw ?_));refine wpAny_isInstance (T:="StopIteration") (b:=true) ⟨_,Z3 _ rfl,rfl⟩ isSubtype_stop ?_;exact⟨rfl,fin _ (((ZG ..).extBut.push _).push _)⟩
def SI.step1 {o:Obj}{x:Value} (ho:s.heap.get? I=some o) (hc:o.cls=.type "set_iterator") (hd:o.data=.fields #[first,.int i 0,.ref a,.int n 0,.int ep 0]) :
  SI (s.heap.update I (Obj.mapFields (·.setIfInBounds 1 (rawInt ((i:Int)+1))))) I a first (i+1) n ep:=
 ⟨_,ZR _ ho (Ys (ZW hd _)),(Obj.cls_mapFields ..).trans hc,by rw[ZW hd];simp[rawInt]⟩
def Ve{Q:Bool->Shared->Prop}(h:Q (WX w) s):wpAny (model prog w) A setsByText Q E s:=by
 unfold setsByText;exact Zp (wpAny_askSetting (Zt h))
def NP{Q:Option (Value×Nat)->Shared->Prop}{slot:Nat}(S:SetAt w s.heap a js es ep t)(hb:WX w=true)(h:Q (((pickOrder (w.params.setOrder a ep) es)[i]?).map fun e=>(e.2,slot)) s) :
  wpAny (model prog w) A (setNext a slot i ep) Q E s:=by
 obtain⟨ob,hob,hx,hdd⟩:=S.obj;unfold setNext;refine Zp (Yx hob hdd S.fit (Zp (Ve ?_)));rw[hb,Z0 rfl]
 dsimp only
 rw[Z2 (by simp)];refine Zp ?_;unfold setWalk;refine Zp (Yx hob hdd S.fit (Zp (Ve ?_)));rw[hb,Z0 rfl];exact Zp (wpAny_askSetting (Zt (Zt h)))
def KL{Q:Option (Value×Nat)->Shared->Prop}{slot:Nat}(S:SetAt w s.heap a js es ep t)(hb:WX w=false)(hp:(!t.plain&&decide (es.size>1))=false)(h:Q (match es[SetTable.below t.place slot]?,t.place[SetTable.below t.place slot]? with|some (_,x),some j=>some (x,j+1)|_,_=>none) s):wpAny (model prog w) A (setNext a slot i ep) Q E s:=by
 obtain⟨ob,hob,hx,hdd⟩:=S.obj;unfold setNext;refine Zp (Yx hob hdd S.fit (Zp (Ve ?_)));rw[hb,Z2 (by decide)]
 dsimp only
 show wpAny _ _ (if (!t.plain&&decide (es.size>1))=true then _ else _) _ _ _;rw[hp,Z2 (by decide)];refine Zp (?_:wpAny _ _ (if (!t.led && !es.isEmpty)=true then unsupported "set:maker-not-led" else pure ()) _ _ _);have hl:t.led=true:=by rw[S.tab.led,hb];rfl
 rw[hl,Z2 (by simp)];exact Zt (Zt h)
def Kr{Q:Value->Shared->Prop}{p:Nat}{e:Int×Value}(S:SetAt w s.heap a js es ep t)(he:es[p]?=some e)(h:Q e.2 s):wpAny (model prog w) A (setNextDrawn a p ep) Q E s:=by
 obtain⟨ob,hob,hx,hdd⟩:=S.obj;unfold setNextDrawn;refine Zp (Yx hob hdd S.fit ?_)
 dsimp only
 rw[Z2 (by simp),he];exact Zt h
def TU{Q:Nat->Shared->Prop}{src:Source}{m:Nat}(hm:m≠0)(h:∀k d,k<m->Q k {s with drawn:=d}):wpAny (model prog w) A (choose src m) Q E s:=by
 intro Γ p hΓ;unfold choose;rw[Sem.wp_choose];exact⟨hm,h _ _ (Nat.mod_lt _ (Nat.pos_of_ne_zero hm))⟩
def Vg{α:Type}:∀(xs:List α) (k:Nat) (h:k<xs.length),(xs[k]::xs.eraseIdx k).Perm xs
 |x::r,0,_=>List.Perm.refl _
 |x::r,k+1,h=>by
  have hk:k<r.length:=by simpa using h
  have ih:=Vg r k hk;show(r[k]::x::r.eraseIdx k).Perm (x::r);exact(List.Perm.swap _ _ _).trans (List.Perm.cons _ ih)
def N5{α:Type}:∀(m:Nat) (xs:List α) (s:Shared) {Q:List α->Shared->Prop},xs.length=m->(∀ys d,ys.Perm xs->Q ys {s with drawn:=d})->wpAny (model prog w) A (drawOrder m xs) Q E s:=by
 intro m
 induction m with
 |zero=>
  intro xs s Q hl h;have e:xs=[]:=List.length_eq_zero_iff.mp hl;subst e;exact Zt (h [] s.drawn (List.Perm.refl _))
 |succ m ih=>
  intro xs s Q hl h;cases xs with
  |nil=>simp at hl
  |cons x r=>
   unfold drawOrder;refine Zp (TU (by simp) fun k d hk=>?_);rw[Zq hk];refine Zp (ih _ _ (by rw[YA hk];simpa using hl) fun ys d2 hp=>Zt ?_);exact h _ d2 ((List.Perm.cons _ hp).trans (Vg _ _ hk))
def SetAt.keep {h h':Heap} (S:SetAt w h a js es ep t) (k:∀o,h.get? a=some o->h'.get? a=some o):SetAt w h' a js es ep t:=by
 obtain⟨⟨o,ho,r⟩,b,c,d,e,f,g⟩:=S;exact⟨⟨o,k o ho,r⟩,b,c,d,e,f,g⟩
def UO{Q:Value->Shared->Prop}(hit:SI s.heap I a first i n ep)(h:Q (.ref I) s):wpAny (model prog w) A (pyIter (.ref I)) Q E s:=by
 refine wpAny_pyIter_slot hit.typ Jr (YX Jr hit.typ XQ ?_ (Px _));show wpAny _ _ (ret (.ref I)) _ _ s;exact Zt ⟨_,rfl, "set_iterator",_,hit.typ,si_slot.lookup,h⟩
def U0(hh:A.handled=none)(I a:Addr)(hne:a≠I)(vs:List Value)(hl:vs.length=es.size)(sl:Nat->Nat)(nx:∀(A:Around) (E:Value->Shared->Prop) (s:Shared) (i:Nat) (Q:Option (Value×Nat)->Shared->Prop),i<=es.size->SetAt w s.heap a js es ep t->Q ((vs[i]?).map fun v=>(v,sl (i+1))) s->wpAny (model prog w) A (setNext a (sl i) i ep) Q E s) :
  Walks prog w A I [I,a] [I] es.size (fun i v=>vs[i]?=some v) (fun i h=>SI h I a (.int (sl i) 0) i es.size ep/\SetAt w h a js es ep t) where
 sub:=fun b hb=>by simp at hb;simp[hb]
 frame:=fun _ _ _ st k=>⟨st.1.at fun o e=>k I (by simp) o e,st.2.keep fun o e=>k a (by simp) o e⟩
 item:=fun i s Q E hi st fin=>by
  obtain⟨o,ho,hc,hd⟩:=id st.1;refine Vx st.1 st.2 ?_;unfold QJ
  dsimp only
  rw[ZK,ZK,ZK];refine Zp (nx _ _ s i _ (YJ hi) st.2 ?_);have hi2:i<vs.length:=by omega
  rw[Zq hi2];show wpAny _ _ (do setField (.ref I) 0 (rawInt (sl (i+1)));setField (.ref I) 1 (rawInt ((i:Int)+1));ret vs[i]) _ _ s
  refine Zp (Y0 ho hd (by simp) ?_);have g1:=ZR (Obj.mapFields (·.setIfInBounds 0 (rawInt (sl (i+1):Int)))) ho (Ys (ZW hd _));have d1:(Obj.mapFields (·.setIfInBounds 0 (rawInt (sl (i+1):Int))) o).data=.fields #[.int (sl (i+1)) 0,.int i 0,.ref a,.int es.size 0,.int ep 0]:=by rw[ZW hd];simp[rawInt]
  refine Zp (Y0 g1 d1 (by simp) ?_);have sb:=(ZG s.heap I (Obj.mapFields (·.setIfInBounds 0 (rawInt (sl (i+1):Int))))).trans (ZG _ I (Obj.mapFields (·.setIfInBounds 1 (rawInt ((i:Int)+1)))));refine Zt ⟨_,rfl,fin vs[i] _ s.toks (Zq hi2) ⟨?_,st.2.keep fun o e=>sb.extBut a o hne e⟩ fun b o hb e=>sb.extBut b o (fun z=>hb (by simp[z])) e⟩;exact SI.step1 (s:={s with heap:=_}) (x:=.none) g1 ((Obj.cls_mapFields ..).trans hc) d1
 done:=fun s Q E st fin=>by
  obtain⟨o,ho,hc,hd⟩:=id st.1;refine Vx st.1 st.2 ?_;unfold QJ
  dsimp only
  rw[ZK,ZK,ZK];refine Zp (nx _ _ s es.size _ (Zx _) st.2 ?_);rw[Y5 (by omega)];exact Uk hh ho hd (by simp) fun h' eb=>fin h' s.toks fun b o hb e=>eb b o (fun z=>hb (by simp[z])) e
 self:=fun _ _ _ _ st fin=>UO st.1 fin
def Ka(hh:A.handled=none)(I a T:Addr)(hne:a≠I)(hT:T≠I)(ps:List Nat)(hl:ps.length=es.size)(hps:∀p∈ps,p<es.size)(vs:List Value)(hvs:vs=ps.map fun p=>((es[p]?).map (·.2)).getD .none) :
  Walks prog w A I [I,a,T] [I] es.size (fun i v=>vs[i]?=some v) (fun i h=>SI h I a (.ref T) i es.size ep/\SetAt w h a js es ep t/\∃o,h.get? T=some o/\∃c,o.data=.seq (ps.map fun(p:Nat)=>rawInt p).toArray c) where
 sub:=fun b hb=>by simp at hb;simp[hb]
 frame:=fun _ _ _ st k=>⟨st.1.at fun o e=>k I (by simp) o e,st.2.1.keep fun o e=>k a (by simp) o e,let ⟨o,ho,c⟩:=st.2.2;⟨o,k T (by simp) o ho,c⟩⟩
 item:=fun i s Q E hi st fin=>by
  obtain⟨o,ho,hc,hd⟩:=id st.1;obtain⟨oT,hoT,c,hdT⟩:=st.2.2;refine Vx st.1 st.2.1 ?_;unfold QJ
  dsimp only
  refine Zp (wpAny_seqItems hoT hdT ?_);have hi2:i<ps.length:=by omega
  have e1:(ps.map fun(p:Nat)=>rawInt p).toArray[(i:Int).toNat]?=some (.int ps[i] 0):=by
   rw[ZK,List.getElem?_toArray,Zz,Zq hi2];rfl
  have hp:=hps _ (ZV hi2)
  dsimp only
  rw[e1]
  dsimp only
  have e2:es[ps[i]]?=some es[ps[i]]:=Yj hp;have e3:vs[i]?=some (es[ps[i]]).2:=by rw[hvs,Zz,Zq hi2];simp[hp]
  rw[ZK,ZK];refine Zp (Kr st.2.1 e2 (Zp (Y0 ho hd (by simp) ?_)));have sb:=ZG s.heap I (Obj.mapFields (·.setIfInBounds 1 (rawInt ((i:Int)+1))));exact Zt ⟨_,rfl,fin _ _ s.toks e3 ⟨SI.step1 (x:=.none) ho hc hd,st.2.1.keep fun o e=>sb.extBut a o hne e,oT,sb.extBut T oT hT hoT,c,hdT⟩ fun b o hb e=>sb.extBut b o (fun z=>hb (by simp[z])) e⟩
 done:=fun s Q E st fin=>by
  obtain⟨o,ho,hc,hd⟩:=id st.1;obtain⟨oT,hoT,c,hdT⟩:=st.2.2;refine Vx st.1 st.2.1 ?_;unfold QJ
  dsimp only
  refine Zp (wpAny_seqItems hoT hdT ?_)
  have e1:(ps.map fun(p:Nat)=>rawInt p).toArray[(es.size:Int).toNat]?=none:=by
   rw[ZK,List.getElem?_toArray,Zz,Y5 (by omega)];rfl
  dsimp only
  rw[e1]
  dsimp only
  refine Zp (Y0 ho hd (by simp) ?_);have g1:=ZR (Obj.mapFields (·.setIfInBounds 0 (rawInt 0))) ho (Ys (ZW hd _));have sb:=ZG s.heap I (Obj.mapFields (·.setIfInBounds 0 (rawInt 0)));refine Uk (s:={s with heap:=_}) hh g1 (ZW hd _) (by simp) fun h' eb=>fin h' s.toks fun b o hb e=>eb b o (fun z=>hb (by simp[z])) (sb.extBut b o (fun z=>hb (by simp[z])) e)
 self:=fun _ _ _ _ st fin=>UO st.1 fin
def Pf{α:Type}(nx:Nat->Nat):∀(m k:Nat) (left:List α) (out:Array α),left.length=m->(pickOrder.go nx m k left out).toList.Perm (out.toList++left):=by
 intro m
 induction m with
 |zero=>
  intro k left out hl;have e:left=[]:=List.length_eq_zero_iff.mp hl;subst e;show out.toList.Perm (out.toList++[]);rw[YD]
 |succ m ih=>
  intro k left out hl;have hlt:nx k % left.length<left.length:=Nat.mod_lt _ (by omega);unfold pickOrder.go;rw[Zq hlt]
  dsimp only
  refine(ih _ _ _ (by rw[YA hlt];omega)).trans ?_;rw[Array.toList_push,List.append_assoc];exact(Vg left _ hlt).append_left _
def UF{α:Type}(nx:Nat->Nat)(xs:Array α):(pickOrder nx xs).toList.Perm xs.toList:=by
 have:=Pf nx xs.size 0 xs.toList #[] (by simp)
 simpa [pickOrder]using this
def slotAt(t:SetTable)(i:Nat):Nat:=if i=0 then 0 else t.place.getD (i-1) 0+1
def UN{m:Nat}(h:t.fits m=true):t.place.size=m:=by
 simp only[SetTable.fits,ZO,beq_iff_eq]at h;exact h.1
def T1(S:SetAt w s.heap a js es ep t){i:Nat}(hi:i<=es.size):SetTable.below t.place (slotAt t i)=i:=by
 have hz:=UN S.fit;have R:=S.tab.ris.ris;refine Nq R (by omega) (fun k hk=>?_) fun k h1 h2=>?_
 ·unfold slotAt;rw[Z2 (by omega)];by_cases e:k=i-1
  ·rw[e];omega
  ·have:=R k (i-1) (by omega) (by omega)
   omega
 ·unfold slotAt;by_cases h0:i=0
  ·rw[Z0 h0];omega
  ·rw[Z2 h0]
   have:=R (i-1) k (by omega) h2
   omega
def T9{Q:Value->Shared->Prop}{A':Around}(hh:A'.handled=none)(S:SetAt w s.heap a js es ep t)
  (fin:∀(I:Addr) (fp:List Addr) (vs:List Value) (St:Nat->Heap->Prop) (h1:Heap) (d1:Drawn),Walks prog w A' I fp [I] es.size (fun i v=>vs[i]?=some v) St->St 0 h1->(∀b∈fp,b=a\/s.heap.get? b=none)->vs.length=es.size->vs.Perm (es.toList.map (·.2))->
   s.heap.get? I=none->(∀b o,s.heap.get? b=some o->h1.get? b=some o)->Q (.ref I) {s with heap:=h1,drawn:=d1}) :
  wpAny (model prog w) A (pyIter (.ref a)) Q E s:=by
 obtain⟨ob,hob,hx,hdd⟩:=S.obj;have hT:s.TypeIs (.ref a) "set":=⟨ob,hob,hx.1⟩;have ha:a<s.heap.objs.size:=Zv hob
 have new:∀b,s.heap.objs.size<=b->s.heap.get? b=none:=fun b hb=>by
  cases e:s.heap.get? b with
  |none=>rfl
  |some o=>exact absurd (Zv e) (We.mpr hb)
 refine wpAny_pyIter_slot hT F.slot_set_iter (YX F.slot_set_iter hT Py ?_ (F.args_set_iter_1 _));unfold Builtin.«frozenset.__iter__»;show wpAny _ _ (Builtin.Frozenset.sizeOf a >>= _) _ _ s;unfold Builtin.Frozenset.sizeOf;refine Zp (Zp (wpAny_setEntries_of hob hdd S.fit (Zt ?_)));refine Zp ?_;unfold setDrawn;refine Zp (Yx hob hdd S.fit (Zp (Ve (Zt ?_))))
 dsimp only
 change wpAny _ _ (if (!WX w&&(!t.plain&&decide (es.size>1)))=true then _ else _) _ _ _;cases hd:(!WX w&&(!t.plain&&decide (es.size>1)))with
 |false=>
  rw[Z2 (by decide)];refine Zp (Zt (Zp (wpAny_setEpoch_of hob hdd S.fit (Zp (Ya (Zt ⟨_,rfl, "set_iterator",_,⟨_,Z3 _ rfl,rfl⟩,si_slot.lookup,?_⟩))))));have hne:a≠s.heap.objs.size:=Z7 ha;have S1:SetAt w (s.heap.push {cls:=.type "set_iterator",data:=.fields [rawInt 0,rawInt 0,.ref a,rawInt es.size,rawInt ep].toArray}) a js es ep t:=S.keep fun o e=>Zr _ e
  have lt:∀b∈[s.heap.objs.size,a],b=a\/s.heap.get? b=none:=fun b hb=>by
   rcases ZA.mp hb with rfl|hb
   ·exact .inr (new _ (Zx _))
   ·exact .inl (Z4.mp hb)
  cases hb:WX w with
  |true=>
   have hl:((pickOrder (w.params.setOrder a ep) es).toList.map (·.2)).length=es.size:=by
    rw[Zs,(UF _ _).length_eq];simp
   refine fin _ _ _ _ _ s.drawn (U0 (t:=t) (js:=js) (ep:=ep) hh s.heap.objs.size a hne ((pickOrder (w.params.setOrder a ep) es).toList.map (·.2)) hl (fun _=>0) fun A E s i Q hi S' q=>NP S' hb ?_) ⟨⟨_,Z3 _ rfl,rfl,rfl⟩,S1⟩ lt hl ((UF _ _).map _) (new _ (Zx _)) fun b o e=>Zr _ e;rw[Zz]at q;rw[←ZJ];cases e:(pickOrder (w.params.setOrder a ep) es).toList[i]? with
   |none=>rw[e]at q;exact q
   |some x=>rw[e]at q;exact q
  |false=>
   have hp:(!t.plain&&decide (es.size>1))=false:=by rw[hb]at hd;simpa using hd
   refine fin _ _ _ _ _ s.drawn (U0 (t:=t) (js:=js) (ep:=ep) hh s.heap.objs.size a hne (es.toList.map (·.2)) (by simp) (slotAt t) fun A E s i Q hi S' q=>KL S' hb hp ?_) ⟨⟨_,Z3 _ rfl,rfl,rfl⟩,S1⟩ lt (by simp) (List.Perm.refl _) (new _ (Zx _)) fun b o e=>Zr _ e;rw[T1 S' hi];have hz:=UN S'.fit;rw[Zz]at q;by_cases hlt:i<es.size
   ·have e1:es[i]?=some es[i]:=Yj hlt;have e2:t.place[i]?=some t.place[i]:=Yj (by omega);have e3:es.toList[i]?=some es[i]:=by rw[ZJ];exact e1
    rw[e3]at q;rw[e1,e2]
    have e4:slotAt t (i+1)=t.place[i]+1:=by
     unfold slotAt;rw[Z2 (by omega)]
     have:i<t.place.size:=by omega
     simp[Array.getD,this]
    have q':Q (some (es[i].2,slotAt t (i+1))) s:=q;rw[e4]at q';exact q'
   ·have e1:es[i]?=none:=Array.getElem?_eq_none (by omega);have e3:es.toList[i]?=none:=by rw[ZJ];exact e1
    rw[e3]at q;rw[e1];exact q
 |true=>
  rw[Z0 rfl];refine Zp (N5 _ _ s (by simp) fun ps d hp=>?_);have hl:ps.length=es.size:=by rw[hp.length_eq];simp
  have hps:∀p∈ps,p<es.size:=fun p hm=>Yg.mp (hp.mem_iff.mp hm);refine Zp (Ya ?_ (by show(ps.map fun(i:Nat)=>rawInt i).toArray.size<=sizeLine;rw[Zy,Zs,hl];exact YO S.few));have hob1:=Zr {cls:=.type "tuple",data:=.seq (ps.map fun(i:Nat)=>rawInt i).toArray} hob;refine Zp (wpAny_setEpoch_of hob1 hdd S.fit (Zp (Ya (Zt ⟨_,rfl, "set_iterator",_,⟨_,Z3 _ rfl,rfl⟩,si_slot.lookup,?_⟩))));have zT:(s.heap.push {cls:=.type "tuple",data:=.seq (ps.map fun(i:Nat)=>rawInt i).toArray}).objs.size=s.heap.objs.size+1:=Heap.size_push ..
  have eq1:(List.range es.size).map (fun p=>((es[p]?).map (·.2)).getD Value.none)=es.toList.map (·.2):=by
   apply Wl;intro k;by_cases hk:k<es.size
   ·simp[hk]
   ·have:es.size<=k:=by omega
    simp[this]
  refine fin _ _ _ _ _ d (Ka (t:=t) (js:=js) (ep:=ep) hh _ a s.heap.objs.size ?_ ?_ ps hl hps _ rfl) ⟨⟨_,Z3 _ rfl,rfl,rfl⟩,S.keep fun o e=>Zr _ (Zr _ e),_,Zr _ (Z3 _ rfl),0,rfl⟩ (fun b hb=>?_) (by rw[Zs];exact hl) ?_ (new _ ?_) fun b o e=>Zr _ (Zr _ e)
  ·show a≠_;rw[zT];exact Z7 (YQ ha)
  ·show s.heap.objs.size≠_;rw[zT];exact Z7 (Nat.lt_succ_self _)
  ·rcases ZA.mp hb with rfl|hb
   ·refine .inr (new _ ?_);show s.heap.objs.size<=_;rw[zT];exact Wg _
   ·rcases ZA.mp hb with rfl|hb
    ·exact .inl rfl
    ·rw[Z4.mp hb];exact .inr (new _ (Zx _))
  ·rw[←eq1];exact hp.map _
  ·show s.heap.objs.size<=_;rw[zT];exact Wg _
def Nr{Q:Bool->Shared->Prop}(hT:s.TypeIs (.ref a) "set")(h:Q false s):wpAny (model prog w) A (Builtin.List.listLengthHint (.ref a)) Q E s:=by
 unfold Builtin.List.listLengthHint;refine Zp (wpAny_specialOf hT F.slot_set_len.lookup ?_);generalize eid:("set.__len__" : String)=z
 wp_delta
 have sp:splitId z=some ("set","__len__"):=by subst eid;decide +kernel
 rw[sp];subst eid;refine Zp (wpAny_isInstance (T:="set") (b:=true) hT (by rw[isSubtype_type];kernel_rfl) (wpAny_ite_split (fun z=>absurd z (by decide)) fun _=>?_));exact wpAny_ite_split (fun _=>Zp (wpAny_typeOf hT (Zt h))) fun z=>absurd (by decide +kernel) z
def T7{R:Result->Shared->Prop}(hh:A.handled=none)(S:SetAt w s.heap a js es ep t)(D:Addr)(c:Nat)(res:Value)(hD:s.heap.get? D=some {cls:=.type "list",data:=.seq #[] c})(hne:D≠a)(fin:∀(h':Heap) (tk:Nat) (d:Drawn) (vs:List Value) (c':Nat),vs.Perm (es.toList.map (·.2))->h'.get? D=some {cls:=.type "list",dict:=none,data:=.seq vs.toArray c',slots:=#[]}->(∀b o,b≠D->s.heap.get? b=some o->h'.get? b=some o)->R (.ok (.ret res)) {s with heap:=h',toks:=tk,drawn:=d}) :
  wpAny (model prog w) A.in1 (Builtin.List.listExtendWith (.ref D) (.ref a) res) (fun f s'=>match f with | .done f=>R (.ok f) s' | .again c'=>c'.quiet=true/\codeAny (model prog w) A c' R s') (fun e s'=>R (.error e) s') s:=by
 obtain⟨ob,hob,hx,hdd⟩:=S.obj;have hT:s.TypeIs (.ref a) "set":=⟨ob,hob,hx.1⟩;unfold Builtin.List.listExtendWith;refine Zp (wpAny_typeOf (T:="set") hT ?_);have n1:Builtin.List.listSameRef (.ref D) (.ref a)=false:=by simp[Builtin.List.listSameRef,hne]
 have n2:(Value.type "set" == Value.type "list")=false:=by decide
 have n3:(Value.type "set" == Value.type "tuple")=false:=by decide
 simp only[n1,n2,n3,Bool.or_false,ZX,Y1];refine Zp (T9 (A':=A.in1) hh S fun I fp vs St h1 d1 W st0 flt hl hp hI keep=>?_);have hDI:D≠I:=fun z=>by rw[←z,hD]at hI;cases hI
 have loop:∀(h:Heap) (tk c1:Nat),St 0 h->(∀b o,b≠D->s.heap.get? b=some o->h.get? b=some o)->h.get? D=some {cls:=.type "list",data:=.seq #[] c1}->D∉fp->
   codeAny (model prog w) A (.builtin "list.extend.loop" ⟨[.ref D,.ref I,res],[]⟩) R {s with heap:=h,toks:=tk,drawn:=d1}:=fun h tk c1 st hk hD1 hDf=>by
  refine codeAny_extend_loopS W.toS (YO S.few) D hDf res es.size 0 _ #[] c1 rfl (ZZ _) st hD1 (ItemsOf.nil _) fun s' acc c' hm hD' hacc=>?_
  have ev:acc.toList=vs:=by
   apply Wl;intro k;by_cases hk2:k<acc.size
   ·have e1:acc[k]?=some acc[k]:=Yj hk2;rw[ZJ,e1];exact(hacc.2 k _ e1).symm
   ·rw[ZJ,Array.getElem?_eq_none (by omega),Y5 (by have:=hacc.1;omega)]
  have e2:acc=vs.toArray:=by rw[←ev]
  rw[e2]at hD';rw[Moved.eq_with hm];refine fin s'.heap s'.toks d1 vs c' hp hD' fun b o hb e=>hm.heap b o (fun hmem=>?_) (hk b o hb e);rcases ZA.mp hmem with z|z
  ·exact hb z
  ·rw[Z4.mp z,hI]at e;cases e
 have hDf:D∉fp:=fun hm=>by
  rcases flt D hm with z|z
  ·exact hne z
  ·rw[hD]at z;cases z
 have hT1:Shared.TypeIs {s with heap:=h1,drawn:=d1} (.ref a) "set":=⟨ob,keep _ _ hob,hx.1⟩
 refine Zp (Yv (Nr hT1 ?_));have hD1:=keep _ _ hD;refine wpAny_ite_split (fun _=>?_) fun _=>Zt ⟨YU F.plain_extend_loop _,loop _ _ c st0 (fun b o _ e=>keep b o e) hD1 hDf⟩;refine Zp (Wd (Zp (?_:wpAny _ _ (updateSeq D (·.push .none) >>= fun _=>updateSeq D (·.pop)) _ _ _)));refine Zp (wpAny_updateSeq hD1 rfl ?_);have hD2:=ZR (Obj.mapSeq (·.push Value.none)) hD1 rfl;refine wpAny_updateSeq (hz:=by seq_fits) hD2 rfl ?_;have hD3:=ZR (Obj.mapSeq (·.pop)) hD2 rfl
 have oth:∀b o,b≠D->h1.get? b=some o->((h1.update D (Obj.mapSeq (·.push Value.none))).update D (Obj.mapSeq (·.pop))).get? b=some o:=fun b o hb e=>
  (ZP _ _ (Ne.symm hb)).trans ((ZP _ _ (Ne.symm hb)).trans e)
 exact Zt ⟨YU F.plain_extend_loop _,loop _ _ _ (W.frame 0 _ _ st0 fun b hb o e=>oth b o (fun z=>hDf (z▸hb)) e) (fun b o hb e=>oth b o hb (keep b o e)) hD3 hDf⟩
def NS{R:List Value->Shared->Prop}(hh:A.handled=none)(S:SetAt w s.heap a js es ep t)(fin:∀(h':Heap) (tk:Nat) (d:Drawn) (vs:List Value),vs.Perm (es.toList.map (·.2))->(∀b o,s.heap.get? b=some o->h'.get? b=some o)->s.heap.objs.size<h'.objs.size->R vs {s with heap:=h',toks:=tk,drawn:=d}) :
  wpAny (model prog w) A (collect (.ref a)) R E s:=by
 obtain⟨ob,hob,hx,hdd⟩:=S.obj;have hne:s.heap.objs.size≠a:=Wm (Zv hob);unfold collect;refine Zp (wpAny_runValue (Y3 entry_proto_collect' ?_));have u1:=Yz (A:=A) PySem.F.plain_proto_collect ⟨[.ref a],[]⟩;rw[u1];refine(show wpAny _ A.in1 (newList [] >>= fun l=>again (.builtin "list.__iadd__" ⟨[l,.ref a],[]⟩)) _ _ s from Zp (Ya (Zt ⟨YU PySem.F.plain_list_iadd _,Y3 entry_list_iadd' ?_⟩)))
 have u2:=Yz (A:=A) PySem.F.plain_list_iadd ⟨[.ref s.heap.objs.size,.ref a],[]⟩;rw[u2];have g1:(s.heap.push {cls:=.type "list",data:=.seq ([]:List Value).toArray}).get? s.heap.objs.size=some {cls:=.type "list",data:=.seq #[]}:=Z3 _ rfl;show wpAny _ A.in1 (Builtin.List.listExtendWith (.ref s.heap.objs.size) (.ref a) (.ref s.heap.objs.size)) _ _ _
 have key:=T7 (prog:=prog) (A:=A) (s:={s with heap:=s.heap.push {cls:=.type "list",data:=.seq ([]:List Value).toArray}})
  (R:=fun q s'=>∃h' tk d vs c',q=.ok (.ret (.ref s.heap.objs.size))/\s'={s with heap:=h',toks:=tk,drawn:=d}/\vs.Perm (es.toList.map (·.2))/\(∀b o,s.heap.get? b=some o->h'.get? b=some o)/\
   h'.get? s.heap.objs.size=some {cls:=.type "list",dict:=none,data:=.seq vs.toArray c',slots:=#[]}) hh (S.keep fun o e=>Zr _ e) s.heap.objs.size 0 (.ref s.heap.objs.size) g1 hne
  fun h' tk d vs c' hp hD hk=>⟨h',tk,d,vs,c',rfl,rfl,hp,fun b o e=>hk b o (Z7 (Zv e)) (Zr _ e),hD⟩
 refine ZM key (fun f s' x=>?_) fun e s' x=>?_
 ·cases f with
  |done f=>
   obtain⟨h',tk,d,vs,c',e,rfl,hp,hk,hD⟩:=x;cases e
   refine(show wpAny _ A (load s.heap.objs.size >>= _) _ _ _ from Zp (wpAny_load hD (Zt ?_)))
   exact fin h' tk d vs hp hk (Zv hD)
  |again c1=>
   refine⟨x.1,YK x.2 fun q s2 y=>?_⟩;obtain⟨h',tk,d,vs,c',rfl,rfl,hp,hk,hD⟩:=y;refine(show wpAny _ A (load s.heap.objs.size >>= _) _ _ _ from Zp (wpAny_load hD (Zt ?_)))
   exact fin h' tk d vs hp hk (Zv hD)
 ·obtain⟨_,_,_,_,_,e',_⟩:=x;cases e'
def JU:∀{l:List (Int×Value)},(∀e∈l,Ent e)->IntsAre (l.map (·.2)) (l.map keyOf)
 |[],_=>.nil
 |e::r,h=>by
  obtain⟨k,t,rfl⟩:=h e ZL;exact .cons k t (JU fun x hx=>h x (ZE _ hx))
def KQ{vs us:List Value}(p:vs.Perm us):∀{ns:List Int},IntsAre us ns->∃ms,IntsAre vs ms/\ms.Perm ns:=by
 induction p with
 |nil=>intro ns h;cases h;exact⟨[],.nil,List.Perm.refl _⟩
 |cons x _ ih=>
  intro ns h;cases h with
  |cons n t r=>
   obtain⟨ms,h1,h2⟩:=ih r;exact⟨n::ms,.cons n t h1,List.Perm.cons _ h2⟩
 |swap x y l=>
  intro ns h;cases h with
  |cons n t r=>
   cases r with
   |cons n' t' r'=>exact⟨n'::n::_,.cons n' t' (.cons n t r'),List.Perm.swap _ _ _⟩
 |trans _ _ ih1 ih2=>
  intro ns h;obtain⟨ms,h1,h2⟩:=ih2 h;obtain⟨ks,h3,h4⟩:=ih1 h1;exact⟨ks,h3,h4.trans h2⟩
def PJ{Q:Value->Shared->Prop}(hh:A.handled=none)(B:SetB w s.heap a js)(h64:js.length<64)
  (fin:∀(l:Addr) (h':Heap) (tk:Nat) (d:Drawn) (out:List Value) (ns:List Int) (e:Nat),IntsAre out ns->ns.Perm js->ns.Pairwise (·<=·)->s.heap.get? l=none->s.heap.objs.size<=l->h'.get? l=some {cls:=.type "list",data:=.seq out.toArray e}->
   (∀b o,s.heap.get? b=some o->h'.get? b=some o)->Q (.ref l) {s with heap:=h',toks:=tk,drawn:=d}) :
  wpAny (model prog w) A (call (.builtin "sorted") [.ref a]) Q E s:=by
 obtain⟨es,ep,t,S⟩:=B;refine Calls.call_function_entry kind_sorted plain_sorted entry_sorted (args_sorted1 _) ?_;unfold Builtin.«sorted»;refine Zp (m:=checkCount "sorted" 1 1 _) (Zt (Zp (NS (A:=A.in1) hh S fun h1 tk d vs hp keep big=>?_)));obtain⟨ms,hI,hms⟩:=KQ hp (JU S.ent);have hms2:ms.Perm js:=hms.trans S.per;have hl:vs.length<64:=by rw[IntsAre.length hI,hms2.length_eq];exact h64
 refine Zp (wpAny_newList ?_ (by have:(64:Nat)<=sizeLine:=(by decide);omega));have g1:(h1.push (seqObj "list" vs.toArray 0)).get? h1.objs.size=some (seqObj "list" vs.toArray 0):=Z3 _ rfl;refine Zp (Yv (YX slot_list_sort ⟨_,g1,rfl⟩ entry_list_sort (list_sort_tree g1 hI hl fun out ns a1 a2 a3=>⟨_,rfl,?_⟩) (args_list_sort _)));obtain⟨e,he⟩:=sortedHeap_at (out:=out) g1;have hsz:s.heap.objs.size<=h1.objs.size:=YJ big;refine Zt ⟨_,rfl,fin h1.objs.size _ tk d out.toList ns e a1 (a2.trans hms2) a3 ?_ hsz (by simpa [seqObj]using he) fun b o q=>?_⟩
 ·cases q:s.heap.get? h1.objs.size with
  |none=>rfl
  |some o=>exact absurd (Zv (keep _ _ q)) (ZY _)
 ·have hlt:=Zv (keep b o q);rw[sortedHeap_old (Z7 hlt) (by rw[size_push'];exact YQ hlt)];exact Zr _ (keep b o q)
end
end SetR
namespace Own
open PySem PySem.Spec PyProof.Rows L2
def SetH(w:World)(l:Addr)(js:List Int):HO:=.ext fun h=>SetR.SetB w h l js
section
variable {X:Cx}
def Tr{P:Program}{w:World}{H:Hp}{h:Heap}{l:Addr}{js:List Int}(B:SetR.SetB w h l js):ObjOk P w H h l (SetH w l js):=by
 refine⟨B,?_,fun h1 h2 B1 k=>B1.at k⟩;obtain⟨es,ep,t,S⟩:=B;obtain⟨o,ho,_⟩:=S.obj;exact⟨o,ho⟩
def Ku(hc:X.calm=true):Qs X (.type "set") (fun xs H Q=>∃(p:Addr) (ns:List Int),xs=[.ref p]/\SqL X.K H p (ns.map V.int)/\ns.length+1<4096/\∀l,H l=none->Q (.ref l) (upd H l (SetH X.w l (ns.foldl SetR.addJ [])))):=by
 intro pins s σ H xs us Q I rv h;obtain⟨p,ns,rfl,hS,hz,q⟩:=h;obtain⟨u,rfl,ru⟩:=rv.one;obtain rfl:u=Value.ref p:=ru;obtain⟨its,r,pl,_⟩:=I.list hS;refine SetR.NT (I.ok.hd hc) pl.isList (by simpa using JM r) hz fun h' tk B keep=>?_;have hf:H s.heap.objs.size=none:=I.hok.fresh (Zx _);exact⟨.ref s.heap.objs.size,upd H s.heap.objs.size (SetH X.w s.heap.objs.size _),I.laid (t':=tk) (fun b o e=>keep b o (Zv e) e) (Zx _) (Tr B),rfl,q _ hf⟩
def Ue(hc:X.calm=true):Qs X (.builtin "sorted") (fun xs H Q=>∃(p:Addr) (js:List Int),xs=[.ref p]/\js.length<64/\(SqL X.K H p (js.map V.int)\/H p=some (SetH X.w p js))/\
  ∀(l:Addr) (ns:List Int),H l=none->ns.Perm js->ns.Pairwise (·<=·)->Q (.ref l) (upd H l (.lst (ns.map V.int)))):=by
 intro pins s σ H xs us Q I rv h;obtain⟨p,js,rfl,hz,hS,q⟩:=h;obtain⟨u,rfl,ru⟩:=rv.one;obtain rfl:u=Value.ref p:=ru
 have big:∀{ns:List Int},ns.Perm js->(ns.map V.int).length<=sizeLine:=fun hp=>by
  rw[Zs,hp.length_eq]
  have:(64:Nat)<=sizeLine:=by decide
  omega
 rcases hS with hS|hS
 ·obtain⟨its,r,pl,_⟩:=I.list hS;have hI:IntsAre its js:=by simpa using JM r
  refine sorted_ints pl.isList hI (by rw[IntsAre.length hI];exact hz) fun out ns a1 a2 a3=>?_;obtain⟨e,he⟩:=sortedAll_at s.heap its out;have hf:H (s.heap.objs.size+1)=none:=I.hok.fresh (Wg _);refine⟨.ref (s.heap.objs.size+1),upd H (s.heap.objs.size+1) (.lst (ns.map V.int)),I.laid (t':=s.toks) (fun b o e=>sortedAll_old e) (Wg _) ⟨big a2,out.toList,e,Vq a1,?_⟩,rfl,q _ ns hf a2 a3⟩;simpa [seqObj]using he
 ·have B:SetR.SetB X.w s.heap p js:=(show ObjOk X.prog X.w H s.heap p (SetH X.w p js)from I.hok p _ hS).1
  refine SetR.PJ (I.ok.hd hc) B hz fun l h' tk d out ns e a1 a2 a3 nl hl he keep=>?_;have hf:H l=none:=I.hok.fresh hl;refine⟨.ref l,upd H l (.lst (ns.map V.int)),?_,rfl,q l ns hf a2 a3⟩;have ok:HOk X.prog X.w (upd H l (.lst (ns.map V.int))) h':=I.hok.laid keep hl ⟨big a2,out,e,Vq a1,he⟩;exact I.call (ch:=[]) (h':=h') (g':=s.gens) (d':=d) (t':=tk) (Un.laid keep hl hf) ok I.bare (fun b z=>absurd z (by simp))
end
section
variable {X:Cx}{K:Za}
def Xc(hK:X.K=K:=by rfl):IxR X (fun x y H Q=>rIxL K x y H Q\/rIxT K x y H Q):=by subst hK;exact WH
def P2(hK:X.K=K:=by rfl):OpR X (compareOp .In) (rIn K false):=by subst hK;exact Pk
def Ni{pos:Pos}{es:List Expr}{k:Nat}{t:TGs}{n:Nat}(hc:X.calm=true)(h:PGs X es t)(hK:X.K=K:=by rfl)(hn:(assignEach es X.env).length=n:=by rfl)(hst:(assignEach es X.env).findIdx? (·.1)=none:=by rfl):PG X (.Tuple es k pos) (gTup K n t):=by subst hK;exact Kp hc h hn hst
end
section
variable {α:Type}{R:Hp->V->α->Prop}{φ:List (Option Nat)}{g:TG}{tc:TT}{te:TE}{σ:L2.St}{H1:Hp}{F:Hp->Prop}{D:Addr}
def U8{K:Za}{a:Addr}{xs:List V}{ds:List α}(f:α->Option V)(hS:SqL K H1 a xs)(hd:xs.length=ds.length)(hD:H1 D=none)(hz:ds.length<=sizeLine)(turn:∀(i:Nat) (x:V) (d:α) (H2:Hp),xs[i]?=some x->ds[i]?=some d->Same H1 H2->∀k:Option V->Hp->Prop,k (f d) H2->g x (atStart φ σ) H2 fun σ2 H4=>Sub (atStart φ σ) σ2/\tc σ2 H4 fun b H5=>if b=true then te σ2 H5 fun y H6=>k (some y) H6 else k none H5)(done:F (upd H1 D (.lst (ds.filterMap f)))) :
  ∃W:Nat->Nat->List V->Hp->Prop,(∃m,W 0 m [] (upd H1 D (.lst [])))/\
   ∀i m ys H2,W i m ys H2->((Itl K a).stop i H2/\F H2)\/((Itl K a).go i H2/\∀x H3,(Itl K a).yld i H2 x H3->g x (atStart φ σ) H3 fun σ2 H4=>Sub (atStart φ σ) σ2/\tc σ2 H4 fun b H5=>
    if b=true then te σ2 H5 fun y H6=>H6 D=some (.lst ys)/\ys.length<sizeLine/\∃m',m'<m/\W (i+1) m' (ys++[y]) (upd H6 D (.lst (ys++[y])))else ∃m',m'<m/\W (i+1) m' ys H5):=by
 refine⟨fun i m ys H2=>m=ds.length-i/\i<=ds.length/\ys=(ds.take i).filterMap f/\H2=upd H1 D (.lst ys),⟨ds.length,by simp,ZZ _,by simp,rfl⟩,?_⟩;rintro i m ys H2 ⟨rfl,hi,rfl,rfl⟩;have S2:Same H1 (upd H1 D (.lst ((ds.take i).filterMap f))):=WU hD;by_cases hlt:i<ds.length
 ·refine .inr ⟨⟨xs,xs[i]'(by omega),S2.seq hS,by simp[hd,hlt]⟩,fun x H3 y=>?_⟩;obtain⟨e,y⟩:=y;subst e;have hx:=y xs (S2.seq hS);have ed:ds[i]?=some ds[i]:=Zq hlt
  refine turn i x ds[i] _ hx ed S2 (fun o H'=>match o with
   |some y=>H' D=some (.lst ((ds.take i).filterMap f))/\((ds.take i).filterMap f).length<sizeLine/\∃m',m'<ds.length-i/\(m'=ds.length-(i+1)/\i+1<=ds.length/\(ds.take i).filterMap f++[y]=(ds.take (i+1)).filterMap f/\upd H' D (.lst ((ds.take i).filterMap f++[y]))=upd H1 D (.lst ((ds.take i).filterMap f++[y])))
   |none=>∃m',m'<ds.length-i/\(m'=ds.length-(i+1)/\i+1<=ds.length/\(ds.take i).filterMap f=(ds.take (i+1)).filterMap f/\H'=upd H1 D (.lst ((ds.take i).filterMap f)))) ?_
  have et:ds.take (i+1)=ds.take i++[ds[i]]:=YY hlt;cases ef:f ds[i]with
  |some y=>
   refine⟨WC,?_,ds.length-(i+1),by omega,rfl,hlt,?_,U6⟩
   ·have h1:=YM f (ds.take i);rw[Y9]at h1;omega
   ·rw[et,Yh];simp[ef]
  |none=>
   refine⟨ds.length-(i+1),by omega,rfl,hlt,?_,rfl⟩;rw[et,Yh];simp[ef]
 ·have e:i=ds.length:=by omega
  subst e;refine .inl ⟨⟨xs,S2.seq hS,by omega⟩,?_⟩;rw[List.take_length];exact done
def Kt{lo:Int}{n:Nat}(f:Nat->Option V)(hD:H1 D=none)(hz:n<=sizeLine)(turn:∀(i:Nat) (H2:Hp),i<n->Same H1 H2->∀k:Option V->Hp->Prop,k (f i) H2->g (.int (lo+i)) (atStart φ σ) H2 fun σ2 H4=>Sub (atStart φ σ) σ2/\tc σ2 H4 fun b H5=>if b=true then te σ2 H5 fun y H6=>k (some y) H6 else k none H5)(done:F (upd H1 D (.lst ((List.range n).filterMap f)))) :
  ∃W:Nat->Nat->List V->Hp->Prop,(∃m,W 0 m [] (upd H1 D (.lst [])))/\
   ∀i m ys H2,W i m ys H2->((Itr lo n).stop i H2/\F H2)\/((Itr lo n).go i H2/\∀x H3,(Itr lo n).yld i H2 x H3->g x (atStart φ σ) H3 fun σ2 H4=>Sub (atStart φ σ) σ2/\tc σ2 H4 fun b H5=>
    if b=true then te σ2 H5 fun y H6=>H6 D=some (.lst ys)/\ys.length<sizeLine/\∃m',m'<m/\W (i+1) m' (ys++[y]) (upd H6 D (.lst (ys++[y])))else ∃m',m'<m/\W (i+1) m' ys H5):=by
 refine⟨fun i m ys H2=>m=n-i/\i<=n/\ys=(List.range i).filterMap f/\H2=upd H1 D (.lst ys),⟨n,by simp,ZZ _,by simp,rfl⟩,?_⟩;rintro i m ys H2 ⟨rfl,hi,rfl,rfl⟩;have S2:Same H1 (upd H1 D (.lst ((List.range i).filterMap f))):=WU hD;by_cases hlt:i<n
 ·refine .inr ⟨hlt,fun x H3 y=>?_⟩;obtain⟨e,rfl⟩:=y;subst e
  refine turn i _ hlt S2 (fun o H'=>match o with
   |some y=>H' D=some (.lst ((List.range i).filterMap f))/\((List.range i).filterMap f).length<sizeLine/\∃m',m'<n-i/\(m'=n-(i+1)/\i+1<=n/\(List.range i).filterMap f++[y]=(List.range (i+1)).filterMap f/\upd H' D (.lst ((List.range i).filterMap f++[y]))=upd H1 D (.lst ((List.range i).filterMap f++[y])))
   |none=>∃m',m'<n-i/\(m'=n-(i+1)/\i+1<=n/\(List.range i).filterMap f=(List.range (i+1)).filterMap f/\H'=upd H1 D (.lst ((List.range i).filterMap f)))) ?_
  cases ef:f i with
  |some y=>
   refine⟨WC,?_,n-(i+1),by omega,rfl,hlt,?_,U6⟩
   ·have h1:=YM f (List.range i);rw[Y4]at h1;omega
   ·rw[YG,Yh];simp[ef]
  |none=>
   refine⟨n-(i+1),by omega,rfl,hlt,?_,rfl⟩;rw[YG,Yh];simp[ef]
 ·have e:i=n:=by omega
  subst e;exact .inl ⟨Zx _,done⟩
end
def eqL(xs ys:List V):Bool:=decide (xs.length=ys.length)&&(List.range xs.length).all fun j=>eqV (xs.getD j .non) (ys.getD j .non)
def rEqL(K:Za)(neg:Bool):R2:=fun x y H Q=>∃(p q:Addr) (xs ys:List V),x=.ref p/\y=.ref q/\SqL K H p xs/\SqL K H q ys/\xs.all WW=true/\ys.all WW=true/\Q (.bl (if neg then !eqL xs ys else eqL xs ys)) H
section
variable {X:Cx}
def Up{A:Around}{s:Shared}{xs ys:List V}{us ws:List Value}(r1:Vals xs us)(r2:Vals ys ws)(f1:xs.all WW=true)(f2:ys.all WW=true)(j:Nat)(h1:j<us.toArray.size)(h2:j<ws.toArray.size) :
  SeqAt.EqAt A s us.toArray[j] ws.toArray[j] (eqV (xs.getD j .non) (ys.getD j .non)):=by
 have l1:=r1.length;have l2:=r2.length;have g1:j<us.length:=by simpa using h1
 have g2:j<ws.length:=by simpa using h2
 have k1:xs[j]?=some (xs[j]'(by omega)):=Zq _;have k2:ys[j]?=some (ys[j]'(by omega)):=Zq _;obtain⟨u,eu,ru⟩:=r1.get k1;obtain⟨w,ew,rw'⟩:=r2.get k2
 have e1:us.toArray[j]=u:=by
  have:us[j]?=some us[j]:=Zq g1
  rw[this]at eu;simpa using Zw eu
 have e2:ws.toArray[j]=w:=by
  have:ws[j]?=some ws[j]:=Zq g2
  rw[this]at ew;simpa using Zw ew
 have d1:xs.getD j .non=xs[j]'(by omega):=by rw[Zu,k1];rfl
 have d2:ys.getD j .non=ys[j]'(by omega):=by rw[Zu,k2];rfl
 rw[e1,e2,d1,d2];exact J1 ru rw' (Ym.mp f1 _ (ZV _)) (Ym.mp f2 _ (ZV _))
def KY(hu:X.A.units<cLine):OpR X (compareOp .Eq) (rEqL X.K false):=by
 intro pins s σ H x y v u Q I rx ry h;obtain⟨p,q,xs,ys,rfl,rfl,hp,hq,f1,f2,k⟩:=h;obtain rfl:v=Value.ref p:=rx;obtain rfl:u=Value.ref q:=ry;obtain⟨us,r1,p1,_⟩:=I.list hp;obtain⟨ws,r2,p2,_⟩:=I.list hq;have l1:=r1.length;have l2:=r2.length;have k':Q (.bl (eqL xs ys)) H:=k;by_cases e:xs.length=ys.length
 ·refine SeqAt.eq_listAt p1.isList p2.isList (by simp;omega) hu (fun j h1 h2=>Up r1 r2 f1 f2 j h1 h2) ⟨.bl (eqL xs ys),H,I,?_,k'⟩;show _=Value.bool (eqL xs ys);unfold eqL;rw[ZC e,Wj,Zy,←l1]
 ·refine SeqAt.eq_list_lengthsAt p1.isList p2.isList (by simp;omega) hu ⟨.bl (eqL xs ys),H,I,?_,k'⟩;show _=Value.bool (eqL xs ys);unfold eqL;rw[Z9 e];rfl
def Jj(hu:X.A.units<cLine):OpR X (compareOp .NotEq) (rEqL X.K true):=by
 intro pins s σ H x y v u Q I rx ry h;obtain⟨p,q,xs,ys,rfl,rfl,hp,hq,f1,f2,k⟩:=h;obtain rfl:v=Value.ref p:=rx;obtain rfl:u=Value.ref q:=ry;obtain⟨us,r1,p1,_⟩:=I.list hp;obtain⟨ws,r2,p2,_⟩:=I.list hq;have l1:=r1.length;have l2:=r2.length;have k':Q (.bl (!eqL xs ys)) H:=k;by_cases e:xs.length=ys.length
 ·refine SeqAt.RcNeAt.lists p1.isList p2.isList (by simp;omega) hu (fun j h1 h2=>Up r1 r2 f1 f2 j h1 h2) _ _ _ _ ⟨.bl (!eqL xs ys),H,I,?_,k'⟩;show _=Value.bool (!eqL xs ys);unfold eqL;rw[ZC e,Wj,Zy,←l1]
 ·refine SeqAt.RcNeAt.lists_lengths p1.isList p2.isList (by simp;omega) hu _ _ _ _ ⟨.bl (!eqL xs ys),H,I,?_,k'⟩;show _=Value.bool (!eqL xs ys);unfold eqL;rw[Z9 e];rfl
def QR{xs:List Int}{us:List Value}(r:Vals (xs.map V.int) us)(z:Int):∀(j:Nat) (h1:j<us.length) (h2:j<xs.length),Value.isInt z us[j]=(xs[j]==z):=by
 intro j h1 h2;obtain⟨u,eu,t,rfl⟩:=r.get (x:=V.int xs[j]) (i:=j) (by rw[Zz,Zq h2];rfl);rw[Zq h1]at eu;rw[Zw eu];simp[Value.isInt]
def UI{xs:List Int}{us:List Value}(r:Vals (xs.map V.int) us)(z:Int)(t:Tok):∀y,y∈us.toArray->MeetsSeq.EqGives y (.int z t) (Value.isInt z y):=by
 intro y hy;obtain⟨j,hj,rfl⟩:=List.mem_iff_getElem.mp (by simpa using hy:y∈us);have l1:=r.length;rw[Zs]at l1;rw[QR r z j hj (by omega)];obtain⟨u,eu,t',rfl⟩:=r.get (x:=V.int (xs[j]'(by omega))) (i:=j) (by rw[Zz,Zq (show j<xs.length by omega)];rfl);rw[Zq hj]at eu;rw[Zw eu];exact MeetsSeq.EqGives.int _ _ _ _
def Vk(K:Za):V->List V->Hp->VK->Prop:=fun x vs H Q=>∃(l:Addr) (xs:List Int) (z:Int),x=.ref l/\vs=[.int z]/\SqL K H l (xs.map V.int)/\z∈xs/\Q (.int (xs.idxOf z:Nat)) H
def PR:MtM X "list.index" (Vk X.K):=by
 intro pins s σ H x vs v us Q I rx rv h;obtain⟨l,xs,z,rfl,rfl,hS,hz,q⟩:=h;cases rx
 obtain⟨u,rfl,t,rfl⟩:=rv.one;obtain⟨its,r,p1,hsz⟩:=I.list hS;obtain⟨o,n,ho,hc,hdn,hd⟩:=p1;obtain⟨c1,d1,dt1,sl1⟩:=o;simp only at hc hdn hd;subst hc hdn hd;have l1:=r.length;rw[Zs]at l1;have hj:xs.idxOf z<xs.length:=YN.mpr hz;have hb:xs.length<=2 ^ 24:=by rw[Zs]at hsz;exact hsz
 refine call_meets PySem.F.slot_list_index ⟨_,ho,rfl⟩ PySem.F.entry_list_index (PySem.F.args_list_index_2 _ _)
  (SeqAt.list_indexAt l its.toArray n none sl1 (.int z t) (Value.isInt z) (xs.idxOf z) (by simpa [←l1]using hj) (by omega) ?_ ?_) ⟨ho,fun y hy=>(UI r z t y hy).at _ _,⟨.int (xs.idxOf z:Nat),H,I.tok _,⟨_,rfl⟩,q⟩⟩
 ·have e:=QR r z (xs.idxOf z) (by omega) hj;show Value.isInt z its[xs.idxOf z]=true;rw[e];simpa using Wi hj
 ·intro m hm hlt;have hm':m<its.length:=by simpa using hm
  have e:=QR r z m hm' (by omega);show Value.isInt z its[m]=false;rw[e]
  have:=List.not_of_lt_findIdx (p:=(· == z)) (xs:=xs) (i:=m) hlt
  simpa using this
def UA{α β:Type}(f:α->β):∀(xs:List α) (k:Nat),(xs.eraseIdx k).map f=(xs.map f).eraseIdx k
 |[],_=>rfl
 |_::_,0=>rfl
 |x::r,k+1=>by
  show f x::(r.eraseIdx k).map f=f x::(r.map f).eraseIdx k;rw[UA f r k]
def Ti:V->List V->Hp->VK->Prop:=fun x vs H Q=>∃(l:Addr) (xs:List Int) (z:Int),x=.ref l/\vs=[.int z]/\H l=some (.lst (xs.map V.int))/\z∈xs/\Q .non (upd H l (.lst ((xs.eraseIdx (xs.idxOf z)).map V.int)))
def Nm:MtM X "list.remove" Ti:=by
 intro pins s σ H x vs v us Q I rx rv h;obtain⟨l,xs,z,rfl,rfl,hH,hz,q⟩:=h;cases rx
 obtain⟨u,rfl,t,rfl⟩:=rv.one;obtain⟨hsz,its,n,r,hl,e⟩:=I.lstM hH;have l1:=r.length;rw[Zs]at l1;have hj:xs.idxOf z<xs.length:=YN.mpr hz
 refine call_meets PySem.F.slot_list_remove ⟨_,e,rfl⟩ PySem.F.entry_list_remove (PySem.F.args_list_remove_2 _ _)
  (MeetsSeq.list_remove l its.toArray n (.int z t) (Value.isInt z) (UI r z t) (xs.idxOf z) (by simpa [←l1]using hj) ?_ ?_ (by rw[Zy,←hl];exact hsz)) ⟨e,?_⟩
 ·have e:=QR r z (xs.idxOf z) (by omega) hj;show Value.isInt z its[xs.idxOf z]=true;rw[e];simpa using Wi hj
 ·intro m hm hlt;have hm':m<its.length:=by simpa using hm
  have e:=QR r z m hm' (by omega);show Value.isInt z its[m]=false;rw[e]
  have:=List.not_of_lt_findIdx (p:=(· == z)) (xs:=xs) (i:=m) hlt
  simpa using this
 ·refine⟨.non,_,I.lset (its':=its.eraseIdx (xs.idxOf z)) hH e ?_ ?_ ?_,rfl,q⟩
  ·show its.toArray.eraseIdxIfInBounds (xs.idxOf z)=_;rw[List.eraseIdxIfInBounds_toArray]
  ·rw[UA];exact r.eraseIdx _
  ·rw[Zs,List.length_eraseIdx];rw[Zs]at hsz;split<;>omega
end
section
variable {X:Cx}{K:Za}
def Kg(hK:X.K=K:=by rfl):MtM X "list.index" (Vk K):=by subst hK;exact PR
def XO{o e:Expr}{es:List Expr}{to:TE}{t:TA}{name:Str}{apos cpos:Pos}{T id:String}{r:V->List V->Hp->VK->Prop}(pa:PlainAttrs T)(slot:Slot T name id)(hty:typeOf (.builtin id)=pure (.type "method_descriptor"))(hm:MtM X id r)(ho:PE X o to)(ha:PA X (e::es) t)(hK:X.K=K:=by rfl)(hbase:attributeBase o name X.env (eval o X.env)=eval o X.env:=by rfl)
  (hfew:((backTo cpos (starEach (e::es) X.env)).all (fun x=>!x.1)&&(backToKw cpos (keywordEach [] X.env)).all (fun x=>x.1.isSome)
   && decide ((e::es).length+([]:List Keyword).length+(if ([]:List Keyword).isEmpty then 0 else 1)<30))=true:=by rfl)
  (hline:(apos.endLine==cpos.line)=true:=by rfl) (hs:starEach (e::es) X.env=(false,eval e X.env)::starEach es X.env:=by rfl) (hplain:(backTo cpos (starEach es X.env)).any (·.1)=false:=by rfl) :
  PE X (.Call (.Attribute o name apos) (e::es) [] cpos) (tBM K T r to t):=by
 subst hK;exact QS pa slot hty hm ho ha hbase hfew hline hs hplain
end
def VB(xs ys:List Int):eqL (xs.map V.int) (ys.map V.int)=decide (xs=ys):=by
 unfold eqL;rw[Zs,Zs];by_cases e:xs=ys
 ·subst e;rw[ZC rfl,ZC rfl,Wj,Ym];intro j hj;have hj':j<xs.length:=by simpa using hj
  rw[Zu,Zz,Zq hj'];show(xs[j]==xs[j])=true;simp
 ·rw[Z9 e];by_cases hl:xs.length=ys.length
  ·rw[ZC hl,Wj,Bool.eq_false_iff];intro hall;apply e;apply Wo hl;intro j h1 h2
   have:=Ym.mp hall j (by simpa using h1)
   rw[Zu,Zz,Zq h1,Zu,Zz,Zq h2]at this;have h3:(xs[j]==ys[j])=true:=this;simpa using h3
  ·rw[Z9 hl];rfl
def Q6(xs:List Int):(xs.map V.int).all WW=true:=by
 rw[List.all_map];exact Ym.mpr fun _ _=>rfl
end Own
namespace M
open PySem PySem.Spec PyProof.Rows L2 Own
def LV{α:Type}(R:Hp->V->α->Prop)(H:Hp)(vs:List V)(xs:List α):Prop:=
 vs.length=xs.length/\∀(i:Nat) (x:α),xs[i]?=some x->∃v,vs[i]?=some v/\R H v x
def LAt{α:Type}(R:Hp->V->α->Prop)(H:Hp)(l:Addr)(xs:List α):Prop:=∃vs,H l=some (.lst vs)/\LV R H vs xs
def WS(H:Hp)(v:V)(q:Int×Int):Prop:=∃a,v=.ref a/\H a=some (.tup [.int q.1,.int q.2])
section
variable {α:Type}{R:Hp->V->α->Prop}{H H':Hp}{vs:List V}{xs:List α}{l:Addr}
def LV.nil:LV R H [] ([]:List α):=⟨rfl,fun i x e=>by simp at e⟩
def LV.snoc {v:V}{x:α} (h:LV R H vs xs) (r:R H v x):LV R H (vs++[v]) (xs++[x]):=by
 refine⟨by simp[h.1],fun i y e=>?_⟩;by_cases hi:i<xs.length
 ·rw[Yi hi]at e;obtain⟨v',e',r'⟩:=h.2 i y e;exact⟨v',by rw[Yi (by rw[h.1];exact hi)];exact e',r'⟩
 ·have hi':xs.length<=i:=by omega
  rw[Yu hi']at e
  have h0:i-xs.length=0:=by
   cases q:i-xs.length with
   |zero=>rfl
   |succ k=>rw[q]at e;simp at e
  rw[h0]at e;have e2:x=y:=by simpa using e
  subst e2;refine⟨v,?_,r⟩;rw[Yu (by rw[h.1];exact hi'),h.1,h0];rfl
def LV.get {i:Nat}{v:V} (h:LV R H vs xs) (e:vs[i]?=some v):∃x,xs[i]?=some x/\R H v x:=by
 have hi:i<xs.length:=by rw[←h.1];exact(ZD.mp e).1
 obtain⟨v',e',r⟩:=h.2 i xs[i] (by simp[hi]);rw[e]at e';cases e';exact⟨_,by simp[hi],r⟩
end
def Menu(m:List Int):Prop:=∃a b c d e:Int,m=[a,b,c,d,e]/\(1<=a/\a<=10)/\(1<=b/\b<=9/\(b=1\/b=3\/b=7\/b=9))/\(0<=c/\c<=9)/\(1<=d/\d<=1000)/\(1<=e/\e+d<=1001)
def Field(ps:List (Int×Int)):Prop:=∀q∈ps,1<=q.1/\q.1<=10/\1<=q.2/\q.2<=1000
def Nk(js:List Int)(k z:Int):z∈SetR.addJ js k↔z∈js\/z=k:=by
 unfold SetR.addJ;split
 ·rename_i h;constructor
  ·exact fun x=>.inl x
  ·rintro(x|rfl)
   ·exact x
   ·exact h
 ·simp
def Uc:∀(ns js:List Int) (z:Int),z∈ns.foldl SetR.addJ js↔z∈js\/z∈ns
 |[],js,z=>by simp
 |n::r,js,z=>by
  rw[List.foldl_cons,Uc r,Nk,ZA];constructor
  ·rintro((h|h)|h)
   ·exact .inl h
   ·exact .inr (.inl h)
   ·exact .inr (.inr h)
  ·rintro(h|h|h)
   ·exact .inl (.inl h)
   ·exact .inl (.inr h)
   ·exact .inr h
def Tj{js:List Int}(k:Int)(h:js.Nodup):(SetR.addJ js k).Nodup:=by
 unfold SetR.addJ;split
 ·exact h
 ·rename_i hk;exact List.nodup_append.mpr ⟨h,by simp,fun x hx y hy=>by rw[Z4.mp hy];rintro rfl;exact hk hx⟩
def JD:∀(ns:List Int) {js:List Int},js.Nodup->(ns.foldl SetR.addJ js).Nodup
 |[],_,h=>h
 |n::r,js,h=>JD r (Tj n h)
def J3:∀(ns js:List Int),(ns.foldl SetR.addJ js).length<=js.length+ns.length
 |[],js=>by simp
 |n::r,js=>by
  have h1:=J3 r (SetR.addJ js n)
  have h2:(SetR.addJ js n).length<=js.length+1:=by
   unfold SetR.addJ;split
   ·omega
   ·simp
  rw[List.foldl_cons,Wp];omega
def UL{l:List Int}(h:l.Pairwise (·<=·))(n:l.Nodup):l.Pairwise (· < ·):=by
 have:=h.and n
 exact this.imp fun {a b} h=>by have:=h.1;have:=h.2;omega
def Xj{l₁ l₂:List Int}(h1:l₁.Pairwise (· < ·))(h2:l₂.Pairwise (· < ·))(h:∀z,z∈l₁↔z∈l₂):l₁=l₂:=by
 have n1:l₁.Nodup:=h1.imp fun {a b} h=>by omega
 have n2:l₂.Nodup:=h2.imp fun {a b} h=>by omega
 have p:l₁.Perm l₂:=(List.perm_ext_iff_of_nodup n1 n2).mpr h;exact p.eq_of_pairwise (le:=(· < ·)) (fun a b _ _ x y=>by omega) h1 h2
def tenL:List Int:=[1,2,3,4,5,6,7,8,9,10]
def X9{z:Int}:z∈tenL↔1<=z/\z<=10:=by
 unfold tenL;constructor
 ·intro h;simp only[ZA,YW,or_false]at h;omega
 ·rintro⟨h1,h2⟩;simp only[ZA,YW,or_false];omega
def WJ(ps:List (Int×Int)):List Int:=tenL.filter fun h=>decide (h∈ps.map (·.1))
def Vz(ps:List (Int×Int)):(WJ ps).Pairwise (· < ·):=List.Pairwise.filter _ (by unfold tenL;decide)
def Xa{ps:List (Int×Int)}(hF:Field ps){z:Int}:z∈WJ ps↔z∈ps.map (·.1):=by
 unfold WJ;rw[Yb,decide_eq_true_eq,X9];constructor
 ·exact fun h=>h.2
 ·intro h;obtain⟨q,hq,rfl⟩:=Wn.mp h
  have:=hF q hq
  exact⟨⟨this.1,this.2.1⟩,h⟩
def PH(ps:List (Int×Int)):(WJ ps).length<=10:=by
 have:=YZ (fun h=>decide (h∈ps.map (·.1))) tenL
 exact this
def XB{ps:List (Int×Int)}{ns:List Int}(hF:Field ps)(p:ns.Perm ((ps.map (·.1)).foldl SetR.addJ []))(h:ns.Pairwise (·<=·)):ns=WJ ps:=by
 have nd:ns.Nodup:=p.symm.nodup (JD _ List.nodup_nil);refine Xj (UL h nd) (Vz ps) fun z=>?_;rw[p.mem_iff,Uc,Xa hF];simp
def NR(z:Int)(xs:List Int):inV (.int z) (xs.map V.int)=decide (z∈xs):=by
 unfold inV;rw[List.any_map]
 induction xs with
 |nil=>simp
 |cons x r ih=>
  rw[List.any_cons,ih];show((x==z) || _)=_;by_cases e:x=z
  ·subst e;simp
  ·have:(x==z)=false:=by simpa using e
   rw[this];simp only[Bool.false_or];by_cases h:z∈r
   ·rw[ZC h,ZC (ZE _ h)]
   ·rw[Z9 h,Z9];intro hz;rcases ZA.mp hz with hz|hz
    ·exact e hz.symm
    ·exact h hz
def NH:tenL=(List.range 10).map fun(i:Nat)=>(1:Int)+(i:Int):=by decide
def TY(ps:List (Int×Int)):(List.range 10).filterMap (fun(i:Nat)=>if decide ((1:Int)+(i:Int)∈ps.map (·.1))=true then some (V.int (1+(i:Int)))else none)=(WJ ps).map V.int:=by
 unfold WJ;rw[NH];generalize List.range 10=l
 induction l with
 |nil=>rfl
 |cons i r ih=>
  rw[Yc,Ye,List.filter_cons];by_cases h:(1:Int)+(i:Int)∈ps.map (·.1)
  ·rw[ZC h,Z0 rfl,Z0 rfl,Ye,←ih]
  ·rw[Z9 h,Z2 (by decide),Z2 (by decide),←ih]
def Pm{ps:List (Int×Int)}{os ns:List Int}(hp:os.Perm (WJ ps))(h1:ns.Perm os)(h2:ns.Pairwise (·<=·)):ns=WJ ps:=by
 have nd:(WJ ps).Nodup:=(Vz ps).imp fun {a b} h=>by omega
 have p:=h1.trans hp;have nd2:ns.Nodup:=p.symm.nodup nd;exact Xj (UL h2 nd2) (Vz ps) fun z=>p.mem_iff
end M
namespace ExcR
open PySem PySem.Spec PyProof.Rows L2
structure KeepX (fs ex:List Addr) (h h':Heap):Prop where
 keep:∀b o,h.get? b=some o->b∉fs->b∉ex->h'.get? b=some o
 slot:∀b o,h.get? b=some o->b∉ex->∃sl,h'.get? b=some {o with slots:=sl}
 size:h.objs.size<=h'.objs.size
def KeepX.trans {fs ex:List Addr}{h1 h2 h3:Heap} (a:KeepX fs ex h1 h2) (b:KeepX fs ex h2 h3):KeepX fs ex h1 h3:=
 ⟨fun c o e n m=>b.keep c o (a.keep c o e n m) n m,fun c o e m=>by
  obtain⟨s1,e1⟩:=a.slot c o e m;obtain⟨s2,e2⟩:=b.slot c _ e1 m;exact⟨s2,e2⟩,Z8 a.size b.size⟩
def KeepX.mono {fs fs' ex ex':List Addr}{h1 h2:Heap} (a:KeepX fs ex h1 h2) (hf:∀b∈fs,b∈fs') (hx:∀b∈ex,b∈ex'):KeepX fs' ex' h1 h2:=
 ⟨fun c o e n m=>a.keep c o e (fun z=>n (hf c z)) (fun z=>m (hx c z)),fun c o e m=>a.slot c o e fun z=>m (hx c z),a.size⟩
structure Trc (h:Heap) (e T:Addr) (cls fl:Value):Prop where
 ne:T≠e
 exc:∃oe vs,h.get? e=some oe/\oe.cls=cls/\oe.data=.fields vs/\vs[1]?=some (.ref T)
 ent:∃oT ts,h.get? T=some oT/\oT.data=.fields ts/\ts[3]?=some fl
section
variable {M:Model}{A:Around}{E:Value->Shared->Prop}{s:Shared}{base:Heap}{env:Env}{outer:List Env}{L e:Addr}
def UU{oe:Obj}{vs:Array Value}{head:Value}{hadNext:Bool}{Q:Unit->Shared->Prop}(hfr:A.frames=some (env::outer))(hl:s.heap.FunFrames base (env::outer))(hf:env.frame=some L)(he:s.heap.get? e=some oe)(hd:oe.data=.fields vs)(hsz:1<vs.size)(h:∀h' T,s.heap.objs.size<=T->Trc h' e T oe.cls (rawInt L)->KeepX (frs (env::outer)) [e] s.heap h'->Q () {s with heap:=h'}) :
  wpAny M A (do let a ←frameOf env;let pl ←entryPlaceOf L hadNext;let b ←EntryCells.newEntry head a .none (rawInt L) .none pl;setField (.ref e) 1 b) Q E s:=by
 have hene:e∉frs (env::outer):=fun hm=>by
  obtain⟨_,o,ho,hnf⟩:=hl.mem hm;rw[he]at ho;cases ho
  exact hnf vs hd
 refine Zp (wpAny_frameOf_fun hfr hl hf fun h1 s1=>Zp (wpAny_entryPlaceOf fun pl hpl=>?_));unfold EntryCells.newEntry newFields;refine Zp (Ya ?_ (hpl.sizeOk5 _ _ _ _ _));have he1:h1.get? e=some oe:=(s1.2.1 e hene).trans he;generalize eo:({cls:=.type "traceback",dict:=none,data:=.fields ([head,.ref L,.none,rawInt L,.none]++(if pl.isEmpty then List.replicate 6 Value.none else pl)).toArray}:Obj)=ot;have he2:=Zr (h:=h1) ot he1;refine Y0 he2 hd hsz (h _ h1.objs.size (Yo s1.1.symm) ?_ ?_)
 ·have ne1:h1.objs.size≠e:=Wm (Zv he1);have d3:=ZW hd (·.setIfInBounds 1 (Value.ref h1.objs.size));refine⟨ne1,⟨_,_,ZR _ he2 (Ys d3),Obj.cls_mapFields _ _,d3,by simp[hsz]⟩,ot,_,?_,by rw[←eo],?_⟩
  ·exact(ZP _ _ (Ne.symm ne1)).trans (Z3 h1 (by rw[←eo];rfl))
  ·first
    |(simp;done)
    |(rcases hpl with rfl|⟨_,_,_,_,_,_,_,rfl⟩<;>simp)
 ·refine⟨fun b o q nb nx=>?_,fun b o q nx=>?_,?_⟩
  ·have hbe:b≠e:=fun z=>nx (by simp[z]);rw[ZP _ _ (Ne.symm hbe)];exact Zr _ ((s1.2.1 b nb).trans q)
  ·have hbe:b≠e:=fun z=>nx (by simp[z]);obtain⟨sl,q1⟩:=s1.2.2 b o q;exact⟨sl,by rw[ZP _ _ (Ne.symm hbe)];exact Zr _ q1⟩
  ·rw[Heap.size_update,Heap.size_push,s1.1];exact Wg _
def XE{oe:Obj}{vs:Array Value}{Q:Unit->Shared->Prop}(hfr:A.frames=some (env::outer))(hl:s.heap.FunFrames base (env::outer))(hf:env.frame=some L)(he:s.heap.get? e=some oe)(hd:oe.data=.fields vs)(h1:vs[1]?=some .none)(h:∀h' T,s.heap.objs.size<=T->Trc h' e T oe.cls (rawInt L)->KeepX (frs (env::outer)) [e] s.heap h'->Q () {s with heap:=h'}):wpAny M A (noteFrame (.ref e) env) Q E s:=by
 unfold noteFrame;simp only[hf];refine Zp (wpAny_field he hd h1 ?_);rw[Z2 (by decide)];exact UU hfr hl hf he hd (YB.mp h1).1 h
def Uh{T:Addr}{cls fl:Value}{Q:Unit->Shared->Prop}(x:Trc s.heap e T cls fl)(h:∀h',Trc h' e T cls .none->KeepX [] [T] s.heap h'->Q () {s with heap:=h'}) :
  wpAny M A (setField (.ref T) 3 .none) Q E s:=by
 obtain⟨ne,⟨oe,vs,g1,g2,g3,g4⟩,oT,ts,k1,k2,k3⟩:=x;have hz:=(YB.mp k3).1;refine Y0 k1 k2 hz (h _ ?_ ?_)
 ·have d3:=ZW k2 (·.setIfInBounds 3 Value.none);exact⟨ne,⟨oe,vs,(ZP _ _ ne).trans g1,g2,g3,g4⟩,_,_,ZR _ k1 (Ys d3),d3,by simp[hz]⟩
 ·have ot:∀b,b≠T->(s.heap.update T (Obj.mapFields (·.setIfInBounds 3 Value.none))).get? b=s.heap.get? b:=fun b hb=>ZP _ _ (Ne.symm hb);exact⟨fun b o q _ nx=>(ot b fun z=>nx (by simp[z])).trans q,fun b o q nx=>⟨o.slots,(ot b fun z=>nx (by simp[z])).trans q⟩,Yo (Heap.size_update ..).symm⟩
def KD{T:Addr}{cls:Value}{Q:Unit->Shared->Prop}(hfr:A.frames=some (env::outer))(hl:s.heap.FunFrames base (env::outer))(hf:env.frame=some L)(x:Trc s.heap e T cls .none)(h:∀h' T',s.heap.objs.size<=T'->Trc h' e T' cls (rawInt L)->KeepX (frs (env::outer)) [e,T] s.heap h'->Q () {s with heap:=h'}):wpAny M A (noteFrame (.ref e) env) Q E s:=by
 obtain⟨ne,⟨oe,vs,g1,g2,g3,g4⟩,oT,ts,k1,k2,k3⟩:=id x;unfold noteFrame;simp only[hf];refine Zp (wpAny_field g1 g3 g4 ?_);rw[Z0 (show(Value.ref T != Value.none)=true from by simp)]
 refine Zp (wpAny_field k1 k2 k3 ?_);rw[Z2 (show ¬((Value.none==rawInt L)=true)from by simp[rawInt])]
 refine Zp (Uh x fun h1 x1 K1=>?_)
 have hTf:T∉frs (env::outer):=fun hm=>by
  obtain⟨_,o,ho,hnf⟩:=hl.mem hm;rw[k1]at ho;cases ho
  exact hnf ts k2
 have hl1:h1.FunFrames base (env::outer):=hl.of_keeps fun b o q hnf=>⟨o,K1.keep b o q (by simp) (fun z=>by
  rw[Z4.mp z,k1]at q;cases q
  exact hnf ts k2),rfl⟩
 obtain⟨_,⟨oe1,vs1,p1,p2,p3,p4⟩,_⟩:=id x1;refine UU (s:={s with heap:=h1}) hfr hl1 hf p1 p3 (YB.mp p4).1 fun h2 T' hT' x2 K2=>h h2 T' (Z8 K1.size hT') (by rw[←p2];exact x2) ?_
 exact(K1.mono (by simp) (by simp)).trans (K2.mono (fun _ z=>z) (by simp))
def JF{T:Addr}{cls fl:Value}{Q:Unit->Shared->Prop}(x:Trc s.heap e T cls fl)(h:∀h',Trc h' e T cls .none->KeepX [] [T] s.heap h'->Q () {s with heap:=h'}) :
  wpAny M A (setFlight (.ref e) none) Q E s:=by
 obtain⟨ne,⟨oe,vs,g1,g2,g3,g4⟩,_⟩:=id x;unfold setFlight;refine Zp (wpAny_field g1 g3 g4 ?_);rw[Z0 (show(Value.ref T != Value.none)=true from by simp)]
 exact Uh x h
def Pe{oe:Obj}{vs:Array Value}{Q:Unit->Shared->Prop}(hfr:A.frames=some (env::outer))(hl:s.heap.FunFrames base (env::outer))(hf:env.frame=some L)(he:s.heap.get? e=some oe)(hd:oe.data=.fields vs)(h1:vs[1]?=some .none)(h:∀h' T,s.heap.objs.size<=T->Trc h' e T oe.cls .none->KeepX (frs (env::outer)) [e] s.heap h'->Q () {s with heap:=h'}):wpAny M A (leaving env (.ref e)) Q E s:=by
 unfold leaving;refine Zp (XE hfr hl hf he hd h1 fun h2 T hT x K=>JF x fun h3 x3 K3=>h h3 T hT x3 ?_);refine⟨fun b o q nb nx=>K3.keep b o (K.keep b o q nb nx) (by simp) (fun z=>?_),fun b o q nx=>?_,Z8 K.size K3.size⟩
 ·rw[Z4.mp z]at q;exact absurd (Zv q) (We.mpr hT)
 ·obtain⟨sl,q2⟩:=K.slot b o q nx;exact⟨sl,K3.keep b _ q2 (by simp) (fun z=>by rw[Z4.mp z]at q;exact absurd (Zv q) (We.mpr hT))⟩
def Nw{T:Addr}{cls:Value}{Q:Unit->Shared->Prop}(hfr:A.frames=some (env::outer))(hl:s.heap.FunFrames base (env::outer))(hf:env.frame=some L)(x:Trc s.heap e T cls .none)(h:∀h' T',s.heap.objs.size<=T'->Trc h' e T' cls .none->KeepX (frs (env::outer)) [e,T] s.heap h'->Q () {s with heap:=h'}):wpAny M A (leaving env (.ref e)) Q E s:=by
 unfold leaving;refine Zp (KD hfr hl hf x fun h2 T' hT x2 K=>JF x2 fun h3 x3 K3=>h h3 T' hT x3 ?_);refine⟨fun b o q nb nx=>K3.keep b o (K.keep b o q nb nx) (by simp) (fun z=>?_),fun b o q nx=>?_,Z8 K.size K3.size⟩
 ·rw[Z4.mp z]at q;exact absurd (Zv q) (We.mpr hT)
 ·obtain⟨sl,q2⟩:=K.slot b o q nx;exact⟨sl,K3.keep b _ q2 (by simp) (fun z=>by rw[Z4.mp z]at q;exact absurd (Zv q) (We.mpr hT))⟩
end
section
variable {P:Program}{w:World}{H H':Hp}{h h':Heap}{a:Addr}{o:HO}{fs ex:List Addr}
def has(x:ObjOk P w H h a o):∃u,h.get? a=some u:=by
 cases o with
 |lst xs=>exact let ⟨_,_,_,_,e⟩:=x;⟨_,e⟩
 |tup xs=>exact let ⟨_,_,_,u,e,_⟩:=x;⟨u,e⟩
 |dK kvs=>exact let ⟨_,_,_,_,u,_,_,e,_⟩:=x;⟨u,e⟩
 |dT kvs=>exact let ⟨_,_,_,_,u,_,_,e,_⟩:=x;⟨u,e⟩
 |set S n=>exact let ⟨u,_,_,_,e,_⟩:=x;⟨u,e⟩
 |ins C dx fs=>exact let ⟨_,_,_,e,_⟩:=x;⟨_,e⟩
 |own y=>exact x
 |xd fs=>exact let ⟨_,⟨u,_,_,e,_⟩,_⟩:=x;⟨u,e⟩
 |rng lo hi=>exact let ⟨_,_,_,e⟩:=x;⟨_,e⟩
 |frz ob u=>exact⟨_,x.1⟩
 |tbl ps=>exact⟨_,x⟩
 |met f y=>exact⟨_,x⟩
 |ext φ=>exact x.2.1
def XN(ok:HOk P w H h)(e:h.get? a=none):H a=none:=by
 cases q:H a with
 |none=>rfl
 |some o=>
  obtain⟨u,z⟩:=has (ok a o q);rw[e]at z;cases z
def Uv(ok:HOk P w H h)(k:KeepX fs ex h h')(hf:∀b∈fs,H b=none)(hx:∀b∈ex,H b=none):HOk P w H h':=fun a o e=>by
 refine(ok a o e).stay (fun b u hb q=>?_) (fun _ q=>q) (fun _ _ q=>q)
 have hn:H b≠none:=by
  rcases hb with rfl|hb
  ·rw[e];simp
  ·rw[hb];simp
 exact k.keep b u q (fun z=>hn (hf b z)) fun z=>hn (hx b z)
end
structure XAt (P:Program) (w:World) (outer:List Env) (H H':Hp) (s s':Shared) (a T C:Addr):Prop where
 os:s'.os=s.os
 bare:AllBare s'.gens
 un:Un (frs outer) [] H H' s.heap s'.heap
 hok:HOk P w H' s'.heap
 na:s.heap.get? a=none
 nT:s.heap.get? T=none
 fa:H' a=none
 fT:H' T=none
 tr:Trc s'.heap a T (.ref C) .none
def CXe(P:Program)(w:World):CXT:=fun outer H s E e s'=>∃a T C H',e=.ref a/\XAt P w outer H H' s s' a T C/\E (.ref C) none H'
section
variable {X:Cx}{pins:List (Addr×Obj)}{σ:L2.St}{H H':Hp}{s s':Shared}{a T C:Addr}
def Jp{ex:List Addr}{h':Heap}(I:Inv X pins σ H s)(hex:X.ex=[])(k:KeepX (frs X.stack) ex s.heap h')(hx:∀b∈ex,X.s₀.heap.get? b=none):Un X.fs [] X.H₀ H X.s₀.heap h':=by
 have B:=I.base;rw[hex]at B;have out:∀b o,X.s₀.heap.get? b=some o->b∉ex:=fun b o q z=>by rw[hx b z]at q;cases q
 have nl:∀b o,X.s₀.heap.get? b=some o->b∉X.fs->b∉frs X.stack:=fun b o q nf z=>by
  rcases ZA.mp (I.stkSub b z)with e|e
  ·have h1:=Zv q;have h2:=I.ok.above;rw[e]at h1;exact absurd h1 (We.mpr h2)
  ·exact nf e
 refine⟨fun b o q n nf ne=>k.keep b o (B.keep b o q n nf ne) (nl b o q nf) (out b o q),fun b o q n hf ne=>?_,fun b o q n ne=>B.free b o q n ne,fun b o q ne=>?_,B.tups,B.frzs,B.tbls⟩
 ·obtain⟨sl,q1⟩:=B.slot b o q n hf ne;obtain⟨sl2,q2⟩:=k.slot b _ q1 (out b o q);exact⟨sl2,q2⟩
 ·obtain⟨o1,q1⟩:=B.there b o q ne;obtain⟨sl2,q2⟩:=k.slot b _ q1 (out b o q);exact⟨_,q2⟩
def Vd{b:Addr}(I:Inv X pins σ H s)(hex:X.ex=[])(e:s.heap.get? b=none):X.s₀.heap.get? b=none:=by
 cases q:X.s₀.heap.get? b with
 |none=>rfl
 |some o=>
  obtain⟨u,z⟩:=I.base.there b o q (by rw[hex];simp);rw[e]at z;cases z
variable {E:Value->Shared->Prop}
def Nc(I:Inv X pins σ H s)(hex:X.ex=[])(hst:X.stack=X.env::X.outer)(hfr:X.env.frame=some X.env.locals)(x:XAt X.prog X.w X.stack H H' s s' a T C) :
  wpAny (model X.prog X.w) X.A (leaving X.env (.ref a)) (fun _ s2=>∃T2,XAt X.prog X.w X.outer X.H₀ H' X.s₀ s2 a T2 C) E s':=by
 have J:Inv X pins σ H' s':=I.call' (ch:=[]) x.os x.un x.hok x.bare fun b z=>absurd z (by simp);have hF:=J.stack;have hA:=J.ok.frames;rw[hst]at hF hA;refine Nw hA hF hfr x.tr fun h2 T2 hT2 tr k=>⟨T2,J.os,J.bare,?_,?_,Vd I hex x.na,?_,x.fa,x.hok.fresh hT2,tr⟩
 ·exact Jp J hex (by rw[hst];exact k) fun b hb=>by
   rcases ZA.mp hb with rfl|hb
   ·exact Vd I hex x.na
   ·rw[Z4.mp hb];exact Vd I hex x.nT
 ·refine Uv x.hok k (fun b hb=>J.stkFree b (by rw[hst];exact hb)) fun b hb=>?_;rcases ZA.mp hb with rfl|hb
  ·exact x.fa
  ·rw[Z4.mp hb];exact x.fT
 ·exact Wa (Z8 J.sz hT2)
def PQ{h':Heap}{oe:Obj}{vs:Array Value}(I:Inv X pins σ H s)(hex:X.ex=[])(hst:X.stack=X.env::X.outer)(hfr:X.env.frame=some X.env.locals)(keeps:∀b o,s.heap.get? b=some o->h'.get? b=some o)(new:s.heap.get? a=none)(he:h'.get? a=some oe)(hc:oe.cls=.ref C)(hd:oe.data=.fields vs)(h1:vs[1]?=some .none) :
  wpAny (model X.prog X.w) X.A (leaving X.env (.ref a)) (fun _ s2=>∃T2,XAt X.prog X.w X.outer X.H₀ H X.s₀ s2 a T2 C) E {s with heap:=h'}:=by
 have J:Inv X pins σ H {s with heap:=h'}:=I.call' (s':={s with heap:=h'}) (ch:=[]) rfl (Un.kept keeps) (I.hok.kept keeps) I.bare fun b z=>absurd z (by simp)
 have hF:=J.stack;have hA:=J.ok.frames;rw[hst]at hF hA;have fa:=XN I.hok new;refine Pe (s:={s with heap:=h'}) hA hF hfr he hd h1 fun h2 T2 hT2 tr k=>⟨T2,J.os,J.bare,?_,?_,Vd I hex new,?_,fa,J.hok.fresh hT2,by rw[←hc];exact tr⟩
 ·exact Jp J hex (by rw[hst];exact k) fun b hb=>by rw[Z4.mp hb];exact Vd I hex new
 ·exact Uv J.hok k (fun b hb=>J.stkFree b (by rw[hst];exact hb)) fun b hb=>by rw[Z4.mp hb];exact fa
 ·exact Wa (Z8 J.sz hT2)
end
structure ErrCls (K:Za) (C:Addr):Prop where
 q:PySem.W.excIn K C [.type "ValueError",.type "Exception",.type "BaseException",.type "object"] "ValueError.__new__"=true
def ErrCls.obj {K:Za}{C:Addr}{h:Heap} (c:ErrCls K C) (k:K.In h):∃bm N nm q bs hdct sn sub ab col dd k0 k1 k2 k3 k5 mN,h.get? C=some (excClassObj nm q C N bs bm hdct sn sub ab col dd k0 k1 k2 k3 k5 "ValueError.__new__")/\h.Ns N mN/\mN "__init__"=none/\
  OwnTail h [.type "ValueError",.type "Exception",.type "BaseException",.type "object"] bm:=by
 have e:=c.q;unfold PySem.W.excIn at e;split at e
 next dd cd sl ho=>
  split at e
  next C1 bm k0 k1 k2 k3 n k5 hm hs=>
   simp only[ZO,beq_iff_eq,Bool.not_eq_true']at e;obtain⟨⟨⟨⟨⟨e1,e2⟩,e3⟩,e4⟩,e5⟩,e6⟩:=e;subst e1 e2;have hg:=k _ _ ho;cases cd with
   |mk nm bs mro ns qn hd sn sub ab col del=>
    simp only at hm e3 e5 e6
    have hsl:sl=#[k0,k1,k2,k3,some (.builtin "ValueError.__new__"),k5]:=by
     cases sl with
     |mk l=>simp only at hs;rw[hs]
    rw[hm,e3,hsl]at hg;exact⟨bm,ns,nm,qn,bs,hd,sn,sub,ab,col,dd,k0,k1,k2,k3,k5,_,hg,.of_isNs (PySem.W.isNs_of_in k e5),PySem.W.nsMap_none_of_in k e5 e6,PySem.W.tail_of_in k e4⟩
  next=>cases e
 next=>cases e
abbrev TF:=L2.St->Hp->Str->(Str->Hp->Prop)->Prop
def Xo(X:Cx)(E:XK):Prop:=∀(pins:List (Addr×Obj)) (σ:L2.St) (H:Hp) (s:Shared) (C a:Addr) (h':Heap) (args:List Value),Inv X pins σ H s->Heap.MadeExcOf s.heap h' a (.ref C) args->E (.ref C) none H->X.xe (.ref a) {s with heap:=h'}
def UT(C:Addr)(E:XK)(t:TA):TS:=fun _ σ H=>t σ H fun vs H1=>vs.length<=sizeLine/\E (.ref C) none H1
section
variable {X:Cx}{x:Str}{C:Addr}{E:XK}{e:Expr}{es:List Expr}{t:TA}{p cpos pos:Pos}
def Te(c:ErrCls X.K C)(hm:X.mg x=some (.ref C))(hR:Xo X E)(hc:X.calm=true)(ha:PA X (e::es) t)(hg:Gl X x:=by rfl)(hdb:(x==("__debug__" : Str))=false:=by decide)(he:starEach (e::es) X.env=(false,eval e X.env)::starEach es X.env:=by rfl)(hpl:(backTo cpos (starEach es X.env)).any (·.1)=false:=by rfl):PS X (.Raise (some (.Call (.Name x p) (e::es) [] cpos)) none pos) (UT C E t):=by
 intro pins s σ H D I h;obtain⟨bm,N,nm,q,bs,hdct,sn,sub,ab,col,dd,k0,k1,k2,k3,k5,mN,hC,hN,hni,hT⟩:=c.obj I.ok.mod.kin
 have hpl':(backTo cpos (starEach (e::es) X.env)).any (·.1)=false:=by
  rw[he];show(false || (backTo cpos (starEach es X.env)).any (·.1))=false;rw[hpl];rfl
 refine wpAny_Raise_call_subU (C:=C) (nm:=nm) (q:=q) (N:=N) (bs:=bs) (bm:=bm) (hdct:=hdct) (sn:=sn) (sub:=sub) (ab:=ab) (col:=col) (dd:=dd) (k0:=k0) (k1:=k1) (k2:=k2) (k3:=k3) (k5:=k5)
  PySem.F.excBase_ValueError (by decide +kernel) PySem.F.excBase_ValueError (hT.hasType (by decide +kernel)) (I.ok.hd hc) hpl' hni (VJ I hg hm ⟨rfl,?_⟩ hdb)
 have hA:=ha cpos pins s σ H _ I h;rw[he]at hA ⊢;refine Calls.evalArgs_plain (thn hA fun us s2 ⟨vs,H2,I2,r2,q1,q2⟩=>⟨rfl,by rw[←r2.length];exact q1,I2.bk _ _ hC,hN.keeps I2.bk,hT.keeps I2.bk,fun h' a hm'=>?_⟩);exact hR pins σ H2 s2 C a h' us I2 hm' q2
end
section
variable {P:Program}{w:World}{K:Za}{mg:Str->Option Value}{base:Heap}{N ps:List Str}{qual x:Str}{scope:Scope}{f:Addr}{cd:Value}{A:Around}{outer:List Env}{s:Shared}{H:Hp}{E:XK}
def XH:Xo (cxOf (CXe P w) P w K mg base N qual scope f cd A outer s H E) E:=by
 intro pins σ H1 s1 C a h' args I m q;obtain⟨t,ht,_,_⟩:=m.there;exact ZM (PQ I rfl rfl rfl m.keeps m.new ht rfl rfl rfl) (fun _ s3 ⟨T2,y⟩=>⟨a,T2,C,H1,rfl,y,q⟩) fun _ _ z=>z
def Pi:QG (CXe P w) (cxOf (CXe P w) P w K mg base N qual scope f cd A outer s H E) E:=by
 rintro pins σ H1 s1 e s2 I ⟨a,T,C,H',rfl,y,q⟩;exact ZM (Nc I rfl rfl rfl y) (fun _ s3 ⟨T2,z⟩=>⟨a,T2,C,H',rfl,z,q⟩) fun _ _ z=>z
def Xt:PassesOwn (model P w) (cxOf (CXe P w) P w K mg base N qual scope f cd A outer s H E).A (cxOf (CXe P w) P w K mg base N qual scope f cd A outer s H E).env (cxOf (CXe P w) P w K mg base N qual scope f cd A outer s H E).xe:=PassesOwn.leaving
def Def.okX {st:Stmt}{k:Nat}{sp:Sp} (D:Own.Def K mg x st ps) (S:FnScope N ps (W8 st)) (len:∀vs H Q E,sp vs H Q E->vs.length=ps.length)
  (hbody:∀(f:Addr) (cdv:Value) (A:Around) (outer:List Env) (s:Shared) (H:Hp) (vs:List V) (Q:VK) (E:XK),Room k (A.deeper (envOfC x (W8 st) s.heap.objs.size f cdv))->sp vs H Q E->
   ∃t,PSs (cxOf (CXe P w) P w K mg base N x (W8 st) f cdv A outer s H E) (WT st) t/\t {nx:=fun _ H'=>Q .non H',rt:=Q} (start N vs) H):Own.Callee P w K mg base (CXe P w) (k+1) x ps sp:=by
 obtain⟨f,fd,F,hm,hb⟩:=D.ex;have kp:=F.kp;obtain⟨oc,od,kV,doc,pm,an,cdv,ct,osl,rfl,lk,hcd⟩:=F.ex;exact⟨f,_,JE lk hcd S len fun A outer s H vs Q E hr hsp=>hbody f cdv A outer s H vs Q E hr hsp,hm,kp,⟨_,lk,rfl⟩,hb⟩
end
end ExcR
namespace ExcR
open PySem PySem.Spec PyProof.Rows L2
open Sem (wp)
structure ErrGet (K:Za) (C:Addr):Prop where
 c:ErrCls K C
 ga:PySem.W.findIn K (.ref C) "__getattribute__"=some (some (.builtin "BaseException.__getattribute__"))
 gt:PySem.W.findIn K (.ref C) "__getattr__"=some none
 cl:PySem.W.findIn K (.ref C) "__class__"=some (some (.builtin "object.__class__"))
 is:(PySem.W.clsIn K C).isSome=true
end ExcR
namespace ExcR
open PySem PySem.Spec PyProof.Rows L2
def ErrH(a C:Addr):HO:=.ext fun h=>∃o,h.get? a=some o/\o.cls=.ref C/\∃vs,o.data=.fields vs
def sufD(i:Nat)(D:Ends):Ends:={nx:=fun σ H=>D.nx (σ.set i none) H,rt:=D.rt,bk:=fun σ H=>D.bk (σ.set i none) H,ct:=fun σ H=>D.ct (σ.set i none) H}
def hx(K:Za)(C0:Addr)(i:Nat)(ts:TS)(D:Ends):L2.St->XK:=fun σ c _ H=>∃C,c=.ref C/\ErrGet K C/\PySem.W.exmOne K (.ref C) (.ref C0)=some true/\
 ∀a,H a=none->ts (sufD i D) (σ.set i (some (.ref a))) (upd H a (ErrH a C))
def WR(mg:Str->Option Value)(x:Str):Addr:=match mg x with
 |some (.ref C)=>C
 |_=>0
def Xy{mg:Str->Option Value}{x:Str}{C:Addr}(h:mg x=some (.ref C)):WR mg x=C:=by unfold WR;rw[h]
end ExcR
namespace Own
open PySem PySem.Spec PyProof.Rows L2 M
section
variable {X:Cx}{pins:List (Addr×Obj)}{σ:L2.St}{H:Hp}{s:Shared}
def eP(H:Hp)(q:Int×Int)(u:Value):Bool:=match u with
 | .ref a=>(match H a with
  |some (.tup [.int i,.int j])=>decide ((i,j)=q)
  |_=>false)
 |_=>false
end
end Own
namespace M
open PySem PySem.Spec PyProof.Rows L2 Own
section
variable {α:Type}{R:Hp->V->α->Prop}{H:Hp}
def LV.cons_iff {v:V}{vs:List V}{x:α}{xs:List α}:LV R H (v::vs) (x::xs)↔R H v x/\LV R H vs xs:=by
 constructor
 ·intro h;obtain⟨v',e,r⟩:=h.2 0 x rfl;cases e
  exact⟨r,by simpa using h.1,fun i y e=>h.2 (i+1) y e⟩
 ·rintro⟨r,h⟩;refine⟨by simp[h.1],fun i y e=>?_⟩;cases i with
  |zero=>cases e;exact⟨v,rfl,r⟩
  |succ i=>exact h.2 i y e
def pick(c:α->Bool)(d:V×α):Option V:=if c d.2=true then some d.1 else none
end
end M
namespace M
def sl:List Int->List Int->Prop
 |x::xs,y::ys=>x<y\/(x=y/\sl xs ys)
 |_,_=>False
end M
namespace Pu
open PySem PySem.Spec PyProof.Rows L2 Own
inductive D where
 |int (i:Int)|bl (b:Bool)|non|str (x:Str)|ty (n:String)|tup (ds:List D)|lst (ds:List D)|scr (ns:List Int)|dK (kvs:List (Key×V))|dT (kvs:List (List Key×V))|loc (a:Addr) (d:D)|err (C:Addr)|ref (a:Addr)|ins (C:Addr) (xs:List Str) (ds:List D)|dF (kvs:List (List Key×V))
mutual
inductive Rp (K:Za) (H:Hp):D->V->Prop
 |int (i:Int):Rp K H (.int i) (.int i)
 |bl (b:Bool):Rp K H (.bl b) (.bl b)
 |non:Rp K H .non .non
 |str (x:Str):Rp K H (.str x) (.str x)
 |ty (n:String):Rp K H (.ty n) (.ty n)
 |tup {ds:List D} {vs:List V} {a:Addr}:H a=some (.tup vs)->Rps K H ds vs->Rp K H (.tup ds) (.ref a)
 |lst {ds:List D} {vs:List V} {a:Addr}:H a=some (.lst vs)->Rps K H ds vs->Rp K H (.lst ds) (.ref a)
 |scr {ns:List Int} {a:Addr}:SqL K H a (ns.map V.int)->Rp K H (.scr ns) (.ref a)
 |dK {kvs:List (Key×V)} {a:Addr}:H a=some (.dK kvs)->Rp K H (.dK kvs) (.ref a)
 |dT {kvs:List (List Key×V)} {a:Addr}:H a=some (.dT kvs)->Rp K H (.dT kvs) (.ref a)
 |dF {kvs:List (List Key×V)} {o:Obj} {a:Addr}:H a=some (.frz o (.dT kvs))->Rp K H (.dF kvs) (.ref a)
 |loc {d:D} {a:Addr}:Rp K H d (.ref a)->Rp K H (.loc a d) (.ref a)
 |err {C a:Addr}:H a=some (ExcR.ErrH a C)->Rp K H (.err C) (.ref a)
 |ref (a:Addr):Rp K H (.ref a) (.ref a)
 |ins {C a dx:Addr} {xs:List Str} {ds:List D} {vs:List V}:H a=some (.ins C dx (xs.zip vs))->xs.length=vs.length->Rps K H ds vs->Rp K H (.ins C xs ds) (.ref a)
inductive Rps (K:Za) (H:Hp):List D->List V->Prop
 |nil:Rps K H [] []
 |cons {d:D} {v:V} {ds:List D} {vs:List V}:Rp K H d v->Rps K H ds vs->Rps K H (d::ds) (v::vs)
end
section
variable {K:Za}{H H':Hp}
mutual
def Rp.mono (S:Same H H'):∀{d:D}{v:V},Rp K H d v->Rp K H' d v
 |_,_,.int i=>.int i
 |_,_,.bl b=>.bl b
 |_,_,.non=>.non
 |_,_,.str x=>.str x
 |_,_,.ty n=>.ty n
 |_,_,.tup h r=>.tup (S _ _ h) (Rps.mono S r)
 |_,_,.lst h r=>.lst (S _ _ h) (Rps.mono S r)
 |_,_,.scr h=>.scr (S.seq h)
 |_,_,.dK h=>.dK (S _ _ h)
 |_,_,.dT h=>.dT (S _ _ h)
 |_,_,.loc h=>.loc (Rp.mono S h)
 |_,_,.dF h=>.dF (S _ _ h)
 |_,_,.err h=>.err (S _ _ h)
 |_,_,.ref a=>.ref a
 |_,_,.ins h e r=>.ins (S _ _ h) e (Rps.mono S r)
def Rps.mono (S:Same H H'):∀{ds:List D}{vs:List V},Rps K H ds vs->Rps K H' ds vs
 |_,_,.nil=>.nil
 |_,_,.cons h r=>.cons (Rp.mono S h) (Rps.mono S r)
end
def Rps.len:∀{ds:List D}{vs:List V},Rps K H ds vs->vs.length=ds.length
 |_,_,.nil=>rfl
 |_,_,.cons _ r=>ZN (· + 1) (Rps.len r)
def Rps.get:∀{ds:List D}{vs:List V}{i:Nat}{d:D},Rps K H ds vs->ds[i]?=some d->∃v,vs[i]?=some v/\Rp K H d v
 |_,_,_,_,.nil,e=>by simp at e
 |_,_,0,_,.cons h _,e=>by simp at e;subst e;exact⟨_,rfl,h⟩
 |_,_,i+1,d,.cons _ r,e=>by
  obtain⟨v,h1,h2⟩:=Rps.get (i:=i) (d:=d) r (by simpa using e);exact⟨v,by simpa using h1,h2⟩
def Rps.getV:∀{ds:List D}{vs:List V}{i:Nat}{v:V},Rps K H ds vs->vs[i]?=some v->∃d,ds[i]?=some d/\Rp K H d v
 |_,_,_,_,.nil,e=>by simp at e
 |_,_,0,_,.cons h _,e=>by simp at e;subst e;exact⟨_,rfl,h⟩
 |_,_,i+1,d,.cons _ r,e=>by
  obtain⟨v,h1,h2⟩:=Rps.getV (i:=i) (v:=d) r (by simpa using e);exact⟨v,by simpa using h1,h2⟩
def Rps.append:∀{ds es:List D}{vs us:List V},Rps K H ds vs->Rps K H es us->Rps K H (ds++es) (vs++us)
 |_,_,_,_,.nil,s=>s
 |_,_,_,_,.cons h r,s=>.cons h (Rps.append r s)
end
mutual
def imm:D->Bool
 | .tup ds=>imms ds
 | .lst _=>false
 | .scr _=>false
 | .dK _=>false
 | .dT _=>false
 | .loc _ _=>false
 | .err _=>false
 | .ins _ _ _=>false
 |_=>true
def imms:List D->Bool
 |[]=>true
 |d::r=>imm d&&imms r
end
open Classical in
noncomputable def off(Z:Addr->Prop)(H:Hp):Hp:=fun b=>if Z b then none else H b
section
variable {K:Za}{H H':Hp}{Z Z':Addr->Prop}
def QD{b:Addr}{o:HO}(h:off Z H b=some o):H b=some o/\¬Z b:=by
 unfold off at h;by_cases z:Z b
 ·rw[Z0 z]at h;cases h
 ·rw[Z2 z]at h;exact⟨h,z⟩
def Qe{b:Addr}{o:HO}(h:H b=some o)(z:¬Z b):off Z H b=some o:=by
 unfold off;rw[Z2 z];exact h
def WA(S:Same H H')(hz:∀b o,H b=some o->¬Z b->¬Z' b):Same (off Z H) (off Z' H'):=fun b o h=>by
 obtain⟨h1,h2⟩:=QD h;exact Qe (S b o h1) (hz b o h1 h2)
def off_sub:Same (off Z H) H:=fun _ _ h=>(QD h).1
mutual
def Rp.off (hm:∀b,Z b->Mut (H b)):∀{d:D}{v:V},Rp K H d v->imm d=true->Rp K (off Z H) d v
 |_,_,.int i,_=>.int i
 |_,_,.bl b,_=>.bl b
 |_,_,.non,_=>.non
 |_,_,.str x,_=>.str x
 |_,_,.ty n,_=>.ty n
 |_,_,.tup h r,e=>.tup (Qe h fun z=>by have:=hm _ z;rw[h]at this;exact this) (Rps.off hm r (by unfold imm at e;exact e))
 |_,_,.lst _ _,e=>by unfold imm at e;cases e
 |_,_,.scr _,e=>by unfold imm at e;cases e
 |_,_,.dK _,e=>by unfold imm at e;cases e
 |_,_,.dT _,e=>by unfold imm at e;cases e
 |_,_,.loc _,e=>by unfold imm at e;cases e
 |_,_,.dF h,_=>.dF (Qe h fun z=>by have:=hm _ z;rw[h]at this;exact this)
 |_,_,.err _,e=>by unfold imm at e;cases e
 |_,_,.ref a,_=>.ref a
 |_,_,.ins _ _ _,e=>by unfold imm at e;cases e
def Rps.off (hm:∀b,Z b->Mut (H b)):∀{ds:List D}{vs:List V},Rps K H ds vs->imms ds=true->Rps K (off Z H) ds vs
 |_,_,.nil,_=>.nil
 |_,_,.cons h r,e=>by
  unfold imms at e;rw[ZO]at e;exact .cons (Rp.off hm h e.1) (Rps.off hm r e.2)
end
end
inductive O where
 |lst (ds:List D)|dK (kvs:List (Key×V))|dT (kvs:List (List Key×V))|ins (a C:Addr) (xs:List Str) (cs:List (Addr×List D))|lsA (a:Addr) (ds:List D)|nst (cs:List (Addr×List D))|nsl (a:Addr) (cs:List (Addr×List D))
instance:Coe (List D) O:=⟨O.lst⟩
def O.d:O->D
 | .lst ds=>.lst ds | .dK kvs=>.dK kvs | .dT kvs=>.dT kvs | .ins _ C xs cs=>.ins C xs (cs.map fun c=>.lst c.2) | .lsA _ ds=>.lst ds | .nst cs=>.tup (cs.map fun c=>.lst c.2) | .nsl _ cs=>.lst (cs.map fun c=>.lst c.2)
def O.adr (a:Addr):O->Addr->Prop
 | .lst _=>fun b=>b=a
 | .dK _=>fun b=>b=a
 | .dT _=>fun b=>b=a
 | .ins x _ _ cs=>fun b=>b=x\/∃c∈cs,b=c.1
 | .lsA x _=>fun b=>b=x
 | .nst cs=>fun b=>∃c∈cs,b=c.1
 | .nsl x cs=>fun b=>b=x\/∃c∈cs,b=c.1
def OR(K:Za)(F H:Hp)(a:Addr):O->Prop
 | .lst ds=>∃vs,H a=some (.lst vs)/\Rps K F ds vs
 | .dK kvs=>H a=some (.dK kvs)
 | .dT kvs=>H a=some (.dT kvs)
 | .lsA x ds=>a=x/\∃vs,H a=some (.lst vs)/\Rps K F ds vs
 | .ins x C xs cs=>a=x/\xs.length=cs.length/\(∃dx,H a=some (.ins C dx (xs.zip (cs.map fun c=>V.ref c.1))))/\(∀c∈cs,∃vs,H c.1=some (.lst vs)/\Rps K F c.2 vs)/\(cs.map (·.1)).Nodup
 | .nsl x cs=>a=x/\H a=some (.lst (cs.map fun c=>V.ref c.1))/\(∀c∈cs,∃vs,H c.1=some (.lst vs)/\Rps K F c.2 vs)/\(x::cs.map (·.1)).Nodup
 | .nst cs=>F a=some (.tup (cs.map fun c=>V.ref c.1))/\(∀c∈cs,∃vs,H c.1=some (.lst vs)/\Rps K F c.2 vs)/\(cs.map (·.1)).Nodup
def OR.mono {K:Za}{F F' H H':Hp}{a:Addr}{o:O} (S1:Same F F') (S2:∀b,o.adr a b->∀x,H b=some x->H' b=some x) (h:OR K F H a o):OR K F' H' a o:=by
 cases o with
 |lst ds=>obtain⟨vs,h1,h2⟩:=h;exact⟨vs,S2 _ rfl _ h1,Rps.mono S1 h2⟩
 |dK kvs=>exact S2 _ rfl _ h
 |dT kvs=>exact S2 _ rfl _ h
 |lsA x ds=>obtain⟨rfl,vs,h1,h2⟩:=h;exact⟨rfl,vs,S2 _ rfl _ h1,Rps.mono S1 h2⟩
 |nsl x cs=>
  obtain⟨e,h1,h2,h3⟩:=h;exact⟨e,S2 _ (.inl e) _ h1,fun c hc=>let ⟨vs,q1,q2⟩:=h2 c hc;⟨vs,S2 _ (.inr ⟨c,hc,rfl⟩) _ q1,Rps.mono S1 q2⟩,h3⟩
 |nst cs=>
  obtain⟨h1,h2,h3⟩:=h;exact⟨S1 _ _ h1,fun c hc=>let ⟨vs,q1,q2⟩:=h2 c hc;⟨vs,S2 _ ⟨c,hc,rfl⟩ _ q1,Rps.mono S1 q2⟩,h3⟩
 |ins x C xs cs=>
  obtain⟨e,l,⟨dx,h1⟩,h2,h3⟩:=h;exact⟨e,l,⟨dx,S2 _ (.inl e) _ h1⟩,fun c hc=>let ⟨vs,q1,q2⟩:=h2 c hc;⟨vs,S2 _ (.inr ⟨c,hc,rfl⟩) _ q1,Rps.mono S1 q2⟩,h3⟩
def Qw{K:Za}{F:Hp}:∀{cs:List (Addr×List D)},(∀c∈cs,∃vs,F c.1=some (.lst vs)/\Rps K F c.2 vs)->Rps K F (cs.map fun c=>.lst c.2) (cs.map fun c=>V.ref c.1)
 |[],_=>.nil
 |c::cs,h=>let ⟨_,q1,q2⟩:=h c ZL;.cons (.lst q1 q2) (Qw fun c' hc=>h c' (ZE _ hc))
def OR.rpIn {K:Za}{F F' H:Hp}{a:Addr}{o:O} (S1:Same F F') (S2:∀b,o.adr a b->∀x,H b=some x->F' b=some x) (h:OR K F H a o):Rp K F' o.d (.ref a):=by
 cases o with
 |lst ds=>obtain⟨vs,h1,h2⟩:=h;exact .lst (S2 _ rfl _ h1) (Rps.mono S1 h2)
 |dK kvs=>exact .dK (S2 _ rfl _ h)
 |dT kvs=>exact .dT (S2 _ rfl _ h)
 |lsA x ds=>obtain⟨rfl,vs,h1,h2⟩:=h;exact .lst (S2 _ rfl _ h1) (Rps.mono S1 h2)
 |nsl x cs=>
  obtain⟨e,h1,h2,h3⟩:=h;exact .lst (S2 _ (.inl e) _ h1) (Qw fun c hc=>let ⟨vs,q1,q2⟩:=h2 c hc;⟨vs,S2 _ (.inr ⟨c,hc,rfl⟩) _ q1,Rps.mono S1 q2⟩)
 |nst cs=>
  obtain⟨h1,h2,h3⟩:=h;exact .tup (S1 _ _ h1) (Qw fun c hc=>let ⟨vs,q1,q2⟩:=h2 c hc;⟨vs,S2 _ ⟨c,hc,rfl⟩ _ q1,Rps.mono S1 q2⟩)
 |ins x C xs cs=>
  obtain⟨e,l,⟨dx,h1⟩,h2,h3⟩:=h;exact .ins (S2 _ (.inl e) _ h1) (by rw[Zs];exact l) (Qw fun c hc=>let ⟨vs,q1,q2⟩:=h2 c hc;⟨vs,S2 _ (.inr ⟨c,hc,rfl⟩) _ q1,Rps.mono S1 q2⟩)
def OR.rp {K:Za}{F H:Hp}{a:Addr}{o:O} (S1:Same F H) (h:OR K F H a o):Rp K H o.d (.ref a):=h.rpIn S1 fun _ _ _ e=>e
def OR.mut {K:Za}{F H:Hp}{a:Addr}{o:O} (h:OR K F H a o):∀b,o.adr a b->Mut (H b):=by
 cases o with
 |lst ds=>obtain⟨vs,h1,h2⟩:=h;intro b e;rw[show b=a from e,h1];trivial
 |dK kvs=>intro b e;rw[show b=a from e,show H a=some (.dK kvs)from h];trivial
 |dT kvs=>intro b e;rw[show b=a from e,show H a=some (.dT kvs)from h];trivial
 |lsA x ds=>obtain⟨rfl,vs,h1,h2⟩:=h;intro b e;rw[show b=a from e,h1];trivial
 |nsl x cs=>
  obtain⟨e,h1,h2,h3⟩:=h;intro b hb;rcases hb with hb|⟨c,hc,hb⟩
  ·rw[show b=a from hb.trans e.symm,h1];trivial
  ·obtain⟨vs,q1,_⟩:=h2 c hc;rw[hb,q1];trivial
 |nst cs=>
  obtain⟨h1,h2,h3⟩:=h;rintro b ⟨c,hc,hb⟩;obtain⟨vs,q1,_⟩:=h2 c hc;rw[hb,q1];trivial
 |ins x C xs cs=>
  obtain⟨e,l,⟨dx,h1⟩,h2,h3⟩:=h;intro b hb;rcases hb with hb|⟨c,hc,hb⟩
  ·rw[show b=a from hb.trans e.symm,h1];trivial
  ·obtain⟨vs,q1,_⟩:=h2 c hc;rw[hb,q1];trivial
inductive S where
 |bor (d:D)|sh (d:D)|own (o:O)|view (o:O)|tmp (d:D)
abbrev Γ:=List (Option S)
def D.strip:D->D
 | .loc _ d=>d|d=>d
def Rp.strip {K:Za}{H:Hp}{d:D}{v:V} (h:Rp K H d v):Rp K H d.strip v:=by
 cases h with
 |loc h=>exact h
 |int i=>exact .int i
 |bl b=>exact .bl b
 |non=>exact .non
 |str x=>exact .str x
 |ty n=>exact .ty n
 |tup h r=>exact .tup h r
 |lst h r=>exact .lst h r
 |scr h=>exact .scr h
 |dK h=>exact .dK h
 |dT h=>exact .dT h
 |dF h=>exact .dF h
 |err h=>exact .err h
 |ref a=>exact .ref a
 |ins h e r=>exact .ins h e r
def S.d:S->D
 | .bor d=>d.strip | .sh d=>d | .own o=>o.d | .view o=>o.d | .tmp d=>d
def arg(d:D):S:=match imm d with|true=>.sh d|false=>.bor d
def argT(d:D):S:=match imm d with|true=>.sh d|false=>.tmp d
def S.sub:S->D->S
 | .bor _,e=>arg e | .tmp _,e=>argT e | .own (.nst _),e=>argT e | .view (.nst _),e=>argT e | .own (.nsl _ _),e=>argT e | .view (.nsl _ _),e=>argT e|_,e=>.sh e
def S.shd:S->Option D
 | .sh d=>some d | .own o=>some o.d
 | .bor d=>match imm d with|true=>some d|false=>none
 | .tmp d=>match imm d with|true=>some d|false=>none
 | .view _=>none
def S.slot:S->Option S
 | .view _=>none | .bor d=>some (.bor d) | .sh d=>some (.sh d) | .own ds=>some (.own ds)
 | .tmp d=>match imm d with|true=>some (.sh d)|false=>none
def Ky(γ:Γ)(σ:L2.St)(b:Addr):Prop:=∃(i:Nat) (ds:O) (a:Addr),γ[i]?=some (some (.own ds))/\σ[i]?=some (some (.ref a))/\ds.adr a b
def zof(B:Addr->Prop)(γ:Γ)(σ:L2.St):Addr->Prop:=fun b=>B b\/Ky γ σ b
def SV(K:Za)(Z:Addr->Prop)(H0 H:Hp):S->V->Prop
 | .bor d,v=>Rp K H0 d v
 | .sh d,v=>Rp K (off Z H) d v
 | .own o,v=>∃a,v=.ref a/\(∀b,o.adr a b->H0 b=none)/\OR K (off Z H) H a o
 |_,_=>False
def TV(K:Za)(Z:Addr->Prop)(H0 H H':Hp):S->V->Prop
 | .bor d,v=>Rp K H0 d v
 | .sh d,v=>Rp K (off Z H') d v
 | .own o,v=>∃a,v=.ref a/\(∀b,o.adr a b->H b=none)/\OR K (off (fun b=>Z b\/o.adr a b) H') H' a o
 | .view o,v=>∃a,v=.ref a/\OR K (off Z H') H' a o
 | .tmp d,v=>Rp K H' d v
structure EnvR (K:Za) (H0:Hp) (B:Addr->Prop) (H:Hp) (σ:L2.St) (γ:Γ):Prop where
 same:Same H0 H
 len:σ.length=γ.length
 bm:∀b,B b->Mut (H b)
 own:∀(i j:Nat) (a a':Addr) (ds es:O) (b:Addr),γ[i]?=some (some (.own ds))->γ[j]?=some (some (.own es))->σ[i]?=some (some (.ref a))->σ[j]?=some (some (.ref a'))->ds.adr a b->es.adr a' b->i=j
 slot:∀(i:Nat) (s:S),γ[i]?=some (some s)->∃v,σ[i]?=some (some v)/\SV K (zof B γ σ) H0 H s v
section
variable {K:Za}{H0 H H1 H':Hp}{B Z Z':Addr->Prop}{σ:L2.St}{γ:Γ}
def Qu(S:Same H H'){b:Addr}(h:Mut (H b)):Mut (H' b):=by
 cases e:H b with
 |none=>rw[e]at h;exact h.elim
 |some o=>rw[S b o e,←e];exact h
def Vo{b:Addr}(h:Mut (H b)):∃o,H b=some o:=by
 cases e:H b with
 |none=>rw[e]at h;exact h.elim
 |some o=>exact⟨o,rfl⟩
def EnvR.grow (E:EnvR K H0 B H σ γ) (S:Same H H'):EnvR K H0 B H' σ γ where
 same:=E.same.trans S
 len:=E.len
 bm b h:=Qu S (E.bm b h)
 own:=E.own
 slot i s h:=by
  obtain⟨v,h1,h2⟩:=E.slot i s h;refine⟨v,h1,?_⟩;cases s with
  |bor d=>exact h2
  |sh d=>exact Rp.mono (WA S fun _ _ _ z=>z) h2
  |own ds=>
   obtain⟨a,e1,e3,e4⟩:=h2;exact⟨a,e1,e3,e4.mono (WA S fun _ _ _ z=>z) fun b _ x=>S b x⟩
  |view ds=>exact h2
  |tmp d=>exact h2
def EnvR.zm (E:EnvR K H0 B H σ γ):∀b,zof B γ σ b->Mut (H b):=fun b h=>by
 rcases h with h|⟨i,ds,x,h1,h2,hb⟩
 ·exact E.bm b h
 ·obtain⟨v,e1,a,e2,e3,e4⟩:=E.slot i _ h1;rw[h2]at e1;cases e1
  cases e2
  exact e4.mut b hb
def TV.rp {s:S}{v:V} (h0:Same H0 H') (h:TV K Z H0 H H' s v):Rp K H' s.d v:=by
 cases s with
 |bor d=>exact(Rp.mono h0 h).strip
 |sh d=>exact Rp.mono off_sub h
 |own ds=>
  obtain⟨a,rfl,_,r⟩:=h;exact r.rp off_sub
 |view ds=>
  obtain⟨a,rfl,r⟩:=h;exact r.rp off_sub
 |tmp d=>exact h
def TV.grow {s:S}{v:V} (S1:Same H' H1) (h:TV K Z H0 H H' s v):TV K Z H0 H H1 s v:=by
 cases s with
 |bor d=>exact h
 |sh d=>exact Rp.mono (WA S1 fun _ _ _ z=>z) h
 |own ds=>
  obtain⟨a,rfl,e0,r⟩:=h;exact⟨a,rfl,e0,r.mono (WA S1 fun _ _ _ z=>z) fun b _ x=>S1 b x⟩
 |view ds=>
  obtain⟨a,rfl,r⟩:=h;exact⟨a,rfl,r.mono (WA S1 fun _ _ _ z=>z) fun b _ x=>S1 b x⟩
 |tmp d=>exact Rp.mono S1 h
def TV.weak {s:S}{v:V} (S1:Same H H1) (hz:∀b,Z b->Z' b) (h:TV K Z' H0 H1 H' s v):TV K Z H0 H H' s v:=by
 cases s with
 |bor d=>exact h
 |sh d=>exact Rp.mono (WA (Same.refl _) fun b _ _ z y=>z (hz b y)) h
 |own ds=>
  obtain⟨a,rfl,e0,r⟩:=h;exact⟨a,rfl,fun b hb=>S1.free (e0 b hb),r.mono (WA (Same.refl _) fun b _ _ z y=>z (y.imp (hz b) id)) fun _ _ _ q=>q⟩
 |view ds=>
  obtain⟨a,rfl,r⟩:=h;exact⟨a,rfl,r.mono (WA (Same.refl _) fun b _ _ z y=>z (hz b y)) fun _ _ _ q=>q⟩
 |tmp d=>exact h
def TV.shd {s:S}{v:V}{d:D} (h0:Same H0 H') (hm:∀b,Z b->Mut (H b)) (S1:Same H H') (h:TV K Z H0 H H' s v) (e:s.shd=some d):Rp K (off Z H') d v:=by
 have hm':∀b,Z b->Mut (H' b):=fun b z=>Qu S1 (hm b z);cases s with
 |bor d'=>
  unfold S.shd at e;cases q:imm d' with
  |false=>simp[q]at e
  |true=>
   simp[q]at e;subst e;exact Rp.off hm' (Rp.mono h0 h) q
 |sh d'=>cases e;exact h
 |own ds=>
  cases e
  obtain⟨a,rfl,e0,r⟩:=h;exact r.rpIn (WA (Same.refl _) fun b _ _ z y=>z (.inl y)) fun b hb x e=>Qe e fun z=>by have:=hm _ z;rw[e0 b hb]at this;exact this
 |view ds=>cases e
 |tmp d'=>
  unfold S.shd at e;cases q:imm d' with
  |false=>simp[q]at e
  |true=>
   simp[q]at e;subst e;exact Rp.off hm' h q
def argR{d:D}{v:V}(hm:∀b,Z b->Mut (H' b))(h0:Same H0 H')(h:Rp K H0 d v):TV K Z H0 H H' (arg d) v:=by
 unfold arg;cases q:imm d with
 |true=>exact Rp.off hm (Rp.mono h0 h) q
 |false=>exact h
def Qi{d:D}{v:V}(hm:∀b,Z b->Mut (H' b))(h:Rp K H' d v):TV K Z H0 H H' (argT d) v:=by
 unfold argT;cases q:imm d with
 |true=>exact Rp.off hm h q
 |false=>exact h
def Rp.lst_inv {ds:List D}{v:V} (h:Rp K H (.lst ds) v):∃a vs,v=.ref a/\H a=some (.lst vs)/\Rps K H ds vs:=by
 cases h with
 |lst h r=>exact⟨_,_,rfl,h,r⟩
def Rp.tup_inv {ds:List D}{v:V} (h:Rp K H (.tup ds) v):∃a vs,v=.ref a/\H a=some (.tup vs)/\Rps K H ds vs:=by
 cases h with
 |tup h r=>exact⟨_,_,rfl,h,r⟩
def TV.part {s:S}{v:V} (h0:Same H0 H') (hm:∀b,Z b->Mut (H b)) (S1:Same H H') (h:TV K Z H0 H H' s v) :
  (∀ds,s.d=.lst ds->∃a vs,v=.ref a/\H' a=some (.lst vs)/\vs.length=ds.length/\∀(i:Nat) d,ds[i]?=some d->∃u,vs[i]?=some u/\TV K Z H0 H H' (s.sub d) u)/\
  (∀ds,s.d=.tup ds->∃a vs,v=.ref a/\H' a=some (.tup vs)/\vs.length=ds.length/\∀(i:Nat) d,ds[i]?=some d->∃u,vs[i]?=some u/\TV K Z H0 H H' (s.sub d) u):=by
 have hm':∀b,Z b->Mut (H' b):=fun b z=>Qu S1 (hm b z);cases s with
 |bor d=>
  have h:=Rp.strip h;refine⟨fun ds e=>?_,fun ds e=>?_⟩<;>rw[show d.strip=_ from e]at h
  ·obtain⟨a,vs,rfl,h,r⟩:=Rp.lst_inv h;exact⟨_,_,rfl,h0 _ _ h,r.len,fun i d e=>let ⟨u,h1,h2⟩:=r.get e;⟨u,h1,argR hm' h0 h2⟩⟩
  ·obtain⟨a,vs,rfl,h,r⟩:=Rp.tup_inv h;exact⟨_,_,rfl,h0 _ _ h,r.len,fun i d e=>let ⟨u,h1,h2⟩:=r.get e;⟨u,h1,argR hm' h0 h2⟩⟩
 |sh d=>
  refine⟨fun ds e=>?_,fun ds e=>?_⟩<;>(have e':d=_:=e;subst e')
  ·obtain⟨a,vs,rfl,h,r⟩:=Rp.lst_inv h;exact⟨_,_,rfl,off_sub _ _ h,r.len,fun i d e=>r.get e⟩
  ·obtain⟨a,vs,rfl,h,r⟩:=Rp.tup_inv h;exact⟨_,_,rfl,off_sub _ _ h,r.len,fun i d e=>r.get e⟩
 |own es=>
  cases es with
  |lst es=>
   refine⟨fun ds e=>?_,fun ds e=>by cases e⟩;cases e
   obtain⟨a,rfl,e0,vs,e,r⟩:=h;exact⟨a,vs,rfl,e,r.len,fun i d e=>let ⟨u,h1,h2⟩:=r.get e;⟨u,h1,Rp.mono (WA (Same.refl _) fun b _ _ z y=>z (.inl y)) h2⟩⟩
  |lsA x es=>
   refine⟨fun ds e=>?_,fun ds e=>by cases e⟩;cases e
   obtain⟨a,rfl,e0,_,vs,e,r⟩:=h;exact⟨a,vs,rfl,e,r.len,fun i d e=>let ⟨u,h1,h2⟩:=r.get e;⟨u,h1,Rp.mono (WA (Same.refl _) fun b _ _ z y=>z (.inl y)) h2⟩⟩
  |dK es=>exact⟨(fun ds e=>by cases e),(fun ds e=>by cases e)⟩
  |dT es=>exact⟨(fun ds e=>by cases e),(fun ds e=>by cases e)⟩
  |nsl x cs=>
   refine⟨fun ds e=>?_,fun ds e=>by cases e⟩;cases e
   obtain⟨a,rfl,e0,_,e1,e2,e3⟩:=h;have r:Rps K H' (cs.map fun c=>D.lst c.2) (cs.map fun c=>V.ref c.1):=Qw fun c hc=>let ⟨vs,q1,q2⟩:=e2 c hc;⟨vs,q1,Rps.mono off_sub q2⟩;exact⟨a,_,rfl,e1,r.len,fun i d e=>let ⟨u,h1,h2⟩:=r.get e;⟨u,h1,Qi hm' h2⟩⟩
  |nst cs=>
   refine⟨(fun ds e=>by cases e),fun ds e=>?_⟩;cases e
   obtain⟨a,rfl,e0,e1,e2,e3⟩:=h;have r:Rps K H' (cs.map fun c=>D.lst c.2) (cs.map fun c=>V.ref c.1):=Qw fun c hc=>let ⟨vs,q1,q2⟩:=e2 c hc;⟨vs,q1,Rps.mono off_sub q2⟩;exact⟨a,_,rfl,off_sub _ _ e1,r.len,fun i d e=>let ⟨u,h1,h2⟩:=r.get e;⟨u,h1,Qi hm' h2⟩⟩
  |ins x C xs cs=>exact⟨(fun ds e=>by cases e),(fun ds e=>by cases e)⟩
 |view es=>
  cases es with
  |lst es=>
   refine⟨fun ds e=>?_,fun ds e=>by cases e⟩;cases e
   obtain⟨a,rfl,vs,e,r⟩:=h;exact⟨a,vs,rfl,e,r.len,fun i d e=>r.get e⟩
  |lsA x es=>
   refine⟨fun ds e=>?_,fun ds e=>by cases e⟩;cases e
   obtain⟨a,rfl,_,vs,e,r⟩:=h;exact⟨a,vs,rfl,e,r.len,fun i d e=>r.get e⟩
  |dK es=>exact⟨(fun ds e=>by cases e),(fun ds e=>by cases e)⟩
  |dT es=>exact⟨(fun ds e=>by cases e),(fun ds e=>by cases e)⟩
  |nsl x cs=>
   refine⟨fun ds e=>?_,fun ds e=>by cases e⟩;cases e
   obtain⟨a,rfl,_,e1,e2,e3⟩:=h;have r:Rps K H' (cs.map fun c=>D.lst c.2) (cs.map fun c=>V.ref c.1):=Qw fun c hc=>let ⟨vs,q1,q2⟩:=e2 c hc;⟨vs,q1,Rps.mono off_sub q2⟩;exact⟨a,_,rfl,e1,r.len,fun i d e=>let ⟨u,h1,h2⟩:=r.get e;⟨u,h1,Qi hm' h2⟩⟩
  |nst cs=>
   refine⟨(fun ds e=>by cases e),fun ds e=>?_⟩;cases e
   obtain⟨a,rfl,e1,e2,e3⟩:=h;have r:Rps K H' (cs.map fun c=>D.lst c.2) (cs.map fun c=>V.ref c.1):=Qw fun c hc=>let ⟨vs,q1,q2⟩:=e2 c hc;⟨vs,q1,Rps.mono off_sub q2⟩;exact⟨a,_,rfl,off_sub _ _ e1,r.len,fun i d e=>let ⟨u,h1,h2⟩:=r.get e;⟨u,h1,Qi hm' h2⟩⟩
  |ins x C xs cs=>exact⟨(fun ds e=>by cases e),(fun ds e=>by cases e)⟩
 |tmp d=>
  refine⟨fun ds e=>?_,fun ds e=>?_⟩<;>(have e':d=_:=e;subst e')
  ·obtain⟨a,vs,rfl,h,r⟩:=Rp.lst_inv h;exact⟨_,_,rfl,h,r.len,fun i d e=>let ⟨u,h1,h2⟩:=r.get e;⟨u,h1,Qi hm' h2⟩⟩
  ·obtain⟨a,vs,rfl,h,r⟩:=Rp.tup_inv h;exact⟨_,_,rfl,h,r.len,fun i d e=>let ⟨u,h1,h2⟩:=r.get e;⟨u,h1,Qi hm' h2⟩⟩
def Fr(B:Addr->Prop)(H:Hp)(σ:L2.St)(γ:Γ)(H':Hp)(σ':L2.St)(γ':Γ):Prop:=∀b o,H b=some o->¬zof B γ σ b->H' b=some o/\¬zof B γ' σ' b
def Fr.refl:Fr B H σ γ H σ γ:=fun _ _ h z=>⟨h,z⟩
def Fr.trans {H1 H2:Hp}{σ1 σ2:L2.St}{γ1 γ2:Γ} (a:Fr B H σ γ H1 σ1 γ1) (b:Fr B H1 σ1 γ1 H2 σ2 γ2):Fr B H σ γ H2 σ2 γ2:=fun x o h z=>let ⟨h1,z1⟩:=a x o h z;b x o h1 z1
def Fr.grow (S1:Same H H'):Fr B H σ γ H' σ γ:=fun _ _ h z=>⟨S1 _ _ h,z⟩
def WN{α:Type}{l:List α}{i j:Nat}{x y:α}(h:(l.set i x)[j]?=some y):(j=i/\x=y/\i<l.length)\/(j≠i/\l[j]?=some y):=by
 rw[List.getElem?_set]at h;by_cases e:i=j
 ·subst e;rw[Z0 rfl]at h;by_cases e2:i<l.length
  ·rw[Z0 e2]at h;exact .inl ⟨rfl,Zw h,e2⟩
  ·rw[Z2 e2]at h;cases h
 ·rw[Z2 e]at h;exact .inr ⟨fun z=>e z.symm,h⟩
def Vy{α:Type}{l:List α}{i:Nat}{x:α}(h:i<l.length):(l.set i x)[i]?=some x:=by rw[YR h]
def Q3{α:Type}{l:List α}{i j:Nat}{x:α}(h:j≠i):(l.set i x)[j]?=l[j]?:=Y8 fun z=>h z.symm
def EnvR.drop (E:EnvR K H0 B H σ γ) (i:Nat):EnvR K H0 B H σ (γ.set i none)/\Fr B H σ γ H σ (γ.set i none):=by
 have hz:∀b,zof B (γ.set i none) σ b->zof B γ σ b:=fun b z=>z.imp id fun⟨j,ds,a,h1,h2,h3⟩=>by
  rcases WN h1 with⟨_,e,_⟩|⟨_,e⟩
  ·cases e
  ·exact⟨j,ds,a,e,h2,h3⟩
 refine⟨⟨E.same,by rw[Yt];exact E.len,E.bm,fun k j a a' ds es b h1 h2=>?_,fun k s h=>?_⟩,fun b o h z=>⟨h,fun y=>z (hz b y)⟩⟩
 ·rcases WN h1 with⟨_,e,_⟩|⟨_,e1⟩
  ·cases e
  ·rcases WN h2 with⟨_,e,_⟩|⟨_,e2⟩
   ·cases e
   ·exact E.own k j a a' ds es b e1 e2
 ·rcases WN h with⟨_,e,_⟩|⟨_,e⟩
  ·cases e
  ·obtain⟨v,h1,h2⟩:=E.slot k s e;refine⟨v,h1,?_⟩;have S1:Same (Pu.off (zof B γ σ) H) (Pu.off (zof B (γ.set i none) σ) H):=WA (Same.refl _) fun b _ _ z y=>z (hz b y);cases s with
   |bor d=>exact h2
   |sh d=>exact Rp.mono S1 h2
   |own ds=>
    obtain⟨a,e1,e3,e4⟩:=h2;exact⟨a,e1,e3,e4.mono S1 fun _ _ _ q=>q⟩
   |view ds=>exact h2
   |tmp d=>exact h2
def EnvR.put {i:Nat}{s s':S}{v:V} (E:EnvR K H0 B H σ γ) (S1:Same H H') (h:TV K (zof B γ σ) H0 H H' s v) (e:s.slot=some s') (hi:i<γ.length) :
  EnvR K H0 B H' (σ.set i (some v)) (γ.set i (some s'))/\Fr B H σ γ H' (σ.set i (some v)) (γ.set i (some s')):=by
 have hiσ:i<σ.length:=by rw[E.len];exact hi
 have E':=E.grow S1
 have isown:∀ds,s'=.own ds->s=.own ds:=fun ds q=>by
  subst q;cases s with
  |own es=>cases e;rfl
  |bor d=>cases e
  |sh d=>cases e
  |view d=>cases e
  |tmp d=>unfold S.slot at e;cases q:imm d<;>simp[q]at e
 have hown:∀b,zof B (γ.set i (some s')) (σ.set i (some v)) b->zof B γ σ b\/∃ds a,s=.own ds/\v=.ref a/\ds.adr a b:=fun b z=>by
  rcases z with z|⟨j,ds,a,h1,h2,h3⟩
  ·exact .inl (.inl z)
  ·rcases WN h1 with⟨ej,e1,_⟩|⟨nj,e1⟩
   ·subst ej;rw[Vy hiσ]at h2
    have:s'=.own ds:=Zw e1
    exact .inr ⟨ds,a,isown ds this,Zw (Zw h2),h3⟩
   ·rw[Q3 nj]at h2;exact .inl (.inr ⟨j,ds,a,e1,h2,h3⟩)
 have fresh:∀ds a b,s=.own ds->v=.ref a->ds.adr a b->H b=none:=fun ds a b es ev hb=>by
  subst es;obtain⟨a',e1,e0,_⟩:=h;rw[ev]at e1;cases e1
  exact e0 b hb
 have hz:∀b o,H b=some o->¬zof B γ σ b->¬zof B (γ.set i (some s')) (σ.set i (some v)) b:=fun b o hb z y=>by
  rcases hown b y with y|⟨ds,a,y1,y2,y3⟩
  ·exact z y
  ·rw[fresh ds a b y1 y2 y3]at hb;cases hb
 have So:Same (off (zof B γ σ) H) (Pu.off (zof B (γ.set i (some s')) (σ.set i (some v))) H'):=WA S1 hz;refine⟨⟨E'.same,by rw[Yt,Yt];exact E.len,E'.bm,fun k j a a' ds es b h1 h2 h3 h4 h5 h6=>?_,fun k u hk=>?_⟩,fun b o hb z=>⟨S1 b o hb,hz b o hb z⟩⟩
 ·have old:∀(k:Nat) (ds:O) (a b:Addr),γ[k]?=some (some (.own ds))->σ[k]?=some (some (.ref a))->ds.adr a b->∃o,H b=some o:=fun k ds a b e1 e2 e3=>by
   obtain⟨u,q1,a',q2,_,q3⟩:=E.slot k _ e1;rw[e2]at q1;cases q1
   cases q2
   exact Vo (q3.mut b e3)
  rcases WN h1 with⟨ek,e1,_⟩|⟨nk,e1⟩
  ·rcases WN h2 with⟨ej,e2,_⟩|⟨nj,e2⟩
   ·rw[ek,ej]
   ·subst ek;rw[Vy hiσ]at h3;rw[Q3 nj]at h4;obtain⟨o,ho⟩:=old j es a' b e2 h4 h6;rw[fresh ds a b (isown ds (Zw e1)) (Zw (Zw h3)) h5]at ho;cases ho
  ·rcases WN h2 with⟨ej,e2,_⟩|⟨nj,e2⟩
   ·subst ej;rw[Vy hiσ]at h4;rw[Q3 nk]at h3;obtain⟨o,ho⟩:=old k ds a b e1 h3 h5;rw[fresh es a' b (isown es (Zw e2)) (Zw (Zw h4)) h6]at ho;cases ho
   ·rw[Q3 nk]at h3;rw[Q3 nj]at h4;exact E.own k j a a' ds es b e1 e2 h3 h4 h5 h6
 ·rcases WN hk with⟨ek,e1,_⟩|⟨nk,e1⟩
  ·subst ek
   have:u=s':=(Zw e1).symm
   subst this;refine⟨v,Vy hiσ,?_⟩;cases s with
   |own ds=>
    cases e
    obtain⟨a,rfl,e0,r⟩:=h;refine⟨a,rfl,fun b hb=>E.same.free (e0 b hb),r.mono (WA (Same.refl _) fun b o _ z y=>?_) fun _ _ _ q=>q⟩;rcases hown b y with y|⟨_,_,y1,y,y2⟩
    ·exact z (.inl y)
    ·cases y;cases y1;exact z (.inr y2)
   |sh d=>
    cases e
    refine Rp.mono (WA (Same.refl _) fun b o _ z y=>?_) h;rcases hown b y with y|⟨_,_,y,_⟩
    ·exact z y
    ·cases y
   |bor d=>cases e;exact h
   |view d=>cases e
   |tmp d=>
    unfold S.slot at e;cases q:imm d with
    |false=>simp[q]at e
    |true=>
     simp[q]at e;subst e;refine Rp.off (fun b y=>?_) h q;rcases hown b y with y|⟨_,_,y,_⟩
     ·exact Qu S1 (E.zm b y)
     ·cases y
  ·obtain⟨w,q1,q2⟩:=E.slot k u e1;refine⟨w,by rw[Q3 nk];exact q1,?_⟩;cases u with
   |bor d=>exact q2
   |sh d=>exact Rp.mono So q2
   |own ds=>
    obtain⟨a,e1,e3,e4⟩:=q2;exact⟨a,e1,e3,e4.mono So fun b _ x=>S1 b x⟩
   |view ds=>exact q2
   |tmp d=>exact q2
def frz(i:Nat)(γ:Γ):Γ:=match γ[i]? with
 |some (some (.own o))=>γ.set i (some (.sh o.d))
 |_=>γ
def EnvR.frz (E:EnvR K H0 B H σ γ) (hB:∀b,B b->∃o,H0 b=some o) (i:Nat):EnvR K H0 B H σ (frz i γ)/\Fr B H σ γ H σ (Pu.frz i γ):=by
 unfold Pu.frz;split
 ·rename_i ds hi;have hlt:i<γ.length:=(ZD.mp hi).1
  have hz:∀b,zof B (γ.set i (some (.sh ds.d))) σ b->zof B γ σ b:=fun b z=>z.imp id fun⟨j,es,a,h1,h2,h3⟩=>by
   rcases WN h1 with⟨_,e,_⟩|⟨_,e⟩
   ·cases e
   ·exact⟨j,es,a,e,h2,h3⟩
  have S1:Same (Pu.off (zof B γ σ) H) (Pu.off (zof B (γ.set i (some (.sh ds.d))) σ) H):=WA (Same.refl _) fun b _ _ z y=>z (hz b y);refine⟨⟨E.same,by rw[Yt];exact E.len,E.bm,fun k j a a' es es' b h1 h2=>?_,fun k s h=>?_⟩,fun b o h z=>⟨h,fun y=>z (hz b y)⟩⟩
  ·rcases WN h1 with⟨_,e,_⟩|⟨_,e1⟩
   ·cases e
   ·rcases WN h2 with⟨_,e,_⟩|⟨_,e2⟩
    ·cases e
    ·exact E.own k j a a' es es' b e1 e2
  ·rcases WN h with⟨ek,e,_⟩|⟨nk,e⟩
   ·subst ek
    have:=Zw e
    subst this;obtain⟨v,h1,a,rfl,h3,h4⟩:=E.slot k _ hi;refine⟨_,h1,h4.rpIn S1 fun b hb x h2=>Qe h2 fun z=>?_⟩;rcases z with z|⟨j,es,a',e1,e2,e3⟩
    ·obtain⟨o,ho⟩:=hB b z;rw[h3 b hb]at ho;cases ho
    ·rcases WN e1 with⟨_,q,_⟩|⟨nj,q⟩
     ·cases q
     ·exact nj (E.own j k a' a es ds b q hi e2 h1 e3 hb)
   ·obtain⟨v,h1,h2⟩:=E.slot k s e;refine⟨v,h1,?_⟩;cases s with
    |bor d=>exact h2
    |sh d=>exact Rp.mono S1 h2
    |own ds=>
     obtain⟨a,e1,e3,e4⟩:=h2;exact⟨a,e1,e3,e4.mono S1 fun _ _ _ q=>q⟩
    |view ds=>exact h2
    |tmp d=>exact h2
 ·exact⟨E,Fr.refl⟩
def EnvR.change {i:Nat}{a:Addr}{o o':O} (E:EnvR K H0 B H σ γ) (hi:γ[i]?=some (some (.own o))) (ha:σ[i]?=some (some (.ref a)))
  (hH:∀b x,H b=some x->¬o.adr a b->H' b=some x) (hm:∀b,o.adr a b->Mut (H' b)) (hadr:∀b,o'.adr a b->o.adr a b\/H b=none) (r:OR K (Pu.off (zof B (γ.set i (some (.own o'))) σ) H') H' a o') :
  EnvR K H0 B H' σ (γ.set i (some (.own o')))/\Fr B H σ γ H' σ (γ.set i (some (.own o'))):=by
 have hlt:i<γ.length:=(ZD.mp hi).1;obtain⟨v,h1,a',rfl,h3,h4⟩:=E.slot i _ hi;rw[ha]at h1;cases h1
 have za:∀b,o.adr a b->zof B γ σ b:=fun b hb=>.inr ⟨i,o,a,hi,ha,hb⟩
 have hz:∀b x,H b=some x->zof B (γ.set i (some (.own o'))) σ b->zof B γ σ b:=fun b x hx z=>by
  rcases z with z|⟨j,fs,a',e1,e2,e3⟩
  ·exact .inl z
  ·rcases WN e1 with⟨ej,q,_⟩|⟨_,e⟩
   ·subst ej;cases q
    rw[ha]at e2;cases e2
    rcases hadr b e3 with k|k
    ·exact za b k
    ·rw[k]at hx;cases hx
   ·exact .inr ⟨j,fs,a',e,e2,e3⟩
 have S1:Same (Pu.off (zof B γ σ) H) (Pu.off (zof B (γ.set i (some (.own o'))) σ) H'):=fun b x h=>by
  obtain⟨q1,q2⟩:=QD h;exact Qe (hH b x q1 fun k=>q2 (za b k)) fun z=>q2 (hz b x q1 z)
 have old:∀(k:Nat) (ds:O) (a b:Addr),γ[k]?=some (some (.own ds))->σ[k]?=some (some (.ref a))->ds.adr a b->∃o,H b=some o:=fun k ds a b e1 e2 e3=>by
  obtain⟨u,q1,a',q2,_,q3⟩:=E.slot k _ e1;rw[e2]at q1;cases q1
  cases q2
  exact Vo (q3.mut b e3)
 refine⟨⟨fun b x h=>?_,by rw[Yt];exact E.len,fun b hb=>?_,fun k j x x' fs fs' b e1 e2 e3 e4 e5 e6=>?_,fun k s h=>?_⟩,fun b x h z=>⟨?_,fun y=>z (hz b x h y)⟩⟩
 ·exact hH b x (E.same b x h) fun k=>by rw[h3 b k]at h;cases h
 ·by_cases k:o.adr a b
  ·exact hm b k
  ·have:=E.bm b hb
   obtain⟨x,hx⟩:=Vo this;rw[hH b x hx k,←hx];exact this
 ·rcases WN e1 with⟨ek,q1,_⟩|⟨nk,q1⟩
  ·rcases WN e2 with⟨ej,_,_⟩|⟨nj,q2⟩
   ·rw[ek,ej]
   ·subst ek;cases q1
    rw[ha]at e3;cases e3
    rcases hadr b e5 with w|w
    ·exact E.own k j _ _ _ _ b hi q2 ha e4 w e6
    ·obtain⟨u,hu⟩:=old j fs' x' b q2 e4 e6;rw[w]at hu;cases hu
  ·rcases WN e2 with⟨ej,q2,_⟩|⟨nj,q2⟩
   ·subst ej;cases q2
    rw[ha]at e4;cases e4
    rcases hadr b e6 with w|w
    ·exact E.own k j _ _ _ _ b q1 hi e3 ha e5 w
    ·obtain⟨u,hu⟩:=old k fs x b q1 e3 e5;rw[w]at hu;cases hu
   ·exact E.own k j x x' fs fs' b q1 q2 e3 e4 e5 e6
 ·rcases WN h with⟨ek,e,_⟩|⟨nk,e⟩
  ·subst ek
   have:=Zw e
   subst this;exact⟨_,ha,a,rfl,fun b hb=>(hadr b hb).elim (h3 b) fun w=>E.same.free w,r⟩
  ·obtain⟨v,q1,q2⟩:=E.slot k s e;refine⟨v,q1,?_⟩;cases s with
   |bor d=>exact q2
   |sh d=>exact Rp.mono S1 q2
   |own fs=>
    obtain⟨x,rfl,e3,e4⟩:=q2;exact⟨x,rfl,e3,e4.mono S1 fun b hb y e2=>hH b y e2 fun w=>nk (E.own k i x a fs o b e hi q1 ha hb w)⟩
   |view ds=>exact q2
   |tmp d=>exact q2
 ·exact hH b x h fun k=>z (za b k)
def EnvR.mutate {i:Nat}{a:Addr}{ds es:O}{us:HO} (E:EnvR K H0 B H σ γ) (hi:γ[i]?=some (some (.own ds))) (ha:σ[i]?=some (some (.ref a))) (hu:Mut (some us)) (r:∀F H':Hp,Same (Pu.off (zof B γ σ) H) F->H' a=some us->OR K F H' a es)
  (k1:ds.adr a=fun b=>b=a:=by rfl) (k2:es.adr a=fun b=>b=a:=by rfl) :
  EnvR K H0 B (upd H a us) σ (γ.set i (some (.own es)))/\Fr B H σ γ (upd H a us) σ (γ.set i (some (.own es))):=by
 refine E.change (o:=ds) (o':=es) hi ha (fun b x h n=>by rw[W7 (fun z=>n (by rw[k1];exact z))];exact h) (fun b h=>by rw[k1]at h;rw[show b=a from h,WC];exact hu) (fun b h=>.inl (by rw[k1];rw[k2]at h;exact h)) (r _ _ ?_ WC)
 intro b x h;obtain⟨q1,q2⟩:=QD h;have nb:b≠a:=fun z=>q2 (.inr ⟨i,ds,a,hi,ha,by rw[k1];exact z⟩);refine Qe (by rw[W7 nb];exact q1) fun z=>q2 ?_;rcases z with z|⟨j,fs,a',e1,e2,e3⟩
 ·exact .inl z
 ·rcases WN e1 with⟨ej,q,_⟩|⟨_,e⟩
  ·subst ej;cases q
   rw[ha]at e2;cases e2
   rw[k2]at e3;exact absurd e3 nb
  ·exact .inr ⟨j,fs,a',e,e2,e3⟩
end
end Pu
namespace Pu
open PySem PySem.Spec PyProof.Rows L2 Own
abbrev XR:=Str->Prop
abbrev PTE:=Γ->(S->Prop)->XR->Prop
abbrev PTT:=Γ->(Bool->Prop)->XR->Prop
abbrev PTA:=Γ->(List S->Prop)->XR->Prop
structure PEnds where
 nx:Γ->Prop
 rt:S->Prop
 ex:Γ->Str->Prop
 bk:Γ->Prop:=fun _=>False
 ct:Γ->Prop:=fun _=>False
 rv:Γ->D->Prop:=fun _ _=>False
abbrev PTS:=PEnds->Γ->Prop
abbrev PTG:=S->Γ->(Γ->Prop)->Prop
inductive TVs (K:Za) (Z:Addr->Prop) (H0 H H':Hp):List S->List V->Prop
 |nil:TVs K Z H0 H H' [] []
 |cons {s:S} {v:V} {ss:List S} {vs:List V}:TV K Z H0 H H' s v->TVs K Z H0 H H' ss vs->TVs K Z H0 H H' (s::ss) (v::vs)
section
variable (K:Za) (mg:Str->Option Value) (E:L2.St->XK)
def SndE(t:TE)(p:PTE):Prop:=∀(H0:Hp) (B:Addr->Prop) (H:Hp) (σ:L2.St) (γ:Γ) (R:S->Prop) (X:XR) (Q:VK),EnvR K H0 B H σ γ->p γ R X->
 (∀s v H',R s->Same H H'->TV K (zof B γ σ) H0 H H' s v->Q v H')->(∀c H',X c->Same H H'->E σ (.ref (ExcR.WR mg c)) none H')->t σ H Q
def SndT(t:TT)(p:PTT):Prop:=∀(H0:Hp) (B:Addr->Prop) (H:Hp) (σ:L2.St) (γ:Γ) (R:Bool->Prop) (X:XR) (Q:Bool->Hp->Prop),EnvR K H0 B H σ γ->p γ R X->
 (∀b H',R b->Same H H'->Q b H')->(∀c H',X c->Same H H'->E σ (.ref (ExcR.WR mg c)) none H')->t σ H Q
def SndA(t:TA)(p:PTA):Prop:=∀(H0:Hp) (B:Addr->Prop) (H:Hp) (σ:L2.St) (γ:Γ) (R:List S->Prop) (X:XR) (Q:List V->Hp->Prop),EnvR K H0 B H σ γ->p γ R X->
 (∀ss vs H',R ss->Same H H'->TVs K (zof B γ σ) H0 H H' ss vs->Q vs H')->(∀c H',X c->Same H H'->E σ (.ref (ExcR.WR mg c)) none H')->t σ H Q
structure EndR (H0:Hp) (B:Addr->Prop) (H:Hp) (σ:L2.St) (γ:Γ) (R:PEnds) (D:Ends):Prop where
 nx:∀σ' γ' H',R.nx γ'->EnvR K H0 B H' σ' γ'->Fr B H σ γ H' σ' γ'->D.nx σ' H'
 rt:∀s v H',R.rt s->Same H0 H'->TV K B H0 H0 H' s v->D.rt v H'
 ex:∀σ' γ' c H',R.ex γ' c->EnvR K H0 B H' σ' γ'->Fr B H σ γ H' σ' γ'->E σ' (.ref (ExcR.WR mg c)) none H'
 bk:∀σ' γ' H',R.bk γ'->EnvR K H0 B H' σ' γ'->Fr B H σ γ H' σ' γ'->D.bk σ' H'
 ct:∀σ' γ' H',R.ct γ'->EnvR K H0 B H' σ' γ'->Fr B H σ γ H' σ' γ'->D.ct σ' H'
 rv:∀σ' γ' d v H',R.rv γ' d->EnvR K H0 B H' σ' γ'->Fr B H σ γ H' σ' γ'->Rp K (off (zof B γ' σ') H') d v->D.rt v H'
def SndS(t:TS)(p:PTS):Prop:=∀(H0:Hp) (B:Addr->Prop) (H:Hp) (σ:L2.St) (γ:Γ) (R:PEnds) (D:Ends),(∀b,B b->∃o,H0 b=some o)->EnvR K H0 B H σ γ->p R γ->EndR K mg E H0 B H σ γ R D->t D σ H
end
section
variable {K:Za}{mg:Str->Option Value}{E:L2.St->XK}{H0 H H1 H':Hp}{B Z Z':Addr->Prop}{σ:L2.St}{γ:Γ}
def TVs.weakG {H1 H2:Hp}:∀{ss:List S}{vs:List V},Same H H1->TVs K Z H0 H1 H2 ss vs->TVs K Z H0 H H2 ss vs
 |_,_,_,.nil=>.nil
 |_,_,S1,.cons h r=>.cons (TV.weak S1 (fun _ z=>z) h) (TVs.weakG S1 r)
def TVs.rps (h0:Same H0 H'):∀{ss:List S}{vs:List V},TVs K Z H0 H H' ss vs->Rps K H' (ss.map S.d) vs
 |_,_,.nil=>.nil
 |_,_,.cons h r=>.cons (h.rp h0) (TVs.rps h0 r)
def TVs.shd {ds:List D} (h0:Same H0 H') (hm:∀b,Z b->Mut (H b)) (S1:Same H H'):∀{ss:List S}{vs:List V}{ds:List D},TVs K Z H0 H H' ss vs->ss.map S.shd=ds.map some->Rps K (off Z H') ds vs
 |_,_,[],.nil,_=>.nil
 |_,_,_::_,.nil,e=>by cases e
 |_,_,[],.cons _ _,e=>by cases e
 |_,_,d::ds,.cons h r,e=>by
  rw[Ye,Ye,List.cons.injEq]at e;exact .cons (h.shd h0 hm S1 e.1) (TVs.shd (ds:=ds) h0 hm S1 r e.2)
def Rp.int_inv {i:Int}{v:V} (h:Rp K H (.int i) v):v=.int i:=by cases h;rfl
def Rp.bl_inv {b:Bool}{v:V} (h:Rp K H (.bl b) v):v=.bl b:=by cases h;rfl
def Rp.str_inv {x:Str}{v:V} (h:Rp K H (.str x) v):v=.str x:=by cases h;rfl
def Rp.non_inv {v:V} (h:Rp K H .non v):v=.non:=by cases h;rfl
def pVar(i:Nat):PTE:=fun γ R _=>match γ[i]? with
 |some (some (.own ds))=>R (.view ds)
 |some (some s)=>R s
 |_=>False
def WE(i:Nat):SndE K mg E (tVar i) (pVar i):=by
 intro H0 B H σ γ R X Q env h q _;unfold pVar at h;split at h
 ·rename_i ds e;obtain⟨v,h1,a,rfl,h3,h4⟩:=env.slot i _ e;exact⟨_,h1,q _ _ H h (Same.refl _) ⟨a,rfl,h4⟩⟩
 ·rename_i s ns e;obtain⟨v,h1,h2⟩:=env.slot i _ e;refine⟨v,h1,q _ _ H h (Same.refl _) ?_⟩;cases s with
  |bor d=>exact h2
  |sh d=>exact h2
  |own ds=>exact absurd rfl (ns ds)
  |view ds=>exact h2.elim
  |tmp d=>exact h2.elim
 ·exact h.elim
def pC(d:D):PTE:=fun _ R _=>R (.sh d)
def se_c{d:D}{v:V}(h:∀H,Rp K H d v):SndE K mg E (tC v) (pC d):=by
 intro H0 B H σ γ R X Q env p q _;exact q _ _ H p (Same.refl _) (h _)
def Q1{i:Int}:SndE K mg E (tC (.int i)) (pC (.int i)):=se_c fun _=>.int i
def P1{b:Bool}:SndE K mg E (tC (.bl b)) (pC (.bl b)):=se_c fun _=>.bl b
def Nt{x:Str}:SndE K mg E (tC (.str x)) (pC (.str x)):=se_c fun _=>.str x
def p2(a b:PTE)(f:S->S->(S->Prop)->Prop):PTE:=fun γ R X=>a γ (fun x=>b γ (fun y=>f x y R) X) X
def se_2{r:R2}{ta tb:TE}{a b:PTE}{f:S->S->(S->Prop)->Prop}(ha:SndE K mg E ta a)(hb:SndE K mg E tb b)(hr:∀(H0 H H2:Hp) (Z:Addr->Prop) (x y:S) (v u:V) (R:S->Prop) (Q:VK),Same H0 H2->Same H H2->(∀b,Z b->Mut (H b))->TV K Z H0 H H2 x v->TV K Z H0 H H2 y u->f x y R->(∀s z H',R s->Same H2 H'->TV K Z H0 H H' s z->Q z H')->r v u H2 Q) :
  SndE K mg E (tOp r ta tb) (p2 a b f):=by
 intro H0 B H σ γ R X Q env p q qx;refine ha H0 B H σ γ _ X _ env p (fun x v H1 h1 S1 t1=>?_) qx;have env1:=env.grow S1;refine hb H0 B H1 σ γ _ X _ env1 h1 (fun y u H2 h2 S2 t2=>?_) fun c H' hc S'=>qx c H' hc (S1.trans S');exact hr H0 H H2 _ x y v u R Q (env1.same.trans S2) (S1.trans S2) env.zm (t1.grow S2) (TV.weak S1 (fun _ z=>z) t2) h2 fun s z H' hs S3 t3=>q s z H' hs ((S1.trans S2).trans S3) t3
def fI0(g:Int->Int->D):S->S->(S->Prop)->Prop:=fun x y R=>match x.d,y.d with
 | .int i,.int j=>R (.sh (g i j))
 |_,_=>False
def fI(C:Int->Int->Prop)(g:Int->Int->D):S->S->(S->Prop)->Prop:=fun x y R=>match x.d,y.d with
 | .int i,.int j=>C i j/\R (.sh (g i j))
 |_,_=>False
def se_I{C:Int->Int->Prop}{g:Int->Int->V}{g':Int->Int->D}{ta tb:TE}{a b:PTE}(hg:∀H i j,Rp K H (g' i j) (g i j))(ha:SndE K mg E ta a)(hb:SndE K mg E tb b):SndE K mg E (tOp (rI C g) ta tb) (p2 a b (fI C g')):=by
 refine se_2 ha hb fun H0 H H2 Z x y v u R Q s0 s1 hm tx ty h q=>?_;unfold fI at h;have rx:=tx.rp s0;have ry:=ty.rp s0;split at h
 ·rename_i i j e1 e2;rw[e1]at rx;rw[e2]at ry;exact⟨i,j,rx.int_inv,ry.int_inv,h.1,q _ _ H2 h.2 (Same.refl _) (hg _ i j)⟩
 ·exact h.elim
section
variable {ta tb tc:TE}{a b c:PTE}
def NW(ha:SndE K mg E ta a)(hb:SndE K mg E tb b):SndE K mg E (tOp (rI CDiv fun i j=>.int (i / j)) ta tb) (p2 a b (fI CDiv fun i j=>.int (i / j))):=se_I (fun _ _ _=>.int _) ha hb
def N6(ha:SndE K mg E ta a)(hb:SndE K mg E tb b):SndE K mg E (tOp (rI (fun _ j=>0<j) fun i j=>.int (i % j)) ta tb) (p2 a b (fI (fun _ j=>0<j) fun i j=>.int (i % j))):=se_I (fun _ _ _=>.int _) ha hb
def fEq(neg:Bool):S->S->(S->Prop)->Prop:=fun x y R=>match x.d,y.d with
 | .int i,.int j=>R (.sh (.bl (if neg then !decide (i=j)else decide (i=j))))
 | .str i,.str j=>R (.sh (.bl (if neg then !decide (i=j)else decide (i=j))))
 | .bl i,.bl j=>R (.sh (.bl (if neg then !decide (i=j)else decide (i=j))))
 |_,_=>False
def QM{α β:Type}[DecidableEq α][DecidableEq β]{f:α->β}(hf:∀a b,f a=f b->a=b)(a b:α):decide (f a=f b)=decide (a=b):=by
 by_cases e:a=b
 ·rw[ZC e,ZC (ZN f e)]
 ·rw[Z9 e,Z9 fun z=>e (hf a b z)]
def fIx:S->S->(S->Prop)->Prop:=fun x y R=>match x.d,y.d with
 | .lst ds,.int k=>∃d,atI ds k=some d/\R (x.sub d)
 | .tup ds,.int k=>∃d,atI ds k=some d/\R (x.sub d)
 | .scr ns,.int k=>∃i,atI ns k=some i/\R (.sh (.int i))
 |_,_=>False
def J4{ds:List D}{vs:List V}{k:Int}{d:D}{P:D->V->Prop}(hl:vs.length=ds.length)(h:∀(i:Nat) d,ds[i]?=some d->∃u,vs[i]?=some u/\P d u)(e:atI ds k=some d):∃u,atI vs k=some u/\P d u:=by
 unfold atI at e ⊢;rw[hl];cases q:ixN ds.length k with
 |none=>rw[q]at e;cases e
 |some j=>
  rw[q]at e;exact h j d e
def Jq(ha:SndE K mg E ta a)(hb:SndE K mg E tb b):SndE K mg E (tOp (fun x y H Q=>rIxL K x y H Q\/rIxT K x y H Q) ta tb) (p2 a b fIx):=by
 refine se_2 ha hb fun H0 H H2 Z x y v u R Q s0 s1 hm tx ty h q=>?_;unfold fIx at h;have ry:=ty.rp s0;obtain⟨pl,pt⟩:=tx.part s0 hm s1;split at h
 ·rename_i ds k e1 e2;rw[e2]at ry;obtain⟨d,hd,hR⟩:=h;obtain⟨l,vs,rfl,hl,hn,hp⟩:=pl ds e1;obtain⟨z,hz,tz⟩:=J4 hn hp hd;exact .inl ⟨l,vs,k,z,rfl,ry.int_inv,SqL.of hl,hz,q _ _ H2 hR (Same.refl _) tz⟩
 ·rename_i ds k e1 e2;rw[e2]at ry;obtain⟨d,hd,hR⟩:=h;obtain⟨l,vs,rfl,hl,hn,hp⟩:=pt ds e1;obtain⟨z,hz,tz⟩:=J4 hn hp hd;exact .inr ⟨l,vs,k,z,rfl,ry.int_inv,SqT.of hl,hz,q _ _ H2 hR (Same.refl _) tz⟩
 ·rename_i ns k e1 e2;rw[e2]at ry;obtain⟨i,hi,hR⟩:=h;have rx:=tx.rp s0;rw[e1]at rx;cases rx with
  |scr hs=>exact .inl ⟨_,_,k,.int i,rfl,ry.int_inv,hs,Vw hi,q _ _ H2 hR (Same.refl _) (.int i)⟩
 ·exact h.elim
def Sb(a b:PTE):PTE:=fun γ R X=>a γ (fun x=>match x.d with | .bl c=>if c=true then b γ R X else R (.sh (.bl false))|_=>False) X
def Tn(a:PTE):PTT:=fun γ R X=>a γ (fun x=>match x.d with | .bl c=>R c|_=>False) X
def Uw(ha:SndE K mg E ta a):SndT K mg E (Vj ta) (Tn a):=by
 intro H0 B H σ γ R X Q env p q qx;refine ha H0 B H σ γ _ X _ env p (fun x v H1 h1 S1 t1=>?_) qx;have rx:=t1.rp (env.grow S1).same;split at h1
 ·rename_i c e1;rw[e1]at rx;exact⟨c,rx.bl_inv,q _ H1 h1 S1⟩
 ·exact h1.elim
variable {sa sb:TT}{pa pb:PTT}
def pOr(a b:PTT):PTT:=fun γ R X=>a γ (fun c=>if c=true then R true else b γ R X) X
def pNot(a:PTT):PTT:=fun γ R X=>a γ (fun c=>R (!c)) X
def TR(ha:SndT K mg E sa pa)(hb:SndT K mg E sb pb):SndT K mg E (tOr sa sb) (pOr pa pb):=by
 intro H0 B H σ γ R X Q env p q qx;refine ha H0 B H σ γ _ X _ env p (fun c H1 h1 S1=>?_) qx;split at h1
 ·rename_i hc;rw[Z0 hc];exact q _ H1 h1 S1
 ·rename_i hc;rw[Z2 hc];exact hb H0 B H1 σ γ _ X _ (env.grow S1) h1 (fun y H2 h2 S2=>q y H2 h2 (S1.trans S2)) fun c H' hc S'=>qx c H' hc (S1.trans S')
def Xg(ha:SndT K mg E sa pa):SndT K mg E (tNot sa) (pNot pa):=by
 intro H0 B H σ γ R X Q env p q qx;exact ha H0 B H σ γ _ X _ env p (fun c H1 h1 S1=>q _ H1 h1 S1) qx
end
def pNil:PTA:=fun _ R _=>R []
def Q9(a:PTE)(r:PTA):PTA:=fun γ R X=>a γ (fun s=>r γ (fun ss=>R (s::ss)) X) X
def Xn:SndA K mg E tNil pNil:=by
 intro H0 B H σ γ R X Q env p q _;exact q _ _ H p (Same.refl _) .nil
def VW{te:TE}{ta:TA}{a:PTE}{r:PTA}(ha:SndE K mg E te a)(hr:SndA K mg E ta r):SndA K mg E (WM te ta) (Q9 a r):=by
 intro H0 B H σ γ R X Q env p q qx;refine ha H0 B H σ γ _ X _ env p (fun s v H1 h1 S1 t1=>?_) qx;refine hr H0 B H1 σ γ _ X _ (env.grow S1) h1 (fun ss vs H2 h2 S2 t2=>?_) fun c H' hc S'=>qx c H' hc (S1.trans S');exact q _ _ H2 h2 (S1.trans S2) (.cons (t1.grow S2) (TVs.weakG S1 t2))
def shds:List S->Option (List D)
 |[]=>some []
 |s::r=>match s.shd,shds r with
  |some d,some ds=>some (d::ds)
  |_,_=>none
def UM:∀{ss:List S}{ds:List D},shds ss=some ds->ss.map S.shd=ds.map some
 |[],ds,h=>by cases h;rfl
 |s::r,ds,h=>by
  unfold shds at h;split at h
  ·rename_i d es e1 e2;cases h
   rw[Ye,Ye,e1,UM e2]
  ·cases h
def pTup(r:PTA):PTE:=fun γ R X=>r γ (fun ss=>match shds ss with|some ds=>ds.length<=1000/\R (.sh (.tup ds))|none=>False) X
def pLst(r:PTA):PTE:=fun γ R X=>r γ (fun ss=>match shds ss with|some ds=>ds.length<=1000/\R (.own ds)|none=>False) X
def JB{n:Nat}(h:n<=1000):n<=sizeLine:=YJ (VQ h)
def QP{H H1:Hp}{l:Addr}{vs:List V}{ds:List D}(S1:Same H H1)(nl:H1 l=none)(rp:Rps K (off Z H1) ds vs):TV K Z H0 H (upd H1 l (.lst vs)) (.own ds) (.ref l):=
 ⟨l,rfl,(fun _ e=>e▸S1.free nl),vs,WC,Rps.mono (WA (WU nl) fun b o hb z y=>y.elim z fun e=>by rw[e,nl]at hb;cases hb) rp⟩
def PD{ta:TA}{r:PTA}(hr:SndA K mg E ta r):SndE K mg E (tLst ta) (pLst r):=by
 intro H0 B H σ γ R X Q env p q qx;refine hr H0 B H σ γ _ X _ env p (fun ss vs H1 h1 S1 t1=>?_) qx;split at h1
 ·rename_i ds e;have env1:=env.grow S1;have rp:=t1.shd (ds:=ds) env1.same env.zm S1 (UM e);refine⟨by rw[rp.len];exact JB h1.1,fun l nl=>?_⟩;exact q _ _ _ h1.2 (S1.trans (WU nl)) (QP S1 nl rp)
 ·exact h1.elim
abbrev Pc:=List D->(S->Prop)->XR->Prop
def spOf(mg:Str->Option Value)(c:Pc)(K:Za):Sp:=fun vs H Q E=>∃ds R X,Rps K H ds vs/\c ds R X/\(∀s v H',R s->Same H H'->TV K (fun b=>Mut (H b)) H H H' s v->Q v H')/\∀e H',X e->Same H H'->E (.ref (ExcR.WR mg e)) none H'
def S.back:S->S
 | .bor d=>argT d | .view o=>.tmp o.d|s=>s
def TV.back {s:S}{v:V} (env:EnvR K H0 B H1 σ γ) (S1:Same H H1) (S2:Same H1 H') (h:TV K (fun b=>Mut (H1 b)) H1 H1 H' s v):TV K (zof B γ σ) H0 H H' s.back v:=by
 cases s with
 |bor d=>exact Qi (fun b z=>Qu S2 (env.zm b z)) (Rp.mono S2 h)
 |sh d=>exact Rp.mono (WA (Same.refl _) fun b _ _ z y=>z (env.zm b y)) h
 |own ds=>
  obtain⟨a,rfl,e0,r⟩:=h;exact⟨a,rfl,(fun b hb=>S1.free (e0 b hb)),r.mono (WA (Same.refl _) fun b _ _ z y=>z (y.imp (env.zm b) id)) fun _ _ _ q=>q⟩
 |view ds=>
  obtain⟨a,rfl,r⟩:=h;exact r.rp off_sub
 |tmp d=>exact h
def Ng(c:Pc)(r:PTA):PTE:=fun γ R X=>r γ (fun ss=>c (ss.map S.d) (fun s=>R s.back) fun _=>False) X
def Nl(c:Pc)(r:PTA):PTE:=fun γ R X=>r γ (fun ss=>c (ss.map S.d) (fun s=>R s.back) X) X
def Qb{c:Pc}{ta:TA}{r:PTA}(hr:SndA K mg E ta r):SndE K mg E (QK (spOf mg c K) [] E0 ta) (Ng c r):=by
 intro H0 B H σ γ R X Q env p q qx;refine hr H0 B H σ γ _ X _ env p (fun ss vs H1 h1 S1 t1=>?_) qx;rw[YD];have env1:=env.grow S1;exact⟨_,_,_,t1.rps env1.same,h1,fun s v H' hs S2 tv=>q _ _ H' hs (S1.trans S2) (tv.back env1 S1 S2),fun _ _ z=>z.elim⟩
def Ta{c:Pc}{ta:TA}{r:PTA}{Ec:XK}(hr:SndA K mg (fun _=>Ec) ta r):SndE K mg (fun _=>Ec) (QK (spOf mg c K) [] Ec ta) (Nl c r):=by
 intro H0 B H σ γ R X Q env p q qx;refine hr H0 B H σ γ _ X _ env p (fun ss vs H1 h1 S1 t1=>?_) qx;rw[YD];have env1:=env.grow S1;exact⟨_,_,X,t1.rps env1.same,h1,fun s v H' hs S2 tv=>q _ _ H' hs (S1.trans S2) (tv.back env1 S1 S2),fun e H' he S2=>qx e H' he (S1.trans S2)⟩
end
section
variable {K:Za}{mg:Str->Option Value}{E:L2.St->XK}{H0 H H1 H':Hp}{B Z Z':Addr->Prop}{σ:L2.St}{γ:Γ}
def EnvR.set {i:Nat}{s s':S}{v:V} (Ev:EnvR K H0 B H σ γ) (S1:Same H H') (h:TV K (zof B γ σ) H0 H H' s v) (e:s.slot=some s') :
  EnvR K H0 B H' (σ.set i (some v)) (γ.set i (some s'))/\Fr B H σ γ H' (σ.set i (some v)) (γ.set i (some s')):=by
 by_cases hi:i<γ.length
 ·exact Ev.put S1 h e hi
 ·rw[List.set_eq_of_length_le (by rw[Ev.len];omega),List.set_eq_of_length_le (by omega)];exact⟨Ev.grow S1,Fr.grow S1⟩
def Upd(is:List Nat)(σ σ':L2.St):Prop:=(∀j,j∉is->σ'[j]?=σ[j]?)/\σ'.length=σ.length
def Vm(K:Za)(is:List Nat)(t:TG)(p:PTG):Prop:=∀(H0:Hp) (B:Addr->Prop) (H H':Hp) (σ:L2.St) (γ:Γ) (s:S) (v:V) (R:Γ->Prop) (Q:L2.St->Hp->Prop),EnvR K H0 B H σ γ->Same H H'->TV K (zof B γ σ) H0 H H' s v->p s γ R->
 (∀σ' γ',R γ'->EnvR K H0 B H' σ' γ'->Fr B H σ γ H' σ' γ'->Upd is σ σ'->Q σ' H')->t v σ H' Q
def J7(i:Nat):PTG:=fun s γ R=>match s.slot with|some s'=>R (γ.set i (some s'))|none=>False
def Qq(i:Nat):Vm K [i] (QO i) (J7 i):=by
 intro H0 B H H' σ γ s v R Q env S1 tv p q;unfold J7 at p;split at p
 ·rename_i s' e;obtain⟨e1,f1⟩:=env.set (i:=i) S1 tv e;exact q _ _ p e1 f1 ⟨fun j hj=>Q3 fun z=>hj (by rw[z];exact Z4.mpr rfl),Yt⟩
 ·exact p.elim
def UG(d:D):arg d=.sh d\/arg d=.bor d:=by unfold arg;cases imm d<;>simp
def EndR.from {R:PEnds}{D:Ends}{σ1:L2.St}{γ1:Γ} (e:EndR K mg E H0 B H σ γ R D) (f:Fr B H σ γ H1 σ1 γ1):EndR K mg E H0 B H1 σ1 γ1 R D:=
 ⟨fun σ' γ' H' h1 h2 h3=>e.nx σ' γ' H' h1 h2 (f.trans h3),e.rt,fun σ' γ' c H' h1 h2 h3=>e.ex σ' γ' c H' h1 h2 (f.trans h3),fun σ' γ' H' h1 h2 h3=>e.bk σ' γ' H' h1 h2 (f.trans h3),fun σ' γ' H' h1 h2 h3=>e.ct σ' γ' H' h1 h2 (f.trans h3),fun σ' γ' d v H' h1 h2 h3=>e.rv σ' γ' d v H' h1 h2 (f.trans h3)⟩
variable {te:TE}{a:PTE}{tt:TT}{c:PTT}{t u:TS}{p q:PTS}
def Nx:PTS:=fun R γ=>R.nx γ
def UH:SndS K mg E Jy Nx:=fun _ _ _ _ _ _ _ _ env h e=>e.nx _ _ _ h env Fr.refl
def pSeq(p q:PTS):PTS:=fun R γ=>p {R with nx:=q R} γ
def Qg(hp:SndS K mg E t p)(hq:SndS K mg E u q):SndS K mg E (tSeq t u) (pSeq p q):=by
 intro H0 B H σ γ R D hB env h e;refine hp H0 B H σ γ _ _ hB env h ⟨fun σ' γ' H' h1 e1 f1=>?_,e.rt,e.ex,e.bk,e.ct,e.rv⟩;exact hq H0 B H' σ' γ' R D hB e1 h1 (e.from f1)
def pFrz(i:Nat)(p:PTS):PTS:=fun R γ=>p R (frz i γ)
def Km(i:Nat)(hp:SndS K mg E t p):SndS K mg E t (pFrz i p):=by
 intro H0 B H σ γ R D hB env h e;obtain⟨e1,f1⟩:=env.frz hB i;exact hp H0 B H σ _ R D hB e1 h (e.from f1)
def pAsg(a:PTE)(g:PTG):PTS:=fun R γ=>a γ (fun s=>g s γ R.nx) (R.ex γ)
def Q2{is:List Nat}{g:TG}{pg:PTG}(ha:SndE K mg E te a)(hg:Vm K is g pg):SndS K mg E (tAsg te g) (pAsg a pg):=by
 intro H0 B H σ γ R D hB env h e;refine ha H0 B H σ γ _ _ _ env h (fun s v H1 h1 S1 t1=>?_) fun c H' hc S'=>e.ex σ γ c H' hc (env.grow S') (Fr.grow S');exact hg H0 B H H1 σ γ s v _ _ env S1 t1 h1 fun σ' γ' h2 e2 f2 _=>e.nx σ' γ' H1 h2 e2 f2
def pAug(i:Nat)(f:Int->Int->Int)(a:PTE):PTS:=fun R γ=>match γ[i]? with
 |some (some (.sh (.int x)))=>a γ (fun y=>match y.d with | .int j=>R.nx (γ.set i (some (.sh (.int (f x j)))))|_=>False) (R.ex γ)
 |_=>False
def pRet(a:PTE):PTS:=fun R γ=>a γ R.rt (R.ex γ)
def J5(ha:SndE K mg E te a):SndS K mg E (tRet te) (pRet a):=by
 intro H0 B H σ γ R D hB env h e;refine ha H0 B H σ γ _ _ _ env h (fun s v H1 h1 S1 t1=>?_) fun c H' hc S'=>e.ex σ γ c H' hc (env.grow S') (Fr.grow S');exact e.rt s v H1 h1 (env.same.trans S1) (TV.weak env.same (fun b z=>.inl z) t1)
def Xh(i:Nat):PTS:=fun R γ=>match γ[i]? with|some (some s)=>R.rt s|_=>False
def TM(i:Nat):SndS K mg E (tRet (tVar i)) (Xh i):=by
 intro H0 B H σ γ R D hB env h e;unfold Xh at h;split at h
 ·rename_i s hs;obtain⟨v,h1,h2⟩:=env.slot i _ hs;refine⟨v,h1,e.rt s v H h env.same ?_⟩;cases s with
  |bor d=>exact h2
  |sh d=>exact Rp.mono (WA (Same.refl _) fun b _ _ z y=>z (.inl y)) h2
  |own ds=>
   obtain⟨l,rfl,e2,e3⟩:=h2;exact⟨l,rfl,e2,e3.mono (WA (Same.refl _) fun b _ _ z y=>z (y.elim .inl fun w=>.inr ⟨i,ds,l,hs,h1,w⟩)) fun _ _ _ q=>q⟩
  |view ds=>exact h2.elim
  |tmp d=>exact h2.elim
 ·exact h.elim
def pIfS(c:PTT)(p q:PTS):PTS:=fun R γ=>c γ (fun b=>if b=true then p R γ else q R γ) (R.ex γ)
def JO(hc:SndT K mg E tt c)(hp:SndS K mg E t p)(hq:SndS K mg E u q):SndS K mg E (tIfS tt t u) (pIfS c p q):=by
 intro H0 B H σ γ R D hB env h e;refine hc H0 B H σ γ _ _ _ env h (fun b H1 h1 S1=>?_) fun c H' hc S'=>e.ex σ γ c H' hc (env.grow S') (Fr.grow S');split at h1
 ·rename_i hb;rw[Z0 hb];exact hp H0 B H1 σ γ R D hB (env.grow S1) h1 (e.from (Fr.grow S1))
 ·rename_i hb;rw[Z2 hb];exact hq H0 B H1 σ γ R D hB (env.grow S1) h1 (e.from (Fr.grow S1))
def KH(a:PTE):PTS:=fun R γ=>a γ (fun _=>R.nx γ) (R.ex γ)
def Kf(ha:SndE K mg E te a):SndS K mg E (VO te) (KH a):=by
 intro H0 B H σ γ R D hB env h e;exact ha H0 B H σ γ _ _ _ env h (fun s v H1 h1 S1 t1=>e.nx σ γ H1 h1 (env.grow S1) (Fr.grow S1)) fun c H' hc S'=>e.ex σ γ c H' hc (env.grow S') (Fr.grow S')
def KP(x:Str)(r:PTA):PTS:=fun R γ=>r γ (fun ss=>ss.length<=1000/\R.ex γ x) (R.ex γ)
def TVs.len:∀{ss:List S}{vs:List V},TVs K Z H0 H H' ss vs->vs.length=ss.length
 |_,_,.nil=>rfl
 |_,_,.cons _ r=>ZN (· + 1) (TVs.len r)
def Tq{x:Str}{ta:TA}{r:PTA}{Ec:XK}(hr:SndA K mg (fun _=>Ec) ta r):SndS K mg (fun _=>Ec) (ExcR.UT (ExcR.WR mg x) Ec ta) (KP x r):=by
 intro H0 B H σ γ R D hB env h e;refine hr H0 B H σ γ _ _ _ env h (fun ss vs H1 h1 S1 t1=>⟨?_,?_⟩) fun c H' hc S'=>e.ex σ γ c H' hc (env.grow S') (Fr.grow S')
 ·rw[t1.len];exact JB h1.1
 ·exact e.ex σ γ x H1 h1.2 (env.grow S1) (Fr.grow S1)
def clr:List Nat->Γ->Γ
 |[],γ=>γ
 |i::r,γ=>clr r (γ.set i none)
def EnvR.clr:∀(is:List Nat) {γ:Γ},EnvR K H0 B H σ γ->EnvR K H0 B H σ (clr is γ)/\Fr B H σ γ H σ (Pu.clr is γ)
 |[],_,e=>⟨e,Fr.refl⟩
 |i::r,γ,e=>by
  obtain⟨e1,f1⟩:=e.drop i;obtain⟨e2,f2⟩:=EnvR.clr r e1;exact⟨e2,f1.trans f2⟩
def Later(H0:Hp)(Z:Addr->Prop)(H1:Hp)(Z':Addr->Prop)(H':Hp):Prop:=Same H0 H'/\(∀b,Z' b->Mut (H' b))/\∀b o,H1 b=some o->¬Z b->H' b=some o/\¬Z' b
def Later.of {σ':L2.St}{γ':Γ} (e:EnvR K H0 B H' σ' γ') (f:Fr B H1 σ γ H' σ' γ'):Later H0 (zof B γ σ) H1 (zof B γ' σ') H':=⟨e.same,e.zm,f⟩
def Later.off (l:Later H0 Z H1 Z' H'):Same (off Z H1) (Pu.off Z' H'):=fun b o h=>by
 obtain⟨h1,h2⟩:=QD h;obtain⟨h3,h4⟩:=l.2.2 b o h1 h2;exact Qe h3 h4
structure ItOk (K:Za) (H0:Hp) (B:Addr->Prop) (H1:Hp) (σ:L2.St) (γ:Γ) (J:It) (n:Nat) (item:Nat->S):Prop where
 go:∀(i:Nat) (H':Hp) (Z':Addr->Prop),i<n->Later H0 (zof B γ σ) H1 Z' H'->J.go i H'/\∀x H'',J.yld i H' x H''->Same H' H''/\TV K Z' H0 H' H'' (item i) x
 stop:∀(H':Hp) (Z':Addr->Prop),Later H0 (zof B γ σ) H1 Z' H'->J.stop n H'
abbrev PTI:=Γ->(Nat->(Nat->S)->Prop)->XR->Prop
def SndI(K:Za)(mg:Str->Option Value)(E:L2.St->XK)(wi:TI)(it:PTI):Prop:=∀(H0:Hp) (B:Addr->Prop) (H:Hp) (σ:L2.St) (γ:Γ) (R:Nat->(Nat->S)->Prop) (X:XR) (Q:It->Hp->Prop),EnvR K H0 B H σ γ->it γ R X->
 (∀n item J H1,R n item->Same H H1->ItOk K H0 B H1 σ γ J n item->Q J H1)->(∀c H',X c->Same H H'->E σ (.ref (ExcR.WR mg c)) none H')->wi σ H Q
structure ForW (js:List Nat) (γ:Γ) (g:PTG) (body:PTS) (R:PEnds) (n:Nat) (item:Nat->S):Prop where
 w:∃inv:Nat->Γ->Prop,inv 0 (clr js γ)/\
 (∀i γ',i<n->inv i γ'->g (item i) γ' fun γ2=>body {R with nx:=fun γ3=>inv (i+1) (clr js γ3),ct:=fun γ3=>inv (i+1) (clr js γ3),bk:=R.nx} γ2)/\∀γ',inv n γ'->R.nx γ'
def pFor(js:List Nat)(it:PTI)(g:PTG)(body:PTS):PTS:=fun R γ=>it γ (fun n item=>ForW js γ g body R n item) (R.ex γ)
def KA{is:List Nat}{wi:TI}{g:TG}{it:PTI}{pg:PTG}(js:List Nat)(hi:SndI K mg E wi it)(hg:Vm K is g pg)(hb:SndS K mg E t p):SndS K mg E (tFor wi g t) (pFor js it pg p):=by
 intro H0 B H σ γ R D hB env h e;refine hi H0 B H σ γ _ _ _ env h (fun n item J H1 h1 S1 ok=>?_) fun c H' hc S'=>e.ex σ γ c H' hc (env.grow S') (Fr.grow S');obtain⟨inv,h0,hs,hd⟩:=h1.w;have env1:=env.grow S1;refine⟨fun i m σ' H'=>m=n-i/\i<=n/\∃γ',inv i γ'/\EnvR K H0 B H' σ' γ'/\Fr B H1 σ γ H' σ' γ',⟨n,by simp,ZZ _,_,h0,(env1.clr js).1,(env1.clr js).2⟩,?_⟩;rintro i m σ' H' ⟨rfl,hin,γ',hi',e',f'⟩;by_cases hlt:i<n
 ·obtain⟨go,yl⟩:=ok.go i H' _ hlt (Later.of e' f');refine .inr ⟨go,fun σ2 H2=>∃γ2,inv (i+1) γ2/\EnvR K H0 B H2 σ2 γ2/\Fr B H1 σ γ H2 σ2 γ2,fun σ2 H2 ⟨γ2,a1,a2,a3⟩=>⟨n-(i+1),by omega,rfl,hlt,γ2,a1,a2,a3⟩,fun x H'' y=>?_⟩;obtain⟨S2,tv⟩:=yl x H'' y;refine hg H0 B H' H'' σ' γ' _ _ _ _ e' S2 tv (hs i γ' hlt hi') fun σ2 γ2 q2 e2 f2 _=>?_;have fall:=f'.trans f2;refine hb H0 B H'' σ2 γ2 _ _ hB e2 q2 ⟨fun σ3 γ3 H3 q3 e3 f3=>?_,e.rt,fun σ3 γ3 c H3 q3 e3 f3=>e.ex σ3 γ3 c H3 q3 e3 ((Fr.grow S1).trans (fall.trans f3)),fun σ3 γ3 H3 q3 e3 f3=>e.nx σ3 γ3 H3 q3 e3 ((Fr.grow S1).trans (fall.trans f3)),fun σ3 γ3 H3 q3 e3 f3=>?_,fun σ3 γ3 d v H3 q3 e3 f3=>e.rv σ3 γ3 d v H3 q3 e3 ((Fr.grow S1).trans (fall.trans f3))⟩
  ·exact⟨_,q3,(e3.clr js).1,(fall.trans f3).trans (e3.clr js).2⟩
  ·exact⟨_,q3,(e3.clr js).1,(fall.trans f3).trans (e3.clr js).2⟩
 ·have:i=n:=by omega
  subst this;exact .inl ⟨ok.stop H' _ (Later.of e' f'),e.nx σ' γ' H' (hd γ' hi') e' ((Fr.grow S1).trans f')⟩
def S.fix:S->Bool
 | .bor _=>true | .sh _=>true | .own (.nsl _ _)=>false | .own _=>true|_=>false
def pIL(a:PTE):PTI:=fun γ R X=>a γ (fun s=>match s.d with
 | .lst ds=>s.fix=true/\R ds.length fun i=>s.sub (ds.getD i .non)
 | .scr ns=>s.fix=true/\R ns.length fun i=>.sh (.int (ns.getD i 0))
 |_=>False) X
def TV.last {s:S}{v:V}{ds:List D} (env:EnvR K H0 B H σ γ) (S1:Same H H1) (tv:TV K (zof B γ σ) H0 H H1 s v) (hf:s.fix=true) (hd:s.d=.lst ds):∃l vs,v=.ref l/\vs.length=ds.length/\
  ∀(H':Hp) (Z':Addr->Prop),Later H0 (zof B γ σ) H1 Z' H'->H' l=some (.lst vs)/\∀(i:Nat) d,ds[i]?=some d->∃u,vs[i]?=some u/\TV K Z' H0 H' H' (s.sub d) u:=by
 have env1:=env.grow S1
 have key:∀{s:S},(∀d,s.sub d=.sh d)->Rp K (Pu.off (zof B γ σ) H1) (.lst ds) v->∃l vs,v=.ref l/\vs.length=ds.length/\
   ∀(H':Hp) (Z':Addr->Prop),Later H0 (zof B γ σ) H1 Z' H'->H' l=some (.lst vs)/\∀(i:Nat) d,ds[i]?=some d->∃u,vs[i]?=some u/\TV K Z' H0 H' H' (s.sub d) u:=fun hs h=>by
  obtain⟨l,vs,rfl,h1,h2⟩:=Rp.lst_inv h;refine⟨l,vs,rfl,h2.len,fun H' Z' lt=>⟨off_sub _ _ (lt.off _ _ h1),fun i d hi=>?_⟩⟩;obtain⟨u,h3,h4⟩:=h2.get hi;refine⟨u,h3,?_⟩;rw[hs];exact Rp.mono lt.off h4
 cases s with
 |bor d=>
  have tv:=Rp.strip tv;rw[show d.strip=.lst ds from hd]at tv
  obtain⟨l,vs,rfl,h1,h2⟩:=Rp.lst_inv tv;refine⟨l,vs,rfl,h2.len,fun H' Z' lt=>⟨lt.1 _ _ h1,fun i d hi=>?_⟩⟩;obtain⟨u,h3,h4⟩:=h2.get hi;exact⟨u,h3,argR lt.2.1 lt.1 h4⟩
 |sh d=>
  have:d=.lst ds:=hd
  subst this;exact key (fun _=>rfl) tv
 |own es=>
  cases es with
  |lst es=>
   cases hd
   exact key (fun _=>rfl) (tv.shd env1.same env.zm S1 rfl)
  |lsA x es=>
   cases hd
   exact key (fun _=>rfl) (tv.shd env1.same env.zm S1 rfl)
  |dK es=>cases hd
  |dT es=>cases hd
  |ins x C xs cs=>cases hd
  |nst cs=>cases hd
  |nsl a cs=>cases hf
 |view es=>cases hf
 |tmp d=>cases hf
def Po{te:TE}{a:PTE}(ha:SndE K mg E te a):SndI K mg E (Vi K te) (pIL a):=by
 intro H0 B H σ γ R X Q env h q qx;refine ha H0 B H σ γ _ X _ env h (fun s v H1 h1 S1 t1=>?_) qx;have env1:=env.grow S1;split at h1
 ·rename_i ds ed;obtain⟨l,vs,rfl,hn,hl⟩:=t1.last env S1 h1.1 ed;obtain⟨hl1,_⟩:=hl H1 _ (Later.of env1 Fr.refl);refine⟨l,rfl,⟨vs,SqL.of hl1⟩,q _ _ _ H1 h1.2 S1 ⟨fun i H' Z' hi lt=>?_,fun H' Z' lt=>?_⟩⟩
  ·obtain⟨k1,k2⟩:=hl H' Z' lt;have hd:ds[i]?=some (ds.getD i .non):=by rw[Zu,Zq hi];rfl
   obtain⟨u,hu,tu⟩:=k2 i _ hd;refine⟨⟨vs,u,SqL.of k1,hu⟩,fun x H'' y=>?_⟩;obtain⟨rfl,y⟩:=y
   have:=y vs (SqL.of k1)
   rw[hu]at this;cases this
   exact⟨Same.refl _,tu⟩
  ·exact⟨vs,SqL.of (hl H' Z' lt).1,by omega⟩
 ·rename_i ns ed
  have hs:∃l,v=.ref l/\∀(H':Hp) (Z':Addr->Prop),Later H0 (zof B γ σ) H1 Z' H'->SqL K H' l (ns.map V.int):=by
   cases s with
   |bor d=>
    have t1:=Rp.strip t1;rw[show d.strip=.scr ns from ed]at t1
    cases t1 with
    |scr hs=>exact⟨_,rfl,fun H' Z' lt=>lt.1.seq hs⟩
   |sh d=>
    have:d=.scr ns:=ed
    subst this;cases t1 with
    |scr hs=>exact⟨_,rfl,fun H' Z' lt=>off_sub.seq (lt.off.seq hs)⟩
   |own es=>cases es<;>cases ed
   |view es=>cases es<;>cases ed
   |tmp d=>cases h1.1
  obtain⟨l,rfl,hl⟩:=hs;refine⟨l,rfl,⟨_,hl H1 _ (Later.of env1 Fr.refl)⟩,q _ _ _ H1 h1.2 S1 ⟨fun i H' Z' hi lt=>?_,fun H' Z' lt=>?_⟩⟩
  ·have k1:=hl H' Z' lt
   have hu:(ns.map V.int)[i]?=some (.int (ns.getD i 0)):=by
    rw[Zz,Zq hi,Zu,Zq hi];rfl
   refine⟨⟨_,_,k1,hu⟩,fun x H'' y=>?_⟩;obtain⟨rfl,y⟩:=y
   have:=y _ k1
   rw[hu]at this;cases this
   exact⟨Same.refl _,.int _⟩
  ·exact⟨_,hl H' Z' lt,by rw[Zs];exact Zx _⟩
 ·exact h1.elim
def Rps.one_inv {d:D}{vs:List V} (h:Rps K H [d] vs):∃v,vs=[v]/\Rp K H d v:=by
 cases h with
 |cons h r=>cases r;exact⟨_,rfl,h⟩
def Rps.two_inv {d e:D}{vs:List V} (h:Rps K H [d,e] vs):∃v u,vs=[v,u]/\Rp K H d v/\Rp K H e u:=by
 cases h with
 |cons h r=>cases r with|cons h2 r=>cases r;exact⟨_,_,rfl,h,h2⟩
end
section
variable {K:Za}{mg:Str->Option Value}{E:L2.St->XK}{H0 H H1 H':Hp}{B Z Z':Addr->Prop}{σ:L2.St}{γ:Γ}
def Q0(N:List Str)(ds:List D):Γ:=ds.map (fun d=>some (arg d))++List.replicate (N.length-ds.length) none
def TN{N:List Str}{ds:List D}{vs:List V}(r:Rps K H ds vs)(hn:ds.length<=N.length):EnvR K H (fun b=>Mut (H b)) H (start N vs) (Q0 N ds):=by
 have hlen:=r.len
 have get:∀(i:Nat) (s:S),(Q0 N ds)[i]?=some (some s)->∃d,ds[i]?=some d/\s=arg d:=fun i s h=>by
  unfold Q0 at h;by_cases hi:i<ds.length
  ·rw[Yi (by rw[Zs];exact hi),Zz,Zq hi]at h;exact⟨_,Zq hi,(Zw (Zw h)).symm⟩
  ·rw[Yu (by rw[Zs];omega),List.getElem?_replicate]at h;split at h<;>cases h
 have noown:∀(i:Nat) (es:O),(Q0 N ds)[i]?≠some (some (.own es)):=fun i es h=>by
  obtain⟨d,_,e⟩:=get i _ h;rcases UG d with q|q<;>rw[q]at e<;>cases e
 refine⟨Same.refl _,?_,fun b h=>h,fun i j a a' es es' b h=>absurd h (noown i es),fun i s h=>?_⟩
 ·unfold L2.start Q0;simp[hlen]
 ·obtain⟨d,hd,rfl⟩:=get i s h;obtain⟨v,hv,rv⟩:=r.get hd;refine⟨v,?_,?_⟩
  ·unfold L2.start;rw[Yi (by rw[Zs];exact(ZD.mp hv).1),Zz,hv];rfl
  ·have tv:=argR (K:=K) (Z:=zof (fun b=>Mut (H b)) (Q0 N ds) (start N vs)) (H0:=H) (H:=H) (H':=H) (fun b z=>z.elim id fun⟨k,es,_,k1,_⟩=>absurd k1 (noown k es)) (Same.refl _) rv;rcases UG d with q|q<;>rw[q]at tv ⊢<;>exact tv
def Xx{c:Pc}{N:List Str}{t:TS}{p:PTS}{vs:List V}{Q:VK}{Ec:XK}{n:Nat}(h:spOf mg c K vs H Q Ec)(snd:SndS K mg (fun _=>Ec) t p)(hn:n<=N.length)(hp:∀ds R X,c ds R X->ds.length=n/\p {nx:=fun _=>R (.sh .non),rt:=R,ex:=fun _ e=>X e} (Q0 N ds)):t {nx:=fun _ H'=>Q .non H',rt:=Q} (start N vs) H:=by
 obtain⟨ds,R,X,r,hc,hQ,hX⟩:=h;obtain⟨e,hp⟩:=hp ds R X hc;refine snd H (fun b=>Mut (H b)) H _ _ _ _ (fun b z=>Vo z) (TN r (by rw[e];exact hn)) hp ⟨fun σ' γ' H' h1 e1 f1=>hQ _ _ H' h1 e1.same .non,fun s v H' h1 S1 tv=>hQ s v H' h1 S1 tv,fun σ' γ' c H' h1 e1 f1=>hX c H' h1 e1.same,fun _ _ _ z=>z.elim,fun _ _ _ z=>z.elim,fun _ _ _ _ _ z=>z.elim⟩
def NG{c:Pc}{vs:List V}{Q:VK}{Ec:XK}{n:Nat}(h:spOf mg c K vs H Q Ec)(hn:∀ds R X,c ds R X->ds.length=n):vs.length=n:=by
 obtain⟨ds,R,X,r,hc,_⟩:=h;rw[r.len];exact hn ds R X hc
def atP(φ:List (Option Nat))(γ:Γ):Γ:=φ.map fun o=>o.bind fun j=>(γ[j]?).join
structure CompW (φ:List (Option Nat)) (γ:Γ) (g:PTG) (c:PTT) (e:PTE) (n:Nat) (item:Nat->S) (R:S->Prop):Prop where
 w:n<=100000/\∃f:Nat->Option D,(∀i,i<n->g (item i) (atP φ γ) fun γ2=>c γ2 (fun b=>if b=true then e γ2 (fun s=>∃d,s.shd=some d/\f i=some d) (fun _=>False)else f i=none) (fun _=>False))/\R (.own ((List.range n).filterMap f))
def Pw(φ:List (Option Nat))(it:PTI)(g:PTG)(c:PTT)(e:PTE):PTE:=fun γ R X=>it γ (fun n item=>CompW φ γ g c e n item R) X
def Qv{φ:List (Option Nat)}{i:Nat}{s:S}(h:(atP φ γ)[i]?=some (some s)):∃j,φ[i]?=some (some j)/\γ[j]?=some (some s):=by
 unfold atP at h;rw[Zz]at h;cases e:φ[i]? with
 |none=>rw[e]at h;cases h
 |some o=>
  rw[e]at h;cases o with
  |none=>simp at h
  |some j=>
   refine⟨j,rfl,?_⟩;simp at h;cases e2:γ[j]? with
   |none=>rw[e2]at h;simp at h
   |some w=>rw[e2]at h;simp at h;rw[h]
def Vh:∀{φ:List (Option Nat)},(φ.filterMap id).Nodup->∀(i j k:Nat),φ[i]?=some (some k)->φ[j]?=some (some k)->i=j
 |[],_,i,_,_,h,_=>by simp at h
 |none::r,hn,i,j,k,h1,h2=>by
  cases i with
  |zero=>simp at h1
  |succ i=>
   cases j with
   |zero=>simp at h2
   |succ j=>exact ZN (· + 1) (Vh (φ:=r) (by simpa using hn) i j k (by simpa using h1) (by simpa using h2))
 |some m::r,hn,i,j,k,h1,h2=>by
  have hn':m∉r.filterMap id/\(r.filterMap id).Nodup:=by simpa using hn
  have mem:∀{j:Nat},r[j]?=some (some k)->k∈r.filterMap id:=fun h=>Wh.mpr ⟨some k,Yy h,rfl⟩;cases i with
  |zero=>
   cases j with
   |zero=>rfl
   |succ j=>
    have e:m=k:=by simpa using h1
    subst e;exact absurd (mem (by simpa using h2)) hn'.1
  |succ i=>
   cases j with
   |zero=>
    have e:m=k:=by simpa using h2
    subst e;exact absurd (mem (by simpa using h1)) hn'.1
   |succ j=>exact ZN (· + 1) (Vh (φ:=r) hn'.2 i j k (by simpa using h1) (by simpa using h2))
def Qy{φ:List (Option Nat)}{i j:Nat}(h1:φ[i]?=some (some j)){v:V}(h2:σ[j]?=some (some v)):(atStart φ σ)[i]?=some (some v):=by
 unfold atStart;rw[Zz,h1];simp[h2]
def UK{φ:List (Option Nat)}{L:Addr}(env:EnvR K H0 B H σ γ)(nL:H L=none):∀b o,H b=some o->¬zof B γ σ b->¬zof (fun b=>zof B γ σ b\/b=L) (atP φ γ) (atStart φ σ) b:=fun b o hb z y=>by
 rcases y with(y|y)|⟨i',ds,x,y1,y2,y3⟩
 ·exact z y
 ·rw[y,nL]at hb;cases hb
 ·obtain⟨m,m1,m2⟩:=Qv y1;obtain⟨w,w1,_⟩:=env.slot m _ m2;rw[Qy m1 w1]at y2;exact z (.inr ⟨m,ds,x,m2,by rw[w1];exact ZN some (Zw y2),y3⟩)
def XW{φ:List (Option Nat)}{L:Addr}(env:EnvR K H0 B H σ γ)(S1:Same H H')(nL:H L=none)(hL:∃ys,H' L=some (.lst ys))(hφ:(φ.filterMap id).Nodup) :
  EnvR K H0 (fun b=>zof B γ σ b\/b=L) H' (atStart φ σ) (atP φ γ):=by
 refine⟨env.same.trans S1,by unfold atStart atP;simp,fun b z=>?_,fun i j a a' ds es b h1 h2 h3 h4 h5 h6=>?_,fun i s h=>?_⟩
 ·rcases z with z|rfl
  ·exact Qu S1 (env.zm b z)
  ·obtain⟨ys,e⟩:=hL;rw[e];trivial
 ·obtain⟨k,k1,k2⟩:=Qv h1;obtain⟨l,l1,l2⟩:=Qv h2;obtain⟨v,v1,_⟩:=env.slot k _ k2;obtain⟨u,u1,_⟩:=env.slot l _ l2;rw[Qy k1 v1]at h3;rw[Qy l1 u1]at h4
  have:=env.own k l a a' ds es b k2 l2 (by rw[v1];exact ZN some (Zw h3)) (by rw[u1];exact ZN some (Zw h4)) h5 h6
  subst this;exact Vh hφ i j k k1 l1
 ·obtain⟨k,k1,k2⟩:=Qv h;obtain⟨v,v1,v2⟩:=env.slot k _ k2;have So:Same (off (zof B γ σ) H) (off (zof (fun b=>zof B γ σ b\/b=L) (atP φ γ) (atStart φ σ)) H'):=WA S1 (UK env nL);refine⟨v,Qy k1 v1,?_⟩;cases s with
  |bor d=>exact v2
  |sh d=>exact Rp.mono So v2
  |own ds=>
   obtain⟨a,e1,e3,e4⟩:=v2;exact⟨a,e1,e3,e4.mono So fun b _ x=>S1 b x⟩
  |view ds=>exact v2
  |tmp d=>exact v2
def Sub.of {σ σ':L2.St}{is:List Nat} (hl:σ'.length=σ.length) (h1:∀j,j∉is->σ'[j]?=σ[j]?) (h2:∀j∈is,∀v,σ[j]?≠some (some v)):Sub σ σ':=⟨hl,fun i v e=>by
 by_cases hi:i∈is
 ·exact absurd e (h2 i hi v)
 ·rw[h1 i hi];exact e⟩
structure ItOkC (K:Za) (H0:Hp) (B:Addr->Prop) (H1:Hp) (σ:L2.St) (γ:Γ) (J:It) (n:Nat) (item:Nat->S):Prop where
 go:∀(i:Nat) (H':Hp) (Z':Addr->Prop),i<n->Same H1 H'->Later H0 (zof B γ σ) H1 Z' H'->J.go i H'/\∀x H'',J.yld i H' x H''->Same H' H''/\TV K Z' H0 H' H'' (item i) x
 stop:∀(H':Hp) (Z':Addr->Prop),Same H1 H'->Later H0 (zof B γ σ) H1 Z' H'->J.stop n H'
def Xq(K:Za)(mg:Str->Option Value)(E:L2.St->XK)(wi:TI)(it:PTI):Prop:=∀(H0:Hp) (B:Addr->Prop) (H:Hp) (σ:L2.St) (γ:Γ) (R:Nat->(Nat->S)->Prop) (X:XR) (Q:It->Hp->Prop),EnvR K H0 B H σ γ->it γ R X->
 (∀n item J H1,R n item->Same H H1->ItOkC K H0 B H1 σ γ J n item->Q J H1)->(∀c H',X c->Same H H'->E σ (.ref (ExcR.WR mg c)) none H')->wi σ H Q
def pILc(a:PTE):PTI:=fun γ R X=>a γ (fun s=>match s.d with
 | .lst ds=>R ds.length fun i=>s.sub (ds.getD i .non)
 | .tup ds=>False
 | .scr ns=>R ns.length fun i=>.sh (.int (ns.getD i 0))
 |_=>False) X
def X7{te:TE}{a:PTE}(ha:SndE K mg E te a):Xq K mg E (Vi K te) (pILc a):=by
 intro H0 B H σ γ R X Q env h q qx;refine ha H0 B H σ γ _ X _ env h (fun s v H1 h1 S1 t1=>?_) qx;have env1:=env.grow S1;split at h1
 ·rename_i ds ed;have rv:=t1.rp env1.same;rw[ed]at rv;obtain⟨l,vs,rfl,hl1,r1⟩:=rv.lst_inv;refine⟨l,rfl,⟨vs,SqL.of hl1⟩,q _ _ _ H1 h1 S1 ⟨fun i H' Z' hi S2 lt=>?_,fun H' Z' S2 lt=>⟨vs,SqL.of (S2 _ _ hl1),by rw[r1.len];exact Zx _⟩⟩⟩;have hd:ds[i]?=some (ds.getD i .non):=by rw[Zu,Zq hi];rfl
  have hi':∃u,vs[i]?=some u/\TV K Z' H0 H' H' (s.sub (ds.getD i .non)) u:=by
   cases s with
   |bor d=>
    have t1:=Rp.strip t1;rw[show d.strip=.lst ds from ed]at t1
    obtain⟨l',vs',e',h3,r3⟩:=Rp.lst_inv t1;cases e'
    rw[env1.same _ _ h3]at hl1;cases hl1
    obtain⟨u,h4,h5⟩:=r3.get hd;exact⟨u,h4,argR lt.2.1 lt.1 h5⟩
   |sh d=>
    have:d=.lst ds:=ed
    subst this;obtain⟨l',vs',e',h3,r3⟩:=Rp.lst_inv t1;cases e'
    rw[off_sub _ _ h3]at hl1;cases hl1
    obtain⟨u,h4,h5⟩:=r3.get hd;exact⟨u,h4,Rp.mono lt.off h5⟩
   |own es=>
    cases es with
    |dK es=>cases ed
    |dT es=>cases ed
    |ins x C xs cs=>cases ed
    |nst cs=>cases ed
    |nsl x cs=>
     obtain⟨u,h4,h5⟩:=r1.get hd;exact⟨u,h4,Qi lt.2.1 (Rp.mono S2 h5)⟩
    |lsA x es=>
     cases ed
     obtain⟨l',e',h0,_,vs',h3,r3⟩:=t1;cases e'
     rw[h3]at hl1;cases hl1
     obtain⟨u,h4,h5⟩:=r3.get hd;exact⟨u,h4,Rp.mono lt.off (Rp.mono (WA (Same.refl _) fun b _ _ z y=>z (.inl y)) h5)⟩
    |lst es=>
    cases ed
    obtain⟨l',e',h0,vs',h3,r3⟩:=t1;cases e'
    rw[h3]at hl1;cases hl1
    obtain⟨u,h4,h5⟩:=r3.get hd;exact⟨u,h4,Rp.mono lt.off (Rp.mono (WA (Same.refl _) fun b _ _ z y=>z (.inl y)) h5)⟩
   |view es=>
    cases es with
    |dK es=>cases ed
    |dT es=>cases ed
    |ins x C xs cs=>cases ed
    |nst cs=>cases ed
    |nsl x cs=>
     obtain⟨u,h4,h5⟩:=r1.get hd;exact⟨u,h4,Qi lt.2.1 (Rp.mono S2 h5)⟩
    |lsA x es=>
     cases ed
     obtain⟨l',e',_,vs',h3,r3⟩:=t1;cases e'
     rw[h3]at hl1;cases hl1
     obtain⟨u,h4,h5⟩:=r3.get hd;exact⟨u,h4,Rp.mono lt.off h5⟩
    |lst es=>
    cases ed
    obtain⟨l',e',vs',h3,r3⟩:=t1;cases e'
    rw[h3]at hl1;cases hl1
    obtain⟨u,h4,h5⟩:=r3.get hd;exact⟨u,h4,Rp.mono lt.off h5⟩
   |tmp d=>
    have:d=.lst ds:=ed
    subst this;obtain⟨l',vs',e',h3,r3⟩:=Rp.lst_inv t1;cases e'
    rw[h3]at hl1;cases hl1
    obtain⟨u,h4,h5⟩:=r3.get hd;exact⟨u,h4,Qi lt.2.1 (Rp.mono S2 h5)⟩
  obtain⟨u,hu,tu⟩:=hi';refine⟨⟨vs,u,SqL.of (S2 _ _ hl1),hu⟩,fun x H'' y=>?_⟩;obtain⟨rfl,y⟩:=y
  have:=y vs (SqL.of (S2 _ _ hl1))
  rw[hu]at this;cases this
  exact⟨Same.refl _,tu⟩
 ·exact h1.elim
 ·rename_i ns ed;have rv:=t1.rp env1.same;rw[ed]at rv;cases rv with
  |scr hs=>
   refine⟨_,rfl,⟨_,hs⟩,q _ _ _ H1 h1 S1 ⟨fun i H' Z' hi S2 lt=>?_,fun H' Z' S2 lt=>⟨_,S2.seq hs,by rw[Zs];exact Zx _⟩⟩⟩
   have hu:(ns.map V.int)[i]?=some (.int (ns.getD i 0)):=by
    rw[Zz,Zq hi,Zu,Zq hi];rfl
   refine⟨⟨_,_,S2.seq hs,hu⟩,fun x H'' y=>?_⟩;obtain⟨rfl,y⟩:=y
   have:=y _ (S2.seq hs)
   rw[hu]at this;cases this
   exact⟨Same.refl _,.int _⟩
 ·exact h1.elim
def N2{φ:List (Option Nat)}{is:List Nat}{wi:TI}{g:TG}{tc:TT}{te:TE}{it:PTI}{pg:PTG}{c:PTT}{a:PTE}(hi:Xq K mg E wi it)(hg:Vm K is g pg)(hc:SndT K mg E tc c)(he:SndE K mg E te a)(h1:(φ.filterMap id).Nodup:=by decide)(h2:∀j∈is,φ[j]?=some none:=by decide):SndE K mg E (V2 φ wi g tc te) (Pw φ it pg c a):=by
 intro H0 B H σ γ R X Q env h q qx;refine hi H0 B H σ γ _ X _ env h (fun n item J H1 h1' S1 ok=>?_) qx;obtain⟨hn,f,hf,hR⟩:=h1'.w;have env1:=env.grow S1;have hbig:n<=sizeLine:=Z8 hn (by decide);intro L nL;refine⟨fun i m ys H2=>m=n-i/\i<=n/\Same H1 H2/\H2 L=some (.lst ys)/\Rps K (off (fun b=>zof B γ σ b\/b=L) H2) ((List.range i).filterMap f) ys,⟨n,by simp,ZZ _,WU nL,WC,.nil⟩,?_⟩;rintro i m ys H2 ⟨rfl,hin,S2,hL,hys⟩;have env2:=env1.grow S2;by_cases hlt:i<n
 ·have envI2:=XW (φ:=φ) env1 S2 nL ⟨ys,hL⟩ h1;obtain⟨go,yl⟩:=ok.go i H2 _ hlt S2 ⟨env2.same,envI2.zm,fun b o hb z=>⟨S2 _ _ hb,UK env1 nL b o hb z⟩⟩;refine .inr ⟨go,fun x H3 y=>?_⟩;obtain⟨S3,tv⟩:=yl x H3 y;refine hg H0 _ H2 H3 _ _ _ _ _ _ envI2 S3 tv (hf i hlt) fun σ2 γ2 p2 e2 f2 k2=>⟨?_,?_⟩
  ·refine Sub.of (is:=is) k2.2 k2.1 fun j hj v z=>?_;obtain⟨k,k1,_⟩:=VI z;rw[h2 j hj]at k1;cases k1
  ·refine hc H0 _ H3 σ2 γ2 _ _ _ e2 p2 (fun b H5 q5 S5=>?_) fun _ _ z=>z.elim;have e5:=e2.grow S5;cases b with
   |false=>
    rw[Z2 Z1]at q5 ⊢;refine⟨n-(i+1),by omega,rfl,hlt,(S2.trans S3).trans S5,(S3.trans S5) _ _ hL,?_⟩;rw[YG,Yh];simp only[Yc,q5,List.filterMap_nil,YD];exact Rps.mono (WA (S3.trans S5) fun _ _ _ z=>z) hys
   |true=>
    rw[Z0 rfl]at q5 ⊢;refine he H0 _ H5 σ2 γ2 _ _ _ e5 q5 (fun s v H6 q6 S6 t6=>?_) fun _ _ z=>z.elim;obtain⟨d,hd,hfd⟩:=q6;have S26:=(S3.trans S5).trans S6;have hr:=t6.shd (e5.grow S6).same e5.zm S6 hd
    have hlen:ys.length<=i:=by
     rw[hys.len];exact Z8 (YM _ _) (by rw[Y4];exact Zx _)
    refine⟨S26 _ _ hL,by omega,n-(i+1),by omega,rfl,hlt,fun b o hb=>?_,WC,?_⟩
    ·rw[W7 (WK hb nL)];exact S26 _ _ (S2 _ _ hb)
    ·rw[YG,Yh];have ef:[i].filterMap f=[d]:=by simp[hfd]
     rw[ef]
     have So:Same (off (fun b=>zof B γ σ b\/b=L) H6) (off (fun b=>zof B γ σ b\/b=L) (upd H6 L (.lst (ys++[v])))):=fun b o h=>by
      obtain⟨a1,a2⟩:=QD h;refine Qe ?_ a2;rw[W7 fun z=>a2 (.inr z)];exact a1
     refine Rps.append (Rps.mono So (Rps.mono (WA S26 fun _ _ _ z=>z) hys)) (.cons (Rp.mono So (Rp.mono (WA (Same.refl _) fun b _ _ z y=>z (.inl y)) hr)) .nil)
 ·have:i=n:=by omega
  subst this;exact .inl ⟨ok.stop H2 _ S2 (Later.of env2 (Fr.grow S2)),q _ _ H2 hR (S1.trans S2) ⟨L,rfl,(fun _ e=>e▸S1.free nL),ys,hL,hys⟩⟩
def Xw{α β:Type}(xs:List α)(f:α->Option β):(List.range xs.length).filterMap (fun i=>(xs[i]?).bind f)=xs.filterMap f:=by
 induction xs with
 |nil=>rfl
 |cons x r ih=>
  rw[Wp,List.range_succ_eq_map,Yc,List.filterMap_map,Yc]
  have e:(fun i=>((x::r)[i]?).bind f)∘Nat.succ=fun i=>(r[i]?).bind f:=by
   funext i;simp
  rw[e,ih];rfl
end
open M
section
variable {K:Za}{mg:Str->Option Value}{E:L2.St->XK}{H0 H H1 H':Hp}{B Z Z':Addr->Prop}{σ:L2.St}{γ:Γ}
def pCB(f:List S->(S->Prop)->Prop)(r:PTA):PTE:=fun γ R X=>r γ (fun ss=>f ss R) X
def Xf{rr:List V->Hp->VK->Prop}{f:List S->(S->Prop)->Prop}{ta:TA}{r:PTA}(hr:SndA K mg E ta r)(h:∀(H0 H H1:Hp) (Z:Addr->Prop) (ss:List S) (vs:List V) (R:S->Prop) (Q:VK),Same H0 H1->Same H H1->(∀b,Z b->Mut (H b))->TVs K Z H0 H H1 ss vs->f ss R->(∀s z H',R s->Same H1 H'->TV K Z H0 H H' s z->Q z H')->rr vs H1 Q) :
  SndE K mg E (tCB rr ta) (pCB f r):=by
 intro H0 B H σ γ R X Q env p q qx;refine hr H0 B H σ γ _ X _ env p (fun ss vs H1 h1 S1 t1=>?_) qx;exact h H0 H H1 _ ss vs R Q (env.grow S1).same S1 env.zm t1 h1 fun s z H' hs S2 tv=>q s z H' hs (S1.trans S2) tv
def S.free:S->List D->Bool
 | .bor _,ds=>imms ds | .tmp _,ds=>imms ds | .view (.nst _),ds=>imms ds | .view (.nsl _ _),ds=>imms ds|_,_=>true
def TVs.one_inv {s:S}{vs:List V} (h:TVs K Z H0 H H' [s] vs):∃v,vs=[v]/\TV K Z H0 H H' s v:=by
 cases h with
 |cons h r=>cases r;exact⟨_,rfl,h⟩
def TV.items {s:S}{v:V}{ds:List D} (h0:Same H0 H') (hm:∀b,Z b->Mut (H b)) (S1:Same H H') (h:TV K Z H0 H H' s v) (hf:s.free ds=true) :
  (s.d=.lst ds->∃a vs,v=.ref a/\H' a=some (.lst vs)/\Rps K (off Z H') ds vs)/\(s.d=.tup ds->∃a vs,v=.ref a/\H' a=some (.tup vs)/\Rps K (off Z H') ds vs):=by
 have hm':∀b,Z b->Mut (H' b):=fun b z=>Qu S1 (hm b z);cases s with
 |bor d=>
  have h:=Rp.strip h;refine⟨fun e=>?_,fun e=>?_⟩<;>rw[show d.strip=_ from e]at h
  ·obtain⟨a,vs,rfl,h1,r⟩:=Rp.lst_inv h;exact⟨a,vs,rfl,h0 _ _ h1,Rps.off hm' (Rps.mono h0 r) hf⟩
  ·obtain⟨a,vs,rfl,h1,r⟩:=Rp.tup_inv h;exact⟨a,vs,rfl,h0 _ _ h1,Rps.off hm' (Rps.mono h0 r) hf⟩
 |sh d=>
  refine⟨fun e=>?_,fun e=>?_⟩<;>(have e':d=_:=e;subst e')
  ·obtain⟨a,vs,rfl,h1,r⟩:=Rp.lst_inv h;exact⟨a,vs,rfl,off_sub _ _ h1,r⟩
  ·obtain⟨a,vs,rfl,h1,r⟩:=Rp.tup_inv h;exact⟨a,vs,rfl,off_sub _ _ h1,r⟩
 |own es=>
  cases es with
  |dK es=>exact⟨(fun e=>by cases e),(fun e=>by cases e)⟩
  |dT es=>exact⟨(fun e=>by cases e),(fun e=>by cases e)⟩
  |ins x C xs cs=>exact⟨(fun e=>by cases e),(fun e=>by cases e)⟩
  |nsl x cs=>
   refine⟨fun e=>?_,fun e=>by cases e⟩;have h2:=h.shd h0 hm S1 (d:=.lst (cs.map fun c=>.lst c.2)) rfl;cases e
   obtain⟨a,vs,rfl,h1,r⟩:=Rp.lst_inv h2;exact⟨a,vs,rfl,off_sub _ _ h1,r⟩
  |nst cs=>
   refine⟨(fun e=>by cases e),fun e=>?_⟩;have h2:=h.shd h0 hm S1 (d:=.tup (cs.map fun c=>.lst c.2)) rfl;cases e
   obtain⟨a,vs,rfl,h1,r⟩:=Rp.tup_inv h2;exact⟨a,vs,rfl,off_sub _ _ h1,r⟩
  |lst es=>
   refine⟨fun e=>?_,fun e=>by cases e⟩;cases e
   obtain⟨a,rfl,e0,vs,e,r⟩:=h;exact⟨a,vs,rfl,e,Rps.mono (WA (Same.refl _) fun b _ _ z y=>z (.inl y)) r⟩
  |lsA x es=>
   refine⟨fun e=>?_,fun e=>by cases e⟩;cases e
   obtain⟨a,rfl,e0,_,vs,e,r⟩:=h;exact⟨a,vs,rfl,e,Rps.mono (WA (Same.refl _) fun b _ _ z y=>z (.inl y)) r⟩
 |view es=>
  cases es with
  |dK es=>exact⟨(fun e=>by cases e),(fun e=>by cases e)⟩
  |dT es=>exact⟨(fun e=>by cases e),(fun e=>by cases e)⟩
  |ins x C xs cs=>exact⟨(fun e=>by cases e),(fun e=>by cases e)⟩
  |nsl x cs=>
   refine⟨fun e=>?_,fun e=>by cases e⟩;have h2:=h.rp h0;rw[e]at h2;obtain⟨a,vs,rfl,h1,r⟩:=Rp.lst_inv h2;exact⟨a,vs,rfl,h1,Rps.off hm' r hf⟩
  |nst cs=>
   refine⟨(fun e=>by cases e),fun e=>?_⟩;have h2:=h.rp h0;rw[e]at h2;obtain⟨a,vs,rfl,h1,r⟩:=Rp.tup_inv h2;exact⟨a,vs,rfl,h1,Rps.off hm' r hf⟩
  |lst es=>
   refine⟨fun e=>?_,fun e=>by cases e⟩;cases e
   obtain⟨a,rfl,vs,e,r⟩:=h;exact⟨a,vs,rfl,e,r⟩
  |lsA x es=>
   refine⟨fun e=>?_,fun e=>by cases e⟩;cases e
   obtain⟨a,rfl,_,vs,e,r⟩:=h;exact⟨a,vs,rfl,e,r⟩
 |tmp d=>
  refine⟨fun e=>?_,fun e=>?_⟩<;>(have e':d=_:=e;subst e')
  ·obtain⟨a,vs,rfl,h1,r⟩:=Rp.lst_inv h;exact⟨a,vs,rfl,h1,Rps.off hm' r hf⟩
  ·obtain⟨a,vs,rfl,h1,r⟩:=Rp.tup_inv h;exact⟨a,vs,rfl,h1,Rps.off hm' r hf⟩
def fLen:List S->(S->Prop)->Prop
 |[s],R=>(match s.d with
  | .lst ds=>R (.sh (.int ds.length)) | .tup ds=>R (.sh (.int ds.length)) | .scr ns=>R (.sh (.int ns.length)) | .str x=>x.length<=sizeLine/\R (.sh (.int x.length))|_=>False)
 |_,_=>False
def Xm:List S->(S->Prop)->Prop
 |[s],R=>(match s.d with
  | .lst ds=>s.free ds=true/\R (.own ds) | .tup ds=>s.free ds=true/\R (.own ds)|_=>False)
 |_,_=>False
def JT{ta:TA}{r:PTA}(hr:SndA K mg E ta r):SndE K mg E (tCB (fun xs H Q=>∃p ys,xs=[.ref p]/\(SqL K H p ys\/SqT K H p ys)/\∀l,H l=none->Q (.ref l) (upd H l (.lst ys))) ta) (pCB Xm r):=by
 refine Xf hr fun H0 H H1 Z ss vs R Q s0 s1 hm tv h q=>?_;unfold Xm at h;split at h
 ·rename_i s;obtain⟨v,rfl,t1⟩:=tv.one_inv;split at h
  ·rename_i ds e;obtain⟨a,us,rfl,h1,r1⟩:=(t1.items s0 hm s1 h.1).1 e;exact⟨a,us,rfl,.inl (SqL.of h1),fun l nl=>q _ _ _ h.2 (WU nl) (QP s1 nl r1)⟩
  ·rename_i ds e;obtain⟨a,us,rfl,h1,r1⟩:=(t1.items s0 hm s1 h.1).2 e;exact⟨a,us,rfl,.inr (SqT.of h1),fun l nl=>q _ _ _ h.2 (WU nl) (QP s1 nl r1)⟩
  ·exact h.elim
 ·exact h.elim
def Rps.ints {K:Za}{H:Hp}:∀{js:List Int}{vs:List V},Rps K H (js.map D.int) vs->vs=js.map V.int
 |[],_,.nil=>rfl
 |j::r,_,.cons h t=>by rw[Rp.int_inv h,Rps.ints t];rfl
def Rps.of_ints {K:Za}{H:Hp}:∀(js:List Int),Rps K H (js.map D.int) (js.map V.int)
 |[]=>.nil
 |j::r=>.cons (.int j) (Rps.of_ints r)
def U9:List S->(S->Prop)->Prop
 |[s],R=>∃js:List Int,s.d=.lst (js.map D.int)/\js.length<64/\∀ns:List Int,ns.Perm js->ns.Pairwise (·<=·)->R (.own (ns.map D.int))
 |_,_=>False
def XI{w:World}{ta:TA}{r:PTA}(hr:SndA K mg E ta r):SndE K mg E (tCB (fun xs H Q=>∃(p:Addr) (js:List Int),xs=[.ref p]/\js.length<64/\(SqL K H p (js.map V.int)\/H p=some (SetH w p js))/\
  ∀(l:Addr) (ns:List Int),H l=none->ns.Perm js->ns.Pairwise (·<=·)->Q (.ref l) (upd H l (.lst (ns.map V.int)))) ta) (pCB U9 r):=by
 refine Xf hr fun H0 H H1 Z ss vs R Q s0 s1 hm tv h q=>?_;unfold U9 at h;split at h
 ·rename_i s;obtain⟨v,rfl,t1⟩:=tv.one_inv;obtain⟨js,e,hz,k⟩:=h;have rv:=t1.rp s0;rw[e]at rv;obtain⟨a,us,rfl,h1,r1⟩:=rv.lst_inv;rw[r1.ints]at h1;exact⟨a,js,rfl,hz,.inl (SqL.of h1),fun l ns nl hp hs=>q _ _ _ (k ns hp hs) (WU nl) (QP s1 nl (Rps.of_ints ns))⟩
 ·exact h.elim
def Sd:List S->(S->Prop)->Prop
 |[s,t],R=>(match s.d,t.d with | .int i,.int j=>R (.sh (.int (if j>i then j else i)))|_,_=>False)
 |_,_=>False
def fAbs:List S->(S->Prop)->Prop
 |[s],R=>(match s.d with | .int i=>R (.sh (.int (if i<0 then -i else i)))|_=>False)
 |_,_=>False
def pBM(f:S->List S->(S->Prop)->Prop)(a:PTE)(r:PTA):PTE:=fun γ R X=>a γ (fun s=>(∃ds,s.d=.lst ds)/\r γ (fun ss=>f s ss R) X) X
def KR{rr:V->List V->Hp->VK->Prop}{f:S->List S->(S->Prop)->Prop}{te:TE}{ta:TA}{a:PTE}{r:PTA}(ha:SndE K mg E te a)(hr:SndA K mg E ta r)(h:∀(H0 H H1:Hp) (Z:Addr->Prop) (s:S) (v:V) (ss:List S) (vs:List V) (R:S->Prop) (Q:VK),Same H0 H1->Same H H1->(∀b,Z b->Mut (H b))->TV K Z H0 H H1 s v->TVs K Z H0 H H1 ss vs->f s ss R->(∀s z H',R s->Same H1 H'->TV K Z H0 H H' s z->Q z H')->rr v vs H1 Q) :
  SndE K mg E (tBM K "list" rr te ta) (pBM f a r):=by
 intro H0 B H σ γ R X Q env p q qx;refine ha H0 B H σ γ _ X _ env p (fun s v H1 h1 S1 t1=>?_) qx;have env1:=env.grow S1;obtain⟨⟨ds,ed⟩,h1⟩:=h1;have rv:=t1.rp env1.same;rw[ed]at rv;obtain⟨l,us,rfl,hl,_⟩:=rv.lst_inv;refine⟨.inl ⟨rfl,us,SqL.of hl⟩,hr H0 B H1 σ γ _ X _ env1 h1 (fun ss vs H2 h2 S2 t2=>?_) fun c H' hc S'=>qx c H' hc (S1.trans S')⟩;exact h H0 H H2 _ s _ ss vs R Q (env1.grow S2).same (S1.trans S2) env.zm (t1.grow S2) (TVs.weakG S1 t2) h2 fun s z H' hs S3 tv=>q s z H' hs ((S1.trans S2).trans S3) tv
def UW:S->List S->(S->Prop)->Prop:=fun s ss R=>match ss with
 |[t]=>(match t.d with | .int z=>∃xs:List Int,s.d=.lst (xs.map D.int)/\z∈xs/\R (.sh (.int (xs.idxOf z:Nat)))|_=>False)
 |_=>False
def KB{te:TE}{ta:TA}{a:PTE}{r:PTA}(ha:SndE K mg E te a)(hr:SndA K mg E ta r):SndE K mg E (tBM K "list" (Vk K) te ta) (pBM UW a r):=by
 refine KR ha hr fun H0 H H1 Z s v ss vs R Q s0 s1 hm t1 t2 h q=>?_;unfold UW at h;split at h
 ·obtain⟨u,rfl,t2'⟩:=t2.one_inv;have r2:=t2'.rp s0;split at h
  ·rename_i z e;rw[e]at r2;obtain⟨xs,ex,hz,hR⟩:=h;have r1:=t1.rp s0;rw[ex]at r1;obtain⟨l,us,rfl,hl,r1⟩:=r1.lst_inv;rw[r1.ints]at hl;exact⟨l,xs,z,rfl,by rw[r2.int_inv],SqL.of hl,hz,q _ _ H1 hR (Same.refl _) (.int _)⟩
  ·exact h.elim
 ·exact h.elim
def prD(p:Int×Int):D:=.tup [.int p.1,.int p.2]
def Rp.pair {q:Int×Int}{v:V} (h:Rp K H (prD q) v):WS H v q:=by
 obtain⟨a,vs,rfl,h1,r⟩:=Rp.tup_inv h;obtain⟨x,y,rfl,r1,r2⟩:=r.two_inv;rw[r1.int_inv,r2.int_inv]at h1;exact⟨a,rfl,h1⟩
def Rp.of_pair {q:Int×Int}{v:V} (h:WS H v q):Rp K H (prD q) v:=by
 obtain⟨a,rfl,h1⟩:=h;exact .tup h1 (.cons (.int _) (.cons (.int _) .nil))
def Rps.lv {K:Za}{H:Hp}{ps:List (Int×Int)}{vs:List V} (h:Rps K H (ps.map prD) vs):LV WS H vs ps:=by
 refine⟨by rw[h.len,Zs],fun i p hp=>?_⟩;obtain⟨v,h1,h2⟩:=h.get (i:=i) (d:=prD p) (by rw[Zz,hp];rfl);exact⟨v,h1,h2.pair⟩
def Rps.of_lv {K:Za}{H:Hp}:∀{ps:List (Int×Int)}{vs:List V},LV WS H vs ps->Rps K H (ps.map prD) vs
 |[],[],_=>.nil
 |[],_::_,h=>by have:=h.1;simp at this
 |_::_,[],h=>by have:=h.1;simp at this
 |p::ps,v::vs,h=>by
  have h':=(LV.cons_iff (R:=WS) (H:=H) (v:=v) (vs:=vs) (x:=p) (xs:=ps)).mp h;exact .cons (Rp.of_pair h'.1) (Rps.of_lv h'.2)
def fEqU(neg:Bool):S->S->(S->Prop)->Prop:=fun x y R=>match x.d,y.d with
 | .lst ds,.lst es=>∃xs ys:List Int,ds=xs.map D.int/\es=ys.map D.int/\R (.sh (.bl (if neg then !decide (xs=ys)else decide (xs=ys))))
 |_,_=>fEq neg x y R
def NB{ta tb:TE}{a b:PTE}(ha:SndE K mg E ta a)(hb:SndE K mg E tb b):SndE K mg E (tOp (fun x y H Q=>rEq x y H Q\/rEqL K false x y H Q) ta tb) (p2 a b (fEqU false)):=by
 refine se_2 ha hb fun H0 H H2 Z x y v u R Q s0 s1 hm tx ty h q=>?_;have rx:=tx.rp s0;have ry:=ty.rp s0;unfold fEqU at h;split at h
 ·rename_i ds es e1 e2;obtain⟨xs,ys,rfl,rfl,hR⟩:=h;rw[e1]at rx;rw[e2]at ry;obtain⟨l,us,rfl,hl,r⟩:=rx.lst_inv;obtain⟨m,ws,rfl,hm,r'⟩:=ry.lst_inv;rw[r.ints]at hl;rw[r'.ints]at hm;refine .inr ⟨l,m,_,_,rfl,rfl,SqL.of hl,SqL.of hm,Q6 _,Q6 _,?_⟩;rw[VB];exact q _ _ H2 hR (Same.refl _) (.bl _)
 ·refine .inl ?_;unfold fEq at h;split at h
  ·rename_i i j e1 e2;rw[e1]at rx;rw[e2]at ry;rw[rx.int_inv,ry.int_inv];refine⟨rfl,?_⟩;rw[QM (f:=V.int) fun _ _ z=>V.int.inj z];exact q _ _ H2 h (Same.refl _) (.bl _)
  ·rename_i i j e1 e2;rw[e1]at rx;rw[e2]at ry;rw[rx.str_inv,ry.str_inv];refine⟨rfl,?_⟩;rw[QM (f:=V.str) fun _ _ z=>V.str.inj z];exact q _ _ H2 h (Same.refl _) (.bl _)
  ·rename_i i j e1 e2;rw[e1]at rx;rw[e2]at ry;rw[rx.bl_inv,ry.bl_inv];refine⟨rfl,?_⟩;rw[QM (f:=V.bl) fun _ _ z=>V.bl.inj z];exact q _ _ H2 h (Same.refl _) (.bl _)
  ·exact h.elim
def Tv{ta tb:TE}{a b:PTE}(ha:SndE K mg E ta a)(hb:SndE K mg E tb b):SndE K mg E (tOp (fun x y H Q=>rNe x y H Q\/rEqL K true x y H Q) ta tb) (p2 a b (fEqU true)):=by
 refine se_2 ha hb fun H0 H H2 Z x y v u R Q s0 s1 hm tx ty h q=>?_;have rx:=tx.rp s0;have ry:=ty.rp s0;unfold fEqU at h;split at h
 ·rename_i ds es e1 e2;obtain⟨xs,ys,rfl,rfl,hR⟩:=h;rw[e1]at rx;rw[e2]at ry;obtain⟨l,us,rfl,hl,r⟩:=rx.lst_inv;obtain⟨m,ws,rfl,hm,r'⟩:=ry.lst_inv;rw[r.ints]at hl;rw[r'.ints]at hm;refine .inr ⟨l,m,_,_,rfl,rfl,SqL.of hl,SqL.of hm,Q6 _,Q6 _,?_⟩;rw[VB];exact q _ _ H2 hR (Same.refl _) (.bl _)
 ·refine .inl ?_;unfold fEq at h;split at h
  ·rename_i i j e1 e2;rw[e1]at rx;rw[e2]at ry;rw[rx.int_inv,ry.int_inv];refine⟨rfl,?_⟩;rw[QM (f:=V.int) fun _ _ z=>V.int.inj z];exact q _ _ H2 h (Same.refl _) (.bl _)
  ·rename_i i j e1 e2;rw[e1]at rx;rw[e2]at ry;rw[rx.str_inv,ry.str_inv];refine⟨rfl,?_⟩;rw[QM (f:=V.str) fun _ _ z=>V.str.inj z];exact q _ _ H2 h (Same.refl _) (.bl _)
  ·rename_i i j e1 e2;rw[e1]at rx;rw[e2]at ry;rw[rx.bl_inv,ry.bl_inv];refine⟨rfl,?_⟩;rw[QM (f:=V.bl) fun _ _ z=>V.bl.inj z];exact q _ _ H2 h (Same.refl _) (.bl _)
  ·exact h.elim
abbrev tTru(K:Za)(ta:TE):TT:=fun σ H Q=>ta σ H fun x H'=>∃k,TruV K x H' k/\Q k H'
def pTru(a:PTE):PTT:=fun γ R X=>a γ (fun x=>match x.d with
 | .bl b=>R b | .lst ds=>R (!ds.isEmpty) | .tup ds=>R (!ds.isEmpty) | .int i=>R (i != 0) | .non=>R false|_=>False) X
def JN{α β:Type}{l:List α}{m:List β}(h:l.length=m.length):l.isEmpty=m.isEmpty:=by
 cases l<;>cases m<;>simp at h ⊢
def Uu{te:TE}{a:PTE}(ha:SndE K mg E te a):SndT K mg E (tTru K te) (pTru a):=by
 intro H0 B H σ γ R X Q env p q qx;refine ha H0 B H σ γ _ X _ env p (fun x v H1 h1 S1 t1=>?_) qx;have rx:=t1.rp (env.grow S1).same;split at h1
 ·rename_i b e;rw[e]at rx;rw[rx.bl_inv];exact⟨b,rfl,q _ H1 h1 S1⟩
 ·rename_i ds e;rw[e]at rx;obtain⟨l,us,rfl,hl,r⟩:=rx.lst_inv;exact⟨!us.isEmpty,.inl ⟨us,SqL.of hl,rfl⟩,by rw[JN r.len];exact q _ H1 h1 S1⟩
 ·rename_i ds e;rw[e]at rx;obtain⟨l,us,rfl,hl,r⟩:=rx.tup_inv;exact⟨!us.isEmpty,.inr (.inl ⟨us,SqT.of hl,rfl⟩),by rw[JN r.len];exact q _ H1 h1 S1⟩
 ·rename_i i e;rw[e]at rx;rw[rx.int_inv];exact⟨_,rfl,q _ H1 h1 S1⟩
 ·rename_i e;rw[e]at rx;rw[rx.non_inv];exact⟨_,rfl,q _ H1 h1 S1⟩
 ·exact h1.elim
end
section
variable {X:Cx}{K:Za}
def T6(hu:X.A.units<cLine)(hK:X.K=K:=by rfl):OpR X (compareOp .Eq) (fun x y H Q=>rEq x y H Q\/rEqL K false x y H Q):=by subst hK;exact op_eq.or (KY hu)
def Nj(hu:X.A.units<cLine)(hK:X.K=K:=by rfl):OpR X (compareOp .NotEq) (fun x y H Q=>rNe x y H Q\/rEqL K true x y H Q):=by subst hK;exact op_ne.or (Jj hu)
def UD{e:Expr}{te:TE}(ha:PE X e te)(hK:X.K=K:=by rfl)(he:∀whole,isTrue e X.env whole=(do let v ←whole;standAt e.pos;holding [v] (truthy v)):=by intro _;rfl):PT X e (tTru K te):=by
 subst hK;exact PM ha he
def J2(hK:X.K=K:=by rfl):Qs X (.type "list") (fun xs H Q=>∃p ys,xs=[.ref p]/\(SqL K H p ys\/SqT K H p ys)/\∀l,H l=none->Q (.ref l) (upd H l (.lst ys))):=by subst hK;exact Uy
def NF(hc:X.calm=true){w:World}(hK:X.K=K:=by rfl)(hw:X.w=w:=by rfl):Qs X (.builtin "sorted") (fun xs H Q=>∃(p:Addr) (js:List Int),xs=[.ref p]/\js.length<64/\(SqL K H p (js.map V.int)\/H p=some (SetH w p js))/\
  ∀(l:Addr) (ns:List Int),H l=none->ns.Perm js->ns.Pairwise (·<=·)->Q (.ref l) (upd H l (.lst (ns.map V.int)))):=by subst hK;subst hw;exact Ue hc
def Ut{tg l:Expr}{tl:TE}(hl:PE X l tl)(hK:X.K=K:=by rfl):PI X tg l (Vi K tl):=by subst hK;exact V8 hl
end
section
variable {P:Program}{w:World}{K:Za}{mg:Str->Option Value}{base:Heap}{H H':Hp}
def Qp{CX:CXT}{k:Nat}{x:Str}{ps:List Str}{sp:Sp}{c:Pc}(C:Callee P w K mg base CX k x ps sp)(h:∀ds R X vs H (Q:VK) (E:XK),Rps K H ds vs->c ds R X->(∀s v H',R s->Same H H'->TV K (fun b=>Mut (H b)) H H H' s v->Q v H')->(∀e H',X e->Same H H'->E (.ref (ExcR.WR mg e)) none H')->sp vs H Q E) :
  Callee P w K mg base CX k x ps (spOf mg c K):=by
 obtain⟨f,fd,F,rest⟩:=C.ex;exact⟨f,fd,F.imp fun vs H Q E ⟨ds,R,X,r,hc,hQ,hX⟩=>h ds R X vs H Q E r hc hQ hX,rest⟩
def Rp.scr_inv {ns:List Int}{v:V} (h:Rp K H (.scr ns) v):∃a,v=.ref a/\SqL K H a (ns.map V.int):=by
 cases h with
 |scr h=>exact⟨_,rfl,h⟩
def Rp.ints_inv {ns:List Int}{v:V} (h:Rp K H (.lst (ns.map D.int)) v):∃a,v=.ref a/\H a=some (.lst (ns.map V.int)):=by
 obtain⟨a,vs,rfl,h1,r⟩:=h.lst_inv;rw[r.ints]at h1;exact⟨a,rfl,h1⟩
def Rp.pairs_inv {ps:List (Int×Int)}{v:V} (h:Rp K H (.lst (ps.map prD)) v):∃a,v=.ref a/\LAt WS H a ps:=by
 obtain⟨a,vs,rfl,h1,r⟩:=h.lst_inv;exact⟨a,rfl,vs,h1,r.lv⟩
def Vp{a:Addr}{ns:List Int}(n:H a=none)(h:H' a=some (.lst (ns.map V.int))):TV K (fun b=>Mut (H b)) H H H' (.own (ns.map D.int)) (.ref a):=⟨a,rfl,(fun _ e=>e▸n),_,h,Rps.of_ints ns⟩
def Kj{vs:List V}{ps:List (Int×Int)}{Z:Addr->Prop}(hz:∀b xs,H' b=some (.tup xs)->¬Z b)(h:LV WS H' vs ps):Rps K (off Z H') (ps.map prD) vs:=by
 refine Rps.of_lv ⟨h.1,fun i p hp=>?_⟩;obtain⟨v,h1,a,e,h2⟩:=h.2 i p hp;exact⟨v,h1,a,e,Qe h2 (hz a _ h2)⟩
def Ny{a:Addr}{ps:List (Int×Int)}(n:H a=none)(S1:Same H H')(h:LAt WS H' a ps):TV K (fun b=>Mut (H b)) H H H' (.own (ps.map prD)) (.ref a):=by
 obtain⟨vs,h1,h2⟩:=h;refine⟨a,rfl,(fun _ e=>e▸n),vs,h1,Kj (fun b xs hb z=>?_) h2⟩;rcases z with z|z
 ·have:=Qu S1 z
  rw[hb]at this;exact this
 ·rw[z,h1]at hb;cases hb
def Xr{α:Type}{f:α->D}{xs:List α}{i:Nat}(h:i<xs.length):(xs.map f).getD i .non=f xs[i]:=by
 rw[Zu,Zz,Zq h];rfl
def KS{α:Type}{φ:List (Option Nat)}{γ:Γ}{g:PTG}{c:PTT}{e:PTE}{s:S}{R:S->Prop}{xs:List α}{emb:α->D}(f:α->Option D)(hz:xs.length<=100000)(turn:∀x∈xs,g (s.sub (emb x)) (atP φ γ) fun γ2=>c γ2 (fun b=>if b=true then e γ2 (fun s=>∃d,s.shd=some d/\f x=some d) (fun _=>False)else f x=none) fun _=>False)(done:R (.own (xs.filterMap f))) :
  CompW φ γ g c e (xs.map emb).length (fun i=>s.sub ((xs.map emb).getD i .non)) R:=by
 rw[Zs];refine⟨⟨hz,fun i=>(xs[i]?).bind f,fun i hi=>?_,by rw[Xw];exact done⟩⟩;have e1:(xs[i]?).bind f=f xs[i]:=by rw[Zq hi];rfl
 have t:=turn xs[i] (ZV hi);rw[←e1]at t;rw[←Xr (f:=emb) hi]at t;exact t
def Ks{α:Type}{js:List Nat}{γ:Γ}{g:PTG}{body:PTS}{s:S}{R:PEnds}{xs:List α}{emb:α->D}(inv:Nat->Γ->Prop)(h0:inv 0 (clr js γ))(turn:∀(i:Nat) (hi:i<xs.length) γ',inv i γ'->g (s.sub (emb xs[i])) γ' fun γ2=>body {R with nx:=fun γ3=>inv (i+1) (clr js γ3),ct:=fun γ3=>inv (i+1) (clr js γ3),bk:=R.nx} γ2)(done:∀γ',inv xs.length γ'->R.nx γ') :
  ForW js γ g body R (xs.map emb).length (fun i=>s.sub ((xs.map emb).getD i .non)):=by
 refine⟨⟨inv,h0,fun i γ' hi h=>?_,fun γ' h=>?_⟩⟩
 ·rw[Zs]at hi;have t:=turn i hi γ' h;rw[←Xr (f:=emb) hi]at t;exact t
 ·rw[Zs]at h;exact done γ' h
def VU{α:Type}(c:α->Bool)(emb:α->D):∀ws:List α,ws.filterMap (fun q=>if c q=true then some (emb q)else none)=(ws.filter c).map emb
 |[]=>rfl
 |q::r=>by
  by_cases h:c q=true
  ·rw[List.filterMap_cons_some (b:=emb q) (by rw[Z0 h]),List.filter_cons_of_pos h,Ye,VU c emb r]
  ·rw[List.filterMap_cons_none (by rw[Z2 h]),List.filter_cons_of_neg h,VU c emb r]
def V3(K:Za):Sp:=fun vs H Q _=>∃(a:Addr) (ns:List Int),vs=[.ref a]/\SqL K H a (ns.map V.int)/\∀H',Q (.bl true) H'
def JJ:Pc:=fun ds R _=>∃ns:List Int,ds=[.scr ns]/\R (.sh (.bl true))
def Ja{vs:List V}{Q:VK}{Ec:XK}(h:V3 K vs H Q Ec):spOf mg JJ K vs H Q Ec:=by
 obtain⟨a,ns,rfl,hS,q⟩:=h;refine⟨[.scr ns],fun s=>s=.sh (.bl true),fun _=>False,.cons (.scr hS) .nil,⟨ns,rfl,rfl⟩,fun s v H' e S1 tv=>?_,fun _ _ z=>z.elim⟩;subst e;cases tv
 exact q H'
end
section
variable {K:Za}{mg:Str->Option Value}{E:L2.St->XK}{H0 H H1 H':Hp}{B Z Z':Addr->Prop}{σ:L2.St}{γ:Γ}
def Ke{α:Type}(d:α)(ds:List α):atI (d::ds) 0=some d:=Vs (by decide) rfl
def em(l:Int)(p:List Int):D:=.lst ((l::p).map D.int)
end
end Pu
namespace M
open PySem PySem.Spec PyProof.Rows L2 Own Pu
def oc(c:Int->Int->Int):List Int->Int
 |[]=>0
 |a::r=>(r.map (c a)).sum+oc c r
end M
namespace Pu
open PySem PySem.Spec PyProof.Rows L2 Own
section
variable {K:Za}{mg:Str->Option Value}{E:L2.St->XK}{H0 H H1 H':Hp}{B Z Z':Addr->Prop}{σ:L2.St}{γ:Γ}
abbrev PTW:=Γ->(Γ->D->Prop)->(Γ->Str->Prop)->Prop
variable {te:TE}{w:PTW}
end
def len1{α:Type}{us:List α}(h:us.length=1):∃a,us=[a]:=List.length_eq_one_iff.mp h
def len2{α:Type}{us:List α}(h:us.length=2):∃a b,us=[a,b]:=by
 cases us with
 |nil=>cases h
 |cons a r=>obtain⟨b,rfl⟩:=len1 (us:=r) (by simpa using h);exact⟨a,b,rfl⟩
def len3{α:Type}{us:List α}(h:us.length=3):∃a b c,us=[a,b,c]:=by
 cases us with
 |nil=>cases h
 |cons a r=>obtain⟨b,c,rfl⟩:=len2 (us:=r) (by simpa using h);exact⟨a,b,c,rfl⟩
def len4{α:Type}{us:List α}(h:us.length=4):∃a b c d,us=[a,b,c,d]:=by
 cases us with
 |nil=>cases h
 |cons a r=>obtain⟨b,c,d,rfl⟩:=len3 (us:=r) (by simpa using h);exact⟨a,b,c,d,rfl⟩
def len5{α:Type}{us:List α}(h:us.length=5):∃a b c d e,us=[a,b,c,d,e]:=by
 cases us with
 |nil=>cases h
 |cons a r=>obtain⟨b,c,d,e,rfl⟩:=len4 (us:=r) (by simpa using h);exact⟨a,b,c,d,e,rfl⟩
section
variable {P:Program}{w:World}{K:Za}{mg:Str->Option Value}{base:Heap}{W:Addr->Prop}
def XF{X:Cx}:QG (ExcR.CXe P w) X E0:=fun _ _ _ _ _ _ _ h=>by
 obtain⟨a,T,C,H',_,_,z⟩:=h;exact z.elim
end
abbrev PTF:=Γ->Str->(Str->Prop)->XR->Prop
open M
abbrev plD(f:List (Int×Int)):D:=.lst (f.map prD)
def U5(e:Option Str)(X:Str->Prop)(R:Prop):Prop:=match e with|some c=>X c|none=>R
section
variable {K:Za}{mg:Str->Option Value}{E:L2.St->XK}
def Jv(i:Nat)(a:PTE):PTS:=fun R γ=>match γ[i]? with
 |some (some (.own (.lst ds)))=>a γ (fun s=>match s.shd with
  |some (.lst es)=>ds.length+es.length<=10000000/\R.nx (γ.set i (some (.own (ds++es))))
  |_=>False) (R.ex γ)
 |_=>False
def NI(i:Nat){te:TE}{a:PTE}(ha:SndE K mg E te a):SndS K mg E (VO (tBM K "list" JQ (tVar i) (WM te tNil))) (Jv i a):=by
 intro H0 B H σ γ R D hB env h e;unfold Jv at h;split at h
 ·rename_i ds hi;obtain⟨v,hv,b,rfl,hb0,us,hb,rb⟩:=env.slot i _ hi;refine⟨_,hv,.inl ⟨rfl,us,SqL.of hb⟩,ha H0 B H σ γ _ _ _ env h (fun s u H1 h1 S1 t1=>?_) fun c H' hc S'=>e.ex σ γ c H' hc (env.grow S') (Fr.grow S')⟩;have env1:=env.grow S1;split at h1
  ·rename_i es e2;have rd:=t1.shd env1.same env.zm S1 e2;obtain⟨a',vs,rfl,ha',rvs⟩:=Rp.lst_inv rd;refine⟨b,a',us,vs,rfl,rfl,S1 _ _ hb,off_sub _ _ ha',by rw[rb.len,rvs.len];exact Z8 h1.1 (by decide),?_⟩;obtain⟨e2,f2⟩:=env1.mutate (es:=.lst (ds++es)) (us:=.lst (us++vs)) hi hv trivial fun F H' SF hF=>⟨_,hF,Rps.mono SF (Rps.append (Rps.mono (WA S1 fun _ _ _ z=>z) rb) rvs)⟩;exact e.nx _ _ _ h1.2 e2 ((Fr.grow S1).trans f2)
  ·exact h1.elim
 ·exact h.elim
end
end Pu
namespace Own
open PySem PySem.Spec PyProof.Rows L2
section
variable {prog:Program}{w:World}{A:Around}{s:Shared}{E:Value->Shared->Prop}
def gotH(hp:Heap)(vs:List Value):Heap:=
 (hp.push (seqObj "list" #[] 0)).update hp.objs.size
  (Obj.mapSeq (·++vs.toArray))
def Nd{hp:Heap}{vs:List Value}{b:Addr}{o:Obj}(g:hp.get? b=some o):(gotH hp vs).get? b=some o:=by
 unfold gotH;rw[Heap.get?_update_ne _ _ _ _ (Z7 (Zv g))];exact Zr _ g
end
end Own
namespace Pu
open PySem PySem.Spec PyProof.Rows L2 Own M
def QF(ps:List (Int×Int))(os:List Int):Option Str:=if os.isPerm (WJ ps)=true then none else some "BadOrder"
def X0{ps:List (Int×Int)}{os:List Int}(h:os.Perm (WJ ps)):QF ps os=none:=by
 unfold QF;rw[Z0 (List.isPerm_iff.mpr h)]
def Pr{ps:List (Int×Int)}{os ns:List Int}(h1:ns.Perm os)(h2:ns.Pairwise (·<=·)):(ns=WJ ps)↔os.isPerm (WJ ps)=true:=by
 rw[List.isPerm_iff];exact⟨fun z=>z▸h1.symm,fun z=>Pm z h1 h2⟩
abbrev d3(k:Str)(a b:Int):D:=.tup [.str k,.int a,.int b]
end Pu
namespace M
open PySem PySem.Spec PyProof.Rows L2 Own Pu
def X4{ps:List (Int×Int)}{o:List Int}(hF:Field ps)(h:o.Perm (WJ ps)):∀p∈ps,p.1∈o:=fun p hp=>h.mem_iff.mpr ((Xa hF).mpr (Wn.mpr ⟨p,hp,rfl⟩))
end M
namespace Pu
open PySem PySem.Spec PyProof.Rows L2 Own
structure DI (K:Za) (x:Str) (st:Stmt):Prop where
 ex:∃f fd,PySem.W.nsIn K mainGlobals x=some (some (.ref f))/\Fun K x x st f fd
section
variable {K:Za}{h:Heap}{mg:Str->Option Value}
def di{x:Str}{st:Stmt}{f:Addr}{oc:Value}{od an:Option Addr}{osl:Array (Option Value)}{kV doc pm cdv ct:Value}(a:PySem.W.nsIn K mainGlobals x=some (some (.ref f)))(l:K.lookup f=some ⟨oc,od,.func (PySem.W.fnOf x x (Qm st) (WT st) (W8 st) .none kV doc pm an cdv ct),osl⟩)(c:PySem.W.codeIn K cdv x=true)(k:PySem.W.keepIn K (.ref f)=true):DI K x st:=⟨f,_,a,Jo l c k⟩
def DI.d {x:Str}{st:Stmt}{ps:List Str} (D:DI K x st) (X:K.In h) (G0:h.Ns mainGlobals mg)
  (b:∀(kV doc pm:Value) (an:Option Addr) (cdv ct:Value) (us:List Value),us.length=ps.length->bindArgs (PySem.W.fnOf x x (Qm st) (WT st) (W8 st) .none kV doc pm an cdv ct) ⟨us,[]⟩=pure (ps.zip us)):Def K mg x st ps:=
 let ⟨_,_,a,F⟩:=D.ex
 ⟨_,_,F,Wk X G0 a,F.binds b⟩
end
def fs{N P:List Str}{sc:Scope}(h1:sc.kind=.function:=by rfl)(h2:sc.isCoroutine=false:=by rfl)(h3:sc.isGenerator=false:=by rfl)(h4:N.Nodup:=by decide +kernel)(h5:N.take P.length=P:=by rfl)(h6:∀x∈P,sc.names.lookup x=some .local\/sc.names.lookup x=some .cell:=by decide +kernel)(h7:∀y∈sc.names,y.2≠.free:=by decide +kernel):FnScope N P sc:=⟨h1,h2,h3,h4,h5,h6,h7⟩
def pz{X:Cx}{pos:Pos}{x:Str}{e:Expr}{te:TE}{pos':Pos}(i:Nat)(hN:X.N.Nodup)(he:PE X e te)(hi:X.N[i]?=some x:=by rfl)(hx:Loc X.env.scope x:=by first|exact Or.inl rfl|exact Or.inr rfl)(hs:swapsWith e (some (.Name x pos')) pos.line X.env=pure false:=by rfl)(hf:X.fn x=true\/X.env.scope.names.lookup x=some .local:=by first|exact .inl rfl|exact .inr rfl|assumption) :
  PS X (.Assign [.Name x pos'] e pos) (tAsg te (QO i)):=KG hN hi hx he hs hf
section
variable {X:Cx}{k j:Nat}{x:Str}{ps:List Str}{sp:Sp}{e a b c:Expr}{es:List Expr}{t:TA}{te tf tg:TE}{p pos:Pos}
def fz(C:Callee X.prog X.w X.K X.mg X.base CX0 k x ps sp)(hr:Room j X.A)(ha:PA X (e::es) t)(hk:k<=j:=by decide)(hg:Gl X x:=by rfl)(hdb:(x==("__debug__" : Str))=false:=by decide)(he:starEach (e::es) X.env=(false,eval e X.env)::starEach es X.env:=by rfl)(hpl:(backTo pos (starEach es X.env)).any (·.1)=false:=by rfl) :
  PE X (.Call (.Name x p) (e::es) [] pos) (QK sp [] E0 t):=Qd C (hr.mono hk) Qh ha hg hdb he hpl
def jx(K:Za)(ha:PE X a te)(hb:PE X b tf)(hK:X.K=K:=by rfl)(hs:Jk b:=by intro _ _;rfl):PE X (.Subscript a b pos) (tOp (fun x y H Q=>rIxL K x y H Q\/rIxT K x y H Q) te tf):=WG (Xc hK) ha hb hs
def gz(i:Nat)(hN:X.N.Nodup)(hi:X.N[i]?=some x:=by rfl)(hx:Loc X.env.scope x:=by first|exact Or.inl rfl|exact Or.inr rfl)(hf:X.fn x=true\/X.env.scope.names.lookup x=some .local:=by first|exact .inl rfl|exact .inr rfl|assumption):PG X (.Name x pos) (QO i):=Ql hN hi hx hf
def cq(K:Za)(hr:Room j X.A)(ha:PE X a te)(hb:PE X b tf)(hK:X.K=K:=by rfl):PT X (.Compare a [.Eq] [b] pos) (Vj (tOp (fun x y H Q=>rEq x y H Q\/rEqL K false x y H Q) te tf)):=Qc (T6 hr.units0 hK) ha hb (Qk _)
def cn(K:Za)(hr:Room j X.A)(ha:PE X a te)(hb:PE X b tf)(hK:X.K=K:=by rfl):PT X (.Compare a [.NotEq] [b] pos) (Vj (tOp (fun x y H Q=>rNe x y H Q\/rEqL K true x y H Q) te tf)):=Qc (Nj hr.units0 hK) ha hb (Qk _)
def az(ha:PE X a te)(h1:starEach [a] X.env=(false,eval a X.env)::starEach [] X.env:=by rfl):PA X [a] (WM te tNil):=W4 ha W6 h1
def bz(ha:PE X a te)(hb:PE X b tf)(h1:starEach [a,b] X.env=(false,eval a X.env)::starEach [b] X.env:=by rfl)(h2:starEach [b] X.env=(false,eval b X.env)::starEach [] X.env:=by rfl):PA X [a,b] (WM te (WM tf tNil)):=W4 ha (W4 hb W6 h2) h1
def dz(ha:PE X a te)(hb:PE X b tf)(hc:PE X c tg)(h1:starEach [a,b,c] X.env=(false,eval a X.env)::starEach [b,c] X.env:=by rfl)(h2:starEach [b,c] X.env=(false,eval b X.env)::starEach [c] X.env:=by rfl)(h3:starEach [c] X.env=(false,eval c X.env)::starEach [] X.env:=by rfl):PA X [a,b,c] (WM te (WM tf (WM tg tNil))):=W4 ha (W4 hb (W4 hc W6 h3) h2) h1
end
section
variable {K:Za}{mg:Str->Option Value}{E:L2.St->XK}{ta tb tc:TE}{a b c:PTE}
def sz(ha:SndE K mg E ta a):SndA K mg E (WM ta tNil) (Q9 a pNil):=VW ha Xn
def tz(ha:SndE K mg E ta a)(hb:SndE K mg E tb b):SndA K mg E (WM ta (WM tb tNil)) (Q9 a (Q9 b pNil)):=VW ha (sz hb)
def uz(ha:SndE K mg E ta a)(hb:SndE K mg E tb b)(hc:SndE K mg E tc c):SndA K mg E (WM ta (WM tb (WM tc tNil))) (Q9 a (Q9 b (Q9 c pNil))):=VW ha (tz hb hc)
end
section
variable {K:Za}{h:Heap}{mg:Str->Option Value}{C C':Addr}{x m q:Str}{st:Stmt}{ps:List Str}
abbrev Bd(x q:Str)(st:Stmt)(ps:List Str):Prop:=∀(kV doc pm:Value) (an:Option Addr) (cdv ct:Value) (us:List Value),us.length=ps.length->bindArgs (PySem.W.fnOf x q (Qm st) (WT st) (W8 st) .none kV doc pm an cdv ct) ⟨us,[]⟩=pure (ps.zip us)
def DI.e (D:DI K x st) (X:K.In h) (G0:h.Ns mainGlobals mg) (b:Bd x x st ps:=by
  intro _ _ _ _ _ _ us hl
  first
   |(obtain⟨_,rfl⟩:=Pu.len1 hl;rfl)
   |(obtain⟨_,_,rfl⟩:=Pu.len2 hl;rfl)
   |(obtain⟨_,_,_,rfl⟩:=Pu.len3 hl;rfl)
   |(obtain⟨_,_,_,_,rfl⟩:=Pu.len4 hl;rfl)
   |(obtain⟨_,_,_,_,_,rfl⟩:=Pu.len5 hl;rfl)):Def K mg x st ps:=D.d X G0 b
end
section
variable {P:Program}{w:World}{K:Za}{mg:Str->Option Value}{base:Heap}{N ps:List Str}{sp:Sp}{p:PTS}{x q:Str}{st:Stmt}{k:Nat}{W:Addr->Prop}
structure Uz (K:Za) (mg:Str->Option Value) (N ps:List Str) (sp:Sp) (p:PTS):Prop where
 len:∀vs H Q E,sp vs H Q E->vs.length=ps.length
 run:∀vs H Q E t,sp vs H Q E->SndS K mg (fun _=>E) t p->t {nx:=fun _ H'=>Q .non H',rt:=Q} (start N vs) H
def Uz.a {c:Pc} (hp:∀ds R X,c ds R X->ds.length=ps.length/\p {nx:=fun _=>R (.sh .non),rt:=R,ex:=fun _ e=>X e} (Q0 N ds)) (hn:ps.length<=N.length:=by decide):Uz K mg N ps (spOf mg c K) p:=
 ⟨fun _ _ _ _ h=>NG h fun ds R X z=>(hp ds R X z).1,fun _ _ _ _ _ h s=>Xx h s hn hp⟩
def _root_.Own.Def.ox (D:Def K mg x st ps) (S:FnScope N ps (W8 st))
  (tr:∀(f:Addr) (cdv:Value) (A:Around) (outer:List Env) (s:Shared) (H:Hp) (E:XK),Room k (A.deeper (envOfC x (W8 st) s.heap.objs.size f cdv))->
   ∃t,PSs (cxOf (ExcR.CXe P w) P w K mg base N x (W8 st) f cdv A outer s H E) (WT st) t/\SndS K mg (fun _=>E) t p) (u:Uz K mg N ps sp p):Callee P w K mg base (ExcR.CXe P w) (k+1) x ps sp:=
 ExcR.Def.okX D S u.len fun f cdv A outer s H vs Q E hr h=>(tr f cdv A outer s H E hr).elim fun t z=>⟨t,z.1,u.run _ _ _ _ _ h z.2⟩
end
section
variable {K:Za}{h:Heap}{mg:Str->Option Value}{x:Str}{C:Addr}
structure EI (K:Za) (x:Str) (C:Addr):Prop where
 a:PySem.W.nsIn K mainGlobals x=some (some (.ref C))
 g:ExcR.ErrGet K C
def ei{d:ClassData}(a:PySem.W.nsIn K mainGlobals x=some (some (.ref C)))(q:PySem.W.excIn K C [.type "ValueError",.type "Exception",.type "BaseException",.type "object"] "ValueError.__new__"=true)(ga:PySem.W.findIn K (.ref C) "__getattribute__"=some (some (.builtin "BaseException.__getattribute__")))(gt:PySem.W.findIn K (.ref C) "__getattr__"=some none)(cl:PySem.W.findIn K (.ref C) "__class__"=some (some (.builtin "object.__class__")))(i:PySem.W.clsIn K C=some d):EI K x C:=⟨a,⟨⟨q⟩,ga,gt,cl,by rw[i];rfl⟩⟩
def EI.c (y:EI K x C) (X:K.In h) (G0:h.Ns mainGlobals mg):ExcR.WR mg x=C:=ExcR.Xy (Wk X G0 y.a)
def EI.m (y:EI K x C) (X:K.In h) (G0:h.Ns mainGlobals mg):mg x=some (.ref (ExcR.WR mg x)):=by rw[y.c X G0];exact Wk X G0 y.a
def EI.k (y:EI K x C) (X:K.In h) (G0:h.Ns mainGlobals mg):ExcR.ErrGet K (ExcR.WR mg x):=by rw[y.c X G0];exact y.g
end
end Pu
namespace Stb
open PySem PyProof.Rows
def Pz(zs:Array Nat)(i:Nat):Nat:=(zs[i]?).getD 0
def Ji{zs ys:Array Nat}{i j:Nat}(h:zs[i]?=ys[j]?):Pz zs i=Pz ys j:=by unfold Pz;rw[h]
def P4{zs:Array Nat}{src d:Nat}(hs:src<zs.size)(hd:d<=src)(k:Nat):Pz (bubble zs src d) k=if k=src-d then Pz zs src else if src-d<k/\k<=src then Pz zs (k-1)else Pz zs k:=by
 have e:=getElem?_bubble hs d hd k
 repeat' split
 all_goals (rename_i h1;first|(rename_i h2;simp only[h1,h2,if_true,Y1]at e)|simp only[h1,if_true,Y1]at e)
 all_goals exact Ji (by first|exact e|simpa [*]using e)
def VA{zs:Array Nat}{i j:Nat}(hj:j<=zs.size)(k:Nat):Pz (mirror zs i j ((j-i) / 2)) k=if i<=k/\k<j then Pz zs (i+j-1-k)else Pz zs k:=by
 have e:=getElem?_mirror_all (i:=i) hj k;by_cases h1:i<=k/\k<j
 ·rw[Z0 h1]at e ⊢;exact Ji e
 ·rw[Z2 h1]at e ⊢;exact Ji e
structure At (a₀:Array Keyed) (st:SortSt) (zs:Array Nat) (n:Nat):Prop where
 base:SBase a₀ st
 perm:zs.Perm (Array.range a₀.size)
 look:∀i:Nat,(arrOf st)[i]?=(zs[i]?).bind fun k=>a₀[k]?
 low:∀i,i<n->Pz zs i<n
 idle:∀i,n<=i->i<a₀.size->Pz zs i=i
section
variable {a₀:Array Keyed}{st:SortSt}{zs:Array Nat}{n:Nat}
def At.size (h:At a₀ st zs n):zs.size=a₀.size:=by rw[h.perm.size_eq,Array.size_range]
def At.grow {m:Nat} (h:At a₀ st zs n) (hm:n<=m) (hs:m<=a₀.size):At a₀ st zs m:=
 ⟨h.base,h.perm,h.look,fun i hi=>by
  by_cases q:i<n
  ·exact Z5 (h.low i q) hm
  ·rw[h.idle i (by omega) (by omega)];exact hi,fun i h1 h2=>h.idle i (by omega) h2⟩
def At.bub {src d m:Nat} (h:At a₀ st zs n) (hs:src<a₀.size) (hd:d<=src) (lo:∀i,i<m->Pz (bubble zs src d) i<m) (re:∀i,m<=i->i<a₀.size->Pz (bubble zs src d) i=i) :
  At a₀ (setArr st (bubble (arrOf st) src d)) (bubble zs src d) m:=
 ⟨h.base.setArr (bubble_perm _ _ _),(bubble_perm _ _ _).trans h.perm,fun i=>by
  show(bubble (arrOf st) src d)[i]?=_;rw[getElem?_bubble (by rw[h.base.size];exact hs) d hd,getElem?_bubble (by rw[h.size];exact hs) d hd,h.look,h.look,h.look]
  repeat' split
  all_goals rfl,lo,re⟩
def At.mir {i j m:Nat} (h:At a₀ st zs n) (hj:j<=a₀.size) (lo:∀k,k<m->Pz (mirror zs i j ((j-i) / 2)) k<m) (re:∀k,m<=k->k<a₀.size->Pz (mirror zs i j ((j-i) / 2)) k=k) :
  At a₀ (setArr st (mirror (arrOf st) i j ((j-i) / 2))) (mirror zs i j ((j-i) / 2)) m:=
 ⟨h.base.setArr (mirror_perm _ _ _ _),(mirror_perm _ _ _ _).trans h.perm,fun k=>by
  show(mirror (arrOf st) i j ((j-i) / 2))[k]?=_;rw[getElem?_mirror_all (by rw[h.base.size];exact hj),getElem?_mirror_all (by rw[h.size];exact hj),h.look,h.look];split<;>rfl,lo,re⟩
end
def Lx(xs:Array Keyed)(zs:Array Nat)(i j:Nat):Prop:=K xs i<K xs j\/(K xs i=K xs j/\Pz zs i<Pz zs j)
def Asc(xs:Array Keyed)(zs:Array Nat)(n:Nat):Prop:=∀i j,i<j->j<n->Lx xs zs i j
def Dsc(xs:Array Keyed)(zs:Array Nat)(n:Nat):Prop:=∀i j,i<j->j<n->Lx xs zs j i
def Asc.sorted {xs:Array Keyed}{zs:Array Nat}{n:Nat} (h:Asc xs zs n):SortedTo xs n:=fun i j hij hj=>by
 by_cases q:i=j
 ·subst q;exact Int.le_refl _
 ·rcases h i j (by omega) hj with z|z
  ·omega
  ·omega
def Asc.more {a₀:Array Keyed}{st:SortSt}{zs:Array Nat}{n m:Nat} (h:Asc (arrOf st) zs n) (A:At a₀ st zs n) (hs:SortedTo (arrOf st) m) (hm:m<=a₀.size):Asc (arrOf st) zs m:=fun i j hij hj=>by
 by_cases q:j<n
 ·exact h i j hij q
 ·have e:=hs i j (by omega) hj;have e2:=A.idle j (by omega) (by omega)
  have e3:Pz zs i<j:=by
   by_cases q2:i<n
   ·exact Z5 (A.low i q2) (by omega)
   ·rw[A.idle i (by omega) (by omega)];exact hij
  by_cases z:K (arrOf st) i<K (arrOf st) j
  ·exact .inl z
  ·exact .inr ⟨by omega,by omega⟩
section
variable {prog:Program}{w:World}{A:Around}{E:Value->Shared->Prop}{s:Shared}{a₀:Array Keyed}
def ins{st:SortSt}{zs:Array Nat}{n ok:Nat}{Q:Bool->SortSt->Prop}(h0:IntKeys a₀)(hn:n<=a₀.size)(hok:ok<=n)(hA:At a₀ st zs ok)(hs:Asc (arrOf st) zs ok)(h:∀st' zs',At a₀ st' zs' n->Asc (arrOf st') zs' n->Q true st'):wpS (model prog w) A E s (binarySort' 0 n ok) Q st:=by
 rw[binarySort'_eq];simp only[Nat.zero_add]
 refine ZH (wpS_mono (wpS_forRange (I:=fun k c st'=>c=(none,())/\∃z,At a₀ st' z (min k n)/\Asc (arrOf st') z (min k n))
  (Q:=fun c st'=>c=(none,())/\∃z,At a₀ st' z n/\Asc (arrOf st') z n) ?step ?fin ⟨rfl,zs,hA.grow (by omega) (by omega),fun i j hij hj=>hs i j hij (by omega)⟩) ?post)
 case post=>
  rintro c st' ⟨rfl,z,a,b⟩;exact Yf (h st' z a b)
 case fin=>
  rintro c st' ⟨hc,z,a,b⟩;rw[show min (max (max ok 1) n) n=n by omega]at a b;exact⟨hc,z,a,b⟩
 case step=>
  rintro k c st' hak hkn ⟨rfl,z,a,b⟩;rw[show min k n=k by omega]at a b;have hk:k<a₀.size:=by omega
  refine ZH (wpS_mono (wpS_forRange (I:=fun x c st''=>st''=st'/\∃l r,c=(none,l,r)/\l<=r/\r<=k/\r-l<=k-x/\
    (∀i,i<l->K (arrOf st') i<=K (arrOf st') k)/\∀i,r<=i->i<k->K (arrOf st') k<K (arrOf st') i)
   (Q:=fun c st''=>st''=st'/\∃l r,c=(none,l,r)/\l<=k/\(∀i,i<l->K (arrOf st') i<=K (arrOf st') k)/\∀i,l<=i->i<k->K (arrOf st') k<K (arrOf st') i) ?half ?ends
   ⟨rfl,0,k,rfl,by omega,by omega,by omega,fun i hi=>by omega,fun i h1 h2=>by omega⟩) ?put)
  case ends=>
   rintro c st'' ⟨rfl,l,r,rfl,hlr,hrk,hm,hlo,hhi⟩
   have:l=r:=by omega
   subst this;exact⟨rfl,l,l,rfl,hrk,hlo,hhi⟩
  case half=>
   rintro x c st'' _ hxk ⟨rfl,l,r,rfl,hlr,hrk,hm,hlo,hhi⟩
   dsimp only
   by_cases hge:l>=r
   ·rw[Z0 hge]
    have:l=r:=by omega
    subst this;exact Yf ⟨rfl,l,l,rfl,hrk,hlo,hhi⟩
   ·rw[Z2 hge];refine ZH (wpS_ltK a.base h0 hk (by omega) ?_);by_cases hl:K (arrOf st'') k<K (arrOf st'') ((l+r) / 2)
    ·simp only[hl,decide_true,if_true];exact Yf ⟨rfl,l,(l+r) / 2,rfl,by omega,by omega,by omega,hlo,fun i h1 h2=>Int.lt_of_lt_of_le hl (b.sorted _ _ h1 h2)⟩
    ·simp only[hl,Wq,ZX,Y1];exact Yf ⟨rfl,(l+r) / 2+1,r,rfl,by omega,by omega,by omega,fun i h1=>Int.le_trans (b.sorted i ((l+r) / 2) (by omega) (by omega)) (Int.not_lt.mp hl),hhi⟩
  case put=>
   rintro c st'' ⟨rfl,l,r,rfl,hlk,hlo,hhi⟩;show wpS _ _ _ _ (do moveDown' k l;pure (ForInStep.yield (none,()))) _ _
   rw[moveDown'_eq];have hz:=a.size
   have pz:∀i,Pz (bubble z k (k-l)) i=if i=l then Pz z k else if l<i/\i<=k then Pz z (i-1)else Pz z i:=fun i=>by
    rw[P4 (by omega) (by omega),show k-(k-l)=l by omega]
   have kz:∀i,K (bubble (arrOf st'') k (k-l)) i=if i=l then K (arrOf st'') k else if l<i/\i<=k then K (arrOf st'') (i-1)else K (arrOf st'') i:=fun i=>by
    rw[K_bubble (by rw[a.base.size];exact hk) (by omega),show k-(k-l)=l by omega]
   have ek:=a.idle k (Zx _) hk;refine ZH (wpS_modify (Yf ⟨rfl,bubble z k (k-l),?_,?_⟩))
   ·rw[show min (k+1) n=k+1 by omega];refine a.bub hk (by omega) (fun i hi=>?_) fun i h1 h2=>?_
    ·rw[pz];split
     ·omega
     ·split
      ·have:=a.low (i-1) (by omega)
       omega
      ·have:=a.low i (by omega)
       omega
    ·rw[pz,Z2 (by omega),Z2 (by omega)];exact a.idle i (by omega) h2
   ·rw[show min (k+1) n=k+1 by omega];intro i j hij hj;show Lx (bubble (arrOf st'') k (k-l)) _ i j
    have g1:∀i,i<l->K (bubble (arrOf st'') k (k-l)) i=K (arrOf st'') i/\Pz (bubble z k (k-l)) i=Pz z i:=fun i hi=>by
     rw[kz,pz,Z2 (by omega),Z2 (by omega),Z2 (by omega),Z2 (by omega)];exact⟨rfl,rfl⟩
    have g2:K (bubble (arrOf st'') k (k-l)) l=K (arrOf st'') k/\Pz (bubble z k (k-l)) l=k:=by
     rw[kz,pz,Z0 rfl,Z0 rfl];exact⟨rfl,ek⟩
    have g3:∀i,l<i->i<=k->K (bubble (arrOf st'') k (k-l)) i=K (arrOf st'') (i-1)/\Pz (bubble z k (k-l)) i=Pz z (i-1):=fun i h1 h2=>by
     have q:¬i=l:=by omega
     rw[kz,pz,Z2 q,Z2 q,Z0 ⟨h1,h2⟩,Z0 ⟨h1,h2⟩];exact⟨rfl,rfl⟩
    unfold Lx;by_cases hi:i<l
    ·rw[(g1 i hi).1,(g1 i hi).2];by_cases hj0:j<l
     ·rw[(g1 j hj0).1,(g1 j hj0).2];exact b i j hij (by omega)
     ·by_cases hj1:j=l
      ·subst hj1;rw[g2.1,g2.2];have a1:=hlo i hi;have a2:=a.low i (by omega);omega
      ·rw[(g3 j (by omega) (by omega)).1,(g3 j (by omega) (by omega)).2];exact b i (j-1) (by omega) (by omega)
    ·rw[(g3 j (by omega) (by omega)).1,(g3 j (by omega) (by omega)).2];by_cases hi1:i=l
     ·subst hi1;rw[g2.1];exact .inl (hhi (j-1) (by omega) (by omega))
     ·rw[(g3 i (by omega) (by omega)).1,(g3 i (by omega) (by omega)).2];exact b (i-1) (j-1) (by omega) (by omega)
structure Fall (a₀:Array Keyed) (st:SortSt) (x q:Nat):Prop where
 le:q+1<=x
 ex:∃zs,At a₀ st zs (x-(q+1))/\Dsc (arrOf st) zs (x-(q+1))
 same:∀i,x-(q+1)<=i->i<x->K (arrOf st) i=K (arrOf st) (x-1)
 less:∀i,i<x-(q+1)->K (arrOf st) (x-1)<K (arrOf st) i
def Fall.turn {st:SortSt}{x q:Nat} (F:Fall a₀ st x q) (hx:x<=a₀.size) :
  (∃zs,At a₀ (setArr st (mirror (arrOf st) (x-(q+1)) x ((x-(x-(q+1))) / 2))) zs x/\Dsc (mirror (arrOf st) (x-(q+1)) x ((x-(x-(q+1))) / 2)) zs x)/\
   ∀i,K (mirror (arrOf st) (x-(q+1)) x ((x-(x-(q+1))) / 2)) i=K (arrOf st) i:=by
 obtain⟨zs,a,d⟩:=F.ex;have hle:=F.le;have hz:=a.size;have kz:∀i,K (mirror (arrOf st) (x-(q+1)) x ((x-(x-(q+1))) / 2)) i=K (arrOf st) i:=K_mirror_equal (by rw[a.base.size];exact hx) F.same;have pz:∀i,Pz (mirror zs (x-(q+1)) x ((x-(x-(q+1))) / 2)) i=_:=fun i=>VA (by omega) i;refine⟨⟨_,a.mir (m:=x) hx (fun i hi=>?_) fun i h1 h2=>?_,fun i j hij hj=>?_⟩,kz⟩
 ·rw[pz];split
  ·rw[a.idle _ (by omega) (by omega)];omega
  ·have:=a.low i (by omega)
   omega
 ·rw[pz,Z2 (by omega)];exact a.idle i (by omega) h2
 ·unfold Lx;rw[pz,pz,kz,kz];by_cases hj1:j<x-(q+1)
  ·rw[Z2 (by omega),Z2 (by omega)];exact d i j hij hj1
  ·by_cases hi1:i<x-(q+1)
   ·left;rw[F.same j (by omega) hj];exact F.less i hi1
   ·right;rw[Z0 (by omega),Z0 (by omega),a.idle _ (by omega) (by omega),a.idle _ (by omega) (by omega),F.same j (by omega) hj,F.same i (by omega) (by omega)];exact⟨rfl,by omega⟩
def Xs{st:SortSt}{x q:Nat}{β:Type}{t:StateT SortSt Sem β}{Q:β->SortSt->Prop}(h:wpS (model prog w) A E s t Q (setArr st (mirror (arrOf st) (x-(q+1)) x ((x-(x-(q+1))) / 2))))(hx:q+1<=x) :
  wpS (model prog w) A E s (if q>0 then do reverseSlice' (x-(q+1)) x;t else t) Q st:=by
 by_cases hq:q>0
 ·rw[Z0 hq];exact ZH (wpS_reverse h)
 ·rw[Z2 hq];rw[show(x-(x-(q+1))) / 2=0 by omega]at h;exact h
def tail{st:SortSt}{zs:Array Nat}{n nrem:Nat}{Q:Option Nat->SortSt->Prop}(h0:IntKeys a₀)(hn:nrem<=a₀.size)(h1:1<=n)(hnn:n<=nrem)(a:At a₀ st zs n)(d:Dsc (arrOf st) zs n)(h:∀m st' zs',1<=m->m<=nrem->At a₀ st' zs' m->Asc (arrOf st') zs' m->Q (some m) st'):wpS (model prog w) A E s (tail3 n nrem) Q st:=by
 unfold tail3;have hz:=a.size;have pz:∀i,Pz (mirror zs 0 n ((n-0) / 2)) i=_:=fun i=>VA (by omega) i;have kz:∀i,K (mirror (arrOf st) 0 n ((n-0) / 2)) i=_:=fun i=>K_mirror (by rw[a.base.size];omega) i;refine ZH (wpS_reverse ?_)
 have a':At a₀ (setArr st (mirror (arrOf st) 0 n ((n-0) / 2))) (mirror zs 0 n ((n-0) / 2)) n:=a.mir (by omega) (fun i hi=>by
  rw[pz,Z0 (by omega)];exact a.low _ (by omega)) fun i h1 h2=>by
  rw[pz,Z2 (by omega)];exact a.idle i h1 h2
 have d':Asc (mirror (arrOf st) 0 n ((n-0) / 2)) (mirror zs 0 n ((n-0) / 2)) n:=fun i j hij hj=>by
  unfold Lx;rw[pz,pz,kz,kz,Z0 (by omega),Z0 (by omega),Z0 (by omega),Z0 (by omega)];exact d _ _ (by omega) (by omega)
 exact ZH (wpS_ascLoop h0 hn h1 hnn a'.base d'.sorted fun m hm1 hm2 hsm _=>Yf (h m _ _ (by omega) hm2 (a'.grow hm1 (by omega)) (Asc.more d' a' hsm (by omega))))
def Pb{st:SortSt}{n nrem:Nat}{Q:DescSt->SortSt->Prop}(h0:IntKeys a₀)(hn:nrem<=a₀.size)(hnn:n<=nrem)(F:Fall a₀ st n 0)(h:∀m q st',n<=m->m<=nrem->Fall a₀ st' m q->Q (none,m,q) st'):wpS (model prog w) A E s (descLoop n nrem) Q st:=by
 unfold descLoop;refine wpS_forRange (I:=fun x c st'=>∃q,c=(none,x,q)/\Fall a₀ st' x q) ?step ?fin ⟨0,rfl,F⟩
 case fin=>
  rintro c st' ⟨q,rfl,F'⟩;rw[show max n nrem=nrem by omega]at F' ⊢;exact h nrem q st' hnn (Zx _) F'
 case step=>
  rintro x c st' hax hxn ⟨q,rfl,F'⟩
  dsimp only
  have hB:=F'.ex.elim fun z y=>y.1.base;have hle:=F'.le;refine ZH (wpS_ltK hB h0 (by omega) (by omega) ?_);by_cases hless:K (arrOf st') x<K (arrOf st') (x-1)
  ·simp only[hless,decide_true,if_true];obtain⟨⟨zs,a,d⟩,kz⟩:=F'.turn (by omega);refine Xs (Yf ⟨0,rfl,by omega,⟨zs,a,d⟩,fun i h1 h2=>by congr 1;omega,fun i hi=>?_⟩) hle;show K (mirror _ _ _ _) _<K (mirror _ _ _ _) _;rw[kz,kz,show x+1-1=x by omega];by_cases z:i<x-(q+1)
   ·exact Int.lt_trans hless (F'.less i z)
   ·rw[F'.same i (by omega) (by omega)];exact hless
  ·simp only[hless,Wq,ZX,Y1];refine ZH (wpS_ltK hB h0 (by omega) (by omega) ?_);by_cases hl:K (arrOf st') (x-1)<K (arrOf st') x
   ·simp only[hl,decide_true,if_true];exact Yf (h x q st' hax (by omega) F')
   ·simp only[hl,Wq,ZX,Y1];have e:K (arrOf st') x=K (arrOf st') (x-1):=by omega
    have ex:x+1-(q+1+1)=x-(q+1):=by omega
    refine Yf ⟨q+1,rfl,by omega,by rw[ex];exact F'.ex,fun i h1 h2=>?_,fun i hi=>?_⟩
    ·rw[show x+1-1=x by omega];by_cases hix:i=x
     ·subst hix;rfl
     ·rw[e];exact F'.same i (by omega) (by omega)
    ·rw[show x+1-1=x by omega,e];exact F'.less i (by omega)
def Jm{st:SortSt}{zs:Array Nat}{n nrem:Nat}{Q:Option Nat->SortSt->Prop}(h0:IntKeys a₀)(hn:nrem<=a₀.size)(hnn:n+1<=nrem)(a:At a₀ st zs n)(d:Dsc (arrOf st) zs n)(hl:∀i,i<n->K (arrOf st) n<K (arrOf st) i)(h:∀m st' zs',1<=m->m<=nrem->At a₀ st' zs' m->Asc (arrOf st') zs' m->Q (some m) st'):wpS (model prog w) A E s (descPart n nrem) Q st:=by
 unfold descPart;refine ZH (wpS_lift (Wd ⟨rfl,?_⟩));refine ZH (Pb h0 hn hnn ⟨by omega,⟨zs,a,d⟩,fun i h1 h2=>by congr 1;omega,hl⟩ fun m q st' hm1 hm2 F=>?_)
 dsimp only
 obtain⟨⟨z,a',d'⟩,_⟩:=F.turn (by omega);exact Xs (tail h0 hn (by omega) hm2 a' d' h) F.le
def run{st:SortSt}{zs:Array Nat}{nrem:Nat}{Q:Option Nat->SortSt->Prop}(h0:IntKeys a₀)(hn:nrem<=a₀.size)(h1:1<=nrem)(a:At a₀ st zs 0)(h:∀m st' zs',1<=m->m<=nrem->At a₀ st' zs' m->Asc (arrOf st') zs' m->Q (some m) st'):wpS (model prog w) A E s (countRun' 0 nrem) Q st:=by
 rw[countRun0_eq];have hz:=a.size
 refine ZH (wpS_ascLoop h0 hn (Zx 1) h1 a.base (fun i j hij hj=>by
  have:i=j:=by omega
  subst this;exact Int.le_refl _) fun n hn1 hn2 hsn hor=>?_)
 have up:At a₀ st zs n/\Asc (arrOf st) zs n:=⟨a.grow (by omega) (by omega),Asc.more (n:=0) (fun i j _ hj=>by omega) a hsn (by omega)⟩
 dsimp only
 by_cases hnn:n=nrem
 ·rw[Z0 (by simpa using hnn)];exact Yf (h n st zs hn1 hn2 up.1 up.2)
 ·rw[Z2 (by simpa using hnn)];have hlt:K (arrOf st) n<K (arrOf st) (n-1):=hor.resolve_left hnn;by_cases hgt:n>1
  ·rw[Z0 hgt];refine ZH (wpS_ltK a.base h0 (by omega) (by omega) ?_);by_cases hr:K (arrOf st) 0<K (arrOf st) (n-1)
   ·simp only[hr,decide_true,if_true];exact Yf (h n st zs hn1 hn2 up.1 up.2)
   ·simp only[hr,Wq,ZX,Y1]
    have hall:∀k,0<=k->k<n->K (arrOf st) k=K (arrOf st) (n-1):=fun k _ hk=>by
     have a1:=hsn 0 k (by omega) hk;have a2:=hsn k (n-1) (by omega) (by omega);omega
    have kz:∀i,K (mirror (arrOf st) 0 n ((n-0) / 2)) i=K (arrOf st) i:=K_mirror_equal (by rw[a.base.size];omega) hall;have pz:∀i,Pz (mirror zs 0 n ((n-0) / 2)) i=_:=fun i=>VA (by omega) i;refine ZH (wpS_reverse (Jm h0 hn (by omega) (a.mir (m:=n) (by omega) (fun i hi=>?_) fun i h1 h2=>?_) (fun i j hij hj=>?_) (fun i hi=>?_) h))
    ·rw[pz,Z0 (by omega),a.idle _ (by omega) (by omega)];omega
    ·rw[pz,Z2 (by omega)];exact a.idle i (by omega) h2
    ·show Lx (mirror _ _ _ _) _ _ _;unfold Lx;right;rw[pz,pz,kz,kz,Z0 (by omega),Z0 (by omega),a.idle _ (by omega) (by omega),a.idle _ (by omega) (by omega),hall i (by omega) (by omega),hall j (by omega) hj];exact⟨rfl,by omega⟩
    ·show K (mirror _ _ _ _) _<K (mirror _ _ _ _) _;rw[kz,kz,hall i (by omega) hi];exact hlt
  ·rw[Z2 hgt]
   have:n=1:=by omega
   subst this;refine Jm h0 hn (by omega) up.1 (fun i j hij hj=>by omega) (fun i hi=>?_) h
   have:i=0:=by omega
   subst this;exact hlt
structure Done (a₀:Array Keyed) (st:SortSt):Prop where
 perm:(arrOf st).Perm a₀
 failed:failedOf st=none
 ex:∃zs:Array Nat,zs.Perm (Array.range a₀.size)/\(∀i:Nat,(arrOf st)[i]?=(zs[i]?).bind fun k=>a₀[k]?)/\Asc (arrOf st) zs a₀.size
def At.done {st:SortSt}{zs:Array Nat} (a:At a₀ st zs a₀.size) (b:Asc (arrOf st) zs a₀.size):Done a₀ (setPending st ((pendingOf st).push (0,a₀.size,0)))/\pendingOf (setPending st ((pendingOf st).push (0,a₀.size,0)))=#[(0,a₀.size,0)]:=
 ⟨⟨a.base.perm,a.base.failed,zs,a.perm,a.look,b⟩,by show(pendingOf st).push _=_;rw[a.base.pend];rfl⟩
def runs{st:SortSt}{zs:Array Nat}{Q:Unit->SortSt->Prop}(h0:IntKeys a₀)(a:At a₀ st zs 0)(h2:2<=a₀.size)(h64:a₀.size<64)(h:∀st',Done a₀ st'->Q () st'):wpS (model prog w) A E s sortRuns' Q st:=by
 rw[sortRuns'_eq];refine ZH (wpS_get ?_)
 dsimp only
 have hmr:minRun' a₀.size a₀.size 0=a₀.size:=by
  obtain⟨f,hf⟩:∃f,a₀.size=f+1:=⟨a₀.size-1,by omega⟩
  have:minRun' (f+1) a₀.size 0=a₀.size:=by rw[minRun'_succ,Z0 h64];rfl
  rwa[←hf]at this
 simp only[a.base.size,hmr]
 refine ZH (wpS_mono (wpS_forRange
  (I:=fun x c st'=>(x=0/\c=(none,0)/\At a₀ st' zs 0)\/(1<=x/\c=(none,a₀.size)/\Done a₀ st'/\pendingOf st'=#[(0,a₀.size,0)]))
  (Q:=fun c st'=>c=(none,a₀.size)/\Done a₀ st'/\pendingOf st'=#[(0,a₀.size,0)]) ?step ?fin (.inl ⟨rfl,rfl,a⟩)) ?post)
 case fin=>
  rintro c st' (⟨hx,_,_⟩|⟨_,hc,hD⟩)
  ·omega
  ·exact⟨hc,hD⟩
 case step=>
  rintro x c st' _ hx (⟨rfl,rfl,a'⟩|⟨hx1,rfl,hD⟩)
  ·dsimp only
   rw[Z2 (by omega)];simp only[Nat.sub_zero,Nat.min_self,Nat.zero_add];refine ZH (run h0 (Zx _) (by omega) a' fun m st2 z2 hm1 hm2 a2 b2=>?_)
   dsimp only
   by_cases hlt:m<a₀.size
   ·rw[Z0 hlt];refine ZH (wpS_lift (Wd ⟨rfl,?_⟩));refine ZH (ins h0 (Zx _) hm2 a2 b2 fun st3 z3 a3 b3=>?_);simp only[Bool.not_true,ZX,Y1];refine ZH (wpS_get ?_);rw[show(pendingOf st3).back?=none by rw[a3.base.pend];rfl];exact ZH (wpS_modify (Yf (.inr ⟨by omega,rfl,a3.done b3⟩)))
   ·rw[Z2 hlt];have hm:m=a₀.size:=by omega
    subst hm;refine ZH (wpS_get ?_);rw[show(pendingOf st2).back?=none by rw[a2.base.pend];rfl];exact ZH (wpS_modify (Yf (.inr ⟨by omega,rfl,a2.done b2⟩)))
  ·dsimp only
   rw[Z0 (Zx _)];exact Yf ⟨rfl,hD⟩
 case post=>
  rintro c st' ⟨rfl,hD,hp⟩
  dsimp only
  refine ZH (wpS_mono (wpS_forRange (I:=fun _ c st''=>st''=st'/\c=(none,())) (Q:=fun c st''=>st''=st'/\c=(none,())) ?_ (fun _ _ hh=>hh) ⟨rfl,rfl⟩) ?_)
  ·rintro x c st'' _ _ ⟨rfl,rfl⟩;refine ZH (wpS_get ?_);rw[Z0 (by rw[hp];exact Zx 1)];exact Yf ⟨rfl,rfl⟩
  ·rintro c st'' ⟨rfl,rfl⟩;exact Yf (h _ hD)
end
def Lz(kz:List Int)(i j:Nat):Prop:=kz.getD i 0<kz.getD j 0\/(kz.getD i 0=kz.getD j 0/\i<j)
def Out{α:Type}(kz:List Int)(d:α)(xs ys:List α):Prop:=∃is:List Nat,is.Perm (List.range xs.length)/\is.Pairwise (Lz kz)/\ys=is.map fun i=>xs.getD i d
def Out.lt {α:Type}{d:α}{xs:List α}{is:List Nat} (h:is.Perm (List.range xs.length)) {i:Nat} (hi:i∈is):i<xs.length:=by simpa using h.mem_iff.mp hi
def Out.length {α:Type}{kz:List Int}{d:α}{xs ys:List α} (h:Out kz d xs ys):ys.length=xs.length:=by
 obtain⟨is,h1,_,rfl⟩:=h;rw[Zs,h1.length_eq,Y4]
def Out.perm {α:Type}{kz:List Int}{d:α}{xs ys:List α} (h:Out kz d xs ys) (hl:kz.length=xs.length):∃ps:List (Int×α),ps.Perm (kz.zip xs)/\ys=ps.map Prod.snd:=by
 obtain⟨is,h1,_,rfl⟩:=h;refine⟨is.map fun i=>(kz.getD i 0,xs.getD i d),?_,by rw[Wr];rfl⟩;refine(h1.map _).trans (List.Perm.of_eq ?_);refine Wo (by simp[hl]) fun i h2 h3=>?_;have hi:i<xs.length:=by simpa using h2
 simp[List.getD,Zq hi,Zq (show i<kz.length by omega)]
def P3{keys:Array Value}{vs:List Value}{kz:List Int}(hk:IntsAre keys.toList kz)(hlen:kz.length=vs.length){k:Nat}(h:k<vs.length) :
  ∃t,(keys.zip vs.toArray)[k]?=some (.int (kz.getD k 0) t,vs.getD k .none):=by
 have e:(keys.zip vs.toArray)[k]?=(keys.toList.zip vs)[k]?:=by rw[←ksk_zip,ZJ]
 have h1:k<keys.toList.length:=by rw[hk.length];omega
 have h2:numOf (keys.toList[k])=kz.getD k 0:=by
  have:=hk.nums
  rw[←this];simp[List.getD,Zq h1]
 obtain⟨n,t,e3⟩:=hk.all _ (ZV h1);rw[e3]at h2;refine⟨t,?_⟩;have h4:k<(keys.toList.zip vs).length:=by rw[List.length_zip];omega
 rw[e,Zq h4,List.getElem_zip,e3];have h5:n=kz.getD k 0:=h2;rw[h5];simp[List.getD,Zq h]
def UP{keys:Array Value}{vs:List Value}{kz:List Int}(hk:IntsAre keys.toList kz)(hlen:kz.length=vs.length){xs:Array Keyed}{zs:Array Nat}(hp:zs.Perm (Array.range vs.length))(look:∀i:Nat,xs[i]?=(zs[i]?).bind fun k=>(keys.zip vs.toArray)[k]?)(ha:Asc xs zs vs.length):Out kz Value.none vs (xs.map (·.2)).toList:=by
 have hpl:zs.toList.Perm (List.range vs.length):=by simpa using Array.perm_iff_toList_perm.mp hp
 have hz:zs.toList.length=vs.length:=by rw[hpl.length_eq,Y4]
 have at_:∀i (h:i<zs.toList.length),∃t,xs[i]?=some (.int (kz.getD (zs.toList[i]) 0) t,vs.getD (zs.toList[i]) .none):=fun i h=>by
  obtain⟨t,e⟩:=P3 hk hlen (Out.lt (d:=Value.none) hpl (ZV h));have hz2:i<zs.size:=by simpa using h
  refine⟨t,?_⟩;rw[look i,Wf zs i hz2,←e];rfl
 refine⟨zs.toList,hpl,?_,?_⟩
 ·rw[YE];intro i j hi hj hij;obtain⟨t1,e1⟩:=at_ i hi;obtain⟨t2,e2⟩:=at_ j hj
  have:=ha i j hij (by omega)
  have k1:K xs i=kz.getD (zs.toList[i]) 0:=by unfold K;rw[e1];rfl
  have k2:K xs j=kz.getD (zs.toList[j]) 0:=by unfold K;rw[e2];rfl
  have p1:Pz zs i=zs.toList[i]:=by unfold Pz;rw[Wf zs i (by simpa using hi)];rfl
  have p2:Pz zs j=zs.toList[j]:=by unfold Pz;rw[Wf zs j (by simpa using hj)];rfl
  unfold Lx at this;rw[k1,k2,p1,p2]at this;exact this
 ·refine Wl fun i=>?_;by_cases h:i<zs.toList.length
  ·obtain⟨t,e⟩:=at_ i h;rw[ZJ,Array.getElem?_map,e,Zz,Zq h];rfl
  ·have hz2:¬i<zs.size:=by simpa using h
   rw[ZJ,Array.getElem?_map,look i,getElem?_neg zs i hz2,Zz,Y5 (by omega)];rfl
def Out.rel {α β:Type}{kz:List Int}{d:α} (e:β) {xs ys:List α}{us:List β} (h:Out kz d xs ys) (hl:us.length=xs.length):∃is:List Nat,ys=is.map (fun i=>xs.getD i d)/\Out kz e us (is.map fun i=>us.getD i e)/\∀i∈is,i<xs.length:=by
 obtain⟨is,h1,h2,h3⟩:=h;exact⟨is,h3,⟨is,by rw[hl];exact h1,h2,rfl⟩,fun i hi=>Out.lt (d:=d) h1 hi⟩
end Stb
namespace Lam
open PySem PySem.Spec PyProof.Rows L2 Own
section
variable {X:Cx}{pins:List (Addr×Obj)}{σ:L2.St}{H:Hp}{A:Around}{E:Value->Shared->Prop}{s:Shared}{kS D:Addr}{vs:List Value}{kz:List Int}{keys:Array Value}{e e1:Nat}
def QC{b:Addr}{o:Obj}(I:Inv X pins σ H s)(f:FpOk X pins H b)(ho:s.heap.get? b=some o)(hd:∀v,o.data≠.cell v):Inv X (pins++[(b,o)]) σ H s:=
 I.pins_of fun p hp=>(Yq.mp hp).elim (fun z=>I.pin p (Z6 _ z)) fun z=>by
  rw[Z4.mp z];exact⟨ho,f.1,f.2.1,f.2.2.1,hd⟩
def QE{pins':List (Addr×Obj)}(I:Inv X pins σ H s)(h:∀p∈pins',p∈pins):Inv X pins' σ H s:=I.pins_of fun p hp=>I.pin p (Z6 _ (h p hp))
def QL{c:String}{xs:Array Value}{n:Nat}:∀v,(seqObj c xs n).data≠.cell v:=fun v z=>by cases z
def Jf{b:Addr}{o':Obj}{h':Heap}{t':Nat}(I:Inv X pins σ H s)(f:FpOk X pins H b)(sb:Heap.SameBut b s.heap h')(ho:h'.get? b=some o')(hd:∀v,o'.data≠.cell v):Inv X (pins++[(b,o')]) σ H {s with heap:=h',toks:=t'}:=
 QC (I.turned (t':=t') (fun c o hc g=>(sb.2 c hc).trans g) f.1 f.2.1 f.2.2.2.1 f.2.2.2.2.1 f.2.2.2.2.2) f ho hd
def PX{P:Program}{w:World}{H:Hp}{h:Heap}{a:Addr}{o:HO}(x:HOk P w H h)(hn:H a=none)(new:ObjOk P w (upd H a o) h a o):HOk P w (upd H a o) h:=fun b u e=>by
 by_cases hb:b=a
 ·subst hb;rw[WC]at e;cases e;exact new
 ·rw[W7 hb]at e;exact(x b u e).stay (fun c v _ q=>q) (fun c q=>by rw[W7 (WK q hn)];exact q) fun c xs q=>by rw[W7 (WK q hn)];exact q
def adopt{b:Addr}{xs:List V}{us:List Value}{n:Nat}(I:Inv X pins σ H s)(f:FpOk X pins H b)(hb:X.s₀.heap.objs.size<=b)(ho:s.heap.get? b=some (seqObj "list" us.toArray n))(r:Vals xs us)(hz:xs.length<=sizeLine) :
  Inv X pins σ (upd H b (.lst xs)) s:=by
 have ne:∀c o,X.s₀.heap.get? c=some o->c≠b:=fun c o g z=>by
  have:=Zv g
  rw[z]at this;exact absurd (Z5 this hb) (ZY _)
 have hn:=f.1;refine⟨I.ok,I.os,I.bare,⟨fun c o g n1 n2 n3=>I.base.keep c o g n1 n2 n3,fun c o g n1 n2 n3=>I.base.slot c o g n1 n2 n3,fun c o g n1 n2=>?_,I.base.there,fun c ys g=>?_,fun c o u g=>?_,fun c ps g=>?_⟩,I.loc,I.cell,?_,fun x c g=>?_,fun p hp=>?_,?_,I.len⟩
 ·rw[W7 (ne c o g)];exact I.base.free c o g n1 n2
 ·rw[W7 (WK (I.base.tups c ys g) hn)];exact I.base.tups c ys g
 ·rw[W7 (WK (I.base.frzs c o u g) hn)];exact I.base.frzs c o u g
 ·obtain⟨m,q⟩:=I.base.tbls c ps g;exact⟨m,by rw[W7 (WK q hn)];exact q⟩
 ·rw[W7 (Ne.symm f.2.1)];exact I.free
 ·rw[W7 (f.2.2.2.2.1 x c g)];exact I.freeC x c g
 ·obtain⟨a1,a2,a3,a4,a5⟩:=I.pin p hp;exact⟨a1,by rw[W7 (f.2.2.2.2.2 p hp)];exact a2,a3,a4,a5⟩
 ·exact PX I.hok hn ⟨hz,us,n,r,ho⟩
def Vf{b c:Addr}{o:Obj}(f:FpOk X pins H b)(h:c≠b):FpOk X (pins++[(c,o)]) H b:=
 ⟨f.1,f.2.1,f.2.2.1,f.2.2.2.1,f.2.2.2.2.1,fun p hp=>(Yq.mp hp).elim (fun z=>f.2.2.2.2.2 p (Y7 _ z)) fun z=>(Yq.mp z).elim (fun z=>f.2.2.2.2.2 p (Z6 _ z)) fun z=>by
  rw[Z4.mp z];exact h⟩
def KU{pins':List (Addr×Obj)}{b:Addr}(f:FpOk X pins H b)(h:∀p∈pins',p∈pins):FpOk X pins' H b:=
 ⟨f.1,f.2.1,f.2.2.1,f.2.2.2.1,f.2.2.2.2.1,fun p hp=>f.2.2.2.2.2 p ((Yq.mp hp).elim (fun z=>Y7 _ z) fun z=>Z6 _ (h p z))⟩
variable {P:PySem.Fin->Shared->Prop}
def Uo{st:SortSt}(I:Inv X (pins++[(kS,seqObj "list" keys e)]++[(D,seqObj "list" #[] e1)]) σ H s)(fk:FpOk X pins H kS)(fd:FpOk X pins H D)(hka:kS≠D)(hk:IntsAre keys.toList kz)(hlen:kz.length=vs.length)(h64:vs.length<64)(hp:(arrOf st).Perm (keys.zip vs.toArray))(hs:Stb.Out kz Value.none vs ((arrOf st).map (·.2)).toList)(hfl:failedOf st=none)(h:∀h' tk out c,Inv X (pins++[(D,seqObj "list" out c)]) σ H {s with heap:=h',toks:=tk}->Stb.Out kz Value.none vs out.toList->P (.done (.ret .none)) {s with heap:=h',toks:=tk}) :
  wpAny (model X.prog X.w) A (ksk_tail D false e1 (.ref kS) st) P E s:=by
 have nk:=(I.pin (kS,seqObj "list" keys e) (by simp)).1;have na:=(I.pin (D,seqObj "list" #[] e1) (by simp)).1
 have hsz:keys.size=vs.length:=by
  have h1:=hk.length;rw[ZF]at h1;omega
 have hsz2:(arrOf st).size=vs.length:=by rw[hp.size_eq,Array.size_zip,hsz,Zy,Nat.min_self]
 have hout:((arrOf st).map (·.2)).size=vs.length:=by simp only[Array.size_map];exact hsz2
 have s1:=ZG s.heap kS (Obj.mapSeq fun _=>(#[]:Array Value));have na1:(s.heap.update kS (Obj.mapSeq fun _=>(#[]:Array Value))).get? D=some (seqObj "list" #[] e1):=(s1.2 D hka.symm).trans na;have s2:=ZG (s.heap.update kS (Obj.mapSeq fun _=>(#[]:Array Value))) D (Obj.mapSeq fun _=>(arrOf st).map (·.2))
 obtain⟨c2,hc2⟩:∃c2,((s.heap.update kS (Obj.mapSeq fun _=>(#[]:Array Value))).update D (Obj.mapSeq fun _=>(arrOf st).map (·.2))).get? D=some (seqObj "list" ((arrOf st).map (·.2)) c2):=
  ⟨_,get?_update_seq na1 fun _=>(arrOf st).map (·.2)⟩
 have I0:Inv X pins σ H s:=QE I fun p hp=>by simp[hp]
 have I1:Inv X pins σ H {s with heap:=s.heap.update kS (Obj.mapSeq fun _=>(#[]:Array Value)),toks:=s.toks}:=I0.turned (fun c o hc g=>(s1.2 c hc).trans g) fk.1 fk.2.1 fk.2.2.2.1 fk.2.2.2.2.1 fk.2.2.2.2.2
 have I2:=Jf (t':=s.toks) I1 fd s2 hc2 QL;unfold ksk_tail
 try dsimp only
 refine Zp (listUpdate_at nk rfl ?_ (by rw[hsz,Yd];omega) (ZZ _));refine Zp (wpAny_letGo ?_);refine Zp (seqEpoch_at na1 rfl ?_);refine Zp (listUpdate_at na1 rfl ?_ (ZZ _) (Z8 (Yo hout) (by rw[Yd];omega)));rw[hfl];simp only[bne_self_eq_false,ZX,Y1];refine Zt (h _ _ _ c2 I2 ?_);exact hs
def PB(I:Inv X (pins++[(kS,seqObj "list" keys e)]++[(D,seqObj "list" #[] e1)]) σ H s)(fk:FpOk X pins H kS)(fd:FpOk X pins H D)(hka:kS≠D)(hk:IntsAre keys.toList kz)(hlen:kz.length=vs.length)(h64:vs.length<64)(h:∀h' tk out c,Inv X (pins++[(D,seqObj "list" out c)]) σ H {s with heap:=h',toks:=tk}->Stb.Out kz Value.none vs out.toList->P (.done (.ret .none)) {s with heap:=h',toks:=tk}) :
  wpAny (model X.prog X.w) A (ksk_end D false vs.toArray e1 (.ref kS) keys) P E s:=by
 have hsz:keys.size=vs.length:=by
  have h1:=hk.length;rw[ZF]at h1;omega
 have hzs:(keys.zip vs.toArray).size=vs.length:=by rw[Array.size_zip,hsz,Zy,Nat.min_self]
 unfold ksk_end;simp only[ZX,Y1];have rp:(Array.range (keys.zip vs.toArray).size).Perm (Array.range vs.length):=by rw[hzs]
 have rl:∀i:Nat,(keys.zip vs.toArray)[i]?=((Array.range (keys.zip vs.toArray).size)[i]?).bind fun k=>(keys.zip vs.toArray)[k]?:=fun i=>by
  by_cases h:i<(keys.zip vs.toArray).size
  ·have e:(Array.range (keys.zip vs.toArray).size)[i]?=some i:=by
    rw[Wf (Array.range _) i (by simpa using h),Array.getElem_range]
   rw[e];rfl
  ·rw[getElem?_neg (Array.range _) i (by simpa using h),getElem?_neg _ i h];rfl
 have rz:∀i,i<(keys.zip vs.toArray).size->Stb.Pz (Array.range (keys.zip vs.toArray).size) i=i:=fun i h=>by
  unfold Stb.Pz;rw[Wf (Array.range _) i (by simpa using h)];simp
 by_cases h2:vs.toArray.size<2
 ·rw[Z0 h2,Z0 h2];refine Zp (Zt ?_);rw[StateT.run_pure];refine Zp (Zt ?_)
  try dsimp only
  refine Uo (st:=SortSt.mk' general' (keys.zip vs.toArray) #[] 7 none) I fk fd hka hk hlen h64 (Array.Perm.refl _) (Stb.UP hk hlen rp rl fun i j hij hj=>?_) rfl h;rw[Zy]at h2;omega
 ·rw[Z2 h2,Z2 h2];rw[Zy]at h2;rw[ksk_kind hk (by rw[hsz];omega)];refine Zp (Zt ?_)
  refine Zp (ZM (Stb.runs (a₀:=keys.zip vs.toArray) (st:=SortSt.mk' oneType' (keys.zip vs.toArray) #[] 7 none) (zs:=Array.range (keys.zip vs.toArray).size)
   (Q:=fun _ st'=>Stb.Done (keys.zip vs.toArray) st')
   (ksk_intKeys hk) ⟨⟨Array.Perm.refl _,rfl,rfl,rfl⟩,Array.Perm.refl _,rl,fun i hi=>by omega,fun i _ h=>rz i h⟩ (by rw[hzs];omega) (by rw[hzs];exact h64) fun st' a=>a) ?_ fun _ _ e=>e)
  rintro⟨⟨⟩,st'⟩ s' ⟨rfl,hD⟩
  try dsimp only
  obtain⟨zs,z1,z2,z3⟩:=hD.ex;rw[hzs]at z1 z3;exact Uo I fk fd hka hk hlen h64 hD.perm (Stb.UP hk hlen z1 z2 z3) hD.failed h
def T4{f:Value}(I:Inv X (pins++[(kS,seqObj "list" #[] 0)]++[(D,seqObj "list" #[] e1)]) σ H s)(fk:FpOk X pins H kS)(fd:FpOk X pins H D)(hka:kS≠D)(hlen:kz.length=vs.length)(h64:vs.length<64)
  (turn:∀(i:Nat) (v:Value) (k:Int) (pins':List (Addr×Obj)) (s':Shared),vs[i]?=some v->kz[i]?=some k->(∀p∈pins,p∈pins')->Inv X pins' σ H s'->
   wpAny (model X.prog X.w) A (call f [v]) (fun r s''=>(∃t,r=.int k t)/\Inv X pins' σ H s'') (fun _ _=>False) s')
  (h:∀s' out c,Inv X (pins++[(D,seqObj "list" out c)]) σ H s'->Stb.Out kz Value.none vs out.toList->P (.done (.ret .none)) s') :
  wpAny (model X.prog X.w) A (ksk_rest D f false vs.toArray e1 (.ref kS)) P E s:=by
 unfold ksk_rest;refine Zp (Wd ?_)
 first
  |rw[List.forIn_toArray]
  |(rw[←Array.forIn_toList];simp only[List.toList_toArray])
  |rw[←Array.forIn_toList]
 refine Zp (ksk_fold (fun i s'=>∃kA e,Inv X (pins++[(kS,seqObj "list" kA e)]++[(D,seqObj "list" #[] e1)]) σ H s'/\IntsAre kA.toList (kz.take i)) vs 0 s
  ⟨#[],0,I,by simpa using IntsAre.nil⟩ ?step ?done)
 case step=>
  rintro j x s' hx ⟨kA,e,I',hk⟩;simp only[Nat.zero_add]at hk ⊢;have hj:j<vs.length:=(ZD.mp hx).1;obtain⟨k,hkj⟩:∃k,kz[j]?=some k:=⟨_,Zq (by omega)⟩
  have hz:kA.size<=vs.length:=by
   have h1:=hk.length;rw[ZF,Y9]at h1;omega
  refine Zp (wpAny_attempt (ZM (turn j x k _ s' hx hkj (fun p hp=>by simp[hp]) I') (fun v s'' he=>?_) fun _ _ hF=>hF.elim));obtain⟨⟨t2,rfl⟩,I2⟩:=he
  try dsimp only
  have nk:=(I2.pin (kS,seqObj "list" kA e) (by simp)).1;have na:=(I2.pin (D,seqObj "list" #[] e1) (by simp)).1;have s1:=ZG s''.heap kS (Obj.mapSeq (·.push (.int k t2)));obtain⟨c2,hc2⟩:∃c2,(s''.heap.update kS (Obj.mapSeq (·.push (.int k t2)))).get? kS=some (seqObj "list" (kA.push (.int k t2)) c2):=⟨_,get?_update_seq nk (·.push (.int k t2))⟩;have ek:kz.take (j+1)=kz.take j++[k]:=by rw[List.take_add_one,hkj];simp
  have ea:(kA.push (Value.int k t2)).toList=kA.toList++[Value.int k t2]:=by simp
  refine Zp (listUpdate_at nk rfl ?_ (by rw[Yd];omega) (Z8 (Yo (Array.size_push ..)) (by rw[Yd];omega)));have I3:Inv X pins σ H s'':=QE I2 fun p hp=>by simp[hp]
  have I4:=Jf (t':=s''.toks) I3 fk s1 hc2 QL;refine Zt ⟨rfl,kA.push (.int k t2),c2,QC I4 (Vf fd hka) ((s1.2 D hka.symm).trans na) QL,by rw[ea,ek];exact ksk_snoc hk⟩
 case done=>
  rintro s' ⟨kA,e,I',hk⟩
  have hk':IntsAre kA.toList kz:=by
   have e3:kz.take (0+vs.length)=kz:=List.take_of_length_le (by omega);rw[e3]at hk;exact hk
  have nk:=(I'.pin (kS,seqObj "list" kA e) (by simp)).1
  try dsimp only
  refine Zp (listItems_at nk rfl ?_);exact PB I' fk fd hka hk' hlen h64 fun h3 tk3 out c I3 k3=>h _ out c I3 k3
def TB{f:Value}{n:Nat}(I:Inv X pins σ H s)(fd:FpOk X pins H D)(ho:s.heap.get? D=some (seqObj "list" vs.toArray n))(hlen:kz.length=vs.length)(h64:vs.length<64)
  (turn:∀(i:Nat) (v:Value) (k:Int) (pins':List (Addr×Obj)) (s':Shared),vs[i]?=some v->kz[i]?=some k->(∀p∈pins,p∈pins')->Inv X pins' σ H s'->
   wpAny (model X.prog X.w) A (call f [v]) (fun r s''=>(∃t,r=.int k t)/\Inv X pins' σ H s'') (fun _ _=>False) s')
  (h:∀s' out c,Inv X (pins++[(D,seqObj "list" out c)]) σ H s'->Stb.Out kz Value.none vs out.toList->P (.done (.ret .none)) s') :
  wpAny (model X.prog X.w) A (ksk_tree D f false) P E s:=by
 have s1:=ZG s.heap D (Obj.mapSeq fun _=>(#[]:Array Value));obtain⟨e1,ho1⟩:∃e1,(s.heap.update D (Obj.mapSeq fun _=>(#[]:Array Value))).get? D=some (seqObj "list" #[] e1):=⟨_,get?_update_seq ho fun _=>#[]⟩;have I1:=Jf (t':=s.toks) I fd s1 ho1 QL;unfold ksk_tree;refine Zp (listItems_at ho rfl ?_);refine Zp (listUpdate_at ho rfl ?_ (by rw[Zy,Yd];omega) (ZZ _));refine Zp (seqEpoch_at ho1 rfl ?_);refine Zp (wpAny_newTuple ?_ (by show vs.length<=_;rw[Yd];omega));refine Zp (wpAny_newList ?_ (ZZ _));refine Yv ?_;have I2:=I1.kept (h':=(s.heap.update D (Obj.mapSeq fun _=>(#[]:Array Value))).push (seqObj "tuple" vs.toArray 0)) (t':=s.toks) fun b o g=>Zr _ g;generalize eh:(s.heap.update D (Obj.mapSeq fun _=>(#[]:Array Value))).push (seqObj "tuple" vs.toArray 0)=h2 at *;have fk:=I2.fpOk (b:=h2.objs.size) (H':=H) (Zx _) (I2.hok.fresh (Zx _));have hDk:h2.objs.size≠D:=fun z=>fk.2.2.2.2.2 (D,seqObj "list" #[] e1) (by simp) z.symm;have fk0:FpOk X pins H h2.objs.size:=KU fk fun p hp=>by simp[hp]
 have I3:=I2.kept (h':=h2.push (seqObj "list" #[] 0)) (t':=s.toks) fun b o g=>Zr _ g;have I4:=QC (QE I3 (pins':=pins) fun p hp=>by simp[hp]) fk0 (o:=seqObj "list" #[] 0) (Z3 _ rfl) QL;have I5:=QC I4 (Vf fd hDk) (I3.pin (D,seqObj "list" #[] e1) (by simp)).1 QL;exact T4 (s:={s with heap:=h2.push (seqObj "list" #[] 0)}) I5 fk0 fd hDk hlen h64 turn h
end
def Uq{xs:List V}{vs:List Value}(r:Vals xs vs):∀{is:List Nat},(∀i∈is,i<vs.length)->Vals (is.map fun i=>xs.getD i V.non) (is.map fun i=>vs.getD i Value.none)
 |[],_=>.nil
 |i::is,h=>by
  have h1:=h i (by simp);have h2:i<xs.length:=by rw[r.length];exact h1
  obtain⟨u,hu,ru⟩:=r.get (Zq h2);refine .cons ?_ (Uq r fun j hj=>h j (by simp[hj]));show L2.RelV (xs.getD i V.non) (vs.getD i Value.none);rw[Zu,Zu,hu,Zq h2];exact ru
def P0{X:Cx}{pins:List (Addr×Obj)}{σ:L2.St}{H:Hp}{s:Shared}{Q:Value->Shared->Prop}{E:Value->Shared->Prop}{f l:Addr}{xs:List V}{vs:List Value}{kz:List Int}(I:Inv X pins σ H s)(hl:PlainL s.heap l vs.toArray)(r:Vals xs vs)(hlen:kz.length=xs.length)(h64:xs.length<64)
  (turn:∀(i:Nat) (v:Value) (k:Int) (pins':List (Addr×Obj)) (s':Shared),vs[i]?=some v->kz[i]?=some k->(∀p∈pins,p∈pins')->Inv X pins' σ H s'->
   wpAny (model X.prog X.w) X.A.in1.in1 (call (.ref f) [v]) (fun r s''=>(∃t,r=.int k t)/\Inv X pins' σ H s'') (fun _ _=>False) s')
  (h:∀(D:Addr) (ys:List V) s',H D=none->Inv X pins σ (upd H D (.lst ys)) s'->Stb.Out kz V.non xs ys->Q (.ref D) s') :
  wpAny (model X.prog X.w) X.A (call (.builtin "sorted") [.ref l] [(Str.ofString "key",.ref f)]) Q E s:=by
 have h64':vs.length<64:=by rw[←r.length];exact h64
 refine call_function_entry_kw kind_sorted plain_sorted entry_sorted (ksk_s1 _ _) ?_;unfold Builtin.«sorted»;refine Zp (m:=checkCount "sorted" 1 1 _) (Zt ?_);refine Zp (collect_list (vs:=vs) (let ⟨o,n,e1,e2,_,e3⟩:=hl;⟨o,e1,e2,n,e3⟩) ?_ (by rw[Yd];omega));refine Zp (wpAny_newList ?_ (by rw[Yd];omega));show wpAny _ _ _ _ _ {s with heap:=(gotH s.heap vs).push (seqObj "list" vs.toArray 0)}
 have k1:∀b o,s.heap.get? b=some o->(gotH s.heap vs).get? b=some o:=fun b o g=>Nd g;have I1:Inv X pins σ H {s with heap:=gotH s.heap vs,toks:=s.toks}:=I.kept k1
 have fd:FpOk X pins H (gotH s.heap vs).objs.size:=I1.fpOk (Zx _) (I1.hok.fresh (Zx _));have hb:X.s₀.heap.objs.size<=(gotH s.heap vs).objs.size:=I1.sz;have I2:Inv X pins σ H {s with heap:=(gotH s.heap vs).push (seqObj "list" vs.toArray 0),toks:=s.toks}:=I1.kept fun b o g=>Zr _ g
 have ho:((gotH s.heap vs).push (seqObj "list" vs.toArray 0)).get? (gotH s.heap vs).objs.size=some (seqObj "list" vs.toArray 0):=Z3 _ rfl;show wpAny _ _ (do let _ ←holding _ (call (.builtin "list.sort") [.ref (gotH s.heap vs).objs.size] _);_) _ _ _
 generalize eD:(gotH s.heap vs).objs.size=D at *;refine Zp (Yv (wpAny_call_entry_kw slot_list_sort ⟨_,ho,rfl⟩ entry_list_sort ?body (ksk_l1 _ _)));show wpAny _ _ (Builtin.«list.sort» ⟨[.ref D],[(Str.ofString "key",.ref f)]⟩) _ _ _;rw[ksk_t1];refine TB I2 fd ho (by rw[hlen,r.length]) h64' turn fun s' out c I' k'=>⟨_,rfl,?_⟩;obtain⟨is,ho',hs,hlt⟩:=k'.rel V.non r.length;have hD:=(I'.pin (D,seqObj "list" out c) (by simp)).1;have I3:Inv X pins σ H s':=QE I' fun p hp=>by simp[hp]
 have hlq:(is.map fun i=>xs.getD i V.non).length<=sizeLine:=by
  rw[hs.length,Yd];omega
 have I4:=adopt (us:=out.toList) (n:=c) I3 fd hb (by rw[Array.toArray_toList];exact hD) (by rw[ho'];exact Uq r hlt) hlq;have z:=h D _ s' fd.1 I4 hs;rw[←eD]at z;exact Zt ⟨_,rfl,z⟩
open PySem.W
structure Tabs (X:Cx) (c P:Addr):Prop where
 code:X.env.code=.ref c
 hd:CodeHd X.base c P
 gne:mainGlobals≠P
 blt:X.base.BuiltinsAt X.mg P
 ex:P∈X.ex
abbrev tab0(P:Addr):Addr×Obj:=(P,tabObj #[])
def lamX(X:Cx)(N':List Str)(qual:Str)(sc:Scope)(cl:List (Str×Addr))(f:Addr)(cv:Value)(A:Around)(s₃:Shared)(H₃:Hp):Cx:=
 {X with A:=A.deeper (envX qual sc s₃.heap.objs.size f cv cl),N:=N',s₀:=s₃,H₀:=H₃,env:=envX qual sc s₃.heap.objs.size f cv cl,outer:=X.stack,stack:=envX qual sc s₃.heap.objs.size f cv cl::X.stack,ex:=[],fn:=fun _=>false,pn:=[],xe:=fun _ _=>False}
structure LamOk (X:Cx) (N':List Str) (φ:List (Option Nat)) (sc:Scope) (x:Str):Prop where
 kind:sc.kind=.function
 co:sc.isCoroutine=false
 gen:sc.isGenerator=false
 nocell:∀y∈sc.names,y.2≠.cell
 par:sc.names.lookup x=some .local
 first:N'[0]?=some x
 frees:∀y∈sc.names,y.2=.free->X.env.scope.names.lookup y.1=some .cell
 len:φ.length=N'.length
 pick:∀(i:Nat) (y:Str) (j:Nat),N'[i]?=some y->φ[i]?=some (some j)->X.N[j]?=some y/\sc.names.lookup y=some .free
def JY(sc osc:Scope)(N N':List Str)(φ:List (Option Nat))(x:Str):Bool:=
 sc.kind == .function && !sc.isCoroutine && !sc.isGenerator&&sc.names.lookup x==some .local&&N'[0]? == some x&&(sc.names.all fun y=>y.2 != .cell&&(y.2 != .free || osc.names.lookup y.1==some .cell)) &&
  φ.length==N'.length&&((N'.zip φ).all fun p=>match p.2 with|none=>true|some j=>N[j]? == some p.1&&sc.names.lookup p.1==some .free)
def LamOk.of {X:Cx}{N':List Str}{φ:List (Option Nat)}{sc:Scope}{x:Str} (h:JY sc X.env.scope X.N N' φ x=true):LamOk X N' φ sc x:=by
 unfold JY at h;simp only[ZO,beq_iff_eq,Ym,Bool.or_eq_true,bne_iff_ne,ne_eq,Bool.not_eq_true']at h;obtain⟨⟨⟨⟨⟨⟨⟨h1,h2⟩,h3⟩,h4⟩,h5⟩,h6⟩,h7⟩,h8⟩:=h;refine⟨h1,h2,h3,fun y hy=>(h6 y hy).1,h4,h5,fun y hy hf=>?_,h7,fun i y j hi hj=>?_⟩
 ·rcases(h6 y hy).2 with z|z
  ·exact absurd hf z
  ·exact z
 ·have hz:(N'.zip φ)[i]?=some (y,some j):=by rw[List.getElem?_zip_eq_some];exact⟨hi,hj⟩
  have:=h8 _ (Yy hz)
  simpa using this
section
variable {X:Cx}{pins:List (Addr×Obj)}{σ:L2.St}{H:Hp}{A:Around}{E:Value->Shared->Prop}{s:Shared}{N':List Str}{φ:List (Option Nat)}{sc:Scope}{x qual:Str}{cl:List (Str×Addr)}{f c':Addr}{body:Expr}{te:TE}{params:Arguments}{pm ctv:Value}{oc:Obj}
def QA(φ:List (Option Nat))(σ:L2.St)(v:V):L2.St:=(atStart φ σ).set 0 (some v)
def TC{v:Value}{x1:V}{k:Int}(I:Inv X pins σ H s)(S:LamOk X N' φ sc x)(hroom:A.depth<recursionLimit)(hh:A.handled=none)(hfr:A.frames=some X.stack)(p1:∀y c,cl.lookup y=some c->X.env.cells.lookup y=some c)(p3:∀y∈sc.names,y.2=.free->∃c,cl.lookup y.1=some c)(hf:(f,kla_obj "<lambda>" qual params body sc cl pm c' ctv)∈pins)(hc:(c',oc)∈pins)(hoc:∃vs t,oc.data=.fields vs/\vs[1]?=some (.str qual t))(hbind:bindArgs (kla_fn "<lambda>" qual params body sc cl pm (.ref c') ctv) ⟨[v],[]⟩=pure [(x,v)])(hin:∀s₃ H₃,PE (lamX X N' qual sc cl f (.ref c') A s₃ H₃) body te)(r:RelV x1 v)(h:te (QA φ σ x1) H fun y H'=>H'=H/\y=.int k) :
  wpAny (model X.prog X.w) A (call (.ref f) [v]) (fun r s''=>(∃t,r=.int k t)/\Inv X pins σ H s'') (fun _ _=>False) s:=by
 have nf:=I.pin _ (Z6 _ hf);have nc:=I.pin _ (Z6 _ hc);obtain⟨vs,t,hd,hq⟩:=hoc;refine wpAny_call (kla_callFunE hroom nf.1 rfl S.co S.gen rfl ⟨c',oc,vs,t,rfl,nc.1,hd,hq⟩ ?_);rw[hbind];refine Zt (wpAny_newFunctionEnv S.nocell (by intro y hy;rw[Z4.mp hy];exact S.par) (fun h₁ hns hsb=>?_) S.kind);have old:∀b o,s.heap.get? b=some o->h₁.get? b=some o:=fun b o g=>hsb.extBut b o (Z7 (Zv g)) (Zr _ g);refine⟨I.nolimit.keeps old,?_⟩;show codeAny _ _ (.expr body (envX qual sc s.heap.objs.size f (.ref c') cl)) _ _;have noA:∀b:Addr,b∉(lamX X N' qual sc cl f (.ref c') A s H).ex:=fun b z=>absurd (show b∈([]:List Addr)from z) (by simp)
 have OK:(lamX X N' qual sc cl f (.ref c') A s H).Ok:=by
  refine⟨I.ok.mod,S.kind,rfl,rfl,Zx _,fun y z c h1 h2=>I.ok.inj y z c (p1 y c h1) (p1 z c h2),fun y hy=>?_,(fun y c hx=>by cases hx),fun _=>hh,Around.frames_deeper hfr,.inr ⟨rfl,rfl⟩,fun b z=>absurd z (noA b),I.bs,Z8 I.ok.bsz I.sz,fun b _ _=>noA b,fun b z=>absurd z (noA b),I.stack,I.stkFree⟩;have hy:sc.names.lookup y=some .cell\/sc.names.lookup y=some .free:=hy;rcases hy with hy|hy
  ·exact absurd rfl (S.nocell _ (ZI hy))
  ·exact p3 _ (ZI hy) rfl
 have hf0:H s.heap.objs.size=none:=I.hok.fresh (Zx _);have hlen0:(QA φ σ x1).length=N'.length:=by unfold QA;rw[Yt];unfold atStart;rw[Zs];exact S.len
 have J:Inv (lamX X N' qual sc cl f (.ref c') A s H) [] (QA φ σ x1) H {s with heap:=h₁,toks:=s.toks+([(x,v)]:List (Str×Value)).length}:=by
  refine⟨OK,rfl,I.bare,Un.kept old,⟨_,hns,fun i y w h1 h2 h3=>?_⟩,fun y c hx=>?_,hf0,fun y c hx=>I.freeC y c (p1 y c hx),fun p hp=>?_,I.hok.kept old,hlen0⟩
  ·have h1:N'[i]?=some y:=h1;unfold QA at h2;by_cases hi:i=0
   ·subst hi;rw[S.first]at h1
    cases h1
    have e0:w=x1:=by
     rw[List.getElem?_set]at h2;rw[Z0 rfl]at h2;split at h2
     ·cases h2;rfl
     ·cases h2
    subst e0;exact⟨v,r,.inl ⟨S.par,by simp⟩⟩
   ·rw[Y8 (fun z=>hi z.symm)]at h2;obtain⟨j,hj,hv⟩:=VI h2;obtain⟨hN,hfr⟩:=S.pick i y j h1 hj;obtain⟨m,_,hl⟩:=I.loc;have hm:(y,NameKind.free)∈sc.names:=ZI hfr;have hcell:=S.frees _ hm rfl;obtain⟨u,ru,lk⟩:=hl j y w hN hv (.inr (.inl hcell));refine⟨u,ru,.inr ⟨.inr hfr,?_⟩⟩;obtain⟨c,hc⟩:=p3 _ hm rfl;rcases lk with⟨hk,_⟩|⟨_,c1,hc1,hcl1⟩
    ·have hk':X.env.scope.names.lookup y=some .local:=hk;rw[hcell]at hk';cases hk'
    ·have e:=p1 _ _ hc;rw[hc1]at e;cases e
     obtain⟨o,ho,hd⟩:=hcl1;exact⟨_,hc,o,old _ o ho,hd⟩
  ·obtain⟨w,o,ho,hd⟩:=I.cell y c (p1 y c hx);exact⟨w,o,old _ o ho,hd⟩
  ·exact absurd hp (by simp[lamX])
 refine kla_codeExpr (ZM (hin s H [] _ _ _ _ J h) (fun u s' hq=>?_) fun _ _ z=>z.elim);obtain⟨y,H',J',ry,eH,ey⟩:=hq;subst eH;subst ey;have z:=I.after (Q:=fun y H1=>H1=H'/\y=.int k) ⟨.int k,_,J'.os,J'.bare,J'.base,J'.hok,ry,rfl,rfl⟩;obtain⟨y,H2,I2,ry2,eH2,ey2⟩:=z;subst eH2;subst ey2;exact⟨ry2,I2⟩
def To{P c:Addr}{pos:Pos}{Q:Value->Shared->Prop}(I:Inv X (tab0 P::pins) σ H s)(T:Tabs X c P)(ne:∀p∈X.pn++pins,p.1≠P)(S:LamOk X N' φ sc x)(hdef:defaultsOf params X.env=([],[]))
  (h:∀(f c':Addr) (oc:Obj) (cl:List (Str×Addr)) (pm ctv:Value) (ps:Array Value) (s':Shared),Inv X (pins++[(P,tabObj ps)]++[(c',oc)]++[(f,kla_obj "<lambda>" (X.env.qual++"<lambda>") params body sc cl pm c' ctv)]) σ H s'->
   (∃vs t,oc.data=.fields vs/\vs[1]?=some (.str (X.env.qual++"<lambda>") t))->(∀y c,cl.lookup y=some c->X.env.cells.lookup y=some c)->(∀y∈sc.names,y.2=.free->∃c,cl.lookup y.1=some c)->Q (.ref f) s') :
  wpAny (model X.prog X.w) A (eval (.Lambda params body sc pos) X.env) Q E s:=by
 obtain⟨cl,hcl,p1,p3⟩:=JA (env:=X.env) (sc:=sc) fun x hx hf=>I.ok.has x.1 (.inl (S.frees x hx hf));obtain⟨bm,ob,b1,b2,b3,b4,b5,b6⟩:=T.blt;have nP:=I.pin (tab0 P) (by simp);have I0:Inv X pins σ H s:=QE I fun p hp=>by simp[hp]
 refine kla_eval hdef (kla_makeFunction (mg:=X.mg) (P:=P) (c:=c) (ps:=#[]) hcl I.ok.glob (I.mod.glob.keeps I.bk) T.code (T.hd.keeps I.bk) nP.1 True.intro rfl T.gne ⟨bm,ob,b1,b2,b3,b4,I.bk _ _ b5,b6⟩ fun c' ctv h' tk hx hge hlt hrec htb=>?_);have I1:Inv X pins σ H {s with heap:=h',toks:=tk}:=I0.turned (it:=P) (fun b o hb g=>hx b o hb g) nP.2.1 nP.2.2.1 (.inl T.ex) (I.ok.exf P T.ex).2 ne
 have fP:FpOk X pins H P:=⟨nP.2.1,nP.2.2.1,nP.2.2.2.1,.inl T.ex,(I.ok.exf P T.ex).2,ne⟩;have I1:=QC I1 fP (o:=tabObj (#[]++#[rawInt pos.line,rawInt pos.col,.ref c'])) htb fun w z=>by cases z
 have hPc:P≠c':=Z7 (Z5 (Zv nP.1) hge);have fc:FpOk X (pins++[(P,tabObj (#[]++#[rawInt pos.line,rawInt pos.col,.ref c']))]) H c':=Vf (I0.fpOk hge (I0.hok.fresh hge)) hPc;have ff:FpOk X (pins++[(P,tabObj (#[]++#[rawInt pos.line,rawInt pos.col,.ref c']))]) H h'.objs.size:=I1.fpOk (Zx _) (I1.hok.fresh (Zx _));obtain⟨c₂,oc,vs,t,e2,hoc,hd,hv⟩:=hrec;cases e2
 have I2:=I1.kept (h':=h'.push (kla_obj "<lambda>" (X.env.qual++"<lambda>") params body sc cl ((X.mg "__name__").getD .none) c' ctv)) (t':=tk) fun b o g=>Zr _ g;have I3:=QC I2 fc (o:=oc) (Zr _ hoc) fun w z=>by rw[hd]at z;cases z
 have I4:=QC I3 (Vf ff (Z7 hlt)) (o:=kla_obj "<lambda>" (X.env.qual++"<lambda>") params body sc cl ((X.mg "__name__").getD .none) c' ctv) (Z3 _ rfl) fun w z=>by cases z
 exact h _ c' oc cl _ ctv _ _ I4 ⟨vs,t,hd,hv⟩ p1 p3
end
def PEl(X:Cx)(P:Addr)(e:Expr)(t:TE):Prop:=
 ∀(pins:List (Addr×Obj)) (s:Shared) (σ:L2.St) (H:Hp) (Q:VK),(∀p∈X.pn++pins,p.1≠P)->Inv X (tab0 P::pins) σ H s->t σ H Q->wpAny (model X.prog X.w) X.A (eval e X.env) (fun u s'=>∃ps,EP X ((P,tabObj ps)::pins) σ Q u s') X.xe s
def PAl(X:Cx)(P:Addr)(es:List Expr)(t:TA):Prop:=
 ∀(pos:Pos) (pins:List (Addr×Obj)) (s:Shared) (σ:L2.St) (H:Hp) (Q:List V->Hp->Prop),(∀p∈X.pn++pins,p.1≠P)->Inv X (tab0 P::pins) σ H s->t σ H Q->wpAny (model X.prog X.w) X.A (spliced (backTo pos (starEach es X.env))) (fun us s'=>∃ps,AP X ((P,tabObj ps)::pins) σ Q us s') X.xe s
def PSl(X:Cx)(P:Addr)(st:Stmt)(t:TS):Prop:=
 ∀(pins:List (Addr×Obj)) (s:Shared) (σ:L2.St) (H:Hp) (D:Ends),(∀p∈X.pn++pins,p.1≠P)->Inv X (tab0 P::pins) σ H s->t D σ H->wpAny (model X.prog X.w) X.A (exec st X.env) (fun f s'=>∃ps,SP X ((P,tabObj ps)::pins) D f s') X.xe s
def PSsl(X:Cx)(P:Addr)(st:List Stmt)(t:TS):Prop:=
 ∀(pins:List (Addr×Obj)) (s:Shared) (σ:L2.St) (H:Hp) (D:Ends),(∀p∈X.pn++pins,p.1≠P)->Inv X (tab0 P::pins) σ H s->t D σ H->wpAny (model X.prog X.w) X.A (execs st X.env) (fun f s'=>∃ps,SP X ((P,tabObj ps)::pins) D f s') X.xe s
def UC(K:Za)(φ:List (Option Nat))(te:TE)(t:TA):TE:=fun σ H Q=>t σ H fun vs H1=>∃(l:Addr) (us:List V) (kz:List Int),vs=[.ref l]/\SqL K H1 l us/\us.length<64/\kz.length=us.length/\
 (∀(i:Nat) u k,us[i]?=some u->kz[i]?=some k->te (QA φ σ u) H1 fun y H'=>H'=H1/\y=.int k)/\
 ∀(D:Addr) (ys:List V),H1 D=none->Stb.Out kz V.non us ys->Q (.ref D) (upd H1 D (.lst ys))
section
variable {X:Cx}{P c:Addr}{N':List Str}{φ:List (Option Nat)}{sc:Scope}{x:Str}{params:Arguments}{body e a b:Expr}{es:List Expr}{te t ta tb:TE}{tl tr:TA}{u:TS}{pos p1 lpos kpos:Pos}{k:Nat}{st:Stmt}{rest:List Stmt}{v w:TS}
def K7(T:Tabs X c P)(hr:Room k X.A)(S:LamOk X N' φ sc x)(hg:Gl X "sorted")(hm:X.mg "sorted"=none)(ha:PA X [a] tl)(hbind:∀qual cl pm c' ctv v,bindArgs (kla_fn "<lambda>" qual params body sc cl pm (.ref c') ctv) ⟨[v],[]⟩=pure [(x,v)])(hin:∀qual cl f cv A s₃ H₃,PE (lamX X N' qual sc cl f cv A s₃ H₃) body te)(hdef:defaultsOf params X.env=([],[]):=by rfl)(he:starEach [a] X.env=[(false,eval a X.env)]:=by rfl) :
  PEl X P (.Call (.Name "sorted" p1) [a] [⟨some "key",.Lambda params body sc lpos,kpos⟩] pos) (UC X.K φ te tl):=by
 intro pins s σ H Q ne I h;refine Y2 (QN I hg hm boot_sorted ?_ (by decide) (by decide));refine callWith_kw (e:=a) (rest:=[]) (thn (ha pos (tab0 P::pins) s σ H _ I h) fun us s1 ⟨vs,H1,I1,r1,q1⟩=>?_) (by show backTo pos (starEach [a] X.env)=_;rw[he];rfl) (by rw[he];rfl);obtain⟨l,xs,kz,rfl,hl,h64,hlen,turn,fin⟩:=q1;obtain⟨u1,rfl,ru⟩:=r1.one;obtain rfl:u1=Value.ref l:=ru;obtain⟨its,ri,hp,_⟩:=I1.list hl;show wpAny _ _ (evalAll [do let v ←eval (.Lambda params body sc lpos) X.env;standAt pos;pure v]) _ _ _
 unfold evalAll;refine Zp (Zp (To I1 T ne S hdef fun f c' oc cl pm ctv pt s2 I2 hoc q1 q3=>?_));refine Zp (wpAny_standAt (Zt (Zp (Yv (Zt (Zt ?_))))));show wpAny _ _ (call (.builtin "sorted") [.ref l] [(Str.ofString "key",.ref f)]) _ _ _;obtain⟨its2,ri2,hp2,_⟩:=I2.list hl;refine P0 I2 hp2 ri2 hlen h64 (fun i v1 kk pins' s' hv hk hsub I'=>?_) fun D ys s' hD I' h1=>?_
 ·obtain⟨y,hy,ry⟩:=(show ∃y,xs[i]?=some y/\RelV y v1 from by
   have hi:i<its2.length:=(ZD.mp hv).1;have hi2:i<xs.length:=by rw[ri2.length];exact hi
   obtain⟨u,hu,ru⟩:=ri2.get (Zq hi2);rw[hv]at hu;cases hu
   exact⟨_,Zq hi2,ru⟩)
  have hd:=hr.dp;exact TC (A:=X.A.in1.in1) (pm:=pm) (ctv:=ctv) (c':=c') (oc:=oc) I' S (by show X.A.depth<_;omega) hr.hd I'.ok.frames q1 q3 (hsub _ (by simp)) (hsub _ (by simp)) hoc (hbind _ _ _ _ _ _) (fun s₃ H₃=>hin _ _ _ _ _ s₃ H₃) ry (turn i y kk hy hk)
 ·exact⟨pt,.ref D,_,QE I' fun p hp=>by
   rcases ZA.mp hp with rfl|hp
   ·simp
   ·simp[hp],rfl,fin D ys hD h1⟩
end
section
variable {X:Cx}{P c:Addr}{pins pins':List (Addr×Obj)}{e a b:Expr}{es:List Expr}{te t ta tb:TE}{tc:TT}{u:TS}{pos:Pos}{st:Stmt}{ss rest:List Stmt}{v w:TS}{D:Ends}
def QB(h1:PS X st v)(h2:PSsl X P rest u):PSsl X P (st::rest) (tSeq v u):=by
 intro pins s σ H D ne I h;refine YV (thn (h1 _ s σ H {D with nx:=u D} I h) fun f s1 q=>?_)
 cases f with
 |next=>
  obtain⟨σ',H',I',q⟩:=q;exact h2 pins s1 σ' H' D ne I' q
 |ret v=>exact⟨#[],q⟩
 |brk=>exact⟨#[],q⟩
 |cont=>exact⟨#[],q⟩
def Pd(h1:PSl X P st v):PSsl X P [st] v:=by
 intro pins s σ H D ne I h;refine YV (thn (h1 pins s σ H D ne I h) fun f s1 ⟨ps,q⟩=>?_);cases f with
 |next=>exact YC ⟨ps,q⟩
 |ret v=>exact⟨ps,q⟩
 |brk=>exact⟨ps,q⟩
 |cont=>exact⟨ps,q⟩
def Td(he:PEl X P e te):PSl X P (.Return (some e) pos) (tRet te):=by
 intro pins s σ H D ne I h;exact wpAny_Return_some (thn (he pins s σ H _ ne I h) fun v s1 ⟨ps,x,H1,I1,r1,q1⟩=>⟨ps,x,σ,H1,I1,r1,q1⟩)
def KJ(ha:PE X a ta)(hb:PEl X P b tb)(h1:starEach [a,b] X.env=(false,eval a X.env)::starEach [b] X.env:=by rfl)(h2:starEach [b] X.env=(false,eval b X.env)::starEach [] X.env:=by rfl):PAl X P [a,b] (WM ta (WM tb tNil)):=by
 intro pos pins s σ H Q ne I h;rw[h1,h2];show wpAny _ _ (spliced ((false,eval a X.env)::(false,eval b X.env)::[])) _ _ s;refine Calls.spliced_cons (thn (ha _ s σ H _ I h) fun u s1 ⟨x,H1,I1,r1,q1⟩=>?_);refine Calls.spliced_cons (thn (hb pins s1 σ H1 _ ne I1 q1) fun u2 s2 ⟨ps,y,H2,I2,r2,q2⟩=>?_);exact Calls.spliced_nil ⟨ps,[x,y],H2,I2,.cons r1 (.cons r2 .nil),q2⟩
def NY{k j:Nat}{x:Str}{ps:List Str}{sp:Sp}{p:Pos}{tl:TA}(C:Callee X.prog X.w X.K X.mg X.base CX0 k x ps sp)(hr:Room j X.A)(ha:PAl X P (e::es) tl)(hk:k<=j:=by decide)(hg:Gl X x:=by rfl)(hdb:(x==("__debug__" : Str))=false:=by decide)(he:starEach (e::es) X.env=(false,eval e X.env)::starEach es X.env:=by rfl)(hpl:(backTo pos (starEach es X.env)).any (·.1)=false:=by rfl) :
  PEl X P (.Call (.Name x p) (e::es) [] pos) (QK sp [] E0 tl):=by
 obtain⟨f,fd,F,hm,hkp,_,hb⟩:=C.ex;intro pins s σ H Q ne I h;refine Y2 (VJ I hg hm ?_ hdb);refine PySem.W.callWith_K (h₀:=X.base) I.ok.mod.kin hkp (thn (ha pos pins s σ H _ ne I h) fun us s1 ⟨qs,vs,H1,I1,r,q⟩=>⟨I1.kIn,?_⟩) he hpl;exact thn (Xd F (hr.mono hk) hb .nil Qh I1 r q) fun _ _ z=>⟨qs,z⟩
end
def LawT(P:Program)(w:World)(K:Frag)(mg:Str->Option Value)(base:Heap)(k:Nat)(f:Addr)(fd:FuncData)(x:Str)(sp:Sp)(Pl:Addr):Prop:=
 ∀(A:Around) (s:Shared) (H:Hp) (args:Args) (u:Value) (v:V) (Q:VK),Room k A->Env0 P w K mg base A [] s H->s.heap.get? Pl=some (tabObj #[])->H Pl=none->base.get? Pl=none->BindsTo s fd args [(x,u)]->RelV v u->sp [v] H Q (fun _ _ _=>False)->
  codeAny (model P w) A (.call (.ref f) args) (fun r s'=>∃u v H' ps,r=.ok (.ret u)/\s'.os=s.os/\AllBare s'.gens/\Un [] [Pl] H H' s.heap s'.heap/\HOk P w H' s'.heap/\RelV v u/\Q v H'/\s'.heap.get? Pl=some (tabObj ps)) s
abbrev lawX(P:Program)(w:World)(K:Frag)(mg:Str->Option Value)(base:Heap)(N:List Str)(qual:Str)(scope:Scope)(f:Addr)(cd:Value)(A:Around)(s:Shared)(H:Hp)(Pl:Addr):Cx:=
 { (cxOf CX0 P w K mg base N qual scope f cd A [] s H (fun _ _ _=>False)).nox with ex:=[Pl]}
section
variable {P:Program}{w:World}{K:Frag}{mg:Str->Option Value}{base:Heap}{N ps:List Str}{qual x:Str}{scope:Scope}{f:Addr}{cd:Value}{A:Around}{s s1:Shared}{H:Hp}{us:List Value}{vs:List V}{Pl c:Addr}
def Xu(S:FnScope N ps scope)(hd:A.handled=none)(e0:Env0 P w K mg base A [] s H)(hl:vs.length=ps.length)(r:Vals vs us)(hT:s.heap.get? Pl=some (tabObj #[]))(hH:H Pl=none)(hb:base.get? Pl=none)(y:InCallC s s.heap.objs.size (bindL (envOfC qual scope s.heap.objs.size f cd).kindOf (ps.zip us) fun _=>none) (cellsFrom (s.heap.objs.size+1) scope.names []) (bindC (envOfC qual scope s.heap.objs.size f cd).kindOf (ps.zip us) fun _=>none) s1) :
  Inv (lawX P w K mg base N qual scope f cd A s H Pl) [tab0 Pl] (start N vs) H s1:=by
 have I:=(UJ (CX:=CX0) (E:=fun _ _ _=>False) S hd e0 hl r y).wish fun _ _=>False;obtain⟨h1,tk,rfl,hk⟩:=y.done;have hlt:=Zv hT;have o:=I.ok;have nofs:∀b,b∉(lawX P w K mg base N qual scope f cd A s H Pl).fs:=fun b z=>absurd (show b∈([]:List Addr)from z) (by simp)
 have exm:∀{b},b∈(lawX P w K mg base N qual scope f cd A s H Pl).ex->b=Pl:=fun {b} z=>Z4.mp (show b∈[Pl]from z)
 have cne:∀x c,(envOfC qual scope s.heap.objs.size f cd).cells.lookup x=some c->c≠Pl:=fun x c h z=>by
  have:=y.above x c (ZI h)
  rw[z]at this;exact ZY _ (Nat.lt_trans hlt this)
 refine⟨⟨o.mod,o.kind,o.glob,o.blt,o.above,o.inj,o.has,o.cab,o.hd,o.frames,o.stk,fun b z=>?_,o.bs,o.bsz,fun b q hq z=>?_,fun b z=>nofs b,o.funs,o.frf⟩,I.os,I.bare,?_,I.loc,I.cell,I.free,I.freeC,fun p hp=>?_,I.hok,I.len⟩
 ·rw[exm z];exact⟨Z7 hlt,cne⟩
 ·rw[exm z]at hq;have hq:base.get? Pl=some q:=hq;rw[hb]at hq;cases hq
 ·exact I.base.mono (fun _ z=>z) fun b z=>absurd (show b∈([]:List Addr)from z) (by simp)
 ·have e:p=tab0 Pl:=by
   have:p∈([]++[tab0 Pl]:List (Addr×Obj)):=hp
   simpa using this
  subst e;exact⟨hk _ _ hT,hH,Z7 hlt,nofs _,fun v z=>by cases z⟩
def Ja{name:Str}{params:Arguments}{body:List Stmt}{dV kV doc pm ct oc:Value}{an od:Option Addr}{osl:Array (Option Value)}{k:Nat}{sp:Sp}(lk:K.lookup f=some ⟨oc,od,.func (PySem.W.fnOf name qual params body scope dV kV doc pm an cd ct),osl⟩)(hcd:PySem.W.codeIn K cd qual=true)(S:FnScope N [x] scope)(hc:cd=.ref c)(hC:CodeHd base c Pl)(hB:base.BuiltinsAt mg Pl)(hgP:mainGlobals≠Pl)
  (hbody:∀(A:Around) (s:Shared) (H:Hp) (v:V) (Q:VK),Room k (A.deeper (envOfC qual scope s.heap.objs.size f cd))->Tabs (lawX P w K mg base N qual scope f cd A s H Pl) c Pl->sp [v] H Q (fun _ _ _=>False)->
   ∃t,PSsl (lawX P w K mg base N qual scope f cd A s H Pl) Pl body t/\t {nx:=fun _ H'=>Q .non H',rt:=Q} (start N [v]) H) :
  LawT P w K mg base (k+1) f (PySem.W.fnOf name qual params body scope dV kV doc pm an cd ct) x sp Pl:=by
 intro A s H args u v Q hr e0 hT hH hb hbd r hsp;have KX:K.In s.heap:=e0.mod.kin.keeps fun b o e=>(e0.bs b o e).1;have lim:s.heap.NoLimit:=e0.mod.nolimit.keeps fun b o e=>(e0.bs b o e).1
 have hkind:∀y∈[(x,u)],scope.names.lookup y.1=some .local\/(scope.names.lookup y.1=some .cell/\((cellsFrom (s.heap.objs.size+1) scope.names []).lookup y.1).isSome=true):=fun y hy=>by
  rw[Z4.mp hy];rcases S.par x (by simp)with q|q
  ·exact .inl q
  ·exact .inr ⟨q,YS _ _ _ (.inl q)⟩
 refine codeAny_call_function hr.depth (KX _ _ lk) rfl S.co S.gen rfl (PySem.W.codeRec_of KX hcd) (hbd _ _ _ _ ?_);refine wpAny_newFunctionEnv_cells S.kind hkind fun env he s1 y=>?_;subst he;refine⟨lim.keeps y.toInCall.keep,codeAny_func ?_⟩;have T:Tabs (lawX P w K mg base N qual scope f cd A s H Pl) c Pl:=⟨hc,hC,hgP,hB,Z4.mpr rfl⟩;obtain⟨t,ht,hq⟩:=hbody A s H v Q (hr.deeper _) T hsp;have I:=Xu (ps:=[x]) (us:=[u]) (vs:=[v]) S hr.hd e0 rfl (.cons r .nil) hT hH hb y;refine ZM (ht [] s1 (start N [v]) H _ (fun p hp=>by simp[lawX,cxOf]at hp) I hq) (fun fl s' hs=>?_) fun e s' hs=>False.elim hs
 have fin:∀{σ':L2.St} {H':Hp} {v:V} {u:Value} {pt:Array Value},Inv (lawX P w K mg base N qual scope f cd A s H Pl) [(Pl,tabObj pt)] σ' H' s'->RelV v u->Q v H'->
   ∃u' v H' ps,(Except.ok (Flow.ret u):Result)=.ok (.ret u')/\s'.os=s.os/\AllBare s'.gens/\Un [] [Pl] H H' s.heap s'.heap/\HOk P w H' s'.heap/\RelV v u'/\Q v H'/\s'.heap.get? Pl=some (tabObj ps):=
  fun {σ' H' v u pt} J rv q=>⟨u,v,H',pt,rfl,J.os,J.bare,J.base,J.hok,rv,q,(J.pin (Pl,tabObj pt) (by simp)).1⟩
 obtain⟨pt,hs⟩:=hs;cases fl with
 |ret u=>
  obtain⟨v,σ',H',J,rv,q⟩:=hs;exact fin J rv q
 |next=>
  obtain⟨σ',H',J,q⟩:=hs;exact fin (v:=V.non) (u:=Value.none) J rfl q
 |brk=>
  obtain⟨_,_,_,q⟩:=hs;exact False.elim q
 |cont=>
  obtain⟨_,_,_,q⟩:=hs;exact False.elim q
end
def Kk{P:Program}{w:World}{K:Frag}{mg mb:Str->Option Value}{k:Nat}{fa a Pl c:Addr}{fd:FuncData}{x:Str}{sp:Sp}{s₁:Shared}{vs:List Value}{ns:List Int}(KX:K.In s₁.heap)(hns:s₁.heap.Ns mainGlobals mg)(hb:s₁.heap.Ns builtinsNs mb)(hbb:∀x:Str,x≠"__name__"->mb x=bootBuiltins x)(hlim:s₁.heap.NoLimit)(hg:s₁.gens=#[])(hbm:∃bm ob,mg "__builtins__"=some (.ref bm)/\bm≠builtinsNs/\s₁.heap.get? bm=some ob/\ob.cls=.type "module"/\ob.dict=some builtinsNs/\ob.data=.plain)(hT:s₁.heap.get? Pl=some (tabObj #[]))(hKP:K.lookup Pl=none)(hC:codeHdIn K c Pl=true)(ha:s₁.heap.get? a=some {cls:=.type "list",data:=.seq vs.toArray})(hi:IntsAre vs ns)(hl:ns.length<=sizeLine)(hr:Room k callerA)(F:∀base:Heap,K.In base->base.Ns mainGlobals mg->CodeHd base c Pl->base.BuiltinsAt mg Pl->mainGlobals≠Pl->LawT P w K mg base k fa fd x sp Pl)(hbind:∀(s:Shared) (u:Value),BindsTo s fd ⟨[u],[]⟩ [(x,u)])(hsp:∀H:Hp,Only H->SqL K H a (ns.map V.int)->sp [.ref a] H (fun v _=>v=.bl true) fun _ _ _=>False) :
  codeAny (model P w) callerA (.call (.ref fa) ⟨[.ref a],[]⟩) (fun r s'=>r=.ok (.ret (.bool true))/\OldK s₁.heap s'.heap/\s'.os=s₁.os/\AllBare s'.gens) s₁:=by
 have rv:=Vq hi;have lenV:=hi.length;have haP:a≠Pl:=fun z=>by rw[z,hT]at ha;cases ha
 obtain⟨bm,ob,b1,b2,b3,b4,b5,b6⟩:=hbm
 have core:∀H:Hp,Only H->SqL K H a (ns.map V.int)->HOk P w H s₁.heap->(∀b,H b≠none->b=a)->(H a≠none->K.lookup a=none)->
   codeAny (model P w) callerA (.call (.ref fa) ⟨[.ref a],[]⟩) (fun r s'=>r=.ok (.ret (.bool true))/\OldK s₁.heap s'.heap/\s'.os=s₁.os/\AllBare s'.gens) s₁:=by
  intro H hO hS hok hA hK
  have hHP:H Pl=none:=by
   cases q:H Pl with
   |none=>rfl
   |some u=>exact absurd (hA Pl (by rw[q];simp)) haP.symm
  have hide:∀{b:Addr},b≠Pl->H b=none->upd H Pl (.tbl #[]) b=none:=fun {b} n e=>by rw[W7 n];exact e
  have base_of:∀{b:Addr} {o:Obj},s₁.heap.get? b=some o->b≠Pl->H b=none->(hidT s₁.heap (upd H Pl (.tbl #[]))).get? b=some o:=fun e n q=>N4 e (hide n q)
  have notA:∀{b:Addr} {o:Obj},s₁.heap.get? b=some o->(∀e n,o.data≠.seq e n)->H b=none:=fun {b o} e d=>by
   cases q:H b with
   |none=>rfl
   |some u=>
    have e':b=a:=hA b (by rw[q];simp);subst e';rw[ha]at e;cases e;exact absurd rfl (d _ _)
  have notP:∀{b:Addr} {o:Obj},s₁.heap.get? b=some o->(∀e,o.data≠.fields e)->b≠Pl:=fun {b o} e d z=>by
   rw[z,hT]at e;cases e;exact absurd rfl (d _)
  have nsK:∀{b:Addr} {m:Str->Option Value},s₁.heap.Ns b m->(hidT s₁.heap (upd H Pl (.tbl #[]))).Ns b m:=fun {b m} ⟨o,es,ep,e,d,r⟩=>
   ⟨o,es,ep,base_of e (notP e fun _ z=>by rw[d]at z;cases z) (notA e fun _ _ z=>by rw[d]at z;cases z),d,r⟩
  have hKb:K.In (hidT s₁.heap (upd H Pl (.tbl #[]))):=fun b o e=>base_of (KX b o e) (fun z=>by rw[z,hKP]at e;cases e) (by
   cases q:H b with
   |none=>rfl
   |some u=>
    have e':b=a:=hA b (by rw[q];simp);subst e';rw[hK (by rw[q];simp)]at e;cases e)
  have hM:Mod K mg (hidT s₁.heap (upd H Pl (.tbl #[]))):=⟨hKb,nsK hns,⟨mb,nsK hb,hbb⟩,let ⟨mc,h1,h2⟩:=hlim;⟨mc,nsK h1,h2⟩⟩
  have bP:∀{b:Addr} {o:Obj},(hidT s₁.heap (upd H Pl (.tbl #[]))).get? b=some o->b≠Pl:=fun {b o} e z=>by
   have:=(Jc e).2
   rw[z,WC]at this;cases this
  have e0:Env0 P w K mg (hidT s₁.heap (upd H Pl (.tbl #[]))) callerA [] s₁ H:=⟨rfl,hM,fun b o e=>⟨(Jc e).1,by have:=(Jc e).2;rw[W7 (bP e)]at this;exact this⟩,Yo (PF _ _),trivial,fun b hb=>absurd (show b∈([]:List Addr)from hb) (by simp),hok,.of_eq hg⟩
  have hC':CodeHd (hidT s₁.heap (upd H Pl (.tbl #[]))) c Pl:=codeHd_of_K hKb hC;have hC1:CodeHd s₁.heap c Pl:=codeHd_of_K KX hC
  have hgP:mainGlobals≠Pl:=by
   obtain⟨o,es,ep,e,d,_⟩:=hns;exact notP e fun _ z=>by rw[d]at z;cases z
  have hgB:bm≠mainGlobals:=fun z=>by
   obtain⟨o,es,ep,e,d,_⟩:=hns;rw[z,e]at b3;cases b3;rw[d]at b6;cases b6
  have hbP:bm≠Pl:=notP b3 fun _ z=>by rw[b6]at z;cases z
  have hB:(hidT s₁.heap (upd H Pl (.tbl #[]))).BuiltinsAt mg Pl:=⟨bm,ob,b1,b2,hgB,hbP,base_of b3 hbP (notA b3 fun _ _ z=>by rw[b6]at z;cases z),b4,b5,b6⟩
  have hbn:(hidT s₁.heap (upd H Pl (.tbl #[]))).get? Pl=none:=by
   cases q:(hidT s₁.heap (upd H Pl (.tbl #[]))).get? Pl with
   |none=>rfl
   |some o=>exact absurd rfl (bP q)
  refine YK (F _ hKb (nsK hns) hC' hB hgP callerA s₁ H ⟨[.ref a],[]⟩ (.ref a) (.ref a) _ hr e0 hT hHP hbn (hbind s₁ (.ref a)) rfl (hsp H hO hS)) fun r s' h=>?_;obtain⟨u,v,H',pt,rfl,os,bare,un,hok',r',q,hP'⟩:=h;have q':v=.bl true:=q;subst q';obtain rfl:u=Value.bool true:=r';refine⟨rfl,⟨fun b o e=>?_,fun b o e=>?_⟩,os,bare⟩
  ·by_cases hbP:b=Pl
   ·subst hbP;rw[hT]at e;cases e;exact .inr (.inl ⟨(hC1.tab hT).isCodeTable,rfl,#[],pt,rfl,by rw[hP'];simp⟩)
   ·refine .inl ?_;cases q:H b with
    |none=>exact un.keep b o e q (by intro z;exact absurd (show b∈([]:List Addr)from z) (by simp)) (by simpa using hbP)
    |some u=>
     rcases hO b with z|⟨ob,xs,z⟩
     ·rw[q]at z;cases z
     ·have z2:=un.frzs b ob _ z;obtain⟨e1,_⟩:=hok b _ z;obtain⟨e2,_⟩:=hok' b _ z2;rw[e]at e1;cases e1;exact e2
  ·by_cases hbP:b=Pl
   ·exact⟨_,by rw[hbP];exact hP'⟩
   ·exact un.there b o e (by simpa using hbP)
 cases hk:K.lookup a with
 |some o=>
  have e:=KX a o hk;rw[ha]at e;cases e
  refine core (fun _=>none) (fun _=>.inl rfl) (.inr ⟨_,vs.toArray,_,hk,rfl,rfl,rfl,by rw[Zy,lenV];exact hl,by simpa using rv⟩) (fun b u z=>by have z':(none:Option HO)=some u:=z;cases z') (fun b z=>absurd rfl z) fun z=>absurd rfl z
 |none=>
  refine core (fun b=>if b=a then some (.frz {cls:=.type "list",data:=.seq vs.toArray} (.lst (ns.map V.int)))else none) (fun b=>?_) (.inl (.inr ⟨{cls:=.type "list",data:=.seq vs.toArray},Z0 rfl⟩)) (fun b u z=>?_) (fun b z=>?_) fun _=>hk
  ·by_cases hb:b=a
   ·exact .inr ⟨_,_,Z0 hb⟩
   ·exact .inl (Z2 hb)
  ·by_cases hb:b=a
   ·have z':=(Z0 hb).symm.trans z;cases z'
    subst hb;exact⟨ha,by rw[Zs];exact hl,vs,_,rv,ha⟩
   ·have z':=(Z2 hb).symm.trans z;cases z'
  ·by_cases hb:b=a
   ·exact hb
   ·exact absurd (Z2 hb) z
def ND{l:PySem.W.OpenLaw}{n k:Nat}{q:Program}{loose:List Str}{XP:(Str->Option Value)->Heap->Prop}{YP:World->Heap->Prop}{d:DefRec}{K:Params->Za}{sp:Za->Sp}{x:Str}{Pl:Addr}(hn:l.most=some n)(hn2:n<=sizeLine)(hdf:d.params.defaults=[])(hr:Room k callerA)(hY:∀(w:World) (h:Heap),YP w h->(K w.params).In h)(hP:∀(w:World) (h:Heap),YP w h->h.get? Pl=some (tabObj #[]))
  (F:∀(w:World) (mg:Str->Option Value) (fa:Addr) (h:Heap),(K w.params).In h->h.Ns mainGlobals mg->mg d.name=some (.ref fa)->
   ∃(fd:FuncData) (c:Addr),(∀(s:Shared) (u:Value),BindsTo s fd ⟨[u],[]⟩ [(x,u)])/\(K w.params).lookup Pl=none/\codeHdIn (K w.params) c Pl=true/\
    ∀base:Heap,(K w.params).In base->base.Ns mainGlobals mg->CodeHd base c Pl->base.BuiltinsAt mg Pl->mainGlobals≠Pl->LawT l.prog w (K w.params) mg base k fa fd x (sp (K w.params)) Pl)
  (hsp:∀(K:Za) (H:Hp) (a:Addr) (ns:List Int),ns.length<=n->Only H->SqL K H a (ns.map V.int)->sp K [.ref a] H (fun v _=>v=.bl true) fun _ _ _=>False) :
  PySem.W.WalkO q loose XP YP l.row.toRowW d [] (fun f vs=>PySem.call f vs):=by
 refine Att.Ko hn hdf fun w s₀ s₁ mg mb fa o pm cd doc a vs ns G Y ho hd hcd hmg hobj hints hlen hg=>?_;have KX:=hY w _ Y;obtain⟨fd,c,hb,hKP,hC,hF⟩:=F w mg fa _ KX G.T.g hmg;exact Kk KX G.T.g G.T.b G.T.builtins G.T.nolimit hg G.T.bmain (hP w _ Y) hKP hC hobj hints (Z8 hlen hn2) hr hF hb fun H hO hS=>hsp (K w.params) H a ns hlen hO hS
end Lam
namespace Lam
open PySem PySem.Spec PyProof.Rows L2 Own Pu
def Still(te:TE):Prop:=∀(σ:L2.St) (H:Hp) (Q Q':VK),te σ H Q->(∀v,Q v H->Q' v H)->te σ H Q'
def J8(i:Nat):Still (tVar i):=fun _ _ _ _ ⟨v,e,q⟩ k=>⟨v,e,k v q⟩
def Tu(v:V):Still (tC v):=fun _ _ _ _ q k=>k v q
def Kc{K:Za}{ta tb:TE}(ha:Still ta)(hb:Still tb):Still (tOp (fun x y H Q=>rIxL K x y H Q\/rIxT K x y H Q) ta tb):=fun σ H Q Q' h k=>
 ha σ H _ _ h fun x h1=>hb σ H _ _ h1 fun y h2=>h2.imp (fun⟨a,xs,i,v,e1,e2,e3,e4,q⟩=>⟨a,xs,i,v,e1,e2,e3,e4,k v q⟩) fun⟨a,xs,i,v,e1,e2,e3,e4,q⟩=>⟨a,xs,i,v,e1,e2,e3,e4,k v q⟩
def KW{ta:TE}(ha:Still ta)(σ:L2.St)(H:Hp)(Q Q':List V->Hp->Prop)(h:WM ta tNil σ H Q)(k:∀v,Q v H->Q' v H):WM ta tNil σ H Q':=ha σ H _ _ h fun x q=>k _ q
def T3{K:Za}{ta tb:TE}(ha:Still ta)(hb:Still tb):Still (tBM K "list" (Vk K) ta (WM tb tNil)):=fun σ H Q Q' h k=>
 ha σ H _ _ h fun x ⟨h0,h1⟩=>⟨h0,KW hb σ H _ _ h1 fun vs ⟨a,xs,z,e1,e2,e3,e4,q⟩=>⟨a,xs,z,e1,e2,e3,e4,k _ q⟩⟩
section
variable {K:Za}{mg:Str->Option Value}{E:L2.St->XK}{H0 H H':Hp}{B:Addr->Prop}{σ:L2.St}{γ:Γ}{φ:List (Option Nat)}
def XY(env:EnvR K H0 B H σ γ)(hφ:(φ.filterMap id).Nodup):EnvR K H0 (zof B γ σ) H (atStart φ σ) (atP φ γ):=by
 have hz:∀b,zof (zof B γ σ) (atP φ γ) (atStart φ σ) b->zof B γ σ b:=fun b y=>by
  rcases y with y|⟨i',ds,x,y1,y2,y3⟩
  ·exact y
  ·obtain⟨m,m1,m2⟩:=Qv y1;obtain⟨w,w1,_⟩:=env.slot m _ m2;rw[Qy m1 w1]at y2;exact .inr ⟨m,ds,x,m2,by rw[w1];exact ZN some (Zw y2),y3⟩
 refine⟨env.same,by unfold atStart atP;simp,env.zm,fun i j a a' ds es b h1 h2 h3 h4 h5 h6=>?_,fun i s h=>?_⟩
 ·obtain⟨k,k1,k2⟩:=Qv h1;obtain⟨l,l1,l2⟩:=Qv h2;obtain⟨v,v1,_⟩:=env.slot k _ k2;obtain⟨u,u1,_⟩:=env.slot l _ l2;rw[Qy k1 v1]at h3;rw[Qy l1 u1]at h4
  have:=env.own k l a a' ds es b k2 l2 (by rw[v1];exact ZN some (Zw h3)) (by rw[u1];exact ZN some (Zw h4)) h5 h6
  subst this;exact Vh hφ i j k k1 l1
 ·obtain⟨k,k1,k2⟩:=Qv h;obtain⟨v,v1,v2⟩:=env.slot k _ k2;have So:Same (off (zof B γ σ) H) (off (zof (zof B γ σ) (atP φ γ) (atStart φ σ)) H):=WA (Same.refl _) fun b _ _ z y=>z (hz b y);refine⟨v,Qy k1 v1,?_⟩;cases s with
  |bor d=>exact v2
  |sh d=>exact Rp.mono So v2
  |own ds=>
   obtain⟨a,e1,e3,e4⟩:=v2;exact⟨a,e1,e3,e4.mono So fun _ _ _ x=>x⟩
  |view ds=>exact v2
  |tmp d=>exact v2
def lamP(φ:List (Option Nat))(γ:Γ)(d:D):Γ:=(atP φ γ).set 0 (some (.sh d))
structure SortW (φ:List (Option Nat)) (γ:Γ) (a:PTE) (ss:List S) (R:S->Prop):Prop where
 w:∃(s:S) (ds:List D) (kz:List Int),ss=[s]/\s.d=.lst ds/\imms ds=true/\ds.length<64/\kz.length=ds.length/\
  (∀(i:Nat) d k,ds[i]?=some d->kz[i]?=some k->a (lamP φ γ d) (fun t=>t.d=.int k) fun _=>False)/\∀qs:List (Int×D),qs.Perm (kz.zip ds)->Stb.Out kz D.non ds (qs.map Prod.snd)->R (.own (qs.map Prod.snd))
def Kd(φ:List (Option Nat))(a:PTE)(r:PTA):PTE:=fun γ R X=>r γ (fun ss=>SortW φ γ a ss R) X
def Js:∀{ds:List D}{i:Nat}{d:D},imms ds=true->ds[i]?=some d->imm d=true
 |[],_,_,_,h=>by simp at h
 |x::r,0,d,e,h=>by
  unfold imms at e;rw[ZO]at e
  have:x=d:=by simpa using h
  rw[←this];exact e.1
 |x::r,i+1,d,e,h=>by
  unfold imms at e;rw[ZO]at e;exact Js (i:=i) e.2 (by simpa using h)
def JV{F:Hp}{ds:List D}{vs:List V}(r:Rps K F ds vs):∀{is:List Nat},(∀i∈is,i<vs.length)->Rps K F (is.map fun i=>ds.getD i D.non) (is.map fun i=>vs.getD i V.non)
 |[],_=>.nil
 |i::is,h=>by
  have h1:=h i (by simp);obtain⟨d,hd,rd⟩:=r.getV (Zq h1);refine .cons ?_ (JV r fun j hj=>h j (by simp[hj]));show Rp K F (ds.getD i D.non) (vs.getD i V.non);rw[Zu,Zu,hd,Zq h1];exact rd
def Kq{te:TE}{ta:TA}{a:PTE}{r:PTA}(hs:Still te)(he:SndE K mg (fun _ _ _ _=>False) te a)(hr:SndA K mg E ta r)(h1:(φ.filterMap id).Nodup:=by decide):SndE K mg E (UC K φ te ta) (Kd φ a r):=by
 intro H0 B H σ γ R X Q env p q qx;refine hr H0 B H σ γ _ X _ env p (fun ss vs H1 hw S1 t1=>?_) qx;obtain⟨s,ds,kz,rfl,ed,im,h64,hlen,turn,fin⟩:=hw.w;obtain⟨v,rfl,tv⟩:=t1.one_inv;have env1:=env.grow S1;have rv:=tv.rp env1.same;rw[ed]at rv;obtain⟨l,us,rfl,hl,rp⟩:=rv.lst_inv;have ro:Rps K (off (zof B γ σ) H1) ds us:=Rps.off env1.zm rp im;refine⟨l,us,kz,rfl,SqL.of hl,by rw[rp.len];exact h64,by rw[rp.len];exact hlen,fun i u k hu hk=>?_,fun D ys nD hw=>?_⟩
 ·obtain⟨d,hd,rd⟩:=rp.getV hu;have e0:=XY (φ:=φ) env1 h1;have im1:=Js im hd;obtain⟨e1,_⟩:=e0.set (i:=0) (s:=.sh d) (s':=.sh d) (v:=u) (Same.refl _) (Rp.off e0.zm rd im1) rfl;refine hs _ _ _ _ (he H0 _ H1 (QA φ σ u) (lamP φ γ d) _ _ (fun v _=>v=.int k) e1 (turn i d k hd hk) (fun t w H2 ht S2 tw=>?_) fun _ _ z=>z.elim) fun w hw=>⟨rfl,hw⟩;have rw':=tw.rp (e1.same.trans S2);rw[ht]at rw';exact rw'.int_inv
 ·obtain⟨is,e1,ho,hlt⟩:=hw.rel Pu.D.non rp.len.symm;obtain⟨qs,hq,e2⟩:=ho.perm hlen;rw[e1];refine q _ _ _ (by rw[e2]at ho;exact fin qs hq ho) (S1.trans (WU nD)) (QP S1 nD ?_);rw[←e2];exact JV ro hlt
end
def LawC(P:Program)(w:World)(K:Za)(mg:Str->Option Value)(base:Heap)(k:Nat)(st:Stmt)(sp:Sp):Prop:=
 ∀(f:Addr) (fd:FuncData) (c Pl:Addr),Fun K "law" "law" st f fd->fd.code=.ref c->PySem.W.CodeHd base c Pl->base.BuiltinsAt mg Pl->mainGlobals≠Pl->LawT P w K mg base k f fd "_law_script" sp Pl
def Nn{P:Program}{w:World}{K:Za}{mg:Str->Option Value}{base:Heap}{N:List Str}{sp:Sp}{p:PTS}{st:Stmt}{k:Nat}(S:FnScope N ["_law_script"] (W8 st))
  (tr:∀(f:Addr) (cdv:Value) (c Pl:Addr) (A:Around) (s:Shared) (H:Hp),Room k (A.deeper (envOfC "law" (W8 st) s.heap.objs.size f cdv))->Tabs (lawX P w K mg base N "law" (W8 st) f cdv A s H Pl) c Pl->
   ∃t,PSsl (lawX P w K mg base N "law" (W8 st) f cdv A s H Pl) Pl (WT st) t/\SndS K mg (fun _ _ _ _=>False) t p) (u:Uz K mg N ["_law_script"] sp p):LawC P w K mg base (k+1) st sp:=by
 intro f fd c Pl F hc hC hB hgP;obtain⟨oc,od,kV,doc,pm,an,cdv,ct,osl,rfl,lk,hcd⟩:=F.ex;exact Ja lk hcd S hc hC hB hgP fun A s H v Q hr T hsp=>(tr f cdv c Pl A s H hr T).elim fun t z=>⟨t,z.1,u.run _ _ _ _ _ hsp z.2⟩
def LawT.imp {P:Program}{w:World}{K:Za}{mg:Str->Option Value}{base:Heap}{k:Nat}{f:Addr}{fd:FuncData}{x:Str}{sp sp':Sp}{Pl:Addr} (F:LawT P w K mg base k f fd x sp Pl) (h:∀vs H Q E,sp' vs H Q E->sp vs H Q E):LawT P w K mg base k f fd x sp' Pl:=
 fun A s H args u v Q hr e0 hT hH hb hbd r hsp=>F A s H args u v Q hr e0 hT hH hb hbd r (h _ _ _ _ hsp)
open M
def UZ:∀ps:List (Int×Int),imms (ps.map prD)=true
 |[]=>rfl
 |q::r=>by
  rw[Ye];unfold imms;rw[UZ r];rfl
end Lam
namespace T
open PySem PySem.Spec PyProof.Rows L2
def top(i:Nat):Stmt:=PySem.Challenge.pw_stripmeld_k04_gathered.main.body.getD i (.Pass ⟨0,0,0,0⟩)
abbrev V6:Stmt:=top 4
def P5:FnScope ["strips"] ["strips"] (W8 V6):=Pu.fs
abbrev VY:Stmt:=top 5
def Pg:FnScope ["strips","order"] ["strips","order"] (W8 VY):=Pu.fs
abbrev Jb:Stmt:=top 6
def Jd:FnScope ["strips","order","field","holder"] ["strips","order"] (W8 Jb):=Pu.fs
abbrev Jh:Stmt:=top 8
def Nb:FnScope ["_law_script","_law_k"] ["_law_script","_law_k"] (W8 Jh):=Pu.fs
abbrev VF:Stmt:=top 9
def TZ:FnScope ["_law_found"] ["_law_found"] (W8 VF):=Pu.fs
abbrev VX:Stmt:=top 10
def JP:FnScope ["_law_cell","_law_place","_law_first"] ["_law_cell","_law_place"] (W8 VX):=Pu.fs
abbrev VD:Stmt:=top 11
def K4:FnScope ["_law_script","_law_k"] ["_law_script","_law_k"] (W8 VD):=Pu.fs
abbrev V5:Stmt:=top 12
def VL:FnScope ["_law_cell","_law_wide","_law_least"] ["_law_cell"] (W8 V5):=Pu.fs
abbrev VT:Stmt:=top 13
def KN:FnScope ["_law_menu_here","_law_k"] ["_law_menu_here","_law_k"] (W8 VT):=Pu.fs
abbrev VG:Stmt:=top 14
def QZ:FnScope ["_law_script","_law_menu_here","_law_many","_law_strips_here","_law_k","_law_cell","_law_width"] ["_law_script","_law_menu_here","_law_many"] (W8 VG):=Pu.fs
abbrev VR:Stmt:=top 15
def JR:FnScope ["_law_found","_law_due","_law_k"] ["_law_found","_law_due"] (W8 VR):=Pu.fs
abbrev VN:Stmt:=top 16
def VE:FnScope ["_law_found","_law_due","_law_k","_law_j"] ["_law_found","_law_due"] (W8 VN):=Pu.fs
abbrev Jg:Stmt:=top 17
def Xl:FnScope ["_law_strips_here","_law_owners"] ["_law_strips_here"] (W8 Jg):=Pu.fs
abbrev VM:Stmt:=top 18
def QW:FnScope ["_law_holders","_law_cell","_law_left","_law_order","_law_rest"] ["_law_holders","_law_cell"] (W8 VM):=Pu.fs
abbrev Qn:Stmt:=top 19
def Q8:FnScope ["_law_script","_law_menu_here","_law_strips_here","_law_order","_law_handed","_law_named","_law_found"] ["_law_script"] (W8 Qn):=Pu.fs
structure Glob (K:Za) (mg:Str->Option Value):Prop where
 bool:mg "bool"=none
 int:mg "int"=none
 isinstance:mg "isinstance"=none
 len:mg "len"=none
 list:mg "list"=none
 range:mg "range"=none
 set:mg "set"=none
 sorted:mg "sorted"=none
 tuple:mg "tuple"=none
 m_BadOrder:mg "BadOrder"=some (.ref (ExcR.WR mg "BadOrder"))
 g_BadOrder:ExcR.ErrGet K (ExcR.WR mg "BadOrder")
end T
namespace M
open PySem PySem.Spec PyProof.Rows L2 Own Pu
def Jn(_:Za):Sp:=fun vs H Q _=>∃(l:Addr) (ps:List (Int×Int)),vs=[.ref l]/\LAt WS H l ps/\Field ps/\ps.length<=50/\
 ∀(q:Addr) (H':Hp),H q=none->Same H H'->H' q=some (.lst ((WJ ps).map V.int))->Q (.ref q) H'
def Jw:Pc:=fun ds R _=>∃ps:List (Int×Int),ds=[.lst (ps.map prD)]/\Field ps/\ps.length<=50/\R (.own ((WJ ps).map D.int))
def N3{P:Program}{w:World}{K:Za}{mg:Str->Option Value}{base:Heap}(C:Callee P w K mg base CX0 1 "holders_of" ["strips"] (Jn K)):Callee P w K mg base CX0 1 "holders_of" ["strips"] (Pu.spOf mg Jw K):=Qp C fun ds R X vs H Q E r hc hQ hX=>by
 obtain⟨ps,rfl,hF,hz,hR⟩:=hc;obtain⟨v,rfl,r1⟩:=r.one_inv;obtain⟨a,rfl,ha⟩:=r1.pairs_inv;exact⟨a,ps,rfl,ha,hF,hz,fun q H' nq S h=>hQ _ _ H' hR S (Vp nq h)⟩
def VZ(K:Za):Sp:=fun vs H Q _=>∃(a:Addr) (ns:List Int) (k:Int),vs=[.ref a,.int k]/\SqL K H a (ns.map V.int)/\0<=k/\Q (.int (ns.getD k.toNat 0)) H
def Xb:Pc:=fun ds R _=>∃(ns:List Int) (k:Int),ds=[.scr ns,.int k]/\0<=k/\R (.sh (.int (ns.getD k.toNat 0)))
def PN{P:Program}{w:World}{K:Za}{mg:Str->Option Value}{base:Heap}(C:Callee P w K mg base CX0 1 "_law_at" ["_law_script","_law_k"] (VZ K)):Callee P w K mg base CX0 1 "_law_at" ["_law_script","_law_k"] (Pu.spOf mg Xb K):=Qp C fun ds R X vs H Q E r hc hQ hX=>by
 obtain⟨ns,k,rfl,hk,hR⟩:=hc;obtain⟨v,u,rfl,r1,r2⟩:=r.two_inv;obtain⟨a,rfl,hS⟩:=r1.scr_inv;rw[r2.int_inv];exact⟨a,ns,k,rfl,hS,hk,hQ _ _ H hR (Same.refl _) (.int _)⟩
def VS(_:Za):Sp:=fun vs H Q _=>∃i:Int,vs=[.int i]/\Q (.bl true) H
def mix(c p:Int):Int:=((c % 2147483647+7919*p+1)*48271 % 2147483647+104729*p+11)*69621 % 2147483647
def JX(_:Za):Sp:=fun vs H Q _=>∃c p:Int,vs=[.int c,.int p]/\Q (.int (mix c p)) H
def Q4(c:Int):List Int:=[1+c % 10,[1,3,7,9].getD (c / 10 % 4).toNat 0,c / 40 % 10,[1000,3,1,2,3].getD (c / 400 % 5).toNat 0,[1,1,1,1,998].getD (c / 400 % 5).toNat 0]
def UV(_:Za):Sp:=fun vs H Q _=>∃c:Int,vs=[.int c]/\∀(l:Addr) (H':Hp),H l=none->Same H H'->H' l=some (.lst ((Q4 c).map V.int))->Menu (Q4 c)->Q (.ref l) H'
def V9{xs:List Int}{i:Int}(h0:0<=i)(h:i<xs.length):atI (xs.map V.int) i=some (.int (xs.getD i.toNat 0)):=by
 apply Vw (f:=V.int);apply Vs h0;rw[Zu,Zq (show i.toNat<xs.length by omega)];rfl
def PK(c:Int):Menu (Q4 c):=by
 have h1:0<=c / 10 % 4/\c / 10 % 4<4:=by omega
 have h2:0<=c / 400 % 5/\c / 400 % 5<5:=by omega
 refine⟨_,_,_,_,_,rfl,by omega,?_,by omega,?_,?_⟩
 ·have:c / 10 % 4=0\/c / 10 % 4=1\/c / 10 % 4=2\/c / 10 % 4=3:=by omega
  rcases this with e|e|e|e<;>rw[e]<;>decide
 ·have:c / 400 % 5=0\/c / 400 % 5=1\/c / 400 % 5=2\/c / 400 % 5=3\/c / 400 % 5=4:=by omega
  rcases this with e|e|e|e|e<;>rw[e]<;>decide
 ·have:c / 400 % 5=0\/c / 400 % 5=1\/c / 400 % 5=2\/c / 400 % 5=3\/c / 400 % 5=4:=by omega
  rcases this with e|e|e|e|e<;>rw[e]<;>decide
def Jl:Pc:=fun ds R _=>∃c:Int,ds=[.int c]/\(Menu (Q4 c)->R (.own ((Q4 c).map D.int)))
def Tf{P:Program}{w:World}{K:Za}{mg:Str->Option Value}{base:Heap}(C:Callee P w K mg base CX0 1 "_law_menu" ["_law_cell"] (UV K)):Callee P w K mg base CX0 1 "_law_menu" ["_law_cell"] (Pu.spOf mg Jl K):=Qp C fun ds R X vs H Q E r hc hQ hX=>by
 obtain⟨c,rfl,hR⟩:=hc;obtain⟨v,rfl,r1⟩:=r.one_inv;rw[r1.int_inv];exact⟨c,rfl,fun l H' nl S h hM=>hQ _ _ H' (hR hM) S (Vp nl h)⟩
def VC(m:List Int)(k:Int):Int:=1+(k*m.getD 1 0+m.getD 2 0) % 10
def JC(K:Za):Sp:=fun vs H Q _=>∃(l:Addr) (m:List Int) (k:Int),vs=[.ref l,.int k]/\SqL K H l (m.map V.int)/\Menu m/\Q (.int (VC m k)) H
def Ju(_:Za):Sp:=fun vs H Q _=>∃(l:Addr) (ps:List (Int×Int)),vs=[.ref l]/\LAt WS H l ps/\ps.length<=50/\
 ∀(q:Addr) (H':Hp),H q=none->Same H H'->H' q=some (.lst ((WJ ps).map V.int))->Q (.ref q) H'
def Ui:Pc:=fun ds R _=>∃ps:List (Int×Int),ds=[.lst (ps.map prD)]/\ps.length<=50/\R (.own ((WJ ps).map D.int))
def TX{P:Program}{w:World}{K:Za}{mg:Str->Option Value}{base:Heap}(C:Callee P w K mg base CX0 1 "_law_present" ["_law_strips_here"] (Ju K)):Callee P w K mg base CX0 1 "_law_present" ["_law_strips_here"] (Pu.spOf mg Ui K):=Qp C fun ds R X vs H Q E r hc hQ hX=>by
 obtain⟨ps,rfl,hz,hR⟩:=hc;obtain⟨v,rfl,r1⟩:=r.one_inv;obtain⟨a,rfl,ha⟩:=r1.pairs_inv;exact⟨a,ps,rfl,ha,hz,fun q H' nq S h=>hQ _ _ H' hR S (Vp nq h)⟩
def Ul(K:Za):Sp:=fun vs H Q _=>∃(l:Addr) (hs:List Int) (c:Int),vs=[.ref l,.int c]/\SqL K H l (hs.map V.int)/\hs.length<=50/\
 ∀(q:Addr) (H':Hp) (os:List Int),H q=none->Same H H'->H' q=some (.lst (os.map V.int))->os.Perm hs->Q (.ref q) H'
def Uj:Pc:=fun ds R _=>∃(hs:List Int) (c:Int),ds=[.lst (hs.map D.int),.int c]/\hs.length<=50/\∀os:List Int,os.Perm hs->R (.own (os.map D.int))
def P7{P:Program}{w:World}{K:Za}{mg:Str->Option Value}{base:Heap}(C:Callee P w K mg base CX0 1 "_law_shuffled" ["_law_holders","_law_cell"] (Ul K)):Callee P w K mg base CX0 1 "_law_shuffled" ["_law_holders","_law_cell"] (Pu.spOf mg Uj K):=Qp C fun ds R X vs H Q E r hc hQ hX=>by
 obtain⟨hs,c,rfl,hz,hR⟩:=hc;obtain⟨v,u,rfl,r1,r2⟩:=r.two_inv;obtain⟨a,rfl,ha⟩:=r1.ints_inv;rw[r2.int_inv];exact⟨a,hs,c,rfl,SqL.of ha,hz,fun q H' os nq S h hp=>hQ _ _ H' (hR os hp) S (Vp nq h)⟩
def P8:Pc:=fun ds R X=>∃(ps:List (Int×Int)) (os:List Int),ds=[plD ps,.lst (os.map D.int)]/\Field ps/\ps.length<=50/\os.length<64/\U5 (QF ps os) X (R (.sh .non))
def Qa(ns:List Int)(k:Int):Int:=if ns.getD 0 0 % 2=0 then ns.getD (1+k).toNat 0 else mix (ns.getD 1 0) k
def VV(K:Za):Sp:=fun vs H Q _=>∃(a:Addr) (ns:List Int) (k:Int),vs=[.ref a,.int k]/\SqL K H a (ns.map V.int)/\0<=k/\Q (.int (Qa ns k)) H
def Ua:Pc:=fun ds R _=>∃(ns:List Int) (k:Int),ds=[.scr ns,.int k]/\0<=k/\R (.sh (.int (Qa ns k)))
def Tx{P:Program}{w:World}{K:Za}{mg:Str->Option Value}{base:Heap}(C:Callee P w K mg base CX0 2 "_law_draw" ["_law_script","_law_k"] (VV K)):Callee P w K mg base CX0 2 "_law_draw" ["_law_script","_law_k"] (Pu.spOf mg Ua K):=Qp C fun ds R X vs H Q E r hc hQ hX=>by
 obtain⟨ns,k,rfl,hk,hR⟩:=hc;obtain⟨v,u,rfl,r1,r2⟩:=r.two_inv;obtain⟨a,rfl,hS⟩:=r1.scr_inv;rw[r2.int_inv];exact⟨a,ns,k,rfl,hS,hk,hQ _ _ H hR (Same.refl _) (.int _)⟩
def U7(K:Za):Sp:=fun vs H Q _=>∃(l l':Addr) (xs:List Int),vs=[.ref l,.ref l']/\H l=some (.lst (xs.map V.int))/\SqL K H l' (xs.map V.int)/\xs.length<=1000000/\Q (.bl true) H
def UB:Pc:=fun ds R _=>∃xs:List Int,ds=[.lst (xs.map D.int),.lst (xs.map D.int)]/\xs.length<=1000000/\R (.sh (.bl true))
def X3{P:Program}{w:World}{K:Za}{mg:Str->Option Value}{base:Heap}(C:Callee P w K mg base CX0 2 "_law_row" ["_law_found","_law_due"] (U7 K)):Callee P w K mg base CX0 2 "_law_row" ["_law_found","_law_due"] (Pu.spOf mg UB K):=Qp C fun ds R X vs H Q E r hc hQ hX=>by
 obtain⟨xs,rfl,hz,hR⟩:=hc;obtain⟨v,u,rfl,r1,r2⟩:=r.two_inv;obtain⟨a,rfl,ha⟩:=r1.ints_inv;obtain⟨l,rfl,hl⟩:=r2.ints_inv;exact⟨a,l,xs,rfl,ha,SqL.of hl,hz,hQ _ _ H hR (Same.refl _) (.bl _)⟩
def JZ(_:Za):Sp:=fun vs H Q _=>∃(l l':Addr) (ps:List (Int×Int)),vs=[.ref l,.ref l']/\LAt WS H l ps/\LAt WS H l' ps/\ps.length<=1000000/\Q (.bl true) H
def JG:Pc:=fun ds R _=>∃ps:List (Int×Int),ds=[.lst (ps.map prD),.lst (ps.map prD)]/\ps.length<=1000000/\R (.sh (.bl true))
def TQ{P:Program}{w:World}{K:Za}{mg:Str->Option Value}{base:Heap}(C:Callee P w K mg base CX0 2 "_law_tuples" ["_law_found","_law_due"] (JZ K)):Callee P w K mg base CX0 2 "_law_tuples" ["_law_found","_law_due"] (Pu.spOf mg JG K):=Qp C fun ds R X vs H Q E r hc hQ hX=>by
 obtain⟨ps,rfl,hz,hR⟩:=hc;obtain⟨v,u,rfl,r1,r2⟩:=r.two_inv;obtain⟨a,rfl,ha⟩:=r1.pairs_inv;obtain⟨l,rfl,hl⟩:=r2.pairs_inv;exact⟨a,l,ps,rfl,ha,hl,hz,hQ _ _ H hR (Same.refl _) (.bl _)⟩
def WY(ps:List (Int×Int))(os:List Int):List (Int×Int):=os.flatMap fun h=>ps.filter fun q=>decide (q.1=h)
def XT:Pc:=fun ds R X=>∃(ps:List (Int×Int)) (os:List Int),ds=[plD ps,.lst (os.map D.int)]/\Field ps/\ps.length<=50/\os.length<64/\U5 (QF ps os) X (R (.own ((WY ps os).map prD)))
def stripM(ns m:List Int)(k:Nat):Int×Int:=(VC m (Qa ns (2+(k:Int)) % m.getD 0 0),m.getD 4 0+Qa ns (2+(k:Int)) / m.getD 0 0 % m.getD 3 0)
def Qf(ns m:List Int)(n:Nat):List (Int×Int):=(List.range n).map (stripM ns m)
def U3(K:Za):Sp:=fun vs H Q _=>∃(a l:Addr) (ns m:List Int) (n:Int),vs=[.ref a,.ref l,.int n]/\SqL K H a (ns.map V.int)/\SqL K H l (m.map V.int)/\Menu m/\0<=n/\n<=1000/\
 ∀(p:Addr) (H':Hp),H p=none->Same H H'->LAt WS H' p (Qf ns m n.toNat)->Q (.ref p) H'
def NC(ns m:List Int)(k:Nat):Qf ns m (k+1)=Qf ns m k++[stripM ns m k]:=by
 unfold Qf;rw[YG,YF];rfl
def J6(ns m:List Int)(k:Nat):(Qf ns m k).length=k:=by simp[Qf]
def KC{ns m:List Int}(hM:Menu m)(k:Nat):1<=(stripM ns m k).1/\(stripM ns m k).1<=10/\1<=(stripM ns m k).2/\(stripM ns m k).2<=1000:=by
 obtain⟨a,b,c,d,e,rfl,ha,hb,hc,hd,he⟩:=hM;show 1<=1+(_*b+c) % 10/\1+(_*b+c) % 10<=10/\1<=e+_ / a % d/\e+_ / a % d<=1000;have h1:=Int.emod_nonneg (Qa ns (2+(k:Int)) / a) (show d≠0 by omega);have h2:=Int.emod_lt_of_pos (Qa ns (2+(k:Int)) / a) (show 0<d by omega);omega
def Kz{ns m:List Int}(hM:Menu m)(k:Nat):Field (Qf ns m k):=by
 intro q hq;obtain⟨j,_,rfl⟩:=Wn.mp hq;exact KC hM j
def UY:Pc:=fun ds R _=>∃(ns m:List Int) (n:Int),ds=[.scr ns,.lst (m.map D.int),.int n]/\Menu m/\0<=n/\n<=1000/\R (.own ((Qf ns m n.toNat).map prD))
def X8{P:Program}{w:World}{K:Za}{mg:Str->Option Value}{base:Heap}(C:Callee P w K mg base CX0 3 "_law_strips" ["_law_script","_law_menu_here","_law_many"] (U3 K)):Callee P w K mg base CX0 3 "_law_strips" ["_law_script","_law_menu_here","_law_many"] (Pu.spOf mg UY K):=Qp C fun ds R X vs H Q E r hc hQ hX=>by
 obtain⟨ns,m,n,rfl,hM,h0,h1,hR⟩:=hc;cases r with
 |cons r1 r=>
  obtain⟨v,u,rfl,r2,r3⟩:=r.two_inv;obtain⟨a,rfl,hS⟩:=r1.scr_inv;obtain⟨l,rfl,hl⟩:=r2.ints_inv;rw[r3.int_inv];exact⟨a,l,ns,m,n,rfl,hS,SqL.of hl,hM,h0,h1,fun p H' np S h=>hQ _ _ H' hR S (Ny np S h)⟩
variable (P:Program) (w:World) (K:Za) (mg:Str->Option Value) (base:Heap)
abbrev X6:Prop:=Callee P w K mg base CX0 1 "holders_of" ["strips"] (Pu.spOf mg Jw K)
abbrev Th:Prop:=Callee P w K mg base CX0 1 "_law_at" ["_law_script","_law_k"] (Pu.spOf mg Xb K)
abbrev XS:Prop:=Callee P w K mg base CX0 1 "_law_menu" ["_law_cell"] (Pu.spOf mg Jl K)
abbrev K8:Prop:=Callee P w K mg base CX0 1 "_law_present" ["_law_strips_here"] (Pu.spOf mg Ui K)
abbrev T8:Prop:=Callee P w K mg base CX0 1 "_law_shuffled" ["_law_holders","_law_cell"] (Pu.spOf mg Uj K)
abbrev J0:Prop:=Callee P w K mg base (ExcR.CXe P w) 2 "check_order" ["strips","order"] (Pu.spOf mg P8 K)
abbrev T5:Prop:=Callee P w K mg base CX0 2 "_law_draw" ["_law_script","_law_k"] (Pu.spOf mg Ua K)
abbrev Np:Prop:=Callee P w K mg base CX0 2 "_law_row" ["_law_found","_law_due"] (Pu.spOf mg UB K)
abbrev PO:Prop:=Callee P w K mg base CX0 2 "_law_tuples" ["_law_found","_law_due"] (Pu.spOf mg JG K)
abbrev Um:Prop:=Callee P w K mg base (ExcR.CXe P w) 3 "gathered" ["strips","order"] (Pu.spOf mg XT K)
abbrev Nf:Prop:=Callee P w K mg base CX0 3 "_law_strips" ["_law_script","_law_menu_here","_law_many"] (Pu.spOf mg UY K)
abbrev Kb(st:Stmt):Prop:=Lam.LawC P w K mg base 4 st (Pu.spOf mg JJ K)
end M
namespace M
open PySem PySem.Spec PyProof.Rows L2 Own Pu
def N8(ps:List (Int×Int))(os:List Int):(WY ps os).length<=os.length*ps.length:=by
 unfold WY
 induction os with
 |nil=>simp
 |cons h r ih=>
  rw[List.flatMap_cons,Yn,Wp,Nat.add_mul]
  have:=YZ (fun q:Int×Int=>decide (q.1=h)) ps
  omega
def Xp{ps:List (Int×Int)}{o:List Int}(hn:o.Nodup)(hin:∀q∈ps,q.1∈o){is:List Nat}(hp:is.Perm (List.range ps.length))(hs:is.Pairwise (Stb.Lz (ps.map fun q=>((o.idxOf q.1:Nat):Int)))):is.map (fun i=>ps.getD i (0,0))=WY ps o:=by
 have kz:∀i,i<ps.length->(ps.map fun q=>((o.idxOf q.1:Nat):Int)).getD i 0=((o.idxOf (ps.getD i (0,0)).1:Nat):Int):=fun i hi=>by
  rw[Zu,Zz,Zq hi,Zu,Zq hi];rfl
 have hall:(List.range ps.length).map (fun i=>ps.getD i (0,0))=ps:=by
  refine Wo (by simp) fun i h1 h2=>?_;rw[List.getElem_map,List.getElem_range,Zu,Zq h2];rfl
 have hlz:∀a,¬Stb.Lz (ps.map fun q=>((o.idxOf q.1:Nat):Int)) a a:=fun a h=>by
  rcases h with h|h
  ·omega
  ·omega
 have hpj:(o.flatMap fun h=>(List.range ps.length).filter fun i=>decide ((ps.getD i (0,0)).1=h)).Pairwise (Stb.Lz (ps.map fun q=>((o.idxOf q.1:Nat):Int))):=by
  refine List.pairwise_flatMap.mpr ⟨fun h _=>?_,?_⟩
  ·refine((YT (n:=ps.length)).filter _).imp_of_mem fun {a b} ha hb hab=>?_;obtain⟨a1,a2⟩:=Yb.mp ha;obtain⟨b1,b2⟩:=Yb.mp hb;right;rw[kz a (Yg.mp a1),kz b (Yg.mp b1),Yk a2,Yk b2];exact⟨rfl,hab⟩
  ·rw[YE];intro i j hi hj hij x hx y hy;obtain⟨a1,a2⟩:=Yb.mp hx;obtain⟨b1,b2⟩:=Yb.mp hy;left;rw[kz x (Yg.mp a1),kz y (Yg.mp b1),Yk a2,Yk b2,hn.idxOf_getElem i hi,hn.idxOf_getElem j hj];omega
 have hpm:is.Perm (o.flatMap fun h=>(List.range ps.length).filter fun i=>decide ((ps.getD i (0,0)).1=h)):=by
  refine(List.perm_ext_iff_of_nodup (hs.imp fun {a b} h=>fun e:a=b=>hlz a (by rw[←e]at h;exact h)) (hpj.imp fun {a b} h=>fun e:a=b=>hlz a (by rw[←e]at h;exact h))).mpr fun a=>?_;rw[hp.mem_iff,Yg];constructor
  ·intro h;refine List.mem_flatMap.mpr ⟨(ps.getD a (0,0)).1,hin _ ?_,Yb.mpr ⟨Yg.mpr h,ZC rfl⟩⟩;rw[Zu,Zq h];exact ZV h
  ·intro h;obtain⟨b,_,h2⟩:=List.mem_flatMap.mp h;exact Yg.mp (Yb.mp h2).1
 have e:=List.Perm.eq_of_pairwise (le:=Stb.Lz (ps.map fun q=>((o.idxOf q.1:Nat):Int))) (fun a b _ _ h1 h2=>by
  unfold Stb.Lz at h1 h2;omega) hs hpj hpm
 rw[e,List.map_flatMap];unfold WY;congr 1;funext h
 conv=>rhs;rw[←hall,List.filter_map]
 rfl
end M
namespace T
open PySem PySem.Spec PyProof.Rows L2 Own M
section
variable {P:Program}{w:World}{K:Za}{mg:Str->Option Value}{base:Heap}
def Tt(G:Glob K mg)(D:Def K mg "holders_of" V6 ["strips"])
  : Callee P w K mg base CX0 1 "holders_of" ["strips"] (Jn K):=by
 refine D.ok (k:=0) P5 (fun vs H Q E h=>?_) (fun f cdv A outer s H vs Q E hr h=>?_)
 ·obtain⟨l,ps,rfl,⟨vs,hl,hv⟩,hF,hz,q⟩:=h;rfl
 ·obtain⟨l,ps,rfl,⟨vs,hl,hv⟩,hF,hz,q⟩:=h;refine⟨_,(WD (WL (WO (Ue rfl) (by rfl) G.sorted boot_sorted (W4 (Vr (Ku rfl) (by rfl) G.set boot_set (W4 (Vu (N':=["holder","width"]) (φ:=[none,none]) rfl (Own.CompOk.of (by rfl)) (V8 (pv 0)) (fun _ _ _ _ _=>⟨(Ni (K:=K) (n:=2) rfl (Jt (Ql (i:=0) (show(["holder","width"]:List Str).Nodup from by decide +kernel) rfl (by first|exact Or.inl rfl|exact Or.inr rfl)) (Jt (Ql (i:=1) (show(["holder","width"]:List Str).Nodup from by decide +kernel) rfl (by first|exact Or.inl rfl|exact Or.inr rfl)) KZ))),Us,(pv 0)⟩)) W6)) W6)))),?_⟩
  have e1:=hv.1;refine⟨_,rfl,l,rfl,⟨_,SqL.of hl⟩,fun D nD=>U8 (ds:=ps) (fun d=>some (V.int d.1)) (SqL.of hl) e1 nD (Z8 hz (by decide)) (fun i x d H2 hx hd S k hk=>?_) ?_⟩
  ·obtain⟨d',hd',a,rfl,ha⟩:=hv.get hx;rw[hd]at hd';cases hd'
   exact⟨a,_,rfl,SqT.of (S _ _ ha),rfl,_,_,rfl,_,_,rfl,rfl,.skip (.skip .refl),_,rfl,hk⟩
  ·have em:ps.filterMap (fun d=>some (V.int d.1))=(ps.map (·.1)).map V.int:=by
    rw[List.filterMap_eq_map',Wr];rfl
   rw[em];have S1:Same H (upd H D (.lst ((ps.map (·.1)).map V.int))):=WU nD;refine⟨D,ps.map (·.1),rfl,SqL.of WC,by rw[Zs];omega,fun s1 n1=>?_⟩;have S2:=Own.Same.new (o:=SetH w s1 ((ps.map (·.1)).foldl SetR.addJ [])) S1 n1;refine⟨s1,_,rfl,?_,.inr WC,fun r ns n2 hp hs=>?_⟩
   ·have:=J3 (ps.map (·.1)) []
    rw[Zs]at this;simp at this ⊢;omega
   ·rw[XB hF hp hs];exact q r _ (S2.free n2) (Own.Same.new S2 n2) WC
def Nv(G:Glob K mg)(D:Def K mg "_law_at" Jh ["_law_script","_law_k"])
  : Callee P w K mg base CX0 1 "_law_at" ["_law_script","_law_k"] (VZ K):=by
 refine D.ok (k:=0) Nb (fun vs H Q E h=>?_) (fun f cdv A outer s H vs Q E hr h=>?_)
 ·obtain⟨a,ns,k,rfl,hS,hk,q⟩:=h;rfl
 ·obtain⟨a,ns,k,rfl,hS,hk,q⟩:=h
  refine⟨_,(WI (Qo (Qc NM (pv 1) (WO WZ (by rfl) G.len ZS (W4 (pv 0) W6)) (Qk _))
   (WD (WL (WG WH (pv 0) (pv 1) (fun _ _=>rfl))))
   Qr)
   (WD (WL W5))),?_⟩
  refine⟨_,rfl,_,rfl,_,_,rfl,.inl ⟨_,hS,rfl⟩,_,_,rfl,rfl,_,rfl,?_⟩;refine ite2 (fun h=>?_) (fun h=>?_)
  ·have h':k<((ns.map V.int).length:Int):=Yk h;rw[Zs]at h';have hn:k.toNat<ns.length:=by omega
   refine⟨_,rfl,_,rfl,.inl ⟨_,_,_,.int (ns.getD k.toNat 0),rfl,rfl,hS,Vs hk ?_,q⟩⟩;rw[Zz,Zu,Zq hn];rfl
  ·have h':¬k<((ns.map V.int).length:Int):=fun z=>h (ZC z);rw[Zs]at h'
   have e:ns.getD k.toNat 0=0:=by
    rw[Zu,List.getElem?_eq_none_iff.mpr (by omega)];rfl
   rw[e]at q;exact q
def Nu(G:Glob K mg)(D:Def K mg "_law_whole" VF ["_law_found"])
  : Callee P w K mg base CX0 1 "_law_whole" ["_law_found"] (VS K):=by
 refine D.ok (k:=0) TZ (fun vs H Q E h=>?_) (fun f cdv A outer s H vs Q E hr h=>?_)
 ·obtain⟨i,rfl,q⟩:=h;rfl
 ·obtain⟨i,rfl,q⟩:=h;refine⟨_,(WD (WL (Tp (WO QV (by rfl) G.isinstance YH (W4 (pv 0) (W4 (QT (v:=.ty "int") rfl G.int boot_int rfl) W6))) (NO (Ph (WO QV (by rfl) G.isinstance YH (W4 (pv 0) (W4 (QT (v:=.ty "bool") rfl G.bool boot_bool rfl) W6)))))))),?_⟩;refine⟨_,rfl,_,_,_,_,rfl,.int _,Vl _ _,_,rfl,iteT ?_⟩;exact⟨_,rfl,_,_,_,_,rfl,.int _,NU _,_,rfl,q⟩
def NL(G:Glob K mg)(D:Def K mg "_law_mix" VX ["_law_cell","_law_place"])
  : Callee P w K mg base CX0 1 "_law_mix" ["_law_cell","_law_place"] (JX K):=by
 refine D.ok (k:=0) JP (fun vs H Q E h=>?_) (fun f cdv A outer s H vs Q E hr h=>?_)
 ·obtain⟨c,p,rfl,q⟩:=h;rfl
 ·obtain⟨c,p,rfl,q⟩:=h
  refine⟨_,(WI (Pu.pz 2 JP.nd (W9 WV (W9 Vc (W9 Qj (W9 Qj (W9 WV (pv 0) W5) (W9 Vc W5 (pv 1))) W5) W5) W5))
   (WD (WL (W9 WV (W9 Vc (W9 Qj (W9 Qj (pv 2) (W9 Vc W5 (pv 1))) W5) W5) W5)))),?_⟩
  refine⟨_,rfl,_,_,rfl,rfl,(by show(0:Int)<2147483647;decide),_,rfl,_,_,rfl,rfl,.inl ⟨by decide,by decide⟩,_,_,rfl,rfl,_,_,rfl,rfl,_,_,rfl,rfl,.inr ⟨by decide,by decide⟩,_,_,rfl,rfl,(by show(0:Int)<2147483647;decide),?_⟩;refine⟨_,rfl,_,rfl,_,_,rfl,rfl,.inl ⟨by decide,by decide⟩,_,_,rfl,rfl,_,_,rfl,rfl,_,_,rfl,rfl,.inr ⟨by decide,by decide⟩,_,_,rfl,rfl,(by show(0:Int)<2147483647;decide),?_⟩;exact q
def NN(G:Glob K mg)(D:Def K mg "_law_menu" V5 ["_law_cell"])
  : Callee P w K mg base CX0 1 "_law_menu" ["_law_cell"] (UV K):=by
 refine D.ok (k:=0) VL (fun vs H Q E h=>?_) (fun f cdv A outer s H vs Q E hr h=>?_)
 ·obtain⟨c,rfl,q⟩:=h;rfl
 ·obtain⟨c,rfl,q⟩:=h
  refine⟨_,(WI (Pu.pz 1 VL.nd (WG WH (Qx (W4 W5 (W4 W5 (W4 W5 (W4 W5 (W4 W5 W6)))))) (W9 WV (W9 Q5 (pv 0) W5) W5) (fun _ _=>rfl)))
   (WI (Pu.pz 2 VL.nd (WG WH (Qx (W4 W5 (W4 W5 (W4 W5 (W4 W5 (W4 W5 W6)))))) (W9 WV (W9 Q5 (pv 0) W5) W5) (fun _ _=>rfl)))
   (WD (WL (Qx (W4 (W9 Qj W5 (W9 WV (pv 0) W5)) (W4 (WG WH (Qx (W4 W5 (W4 W5 (W4 W5 (W4 W5 W6))))) (W9 WV (W9 Q5 (pv 0) W5) W5) (fun _ _=>rfl)) (W4 (W9 WV (W9 Q5 (pv 0) W5) W5) (W4 (pv 1) (W4 (pv 2) W6)))))))))),?_⟩
  have h1:0<=c / 10 % 4/\c / 10 % 4<4:=by omega
  have h2:0<=c / 400 % 5/\c / 400 % 5<5:=by omega
  refine⟨by decide,fun l1 n1=>⟨_,rfl,_,_,rfl,rfl,⟨by decide,by decide⟩,_,_,rfl,rfl,(by show(0:Int)<5;decide),.inl ⟨_,_,_,_,rfl,rfl,SqL.of WC,V9 (xs:=[1000,3,1,2,3]) h2.1 h2.2,?_⟩⟩⟩;refine⟨by decide,fun l2 n2=>⟨_,rfl,_,_,rfl,rfl,⟨by decide,by decide⟩,_,_,rfl,rfl,(by show(0:Int)<5;decide),.inl ⟨_,_,_,_,rfl,rfl,SqL.of WC,V9 (xs:=[1,1,1,1,998]) h2.1 h2.2,?_⟩⟩⟩;refine⟨_,rfl,_,_,rfl,rfl,(by show(0:Int)<10;decide),_,_,rfl,rfl,by decide,fun l3 n3=>⟨_,rfl,_,_,rfl,rfl,⟨by decide,by decide⟩,_,_,rfl,rfl,(by show(0:Int)<4;decide),.inl ⟨_,_,_,_,rfl,rfl,SqL.of WC,V9 (xs:=[1,3,7,9]) h1.1 h1.2,?_⟩⟩⟩;refine⟨_,rfl,_,_,rfl,rfl,⟨by decide,by decide⟩,_,_,rfl,rfl,(by show(0:Int)<10;decide),_,rfl,_,rfl,(by show 5<=sizeLine;decide),fun l4 n4=>?_⟩;have S1:Same H (upd H l1 (.lst ([1000,3,1,2,3].map V.int))):=WU n1;have S2:=Own.Same.new (o:=.lst ([1,1,1,1,998].map V.int)) S1 n2;have S3:=Own.Same.new (o:=.lst ([1,3,7,9].map V.int)) S2 n3;have S4:=Own.Same.new (o:=.lst ((Q4 c).map V.int)) S3 n4;exact q l4 _ (S3.free n4) S4 WC (PK c)
def X2(G:Glob K mg)(D:Def K mg "_law_holder" VT ["_law_menu_here","_law_k"])
  : Callee P w K mg base CX0 1 "_law_holder" ["_law_menu_here","_law_k"] (JC K):=by
 refine D.ok (k:=0) KN (fun vs H Q E h=>?_) (fun f cdv A outer s H vs Q E hr h=>?_)
 ·obtain⟨l,m,k,rfl,hS,hM,q⟩:=h;rfl
 ·obtain⟨l,m,k,rfl,hS,hM,q⟩:=h;refine⟨_,(WD (WL (W9 Qj W5 (W9 WV (W9 Qj (W9 Vc (pv 1) (WG WH (pv 0) W5 (fun _ _=>rfl))) (WG WH (pv 0) W5 (fun _ _=>rfl))) W5)))),?_⟩;obtain⟨a,b,c,d,e,rfl,ha,hb,hc,hd,he⟩:=hM;refine⟨_,rfl,_,rfl,.inl ⟨_,_,_,_,rfl,rfl,hS,rfl,?_⟩⟩;refine⟨_,_,rfl,rfl,.inr ⟨by omega,by omega⟩,_,rfl,.inl ⟨_,_,_,_,rfl,rfl,hS,rfl,?_⟩⟩;exact⟨_,_,rfl,rfl,_,_,rfl,rfl,(by show(0:Int)<10;decide),_,_,rfl,rfl,q⟩
def N7(G:Glob K mg)(D:Def K mg "_law_present" Jg ["_law_strips_here"])
  : Callee P w K mg base CX0 1 "_law_present" ["_law_strips_here"] (Ju K):=by
 refine D.ok (k:=0) Xl (fun vs H Q E h=>?_) (fun f cdv A outer s H vs Q E hr h=>?_)
 ·obtain⟨l,ps,rfl,⟨vs,hl,hv⟩,hz,q⟩:=h;rfl
 ·obtain⟨l,ps,rfl,⟨vs,hl,hv⟩,hz,q⟩:=h
  refine⟨_,(WI (Pu.pz 1 Xl.nd (Vu (N':=["_law_strip"]) (φ:=[none]) rfl (Own.CompOk.of (by rfl)) (V8 (pv 0)) (fun _ _ _ _ _=>⟨(Ql (i:=0) (show(["_law_strip"]:List Str).Nodup from by decide +kernel) rfl (by first|exact Or.inl rfl|exact Or.inr rfl)),Us,(WG (Xc (K:=K)) (pv 0) W5 (fun _ _=>rfl))⟩)))
   (WD (WL (Vu (N':=["_law_holder_here","_law_owners"]) (φ:=[none,some 1]) rfl (Own.CompOk.of (by rfl)) (TH rfl G.range (W4 W5 (W4 W5 W6))) (fun _ _ _ _ _=>⟨(Ql (i:=0) (show(["_law_holder_here","_law_owners"]:List Str).Nodup from by decide +kernel) rfl (by first|exact Or.inl rfl|exact Or.inr rfl)),(JS (Qc (P2 (K:=K)) (pv 0) (pv 1) (by with_unfolding_all rfl))),(pv 0)⟩))))),?_⟩
  have e1:=hv.1;refine⟨_,rfl,l,rfl,⟨_,SqL.of hl⟩,fun D nD=>U8 (ds:=ps) (fun d=>some (V.int d.1)) (SqL.of hl) e1 nD (Z8 hz (by decide)) (fun i x d H2 hx hd S k hk=>?_) ?_⟩
  ·obtain⟨d',hd',a,rfl,ha⟩:=hv.get hx;rw[hd]at hd';cases hd'
   exact⟨.skip .refl,_,rfl,.inr ⟨_,_,_,_,rfl,rfl,SqT.of (S _ _ ha),rfl,hk⟩⟩
  ·have em:ps.filterMap (fun d=>some (V.int d.1))=(ps.map (·.1)).map V.int:=by
    rw[List.filterMap_eq_map',Wr];rfl
   rw[em];have S1:Same H (upd H D (.lst ((ps.map (·.1)).map V.int))):=WU nD;have hD:(upd H D (.lst ((ps.map (·.1)).map V.int))) D=some (.lst ((ps.map (·.1)).map V.int)):=WC;generalize upd H D (.lst ((ps.map (·.1)).map V.int))=H1 at S1 hD ⊢;refine⟨1,11,rfl,by decide,fun D2 nD2=>Kt (fun i=>if decide ((1:Int)+(i:Int)∈ps.map (·.1))=true then some (V.int (1+(i:Int)))else none) nD2 (by decide) (fun i H2 hi S2 k hk=>?_) ?_⟩
   ·refine⟨.skip (.keep .refl),_,rfl,_,rfl,D,_,rfl,.inl (SqL.of (S2 _ _ hD)),rfl,Q6 _,_,rfl,?_⟩;show if inV (V.int (1+(i:Int))) ((ps.map (·.1)).map V.int)=true then _ else _;rw[NR];by_cases h:(1:Int)+(i:Int)∈ps.map (·.1)
    ·rw[ZC h]at hk ⊢;exact iteT ⟨_,rfl,hk⟩
    ·rw[Z9 h]at hk ⊢;exact iteF hk
   ·have e10:((11:Int)-1).toNat=10:=rfl;rw[e10,TY];exact q D2 _ (S1.free nD2) (Own.Same.new S1 nD2) WC
def P9(G:Glob K mg)(D:Def K mg "_law_shuffled" VM ["_law_holders","_law_cell"])
  : Callee P w K mg base CX0 1 "_law_shuffled" ["_law_holders","_law_cell"] (Ul K):=by
 refine D.ok (k:=0) QW (fun vs H Q E h=>?_) (fun f cdv A outer s H vs Q E hr h=>?_)
 ·obtain⟨l,hs,c,rfl,hl,hz,q⟩:=h;rfl
 ·obtain⟨l,hs,c,rfl,hl,hz,q⟩:=h
  refine⟨_,(WI (Pu.pz 2 QW.nd (Vr Uy (by rfl) G.list boot_list (W4 (pv 0) W6)))
   (WI (Pu.pz 3 QW.nd (Qx W6))
   (WI (Pu.pz 4 QW.nd (pv 1))
   (WI (K6 YI (Qc (Jj hr.units0) (pv 2) (Qx W6) (Qk _))
   (WI (QU (QS Yl PySem.F.slot_list_append PySem.F.type_list_append V4 (pv 3) (W4 (WG WH (pv 2) (W9 WV (pv 4) (WO WZ (by rfl) G.len ZS (W4 (pv 2) W6))) (fun _ _=>rfl)) W6)))
   (WI (Pu.pz 4 QW.nd (W9 Q5 (pv 4) (WO WZ (by rfl) G.len ZS (W4 (pv 2) W6))))
   (WD (QU (QS Yl PySem.F.slot_list_remove PySem.F.type_list_remove Nm (pv 2) (W4 (WG WH (pv 3) (XD Nh W5) (fun _ _=>rfl)) W6)))))))
   (WD (WL (pv 3))))))),?_⟩
  refine⟨_,rfl,_,_,rfl,.inl hl,fun L nL=>⟨by decide,fun O nO=>⟨_,rfl,?_⟩⟩⟩;have S1:=WU (o:=.lst (hs.map V.int)) nL;have S2:=Own.Same.new (o:=.lst []) S1 nO;have nLO:L≠O:=fun z=>by rw[←z,WC]at nO;cases nO
  have nO0:=S1.free nO;refine⟨fun m σ H2=>∃(xs os:List Int) (c':Int),m=xs.length/\σ=[some (.ref l),some (.int c),some (.ref L),some (.ref O),some (.int c')]/\H2 L=some (.lst (xs.map V.int))/\H2 O=some (.lst (os.map V.int))/\(os++xs).Perm hs/\Same H H2,⟨hs.length,hs,[],c,rfl,rfl,by rw[W7 nLO,WC],WC,List.Perm.refl _,S2⟩,?_⟩;rintro m σ H2 ⟨xs,os,c',rfl,rfl,hL,hO,hp,S⟩;refine⟨_,rfl,by decide,fun e ne=>⟨L,e,_,_,rfl,rfl,SqL.of (by rw[W7 (WK hL ne)];exact hL),SqL.of WC,Q6 xs,Q6 [],_,rfl,?_⟩⟩;show if (!eqL (xs.map V.int) (([]:List Int).map V.int))=true then _ else _;rw[VB];have S3:=Own.Same.new (o:=.lst []) S ne;have hL3:(upd H2 e (.lst [])) L=some (.lst (xs.map V.int)):=by rw[W7 (WK hL ne)];exact hL
  have hO3:(upd H2 e (.lst [])) O=some (.lst (os.map V.int)):=by rw[W7 (WK hO ne)];exact hO
  generalize upd H2 e (.lst [])=H3 at S3 hL3 hO3;have hlen:=hp.length_eq;rw[Yn]at hlen;by_cases hx:xs=[]
  ·rw[ZC hx];subst hx;refine iteF ⟨_,rfl,q O H3 os nO0 S3 hO3 ?_⟩;simpa using hp
  ·rw[Z9 hx];have hpos:0<xs.length:=List.length_pos_iff.mpr hx;refine iteT ⟨fun σ' H'=>∃m',m'<xs.length/\∃(xs' os':List Int) (c':Int),m'=xs'.length/\σ'=[some (.ref l),some (.int c),some (.ref L),some (.ref O),some (.int c')]/\H' L=some (.lst (xs'.map V.int))/\H' O=some (.lst (os'.map V.int))/\(os'++xs').Perm hs/\Same H H',fun σ' H' z=>z,?_⟩;have hi1:=Int.emod_nonneg c' (show(xs.length:Int)≠0 by omega);have hi2:=Int.emod_lt_of_pos c' (show(0:Int)<xs.length by omega);have hk:(c' % (xs.length:Int)).toNat<xs.length:=by omega
   have ai:atI (xs.map V.int) (c' % (xs.length:Int))=some (.int xs[(c' % (xs.length:Int)).toNat]):=Vw (Vs hi1 (Zq hk));generalize hz0:xs[(c' % (xs.length:Int)).toNat]=z at ai;have hzx:z∈xs:=by rw[←hz0];exact ZV hk
   refine⟨_,rfl,.inl ⟨rfl,_,SqL.of hO3⟩,_,rfl,_,rfl,_,rfl,_,_,rfl,.inl ⟨_,SqL.of hL3,rfl⟩,_,_,rfl,rfl,(by show(0:Int)<_;rw[Zs];omega),.inl ⟨L,xs.map V.int,c' % ((xs.map V.int).length:Int),.int z,rfl,rfl,SqL.of hL3,by rw[Zs];exact ai,O,_,_,rfl,rfl,hO3,VQ (by rw[Zs];omega),?_⟩⟩;have hO4:(upd H3 O (.lst (os.map V.int++[.int z]))) O=some (.lst ((os++[z]).map V.int)):=by rw[WC,YF];rfl
   have hL4:(upd H3 O (.lst (os.map V.int++[.int z]))) L=some (.lst (xs.map V.int)):=by rw[W7 nLO];exact hL3
   have S4:Same H (upd H3 O (.lst (os.map V.int++[.int z]))):=fun b o e'=>by rw[W7 (WK e' nO0)];exact S3 b o e'
   generalize upd H3 O (.lst (os.map V.int++[.int z]))=H4 at S4 hL4 hO4;refine⟨_,rfl,_,rfl,_,_,rfl,.inl ⟨_,SqL.of hL4,rfl⟩,_,_,rfl,rfl,⟨by rw[Zs];omega,by rw[Zs];omega⟩,?_⟩;have al:atI ((os++[z]).map V.int) (-1)=some (.int z):=by rw[YF];exact NK _ _
   refine⟨_,rfl,.inl ⟨rfl,_,SqL.of hL4⟩,_,rfl,_,rfl,.inl ⟨O,_,_,_,rfl,rfl,SqL.of hO4,al,L,xs,z,rfl,rfl,hL4,hzx,?_⟩⟩;have hj:xs.idxOf z<xs.length:=YN.mpr hzx;have e1:(xs.eraseIdx (xs.idxOf z)).length<xs.length:=by rw[YA hj];omega
   refine⟨_,e1,xs.eraseIdx (xs.idxOf z),os++[z],_,rfl,rfl,WC,by rw[W7 nLO.symm];exact hO4,?_,fun b o e'=>by rw[W7 (WK e' nL)];exact S4 b o e'⟩;have pe:=SetR.Vg xs (xs.idxOf z) hj;have ez:xs[xs.idxOf z]=z:=Wi hj;rw[ez]at pe;rw[List.append_assoc];exact(pe.append_left os).trans hp
def NZ(G:Glob K mg)(D:Def K mg "_law_draw" VD ["_law_script","_law_k"])(Zf:Callee P w K mg base CX0 1 "_law_mix" ["_law_cell","_law_place"] (JX K))(Zb:Callee P w K mg base CX0 1 "_law_at" ["_law_script","_law_k"] (VZ K))
  : Callee P w K mg base CX0 2 "_law_draw" ["_law_script","_law_k"] (VV K):=by
 refine D.ok (k:=1) K4 (fun vs H Q E h=>?_) (fun f cdv A outer s H vs Q E hr h=>?_)
 ·obtain⟨a,ns,k,rfl,hS,hk,q⟩:=h;rfl
 ·obtain⟨a,ns,k,rfl,hS,hk,q⟩:=h
  refine⟨_,(WI (Qo (Qc op_eq (W9 WV (Qd Zb (hr.mono (by decide)) Qh (W4 (pv 0) (W4 W5 W6))) W5) W5 (Qk _))
   (WD (WL (Qd Zb (hr.mono (by decide)) Qh (W4 (pv 0) (W4 (W9 Qj W5 (pv 1)) W6)))))
   Qr)
   (WD (WL (Qd Zf (hr.mono (by decide)) Qh (W4 (Qd Zb (hr.mono (by decide)) Qh (W4 (pv 0) (W4 W5 W6))) (W4 (pv 1) W6)))))),?_⟩
  refine⟨_,rfl,a,ns,0,rfl,hS,by decide,_,_,rfl,rfl,(by show(0:Int)<2;decide),rfl,_,rfl,?_⟩;refine ite2 (fun h=>?_) (fun h=>?_)
  ·have e:ns.getD 0 0 % 2=0:=V.int.inj (Yk h);unfold Qa at q;rw[Z0 e]at q;exact⟨_,rfl,_,rfl,_,_,rfl,rfl,a,ns,_,rfl,hS,by omega,q⟩
  ·have e:¬ns.getD 0 0 % 2=0:=fun z=>h (ZC (ZN V.int z));unfold Qa at q;rw[Z2 e]at q;exact⟨_,rfl,a,ns,1,rfl,hS,by decide,_,rfl,_,_,rfl,q⟩
def PV(G:Glob K mg)(D:Def K mg "_law_row" VR ["_law_found","_law_due"])(Zd:Callee P w K mg base CX0 1 "_law_whole" ["_law_found"] (VS K))
  : Callee P w K mg base CX0 2 "_law_row" ["_law_found","_law_due"] (U7 K):=by
 refine D.ok (k:=1) JR (fun vs H Q E h=>?_) (fun f cdv A outer s H vs Q E hr h=>?_)
 ·obtain⟨l,l',xs,rfl,hl,hl',hz,q⟩:=h;rfl
 ·obtain⟨l,l',xs,rfl,hl,hl',hz,q⟩:=h
  refine⟨_,(WI (Qo (PW.pt (QH (Q7 (Va (WO QV (by rfl) G.isinstance YH (W4 (pv 0) (W4 (QT (v:=.ty "list") rfl G.list boot_list rfl) W6))))) (QI (Qc op_ne (WO WZ (by rfl) G.len ZS (W4 (pv 0) W6)) (WO WZ (by rfl) G.len ZS (W4 (pv 1) W6)) (Qk _)))))
   (WD (WL Qz))
   Qr)
   (WI (Vb YI rfl (Vn rfl G.range (W4 (WO WZ (by rfl) G.len ZS (W4 (pv 1) W6)) W6)) (Ql (i:=2) JR.nd rfl (by first|exact Or.inl rfl|exact Or.inr rfl))
   (WD (Qo (PW.pt (QH (Q7 (Va (Qd Zd (hr.mono (by decide)) Qh (W4 (WG WH (pv 0) (pv 2) (fun _ _=>rfl)) W6)))) (QI (Qc op_ne (WG WH (pv 0) (pv 2) (fun _ _=>rfl)) (WG WH (pv 1) (pv 2) (fun _ _=>rfl)) (Qk _)))))
   (WD (WL Qz))
   Qr)))
   (WD (WL Qz)))),?_⟩
  refine⟨_,rfl,_,_,_,_,rfl,.lst hl,Vl _ _,_,rfl,iteF ⟨_,rfl,_,_,rfl,.inl ⟨_,SqL.of hl,rfl⟩,_,rfl,_,_,rfl,.inl ⟨_,hl',rfl⟩,rfl,_,rfl,QX rfl ?_⟩⟩;refine⟨_,rfl,_,_,rfl,.inl ⟨_,hl',rfl⟩,_,rfl,by rw[Zs];omega,by rw[Zs];omega,Vt (fun i σ H2=>H=H2/\∃(x:Option V),σ=[some (.ref l),some (.ref l'),x]) ⟨rfl,none,rfl⟩ ?_ ?_⟩
  ·rintro i σ H2 hi ⟨rfl,x,rfl⟩;rw[Zs,ZK]at hi;have ez:(0:Int)+(i:Int)=(i:Int):=by omega
   have av:atI (xs.map V.int) (0+(i:Int))=some (.int xs[i]):=by rw[ez];exact Vw (V1 (by simp[hi]))
   refine⟨_,rfl,_,rfl,.inl ⟨_,_,_,_,rfl,rfl,SqL.of hl,av,_,rfl,_,rfl,iteF ⟨_,rfl,_,rfl,.inl ⟨_,_,_,_,rfl,rfl,SqL.of hl,av,_,rfl,_,rfl,.inl ⟨_,_,_,_,rfl,rfl,hl',av,rfl,_,rfl,QX rfl ?_⟩⟩⟩⟩⟩;exact⟨rfl,_,rfl⟩
  ·rintro σ H2 ⟨rfl,x,rfl⟩;exact q
def X1(G:Glob K mg)(D:Def K mg "_law_tuples" VN ["_law_found","_law_due"])(Zd:Callee P w K mg base CX0 1 "_law_whole" ["_law_found"] (VS K))
  : Callee P w K mg base CX0 2 "_law_tuples" ["_law_found","_law_due"] (JZ K):=by
 refine D.ok (k:=1) VE (fun vs H Q E h=>?_) (fun f cdv A outer s H vs Q E hr h=>?_)
 ·obtain⟨l,l',ps,rfl,⟨vs,hl,hv⟩,⟨us,hl',hu⟩,hz,q⟩:=h;rfl
 ·obtain⟨l,l',ps,rfl,⟨vs,hl,hv⟩,⟨us,hl',hu⟩,hz,q⟩:=h
  refine⟨_,(WI (Qo (PW.pt (QH (Q7 (Va (WO QV (by rfl) G.isinstance YH (W4 (pv 0) (W4 (QT (v:=.ty "list") rfl G.list boot_list rfl) W6))))) (QI (Qc op_ne (WO WZ (by rfl) G.len ZS (W4 (pv 0) W6)) (WO WZ (by rfl) G.len ZS (W4 (pv 1) W6)) (Qk _)))))
   (WD (WL Qz))
   Qr)
   (WI (Vb YI rfl (Vn rfl G.range (W4 (WO WZ (by rfl) G.len ZS (W4 (pv 1) W6)) W6)) (Ql (i:=2) VE.nd rfl (by first|exact Or.inl rfl|exact Or.inr rfl))
   (WI (Qo (PW.pt (QH (Q7 (Va (WO QV (by rfl) G.isinstance YH (W4 (WG WH (pv 0) (pv 2) (fun _ _=>rfl)) (W4 (QT (v:=.ty "tuple") rfl G.tuple boot_tuple rfl) W6))))) (QI (Qc op_ne (WO WZ (by rfl) G.len ZS (W4 (WG WH (pv 0) (pv 2) (fun _ _=>rfl)) W6)) (WO WZ (by rfl) G.len ZS (W4 (WG WH (pv 1) (pv 2) (fun _ _=>rfl)) W6)) (Qk _)))))
   (WD (WL Qz))
   Qr)
   (WD (Vb YI rfl (Vn rfl G.range (W4 (WO WZ (by rfl) G.len ZS (W4 (WG WH (pv 1) (pv 2) (fun _ _=>rfl)) W6)) W6)) (Ql (i:=3) VE.nd rfl (by first|exact Or.inl rfl|exact Or.inr rfl))
   (WD (Qo (PW.pt (QH (Q7 (Va (Qd Zd (hr.mono (by decide)) Qh (W4 (WG WH (WG WH (pv 0) (pv 2) (fun _ _=>rfl)) (pv 3) (fun _ _=>rfl)) W6)))) (QI (Qc op_ne (WG WH (WG WH (pv 0) (pv 2) (fun _ _=>rfl)) (pv 3) (fun _ _=>rfl)) (WG WH (WG WH (pv 1) (pv 2) (fun _ _=>rfl)) (pv 3) (fun _ _=>rfl)) (Qk _)))))
   (WD (WL Qz))
   Qr))))))
   (WD (WL Qz)))),?_⟩
  have e1:=hv.1;have e2:=hu.1;refine⟨_,rfl,_,_,_,_,rfl,.lst hl,Vl _ _,_,rfl,iteF ⟨_,rfl,_,_,rfl,.inl ⟨_,SqL.of hl,rfl⟩,_,rfl,_,_,rfl,.inl ⟨_,SqL.of hl',rfl⟩,rfl,_,rfl,QX (by rw[e1,e2]) ?_⟩⟩;refine⟨_,rfl,_,_,rfl,.inl ⟨_,SqL.of hl',rfl⟩,_,rfl,by omega,by omega,Vt (fun i σ H2=>H=H2/\∃(x y:Option V),σ=[some (.ref l),some (.ref l'),x,y]) ⟨rfl,none,none,rfl⟩ ?_ ?_⟩
  ·rintro i σ H2 hi ⟨rfl,x,y,rfl⟩;have hi':i<ps.length:=by omega
   obtain⟨v,ev,a,rfl,ha⟩:=hv.2 i ps[i] (by simp[hi']);obtain⟨u,eu,b,rfl,hb⟩:=hu.2 i ps[i] (by simp[hi']);have ez:(0:Int)+(i:Int)=(i:Int):=by omega
   have av:atI vs (0+(i:Int))=some (.ref a):=by rw[ez];exact V1 ev
   have au:atI us (0+(i:Int))=some (.ref b):=by rw[ez];exact V1 eu
   refine⟨_,rfl,_,rfl,.inl ⟨_,_,_,_,rfl,rfl,SqL.of hl,av,_,_,_,_,rfl,.tup ha,Vl _ _,_,rfl,iteF ?_⟩⟩;refine⟨_,rfl,_,rfl,.inl ⟨_,_,_,_,rfl,rfl,SqL.of hl,av,_,_,rfl,.inr ⟨_,SqT.of ha,rfl⟩,_,rfl,_,rfl,.inl ⟨_,_,_,_,rfl,rfl,SqL.of hl',au,_,_,rfl,.inr ⟨_,SqT.of hb,rfl⟩,rfl,_,rfl,QX rfl ?_⟩⟩⟩;refine⟨_,rfl,_,rfl,.inl ⟨_,_,_,_,rfl,rfl,SqL.of hl',au,_,_,rfl,.inr ⟨_,SqT.of hb,rfl⟩,_,rfl,(by show -(2 ^ 62)<=(2:Int);decide),(by show(2:Int)<2 ^ 62;decide),Vt (fun j σ H2=>H=H2/\∃(y:Option V),σ=[some (.ref l),some (.ref l'),some (.int (0+(i:Int))),y]) ⟨rfl,_,rfl⟩ ?_ ?_⟩⟩
   ·rintro j σ H2 hj ⟨rfl,y,rfl⟩;have hj2:j<2:=hj
    obtain⟨z,ea⟩:∃z:Int,atI [V.int ps[i].1,V.int ps[i].2] (0+(j:Int))=some (.int z):=by
     have:j=0\/j=1:=by omega
     rcases this with rfl|rfl
     ·exact⟨_,rfl⟩
     ·exact⟨_,rfl⟩
    refine⟨_,rfl,_,rfl,.inl ⟨_,_,_,_,rfl,rfl,SqL.of hl,av,_,rfl,.inr ⟨_,_,_,_,rfl,rfl,SqT.of ha,ea,z,rfl,_,rfl,iteF ?_⟩⟩⟩;refine⟨_,rfl,_,rfl,.inl ⟨_,_,_,_,rfl,rfl,SqL.of hl,av,_,rfl,.inr ⟨_,_,_,_,rfl,rfl,SqT.of ha,ea,_,rfl,_,rfl,.inl ⟨_,_,_,_,rfl,rfl,SqL.of hl',au,_,rfl,.inr ⟨_,_,_,_,rfl,rfl,SqT.of hb,ea,rfl,_,rfl,QX rfl ?_⟩⟩⟩⟩⟩;exact⟨rfl,_,rfl⟩
   ·rintro σ H2 ⟨rfl,y,rfl⟩;exact⟨rfl,_,_,rfl⟩
  ·rintro σ H2 ⟨rfl,x,y,rfl⟩;exact q
def N0(G:Glob K mg)(D:Def K mg "_law_strips" VG ["_law_script","_law_menu_here","_law_many"])(Zc:Callee P w K mg base CX0 2 "_law_draw" ["_law_script","_law_k"] (VV K))(Zg:Callee P w K mg base CX0 1 "_law_holder" ["_law_menu_here","_law_k"] (JC K))
  : Callee P w K mg base CX0 3 "_law_strips" ["_law_script","_law_menu_here","_law_many"] (U3 K):=by
 refine D.ok (k:=2) QZ (fun vs H Q E h=>?_) (fun f cdv A outer s H vs Q E hr h=>?_)
 ·obtain⟨a,l,ns,m,n,rfl,hA,hL,hM,h0,h1,q⟩:=h;rfl
 ·obtain⟨a,l,ns,m,n,rfl,hA,hL,hM,h0,h1,q⟩:=h
  refine⟨_,(WI (Pu.pz 3 QZ.nd (Qx W6))
   (WI (Vb YI rfl (Vn rfl G.range (W4 (pv 2) W6)) (Ql (i:=4) QZ.nd rfl (by first|exact Or.inl rfl|exact Or.inr rfl))
   (WI (Pu.pz 5 QZ.nd (Qd Zc (hr.mono (by decide)) Qh (W4 (pv 0) (W4 (W9 Qj W5 (pv 4)) W6))))
   (WI (Pu.pz 6 QZ.nd (W9 Qj (WG WH (pv 1) W5 (fun _ _=>rfl)) (W9 WV (W9 Q5 (pv 5) (WG WH (pv 1) W5 (fun _ _=>rfl))) (WG WH (pv 1) W5 (fun _ _=>rfl)))))
   (WD (QU (QS Yl PySem.F.slot_list_append PySem.F.type_list_append V4 (pv 3) (W4 (Tz (W4 (Qd Zg (hr.mono (by decide)) Qh (W4 (pv 1) (W4 (W9 WV (pv 5) (WG WH (pv 1) W5 (fun _ _=>rfl))) W6))) (W4 (pv 6) W6))) W6)))))))
   (WD (WL (pv 3))))),?_⟩
  have hMM:=hM;obtain⟨m0,m1,m2,m3,m4,em,ha,hb,hc,hd,he⟩:=hM;refine⟨by decide,fun p np=>?_⟩;have S0:Same H (upd H p (.lst [])):=WU np;refine⟨_,rfl,_,rfl,by omega,by omega,Vt (fun i σ H2=>∃(vs:List V) (x y z:Option V),σ=[some (.ref a),some (.ref l),some (.int n),some (.ref p),x,y,z]/\Same H H2/\H2 p=some (.lst vs)/\LV WS H2 vs (Qf ns m i)) ⟨[],none,none,none,rfl,S0,WC,LV.nil⟩ ?_ ?_⟩
  ·rintro i σ H2 hi ⟨vs,x,y,z,rfl,S,hp,hv⟩;have hA2:=S.seq hA;have hL2:=S.seq hL;refine⟨_,rfl,_,rfl,_,_,rfl,rfl,a,ns,_,rfl,hA2,by omega,?_⟩;rw[em]at hL2;have ez:(0:Int)+(i:Int)=(i:Int):=by omega
   refine⟨_,rfl,.inl ⟨_,_,_,_,rfl,rfl,hL2,rfl,_,rfl,_,rfl,.inl ⟨_,_,_,_,rfl,rfl,hL2,rfl,_,_,rfl,rfl,⟨by omega,by omega⟩,_,rfl,.inl ⟨_,_,_,_,rfl,rfl,hL2,rfl,_,_,rfl,rfl,(by show 0<m3;omega),_,_,rfl,rfl,?_⟩⟩⟩⟩;refine⟨_,rfl,.inl ⟨rfl,_,SqL.of hp⟩,_,rfl,_,rfl,_,rfl,.inl ⟨_,_,_,_,rfl,rfl,hL2,rfl,_,_,rfl,rfl,(by show 0<m0;omega),l,m,_,rfl,(by rw[em];exact hL2),hMM,_,rfl,(by show 2<=sizeLine;decide),fun t nt=>?_⟩⟩;have npt:p≠t:=WK hp nt;refine⟨p,vs,_,rfl,rfl,by rw[W7 npt];exact hp,VQ (by rw[hv.1,J6];omega),?_⟩;have nt0:H t=none:=S.free nt;refine⟨_,_,_,_,rfl,fun b o e=>?_,WC,?_⟩
   ·rw[W7 (WK e np),W7 (WK e nt0)];exact S b o e
   ·have key:∀v q,WS H2 v q->WS (upd (upd H2 t (.tup [V.int (VC m (Qa ns (2+(0+(i:Int))) % m0)),V.int (m4+Qa ns (2+(0+(i:Int))) / m0 % m3)])) p (.lst (vs++[V.ref t]))) v q:=by
     rintro v q ⟨b,eb,hb'⟩
     have hbp:b≠p:=by
      intro z;rw[z,hp]at hb';cases hb'
     exact⟨b,eb,by rw[W7 hbp,W7 (WK hb' nt)];exact hb'⟩
    rw[NC];refine LV.snoc ⟨hv.1,fun j x ex=>let ⟨v,e1,e2⟩:=hv.2 j x ex;⟨v,e1,key _ _ e2⟩⟩ ⟨t,rfl,?_⟩;rw[W7 npt.symm,WC];unfold stripM;rw[em,ez];rfl
  ·rintro σ H2 ⟨vs,x,y,z,rfl,S,hp,hv⟩;exact⟨_,rfl,q p H2 np S ⟨vs,hp,hv⟩⟩
end
open Pu
section
variable {P:Program}{w:World}{K:Za}{mg:Str->Option Value}{base:Heap}
def Kn(G:Glob K mg)(DD:Def K mg "check_order" VY ["strips","order"])(Zh:X6 P w K mg base)
  : J0 P w K mg base:=by
 refine DD.ox (k:=1) Pg (fun _ _ _ _ _ _ E hr=>⟨_,(WD (Qo (cn K hr (WO (NF (K:=K) (w:=w) rfl) (by rfl) G.sorted boot_sorted (az (pv 1))) (fz Zh hr (az (pv 0)))) (WD (ExcR.Te G.g_BadOrder.c G.m_BadOrder ExcR.XH rfl (az XX)))
   Qr)), (JO (Uw (Tv (XI (sz (WE 1))) (Qb (sz (WE 0))))) (Tq (sz Nt)) UH)⟩) (.a fun ds R X h=>?_)
 ·obtain⟨ps,os,rfl,hF,hz,hl,hR⟩:=h;refine⟨rfl,?_⟩;refine⟨os,rfl,hl,fun ns h1 h2=>⟨ps,rfl,hF,hz,_,_,rfl,rfl,?_⟩⟩;have q:=Pr (ps:=ps) h1 h2;unfold QF at hR;refine ite2 (fun g=>?_) (fun g=>?_)
  ·have g':¬ns=WJ ps:=fun z=>by rw[Z0 rfl,ZC z]at g;cases g
   rw[Z2 (fun z=>g' (q.mpr z))]at hR;exact⟨by simp,hR⟩
  ·have g':ns=WJ ps:=Classical.byContradiction fun z=>g (by rw[Z0 rfl,Z9 z];rfl);rw[Z0 (q.mp g')]at hR;exact hR
def PZ(G:Glob K mg)(DD:Def K mg "gathered" Jb ["strips","order"])(Zi:J0 P w K mg base)
  : Um P w K mg base:=by
 refine DD.ox (k:=2) Jd (fun _ _ _ _ _ _ E hr=>⟨_,(WI (QU (Qd Zi (hr.mono (by decide)) ExcR.Pi (bz (pv 0) (pv 1)))) (WI (Pu.pz 2 Jd.nd (Qx W6)) (WI (Vb ExcR.Xt rfl (Ut (K:=K) (pv 1)) (gz 3 Jd.nd) (WD (QU (QS Yl PySem.F.slot_list_extend PySem.F.type_list_extend XU (pv 2) (az (Vu (N':=["strip","holder"]) (φ:=[none,some 3]) rfl (Own.CompOk.of (by rfl)) (Ut (K:=K) (pv 0)) (fun _ _ _ _ _=>⟨(gz 0 (show(["strip","holder"]:List Str).Nodup from by decide +kernel)),(JS (cq K hr (jx K (pv 0) W5) (pv 1))),(pv 0)⟩))))))) (WD (WL (pv 2)))))), (Qg (Kf (Ta (tz (WE 0) (WE 1)))) (Qg (Q2 (PD Xn) (Qq 2)) (Qg (Km 1 (KA [3] (Po (WE 1)) (Qq 3) (NI 2 (N2 (X7 (WE 0)) (Qq 0) (Uw (NB (Jq (WE 0) Q1) (WE 1))) (WE 0))))) (TM 2))))⟩) (.a fun ds R X h=>?_)
 ·obtain⟨ps,os,rfl,hF,hz,hl,hR⟩:=h;refine⟨rfl,?_⟩;refine⟨ps,os,rfl,hF,hz,hl,?_⟩;cases e:QF ps os with
  |some c=>rw[e]at hR;exact hR
  |none=>
   rw[e]at hR;have hR':R (.own ((WY ps os).map prD)):=hR;refine⟨by simp,rfl,Ks (xs:=os) (emb:=D.int) (fun i γ'=>γ'=[some (.bor (plD ps)),some (.bor (.lst (os.map D.int))),some (.own ((WY ps (os.take i)).map prD)),none]) rfl ?_ ?_⟩
   ·rintro i hi γ' rfl;have hg:=N8 ps (os.take i);have ht:(os.take i).length<=64:=by rw[Y9];omega
    have hm:=Nat.mul_le_mul ht hz;have hf:=YZ (fun q:Int×Int=>decide (q.1=os[i])) ps;refine KS (xs:=ps) (emb:=prD) (fun q=>if decide (q.1=os[i])=true then some (prD q)else none) (by omega) (fun q hq=>⟨_,rfl,ite2 (fun g=>⟨_,rfl,Z0 g⟩) (fun g=>Z2 g)⟩) ?_;rw[VU (fun q:Int×Int=>decide (q.1=os[i]))];refine⟨by rw[Zs,Zs];omega,?_⟩
    have et:WY ps (os.take (i+1))=WY ps (os.take i)++ps.filter fun q=>decide (q.1=os[i]):=by
     unfold WY;rw[YY hi,List.flatMap_append];simp
    rw[et,YF];rfl
   ·rintro γ' rfl;rw[List.take_length];exact hR'
def Kx(G:Glob K mg)(Zj:XS P w K mg base)(Zk:Nf P w K mg base)(Zl:T8 P w K mg base)(Zm:Um P w K mg base)(Ze:PO P w K mg base)(Zc:T5 P w K mg base)(Zn:K8 P w K mg base)(Zo:Np P w K mg base)(Zb:Th P w K mg base)
  : Kb P w K mg base Qn:=by
 refine Lam.Nn (k:=3) Q8 (fun _ _ _ _ _ _ _ hr T=>⟨_,(Lam.QB (Pu.pz 1 Q8.nd (fz Zj hr (az (fz Zc hr (bz (pv 0) W5)))))
   (Lam.QB (Pu.pz 2 Q8.nd (fz Zk hr (dz (pv 0) (pv 1) (W9 WV (W9 Q5 (fz Zb hr (bz (pv 0) W5)) W5) W5))))
   (Lam.QB (Pu.pz 3 Q8.nd (fz Zl hr (bz (fz Zn hr (az (pv 2))) (fz Zc hr (bz (pv 0) W5)))))
   (Lam.QB (Pu.pz 4 Q8.nd (Vr (J2 (K:=K)) (by rfl) G.list boot_list (az (pv 2))))
   (Lam.QB (Pu.pz 5 Q8.nd (Vr (J2 (K:=K)) (by rfl) G.list boot_list (az (pv 3))))
   (Lam.QB (Pu.pz 6 Q8.nd (Qd Zm (hr.mono (by decide)) XF (bz (pv 4) (pv 5))))
   (Lam.QB (Qo (PW.pt (QH (Q7 (UD (K:=K) (fz Ze hr (bz (pv 4) (pv 2))))) (QI (Q7 (UD (K:=K) (fz Zo hr (bz (pv 5) (pv 3))))))))
   (WD (WL Qz))
   Qr)
   (Lam.Pd (Lam.Td (Lam.NY Ze hr (Lam.KJ (pv 6) (Lam.K7 (N':=["_law_strip","_law_order"]) (φ:=[none,some 3]) (x:="_law_strip") T hr (Lam.LamOk.of (by rfl)) rfl G.sorted (az (pv 2)) (fun _ _ _ _ _ _=>rfl) (fun _ _ _ _ _ _ _=>(XO (K:=K) Yl PySem.F.slot_list_index PySem.F.type_list_index (Kg (K:=K)) (pv 1) (az (jx K (pv 0) W5)))))))))))))))),
   (Qg (Q2 (Qb (sz (Qb (tz (WE 0) Q1)))) (Qq 1))
    (Qg (Q2 (Qb (uz (WE 0) (WE 1) (N6 (NW (Qb (tz (WE 0) Q1)) Q1) Q1))) (Qq 2))
    (Qg (Q2 (Qb (tz (Qb (sz (WE 2))) (Qb (tz (WE 0) Q1)))) (Qq 3))
    (Qg (Q2 (JT (sz (WE 2))) (Qq 4))
    (Qg (Q2 (JT (sz (WE 3))) (Qq 5))
    (Qg (Q2 (Qb (tz (WE 4) (WE 5))) (Qq 6))
    (Qg (JO (TR (Xg (Uu (Qb (tz (WE 4) (WE 2))))) (Xg (Uu (Qb (tz (WE 5) (WE 3)))))) (J5 P1) UH)
    (J5 (Qb (tz (WE 6) (Lam.Kq (Lam.T3 (Lam.J8 1) (Lam.Kc (Lam.J8 0) (Lam.Tu _))) (KB (WE 1) (sz (Jq (WE 0) Q1))) (sz (WE 2)))))))))))))⟩) (.a fun ds R X h=>?_)
 ·obtain⟨ns,rfl,hR⟩:=h;refine⟨rfl,?_⟩;refine⟨ns,0,rfl,by decide,_,rfl,fun hM=>?_⟩;generalize em:Q4 (Qa ns 0)=m at hM ⊢;refine⟨ns,0,rfl,by decide,⟨by decide,by decide⟩,(by show(0:Int)<41;decide),ns,m,_,rfl,hM,by omega,by omega,?_⟩;generalize en:(ns.getD (0:Int).toNat 0 / 2 % 41).toNat=n;have hn:n<=40:=by omega
  have hF:=Kz (ns:=ns) hM n;have hlen:=J6 ns m n;generalize eps:Qf ns m n=ps at hF hlen ⊢;have hh:=PH ps;refine⟨ps,rfl,by omega,ns,1,rfl,by decide,?_⟩;generalize Qa ns 1=how;refine⟨WJ ps,_,rfl,by omega,fun o ho=>?_⟩;have hol:=ho.length_eq;have hin:=X4 hF ho;have hno:o.Nodup:=ho.nodup_iff.mpr ((Vz ps).imp fun h=>Int.ne_of_lt h);refine⟨rfl,⟨rfl,ps,o,rfl,hF,by omega,by omega,?_⟩⟩;rw[X0 ho];refine⟨ps,rfl,by omega,iteF ⟨o,rfl,by omega,iteF ?_⟩⟩;refine⟨⟨_,ps.map prD,ps.map fun q=>((o.idxOf q.1:Nat):Int),rfl,rfl,Lam.UZ ps,by rw[Zs];omega,by rw[Zs,Zs],fun i d k hd hk=>?_,fun qs hq hw=>?_⟩⟩
  ·rw[Zz]at hd hk;cases e:ps[i]? with
   |none=>rw[e]at hd;cases hd
   |some q=>
    rw[e]at hd hk;cases hd
    cases hk
    have hi:q.1∈o:=hin q (Yy e);exact⟨⟨_,rfl⟩,_,Ke _ _,o,rfl,hi,rfl⟩
  ·obtain⟨is,h1,h2,h3⟩:=hw;rw[Zs]at h1
   have hgl:(WY ps o).length<=1000000:=by
    rw[←Xp hno hin h1 h2,Zs,h1.length_eq,Y4];omega
   have e:qs.map Prod.snd=(WY ps o).map prD:=by
    rw[h3,←Xp hno hin h1 h2,Wr];refine List.map_congr_left fun i hi=>?_
    have:=Stb.Out.lt (d:=(0,0)) h1 hi
    show(ps.map prD).getD i _=prD (ps.getD i (0,0));rw[Zu,Zz,Zq this,Zu,Zq this];rfl
   rw[e];exact⟨WY ps o,rfl,hgl,hR⟩
end
end T
namespace T
open PySem PySem.Spec PyProof.Rows L2 Own M
def KI{l:PySem.W.OpenLaw}{w:World}{K:Za}{h:Heap}{mg:Str->Option Value}{fa:Addr}(X:K.In h)(G0:h.Ns mainGlobals mg)(hfa:mg "law"=some (.ref fa))(a0:Pu.DI K "holders_of" V6)(a1:Pu.DI K "check_order" VY)(a2:Pu.DI K "gathered" Jb)(a3:Pu.DI K "_law_at" Jh)(a4:Pu.DI K "_law_whole" VF)(a5:Pu.DI K "_law_mix" VX)(a6:Pu.DI K "_law_draw" VD)(a7:Pu.DI K "_law_menu" V5)(a8:Pu.DI K "_law_holder" VT)(a9:Pu.DI K "_law_strips" VG)(a10:Pu.DI K "_law_row" VR)(a11:Pu.DI K "_law_tuples" VN)(a12:Pu.DI K "_law_present" Jg)(a13:Pu.DI K "_law_shuffled" VM){f14:Addr}{od14 an14:Option Addr}{sl14:Array (Option Value)}{oc14 kV14 dc14 pm14 cd14 ct14:Value}(a14:PySem.W.nsIn K mainGlobals "law"=some (some (.ref f14)))(l14:K.lookup f14=some ⟨oc14,od14,.func (PySem.W.fnOf "law" "law" (Qm Qn) (WT Qn) (W8 Qn) .none kV14 dc14 pm14 an14 cd14 ct14),sl14⟩)(c14:PySem.W.codeIn K cd14 "law"=true)(k14:PySem.W.keepIn K (.ref f14)=true)(Wt:PySem.W.nsIn K mainGlobals "bool"=some none)(Wu:PySem.W.nsIn K mainGlobals "int"=some none)(Wv:PySem.W.nsIn K mainGlobals "isinstance"=some none)(Ww:PySem.W.nsIn K mainGlobals "len"=some none)(Wx:PySem.W.nsIn K mainGlobals "list"=some none)(Wy:PySem.W.nsIn K mainGlobals "range"=some none)(Wz:PySem.W.nsIn K mainGlobals "set"=some none)(W1:PySem.W.nsIn K mainGlobals "sorted"=some none)(W2:PySem.W.nsIn K mainGlobals "tuple"=some none){W3:Addr}(Ws:Pu.EI K "BadOrder" W3){cc Pl:Addr}(hq:cd14=.ref cc)(hPK:K.lookup Pl=none)(hPC:PySem.W.codeHdIn K cc Pl=true)
  : ∃(fd:FuncData) (c:Addr),(∀(s:Shared) (v:Value),BindsTo s fd ⟨[v],[]⟩ [("_law_script",v)])/\K.lookup Pl=none/\PySem.W.codeHdIn K c Pl=true/\∀base:Heap,K.In base->base.Ns mainGlobals mg->PySem.W.CodeHd base c Pl->base.BuiltinsAt mg Pl->mainGlobals≠Pl->Lam.LawT l.prog w K mg base 4 fa fd "_law_script" (Pu.V3 K) Pl:=by
 have e:=hfa.symm.trans (Wk X G0 a14);cases e
 have G:Glob K mg:=⟨ZU X G0 Wt,ZU X G0 Wu,ZU X G0 Wv,ZU X G0 Ww,ZU X G0 Wx,ZU X G0 Wy,ZU X G0 Wz,ZU X G0 W1,ZU X G0 W2,(Ws.m X G0),(Ws.k X G0)⟩;have F14:=Jo (st:=Qn) l14 c14 k14;refine⟨PySem.W.fnOf "law" "law" (Qm Qn) (WT Qn) (W8 Qn) .none kV14 dc14 pm14 an14 cd14 ct14,cc,fun s v=>.of_eq rfl,hPK,hPC,fun base _ _ hC hB hg=>?_⟩;have C0:=@Tt l.prog w K mg base G (a0.e X G0);have C3:=@Nv l.prog w K mg base G (a3.e X G0);have C4:=@Nu l.prog w K mg base G (a4.e X G0);have C5:=@NL l.prog w K mg base G (a5.e X G0);have C7:=@NN l.prog w K mg base G (a7.e X G0);have C8:=@X2 l.prog w K mg base G (a8.e X G0);have C12:=@N7 l.prog w K mg base G (a12.e X G0);have C13:=@P9 l.prog w K mg base G (a13.e X G0);have C1:=@Kn l.prog w K mg base G (a1.e X G0) (N3 C0);have C6:=@NZ l.prog w K mg base G (a6.e X G0) C5 C3;have C10:=@PV l.prog w K mg base G (a10.e X G0) C4;have C11:=@X1 l.prog w K mg base G (a11.e X G0) C4;have C2:=@PZ l.prog w K mg base G (a2.e X G0) C1;have C9:=@N0 l.prog w K mg base G (a9.e X G0) C6 C8;have C14:=@Kx l.prog w K mg base G  (Tf C7) (X8 C9) (P7 C13) C2 (TQ C11) (Tx C6) (TX C12) (X3 C10) (PN C3);exact(C14 fa _ cc Pl F14 hq hC hB hg).imp fun _ _ _ _ z=>Pu.Ja z
end T
structure PySem.W.Fast:Prop where (tw7840302492814111785 tw8704653720225154112 tw2818114916121334144 tw9878453618438213056 tw613886862951120448 tw1898029781837104736 tw11761921151266663040 tw8512366724098923264 tw3126271979489384256 tw11185707347685885888 tw6167688291867736257 tw4656262834431097025 tw14777137748853188897 tw16491857431940689665 tw7625678368668271393 tw4815587602547535809 tw17918682519843425762 tw10905963783176704674 tw4596539779286079266 tw3648244660246501603 tw6630422796086960483 tw1178829174862339619 tw11525778756856162147 tw11204623775112886243 tw9367434031130958436 tw14799291579240442117 tw16777028859006054725 tw4391337639441507749 tw159950352843695909 tw6679024031764171621 tw2446545605896023046 tw3238061542932348006 tw8630925269004413158 tw12408029030973400614 tw13573487191605777030 tw1359787518439772806 tw4885032905678989126 tw9952302966182943686 tw2570229728662882791 tw9957976609671326311 tw13331458789569943207 tw11406559624736601991 tw5895895664129905992 tw7829749381957991848 tw6004036980641689288 tw6629928371206028200 tw1592279596677618857 tw2979355311036381065 tw9242913193584515114 tw6329792014667979882 tw18367739166287660170 tw9472506474336877354 tw12584450930562464843 tw18047672440747568299 tw8991337329201919243 tw11576875949132393035 tw15699635972840786603 tw13838084606668900043 tw17988588824482079531 tw16848333477216942124 tw13692894874242952108 tw12511041612583401741 tw11954463515096779149 tw7666860432652182989 tw17419660780861034029 tw12517366148766412685 tw462122698010845165 tw8059406584298755086 tw358178293175632942 tw8423721096515032270 tw2689673533839225070 tw16039448661417887342 tw11728277865387368110 tw4346398048871770030 tw9939245896409014415 tw7302123654346569199 tw668641155965656687 tw14404202234857441999 tw16394923480405673711 tw1711276040598117135 tw8981851430796591248 tw16811259913477214512 tw14279585470270740112 tw11408556860902560464 tw3192000758503062512 tw11293935873394794480 tw14785994417378915377 tw4340839468731968945 tw17772340269208889137 tw9205482843341205778 tw4529523410273054354 tw14550719611652316882 tw15985895145180727539 tw9081489031777859891 tw7459467833838819091 tw3933288419536701235 tw9534313329221883699 tw3867442630565117811 tw13468926226753179539 tw4293255506560400307 tw7441232351778402324 tw16065806421705207380 tw3095702786440031156 tw13867478295466926101 tw1838082333067869429 tw9968787990702382421 tw13410302140440850005 tw3702284040093018101 tw7523899814027463702 tw12035295336740521238 tw12283555321358544566 tw6621166677845646038 tw6852165719419445046 tw10966696603157884726 tw572797110080155638 tw13011138746033718262 tw13022306903014640759 tw6410205052621359479 tw5808601209868581431 tw15715670351395454583 tw17373533021214182103 tw2098846707401239415 tw1110595493225952183 tw13102030935855479224 tw12258712090923628344 tw12464882083823956633 tw780519304934525210 tw1009538292786447994 tw14163569708345939674 tw8665996010040223099 tw16611055338220387803 tw10911353032695405051 tw17780527646282891995 tw12333959370557339515 tw18406625028643956060 tw100337942294563452 tw16059074487769148156 tw12528674892797631260 tw6598069334514884380 tw2682212769587925980 tw17185136302602939773 tw3277666103538426910 tw4034312340105340958 tw2290056666967790718 tw8000448005175176926 tw16850792369210363646 tw13815250491994367071 tw3685170283173034303:True)
open PySem PySem.W PyProof.Rows
set_option maxRecDepth 100000 in
set_option maxHeartbeats 0 in
theorem PySem.Challenge.cw_stripmeld_k04_gathered_holds : PySem.Challenge.rw_stripmeld_k04_gathered.Holds := by
 w_on;o_law;k_head;(case hw=>w_witness2)
 k_fill
 refine Lam.ND (l:=PySem.Challenge.rw_stripmeld_k04_gathered) (n:=63) (k:=4) (x:="_law_script") (sp:=Pu.V3) rfl (by decide) rfl ⟨rfl,by decide,by decide⟩ (fun w h Y=>PySem.W.km_in_of Y) (fun w h Y=>PySem.W.km_tabs_of Y _ ZL) ?F ?S
 case F=>
  intro w mg fa h KX G hmg
  refine' T.KI KX G hmg ?a0 ?a1 ?a2 ?a3 ?a4 ?a5 ?a6 ?a7 ?a8 ?a9 ?a10 ?a11 ?a12 ?a13 ?a14 ?l14 ?c14 ?k14 ?Wt ?Wu ?Wv ?Ww ?Wx ?Wy ?Wz ?W1 ?W2 ?Ws ?hq ?hPK ?hPC
  (case a0|a1|a2|a3|a4|a5|a6|a7|a8|a9|a10|a11|a12|a13=>apply Pu.di<;>k_is)
  (case a14|l14|c14|k14|Wt|Wu|Wv|Ww|Wx|Wy|Wz|W1|W2=>k_is)
  (case Ws=>apply Pu.ei<;>first|(k_is;done)|k_exc)
  (case hq=>exact rfl)
  (case hPK|hPC=>kernel_rfl)
 case S=>exact fun K H a ns hl hO hS=>⟨a,ns,rfl,hS,fun _=>rfl⟩
