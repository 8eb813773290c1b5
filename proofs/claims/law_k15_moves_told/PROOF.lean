import PyProof.Rows.All
import Wide.All
import OpenK.AllK
import Wide.FinOn
import Lean
import PyProof.EqAt
import PyProof.EqKinds
import PyProof.TupleCall
import PySem.Challenge.RW_stripmeld_k15_moves_told
set_option Elab.async false
set_option linter.all false
set_option maxRecDepth 100000
noncomputable section
def Zy:=@List.getElem?_eq_getElem
def Zz:=@List.getD_eq_getElem?_getD
def Z0:=@PySem.wpAny_bind
def Z1:=@List.length_map
def Z2:=@PySem.Heap.get?_push_of_some
def Z3:=@PySem.wpAny_pure
def Z4:=@Nat.le_refl
def Z5:=@PySem.Heap.lt_size
def Z6:=@Option.some.inj
def Z7:=@List.size_toArray
def Z8:=@if_neg
def Z9:=@PySem.Heap.get?_push_size
def ZA:=@if_pos
def ZC:=@List.getElem?_map
def ZD:=@Bool.false_ne_true
def ZE:=@List.mem_append_right
def ZF:=@decide_eq_true
def ZG:=@List.map_cons
def ZH:=@List.mem_cons_of_mem
def ZI:=@decide_eq_false
def ZJ:=@List.mem_singleton
def ZK:=@List.mem_cons_self
def ZL:=@List.mem_cons
def ZM:=@Nat.le_trans
def ZN:=@Nat.ne_of_lt
def ZO:=@Nat.lt_of_lt_of_le
def ZP:=@List.getElem_mem
def ZQ:=@Int.toNat_natCast
def ZS:=@List.take_succ_eq_append_getElem
def ZT:=@PySem.F.plainAttrs_list
def ZU:=@List.pairwise_cons
def ZV:=@List.getElem?_eq_some_iff
def ZW:=@Array.length_toList
def ZX:=@List.map_append
def ZY:=@PySem.PassesOwn.never
def ZZ:=@PySem.Heap.SameBut.update
def Ya:=@List.drop_eq_getElem_cons
def Yb:=@PySem.Heap.get?_update_other
def Yc:=@PySem.boot_len
def Yd:=@congrArg
def Ye:=@PySem.mem_of_lookup
def Yf:=@PySem.Heap.get?_update_self
def Yg:=@of_decide_eq_true
def Yh:=@PySem.wpAny_mono
def Yi:=@List.length_append
def Yj:=@Bool.and_eq_true
def Yk:=@List.lookup_cons
def Yl:=@PySem.W.kia_one
def Ym:=@PySem.W.mg_none_of
def Yn:=@PySem.F.slot_list_index
def Yo:=@Nat.zero_le
def Yp:=@List.mem_append
def Yq:=@Array.getElem?_toList
def Yr:=@List.length_take
def Ys:=@PySem.Obj.data_mapFields
def Yt:=@Nat.lt_irrefl
def Yu:=@PySem.wpAny_holding
def Yv:=@PySem.F.type_list_index
def Yw:=@PySem.wpAny_newObj_type
def Yx:=@List.length_set
def Yy:=@List.filterMap_cons
def Yz:=@PySem.sizeLine_eq
def Y0:=@List.map_map
def Y1:=@List.length_cons
def Y2:=@List.filterMap_append
def Y3:=@List.getElem?_append_left
def Y4:=@Array.getElem?_eq_getElem
def Y5:=@List.mem_of_getElem?
def Y6:=@List.cons_append
def Y7:=@List.all_eq_true
def Y8:=@List.take_length
def Y9:=@List.filterMap_eq_map'
def YA:=@Nat.le_of_eq
def YB:=@List.mem_map
def YC:=@PyProof.Rows.F.plain_set_update_loop
def YD:=@PySem.wpAny_passesOwn
def YE:=@PySem.Obj.isFreed_of_fields
def YF:=@PyProof.Rows.boot_isinstance
def YG:=@List.getElem?_append_right
def YH:=@PySem.wpAny_truthy_bool
def YI:=@PySem.wpAny_setState_of
def YJ:=@List.mem_append_left
def YK:=@List.pairwise_append
def YL:=@PySem.Around.under_plainId
def YM:=@PySem.wpAny_setField
def YN:=@List.map_congr_left
def YO:=@List.nodup_cons
def YQ:=@List.find?_cons
def YR:=@PySem.codeAny_builtin
def YS:=@List.take_of_length_le
def YT:=@List.pairwise_map
def YU:=@List.length_range
def YV:=@List.mem_range
def YW:=@Nat.lt_trans
def YX:=@PyProof.Rows.callWith_type1
def YY:=@List.getElem?_set_ne
def YZ:=@PySem.wpAny_execs_cons
def Wa:=@List.any_cons
def Wb:=@List.length_eraseIdx_of_lt
def Wc:=@List.perm_ext_iff_of_nodup
def Wd:=@Int.le_refl
def We:=@List.mem_filter
def Wf:=@PySem.wpAny_execs_nil
def Wg:=@List.append_nil
def Wh:=@List.range_succ
def Wi:=@Nat.le_of_lt
def Wj:=@PySem.codeAny_mono
def Wk:=@PySem.wpAny_Call_Name_kw
def Wl:=@PyProof.Rows.F.entry_set_update_loop
def Wm:=@Bool.false_eq_true
def Wn:=@List.length_filterMap_le
def Wo:=@List.idxOf_lt_length_iff
def Wp:=@PySem.F.slot_list_append
def Wq:=@PySem.F.type_list_append
def Wr:=@PySem.fits_of_scanBound
def Ws:=@List.nodup_append
def Wt:=@Nat.lt_succ_of_lt
def Wu:=@List.getElem?_set_self
def Wv:=@PySem.W.cellsFrom_some
def Ww:=@Nat.le_succ
def Wx:=@Int.add_mul
def Wy:=@PySem.plainId_quiet
def Wz:=@List.not_mem_nil
def W1:=@PySem.wpAny_call_entry
def W2:=@List.pairwise_of_forall_mem_list
def W3:=@List.getElem?_eq_none
def W4:=@List.take_append_drop
def W5:=@Bool.eq_iff_iff
def W6:=@Option.map_some
def W7:=@List.mem_iff_getElem
def W8:=@List.mem_filterMap
def W9:=@List.getElem_idxOf
def WA:=@List.map_singleton
def WB:=@Nat.add_sub_cancel
def WC:=@Bool.true_and
def WD:=@PySem.W.mg_of
def WE:=@List.take_sublist
def WG:=@List.append_assoc
def WH:=@Nat.ne_of_gt
def WI:=@List.ext_getElem
def WJ:=@List.getElem_map
def WK:=@Int.ne_of_lt
abbrev Za:=PySem.W.Frag
namespace L2
open PySem PySem.Spec PyProof.Rows
abbrev Key:=Sum Int Str
def VF:Key->Value->Bool
 | .inl k,v=>Value.isInt k v
 | .inr x,v=>Value.isStrOf x v
def keyH(w:World):Key->Int
 | .inl k=>hashInt k
 | .inr x=>hashStr w x
def Vk:∀{k:Key}{v:Value},VF k v=true->(∃i t,k=Sum.inl i/\v=Value.int i t)\/(∃x t,k=Sum.inr x/\v=Value.str x t)
 | .inl i,v,h=>by
  obtain⟨t,e⟩:=Value.isInt_shape (k:=i) (v:=v) h;exact .inl ⟨i,t,rfl,e⟩
 | .inr x,v,h=>by
  obtain⟨t,e⟩:=Value.isStrOf_shape (x:=x) (v:=v) h;exact .inr ⟨x,t,rfl,e⟩
def Fy(i:Int)(t:Tok):VF (.inl i) (.int i t)=true:=by simp[VF,Value.isInt]
def Si(x:Str)(t:Tok):VF (.inr x) (.str x t)=true:=by simp[VF,Value.isStrOf]
def FE(a b:Int):decide ((Sum.inl a:Key)=Sum.inl b)=(a==b):=by
 by_cases e:a=b
 ·subst e;simp
 ·have h:¬(Sum.inl a:Key)=Sum.inl b:=fun q=>e (Sum.inl.inj q);rw[ZI h];exact(beq_eq_false_iff_ne.mpr e).symm
def Cf(a b:Str):decide ((Sum.inr a:Key)=Sum.inr b)=decide (a=b):=by
 by_cases e:a=b
 ·subst e;simp
 ·have h:¬(Sum.inr a:Key)=Sum.inr b:=fun q=>e (Sum.inr.inj q);rw[ZI h,ZI e]
def FV(a:Int)(b:Str):decide ((Sum.inl a:Key)=Sum.inr b)=false:=ZI (fun q=>nomatch q)
def As(a:Str)(b:Int):decide ((Sum.inr a:Key)=Sum.inl b)=false:=ZI (fun q=>nomatch q)
def QE(prog:Program)(w:World):PySem.KeyKind prog w Key where
 is:=VF
 hash:=keyH w
 inj:=fun v a b ha hb=>by
  rcases Vk ha with⟨i,t,rfl,rfl⟩|⟨x,t,rfl,rfl⟩
  ·rcases Vk hb with⟨j,u,rfl,e⟩|⟨y,u,rfl,e⟩
   ·injection e with e1 _;rw[e1]
   ·exact nomatch e
  ·rcases Vk hb with⟨j,u,rfl,e⟩|⟨y,u,rfl,e⟩
   ·exact nomatch e
   ·injection e with e1 _;rw[e1]
 byValue:=fun k v h=>by
  rcases Vk h with⟨i,t,rfl,rfl⟩|⟨x,t,rfl,rfl⟩<;>rfl
 pyHash:=fun hv h=>by
  rcases Vk hv with⟨i,t,rfl,rfl⟩|⟨x,t,rfl,rfl⟩
  ·exact wpAny_pyHash_int h
  ·exact wpAny_pyHash_str h
 eqBool:=fun hu hv h=>by
  rcases Vk hu with⟨i,t,rfl,rfl⟩|⟨x,t,rfl,rfl⟩
  ·rcases Vk hv with⟨j,u,rfl,rfl⟩|⟨y,u,rfl,rfl⟩
   ·rw[FE]at h;exact wpAny_eqBool_int h
   ·rw[FV]at h;exact SeqAt.EqAt.int_str i t y u _ _ _ _ h
  ·rcases Vk hv with⟨j,u,rfl,rfl⟩|⟨y,u,rfl,rfl⟩
   ·rw[As]at h;exact SeqAt.EqAt.str_int x t j u _ _ _ _ h
   ·rw[Cf]at h;exact wpAny_eqBool_str h
 «strs»:=fun k x t v h=>by
  rcases Vk h with⟨i,u,rfl,e⟩|⟨y,u,rfl,e⟩
  ·exact nomatch e
  ·injection e with e1 _;subst e1;cases v<;>rfl
def Fn(prog:Program)(w:World)(i:Int)(t:Tok):(QE prog w).is (.inl i) (.int i t)=true:=Fy i t
def NP(prog:Program)(w:World)(x:Str)(t:Tok):(QE prog w).is (.inr x) (.str x t)=true:=Si x t
inductive V where
 |non|bl (b:Bool)|int (i:Int)|str (x:Str)|byt (b:Array UInt8)|flt (b:UInt64)|ref (a:Addr)|ty (n:String)
 deriving DecidableEq
def RelV:V->Value->Prop
 | .non,u=>u=Value.none
 | .bl b,u=>u=Value.bool b
 | .int i,u=>∃t,u=Value.int i t
 | .str x,u=>∃t,u=Value.str x t
 | .byt b,u=>∃t,u=Value.bytes b t
 | .flt b,u=>∃t,u=Value.float b t
 | .ref a,u=>u=Value.ref a
 | .ty n,u=>u=Value.type n
abbrev Vals:List V->List Value->Prop:=Paired RelV
def Vals.length {xs:List V}{us:List Value} (r:Vals xs us):xs.length=us.length:=Paired.length r
def Vals.get:∀{xs:List V}{us:List Value}{i:Nat}{x:V},Vals xs us->xs[i]?=some x->∃u,us[i]?=some u/\RelV x u
 |_,_,_,_,.nil,e=>by simp at e
 |_,_,0,_,.cons r _,e=>by simp at e;subst e;exact⟨_,rfl,r⟩
 |_,_,i+1,x,.cons _ t,e=>by
  obtain⟨u,h1,h2⟩:=Vals.get (i:=i) (x:=x) t (by simpa using e);exact⟨u,by simpa using h1,h2⟩
def Vals.set {x:V}{u:Value} (r:RelV x u):∀{xs:List V}{us:List Value} (i:Nat),Vals xs us->Vals (xs.set i x) (us.set i u)
 |_,_,_,.nil=>.nil
 |_,_,0,.cons _ t=>.cons r t
 |_,_,i+1,.cons q t=>.cons q (Vals.set r i t)
def Vals.append:∀{xs ys:List V}{us ws:List Value},Vals xs us->Vals ys ws->Vals (xs++ys) (us++ws)
 |_,_,_,_,.nil,s=>s
 |_,_,_,_,.cons r t,s=>.cons r (Vals.append t s)
def Vals.take:∀{xs:List V}{us:List Value} (n:Nat),Vals xs us->Vals (xs.take n) (us.take n)
 |_,_,0,_=>.nil
 |_,_,_+1,.nil=>.nil
 |_,_,n+1,.cons r t=>.cons r (Vals.take n t)
def Vals.drop:∀{xs:List V}{us:List Value} (n:Nat),Vals xs us->Vals (xs.drop n) (us.drop n)
 |_,_,0,r=>r
 |_,_,_+1,.nil=>.nil
 |_,_,n+1,.cons _ t=>Vals.drop n t
def RelO:Option V->Option Value->Prop
 |some v,some u=>RelV v u
 |none,none=>True
 |_,_=>False
def KV{κ:Type}:List (κ×V)->List (κ×Value)->Prop:=Paired fun(p:κ×V) (q:κ×Value)=>p.1=q.1/\RelV p.2 q.2
def kV:Key->V
 | .inl i=>.int i
 | .inr x=>.str x
inductive HO where
 |lst (xs:List V)
 |tup (xs:List V)
 |dK (kvs:List (Key×V))|dT (kvs:List (List Key×V))
 |set (S:Int->Bool) (n:Nat)
 |ins (C dx:Addr) (fs:List (Str×V))
 |own (x:Addr)
 |xd (fs:List (Str×V))
 |met (f x:Addr)
 |rng (lo hi:Int)
 |frz (o:Obj) (u:HO)
 |tbl (ps:Array Value)
 |ext (φ:Heap->Prop)
abbrev Hp:=Addr->Option HO
def upd(H:Hp)(a:Addr)(o:HO):Hp:=fun b=>if b=a then some o else H b
def Qn{H:Hp}{a:Addr}{o:HO}:upd H a o a=some o:=by unfold upd;rw[ZA rfl]
def Qh{H:Hp}{a b:Addr}{o:HO}(h:b≠a):upd H a o b=H b:=by unfold upd;rw[Z8 h]
def Tu{H:Hp}{a:Addr}{o u:HO}:upd (upd H a o) a u=upd H a u:=by
 funext b;unfold upd;split<;>rfl
def Ba{H:Hp}{a b:Addr}{o u:HO}(h:H a=some o)(h':H b=some u)(d:o≠u):a≠b:=by
 intro e;subst e;rw[h]at h';exact d (Z6 h')
def Qv{H:Hp}{a b:Addr}{o:HO}(h:H a=some o)(h':H b=none):a≠b:=by
 intro e;subst e;rw[h]at h';cases h'
section
variable (P:Program) (w:World)
def ObjOk(H:Hp)(h:Heap)(a:Addr):HO->Prop
 | .lst xs=>xs.length<=sizeLine/\∃(its:List Value) (n:Nat),Vals xs its/\h.get? a=some {cls:=.type "list",data:=.seq its.toArray n}
 | .tup xs=>xs.length<=sizeLine/\∃its:List Value,Vals xs its/\IsTup h a its.toArray
 | .dK kvs=>kvs.length<=sizeLine/\(a==sysModules)=false/\∃vs,KV kvs vs/\h.DictOf (QE P w) a vs
 | .dT kvs=>kvs.length<=sizeLine/\(a==sysModules)=false/\∃xs:List (List Key×Addr×Value),
   Paired (fun(p:List Key×V) (q:List Key×Addr×Value)=>p.1=q.1/\H q.2.1=some (.tup (p.1.map kV))/\RelV p.2 q.2.2) kvs xs/\
   ∃o es ep,h.get? a=some o/\o.ExactDict/\o.data=.dict es ep/\es.toList=xs.map (entryOfKey (tupleKind (QE P w)))/\(xs.map (·.1)).Nodup
 | .set S n=>h.SetOf (intKind P w) a S n
 | .ins C dx fs=>H dx=some (.own a)/\fs.length<=1000/\dx≠a/\h.get? a=some (PySem.W.instObj C dx)/\
   ∃mA,h.Ns1 dx mA/\(∀f,RelO (fs.lookup f) (mA f))/\PySem.Within mA (fs.map (·.1))
 | .own _=>∃o,h.get? a=some o
 | .xd fs=>∃mA,h.Ns1 a mA/\∀f,RelO (fs.lookup f) (mA f)
 | .rng lo hi=>∃t u v,h.get? a=some {cls:=.type "range",data:=.fields #[.int lo t,.int hi u,.int 1 v]}
 | .frz o u=>h.get? a=some o/\ObjOk H h a u
 | .tbl ps=>h.get? a=some {cls:=.none,data:=.fields ps}
 | .met f x=>h.get? a=some (PySem.W.methodObj (.ref f) (.ref x))
 | .ext φ=>φ h/\(∃o,h.get? a=some o)/\∀h1 h2:Heap,φ h1->(∀o,h1.get? a=some o->h2.get? a=some o)->φ h2
def HOk(H:Hp)(h:Heap):Prop:=∀a o,H a=some o->ObjOk P w H h a o
end
section
variable {P:Program}{w:World}{H H':Hp}{h h':Heap}{a:Addr}{o:HO}
def ObjOk.lt (x:ObjOk P w H h a o):a<h.objs.size:=by
 cases o with
 |lst xs=>obtain⟨_,_,_,_,e⟩:=x;exact Z5 e
 |tup xs=>obtain⟨_,_,_,p⟩:=x;exact p.lt
 |dK kvs=>obtain⟨_,_,_,_,o,_,_,e,_⟩:=x;exact Z5 e
 |dT kvs=>obtain⟨_,_,_,_,o,_,_,e,_⟩:=x;exact Z5 e
 |set S n=>obtain⟨o,_,_,_,e,_⟩:=x;exact Z5 e
 |ins C dx fs=>obtain⟨_,_,_,e,_⟩:=x;exact Z5 e
 |own y=>obtain⟨_,e⟩:=x;exact Z5 e
 |xd fs=>obtain⟨_,⟨_,_,_,e,_⟩,_⟩:=x;exact Z5 e
 |rng lo hi=>obtain⟨_,_,_,e⟩:=x;exact Z5 e
 |frz ob u=>obtain⟨e,_⟩:=x;exact Z5 e
 |tbl ps=>exact Z5 (show h.get? a=some _ from x)
 |met f y=>exact Z5 (show h.get? a=some _ from x)
 |ext φ=>obtain⟨_,⟨_,e⟩,_⟩:=x;exact Z5 e
def Paired.mapP {α β:Type}{F G:α->β->Prop}:∀{l₁:List α}{l₂:List β},Paired F l₁ l₂->(∀a b,F a b->G a b)->Paired G l₁ l₂
 |_,_,.nil,_=>.nil
 |_,_,.cons r t,f=>.cons (f _ _ r) (Paired.mapP t f)
def ObjOk.stay (x:ObjOk P w H h a o) (k:∀b u,(b=a\/H b=some (.own a))->h.get? b=some u->h'.get? b=some u)
  (ho:∀b,H b=some (.own a)->H' b=some (.own a)) (ht:∀b xs,H b=some (.tup xs)->H' b=some (.tup xs)):ObjOk P w H' h' a o:=by
 induction o with
 |lst xs=>obtain⟨z,its,n,r,e⟩:=x;exact⟨z,its,n,r,k _ _ (.inl rfl) e⟩
 |tup xs=>obtain⟨z,its,r,ob,e,c⟩:=x;exact⟨z,its,r,ob,k _ _ (.inl rfl) e,c⟩
 |dK kvs=>obtain⟨z,y,vs,r,ob,es,ep,e,c⟩:=x;exact⟨z,y,vs,r,ob,es,ep,k _ _ (.inl rfl) e,c⟩
 |dT kvs=>
  obtain⟨z,y,xs,r,ob,es,ep,e,c⟩:=x;exact⟨z,y,xs,Paired.mapP r fun p q z=>⟨z.1,ht _ _ z.2.1,z.2.2⟩,ob,es,ep,k _ _ (.inl rfl) e,c⟩
 |set S n=>obtain⟨ob,es,ep,t,e,c⟩:=x;exact⟨ob,es,ep,t,k _ _ (.inl rfl) e,c⟩
 |ins C dx fs=>
  obtain⟨d,z,ne,e,mA,⟨od,es,ep,e2,c⟩,r⟩:=x;exact⟨ho _ d,z,ne,k _ _ (.inl rfl) e,mA,⟨od,es,ep,k _ _ (.inr d) e2,c⟩,r⟩
 |own y=>obtain⟨ob,e⟩:=x;exact⟨ob,k _ _ (.inl rfl) e⟩
 |xd fs=>obtain⟨mA,⟨od,es,ep,e,c⟩,r⟩:=x;exact⟨mA,⟨od,es,ep,k _ _ (.inl rfl) e,c⟩,r⟩
 |rng lo hi=>obtain⟨t,u,v,e⟩:=x;exact⟨t,u,v,k _ _ (.inl rfl) e⟩
 |frz ob u ih=>obtain⟨e,q⟩:=x;exact⟨k _ _ (.inl rfl) e,ih q⟩
 |tbl ps=>
  have e:h.get? a=some {cls:=.none,data:=.fields ps}:=x;show h'.get? a=some {cls:=.none,data:=.fields ps};exact k a _ (.inl rfl) e
 |met f y=>
  have e:h.get? a=some (PySem.W.methodObj (.ref f) (.ref y)):=x;show h'.get? a=some (PySem.W.methodObj (.ref f) (.ref y));exact k a _ (.inl rfl) e
 |ext φ=>obtain⟨p,⟨o,e⟩,st⟩:=x;exact⟨st _ _ p fun o q=>k _ _ (.inl rfl) q,⟨o,k _ _ (.inl rfl) e⟩,st⟩
def HOk.lt (x:HOk P w H h) (e:H a=some o):a<h.objs.size:=(x a o e).lt
def HOk.fresh (x:HOk P w H h) (e:h.objs.size<=a):H a=none:=by
 cases q:H a with
 |none=>rfl
 |some u=>exact absurd (ZO (x.lt q) e) (Yt _)
def HOk.kept (x:HOk P w H h) (k:∀b u,h.get? b=some u->h'.get? b=some u):HOk P w H h':=fun a o e=>
 (x a o e).stay (fun b u _ q=>k b u q) (fun _ q=>q) fun _ _ q=>q
def HOk.laid (x:HOk P w H h) (k:∀b u,h.get? b=some u->h'.get? b=some u) (hp:h.objs.size<=a) (new:ObjOk P w (upd H a o) h' a o):HOk P w (upd H a o) h':=fun b u e=>by
 have hn:=x.fresh hp;by_cases hb:b=a
 ·subst hb;rw[Qn]at e;cases e;exact new
 ·rw[Qh hb]at e;exact(x b u e).stay (fun c v _ q=>k c v q) (fun c q=>by rw[Qh (Qv q hn)];exact q) fun c xs q=>by rw[Qh (Qv q hn)];exact q
end
def Rd(H:Hp)(a:Addr)(u:HO):Prop:=H a=some u\/∃o,H a=some (.frz o u)
def Rd.ok {P:Program}{w:World}{H:Hp}{h:Heap}{a:Addr}{u:HO} (r:Rd H a u) (x:HOk P w H h):ObjOk P w H h a u:=by
 rcases r with r|⟨o,r⟩
 ·exact x a u r
 ·obtain⟨_,q⟩:=x a _ r;exact q
def Mut:Option HO->Prop
 |some (.lst _)=>True
 |some (.dK _)=>True
 |some (.dT _)=>True
 |some (.set _ _)=>True
 |some (.ins _ _ _)=>True
 |some (.ext _)=>True
 |_=>False
section
variable {P:Program}{w:World}{H:Hp}{h h':Heap}{x e:Addr}{o':HO}
def HOk.write (ok:HOk P w H h) (mu:Mut (H x)) (he:e=x\/H e=some (.own x)) (k:∀b u,b≠e->h.get? b=some u->h'.get? b=some u) (heo:∃u,h'.get? e=some u)
  (new:ObjOk P w (upd H x o') h' x o'):HOk P w (upd H x o') h':=fun b u q=>by
 have nown:∀c y,H c=some (.own y)->c≠x:=fun c y r z=>by subst z;rw[r]at mu;exact mu
 have ntup:∀c xs,H c=some (.tup xs)->c≠x:=fun c xs r z=>by subst z;rw[r]at mu;exact mu
 by_cases hb:b=x
 ·subst hb;rw[Qn]at q;cases q;exact new
 ·rw[Qh hb]at q;by_cases hbe:b=e
  ·have q':H b=some (.own x):=by
    rcases he with z|z
    ·exact absurd (hbe.trans z) hb
    ·rw[hbe];exact z
   rw[q]at q';cases q';obtain⟨v,hv⟩:=heo;exact⟨v,by rw[hbe];exact hv⟩
  ·refine(ok b u q).stay (fun c v hc r=>k c v ?_ r) (fun c r=>by rw[Qh (nown c b r)];exact r) fun c xs r=>by rw[Qh (ntup c xs r)];exact r
   rcases hc with rfl|hc
   ·exact hbe
   ·rintro rfl;rcases he with z|z
    ·exact nown c b hc z
    ·rw[hc]at z;cases z;exact hb rfl
end
structure Un (fs ex:List Addr) (H H':Hp) (h h':Heap):Prop where
 keep:∀b o,h.get? b=some o->H b=none->b∉fs->b∉ex->h'.get? b=some o
 slot:∀b o,h.get? b=some o->H b=none->b∈fs->b∉ex->∃sl,h'.get? b=some {o with slots:=sl}
 free:∀b o,h.get? b=some o->H b=none->b∉ex->H' b=none
 there:∀b o,h.get? b=some o->b∉ex->∃o',h'.get? b=some o'
 tups:∀b xs,H b=some (.tup xs)->H' b=some (.tup xs)
 frzs:∀b o u,H b=some (.frz o u)->H' b=some (.frz o u)
 tbls:∀b ps,H b=some (.tbl ps)->∃more,H' b=some (.tbl (ps++more))
section
variable {fs fs' ex ex':List Addr}{H H1 H2:Hp}{h h1 h2 h':Heap}{a x e:Addr}{o:HO}
def Un.any (u:Un fs ex H H1 h h1) {b:Addr}{ob:Obj} (q:h.get? b=some ob) (n:H b=none) (hx:b∉ex):∃sl,h1.get? b=some {ob with slots:=sl}:=by
 by_cases hb:b∈fs
 ·exact u.slot b ob q n hb hx
 ·exact⟨ob.slots,u.keep b ob q n hb hx⟩
def Un.kept (k:∀b u,h.get? b=some u->h'.get? b=some u):Un fs ex H H h h':=
 ⟨fun b ob q _ _ _=>k b ob q,fun b ob q _ _ _=>⟨ob.slots,k b ob q⟩,fun _ _ _ n _=>n,fun b ob q _=>⟨ob,k b ob q⟩,fun _ _ q=>q,fun _ _ _ q=>q,fun _ ps q=>⟨#[],by rw[q];simp⟩⟩
def Un.refl:Un fs ex H H h h:=Un.kept fun _ _ q=>q
def Un.laid (k:∀b u,h.get? b=some u->h'.get? b=some u) (hp:h.objs.size<=a) (hn:H a=none):Un fs ex H (upd H a o) h h' where
 keep:=fun b u q _ _ _=>k b u q
 slot:=fun b u q _ _ _=>⟨u.slots,k b u q⟩
 free:=fun b u q n _=>by rw[Qh (ZN (ZO (Z5 q) hp))];exact n
 there:=fun b u q _=>⟨u,k b u q⟩
 tups:=fun b xs q=>by rw[Qh (Qv q hn)];exact q
 frzs:=fun b u xs q=>by rw[Qh (Qv q hn)];exact q
 tbls:=fun b ps q=>⟨#[],by rw[Qh (Qv q hn),q];simp⟩
def Un.write (mu:Mut (H x)) (he:e=x\/H e=some (.own x)) (k:∀b u,b≠e->h.get? b=some u->h'.get? b=some u) (heo:∃u,h'.get? e=some u):Un fs ex H (upd H x o) h h':=by
 have hx:∀b,H b=none->b≠x:=fun b n z=>by subst z;rw[n]at mu;exact mu
 have hb:∀b,H b=none->b≠e:=fun b n z=>by
  subst z;rcases he with r|r
  ·exact hx b n r
  ·rw[n]at r;cases r
 have hm:∀b u,H b=some u->¬Mut (some u)->b≠x:=fun b u q nm z=>by subst z;rw[q]at mu;exact nm mu
 refine⟨fun b u q n _ _=>k b u (hb b n) q,fun b u q n _ _=>⟨u.slots,k b u (hb b n) q⟩,fun b u q n _=>by rw[Qh (hx b n)];exact n,fun b u q _=>?_,
  fun b xs q=>by rw[Qh (hm b _ q fun z=>z)];exact q,fun b u xs q=>by rw[Qh (hm b _ q fun z=>z)];exact q,fun b ps q=>⟨#[],by rw[Qh (hm b _ q fun z=>z),q];simp⟩⟩
 by_cases hbe:b=e
 ·subst hbe;exact heo
 ·exact⟨u,k b u hbe q⟩
def Un.mono (u:Un fs ex H H1 h h1) (hs:∀b∈fs,b∈fs') (hx:∀b∈ex,b∈ex'):Un fs' ex' H H1 h h1:=
 ⟨fun b ob q n hb he=>u.keep b ob q n (fun z=>hb (hs b z)) fun z=>he (hx b z),fun _ _ q n _ he=>u.any q n fun z=>he (hx _ z),fun b ob q n he=>u.free b ob q n fun z=>he (hx b z),fun b ob q he=>u.there b ob q fun z=>he (hx b z),u.tups,u.frzs,u.tbls⟩
end
def trk(h:Heap)(H:Hp):List Addr:=(List.range h.objs.size).filter fun a=>(H a).isSome
def hidT(h:Heap)(H:Hp):Heap:=PySem.W.hideAll h (trk h H)
def Fz(h:Heap)(H:Hp):(hidT h H).objs.size=h.objs.size:=PySem.W.hideAll_size _ _
def FM{h:Heap}{H:Hp}{b:Addr}{o:Obj}(e:h.get? b=some o)(n:H b=none):(hidT h H).get? b=some o:=
 PySem.W.hideAll_get _ e fun hm=>by
  have q:(H b).isSome=true:=(We.mp hm).2;rw[n]at q;simp at q
def UC{h:Heap}{H:Hp}{b:Addr}{o:Obj}(e:(hidT h H).get? b=some o):h.get? b=some o/\H b=none:=by
 have e':h.get? b=some o:=PySem.W.of_hideAll (trk h H) e;refine⟨e',?_⟩;cases q:H b with
 |none=>rfl
 |some x=>
  have hm:b∈trk h H:=We.mpr ⟨YV.mpr (Z5 e'),by simp[q]⟩;have z:(hidT h H).get? b=none:=PySem.W.hideAll_none (trk h H) hm;rw[z]at e;cases e
def BO(g h:Heap)(L:Addr):List (Addr×Obj):=(List.range h.objs.size).filterMap fun a=>if a=L\/(g.get? a).isSome=true then none else(h.get? a).map fun o=>(a,o)
def rest(g h:Heap)(L d:Addr):List (Addr×Obj):=(BO g h L).filter fun p=>decide (p.1≠d)
structure Mod (K:Za) (mg:Str->Option Value) (base:Heap):Prop where
 kin:K.In base
 glob:base.Ns mainGlobals mg
 blt:∃mb,base.Ns builtinsNs mb/\∀x:Str,x≠"__name__"->mb x=bootBuiltins x
 nolimit:base.NoLimit
structure Cx where
 prog:Program
 w:World
 K:Za
 mg:Str->Option Value
 base:Heap
 A:Around
 N:List Str
 s₀:Shared
 H₀:Hp
 env:Env
 outer:List Env
 stack:List Env
 ex:List Addr
 fn:Str->Bool
 calm:Bool
 pn:List (Addr×Obj)
 xe:Value->Shared->Prop
def frs(l:List Env):List Addr:=l.filterMap (·.frame)
abbrev Cx.fs (X:Cx):List Addr:=frs X.outer
def Vis(sc:Scope)(x:Str):Prop:=sc.names.lookup x=some .local\/sc.names.lookup x=some .cell\/sc.names.lookup x=some .free
def Loc(sc:Scope)(x:Str):Prop:=sc.names.lookup x=some .local\/sc.names.lookup x=some .cell
def Look(env:Env)(h:Heap)(m:Str->Option Value)(x:Str)(u:Value):Prop:=
 (env.kindOf x=some .local/\m x=some u)\/((env.kindOf x=some .cell\/env.kindOf x=some .free)/\∃c,env.cells.lookup x=some c/\h.IsCell c (some u))
structure Cx.Ok (X:Cx):Prop where
 mod:Mod X.K X.mg X.base
 kind:X.env.scope.kind=.function
 glob:X.env.globals=mainGlobals
 blt:X.env.builtins=builtinsNs
 above:X.s₀.heap.objs.size<=X.env.locals
 inj:∀x y c,X.env.cells.lookup x=some c->X.env.cells.lookup y=some c->x=y
 has:∀x,(X.env.kindOf x=some .cell\/X.env.kindOf x=some .free)->∃c,X.env.cells.lookup x=some c
 cab:∀x c,X.fn x=true->X.env.cells.lookup x=some c->X.s₀.heap.objs.size<=c
 hd:X.calm=true->X.A.handled=none
 frames:X.A.frames=some X.stack
 stk:X.stack=X.outer\/(X.stack=X.env::X.outer/\X.env.frame=some X.env.locals)
 exf:∀b∈X.ex,b≠X.env.locals/\∀x c,X.env.cells.lookup x=some c->c≠b
 bs:∀b o,X.base.get? b=some o->X.s₀.heap.get? b=some o/\X.H₀ b=none
 bsz:X.base.objs.size<=X.s₀.heap.objs.size
 noex:∀b o,X.base.get? b=some o->b∉X.ex
 exfs:∀b∈X.ex,b∉X.fs
 funs:X.s₀.heap.FunFrames X.base X.outer
 frf:∀b∈X.fs,X.H₀ b=none
structure Inv (X:Cx) (pins:List (Addr×Obj)) (σ:List (Option V)) (H:Hp) (s:Shared):Prop where
 ok:X.Ok
 os:s.os=X.s₀.os
 bare:AllBare s.gens
 base:Un X.fs X.ex X.H₀ H X.s₀.heap s.heap
 loc:∃m,s.heap.Ns X.env.locals m/\∀(i:Nat) (x:Str) (v:V),X.N[i]?=some x->σ[i]?=some (some v)->Vis X.env.scope x->∃u,RelV v u/\Look X.env s.heap m x u
 cell:∀x c,X.env.cells.lookup x=some c->∃v,s.heap.IsCell c v
 free:H X.env.locals=none
 freeC:∀x c,X.env.cells.lookup x=some c->H c=none
 pin:∀p∈X.pn++pins,s.heap.get? p.1=some p.2/\H p.1=none/\p.1≠X.env.locals/\p.1∉X.fs/\∀v,p.2.data≠.cell v
 hok:HOk X.prog X.w H s.heap
 len:σ.length=X.N.length
section
variable {X:Cx}{pins:List (Addr×Obj)}{σ:List (Option V)}{H H':Hp}{s:Shared}{h':Heap}
def Cx.Ok.nofr (ok:X.Ok) {b:Addr}{o:Obj} (e:X.base.get? b=some o):b∉X.fs:=fun hb=>by
 have:=(ok.funs.mem hb).1
 rw[e]at this;cases this
def Inv.bs (I:Inv X pins σ H s):∀b o,X.base.get? b=some o->s.heap.get? b=some o/\H b=none:=fun b o e=>
 ⟨I.base.keep b o (I.ok.bs b o e).1 (I.ok.bs b o e).2 (I.ok.nofr e) (I.ok.noex b o e),I.base.free b o (I.ok.bs b o e).1 (I.ok.bs b o e).2 (I.ok.noex b o e)⟩
def Inv.bk (I:Inv X pins σ H s):∀b o,X.base.get? b=some o->s.heap.get? b=some o:=fun b o e=>(I.bs b o e).1
def Inv.mod (I:Inv X pins σ H s):Mod X.K X.mg X.base:=I.ok.mod
def Inv.kIn (I:Inv X pins σ H s):X.K.In s.heap:=I.ok.mod.kin.keeps I.bk
def Inv.nolimit (I:Inv X pins σ H s):s.heap.NoLimit:=I.ok.mod.nolimit.keeps I.bk
def Inv.lt (I:Inv X pins σ H s):X.env.locals<s.heap.objs.size:=let ⟨_,hn,_⟩:=I.loc;hn.lt
def Inv.sz (I:Inv X pins σ H s):X.s₀.heap.objs.size<=s.heap.objs.size:=ZM I.ok.above (Wi I.lt)
def Inv.nofs (I:Inv X pins σ H s) {a:Addr} (h:s.heap.objs.size<=a):a∉X.fs:=fun hb=>by
 obtain⟨_,o,ho,_⟩:=I.ok.funs.mem hb;exact absurd (ZO (Z5 ho) (ZM I.sz h)) (Yt _)
def Inv.cne (I:Inv X pins σ H s):∀x c,X.env.cells.lookup x=some c->c≠X.env.locals:=fun x c e z=>by
 obtain⟨v,o,ho,hd⟩:=I.cell x c e;obtain⟨m,⟨o',es,ep,ho',hd',_⟩,_⟩:=I.loc;rw[z,ho']at ho;cases ho;rw[hd']at hd;cases hd
def Inv.funs (I:Inv X pins σ H s):s.heap.FunFrames X.base X.outer:=by
 have all:∀(l:List Env),(∀b∈frs l,b∈X.fs)->X.s₀.heap.FunFrames X.base l->s.heap.FunFrames X.base l:=by
  intro l
  induction l with
  |nil=>intro _ _;trivial
  |cons env r ih=>
   intro hs hl;obtain⟨hk,⟨L,o,hf,hn,ho,hd⟩,hr⟩:=hl;have hL:L∈X.fs:=hs L (by unfold frs;rw[Yy,hf];exact ZK);obtain⟨sl,e⟩:=I.base.slot L o ho (I.ok.frf L hL) hL fun z=>I.ok.exfs L z hL;exact⟨hk,⟨L,_,hf,hn,e,hd⟩,ih (fun b hb=>hs b (by unfold frs;rw[Yy,hf];exact ZH _ hb)) hr⟩
 exact all X.outer (fun _ hb=>hb) I.ok.funs
def Inv.stack (I:Inv X pins σ H s):s.heap.FunFrames X.base X.stack:=by
 rcases I.ok.stk with e|⟨e,hf⟩
 ·rw[e];exact I.funs
 ·rw[e];obtain⟨m,hn,_⟩:=I.loc;refine .cons (by rw[I.ok.kind];decide) hf hn ?_ I.funs;exact Heap.get?_none_of_le (ZM I.ok.bsz I.ok.above)
def Inv.stkSub (I:Inv X pins σ H s):∀b∈frs X.stack,b∈X.env.locals::X.fs:=fun b hb=>by
 rcases I.ok.stk with e|⟨e,hf⟩
 ·rw[e]at hb;exact ZH _ hb
 ·rw[e]at hb;unfold frs at hb;rw[Yy,hf]at hb;exact hb
def Inv.stkFree (I:Inv X pins σ H s):∀b∈frs X.stack,H b=none:=fun b hb=>by
 rcases ZL.mp (I.stkSub b hb)with e|hb
 ·rw[e];exact I.free
 ·obtain⟨_,o,ho,_⟩:=I.ok.funs.mem hb;exact I.base.free b o ho (I.ok.frf b hb) fun z=>I.ok.exfs b z hb
def Inv.step {g':Array GenState}{t':Nat}{d':Drawn}{ch:List Addr} (I:Inv X pins σ H s)
  (hch:∀b∈ch,(b∈X.ex\/X.s₀.heap.objs.size<=b)/\b≠X.env.locals/\(∀x c,X.env.cells.lookup x=some c->c≠b)/\∀p∈X.pn++pins,p.1≠b)
  (keep:∀b o,b≠X.env.locals->b∉X.fs->b∉ch->s.heap.get? b=some o->H b=none->h'.get? b=some o)
  (slot:∀b o,b≠X.env.locals->b∈X.fs->b∉ch->s.heap.get? b=some o->H b=none->∃sl,h'.get? b=some {o with slots:=sl}) (free:∀b o,b∉ch->s.heap.get? b=some o->H b=none->H' b=none)
  (there:∀b o,b∉ch->s.heap.get? b=some o->∃o',h'.get? b=some o')
  (tups:∀b xs,H b=some (.tup xs)->H' b=some (.tup xs)) (frzs:∀b o u,H b=some (.frz o u)->H' b=some (.frz o u)) (tbls:∀b ps,H b=some (.tbl ps)->∃more,H' b=some (.tbl (ps++more)))
  (ns:∀m,s.heap.Ns X.env.locals m->h'.Ns X.env.locals m) (hok:HOk X.prog X.w H' h') (hg:AllBare g') :
  Inv X pins σ H' {s with heap:=h',gens:=g',drawn:=d',toks:=t'}:=by
 have neL:∀b o,X.s₀.heap.get? b=some o->b≠X.env.locals:=fun b o e=>ZN (ZO (Z5 e) I.ok.above)
 have neC:∀b o,X.s₀.heap.get? b=some o->b∉X.ex->b∉ch:=fun b o e hx hb=>by
  rcases(hch b hb).1 with z|z
  ·exact hx z
  ·exact absurd (ZO (Z5 e) z) (Yt _)
 have cellK:∀x c,X.env.cells.lookup x=some c->∀v,s.heap.IsCell c v->h'.IsCell c v:=fun x c e v ⟨o,ho,hd⟩=>by
  have nch:c∉ch:=fun z=>(hch c z).2.2.1 x c e rfl;by_cases hc:c∈X.fs
  ·obtain⟨sl,q⟩:=slot c o (I.cne x c e) hc nch ho (I.freeC x c e);exact⟨_,q,hd⟩
  ·exact⟨o,keep c o (I.cne x c e) hc nch ho (I.freeC x c e),hd⟩
 refine⟨I.ok,I.os,hg,⟨fun b o e n hb hx=>?_,fun b o e n hb hx=>?_,fun b o e n hx=>?_,fun b o e hx=>?_,fun b xs e=>tups b xs (I.base.tups b xs e),fun b o xs e=>frzs b o xs (I.base.frzs b o xs e),fun b ps e=>?_⟩,?_,fun x c e=>?_,?_,fun x c e=>?_,fun p hp=>?_,hok,I.len⟩
 ·exact keep b o (neL b o e) hb (neC b o e hx) (I.base.keep b o e n hb hx) (I.base.free b o e n hx)
 ·obtain⟨sl,e1⟩:=I.base.slot b o e n hb hx;obtain⟨sl',e2⟩:=slot b _ (neL b o e) hb (neC b o e hx) e1 (I.base.free b o e n hx);exact⟨sl',e2⟩
 ·obtain⟨o',e1⟩:=I.base.there b o e hx;exact free b o' (neC b o e hx) e1 (I.base.free b o e n hx)
 ·obtain⟨o',e1⟩:=I.base.there b o e hx;exact there b o' (neC b o e hx) e1
 ·obtain⟨m1,e1⟩:=I.base.tbls b ps e;obtain⟨m2,e2⟩:=tbls b _ e1;exact⟨m1++m2,by rw[e2,Array.append_assoc]⟩
 ·obtain⟨m,hn,hl⟩:=I.loc;refine⟨m,ns m hn,fun i x v e1 e2 e3=>?_⟩;obtain⟨u,r,l⟩:=hl i x v e1 e2 e3;refine⟨u,r,?_⟩;rcases l with l|⟨k,c,e,z⟩
  ·exact .inl l
  ·exact .inr ⟨k,c,e,cellK x c e _ z⟩
 ·obtain⟨v,z⟩:=I.cell x c e;exact⟨v,cellK x c e v z⟩
 ·obtain⟨m,⟨o,_,_,ho,_⟩,_⟩:=I.loc;exact free _ o (fun z=>(hch _ z).2.1 rfl) ho I.free
 ·obtain⟨v,o,ho,hd⟩:=I.cell x c e;exact free c o (fun z=>(hch c z).2.2.1 x c e rfl) ho (I.freeC x c e)
 ·obtain⟨e,n,ne,nf,d⟩:=I.pin p hp;have nch:p.1∉ch:=fun z=>(hch p.1 z).2.2.2 p hp rfl;exact⟨keep p.1 p.2 ne nf nch e n,free p.1 p.2 nch e n,ne,nf,d⟩
def Inv.un {t':Nat} (I:Inv X pins σ H s) (u:Un X.fs [] H H' s.heap h') (hok:HOk X.prog X.w H' h'):Inv X pins σ H' {s with heap:=h',toks:=t'}:=by
 obtain⟨m,⟨o,es,ep,ho,r⟩,_⟩:=id I.loc;obtain⟨sl,hL⟩:=u.any ho I.free (by simp)
 exact I.step (g':=s.gens) (d':=s.drawn) (ch:=[]) (fun _ z=>nomatch z) (fun b o _ hb _ e n=>u.keep b o e n hb (by simp)) (fun b o _ hb _ e n=>u.slot b o e n hb (by simp)) (fun b o _ e n=>u.free b o e n (by simp)) (fun b o _ e=>u.there b o e (by simp)) u.tups u.frzs u.tbls (fun m' hm=>by
  obtain⟨o',es',ep',ho',r'⟩:=hm;rw[ho]at ho';cases ho';exact⟨_,es',ep',hL,r'⟩) hok I.bare
def Inv.call {g':Array GenState}{t':Nat}{d':Drawn}{ch:List Addr} (I:Inv X pins σ H s) (u:Un (frs X.stack) ch H H' s.heap h') (hok:HOk X.prog X.w H' h') (hg:AllBare g')
  (hch:∀b∈ch,(b∈X.ex\/X.s₀.heap.objs.size<=b)/\b≠X.env.locals/\(∀x c,X.env.cells.lookup x=some c->c≠b)/\∀p∈X.pn++pins,p.1≠b) :
  Inv X pins σ H' {s with heap:=h',gens:=g',drawn:=d',toks:=t'}:=by
 obtain⟨m,⟨o,es,ep,ho,r⟩,_⟩:=id I.loc;obtain⟨sl,hL⟩:=u.any ho I.free fun z=>(hch _ z).2.1 rfl
 exact I.step (ch:=ch) hch (fun b o hL hb hc e n=>u.keep b o e n (fun z=>(ZL.mp (I.stkSub b z)).elim hL hb) hc) (fun b o _ _ hc e n=>u.any e n hc) (fun b o hc e n=>u.free b o e n hc) (fun b o hc e=>u.there b o e hc) u.tups u.frzs u.tbls (fun m' hm=>by
  obtain⟨o',es',ep',ho',r'⟩:=hm;rw[ho]at ho';cases ho';exact⟨_,es',ep',hL,r'⟩) hok hg
def Inv.turned {t':Nat}{it:Addr} (I:Inv X pins σ H s) (k:∀b o,b≠it->s.heap.get? b=some o->h'.get? b=some o) (hn:H it=none) (hL:it≠X.env.locals)
  (h1:it∈X.ex\/X.s₀.heap.objs.size<=it) (h2:∀x c,X.env.cells.lookup x=some c->c≠it) (h3:∀p∈X.pn++pins,p.1≠it):Inv X pins σ H {s with heap:=h',toks:=t'}:=by
 have nit:∀b u,H b=some u->b≠it:=fun b u e z=>by rw[z,hn]at e;cases e
 refine I.step (g':=s.gens) (d':=s.drawn) (ch:=[it]) (fun b hb=>?_) (fun b o _ _ hc e _=>k b o (fun z=>hc (by simp[z])) e) (fun b o _ _ hc e _=>⟨o.slots,k b o (fun z=>hc (by simp[z])) e⟩) (fun _ _ _ _ n=>n)
  (fun b o hc e=>⟨o,k b o (fun z=>hc (by simp[z])) e⟩) (fun _ _ e=>e) (fun _ _ _ e=>e) (fun b ps e=>⟨#[],by rw[e];simp⟩) (fun m hm=>?_) (fun b u e=>?_) I.bare
 ·have e:b=it:=by simpa using hb
  subst e;exact⟨h1,hL,h2,h3⟩
 ·obtain⟨o,es,ep,ho,r⟩:=hm;exact⟨o,es,ep,k _ o (Ne.symm hL) ho,r⟩
 ·refine(I.hok b u e).stay (fun c v hc q=>k c v ?_ q) (fun _ q=>q) fun _ _ q=>q;rcases hc with z|z
  ·rw[z];exact nit b u e
  ·exact nit c _ z
def Inv.tok (I:Inv X pins σ H s) (t:Nat):Inv X pins σ H {s with toks:=t}:=I.un (h':=s.heap) (t':=t) Un.refl I.hok
def Inv.kept {t':Nat} (I:Inv X pins σ H s) (k:∀b u,s.heap.get? b=some u->h'.get? b=some u):Inv X pins σ H {s with heap:=h',toks:=t'}:=I.un (Un.kept k) (I.hok.kept k)
def Inv.laid {a:Addr}{o:HO}{t':Nat} (I:Inv X pins σ H s) (k:∀b u,s.heap.get? b=some u->h'.get? b=some u) (hp:s.heap.objs.size<=a) (new:ObjOk X.prog X.w (upd H a o) h' a o) :
  Inv X pins σ (upd H a o) {s with heap:=h',toks:=t'}:=I.un (Un.laid k hp (I.hok.fresh hp)) (I.hok.laid k hp new)
def Inv.write {x e:Addr}{o:HO}{t':Nat} (I:Inv X pins σ H s) (mu:Mut (H x)) (he:e=x\/H e=some (.own x)) (k:∀b u,b≠e->s.heap.get? b=some u->h'.get? b=some u) (heo:∃u,h'.get? e=some u)
  (new:ObjOk X.prog X.w (upd H x o) h' x o):Inv X pins σ (upd H x o) {s with heap:=h',toks:=t'}:=I.un (Un.write mu he k heo) (I.hok.write mu he k heo new)
def Inv.weak {σ':List (Option V)} (I:Inv X pins σ H s) (hl:σ'.length=σ.length) (w:∀(i:Nat) v,σ'[i]?=some (some v)->σ[i]?=some (some v)):Inv X pins σ' H s:=
 ⟨I.ok,I.os,I.bare,I.base,let ⟨m,hn,hl'⟩:=I.loc;⟨m,hn,fun i x v e1 e2 e3=>hl' i x v e1 (w i v e2) e3⟩,I.cell,I.free,I.freeC,I.pin,I.hok,hl.trans I.len⟩
def Inv.pins_of {pins':List (Addr×Obj)} (I:Inv X pins σ H s) (h:∀p∈pins',s.heap.get? p.1=some p.2/\H p.1=none/\p.1≠X.env.locals/\p.1∉X.fs/\∀v,p.2.data≠.cell v):Inv X pins' σ H s:=
 ⟨I.ok,I.os,I.bare,I.base,I.loc,I.cell,I.free,I.freeC,fun p hp=>(Yp.mp hp).elim (fun z=>I.pin p (YJ _ z)) (h p),I.hok,I.len⟩
def Pf{N:List Str}(hN:N.Nodup){i j:Nat}{x:Str}(a:N[i]?=some x)(b:N[j]?=some x):i=j:=by
 obtain⟨h1,e1⟩:=ZV.mp a;obtain⟨h2,e2⟩:=ZV.mp b;exact(List.getElem_inj hN).mp (e1.trans e2.symm)
def AZ{M:Model}{A:Around}{E:Value->Shared->Prop}{i:Nat}{x:Str}{v:V}{u:Value}{Q:Unit->Shared->Prop}(I:Inv X pins σ H s)(hN:X.N.Nodup)(hi:X.N[i]?=some x)(hx:Loc X.env.scope x)(r:RelV v u)(h:∀s',Inv X pins (σ.set i (some v)) H s'->(∃a,Heap.SameBut a s.heap s'.heap/\(a=X.env.locals\/X.env.cells.lookup x=some a))->Q () s')(hf:X.fn x=true\/X.env.scope.names.lookup x=some .local:=by first|exact .inl rfl|exact .inr rfl|assumption):wpAny M A (storeName X.env x u) Q E s:=by
 obtain⟨m,hn,hl⟩:=id I.loc;have hcls:(X.env.scope.kind == .class || (X.env.scope.kind == .module&&X.env.locals != X.env.globals))=false:=by rw[I.ok.kind];rfl
 have hiσ:i<σ.length:=by rw[I.len];exact(ZV.mp hi).1
 have cne:=I.cne
 have tracked:∀{a:Addr} {h':Heap},(∃o,s.heap.get? a=some o/\H a=none)->Heap.SameBut a s.heap h'->HOk X.prog X.w H h':=fun {a h'} ha hs b ob e=>by
  obtain⟨_,_,hfree⟩:=ha;refine(I.hok b ob e).stay (fun c w' hc q=>(hs.2 c ?_).trans q) (fun _ q=>q) fun _ _ q=>q;rintro rfl;rcases hc with rfl|hc
  ·rw[hfree]at e;cases e
  ·rw[hfree]at hc;cases hc
 rcases hx with hk|hk
 ·refine wpAny_storeName_local hk hn (fun h' hn' hs=>?_) hcls;obtain⟨oL,_,_,hoL,_⟩:=id hn;refine h _ ⟨I.ok,I.os,I.bare,⟨fun b o e n hb hx=>?_,fun b o e n hb hx=>?_,I.base.free,fun b o e hx=>?_,I.base.tups,I.base.frzs,I.base.tbls⟩,⟨_,hn',fun j y v' e1 e2 e3=>?_⟩,fun y c e=>?_,I.free,I.freeC,fun p hp=>?_,tracked ⟨oL,hoL,I.free⟩ hs,by simpa using I.len⟩ ⟨_,hs,.inl rfl⟩
  ·exact(hs.2 b (ZN (ZO (Z5 e) I.ok.above))).trans (I.base.keep b o e n hb hx)
  ·obtain⟨sl,e1⟩:=I.base.slot b o e n hb hx;exact⟨sl,(hs.2 b (ZN (ZO (Z5 e) I.ok.above))).trans e1⟩
  ·obtain⟨o',e1⟩:=I.base.there b o e hx;exact⟨o',(hs.2 b (ZN (ZO (Z5 e) I.ok.above))).trans e1⟩
  ·by_cases hj:j=i
   ·subst hj;rw[hi]at e1;cases e1;rw[Wu hiσ]at e2;cases e2
    exact⟨u,r,.inl ⟨hk,by simp⟩⟩
   ·rw[YY (Ne.symm hj)]at e2;obtain⟨u',r',q⟩:=hl j y v' e1 e2 e3;refine⟨u',r',?_⟩;rcases q with⟨k,e⟩|⟨k,c,e,z⟩
    ·refine .inl ⟨k,?_⟩
     have:y≠x:=fun e=>hj (Pf hN e1 (e▸hi))
     simp[this,e]
    ·exact .inr ⟨k,c,e,z.sameBut hs (cne y c e)⟩
  ·obtain⟨w',z⟩:=I.cell y c e;exact⟨w',z.sameBut hs (cne y c e)⟩
  ·obtain⟨e,n,ne,nf,d⟩:=I.pin p hp;exact⟨(hs.2 p.1 ne).trans e,n,ne,nf,d⟩
 ·have hfn:X.fn x=true:=by
   rcases hf with z|z
   ·exact z
   ·rw[z]at hk;cases hk
  obtain⟨c,hc⟩:=I.ok.has x (.inl hk);obtain⟨w',z⟩:=I.cell x c hc;refine wpAny_storeName_cell I.ok.kind hk hc z (fun h' hc' hs=>?_);obtain⟨oc,hoc,hocd⟩:=id z;refine h {s with heap:=h'} ⟨I.ok,I.os,I.bare,⟨fun b o e n hb hx=>?_,fun b o e n hb hx=>?_,I.base.free,fun b o e hx=>?_,I.base.tups,I.base.frzs,I.base.tbls⟩,⟨m,hn.sameBut hs (Ne.symm (cne x c hc)),fun j y v' e1 e2 e3=>?_⟩,fun y c' e=>?_,I.free,I.freeC,fun p hp=>?_,tracked ⟨oc,hoc,I.freeC x c hc⟩ hs,by simpa using I.len⟩ ⟨c,hs,.inr hc⟩
  ·exact(hs.2 b (ZN (ZO (Z5 e) (I.ok.cab x c hfn hc)))).trans (I.base.keep b o e n hb hx)
  ·obtain⟨sl,e1⟩:=I.base.slot b o e n hb hx;exact⟨sl,(hs.2 b (ZN (ZO (Z5 e) (I.ok.cab x c hfn hc)))).trans e1⟩
  ·obtain⟨o',e1⟩:=I.base.there b o e hx;exact⟨o',(hs.2 b (ZN (ZO (Z5 e) (I.ok.cab x c hfn hc)))).trans e1⟩
  ·by_cases hj:j=i
   ·subst hj;rw[hi]at e1;cases e1;rw[Wu hiσ]at e2;cases e2
    exact⟨u,r,.inr ⟨.inl hk,c,hc,hc'⟩⟩
   ·rw[YY (Ne.symm hj)]at e2;obtain⟨u',r',q⟩:=hl j y v' e1 e2 e3;refine⟨u',r',?_⟩;rcases q with q|⟨k,c',e,z'⟩
    ·exact .inl q
    ·refine .inr ⟨k,c',e,z'.sameBut hs ?_⟩;rintro rfl;exact hj (Pf hN e1 (I.ok.inj _ _ _ e hc▸hi))
  ·by_cases hcc:c'=c
   ·subst hcc;exact⟨_,hc'⟩
   ·obtain⟨w2,z2⟩:=I.cell y c' e;exact⟨w2,z2.sameBut hs hcc⟩
  ·obtain⟨e,n,ne,nf,d⟩:=I.pin p hp;refine⟨(hs.2 p.1 ?_).trans e,n,ne,nf,d⟩;intro q;rw[q,hoc]at e;have q':oc=p.2:=Z6 e;exact d w' (by rw[←q'];exact hocd)
def JN{M:Model}{A:Around}{E:Value->Shared->Prop}{i:Nat}{x:Str}{v:V}{u:Value}{Q:Unit->Shared->Prop}(I:Inv X pins σ H s)(hN:X.N.Nodup)(hi:X.N[i]?=some x)(hx:Loc X.env.scope x)(r:RelV v u)(h:∀s',Inv X pins (σ.set i (some v)) H s'->Q () s')(hf:X.fn x=true\/X.env.scope.names.lookup x=some .local:=by first|exact .inl rfl|exact .inr rfl|assumption):wpAny M A (storeName X.env x u) Q E s:=
 AZ I hN hi hx r (fun s' I' _=>h s' I') hf
def Inv.call' {s':Shared}{ch:List Addr} (I:Inv X pins σ H s) (ho:s'.os=s.os) (u:Un (frs X.stack) ch H H' s.heap s'.heap) (hok:HOk X.prog X.w H' s'.heap) (hg:AllBare s'.gens)
  (hch:∀b∈ch,(b∈X.ex\/X.s₀.heap.objs.size<=b)/\b≠X.env.locals/\(∀x c,X.env.cells.lookup x=some c->c≠b)/\∀p∈X.pn++pins,p.1≠b):Inv X pins σ H' s':=by
 obtain⟨h',g',d',t',o'⟩:=s';have e:o'=s.os:=ho;subst e;exact I.call (g':=g') (t':=t') (d':=d') u hok hg hch
end
abbrev XK:=Value->Option Addr->Hp->Prop
abbrev St:=List (Option V)
abbrev VK:=V->Hp->Prop
abbrev TE:=St->Hp->VK->Prop
abbrev TT:=St->Hp->(Bool->Hp->Prop)->Prop
abbrev TA:=St->Hp->(List V->Hp->Prop)->Prop
structure Ends where
 nx:St->Hp->Prop
 rt:VK
 bk:St->Hp->Prop:=fun _ _=>False
 ct:St->Hp->Prop:=fun _ _=>False
abbrev TS:=Ends->St->Hp->Prop
def EP(X:Cx)(pins:List (Addr×Obj))(σ:St)(Q:VK)(u:Value)(s':Shared):Prop:=∃v H',Inv X pins σ H' s'/\RelV v u/\Q v H'
def TP(X:Cx)(pins:List (Addr×Obj))(σ:St)(Q:Bool->Hp->Prop)(b:Bool)(s':Shared):Prop:=∃H',Inv X pins σ H' s'/\Q b H'
def AP(X:Cx)(pins:List (Addr×Obj))(σ:St)(Q:List V->Hp->Prop)(us:List Value)(s':Shared):Prop:=∃vs H',Inv X pins σ H' s'/\Vals vs us/\Q vs H'
def SP(X:Cx)(pins:List (Addr×Obj))(D:Ends)(f:Flow)(s':Shared):Prop:=
 match f with
 | .next=>∃σ' H',Inv X pins σ' H' s'/\D.nx σ' H'
 | .brk=>∃σ' H',Inv X pins σ' H' s'/\D.bk σ' H'
 | .cont=>∃σ' H',Inv X pins σ' H' s'/\D.ct σ' H'
 | .ret u=>∃v σ' H',Inv X pins σ' H' s'/\RelV v u/\D.rt v H'
def PE(X:Cx)(e:Expr)(t:TE):Prop:=
 ∀(pins:List (Addr×Obj)) (s:Shared) (σ:St) (H:Hp) (Q:VK),Inv X pins σ H s->t σ H Q->wpAny (model X.prog X.w) X.A (eval e X.env) (EP X pins σ Q) X.xe s
def PT(X:Cx)(e:Expr)(t:TT):Prop:=
 ∀(pins:List (Addr×Obj)) (s:Shared) (σ:St) (H:Hp) (Q:Bool->Hp->Prop),Inv X pins σ H s->t σ H Q->wpAny (model X.prog X.w) X.A (isTrue e X.env (eval e X.env)) (TP X pins σ Q) X.xe s
def PW(X:Cx)(e:Expr)(t:TT):Prop:=
 ∀(whole:Sem Value) (pins:List (Addr×Obj)) (s:Shared) (σ:St) (H:Hp) (Q:Bool->Hp->Prop),Inv X pins σ H s->t σ H Q->wpAny (model X.prog X.w) X.A (isTrue e X.env whole) (TP X pins σ Q) X.xe s
def PW.pt {X:Cx}{e:Expr}{t:TT} (h:PW X e t):PT X e t:=h _
def PA(X:Cx)(es:List Expr)(t:TA):Prop:=
 ∀(pos:Pos) (pins:List (Addr×Obj)) (s:Shared) (σ:St) (H:Hp) (Q:List V->Hp->Prop),Inv X pins σ H s->t σ H Q->wpAny (model X.prog X.w) X.A (spliced (backTo pos (starEach es X.env))) (AP X pins σ Q) X.xe s
def PS(X:Cx)(st:Stmt)(t:TS):Prop:=
 ∀(pins:List (Addr×Obj)) (s:Shared) (σ:St) (H:Hp) (D:Ends),Inv X pins σ H s->t D σ H->wpAny (model X.prog X.w) X.A (exec st X.env) (SP X pins D) X.xe s
def PSs(X:Cx)(st:List Stmt)(t:TS):Prop:=
 ∀(pins:List (Addr×Obj)) (s:Shared) (σ:St) (H:Hp) (D:Ends),Inv X pins σ H s->t D σ H->wpAny (model X.prog X.w) X.A (execs st X.env) (SP X pins D) X.xe s
def thn{α:Type}{t:Sem α}{Q Q':α->Shared->Prop}{M:Model}{A:Around}{E:Value->Shared->Prop}{s:Shared}(h:wpAny M A t Q E s)(hQ:∀a s,Q a s->Q' a s):wpAny M A t Q' E s:=Yh h hQ fun _ _ x=>x
section
variable {X:Cx}
def bin{a b:Expr}{ta tb:TE}(ha:PE X a ta)(hb:PE X b tb){pins:List (Addr×Obj)}{s:Shared}{σ:St}{H:Hp}{R:V->V->Hp->Prop}(I:Inv X pins σ H s)(h:ta σ H fun x H1=>tb σ H1 fun y H2=>R x y H2){α:Type}{Q:α->Shared->Prop}{f:Value->Value->Sem α}(hf:∀v u s2 x y H2,Inv X pins σ H2 s2->RelV x v->RelV y u->R x y H2->wpAny (model X.prog X.w) X.A (f v u) Q X.xe s2) :
  wpAny (model X.prog X.w) X.A (eval a X.env) (fun v s₁=>wpAny (model X.prog X.w) X.A (eval b X.env) (fun u s₂=>wpAny (model X.prog X.w) X.A (f v u) Q X.xe s₂) X.xe s₁) X.xe s:=by
 refine thn (ha pins s σ H _ I h) fun v s1 ⟨x,H1,I1,r1,q1⟩=>?_;refine thn (hb pins s1 σ H1 _ I1 q1) fun u s2 ⟨y,H2,I2,r2,q2⟩=>?_;exact hf v u s2 x y H2 I2 r1 r2 q2
def tVar(i:Nat):TE:=fun σ H Q=>∃v,σ[i]?=some (some v)/\Q v H
def tC(v:V):TE:=fun _ H Q=>Q v H
def FS{i:Nat}{x:Str}{pos:Pos}(hN:X.N[i]?=some x)(hv:Vis X.env.scope x)(hd:(x==("__debug__" : Str))=false:=by decide)(hcd:(x==("__classdict__" : Str))=false:=by decide):PE X (.Name x pos) (tVar i):=by
 intro pins s σ H Q I h;obtain⟨v,e,h⟩:=h;obtain⟨m,hn,hl⟩:=I.loc;obtain⟨u,r,l⟩:=hl i x v hN e hv;have fin:EP X pins σ Q u s:=⟨v,H,I,r,h⟩;rcases l with⟨hk,hm⟩|⟨hk,c,hc,hcell⟩
 ·exact wpAny_Name (wpAny_loadName_local I.ok.kind hk hn hm fin) hd
 ·rcases hk with hk|hk
  ·exact wpAny_Name (wpAny_loadName_cell I.ok.kind hk hc hcell fin) hd
  ·exact wpAny_Name (wpAny_loadName_free I.ok.kind hk hc hcell fin hcd) hd
def WY{i j pos}:PE X (.Constant (.int i) j pos) (tC (.int i)):=fun _ _ _ H _ I h=>wpAny_Constant_int ⟨.int i,H,I.tok _,⟨_,rfl⟩,h⟩
def QB{b j pos}:PE X (.Constant (.bool b) j pos) (tC (.bl b)):=fun _ _ _ H _ I h=>Constant_bool ⟨.bl b,H,I,rfl,h⟩
def Up{j pos}:PE X (.Constant .none j pos) (tC .non):=fun _ _ _ H _ I h=>Constant_none ⟨.non,H,I,rfl,h⟩
def BB{x j pos}:PE X (.Constant (.str x) j pos) (tC (.str x)):=fun _ _ _ H _ I h=>Calls.Constant_str ⟨.str x,H,I.tok _,⟨_,rfl⟩,h⟩
def Gl(X:Cx)(x:Str):Prop:=X.env.kindOf x=some .globalImplicit
def PF{E:Value->Shared->Prop}{pins:List (Addr×Obj)}{s:Shared}{σ:St}{H:Hp}{x:Str}{u:Value}{pos:Pos}{Q:Value->Shared->Prop}(I:Inv X pins σ H s)(hg:Gl X x)(hm:X.mg x=some u)(h:Q u s)(hd:(x==("__debug__" : Str))=false:=by decide):wpAny (model X.prog X.w) X.A (eval (.Name x pos) X.env) Q E s:=
 Calls.Name_function_global I.ok.kind hg (Calls.loadGlobal_global (by rw[I.ok.glob];exact I.mod.glob.keeps I.bk) hm h) hd
def VI{E:Value->Shared->Prop}{pins:List (Addr×Obj)}{s:Shared}{σ:St}{H:Hp}{x:Str}{u:Value}{pos:Pos}{Q:Value->Shared->Prop}(I:Inv X pins σ H s)(hg:Gl X x)(hm:X.mg x=none)(hv:bootBuiltins x=some u)(h:Q u s)(hn:x≠"__name__":=by decide)(hd:(x==("__debug__" : Str))=false:=by decide):wpAny (model X.prog X.w) X.A (eval (.Name x pos) X.env) Q E s:=by
 obtain⟨mb,h1,h2⟩:=I.mod.blt;exact Calls.Name_function_global I.ok.kind hg (Calls.loadGlobal_builtin (by rw[I.ok.glob];exact I.mod.glob.keeps I.bk) hm (by rw[I.ok.blt];exact h1.keeps I.bk) ((h2 x hn).trans hv) h) hd
def V1{x:Str}{v:V}{u:Value}{pos:Pos}(hg:Gl X x)(hm:X.mg x=none)(hv:bootBuiltins x=some u)(r:RelV v u)(hn:x≠"__name__":=by decide)(hd:(x==("__debug__" : Str))=false:=by decide):PE X (.Name x pos) (tC v):=
 fun _ _ _ H _ I h=>VI I hg hm hv ⟨v,H,I,r,h⟩ hn hd
variable {a b:Expr}{ta tb:TE}{pos:Pos}
def PC(X:Cx)(op:CmpOp)(a b:Expr)(t:TE):Prop:=
 ∀(pins:List (Addr×Obj)) (s:Shared) (σ:St) (H:Hp) (Q:VK),Inv X pins σ H s->t σ H Q->
  wpAny (model X.prog X.w) X.A (eval a X.env) (fun v s₁=>wpAny (model X.prog X.w) X.A (eval b X.env) (fun u s₂=>wpAny (model X.prog X.w) X.A (compareOp op v u) (EP X pins σ Q) X.xe s₂) X.xe s₁) X.xe s
def SL(b:Expr){op:CmpOp}(h:op≠.In)(h2:op≠.NotIn):behindInMarks op b=false:=by
 have e1:(op==CmpOp.In)=false:=by cases op<;>first|rfl|exact absurd rfl h
 have e2:(op==CmpOp.NotIn)=false:=by cases op<;>first|rfl|exact absurd rfl h2
 cases b<;>simp[behindInMarks,e1,e2]
def tIsN(ta:TE):TE:=fun σ H Q=>ta σ H fun x H1=>Q (.bl (decide (x=.non))) H1
def RelV.none_iff {x:V}{v:Value} (r:RelV x v):(v==Value.none)=decide (x=.non):=by
 cases x with
 |non=>cases r;rfl
 |bl _=>cases r;rfl
 |int _=>obtain⟨t,rfl⟩:=r;rfl
 |str _=>obtain⟨t,rfl⟩:=r;rfl
 |byt _=>obtain⟨t,rfl⟩:=r;rfl
 |flt _=>obtain⟨t,rfl⟩:=r;rfl
 |ref _=>cases r;rfl
 |ty _=>cases r;rfl
def Nu{j pos'}(ha:PE X a ta):PC X .Is a (.Constant .none j pos') (tIsN ta):=by
 intro pins s σ H Q I h;refine thn (ha pins s σ H _ I h) fun v s1 ⟨x,H1,I1,r1,q1⟩=>?_;exact Constant_none (is_none_gen ⟨.bl _,H1,I1,by rw[r1.none_iff];rfl,q1⟩)
def tB(t:TE):TT:=fun σ H Q=>t σ H fun x H1=>∃c,x=.bl c/\Q c H1
def T5{op:CmpOp}{t:TE}(h:PC X op a b t)(h1:behindInMarks op b=false:=by first|exact SL _ (by decide) (by decide)|rfl):PT X (.Compare a [op] [b] pos) (tB t):=by
 intro pins s σ H Q I hw;refine wpAny_isTrue_Compare1 (thn (h pins s σ H _ I hw) fun v s1 h1=>thn h1 fun u s2 h2=>thn h2 fun c s3 ⟨x,H1,I1,r1,q1⟩=>?_) h1;obtain⟨d,rfl,q⟩:=q1;cases r1
 exact YH ⟨H1,I1,q⟩
def Jd{e:Expr}{t:TE}(h:PE X e t)(he:∀whole,isTrue e X.env whole=(do let v ←whole;standAt e.pos;holding [v] (truthy v)):=by intro _;rfl):PT X e (tB t):=by
 intro pins s σ H Q I hw;refine isTrue_plain (thn (h pins s σ H _ I hw) fun v s1 ⟨x,H1,I1,r1,q1⟩=>?_) (he _);obtain⟨d,rfl,q⟩:=q1;cases r1
 exact YH ⟨H1,I1,q⟩
variable {tA tB':TT}{rest:List Expr}
def tOr(t u:TT):TT:=fun σ H Q=>t σ H fun c H1=>if c=true then Q true H1 else u σ H1 Q
def tNot(t:TT):TT:=fun σ H Q=>t σ H fun c H1=>Q (!c) H1
def Vb(ha:PT X a tA):PW X (.BoolOp .Or [a] pos) tA:=by
 intro wh pins s σ H Q I h;refine isTrue_or (thn (ha pins s σ H Q I h) fun c s1 e=>?_);cases c with
 |false=>exact isTrue_or_nil e
 |true=>exact e
def QY(ha:PT X a tA)(hb:PW X (.BoolOp .Or (b::rest) pos) tB'):PW X (.BoolOp .Or (a::b::rest) pos) (tOr tA tB'):=by
 intro wh pins s σ H Q I h;refine isTrue_or (thn (ha pins s σ H _ I h) fun c s1 ⟨H1,I1,q1⟩=>?_);cases c with
 |true=>exact⟨H1,I1,q1⟩
 |false=>exact hb wh pins s1 σ H1 Q I1 q1
def Va(ha:PT X a tA):PT X (.UnaryOp .Not a pos) (tNot tA):=by
 intro pins s σ H Q I h;exact isTrue_not (ha pins s σ H (fun c H1=>Q (!c) H1) I h)
def K8(ta tb:TE):TE:=fun σ H Q=>ta σ H fun x H1=>∃c,x=.bl c/\if c=true then tb σ H1 Q else Q (.bl false) H1
def Aw(ta:TE):TE:=fun σ H Q=>ta σ H fun x H1=>∃c,x=.bl c/\Q (.bl (!c)) H1
def TY{op}{t:TE}(h:PE X a t):PE X (.BoolOp op [a] pos) t:=fun pins s σ H Q I hw=>BoolOp_one (h pins s σ H Q I hw)
def PX(ha:PE X a ta)(hb:PE X (.BoolOp .And (b::rest) pos) tb):PE X (.BoolOp .And (a::b::rest) pos) (K8 ta tb):=by
 intro pins s σ H Q I h;refine BoolOp_and (thn (ha pins s σ H _ I h) fun v s1 ⟨x,H1,I1,r1,q1⟩=>?_);obtain⟨c,rfl,q1⟩:=q1;cases r1
 refine YH ?_;cases c with
 |true=>exact hb pins s1 σ H1 Q I1 q1
 |false=>exact⟨.bl false,H1,I1,rfl,q1⟩
def SH(ha:PE X a ta):PE X (.UnaryOp .Not a pos) (Aw ta):=by
 intro pins s σ H Q I h;refine UnaryOp_ (thn (ha pins s σ H _ I h) fun v s1 ⟨x,H1,I1,r1,q1⟩=>?_);obtain⟨c,rfl,q1⟩:=q1;cases r1
 exact not_of (YH ⟨.bl (!c),H1,I1,rfl,q1⟩)
end
def SqL(K:Za)(H:Hp)(a:Addr)(xs:List V):Prop:=
 Rd H a (.lst xs)\/
  ∃(o:Obj) (its:Array Value) (n:Nat),K.lookup a=some o/\o.cls=.type "list"/\o.dict=none/\o.data=.seq its n/\its.size<=sizeLine/\Vals xs its.toList
def SqT(K:Za)(H:Hp)(a:Addr)(xs:List V):Prop:=
 Rd H a (.tup xs)\/
  ∃(o:Obj) (its:Array Value) (n:Nat),K.lookup a=some o/\o.cls=.type "tuple"/\o.data=.seq its n/\its.size<=sizeLine/\Vals xs its.toList
def absV:Value->Option V
 | .none=>some .non
 | .bool b=>some (.bl b)
 | .int i _=>some (.int i)
 | .str x _=>some (.str x)
 | .bytes b _=>some (.byt b)
 | .float b _=>some (.flt b)
 | .ref a=>some (.ref a)
 | .type n=>some (.ty n)
 |_=>none
def RelV.abs {x:V}{u:Value} (r:RelV x u):absV u=some x:=by
 cases x with
 |non=>cases r;rfl
 |bl _=>cases r;rfl
 |int _=>obtain⟨t,rfl⟩:=r;rfl
 |str _=>obtain⟨t,rfl⟩:=r;rfl
 |byt _=>obtain⟨t,rfl⟩:=r;rfl
 |flt _=>obtain⟨t,rfl⟩:=r;rfl
 |ref _=>cases r;rfl
 |ty _=>cases r;rfl
def RelV.inj {x y:V}{u:Value} (r:RelV x u) (q:RelV y u):x=y:=Z6 (r.abs.symm.trans q.abs)
def Vals.inj:∀{xs ys:List V}{us:List Value},Vals xs us->Vals ys us->xs=ys
 |_,_,_,.nil,.nil=>rfl
 |_,_,_,.cons r t,.cons r' t'=>by rw[r.inj r',Vals.inj t t']
section
variable {X:Cx}{pins:List (Addr×Obj)}{σ:St}{H:Hp}{s:Shared}{a:Addr}{xs ys:List V}
def SqL.of {K:Za} (h:H a=some (.lst xs)):SqL K H a xs:=.inl (.inl h)
def SqT.of {K:Za} (h:H a=some (.tup xs)):SqT K H a xs:=.inl (.inl h)
def Inv.list (I:Inv X pins σ H s) (h:SqL X.K H a xs):∃its:List Value,Vals xs its/\PlainL s.heap a its.toArray/\xs.length<=sizeLine:=by
 rcases h with h|⟨o,its,n,hk,hc,hd,hs,hz,r⟩
 ·obtain⟨z,its,n,r,e⟩:=h.ok I.hok;exact⟨its,r,⟨_,n,e,rfl,rfl,rfl⟩,z⟩
 ·refine⟨its.toList,r,⟨o,n,I.kIn a o hk,hc,hd,by simpa using hs⟩,?_⟩;have e:=r.length;simp only[ZW]at e;omega
def Inv.tuple (I:Inv X pins σ H s) (h:SqT X.K H a xs):∃its:List Value,Vals xs its/\IsTup s.heap a its.toArray/\xs.length<=sizeLine:=by
 rcases h with h|⟨o,its,n,hk,hc,hs,hz,r⟩
 ·obtain⟨z,its,r,p⟩:=h.ok I.hok;exact⟨its,r,p,z⟩
 ·refine⟨its.toList,r,⟨o,I.kIn a o hk,hc,n,by simpa using hs⟩,?_⟩;have e:=r.length;simp only[ZW]at e;omega
def Inv.list_inj (I:Inv X pins σ H s) (h:SqL X.K H a xs) (h':SqL X.K H a ys):xs=ys:=by
 obtain⟨its,r,⟨o,n,e,_,_,d⟩,_⟩:=I.list h;obtain⟨its',r',⟨o',n',e',_,_,d'⟩,_⟩:=I.list h';rw[e]at e';cases e';rw[d]at d';injection d' with d1 _
 have:its=its':=by simpa using Yd Array.toList d1
 subst this;exact r.inj r'
def Inv.tuple_inj (I:Inv X pins σ H s) (h:SqT X.K H a xs) (h':SqT X.K H a ys):xs=ys:=by
 obtain⟨its,r,⟨o,e,_,n,d⟩,_⟩:=I.tuple h;obtain⟨its',r',⟨o',e',_,n',d'⟩,_⟩:=I.tuple h';rw[e]at e';cases e';rw[d]at d';injection d' with d1 _
 have:its=its':=by simpa using Yd Array.toList d1
 subst this;exact r.inj r'
end
abbrev Cx.wish (X:Cx) (E:Value->Shared->Prop):Cx:={X with xe:=E}
abbrev Cx.nox (X:Cx):Cx:=X.wish fun _ _=>False
def Cx.Ok.wish {X:Cx} (ok:X.Ok) (E:Value->Shared->Prop):(X.wish E).Ok:=
 ⟨ok.mod,ok.kind,ok.glob,ok.blt,ok.above,ok.inj,ok.has,ok.cab,ok.hd,ok.frames,ok.stk,ok.exf,ok.bs,ok.bsz,ok.noex,ok.exfs,ok.funs,ok.frf⟩
def Cx.Ok.unwish {X:Cx}{E:Value->Shared->Prop} (ok:(X.wish E).Ok):X.Ok:=
 ⟨ok.mod,ok.kind,ok.glob,ok.blt,ok.above,ok.inj,ok.has,ok.cab,ok.hd,ok.frames,ok.stk,ok.exf,ok.bs,ok.bsz,ok.noex,ok.exfs,ok.funs,ok.frf⟩
section
variable {X:Cx}{pins:List (Addr×Obj)}{σ:St}{H:Hp}{s:Shared}{E:Value->Shared->Prop}
def Inv.wish (I:Inv X pins σ H s) (E:Value->Shared->Prop):Inv (X.wish E) pins σ H s:=⟨I.ok.wish E,I.os,I.bare,I.base,I.loc,I.cell,I.free,I.freeC,I.pin,I.hok,I.len⟩
def Inv.unwish (I:Inv (X.wish E) pins σ H s):Inv X pins σ H s:=⟨I.ok.unwish,I.os,I.bare,I.base,I.loc,I.cell,I.free,I.freeC,I.pin,I.hok,I.len⟩
def SP.unwish {D:Ends}{f:Flow}{s':Shared} (h:SP (X.wish E) pins D f s'):SP X pins D f s':=by
 cases f with
 |next=>obtain⟨σ',H',I,q⟩:=h;exact⟨σ',H',I.unwish,q⟩
 |brk=>obtain⟨σ',H',I,q⟩:=h;exact⟨σ',H',I.unwish,q⟩
 |cont=>obtain⟨σ',H',I,q⟩:=h;exact⟨σ',H',I.unwish,q⟩
 |ret u=>obtain⟨v,σ',H',I,r,q⟩:=h;exact⟨v,σ',H',I.unwish,r,q⟩
def PSs.nox {st:List Stmt}{t:TS} (h:PSs X.nox st t):PSs X st t:=fun pins s σ H D I hw=>
 Yh (h pins s σ H D (I.wish _) hw) (fun _ _ q=>q.unwish) fun _ _ z=>False.elim z
end
section
variable {X:Cx}{st:Stmt}{rest:List Stmt}{t u:TS}{e:Expr}{te:TE}{pos:Pos}
def K1:TS:=fun D σ H=>D.nx σ H
def tSeq(t u:TS):TS:=fun D σ H=>t {D with nx:=u D} σ H
def Qw:PSs X [] K1:=fun _ _ σ H _ I h=>Wf ⟨σ,H,I,h⟩
def Qc(h1:PS X st t)(h2:PSs X rest u):PSs X (st::rest) (tSeq t u):=by
 intro pins s σ H D I h;refine YZ (thn (h1 pins s σ H {D with nx:=u D} I h) fun f s1 q=>?_)
 cases f with
 |next=>
  obtain⟨σ',H',I',q⟩:=q;exact h2 pins s1 σ' H' D I' q
 |ret v=>exact q
 |brk=>exact q
 |cont=>exact q
def Qd(h1:PS X st t):PSs X [st] t:=by
 intro pins s σ H D I h;refine YZ (thn (h1 pins s σ H D I h) fun f s1 q=>?_);cases f with
 |next=>exact Wf q
 |ret v=>exact q
 |brk=>exact q
 |cont=>exact q
def Inv.quiet {pins:List (Addr×Obj)}{σ:St}{H:Hp}{s:Shared} (I:Inv X pins σ H s):interactive X.env=false:=by simp[interactive,I.ok.kind]
def JU(te:TE):TS:=fun D σ H=>te σ H fun _ H1=>D.nx σ H1
def VW(he:PE X e te)(hs:swapsWith e none pos.line X.env=pure false:=by rfl):PS X (.Expr e pos) (JU te):=by
 intro pins s σ H D I h;exact wpAny_Expr_any (thn (he pins s σ H _ I h) fun v s1 ⟨x,H1,I1,r1,q1⟩=>⟨σ,H1,I1,q1⟩) I.quiet hs
def tRet(te:TE):TS:=fun D σ H=>te σ H D.rt
def Qj(he:PE X e te):PS X (.Return (some e) pos) (tRet te):=by
 intro pins s σ H D I h;exact wpAny_Return_some (thn (he pins s σ H _ I h) fun v s1 ⟨x,H1,I1,r1,q1⟩=>⟨x,σ,H1,I1,r1,q1⟩)
def tIfS(c:TT)(t u:TS):TS:=fun D σ H=>c σ H fun b H1=>if b=true then t D σ H1 else u D σ H1
def Qz{c:Expr}{a b:List Stmt}{tc:TT}(hc:PT X c tc)(ha:PSs X a t)(hb:PSs X b u):PS X (.If c a b pos) (tIfS tc t u):=by
 intro pins s σ H D I h;refine wpAny_If (thn (hc pins s σ H _ I h) fun d s1 ⟨H1,I1,q1⟩=>?_);cases d with
 |true=>exact ha pins s1 σ H1 D I1 q1
 |false=>exact hb pins s1 σ H1 D I1 q1
end
abbrev TG:=V->St->Hp->(St->Hp->Prop)->Prop
abbrev TGs:=List V->St->Hp->(St->Hp->Prop)->Prop
def PG(X:Cx)(target:Expr)(t:TG):Prop:=
 ∀(pins:List (Addr×Obj)) (s:Shared) (σ:St) (H:Hp) (v:V) (u:Value) (Q:St->Hp->Prop),Inv X pins σ H s->RelV v u->t v σ H Q->
  wpAny (model X.prog X.w) X.A (assign target X.env u) (fun _ s'=>∃σ' H',Inv X pins σ' H' s'/\Q σ' H') X.xe s
def PGs(X:Cx)(ts:List Expr)(t:TGs):Prop:=
 ∀(pins:List (Addr×Obj)) (s:Shared) (σ:St) (H:Hp) (vs:List V) (us:List Value) (Q:St->Hp->Prop),Inv X pins σ H s->Vals vs us->t vs σ H Q->
  wpAny (model X.prog X.w) X.A (assignInOrder ((assignEach ts X.env).map (·.2)) us) (fun _ s'=>∃σ' H',Inv X pins σ' H' s'/\Q σ' H') X.xe s
abbrev TSet:=V->V->V->Hp->(Hp->Prop)->Prop
def PSet(X:Cx)(t:TSet):Prop:=
 ∀(pins:List (Addr×Obj)) (s:Shared) (σ:St) (H:Hp) (o i v:V) (ov iv u:Value) (Q:Hp->Prop),Inv X pins σ H s->RelV o ov->RelV i iv->RelV v u->t o i v H Q->
  wpAny (model X.prog X.w) X.A (setItem ov iv u) (fun _ s'=>∃H',Inv X pins σ H' s'/\Q H') X.xe s
section
variable {X:Cx}{pos:Pos}
def Vw(i:Nat):TG:=fun v σ H Q=>Q (σ.set i (some v)) H
def QN{i:Nat}{x:Str}(hN:X.N.Nodup)(hi:X.N[i]?=some x)(hx:Loc X.env.scope x)(hf:X.fn x=true\/X.env.scope.names.lookup x=some .local:=by first|exact .inl rfl|exact .inr rfl|assumption):PG X (.Name x pos) (Vw i):=by
 intro pins s σ H v u Q I r h;exact wpAny_assign_Name (JN I hN hi hx r (fun s' I'=>⟨_,H,I',h⟩) hf)
def gNil:TGs:=fun vs σ H Q=>vs=[]/\Q σ H
def Po(t:TG)(u:TGs):TGs:=fun vs σ H Q=>∃v r,vs=v::r/\t v σ H fun σ' H'=>u r σ' H' Q
def K2:PGs X [] gNil:=by
 intro pins s σ H vs us Q I r h;obtain⟨e,h⟩:=h;subst e;cases r
 exact assignInOrder_nil ⟨σ,H,I,h⟩
def JS{e:Expr}{es:List Expr}{t:TG}{u:TGs}(h1:PG X e t)(h2:PGs X es u)(hs:(assignEach (e::es) X.env).map (·.2)=assign e X.env::(assignEach es X.env).map (·.2):=by rfl):PGs X (e::es) (Po t u):=by
 intro pins s σ H vs us Q I r h;obtain⟨v,vr,e1,h⟩:=h;subst e1;cases r with
 |cons r rr=>
  rw[hs];refine assignInOrder_cons (thn (h1 pins s σ H _ _ _ I r h) fun _ s1 ⟨σ1,H1,I1,q1⟩=>?_);exact h2 pins s1 σ1 H1 _ _ Q I1 rr q1
def gTup(K:Za)(n:Nat)(t:TGs):TG:=fun v σ H Q=>∃a xs,v=.ref a/\SqT K H a xs/\xs.length=n/\t xs σ H Q
def Sd{es:List Expr}{k:Nat}{t:TGs}{n:Nat}(hc:X.calm=true)(h:PGs X es t)(hn:(assignEach es X.env).length=n:=by rfl)(hst:(assignEach es X.env).findIdx? (·.1)=none:=by rfl):PG X (.Tuple es k pos) (gTup X.K n t):=by
 intro pins s σ H v u Q I r hw;obtain⟨a,xs,e1,hq,hl,hw⟩:=hw;subst e1;cases r
 obtain⟨its,rv,ht,hz⟩:=I.tuple hq;refine assign_Tuple_tuple (I.ok.hd hc) ht (by simp[hn,←hl,rv.length]) hst fun h' hx=>?_;have I1:Inv X pins σ H {s with heap:=h'}:=I.kept (t':=s.toks) fun b o e=>hx b o (ZN (Z5 e)) e
 exact h pins _ σ H xs _ Q I1 (by simpa using rv) hw
def gSub(to ti:TE)(t:TSet):TG:=fun v σ H Q=>to σ H fun o H1=>ti σ H1 fun i H2=>t o i v H2 fun H3=>Q σ H3
def Kj{o i:Expr}{to ti:TE}{t:TSet}(ho:PE X o to)(hi:PE X i ti)(hs:PSet X t)
  (ha:∀v,assign (.Subscript o i pos) X.env v=(do
   let ov ←holding [v] (eval o X.env)
   let iv ←holding [v,ov] (eval i X.env)
   standAt pos
   holding [v,ov,iv] (setItem ov iv v)
   release [v,ov,iv] []):=by intro _;rfl):PG X (.Subscript o i pos) (gSub to ti t):=by
 intro pins s σ H v u Q I r h;rw[ha];refine Z0 (Yu (thn (ho pins s σ H _ I h) fun ov s1 ⟨x,H1,I1,r1,q1⟩=>?_));refine Z0 (Yu (thn (hi pins s1 σ H1 _ I1 q1) fun iv s2 ⟨y,H2,I2,r2,q2⟩=>?_));refine Z0 (wpAny_standAt (Z0 (Yu (thn (hs pins s2 σ H2 x y v ov iv u _ I2 r1 r2 r q2) fun _ s3 ⟨H3,I3,q3⟩=>?_))));exact wpAny_release ⟨σ,H3,I3,q3⟩
def tAsg(te:TE)(g:TG):TS:=fun D σ H=>te σ H fun x H1=>g x σ H1 D.nx
def T7{tg e:Expr}{te:TE}{g:TG}(he:PE X e te)(hg:PG X tg g)(hs:swapsWithSole [tg] e pos.line X.env=pure false:=by rfl)(hw:swappedStores [tg] e X.env=pure none:=by rfl)(h1:(assignEach [tg] X.env).map (·.2)=[assign tg X.env]:=by rfl):PS X (.Assign [tg] e pos) (tAsg te g):=by
 intro pins s σ H D I h;refine wpAny_Assign_stores (thn (he pins s σ H _ I h) fun v s1 ⟨x,H1,I1,r1,q1⟩=>?_) hs hw;rw[h1];exact thn (hg pins s1 σ H1 x v _ I1 r1 q1) fun _ s2 q=>q
def SB{i:Nat}{x:Str}{e:Expr}{te:TE}{pos':Pos}(hN:X.N.Nodup)(hi:X.N[i]?=some x)(hx:Loc X.env.scope x)(he:PE X e te)(hs:swapsWith e (some (.Name x pos')) pos.line X.env=pure false:=by rfl)(hf:X.fn x=true\/X.env.scope.names.lookup x=some .local:=by first|exact .inl rfl|exact .inr rfl|assumption) :
  PS X (.Assign [.Name x pos'] e pos) (tAsg te (Vw i)):=by
 intro pins s σ H D I h;refine wpAny_Assign_Name (thn (he pins s σ H _ I h) fun v s1 ⟨y,H1,I1,r1,q1⟩=>?_) hs;exact JN I1 hN hi hx r1 (fun s2 I2=>⟨_,H1,I2,q1⟩) hf
end
section
variable {X:Cx}{pos:Pos}
def Tf(c:TT)(tb:TS):TS:=fun D σ H=>∃W:Nat->St->Hp->Prop,(∃m,W m σ H)/\∀m σ H,W m σ H->
 c σ H fun b H1=>if b=true then ∃N:St->Hp->Prop,(∀σ' H',N σ' H'->∃m',m'<m/\W m' σ' H')/\tb {D with nx:=N,ct:=N,bk:=D.nx} σ H1 else D.nx σ H1
def Kt{c:Expr}{body:List Stmt}{tc:TT}{tb:TS}(hp:PassesOwn (model X.prog X.w) X.A X.env X.xe)(hc:PT X c tc)(hb:PSs X body tb):PS X (.While c body [] pos) (Tf tc tb):=by
 intro pins s σ H D I h;obtain⟨W,⟨m0,w0⟩,turn⟩:=h;refine wpAny_While (codeAny_whileLoop (fun n s'=>∃σ' H',Inv X pins σ' H' s'/\W n σ' H') ?_ m0 ⟨σ,H,I,w0⟩);rintro n s1 ⟨σ1,H1,I1,w1⟩;refine YD hp (thn (hc pins s1 σ1 H1 _ I1 (turn n σ1 H1 w1)) fun b s2 ⟨H2,I2,q2⟩=>?_);cases b with
 |true=>
  obtain⟨N,hN,q2⟩:=q2;rw[ZA rfl];refine YD hp (thn (hb pins s2 σ1 H2 _ I2 q2) fun f s3 q3=>?_);cases f with
  |next=>
   obtain⟨σ3,H3,I3,n3⟩:=q3;obtain⟨m',hm,w3⟩:=hN σ3 H3 n3;exact⟨m',hm,σ3,H3,I3,w3⟩
  |cont=>
   obtain⟨σ3,H3,I3,n3⟩:=q3;obtain⟨m',hm,w3⟩:=hN σ3 H3 n3;exact⟨m',hm,σ3,H3,I3,w3⟩
  |brk=>exact q3
  |ret v=>exact q3
 |false=>
  rw[Z8 ZD];exact Wf ⟨σ1,H2,I2,q2⟩
end
structure It where
 go:Nat->Hp->Prop
 yld:Nat->Hp->V->Hp->Prop
 stop:Nat->Hp->Prop
def FpOk(X:Cx)(pins:List (Addr×Obj))(H:Hp)(b:Addr):Prop:=
 H b=none/\b≠X.env.locals/\b∉X.fs/\(b∈X.ex\/X.s₀.heap.objs.size<=b)/\(∀x c,X.env.cells.lookup x=some c->c≠b)/\∀p∈X.pn++pins,p.1≠b
def Inv.fpOk {X:Cx}{pins:List (Addr×Obj)}{σ:St}{H H':Hp}{s:Shared}{b:Addr} (I:Inv X pins σ H s) (hb:s.heap.objs.size<=b) (hn:H' b=none):FpOk X pins H' b:=by
 refine⟨hn,WH (ZO I.lt hb),I.nofs hb,.inr (ZM I.sz hb),fun x c e z=>?_,fun p hp z=>?_⟩
 ·obtain⟨v,q⟩:=I.cell x c e;exact absurd (ZO q.lt (by rw[z];exact hb)) (Yt _)
 ·exact absurd (ZO (Z5 (I.pin p hp).1) (by rw[z];exact hb)) (Yt _)
structure Turn (P:Program) (w:World) (K:Za) (tg:Expr) (J:It) (fp:List Addr) (it:Addr) (tn:Nat->Heap->Prop):Prop where
 mem:it∈fp
 obj:∀i h,tn i h->∀b∈fp,∃o,h.get? b=some o/\∀v,o.data≠.cell v
 keep:∀i h h',tn i h->(∀b∈fp,∀o,h.get? b=some o->h'.get? b=some o)->tn i h'
 item:∀(X:Cx),X.prog=P->X.w=w->X.K=K->X.calm=true->∀(i:Nat) (pins:List (Addr×Obj)) (s:Shared) (σ:St) (H:Hp) (E:Value->Shared->Prop),Inv X pins σ H s->(∀b∈fp,FpOk X pins H b)->tn i s.heap->J.go i H->
  wpAny (model P w) X.A (pyNext (.ref it)) (fun r s1=>∃u,r=some u/\
   wpAny (model P w) X.A (letOwnedTupleGo tg (.ref it) u) (fun _ s2=>∃x H',Inv X pins σ H' s2/\RelV x u/\J.yld i H x H'/\tn (i+1) s2.heap/\∀b∈fp,H' b=none) E s1) E s
 done:∀(X:Cx),X.prog=P->X.w=w->X.K=K->X.calm=true->∀(i:Nat) (pins:List (Addr×Obj)) (s:Shared) (σ:St) (H:Hp) (E:Value->Shared->Prop),Inv X pins σ H s->(∀b∈fp,FpOk X pins H b)->tn i s.heap->J.stop i H->
  wpAny (model P w) X.A (pyNext (.ref it)) (fun r s1=>r=none/\Inv X pins σ H s1) E s
 self:∀(A:Around) (i:Nat) (s:Shared) (Q:Value->Shared->Prop) (E:Value->Shared->Prop),tn i s.heap->Q (.ref it) s->wpAny (model P w) A (pyIter (.ref it)) Q E s
abbrev TI:=St->Hp->(It->Hp->Prop)->Prop
def PIE(X:Cx)(pins:List (Addr×Obj))(σ:St)(tg:Expr)(R:It->Hp->Prop)(itv:Value)(s2:Shared):Prop:=
 ∃(it:Addr) (fp:List Addr) (tn:Nat->Heap->Prop) (J:It) (H':Hp),itv=.ref it/\Inv X pins σ H' s2/\Turn X.prog X.w X.K tg J fp it tn/\tn 0 s2.heap/\(∀b∈fp,FpOk X pins H' b)/\R J H'
def PI(X:Cx)(tg iter:Expr)(wi:TI):Prop:=
 ∀(pins:List (Addr×Obj)) (s:Shared) (σ:St) (H:Hp) (R:It->Hp->Prop),Inv X pins σ H s->wi σ H R->
  wpAny (model X.prog X.w) X.A (eval iter X.env) (fun v s1=>wpAny (model X.prog X.w) X.A (pyIter v) (PIE X pins σ tg R) X.xe s1) X.xe s
def UL {M : Model} {A : Around} {E : Value → Shared → Prop} {s : Shared} {tg : Expr} {it : Addr} {u : Value} {o : Obj} {n : String} {vs : Array Value} {Q : Unit → Shared → Prop} (ho : s.heap.get? it = some o) (hc : o.cls = .type n) (hd : o.data = .fields vs)
    (hn : ["enumerate", "zip", "dict_itemiterator", "dict_reverseitemiterator", "odict_iterator", "itertools.zip_longest", "itertools.pairwise"].contains n = false) (hQ : Q () s) : wpAny M A (letOwnedTupleGo tg (.ref it) u) Q E s := by
  unfold letOwnedTupleGo
  cases tg <;> first
    | exact Z3 hQ
    | (cases u <;> first
        | exact Z3 hQ
        | (refine Z0 (wpAny_load ho ?_)
           rw [hc, hd]
           show wpAny M A (if (["enumerate", "zip", "dict_itemiterator", "dict_reverseitemiterator", "odict_iterator", "itertools.zip_longest", "itertools.pairwise"].contains n && vs[0]? == some (rawInt _)) = true then _ else _) Q E s
           rw [Z8 (by intro h; rw [hn, Bool.false_and] at h; cases h)]
           exact Z3 hQ))
def Itl(K:Za)(a:Addr):It:=
 ⟨fun i H=>∃xs x,SqL K H a xs/\xs[i]?=some x,fun i H x H'=>H'=H/\∀xs,SqL K H a xs->xs[i]?=some x,fun i H=>∃xs,SqL K H a xs/\xs.length<=i⟩
def Itt(K:Za)(a:Addr):It:=
 ⟨fun i H=>∃xs x,SqT K H a xs/\xs[i]?=some x,fun i H x H'=>H'=H/\∀xs,SqT K H a xs->xs[i]?=some x,fun i H=>∃xs,SqT K H a xs/\xs.length<=i⟩
def Itr(lo:Int)(n:Nat):It:=⟨fun i _=>i<n,fun i H x H'=>H'=H/\x=.int (lo+i),fun i _=>n<=i⟩
def Ah{P:Program}{w:World}{K:Za}{tg:Expr}(a it:Addr):Turn P w K tg (Itl K a) [it] it (fun i h=>h.IsListIter it a i) where
 mem:=by simp
 obj:=fun i h st b hb=>by
  have e:b=it:=by simpa using hb
  subst e;obtain⟨o,e,c,d⟩:=st;exact⟨o,e,fun v z=>by rw[d]at z;cases z⟩
 keep:=fun i h h' st k=>st.at fun o e=>k it (by simp) o e
 item:=by
  intro X hP hw hK hc i pins s σ H E I hf st hg;subst hP hw hK;obtain⟨xs,x,hq,hx⟩:=hg;obtain⟨its,rv,p,hz⟩:=I.list hq;obtain⟨u,hu,ru⟩:=rv.get hx;obtain⟨f0,f1,f2,f3,f4,f5⟩:=hf it (by simp);refine wpAny_pyNext_list_item st p.isList (x:=u) (by simpa using hu) fun h' st' sb=>?_;have I1:Inv X pins σ H {s with heap:=h'}:=I.turned (t':=s.toks) (fun b o hb e=>(sb.2 b hb).trans e) f0 f1 f3 f4 f5
  obtain⟨o,e,c,d⟩:=id st';exact⟨u,rfl,UL (s:={s with heap:=h'}) e c d (by decide) ⟨x,H,I1,ru,⟨rfl,fun ys hy=>by rw[I.list_inj hy hq];exact hx⟩,st',fun b hb=>(hf b hb).1⟩⟩
 done:=by
  intro X hP hw hK hc i pins s σ H E I hf st hg;subst hP hw hK;obtain⟨xs,hq,hx⟩:=hg;obtain⟨its,rv,p,hz⟩:=I.list hq;obtain⟨f0,f1,f2,f3,f4,f5⟩:=hf it (by simp);have hl:=rv.length;exact wpAny_pyNext_list_end (I.ok.hd hc) st p.isList (by simp;omega) fun h' eb=>⟨rfl,I.turned (t':=s.toks) (fun b o hb e=>eb b o hb e) f0 f1 f3 f4 f5⟩
 self:=fun _ _ _ _ _ st h=>wpAny_pyIter_listiter st h
def Fe{P:Program}{w:World}{K:Za}{tg:Expr}(a it:Addr):Turn P w K tg (Itt K a) [it] it (fun i h=>h.IsTupleIter it a i) where
 mem:=by simp
 obj:=fun i h st b hb=>by
  have e:b=it:=by simpa using hb
  subst e;obtain⟨o,e,c,d⟩:=st;exact⟨o,e,fun v z=>by rw[d]at z;cases z⟩
 keep:=fun i h h' st k=>st.at fun o e=>k it (by simp) o e
 item:=by
  intro X hP hw hK hc i pins s σ H E I hf st hg;subst hP hw hK;obtain⟨xs,x,hq,hx⟩:=hg;obtain⟨its,rv,p,hz⟩:=I.tuple hq;obtain⟨u,hu,ru⟩:=rv.get hx;obtain⟨f0,f1,f2,f3,f4,f5⟩:=hf it (by simp);refine wpAny_pyNext_tuple_item st (show s.heap.IsTuple a its.toArray from p) (x:=u) (by simpa using hu) fun h' st' sb=>?_
  have I1:Inv X pins σ H {s with heap:=h'}:=I.turned (t':=s.toks) (fun b o hb e=>(sb.2 b hb).trans e) f0 f1 f3 f4 f5
  obtain⟨o,e,c,d⟩:=id st';exact⟨u,rfl,UL (s:={s with heap:=h'}) e c d (by decide) ⟨x,H,I1,ru,⟨rfl,fun ys hy=>by rw[I.tuple_inj hy hq];exact hx⟩,st',fun b hb=>(hf b hb).1⟩⟩
 done:=by
  intro X hP hw hK hc i pins s σ H E I hf st hg;subst hP hw hK;obtain⟨xs,hq,hx⟩:=hg;obtain⟨its,rv,p,hz⟩:=I.tuple hq;obtain⟨f0,f1,f2,f3,f4,f5⟩:=hf it (by simp);have hl:=rv.length;exact wpAny_pyNext_tuple_end (I.ok.hd hc) st (show s.heap.IsTuple a its.toArray from p) (by simp;omega) fun h' eb=>⟨rfl,I.turned (t':=s.toks) (fun b o hb e=>eb b o hb e) f0 f1 f3 f4 f5⟩
 self:=fun _ _ _ _ _ st h=>wpAny_pyIter_tupleiter st h
def BY{P:Program}{w:World}{K:Za}{tg:Expr}(it:Addr)(lo:Int)(n:Nat):Turn P w K tg (Itr lo n) [it] it (fun i h=>IsRangeIter h it (lo+(i:Nat)*1) ((n:Int)-(i:Nat)) 1) where
 mem:=by simp
 obj:=fun i h st b hb=>by
  have e:b=it:=by simpa using hb
  subst e
  exact⟨_,st,fun v z=>by
   have z':Data.fields _=Data.cell v:=z;cases z'⟩
 keep:=fun i h h' st k=>k it (by simp) _ st
 item:=by
  intro X hP hw hK hc i pins s σ H E I hf st hg;subst hP hw hK;obtain⟨f0,f1,f2,f3,f4,f5⟩:=hf it (by simp);have W:=Walks.range (prog:=X.prog) (w:=X.w) (I.ok.hd hc) it lo 1 n;refine W.item i s _ _ hg st fun v h' tk hv st' kk=>?_;obtain⟨t,rfl⟩:=hv;have I1:Inv X pins σ H {s with heap:=h',toks:=tk}:=I.turned (fun b o hb e=>kk b o (by simpa using hb) e) f0 f1 f3 f4 f5
  refine⟨_,rfl,UL (s:={s with heap:=h',toks:=tk}) (n:="range_iterator") st' rfl rfl (by decide) ⟨.int (lo+i),H,I1,⟨t,?_⟩,⟨rfl,rfl⟩,st',fun b hb=>(hf b hb).1⟩⟩
  rw[Int.mul_one]
 done:=by
  intro X hP hw hK hc i pins s σ H E I hf st hg;subst hP hw hK;obtain⟨f0,f1,f2,f3,f4,f5⟩:=hf it (by simp);exact wpAny_pyNext_range_end (I.ok.hd hc) st (by have:n<=i:=hg;omega) fun h' eb=>⟨rfl,I.turned (t':=s.toks) (fun b o hb e=>eb b o hb e) f0 f1 f3 f4 f5⟩
 self:=fun _ _ _ _ _ st h=>wpAny_pyIter_rangeiter st h
section
variable {X:Cx}{tg:Expr}
def JV(K:Za)(tl:TE):TI:=fun σ H R=>tl σ H fun x H1=>∃a,x=.ref a/\(∃xs,SqL K H1 a xs)/\R (Itl K a) H1
def iTup(K:Za)(tl:TE):TI:=fun σ H R=>tl σ H fun x H1=>∃a,x=.ref a/\(∃xs,SqT K H1 a xs)/\R (Itt K a) H1
def JH{l:Expr}{tl:TE}(hl:PE X l tl):PI X tg l (JV X.K tl):=by
 intro pins s σ H R I h;refine thn (hl pins s σ H _ I h) fun v s1 ⟨x,H1,I1,r1,q1⟩=>?_;obtain⟨a,e,⟨xs,hq⟩,q⟩:=q1;subst e;cases r1
 obtain⟨its,rv,p,hz⟩:=I1.list hq;refine wpAny_pyIter_list p.isList ?_;refine⟨s1.heap.objs.size,[s1.heap.objs.size],_,_,H1,rfl,I1.kept (t':=s1.toks) fun b o e=>Z2 _ e,Ah a _,⟨_,Z9 _ rfl,rfl,rfl⟩,fun b hb=>?_,q⟩;have e:b=s1.heap.objs.size:=by simpa using hb
 subst e;exact I1.fpOk (Z4 _) (I1.hok.fresh (Z4 _))
def NY{l:Expr}{tl:TE}(hl:PE X l tl):PI X tg l (iTup X.K tl):=by
 intro pins s σ H R I h;refine thn (hl pins s σ H _ I h) fun v s1 ⟨x,H1,I1,r1,q1⟩=>?_;obtain⟨a,e,⟨xs,hq⟩,q⟩:=q1;subst e;cases r1
 obtain⟨its,rv,p,hz⟩:=I1.tuple hq;refine wpAny_pyIter_tuple (show s1.heap.IsTuple a its.toArray from p) ?_
 refine⟨s1.heap.objs.size,[s1.heap.objs.size],_,_,H1,rfl,I1.kept (t':=s1.toks) fun b o e=>Z2 _ e,Fe a _,⟨_,Z9 _ rfl,rfl,rfl⟩,fun b hb=>?_,q⟩;have e:b=s1.heap.objs.size:=by simpa using hb
 subst e;exact I1.fpOk (Z4 _) (I1.hok.fresh (Z4 _))
def To{pins:List (Addr×Obj)}{σ:St}{H:Hp}{s:Shared}{R:It->Hp->Prop}{E:Value->Shared->Prop}{lo hi:Int}{t u v:Tok}{tk:Nat}(I:Inv X pins σ H s)(h1:-(2 ^ 62)<=lo)(h2:lo<2 ^ 62)(h3:-(2 ^ 62)<=hi)(h4:hi<2 ^ 62)(q:R (Itr lo (hi-lo).toNat) H):wpAny (model X.prog X.w) X.A (pyIter (.ref s.heap.objs.size)) (PIE X pins σ tg R) E {s with heap:=s.heap.push {cls:=.type "range",data:=.fields #[.int lo t,.int hi u,.int 1 v]},toks:=tk}:=by
 refine wpAny_pyIter_range (IsRange.new ..) (small_one h1 h2 h3 h4) ?_;have I1:Inv X pins σ H {s with heap:=s.heap.push {cls:=.type "range",data:=.fields #[.int lo t,.int hi u,.int 1 v]},toks:=tk}:=I.kept fun b o e=>Z2 _ e
 refine⟨(s.heap.push {cls:=.type "range",data:=.fields #[.int lo t,.int hi u,.int 1 v]}).objs.size,[(s.heap.push {cls:=.type "range",data:=.fields #[.int lo t,.int hi u,.int 1 v]}).objs.size],_,_,H,rfl,
  I1.kept (t':=tk) fun b o e=>Z2 _ e,BY _ lo (hi-lo).toNat,?_,fun b hb=>?_,q⟩
 ·have e1:lo+((0:Nat):Int)*1=lo:=by simp
  have e2:(((hi-lo).toNat:Nat):Int)-((0:Nat):Int)=Builtin.Range.rangeSize lo hi 1:=by rw[rangeSize_one];split<;>omega
  show IsRangeIter _ _ (lo+((0:Nat):Int)*1) ((((hi-lo).toNat:Nat):Int)-((0:Nat):Int)) 1;rw[e1,e2];exact Z9 _ rfl
 ·have e:b=(s.heap.push {cls:=.type "range",data:=.fields #[.int lo t,.int hi u,.int 1 v]}).objs.size:=by simpa using hb
  subst e;exact I1.fpOk (Z4 _) (I1.hok.fresh (Z4 _))
def Pn(ta:TA):TI:=fun σ H R=>ta σ H fun vs H1=>∃j:Int,vs=[.int j]/\-(2 ^ 62)<=j/\j<2 ^ 62/\R (Itr 0 j.toNat) H1
def Tc(ta:TA):TI:=fun σ H R=>ta σ H fun vs H1=>∃i j:Int,vs=[.int i,.int j]/\(-(2 ^ 62)<=i/\i<2 ^ 62/\-(2 ^ 62)<=j/\j<2 ^ 62)/\R (Itr i (j-i).toNat) H1
def QV{a:Expr}{ta:TA}{p pos:Pos}(hg:Gl X "range")(hm:X.mg "range"=none)(ha:PA X [a] ta)(hs:starEach [a] X.env=[(false,eval a X.env)]:=by rfl):PI X tg (.Call (.Name "range" p) [a] [] pos) (Pn ta):=by
 intro pins s σ H R I h;refine Call_ (VI I hg hm boot_range (YX (thn (ha pos pins s σ H _ I h) fun us s1 ⟨vs,H1,I1,r1,q1⟩=>?_) hs rfl));obtain⟨j,e,q1,q2,q⟩:=q1;subst e;cases r1 with
 |cons r rr=>
  cases rr
  obtain⟨t,rfl⟩:=r;exact call_range_1 (To I1 (by omega) (by omega) q1 q2 (by simpa using q))
def Nc{a b:Expr}{ta:TA}{p pos:Pos}(hg:Gl X "range")(hm:X.mg "range"=none)(ha:PA X [a,b] ta)(hs:starEach [a,b] X.env=[(false,eval a X.env),(false,eval b X.env)]:=by rfl)(hs2:starEach [b] X.env=[(false,eval b X.env)]:=by rfl) :
  PI X tg (.Call (.Name "range" p) [a,b] [] pos) (Tc ta):=by
 intro pins s σ H R I h;refine Call_ (VI I hg hm boot_range (YX (thn (ha pos pins s σ H _ I h) fun us s1 ⟨vs,H1,I1,r1,q1⟩=>?_) (by rw[hs,hs2]) (by rw[hs2];rfl)));obtain⟨i,j,e,⟨q1,q2,q3,q4⟩,q⟩:=q1;subst e;cases r1 with
 |cons r rr=>
  cases rr with
  |cons r' rr=>
   cases rr
   obtain⟨t,rfl⟩:=r;obtain⟨t',rfl⟩:=r';exact call_range_2 (To I1 q1 q2 q3 q4 q)
def tFor(wi:TI)(g:TG)(tb:TS):TS:=fun D σ H=>wi σ H fun J H1=>∃W:Nat->Nat->St->Hp->Prop,(∃m,W 0 m σ H1)/\∀i m σ H,W i m σ H->
 (J.stop i H/\D.nx σ H)\/(J.go i H/\∃N:St->Hp->Prop,(∀σ' H',N σ' H'->∃m',m'<m/\W (i+1) m' σ' H')/\∀x H',J.yld i H x H'->g x σ H' fun σ2 H2=>tb {D with nx:=N,ct:=N,bk:=D.nx} σ2 H2)
def Jq(fp:List Addr)(h:Heap):List (Addr×Obj):=fp.filterMap fun b=>(h.get? b).map fun o=>(b,o)
def JP{fp:List Addr}{h:Heap}{b:Addr}{o:Obj}(hb:b∈fp)(e:h.get? b=some o):(b,o)∈Jq fp h:=W8.mpr ⟨b,hb,by rw[e];rfl⟩
def SU{fp:List Addr}{h:Heap}{p:Addr×Obj}(hp:p∈Jq fp h):p.1∈fp/\h.get? p.1=some p.2:=by
 obtain⟨b,hb,e⟩:=W8.mp hp;cases q:h.get? b with
 |none=>rw[q]at e;cases e
 |some o=>
  rw[q]at e;have e':(b,o)=p:=Z6 e;subst e';exact⟨hb,q⟩
def Inv.pinned {pins:List (Addr×Obj)}{σ:St}{H:Hp}{s:Shared}{fp:List Addr} (I:Inv X pins σ H s) (hf:∀b∈fp,FpOk X pins H b) (ho:∀b∈fp,∃o,s.heap.get? b=some o/\∀v,o.data≠.cell v):Inv X (pins++Jq fp s.heap) σ H s:=
 I.pins_of fun p hp=>(Yp.mp hp).elim (fun z=>I.pin p (ZE _ z)) fun z=>by
  obtain⟨hb,e⟩:=SU z;obtain⟨f0,f1,f2,_⟩:=hf p.1 hb;obtain⟨o,e',d⟩:=ho p.1 hb;rw[e]at e';cases e';exact⟨e,f0,f1,f2,d⟩
def Inv.unpinned {pins pl:List (Addr×Obj)}{σ:St}{H:Hp}{s:Shared} (I:Inv X (pins++pl) σ H s):Inv X pins σ H s:=I.pins_of fun p hp=>I.pin p (ZE _ (YJ _ hp))
def QH{iter:Expr}{body:List Stmt}{wi:TI}{g:TG}{tb:TS}{pos:Pos}(hp:PassesOwn (model X.prog X.w) X.A X.env X.xe)(hc:X.calm=true)(hi:PI X tg iter wi)(hg:PG X tg g)(hb:PSs X body tb)(hs:∀x,foldedSetIterable iter X.env x=pure x:=by intro _;rfl):PS X (.For tg iter body [] pos) (tFor wi g tb):=by
 intro pins s σ H D I h;refine wpAny_For (thn (hi pins s σ H _ I h) fun v s1 h1=>thn h1 fun itv s2 h2=>?_) hs;obtain⟨it,fp,tn,J,H2,e,I2,T,st2,f2,W,⟨m0,w0⟩,turn⟩:=h2;subst e;have stat:∀{H':Hp},(∀b∈fp,H' b=none)->∀b∈fp,FpOk X pins H' b:=fun hn b hb=>⟨hn b hb,(f2 b hb).2⟩;refine codeAny_forLoop_any (fun n s'=>∃i σ' H',Inv X pins σ' H' s'/\tn i s'.heap/\(∀b∈fp,H' b=none)/\W i n σ' H') ?_ m0 ⟨0,σ,H2,I2,st2,fun b hb=>(f2 b hb).1,w0⟩;rintro n s3 ⟨i,σ3,H3,I3,st3,fr3,w3⟩;rcases turn i n σ3 H3 w3 with⟨stop,qn⟩|⟨go,N,hN,step⟩
 ·refine YD hp (thn (T.done X rfl rfl rfl hc i pins s3 σ3 H3 X.xe I3 (stat fr3) st3 stop) fun r s4 ⟨hr,I4⟩=>?_);subst hr;exact Wf ⟨σ3,H3,I4,qn⟩
 ·refine YD hp (thn (T.item X rfl rfl rfl hc i pins s3 σ3 H3 X.xe I3 (stat fr3) st3 go) fun r s4 ⟨u,hr,h4⟩=>?_);subst hr;refine YD hp (thn h4 fun _ s5 ⟨x,H5,I5,r5,y5,st5,fr5⟩=>?_);have I5':=I5.pinned (stat fr5) (T.obj _ _ st5);refine YD hp (thn (hg _ s5 σ3 H5 x u _ I5' r5 (step x H5 y5)) fun _ s6 ⟨σ6,H6,I6,q6⟩=>?_);refine YD hp (thn (hb _ s6 σ6 H6 _ I6 q6) fun f s7 q7=>?_)
  have again:∀{σ7:St} {H7:Hp},Inv X (pins++Jq fp s5.heap) σ7 H7 s7->N σ7 H7->∃m,m<n/\∃i σ' H',Inv X pins σ' H' s7/\tn i s7.heap/\(∀b∈fp,H' b=none)/\W i m σ' H':=fun {σ7 H7} I7 n7=>by
   obtain⟨m',hm,w7⟩:=hN σ7 H7 n7;refine⟨m',hm,i+1,σ7,H7,I7.unpinned,T.keep _ _ _ st5 fun b hb o e=>(I7.pin (b,o) (ZE _ (ZE _ (JP hb e)))).1,fun b hb=>?_,w7⟩;obtain⟨o,e,d⟩:=T.obj _ _ st5 b hb;exact(I7.pin (b,o) (ZE _ (ZE _ (JP hb e)))).2.1
  cases f with
  |next=>obtain⟨σ7,H7,I7,n7⟩:=q7;exact again I7 n7
  |cont=>obtain⟨σ7,H7,I7,n7⟩:=q7;exact again I7 n7
  |brk=>obtain⟨σ7,H7,I7,q7⟩:=q7;exact⟨σ7,H7,I7.unpinned,q7⟩
  |ret v=>obtain⟨x7,σ7,H7,I7,r7,q7⟩:=q7;exact⟨x7,σ7,H7,I7.unpinned,r7,q7⟩
end
def VB{lo:Int}{n:Nat}{g:TG}{tb:TS}{D:Ends}{σ:St}{H:Hp}(Pv:Nat->St->Hp->Prop)(h0:Pv 0 σ H)(hs:∀i σ H,i<n->Pv i σ H->g (.int (lo+i)) σ H fun σ2 H2=>tb {D with nx:=Pv (i+1),ct:=Pv (i+1),bk:=D.nx} σ2 H2)(hd:∀σ H,Pv n σ H->D.nx σ H) :
  ∃W:Nat->Nat->St->Hp->Prop,(∃m,W 0 m σ H)/\∀i m σ H,W i m σ H->
   ((Itr lo n).stop i H/\D.nx σ H)\/((Itr lo n).go i H/\∃N:St->Hp->Prop,(∀σ' H',N σ' H'->∃m',m'<m/\W (i+1) m' σ' H')/\∀x H',(Itr lo n).yld i H x H'->g x σ H' fun σ2 H2=>tb {D with nx:=N,ct:=N,bk:=D.nx} σ2 H2):=by
 refine⟨fun i m σ H=>m=n-i/\i<=n/\Pv i σ H,⟨n,by simp,Yo _,h0⟩,?_⟩;rintro i m σ H ⟨rfl,hi,p⟩;by_cases hlt:i<n
 ·refine .inr ⟨hlt,Pv (i+1),fun σ' H' p'=>⟨n-(i+1),by omega,rfl,hlt,p'⟩,fun x H' y=>?_⟩;obtain⟨e,y⟩:=y;subst e y;exact hs i σ _ hlt p
 ·have e:i=n:=by omega
  subst e;exact .inl ⟨Z4 _,hd σ H p⟩
abbrev R2:=V->V->Hp->VK->Prop
def OpR(X:Cx)(f:Value->Value->Sem Value)(r:R2):Prop:=
 ∀(pins:List (Addr×Obj)) (s:Shared) (σ:St) (H:Hp) (x y:V) (v u:Value) (Q:VK),Inv X pins σ H s->RelV x v->RelV y u->r x y H Q->
  wpAny (model X.prog X.w) X.A (f v u) (EP X pins σ Q) X.xe s
def UnR(X:Cx)(f:Value->Sem Value)(r:V->Hp->VK->Prop):Prop:=
 ∀(pins:List (Addr×Obj)) (s:Shared) (σ:St) (H:Hp) (x:V) (v:Value) (Q:VK),Inv X pins σ H s->RelV x v->r x H Q->
  wpAny (model X.prog X.w) X.A (f v) (EP X pins σ Q) X.xe s
def QI(X:Cx)(f:Value)(r:List V->Hp->VK->Prop):Prop:=
 ∀(pins:List (Addr×Obj)) (s:Shared) (σ:St) (H:Hp) (xs:List V) (us:List Value) (Q:VK),Inv X pins σ H s->Vals xs us->r xs H Q->
  wpAny (model X.prog X.w) X.A (call f us) (EP X pins σ Q) X.xe s
def TruR(X:Cx)(r:V->Hp->(Bool->Hp->Prop)->Prop):Prop:=
 ∀(pins:List (Addr×Obj)) (s:Shared) (σ:St) (H:Hp) (x:V) (v:Value) (Q:Bool->Hp->Prop),Inv X pins σ H s->RelV x v->r x H Q->
  wpAny (model X.prog X.w) X.A (truthy v) (TP X pins σ Q) X.xe s
def tOp(r:R2)(ta tb:TE):TE:=fun σ H Q=>ta σ H fun x H1=>tb σ H1 fun y H2=>r x y H2 Q
def tUn(r:V->Hp->VK->Prop)(ta:TE):TE:=fun σ H Q=>ta σ H fun x H1=>r x H1 Q
def rI(C:Int->Int->Prop)(g:Int->Int->V):R2:=fun x y H Q=>∃i j,x=.int i/\y=.int j/\C i j/\Q (g i j) H
def rI0(g:Int->Int->V):R2:=fun x y H Q=>∃i j,x=.int i/\y=.int j/\Q (g i j) H
def rU(g:Int->V):V->Hp->VK->Prop:=fun x H Q=>∃i,x=.int i/\Q (g i) H
section
variable {X:Cx}{a b c:Expr}{ta tb tc:TE}{pos:Pos}
def binT(ha:PE X a ta)(hb:PE X b tb){pins:List (Addr×Obj)}{s:Shared}{σ:St}{H:Hp}{R:V->V->Hp->Prop}(I:Inv X pins σ H s)(h:ta σ H fun x H1=>tb σ H1 fun y H2=>R x y H2){Q:Value->Shared->Prop}{f:Value->Value->Sem Value}(hf:∀v u s2 x y H2,Inv X pins σ H2 s2->RelV x v->RelV y u->R x y H2->wpAny (model X.prog X.w) X.A (f v u) Q X.xe s2) :
  wpAny (model X.prog X.w) X.A (eval a X.env) (fun v s₁=>wpAny (model X.prog X.w) X.A (eval b X.env) (fun u s₂=>wpAny (model X.prog X.w) X.A (f v u) Q X.xe s₂) X.xe s₁) X.xe s:=by
 refine thn (ha pins s σ H _ I h) fun v s1 ⟨x,H1,I1,r1,q1⟩=>?_;refine thn (hb pins s1 σ H1 _ I1 q1) fun u s2 ⟨y,H2,I2,r2,q2⟩=>?_;exact hf v u s2 x y H2 I2 r1 r2 q2
def Qa{op:Operator}{r:R2}(ho:OpR X (binaryOp op) r)(ha:PE X a ta)(hb:PE X b tb):PE X (.BinOp a op b pos) (tOp r ta tb):=by
 intro pins s σ H Q I h;exact wpAny_BinOp (binT ha hb I h fun v u s2 x y H2 I2 rx ry q=>ho pins s2 σ H2 x y v u Q I2 rx ry q)
def NI{op:UnaryOp}{r:V->Hp->VK->Prop}(ho:UnR X (unaryOp op) r)(ha:PE X a ta):PE X (.UnaryOp op a pos) (tUn r ta):=by
 intro pins s σ H Q I h;exact UnaryOp_ (thn (ha pins s σ H _ I h) fun v s1 ⟨x,H1,I1,r1,q1⟩=>ho pins s1 σ H1 x v Q I1 r1 q1)
def opI{f:Value->Value->Sem Value}{C:Int->Int->Prop}{g:Int->Int->Int}(rule:∀(i j:Int) (t u:Tok) (s:Shared) (Q:Value->Shared->Prop) (E:Value->Shared->Prop),C i j->Q (.int (g i j) s.toks) {s with toks:=s.toks+1}->wpAny (model X.prog X.w) X.A (f (.int i t) (.int j u)) Q E s) :
  OpR X f (rI C fun i j=>.int (g i j)):=by
 intro pins s σ H x y v u Q I rx ry h;obtain⟨i,j,rfl,rfl,hc,q⟩:=h;obtain⟨t,rfl⟩:=rx;obtain⟨t',rfl⟩:=ry;exact rule i j t t' s _ _ hc ⟨.int (g i j),H,I.tok _,⟨_,rfl⟩,q⟩
def opI0{f:Value->Value->Sem Value}{g:Int->Int->Int}(rule:∀(i j:Int) (t u:Tok) (s:Shared) (Q:Value->Shared->Prop) (E:Value->Shared->Prop),Q (.int (g i j) s.toks) {s with toks:=s.toks+1}->wpAny (model X.prog X.w) X.A (f (.int i t) (.int j u)) Q E s) :
  OpR X f (rI0 fun i j=>.int (g i j)):=by
 intro pins s σ H x y v u Q I rx ry h;obtain⟨i,j,rfl,rfl,q⟩:=h;obtain⟨t,rfl⟩:=rx;obtain⟨t',rfl⟩:=ry;exact rule i j t t' s _ _ ⟨.int (g i j),H,I.tok _,⟨_,rfl⟩,q⟩
def opB0{f:Value->Value->Sem Value}{g:Int->Int->Bool}(rule:∀(i j:Int) (t u:Tok) (s:Shared) (Q:Value->Shared->Prop) (E:Value->Shared->Prop),Q (.bool (g i j)) s->wpAny (model X.prog X.w) X.A (f (.int i t) (.int j u)) Q E s) :
  OpR X f (rI0 fun i j=>.bl (g i j)):=by
 intro pins s σ H x y v u Q I rx ry h;obtain⟨i,j,rfl,rfl,q⟩:=h;obtain⟨t,rfl⟩:=rx;obtain⟨t',rfl⟩:=ry;exact rule i j t t' s _ _ ⟨.bl (g i j),H,I,rfl,q⟩
def CDiv(i j:Int):Prop:=0<j/\j<1073741824
def CMul(i j:Int):Prop:=(-(2 ^ 64)<i/\i<2 ^ 64)\/(-(2 ^ 64)<j/\j<2 ^ 64)
def CMul.ok {i j:Int} (h:CMul i j):IntMulOk i j:=by
 rcases h with⟨h1,h2⟩|⟨h1,h2⟩
 ·exact .of_left (intBits_le_64 h1 h2)
 ·exact .of_right (intBits_le_64 h1 h2)
def Q7:OpR X (binaryOp .Add) (rI0 fun i j=>.int (i+j)):=opI0 fun _ _ _ _ _ _ _ q=>add_int q
def Q5:OpR X (binaryOp .Sub) (rI0 fun i j=>.int (i-j)):=opI0 fun _ _ _ _ _ _ _ q=>sub_int q
def Vn:OpR X (binaryOp .Mult) (rI CMul fun i j=>.int (i*j)):=opI fun _ _ _ _ _ _ _ hc q=>mul_int q hc.ok
def Vm:OpR X (binaryOp .FloorDiv) (rI CDiv fun i j=>.int (i / j)):=opI fun i j _ _ _ _ _ hc q=>by
 have h1:(0:Int)<j:=hc.1;have h2:j<1073741824:=hc.2;exact floordiv_int (by omega) (by rw[Int.fdiv_eq_ediv_of_nonneg i (by omega)];exact q) (.inl (PyProof.noPylong_small (by omega)))
def QA:OpR X (binaryOp .Mod) (rI (fun _ j=>0<j) fun i j=>.int (i % j)):=opI fun i j _ _ _ _ _ hc q=>by
 have h1:(0:Int)<j:=hc;exact mod_int' (by omega) (by rw[Int.fmod_eq_emod_of_nonneg i (by omega)];exact q)
def unI{f:Value->Sem Value}{g:Int->Int}(rule:∀(i:Int) (t:Tok) (s:Shared) (Q:Value->Shared->Prop) (E:Value->Shared->Prop),Q (.int (g i) s.toks) {s with toks:=s.toks+1}->wpAny (model X.prog X.w) X.A (f (.int i t)) Q E s) :
  UnR X f (rU fun i=>.int (g i)):=by
 intro pins s σ H x v Q I rx h;obtain⟨i,rfl,q⟩:=h;obtain⟨t,rfl⟩:=rx;exact rule i t s _ _ ⟨.int (g i),H,I.tok _,⟨_,rfl⟩,q⟩
def Cv:UnR X (unaryOp .USub) (rU fun i=>.int (-i)):=unI fun _ _ _ _ _ q=>neg_int q
end
def scal:V->V->Bool
 | .non,.non=>true | .non,.int _=>true | .int _,.non=>true | .non,.bl _=>true | .bl _,.non=>true | .non,.str _=>true | .str _,.non=>true
 | .int _,.int _=>true | .bl _,.bl _=>true | .str _,.str _=>true | .byt _,.byt _=>true
 | .int _,.str _=>true | .str _,.int _=>true | .bl _,.str _=>true | .str _,.bl _=>true
 |_,_=>false
def rEq:R2:=fun x y H Q=>scal x y=true/\Q (.bl (decide (x=y))) H
def rNe:R2:=fun x y H Q=>scal x y=true/\Q (.bl (!decide (x=y))) H
def Pw{i j:Int}:decide (V.int i=V.int j)=(i==j):=by
 rw[W5];simp
def KU{i j:Bool}:decide (V.bl i=V.bl j)=(i==j):=by
 rw[W5];simp
def PL{i j:Str}:decide (V.str i=V.str j)=(i==j):=by
 rw[W5];simp
def Kh{i j:Array UInt8}:decide (V.byt i=V.byt j)=(i.toList==j.toList):=by
 rw[W5];cases i
 cases j
 simp
section
variable {X:Cx}{a b c:Expr}{ta tb tc:TE}{pos:Pos}
def Qq{pins:List (Addr×Obj)}{σ:St}{H:Hp}{s:Shared}{Q:VK}{k k':Bool}(I:Inv X pins σ H s)(q:Q (.bl k) H)(e:k=k'):EP X pins σ Q (.bool k') s:=by
 subst e;exact⟨.bl k,H,I,rfl,q⟩
def op_eq:OpR X (compareOp .Eq) rEq:=by
 intro pins s σ H x y v u Q I rx ry h;obtain⟨hs,q⟩:=h;cases x with
 |non=>
  cases rx
  cases y with
  |non=>cases ry;exact PySem.EqNone.eq_none_none (Qq I q (by simp))
  |bl j=>cases ry;exact PySem.EqNone.eq_none_bool (Qq I q (by simp))
  |int j=>obtain⟨t',rfl⟩:=ry;exact PySem.EqNone.eq_none_int (Qq I q (by simp))
  |str j=>obtain⟨t',rfl⟩:=ry;exact PySem.EqNone.eq_none_str (Qq I q (by simp))
  |_=>exact absurd (show false=true from hs) ZD
 |bl i=>
  cases rx
  cases y with
  |non=>cases ry;exact PySem.EqNone.eq_bool_none (Qq I q (by simp))
  |bl j=>cases ry;exact eq_bool (Qq I q KU)
  |str j=>obtain⟨t',rfl⟩:=ry;exact PySem.EqMixed.eq_bool_str (Qq I q (by simp))
  |_=>exact absurd (show false=true from hs) ZD
 |int i=>
  obtain⟨t,rfl⟩:=rx;cases y with
  |non=>cases ry;exact PySem.EqNone.eq_int_none (Qq I q (by simp))
  |int j=>obtain⟨t',rfl⟩:=ry;exact eq_int (Qq I q Pw)
  |str j=>obtain⟨t',rfl⟩:=ry;exact PySem.EqMixed.eq_int_str (Qq I q (by simp))
  |_=>exact absurd (show false=true from hs) ZD
 |str i=>
  obtain⟨t,rfl⟩:=rx;cases y with
  |non=>cases ry;exact PySem.EqNone.eq_str_none (Qq I q (by simp))
  |bl j=>cases ry;exact PySem.EqMixed.eq_str_bool (Qq I q (by simp))
  |int j=>obtain⟨t',rfl⟩:=ry;exact PySem.EqMixed.eq_str_int (Qq I q (by simp))
  |str j=>obtain⟨t',rfl⟩:=ry;exact eq_str (Qq I q PL)
  |_=>exact absurd (show false=true from hs) ZD
 |byt i=>
  obtain⟨t,rfl⟩:=rx;cases y with
  |byt j=>obtain⟨t',rfl⟩:=ry;exact PySem.W.eq_bytes (Qq I q Kh)
  |_=>exact absurd (show false=true from hs) ZD
 |_=>cases y<;>exact absurd (show false=true from hs) ZD
def op_ne:OpR X (compareOp .NotEq) rNe:=by
 intro pins s σ H x y v u Q I rx ry h;obtain⟨hs,q⟩:=h;cases x with
 |non=>
  cases rx
  cases y with
  |non=>cases ry;exact PySem.EqNone.ne_none_none (Qq I q (by simp))
  |bl j=>cases ry;exact PySem.EqNone.ne_none_bool (Qq I q (by simp))
  |int j=>obtain⟨t',rfl⟩:=ry;exact PySem.EqNone.ne_none_int (Qq I q (by simp))
  |str j=>obtain⟨t',rfl⟩:=ry;exact PySem.EqNone.ne_none_str (Qq I q (by simp))
  |_=>exact absurd (show false=true from hs) ZD
 |bl i=>
  cases rx
  cases y with
  |non=>cases ry;exact PySem.EqNone.ne_bool_none (Qq I q (by simp))
  |bl j=>cases ry;exact ne_bool (Qq I q (Yd not KU))
  |str j=>obtain⟨t',rfl⟩:=ry;exact PySem.EqMixed.ne_bool_str (Qq I q (by simp))
  |_=>exact absurd (show false=true from hs) ZD
 |int i=>
  obtain⟨t,rfl⟩:=rx;cases y with
  |non=>cases ry;exact PySem.EqNone.ne_int_none (Qq I q (by simp))
  |int j=>obtain⟨t',rfl⟩:=ry;exact ne_int (Qq I q (Yd not Pw))
  |str j=>obtain⟨t',rfl⟩:=ry;exact PySem.EqMixed.ne_int_str (Qq I q (by simp))
  |_=>exact absurd (show false=true from hs) ZD
 |str i=>
  obtain⟨t,rfl⟩:=rx;cases y with
  |non=>cases ry;exact PySem.EqNone.ne_str_none (Qq I q (by simp))
  |bl j=>cases ry;exact PySem.EqMixed.ne_str_bool (Qq I q (by simp))
  |int j=>obtain⟨t',rfl⟩:=ry;exact PySem.EqMixed.ne_str_int (Qq I q (by simp))
  |str j=>obtain⟨t',rfl⟩:=ry;exact ne_str (Qq I q (Yd not PL))
  |_=>exact absurd (show false=true from hs) ZD
 |byt i=>
  obtain⟨t,rfl⟩:=rx;cases y with
  |byt j=>obtain⟨t',rfl⟩:=ry;exact PySem.W.ne_bytes (Qq I q (Yd not Kh))
  |_=>exact absurd (show false=true from hs) ZD
 |_=>cases y<;>exact absurd (show false=true from hs) ZD
def Km:OpR X (compareOp .Lt) (rI0 fun i j=>.bl (decide (i<j))):=opB0 fun _ _ _ _ _ _ _ q=>lt_int q
def FZ:OpR X (compareOp .LtE) (rI0 fun i j=>.bl (decide (i<=j))):=opB0 fun _ _ _ _ _ _ _ q=>le_int q
def Ja:OpR X (compareOp .Gt) (rI0 fun i j=>.bl (decide (j<i))):=opB0 fun _ _ _ _ _ _ _ q=>gt_int q
def Sl:OpR X (compareOp .GtE) (rI0 fun i j=>.bl (decide (j<=i))):=opB0 fun _ _ _ _ _ _ _ q=>ge_int q
def OpR.or {f:Value->Value->Sem Value}{r r':R2} (h:OpR X f r) (h':OpR X f r'):OpR X f (fun x y H Q=>r x y H Q\/r' x y H Q):=by
 intro pins s σ H x y v u Q I rx ry q;rcases q with q|q
 ·exact h pins s σ H x y v u Q I rx ry q
 ·exact h' pins s σ H x y v u Q I rx ry q
def Qx(b:Expr){op:CmpOp}(h:op≠.In:=by decide)(h2:op≠.NotIn:=by decide):behindInMarks op b=false:=by
 have e1:(op==CmpOp.In)=false:=by cases op<;>first|rfl|exact absurd rfl h
 have e2:(op==CmpOp.NotIn)=false:=by cases op<;>first|rfl|exact absurd rfl h2
 cases b<;>simp[behindInMarks,e1,e2]
def Ut{op:CmpOp}{r:R2}(ho:OpR X (compareOp op) r)(ha:PE X a ta)(hb:PE X b tb)(hm:behindInMarks op b=false):PE X (.Compare a [op] [b] pos) (tOp r ta tb):=by
 intro pins s σ H Q I h;exact wpAny_Compare1 (binT ha hb I h fun v u s2 x y H2 I2 rx ry q=>ho pins s2 σ H2 x y v u Q I2 rx ry q) hm
def JD(t:TE):TT:=fun σ H Q=>t σ H fun x H'=>∃k,x=.bl k/\Q k H'
def Q6{op:CmpOp}{r:R2}(ho:OpR X (compareOp op) r)(ha:PE X a ta)(hb:PE X b tb)(hm:behindInMarks op b=false):PT X (.Compare a [op] [b] pos) (JD (tOp r ta tb)):=by
 intro pins s σ H Q I h
 refine wpAny_isTrue_Compare1 (thn (ha pins s σ H _ I h) fun v s1 ⟨x,H1,I1,r1,q1⟩=>thn (hb pins s1 σ H1 _ I1 q1) fun u s2 ⟨y,H2,I2,r2,q2⟩=>
  thn (ho pins s2 σ H2 x y v u _ I2 r1 r2 q2) fun c s3 ⟨z,H3,I3,r3,k,e,q3⟩=>?_) hm
 subst e;cases r3
 exact YH ⟨H3,I3,q3⟩
def TruV(K:Za)(x:V)(H:Hp)(k:Bool):Prop:=
 match x with
 | .non=>k=false
 | .bl b=>k=b
 | .int i=>k=(i != 0)
 | .str y=>y.length<=sizeLine/\k=((y.length:Int) != 0)
 | .byt y=>y.size<=sizeLine/\k=((y.size:Int) != 0)
 | .ref p=>(∃xs,SqL K H p xs/\k=!xs.isEmpty)\/(∃xs,SqT K H p xs/\k=!xs.isEmpty)\/∃kvs,H p=some (.dK kvs)/\k=!kvs.isEmpty
 |_=>False
def S7{κ:Type}{kvs:List (κ×V)}{vs:List (κ×Value)}(r:KV kvs vs):(!vs.isEmpty)=!kvs.isEmpty:=by
 cases r<;>rfl
def Tt{xs:List V}{its:List Value}(r:Vals xs its):(!its.toArray.isEmpty)=!xs.isEmpty:=by
 cases r<;>simp
def Jk:(sizeLine:Nat)<2 ^ 63:=by rw[Yz];decide
def Cb:TruR X (fun x H Q=>∃k,TruV X.K x H k/\Q k H):=by
 intro pins s σ H x v Q I rx h;obtain⟨k,e,q⟩:=h;have hl:=Jk;have hs:sizeLine=16777216:=Yz;cases x with
 |non=>
  cases rx
  have e':k=false:=e;subst e';exact truthy_none ⟨H,I,q⟩
 |bl b=>
  cases rx
  have e':k=b:=e;subst e';exact YH ⟨H,I,q⟩
 |int i=>
  obtain⟨t,rfl⟩:=rx;have e':k=(i != 0):=e;subst e';exact PySem.P.truthy_int ⟨H,I,q⟩
 |str y=>
  obtain⟨t,rfl⟩:=rx;obtain⟨hy,e'⟩:y.length<=sizeLine/\k=((y.length:Int) != 0):=e;subst e';exact PySem.P.truthy_str (by omega) ⟨H,I.tok _,q⟩
 |byt y=>
  obtain⟨t,rfl⟩:=rx;obtain⟨hy,e'⟩:y.size<=sizeLine/\k=((y.size:Int) != 0):=e;subst e';exact PySem.W.truthy_bytes (by omega) ⟨H,I.tok _,q⟩
 |ref p=>
  cases rx
  have e':(∃xs,SqL X.K H p xs/\k=!xs.isEmpty)\/(∃xs,SqT X.K H p xs/\k=!xs.isEmpty)\/∃kvs,H p=some (.dK kvs)/\k=!kvs.isEmpty:=e;rcases e' with⟨xs,hx,e'⟩|⟨xs,hx,e'⟩|⟨kvs,hx,e'⟩
  ·subst e';obtain⟨its,r,pl,hz⟩:=I.list hx;have hlen:=r.length;exact wpAny_truthy_list pl.isList (by simp only[Z7];omega) ⟨H,I.tok _,by rw[Tt r];exact q⟩
  ·subst e';obtain⟨its,r,pl,hz⟩:=I.tuple hx;have hlen:=r.length;exact truthy_tuple pl (by simp only[Z7];omega) ⟨H,I.tok _,by rw[Tt r];exact q⟩
  ·subst e';obtain⟨hz,hS,vs,r,m⟩:kvs.length<=sizeLine/\(p==sysModules)=false/\∃vs,KV kvs vs/\s.heap.DictOf (QE X.prog X.w) p vs:=I.hok p _ hx;have hlen:kvs.length=vs.length:=Paired.length r;exact wpAny_truthy_dict hS m (by omega) ⟨H,I.tok _,by rw[S7 r];exact q⟩
 |_=>exact(show False from e).elim
def S8(ha:PE X a ta)(he:∀whole,isTrue a X.env whole=(do let v ←whole;standAt a.pos;holding [v] (truthy v))) :
  PT X a (fun σ H Q=>ta σ H fun x H'=>∃k,TruV X.K x H' k/\Q k H'):=by
 intro pins s σ H Q I h;exact isTrue_plain (thn (ha pins s σ H _ I h) fun v s1 ⟨x,H1,I1,r1,q1⟩=>Cb pins s1 σ H1 x v Q I1 r1 q1) (he _)
def vals1{x:V}{us:List Value}(r:Vals [x] us):∃u,us=[u]/\RelV x u:=by
 cases r with
 |cons r1 r2=>cases r2;exact⟨_,rfl,r1⟩
def LenV(K:Za)(x:V)(H:Hp)(n:Nat):Prop:=
 match x with
 | .str y=>y.length<=sizeLine/\n=y.length
 | .byt y=>y.size<=sizeLine/\n=y.size
 | .ref p=>(∃xs,SqL K H p xs/\n=xs.length)\/∃xs,SqT K H p xs/\n=xs.length
 |_=>False
def QF:QI X (.builtin "len") (fun xs H Q=>∃x n,xs=[x]/\LenV X.K x H n/\Q (.int n) H):=by
 intro pins s σ H xs us Q I r h;obtain⟨x,n,rfl,e,q⟩:=h;obtain⟨u,rfl,rx⟩:=vals1 r;have hl:=Jk;have hs:sizeLine=16777216:=Yz;cases x with
 |str y=>
  obtain⟨t,rfl⟩:=rx;obtain⟨hy,e'⟩:y.length<=sizeLine/\n=y.length:=e;subst e';exact len_str (by omega) ⟨.int _,H,I.tok _,⟨_,rfl⟩,q⟩
 |byt y=>
  obtain⟨t,rfl⟩:=rx;obtain⟨hy,e'⟩:y.size<=sizeLine/\n=y.size:=e;subst e';exact PySem.W.len_bytes (by omega) ⟨.int _,H,I.tok _,⟨_,rfl⟩,q⟩
 |ref p=>
  cases rx
  have e':(∃xs,SqL X.K H p xs/\n=xs.length)\/∃xs,SqT X.K H p xs/\n=xs.length:=e;rcases e' with⟨xs,hx,e'⟩|⟨xs,hx,e'⟩
  ·subst e';obtain⟨its,r',pl,hz⟩:=I.list hx;have hlen:=r'.length;exact Calls.call_len_list pl.isList (by simp only[Z7];omega) ⟨.int xs.length,H,I.tok _,⟨_,by simp only[Z7];rw[hlen]⟩,q⟩
  ·subst e';obtain⟨its,r',pl,hz⟩:=I.tuple hx;have hlen:=r'.length;exact len_tuple pl (by simp only[Z7];omega) ⟨.int xs.length,H,I.tok _,⟨_,by simp only[Z7];rw[hlen]⟩,q⟩
 |_=>exact(show False from e).elim
end
structure ObjM (h:Heap) (x dx C:Addr) (mA:Str->Option Value):Prop where
 obj:h.get? x=some (PySem.W.instObj C dx)
 ns:h.Ns1 dx mA
 ne:dx≠x
def F0{h:Heap}{dx:Addr}{mA:Str->Option Value}(n:h.Ns1 dx mA):∃od,h.get? dx=some od/\∀name,PySem.W.lookIn name od=some (mA name):=by
 obtain⟨o,es,ep,ho,hd,hk,_,hm⟩:=n;refine⟨o,ho,fun name=>?_⟩;have e:=hm name;unfold nsFind findBy at e;rw[←Array.find?_toList]at e;unfold PySem.W.lookIn;rw[hd]
 dsimp only
 split
 ·rename_i y q;rw[q]at e;exact Yd some e
 ·rename_i q;rw[q]at e
  have a:es.toList.any (·.refKey)=false:=by
   rw[List.any_eq_false];intro y hy;obtain⟨z,t,hkey⟩:=hk y (Array.mem_toList_iff.mp hy);simp[DictEntry.refKey,hkey]
  have a':¬es.toList.any (·.refKey)=true:=by rw[a];exact ZD
  rw[Z8 a'];exact Yd some e
def ObjM.look {h:Heap}{x dx C:Addr}{mA:Str->Option Value} (I:ObjM h x dx C mA):∃od,PySem.W.InstAt h x (PySem.W.instObj C dx) C (some od)/\∀name,PySem.W.lookIn name od=some (mA name):=
 let ⟨od,ho,hl⟩:=F0 I.ns
 ⟨od,⟨I.obj,rfl,rfl,ho⟩,hl⟩
section
variable {P:Program}{w:World}{H H':Hp}{h h':Heap}{a C dx:Addr}{fs fs':List (Str×V)}
def Fg(hok:HOk P w H h)(e:H a=some (.ins C dx fs)):∃mA,ObjM h a dx C mA/\(∀f,RelO (fs.lookup f) (mA f))/\PySem.Within mA (fs.map (·.1))/\fs.length<=1000/\H dx=some (.own a):=by
 obtain⟨d,z,ne,ob,mA,n,r,q⟩:=(show ObjOk P w H h a (.ins C dx fs)from hok a _ e)
 exact⟨mA,⟨ob,n,ne⟩,r,q,z,d⟩
end
structure Cls (K:Za) (C:Addr):Prop where
 pg:PySem.W.plainGet K C Str.empty=true
 hd:PySem.W.hasDictIn K C=true
 po:PySem.W.plainOver K C=true
 sa:PySem.W.findIn K (.ref C) "__setattr__"=some (some (.builtin "object.__setattr__"))
def Cls.get {K:Za}{C:Addr} (c:Cls K C) (f:Str):PySem.W.plainGet K C f=true:=c.pg
section
variable {X:Cx}{pins:List (Addr×Obj)}{σ:St}{H:Hp}{s:Shared}{A:Around}{E:Value->Shared->Prop}{Q:Value->Shared->Prop}{c:Value}{b:Bool}
inductive TyOf (K:Za) (H:Hp):V->Value->Prop where
 |non:TyOf K H .non (.type "NoneType")
 |bl (x:Bool):TyOf K H (.bl x) (.type "bool")
 |int (i:Int):TyOf K H (.int i) (.type "int")
 |str (x:Str):TyOf K H (.str x) (.type "str")
 |flt (x:UInt64):TyOf K H (.flt x) (.type "float")
 |lst {a:Addr} {xs:List V} (e:H a=some (.lst xs)):TyOf K H (.ref a) (.type "list")
 |frz {a:Addr} {o:Obj} {xs:List V} (e:H a=some (.frz o (.lst xs))):TyOf K H (.ref a) (.type "list")
 |tup {a:Addr} {xs:List V} (e:H a=some (.tup xs)):TyOf K H (.ref a) (.type "tuple")
 |dK {a:Addr} {kvs:List (Key×V)} (e:H a=some (.dK kvs)):TyOf K H (.ref a) (.type "dict")
 |dT {a:Addr} {kvs:List (List Key×V)} (e:H a=some (.dT kvs)):TyOf K H (.ref a) (.type "dict")
 |ins {a C dx:Addr} {fs:List (Str×V)} (e:H a=some (.ins C dx fs)) (cl:Cls K C) (ha:PySem.W.findIn K (.ref C) "__class__"=some (some (.builtin "object.__class__")))
   (hn:PySem.W.specialIn K (.builtin "object.__class__") "__get__"=some (some (.builtin "getset_descriptor.__get__"))) (htk:PySem.W.takesIn K (.builtin "object.__class__")=some true)
   (hm:PySem.W.mroIn K C (.type "object")=some true):TyOf K H (.ref a) (.ref C)
def Ft{x:V}{u t:Value}(I:Inv X pins σ H s)(rx:RelV x u)(ty:TyOf X.K H x t)(e:PySem.W.kitOne X.K t c=some b)(h:∀tk,Q (.bool b) {s with toks:=tk}) :
  wpAny (model X.prog X.w) A (call (.builtin "isinstance") [u,c]) Q E s:=by
 cases ty with
 |non=>cases (show u=Value.none from rx);exact Yl PySem.W.kitx_none I.kIn True.intro e (fun z=>nomatch z) h
 |bl y=>cases (show u=Value.bool y from rx);exact Yl PySem.W.kitx_bool I.kIn True.intro e (fun z=>nomatch z) h
 |int i=>obtain⟨t,q⟩:=(show ∃t,u=Value.int i t from rx);cases q;exact Yl PySem.W.kitx_int I.kIn True.intro e (fun z=>nomatch z) h
 |str y=>obtain⟨t,q⟩:=(show ∃t,u=Value.str y t from rx);cases q;exact Yl PySem.W.kitx_str I.kIn True.intro e (fun z=>nomatch z) h
 |flt y=>obtain⟨t,q⟩:=(show ∃t,u=Value.float y t from rx);cases q;exact Yl PySem.W.kitx_float I.kIn True.intro e (fun z=>nomatch z) h
 | @lst a xs ea=>
  cases (show u=Value.ref a from rx)
  obtain⟨_,_,n,_,h1⟩:=(show ObjOk X.prog X.w H s.heap a (.lst xs)from I.hok a _ ea)
  exact Yl PySem.W.kitx_list I.kIn ⟨_,h1,rfl⟩ e (fun z=>nomatch z) h
 | @frz a ob xs ea=>
  cases (show u=Value.ref a from rx)
  obtain⟨_,_,_,n,_,h1⟩:=(show ObjOk X.prog X.w H s.heap a (.frz ob (.lst xs))from I.hok a _ ea)
  exact Yl PySem.W.kitx_list I.kIn ⟨_,h1,rfl⟩ e (fun z=>nomatch z) h
 | @tup a xs ea=>
  cases (show u=Value.ref a from rx)
  obtain⟨_,_,_,p⟩:=(show ObjOk X.prog X.w H s.heap a (.tup xs)from I.hok a _ ea)
  obtain⟨o,h1,h2,_⟩:=p;exact Yl PySem.W.kitx_tuple I.kIn ⟨o,h1,h2⟩ e (fun z=>nomatch z) h
 | @dK a kvs ea=>
  cases (show u=Value.ref a from rx)
  obtain⟨_,_,vs,_,p⟩:=(show ObjOk X.prog X.w H s.heap a (.dK kvs)from I.hok a _ ea)
  obtain⟨o,es,ep,h1,h2,_⟩:=p;exact Yl PySem.W.kitx_dict I.kIn ⟨o,h1,h2.1⟩ e (fun z=>nomatch z) h
 | @dT a kvs ea=>
  cases (show u=Value.ref a from rx)
  obtain⟨_,_,xs,_,o,es,ep,h1,h2,_⟩:=(show ObjOk X.prog X.w H s.heap a (.dT kvs)from I.hok a _ ea)
  exact Yl PySem.W.kitx_dict I.kIn ⟨o,h1,h2.1⟩ e (fun z=>nomatch z) h
 | @ins a C dx fs ea cl ha hn htk hm=>
  cases (show u=Value.ref a from rx)
  obtain⟨mA,O,_⟩:=Fg I.hok ea;obtain⟨od,J,_⟩:=O.look;exact Yl (PySem.W.kitx_own (cl.get _) cl.hd ha hn htk hm) I.kIn J e (fun z=>nomatch z) h
end
structure Room (k:Nat) (A:Around):Prop where
 hd:A.handled=none
 dp:A.depth+3*k+5<recursionLimit
 un:A.units+16*k+200<cLine
def Room.mono {j k:Nat}{A:Around} (r:Room k A) (h:j<=k):Room j A:=⟨r.hd,by have:=r.dp;omega,by have:=r.un;omega⟩
def Room.deeper {k:Nat}{A:Around} (r:Room (k+1) A) (env:Env):Room k (A.deeper env):=
 ⟨r.hd,by have:=r.dp;show A.depth+1+3*k+5<_;omega,by have:=r.un;show A.units+3+16*k+200<_;omega⟩
def Room.depth {k:Nat}{A:Around} (r:Room k A):A.depth<recursionLimit:=by have:=r.dp;omega
def Room.units {k:Nat}{A:Around} (r:Room k A):A.units+64<cLine:=by have:=r.un;omega
def Room.units0 {k:Nat}{A:Around} (r:Room k A):A.units<cLine:=by have:=r.un;omega
def tNil:TA:=fun _ H Q=>Q [] H
def Q0(ta:TE)(tr:TA):TA:=fun σ H Q=>ta σ H fun x H1=>tr σ H1 fun xs H2=>Q (x::xs) H2
section
variable {X:Cx}{e:Expr}{es:List Expr}{te:TE}{t:TA}{pos:Pos}
def Qe:PA X [] tNil:=fun _ _ _ _ H Q I h=>Calls.spliced_nil ⟨[],H,I,.nil,h⟩
def WZ(ha:PE X e te)(hr:PA X es t)(hs:starEach (e::es) X.env=(false,eval e X.env)::starEach es X.env:=by rfl):PA X (e::es) (Q0 te t):=by
 intro pos pins s σ H Q I h;rw[hs];show wpAny _ _ (spliced ((false,eval e X.env)::backTo pos (starEach es X.env))) _ _ s;refine Calls.spliced_cons (thn (ha pins s σ H _ I h) fun u s1 ⟨x,H1,I1,r1,q1⟩=>?_);exact thn (hr pos pins s1 σ H1 _ I1 q1) fun us s2 ⟨xs,H2,I2,r2,q2⟩=>⟨x::xs,H2,I2,.cons r1 r2,q2⟩
def tTup(t:TA):TE:=fun σ H Q=>t σ H fun xs H1=>xs.length<=sizeLine/\∀p,H1 p=none->Q (.ref p) (upd H1 p (.tup xs))
def tLst(t:TA):TE:=fun σ H Q=>t σ H fun xs H1=>xs.length<=sizeLine/\∀p,H1 p=none->Q (.ref p) (upd H1 p (.lst xs))
def J3{x1}(h:PA X es t):PE X (.Tuple es x1 pos) (tTup t):=by
 intro pins s σ H Q I hq;refine wpAny_Tuple_spliced (thn (h pos pins s σ H _ I hq) fun us s1 ⟨xs,H1,I1,r,z,q⟩=>⟨by rw[←r.length];exact z,?_⟩);have hf:H1 s1.heap.objs.size=none:=I1.hok.fresh (Z4 _);refine⟨.ref s1.heap.objs.size,upd H1 s1.heap.objs.size (.tup xs),I1.laid (t':=s1.toks) (fun b u e=>Z2 _ e) (Z4 _) ?_,rfl,q _ hf⟩;exact⟨z,us,r,⟨_,Z9 _ rfl,rfl,_,rfl⟩⟩
def QS(h:PA X es t):PE X (.List es pos) (tLst t):=by
 intro pins s σ H Q I hq;refine wpAny_List_spliced (thn (h pos pins s σ H _ I hq) fun us s1 ⟨xs,H1,I1,r,z,q⟩=>⟨by rw[←r.length];exact z,?_⟩);have hf:H1 s1.heap.objs.size=none:=I1.hok.fresh (Z4 _);refine⟨.ref s1.heap.objs.size,upd H1 s1.heap.objs.size (.lst xs),I1.laid (t':=s1.toks) (fun b u e=>Z2 _ e) (Z4 _) ?_,rfl,q _ hf⟩;exact⟨z,us,0,r,Z9 _ rfl⟩
end
abbrev Sp:=List V->Hp->VK->XK->Prop
abbrev CXT:=List Env->Hp->Shared->XK->Value->Shared->Prop
structure Env0 (P:Program) (w:World) (K:Za) (mg:Str->Option Value) (base:Heap) (A:Around) (outer:List Env) (s:Shared) (H:Hp):Prop where
 frames:A.frames=some outer
 mod:Mod K mg base
 bs:∀b o,base.get? b=some o->s.heap.get? b=some o/\H b=none
 bsz:base.objs.size<=s.heap.objs.size
 funs:s.heap.FunFrames base outer
 frf:∀b∈frs outer,H b=none
 hok:HOk P w H s.heap
 bare:AllBare s.gens
def CE(outer:List Env)(P:Program)(w:World)(H:Hp)(s:Shared)(Q:VK)(u:Value)(s':Shared):Prop:=
 ∃v H',s'.os=s.os/\AllBare s'.gens/\Un (frs outer) [] H H' s.heap s'.heap/\HOk P w H' s'.heap/\RelV v u/\Q v H'
def CR(CX:CXT)(outer:List Env)(P:Program)(w:World)(H:Hp)(s:Shared)(Q:VK)(E:XK)(r:Result)(s':Shared):Prop:=
 match r with
 | .ok (.ret u)=>CE outer P w H s Q u s'
 | .ok _=>False
 | .error e=>CX outer H s E e s'
structure FnOk (P:Program) (w:World) (K:Za) (mg:Str->Option Value) (base:Heap) (CX:CXT) (k:Nat) (f:Addr) (fd:FuncData) (ps:List Str) (sp:Sp):Prop where
 len:∀vs H Q E,sp vs H Q E->vs.length=ps.length
 run:∀(A:Around) (outer:List Env) (s:Shared) (H:Hp) (args:Args) (us:List Value) (vs:List V) (Q:VK) (E:XK),Room k A->Env0 P w K mg base A outer s H->BindsTo s fd args (ps.zip us)->Vals vs us->sp vs H Q E->
  codeAny (model P w) A (.call (.ref f) args) (CR CX outer P w H s Q E) s
def FnOk.imp {P:Program}{w:World}{K:Za}{mg:Str->Option Value}{base:Heap}{CX:CXT}{k:Nat}{f:Addr}{fd:FuncData}{ps:List Str}{sp sp':Sp} (F:FnOk P w K mg base CX k f fd ps sp)
  (h:∀vs H Q E,sp' vs H Q E->sp vs H Q E):FnOk P w K mg base CX k f fd ps sp':=
 ⟨fun vs H Q E q=>F.len vs H Q E (h _ _ _ _ q),fun A outer s H args us vs Q E hr he hb hv hs=>F.run A outer s H args us vs Q E hr he hb hv (h _ _ _ _ hs)⟩
section
variable {X:Cx}{pins:List (Addr×Obj)}{σ:St}{H:Hp}{s s':Shared}
def Inv.env0 (I:Inv X pins σ H s):Env0 X.prog X.w X.K X.mg X.base X.A X.stack s H:=
 ⟨I.ok.frames,I.ok.mod,I.bs,ZM I.ok.bsz I.sz,I.stack,I.stkFree,I.hok,I.bare⟩
def Inv.after {Q:VK}{u:Value} (I:Inv X pins σ H s) (h:CE X.stack X.prog X.w H s Q u s'):EP X pins σ Q u s':=by
 obtain⟨v,H',os,bare,un,hok,r,q⟩:=h;obtain⟨hh,g,d,t,os'⟩:=s';obtain rfl:os'=s.os:=os;exact⟨v,H',I.call (h':=hh) (g':=g) (d':=d) (t':=t) (ch:=[]) un hok bare (fun b z=>absurd z (by simp)),r,q⟩
end
def JT(sp:Sp)(dvs:List V)(E:XK)(t:TA):TE:=fun σ H Q=>t σ H fun vs H1=>sp (vs++dvs) H1 Q E
def Binds(K:Za)(fd:FuncData)(ps:List Str)(ds:List Value):Prop:=
 ∀(s:Shared) (us:List Value),K.In s.heap->(us++ds).length=ps.length->BindsTo s fd ⟨us,[]⟩ (ps.zip (us++ds))
def Binds.all {K:Za}{fd:FuncData}{ps:List Str} (h:∀us:List Value,us.length=ps.length->bindArgs fd ⟨us,[]⟩=pure (ps.zip us)):Binds K fd ps []:=fun s us _ hl=>by
 rw[Wg]at hl ⊢;exact .of_eq (h us hl)
def Jf(CX:CXT)(X:Cx)(E:XK):Prop:=∀(pins:List (Addr×Obj)) (σ:St) (H:Hp) (s:Shared) (e:Value) (s':Shared),Inv X pins σ H s->CX X.stack H s E e s'->X.xe e s'
section
variable {X:Cx}{CX:CXT}{k:Nat}{f C:Addr}{fd:FuncData}{ps:List Str}{sp:Sp}{dvs:List V}{ds:List Value}{E:XK}{x m:Str}{p pos apos:Pos}{e o:Expr}{es:List Expr}{ta:TE}{t:TA}
def Ct{pins:List (Addr×Obj)}{σ:St}{H:Hp}{s:Shared}{Q:VK}{us:List Value}{vs:List V}(F:FnOk X.prog X.w X.K X.mg X.base CX k f fd ps sp)(hr:Room k X.A)(hb:Binds X.K fd ps ds)(hd:Vals dvs ds)(hx:Jf CX X E)(I:Inv X pins σ H s)(r:Vals vs us)(h:sp (vs++dvs) H Q E):wpAny (model X.prog X.w) X.A (call (.ref f) us) (EP X pins σ Q) X.xe s:=by
 have r2:Vals (vs++dvs) (us++ds):=r.append hd;have hl:(us++ds).length=ps.length:=by rw[←r2.length];exact F.len _ _ _ _ h
 refine wpAny_call (Wj (F.run X.A X.stack s H ⟨us,[]⟩ (us++ds) (vs++dvs) Q E hr I.env0 (hb s us I.kIn hl) r2 h) fun r s' hq=>?_);cases r with
 |error e=>exact hx pins σ H s e s' I hq
 |ok fl=>
  cases fl with
  |ret u=>exact I.after hq
  |next=>exact False.elim hq
  |brk=>exact False.elim hq
  |cont=>exact False.elim hq
def SG(F:FnOk X.prog X.w X.K X.mg X.base CX k f fd ps sp)(hr:Room k X.A)(hg:Gl X x)(hm:X.mg x=some (.ref f))(hk:PySem.W.keepIn X.K (.ref f)=true)(hb:Binds X.K fd ps ds)(hd:Vals dvs ds)(hx:Jf CX X E)(ha:PA X (e::es) t)(hdb:(x==("__debug__" : Str))=false:=by decide)(he:starEach (e::es) X.env=(false,eval e X.env)::starEach es X.env:=by rfl)(hpl:(backTo pos (starEach es X.env)).any (·.1)=false:=by rfl) :
  PE X (.Call (.Name x p) (e::es) [] pos) (JT sp dvs E t):=by
 intro pins s σ H Q I h;refine Wk (PF I hg hm ?_ hdb);refine PySem.W.callWith_K (h₀:=X.base) I.ok.mod.kin hk (thn (ha pos pins s σ H _ I h) fun us s1 ⟨vs,H1,I1,r,q⟩=>⟨I1.kIn,?_⟩) he hpl;exact Ct F hr hb hd hx I1 r q
end
structure FnScope (N P:List Str) (sc:Scope):Prop where
 kind:sc.kind=.function
 co:sc.isCoroutine=false
 gen:sc.isGenerator=false
 nd:N.Nodup
 pre:N.take P.length=P
 par:∀x∈P,sc.names.lookup x=some .local\/sc.names.lookup x=some .cell
 nofree:∀y∈sc.names,y.2≠.free
def PH{kindOf:Str->Option NameKind}{x:Str}:∀{binds:List (Str×Value)}{m:Str->Option Value},(∀v,(x,v)∉binds)->bindL kindOf binds m x=m x
 |[],_,_=>rfl
 |(n,v)::r,m,h=>by
  unfold bindL;rw[PH fun w hw=>h w (ZH _ hw)];split
  ·have:x≠n:=by rintro rfl;exact h v ZK
   simp[this]
  ·rfl
def Pb{kindOf:Str->Option NameKind}{x:Str}:∀{binds:List (Str×Value)}{m:Str->Option Value},(∀v,(x,v)∉binds)->bindC kindOf binds m x=m x
 |[],_,_=>rfl
 |(n,v)::r,m,h=>by
  unfold bindC;rw[Pb fun w hw=>h w (ZH _ hw)];split
  ·rfl
  ·have:x≠n:=by rintro rfl;exact h v ZK
   simp[this]
def Xk{kindOf:Str->Option NameKind}{x:Str}{v:Value}:∀{P:List Str}{vs:List Value}{i:Nat}{m:Str->Option Value},P.Nodup->P[i]?=some x->vs[i]?=some v->kindOf x=some .local->
  bindL kindOf (P.zip vs) m x=some v
 |[],_,_,_,_,h,_,_=>by simp at h
 |_::_,[],_,_,_,_,h,_=>by simp at h
 |p::P,w::vs,0,m,nd,h1,h2,hk=>by
  simp at h1 h2;subst h1;subst h2;show bindL kindOf ((p,w)::P.zip vs) m p=_;unfold bindL;rw[PH fun v hv=>(YO.mp nd).1 (List.of_mem_zip hv).1,ZA hk];simp
 |p::P,w::vs,i+1,m,nd,h1,h2,hk=>by
  show bindL kindOf ((p,w)::P.zip vs) m x=_;unfold bindL;exact Xk (i:=i) (YO.mp nd).2 (by simpa using h1) (by simpa using h2) hk
def Te{kindOf:Str->Option NameKind}{x:Str}{v:Value}:∀{P:List Str}{vs:List Value}{i:Nat}{m:Str->Option Value},P.Nodup->P[i]?=some x->vs[i]?=some v->kindOf x≠some .local->
  bindC kindOf (P.zip vs) m x=some v
 |[],_,_,_,_,h,_,_=>by simp at h
 |_::_,[],_,_,_,_,h,_=>by simp at h
 |p::P,w::vs,0,m,nd,h1,h2,hk=>by
  simp at h1 h2;subst h1;subst h2;show bindC kindOf ((p,w)::P.zip vs) m p=_;unfold bindC;rw[Pb fun v hv=>(YO.mp nd).1 (List.of_mem_zip hv).1,Z8 hk];simp
 |p::P,w::vs,i+1,m,nd,h1,h2,hk=>by
  show bindC kindOf ((p,w)::P.zip vs) m x=_;unfold bindC;exact Te (i:=i) (YO.mp nd).2 (by simpa using h1) (by simpa using h2) hk
def start(N:List Str)(vs:List V):St:=vs.map some++List.replicate (N.length-vs.length) none
def cxOf(CX:CXT)(P:Program)(w:World)(K:Za)(mg:Str->Option Value)(base:Heap)(N:List Str)(qual:Str)(scope:Scope)(f:Addr)(cd:Value)(A:Around)(outer:List Env)(s:Shared)(H:Hp)(E:XK):Cx where
 prog:=P
 w:=w
 K:=K
 mg:=mg
 base:=base
 A:=A.deeper (envOfC qual scope s.heap.objs.size f cd)
 N:=N
 s₀:=s
 H₀:=H
 env:=envOfC qual scope s.heap.objs.size f cd
 outer:=outer
 stack:=envOfC qual scope s.heap.objs.size f cd::outer
 ex:=[]
 calm:=true
 fn:=fun _=>true
 pn:=[]
 xe:=fun e s'=>wpAny (model P w) (A.deeper (envOfC qual scope s.heap.objs.size f cd)) (leaving (envOfC qual scope s.heap.objs.size f cd) e) (fun _ s''=>CX outer H s E e s'') (fun e' s''=>CX outer H s E e' s'') s'
def Nl{sc:Scope}{n:Nat}{x:Str}(h:sc.names.lookup x=some .cell):∃c,(cellsFrom n sc.names []).lookup x=some c:=by
 have q:=Wv sc.names n [] (.inl h);exact Option.isSome_iff_exists.mp q
def Xj{CX:CXT}{P:Program}{w:World}{K:Za}{mg:Str->Option Value}{base:Heap}{N ps:List Str}{qual:Str}{scope:Scope}{f:Addr}{cd:Value}{A:Around}{outer:List Env}{s s1:Shared}{H:Hp}{E:XK}{us:List Value}{vs:List V}(S:FnScope N ps scope)(hd:A.handled=none)(e0:Env0 P w K mg base A outer s H)(hl:vs.length=ps.length)(r:Vals vs us)(x:InCallC s s.heap.objs.size (bindL (envOfC qual scope s.heap.objs.size f cd).kindOf (ps.zip us) fun _=>none) (cellsFrom (s.heap.objs.size+1) scope.names []) (bindC (envOfC qual scope s.heap.objs.size f cd).kindOf (ps.zip us) fun _=>none) s1) :
  Inv (cxOf CX P w K mg base N qual scope f cd A outer s H E) [] (start N vs) H s1:=by
 have hpl:ps.length<=N.length:=by have:=Yd List.length S.pre;rw[Yr]at this;omega
 obtain⟨h1,tk,rfl,hk⟩:=x.done;have noA:∀b:Addr,b∉(cxOf CX P w K mg base N qual scope f cd A outer s H E).ex:=fun b z=>absurd (show b∈([]:List Addr)from z) (by simp)
 refine⟨⟨e0.mod,S.kind,rfl,rfl,Z4 _,fun y z c h1 h2=>?_,fun y hy=>?_,fun y c _ h=>?_,fun _=>hd,Around.frames_deeper e0.frames,.inr ⟨rfl,rfl⟩,fun b z=>absurd z (noA b),e0.bs,e0.bsz,fun b _ _=>noA b,fun b z=>absurd z (noA b),e0.funs,e0.frf⟩,
  rfl,e0.bare,Un.kept hk,⟨_,x.toInCall.ns,fun i y v h1 h2 h3=>?_⟩,fun y c h=>⟨_,x.cell y c h⟩,e0.hok.fresh (Z4 _),fun y c h=>?_,fun p hp=>absurd (show p∈([]:List (Addr×Obj))from hp) (by simp),e0.hok.kept hk,?_⟩
 ·exact name_of_addr x.apart (Ye h1) (Ye h2)
 ·have hy:scope.names.lookup y=some .cell\/scope.names.lookup y=some .free:=hy;rcases hy with hy|hy
  ·exact Nl hy
  ·exact absurd rfl (S.nofree _ (Ye hy))
 ·exact Wi (x.above y c (Ye h))
 ·have hi:i<vs.length:=by
   unfold start at h2;by_cases hi:i<vs.length
   ·exact hi
   ·rw[YG (by simpa using hi)]at h2;rw[List.getElem?_replicate]at h2;split at h2<;>cases h2
  have ha:vs[i]?=some v:=by
   unfold start at h2;rw[Y3 (by simpa using hi),ZC]at h2;cases e:vs[i]? with
   |none=>rw[e]at h2;cases h2
   |some a=>rw[e]at h2;cases h2;rfl
  obtain⟨u,hu,rv⟩:=r.get ha
  have hp:ps[i]?=some y:=by
   rw[←S.pre,List.getElem?_take_of_lt (by omega)];exact h1
  have ndP:ps.Nodup:=by rw[←S.pre];exact S.nd.sublist (WE _ _)
  refine⟨u,rv,?_⟩;rcases S.par y (Y5 hp)with k|k
  ·exact .inl ⟨k,Xk ndP hp hu k⟩
  ·obtain⟨c,e⟩:=Nl (n:=s.heap.objs.size+1) k;refine .inr ⟨.inl k,c,e,?_⟩;have q:=x.cell y c e;rw[Te ndP hp hu (by show scope.names.lookup y≠_;rw[k];decide)]at q;exact q
 ·exact e0.hok.fresh (Wi (x.above y c (Ye h)))
 ·unfold start;show _=N.length;rw[Yi,Z1,List.length_replicate];omega
def Ky{CX:CXT}{P:Program}{w:World}{K:Za}{mg:Str->Option Value}{base:Heap}{k:Nat}{f:Addr}{name qual:Str}{params:Arguments}{body:List Stmt}{scope:Scope}{dV kV doc pm cdv ct oc:Value}{an od:Option Addr}{osl:Array (Option Value)}{N ps:List Str}{sp:Sp}(lk:K.lookup f=some ⟨oc,od,.func (PySem.W.fnOf name qual params body scope dV kV doc pm an cdv ct),osl⟩)(hcd:PySem.W.codeIn K cdv qual=true)(S:FnScope N ps scope)(len:∀vs H Q E,sp vs H Q E->vs.length=ps.length)
  (hbody:∀(A:Around) (outer:List Env) (s:Shared) (H:Hp) (vs:List V) (Q:VK) (E:XK),Room k (A.deeper (envOfC qual scope s.heap.objs.size f cdv))->sp vs H Q E->
   ∃t,PSs (cxOf CX P w K mg base N qual scope f cdv A outer s H E) body t/\t {nx:=fun _ H'=>Q .non H',rt:=Q} (start N vs) H) :
  FnOk P w K mg base CX (k+1) f (PySem.W.fnOf name qual params body scope dV kV doc pm an cdv ct) ps sp:=by
 refine⟨len,fun A outer s H args us vs Q E hr e0 hb r hsp=>?_⟩;have hl:=len _ _ _ _ hsp;have KX:K.In s.heap:=e0.mod.kin.keeps fun b o e=>(e0.bs b o e).1;have lim:s.heap.NoLimit:=e0.mod.nolimit.keeps fun b o e=>(e0.bs b o e).1
 have hkind:∀y∈ps.zip us,scope.names.lookup y.1=some .local\/(scope.names.lookup y.1=some .cell/\((cellsFrom (s.heap.objs.size+1) scope.names []).lookup y.1).isSome=true):=fun⟨n,v⟩ hy=>by
  rcases S.par n (List.of_mem_zip hy).1 with q|q
  ·exact .inl q
  ·exact .inr ⟨q,Wv _ _ _ (.inl q)⟩
 refine codeAny_call_function hr.depth (KX _ _ lk) rfl S.co S.gen rfl (PySem.W.codeRec_of KX hcd) (hb _ _ _ _ ?_);refine wpAny_newFunctionEnv_cells S.kind hkind fun env he s1 x=>?_;subst he;refine⟨lim.keeps x.toInCall.keep,codeAny_func ?_⟩;obtain⟨t,ht,hq⟩:=hbody A outer s H vs Q E (hr.deeper _) hsp;have I:Inv (cxOf CX P w K mg base N qual scope f cdv A outer s H E) [] (start N vs) H s1:=Xj S hr.hd e0 hl r x;refine Yh (ht [] s1 (start N vs) H _ I hq) (fun fl s' hs=>?_) fun e s' hs=>hs
 have fin:∀{σ':St} {H':Hp} {v:V} {u:Value},Inv (cxOf CX P w K mg base N qual scope f cdv A outer s H E) [] σ' H' s'->RelV v u->Q v H'->CE outer P w H s Q u s':=
  fun {σ' H' v u} J rv q=>⟨v,H',J.os,J.bare,J.base,J.hok,rv,q⟩
 cases fl with
 |ret u=>
  obtain⟨v,σ',H',J,rv,q⟩:=hs;exact fin J rv q
 |next=>
  obtain⟨σ',H',J,q⟩:=hs;exact fin (v:=V.non) (u:=Value.none) J rfl q
 |brk=>
  obtain⟨_,_,_,q⟩:=hs;exact False.elim q
 |cont=>
  obtain⟨_,_,_,q⟩:=hs;exact False.elim q
section
variable {X:Cx}{x:Str}{p pos:Pos}{e:Expr}{es:List Expr}{t:TA}{id T:String}{r:List V->Hp->VK->Prop}
def tCB(r:List V->Hp->VK->Prop)(t:TA):TE:=fun σ H Q=>t σ H fun vs H1=>r vs H1 Q
def Qt(hc:QI X (.builtin id) r)(hg:Gl X x)(hm:X.mg x=none)(hv:bootBuiltins x=some (.builtin id))(ha:PA X (e::es) t)(hn:x≠"__name__":=by decide)(hdb:(x==("__debug__" : Str))=false:=by decide)(he:starEach (e::es) X.env=(false,eval e X.env)::starEach es X.env:=by rfl)(hpl:(backTo pos (starEach es X.env)).any (·.1)=false:=by rfl):PE X (.Call (.Name x p) (e::es) [] pos) (tCB r t):=by
 intro pins s σ H Q I h;refine Wk (VI I hg hm hv ?_ hn hdb);exact PyProof.Rows.callWith_builtin1 (thn (ha pos pins s σ H _ I h) fun us s1 ⟨vs,H1,I1,r1,q1⟩=>hc pins s1 σ H1 vs us Q I1 r1 q1) he hpl
def VP(hc:QI X (.type T) r)(hg:Gl X x)(hm:X.mg x=none)(hv:bootBuiltins x=some (.type T))(ha:PA X (e::es) t)(hn:x≠"__name__":=by decide)(hdb:(x==("__debug__" : Str))=false:=by decide)(he:starEach (e::es) X.env=(false,eval e X.env)::starEach es X.env:=by rfl)(hpl:(backTo pos (starEach es X.env)).any (·.1)=false:=by rfl):PE X (.Call (.Name x p) (e::es) [] pos) (tCB r t):=by
 intro pins s σ H Q I h;refine Wk (VI I hg hm hv ?_ hn hdb);exact YX (thn (ha pos pins s σ H _ I h) fun us s1 ⟨vs,H1,I1,r1,q1⟩=>hc pins s1 σ H1 vs us Q I1 r1 q1) he hpl
end
end L2
namespace HT
open PySem PyProof.Rows
section
variable {prog:Program}{w:World}{A:Around}{E:Value->Shared->Prop}{s:Shared}
def sIx(n d:Nat):Option Int->Nat
 |none=>d
 |some v=>if v<0 then(v+(n:Int)).toNat else min v.toNat n
def Kg(n d:Nat):sIx n d none=d:=rfl
def Xo(n d k:Nat):sIx n d (some (k:Int))=min k n:=by
 show(if (k:Int)<0 then((k:Int)+(n:Int)).toNat else min (k:Int).toNat n)=min k n;rw[Z8 (by omega),ZQ]
end
end HT
namespace L2
open PySem PySem.Spec PyProof.Rows
abbrev TO:=St->Hp->(Option Int->Hp->Prop)->Prop
def PO(X:Cx)(e:Option Expr)(t:TO):Prop:=
 ∀(pins:List (Addr×Obj)) (s:Shared) (σ:St) (H:Hp) (Q:Option Int->Hp->Prop),Inv X pins σ H s->t σ H Q->
  wpAny (model X.prog X.w) X.A (evalPart e X.env) (fun u s'=>∃o H',Inv X pins σ H' s'/\IsPart u o/\Q o H') X.xe s
def Xs:TO:=fun _ H Q=>Q none H
def Ki(t:TE):TO:=fun σ H Q=>t σ H fun x H1=>∃i,x=.int i/\Q (some i) H1
def PJ{ns:List Int}:∀{us:List Value},Vals (ns.map V.int) us->IntsAre us ns:=by
 induction ns with
 |nil=>intro us r;rw[List.map_nil]at r;cases r;exact .nil
 |cons n ns ih=>
  intro us r;rw[ZG]at r;cases r with
  |cons r1 r2=>
   obtain⟨t,e⟩:=r1;subst e;exact .cons n t (ih r2)
section
variable {X:Cx}{e:Expr}{te:TE}{lo hi:Option Expr}{tl th:TO}{pos p2:Pos}
def Px:PO X none Xs:=by
 intro pins s σ H Q I h;rw[evalPart_none];exact Z3 ⟨none,H,I,.none,h⟩
def Xi(h:PE X e te):PO X (some e) (Ki te):=by
 intro pins s σ H Q I hw;rw[evalPart_some];refine thn (h pins s σ H _ I hw) fun u s1 ⟨x,H1,I1,r1,q1⟩=>?_;obtain⟨i,rfl,q⟩:=q1;obtain⟨t,rfl⟩:=r1;exact⟨some i,H1,I1,.int i t,q⟩
def SlR(X:Cx)(r:V->Option Int->Option Int->Hp->VK->Prop):Prop:=
 ∀(pins:List (Addr×Obj)) (s:Shared) (σ:St) (H:Hp) (x:V) (v vl vu:Value) (lo hi:Option Int) (sl:Addr) (Q:VK),Inv X pins σ H s->RelV x v->s.heap.IsSliceOf sl vl vu .none->IsPart vl lo->IsPart vu hi->r x lo hi H Q->
  ∃T id,typeLookup (.type T) "__getitem__"=pure (some (.builtin id))/\s.TypeIs v T/\wpAny (model X.prog X.w) X.A (getItem v (.ref sl)) (EP X pins σ Q) X.xe s
def tSl(r:V->Option Int->Option Int->Hp->VK->Prop)(te:TE)(tl th:TO):TE:=fun σ H Q=>te σ H fun x H1=>tl σ H1 fun l H2=>th σ H2 fun u H3=>r x l u H3 Q
def T8{r:V->Option Int->Option Int->Hp->VK->Prop}(hr:SlR X r)(he:PE X e te)(hl:PO X lo tl)(hu:PO X hi th):PE X (.Subscript e (.Slice lo hi none p2) pos) (tSl r te tl th):=by
 intro pins s σ H Q I h;refine Subscript_ (thn (he pins s σ H _ I h) fun v s1 ⟨x,H1,I1,r1,q1⟩=>?_);refine wpAny_Slice (thn (hl pins s1 σ H1 _ I1 q1) fun vl s2 ⟨l,H2,I2,pl,q2⟩=>thn (hu pins s2 σ H2 _ I2 q2) fun vu s3 ⟨u,H3,I3,pu,q3⟩=>?_);rw[evalPart_none];refine Z3 ?_;have I4:Inv X pins σ H3 {s3 with heap:=s3.heap.push {cls:=.type "slice",data:=.fields #[vl,vu,.none]}}:=I3.kept (t':=s3.toks) fun b ob q=>Z2 _ q
 obtain⟨T,id,hT,ht,hg⟩:=hr pins {s3 with heap:=s3.heap.push {cls:=.type "slice",data:=.fields #[vl,vu,.none]}} σ H3 x v vl vu l u s3.heap.objs.size Q I4 r1 (Heap.IsSliceOf.new ..) pl pu q3
 show wpAny (model X.prog X.w) X.A (subscriptTail e (.Slice lo hi none p2) v (.ref s3.heap.objs.size)) (EP X pins σ Q) X.xe {s3 with heap:=s3.heap.push {cls:=.type "slice",data:=.fields #[vl,vu,.none]}}
 exact tail_any (ops:=[.ref s3.heap.objs.size,v]) ht hT hg (by with_unfolding_all rfl)
def cutV(xs:List V)(lo hi:Option Int):List V:=(xs.drop (HT.sIx xs.length 0 lo)).take (HT.sIx xs.length xs.length hi-HT.sIx xs.length 0 lo)
def CL(xs:List V)(lo hi:Option Int):(cutV xs lo hi).length<=xs.length:=by
 unfold cutV;rw[Yr,List.length_drop];omega
end
def ixN(n:Nat)(i:Int):Option Nat:=if 0<=i then(if i<n then some i.toNat else none)else if -(n:Int)<=i then some (i+n).toNat else none
def atI{α:Type}(xs:List α)(i:Int):Option α:=(ixN xs.length i).bind fun j=>xs[j]?
def TL{n:Nat}{i:Int}{j:Nat}(h:ixN n i=some j):seqIndex? i n=some j/\j<n/\-(n:Int)<=i/\i<n:=by
 unfold ixN at h;by_cases h0:0<=i
 ·rw[ZA h0]at h;by_cases h1:i<n
  ·rw[ZA h1]at h;have e:i.toNat=j:=Z6 h;exact⟨by rw[seqIndex_of h0 h1,e],by omega,by omega,h1⟩
  ·rw[Z8 h1]at h;cases h
 ·rw[Z8 h0]at h;by_cases h1:-(n:Int)<=i
  ·rw[ZA h1]at h;have e:(i+n).toNat=j:=Z6 h;exact⟨by rw[seqIndex_neg (by omega) h1,e],by omega,h1,by omega⟩
  ·rw[Z8 h1]at h;cases h
def Ts{α:Type}{xs:List α}{i:Int}{v:α}(h:atI xs i=some v):∃j,seqIndex? i xs.length=some j/\xs[j]?=some v/\j<xs.length/\-(xs.length:Int)<=i/\i<xs.length:=by
 unfold atI at h;cases e:ixN xs.length i with
 |none=>rw[e]at h;cases h
 |some j=>
  rw[e]at h;obtain⟨h1,h2,h3,h4⟩:=TL e;exact⟨j,h1,h,h2,h3,h4⟩
def QM{α:Type}{xs:List α}{j:Nat}{v:α}(h:xs[j]?=some v):atI xs (j:Int)=some v:=by
 have hj:j<xs.length:=(ZV.mp h).1
 have e:ixN xs.length (j:Int)=some j:=by
  unfold ixN;rw[ZA (by omega),ZA (by omega)];simp
 unfold atI;rw[e];exact h
def Au{α:Type}(xs:List α)(v:α):atI (xs++[v]) (-1)=some v:=by
 have hl:(xs++[v]).length=xs.length+1:=by simp
 have e:ixN (xs++[v]).length (-1)=some xs.length:=by
  unfold ixN;rw[hl,Z8 (by decide),ZA (by omega)];congr 1;omega
 unfold atI;rw[e];show(xs++[v])[xs.length]?=some v;simp
def Pq(b:Expr):Prop:=∀o i,subscripted b false o i=operate [o,i] (getItem o i)
def IxR(X:Cx)(r:R2):Prop:=
 ∀(value slice:Expr) (pins:List (Addr×Obj)) (s:Shared) (σ:St) (H:Hp) (x y:V) (v u:Value) (Q:VK),Inv X pins σ H s->RelV x v->RelV y u->r x y H Q->
  subscripted slice false v u=operate [v,u] (getItem v u)->wpAny (model X.prog X.w) X.A (subscriptTail value slice v u) (EP X pins σ Q) X.xe s
def MtR(X:Cx)(id:String)(r:V->List V->Hp->VK->Prop):Prop:=
 ∀(pins:List (Addr×Obj)) (s:Shared) (σ:St) (H:Hp) (x:V) (xs:List V) (v:Value) (us:List Value) (Q:VK),Inv X pins σ H s->RelV x v->Vals xs us->r x xs H Q->
  wpAny (model X.prog X.w) X.A (call (.builtin id) (v::us)) (EP X pins σ Q) X.xe s
section
variable {X:Cx}{a b:Expr}{ta tb:TE}{pos:Pos}
def IxR.or {r r':R2} (h:IxR X r) (h':IxR X r'):IxR X (fun x y H Q=>r x y H Q\/r' x y H Q):=by
 intro value slice pins s σ H x y v u Q I rx ry q hs;rcases q with q|q
 ·exact h value slice pins s σ H x y v u Q I rx ry q hs
 ·exact h' value slice pins s σ H x y v u Q I rx ry q hs
def Qm{r:R2}(hr:IxR X r)(ha:PE X a ta)(hb:PE X b tb)(hs:Pq b):PE X (.Subscript a b pos) (tOp r ta tb):=by
 intro pins s σ H Q I h;exact Subscript_ (binT ha hb I h fun v u s2 x y H2 I2 rx ry q=>hr a b pins s2 σ H2 x y v u Q I2 rx ry q (hs _ _))
def rIxL(K:Za):R2:=fun x y H Q=>∃p xs i v,x=.ref p/\y=.int i/\SqL K H p xs/\atI xs i=some v/\Q v H
def rIxT(K:Za):R2:=fun x y H Q=>∃p xs i v,x=.ref p/\y=.int i/\SqT K H p xs/\atI xs i=some v/\Q v H
def ix_list:IxR X (rIxL X.K):=by
 intro value slice pins s σ H x y v u Q I rx ry h hs;obtain⟨p,xs,i,z,rfl,rfl,hq,he,q⟩:=h;cases rx
 obtain⟨t,rfl⟩:=ry;obtain⟨its,r,pl,hz⟩:=I.list hq;obtain⟨j,h1,h2,h3,h4,h5⟩:=Ts he;obtain⟨w,ew,rw'⟩:=r.get h2;have hl:=r.length;have hn:=Jk;have fin:EP X pins σ Q w s:=⟨z,H,I,rw',q⟩;by_cases h0:0<=i
 ·have hj:i.toNat=j:=by
   rw[seqIndex_of h0 h5]at h1;exact Z6 h1
  exact item_listR pl.isList h0 (by omega) (by rw[hj];simpa using ew) fin hs
 ·have hj:(i+(its.toArray.size:Int)).toNat=j:=by
   rw[seqIndex_neg (by omega) h4]at h1;rw[Z7,←hl];exact Z6 h1
  exact subscriptTail_builtinR (x:=w) pl.isList.typeIs slot_list_getitem.lookup
   (wpAny_getItem_list_neg (Q:=fun r s'=>r=w/\EP X pins σ Q r s') pl.isList (by omega) (by rw[Z7]<;>omega) (by omega) (by rw[hj];simpa using ew) ⟨rfl,fin⟩) hs
def Cr:IxR X (rIxT X.K):=by
 intro value slice pins s σ H x y v u Q I rx ry h hs;obtain⟨p,xs,i,z,rfl,rfl,hq,he,q⟩:=h;cases rx
 obtain⟨t,rfl⟩:=ry;obtain⟨its,r,pl,hz⟩:=I.tuple hq;obtain⟨j,h1,h2,h3,h4,h5⟩:=Ts he;obtain⟨w,ew,rw'⟩:=r.get h2;have hl:=r.length;have hn:=Jk;have fin:EP X pins σ Q w s:=⟨z,H,I,rw',q⟩
 exact subscriptTail_builtinR (x:=w) pl.typeIs slot_tuple_getitem.lookup
  (getItem_tuple (j:=j) (Q:=fun r s'=>r=w/\EP X pins σ Q r s') pl (by omega) (by omega) (by rw[Z7,←hl];exact h1) (by simpa using ew) ⟨rfl,fin⟩) hs
def AG(its:List Value)(n j:Nat)(u:Value):Obj.mapSeq (·.setIfInBounds j u) {cls:=.type "list",data:=.seq its.toArray n}={cls:=.type "list",data:=.seq (its.set j u).toArray n}:=by
 simp[Obj.mapSeq]
def Inv.lst {pins:List (Addr×Obj)}{σ:St}{H:Hp}{s:Shared}{p:Addr}{xs:List V} (I:Inv X pins σ H s) (h:H p=some (.lst xs)) :
  ∃(its:List Value) (n:Nat),Vals xs its/\s.heap.get? p=some {cls:=.type "list",data:=.seq its.toArray n}/\xs.length<=sizeLine:=by
 obtain⟨z,its,n,r,e⟩:=I.hok p _ h;exact⟨its,n,r,e,z⟩
def Inv.lstUpd {pins:List (Addr×Obj)}{σ:St}{H:Hp}{s:Shared}{p:Addr}{xs ys:List V}{its its':List Value}{n n':Nat}{f:Obj->Obj} (I:Inv X pins σ H s) (h:H p=some (.lst xs))
  (ho:s.heap.get? p=some {cls:=.type "list",data:=.seq its.toArray n}) (hf:f {cls:=.type "list",data:=.seq its.toArray n}={cls:=.type "list",data:=.seq its'.toArray n'}) (r:Vals ys its') (hz:ys.length<=sizeLine) (t:Nat) :
  Inv X pins σ (upd H p (.lst ys)) {s with heap:=s.heap.update p f,toks:=t}:=by
 have e:(s.heap.update p f).get? p=some {cls:=.type "list",data:=.seq its'.toArray n'}:=by
  rw[Yf f ho (by rw[hf]<;>rfl),hf]
 refine I.write (x:=p) (e:=p) (by rw[h];trivial) (.inl rfl) (fun b u hb q=>(Yb _ _ (Ne.symm hb)).trans q) ⟨_,e⟩ ?_;exact⟨hz,its',n',r,e⟩
def Xu:V->V->V->Hp->(Hp->Prop)->Prop:=fun o i v H Q=>∃p xs k j,o=.ref p/\i=.int k/\H p=some (.lst xs)/\ixN xs.length k=some j/\Q (upd H p (.lst (xs.set j v)))
def Xl:PSet X Xu:=by
 intro pins s σ H o i v ov iv u Q I ro ri rv h;obtain⟨p,xs,k,j,rfl,rfl,hp,hj,q⟩:=h;cases ro
 obtain⟨t,rfl⟩:=ri;obtain⟨its,n,r,ho,hz⟩:=I.lst hp;obtain⟨h1,h2,h3,h4⟩:=TL hj;have hl:=r.length;have hn:=Jk
 have I':Inv X pins σ (upd H p (.lst (xs.set j v))) {s with heap:=s.heap.update p (Obj.mapSeq (·.setIfInBounds j u))}:=
  I.lstUpd hp ho (AG its n j u) (r.set rv j) (by rw[Yx];exact hz) s.toks
 by_cases h0:0<=k
 ·have hk:k.toNat=j:=by
   rw[seqIndex_of h0 h4]at h1;exact Z6 h1
  exact PySem.W.ki_setAt ho h0 (by omega) (by rw[Z7,←hl];exact h4) (by rw[hk];exact⟨_,I',q⟩)
 ·have hk:(k+(its.toArray.size:Int)).toNat=j:=by
   rw[seqIndex_neg (by omega) h3]at h1;rw[Z7,←hl];exact Z6 h1
  exact PySem.W.ki_setBack ho (by omega) (by rw[Z7,←hl];exact h3) (by omega) (by rw[hk];exact⟨_,I',q⟩)
def F8(lo hi:Option Int)(n:Nat):(sliceBounds lo hi none n).1=((HT.sIx n 0 lo:Nat):Int)/\(sliceBounds lo hi none n).2.1=((HT.sIx n n hi:Nat):Int)/\(sliceBounds lo hi none n).2.2=1:=by
 refine⟨?_,?_,rfl⟩
 ·cases lo with
  |none=>simp[sliceBounds,HT.sIx]
  |some i=>
   simp only[sliceBounds,HT.sIx,Option.getD_none,show(1:Int)>0 by decide,if_true];by_cases h:i<0
   ·simp only[h,if_true]<;>omega
   ·simp only[h,if_false]<;>omega
 ·cases hi with
  |none=>simp[sliceBounds,HT.sIx]
  |some i=>
   simp only[sliceBounds,HT.sIx,Option.getD_none,show(1:Int)>0 by decide,if_true];by_cases h:i<0
   ·simp only[h,if_true]<;>omega
   ·simp only[h,if_false]<;>omega
def Aq(its:List Value)(lo hi:Option Int):slicePick its.toArray lo hi none=((its.drop (HT.sIx its.length 0 lo)).take (HT.sIx its.length its.length hi-HT.sIx its.length 0 lo)).toArray:=by
 obtain⟨h1,h2,h3⟩:=F8 lo hi its.toArray.size;unfold slicePick;rw[h1,h2,h3];simp only[sliceRange_one,pick_run,Z7]<;>rfl
def rSlL(K:Za):V->Option Int->Option Int->Hp->VK->Prop:=fun x lo hi H Q=>∃a xs,x=.ref a/\SqL K H a xs/\∀p,H p=none->Q (.ref p) (upd H p (.lst (cutV xs lo hi)))
def FL:SlR X (rSlL X.K):=by
 intro pins s σ H x v vl vu lo hi sl Q I rx hs pl pu h;obtain⟨a,xs,rfl,hx,q⟩:=h;cases rx
 obtain⟨its,r,ht,hz⟩:=I.list hx;have hlen:=r.length;refine⟨"list",_,slot_list_getitem.lookup,ht.isList.typeIs,?_⟩;refine wpAny_getItem_list_slice ht.isList hs pl pu .none (by simp) ?_ (by rw[Z7]<;>omega);rw[Aq,←hlen];refine⟨.ref s.heap.objs.size,_,I.laid (t':=s.toks) (o:=.lst (cutV xs lo hi)) (fun b ob q=>Z2 _ q) (Z4 _) ?_,rfl,q _ (I.hok.fresh (Z4 _))⟩;exact⟨ZM (CL xs lo hi) hz,_,0,(r.drop (HT.sIx xs.length 0 lo)).take (HT.sIx xs.length xs.length hi-HT.sIx xs.length 0 lo),Z9 _ rfl⟩
def QL:V->Bool
 | .non=>true
 | .bl _=>true
 | .int _=>true
 | .str _=>true
 |_=>false
def eqV:V->V->Bool
 | .non,.non=>true
 | .bl a,.bl b=>a==b
 | .bl a,.int b=>(if a then 1 else 0)==b
 | .int a,.bl b=>a==(if b then 1 else 0)
 | .int a,.int b=>a==b
 | .str a,.str b=>a==b
 |_,_=>false
def Xn{A:Around}{s:Shared}{y x:V}{u v:Value}(ry:RelV y u)(rx:RelV x v)(fy:QL y=true)(fx:QL x=true):SeqAt.EqAt A s u v (eqV y x):=by
 cases y with
 |non=>
  cases ry
  cases x with
  |non=>cases rx;exact SeqAt.EqAt.same _
  |bl b=>cases rx;exact SeqAt.EqAt.none_bool b
  |int b=>obtain⟨t,rfl⟩:=rx;exact SeqAt.EqAt.none_int b t
  |str b=>obtain⟨t,rfl⟩:=rx;exact SeqAt.EqAt.none_str b t
  |_=>exact absurd (show false=true from fx) ZD
 |bl a=>
  cases ry
  cases x with
  |non=>cases rx;exact SeqAt.EqAt.bool_none a
  |bl b=>cases rx;exact SeqAt.EqAt.bool_bool a b
  |int b=>obtain⟨t,rfl⟩:=rx;exact SeqAt.EqAt.bool_int a b t
  |str b=>obtain⟨t,rfl⟩:=rx;exact SeqAt.EqAt.bool_str a b t
  |_=>exact absurd (show false=true from fx) ZD
 |int a=>
  obtain⟨t',rfl⟩:=ry;cases x with
  |non=>cases rx;exact SeqAt.EqAt.int_none a t'
  |bl b=>cases rx;exact SeqAt.EqAt.int_bool a t' b
  |int b=>obtain⟨t,rfl⟩:=rx;exact SeqAt.EqAt.int_int a t' b t
  |str b=>obtain⟨t,rfl⟩:=rx;exact SeqAt.EqAt.int_str a t' b t
  |_=>exact absurd (show false=true from fx) ZD
 |str a=>
  obtain⟨t',rfl⟩:=ry;cases x with
  |non=>cases rx;exact SeqAt.EqAt.str_none a t'
  |bl b=>cases rx;exact SeqAt.EqAt.str_bool a t' b
  |int b=>obtain⟨t,rfl⟩:=rx;exact SeqAt.EqAt.str_int a t' b t
  |str b=>obtain⟨t,rfl⟩:=rx;exact SeqAt.EqAt.str_str a t' b t
  |_=>exact absurd (show false=true from fx) ZD
 |_=>exact absurd (show false=true from fy) ZD
def eqU(x:V)(u:Value):Bool:=match u with
 | .none=>eqV .non x
 | .bool b=>eqV (.bl b) x
 | .int i _=>eqV (.int i) x
 | .str z _=>eqV (.str z) x
 |_=>false
def Xy{x y:V}{u:Value}(r:RelV y u)(f:QL y=true):eqU x u=eqV y x:=by
 cases y with
 |non=>cases r;rfl
 |bl b=>cases r;rfl
 |int i=>obtain⟨t,rfl⟩:=r;rfl
 |str z=>obtain⟨t,rfl⟩:=r;rfl
 |_=>exact absurd (show false=true from f) ZD
def US{x:V}:∀{xs:List V}{us:List Value},Vals xs us->xs.all QL=true->us.any (eqU x)=xs.any fun y=>eqV y x
 |_,_,.nil,_=>rfl
 |y::xs,u::us,.cons r t,f=>by
  rw[List.all_cons,Yj]at f;rw[Wa,Wa,Xy r f.1,US t f.2]
def Us{A:Around}{s:Shared}{x:V}{v:Value}(rx:RelV x v)(fx:QL x=true):∀{xs:List V}{us:List Value},Vals xs us->xs.all QL=true->∀u∈us,SeqAt.EqAt A s u v (eqU x u)
 |_,_,.nil,_=>fun u hu=>by cases hu
 |y::xs,u::us,.cons r t,f=>fun u' hu=>by
  rw[List.all_cons,Yj]at f;rcases ZL.mp hu with rfl|hu
  ·rw[Xy r f.1];exact Xn r rx f.1 fx
  ·exact Us rx fx t f.2 u' hu
def inV(x:V)(xs:List V):Bool:=xs.any fun y=>eqV y x
def rIn(K:Za)(neg:Bool):R2:=fun x y H Q=>∃p xs,y=.ref p/\(SqL K H p xs\/SqT K H p xs)/\QL x=true/\xs.all QL=true/\Q (.bl (if neg then !inV x xs else inV x xs)) H
def Ck:OpR X (compareOp .In) (rIn X.K false):=by
 intro pins s σ H x y v u Q I rx ry h;obtain⟨p,xs,rfl,hq,fx,fs,q⟩:=h;cases ry
 rcases hq with hq|hq
 ·obtain⟨its,r,pl,hz⟩:=I.list hq;refine SeqAt.in_listAt (eqU x) pl.isList (fun w hw=>Us rx fx r fs w (by simpa using hw)) ⟨.bl _,H,I,rfl,?_⟩;rw[show its.toArray.any (eqU x)=its.any (eqU x) by simp,US r fs];exact q
 ·obtain⟨its,r,pl,hz⟩:=I.tuple hq;refine SeqAt.in_tupleAt (eqU x) pl (fun w hw=>Us rx fx r fs w (by simpa using hw)) ⟨.bl _,H,I,rfl,?_⟩;rw[show its.toArray.any (eqU x)=its.any (eqU x) by simp,US r fs];exact q
def KY:QI X (.type "list") (fun xs H Q=>∃p ys,xs=[.ref p]/\(SqL X.K H p ys\/SqT X.K H p ys)/\∀l,H l=none->Q (.ref l) (upd H l (.lst ys))):=by
 intro pins s σ H xs us Q I r h;obtain⟨p,ys,rfl,hq,q⟩:=h;obtain⟨u,rfl,rx⟩:=vals1 r;cases rx
 have fin:∀(its:List Value),Vals ys its->ys.length<=sizeLine->∀(h':Heap) (c':Nat),(∀b o',s.heap.get? b=some o'->h'.get? b=some o')->
   h'.get? s.heap.objs.size=some {cls:=.type "list",dict:=none,data:=.seq its.toArray c',slots:=#[]}->EP X pins σ Q (.ref s.heap.objs.size) {s with heap:=h'}:=fun its r' hz h' c' kp e=>
  ⟨.ref s.heap.objs.size,_,I.laid (t':=s.toks) kp (Z4 _) (show ObjOk X.prog X.w _ h' _ (.lst ys)from⟨hz,its,c',r',e⟩),rfl,q _ (I.hok.fresh (Z4 _))⟩
 rcases hq with hq|hq
 ·obtain⟨its,r',pl,hz⟩:=I.list hq;have hlen:=r'.length;obtain⟨o,ho,hc,n,hd⟩:=pl.isList;exact call_list_seq p (.inl rfl) ho hc hd (fun h' c' kp e=>fin its r' hz h' c' kp e) (by simp only[Z7]<;>omega)
 ·obtain⟨its,r',pl,hz⟩:=I.tuple hq;have hlen:=r'.length;obtain⟨o,ho,hc,n,hd⟩:=pl;exact call_list_seq p (.inr rfl) ho hc hd (fun h' c' kp e=>fin its r' hz h' c' kp e) (by simp only[Z7]<;>omega)
def tyV(K:Za)(T:String)(x:V)(H:Hp):Prop:=match x with
 | .str _=>T = "str"
 | .int _=>T = "int"
 | .ref p=>(T = "list"/\∃xs,SqL K H p xs)\/(T = "tuple"/\∃o,K.lookup p=some o/\o.cls=.type "tuple"/\o.dict=none)\/
   (T = "dict"/\((∃kvs,H p=some (.dK kvs))\/∃kvs,H p=some (.dT kvs)))\/(T = "set"/\∃S n,H p=some (.set S n))
 |_=>False
def FU{pins:List (Addr×Obj)}{σ:St}{H:Hp}{s:Shared}{T:String}{x:V}{v:Value}(I:Inv X pins σ H s)(r:RelV x v)(ty:tyV X.K T x H) :
  s.TypeIs v T/\∀a,v=.ref a->∃ob,s.heap.get? a=some ob/\ob.dict=none:=by
 cases x with
 |str z=>
  obtain⟨t,rfl⟩:=r;cases (show T = "str" from ty)
  exact⟨typeIs_str s z t,fun _ e=>nomatch e⟩
 |int i=>
  obtain⟨t,rfl⟩:=r;cases (show T = "int" from ty)
  exact⟨typeIs_int s i t,fun _ e=>nomatch e⟩
 |ref p=>
  cases r
  rcases ty with⟨rfl,xs,hq⟩|⟨rfl,o,hk,hc,hd⟩|⟨rfl,hk⟩|⟨rfl,S,n,hk⟩
  ·obtain⟨its,_,pl,_⟩:=I.list hq;refine⟨pl.isList.typeIs,fun a e=>?_⟩;cases e
   obtain⟨o,n,e,c,hd,_⟩:=pl;exact⟨o,e,hd⟩
  ·refine⟨⟨o,I.kIn p o hk,hc⟩,fun a e=>?_⟩;cases e
   exact⟨o,I.kIn _ o hk,hd⟩
  ·have z:∃o,s.heap.get? p=some o/\o.ExactDict:=by
    rcases hk with⟨kvs,hk⟩|⟨kvs,hk⟩
    ·obtain⟨_,_,_,_,o,_,_,e,ex,_⟩:=I.hok p _ hk;exact⟨o,e,ex⟩
    ·obtain⟨_,_,_,_,o,_,_,e,ex,_⟩:=I.hok p _ hk;exact⟨o,e,ex⟩
   obtain⟨o,e,ex⟩:=z;refine⟨⟨o,e,ex.1⟩,fun a e2=>?_⟩;cases e2
   exact⟨o,e,ex.2.1⟩
  ·obtain⟨o,_,_,_,e,ex,_⟩:=I.hok p _ hk;refine⟨⟨o,e,ex.1⟩,fun a e2=>?_⟩;cases e2
   exact⟨o,e,ex.2.1⟩
 |_=>exact False.elim ty
def tBM(K:Za)(T:String)(r:V->List V->Hp->VK->Prop)(to:TE)(t:TA):TE:=fun σ H Q=>to σ H fun x H1=>tyV K T x H1/\t σ H1 fun xs H2=>r x xs H2 Q
variable {o e:Expr}{es:List Expr}{to:TE}{t:TA}{name:Str}{apos cpos:Pos}{T id:String}{r:V->List V->Hp->VK->Prop}
def VG(pa:PlainAttrs T)(slot:Slot T name id)(hty:typeOf (.builtin id)=pure (.type "method_descriptor"))(hm:MtR X id r)(ho:PE X o to)(ha:PA X (e::es) t)(hbase:attributeBase o name X.env (eval o X.env)=eval o X.env:=by rfl)
  (hfew:((backTo cpos (starEach (e::es) X.env)).all (fun x=>!x.1)&&(backToKw cpos (keywordEach [] X.env)).all (fun x=>x.1.isSome)
   && decide ((e::es).length+([]:List Keyword).length+(if ([]:List Keyword).isEmpty then 0 else 1)<30))=true:=by rfl)
  (hline:(apos.endLine==cpos.line)=true:=by rfl) (hs:starEach (e::es) X.env=(false,eval e X.env)::starEach es X.env:=by rfl) (hplain:(backTo cpos (starEach es X.env)).any (·.1)=false:=by rfl) :
  PE X (.Call (.Attribute o name apos) (e::es) [] cpos) (tBM X.K T r to t):=by
 intro pins s σ H Q I h;refine wpAny_Call_method_late hbase hfew hline rfl (thn (ho pins s σ H _ I h) fun v s1 ⟨x,H1,I1,r1,ty,q1⟩=>?_);obtain⟨h1,h2⟩:=FU I1 r1 ty;refine⟨T,id,pa,slot,hty,h1,h2,?_⟩;have hA:=ha cpos pins s1 σ H1 _ I1 q1;rw[hs]at hA ⊢;refine Calls.callWith_builtin (by show(false || (backTo cpos (starEach es X.env)).any (·.1))=false;rw[hplain]<;>rfl) (Calls.evalArgs_plain ?_);exact thn hA fun us s2 ⟨vs,H2,I2,r2,q2⟩=>hm pins s2 σ H2 x vs v us Q I2 r1 r2 q2
end
def MtM(X:Cx)(id:String)(r:V->List V->Hp->VK->Prop):Prop:=
 ∀(pins:List (Addr×Obj)) (s:Shared) (σ:St) (H:Hp) (x:V) (xs:List V) (v:Value) (us:List Value) (Q:VK),Inv X pins σ H s->RelV x v->Vals xs us->r x xs H Q->
  wpAny (model X.prog X.w) X.A (call (.builtin id) (v::us)) (EP X pins σ Q) X.xe s
def Vals.one:∀{x:V}{us:List Value},Vals [x] us->∃u,us=[u]/\RelV x u
 |_,_,.cons r .nil=>⟨_,rfl,r⟩
def Vals.eraseIdx:∀{xs:List V}{us:List Value} (i:Nat),Vals xs us->Vals (xs.eraseIdx i) (us.eraseIdx i)
 |_,_,_,.nil=>.nil
 |_,_,0,.cons _ t=>t
 |_,_,i+1,.cons r t=>.cons r (Vals.eraseIdx i t)
section
variable {X:Cx}{pins:List (Addr×Obj)}{σ:St}{H:Hp}{s:Shared}{l b:Addr}{xs ys zs:List V}
def Inv.lset {its its':List Value}{n:Nat}{f:Array Value->Array Value}{t':Nat} (I:Inv X pins σ H s) (hH:H l=some (.lst xs))
  (e:s.heap.get? l=some {cls:=.type "list",data:=.seq its.toArray n}) (hf:f its.toArray=its'.toArray) (hv:Vals ys its') (hz:ys.length<=sizeLine) :
  Inv X pins σ (upd H l (.lst ys)) {s with heap:=s.heap.update l (Obj.mapSeq f),toks:=t'}:=by
 have q:=PySem.IsL.update e f;rw[hf]at q;refine I.write (x:=l) (e:=l) (by rw[hH];exact trivial) (.inl rfl) (fun b' u hb hu=>(Yb s.heap (Obj.mapSeq f) (Ne.symm hb)).trans hu) ⟨_,q⟩ ?_;exact⟨hz,its',_,hv,q⟩
def Inv.lnew {its:List Value}{t':Nat} (I:Inv X pins σ H s) (hv:Vals ys its) (hz:ys.length<=sizeLine) :
  Inv X pins σ (upd H s.heap.objs.size (.lst ys)) {s with heap:=s.heap.push {cls:=.type "list",data:=.seq its.toArray},toks:=t'}:=
 I.laid (fun _ _ q=>Z2 _ q) (Z4 _) ⟨hz,its,0,hv,Z9 _ rfl⟩
def Inv.fresh (I:Inv X pins σ H s):H s.heap.objs.size=none:=I.hok.fresh (Z4 _)
def Inv.lstM (I:Inv X pins σ H s) (hH:H l=some (.lst xs)):xs.length<=sizeLine/\∃(its:List Value) (n:Nat),Vals xs its/\xs.length=its.length/\s.heap.get? l=some {cls:=.type "list",data:=.seq its.toArray n}:=by
 obtain⟨z,its,n,r,e⟩:=I.hok l _ hH;exact⟨z,its,n,r,r.length,e⟩
def Fi{n:Nat}(h:n<=sizeLine):Builtin.List.listTooLong n=false:=by
 unfold Builtin.List.listTooLong;exact ZI (by omega)
end
section
variable {X:Cx}
def XB:V->List V->Hp->VK->Prop:=fun x vs H Q=>∃l xs y,x=.ref l/\vs=[y]/\H l=some (.lst xs)/\xs.length<sizeLine/\Q .non (upd H l (.lst (xs++[y])))
def Jy:MtM X "list.append" XB:=by
 intro pins s σ H x vs v us Q I rx rv h;obtain⟨l,xs,y,rfl,rfl,hH,hz,q⟩:=h;cases rx
 obtain⟨u,rfl,ru⟩:=rv.one;obtain⟨z,its,n,r,hl,e⟩:=I.lstM hH;refine call_meets F.slot_list_append ⟨_,e,rfl⟩ F.entry_list_append (F.args_list_append_2 _ _) (PySem.list_append l its.toArray n u (by rw[Z7];omega)) ⟨e,?_⟩;refine⟨.non,_,I.lset (its':=its++[u]) hH e (by simp) (r.append (.cons ru .nil)) ?_,rfl,q⟩;rw[Yi,List.length_singleton];omega
def Py:V->List V->Hp->VK->Prop:=fun x vs H Q=>∃l b xs zs,x=.ref l/\vs=[.ref b]/\H l=some (.lst xs)/\H b=some (.lst zs)/\xs.length+zs.length<=sizeLine/\Q .non (upd H l (.lst (xs++zs)))
def NL:MtM X "list.extend" Py:=by
 intro pins s σ H x vs v us Q I rx rv h;obtain⟨l,b,xs,zs,rfl,rfl,hH,hB,hz,q⟩:=h;cases rx
 obtain⟨u,rfl,ru⟩:=rv.one;cases ru
 obtain⟨z,its,n,r,hl,e⟩:=I.lstM hH;obtain⟨z2,its2,n2,r2,hl2,e2⟩:=I.lstM hB;have hsz:its.toArray.size+its2.toArray.size<=sizeLine:=by rw[Z7,Z7];omega
 have hlong:¬(!its.toArray.isEmpty&&Builtin.List.listTooLong (its.toArray.size+its2.toArray.size))=true:=by
  rw[Fi hsz,Bool.and_false];exact ZD
 refine call_meets F.slot_list_extend ⟨_,e,rfl⟩ F.entry_list_extend (F.args_list_extend_2 _ _)
  (AutoSeq1.list_extend_list_list_0 l its.toArray n b its2.toArray n2 hlong (by rw[Z7];omega) (by omega)) ⟨e,e2,?_⟩
 refine⟨.non,_,I.lset (its':=its++its2) hH e (by simp) (r.append r2) ?_,rfl,q⟩;rw[Yi];omega
def rCat:R2:=fun x y H Q=>∃l b xs zs,x=.ref l/\y=.ref b/\H l=some (.lst xs)/\H b=some (.lst zs)/\xs.length+zs.length<=sizeLine/\∀p,H p=none->Q (.ref p) (upd H p (.lst (xs++zs)))
def XU:OpR X (binaryOp .Add) rCat:=by
 intro pins s σ H x y v u Q I rx ry h;obtain⟨l,b,xs,zs,rfl,rfl,hH,hB,hz,q⟩:=h;cases rx
 cases ry
 obtain⟨z,its,n,r,hl,e⟩:=I.lstM hH;obtain⟨z2,its2,n2,r2,hl2,e2⟩:=I.lstM hB;refine PySem.P.add_list e e2 ?_ (by rw[Z7,Z7];omega);have ea:its.toArray++its2.toArray=(its++its2).toArray:=by simp
 rw[ea];exact⟨.ref _,_,I.lnew (t':=s.toks) (r.append r2) (by rw[Yi];omega),rfl,q _ I.fresh⟩
end
end L2
namespace Att
open PySem PySem.W PySem.Calls PyProof.Rows
def SC{P:Params}{h:Heap}:∀(ns:List Int) (vs:List Value),WellAll P h vs (ns.map WData.int)->IntsAre vs ns:=by
 intro ns
 induction ns with
 |nil=>
  intro vs w;rw[List.map_nil]at w;cases w
  exact .nil
 |cons n ns ih=>
  intro vs w;rw[ZG]at w;cases w with
  |cons a b=>
   cases a
   exact .cons _ _ (ih _ b)
def FO{l:OpenLaw}{n:Nat}(hn:l.most=some n){P:Params}{h:Heap}{args:List WData}{vals:List Value}(hpre:l.row.toRowW.claim.pre args=true)(hwl:WellAll P h vals args) :
  ∃a vs ns,vals=[Value.ref a]/\args=[WData.list (ns.map WData.int)]/\h.get? a=some {cls:=.type "list",data:=.seq vs.toArray}/\IntsAre vs ns/\ns.length<=n:=by
 have hsh:WShape.hasAll [] args [.list .int]=true:=(pre_splitW hpre).1;have hc:l.pre.holds [] {args:=args}=true:=(pre_splitW hpre).2;obtain⟨d,r,rfl,h1,h2⟩:=hasAllW_cons hsh;obtain rfl:=hasAllW_nil h2;obtain⟨xs,rfl,h3⟩:=hasW_list h1;obtain⟨ns,rfl⟩:=items_int h3
 have hlen:ns.length<=n:=by
  unfold OpenLaw.pre at hc
  have h4:(WTm.not (.lt (.lit (.int (n:Int))) (.len (.arg 0)))).holds [] {args:=[.list (ns.map .int)]}=true:=by
   have h4:=(holds_andW hc).1;rw[hn]at h4;exact h4
  have h5:=condW_of h4 (w_not (w_lt w_lit (w_len_list (w_arg rfl))));rw[Z1]at h5;refine Nat.le_of_not_lt fun q=>?_;have q':(n:Int)<((ns.length:Nat):Int):=by omega
  first
   |(rw[ZF q']at h5;exact absurd h5 (by decide))
   |(simp at h5;omega)
 cases hwl with
 |cons w1 w2=>
  cases w2
  cases w1 with
  |list ho hall=>exact⟨_,_,ns,rfl,rfl,ho,SC ns _ hall,hlen⟩
def NC(l:OpenLaw)(args:List WData):l.row.toRowW.claim.post args (.bool true) args=true:=
 postW_of (r:=l.row.toRowW) (X:=(true==true))
  (show WShape.has [] (.bool true) .bool=true by first|rfl|decide|simp[WShape.has,WShape.arms,WShape.armsAll])
  (show(WTm.eq .res (.lit (.bool true))).value [] {args:=args,res:=some (.bool true),after:=args}=some (.bool (true==true))from w_eq_bool (w_res rfl) w_lit) rfl
def Bb{l:OpenLaw}{n:Nat}{q:Program}{loose:List Str}{XP:(Str->Option Value)->Heap->Prop}{YP:World->Heap->Prop}{d:DefRec}(hn:l.most=some n)(hdf:d.params.defaults=[])
  (call:∀(w:World) (s₀ s₁:Shared) (mg mb:Str->Option Value) (fa:Addr) (o:Obj) (pm cd doc:Value) (a:Addr) (vs:List Value) (ns:List Int),
   Ground q loose [] XP w s₀ mg mb s₁.heap->YP w s₁.heap->
   s₁.heap.get? fa=some o->o.data=.func (docDef d.name d.params d.body d.scope pm cd doc)->s₁.heap.CodeRec cd d.name->mg d.name=some (.ref fa)->
   s₁.heap.get? a=some {cls:=.type "list",data:=.seq vs.toArray}->IntsAre vs ns->ns.length<=n->s₁.gens=#[]->
   codeAny (model l.prog w) callerA (.call (.ref fa) ⟨[.ref a],[]⟩) (fun r s'=>r=.ok (.ret (.bool true))/\OldK s₁.heap s'.heap/\s'.os=s₁.os/\AllBare s'.gens) s₁) :
  WalkO q loose XP YP l.row.toRowW d [] (fun f vs=>PySem.call f vs):=by
 intro w s₀ s₁ mg mb G Y fa o pm cd doc dV kV ho hd hcd hD hmg hg args vals as hpre hlay hrd hwl hlo;obtain rfl:dV=.none:=Dflts.none hD hdf;obtain rfl:kV=.none:=Dflts.noKw hD;obtain⟨a,vs,ns,rfl,rfl,hobj,hints,hlen⟩:=FO hn hpre hwl;refine enter_call (Wj (call w s₀ s₁ mg mb fa o pm cd doc a vs ns G Y ho (fd_plain hd) hcd hmg hobj hints hlen hg) fun r s' hq=>?_);obtain⟨rfl,h2,h3,h4⟩:=hq;exact⟨.inl ⟨.bool true,.bool true,[],rfl,fun _=>rfl,.bool true,NC l _,fun _=>⟨List.Pairwise.nil,fun _ hm=>(nomatch hm)⟩⟩,h2,h3,h4⟩
end Att
namespace L2
open PySem PySem.Spec PyProof.Rows
def JF:∀{vs:List Value}{ns:List Int},IntsAre vs ns->Vals (ns.map V.int) vs
 |_,_,.nil=>.nil
 |_,_,.cons n t h=>.cons ⟨t,rfl⟩ (JF h)
def Only(H:Hp):Prop:=∀b,H b=none\/∃o xs,H b=some (.frz o (.lst xs))
def Vi(s:Stmt):Arguments:=match s with
 | .FunctionDef _ a _ _ _ _ _ _ _ _=>a
 |_=>{posonlyargs:=[],args:=[],vararg:=none,kwonlyargs:=[],kw_defaults:=[],kwarg:=none,defaults:=[]}
def QC(s:Stmt):List Stmt:=match s with
 | .FunctionDef _ _ b _ _ _ _ _ _ _=>b
 |_=>[]
def Qg(s:Stmt):Scope:=match s with
 | .FunctionDef _ _ _ _ _ _ sc _ _ _=>sc
 |_=>{kind:=.function,names:=[],isGenerator:=false,isCoroutine:=false}
abbrev CX0:CXT:=fun _ _ _ _ _ _=>False
abbrev E0:XK:=fun _ _ _=>False
def Vh{X:Cx}:Jf CX0 X E0:=fun _ _ _ _ _ _ _ h=>h.elim
structure Fun (K:Za) (x qual:Str) (st:Stmt) (f:Addr) (fd:FuncData):Prop where
 ex:∃(oc:Value) (od:Option Addr) (kV doc pm:Value) (an:Option Addr) (cdv ct:Value) (osl:Array (Option Value)),
  fd=PySem.W.fnOf x qual (Vi st) (QC st) (Qg st) .none kV doc pm an cdv ct/\K.lookup f=some ⟨oc,od,.func fd,osl⟩/\PySem.W.codeIn K cdv qual=true
 kp:PySem.W.keepIn K (.ref f)=true
section
variable {P:Program}{w:World}{K:Za}{mg:Str->Option Value}{base:Heap}
def Fun.ok {x qual:Str}{st:Stmt}{f:Addr}{fd:FuncData}{N ps:List Str}{k:Nat}{sp:Sp} (F:Fun K x qual st f fd) (S:FnScope N ps (Qg st)) (len:∀vs H Q E,sp vs H Q E->vs.length=ps.length)
  (hbody:∀(cdv:Value) (A:Around) (outer:List Env) (s:Shared) (H:Hp) (vs:List V) (Q:VK) (E:XK),Room k (A.deeper (envOfC qual (Qg st) s.heap.objs.size f cdv))->sp vs H Q E->
   ∃t,PSs (cxOf CX0 P w K mg base N qual (Qg st) f cdv A outer s H E).nox (QC st) t/\t {nx:=fun _ H'=>Q .non H',rt:=Q} (start N vs) H):FnOk P w K mg base CX0 (k+1) f fd ps sp:=by
 obtain⟨oc,od,kV,doc,pm,an,cdv,ct,osl,rfl,lk,hcd⟩:=F.ex;refine Ky lk hcd S len fun A outer s H vs Q E hr hsp=>?_;obtain⟨t,h,q⟩:=hbody cdv A outer s H vs Q E hr hsp;exact⟨t,h.nox,q⟩
def Fun.binds {x qual:Str}{st:Stmt}{f:Addr}{fd:FuncData}{ps:List Str} (F:Fun K x qual st f fd)
  (h:∀(kV doc pm:Value) (an:Option Addr) (cdv ct:Value) (us:List Value),us.length=ps.length->bindArgs (PySem.W.fnOf x qual (Vi st) (QC st) (Qg st) .none kV doc pm an cdv ct) ⟨us,[]⟩=pure (ps.zip us)):Binds K fd ps []:=by
 obtain⟨oc,od,kV,doc,pm,an,cdv,ct,osl,rfl,lk,hcd⟩:=F.ex;exact .all (h kV doc pm an cdv ct)
def X1{x qual:Str}{st:Stmt}{f:Addr}{oc:Value}{od an:Option Addr}{osl:Array (Option Value)}{kV doc pm cdv ct:Value}(l:K.lookup f=some ⟨oc,od,.func (PySem.W.fnOf x qual (Vi st) (QC st) (Qg st) .none kV doc pm an cdv ct),osl⟩)(c:PySem.W.codeIn K cdv qual=true)(k:PySem.W.keepIn K (.ref f)=true):Fun K x qual st f (PySem.W.fnOf x qual (Vi st) (QC st) (Qg st) .none kV doc pm an cdv ct):=⟨⟨oc,od,kV,doc,pm,an,cdv,ct,osl,rfl,l,c⟩,k⟩
end
def Ni{A:Around}{k:Nat}(hr:Room k A):A.units+1<cLine:=Nat.lt_of_le_of_lt (Nat.add_le_add_left (by decide:1<=64) _) hr.units
def UD{n:Nat}(h:n<=1000):n<sizeLine:=Nat.lt_of_le_of_lt h (by decide)
section
variable {X:Cx}
def pv(i:Nat){x:Str}{pos:Pos}(hN:X.N[i]?=some x:=by rfl)(hv:Vis X.env.scope x:=by first|exact Or.inl rfl|exact Or.inr (Or.inl rfl)|exact Or.inr (Or.inr rfl))(hd:(x==("__debug__" : Str))=false:=by decide)(hcd:(x==("__classdict__" : Str))=false:=by decide):PE X (.Name x pos) (tVar i):=FS hN hv hd hcd
end
def iteF{A B:Prop}(h:B):if false=true then A else B:=by
 rw[Z8 ZD];exact h
def iteT{A B:Prop}(h:A):if true=true then A else B:=by
 rw[ZA rfl];exact h
def ite2{c A B:Prop}[Decidable c](h1:c->A)(h2:¬c->B):if c then A else B:=by
 by_cases h:c
 ·rw[ZA h];exact h1 h
 ·rw[Z8 h];exact h2 h
def V6{c A B:Prop}[Decidable c](hc:c)(h:B):if (!decide c)=true then A else B:=by
 rw[ZF hc];exact iteF h
def Same(H H':Hp):Prop:=∀b o,H b=some o->H' b=some o
def Same.refl (H:Hp):Same H H:=fun _ _ h=>h
def Same.trans {H H1 H2:Hp} (a:Same H H1) (b:Same H1 H2):Same H H2:=fun c o h=>b c o (a c o h)
def Same.free {H H':Hp} (e:Same H H') {l:Addr} (h:H' l=Option.none):H l=Option.none:=by
 cases q:H l with
 |none=>rfl
 |some o=>
  rw[e l o q]at h;cases h
def Same.seq {K:Za}{H H':Hp}{a:Addr}{xs:List V} (e:Same H H') (h:SqL K H a xs):SqL K H' a xs:=by
 rcases h with(h|⟨o,h⟩)|h
 ·exact .inl (.inl (e _ _ h))
 ·exact .inl (.inr ⟨o,e _ _ h⟩)
 ·exact .inr h
end L2
set_option maxHeartbeats 4000000
namespace L2
open PySem PySem.Spec PyProof.Rows
section
variable {κ:Type} [DecidableEq κ]
def valV(kvs:List (κ×V))(k:κ):Option V:=(kvs.find? fun kv=>decide (kv.1=k)).map (·.2)
def putK(kvs:List (κ×V))(k:κ)(v:V):List (κ×V):=
 if (kvs.any fun kv=>decide (kv.1=k))=true then kvs.map (fun kv=>if kv.1=k then(kv.1,v)else kv)else kvs++[(k,v)]
def QW{p:κ×V}{r:List (κ×V)}{k:κ}(e:p.1=k):valV (p::r) k=some p.2:=by simp[valV,YQ,e]
def QU{p:κ×V}{r:List (κ×V)}{k:κ}(e:¬p.1=k):valV (p::r) k=valV r k:=by simp[valV,YQ,e]
def J0(k:κ):∀kvs:List (κ×V),(kvs.any fun kv=>decide (kv.1=k))=(valV kvs k).isSome
 |[]=>rfl
 |p::r=>by
  rw[Wa];by_cases e:p.1=k
  ·simp only[QW e,ZF e,Bool.true_or,Option.isSome_some]
  ·rw[QU e,ZI e,Bool.false_or];exact J0 k r
def Xt(k j:κ)(y:V):∀kvs:List (κ×V),valV (kvs.map fun kv=>if kv.1=k then(kv.1,y)else kv) j=(valV kvs j).map fun x=>if j=k then y else x
 |[]=>rfl
 |p::r=>by
  have ih:=Xt k j y r;rw[ZG];by_cases h:p.1=k
  ·rw[ZA h];by_cases e:p.1=j
   ·rw[QW (p:=(p.1,y)) e,QW e,W6,ZA (e.symm.trans h)]
   ·rw[QU (p:=(p.1,y)) e,QU e,ih]
  ·rw[Z8 h];by_cases e:p.1=j
   ·rw[QW (p:=p) e,QW e,W6,Z8 (fun z=>h (e.trans z))]
   ·rw[QU (p:=p) e,QU e,ih]
def Pm(k j:κ)(y:V):∀kvs:List (κ×V),valV kvs k=none->valV (kvs++[(k,y)]) j=if j=k then some y else valV kvs j
 |[],_=>by
  by_cases e:k=j
  ·rw[ZA e.symm];exact QW (p:=(k,y)) e
  ·rw[Z8 (fun z=>e z.symm)];exact QU (p:=(k,y)) e
 |p::r,hn=>by
  rw[Y6];have hk:¬p.1=k:=fun z=>by rw[QW z]at hn;cases hn
  rw[QU hk]at hn;have ih:=Pm k j y r hn;by_cases e:p.1=j
  ·rw[QW e,QW e,Z8 (fun z=>hk (e.trans z))]
  ·rw[QU e,QU e,ih]
def XS(kvs:List (κ×V))(k j:κ)(y:V):valV (putK kvs k y) j=if j=k then some y else valV kvs j:=by
 unfold putK;by_cases a:(kvs.any fun kv=>decide (kv.1=k))=true
 ·rw[ZA a,Xt];rw[J0]at a;by_cases e:j=k
  ·obtain⟨x,hx⟩:=Option.isSome_iff_exists.mp a;rw[ZA e,e,hx,W6,ZA rfl]
  ·rw[Z8 e];cases valV kvs j with
   |none=>rfl
   |some x=>rw[W6,Z8 e]
 ·rw[Z8 a];refine Pm k j y kvs ?_;rw[J0]at a;cases q:valV kvs k with
  |none=>rfl
  |some x=>rw[q]at a;exact(a rfl).elim
def U5(kvs:List (κ×V))(k:κ)(v:V):(putK kvs k v).length<=kvs.length+1:=by
 unfold putK;split
 ·rw[Z1];omega
 ·rw[Yi,Y1,List.length_nil];omega
def RelO.isSome_eq {o:Option V}{u:Option Value} (r:RelO o u):o.isSome=u.isSome:=by
 cases o with
 |none=>cases u with
  |none=>rfl
  |some _=>exact(show False from r).elim
 |some _=>cases u with
  |none=>exact(show False from r).elim
  |some _=>rfl
def KV.val {kvs:List (κ×V)}{vs:List (κ×Value)} (r:KV kvs vs) (k:κ):RelO (valV kvs k) (valueAt vs k):=by
 unfold KV at r
 induction r with
 |nil=>exact True.intro
 | @cons p q ps qs h t ih=>
  obtain⟨h1,h2⟩:=h;by_cases e:p.1=k
  ·have e':q.1=k:=h1.symm.trans e;have b:valueAt (q::qs) k=some q.2:=by simp[valueAt,YQ,e']
   rw[QW e,b];exact h2
  ·have e':¬q.1=k:=fun z=>e (h1.trans z);have b:valueAt (q::qs) k=valueAt qs k:=by simp[valueAt,YQ,e']
   rw[QU e,b];exact ih
def KV.any {kvs:List (κ×V)}{vs:List (κ×Value)} (r:KV kvs vs) (k:κ):(kvs.any fun kv=>decide (kv.1=k))=vs.any fun kv=>decide (kv.1=k):=by
 unfold KV at r
 induction r with
 |nil=>rfl
 |cons h t ih=>rw[Wa,Wa,ih,h.1]
def KV.repl {kvs:List (κ×V)}{vs:List (κ×Value)} (r:KV kvs vs) (k:κ) {y:V}{u:Value} (ry:RelV y u) :
  KV (kvs.map fun kv=>if kv.1=k then(kv.1,y)else kv) (vs.map fun kv=>if kv.1=k then(kv.1,u)else kv):=by
 unfold KV at r ⊢
 induction r with
 |nil=>exact .nil
 | @cons p q ps qs h t ih=>
  rw[ZG,ZG];refine .cons ?_ ih;obtain⟨h1,h2⟩:=h;by_cases e:p.1=k
  ·rw[ZA e,ZA (h1.symm.trans e)];exact⟨h1,ry⟩
  ·rw[Z8 e,Z8 (fun z=>e (h1.trans z))];exact⟨h1,h2⟩
def KV.put {kvs:List (κ×V)}{vs:List (κ×Value)} (r:KV kvs vs) (k:κ) {y:V}{u:Value} (ry:RelV y u):KV (putK kvs k y) (stored vs k u):=by
 unfold putK stored;rw[r.any k];by_cases e:(vs.any fun kv=>decide (kv.1=k))=true
 ·rw[ZA e,ZA e];exact r.repl k ry
 ·rw[Z8 e,Z8 e];exact Paired.snoc r ⟨rfl,ry⟩
def KV.length {kvs:List (κ×V)}{vs:List (κ×Value)} (r:KV kvs vs):kvs.length=vs.length:=Paired.length r
end
def U7{P:Program}{w:World}{k:Key}{u:Value}(r:RelV (kV k) u):(QE P w).is k u=true:=by
 cases k with
 |inl i=>obtain⟨t,e⟩:=(show ∃t,u=Value.int i t from r);subst e;exact Fn P w i t
 |inr x=>obtain⟨t,e⟩:=(show ∃t,u=Value.str x t from r);subst e;exact NP P w x t
def Na{P:Program}{w:World}:∀{ks:List Key}{us:List Value},Vals (ks.map kV) us->ItemsAre (QE P w) ks us
 |[],_,r=>by rw[List.map_nil]at r;cases r;exact .nil
 |k::ks,_,r=>by
  rw[ZG]at r;cases r with
  |cons h t=>exact .cons (U7 h) (Na t)
abbrev KT(H:Hp):List (List Key×V)->List (List Key×Addr×Value)->Prop:=Paired fun p q=>p.1=q.1/\H q.2.1=some (.tup (p.1.map kV))/\RelV p.2 q.2.2
def KT.val {H:Hp}{kvs:List (List Key×V)}{xs:List (List Key×Addr×Value)} (r:KT H kvs xs) (k:List Key):RelO (valV kvs k) ((atKey xs k).map (·.2)):=by
 induction r with
 |nil=>exact True.intro
 | @cons p q ps qs h t ih=>
  obtain⟨h1,_,h2⟩:=h;by_cases e:p.1=k
  ·have e':q.1=k:=h1.symm.trans e;have b:atKey (q::qs) k=some q.2:=by simp[atKey,YQ,e']
   rw[QW e,b];exact h2
  ·have e':¬q.1=k:=fun z=>e (h1.trans z);have b:atKey (q::qs) k=atKey qs k:=by simp[atKey,YQ,e']
   rw[QU e,b];exact ih
def KT.repl {H:Hp}{kvs:List (List Key×V)}{xs:List (List Key×Addr×Value)} (r:KT H kvs xs) (k:List Key) {y:V}{u:Value} (ry:RelV y u) :
  KT H (kvs.map fun kv=>if kv.1=k then(kv.1,y)else kv) (xs.map (putAt k u)):=by
 induction r with
 |nil=>exact .nil
 | @cons p q ps qs h t ih=>
  rw[ZG,ZG];refine .cons ?_ ih;obtain⟨h1,h2,h3⟩:=h;unfold putAt;by_cases e:p.1=k
  ·rw[ZA e,ZA (h1.symm.trans e)];exact⟨h1,h2,ry⟩
  ·rw[Z8 e,Z8 (fun z=>e (h1.trans z))];exact⟨h1,h2,h3⟩
def KT.put {H:Hp}{kvs:List (List Key×V)}{xs:List (List Key×Addr×Value)} (r:KT H kvs xs) (k:List Key) {b:Addr}{y:V}{u:Value} (hb:H b=some (.tup (k.map kV))) (ry:RelV y u) :
  KT H (putK kvs k y) (storedH xs k b u):=by
 have e:(kvs.any fun kv=>decide (kv.1=k))=(atKey xs k).isSome:=by
  rw[J0,(r.val k).isSome_eq,Option.isSome_map]
 unfold putK storedH;rw[e];by_cases q:(atKey xs k).isSome=true
 ·rw[ZA q,ZA q];exact r.repl k ry
 ·rw[Z8 q,Z8 q];exact Paired.snoc r ⟨rfl,hb,ry⟩
def KT.keeps {H H':Hp}{kvs:List (List Key×V)}{xs:List (List Key×Addr×Value)} (r:KT H kvs xs) (ht:∀b ys,H b=some (.tup ys)->H' b=some (.tup ys)):KT H' kvs xs:=
 Paired.mapP r fun _ _ z=>⟨z.1,ht _ _ z.2.1,z.2.2⟩
section
variable {P:Program}{w:World}{H:Hp}{h:Heap}{a:Addr}
def PZ{u:HO}(ok:HOk P w H h)(e:Rd H a u):ObjOk P w H h a u:=e.ok ok
def X5{kvs:List (Key×V)}(ok:HOk P w H h)(e:Rd H a (.dK kvs)):kvs.length<=sizeLine/\(a==sysModules)=false/\∃vs,KV kvs vs/\h.DictOf (QE P w) a vs:=
 show ObjOk P w H h a (.dK kvs)from PZ ok e
def A9{kvs:List (Key×V)}(ok:HOk P w H h)(e:H a=some (.dK kvs)):kvs.length<=sizeLine/\(a==sysModules)=false/\∃vs,KV kvs vs/\h.DictOf (QE P w) a vs:=X5 ok (.inl e)
def UX{ks:List Key}(ok:HOk P w H h)(e:H a=some (.tup (ks.map kV))):(tupleKind (QE P w)).is h ks a:=by
 obtain⟨_,its,r,o,h1,h2,n,h3⟩:=(show ObjOk P w H h a (.tup (ks.map kV))from ok a _ e)
 exact⟨o,its.toArray,n,h1,h2,h3,by simpa using Na r⟩
def Kp{kvs:List (List Key×V)}(ok:HOk P w H h)(e:Rd H a (.dT kvs)):kvs.length<=sizeLine/\(a==sysModules)=false/\
  ∃xs,KT H kvs xs/\h.DictOfH (tupleKind (QE P w)) a xs:=by
 obtain⟨z,y,xs,r,o,es,ep,h1,h2,h3,h4,h5⟩:=(show ObjOk P w H h a (.dT kvs)from PZ ok e)
 refine⟨z,y,xs,r,o,es,ep,h1,h2,h3,h4,fun x hx=>?_,h5⟩
 have all:∀{l:List (List Key×V)} {m:List (List Key×Addr×Value)},KT H l m->∀x∈m,(tupleKind (QE P w)).is h x.1 x.2.1:=by
  intro l m q
  induction q with
  |nil=>intro x hx;exact nomatch hx
  | @cons p q ps qs hq t ih=>
   intro x hx;rcases ZL.mp hx with e|hx
   ·subst e;exact UX ok (by rw[←hq.1];exact hq.2.1)
   ·exact ih x hx
 exact all r x hx
def Cu{kvs:List (List Key×V)}(ok:HOk P w H h)(e:H a=some (.dT kvs)):kvs.length<=sizeLine/\(a==sysModules)=false/\
  ∃xs,KT H kvs xs/\h.DictOfH (tupleKind (QE P w)) a xs:=Kp ok (.inl e)
end
def DGet(H:Hp)(a:Addr)(y:V)(r:Option V):Prop:=
 (∃kvs k,Rd H a (.dK kvs)/\y=kV k/\r=valV kvs k)\/∃kvs k b,Rd H a (.dT kvs)/\y=.ref b/\H b=some (.tup (k.map kV))/\r=valV kvs k
def DPut(H:Hp)(a:Addr)(y v:V)(H':Hp):Prop:=
 (∃kvs k,H a=some (.dK kvs)/\y=kV k/\kvs.length<sizeLine/\H'=upd H a (.dK (putK kvs k v)))\/
 ∃kvs k b,H a=some (.dT kvs)/\y=.ref b/\H b=some (.tup (k.map kV))/\kvs.length<sizeLine/\H'=upd H a (.dT (putK kvs k v))
def DGet.k {H:Hp}{a:Addr}{kvs:List (Key×V)}{k:Key} (e:H a=some (.dK kvs)):DGet H a (kV k) (valV kvs k):=.inl ⟨kvs,k,.inl e,rfl,rfl⟩
def DGet.t {H:Hp}{a b:Addr}{kvs:List (List Key×V)}{k:List Key} (e:H a=some (.dT kvs)) (eb:H b=some (.tup (k.map kV))):DGet H a (.ref b) (valV kvs k):=.inr ⟨kvs,k,b,.inl e,rfl,eb,rfl⟩
def DPut.k {H:Hp}{a:Addr}{kvs:List (Key×V)}{k:Key}{v:V} (e:H a=some (.dK kvs)) (hl:kvs.length<sizeLine):DPut H a (kV k) v (upd H a (.dK (putK kvs k v))):=.inl ⟨kvs,k,e,rfl,hl,rfl⟩
def DPut.t {H:Hp}{a b:Addr}{kvs:List (List Key×V)}{k:List Key}{v:V} (e:H a=some (.dT kvs)) (eb:H b=some (.tup (k.map kV))) (hl:kvs.length<sizeLine) :
  DPut H a (.ref b) v (upd H a (.dT (putK kvs k v))):=.inr ⟨kvs,k,b,e,rfl,eb,hl,rfl⟩
section
variable {X:Cx}{pins:List (Addr×Obj)}{σ:St}{H:Hp}{s:Shared}{a:Addr}{y v:V}{u r:Value}{o:Option V}{A:Around}{E:Value->Shared->Prop}
def Inv.big (I:Inv X pins σ H s):sysModules<s.heap.objs.size:=by
 have h:mainGlobals<s.heap.objs.size:=(I.mod.glob.keeps I.bk).lt;exact YW (by decide) h
def d_in{Q:Value->Shared->Prop}(hu:A.units+1<cLine)(I:Inv X pins σ H s)(g:DGet H a y o)(ry:RelV y u)(h:∀s',Inv X pins σ H s'->Q (.bool o.isSome) s') :
  wpAny (model X.prog X.w) A (compareOp .In u (.ref a)) Q E s:=by
 rcases g with⟨kvs,k,e,ey,l⟩|⟨kvs,k,b,e,ey,eb,l⟩
 ·subst ey;obtain⟨z,hd,vs,rel,dd⟩:=X5 I.hok e;refine wpAny_in_of (U7 ry) hd dd.mapOf ?_;rw[←(rel.val k).isSome_eq,←l];exact h _ (I.tok _)
 ·subst ey;cases (show u=Value.ref b from ry)
  obtain⟨z,hd,xs,rel,dd⟩:=Kp I.hok e;refine wpAny_in_heap (tupleKind_room_in1 hu) (UX I.hok eb) hd dd ?_;have q:=(rel.val k).isSome_eq;rw[Option.isSome_map]at q;rw[←q,←l];exact h _ (I.tok _)
def Xm{h':Heap}{t':Nat}{ob:HO}(I:Inv X pins σ H s)(mu:Mut (H a))(hs:Heap.SameBut a s.heap h')(he:∃q,h'.get? a=some q)(new:ObjOk X.prog X.w (upd H a ob) h' a ob) :
  Inv X pins σ (upd H a ob) {s with heap:=h',toks:=t'}:=
 I.write (x:=a) (e:=a) mu (.inl rfl) (fun b q hb z=>(hs.2 b hb).trans z) he new
def SD{P:Program}{w:World}{H':Hp}{h':Heap}{kvs:List (Key×V)}{vs:List (Key×Value)}(z:kvs.length<=sizeLine)(hd:(a==sysModules)=false)(rel:KV kvs vs)(dd:h'.DictOf (QE P w) a vs) :
  ObjOk P w H' h' a (.dK kvs):=⟨z,hd,vs,rel,dd⟩
def NV{H':Hp}{Q:Unit->Shared->Prop}(hu:A.units+1<cLine)(I:Inv X pins σ H s)(g:DPut H a y v H')(ry:RelV y u)(rv:RelV v r)(h:∀s',Inv X pins σ H' s'->Q () s') :
  wpAny (model X.prog X.w) A (setItem (.ref a) u r) Q E s:=by
 rcases g with⟨kvs,k,e,ey,l,eH⟩|⟨kvs,k,b,e,ey,eb,l,eH⟩
 ·subst ey eH;obtain⟨z,hd,vs,rel,dd⟩:=A9 I.hok e;have hz:vs.length<=sizeLine:=by rw[←rel.length];exact z
  have hl:(putK kvs k v).length<=sizeLine:=by have:=U5 kvs k v;omega
  refine wpAny_setItem_pairs (hsz:=hz) (U7 ry) dd fun h' dd' hs=>h _ ?_;have he:∃q,h'.get? a=some q:=let ⟨q,_,_,hq,_⟩:=dd';⟨q,hq⟩;exact Xm I (by rw[e];exact True.intro) hs he (SD hl hd (rel.put k rv) dd')
 ·subst ey eH;cases (show u=Value.ref b from ry)
  obtain⟨z,hd,xs,rel,dd⟩:=Cu I.hok e;have hz:xs.length<=sizeLine:=by rw[←Paired.length rel];exact z
  have hl:(putK kvs k v).length<=sizeLine:=by have:=U5 kvs k v;omega
  refine wpAny_setItem_heap (hsz:=hz) (tupleKind_room_in1 hu) (UX I.hok eb) dd fun h' dd' hs=>h _ ?_;obtain⟨q,es,ep,hq,h2,h3,h4,_,h5⟩:=dd';refine Xm I (by rw[e];exact True.intro) hs ⟨q,hq⟩ ⟨hl,hd,_,(rel.put k eb rv).keeps fun c ys ec=>?_,q,es,ep,hq,h2,h3,h4,h5⟩;rw[Qh (Ba ec e (fun z=>nomatch z))];exact ec
end
def tDIn(ty td:TE):TE:=fun σ H Q=>ty σ H fun y H1=>td σ H1 fun x H2=>∃a o,x=.ref a/\DGet H2 a y o/\Q (.bl o.isSome) H2
def P6(td ty tv:TE):TS:=fun D σ H=>tv σ H fun v H1=>td σ H1 fun x H2=>ty σ H2 fun y H3=>∃a H4,x=.ref a/\DPut H3 a y v H4/\D.nx σ H4
section
variable {X:Cx}{o i e value:Expr}{pos pos' tpos:Pos}{td ty tv:TE}
def Bz(hu:X.A.units+1<cLine)(hi:PE X i ty)(ho:PE X o td):PC X .In i o (tDIn ty td):=by
 intro pins s σ H Q I h;refine thn (hi pins s σ H _ I h) fun iv s1 ⟨y,H1,I1,ry,q1⟩=>thn (ho pins s1 σ H1 _ I1 q1) fun u s2 ⟨x,H2,I2,rx,a,ov,ex,g,q2⟩=>?_;subst ex;obtain rfl:u=Value.ref a:=rx;exact d_in hu I2 g ry fun s3 I3=>⟨.bl ov.isSome,H2,I3,rfl,q2⟩
def CC(hu:X.A.units+1<cLine)(ho:PE X o td)(hi:PE X i ty)(hv:PE X value tv)(hs:swapsWith value (some (.Subscript o i pos')) pos.line X.env=pure false) :
  PS X (.Assign [.Subscript o i pos'] value pos) (P6 td ty tv):=by
 intro pins s σ H D I h;refine wpAny_Assign_Subscript (thn (hv pins s σ H _ I h) fun r s1 ⟨v,H1,I1,rv,q1⟩=>thn (ho pins s1 σ H1 _ I1 q1) fun u s2 ⟨x,H2,I2,rx,q2⟩=>thn (hi pins s2 σ H2 _ I2 q2) fun iv s3 ⟨y,H3,I3,ry,a,H4,ex,g,q3⟩=>?_) hs;subst ex;obtain rfl:u=Value.ref a:=rx;exact NV hu I3 g ry rv fun s4 I4=>⟨σ,H4,I4,q3⟩
end
def N6{P:Program}{w:World}{H:Hp}(h:Heap)(hb:sysModules<h.objs.size):ObjOk P w H (h.push {cls:=.type "dict",data:=.dict #[]}) h.objs.size (.dT []):=
 ⟨Yo _,beq_eq_false_iff_ne.mpr (Ne.symm (ZN hb)),[],.nil,_,#[],0,Z9 _ rfl,⟨rfl,rfl,rfl⟩,rfl,rfl,List.nodup_nil⟩
def TH:TE:=fun _ H Q=>∀p,H p=none->Q (.ref p) (upd H p (.dT []))
section
variable {X:Cx}{pos:Pos}
def AC:PE X (.Dict [] [] pos) TH:=fun pins s σ H Q I h=>
 wpAny_Dict_empty ⟨.ref s.heap.objs.size,_,I.laid (a:=s.heap.objs.size) (o:=.dT []) (t':=s.toks) (fun _ _ q=>Z2 _ q) (Z4 _) (N6 s.heap I.big),rfl,h _ (I.hok.fresh (Z4 _))⟩
end
end L2
set_option genInjectivity false
set_option genSizeOfSpec false
namespace Own
open PySem PySem.Spec PyProof.Rows L2
structure Def (K:Za) (mg:Str->Option Value) (x:Str) (st:Stmt) (ps:List Str):Prop where
 ex:∃f fd,Fun K x x st f fd/\mg x=some (.ref f)/\Binds K fd ps []
structure Callee (P:Program) (w:World) (K:Za) (mg:Str->Option Value) (base:Heap) (CX:CXT) (k:Nat) (x:Str) (ps:List Str) (sp:Sp):Prop where
 ex:∃f fd,FnOk P w K mg base CX k f fd ps sp/\mg x=some (.ref f)/\PySem.W.keepIn K (.ref f)=true/\(∃o:Obj,K.lookup f=some o/\o.data=.func fd)/\Binds K fd ps []
section
variable {P:Program}{w:World}{K:Za}{mg:Str->Option Value}{base:Heap}
def Def.ok {x:Str}{st:Stmt}{N ps:List Str}{k:Nat}{sp:Sp} (D:Def K mg x st ps) (S:FnScope N ps (Qg st)) (len:∀vs H Q E,sp vs H Q E->vs.length=ps.length)
  (hbody:∀(f:Addr) (cdv:Value) (A:Around) (outer:List Env) (s:Shared) (H:Hp) (vs:List V) (Q:VK) (E:XK),Room k (A.deeper (envOfC x (Qg st) s.heap.objs.size f cdv))->sp vs H Q E->
   ∃t,PSs (cxOf CX0 P w K mg base N x (Qg st) f cdv A outer s H E).nox (QC st) t/\t {nx:=fun _ H'=>Q .non H',rt:=Q} (start N vs) H):Callee P w K mg base CX0 (k+1) x ps sp:=by
 obtain⟨f,fd,F,hm,hb⟩:=D.ex;refine⟨f,fd,F.ok S len fun cdv A outer s H vs Q E hr h=>hbody f cdv A outer s H vs Q E hr h,hm,F.kp,?_,hb⟩;obtain⟨oc,od,kV,doc,pm,an,cdv,ct,osl,_,lk,_⟩:=F.ex;exact⟨_,lk,rfl⟩
end
section
variable {X:Cx}{CX:CXT}{k:Nat}{ps:List Str}{sp:Sp}{E:XK}{x:Str}{p pos:Pos}{e:Expr}{es:List Expr}{t:TA}
def Vg(C:Callee X.prog X.w X.K X.mg X.base CX k x ps sp)(hr:Room k X.A)(hx:Jf CX X E)(ha:PA X (e::es) t)(hg:Gl X x:=by rfl)(hdb:(x==("__debug__" : Str))=false:=by decide)(he:starEach (e::es) X.env=(false,eval e X.env)::starEach es X.env:=by rfl)(hpl:(backTo pos (starEach es X.env)).any (·.1)=false:=by rfl) :
  PE X (.Call (.Name x p) (e::es) [] pos) (JT sp [] E t):=by
 obtain⟨f,fd,F,hm,hk,_,hb⟩:=C.ex;exact SG F hr hg hm hk hb .nil hx ha hdb he hpl
def VR:QI X (.builtin "isinstance") (fun xs H Q=>∃x n t b,xs=[x,.ty n]/\TyOf X.K H x t/\PySem.W.kitOne X.K t (.type n)=some b/\Q (.bl b) H):=by
 intro pins s σ H xs us Q I rv h;obtain⟨x,n,t,b,rfl,ty,e,q⟩:=h;cases rv with
 |cons r rr=>
  cases rr with
  |cons r' rr'=>
   cases rr'
   obtain rfl:_=Value.type n:=r';exact Ft I r ty e fun tk=>⟨.bl b,H,I.tok tk,rfl,q⟩
def Qp:IxR X (fun x y H Q=>rIxL X.K x y H Q\/rIxT X.K x y H Q):=ix_list.or Cr
end
def Tg(t u:TS):TS:=fun D σ H=>∃J:L2.St->Hp->Prop,t {D with nx:=J} σ H/\∀σ' H',J σ' H'->u D σ' H'
def Je(K:Za)(n:String):PySem.W.kitOne K (.type n) (.type n)=some true:=by
 unfold PySem.W.kitOne;rw[ZA (by simp)]
def BA(K:Za):PySem.W.kitOne K (.type "int") (.type "bool")=some false:=by rfl
def QZ{α β:Type}{f:α->β}{xs:List α}{i:Int}{v:α}(h:atI xs i=some v):atI (xs.map f) i=some (f v):=by
 unfold atI at h ⊢;rw[Z1];cases e:ixN xs.length i with
 |none=>rw[e]at h;cases h
 |some j=>
  rw[e]at h;have h':xs[j]?=some v:=h;show(xs.map f)[j]?=some (f v);rw[ZC,h'];rfl
def Jn{α:Type}{xs:List α}{i:Int}{v:α}(h0:0<=i)(h:xs[i.toNat]?=some v):atI xs i=some v:=by
 have e:((i.toNat:Nat):Int)=i:=by omega
 have:=QM h
 rwa[e]at this
def Qy{H:Hp}{a:Addr}{o:HO}(h:H a=none):Same H (upd H a o):=fun b u e=>by rw[Qh (Qv e h)];exact e
def Same.upd {H H':Hp}{a:Addr}{o:HO} (S:Same H H') (h:H a=none):Same H (upd H' a o):=fun b u e=>by rw[Qh (Qv e h)];exact S b u e
def Same.new {H H':Hp}{a:Addr}{o:HO} (S:Same H H') (h:H' a=none):Same H (L2.upd H' a o):=Own.Same.upd S (S.free h)
def FG{env:Env}(names:List (Str×NameKind))(hall:∀x∈names,x.2=.free->∃c,env.cells.lookup x.1=some c):∀cs0:List (Str×Addr),(∀x c,cs0.lookup x=some c->env.cells.lookup x=some c)->
  ∃cl:List (Str×Addr),(forIn names cs0 (fun(x:Str×NameKind) (cs:List (Str×Addr))=>if (x.2 == .free)=true then(do let c ←cellOf env x.1;pure (ForInStep.yield ((x.1,c)::cs)))else pure (ForInStep.yield cs)):Sem (List (Str×Addr)))=pure cl/\
   (∀x c,cl.lookup x=some c->env.cells.lookup x=some c)/\(∀x,(∃c,cs0.lookup x=some c)->∃c,cl.lookup x=some c)/\∀x∈names,x.2=.free->∃c,cl.lookup x.1=some c:=by
 induction names with
 |nil=>
  intro cs0 h0;exact⟨cs0,rfl,h0,fun _ h=>h,fun x hx=>by cases hx⟩
 |cons y r ih=>
  intro cs0 h0;have ih':=ih fun x hx=>hall x (ZH _ hx);obtain⟨n,k⟩:=y;by_cases hk:k=.free
  ·subst hk;obtain⟨c,hc⟩:=hall (n,.free) ZK rfl
   have h1:∀x d,List.lookup x ((n,c)::cs0)=some d->env.cells.lookup x=some d:=fun x d e=>by
    rw[Yk]at e;by_cases hx:x=n
    ·subst hx;simp at e;subst e;exact hc
    ·have:(x==n)=false:=by simpa using hx
     rw[this]at e;exact h0 x d e
   obtain⟨cl,e,p1,p2,p3⟩:=ih' ((n,c)::cs0) h1;refine⟨cl,?_,p1,fun x hx=>p2 x ?_,fun x hx hf=>?_⟩
   ·rw[List.forIn_cons];show((if (NameKind.free==NameKind.free)=true then(do let c ←cellOf env n;pure (ForInStep.yield ((n,c)::cs0)))else pure (ForInStep.yield cs0)) >>= _)=_
    rw[ZA (show(NameKind.free==NameKind.free)=true by decide)];have ec:cellOf env n=pure c:=by unfold cellOf;rw[hc]
    rw[ec];exact e
   ·rw[Yk];cases (x==n)
    ·exact hx
    ·exact⟨c,rfl⟩
   ·rcases ZL.mp hx with rfl|hx
    ·exact p2 n ⟨c,by simp[Yk]⟩
    ·exact p3 x hx hf
  ·obtain⟨cl,e,p1,p2,p3⟩:=ih' cs0 h0;refine⟨cl,?_,p1,p2,fun x hx hf=>?_⟩
   ·rw[List.forIn_cons];have hb:(k==NameKind.free)=false:=by simpa using hk
    show((if (k==NameKind.free)=true then(do let c ←cellOf env n;pure (ForInStep.yield ((n,c)::cs0)))else pure (ForInStep.yield cs0)) >>= _)=_
    rw[Z8 (by rw[hb];decide)];exact e
   ·rcases ZL.mp hx with rfl|hx
    ·exact absurd hf hk
    ·exact p3 x hx hf
def Kc{env:Env}{sc:Scope}(hall:∀x∈sc.names,x.2=.free->∃c,env.cells.lookup x.1=some c) :
  ∃cl:List (Str×Addr),closureFor sc env=pure cl/\(∀x c,cl.lookup x=some c->env.cells.lookup x=some c)/\∀x∈sc.names,x.2=.free->∃c,cl.lookup x.1=some c:=by
 obtain⟨cl,e,p1,_,p3⟩:=FG sc.names hall [] (fun x c h=>by cases h);refine⟨cl,?_,p1,p3⟩;unfold closureFor;show((forIn sc.names ([]:List (Str×Addr)) (fun(x:Str×NameKind) (cs:List (Str×Addr))=>if (x.2 == .free)=true then(do let c ←cellOf env x.1;pure (ForInStep.yield ((x.1,c)::cs)))else pure (ForInStep.yield cs)):Sem (List (Str×Addr))) >>= fun cs=>pure cs)=pure cl
 rw[e];rfl
def Q2(X:Cx)(N':List Str)(sc:Scope)(cl:List (Str×Addr))(C:Addr)(s₃:Shared)(H₃:Hp)(ex:List Addr):Cx:=
 {X with N:=N',s₀:=s₃,H₀:=H₃,env:=compEnvC sc cl C X.env,outer:=X.stack,ex:=ex,fn:=fun _=>false,pn:=[],xe:=fun _ _=>False}
structure CompOk (X:Cx) (N':List Str) (φ:List (Option Nat)) (sc:Scope):Prop where
 kind:sc.kind=.function
 okind:X.env.scope.kind=.function
 nocell:∀y∈sc.names,y.2≠.cell
 names:∀y∈sc.names,y.2=.local->sc.names.lookup y.1=some .local
 frees:∀y∈sc.names,y.2=.free->X.env.scope.names.lookup y.1=some .cell
 len:φ.length=N'.length
 pick:∀(i:Nat) (x:Str) (j:Nat),N'[i]?=some x->φ[i]?=some (some j)->X.N[j]?=some x/\sc.names.lookup x=some .free
def atStart(φ:List (Option Nat))(σ:L2.St):L2.St:=φ.map fun o=>o.bind fun j=>(σ[j]?).join
def Sub(σ σ':L2.St):Prop:=σ'.length=σ.length/\∀(i:Nat) (v:V),σ[i]?=some (some v)->σ'[i]?=some (some v)
def Sub.refl {σ:L2.St}:Sub σ σ:=⟨rfl,fun _ _ h=>h⟩
def Sub.skip {σ σ':L2.St}{x:Option V} (h:Sub σ σ'):Sub (none::σ) (x::σ'):=by
 refine⟨by simp[h.1],fun i v e=>?_⟩;cases i with
 |zero=>simp at e
 |succ i=>simp at e ⊢;exact h.2 i v e
def Sub.keep {σ σ':L2.St}{x:Option V} (h:Sub σ σ'):Sub (x::σ) (x::σ'):=by
 refine⟨by simp[h.1],fun i v e=>?_⟩;cases i with
 |zero=>simpa using e
 |succ i=>simp at e ⊢;exact h.2 i v e
def TN{env:Env}(hk:env.scope.kind=.function):∀{names:List (Str×NameKind)}{x:Str},names.lookup x=some .free->env.scope.names.lookup x=some .cell->
  (names.map fun(n,k)=>if (k==NameKind.free&&env.scope.kind == .function&&env.kindOf n==some .cell)then(n,NameKind.cell)else(n,k)).lookup x=some .cell
 |[],_,h,_=>by simp at h
 |(n,k)::r,x,h,hc=>by
  have ih:=@TN env hk r x;show List.lookup x ((if (k==NameKind.free&&env.scope.kind == .function&&env.kindOf n==some .cell)=true then(n,NameKind.cell)else(n,k))::_)=_;cases hx:x==n with
  |true=>
   simp only[Yk,hx]at h;cases h
   have e:x=n:=by simpa using hx
   subst e;have hkk:env.kindOf x=some .cell:=hc;rw[hk,hkk];simp[Yk]
  |false=>
   simp only[Yk,hx]at h;by_cases hcc:(k==NameKind.free&&env.scope.kind == .function&&env.kindOf n==some .cell)=true
   ·rw[ZA hcc];simp only[Yk,hx];exact ih h hc
   ·rw[Z8 hcc];simp only[Yk,hx];exact ih h hc
def UK{env:Env}:∀{names:List (Str×NameKind)}{x:Str}{q:NameKind},
  (names.map fun(n,k)=>if (k==NameKind.free&&env.scope.kind == .function&&env.kindOf n==some .cell)then(n,NameKind.cell)else(n,k)).lookup x=some q->∃k,(x,k)∈names/\(q=k\/k=.free)
 |[],_,_,h=>by simp at h
 |(n,k)::r,x,q,h=>by
  have ih:=@UK env r x q;have h':List.lookup x ((if (k==NameKind.free&&env.scope.kind == .function&&env.kindOf n==some .cell)=true then(n,NameKind.cell)else(n,k))::(r.map fun(n,k)=>if (k==NameKind.free&&env.scope.kind == .function&&env.kindOf n==some .cell)then(n,NameKind.cell)else(n,k)))=some q:=h;cases hx:x==n with
  |true=>
   have e:x=n:=by simpa using hx
   subst e;by_cases hcc:(k==NameKind.free&&env.scope.kind == .function&&env.kindOf x==some .cell)=true
   ·refine⟨k,ZK,.inr ?_⟩
    have:=(Yj _ _▸(Yj _ _▸hcc).1).1
    simpa using this
   ·rw[Z8 hcc]at h';simp[Yk]at h';exact⟨k,ZK,.inl h'.symm⟩
  |false=>
   have h2:List.lookup x (r.map fun(n,k)=>if (k==NameKind.free&&env.scope.kind == .function&&env.kindOf n==some .cell)then(n,NameKind.cell)else(n,k))=some q:=by
    by_cases hcc:(k==NameKind.free&&env.scope.kind == .function&&env.kindOf n==some .cell)=true
    ·rw[ZA hcc]at h';simp only[Yk,hx]at h';exact h'
    ·rw[Z8 hcc]at h';simp only[Yk,hx]at h';exact h'
   obtain⟨k',hm,hq⟩:=ih h2;exact⟨k',ZH _ hm,hq⟩
def Sa{prog:Program}{w:World}{A:Around}{R:Result->Shared->Prop}{s:Shared}{elt target iter:Expr}{ifs:List Expr}{scope:Scope}{pos:Pos}{it acc:Value}{env:Env}(I:Nat->Shared->Prop)
  (turn:∀n s,I n s->wpAny (model prog w) A (pyNext it) (fun r s₁=>match r with
   |none=>R (.ok .next) s₁
   |some v=>wpAny (model prog w) A (letOwnedTupleGo target it v) (fun _ s₁'=>wpAny (model prog w) A (assign target env v) (fun _ s₂=>
     wpAny (model prog w) A (forIn ifs true fun c r=>if r=true then do let ok ←isTrue c env (eval c env);pure (ForInStep.yield ok)else pure (ForInStep.yield r)) (fun ok s₃=>
      if ok=true then wpAny (model prog w) A (eval elt env) (fun x s₄=>
       wpAny (model prog w) A (call (.builtin "list.append") [acc,x]) (fun _ s₅=>∃m,m<n/\I m s₅) (fun _ _=>False) s₄) (fun _ _=>False) s₃
      else ∃m,m<n/\I m s₃) (fun _ _=>False) s₂) (fun _ _=>False) s₁') (fun _ _=>False) s₁) (fun _ _=>False) s)
  (n:Nat) (h:I n s) :
  codeAny (model prog w) A (.compLoop (.ListComp elt [⟨target,iter,ifs,0⟩] scope pos) 0 it acc env) R s:=by
 refine codeAny_loop rfl I (fun n s hI=>?_) n h;show wpAny _ A ((compTurn (.ListComp elt [⟨target,iter,ifs,0⟩] scope pos) 0 it acc env).onRaise (fun x=>do noteFrame x env;theTreesLotGoes x)) _ _ s
 refine wpAny_noted ?_;rw[compTurn_list];refine Z0 (wpAny_standAt (Z0 (Yh (turn n s hI) (fun r s₁ h₁=>?_) fun _ _ h'=>h'.elim)));cases r with
 |none=>exact Z3 h₁
 |some v=>
  refine Z0 (Yh h₁ (fun _ s₁' h₁'=>?_) fun _ _ h'=>h'.elim);refine Z0 (Yh h₁' (fun _ s₂ h₂=>Z0 (Yh h₂ (fun ok s₃ h₃=>?_) fun _ _ h'=>h'.elim)) fun _ _ h'=>h'.elim);cases ok with
  |false=>exact Z3 ⟨rfl,h₃⟩
  |true=>
   exact Z0 (Z0 (Yh h₃ (fun x s₄ h₄=>Z0 (Yh h₄ (fun _ s₅ h₅=>Z3 (Z3 ⟨rfl,h₅⟩)) fun _ _ h'=>h'.elim)) fun _ _ h'=>h'.elim))
def PIfs(X:Cx)(ifs:List Expr)(t:TT):Prop:=
 ∀(pins:List (Addr×Obj)) (s:Shared) (σ:L2.St) (H:Hp) (Q:Bool->Hp->Prop),Inv X pins σ H s->t σ H Q->
  wpAny (model X.prog X.w) X.A (forIn ifs true fun c r=>if r=true then do let ok ←isTrue c X.env (eval c X.env);pure (ForInStep.yield ok)else pure (ForInStep.yield r)) (TP X pins σ Q) X.xe s
def PP:TT:=fun _ H Q=>Q true H
def VC{X:Cx}:PIfs X [] PP:=fun _ _ _ H _ I h=>Z3 ⟨H,I,h⟩
def P7{X:Cx}{c:Expr}{t:TT}(hc:PT X c t):PIfs X [c] t:=by
 intro pins s σ H Q I h;rw[List.forIn_cons];refine Z0 ?_;rw[ZA rfl];exact Z0 (thn (hc pins s σ H Q I h) fun b s1 q=>Z3 (Z3 q))
def J4(φ:List (Option Nat))(wi:TI)(g:TG)(tc:TT)(te:TE):TE:=fun σ H Q=>wi σ H fun J H1=>∀D,H1 D=none->∃W:Nat->Nat->List V->Hp->Prop,(∃m,W 0 m [] (upd H1 D (.lst [])))/\
 ∀i m ys H2,W i m ys H2->(J.stop i H2/\Q (.ref D) H2)\/(J.go i H2/\∀x H3,J.yld i H2 x H3->g x (atStart φ σ) H3 fun σ2 H4=>Sub (atStart φ σ) σ2/\tc σ2 H4 fun b H5=>
  if b=true then te σ2 H5 fun y H6=>H6 D=some (.lst ys)/\ys.length<sizeLine/\∃m',m'<m/\W (i+1) m' (ys++[y]) (upd H6 D (.lst (ys++[y])))else ∃m',m'<m/\W (i+1) m' ys H5)
def Inv.weak {X:Cx}{pins:List (Addr×Obj)}{σ σ':L2.St}{H:Hp}{s:Shared} (I:Inv X pins σ' H s) (S:Sub σ σ'):Inv X pins σ H s:=
 ⟨I.ok,I.os,I.bare,I.base,let ⟨m,hn,hl⟩:=I.loc;⟨m,hn,fun i x v h1 h2 h3=>hl i x v h1 (S.2 i v h2) h3⟩,I.cell,I.free,I.freeC,I.pin,I.hok,by rw[←S.1];exact I.len⟩
def UW{φ:List (Option Nat)}{σ:L2.St}{i:Nat}{v:V}(h:(atStart φ σ)[i]?=some (some v)):∃j,φ[i]?=some (some j)/\σ[j]?=some (some v):=by
 unfold atStart at h;rw[ZC]at h;cases e:φ[i]? with
 |none=>rw[e]at h;cases h
 |some o=>
  rw[e]at h;cases o with
  |none=>simp at h
  |some j=>
   refine⟨j,rfl,?_⟩;simp at h;cases e2:σ[j]? with
   |none=>rw[e2]at h;simp at h
   |some w=>rw[e2]at h;simp at h;rw[h]
def CompEnd(X:Cx)(pins:List (Addr×Obj))(σ:L2.St)(Q:VK)(use:Option (Value->Sem Unit))(QQ:Value->Shared->Prop):Prop:=
 ∀(D C:Addr) (H5:Hp) (s6:Shared),Q (.ref D) H5->Inv X pins σ H5 s6->(∃m,s6.heap.Ns C m)->H5 C=none->C≠X.env.locals->X.s₀.heap.objs.size<=C->(∀x c,X.env.cells.lookup x=some c->c≠C)->(∀p∈X.pn++pins,p.1≠C)->C∉X.fs->
  compPost (model X.prog X.w) X.A X.xe use QQ (.ref D) C (.ok .next) s6
def Tr{X:Cx}{N':List Str}{φ:List (Option Nat)}{sc:Scope}{elt iter tg:Expr}{ifs:List Expr}{pos pos':Pos}{wi:TI}{g:TG}{tc:TT}{te:TE}{use:Option (Value->Sem Unit)}{QQ:Value->Shared->Prop}(hcalm:X.calm=true)(S:CompOk X N' φ sc)(hi:PI X tg iter wi)(hin:∀cl C s₃ H₃ ex,PG (Q2 X N' sc cl C s₃ H₃ ex) tg g/\PIfs (Q2 X N' sc cl C s₃ H₃ ex) ifs tc/\PE (Q2 X N' sc cl C s₃ H₃ ex) elt te)(hs:∀x,foldedSetIterable iter X.env x=pure x){pins:List (Addr×Obj)}{s:Shared}{σ:L2.St}{H:Hp}{Q:VK}(I:Inv X pins σ H s)(h:J4 φ wi g tc te σ H Q)(fin:CompEnd X pins σ Q use QQ) :
  wpAny (model X.prog X.w) X.A (comprehension (.ListComp elt [⟨tg,iter,ifs,0⟩] sc pos) sc X.env pos' (newList []) false (eval iter X.env) use) QQ X.xe s:=by
 obtain⟨cl,hcl,p1,p3⟩:=Kc (env:=X.env) (sc:=sc) fun x hx hf=>I.ok.has x.1 (.inl (S.frees x hx hf));refine wpAny_comprehension_free (use:=use) rfl hs hcl S.kind S.names ?_;refine thn (hi pins s σ H _ I h) fun v s1 h1=>thn h1 fun itv s2 h2=>?_;obtain⟨it,fp,tn,J,H2,e,I2,T,st2,f2,hR⟩:=h2;subst e;refine Yw ?_;have hf:H2 s2.heap.objs.size=none:=I2.hok.fresh (Z4 _);obtain⟨W,⟨m0,w0⟩,turn⟩:=hR s2.heap.objs.size hf;generalize eD:s2.heap.objs.size=D at *
 have I3:Inv X pins σ (upd H2 D (.lst [])) {s2 with heap:=s2.heap.push {cls:=.type "list",dict:=none,data:=.seq ([]:List Value).toArray}}:=
  I2.laid (t':=s2.toks) (fun b u e=>Z2 _ e) (YA eD) ⟨Yo _,[],0,.nil,by rw[←eD];exact Z9 _ rfl⟩
 have st3:tn 0 (s2.heap.push {cls:=.type "list",dict:=none,data:=.seq ([]:List Value).toArray}):=T.keep _ _ _ st2 fun b _ o e=>Z2 _ e
 have hfpD:∀b∈fp,b≠D:=fun b hb z=>by
  obtain⟨o,ho,_⟩:=T.obj _ _ st2 b hb
  have:=Z5 ho
  rw[z,←eD]at this;exact Yt _ this
 have f3:∀b∈fp,FpOk X pins (upd H2 D (.lst [])) b:=fun b hb=>⟨by rw[Qh (hfpD b hb)];exact(f2 b hb).1,(f2 b hb).2⟩;generalize es3:({s2 with heap:=s2.heap.push {cls:=.type "list",dict:=none,data:=.seq ([]:List Value).toArray}}:Shared)=s3 at *
 have st3':tn 0 s3.heap:=by rw[←es3];exact st3
 generalize eH3:upd H2 D (.lst [])=H3 at *;refine wpAny_newFunctionEnv S.nocell (by intro y hy;simp at hy) (fun h₁ hns₁ hsb₁=>?_) S.kind;have hh3:s3.heap=s2.heap.push {cls:=.type "list",dict:=none,data:=.seq ([]:List Value).toArray}:=by rw[←es3]
 rw[hh3]at hns₁ hsb₁;rw[←hh3]at hns₁ hsb₁;have old:∀b o,s3.heap.get? b=some o->h₁.get? b=some o:=fun b o e=>hsb₁.extBut b o (ZN (Z5 e)) (Z2 _ e)
 have hC0:s3.heap.get? s3.heap.objs.size=none:=by
  cases e:s3.heap.get? s3.heap.objs.size with
  |none=>rfl
  |some o=>exact absurd (Z5 e) (Yt _)
 generalize eC:s3.heap.objs.size=C at *;have hH3C:H3 C=none:=I3.hok.fresh (YA eC)
 have OK:(Q2 X N' sc cl C s3 H3 fp).Ok:=by
  refine⟨I.ok.mod,?_,I.ok.glob,I.ok.blt,YA eC,fun x y c h1 h2=>I.ok.inj x y c (p1 x c h1) (p1 y c h2),?_,(fun x c hx=>by cases hx),I.ok.hd,I.ok.frames,.inl rfl,?_,I3.bs,ZM I.ok.bsz I3.sz,?_,?_,I3.stack,I3.stkFree⟩
  ·exact S.kind
  ·intro x hx;have hx':(∃k,(x,k)∈sc.names/\(NameKind.cell=k\/k=.free))\/∃k,(x,k)∈sc.names/\(NameKind.free=k\/k=.free):=hx.imp UK UK
   have hfr:(x,NameKind.free)∈sc.names:=by
    rcases hx' with⟨k,hm,rfl|rfl⟩|⟨k,hm,rfl|rfl⟩
    ·exact absurd rfl (S.nocell _ hm)
    ·exact hm
    ·exact hm
    ·exact hm
   exact p3 _ hfr rfl
  ·intro b hb;refine⟨fun z=>?_,fun x c hx=>(f3 b hb).2.2.2.2.1 x c (p1 x c hx)⟩;obtain⟨o,ho,_⟩:=T.obj _ _ st3' b hb;have z':b=C:=z;rw[z',hC0]at ho;cases ho
  ·intro b o hb hx;obtain⟨_,_,_,q,_,_⟩:=f3 b hx;rcases q with q|q
   ·exact I.ok.noex b o hb q
   ·have:=ZO (Z5 hb) (ZM I.ok.bsz q)
    exact Yt _ this
  ·intro b hb hz;rcases ZL.mp (I.stkSub b hz)with q|q
   ·exact(f3 b hb).2.1 q
   ·exact(f3 b hb).2.2.1 q
 have hlen0:(atStart φ σ).length=N'.length:=by unfold atStart;rw[Z1];exact S.len
 have I4:Inv (Q2 X N' sc cl C s3 H3 fp) [] (atStart φ σ) H3 {s3 with heap:=h₁,toks:=s3.toks+([]:List (Str×Value)).length}:=by
  refine⟨OK,rfl,I3.bare,Un.kept old,⟨_,hns₁,fun i x v h1 h2 h3=>?_⟩,fun x c hx=>?_,hH3C,fun x c hx=>I3.freeC x c (p1 x c hx),fun p hp=>?_,I3.hok.kept old,hlen0⟩
  ·obtain⟨j,hj,hv⟩:=UW h2;obtain⟨hN,hfr⟩:=S.pick i x j h1 hj;obtain⟨m,_,hl⟩:=I3.loc;have hm:(x,NameKind.free)∈sc.names:=Ye hfr;have hcell:=S.frees _ hm rfl;obtain⟨u,ru,lk⟩:=hl j x v hN hv (.inr (.inl hcell));refine⟨u,ru,.inr ⟨.inl (TN S.okind hfr hcell),?_⟩⟩;obtain⟨c,hc⟩:=p3 _ hm rfl;rcases lk with⟨hk,_⟩|⟨_,c',hc',hcl'⟩
   ·have hk':X.env.scope.names.lookup x=some .local:=hk;rw[hcell]at hk';cases hk'
   ·have e:=p1 _ _ hc;rw[hc']at e;cases e
    obtain⟨o,ho,hd⟩:=hcl';exact⟨_,hc,o,old _ o ho,hd⟩
  ·obtain⟨v,hv⟩:=I3.cell x c (p1 x c hx);obtain⟨o,ho,hd⟩:=hv;exact⟨v,o,old _ o ho,hd⟩
  ·exact absurd hp (by simp[Q2])
 have st4:tn 0 h₁:=T.keep _ _ _ st3' fun b _ o e=>old b o e
 have stat:∀{H':Hp},(∀b∈fp,H' b=none)->∀b∈fp,FpOk (Q2 X N' sc cl C s3 H3 fp) [] H' b:=fun hn b hb=>
  ⟨hn b hb,(OK.exf b hb).1,OK.exfs b hb,.inl hb,(OK.exf b hb).2,fun p hp=>absurd hp (by simp[Q2])⟩
 obtain⟨hPG,hPI,hPE⟩:=hin cl C s3 H3 fp
 have loop:codeAny (model X.prog X.w) X.A (.compLoop (.ListComp elt [⟨tg,iter,ifs,0⟩] sc pos) 0 (.ref it) (.ref D) (compEnvC sc cl C X.env)) (compPost (model X.prog X.w) X.A X.xe use QQ (.ref D) C) {s3 with heap:=h₁,toks:=s3.toks+([]:List (Str×Value)).length}:=by
  refine Sa (fun n s'=>∃i ys σ' H',Inv (Q2 X N' sc cl C s3 H3 fp) [] σ' H' s'/\Sub (atStart φ σ) σ'/\tn i s'.heap/\(∀b∈fp,H' b=none)/\W i n ys H') ?_ m0 ⟨0,[],_,_,I4,Sub.refl,st4,fun b hb=>(f3 b hb).1,w0⟩;rintro n s5 ⟨i,ys,σ5,H5,I5,sub5,st5,fr5,w5⟩;have I5':=Own.Inv.weak I5 sub5;rcases turn i n ys H5 w5 with⟨stop,qn⟩|⟨go,step⟩
  ·refine thn (T.done (Q2 X N' sc cl C s3 H3 fp) rfl rfl rfl hcalm i [] s5 _ H5 _ I5' (stat fr5) st5 stop) fun r s6 ⟨hr,I6⟩=>?_;subst hr;obtain⟨m,hn,_⟩:=I6.loc;obtain⟨hh,gg,dd,tt,oo⟩:=s6;obtain rfl:oo=s3.os:=I6.os;have R:Inv X pins σ H5 {s3 with heap:=hh,gens:=gg,drawn:=dd,toks:=tt}:=I3.call (ch:=fp) (h':=hh) (g':=gg) (d':=dd) (t':=tt) I6.base I6.hok I6.bare fun b hb=>⟨(f3 b hb).2.2.2.1,(f3 b hb).2.1,(f3 b hb).2.2.2.2.1,(f3 b hb).2.2.2.2.2⟩
   have hC3:s3.heap.objs.size<=C:=YA eC;obtain⟨q0,q1,q2,q3,q4,q5⟩:=I3.fpOk (b:=C) (H':=H3) hC3 hH3C;refine fin D C H5 _ qn R ⟨m,hn⟩ I6.free q1 (ZM I3.sz hC3) q4 q5 q2
  ·refine thn (T.item (Q2 X N' sc cl C s3 H3 fp) rfl rfl rfl hcalm i [] s5 _ H5 _ I5' (stat fr5) st5 go) fun r s6 ⟨u,hr,h6⟩=>?_;subst hr;refine thn h6 fun _ s7 ⟨x,H7,I7,r7,y7,st7,fr7⟩=>?_;have I7':=I7.pinned (stat fr7) (T.obj _ _ st7);refine thn (hPG _ s7 _ H7 x u _ I7' r7 (step x H7 y7)) fun _ s8 ⟨σ8,H8,I8,sub8,q8⟩=>?_;refine thn (hPI _ s8 σ8 H8 _ I8 q8) fun ok s9 ⟨H9,I9,q9⟩=>?_
   have again:∀{s10:Shared} {H10:Hp} {ys':List V} {m':Nat},Inv (Q2 X N' sc cl C s3 H3 fp) ([]++Jq fp s7.heap) σ8 H10 s10->W (i+1) m' ys' H10->∃i ys σ' H',Inv (Q2 X N' sc cl C s3 H3 fp) [] σ' H' s10/\Sub (atStart φ σ) σ'/\tn i s10.heap/\(∀b∈fp,H' b=none)/\W i m' ys H':=fun {s10 H10 ys' m'} J10 w10=>by
    refine⟨i+1,ys',σ8,H10,J10.unpinned,sub8,T.keep _ _ _ st7 fun b hb o e=>(J10.pin (b,o) (ZE _ (ZE _ (JP hb e)))).1,fun b hb=>?_,w10⟩;obtain⟨o,e,d⟩:=T.obj _ _ st7 b hb;exact(J10.pin (b,o) (ZE _ (ZE _ (JP hb e)))).2.1
   cases ok with
   |false=>
    obtain⟨m',hm,w'⟩:=q9;exact⟨m',hm,again I9 w'⟩
   |true=>
    refine thn (hPE _ s9 σ8 H9 _ I9 q9) fun xv s10 ⟨y,H10,I10,r10,hD,hl,m',hm,w'⟩=>?_;refine thn (Jy _ s10 σ8 H10 (.ref D) [y] (.ref D) [xv] (fun _ H11=>H11=upd H10 D (.lst (ys++[y]))) I10 rfl (.cons r10 .nil) ⟨D,ys,y,rfl,rfl,hD,hl,rfl⟩) fun _ s11 ⟨_,H11,I11,_,e11⟩=>?_;subst e11;exact⟨m',hm,again I11 w'⟩
 refine codeAny_compStart_list loop (T.self _ 0 _ _ _ st4 loop)
def Jm{X:Cx}{N':List Str}{φ:List (Option Nat)}{sc:Scope}{elt iter tg:Expr}{ifs:List Expr}{pos:Pos}{wi:TI}{g:TG}{tc:TT}{te:TE}(hcalm:X.calm=true)(S:CompOk X N' φ sc)(hi:PI X tg iter wi)(hin:∀cl C s₃ H₃ ex,PG (Q2 X N' sc cl C s₃ H₃ ex) tg g/\PIfs (Q2 X N' sc cl C s₃ H₃ ex) ifs tc/\PE (Q2 X N' sc cl C s₃ H₃ ex) elt te)(hs:∀x,foldedSetIterable iter X.env x=pure x:=by intro _;rfl):PE X (.ListComp elt [⟨tg,iter,ifs,0⟩] sc pos) (J4 φ wi g tc te):=by
 intro pins s σ H Q I h;rw[eval_ListComp];refine Tr (use:=none) hcalm S hi hin hs I h fun D C H5 s6 q R hm c0 c1 c2 c3 c4 c5=>?_;obtain⟨m,hn⟩:=hm;exact⟨m,hn,fun h' sb=>⟨.ref D,H5,R.turned (it:=C) (t':=s6.toks) (fun b o hb e=>sb.extBut b o hb e) c0 c1 (.inr c2) c3 c4,rfl,q⟩⟩
def UO{X:Cx}{N':List Str}{φ:List (Option Nat)}{sc:Scope}{elt iter tg:Expr}{ifs:List Expr}{pos spos py:Pos}{wi:TI}{g:TG}{tc:TT}{te:TE}{i:Nat}{y:Str}(hN:X.N.Nodup)(hy:X.N[i]?=some y)(hl:X.env.scope.names.lookup y=some .local)(hcalm:X.calm=true)(S:CompOk X N' φ sc)(hi:PI X tg iter wi)(hin:∀cl C s₃ H₃ ex,PG (Q2 X N' sc cl C s₃ H₃ ex) tg g/\PIfs (Q2 X N' sc cl C s₃ H₃ ex) ifs tc/\PE (Q2 X N' sc cl C s₃ H₃ ex) elt te)(hs:∀x,foldedSetIterable iter X.env x=pure x:=by intro _;rfl)(hsw:swapsWith (.ListComp elt [⟨tg,iter,ifs,0⟩] sc pos) (some (.Name y py)) spos.line X.env=pure true:=by rfl) :
  PS X (.Assign [.Name y py] (.ListComp elt [⟨tg,iter,ifs,0⟩] sc pos) spos) (tAsg (J4 φ wi g tc te) (Vw i)):=by
 intro pins s σ H D0 I h;rw[exec_Assign_Name_used _ _ _ _ hsw];refine Z0 (wpAny_standAt (Z0 ?_));show wpAny _ X.A (do let _ ←comprehension (.ListComp elt [⟨tg,iter,ifs,0⟩] sc pos) sc X.env _ (newList []) false (eval iter X.env) (some (assign (.Name y py) X.env))) _ _ s
 refine Z0 (Yh (Tr (use:=some (assign (.Name y py) X.env)) (QQ:=fun _ s'=>SP X pins D0 .next s') hcalm S hi hin hs I h fun D C H5 s6 q R hm c0 c1 c2 c3 c4 c5=>?_) (fun _ s' z=>Z3 (Z3 z)) fun _ _ e=>e);obtain⟨m,oC,es,ep,hoC,hdC,rC⟩:=hm
 have R2:Inv X (pins++[(C,oC)]) σ H5 s6:=R.pins_of fun p hp=>(Yp.mp hp).elim (fun z=>R.pin p (ZE _ z)) fun z=>by
  rw[ZJ.mp z];exact⟨hoC,c0,c1,c5,fun v e=>by rw[hdC]at e;cases e⟩
 show wpAny _ X.A (assign (.Name y py) X.env (.ref D)) _ _ _;refine wpAny_assign_Name (JN R2 hN hy (.inl hl) (v:=.ref D) (u:=.ref D) rfl (fun s7 I7=>?_) (.inr hl));have hC7:=(I7.pin (C,oC) (ZE _ (ZE _ (ZJ.mpr rfl)))).1;refine⟨m,⟨oC,es,ep,hC7,hdC,rC⟩,fun h' sb=>?_⟩;have I8:Inv X pins (σ.set i (some (.ref D))) H5 s7:=I7.unpinned;exact⟨_,H5,I8.turned (it:=C) (t':=s7.toks) (fun b o hb e=>sb.extBut b o hb e) c0 c1 (.inr c2) c3 c4,q⟩
def Pg(sc osc:Scope)(N N':List Str)(φ:List (Option Nat)):Bool:=
 sc.kind == .function&&osc.kind == .function&&(sc.names.all fun y=>y.2 != .cell&&(y.2 != .local || sc.names.lookup y.1==some .local)&&(y.2 != .free || osc.names.lookup y.1==some .cell)) &&
  φ.length==N'.length&&((N'.zip φ).all fun p=>match p.2 with|none=>true|some j=>N[j]? == some p.1&&sc.names.lookup p.1==some .free)
def CompOk.of {X:Cx}{N':List Str}{φ:List (Option Nat)}{sc:Scope} (h:Pg sc X.env.scope X.N N' φ=true):CompOk X N' φ sc:=by
 unfold Pg at h;simp only[Yj,beq_iff_eq,Y7,Bool.or_eq_true,bne_iff_ne,ne_eq]at h;obtain⟨⟨⟨⟨h1,h2⟩,h3⟩,h4⟩,h5⟩:=h;refine⟨h1,h2,fun y hy=>(h3 y hy).1.1,fun y hy hl=>?_,fun y hy hf=>?_,h4,fun i x j hi hj=>?_⟩
 ·rcases(h3 y hy).1.2 with z|z
  ·exact absurd hl z
  ·exact z
 ·rcases(h3 y hy).2 with z|z
  ·exact absurd hf z
  ·exact z
 ·have hz:(N'.zip φ)[i]?=some (x,some j):=by rw[List.getElem?_zip_eq_some];exact⟨hi,hj⟩
  have:=h5 _ (Y5 hz)
  simpa using this
end Own
namespace SetR
open PySem PySem.Spec PyProof.Rows L2
def Ris(xs:Array Nat):Prop:=∀i j,i<j->j<xs.size->xs.getD i 0<xs.getD j 0
def Tz{xs:Array Nat}{i a b:Nat}(h:i<xs.size):xs.getD i a=xs.getD i b:=by simp[Array.getD,h]
def FB{xs:Array Nat}(R:Ris xs)(j:Nat):∀(fuel lo hi:Nat),hi-lo<=fuel->lo<=hi->hi<=xs.size->(∀k,k<lo->xs.getD k 0<j)->(∀k,hi<=k->k<xs.size->j<=xs.getD k 0)->
  let r:=SetTable.below.go xs j fuel lo hi
  r<=xs.size/\(∀k,k<r->xs.getD k 0<j)/\∀k,r<=k->k<xs.size->j<=xs.getD k 0:=by
 intro fuel
 induction fuel with
 |zero=>
  intro lo hi h1 h2 h3 h4 h5;have e:lo=hi:=by omega
  subst e;exact⟨h3,h4,h5⟩
 |succ fuel ih=>
  intro lo hi h1 h2 h3 h4 h5;show(let r:=(if lo<hi then(if xs.getD ((lo+hi) / 2) j<j then SetTable.below.go xs j fuel ((lo+hi) / 2+1) hi else SetTable.below.go xs j fuel lo ((lo+hi) / 2))else lo);r<=xs.size/\(∀k,k<r->xs.getD k 0<j)/\∀k,r<=k->k<xs.size->j<=xs.getD k 0);by_cases hl:lo<hi
  ·rw[ZA hl];have hm:(lo+hi) / 2<xs.size:=by omega
   by_cases hc:xs.getD ((lo+hi) / 2) j<j
   ·rw[ZA hc];refine ih _ _ (by omega) (by omega) h3 (fun k hk=>?_) h5;rw[Tz (b:=0) hm]at hc;by_cases e:k=(lo+hi) / 2
    ·rw[e];exact hc
    ·exact YW (R k _ (by omega) hm) hc
   ·rw[Z8 hc];refine ih _ _ (by omega) (by omega) (by omega) h4 (fun k hk hk2=>?_);rw[Tz (b:=0) hm]at hc;by_cases e:k=(lo+hi) / 2
    ·rw[e];omega
    ·have:=R _ k (show(lo+hi) / 2<k by omega) hk2
     omega
  ·rw[Z8 hl];have e:lo=hi:=by omega
   subst e;exact⟨h3,h4,h5⟩
def P0{xs:Array Nat}(R:Ris xs)(j:Nat):SetTable.below xs j<=xs.size/\(∀k,k<SetTable.below xs j->xs.getD k 0<j)/\∀k,SetTable.below xs j<=k->k<xs.size->j<=xs.getD k 0:=
 FB R j xs.size 0 xs.size (by omega) (by omega) (by omega) (fun k hk=>by omega) (fun k h1 h2=>by omega)
def BQ{xs:Array Nat}(R:Ris xs){i:Nat}(hi:i<=xs.size){slot:Nat}(h1:∀k,k<i->xs.getD k 0<slot)(h2:∀k,i<=k->k<xs.size->slot<=xs.getD k 0):SetTable.below xs slot=i:=by
 obtain⟨a,b,c⟩:=P0 R slot;rcases Nat.lt_trichotomy (SetTable.below xs slot) i with h|h|h
 ·have:=c _ (Z4 _) (by omega)
  have:=h1 _ h
  omega
 ·exact h
 ·have:=b i h
  have:=h2 i (Z4 _) (by omega)
  omega
def Rise(xs:Array Nat):Prop:=xs.toList.Pairwise (· < ·)
def Rise.ris {xs:Array Nat} (h:Rise xs):Ris xs:=by
 intro i j hij hj;have hi:i<xs.size:=by omega
 have:=(List.pairwise_iff_getElem.mp h) i j (by simpa using hi) (by simpa using hj) hij
 simpa [Array.getD,hi,hj]using this
def Fp{xs:Array Nat}{j:Nat}(h:Rise xs)(hn:xs[SetTable.below xs j]?≠some j):Rise (SetTable.insertAt xs (SetTable.below xs j) j):=by
 obtain⟨a,b,c⟩:=P0 h.ris j;generalize SetTable.below xs j=p at *;unfold Rise;rw[SetTable.toList_insertAt];refine YK.mpr ⟨h.sublist (WE _ _),ZU.mpr ⟨fun y hy=>?_,h.sublist (List.drop_sublist _ _)⟩,fun x hx y hy=>?_⟩
 ·obtain⟨k,hk,e⟩:=List.mem_drop_iff_getElem.mp hy
  have hk':p+k<xs.size:=by
   simp only[ZW]at hk;omega
  have h1:=c (p+k) (by omega) hk';have e':xs.getD (p+k) 0=y:=by simpa [Array.getD,hk']using e
  rw[e']at h1;rcases Nat.lt_or_ge j y with h2|h2
  ·exact h2
  ·have ey:y=j:=by omega
   exfalso;rcases Nat.eq_zero_or_pos k with rfl|hk0
   ·apply hn;rw[Y4 (by omega)]
    have:xs[p]=y:=by simpa using e
    rw[this,ey]
   ·have h3:=h.ris p (p+k) (by omega) hk';have h4:=c p (Z4 _) (by omega);omega
 ·have hx':x<j:=by
   obtain⟨k,hk,e⟩:=List.mem_take_iff_getElem.mp hx;have hk1:k<p:=by omega
   have hk2:k<xs.size:=by omega
   have:=b k hk1
   have e':xs.getD k 0=x:=by simpa [Array.getD,hk2]using e
   omega
  rcases ZL.mp hy with rfl|hy
  ·exact hx'
  ·obtain⟨k,hk,e⟩:=List.mem_drop_iff_getElem.mp hy
   have hk':p+k<xs.size:=by
    simp only[ZW]at hk;omega
   have h1:=c (p+k) (by omega) hk';have e':xs.getD (p+k) 0=y:=by simpa [Array.getD,hk']using e
   omega
structure Tb (b:Bool) (t:SetTable):Prop where
 led:t.led=b
 dum:t.dummies=#[]
 ris:Rise t.place
def X2(j:Nat):SetTable.has #[] j=false:=by
 unfold SetTable.has;simp
def Tb.fresh (b:Bool):Tb b (.fresh 0 0 b):=⟨rfl,rfl,List.Pairwise.nil⟩
def Av(n:Nat):Rise (Array.range n):=by
 unfold Rise;rw[Array.toList_range];exact List.pairwise_lt_range
def Tb.stand {b:Bool}{t:SetTable} (h:Tb b t) (n:Nat):Tb b (t.standIn n):=⟨h.led,rfl,Av n⟩
def Tb.orStand {b:Bool}{t:SetTable} (h:Tb b t) (n:Nat):Tb b (t.orStandIn n):=by
 unfold SetTable.orStandIn;split
 ·exact h
 ·exact h.stand n
def Tb.plainOff {b:Bool}{t:SetTable} (h:Tb b t):Tb b {t with plain:=false}:=⟨h.led,h.dum,h.ris⟩
def Tb.put {b:Bool}{t:SetTable} (h:Tb b t) {j:Nat} (hn:t.place[SetTable.below t.place j]?≠some j):Tb b (t.put j).1:=by
 refine⟨h.led,?_,Fp h.ris hn⟩;show(if SetTable.has t.dummies j=true then _ else t.dummies)=#[];rw[h.dum,X2];rfl
def Fj{b:Bool}{t:SetTable}(h:Tb b t)(f:Nat->Int)(z:Int):∀(fuel:Nat) (p:SetTable.Probe) (j:Nat) (d:Option Nat),p.dummy=none->SetTable.probe.go t f z fuel p=some (.empty j d)->d=none/\t.place[SetTable.below t.place j]?≠some j:=by
 intro fuel
 induction fuel with
 |zero=>intro p j d _ e;cases e
 |succ fuel ih=>
  intro p j d hp e;unfold SetTable.probe.go at e
  have hadv:∀q:SetTable.Probe,q.dummy=none->(t.advance q).dummy=none:=fun q hq=>by
   unfold SetTable.advance;split
   ·exact hq
   ·exact hq
  cases es:t.slot p.j with
  |empty=>
   rw[es]at e;have e':=Z6 e;injection e' with e1 e2;subst e1;refine⟨e2.symm.trans hp,fun hz=>?_⟩;unfold SetTable.slot at es
   dsimp only at es
   rw[hz]at es;simp at es
  |dummy=>
   exfalso;unfold SetTable.slot at es
   dsimp only at es
   split at es
   ·cases es
   ·rw[h.dum,X2]at es;simp at es
  |live i=>
   rw[es]at e
   dsimp only at e
   split at e
   ·cases e
   ·exact ih _ j d (hadv p hp) e
def Tb.layNew {b:Bool}{t:SetTable} (h:Tb b t) (es:Array (Int×Value)) (z:Int) (x:Value):Tb b (PySem.layNew t es z x).2.1:=by
 unfold PySem.layNew;split
 ·rename_i slot wasDummy e
  have hn:t.place[SetTable.below t.place slot]?≠some slot:=by
   unfold SetTable.freeSlot SetTable.probe at e;split at e
   ·rename_i j dummy e';obtain⟨h1,h2⟩:=Fj h _ _ _ _ _ _ rfl e';subst h1
    have:=Z6 e
    have hj:j=slot:=Yd Prod.fst this;rw[←hj];exact h2
   ·cases e
  exact(h.put hn).orStand _
 ·exact h.stand _
def CH(n:Nat)(f:Nat->Option Nat):((List.range n).filterMap fun j=>(f j).map (j,·)).Pairwise (fun a b=>a.1<b.1):=by
 refine List.Pairwise.filterMap _ ?_ List.pairwise_lt_range;intro a a' haa b hb b' hb';cases e:f a with
 |none=>rw[e]at hb;cases hb
 |some v=>
  cases e':f a' with
  |none=>rw[e']at hb';cases hb'
  |some v'=>
   rw[e]at hb;rw[e']at hb';cases hb
   cases hb'
   exact haa
def Tb.relayAll {b:Bool}{t:SetTable} (h:Tb b t) (es:Array (Int×Value)) (n:Nat):Tb b (PySem.relayAll t es n).2.1:=by
 unfold PySem.relayAll;split
 ·rename_i t' order e
  dsimp only
  split
  ·unfold SetTable.relaid SetTable.laid at e;cases e2:SetTable.layClean (SetTable.sizeAbove n-1) (es.map (·.1))with
   |none=>rw[e2]at e;cases e
   |some owner=>
    rw[e2]at e;have e':=Yd Prod.fst (Z6 e);subst e';refine⟨h.led,rfl,?_⟩;show(List.map (fun x:Nat×Nat=>x.fst) ((List.range (SetTable.sizeAbove n-1+1)).filterMap fun j=>(owner.getD j none).map (j,·))).toArray.toList.Pairwise (· < ·);rw[List.toList_toArray,YT];exact CH _ _
  ·exact h.stand _
 ·exact h.stand _
def keyOf(e:Int×Value):Int:=match e.2 with
 | .int k _=>k
 |_=>0
def Ent(e:Int×Value):Prop:=∃(k:Int) (t:Tok),e=(hashInt k,.int k t)
section
variable (prog:Program) (w:World)
def QK(w:World):Bool:=w.params.followText "set-order"
structure SetAt (h:Heap) (a:Addr) (js:List Int) (es:Array (Int×Value)) (ep:Nat) (t:SetTable):Prop where
 obj:∃o,h.get? a=some o/\o.ExactSet/\o.data=.set es ep t
 ent:∀e∈es.toList,Ent e
 per:(es.toList.map keyOf).Perm js
 nod:js.Nodup
 few:es.size<scanBound
 fit:t.fits es.size=true
 tab:Tb (!QK w) t
def SetB(h:Heap)(a:Addr)(js:List Int):Prop:=∃es ep t,SetAt w h a js es ep t
end
section
variable {prog:Program}{w:World}{A:Around}{E:Value->Shared->Prop}{s:Shared}
def Ent.elems {l:List (Int×Value)} (h:∀e∈l,Ent e):ElemsOf (intKind prog w) l:=fun e he=>by
 obtain⟨k,t,rfl⟩:=h e he;exact⟨⟨k,intKind_is _ _ _ _,rfl⟩,rfl⟩
def TK{e:Int×Value}(h:Ent e)(k:Int):(intKind prog w).is k e.2=decide (k=keyOf e):=by
 obtain⟨k',t,rfl⟩:=h;show Value.isInt k (.int k' t)=decide (k=k');by_cases e:k=k'
 ·subst e;simp[Value.isInt]
 ·rw[ZI e];simp[Value.isInt];exact fun z=>e z.symm
def SetB.len {h:Heap}{a:Addr}{js:List Int}{es:Array (Int×Value)}{ep:Nat}{t:SetTable} (S:SetAt w h a js es ep t):es.size=js.length:=by
 have:=S.per.length_eq
 simpa using this
def SetB.at {h h':Heap}{a:Addr}{js:List Int} (S:SetB w h a js) (k:∀o,h.get? a=some o->h'.get? a=some o):SetB w h' a js:=by
 obtain⟨es,ep,t,⟨o,ho,r⟩,b,c,d,e,f,g⟩:=S;exact⟨es,ep,t,⟨o,k o ho,r⟩,b,c,d,e,f,g⟩
def SetAt.store {h:Heap}{a:Addr}{js js':List Int}{es es':Array (Int×Value)}{ep:Nat}{t t':SetTable} (S:SetAt w h a js es ep t) (h1:∀e∈es'.toList,Ent e) (h2:(es'.toList.map keyOf).Perm js') (h3:js'.Nodup) (h4:es'.size<scanBound)
  (h5:t'.fits es'.size=true) (h6:Tb (!QK w) t'):SetAt w (h.update a (Obj.putSet es' t')) a js' es' (ep+1) t':=by
 obtain⟨o,ho,hx,hd⟩:=S.obj;refine⟨⟨{o with data:=.set es' (ep+1) t'},?_,hx,rfl⟩,h1,h2,h3,h4,h5,h6⟩
 have q:=Yf (Obj.putSet es' t') ho (by rw[putSet_of es' t' hd];rfl);rwa[putSet_of es' t' hd]at q
def XT{g:Bool->Sem Unit}(hg:∀(b:Bool) (s':Shared) (R':Unit->Shared->Prop),R' () s'->wpAny (model prog w) A (g b) R' E s'){a:Addr}{js js':List Int}{es es':Array (Int×Value)}{ep:Nat}{t t':SetTable}(S:SetAt w s.heap a js es ep t)(h1:∀e∈es'.toList,Ent e)(h2:(es'.toList.map keyOf).Perm js')(h3:js'.Nodup)(h4:es'.size<scanBound)(h5:t'.fits es'.size=true)(h6:Tb (!QK w) t'){d:Bool}{R:Option Bool->Shared->Prop}(fin:∀h',Heap.SameBut a s.heap h'->SetB w h' a js'->R (some true) {s with heap:=h'}) :
  wpAny (model prog w) A (do
    storeSet a es' t'
    if (!d&&t'.tooFull)=true then do
      g (relayAll t' es' (SetTable.grown es'.size)).2.2
      storeSet a (relayAll t' es' (SetTable.grown es'.size)).1 (relayAll t' es' (SetTable.grown es'.size)).2.1
      pure (some true)
     else pure (some true)) R E s:=by
 obtain⟨o,ho,hx,hd⟩:=S.obj;have S1:=S.store h1 h2 h3 h4 h5 h6;obtain⟨o1,ho1,hx1,hd1⟩:=S1.obj;have B1:=ZZ s.heap a (Obj.putSet es' t');refine Z0 (wpAny_storeSet_of ho hd ?_ (Wr h4));split
 ·have pp:=relayAll_perm t' es' (SetTable.grown es'.size);have ff:=relayAll_fits t' es' (SetTable.grown es'.size);have tt:=h6.relayAll es' (SetTable.grown es'.size);generalize relayAll t' es' (SetTable.grown es'.size)=y at pp ff tt ⊢;obtain⟨es2,t2,g2⟩:=y
  dsimp only at pp ff tt ⊢
  have z:es2.size=es'.size:=by rw[←ZW,pp.length_eq,ZW]
  refine Z0 (hg _ _ _ (Z0 (wpAny_storeSet_of ho1 hd1 ?_ (Wr (by rw[z];exact h4)))));exact Z3 (fin _ (B1.trans (ZZ _ a _)) ⟨_,_,_,S1.store (fun e he=>h1 e (pp.mem_iff.mp he)) ((pp.map keyOf).trans h2) h3 (by rw[z];exact h4) ff tt⟩)
 ·exact Z3 (fin _ B1 ⟨_,_,_,S1⟩)
def addJ(js:List Int)(k:Int):List Int:=if k∈js then js else js++[k]
def AD{a:Addr}{js:List Int}{k:Int}{tk:Tok}{R:Bool->Shared->Prop}(S:SetB w s.heap a js)(room:js.length+1<scanBound)(fin:∀(r:Bool) h',Heap.SameBut a s.heap h'->SetB w h' a (addJ js k)->R r {s with heap:=h'}) :
  wpAny (model prog w) A (setAddHashed a (.int k tk) (hashInt k)) R E s:=by
 obtain⟨es,ep,t,S⟩:=S;obtain⟨o,ho,hx,hd⟩:=S.obj;have el:=Ent.elems (prog:=prog) (w:=w) S.ent;have hz:es.size=js.length:=SetB.len S;unfold setAddHashed setAddHashedIn;refine Yu (Z0 (YI ho hd S.fit ?_))
 dsimp only
 rw[byScan_of (x:=.int k tk) rfl S.few el];simp only[↓reduceIte];unfold setAddByScan;refine Z0 (Z0 (wpAny_rule (Z0 (wpAny_setScan_of (knd:=intKind prog w) (k:=k) (intKind_is _ _ _ _) ho hd S.fit el ?_))));have mem:∀z:Int,z∈js↔∃e∈es.toList,keyOf e=z:=fun z=>by rw[←S.per.mem_iff,YB]
 cases q:List.findIdx? (fun e=>(intKind prog w).is k e.2) es.toList with
 |some j=>
  dsimp only
  obtain⟨hj,pj,_⟩:=List.findIdx?_eq_some_iff_getElem.mp q
  have hk:k∈js:=by
   rw[TK (S.ent _ (ZP hj))]at pj;exact(mem k).mpr ⟨_,ZP hj,(Yg pj).symm⟩
  refine Z3 (Z3 ?_);have f:=fin false s.heap (Heap.SameBut.refl a s.heap);unfold addJ at f;rw[ZA hk]at f;exact f ⟨_,_,_,S⟩
 |none=>
  dsimp only
  have hk:¬k∈js:=fun hz=>by
   obtain⟨e,he,hke⟩:=(mem k).mp hz
   have:=List.findIdx?_eq_none_iff.mp q e he
   rw[TK (S.ent e he),ZF hke.symm]at this;cases this
  have P:=layNew_perm t es (hashInt k) (.int k tk);have F:=layNew_fits t es (hashInt k) (.int k tk);have T:=S.tab.layNew es (hashInt k) (.int k tk);change wpAny (model prog w) A (match layNew t es (hashInt k) (.int k tk)with|(es,t,wasDummy,gave)=>_) _ _ _
  generalize layNew t es (hashInt k) (.int k tk)=y at P F T ⊢;obtain⟨es1,t1,d1,g1⟩:=y
  dsimp only at P F T ⊢
  rw[Array.toList_push]at P
  have e1:∀e∈es1.toList,Ent e:=fun e he=>by
   rcases Yp.mp (P.mem_iff.mp he)with he|he
   ·exact S.ent e he
   ·rw[ZJ.mp he];exact⟨k,tk,rfl⟩
  have e2:(es1.toList.map keyOf).Perm (js++[k]):=by
   refine(P.map keyOf).trans ?_;rw[ZX];exact S.per.append_right _
  have e3:(js++[k]).Nodup:=Ws.mpr ⟨S.nod,by simp,fun x hx y hy=>by rw[ZJ.mp hy];rintro rfl;exact hk hx⟩
  have e4:es1.size<scanBound:=by
   rw[←ZW,P.length_eq,Yi,ZW,hz];exact room
  have fin':∀h',Heap.SameBut a s.heap h'->SetB w h' a (js++[k])->R true {s with heap:=h'}:=fun h' sb q'=>by
   have f:=fin true h' sb;unfold addJ at f;rw[Z8 hk]at f;exact f q'
  have gw:∀(b:Bool) {s':Shared} {R':Unit->Shared->Prop},R' () s'->wpAny (model prog w) A (match b with|true=>rule "set.scan.the-table-gave-way" |false=>pure ()) R' E s':=fun b s' R' r'=>by cases b<;>first|exact Z3 r'|exact wpAny_rule r'
  refine Z0 (gw _ ?_);split
  ·refine Z0 ?_;rw[hashByValue_scannable 8 (x:=.int k tk) rfl];refine Z3 (XT (fun b s' R' r'=>gw b r') S e1 e2 e3 e4 ?_ ?_ fun h' sb q'=>Z3 (fin' h' sb q'))
   ·split
    ·exact F
    ·exact SetTable.fits_plain_off F
   ·split
    ·exact T
    ·exact T.plainOff
  ·refine Z0 (Z3 ?_);simp only[↓reduceIte];exact XT (fun b s' R' r'=>gw b r') S e1 e2 e3 e4 F T fun h' sb q'=>Z3 (fin' h' sb q')
def Ao{R:Result->Shared->Prop}{I:Addr}{fp wr:List Addr}{P:Nat->Value->Prop}{St:Nat->Heap->Prop}{ns:List Int}(W:Walks prog w A.in1 I fp wr ns.length P St)(S:Addr)(hS:S∉fp)(hv:∀i v,P i v->∃t,v=.int (ns.getD i 0) t)(room:ns.length+1<scanBound):∀(k i:Nat) (s:Shared) (js:List Int),ns.length-i=k->i<=ns.length->St i s.heap->SetB w s.heap S js->js.length<=i->
   (∀h' tk,(∀b o,b∉S::wr->s.heap.get? b=some o->h'.get? b=some o)->SetB w h' S ((ns.drop i).foldl addJ js)->R (.ok (.ret .none)) {s with heap:=h',toks:=tk})->
   codeAny (model prog w) A (.builtin "set.update.loop" ⟨[.ref S,.ref I],[]⟩) R s:=by
 have hSw:S∉wr:=fun z=>hS (W.sub _ z);intro k
 induction k with
 |zero=>
  intro i s js hk hi st B hj fin;have ei:i=ns.length:=by omega
  refine YR Wl ?_;rw[YL YC _];show wpAny _ A.in1 (pyNext (.ref I) >>= _) _ _ s;refine Z0 (W.done s _ _ (ei▸st) fun h' tk keep=>?_);show wpAny _ A.in1 (ret Value.none) _ _ _;refine Z3 (fin h' tk (fun b o hb e=>keep b o (fun z=>hb (ZH _ z)) e) ?_);rw[ei,List.drop_length];exact B.at fun o e=>keep S o hSw e
 |succ k ih=>
  intro i s js hk hi st B hj fin;have hlt:i<ns.length:=by omega
  refine YR Wl ?_;rw[YL YC _];show wpAny _ A.in1 (pyNext (.ref I) >>= _) _ _ s;refine Z0 (W.item i s _ _ hlt st fun v h1 tk1 pv st1 keep1=>?_);obtain⟨t,rfl⟩:=hv i v pv;have B1:SetB w h1 S js:=B.at fun o e=>keep1 S o hSw e;show wpAny _ A.in1 (holding [Value.int (ns.getD i 0) t] (setAdd S (.int (ns.getD i 0) t)) >>= _) _ _ _;unfold setAdd;refine Z0 (Yu (Yu (Z0 ((intKind prog w).pyHash (k:=ns.getD i 0) (intKind_is _ _ _ _) ?_))));refine AD (k:=ns.getD i 0) B1 (by omega) fun r h2 sb B2=>?_
  have el:(addJ js (ns.getD i 0)).length<=i+1:=by
   unfold addJ;split
   ·omega
   ·simp;omega
  refine Z3 ⟨Wy YC _,ih (i+1) _ _ (by omega) hlt (W.frame _ h1 _ st1 fun b hb o e=>?_) B2 el fun h' tk keep B'=>?_⟩
  ·rw[sb.2 b (fun z:b=S=>hS (by rw[←z];exact hb))];exact e
  ·refine fin h' tk (fun b o hb e=>keep b o hb ?_) ?_
   ·rw[sb.2 b (fun z:b=S=>hb (by rw[z];exact ZK))];exact keep1 b o (fun z=>hb (ZH _ z)) e
   ·have e1:ns.drop i=ns.getD i 0::ns.drop (i+1):=by
     rw[Ya hlt,Zz,Zy hlt];rfl
    rw[e1];exact B'
def SQ(a:Value){Q:Value->Shared->Prop}(fin:Q (.ref s.heap.objs.size) {s with heap:=s.heap.push {cls:=.type "set",dict:=none,data:=.set #[] 0 (.fresh 0 0 (!QK w))}}) :
  codeAny (model prog w) A (.call (.builtin "set.__new__") ⟨[.type "set",a],[]⟩) (wants Q E) s:=by
 refine codeAny_of_tree (show wpAny _ A.in1 (do checkBuiltinCall "set.__new__" ⟨[.type "set",a],[]⟩;again (.builtin "set.__new__" ⟨[.type "set",a],[]⟩)) _ _ s from ?_)
 refine Z0 (wpAny_of_eq (F.newCall_set_1 a) (Z3 ⟨Wy F.plain_set_new _,YR F.entry_set_new ?_⟩));have und:=YL (A:=A) F.plain_set_new ⟨[.type "set",a],[]⟩;rw[und];unfold Builtin.«set.__new__» Builtin.Frozenset.newClass;have q1:=sub_set_self;obtain⟨hh,gg,dd,tt,oo⟩:=s
 dsimp only
 wp_walk
 refine wpAny_askSetting (Z3 (show wpAny _ _ _ _ _ _ from ?_))
 dsimp only
 simp only[newObj];exact Z0 (wpAny_alloc (Z3 (Z3 fin)))
set_option maxHeartbeats 4000000 in
def SA{l:Addr}{its:Array Value}{ns:List Int}{Q:Value->Shared->Prop}(hh:A.handled=none)(hl:s.heap.IsList l its)(hi:IntsAre its.toList ns)(room:ns.length+1<scanBound)(fin:∀(h':Heap) (tk:Nat),SetB w h' s.heap.objs.size (ns.foldl addJ [])->(∀b o,b<s.heap.objs.size->s.heap.get? b=some o->h'.get? b=some o)->Q (.ref s.heap.objs.size) {s with heap:=h',toks:=tk}) :
  wpAny (model prog w) A (call (.type "set") [.ref l]) Q E s:=by
 have hn:its.size=ns.length:=by have:=IntsAre.length hi;simpa using this
 obtain⟨mroC,mroT,mro⟩:=F.called_set.mro;have made:=F.called_set.made;have subs:=F.called_set.sub;refine wpAny_call (codeAny_of_tree (show wpAny _ _ (callAny (.type "set") _) _ _ _ from ?_))
 refine Z3 ⟨Code.quiet_builtin _ (by decide +kernel),YR F.entry_type_call ?_⟩;have wt:=Around.under_plain (A:=A) (weight_type_call_type "set" [.ref l] []) rfl;rw[wt];have nt:=F.called_set.notType;have cc:=F.called_set.canCreate;have tc:=F.typeCall_set_1 (.ref l)
 repeat (any_goals (first|assumption|wp_step))
 refine Wj (SQ (.ref l) (E:=E) (Q:=fun obj s1=>obj=.ref s.heap.objs.size/\s1={s with heap:=s.heap.push {cls:=.type "set",dict:=none,data:=.set #[] 0 (.fresh 0 0 (!QK w))}}) ⟨rfl,rfl⟩) fun r s1 hr=>?_
 cases r with
 |error e=>exact hr
 |ok fl=>
  cases fl with
  |next=>exact hr.elim
  |brk=>exact hr.elim
  |cont=>exact hr.elim
  |ret obj=>
   obtain⟨rfl,rfl⟩:=hr;generalize eH:s.heap.push {cls:=.type "set",dict:=none,data:=.set #[] 0 (.fresh 0 0 (!QK w))}=H1;have g1:H1.get? s.heap.objs.size=some {cls:=.type "set",dict:=none,data:=.set #[] 0 (.fresh 0 0 (!QK w))}:=by rw[←eH];exact Z9 _ rfl
   have hT:Shared.TypeIs {s with heap:=H1} (.ref s.heap.objs.size) "set":=⟨_,g1,rfl⟩
   have ini:=F.called_set.init.lookup;have inb:=F.called_set.init.bind (.ref s.heap.objs.size)
   repeat (any_goals (first|assumption|wp_step))
   refine Wj (codeAny_call_builtin (R:=wants (fun r s2=>r=.none/\∃h' tk,s2={s with heap:=h',toks:=tk}/\SetB w h' s.heap.objs.size (ns.foldl addJ [])/\(∀b o,b<s.heap.objs.size->s.heap.get? b=some o->h'.get? b=some o)) E)
    F.called_set.init.plain F.entry_set_init (check_set_init_1 hT ?_)) fun r2 s2 hr2=>?_
   ·obtain⟨ob,hob,hcl,nl,hdl⟩:=hl;obtain⟨c1,d1,dt1,sl1⟩:=ob;simp only at hcl hdl;subst hcl;subst hdl;have hob1:H1.get? l=some {cls:=.type "list",dict:=d1,data:=.seq its nl,slots:=sl1}:=by rw[←eH];exact Z2 _ hob
    have sz1:H1.objs.size=s.heap.objs.size+1:=by rw[←eH,Heap.size_push]
    have no1:=F.sub_list_set;have no2:=F.sub_list_frozenset;have no3:(Value.type "list" == Value.type "dict")=false:=by decide
    have L1:H1.IsList l its:=⟨_,hob1,rfl,nl,rfl⟩;unfold Builtin.«set.__init__» noKeywords Builtin.Frozenset.updateFrom;generalize eP:pyIter=PI
    wp_walk
    subst eP;refine wpAny_pyIter_list L1 (Z0 (wpAny_runValue ?_));have lt1:l<s.heap.objs.size:=Z5 hob;have hd3:A.in1.in1.in1.handled=none:=by simp[hh]
    have ne1:l≠H1.objs.size:=by rw[sz1];exact ZN (Wt lt1)
    have no4:s.heap.objs.size∉[H1.objs.size,l]:=by
     rw[sz1];simp only[ZL,Wz,or_false,not_or];exact⟨ZN (Nat.lt_succ_self _),WH lt1⟩
    have W0:=Walks.list (prog:=prog) (w:=w) hd3 H1.objs.size l ne1 its;rw[hn]at W0;refine Ao (ns:=ns) W0 s.heap.objs.size no4 (fun i v hv=>IntsAre.int_at hi i v (by rw[Yq];exact hv)) room (ns.length-0) 0 _ [] rfl (Yo _) ⟨⟨_,Z9 _ rfl,rfl,rfl⟩,L1.push _⟩ ?_ (Yo _) fun h' tk keep B=>?_
    ·exact⟨#[],0,_,⟨_,Z2 _ g1,⟨rfl,rfl,rfl⟩,rfl⟩,fun e he=>by simp at he,by simp,List.nodup_nil,by show(0:Nat)<4096;decide,rfl,Tb.fresh _⟩
    ·show wpAny _ _ _ _ _ _;refine Z3 (show wpAny _ _ (ret Value.none) _ _ _ from Z3 ⟨rfl,h',tk,rfl,B,fun b o hb e=>?_⟩)
     refine keep b o ?_ (Z2 _ (by rw[←eH];exact Z2 _ e));rw[sz1];simp only[ZL,Wz,or_false,not_or];exact⟨ZN hb,ZN (Wt hb)⟩
   ·cases r2 with
    |error e=>exact hr2
    |ok f2=>
     cases f2 with
     |next=>exact hr2.elim
     |brk=>exact hr2.elim
     |cont=>exact hr2.elim
     |ret r=>
      obtain⟨rfl,h',tk,rfl,B,keep⟩:=hr2
      repeat (any_goals (first|assumption|wp_step))
      exact fin _ _ B keep
end
def si_slot:Slot "set_iterator" "__next__" "set_iterator.__next__":=
 Slot.of (owner:="set_iterator") (n:="__next__") (by rw[typeLookup_type,builtinLookup_eq_fast];kernel_rfl) (by decide +kernel) (by decide +kernel) (by decide +kernel)
  (by first|exact Or.inl (by decide +kernel)|exact Or.inr (by decide +kernel)) (by rw[isSubtype_type];kernel_rfl)
def Bu:entryFor table "set_iterator.__next__"=some Builtin.«set_iterator.__next__»:=entryFor_of_tree (by kernel_rfl)
def NW(a:Value):argsOk "set_iterator.__next__" ⟨[a],[]⟩:=by unfold argsOk;kernel_rfl
def SJ:entryFor table "set.__iter__"=some Builtin.«frozenset.__iter__»:=entryFor_alias (id':="frozenset.__iter__") (by kernel_rfl) rfl (by decide +kernel) (by kernel_rfl)
def Ph:Slot "set_iterator" "__iter__" "set_iterator.__iter__":=
 Slot.of (owner:="set_iterator") (n:="__iter__") (by rw[typeLookup_type,builtinLookup_eq_fast];kernel_rfl) (by decide +kernel) (by decide +kernel) (by decide +kernel)
  (by first|exact Or.inl (by decide +kernel)|exact Or.inr (by decide +kernel)) (by rw[isSubtype_type];kernel_rfl)
def A3:entryFor table "set_iterator.__iter__"=some Builtin.«dict_keyiterator.__iter__»:=entryFor_alias (id':="dict_keyiterator.__iter__") (by kernel_rfl) rfl (by decide +kernel) (by kernel_rfl)
def F9(a:Value):argsOk "set_iterator.__iter__" ⟨[a],[]⟩:=by unfold argsOk;kernel_rfl
def SI(h:Heap)(I a:Addr)(first:Value)(i n ep:Nat):Prop:=∃o,h.get? I=some o/\o.cls=.type "set_iterator"/\o.data=.fields #[first,.int i 0,.ref a,.int n 0,.int ep 0]
section
variable {prog:Program}{w:World}{A:Around}{E:Value->Shared->Prop}{s:Shared}{I a:Addr}{first:Value}{i n ep:Nat}{js:List Int}{es:Array (Int×Value)}{t:SetTable}
def SI.typ (h:SI s.heap I a first i n ep):s.TypeIs (.ref I) "set_iterator":=let ⟨o,ho,hc,_⟩:=h;⟨o,ho,hc⟩
def SI.at {h h':Heap} (x:SI h I a first i n ep) (k:∀o,h.get? I=some o->h'.get? I=some o):SI h' I a first i n ep:=let ⟨o,ho,r⟩:=x;⟨o,k o ho,r⟩
def VM(first:Value)(a I:Addr)(i ep:Int):Sem PySem.Fin:=
 match first with
 |Value.int slot _=>do
  match ←setNext a slot.toNat i.toNat ep.toNat with
  |some (x,next)=>
   setField (.ref I) 0 (rawInt next)
   setField (.ref I) 1 (rawInt (i+1))
   ret x
  |none=>
   setField (.ref I) 2 .none
   raiseNew (←newExc (.type "StopIteration") [])
 |_=>do
  let some places ←seqItems? first|unsupported "internal:set_iterator"
  match places[i.toNat]? with
  |some (.int place _)=>
   let x ←setNextDrawn a place.toNat ep.toNat
   setField (.ref I) 1 (rawInt (i+1))
   ret x
  |some _=>unsupported "internal:set_iterator"
  |none=>
   setField (.ref I) 0 (rawInt 0)
   setField (.ref I) 2 .none
   raiseNew (←newExc (.type "StopIteration") [])
def J2{Q:Option Value->Shared->Prop}(hit:SI s.heap I a first i es.size ep)(S:SetAt w s.heap a js es ep t)
  (body:wpAny (model prog w) A.in1 (VM first a I i ep) (fun fin s'=>∃v,fin=.done (.ret v)/\Q (some v) s')
   (fun e s'=>wpAny (model prog w) A (isInstance e (.type "StopIteration")) (fun b s''=>b=true/\Q none s'') E s') s) :
  wpAny (model prog w) A (pyNext (.ref I)) Q E s:=by
 obtain⟨o,ho,hc,hd⟩:=id hit;obtain⟨ob,hob,hx,hdd⟩:=S.obj;unfold pyNext;refine Z0 (wpAny_attempt (wpAny_callSpecial?_slot (name:=Str.ofString "__next__") hit.typ si_slot (W1 si_slot hit.typ Bu ?_ (NW _))));unfold Builtin.«set_iterator.__next__»;refine Z0 (Z3 (Z0 (wpAny_fieldsOf ho hd ?_)));show wpAny _ _ (setEntries a >>= fun x=>if ((x.size:Int) != (es.size:Int))=true then _ else VM first a I i ep) _ _ s
 refine Z0 (wpAny_setEntries_of hob hdd S.fit ?_);rw[Z8 (by simp)];refine Yh body (fun fin s' h=>?_) fun e s' h=>?_
 ·obtain⟨v,e,q⟩:=h;exact⟨v,e,Z3 q⟩
 ·refine Z0 (Yh h (fun b s'' h2=>?_) fun _ _ z=>z);obtain⟨rfl,q⟩:=h2;exact Z3 q
def KP{Q:Option Value->Shared->Prop}{o:Obj}{vs:Array Value}(hh:A.handled=none)(ho:s.heap.get? I=some o)(hd:o.data=.fields vs)(h2:2<vs.size)(fin:∀h',Heap.ExtBut I s.heap h'->Q none {s with heap:=h'}){R:PySem.Fin->Shared->Prop} :
  wpAny (model prog w) A.in1 (do setField (.ref I) 2 .none;raiseNew (←newExc (.type "StopIteration") [])) R (fun e s'=>wpAny (model prog w) A (isInstance e (.type "StopIteration")) (fun b s''=>b=true/\Q none s'') E s') s:=by
 refine Z0 (YM ho hd h2 (Z0 ?_));simp only[newExc,newTuple];refine Z0 (Yw ?_ (by size_fits));refine Z0 (m:=firstArgMember _ _) (wpAny_of_eq (a:=Value.none) (by first|rfl|(simp only[firstArgMember];rfl)) (Yw ?_ (by size_fits)))
 simp only[raiseNew];refine Z0 (wpAny_handled ?_);have e1:A.in1.handled=none:=hh;rw[e1];refine Z0 (Z3 (wpAny_throw ?_));refine wpAny_isInstance (T:="StopIteration") (b:=true) ⟨_,Z9 _ rfl,rfl⟩ isSubtype_stop ?_;exact⟨rfl,fin _ (((ZZ ..).extBut.push _).push _)⟩
def SI.step1 {o:Obj}{x:Value} (ho:s.heap.get? I=some o) (hc:o.cls=.type "set_iterator") (hd:o.data=.fields #[first,.int i 0,.ref a,.int n 0,.int ep 0]) :
  SI (s.heap.update I (Obj.mapFields (·.setIfInBounds 1 (rawInt ((i:Int)+1))))) I a first (i+1) n ep:=
 ⟨_,Yf _ ho (YE (Ys hd _)),(Obj.cls_mapFields ..).trans hc,by rw[Ys hd];simp[rawInt]⟩
def JE{Q:Bool->Shared->Prop}(h:Q (QK w) s):wpAny (model prog w) A setsByText Q E s:=by
 unfold setsByText;exact Z0 (wpAny_askSetting (Z3 h))
def A8{Q:Option (Value×Nat)->Shared->Prop}{slot:Nat}(S:SetAt w s.heap a js es ep t)(hb:QK w=true)(h:Q (((pickOrder (w.params.setOrder a ep) es)[i]?).map fun e=>(e.2,slot)) s) :
  wpAny (model prog w) A (setNext a slot i ep) Q E s:=by
 obtain⟨ob,hob,hx,hdd⟩:=S.obj;unfold setNext;refine Z0 (YI hob hdd S.fit (Z0 (JE ?_)));rw[hb,ZA rfl]
 dsimp only
 rw[Z8 (by simp)];refine Z0 ?_;unfold setWalk;refine Z0 (YI hob hdd S.fit (Z0 (JE ?_)));rw[hb,ZA rfl];exact Z0 (wpAny_askSetting (Z3 (Z3 h)))
def Bt{Q:Option (Value×Nat)->Shared->Prop}{slot:Nat}(S:SetAt w s.heap a js es ep t)(hb:QK w=false)(hp:(!t.plain&&decide (es.size>1))=false)(h:Q (match es[SetTable.below t.place slot]?,t.place[SetTable.below t.place slot]? with|some (_,x),some j=>some (x,j+1)|_,_=>none) s):wpAny (model prog w) A (setNext a slot i ep) Q E s:=by
 obtain⟨ob,hob,hx,hdd⟩:=S.obj;unfold setNext;refine Z0 (YI hob hdd S.fit (Z0 (JE ?_)));rw[hb,Z8 (by decide)]
 dsimp only
 show wpAny _ _ (if (!t.plain&&decide (es.size>1))=true then _ else _) _ _ _;rw[hp,Z8 (by decide)];refine Z0 (?_:wpAny _ _ (if (!t.led && !es.isEmpty)=true then unsupported "set:maker-not-led" else pure ()) _ _ _);have hl:t.led=true:=by rw[S.tab.led,hb];rfl
 rw[hl,Z8 (by simp)];exact Z3 (Z3 h)
def FC{Q:Value->Shared->Prop}{p:Nat}{e:Int×Value}(S:SetAt w s.heap a js es ep t)(he:es[p]?=some e)(h:Q e.2 s):wpAny (model prog w) A (setNextDrawn a p ep) Q E s:=by
 obtain⟨ob,hob,hx,hdd⟩:=S.obj;unfold setNextDrawn;refine Z0 (YI hob hdd S.fit ?_)
 dsimp only
 rw[Z8 (by simp),he];exact Z3 h
def Bi{Q:Nat->Shared->Prop}{src:Source}{m:Nat}(hm:m≠0)(h:∀k d,k<m->Q k {s with drawn:=d}):wpAny (model prog w) A (choose src m) Q E s:=by
 intro Γ p hΓ;unfold choose;rw[Sem.wp_choose];exact⟨hm,h _ _ (Nat.mod_lt _ (Nat.pos_of_ne_zero hm))⟩
def JB{α:Type}:∀(xs:List α) (k:Nat) (h:k<xs.length),(xs[k]::xs.eraseIdx k).Perm xs
 |x::r,0,_=>List.Perm.refl _
 |x::r,k+1,h=>by
  have hk:k<r.length:=by simpa using h
  have ih:=JB r k hk;show(r[k]::x::r.eraseIdx k).Perm (x::r);exact(List.Perm.swap _ _ _).trans (List.Perm.cons _ ih)
def Fb{α:Type}:∀(m:Nat) (xs:List α) (s:Shared) {Q:List α->Shared->Prop},xs.length=m->(∀ys d,ys.Perm xs->Q ys {s with drawn:=d})->wpAny (model prog w) A (drawOrder m xs) Q E s:=by
 intro m
 induction m with
 |zero=>
  intro xs s Q hl h;have e:xs=[]:=List.length_eq_zero_iff.mp hl;subst e;exact Z3 (h [] s.drawn (List.Perm.refl _))
 |succ m ih=>
  intro xs s Q hl h;cases xs with
  |nil=>simp at hl
  |cons x r=>
   unfold drawOrder;refine Z0 (Bi (by simp) fun k d hk=>?_);rw[Zy hk];refine Z0 (ih _ _ (by rw[Wb hk];simpa using hl) fun ys d2 hp=>Z3 ?_);exact h _ d2 ((List.Perm.cons _ hp).trans (JB _ _ hk))
def SetAt.keep {h h':Heap} (S:SetAt w h a js es ep t) (k:∀o,h.get? a=some o->h'.get? a=some o):SetAt w h' a js es ep t:=by
 obtain⟨⟨o,ho,r⟩,b,c,d,e,f,g⟩:=S;exact⟨⟨o,k o ho,r⟩,b,c,d,e,f,g⟩
def P1{Q:Value->Shared->Prop}(hit:SI s.heap I a first i n ep)(h:Q (.ref I) s):wpAny (model prog w) A (pyIter (.ref I)) Q E s:=by
 refine wpAny_pyIter_slot hit.typ Ph (W1 Ph hit.typ A3 ?_ (F9 _));show wpAny _ _ (ret (.ref I)) _ _ s;exact Z3 ⟨_,rfl, "set_iterator",_,hit.typ,si_slot.lookup,h⟩
def PN(hh:A.handled=none)(I a:Addr)(hne:a≠I)(vs:List Value)(hl:vs.length=es.size)(sl:Nat->Nat)(nx:∀(A:Around) (E:Value->Shared->Prop) (s:Shared) (i:Nat) (Q:Option (Value×Nat)->Shared->Prop),i<=es.size->SetAt w s.heap a js es ep t->Q ((vs[i]?).map fun v=>(v,sl (i+1))) s->wpAny (model prog w) A (setNext a (sl i) i ep) Q E s) :
  Walks prog w A I [I,a] [I] es.size (fun i v=>vs[i]?=some v) (fun i h=>SI h I a (.int (sl i) 0) i es.size ep/\SetAt w h a js es ep t) where
 sub:=fun b hb=>by simp at hb;simp[hb]
 frame:=fun _ _ _ st k=>⟨st.1.at fun o e=>k I (by simp) o e,st.2.keep fun o e=>k a (by simp) o e⟩
 item:=fun i s Q E hi st fin=>by
  obtain⟨o,ho,hc,hd⟩:=id st.1;refine J2 st.1 st.2 ?_;unfold VM
  dsimp only
  rw[ZQ,ZQ,ZQ];refine Z0 (nx _ _ s i _ (Wi hi) st.2 ?_);have hi2:i<vs.length:=by omega
  rw[Zy hi2];show wpAny _ _ (do setField (.ref I) 0 (rawInt (sl (i+1)));setField (.ref I) 1 (rawInt ((i:Int)+1));ret vs[i]) _ _ s
  refine Z0 (YM ho hd (by simp) ?_);have g1:=Yf (Obj.mapFields (·.setIfInBounds 0 (rawInt (sl (i+1):Int)))) ho (YE (Ys hd _));have d1:(Obj.mapFields (·.setIfInBounds 0 (rawInt (sl (i+1):Int))) o).data=.fields #[.int (sl (i+1)) 0,.int i 0,.ref a,.int es.size 0,.int ep 0]:=by rw[Ys hd];simp[rawInt]
  refine Z0 (YM g1 d1 (by simp) ?_);have sb:=(ZZ s.heap I (Obj.mapFields (·.setIfInBounds 0 (rawInt (sl (i+1):Int))))).trans (ZZ _ I (Obj.mapFields (·.setIfInBounds 1 (rawInt ((i:Int)+1)))));refine Z3 ⟨_,rfl,fin vs[i] _ s.toks (Zy hi2) ⟨?_,st.2.keep fun o e=>sb.extBut a o hne e⟩ fun b o hb e=>sb.extBut b o (fun z=>hb (by simp[z])) e⟩;exact SI.step1 (s:={s with heap:=_}) (x:=.none) g1 ((Obj.cls_mapFields ..).trans hc) d1
 done:=fun s Q E st fin=>by
  obtain⟨o,ho,hc,hd⟩:=id st.1;refine J2 st.1 st.2 ?_;unfold VM
  dsimp only
  rw[ZQ,ZQ,ZQ];refine Z0 (nx _ _ s es.size _ (Z4 _) st.2 ?_);rw[W3 (by omega)];exact KP hh ho hd (by simp) fun h' eb=>fin h' s.toks fun b o hb e=>eb b o (fun z=>hb (by simp[z])) e
 self:=fun _ _ _ _ st fin=>P1 st.1 fin
def Ny(hh:A.handled=none)(I a T:Addr)(hne:a≠I)(hT:T≠I)(ps:List Nat)(hl:ps.length=es.size)(hps:∀p∈ps,p<es.size)(vs:List Value)(hvs:vs=ps.map fun p=>((es[p]?).map (·.2)).getD .none) :
  Walks prog w A I [I,a,T] [I] es.size (fun i v=>vs[i]?=some v) (fun i h=>SI h I a (.ref T) i es.size ep/\SetAt w h a js es ep t/\∃o,h.get? T=some o/\∃c,o.data=.seq (ps.map fun(p:Nat)=>rawInt p).toArray c) where
 sub:=fun b hb=>by simp at hb;simp[hb]
 frame:=fun _ _ _ st k=>⟨st.1.at fun o e=>k I (by simp) o e,st.2.1.keep fun o e=>k a (by simp) o e,let ⟨o,ho,c⟩:=st.2.2;⟨o,k T (by simp) o ho,c⟩⟩
 item:=fun i s Q E hi st fin=>by
  obtain⟨o,ho,hc,hd⟩:=id st.1;obtain⟨oT,hoT,c,hdT⟩:=st.2.2;refine J2 st.1 st.2.1 ?_;unfold VM
  dsimp only
  refine Z0 (wpAny_seqItems hoT hdT ?_);have hi2:i<ps.length:=by omega
  have e1:(ps.map fun(p:Nat)=>rawInt p).toArray[(i:Int).toNat]?=some (.int ps[i] 0):=by
   rw[ZQ,List.getElem?_toArray,ZC,Zy hi2];rfl
  have hp:=hps _ (ZP hi2)
  dsimp only
  rw[e1]
  dsimp only
  have e2:es[ps[i]]?=some es[ps[i]]:=Y4 hp;have e3:vs[i]?=some (es[ps[i]]).2:=by rw[hvs,ZC,Zy hi2];simp[hp]
  rw[ZQ,ZQ];refine Z0 (FC st.2.1 e2 (Z0 (YM ho hd (by simp) ?_)));have sb:=ZZ s.heap I (Obj.mapFields (·.setIfInBounds 1 (rawInt ((i:Int)+1))));exact Z3 ⟨_,rfl,fin _ _ s.toks e3 ⟨SI.step1 (x:=.none) ho hc hd,st.2.1.keep fun o e=>sb.extBut a o hne e,oT,sb.extBut T oT hT hoT,c,hdT⟩ fun b o hb e=>sb.extBut b o (fun z=>hb (by simp[z])) e⟩
 done:=fun s Q E st fin=>by
  obtain⟨o,ho,hc,hd⟩:=id st.1;obtain⟨oT,hoT,c,hdT⟩:=st.2.2;refine J2 st.1 st.2.1 ?_;unfold VM
  dsimp only
  refine Z0 (wpAny_seqItems hoT hdT ?_)
  have e1:(ps.map fun(p:Nat)=>rawInt p).toArray[(es.size:Int).toNat]?=none:=by
   rw[ZQ,List.getElem?_toArray,ZC,W3 (by omega)];rfl
  dsimp only
  rw[e1]
  dsimp only
  refine Z0 (YM ho hd (by simp) ?_);have g1:=Yf (Obj.mapFields (·.setIfInBounds 0 (rawInt 0))) ho (YE (Ys hd _));have sb:=ZZ s.heap I (Obj.mapFields (·.setIfInBounds 0 (rawInt 0)));refine KP (s:={s with heap:=_}) hh g1 (Ys hd _) (by simp) fun h' eb=>fin h' s.toks fun b o hb e=>eb b o (fun z=>hb (by simp[z])) (sb.extBut b o (fun z=>hb (by simp[z])) e)
 self:=fun _ _ _ _ st fin=>P1 st.1 fin
def Cy{α:Type}(nx:Nat->Nat):∀(m k:Nat) (left:List α) (out:Array α),left.length=m->(pickOrder.go nx m k left out).toList.Perm (out.toList++left):=by
 intro m
 induction m with
 |zero=>
  intro k left out hl;have e:left=[]:=List.length_eq_zero_iff.mp hl;subst e;show out.toList.Perm (out.toList++[]);rw[Wg]
 |succ m ih=>
  intro k left out hl;have hlt:nx k % left.length<left.length:=Nat.mod_lt _ (by omega);unfold pickOrder.go;rw[Zy hlt]
  dsimp only
  refine(ih _ _ _ (by rw[Wb hlt];omega)).trans ?_;rw[Array.toList_push,WG];exact(JB left _ hlt).append_left _
def Ta{α:Type}(nx:Nat->Nat)(xs:Array α):(pickOrder nx xs).toList.Perm xs.toList:=by
 have:=Cy nx xs.size 0 xs.toList #[] (by simp)
 simpa [pickOrder]using this
def slotAt(t:SetTable)(i:Nat):Nat:=if i=0 then 0 else t.place.getD (i-1) 0+1
def KO{m:Nat}(h:t.fits m=true):t.place.size=m:=by
 simp only[SetTable.fits,Yj,beq_iff_eq]at h;exact h.1
def BW(S:SetAt w s.heap a js es ep t){i:Nat}(hi:i<=es.size):SetTable.below t.place (slotAt t i)=i:=by
 have hz:=KO S.fit;have R:=S.tab.ris.ris;refine BQ R (by omega) (fun k hk=>?_) fun k h1 h2=>?_
 ·unfold slotAt;rw[Z8 (by omega)];by_cases e:k=i-1
  ·rw[e];omega
  ·have:=R k (i-1) (by omega) (by omega)
   omega
 ·unfold slotAt;by_cases h0:i=0
  ·rw[ZA h0];omega
  ·rw[Z8 h0]
   have:=R (i-1) k (by omega) h2
   omega
def NS{Q:Value->Shared->Prop}{A':Around}(hh:A'.handled=none)(S:SetAt w s.heap a js es ep t)
  (fin:∀(I:Addr) (fp:List Addr) (vs:List Value) (St:Nat->Heap->Prop) (h1:Heap) (d1:Drawn),Walks prog w A' I fp [I] es.size (fun i v=>vs[i]?=some v) St->St 0 h1->(∀b∈fp,b=a\/s.heap.get? b=none)->vs.length=es.size->vs.Perm (es.toList.map (·.2))->
   s.heap.get? I=none->(∀b o,s.heap.get? b=some o->h1.get? b=some o)->Q (.ref I) {s with heap:=h1,drawn:=d1}) :
  wpAny (model prog w) A (pyIter (.ref a)) Q E s:=by
 obtain⟨ob,hob,hx,hdd⟩:=S.obj;have hT:s.TypeIs (.ref a) "set":=⟨ob,hob,hx.1⟩;have ha:a<s.heap.objs.size:=Z5 hob
 have new:∀b,s.heap.objs.size<=b->s.heap.get? b=none:=fun b hb=>by
  cases e:s.heap.get? b with
  |none=>rfl
  |some o=>exact absurd (Z5 e) (Nat.not_lt.mpr hb)
 refine wpAny_pyIter_slot hT F.slot_set_iter (W1 F.slot_set_iter hT SJ ?_ (F.args_set_iter_1 _));unfold Builtin.«frozenset.__iter__»;show wpAny _ _ (Builtin.Frozenset.sizeOf a >>= _) _ _ s;unfold Builtin.Frozenset.sizeOf;refine Z0 (Z0 (wpAny_setEntries_of hob hdd S.fit (Z3 ?_)));refine Z0 ?_;unfold setDrawn;refine Z0 (YI hob hdd S.fit (Z0 (JE (Z3 ?_))))
 dsimp only
 change wpAny _ _ (if (!QK w&&(!t.plain&&decide (es.size>1)))=true then _ else _) _ _ _;cases hd:(!QK w&&(!t.plain&&decide (es.size>1)))with
 |false=>
  rw[Z8 (by decide)];refine Z0 (Z3 (Z0 (wpAny_setEpoch_of hob hdd S.fit (Z0 (Yw (Z3 ⟨_,rfl, "set_iterator",_,⟨_,Z9 _ rfl,rfl⟩,si_slot.lookup,?_⟩))))));have hne:a≠s.heap.objs.size:=ZN ha;have S1:SetAt w (s.heap.push {cls:=.type "set_iterator",data:=.fields [rawInt 0,rawInt 0,.ref a,rawInt es.size,rawInt ep].toArray}) a js es ep t:=S.keep fun o e=>Z2 _ e
  have lt:∀b∈[s.heap.objs.size,a],b=a\/s.heap.get? b=none:=fun b hb=>by
   rcases ZL.mp hb with rfl|hb
   ·exact .inr (new _ (Z4 _))
   ·exact .inl (ZJ.mp hb)
  cases hb:QK w with
  |true=>
   have hl:((pickOrder (w.params.setOrder a ep) es).toList.map (·.2)).length=es.size:=by
    rw[Z1,(Ta _ _).length_eq];simp
   refine fin _ _ _ _ _ s.drawn (PN (t:=t) (js:=js) (ep:=ep) hh s.heap.objs.size a hne ((pickOrder (w.params.setOrder a ep) es).toList.map (·.2)) hl (fun _=>0) fun A E s i Q hi S' q=>A8 S' hb ?_) ⟨⟨_,Z9 _ rfl,rfl,rfl⟩,S1⟩ lt hl ((Ta _ _).map _) (new _ (Z4 _)) fun b o e=>Z2 _ e;rw[ZC]at q;rw[←Yq];cases e:(pickOrder (w.params.setOrder a ep) es).toList[i]? with
   |none=>rw[e]at q;exact q
   |some x=>rw[e]at q;exact q
  |false=>
   have hp:(!t.plain&&decide (es.size>1))=false:=by rw[hb]at hd;simpa using hd
   refine fin _ _ _ _ _ s.drawn (PN (t:=t) (js:=js) (ep:=ep) hh s.heap.objs.size a hne (es.toList.map (·.2)) (by simp) (slotAt t) fun A E s i Q hi S' q=>Bt S' hb hp ?_) ⟨⟨_,Z9 _ rfl,rfl,rfl⟩,S1⟩ lt (by simp) (List.Perm.refl _) (new _ (Z4 _)) fun b o e=>Z2 _ e;rw[BW S' hi];have hz:=KO S'.fit;rw[ZC]at q;by_cases hlt:i<es.size
   ·have e1:es[i]?=some es[i]:=Y4 hlt;have e2:t.place[i]?=some t.place[i]:=Y4 (by omega);have e3:es.toList[i]?=some es[i]:=by rw[Yq];exact e1
    rw[e3]at q;rw[e1,e2]
    have e4:slotAt t (i+1)=t.place[i]+1:=by
     unfold slotAt;rw[Z8 (by omega)]
     have:i<t.place.size:=by omega
     simp[Array.getD,this]
    have q':Q (some (es[i].2,slotAt t (i+1))) s:=q;rw[e4]at q';exact q'
   ·have e1:es[i]?=none:=Array.getElem?_eq_none (by omega);have e3:es.toList[i]?=none:=by rw[Yq];exact e1
    rw[e3]at q;rw[e1];exact q
 |true=>
  rw[ZA rfl];refine Z0 (Fb _ _ s (by simp) fun ps d hp=>?_);have hl:ps.length=es.size:=by rw[hp.length_eq];simp
  have hps:∀p∈ps,p<es.size:=fun p hm=>YV.mp (hp.mem_iff.mp hm);refine Z0 (Yw ?_ (by show(ps.map fun(i:Nat)=>rawInt i).toArray.size<=sizeLine;rw[Z7,Z1,hl];exact Wr S.few));have hob1:=Z2 {cls:=.type "tuple",data:=.seq (ps.map fun(i:Nat)=>rawInt i).toArray} hob;refine Z0 (wpAny_setEpoch_of hob1 hdd S.fit (Z0 (Yw (Z3 ⟨_,rfl, "set_iterator",_,⟨_,Z9 _ rfl,rfl⟩,si_slot.lookup,?_⟩))));have zT:(s.heap.push {cls:=.type "tuple",data:=.seq (ps.map fun(i:Nat)=>rawInt i).toArray}).objs.size=s.heap.objs.size+1:=Heap.size_push ..
  have eq1:(List.range es.size).map (fun p=>((es[p]?).map (·.2)).getD Value.none)=es.toList.map (·.2):=by
   apply List.ext_getElem?;intro k;by_cases hk:k<es.size
   ·simp[hk]
   ·have:es.size<=k:=by omega
    simp[this]
  refine fin _ _ _ _ _ d (Ny (t:=t) (js:=js) (ep:=ep) hh _ a s.heap.objs.size ?_ ?_ ps hl hps _ rfl) ⟨⟨_,Z9 _ rfl,rfl,rfl⟩,S.keep fun o e=>Z2 _ (Z2 _ e),_,Z2 _ (Z9 _ rfl),0,rfl⟩ (fun b hb=>?_) (by rw[Z1];exact hl) ?_ (new _ ?_) fun b o e=>Z2 _ (Z2 _ e)
  ·show a≠_;rw[zT];exact ZN (Wt ha)
  ·show s.heap.objs.size≠_;rw[zT];exact ZN (Nat.lt_succ_self _)
  ·rcases ZL.mp hb with rfl|hb
   ·refine .inr (new _ ?_);show s.heap.objs.size<=_;rw[zT];exact Ww _
   ·rcases ZL.mp hb with rfl|hb
    ·exact .inl rfl
    ·rw[ZJ.mp hb];exact .inr (new _ (Z4 _))
  ·rw[←eq1];exact hp.map _
  ·show s.heap.objs.size<=_;rw[zT];exact Ww _
def Am{Q:Bool->Shared->Prop}(hT:s.TypeIs (.ref a) "set")(h:Q false s):wpAny (model prog w) A (Builtin.List.listLengthHint (.ref a)) Q E s:=by
 unfold Builtin.List.listLengthHint;refine Z0 (wpAny_specialOf hT F.slot_set_len.lookup ?_);generalize eid:("set.__len__" : String)=z
 wp_delta
 have sp:splitId z=some ("set","__len__"):=by subst eid;decide +kernel
 rw[sp];subst eid;refine Z0 (wpAny_isInstance (T:="set") (b:=true) hT (by rw[isSubtype_type];kernel_rfl) (wpAny_ite_split (fun z=>absurd z (by decide)) fun _=>?_));exact wpAny_ite_split (fun _=>Z0 (wpAny_typeOf hT (Z3 h))) fun z=>absurd (by decide +kernel) z
def Fs{R:Result->Shared->Prop}(hh:A.handled=none)(S:SetAt w s.heap a js es ep t)(D:Addr)(c:Nat)(res:Value)(hD:s.heap.get? D=some {cls:=.type "list",data:=.seq #[] c})(hne:D≠a)(fin:∀(h':Heap) (tk:Nat) (d:Drawn) (vs:List Value) (c':Nat),vs.Perm (es.toList.map (·.2))->h'.get? D=some {cls:=.type "list",dict:=none,data:=.seq vs.toArray c',slots:=#[]}->(∀b o,b≠D->s.heap.get? b=some o->h'.get? b=some o)->R (.ok (.ret res)) {s with heap:=h',toks:=tk,drawn:=d}) :
  wpAny (model prog w) A.in1 (Builtin.List.listExtendWith (.ref D) (.ref a) res) (fun f s'=>match f with | .done f=>R (.ok f) s' | .again c'=>c'.quiet=true/\codeAny (model prog w) A c' R s') (fun e s'=>R (.error e) s') s:=by
 obtain⟨ob,hob,hx,hdd⟩:=S.obj;have hT:s.TypeIs (.ref a) "set":=⟨ob,hob,hx.1⟩;unfold Builtin.List.listExtendWith;refine Z0 (wpAny_typeOf (T:="set") hT ?_);have n1:Builtin.List.listSameRef (.ref D) (.ref a)=false:=by simp[Builtin.List.listSameRef,hne]
 have n2:(Value.type "set" == Value.type "list")=false:=by decide
 have n3:(Value.type "set" == Value.type "tuple")=false:=by decide
 simp only[n1,n2,n3,Bool.or_false,Wm,if_false];refine Z0 (NS (A':=A.in1) hh S fun I fp vs St h1 d1 W st0 flt hl hp hI keep=>?_);have hDI:D≠I:=fun z=>by rw[←z,hD]at hI;cases hI
 have loop:∀(h:Heap) (tk c1:Nat),St 0 h->(∀b o,b≠D->s.heap.get? b=some o->h.get? b=some o)->h.get? D=some {cls:=.type "list",data:=.seq #[] c1}->D∉fp->
   codeAny (model prog w) A (.builtin "list.extend.loop" ⟨[.ref D,.ref I,res],[]⟩) R {s with heap:=h,toks:=tk,drawn:=d1}:=fun h tk c1 st hk hD1 hDf=>by
  refine codeAny_extend_loopS W.toS (Wr S.few) D hDf res es.size 0 _ #[] c1 rfl (Yo _) st hD1 (ItemsOf.nil _) fun s' acc c' hm hD' hacc=>?_
  have ev:acc.toList=vs:=by
   apply List.ext_getElem?;intro k;by_cases hk2:k<acc.size
   ·have e1:acc[k]?=some acc[k]:=Y4 hk2;rw[Yq,e1];exact(hacc.2 k _ e1).symm
   ·rw[Yq,Array.getElem?_eq_none (by omega),W3 (by have:=hacc.1;omega)]
  have e2:acc=vs.toArray:=by rw[←ev]
  rw[e2]at hD';rw[Moved.eq_with hm];refine fin s'.heap s'.toks d1 vs c' hp hD' fun b o hb e=>hm.heap b o (fun hmem=>?_) (hk b o hb e);rcases ZL.mp hmem with z|z
  ·exact hb z
  ·rw[ZJ.mp z,hI]at e;cases e
 have hDf:D∉fp:=fun hm=>by
  rcases flt D hm with z|z
  ·exact hne z
  ·rw[hD]at z;cases z
 have hT1:Shared.TypeIs {s with heap:=h1,drawn:=d1} (.ref a) "set":=⟨ob,keep _ _ hob,hx.1⟩
 refine Z0 (Yu (Am hT1 ?_));have hD1:=keep _ _ hD;refine wpAny_ite_split (fun _=>?_) fun _=>Z3 ⟨Wy F.plain_extend_loop _,loop _ _ c st0 (fun b o _ e=>keep b o e) hD1 hDf⟩;refine Z0 (wpAny_rule (Z0 (?_:wpAny _ _ (updateSeq D (·.push .none) >>= fun _=>updateSeq D (·.pop)) _ _ _)));refine Z0 (wpAny_updateSeq hD1 rfl ?_);have hD2:=Yf (Obj.mapSeq (·.push Value.none)) hD1 rfl;refine wpAny_updateSeq (hz:=by seq_fits) hD2 rfl ?_;have hD3:=Yf (Obj.mapSeq (·.pop)) hD2 rfl
 have oth:∀b o,b≠D->h1.get? b=some o->((h1.update D (Obj.mapSeq (·.push Value.none))).update D (Obj.mapSeq (·.pop))).get? b=some o:=fun b o hb e=>
  (Yb _ _ (Ne.symm hb)).trans ((Yb _ _ (Ne.symm hb)).trans e)
 exact Z3 ⟨Wy F.plain_extend_loop _,loop _ _ _ (W.frame 0 _ _ st0 fun b hb o e=>oth b o (fun z=>hDf (z▸hb)) e) (fun b o hb e=>oth b o hb (keep b o e)) hD3 hDf⟩
def F6{R:List Value->Shared->Prop}(hh:A.handled=none)(S:SetAt w s.heap a js es ep t)(fin:∀(h':Heap) (tk:Nat) (d:Drawn) (vs:List Value),vs.Perm (es.toList.map (·.2))->(∀b o,s.heap.get? b=some o->h'.get? b=some o)->s.heap.objs.size<h'.objs.size->R vs {s with heap:=h',toks:=tk,drawn:=d}) :
  wpAny (model prog w) A (collect (.ref a)) R E s:=by
 obtain⟨ob,hob,hx,hdd⟩:=S.obj;have hne:s.heap.objs.size≠a:=WH (Z5 hob);unfold collect;refine Z0 (wpAny_runValue (YR entry_proto_collect' ?_));have u1:=YL (A:=A) PySem.F.plain_proto_collect ⟨[.ref a],[]⟩;rw[u1];refine(show wpAny _ A.in1 (newList [] >>= fun l=>again (.builtin "list.__iadd__" ⟨[l,.ref a],[]⟩)) _ _ s from Z0 (Yw (Z3 ⟨Wy PySem.F.plain_list_iadd _,YR entry_list_iadd' ?_⟩)))
 have u2:=YL (A:=A) PySem.F.plain_list_iadd ⟨[.ref s.heap.objs.size,.ref a],[]⟩;rw[u2];have g1:(s.heap.push {cls:=.type "list",data:=.seq ([]:List Value).toArray}).get? s.heap.objs.size=some {cls:=.type "list",data:=.seq #[]}:=Z9 _ rfl;show wpAny _ A.in1 (Builtin.List.listExtendWith (.ref s.heap.objs.size) (.ref a) (.ref s.heap.objs.size)) _ _ _
 have key:=Fs (prog:=prog) (A:=A) (s:={s with heap:=s.heap.push {cls:=.type "list",data:=.seq ([]:List Value).toArray}})
  (R:=fun q s'=>∃h' tk d vs c',q=.ok (.ret (.ref s.heap.objs.size))/\s'={s with heap:=h',toks:=tk,drawn:=d}/\vs.Perm (es.toList.map (·.2))/\(∀b o,s.heap.get? b=some o->h'.get? b=some o)/\
   h'.get? s.heap.objs.size=some {cls:=.type "list",dict:=none,data:=.seq vs.toArray c',slots:=#[]}) hh (S.keep fun o e=>Z2 _ e) s.heap.objs.size 0 (.ref s.heap.objs.size) g1 hne
  fun h' tk d vs c' hp hD hk=>⟨h',tk,d,vs,c',rfl,rfl,hp,fun b o e=>hk b o (ZN (Z5 e)) (Z2 _ e),hD⟩
 refine Yh key (fun f s' x=>?_) fun e s' x=>?_
 ·cases f with
  |done f=>
   obtain⟨h',tk,d,vs,c',e,rfl,hp,hk,hD⟩:=x;cases e
   refine(show wpAny _ A (load s.heap.objs.size >>= _) _ _ _ from Z0 (wpAny_load hD (Z3 ?_)))
   exact fin h' tk d vs hp hk (Z5 hD)
  |again c1=>
   refine⟨x.1,Wj x.2 fun q s2 y=>?_⟩;obtain⟨h',tk,d,vs,c',rfl,rfl,hp,hk,hD⟩:=y;refine(show wpAny _ A (load s.heap.objs.size >>= _) _ _ _ from Z0 (wpAny_load hD (Z3 ?_)))
   exact fin h' tk d vs hp hk (Z5 hD)
 ·obtain⟨_,_,_,_,_,e',_⟩:=x;cases e'
def Pt:∀{l:List (Int×Value)},(∀e∈l,Ent e)->IntsAre (l.map (·.2)) (l.map keyOf)
 |[],_=>.nil
 |e::r,h=>by
  obtain⟨k,t,rfl⟩:=h e ZK;exact .cons k t (Pt fun x hx=>h x (ZH _ hx))
def BG{vs us:List Value}(p:vs.Perm us):∀{ns:List Int},IntsAre us ns->∃ms,IntsAre vs ms/\ms.Perm ns:=by
 induction p with
 |nil=>intro ns h;cases h;exact⟨[],.nil,List.Perm.refl _⟩
 |cons x _ ih=>
  intro ns h;cases h with
  |cons n t r=>
   obtain⟨ms,h1,h2⟩:=ih r;exact⟨n::ms,.cons n t h1,List.Perm.cons _ h2⟩
 |swap x y l=>
  intro ns h;cases h with
  |cons n t r=>
   cases r with
   |cons n' t' r'=>exact⟨n'::n::_,.cons n' t' (.cons n t r'),List.Perm.swap _ _ _⟩
 |trans _ _ ih1 ih2=>
  intro ns h;obtain⟨ms,h1,h2⟩:=ih2 h;obtain⟨ks,h3,h4⟩:=ih1 h1;exact⟨ks,h3,h4.trans h2⟩
def AW{Q:Value->Shared->Prop}(hh:A.handled=none)(B:SetB w s.heap a js)(h64:js.length<64)
  (fin:∀(l:Addr) (h':Heap) (tk:Nat) (d:Drawn) (out:List Value) (ns:List Int) (e:Nat),IntsAre out ns->ns.Perm js->ns.Pairwise (·<=·)->s.heap.get? l=none->s.heap.objs.size<=l->h'.get? l=some {cls:=.type "list",data:=.seq out.toArray e}->
   (∀b o,s.heap.get? b=some o->h'.get? b=some o)->Q (.ref l) {s with heap:=h',toks:=tk,drawn:=d}) :
  wpAny (model prog w) A (call (.builtin "sorted") [.ref a]) Q E s:=by
 obtain⟨es,ep,t,S⟩:=B;refine Calls.call_function_entry kind_sorted plain_sorted entry_sorted (args_sorted1 _) ?_;unfold Builtin.«sorted»;refine Z0 (m:=checkCount "sorted" 1 1 _) (Z3 (Z0 (F6 (A:=A.in1) hh S fun h1 tk d vs hp keep big=>?_)));obtain⟨ms,hI,hms⟩:=BG hp (Pt S.ent);have hms2:ms.Perm js:=hms.trans S.per;have hl:vs.length<64:=by rw[IntsAre.length hI,hms2.length_eq];exact h64
 refine Z0 (wpAny_newList ?_ (by have:(64:Nat)<=sizeLine:=(by decide);omega));have g1:(h1.push (seqObj "list" vs.toArray 0)).get? h1.objs.size=some (seqObj "list" vs.toArray 0):=Z9 _ rfl;refine Z0 (Yu (W1 slot_list_sort ⟨_,g1,rfl⟩ entry_list_sort (list_sort_tree g1 hI hl fun out ns a1 a2 a3=>⟨_,rfl,?_⟩) (args_list_sort _)));obtain⟨e,he⟩:=sortedHeap_at (out:=out) g1;have hsz:s.heap.objs.size<=h1.objs.size:=Wi big;refine Z3 ⟨_,rfl,fin h1.objs.size _ tk d out.toList ns e a1 (a2.trans hms2) a3 ?_ hsz (by simpa [seqObj]using he) fun b o q=>?_⟩
 ·cases q:s.heap.get? h1.objs.size with
  |none=>rfl
  |some o=>exact absurd (Z5 (keep _ _ q)) (Yt _)
 ·have hlt:=Z5 (keep b o q);rw[sortedHeap_old (ZN hlt) (by rw[size_push'];exact Wt hlt)];exact Z2 _ (keep b o q)
end
end SetR
namespace Own
open PySem PySem.Spec PyProof.Rows L2
def SetH(w:World)(l:Addr)(js:List Int):HO:=.ext fun h=>SetR.SetB w h l js
section
variable {X:Cx}
def Fq{P:Program}{w:World}{H:Hp}{h:Heap}{l:Addr}{js:List Int}(B:SetR.SetB w h l js):ObjOk P w H h l (SetH w l js):=by
 refine⟨B,?_,fun h1 h2 B1 k=>B1.at k⟩;obtain⟨es,ep,t,S⟩:=B;obtain⟨o,ho,_⟩:=S.obj;exact⟨o,ho⟩
def Ar(hc:X.calm=true):QI X (.type "set") (fun xs H Q=>∃(p:Addr) (ns:List Int),xs=[.ref p]/\SqL X.K H p (ns.map V.int)/\ns.length+1<4096/\∀l,H l=none->Q (.ref l) (upd H l (SetH X.w l (ns.foldl SetR.addJ [])))):=by
 intro pins s σ H xs us Q I rv h;obtain⟨p,ns,rfl,hS,hz,q⟩:=h;obtain⟨u,rfl,ru⟩:=rv.one;obtain rfl:u=Value.ref p:=ru;obtain⟨its,r,pl,_⟩:=I.list hS;refine SetR.SA (I.ok.hd hc) pl.isList (by simpa using PJ r) hz fun h' tk B keep=>?_;have hf:H s.heap.objs.size=none:=I.hok.fresh (Z4 _);exact⟨.ref s.heap.objs.size,upd H s.heap.objs.size (SetH X.w s.heap.objs.size _),I.laid (t':=tk) (fun b o e=>keep b o (Z5 e) e) (Z4 _) (Fq B),rfl,q _ hf⟩
def KJ(hc:X.calm=true):QI X (.builtin "sorted") (fun xs H Q=>∃(p:Addr) (js:List Int),xs=[.ref p]/\js.length<64/\(SqL X.K H p (js.map V.int)\/H p=some (SetH X.w p js))/\
  ∀(l:Addr) (ns:List Int),H l=none->ns.Perm js->ns.Pairwise (·<=·)->Q (.ref l) (upd H l (.lst (ns.map V.int)))):=by
 intro pins s σ H xs us Q I rv h;obtain⟨p,js,rfl,hz,hS,q⟩:=h;obtain⟨u,rfl,ru⟩:=rv.one;obtain rfl:u=Value.ref p:=ru
 have big:∀{ns:List Int},ns.Perm js->(ns.map V.int).length<=sizeLine:=fun hp=>by
  rw[Z1,hp.length_eq]
  have:(64:Nat)<=sizeLine:=by decide
  omega
 rcases hS with hS|hS
 ·obtain⟨its,r,pl,_⟩:=I.list hS;have hI:IntsAre its js:=by simpa using PJ r
  refine sorted_ints pl.isList hI (by rw[IntsAre.length hI];exact hz) fun out ns a1 a2 a3=>?_;obtain⟨e,he⟩:=sortedAll_at s.heap its out;have hf:H (s.heap.objs.size+1)=none:=I.hok.fresh (Ww _);refine⟨.ref (s.heap.objs.size+1),upd H (s.heap.objs.size+1) (.lst (ns.map V.int)),I.laid (t':=s.toks) (fun b o e=>sortedAll_old e) (Ww _) ⟨big a2,out.toList,e,JF a1,?_⟩,rfl,q _ ns hf a2 a3⟩;simpa [seqObj]using he
 ·have B:SetR.SetB X.w s.heap p js:=(show ObjOk X.prog X.w H s.heap p (SetH X.w p js)from I.hok p _ hS).1
  refine SetR.AW (I.ok.hd hc) B hz fun l h' tk d out ns e a1 a2 a3 nl hl he keep=>?_;have hf:H l=none:=I.hok.fresh hl;refine⟨.ref l,upd H l (.lst (ns.map V.int)),?_,rfl,q l ns hf a2 a3⟩;have ok:HOk X.prog X.w (upd H l (.lst (ns.map V.int))) h':=I.hok.laid keep hl ⟨big a2,out,e,JF a1,he⟩;exact I.call (ch:=[]) (h':=h') (g':=s.gens) (d':=d) (t':=tk) (Un.laid keep hl hf) ok I.bare (fun b z=>absurd z (by simp))
end
section
variable {X:Cx}{K:Za}
def UF(hK:X.K=K:=by rfl):IxR X (fun x y H Q=>rIxL K x y H Q\/rIxT K x y H Q):=by subst hK;exact Qp
def NZ(hK:X.K=K:=by rfl):QI X (.builtin "len") (fun xs H Q=>∃x n,xs=[x]/\LenV K x H n/\Q (.int n) H):=by subst hK;exact QF
def Bj(hK:X.K=K:=by rfl):OpR X (compareOp .In) (rIn K false):=by subst hK;exact Ck
def Nr{pos:Pos}{es:List Expr}{k:Nat}{t:TGs}{n:Nat}(hc:X.calm=true)(h:PGs X es t)(hK:X.K=K:=by rfl)(hn:(assignEach es X.env).length=n:=by rfl)(hst:(assignEach es X.env).findIdx? (·.1)=none:=by rfl):PG X (.Tuple es k pos) (gTup K n t):=by subst hK;exact Sd hc h hn hst
end
section
variable {α:Type}{R:Hp->V->α->Prop}{φ:List (Option Nat)}{g:TG}{tc:TT}{te:TE}{σ:L2.St}{H1:Hp}{F:Hp->Prop}{D:Addr}
def Uo{K:Za}{a:Addr}{xs:List V}{ds:List α}(f:α->Option V)(hS:SqL K H1 a xs)(hd:xs.length=ds.length)(hD:H1 D=none)(hz:ds.length<=sizeLine)(turn:∀(i:Nat) (x:V) (d:α) (H2:Hp),xs[i]?=some x->ds[i]?=some d->Same H1 H2->∀k:Option V->Hp->Prop,k (f d) H2->g x (atStart φ σ) H2 fun σ2 H4=>Sub (atStart φ σ) σ2/\tc σ2 H4 fun b H5=>if b=true then te σ2 H5 fun y H6=>k (some y) H6 else k none H5)(done:F (upd H1 D (.lst (ds.filterMap f)))) :
  ∃W:Nat->Nat->List V->Hp->Prop,(∃m,W 0 m [] (upd H1 D (.lst [])))/\
   ∀i m ys H2,W i m ys H2->((Itl K a).stop i H2/\F H2)\/((Itl K a).go i H2/\∀x H3,(Itl K a).yld i H2 x H3->g x (atStart φ σ) H3 fun σ2 H4=>Sub (atStart φ σ) σ2/\tc σ2 H4 fun b H5=>
    if b=true then te σ2 H5 fun y H6=>H6 D=some (.lst ys)/\ys.length<sizeLine/\∃m',m'<m/\W (i+1) m' (ys++[y]) (upd H6 D (.lst (ys++[y])))else ∃m',m'<m/\W (i+1) m' ys H5):=by
 refine⟨fun i m ys H2=>m=ds.length-i/\i<=ds.length/\ys=(ds.take i).filterMap f/\H2=upd H1 D (.lst ys),⟨ds.length,by simp,Yo _,by simp,rfl⟩,?_⟩;rintro i m ys H2 ⟨rfl,hi,rfl,rfl⟩;have S2:Same H1 (upd H1 D (.lst ((ds.take i).filterMap f))):=Qy hD;by_cases hlt:i<ds.length
 ·refine .inr ⟨⟨xs,xs[i]'(by omega),S2.seq hS,by simp[hd,hlt]⟩,fun x H3 y=>?_⟩;obtain⟨e,y⟩:=y;subst e;have hx:=y xs (S2.seq hS);have ed:ds[i]?=some ds[i]:=Zy hlt
  refine turn i x ds[i] _ hx ed S2 (fun o H'=>match o with
   |some y=>H' D=some (.lst ((ds.take i).filterMap f))/\((ds.take i).filterMap f).length<sizeLine/\∃m',m'<ds.length-i/\(m'=ds.length-(i+1)/\i+1<=ds.length/\(ds.take i).filterMap f++[y]=(ds.take (i+1)).filterMap f/\upd H' D (.lst ((ds.take i).filterMap f++[y]))=upd H1 D (.lst ((ds.take i).filterMap f++[y])))
   |none=>∃m',m'<ds.length-i/\(m'=ds.length-(i+1)/\i+1<=ds.length/\(ds.take i).filterMap f=(ds.take (i+1)).filterMap f/\H'=upd H1 D (.lst ((ds.take i).filterMap f)))) ?_
  have et:ds.take (i+1)=ds.take i++[ds[i]]:=ZS hlt;cases ef:f ds[i]with
  |some y=>
   refine⟨Qn,?_,ds.length-(i+1),by omega,rfl,hlt,?_,Tu⟩
   ·have h1:=Wn f (ds.take i);rw[Yr]at h1;omega
   ·rw[et,Y2];simp[ef]
  |none=>
   refine⟨ds.length-(i+1),by omega,rfl,hlt,?_,rfl⟩;rw[et,Y2];simp[ef]
 ·have e:i=ds.length:=by omega
  subst e;refine .inl ⟨⟨xs,S2.seq hS,by omega⟩,?_⟩;rw[Y8];exact done
def FH{lo:Int}{n:Nat}(f:Nat->Option V)(hD:H1 D=none)(hz:n<=sizeLine)(turn:∀(i:Nat) (H2:Hp),i<n->Same H1 H2->∀k:Option V->Hp->Prop,k (f i) H2->g (.int (lo+i)) (atStart φ σ) H2 fun σ2 H4=>Sub (atStart φ σ) σ2/\tc σ2 H4 fun b H5=>if b=true then te σ2 H5 fun y H6=>k (some y) H6 else k none H5)(done:F (upd H1 D (.lst ((List.range n).filterMap f)))) :
  ∃W:Nat->Nat->List V->Hp->Prop,(∃m,W 0 m [] (upd H1 D (.lst [])))/\
   ∀i m ys H2,W i m ys H2->((Itr lo n).stop i H2/\F H2)\/((Itr lo n).go i H2/\∀x H3,(Itr lo n).yld i H2 x H3->g x (atStart φ σ) H3 fun σ2 H4=>Sub (atStart φ σ) σ2/\tc σ2 H4 fun b H5=>
    if b=true then te σ2 H5 fun y H6=>H6 D=some (.lst ys)/\ys.length<sizeLine/\∃m',m'<m/\W (i+1) m' (ys++[y]) (upd H6 D (.lst (ys++[y])))else ∃m',m'<m/\W (i+1) m' ys H5):=by
 refine⟨fun i m ys H2=>m=n-i/\i<=n/\ys=(List.range i).filterMap f/\H2=upd H1 D (.lst ys),⟨n,by simp,Yo _,by simp,rfl⟩,?_⟩;rintro i m ys H2 ⟨rfl,hi,rfl,rfl⟩;have S2:Same H1 (upd H1 D (.lst ((List.range i).filterMap f))):=Qy hD;by_cases hlt:i<n
 ·refine .inr ⟨hlt,fun x H3 y=>?_⟩;obtain⟨e,rfl⟩:=y;subst e
  refine turn i _ hlt S2 (fun o H'=>match o with
   |some y=>H' D=some (.lst ((List.range i).filterMap f))/\((List.range i).filterMap f).length<sizeLine/\∃m',m'<n-i/\(m'=n-(i+1)/\i+1<=n/\(List.range i).filterMap f++[y]=(List.range (i+1)).filterMap f/\upd H' D (.lst ((List.range i).filterMap f++[y]))=upd H1 D (.lst ((List.range i).filterMap f++[y])))
   |none=>∃m',m'<n-i/\(m'=n-(i+1)/\i+1<=n/\(List.range i).filterMap f=(List.range (i+1)).filterMap f/\H'=upd H1 D (.lst ((List.range i).filterMap f)))) ?_
  cases ef:f i with
  |some y=>
   refine⟨Qn,?_,n-(i+1),by omega,rfl,hlt,?_,Tu⟩
   ·have h1:=Wn f (List.range i);rw[YU]at h1;omega
   ·rw[Wh,Y2];simp[ef]
  |none=>
   refine⟨n-(i+1),by omega,rfl,hlt,?_,rfl⟩;rw[Wh,Y2];simp[ef]
 ·have e:i=n:=by omega
  subst e;exact .inl ⟨Z4 _,done⟩
end
def eqL(xs ys:List V):Bool:=decide (xs.length=ys.length)&&(List.range xs.length).all fun j=>eqV (xs.getD j .non) (ys.getD j .non)
def rEqL(K:Za)(neg:Bool):R2:=fun x y H Q=>∃(p q:Addr) (xs ys:List V),x=.ref p/\y=.ref q/\SqL K H p xs/\SqL K H q ys/\xs.all QL=true/\ys.all QL=true/\Q (.bl (if neg then !eqL xs ys else eqL xs ys)) H
section
variable {X:Cx}
def Pi{A:Around}{s:Shared}{xs ys:List V}{us ws:List Value}(r1:Vals xs us)(r2:Vals ys ws)(f1:xs.all QL=true)(f2:ys.all QL=true)(j:Nat)(h1:j<us.toArray.size)(h2:j<ws.toArray.size) :
  SeqAt.EqAt A s us.toArray[j] ws.toArray[j] (eqV (xs.getD j .non) (ys.getD j .non)):=by
 have l1:=r1.length;have l2:=r2.length;have g1:j<us.length:=by simpa using h1
 have g2:j<ws.length:=by simpa using h2
 have k1:xs[j]?=some (xs[j]'(by omega)):=Zy _;have k2:ys[j]?=some (ys[j]'(by omega)):=Zy _;obtain⟨u,eu,ru⟩:=r1.get k1;obtain⟨w,ew,rw'⟩:=r2.get k2
 have e1:us.toArray[j]=u:=by
  have:us[j]?=some us[j]:=Zy g1
  rw[this]at eu;simpa using Z6 eu
 have e2:ws.toArray[j]=w:=by
  have:ws[j]?=some ws[j]:=Zy g2
  rw[this]at ew;simpa using Z6 ew
 have d1:xs.getD j .non=xs[j]'(by omega):=by rw[Zz,k1];rfl
 have d2:ys.getD j .non=ys[j]'(by omega):=by rw[Zz,k2];rfl
 rw[e1,e2,d1,d2];exact Xn ru rw' (Y7.mp f1 _ (ZP _)) (Y7.mp f2 _ (ZP _))
def FR(hu:X.A.units<cLine):OpR X (compareOp .Eq) (rEqL X.K false):=by
 intro pins s σ H x y v u Q I rx ry h;obtain⟨p,q,xs,ys,rfl,rfl,hp,hq,f1,f2,k⟩:=h;obtain rfl:v=Value.ref p:=rx;obtain rfl:u=Value.ref q:=ry;obtain⟨us,r1,p1,_⟩:=I.list hp;obtain⟨ws,r2,p2,_⟩:=I.list hq;have l1:=r1.length;have l2:=r2.length;have k':Q (.bl (eqL xs ys)) H:=k;by_cases e:xs.length=ys.length
 ·refine SeqAt.eq_listAt p1.isList p2.isList (by simp;omega) hu (fun j h1 h2=>Pi r1 r2 f1 f2 j h1 h2) ⟨.bl (eqL xs ys),H,I,?_,k'⟩;show _=Value.bool (eqL xs ys);unfold eqL;rw[ZF e,WC,Z7,←l1]
 ·refine SeqAt.eq_list_lengthsAt p1.isList p2.isList (by simp;omega) hu ⟨.bl (eqL xs ys),H,I,?_,k'⟩;show _=Value.bool (eqL xs ys);unfold eqL;rw[ZI e];rfl
def K7(hu:X.A.units<cLine):OpR X (compareOp .NotEq) (rEqL X.K true):=by
 intro pins s σ H x y v u Q I rx ry h;obtain⟨p,q,xs,ys,rfl,rfl,hp,hq,f1,f2,k⟩:=h;obtain rfl:v=Value.ref p:=rx;obtain rfl:u=Value.ref q:=ry;obtain⟨us,r1,p1,_⟩:=I.list hp;obtain⟨ws,r2,p2,_⟩:=I.list hq;have l1:=r1.length;have l2:=r2.length;have k':Q (.bl (!eqL xs ys)) H:=k;by_cases e:xs.length=ys.length
 ·refine SeqAt.RcNeAt.lists p1.isList p2.isList (by simp;omega) hu (fun j h1 h2=>Pi r1 r2 f1 f2 j h1 h2) _ _ _ _ ⟨.bl (!eqL xs ys),H,I,?_,k'⟩;show _=Value.bool (!eqL xs ys);unfold eqL;rw[ZF e,WC,Z7,←l1]
 ·refine SeqAt.RcNeAt.lists_lengths p1.isList p2.isList (by simp;omega) hu _ _ _ _ ⟨.bl (!eqL xs ys),H,I,?_,k'⟩;show _=Value.bool (!eqL xs ys);unfold eqL;rw[ZI e];rfl
def Jp{xs:List Int}{us:List Value}(r:Vals (xs.map V.int) us)(z:Int):∀(j:Nat) (h1:j<us.length) (h2:j<xs.length),Value.isInt z us[j]=(xs[j]==z):=by
 intro j h1 h2;obtain⟨u,eu,t,rfl⟩:=r.get (x:=V.int xs[j]) (i:=j) (by rw[ZC,Zy h2];rfl);rw[Zy h1]at eu;rw[Z6 eu];simp[Value.isInt]
def XY{xs:List Int}{us:List Value}(r:Vals (xs.map V.int) us)(z:Int)(t:Tok):∀y,y∈us.toArray->MeetsSeq.EqGives y (.int z t) (Value.isInt z y):=by
 intro y hy;obtain⟨j,hj,rfl⟩:=W7.mp (by simpa using hy:y∈us);have l1:=r.length;rw[Z1]at l1;rw[Jp r z j hj (by omega)];obtain⟨u,eu,t',rfl⟩:=r.get (x:=V.int (xs[j]'(by omega))) (i:=j) (by rw[ZC,Zy (show j<xs.length by omega)];rfl);rw[Zy hj]at eu;rw[Z6 eu];exact MeetsSeq.EqGives.int _ _ _ _
def Jt(K:Za):V->List V->Hp->VK->Prop:=fun x vs H Q=>∃(l:Addr) (xs:List Int) (z:Int),x=.ref l/\vs=[.int z]/\SqL K H l (xs.map V.int)/\z∈xs/\Q (.int (xs.idxOf z:Nat)) H
def Bp:MtM X "list.index" (Jt X.K):=by
 intro pins s σ H x vs v us Q I rx rv h;obtain⟨l,xs,z,rfl,rfl,hS,hz,q⟩:=h;cases rx
 obtain⟨u,rfl,t,rfl⟩:=rv.one;obtain⟨its,r,p1,hsz⟩:=I.list hS;obtain⟨o,n,ho,hc,hdn,hd⟩:=p1;obtain⟨c1,d1,dt1,sl1⟩:=o;simp only at hc hdn hd;subst hc hdn hd;have l1:=r.length;rw[Z1]at l1;have hj:xs.idxOf z<xs.length:=Wo.mpr hz;have hb:xs.length<=2 ^ 24:=by rw[Z1]at hsz;exact hsz
 refine call_meets Yn ⟨_,ho,rfl⟩ PySem.F.entry_list_index (PySem.F.args_list_index_2 _ _)
  (SeqAt.list_indexAt l its.toArray n none sl1 (.int z t) (Value.isInt z) (xs.idxOf z) (by simpa [←l1]using hj) (by omega) ?_ ?_) ⟨ho,fun y hy=>(XY r z t y hy).at _ _,⟨.int (xs.idxOf z:Nat),H,I.tok _,⟨_,rfl⟩,q⟩⟩
 ·have e:=Jp r z (xs.idxOf z) (by omega) hj;show Value.isInt z its[xs.idxOf z]=true;rw[e];simpa using W9 hj
 ·intro m hm hlt;have hm':m<its.length:=by simpa using hm
  have e:=Jp r z m hm' (by omega);show Value.isInt z its[m]=false;rw[e]
  have:=List.not_of_lt_findIdx (p:=(· == z)) (xs:=xs) (i:=m) hlt
  simpa using this
def XH{α β:Type}(f:α->β):∀(xs:List α) (k:Nat),(xs.eraseIdx k).map f=(xs.map f).eraseIdx k
 |[],_=>rfl
 |_::_,0=>rfl
 |x::r,k+1=>by
  show f x::(r.eraseIdx k).map f=f x::(r.map f).eraseIdx k;rw[XH f r k]
def Bn:V->List V->Hp->VK->Prop:=fun x vs H Q=>∃(l:Addr) (xs:List Int) (z:Int),x=.ref l/\vs=[.int z]/\H l=some (.lst (xs.map V.int))/\z∈xs/\Q .non (upd H l (.lst ((xs.eraseIdx (xs.idxOf z)).map V.int)))
def SR:MtM X "list.remove" Bn:=by
 intro pins s σ H x vs v us Q I rx rv h;obtain⟨l,xs,z,rfl,rfl,hH,hz,q⟩:=h;cases rx
 obtain⟨u,rfl,t,rfl⟩:=rv.one;obtain⟨hsz,its,n,r,hl,e⟩:=I.lstM hH;have l1:=r.length;rw[Z1]at l1;have hj:xs.idxOf z<xs.length:=Wo.mpr hz
 refine call_meets PySem.F.slot_list_remove ⟨_,e,rfl⟩ PySem.F.entry_list_remove (PySem.F.args_list_remove_2 _ _)
  (MeetsSeq.list_remove l its.toArray n (.int z t) (Value.isInt z) (XY r z t) (xs.idxOf z) (by simpa [←l1]using hj) ?_ ?_ (by rw[Z7,←hl];exact hsz)) ⟨e,?_⟩
 ·have e:=Jp r z (xs.idxOf z) (by omega) hj;show Value.isInt z its[xs.idxOf z]=true;rw[e];simpa using W9 hj
 ·intro m hm hlt;have hm':m<its.length:=by simpa using hm
  have e:=Jp r z m hm' (by omega);show Value.isInt z its[m]=false;rw[e]
  have:=List.not_of_lt_findIdx (p:=(· == z)) (xs:=xs) (i:=m) hlt
  simpa using this
 ·refine⟨.non,_,I.lset (its':=its.eraseIdx (xs.idxOf z)) hH e ?_ ?_ ?_,rfl,q⟩
  ·show its.toArray.eraseIdxIfInBounds (xs.idxOf z)=_;rw[List.eraseIdxIfInBounds_toArray]
  ·rw[XH];exact r.eraseIdx _
  ·rw[Z1,List.length_eraseIdx];rw[Z1]at hsz;split<;>omega
end
section
variable {X:Cx}{K:Za}
def VD(hK:X.K=K:=by rfl):MtM X "list.index" (Jt K):=by subst hK;exact Bp
def VN{o e:Expr}{es:List Expr}{to:TE}{t:TA}{name:Str}{apos cpos:Pos}{T id:String}{r:V->List V->Hp->VK->Prop}(pa:PlainAttrs T)(slot:Slot T name id)(hty:typeOf (.builtin id)=pure (.type "method_descriptor"))(hm:MtM X id r)(ho:PE X o to)(ha:PA X (e::es) t)(hK:X.K=K:=by rfl)(hbase:attributeBase o name X.env (eval o X.env)=eval o X.env:=by rfl)
  (hfew:((backTo cpos (starEach (e::es) X.env)).all (fun x=>!x.1)&&(backToKw cpos (keywordEach [] X.env)).all (fun x=>x.1.isSome)
   && decide ((e::es).length+([]:List Keyword).length+(if ([]:List Keyword).isEmpty then 0 else 1)<30))=true:=by rfl)
  (hline:(apos.endLine==cpos.line)=true:=by rfl) (hs:starEach (e::es) X.env=(false,eval e X.env)::starEach es X.env:=by rfl) (hplain:(backTo cpos (starEach es X.env)).any (·.1)=false:=by rfl) :
  PE X (.Call (.Attribute o name apos) (e::es) [] cpos) (tBM K T r to t):=by
 subst hK;exact VG pa slot hty hm ho ha hbase hfew hline hs hplain
end
def Ua(xs ys:List Int):eqL (xs.map V.int) (ys.map V.int)=decide (xs=ys):=by
 unfold eqL;rw[Z1,Z1];by_cases e:xs=ys
 ·subst e;rw[ZF rfl,ZF rfl,WC,Y7];intro j hj;have hj':j<xs.length:=by simpa using hj
  rw[Zz,ZC,Zy hj'];show(xs[j]==xs[j])=true;simp
 ·rw[ZI e];by_cases hl:xs.length=ys.length
  ·rw[ZF hl,WC,Bool.eq_false_iff];intro hall;apply e;apply WI hl;intro j h1 h2
   have:=Y7.mp hall j (by simpa using h1)
   rw[Zz,ZC,Zy h1,Zz,ZC,Zy h2]at this;have h3:(xs[j]==ys[j])=true:=this;simpa using h3
  ·rw[ZI hl];rfl
def VA(xs:List Int):(xs.map V.int).all QL=true:=by
 rw[List.all_map];exact Y7.mpr fun _ _=>rfl
end Own
namespace M
open PySem PySem.Spec PyProof.Rows L2 Own
def LV{α:Type}(R:Hp->V->α->Prop)(H:Hp)(vs:List V)(xs:List α):Prop:=
 vs.length=xs.length/\∀(i:Nat) (x:α),xs[i]?=some x->∃v,vs[i]?=some v/\R H v x
def LAt{α:Type}(R:Hp->V->α->Prop)(H:Hp)(l:Addr)(xs:List α):Prop:=∃vs,H l=some (.lst vs)/\LV R H vs xs
def PairR(H:Hp)(v:V)(q:Int×Int):Prop:=∃a,v=.ref a/\H a=some (.tup [.int q.1,.int q.2])
def Mono{α:Type}(R:Hp->V->α->Prop):Prop:=∀H H' v x,Same H H'->R H v x->R H' v x
def PairR.mono:Mono PairR:=fun _ _ _ _ S ⟨a,e,h⟩=>⟨a,e,S _ _ h⟩
section
variable {α:Type}{R:Hp->V->α->Prop}{H H':Hp}{vs:List V}{xs:List α}{l:Addr}
def LV.mono (m:Mono R) (S:Same H H') (h:LV R H vs xs):LV R H' vs xs:=
 ⟨h.1,fun i x e=>let ⟨v,e',r⟩:=h.2 i x e;⟨v,e',m _ _ _ _ S r⟩⟩
def LV.nil:LV R H [] ([]:List α):=⟨rfl,fun i x e=>by simp at e⟩
def LV.snoc {v:V}{x:α} (h:LV R H vs xs) (r:R H v x):LV R H (vs++[v]) (xs++[x]):=by
 refine⟨by simp[h.1],fun i y e=>?_⟩;by_cases hi:i<xs.length
 ·rw[Y3 hi]at e;obtain⟨v',e',r'⟩:=h.2 i y e;exact⟨v',by rw[Y3 (by rw[h.1];exact hi)];exact e',r'⟩
 ·have hi':xs.length<=i:=by omega
  rw[YG hi']at e
  have h0:i-xs.length=0:=by
   cases q:i-xs.length with
   |zero=>rfl
   |succ k=>rw[q]at e;simp at e
  rw[h0]at e;have e2:x=y:=by simpa using e
  subst e2;refine⟨v,?_,r⟩;rw[YG (by rw[h.1];exact hi'),h.1,h0];rfl
def LV.get {i:Nat}{v:V} (h:LV R H vs xs) (e:vs[i]?=some v):∃x,xs[i]?=some x/\R H v x:=by
 have hi:i<xs.length:=by rw[←h.1];exact(ZV.mp e).1
 obtain⟨v',e',r⟩:=h.2 i xs[i] (by simp[hi]);rw[e]at e';cases e';exact⟨_,by simp[hi],r⟩
end
def Menu(m:List Int):Prop:=∃a b c d e:Int,m=[a,b,c,d,e]/\(1<=a/\a<=10)/\(1<=b/\b<=9/\(b=1\/b=3\/b=7\/b=9))/\(0<=c/\c<=9)/\(1<=d/\d<=1000)/\(1<=e/\e+d<=1001)
def Field(ps:List (Int×Int)):Prop:=∀q∈ps,1<=q.1/\q.1<=10/\1<=q.2/\q.2<=1000
def AU(js:List Int)(k z:Int):z∈SetR.addJ js k↔z∈js\/z=k:=by
 unfold SetR.addJ;split
 ·rename_i h;constructor
  ·exact fun x=>.inl x
  ·rintro(x|rfl)
   ·exact x
   ·exact h
 ·simp
def KD:∀(ns js:List Int) (z:Int),z∈ns.foldl SetR.addJ js↔z∈js\/z∈ns
 |[],js,z=>by simp
 |n::r,js,z=>by
  rw[List.foldl_cons,KD r,AU,ZL];constructor
  ·rintro((h|h)|h)
   ·exact .inl h
   ·exact .inr (.inl h)
   ·exact .inr (.inr h)
  ·rintro(h|h|h)
   ·exact .inl (.inl h)
   ·exact .inl (.inr h)
   ·exact .inr h
def Sb{js:List Int}(k:Int)(h:js.Nodup):(SetR.addJ js k).Nodup:=by
 unfold SetR.addJ;split
 ·exact h
 ·rename_i hk;exact Ws.mpr ⟨h,by simp,fun x hx y hy=>by rw[ZJ.mp hy];rintro rfl;exact hk hx⟩
def X6:∀(ns:List Int) {js:List Int},js.Nodup->(ns.foldl SetR.addJ js).Nodup
 |[],_,h=>h
 |n::r,js,h=>X6 r (Sb n h)
def Ko:∀(ns js:List Int),(ns.foldl SetR.addJ js).length<=js.length+ns.length
 |[],js=>by simp
 |n::r,js=>by
  have h1:=Ko r (SetR.addJ js n)
  have h2:(SetR.addJ js n).length<=js.length+1:=by
   unfold SetR.addJ;split
   ·omega
   ·simp
  rw[List.foldl_cons,Y1];omega
def Xp{l:List Int}(h:l.Pairwise (·<=·))(n:l.Nodup):l.Pairwise (· < ·):=by
 have:=h.and n
 exact this.imp fun {a b} h=>by have:=h.1;have:=h.2;omega
def KG{l₁ l₂:List Int}(h1:l₁.Pairwise (· < ·))(h2:l₂.Pairwise (· < ·))(h:∀z,z∈l₁↔z∈l₂):l₁=l₂:=by
 have n1:l₁.Nodup:=h1.imp fun {a b} h=>by omega
 have n2:l₂.Nodup:=h2.imp fun {a b} h=>by omega
 have p:l₁.Perm l₂:=(Wc n1 n2).mpr h;exact p.eq_of_pairwise (le:=(· < ·)) (fun a b _ _ x y=>by omega) h1 h2
def tenL:List Int:=[1,2,3,4,5,6,7,8,9,10]
def Bh{z:Int}:z∈tenL↔1<=z/\z<=10:=by
 unfold tenL;constructor
 ·intro h;simp only[ZL,Wz,or_false]at h;omega
 ·rintro⟨h1,h2⟩;simp only[ZL,Wz,or_false];omega
def Qo(ps:List (Int×Int)):List Int:=tenL.filter fun h=>decide (h∈ps.map (·.1))
def V9(ps:List (Int×Int)):(Qo ps).Pairwise (· < ·):=List.Pairwise.filter _ (by unfold tenL;decide)
def J6{ps:List (Int×Int)}(hF:Field ps){z:Int}:z∈Qo ps↔z∈ps.map (·.1):=by
 unfold Qo;rw[We,decide_eq_true_eq,Bh];constructor
 ·exact fun h=>h.2
 ·intro h;obtain⟨q,hq,rfl⟩:=YB.mp h
  have:=hF q hq
  exact⟨⟨this.1,this.2.1⟩,h⟩
def XW(ps:List (Int×Int)):(Qo ps).length<=10:=by
 have:=List.length_filter_le (fun h=>decide (h∈ps.map (·.1))) tenL
 exact this
def A5{ps:List (Int×Int)}{ns:List Int}(hF:Field ps)(p:ns.Perm ((ps.map (·.1)).foldl SetR.addJ []))(h:ns.Pairwise (·<=·)):ns=Qo ps:=by
 have nd:ns.Nodup:=p.symm.nodup (X6 _ List.nodup_nil);refine KG (Xp h nd) (V9 ps) fun z=>?_;rw[p.mem_iff,KD,J6 hF];simp
def AY(z:Int)(xs:List Int):inV (.int z) (xs.map V.int)=decide (z∈xs):=by
 unfold inV;rw[List.any_map]
 induction xs with
 |nil=>simp
 |cons x r ih=>
  rw[Wa,ih];show((x==z) || _)=_;by_cases e:x=z
  ·subst e;simp
  ·have:(x==z)=false:=by simpa using e
   rw[this];simp only[Bool.false_or];by_cases h:z∈r
   ·rw[ZF h,ZF (ZH _ h)]
   ·rw[ZI h,ZI];intro hz;rcases ZL.mp hz with hz|hz
    ·exact e hz.symm
    ·exact h hz
def Ff:tenL=(List.range 10).map fun(i:Nat)=>(1:Int)+(i:Int):=by decide
def N3(ps:List (Int×Int)):(List.range 10).filterMap (fun(i:Nat)=>if decide ((1:Int)+(i:Int)∈ps.map (·.1))=true then some (V.int (1+(i:Int)))else none)=(Qo ps).map V.int:=by
 unfold Qo;rw[Ff];generalize List.range 10=l
 induction l with
 |nil=>rfl
 |cons i r ih=>
  rw[Yy,ZG,List.filter_cons];by_cases h:(1:Int)+(i:Int)∈ps.map (·.1)
  ·rw[ZF h,ZA rfl,ZA rfl,ZG,←ih]
  ·rw[ZI h,Z8 (by decide),Z8 (by decide),←ih]
def KB{ps:List (Int×Int)}{os ns:List Int}(hp:os.Perm (Qo ps))(h1:ns.Perm os)(h2:ns.Pairwise (·<=·)):ns=Qo ps:=by
 have nd:(Qo ps).Nodup:=(V9 ps).imp fun {a b} h=>by omega
 have p:=h1.trans hp;have nd2:ns.Nodup:=p.symm.nodup nd;exact KG (Xp h2 nd2) (V9 ps) fun z=>p.mem_iff
section
variable (ps:List (Int×Int))
def tpM(y:Int):Nat->Int
 | 0=>0
 |j+1=>tpM y j+(if (ps.getD j (0,0)).1=y then(ps.getD j (0,0)).2 else 0)
def rsM(os:List Int)(h:Int):Nat->Int
 | 0=>0
 |j+1=>rsM os h j+(if os.idxOf h<os.idxOf (ps.getD j (0,0)).1 then(ps.getD j (0,0)).2 else 0)
def priM(os:List Int):Nat->Int
 | 0=>0
 |k+1=>priM os k+rsM ps os (ps.getD k (0,0)).1 k*(ps.getD k (0,0)).2
end
end M
namespace ExcR
open PySem PySem.Spec PyProof.Rows L2
structure KeepX (fs ex:List Addr) (h h':Heap):Prop where
 keep:∀b o,h.get? b=some o->b∉fs->b∉ex->h'.get? b=some o
 slot:∀b o,h.get? b=some o->b∉ex->∃sl,h'.get? b=some {o with slots:=sl}
 size:h.objs.size<=h'.objs.size
structure Trc (h:Heap) (e T:Addr) (cls fl:Value):Prop where
 ne:T≠e
 exc:∃oe vs,h.get? e=some oe/\oe.cls=cls/\oe.data=.fields vs/\vs[1]?=some (.ref T)
 ent:∃oT ts,h.get? T=some oT/\oT.data=.fields ts/\ts[3]?=some fl
section
variable {M:Model}{A:Around}{E:Value->Shared->Prop}{s:Shared}{base:Heap}{env:Env}{outer:List Env}{L e:Addr}
def NJ{oe:Obj}{vs:Array Value}{head:Value}{hadNext:Bool}{Q:Unit->Shared->Prop}(hfr:A.frames=some (env::outer))(hl:s.heap.FunFrames base (env::outer))(hf:env.frame=some L)(he:s.heap.get? e=some oe)(hd:oe.data=.fields vs)(hsz:1<vs.size)(h:∀h' T,s.heap.objs.size<=T->Trc h' e T oe.cls (rawInt L)->KeepX (frs (env::outer)) [e] s.heap h'->Q () {s with heap:=h'}) :
  wpAny M A (do let a ←frameOf env;let pl ←entryPlaceOf L hadNext;let b ←EntryCells.newEntry head a .none (rawInt L) .none pl;setField (.ref e) 1 b) Q E s:=by
 have hene:e∉frs (env::outer):=fun hm=>by
  obtain⟨_,o,ho,hnf⟩:=hl.mem hm;rw[he]at ho;cases ho
  exact hnf vs hd
 refine Z0 (wpAny_frameOf_fun hfr hl hf fun h1 s1=>Z0 (wpAny_entryPlaceOf fun pl hpl=>?_));unfold EntryCells.newEntry newFields;refine Z0 (Yw ?_ (hpl.sizeOk5 _ _ _ _ _));have he1:h1.get? e=some oe:=(s1.2.1 e hene).trans he;generalize eo:({cls:=.type "traceback",dict:=none,data:=.fields ([head,.ref L,.none,rawInt L,.none]++(if pl.isEmpty then List.replicate 6 Value.none else pl)).toArray}:Obj)=ot;have he2:=Z2 (h:=h1) ot he1;refine YM he2 hd hsz (h _ h1.objs.size (YA s1.1.symm) ?_ ?_)
 ·have ne1:h1.objs.size≠e:=WH (Z5 he1);have d3:=Ys hd (·.setIfInBounds 1 (Value.ref h1.objs.size));refine⟨ne1,⟨_,_,Yf _ he2 (YE d3),Obj.cls_mapFields _ _,d3,by simp[hsz]⟩,ot,_,?_,by rw[←eo],?_⟩
  ·exact(Yb _ _ (Ne.symm ne1)).trans (Z9 h1 (by rw[←eo];rfl))
  ·first
    |(simp;done)
    |(rcases hpl with rfl|⟨_,_,_,_,_,_,_,rfl⟩<;>simp)
 ·refine⟨fun b o q nb nx=>?_,fun b o q nx=>?_,?_⟩
  ·have hbe:b≠e:=fun z=>nx (by simp[z]);rw[Yb _ _ (Ne.symm hbe)];exact Z2 _ ((s1.2.1 b nb).trans q)
  ·have hbe:b≠e:=fun z=>nx (by simp[z]);obtain⟨sl,q1⟩:=s1.2.2 b o q;exact⟨sl,by rw[Yb _ _ (Ne.symm hbe)];exact Z2 _ q1⟩
  ·rw[Heap.size_update,Heap.size_push,s1.1];exact Ww _
def B9{oe:Obj}{vs:Array Value}{Q:Unit->Shared->Prop}(hfr:A.frames=some (env::outer))(hl:s.heap.FunFrames base (env::outer))(hf:env.frame=some L)(he:s.heap.get? e=some oe)(hd:oe.data=.fields vs)(h1:vs[1]?=some .none)(h:∀h' T,s.heap.objs.size<=T->Trc h' e T oe.cls (rawInt L)->KeepX (frs (env::outer)) [e] s.heap h'->Q () {s with heap:=h'}):wpAny M A (noteFrame (.ref e) env) Q E s:=by
 unfold noteFrame;simp only[hf];refine Z0 (wpAny_field he hd h1 ?_);rw[Z8 (by decide)];exact NJ hfr hl hf he hd (Array.getElem?_eq_some_iff.mp h1).1 h
def NX{T:Addr}{cls fl:Value}{Q:Unit->Shared->Prop}(x:Trc s.heap e T cls fl)(h:∀h',Trc h' e T cls .none->KeepX [] [T] s.heap h'->Q () {s with heap:=h'}) :
  wpAny M A (setField (.ref T) 3 .none) Q E s:=by
 obtain⟨ne,⟨oe,vs,g1,g2,g3,g4⟩,oT,ts,k1,k2,k3⟩:=x;have hz:=(Array.getElem?_eq_some_iff.mp k3).1;refine YM k1 k2 hz (h _ ?_ ?_)
 ·have d3:=Ys k2 (·.setIfInBounds 3 Value.none);exact⟨ne,⟨oe,vs,(Yb _ _ ne).trans g1,g2,g3,g4⟩,_,_,Yf _ k1 (YE d3),d3,by simp[hz]⟩
 ·have ot:∀b,b≠T->(s.heap.update T (Obj.mapFields (·.setIfInBounds 3 Value.none))).get? b=s.heap.get? b:=fun b hb=>Yb _ _ (Ne.symm hb);exact⟨fun b o q _ nx=>(ot b fun z=>nx (by simp[z])).trans q,fun b o q nx=>⟨o.slots,(ot b fun z=>nx (by simp[z])).trans q⟩,YA (Heap.size_update ..).symm⟩
def Cg{T:Addr}{cls fl:Value}{Q:Unit->Shared->Prop}(x:Trc s.heap e T cls fl)(h:∀h',Trc h' e T cls .none->KeepX [] [T] s.heap h'->Q () {s with heap:=h'}) :
  wpAny M A (setFlight (.ref e) none) Q E s:=by
 obtain⟨ne,⟨oe,vs,g1,g2,g3,g4⟩,_⟩:=id x;unfold setFlight;refine Z0 (wpAny_field g1 g3 g4 ?_);rw[ZA (show(Value.ref T != Value.none)=true from by simp)]
 exact NX x h
def ND{oe:Obj}{vs:Array Value}{Q:Unit->Shared->Prop}(hfr:A.frames=some (env::outer))(hl:s.heap.FunFrames base (env::outer))(hf:env.frame=some L)(he:s.heap.get? e=some oe)(hd:oe.data=.fields vs)(h1:vs[1]?=some .none)(h:∀h' T,s.heap.objs.size<=T->Trc h' e T oe.cls .none->KeepX (frs (env::outer)) [e] s.heap h'->Q () {s with heap:=h'}):wpAny M A (leaving env (.ref e)) Q E s:=by
 unfold leaving;refine Z0 (B9 hfr hl hf he hd h1 fun h2 T hT x K=>Cg x fun h3 x3 K3=>h h3 T hT x3 ?_);refine⟨fun b o q nb nx=>K3.keep b o (K.keep b o q nb nx) (by simp) (fun z=>?_),fun b o q nx=>?_,ZM K.size K3.size⟩
 ·rw[ZJ.mp z]at q;exact absurd (Z5 q) (Nat.not_lt.mpr hT)
 ·obtain⟨sl,q2⟩:=K.slot b o q nx;exact⟨sl,K3.keep b _ q2 (by simp) (fun z=>by rw[ZJ.mp z]at q;exact absurd (Z5 q) (Nat.not_lt.mpr hT))⟩
end
section
variable {P:Program}{w:World}{H H':Hp}{h h':Heap}{a:Addr}{o:HO}{fs ex:List Addr}
def has(x:ObjOk P w H h a o):∃u,h.get? a=some u:=by
 cases o with
 |lst xs=>exact let ⟨_,_,_,_,e⟩:=x;⟨_,e⟩
 |tup xs=>exact let ⟨_,_,_,u,e,_⟩:=x;⟨u,e⟩
 |dK kvs=>exact let ⟨_,_,_,_,u,_,_,e,_⟩:=x;⟨u,e⟩
 |dT kvs=>exact let ⟨_,_,_,_,u,_,_,e,_⟩:=x;⟨u,e⟩
 |set S n=>exact let ⟨u,_,_,_,e,_⟩:=x;⟨u,e⟩
 |ins C dx fs=>exact let ⟨_,_,_,e,_⟩:=x;⟨_,e⟩
 |own y=>exact x
 |xd fs=>exact let ⟨_,⟨u,_,_,e,_⟩,_⟩:=x;⟨u,e⟩
 |rng lo hi=>exact let ⟨_,_,_,e⟩:=x;⟨_,e⟩
 |frz ob u=>exact⟨_,x.1⟩
 |tbl ps=>exact⟨_,x⟩
 |met f y=>exact⟨_,x⟩
 |ext φ=>exact x.2.1
def Fu(ok:HOk P w H h)(e:h.get? a=none):H a=none:=by
 cases q:H a with
 |none=>rfl
 |some o=>
  obtain⟨u,z⟩:=has (ok a o q);rw[e]at z;cases z
def F7(ok:HOk P w H h)(k:KeepX fs ex h h')(hf:∀b∈fs,H b=none)(hx:∀b∈ex,H b=none):HOk P w H h':=fun a o e=>by
 refine(ok a o e).stay (fun b u hb q=>?_) (fun _ q=>q) (fun _ _ q=>q)
 have hn:H b≠none:=by
  rcases hb with rfl|hb
  ·rw[e];simp
  ·rw[hb];simp
 exact k.keep b u q (fun z=>hn (hf b z)) fun z=>hn (hx b z)
end
structure XAt (P:Program) (w:World) (outer:List Env) (H H':Hp) (s s':Shared) (a T C:Addr):Prop where
 os:s'.os=s.os
 bare:AllBare s'.gens
 un:Un (frs outer) [] H H' s.heap s'.heap
 hok:HOk P w H' s'.heap
 na:s.heap.get? a=none
 nT:s.heap.get? T=none
 fa:H' a=none
 fT:H' T=none
 tr:Trc s'.heap a T (.ref C) .none
def CXe(P:Program)(w:World):CXT:=fun outer H s E e s'=>∃a T C H',e=.ref a/\XAt P w outer H H' s s' a T C/\E (.ref C) none H'
section
variable {X:Cx}{pins:List (Addr×Obj)}{σ:L2.St}{H H':Hp}{s s':Shared}{a T C:Addr}
def Se{ex:List Addr}{h':Heap}(I:Inv X pins σ H s)(hex:X.ex=[])(k:KeepX (frs X.stack) ex s.heap h')(hx:∀b∈ex,X.s₀.heap.get? b=none):Un X.fs [] X.H₀ H X.s₀.heap h':=by
 have B:=I.base;rw[hex]at B;have out:∀b o,X.s₀.heap.get? b=some o->b∉ex:=fun b o q z=>by rw[hx b z]at q;cases q
 have nl:∀b o,X.s₀.heap.get? b=some o->b∉X.fs->b∉frs X.stack:=fun b o q nf z=>by
  rcases ZL.mp (I.stkSub b z)with e|e
  ·have h1:=Z5 q;have h2:=I.ok.above;rw[e]at h1;exact absurd h1 (Nat.not_lt.mpr h2)
  ·exact nf e
 refine⟨fun b o q n nf ne=>k.keep b o (B.keep b o q n nf ne) (nl b o q nf) (out b o q),fun b o q n hf ne=>?_,fun b o q n ne=>B.free b o q n ne,fun b o q ne=>?_,B.tups,B.frzs,B.tbls⟩
 ·obtain⟨sl,q1⟩:=B.slot b o q n hf ne;obtain⟨sl2,q2⟩:=k.slot b _ q1 (out b o q);exact⟨sl2,q2⟩
 ·obtain⟨o1,q1⟩:=B.there b o q ne;obtain⟨sl2,q2⟩:=k.slot b _ q1 (out b o q);exact⟨_,q2⟩
def Np{b:Addr}(I:Inv X pins σ H s)(hex:X.ex=[])(e:s.heap.get? b=none):X.s₀.heap.get? b=none:=by
 cases q:X.s₀.heap.get? b with
 |none=>rfl
 |some o=>
  obtain⟨u,z⟩:=I.base.there b o q (by rw[hex];simp);rw[e]at z;cases z
variable {E:Value->Shared->Prop}
def Bq{h':Heap}{oe:Obj}{vs:Array Value}(I:Inv X pins σ H s)(hex:X.ex=[])(hst:X.stack=X.env::X.outer)(hfr:X.env.frame=some X.env.locals)(keeps:∀b o,s.heap.get? b=some o->h'.get? b=some o)(new:s.heap.get? a=none)(he:h'.get? a=some oe)(hc:oe.cls=.ref C)(hd:oe.data=.fields vs)(h1:vs[1]?=some .none) :
  wpAny (model X.prog X.w) X.A (leaving X.env (.ref a)) (fun _ s2=>∃T2,XAt X.prog X.w X.outer X.H₀ H X.s₀ s2 a T2 C) E {s with heap:=h'}:=by
 have J:Inv X pins σ H {s with heap:=h'}:=I.call' (s':={s with heap:=h'}) (ch:=[]) rfl (Un.kept keeps) (I.hok.kept keeps) I.bare fun b z=>absurd z (by simp)
 have hF:=J.stack;have hA:=J.ok.frames;rw[hst]at hF hA;have fa:=Fu I.hok new;refine ND (s:={s with heap:=h'}) hA hF hfr he hd h1 fun h2 T2 hT2 tr k=>⟨T2,J.os,J.bare,?_,?_,Np I hex new,?_,fa,J.hok.fresh hT2,by rw[←hc];exact tr⟩
 ·exact Se J hex (by rw[hst];exact k) fun b hb=>by rw[ZJ.mp hb];exact Np I hex new
 ·exact F7 J.hok k (fun b hb=>J.stkFree b (by rw[hst];exact hb)) fun b hb=>by rw[ZJ.mp hb];exact fa
 ·exact Heap.get?_none_of_le (ZM J.sz hT2)
end
structure ErrCls (K:Za) (C:Addr):Prop where
 q:PySem.W.excIn K C [.type "ValueError",.type "Exception",.type "BaseException",.type "object"] "ValueError.__new__"=true
def ErrCls.obj {K:Za}{C:Addr}{h:Heap} (c:ErrCls K C) (k:K.In h):∃bm N nm q bs hdct sn sub ab col dd k0 k1 k2 k3 k5 mN,h.get? C=some (excClassObj nm q C N bs bm hdct sn sub ab col dd k0 k1 k2 k3 k5 "ValueError.__new__")/\h.Ns N mN/\mN "__init__"=none/\
  OwnTail h [.type "ValueError",.type "Exception",.type "BaseException",.type "object"] bm:=by
 have e:=c.q;unfold PySem.W.excIn at e;split at e
 next dd cd sl ho=>
  split at e
  next C1 bm k0 k1 k2 k3 n k5 hm hs=>
   simp only[Yj,beq_iff_eq,Bool.not_eq_true']at e;obtain⟨⟨⟨⟨⟨e1,e2⟩,e3⟩,e4⟩,e5⟩,e6⟩:=e;subst e1 e2;have hg:=k _ _ ho;cases cd with
   |mk nm bs mro ns qn hd sn sub ab col del=>
    simp only at hm e3 e5 e6
    have hsl:sl=#[k0,k1,k2,k3,some (.builtin "ValueError.__new__"),k5]:=by
     cases sl with
     |mk l=>simp only at hs;rw[hs]
    rw[hm,e3,hsl]at hg;exact⟨bm,ns,nm,qn,bs,hd,sn,sub,ab,col,dd,k0,k1,k2,k3,k5,_,hg,.of_isNs (PySem.W.isNs_of_in k e5),PySem.W.nsMap_none_of_in k e5 e6,PySem.W.tail_of_in k e4⟩
  next=>cases e
 next=>cases e
abbrev TF:=L2.St->Hp->Str->(Str->Hp->Prop)->Prop
def X4(X:Cx)(E:XK):Prop:=∀(pins:List (Addr×Obj)) (σ:L2.St) (H:Hp) (s:Shared) (C a:Addr) (h':Heap) (args:List Value),Inv X pins σ H s->Heap.MadeExcOf s.heap h' a (.ref C) args->E (.ref C) none H->X.xe (.ref a) {s with heap:=h'}
def P3(C:Addr)(E:XK)(t:TA):TS:=fun _ σ H=>t σ H fun vs H1=>vs.length<=sizeLine/\E (.ref C) none H1
section
variable {X:Cx}{x:Str}{C:Addr}{E:XK}{e:Expr}{es:List Expr}{t:TA}{p cpos pos:Pos}
def B0(c:ErrCls X.K C)(hm:X.mg x=some (.ref C))(hR:X4 X E)(hc:X.calm=true)(ha:PA X (e::es) t)(hg:Gl X x:=by rfl)(hdb:(x==("__debug__" : Str))=false:=by decide)(he:starEach (e::es) X.env=(false,eval e X.env)::starEach es X.env:=by rfl)(hpl:(backTo cpos (starEach es X.env)).any (·.1)=false:=by rfl):PS X (.Raise (some (.Call (.Name x p) (e::es) [] cpos)) none pos) (P3 C E t):=by
 intro pins s σ H D I h;obtain⟨bm,N,nm,q,bs,hdct,sn,sub,ab,col,dd,k0,k1,k2,k3,k5,mN,hC,hN,hni,hT⟩:=c.obj I.ok.mod.kin
 have hpl':(backTo cpos (starEach (e::es) X.env)).any (·.1)=false:=by
  rw[he];show(false || (backTo cpos (starEach es X.env)).any (·.1))=false;rw[hpl];rfl
 refine wpAny_Raise_call_subU (C:=C) (nm:=nm) (q:=q) (N:=N) (bs:=bs) (bm:=bm) (hdct:=hdct) (sn:=sn) (sub:=sub) (ab:=ab) (col:=col) (dd:=dd) (k0:=k0) (k1:=k1) (k2:=k2) (k3:=k3) (k5:=k5)
  PySem.F.excBase_ValueError (by decide +kernel) PySem.F.excBase_ValueError (hT.hasType (by decide +kernel)) (I.ok.hd hc) hpl' hni (PF I hg hm ⟨rfl,?_⟩ hdb)
 have hA:=ha cpos pins s σ H _ I h;rw[he]at hA ⊢;refine Calls.evalArgs_plain (thn hA fun us s2 ⟨vs,H2,I2,r2,q1,q2⟩=>⟨rfl,by rw[←r2.length];exact q1,I2.bk _ _ hC,hN.keeps I2.bk,hT.keeps I2.bk,fun h' a hm'=>?_⟩);exact hR pins σ H2 s2 C a h' us I2 hm' q2
end
section
variable {P:Program}{w:World}{K:Za}{mg:Str->Option Value}{base:Heap}{N ps:List Str}{qual x:Str}{scope:Scope}{f:Addr}{cd:Value}{A:Around}{outer:List Env}{s:Shared}{H:Hp}{E:XK}
def NN:X4 (cxOf (CXe P w) P w K mg base N qual scope f cd A outer s H E) E:=by
 intro pins σ H1 s1 C a h' args I m q;obtain⟨t,ht,_,_⟩:=m.there;exact Yh (Bq I rfl rfl rfl m.keeps m.new ht rfl rfl rfl) (fun _ s3 ⟨T2,y⟩=>⟨a,T2,C,H1,rfl,y,q⟩) fun _ _ z=>z
def Def.okX {st:Stmt}{k:Nat}{sp:Sp} (D:Own.Def K mg x st ps) (S:FnScope N ps (Qg st)) (len:∀vs H Q E,sp vs H Q E->vs.length=ps.length)
  (hbody:∀(f:Addr) (cdv:Value) (A:Around) (outer:List Env) (s:Shared) (H:Hp) (vs:List V) (Q:VK) (E:XK),Room k (A.deeper (envOfC x (Qg st) s.heap.objs.size f cdv))->sp vs H Q E->
   ∃t,PSs (cxOf (CXe P w) P w K mg base N x (Qg st) f cdv A outer s H E) (QC st) t/\t {nx:=fun _ H'=>Q .non H',rt:=Q} (start N vs) H):Own.Callee P w K mg base (CXe P w) (k+1) x ps sp:=by
 obtain⟨f,fd,F,hm,hb⟩:=D.ex;have kp:=F.kp;obtain⟨oc,od,kV,doc,pm,an,cdv,ct,osl,rfl,lk,hcd⟩:=F.ex;exact⟨f,_,Ky lk hcd S len fun A outer s H vs Q E hr hsp=>hbody f cdv A outer s H vs Q E hr hsp,hm,kp,⟨_,lk,rfl⟩,hb⟩
end
end ExcR
namespace ExcR
open PySem PySem.Spec PyProof.Rows L2
open Sem (wp)
structure ErrGet (K:Za) (C:Addr):Prop where
 c:ErrCls K C
 ga:PySem.W.findIn K (.ref C) "__getattribute__"=some (some (.builtin "BaseException.__getattribute__"))
 gt:PySem.W.findIn K (.ref C) "__getattr__"=some none
 cl:PySem.W.findIn K (.ref C) "__class__"=some (some (.builtin "object.__class__"))
 is:(PySem.W.clsIn K C).isSome=true
end ExcR
namespace ExcR
open PySem PySem.Spec PyProof.Rows L2
def ErrH(a C:Addr):HO:=.ext fun h=>∃o,h.get? a=some o/\o.cls=.ref C/\∃vs,o.data=.fields vs
def sufD(i:Nat)(D:Ends):Ends:={nx:=fun σ H=>D.nx (σ.set i none) H,rt:=D.rt,bk:=fun σ H=>D.bk (σ.set i none) H,ct:=fun σ H=>D.ct (σ.set i none) H}
def hx(K:Za)(C0:Addr)(i:Nat)(ts:TS)(D:Ends):L2.St->XK:=fun σ c _ H=>∃C,c=.ref C/\ErrGet K C/\PySem.W.exmOne K (.ref C) (.ref C0)=some true/\
 ∀a,H a=none->ts (sufD i D) (σ.set i (some (.ref a))) (upd H a (ErrH a C))
def Q4(mg:Str->Option Value)(x:Str):Addr:=match mg x with
 |some (.ref C)=>C
 |_=>0
def AJ{mg:Str->Option Value}{x:Str}{C:Addr}(h:mg x=some (.ref C)):Q4 mg x=C:=by unfold Q4;rw[h]
end ExcR
namespace Own
open PySem PySem.Spec PyProof.Rows L2 M
section
variable {X:Cx}{pins:List (Addr×Obj)}{σ:L2.St}{H:Hp}{s:Shared}
def eP(H:Hp)(q:Int×Int)(u:Value):Bool:=match u with
 | .ref a=>(match H a with
  |some (.tup [.int i,.int j])=>decide ((i,j)=q)
  |_=>false)
 |_=>false
end
end Own
namespace M
open PySem PySem.Spec PyProof.Rows L2 Own
section
variable {α:Type}{R:Hp->V->α->Prop}{H:Hp}
def LV.cons_iff {v:V}{vs:List V}{x:α}{xs:List α}:LV R H (v::vs) (x::xs)↔R H v x/\LV R H vs xs:=by
 constructor
 ·intro h;obtain⟨v',e,r⟩:=h.2 0 x rfl;cases e
  exact⟨r,by simpa using h.1,fun i y e=>h.2 (i+1) y e⟩
 ·rintro⟨r,h⟩;refine⟨by simp[h.1],fun i y e=>?_⟩;cases i with
  |zero=>cases e;exact⟨v,rfl,r⟩
  |succ i=>exact h.2 i y e
def pick(c:α->Bool)(d:V×α):Option V:=if c d.2=true then some d.1 else none
end
end M
namespace Own
open PySem PySem.Spec PyProof.Rows L2 M
section
variable {X:Cx}
def FA:QI X (.type "range") (fun xs H Q=>∃i j:Int,xs=[.int i,.int j]/\∀r,H r=none->Q (.ref r) (upd H r (.rng i j))):=by
 intro pins s σ H xs us Q I rv h;obtain⟨i,j,rfl,q⟩:=h;cases rv with
 |cons r rr=>
  cases rr with
  |cons r' rr=>
   cases rr
   obtain⟨t,rfl⟩:=r;obtain⟨t',rfl⟩:=r';refine call_range_2 ⟨.ref s.heap.objs.size,upd H s.heap.objs.size (.rng i j),?_,rfl,q _ (I.hok.fresh (Z4 _))⟩;exact I.laid (t':=s.toks+1) (fun b o e=>Z2 _ e) (Z4 _) ⟨t,t',s.toks,Z9 _ rfl⟩
def runI(i:Int)(n:Nat):List Int:=(List.range n).map fun(k:Nat)=>i+(k:Int)
def BD{i:Int}:∀(n:Nat) (us:List Value),us.length=n->(∀(j:Nat) (v:Value),us[j]?=some v->∃t,v=Value.int (i+(j:Int)*1) t)->Vals ((runI i n).map V.int) us:=by
 intro n us hl h
 have key:∀(us:List Value) (o:Nat),(∀(j:Nat) (v:Value),us[j]?=some v->∃t,v=Value.int (i+((o+j:Nat):Int)) t)->Vals (((List.range' o us.length).map fun(k:Nat)=>i+(k:Int)).map V.int) us:=by
  intro us
  induction us with
  |nil=>intro o _;exact .nil
  |cons u us ih=>
   intro o h;obtain⟨t,e⟩:=h 0 u rfl;show Vals (((List.range' o (us.length+1)).map fun(k:Nat)=>i+(k:Int)).map V.int) (u::us);rw[List.range'_succ,ZG,ZG];refine .cons ⟨t,by rw[e];simp⟩ (ih (o+1) fun j v hv=>?_);obtain⟨t',e'⟩:=h (j+1) v hv;exact⟨t',by rw[e'];congr 1<;>omega⟩
 have:=key us 0 (fun j v hv=>by obtain⟨t,e⟩:=h j v hv;exact⟨t,by rw[e];congr 1<;>omega⟩)
 unfold runI;rw[List.range_eq_range',←hl];exact this
def NQ(hc:X.calm=true):QI X (.type "list") (fun xs H Q=>∃(r:Addr) (i j:Int),xs=[.ref r]/\H r=some (.rng i j)/\(-(2 ^ 62)<=i/\i<2 ^ 62/\-(2 ^ 62)<=j/\j<2 ^ 62)/\(j-i).toNat<=1000000/\
  ∀l,H l=none->Q (.ref l) (upd H l (.lst ((runI i (j-i).toNat).map V.int)))):=by
 intro pins s σ H xs us Q I rv h;obtain⟨r,i,j,rfl,hr,⟨b1,b2,b3,b4⟩,hn,q⟩:=h;obtain⟨u,rfl,ru⟩:=rv.one;obtain rfl:u=Value.ref r:=ru;obtain⟨t,u,v,e⟩:=(show ObjOk X.prog X.w H s.heap r (.rng i j)from I.hok r _ hr)
 refine call_list_range (I.ok.hd hc) (show IsRange s.heap r i j 1 t u v from e) (small_one b1 b2 b3 b4) (rangeSize_nat i j) (ZM hn (by decide)) fun h' tk acc c hk hD hI=>?_
 refine⟨.ref s.heap.objs.size,upd H s.heap.objs.size (.lst ((runI i (j-i).toNat).map V.int)),?_,rfl,q _ (I.hok.fresh (Z4 _))⟩;have hv:Vals ((runI i (j-i).toNat).map V.int) acc.toList:=BD _ _ (by rw[ZW];exact hI.1) fun k w hw=>hI.2 k w (by rw[←hw,Yq]);refine I.laid (t':=tk) hk (Z4 _) ⟨?_,acc.toList,c,hv,by simpa using hD⟩;rw[Z1];unfold runI;rw[Z1,YU];exact ZM hn (by decide)
end
end Own
namespace M
def sl:List Int->List Int->Prop
 |x::xs,y::ys=>x<y\/(x=y/\sl xs ys)
 |_,_=>False
open Own
def exM(ps:List (Int×Int))(ns:List Int)(p:Nat):Int:=(ps.getD (ns.getD (p-1) 0-1).toNat (0,0)).2*(ps.getD (ns.getD p 0-1).toNat (0,0)).2
def Qs(ns:List Int)(p:Nat):List Int:=ns.take (p-1)++[ns.getD p 0,ns.getD (p-1) 0]++ns.drop (p+1)
def QT(ps:List (Int×Int)):List Int->List Int×Int->Option (List Int×Int)
 |[],st=>some st
 |p::r,st=>if p<1\/(ps.length:Int)<=p then none else QT ps r (Qs st.1 p.toNat,st.2+exM ps st.1 p.toNat)
def Jz{ns:List Int}{p:Nat}(h1:1<=p)(h2:p<ns.length):(Qs ns p).Perm ns:=by
 unfold Qs;have e1:ns.getD p 0=ns[p]:=by rw[Zz,Zy h2];rfl
 have e2:ns.getD (p-1) 0=ns[p-1]'(by omega):=by rw[Zz,Zy (by omega)];rfl
 rw[e1,e2]
 have e:ns=ns.take (p-1)++[ns[p-1]'(by omega),ns[p]]++ns.drop (p+1):=by
  have h3:ns.drop (p-1)=ns[p-1]'(by omega)::ns.drop (p-1+1):=Ya (by omega);have h4:ns.drop p=ns[p]::ns.drop (p+1):=Ya h2;have h5:p-1+1=p:=by omega
  rw[h5,h4]at h3
  calc ns=ns.take (p-1)++ns.drop (p-1):=(W4 _ _).symm
   _=_:=by rw[h3];simp
 refine List.Perm.trans ?_ (List.Perm.of_eq e.symm);exact List.Perm.append_right _ (List.Perm.append_left _ (List.Perm.swap _ _ _))
def runI_mem{n:Nat}{x:Int}:x∈runI 1 n↔1<=x/\x<=n:=by
 unfold runI;rw[YB];constructor
 ·rintro⟨k,hk,rfl⟩
  have:=YV.mp hk
  omega
 ·intro h;exact⟨(x-1).toNat,YV.mpr (by omega),by omega⟩
def VU(n:Nat):(runI 1 n).length=n:=by unfold runI;rw[Z1,YU]
def KE(ps:List (Int×Int))(st:List Int×Int):QT ps [] st=some st:=rfl
def JG(ps:List (Int×Int))(p:Int)(r:List Int)(st:List Int×Int):QT ps (p::r) st=if p<1\/(ps.length:Int)<=p then none else QT ps r (Qs st.1 p.toNat,st.2+exM ps st.1 p.toNat):=rfl
def By{α:Type}(a b:List α)(x y:α):((a++x::y::b).set a.length y).set (a.length+1) x=a++y::x::b:=by
 rw[List.set_append_right _ _ (Z4 _),Nat.sub_self,List.set_cons_zero,List.set_append_right _ _ (Ww _)]
 have:a.length+1-a.length=1:=by omega
 rw[this];rfl
def NA{ns:List Int}{p:Nat}(h1:1<=p)(h2:p<ns.length):(ns.set (p-1) ns[p]).set p (ns[p-1]'(by omega))=Qs ns p:=by
 have h3:ns.drop (p-1)=ns[p-1]'(by omega)::ns.drop (p-1+1):=Ya (by omega);have h4:ns.drop p=ns[p]::ns.drop (p+1):=Ya h2;have h5:p-1+1=p:=by omega
 rw[h5,h4]at h3;have e:ns=ns.take (p-1)++ns[p-1]'(by omega)::ns[p]::ns.drop (p+1):=by rw[←h3,W4]
 have e1:ns.getD p 0=ns[p]:=by rw[Zz,Zy h2];rfl
 have e2:ns.getD (p-1) 0=ns[p-1]'(by omega):=by rw[Zz,Zy (by omega)];rfl
 have hl:(ns.take (p-1)).length=p-1:=by rw[Yr];omega
 unfold Qs;rw[e1,e2];generalize ns[p-1]'(by omega)=x at e;generalize ns[p]=y at e;generalize ns.take (p-1)=a at e hl;generalize ns.drop (p+1)=b at e
 have:=By a b x y
 rw[hl,h5,←e]at this;rw[this];simp
end M
namespace Pu
open PySem PySem.Spec PyProof.Rows L2 Own
inductive D where
 |int (i:Int)|bl (b:Bool)|non|str (x:Str)|ty (n:String)|tup (ds:List D)|lst (ds:List D)|scr (ns:List Int)|dK (kvs:List (Key×V))|dT (kvs:List (List Key×V))|loc (a:Addr) (d:D)|err (C:Addr)|ref (a:Addr)|ins (C:Addr) (xs:List Str) (ds:List D)|dF (kvs:List (List Key×V))
mutual
inductive Rp (K:Za) (H:Hp):D->V->Prop
 |int (i:Int):Rp K H (.int i) (.int i)
 |bl (b:Bool):Rp K H (.bl b) (.bl b)
 |non:Rp K H .non .non
 |str (x:Str):Rp K H (.str x) (.str x)
 |ty (n:String):Rp K H (.ty n) (.ty n)
 |tup {ds:List D} {vs:List V} {a:Addr}:H a=some (.tup vs)->Rps K H ds vs->Rp K H (.tup ds) (.ref a)
 |lst {ds:List D} {vs:List V} {a:Addr}:H a=some (.lst vs)->Rps K H ds vs->Rp K H (.lst ds) (.ref a)
 |scr {ns:List Int} {a:Addr}:SqL K H a (ns.map V.int)->Rp K H (.scr ns) (.ref a)
 |dK {kvs:List (Key×V)} {a:Addr}:H a=some (.dK kvs)->Rp K H (.dK kvs) (.ref a)
 |dT {kvs:List (List Key×V)} {a:Addr}:H a=some (.dT kvs)->Rp K H (.dT kvs) (.ref a)
 |dF {kvs:List (List Key×V)} {o:Obj} {a:Addr}:H a=some (.frz o (.dT kvs))->Rp K H (.dF kvs) (.ref a)
 |loc {d:D} {a:Addr}:Rp K H d (.ref a)->Rp K H (.loc a d) (.ref a)
 |err {C a:Addr}:H a=some (ExcR.ErrH a C)->Rp K H (.err C) (.ref a)
 |ref (a:Addr):Rp K H (.ref a) (.ref a)
 |ins {C a dx:Addr} {xs:List Str} {ds:List D} {vs:List V}:H a=some (.ins C dx (xs.zip vs))->xs.length=vs.length->Rps K H ds vs->Rp K H (.ins C xs ds) (.ref a)
inductive Rps (K:Za) (H:Hp):List D->List V->Prop
 |nil:Rps K H [] []
 |cons {d:D} {v:V} {ds:List D} {vs:List V}:Rp K H d v->Rps K H ds vs->Rps K H (d::ds) (v::vs)
end
section
variable {K:Za}{H H':Hp}
mutual
def Rp.mono (S:Same H H'):∀{d:D}{v:V},Rp K H d v->Rp K H' d v
 |_,_,.int i=>.int i
 |_,_,.bl b=>.bl b
 |_,_,.non=>.non
 |_,_,.str x=>.str x
 |_,_,.ty n=>.ty n
 |_,_,.tup h r=>.tup (S _ _ h) (Rps.mono S r)
 |_,_,.lst h r=>.lst (S _ _ h) (Rps.mono S r)
 |_,_,.scr h=>.scr (S.seq h)
 |_,_,.dK h=>.dK (S _ _ h)
 |_,_,.dT h=>.dT (S _ _ h)
 |_,_,.loc h=>.loc (Rp.mono S h)
 |_,_,.dF h=>.dF (S _ _ h)
 |_,_,.err h=>.err (S _ _ h)
 |_,_,.ref a=>.ref a
 |_,_,.ins h e r=>.ins (S _ _ h) e (Rps.mono S r)
def Rps.mono (S:Same H H'):∀{ds:List D}{vs:List V},Rps K H ds vs->Rps K H' ds vs
 |_,_,.nil=>.nil
 |_,_,.cons h r=>.cons (Rp.mono S h) (Rps.mono S r)
end
def Rps.len:∀{ds:List D}{vs:List V},Rps K H ds vs->vs.length=ds.length
 |_,_,.nil=>rfl
 |_,_,.cons _ r=>Yd (· + 1) (Rps.len r)
def Rps.get:∀{ds:List D}{vs:List V}{i:Nat}{d:D},Rps K H ds vs->ds[i]?=some d->∃v,vs[i]?=some v/\Rp K H d v
 |_,_,_,_,.nil,e=>by simp at e
 |_,_,0,_,.cons h _,e=>by simp at e;subst e;exact⟨_,rfl,h⟩
 |_,_,i+1,d,.cons _ r,e=>by
  obtain⟨v,h1,h2⟩:=Rps.get (i:=i) (d:=d) r (by simpa using e);exact⟨v,by simpa using h1,h2⟩
def Rps.getV:∀{ds:List D}{vs:List V}{i:Nat}{v:V},Rps K H ds vs->vs[i]?=some v->∃d,ds[i]?=some d/\Rp K H d v
 |_,_,_,_,.nil,e=>by simp at e
 |_,_,0,_,.cons h _,e=>by simp at e;subst e;exact⟨_,rfl,h⟩
 |_,_,i+1,d,.cons _ r,e=>by
  obtain⟨v,h1,h2⟩:=Rps.getV (i:=i) (v:=d) r (by simpa using e);exact⟨v,by simpa using h1,h2⟩
def Rps.append:∀{ds es:List D}{vs us:List V},Rps K H ds vs->Rps K H es us->Rps K H (ds++es) (vs++us)
 |_,_,_,_,.nil,s=>s
 |_,_,_,_,.cons h r,s=>.cons h (Rps.append r s)
def Rps.drop:∀{ds:List D}{vs:List V} (n:Nat),Rps K H ds vs->Rps K H (ds.drop n) (vs.drop n)
 |_,_,0,r=>r
 |_,_,_+1,.nil=>.nil
 |_,_,n+1,.cons _ r=>Rps.drop n r
def Rps.take:∀{ds:List D}{vs:List V} (n:Nat),Rps K H ds vs->Rps K H (ds.take n) (vs.take n)
 |_,_,0,_=>.nil
 |_,_,_+1,.nil=>.nil
 |_,_,n+1,.cons h r=>.cons h (Rps.take n r)
end
mutual
def imm:D->Bool
 | .tup ds=>imms ds
 | .lst _=>false
 | .scr _=>false
 | .dK _=>false
 | .dT _=>false
 | .loc _ _=>false
 | .err _=>false
 | .ins _ _ _=>false
 |_=>true
def imms:List D->Bool
 |[]=>true
 |d::r=>imm d&&imms r
end
open Classical in
noncomputable def off(Z:Addr->Prop)(H:Hp):Hp:=fun b=>if Z b then none else H b
section
variable {K:Za}{H H':Hp}{Z Z':Addr->Prop}
def V3{b:Addr}{o:HO}(h:off Z H b=some o):H b=some o/\¬Z b:=by
 unfold off at h;by_cases z:Z b
 ·rw[ZA z]at h;cases h
 ·rw[Z8 z]at h;exact⟨h,z⟩
def QP{b:Addr}{o:HO}(h:H b=some o)(z:¬Z b):off Z H b=some o:=by
 unfold off;rw[Z8 z];exact h
def Ql(S:Same H H')(hz:∀b o,H b=some o->¬Z b->¬Z' b):Same (off Z H) (off Z' H'):=fun b o h=>by
 obtain⟨h1,h2⟩:=V3 h;exact QP (S b o h1) (hz b o h1 h2)
def off_sub:Same (off Z H) H:=fun _ _ h=>(V3 h).1
mutual
def Rp.off (hm:∀b,Z b->Mut (H b)):∀{d:D}{v:V},Rp K H d v->imm d=true->Rp K (off Z H) d v
 |_,_,.int i,_=>.int i
 |_,_,.bl b,_=>.bl b
 |_,_,.non,_=>.non
 |_,_,.str x,_=>.str x
 |_,_,.ty n,_=>.ty n
 |_,_,.tup h r,e=>.tup (QP h fun z=>by have:=hm _ z;rw[h]at this;exact this) (Rps.off hm r (by unfold imm at e;exact e))
 |_,_,.lst _ _,e=>by unfold imm at e;cases e
 |_,_,.scr _,e=>by unfold imm at e;cases e
 |_,_,.dK _,e=>by unfold imm at e;cases e
 |_,_,.dT _,e=>by unfold imm at e;cases e
 |_,_,.loc _,e=>by unfold imm at e;cases e
 |_,_,.dF h,_=>.dF (QP h fun z=>by have:=hm _ z;rw[h]at this;exact this)
 |_,_,.err _,e=>by unfold imm at e;cases e
 |_,_,.ref a,_=>.ref a
 |_,_,.ins _ _ _,e=>by unfold imm at e;cases e
def Rps.off (hm:∀b,Z b->Mut (H b)):∀{ds:List D}{vs:List V},Rps K H ds vs->imms ds=true->Rps K (off Z H) ds vs
 |_,_,.nil,_=>.nil
 |_,_,.cons h r,e=>by
  unfold imms at e;rw[Yj]at e;exact .cons (Rp.off hm h e.1) (Rps.off hm r e.2)
end
end
inductive O where
 |lst (ds:List D)|dK (kvs:List (Key×V))|dT (kvs:List (List Key×V))|ins (a C:Addr) (xs:List Str) (cs:List (Addr×List D))|lsA (a:Addr) (ds:List D)|nst (cs:List (Addr×List D))|nsl (a:Addr) (cs:List (Addr×List D))
instance:Coe (List D) O:=⟨O.lst⟩
def O.d:O->D
 | .lst ds=>.lst ds | .dK kvs=>.dK kvs | .dT kvs=>.dT kvs | .ins _ C xs cs=>.ins C xs (cs.map fun c=>.lst c.2) | .lsA _ ds=>.lst ds | .nst cs=>.tup (cs.map fun c=>.lst c.2) | .nsl _ cs=>.lst (cs.map fun c=>.lst c.2)
def O.adr (a:Addr):O->Addr->Prop
 | .lst _=>fun b=>b=a
 | .dK _=>fun b=>b=a
 | .dT _=>fun b=>b=a
 | .ins x _ _ cs=>fun b=>b=x\/∃c∈cs,b=c.1
 | .lsA x _=>fun b=>b=x
 | .nst cs=>fun b=>∃c∈cs,b=c.1
 | .nsl x cs=>fun b=>b=x\/∃c∈cs,b=c.1
def OR(K:Za)(F H:Hp)(a:Addr):O->Prop
 | .lst ds=>∃vs,H a=some (.lst vs)/\Rps K F ds vs
 | .dK kvs=>H a=some (.dK kvs)
 | .dT kvs=>H a=some (.dT kvs)
 | .lsA x ds=>a=x/\∃vs,H a=some (.lst vs)/\Rps K F ds vs
 | .ins x C xs cs=>a=x/\xs.length=cs.length/\(∃dx,H a=some (.ins C dx (xs.zip (cs.map fun c=>V.ref c.1))))/\(∀c∈cs,∃vs,H c.1=some (.lst vs)/\Rps K F c.2 vs)/\(cs.map (·.1)).Nodup
 | .nsl x cs=>a=x/\H a=some (.lst (cs.map fun c=>V.ref c.1))/\(∀c∈cs,∃vs,H c.1=some (.lst vs)/\Rps K F c.2 vs)/\(x::cs.map (·.1)).Nodup
 | .nst cs=>F a=some (.tup (cs.map fun c=>V.ref c.1))/\(∀c∈cs,∃vs,H c.1=some (.lst vs)/\Rps K F c.2 vs)/\(cs.map (·.1)).Nodup
def OR.mono {K:Za}{F F' H H':Hp}{a:Addr}{o:O} (S1:Same F F') (S2:∀b,o.adr a b->∀x,H b=some x->H' b=some x) (h:OR K F H a o):OR K F' H' a o:=by
 cases o with
 |lst ds=>obtain⟨vs,h1,h2⟩:=h;exact⟨vs,S2 _ rfl _ h1,Rps.mono S1 h2⟩
 |dK kvs=>exact S2 _ rfl _ h
 |dT kvs=>exact S2 _ rfl _ h
 |lsA x ds=>obtain⟨rfl,vs,h1,h2⟩:=h;exact⟨rfl,vs,S2 _ rfl _ h1,Rps.mono S1 h2⟩
 |nsl x cs=>
  obtain⟨e,h1,h2,h3⟩:=h;exact⟨e,S2 _ (.inl e) _ h1,fun c hc=>let ⟨vs,q1,q2⟩:=h2 c hc;⟨vs,S2 _ (.inr ⟨c,hc,rfl⟩) _ q1,Rps.mono S1 q2⟩,h3⟩
 |nst cs=>
  obtain⟨h1,h2,h3⟩:=h;exact⟨S1 _ _ h1,fun c hc=>let ⟨vs,q1,q2⟩:=h2 c hc;⟨vs,S2 _ ⟨c,hc,rfl⟩ _ q1,Rps.mono S1 q2⟩,h3⟩
 |ins x C xs cs=>
  obtain⟨e,l,⟨dx,h1⟩,h2,h3⟩:=h;exact⟨e,l,⟨dx,S2 _ (.inl e) _ h1⟩,fun c hc=>let ⟨vs,q1,q2⟩:=h2 c hc;⟨vs,S2 _ (.inr ⟨c,hc,rfl⟩) _ q1,Rps.mono S1 q2⟩,h3⟩
def Vr{K:Za}{F:Hp}:∀{cs:List (Addr×List D)},(∀c∈cs,∃vs,F c.1=some (.lst vs)/\Rps K F c.2 vs)->Rps K F (cs.map fun c=>.lst c.2) (cs.map fun c=>V.ref c.1)
 |[],_=>.nil
 |c::cs,h=>let ⟨_,q1,q2⟩:=h c ZK;.cons (.lst q1 q2) (Vr fun c' hc=>h c' (ZH _ hc))
def OR.rpIn {K:Za}{F F' H:Hp}{a:Addr}{o:O} (S1:Same F F') (S2:∀b,o.adr a b->∀x,H b=some x->F' b=some x) (h:OR K F H a o):Rp K F' o.d (.ref a):=by
 cases o with
 |lst ds=>obtain⟨vs,h1,h2⟩:=h;exact .lst (S2 _ rfl _ h1) (Rps.mono S1 h2)
 |dK kvs=>exact .dK (S2 _ rfl _ h)
 |dT kvs=>exact .dT (S2 _ rfl _ h)
 |lsA x ds=>obtain⟨rfl,vs,h1,h2⟩:=h;exact .lst (S2 _ rfl _ h1) (Rps.mono S1 h2)
 |nsl x cs=>
  obtain⟨e,h1,h2,h3⟩:=h;exact .lst (S2 _ (.inl e) _ h1) (Vr fun c hc=>let ⟨vs,q1,q2⟩:=h2 c hc;⟨vs,S2 _ (.inr ⟨c,hc,rfl⟩) _ q1,Rps.mono S1 q2⟩)
 |nst cs=>
  obtain⟨h1,h2,h3⟩:=h;exact .tup (S1 _ _ h1) (Vr fun c hc=>let ⟨vs,q1,q2⟩:=h2 c hc;⟨vs,S2 _ ⟨c,hc,rfl⟩ _ q1,Rps.mono S1 q2⟩)
 |ins x C xs cs=>
  obtain⟨e,l,⟨dx,h1⟩,h2,h3⟩:=h;exact .ins (S2 _ (.inl e) _ h1) (by rw[Z1];exact l) (Vr fun c hc=>let ⟨vs,q1,q2⟩:=h2 c hc;⟨vs,S2 _ (.inr ⟨c,hc,rfl⟩) _ q1,Rps.mono S1 q2⟩)
def OR.rp {K:Za}{F H:Hp}{a:Addr}{o:O} (S1:Same F H) (h:OR K F H a o):Rp K H o.d (.ref a):=h.rpIn S1 fun _ _ _ e=>e
def OR.mut {K:Za}{F H:Hp}{a:Addr}{o:O} (h:OR K F H a o):∀b,o.adr a b->Mut (H b):=by
 cases o with
 |lst ds=>obtain⟨vs,h1,h2⟩:=h;intro b e;rw[show b=a from e,h1];trivial
 |dK kvs=>intro b e;rw[show b=a from e,show H a=some (.dK kvs)from h];trivial
 |dT kvs=>intro b e;rw[show b=a from e,show H a=some (.dT kvs)from h];trivial
 |lsA x ds=>obtain⟨rfl,vs,h1,h2⟩:=h;intro b e;rw[show b=a from e,h1];trivial
 |nsl x cs=>
  obtain⟨e,h1,h2,h3⟩:=h;intro b hb;rcases hb with hb|⟨c,hc,hb⟩
  ·rw[show b=a from hb.trans e.symm,h1];trivial
  ·obtain⟨vs,q1,_⟩:=h2 c hc;rw[hb,q1];trivial
 |nst cs=>
  obtain⟨h1,h2,h3⟩:=h;rintro b ⟨c,hc,hb⟩;obtain⟨vs,q1,_⟩:=h2 c hc;rw[hb,q1];trivial
 |ins x C xs cs=>
  obtain⟨e,l,⟨dx,h1⟩,h2,h3⟩:=h;intro b hb;rcases hb with hb|⟨c,hc,hb⟩
  ·rw[show b=a from hb.trans e.symm,h1];trivial
  ·obtain⟨vs,q1,_⟩:=h2 c hc;rw[hb,q1];trivial
inductive S where
 |bor (d:D)|sh (d:D)|own (o:O)|view (o:O)|tmp (d:D)
abbrev Γ:=List (Option S)
def D.strip:D->D
 | .loc _ d=>d|d=>d
def Rp.strip {K:Za}{H:Hp}{d:D}{v:V} (h:Rp K H d v):Rp K H d.strip v:=by
 cases h with
 |loc h=>exact h
 |int i=>exact .int i
 |bl b=>exact .bl b
 |non=>exact .non
 |str x=>exact .str x
 |ty n=>exact .ty n
 |tup h r=>exact .tup h r
 |lst h r=>exact .lst h r
 |scr h=>exact .scr h
 |dK h=>exact .dK h
 |dT h=>exact .dT h
 |dF h=>exact .dF h
 |err h=>exact .err h
 |ref a=>exact .ref a
 |ins h e r=>exact .ins h e r
def S.d:S->D
 | .bor d=>d.strip | .sh d=>d | .own o=>o.d | .view o=>o.d | .tmp d=>d
def arg(d:D):S:=match imm d with|true=>.sh d|false=>.bor d
def argT(d:D):S:=match imm d with|true=>.sh d|false=>.tmp d
def S.sub:S->D->S
 | .bor _,e=>arg e | .tmp _,e=>argT e | .own (.nst _),e=>argT e | .view (.nst _),e=>argT e | .own (.nsl _ _),e=>argT e | .view (.nsl _ _),e=>argT e|_,e=>.sh e
def S.shd:S->Option D
 | .sh d=>some d | .own o=>some o.d
 | .bor d=>match imm d with|true=>some d|false=>none
 | .tmp d=>match imm d with|true=>some d|false=>none
 | .view _=>none
def S.slot:S->Option S
 | .view _=>none | .bor d=>some (.bor d) | .sh d=>some (.sh d) | .own ds=>some (.own ds)
 | .tmp d=>match imm d with|true=>some (.sh d)|false=>none
def A4(γ:Γ)(σ:L2.St)(b:Addr):Prop:=∃(i:Nat) (ds:O) (a:Addr),γ[i]?=some (some (.own ds))/\σ[i]?=some (some (.ref a))/\ds.adr a b
def zof(B:Addr->Prop)(γ:Γ)(σ:L2.St):Addr->Prop:=fun b=>B b\/A4 γ σ b
def SV(K:Za)(Z:Addr->Prop)(H0 H:Hp):S->V->Prop
 | .bor d,v=>Rp K H0 d v
 | .sh d,v=>Rp K (off Z H) d v
 | .own o,v=>∃a,v=.ref a/\(∀b,o.adr a b->H0 b=none)/\OR K (off Z H) H a o
 |_,_=>False
def TV(K:Za)(Z:Addr->Prop)(H0 H H':Hp):S->V->Prop
 | .bor d,v=>Rp K H0 d v
 | .sh d,v=>Rp K (off Z H') d v
 | .own o,v=>∃a,v=.ref a/\(∀b,o.adr a b->H b=none)/\OR K (off (fun b=>Z b\/o.adr a b) H') H' a o
 | .view o,v=>∃a,v=.ref a/\OR K (off Z H') H' a o
 | .tmp d,v=>Rp K H' d v
structure EnvR (K:Za) (H0:Hp) (B:Addr->Prop) (H:Hp) (σ:L2.St) (γ:Γ):Prop where
 same:Same H0 H
 len:σ.length=γ.length
 bm:∀b,B b->Mut (H b)
 own:∀(i j:Nat) (a a':Addr) (ds es:O) (b:Addr),γ[i]?=some (some (.own ds))->γ[j]?=some (some (.own es))->σ[i]?=some (some (.ref a))->σ[j]?=some (some (.ref a'))->ds.adr a b->es.adr a' b->i=j
 slot:∀(i:Nat) (s:S),γ[i]?=some (some s)->∃v,σ[i]?=some (some v)/\SV K (zof B γ σ) H0 H s v
section
variable {K:Za}{H0 H H1 H':Hp}{B Z Z':Addr->Prop}{σ:L2.St}{γ:Γ}
def Vu(S:Same H H'){b:Addr}(h:Mut (H b)):Mut (H' b):=by
 cases e:H b with
 |none=>rw[e]at h;exact h.elim
 |some o=>rw[S b o e,←e];exact h
def JI{b:Addr}(h:Mut (H b)):∃o,H b=some o:=by
 cases e:H b with
 |none=>rw[e]at h;exact h.elim
 |some o=>exact⟨o,rfl⟩
def EnvR.grow (E:EnvR K H0 B H σ γ) (S:Same H H'):EnvR K H0 B H' σ γ where
 same:=E.same.trans S
 len:=E.len
 bm b h:=Vu S (E.bm b h)
 own:=E.own
 slot i s h:=by
  obtain⟨v,h1,h2⟩:=E.slot i s h;refine⟨v,h1,?_⟩;cases s with
  |bor d=>exact h2
  |sh d=>exact Rp.mono (Ql S fun _ _ _ z=>z) h2
  |own ds=>
   obtain⟨a,e1,e3,e4⟩:=h2;exact⟨a,e1,e3,e4.mono (Ql S fun _ _ _ z=>z) fun b _ x=>S b x⟩
  |view ds=>exact h2
  |tmp d=>exact h2
def EnvR.zm (E:EnvR K H0 B H σ γ):∀b,zof B γ σ b->Mut (H b):=fun b h=>by
 rcases h with h|⟨i,ds,x,h1,h2,hb⟩
 ·exact E.bm b h
 ·obtain⟨v,e1,a,e2,e3,e4⟩:=E.slot i _ h1;rw[h2]at e1;cases e1
  cases e2
  exact e4.mut b hb
def TV.rp {s:S}{v:V} (h0:Same H0 H') (h:TV K Z H0 H H' s v):Rp K H' s.d v:=by
 cases s with
 |bor d=>exact(Rp.mono h0 h).strip
 |sh d=>exact Rp.mono off_sub h
 |own ds=>
  obtain⟨a,rfl,_,r⟩:=h;exact r.rp off_sub
 |view ds=>
  obtain⟨a,rfl,r⟩:=h;exact r.rp off_sub
 |tmp d=>exact h
def TV.grow {s:S}{v:V} (S1:Same H' H1) (h:TV K Z H0 H H' s v):TV K Z H0 H H1 s v:=by
 cases s with
 |bor d=>exact h
 |sh d=>exact Rp.mono (Ql S1 fun _ _ _ z=>z) h
 |own ds=>
  obtain⟨a,rfl,e0,r⟩:=h;exact⟨a,rfl,e0,r.mono (Ql S1 fun _ _ _ z=>z) fun b _ x=>S1 b x⟩
 |view ds=>
  obtain⟨a,rfl,r⟩:=h;exact⟨a,rfl,r.mono (Ql S1 fun _ _ _ z=>z) fun b _ x=>S1 b x⟩
 |tmp d=>exact Rp.mono S1 h
def TV.weak {s:S}{v:V} (S1:Same H H1) (hz:∀b,Z b->Z' b) (h:TV K Z' H0 H1 H' s v):TV K Z H0 H H' s v:=by
 cases s with
 |bor d=>exact h
 |sh d=>exact Rp.mono (Ql (Same.refl _) fun b _ _ z y=>z (hz b y)) h
 |own ds=>
  obtain⟨a,rfl,e0,r⟩:=h;exact⟨a,rfl,fun b hb=>S1.free (e0 b hb),r.mono (Ql (Same.refl _) fun b _ _ z y=>z (y.imp (hz b) id)) fun _ _ _ q=>q⟩
 |view ds=>
  obtain⟨a,rfl,r⟩:=h;exact⟨a,rfl,r.mono (Ql (Same.refl _) fun b _ _ z y=>z (hz b y)) fun _ _ _ q=>q⟩
 |tmp d=>exact h
def TV.shd {s:S}{v:V}{d:D} (h0:Same H0 H') (hm:∀b,Z b->Mut (H b)) (S1:Same H H') (h:TV K Z H0 H H' s v) (e:s.shd=some d):Rp K (off Z H') d v:=by
 have hm':∀b,Z b->Mut (H' b):=fun b z=>Vu S1 (hm b z);cases s with
 |bor d'=>
  unfold S.shd at e;cases q:imm d' with
  |false=>simp[q]at e
  |true=>
   simp[q]at e;subst e;exact Rp.off hm' (Rp.mono h0 h) q
 |sh d'=>cases e;exact h
 |own ds=>
  cases e
  obtain⟨a,rfl,e0,r⟩:=h;exact r.rpIn (Ql (Same.refl _) fun b _ _ z y=>z (.inl y)) fun b hb x e=>QP e fun z=>by have:=hm _ z;rw[e0 b hb]at this;exact this
 |view ds=>cases e
 |tmp d'=>
  unfold S.shd at e;cases q:imm d' with
  |false=>simp[q]at e
  |true=>
   simp[q]at e;subst e;exact Rp.off hm' h q
def argR{d:D}{v:V}(hm:∀b,Z b->Mut (H' b))(h0:Same H0 H')(h:Rp K H0 d v):TV K Z H0 H H' (arg d) v:=by
 unfold arg;cases q:imm d with
 |true=>exact Rp.off hm (Rp.mono h0 h) q
 |false=>exact h
def Vd{d:D}{v:V}(hm:∀b,Z b->Mut (H' b))(h:Rp K H' d v):TV K Z H0 H H' (argT d) v:=by
 unfold argT;cases q:imm d with
 |true=>exact Rp.off hm h q
 |false=>exact h
def Rp.lst_inv {ds:List D}{v:V} (h:Rp K H (.lst ds) v):∃a vs,v=.ref a/\H a=some (.lst vs)/\Rps K H ds vs:=by
 cases h with
 |lst h r=>exact⟨_,_,rfl,h,r⟩
def Rp.tup_inv {ds:List D}{v:V} (h:Rp K H (.tup ds) v):∃a vs,v=.ref a/\H a=some (.tup vs)/\Rps K H ds vs:=by
 cases h with
 |tup h r=>exact⟨_,_,rfl,h,r⟩
def TV.part {s:S}{v:V} (h0:Same H0 H') (hm:∀b,Z b->Mut (H b)) (S1:Same H H') (h:TV K Z H0 H H' s v) :
  (∀ds,s.d=.lst ds->∃a vs,v=.ref a/\H' a=some (.lst vs)/\vs.length=ds.length/\∀(i:Nat) d,ds[i]?=some d->∃u,vs[i]?=some u/\TV K Z H0 H H' (s.sub d) u)/\
  (∀ds,s.d=.tup ds->∃a vs,v=.ref a/\H' a=some (.tup vs)/\vs.length=ds.length/\∀(i:Nat) d,ds[i]?=some d->∃u,vs[i]?=some u/\TV K Z H0 H H' (s.sub d) u):=by
 have hm':∀b,Z b->Mut (H' b):=fun b z=>Vu S1 (hm b z);cases s with
 |bor d=>
  have h:=Rp.strip h;refine⟨fun ds e=>?_,fun ds e=>?_⟩<;>rw[show d.strip=_ from e]at h
  ·obtain⟨a,vs,rfl,h,r⟩:=Rp.lst_inv h;exact⟨_,_,rfl,h0 _ _ h,r.len,fun i d e=>let ⟨u,h1,h2⟩:=r.get e;⟨u,h1,argR hm' h0 h2⟩⟩
  ·obtain⟨a,vs,rfl,h,r⟩:=Rp.tup_inv h;exact⟨_,_,rfl,h0 _ _ h,r.len,fun i d e=>let ⟨u,h1,h2⟩:=r.get e;⟨u,h1,argR hm' h0 h2⟩⟩
 |sh d=>
  refine⟨fun ds e=>?_,fun ds e=>?_⟩<;>(have e':d=_:=e;subst e')
  ·obtain⟨a,vs,rfl,h,r⟩:=Rp.lst_inv h;exact⟨_,_,rfl,off_sub _ _ h,r.len,fun i d e=>r.get e⟩
  ·obtain⟨a,vs,rfl,h,r⟩:=Rp.tup_inv h;exact⟨_,_,rfl,off_sub _ _ h,r.len,fun i d e=>r.get e⟩
 |own es=>
  cases es with
  |lst es=>
   refine⟨fun ds e=>?_,fun ds e=>by cases e⟩;cases e
   obtain⟨a,rfl,e0,vs,e,r⟩:=h;exact⟨a,vs,rfl,e,r.len,fun i d e=>let ⟨u,h1,h2⟩:=r.get e;⟨u,h1,Rp.mono (Ql (Same.refl _) fun b _ _ z y=>z (.inl y)) h2⟩⟩
  |lsA x es=>
   refine⟨fun ds e=>?_,fun ds e=>by cases e⟩;cases e
   obtain⟨a,rfl,e0,_,vs,e,r⟩:=h;exact⟨a,vs,rfl,e,r.len,fun i d e=>let ⟨u,h1,h2⟩:=r.get e;⟨u,h1,Rp.mono (Ql (Same.refl _) fun b _ _ z y=>z (.inl y)) h2⟩⟩
  |dK es=>exact⟨(fun ds e=>by cases e),(fun ds e=>by cases e)⟩
  |dT es=>exact⟨(fun ds e=>by cases e),(fun ds e=>by cases e)⟩
  |nsl x cs=>
   refine⟨fun ds e=>?_,fun ds e=>by cases e⟩;cases e
   obtain⟨a,rfl,e0,_,e1,e2,e3⟩:=h;have r:Rps K H' (cs.map fun c=>D.lst c.2) (cs.map fun c=>V.ref c.1):=Vr fun c hc=>let ⟨vs,q1,q2⟩:=e2 c hc;⟨vs,q1,Rps.mono off_sub q2⟩;exact⟨a,_,rfl,e1,r.len,fun i d e=>let ⟨u,h1,h2⟩:=r.get e;⟨u,h1,Vd hm' h2⟩⟩
  |nst cs=>
   refine⟨(fun ds e=>by cases e),fun ds e=>?_⟩;cases e
   obtain⟨a,rfl,e0,e1,e2,e3⟩:=h;have r:Rps K H' (cs.map fun c=>D.lst c.2) (cs.map fun c=>V.ref c.1):=Vr fun c hc=>let ⟨vs,q1,q2⟩:=e2 c hc;⟨vs,q1,Rps.mono off_sub q2⟩;exact⟨a,_,rfl,off_sub _ _ e1,r.len,fun i d e=>let ⟨u,h1,h2⟩:=r.get e;⟨u,h1,Vd hm' h2⟩⟩
  |ins x C xs cs=>exact⟨(fun ds e=>by cases e),(fun ds e=>by cases e)⟩
 |view es=>
  cases es with
  |lst es=>
   refine⟨fun ds e=>?_,fun ds e=>by cases e⟩;cases e
   obtain⟨a,rfl,vs,e,r⟩:=h;exact⟨a,vs,rfl,e,r.len,fun i d e=>r.get e⟩
  |lsA x es=>
   refine⟨fun ds e=>?_,fun ds e=>by cases e⟩;cases e
   obtain⟨a,rfl,_,vs,e,r⟩:=h;exact⟨a,vs,rfl,e,r.len,fun i d e=>r.get e⟩
  |dK es=>exact⟨(fun ds e=>by cases e),(fun ds e=>by cases e)⟩
  |dT es=>exact⟨(fun ds e=>by cases e),(fun ds e=>by cases e)⟩
  |nsl x cs=>
   refine⟨fun ds e=>?_,fun ds e=>by cases e⟩;cases e
   obtain⟨a,rfl,_,e1,e2,e3⟩:=h;have r:Rps K H' (cs.map fun c=>D.lst c.2) (cs.map fun c=>V.ref c.1):=Vr fun c hc=>let ⟨vs,q1,q2⟩:=e2 c hc;⟨vs,q1,Rps.mono off_sub q2⟩;exact⟨a,_,rfl,e1,r.len,fun i d e=>let ⟨u,h1,h2⟩:=r.get e;⟨u,h1,Vd hm' h2⟩⟩
  |nst cs=>
   refine⟨(fun ds e=>by cases e),fun ds e=>?_⟩;cases e
   obtain⟨a,rfl,e1,e2,e3⟩:=h;have r:Rps K H' (cs.map fun c=>D.lst c.2) (cs.map fun c=>V.ref c.1):=Vr fun c hc=>let ⟨vs,q1,q2⟩:=e2 c hc;⟨vs,q1,Rps.mono off_sub q2⟩;exact⟨a,_,rfl,off_sub _ _ e1,r.len,fun i d e=>let ⟨u,h1,h2⟩:=r.get e;⟨u,h1,Vd hm' h2⟩⟩
  |ins x C xs cs=>exact⟨(fun ds e=>by cases e),(fun ds e=>by cases e)⟩
 |tmp d=>
  refine⟨fun ds e=>?_,fun ds e=>?_⟩<;>(have e':d=_:=e;subst e')
  ·obtain⟨a,vs,rfl,h,r⟩:=Rp.lst_inv h;exact⟨_,_,rfl,h,r.len,fun i d e=>let ⟨u,h1,h2⟩:=r.get e;⟨u,h1,Vd hm' h2⟩⟩
  ·obtain⟨a,vs,rfl,h,r⟩:=Rp.tup_inv h;exact⟨_,_,rfl,h,r.len,fun i d e=>let ⟨u,h1,h2⟩:=r.get e;⟨u,h1,Vd hm' h2⟩⟩
def Fr(B:Addr->Prop)(H:Hp)(σ:L2.St)(γ:Γ)(H':Hp)(σ':L2.St)(γ':Γ):Prop:=∀b o,H b=some o->¬zof B γ σ b->H' b=some o/\¬zof B γ' σ' b
def Fr.refl:Fr B H σ γ H σ γ:=fun _ _ h z=>⟨h,z⟩
def Fr.trans {H1 H2:Hp}{σ1 σ2:L2.St}{γ1 γ2:Γ} (a:Fr B H σ γ H1 σ1 γ1) (b:Fr B H1 σ1 γ1 H2 σ2 γ2):Fr B H σ γ H2 σ2 γ2:=fun x o h z=>let ⟨h1,z1⟩:=a x o h z;b x o h1 z1
def Fr.grow (S1:Same H H'):Fr B H σ γ H' σ γ:=fun _ _ h z=>⟨S1 _ _ h,z⟩
def Fr.off {H':Hp}{σ':L2.St}{γ':Γ} (f:Fr B H σ γ H' σ' γ'):Same (off (zof B γ σ) H) (Pu.off (zof B γ' σ') H'):=fun b o h=>by
 obtain⟨h1,h2⟩:=V3 h;obtain⟨h3,h4⟩:=f b o h1 h2;exact QP h3 h4
def Q1{α:Type}{l:List α}{i j:Nat}{x y:α}(h:(l.set i x)[j]?=some y):(j=i/\x=y/\i<l.length)\/(j≠i/\l[j]?=some y):=by
 rw[List.getElem?_set]at h;by_cases e:i=j
 ·subst e;rw[ZA rfl]at h;by_cases e2:i<l.length
  ·rw[ZA e2]at h;exact .inl ⟨rfl,Z6 h,e2⟩
  ·rw[Z8 e2]at h;cases h
 ·rw[Z8 e]at h;exact .inr ⟨fun z=>e z.symm,h⟩
def JW{α:Type}{l:List α}{i:Nat}{x:α}(h:i<l.length):(l.set i x)[i]?=some x:=by rw[Wu h]
def Vy{α:Type}{l:List α}{i j:Nat}{x:α}(h:j≠i):(l.set i x)[j]?=l[j]?:=YY fun z=>h z.symm
def EnvR.drop (E:EnvR K H0 B H σ γ) (i:Nat):EnvR K H0 B H σ (γ.set i none)/\Fr B H σ γ H σ (γ.set i none):=by
 have hz:∀b,zof B (γ.set i none) σ b->zof B γ σ b:=fun b z=>z.imp id fun⟨j,ds,a,h1,h2,h3⟩=>by
  rcases Q1 h1 with⟨_,e,_⟩|⟨_,e⟩
  ·cases e
  ·exact⟨j,ds,a,e,h2,h3⟩
 refine⟨⟨E.same,by rw[Yx];exact E.len,E.bm,fun k j a a' ds es b h1 h2=>?_,fun k s h=>?_⟩,fun b o h z=>⟨h,fun y=>z (hz b y)⟩⟩
 ·rcases Q1 h1 with⟨_,e,_⟩|⟨_,e1⟩
  ·cases e
  ·rcases Q1 h2 with⟨_,e,_⟩|⟨_,e2⟩
   ·cases e
   ·exact E.own k j a a' ds es b e1 e2
 ·rcases Q1 h with⟨_,e,_⟩|⟨_,e⟩
  ·cases e
  ·obtain⟨v,h1,h2⟩:=E.slot k s e;refine⟨v,h1,?_⟩;have S1:Same (Pu.off (zof B γ σ) H) (Pu.off (zof B (γ.set i none) σ) H):=Ql (Same.refl _) fun b _ _ z y=>z (hz b y);cases s with
   |bor d=>exact h2
   |sh d=>exact Rp.mono S1 h2
   |own ds=>
    obtain⟨a,e1,e3,e4⟩:=h2;exact⟨a,e1,e3,e4.mono S1 fun _ _ _ q=>q⟩
   |view ds=>exact h2
   |tmp d=>exact h2
def EnvR.put {i:Nat}{s s':S}{v:V} (E:EnvR K H0 B H σ γ) (S1:Same H H') (h:TV K (zof B γ σ) H0 H H' s v) (e:s.slot=some s') (hi:i<γ.length) :
  EnvR K H0 B H' (σ.set i (some v)) (γ.set i (some s'))/\Fr B H σ γ H' (σ.set i (some v)) (γ.set i (some s')):=by
 have hiσ:i<σ.length:=by rw[E.len];exact hi
 have E':=E.grow S1
 have isown:∀ds,s'=.own ds->s=.own ds:=fun ds q=>by
  subst q;cases s with
  |own es=>cases e;rfl
  |bor d=>cases e
  |sh d=>cases e
  |view d=>cases e
  |tmp d=>unfold S.slot at e;cases q:imm d<;>simp[q]at e
 have hown:∀b,zof B (γ.set i (some s')) (σ.set i (some v)) b->zof B γ σ b\/∃ds a,s=.own ds/\v=.ref a/\ds.adr a b:=fun b z=>by
  rcases z with z|⟨j,ds,a,h1,h2,h3⟩
  ·exact .inl (.inl z)
  ·rcases Q1 h1 with⟨ej,e1,_⟩|⟨nj,e1⟩
   ·subst ej;rw[JW hiσ]at h2
    have:s'=.own ds:=Z6 e1
    exact .inr ⟨ds,a,isown ds this,Z6 (Z6 h2),h3⟩
   ·rw[Vy nj]at h2;exact .inl (.inr ⟨j,ds,a,e1,h2,h3⟩)
 have fresh:∀ds a b,s=.own ds->v=.ref a->ds.adr a b->H b=none:=fun ds a b es ev hb=>by
  subst es;obtain⟨a',e1,e0,_⟩:=h;rw[ev]at e1;cases e1
  exact e0 b hb
 have hz:∀b o,H b=some o->¬zof B γ σ b->¬zof B (γ.set i (some s')) (σ.set i (some v)) b:=fun b o hb z y=>by
  rcases hown b y with y|⟨ds,a,y1,y2,y3⟩
  ·exact z y
  ·rw[fresh ds a b y1 y2 y3]at hb;cases hb
 have So:Same (off (zof B γ σ) H) (Pu.off (zof B (γ.set i (some s')) (σ.set i (some v))) H'):=Ql S1 hz;refine⟨⟨E'.same,by rw[Yx,Yx];exact E.len,E'.bm,fun k j a a' ds es b h1 h2 h3 h4 h5 h6=>?_,fun k u hk=>?_⟩,fun b o hb z=>⟨S1 b o hb,hz b o hb z⟩⟩
 ·have old:∀(k:Nat) (ds:O) (a b:Addr),γ[k]?=some (some (.own ds))->σ[k]?=some (some (.ref a))->ds.adr a b->∃o,H b=some o:=fun k ds a b e1 e2 e3=>by
   obtain⟨u,q1,a',q2,_,q3⟩:=E.slot k _ e1;rw[e2]at q1;cases q1
   cases q2
   exact JI (q3.mut b e3)
  rcases Q1 h1 with⟨ek,e1,_⟩|⟨nk,e1⟩
  ·rcases Q1 h2 with⟨ej,e2,_⟩|⟨nj,e2⟩
   ·rw[ek,ej]
   ·subst ek;rw[JW hiσ]at h3;rw[Vy nj]at h4;obtain⟨o,ho⟩:=old j es a' b e2 h4 h6;rw[fresh ds a b (isown ds (Z6 e1)) (Z6 (Z6 h3)) h5]at ho;cases ho
  ·rcases Q1 h2 with⟨ej,e2,_⟩|⟨nj,e2⟩
   ·subst ej;rw[JW hiσ]at h4;rw[Vy nk]at h3;obtain⟨o,ho⟩:=old k ds a b e1 h3 h5;rw[fresh es a' b (isown es (Z6 e2)) (Z6 (Z6 h4)) h6]at ho;cases ho
   ·rw[Vy nk]at h3;rw[Vy nj]at h4;exact E.own k j a a' ds es b e1 e2 h3 h4 h5 h6
 ·rcases Q1 hk with⟨ek,e1,_⟩|⟨nk,e1⟩
  ·subst ek
   have:u=s':=(Z6 e1).symm
   subst this;refine⟨v,JW hiσ,?_⟩;cases s with
   |own ds=>
    cases e
    obtain⟨a,rfl,e0,r⟩:=h;refine⟨a,rfl,fun b hb=>E.same.free (e0 b hb),r.mono (Ql (Same.refl _) fun b o _ z y=>?_) fun _ _ _ q=>q⟩;rcases hown b y with y|⟨_,_,y1,y,y2⟩
    ·exact z (.inl y)
    ·cases y;cases y1;exact z (.inr y2)
   |sh d=>
    cases e
    refine Rp.mono (Ql (Same.refl _) fun b o _ z y=>?_) h;rcases hown b y with y|⟨_,_,y,_⟩
    ·exact z y
    ·cases y
   |bor d=>cases e;exact h
   |view d=>cases e
   |tmp d=>
    unfold S.slot at e;cases q:imm d with
    |false=>simp[q]at e
    |true=>
     simp[q]at e;subst e;refine Rp.off (fun b y=>?_) h q;rcases hown b y with y|⟨_,_,y,_⟩
     ·exact Vu S1 (E.zm b y)
     ·cases y
  ·obtain⟨w,q1,q2⟩:=E.slot k u e1;refine⟨w,by rw[Vy nk];exact q1,?_⟩;cases u with
   |bor d=>exact q2
   |sh d=>exact Rp.mono So q2
   |own ds=>
    obtain⟨a,e1,e3,e4⟩:=q2;exact⟨a,e1,e3,e4.mono So fun b _ x=>S1 b x⟩
   |view ds=>exact q2
   |tmp d=>exact q2
def frz(i:Nat)(γ:Γ):Γ:=match γ[i]? with
 |some (some (.own o))=>γ.set i (some (.sh o.d))
 |_=>γ
def EnvR.frz (E:EnvR K H0 B H σ γ) (hB:∀b,B b->∃o,H0 b=some o) (i:Nat):EnvR K H0 B H σ (frz i γ)/\Fr B H σ γ H σ (Pu.frz i γ):=by
 unfold Pu.frz;split
 ·rename_i ds hi;have hlt:i<γ.length:=(ZV.mp hi).1
  have hz:∀b,zof B (γ.set i (some (.sh ds.d))) σ b->zof B γ σ b:=fun b z=>z.imp id fun⟨j,es,a,h1,h2,h3⟩=>by
   rcases Q1 h1 with⟨_,e,_⟩|⟨_,e⟩
   ·cases e
   ·exact⟨j,es,a,e,h2,h3⟩
  have S1:Same (Pu.off (zof B γ σ) H) (Pu.off (zof B (γ.set i (some (.sh ds.d))) σ) H):=Ql (Same.refl _) fun b _ _ z y=>z (hz b y);refine⟨⟨E.same,by rw[Yx];exact E.len,E.bm,fun k j a a' es es' b h1 h2=>?_,fun k s h=>?_⟩,fun b o h z=>⟨h,fun y=>z (hz b y)⟩⟩
  ·rcases Q1 h1 with⟨_,e,_⟩|⟨_,e1⟩
   ·cases e
   ·rcases Q1 h2 with⟨_,e,_⟩|⟨_,e2⟩
    ·cases e
    ·exact E.own k j a a' es es' b e1 e2
  ·rcases Q1 h with⟨ek,e,_⟩|⟨nk,e⟩
   ·subst ek
    have:=Z6 e
    subst this;obtain⟨v,h1,a,rfl,h3,h4⟩:=E.slot k _ hi;refine⟨_,h1,h4.rpIn S1 fun b hb x h2=>QP h2 fun z=>?_⟩;rcases z with z|⟨j,es,a',e1,e2,e3⟩
    ·obtain⟨o,ho⟩:=hB b z;rw[h3 b hb]at ho;cases ho
    ·rcases Q1 e1 with⟨_,q,_⟩|⟨nj,q⟩
     ·cases q
     ·exact nj (E.own j k a' a es ds b q hi e2 h1 e3 hb)
   ·obtain⟨v,h1,h2⟩:=E.slot k s e;refine⟨v,h1,?_⟩;cases s with
    |bor d=>exact h2
    |sh d=>exact Rp.mono S1 h2
    |own ds=>
     obtain⟨a,e1,e3,e4⟩:=h2;exact⟨a,e1,e3,e4.mono S1 fun _ _ _ q=>q⟩
    |view ds=>exact h2
    |tmp d=>exact h2
 ·exact⟨E,Fr.refl⟩
def EnvR.change {i:Nat}{a:Addr}{o o':O} (E:EnvR K H0 B H σ γ) (hi:γ[i]?=some (some (.own o))) (ha:σ[i]?=some (some (.ref a)))
  (hH:∀b x,H b=some x->¬o.adr a b->H' b=some x) (hm:∀b,o.adr a b->Mut (H' b)) (hadr:∀b,o'.adr a b->o.adr a b\/H b=none) (r:OR K (Pu.off (zof B (γ.set i (some (.own o'))) σ) H') H' a o') :
  EnvR K H0 B H' σ (γ.set i (some (.own o')))/\Fr B H σ γ H' σ (γ.set i (some (.own o'))):=by
 have hlt:i<γ.length:=(ZV.mp hi).1;obtain⟨v,h1,a',rfl,h3,h4⟩:=E.slot i _ hi;rw[ha]at h1;cases h1
 have za:∀b,o.adr a b->zof B γ σ b:=fun b hb=>.inr ⟨i,o,a,hi,ha,hb⟩
 have hz:∀b x,H b=some x->zof B (γ.set i (some (.own o'))) σ b->zof B γ σ b:=fun b x hx z=>by
  rcases z with z|⟨j,fs,a',e1,e2,e3⟩
  ·exact .inl z
  ·rcases Q1 e1 with⟨ej,q,_⟩|⟨_,e⟩
   ·subst ej;cases q
    rw[ha]at e2;cases e2
    rcases hadr b e3 with k|k
    ·exact za b k
    ·rw[k]at hx;cases hx
   ·exact .inr ⟨j,fs,a',e,e2,e3⟩
 have S1:Same (Pu.off (zof B γ σ) H) (Pu.off (zof B (γ.set i (some (.own o'))) σ) H'):=fun b x h=>by
  obtain⟨q1,q2⟩:=V3 h;exact QP (hH b x q1 fun k=>q2 (za b k)) fun z=>q2 (hz b x q1 z)
 have old:∀(k:Nat) (ds:O) (a b:Addr),γ[k]?=some (some (.own ds))->σ[k]?=some (some (.ref a))->ds.adr a b->∃o,H b=some o:=fun k ds a b e1 e2 e3=>by
  obtain⟨u,q1,a',q2,_,q3⟩:=E.slot k _ e1;rw[e2]at q1;cases q1
  cases q2
  exact JI (q3.mut b e3)
 refine⟨⟨fun b x h=>?_,by rw[Yx];exact E.len,fun b hb=>?_,fun k j x x' fs fs' b e1 e2 e3 e4 e5 e6=>?_,fun k s h=>?_⟩,fun b x h z=>⟨?_,fun y=>z (hz b x h y)⟩⟩
 ·exact hH b x (E.same b x h) fun k=>by rw[h3 b k]at h;cases h
 ·by_cases k:o.adr a b
  ·exact hm b k
  ·have:=E.bm b hb
   obtain⟨x,hx⟩:=JI this;rw[hH b x hx k,←hx];exact this
 ·rcases Q1 e1 with⟨ek,q1,_⟩|⟨nk,q1⟩
  ·rcases Q1 e2 with⟨ej,_,_⟩|⟨nj,q2⟩
   ·rw[ek,ej]
   ·subst ek;cases q1
    rw[ha]at e3;cases e3
    rcases hadr b e5 with w|w
    ·exact E.own k j _ _ _ _ b hi q2 ha e4 w e6
    ·obtain⟨u,hu⟩:=old j fs' x' b q2 e4 e6;rw[w]at hu;cases hu
  ·rcases Q1 e2 with⟨ej,q2,_⟩|⟨nj,q2⟩
   ·subst ej;cases q2
    rw[ha]at e4;cases e4
    rcases hadr b e6 with w|w
    ·exact E.own k j _ _ _ _ b q1 hi e3 ha e5 w
    ·obtain⟨u,hu⟩:=old k fs x b q1 e3 e5;rw[w]at hu;cases hu
   ·exact E.own k j x x' fs fs' b q1 q2 e3 e4 e5 e6
 ·rcases Q1 h with⟨ek,e,_⟩|⟨nk,e⟩
  ·subst ek
   have:=Z6 e
   subst this;exact⟨_,ha,a,rfl,fun b hb=>(hadr b hb).elim (h3 b) fun w=>E.same.free w,r⟩
  ·obtain⟨v,q1,q2⟩:=E.slot k s e;refine⟨v,q1,?_⟩;cases s with
   |bor d=>exact q2
   |sh d=>exact Rp.mono S1 q2
   |own fs=>
    obtain⟨x,rfl,e3,e4⟩:=q2;exact⟨x,rfl,e3,e4.mono S1 fun b hb y e2=>hH b y e2 fun w=>nk (E.own k i x a fs o b e hi q1 ha hb w)⟩
   |view ds=>exact q2
   |tmp d=>exact q2
 ·exact hH b x h fun k=>z (za b k)
def EnvR.mutate {i:Nat}{a:Addr}{ds es:O}{us:HO} (E:EnvR K H0 B H σ γ) (hi:γ[i]?=some (some (.own ds))) (ha:σ[i]?=some (some (.ref a))) (hu:Mut (some us)) (r:∀F H':Hp,Same (Pu.off (zof B γ σ) H) F->H' a=some us->OR K F H' a es)
  (k1:ds.adr a=fun b=>b=a:=by rfl) (k2:es.adr a=fun b=>b=a:=by rfl) :
  EnvR K H0 B (upd H a us) σ (γ.set i (some (.own es)))/\Fr B H σ γ (upd H a us) σ (γ.set i (some (.own es))):=by
 refine E.change (o:=ds) (o':=es) hi ha (fun b x h n=>by rw[Qh (fun z=>n (by rw[k1];exact z))];exact h) (fun b h=>by rw[k1]at h;rw[show b=a from h,Qn];exact hu) (fun b h=>.inl (by rw[k1];rw[k2]at h;exact h)) (r _ _ ?_ Qn)
 intro b x h;obtain⟨q1,q2⟩:=V3 h;have nb:b≠a:=fun z=>q2 (.inr ⟨i,ds,a,hi,ha,by rw[k1];exact z⟩);refine QP (by rw[Qh nb];exact q1) fun z=>q2 ?_;rcases z with z|⟨j,fs,a',e1,e2,e3⟩
 ·exact .inl z
 ·rcases Q1 e1 with⟨ej,q,_⟩|⟨_,e⟩
  ·subst ej;cases q
   rw[ha]at e2;cases e2
   rw[k2]at e3;exact absurd e3 nb
  ·exact .inr ⟨j,fs,a',e,e2,e3⟩
end
end Pu
namespace Pu
open PySem PySem.Spec PyProof.Rows L2 Own
abbrev XR:=Str->Prop
abbrev PTE:=Γ->(S->Prop)->XR->Prop
abbrev PTT:=Γ->(Bool->Prop)->XR->Prop
abbrev PTA:=Γ->(List S->Prop)->XR->Prop
abbrev PTO:=Γ->(Option Int->Prop)->XR->Prop
structure PEnds where
 nx:Γ->Prop
 rt:S->Prop
 ex:Γ->Str->Prop
 bk:Γ->Prop:=fun _=>False
 ct:Γ->Prop:=fun _=>False
 rv:Γ->D->Prop:=fun _ _=>False
abbrev PTS:=PEnds->Γ->Prop
abbrev PTG:=S->Γ->(Γ->Prop)->Prop
abbrev PTGs:=List S->Γ->(Γ->Prop)->Prop
inductive TVs (K:Za) (Z:Addr->Prop) (H0 H H':Hp):List S->List V->Prop
 |nil:TVs K Z H0 H H' [] []
 |cons {s:S} {v:V} {ss:List S} {vs:List V}:TV K Z H0 H H' s v->TVs K Z H0 H H' ss vs->TVs K Z H0 H H' (s::ss) (v::vs)
section
variable (K:Za) (mg:Str->Option Value) (E:L2.St->XK)
def SndE(t:TE)(p:PTE):Prop:=∀(H0:Hp) (B:Addr->Prop) (H:Hp) (σ:L2.St) (γ:Γ) (R:S->Prop) (X:XR) (Q:VK),EnvR K H0 B H σ γ->p γ R X->
 (∀s v H',R s->Same H H'->TV K (zof B γ σ) H0 H H' s v->Q v H')->(∀c H',X c->Same H H'->E σ (.ref (ExcR.Q4 mg c)) none H')->t σ H Q
def SndT(t:TT)(p:PTT):Prop:=∀(H0:Hp) (B:Addr->Prop) (H:Hp) (σ:L2.St) (γ:Γ) (R:Bool->Prop) (X:XR) (Q:Bool->Hp->Prop),EnvR K H0 B H σ γ->p γ R X->
 (∀b H',R b->Same H H'->Q b H')->(∀c H',X c->Same H H'->E σ (.ref (ExcR.Q4 mg c)) none H')->t σ H Q
def SndA(t:TA)(p:PTA):Prop:=∀(H0:Hp) (B:Addr->Prop) (H:Hp) (σ:L2.St) (γ:Γ) (R:List S->Prop) (X:XR) (Q:List V->Hp->Prop),EnvR K H0 B H σ γ->p γ R X->
 (∀ss vs H',R ss->Same H H'->TVs K (zof B γ σ) H0 H H' ss vs->Q vs H')->(∀c H',X c->Same H H'->E σ (.ref (ExcR.Q4 mg c)) none H')->t σ H Q
def SndO(t:TO)(p:PTO):Prop:=∀(H0:Hp) (B:Addr->Prop) (H:Hp) (σ:L2.St) (γ:Γ) (R:Option Int->Prop) (X:XR) (Q:Option Int->Hp->Prop),EnvR K H0 B H σ γ->p γ R X->
 (∀o H',R o->Same H H'->Q o H')->(∀c H',X c->Same H H'->E σ (.ref (ExcR.Q4 mg c)) none H')->t σ H Q
structure EndR (H0:Hp) (B:Addr->Prop) (H:Hp) (σ:L2.St) (γ:Γ) (R:PEnds) (D:Ends):Prop where
 nx:∀σ' γ' H',R.nx γ'->EnvR K H0 B H' σ' γ'->Fr B H σ γ H' σ' γ'->D.nx σ' H'
 rt:∀s v H',R.rt s->Same H0 H'->TV K B H0 H0 H' s v->D.rt v H'
 ex:∀σ' γ' c H',R.ex γ' c->EnvR K H0 B H' σ' γ'->Fr B H σ γ H' σ' γ'->E σ' (.ref (ExcR.Q4 mg c)) none H'
 bk:∀σ' γ' H',R.bk γ'->EnvR K H0 B H' σ' γ'->Fr B H σ γ H' σ' γ'->D.bk σ' H'
 ct:∀σ' γ' H',R.ct γ'->EnvR K H0 B H' σ' γ'->Fr B H σ γ H' σ' γ'->D.ct σ' H'
 rv:∀σ' γ' d v H',R.rv γ' d->EnvR K H0 B H' σ' γ'->Fr B H σ γ H' σ' γ'->Rp K (off (zof B γ' σ') H') d v->D.rt v H'
def SndS(t:TS)(p:PTS):Prop:=∀(H0:Hp) (B:Addr->Prop) (H:Hp) (σ:L2.St) (γ:Γ) (R:PEnds) (D:Ends),(∀b,B b->∃o,H0 b=some o)->EnvR K H0 B H σ γ->p R γ->EndR K mg E H0 B H σ γ R D->t D σ H
end
section
variable {K:Za}{mg:Str->Option Value}{E:L2.St->XK}{H0 H H1 H':Hp}{B Z Z':Addr->Prop}{σ:L2.St}{γ:Γ}
def TVs.weakG {H1 H2:Hp}:∀{ss:List S}{vs:List V},Same H H1->TVs K Z H0 H1 H2 ss vs->TVs K Z H0 H H2 ss vs
 |_,_,_,.nil=>.nil
 |_,_,S1,.cons h r=>.cons (TV.weak S1 (fun _ z=>z) h) (TVs.weakG S1 r)
def TVs.rps (h0:Same H0 H'):∀{ss:List S}{vs:List V},TVs K Z H0 H H' ss vs->Rps K H' (ss.map S.d) vs
 |_,_,.nil=>.nil
 |_,_,.cons h r=>.cons (h.rp h0) (TVs.rps h0 r)
def TVs.shd {ds:List D} (h0:Same H0 H') (hm:∀b,Z b->Mut (H b)) (S1:Same H H'):∀{ss:List S}{vs:List V}{ds:List D},TVs K Z H0 H H' ss vs->ss.map S.shd=ds.map some->Rps K (off Z H') ds vs
 |_,_,[],.nil,_=>.nil
 |_,_,_::_,.nil,e=>by cases e
 |_,_,[],.cons _ _,e=>by cases e
 |_,_,d::ds,.cons h r,e=>by
  rw[ZG,ZG,List.cons.injEq]at e;exact .cons (h.shd h0 hm S1 e.1) (TVs.shd (ds:=ds) h0 hm S1 r e.2)
def Rp.int_inv {i:Int}{v:V} (h:Rp K H (.int i) v):v=.int i:=by cases h;rfl
def Rp.bl_inv {b:Bool}{v:V} (h:Rp K H (.bl b) v):v=.bl b:=by cases h;rfl
def Rp.str_inv {x:Str}{v:V} (h:Rp K H (.str x) v):v=.str x:=by cases h;rfl
def Rp.non_inv {v:V} (h:Rp K H .non v):v=.non:=by cases h;rfl
def Rp.ty_inv {n:String}{v:V} (h:Rp K H (.ty n) v):v=.ty n:=by cases h;rfl
def pVar(i:Nat):PTE:=fun γ R _=>match γ[i]? with
 |some (some (.own ds))=>R (.view ds)
 |some (some s)=>R s
 |_=>False
def WX(i:Nat):SndE K mg E (tVar i) (pVar i):=by
 intro H0 B H σ γ R X Q env h q _;unfold pVar at h;split at h
 ·rename_i ds e;obtain⟨v,h1,a,rfl,h3,h4⟩:=env.slot i _ e;exact⟨_,h1,q _ _ H h (Same.refl _) ⟨a,rfl,h4⟩⟩
 ·rename_i s ns e;obtain⟨v,h1,h2⟩:=env.slot i _ e;refine⟨v,h1,q _ _ H h (Same.refl _) ?_⟩;cases s with
  |bor d=>exact h2
  |sh d=>exact h2
  |own ds=>exact absurd rfl (ns ds)
  |view ds=>exact h2.elim
  |tmp d=>exact h2.elim
 ·exact h.elim
def pC(d:D):PTE:=fun _ R _=>R (.sh d)
def se_c{d:D}{v:V}(h:∀H,Rp K H d v):SndE K mg E (tC v) (pC d):=by
 intro H0 B H σ γ R X Q env p q _;exact q _ _ H p (Same.refl _) (h _)
def Qb{i:Int}:SndE K mg E (tC (.int i)) (pC (.int i)):=se_c fun _=>.int i
def Vq{b:Bool}:SndE K mg E (tC (.bl b)) (pC (.bl b)):=se_c fun _=>.bl b
def U4:SndE K mg E (tC .non) (pC .non):=se_c fun _=>.non
def Cn{x:Str}:SndE K mg E (tC (.str x)) (pC (.str x)):=se_c fun _=>.str x
def XE{n:String}:SndE K mg E (tC (.ty n)) (pC (.ty n)):=se_c fun _=>.ty n
def p2(a b:PTE)(f:S->S->(S->Prop)->Prop):PTE:=fun γ R X=>a γ (fun x=>b γ (fun y=>f x y R) X) X
def se_2{r:R2}{ta tb:TE}{a b:PTE}{f:S->S->(S->Prop)->Prop}(ha:SndE K mg E ta a)(hb:SndE K mg E tb b)(hr:∀(H0 H H2:Hp) (Z:Addr->Prop) (x y:S) (v u:V) (R:S->Prop) (Q:VK),Same H0 H2->Same H H2->(∀b,Z b->Mut (H b))->TV K Z H0 H H2 x v->TV K Z H0 H H2 y u->f x y R->(∀s z H',R s->Same H2 H'->TV K Z H0 H H' s z->Q z H')->r v u H2 Q) :
  SndE K mg E (tOp r ta tb) (p2 a b f):=by
 intro H0 B H σ γ R X Q env p q qx;refine ha H0 B H σ γ _ X _ env p (fun x v H1 h1 S1 t1=>?_) qx;have env1:=env.grow S1;refine hb H0 B H1 σ γ _ X _ env1 h1 (fun y u H2 h2 S2 t2=>?_) fun c H' hc S'=>qx c H' hc (S1.trans S');exact hr H0 H H2 _ x y v u R Q (env1.same.trans S2) (S1.trans S2) env.zm (t1.grow S2) (TV.weak S1 (fun _ z=>z) t2) h2 fun s z H' hs S3 t3=>q s z H' hs ((S1.trans S2).trans S3) t3
def fI0(g:Int->Int->D):S->S->(S->Prop)->Prop:=fun x y R=>match x.d,y.d with
 | .int i,.int j=>R (.sh (g i j))
 |_,_=>False
def fI(C:Int->Int->Prop)(g:Int->Int->D):S->S->(S->Prop)->Prop:=fun x y R=>match x.d,y.d with
 | .int i,.int j=>C i j/\R (.sh (g i j))
 |_,_=>False
def VS{g:Int->Int->V}{g':Int->Int->D}{ta tb:TE}{a b:PTE}(hg:∀H i j,Rp K H (g' i j) (g i j))(ha:SndE K mg E ta a)(hb:SndE K mg E tb b):SndE K mg E (tOp (rI0 g) ta tb) (p2 a b (fI0 g')):=by
 refine se_2 ha hb fun H0 H H2 Z x y v u R Q s0 s1 hm tx ty h q=>?_;unfold fI0 at h;have rx:=tx.rp s0;have ry:=ty.rp s0;split at h
 ·rename_i i j e1 e2;rw[e1]at rx;rw[e2]at ry;exact⟨i,j,rx.int_inv,ry.int_inv,q _ _ H2 h (Same.refl _) (hg _ i j)⟩
 ·exact h.elim
def se_I{C:Int->Int->Prop}{g:Int->Int->V}{g':Int->Int->D}{ta tb:TE}{a b:PTE}(hg:∀H i j,Rp K H (g' i j) (g i j))(ha:SndE K mg E ta a)(hb:SndE K mg E tb b):SndE K mg E (tOp (rI C g) ta tb) (p2 a b (fI C g')):=by
 refine se_2 ha hb fun H0 H H2 Z x y v u R Q s0 s1 hm tx ty h q=>?_;unfold fI at h;have rx:=tx.rp s0;have ry:=ty.rp s0;split at h
 ·rename_i i j e1 e2;rw[e1]at rx;rw[e2]at ry;exact⟨i,j,rx.int_inv,ry.int_inv,h.1,q _ _ H2 h.2 (Same.refl _) (hg _ i j)⟩
 ·exact h.elim
section
variable {ta tb tc:TE}{a b c:PTE}
def Vx(ha:SndE K mg E ta a)(hb:SndE K mg E tb b):SndE K mg E (tOp (rI0 fun i j=>.int (i+j)) ta tb) (p2 a b (fI0 fun i j=>.int (i+j))):=VS (fun _ _ _=>.int _) ha hb
def Q3(ha:SndE K mg E ta a)(hb:SndE K mg E tb b):SndE K mg E (tOp (rI0 fun i j=>.int (i-j)) ta tb) (p2 a b (fI0 fun i j=>.int (i-j))):=VS (fun _ _ _=>.int _) ha hb
def Xw(ha:SndE K mg E ta a)(hb:SndE K mg E tb b):SndE K mg E (tOp (rI CMul fun i j=>.int (i*j)) ta tb) (p2 a b (fI CMul fun i j=>.int (i*j))):=se_I (fun _ _ _=>.int _) ha hb
def KF(ha:SndE K mg E ta a)(hb:SndE K mg E tb b):SndE K mg E (tOp (rI CDiv fun i j=>.int (i / j)) ta tb) (p2 a b (fI CDiv fun i j=>.int (i / j))):=se_I (fun _ _ _=>.int _) ha hb
def Nm(ha:SndE K mg E ta a)(hb:SndE K mg E tb b):SndE K mg E (tOp (rI (fun _ j=>0<j) fun i j=>.int (i % j)) ta tb) (p2 a b (fI (fun _ j=>0<j) fun i j=>.int (i % j))):=se_I (fun _ _ _=>.int _) ha hb
def BX(ha:SndE K mg E ta a)(hb:SndE K mg E tb b):SndE K mg E (tOp (rI0 fun i j=>.bl (decide (i<j))) ta tb) (p2 a b (fI0 fun i j=>.bl (decide (i<j)))):=VS (fun _ _ _=>.bl _) ha hb
def N9(ha:SndE K mg E ta a)(hb:SndE K mg E tb b):SndE K mg E (tOp (rI0 fun i j=>.bl (decide (i<=j))) ta tb) (p2 a b (fI0 fun i j=>.bl (decide (i<=j)))):=VS (fun _ _ _=>.bl _) ha hb
def J7(ha:SndE K mg E ta a)(hb:SndE K mg E tb b):SndE K mg E (tOp (rI0 fun i j=>.bl (decide (j<i))) ta tb) (p2 a b (fI0 fun i j=>.bl (decide (j<i)))):=VS (fun _ _ _=>.bl _) ha hb
def CJ(ha:SndE K mg E ta a)(hb:SndE K mg E tb b):SndE K mg E (tOp (rI0 fun i j=>.bl (decide (j<=i))) ta tb) (p2 a b (fI0 fun i j=>.bl (decide (j<=i)))):=VS (fun _ _ _=>.bl _) ha hb
def fEq(neg:Bool):S->S->(S->Prop)->Prop:=fun x y R=>match x.d,y.d with
 | .int i,.int j=>R (.sh (.bl (if neg then !decide (i=j)else decide (i=j))))
 | .str i,.str j=>R (.sh (.bl (if neg then !decide (i=j)else decide (i=j))))
 | .bl i,.bl j=>R (.sh (.bl (if neg then !decide (i=j)else decide (i=j))))
 |_,_=>False
def VO{α β:Type}[DecidableEq α][DecidableEq β]{f:α->β}(hf:∀a b,f a=f b->a=b)(a b:α):decide (f a=f b)=decide (a=b):=by
 by_cases e:a=b
 ·rw[ZF e,ZF (Yd f e)]
 ·rw[ZI e,ZI fun z=>e (hf a b z)]
def fIx:S->S->(S->Prop)->Prop:=fun x y R=>match x.d,y.d with
 | .lst ds,.int k=>∃d,atI ds k=some d/\R (x.sub d)
 | .tup ds,.int k=>∃d,atI ds k=some d/\R (x.sub d)
 | .scr ns,.int k=>∃i,atI ns k=some i/\R (.sh (.int i))
 |_,_=>False
def K9{ds:List D}{vs:List V}{k:Int}{d:D}{P:D->V->Prop}(hl:vs.length=ds.length)(h:∀(i:Nat) d,ds[i]?=some d->∃u,vs[i]?=some u/\P d u)(e:atI ds k=some d):∃u,atI vs k=some u/\P d u:=by
 unfold atI at e ⊢;rw[hl];cases q:ixN ds.length k with
 |none=>rw[q]at e;cases e
 |some j=>
  rw[q]at e;exact h j d e
def Qf(ha:SndE K mg E ta a)(hb:SndE K mg E tb b):SndE K mg E (tOp (fun x y H Q=>rIxL K x y H Q\/rIxT K x y H Q) ta tb) (p2 a b fIx):=by
 refine se_2 ha hb fun H0 H H2 Z x y v u R Q s0 s1 hm tx ty h q=>?_;unfold fIx at h;have ry:=ty.rp s0;obtain⟨pl,pt⟩:=tx.part s0 hm s1;split at h
 ·rename_i ds k e1 e2;rw[e2]at ry;obtain⟨d,hd,hR⟩:=h;obtain⟨l,vs,rfl,hl,hn,hp⟩:=pl ds e1;obtain⟨z,hz,tz⟩:=K9 hn hp hd;exact .inl ⟨l,vs,k,z,rfl,ry.int_inv,SqL.of hl,hz,q _ _ H2 hR (Same.refl _) tz⟩
 ·rename_i ds k e1 e2;rw[e2]at ry;obtain⟨d,hd,hR⟩:=h;obtain⟨l,vs,rfl,hl,hn,hp⟩:=pt ds e1;obtain⟨z,hz,tz⟩:=K9 hn hp hd;exact .inr ⟨l,vs,k,z,rfl,ry.int_inv,SqT.of hl,hz,q _ _ H2 hR (Same.refl _) tz⟩
 ·rename_i ns k e1 e2;rw[e2]at ry;obtain⟨i,hi,hR⟩:=h;have rx:=tx.rp s0;rw[e1]at rx;cases rx with
  |scr hs=>exact .inl ⟨_,_,k,.int i,rfl,ry.int_inv,hs,QZ hi,q _ _ H2 hR (Same.refl _) (.int i)⟩
 ·exact h.elim
def AI(a b:PTE):PTE:=fun γ R X=>a γ (fun x=>match x.d with | .bl c=>if c=true then b γ R X else R (.sh (.bl false))|_=>False) X
def CG(ha:SndE K mg E ta a)(hb:SndE K mg E tb b):SndE K mg E (K8 ta tb) (AI a b):=by
 intro H0 B H σ γ R X Q env p q qx;refine ha H0 B H σ γ _ X _ env p (fun x v H1 h1 S1 t1=>?_) qx;have env1:=env.grow S1;have rx:=t1.rp env1.same;split at h1
 ·rename_i c e1;rw[e1]at rx;refine⟨c,rx.bl_inv,?_⟩;split at h1
  ·rename_i hc;rw[ZA hc];exact hb H0 B H1 σ γ _ X _ env1 h1 (fun y u H2 h2 S2 t2=>q y u H2 h2 (S1.trans S2) (TV.weak S1 (fun _ z=>z) t2)) fun c H' hc S'=>qx c H' hc (S1.trans S')
  ·rename_i hc;rw[Z8 hc];exact q _ _ H1 h1 S1 (.bl _)
 ·exact h1.elim
def TC(a:PTE):PTT:=fun γ R X=>a γ (fun x=>match x.d with | .bl c=>R c|_=>False) X
def Q9(ha:SndE K mg E ta a):SndT K mg E (JD ta) (TC a):=by
 intro H0 B H σ γ R X Q env p q qx;refine ha H0 B H σ γ _ X _ env p (fun x v H1 h1 S1 t1=>?_) qx;have rx:=t1.rp (env.grow S1).same;split at h1
 ·rename_i c e1;rw[e1]at rx;exact⟨c,rx.bl_inv,q _ H1 h1 S1⟩
 ·exact h1.elim
def st_b(ha:SndE K mg E ta a):SndT K mg E (tB ta) (TC a):=Q9 ha
variable {sa sb:TT}{pa pb:PTT}
def pOr(a b:PTT):PTT:=fun γ R X=>a γ (fun c=>if c=true then R true else b γ R X) X
def pNot(a:PTT):PTT:=fun γ R X=>a γ (fun c=>R (!c)) X
def VL(ha:SndT K mg E sa pa)(hb:SndT K mg E sb pb):SndT K mg E (tOr sa sb) (pOr pa pb):=by
 intro H0 B H σ γ R X Q env p q qx;refine ha H0 B H σ γ _ X _ env p (fun c H1 h1 S1=>?_) qx;split at h1
 ·rename_i hc;rw[ZA hc];exact q _ H1 h1 S1
 ·rename_i hc;rw[Z8 hc];exact hb H0 B H1 σ γ _ X _ (env.grow S1) h1 (fun y H2 h2 S2=>q y H2 h2 (S1.trans S2)) fun c H' hc S'=>qx c H' hc (S1.trans S')
def VE(ha:SndT K mg E sa pa):SndT K mg E (tNot sa) (pNot pa):=by
 intro H0 B H σ γ R X Q env p q qx;exact ha H0 B H σ γ _ X _ env p (fun c H1 h1 S1=>q _ H1 h1 S1) qx
end
def pNil:PTA:=fun _ R _=>R []
def V5(a:PTE)(r:PTA):PTA:=fun γ R X=>a γ (fun s=>r γ (fun ss=>R (s::ss)) X) X
def Jo:SndA K mg E tNil pNil:=by
 intro H0 B H σ γ R X Q env p q _;exact q _ _ H p (Same.refl _) .nil
def QR{te:TE}{ta:TA}{a:PTE}{r:PTA}(ha:SndE K mg E te a)(hr:SndA K mg E ta r):SndA K mg E (Q0 te ta) (V5 a r):=by
 intro H0 B H σ γ R X Q env p q qx;refine ha H0 B H σ γ _ X _ env p (fun s v H1 h1 S1 t1=>?_) qx;refine hr H0 B H1 σ γ _ X _ (env.grow S1) h1 (fun ss vs H2 h2 S2 t2=>?_) fun c H' hc S'=>qx c H' hc (S1.trans S');exact q _ _ H2 h2 (S1.trans S2) (.cons (t1.grow S2) (TVs.weakG S1 t2))
def shds:List S->Option (List D)
 |[]=>some []
 |s::r=>match s.shd,shds r with
  |some d,some ds=>some (d::ds)
  |_,_=>none
def UJ:∀{ss:List S}{ds:List D},shds ss=some ds->ss.map S.shd=ds.map some
 |[],ds,h=>by cases h;rfl
 |s::r,ds,h=>by
  unfold shds at h;split at h
  ·rename_i d es e1 e2;cases h
   rw[ZG,ZG,e1,UJ e2]
  ·cases h
def pTup(r:PTA):PTE:=fun γ R X=>r γ (fun ss=>match shds ss with|some ds=>ds.length<=1000/\R (.sh (.tup ds))|none=>False) X
def pLst(r:PTA):PTE:=fun γ R X=>r γ (fun ss=>match shds ss with|some ds=>ds.length<=1000/\R (.own ds)|none=>False) X
def UT{n:Nat}(h:n<=1000):n<=sizeLine:=Wi (UD h)
def Uy{ta:TA}{r:PTA}(hr:SndA K mg E ta r):SndE K mg E (tTup ta) (pTup r):=by
 intro H0 B H σ γ R X Q env p q qx;refine hr H0 B H σ γ _ X _ env p (fun ss vs H1 h1 S1 t1=>?_) qx;split at h1
 ·rename_i ds e;have env1:=env.grow S1;have rp:=t1.shd (ds:=ds) env1.same env.zm S1 (UJ e);refine⟨by rw[rp.len];exact UT h1.1,fun l nl=>?_⟩;have S2:=Qy (o:=.tup vs) nl;refine q _ _ _ h1.2 (S1.trans S2) (.tup (QP Qn fun z=>?_) (Rps.mono (Ql S2 fun _ _ _ z=>z) rp))
  have:=env1.zm l z
  rw[nl]at this;exact this
 ·exact h1.elim
def Vs{H H1:Hp}{l:Addr}{vs:List V}{ds:List D}(S1:Same H H1)(nl:H1 l=none)(rp:Rps K (off Z H1) ds vs):TV K Z H0 H (upd H1 l (.lst vs)) (.own ds) (.ref l):=
 ⟨l,rfl,(fun _ e=>e▸S1.free nl),vs,Qn,Rps.mono (Ql (Qy nl) fun b o hb z y=>y.elim z fun e=>by rw[e,nl]at hb;cases hb) rp⟩
def JM{ta:TA}{r:PTA}(hr:SndA K mg E ta r):SndE K mg E (tLst ta) (pLst r):=by
 intro H0 B H σ γ R X Q env p q qx;refine hr H0 B H σ γ _ X _ env p (fun ss vs H1 h1 S1 t1=>?_) qx;split at h1
 ·rename_i ds e;have env1:=env.grow S1;have rp:=t1.shd (ds:=ds) env1.same env.zm S1 (UJ e);refine⟨by rw[rp.len];exact UT h1.1,fun l nl=>?_⟩;exact q _ _ _ h1.2 (S1.trans (Qy nl)) (Vs S1 nl rp)
 ·exact h1.elim
abbrev Pc:=List D->(S->Prop)->XR->Prop
def spOf(mg:Str->Option Value)(c:Pc)(K:Za):Sp:=fun vs H Q E=>∃ds R X,Rps K H ds vs/\c ds R X/\(∀s v H',R s->Same H H'->TV K (fun b=>Mut (H b)) H H H' s v->Q v H')/\∀e H',X e->Same H H'->E (.ref (ExcR.Q4 mg e)) none H'
def S.back:S->S
 | .bor d=>argT d | .view o=>.tmp o.d|s=>s
def TV.back {s:S}{v:V} (env:EnvR K H0 B H1 σ γ) (S1:Same H H1) (S2:Same H1 H') (h:TV K (fun b=>Mut (H1 b)) H1 H1 H' s v):TV K (zof B γ σ) H0 H H' s.back v:=by
 cases s with
 |bor d=>exact Vd (fun b z=>Vu S2 (env.zm b z)) (Rp.mono S2 h)
 |sh d=>exact Rp.mono (Ql (Same.refl _) fun b _ _ z y=>z (env.zm b y)) h
 |own ds=>
  obtain⟨a,rfl,e0,r⟩:=h;exact⟨a,rfl,(fun b hb=>S1.free (e0 b hb)),r.mono (Ql (Same.refl _) fun b _ _ z y=>z (y.imp (env.zm b) id)) fun _ _ _ q=>q⟩
 |view ds=>
  obtain⟨a,rfl,r⟩:=h;exact r.rp off_sub
 |tmp d=>exact h
def CF(c:Pc)(r:PTA):PTE:=fun γ R X=>r γ (fun ss=>c (ss.map S.d) (fun s=>R s.back) fun _=>False) X
def Qu{c:Pc}{ta:TA}{r:PTA}(hr:SndA K mg E ta r):SndE K mg E (JT (spOf mg c K) [] E0 ta) (CF c r):=by
 intro H0 B H σ γ R X Q env p q qx;refine hr H0 B H σ γ _ X _ env p (fun ss vs H1 h1 S1 t1=>?_) qx;rw[Wg];have env1:=env.grow S1;exact⟨_,_,_,t1.rps env1.same,h1,fun s v H' hs S2 tv=>q _ _ H' hs (S1.trans S2) (tv.back env1 S1 S2),fun _ _ z=>z.elim⟩
end
section
variable {K:Za}{mg:Str->Option Value}{E:L2.St->XK}{H0 H H1 H':Hp}{B Z Z':Addr->Prop}{σ:L2.St}{γ:Γ}
def EnvR.set {i:Nat}{s s':S}{v:V} (Ev:EnvR K H0 B H σ γ) (S1:Same H H') (h:TV K (zof B γ σ) H0 H H' s v) (e:s.slot=some s') :
  EnvR K H0 B H' (σ.set i (some v)) (γ.set i (some s'))/\Fr B H σ γ H' (σ.set i (some v)) (γ.set i (some s')):=by
 by_cases hi:i<γ.length
 ·exact Ev.put S1 h e hi
 ·rw[List.set_eq_of_length_le (by rw[Ev.len];omega),List.set_eq_of_length_le (by omega)];exact⟨Ev.grow S1,Fr.grow S1⟩
def Upd(is:List Nat)(σ σ':L2.St):Prop:=(∀j,j∉is->σ'[j]?=σ[j]?)/\σ'.length=σ.length
def VH(K:Za)(is:List Nat)(t:TG)(p:PTG):Prop:=∀(H0:Hp) (B:Addr->Prop) (H H':Hp) (σ:L2.St) (γ:Γ) (s:S) (v:V) (R:Γ->Prop) (Q:L2.St->Hp->Prop),EnvR K H0 B H σ γ->Same H H'->TV K (zof B γ σ) H0 H H' s v->p s γ R->
 (∀σ' γ',R γ'->EnvR K H0 B H' σ' γ'->Fr B H σ γ H' σ' γ'->Upd is σ σ'->Q σ' H')->t v σ H' Q
def Ks(i:Nat):PTG:=fun s γ R=>match s.slot with|some s'=>R (γ.set i (some s'))|none=>False
def Qk(i:Nat):VH K [i] (Vw i) (Ks i):=by
 intro H0 B H H' σ γ s v R Q env S1 tv p q;unfold Ks at p;split at p
 ·rename_i s' e;obtain⟨e1,f1⟩:=env.set (i:=i) S1 tv e;exact q _ _ p e1 f1 ⟨fun j hj=>Vy fun z=>hj (by rw[z];exact ZJ.mpr rfl),Yx⟩
 ·exact p.elim
def Fh:PTGs:=fun ss γ R=>match ss with|[]=>R γ|_=>False
def Ay(g:PTG)(r:PTGs):PTGs:=fun ss γ R=>match ss with|s::t=>g s γ fun γ'=>r t γ' R|[]=>False
def TV.notown {s:S}{v:V}{σ':L2.St}{γ':Γ}{Hb:Hp} (f:Fr B H σ γ H' σ' γ') (hb:Same H H') (n:∀ds,s≠.own ds) (nv:∀ds,s≠.view ds) (h:TV K (zof B γ σ) H0 Hb H s v):TV K (zof B γ' σ') H0 H' H' s v:=by
 cases s with
 |bor d=>exact h
 |sh d=>exact Rp.mono f.off h
 |own ds=>exact absurd rfl (n ds)
 |view ds=>exact absurd rfl (nv ds)
 |tmp d=>exact Rp.mono hb h
def TVs.notown {σ':L2.St}{γ':Γ}{Hb:Hp} (f:Fr B H σ γ H σ' γ'):∀{ss:List S}{vs:List V},(∀s∈ss,∀ds,s≠.own ds/\s≠.view ds)->TVs K (zof B γ σ) H0 Hb H ss vs->TVs K (zof B γ' σ') H0 H H ss vs
 |_,_,_,.nil=>.nil
 |_,_,n,.cons h r=>.cons (h.notown f (Same.refl _) (fun ds=>(n _ ZK ds).1) fun ds=>(n _ ZK ds).2) (TVs.notown f (fun s hs=>n s (ZH _ hs)) r)
def Xb(d:D):arg d=.sh d\/arg d=.bor d:=by unfold arg;cases imm d<;>simp
def VZ(d:D):argT d=.sh d\/argT d=.tmp d:=by unfold argT;cases imm d<;>simp
def XJ(s:S)(d:D):∀ds,s.sub d≠.own ds/\s.sub d≠.view ds:=fun ds=>by
 cases s with
 |bor b=>rcases Xb d with e|e<;>(show arg d≠_/\arg d≠_;rw[e];exact⟨(fun z=>by cases z),(fun z=>by cases z)⟩)
 |tmp b=>rcases VZ d with e|e<;>(show argT d≠_/\argT d≠_;rw[e];exact⟨(fun z=>by cases z),(fun z=>by cases z)⟩)
 |sh b=>exact⟨(fun z=>by cases z),(fun z=>by cases z)⟩
 |own b=>
  cases b with
  |nst cs=>rcases VZ d with e|e<;>(show argT d≠_/\argT d≠_;rw[e];exact⟨(fun z=>by cases z),(fun z=>by cases z)⟩)
  |nsl a cs=>rcases VZ d with e|e<;>(show argT d≠_/\argT d≠_;rw[e];exact⟨(fun z=>by cases z),(fun z=>by cases z)⟩)
  |_=>exact⟨(fun z=>by cases z),(fun z=>by cases z)⟩
 |view b=>
  cases b with
  |nst cs=>rcases VZ d with e|e<;>(show argT d≠_/\argT d≠_;rw[e];exact⟨(fun z=>by cases z),(fun z=>by cases z)⟩)
  |nsl a cs=>rcases VZ d with e|e<;>(show argT d≠_/\argT d≠_;rw[e];exact⟨(fun z=>by cases z),(fun z=>by cases z)⟩)
  |_=>exact⟨(fun z=>by cases z),(fun z=>by cases z)⟩
def JR(K:Za)(is:List Nat)(t:TGs)(p:PTGs):Prop:=∀(H0:Hp) (B:Addr->Prop) (H:Hp) (σ:L2.St) (γ:Γ) (ss:List S) (vs:List V) (R:Γ->Prop) (Q:L2.St->Hp->Prop),EnvR K H0 B H σ γ->TVs K (zof B γ σ) H0 H H ss vs->(∀s∈ss,∀ds,s≠.own ds/\s≠.view ds)->p ss γ R->
 (∀σ' γ',R γ'->EnvR K H0 B H σ' γ'->Fr B H σ γ H σ' γ'->Upd is σ σ'->Q σ' H)->t vs σ H Q
def Ag:JR K [] gNil Fh:=by
 intro H0 B H σ γ ss vs R Q env tv no p q;cases tv with
 |nil=>exact⟨rfl,q _ _ p env Fr.refl ⟨fun _ _=>rfl,rfl⟩⟩
 |cons _ _=>exact p.elim
def Pd{is js:List Nat}{g:TG}{r:TGs}{pg:PTG}{pr:PTGs}(hg:VH K is g pg)(hr:JR K js r pr):JR K (is++js) (Po g r) (Ay pg pr):=by
 intro H0 B H σ γ ss vs R Q env tv no p q;cases tv with
 |nil=>exact p.elim
 |cons h t=>
  refine⟨_,_,rfl,hg H0 B H H σ γ _ _ _ _ env (Same.refl _) h p fun σ1 γ1 p1 e1 f1 k1=>?_⟩;refine hr H0 B H σ1 γ1 _ _ _ _ e1 (TVs.notown f1 (fun s hs=>no s (ZH _ hs)) t) (fun s hs=>no s (ZH _ hs)) p1 fun σ2 γ2 p2 e2 f2 k2=>?_;exact q σ2 γ2 p2 e2 (f1.trans f2) ⟨fun j hj=>(k2.1 j fun z=>hj (ZE _ z)).trans (k1.1 j fun z=>hj (YJ _ z)),k2.2.trans k1.2⟩
def Kk(n:Nat)(r:PTGs):PTG:=fun s γ R=>match s.d with | .tup ds=>ds.length=n/\r (ds.map s.sub) γ R|_=>False
def TVs.of_part {ds:List D}{s:S}:∀{vs:List V}{ds:List D},vs.length=ds.length->(∀(i:Nat) d,ds[i]?=some d->∃u,vs[i]?=some u/\TV K Z H0 H H' (s.sub d) u)->TVs K Z H0 H H' (ds.map s.sub) vs
 |[],[],_,_=>.nil
 |[],_::_,e,_=>by cases e
 |_::_,[],e,_=>by cases e
 |v::vs,d::ds,e,h=>by
  obtain⟨u,h1,h2⟩:=h 0 d rfl;cases h1
  exact .cons h2 (TVs.of_part (ds:=ds) (by simpa using e) fun i d' hd=>by simpa using h (i+1) d' (by simpa using hd))
def BM{n:Nat}{is:List Nat}{r:TGs}{pr:PTGs}(hr:JR K is r pr):VH K is (gTup K n r) (Kk n pr):=by
 intro H0 B H H' σ γ s v R Q env S1 tv p q;unfold Kk at p;have env1:=env.grow S1;obtain⟨_,pt⟩:=tv.part env1.same env.zm S1;split at p
 ·rename_i ds e;obtain⟨a,vs,rfl,ha,hn,hp⟩:=pt ds e;refine⟨a,vs,rfl,SqT.of ha,hn.trans p.1,?_⟩;have tvs:=TVs.of_part (ds:=ds) hn hp;refine hr H0 B H' σ γ _ vs R Q env1 (TVs.notown (Fr.refl) (fun s' hs ds=>?_) tvs) (fun s' hs ds=>?_) p.2 fun σ' γ' hR e1 f1 k1=>q σ' γ' hR e1 (Fr.trans (Fr.grow S1) f1) k1
  ·obtain⟨d,_,rfl⟩:=YB.mp hs;exact XJ s d ds
  ·obtain⟨d,_,rfl⟩:=YB.mp hs;exact XJ s d ds
 ·exact p.elim
def EndR.from {R:PEnds}{D:Ends}{σ1:L2.St}{γ1:Γ} (e:EndR K mg E H0 B H σ γ R D) (f:Fr B H σ γ H1 σ1 γ1):EndR K mg E H0 B H1 σ1 γ1 R D:=
 ⟨fun σ' γ' H' h1 h2 h3=>e.nx σ' γ' H' h1 h2 (f.trans h3),e.rt,fun σ' γ' c H' h1 h2 h3=>e.ex σ' γ' c H' h1 h2 (f.trans h3),fun σ' γ' H' h1 h2 h3=>e.bk σ' γ' H' h1 h2 (f.trans h3),fun σ' γ' H' h1 h2 h3=>e.ct σ' γ' H' h1 h2 (f.trans h3),fun σ' γ' d v H' h1 h2 h3=>e.rv σ' γ' d v H' h1 h2 (f.trans h3)⟩
variable {te:TE}{a:PTE}{tt:TT}{c:PTT}{t u:TS}{p q:PTS}
def SO:PTS:=fun R γ=>R.nx γ
def QG:SndS K mg E K1 SO:=fun _ _ _ _ _ _ _ _ env h e=>e.nx _ _ _ h env Fr.refl
def pSeq(p q:PTS):PTS:=fun R γ=>p {R with nx:=q R} γ
def Qi(hp:SndS K mg E t p)(hq:SndS K mg E u q):SndS K mg E (tSeq t u) (pSeq p q):=by
 intro H0 B H σ γ R D hB env h e;refine hp H0 B H σ γ _ _ hB env h ⟨fun σ' γ' H' h1 e1 f1=>?_,e.rt,e.ex,e.bk,e.ct,e.rv⟩;exact hq H0 B H' σ' γ' R D hB e1 h1 (e.from f1)
structure JoinW (p q:PTS) (R:PEnds) (γ:Γ):Prop where
 w:∃J:Γ->Prop,p {R with nx:=J} γ/\∀γ',J γ'->q R γ'
def CK(p q:PTS):PTS:=fun R γ=>JoinW p q R γ
def Cz(hp:SndS K mg E t p)(hq:SndS K mg E u q):SndS K mg E (Tg t u) (CK p q):=by
 intro H0 B H σ γ R D hB env h e;obtain⟨J,h,k⟩:=h.w;refine⟨fun σ' H'=>∃γ',J γ'/\EnvR K H0 B H' σ' γ'/\Fr B H σ γ H' σ' γ',hp H0 B H σ γ _ _ hB env h ⟨fun σ' γ' H' h1 e1 f1=>⟨γ',h1,e1,f1⟩,e.rt,e.ex,e.bk,e.ct,e.rv⟩,?_⟩;rintro σ' H' ⟨γ',h1,e1,f1⟩;exact hq H0 B H' σ' γ' R D hB e1 (k γ' h1) (e.from f1)
def pFrz(i:Nat)(p:PTS):PTS:=fun R γ=>p R (frz i γ)
def VY(i:Nat)(hp:SndS K mg E t p):SndS K mg E t (pFrz i p):=by
 intro H0 B H σ γ R D hB env h e;obtain⟨e1,f1⟩:=env.frz hB i;exact hp H0 B H σ _ R D hB e1 h (e.from f1)
def pAsg(a:PTE)(g:PTG):PTS:=fun R γ=>a γ (fun s=>g s γ R.nx) (R.ex γ)
def Qr{is:List Nat}{g:TG}{pg:PTG}(ha:SndE K mg E te a)(hg:VH K is g pg):SndS K mg E (tAsg te g) (pAsg a pg):=by
 intro H0 B H σ γ R D hB env h e;refine ha H0 B H σ γ _ _ _ env h (fun s v H1 h1 S1 t1=>?_) fun c H' hc S'=>e.ex σ γ c H' hc (env.grow S') (Fr.grow S');exact hg H0 B H H1 σ γ s v _ _ env S1 t1 h1 fun σ' γ' h2 e2 f2 _=>e.nx σ' γ' H1 h2 e2 f2
def pAug(i:Nat)(f:Int->Int->Int)(a:PTE):PTS:=fun R γ=>match γ[i]? with
 |some (some (.sh (.int x)))=>a γ (fun y=>match y.d with | .int j=>R.nx (γ.set i (some (.sh (.int (f x j)))))|_=>False) (R.ex γ)
 |_=>False
def pRet(a:PTE):PTS:=fun R γ=>a γ R.rt (R.ex γ)
def Q8(ha:SndE K mg E te a):SndS K mg E (tRet te) (pRet a):=by
 intro H0 B H σ γ R D hB env h e;refine ha H0 B H σ γ _ _ _ env h (fun s v H1 h1 S1 t1=>?_) fun c H' hc S'=>e.ex σ γ c H' hc (env.grow S') (Fr.grow S');exact e.rt s v H1 h1 (env.same.trans S1) (TV.weak env.same (fun b z=>.inl z) t1)
def Kr(i:Nat):PTS:=fun R γ=>match γ[i]? with|some (some s)=>R.rt s|_=>False
def J1(i:Nat):SndS K mg E (tRet (tVar i)) (Kr i):=by
 intro H0 B H σ γ R D hB env h e;unfold Kr at h;split at h
 ·rename_i s hs;obtain⟨v,h1,h2⟩:=env.slot i _ hs;refine⟨v,h1,e.rt s v H h env.same ?_⟩;cases s with
  |bor d=>exact h2
  |sh d=>exact Rp.mono (Ql (Same.refl _) fun b _ _ z y=>z (.inl y)) h2
  |own ds=>
   obtain⟨l,rfl,e2,e3⟩:=h2;exact⟨l,rfl,e2,e3.mono (Ql (Same.refl _) fun b _ _ z y=>z (y.elim .inl fun w=>.inr ⟨i,ds,l,hs,h1,w⟩)) fun _ _ _ q=>q⟩
  |view ds=>exact h2.elim
  |tmp d=>exact h2.elim
 ·exact h.elim
def pIfS(c:PTT)(p q:PTS):PTS:=fun R γ=>c γ (fun b=>if b=true then p R γ else q R γ) (R.ex γ)
def QD(hc:SndT K mg E tt c)(hp:SndS K mg E t p)(hq:SndS K mg E u q):SndS K mg E (tIfS tt t u) (pIfS c p q):=by
 intro H0 B H σ γ R D hB env h e;refine hc H0 B H σ γ _ _ _ env h (fun b H1 h1 S1=>?_) fun c H' hc S'=>e.ex σ γ c H' hc (env.grow S') (Fr.grow S');split at h1
 ·rename_i hb;rw[ZA hb];exact hp H0 B H1 σ γ R D hB (env.grow S1) h1 (e.from (Fr.grow S1))
 ·rename_i hb;rw[Z8 hb];exact hq H0 B H1 σ γ R D hB (env.grow S1) h1 (e.from (Fr.grow S1))
def Bo(a:PTE):PTS:=fun R γ=>a γ (fun _=>R.nx γ) (R.ex γ)
def SY(ha:SndE K mg E te a):SndS K mg E (JU te) (Bo a):=by
 intro H0 B H σ γ R D hB env h e;exact ha H0 B H σ γ _ _ _ env h (fun s v H1 h1 S1 t1=>e.nx σ γ H1 h1 (env.grow S1) (Fr.grow S1)) fun c H' hc S'=>e.ex σ γ c H' hc (env.grow S') (Fr.grow S')
def NF(x:Str)(r:PTA):PTS:=fun R γ=>r γ (fun ss=>ss.length<=1000/\R.ex γ x) (R.ex γ)
def TVs.len:∀{ss:List S}{vs:List V},TVs K Z H0 H H' ss vs->vs.length=ss.length
 |_,_,.nil=>rfl
 |_,_,.cons _ r=>Yd (· + 1) (TVs.len r)
def FY{x:Str}{ta:TA}{r:PTA}{Ec:XK}(hr:SndA K mg (fun _=>Ec) ta r):SndS K mg (fun _=>Ec) (ExcR.P3 (ExcR.Q4 mg x) Ec ta) (NF x r):=by
 intro H0 B H σ γ R D hB env h e;refine hr H0 B H σ γ _ _ _ env h (fun ss vs H1 h1 S1 t1=>⟨?_,?_⟩) fun c H' hc S'=>e.ex σ γ c H' hc (env.grow S') (Fr.grow S')
 ·rw[t1.len];exact UT h1.1
 ·exact e.ex σ γ x H1 h1.2 (env.grow S1) (Fr.grow S1)
def fPar(i j:Nat)(γ:Γ)(R:Γ->Prop):List S->Prop
 |[.sh d,.sh e]=>R ((γ.set i (some (.sh d))).set j (some (.sh e)))
 |_=>False
def clr:List Nat->Γ->Γ
 |[],γ=>γ
 |i::r,γ=>clr r (γ.set i none)
def EnvR.clr:∀(is:List Nat) {γ:Γ},EnvR K H0 B H σ γ->EnvR K H0 B H σ (clr is γ)/\Fr B H σ γ H σ (Pu.clr is γ)
 |[],_,e=>⟨e,Fr.refl⟩
 |i::r,γ,e=>by
  obtain⟨e1,f1⟩:=e.drop i;obtain⟨e2,f2⟩:=EnvR.clr r e1;exact⟨e2,f1.trans f2⟩
def Later(H0:Hp)(Z:Addr->Prop)(H1:Hp)(Z':Addr->Prop)(H':Hp):Prop:=Same H0 H'/\(∀b,Z' b->Mut (H' b))/\∀b o,H1 b=some o->¬Z b->H' b=some o/\¬Z' b
def Later.of {σ':L2.St}{γ':Γ} (e:EnvR K H0 B H' σ' γ') (f:Fr B H1 σ γ H' σ' γ'):Later H0 (zof B γ σ) H1 (zof B γ' σ') H':=⟨e.same,e.zm,f⟩
def Later.off (l:Later H0 Z H1 Z' H'):Same (off Z H1) (Pu.off Z' H'):=fun b o h=>by
 obtain⟨h1,h2⟩:=V3 h;obtain⟨h3,h4⟩:=l.2.2 b o h1 h2;exact QP h3 h4
structure ItOk (K:Za) (H0:Hp) (B:Addr->Prop) (H1:Hp) (σ:L2.St) (γ:Γ) (J:It) (n:Nat) (item:Nat->S):Prop where
 go:∀(i:Nat) (H':Hp) (Z':Addr->Prop),i<n->Later H0 (zof B γ σ) H1 Z' H'->J.go i H'/\∀x H'',J.yld i H' x H''->Same H' H''/\TV K Z' H0 H' H'' (item i) x
 stop:∀(H':Hp) (Z':Addr->Prop),Later H0 (zof B γ σ) H1 Z' H'->J.stop n H'
abbrev PTI:=Γ->(Nat->(Nat->S)->Prop)->XR->Prop
def SndI(K:Za)(mg:Str->Option Value)(E:L2.St->XK)(wi:TI)(it:PTI):Prop:=∀(H0:Hp) (B:Addr->Prop) (H:Hp) (σ:L2.St) (γ:Γ) (R:Nat->(Nat->S)->Prop) (X:XR) (Q:It->Hp->Prop),EnvR K H0 B H σ γ->it γ R X->
 (∀n item J H1,R n item->Same H H1->ItOk K H0 B H1 σ γ J n item->Q J H1)->(∀c H',X c->Same H H'->E σ (.ref (ExcR.Q4 mg c)) none H')->wi σ H Q
structure ForW (js:List Nat) (γ:Γ) (g:PTG) (body:PTS) (R:PEnds) (n:Nat) (item:Nat->S):Prop where
 w:∃inv:Nat->Γ->Prop,inv 0 (clr js γ)/\
 (∀i γ',i<n->inv i γ'->g (item i) γ' fun γ2=>body {R with nx:=fun γ3=>inv (i+1) (clr js γ3),ct:=fun γ3=>inv (i+1) (clr js γ3),bk:=R.nx} γ2)/\∀γ',inv n γ'->R.nx γ'
def pFor(js:List Nat)(it:PTI)(g:PTG)(body:PTS):PTS:=fun R γ=>it γ (fun n item=>ForW js γ g body R n item) (R.ex γ)
def V7{is:List Nat}{wi:TI}{g:TG}{it:PTI}{pg:PTG}(js:List Nat)(hi:SndI K mg E wi it)(hg:VH K is g pg)(hb:SndS K mg E t p):SndS K mg E (tFor wi g t) (pFor js it pg p):=by
 intro H0 B H σ γ R D hB env h e;refine hi H0 B H σ γ _ _ _ env h (fun n item J H1 h1 S1 ok=>?_) fun c H' hc S'=>e.ex σ γ c H' hc (env.grow S') (Fr.grow S');obtain⟨inv,h0,hs,hd⟩:=h1.w;have env1:=env.grow S1;refine⟨fun i m σ' H'=>m=n-i/\i<=n/\∃γ',inv i γ'/\EnvR K H0 B H' σ' γ'/\Fr B H1 σ γ H' σ' γ',⟨n,by simp,Yo _,_,h0,(env1.clr js).1,(env1.clr js).2⟩,?_⟩;rintro i m σ' H' ⟨rfl,hin,γ',hi',e',f'⟩;by_cases hlt:i<n
 ·obtain⟨go,yl⟩:=ok.go i H' _ hlt (Later.of e' f');refine .inr ⟨go,fun σ2 H2=>∃γ2,inv (i+1) γ2/\EnvR K H0 B H2 σ2 γ2/\Fr B H1 σ γ H2 σ2 γ2,fun σ2 H2 ⟨γ2,a1,a2,a3⟩=>⟨n-(i+1),by omega,rfl,hlt,γ2,a1,a2,a3⟩,fun x H'' y=>?_⟩;obtain⟨S2,tv⟩:=yl x H'' y;refine hg H0 B H' H'' σ' γ' _ _ _ _ e' S2 tv (hs i γ' hlt hi') fun σ2 γ2 q2 e2 f2 _=>?_;have fall:=f'.trans f2;refine hb H0 B H'' σ2 γ2 _ _ hB e2 q2 ⟨fun σ3 γ3 H3 q3 e3 f3=>?_,e.rt,fun σ3 γ3 c H3 q3 e3 f3=>e.ex σ3 γ3 c H3 q3 e3 ((Fr.grow S1).trans (fall.trans f3)),fun σ3 γ3 H3 q3 e3 f3=>e.nx σ3 γ3 H3 q3 e3 ((Fr.grow S1).trans (fall.trans f3)),fun σ3 γ3 H3 q3 e3 f3=>?_,fun σ3 γ3 d v H3 q3 e3 f3=>e.rv σ3 γ3 d v H3 q3 e3 ((Fr.grow S1).trans (fall.trans f3))⟩
  ·exact⟨_,q3,(e3.clr js).1,(fall.trans f3).trans (e3.clr js).2⟩
  ·exact⟨_,q3,(e3.clr js).1,(fall.trans f3).trans (e3.clr js).2⟩
 ·have:i=n:=by omega
  subst this;exact .inl ⟨ok.stop H' _ (Later.of e' f'),e.nx σ' γ' H' (hd γ' hi') e' ((Fr.grow S1).trans f')⟩
def S.fix:S->Bool
 | .bor _=>true | .sh _=>true | .own (.nsl _ _)=>false | .own _=>true|_=>false
def pIL(a:PTE):PTI:=fun γ R X=>a γ (fun s=>match s.d with
 | .lst ds=>s.fix=true/\R ds.length fun i=>s.sub (ds.getD i .non)
 | .scr ns=>s.fix=true/\R ns.length fun i=>.sh (.int (ns.getD i 0))
 |_=>False) X
def TV.last {s:S}{v:V}{ds:List D} (env:EnvR K H0 B H σ γ) (S1:Same H H1) (tv:TV K (zof B γ σ) H0 H H1 s v) (hf:s.fix=true) (hd:s.d=.lst ds):∃l vs,v=.ref l/\vs.length=ds.length/\
  ∀(H':Hp) (Z':Addr->Prop),Later H0 (zof B γ σ) H1 Z' H'->H' l=some (.lst vs)/\∀(i:Nat) d,ds[i]?=some d->∃u,vs[i]?=some u/\TV K Z' H0 H' H' (s.sub d) u:=by
 have env1:=env.grow S1
 have key:∀{s:S},(∀d,s.sub d=.sh d)->Rp K (Pu.off (zof B γ σ) H1) (.lst ds) v->∃l vs,v=.ref l/\vs.length=ds.length/\
   ∀(H':Hp) (Z':Addr->Prop),Later H0 (zof B γ σ) H1 Z' H'->H' l=some (.lst vs)/\∀(i:Nat) d,ds[i]?=some d->∃u,vs[i]?=some u/\TV K Z' H0 H' H' (s.sub d) u:=fun hs h=>by
  obtain⟨l,vs,rfl,h1,h2⟩:=Rp.lst_inv h;refine⟨l,vs,rfl,h2.len,fun H' Z' lt=>⟨off_sub _ _ (lt.off _ _ h1),fun i d hi=>?_⟩⟩;obtain⟨u,h3,h4⟩:=h2.get hi;refine⟨u,h3,?_⟩;rw[hs];exact Rp.mono lt.off h4
 cases s with
 |bor d=>
  have tv:=Rp.strip tv;rw[show d.strip=.lst ds from hd]at tv
  obtain⟨l,vs,rfl,h1,h2⟩:=Rp.lst_inv tv;refine⟨l,vs,rfl,h2.len,fun H' Z' lt=>⟨lt.1 _ _ h1,fun i d hi=>?_⟩⟩;obtain⟨u,h3,h4⟩:=h2.get hi;exact⟨u,h3,argR lt.2.1 lt.1 h4⟩
 |sh d=>
  have:d=.lst ds:=hd
  subst this;exact key (fun _=>rfl) tv
 |own es=>
  cases es with
  |lst es=>
   cases hd
   exact key (fun _=>rfl) (tv.shd env1.same env.zm S1 rfl)
  |lsA x es=>
   cases hd
   exact key (fun _=>rfl) (tv.shd env1.same env.zm S1 rfl)
  |dK es=>cases hd
  |dT es=>cases hd
  |ins x C xs cs=>cases hd
  |nst cs=>cases hd
  |nsl a cs=>cases hf
 |view es=>cases hf
 |tmp d=>cases hf
def Ti{te:TE}{a:PTE}(ha:SndE K mg E te a):SndI K mg E (JV K te) (pIL a):=by
 intro H0 B H σ γ R X Q env h q qx;refine ha H0 B H σ γ _ X _ env h (fun s v H1 h1 S1 t1=>?_) qx;have env1:=env.grow S1;split at h1
 ·rename_i ds ed;obtain⟨l,vs,rfl,hn,hl⟩:=t1.last env S1 h1.1 ed;obtain⟨hl1,_⟩:=hl H1 _ (Later.of env1 Fr.refl);refine⟨l,rfl,⟨vs,SqL.of hl1⟩,q _ _ _ H1 h1.2 S1 ⟨fun i H' Z' hi lt=>?_,fun H' Z' lt=>?_⟩⟩
  ·obtain⟨k1,k2⟩:=hl H' Z' lt;have hd:ds[i]?=some (ds.getD i .non):=by rw[Zz,Zy hi];rfl
   obtain⟨u,hu,tu⟩:=k2 i _ hd;refine⟨⟨vs,u,SqL.of k1,hu⟩,fun x H'' y=>?_⟩;obtain⟨rfl,y⟩:=y
   have:=y vs (SqL.of k1)
   rw[hu]at this;cases this
   exact⟨Same.refl _,tu⟩
  ·exact⟨vs,SqL.of (hl H' Z' lt).1,by omega⟩
 ·rename_i ns ed
  have hs:∃l,v=.ref l/\∀(H':Hp) (Z':Addr->Prop),Later H0 (zof B γ σ) H1 Z' H'->SqL K H' l (ns.map V.int):=by
   cases s with
   |bor d=>
    have t1:=Rp.strip t1;rw[show d.strip=.scr ns from ed]at t1
    cases t1 with
    |scr hs=>exact⟨_,rfl,fun H' Z' lt=>lt.1.seq hs⟩
   |sh d=>
    have:d=.scr ns:=ed
    subst this;cases t1 with
    |scr hs=>exact⟨_,rfl,fun H' Z' lt=>off_sub.seq (lt.off.seq hs)⟩
   |own es=>cases es<;>cases ed
   |view es=>cases es<;>cases ed
   |tmp d=>cases h1.1
  obtain⟨l,rfl,hl⟩:=hs;refine⟨l,rfl,⟨_,hl H1 _ (Later.of env1 Fr.refl)⟩,q _ _ _ H1 h1.2 S1 ⟨fun i H' Z' hi lt=>?_,fun H' Z' lt=>?_⟩⟩
  ·have k1:=hl H' Z' lt
   have hu:(ns.map V.int)[i]?=some (.int (ns.getD i 0)):=by
    rw[ZC,Zy hi,Zz,Zy hi];rfl
   refine⟨⟨_,_,k1,hu⟩,fun x H'' y=>?_⟩;obtain⟨rfl,y⟩:=y
   have:=y _ k1
   rw[hu]at this;cases this
   exact⟨Same.refl _,.int _⟩
  ·exact⟨_,hl H' Z' lt,by rw[Z1];exact Z4 _⟩
 ·exact h1.elim
def fR1(R:Nat->(Nat->S)->Prop):List D->Prop
 |[.int j]=>(-(2 ^ 62)<=j/\j<2 ^ 62)/\R j.toNat fun i=>.sh (.int (0+(i:Int)))
 |_=>False
def fR2(R:Nat->(Nat->S)->Prop):List D->Prop
 |[.int i,.int j]=>(-(2 ^ 62)<=i/\i<2 ^ 62/\-(2 ^ 62)<=j/\j<2 ^ 62)/\R (j-i).toNat fun k=>.sh (.int (i+(k:Int)))
 |_=>False
def pIR1(r:PTA):PTI:=fun γ R X=>r γ (fun ss=>fR1 R (ss.map S.d)) X
def pIR2(r:PTA):PTI:=fun γ R X=>r γ (fun ss=>fR2 R (ss.map S.d)) X
def Rps.one_inv {d:D}{vs:List V} (h:Rps K H [d] vs):∃v,vs=[v]/\Rp K H d v:=by
 cases h with
 |cons h r=>cases r;exact⟨_,rfl,h⟩
def Rps.two_inv {d e:D}{vs:List V} (h:Rps K H [d,e] vs):∃v u,vs=[v,u]/\Rp K H d v/\Rp K H e u:=by
 cases h with
 |cons h r=>cases r with|cons h2 r=>cases r;exact⟨_,_,rfl,h,h2⟩
def XQ{lo:Int}{n:Nat}:ItOk K H0 B H1 σ γ (Itr lo n) n fun i=>.sh (.int (lo+(i:Int))):=by
 refine⟨fun i H' Z' hi lt=>⟨hi,fun x H'' y=>?_⟩,fun H' Z' lt=>Z4 _⟩;obtain⟨e,y⟩:=y;subst e y;exact⟨Same.refl _,.int _⟩
def Jr{ta:TA}{r:PTA}(hr:SndA K mg E ta r):SndI K mg E (Pn ta) (pIR1 r):=by
 intro H0 B H σ γ R X Q env h q qx;refine hr H0 B H σ γ _ X _ env h (fun ss vs H1 h1 S1 t1=>?_) qx;have rv:=t1.rps (env.grow S1).same;unfold fR1 at h1;split at h1
 ·rename_i j ej;rw[ej]at rv;obtain⟨v,rfl,r1⟩:=rv.one_inv;rw[r1.int_inv];exact⟨j,rfl,h1.1.1,h1.1.2,q _ _ _ H1 h1.2 S1 XQ⟩
 ·exact h1.elim
def AV{ta:TA}{r:PTA}(hr:SndA K mg E ta r):SndI K mg E (Tc ta) (pIR2 r):=by
 intro H0 B H σ γ R X Q env h q qx;refine hr H0 B H σ γ _ X _ env h (fun ss vs H1 h1 S1 t1=>?_) qx;have rv:=t1.rps (env.grow S1).same;unfold fR2 at h1;split at h1
 ·rename_i i j ej;rw[ej]at rv;obtain⟨v,u,rfl,r1,r2⟩:=rv.two_inv;rw[r1.int_inv,r2.int_inv];exact⟨i,j,rfl,h1.1,q _ _ _ H1 h1.2 S1 XQ⟩
 ·exact h1.elim
structure WhileW (js:List Nat) (γ:Γ) (c:PTT) (body:PTS) (R:PEnds):Prop where
 w:∃(inv:Γ->Prop) (μ:Γ->Nat),inv (clr js γ)/\∀γ',inv γ'->c γ' (fun b=>if b=true then
  body {R with nx:=fun γ3=>inv (clr js γ3)/\μ (clr js γ3)<μ γ',ct:=fun γ3=>inv (clr js γ3)/\μ (clr js γ3)<μ γ',bk:=R.nx} γ' else R.nx γ') (R.ex γ')
def Sy(js:List Nat)(c:PTT)(body:PTS):PTS:=fun R γ=>WhileW js γ c body R
def BN(js:List Nat)(hc:SndT K mg E tt c)(hb:SndS K mg E t p):SndS K mg E (Tf tt t) (Sy js c p):=by
 intro H0 B H σ γ R D hB env h e;obtain⟨inv,μ,h0,hs⟩:=h.w;refine⟨fun m σ' H'=>∃γ',m=μ γ'/\inv γ'/\EnvR K H0 B H' σ' γ'/\Fr B H σ γ H' σ' γ',⟨_,_,rfl,h0,(env.clr js).1,(env.clr js).2⟩,?_⟩;rintro m σ' H' ⟨γ',rfl,hi,e',f'⟩;refine hc H0 B H' σ' γ' _ _ _ e' (hs γ' hi) (fun b H1 h1 S1=>?_) fun c H'' hc S'=>e.ex σ' γ' c H'' hc (e'.grow S') (f'.trans (Fr.grow S'));have e1:=e'.grow S1;have f1:=f'.trans (Fr.grow S1);cases b with
 |false=>
  rw[Z8 ZD]at h1 ⊢;exact e.nx σ' γ' H1 h1 e1 f1
 |true=>
  rw[ZA rfl]at h1 ⊢;refine⟨fun σ2 H2=>∃γ2,μ γ2<μ γ'/\inv γ2/\EnvR K H0 B H2 σ2 γ2/\Fr B H σ γ H2 σ2 γ2,fun σ2 H2 ⟨γ2,k,a1,a2,a3⟩=>⟨_,k,γ2,rfl,a1,a2,a3⟩,?_⟩;refine hb H0 B H1 σ' γ' _ _ hB e1 h1 ⟨fun σ3 γ3 H3 q3 e3 f3=>?_,e.rt,fun σ3 γ3 c H3 q3 e3 f3=>e.ex σ3 γ3 c H3 q3 e3 (f1.trans f3),fun σ3 γ3 H3 q3 e3 f3=>e.nx σ3 γ3 H3 q3 e3 (f1.trans f3),fun σ3 γ3 H3 q3 e3 f3=>?_,fun σ3 γ3 d v H3 q3 e3 f3=>e.rv σ3 γ3 d v H3 q3 e3 (f1.trans f3)⟩
  ·exact⟨_,q3.2,q3.1,(e3.clr js).1,(f1.trans f3).trans (e3.clr js).2⟩
  ·exact⟨_,q3.2,q3.1,(e3.clr js).1,(f1.trans f3).trans (e3.clr js).2⟩
end
section
variable {K:Za}{mg:Str->Option Value}{E:L2.St->XK}{H0 H H1 H':Hp}{B Z Z':Addr->Prop}{σ:L2.St}{γ:Γ}
def Vl(N:List Str)(ds:List D):Γ:=ds.map (fun d=>some (arg d))++List.replicate (N.length-ds.length) none
def AQ{N:List Str}{ds:List D}{vs:List V}(r:Rps K H ds vs)(hn:ds.length<=N.length):EnvR K H (fun b=>Mut (H b)) H (start N vs) (Vl N ds):=by
 have hlen:=r.len
 have get:∀(i:Nat) (s:S),(Vl N ds)[i]?=some (some s)->∃d,ds[i]?=some d/\s=arg d:=fun i s h=>by
  unfold Vl at h;by_cases hi:i<ds.length
  ·rw[Y3 (by rw[Z1];exact hi),ZC,Zy hi]at h;exact⟨_,Zy hi,(Z6 (Z6 h)).symm⟩
  ·rw[YG (by rw[Z1];omega),List.getElem?_replicate]at h;split at h<;>cases h
 have noown:∀(i:Nat) (es:O),(Vl N ds)[i]?≠some (some (.own es)):=fun i es h=>by
  obtain⟨d,_,e⟩:=get i _ h;rcases Xb d with q|q<;>rw[q]at e<;>cases e
 refine⟨Same.refl _,?_,fun b h=>h,fun i j a a' es es' b h=>absurd h (noown i es),fun i s h=>?_⟩
 ·unfold L2.start Vl;simp[hlen]
 ·obtain⟨d,hd,rfl⟩:=get i s h;obtain⟨v,hv,rv⟩:=r.get hd;refine⟨v,?_,?_⟩
  ·unfold L2.start;rw[Y3 (by rw[Z1];exact(ZV.mp hv).1),ZC,hv];rfl
  ·have tv:=argR (K:=K) (Z:=zof (fun b=>Mut (H b)) (Vl N ds) (start N vs)) (H0:=H) (H:=H) (H':=H) (fun b z=>z.elim id fun⟨k,es,_,k1,_⟩=>absurd k1 (noown k es)) (Same.refl _) rv;rcases Xb d with q|q<;>rw[q]at tv ⊢<;>exact tv
def B7{c:Pc}{N:List Str}{t:TS}{p:PTS}{vs:List V}{Q:VK}{Ec:XK}{n:Nat}(h:spOf mg c K vs H Q Ec)(snd:SndS K mg (fun _=>Ec) t p)(hn:n<=N.length)(hp:∀ds R X,c ds R X->ds.length=n/\p {nx:=fun _=>R (.sh .non),rt:=R,ex:=fun _ e=>X e} (Vl N ds)):t {nx:=fun _ H'=>Q .non H',rt:=Q} (start N vs) H:=by
 obtain⟨ds,R,X,r,hc,hQ,hX⟩:=h;obtain⟨e,hp⟩:=hp ds R X hc;refine snd H (fun b=>Mut (H b)) H _ _ _ _ (fun b z=>JI z) (AQ r (by rw[e];exact hn)) hp ⟨fun σ' γ' H' h1 e1 f1=>hQ _ _ H' h1 e1.same .non,fun s v H' h1 S1 tv=>hQ s v H' h1 S1 tv,fun σ' γ' c H' h1 e1 f1=>hX c H' h1 e1.same,fun _ _ _ z=>z.elim,fun _ _ _ z=>z.elim,fun _ _ _ _ _ z=>z.elim⟩
def A6{c:Pc}{vs:List V}{Q:VK}{Ec:XK}{n:Nat}(h:spOf mg c K vs H Q Ec)(hn:∀ds R X,c ds R X->ds.length=n):vs.length=n:=by
 obtain⟨ds,R,X,r,hc,_⟩:=h;rw[r.len];exact hn ds R X hc
def atP(φ:List (Option Nat))(γ:Γ):Γ:=φ.map fun o=>o.bind fun j=>(γ[j]?).join
structure CompW (φ:List (Option Nat)) (γ:Γ) (g:PTG) (c:PTT) (e:PTE) (n:Nat) (item:Nat->S) (R:S->Prop):Prop where
 w:n<=100000/\∃f:Nat->Option D,(∀i,i<n->g (item i) (atP φ γ) fun γ2=>c γ2 (fun b=>if b=true then e γ2 (fun s=>∃d,s.shd=some d/\f i=some d) (fun _=>False)else f i=none) (fun _=>False))/\R (.own ((List.range n).filterMap f))
def FP(φ:List (Option Nat))(it:PTI)(g:PTG)(c:PTT)(e:PTE):PTE:=fun γ R X=>it γ (fun n item=>CompW φ γ g c e n item R) X
def Vo{φ:List (Option Nat)}{i:Nat}{s:S}(h:(atP φ γ)[i]?=some (some s)):∃j,φ[i]?=some (some j)/\γ[j]?=some (some s):=by
 unfold atP at h;rw[ZC]at h;cases e:φ[i]? with
 |none=>rw[e]at h;cases h
 |some o=>
  rw[e]at h;cases o with
  |none=>simp at h
  |some j=>
   refine⟨j,rfl,?_⟩;simp at h;cases e2:γ[j]? with
   |none=>rw[e2]at h;simp at h
   |some w=>rw[e2]at h;simp at h;rw[h]
def J9:∀{φ:List (Option Nat)},(φ.filterMap id).Nodup->∀(i j k:Nat),φ[i]?=some (some k)->φ[j]?=some (some k)->i=j
 |[],_,i,_,_,h,_=>by simp at h
 |none::r,hn,i,j,k,h1,h2=>by
  cases i with
  |zero=>simp at h1
  |succ i=>
   cases j with
   |zero=>simp at h2
   |succ j=>exact Yd (· + 1) (J9 (φ:=r) (by simpa using hn) i j k (by simpa using h1) (by simpa using h2))
 |some m::r,hn,i,j,k,h1,h2=>by
  have hn':m∉r.filterMap id/\(r.filterMap id).Nodup:=by simpa using hn
  have mem:∀{j:Nat},r[j]?=some (some k)->k∈r.filterMap id:=fun h=>W8.mpr ⟨some k,Y5 h,rfl⟩;cases i with
  |zero=>
   cases j with
   |zero=>rfl
   |succ j=>
    have e:m=k:=by simpa using h1
    subst e;exact absurd (mem (by simpa using h2)) hn'.1
  |succ i=>
   cases j with
   |zero=>
    have e:m=k:=by simpa using h2
    subst e;exact absurd (mem (by simpa using h1)) hn'.1
   |succ j=>exact Yd (· + 1) (J9 (φ:=r) hn'.2 i j k (by simpa using h1) (by simpa using h2))
def Vp{φ:List (Option Nat)}{i j:Nat}(h1:φ[i]?=some (some j)){v:V}(h2:σ[j]?=some (some v)):(atStart φ σ)[i]?=some (some v):=by
 unfold atStart;rw[ZC,h1];simp[h2]
def Kd{φ:List (Option Nat)}{L:Addr}(env:EnvR K H0 B H σ γ)(nL:H L=none):∀b o,H b=some o->¬zof B γ σ b->¬zof (fun b=>zof B γ σ b\/b=L) (atP φ γ) (atStart φ σ) b:=fun b o hb z y=>by
 rcases y with(y|y)|⟨i',ds,x,y1,y2,y3⟩
 ·exact z y
 ·rw[y,nL]at hb;cases hb
 ·obtain⟨m,m1,m2⟩:=Vo y1;obtain⟨w,w1,_⟩:=env.slot m _ m2;rw[Vp m1 w1]at y2;exact z (.inr ⟨m,ds,x,m2,by rw[w1];exact Yd some (Z6 y2),y3⟩)
def Fl{φ:List (Option Nat)}{L:Addr}(env:EnvR K H0 B H σ γ)(S1:Same H H')(nL:H L=none)(hL:∃ys,H' L=some (.lst ys))(hφ:(φ.filterMap id).Nodup) :
  EnvR K H0 (fun b=>zof B γ σ b\/b=L) H' (atStart φ σ) (atP φ γ):=by
 refine⟨env.same.trans S1,by unfold atStart atP;simp,fun b z=>?_,fun i j a a' ds es b h1 h2 h3 h4 h5 h6=>?_,fun i s h=>?_⟩
 ·rcases z with z|rfl
  ·exact Vu S1 (env.zm b z)
  ·obtain⟨ys,e⟩:=hL;rw[e];trivial
 ·obtain⟨k,k1,k2⟩:=Vo h1;obtain⟨l,l1,l2⟩:=Vo h2;obtain⟨v,v1,_⟩:=env.slot k _ k2;obtain⟨u,u1,_⟩:=env.slot l _ l2;rw[Vp k1 v1]at h3;rw[Vp l1 u1]at h4
  have:=env.own k l a a' ds es b k2 l2 (by rw[v1];exact Yd some (Z6 h3)) (by rw[u1];exact Yd some (Z6 h4)) h5 h6
  subst this;exact J9 hφ i j k k1 l1
 ·obtain⟨k,k1,k2⟩:=Vo h;obtain⟨v,v1,v2⟩:=env.slot k _ k2;have So:Same (off (zof B γ σ) H) (off (zof (fun b=>zof B γ σ b\/b=L) (atP φ γ) (atStart φ σ)) H'):=Ql S1 (Kd env nL);refine⟨v,Vp k1 v1,?_⟩;cases s with
  |bor d=>exact v2
  |sh d=>exact Rp.mono So v2
  |own ds=>
   obtain⟨a,e1,e3,e4⟩:=v2;exact⟨a,e1,e3,e4.mono So fun b _ x=>S1 b x⟩
  |view ds=>exact v2
  |tmp d=>exact v2
def Sub.of {σ σ':L2.St}{is:List Nat} (hl:σ'.length=σ.length) (h1:∀j,j∉is->σ'[j]?=σ[j]?) (h2:∀j∈is,∀v,σ[j]?≠some (some v)):Sub σ σ':=⟨hl,fun i v e=>by
 by_cases hi:i∈is
 ·exact absurd e (h2 i hi v)
 ·rw[h1 i hi];exact e⟩
structure ItOkC (K:Za) (H0:Hp) (B:Addr->Prop) (H1:Hp) (σ:L2.St) (γ:Γ) (J:It) (n:Nat) (item:Nat->S):Prop where
 go:∀(i:Nat) (H':Hp) (Z':Addr->Prop),i<n->Same H1 H'->Later H0 (zof B γ σ) H1 Z' H'->J.go i H'/\∀x H'',J.yld i H' x H''->Same H' H''/\TV K Z' H0 H' H'' (item i) x
 stop:∀(H':Hp) (Z':Addr->Prop),Same H1 H'->Later H0 (zof B γ σ) H1 Z' H'->J.stop n H'
def U0(K:Za)(mg:Str->Option Value)(E:L2.St->XK)(wi:TI)(it:PTI):Prop:=∀(H0:Hp) (B:Addr->Prop) (H:Hp) (σ:L2.St) (γ:Γ) (R:Nat->(Nat->S)->Prop) (X:XR) (Q:It->Hp->Prop),EnvR K H0 B H σ γ->it γ R X->
 (∀n item J H1,R n item->Same H H1->ItOkC K H0 B H1 σ γ J n item->Q J H1)->(∀c H',X c->Same H H'->E σ (.ref (ExcR.Q4 mg c)) none H')->wi σ H Q
def SndI.c {wi:TI}{it:PTI} (h:SndI K mg E wi it):U0 K mg E wi it:=fun H0 B H σ γ R X Q env p q qx=>
 h H0 B H σ γ R X Q env p (fun n item J H1 hR S1 ok=>q n item J H1 hR S1 ⟨fun i H' Z' hi _ lt=>ok.go i H' Z' hi lt,fun H' Z' _ lt=>ok.stop H' Z' lt⟩) qx
def pILc(a:PTE):PTI:=fun γ R X=>a γ (fun s=>match s.d with
 | .lst ds=>R ds.length fun i=>s.sub (ds.getD i .non)
 | .tup ds=>False
 | .scr ns=>R ns.length fun i=>.sh (.int (ns.getD i 0))
 |_=>False) X
def KM{te:TE}{a:PTE}(ha:SndE K mg E te a):U0 K mg E (JV K te) (pILc a):=by
 intro H0 B H σ γ R X Q env h q qx;refine ha H0 B H σ γ _ X _ env h (fun s v H1 h1 S1 t1=>?_) qx;have env1:=env.grow S1;split at h1
 ·rename_i ds ed;have rv:=t1.rp env1.same;rw[ed]at rv;obtain⟨l,vs,rfl,hl1,r1⟩:=rv.lst_inv;refine⟨l,rfl,⟨vs,SqL.of hl1⟩,q _ _ _ H1 h1 S1 ⟨fun i H' Z' hi S2 lt=>?_,fun H' Z' S2 lt=>⟨vs,SqL.of (S2 _ _ hl1),by rw[r1.len];exact Z4 _⟩⟩⟩;have hd:ds[i]?=some (ds.getD i .non):=by rw[Zz,Zy hi];rfl
  have hi':∃u,vs[i]?=some u/\TV K Z' H0 H' H' (s.sub (ds.getD i .non)) u:=by
   cases s with
   |bor d=>
    have t1:=Rp.strip t1;rw[show d.strip=.lst ds from ed]at t1
    obtain⟨l',vs',e',h3,r3⟩:=Rp.lst_inv t1;cases e'
    rw[env1.same _ _ h3]at hl1;cases hl1
    obtain⟨u,h4,h5⟩:=r3.get hd;exact⟨u,h4,argR lt.2.1 lt.1 h5⟩
   |sh d=>
    have:d=.lst ds:=ed
    subst this;obtain⟨l',vs',e',h3,r3⟩:=Rp.lst_inv t1;cases e'
    rw[off_sub _ _ h3]at hl1;cases hl1
    obtain⟨u,h4,h5⟩:=r3.get hd;exact⟨u,h4,Rp.mono lt.off h5⟩
   |own es=>
    cases es with
    |dK es=>cases ed
    |dT es=>cases ed
    |ins x C xs cs=>cases ed
    |nst cs=>cases ed
    |nsl x cs=>
     obtain⟨u,h4,h5⟩:=r1.get hd;exact⟨u,h4,Vd lt.2.1 (Rp.mono S2 h5)⟩
    |lsA x es=>
     cases ed
     obtain⟨l',e',h0,_,vs',h3,r3⟩:=t1;cases e'
     rw[h3]at hl1;cases hl1
     obtain⟨u,h4,h5⟩:=r3.get hd;exact⟨u,h4,Rp.mono lt.off (Rp.mono (Ql (Same.refl _) fun b _ _ z y=>z (.inl y)) h5)⟩
    |lst es=>
    cases ed
    obtain⟨l',e',h0,vs',h3,r3⟩:=t1;cases e'
    rw[h3]at hl1;cases hl1
    obtain⟨u,h4,h5⟩:=r3.get hd;exact⟨u,h4,Rp.mono lt.off (Rp.mono (Ql (Same.refl _) fun b _ _ z y=>z (.inl y)) h5)⟩
   |view es=>
    cases es with
    |dK es=>cases ed
    |dT es=>cases ed
    |ins x C xs cs=>cases ed
    |nst cs=>cases ed
    |nsl x cs=>
     obtain⟨u,h4,h5⟩:=r1.get hd;exact⟨u,h4,Vd lt.2.1 (Rp.mono S2 h5)⟩
    |lsA x es=>
     cases ed
     obtain⟨l',e',_,vs',h3,r3⟩:=t1;cases e'
     rw[h3]at hl1;cases hl1
     obtain⟨u,h4,h5⟩:=r3.get hd;exact⟨u,h4,Rp.mono lt.off h5⟩
    |lst es=>
    cases ed
    obtain⟨l',e',vs',h3,r3⟩:=t1;cases e'
    rw[h3]at hl1;cases hl1
    obtain⟨u,h4,h5⟩:=r3.get hd;exact⟨u,h4,Rp.mono lt.off h5⟩
   |tmp d=>
    have:d=.lst ds:=ed
    subst this;obtain⟨l',vs',e',h3,r3⟩:=Rp.lst_inv t1;cases e'
    rw[h3]at hl1;cases hl1
    obtain⟨u,h4,h5⟩:=r3.get hd;exact⟨u,h4,Vd lt.2.1 (Rp.mono S2 h5)⟩
  obtain⟨u,hu,tu⟩:=hi';refine⟨⟨vs,u,SqL.of (S2 _ _ hl1),hu⟩,fun x H'' y=>?_⟩;obtain⟨rfl,y⟩:=y
  have:=y vs (SqL.of (S2 _ _ hl1))
  rw[hu]at this;cases this
  exact⟨Same.refl _,tu⟩
 ·exact h1.elim
 ·rename_i ns ed;have rv:=t1.rp env1.same;rw[ed]at rv;cases rv with
  |scr hs=>
   refine⟨_,rfl,⟨_,hs⟩,q _ _ _ H1 h1 S1 ⟨fun i H' Z' hi S2 lt=>?_,fun H' Z' S2 lt=>⟨_,S2.seq hs,by rw[Z1];exact Z4 _⟩⟩⟩
   have hu:(ns.map V.int)[i]?=some (.int (ns.getD i 0)):=by
    rw[ZC,Zy hi,Zz,Zy hi];rfl
   refine⟨⟨_,_,S2.seq hs,hu⟩,fun x H'' y=>?_⟩;obtain⟨rfl,y⟩:=y
   have:=y _ (S2.seq hs)
   rw[hu]at this;cases this
   exact⟨Same.refl _,.int _⟩
 ·exact h1.elim
def JA{φ:List (Option Nat)}{is:List Nat}{wi:TI}{g:TG}{tc:TT}{te:TE}{it:PTI}{pg:PTG}{c:PTT}{a:PTE}(hi:U0 K mg E wi it)(hg:VH K is g pg)(hc:SndT K mg E tc c)(he:SndE K mg E te a)(h1:(φ.filterMap id).Nodup:=by decide)(h2:∀j∈is,φ[j]?=some none:=by decide):SndE K mg E (J4 φ wi g tc te) (FP φ it pg c a):=by
 intro H0 B H σ γ R X Q env h q qx;refine hi H0 B H σ γ _ X _ env h (fun n item J H1 h1' S1 ok=>?_) qx;obtain⟨hn,f,hf,hR⟩:=h1'.w;have env1:=env.grow S1;have hbig:n<=sizeLine:=ZM hn (by decide);intro L nL;refine⟨fun i m ys H2=>m=n-i/\i<=n/\Same H1 H2/\H2 L=some (.lst ys)/\Rps K (off (fun b=>zof B γ σ b\/b=L) H2) ((List.range i).filterMap f) ys,⟨n,by simp,Yo _,Qy nL,Qn,.nil⟩,?_⟩;rintro i m ys H2 ⟨rfl,hin,S2,hL,hys⟩;have env2:=env1.grow S2;by_cases hlt:i<n
 ·have envI2:=Fl (φ:=φ) env1 S2 nL ⟨ys,hL⟩ h1;obtain⟨go,yl⟩:=ok.go i H2 _ hlt S2 ⟨env2.same,envI2.zm,fun b o hb z=>⟨S2 _ _ hb,Kd env1 nL b o hb z⟩⟩;refine .inr ⟨go,fun x H3 y=>?_⟩;obtain⟨S3,tv⟩:=yl x H3 y;refine hg H0 _ H2 H3 _ _ _ _ _ _ envI2 S3 tv (hf i hlt) fun σ2 γ2 p2 e2 f2 k2=>⟨?_,?_⟩
  ·refine Sub.of (is:=is) k2.2 k2.1 fun j hj v z=>?_;obtain⟨k,k1,_⟩:=UW z;rw[h2 j hj]at k1;cases k1
  ·refine hc H0 _ H3 σ2 γ2 _ _ _ e2 p2 (fun b H5 q5 S5=>?_) fun _ _ z=>z.elim;have e5:=e2.grow S5;cases b with
   |false=>
    rw[Z8 ZD]at q5 ⊢;refine⟨n-(i+1),by omega,rfl,hlt,(S2.trans S3).trans S5,(S3.trans S5) _ _ hL,?_⟩;rw[Wh,Y2];simp only[Yy,q5,List.filterMap_nil,Wg];exact Rps.mono (Ql (S3.trans S5) fun _ _ _ z=>z) hys
   |true=>
    rw[ZA rfl]at q5 ⊢;refine he H0 _ H5 σ2 γ2 _ _ _ e5 q5 (fun s v H6 q6 S6 t6=>?_) fun _ _ z=>z.elim;obtain⟨d,hd,hfd⟩:=q6;have S26:=(S3.trans S5).trans S6;have hr:=t6.shd (e5.grow S6).same e5.zm S6 hd
    have hlen:ys.length<=i:=by
     rw[hys.len];exact ZM (Wn _ _) (by rw[YU];exact Z4 _)
    refine⟨S26 _ _ hL,by omega,n-(i+1),by omega,rfl,hlt,fun b o hb=>?_,Qn,?_⟩
    ·rw[Qh (Qv hb nL)];exact S26 _ _ (S2 _ _ hb)
    ·rw[Wh,Y2];have ef:[i].filterMap f=[d]:=by simp[hfd]
     rw[ef]
     have So:Same (off (fun b=>zof B γ σ b\/b=L) H6) (off (fun b=>zof B γ σ b\/b=L) (upd H6 L (.lst (ys++[v])))):=fun b o h=>by
      obtain⟨a1,a2⟩:=V3 h;refine QP ?_ a2;rw[Qh fun z=>a2 (.inr z)];exact a1
     refine Rps.append (Rps.mono So (Rps.mono (Ql S26 fun _ _ _ z=>z) hys)) (.cons (Rp.mono So (Rp.mono (Ql (Same.refl _) fun b _ _ z y=>z (.inl y)) hr)) .nil)
 ·have:i=n:=by omega
  subst this;exact .inl ⟨ok.stop H2 _ S2 (Later.of env2 (Fr.grow S2)),q _ _ H2 hR (S1.trans S2) ⟨L,rfl,(fun _ e=>e▸S1.free nL),ys,hL,hys⟩⟩
def pYes:PTT:=fun _ R _=>R true
def UG:SndT K mg E PP pYes:=fun _ _ H _ _ _ _ _ _ p q _=>q _ H p (Same.refl _)
def Bv{α β:Type}(xs:List α)(f:α->Option β):(List.range xs.length).filterMap (fun i=>(xs[i]?).bind f)=xs.filterMap f:=by
 induction xs with
 |nil=>rfl
 |cons x r ih=>
  rw[Y1,List.range_succ_eq_map,Yy,List.filterMap_map,Yy]
  have e:(fun i=>((x::r)[i]?).bind f)∘Nat.succ=fun i=>(r[i]?).bind f:=by
   funext i;simp
  rw[e,ih];rfl
end
open M
section
variable {K:Za}{mg:Str->Option Value}{E:L2.St->XK}{H0 H H1 H':Hp}{B Z Z':Addr->Prop}{σ:L2.St}{γ:Γ}
def pCB(f:List S->(S->Prop)->Prop)(r:PTA):PTE:=fun γ R X=>r γ (fun ss=>f ss R) X
def JQ{rr:List V->Hp->VK->Prop}{f:List S->(S->Prop)->Prop}{ta:TA}{r:PTA}(hr:SndA K mg E ta r)(h:∀(H0 H H1:Hp) (Z:Addr->Prop) (ss:List S) (vs:List V) (R:S->Prop) (Q:VK),Same H0 H1->Same H H1->(∀b,Z b->Mut (H b))->TVs K Z H0 H H1 ss vs->f ss R->(∀s z H',R s->Same H1 H'->TV K Z H0 H H' s z->Q z H')->rr vs H1 Q) :
  SndE K mg E (tCB rr ta) (pCB f r):=by
 intro H0 B H σ γ R X Q env p q qx;refine hr H0 B H σ γ _ X _ env p (fun ss vs H1 h1 S1 t1=>?_) qx;exact h H0 H H1 _ ss vs R Q (env.grow S1).same S1 env.zm t1 h1 fun s z H' hs S2 tv=>q s z H' hs (S1.trans S2) tv
def S.free:S->List D->Bool
 | .bor _,ds=>imms ds | .tmp _,ds=>imms ds | .view (.nst _),ds=>imms ds | .view (.nsl _ _),ds=>imms ds|_,_=>true
def TVs.one_inv {s:S}{vs:List V} (h:TVs K Z H0 H H' [s] vs):∃v,vs=[v]/\TV K Z H0 H H' s v:=by
 cases h with
 |cons h r=>cases r;exact⟨_,rfl,h⟩
def TVs.two_inv {s t:S}{vs:List V} (h:TVs K Z H0 H H' [s,t] vs):∃v u,vs=[v,u]/\TV K Z H0 H H' s v/\TV K Z H0 H H' t u:=by
 cases h with
 |cons h r=>cases r with|cons h2 r=>cases r;exact⟨_,_,rfl,h,h2⟩
def TV.items {s:S}{v:V}{ds:List D} (h0:Same H0 H') (hm:∀b,Z b->Mut (H b)) (S1:Same H H') (h:TV K Z H0 H H' s v) (hf:s.free ds=true) :
  (s.d=.lst ds->∃a vs,v=.ref a/\H' a=some (.lst vs)/\Rps K (off Z H') ds vs)/\(s.d=.tup ds->∃a vs,v=.ref a/\H' a=some (.tup vs)/\Rps K (off Z H') ds vs):=by
 have hm':∀b,Z b->Mut (H' b):=fun b z=>Vu S1 (hm b z);cases s with
 |bor d=>
  have h:=Rp.strip h;refine⟨fun e=>?_,fun e=>?_⟩<;>rw[show d.strip=_ from e]at h
  ·obtain⟨a,vs,rfl,h1,r⟩:=Rp.lst_inv h;exact⟨a,vs,rfl,h0 _ _ h1,Rps.off hm' (Rps.mono h0 r) hf⟩
  ·obtain⟨a,vs,rfl,h1,r⟩:=Rp.tup_inv h;exact⟨a,vs,rfl,h0 _ _ h1,Rps.off hm' (Rps.mono h0 r) hf⟩
 |sh d=>
  refine⟨fun e=>?_,fun e=>?_⟩<;>(have e':d=_:=e;subst e')
  ·obtain⟨a,vs,rfl,h1,r⟩:=Rp.lst_inv h;exact⟨a,vs,rfl,off_sub _ _ h1,r⟩
  ·obtain⟨a,vs,rfl,h1,r⟩:=Rp.tup_inv h;exact⟨a,vs,rfl,off_sub _ _ h1,r⟩
 |own es=>
  cases es with
  |dK es=>exact⟨(fun e=>by cases e),(fun e=>by cases e)⟩
  |dT es=>exact⟨(fun e=>by cases e),(fun e=>by cases e)⟩
  |ins x C xs cs=>exact⟨(fun e=>by cases e),(fun e=>by cases e)⟩
  |nsl x cs=>
   refine⟨fun e=>?_,fun e=>by cases e⟩;have h2:=h.shd h0 hm S1 (d:=.lst (cs.map fun c=>.lst c.2)) rfl;cases e
   obtain⟨a,vs,rfl,h1,r⟩:=Rp.lst_inv h2;exact⟨a,vs,rfl,off_sub _ _ h1,r⟩
  |nst cs=>
   refine⟨(fun e=>by cases e),fun e=>?_⟩;have h2:=h.shd h0 hm S1 (d:=.tup (cs.map fun c=>.lst c.2)) rfl;cases e
   obtain⟨a,vs,rfl,h1,r⟩:=Rp.tup_inv h2;exact⟨a,vs,rfl,off_sub _ _ h1,r⟩
  |lst es=>
   refine⟨fun e=>?_,fun e=>by cases e⟩;cases e
   obtain⟨a,rfl,e0,vs,e,r⟩:=h;exact⟨a,vs,rfl,e,Rps.mono (Ql (Same.refl _) fun b _ _ z y=>z (.inl y)) r⟩
  |lsA x es=>
   refine⟨fun e=>?_,fun e=>by cases e⟩;cases e
   obtain⟨a,rfl,e0,_,vs,e,r⟩:=h;exact⟨a,vs,rfl,e,Rps.mono (Ql (Same.refl _) fun b _ _ z y=>z (.inl y)) r⟩
 |view es=>
  cases es with
  |dK es=>exact⟨(fun e=>by cases e),(fun e=>by cases e)⟩
  |dT es=>exact⟨(fun e=>by cases e),(fun e=>by cases e)⟩
  |ins x C xs cs=>exact⟨(fun e=>by cases e),(fun e=>by cases e)⟩
  |nsl x cs=>
   refine⟨fun e=>?_,fun e=>by cases e⟩;have h2:=h.rp h0;rw[e]at h2;obtain⟨a,vs,rfl,h1,r⟩:=Rp.lst_inv h2;exact⟨a,vs,rfl,h1,Rps.off hm' r hf⟩
  |nst cs=>
   refine⟨(fun e=>by cases e),fun e=>?_⟩;have h2:=h.rp h0;rw[e]at h2;obtain⟨a,vs,rfl,h1,r⟩:=Rp.tup_inv h2;exact⟨a,vs,rfl,h1,Rps.off hm' r hf⟩
  |lst es=>
   refine⟨fun e=>?_,fun e=>by cases e⟩;cases e
   obtain⟨a,rfl,vs,e,r⟩:=h;exact⟨a,vs,rfl,e,r⟩
  |lsA x es=>
   refine⟨fun e=>?_,fun e=>by cases e⟩;cases e
   obtain⟨a,rfl,_,vs,e,r⟩:=h;exact⟨a,vs,rfl,e,r⟩
 |tmp d=>
  refine⟨fun e=>?_,fun e=>?_⟩<;>(have e':d=_:=e;subst e')
  ·obtain⟨a,vs,rfl,h1,r⟩:=Rp.lst_inv h;exact⟨a,vs,rfl,h1,Rps.off hm' r hf⟩
  ·obtain⟨a,vs,rfl,h1,r⟩:=Rp.tup_inv h;exact⟨a,vs,rfl,h1,Rps.off hm' r hf⟩
def fLen:List S->(S->Prop)->Prop
 |[s],R=>(match s.d with
  | .lst ds=>R (.sh (.int ds.length)) | .tup ds=>R (.sh (.int ds.length)) | .scr ns=>R (.sh (.int ns.length)) | .str x=>x.length<=sizeLine/\R (.sh (.int x.length))|_=>False)
 |_,_=>False
def Vt{ta:TA}{r:PTA}(hr:SndA K mg E ta r):SndE K mg E (tCB (fun xs H Q=>∃x n,xs=[x]/\LenV K x H n/\Q (.int n) H) ta) (pCB fLen r):=by
 refine JQ hr fun H0 H H1 Z ss vs R Q s0 s1 hm tv h q=>?_;unfold fLen at h;split at h
 ·rename_i s;obtain⟨v,rfl,t1⟩:=tv.one_inv;have rv:=t1.rp s0;split at h
  ·rename_i ds e;rw[e]at rv;obtain⟨a,us,rfl,h1,r1⟩:=rv.lst_inv;exact⟨_,_,rfl,.inl ⟨us,SqL.of h1,rfl⟩,by rw[r1.len];exact q _ _ H1 h (Same.refl _) (.int _)⟩
  ·rename_i ds e;rw[e]at rv;obtain⟨a,us,rfl,h1,r1⟩:=rv.tup_inv;exact⟨_,_,rfl,.inr ⟨us,SqT.of h1,rfl⟩,by rw[r1.len];exact q _ _ H1 h (Same.refl _) (.int _)⟩
  ·rename_i ns e;rw[e]at rv;cases rv with
   |scr hs=>exact⟨_,_,rfl,.inl ⟨_,hs,rfl⟩,by rw[Z1];exact q _ _ H1 h (Same.refl _) (.int _)⟩
  ·rename_i x e;rw[e]at rv;rw[rv.str_inv];exact⟨_,_,rfl,⟨h.1,rfl⟩,q _ _ H1 h.2 (Same.refl _) (.int _)⟩
  ·exact h.elim
 ·exact h.elim
def XO:List S->(S->Prop)->Prop
 |[s],R=>(match s.d with
  | .lst ds=>s.free ds=true/\R (.own ds) | .tup ds=>s.free ds=true/\R (.own ds)|_=>False)
 |_,_=>False
def Nq{ta:TA}{r:PTA}(hr:SndA K mg E ta r):SndE K mg E (tCB (fun xs H Q=>∃p ys,xs=[.ref p]/\(SqL K H p ys\/SqT K H p ys)/\∀l,H l=none->Q (.ref l) (upd H l (.lst ys))) ta) (pCB XO r):=by
 refine JQ hr fun H0 H H1 Z ss vs R Q s0 s1 hm tv h q=>?_;unfold XO at h;split at h
 ·rename_i s;obtain⟨v,rfl,t1⟩:=tv.one_inv;split at h
  ·rename_i ds e;obtain⟨a,us,rfl,h1,r1⟩:=(t1.items s0 hm s1 h.1).1 e;exact⟨a,us,rfl,.inl (SqL.of h1),fun l nl=>q _ _ _ h.2 (Qy nl) (Vs s1 nl r1)⟩
  ·rename_i ds e;obtain⟨a,us,rfl,h1,r1⟩:=(t1.items s0 hm s1 h.1).2 e;exact⟨a,us,rfl,.inr (SqT.of h1),fun l nl=>q _ _ _ h.2 (Qy nl) (Vs s1 nl r1)⟩
  ·exact h.elim
 ·exact h.elim
def Rps.ints {K:Za}{H:Hp}:∀{js:List Int}{vs:List V},Rps K H (js.map D.int) vs->vs=js.map V.int
 |[],_,.nil=>rfl
 |j::r,_,.cons h t=>by rw[Rp.int_inv h,Rps.ints t];rfl
def Rps.of_ints {K:Za}{H:Hp}:∀(js:List Int),Rps K H (js.map D.int) (js.map V.int)
 |[]=>.nil
 |j::r=>.cons (.int j) (Rps.of_ints r)
def Kw:List S->(S->Prop)->Prop
 |[s],R=>∃js:List Int,s.d=.lst (js.map D.int)/\js.length<64/\∀ns:List Int,ns.Perm js->ns.Pairwise (·<=·)->R (.own (ns.map D.int))
 |_,_=>False
def BH{w:World}{ta:TA}{r:PTA}(hr:SndA K mg E ta r):SndE K mg E (tCB (fun xs H Q=>∃(p:Addr) (js:List Int),xs=[.ref p]/\js.length<64/\(SqL K H p (js.map V.int)\/H p=some (SetH w p js))/\
  ∀(l:Addr) (ns:List Int),H l=none->ns.Perm js->ns.Pairwise (·<=·)->Q (.ref l) (upd H l (.lst (ns.map V.int)))) ta) (pCB Kw r):=by
 refine JQ hr fun H0 H H1 Z ss vs R Q s0 s1 hm tv h q=>?_;unfold Kw at h;split at h
 ·rename_i s;obtain⟨v,rfl,t1⟩:=tv.one_inv;obtain⟨js,e,hz,k⟩:=h;have rv:=t1.rp s0;rw[e]at rv;obtain⟨a,us,rfl,h1,r1⟩:=rv.lst_inv;rw[r1.ints]at h1;exact⟨a,js,rfl,hz,.inl (SqL.of h1),fun l ns nl hp hs=>q _ _ _ (k ns hp hs) (Qy nl) (Vs s1 nl (Rps.of_ints ns))⟩
 ·exact h.elim
def CM:List S->(S->Prop)->Prop
 |[s,t],R=>(match s.d,t.d with | .int i,.int j=>R (.sh (.int (if j>i then j else i)))|_,_=>False)
 |_,_=>False
def fAbs:List S->(S->Prop)->Prop
 |[s],R=>(match s.d with | .int i=>R (.sh (.int (if i<0 then -i else i)))|_=>False)
 |_,_=>False
def tyD:D->Option String
 | .int _=>some "int" | .bl _=>some "bool" | .non=>some "NoneType" | .str _=>some "str" | .tup _=>some "tuple" | .lst _=>some "list" | .dK _=>some "dict" | .dT _=>some "dict" |_=>none
inductive IsiR:String->String->Bool->Prop
 |same (n:String):IsiR n n true
 |ib:IsiR "int" "bool" false
 |bi:IsiR "bool" "int" true
 |tl:IsiR "tuple" "list" false
 |lt:IsiR "list" "tuple" false
 |it:IsiR "int" "tuple" false
 |il:IsiR "int" "list" false
 |bt:IsiR "bool" "tuple" false
 |bL:IsiR "bool" "list" false
 |ti:IsiR "tuple" "int" false
 |li:IsiR "list" "int" false
 |si:IsiR "str" "int" false
 |is:IsiR "int" "str" false
 |ni:IsiR "NoneType" "int" false
 |nl:IsiR "NoneType" "list" false
 |nt:IsiR "NoneType" "tuple" false
def IsiR.kit {m n:String}{b:Bool} (h:IsiR m n b):PySem.W.kitOne K (.type m) (.type n)=some b:=by
 cases h with
 |same=>exact Je K _
 |_=>rfl
def fIsi:List S->(S->Prop)->Prop
 |[s,t],R=>(match tyD s.d,t.d with|some m,.ty n=>∃b,IsiR m n b/\R (.sh (.bl b))|_,_=>False)
 |_,_=>False
def BS{d:D}{v:V}{m:String}(h:Rp K H d v)(e:tyD d=some m):TyOf K H v (.type m):=by
 cases h with
 |int i=>cases e;exact .int i
 |bl b=>cases e;exact .bl b
 |non=>cases e;exact .non
 |str x=>cases e;exact .str x
 |ty n=>cases e
 |tup h r=>cases e;exact .tup h
 |lst h r=>cases e;exact .lst h
 |scr h=>cases e
 |dK h=>cases e;exact .dK h
 |dT h=>cases e;exact .dT h
 |dF h=>cases e
 |loc h=>cases e
 |err h=>cases e
 |ref a=>cases e
 |ins h q r=>cases e
def Nt{ta:TA}{r:PTA}(hr:SndA K mg E ta r):SndE K mg E (tCB (fun xs H Q=>∃x n t b,xs=[x,.ty n]/\TyOf K H x t/\PySem.W.kitOne K t (.type n)=some b/\Q (.bl b) H) ta) (pCB fIsi r):=by
 refine JQ hr fun H0 H H1 Z ss vs R Q s0 s1 hm tv h q=>?_;unfold fIsi at h;split at h
 ·obtain⟨v,u,rfl,t1,t2⟩:=tv.two_inv;have r1:=t1.rp s0;have r2:=t2.rp s0;split at h
  ·rename_i m n e1 e2;rw[e2]at r2;rw[r2.ty_inv];obtain⟨b,k,hR⟩:=h;exact⟨v,n,_,b,rfl,BS r1 e1,k.kit,q _ _ H1 hR (Same.refl _) (.bl _)⟩
  ·exact h.elim
 ·exact h.elim
def Ng:List S->(S->Prop)->Prop
 |[s,t],R=>(match s.d,t.d with | .int i,.int j=>(-(2 ^ 62)<=i/\i<2 ^ 62/\-(2 ^ 62)<=j/\j<2 ^ 62)/\(j-i).toNat<=1000000/\R (.own ((runI i (j-i).toNat).map D.int))|_,_=>False)
 |_,_=>False
abbrev Fv:List V->Hp->VK->Prop:=fun xs H Q=>∃(r:Addr) (i j:Int),xs=[.ref r]/\H r=some (.rng i j)/\(-(2 ^ 62)<=i/\i<2 ^ 62/\-(2 ^ 62)<=j/\j<2 ^ 62)/\(j-i).toNat<=1000000/\∀l,H l=none->Q (.ref l) (upd H l (.lst ((runI i (j-i).toNat).map V.int)))
def BR{ta:TA}{r:PTA}(hr:SndA K mg E ta r):SndE K mg E (tCB Fv (Q0 (tCB (fun xs H Q=>∃i j:Int,xs=[.int i,.int j]/\∀r,H r=none->Q (.ref r) (upd H r (.rng i j))) ta) tNil)) (pCB Ng r):=by
 intro H0 B H σ γ R X Q env p q qx;refine hr H0 B H σ γ _ X _ env p (fun ss vs H1 h1 S1 t1=>?_) qx;have s0:=(env.grow S1).same;unfold Ng at h1;split at h1
 ·obtain⟨v,u,rfl,t1',t2'⟩:=t1.two_inv;have r1:=t1'.rp s0;have r2:=t2'.rp s0;split at h1
  ·rename_i i j e1 e2;rw[e1]at r1;rw[e2]at r2;rw[r1.int_inv,r2.int_inv];refine⟨i,j,rfl,fun a na=>⟨a,i,j,rfl,Qn,h1.1,h1.2.1,fun l nl=>?_⟩⟩;have S2:=Qy (o:=.rng i j) na;exact q _ _ _ h1.2.2 ((S1.trans S2).trans (Qy nl)) (Vs (S1.trans S2) nl (Rps.of_ints _))
  ·exact h1.elim
 ·exact h1.elim
def pBM(f:S->List S->(S->Prop)->Prop)(a:PTE)(r:PTA):PTE:=fun γ R X=>a γ (fun s=>(∃ds,s.d=.lst ds)/\r γ (fun ss=>f s ss R) X) X
def Ae{rr:V->List V->Hp->VK->Prop}{f:S->List S->(S->Prop)->Prop}{te:TE}{ta:TA}{a:PTE}{r:PTA}(ha:SndE K mg E te a)(hr:SndA K mg E ta r)(h:∀(H0 H H1:Hp) (Z:Addr->Prop) (s:S) (v:V) (ss:List S) (vs:List V) (R:S->Prop) (Q:VK),Same H0 H1->Same H H1->(∀b,Z b->Mut (H b))->TV K Z H0 H H1 s v->TVs K Z H0 H H1 ss vs->f s ss R->(∀s z H',R s->Same H1 H'->TV K Z H0 H H' s z->Q z H')->rr v vs H1 Q) :
  SndE K mg E (tBM K "list" rr te ta) (pBM f a r):=by
 intro H0 B H σ γ R X Q env p q qx;refine ha H0 B H σ γ _ X _ env p (fun s v H1 h1 S1 t1=>?_) qx;have env1:=env.grow S1;obtain⟨⟨ds,ed⟩,h1⟩:=h1;have rv:=t1.rp env1.same;rw[ed]at rv;obtain⟨l,us,rfl,hl,_⟩:=rv.lst_inv;refine⟨.inl ⟨rfl,us,SqL.of hl⟩,hr H0 B H1 σ γ _ X _ env1 h1 (fun ss vs H2 h2 S2 t2=>?_) fun c H' hc S'=>qx c H' hc (S1.trans S')⟩;exact h H0 H H2 _ s _ ss vs R Q (env1.grow S2).same (S1.trans S2) env.zm (t1.grow S2) (TVs.weakG S1 t2) h2 fun s z H' hs S3 tv=>q s z H' hs ((S1.trans S2).trans S3) tv
def XA:S->List S->(S->Prop)->Prop:=fun s ss R=>match ss with
 |[t]=>(match t.d with | .int z=>∃xs:List Int,s.d=.lst (xs.map D.int)/\z∈xs/\R (.sh (.int (xs.idxOf z:Nat)))|_=>False)
 |_=>False
def Jj{te:TE}{ta:TA}{a:PTE}{r:PTA}(ha:SndE K mg E te a)(hr:SndA K mg E ta r):SndE K mg E (tBM K "list" (Jt K) te ta) (pBM XA a r):=by
 refine Ae ha hr fun H0 H H1 Z s v ss vs R Q s0 s1 hm t1 t2 h q=>?_;unfold XA at h;split at h
 ·obtain⟨u,rfl,t2'⟩:=t2.one_inv;have r2:=t2'.rp s0;split at h
  ·rename_i z e;rw[e]at r2;obtain⟨xs,ex,hz,hR⟩:=h;have r1:=t1.rp s0;rw[ex]at r1;obtain⟨l,us,rfl,hl,r1⟩:=r1.lst_inv;rw[r1.ints]at hl;exact⟨l,xs,z,rfl,by rw[r2.int_inv],SqL.of hl,hz,q _ _ H1 hR (Same.refl _) (.int _)⟩
  ·exact h.elim
 ·exact h.elim
def prD(p:Int×Int):D:=.tup [.int p.1,.int p.2]
def Rp.pair {q:Int×Int}{v:V} (h:Rp K H (prD q) v):PairR H v q:=by
 obtain⟨a,vs,rfl,h1,r⟩:=Rp.tup_inv h;obtain⟨x,y,rfl,r1,r2⟩:=r.two_inv;rw[r1.int_inv,r2.int_inv]at h1;exact⟨a,rfl,h1⟩
def Rp.of_pair {q:Int×Int}{v:V} (h:PairR H v q):Rp K H (prD q) v:=by
 obtain⟨a,rfl,h1⟩:=h;exact .tup h1 (.cons (.int _) (.cons (.int _) .nil))
def Rps.lv {K:Za}{H:Hp}{ps:List (Int×Int)}{vs:List V} (h:Rps K H (ps.map prD) vs):LV PairR H vs ps:=by
 refine⟨by rw[h.len,Z1],fun i p hp=>?_⟩;obtain⟨v,h1,h2⟩:=h.get (i:=i) (d:=prD p) (by rw[ZC,hp];rfl);exact⟨v,h1,h2.pair⟩
def Rps.of_lv {K:Za}{H:Hp}:∀{ps:List (Int×Int)}{vs:List V},LV PairR H vs ps->Rps K H (ps.map prD) vs
 |[],[],_=>.nil
 |[],_::_,h=>by have:=h.1;simp at this
 |_::_,[],h=>by have:=h.1;simp at this
 |p::ps,v::vs,h=>by
  have h':=(LV.cons_iff (R:=PairR) (H:=H) (v:=v) (vs:=vs) (x:=p) (xs:=ps)).mp h;exact .cons (Rp.of_pair h'.1) (Rps.of_lv h'.2)
def fEqU(neg:Bool):S->S->(S->Prop)->Prop:=fun x y R=>match x.d,y.d with
 | .lst ds,.lst es=>∃xs ys:List Int,ds=xs.map D.int/\es=ys.map D.int/\R (.sh (.bl (if neg then !decide (xs=ys)else decide (xs=ys))))
 |_,_=>fEq neg x y R
def Jc{ta tb:TE}{a b:PTE}(ha:SndE K mg E ta a)(hb:SndE K mg E tb b):SndE K mg E (tOp (fun x y H Q=>rEq x y H Q\/rEqL K false x y H Q) ta tb) (p2 a b (fEqU false)):=by
 refine se_2 ha hb fun H0 H H2 Z x y v u R Q s0 s1 hm tx ty h q=>?_;have rx:=tx.rp s0;have ry:=ty.rp s0;unfold fEqU at h;split at h
 ·rename_i ds es e1 e2;obtain⟨xs,ys,rfl,rfl,hR⟩:=h;rw[e1]at rx;rw[e2]at ry;obtain⟨l,us,rfl,hl,r⟩:=rx.lst_inv;obtain⟨m,ws,rfl,hm,r'⟩:=ry.lst_inv;rw[r.ints]at hl;rw[r'.ints]at hm;refine .inr ⟨l,m,_,_,rfl,rfl,SqL.of hl,SqL.of hm,VA _,VA _,?_⟩;rw[Ua];exact q _ _ H2 hR (Same.refl _) (.bl _)
 ·refine .inl ?_;unfold fEq at h;split at h
  ·rename_i i j e1 e2;rw[e1]at rx;rw[e2]at ry;rw[rx.int_inv,ry.int_inv];refine⟨rfl,?_⟩;rw[VO (f:=V.int) fun _ _ z=>V.int.inj z];exact q _ _ H2 h (Same.refl _) (.bl _)
  ·rename_i i j e1 e2;rw[e1]at rx;rw[e2]at ry;rw[rx.str_inv,ry.str_inv];refine⟨rfl,?_⟩;rw[VO (f:=V.str) fun _ _ z=>V.str.inj z];exact q _ _ H2 h (Same.refl _) (.bl _)
  ·rename_i i j e1 e2;rw[e1]at rx;rw[e2]at ry;rw[rx.bl_inv,ry.bl_inv];refine⟨rfl,?_⟩;rw[VO (f:=V.bl) fun _ _ z=>V.bl.inj z];exact q _ _ H2 h (Same.refl _) (.bl _)
  ·exact h.elim
def Jb{ta tb:TE}{a b:PTE}(ha:SndE K mg E ta a)(hb:SndE K mg E tb b):SndE K mg E (tOp (fun x y H Q=>rNe x y H Q\/rEqL K true x y H Q) ta tb) (p2 a b (fEqU true)):=by
 refine se_2 ha hb fun H0 H H2 Z x y v u R Q s0 s1 hm tx ty h q=>?_;have rx:=tx.rp s0;have ry:=ty.rp s0;unfold fEqU at h;split at h
 ·rename_i ds es e1 e2;obtain⟨xs,ys,rfl,rfl,hR⟩:=h;rw[e1]at rx;rw[e2]at ry;obtain⟨l,us,rfl,hl,r⟩:=rx.lst_inv;obtain⟨m,ws,rfl,hm,r'⟩:=ry.lst_inv;rw[r.ints]at hl;rw[r'.ints]at hm;refine .inr ⟨l,m,_,_,rfl,rfl,SqL.of hl,SqL.of hm,VA _,VA _,?_⟩;rw[Ua];exact q _ _ H2 hR (Same.refl _) (.bl _)
 ·refine .inl ?_;unfold fEq at h;split at h
  ·rename_i i j e1 e2;rw[e1]at rx;rw[e2]at ry;rw[rx.int_inv,ry.int_inv];refine⟨rfl,?_⟩;rw[VO (f:=V.int) fun _ _ z=>V.int.inj z];exact q _ _ H2 h (Same.refl _) (.bl _)
  ·rename_i i j e1 e2;rw[e1]at rx;rw[e2]at ry;rw[rx.str_inv,ry.str_inv];refine⟨rfl,?_⟩;rw[VO (f:=V.str) fun _ _ z=>V.str.inj z];exact q _ _ H2 h (Same.refl _) (.bl _)
  ·rename_i i j e1 e2;rw[e1]at rx;rw[e2]at ry;rw[rx.bl_inv,ry.bl_inv];refine⟨rfl,?_⟩;rw[VO (f:=V.bl) fun _ _ z=>V.bl.inj z];exact q _ _ H2 h (Same.refl _) (.bl _)
  ·exact h.elim
abbrev tTru(K:Za)(ta:TE):TT:=fun σ H Q=>ta σ H fun x H'=>∃k,TruV K x H' k/\Q k H'
def pTru(a:PTE):PTT:=fun γ R X=>a γ (fun x=>match x.d with
 | .bl b=>R b | .lst ds=>R (!ds.isEmpty) | .tup ds=>R (!ds.isEmpty) | .int i=>R (i != 0) | .non=>R false|_=>False) X
def TU{α β:Type}{l:List α}{m:List β}(h:l.length=m.length):l.isEmpty=m.isEmpty:=by
 cases l<;>cases m<;>simp at h ⊢
def VV{te:TE}{a:PTE}(ha:SndE K mg E te a):SndT K mg E (tTru K te) (pTru a):=by
 intro H0 B H σ γ R X Q env p q qx;refine ha H0 B H σ γ _ X _ env p (fun x v H1 h1 S1 t1=>?_) qx;have rx:=t1.rp (env.grow S1).same;split at h1
 ·rename_i b e;rw[e]at rx;rw[rx.bl_inv];exact⟨b,rfl,q _ H1 h1 S1⟩
 ·rename_i ds e;rw[e]at rx;obtain⟨l,us,rfl,hl,r⟩:=rx.lst_inv;exact⟨!us.isEmpty,.inl ⟨us,SqL.of hl,rfl⟩,by rw[TU r.len];exact q _ H1 h1 S1⟩
 ·rename_i ds e;rw[e]at rx;obtain⟨l,us,rfl,hl,r⟩:=rx.tup_inv;exact⟨!us.isEmpty,.inr (.inl ⟨us,SqT.of hl,rfl⟩),by rw[TU r.len];exact q _ H1 h1 S1⟩
 ·rename_i i e;rw[e]at rx;rw[rx.int_inv];exact⟨_,rfl,q _ H1 h1 S1⟩
 ·rename_i e;rw[e]at rx;rw[rx.non_inv];exact⟨_,rfl,q _ H1 h1 S1⟩
 ·exact h1.elim
def cutD{α:Type}(xs:List α)(lo hi:Option Int):List α:=(xs.drop (HT.sIx xs.length 0 lo)).take (HT.sIx xs.length xs.length hi-HT.sIx xs.length 0 lo)
def FJ:PTO:=fun _ R _=>R none
def Sm(a:PTE):PTO:=fun γ R X=>a γ (fun s=>match s.d with | .int i=>R (some i)|_=>False) X
def Kb:SndO K mg E Xs FJ:=fun _ _ H _ _ _ _ _ _ p q _=>q _ H p (Same.refl _)
def Ka{te:TE}{a:PTE}(ha:SndE K mg E te a):SndO K mg E (Ki te) (Sm a):=by
 intro H0 B H σ γ R X Q env p q qx;refine ha H0 B H σ γ _ X _ env p (fun x v H1 h1 S1 t1=>?_) qx;have rx:=t1.rp (env.grow S1).same;split at h1
 ·rename_i i e;rw[e]at rx;exact⟨i,rx.int_inv,q _ H1 h1 S1⟩
 ·exact h1.elim
def pSl(a:PTE)(l u:PTO):PTE:=fun γ R X=>a γ (fun s=>l γ (fun lo=>u γ (fun hi=>match s.d with | .lst ds=>s.free ds=true/\R (.own (cutD ds lo hi))|_=>False) X) X) X
def Rps.cut {ds:List D}{vs:List V}{lo hi:Option Int} (r:Rps K H ds vs):Rps K H (cutD ds lo hi) (cutV vs lo hi):=by
 unfold cutD cutV;rw[r.len];exact Rps.take _ (Rps.drop _ r)
def KA{te:TE}{tl th:TO}{a:PTE}{l u:PTO}(ha:SndE K mg E te a)(hl:SndO K mg E tl l)(hu:SndO K mg E th u):SndE K mg E (tSl (rSlL K) te tl th) (pSl a l u):=by
 intro H0 B H σ γ R X Q env p q qx;refine ha H0 B H σ γ _ X _ env p (fun x v H1 h1 S1 t1=>?_) qx;refine hl H0 B H1 σ γ _ X _ (env.grow S1) h1 (fun lo H2 h2 S2=>?_) fun c H' hc S'=>qx c H' hc (S1.trans S');refine hu H0 B H2 σ γ _ X _ ((env.grow S1).grow S2) h2 (fun hi H3 h3 S3=>?_) fun c H' hc S'=>qx c H' hc ((S1.trans S2).trans S');have S13:=(S1.trans S2).trans S3;split at h3
 ·rename_i ds e;obtain⟨b,us,rfl,hb,r⟩:=((t1.grow (S2.trans S3)).items (env.grow S13).same env.zm S13 h3.1).1 e;exact⟨b,us,rfl,SqL.of hb,fun m nm=>q _ _ _ h3.2 (S13.trans (Qy nm)) (Vs S13 nm r.cut)⟩
 ·exact h3.elim
def fCat:S->S->(S->Prop)->Prop:=fun x y R=>match x.d,y.d with
 | .lst ds,.lst es=>x.free ds=true/\y.free es=true/\ds.length+es.length<=100000/\R (.own (ds++es))
 |_,_=>False
def XX{ta tb:TE}{a b:PTE}(ha:SndE K mg E ta a)(hb:SndE K mg E tb b):SndE K mg E (tOp rCat ta tb) (p2 a b fCat):=by
 refine se_2 ha hb fun H0 H H2 Z x y v u R Q s0 s1 hm tx ty h q=>?_;unfold fCat at h;split at h
 ·rename_i ds es e1 e2;obtain⟨l,us,rfl,hl,r⟩:=(tx.items s0 hm s1 h.1).1 e1;obtain⟨m,ws,rfl,hm',r'⟩:=(ty.items s0 hm s1 h.2.1).1 e2;have hz:us.length+ws.length<=sizeLine:=by rw[r.len,r'.len];exact ZM h.2.2.1 (by decide)
  exact⟨l,m,us,ws,rfl,rfl,hl,hm',hz,fun p np=>q _ _ _ h.2.2.2 (Qy np) (Vs s1 np (r.append r'))⟩
 ·exact h.elim
def KW(i:Nat)(a:PTE):PTS:=fun R γ=>match γ[i]? with
 |some (some (.own (.lst ds)))=>a γ (fun s=>match s.shd with
  |some d=>ds.length<10000000/\R.nx (γ.set i (some (.own (ds++[d]))))
  |none=>False) (R.ex γ)
 |some (some (.own (.lsA x ds)))=>a γ (fun s=>match s.shd with
  |some d=>ds.length<10000000/\R.nx (γ.set i (some (.own (.lsA x (ds++[d])))))
  |none=>False) (R.ex γ)
 |_=>False
def Co(i:Nat){te:TE}{a:PTE}(ha:SndE K mg E te a):SndS K mg E (JU (tBM K "list" XB (tVar i) (Q0 te tNil))) (KW i a):=by
 intro H0 B H σ γ R D hB env h e;unfold KW at h;split at h
 ·rename_i ds hi;obtain⟨v,hv,b,rfl,hb0,us,hb,rb⟩:=env.slot i _ hi;refine⟨_,hv,.inl ⟨rfl,us,SqL.of hb⟩,ha H0 B H σ γ _ _ _ env h (fun s u H1 h1 S1 t1=>?_) fun c H' hc S'=>e.ex σ γ c H' hc (env.grow S') (Fr.grow S')⟩;have env1:=env.grow S1;split at h1
  ·rename_i d e2;have rd:=t1.shd env1.same env.zm S1 e2;refine⟨b,us,u,rfl,rfl,S1 _ _ hb,by rw[rb.len];exact YW h1.1 (by decide),?_⟩;obtain⟨e2,f2⟩:=env1.mutate (es:=.lst (ds++[d])) (us:=.lst (us++[u])) hi hv trivial fun F H' SF hF=>⟨_,hF,Rps.mono SF (Rps.append (Rps.mono (Ql S1 fun _ _ _ z=>z) rb) (.cons rd .nil))⟩;exact e.nx _ _ _ h1.2 e2 ((Fr.grow S1).trans f2)
  ·exact h1.elim
 ·rename_i x ds hi;obtain⟨v,hv,b,rfl,hb0,rfl,us,hb,rb⟩:=env.slot i _ hi;refine⟨_,hv,.inl ⟨rfl,us,SqL.of hb⟩,ha H0 B H σ γ _ _ _ env h (fun s u H1 h1 S1 t1=>?_) fun c H' hc S'=>e.ex σ γ c H' hc (env.grow S') (Fr.grow S')⟩;have env1:=env.grow S1;split at h1
  ·rename_i d e2;have rd:=t1.shd env1.same env.zm S1 e2;refine⟨b,us,u,rfl,rfl,S1 _ _ hb,by rw[rb.len];exact YW h1.1 (by decide),?_⟩;obtain⟨e2,f2⟩:=env1.mutate (es:=.lsA b (ds++[d])) (us:=.lst (us++[u])) hi hv trivial fun F H' SF hF=>⟨rfl,_,hF,Rps.mono SF (Rps.append (Rps.mono (Ql S1 fun _ _ _ z=>z) rb) (.cons rd .nil))⟩;exact e.nx _ _ _ h1.2 e2 ((Fr.grow S1).trans f2)
  ·exact h1.elim
 ·exact h.elim
end
section
variable {X:Cx}{K:Za}
def JO(hu:X.A.units<cLine)(hK:X.K=K:=by rfl):OpR X (compareOp .Eq) (fun x y H Q=>rEq x y H Q\/rEqL K false x y H Q):=by subst hK;exact op_eq.or (FR hu)
def N1(hu:X.A.units<cLine)(hK:X.K=K:=by rfl):OpR X (compareOp .NotEq) (fun x y H Q=>rNe x y H Q\/rEqL K true x y H Q):=by subst hK;exact op_ne.or (K7 hu)
def VQ{e:Expr}{te:TE}(ha:PE X e te)(hK:X.K=K:=by rfl)(he:∀whole,isTrue e X.env whole=(do let v ←whole;standAt e.pos;holding [v] (truthy v)):=by intro _;rfl):PT X e (tTru K te):=by
 subst hK;exact S8 ha he
def K4(hK:X.K=K:=by rfl):QI X (.type "list") (fun xs H Q=>∃p ys,xs=[.ref p]/\(SqL K H p ys\/SqT K H p ys)/\∀l,H l=none->Q (.ref l) (upd H l (.lst ys))):=by subst hK;exact KY
def T4(hK:X.K=K:=by rfl):QI X (.builtin "isinstance") (fun xs H Q=>∃x n t b,xs=[x,.ty n]/\TyOf K H x t/\PySem.W.kitOne K t (.type n)=some b/\Q (.bl b) H):=by subst hK;exact VR
def Ke(hK:X.K=K:=by rfl):SlR X (rSlL K):=by subst hK;exact FL
def SZ(hc:X.calm=true){w:World}(hK:X.K=K:=by rfl)(hw:X.w=w:=by rfl):QI X (.builtin "sorted") (fun xs H Q=>∃(p:Addr) (js:List Int),xs=[.ref p]/\js.length<64/\(SqL K H p (js.map V.int)\/H p=some (SetH w p js))/\
  ∀(l:Addr) (ns:List Int),H l=none->ns.Perm js->ns.Pairwise (·<=·)->Q (.ref l) (upd H l (.lst (ns.map V.int)))):=by subst hK;subst hw;exact KJ hc
def J5{tg l:Expr}{tl:TE}(hl:PE X l tl)(hK:X.K=K:=by rfl):PI X tg l (JV K tl):=by subst hK;exact JH hl
end
section
variable {P:Program}{w:World}{K:Za}{mg:Str->Option Value}{base:Heap}{H H':Hp}
def QX{CX:CXT}{k:Nat}{x:Str}{ps:List Str}{sp:Sp}{c:Pc}(C:Callee P w K mg base CX k x ps sp)(h:∀ds R X vs H (Q:VK) (E:XK),Rps K H ds vs->c ds R X->(∀s v H',R s->Same H H'->TV K (fun b=>Mut (H b)) H H H' s v->Q v H')->(∀e H',X e->Same H H'->E (.ref (ExcR.Q4 mg e)) none H')->sp vs H Q E) :
  Callee P w K mg base CX k x ps (spOf mg c K):=by
 obtain⟨f,fd,F,rest⟩:=C.ex;exact⟨f,fd,F.imp fun vs H Q E ⟨ds,R,X,r,hc,hQ,hX⟩=>h ds R X vs H Q E r hc hQ hX,rest⟩
def Rp.scr_inv {ns:List Int}{v:V} (h:Rp K H (.scr ns) v):∃a,v=.ref a/\SqL K H a (ns.map V.int):=by
 cases h with
 |scr h=>exact⟨_,rfl,h⟩
def Rp.ints_inv {ns:List Int}{v:V} (h:Rp K H (.lst (ns.map D.int)) v):∃a,v=.ref a/\H a=some (.lst (ns.map V.int)):=by
 obtain⟨a,vs,rfl,h1,r⟩:=h.lst_inv;rw[r.ints]at h1;exact⟨a,rfl,h1⟩
def Rp.pairs_inv {ps:List (Int×Int)}{v:V} (h:Rp K H (.lst (ps.map prD)) v):∃a,v=.ref a/\LAt PairR H a ps:=by
 obtain⟨a,vs,rfl,h1,r⟩:=h.lst_inv;exact⟨a,rfl,vs,h1,r.lv⟩
def J8{a:Addr}{ns:List Int}(n:H a=none)(h:H' a=some (.lst (ns.map V.int))):TV K (fun b=>Mut (H b)) H H H' (.own (ns.map D.int)) (.ref a):=⟨a,rfl,(fun _ e=>e▸n),_,h,Rps.of_ints ns⟩
def An{vs:List V}{ps:List (Int×Int)}{Z:Addr->Prop}(hz:∀b xs,H' b=some (.tup xs)->¬Z b)(h:LV PairR H' vs ps):Rps K (off Z H') (ps.map prD) vs:=by
 refine Rps.of_lv ⟨h.1,fun i p hp=>?_⟩;obtain⟨v,h1,a,e,h2⟩:=h.2 i p hp;exact⟨v,h1,a,e,QP h2 (hz a _ h2)⟩
def F4{a:Addr}{ps:List (Int×Int)}(n:H a=none)(S1:Same H H')(h:LAt PairR H' a ps):TV K (fun b=>Mut (H b)) H H H' (.own (ps.map prD)) (.ref a):=by
 obtain⟨vs,h1,h2⟩:=h;refine⟨a,rfl,(fun _ e=>e▸n),vs,h1,An (fun b xs hb z=>?_) h2⟩;rcases z with z|z
 ·have:=Vu S1 z
  rw[hb]at this;exact this
 ·rw[z,h1]at hb;cases hb
def U2:∀(ns:List Int),imms (ns.map D.int)=true
 |[]=>by unfold List.map imms;rfl
 |n::r=>by rw[ZG];unfold imms;rw[U2 r];unfold imm;rfl
def Nb{α:Type}{f:α->D}{xs:List α}{i:Nat}(h:i<xs.length):(xs.map f).getD i .non=f xs[i]:=by
 rw[Zz,ZC,Zy h];rfl
def Vc{α:Type}{f:α->D}{xs:List α}{i:Int}(h0:0<=i)(h:i<(xs.length:Int)):atI (xs.map f) i=some (f (xs[i.toNat]'(by omega))):=by
 have h':i.toNat<xs.length:=by omega
 exact QZ (Jn h0 (Zy h'))
def Fm{α:Type}{f:α->D}{xs:List α}{i:Nat}(h:i<xs.length):atI (xs.map f) (i:Int)=some (f xs[i]):=QZ (QM (Zy h))
def KI{α:Type}{φ:List (Option Nat)}{γ:Γ}{g:PTG}{c:PTT}{e:PTE}{s:S}{R:S->Prop}{xs:List α}{emb:α->D}(f:α->Option D)(hz:xs.length<=100000)(turn:∀x∈xs,g (s.sub (emb x)) (atP φ γ) fun γ2=>c γ2 (fun b=>if b=true then e γ2 (fun s=>∃d,s.shd=some d/\f x=some d) (fun _=>False)else f x=none) fun _=>False)(done:R (.own (xs.filterMap f))) :
  CompW φ γ g c e (xs.map emb).length (fun i=>s.sub ((xs.map emb).getD i .non)) R:=by
 rw[Z1];refine⟨⟨hz,fun i=>(xs[i]?).bind f,fun i hi=>?_,by rw[Bv];exact done⟩⟩;have e1:(xs[i]?).bind f=f xs[i]:=by rw[Zy hi];rfl
 have t:=turn xs[i] (ZP hi);rw[←e1]at t;rw[←Nb (f:=emb) hi]at t;exact t
def Nd{φ:List (Option Nat)}{γ:Γ}{g:PTG}{c:PTT}{e:PTE}{item:Nat->S}{R:S->Prop}{n:Nat}(f:Nat->Option D)(hz:n<=100000)(turn:∀i,i<n->g (item i) (atP φ γ) fun γ2=>c γ2 (fun b=>if b=true then e γ2 (fun s=>∃d,s.shd=some d/\f i=some d) (fun _=>False)else f i=none) fun _=>False)(done:R (.own ((List.range n).filterMap f))) :
  CompW φ γ g c e n item R:=⟨⟨hz,f,turn,done⟩⟩
def TQ{α:Type}{js:List Nat}{γ:Γ}{g:PTG}{body:PTS}{s:S}{R:PEnds}{xs:List α}{emb:α->D}(inv:Nat->Γ->Prop)(h0:inv 0 (clr js γ))(turn:∀(i:Nat) (hi:i<xs.length) γ',inv i γ'->g (s.sub (emb xs[i])) γ' fun γ2=>body {R with nx:=fun γ3=>inv (i+1) (clr js γ3),ct:=fun γ3=>inv (i+1) (clr js γ3),bk:=R.nx} γ2)(done:∀γ',inv xs.length γ'->R.nx γ') :
  ForW js γ g body R (xs.map emb).length (fun i=>s.sub ((xs.map emb).getD i .non)):=by
 refine⟨⟨inv,h0,fun i γ' hi h=>?_,fun γ' h=>?_⟩⟩
 ·rw[Z1]at hi;have t:=turn i hi γ' h;rw[←Nb (f:=emb) hi]at t;exact t
 ·rw[Z1]at h;exact done γ' h
def Jg{js:List Nat}{γ:Γ}{g:PTG}{body:PTS}{R:PEnds}{n:Nat}{item:Nat->S}(inv:Nat->Γ->Prop)(h0:inv 0 (clr js γ))(turn:∀(i:Nat) γ',i<n->inv i γ'->g (item i) γ' fun γ2=>body {R with nx:=fun γ3=>inv (i+1) (clr js γ3),ct:=fun γ3=>inv (i+1) (clr js γ3),bk:=R.nx} γ2)(done:∀γ',inv n γ'->R.nx γ'):ForW js γ g body R n item:=⟨⟨inv,h0,turn,done⟩⟩
def Nz{js:List Nat}{γ:Γ}{c:PTT}{body:PTS}{R:PEnds}(inv:Γ->Prop)(μ:Γ->Nat)(h0:inv (clr js γ))(turn:∀γ',inv γ'->c γ' (fun b=>if b=true then body {R with nx:=fun γ3=>inv (clr js γ3)/\μ (clr js γ3)<μ γ',ct:=fun γ3=>inv (clr js γ3)/\μ (clr js γ3)<μ γ',bk:=R.nx} γ' else R.nx γ') (R.ex γ')):WhileW js γ c body R:=⟨⟨inv,μ,h0,turn⟩⟩
def AO{p q:PTS}{R:PEnds}{γ:Γ}(J:Γ->Prop)(h1:p {R with nx:=J} γ)(h2:∀γ',J γ'->q R γ'):JoinW p q R γ:=⟨⟨J,h1,h2⟩⟩
def Uc{α:Type}(c:α->Bool)(emb:α->D):∀ws:List α,ws.filterMap (fun q=>if c q=true then some (emb q)else none)=(ws.filter c).map emb
 |[]=>rfl
 |q::r=>by
  by_cases h:c q=true
  ·rw[List.filterMap_cons_some (b:=emb q) (by rw[ZA h]),List.filter_cons_of_pos h,ZG,Uc c emb r]
  ·rw[List.filterMap_cons_none (by rw[Z8 h]),List.filter_cons_of_neg h,Uc c emb r]
def mapD{α:Type}(emb:α->D)(ws:List α):ws.filterMap (fun q=>some (emb q))=ws.map emb:=by rw[Y9]
def Tn{α:Type}(f:α->D)(xs:List α)(lo hi:Option Int):cutD (xs.map f) lo hi=(cutD xs lo hi).map f:=by
 unfold cutD;rw[Z1,List.map_take,List.map_drop]
def Fc{α:Type}(xs:List α){n:Int}(h:0<=n):cutD xs none (some n)=xs.take n.toNat:=by
 unfold cutD;have e:n=(n.toNat:Int):=by omega
 rw[HT.Kg,e,HT.Xo,List.drop_zero];rw[Nat.sub_zero,ZQ];by_cases c:n.toNat<=xs.length
 ·rw[Nat.min_eq_left c]
 ·rw[Nat.min_eq_right (by omega),YS (Z4 _),YS (by omega)]
def AE{α:Type}(xs:List α){n:Int}(h:0<=n):cutD xs (some n) none=xs.drop n.toNat:=by
 unfold cutD;have e:n=(n.toNat:Int):=by omega
 rw[HT.Kg,e,HT.Xo,ZQ];by_cases c:n.toNat<=xs.length
 ·rw[Nat.min_eq_left c,YS (by rw[List.length_drop];omega)]
 ·rw[Nat.min_eq_right (by omega),List.drop_of_length_le (Z4 _),List.drop_of_length_le (by omega)];simp
def Ue(K:Za):Sp:=fun vs H Q _=>∃(a:Addr) (ns:List Int),vs=[.ref a]/\SqL K H a (ns.map V.int)/\∀H',Q (.bl true) H'
def Nf:Pc:=fun ds R _=>∃ns:List Int,ds=[.scr ns]/\R (.sh (.bl true))
def UB{vs:List V}{Q:VK}{Ec:XK}(h:Ue K vs H Q Ec):spOf mg Nf K vs H Q Ec:=by
 obtain⟨a,ns,rfl,hS,q⟩:=h;refine⟨[.scr ns],fun s=>s=.sh (.bl true),fun _=>False,.cons (.scr hS) .nil,⟨ns,rfl,rfl⟩,fun s v H' e S1 tv=>?_,fun _ _ z=>z.elim⟩;subst e;cases tv
 exact q H'
end
section
variable {K:Za}{mg:Str->Option Value}{E:L2.St->XK}{H0 H H1 H':Hp}{B Z Z':Addr->Prop}{σ:L2.St}{γ:Γ}
def Ug:D->Option V
 | .int i=>some (.int i) | .bl b=>some (.bl b) | .non=>some .non | .str x=>some (.str x)|_=>none
def vD:V->D
 | .int i=>.int i | .bl b=>.bl b | .str x=>.str x|_=>.non
def T3:V->Bool
 | .int _=>true | .bl _=>true | .str _=>true | .non=>true|_=>false
def T9{d:D}{v u:V}(h:Rp K H d v)(e:Ug d=some u):v=u:=by
 cases h with
 |int i=>cases e;rfl
 |bl b=>cases e;rfl
 |non=>cases e;rfl
 |str x=>cases e;rfl
 |_=>cases e
def keyD:D->Option Key
 | .int i=>some (.inl i) | .str x=>some (.inr x)|_=>none
def JL:List D->Option (List Key)
 |[]=>some []
 |d::r=>match keyD d,JL r with
  |some k,some ks=>some (k::ks)
  |_,_=>none
def Jw:D->Option (List Key)
 | .tup ds=>JL ds
 |_=>none
def JZ{d:D}{v:V}{k:Key}(h:Rp K H d v)(e:keyD d=some k):v=kV k:=by
 cases h with
 |int i=>cases e;rfl
 |str x=>cases e;rfl
 |_=>cases e
def P8:∀{ds:List D}{vs:List V}{ks:List Key},Rps K H ds vs->JL ds=some ks->vs=ks.map kV
 |[],_,_,.nil,e=>by cases e;rfl
 |d::r,_,ks,.cons h t,e=>by
  unfold JL at e;split at e
  ·rename_i k js e1 e2;cases e
   rw[JZ h e1,P8 t e2];rfl
  ·cases e
def Kv{d:D}{v:V}{ks:List Key}(h:Rp K H d v)(e:Jw d=some ks):∃b,v=.ref b/\H b=some (.tup (ks.map kV)):=by
 cases h with
 |tup h r=>
  rw[P8 r e]at h;exact⟨_,rfl,h⟩
 |_=>cases e
def Rp.dK_inv {kvs:List (Key×V)}{v:V} (h:Rp K H (.dK kvs) v):∃a,v=.ref a/\H a=some (.dK kvs):=by
 cases h with
 |dK h=>exact⟨_,rfl,h⟩
def Rp.dT_inv {kvs:List (List Key×V)}{v:V} (h:Rp K H (.dT kvs) v):∃a,v=.ref a/\H a=some (.dT kvs):=by
 cases h with
 |dT h=>exact⟨_,rfl,h⟩
def AL:PTE:=fun _ R _=>R (.own (.dT []))
def FI:SndE K mg E TH AL:=by
 intro H0 B H σ γ R X Q env p q _;intro l nl;exact q _ _ _ p (Qy nl) ⟨l,rfl,(fun _ e=>e▸nl),Qn⟩
def CN:S->S->(S->Prop)->Prop:=fun x y R=>match x.d with
 | .dK kvs=>∃k v,keyD y.d=some k/\valV kvs k=some v/\T3 v=true/\R (.sh (vD v))
 | .dT kvs=>∃k v,Jw y.d=some k/\valV kvs k=some v/\T3 v=true/\R (.sh (vD v))
 |_=>False
def fDIn(neg:Bool):S->S->(S->Prop)->Prop:=fun y x R=>match x.d with
 | .dK kvs=>∃k,keyD y.d=some k/\R (.sh (.bl (if neg then !(valV kvs k).isSome else(valV kvs k).isSome)))
 | .dT kvs=>∃k,Jw y.d=some k/\R (.sh (.bl (if neg then !(valV kvs k).isSome else(valV kvs k).isSome)))
 |_=>False
def Sn{td ty:TE}{a b:PTE}(ha:SndE K mg E ty a)(hb:SndE K mg E td b):SndE K mg E (tDIn ty td) (p2 a b (fDIn false)):=by
 show SndE K mg E (tOp (fun y x H Q=>∃a o,x=.ref a/\DGet H a y o/\Q (.bl o.isSome) H) ty td) _;refine se_2 ha hb fun H0 H H2 Z y x u v R Q s0 s1 hm ty tx h q=>?_;have rx:=tx.rp s0;have ry:=ty.rp s0;unfold fDIn at h;split at h
 ·rename_i kvs e;rw[e]at rx;obtain⟨l,rfl,hl⟩:=rx.dK_inv;obtain⟨k,h1,h4⟩:=h;refine⟨l,_,rfl,?_,q _ _ H2 h4 (Same.refl _) (.bl _)⟩;rw[JZ ry h1];exact DGet.k hl
 ·rename_i kvs e;rw[e]at rx;obtain⟨l,rfl,hl⟩:=rx.dT_inv;obtain⟨k,h1,h4⟩:=h;obtain⟨b,rfl,hb⟩:=Kv ry h1;exact⟨l,_,rfl,DGet.t hl hb,q _ _ H2 h4 (Same.refl _) (.bl _)⟩
 ·exact h.elim
def Ku(i:Nat)(b a:PTE):PTS:=fun R γ=>match γ[i]? with
 |some (some (.own (.dK kvs)))=>a γ (fun s=>b γ (fun y=>∃k u,keyD y.d=some k/\Ug s.d=some u/\kvs.length<100000/\R.nx (γ.set i (some (.own (.dK (putK kvs k u)))))) (R.ex γ)) (R.ex γ)
 |some (some (.own (.dT kvs)))=>a γ (fun s=>b γ (fun y=>∃k u,Jw y.d=some k/\Ug s.d=some u/\kvs.length<100000/\R.nx (γ.set i (some (.own (.dT (putK kvs k u)))))) (R.ex γ)) (R.ex γ)
 |_=>False
def Cp(i:Nat){ty tv:TE}{a b:PTE}(hb:SndE K mg E ty b)(ha:SndE K mg E tv a):SndS K mg E (P6 (tVar i) ty tv) (Ku i b a):=by
 intro H0 B H σ γ R D hB env h e;have hx:∀c H',R.ex γ c->Same H H'->E σ (.ref (ExcR.Q4 mg c)) none H':=fun c H' hc S'=>e.ex σ γ c H' hc (env.grow S') (Fr.grow S');unfold Ku at h;split at h
 ·rename_i kvs hi;obtain⟨v,hv,l,rfl,hb0,hl⟩:=env.slot i _ hi;refine ha H0 B H σ γ _ _ _ env h (fun s u H1 h1 S1 t1=>⟨_,hv,?_⟩) hx;have env1:=env.grow S1;refine hb H0 B H1 σ γ _ _ _ env1 h1 (fun y w H2 h2 S2 t2=>?_) fun c H' hc S'=>hx c H' hc (S1.trans S');obtain⟨k,z,k1,k2,k3,k4⟩:=h2;have env2:=env1.grow S2;have eu:=T9 (t1.rp env1.same) k2;have ew:=JZ (t2.rp env2.same) k1;subst eu ew;refine⟨l,_,rfl,DPut.k (S2 _ _ (S1 _ _ hl)) (YW k3 (by decide)),?_⟩;obtain⟨e2,f2⟩:=env2.mutate (es:=.dK (putK kvs k u)) (us:=.dK (putK kvs k u)) hi hv trivial fun F H' SF hF=>hF;exact e.nx _ _ _ k4 e2 ((Fr.grow (S1.trans S2)).trans f2)
 ·rename_i kvs hi;obtain⟨v,hv,l,rfl,hb0,hl⟩:=env.slot i _ hi;refine ha H0 B H σ γ _ _ _ env h (fun s u H1 h1 S1 t1=>⟨_,hv,?_⟩) hx;have env1:=env.grow S1;refine hb H0 B H1 σ γ _ _ _ env1 h1 (fun y w H2 h2 S2 t2=>?_) fun c H' hc S'=>hx c H' hc (S1.trans S');obtain⟨k,z,k1,k2,k3,k4⟩:=h2;have env2:=env1.grow S2;have eu:=T9 (t1.rp env1.same) k2;obtain⟨b',rfl,hb'⟩:=Kv (t2.rp env2.same) k1;subst eu;refine⟨l,_,rfl,DPut.t (S2 _ _ (S1 _ _ hl)) hb' (YW k3 (by decide)),?_⟩;obtain⟨e2,f2⟩:=env2.mutate (es:=.dT (putK kvs k u)) (us:=.dT (putK kvs k u)) hi hv trivial fun F H' SF hF=>hF;exact e.nx _ _ _ k4 e2 ((Fr.grow (S1.trans S2)).trans f2)
 ·exact h.elim
def Bg{α:Type}(d:α)(ds:List α):atI (d::ds) 0=some d:=Jn (by decide) rfl
def em(l:Int)(p:List Int):D:=.lst ((l::p).map D.int)
end
section
variable {K:Za}{mg:Str->Option Value}{E:L2.St->XK}{H0 H H1 H':Hp}{B Z Z':Addr->Prop}{σ:L2.St}{γ:Γ}
def KH{α:Type}(xs:List α)(lo hi:Option Int):(cutD xs lo hi).Sublist xs:=(WE _ _).trans (List.drop_sublist _ _)
end
section
variable {K:Za}{mg:Str->Option Value}{E:L2.St->XK}{H0 H H1 H':Hp}{B Z Z':Addr->Prop}{σ:L2.St}{γ:Γ}
def P2(i:Nat)(b a:PTE):PTS:=fun R γ=>match γ[i]? with
 |some (some (.own (.lst ds)))=>a γ (fun s=>b γ (fun y=>match y.d with
   | .int k=>∃j d,ixN ds.length k=some j/\s.shd=some d/\R.nx (γ.set i (some (.own (.lst (ds.set j d)))))
   |_=>False) (R.ex γ)) (R.ex γ)
 |some (some (.own (.lsA x ds)))=>a γ (fun s=>b γ (fun y=>match y.d with
   | .int k=>∃j d,ixN ds.length k=some j/\s.shd=some d/\R.nx (γ.set i (some (.own (.lsA x (ds.set j d)))))
   |_=>False) (R.ex γ)) (R.ex γ)
 |_=>False
def Rps.set {d:D}{v:V} (h:Rp K H d v):∀{ds:List D}{vs:List V} (j:Nat),Rps K H ds vs->Rps K H (ds.set j d) (vs.set j v)
 |_,_,_,.nil=>.nil
 |_,_,0,.cons _ r=>.cons h r
 |_,_,j+1,.cons k r=>.cons k (Rps.set h j r)
def PV(i:Nat){tb te:TE}{a b:PTE}(hb:SndE K mg E tb b)(ha:SndE K mg E te a):SndS K mg E (tAsg te (gSub (tVar i) tb Xu)) (P2 i b a):=by
 intro H0 B H σ γ R D hB env h e;have hx:∀c H',R.ex γ c->Same H H'->E σ (.ref (ExcR.Q4 mg c)) none H':=fun c H' hc S'=>e.ex σ γ c H' hc (env.grow S') (Fr.grow S');unfold P2 at h;split at h
 ·rename_i ds hi;obtain⟨v,hv,l,rfl,hb0,us,hl,ru⟩:=env.slot i _ hi;refine ha H0 B H σ γ _ _ _ env h (fun s u H1 h1 S1 t1=>⟨_,hv,?_⟩) hx;have env1:=env.grow S1;refine hb H0 B H1 σ γ _ _ _ env1 h1 (fun y w H2 h2 S2 t2=>?_) fun c H' hc S'=>hx c H' hc (S1.trans S');have env2:=env1.grow S2;have ry:=t2.rp env2.same;split at h2
  ·rename_i k ek;rw[ek]at ry;obtain⟨j,d,h3,h4,h5⟩:=h2;have rd:=Rp.mono (Ql S2 fun _ _ _ z=>z) (t1.shd env1.same env.zm S1 h4);refine⟨l,us,k,j,rfl,ry.int_inv,(S1.trans S2) _ _ hl,by rw[ru.len];exact h3,?_⟩;obtain⟨e2,f2⟩:=env2.mutate (es:=.lst (ds.set j d)) (us:=.lst (us.set j u)) hi hv trivial fun F H' SF hF=>⟨_,hF,Rps.mono SF (Rps.set rd j (Rps.mono (Ql (S1.trans S2) fun _ _ _ z=>z) ru))⟩;exact e.nx _ _ _ h5 e2 ((Fr.grow (S1.trans S2)).trans f2)
  ·exact h2.elim
 ·rename_i x ds hi;obtain⟨v,hv,l,rfl,hb0,rfl,us,hl,ru⟩:=env.slot i _ hi;refine ha H0 B H σ γ _ _ _ env h (fun s u H1 h1 S1 t1=>⟨_,hv,?_⟩) hx;have env1:=env.grow S1;refine hb H0 B H1 σ γ _ _ _ env1 h1 (fun y w H2 h2 S2 t2=>?_) fun c H' hc S'=>hx c H' hc (S1.trans S');have env2:=env1.grow S2;have ry:=t2.rp env2.same;split at h2
  ·rename_i k ek;rw[ek]at ry;obtain⟨j,d,h3,h4,h5⟩:=h2;have rd:=Rp.mono (Ql S2 fun _ _ _ z=>z) (t1.shd env1.same env.zm S1 h4);refine⟨l,us,k,j,rfl,ry.int_inv,(S1.trans S2) _ _ hl,by rw[ru.len];exact h3,?_⟩;obtain⟨e2,f2⟩:=env2.mutate (es:=.lsA l (ds.set j d)) (us:=.lst (us.set j u)) hi hv trivial fun F H' SF hF=>⟨rfl,_,hF,Rps.mono SF (Rps.set rd j (Rps.mono (Ql (S1.trans S2) fun _ _ _ z=>z) ru))⟩;exact e.nx _ _ _ h5 e2 ((Fr.grow (S1.trans S2)).trans f2)
  ·exact h2.elim
 ·exact h.elim
end
section
variable {K:Za}{mg:Str->Option Value}{E:L2.St->XK}{H0 H H1 H':Hp}{B Z Z':Addr->Prop}{σ:L2.St}{γ:Γ}
def tupD:Option D->Option (List D)
 |some (.tup ds)=>some ds|_=>none
def NK{o:Option D}{ds:List D}(h:tupD o=some ds):o=some (.tup ds):=by
 unfold tupD at h;split at h
 ·cases h;rfl
 ·cases h
def pIT(a:PTE):PTI:=fun γ R X=>a γ (fun s=>∃ds,tupD s.shd=some ds/\R ds.length fun i=>.sh (ds.getD i .non)) X
def Ad{te:TE}{a:PTE}(ha:SndE K mg E te a):SndI K mg E (iTup K te) (pIT a):=by
 intro H0 B H σ γ R X Q env h q qx;refine ha H0 B H σ γ _ X _ env h (fun s v H1 h1 S1 t1=>?_) qx;have env1:=env.grow S1;obtain⟨ds,ed,h1⟩:=h1;have r1:=t1.shd env1.same env.zm S1 (NK ed);obtain⟨l,vs,rfl,hl,k1⟩:=Rp.tup_inv r1;refine⟨l,rfl,⟨vs,SqT.of (off_sub _ _ hl)⟩,q _ _ _ H1 h1 S1 ⟨fun i H' Z' hi lt=>?_,fun H' Z' lt=>?_⟩⟩
 ·have hd:ds[i]?=some (ds.getD i .non):=by rw[Zz,Zy hi];rfl
  obtain⟨u,hu,tu⟩:=k1.get hd;have k:=off_sub _ _ (lt.off _ _ hl);refine⟨⟨vs,u,SqT.of k,hu⟩,fun x H'' y=>?_⟩;obtain⟨rfl,y⟩:=y
  have:=y vs (SqT.of k)
  rw[hu]at this;cases this
  exact⟨Same.refl _,Rp.mono lt.off tu⟩
 ·exact⟨vs,SqT.of (off_sub _ _ (lt.off _ _ hl)),by rw[k1.len];exact Z4 _⟩
end
section
variable {X:Cx}{K:Za}
def AM{tg l:Expr}{tl:TE}(hl:PE X l tl)(hK:X.K=K:=by rfl):PI X tg l (iTup K tl):=by subst hK;exact NY hl
end
end Pu
namespace M
open PySem PySem.Spec PyProof.Rows L2 Own Pu
def oc(c:Int->Int->Int):List Int->Int
 |[]=>0
 |a::r=>(r.map (c a)).sum+oc c r
end M
namespace Pu
open PySem PySem.Spec PyProof.Rows L2 Own
section
variable {K:Za}{mg:Str->Option Value}{E:L2.St->XK}{H0 H H1 H':Hp}{B Z Z':Addr->Prop}{σ:L2.St}{γ:Γ}
abbrev PTW:=Γ->(Γ->D->Prop)->(Γ->Str->Prop)->Prop
variable {te:TE}{w:PTW}
end
def len1{α:Type}{us:List α}(h:us.length=1):∃a,us=[a]:=List.length_eq_one_iff.mp h
def len2{α:Type}{us:List α}(h:us.length=2):∃a b,us=[a,b]:=by
 cases us with
 |nil=>cases h
 |cons a r=>obtain⟨b,rfl⟩:=len1 (us:=r) (by simpa using h);exact⟨a,b,rfl⟩
def len3{α:Type}{us:List α}(h:us.length=3):∃a b c,us=[a,b,c]:=by
 cases us with
 |nil=>cases h
 |cons a r=>obtain⟨b,c,rfl⟩:=len2 (us:=r) (by simpa using h);exact⟨a,b,c,rfl⟩
def len4{α:Type}{us:List α}(h:us.length=4):∃a b c d,us=[a,b,c,d]:=by
 cases us with
 |nil=>cases h
 |cons a r=>obtain⟨b,c,d,rfl⟩:=len3 (us:=r) (by simpa using h);exact⟨a,b,c,d,rfl⟩
def len5{α:Type}{us:List α}(h:us.length=5):∃a b c d e,us=[a,b,c,d,e]:=by
 cases us with
 |nil=>cases h
 |cons a r=>obtain⟨b,c,d,e,rfl⟩:=len4 (us:=r) (by simpa using h);exact⟨a,b,c,d,e,rfl⟩
section
variable {P:Program}{w:World}{K:Za}{mg:Str->Option Value}{base:Heap}{W:Addr->Prop}
def AF{X:Cx}:Jf (ExcR.CXe P w) X E0:=fun _ _ _ _ _ _ _ h=>by
 obtain⟨a,T,C,H',_,_,z⟩:=h;exact z.elim
end
abbrev PTF:=Γ->Str->(Str->Prop)->XR->Prop
open M
abbrev plD(f:List (Int×Int)):D:=.lst (f.map prD)
def Fk(e:Option Str)(X:Str->Prop)(R:Prop):Prop:=match e with|some c=>X c|none=>R
section
variable {K:Za}{mg:Str->Option Value}{E:L2.St->XK}
def Tv(i:Nat)(a:PTE):PTS:=fun R γ=>match γ[i]? with
 |some (some (.own (.lst ds)))=>a γ (fun s=>match s.shd with
  |some (.lst es)=>ds.length+es.length<=10000000/\R.nx (γ.set i (some (.own (ds++es))))
  |_=>False) (R.ex γ)
 |_=>False
def B8(i:Nat){te:TE}{a:PTE}(ha:SndE K mg E te a):SndS K mg E (JU (tBM K "list" Py (tVar i) (Q0 te tNil))) (Tv i a):=by
 intro H0 B H σ γ R D hB env h e;unfold Tv at h;split at h
 ·rename_i ds hi;obtain⟨v,hv,b,rfl,hb0,us,hb,rb⟩:=env.slot i _ hi;refine⟨_,hv,.inl ⟨rfl,us,SqL.of hb⟩,ha H0 B H σ γ _ _ _ env h (fun s u H1 h1 S1 t1=>?_) fun c H' hc S'=>e.ex σ γ c H' hc (env.grow S') (Fr.grow S')⟩;have env1:=env.grow S1;split at h1
  ·rename_i es e2;have rd:=t1.shd env1.same env.zm S1 e2;obtain⟨a',vs,rfl,ha',rvs⟩:=Rp.lst_inv rd;refine⟨b,a',us,vs,rfl,rfl,S1 _ _ hb,off_sub _ _ ha',by rw[rb.len,rvs.len];exact ZM h1.1 (by decide),?_⟩;obtain⟨e2,f2⟩:=env1.mutate (es:=.lst (ds++es)) (us:=.lst (us++vs)) hi hv trivial fun F H' SF hF=>⟨_,hF,Rps.mono SF (Rps.append (Rps.mono (Ql S1 fun _ _ _ z=>z) rb) rvs)⟩;exact e.nx _ _ _ h1.2 e2 ((Fr.grow S1).trans f2)
  ·exact h1.elim
 ·exact h.elim
end
end Pu
namespace Own
open PySem PySem.Spec PyProof.Rows L2
section
variable {prog:Program}{w:World}{A:Around}{s:Shared}{E:Value->Shared->Prop}
def gotH(hp:Heap)(vs:List Value):Heap:=
 (hp.push (seqObj "list" #[] 0)).update hp.objs.size
  (Obj.mapSeq (·++vs.toArray))
def Aa{hp:Heap}{vs:List Value}{b:Addr}{o:Obj}(g:hp.get? b=some o):(gotH hp vs).get? b=some o:=by
 unfold gotH;rw[Heap.get?_update_ne _ _ _ _ (ZN (Z5 g))];exact Z2 _ g
end
end Own
namespace Pu
open PySem PySem.Spec PyProof.Rows L2 Own M
def JC(ps:List (Int×Int))(os:List Int):Option Str:=if os.isPerm (Qo ps)=true then none else some "BadOrder"
def CA{ps:List (Int×Int)}{os:List Int}(h:os.Perm (Qo ps)):JC ps os=none:=by
 unfold JC;rw[ZA (List.isPerm_iff.mpr h)]
def AS{ps:List (Int×Int)}{os ns:List Int}(h1:ns.Perm os)(h2:ns.Pairwise (·<=·)):(ns=Qo ps)↔os.isPerm (Qo ps)=true:=by
 rw[List.isPerm_iff];exact⟨fun z=>z▸h1.symm,fun z=>KB z h1 h2⟩
abbrev d3(k:Str)(a b:Int):D:=.tup [.str k,.int a,.int b]
end Pu
namespace M
open PySem PySem.Spec PyProof.Rows L2 Own Pu
def Xc{ps:List (Int×Int)}{o:List Int}(hF:Field ps)(h:o.Perm (Qo ps)):∀p∈ps,p.1∈o:=fun p hp=>h.mem_iff.mpr ((J6 hF).mpr (YB.mpr ⟨p,hp,rfl⟩))
end M
namespace Pu
open PySem PySem.Spec PyProof.Rows L2 Own
structure DI (K:Za) (x:Str) (st:Stmt):Prop where
 ex:∃f fd,PySem.W.nsIn K mainGlobals x=some (some (.ref f))/\Fun K x x st f fd
section
variable {K:Za}{h:Heap}{mg:Str->Option Value}
def di{x:Str}{st:Stmt}{f:Addr}{oc:Value}{od an:Option Addr}{osl:Array (Option Value)}{kV doc pm cdv ct:Value}(a:PySem.W.nsIn K mainGlobals x=some (some (.ref f)))(l:K.lookup f=some ⟨oc,od,.func (PySem.W.fnOf x x (Vi st) (QC st) (Qg st) .none kV doc pm an cdv ct),osl⟩)(c:PySem.W.codeIn K cdv x=true)(k:PySem.W.keepIn K (.ref f)=true):DI K x st:=⟨f,_,a,X1 l c k⟩
def DI.d {x:Str}{st:Stmt}{ps:List Str} (D:DI K x st) (X:K.In h) (G0:h.Ns mainGlobals mg)
  (b:∀(kV doc pm:Value) (an:Option Addr) (cdv ct:Value) (us:List Value),us.length=ps.length->bindArgs (PySem.W.fnOf x x (Vi st) (QC st) (Qg st) .none kV doc pm an cdv ct) ⟨us,[]⟩=pure (ps.zip us)):Def K mg x st ps:=
 let ⟨_,_,a,F⟩:=D.ex
 ⟨_,_,F,WD X G0 a,F.binds b⟩
end
def fs{N P:List Str}{sc:Scope}(h1:sc.kind=.function:=by rfl)(h2:sc.isCoroutine=false:=by rfl)(h3:sc.isGenerator=false:=by rfl)(h4:N.Nodup:=by decide +kernel)(h5:N.take P.length=P:=by rfl)(h6:∀x∈P,sc.names.lookup x=some .local\/sc.names.lookup x=some .cell:=by decide +kernel)(h7:∀y∈sc.names,y.2≠.free:=by decide +kernel):FnScope N P sc:=⟨h1,h2,h3,h4,h5,h6,h7⟩
def pz{X:Cx}{pos:Pos}{x:Str}{e:Expr}{te:TE}{pos':Pos}(i:Nat)(hN:X.N.Nodup)(he:PE X e te)(hi:X.N[i]?=some x:=by rfl)(hx:Loc X.env.scope x:=by first|exact Or.inl rfl|exact Or.inr rfl)(hs:swapsWith e (some (.Name x pos')) pos.line X.env=pure false:=by rfl)(hf:X.fn x=true\/X.env.scope.names.lookup x=some .local:=by first|exact .inl rfl|exact .inr rfl|assumption) :
  PS X (.Assign [.Name x pos'] e pos) (tAsg te (Vw i)):=SB hN hi hx he hs hf
section
variable {K:Za}{mg:Str->Option Value}{E:L2.St->XK}{H:Hp}
def isN:D->Bool
 | .non=>true
 |_=>false
def Rp.isN {d:D}{v:V} (h:Rp K H d v):decide (v=V.non)=isN d:=by
 cases h<;>first|rfl|exact ZI (fun z=>by cases z)
def pIsN(a:PTE):PTE:=fun γ R X=>a γ (fun x=>R (.sh (.bl (isN x.d)))) X
def AH{te:TE}{a:PTE}(ha:SndE K mg E te a):SndE K mg E (tIsN te) (pIsN a):=by
 intro H0 B H σ γ R X Q env p q qx;refine ha H0 B H σ γ _ X _ env p (fun x v H1 h1 S1 t1=>?_) qx;have rx:=t1.rp (env.grow S1).same;show Q (.bl (decide (v=V.non))) H1;rw[rx.isN];exact q _ _ H1 h1 S1 (.bl _)
end
end Pu
namespace M
open PySem PySem.Spec PyProof.Rows L2 Own Pu
def ltS(k:Int):List (Int×Int)->Int
 |[]=>0
 |q::l=>(if q.1<k then q.2 else 0)+ltS k l
def gtS(k:Int):List (Int×Int)->Int
 |[]=>0
 |q::l=>(if k<q.1 then q.2 else 0)+gtS k l
def invL:List (Int×Int)->Int
 |[]=>0
 |p::l=>ltS p.1 l*p.2+invL l
def K5(k:Int)(a b:Int×Int)(B:List (Int×Int)):∀A:List (Int×Int),ltS k (A++a::b::B)=ltS k (A++b::a::B)
 |[]=>by simp only[List.nil_append,ltS];omega
 |q::A=>by simp only[Y6,ltS];rw[K5 k a b B A]
def Xf(a b:Int×Int)(B:List (Int×Int)):∀A:List (Int×Int),invL (A++a::b::B)+(if a.1<b.1 then a.2*b.2 else 0)=invL (A++b::a::B)+(if b.1<a.1 then a.2*b.2 else 0)
 |[]=>by
  simp only[List.nil_append,invL,ltS];rw[Wx,Wx];by_cases h1:a.1<b.1
  ·rw[ZA h1,Z8 (by omega:¬b.1<a.1),ZA h1,Z8 (by omega:¬b.1<a.1)];omega
  ·rw[Z8 h1];by_cases h2:b.1<a.1
   ·rw[ZA h2,Z8 h1,ZA h2,Int.mul_comm b.2 a.2];omega
   ·rw[Z8 h2,Z8 h1,Z8 h2];omega
 |q::A=>by
  simp only[Y6,invL];rw[K5 q.1 a b B A]
  have:=Xf a b B A
  omega
def XM{k:Int}:∀{l:List (Int×Int)},(∀q∈l,k<=q.1)->ltS k l=0
 |[],_=>rfl
 |q::l,h=>by
  unfold ltS;rw[Z8 (by have:=h q ZK;omega),XM fun x hx=>h x (ZH _ hx)];rfl
def Ui:∀{l:List (Int×Int)},l.Pairwise (fun x y=>x.1<=y.1)->invL l=0
 |[],_=>rfl
 |p::l,h=>by
  obtain⟨h1,h2⟩:=ZU.mp h;unfold invL;rw[XM h1,Ui h2,Int.zero_mul];rfl
def KQ(k:Int)(p:Int×Int):∀l:List (Int×Int),ltS k (l++[p])=ltS k l+(if p.1<k then p.2 else 0)
 |[]=>by simp[ltS]
 |q::l=>by simp only[Y6,ltS];rw[KQ k p l];omega
def UR(k:Int)(p:Int×Int):∀l:List (Int×Int),gtS k (l++[p])=gtS k l+(if k<p.1 then p.2 else 0)
 |[]=>by simp[gtS]
 |q::l=>by simp only[Y6,gtS];rw[UR k p l];omega
def Xe(p:Int×Int):∀l:List (Int×Int),invL (l++[p])=invL l+gtS p.1 l*p.2
 |[]=>by simp[invL,ltS,gtS]
 |q::l=>by
  simp only[Y6,invL,gtS];rw[KQ,Xe p l,Wx,Wx];by_cases h:p.1<q.1
  ·rw[ZA h,ZA h,Int.mul_comm p.2 q.2];omega
  ·rw[Z8 h,Z8 h];omega
def Vv(os:List Int)(ps:List (Int×Int)):List (Int×Int):=ps.map fun q=>((os.idxOf q.1:Nat),q.2)
def XZ(ps:List (Int×Int))(os:List Int)(h:Int):∀n,n<=ps.length->rsM ps os h n=gtS (os.idxOf h:Nat) (Vv os (ps.take n))
 | 0,_=>by simp[rsM,gtS,Vv]
 |n+1,hn=>by
  unfold rsM Vv;rw[XZ ps os h n (by omega),ZS (by omega),ZX,WA,UR,Zz,Zy (show n<ps.length by omega)];show _+(if os.idxOf h<os.idxOf ps[n].1 then ps[n].2 else 0)=_+(if ((os.idxOf h:Nat):Int)<((os.idxOf ps[n].1:Nat):Int)then ps[n].2 else 0);by_cases c:os.idxOf h<os.idxOf ps[n].1
  ·rw[ZA c,ZA (by omega)];rfl
  ·rw[Z8 c,Z8 (by omega)];rfl
def KL(ps:List (Int×Int))(os:List Int):∀n,n<=ps.length->priM ps os n=invL (Vv os (ps.take n))
 | 0,_=>by simp[priM,invL,Vv]
 |n+1,hn=>by
  unfold priM;rw[KL ps os n (by omega),XZ ps os _ n (by omega),Zz,Zy (show n<ps.length by omega)];rw[ZS (show n<ps.length by omega)];show _=invL (List.map _ (ps.take n++[ps[n]]));rw[ZX,WA,Xe];rfl
def NU(ps:List (Int×Int))(os:List Int):priM ps os ps.length=invL (Vv os ps):=by
 rw[KL ps os _ (Z4 _),Y8]
def wdN(ps:List (Int×Int))(m:Int):Int:=(ps.getD (m-1).toNat (0,0)).2
def hdN(ps:List (Int×Int))(m:Int):Int:=(ps.getD (m-1).toNat (0,0)).1
def keyL(ps:List (Int×Int))(f:Int->Int)(ns:List Int):List (Int×Int):=ns.map fun m=>(f m,wdN ps m)
def Uq{ns:List Int}{p:Nat}(h1:1<=p)(h2:p<ns.length):∃A x y B,ns=A++x::y::B/\A.length+1=p/\Qs ns p=A++y::x::B/\ns.getD (p-1) 0=x/\ns.getD p 0=y:=by
 have h3:ns.drop (p-1)=ns[p-1]'(by omega)::ns.drop (p-1+1):=Ya (by omega);have h4:ns.drop p=ns[p]::ns.drop (p+1):=Ya h2;have h5:p-1+1=p:=by omega
 rw[h5,h4]at h3;have e1:ns.getD p 0=ns[p]:=by rw[Zz,Zy h2];rfl
 have e2:ns.getD (p-1) 0=ns[p-1]'(by omega):=by rw[Zz,Zy (by omega)];rfl
 refine⟨ns.take (p-1),ns[p-1]'(by omega),ns[p],ns.drop (p+1),by rw[←h3,W4],by rw[Yr];omega,?_,e2,e1⟩;unfold Qs;rw[e1,e2];simp
def N7{ps:List (Int×Int)}{ns:List Int}{p:Nat}{x y:Int}(hx:ns.getD (p-1) 0=x)(hy:ns.getD p 0=y):exM ps ns p=wdN ps x*wdN ps y:=by
 unfold exM wdN;rw[hx,hy]
def KC{ns:List Int}{p:Nat}(h1:1<=p)(h2:p<ns.length):(Qs ns p).length=ns.length:=(Jz h1 h2).length_eq
def Bs{ps:List (Int×Int)}(f:Int->Int){ns:List Int}{p:Nat}(h1:1<=p)(h2:p<ns.length)(h:f (ns.getD p 0)<f (ns.getD (p-1) 0)):invL (keyL ps f ns)=invL (keyL ps f (Qs ns p))+exM ps ns p:=by
 obtain⟨A,x,y,B,e,_,es,ex,ey⟩:=Uq h1 h2;rw[es,N7 ex ey];rw[ex,ey]at h;rw[e];unfold keyL;rw[ZX,ZG,ZG,ZX,ZG,ZG];have k:=Xf (f x,wdN ps x) (f y,wdN ps y) (B.map fun m=>(f m,wdN ps m)) (A.map fun m=>(f m,wdN ps m));simp only at k;rw[Z8 (by omega),ZA h]at k;omega
def N2(ps:List (Int×Int))(os:List Int):keyL ps (fun m=>(os.idxOf (hdN ps m):Nat)) (runI 1 ps.length)=Vv os ps:=by
 unfold keyL Vv runI;refine WI (by simp) fun i h1 h2=>?_;have hi:i<ps.length:=by simpa using h2
 have e:((1:Int)+(i:Int)-1).toNat=i:=by omega
 simp only[WJ,List.getElem_range,hdN,wdN];rw[e,Zz,Zy hi];rfl
def Pr(ps:List (Int×Int))(p:Int):∀(pl:List Int) (st st':List Int×Int),QT ps pl st=some st'->QT ps (pl++[p]) st=QT ps [p] st'
 |[],st,st',h=>by rw[KE]at h;cases h;rfl
 |q::r,st,st',h=>by
  rw[Y6,JG];rw[JG]at h;split at h
  ·cases h
  ·rename_i c;rw[Z8 c];exact Pr ps p r _ st' h
def rkN(ps:List (Int×Int))(o:List Int)(m:Int):Int:=(o.idxOf (hdN ps m):Nat)
def numN(ps:List (Int×Int))(h:Int):List Int:=((List.range ps.length).filter fun i=>decide ((ps.getD i (0,0)).1=h)).map fun i:Nat=>0+(i:Int)+1
def SW{ps:List (Int×Int)}{h x:Int}:x∈numN ps h↔(1<=x/\x<=ps.length)/\hdN ps x=h:=by
 unfold numN hdN;rw[YB];constructor
 ·rintro⟨i,hi,rfl⟩;obtain⟨h1,h2⟩:=We.mp hi
  have:=YV.mp h1
  refine⟨by omega,?_⟩;rw[show(0+(i:Int)+1-1).toNat=i by omega];exact Yg h2
 ·rintro⟨h1,h2⟩;exact⟨(x-1).toNat,We.mpr ⟨YV.mpr (by omega),ZF h2⟩,by omega⟩
def P5(ps:List (Int×Int))(h:Int):(numN ps h).Pairwise (· < ·):=by
 unfold numN;rw[YT];exact(List.pairwise_lt_range.filter _).imp fun {a b} hab=>by omega
def Pk(ps:List (Int×Int))(h:Int):(numN ps h).length<=ps.length:=by
 unfold numN;rw[Z1];exact ZM (List.length_filter_le _ _) (by rw[YU];exact Z4 _)
def X3(n:Nat):(runI 1 n).Nodup:=by
 unfold runI;exact List.Pairwise.map _ (fun a b (h:a≠b) z=>h (by omega)) List.nodup_range
def FX{ps:List (Int×Int)}{o G mine:List Int}{i:Nat}(nd:o.Nodup)(hi:i<o.length)(g1:G.Nodup)(g2:∀x,x∈G↔(1<=x/\x<=ps.length)/\hdN ps x∈o.take i)(hm:mine.Perm (numN ps o[i])) :
  (G++mine).Nodup/\(∀x,x∈G++mine↔(1<=x/\x<=ps.length)/\hdN ps x∈o.take (i+1))/\(∀x∈G,∀y∈mine,rkN ps o x<rkN ps o y)/\∀y∈mine,rkN ps o y=i:=by
 have hmem:∀x,x∈mine↔(1<=x/\x<=ps.length)/\hdN ps x=o[i]:=fun x=>hm.mem_iff.trans SW
 have hni:o[i]∉o.take i:=fun z=>by
  obtain⟨j,hj,e⟩:=W7.mp z;rw[Yr]at hj;rw[List.getElem_take]at e
  have:=(List.getElem_inj (h₀:=by omega) (h₁:=hi) nd).mp e
  omega
 have hr:∀y∈mine,rkN ps o y=i:=fun y hy=>by
  unfold rkN;rw[((hmem y).mp hy).2,nd.idxOf_getElem i hi]
 have hl:∀x∈G,rkN ps o x<i:=fun x hx=>by
  obtain⟨j,hj,e⟩:=W7.mp ((g2 x).mp hx).2;rw[Yr]at hj;rw[List.getElem_take]at e;unfold rkN;rw[←e,nd.idxOf_getElem j (by omega)];omega
 refine⟨Ws.mpr ⟨g1,hm.symm.nodup ((P5 ps _).imp fun h=>WK h),fun x hx y hy z=>?_⟩,fun x=>?_,fun x hx y hy=>?_,hr⟩
 ·subst z
  have:=((g2 x).mp hx).2
  rw[((hmem x).mp hy).2]at this;exact hni this
 ·rw[Yp,g2 x,hmem x,ZS hi,Yp,ZJ];constructor
  ·rintro(⟨h1,h2⟩|⟨h1,h2⟩)
   ·exact⟨h1,.inl h2⟩
   ·exact⟨h1,.inr h2⟩
  ·rintro⟨h1,h2|h2⟩
   ·exact .inl ⟨h1,h2⟩
   ·exact .inr ⟨h1,h2⟩
 ·have:=hl x hx
  rw[hr y hy];exact this
def triN:Nat->Nat
 | 0=>0
 |k+1=>triN k+k
def A2:∀n,n<41->triN n<=780:=by decide
def Kl(n:Nat):(runI 1 n).Pairwise (· < ·):=by
 unfold runI;rw[YT];exact List.pairwise_lt_range.imp fun {a b} h=>by omega
def FW(ks:List Int)(p:Nat):Prop:=(∀q,1<=q->q<(if p=0 then ks.length else p)->ks.getD (q-1) 0<=ks.getD q 0)/\(p=0\/(1<=p/\p<ks.length/\ks.getD p 0<ks.getD (p-1) 0))
abbrev Mo:=Int×Int×Int×Int
inductive Mv (ps:List (Int×Int)) (f:Int->Int):List Int->List Mo->Prop
 |done (ns:List Int):FW (ns.map f) 0->Mv ps f ns []
 |step (ns:List Int) (p:Nat) (ms:List Mo):FW (ns.map f) p->p≠0->Mv ps f (Qs ns p) ms->Mv ps f ns (((p:Int),ns.getD (p-1) 0,ns.getD p 0,exM ps ns p)::ms)
def QJ{f:Int->Int}{ns:List Int}{i:Nat}(h:i<ns.length):(ns.map f).getD i 0=f (ns.getD i 0):=by
 rw[Zz,Zz,ZC,Zy h];rfl
def Mv.cut {ps:List (Int×Int)}{f:Int->Int}{ns:List Int}{ms:List Mo} (h:Mv ps f ns ms) (hl:ns.length=ps.length) (c:Int):∀k,k<=ms.length->∃ns' c',QT ps ((ms.take k).map (·.1)) (ns,c)=some (ns',c')/\Mv ps f ns' (ms.drop k)/\invL (keyL ps f ns)+c=invL (keyL ps f ns')+c'/\ns'.Perm ns:=by
 induction h generalizing c with
 |done ns hw=>
  intro k hk
  have:k=0:=Nat.le_zero.mp hk
  subst this;exact⟨ns,c,rfl,.done ns hw,rfl,.refl _⟩
 |step ns p ms hp h0 hm ih=>
  intro k hk;cases k with
  |zero=>exact⟨ns,c,rfl,.step ns p ms hp h0 hm,rfl,.refl _⟩
  |succ k=>
   obtain⟨h1,h2,h3⟩:=hp.2.resolve_left h0;rw[Z1]at h2;rw[QJ h2,QJ (by omega)]at h3;obtain⟨ns',c',w1,w2,w3,w4⟩:=ih (by rw[KC h1 h2];exact hl) (c+exM ps ns p) k (by simpa using hk);refine⟨ns',c',?_,w2,?_,w4.trans (Jz h1 h2)⟩
   ·rw[List.take_succ_cons,ZG,JG,Z8 (by show ¬((p:Int)<1\/(ps.length:Int)<=(p:Int));omega)];exact w1
   ·have:=Bs (ps:=ps) f h1 h2 h3
    omega
def PK{ps qs:List (Int×Int)}(h:ps.Perm qs):Qo ps=Qo qs:=by
 unfold Qo;congr 1;funext z
 have:=(h.map (·.1)).mem_iff (a:=z)
 by_cases c:z∈ps.map (·.1)
 ·rw[ZF c,ZF (this.mp c)]
 ·rw[ZI c,ZI fun w=>c (this.mpr w)]
def cntN(f:Int->Int)(ns:List Int):Int:=invL (ns.map fun m=>(f m,1))
def Pe(f:Int->Int){ns:List Int}{p:Nat}(h1:1<=p)(h2:p<ns.length)(h:f (ns.getD p 0)<f (ns.getD (p-1) 0)):cntN f ns=cntN f (Qs ns p)+1:=by
 obtain⟨A,x,y,B,e,_,es,ex,ey⟩:=Uq h1 h2;rw[ex,ey]at h;rw[es,e];unfold cntN;rw[ZX,ZG,ZG,ZX,ZG,ZG];have k:=Xf (f x,1) (f y,1) (B.map fun m=>(f m,1)) (A.map fun m=>(f m,1));simp only at k;rw[Z8 (by omega),ZA h]at k;omega
def Xg(f:Int->Int)(k:Int):∀l:List Int,0<=ltS k (l.map fun m=>(f m,1))/\ltS k (l.map fun m=>(f m,1))<=l.length
 |[]=>⟨Wd 0,Wd 0⟩
 |m::l=>by
  have:=Xg f k l
  rw[ZG,Y1];unfold ltS;simp only;split<;>omega
def Jv(f:Int->Int):∀l:List Int,0<=cntN f l/\cntN f l<=(l.length:Int)*l.length
 |[]=>⟨Wd 0,Wd 0⟩
 |m::l=>by
  have h1:=Jv f l;have h2:=Xg f (f m) l;unfold cntN at h1 ⊢;rw[ZG,Y1];unfold invL
  have e:((l.length+1:Nat):Int)*((l.length+1:Nat):Int)=(l.length:Int)*l.length+l.length+l.length+1:=by
   rw[show((l.length+1:Nat):Int)=(l.length:Int)+1 by omega,Wx,Int.mul_add];omega
  rw[e];simp only[Int.mul_one];omega
def toI:D->Int
 | .int i=>i
 |_=>0
def mvN(γ:List (Option Pu.S)):Nat:=match γ[2]?,γ[3]? with
 |some (some (Pu.S.own (Pu.O.lst rs))),some (some (Pu.S.own (Pu.O.lst ns)))=>(cntN (fun m=>(rs.map toI).getD (m-1).toNat 0) (ns.map toI)).toNat
 |_,_=>0
def U6(xs:List Int):(xs.map D.int).map toI=xs:=by
 rw[Y0];exact List.map_id _
end M
namespace Pu
open PySem PySem.Spec PyProof.Rows L2 Own M
abbrev mvD(m:Mo):D:=.tup [.int m.1,.int m.2.1,.int m.2.2.1,.int m.2.2.2]
end Pu
namespace M
open PySem PySem.Spec PyProof.Rows L2 Own Pu
def XI(f:Int->Int):∀l:List Int,cntN f l<=(triN l.length:Nat)
 |[]=>Wd 0
 |m::l=>by
  have h1:=XI f l;have h2:=Xg f (f m) l;unfold cntN at h1 ⊢;rw[ZG,Y1];unfold invL triN;simp only[Int.mul_one];omega
end M
namespace Pu
open PySem PySem.Spec PyProof.Rows L2 Own
section
variable {X:Cx}{k j:Nat}{x:Str}{ps:List Str}{sp:Sp}{e a b c:Expr}{es:List Expr}{t:TA}{te tf tg:TE}{p pos:Pos}
def fz(C:Callee X.prog X.w X.K X.mg X.base CX0 k x ps sp)(hr:Room j X.A)(ha:PA X (e::es) t)(hk:k<=j:=by decide)(hg:Gl X x:=by rfl)(hdb:(x==("__debug__" : Str))=false:=by decide)(he:starEach (e::es) X.env=(false,eval e X.env)::starEach es X.env:=by rfl)(hpl:(backTo pos (starEach es X.env)).any (·.1)=false:=by rfl) :
  PE X (.Call (.Name x p) (e::es) [] pos) (JT sp [] E0 t):=Vg C (hr.mono hk) Vh ha hg hdb he hpl
def jx(K:Za)(ha:PE X a te)(hb:PE X b tf)(hK:X.K=K:=by rfl)(hs:Pq b:=by intro _ _;rfl):PE X (.Subscript a b pos) (tOp (fun x y H Q=>rIxL K x y H Q\/rIxT K x y H Q) te tf):=Qm (UF hK) ha hb hs
def gz(i:Nat)(hN:X.N.Nodup)(hi:X.N[i]?=some x:=by rfl)(hx:Loc X.env.scope x:=by first|exact Or.inl rfl|exact Or.inr rfl)(hf:X.fn x=true\/X.env.scope.names.lookup x=some .local:=by first|exact .inl rfl|exact .inr rfl|assumption):PG X (.Name x pos) (Vw i):=QN hN hi hx hf
def ln(K:Za)(hm:X.mg "len"=none)(ha:PE X a te)(hK:X.K=K:=by rfl)(hg:Gl X "len":=by rfl)(hs:starEach [a] X.env=(false,eval a X.env)::starEach [] X.env:=by rfl)(hpl:(backTo pos (starEach [] X.env)).any (·.1)=false:=by rfl) :
  PE X (.Call (.Name "len" p) [a] [] pos) (tCB (fun xs H Q=>∃x n,xs=[x]/\LenV K x H n/\Q (.int (n:Nat)) H) (Q0 te tNil)):=Qt (NZ hK) hg hm Yc (WZ ha Qe hs) (by decide) (by decide) hs hpl
def cq(K:Za)(hr:Room j X.A)(ha:PE X a te)(hb:PE X b tf)(hK:X.K=K:=by rfl):PT X (.Compare a [.Eq] [b] pos) (JD (tOp (fun x y H Q=>rEq x y H Q\/rEqL K false x y H Q) te tf)):=Q6 (JO hr.units0 hK) ha hb (Qx _)
def cn(K:Za)(hr:Room j X.A)(ha:PE X a te)(hb:PE X b tf)(hK:X.K=K:=by rfl):PT X (.Compare a [.NotEq] [b] pos) (JD (tOp (fun x y H Q=>rNe x y H Q\/rEqL K true x y H Q) te tf)):=Q6 (N1 hr.units0 hK) ha hb (Qx _)
def az(ha:PE X a te)(h1:starEach [a] X.env=(false,eval a X.env)::starEach [] X.env:=by rfl):PA X [a] (Q0 te tNil):=WZ ha Qe h1
def bz(ha:PE X a te)(hb:PE X b tf)(h1:starEach [a,b] X.env=(false,eval a X.env)::starEach [b] X.env:=by rfl)(h2:starEach [b] X.env=(false,eval b X.env)::starEach [] X.env:=by rfl):PA X [a,b] (Q0 te (Q0 tf tNil)):=WZ ha (WZ hb Qe h2) h1
def dz(ha:PE X a te)(hb:PE X b tf)(hc:PE X c tg)(h1:starEach [a,b,c] X.env=(false,eval a X.env)::starEach [b,c] X.env:=by rfl)(h2:starEach [b,c] X.env=(false,eval b X.env)::starEach [c] X.env:=by rfl)(h3:starEach [c] X.env=(false,eval c X.env)::starEach [] X.env:=by rfl):PA X [a,b,c] (Q0 te (Q0 tf (Q0 tg tNil))):=WZ ha (WZ hb (WZ hc Qe h3) h2) h1
end
section
variable {K:Za}{mg:Str->Option Value}{E:L2.St->XK}{ta tb tc:TE}{a b c:PTE}
def sz(ha:SndE K mg E ta a):SndA K mg E (Q0 ta tNil) (V5 a pNil):=QR ha Jo
def tz(ha:SndE K mg E ta a)(hb:SndE K mg E tb b):SndA K mg E (Q0 ta (Q0 tb tNil)) (V5 a (V5 b pNil)):=QR ha (sz hb)
def uz(ha:SndE K mg E ta a)(hb:SndE K mg E tb b)(hc:SndE K mg E tc c):SndA K mg E (Q0 ta (Q0 tb (Q0 tc tNil))) (V5 a (V5 b (V5 c pNil))):=QR ha (tz hb hc)
end
section
variable {K:Za}{h:Heap}{mg:Str->Option Value}{C C':Addr}{x m q:Str}{st:Stmt}{ps:List Str}
abbrev Bd(x q:Str)(st:Stmt)(ps:List Str):Prop:=∀(kV doc pm:Value) (an:Option Addr) (cdv ct:Value) (us:List Value),us.length=ps.length->bindArgs (PySem.W.fnOf x q (Vi st) (QC st) (Qg st) .none kV doc pm an cdv ct) ⟨us,[]⟩=pure (ps.zip us)
def DI.e (D:DI K x st) (X:K.In h) (G0:h.Ns mainGlobals mg) (b:Bd x x st ps:=by
  intro _ _ _ _ _ _ us hl
  first
   |(obtain⟨_,rfl⟩:=Pu.len1 hl;rfl)
   |(obtain⟨_,_,rfl⟩:=Pu.len2 hl;rfl)
   |(obtain⟨_,_,_,rfl⟩:=Pu.len3 hl;rfl)
   |(obtain⟨_,_,_,_,rfl⟩:=Pu.len4 hl;rfl)
   |(obtain⟨_,_,_,_,_,rfl⟩:=Pu.len5 hl;rfl)):Def K mg x st ps:=D.d X G0 b
end
section
variable {P:Program}{w:World}{K:Za}{mg:Str->Option Value}{base:Heap}{N ps:List Str}{sp:Sp}{p:PTS}{x q:Str}{st:Stmt}{k:Nat}{W:Addr->Prop}
structure Uz (K:Za) (mg:Str->Option Value) (N ps:List Str) (sp:Sp) (p:PTS):Prop where
 len:∀vs H Q E,sp vs H Q E->vs.length=ps.length
 run:∀vs H Q E t,sp vs H Q E->SndS K mg (fun _=>E) t p->t {nx:=fun _ H'=>Q .non H',rt:=Q} (start N vs) H
def Uz.a {c:Pc} (hp:∀ds R X,c ds R X->ds.length=ps.length/\p {nx:=fun _=>R (.sh .non),rt:=R,ex:=fun _ e=>X e} (Vl N ds)) (hn:ps.length<=N.length:=by decide):Uz K mg N ps (spOf mg c K) p:=
 ⟨fun _ _ _ _ h=>A6 h fun ds R X z=>(hp ds R X z).1,fun _ _ _ _ _ h s=>B7 h s hn hp⟩
def _root_.Own.Def.oz (D:Def K mg x st ps) (S:FnScope N ps (Qg st))
  (tr:∀(f:Addr) (cdv:Value) (A:Around) (outer:List Env) (s:Shared) (H:Hp) (E:XK),Room k (A.deeper (envOfC x (Qg st) s.heap.objs.size f cdv))->
   ∃t,PSs (cxOf CX0 P w K mg base N x (Qg st) f cdv A outer s H E).nox (QC st) t/\SndS K mg (fun _=>E) t p) (u:Uz K mg N ps sp p):Callee P w K mg base CX0 (k+1) x ps sp:=
 D.ok S u.len fun f cdv A outer s H vs Q E hr h=>(tr f cdv A outer s H E hr).elim fun t z=>⟨t,z.1,u.run _ _ _ _ _ h z.2⟩
def _root_.Own.Def.ox (D:Def K mg x st ps) (S:FnScope N ps (Qg st))
  (tr:∀(f:Addr) (cdv:Value) (A:Around) (outer:List Env) (s:Shared) (H:Hp) (E:XK),Room k (A.deeper (envOfC x (Qg st) s.heap.objs.size f cdv))->
   ∃t,PSs (cxOf (ExcR.CXe P w) P w K mg base N x (Qg st) f cdv A outer s H E) (QC st) t/\SndS K mg (fun _=>E) t p) (u:Uz K mg N ps sp p):Callee P w K mg base (ExcR.CXe P w) (k+1) x ps sp:=
 ExcR.Def.okX D S u.len fun f cdv A outer s H vs Q E hr h=>(tr f cdv A outer s H E hr).elim fun t z=>⟨t,z.1,u.run _ _ _ _ _ h z.2⟩
end
section
variable {K:Za}{h:Heap}{mg:Str->Option Value}{x:Str}{C:Addr}
structure EI (K:Za) (x:Str) (C:Addr):Prop where
 a:PySem.W.nsIn K mainGlobals x=some (some (.ref C))
 g:ExcR.ErrGet K C
def ei{d:ClassData}(a:PySem.W.nsIn K mainGlobals x=some (some (.ref C)))(q:PySem.W.excIn K C [.type "ValueError",.type "Exception",.type "BaseException",.type "object"] "ValueError.__new__"=true)(ga:PySem.W.findIn K (.ref C) "__getattribute__"=some (some (.builtin "BaseException.__getattribute__")))(gt:PySem.W.findIn K (.ref C) "__getattr__"=some none)(cl:PySem.W.findIn K (.ref C) "__class__"=some (some (.builtin "object.__class__")))(i:PySem.W.clsIn K C=some d):EI K x C:=⟨a,⟨⟨q⟩,ga,gt,cl,by rw[i];rfl⟩⟩
def EI.c (y:EI K x C) (X:K.In h) (G0:h.Ns mainGlobals mg):ExcR.Q4 mg x=C:=ExcR.AJ (WD X G0 y.a)
def EI.m (y:EI K x C) (X:K.In h) (G0:h.Ns mainGlobals mg):mg x=some (.ref (ExcR.Q4 mg x)):=by rw[y.c X G0];exact WD X G0 y.a
def EI.k (y:EI K x C) (X:K.In h) (G0:h.Ns mainGlobals mg):ExcR.ErrGet K (ExcR.Q4 mg x):=by rw[y.c X G0];exact y.g
end
end Pu
namespace M
open PySem PySem.Spec PyProof.Rows L2 Own Pu
def UE{f:Int->Int}{ns:List Int}(h:FW (ns.map f) 0):ns.Pairwise fun x y=>f x<=f y:=by
 have key:∀(d i j:Nat) (hj:j<ns.length) (hi:i<ns.length),j=i+d->f ns[i]<=f ns[j]:=fun d=>by
  induction d with
  |zero=>intro i j hj hi e;subst e;exact Wd _
  |succ d ih=>
   intro i j hj hi e;have h1:=ih i (j-1) (by omega) hi (by omega);have h2:=h.1 j (by omega) (by rw[ZA rfl,Z1];exact hj);rw[QJ (by omega),QJ hj,Zz,Zy (show j-1<ns.length by omega),Zz,Zy hj]at h2;exact Int.le_trans h1 h2
 rw[List.pairwise_iff_getElem];intro i j hi hj hij;exact key (j-i) i j hj hi (by omega)
def F2{f:Int->Int}{ns:List Int}(h:FW (ns.map f) 0):cntN f ns=0:=by
 unfold cntN;refine Ui ?_;rw[YT];exact UE h
def Mv.count {ps:List (Int×Int)}{f:Int->Int}{ns:List Int}{ms:List Mo} (h:Mv ps f ns ms):(ms.length:Int)=cntN f ns:=by
 induction h with
 |done ns hw=>rw[F2 hw];rfl
 |step ns p ms hp h0 hm ih=>
  obtain⟨h1,h2,h3⟩:=hp.2.resolve_left h0;rw[Z1]at h2;rw[QJ h2,QJ (by omega)]at h3
  have:=Pe f h1 h2 h3
  rw[Y1];omega
def Mv.step_of {ps:List (Int×Int)}{f:Int->Int}{ns:List Int}{m:Mo}{ms:List Mo} (h:Mv ps f ns (m::ms)):∃p:Nat,m=((p:Int),ns.getD (p-1) 0,ns.getD p 0,exM ps ns p)/\FW (ns.map f) p/\p≠0/\1<=p/\p<ns.length/\f (ns.getD p 0)<f (ns.getD (p-1) 0)/\Mv ps f (Qs ns p) ms:=by
 cases h with
 |step _ p _ hp h0 hm=>
  obtain⟨h1,h2,h3⟩:=hp.2.resolve_left h0;rw[Z1]at h2;rw[QJ h2,QJ (by omega)]at h3;exact⟨p,rfl,hp,h0,h1,h2,h3,hm⟩
def Tj{R:Int->Int->Prop}{A B:List Int}{x y:Int}(h:(A++x::y::B).Pairwise R)(hyx:R y x):(A++y::x::B).Pairwise R:=by
 rw[YK]at h ⊢;obtain⟨h1,h2,h3⟩:=h;rw[ZU,ZU]at h2;refine⟨h1,?_,fun a ha b hb=>h3 a ha b ?_⟩
 ·rw[ZU,ZU];refine⟨fun b hb=>?_,fun b hb=>h2.1 b (ZH _ hb),h2.2.2⟩;rcases ZL.mp hb with rfl|hb
  ·exact hyx
  ·exact h2.2.1 b hb
 ·simp only[ZL]at hb ⊢;rcases hb with hb|hb|hb
  ·exact .inr (.inl hb)
  ·exact .inl hb
  ·exact .inr (.inr hb)
def BI{f:Int->Int}{kvs:List (List Key×V)}{A B:List Int}{x y:Int}{v:V}(nd:(A++x::y::B).Nodup)(hp:(A++x::y::B).Pairwise fun a b=>valV kvs [.inl a,.inl b]=none)(hk:∀a b,(valV kvs [.inl a,.inl b]).isSome=true->f b<f a)(hf:f y<f x) :
  (A++y::x::B).Pairwise (fun a b=>valV (putK kvs [.inl x,.inl y] v) [.inl a,.inl b]=none)/\∀a b,(valV (putK kvs [.inl x,.inl y] v) [.inl a,.inl b]).isSome=true->f b<f a:=by
 have hyx:valV kvs [.inl y,.inl x]=none:=by
  cases e:valV kvs [.inl y,.inl x]with
  |none=>rfl
  |some u=>
   have:=hk y x (by rw[e];rfl)
   omega
 have h1:=Tj hp hyx
 have nd2:(A++y::x::B).Nodup:=by
  have:(A++y::x::B).Perm (A++x::y::B):=(List.Perm.swap x y B).append_left A
  exact this.symm.nodup nd
 have h2:(A++y::x::B).Pairwise fun a b=>¬(a=x/\b=y):=by
  rw[Ws,YO,YO]at nd2;obtain⟨_,⟨n1,n2,_⟩,n3⟩:=nd2;rw[YK,ZU,ZU];refine⟨?_,⟨fun b hb z=>n1 (by rw[z.1];exact ZK),fun b hb z=>n1 (by rw[←z.2];exact ZH _ hb),?_⟩,fun a ha b hb z=>n3 a ha x (by simp) z.1⟩
  ·exact W2 fun a ha b hb z=>n3 a ha x (by simp) z.1
  ·exact W2 fun a ha b hb z=>n2 (by rw[←z.1];exact ha)
 refine⟨(h1.and h2).imp fun {a b} h=>?_,fun a b h=>?_⟩
 ·rw[XS,Z8 fun e=>?_]
  ·exact h.1
  ·simp only[List.cons.injEq,Sum.inl.injEq,and_true]at e;exact h.2 e
 ·rw[XS]at h;by_cases e:([.inl a,.inl b]:List Key)=[.inl x,.inl y]
  ·simp only[List.cons.injEq,Sum.inl.injEq,and_true]at e;rw[e.1,e.2];exact hf
  ·rw[Z8 e]at h;exact hk a b h
def endsN(ps:List (Int×Int))(o:List Int):List Int:=o.flatMap (numN ps)
def LexR(ps:List (Int×Int))(o:List Int)(x y:Int):Prop:=rkN ps o x<rkN ps o y\/(rkN ps o x=rkN ps o y/\x<y)
def Xr{ps:List (Int×Int)}{o:List Int}(nd:o.Nodup):∀i,i<=o.length->(endsN ps (o.take i)).Nodup/\(∀x,x∈endsN ps (o.take i)↔(1<=x/\x<=ps.length)/\hdN ps x∈o.take i)/\(endsN ps (o.take i)).Pairwise (LexR ps o)
 | 0,_=>by simp[endsN]
 |i+1,hi=>by
  obtain⟨g1,g2,g5⟩:=Xr (ps:=ps) nd i (by omega)
  have et:endsN ps (o.take (i+1))=endsN ps (o.take i)++numN ps o[i]:=by
   unfold endsN;rw[ZS (by omega),List.flatMap_append];simp
  rw[et];obtain⟨s1,s2,s3,s4⟩:=FX (mine:=numN ps o[i]) nd (by omega) g1 g2 (.refl _);refine⟨s1,s2,YK.mpr ⟨g5,?_,fun x hx y hy=>.inl (s3 x hx y hy)⟩⟩;exact(List.Pairwise.and_mem.mp (P5 ps o[i])).imp fun {x y} h=>.inr ⟨by rw[s4 x h.1,s4 y h.2.1],h.2.2⟩
def Sw{ps:List (Int×Int)}{o:List Int}(nd:o.Nodup)(hin:∀q∈ps,q.1∈o):(endsN ps o).Perm (runI 1 ps.length)/\(endsN ps o).Pairwise (LexR ps o):=by
 obtain⟨g1,g2,g3⟩:=Xr (ps:=ps) nd o.length (Z4 _);rw[Y8]at g1 g2 g3;refine⟨(Wc g1 (X3 _)).mpr fun x=>?_,g3⟩;rw[g2 x,runI_mem];refine⟨fun h=>h.1,fun h=>⟨h,?_⟩⟩;have hx:(x-1).toNat<ps.length:=by omega
 unfold hdN;rw[Zz,Zy hx];exact hin _ (ZP hx)
def XN{ps:List (Int×Int)}{o:List Int}:∀{a b:List Int},a.Perm b->a.Pairwise (LexR ps o)->b.Pairwise (LexR ps o)->a=b
 |[],b,h,_,_=>(List.nil_perm.mp h).symm
 |x::a,[],h,_,_=>absurd h.length_eq (by simp)
 |x::a,y::b,h,h1,h2=>by
  rw[ZU]at h1 h2
  have e:x=y:=by
   rcases ZL.mp (h.mem_iff.mp ZK)with e|e
   ·exact e
   ·rcases ZL.mp (h.mem_iff.mpr ZK)with e'|e'
    ·exact e'.symm
    ·have p1:=h1.1 y e';have p2:=h2.1 x e;unfold LexR at p1 p2;omega
  subst e;rw[XN (List.Perm.cons_inv h) h1.2 h2.2]
def Fo{ps:List (Int×Int)}{o ns:List Int}(h1:FW (ns.map (rkN ps o)) 0)(h2:ns.Pairwise fun x y=>rkN ps o x=rkN ps o y->x<y):ns.Pairwise (LexR ps o):=
 ((UE h1).and h2).imp fun {x y} h=>by
  unfold LexR;by_cases e:rkN ps o x=rkN ps o y
  ·exact .inr ⟨e,h.2 e⟩
  ·exact .inl (by have:=h.1;omega)
end M
namespace Lam
open PySem PySem.Spec PyProof.Rows L2 Own
section
variable {X:Cx}{pins:List (Addr×Obj)}{σ:L2.St}{H:Hp}{A:Around}{E:Value->Shared->Prop}{s:Shared}{kS D:Addr}{vs:List Value}{kz:List Int}{keys:Array Value}{e e1:Nat}
def V0{b:Addr}{o:Obj}(I:Inv X pins σ H s)(f:FpOk X pins H b)(ho:s.heap.get? b=some o)(hd:∀v,o.data≠.cell v):Inv X (pins++[(b,o)]) σ H s:=
 I.pins_of fun p hp=>(Yp.mp hp).elim (fun z=>I.pin p (ZE _ z)) fun z=>by
  rw[ZJ.mp z];exact⟨ho,f.1,f.2.1,f.2.2.1,hd⟩
def VX{pins':List (Addr×Obj)}(I:Inv X pins σ H s)(h:∀p∈pins',p∈pins):Inv X pins' σ H s:=I.pins_of fun p hp=>I.pin p (ZE _ (h p hp))
def VT{c:String}{xs:Array Value}{n:Nat}:∀v,(seqObj c xs n).data≠.cell v:=fun v z=>by cases z
def Uu{b:Addr}{o':Obj}{h':Heap}{t':Nat}(I:Inv X pins σ H s)(f:FpOk X pins H b)(sb:Heap.SameBut b s.heap h')(ho:h'.get? b=some o')(hd:∀v,o'.data≠.cell v):Inv X (pins++[(b,o')]) σ H {s with heap:=h',toks:=t'}:=
 V0 (I.turned (t':=t') (fun c o hc g=>(sb.2 c hc).trans g) f.1 f.2.1 f.2.2.2.1 f.2.2.2.2.1 f.2.2.2.2.2) f ho hd
def BZ{P:Program}{w:World}{H:Hp}{h:Heap}{a:Addr}{o:HO}(x:HOk P w H h)(hn:H a=none)(new:ObjOk P w (upd H a o) h a o):HOk P w (upd H a o) h:=fun b u e=>by
 by_cases hb:b=a
 ·subst hb;rw[Qn]at e;cases e;exact new
 ·rw[Qh hb]at e;exact(x b u e).stay (fun c v _ q=>q) (fun c q=>by rw[Qh (Qv q hn)];exact q) fun c xs q=>by rw[Qh (Qv q hn)];exact q
def adopt{b:Addr}{xs:List V}{us:List Value}{n:Nat}(I:Inv X pins σ H s)(f:FpOk X pins H b)(hb:X.s₀.heap.objs.size<=b)(ho:s.heap.get? b=some (seqObj "list" us.toArray n))(r:Vals xs us)(hz:xs.length<=sizeLine) :
  Inv X pins σ (upd H b (.lst xs)) s:=by
 have ne:∀c o,X.s₀.heap.get? c=some o->c≠b:=fun c o g z=>by
  have:=Z5 g
  rw[z]at this;exact absurd (ZO this hb) (Yt _)
 have hn:=f.1;refine⟨I.ok,I.os,I.bare,⟨fun c o g n1 n2 n3=>I.base.keep c o g n1 n2 n3,fun c o g n1 n2 n3=>I.base.slot c o g n1 n2 n3,fun c o g n1 n2=>?_,I.base.there,fun c ys g=>?_,fun c o u g=>?_,fun c ps g=>?_⟩,I.loc,I.cell,?_,fun x c g=>?_,fun p hp=>?_,?_,I.len⟩
 ·rw[Qh (ne c o g)];exact I.base.free c o g n1 n2
 ·rw[Qh (Qv (I.base.tups c ys g) hn)];exact I.base.tups c ys g
 ·rw[Qh (Qv (I.base.frzs c o u g) hn)];exact I.base.frzs c o u g
 ·obtain⟨m,q⟩:=I.base.tbls c ps g;exact⟨m,by rw[Qh (Qv q hn)];exact q⟩
 ·rw[Qh (Ne.symm f.2.1)];exact I.free
 ·rw[Qh (f.2.2.2.2.1 x c g)];exact I.freeC x c g
 ·obtain⟨a1,a2,a3,a4,a5⟩:=I.pin p hp;exact⟨a1,by rw[Qh (f.2.2.2.2.2 p hp)];exact a2,a3,a4,a5⟩
 ·exact BZ I.hok hn ⟨hz,us,n,r,ho⟩
def Ju{b c:Addr}{o:Obj}(f:FpOk X pins H b)(h:c≠b):FpOk X (pins++[(c,o)]) H b:=
 ⟨f.1,f.2.1,f.2.2.1,f.2.2.2.1,f.2.2.2.2.1,fun p hp=>(Yp.mp hp).elim (fun z=>f.2.2.2.2.2 p (YJ _ z)) fun z=>(Yp.mp z).elim (fun z=>f.2.2.2.2.2 p (ZE _ z)) fun z=>by
  rw[ZJ.mp z];exact h⟩
def CB{pins':List (Addr×Obj)}{b:Addr}(f:FpOk X pins H b)(h:∀p∈pins',p∈pins):FpOk X pins' H b:=
 ⟨f.1,f.2.1,f.2.2.1,f.2.2.2.1,f.2.2.2.2.1,fun p hp=>f.2.2.2.2.2 p ((Yp.mp hp).elim (fun z=>YJ _ z) fun z=>ZE _ (h p z))⟩
variable {P:PySem.Fin->Shared->Prop}
def P4{st:SortSt}(I:Inv X (pins++[(kS,seqObj "list" keys e)]++[(D,seqObj "list" #[] e1)]) σ H s)(fk:FpOk X pins H kS)(fd:FpOk X pins H D)(hka:kS≠D)(hk:IntsAre keys.toList kz)(hlen:kz.length=vs.length)(h64:vs.length<64)(hp:(arrOf st).Perm (keys.zip vs.toArray))(hs:SortedTo (arrOf st) (arrOf st).size)(hfl:failedOf st=none)(h:∀h' tk out c,Inv X (pins++[(D,seqObj "list" out c)]) σ H {s with heap:=h',toks:=tk}->KskOut false kz vs out.toList->P (.done (.ret .none)) {s with heap:=h',toks:=tk}) :
  wpAny (model X.prog X.w) A (ksk_tail D false e1 (.ref kS) st) P E s:=by
 have nk:=(I.pin (kS,seqObj "list" keys e) (by simp)).1;have na:=(I.pin (D,seqObj "list" #[] e1) (by simp)).1
 have hsz:keys.size=vs.length:=by
  have h1:=hk.length;rw[ZW]at h1;omega
 have hsz2:(arrOf st).size=vs.length:=by rw[hp.size_eq,Array.size_zip,hsz,Z7,Nat.min_self]
 have hout:((arrOf st).map (·.2)).size=vs.length:=by simp only[Array.size_map];exact hsz2
 have s1:=ZZ s.heap kS (Obj.mapSeq fun _=>(#[]:Array Value));have na1:(s.heap.update kS (Obj.mapSeq fun _=>(#[]:Array Value))).get? D=some (seqObj "list" #[] e1):=(s1.2 D hka.symm).trans na;have s2:=ZZ (s.heap.update kS (Obj.mapSeq fun _=>(#[]:Array Value))) D (Obj.mapSeq fun _=>(arrOf st).map (·.2))
 obtain⟨c2,hc2⟩:∃c2,((s.heap.update kS (Obj.mapSeq fun _=>(#[]:Array Value))).update D (Obj.mapSeq fun _=>(arrOf st).map (·.2))).get? D=some (seqObj "list" ((arrOf st).map (·.2)) c2):=
  ⟨_,get?_update_seq na1 fun _=>(arrOf st).map (·.2)⟩
 have I0:Inv X pins σ H s:=VX I fun p hp=>by simp[hp]
 have I1:Inv X pins σ H {s with heap:=s.heap.update kS (Obj.mapSeq fun _=>(#[]:Array Value)),toks:=s.toks}:=I0.turned (fun c o hc g=>(s1.2 c hc).trans g) fk.1 fk.2.1 fk.2.2.2.1 fk.2.2.2.2.1 fk.2.2.2.2.2
 have I2:=Uu (t':=s.toks) I1 fd s2 hc2 VT;unfold ksk_tail
 try dsimp only
 refine Z0 (listUpdate_at nk rfl ?_ (by rw[hsz,Yz];omega) (Yo _));refine Z0 (wpAny_letGo ?_);refine Z0 (seqEpoch_at na1 rfl ?_);refine Z0 (listUpdate_at na1 rfl ?_ (Yo _) (ZM (YA hout) (by rw[Yz];omega)));rw[hfl];simp only[bne_self_eq_false,Wm,if_false];refine Z3 (h _ _ _ c2 I2 ?_)
 have:=ksk_out (b:=false) hk hp hs
 simpa using this
def Sg(I:Inv X (pins++[(kS,seqObj "list" keys e)]++[(D,seqObj "list" #[] e1)]) σ H s)(fk:FpOk X pins H kS)(fd:FpOk X pins H D)(hka:kS≠D)(hk:IntsAre keys.toList kz)(hlen:kz.length=vs.length)(h64:vs.length<64)(h:∀h' tk out c,Inv X (pins++[(D,seqObj "list" out c)]) σ H {s with heap:=h',toks:=tk}->KskOut false kz vs out.toList->P (.done (.ret .none)) {s with heap:=h',toks:=tk}) :
  wpAny (model X.prog X.w) A (ksk_end D false vs.toArray e1 (.ref kS) keys) P E s:=by
 have hsz:keys.size=vs.length:=by
  have h1:=hk.length;rw[ZW]at h1;omega
 have hzs:(keys.zip vs.toArray).size=vs.length:=by rw[Array.size_zip,hsz,Z7,Nat.min_self]
 unfold ksk_end;simp only[Wm,if_false];by_cases h2:vs.toArray.size<2
 ·rw[ZA h2,ZA h2];refine Z0 (Z3 ?_);rw[StateT.run_pure];refine Z0 (Z3 ?_)
  try dsimp only
  refine P4 (st:=SortSt.mk' general' (keys.zip vs.toArray) #[] 7 none) I fk fd hka hk hlen h64 (Array.Perm.refl _) ?_ rfl h;intro i j hij hj;have hj2:j<(keys.zip vs.toArray).size:=hj;rw[hzs]at hj2;rw[Z7]at h2
  have:i=j:=by omega
  subst this;exact Wd _
 ·rw[Z8 h2,Z8 h2];rw[Z7]at h2;rw[ksk_kind hk (by rw[hsz];omega)];refine Z0 (Z3 ?_)
  refine Z0 (Yh (wpS_sortRuns (a₀:=keys.zip vs.toArray) (st:=SortSt.mk' oneType' (keys.zip vs.toArray) #[] 7 none)
   (Q:=fun _ st'=>(arrOf st').Perm (keys.zip vs.toArray)/\failedOf st'=none/\SortedTo (arrOf st') (keys.zip vs.toArray).size)
   (ksk_intKeys hk) ⟨Array.Perm.refl _,rfl,rfl,rfl⟩ (by rw[hzs];omega) (by rw[hzs];exact h64) fun st' a1 a2 a3=>⟨a1,a2,a3⟩) ?_ fun _ _ e=>e)
  rintro⟨⟨⟩,st'⟩ s' ⟨rfl,hp,hf,hs⟩
  try dsimp only
  exact P4 I fk fd hka hk hlen h64 hp (by rw[hp.size_eq];exact hs) hf h
def Ss{f:Value}(I:Inv X (pins++[(kS,seqObj "list" #[] 0)]++[(D,seqObj "list" #[] e1)]) σ H s)(fk:FpOk X pins H kS)(fd:FpOk X pins H D)(hka:kS≠D)(hlen:kz.length=vs.length)(h64:vs.length<64)
  (turn:∀(i:Nat) (v:Value) (k:Int) (pins':List (Addr×Obj)) (s':Shared),vs[i]?=some v->kz[i]?=some k->(∀p∈pins,p∈pins')->Inv X pins' σ H s'->
   wpAny (model X.prog X.w) A (call f [v]) (fun r s''=>(∃t,r=.int k t)/\Inv X pins' σ H s'') (fun _ _=>False) s')
  (h:∀s' out c,Inv X (pins++[(D,seqObj "list" out c)]) σ H s'->KskOut false kz vs out.toList->P (.done (.ret .none)) s') :
  wpAny (model X.prog X.w) A (ksk_rest D f false vs.toArray e1 (.ref kS)) P E s:=by
 unfold ksk_rest;refine Z0 (wpAny_rule ?_)
 first
  |rw[List.forIn_toArray]
  |(rw[←Array.forIn_toList];simp only[List.toList_toArray])
  |rw[←Array.forIn_toList]
 refine Z0 (ksk_fold (fun i s'=>∃kA e,Inv X (pins++[(kS,seqObj "list" kA e)]++[(D,seqObj "list" #[] e1)]) σ H s'/\IntsAre kA.toList (kz.take i)) vs 0 s
  ⟨#[],0,I,by simpa using IntsAre.nil⟩ ?step ?done)
 case step=>
  rintro j x s' hx ⟨kA,e,I',hk⟩;simp only[Nat.zero_add]at hk ⊢;have hj:j<vs.length:=(ZV.mp hx).1;obtain⟨k,hkj⟩:∃k,kz[j]?=some k:=⟨_,Zy (by omega)⟩
  have hz:kA.size<=vs.length:=by
   have h1:=hk.length;rw[ZW,Yr]at h1;omega
  refine Z0 (wpAny_attempt (Yh (turn j x k _ s' hx hkj (fun p hp=>by simp[hp]) I') (fun v s'' he=>?_) fun _ _ hF=>hF.elim));obtain⟨⟨t2,rfl⟩,I2⟩:=he
  try dsimp only
  have nk:=(I2.pin (kS,seqObj "list" kA e) (by simp)).1;have na:=(I2.pin (D,seqObj "list" #[] e1) (by simp)).1;have s1:=ZZ s''.heap kS (Obj.mapSeq (·.push (.int k t2)));obtain⟨c2,hc2⟩:∃c2,(s''.heap.update kS (Obj.mapSeq (·.push (.int k t2)))).get? kS=some (seqObj "list" (kA.push (.int k t2)) c2):=⟨_,get?_update_seq nk (·.push (.int k t2))⟩;have ek:kz.take (j+1)=kz.take j++[k]:=by rw[List.take_add_one,hkj];simp
  have ea:(kA.push (Value.int k t2)).toList=kA.toList++[Value.int k t2]:=by simp
  refine Z0 (listUpdate_at nk rfl ?_ (by rw[Yz];omega) (ZM (YA (Array.size_push ..)) (by rw[Yz];omega)));have I3:Inv X pins σ H s'':=VX I2 fun p hp=>by simp[hp]
  have I4:=Uu (t':=s''.toks) I3 fk s1 hc2 VT;refine Z3 ⟨rfl,kA.push (.int k t2),c2,V0 I4 (Ju fd hka) ((s1.2 D hka.symm).trans na) VT,by rw[ea,ek];exact ksk_snoc hk⟩
 case done=>
  rintro s' ⟨kA,e,I',hk⟩
  have hk':IntsAre kA.toList kz:=by
   have e3:kz.take (0+vs.length)=kz:=YS (by omega);rw[e3]at hk;exact hk
  have nk:=(I'.pin (kS,seqObj "list" kA e) (by simp)).1
  try dsimp only
  refine Z0 (listItems_at nk rfl ?_);exact Sg I' fk fd hka hk' hlen h64 fun h3 tk3 out c I3 k3=>h _ out c I3 k3
def Nx{f:Value}{n:Nat}(I:Inv X pins σ H s)(fd:FpOk X pins H D)(ho:s.heap.get? D=some (seqObj "list" vs.toArray n))(hlen:kz.length=vs.length)(h64:vs.length<64)
  (turn:∀(i:Nat) (v:Value) (k:Int) (pins':List (Addr×Obj)) (s':Shared),vs[i]?=some v->kz[i]?=some k->(∀p∈pins,p∈pins')->Inv X pins' σ H s'->
   wpAny (model X.prog X.w) A (call f [v]) (fun r s''=>(∃t,r=.int k t)/\Inv X pins' σ H s'') (fun _ _=>False) s')
  (h:∀s' out c,Inv X (pins++[(D,seqObj "list" out c)]) σ H s'->KskOut false kz vs out.toList->P (.done (.ret .none)) s') :
  wpAny (model X.prog X.w) A (ksk_tree D f false) P E s:=by
 have s1:=ZZ s.heap D (Obj.mapSeq fun _=>(#[]:Array Value));obtain⟨e1,ho1⟩:∃e1,(s.heap.update D (Obj.mapSeq fun _=>(#[]:Array Value))).get? D=some (seqObj "list" #[] e1):=⟨_,get?_update_seq ho fun _=>#[]⟩;have I1:=Uu (t':=s.toks) I fd s1 ho1 VT;unfold ksk_tree;refine Z0 (listItems_at ho rfl ?_);refine Z0 (listUpdate_at ho rfl ?_ (by rw[Z7,Yz];omega) (Yo _));refine Z0 (seqEpoch_at ho1 rfl ?_);refine Z0 (wpAny_newTuple ?_ (by show vs.length<=_;rw[Yz];omega));refine Z0 (wpAny_newList ?_ (Yo _));refine Yu ?_;have I2:=I1.kept (h':=(s.heap.update D (Obj.mapSeq fun _=>(#[]:Array Value))).push (seqObj "tuple" vs.toArray 0)) (t':=s.toks) fun b o g=>Z2 _ g;generalize eh:(s.heap.update D (Obj.mapSeq fun _=>(#[]:Array Value))).push (seqObj "tuple" vs.toArray 0)=h2 at *;have fk:=I2.fpOk (b:=h2.objs.size) (H':=H) (Z4 _) (I2.hok.fresh (Z4 _));have hDk:h2.objs.size≠D:=fun z=>fk.2.2.2.2.2 (D,seqObj "list" #[] e1) (by simp) z.symm;have fk0:FpOk X pins H h2.objs.size:=CB fk fun p hp=>by simp[hp]
 have I3:=I2.kept (h':=h2.push (seqObj "list" #[] 0)) (t':=s.toks) fun b o g=>Z2 _ g;have I4:=V0 (VX I3 (pins':=pins) fun p hp=>by simp[hp]) fk0 (o:=seqObj "list" #[] 0) (Z9 _ rfl) VT;have I5:=V0 I4 (Ju fd hDk) (I3.pin (D,seqObj "list" #[] e1) (by simp)).1 VT;exact Ss (s:={s with heap:=h2.push (seqObj "list" #[] 0)}) I5 fk0 fd hDk hlen h64 turn h
end
def KZ{α β:Type}{R:α->β->Prop}{p l2:List β}(h:p.Perm l2):∀l1:List α,Paired R l1 l2->∃q,q.Perm l1/\Paired R q p:=by
 induction h with
 |nil=>intro l1 r;cases r;exact⟨[],.nil,.nil⟩
 |cons x _ ih=>
  intro l1 r;cases r with
  |cons a t=>
   obtain⟨q,h1,h2⟩:=ih _ t;exact⟨_::q,h1.cons _,.cons a h2⟩
 |swap x y l=>
  intro l1 r;cases r with
  |cons a t=>
   cases t with
   |cons b u=>exact⟨_::_::_,.swap _ _ _,.cons b (.cons a u)⟩
 |trans _ _ ih1 ih2=>
  intro l1 r;obtain⟨q,h1,h2⟩:=ih2 l1 r;obtain⟨q',h3,h4⟩:=ih1 q h2;exact⟨q',h3.trans h1,h4⟩
abbrev KR(p:Int×V)(q:Int×Value):Prop:=p.1=q.1/\RelV p.2 q.2
def PR:∀(kz:List Int) {xs:List V}{vs:List Value},Vals xs vs->Paired KR (kz.zip xs) (kz.zip vs)
 |[],_,_,_=>.nil
 |_::_,_,_,.nil=>.nil
 |_::kz,_,_,.cons a t=>.cons ⟨rfl,a⟩ (PR kz t)
def XF:∀{qs:List (Int×V)}{ps:List (Int×Value)},Paired KR qs ps->Vals (qs.map Prod.snd) (ps.map Prod.snd)
 |_,_,.nil=>.nil
 |_,_,.cons a t=>.cons a.2 (XF t)
def PD:∀{qs:List (Int×V)}{ps:List (Int×Value)},Paired KR qs ps->∀p∈qs,∃q∈ps,p.1=q.1
 |_,_,.cons a t,p,h=>by
  rcases ZL.mp h with rfl|h
  ·exact⟨_,ZK,a.1⟩
  ·obtain⟨q,h1,h2⟩:=PD t p h;exact⟨q,ZH _ h1,h2⟩
def PB:∀{qs:List (Int×V)}{ps:List (Int×Value)},Paired KR qs ps->ps.Pairwise (fun p q=>if false then q.1<=p.1 else p.1<=q.1)->qs.Pairwise fun p q=>p.1<=q.1
 |_,_,.nil,_=>.nil
 |_,_,.cons a t,h=>by
  obtain⟨h1,h2⟩:=ZU.mp h;refine ZU.mpr ⟨fun p hp=>?_,PB t h2⟩;obtain⟨q,hq,e⟩:=PD t p hp
  have:=h1 q hq
  simp only[Wm,if_false]at this;rw[a.1,e];exact this
def BC{X:Cx}{pins:List (Addr×Obj)}{σ:L2.St}{H:Hp}{s:Shared}{Q:Value->Shared->Prop}{E:Value->Shared->Prop}{f l:Addr}{xs:List V}{vs:List Value}{kz:List Int}(I:Inv X pins σ H s)(hl:PlainL s.heap l vs.toArray)(r:Vals xs vs)(hlen:kz.length=xs.length)(h64:xs.length<64)
  (turn:∀(i:Nat) (v:Value) (k:Int) (pins':List (Addr×Obj)) (s':Shared),vs[i]?=some v->kz[i]?=some k->(∀p∈pins,p∈pins')->Inv X pins' σ H s'->
   wpAny (model X.prog X.w) X.A.in1.in1 (call (.ref f) [v]) (fun r s''=>(∃t,r=.int k t)/\Inv X pins' σ H s'') (fun _ _=>False) s')
  (h:∀(D:Addr) (ys:List V) (ps:List (Int×V)) s',H D=none->Inv X pins σ (upd H D (.lst ys)) s'->ps.Perm (kz.zip xs)->ys=ps.map Prod.snd->ps.Pairwise (fun p q=>p.1<=q.1)->Q (.ref D) s') :
  wpAny (model X.prog X.w) X.A (call (.builtin "sorted") [.ref l] [(Str.ofString "key",.ref f)]) Q E s:=by
 have h64':vs.length<64:=by rw[←r.length];exact h64
 refine call_function_entry_kw kind_sorted plain_sorted entry_sorted (ksk_s1 _ _) ?_;unfold Builtin.«sorted»;refine Z0 (m:=checkCount "sorted" 1 1 _) (Z3 ?_);refine Z0 (collect_list (vs:=vs) (let ⟨o,n,e1,e2,_,e3⟩:=hl;⟨o,e1,e2,n,e3⟩) ?_ (by rw[Yz];omega));refine Z0 (wpAny_newList ?_ (by rw[Yz];omega));show wpAny _ _ _ _ _ {s with heap:=(gotH s.heap vs).push (seqObj "list" vs.toArray 0)}
 have k1:∀b o,s.heap.get? b=some o->(gotH s.heap vs).get? b=some o:=fun b o g=>Aa g;have I1:Inv X pins σ H {s with heap:=gotH s.heap vs,toks:=s.toks}:=I.kept k1
 have fd:FpOk X pins H (gotH s.heap vs).objs.size:=I1.fpOk (Z4 _) (I1.hok.fresh (Z4 _));have hb:X.s₀.heap.objs.size<=(gotH s.heap vs).objs.size:=I1.sz;have I2:Inv X pins σ H {s with heap:=(gotH s.heap vs).push (seqObj "list" vs.toArray 0),toks:=s.toks}:=I1.kept fun b o g=>Z2 _ g
 have ho:((gotH s.heap vs).push (seqObj "list" vs.toArray 0)).get? (gotH s.heap vs).objs.size=some (seqObj "list" vs.toArray 0):=Z9 _ rfl;show wpAny _ _ (do let _ ←holding _ (call (.builtin "list.sort") [.ref (gotH s.heap vs).objs.size] _);_) _ _ _
 generalize eD:(gotH s.heap vs).objs.size=D at *;refine Z0 (Yu (wpAny_call_entry_kw slot_list_sort ⟨_,ho,rfl⟩ entry_list_sort ?body (ksk_l1 _ _)));show wpAny _ _ (Builtin.«list.sort» ⟨[.ref D],[(Str.ofString "key",.ref f)]⟩) _ _ _;rw[ksk_t1];refine Nx I2 fd ho (by rw[hlen,r.length]) h64' turn fun s' out c I' k'=>⟨_,rfl,?_⟩;obtain⟨ps,hp,ho',hs⟩:=k';obtain⟨qs,hq,rq⟩:=KZ hp (kz.zip xs) (PR kz r);have hD:=(I'.pin (D,seqObj "list" out c) (by simp)).1;have I3:Inv X pins σ H s':=VX I' fun p hp=>by simp[hp]
 have hlq:(qs.map Prod.snd).length<=sizeLine:=by
  rw[Z1,hq.length_eq,List.length_zip,hlen,Nat.min_self,Yz];omega
 have I4:=adopt (xs:=qs.map Prod.snd) (us:=out.toList) (n:=c) I3 fd hb (by rw[Array.toArray_toList];exact hD) (by rw[ho'];exact XF rq) hlq;have z:=h D _ qs s' fd.1 I4 hq rfl (PB rq hs);rw[←eD]at z;exact Z3 ⟨_,rfl,z⟩
open PySem.W
structure Tabs (X:Cx) (c P:Addr):Prop where
 code:X.env.code=.ref c
 hd:CodeHd X.base c P
 gne:mainGlobals≠P
 blt:X.base.BuiltinsAt X.mg P
 ex:P∈X.ex
abbrev tab0(P:Addr):Addr×Obj:=(P,tabObj #[])
def lamX(X:Cx)(N':List Str)(qual:Str)(sc:Scope)(cl:List (Str×Addr))(f:Addr)(cv:Value)(A:Around)(s₃:Shared)(H₃:Hp):Cx:=
 {X with A:=A.deeper (envX qual sc s₃.heap.objs.size f cv cl),N:=N',s₀:=s₃,H₀:=H₃,env:=envX qual sc s₃.heap.objs.size f cv cl,outer:=X.stack,stack:=envX qual sc s₃.heap.objs.size f cv cl::X.stack,ex:=[],fn:=fun _=>false,pn:=[],xe:=fun _ _=>False}
structure LamOk (X:Cx) (N':List Str) (φ:List (Option Nat)) (sc:Scope) (x:Str):Prop where
 kind:sc.kind=.function
 co:sc.isCoroutine=false
 gen:sc.isGenerator=false
 nocell:∀y∈sc.names,y.2≠.cell
 par:sc.names.lookup x=some .local
 first:N'[0]?=some x
 frees:∀y∈sc.names,y.2=.free->X.env.scope.names.lookup y.1=some .cell
 len:φ.length=N'.length
 pick:∀(i:Nat) (y:Str) (j:Nat),N'[i]?=some y->φ[i]?=some (some j)->X.N[j]?=some y/\sc.names.lookup y=some .free
def Kz(sc osc:Scope)(N N':List Str)(φ:List (Option Nat))(x:Str):Bool:=
 sc.kind == .function && !sc.isCoroutine && !sc.isGenerator&&sc.names.lookup x==some .local&&N'[0]? == some x&&(sc.names.all fun y=>y.2 != .cell&&(y.2 != .free || osc.names.lookup y.1==some .cell)) &&
  φ.length==N'.length&&((N'.zip φ).all fun p=>match p.2 with|none=>true|some j=>N[j]? == some p.1&&sc.names.lookup p.1==some .free)
def LamOk.of {X:Cx}{N':List Str}{φ:List (Option Nat)}{sc:Scope}{x:Str} (h:Kz sc X.env.scope X.N N' φ x=true):LamOk X N' φ sc x:=by
 unfold Kz at h;simp only[Yj,beq_iff_eq,Y7,Bool.or_eq_true,bne_iff_ne,ne_eq,Bool.not_eq_true']at h;obtain⟨⟨⟨⟨⟨⟨⟨h1,h2⟩,h3⟩,h4⟩,h5⟩,h6⟩,h7⟩,h8⟩:=h;refine⟨h1,h2,h3,fun y hy=>(h6 y hy).1,h4,h5,fun y hy hf=>?_,h7,fun i y j hi hj=>?_⟩
 ·rcases(h6 y hy).2 with z|z
  ·exact absurd hf z
  ·exact z
 ·have hz:(N'.zip φ)[i]?=some (y,some j):=by rw[List.getElem?_zip_eq_some];exact⟨hi,hj⟩
  have:=h8 _ (Y5 hz)
  simpa using this
section
variable {X:Cx}{pins:List (Addr×Obj)}{σ:L2.St}{H:Hp}{A:Around}{E:Value->Shared->Prop}{s:Shared}{N':List Str}{φ:List (Option Nat)}{sc:Scope}{x qual:Str}{cl:List (Str×Addr)}{f c':Addr}{body:Expr}{te:TE}{params:Arguments}{pm ctv:Value}{oc:Obj}
def Vz(φ:List (Option Nat))(σ:L2.St)(v:V):L2.St:=(atStart φ σ).set 0 (some v)
def AX{v:Value}{x1:V}{k:Int}(I:Inv X pins σ H s)(S:LamOk X N' φ sc x)(hroom:A.depth<recursionLimit)(hh:A.handled=none)(hfr:A.frames=some X.stack)(p1:∀y c,cl.lookup y=some c->X.env.cells.lookup y=some c)(p3:∀y∈sc.names,y.2=.free->∃c,cl.lookup y.1=some c)(hf:(f,kla_obj "<lambda>" qual params body sc cl pm c' ctv)∈pins)(hc:(c',oc)∈pins)(hoc:∃vs t,oc.data=.fields vs/\vs[1]?=some (.str qual t))(hbind:bindArgs (kla_fn "<lambda>" qual params body sc cl pm (.ref c') ctv) ⟨[v],[]⟩=pure [(x,v)])(hin:∀s₃ H₃,PE (lamX X N' qual sc cl f (.ref c') A s₃ H₃) body te)(r:RelV x1 v)(h:te (Vz φ σ x1) H fun y H'=>H'=H/\y=.int k) :
  wpAny (model X.prog X.w) A (call (.ref f) [v]) (fun r s''=>(∃t,r=.int k t)/\Inv X pins σ H s'') (fun _ _=>False) s:=by
 have nf:=I.pin _ (ZE _ hf);have nc:=I.pin _ (ZE _ hc);obtain⟨vs,t,hd,hq⟩:=hoc;refine wpAny_call (kla_callFunE hroom nf.1 rfl S.co S.gen rfl ⟨c',oc,vs,t,rfl,nc.1,hd,hq⟩ ?_);rw[hbind];refine Z3 (wpAny_newFunctionEnv S.nocell (by intro y hy;rw[ZJ.mp hy];exact S.par) (fun h₁ hns hsb=>?_) S.kind);have old:∀b o,s.heap.get? b=some o->h₁.get? b=some o:=fun b o g=>hsb.extBut b o (ZN (Z5 g)) (Z2 _ g);refine⟨I.nolimit.keeps old,?_⟩;show codeAny _ _ (.expr body (envX qual sc s.heap.objs.size f (.ref c') cl)) _ _;have noA:∀b:Addr,b∉(lamX X N' qual sc cl f (.ref c') A s H).ex:=fun b z=>absurd (show b∈([]:List Addr)from z) (by simp)
 have OK:(lamX X N' qual sc cl f (.ref c') A s H).Ok:=by
  refine⟨I.ok.mod,S.kind,rfl,rfl,Z4 _,fun y z c h1 h2=>I.ok.inj y z c (p1 y c h1) (p1 z c h2),fun y hy=>?_,(fun y c hx=>by cases hx),fun _=>hh,Around.frames_deeper hfr,.inr ⟨rfl,rfl⟩,fun b z=>absurd z (noA b),I.bs,ZM I.ok.bsz I.sz,fun b _ _=>noA b,fun b z=>absurd z (noA b),I.stack,I.stkFree⟩;have hy:sc.names.lookup y=some .cell\/sc.names.lookup y=some .free:=hy;rcases hy with hy|hy
  ·exact absurd rfl (S.nocell _ (Ye hy))
  ·exact p3 _ (Ye hy) rfl
 have hf0:H s.heap.objs.size=none:=I.hok.fresh (Z4 _);have hlen0:(Vz φ σ x1).length=N'.length:=by unfold Vz;rw[Yx];unfold atStart;rw[Z1];exact S.len
 have J:Inv (lamX X N' qual sc cl f (.ref c') A s H) [] (Vz φ σ x1) H {s with heap:=h₁,toks:=s.toks+([(x,v)]:List (Str×Value)).length}:=by
  refine⟨OK,rfl,I.bare,Un.kept old,⟨_,hns,fun i y w h1 h2 h3=>?_⟩,fun y c hx=>?_,hf0,fun y c hx=>I.freeC y c (p1 y c hx),fun p hp=>?_,I.hok.kept old,hlen0⟩
  ·have h1:N'[i]?=some y:=h1;unfold Vz at h2;by_cases hi:i=0
   ·subst hi;rw[S.first]at h1
    cases h1
    have e0:w=x1:=by
     rw[List.getElem?_set]at h2;rw[ZA rfl]at h2;split at h2
     ·cases h2;rfl
     ·cases h2
    subst e0;exact⟨v,r,.inl ⟨S.par,by simp⟩⟩
   ·rw[YY (fun z=>hi z.symm)]at h2;obtain⟨j,hj,hv⟩:=UW h2;obtain⟨hN,hfr⟩:=S.pick i y j h1 hj;obtain⟨m,_,hl⟩:=I.loc;have hm:(y,NameKind.free)∈sc.names:=Ye hfr;have hcell:=S.frees _ hm rfl;obtain⟨u,ru,lk⟩:=hl j y w hN hv (.inr (.inl hcell));refine⟨u,ru,.inr ⟨.inr hfr,?_⟩⟩;obtain⟨c,hc⟩:=p3 _ hm rfl;rcases lk with⟨hk,_⟩|⟨_,c1,hc1,hcl1⟩
    ·have hk':X.env.scope.names.lookup y=some .local:=hk;rw[hcell]at hk';cases hk'
    ·have e:=p1 _ _ hc;rw[hc1]at e;cases e
     obtain⟨o,ho,hd⟩:=hcl1;exact⟨_,hc,o,old _ o ho,hd⟩
  ·obtain⟨w,o,ho,hd⟩:=I.cell y c (p1 y c hx);exact⟨w,o,old _ o ho,hd⟩
  ·exact absurd hp (by simp[lamX])
 refine kla_codeExpr (Yh (hin s H [] _ _ _ _ J h) (fun u s' hq=>?_) fun _ _ z=>z.elim);obtain⟨y,H',J',ry,eH,ey⟩:=hq;subst eH;subst ey;have z:=I.after (Q:=fun y H1=>H1=H'/\y=.int k) ⟨.int k,_,J'.os,J'.bare,J'.base,J'.hok,ry,rfl,rfl⟩;obtain⟨y,H2,I2,ry2,eH2,ey2⟩:=z;subst eH2;subst ey2;exact⟨ry2,I2⟩
def NG{P c:Addr}{pos:Pos}{Q:Value->Shared->Prop}(I:Inv X (tab0 P::pins) σ H s)(T:Tabs X c P)(ne:∀p∈X.pn++pins,p.1≠P)(S:LamOk X N' φ sc x)(hdef:defaultsOf params X.env=([],[]))
  (h:∀(f c':Addr) (oc:Obj) (cl:List (Str×Addr)) (pm ctv:Value) (ps:Array Value) (s':Shared),Inv X (pins++[(P,tabObj ps)]++[(c',oc)]++[(f,kla_obj "<lambda>" (X.env.qual++"<lambda>") params body sc cl pm c' ctv)]) σ H s'->
   (∃vs t,oc.data=.fields vs/\vs[1]?=some (.str (X.env.qual++"<lambda>") t))->(∀y c,cl.lookup y=some c->X.env.cells.lookup y=some c)->(∀y∈sc.names,y.2=.free->∃c,cl.lookup y.1=some c)->Q (.ref f) s') :
  wpAny (model X.prog X.w) A (eval (.Lambda params body sc pos) X.env) Q E s:=by
 obtain⟨cl,hcl,p1,p3⟩:=Kc (env:=X.env) (sc:=sc) fun x hx hf=>I.ok.has x.1 (.inl (S.frees x hx hf));obtain⟨bm,ob,b1,b2,b3,b4,b5,b6⟩:=T.blt;have nP:=I.pin (tab0 P) (by simp);have I0:Inv X pins σ H s:=VX I fun p hp=>by simp[hp]
 refine kla_eval hdef (kla_makeFunction (mg:=X.mg) (P:=P) (c:=c) (ps:=#[]) hcl I.ok.glob (I.mod.glob.keeps I.bk) T.code (T.hd.keeps I.bk) nP.1 True.intro rfl T.gne ⟨bm,ob,b1,b2,b3,b4,I.bk _ _ b5,b6⟩ fun c' ctv h' tk hx hge hlt hrec htb=>?_);have I1:Inv X pins σ H {s with heap:=h',toks:=tk}:=I0.turned (it:=P) (fun b o hb g=>hx b o hb g) nP.2.1 nP.2.2.1 (.inl T.ex) (I.ok.exf P T.ex).2 ne
 have fP:FpOk X pins H P:=⟨nP.2.1,nP.2.2.1,nP.2.2.2.1,.inl T.ex,(I.ok.exf P T.ex).2,ne⟩;have I1:=V0 I1 fP (o:=tabObj (#[]++#[rawInt pos.line,rawInt pos.col,.ref c'])) htb fun w z=>by cases z
 have hPc:P≠c':=ZN (ZO (Z5 nP.1) hge);have fc:FpOk X (pins++[(P,tabObj (#[]++#[rawInt pos.line,rawInt pos.col,.ref c']))]) H c':=Ju (I0.fpOk hge (I0.hok.fresh hge)) hPc;have ff:FpOk X (pins++[(P,tabObj (#[]++#[rawInt pos.line,rawInt pos.col,.ref c']))]) H h'.objs.size:=I1.fpOk (Z4 _) (I1.hok.fresh (Z4 _));obtain⟨c₂,oc,vs,t,e2,hoc,hd,hv⟩:=hrec;cases e2
 have I2:=I1.kept (h':=h'.push (kla_obj "<lambda>" (X.env.qual++"<lambda>") params body sc cl ((X.mg "__name__").getD .none) c' ctv)) (t':=tk) fun b o g=>Z2 _ g;have I3:=V0 I2 fc (o:=oc) (Z2 _ hoc) fun w z=>by rw[hd]at z;cases z
 have I4:=V0 I3 (Ju ff (ZN hlt)) (o:=kla_obj "<lambda>" (X.env.qual++"<lambda>") params body sc cl ((X.mg "__name__").getD .none) c' ctv) (Z9 _ rfl) fun w z=>by cases z
 exact h _ c' oc cl _ ctv _ _ I4 ⟨vs,t,hd,hv⟩ p1 p3
end
def PEl(X:Cx)(P:Addr)(e:Expr)(t:TE):Prop:=
 ∀(pins:List (Addr×Obj)) (s:Shared) (σ:L2.St) (H:Hp) (Q:VK),(∀p∈X.pn++pins,p.1≠P)->Inv X (tab0 P::pins) σ H s->t σ H Q->wpAny (model X.prog X.w) X.A (eval e X.env) (fun u s'=>∃ps,EP X ((P,tabObj ps)::pins) σ Q u s') X.xe s
def PSl(X:Cx)(P:Addr)(st:Stmt)(t:TS):Prop:=
 ∀(pins:List (Addr×Obj)) (s:Shared) (σ:L2.St) (H:Hp) (D:Ends),(∀p∈X.pn++pins,p.1≠P)->Inv X (tab0 P::pins) σ H s->t D σ H->wpAny (model X.prog X.w) X.A (exec st X.env) (fun f s'=>∃ps,SP X ((P,tabObj ps)::pins) D f s') X.xe s
def PSsl(X:Cx)(P:Addr)(st:List Stmt)(t:TS):Prop:=
 ∀(pins:List (Addr×Obj)) (s:Shared) (σ:L2.St) (H:Hp) (D:Ends),(∀p∈X.pn++pins,p.1≠P)->Inv X (tab0 P::pins) σ H s->t D σ H->wpAny (model X.prog X.w) X.A (execs st X.env) (fun f s'=>∃ps,SP X ((P,tabObj ps)::pins) D f s') X.xe s
def Nh(K:Za)(φ:List (Option Nat))(te:TE)(t:TA):TE:=fun σ H Q=>t σ H fun vs H1=>∃(l:Addr) (us:List V) (kz:List Int),vs=[.ref l]/\SqL K H1 l us/\us.length<64/\kz.length=us.length/\
 (∀(i:Nat) u k,us[i]?=some u->kz[i]?=some k->te (Vz φ σ u) H1 fun y H'=>H'=H1/\y=.int k)/\
 ∀(D:Addr) (ps:List (Int×V)),H1 D=none->ps.Perm (kz.zip us)->ps.Pairwise (fun p q=>p.1<=q.1)->Q (.ref D) (upd H1 D (.lst (ps.map Prod.snd)))
section
variable {X:Cx}{P c:Addr}{N':List Str}{φ:List (Option Nat)}{sc:Scope}{x:Str}{params:Arguments}{body e a b:Expr}{es:List Expr}{te t ta tb:TE}{tl tr:TA}{u:TS}{pos p1 lpos kpos:Pos}{k:Nat}{st:Stmt}{rest:List Stmt}{v w:TS}
def A0(T:Tabs X c P)(hr:Room k X.A)(S:LamOk X N' φ sc x)(hg:Gl X "sorted")(hm:X.mg "sorted"=none)(ha:PA X [a] tl)(hbind:∀qual cl pm c' ctv v,bindArgs (kla_fn "<lambda>" qual params body sc cl pm (.ref c') ctv) ⟨[v],[]⟩=pure [(x,v)])(hin:∀qual cl f cv A s₃ H₃,PE (lamX X N' qual sc cl f cv A s₃ H₃) body te)(hdef:defaultsOf params X.env=([],[]):=by rfl)(he:starEach [a] X.env=[(false,eval a X.env)]:=by rfl) :
  PEl X P (.Call (.Name "sorted" p1) [a] [⟨some "key",.Lambda params body sc lpos,kpos⟩] pos) (Nh X.K φ te tl):=by
 intro pins s σ H Q ne I h;refine Wk (VI I hg hm boot_sorted ?_ (by decide) (by decide));refine callWith_kw (e:=a) (rest:=[]) (thn (ha pos (tab0 P::pins) s σ H _ I h) fun us s1 ⟨vs,H1,I1,r1,q1⟩=>?_) (by show backTo pos (starEach [a] X.env)=_;rw[he];rfl) (by rw[he];rfl);obtain⟨l,xs,kz,rfl,hl,h64,hlen,turn,fin⟩:=q1;obtain⟨u1,rfl,ru⟩:=r1.one;obtain rfl:u1=Value.ref l:=ru;obtain⟨its,ri,hp,_⟩:=I1.list hl;show wpAny _ _ (evalAll [do let v ←eval (.Lambda params body sc lpos) X.env;standAt pos;pure v]) _ _ _
 unfold evalAll;refine Z0 (Z0 (NG I1 T ne S hdef fun f c' oc cl pm ctv pt s2 I2 hoc q1 q3=>?_));refine Z0 (wpAny_standAt (Z3 (Z0 (Yu (Z3 (Z3 ?_))))));show wpAny _ _ (call (.builtin "sorted") [.ref l] [(Str.ofString "key",.ref f)]) _ _ _;obtain⟨its2,ri2,hp2,_⟩:=I2.list hl;refine BC I2 hp2 ri2 hlen h64 (fun i v1 kk pins' s' hv hk hsub I'=>?_) fun D ys ps s' hD I' h1 h2 h3=>?_
 ·obtain⟨y,hy,ry⟩:=(show ∃y,xs[i]?=some y/\RelV y v1 from by
   have hi:i<its2.length:=(ZV.mp hv).1;have hi2:i<xs.length:=by rw[ri2.length];exact hi
   obtain⟨u,hu,ru⟩:=ri2.get (Zy hi2);rw[hv]at hu;cases hu
   exact⟨_,Zy hi2,ru⟩)
  have hd:=hr.dp;exact AX (A:=X.A.in1.in1) (pm:=pm) (ctv:=ctv) (c':=c') (oc:=oc) I' S (by show X.A.depth<_;omega) hr.hd I'.ok.frames q1 q3 (hsub _ (by simp)) (hsub _ (by simp)) hoc (hbind _ _ _ _ _ _) (fun s₃ H₃=>hin _ _ _ _ _ s₃ H₃) ry (turn i y kk hy hk)
 ·subst h2
  exact⟨pt,.ref D,_,VX I' fun p hp=>by
   rcases ZL.mp hp with rfl|hp
   ·simp
   ·simp[hp],rfl,fin D ps hD h1 h3⟩
end
section
variable {X:Cx}{P c:Addr}{pins pins':List (Addr×Obj)}{e a b:Expr}{es:List Expr}{te t ta tb:TE}{tc:TT}{u:TS}{pos:Pos}{st:Stmt}{ss rest:List Stmt}{v w:TS}{D:Ends}
def Sv(h:PSs X ss u):PSsl X P ss u:=fun pins s σ H D _ I q=>thn (h _ s σ H D I q) fun _ _ z=>⟨#[],z⟩
def JJ(h1:PS X st v)(h2:PSsl X P rest u):PSsl X P (st::rest) (tSeq v u):=by
 intro pins s σ H D ne I h;refine YZ (thn (h1 _ s σ H {D with nx:=u D} I h) fun f s1 q=>?_)
 cases f with
 |next=>
  obtain⟨σ',H',I',q⟩:=q;exact h2 pins s1 σ' H' D ne I' q
 |ret v=>exact⟨#[],q⟩
 |brk=>exact⟨#[],q⟩
 |cont=>exact⟨#[],q⟩
def Bx(h1:PSl X P st v)(h2:PSs X rest u):PSsl X P (st::rest) (Tg v u):=by
 intro pins s σ H D ne I h;obtain⟨J,h,k⟩:=h;refine YZ (thn (h1 pins s σ H {D with nx:=J} ne I h) fun f s1 ⟨ps,q⟩=>?_)
 cases f with
 |next=>
  obtain⟨σ',H',I',q⟩:=q;exact thn (h2 _ s1 σ' H' D I' (k _ _ q)) fun _ _ z=>⟨ps,z⟩
 |ret v=>exact⟨ps,q⟩
 |brk=>exact⟨ps,q⟩
 |cont=>exact⟨ps,q⟩
def Sq(h1:PSl X P st v):PSsl X P [st] v:=by
 intro pins s σ H D ne I h;refine YZ (thn (h1 pins s σ H D ne I h) fun f s1 ⟨ps,q⟩=>?_);cases f with
 |next=>exact Wf ⟨ps,q⟩
 |ret v=>exact⟨ps,q⟩
 |brk=>exact⟨ps,q⟩
 |cont=>exact⟨ps,q⟩
def AN{c:Expr}{a b:List Stmt}(hc:PT X c tc)(ha:PSsl X P a v)(hb:PSsl X P b w):PSl X P (.If c a b pos) (tIfS tc v w):=by
 intro pins s σ H D ne I h;refine wpAny_If (thn (hc _ s σ H _ I h) fun d s1 ⟨H1,I1,q1⟩=>?_);cases d with
 |true=>exact ha pins s1 σ H1 D ne I1 q1
 |false=>exact hb pins s1 σ H1 D ne I1 q1
def Al{x:Str}{pos':Pos}(i:Nat)(hN:X.N.Nodup)(he:PEl X P e te)(hi:X.N[i]?=some x:=by rfl)(hx:Loc X.env.scope x:=by first|exact Or.inl rfl|exact Or.inr rfl)(hs:swapsWith e (some (.Name x pos')) pos.line X.env=pure false:=by rfl)(hf:X.fn x=true\/X.env.scope.names.lookup x=some .local:=by first|exact .inl rfl|exact .inr rfl|assumption) :
  PSl X P (.Assign [.Name x pos'] e pos) (tAsg te (Vw i)):=by
 intro pins s σ H D ne I h;refine wpAny_Assign_Name (thn (he pins s σ H _ ne I h) fun v s1 ⟨ps,y,H1,I1,r1,q1⟩=>?_) hs;exact JN I1 hN hi hx r1 (fun s2 I2=>⟨ps,_,H1,I2,q1⟩) hf
end
def LawT(P:Program)(w:World)(K:Frag)(mg:Str->Option Value)(base:Heap)(k:Nat)(f:Addr)(fd:FuncData)(x:Str)(sp:Sp)(Pl:Addr):Prop:=
 ∀(A:Around) (s:Shared) (H:Hp) (args:Args) (u:Value) (v:V) (Q:VK),Room k A->Env0 P w K mg base A [] s H->s.heap.get? Pl=some (tabObj #[])->H Pl=none->base.get? Pl=none->BindsTo s fd args [(x,u)]->RelV v u->sp [v] H Q (fun _ _ _=>False)->
  codeAny (model P w) A (.call (.ref f) args) (fun r s'=>∃u v H' ps,r=.ok (.ret u)/\s'.os=s.os/\AllBare s'.gens/\Un [] [Pl] H H' s.heap s'.heap/\HOk P w H' s'.heap/\RelV v u/\Q v H'/\s'.heap.get? Pl=some (tabObj ps)) s
abbrev lawX(P:Program)(w:World)(K:Frag)(mg:Str->Option Value)(base:Heap)(N:List Str)(qual:Str)(scope:Scope)(f:Addr)(cd:Value)(A:Around)(s:Shared)(H:Hp)(Pl:Addr):Cx:=
 { (cxOf CX0 P w K mg base N qual scope f cd A [] s H (fun _ _ _=>False)).nox with ex:=[Pl]}
section
variable {P:Program}{w:World}{K:Frag}{mg:Str->Option Value}{base:Heap}{N ps:List Str}{qual x:Str}{scope:Scope}{f:Addr}{cd:Value}{A:Around}{s s1:Shared}{H:Hp}{us:List Value}{vs:List V}{Pl c:Addr}
def Cs(S:FnScope N ps scope)(hd:A.handled=none)(e0:Env0 P w K mg base A [] s H)(hl:vs.length=ps.length)(r:Vals vs us)(hT:s.heap.get? Pl=some (tabObj #[]))(hH:H Pl=none)(hb:base.get? Pl=none)(y:InCallC s s.heap.objs.size (bindL (envOfC qual scope s.heap.objs.size f cd).kindOf (ps.zip us) fun _=>none) (cellsFrom (s.heap.objs.size+1) scope.names []) (bindC (envOfC qual scope s.heap.objs.size f cd).kindOf (ps.zip us) fun _=>none) s1) :
  Inv (lawX P w K mg base N qual scope f cd A s H Pl) [tab0 Pl] (start N vs) H s1:=by
 have I:=(Xj (CX:=CX0) (E:=fun _ _ _=>False) S hd e0 hl r y).wish fun _ _=>False;obtain⟨h1,tk,rfl,hk⟩:=y.done;have hlt:=Z5 hT;have o:=I.ok;have nofs:∀b,b∉(lawX P w K mg base N qual scope f cd A s H Pl).fs:=fun b z=>absurd (show b∈([]:List Addr)from z) (by simp)
 have exm:∀{b},b∈(lawX P w K mg base N qual scope f cd A s H Pl).ex->b=Pl:=fun {b} z=>ZJ.mp (show b∈[Pl]from z)
 have cne:∀x c,(envOfC qual scope s.heap.objs.size f cd).cells.lookup x=some c->c≠Pl:=fun x c h z=>by
  have:=y.above x c (Ye h)
  rw[z]at this;exact Yt _ (YW hlt this)
 refine⟨⟨o.mod,o.kind,o.glob,o.blt,o.above,o.inj,o.has,o.cab,o.hd,o.frames,o.stk,fun b z=>?_,o.bs,o.bsz,fun b q hq z=>?_,fun b z=>nofs b,o.funs,o.frf⟩,I.os,I.bare,?_,I.loc,I.cell,I.free,I.freeC,fun p hp=>?_,I.hok,I.len⟩
 ·rw[exm z];exact⟨ZN hlt,cne⟩
 ·rw[exm z]at hq;have hq:base.get? Pl=some q:=hq;rw[hb]at hq;cases hq
 ·exact I.base.mono (fun _ z=>z) fun b z=>absurd (show b∈([]:List Addr)from z) (by simp)
 ·have e:p=tab0 Pl:=by
   have:p∈([]++[tab0 Pl]:List (Addr×Obj)):=hp
   simpa using this
  subst e;exact⟨hk _ _ hT,hH,ZN hlt,nofs _,fun v z=>by cases z⟩
def UB{name:Str}{params:Arguments}{body:List Stmt}{dV kV doc pm ct oc:Value}{an od:Option Addr}{osl:Array (Option Value)}{k:Nat}{sp:Sp}(lk:K.lookup f=some ⟨oc,od,.func (PySem.W.fnOf name qual params body scope dV kV doc pm an cd ct),osl⟩)(hcd:PySem.W.codeIn K cd qual=true)(S:FnScope N [x] scope)(hc:cd=.ref c)(hC:CodeHd base c Pl)(hB:base.BuiltinsAt mg Pl)(hgP:mainGlobals≠Pl)
  (hbody:∀(A:Around) (s:Shared) (H:Hp) (v:V) (Q:VK),Room k (A.deeper (envOfC qual scope s.heap.objs.size f cd))->Tabs (lawX P w K mg base N qual scope f cd A s H Pl) c Pl->sp [v] H Q (fun _ _ _=>False)->
   ∃t,PSsl (lawX P w K mg base N qual scope f cd A s H Pl) Pl body t/\t {nx:=fun _ H'=>Q .non H',rt:=Q} (start N [v]) H) :
  LawT P w K mg base (k+1) f (PySem.W.fnOf name qual params body scope dV kV doc pm an cd ct) x sp Pl:=by
 intro A s H args u v Q hr e0 hT hH hb hbd r hsp;have KX:K.In s.heap:=e0.mod.kin.keeps fun b o e=>(e0.bs b o e).1;have lim:s.heap.NoLimit:=e0.mod.nolimit.keeps fun b o e=>(e0.bs b o e).1
 have hkind:∀y∈[(x,u)],scope.names.lookup y.1=some .local\/(scope.names.lookup y.1=some .cell/\((cellsFrom (s.heap.objs.size+1) scope.names []).lookup y.1).isSome=true):=fun y hy=>by
  rw[ZJ.mp hy];rcases S.par x (by simp)with q|q
  ·exact .inl q
  ·exact .inr ⟨q,Wv _ _ _ (.inl q)⟩
 refine codeAny_call_function hr.depth (KX _ _ lk) rfl S.co S.gen rfl (PySem.W.codeRec_of KX hcd) (hbd _ _ _ _ ?_);refine wpAny_newFunctionEnv_cells S.kind hkind fun env he s1 y=>?_;subst he;refine⟨lim.keeps y.toInCall.keep,codeAny_func ?_⟩;have T:Tabs (lawX P w K mg base N qual scope f cd A s H Pl) c Pl:=⟨hc,hC,hgP,hB,ZJ.mpr rfl⟩;obtain⟨t,ht,hq⟩:=hbody A s H v Q (hr.deeper _) T hsp;have I:=Cs (ps:=[x]) (us:=[u]) (vs:=[v]) S hr.hd e0 rfl (.cons r .nil) hT hH hb y;refine Yh (ht [] s1 (start N [v]) H _ (fun p hp=>by simp[lawX,cxOf]at hp) I hq) (fun fl s' hs=>?_) fun e s' hs=>False.elim hs
 have fin:∀{σ':L2.St} {H':Hp} {v:V} {u:Value} {pt:Array Value},Inv (lawX P w K mg base N qual scope f cd A s H Pl) [(Pl,tabObj pt)] σ' H' s'->RelV v u->Q v H'->
   ∃u' v H' ps,(Except.ok (Flow.ret u):Result)=.ok (.ret u')/\s'.os=s.os/\AllBare s'.gens/\Un [] [Pl] H H' s.heap s'.heap/\HOk P w H' s'.heap/\RelV v u'/\Q v H'/\s'.heap.get? Pl=some (tabObj ps):=
  fun {σ' H' v u pt} J rv q=>⟨u,v,H',pt,rfl,J.os,J.bare,J.base,J.hok,rv,q,(J.pin (Pl,tabObj pt) (by simp)).1⟩
 obtain⟨pt,hs⟩:=hs;cases fl with
 |ret u=>
  obtain⟨v,σ',H',J,rv,q⟩:=hs;exact fin J rv q
 |next=>
  obtain⟨σ',H',J,q⟩:=hs;exact fin (v:=V.non) (u:=Value.none) J rfl q
 |brk=>
  obtain⟨_,_,_,q⟩:=hs;exact False.elim q
 |cont=>
  obtain⟨_,_,_,q⟩:=hs;exact False.elim q
end
def F1{P:Program}{w:World}{K:Frag}{mg mb:Str->Option Value}{k:Nat}{fa a Pl c:Addr}{fd:FuncData}{x:Str}{sp:Sp}{s₁:Shared}{vs:List Value}{ns:List Int}(KX:K.In s₁.heap)(hns:s₁.heap.Ns mainGlobals mg)(hb:s₁.heap.Ns builtinsNs mb)(hbb:∀x:Str,x≠"__name__"->mb x=bootBuiltins x)(hlim:s₁.heap.NoLimit)(hg:s₁.gens=#[])(hbm:∃bm ob,mg "__builtins__"=some (.ref bm)/\bm≠builtinsNs/\s₁.heap.get? bm=some ob/\ob.cls=.type "module"/\ob.dict=some builtinsNs/\ob.data=.plain)(hT:s₁.heap.get? Pl=some (tabObj #[]))(hKP:K.lookup Pl=none)(hC:codeHdIn K c Pl=true)(ha:s₁.heap.get? a=some {cls:=.type "list",data:=.seq vs.toArray})(hi:IntsAre vs ns)(hl:ns.length<=sizeLine)(hr:Room k callerA)(F:∀base:Heap,K.In base->base.Ns mainGlobals mg->CodeHd base c Pl->base.BuiltinsAt mg Pl->mainGlobals≠Pl->LawT P w K mg base k fa fd x sp Pl)(hbind:∀(s:Shared) (u:Value),BindsTo s fd ⟨[u],[]⟩ [(x,u)])(hsp:∀H:Hp,Only H->SqL K H a (ns.map V.int)->sp [.ref a] H (fun v _=>v=.bl true) fun _ _ _=>False) :
  codeAny (model P w) callerA (.call (.ref fa) ⟨[.ref a],[]⟩) (fun r s'=>r=.ok (.ret (.bool true))/\OldK s₁.heap s'.heap/\s'.os=s₁.os/\AllBare s'.gens) s₁:=by
 have rv:=JF hi;have lenV:=hi.length;have haP:a≠Pl:=fun z=>by rw[z,hT]at ha;cases ha
 obtain⟨bm,ob,b1,b2,b3,b4,b5,b6⟩:=hbm
 have core:∀H:Hp,Only H->SqL K H a (ns.map V.int)->HOk P w H s₁.heap->(∀b,H b≠none->b=a)->(H a≠none->K.lookup a=none)->
   codeAny (model P w) callerA (.call (.ref fa) ⟨[.ref a],[]⟩) (fun r s'=>r=.ok (.ret (.bool true))/\OldK s₁.heap s'.heap/\s'.os=s₁.os/\AllBare s'.gens) s₁:=by
  intro H hO hS hok hA hK
  have hHP:H Pl=none:=by
   cases q:H Pl with
   |none=>rfl
   |some u=>exact absurd (hA Pl (by rw[q];simp)) haP.symm
  have hide:∀{b:Addr},b≠Pl->H b=none->upd H Pl (.tbl #[]) b=none:=fun {b} n e=>by rw[Qh n];exact e
  have base_of:∀{b:Addr} {o:Obj},s₁.heap.get? b=some o->b≠Pl->H b=none->(hidT s₁.heap (upd H Pl (.tbl #[]))).get? b=some o:=fun e n q=>FM e (hide n q)
  have notA:∀{b:Addr} {o:Obj},s₁.heap.get? b=some o->(∀e n,o.data≠.seq e n)->H b=none:=fun {b o} e d=>by
   cases q:H b with
   |none=>rfl
   |some u=>
    have e':b=a:=hA b (by rw[q];simp);subst e';rw[ha]at e;cases e;exact absurd rfl (d _ _)
  have notP:∀{b:Addr} {o:Obj},s₁.heap.get? b=some o->(∀e,o.data≠.fields e)->b≠Pl:=fun {b o} e d z=>by
   rw[z,hT]at e;cases e;exact absurd rfl (d _)
  have nsK:∀{b:Addr} {m:Str->Option Value},s₁.heap.Ns b m->(hidT s₁.heap (upd H Pl (.tbl #[]))).Ns b m:=fun {b m} ⟨o,es,ep,e,d,r⟩=>
   ⟨o,es,ep,base_of e (notP e fun _ z=>by rw[d]at z;cases z) (notA e fun _ _ z=>by rw[d]at z;cases z),d,r⟩
  have hKb:K.In (hidT s₁.heap (upd H Pl (.tbl #[]))):=fun b o e=>base_of (KX b o e) (fun z=>by rw[z,hKP]at e;cases e) (by
   cases q:H b with
   |none=>rfl
   |some u=>
    have e':b=a:=hA b (by rw[q];simp);subst e';rw[hK (by rw[q];simp)]at e;cases e)
  have hM:Mod K mg (hidT s₁.heap (upd H Pl (.tbl #[]))):=⟨hKb,nsK hns,⟨mb,nsK hb,hbb⟩,let ⟨mc,h1,h2⟩:=hlim;⟨mc,nsK h1,h2⟩⟩
  have bP:∀{b:Addr} {o:Obj},(hidT s₁.heap (upd H Pl (.tbl #[]))).get? b=some o->b≠Pl:=fun {b o} e z=>by
   have:=(UC e).2
   rw[z,Qn]at this;cases this
  have e0:Env0 P w K mg (hidT s₁.heap (upd H Pl (.tbl #[]))) callerA [] s₁ H:=⟨rfl,hM,fun b o e=>⟨(UC e).1,by have:=(UC e).2;rw[Qh (bP e)]at this;exact this⟩,YA (Fz _ _),trivial,fun b hb=>absurd (show b∈([]:List Addr)from hb) (by simp),hok,.of_eq hg⟩
  have hC':CodeHd (hidT s₁.heap (upd H Pl (.tbl #[]))) c Pl:=codeHd_of_K hKb hC;have hC1:CodeHd s₁.heap c Pl:=codeHd_of_K KX hC
  have hgP:mainGlobals≠Pl:=by
   obtain⟨o,es,ep,e,d,_⟩:=hns;exact notP e fun _ z=>by rw[d]at z;cases z
  have hgB:bm≠mainGlobals:=fun z=>by
   obtain⟨o,es,ep,e,d,_⟩:=hns;rw[z,e]at b3;cases b3;rw[d]at b6;cases b6
  have hbP:bm≠Pl:=notP b3 fun _ z=>by rw[b6]at z;cases z
  have hB:(hidT s₁.heap (upd H Pl (.tbl #[]))).BuiltinsAt mg Pl:=⟨bm,ob,b1,b2,hgB,hbP,base_of b3 hbP (notA b3 fun _ _ z=>by rw[b6]at z;cases z),b4,b5,b6⟩
  have hbn:(hidT s₁.heap (upd H Pl (.tbl #[]))).get? Pl=none:=by
   cases q:(hidT s₁.heap (upd H Pl (.tbl #[]))).get? Pl with
   |none=>rfl
   |some o=>exact absurd rfl (bP q)
  refine Wj (F _ hKb (nsK hns) hC' hB hgP callerA s₁ H ⟨[.ref a],[]⟩ (.ref a) (.ref a) _ hr e0 hT hHP hbn (hbind s₁ (.ref a)) rfl (hsp H hO hS)) fun r s' h=>?_;obtain⟨u,v,H',pt,rfl,os,bare,un,hok',r',q,hP'⟩:=h;have q':v=.bl true:=q;subst q';obtain rfl:u=Value.bool true:=r';refine⟨rfl,⟨fun b o e=>?_,fun b o e=>?_⟩,os,bare⟩
  ·by_cases hbP:b=Pl
   ·subst hbP;rw[hT]at e;cases e;exact .inr (.inl ⟨(hC1.tab hT).isCodeTable,rfl,#[],pt,rfl,by rw[hP'];simp⟩)
   ·refine .inl ?_;cases q:H b with
    |none=>exact un.keep b o e q (by intro z;exact absurd (show b∈([]:List Addr)from z) (by simp)) (by simpa using hbP)
    |some u=>
     rcases hO b with z|⟨ob,xs,z⟩
     ·rw[q]at z;cases z
     ·have z2:=un.frzs b ob _ z;obtain⟨e1,_⟩:=hok b _ z;obtain⟨e2,_⟩:=hok' b _ z2;rw[e]at e1;cases e1;exact e2
  ·by_cases hbP:b=Pl
   ·exact⟨_,by rw[hbP];exact hP'⟩
   ·exact un.there b o e (by simpa using hbP)
 cases hk:K.lookup a with
 |some o=>
  have e:=KX a o hk;rw[ha]at e;cases e
  refine core (fun _=>none) (fun _=>.inl rfl) (.inr ⟨_,vs.toArray,_,hk,rfl,rfl,rfl,by rw[Z7,lenV];exact hl,by simpa using rv⟩) (fun b u z=>by have z':(none:Option HO)=some u:=z;cases z') (fun b z=>absurd rfl z) fun z=>absurd rfl z
 |none=>
  refine core (fun b=>if b=a then some (.frz {cls:=.type "list",data:=.seq vs.toArray} (.lst (ns.map V.int)))else none) (fun b=>?_) (.inl (.inr ⟨{cls:=.type "list",data:=.seq vs.toArray},ZA rfl⟩)) (fun b u z=>?_) (fun b z=>?_) fun _=>hk
  ·by_cases hb:b=a
   ·exact .inr ⟨_,_,ZA hb⟩
   ·exact .inl (Z8 hb)
  ·by_cases hb:b=a
   ·have z':=(ZA hb).symm.trans z;cases z'
    subst hb;exact⟨ha,by rw[Z1];exact hl,vs,_,rv,ha⟩
   ·have z':=(Z8 hb).symm.trans z;cases z'
  ·by_cases hb:b=a
   ·exact hb
   ·exact absurd (Z8 hb) z
def Ac{l:PySem.W.OpenLaw}{n k:Nat}{q:Program}{loose:List Str}{XP:(Str->Option Value)->Heap->Prop}{YP:World->Heap->Prop}{d:DefRec}{K:Params->Za}{sp:Za->Sp}{x:Str}{Pl:Addr}(hn:l.most=some n)(hn2:n<=sizeLine)(hdf:d.params.defaults=[])(hr:Room k callerA)(hY:∀(w:World) (h:Heap),YP w h->(K w.params).In h)(hP:∀(w:World) (h:Heap),YP w h->h.get? Pl=some (tabObj #[]))
  (F:∀(w:World) (mg:Str->Option Value) (fa:Addr) (h:Heap),(K w.params).In h->h.Ns mainGlobals mg->mg d.name=some (.ref fa)->
   ∃(fd:FuncData) (c:Addr),(∀(s:Shared) (u:Value),BindsTo s fd ⟨[u],[]⟩ [(x,u)])/\(K w.params).lookup Pl=none/\codeHdIn (K w.params) c Pl=true/\
    ∀base:Heap,(K w.params).In base->base.Ns mainGlobals mg->CodeHd base c Pl->base.BuiltinsAt mg Pl->mainGlobals≠Pl->LawT l.prog w (K w.params) mg base k fa fd x (sp (K w.params)) Pl)
  (hsp:∀(K:Za) (H:Hp) (a:Addr) (ns:List Int),ns.length<=n->Only H->SqL K H a (ns.map V.int)->sp K [.ref a] H (fun v _=>v=.bl true) fun _ _ _=>False) :
  PySem.W.WalkO q loose XP YP l.row.toRowW d [] (fun f vs=>PySem.call f vs):=by
 refine Att.Bb hn hdf fun w s₀ s₁ mg mb fa o pm cd doc a vs ns G Y ho hd hcd hmg hobj hints hlen hg=>?_;have KX:=hY w _ Y;obtain⟨fd,c,hb,hKP,hC,hF⟩:=F w mg fa _ KX G.T.g hmg;exact F1 KX G.T.g G.T.b G.T.builtins G.T.nolimit hg G.T.bmain (hP w _ Y) hKP hC hobj hints (ZM hlen hn2) hr hF hb fun H hO hS=>hsp (K w.params) H a ns hlen hO hS
end Lam
namespace Lam
open PySem PySem.Spec PyProof.Rows L2 Own Pu
def Still(te:TE):Prop:=∀(σ:L2.St) (H:Hp) (Q Q':VK),te σ H Q->(∀v,Q v H->Q' v H)->te σ H Q'
def Nj(i:Nat):Still (tVar i):=fun _ _ _ _ ⟨v,e,q⟩ k=>⟨v,e,k v q⟩
def Pa(v:V):Still (tC v):=fun _ _ _ _ q k=>k v q
def FF{K:Za}{ta tb:TE}(ha:Still ta)(hb:Still tb):Still (tOp (fun x y H Q=>rIxL K x y H Q\/rIxT K x y H Q) ta tb):=fun σ H Q Q' h k=>
 ha σ H _ _ h fun x h1=>hb σ H _ _ h1 fun y h2=>h2.imp (fun⟨a,xs,i,v,e1,e2,e3,e4,q⟩=>⟨a,xs,i,v,e1,e2,e3,e4,k v q⟩) fun⟨a,xs,i,v,e1,e2,e3,e4,q⟩=>⟨a,xs,i,v,e1,e2,e3,e4,k v q⟩
def Ax{ta:TE}(ha:Still ta)(σ:L2.St)(H:Hp)(Q Q':List V->Hp->Prop)(h:Q0 ta tNil σ H Q)(k:∀v,Q v H->Q' v H):Q0 ta tNil σ H Q':=ha σ H _ _ h fun x q=>k _ q
def Sj{K:Za}{ta tb:TE}(ha:Still ta)(hb:Still tb):Still (tBM K "list" (Jt K) ta (Q0 tb tNil)):=fun σ H Q Q' h k=>
 ha σ H _ _ h fun x ⟨h0,h1⟩=>⟨h0,Ax hb σ H _ _ h1 fun vs ⟨a,xs,z,e1,e2,e3,e4,q⟩=>⟨a,xs,z,e1,e2,e3,e4,k _ q⟩⟩
def Cm{ta tb:TE}(ha:Still ta)(hb:Still tb):Still (tOp (rI0 fun i j=>.int (i-j)) ta tb):=fun σ H Q Q' h k=>
 ha σ H _ _ h fun x h1=>hb σ H _ _ h1 fun y ⟨i,j,e1,e2,q⟩=>⟨i,j,e1,e2,k _ q⟩
section
variable {K:Za}{mg:Str->Option Value}{E:L2.St->XK}{H0 H H':Hp}{B:Addr->Prop}{σ:L2.St}{γ:Γ}{φ:List (Option Nat)}
def Cq(env:EnvR K H0 B H σ γ)(hφ:(φ.filterMap id).Nodup):EnvR K H0 (zof B γ σ) H (atStart φ σ) (atP φ γ):=by
 have hz:∀b,zof (zof B γ σ) (atP φ γ) (atStart φ σ) b->zof B γ σ b:=fun b y=>by
  rcases y with y|⟨i',ds,x,y1,y2,y3⟩
  ·exact y
  ·obtain⟨m,m1,m2⟩:=Vo y1;obtain⟨w,w1,_⟩:=env.slot m _ m2;rw[Vp m1 w1]at y2;exact .inr ⟨m,ds,x,m2,by rw[w1];exact Yd some (Z6 y2),y3⟩
 refine⟨env.same,by unfold atStart atP;simp,env.zm,fun i j a a' ds es b h1 h2 h3 h4 h5 h6=>?_,fun i s h=>?_⟩
 ·obtain⟨k,k1,k2⟩:=Vo h1;obtain⟨l,l1,l2⟩:=Vo h2;obtain⟨v,v1,_⟩:=env.slot k _ k2;obtain⟨u,u1,_⟩:=env.slot l _ l2;rw[Vp k1 v1]at h3;rw[Vp l1 u1]at h4
  have:=env.own k l a a' ds es b k2 l2 (by rw[v1];exact Yd some (Z6 h3)) (by rw[u1];exact Yd some (Z6 h4)) h5 h6
  subst this;exact J9 hφ i j k k1 l1
 ·obtain⟨k,k1,k2⟩:=Vo h;obtain⟨v,v1,v2⟩:=env.slot k _ k2;have So:Same (off (zof B γ σ) H) (off (zof (zof B γ σ) (atP φ γ) (atStart φ σ)) H):=Ql (Same.refl _) fun b _ _ z y=>z (hz b y);refine⟨v,Vp k1 v1,?_⟩;cases s with
  |bor d=>exact v2
  |sh d=>exact Rp.mono So v2
  |own ds=>
   obtain⟨a,e1,e3,e4⟩:=v2;exact⟨a,e1,e3,e4.mono So fun _ _ _ x=>x⟩
  |view ds=>exact v2
  |tmp d=>exact v2
def lamP(φ:List (Option Nat))(γ:Γ)(d:D):Γ:=(atP φ γ).set 0 (some (.sh d))
structure SortW (φ:List (Option Nat)) (γ:Γ) (a:PTE) (ss:List S) (R:S->Prop):Prop where
 w:∃(s:S) (ds:List D) (kz:List Int),ss=[s]/\s.d=.lst ds/\imms ds=true/\ds.length<64/\kz.length=ds.length/\
  (∀(i:Nat) d k,ds[i]?=some d->kz[i]?=some k->a (lamP φ γ d) (fun t=>t.d=.int k) fun _=>False)/\∀ps:List (Int×D),ps.Perm (kz.zip ds)->ps.Pairwise (fun p q=>p.1<=q.1)->R (.own (ps.map Prod.snd))
def FK(φ:List (Option Nat))(a:PTE)(r:PTA):PTE:=fun γ R X=>r γ (fun ss=>SortW φ γ a ss R) X
def Tw:∀{ds:List D}{i:Nat}{d:D},imms ds=true->ds[i]?=some d->imm d=true
 |[],_,_,_,h=>by simp at h
 |x::r,0,d,e,h=>by
  unfold imms at e;rw[Yj]at e
  have:x=d:=by simpa using h
  rw[←this];exact e.1
 |x::r,i+1,d,e,h=>by
  unfold imms at e;rw[Yj]at e;exact Tw (i:=i) e.2 (by simpa using h)
abbrev ZR(K:Za)(F:Hp)(p:Int×D)(q:Int×V):Prop:=p.1=q.1/\Rp K F p.2 q.2
def XD{F:Hp}:∀(kz:List Int) {ds:List D}{vs:List V},Rps K F ds vs->Paired (ZR K F) (kz.zip ds) (kz.zip vs)
 |[],_,_,_=>.nil
 |_::_,_,_,.nil=>.nil
 |_::kz,_,_,.cons a t=>.cons ⟨rfl,a⟩ (XD kz t)
def K0{F:Hp}:∀{qs:List (Int×D)}{ps:List (Int×V)},Paired (ZR K F) qs ps->Rps K F (qs.map Prod.snd) (ps.map Prod.snd)
 |_,_,.nil=>.nil
 |_,_,.cons a t=>.cons a.2 (K0 t)
def Xq{F:Hp}:∀{qs:List (Int×D)}{ps:List (Int×V)},Paired (ZR K F) qs ps->∀p∈qs,∃q∈ps,p.1=q.1
 |_,_,.cons a t,p,h=>by
  rcases ZL.mp h with rfl|h
  ·exact⟨_,ZK,a.1⟩
  ·obtain⟨q,h1,h2⟩:=Xq t p h;exact⟨q,ZH _ h1,h2⟩
def TM{F:Hp}:∀{qs:List (Int×D)}{ps:List (Int×V)},Paired (ZR K F) qs ps->ps.Pairwise (fun p q=>p.1<=q.1)->qs.Pairwise fun p q=>p.1<=q.1
 |_,_,.nil,_=>.nil
 |_,_,.cons a t,h=>by
  obtain⟨h1,h2⟩:=ZU.mp h;refine ZU.mpr ⟨fun p hp=>?_,TM t h2⟩;obtain⟨q,hq,e⟩:=Xq t p hp;rw[a.1,e];exact h1 q hq
def Cj{te:TE}{ta:TA}{a:PTE}{r:PTA}(hs:Still te)(he:SndE K mg (fun _ _ _ _=>False) te a)(hr:SndA K mg E ta r)(h1:(φ.filterMap id).Nodup:=by decide):SndE K mg E (Nh K φ te ta) (FK φ a r):=by
 intro H0 B H σ γ R X Q env p q qx;refine hr H0 B H σ γ _ X _ env p (fun ss vs H1 hw S1 t1=>?_) qx;obtain⟨s,ds,kz,rfl,ed,im,h64,hlen,turn,fin⟩:=hw.w;obtain⟨v,rfl,tv⟩:=t1.one_inv;have env1:=env.grow S1;have rv:=tv.rp env1.same;rw[ed]at rv;obtain⟨l,us,rfl,hl,rp⟩:=rv.lst_inv;have ro:Rps K (off (zof B γ σ) H1) ds us:=Rps.off env1.zm rp im;refine⟨l,us,kz,rfl,SqL.of hl,by rw[rp.len];exact h64,by rw[rp.len];exact hlen,fun i u k hu hk=>?_,fun D ps nD hp hw=>?_⟩
 ·obtain⟨d,hd,rd⟩:=rp.getV hu;have e0:=Cq (φ:=φ) env1 h1;have im1:=Tw im hd;obtain⟨e1,_⟩:=e0.set (i:=0) (s:=.sh d) (s':=.sh d) (v:=u) (Same.refl _) (Rp.off e0.zm rd im1) rfl;refine hs _ _ _ _ (he H0 _ H1 (Vz φ σ u) (lamP φ γ d) _ _ (fun v _=>v=.int k) e1 (turn i d k hd hk) (fun t w H2 ht S2 tw=>?_) fun _ _ z=>z.elim) fun w hw=>⟨rfl,hw⟩;have rw':=tw.rp (e1.same.trans S2);rw[ht]at rw';exact rw'.int_inv
 ·obtain⟨qs,hq,rq⟩:=KZ hp (kz.zip ds) (XD kz ro);exact q _ _ _ (fin qs hq (TM rq hw)) (S1.trans (Qy nD)) (Vs S1 nD (K0 rq))
end
def LawC(P:Program)(w:World)(K:Za)(mg:Str->Option Value)(base:Heap)(k:Nat)(st:Stmt)(sp:Sp):Prop:=
 ∀(f:Addr) (fd:FuncData) (c Pl:Addr),Fun K "law" "law" st f fd->fd.code=.ref c->PySem.W.CodeHd base c Pl->base.BuiltinsAt mg Pl->mainGlobals≠Pl->LawT P w K mg base k f fd "_law_script" sp Pl
def Cd{P:Program}{w:World}{K:Za}{mg:Str->Option Value}{base:Heap}{N:List Str}{sp:Sp}{p:PTS}{st:Stmt}{k:Nat}(S:FnScope N ["_law_script"] (Qg st))
  (tr:∀(f:Addr) (cdv:Value) (c Pl:Addr) (A:Around) (s:Shared) (H:Hp),Room k (A.deeper (envOfC "law" (Qg st) s.heap.objs.size f cdv))->Tabs (lawX P w K mg base N "law" (Qg st) f cdv A s H Pl) c Pl->
   ∃t,PSsl (lawX P w K mg base N "law" (Qg st) f cdv A s H Pl) Pl (QC st) t/\SndS K mg (fun _ _ _ _=>False) t p) (u:Uz K mg N ["_law_script"] sp p):LawC P w K mg base (k+1) st sp:=by
 intro f fd c Pl F hc hC hB hgP;obtain⟨oc,od,kV,doc,pm,an,cdv,ct,osl,rfl,lk,hcd⟩:=F.ex;exact UB lk hcd S hc hC hB hgP fun A s H v Q hr T hsp=>(tr f cdv c Pl A s H hr T).elim fun t z=>⟨t,z.1,u.run _ _ _ _ _ hsp z.2⟩
def LawT.imp {P:Program}{w:World}{K:Za}{mg:Str->Option Value}{base:Heap}{k:Nat}{f:Addr}{fd:FuncData}{x:Str}{sp sp':Sp}{Pl:Addr} (F:LawT P w K mg base k f fd x sp Pl) (h:∀vs H Q E,sp' vs H Q E->sp vs H Q E):LawT P w K mg base k f fd x sp' Pl:=
 fun A s H args u v Q hr e0 hT hH hb hbd r hsp=>F A s H args u v Q hr e0 hT hH hb hbd r (h _ _ _ _ hsp)
open M
def Pp:∀ps:List (Int×Int),imms (ps.map prD)=true
 |[]=>rfl
 |q::r=>by
  rw[ZG];unfold imms;rw[Pp r];rfl
def SN{kz:List Int}{ps:List (Int×Int)}(hl:kz.length=ps.length){qs:List (Int×D)}(h:qs.Perm (kz.zip (ps.map prD))):∃rs:List (Int×Int),rs.Perm ps/\qs.map Prod.snd=rs.map prD:=by
 have h2:=h.map Prod.snd;rw[List.map_snd_zip (by rw[Z1];omega)]at h2
 have un:∀d:D,d∈ps.map prD->prD ((match d with | .tup [.int a,.int b]=>(a,b)|_=>(0,0)):Int×Int)=d:=fun d hd=>by
  obtain⟨q,_,rfl⟩:=YB.mp hd;rfl
 refine⟨(qs.map Prod.snd).map fun d=>((match d with | .tup [.int a,.int b]=>(a,b)|_=>(0,0)):Int×Int),?_,?_⟩
 ·have h3:=h2.map fun d=>((match d with | .tup [.int a,.int b]=>(a,b)|_=>(0,0)):Int×Int)
  rw[Y0 (l:=ps)]at h3
  have e:((fun d=>((match d with | .tup [.int a,.int b]=>(a,b)|_=>(0,0)):Int×Int))∘prD)=id:=by
   funext q;rfl
  rw[e,List.map_id]at h3;exact h3
 ·rw[Y0];have e:∀d∈qs.map Prod.snd,(prD∘fun d=>((match d with | .tup [.int a,.int b]=>(a,b)|_=>(0,0)):Int×Int)) d=d:=fun d hd=>un d (h2.mem_iff.mp hd)
  rw[YN e];simp
def PK{ps qs:List (Int×Int)}(h1:Field ps)(h2:Field qs)(h:qs.Perm ps):Qo qs=Qo ps:=by
 have hp:(Qo qs).Perm (Qo ps):=by
  refine(Wc ((V9 qs).imp fun h=>WK h) ((V9 ps).imp fun h=>WK h)).mpr fun a=>?_;rw[J6 h2,J6 h1];exact(h.map _).mem_iff
 exact KB (.refl _) hp ((V9 qs).imp Int.le_of_lt)
end Lam
namespace T
open PySem PySem.Spec PyProof.Rows L2
def top(i:Nat):Stmt:=PySem.Challenge.pw_stripmeld_k15_moves_told.main.body.getD i (.Pass ⟨0,0,0,0⟩)
abbrev U3:Stmt:=top 4
def FQ:FnScope ["strips"] ["strips"] (Qg U3):=Pu.fs
abbrev UH:Stmt:=top 5
def Bc:FnScope ["strips","order"] ["strips","order"] (Qg UH):=Pu.fs
abbrev Ub:Stmt:=top 7
def Az:FnScope ["strips"] ["strips"] (Qg Ub):=Pu.fs
abbrev Uj:Stmt:=top 8
def Uh:FnScope ["strips","numbers","place","left","right"] ["strips","numbers","place"] (Qg Uj):=Pu.fs
abbrev Ul:Stmt:=top 9
def Bf:FnScope ["numbers","place"] ["numbers","place"] (Qg Ul):=Pu.fs
abbrev UY:Stmt:=top 10
def X9:FnScope ["numbers","ranks","place"] ["numbers","ranks"] (Qg UY):=Pu.fs
abbrev U1:Stmt:=top 11
def V8:FnScope ["strips","order","ranks","numbers","moves","place"] ["strips","order"] (Qg U1):=Pu.fs
abbrev Xh:Stmt:=top 13
def Br:FnScope ["_law_script","_law_k"] ["_law_script","_law_k"] (Qg Xh):=Pu.fs
abbrev Xa:Stmt:=top 14
def Sx:FnScope ["_law_found"] ["_law_found"] (Qg Xa):=Pu.fs
abbrev Ur:Stmt:=top 15
def T6:FnScope ["_law_cell","_law_place","_law_first"] ["_law_cell","_law_place"] (Qg Ur):=Pu.fs
abbrev Ux:Stmt:=top 16
def AB:FnScope ["_law_script","_law_k"] ["_law_script","_law_k"] (Qg Ux):=Pu.fs
abbrev U8:Stmt:=top 17
def Ud:FnScope ["_law_cell","_law_wide","_law_least"] ["_law_cell"] (Qg U8):=Pu.fs
abbrev UI:Stmt:=top 18
def SK:FnScope ["_law_menu_here","_law_k"] ["_law_menu_here","_law_k"] (Qg UI):=Pu.fs
abbrev UU:Stmt:=top 19
def Jh:FnScope ["_law_script","_law_menu_here","_law_many","_law_strips_here","_law_k","_law_cell","_law_width"] ["_law_script","_law_menu_here","_law_many"] (Qg UU):=Pu.fs
abbrev Uk:Stmt:=top 20
def Tp:FnScope ["_law_found","_law_due","_law_k"] ["_law_found","_law_due"] (Qg Uk):=Pu.fs
abbrev JY:Stmt:=top 21
def Uw:FnScope ["_law_found","_law_due","_law_k","_law_j"] ["_law_found","_law_due"] (Qg JY):=Pu.fs
abbrev Xd:Stmt:=top 22
def Nn:FnScope ["_law_strips_here","_law_owners"] ["_law_strips_here"] (Qg Xd):=Pu.fs
abbrev Uv:Stmt:=top 23
def VJ:FnScope ["_law_strips_here","_law_order","_law_ranks","_law_total","_law_k","_law_j"] ["_law_strips_here","_law_order"] (Qg Uv):=Pu.fs
abbrev Um:Stmt:=top 24
def Ji:FnScope ["_law_holders","_law_cell","_law_left","_law_order","_law_rest"] ["_law_holders","_law_cell"] (Qg Um):=Pu.fs
abbrev UA:Stmt:=top 25
def UM:FnScope ["_law_strips_here","_law_order","_law_numbers","_law_holder_here"] ["_law_strips_here","_law_order"] (Qg UA):=Pu.fs
abbrev UN:Stmt:=top 26
def Jl:FnScope ["_law_strips_here","_law_order","_law_many","_law_k","_law_j"] ["_law_strips_here","_law_order"] (Qg UN):=Pu.fs
abbrev U9:Stmt:=top 27
def JK:FnScope ["_law_move","_law_numbers","_law_strips_here","_law_ranks","_law_part","_law_place","_law_k"] ["_law_move","_law_numbers","_law_strips_here","_law_ranks"] (Qg U9):=Pu.fs
abbrev JX:Stmt:=top 28
def V2:FnScope ["_law_told","_law_strips_here","_law_order","_law_ranks","_law_numbers","_law_met","_law_total","_law_move"] ["_law_told","_law_strips_here","_law_order"] (Qg JX):=Pu.fs
abbrev Vj:Stmt:=top 29
def Vf:FnScope ["_law_script","_law_menu_here","_law_strips_here","_law_how","_law_order","_law_handed","_law_named","_law_found","_law_end"] ["_law_script"] (Qg Vj):=Pu.fs
structure Glob (K:Za) (mg:Str->Option Value):Prop where
 bool:mg "bool"=none
 int:mg "int"=none
 isinstance:mg "isinstance"=none
 len:mg "len"=none
 list:mg "list"=none
 range:mg "range"=none
 set:mg "set"=none
 sorted:mg "sorted"=none
 tuple:mg "tuple"=none
 m_BadOrder:mg "BadOrder"=some (.ref (ExcR.Q4 mg "BadOrder"))
 g_BadOrder:ExcR.ErrGet K (ExcR.Q4 mg "BadOrder")
end T
namespace M
open PySem PySem.Spec PyProof.Rows L2 Own Pu
def PM(_:Za):Sp:=fun vs H Q _=>∃(l:Addr) (ps:List (Int×Int)),vs=[.ref l]/\LAt PairR H l ps/\Field ps/\ps.length<=50/\
 ∀(q:Addr) (H':Hp),H q=none->Same H H'->H' q=some (.lst ((Qo ps).map V.int))->Q (.ref q) H'
def XC:Pc:=fun ds R _=>∃ps:List (Int×Int),ds=[.lst (ps.map prD)]/\Field ps/\ps.length<=50/\R (.own ((Qo ps).map D.int))
def B6{P:Program}{w:World}{K:Za}{mg:Str->Option Value}{base:Heap}(C:Callee P w K mg base CX0 1 "holders_of" ["strips"] (PM K)):Callee P w K mg base CX0 1 "holders_of" ["strips"] (Pu.spOf mg XC K):=QX C fun ds R X vs H Q E r hc hQ hX=>by
 obtain⟨ps,rfl,hF,hz,hR⟩:=hc;obtain⟨v,rfl,r1⟩:=r.one_inv;obtain⟨a,rfl,ha⟩:=r1.pairs_inv;exact⟨a,ps,rfl,ha,hF,hz,fun q H' nq S h=>hQ _ _ H' hR S (J8 nq h)⟩
def Sf:Pc:=fun ds R _=>∃ps:List (Int×Int),ds=[.lst (ps.map prD)]/\ps.length<=1000/\R (.own ((runI 1 ps.length).map D.int))
def NB:Pc:=fun ds R _=>∃(ps:List (Int×Int)) (ns:List Int) (p:Int),ds=[.lst (ps.map prD),.lst (ns.map D.int),.int p]/\Field ps/\(∀n∈ns,1<=n/\n<=ps.length)/\1<=p/\p<ns.length/\R (.sh (.int (exM ps ns p.toNat)))
def BL:Pc:=fun ds R _=>∃(ns:List Int) (p:Int),ds=[.lst (ns.map D.int),.int p]/\1<=p/\p<ns.length/\ns.length<=1000/\R (.own ((Qs ns p.toNat).map D.int))
def Cw:Pc:=fun ds R _=>∃ns rs:List Int,ds=[.lst (ns.map D.int),.lst (rs.map D.int)]/\(∀m∈ns,1<=m/\m<=rs.length)/\ns.length<=1000/\∀p:Nat,FW (ns.map fun m=>rs.getD (m-1).toNat 0) p->R (.sh (.int p))
def UQ(K:Za):Sp:=fun vs H Q _=>∃(a:Addr) (ns:List Int) (k:Int),vs=[.ref a,.int k]/\SqL K H a (ns.map V.int)/\0<=k/\Q (.int (ns.getD k.toNat 0)) H
def X0:Pc:=fun ds R _=>∃(ns:List Int) (k:Int),ds=[.scr ns,.int k]/\0<=k/\R (.sh (.int (ns.getD k.toNat 0)))
def CI{P:Program}{w:World}{K:Za}{mg:Str->Option Value}{base:Heap}(C:Callee P w K mg base CX0 1 "_law_at" ["_law_script","_law_k"] (UQ K)):Callee P w K mg base CX0 1 "_law_at" ["_law_script","_law_k"] (Pu.spOf mg X0 K):=QX C fun ds R X vs H Q E r hc hQ hX=>by
 obtain⟨ns,k,rfl,hk,hR⟩:=hc;obtain⟨v,u,rfl,r1,r2⟩:=r.two_inv;obtain⟨a,rfl,hS⟩:=r1.scr_inv;rw[r2.int_inv];exact⟨a,ns,k,rfl,hS,hk,hQ _ _ H hR (Same.refl _) (.int _)⟩
def Js(_:Za):Sp:=fun vs H Q _=>∃i:Int,vs=[.int i]/\Q (.bl true) H
def KN:Pc:=fun ds R _=>∃i:Int,ds=[.int i]/\R (.sh (.bl true))
def FN{P:Program}{w:World}{K:Za}{mg:Str->Option Value}{base:Heap}(C:Callee P w K mg base CX0 1 "_law_whole" ["_law_found"] (Js K)):Callee P w K mg base CX0 1 "_law_whole" ["_law_found"] (Pu.spOf mg KN K):=QX C fun ds R X vs H Q E r hc hQ hX=>by
 obtain⟨i,rfl,hR⟩:=hc;obtain⟨v,rfl,r1⟩:=r.one_inv;rw[r1.int_inv];exact⟨i,rfl,hQ _ _ H hR (Same.refl _) (.bl _)⟩
def mix(c p:Int):Int:=((c % 2147483647+7919*p+1)*48271 % 2147483647+104729*p+11)*69621 % 2147483647
def TB(_:Za):Sp:=fun vs H Q _=>∃c p:Int,vs=[.int c,.int p]/\Q (.int (mix c p)) H
def V4(c:Int):List Int:=[1+c % 10,[1,3,7,9].getD (c / 10 % 4).toNat 0,c / 40 % 10,[1000,3,1,2,3].getD (c / 400 % 5).toNat 0,[1,1,1,1,998].getD (c / 400 % 5).toNat 0]
def Xx(_:Za):Sp:=fun vs H Q _=>∃c:Int,vs=[.int c]/\∀(l:Addr) (H':Hp),H l=none->Same H H'->H' l=some (.lst ((V4 c).map V.int))->Menu (V4 c)->Q (.ref l) H'
def UP{xs:List Int}{i:Int}(h0:0<=i)(h:i<xs.length):atI (xs.map V.int) i=some (.int (xs.getD i.toNat 0)):=by
 apply QZ (f:=V.int);apply Jn h0;rw[Zz,Zy (show i.toNat<xs.length by omega)];rfl
def Fx(c:Int):Menu (V4 c):=by
 have h1:0<=c / 10 % 4/\c / 10 % 4<4:=by omega
 have h2:0<=c / 400 % 5/\c / 400 % 5<5:=by omega
 refine⟨_,_,_,_,_,rfl,by omega,?_,by omega,?_,?_⟩
 ·have:c / 10 % 4=0\/c / 10 % 4=1\/c / 10 % 4=2\/c / 10 % 4=3:=by omega
  rcases this with e|e|e|e<;>rw[e]<;>decide
 ·have:c / 400 % 5=0\/c / 400 % 5=1\/c / 400 % 5=2\/c / 400 % 5=3\/c / 400 % 5=4:=by omega
  rcases this with e|e|e|e|e<;>rw[e]<;>decide
 ·have:c / 400 % 5=0\/c / 400 % 5=1\/c / 400 % 5=2\/c / 400 % 5=3\/c / 400 % 5=4:=by omega
  rcases this with e|e|e|e|e<;>rw[e]<;>decide
def TR:Pc:=fun ds R _=>∃c:Int,ds=[.int c]/\(Menu (V4 c)->R (.own ((V4 c).map D.int)))
def S9{P:Program}{w:World}{K:Za}{mg:Str->Option Value}{base:Heap}(C:Callee P w K mg base CX0 1 "_law_menu" ["_law_cell"] (Xx K)):Callee P w K mg base CX0 1 "_law_menu" ["_law_cell"] (Pu.spOf mg TR K):=QX C fun ds R X vs H Q E r hc hQ hX=>by
 obtain⟨c,rfl,hR⟩:=hc;obtain⟨v,rfl,r1⟩:=r.one_inv;rw[r1.int_inv];exact⟨c,rfl,fun l H' nl S h hM=>hQ _ _ H' (hR hM) S (J8 nl h)⟩
def UZ(m:List Int)(k:Int):Int:=1+(k*m.getD 1 0+m.getD 2 0) % 10
def X7(K:Za):Sp:=fun vs H Q _=>∃(l:Addr) (m:List Int) (k:Int),vs=[.ref l,.int k]/\SqL K H l (m.map V.int)/\Menu m/\Q (.int (UZ m k)) H
def PQ(_:Za):Sp:=fun vs H Q _=>∃(l:Addr) (ps:List (Int×Int)),vs=[.ref l]/\LAt PairR H l ps/\ps.length<=50/\
 ∀(q:Addr) (H':Hp),H q=none->Same H H'->H' q=some (.lst ((Qo ps).map V.int))->Q (.ref q) H'
def Pz:Pc:=fun ds R _=>∃ps:List (Int×Int),ds=[.lst (ps.map prD)]/\ps.length<=50/\R (.own ((Qo ps).map D.int))
def AR{P:Program}{w:World}{K:Za}{mg:Str->Option Value}{base:Heap}(C:Callee P w K mg base CX0 1 "_law_present" ["_law_strips_here"] (PQ K)):Callee P w K mg base CX0 1 "_law_present" ["_law_strips_here"] (Pu.spOf mg Pz K):=QX C fun ds R X vs H Q E r hc hQ hX=>by
 obtain⟨ps,rfl,hz,hR⟩:=hc;obtain⟨v,rfl,r1⟩:=r.one_inv;obtain⟨a,rfl,ha⟩:=r1.pairs_inv;exact⟨a,ps,rfl,ha,hz,fun q H' nq S h=>hQ _ _ H' hR S (J8 nq h)⟩
def XG(K:Za):Sp:=fun vs H Q _=>∃(l o:Addr) (ps:List (Int×Int)) (os:List Int),vs=[.ref l,.ref o]/\LAt PairR H l ps/\Field ps/\ps.length<=50/\SqL K H o (os.map V.int)/\(∀p∈ps,p.1∈os)/\
 ∀(H':Hp),Same H H'->Q (.int (priM ps os ps.length)) H'
def T1:Pc:=fun ds R _=>∃(ps:List (Int×Int)) (os:List Int),ds=[.lst (ps.map prD),.lst (os.map D.int)]/\Field ps/\ps.length<=50/\(∀p∈ps,p.1∈os)/\R (.sh (.int (priM ps os ps.length)))
def Fw{P:Program}{w:World}{K:Za}{mg:Str->Option Value}{base:Heap}(C:Callee P w K mg base CX0 1 "_law_price" ["_law_strips_here","_law_order"] (XG K)):Callee P w K mg base CX0 1 "_law_price" ["_law_strips_here","_law_order"] (Pu.spOf mg T1 K):=QX C fun ds R X vs H Q E r hc hQ hX=>by
 obtain⟨ps,os,rfl,hF,hz,hin,hR⟩:=hc;obtain⟨v,u,rfl,r1,r2⟩:=r.two_inv;obtain⟨a,rfl,ha⟩:=r1.pairs_inv;obtain⟨l,rfl,hl⟩:=r2.ints_inv;exact⟨a,l,ps,os,rfl,ha,hF,hz,SqL.of hl,hin,fun H' S=>hQ _ _ H' hR S (.int _)⟩
def Td(K:Za):Sp:=fun vs H Q _=>∃(l:Addr) (hs:List Int) (c:Int),vs=[.ref l,.int c]/\SqL K H l (hs.map V.int)/\hs.length<=50/\
 ∀(q:Addr) (H':Hp) (os:List Int),H q=none->Same H H'->H' q=some (.lst (os.map V.int))->os.Perm hs->Q (.ref q) H'
def Kq:Pc:=fun ds R _=>∃(hs:List Int) (c:Int),ds=[.lst (hs.map D.int),.int c]/\hs.length<=50/\∀os:List Int,os.Perm hs->R (.own (os.map D.int))
def SS{P:Program}{w:World}{K:Za}{mg:Str->Option Value}{base:Heap}(C:Callee P w K mg base CX0 1 "_law_shuffled" ["_law_holders","_law_cell"] (Td K)):Callee P w K mg base CX0 1 "_law_shuffled" ["_law_holders","_law_cell"] (Pu.spOf mg Kq K):=QX C fun ds R X vs H Q E r hc hQ hX=>by
 obtain⟨hs,c,rfl,hz,hR⟩:=hc;obtain⟨v,u,rfl,r1,r2⟩:=r.two_inv;obtain⟨a,rfl,ha⟩:=r1.ints_inv;rw[r2.int_inv];exact⟨a,hs,c,rfl,SqL.of ha,hz,fun q H' os nq S h hp=>hQ _ _ H' (hR os hp) S (J8 nq h)⟩
def N4:Pc:=fun ds R _=>∃(ps:List (Int×Int)) (o:List Int),ds=[plD ps,.lst (o.map D.int)]/\ps.length<=50/\o.length<=50/\R (.own ((o.flatMap (numN ps)).map D.int))
def rowK(ps:List (Int×Int))(o:List Int):List (Int×Int):=ps.map fun q=>(((o.idxOf q.1:Nat):Int),1)
def BF:Pc:=fun ds R _=>∃(ps:List (Int×Int)) (o:List Int),ds=[plD ps,.lst (o.map D.int)]/\ps.length<=50/\(∀q∈ps,q.1∈o)/\R (.sh (.int (cntN (rkN ps o) (runI 1 ps.length))))
def N0:Pc:=fun ds R X=>∃(ps:List (Int×Int)) (os:List Int),ds=[plD ps,.lst (os.map D.int)]/\Field ps/\ps.length<=50/\os.length<64/\Fk (JC ps os) X (R (.sh .non))
def QO(ns:List Int)(k:Int):Int:=if ns.getD 0 0 % 2=0 then ns.getD (1+k).toNat 0 else mix (ns.getD 1 0) k
def UV(K:Za):Sp:=fun vs H Q _=>∃(a:Addr) (ns:List Int) (k:Int),vs=[.ref a,.int k]/\SqL K H a (ns.map V.int)/\0<=k/\Q (.int (QO ns k)) H
def Kx:Pc:=fun ds R _=>∃(ns:List Int) (k:Int),ds=[.scr ns,.int k]/\0<=k/\R (.sh (.int (QO ns k)))
def Be{P:Program}{w:World}{K:Za}{mg:Str->Option Value}{base:Heap}(C:Callee P w K mg base CX0 2 "_law_draw" ["_law_script","_law_k"] (UV K)):Callee P w K mg base CX0 2 "_law_draw" ["_law_script","_law_k"] (Pu.spOf mg Kx K):=QX C fun ds R X vs H Q E r hc hQ hX=>by
 obtain⟨ns,k,rfl,hk,hR⟩:=hc;obtain⟨v,u,rfl,r1,r2⟩:=r.two_inv;obtain⟨a,rfl,hS⟩:=r1.scr_inv;rw[r2.int_inv];exact⟨a,ns,k,rfl,hS,hk,hQ _ _ H hR (Same.refl _) (.int _)⟩
def TJ(K:Za):Sp:=fun vs H Q _=>∃(l l':Addr) (xs:List Int),vs=[.ref l,.ref l']/\H l=some (.lst (xs.map V.int))/\SqL K H l' (xs.map V.int)/\xs.length<=1000000/\Q (.bl true) H
def Tx:Pc:=fun ds R _=>∃xs:List Int,ds=[.lst (xs.map D.int),.lst (xs.map D.int)]/\xs.length<=1000000/\R (.sh (.bl true))
def Bw{P:Program}{w:World}{K:Za}{mg:Str->Option Value}{base:Heap}(C:Callee P w K mg base CX0 2 "_law_row" ["_law_found","_law_due"] (TJ K)):Callee P w K mg base CX0 2 "_law_row" ["_law_found","_law_due"] (Pu.spOf mg Tx K):=QX C fun ds R X vs H Q E r hc hQ hX=>by
 obtain⟨xs,rfl,hz,hR⟩:=hc;obtain⟨v,u,rfl,r1,r2⟩:=r.two_inv;obtain⟨a,rfl,ha⟩:=r1.ints_inv;obtain⟨l,rfl,hl⟩:=r2.ints_inv;exact⟨a,l,xs,rfl,ha,SqL.of hl,hz,hQ _ _ H hR (Same.refl _) (.bl _)⟩
def K6(_:Za):Sp:=fun vs H Q _=>∃(l l':Addr) (ps:List (Int×Int)),vs=[.ref l,.ref l']/\LAt PairR H l ps/\LAt PairR H l' ps/\ps.length<=1000000/\Q (.bl true) H
def Th:Pc:=fun ds R _=>∃ps:List (Int×Int),ds=[.lst (ps.map prD),.lst (ps.map prD)]/\ps.length<=1000000/\R (.sh (.bl true))
def Aj{P:Program}{w:World}{K:Za}{mg:Str->Option Value}{base:Heap}(C:Callee P w K mg base CX0 2 "_law_tuples" ["_law_found","_law_due"] (K6 K)):Callee P w K mg base CX0 2 "_law_tuples" ["_law_found","_law_due"] (Pu.spOf mg Th K):=QX C fun ds R X vs H Q E r hc hQ hX=>by
 obtain⟨ps,rfl,hz,hR⟩:=hc;obtain⟨v,u,rfl,r1,r2⟩:=r.two_inv;obtain⟨a,rfl,ha⟩:=r1.pairs_inv;obtain⟨l,rfl,hl⟩:=r2.pairs_inv;exact⟨a,l,ps,rfl,ha,hl,hz,hQ _ _ H hR (Same.refl _) (.bl _)⟩
def A1:Pc:=fun ds R _=>∃(ps:List (Int×Int)) (ns rs:List Int) (p:Nat),ds=[mvD ((p:Int),ns.getD (p-1) 0,ns.getD p 0,exM ps ns p),.lst (ns.map D.int),plD ps,.lst (rs.map D.int)]/\Field ps/\ns.length<=100/\(∀m∈ns,1<=m/\m<=ps.length)/\rs.length=ps.length/\FW (ns.map fun m=>rs.getD (m-1).toNat 0) p/\p≠0/\R (.sh (.bl true))
def NR:Pc:=fun ds R _=>∃(ps:List (Int×Int)) (o:List Int),ds=[plD ps,.lst (o.map D.int)]/\Field ps/\ps.length<=40/\o.Perm (Qo ps)/\∀ms:List Mo,Mv ps (rkN ps o) (runI 1 ps.length) ms->R (.own (ms.map mvD))
def stripM(ns m:List Int)(k:Nat):Int×Int:=(UZ m (QO ns (2+(k:Int)) % m.getD 0 0),m.getD 4 0+QO ns (2+(k:Int)) / m.getD 0 0 % m.getD 3 0)
def Ve(ns m:List Int)(n:Nat):List (Int×Int):=(List.range n).map (stripM ns m)
def X8(K:Za):Sp:=fun vs H Q _=>∃(a l:Addr) (ns m:List Int) (n:Int),vs=[.ref a,.ref l,.int n]/\SqL K H a (ns.map V.int)/\SqL K H l (m.map V.int)/\Menu m/\0<=n/\n<=1000/\
 ∀(p:Addr) (H':Hp),H p=none->Same H H'->LAt PairR H' p (Ve ns m n.toNat)->Q (.ref p) H'
def BJ(ns m:List Int)(k:Nat):Ve ns m (k+1)=Ve ns m k++[stripM ns m k]:=by
 unfold Ve;rw[Wh,ZX];rfl
def Xv(ns m:List Int)(k:Nat):(Ve ns m k).length=k:=by simp[Ve]
def Bk{ns m:List Int}(hM:Menu m)(k:Nat):1<=(stripM ns m k).1/\(stripM ns m k).1<=10/\1<=(stripM ns m k).2/\(stripM ns m k).2<=1000:=by
 obtain⟨a,b,c,d,e,rfl,ha,hb,hc,hd,he⟩:=hM;show 1<=1+(_*b+c) % 10/\1+(_*b+c) % 10<=10/\1<=e+_ / a % d/\e+_ / a % d<=1000;have h1:=Int.emod_nonneg (QO ns (2+(k:Int)) / a) (show d≠0 by omega);have h2:=Int.emod_lt_of_pos (QO ns (2+(k:Int)) / a) (show 0<d by omega);omega
def NT{ns m:List Int}(hM:Menu m)(k:Nat):Field (Ve ns m k):=by
 intro q hq;obtain⟨j,_,rfl⟩:=YB.mp hq;exact Bk hM j
def PU:Pc:=fun ds R _=>∃(ns m:List Int) (n:Int),ds=[.scr ns,.lst (m.map D.int),.int n]/\Menu m/\0<=n/\n<=1000/\R (.own ((Ve ns m n.toNat).map prD))
def Bm{P:Program}{w:World}{K:Za}{mg:Str->Option Value}{base:Heap}(C:Callee P w K mg base CX0 3 "_law_strips" ["_law_script","_law_menu_here","_law_many"] (X8 K)):Callee P w K mg base CX0 3 "_law_strips" ["_law_script","_law_menu_here","_law_many"] (Pu.spOf mg PU K):=QX C fun ds R X vs H Q E r hc hQ hX=>by
 obtain⟨ns,m,n,rfl,hM,h0,h1,hR⟩:=hc;cases r with
 |cons r1 r=>
  obtain⟨v,u,rfl,r2,r3⟩:=r.two_inv;obtain⟨a,rfl,hS⟩:=r1.scr_inv;obtain⟨l,rfl,hl⟩:=r2.ints_inv;rw[r3.int_inv];exact⟨a,l,ns,m,n,rfl,hS,SqL.of hl,hM,h0,h1,fun p H' np S h=>hQ _ _ H' hR S (F4 np S h)⟩
def CD:Pc:=fun ds R _=>∃(ps:List (Int×Int)) (o:List Int) (ms:List Mo),ds=[.lst (ms.map mvD),plD ps,.lst (o.map D.int)]/\Field ps/\ps.length<=40/\(∀q∈ps,q.1∈o)/\Mv ps (rkN ps o) (runI 1 ps.length) ms/\ms.length<=2000/\
 ∀(ns:List Int) (c:Int),QT ps (ms.map (·.1)) (runI 1 ps.length,0)=some (ns,c)->ns.Perm (runI 1 ps.length)->FW (ns.map (rkN ps o)) 0->(ns.Pairwise fun x y=>rkN ps o x=rkN ps o y->x<y)->invL (keyL ps (rkN ps o) (runI 1 ps.length))=c->R (.own (.lst [.int c,.lst (ns.map D.int)]))
variable (P:Program) (w:World) (K:Za) (mg:Str->Option Value) (base:Heap)
abbrev N5:Prop:=Callee P w K mg base CX0 1 "holders_of" ["strips"] (Pu.spOf mg XC K)
abbrev KS:Prop:=Callee P w K mg base CX0 1 "own_numbers" ["strips"] (Pu.spOf mg Sf K)
abbrev TX:Prop:=Callee P w K mg base CX0 1 "exchange_cost" ["strips","numbers","place"] (Pu.spOf mg NB K)
abbrev Nk:Prop:=Callee P w K mg base CX0 1 "exchanged" ["numbers","place"] (Pu.spOf mg BL K)
abbrev Xz:Prop:=Callee P w K mg base CX0 1 "first_wrong_place" ["numbers","ranks"] (Pu.spOf mg Cw K)
abbrev FT:Prop:=Callee P w K mg base CX0 1 "_law_at" ["_law_script","_law_k"] (Pu.spOf mg X0 K)
abbrev Ab:Prop:=Callee P w K mg base CX0 1 "_law_whole" ["_law_found"] (Pu.spOf mg KN K)
abbrev Ak:Prop:=Callee P w K mg base CX0 1 "_law_menu" ["_law_cell"] (Pu.spOf mg TR K)
abbrev BE:Prop:=Callee P w K mg base CX0 1 "_law_present" ["_law_strips_here"] (Pu.spOf mg Pz K)
abbrev B3:Prop:=Callee P w K mg base CX0 1 "_law_price" ["_law_strips_here","_law_order"] (Pu.spOf mg T1 K)
abbrev NM:Prop:=Callee P w K mg base CX0 1 "_law_shuffled" ["_law_holders","_law_cell"] (Pu.spOf mg Kq K)
abbrev P9:Prop:=Callee P w K mg base CX0 1 "_law_ends" ["_law_strips_here","_law_order"] (Pu.spOf mg N4 K)
abbrev Kf:Prop:=Callee P w K mg base CX0 1 "_law_turned" ["_law_strips_here","_law_order"] (Pu.spOf mg BF K)
abbrev TZ:Prop:=Callee P w K mg base (ExcR.CXe P w) 2 "check_order" ["strips","order"] (Pu.spOf mg N0 K)
abbrev Ci:Prop:=Callee P w K mg base CX0 2 "_law_draw" ["_law_script","_law_k"] (Pu.spOf mg Kx K)
abbrev SX:Prop:=Callee P w K mg base CX0 2 "_law_row" ["_law_found","_law_due"] (Pu.spOf mg Tx K)
abbrev Nw:Prop:=Callee P w K mg base CX0 2 "_law_tuples" ["_law_found","_law_due"] (Pu.spOf mg Th K)
abbrev Tq:Prop:=Callee P w K mg base CX0 2 "_law_good_move" ["_law_move","_law_numbers","_law_strips_here","_law_ranks"] (Pu.spOf mg A1 K)
abbrev Kn:Prop:=Callee P w K mg base CX0 3 "told_moves" ["strips","order"] (Pu.spOf mg NR K)
abbrev Nv:Prop:=Callee P w K mg base CX0 3 "_law_strips" ["_law_script","_law_menu_here","_law_many"] (Pu.spOf mg PU K)
abbrev Pj:Prop:=Callee P w K mg base CX0 3 "_law_walked" ["_law_told","_law_strips_here","_law_order"] (Pu.spOf mg CD K)
abbrev Sz(st:Stmt):Prop:=Lam.LawC P w K mg base 4 st (Pu.spOf mg Nf K)
end M
namespace M
open PySem PySem.Spec PyProof.Rows L2 Own Pu
def Jx{α:Type}{xs:List α}{i:Nat}{d:α}(h:i<xs.length):xs.getD i d=xs[i]:=by rw[Zz,Zy h];rfl
def PY{α:Type}{xs:List α}{i:Nat}{d:α}(h:i<xs.length):xs.getD i d=xs[i]:=by rw[Zz,Zy h];rfl
def Ca{ns:List Int}{p:Int}(h1:1<=p)(h2:p<ns.length){b1:p.toNat<ns.length}{b2:(p-1).toNat<ns.length}:cutD (ns.map D.int) none (some (p-1))++[D.int ns[p.toNat],D.int ns[(p-1).toNat]]++cutD (ns.map D.int) (some (p+1)) none=(Qs ns p.toNat).map D.int:=by
 unfold Qs;rw[Tn,Tn,Fc ns (by omega),AE ns (by omega),ZX,ZX];have e1:p.toNat-1=(p-1).toNat:=by omega
 have e2:p.toNat+1=(p+1).toNat:=by omega
 rw[e1,e2,PY b1,PY b2];rfl
def BU(ps:List (Int×Int))(o:List Int):(o.flatMap (numN ps)).length<=o.length*ps.length:=by
 induction o with
 |nil=>simp
 |cons h r ih=>
  rw[List.flatMap_cons,Yi,Y1,Nat.add_mul]
  have:=Pk ps h
  omega
def Su(ps:List (Int×Int))(o:List Int):cntN (rkN ps o) (runI 1 ps.length)=invL (rowK ps o):=by
 unfold cntN rowK runI rkN hdN;congr 1;rw[Y0];refine WI (by simp) fun i h1 h2=>?_;have hi:i<ps.length:=by simpa using h2
 simp only[WJ,List.getElem_range,Function.comp];rw[show((1:Int)+(i:Int)-1).toNat=i by omega,Zz,Zy hi];rfl
end M
namespace T
open PySem PySem.Spec PyProof.Rows L2 Own M
section
variable {P:Program}{w:World}{K:Za}{mg:Str->Option Value}{base:Heap}
def Ai(G:Glob K mg)(D:Def K mg "holders_of" U3 ["strips"])
  : Callee P w K mg base CX0 1 "holders_of" ["strips"] (PM K):=by
 refine D.ok (k:=0) FQ (fun vs H Q E h=>?_) (fun f cdv A outer s H vs Q E hr h=>?_)
 ·obtain⟨l,ps,rfl,⟨vs,hl,hv⟩,hF,hz,q⟩:=h;rfl
 ·obtain⟨l,ps,rfl,⟨vs,hl,hv⟩,hF,hz,q⟩:=h;refine⟨_,(Qd (Qj (Qt (KJ rfl) (by rfl) G.sorted boot_sorted (WZ (VP (Ar rfl) (by rfl) G.set boot_set (WZ (Jm (N':=["holder","width"]) (φ:=[none,none]) rfl (Own.CompOk.of (by rfl)) (JH (pv 0)) (fun _ _ _ _ _=>⟨(Nr (K:=K) (n:=2) rfl (JS (QN (i:=0) (show(["holder","width"]:List Str).Nodup from by decide +kernel) rfl (by first|exact Or.inl rfl|exact Or.inr rfl)) (JS (QN (i:=1) (show(["holder","width"]:List Str).Nodup from by decide +kernel) rfl (by first|exact Or.inl rfl|exact Or.inr rfl)) K2))),VC,(pv 0)⟩)) Qe)) Qe)))),?_⟩
  have e1:=hv.1;refine⟨_,rfl,l,rfl,⟨_,SqL.of hl⟩,fun D nD=>Uo (ds:=ps) (fun d=>some (V.int d.1)) (SqL.of hl) e1 nD (ZM hz (by decide)) (fun i x d H2 hx hd S k hk=>?_) ?_⟩
  ·obtain⟨d',hd',a,rfl,ha⟩:=hv.get hx;rw[hd]at hd';cases hd'
   exact⟨a,_,rfl,SqT.of (S _ _ ha),rfl,_,_,rfl,_,_,rfl,rfl,.skip (.skip .refl),_,rfl,hk⟩
  ·have em:ps.filterMap (fun d=>some (V.int d.1))=(ps.map (·.1)).map V.int:=by
    rw[Y9,Y0];rfl
   rw[em];have S1:Same H (upd H D (.lst ((ps.map (·.1)).map V.int))):=Qy nD;refine⟨D,ps.map (·.1),rfl,SqL.of Qn,by rw[Z1];omega,fun s1 n1=>?_⟩;have S2:=Own.Same.new (o:=SetH w s1 ((ps.map (·.1)).foldl SetR.addJ [])) S1 n1;refine⟨s1,_,rfl,?_,.inr Qn,fun r ns n2 hp hs=>?_⟩
   ·have:=Ko (ps.map (·.1)) []
    rw[Z1]at this;simp at this ⊢;omega
   ·rw[A5 hF hp hs];exact q r _ (S2.free n2) (Own.Same.new S2 n2) Qn
def A7(G:Glob K mg)(D:Def K mg "_law_at" Xh ["_law_script","_law_k"])
  : Callee P w K mg base CX0 1 "_law_at" ["_law_script","_law_k"] (UQ K):=by
 refine D.ok (k:=0) Br (fun vs H Q E h=>?_) (fun f cdv A outer s H vs Q E hr h=>?_)
 ·obtain⟨a,ns,k,rfl,hS,hk,q⟩:=h;rfl
 ·obtain⟨a,ns,k,rfl,hS,hk,q⟩:=h
  refine⟨_,(Qc (Qz (Q6 Km (pv 1) (Qt QF (by rfl) G.len Yc (WZ (pv 0) Qe)) (Qx _))
   (Qd (Qj (Qm Qp (pv 0) (pv 1) (fun _ _=>rfl))))
   Qw)
   (Qd (Qj WY))),?_⟩
  refine⟨_,rfl,_,rfl,_,_,rfl,.inl ⟨_,hS,rfl⟩,_,_,rfl,rfl,_,rfl,?_⟩;refine ite2 (fun h=>?_) (fun h=>?_)
  ·have h':k<((ns.map V.int).length:Int):=Yg h;rw[Z1]at h';have hn:k.toNat<ns.length:=by omega
   refine⟨_,rfl,_,rfl,.inl ⟨_,_,_,.int (ns.getD k.toNat 0),rfl,rfl,hS,Jn hk ?_,q⟩⟩;rw[ZC,Zz,Zy hn];rfl
  ·have h':¬k<((ns.map V.int).length:Int):=fun z=>h (ZF z);rw[Z1]at h'
   have e:ns.getD k.toNat 0=0:=by
    rw[Zz,List.getElem?_eq_none_iff.mpr (by omega)];rfl
   rw[e]at q;exact q
def N8(G:Glob K mg)(D:Def K mg "_law_whole" Xa ["_law_found"])
  : Callee P w K mg base CX0 1 "_law_whole" ["_law_found"] (Js K):=by
 refine D.ok (k:=0) Sx (fun vs H Q E h=>?_) (fun f cdv A outer s H vs Q E hr h=>?_)
 ·obtain⟨i,rfl,q⟩:=h;rfl
 ·obtain⟨i,rfl,q⟩:=h;refine⟨_,(Qd (Qj (PX (Qt VR (by rfl) G.isinstance YF (WZ (pv 0) (WZ (V1 (v:=.ty "int") rfl G.int boot_int rfl) Qe))) (TY (SH (Qt VR (by rfl) G.isinstance YF (WZ (pv 0) (WZ (V1 (v:=.ty "bool") rfl G.bool boot_bool rfl) Qe)))))))),?_⟩;refine⟨_,rfl,_,_,_,_,rfl,.int _,Je _ _,_,rfl,iteT ?_⟩;exact⟨_,rfl,_,_,_,_,rfl,.int _,BA _,_,rfl,q⟩
def Ce(G:Glob K mg)(D:Def K mg "_law_mix" Ur ["_law_cell","_law_place"])
  : Callee P w K mg base CX0 1 "_law_mix" ["_law_cell","_law_place"] (TB K):=by
 refine D.ok (k:=0) T6 (fun vs H Q E h=>?_) (fun f cdv A outer s H vs Q E hr h=>?_)
 ·obtain⟨c,p,rfl,q⟩:=h;rfl
 ·obtain⟨c,p,rfl,q⟩:=h
  refine⟨_,(Qc (Pu.pz 2 T6.nd (Qa QA (Qa Vn (Qa Q7 (Qa Q7 (Qa QA (pv 0) WY) (Qa Vn WY (pv 1))) WY) WY) WY))
   (Qd (Qj (Qa QA (Qa Vn (Qa Q7 (Qa Q7 (pv 2) (Qa Vn WY (pv 1))) WY) WY) WY)))),?_⟩
  refine⟨_,rfl,_,_,rfl,rfl,(by show(0:Int)<2147483647;decide),_,rfl,_,_,rfl,rfl,.inl ⟨by decide,by decide⟩,_,_,rfl,rfl,_,_,rfl,rfl,_,_,rfl,rfl,.inr ⟨by decide,by decide⟩,_,_,rfl,rfl,(by show(0:Int)<2147483647;decide),?_⟩;refine⟨_,rfl,_,rfl,_,_,rfl,rfl,.inl ⟨by decide,by decide⟩,_,_,rfl,rfl,_,_,rfl,rfl,_,_,rfl,rfl,.inr ⟨by decide,by decide⟩,_,_,rfl,rfl,(by show(0:Int)<2147483647;decide),?_⟩;exact q
def Fd(G:Glob K mg)(D:Def K mg "_law_menu" U8 ["_law_cell"])
  : Callee P w K mg base CX0 1 "_law_menu" ["_law_cell"] (Xx K):=by
 refine D.ok (k:=0) Ud (fun vs H Q E h=>?_) (fun f cdv A outer s H vs Q E hr h=>?_)
 ·obtain⟨c,rfl,q⟩:=h;rfl
 ·obtain⟨c,rfl,q⟩:=h
  refine⟨_,(Qc (Pu.pz 1 Ud.nd (Qm Qp (QS (WZ WY (WZ WY (WZ WY (WZ WY (WZ WY Qe)))))) (Qa QA (Qa Vm (pv 0) WY) WY) (fun _ _=>rfl)))
   (Qc (Pu.pz 2 Ud.nd (Qm Qp (QS (WZ WY (WZ WY (WZ WY (WZ WY (WZ WY Qe)))))) (Qa QA (Qa Vm (pv 0) WY) WY) (fun _ _=>rfl)))
   (Qd (Qj (QS (WZ (Qa Q7 WY (Qa QA (pv 0) WY)) (WZ (Qm Qp (QS (WZ WY (WZ WY (WZ WY (WZ WY Qe))))) (Qa QA (Qa Vm (pv 0) WY) WY) (fun _ _=>rfl)) (WZ (Qa QA (Qa Vm (pv 0) WY) WY) (WZ (pv 1) (WZ (pv 2) Qe)))))))))),?_⟩
  have h1:0<=c / 10 % 4/\c / 10 % 4<4:=by omega
  have h2:0<=c / 400 % 5/\c / 400 % 5<5:=by omega
  refine⟨by decide,fun l1 n1=>⟨_,rfl,_,_,rfl,rfl,⟨by decide,by decide⟩,_,_,rfl,rfl,(by show(0:Int)<5;decide),.inl ⟨_,_,_,_,rfl,rfl,SqL.of Qn,UP (xs:=[1000,3,1,2,3]) h2.1 h2.2,?_⟩⟩⟩;refine⟨by decide,fun l2 n2=>⟨_,rfl,_,_,rfl,rfl,⟨by decide,by decide⟩,_,_,rfl,rfl,(by show(0:Int)<5;decide),.inl ⟨_,_,_,_,rfl,rfl,SqL.of Qn,UP (xs:=[1,1,1,1,998]) h2.1 h2.2,?_⟩⟩⟩;refine⟨_,rfl,_,_,rfl,rfl,(by show(0:Int)<10;decide),_,_,rfl,rfl,by decide,fun l3 n3=>⟨_,rfl,_,_,rfl,rfl,⟨by decide,by decide⟩,_,_,rfl,rfl,(by show(0:Int)<4;decide),.inl ⟨_,_,_,_,rfl,rfl,SqL.of Qn,UP (xs:=[1,3,7,9]) h1.1 h1.2,?_⟩⟩⟩;refine⟨_,rfl,_,_,rfl,rfl,⟨by decide,by decide⟩,_,_,rfl,rfl,(by show(0:Int)<10;decide),_,rfl,_,rfl,(by show 5<=sizeLine;decide),fun l4 n4=>?_⟩;have S1:Same H (upd H l1 (.lst ([1000,3,1,2,3].map V.int))):=Qy n1;have S2:=Own.Same.new (o:=.lst ([1,1,1,1,998].map V.int)) S1 n2;have S3:=Own.Same.new (o:=.lst ([1,3,7,9].map V.int)) S2 n3;have S4:=Own.Same.new (o:=.lst ((V4 c).map V.int)) S3 n4;exact q l4 _ (S3.free n4) S4 Qn (Fx c)
def BP(G:Glob K mg)(D:Def K mg "_law_holder" UI ["_law_menu_here","_law_k"])
  : Callee P w K mg base CX0 1 "_law_holder" ["_law_menu_here","_law_k"] (X7 K):=by
 refine D.ok (k:=0) SK (fun vs H Q E h=>?_) (fun f cdv A outer s H vs Q E hr h=>?_)
 ·obtain⟨l,m,k,rfl,hS,hM,q⟩:=h;rfl
 ·obtain⟨l,m,k,rfl,hS,hM,q⟩:=h;refine⟨_,(Qd (Qj (Qa Q7 WY (Qa QA (Qa Q7 (Qa Vn (pv 1) (Qm Qp (pv 0) WY (fun _ _=>rfl))) (Qm Qp (pv 0) WY (fun _ _=>rfl))) WY)))),?_⟩;obtain⟨a,b,c,d,e,rfl,ha,hb,hc,hd,he⟩:=hM;refine⟨_,rfl,_,rfl,.inl ⟨_,_,_,_,rfl,rfl,hS,rfl,?_⟩⟩;refine⟨_,_,rfl,rfl,.inr ⟨by omega,by omega⟩,_,rfl,.inl ⟨_,_,_,_,rfl,rfl,hS,rfl,?_⟩⟩;exact⟨_,_,rfl,rfl,_,_,rfl,rfl,(by show(0:Int)<10;decide),_,_,rfl,rfl,q⟩
def SE(G:Glob K mg)(D:Def K mg "_law_present" Xd ["_law_strips_here"])
  : Callee P w K mg base CX0 1 "_law_present" ["_law_strips_here"] (PQ K):=by
 refine D.ok (k:=0) Nn (fun vs H Q E h=>?_) (fun f cdv A outer s H vs Q E hr h=>?_)
 ·obtain⟨l,ps,rfl,⟨vs,hl,hv⟩,hz,q⟩:=h;rfl
 ·obtain⟨l,ps,rfl,⟨vs,hl,hv⟩,hz,q⟩:=h
  refine⟨_,(Qc (Pu.pz 1 Nn.nd (Jm (N':=["_law_strip"]) (φ:=[none]) rfl (Own.CompOk.of (by rfl)) (JH (pv 0)) (fun _ _ _ _ _=>⟨(QN (i:=0) (show(["_law_strip"]:List Str).Nodup from by decide +kernel) rfl (by first|exact Or.inl rfl|exact Or.inr rfl)),VC,(Qm (UF (K:=K)) (pv 0) WY (fun _ _=>rfl))⟩)))
   (Qd (Qj (Jm (N':=["_law_holder_here","_law_owners"]) (φ:=[none,some 1]) rfl (Own.CompOk.of (by rfl)) (Nc rfl G.range (WZ WY (WZ WY Qe))) (fun _ _ _ _ _=>⟨(QN (i:=0) (show(["_law_holder_here","_law_owners"]:List Str).Nodup from by decide +kernel) rfl (by first|exact Or.inl rfl|exact Or.inr rfl)),(P7 (Q6 (Bj (K:=K)) (pv 0) (pv 1) (by with_unfolding_all rfl))),(pv 0)⟩))))),?_⟩
  have e1:=hv.1;refine⟨_,rfl,l,rfl,⟨_,SqL.of hl⟩,fun D nD=>Uo (ds:=ps) (fun d=>some (V.int d.1)) (SqL.of hl) e1 nD (ZM hz (by decide)) (fun i x d H2 hx hd S k hk=>?_) ?_⟩
  ·obtain⟨d',hd',a,rfl,ha⟩:=hv.get hx;rw[hd]at hd';cases hd'
   exact⟨.skip .refl,_,rfl,.inr ⟨_,_,_,_,rfl,rfl,SqT.of (S _ _ ha),rfl,hk⟩⟩
  ·have em:ps.filterMap (fun d=>some (V.int d.1))=(ps.map (·.1)).map V.int:=by
    rw[Y9,Y0];rfl
   rw[em];have S1:Same H (upd H D (.lst ((ps.map (·.1)).map V.int))):=Qy nD;have hD:(upd H D (.lst ((ps.map (·.1)).map V.int))) D=some (.lst ((ps.map (·.1)).map V.int)):=Qn;generalize upd H D (.lst ((ps.map (·.1)).map V.int))=H1 at S1 hD ⊢;refine⟨1,11,rfl,by decide,fun D2 nD2=>FH (fun i=>if decide ((1:Int)+(i:Int)∈ps.map (·.1))=true then some (V.int (1+(i:Int)))else none) nD2 (by decide) (fun i H2 hi S2 k hk=>?_) ?_⟩
   ·refine⟨.skip (.keep .refl),_,rfl,_,rfl,D,_,rfl,.inl (SqL.of (S2 _ _ hD)),rfl,VA _,_,rfl,?_⟩;show if inV (V.int (1+(i:Int))) ((ps.map (·.1)).map V.int)=true then _ else _;rw[AY];by_cases h:(1:Int)+(i:Int)∈ps.map (·.1)
    ·rw[ZF h]at hk ⊢;exact iteT ⟨_,rfl,hk⟩
    ·rw[ZI h]at hk ⊢;exact iteF hk
   ·have e10:((11:Int)-1).toNat=10:=rfl;rw[e10,N3];exact q D2 _ (S1.free nD2) (Own.Same.new S1 nD2) Qn
def Af(G:Glob K mg)(D:Def K mg "_law_price" Uv ["_law_strips_here","_law_order"])
  : Callee P w K mg base CX0 1 "_law_price" ["_law_strips_here","_law_order"] (XG K):=by
 refine D.ok (k:=0) VJ (fun vs H Q E h=>?_) (fun f cdv A outer s H vs Q E hr h=>?_)
 ·obtain⟨l,o,ps,os,rfl,⟨vs,hl,hv⟩,hF,hz,ho,hin,q⟩:=h;rfl
 ·obtain⟨l,o,ps,os,rfl,⟨vs,hl,hv⟩,hF,hz,ho,hin,q⟩:=h
  refine⟨_,(Qc (UO (N':=["_law_strip","_law_order"]) (φ:=[none,some 1]) (i:=2) VJ.nd rfl rfl rfl (Own.CompOk.of (by rfl)) (JH (pv 0)) (fun _ _ _ _ _=>⟨(QN (i:=0) (show(["_law_strip","_law_order"]:List Str).Nodup from by decide +kernel) rfl (by first|exact Or.inl rfl|exact Or.inr rfl)),VC,(VN (K:=K) ZT Yn Yv (VD (K:=K)) (pv 1) (WZ (Qm (UF (K:=K)) (pv 0) WY (fun _ _=>rfl)) Qe))⟩))
   (Qc (Pu.pz 3 VJ.nd WY)
   (Qc (QH ZY rfl (QV rfl G.range (WZ (Qt QF (by rfl) G.len Yc (WZ (pv 0) Qe)) Qe)) (QN (i:=4) VJ.nd rfl (by first|exact Or.inl rfl|exact Or.inr rfl))
   (Qd (QH ZY rfl (QV rfl G.range (WZ (pv 4) Qe)) (QN (i:=5) VJ.nd rfl (by first|exact Or.inl rfl|exact Or.inr rfl))
   (Qd (Qz (Q6 Ja (Qm Qp (pv 2) (pv 5) (fun _ _=>rfl)) (Qm Qp (pv 2) (pv 4) (fun _ _=>rfl)) (Qx _))
   (Qd (Pu.pz 3 VJ.nd (Qa Q7 (pv 3) (Qa Vn (Qm Qp (Qm Qp (pv 0) (pv 5) (fun _ _=>rfl)) WY (fun _ _=>rfl)) (Qm Qp (Qm Qp (pv 0) (pv 4) (fun _ _=>rfl)) WY (fun _ _=>rfl))))))
   Qw)))))
   (Qd (Qj (pv 3)))))),?_⟩
  have e1:=hv.1;refine⟨_,rfl,l,rfl,⟨_,SqL.of hl⟩,fun D nD=>Uo (ds:=ps) (fun d=>some (V.int (os.idxOf d.1:Nat))) (SqL.of hl) e1 nD (ZM hz (by decide)) (fun i x d H2 hx hd S k hk=>?_) ?_⟩
  ·obtain⟨d',hd',a,rfl,ha⟩:=hv.get hx;rw[hd]at hd';cases hd'
   exact⟨.skip (.keep .refl),_,rfl,.inl ⟨rfl,_,S.seq ho⟩,_,rfl,.inr ⟨_,_,_,_,rfl,rfl,SqT.of (S _ _ ha),rfl,o,os,_,rfl,rfl,S.seq ho,hin d (Y5 hd),hk⟩⟩
  ·have em:ps.filterMap (fun d=>some (V.int (os.idxOf d.1:Nat)))=(ps.map fun d=>(os.idxOf d.1:Int)).map V.int:=by
    rw[Y9,Y0];rfl
   rw[em];generalize er:ps.map (fun d=>(os.idxOf d.1:Int))=rs;have lr:rs.length=ps.length:=by rw[←er,Z1]
   have gr:∀(j:Nat) (hj:j<ps.length),atI (rs.map V.int) (0+(j:Int))=some (.int (os.idxOf ps[j].1:Nat)):=fun j hj=>by
    have ez:(0:Int)+(j:Int)=(j:Int):=by omega
    rw[ez,←er];exact QZ (QM (by rw[ZC,Zy hj];rfl))
   have S1:=Qy (o:=.lst (rs.map V.int)) nD;have hD:(upd H D (.lst (rs.map V.int))) D=some (.lst (rs.map V.int)):=Qn;have hl1:=S1 _ _ hl;have hv1:=hv.mono PairR.mono S1;generalize upd H D (.lst (rs.map V.int))=H1 at S1 hD hl1 hv1 ⊢;have hP:=SqL.of (K:=K) hl1;have hDs:=SqL.of (K:=K) hD;refine⟨_,rfl,_,_,rfl,.inl ⟨_,hP,rfl⟩,_,rfl,by omega,by omega,VB (fun k σ H'=>H1=H'/\∃u v:Option V,σ=[some (.ref l),some (.ref o),some (.ref D),some (.int (priM ps os k)),u,v]) ⟨rfl,none,none,rfl⟩ ?_ ?_⟩
   ·rintro k σ H' hk ⟨rfl,u,v,rfl⟩;have hk':k<ps.length:=by omega
    have ek:(0:Int)+(k:Int)=(k:Int):=by omega
    obtain⟨vk,evk,b,rfl,hb⟩:=hv1.2 k ps[k] (by simp[hk']);have avk:atI vs (0+(k:Int))=some (.ref b):=by rw[ek];exact QM evk
    have hgk:ps.getD k (0,0)=ps[k]:=by rw[Zz,Zy hk'];rfl
    have hwk:=hF ps[k] (ZP hk');refine⟨_,rfl,_,rfl,by omega,by omega,VB (fun j σ H'=>H1=H'/\∃v:Option V,σ=[some (.ref l),some (.ref o),some (.ref D),some (.int (priM ps os k+rsM ps os ps[k].1 j*ps[k].2)),some (.int (0+(k:Int))),v]) ⟨rfl,v,by simp[rsM]⟩ ?_ ?_⟩
    ·rintro j σ H' hj ⟨rfl,v,rfl⟩;have hj':j<ps.length:=by omega
     have ej:(0:Int)+(j:Int)=(j:Int):=by omega
     obtain⟨vj,evj,d,rfl,hd'⟩:=hv1.2 j ps[j] (by simp[hj']);have avj:atI vs (0+(j:Int))=some (.ref d):=by rw[ej];exact QM evj
     have hgj:ps.getD j (0,0)=ps[j]:=by rw[Zz,Zy hj'];rfl
     have hwj:=hF ps[j] (ZP hj');refine⟨_,rfl,_,rfl,.inl ⟨_,_,_,_,rfl,rfl,hDs,gr j hj',_,rfl,_,rfl,.inl ⟨_,_,_,_,rfl,rfl,hDs,gr k hk',_,_,rfl,rfl,_,rfl,?_⟩⟩⟩;have step:rsM ps os ps[k].1 (j+1)=rsM ps os ps[k].1 j+(if os.idxOf ps[k].1<os.idxOf ps[j].1 then ps[j].2 else 0):=by simp only[rsM];rw[hgj]
     by_cases hlt:os.idxOf ps[k].1<os.idxOf ps[j].1
     ·rw[ZF (show((os.idxOf ps[k].1:Nat):Int)<((os.idxOf ps[j].1:Nat):Int) by omega)];refine iteT ⟨_,rfl,_,rfl,_,rfl,.inl ⟨_,_,_,_,rfl,rfl,hP,avj,.inr ⟨_,_,_,_,rfl,rfl,SqT.of hd',rfl,_,rfl,_,rfl,.inl ⟨_,_,_,_,rfl,rfl,hP,avk,.inr ⟨_,_,_,_,rfl,rfl,SqT.of hb,rfl,_,_,rfl,rfl,.inl ⟨by omega,by omega⟩,_,_,rfl,rfl,rfl,some (.int (0+(j:Int))),?_⟩⟩⟩⟩⟩;rw[step,ZA hlt,Wx,←Int.add_assoc];rfl
     ·rw[ZI (show ¬((os.idxOf ps[k].1:Nat):Int)<((os.idxOf ps[j].1:Nat):Int) by omega)];refine iteF ⟨rfl,some (.int (0+(j:Int))),?_⟩;rw[step,Z8 hlt,Int.add_zero];rfl
    ·rintro σ H' ⟨rfl,v,rfl⟩;refine⟨rfl,some (.int (0+(k:Int))),v,?_⟩
     have e2:priM ps os (k+1)=priM ps os k+rsM ps os ps[k].1 ((0:Int)+(k:Int)).toNat*ps[k].2:=by
      rw[ek,ZQ];simp only[priM];rw[hgk]
     rw[e2]
   ·rintro σ H' ⟨rfl,u,v,rfl⟩;have e3:((vs.length:Int)).toNat=ps.length:=by omega
    rw[e3];exact⟨_,rfl,q H1 S1⟩
def BV(G:Glob K mg)(D:Def K mg "_law_shuffled" Um ["_law_holders","_law_cell"])
  : Callee P w K mg base CX0 1 "_law_shuffled" ["_law_holders","_law_cell"] (Td K):=by
 refine D.ok (k:=0) Ji (fun vs H Q E h=>?_) (fun f cdv A outer s H vs Q E hr h=>?_)
 ·obtain⟨l,hs,c,rfl,hl,hz,q⟩:=h;rfl
 ·obtain⟨l,hs,c,rfl,hl,hz,q⟩:=h
  refine⟨_,(Qc (Pu.pz 2 Ji.nd (VP KY (by rfl) G.list boot_list (WZ (pv 0) Qe)))
   (Qc (Pu.pz 3 Ji.nd (QS Qe))
   (Qc (Pu.pz 4 Ji.nd (pv 1))
   (Qc (Kt ZY (Q6 (K7 hr.units0) (pv 2) (QS Qe) (Qx _))
   (Qc (VW (VG ZT Wp Wq Jy (pv 3) (WZ (Qm Qp (pv 2) (Qa QA (pv 4) (Qt QF (by rfl) G.len Yc (WZ (pv 2) Qe))) (fun _ _=>rfl)) Qe)))
   (Qc (Pu.pz 4 Ji.nd (Qa Vm (pv 4) (Qt QF (by rfl) G.len Yc (WZ (pv 2) Qe))))
   (Qd (VW (VG ZT PySem.F.slot_list_remove PySem.F.type_list_remove SR (pv 2) (WZ (Qm Qp (pv 3) (NI Cv WY) (fun _ _=>rfl)) Qe)))))))
   (Qd (Qj (pv 3))))))),?_⟩
  refine⟨_,rfl,_,_,rfl,.inl hl,fun L nL=>⟨by decide,fun O nO=>⟨_,rfl,?_⟩⟩⟩;have S1:=Qy (o:=.lst (hs.map V.int)) nL;have S2:=Own.Same.new (o:=.lst []) S1 nO;have nLO:L≠O:=fun z=>by rw[←z,Qn]at nO;cases nO
  have nO0:=S1.free nO;refine⟨fun m σ H2=>∃(xs os:List Int) (c':Int),m=xs.length/\σ=[some (.ref l),some (.int c),some (.ref L),some (.ref O),some (.int c')]/\H2 L=some (.lst (xs.map V.int))/\H2 O=some (.lst (os.map V.int))/\(os++xs).Perm hs/\Same H H2,⟨hs.length,hs,[],c,rfl,rfl,by rw[Qh nLO,Qn],Qn,List.Perm.refl _,S2⟩,?_⟩;rintro m σ H2 ⟨xs,os,c',rfl,rfl,hL,hO,hp,S⟩;refine⟨_,rfl,by decide,fun e ne=>⟨L,e,_,_,rfl,rfl,SqL.of (by rw[Qh (Qv hL ne)];exact hL),SqL.of Qn,VA xs,VA [],_,rfl,?_⟩⟩;show if (!eqL (xs.map V.int) (([]:List Int).map V.int))=true then _ else _;rw[Ua];have S3:=Own.Same.new (o:=.lst []) S ne;have hL3:(upd H2 e (.lst [])) L=some (.lst (xs.map V.int)):=by rw[Qh (Qv hL ne)];exact hL
  have hO3:(upd H2 e (.lst [])) O=some (.lst (os.map V.int)):=by rw[Qh (Qv hO ne)];exact hO
  generalize upd H2 e (.lst [])=H3 at S3 hL3 hO3;have hlen:=hp.length_eq;rw[Yi]at hlen;by_cases hx:xs=[]
  ·rw[ZF hx];subst hx;refine iteF ⟨_,rfl,q O H3 os nO0 S3 hO3 ?_⟩;simpa using hp
  ·rw[ZI hx];have hpos:0<xs.length:=List.length_pos_iff.mpr hx;refine iteT ⟨fun σ' H'=>∃m',m'<xs.length/\∃(xs' os':List Int) (c':Int),m'=xs'.length/\σ'=[some (.ref l),some (.int c),some (.ref L),some (.ref O),some (.int c')]/\H' L=some (.lst (xs'.map V.int))/\H' O=some (.lst (os'.map V.int))/\(os'++xs').Perm hs/\Same H H',fun σ' H' z=>z,?_⟩;have hi1:=Int.emod_nonneg c' (show(xs.length:Int)≠0 by omega);have hi2:=Int.emod_lt_of_pos c' (show(0:Int)<xs.length by omega);have hk:(c' % (xs.length:Int)).toNat<xs.length:=by omega
   have ai:atI (xs.map V.int) (c' % (xs.length:Int))=some (.int xs[(c' % (xs.length:Int)).toNat]):=QZ (Jn hi1 (Zy hk));generalize hz0:xs[(c' % (xs.length:Int)).toNat]=z at ai;have hzx:z∈xs:=by rw[←hz0];exact ZP hk
   refine⟨_,rfl,.inl ⟨rfl,_,SqL.of hO3⟩,_,rfl,_,rfl,_,rfl,_,_,rfl,.inl ⟨_,SqL.of hL3,rfl⟩,_,_,rfl,rfl,(by show(0:Int)<_;rw[Z1];omega),.inl ⟨L,xs.map V.int,c' % ((xs.map V.int).length:Int),.int z,rfl,rfl,SqL.of hL3,by rw[Z1];exact ai,O,_,_,rfl,rfl,hO3,UD (by rw[Z1];omega),?_⟩⟩;have hO4:(upd H3 O (.lst (os.map V.int++[.int z]))) O=some (.lst ((os++[z]).map V.int)):=by rw[Qn,ZX];rfl
   have hL4:(upd H3 O (.lst (os.map V.int++[.int z]))) L=some (.lst (xs.map V.int)):=by rw[Qh nLO];exact hL3
   have S4:Same H (upd H3 O (.lst (os.map V.int++[.int z]))):=fun b o e'=>by rw[Qh (Qv e' nO0)];exact S3 b o e'
   generalize upd H3 O (.lst (os.map V.int++[.int z]))=H4 at S4 hL4 hO4;refine⟨_,rfl,_,rfl,_,_,rfl,.inl ⟨_,SqL.of hL4,rfl⟩,_,_,rfl,rfl,⟨by rw[Z1];omega,by rw[Z1];omega⟩,?_⟩;have al:atI ((os++[z]).map V.int) (-1)=some (.int z):=by rw[ZX];exact Au _ _
   refine⟨_,rfl,.inl ⟨rfl,_,SqL.of hL4⟩,_,rfl,_,rfl,.inl ⟨O,_,_,_,rfl,rfl,SqL.of hO4,al,L,xs,z,rfl,rfl,hL4,hzx,?_⟩⟩;have hj:xs.idxOf z<xs.length:=Wo.mpr hzx;have e1:(xs.eraseIdx (xs.idxOf z)).length<xs.length:=by rw[Wb hj];omega
   refine⟨_,e1,xs.eraseIdx (xs.idxOf z),os++[z],_,rfl,rfl,Qn,by rw[Qh nLO.symm];exact hO4,?_,fun b o e'=>by rw[Qh (Qv e' nL)];exact S4 b o e'⟩;have pe:=SetR.JB xs (xs.idxOf z) hj;have ez:xs[xs.idxOf z]=z:=W9 hj;rw[ez]at pe;rw[WG];exact(pe.append_left os).trans hp
def B5(G:Glob K mg)(D:Def K mg "_law_draw" Ux ["_law_script","_law_k"])(Zf:Callee P w K mg base CX0 1 "_law_mix" ["_law_cell","_law_place"] (TB K))(Zb:Callee P w K mg base CX0 1 "_law_at" ["_law_script","_law_k"] (UQ K))
  : Callee P w K mg base CX0 2 "_law_draw" ["_law_script","_law_k"] (UV K):=by
 refine D.ok (k:=1) AB (fun vs H Q E h=>?_) (fun f cdv A outer s H vs Q E hr h=>?_)
 ·obtain⟨a,ns,k,rfl,hS,hk,q⟩:=h;rfl
 ·obtain⟨a,ns,k,rfl,hS,hk,q⟩:=h
  refine⟨_,(Qc (Qz (Q6 op_eq (Qa QA (Vg Zb (hr.mono (by decide)) Vh (WZ (pv 0) (WZ WY Qe))) WY) WY (Qx _))
   (Qd (Qj (Vg Zb (hr.mono (by decide)) Vh (WZ (pv 0) (WZ (Qa Q7 WY (pv 1)) Qe)))))
   Qw)
   (Qd (Qj (Vg Zf (hr.mono (by decide)) Vh (WZ (Vg Zb (hr.mono (by decide)) Vh (WZ (pv 0) (WZ WY Qe))) (WZ (pv 1) Qe)))))),?_⟩
  refine⟨_,rfl,a,ns,0,rfl,hS,by decide,_,_,rfl,rfl,(by show(0:Int)<2;decide),rfl,_,rfl,?_⟩;refine ite2 (fun h=>?_) (fun h=>?_)
  ·have e:ns.getD 0 0 % 2=0:=V.int.inj (Yg h);unfold QO at q;rw[ZA e]at q;exact⟨_,rfl,_,rfl,_,_,rfl,rfl,a,ns,_,rfl,hS,by omega,q⟩
  ·have e:¬ns.getD 0 0 % 2=0:=fun z=>h (ZF (Yd V.int z));unfold QO at q;rw[Z8 e]at q;exact⟨_,rfl,a,ns,1,rfl,hS,by decide,_,rfl,_,_,rfl,q⟩
def NH(G:Glob K mg)(D:Def K mg "_law_row" Uk ["_law_found","_law_due"])(Zc:Callee P w K mg base CX0 1 "_law_whole" ["_law_found"] (Js K))
  : Callee P w K mg base CX0 2 "_law_row" ["_law_found","_law_due"] (TJ K):=by
 refine D.ok (k:=1) Tp (fun vs H Q E h=>?_) (fun f cdv A outer s H vs Q E hr h=>?_)
 ·obtain⟨l,l',xs,rfl,hl,hl',hz,q⟩:=h;rfl
 ·obtain⟨l,l',xs,rfl,hl,hl',hz,q⟩:=h
  refine⟨_,(Qc (Qz (PW.pt (QY (Va (Jd (Qt VR (by rfl) G.isinstance YF (WZ (pv 0) (WZ (V1 (v:=.ty "list") rfl G.list boot_list rfl) Qe))))) (Vb (Q6 op_ne (Qt QF (by rfl) G.len Yc (WZ (pv 0) Qe)) (Qt QF (by rfl) G.len Yc (WZ (pv 1) Qe)) (Qx _)))))
   (Qd (Qj QB))
   Qw)
   (Qc (QH ZY rfl (QV rfl G.range (WZ (Qt QF (by rfl) G.len Yc (WZ (pv 1) Qe)) Qe)) (QN (i:=2) Tp.nd rfl (by first|exact Or.inl rfl|exact Or.inr rfl))
   (Qd (Qz (PW.pt (QY (Va (Jd (Vg Zc (hr.mono (by decide)) Vh (WZ (Qm Qp (pv 0) (pv 2) (fun _ _=>rfl)) Qe)))) (Vb (Q6 op_ne (Qm Qp (pv 0) (pv 2) (fun _ _=>rfl)) (Qm Qp (pv 1) (pv 2) (fun _ _=>rfl)) (Qx _)))))
   (Qd (Qj QB))
   Qw)))
   (Qd (Qj QB)))),?_⟩
  refine⟨_,rfl,_,_,_,_,rfl,.lst hl,Je _ _,_,rfl,iteF ⟨_,rfl,_,_,rfl,.inl ⟨_,SqL.of hl,rfl⟩,_,rfl,_,_,rfl,.inl ⟨_,hl',rfl⟩,rfl,_,rfl,V6 rfl ?_⟩⟩;refine⟨_,rfl,_,_,rfl,.inl ⟨_,hl',rfl⟩,_,rfl,by rw[Z1];omega,by rw[Z1];omega,VB (fun i σ H2=>H=H2/\∃(x:Option V),σ=[some (.ref l),some (.ref l'),x]) ⟨rfl,none,rfl⟩ ?_ ?_⟩
  ·rintro i σ H2 hi ⟨rfl,x,rfl⟩;rw[Z1,ZQ]at hi;have ez:(0:Int)+(i:Int)=(i:Int):=by omega
   have av:atI (xs.map V.int) (0+(i:Int))=some (.int xs[i]):=by rw[ez];exact QZ (QM (by simp[hi]))
   refine⟨_,rfl,_,rfl,.inl ⟨_,_,_,_,rfl,rfl,SqL.of hl,av,_,rfl,_,rfl,iteF ⟨_,rfl,_,rfl,.inl ⟨_,_,_,_,rfl,rfl,SqL.of hl,av,_,rfl,_,rfl,.inl ⟨_,_,_,_,rfl,rfl,hl',av,rfl,_,rfl,V6 rfl ?_⟩⟩⟩⟩⟩;exact⟨rfl,_,rfl⟩
  ·rintro σ H2 ⟨rfl,x,rfl⟩;exact q
def SM(G:Glob K mg)(D:Def K mg "_law_tuples" JY ["_law_found","_law_due"])(Zc:Callee P w K mg base CX0 1 "_law_whole" ["_law_found"] (Js K))
  : Callee P w K mg base CX0 2 "_law_tuples" ["_law_found","_law_due"] (K6 K):=by
 refine D.ok (k:=1) Uw (fun vs H Q E h=>?_) (fun f cdv A outer s H vs Q E hr h=>?_)
 ·obtain⟨l,l',ps,rfl,⟨vs,hl,hv⟩,⟨us,hl',hu⟩,hz,q⟩:=h;rfl
 ·obtain⟨l,l',ps,rfl,⟨vs,hl,hv⟩,⟨us,hl',hu⟩,hz,q⟩:=h
  refine⟨_,(Qc (Qz (PW.pt (QY (Va (Jd (Qt VR (by rfl) G.isinstance YF (WZ (pv 0) (WZ (V1 (v:=.ty "list") rfl G.list boot_list rfl) Qe))))) (Vb (Q6 op_ne (Qt QF (by rfl) G.len Yc (WZ (pv 0) Qe)) (Qt QF (by rfl) G.len Yc (WZ (pv 1) Qe)) (Qx _)))))
   (Qd (Qj QB))
   Qw)
   (Qc (QH ZY rfl (QV rfl G.range (WZ (Qt QF (by rfl) G.len Yc (WZ (pv 1) Qe)) Qe)) (QN (i:=2) Uw.nd rfl (by first|exact Or.inl rfl|exact Or.inr rfl))
   (Qc (Qz (PW.pt (QY (Va (Jd (Qt VR (by rfl) G.isinstance YF (WZ (Qm Qp (pv 0) (pv 2) (fun _ _=>rfl)) (WZ (V1 (v:=.ty "tuple") rfl G.tuple boot_tuple rfl) Qe))))) (Vb (Q6 op_ne (Qt QF (by rfl) G.len Yc (WZ (Qm Qp (pv 0) (pv 2) (fun _ _=>rfl)) Qe)) (Qt QF (by rfl) G.len Yc (WZ (Qm Qp (pv 1) (pv 2) (fun _ _=>rfl)) Qe)) (Qx _)))))
   (Qd (Qj QB))
   Qw)
   (Qd (QH ZY rfl (QV rfl G.range (WZ (Qt QF (by rfl) G.len Yc (WZ (Qm Qp (pv 1) (pv 2) (fun _ _=>rfl)) Qe)) Qe)) (QN (i:=3) Uw.nd rfl (by first|exact Or.inl rfl|exact Or.inr rfl))
   (Qd (Qz (PW.pt (QY (Va (Jd (Vg Zc (hr.mono (by decide)) Vh (WZ (Qm Qp (Qm Qp (pv 0) (pv 2) (fun _ _=>rfl)) (pv 3) (fun _ _=>rfl)) Qe)))) (Vb (Q6 op_ne (Qm Qp (Qm Qp (pv 0) (pv 2) (fun _ _=>rfl)) (pv 3) (fun _ _=>rfl)) (Qm Qp (Qm Qp (pv 1) (pv 2) (fun _ _=>rfl)) (pv 3) (fun _ _=>rfl)) (Qx _)))))
   (Qd (Qj QB))
   Qw))))))
   (Qd (Qj QB)))),?_⟩
  have e1:=hv.1;have e2:=hu.1;refine⟨_,rfl,_,_,_,_,rfl,.lst hl,Je _ _,_,rfl,iteF ⟨_,rfl,_,_,rfl,.inl ⟨_,SqL.of hl,rfl⟩,_,rfl,_,_,rfl,.inl ⟨_,SqL.of hl',rfl⟩,rfl,_,rfl,V6 (by rw[e1,e2]) ?_⟩⟩;refine⟨_,rfl,_,_,rfl,.inl ⟨_,SqL.of hl',rfl⟩,_,rfl,by omega,by omega,VB (fun i σ H2=>H=H2/\∃(x y:Option V),σ=[some (.ref l),some (.ref l'),x,y]) ⟨rfl,none,none,rfl⟩ ?_ ?_⟩
  ·rintro i σ H2 hi ⟨rfl,x,y,rfl⟩;have hi':i<ps.length:=by omega
   obtain⟨v,ev,a,rfl,ha⟩:=hv.2 i ps[i] (by simp[hi']);obtain⟨u,eu,b,rfl,hb⟩:=hu.2 i ps[i] (by simp[hi']);have ez:(0:Int)+(i:Int)=(i:Int):=by omega
   have av:atI vs (0+(i:Int))=some (.ref a):=by rw[ez];exact QM ev
   have au:atI us (0+(i:Int))=some (.ref b):=by rw[ez];exact QM eu
   refine⟨_,rfl,_,rfl,.inl ⟨_,_,_,_,rfl,rfl,SqL.of hl,av,_,_,_,_,rfl,.tup ha,Je _ _,_,rfl,iteF ?_⟩⟩;refine⟨_,rfl,_,rfl,.inl ⟨_,_,_,_,rfl,rfl,SqL.of hl,av,_,_,rfl,.inr ⟨_,SqT.of ha,rfl⟩,_,rfl,_,rfl,.inl ⟨_,_,_,_,rfl,rfl,SqL.of hl',au,_,_,rfl,.inr ⟨_,SqT.of hb,rfl⟩,rfl,_,rfl,V6 rfl ?_⟩⟩⟩;refine⟨_,rfl,_,rfl,.inl ⟨_,_,_,_,rfl,rfl,SqL.of hl',au,_,_,rfl,.inr ⟨_,SqT.of hb,rfl⟩,_,rfl,(by show -(2 ^ 62)<=(2:Int);decide),(by show(2:Int)<2 ^ 62;decide),VB (fun j σ H2=>H=H2/\∃(y:Option V),σ=[some (.ref l),some (.ref l'),some (.int (0+(i:Int))),y]) ⟨rfl,_,rfl⟩ ?_ ?_⟩⟩
   ·rintro j σ H2 hj ⟨rfl,y,rfl⟩;have hj2:j<2:=hj
    obtain⟨z,ea⟩:∃z:Int,atI [V.int ps[i].1,V.int ps[i].2] (0+(j:Int))=some (.int z):=by
     have:j=0\/j=1:=by omega
     rcases this with rfl|rfl
     ·exact⟨_,rfl⟩
     ·exact⟨_,rfl⟩
    refine⟨_,rfl,_,rfl,.inl ⟨_,_,_,_,rfl,rfl,SqL.of hl,av,_,rfl,.inr ⟨_,_,_,_,rfl,rfl,SqT.of ha,ea,z,rfl,_,rfl,iteF ?_⟩⟩⟩;refine⟨_,rfl,_,rfl,.inl ⟨_,_,_,_,rfl,rfl,SqL.of hl,av,_,rfl,.inr ⟨_,_,_,_,rfl,rfl,SqT.of ha,ea,_,rfl,_,rfl,.inl ⟨_,_,_,_,rfl,rfl,SqL.of hl',au,_,rfl,.inr ⟨_,_,_,_,rfl,rfl,SqT.of hb,ea,rfl,_,rfl,V6 rfl ?_⟩⟩⟩⟩⟩;exact⟨rfl,_,rfl⟩
   ·rintro σ H2 ⟨rfl,y,rfl⟩;exact⟨rfl,_,_,rfl⟩
  ·rintro σ H2 ⟨rfl,x,y,rfl⟩;exact q
def F3(G:Glob K mg)(D:Def K mg "_law_strips" UU ["_law_script","_law_menu_here","_law_many"])(Zd:Callee P w K mg base CX0 2 "_law_draw" ["_law_script","_law_k"] (UV K))(Zg:Callee P w K mg base CX0 1 "_law_holder" ["_law_menu_here","_law_k"] (X7 K))
  : Callee P w K mg base CX0 3 "_law_strips" ["_law_script","_law_menu_here","_law_many"] (X8 K):=by
 refine D.ok (k:=2) Jh (fun vs H Q E h=>?_) (fun f cdv A outer s H vs Q E hr h=>?_)
 ·obtain⟨a,l,ns,m,n,rfl,hA,hL,hM,h0,h1,q⟩:=h;rfl
 ·obtain⟨a,l,ns,m,n,rfl,hA,hL,hM,h0,h1,q⟩:=h
  refine⟨_,(Qc (Pu.pz 3 Jh.nd (QS Qe))
   (Qc (QH ZY rfl (QV rfl G.range (WZ (pv 2) Qe)) (QN (i:=4) Jh.nd rfl (by first|exact Or.inl rfl|exact Or.inr rfl))
   (Qc (Pu.pz 5 Jh.nd (Vg Zd (hr.mono (by decide)) Vh (WZ (pv 0) (WZ (Qa Q7 WY (pv 4)) Qe))))
   (Qc (Pu.pz 6 Jh.nd (Qa Q7 (Qm Qp (pv 1) WY (fun _ _=>rfl)) (Qa QA (Qa Vm (pv 5) (Qm Qp (pv 1) WY (fun _ _=>rfl))) (Qm Qp (pv 1) WY (fun _ _=>rfl)))))
   (Qd (VW (VG ZT Wp Wq Jy (pv 3) (WZ (J3 (WZ (Vg Zg (hr.mono (by decide)) Vh (WZ (pv 1) (WZ (Qa QA (pv 5) (Qm Qp (pv 1) WY (fun _ _=>rfl))) Qe))) (WZ (pv 6) Qe))) Qe)))))))
   (Qd (Qj (pv 3))))),?_⟩
  have hMM:=hM;obtain⟨m0,m1,m2,m3,m4,em,ha,hb,hc,hd,he⟩:=hM;refine⟨by decide,fun p np=>?_⟩;have S0:Same H (upd H p (.lst [])):=Qy np;refine⟨_,rfl,_,rfl,by omega,by omega,VB (fun i σ H2=>∃(vs:List V) (x y z:Option V),σ=[some (.ref a),some (.ref l),some (.int n),some (.ref p),x,y,z]/\Same H H2/\H2 p=some (.lst vs)/\LV PairR H2 vs (Ve ns m i)) ⟨[],none,none,none,rfl,S0,Qn,LV.nil⟩ ?_ ?_⟩
  ·rintro i σ H2 hi ⟨vs,x,y,z,rfl,S,hp,hv⟩;have hA2:=S.seq hA;have hL2:=S.seq hL;refine⟨_,rfl,_,rfl,_,_,rfl,rfl,a,ns,_,rfl,hA2,by omega,?_⟩;rw[em]at hL2;have ez:(0:Int)+(i:Int)=(i:Int):=by omega
   refine⟨_,rfl,.inl ⟨_,_,_,_,rfl,rfl,hL2,rfl,_,rfl,_,rfl,.inl ⟨_,_,_,_,rfl,rfl,hL2,rfl,_,_,rfl,rfl,⟨by omega,by omega⟩,_,rfl,.inl ⟨_,_,_,_,rfl,rfl,hL2,rfl,_,_,rfl,rfl,(by show 0<m3;omega),_,_,rfl,rfl,?_⟩⟩⟩⟩;refine⟨_,rfl,.inl ⟨rfl,_,SqL.of hp⟩,_,rfl,_,rfl,_,rfl,.inl ⟨_,_,_,_,rfl,rfl,hL2,rfl,_,_,rfl,rfl,(by show 0<m0;omega),l,m,_,rfl,(by rw[em];exact hL2),hMM,_,rfl,(by show 2<=sizeLine;decide),fun t nt=>?_⟩⟩;have npt:p≠t:=Qv hp nt;refine⟨p,vs,_,rfl,rfl,by rw[Qh npt];exact hp,UD (by rw[hv.1,Xv];omega),?_⟩;have nt0:H t=none:=S.free nt;refine⟨_,_,_,_,rfl,fun b o e=>?_,Qn,?_⟩
   ·rw[Qh (Qv e np),Qh (Qv e nt0)];exact S b o e
   ·have key:∀v q,PairR H2 v q->PairR (upd (upd H2 t (.tup [V.int (UZ m (QO ns (2+(0+(i:Int))) % m0)),V.int (m4+QO ns (2+(0+(i:Int))) / m0 % m3)])) p (.lst (vs++[V.ref t]))) v q:=by
     rintro v q ⟨b,eb,hb'⟩
     have hbp:b≠p:=by
      intro z;rw[z,hp]at hb';cases hb'
     exact⟨b,eb,by rw[Qh hbp,Qh (Qv hb' nt)];exact hb'⟩
    rw[BJ];refine LV.snoc ⟨hv.1,fun j x ex=>let ⟨v,e1,e2⟩:=hv.2 j x ex;⟨v,e1,key _ _ e2⟩⟩ ⟨t,rfl,?_⟩;rw[Qh npt.symm,Qn];unfold stripM;rw[em,ez];rfl
  ·rintro σ H2 ⟨vs,x,y,z,rfl,S,hp,hv⟩;exact⟨_,rfl,q p H2 np S ⟨vs,hp,hv⟩⟩
end
open Pu
section
variable {P:Program}{w:World}{K:Za}{mg:Str->Option Value}{base:Heap}
def Ap(G:Glob K mg)(DD:Def K mg "own_numbers" Ub ["strips"])
  : KS P w K mg base:=by
 refine DD.oz (k:=0) Az (fun _ _ _ _ _ _ E hr=>⟨_,(Qd (Qj (Jm (N':=["index"]) (φ:=[none]) rfl (Own.CompOk.of (by rfl)) (QV rfl G.range (az (ln K G.len (pv 0)))) (fun _ _ _ _ _=>⟨(gz 0 (show(["index"]:List Str).Nodup from by decide +kernel)),VC,(Qa Q7 (pv 0) WY)⟩)))), (Q8 (JA (SndI.c (Jr (sz (Vt (sz (WX 0)))))) (Qk 0) UG (Vx (WX 0) Qb)))⟩) (.a fun ds R X h=>?_)
 ·obtain⟨ps,rfl,hz,hR⟩:=h;refine⟨rfl,?_⟩;have hl:(ps.map prD).length=ps.length:=Z1 ..;refine⟨⟨by omega,by omega⟩,Nd (fun i=>some (.int (0+(i:Int)+1))) (by omega) (fun i _=>⟨_,rfl,rfl⟩) ?_⟩
  have e:(List.range ((ps.map prD).length:Int).toNat).filterMap (fun(i:Nat)=>some (D.int (0+(i:Int)+1)))=(runI 1 ps.length).map D.int:=by
   unfold runI;rw[Y9,Y0,hl,ZQ];refine YN fun i _=>?_;show D.int (0+(i:Int)+1)=D.int (1+(i:Int));congr 1;omega
  rw[e];exact hR
def AK(G:Glob K mg)(DD:Def K mg "exchange_cost" Uj ["strips","numbers","place"])
  : TX P w K mg base:=by
 refine DD.oz (k:=0) Uh (fun _ _ _ _ _ _ E hr=>⟨_,(Qc (Pu.pz 3 Uh.nd (jx K (pv 0) (Qa Q5 (jx K (pv 1) (Qa Q5 (pv 2) WY)) WY))) (Qc (Pu.pz 4 Uh.nd (jx K (pv 0) (Qa Q5 (jx K (pv 1) (pv 2)) WY))) (Qd (Qj (Qa Vn (jx K (pv 3) WY) (jx K (pv 4) WY)))))), (Qi (Qr (Qf (WX 0) (Q3 (Qf (WX 1) (Q3 (WX 2) Qb)) Qb)) (Qk 3)) (Qi (Qr (Qf (WX 0) (Q3 (Qf (WX 1) (WX 2)) Qb)) (Qk 4)) (Q8 (Xw (Qf (WX 3) Qb) (Qf (WX 4) Qb)))))⟩) (.a fun ds R X h=>?_)
 ·obtain⟨ps,ns,p,rfl,hF,hin,h1,h2,hR⟩:=h;refine⟨rfl,?_⟩;have b1:(p-1).toNat<ns.length:=by omega
  have b2:p.toNat<ns.length:=by omega
  have i1:=hin _ (ZP b1);have i2:=hin _ (ZP b2);refine⟨_,Vc (by omega) (by omega),_,Vc (by omega) (by omega),_,Vc (by omega) (by omega),_,Vc (by omega) (by omega),_,rfl,_,rfl,?_⟩;have c1:(ns[(p-1).toNat]-1).toNat<ps.length:=by omega
  have c2:(ns[p.toNat]-1).toNat<ps.length:=by omega
  have f1:=hF _ (ZP c1);refine⟨.inl ⟨by show -(2 ^ 64)<(ps[(ns[(p-1).toNat]-1).toNat]).2;omega,by show(ps[(ns[(p-1).toNat]-1).toNat]).2<2 ^ 64;omega⟩,?_⟩
  have e:exM ps ns p.toNat=(ps[(ns[(p-1).toNat]-1).toNat]).2*(ps[(ns[p.toNat]-1).toNat]).2:=by
   unfold exM
   have e1:ns.getD (p.toNat-1) 0=ns[(p-1).toNat]:=by
    rw[show p.toNat-1=(p-1).toNat by omega];exact Jx b1
   rw[e1,Jx b2,Jx c1,Jx c2]
  rw[e]at hR;exact hR
def AA(G:Glob K mg)(DD:Def K mg "exchanged" Ul ["numbers","place"])
  : Nk P w K mg base:=by
 refine DD.oz (k:=0) Bf (fun _ _ _ _ _ _ E hr=>⟨_,(Qd (Qj (Qa XU (Qa XU (T8 (Ke (K:=K)) (pv 0) Px (Xi (Qa Q5 (pv 1) WY))) (QS (bz (jx K (pv 0) (pv 1)) (jx K (pv 0) (Qa Q5 (pv 1) WY))))) (T8 (Ke (K:=K)) (pv 0) (Xi (Qa Q7 (pv 1) WY)) Px)))), (Q8 (XX (XX (KA (WX 0) Kb (Ka (Q3 (WX 1) Qb))) (JM (tz (Qf (WX 0) (WX 1)) (Qf (WX 0) (Q3 (WX 1) Qb))))) (KA (WX 0) (Ka (Vx (WX 1) Qb)) Kb)))⟩) (.a fun ds R X h=>?_)
 ·obtain⟨ns,p,rfl,h1,h2,hz,hR⟩:=h;refine⟨rfl,?_⟩;have b1:p.toNat<ns.length:=by omega
  have b2:(p-1).toNat<ns.length:=by omega
  have l1:(cutD (ns.map D.int) none (some (p-1))).length<=1000:=by have:=(KH (ns.map D.int) none (some (p-1))).length_le;rw[Z1]at this;omega
  have l2:(cutD (ns.map D.int) (some (p+1)) none).length<=1000:=by have:=(KH (ns.map D.int) (some (p+1)) none).length_le;rw[Z1]at this;omega
  refine⟨U2 _,_,Vc (by omega) (by omega),_,Vc (by omega) (by omega),by simp,rfl,rfl,ZM (Nat.add_le_add l1 (Z4 2)) (by decide),U2 _,rfl,rfl,ZM (Nat.add_le_add (by rw[Yi];exact Nat.add_le_add l1 (Z4 2)) l2) (by decide),?_⟩;have e:=Ca h1 h2 (b1:=b1) (b2:=b2);rw[←e]at hR;exact hR
def Sk(G:Glob K mg)(DD:Def K mg "first_wrong_place" UY ["numbers","ranks"])
  : Xz P w K mg base:=by
 refine DD.oz (k:=0) X9 (fun _ _ _ _ _ _ E hr=>⟨_,(Qc (QH ZY rfl (Nc rfl G.range (bz WY (ln K G.len (pv 0)))) (gz 2 X9.nd) (Qd (Qz (Q6 Ja (jx K (pv 1) (Qa Q5 (jx K (pv 0) (Qa Q5 (pv 2) WY)) WY)) (jx K (pv 1) (Qa Q5 (jx K (pv 0) (pv 2)) WY)) (Qx _)) (Qd (Qj (pv 2)))
   Qw))) (Qd (Qj WY))), (Qi (V7 [2] (AV (tz Qb (Vt (sz (WX 0))))) (Qk 2) (QD (Q9 (J7 (Qf (WX 1) (Q3 (Qf (WX 0) (Q3 (WX 2) Qb)) Qb)) (Qf (WX 1) (Q3 (Qf (WX 0) (WX 2)) Qb)))) (J1 2) QG)) (Q8 Qb))⟩) (.a fun ds R X h=>?_)
 ·obtain⟨ns,rs,rfl,hin,hz,hR⟩:=h;refine⟨rfl,?_⟩;have hl:(ns.map D.int).length=ns.length:=Z1 ..
  have ix:∀(i:Nat) (k:Int),i<ns.length->k=(i:Int)->atI (ns.map D.int) k=some (.int (ns.getD i 0)):=fun i k hi e=>by
   rw[e];exact QZ (f:=D.int) (QM (by rw[Zz,Zy hi];rfl))
  have rx:∀i:Nat,i<ns.length->atI (rs.map D.int) (ns.getD i 0-1)=some (.int (rs.getD (ns.getD i 0-1).toNat 0)):=fun i hi=>by
   have hm:ns.getD i 0∈ns:=by
    rw[Zz,Zy hi];exact ZP hi
   have:=hin _ hm
   generalize ns.getD i 0=z at this;rw[Vc (f:=D.int) (xs:=rs) (by omega) (by omega),Zz,Zy (show(z-1).toNat<rs.length by omega)];rfl
  have kx:∀i:Nat,i<ns.length->(ns.map fun m=>rs.getD (m-1).toNat 0).getD i 0=rs.getD (ns.getD i 0-1).toNat 0:=fun i hi=>QJ hi;have lk:(ns.map fun m=>rs.getD (m-1).toNat 0).length=ns.length:=Z1 ..;refine⟨⟨by omega,by omega⟩,Jg (fun i γ'=>(∀q,1<=q->q<1+i->(ns.map fun m=>rs.getD (m-1).toNat 0).getD (q-1) 0<=(ns.map fun m=>rs.getD (m-1).toNat 0).getD q 0)/\γ'=[some (.bor (.lst (ns.map D.int))),some (.bor (.lst (rs.map D.int))),none]) ⟨fun q h1 h2=>by omega,rfl⟩ ?_ ?_⟩
  ·rintro i γ' hi ⟨h1,rfl⟩
   have hi':i+1<ns.length:=by
    have:i<((((ns.map D.int).length:Nat):Int)-1).toNat:=hi
    omega
   refine⟨_,ix i _ (by omega) (by omega),_,rx i (by omega),_,ix (i+1) _ hi' (by omega),_,rx (i+1) hi',?_⟩;refine ite2 (fun g=>?_) (fun g=>?_)
   ·have g':rs.getD (ns.getD (i+1) 0-1).toNat 0<rs.getD (ns.getD i 0-1).toNat 0:=Yg g
    have:=hR (i+1) ⟨fun q q1 q2=>h1 q q1 (by rw[Z8 (by omega)]at q2;omega),.inr ⟨by omega,by rw[lk];exact hi',by rw[kx _ hi',WB,kx _ (by omega)];exact g'⟩⟩
    rw[show((i+1:Nat):Int)=1+(i:Int) by omega]at this;exact this
   ·have g':¬rs.getD (ns.getD (i+1) 0-1).toNat 0<rs.getD (ns.getD i 0-1).toNat 0:=fun z=>g (ZF z);refine⟨fun q q1 q2=>?_,rfl⟩;by_cases c:q<1+i
    ·exact h1 q q1 c
    ·have:q=i+1:=by omega
     subst this;rw[kx _ hi',WB,kx _ (by omega)];omega
  ·rintro γ' ⟨h1,rfl⟩;refine hR 0 ⟨fun q q1 q2=>h1 q q1 ?_,.inl rfl⟩;rw[ZA rfl,lk]at q2;omega
def B4(G:Glob K mg)(DD:Def K mg "_law_ends" UA ["_law_strips_here","_law_order"])
  : P9 P w K mg base:=by
 refine DD.oz (k:=0) UM (fun _ _ _ _ _ _ E hr=>⟨_,(Qc (Pu.pz 2 UM.nd (QS Qe)) (Qc (QH ZY rfl (J5 (K:=K) (pv 1)) (gz 3 UM.nd) (Qd (VW (VG ZT PySem.F.slot_list_extend PySem.F.type_list_extend NL (pv 2) (az (Jm (N':=["_law_k","_law_holder_here","_law_strips_here"]) (φ:=[none,some 3,some 0]) rfl (Own.CompOk.of (by rfl)) (QV rfl G.range (az (ln K G.len (pv 0)))) (fun _ _ _ _ _=>⟨(gz 0 (show(["_law_k","_law_holder_here","_law_strips_here"]:List Str).Nodup from by decide +kernel)),(P7 (cq K hr (jx K (jx K (pv 2) (pv 0)) WY) (pv 1))),(Qa Q7 (pv 0) WY)⟩))))))) (Qd (Qj (pv 2))))), (Qi (Qr (JM Jo) (Qk 2)) (Qi (VY 1 (V7 [3] (Ti (WX 1)) (Qk 3) (B8 2 (JA (SndI.c (Jr (sz (Vt (sz (WX 0)))))) (Qk 0) (Q9 (Jc (Qf (Qf (WX 2) (WX 0)) Qb) (WX 1))) (Vx (WX 0) Qb))))) (J1 2)))⟩) (.a fun ds R X h=>?_)
 ·obtain⟨ps,o,rfl,hz,ho,hR⟩:=h;refine⟨rfl,?_⟩;have hl:(ps.map prD).length=ps.length:=Z1 ..;refine⟨by simp,rfl,TQ (xs:=o) (emb:=D.int) (fun i γ'=>γ'=[some (.bor (plD ps)),some (.bor (.lst (o.map D.int))),some (.own (((o.take i).flatMap (numN ps)).map D.int)),none]) rfl ?_ ?_⟩
  ·rintro i hi γ' rfl;have hg:=BU ps (o.take i);have ht:(o.take i).length<=50:=by rw[Yr];omega
   have hm:=Nat.mul_le_mul ht hz;have ln:=Pk ps o[i];refine⟨⟨by omega,by omega⟩,Nd (fun k=>if decide ((ps.getD k (0,0)).1=o[i])=true then some (.int (0+(k:Int)+1))else none) (by omega) (fun k hk=>?_) ?_⟩
   ·have hk':k<ps.length:=by omega
    have k1:atI (ps.map prD) (0+(k:Int))=some (prD ps[k]):=by
     rw[show(0:Int)+(k:Int)=(k:Int) by omega];exact QZ (f:=prD) (QM (Zy hk'))
    have k2:ps.getD k (0,0)=ps[k]:=by rw[Zz,Zy hk'];rfl
    rw[k2];refine⟨_,k1,_,rfl,?_⟩;exact ite2 (fun g=>⟨_,rfl,ZA g⟩) (fun g=>Z8 g)
   rw[Uc (fun k:Nat=>decide ((ps.getD k (0,0)).1=o[i]))]
   have em:((List.range (((ps.map prD).length:Nat):Int).toNat).filter (fun k:Nat=>decide ((ps.getD k (0,0)).1=o[i]))).map (fun k:Nat=>D.int (0+(k:Int)+1))=(numN ps o[i]).map D.int:=by
    unfold numN;rw[Y0,show(((ps.map prD).length:Nat):Int).toNat=ps.length by omega];rfl
   rw[em];refine⟨by rw[Z1,Z1];omega,?_⟩
   have et:(o.take (i+1)).flatMap (numN ps)=(o.take i).flatMap (numN ps)++numN ps o[i]:=by
    rw[ZS hi,List.flatMap_append];simp
   rw[et,ZX];rfl
  ·rintro γ' rfl;rw[Y8];exact hR
def F5(G:Glob K mg)(DD:Def K mg "_law_turned" UN ["_law_strips_here","_law_order"])
  : Kf P w K mg base:=by
 refine DD.oz (k:=0) Jl (fun _ _ _ _ _ _ E hr=>⟨_,(Qc (Pu.pz 2 Jl.nd WY) (Qc (QH ZY rfl (QV rfl G.range (az (ln K G.len (pv 0)))) (gz 3 Jl.nd) (Qd (QH ZY rfl (QV rfl G.range (az (pv 3))) (gz 4 Jl.nd) (Qd (Qz (Q6 Ja (VN (K:=K) ZT Yn Yv (VD (K:=K)) (pv 1) (az (jx K (jx K (pv 0) (pv 4)) WY))) (VN (K:=K) ZT Yn Yv (VD (K:=K)) (pv 1) (az (jx K (jx K (pv 0) (pv 3)) WY))) (Qx _)) (Qd (Pu.pz 2 Jl.nd (Qa Q7 (pv 2) WY)))
   Qw))))) (Qd (Qj (pv 2))))), (Qi (Qr Qb (Qk 2)) (Qi (V7 [3,4] (Jr (sz (Vt (sz (WX 0))))) (Qk 3) (V7 [4] (Jr (sz (WX 3))) (Qk 4) (QD (Q9 (J7 (Jj (WX 1) (sz (Qf (Qf (WX 0) (WX 4)) Qb))) (Jj (WX 1) (sz (Qf (Qf (WX 0) (WX 3)) Qb))))) (Qr (Vx (WX 2) Qb) (Qk 2)) QG))) (J1 2)))⟩) (.a fun ds R X h=>?_)
 ·obtain⟨ps,o,rfl,hz,hin,hR⟩:=h;refine⟨rfl,?_⟩;have hl:(ps.map prD).length=ps.length:=Z1 ..;have lr:(rowK ps o).length=ps.length:=Z1 ..;have gr:∀k (hk:k<ps.length),(rowK ps o)[k]'(by omega)=(((o.idxOf ps[k].1:Nat):Int),1):=fun k hk=>by unfold rowK;rw[WJ]
  have ix:∀k:Nat,k<ps.length->∃h:k<ps.length,atI (ps.map prD) (0+(k:Int))=some (prD ps[k]):=fun k hk=>⟨hk,by rw[show(0:Int)+(k:Int)=(k:Int) by omega];exact Fm hk⟩;refine⟨⟨by omega,by omega⟩,Jg (fun k γ'=>γ'=[some (.bor (plD ps)),some (.bor (.lst (o.map D.int))),some (.sh (.int (invL ((rowK ps o).take k)))),none,none]) rfl ?_ ?_⟩
  ·rintro k γ' hk rfl;have hk1:k<(((ps.map prD).length:Nat):Int).toNat:=hk;have hk':k<ps.length:=by omega
   obtain⟨_,ek⟩:=ix k hk';refine⟨⟨by omega,by omega⟩,Jg (fun j γ'=>γ'=[some (.bor (plD ps)),some (.bor (.lst (o.map D.int))),some (.sh (.int (invL ((rowK ps o).take k)+gtS ((o.idxOf ps[k].1:Nat):Int) ((rowK ps o).take j)))),some (.sh (.int (0+(k:Int)))),none]) (by simp[gtS];rfl) ?_ ?_⟩
   ·rintro j γ' hj rfl;have hj1:j<(0+(k:Int)).toNat:=hj;have hj':j<ps.length:=by omega
    obtain⟨_,ej⟩:=ix j hj';refine⟨⟨_,rfl⟩,_,ej,_,rfl,o,rfl,hin _ (ZP hj'),⟨_,rfl⟩,_,ek,_,rfl,o,rfl,hin _ (ZP hk'),?_⟩
    have es:gtS ((o.idxOf ps[k].1:Nat):Int) ((rowK ps o).take (j+1))=gtS ((o.idxOf ps[k].1:Nat):Int) ((rowK ps o).take j)+(if ((o.idxOf ps[k].1:Nat):Int)<((o.idxOf ps[j].1:Nat):Int)then 1 else 0):=by
     rw[ZS (by omega),UR,gr j hj']
    rw[es];refine ite2 (fun g=>?_) (fun g=>?_)
    ·rw[ZA (Yg g),←Int.add_assoc];rfl
    ·rw[Z8 fun z=>g (ZF z),Int.add_zero];rfl
   ·rintro γ' rfl;show _=[_,_,some (S.sh (.int (invL ((rowK ps o).take (k+1))))),_,_];rw[ZS (show k<(rowK ps o).length by omega),Xe,gr k hk',show(0+(k:Int)).toNat=k by omega];simp only[Int.mul_one];rfl
  ·rintro γ' rfl;rw[Su]at hR;show R (.sh (.int (invL ((rowK ps o).take (((ps.map prD).length:Nat):Int).toNat))));rw[show(((ps.map prD).length:Nat):Int).toNat=(rowK ps o).length by omega,Y8];exact hR
def NO(G:Glob K mg)(DD:Def K mg "check_order" UH ["strips","order"])(Zh:N5 P w K mg base)
  : TZ P w K mg base:=by
 refine DD.ox (k:=1) Bc (fun _ _ _ _ _ _ E hr=>⟨_,(Qd (Qz (cn K hr (Qt (SZ (K:=K) (w:=w) rfl) (by rfl) G.sorted boot_sorted (az (pv 1))) (fz Zh hr (az (pv 0)))) (Qd (ExcR.B0 G.g_BadOrder.c G.m_BadOrder ExcR.NN rfl (az BB)))
   Qw)), (QD (Q9 (Jb (BH (sz (WX 1))) (Qu (sz (WX 0))))) (FY (sz Cn)) QG)⟩) (.a fun ds R X h=>?_)
 ·obtain⟨ps,os,rfl,hF,hz,hl,hR⟩:=h;refine⟨rfl,?_⟩;refine⟨os,rfl,hl,fun ns h1 h2=>⟨ps,rfl,hF,hz,_,_,rfl,rfl,?_⟩⟩;have q:=AS (ps:=ps) h1 h2;unfold JC at hR;refine ite2 (fun g=>?_) (fun g=>?_)
  ·have g':¬ns=Qo ps:=fun z=>by rw[ZA rfl,ZF z]at g;cases g
   rw[Z8 (fun z=>g' (q.mpr z))]at hR;exact⟨by simp,hR⟩
  ·have g':ns=Qo ps:=Classical.byContradiction fun z=>g (by rw[ZA rfl,ZI z];rfl);rw[ZA (q.mp g')]at hR;exact hR
def Sr(G:Glob K mg)(DD:Def K mg "_law_good_move" U9 ["_law_move","_law_numbers","_law_strips_here","_law_ranks"])(Zc:Ab P w K mg base)
  : Tq P w K mg base:=by
 refine DD.oz (k:=1) JK (fun _ _ _ _ _ _ E hr=>⟨_,(Qc (Qz (PW.pt (QY (Va (VQ (K:=K) (Qt (T4 (K:=K)) (by rfl) G.isinstance YF (bz (pv 0) (V1 (v:=.ty "tuple") rfl G.tuple boot_tuple rfl))))) (Vb (cn K hr (ln K G.len (pv 0)) WY)))) (Qd (Qj QB))
   Qw) (Qc (QH ZY rfl (AM (K:=K) (pv 0)) (gz 4 JK.nd) (Qd (Qz (Va (VQ (K:=K) (fz Zc hr (az (pv 4))))) (Qd (Qj QB))
   Qw))) (Qc (Pu.pz 5 JK.nd (jx K (pv 0) WY)) (Qc (Qz (PW.pt (QY (Q6 Km (pv 5) WY (Qx _)) (Vb (Q6 Sl (pv 5) (ln K G.len (pv 1)) (Qx _))))) (Qd (Qj QB))
   Qw) (Qc (Qz (PW.pt (QY (cn K hr (jx K (pv 0) WY) (jx K (pv 1) (Qa Q5 (pv 5) WY))) (Vb (cn K hr (jx K (pv 0) WY) (jx K (pv 1) (pv 5)))))) (Qd (Qj QB))
   Qw) (Qc (QH ZY rfl (QV rfl G.range (az (Qa Q5 (pv 5) WY))) (gz 6 JK.nd) (Qd (Qz (Q6 Ja (jx K (pv 3) (Qa Q5 (jx K (pv 1) (pv 6)) WY)) (jx K (pv 3) (Qa Q5 (jx K (pv 1) (Qa Q7 (pv 6) WY)) WY)) (Qx _)) (Qd (Qj QB))
   Qw))) (Qd (Qj (Ut (JO (K:=K) (show _<cLine from hr.units0)) (jx K (pv 0) WY) (Qa Vn (jx K (jx K (pv 2) (Qa Q5 (jx K (pv 0) WY) WY)) WY) (jx K (jx K (pv 2) (Qa Q5 (jx K (pv 0) WY) WY)) WY)) (Qx _)))))))))), (Qi (QD (VL (VE (VV (Nt (tz (WX 0) XE)))) (Q9 (Jb (Vt (sz (WX 0))) Qb))) (Q8 Vq) QG) (Qi (VY 0 (V7 [4] (Ad (WX 0)) (Qk 4) (QD (VE (VV (Qu (sz (WX 4))))) (Q8 Vq) QG))) (Qi (Qr (Qf (WX 0) Qb) (Qk 5)) (Qi (QD (VL (Q9 (BX (WX 5) Qb)) (Q9 (CJ (WX 5) (Vt (sz (WX 1)))))) (Q8 Vq) QG) (Qi (QD (VL (Q9 (Jb (Qf (WX 0) Qb) (Qf (WX 1) (Q3 (WX 5) Qb)))) (Q9 (Jb (Qf (WX 0) Qb) (Qf (WX 1) (WX 5))))) (Q8 Vq) QG) (Qi (V7 [6] (Jr (sz (Q3 (WX 5) Qb))) (Qk 6) (QD (Q9 (J7 (Qf (WX 3) (Q3 (Qf (WX 1) (WX 6)) Qb)) (Qf (WX 3) (Q3 (Qf (WX 1) (Vx (WX 6) Qb)) Qb)))) (Q8 Vq) QG)) (Q8 (Jc (Qf (WX 0) Qb) (Xw (Qf (Qf (WX 2) (Q3 (Qf (WX 0) Qb) Qb)) Qb) (Qf (Qf (WX 2) (Q3 (Qf (WX 0) Qb) Qb)) Qb))))))))))⟩) (.a fun ds R X h=>?_)
 ·obtain⟨ps,ns,rs,p,rfl,hF,hz,hin,lr,hw,h0,hR⟩:=h;refine⟨rfl,?_⟩;obtain⟨h1,h2,h3⟩:=hw.2.resolve_left h0;rw[Z1]at h2
  have ix:∀(i:Nat) (k:Int),i<ns.length->k=(i:Int)->atI (ns.map D.int) k=some (.int (ns.getD i 0)):=fun i k hi e=>by
   rw[e];exact QZ (f:=D.int) (QM (by rw[Zz,Zy hi];rfl))
  have inn:∀i:Nat,i<ns.length->1<=ns.getD i 0/\ns.getD i 0<=ps.length:=fun i hi=>by
   have hm:ns.getD i 0∈ns:=by rw[Zz,Zy hi];exact ZP hi
   exact hin _ hm
  have rx:∀z:Int,1<=z/\z<=ps.length->atI (rs.map D.int) (z-1)=some (.int (rs.getD (z-1).toNat 0)):=fun z hz=>by
   have hi:(z-1).toNat<rs.length:=by omega
   have e:rs.getD (z-1).toNat 0=rs[(z-1).toNat]:=by rw[Zz,Zy hi];rfl
   rw[e];exact Vc (f:=D.int) (xs:=rs) (by omega) (by omega)
  have sx:∀z:Int,1<=z/\z<=ps.length->atI (ps.map prD) (z-1)=some (prD (ps.getD (z-1).toNat (0,0)))/\(1<=(ps.getD (z-1).toNat (0,0)).2/\(ps.getD (z-1).toNat (0,0)).2<=1000):=fun z hz=>by
   have hi:(z-1).toNat<ps.length:=by omega
   have e:ps.getD (z-1).toNat (0,0)=ps[(z-1).toNat]:=by rw[Zz,Zy hi];rfl
   rw[e]
   have:=hF _ (ZP hi)
   exact⟨Vc (f:=prD) (xs:=ps) (by omega) (by omega),this.2.2.1,this.2.2.2⟩
  have hln:(ns.map D.int).length=ns.length:=Z1 ..;have hn1:=inn (p-1) (by omega);have hn2:=inn p h2
  have step:∀q:Nat,1<=q->q<p->rs.getD (ns.getD (q-1) 0-1).toNat 0<=rs.getD (ns.getD q 0-1).toNat 0:=fun q a b=>by
   have:=hw.1 q a (by rw[Z8 h0];exact b)
   rw[QJ (f:=fun m=>rs.getD (m-1).toNat 0) (show q-1<ns.length by omega),QJ (f:=fun m=>rs.getD (m-1).toNat 0) (show q<ns.length by omega)]at this;exact this
  have hp:∀i:Nat,i<4->∃z:Int,[D.int (p:Int),.int (ns.getD (p-1) 0),.int (ns.getD p 0),.int (exM ps ns p)].getD i .non=.int z:=fun i hi=>by
   have:i=0\/i=1\/i=2\/i=3:=by omega
   rcases this with rfl|rfl|rfl|rfl<;>exact⟨_,rfl⟩
  refine⟨true,.same _,iteF ?_⟩;refine⟨_,rfl,Jg (fun i γ'=>γ'=[some (.sh (mvD ((p:Int),ns.getD (p-1) 0,ns.getD p 0,exM ps ns p))),some (.bor (.lst (ns.map D.int))),some (.bor (plD ps)),some (.bor (.lst (rs.map D.int))),none,none,none]) rfl ?_ ?_⟩
  ·rintro i γ' hi rfl;obtain⟨z,ez⟩:=hp i hi;rw[ez];exact⟨z,rfl,iteF rfl⟩
  ·rintro γ' rfl;refine⟨_,rfl,ite2 (fun g=>absurd (Yg g) (by omega)) (fun _=>ite2 (fun g=>absurd (Yg g) (by omega)) (fun _=>?_))⟩;refine⟨_,rfl,_,ix (p-1) _ (by omega) (by omega),V6 rfl ⟨_,rfl,_,ix p _ h2 rfl,V6 rfl ?_⟩⟩;refine⟨⟨by omega,by omega⟩,Jg (fun i γ'=>γ'=[some (.sh (mvD ((p:Int),ns.getD (p-1) 0,ns.getD p 0,exM ps ns p))),some (.bor (.lst (ns.map D.int))),some (.bor (plD ps)),some (.bor (.lst (rs.map D.int))),none,some (.sh (.int p)),none]) rfl ?_ ?_⟩
   ·rintro i γ' hi rfl;have hi':i<((p:Int)-1).toNat:=hi;have st:=step (i+1) (by omega) (by omega);rw[WB]at st;refine⟨_,ix i _ (by omega) (by omega),_,rx _ (inn i (by omega)),_,ix (i+1) _ (by omega) (by omega),_,rx _ (inn (i+1) (by omega)),?_⟩;exact ite2 (fun g=>absurd (Yg g) (by omega)) (fun _=>rfl)
   ·rintro γ' rfl;obtain⟨s1,s2⟩:=sx _ hn1;obtain⟨s3,s4⟩:=sx _ hn2;refine⟨_,rfl,_,rfl,_,s1,_,rfl,_,rfl,_,s3,_,rfl,.inl ⟨by show -(2 ^ 64)<(ps.getD _ (0,0)).2;omega,by show(ps.getD _ (0,0)).2<2 ^ 64;omega⟩,?_⟩;show R (.sh (.bl (decide (exM ps ns p=exM ps ns p))));rw[ZF rfl];exact hR
def FD(G:Glob K mg)(DD:Def K mg "told_moves" U1 ["strips","order"])(Zi:TZ P w K mg base)(Zj:KS P w K mg base)(Ze:Xz P w K mg base)(Zk:Nk P w K mg base)(Zl:TX P w K mg base)
  : Kn P w K mg base:=by
 refine DD.oz (k:=2) V8 (fun _ _ _ _ _ _ E hr=>⟨_,(Qc (VW (Vg Zi (hr.mono (by decide)) AF (bz (pv 0) (pv 1)))) (Qc (UO (N':=["holder","width","order"]) (φ:=[none,none,some 1]) (i:=2) V8.nd rfl rfl rfl (Own.CompOk.of (by rfl)) (J5 (K:=K) (pv 0)) (fun _ _ _ _ _=>⟨(Nr (K:=K) (n:=2) rfl (JS (gz 0 (show(["holder","width","order"]:List Str).Nodup from by decide +kernel)) (JS (gz 1 (show(["holder","width","order"]:List Str).Nodup from by decide +kernel)) K2))),VC,(VN (K:=K) ZT Yn Yv (VD (K:=K)) (pv 2) (az (pv 0)))⟩)) (Qc (Pu.pz 3 V8.nd (fz Zj hr (az (pv 0)))) (Qc (Pu.pz 4 V8.nd (QS Qe)) (Qc (Pu.pz 5 V8.nd (fz Ze hr (bz (pv 3) (pv 2)))) (Qc (Kt ZY (Q6 Ja (pv 5) WY (Qx _)) (Qc (VW (VG ZT Wp Wq Jy (pv 4) (az (J3 (WZ (pv 5) (WZ (jx K (pv 3) (Qa Q5 (pv 5) WY)) (WZ (jx K (pv 3) (pv 5)) (WZ (fz Zl hr (dz (pv 0) (pv 3) (pv 5))) Qe)))))))) (Qc (Pu.pz 3 V8.nd (fz Zk hr (bz (pv 3) (pv 5)))) (Qd (Pu.pz 5 V8.nd (fz Ze hr (bz (pv 3) (pv 2)))))))) (Qd (Qj (pv 4))))))))), (Qi (SY (Qu (tz (WX 0) (WX 1)))) (Qi (Qr (JA (KM (WX 0)) (BM (Pd (Qk 0) (Pd (Qk 1) Ag))) UG (Jj (WX 2) (sz (WX 0)))) (Qk 2)) (Qi (Qr (Qu (sz (WX 0))) (Qk 3)) (Qi (Qr (JM Jo) (Qk 4)) (Qi (Qr (Qu (tz (WX 3) (WX 2))) (Qk 5)) (Qi (BN [] (Q9 (J7 (WX 5) Qb)) (Qi (VY 5 (Co 4 (Uy (QR (WX 5) (QR (Qf (WX 3) (Q3 (WX 5) Qb)) (QR (Qf (WX 3) (WX 5)) (QR (Qu (uz (WX 0) (WX 3) (WX 5))) Jo))))))) (Qi (Qr (Qu (tz (WX 3) (WX 5))) (Qk 3)) (Qr (Qu (tz (WX 3) (WX 2))) (Qk 5))))) (J1 4)))))))⟩) (.a fun ds R X h=>?_)
 ·obtain⟨ps,o,rfl,hF,hz,hp,hR⟩:=h;refine⟨rfl,?_⟩;have hh:=XW ps;have hol:=hp.length_eq;have hin:=Xc hF hp;refine⟨ps,o,rfl,hF,by omega,by omega,?_⟩;rw[CA hp];refine KI (xs:=ps) (emb:=prD) (fun q=>some (.int (o.idxOf q.1:Nat))) (by omega) (fun q hq=>?_) ?_
  ·exact⟨rfl,⟨_,rfl⟩,o,rfl,hin q hq,_,rfl,rfl⟩
  rw[mapD (fun q:Int×Int=>D.int (o.idxOf q.1:Nat))];have er:ps.map (fun q:Int×Int=>D.int (o.idxOf q.1:Nat))=(ps.map fun q:Int×Int=>((o.idxOf q.1:Nat):Int)).map D.int:=by rw[Y0];rfl
  rw[er];generalize ers:(ps.map fun q:Int×Int=>((o.idxOf q.1:Nat):Int))=rs;have lrs:rs.length=ps.length:=by rw[←ers,Z1]
  have rk:∀m:Int,1<=m/\m<=ps.length->rs.getD (m-1).toNat 0=rkN ps o m:=fun m hm=>by
   have hi:(m-1).toNat<ps.length:=by omega
   rw[←ers];unfold rkN hdN;rw[Zz,Zz,ZC,Zy hi];rfl
  have keys:∀ns:List Int,ns.Perm (runI 1 ps.length)->ns.map (fun m=>rs.getD (m-1).toNat 0)=ns.map (rkN ps o):=fun ns hn=>YN fun m hm=>rk m (runI_mem.mp (hn.mem_iff.mp hm))
  have inr:∀ns:List Int,ns.Perm (runI 1 ps.length)->∀m∈ns,1<=m/\m<=rs.length:=fun ns hn m hm=>by
   have:=runI_mem.mp (hn.mem_iff.mp hm)
   omega
  refine⟨ps,rfl,by omega,by simp,?_⟩;refine⟨_,rs,rfl,inr _ (.refl _),by rw[VU];omega,fun p0 hw0=>?_⟩;rw[keys _ (.refl _)]at hw0
  have e0:∀ns:List Int,ns.Perm (runI 1 ps.length)->cntN (fun m=>rs.getD (m-1).toNat 0) ns=cntN (rkN ps o) ns:=fun ns hn=>by
   unfold cntN;congr 1;exact YN fun m hm=>by show(rs.getD (m-1).toNat 0,(1:Int))=_;rw[rk m (runI_mem.mp (hn.mem_iff.mp hm))]
  have b0:=Jv (rkN ps o) (runI 1 ps.length)
  have nn:((ps.length:Int))*ps.length<=1600:=by
   have:=Int.mul_le_mul (a:=(ps.length:Int)) (b:=ps.length) (c:=40) (d:=40) (by omega) (by omega) (by omega) (by omega)
   omega
  rw[VU]at b0;refine Nz (fun γ'=>∃(ns:List Int) (ms0:List Mo) (p:Nat),FW (ns.map (rkN ps o)) p/\ns.Perm (runI 1 ps.length)/\(∀ms,Mv ps (rkN ps o) ns ms->Mv ps (rkN ps o) (runI 1 ps.length) (ms0++ms))/\(ms0.length:Int)+cntN (rkN ps o) ns=cntN (rkN ps o) (runI 1 ps.length)/\γ'=[some (.bor (plD ps)),some (.bor (.lst (o.map D.int))),some (.own (rs.map D.int)),some (.own (ns.map D.int)),some (.own (ms0.map mvD)),some (.sh (.int p))]) mvN ⟨runI 1 ps.length,[],p0,hw0,.refl _,fun ms h=>h,by simp,rfl⟩ ?_;rintro γ' ⟨ns,ms0,p,hw,hn,hM,hc,rfl⟩;have hl:ns.length=ps.length:=by rw[hn.length_eq,VU]
  have b1:=Jv (rkN ps o) ns;refine ite2 (fun g=>?_) (fun g=>?_)
  ·have g':0<((p:Nat):Int):=Yg g;obtain⟨h1,h2,h3⟩:=hw.2.resolve_left (by omega);rw[Z1]at h2;rw[QJ h2,QJ (by omega)]at h3;have hs:=Pe (rkN ps o) h1 h2 h3;have hn2:(Qs ns p).Perm (runI 1 ps.length):=(Jz h1 h2).trans hn;have b2:=Jv (rkN ps o) (Qs ns p)
   have ix:∀(i:Nat) (k:Int),i<ns.length->k=(i:Int)->atI (ns.map D.int) k=some (.int (ns.getD i 0)):=fun i k hi e=>by
    rw[e];exact QZ (f:=D.int) (QM (by rw[Zz,Zy hi];rfl))
   have lm:(ms0.map mvD).length=ms0.length:=Z1 ..;have inn:∀m∈ns,1<=m/\m<=ps.length:=fun m hm=>runI_mem.mp (hn.mem_iff.mp hm);refine⟨_,ix (p-1) _ (by omega) (by omega),_,ix p _ h2 rfl,?_⟩;refine⟨ps,ns,p,rfl,hF,inn,by omega,by omega,by simp,by omega,?_⟩;refine⟨ns,p,rfl,by omega,by omega,by omega,?_⟩;rw[ZQ];refine⟨Qs ns p,rs,rfl,inr _ hn2,by rw[KC h1 h2];omega,fun p' hw'=>?_⟩;rw[keys _ hn2]at hw';refine⟨⟨Qs ns p,ms0++[((p:Int),ns.getD (p-1) 0,ns.getD p 0,exM ps ns p)],p',hw',hn2,fun ms hms=>?_,?_,?_⟩,?_⟩
   ·rw[WG];exact hM _ (.step ns p ms hw (by omega) hms)
   ·rw[Yi,List.length_singleton];omega
   ·rw[ZX];rfl
   ·show(cntN _ (((Qs ns p).map D.int).map toI)).toNat<(cntN _ ((ns.map D.int).map toI)).toNat;rw[U6,U6,U6,e0 _ hn2,e0 _ hn];omega
  ·have g':¬0<((p:Nat):Int):=fun z=>g (ZF z);have hp0:p=0:=by omega
   subst hp0
   have:=hM [] (.done ns hw)
   rw[Wg]at this;exact hR ms0 this
def Sh(G:Glob K mg)(DD:Def K mg "_law_walked" JX ["_law_told","_law_strips_here","_law_order"])(Zm:Tq P w K mg base)
  : Pj P w K mg base:=by
 refine DD.oz (k:=2) V2 (fun _ _ _ _ _ _ E hr=>⟨_,(Qc (UO (N':=["_law_strip","_law_order"]) (φ:=[none,some 2]) (i:=3) V2.nd rfl rfl rfl (Own.CompOk.of (by rfl)) (J5 (K:=K) (pv 1)) (fun _ _ _ _ _=>⟨(gz 0 (show(["_law_strip","_law_order"]:List Str).Nodup from by decide +kernel)),VC,(VN (K:=K) ZT Yn Yv (VD (K:=K)) (pv 1) (az (jx K (pv 0) WY)))⟩)) (Qc (Pu.pz 4 V2.nd (VP (NQ rfl) (by rfl) G.list boot_list (az (VP FA (by rfl) G.range boot_range (bz WY (Qa Q7 (ln K G.len (pv 1)) WY)))))) (Qc (Pu.pz 5 V2.nd AC) (Qc (Pu.pz 6 V2.nd WY) (Qc (Qz (Va (VQ (K:=K) (Qt (T4 (K:=K)) (by rfl) G.isinstance YF (bz (pv 0) (V1 (v:=.ty "list") rfl G.list boot_list rfl))))) (Qd (Qj Up))
   Qw) (Qc (QH ZY rfl (J5 (K:=K) (pv 0)) (gz 7 V2.nd) (Qc (Qz (Va (VQ (K:=K) (fz Zm hr (WZ (pv 7) (WZ (pv 4) (WZ (pv 1) (WZ (pv 3) Qe))))))) (Qd (Qj Up))
   Qw) (Qc (Qz (PW.pt (QY (Q6 FZ (jx K (pv 3) (Qa Q5 (jx K (pv 7) WY) WY)) (jx K (pv 3) (Qa Q5 (jx K (pv 7) WY) WY)) (Qx _)) (Vb (T5 (Bz (Ni hr) (J3 (bz (jx K (pv 7) WY) (jx K (pv 7) WY))) (pv 5)))))) (Qd (Qj Up))
   Qw) (Qc (CC (Ni hr) (pv 5) (J3 (bz (jx K (pv 7) WY) (jx K (pv 7) WY))) QB rfl) (Qc (Pu.pz 6 V2.nd (Qa Q7 (pv 6) (jx K (pv 7) WY))) (Qc (T7 (jx K (pv 7) WY) (Kj (pv 4) (Qa Q5 (jx K (pv 7) WY) WY) Xl)) (Qd (T7 (jx K (pv 7) WY) (Kj (pv 4) (jx K (pv 7) WY) Xl))))))))) (Qd (Qj (QS (bz (pv 6) (pv 4))))))))))), (Qi (Qr (JA (KM (WX 1)) (Qk 0) UG (Jj (WX 1) (sz (Qf (WX 0) Qb)))) (Qk 3)) (Qi (Qr (BR (tz Qb (Vx (Vt (sz (WX 1))) Qb))) (Qk 4)) (Qi (Qr FI (Qk 5)) (Qi (Qr Qb (Qk 6)) (Qi (QD (VE (VV (Nt (tz (WX 0) XE)))) (Q8 U4) QG) (Qi (VY 0 (V7 [7] (Ti (WX 0)) (Qk 7) (Qi (QD (VE (VV (Qu (QR (WX 7) (QR (WX 4) (QR (WX 1) (QR (WX 3) Jo))))))) (Q8 U4) QG) (Qi (QD (VL (Q9 (N9 (Qf (WX 3) (Q3 (Qf (WX 7) Qb) Qb)) (Qf (WX 3) (Q3 (Qf (WX 7) Qb) Qb)))) (st_b (Sn (Uy (tz (Qf (WX 7) Qb) (Qf (WX 7) Qb))) (WX 5)))) (Q8 U4) QG) (Qi (Cp 5 (Uy (tz (Qf (WX 7) Qb) (Qf (WX 7) Qb))) Vq) (Qi (Qr (Vx (WX 6) (Qf (WX 7) Qb)) (Qk 6)) (Qi (PV 4 (Q3 (Qf (WX 7) Qb) Qb) (Qf (WX 7) Qb)) (PV 4 (Qf (WX 7) Qb) (Qf (WX 7) Qb))))))))) (VY 4 (VY 6 (Q8 (JM (tz (WX 6) (WX 4))))))))))))⟩) (.a fun ds R X h=>?_)
 ·obtain⟨ps,o,ms,rfl,hF,hz,hin,hM,hms,hR⟩:=h;refine⟨rfl,?_⟩;have hlm:(ps.map prD).length=ps.length:=Z1 ..;refine KI (xs:=ps) (emb:=prD) (fun q=>some (.int (o.idxOf q.1:Nat))) (by omega) (fun q hq=>?_) ?_
  ·exact⟨⟨_,rfl⟩,_,rfl,o,rfl,hin q hq,_,rfl,rfl⟩
  rw[mapD (fun q:Int×Int=>D.int (o.idxOf q.1:Nat))];have er:ps.map (fun q:Int×Int=>D.int (o.idxOf q.1:Nat))=(ps.map fun q:Int×Int=>((o.idxOf q.1:Nat):Int)).map D.int:=by rw[Y0];rfl
  rw[er];generalize ers:(ps.map fun q:Int×Int=>((o.idxOf q.1:Nat):Int))=rs;have lrs:rs.length=ps.length:=by rw[←ers,Z1]
  have rk:∀m:Int,1<=m/\m<=ps.length->rs.getD (m-1).toNat 0=rkN ps o m:=fun m hm=>by
   have hi:(m-1).toNat<ps.length:=by omega
   rw[←ers];unfold rkN hdN;rw[Zz,Zz,ZC,Zy hi];rfl
  have keys:∀ns:List Int,ns.Perm (runI 1 ps.length)->ns.map (fun m=>rs.getD (m-1).toNat 0)=ns.map (rkN ps o):=fun ns hn=>YN fun m hm=>rk m (runI_mem.mp (hn.mem_iff.mp hm))
  have rx:∀z:Int,1<=z/\z<=ps.length->atI (rs.map D.int) (z-1)=some (.int (rkN ps o z)):=fun z hz=>by
   have hi:(z-1).toNat<rs.length:=by omega
   rw[←rk z hz];have e:rs.getD (z-1).toNat 0=rs[(z-1).toNat]:=by rw[Zz,Zy hi];rfl
   rw[e];exact Vc (f:=D.int) (xs:=rs) (by omega) (by omega)
  refine⟨⟨by decide,by decide,by omega,by omega⟩,by omega,?_⟩;have e0:((((ps.map prD).length:Nat):Int)+1-1).toNat=ps.length:=by rw[hlm];omega
  refine⟨true,.same _,iteF ?_⟩
  refine⟨rfl,TQ (xs:=ms) (emb:=mvD) (fun i γ'=>∃(su:List Int×Int) (kvs:List (List Key×V)),γ'=[some (.bor (.lst (ms.map mvD))),some (.bor (plD ps)),some (.bor (.lst (o.map D.int))),some (.own (rs.map D.int)),some (.own (su.1.map D.int)),some (.own (.dT kvs)),some (.sh (.int su.2)),none]/\su.1.Perm (runI 1 ps.length)/\QT ps ((ms.take i).map (·.1)) (runI 1 ps.length,0)=some su/\Mv ps (rkN ps o) su.1 (ms.drop i)/\kvs.length<=i/\
    (su.1.Pairwise fun x y=>rkN ps o x=rkN ps o y->x<y)/\(su.1.Pairwise fun a b=>valV kvs [.inl a,.inl b]=none)/\∀a b,(valV kvs [.inl a,.inl b]).isSome=true->rkN ps o b<rkN ps o a) ⟨(runI 1 ps.length,0),[],?_,List.Perm.refl _,rfl,hM,Z4 _,?_,?_,fun a b h=>by cases h⟩ ?_ ?_⟩
  ·show _=([some (.bor (.lst (ms.map mvD))),some (.bor (plD ps)),some (.bor (.lst (o.map D.int))),some (.own (rs.map D.int)),some (.own ((runI 1 ps.length).map D.int)),some (.own (.dT [])),some (.sh (.int 0)),none]:List (Option S));rw[←e0];rfl
  ·exact(Kl ps.length).imp (fun {a b} (h:a<b)=>fun _=>h)
  ·exact(Kl ps.length).imp (fun {a b} _=>rfl)
  ·rintro i hi γ' ⟨st,kvs,rfl,hp,hw,hMi,lk,hst,hno,hme⟩;have hl:st.1.length=ps.length:=by rw[hp.length_eq,VU]
   have ed:ms.drop i=ms[i]::ms.drop (i+1):=Ya hi;rw[ed]at hMi;obtain⟨p,em,hfw,hp0,h1,h2,h3,hMn⟩:=hMi.step_of
   have ew:QT ps ((ms.take (i+1)).map (·.1)) (runI 1 ps.length,0)=some (Qs st.1 p,st.2+exM ps st.1 p):=by
    rw[ZS hi,ZX,WA,Pr ps _ _ _ st hw,JG,em,Z8 (by show ¬((p:Int)<1\/(ps.length:Int)<=(p:Int));omega),KE];rfl
   rw[em];have b1:p-1<st.1.length:=by omega
   have g1:st.1.getD (p-1) 0=st.1[p-1]:=by rw[Zz,Zy b1];rfl
   have g2:st.1.getD p 0=st.1[p]:=by rw[Zz,Zy h2];rfl
   have lst:(st.1.map D.int).length=ps.length:=by rw[Z1];exact hl
   have all:∀m∈st.1,1<=m/\m<=ps.length:=fun m hm=>runI_mem.mp (hp.mem_iff.mp hm)
   have inn:∀i:Nat,i<st.1.length->1<=st.1.getD i 0/\st.1.getD i 0<=ps.length:=fun i hi=>by
    have hm:st.1.getD i 0∈st.1:=by rw[Zz,Zy hi];exact ZP hi
    exact all _ hm
   obtain⟨A,x,y,B,ea,la,es,ex,ey⟩:=Uq h1 h2;have nd:st.1.Nodup:=hp.symm.nodup (X3 _)
   have x1:ixN (st.1.map D.int).length ((p:Int)-1)=some (p-1):=by
    unfold ixN;rw[lst,ZA (by omega),ZA (by omega)];congr 1;omega
   have x2:∀d:D,ixN ((st.1.map D.int).set (p-1) d).length (p:Int)=some p:=fun d=>by
    unfold ixN;rw[Yx,lst,ZA (by omega),ZA (by omega)];rfl
   have e1:((st.1.map D.int).set (p-1) (.int (st.1.getD p 0))).set p (.int (st.1.getD (p-1) 0))=(Qs st.1 p).map D.int:=by
    rw[←NA h1 h2,List.map_set,List.map_set,g1,g2]
   have n1:=inn (p-1) b1;have n2:=inn p h2;rw[ea]at nd hst hno
   have hxy:valV kvs [.inl x,.inl y]=none:=by
    have:=(YK.mp hno).2.1
    rw[ZU]at this;exact this.1 y ZK
   rw[ex,ey]at h3;obtain⟨m1,m2⟩:=BI (f:=rkN ps o) (v:=.bl true) nd hno hme h3;have m3:=Tj hst (show rkN ps o y=rkN ps o x->y<x from fun z=>by omega)
   rw[←es]at m1 m3;refine⟨ps,st.1,rs,p,rfl,hF,by omega,all,lrs,by rw[keys _ hp];exact hfw,hp0,iteF ?_⟩;refine⟨_,rfl,_,rx _ n1,_,rfl,_,rx _ n2,ite2 (fun g=>absurd (show rkN ps o (st.1.getD (p-1) 0)<=rkN ps o (st.1.getD p 0)from Yg g) (by rw[ex,ey];omega)) (fun _=>?_)⟩
   refine⟨_,rfl,_,rfl,by simp,[.inl (st.1.getD (p-1) 0),.inl (st.1.getD p 0)],rfl,?_⟩;rw[←ex,←ey]at hxy m1 m2;rw[hxy];refine⟨_,rfl,_,rfl,by simp,[.inl (st.1.getD (p-1) 0),.inl (st.1.getD p 0)],.bl true,rfl,rfl,by omega,?_⟩;refine⟨_,rfl,_,rfl,_,rfl,p-1,_,x1,rfl,_,rfl,_,rfl,p,_,x2 _,rfl,?_⟩;refine⟨(Qs st.1 p,st.2+exM ps st.1 p),putK kvs [.inl (st.1.getD (p-1) 0),.inl (st.1.getD p 0)] (.bl true),?_,(Jz h1 h2).trans hp,ew,hMn,ZM (U5 _ _ _) (by omega),m3,m1,m2⟩;show _=([some (.bor (.lst (ms.map mvD))),some (.bor (plD ps)),some (.bor (.lst (o.map D.int))),some (.own (rs.map D.int)),some (.own ((Qs st.1 p).map D.int)),some (.own (.dT (putK kvs [.inl (st.1.getD (p-1) 0),.inl (st.1.getD p 0)] (.bl true)))),some (.sh (.int (st.2+exM ps st.1 p))),none]:List (Option S));rw[←e1];rfl
  ·rintro γ' ⟨su,kvs,rfl,hp,hw,hMi,lk,hst,hno,hme⟩;rw[Y8]at hw;rw[List.drop_length]at hMi;obtain⟨ns',c',w1,w2,w3,w4⟩:=hM.cut (VU _) 0 ms.length (Z4 _);rw[Y8,hw]at w1;cases w1
   have fw:FW (ns'.map (rkN ps o)) 0:=by cases hMi with|done _ h=>exact h
   have z:invL (keyL ps (rkN ps o) ns')=0:=Ui (by unfold keyL;rw[YT];exact UE fw);exact⟨by simp,hR _ _ hw hp fw hst (by omega)⟩
def BK(G:Glob K mg)(Zn:Ak P w K mg base)(Zo:Nv P w K mg base)(Zd:Ci P w K mg base)(Zp:NM P w K mg base)(Zq:Kn P w K mg base)(Zr:Pj P w K mg base)(Zs:BE P w K mg base)(Zt:Nw P w K mg base)(Zu:SX P w K mg base)(Zv:P9 P w K mg base)(Zw:Kf P w K mg base)(Zx:B3 P w K mg base)(Zb:FT P w K mg base)
  : Sz P w K mg base Vj:=by
 refine Lam.Cd (k:=3) Vf (fun _ _ _ _ _ _ _ hr T=>⟨_,(Lam.JJ (Pu.pz 1 Vf.nd (fz Zn hr (az (fz Zd hr (bz (pv 0) WY)))))
   (Lam.JJ (Pu.pz 2 Vf.nd (fz Zo hr (dz (pv 0) (pv 1) (Qa QA (Qa Vm (fz Zb hr (bz (pv 0) WY)) WY) WY))))
   (Lam.JJ (Pu.pz 3 Vf.nd (fz Zd hr (bz (pv 0) WY)))
   (Lam.JJ (Pu.pz 4 Vf.nd (fz Zp hr (bz (fz Zs hr (az (pv 2))) (Qa Vm (pv 3) WY))))
   (Lam.Bx (Lam.AN (cq K hr (Qa QA (pv 3) WY) WY)
   (Lam.Sq (Lam.Al 2 Vf.nd (Lam.A0 (N':=["_law_strip","_law_order"]) (φ:=[none,some 4]) (x:="_law_strip") T hr (Lam.LamOk.of (by rfl)) rfl G.sorted (az (pv 2)) (fun _ _ _ _ _ _=>rfl) (fun _ _ _ _ _ _ _=>(Qa Q5 WY (VN (K:=K) ZT Yn Yv (VD (K:=K)) (pv 1) (az (jx K (pv 0) WY))))))))
   (Lam.Sv Qw))
   (Qc (Pu.pz 5 Vf.nd (VP (K4 (K:=K)) (by rfl) G.list boot_list (az (pv 2))))
   (Qc (Pu.pz 6 Vf.nd (VP (K4 (K:=K)) (by rfl) G.list boot_list (az (pv 4))))
   (Qc (Pu.pz 7 Vf.nd (fz Zq hr (bz (pv 5) (pv 6))))
   (Qc (Qz (PW.pt (QY (Va (VQ (K:=K) (fz Zt hr (bz (pv 5) (pv 2))))) (Vb (Va (VQ (K:=K) (fz Zu hr (bz (pv 6) (pv 4))))))))
   (Qd (Qj QB))
   Qw)
   (Qc (Pu.pz 8 Vf.nd (fz Zr hr (dz (pv 7) (pv 2) (pv 4))))
   (Qc (Qz (PW.pt (QY (T5 (Nu (pv 8))) (Vb (cn K hr (jx K (pv 8) WY) (fz Zv hr (bz (pv 2) (pv 4)))))))
   (Qd (Qj QB))
   Qw)
   (Qd (Qj (PX (Ut (JO (K:=K) (show _<cLine from hr.units0)) (ln K G.len (pv 7)) (fz Zw hr (bz (pv 2) (pv 4))) (Qx _)) (TY (Ut (JO (K:=K) (show _<cLine from hr.units0)) (jx K (pv 8) WY) (fz Zx hr (bz (pv 2) (pv 4))) (Qx _))))))))))))))))),
   (Qi (Qr (Qu (sz (Qu (tz (WX 0) Qb)))) (Qk 1))
    (Qi (Qr (Qu (uz (WX 0) (WX 1) (Nm (KF (Qu (tz (WX 0) Qb)) Qb) Qb))) (Qk 2))
    (Qi (Qr (Qu (tz (WX 0) Qb)) (Qk 3))
    (Qi (Qr (Qu (tz (Qu (sz (WX 2))) (KF (WX 3) Qb))) (Qk 4))
    (Cz (QD (Q9 (Jc (Nm (WX 3) Qb) Qb)) (Qr (Lam.Cj (Lam.Cm (Lam.Pa _) (Lam.Sj (Lam.Nj 1) (Lam.FF (Lam.Nj 0) (Lam.Pa _)))) (Q3 Qb (Jj (WX 1) (sz (Qf (WX 0) Qb)))) (sz (WX 2))) (Qk 2)) QG)
    (Qi (Qr (Nq (sz (WX 2))) (Qk 5))
    (Qi (Qr (Nq (sz (WX 4))) (Qk 6))
    (Qi (Qr (Qu (tz (WX 5) (WX 6))) (Qk 7))
    (Qi (QD (VL (VE (VV (Qu (tz (WX 5) (WX 2))))) (VE (VV (Qu (tz (WX 6) (WX 4)))))) (Q8 Vq) QG)
    (Qi (Qr (Qu (uz (WX 7) (WX 2) (WX 4))) (Qk 8))
    (Qi (QD (VL (st_b (AH (WX 8))) (Q9 (Jb (Qf (WX 8) Qb) (Qu (tz (WX 2) (WX 4)))))) (Q8 Vq) QG)
    (Q8 (CG (Jc (Vt (sz (WX 7))) (Qu (tz (WX 2) (WX 4)))) (Jc (Qf (WX 8) Qb) (Qu (tz (WX 2) (WX 4)))))))))))))))))⟩) (.a fun ds R X h=>?_)
 ·obtain⟨ns,rfl,hR⟩:=h;refine⟨rfl,?_⟩;refine⟨ns,0,rfl,by decide,_,rfl,fun hM=>?_⟩;generalize em:V4 (QO ns 0)=m at hM ⊢;refine⟨ns,0,rfl,by decide,⟨by decide,by decide⟩,(by show(0:Int)<41;decide),ns,m,_,rfl,hM,by omega,by omega,?_⟩;generalize en:(ns.getD (0:Int).toNat 0 / 2 % 41).toNat=n;have hn:n<=40:=by omega
  have hF:=NT (ns:=ns) hM n;have hlen:=Xv ns m n;generalize eps:Ve ns m n=ps at hF hlen ⊢;have hh:=XW ps;refine⟨ns,1,rfl,by decide,?_⟩;generalize QO ns 1=how;refine⟨ps,rfl,by omega,⟨by decide,by decide⟩,Qo ps,_,rfl,by omega,fun o ho=>?_⟩;have hol:=ho.length_eq;have hin0:=Xc hF ho;refine AO (fun γ'=>∃qs:List (Int×Int),qs.Perm ps/\γ'=[some (.bor (.scr ns)),some (.own (m.map D.int)),some (.own (qs.map prD)),some (.sh (.int how)),some (.own (o.map D.int)),none,none,none,none]) ?_ ?_
  ·refine⟨(by show(0:Int)<4;decide),ite2 (fun _=>?_) (fun _=>⟨ps,.refl _,rfl⟩)⟩;refine⟨⟨_,ps.map prD,ps.map fun q=>0-((o.idxOf q.1:Nat):Int),rfl,rfl,Lam.Pp ps,by rw[Z1];omega,by rw[Z1,Z1],fun i d k hd hk=>?_,fun qs hq _=>?_⟩⟩
   ·rw[ZC]at hd hk;cases e:ps[i]? with
    |none=>rw[e]at hd;cases hd
    |some q=>
     rw[e]at hd hk;cases hd
     cases hk
     have hi:q.1∈o:=hin0 q (Y5 e);exact⟨⟨_,rfl⟩,_,Bg _ _,o,rfl,hi,rfl⟩
   ·obtain⟨rs,h1,h2⟩:=Lam.SN (by rw[Z1]) hq;exact⟨rs,h1,by rw[h2];rfl⟩
  rintro γ' ⟨qs,hq,rfl⟩;have hFq:Field qs:=fun q h=>hF q (hq.mem_iff.mp h);have hql:=hq.length_eq;have ehold:Qo qs=Qo ps:=Lam.PK hF hFq hq;have hoq:o.Perm (Qo qs):=by rw[ehold];exact ho
  have hin:=Xc hFq hoq;refine⟨rfl,rfl,qs,o,rfl,hFq,by omega,hoq,fun ms hMv=>?_⟩;have cn:=hMv.count
  have lms:(ms.length:Int)<=780:=by
   have h2:=XI (rkN qs o) (runI 1 qs.length);rw[VU]at h2;have h3:=A2 qs.length (by omega);omega
  refine⟨qs,rfl,by omega,iteF ⟨o,rfl,by omega,iteF ?_⟩⟩;refine⟨qs,o,ms,rfl,hFq,by omega,hin,hMv,by omega,fun st c hwk hpm fw hst hinv=>?_⟩;obtain⟨g1,g2⟩:=Sw (ho.nodup_iff.mpr ((V9 ps).imp fun h=>WK h)) hin;have est:st=endsN qs o:=XN (hpm.trans g1.symm) (Fo fw hst) g2;have g0:decide (st=endsN qs o)=true:=ZF est;refine⟨_,rfl,qs,o,rfl,by omega,by omega,_,_,rfl,rfl,?_⟩;refine ite2 (fun g=>absurd g (by show ¬(!decide (st=endsN qs o))=true;rw[g0];decide)) (fun _=>?_);have ec:priM qs o qs.length=c:=by rw[NU];exact(Yd invL (N2 qs o).symm).trans hinv
  have lmm:(ms.map mvD).length=ms.length:=Z1 ..;have g1:decide ((((ms.map mvD).length:Nat):Int)=cntN (rkN qs o) (runI 1 qs.length))=true:=ZF (by rw[lmm];exact cn);have g2:decide (c=priM qs o qs.length)=true:=ZF ec.symm;refine⟨qs,o,rfl,by omega,hin,ite2 (fun _=>⟨_,rfl,qs,o,rfl,hFq,by omega,hin,?_⟩) (fun g=>absurd g1 g)⟩;show R (.sh (.bl (decide (c=priM qs o qs.length))));rw[g2];exact hR
end
end T
namespace T
open PySem PySem.Spec PyProof.Rows L2 Own M
def Bl{l:PySem.W.OpenLaw}{w:World}{K:Za}{h:Heap}{mg:Str->Option Value}{fa:Addr}(X:K.In h)(G0:h.Ns mainGlobals mg)(hfa:mg "law"=some (.ref fa))(a0:Pu.DI K "holders_of" U3)(a1:Pu.DI K "check_order" UH)(a2:Pu.DI K "own_numbers" Ub)(a3:Pu.DI K "exchange_cost" Uj)(a4:Pu.DI K "exchanged" Ul)(a5:Pu.DI K "first_wrong_place" UY)(a6:Pu.DI K "told_moves" U1)(a7:Pu.DI K "_law_at" Xh)(a8:Pu.DI K "_law_whole" Xa)(a9:Pu.DI K "_law_mix" Ur)(a10:Pu.DI K "_law_draw" Ux)(a11:Pu.DI K "_law_menu" U8)(a12:Pu.DI K "_law_holder" UI)(a13:Pu.DI K "_law_strips" UU)(a14:Pu.DI K "_law_row" Uk)(a15:Pu.DI K "_law_tuples" JY)(a16:Pu.DI K "_law_present" Xd)(a17:Pu.DI K "_law_price" Uv)(a18:Pu.DI K "_law_shuffled" Um)(a19:Pu.DI K "_law_ends" UA)(a20:Pu.DI K "_law_turned" UN)(a21:Pu.DI K "_law_good_move" U9)(a22:Pu.DI K "_law_walked" JX){f23:Addr}{od23 an23:Option Addr}{sl23:Array (Option Value)}{oc23 kV23 dc23 pm23 cd23 ct23:Value}(a23:PySem.W.nsIn K mainGlobals "law"=some (some (.ref f23)))(l23:K.lookup f23=some ⟨oc23,od23,.func (PySem.W.fnOf "law" "law" (Vi Vj) (QC Vj) (Qg Vj) .none kV23 dc23 pm23 an23 cd23 ct23),sl23⟩)(c23:PySem.W.codeIn K cd23 "law"=true)(k23:PySem.W.keepIn K (.ref f23)=true)(WM:PySem.W.nsIn K mainGlobals "bool"=some none)(WN:PySem.W.nsIn K mainGlobals "int"=some none)(WO:PySem.W.nsIn K mainGlobals "isinstance"=some none)(WQ:PySem.W.nsIn K mainGlobals "len"=some none)(WR:PySem.W.nsIn K mainGlobals "list"=some none)(WS:PySem.W.nsIn K mainGlobals "range"=some none)(WT:PySem.W.nsIn K mainGlobals "set"=some none)(WU:PySem.W.nsIn K mainGlobals "sorted"=some none)(WV:PySem.W.nsIn K mainGlobals "tuple"=some none){WW:Addr}(WL:Pu.EI K "BadOrder" WW){cc Pl:Addr}(hq:cd23=.ref cc)(hPK:K.lookup Pl=none)(hPC:PySem.W.codeHdIn K cc Pl=true)
  : ∃(fd:FuncData) (c:Addr),(∀(s:Shared) (v:Value),BindsTo s fd ⟨[v],[]⟩ [("_law_script",v)])/\K.lookup Pl=none/\PySem.W.codeHdIn K c Pl=true/\∀base:Heap,K.In base->base.Ns mainGlobals mg->PySem.W.CodeHd base c Pl->base.BuiltinsAt mg Pl->mainGlobals≠Pl->Lam.LawT l.prog w K mg base 4 fa fd "_law_script" (Pu.Ue K) Pl:=by
 have e:=hfa.symm.trans (WD X G0 a23);cases e
 have G:Glob K mg:=⟨Ym X G0 WM,Ym X G0 WN,Ym X G0 WO,Ym X G0 WQ,Ym X G0 WR,Ym X G0 WS,Ym X G0 WT,Ym X G0 WU,Ym X G0 WV,(WL.m X G0),(WL.k X G0)⟩;have F23:=X1 (st:=Vj) l23 c23 k23;refine⟨PySem.W.fnOf "law" "law" (Vi Vj) (QC Vj) (Qg Vj) .none kV23 dc23 pm23 an23 cd23 ct23,cc,fun s v=>.of_eq rfl,hPK,hPC,fun base _ _ hC hB hg=>?_⟩;have C0:=@Ai l.prog w K mg base G (a0.e X G0);have C2:=@Ap l.prog w K mg base G (a2.e X G0);have C3:=@AK l.prog w K mg base G (a3.e X G0);have C4:=@AA l.prog w K mg base G (a4.e X G0);have C5:=@Sk l.prog w K mg base G (a5.e X G0);have C7:=@A7 l.prog w K mg base G (a7.e X G0);have C8:=@N8 l.prog w K mg base G (a8.e X G0);have C9:=@Ce l.prog w K mg base G (a9.e X G0);have C11:=@Fd l.prog w K mg base G (a11.e X G0);have C12:=@BP l.prog w K mg base G (a12.e X G0);have C16:=@SE l.prog w K mg base G (a16.e X G0);have C17:=@Af l.prog w K mg base G (a17.e X G0);have C18:=@BV l.prog w K mg base G (a18.e X G0);have C19:=@B4 l.prog w K mg base G (a19.e X G0);have C20:=@F5 l.prog w K mg base G (a20.e X G0);have C1:=@NO l.prog w K mg base G (a1.e X G0) (B6 C0);have C10:=@B5 l.prog w K mg base G (a10.e X G0) C9 C7;have C14:=@NH l.prog w K mg base G (a14.e X G0) C8;have C15:=@SM l.prog w K mg base G (a15.e X G0) C8;have C21:=@Sr l.prog w K mg base G (a21.e X G0) (FN C8);have C6:=@FD l.prog w K mg base G (a6.e X G0) C1 C2 C5 C4 C3;have C13:=@F3 l.prog w K mg base G (a13.e X G0) C10 C12;have C22:=@Sh l.prog w K mg base G (a22.e X G0) C21;have C23:=@BK l.prog w K mg base G  (S9 C11) (Bm C13) (Be C10) (SS C18) C6 C22 (AR C16) (Aj C15) (Bw C14) C19 C20 (Fw C17) (CI C7);exact(C23 fa _ cc Pl F23 hq hC hB hg).imp fun _ _ _ _ z=>Pu.UB z
end T
structure PySem.W.Fast:Prop where (tw6261171321710564240 tw12035543663217172832 tw7285831637366344096 tw8139446260356651840 tw10194214870888381377 tw14605475977042329634 tw13613389337853890658 tw5710352810047903234 tw8845948592504476290 tw5943615353796720322 tw854672043486920418 tw16918142520717836002 tw12650227153406036898 tw9827611241772824514 tw18271765397613321571 tw8786845475756687747 tw962249319262314115 tw6920025499834156931 tw9705369935200584708 tw16900585090789463172 tw7931954228133644484 tw15210460434692882756 tw16988594194934179204 tw14408467834264909316 tw6003592369242284676 tw8680618190296315748 tw6096870434436554692 tw16874414664073847141 tw14112120415840820805 tw8971681128754269829 tw6013650952508056549 tw12876593826246646150 tw1283573590049709638 tw10151614658164546246 tw15448777597813406727 tw7541376364202648679 tw916688007631850727 tw10468897437004108103 tw7561962642945842631 tw14423016249246215783 tw6493675099481229991 tw14388413352921862983 tw17412513182730590376 tw3198273250746619240 tw6146466698421160424 tw8578967721145079368 tw16279017445314806889 tw11984860410966161705 tw478397134777739593 tw9338880189281336777 tw11421104123398558409 tw6679000441734713097 tw11462657047076912937 tw5092126040588915529 tw6630282737653679977 tw5722555394403360649 tw15963957912490385321 tw16665356096714516522 tw7587867833416757354 tw223196866484506986 tw7602750509071080938 tw3906422546958946986 tw5973336351898378 tw17254628856546378698 tw17766124071918456875 tw2726145150015617163 tw10408619693164818603 tw11189663835948082411 tw6735469591233947147 tw11572276166412790252 tw9395597316736121324 tw15127952751104407116 tw7443164779274717132 tw6975626372687586284 tw6341385896187600973 tw14221871629145739373 tw6977235738560659597 tw1979046830993913005 tw5547880265284301325 tw12327344320403497869 tw1296372626096458094 tw13149542772513725838 tw14216461552129070702 tw18360836774138917550 tw9515321703003882446 tw9632637143895797775 tw1222501895301464239 tw14309029715525759279 tw18049259029815946575 tw8910688616870698383 tw17546987761886426671 tw14156339335166549743 tw4464667379195679631 tw10746939051530499983 tw3944455755892515727 tw1619370222455835599 tw11919684107302817808 tw16666115896133265680 tw13788865657473638832 tw11173166077151949232 tw17723269269007445456 tw1909839239134663600 tw7402772977682362352 tw13480597658395109393 tw6526513181336321169 tw5305695767678018737 tw18235018508131145009 tw9653205799055464817 tw14933488823109170641 tw13063255318551535185 tw16228859317800081009 tw14937148579258118897 tw8745173199167986481 tw968543383800913938 tw8311105775298645138 tw18056204656126283186 tw9586661884143658450 tw15745060978354687538 tw5445675070477442610 tw3806461066607280882 tw593664089772873458 tw17049073672415399826 tw3694387603708644403 tw756986910166887507 tw9680049019630578899 tw526661571585557843 tw12256691761398290035 tw4964404232476042931 tw7599030153372000211 tw8994805998705820820 tw1316899845605233204 tw7405470565712601684 tw14662719640536284756 tw6393057467494473332 tw16441767309411116884 tw1657046137382972276 tw44515089128380308 tw17924962123080129492 tw9319419806997503061 tw10076875182536531189 tw11071866545980184053 tw13867016617364057877 tw7972355790832749782 tw1831369966402600214 tw938957012672100182 tw15586856896208213910 tw7481773727815407895 tw11317269593406749143 tw12929236823980519991 tw16269998043997814551 tw17437398255818446647 tw10323567911944850327 tw15592783773403524120 tw17976346133209864248 tw3426965039497071768 tw12114367134241206712 tw11483363362512501592 tw6707263387256302456 tw4263547005107023736 tw11587913694232046552 tw6715704184327994328 tw8601526012738112665 tw240079331474827513 tw8617132851906690553 tw5736228467230860889 tw2276873387470009241 tw1917390692228455546 tw5363155397800616058 tw16016680123952269466 tw9316284785662701082 tw10649812596888941114 tw11846516554057052986 tw10442977500740753435 tw11195088057067217083 tw2101223539094209819 tw10240429198257060155 tw537732549218416091 tw15987511855507821083 tw16682646113365352987 tw5441572764236566299 tw7585704167023126363 tw11187280957316144476 tw8241969332805030556 tw4983512094521778876 tw14352222514683661020 tw4906443690749236188 tw968637785700007965 tw12256110704074387645 tw14326522830991817085 tw1290173365657195037 tw13512415458860472957 tw9270619061800557181 tw13906196782645349694 tw10385596870988639582 tw7132942103183128926 tw11933466356278235678 tw7302859855154151998 tw4280387734431099710 tw14197085184047435646 tw16224233720428807070 tw6214579283222962271 tw5771443017162679487 tw4211527573377953055 tw6928974457908997727 tw9557655116582395615 tw16656083040417767359 tw4187836735477901279:True)
open PySem PySem.W PyProof.Rows
set_option maxRecDepth 100000 in
set_option maxHeartbeats 0 in
theorem PySem.Challenge.cw_stripmeld_k15_moves_told_holds : PySem.Challenge.rw_stripmeld_k15_moves_told.Holds := by
 w_on;o_law;k_head;(case hw=>w_witness2)
 k_fill
 refine Lam.Ac (l:=PySem.Challenge.rw_stripmeld_k15_moves_told) (n:=63) (k:=4) (x:="_law_script") (sp:=Pu.Ue) rfl (by decide) rfl ⟨rfl,by decide,by decide⟩ (fun w h Y=>PySem.W.km_in_of Y) (fun w h Y=>PySem.W.km_tabs_of Y _ ZK) ?F ?S
 case F=>
  intro w mg fa h KX G hmg
  refine' T.Bl KX G hmg ?a0 ?a1 ?a2 ?a3 ?a4 ?a5 ?a6 ?a7 ?a8 ?a9 ?a10 ?a11 ?a12 ?a13 ?a14 ?a15 ?a16 ?a17 ?a18 ?a19 ?a20 ?a21 ?a22 ?a23 ?l23 ?c23 ?k23 ?WM ?WN ?WO ?WQ ?WR ?WS ?WT ?WU ?WV ?WL ?hq ?hPK ?hPC
  (case a0|a1|a2|a3|a4|a5|a6|a7|a8|a9|a10|a11|a12|a13|a14|a15|a16|a17|a18|a19|a20|a21|a22=>apply Pu.di<;>k_is)
  (case a23|l23|c23|k23|WM|WN|WO|WQ|WR|WS|WT|WU|WV=>k_is)
  (case WL=>apply Pu.ei<;>first|(k_is;done)|k_exc)
  (case hq=>exact rfl)
  (case hPK|hPC=>kernel_rfl)
 case S=>exact fun K H a ns hl hO hS=>⟨a,ns,rfl,hS,fun _=>rfl⟩
