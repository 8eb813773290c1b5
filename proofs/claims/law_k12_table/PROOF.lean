import PyProof.Rows.All
import Wide.All
import OpenK.AllK
import Wide.FinOn
import Lean
import PyProof.EqAt
import PyProof.EqKinds
import PyProof.TupleCall
import PySem.Challenge.RW_stripmeld_k12_table
set_option Elab.async false
set_option linter.all false
set_option maxRecDepth 100000
noncomputable section
def Z4:=@PySem.wpAny_bind
def Z5:=@List.getElem?_eq_getElem
def Z6:=@List.length_map
def Z7:=@List.getD_eq_getElem?_getD
def Z8:=@PySem.wpAny_pure
def Z9:=@PySem.Heap.get?_push_of_some
def ZA:=@List.mem_singleton
def ZC:=@decide_eq_true
def ZD:=@List.getElem?_map
def ZE:=@Option.some.inj
def ZF:=@Nat.le_refl
def ZG:=@if_neg
def ZH:=@if_pos
def ZI:=@List.size_toArray
def ZJ:=@Bool.false_ne_true
def ZK:=@PySem.Heap.lt_size
def ZL:=@PySem.Heap.get?_push_size
def ZM:=@decide_eq_false
def ZN:=@Int.toNat_natCast
def ZO:=@List.map_cons
def ZP:=@List.getElem?_eq_some_iff
def ZQ:=@List.mem_filter
def ZR:=@List.take_succ_eq_append_getElem
def ZS:=@List.mem_map
def ZT:=@List.mem_cons
def ZU:=@List.mem_append
def ZV:=@List.getElem_mem
def ZW:=@Nat.le_trans
def ZX:=@List.length_append
def ZY:=@List.mem_append_right
def ZZ:=@of_decide_eq_true
def Ya:=@List.mem_cons_of_mem
def Yb:=@List.mem_of_getElem?
def Yc:=@PySem.PassesOwn.never
def Yd:=@List.getElem?_append_left
def Ye:=@Nat.lt_of_lt_of_le
def Yf:=@Nat.ne_of_lt
def Yg:=@congrArg
def Yh:=@List.map_append
def Yi:=@List.nodup_cons
def Yj:=@List.mem_cons_self
def Yk:=@Array.length_toList
def Yl:=@List.getElem?_append_right
def Ym:=@PySem.W.mg_none_of
def Yn:=@List.length_take
def Yo:=@List.mem_iff_getElem
def Yp:=@List.mem_range
def Yq:=@PySem.wpAny_newObj_type
def Yr:=@List.map_map
def Ys:=@Classical.byContradiction
def Yt:=@List.length_cons
def Yu:=@List.lookup_cons
def Yv:=@List.take_length
def Yw:=@List.pairwise_iff_getElem
def Yx:=@PySem.Heap.SameBut.update
def Yy:=@PySem.Heap.get?_update_self
def Yz:=@List.length_filter_le
def Y0:=@Nat.zero_le
def Y1:=@PySem.W.kia_one
def Y2:=@PySem.F.plainAttrs_list
def Y3:=@PySem.wpAny_mono
def Y4:=@Bool.and_eq_true
def Y5:=@List.nodup_append
def Y6:=@Array.getElem?_eq_getElem
def Y7:=@Array.getElem?_toList
def Y8:=@List.getElem?_take_of_lt
def Y9:=@PySem.Obj.data_mapFields
def YA:=@List.filterMap_cons
def YB:=@List.replicate_succ
def YC:=@List.map_congr_left
def YD:=@List.cons_append
def YE:=@List.length_singleton
def YF:=@List.filterMap_append
def YG:=@List.length_set
def YH:=@List.range_succ
def YI:=@PySem.F.slot_dict_valueiterator_next
def YJ:=@Nat.pow_le_pow_right
def YK:=@PySem.wpAny_truthy_bool
def YL:=@Nat.lt_irrefl
def YM:=@PySem.wpAny_typeNameOfWhole_valiter
def YN:=@PySem.mem_of_lookup
def YO:=@PySem.wpAny_call_entry
def YQ:=@PySem.boot_len
def YR:=@List.filterMap_eq_map'
def YS:=@Nat.lt_of_le_of_lt
def YT:=@PyProof.Rows.F.plain_set_update_loop
def YU:=@PySem.wpAny_passesOwn
def YV:=@List.flatten_cons
def YW:=@PySem.wpAny_setState_of
def YX:=@List.length_range
def YY:=@decide_eq_true_eq
def YZ:=@List.mem_append_left
def Wa:=@PySem.Around.under_plainId
def Wb:=@PySem.wpAny_setField
def Wc:=@List.all_eq_true
def Wd:=@PySem.wpAny_typeNameOf_valiter
def We:=@PySem.F.slot_list_append
def Wf:=@PySem.F.type_list_append
def Wg:=@List.length_eq_zero_iff
def Wh:=@PySem.F.slot_list_index
def Wi:=@List.filter_cons_of_pos
def Wj:=@List.filter_cons_of_neg
def Wk:=@List.any_cons
def Wl:=@List.append_nil
def Wm:=@List.find?_cons
def Wn:=@PySem.codeAny_builtin
def Wo:=@List.filter_append
def Wp:=@Int.emod_lt_of_pos
def Wq:=@List.map_singleton
def Wr:=@List.getElem?_set_self
def Ws:=@PySem.Heap.get?_update_other
def Wt:=@List.take_of_length_le
def Wu:=@Nat.testBit_lt_two_pow
def Wv:=@List.getElem_take
def Ww:=@List.nodup_nil
def Wx:=@PySem.Obj.isFreed_of_fields
def Wy:=@List.getElem?_eq_none
def Wz:=@List.dropLast_concat_getLast
def W1:=@PyProof.Rows.callWith_type1
def W2:=@List.getElem?_set_ne
def W3:=@List.pairwise_append
def W4:=@List.ext_getElem
def W5:=@List.getElem_map
def W6:=@PySem.wpAny_holding
def W7:=@Int.emod_nonneg
def W8:=@Nat.ge_two_pow_of_testBit
def W9:=@PyProof.Rows.boot_isinstance
def WA:=@Nat.le_of_lt
def WB:=@PySem.codeAny_mono
def WC:=@PySem.F.args_tuple_add_2
def WD:=@Nat.lt_trans
def WE:=@PyProof.Rows.F.entry_set_update_loop
def WG:=@Bool.false_eq_true
def WH:=@List.length_filterMap_le
def WI:=@List.idxOf_lt_length_iff
def WJ:=@List.filterMap_cons_some
def WK:=@List.filterMap_cons_none
def WL:=@List.take_zero
def WM:=@PySem.F.entry_tuple_add
def WN:=@PySem.wpAny_callSpecial?_slot
def WO:=@Nat.add_sub_cancel_left
def WQ:=@PySem.F.type_list_index
def WR:=@PySem.fits_of_scanBound
def WS:=@Nat.lt_succ_of_lt
def WT:=@Int.emod_eq_of_lt
def WU:=@PySem.F.slot_tuple_add
def WV:=@Array.getElem?_eq_none
def WW:=@PySem.plainId_quiet
def WX:=@Bool.true_and
def WY:=@List.sum_cons
def WZ:=@List.length_drop
def Qa:=@if_false
def Qb:=@List.not_mem_nil
def Qc:=@List.flatten_replicate_singleton
def Qd:=@PySem.wpAny_isOneOf_valiter
def Qe:=@List.getElem?_reverse
def Qf:=@PySem.wpAny_execs_nil
def Qg:=@Bool.eq_iff_iff
def Qh:=@Nat.le_of_eq
def Qi:=@Option.map_some
def Qj:=@List.forIn_cons
def Qk:=@Nat.lt_or_ge
def Ql:=@List.cons.injEq
def Qm:=@Int.natCast_pow
def Qn:=@beq_eq_false_iff_ne
def Qo:=@List.filter_sublist
def Qp:=@List.filter_eq_self
def Qq:=@List.length_reverse
def Qr:=@List.mem_map_of_mem
def Qs:=@Bool.and_false
def Qt:=@List.mem_filterMap
def Qu:=@List.getElem_idxOf
def Qv:=@List.getElem_range
def Qw:=@PySem.W.mg_of
def Qx:=@List.take_sublist
def Qy:=@List.ext_getElem?
def Qz:=@List.map_nil
def Q0:=@Int.ne_of_lt
abbrev Za:=PySem.W.Frag
namespace L2
open PySem PySem.Spec PyProof.Rows
abbrev Key:=Sum Int Str
def JS:Key->Value->Bool
 | .inl k,v=>Value.isInt k v
 | .inr x,v=>Value.isStrOf x v
def keyH(w:World):Key->Int
 | .inl k=>hashInt k
 | .inr x=>hashStr w x
def Jm:∀{k:Key}{v:Value},JS k v=true->(∃i t,k=Sum.inl i/\v=Value.int i t)\/(∃x t,k=Sum.inr x/\v=Value.str x t)
 | .inl i,v,h=>by
  obtain⟨t,e⟩:=Value.isInt_shape (k:=i) (v:=v) h;exact .inl ⟨i,t,rfl,e⟩
 | .inr x,v,h=>by
  obtain⟨t,e⟩:=Value.isStrOf_shape (x:=x) (v:=v) h;exact .inr ⟨x,t,rfl,e⟩
def A3(i:Int)(t:Tok):JS (.inl i) (.int i t)=true:=by simp[JS,Value.isInt]
def Ff(x:Str)(t:Tok):JS (.inr x) (.str x t)=true:=by simp[JS,Value.isStrOf]
def DR(a b:Int):decide ((Sum.inl a:Key)=Sum.inl b)=(a==b):=by
 by_cases e:a=b
 ·subst e;simp
 ·have h:¬(Sum.inl a:Key)=Sum.inl b:=fun q=>e (Sum.inl.inj q);rw[ZM h];exact(Qn.mpr e).symm
def Fu(a b:Str):decide ((Sum.inr a:Key)=Sum.inr b)=decide (a=b):=by
 by_cases e:a=b
 ·subst e;simp
 ·have h:¬(Sum.inr a:Key)=Sum.inr b:=fun q=>e (Sum.inr.inj q);rw[ZM h,ZM e]
def EE(a:Int)(b:Str):decide ((Sum.inl a:Key)=Sum.inr b)=false:=ZM (fun q=>nomatch q)
def BF(a:Str)(b:Int):decide ((Sum.inr a:Key)=Sum.inl b)=false:=ZM (fun q=>nomatch q)
def V6(prog:Program)(w:World):PySem.KeyKind prog w Key where
 is:=JS
 hash:=keyH w
 inj:=fun v a b ha hb=>by
  rcases Jm ha with⟨i,t,rfl,rfl⟩|⟨x,t,rfl,rfl⟩
  ·rcases Jm hb with⟨j,u,rfl,e⟩|⟨y,u,rfl,e⟩
   ·injection e with e1 _;rw[e1]
   ·exact nomatch e
  ·rcases Jm hb with⟨j,u,rfl,e⟩|⟨y,u,rfl,e⟩
   ·exact nomatch e
   ·injection e with e1 _;rw[e1]
 byValue:=fun k v h=>by
  rcases Jm h with⟨i,t,rfl,rfl⟩|⟨x,t,rfl,rfl⟩<;>rfl
 pyHash:=fun hv h=>by
  rcases Jm hv with⟨i,t,rfl,rfl⟩|⟨x,t,rfl,rfl⟩
  ·exact wpAny_pyHash_int h
  ·exact wpAny_pyHash_str h
 eqBool:=fun hu hv h=>by
  rcases Jm hu with⟨i,t,rfl,rfl⟩|⟨x,t,rfl,rfl⟩
  ·rcases Jm hv with⟨j,u,rfl,rfl⟩|⟨y,u,rfl,rfl⟩
   ·rw[DR]at h;exact wpAny_eqBool_int h
   ·rw[EE]at h;exact SeqAt.EqAt.int_str i t y u _ _ _ _ h
  ·rcases Jm hv with⟨j,u,rfl,rfl⟩|⟨y,u,rfl,rfl⟩
   ·rw[BF]at h;exact SeqAt.EqAt.str_int x t j u _ _ _ _ h
   ·rw[Fu]at h;exact wpAny_eqBool_str h
 «strs»:=fun k x t v h=>by
  rcases Jm h with⟨i,u,rfl,e⟩|⟨y,u,rfl,e⟩
  ·exact nomatch e
  ·injection e with e1 _;subst e1;cases v<;>rfl
def Ef(prog:Program)(w:World)(i:Int)(t:Tok):(V6 prog w).is (.inl i) (.int i t)=true:=A3 i t
def BN(prog:Program)(w:World)(x:Str)(t:Tok):(V6 prog w).is (.inr x) (.str x t)=true:=Ff x t
inductive V where
 |non|bl (b:Bool)|int (i:Int)|str (x:Str)|byt (b:Array UInt8)|flt (b:UInt64)|ref (a:Addr)|ty (n:String)
 deriving DecidableEq
def RelV:V->Value->Prop
 | .non,u=>u=Value.none
 | .bl b,u=>u=Value.bool b
 | .int i,u=>∃t,u=Value.int i t
 | .str x,u=>∃t,u=Value.str x t
 | .byt b,u=>∃t,u=Value.bytes b t
 | .flt b,u=>∃t,u=Value.float b t
 | .ref a,u=>u=Value.ref a
 | .ty n,u=>u=Value.type n
abbrev Vals:List V->List Value->Prop:=Paired RelV
def Vals.length {xs:List V}{us:List Value} (r:Vals xs us):xs.length=us.length:=Paired.length r
def Vals.get:∀{xs:List V}{us:List Value}{i:Nat}{x:V},Vals xs us->xs[i]?=some x->∃u,us[i]?=some u/\RelV x u
 |_,_,_,_,.nil,e=>by simp at e
 |_,_,0,_,.cons r _,e=>by simp at e;subst e;exact⟨_,rfl,r⟩
 |_,_,i+1,x,.cons _ t,e=>by
  obtain⟨u,h1,h2⟩:=Vals.get (i:=i) (x:=x) t (by simpa using e);exact⟨u,by simpa using h1,h2⟩
def Vals.set {x:V}{u:Value} (r:RelV x u):∀{xs:List V}{us:List Value} (i:Nat),Vals xs us->Vals (xs.set i x) (us.set i u)
 |_,_,_,.nil=>.nil
 |_,_,0,.cons _ t=>.cons r t
 |_,_,i+1,.cons q t=>.cons q (Vals.set r i t)
def Vals.append:∀{xs ys:List V}{us ws:List Value},Vals xs us->Vals ys ws->Vals (xs++ys) (us++ws)
 |_,_,_,_,.nil,s=>s
 |_,_,_,_,.cons r t,s=>.cons r (Vals.append t s)
def Vals.take:∀{xs:List V}{us:List Value} (n:Nat),Vals xs us->Vals (xs.take n) (us.take n)
 |_,_,0,_=>.nil
 |_,_,_+1,.nil=>.nil
 |_,_,n+1,.cons r t=>.cons r (Vals.take n t)
def Vals.drop:∀{xs:List V}{us:List Value} (n:Nat),Vals xs us->Vals (xs.drop n) (us.drop n)
 |_,_,0,r=>r
 |_,_,_+1,.nil=>.nil
 |_,_,n+1,.cons _ t=>Vals.drop n t
def RelO:Option V->Option Value->Prop
 |some v,some u=>RelV v u
 |none,none=>True
 |_,_=>False
def KV{κ:Type}:List (κ×V)->List (κ×Value)->Prop:=Paired fun(p:κ×V) (q:κ×Value)=>p.1=q.1/\RelV p.2 q.2
def kV:Key->V
 | .inl i=>.int i
 | .inr x=>.str x
inductive HO where
 |lst (xs:List V)
 |tup (xs:List V)
 |dK (kvs:List (Key×V))|dT (kvs:List (List Key×V))
 |set (S:Int->Bool) (n:Nat)
 |ins (C dx:Addr) (fs:List (Str×V))
 |own (x:Addr)
 |xd (fs:List (Str×V))
 |met (f x:Addr)
 |rng (lo hi:Int)
 |frz (o:Obj) (u:HO)
 |tbl (ps:Array Value)
 |ext (φ:Heap->Prop)
abbrev Hp:=Addr->Option HO
def upd(H:Hp)(a:Addr)(o:HO):Hp:=fun b=>if b=a then some o else H b
def QR{H:Hp}{a:Addr}{o:HO}:upd H a o a=some o:=by unfold upd;rw[ZH rfl]
def QS{H:Hp}{a b:Addr}{o:HO}(h:b≠a):upd H a o b=H b:=by unfold upd;rw[ZG h]
def TR{H:Hp}{a:Addr}{o u:HO}:upd (upd H a o) a u=upd H a u:=by
 funext b;unfold upd;split<;>rfl
def NA{H:Hp}{a b:Addr}{o u:HO}(h:H a=some o)(h':H b=some u)(d:o≠u):a≠b:=by
 intro e;subst e;rw[h]at h';exact d (ZE h')
def V2{H:Hp}{a b:Addr}{o:HO}(h:H a=some o)(h':H b=none):a≠b:=by
 intro e;subst e;rw[h]at h';cases h'
section
variable (P:Program) (w:World)
def ObjOk(H:Hp)(h:Heap)(a:Addr):HO->Prop
 | .lst xs=>xs.length<=sizeLine/\∃(its:List Value) (n:Nat),Vals xs its/\h.get? a=some {cls:=.type "list",data:=.seq its.toArray n}
 | .tup xs=>xs.length<=sizeLine/\∃its:List Value,Vals xs its/\IsTup h a its.toArray
 | .dK kvs=>kvs.length<=sizeLine/\(a==sysModules)=false/\∃vs,KV kvs vs/\h.DictOf (V6 P w) a vs
 | .dT kvs=>kvs.length<=sizeLine/\(a==sysModules)=false/\∃xs:List (List Key×Addr×Value),
   Paired (fun(p:List Key×V) (q:List Key×Addr×Value)=>p.1=q.1/\H q.2.1=some (.tup (p.1.map kV))/\RelV p.2 q.2.2) kvs xs/\
   ∃o es ep,h.get? a=some o/\o.ExactDict/\o.data=.dict es ep/\es.toList=xs.map (entryOfKey (tupleKind (V6 P w)))/\(xs.map (·.1)).Nodup
 | .set S n=>h.SetOf (intKind P w) a S n
 | .ins C dx fs=>H dx=some (.own a)/\fs.length<=1000/\dx≠a/\h.get? a=some (PySem.W.instObj C dx)/\
   ∃mA,h.Ns1 dx mA/\(∀f,RelO (fs.lookup f) (mA f))/\PySem.Within mA (fs.map (·.1))
 | .own _=>∃o,h.get? a=some o
 | .xd fs=>∃mA,h.Ns1 a mA/\∀f,RelO (fs.lookup f) (mA f)
 | .rng lo hi=>∃t u v,h.get? a=some {cls:=.type "range",data:=.fields #[.int lo t,.int hi u,.int 1 v]}
 | .frz o u=>h.get? a=some o/\ObjOk H h a u
 | .tbl ps=>h.get? a=some {cls:=.none,data:=.fields ps}
 | .met f x=>h.get? a=some (PySem.W.methodObj (.ref f) (.ref x))
 | .ext φ=>φ h/\(∃o,h.get? a=some o)/\∀h1 h2:Heap,φ h1->(∀o,h1.get? a=some o->h2.get? a=some o)->φ h2
def HOk(H:Hp)(h:Heap):Prop:=∀a o,H a=some o->ObjOk P w H h a o
end
section
variable {P:Program}{w:World}{H H':Hp}{h h':Heap}{a:Addr}{o:HO}
def ObjOk.lt (x:ObjOk P w H h a o):a<h.objs.size:=by
 cases o with
 |lst xs=>obtain⟨_,_,_,_,e⟩:=x;exact ZK e
 |tup xs=>obtain⟨_,_,_,p⟩:=x;exact p.lt
 |dK kvs=>obtain⟨_,_,_,_,o,_,_,e,_⟩:=x;exact ZK e
 |dT kvs=>obtain⟨_,_,_,_,o,_,_,e,_⟩:=x;exact ZK e
 |set S n=>obtain⟨o,_,_,_,e,_⟩:=x;exact ZK e
 |ins C dx fs=>obtain⟨_,_,_,e,_⟩:=x;exact ZK e
 |own y=>obtain⟨_,e⟩:=x;exact ZK e
 |xd fs=>obtain⟨_,⟨_,_,_,e,_⟩,_⟩:=x;exact ZK e
 |rng lo hi=>obtain⟨_,_,_,e⟩:=x;exact ZK e
 |frz ob u=>obtain⟨e,_⟩:=x;exact ZK e
 |tbl ps=>exact ZK (show h.get? a=some _ from x)
 |met f y=>exact ZK (show h.get? a=some _ from x)
 |ext φ=>obtain⟨_,⟨_,e⟩,_⟩:=x;exact ZK e
def Paired.mapP {α β:Type}{F G:α->β->Prop}:∀{l₁:List α}{l₂:List β},Paired F l₁ l₂->(∀a b,F a b->G a b)->Paired G l₁ l₂
 |_,_,.nil,_=>.nil
 |_,_,.cons r t,f=>.cons (f _ _ r) (Paired.mapP t f)
def ObjOk.stay (x:ObjOk P w H h a o) (k:∀b u,(b=a\/H b=some (.own a))->h.get? b=some u->h'.get? b=some u)
  (ho:∀b,H b=some (.own a)->H' b=some (.own a)) (ht:∀b xs,H b=some (.tup xs)->H' b=some (.tup xs)):ObjOk P w H' h' a o:=by
 induction o with
 |lst xs=>obtain⟨z,its,n,r,e⟩:=x;exact⟨z,its,n,r,k _ _ (.inl rfl) e⟩
 |tup xs=>obtain⟨z,its,r,ob,e,c⟩:=x;exact⟨z,its,r,ob,k _ _ (.inl rfl) e,c⟩
 |dK kvs=>obtain⟨z,y,vs,r,ob,es,ep,e,c⟩:=x;exact⟨z,y,vs,r,ob,es,ep,k _ _ (.inl rfl) e,c⟩
 |dT kvs=>
  obtain⟨z,y,xs,r,ob,es,ep,e,c⟩:=x;exact⟨z,y,xs,Paired.mapP r fun p q z=>⟨z.1,ht _ _ z.2.1,z.2.2⟩,ob,es,ep,k _ _ (.inl rfl) e,c⟩
 |set S n=>obtain⟨ob,es,ep,t,e,c⟩:=x;exact⟨ob,es,ep,t,k _ _ (.inl rfl) e,c⟩
 |ins C dx fs=>
  obtain⟨d,z,ne,e,mA,⟨od,es,ep,e2,c⟩,r⟩:=x;exact⟨ho _ d,z,ne,k _ _ (.inl rfl) e,mA,⟨od,es,ep,k _ _ (.inr d) e2,c⟩,r⟩
 |own y=>obtain⟨ob,e⟩:=x;exact⟨ob,k _ _ (.inl rfl) e⟩
 |xd fs=>obtain⟨mA,⟨od,es,ep,e,c⟩,r⟩:=x;exact⟨mA,⟨od,es,ep,k _ _ (.inl rfl) e,c⟩,r⟩
 |rng lo hi=>obtain⟨t,u,v,e⟩:=x;exact⟨t,u,v,k _ _ (.inl rfl) e⟩
 |frz ob u ih=>obtain⟨e,q⟩:=x;exact⟨k _ _ (.inl rfl) e,ih q⟩
 |tbl ps=>
  have e:h.get? a=some {cls:=.none,data:=.fields ps}:=x;show h'.get? a=some {cls:=.none,data:=.fields ps};exact k a _ (.inl rfl) e
 |met f y=>
  have e:h.get? a=some (PySem.W.methodObj (.ref f) (.ref y)):=x;show h'.get? a=some (PySem.W.methodObj (.ref f) (.ref y));exact k a _ (.inl rfl) e
 |ext φ=>obtain⟨p,⟨o,e⟩,st⟩:=x;exact⟨st _ _ p fun o q=>k _ _ (.inl rfl) q,⟨o,k _ _ (.inl rfl) e⟩,st⟩
def HOk.lt (x:HOk P w H h) (e:H a=some o):a<h.objs.size:=(x a o e).lt
def HOk.fresh (x:HOk P w H h) (e:h.objs.size<=a):H a=none:=by
 cases q:H a with
 |none=>rfl
 |some u=>exact absurd (Ye (x.lt q) e) (YL _)
def HOk.kept (x:HOk P w H h) (k:∀b u,h.get? b=some u->h'.get? b=some u):HOk P w H h':=fun a o e=>
 (x a o e).stay (fun b u _ q=>k b u q) (fun _ q=>q) fun _ _ q=>q
def HOk.laid (x:HOk P w H h) (k:∀b u,h.get? b=some u->h'.get? b=some u) (hp:h.objs.size<=a) (new:ObjOk P w (upd H a o) h' a o):HOk P w (upd H a o) h':=fun b u e=>by
 have hn:=x.fresh hp;by_cases hb:b=a
 ·subst hb;rw[QR]at e;cases e;exact new
 ·rw[QS hb]at e;exact(x b u e).stay (fun c v _ q=>k c v q) (fun c q=>by rw[QS (V2 q hn)];exact q) fun c xs q=>by rw[QS (V2 q hn)];exact q
end
def Rd(H:Hp)(a:Addr)(u:HO):Prop:=H a=some u\/∃o,H a=some (.frz o u)
def Rd.ok {P:Program}{w:World}{H:Hp}{h:Heap}{a:Addr}{u:HO} (r:Rd H a u) (x:HOk P w H h):ObjOk P w H h a u:=by
 rcases r with r|⟨o,r⟩
 ·exact x a u r
 ·obtain⟨_,q⟩:=x a _ r;exact q
def Mut:Option HO->Prop
 |some (.lst _)=>True
 |some (.dK _)=>True
 |some (.dT _)=>True
 |some (.set _ _)=>True
 |some (.ins _ _ _)=>True
 |some (.ext _)=>True
 |_=>False
section
variable {P:Program}{w:World}{H:Hp}{h h':Heap}{x e:Addr}{o':HO}
def HOk.write (ok:HOk P w H h) (mu:Mut (H x)) (he:e=x\/H e=some (.own x)) (k:∀b u,b≠e->h.get? b=some u->h'.get? b=some u) (heo:∃u,h'.get? e=some u)
  (new:ObjOk P w (upd H x o') h' x o'):HOk P w (upd H x o') h':=fun b u q=>by
 have nown:∀c y,H c=some (.own y)->c≠x:=fun c y r z=>by subst z;rw[r]at mu;exact mu
 have ntup:∀c xs,H c=some (.tup xs)->c≠x:=fun c xs r z=>by subst z;rw[r]at mu;exact mu
 by_cases hb:b=x
 ·subst hb;rw[QR]at q;cases q;exact new
 ·rw[QS hb]at q;by_cases hbe:b=e
  ·have q':H b=some (.own x):=by
    rcases he with z|z
    ·exact absurd (hbe.trans z) hb
    ·rw[hbe];exact z
   rw[q]at q';cases q';obtain⟨v,hv⟩:=heo;exact⟨v,by rw[hbe];exact hv⟩
  ·refine(ok b u q).stay (fun c v hc r=>k c v ?_ r) (fun c r=>by rw[QS (nown c b r)];exact r) fun c xs r=>by rw[QS (ntup c xs r)];exact r
   rcases hc with rfl|hc
   ·exact hbe
   ·rintro rfl;rcases he with z|z
    ·exact nown c b hc z
    ·rw[hc]at z;cases z;exact hb rfl
end
structure Un (fs ex:List Addr) (H H':Hp) (h h':Heap):Prop where
 keep:∀b o,h.get? b=some o->H b=none->b∉fs->b∉ex->h'.get? b=some o
 slot:∀b o,h.get? b=some o->H b=none->b∈fs->b∉ex->∃sl,h'.get? b=some {o with slots:=sl}
 free:∀b o,h.get? b=some o->H b=none->b∉ex->H' b=none
 there:∀b o,h.get? b=some o->b∉ex->∃o',h'.get? b=some o'
 tups:∀b xs,H b=some (.tup xs)->H' b=some (.tup xs)
 frzs:∀b o u,H b=some (.frz o u)->H' b=some (.frz o u)
 tbls:∀b ps,H b=some (.tbl ps)->∃more,H' b=some (.tbl (ps++more))
section
variable {fs fs' ex ex':List Addr}{H H1 H2:Hp}{h h1 h2 h':Heap}{a x e:Addr}{o:HO}
def Un.any (u:Un fs ex H H1 h h1) {b:Addr}{ob:Obj} (q:h.get? b=some ob) (n:H b=none) (hx:b∉ex):∃sl,h1.get? b=some {ob with slots:=sl}:=by
 by_cases hb:b∈fs
 ·exact u.slot b ob q n hb hx
 ·exact⟨ob.slots,u.keep b ob q n hb hx⟩
def Un.kept (k:∀b u,h.get? b=some u->h'.get? b=some u):Un fs ex H H h h':=
 ⟨fun b ob q _ _ _=>k b ob q,fun b ob q _ _ _=>⟨ob.slots,k b ob q⟩,fun _ _ _ n _=>n,fun b ob q _=>⟨ob,k b ob q⟩,fun _ _ q=>q,fun _ _ _ q=>q,fun _ ps q=>⟨#[],by rw[q];simp⟩⟩
def Un.refl:Un fs ex H H h h:=Un.kept fun _ _ q=>q
def Un.laid (k:∀b u,h.get? b=some u->h'.get? b=some u) (hp:h.objs.size<=a) (hn:H a=none):Un fs ex H (upd H a o) h h' where
 keep:=fun b u q _ _ _=>k b u q
 slot:=fun b u q _ _ _=>⟨u.slots,k b u q⟩
 free:=fun b u q n _=>by rw[QS (Yf (Ye (ZK q) hp))];exact n
 there:=fun b u q _=>⟨u,k b u q⟩
 tups:=fun b xs q=>by rw[QS (V2 q hn)];exact q
 frzs:=fun b u xs q=>by rw[QS (V2 q hn)];exact q
 tbls:=fun b ps q=>⟨#[],by rw[QS (V2 q hn),q];simp⟩
def Un.write (mu:Mut (H x)) (he:e=x\/H e=some (.own x)) (k:∀b u,b≠e->h.get? b=some u->h'.get? b=some u) (heo:∃u,h'.get? e=some u):Un fs ex H (upd H x o) h h':=by
 have hx:∀b,H b=none->b≠x:=fun b n z=>by subst z;rw[n]at mu;exact mu
 have hb:∀b,H b=none->b≠e:=fun b n z=>by
  subst z;rcases he with r|r
  ·exact hx b n r
  ·rw[n]at r;cases r
 have hm:∀b u,H b=some u->¬Mut (some u)->b≠x:=fun b u q nm z=>by subst z;rw[q]at mu;exact nm mu
 refine⟨fun b u q n _ _=>k b u (hb b n) q,fun b u q n _ _=>⟨u.slots,k b u (hb b n) q⟩,fun b u q n _=>by rw[QS (hx b n)];exact n,fun b u q _=>?_,
  fun b xs q=>by rw[QS (hm b _ q fun z=>z)];exact q,fun b u xs q=>by rw[QS (hm b _ q fun z=>z)];exact q,fun b ps q=>⟨#[],by rw[QS (hm b _ q fun z=>z),q];simp⟩⟩
 by_cases hbe:b=e
 ·subst hbe;exact heo
 ·exact⟨u,k b u hbe q⟩
end
def trk(h:Heap)(H:Hp):List Addr:=(List.range h.objs.size).filter fun a=>(H a).isSome
def hidT(h:Heap)(H:Hp):Heap:=PySem.W.hideAll h (trk h H)
def Ay(h:Heap)(H:Hp):(hidT h H).objs.size=h.objs.size:=PySem.W.hideAll_size _ _
def DT{h:Heap}{H:Hp}{b:Addr}{o:Obj}(e:h.get? b=some o)(n:H b=none):(hidT h H).get? b=some o:=
 PySem.W.hideAll_get _ e fun hm=>by
  have q:(H b).isSome=true:=(ZQ.mp hm).2;rw[n]at q;simp at q
def EM{h:Heap}{H:Hp}{b:Addr}{o:Obj}(e:(hidT h H).get? b=some o):h.get? b=some o/\H b=none:=by
 have e':h.get? b=some o:=PySem.W.of_hideAll (trk h H) e;refine⟨e',?_⟩;cases q:H b with
 |none=>rfl
 |some x=>
  have hm:b∈trk h H:=ZQ.mpr ⟨Yp.mpr (ZK e'),by simp[q]⟩;have z:(hidT h H).get? b=none:=PySem.W.hideAll_none (trk h H) hm;rw[z]at e;cases e
def Di(g h:Heap)(L:Addr):List (Addr×Obj):=(List.range h.objs.size).filterMap fun a=>if a=L\/(g.get? a).isSome=true then none else(h.get? a).map fun o=>(a,o)
def rest(g h:Heap)(L d:Addr):List (Addr×Obj):=(Di g h L).filter fun p=>decide (p.1≠d)
structure Mod (K:Za) (mg:Str->Option Value) (base:Heap):Prop where
 kin:K.In base
 glob:base.Ns mainGlobals mg
 blt:∃mb,base.Ns builtinsNs mb/\∀x:Str,x≠"__name__"->mb x=bootBuiltins x
 nolimit:base.NoLimit
structure Cx where
 prog:Program
 w:World
 K:Za
 mg:Str->Option Value
 base:Heap
 A:Around
 N:List Str
 s₀:Shared
 H₀:Hp
 env:Env
 outer:List Env
 stack:List Env
 ex:List Addr
 fn:Str->Bool
 calm:Bool
 pn:List (Addr×Obj)
 xe:Value->Shared->Prop
def frs(l:List Env):List Addr:=l.filterMap (·.frame)
abbrev Cx.fs (X:Cx):List Addr:=frs X.outer
def Vis(sc:Scope)(x:Str):Prop:=sc.names.lookup x=some .local\/sc.names.lookup x=some .cell\/sc.names.lookup x=some .free
def Loc(sc:Scope)(x:Str):Prop:=sc.names.lookup x=some .local\/sc.names.lookup x=some .cell
def Look(env:Env)(h:Heap)(m:Str->Option Value)(x:Str)(u:Value):Prop:=
 (env.kindOf x=some .local/\m x=some u)\/((env.kindOf x=some .cell\/env.kindOf x=some .free)/\∃c,env.cells.lookup x=some c/\h.IsCell c (some u))
structure Cx.Ok (X:Cx):Prop where
 mod:Mod X.K X.mg X.base
 kind:X.env.scope.kind=.function
 glob:X.env.globals=mainGlobals
 blt:X.env.builtins=builtinsNs
 above:X.s₀.heap.objs.size<=X.env.locals
 inj:∀x y c,X.env.cells.lookup x=some c->X.env.cells.lookup y=some c->x=y
 has:∀x,(X.env.kindOf x=some .cell\/X.env.kindOf x=some .free)->∃c,X.env.cells.lookup x=some c
 cab:∀x c,X.fn x=true->X.env.cells.lookup x=some c->X.s₀.heap.objs.size<=c
 hd:X.calm=true->X.A.handled=none
 frames:X.A.frames=some X.stack
 stk:X.stack=X.outer\/(X.stack=X.env::X.outer/\X.env.frame=some X.env.locals)
 exf:∀b∈X.ex,b≠X.env.locals/\∀x c,X.env.cells.lookup x=some c->c≠b
 bs:∀b o,X.base.get? b=some o->X.s₀.heap.get? b=some o/\X.H₀ b=none
 bsz:X.base.objs.size<=X.s₀.heap.objs.size
 noex:∀b o,X.base.get? b=some o->b∉X.ex
 exfs:∀b∈X.ex,b∉X.fs
 funs:X.s₀.heap.FunFrames X.base X.outer
 frf:∀b∈X.fs,X.H₀ b=none
structure Inv (X:Cx) (pins:List (Addr×Obj)) (σ:List (Option V)) (H:Hp) (s:Shared):Prop where
 ok:X.Ok
 os:s.os=X.s₀.os
 bare:AllBare s.gens
 base:Un X.fs X.ex X.H₀ H X.s₀.heap s.heap
 loc:∃m,s.heap.Ns X.env.locals m/\∀(i:Nat) (x:Str) (v:V),X.N[i]?=some x->σ[i]?=some (some v)->Vis X.env.scope x->∃u,RelV v u/\Look X.env s.heap m x u
 cell:∀x c,X.env.cells.lookup x=some c->∃v,s.heap.IsCell c v
 free:H X.env.locals=none
 freeC:∀x c,X.env.cells.lookup x=some c->H c=none
 pin:∀p∈X.pn++pins,s.heap.get? p.1=some p.2/\H p.1=none/\p.1≠X.env.locals/\p.1∉X.fs/\∀v,p.2.data≠.cell v
 hok:HOk X.prog X.w H s.heap
 len:σ.length=X.N.length
section
variable {X:Cx}{pins:List (Addr×Obj)}{σ:List (Option V)}{H H':Hp}{s:Shared}{h':Heap}
def Cx.Ok.nofr (ok:X.Ok) {b:Addr}{o:Obj} (e:X.base.get? b=some o):b∉X.fs:=fun hb=>by
 have:=(ok.funs.mem hb).1
 rw[e]at this;cases this
def Inv.bs (I:Inv X pins σ H s):∀b o,X.base.get? b=some o->s.heap.get? b=some o/\H b=none:=fun b o e=>
 ⟨I.base.keep b o (I.ok.bs b o e).1 (I.ok.bs b o e).2 (I.ok.nofr e) (I.ok.noex b o e),I.base.free b o (I.ok.bs b o e).1 (I.ok.bs b o e).2 (I.ok.noex b o e)⟩
def Inv.bk (I:Inv X pins σ H s):∀b o,X.base.get? b=some o->s.heap.get? b=some o:=fun b o e=>(I.bs b o e).1
def Inv.mod (I:Inv X pins σ H s):Mod X.K X.mg X.base:=I.ok.mod
def Inv.kIn (I:Inv X pins σ H s):X.K.In s.heap:=I.ok.mod.kin.keeps I.bk
def Inv.lt (I:Inv X pins σ H s):X.env.locals<s.heap.objs.size:=let ⟨_,hn,_⟩:=I.loc;hn.lt
def Inv.sz (I:Inv X pins σ H s):X.s₀.heap.objs.size<=s.heap.objs.size:=ZW I.ok.above (WA I.lt)
def Inv.nofs (I:Inv X pins σ H s) {a:Addr} (h:s.heap.objs.size<=a):a∉X.fs:=fun hb=>by
 obtain⟨_,o,ho,_⟩:=I.ok.funs.mem hb;exact absurd (Ye (ZK ho) (ZW I.sz h)) (YL _)
def Inv.cne (I:Inv X pins σ H s):∀x c,X.env.cells.lookup x=some c->c≠X.env.locals:=fun x c e z=>by
 obtain⟨v,o,ho,hd⟩:=I.cell x c e;obtain⟨m,⟨o',es,ep,ho',hd',_⟩,_⟩:=I.loc;rw[z,ho']at ho;cases ho;rw[hd']at hd;cases hd
def Inv.funs (I:Inv X pins σ H s):s.heap.FunFrames X.base X.outer:=by
 have all:∀(l:List Env),(∀b∈frs l,b∈X.fs)->X.s₀.heap.FunFrames X.base l->s.heap.FunFrames X.base l:=by
  intro l
  induction l with
  |nil=>intro _ _;trivial
  |cons env r ih=>
   intro hs hl;obtain⟨hk,⟨L,o,hf,hn,ho,hd⟩,hr⟩:=hl;have hL:L∈X.fs:=hs L (by unfold frs;rw[YA,hf];exact Yj);obtain⟨sl,e⟩:=I.base.slot L o ho (I.ok.frf L hL) hL fun z=>I.ok.exfs L z hL;exact⟨hk,⟨L,_,hf,hn,e,hd⟩,ih (fun b hb=>hs b (by unfold frs;rw[YA,hf];exact Ya _ hb)) hr⟩
 exact all X.outer (fun _ hb=>hb) I.ok.funs
def Inv.stack (I:Inv X pins σ H s):s.heap.FunFrames X.base X.stack:=by
 rcases I.ok.stk with e|⟨e,hf⟩
 ·rw[e];exact I.funs
 ·rw[e];obtain⟨m,hn,_⟩:=I.loc;refine .cons (by rw[I.ok.kind];decide) hf hn ?_ I.funs;exact Heap.get?_none_of_le (ZW I.ok.bsz I.ok.above)
def Inv.stkSub (I:Inv X pins σ H s):∀b∈frs X.stack,b∈X.env.locals::X.fs:=fun b hb=>by
 rcases I.ok.stk with e|⟨e,hf⟩
 ·rw[e]at hb;exact Ya _ hb
 ·rw[e]at hb;unfold frs at hb;rw[YA,hf]at hb;exact hb
def Inv.stkFree (I:Inv X pins σ H s):∀b∈frs X.stack,H b=none:=fun b hb=>by
 rcases ZT.mp (I.stkSub b hb)with e|hb
 ·rw[e];exact I.free
 ·obtain⟨_,o,ho,_⟩:=I.ok.funs.mem hb;exact I.base.free b o ho (I.ok.frf b hb) fun z=>I.ok.exfs b z hb
def Inv.step {g':Array GenState}{t':Nat}{d':Drawn}{ch:List Addr} (I:Inv X pins σ H s)
  (hch:∀b∈ch,(b∈X.ex\/X.s₀.heap.objs.size<=b)/\b≠X.env.locals/\(∀x c,X.env.cells.lookup x=some c->c≠b)/\∀p∈X.pn++pins,p.1≠b)
  (keep:∀b o,b≠X.env.locals->b∉X.fs->b∉ch->s.heap.get? b=some o->H b=none->h'.get? b=some o)
  (slot:∀b o,b≠X.env.locals->b∈X.fs->b∉ch->s.heap.get? b=some o->H b=none->∃sl,h'.get? b=some {o with slots:=sl}) (free:∀b o,b∉ch->s.heap.get? b=some o->H b=none->H' b=none)
  (there:∀b o,b∉ch->s.heap.get? b=some o->∃o',h'.get? b=some o')
  (tups:∀b xs,H b=some (.tup xs)->H' b=some (.tup xs)) (frzs:∀b o u,H b=some (.frz o u)->H' b=some (.frz o u)) (tbls:∀b ps,H b=some (.tbl ps)->∃more,H' b=some (.tbl (ps++more)))
  (ns:∀m,s.heap.Ns X.env.locals m->h'.Ns X.env.locals m) (hok:HOk X.prog X.w H' h') (hg:AllBare g') :
  Inv X pins σ H' {s with heap:=h',gens:=g',drawn:=d',toks:=t'}:=by
 have neL:∀b o,X.s₀.heap.get? b=some o->b≠X.env.locals:=fun b o e=>Yf (Ye (ZK e) I.ok.above)
 have neC:∀b o,X.s₀.heap.get? b=some o->b∉X.ex->b∉ch:=fun b o e hx hb=>by
  rcases(hch b hb).1 with z|z
  ·exact hx z
  ·exact absurd (Ye (ZK e) z) (YL _)
 have cellK:∀x c,X.env.cells.lookup x=some c->∀v,s.heap.IsCell c v->h'.IsCell c v:=fun x c e v ⟨o,ho,hd⟩=>by
  have nch:c∉ch:=fun z=>(hch c z).2.2.1 x c e rfl;by_cases hc:c∈X.fs
  ·obtain⟨sl,q⟩:=slot c o (I.cne x c e) hc nch ho (I.freeC x c e);exact⟨_,q,hd⟩
  ·exact⟨o,keep c o (I.cne x c e) hc nch ho (I.freeC x c e),hd⟩
 refine⟨I.ok,I.os,hg,⟨fun b o e n hb hx=>?_,fun b o e n hb hx=>?_,fun b o e n hx=>?_,fun b o e hx=>?_,fun b xs e=>tups b xs (I.base.tups b xs e),fun b o xs e=>frzs b o xs (I.base.frzs b o xs e),fun b ps e=>?_⟩,?_,fun x c e=>?_,?_,fun x c e=>?_,fun p hp=>?_,hok,I.len⟩
 ·exact keep b o (neL b o e) hb (neC b o e hx) (I.base.keep b o e n hb hx) (I.base.free b o e n hx)
 ·obtain⟨sl,e1⟩:=I.base.slot b o e n hb hx;obtain⟨sl',e2⟩:=slot b _ (neL b o e) hb (neC b o e hx) e1 (I.base.free b o e n hx);exact⟨sl',e2⟩
 ·obtain⟨o',e1⟩:=I.base.there b o e hx;exact free b o' (neC b o e hx) e1 (I.base.free b o e n hx)
 ·obtain⟨o',e1⟩:=I.base.there b o e hx;exact there b o' (neC b o e hx) e1
 ·obtain⟨m1,e1⟩:=I.base.tbls b ps e;obtain⟨m2,e2⟩:=tbls b _ e1;exact⟨m1++m2,by rw[e2,Array.append_assoc]⟩
 ·obtain⟨m,hn,hl⟩:=I.loc;refine⟨m,ns m hn,fun i x v e1 e2 e3=>?_⟩;obtain⟨u,r,l⟩:=hl i x v e1 e2 e3;refine⟨u,r,?_⟩;rcases l with l|⟨k,c,e,z⟩
  ·exact .inl l
  ·exact .inr ⟨k,c,e,cellK x c e _ z⟩
 ·obtain⟨v,z⟩:=I.cell x c e;exact⟨v,cellK x c e v z⟩
 ·obtain⟨m,⟨o,_,_,ho,_⟩,_⟩:=I.loc;exact free _ o (fun z=>(hch _ z).2.1 rfl) ho I.free
 ·obtain⟨v,o,ho,hd⟩:=I.cell x c e;exact free c o (fun z=>(hch c z).2.2.1 x c e rfl) ho (I.freeC x c e)
 ·obtain⟨e,n,ne,nf,d⟩:=I.pin p hp;have nch:p.1∉ch:=fun z=>(hch p.1 z).2.2.2 p hp rfl;exact⟨keep p.1 p.2 ne nf nch e n,free p.1 p.2 nch e n,ne,nf,d⟩
def Inv.un {t':Nat} (I:Inv X pins σ H s) (u:Un X.fs [] H H' s.heap h') (hok:HOk X.prog X.w H' h'):Inv X pins σ H' {s with heap:=h',toks:=t'}:=by
 obtain⟨m,⟨o,es,ep,ho,r⟩,_⟩:=id I.loc;obtain⟨sl,hL⟩:=u.any ho I.free (by simp)
 exact I.step (g':=s.gens) (d':=s.drawn) (ch:=[]) (fun _ z=>nomatch z) (fun b o _ hb _ e n=>u.keep b o e n hb (by simp)) (fun b o _ hb _ e n=>u.slot b o e n hb (by simp)) (fun b o _ e n=>u.free b o e n (by simp)) (fun b o _ e=>u.there b o e (by simp)) u.tups u.frzs u.tbls (fun m' hm=>by
  obtain⟨o',es',ep',ho',r'⟩:=hm;rw[ho]at ho';cases ho';exact⟨_,es',ep',hL,r'⟩) hok I.bare
def Inv.call {g':Array GenState}{t':Nat}{d':Drawn}{ch:List Addr} (I:Inv X pins σ H s) (u:Un (frs X.stack) ch H H' s.heap h') (hok:HOk X.prog X.w H' h') (hg:AllBare g')
  (hch:∀b∈ch,(b∈X.ex\/X.s₀.heap.objs.size<=b)/\b≠X.env.locals/\(∀x c,X.env.cells.lookup x=some c->c≠b)/\∀p∈X.pn++pins,p.1≠b) :
  Inv X pins σ H' {s with heap:=h',gens:=g',drawn:=d',toks:=t'}:=by
 obtain⟨m,⟨o,es,ep,ho,r⟩,_⟩:=id I.loc;obtain⟨sl,hL⟩:=u.any ho I.free fun z=>(hch _ z).2.1 rfl
 exact I.step (ch:=ch) hch (fun b o hL hb hc e n=>u.keep b o e n (fun z=>(ZT.mp (I.stkSub b z)).elim hL hb) hc) (fun b o _ _ hc e n=>u.any e n hc) (fun b o hc e n=>u.free b o e n hc) (fun b o hc e=>u.there b o e hc) u.tups u.frzs u.tbls (fun m' hm=>by
  obtain⟨o',es',ep',ho',r'⟩:=hm;rw[ho]at ho';cases ho';exact⟨_,es',ep',hL,r'⟩) hok hg
def Inv.turned {t':Nat}{it:Addr} (I:Inv X pins σ H s) (k:∀b o,b≠it->s.heap.get? b=some o->h'.get? b=some o) (hn:H it=none) (hL:it≠X.env.locals)
  (h1:it∈X.ex\/X.s₀.heap.objs.size<=it) (h2:∀x c,X.env.cells.lookup x=some c->c≠it) (h3:∀p∈X.pn++pins,p.1≠it):Inv X pins σ H {s with heap:=h',toks:=t'}:=by
 have nit:∀b u,H b=some u->b≠it:=fun b u e z=>by rw[z,hn]at e;cases e
 refine I.step (g':=s.gens) (d':=s.drawn) (ch:=[it]) (fun b hb=>?_) (fun b o _ _ hc e _=>k b o (fun z=>hc (by simp[z])) e) (fun b o _ _ hc e _=>⟨o.slots,k b o (fun z=>hc (by simp[z])) e⟩) (fun _ _ _ _ n=>n)
  (fun b o hc e=>⟨o,k b o (fun z=>hc (by simp[z])) e⟩) (fun _ _ e=>e) (fun _ _ _ e=>e) (fun b ps e=>⟨#[],by rw[e];simp⟩) (fun m hm=>?_) (fun b u e=>?_) I.bare
 ·have e:b=it:=by simpa using hb
  subst e;exact⟨h1,hL,h2,h3⟩
 ·obtain⟨o,es,ep,ho,r⟩:=hm;exact⟨o,es,ep,k _ o (Ne.symm hL) ho,r⟩
 ·refine(I.hok b u e).stay (fun c v hc q=>k c v ?_ q) (fun _ q=>q) fun _ _ q=>q;rcases hc with z|z
  ·rw[z];exact nit b u e
  ·exact nit c _ z
def Inv.tok (I:Inv X pins σ H s) (t:Nat):Inv X pins σ H {s with toks:=t}:=I.un (h':=s.heap) (t':=t) Un.refl I.hok
def Inv.kept {t':Nat} (I:Inv X pins σ H s) (k:∀b u,s.heap.get? b=some u->h'.get? b=some u):Inv X pins σ H {s with heap:=h',toks:=t'}:=I.un (Un.kept k) (I.hok.kept k)
def Inv.laid {a:Addr}{o:HO}{t':Nat} (I:Inv X pins σ H s) (k:∀b u,s.heap.get? b=some u->h'.get? b=some u) (hp:s.heap.objs.size<=a) (new:ObjOk X.prog X.w (upd H a o) h' a o) :
  Inv X pins σ (upd H a o) {s with heap:=h',toks:=t'}:=I.un (Un.laid k hp (I.hok.fresh hp)) (I.hok.laid k hp new)
def Inv.write {x e:Addr}{o:HO}{t':Nat} (I:Inv X pins σ H s) (mu:Mut (H x)) (he:e=x\/H e=some (.own x)) (k:∀b u,b≠e->s.heap.get? b=some u->h'.get? b=some u) (heo:∃u,h'.get? e=some u)
  (new:ObjOk X.prog X.w (upd H x o) h' x o):Inv X pins σ (upd H x o) {s with heap:=h',toks:=t'}:=I.un (Un.write mu he k heo) (I.hok.write mu he k heo new)
def Inv.weak {σ':List (Option V)} (I:Inv X pins σ H s) (hl:σ'.length=σ.length) (w:∀(i:Nat) v,σ'[i]?=some (some v)->σ[i]?=some (some v)):Inv X pins σ' H s:=
 ⟨I.ok,I.os,I.bare,I.base,let ⟨m,hn,hl'⟩:=I.loc;⟨m,hn,fun i x v e1 e2 e3=>hl' i x v e1 (w i v e2) e3⟩,I.cell,I.free,I.freeC,I.pin,I.hok,hl.trans I.len⟩
def Inv.pins_of {pins':List (Addr×Obj)} (I:Inv X pins σ H s) (h:∀p∈pins',s.heap.get? p.1=some p.2/\H p.1=none/\p.1≠X.env.locals/\p.1∉X.fs/\∀v,p.2.data≠.cell v):Inv X pins' σ H s:=
 ⟨I.ok,I.os,I.bare,I.base,I.loc,I.cell,I.free,I.freeC,fun p hp=>(ZU.mp hp).elim (fun z=>I.pin p (YZ _ z)) (h p),I.hok,I.len⟩
def Bh{N:List Str}(hN:N.Nodup){i j:Nat}{x:Str}(a:N[i]?=some x)(b:N[j]?=some x):i=j:=by
 obtain⟨h1,e1⟩:=ZP.mp a;obtain⟨h2,e2⟩:=ZP.mp b;exact(List.getElem_inj hN).mp (e1.trans e2.symm)
def Co{M:Model}{A:Around}{E:Value->Shared->Prop}{i:Nat}{x:Str}{v:V}{u:Value}{Q:Unit->Shared->Prop}(I:Inv X pins σ H s)(hN:X.N.Nodup)(hi:X.N[i]?=some x)(hx:Loc X.env.scope x)(r:RelV v u)(h:∀s',Inv X pins (σ.set i (some v)) H s'->(∃a,Heap.SameBut a s.heap s'.heap/\(a=X.env.locals\/X.env.cells.lookup x=some a))->Q () s')(hf:X.fn x=true\/X.env.scope.names.lookup x=some .local:=by first|exact .inl rfl|exact .inr rfl|assumption):wpAny M A (storeName X.env x u) Q E s:=by
 obtain⟨m,hn,hl⟩:=id I.loc;have hcls:(X.env.scope.kind == .class || (X.env.scope.kind == .module&&X.env.locals != X.env.globals))=false:=by rw[I.ok.kind];rfl
 have hiσ:i<σ.length:=by rw[I.len];exact(ZP.mp hi).1
 have cne:=I.cne
 have tracked:∀{a:Addr} {h':Heap},(∃o,s.heap.get? a=some o/\H a=none)->Heap.SameBut a s.heap h'->HOk X.prog X.w H h':=fun {a h'} ha hs b ob e=>by
  obtain⟨_,_,hfree⟩:=ha;refine(I.hok b ob e).stay (fun c w' hc q=>(hs.2 c ?_).trans q) (fun _ q=>q) fun _ _ q=>q;rintro rfl;rcases hc with rfl|hc
  ·rw[hfree]at e;cases e
  ·rw[hfree]at hc;cases hc
 rcases hx with hk|hk
 ·refine wpAny_storeName_local hk hn (fun h' hn' hs=>?_) hcls;obtain⟨oL,_,_,hoL,_⟩:=id hn;refine h _ ⟨I.ok,I.os,I.bare,⟨fun b o e n hb hx=>?_,fun b o e n hb hx=>?_,I.base.free,fun b o e hx=>?_,I.base.tups,I.base.frzs,I.base.tbls⟩,⟨_,hn',fun j y v' e1 e2 e3=>?_⟩,fun y c e=>?_,I.free,I.freeC,fun p hp=>?_,tracked ⟨oL,hoL,I.free⟩ hs,by simpa using I.len⟩ ⟨_,hs,.inl rfl⟩
  ·exact(hs.2 b (Yf (Ye (ZK e) I.ok.above))).trans (I.base.keep b o e n hb hx)
  ·obtain⟨sl,e1⟩:=I.base.slot b o e n hb hx;exact⟨sl,(hs.2 b (Yf (Ye (ZK e) I.ok.above))).trans e1⟩
  ·obtain⟨o',e1⟩:=I.base.there b o e hx;exact⟨o',(hs.2 b (Yf (Ye (ZK e) I.ok.above))).trans e1⟩
  ·by_cases hj:j=i
   ·subst hj;rw[hi]at e1;cases e1;rw[Wr hiσ]at e2;cases e2
    exact⟨u,r,.inl ⟨hk,by simp⟩⟩
   ·rw[W2 (Ne.symm hj)]at e2;obtain⟨u',r',q⟩:=hl j y v' e1 e2 e3;refine⟨u',r',?_⟩;rcases q with⟨k,e⟩|⟨k,c,e,z⟩
    ·refine .inl ⟨k,?_⟩
     have:y≠x:=fun e=>hj (Bh hN e1 (e▸hi))
     simp[this,e]
    ·exact .inr ⟨k,c,e,z.sameBut hs (cne y c e)⟩
  ·obtain⟨w',z⟩:=I.cell y c e;exact⟨w',z.sameBut hs (cne y c e)⟩
  ·obtain⟨e,n,ne,nf,d⟩:=I.pin p hp;exact⟨(hs.2 p.1 ne).trans e,n,ne,nf,d⟩
 ·have hfn:X.fn x=true:=by
   rcases hf with z|z
   ·exact z
   ·rw[z]at hk;cases hk
  obtain⟨c,hc⟩:=I.ok.has x (.inl hk);obtain⟨w',z⟩:=I.cell x c hc;refine wpAny_storeName_cell I.ok.kind hk hc z (fun h' hc' hs=>?_);obtain⟨oc,hoc,hocd⟩:=id z;refine h {s with heap:=h'} ⟨I.ok,I.os,I.bare,⟨fun b o e n hb hx=>?_,fun b o e n hb hx=>?_,I.base.free,fun b o e hx=>?_,I.base.tups,I.base.frzs,I.base.tbls⟩,⟨m,hn.sameBut hs (Ne.symm (cne x c hc)),fun j y v' e1 e2 e3=>?_⟩,fun y c' e=>?_,I.free,I.freeC,fun p hp=>?_,tracked ⟨oc,hoc,I.freeC x c hc⟩ hs,by simpa using I.len⟩ ⟨c,hs,.inr hc⟩
  ·exact(hs.2 b (Yf (Ye (ZK e) (I.ok.cab x c hfn hc)))).trans (I.base.keep b o e n hb hx)
  ·obtain⟨sl,e1⟩:=I.base.slot b o e n hb hx;exact⟨sl,(hs.2 b (Yf (Ye (ZK e) (I.ok.cab x c hfn hc)))).trans e1⟩
  ·obtain⟨o',e1⟩:=I.base.there b o e hx;exact⟨o',(hs.2 b (Yf (Ye (ZK e) (I.ok.cab x c hfn hc)))).trans e1⟩
  ·by_cases hj:j=i
   ·subst hj;rw[hi]at e1;cases e1;rw[Wr hiσ]at e2;cases e2
    exact⟨u,r,.inr ⟨.inl hk,c,hc,hc'⟩⟩
   ·rw[W2 (Ne.symm hj)]at e2;obtain⟨u',r',q⟩:=hl j y v' e1 e2 e3;refine⟨u',r',?_⟩;rcases q with q|⟨k,c',e,z'⟩
    ·exact .inl q
    ·refine .inr ⟨k,c',e,z'.sameBut hs ?_⟩;rintro rfl;exact hj (Bh hN e1 (I.ok.inj _ _ _ e hc▸hi))
  ·by_cases hcc:c'=c
   ·subst hcc;exact⟨_,hc'⟩
   ·obtain⟨w2,z2⟩:=I.cell y c' e;exact⟨w2,z2.sameBut hs hcc⟩
  ·obtain⟨e,n,ne,nf,d⟩:=I.pin p hp;refine⟨(hs.2 p.1 ?_).trans e,n,ne,nf,d⟩;intro q;rw[q,hoc]at e;have q':oc=p.2:=ZE e;exact d w' (by rw[←q'];exact hocd)
def JG{M:Model}{A:Around}{E:Value->Shared->Prop}{i:Nat}{x:Str}{v:V}{u:Value}{Q:Unit->Shared->Prop}(I:Inv X pins σ H s)(hN:X.N.Nodup)(hi:X.N[i]?=some x)(hx:Loc X.env.scope x)(r:RelV v u)(h:∀s',Inv X pins (σ.set i (some v)) H s'->Q () s')(hf:X.fn x=true\/X.env.scope.names.lookup x=some .local:=by first|exact .inl rfl|exact .inr rfl|assumption):wpAny M A (storeName X.env x u) Q E s:=
 Co I hN hi hx r (fun s' I' _=>h s' I') hf
end
abbrev XK:=Value->Option Addr->Hp->Prop
abbrev St:=List (Option V)
abbrev VK:=V->Hp->Prop
abbrev TE:=St->Hp->VK->Prop
abbrev TT:=St->Hp->(Bool->Hp->Prop)->Prop
abbrev TA:=St->Hp->(List V->Hp->Prop)->Prop
structure Ends where
 nx:St->Hp->Prop
 rt:VK
 bk:St->Hp->Prop:=fun _ _=>False
 ct:St->Hp->Prop:=fun _ _=>False
abbrev TS:=Ends->St->Hp->Prop
def EP(X:Cx)(pins:List (Addr×Obj))(σ:St)(Q:VK)(u:Value)(s':Shared):Prop:=∃v H',Inv X pins σ H' s'/\RelV v u/\Q v H'
def TP(X:Cx)(pins:List (Addr×Obj))(σ:St)(Q:Bool->Hp->Prop)(b:Bool)(s':Shared):Prop:=∃H',Inv X pins σ H' s'/\Q b H'
def AP(X:Cx)(pins:List (Addr×Obj))(σ:St)(Q:List V->Hp->Prop)(us:List Value)(s':Shared):Prop:=∃vs H',Inv X pins σ H' s'/\Vals vs us/\Q vs H'
def SP(X:Cx)(pins:List (Addr×Obj))(D:Ends)(f:Flow)(s':Shared):Prop:=
 match f with
 | .next=>∃σ' H',Inv X pins σ' H' s'/\D.nx σ' H'
 | .brk=>∃σ' H',Inv X pins σ' H' s'/\D.bk σ' H'
 | .cont=>∃σ' H',Inv X pins σ' H' s'/\D.ct σ' H'
 | .ret u=>∃v σ' H',Inv X pins σ' H' s'/\RelV v u/\D.rt v H'
def PE(X:Cx)(e:Expr)(t:TE):Prop:=
 ∀(pins:List (Addr×Obj)) (s:Shared) (σ:St) (H:Hp) (Q:VK),Inv X pins σ H s->t σ H Q->wpAny (model X.prog X.w) X.A (eval e X.env) (EP X pins σ Q) X.xe s
def PT(X:Cx)(e:Expr)(t:TT):Prop:=
 ∀(pins:List (Addr×Obj)) (s:Shared) (σ:St) (H:Hp) (Q:Bool->Hp->Prop),Inv X pins σ H s->t σ H Q->wpAny (model X.prog X.w) X.A (isTrue e X.env (eval e X.env)) (TP X pins σ Q) X.xe s
def PW(X:Cx)(e:Expr)(t:TT):Prop:=
 ∀(whole:Sem Value) (pins:List (Addr×Obj)) (s:Shared) (σ:St) (H:Hp) (Q:Bool->Hp->Prop),Inv X pins σ H s->t σ H Q->wpAny (model X.prog X.w) X.A (isTrue e X.env whole) (TP X pins σ Q) X.xe s
def PW.pt {X:Cx}{e:Expr}{t:TT} (h:PW X e t):PT X e t:=h _
def PA(X:Cx)(es:List Expr)(t:TA):Prop:=
 ∀(pos:Pos) (pins:List (Addr×Obj)) (s:Shared) (σ:St) (H:Hp) (Q:List V->Hp->Prop),Inv X pins σ H s->t σ H Q->wpAny (model X.prog X.w) X.A (spliced (backTo pos (starEach es X.env))) (AP X pins σ Q) X.xe s
def PS(X:Cx)(st:Stmt)(t:TS):Prop:=
 ∀(pins:List (Addr×Obj)) (s:Shared) (σ:St) (H:Hp) (D:Ends),Inv X pins σ H s->t D σ H->wpAny (model X.prog X.w) X.A (exec st X.env) (SP X pins D) X.xe s
def PSs(X:Cx)(st:List Stmt)(t:TS):Prop:=
 ∀(pins:List (Addr×Obj)) (s:Shared) (σ:St) (H:Hp) (D:Ends),Inv X pins σ H s->t D σ H->wpAny (model X.prog X.w) X.A (execs st X.env) (SP X pins D) X.xe s
def thn{α:Type}{t:Sem α}{Q Q':α->Shared->Prop}{M:Model}{A:Around}{E:Value->Shared->Prop}{s:Shared}(h:wpAny M A t Q E s)(hQ:∀a s,Q a s->Q' a s):wpAny M A t Q' E s:=Y3 h hQ fun _ _ x=>x
section
variable {X:Cx}
def bin{a b:Expr}{ta tb:TE}(ha:PE X a ta)(hb:PE X b tb){pins:List (Addr×Obj)}{s:Shared}{σ:St}{H:Hp}{R:V->V->Hp->Prop}(I:Inv X pins σ H s)(h:ta σ H fun x H1=>tb σ H1 fun y H2=>R x y H2){α:Type}{Q:α->Shared->Prop}{f:Value->Value->Sem α}(hf:∀v u s2 x y H2,Inv X pins σ H2 s2->RelV x v->RelV y u->R x y H2->wpAny (model X.prog X.w) X.A (f v u) Q X.xe s2) :
  wpAny (model X.prog X.w) X.A (eval a X.env) (fun v s₁=>wpAny (model X.prog X.w) X.A (eval b X.env) (fun u s₂=>wpAny (model X.prog X.w) X.A (f v u) Q X.xe s₂) X.xe s₁) X.xe s:=by
 refine thn (ha pins s σ H _ I h) fun v s1 ⟨x,H1,I1,r1,q1⟩=>?_;refine thn (hb pins s1 σ H1 _ I1 q1) fun u s2 ⟨y,H2,I2,r2,q2⟩=>?_;exact hf v u s2 x y H2 I2 r1 r2 q2
def tVar(i:Nat):TE:=fun σ H Q=>∃v,σ[i]?=some (some v)/\Q v H
def tC(v:V):TE:=fun _ H Q=>Q v H
def Fy{i:Nat}{x:Str}{pos:Pos}(hN:X.N[i]?=some x)(hv:Vis X.env.scope x)(hd:(x==("__debug__" : Str))=false:=by decide)(hcd:(x==("__classdict__" : Str))=false:=by decide):PE X (.Name x pos) (tVar i):=by
 intro pins s σ H Q I h;obtain⟨v,e,h⟩:=h;obtain⟨m,hn,hl⟩:=I.loc;obtain⟨u,r,l⟩:=hl i x v hN e hv;have fin:EP X pins σ Q u s:=⟨v,H,I,r,h⟩;rcases l with⟨hk,hm⟩|⟨hk,c,hc,hcell⟩
 ·exact wpAny_Name (wpAny_loadName_local I.ok.kind hk hn hm fin) hd
 ·rcases hk with hk|hk
  ·exact wpAny_Name (wpAny_loadName_cell I.ok.kind hk hc hcell fin) hd
  ·exact wpAny_Name (wpAny_loadName_free I.ok.kind hk hc hcell fin hcd) hd
def QG{i j pos}:PE X (.Constant (.int i) j pos) (tC (.int i)):=fun _ _ _ H _ I h=>wpAny_Constant_int ⟨.int i,H,I.tok _,⟨_,rfl⟩,h⟩
def V7{b j pos}:PE X (.Constant (.bool b) j pos) (tC (.bl b)):=fun _ _ _ H _ I h=>Constant_bool ⟨.bl b,H,I,rfl,h⟩
def Gl(X:Cx)(x:Str):Prop:=X.env.kindOf x=some .globalImplicit
def Ej{E:Value->Shared->Prop}{pins:List (Addr×Obj)}{s:Shared}{σ:St}{H:Hp}{x:Str}{u:Value}{pos:Pos}{Q:Value->Shared->Prop}(I:Inv X pins σ H s)(hg:Gl X x)(hm:X.mg x=some u)(h:Q u s)(hd:(x==("__debug__" : Str))=false:=by decide):wpAny (model X.prog X.w) X.A (eval (.Name x pos) X.env) Q E s:=
 Calls.Name_function_global I.ok.kind hg (Calls.loadGlobal_global (by rw[I.ok.glob];exact I.mod.glob.keeps I.bk) hm h) hd
def Uc{E:Value->Shared->Prop}{pins:List (Addr×Obj)}{s:Shared}{σ:St}{H:Hp}{x:Str}{u:Value}{pos:Pos}{Q:Value->Shared->Prop}(I:Inv X pins σ H s)(hg:Gl X x)(hm:X.mg x=none)(hv:bootBuiltins x=some u)(h:Q u s)(hn:x≠"__name__":=by decide)(hd:(x==("__debug__" : Str))=false:=by decide):wpAny (model X.prog X.w) X.A (eval (.Name x pos) X.env) Q E s:=by
 obtain⟨mb,h1,h2⟩:=I.mod.blt;exact Calls.Name_function_global I.ok.kind hg (Calls.loadGlobal_builtin (by rw[I.ok.glob];exact I.mod.glob.keeps I.bk) hm (by rw[I.ok.blt];exact h1.keeps I.bk) ((h2 x hn).trans hv) h) hd
def Us{x:Str}{v:V}{u:Value}{pos:Pos}(hg:Gl X x)(hm:X.mg x=none)(hv:bootBuiltins x=some u)(r:RelV v u)(hn:x≠"__name__":=by decide)(hd:(x==("__debug__" : Str))=false:=by decide):PE X (.Name x pos) (tC v):=
 fun _ _ _ H _ I h=>Uc I hg hm hv ⟨v,H,I,r,h⟩ hn hd
variable {a b:Expr}{ta tb:TE}{pos:Pos}
def PC(X:Cx)(op:CmpOp)(a b:Expr)(t:TE):Prop:=
 ∀(pins:List (Addr×Obj)) (s:Shared) (σ:St) (H:Hp) (Q:VK),Inv X pins σ H s->t σ H Q->
  wpAny (model X.prog X.w) X.A (eval a X.env) (fun v s₁=>wpAny (model X.prog X.w) X.A (eval b X.env) (fun u s₂=>wpAny (model X.prog X.w) X.A (compareOp op v u) (EP X pins σ Q) X.xe s₂) X.xe s₁) X.xe s
def A7(b:Expr){op:CmpOp}(h:op≠.In)(h2:op≠.NotIn):behindInMarks op b=false:=by
 have e1:(op==CmpOp.In)=false:=by cases op<;>first|rfl|exact absurd rfl h
 have e2:(op==CmpOp.NotIn)=false:=by cases op<;>first|rfl|exact absurd rfl h2
 cases b<;>simp[behindInMarks,e1,e2]
def tB(t:TE):TT:=fun σ H Q=>t σ H fun x H1=>∃c,x=.bl c/\Q c H1
def D9{op:CmpOp}{t:TE}(h:PC X op a b t)(h1:behindInMarks op b=false:=by first|exact A7 _ (by decide) (by decide)|rfl):PT X (.Compare a [op] [b] pos) (tB t):=by
 intro pins s σ H Q I hw;refine wpAny_isTrue_Compare1 (thn (h pins s σ H _ I hw) fun v s1 h1=>thn h1 fun u s2 h2=>thn h2 fun c s3 ⟨x,H1,I1,r1,q1⟩=>?_) h1;obtain⟨d,rfl,q⟩:=q1;cases r1
 exact YK ⟨H1,I1,q⟩
def KO{e:Expr}{t:TE}(h:PE X e t)(he:∀whole,isTrue e X.env whole=(do let v ←whole;standAt e.pos;holding [v] (truthy v)):=by intro _;rfl):PT X e (tB t):=by
 intro pins s σ H Q I hw;refine isTrue_plain (thn (h pins s σ H _ I hw) fun v s1 ⟨x,H1,I1,r1,q1⟩=>?_) (he _);obtain⟨d,rfl,q⟩:=q1;cases r1
 exact YK ⟨H1,I1,q⟩
variable {tA tB':TT}{rest:List Expr}
def tAnd(t u:TT):TT:=fun σ H Q=>t σ H fun c H1=>if c=true then u σ H1 Q else Q false H1
def tOr(t u:TT):TT:=fun σ H Q=>t σ H fun c H1=>if c=true then Q true H1 else u σ H1 Q
def tNot(t:TT):TT:=fun σ H Q=>t σ H fun c H1=>Q (!c) H1
def U4(ha:PT X a tA):PW X (.BoolOp .And [a] pos) tA:=by
 intro wh pins s σ H Q I h;refine isTrue_and (thn (ha pins s σ H Q I h) fun c s1 e=>?_);cases c with
 |true=>exact isTrue_and_nil e
 |false=>exact e
def JP(ha:PT X a tA):PW X (.BoolOp .Or [a] pos) tA:=by
 intro wh pins s σ H Q I h;refine isTrue_or (thn (ha pins s σ H Q I h) fun c s1 e=>?_);cases c with
 |false=>exact isTrue_or_nil e
 |true=>exact e
def U0(ha:PT X a tA)(hb:PW X (.BoolOp .And (b::rest) pos) tB'):PW X (.BoolOp .And (a::b::rest) pos) (tAnd tA tB'):=by
 intro wh pins s σ H Q I h;refine isTrue_and (thn (ha pins s σ H _ I h) fun c s1 ⟨H1,I1,q1⟩=>?_);cases c with
 |true=>exact hb wh pins s1 σ H1 Q I1 q1
 |false=>exact⟨H1,I1,q1⟩
def JQ(ha:PT X a tA)(hb:PW X (.BoolOp .Or (b::rest) pos) tB'):PW X (.BoolOp .Or (a::b::rest) pos) (tOr tA tB'):=by
 intro wh pins s σ H Q I h;refine isTrue_or (thn (ha pins s σ H _ I h) fun c s1 ⟨H1,I1,q1⟩=>?_);cases c with
 |true=>exact⟨H1,I1,q1⟩
 |false=>exact hb wh pins s1 σ H1 Q I1 q1
def Jo(ha:PT X a tA):PT X (.UnaryOp .Not a pos) (tNot tA):=by
 intro pins s σ H Q I h;exact isTrue_not (ha pins s σ H (fun c H1=>Q (!c) H1) I h)
def Bf(ta tb:TE):TE:=fun σ H Q=>ta σ H fun x H1=>∃c,x=.bl c/\if c=true then tb σ H1 Q else Q (.bl false) H1
def Nn(ta:TE):TE:=fun σ H Q=>ta σ H fun x H1=>∃c,x=.bl c/\Q (.bl (!c)) H1
def Px{op}{t:TE}(h:PE X a t):PE X (.BoolOp op [a] pos) t:=fun pins s σ H Q I hw=>BoolOp_one (h pins s σ H Q I hw)
def Sn(ha:PE X a ta)(hb:PE X (.BoolOp .And (b::rest) pos) tb):PE X (.BoolOp .And (a::b::rest) pos) (Bf ta tb):=by
 intro pins s σ H Q I h;refine BoolOp_and (thn (ha pins s σ H _ I h) fun v s1 ⟨x,H1,I1,r1,q1⟩=>?_);obtain⟨c,rfl,q1⟩:=q1;cases r1
 refine YK ?_;cases c with
 |true=>exact hb pins s1 σ H1 Q I1 q1
 |false=>exact⟨.bl false,H1,I1,rfl,q1⟩
def P8(ha:PE X a ta):PE X (.UnaryOp .Not a pos) (Nn ta):=by
 intro pins s σ H Q I h;refine UnaryOp_ (thn (ha pins s σ H _ I h) fun v s1 ⟨x,H1,I1,r1,q1⟩=>?_);obtain⟨c,rfl,q1⟩:=q1;cases r1
 exact not_of (YK ⟨.bl (!c),H1,I1,rfl,q1⟩)
end
def SqL(K:Za)(H:Hp)(a:Addr)(xs:List V):Prop:=
 Rd H a (.lst xs)\/
  ∃(o:Obj) (its:Array Value) (n:Nat),K.lookup a=some o/\o.cls=.type "list"/\o.dict=none/\o.data=.seq its n/\its.size<=sizeLine/\Vals xs its.toList
def SqT(K:Za)(H:Hp)(a:Addr)(xs:List V):Prop:=
 Rd H a (.tup xs)\/
  ∃(o:Obj) (its:Array Value) (n:Nat),K.lookup a=some o/\o.cls=.type "tuple"/\o.data=.seq its n/\its.size<=sizeLine/\Vals xs its.toList
def absV:Value->Option V
 | .none=>some .non
 | .bool b=>some (.bl b)
 | .int i _=>some (.int i)
 | .str x _=>some (.str x)
 | .bytes b _=>some (.byt b)
 | .float b _=>some (.flt b)
 | .ref a=>some (.ref a)
 | .type n=>some (.ty n)
 |_=>none
def RelV.abs {x:V}{u:Value} (r:RelV x u):absV u=some x:=by
 cases x with
 |non=>cases r;rfl
 |bl _=>cases r;rfl
 |int _=>obtain⟨t,rfl⟩:=r;rfl
 |str _=>obtain⟨t,rfl⟩:=r;rfl
 |byt _=>obtain⟨t,rfl⟩:=r;rfl
 |flt _=>obtain⟨t,rfl⟩:=r;rfl
 |ref _=>cases r;rfl
 |ty _=>cases r;rfl
def RelV.inj {x y:V}{u:Value} (r:RelV x u) (q:RelV y u):x=y:=ZE (r.abs.symm.trans q.abs)
def Vals.inj:∀{xs ys:List V}{us:List Value},Vals xs us->Vals ys us->xs=ys
 |_,_,_,.nil,.nil=>rfl
 |_,_,_,.cons r t,.cons r' t'=>by rw[r.inj r',Vals.inj t t']
section
variable {X:Cx}{pins:List (Addr×Obj)}{σ:St}{H:Hp}{s:Shared}{a:Addr}{xs ys:List V}
def SqL.of {K:Za} (h:H a=some (.lst xs)):SqL K H a xs:=.inl (.inl h)
def SqT.of {K:Za} (h:H a=some (.tup xs)):SqT K H a xs:=.inl (.inl h)
def Inv.list (I:Inv X pins σ H s) (h:SqL X.K H a xs):∃its:List Value,Vals xs its/\PlainL s.heap a its.toArray/\xs.length<=sizeLine:=by
 rcases h with h|⟨o,its,n,hk,hc,hd,hs,hz,r⟩
 ·obtain⟨z,its,n,r,e⟩:=h.ok I.hok;exact⟨its,r,⟨_,n,e,rfl,rfl,rfl⟩,z⟩
 ·refine⟨its.toList,r,⟨o,n,I.kIn a o hk,hc,hd,by simpa using hs⟩,?_⟩;have e:=r.length;simp only[Yk]at e;omega
def Inv.tuple (I:Inv X pins σ H s) (h:SqT X.K H a xs):∃its:List Value,Vals xs its/\IsTup s.heap a its.toArray/\xs.length<=sizeLine:=by
 rcases h with h|⟨o,its,n,hk,hc,hs,hz,r⟩
 ·obtain⟨z,its,r,p⟩:=h.ok I.hok;exact⟨its,r,p,z⟩
 ·refine⟨its.toList,r,⟨o,I.kIn a o hk,hc,n,by simpa using hs⟩,?_⟩;have e:=r.length;simp only[Yk]at e;omega
def Inv.list_inj (I:Inv X pins σ H s) (h:SqL X.K H a xs) (h':SqL X.K H a ys):xs=ys:=by
 obtain⟨its,r,⟨o,n,e,_,_,d⟩,_⟩:=I.list h;obtain⟨its',r',⟨o',n',e',_,_,d'⟩,_⟩:=I.list h';rw[e]at e';cases e';rw[d]at d';injection d' with d1 _
 have:its=its':=by simpa using Yg Array.toList d1
 subst this;exact r.inj r'
def Inv.tuple_inj (I:Inv X pins σ H s) (h:SqT X.K H a xs) (h':SqT X.K H a ys):xs=ys:=by
 obtain⟨its,r,⟨o,e,_,n,d⟩,_⟩:=I.tuple h;obtain⟨its',r',⟨o',e',_,n',d'⟩,_⟩:=I.tuple h';rw[e]at e';cases e';rw[d]at d';injection d' with d1 _
 have:its=its':=by simpa using Yg Array.toList d1
 subst this;exact r.inj r'
end
abbrev Cx.wish (X:Cx) (E:Value->Shared->Prop):Cx:={X with xe:=E}
abbrev Cx.nox (X:Cx):Cx:=X.wish fun _ _=>False
def Cx.Ok.wish {X:Cx} (ok:X.Ok) (E:Value->Shared->Prop):(X.wish E).Ok:=
 ⟨ok.mod,ok.kind,ok.glob,ok.blt,ok.above,ok.inj,ok.has,ok.cab,ok.hd,ok.frames,ok.stk,ok.exf,ok.bs,ok.bsz,ok.noex,ok.exfs,ok.funs,ok.frf⟩
def Cx.Ok.unwish {X:Cx}{E:Value->Shared->Prop} (ok:(X.wish E).Ok):X.Ok:=
 ⟨ok.mod,ok.kind,ok.glob,ok.blt,ok.above,ok.inj,ok.has,ok.cab,ok.hd,ok.frames,ok.stk,ok.exf,ok.bs,ok.bsz,ok.noex,ok.exfs,ok.funs,ok.frf⟩
section
variable {X:Cx}{pins:List (Addr×Obj)}{σ:St}{H:Hp}{s:Shared}{E:Value->Shared->Prop}
def Inv.wish (I:Inv X pins σ H s) (E:Value->Shared->Prop):Inv (X.wish E) pins σ H s:=⟨I.ok.wish E,I.os,I.bare,I.base,I.loc,I.cell,I.free,I.freeC,I.pin,I.hok,I.len⟩
def Inv.unwish (I:Inv (X.wish E) pins σ H s):Inv X pins σ H s:=⟨I.ok.unwish,I.os,I.bare,I.base,I.loc,I.cell,I.free,I.freeC,I.pin,I.hok,I.len⟩
def SP.unwish {D:Ends}{f:Flow}{s':Shared} (h:SP (X.wish E) pins D f s'):SP X pins D f s':=by
 cases f with
 |next=>obtain⟨σ',H',I,q⟩:=h;exact⟨σ',H',I.unwish,q⟩
 |brk=>obtain⟨σ',H',I,q⟩:=h;exact⟨σ',H',I.unwish,q⟩
 |cont=>obtain⟨σ',H',I,q⟩:=h;exact⟨σ',H',I.unwish,q⟩
 |ret u=>obtain⟨v,σ',H',I,r,q⟩:=h;exact⟨v,σ',H',I.unwish,r,q⟩
def PSs.nox {st:List Stmt}{t:TS} (h:PSs X.nox st t):PSs X st t:=fun pins s σ H D I hw=>
 Y3 (h pins s σ H D (I.wish _) hw) (fun _ _ q=>q.unwish) fun _ _ z=>False.elim z
end
section
variable {X:Cx}{st:Stmt}{rest:List Stmt}{t u:TS}{e:Expr}{te:TE}{pos:Pos}
def Tx:TS:=fun D σ H=>D.nx σ H
def tSeq(t u:TS):TS:=fun D σ H=>t {D with nx:=u D} σ H
def Vg:PSs X [] Tx:=fun _ _ σ H _ I h=>Qf ⟨σ,H,I,h⟩
def QH(h1:PS X st t)(h2:PSs X rest u):PSs X (st::rest) (tSeq t u):=by
 intro pins s σ H D I h;refine wpAny_execs_cons (thn (h1 pins s σ H {D with nx:=u D} I h) fun f s1 q=>?_)
 cases f with
 |next=>
  obtain⟨σ',H',I',q⟩:=q;exact h2 pins s1 σ' H' D I' q
 |ret v=>exact q
 |brk=>exact q
 |cont=>exact q
def QI(h1:PS X st t):PSs X [st] t:=by
 intro pins s σ H D I h;refine wpAny_execs_cons (thn (h1 pins s σ H D I h) fun f s1 q=>?_);cases f with
 |next=>exact Qf q
 |ret v=>exact q
 |brk=>exact q
 |cont=>exact q
def Inv.quiet {pins:List (Addr×Obj)}{σ:St}{H:Hp}{s:Shared} (I:Inv X pins σ H s):interactive X.env=false:=by simp[interactive,I.ok.kind]
def K5(te:TE):TS:=fun D σ H=>te σ H fun _ H1=>D.nx σ H1
def U3(he:PE X e te)(hs:swapsWith e none pos.line X.env=pure false:=by rfl):PS X (.Expr e pos) (K5 te):=by
 intro pins s σ H D I h;exact wpAny_Expr_any (thn (he pins s σ H _ I h) fun v s1 ⟨x,H1,I1,r1,q1⟩=>⟨σ,H1,I1,q1⟩) I.quiet hs
def tRet(te:TE):TS:=fun D σ H=>te σ H D.rt
def QT(he:PE X e te):PS X (.Return (some e) pos) (tRet te):=by
 intro pins s σ H D I h;exact wpAny_Return_some (thn (he pins s σ H _ I h) fun v s1 ⟨x,H1,I1,r1,q1⟩=>⟨x,σ,H1,I1,r1,q1⟩)
def tIfS(c:TT)(t u:TS):TS:=fun D σ H=>c σ H fun b H1=>if b=true then t D σ H1 else u D σ H1
def Vd{c:Expr}{a b:List Stmt}{tc:TT}(hc:PT X c tc)(ha:PSs X a t)(hb:PSs X b u):PS X (.If c a b pos) (tIfS tc t u):=by
 intro pins s σ H D I h;refine wpAny_If (thn (hc pins s σ H _ I h) fun d s1 ⟨H1,I1,q1⟩=>?_);cases d with
 |true=>exact ha pins s1 σ H1 D I1 q1
 |false=>exact hb pins s1 σ H1 D I1 q1
def Sa:TS:=fun _ _ _=>False
def Es:PS X st Sa:=fun _ _ _ _ _ _ h=>h.elim
end
abbrev TG:=V->St->Hp->(St->Hp->Prop)->Prop
abbrev TGs:=List V->St->Hp->(St->Hp->Prop)->Prop
def PG(X:Cx)(target:Expr)(t:TG):Prop:=
 ∀(pins:List (Addr×Obj)) (s:Shared) (σ:St) (H:Hp) (v:V) (u:Value) (Q:St->Hp->Prop),Inv X pins σ H s->RelV v u->t v σ H Q->
  wpAny (model X.prog X.w) X.A (assign target X.env u) (fun _ s'=>∃σ' H',Inv X pins σ' H' s'/\Q σ' H') X.xe s
def PGs(X:Cx)(ts:List Expr)(t:TGs):Prop:=
 ∀(pins:List (Addr×Obj)) (s:Shared) (σ:St) (H:Hp) (vs:List V) (us:List Value) (Q:St->Hp->Prop),Inv X pins σ H s->Vals vs us->t vs σ H Q->
  wpAny (model X.prog X.w) X.A (assignInOrder ((assignEach ts X.env).map (·.2)) us) (fun _ s'=>∃σ' H',Inv X pins σ' H' s'/\Q σ' H') X.xe s
abbrev TSet:=V->V->V->Hp->(Hp->Prop)->Prop
def PSet(X:Cx)(t:TSet):Prop:=
 ∀(pins:List (Addr×Obj)) (s:Shared) (σ:St) (H:Hp) (o i v:V) (ov iv u:Value) (Q:Hp->Prop),Inv X pins σ H s->RelV o ov->RelV i iv->RelV v u->t o i v H Q->
  wpAny (model X.prog X.w) X.A (setItem ov iv u) (fun _ s'=>∃H',Inv X pins σ H' s'/\Q H') X.xe s
abbrev TIp:=V->V->Hp->VK->Prop
def PIp(X:Cx)(op:Operator)(t:TIp):Prop:=
 ∀(pins:List (Addr×Obj)) (s:Shared) (σ:St) (H:Hp) (x y:V) (v u:Value) (Q:VK),Inv X pins σ H s->RelV x v->RelV y u->t x y H Q->
  wpAny (model X.prog X.w) X.A (inplaceOp op v u) (EP X pins σ Q) X.xe s
section
variable {X:Cx}{pos:Pos}
def JM(i:Nat):TG:=fun v σ H Q=>Q (σ.set i (some v)) H
def V1{i:Nat}{x:Str}(hN:X.N.Nodup)(hi:X.N[i]?=some x)(hx:Loc X.env.scope x)(hf:X.fn x=true\/X.env.scope.names.lookup x=some .local:=by first|exact .inl rfl|exact .inr rfl|assumption):PG X (.Name x pos) (JM i):=by
 intro pins s σ H v u Q I r h;exact wpAny_assign_Name (JG I hN hi hx r (fun s' I'=>⟨_,H,I',h⟩) hf)
def gNil:TGs:=fun vs σ H Q=>vs=[]/\Q σ H
def NM(t:TG)(u:TGs):TGs:=fun vs σ H Q=>∃v r,vs=v::r/\t v σ H fun σ' H'=>u r σ' H' Q
def Xe:PGs X [] gNil:=by
 intro pins s σ H vs us Q I r h;obtain⟨e,h⟩:=h;subst e;cases r
 exact assignInOrder_nil ⟨σ,H,I,h⟩
def Jx{e:Expr}{es:List Expr}{t:TG}{u:TGs}(h1:PG X e t)(h2:PGs X es u)(hs:(assignEach (e::es) X.env).map (·.2)=assign e X.env::(assignEach es X.env).map (·.2):=by rfl):PGs X (e::es) (NM t u):=by
 intro pins s σ H vs us Q I r h;obtain⟨v,vr,e1,h⟩:=h;subst e1;cases r with
 |cons r rr=>
  rw[hs];refine assignInOrder_cons (thn (h1 pins s σ H _ _ _ I r h) fun _ s1 ⟨σ1,H1,I1,q1⟩=>?_);exact h2 pins s1 σ1 H1 _ _ Q I1 rr q1
def gTup(K:Za)(n:Nat)(t:TGs):TG:=fun v σ H Q=>∃a xs,v=.ref a/\SqT K H a xs/\xs.length=n/\t xs σ H Q
def PZ{es:List Expr}{k:Nat}{t:TGs}{n:Nat}(hc:X.calm=true)(h:PGs X es t)(hn:(assignEach es X.env).length=n:=by rfl)(hst:(assignEach es X.env).findIdx? (·.1)=none:=by rfl):PG X (.Tuple es k pos) (gTup X.K n t):=by
 intro pins s σ H v u Q I r hw;obtain⟨a,xs,e1,hq,hl,hw⟩:=hw;subst e1;cases r
 obtain⟨its,rv,ht,hz⟩:=I.tuple hq;refine assign_Tuple_tuple (I.ok.hd hc) ht (by simp[hn,←hl,rv.length]) hst fun h' hx=>?_;have I1:Inv X pins σ H {s with heap:=h'}:=I.kept (t':=s.toks) fun b o e=>hx b o (Yf (ZK e)) e
 exact h pins _ σ H xs _ Q I1 (by simpa using rv) hw
def tAsg(te:TE)(g:TG):TS:=fun D σ H=>te σ H fun x H1=>g x σ H1 D.nx
def Ci{i:Nat}{x:Str}{e:Expr}{te:TE}{pos':Pos}(hN:X.N.Nodup)(hi:X.N[i]?=some x)(hx:Loc X.env.scope x)(he:PE X e te)(hs:swapsWith e (some (.Name x pos')) pos.line X.env=pure false:=by rfl)(hf:X.fn x=true\/X.env.scope.names.lookup x=some .local:=by first|exact .inl rfl|exact .inr rfl|assumption) :
  PS X (.Assign [.Name x pos'] e pos) (tAsg te (JM i)):=by
 intro pins s σ H D I h;refine wpAny_Assign_Name (thn (he pins s σ H _ I h) fun v s1 ⟨y,H1,I1,r1,q1⟩=>?_) hs;exact JG I1 hN hi hx r1 (fun s2 I2=>⟨_,H1,I2,q1⟩) hf
def tPar(i j:Nat)(ta:TA):TS:=fun D σ H=>ta σ H fun vs H1=>∃v w,vs=[v,w]/\D.nx ((σ.set i (some v)).set j (some w)) H1
def BE{i j:Nat}{x y:Str}{a b:Expr}{ta:TA}{px py pt:Pos}{kt k2 pt2}(hc:X.calm=true)(hN:X.N.Nodup)(hi:X.N[i]?=some x)(hj:X.N[j]?=some y)(hij:i≠j)(hx:X.env.scope.names.lookup x=some .local)(hy:X.env.scope.names.lookup y=some .local)(ha:PA X [a,b] ta)(hw:swappedStores [.Tuple [.Name x px,.Name y py] kt pt] (.Tuple [a,b] k2 pt2) X.env=pure (some [x,y]))(hs:swapsWithSole [.Tuple [.Name x px,.Name y py] kt pt] (.Tuple [a,b] k2 pt2) pos.line X.env=pure false:=by rfl) :
  PS X (.Assign [.Tuple [.Name x px,.Name y py] kt pt] (.Tuple [a,b] k2 pt2) pos) (tPar i j ta):=by
 intro pins s σ H D I h;rw[exec_Assign_arm];refine Z4 (wpAny_standAt ?_);rw[hs];refine Z4 (Z8 ?_);rw[ZG (by decide)];refine Z4 (Tuple_ (thn (ha _ pins s σ H _ I h) fun us s1 ⟨vs,H1,I1,r1,q1⟩=>?_));obtain⟨v,w,e1,q1⟩:=q1;subst e1
 obtain⟨u1,u2,rfl,rv,rw'⟩:∃u1 u2,us=[u1,u2]/\RelV v u1/\RelV w u2:=by
  cases r1 with
  |cons p q=>
   cases q with
   |cons p' q'=>
    cases q'
    exact⟨_,_,rfl,p,p'⟩
 refine Yq ?_ (by show 2<=sizeLine;decide);have I2:Inv X pins σ H1 {s1 with heap:=s1.heap.push {cls:=.type "tuple",data:=.seq [u1,u2].toArray}}:=I1.kept (t':=s1.toks) fun b o e=>Z9 _ e
 rw[hw];refine Z4 (Z8 ?_);show wpAny (model X.prog X.w) X.A (do rule "assign.swapped-stores";let items ←unpackItems (.ref s1.heap.objs.size) 2 none;assignInOrder [fun v=>bindName X.env y v,fun v=>bindName X.env x v] items.reverse;pure Flow.next) _ _ _
 refine Z4 (wpAny_rule (Z4 (unpackItems_tuple (items:=#[u1,u2]) (I.ok.hd hc) (IsTup.new s1.heap _) fun h' hx'=>?_)));have I3:=I2.kept (h':=h') (t':=s1.toks) fun b o e=>hx' b o (Yf (ZK e)) e;show wpAny _ _ (assignInOrder [fun v=>bindName X.env y v,fun v=>bindName X.env x v] [u2,u1] >>= fun _=>pure Flow.next) _ _ _;refine Z4 (assignInOrder_cons (wpAny_bindName (JG I3 hN hj (.inl hy) rw' (fun s2 I4=>?_) (.inr hy))));refine assignInOrder_cons (wpAny_bindName (JG I4 hN hi (.inl hx) rv (fun s3 I5=>assignInOrder_nil (Z8 ?_)) (.inr hx)));rw[List.set_comm _ _ (Ne.symm hij)]at I5;exact⟨_,H1,I5,q1⟩
def tAug(i:Nat)(te:TE)(ti:TIp):TS:=fun D σ H=>∃x,σ[i]?=some (some x)/\te σ H fun y H1=>ti x y H1 fun z H2=>D.nx (σ.set i (some z)) H2
def Te{i:Nat}{x:Str}{e:Expr}{te:TE}{op:Operator}{ti:TIp}{pos':Pos}(hN:X.N.Nodup)(hi:X.N[i]?=some x)(hx:Loc X.env.scope x)(he:PE X e te)(ho:PIp X op ti)(hf:X.fn x=true\/X.env.scope.names.lookup x=some .local:=by first|exact .inl rfl|exact .inr rfl|assumption) :
  PS X (.AugAssign (.Name x pos') op e pos) (tAug i te ti):=by
 intro pins s σ H D I h;obtain⟨v,e1,h⟩:=h;obtain⟨m,hn,hl⟩:=I.loc;have vis:Vis X.env.scope x:=by rcases hx with k|k;exact .inl k;exact .inr (.inl k)
 obtain⟨u,r,l⟩:=hl i x v hi e1 vis;refine wpAny_AugAssign_Name ?_
 have go:wpAny (model X.prog X.w) X.A (eval e X.env) (fun w s₂=>wpAny (model X.prog X.w) X.A (inplaceOp op u w) (fun r s₃=>wpAny (model X.prog X.w) X.A (storeName X.env x r) (fun _=>SP X pins D .next) X.xe s₃) X.xe s₂) X.xe s:=by
  refine thn (he pins s σ H _ I h) fun w s1 ⟨y,H1,I1,r1,q1⟩=>?_;refine thn (ho pins s1 σ H1 v y u w _ I1 r r1 q1) fun z s2 ⟨zv,H2,I2,r2,q2⟩=>?_;exact JG I2 hN hi hx r2 (fun s3 I3=>⟨_,H2,I3,q2⟩) hf
 rcases l with⟨hk,hm⟩|⟨hk,c,hc,hcell⟩
 ·exact wpAny_loadName_local I.ok.kind hk hn hm go
 ·rcases hk with hk|hk
  ·exact wpAny_loadName_cell I.ok.kind hk hc hcell go
  ·rcases hx with k|k
   ·have:X.env.scope.names.lookup x=some .free:=hk
    rw[k]at this;cases this
   ·have:X.env.scope.names.lookup x=some .free:=hk
    rw[k]at this;cases this
def KF(to ti te:TE)(tget:V->V->Hp->VK->Prop)(tip:TIp)(tset:TSet):TS:=fun D σ H=>to σ H fun o H1=>ti σ H1 fun i H2=>tget o i H2 fun x H3=>te σ H3 fun y H4=>tip x y H4 fun z H5=>tset o i z H5 fun H6=>D.nx σ H6
def PGet(X:Cx)(t:V->V->Hp->VK->Prop):Prop:=
 ∀(pins:List (Addr×Obj)) (s:Shared) (σ:St) (H:Hp) (o i:V) (ov iv:Value) (Q:VK),Inv X pins σ H s->RelV o ov->RelV i iv->t o i H Q->
  wpAny (model X.prog X.w) X.A (getItem ov iv) (EP X pins σ Q) X.xe s
def PB{o i e:Expr}{to ti te:TE}{tget:V->V->Hp->VK->Prop}{tip:TIp}{tset:TSet}{op:Operator}{tpos:Pos}(ho:PE X o to)(hi:PE X i ti)(hg:PGet X tget)(he:PE X e te)(hp:PIp X op tip)(hs:PSet X tset)(ha:∀ov iv new,augStore i ov iv new=(do holding [new,ov,iv] (setItem ov iv new);release [new,ov,iv] [];pure .next):=by intros;rfl):PS X (.AugAssign (.Subscript o i tpos) op e pos) (KF to ti te tget tip tset):=by
 intro pins s σ H D I h;refine wpAny_AugAssign_SubscriptAny (thn (ho pins s σ H _ I h) fun ov s1 ⟨x1,H1,I1,r1,q1⟩=>?_) ha;refine thn (hi pins s1 σ H1 _ I1 q1) fun iv s2 ⟨x2,H2,I2,r2,q2⟩=>?_;refine thn (hg pins s2 σ H2 x1 x2 ov iv _ I2 r1 r2 q2) fun old s3 ⟨x3,H3,I3,r3,q3⟩=>?_;refine thn (he pins s3 σ H3 _ I3 q3) fun v s4 ⟨x4,H4,I4,r4,q4⟩=>?_;refine thn (hp pins s4 σ H4 x3 x4 old v _ I4 r3 r4 q4) fun new s5 ⟨x5,H5,I5,r5,q5⟩=>?_;exact thn (hs pins s5 σ H5 x1 x2 x5 ov iv new _ I5 r1 r2 r5 q5) fun _ s6 ⟨H6,I6,q6⟩=>⟨σ,H6,I6,q6⟩
def ipI(f:Int->Int->Int):TIp:=fun x y H Q=>∃i j,x=.int i/\y=.int j/\Q (.int (f i j)) H
def Ts:PIp X .Add (ipI fun i j=>i+j):=by
 intro pins s σ H x y v u Q I r1 r2 h;obtain⟨i,j,e1,e2,q⟩:=h;subst e1;subst e2;obtain⟨t,rfl⟩:=r1;obtain⟨t',rfl⟩:=r2;exact iadd_int ⟨.int _,H,I.tok _,⟨_,rfl⟩,q⟩
end
section
variable {X:Cx}{pos:Pos}
def Tr(c:TT)(tb:TS):TS:=fun D σ H=>∃W:Nat->St->Hp->Prop,(∃m,W m σ H)/\∀m σ H,W m σ H->
 c σ H fun b H1=>if b=true then ∃N:St->Hp->Prop,(∀σ' H',N σ' H'->∃m',m'<m/\W m' σ' H')/\tb {D with nx:=N,ct:=N,bk:=D.nx} σ H1 else D.nx σ H1
def F3{c:Expr}{body:List Stmt}{tc:TT}{tb:TS}(hp:PassesOwn (model X.prog X.w) X.A X.env X.xe)(hc:PT X c tc)(hb:PSs X body tb):PS X (.While c body [] pos) (Tr tc tb):=by
 intro pins s σ H D I h;obtain⟨W,⟨m0,w0⟩,turn⟩:=h;refine wpAny_While (codeAny_whileLoop (fun n s'=>∃σ' H',Inv X pins σ' H' s'/\W n σ' H') ?_ m0 ⟨σ,H,I,w0⟩);rintro n s1 ⟨σ1,H1,I1,w1⟩;refine YU hp (thn (hc pins s1 σ1 H1 _ I1 (turn n σ1 H1 w1)) fun b s2 ⟨H2,I2,q2⟩=>?_);cases b with
 |true=>
  obtain⟨N,hN,q2⟩:=q2;rw[ZH rfl];refine YU hp (thn (hb pins s2 σ1 H2 _ I2 q2) fun f s3 q3=>?_);cases f with
  |next=>
   obtain⟨σ3,H3,I3,n3⟩:=q3;obtain⟨m',hm,w3⟩:=hN σ3 H3 n3;exact⟨m',hm,σ3,H3,I3,w3⟩
  |cont=>
   obtain⟨σ3,H3,I3,n3⟩:=q3;obtain⟨m',hm,w3⟩:=hN σ3 H3 n3;exact⟨m',hm,σ3,H3,I3,w3⟩
  |brk=>exact q3
  |ret v=>exact q3
 |false=>
  rw[ZG ZJ];exact Qf ⟨σ1,H2,I2,q2⟩
end
structure It where
 go:Nat->Hp->Prop
 yld:Nat->Hp->V->Hp->Prop
 stop:Nat->Hp->Prop
def FpOk(X:Cx)(pins:List (Addr×Obj))(H:Hp)(b:Addr):Prop:=
 H b=none/\b≠X.env.locals/\b∉X.fs/\(b∈X.ex\/X.s₀.heap.objs.size<=b)/\(∀x c,X.env.cells.lookup x=some c->c≠b)/\∀p∈X.pn++pins,p.1≠b
def Inv.fpOk {X:Cx}{pins:List (Addr×Obj)}{σ:St}{H H':Hp}{s:Shared}{b:Addr} (I:Inv X pins σ H s) (hb:s.heap.objs.size<=b) (hn:H' b=none):FpOk X pins H' b:=by
 refine⟨hn,Nat.ne_of_gt (Ye I.lt hb),I.nofs hb,.inr (ZW I.sz hb),fun x c e z=>?_,fun p hp z=>?_⟩
 ·obtain⟨v,q⟩:=I.cell x c e;exact absurd (Ye q.lt (by rw[z];exact hb)) (YL _)
 ·exact absurd (Ye (ZK (I.pin p hp).1) (by rw[z];exact hb)) (YL _)
structure Turn (P:Program) (w:World) (K:Za) (tg:Expr) (J:It) (fp:List Addr) (it:Addr) (tn:Nat->Heap->Prop):Prop where
 mem:it∈fp
 obj:∀i h,tn i h->∀b∈fp,∃o,h.get? b=some o/\∀v,o.data≠.cell v
 keep:∀i h h',tn i h->(∀b∈fp,∀o,h.get? b=some o->h'.get? b=some o)->tn i h'
 item:∀(X:Cx),X.prog=P->X.w=w->X.K=K->X.calm=true->∀(i:Nat) (pins:List (Addr×Obj)) (s:Shared) (σ:St) (H:Hp) (E:Value->Shared->Prop),Inv X pins σ H s->(∀b∈fp,FpOk X pins H b)->tn i s.heap->J.go i H->
  wpAny (model P w) X.A (pyNext (.ref it)) (fun r s1=>∃u,r=some u/\
   wpAny (model P w) X.A (letOwnedTupleGo tg (.ref it) u) (fun _ s2=>∃x H',Inv X pins σ H' s2/\RelV x u/\J.yld i H x H'/\tn (i+1) s2.heap/\∀b∈fp,H' b=none) E s1) E s
 done:∀(X:Cx),X.prog=P->X.w=w->X.K=K->X.calm=true->∀(i:Nat) (pins:List (Addr×Obj)) (s:Shared) (σ:St) (H:Hp) (E:Value->Shared->Prop),Inv X pins σ H s->(∀b∈fp,FpOk X pins H b)->tn i s.heap->J.stop i H->
  wpAny (model P w) X.A (pyNext (.ref it)) (fun r s1=>r=none/\Inv X pins σ H s1) E s
 self:∀(A:Around) (i:Nat) (s:Shared) (Q:Value->Shared->Prop) (E:Value->Shared->Prop),tn i s.heap->Q (.ref it) s->wpAny (model P w) A (pyIter (.ref it)) Q E s
abbrev TI:=St->Hp->(It->Hp->Prop)->Prop
def PIE(X:Cx)(pins:List (Addr×Obj))(σ:St)(tg:Expr)(R:It->Hp->Prop)(itv:Value)(s2:Shared):Prop:=
 ∃(it:Addr) (fp:List Addr) (tn:Nat->Heap->Prop) (J:It) (H':Hp),itv=.ref it/\Inv X pins σ H' s2/\Turn X.prog X.w X.K tg J fp it tn/\tn 0 s2.heap/\(∀b∈fp,FpOk X pins H' b)/\R J H'
def PI(X:Cx)(tg iter:Expr)(wi:TI):Prop:=
 ∀(pins:List (Addr×Obj)) (s:Shared) (σ:St) (H:Hp) (R:It->Hp->Prop),Inv X pins σ H s->wi σ H R->
  wpAny (model X.prog X.w) X.A (eval iter X.env) (fun v s1=>wpAny (model X.prog X.w) X.A (pyIter v) (PIE X pins σ tg R) X.xe s1) X.xe s
def XX {M : Model} {A : Around} {E : Value → Shared → Prop} {s : Shared} {tg : Expr} {it : Addr} {u : Value} {o : Obj} {n : String} {vs : Array Value} {Q : Unit → Shared → Prop} (ho : s.heap.get? it = some o) (hc : o.cls = .type n) (hd : o.data = .fields vs)
    (hn : ["enumerate", "zip", "dict_itemiterator", "dict_reverseitemiterator", "odict_iterator", "itertools.zip_longest", "itertools.pairwise"].contains n = false) (hQ : Q () s) : wpAny M A (letOwnedTupleGo tg (.ref it) u) Q E s := by
  unfold letOwnedTupleGo
  cases tg <;> first
    | exact Z8 hQ
    | (cases u <;> first
        | exact Z8 hQ
        | (refine Z4 (wpAny_load ho ?_)
           rw [hc, hd]
           show wpAny M A (if (["enumerate", "zip", "dict_itemiterator", "dict_reverseitemiterator", "odict_iterator", "itertools.zip_longest", "itertools.pairwise"].contains n && vs[0]? == some (rawInt _)) = true then _ else _) Q E s
           rw [ZG (by intro h; rw [hn, Bool.false_and] at h; cases h)]
           exact Z8 hQ))
def Itl(K:Za)(a:Addr):It:=
 ⟨fun i H=>∃xs x,SqL K H a xs/\xs[i]?=some x,fun i H x H'=>H'=H/\∀xs,SqL K H a xs->xs[i]?=some x,fun i H=>∃xs,SqL K H a xs/\xs.length<=i⟩
def Itt(K:Za)(a:Addr):It:=
 ⟨fun i H=>∃xs x,SqT K H a xs/\xs[i]?=some x,fun i H x H'=>H'=H/\∀xs,SqT K H a xs->xs[i]?=some x,fun i H=>∃xs,SqT K H a xs/\xs.length<=i⟩
def Itr(lo:Int)(n:Nat):It:=⟨fun i _=>i<n,fun i H x H'=>H'=H/\x=.int (lo+i),fun i _=>n<=i⟩
def FU{P:Program}{w:World}{K:Za}{tg:Expr}(a it:Addr):Turn P w K tg (Itl K a) [it] it (fun i h=>h.IsListIter it a i) where
 mem:=by simp
 obj:=fun i h st b hb=>by
  have e:b=it:=by simpa using hb
  subst e;obtain⟨o,e,c,d⟩:=st;exact⟨o,e,fun v z=>by rw[d]at z;cases z⟩
 keep:=fun i h h' st k=>st.at fun o e=>k it (by simp) o e
 item:=by
  intro X hP hw hK hc i pins s σ H E I hf st hg;subst hP hw hK;obtain⟨xs,x,hq,hx⟩:=hg;obtain⟨its,rv,p,hz⟩:=I.list hq;obtain⟨u,hu,ru⟩:=rv.get hx;obtain⟨f0,f1,f2,f3,f4,f5⟩:=hf it (by simp);refine wpAny_pyNext_list_item st p.isList (x:=u) (by simpa using hu) fun h' st' sb=>?_;have I1:Inv X pins σ H {s with heap:=h'}:=I.turned (t':=s.toks) (fun b o hb e=>(sb.2 b hb).trans e) f0 f1 f3 f4 f5
  obtain⟨o,e,c,d⟩:=id st';exact⟨u,rfl,XX (s:={s with heap:=h'}) e c d (by decide) ⟨x,H,I1,ru,⟨rfl,fun ys hy=>by rw[I.list_inj hy hq];exact hx⟩,st',fun b hb=>(hf b hb).1⟩⟩
 done:=by
  intro X hP hw hK hc i pins s σ H E I hf st hg;subst hP hw hK;obtain⟨xs,hq,hx⟩:=hg;obtain⟨its,rv,p,hz⟩:=I.list hq;obtain⟨f0,f1,f2,f3,f4,f5⟩:=hf it (by simp);have hl:=rv.length;exact wpAny_pyNext_list_end (I.ok.hd hc) st p.isList (by simp;omega) fun h' eb=>⟨rfl,I.turned (t':=s.toks) (fun b o hb e=>eb b o hb e) f0 f1 f3 f4 f5⟩
 self:=fun _ _ _ _ _ st h=>wpAny_pyIter_listiter st h
def CN{P:Program}{w:World}{K:Za}{tg:Expr}(a it:Addr):Turn P w K tg (Itt K a) [it] it (fun i h=>h.IsTupleIter it a i) where
 mem:=by simp
 obj:=fun i h st b hb=>by
  have e:b=it:=by simpa using hb
  subst e;obtain⟨o,e,c,d⟩:=st;exact⟨o,e,fun v z=>by rw[d]at z;cases z⟩
 keep:=fun i h h' st k=>st.at fun o e=>k it (by simp) o e
 item:=by
  intro X hP hw hK hc i pins s σ H E I hf st hg;subst hP hw hK;obtain⟨xs,x,hq,hx⟩:=hg;obtain⟨its,rv,p,hz⟩:=I.tuple hq;obtain⟨u,hu,ru⟩:=rv.get hx;obtain⟨f0,f1,f2,f3,f4,f5⟩:=hf it (by simp);refine wpAny_pyNext_tuple_item st (show s.heap.IsTuple a its.toArray from p) (x:=u) (by simpa using hu) fun h' st' sb=>?_
  have I1:Inv X pins σ H {s with heap:=h'}:=I.turned (t':=s.toks) (fun b o hb e=>(sb.2 b hb).trans e) f0 f1 f3 f4 f5
  obtain⟨o,e,c,d⟩:=id st';exact⟨u,rfl,XX (s:={s with heap:=h'}) e c d (by decide) ⟨x,H,I1,ru,⟨rfl,fun ys hy=>by rw[I.tuple_inj hy hq];exact hx⟩,st',fun b hb=>(hf b hb).1⟩⟩
 done:=by
  intro X hP hw hK hc i pins s σ H E I hf st hg;subst hP hw hK;obtain⟨xs,hq,hx⟩:=hg;obtain⟨its,rv,p,hz⟩:=I.tuple hq;obtain⟨f0,f1,f2,f3,f4,f5⟩:=hf it (by simp);have hl:=rv.length;exact wpAny_pyNext_tuple_end (I.ok.hd hc) st (show s.heap.IsTuple a its.toArray from p) (by simp;omega) fun h' eb=>⟨rfl,I.turned (t':=s.toks) (fun b o hb e=>eb b o hb e) f0 f1 f3 f4 f5⟩
 self:=fun _ _ _ _ _ st h=>wpAny_pyIter_tupleiter st h
def Fv{P:Program}{w:World}{K:Za}{tg:Expr}(it:Addr)(lo:Int)(n:Nat):Turn P w K tg (Itr lo n) [it] it (fun i h=>IsRangeIter h it (lo+(i:Nat)*1) ((n:Int)-(i:Nat)) 1) where
 mem:=by simp
 obj:=fun i h st b hb=>by
  have e:b=it:=by simpa using hb
  subst e
  exact⟨_,st,fun v z=>by
   have z':Data.fields _=Data.cell v:=z;cases z'⟩
 keep:=fun i h h' st k=>k it (by simp) _ st
 item:=by
  intro X hP hw hK hc i pins s σ H E I hf st hg;subst hP hw hK;obtain⟨f0,f1,f2,f3,f4,f5⟩:=hf it (by simp);have W:=Walks.range (prog:=X.prog) (w:=X.w) (I.ok.hd hc) it lo 1 n;refine W.item i s _ _ hg st fun v h' tk hv st' kk=>?_;obtain⟨t,rfl⟩:=hv;have I1:Inv X pins σ H {s with heap:=h',toks:=tk}:=I.turned (fun b o hb e=>kk b o (by simpa using hb) e) f0 f1 f3 f4 f5
  refine⟨_,rfl,XX (s:={s with heap:=h',toks:=tk}) (n:="range_iterator") st' rfl rfl (by decide) ⟨.int (lo+i),H,I1,⟨t,?_⟩,⟨rfl,rfl⟩,st',fun b hb=>(hf b hb).1⟩⟩
  rw[Int.mul_one]
 done:=by
  intro X hP hw hK hc i pins s σ H E I hf st hg;subst hP hw hK;obtain⟨f0,f1,f2,f3,f4,f5⟩:=hf it (by simp);exact wpAny_pyNext_range_end (I.ok.hd hc) st (by have:n<=i:=hg;omega) fun h' eb=>⟨rfl,I.turned (t':=s.toks) (fun b o hb e=>eb b o hb e) f0 f1 f3 f4 f5⟩
 self:=fun _ _ _ _ _ st h=>wpAny_pyIter_rangeiter st h
section
variable {X:Cx}{tg:Expr}
def U6(K:Za)(tl:TE):TI:=fun σ H R=>tl σ H fun x H1=>∃a,x=.ref a/\(∃xs,SqL K H1 a xs)/\R (Itl K a) H1
def iTup(K:Za)(tl:TE):TI:=fun σ H R=>tl σ H fun x H1=>∃a,x=.ref a/\(∃xs,SqT K H1 a xs)/\R (Itt K a) H1
def Jw{l:Expr}{tl:TE}(hl:PE X l tl):PI X tg l (U6 X.K tl):=by
 intro pins s σ H R I h;refine thn (hl pins s σ H _ I h) fun v s1 ⟨x,H1,I1,r1,q1⟩=>?_;obtain⟨a,e,⟨xs,hq⟩,q⟩:=q1;subst e;cases r1
 obtain⟨its,rv,p,hz⟩:=I1.list hq;refine wpAny_pyIter_list p.isList ?_;refine⟨s1.heap.objs.size,[s1.heap.objs.size],_,_,H1,rfl,I1.kept (t':=s1.toks) fun b o e=>Z9 _ e,FU a _,⟨_,ZL _ rfl,rfl,rfl⟩,fun b hb=>?_,q⟩;have e:b=s1.heap.objs.size:=by simpa using hb
 subst e;exact I1.fpOk (ZF _) (I1.hok.fresh (ZF _))
def DY{l:Expr}{tl:TE}(hl:PE X l tl):PI X tg l (iTup X.K tl):=by
 intro pins s σ H R I h;refine thn (hl pins s σ H _ I h) fun v s1 ⟨x,H1,I1,r1,q1⟩=>?_;obtain⟨a,e,⟨xs,hq⟩,q⟩:=q1;subst e;cases r1
 obtain⟨its,rv,p,hz⟩:=I1.tuple hq;refine wpAny_pyIter_tuple (show s1.heap.IsTuple a its.toArray from p) ?_
 refine⟨s1.heap.objs.size,[s1.heap.objs.size],_,_,H1,rfl,I1.kept (t':=s1.toks) fun b o e=>Z9 _ e,CN a _,⟨_,ZL _ rfl,rfl,rfl⟩,fun b hb=>?_,q⟩;have e:b=s1.heap.objs.size:=by simpa using hb
 subst e;exact I1.fpOk (ZF _) (I1.hok.fresh (ZF _))
def N7{pins:List (Addr×Obj)}{σ:St}{H:Hp}{s:Shared}{R:It->Hp->Prop}{E:Value->Shared->Prop}{lo hi:Int}{t u v:Tok}{tk:Nat}(I:Inv X pins σ H s)(h1:-(2 ^ 62)<=lo)(h2:lo<2 ^ 62)(h3:-(2 ^ 62)<=hi)(h4:hi<2 ^ 62)(q:R (Itr lo (hi-lo).toNat) H):wpAny (model X.prog X.w) X.A (pyIter (.ref s.heap.objs.size)) (PIE X pins σ tg R) E {s with heap:=s.heap.push {cls:=.type "range",data:=.fields #[.int lo t,.int hi u,.int 1 v]},toks:=tk}:=by
 refine wpAny_pyIter_range (IsRange.new ..) (small_one h1 h2 h3 h4) ?_;have I1:Inv X pins σ H {s with heap:=s.heap.push {cls:=.type "range",data:=.fields #[.int lo t,.int hi u,.int 1 v]},toks:=tk}:=I.kept fun b o e=>Z9 _ e
 refine⟨(s.heap.push {cls:=.type "range",data:=.fields #[.int lo t,.int hi u,.int 1 v]}).objs.size,[(s.heap.push {cls:=.type "range",data:=.fields #[.int lo t,.int hi u,.int 1 v]}).objs.size],_,_,H,rfl,
  I1.kept (t':=tk) fun b o e=>Z9 _ e,Fv _ lo (hi-lo).toNat,?_,fun b hb=>?_,q⟩
 ·have e1:lo+((0:Nat):Int)*1=lo:=by simp
  have e2:(((hi-lo).toNat:Nat):Int)-((0:Nat):Int)=Builtin.Range.rangeSize lo hi 1:=by rw[rangeSize_one];split<;>omega
  show IsRangeIter _ _ (lo+((0:Nat):Int)*1) ((((hi-lo).toNat:Nat):Int)-((0:Nat):Int)) 1;rw[e1,e2];exact ZL _ rfl
 ·have e:b=(s.heap.push {cls:=.type "range",data:=.fields #[.int lo t,.int hi u,.int 1 v]}).objs.size:=by simpa using hb
  subst e;exact I1.fpOk (ZF _) (I1.hok.fresh (ZF _))
def Sj(ta:TA):TI:=fun σ H R=>ta σ H fun vs H1=>∃j:Int,vs=[.int j]/\-(2 ^ 62)<=j/\j<2 ^ 62/\R (Itr 0 j.toNat) H1
def N0(ta:TA):TI:=fun σ H R=>ta σ H fun vs H1=>∃i j:Int,vs=[.int i,.int j]/\(-(2 ^ 62)<=i/\i<2 ^ 62/\-(2 ^ 62)<=j/\j<2 ^ 62)/\R (Itr i (j-i).toNat) H1
def J2{a:Expr}{ta:TA}{p pos:Pos}(hg:Gl X "range")(hm:X.mg "range"=none)(ha:PA X [a] ta)(hs:starEach [a] X.env=[(false,eval a X.env)]:=by rfl):PI X tg (.Call (.Name "range" p) [a] [] pos) (Sj ta):=by
 intro pins s σ H R I h;refine Call_ (Uc I hg hm boot_range (W1 (thn (ha pos pins s σ H _ I h) fun us s1 ⟨vs,H1,I1,r1,q1⟩=>?_) hs rfl));obtain⟨j,e,q1,q2,q⟩:=q1;subst e;cases r1 with
 |cons r rr=>
  cases rr
  obtain⟨t,rfl⟩:=r;exact call_range_1 (N7 I1 (by omega) (by omega) q1 q2 (by simpa using q))
def Pg{a b:Expr}{ta:TA}{p pos:Pos}(hg:Gl X "range")(hm:X.mg "range"=none)(ha:PA X [a,b] ta)(hs:starEach [a,b] X.env=[(false,eval a X.env),(false,eval b X.env)]:=by rfl)(hs2:starEach [b] X.env=[(false,eval b X.env)]:=by rfl) :
  PI X tg (.Call (.Name "range" p) [a,b] [] pos) (N0 ta):=by
 intro pins s σ H R I h;refine Call_ (Uc I hg hm boot_range (W1 (thn (ha pos pins s σ H _ I h) fun us s1 ⟨vs,H1,I1,r1,q1⟩=>?_) (by rw[hs,hs2]) (by rw[hs2];rfl)));obtain⟨i,j,e,⟨q1,q2,q3,q4⟩,q⟩:=q1;subst e;cases r1 with
 |cons r rr=>
  cases rr with
  |cons r' rr=>
   cases rr
   obtain⟨t,rfl⟩:=r;obtain⟨t',rfl⟩:=r';exact call_range_2 (N7 I1 q1 q2 q3 q4 q)
def tFor(wi:TI)(g:TG)(tb:TS):TS:=fun D σ H=>wi σ H fun J H1=>∃W:Nat->Nat->St->Hp->Prop,(∃m,W 0 m σ H1)/\∀i m σ H,W i m σ H->
 (J.stop i H/\D.nx σ H)\/(J.go i H/\∃N:St->Hp->Prop,(∀σ' H',N σ' H'->∃m',m'<m/\W (i+1) m' σ' H')/\∀x H',J.yld i H x H'->g x σ H' fun σ2 H2=>tb {D with nx:=N,ct:=N,bk:=D.nx} σ2 H2)
def Uj(fp:List Addr)(h:Heap):List (Addr×Obj):=fp.filterMap fun b=>(h.get? b).map fun o=>(b,o)
def Xm{fp:List Addr}{h:Heap}{b:Addr}{o:Obj}(hb:b∈fp)(e:h.get? b=some o):(b,o)∈Uj fp h:=Qt.mpr ⟨b,hb,by rw[e];rfl⟩
def Cd{fp:List Addr}{h:Heap}{p:Addr×Obj}(hp:p∈Uj fp h):p.1∈fp/\h.get? p.1=some p.2:=by
 obtain⟨b,hb,e⟩:=Qt.mp hp;cases q:h.get? b with
 |none=>rw[q]at e;cases e
 |some o=>
  rw[q]at e;have e':(b,o)=p:=ZE e;subst e';exact⟨hb,q⟩
def Inv.pinned {pins:List (Addr×Obj)}{σ:St}{H:Hp}{s:Shared}{fp:List Addr} (I:Inv X pins σ H s) (hf:∀b∈fp,FpOk X pins H b) (ho:∀b∈fp,∃o,s.heap.get? b=some o/\∀v,o.data≠.cell v):Inv X (pins++Uj fp s.heap) σ H s:=
 I.pins_of fun p hp=>(ZU.mp hp).elim (fun z=>I.pin p (ZY _ z)) fun z=>by
  obtain⟨hb,e⟩:=Cd z;obtain⟨f0,f1,f2,_⟩:=hf p.1 hb;obtain⟨o,e',d⟩:=ho p.1 hb;rw[e]at e';cases e';exact⟨e,f0,f1,f2,d⟩
def Inv.unpinned {pins pl:List (Addr×Obj)}{σ:St}{H:Hp}{s:Shared} (I:Inv X (pins++pl) σ H s):Inv X pins σ H s:=I.pins_of fun p hp=>I.pin p (ZY _ (YZ _ hp))
def Vn{iter:Expr}{body:List Stmt}{wi:TI}{g:TG}{tb:TS}{pos:Pos}(hp:PassesOwn (model X.prog X.w) X.A X.env X.xe)(hc:X.calm=true)(hi:PI X tg iter wi)(hg:PG X tg g)(hb:PSs X body tb)(hs:∀x,foldedSetIterable iter X.env x=pure x:=by intro _;rfl):PS X (.For tg iter body [] pos) (tFor wi g tb):=by
 intro pins s σ H D I h;refine wpAny_For (thn (hi pins s σ H _ I h) fun v s1 h1=>thn h1 fun itv s2 h2=>?_) hs;obtain⟨it,fp,tn,J,H2,e,I2,T,st2,f2,W,⟨m0,w0⟩,turn⟩:=h2;subst e;have stat:∀{H':Hp},(∀b∈fp,H' b=none)->∀b∈fp,FpOk X pins H' b:=fun hn b hb=>⟨hn b hb,(f2 b hb).2⟩;refine codeAny_forLoop_any (fun n s'=>∃i σ' H',Inv X pins σ' H' s'/\tn i s'.heap/\(∀b∈fp,H' b=none)/\W i n σ' H') ?_ m0 ⟨0,σ,H2,I2,st2,fun b hb=>(f2 b hb).1,w0⟩;rintro n s3 ⟨i,σ3,H3,I3,st3,fr3,w3⟩;rcases turn i n σ3 H3 w3 with⟨stop,qn⟩|⟨go,N,hN,step⟩
 ·refine YU hp (thn (T.done X rfl rfl rfl hc i pins s3 σ3 H3 X.xe I3 (stat fr3) st3 stop) fun r s4 ⟨hr,I4⟩=>?_);subst hr;exact Qf ⟨σ3,H3,I4,qn⟩
 ·refine YU hp (thn (T.item X rfl rfl rfl hc i pins s3 σ3 H3 X.xe I3 (stat fr3) st3 go) fun r s4 ⟨u,hr,h4⟩=>?_);subst hr;refine YU hp (thn h4 fun _ s5 ⟨x,H5,I5,r5,y5,st5,fr5⟩=>?_);have I5':=I5.pinned (stat fr5) (T.obj _ _ st5);refine YU hp (thn (hg _ s5 σ3 H5 x u _ I5' r5 (step x H5 y5)) fun _ s6 ⟨σ6,H6,I6,q6⟩=>?_);refine YU hp (thn (hb _ s6 σ6 H6 _ I6 q6) fun f s7 q7=>?_)
  have again:∀{σ7:St} {H7:Hp},Inv X (pins++Uj fp s5.heap) σ7 H7 s7->N σ7 H7->∃m,m<n/\∃i σ' H',Inv X pins σ' H' s7/\tn i s7.heap/\(∀b∈fp,H' b=none)/\W i m σ' H':=fun {σ7 H7} I7 n7=>by
   obtain⟨m',hm,w7⟩:=hN σ7 H7 n7;refine⟨m',hm,i+1,σ7,H7,I7.unpinned,T.keep _ _ _ st5 fun b hb o e=>(I7.pin (b,o) (ZY _ (ZY _ (Xm hb e)))).1,fun b hb=>?_,w7⟩;obtain⟨o,e,d⟩:=T.obj _ _ st5 b hb;exact(I7.pin (b,o) (ZY _ (ZY _ (Xm hb e)))).2.1
  cases f with
  |next=>obtain⟨σ7,H7,I7,n7⟩:=q7;exact again I7 n7
  |cont=>obtain⟨σ7,H7,I7,n7⟩:=q7;exact again I7 n7
  |brk=>obtain⟨σ7,H7,I7,q7⟩:=q7;exact⟨σ7,H7,I7.unpinned,q7⟩
  |ret v=>obtain⟨x7,σ7,H7,I7,r7,q7⟩:=q7;exact⟨x7,σ7,H7,I7.unpinned,r7,q7⟩
end
def P1{K:Za}{a:Addr}{xs:List V}{g:TG}{tb:TS}{D:Ends}{σ:St}{H:Hp}(Pv:Nat->St->Hp->Prop)(h0:Pv 0 σ H)(hl:∀i σ H,i<=xs.length->Pv i σ H->SqL K H a xs)(hs:∀i x σ H,xs[i]?=some x->Pv i σ H->g x σ H fun σ2 H2=>tb {D with nx:=Pv (i+1),ct:=Pv (i+1),bk:=D.nx} σ2 H2)(hd:∀σ H,Pv xs.length σ H->D.nx σ H) :
  ∃W:Nat->Nat->St->Hp->Prop,(∃m,W 0 m σ H)/\∀i m σ H,W i m σ H->
   ((Itl K a).stop i H/\D.nx σ H)\/((Itl K a).go i H/\∃N:St->Hp->Prop,(∀σ' H',N σ' H'->∃m',m'<m/\W (i+1) m' σ' H')/\∀x H',(Itl K a).yld i H x H'->g x σ H' fun σ2 H2=>tb {D with nx:=N,ct:=N,bk:=D.nx} σ2 H2):=by
 refine⟨fun i m σ H=>m=xs.length-i/\i<=xs.length/\Pv i σ H,⟨xs.length,by simp,Y0 _,h0⟩,?_⟩;rintro i m σ H ⟨rfl,hi,p⟩;have q:=hl i σ H hi p;by_cases hlt:i<xs.length
 ·refine .inr ⟨⟨xs,xs[i],q,by simp[hlt]⟩,Pv (i+1),fun σ' H' p'=>⟨xs.length-(i+1),by omega,rfl,hlt,p'⟩,fun x H' y=>?_⟩;obtain⟨e,y⟩:=y;subst e;exact hs i x σ _ (y xs q) p
 ·have e:i=xs.length:=by omega
  subst e;exact .inl ⟨⟨xs,q,ZF _⟩,hd σ H p⟩
def UP{lo:Int}{n:Nat}{g:TG}{tb:TS}{D:Ends}{σ:St}{H:Hp}(Pv:Nat->St->Hp->Prop)(h0:Pv 0 σ H)(hs:∀i σ H,i<n->Pv i σ H->g (.int (lo+i)) σ H fun σ2 H2=>tb {D with nx:=Pv (i+1),ct:=Pv (i+1),bk:=D.nx} σ2 H2)(hd:∀σ H,Pv n σ H->D.nx σ H) :
  ∃W:Nat->Nat->St->Hp->Prop,(∃m,W 0 m σ H)/\∀i m σ H,W i m σ H->
   ((Itr lo n).stop i H/\D.nx σ H)\/((Itr lo n).go i H/\∃N:St->Hp->Prop,(∀σ' H',N σ' H'->∃m',m'<m/\W (i+1) m' σ' H')/\∀x H',(Itr lo n).yld i H x H'->g x σ H' fun σ2 H2=>tb {D with nx:=N,ct:=N,bk:=D.nx} σ2 H2):=by
 refine⟨fun i m σ H=>m=n-i/\i<=n/\Pv i σ H,⟨n,by simp,Y0 _,h0⟩,?_⟩;rintro i m σ H ⟨rfl,hi,p⟩;by_cases hlt:i<n
 ·refine .inr ⟨hlt,Pv (i+1),fun σ' H' p'=>⟨n-(i+1),by omega,rfl,hlt,p'⟩,fun x H' y=>?_⟩;obtain⟨e,y⟩:=y;subst e y;exact hs i σ _ hlt p
 ·have e:i=n:=by omega
  subst e;exact .inl ⟨ZF _,hd σ H p⟩
abbrev R2:=V->V->Hp->VK->Prop
def OpR(X:Cx)(f:Value->Value->Sem Value)(r:R2):Prop:=
 ∀(pins:List (Addr×Obj)) (s:Shared) (σ:St) (H:Hp) (x y:V) (v u:Value) (Q:VK),Inv X pins σ H s->RelV x v->RelV y u->r x y H Q->
  wpAny (model X.prog X.w) X.A (f v u) (EP X pins σ Q) X.xe s
def UnR(X:Cx)(f:Value->Sem Value)(r:V->Hp->VK->Prop):Prop:=
 ∀(pins:List (Addr×Obj)) (s:Shared) (σ:St) (H:Hp) (x:V) (v:Value) (Q:VK),Inv X pins σ H s->RelV x v->r x H Q->
  wpAny (model X.prog X.w) X.A (f v) (EP X pins σ Q) X.xe s
def Vs(X:Cx)(f:Value)(r:List V->Hp->VK->Prop):Prop:=
 ∀(pins:List (Addr×Obj)) (s:Shared) (σ:St) (H:Hp) (xs:List V) (us:List Value) (Q:VK),Inv X pins σ H s->Vals xs us->r xs H Q->
  wpAny (model X.prog X.w) X.A (call f us) (EP X pins σ Q) X.xe s
def TruR(X:Cx)(r:V->Hp->(Bool->Hp->Prop)->Prop):Prop:=
 ∀(pins:List (Addr×Obj)) (s:Shared) (σ:St) (H:Hp) (x:V) (v:Value) (Q:Bool->Hp->Prop),Inv X pins σ H s->RelV x v->r x H Q->
  wpAny (model X.prog X.w) X.A (truthy v) (TP X pins σ Q) X.xe s
def tOp(r:R2)(ta tb:TE):TE:=fun σ H Q=>ta σ H fun x H1=>tb σ H1 fun y H2=>r x y H2 Q
def tUn(r:V->Hp->VK->Prop)(ta:TE):TE:=fun σ H Q=>ta σ H fun x H1=>r x H1 Q
def rI(C:Int->Int->Prop)(g:Int->Int->V):R2:=fun x y H Q=>∃i j,x=.int i/\y=.int j/\C i j/\Q (g i j) H
def rI0(g:Int->Int->V):R2:=fun x y H Q=>∃i j,x=.int i/\y=.int j/\Q (g i j) H
def rU(g:Int->V):V->Hp->VK->Prop:=fun x H Q=>∃i,x=.int i/\Q (g i) H
section
variable {X:Cx}{a b c:Expr}{ta tb tc:TE}{pos:Pos}
def binT(ha:PE X a ta)(hb:PE X b tb){pins:List (Addr×Obj)}{s:Shared}{σ:St}{H:Hp}{R:V->V->Hp->Prop}(I:Inv X pins σ H s)(h:ta σ H fun x H1=>tb σ H1 fun y H2=>R x y H2){Q:Value->Shared->Prop}{f:Value->Value->Sem Value}(hf:∀v u s2 x y H2,Inv X pins σ H2 s2->RelV x v->RelV y u->R x y H2->wpAny (model X.prog X.w) X.A (f v u) Q X.xe s2) :
  wpAny (model X.prog X.w) X.A (eval a X.env) (fun v s₁=>wpAny (model X.prog X.w) X.A (eval b X.env) (fun u s₂=>wpAny (model X.prog X.w) X.A (f v u) Q X.xe s₂) X.xe s₁) X.xe s:=by
 refine thn (ha pins s σ H _ I h) fun v s1 ⟨x,H1,I1,r1,q1⟩=>?_;refine thn (hb pins s1 σ H1 _ I1 q1) fun u s2 ⟨y,H2,I2,r2,q2⟩=>?_;exact hf v u s2 x y H2 I2 r1 r2 q2
def QK{op:Operator}{r:R2}(ho:OpR X (binaryOp op) r)(ha:PE X a ta)(hb:PE X b tb):PE X (.BinOp a op b pos) (tOp r ta tb):=by
 intro pins s σ H Q I h;exact wpAny_BinOp (binT ha hb I h fun v u s2 x y H2 I2 rx ry q=>ho pins s2 σ H2 x y v u Q I2 rx ry q)
def XD{op:UnaryOp}{r:V->Hp->VK->Prop}(ho:UnR X (unaryOp op) r)(ha:PE X a ta):PE X (.UnaryOp op a pos) (tUn r ta):=by
 intro pins s σ H Q I h;exact UnaryOp_ (thn (ha pins s σ H _ I h) fun v s1 ⟨x,H1,I1,r1,q1⟩=>ho pins s1 σ H1 x v Q I1 r1 q1)
def opI{f:Value->Value->Sem Value}{C:Int->Int->Prop}{g:Int->Int->Int}(rule:∀(i j:Int) (t u:Tok) (s:Shared) (Q:Value->Shared->Prop) (E:Value->Shared->Prop),C i j->Q (.int (g i j) s.toks) {s with toks:=s.toks+1}->wpAny (model X.prog X.w) X.A (f (.int i t) (.int j u)) Q E s) :
  OpR X f (rI C fun i j=>.int (g i j)):=by
 intro pins s σ H x y v u Q I rx ry h;obtain⟨i,j,rfl,rfl,hc,q⟩:=h;obtain⟨t,rfl⟩:=rx;obtain⟨t',rfl⟩:=ry;exact rule i j t t' s _ _ hc ⟨.int (g i j),H,I.tok _,⟨_,rfl⟩,q⟩
def opI0{f:Value->Value->Sem Value}{g:Int->Int->Int}(rule:∀(i j:Int) (t u:Tok) (s:Shared) (Q:Value->Shared->Prop) (E:Value->Shared->Prop),Q (.int (g i j) s.toks) {s with toks:=s.toks+1}->wpAny (model X.prog X.w) X.A (f (.int i t) (.int j u)) Q E s) :
  OpR X f (rI0 fun i j=>.int (g i j)):=by
 intro pins s σ H x y v u Q I rx ry h;obtain⟨i,j,rfl,rfl,q⟩:=h;obtain⟨t,rfl⟩:=rx;obtain⟨t',rfl⟩:=ry;exact rule i j t t' s _ _ ⟨.int (g i j),H,I.tok _,⟨_,rfl⟩,q⟩
def opB0{f:Value->Value->Sem Value}{g:Int->Int->Bool}(rule:∀(i j:Int) (t u:Tok) (s:Shared) (Q:Value->Shared->Prop) (E:Value->Shared->Prop),Q (.bool (g i j)) s->wpAny (model X.prog X.w) X.A (f (.int i t) (.int j u)) Q E s) :
  OpR X f (rI0 fun i j=>.bl (g i j)):=by
 intro pins s σ H x y v u Q I rx ry h;obtain⟨i,j,rfl,rfl,q⟩:=h;obtain⟨t,rfl⟩:=rx;obtain⟨t',rfl⟩:=ry;exact rule i j t t' s _ _ ⟨.bl (g i j),H,I,rfl,q⟩
def CDiv(i j:Int):Prop:=0<j/\j<1073741824
def CPow(i j:Int):Prop:=0<=j/\j<=1000000/\i.natAbs<2 ^ 64
def CMul(i j:Int):Prop:=(-(2 ^ 64)<i/\i<2 ^ 64)\/(-(2 ^ 64)<j/\j<2 ^ 64)
def CMul.ok {i j:Int} (h:CMul i j):IntMulOk i j:=by
 rcases h with⟨h1,h2⟩|⟨h1,h2⟩
 ·exact .of_left (intBits_le_64 h1 h2)
 ·exact .of_right (intBits_le_64 h1 h2)
def two_pow_nn(k:Nat):(0:Int)<=2 ^ k:=by
 rw[two_pow_cast];exact Int.natCast_nonneg _
def V0:OpR X (binaryOp .Add) (rI0 fun i j=>.int (i+j)):=opI0 fun _ _ _ _ _ _ _ q=>add_int q
def Pf:OpR X (binaryOp .Sub) (rI0 fun i j=>.int (i-j)):=opI0 fun _ _ _ _ _ _ _ q=>sub_int q
def J7:OpR X (binaryOp .Mult) (rI CMul fun i j=>.int (i*j)):=opI fun _ _ _ _ _ _ _ hc q=>mul_int q hc.ok
def Jq:OpR X (binaryOp .FloorDiv) (rI CDiv fun i j=>.int (i / j)):=opI fun i j _ _ _ _ _ hc q=>by
 have h1:(0:Int)<j:=hc.1;have h2:j<1073741824:=hc.2;exact floordiv_int (by omega) (by rw[Int.fdiv_eq_ediv_of_nonneg i (by omega)];exact q) (.inl (PyProof.noPylong_small (by omega)))
def Vp:OpR X (binaryOp .Mod) (rI (fun _ j=>0<j) fun i j=>.int (i % j)):=opI fun i j _ _ _ _ _ hc q=>by
 have h1:(0:Int)<j:=hc;exact mod_int' (by omega) (by rw[Int.fmod_eq_emod_of_nonneg i (by omega)];exact q)
def Xq:OpR X (binaryOp .LShift) (rI CPow fun i j=>.int (i*2 ^ j.toNat)):=opI fun _ _ _ _ _ _ _ hc q=>lshift_int_small hc.1 hc.2.1 hc.2.2 q
def DU:OpR X (binaryOp .RShift) (rI (fun _ j=>0<=j) fun i j=>.int (i / 2 ^ j.toNat)):=opI fun i j _ _ _ _ _ hc q=>
 rshift_int hc (by rw[Int.fdiv_eq_ediv_of_nonneg i (two_pow_nn _)];exact q)
def Pl:OpR X (binaryOp .BitAnd) (rI0 fun i j=>.int (Builtin.bitAnd i j)):=opI0 fun _ _ _ _ _ _ _ q=>and_int q
def Af:OpR X (inplaceOp .Add) (rI0 fun i j=>.int (i+j)):=opI0 fun _ _ _ _ _ _ _ q=>iadd_int q
def BQ:OpR X (inplaceOp .BitOr) (rI0 fun i j=>.int (Builtin.bitOr i j)):=opI0 fun _ _ _ _ _ _ _ q=>ior_int q
def unI{f:Value->Sem Value}{g:Int->Int}(rule:∀(i:Int) (t:Tok) (s:Shared) (Q:Value->Shared->Prop) (E:Value->Shared->Prop),Q (.int (g i) s.toks) {s with toks:=s.toks+1}->wpAny (model X.prog X.w) X.A (f (.int i t)) Q E s) :
  UnR X f (rU fun i=>.int (g i)):=by
 intro pins s σ H x v Q I rx h;obtain⟨i,rfl,q⟩:=h;obtain⟨t,rfl⟩:=rx;exact rule i t s _ _ ⟨.int (g i),H,I.tok _,⟨_,rfl⟩,q⟩
def Xx:UnR X (unaryOp .USub) (rU fun i=>.int (-i)):=unI fun _ _ _ _ _ q=>neg_int q
end
def scal:V->V->Bool
 | .non,.non=>true | .non,.int _=>true | .int _,.non=>true | .non,.bl _=>true | .bl _,.non=>true | .non,.str _=>true | .str _,.non=>true
 | .int _,.int _=>true | .bl _,.bl _=>true | .str _,.str _=>true | .byt _,.byt _=>true
 | .int _,.str _=>true | .str _,.int _=>true | .bl _,.str _=>true | .str _,.bl _=>true
 |_,_=>false
def rEq:R2:=fun x y H Q=>scal x y=true/\Q (.bl (decide (x=y))) H
def rNe:R2:=fun x y H Q=>scal x y=true/\Q (.bl (!decide (x=y))) H
def T2{i j:Int}:decide (V.int i=V.int j)=(i==j):=by
 rw[Qg];simp
def PL{i j:Bool}:decide (V.bl i=V.bl j)=(i==j):=by
 rw[Qg];simp
def T9{i j:Str}:decide (V.str i=V.str j)=(i==j):=by
 rw[Qg];simp
def SL{i j:Array UInt8}:decide (V.byt i=V.byt j)=(i.toList==j.toList):=by
 rw[Qg];cases i
 cases j
 simp
section
variable {X:Cx}{a b c:Expr}{ta tb tc:TE}{pos:Pos}
def Va{pins:List (Addr×Obj)}{σ:St}{H:Hp}{s:Shared}{Q:VK}{k k':Bool}(I:Inv X pins σ H s)(q:Q (.bl k) H)(e:k=k'):EP X pins σ Q (.bool k') s:=by
 subst e;exact⟨.bl k,H,I,rfl,q⟩
def op_eq:OpR X (compareOp .Eq) rEq:=by
 intro pins s σ H x y v u Q I rx ry h;obtain⟨hs,q⟩:=h;cases x with
 |non=>
  cases rx
  cases y with
  |non=>cases ry;exact PySem.EqNone.eq_none_none (Va I q (by simp))
  |bl j=>cases ry;exact PySem.EqNone.eq_none_bool (Va I q (by simp))
  |int j=>obtain⟨t',rfl⟩:=ry;exact PySem.EqNone.eq_none_int (Va I q (by simp))
  |str j=>obtain⟨t',rfl⟩:=ry;exact PySem.EqNone.eq_none_str (Va I q (by simp))
  |_=>exact absurd (show false=true from hs) ZJ
 |bl i=>
  cases rx
  cases y with
  |non=>cases ry;exact PySem.EqNone.eq_bool_none (Va I q (by simp))
  |bl j=>cases ry;exact eq_bool (Va I q PL)
  |str j=>obtain⟨t',rfl⟩:=ry;exact PySem.EqMixed.eq_bool_str (Va I q (by simp))
  |_=>exact absurd (show false=true from hs) ZJ
 |int i=>
  obtain⟨t,rfl⟩:=rx;cases y with
  |non=>cases ry;exact PySem.EqNone.eq_int_none (Va I q (by simp))
  |int j=>obtain⟨t',rfl⟩:=ry;exact eq_int (Va I q T2)
  |str j=>obtain⟨t',rfl⟩:=ry;exact PySem.EqMixed.eq_int_str (Va I q (by simp))
  |_=>exact absurd (show false=true from hs) ZJ
 |str i=>
  obtain⟨t,rfl⟩:=rx;cases y with
  |non=>cases ry;exact PySem.EqNone.eq_str_none (Va I q (by simp))
  |bl j=>cases ry;exact PySem.EqMixed.eq_str_bool (Va I q (by simp))
  |int j=>obtain⟨t',rfl⟩:=ry;exact PySem.EqMixed.eq_str_int (Va I q (by simp))
  |str j=>obtain⟨t',rfl⟩:=ry;exact eq_str (Va I q T9)
  |_=>exact absurd (show false=true from hs) ZJ
 |byt i=>
  obtain⟨t,rfl⟩:=rx;cases y with
  |byt j=>obtain⟨t',rfl⟩:=ry;exact PySem.W.eq_bytes (Va I q SL)
  |_=>exact absurd (show false=true from hs) ZJ
 |_=>cases y<;>exact absurd (show false=true from hs) ZJ
def op_ne:OpR X (compareOp .NotEq) rNe:=by
 intro pins s σ H x y v u Q I rx ry h;obtain⟨hs,q⟩:=h;cases x with
 |non=>
  cases rx
  cases y with
  |non=>cases ry;exact PySem.EqNone.ne_none_none (Va I q (by simp))
  |bl j=>cases ry;exact PySem.EqNone.ne_none_bool (Va I q (by simp))
  |int j=>obtain⟨t',rfl⟩:=ry;exact PySem.EqNone.ne_none_int (Va I q (by simp))
  |str j=>obtain⟨t',rfl⟩:=ry;exact PySem.EqNone.ne_none_str (Va I q (by simp))
  |_=>exact absurd (show false=true from hs) ZJ
 |bl i=>
  cases rx
  cases y with
  |non=>cases ry;exact PySem.EqNone.ne_bool_none (Va I q (by simp))
  |bl j=>cases ry;exact ne_bool (Va I q (Yg not PL))
  |str j=>obtain⟨t',rfl⟩:=ry;exact PySem.EqMixed.ne_bool_str (Va I q (by simp))
  |_=>exact absurd (show false=true from hs) ZJ
 |int i=>
  obtain⟨t,rfl⟩:=rx;cases y with
  |non=>cases ry;exact PySem.EqNone.ne_int_none (Va I q (by simp))
  |int j=>obtain⟨t',rfl⟩:=ry;exact ne_int (Va I q (Yg not T2))
  |str j=>obtain⟨t',rfl⟩:=ry;exact PySem.EqMixed.ne_int_str (Va I q (by simp))
  |_=>exact absurd (show false=true from hs) ZJ
 |str i=>
  obtain⟨t,rfl⟩:=rx;cases y with
  |non=>cases ry;exact PySem.EqNone.ne_str_none (Va I q (by simp))
  |bl j=>cases ry;exact PySem.EqMixed.ne_str_bool (Va I q (by simp))
  |int j=>obtain⟨t',rfl⟩:=ry;exact PySem.EqMixed.ne_str_int (Va I q (by simp))
  |str j=>obtain⟨t',rfl⟩:=ry;exact ne_str (Va I q (Yg not T9))
  |_=>exact absurd (show false=true from hs) ZJ
 |byt i=>
  obtain⟨t,rfl⟩:=rx;cases y with
  |byt j=>obtain⟨t',rfl⟩:=ry;exact PySem.W.ne_bytes (Va I q (Yg not SL))
  |_=>exact absurd (show false=true from hs) ZJ
 |_=>cases y<;>exact absurd (show false=true from hs) ZJ
def NP:OpR X (compareOp .Lt) (rI0 fun i j=>.bl (decide (i<j))):=opB0 fun _ _ _ _ _ _ _ q=>lt_int q
def UK:OpR X (compareOp .Gt) (rI0 fun i j=>.bl (decide (j<i))):=opB0 fun _ _ _ _ _ _ _ q=>gt_int q
def OpR.or {f:Value->Value->Sem Value}{r r':R2} (h:OpR X f r) (h':OpR X f r'):OpR X f (fun x y H Q=>r x y H Q\/r' x y H Q):=by
 intro pins s σ H x y v u Q I rx ry q;rcases q with q|q
 ·exact h pins s σ H x y v u Q I rx ry q
 ·exact h' pins s σ H x y v u Q I rx ry q
def Vv(b:Expr){op:CmpOp}(h:op≠.In:=by decide)(h2:op≠.NotIn:=by decide):behindInMarks op b=false:=by
 have e1:(op==CmpOp.In)=false:=by cases op<;>first|rfl|exact absurd rfl h
 have e2:(op==CmpOp.NotIn)=false:=by cases op<;>first|rfl|exact absurd rfl h2
 cases b<;>simp[behindInMarks,e1,e2]
def Kv{op:CmpOp}{r:R2}(ho:OpR X (compareOp op) r)(ha:PE X a ta)(hb:PE X b tb)(hm:behindInMarks op b=false):PE X (.Compare a [op] [b] pos) (tOp r ta tb):=by
 intro pins s σ H Q I h;exact wpAny_Compare1 (binT ha hb I h fun v u s2 x y H2 I2 rx ry q=>ho pins s2 σ H2 x y v u Q I2 rx ry q) hm
def UN(t:TE):TT:=fun σ H Q=>t σ H fun x H'=>∃k,x=.bl k/\Q k H'
def Ve{op:CmpOp}{r:R2}(ho:OpR X (compareOp op) r)(ha:PE X a ta)(hb:PE X b tb)(hm:behindInMarks op b=false):PT X (.Compare a [op] [b] pos) (UN (tOp r ta tb)):=by
 intro pins s σ H Q I h
 refine wpAny_isTrue_Compare1 (thn (ha pins s σ H _ I h) fun v s1 ⟨x,H1,I1,r1,q1⟩=>thn (hb pins s1 σ H1 _ I1 q1) fun u s2 ⟨y,H2,I2,r2,q2⟩=>
  thn (ho pins s2 σ H2 x y v u _ I2 r1 r2 q2) fun c s3 ⟨z,H3,I3,r3,k,e,q3⟩=>?_) hm
 subst e;cases r3
 exact YK ⟨H3,I3,q3⟩
def TruV(K:Za)(x:V)(H:Hp)(k:Bool):Prop:=
 match x with
 | .non=>k=false
 | .bl b=>k=b
 | .int i=>k=(i != 0)
 | .str y=>y.length<=sizeLine/\k=((y.length:Int) != 0)
 | .byt y=>y.size<=sizeLine/\k=((y.size:Int) != 0)
 | .ref p=>(∃xs,SqL K H p xs/\k=!xs.isEmpty)\/(∃xs,SqT K H p xs/\k=!xs.isEmpty)\/∃kvs,H p=some (.dK kvs)/\k=!kvs.isEmpty
 |_=>False
def DA{κ:Type}{kvs:List (κ×V)}{vs:List (κ×Value)}(r:KV kvs vs):(!vs.isEmpty)=!kvs.isEmpty:=by
 cases r<;>rfl
def Bc{xs:List V}{its:List Value}(r:Vals xs its):(!its.toArray.isEmpty)=!xs.isEmpty:=by
 cases r<;>simp
def JV:(sizeLine:Nat)<2 ^ 63:=by rw[sizeLine_eq];decide
def Dv:TruR X (fun x H Q=>∃k,TruV X.K x H k/\Q k H):=by
 intro pins s σ H x v Q I rx h;obtain⟨k,e,q⟩:=h;have hl:=JV;have hs:sizeLine=16777216:=sizeLine_eq;cases x with
 |non=>
  cases rx
  have e':k=false:=e;subst e';exact truthy_none ⟨H,I,q⟩
 |bl b=>
  cases rx
  have e':k=b:=e;subst e';exact YK ⟨H,I,q⟩
 |int i=>
  obtain⟨t,rfl⟩:=rx;have e':k=(i != 0):=e;subst e';exact PySem.P.truthy_int ⟨H,I,q⟩
 |str y=>
  obtain⟨t,rfl⟩:=rx;obtain⟨hy,e'⟩:y.length<=sizeLine/\k=((y.length:Int) != 0):=e;subst e';exact PySem.P.truthy_str (by omega) ⟨H,I.tok _,q⟩
 |byt y=>
  obtain⟨t,rfl⟩:=rx;obtain⟨hy,e'⟩:y.size<=sizeLine/\k=((y.size:Int) != 0):=e;subst e';exact PySem.W.truthy_bytes (by omega) ⟨H,I.tok _,q⟩
 |ref p=>
  cases rx
  have e':(∃xs,SqL X.K H p xs/\k=!xs.isEmpty)\/(∃xs,SqT X.K H p xs/\k=!xs.isEmpty)\/∃kvs,H p=some (.dK kvs)/\k=!kvs.isEmpty:=e;rcases e' with⟨xs,hx,e'⟩|⟨xs,hx,e'⟩|⟨kvs,hx,e'⟩
  ·subst e';obtain⟨its,r,pl,hz⟩:=I.list hx;have hlen:=r.length;exact wpAny_truthy_list pl.isList (by simp only[ZI];omega) ⟨H,I.tok _,by rw[Bc r];exact q⟩
  ·subst e';obtain⟨its,r,pl,hz⟩:=I.tuple hx;have hlen:=r.length;exact truthy_tuple pl (by simp only[ZI];omega) ⟨H,I.tok _,by rw[Bc r];exact q⟩
  ·subst e';obtain⟨hz,hS,vs,r,m⟩:kvs.length<=sizeLine/\(p==sysModules)=false/\∃vs,KV kvs vs/\s.heap.DictOf (V6 X.prog X.w) p vs:=I.hok p _ hx;have hlen:kvs.length=vs.length:=Paired.length r;exact wpAny_truthy_dict hS m (by omega) ⟨H,I.tok _,by rw[DA r];exact q⟩
 |_=>exact(show False from e).elim
def CD(ha:PE X a ta)(he:∀whole,isTrue a X.env whole=(do let v ←whole;standAt a.pos;holding [v] (truthy v))) :
  PT X a (fun σ H Q=>ta σ H fun x H'=>∃k,TruV X.K x H' k/\Q k H'):=by
 intro pins s σ H Q I h;exact isTrue_plain (thn (ha pins s σ H _ I h) fun v s1 ⟨x,H1,I1,r1,q1⟩=>Dv pins s1 σ H1 x v Q I1 r1 q1) (he _)
def vals1{x:V}{us:List Value}(r:Vals [x] us):∃u,us=[u]/\RelV x u:=by
 cases r with
 |cons r1 r2=>cases r2;exact⟨_,rfl,r1⟩
def vals2{x y:V}{us:List Value}(r:Vals [x,y] us):∃u w',us=[u,w']/\RelV x u/\RelV y w':=by
 cases r with
 |cons r1 r2=>
  cases r2 with
  |cons r3 r4=>cases r4;exact⟨_,_,rfl,r1,r3⟩
def De(hc:X.calm=true):Vs X (.builtin "max") (fun xs H Q=>∃i j,xs=[.int i,.int j]/\Q (.int (if j>i then j else i)) H):=by
 intro pins s σ H xs us Q I r h;obtain⟨i,j,rfl,q⟩:=h;obtain⟨u,w',rfl,⟨t,rfl⟩,⟨t',rfl⟩⟩:=vals2 r;refine max_two_ints (I.ok.hd hc) fun h' tk k=>⟨_,H,I.kept k,?_,q⟩;by_cases hj:j>i
 ·rw[ZH hj,ZH hj];exact⟨_,rfl⟩
 ·rw[ZG hj,ZG hj];exact⟨_,rfl⟩
def LenV(K:Za)(x:V)(H:Hp)(n:Nat):Prop:=
 match x with
 | .str y=>y.length<=sizeLine/\n=y.length
 | .byt y=>y.size<=sizeLine/\n=y.size
 | .ref p=>(∃xs,SqL K H p xs/\n=xs.length)\/∃xs,SqT K H p xs/\n=xs.length
 |_=>False
def Jt:Vs X (.builtin "len") (fun xs H Q=>∃x n,xs=[x]/\LenV X.K x H n/\Q (.int n) H):=by
 intro pins s σ H xs us Q I r h;obtain⟨x,n,rfl,e,q⟩:=h;obtain⟨u,rfl,rx⟩:=vals1 r;have hl:=JV;have hs:sizeLine=16777216:=sizeLine_eq;cases x with
 |str y=>
  obtain⟨t,rfl⟩:=rx;obtain⟨hy,e'⟩:y.length<=sizeLine/\n=y.length:=e;subst e';exact len_str (by omega) ⟨.int _,H,I.tok _,⟨_,rfl⟩,q⟩
 |byt y=>
  obtain⟨t,rfl⟩:=rx;obtain⟨hy,e'⟩:y.size<=sizeLine/\n=y.size:=e;subst e';exact PySem.W.len_bytes (by omega) ⟨.int _,H,I.tok _,⟨_,rfl⟩,q⟩
 |ref p=>
  cases rx
  have e':(∃xs,SqL X.K H p xs/\n=xs.length)\/∃xs,SqT X.K H p xs/\n=xs.length:=e;rcases e' with⟨xs,hx,e'⟩|⟨xs,hx,e'⟩
  ·subst e';obtain⟨its,r',pl,hz⟩:=I.list hx;have hlen:=r'.length;exact Calls.call_len_list pl.isList (by simp only[ZI];omega) ⟨.int xs.length,H,I.tok _,⟨_,by simp only[ZI];rw[hlen]⟩,q⟩
  ·subst e';obtain⟨its,r',pl,hz⟩:=I.tuple hx;have hlen:=r'.length;exact len_tuple pl (by simp only[ZI];omega) ⟨.int xs.length,H,I.tok _,⟨_,by simp only[ZI];rw[hlen]⟩,q⟩
 |_=>exact(show False from e).elim
end
structure ObjM (h:Heap) (x dx C:Addr) (mA:Str->Option Value):Prop where
 obj:h.get? x=some (PySem.W.instObj C dx)
 ns:h.Ns1 dx mA
 ne:dx≠x
def E5{h:Heap}{dx:Addr}{mA:Str->Option Value}(n:h.Ns1 dx mA):∃od,h.get? dx=some od/\∀name,PySem.W.lookIn name od=some (mA name):=by
 obtain⟨o,es,ep,ho,hd,hk,_,hm⟩:=n;refine⟨o,ho,fun name=>?_⟩;have e:=hm name;unfold nsFind findBy at e;rw[←Array.find?_toList]at e;unfold PySem.W.lookIn;rw[hd]
 dsimp only
 split
 ·rename_i y q;rw[q]at e;exact Yg some e
 ·rename_i q;rw[q]at e
  have a:es.toList.any (·.refKey)=false:=by
   rw[List.any_eq_false];intro y hy;obtain⟨z,t,hkey⟩:=hk y (Array.mem_toList_iff.mp hy);simp[DictEntry.refKey,hkey]
  have a':¬es.toList.any (·.refKey)=true:=by rw[a];exact ZJ
  rw[ZG a'];exact Yg some e
def ObjM.look {h:Heap}{x dx C:Addr}{mA:Str->Option Value} (I:ObjM h x dx C mA):∃od,PySem.W.InstAt h x (PySem.W.instObj C dx) C (some od)/\∀name,PySem.W.lookIn name od=some (mA name):=
 let ⟨od,ho,hl⟩:=E5 I.ns
 ⟨od,⟨I.obj,rfl,rfl,ho⟩,hl⟩
def RelO.some_of {v:V}{o:Option Value} (r:RelO (some v) o):∃u,o=some u/\RelV v u:=by
 cases o with
 |none=>exact(show False from r).elim
 |some u=>exact⟨u,rfl,r⟩
section
variable {P:Program}{w:World}{H H':Hp}{h h':Heap}{a C dx:Addr}{fs fs':List (Str×V)}
def B9(hok:HOk P w H h)(e:H a=some (.ins C dx fs)):∃mA,ObjM h a dx C mA/\(∀f,RelO (fs.lookup f) (mA f))/\PySem.Within mA (fs.map (·.1))/\fs.length<=1000/\H dx=some (.own a):=by
 obtain⟨d,z,ne,ob,mA,n,r,q⟩:=(show ObjOk P w H h a (.ins C dx fs)from hok a _ e)
 exact⟨mA,⟨ob,n,ne⟩,r,q,z,d⟩
end
structure Cls (K:Za) (C:Addr):Prop where
 pg:PySem.W.plainGet K C Str.empty=true
 hd:PySem.W.hasDictIn K C=true
 po:PySem.W.plainOver K C=true
 sa:PySem.W.findIn K (.ref C) "__setattr__"=some (some (.builtin "object.__setattr__"))
def Cls.get {K:Za}{C:Addr} (c:Cls K C) (f:Str):PySem.W.plainGet K C f=true:=c.pg
section
variable {X:Cx}{pins:List (Addr×Obj)}{σ:St}{H:Hp}{s:Shared}{A:Around}{E:Value->Shared->Prop}{Q:Value->Shared->Prop}{c:Value}{b:Bool}
inductive TyOf (K:Za) (H:Hp):V->Value->Prop where
 |non:TyOf K H .non (.type "NoneType")
 |bl (x:Bool):TyOf K H (.bl x) (.type "bool")
 |int (i:Int):TyOf K H (.int i) (.type "int")
 |str (x:Str):TyOf K H (.str x) (.type "str")
 |flt (x:UInt64):TyOf K H (.flt x) (.type "float")
 |lst {a:Addr} {xs:List V} (e:H a=some (.lst xs)):TyOf K H (.ref a) (.type "list")
 |frz {a:Addr} {o:Obj} {xs:List V} (e:H a=some (.frz o (.lst xs))):TyOf K H (.ref a) (.type "list")
 |tup {a:Addr} {xs:List V} (e:H a=some (.tup xs)):TyOf K H (.ref a) (.type "tuple")
 |dK {a:Addr} {kvs:List (Key×V)} (e:H a=some (.dK kvs)):TyOf K H (.ref a) (.type "dict")
 |dT {a:Addr} {kvs:List (List Key×V)} (e:H a=some (.dT kvs)):TyOf K H (.ref a) (.type "dict")
 |ins {a C dx:Addr} {fs:List (Str×V)} (e:H a=some (.ins C dx fs)) (cl:Cls K C) (ha:PySem.W.findIn K (.ref C) "__class__"=some (some (.builtin "object.__class__")))
   (hn:PySem.W.specialIn K (.builtin "object.__class__") "__get__"=some (some (.builtin "getset_descriptor.__get__"))) (htk:PySem.W.takesIn K (.builtin "object.__class__")=some true)
   (hm:PySem.W.mroIn K C (.type "object")=some true):TyOf K H (.ref a) (.ref C)
def Fq{x:V}{u t:Value}(I:Inv X pins σ H s)(rx:RelV x u)(ty:TyOf X.K H x t)(e:PySem.W.kitOne X.K t c=some b)(h:∀tk,Q (.bool b) {s with toks:=tk}) :
  wpAny (model X.prog X.w) A (call (.builtin "isinstance") [u,c]) Q E s:=by
 cases ty with
 |non=>cases (show u=Value.none from rx);exact Y1 PySem.W.kitx_none I.kIn True.intro e (fun z=>nomatch z) h
 |bl y=>cases (show u=Value.bool y from rx);exact Y1 PySem.W.kitx_bool I.kIn True.intro e (fun z=>nomatch z) h
 |int i=>obtain⟨t,q⟩:=(show ∃t,u=Value.int i t from rx);cases q;exact Y1 PySem.W.kitx_int I.kIn True.intro e (fun z=>nomatch z) h
 |str y=>obtain⟨t,q⟩:=(show ∃t,u=Value.str y t from rx);cases q;exact Y1 PySem.W.kitx_str I.kIn True.intro e (fun z=>nomatch z) h
 |flt y=>obtain⟨t,q⟩:=(show ∃t,u=Value.float y t from rx);cases q;exact Y1 PySem.W.kitx_float I.kIn True.intro e (fun z=>nomatch z) h
 | @lst a xs ea=>
  cases (show u=Value.ref a from rx)
  obtain⟨_,_,n,_,h1⟩:=(show ObjOk X.prog X.w H s.heap a (.lst xs)from I.hok a _ ea)
  exact Y1 PySem.W.kitx_list I.kIn ⟨_,h1,rfl⟩ e (fun z=>nomatch z) h
 | @frz a ob xs ea=>
  cases (show u=Value.ref a from rx)
  obtain⟨_,_,_,n,_,h1⟩:=(show ObjOk X.prog X.w H s.heap a (.frz ob (.lst xs))from I.hok a _ ea)
  exact Y1 PySem.W.kitx_list I.kIn ⟨_,h1,rfl⟩ e (fun z=>nomatch z) h
 | @tup a xs ea=>
  cases (show u=Value.ref a from rx)
  obtain⟨_,_,_,p⟩:=(show ObjOk X.prog X.w H s.heap a (.tup xs)from I.hok a _ ea)
  obtain⟨o,h1,h2,_⟩:=p;exact Y1 PySem.W.kitx_tuple I.kIn ⟨o,h1,h2⟩ e (fun z=>nomatch z) h
 | @dK a kvs ea=>
  cases (show u=Value.ref a from rx)
  obtain⟨_,_,vs,_,p⟩:=(show ObjOk X.prog X.w H s.heap a (.dK kvs)from I.hok a _ ea)
  obtain⟨o,es,ep,h1,h2,_⟩:=p;exact Y1 PySem.W.kitx_dict I.kIn ⟨o,h1,h2.1⟩ e (fun z=>nomatch z) h
 | @dT a kvs ea=>
  cases (show u=Value.ref a from rx)
  obtain⟨_,_,xs,_,o,es,ep,h1,h2,_⟩:=(show ObjOk X.prog X.w H s.heap a (.dT kvs)from I.hok a _ ea)
  exact Y1 PySem.W.kitx_dict I.kIn ⟨o,h1,h2.1⟩ e (fun z=>nomatch z) h
 | @ins a C dx fs ea cl ha hn htk hm=>
  cases (show u=Value.ref a from rx)
  obtain⟨mA,O,_⟩:=B9 I.hok ea;obtain⟨od,J,_⟩:=O.look;exact Y1 (PySem.W.kitx_own (cl.get _) cl.hd ha hn htk hm) I.kIn J e (fun z=>nomatch z) h
end
structure Room (k:Nat) (A:Around):Prop where
 hd:A.handled=none
 dp:A.depth+3*k+5<recursionLimit
 un:A.units+16*k+200<cLine
def Room.mono {j k:Nat}{A:Around} (r:Room k A) (h:j<=k):Room j A:=⟨r.hd,by have:=r.dp;omega,by have:=r.un;omega⟩
def Room.deeper {k:Nat}{A:Around} (r:Room (k+1) A) (env:Env):Room k (A.deeper env):=
 ⟨r.hd,by have:=r.dp;show A.depth+1+3*k+5<_;omega,by have:=r.un;show A.units+3+16*k+200<_;omega⟩
def Room.depth {k:Nat}{A:Around} (r:Room k A):A.depth<recursionLimit:=by have:=r.dp;omega
def Room.units {k:Nat}{A:Around} (r:Room k A):A.units+64<cLine:=by have:=r.un;omega
def Room.units0 {k:Nat}{A:Around} (r:Room k A):A.units<cLine:=by have:=r.un;omega
def tNil:TA:=fun _ H Q=>Q [] H
def Vu(ta:TE)(tr:TA):TA:=fun σ H Q=>ta σ H fun x H1=>tr σ H1 fun xs H2=>Q (x::xs) H2
section
variable {X:Cx}{e:Expr}{es:List Expr}{te:TE}{t:TA}{pos:Pos}
def QM:PA X [] tNil:=fun _ _ _ _ H Q I h=>Calls.spliced_nil ⟨[],H,I,.nil,h⟩
def QF(ha:PE X e te)(hr:PA X es t)(hs:starEach (e::es) X.env=(false,eval e X.env)::starEach es X.env:=by rfl):PA X (e::es) (Vu te t):=by
 intro pos pins s σ H Q I h;rw[hs];show wpAny _ _ (spliced ((false,eval e X.env)::backTo pos (starEach es X.env))) _ _ s;refine Calls.spliced_cons (thn (ha pins s σ H _ I h) fun u s1 ⟨x,H1,I1,r1,q1⟩=>?_);exact thn (hr pos pins s1 σ H1 _ I1 q1) fun us s2 ⟨xs,H2,I2,r2,q2⟩=>⟨x::xs,H2,I2,.cons r1 r2,q2⟩
def tTup(t:TA):TE:=fun σ H Q=>t σ H fun xs H1=>xs.length<=sizeLine/\∀p,H1 p=none->Q (.ref p) (upd H1 p (.tup xs))
def tLst(t:TA):TE:=fun σ H Q=>t σ H fun xs H1=>xs.length<=sizeLine/\∀p,H1 p=none->Q (.ref p) (upd H1 p (.lst xs))
def Jl{x1}(h:PA X es t):PE X (.Tuple es x1 pos) (tTup t):=by
 intro pins s σ H Q I hq;refine wpAny_Tuple_spliced (thn (h pos pins s σ H _ I hq) fun us s1 ⟨xs,H1,I1,r,z,q⟩=>⟨by rw[←r.length];exact z,?_⟩);have hf:H1 s1.heap.objs.size=none:=I1.hok.fresh (ZF _);refine⟨.ref s1.heap.objs.size,upd H1 s1.heap.objs.size (.tup xs),I1.laid (t':=s1.toks) (fun b u e=>Z9 _ e) (ZF _) ?_,rfl,q _ hf⟩;exact⟨z,us,r,⟨_,ZL _ rfl,rfl,_,rfl⟩⟩
def Vq(h:PA X es t):PE X (.List es pos) (tLst t):=by
 intro pins s σ H Q I hq;refine wpAny_List_spliced (thn (h pos pins s σ H _ I hq) fun us s1 ⟨xs,H1,I1,r,z,q⟩=>⟨by rw[←r.length];exact z,?_⟩);have hf:H1 s1.heap.objs.size=none:=I1.hok.fresh (ZF _);refine⟨.ref s1.heap.objs.size,upd H1 s1.heap.objs.size (.lst xs),I1.laid (t':=s1.toks) (fun b u e=>Z9 _ e) (ZF _) ?_,rfl,q _ hf⟩;exact⟨z,us,0,r,ZL _ rfl⟩
end
abbrev Sp:=List V->Hp->VK->XK->Prop
abbrev CXT:=List Env->Hp->Shared->XK->Value->Shared->Prop
structure Env0 (P:Program) (w:World) (K:Za) (mg:Str->Option Value) (base:Heap) (A:Around) (outer:List Env) (s:Shared) (H:Hp):Prop where
 frames:A.frames=some outer
 mod:Mod K mg base
 bs:∀b o,base.get? b=some o->s.heap.get? b=some o/\H b=none
 bsz:base.objs.size<=s.heap.objs.size
 funs:s.heap.FunFrames base outer
 frf:∀b∈frs outer,H b=none
 hok:HOk P w H s.heap
 bare:AllBare s.gens
def CE(outer:List Env)(P:Program)(w:World)(H:Hp)(s:Shared)(Q:VK)(u:Value)(s':Shared):Prop:=
 ∃v H',s'.os=s.os/\AllBare s'.gens/\Un (frs outer) [] H H' s.heap s'.heap/\HOk P w H' s'.heap/\RelV v u/\Q v H'
def CR(CX:CXT)(outer:List Env)(P:Program)(w:World)(H:Hp)(s:Shared)(Q:VK)(E:XK)(r:Result)(s':Shared):Prop:=
 match r with
 | .ok (.ret u)=>CE outer P w H s Q u s'
 | .ok _=>False
 | .error e=>CX outer H s E e s'
structure FnOk (P:Program) (w:World) (K:Za) (mg:Str->Option Value) (base:Heap) (CX:CXT) (k:Nat) (f:Addr) (fd:FuncData) (ps:List Str) (sp:Sp):Prop where
 len:∀vs H Q E,sp vs H Q E->vs.length=ps.length
 run:∀(A:Around) (outer:List Env) (s:Shared) (H:Hp) (args:Args) (us:List Value) (vs:List V) (Q:VK) (E:XK),Room k A->Env0 P w K mg base A outer s H->BindsTo s fd args (ps.zip us)->Vals vs us->sp vs H Q E->
  codeAny (model P w) A (.call (.ref f) args) (CR CX outer P w H s Q E) s
def FnOk.imp {P:Program}{w:World}{K:Za}{mg:Str->Option Value}{base:Heap}{CX:CXT}{k:Nat}{f:Addr}{fd:FuncData}{ps:List Str}{sp sp':Sp} (F:FnOk P w K mg base CX k f fd ps sp)
  (h:∀vs H Q E,sp' vs H Q E->sp vs H Q E):FnOk P w K mg base CX k f fd ps sp':=
 ⟨fun vs H Q E q=>F.len vs H Q E (h _ _ _ _ q),fun A outer s H args us vs Q E hr he hb hv hs=>F.run A outer s H args us vs Q E hr he hb hv (h _ _ _ _ hs)⟩
section
variable {X:Cx}{pins:List (Addr×Obj)}{σ:St}{H:Hp}{s s':Shared}
def Inv.env0 (I:Inv X pins σ H s):Env0 X.prog X.w X.K X.mg X.base X.A X.stack s H:=
 ⟨I.ok.frames,I.ok.mod,I.bs,ZW I.ok.bsz I.sz,I.stack,I.stkFree,I.hok,I.bare⟩
def Inv.after {Q:VK}{u:Value} (I:Inv X pins σ H s) (h:CE X.stack X.prog X.w H s Q u s'):EP X pins σ Q u s':=by
 obtain⟨v,H',os,bare,un,hok,r,q⟩:=h;obtain⟨hh,g,d,t,os'⟩:=s';obtain rfl:os'=s.os:=os;exact⟨v,H',I.call (h':=hh) (g':=g) (d':=d) (t':=t) (ch:=[]) un hok bare (fun b z=>absurd z (by simp)),r,q⟩
end
def UL(sp:Sp)(dvs:List V)(E:XK)(t:TA):TE:=fun σ H Q=>t σ H fun vs H1=>sp (vs++dvs) H1 Q E
def Binds(K:Za)(fd:FuncData)(ps:List Str)(ds:List Value):Prop:=
 ∀(s:Shared) (us:List Value),K.In s.heap->(us++ds).length=ps.length->BindsTo s fd ⟨us,[]⟩ (ps.zip (us++ds))
def Binds.all {K:Za}{fd:FuncData}{ps:List Str} (h:∀us:List Value,us.length=ps.length->bindArgs fd ⟨us,[]⟩=pure (ps.zip us)):Binds K fd ps []:=fun s us _ hl=>by
 rw[Wl]at hl ⊢;exact .of_eq (h us hl)
def UY(CX:CXT)(X:Cx)(E:XK):Prop:=∀(pins:List (Addr×Obj)) (σ:St) (H:Hp) (s:Shared) (e:Value) (s':Shared),Inv X pins σ H s->CX X.stack H s E e s'->X.xe e s'
section
variable {X:Cx}{CX:CXT}{k:Nat}{f C:Addr}{fd:FuncData}{ps:List Str}{sp:Sp}{dvs:List V}{ds:List Value}{E:XK}{x m:Str}{p pos apos:Pos}{e o:Expr}{es:List Expr}{ta:TE}{t:TA}
def Ez{pins:List (Addr×Obj)}{σ:St}{H:Hp}{s:Shared}{Q:VK}{us:List Value}{vs:List V}(F:FnOk X.prog X.w X.K X.mg X.base CX k f fd ps sp)(hr:Room k X.A)(hb:Binds X.K fd ps ds)(hd:Vals dvs ds)(hx:UY CX X E)(I:Inv X pins σ H s)(r:Vals vs us)(h:sp (vs++dvs) H Q E):wpAny (model X.prog X.w) X.A (call (.ref f) us) (EP X pins σ Q) X.xe s:=by
 have r2:Vals (vs++dvs) (us++ds):=r.append hd;have hl:(us++ds).length=ps.length:=by rw[←r2.length];exact F.len _ _ _ _ h
 refine wpAny_call (WB (F.run X.A X.stack s H ⟨us,[]⟩ (us++ds) (vs++dvs) Q E hr I.env0 (hb s us I.kIn hl) r2 h) fun r s' hq=>?_);cases r with
 |error e=>exact hx pins σ H s e s' I hq
 |ok fl=>
  cases fl with
  |ret u=>exact I.after hq
  |next=>exact False.elim hq
  |brk=>exact False.elim hq
  |cont=>exact False.elim hq
def BZ(F:FnOk X.prog X.w X.K X.mg X.base CX k f fd ps sp)(hr:Room k X.A)(hg:Gl X x)(hm:X.mg x=some (.ref f))(hk:PySem.W.keepIn X.K (.ref f)=true)(hb:Binds X.K fd ps ds)(hd:Vals dvs ds)(hx:UY CX X E)(ha:PA X (e::es) t)(hdb:(x==("__debug__" : Str))=false:=by decide)(he:starEach (e::es) X.env=(false,eval e X.env)::starEach es X.env:=by rfl)(hpl:(backTo pos (starEach es X.env)).any (·.1)=false:=by rfl) :
  PE X (.Call (.Name x p) (e::es) [] pos) (UL sp dvs E t):=by
 intro pins s σ H Q I h;refine wpAny_Call_Name_kw (Ej I hg hm ?_ hdb);refine PySem.W.callWith_K (h₀:=X.base) I.ok.mod.kin hk (thn (ha pos pins s σ H _ I h) fun us s1 ⟨vs,H1,I1,r,q⟩=>⟨I1.kIn,?_⟩) he hpl;exact Ez F hr hb hd hx I1 r q
end
structure FnScope (N P:List Str) (sc:Scope):Prop where
 kind:sc.kind=.function
 co:sc.isCoroutine=false
 gen:sc.isGenerator=false
 nd:N.Nodup
 pre:N.take P.length=P
 par:∀x∈P,sc.names.lookup x=some .local\/sc.names.lookup x=some .cell
 nofree:∀y∈sc.names,y.2≠.free
def Ph{kindOf:Str->Option NameKind}{x:Str}:∀{binds:List (Str×Value)}{m:Str->Option Value},(∀v,(x,v)∉binds)->bindL kindOf binds m x=m x
 |[],_,_=>rfl
 |(n,v)::r,m,h=>by
  unfold bindL;rw[Ph fun w hw=>h w (Ya _ hw)];split
  ·have:x≠n:=by rintro rfl;exact h v Yj
   simp[this]
  ·rfl
def Bl{kindOf:Str->Option NameKind}{x:Str}:∀{binds:List (Str×Value)}{m:Str->Option Value},(∀v,(x,v)∉binds)->bindC kindOf binds m x=m x
 |[],_,_=>rfl
 |(n,v)::r,m,h=>by
  unfold bindC;rw[Bl fun w hw=>h w (Ya _ hw)];split
  ·rfl
  ·have:x≠n:=by rintro rfl;exact h v Yj
   simp[this]
def NB{kindOf:Str->Option NameKind}{x:Str}{v:Value}:∀{P:List Str}{vs:List Value}{i:Nat}{m:Str->Option Value},P.Nodup->P[i]?=some x->vs[i]?=some v->kindOf x=some .local->
  bindL kindOf (P.zip vs) m x=some v
 |[],_,_,_,_,h,_,_=>by simp at h
 |_::_,[],_,_,_,_,h,_=>by simp at h
 |p::P,w::vs,0,m,nd,h1,h2,hk=>by
  simp at h1 h2;subst h1;subst h2;show bindL kindOf ((p,w)::P.zip vs) m p=_;unfold bindL;rw[Ph fun v hv=>(Yi.mp nd).1 (List.of_mem_zip hv).1,ZH hk];simp
 |p::P,w::vs,i+1,m,nd,h1,h2,hk=>by
  show bindL kindOf ((p,w)::P.zip vs) m x=_;unfold bindL;exact NB (i:=i) (Yi.mp nd).2 (by simpa using h1) (by simpa using h2) hk
def Sf{kindOf:Str->Option NameKind}{x:Str}{v:Value}:∀{P:List Str}{vs:List Value}{i:Nat}{m:Str->Option Value},P.Nodup->P[i]?=some x->vs[i]?=some v->kindOf x≠some .local->
  bindC kindOf (P.zip vs) m x=some v
 |[],_,_,_,_,h,_,_=>by simp at h
 |_::_,[],_,_,_,_,h,_=>by simp at h
 |p::P,w::vs,0,m,nd,h1,h2,hk=>by
  simp at h1 h2;subst h1;subst h2;show bindC kindOf ((p,w)::P.zip vs) m p=_;unfold bindC;rw[Bl fun v hv=>(Yi.mp nd).1 (List.of_mem_zip hv).1,ZG hk];simp
 |p::P,w::vs,i+1,m,nd,h1,h2,hk=>by
  show bindC kindOf ((p,w)::P.zip vs) m x=_;unfold bindC;exact Sf (i:=i) (Yi.mp nd).2 (by simpa using h1) (by simpa using h2) hk
def start(N:List Str)(vs:List V):St:=vs.map some++List.replicate (N.length-vs.length) none
def cxOf(CX:CXT)(P:Program)(w:World)(K:Za)(mg:Str->Option Value)(base:Heap)(N:List Str)(qual:Str)(scope:Scope)(f:Addr)(cd:Value)(A:Around)(outer:List Env)(s:Shared)(H:Hp)(E:XK):Cx where
 prog:=P
 w:=w
 K:=K
 mg:=mg
 base:=base
 A:=A.deeper (envOfC qual scope s.heap.objs.size f cd)
 N:=N
 s₀:=s
 H₀:=H
 env:=envOfC qual scope s.heap.objs.size f cd
 outer:=outer
 stack:=envOfC qual scope s.heap.objs.size f cd::outer
 ex:=[]
 calm:=true
 fn:=fun _=>true
 pn:=[]
 xe:=fun e s'=>wpAny (model P w) (A.deeper (envOfC qual scope s.heap.objs.size f cd)) (leaving (envOfC qual scope s.heap.objs.size f cd) e) (fun _ s''=>CX outer H s E e s'') (fun e' s''=>CX outer H s E e' s'') s'
def SH{sc:Scope}{n:Nat}{x:Str}(h:sc.names.lookup x=some .cell):∃c,(cellsFrom n sc.names []).lookup x=some c:=by
 have q:=PySem.W.cellsFrom_some sc.names n [] (.inl h);exact Option.isSome_iff_exists.mp q
def FQ{CX:CXT}{P:Program}{w:World}{K:Za}{mg:Str->Option Value}{base:Heap}{N ps:List Str}{qual:Str}{scope:Scope}{f:Addr}{cd:Value}{A:Around}{outer:List Env}{s s1:Shared}{H:Hp}{E:XK}{us:List Value}{vs:List V}(S:FnScope N ps scope)(hd:A.handled=none)(e0:Env0 P w K mg base A outer s H)(hl:vs.length=ps.length)(r:Vals vs us)(x:InCallC s s.heap.objs.size (bindL (envOfC qual scope s.heap.objs.size f cd).kindOf (ps.zip us) fun _=>none) (cellsFrom (s.heap.objs.size+1) scope.names []) (bindC (envOfC qual scope s.heap.objs.size f cd).kindOf (ps.zip us) fun _=>none) s1) :
  Inv (cxOf CX P w K mg base N qual scope f cd A outer s H E) [] (start N vs) H s1:=by
 have hpl:ps.length<=N.length:=by have:=Yg List.length S.pre;rw[Yn]at this;omega
 obtain⟨h1,tk,rfl,hk⟩:=x.done;have noA:∀b:Addr,b∉(cxOf CX P w K mg base N qual scope f cd A outer s H E).ex:=fun b z=>absurd (show b∈([]:List Addr)from z) (by simp)
 refine⟨⟨e0.mod,S.kind,rfl,rfl,ZF _,fun y z c h1 h2=>?_,fun y hy=>?_,fun y c _ h=>?_,fun _=>hd,Around.frames_deeper e0.frames,.inr ⟨rfl,rfl⟩,fun b z=>absurd z (noA b),e0.bs,e0.bsz,fun b _ _=>noA b,fun b z=>absurd z (noA b),e0.funs,e0.frf⟩,
  rfl,e0.bare,Un.kept hk,⟨_,x.toInCall.ns,fun i y v h1 h2 h3=>?_⟩,fun y c h=>⟨_,x.cell y c h⟩,e0.hok.fresh (ZF _),fun y c h=>?_,fun p hp=>absurd (show p∈([]:List (Addr×Obj))from hp) (by simp),e0.hok.kept hk,?_⟩
 ·exact name_of_addr x.apart (YN h1) (YN h2)
 ·have hy:scope.names.lookup y=some .cell\/scope.names.lookup y=some .free:=hy;rcases hy with hy|hy
  ·exact SH hy
  ·exact absurd rfl (S.nofree _ (YN hy))
 ·exact WA (x.above y c (YN h))
 ·have hi:i<vs.length:=by
   unfold start at h2;by_cases hi:i<vs.length
   ·exact hi
   ·rw[Yl (by simpa using hi)]at h2;rw[List.getElem?_replicate]at h2;split at h2<;>cases h2
  have ha:vs[i]?=some v:=by
   unfold start at h2;rw[Yd (by simpa using hi),ZD]at h2;cases e:vs[i]? with
   |none=>rw[e]at h2;cases h2
   |some a=>rw[e]at h2;cases h2;rfl
  obtain⟨u,hu,rv⟩:=r.get ha
  have hp:ps[i]?=some y:=by
   rw[←S.pre,Y8 (by omega)];exact h1
  have ndP:ps.Nodup:=by rw[←S.pre];exact S.nd.sublist (Qx _ _)
  refine⟨u,rv,?_⟩;rcases S.par y (Yb hp)with k|k
  ·exact .inl ⟨k,NB ndP hp hu k⟩
  ·obtain⟨c,e⟩:=SH (n:=s.heap.objs.size+1) k;refine .inr ⟨.inl k,c,e,?_⟩;have q:=x.cell y c e;rw[Sf ndP hp hu (by show scope.names.lookup y≠_;rw[k];decide)]at q;exact q
 ·exact e0.hok.fresh (WA (x.above y c (YN h)))
 ·unfold start;show _=N.length;rw[ZX,Z6,List.length_replicate];omega
def EF{CX:CXT}{P:Program}{w:World}{K:Za}{mg:Str->Option Value}{base:Heap}{k:Nat}{f:Addr}{name qual:Str}{params:Arguments}{body:List Stmt}{scope:Scope}{dV kV doc pm cdv ct oc:Value}{an od:Option Addr}{osl:Array (Option Value)}{N ps:List Str}{sp:Sp}(lk:K.lookup f=some ⟨oc,od,.func (PySem.W.fnOf name qual params body scope dV kV doc pm an cdv ct),osl⟩)(hcd:PySem.W.codeIn K cdv qual=true)(S:FnScope N ps scope)(len:∀vs H Q E,sp vs H Q E->vs.length=ps.length)
  (hbody:∀(A:Around) (outer:List Env) (s:Shared) (H:Hp) (vs:List V) (Q:VK) (E:XK),Room k (A.deeper (envOfC qual scope s.heap.objs.size f cdv))->sp vs H Q E->
   ∃t,PSs (cxOf CX P w K mg base N qual scope f cdv A outer s H E) body t/\t {nx:=fun _ H'=>Q .non H',rt:=Q} (start N vs) H) :
  FnOk P w K mg base CX (k+1) f (PySem.W.fnOf name qual params body scope dV kV doc pm an cdv ct) ps sp:=by
 refine⟨len,fun A outer s H args us vs Q E hr e0 hb r hsp=>?_⟩;have hl:=len _ _ _ _ hsp;have KX:K.In s.heap:=e0.mod.kin.keeps fun b o e=>(e0.bs b o e).1;have lim:s.heap.NoLimit:=e0.mod.nolimit.keeps fun b o e=>(e0.bs b o e).1
 have hkind:∀y∈ps.zip us,scope.names.lookup y.1=some .local\/(scope.names.lookup y.1=some .cell/\((cellsFrom (s.heap.objs.size+1) scope.names []).lookup y.1).isSome=true):=fun⟨n,v⟩ hy=>by
  rcases S.par n (List.of_mem_zip hy).1 with q|q
  ·exact .inl q
  ·exact .inr ⟨q,PySem.W.cellsFrom_some _ _ _ (.inl q)⟩
 refine codeAny_call_function hr.depth (KX _ _ lk) rfl S.co S.gen rfl (PySem.W.codeRec_of KX hcd) (hb _ _ _ _ ?_);refine wpAny_newFunctionEnv_cells S.kind hkind fun env he s1 x=>?_;subst he;refine⟨lim.keeps x.toInCall.keep,codeAny_func ?_⟩;obtain⟨t,ht,hq⟩:=hbody A outer s H vs Q E (hr.deeper _) hsp;have I:Inv (cxOf CX P w K mg base N qual scope f cdv A outer s H E) [] (start N vs) H s1:=FQ S hr.hd e0 hl r x;refine Y3 (ht [] s1 (start N vs) H _ I hq) (fun fl s' hs=>?_) fun e s' hs=>hs
 have fin:∀{σ':St} {H':Hp} {v:V} {u:Value},Inv (cxOf CX P w K mg base N qual scope f cdv A outer s H E) [] σ' H' s'->RelV v u->Q v H'->CE outer P w H s Q u s':=
  fun {σ' H' v u} J rv q=>⟨v,H',J.os,J.bare,J.base,J.hok,rv,q⟩
 cases fl with
 |ret u=>
  obtain⟨v,σ',H',J,rv,q⟩:=hs;exact fin J rv q
 |next=>
  obtain⟨σ',H',J,q⟩:=hs;exact fin (v:=V.non) (u:=Value.none) J rfl q
 |brk=>
  obtain⟨_,_,_,q⟩:=hs;exact False.elim q
 |cont=>
  obtain⟨_,_,_,q⟩:=hs;exact False.elim q
section
variable {X:Cx}{x:Str}{p pos:Pos}{e:Expr}{es:List Expr}{t:TA}{id T:String}{r:List V->Hp->VK->Prop}
def tCB(r:List V->Hp->VK->Prop)(t:TA):TE:=fun σ H Q=>t σ H fun vs H1=>r vs H1 Q
def Vk(hc:Vs X (.builtin id) r)(hg:Gl X x)(hm:X.mg x=none)(hv:bootBuiltins x=some (.builtin id))(ha:PA X (e::es) t)(hn:x≠"__name__":=by decide)(hdb:(x==("__debug__" : Str))=false:=by decide)(he:starEach (e::es) X.env=(false,eval e X.env)::starEach es X.env:=by rfl)(hpl:(backTo pos (starEach es X.env)).any (·.1)=false:=by rfl):PE X (.Call (.Name x p) (e::es) [] pos) (tCB r t):=by
 intro pins s σ H Q I h;refine wpAny_Call_Name_kw (Uc I hg hm hv ?_ hn hdb);exact PyProof.Rows.callWith_builtin1 (thn (ha pos pins s σ H _ I h) fun us s1 ⟨vs,H1,I1,r1,q1⟩=>hc pins s1 σ H1 vs us Q I1 r1 q1) he hpl
def JC(hc:Vs X (.type T) r)(hg:Gl X x)(hm:X.mg x=none)(hv:bootBuiltins x=some (.type T))(ha:PA X (e::es) t)(hn:x≠"__name__":=by decide)(hdb:(x==("__debug__" : Str))=false:=by decide)(he:starEach (e::es) X.env=(false,eval e X.env)::starEach es X.env:=by rfl)(hpl:(backTo pos (starEach es X.env)).any (·.1)=false:=by rfl):PE X (.Call (.Name x p) (e::es) [] pos) (tCB r t):=by
 intro pins s σ H Q I h;refine wpAny_Call_Name_kw (Uc I hg hm hv ?_ hn hdb);exact W1 (thn (ha pos pins s σ H _ I h) fun us s1 ⟨vs,H1,I1,r1,q1⟩=>hc pins s1 σ H1 vs us Q I1 r1 q1) he hpl
end
end L2
namespace HT
open PySem PyProof.Rows
section
variable {prog:Program}{w:World}{A:Around}{E:Value->Shared->Prop}{s:Shared}
def Dt{t b:Addr}{vs ws:List Value}{Q:Value->Shared->Prop}(ht:IsTup s.heap t vs.toArray)(hb:IsTup s.heap b ws.toArray)(hv:vs≠[])(h1:ws=[]->Q (.ref t) s)(h2:ws≠[]->Q (.ref s.heap.objs.size) {s with heap:=s.heap.push {cls:=.type "tuple",data:=.seq (vs++ws).toArray}})(hsz:vs.length+ws.length<=sizeLine):wpAny (model prog w) A (binaryOp .Add (.ref t) (.ref b)) Q E s:=by
 obtain⟨⟨cls,dd,data,sl⟩,ho,hc,n,hd⟩:=id ht;obtain⟨⟨cls2,dd2,data2,sl2⟩,ho2,hc2,n2,hd2⟩:=id hb;simp only at hc hd hc2 hd2;subst hc hd hc2 hd2;have e:vs.toArray++ws.toArray=(vs++ws).toArray:=by simp
 by_cases hw:ws=[]
 ·exact concat_meets ⟨_,ho,rfl⟩ ⟨_,ho2,rfl⟩ noFill_tuple_add seq_tuple_add WU WM (WC _ _)
   (tuple_addW1 t b vs.toArray ws.toArray n n2 dd dd2 sl sl2 (by simpa using hv) (by simp[hw])) ⟨ho,ho2,h1 hw⟩
 ·refine concat_meets ⟨_,ho,rfl⟩ ⟨_,ho2,rfl⟩ noFill_tuple_add seq_tuple_add WU WM (WC _ _)
   (tuple_addW2 t b vs.toArray ws.toArray n n2 dd dd2 sl sl2 (by simpa using hv) (by simpa using hw) (by rw[ZI,ZI];exact hsz)) ⟨ho,ho2,?_⟩
  rw[e];exact h2 hw
def sIx(n d:Nat):Option Int->Nat
 |none=>d
 |some v=>if v<0 then(v+(n:Int)).toNat else min v.toNat n
def NJ(n d:Nat):sIx n d none=d:=rfl
def N1(n d k:Nat):sIx n d (some (k:Int))=min k n:=by
 show(if (k:Int)<0 then((k:Int)+(n:Int)).toNat else min (k:Int).toNat n)=min k n;rw[ZG (by omega),ZN]
end
end HT
namespace L2
open PySem PySem.Spec PyProof.Rows
abbrev TO:=St->Hp->(Option Int->Hp->Prop)->Prop
def PO(X:Cx)(e:Option Expr)(t:TO):Prop:=
 ∀(pins:List (Addr×Obj)) (s:Shared) (σ:St) (H:Hp) (Q:Option Int->Hp->Prop),Inv X pins σ H s->t σ H Q->
  wpAny (model X.prog X.w) X.A (evalPart e X.env) (fun u s'=>∃o H',Inv X pins σ H' s'/\IsPart u o/\Q o H') X.xe s
def SW:TO:=fun _ H Q=>Q none H
def Nb(t:TE):TO:=fun σ H Q=>t σ H fun x H1=>∃i,x=.int i/\Q (some i) H1
def Xh{ns:List Int}:∀{us:List Value},Vals (ns.map V.int) us->IntsAre us ns:=by
 induction ns with
 |nil=>intro us r;rw[Qz]at r;cases r;exact .nil
 |cons n ns ih=>
  intro us r;rw[ZO]at r;cases r with
  |cons r1 r2=>
   obtain⟨t,e⟩:=r1;subst e;exact .cons n t (ih r2)
section
variable {X:Cx}{e:Expr}{te:TE}{lo hi:Option Expr}{tl th:TO}{pos p2:Pos}
def AS:PO X none SW:=by
 intro pins s σ H Q I h;rw[evalPart_none];exact Z8 ⟨none,H,I,.none,h⟩
def Dz(h:PE X e te):PO X (some e) (Nb te):=by
 intro pins s σ H Q I hw;rw[evalPart_some];refine thn (h pins s σ H _ I hw) fun u s1 ⟨x,H1,I1,r1,q1⟩=>?_;obtain⟨i,rfl,q⟩:=q1;obtain⟨t,rfl⟩:=r1;exact⟨some i,H1,I1,.int i t,q⟩
def SlR(X:Cx)(r:V->Option Int->Option Int->Hp->VK->Prop):Prop:=
 ∀(pins:List (Addr×Obj)) (s:Shared) (σ:St) (H:Hp) (x:V) (v vl vu:Value) (lo hi:Option Int) (sl:Addr) (Q:VK),Inv X pins σ H s->RelV x v->s.heap.IsSliceOf sl vl vu .none->IsPart vl lo->IsPart vu hi->r x lo hi H Q->
  ∃T id,typeLookup (.type T) "__getitem__"=pure (some (.builtin id))/\s.TypeIs v T/\wpAny (model X.prog X.w) X.A (getItem v (.ref sl)) (EP X pins σ Q) X.xe s
def tSl(r:V->Option Int->Option Int->Hp->VK->Prop)(te:TE)(tl th:TO):TE:=fun σ H Q=>te σ H fun x H1=>tl σ H1 fun l H2=>th σ H2 fun u H3=>r x l u H3 Q
def A0{r:V->Option Int->Option Int->Hp->VK->Prop}(hr:SlR X r)(he:PE X e te)(hl:PO X lo tl)(hu:PO X hi th):PE X (.Subscript e (.Slice lo hi none p2) pos) (tSl r te tl th):=by
 intro pins s σ H Q I h;refine Subscript_ (thn (he pins s σ H _ I h) fun v s1 ⟨x,H1,I1,r1,q1⟩=>?_);refine wpAny_Slice (thn (hl pins s1 σ H1 _ I1 q1) fun vl s2 ⟨l,H2,I2,pl,q2⟩=>thn (hu pins s2 σ H2 _ I2 q2) fun vu s3 ⟨u,H3,I3,pu,q3⟩=>?_);rw[evalPart_none];refine Z8 ?_;have I4:Inv X pins σ H3 {s3 with heap:=s3.heap.push {cls:=.type "slice",data:=.fields #[vl,vu,.none]}}:=I3.kept (t':=s3.toks) fun b ob q=>Z9 _ q
 obtain⟨T,id,hT,ht,hg⟩:=hr pins {s3 with heap:=s3.heap.push {cls:=.type "slice",data:=.fields #[vl,vu,.none]}} σ H3 x v vl vu l u s3.heap.objs.size Q I4 r1 (Heap.IsSliceOf.new ..) pl pu q3
 show wpAny (model X.prog X.w) X.A (subscriptTail e (.Slice lo hi none p2) v (.ref s3.heap.objs.size)) (EP X pins σ Q) X.xe {s3 with heap:=s3.heap.push {cls:=.type "slice",data:=.fields #[vl,vu,.none]}}
 exact tail_any (ops:=[.ref s3.heap.objs.size,v]) ht hT hg (by with_unfolding_all rfl)
def cutV(xs:List V)(lo hi:Option Int):List V:=(xs.drop (HT.sIx xs.length 0 lo)).take (HT.sIx xs.length xs.length hi-HT.sIx xs.length 0 lo)
def Fk(xs:List V)(lo hi:Option Int):(cutV xs lo hi).length<=xs.length:=by
 unfold cutV;rw[Yn,WZ];omega
def F4(K:Za):R2:=fun x y H Q=>∃a b xs ys,x=.ref a/\y=.ref b/\SqT K H a xs/\SqT K H b ys/\xs≠[]/\xs.length+ys.length<=sizeLine/\
 (ys=[]->Q (.ref a) H)/\(ys≠[]->∀p,H p=none->Q (.ref p) (upd H p (.tup (xs++ys))))
def Vals.nil_iff {xs:List V}{us:List Value} (r:Vals xs us):us=[]↔xs=[]:=by
 cases r with
 |nil=>simp
 |cons _ _=>simp
def A8:OpR X (binaryOp .Add) (F4 X.K):=by
 intro pins s σ H x y v u Q I rx ry h;obtain⟨a,b,xs,ys,rfl,rfl,ha,hb,hx,hz,q1,q2⟩:=h;cases rx
 cases ry
 obtain⟨its,r1,p1,_⟩:=I.tuple ha;obtain⟨its2,r2,p2,_⟩:=I.tuple hb;refine HT.Dt p1 p2 (fun z=>hx (r1.nil_iff.mp z)) (fun z=>⟨.ref a,H,I,rfl,q1 (r2.nil_iff.mp z)⟩) (fun z=>?_) (by rw[←r1.length,←r2.length];exact hz);refine⟨.ref s.heap.objs.size,_,I.laid (t':=s.toks) (o:=.tup (xs++ys)) (fun b ob q=>Z9 _ q) (ZF _) ?_,rfl,q2 (fun w=>z (r2.nil_iff.mpr w)) _ (I.hok.fresh (ZF _))⟩;exact⟨by rw[ZX];exact hz,_,r1.append r2,IsTup.new _ _⟩
end
def ixN(n:Nat)(i:Int):Option Nat:=if 0<=i then(if i<n then some i.toNat else none)else if -(n:Int)<=i then some (i+n).toNat else none
def atI{α:Type}(xs:List α)(i:Int):Option α:=(ixN xs.length i).bind fun j=>xs[j]?
def Nt{n:Nat}{i:Int}{j:Nat}(h:ixN n i=some j):seqIndex? i n=some j/\j<n/\-(n:Int)<=i/\i<n:=by
 unfold ixN at h;by_cases h0:0<=i
 ·rw[ZH h0]at h;by_cases h1:i<n
  ·rw[ZH h1]at h;have e:i.toNat=j:=ZE h;exact⟨by rw[seqIndex_of h0 h1,e],by omega,by omega,h1⟩
  ·rw[ZG h1]at h;cases h
 ·rw[ZG h0]at h;by_cases h1:-(n:Int)<=i
  ·rw[ZH h1]at h;have e:(i+n).toNat=j:=ZE h;exact⟨by rw[seqIndex_neg (by omega) h1,e],by omega,h1,by omega⟩
  ·rw[ZG h1]at h;cases h
def KR{α:Type}{xs:List α}{i:Int}{v:α}(h:atI xs i=some v):∃j,seqIndex? i xs.length=some j/\xs[j]?=some v/\j<xs.length/\-(xs.length:Int)<=i/\i<xs.length:=by
 unfold atI at h;cases e:ixN xs.length i with
 |none=>rw[e]at h;cases h
 |some j=>
  rw[e]at h;obtain⟨h1,h2,h3,h4⟩:=Nt e;exact⟨j,h1,h,h2,h3,h4⟩
def UZ{α:Type}{xs:List α}{j:Nat}{v:α}(h:xs[j]?=some v):atI xs (j:Int)=some v:=by
 have hj:j<xs.length:=(ZP.mp h).1
 have e:ixN xs.length (j:Int)=some j:=by
  unfold ixN;rw[ZH (by omega),ZH (by omega)];simp
 unfold atI;rw[e];exact h
def N8(b:Expr):Prop:=∀o i,subscripted b false o i=operate [o,i] (getItem o i)
def IxR(X:Cx)(r:R2):Prop:=
 ∀(value slice:Expr) (pins:List (Addr×Obj)) (s:Shared) (σ:St) (H:Hp) (x y:V) (v u:Value) (Q:VK),Inv X pins σ H s->RelV x v->RelV y u->r x y H Q->
  subscripted slice false v u=operate [v,u] (getItem v u)->wpAny (model X.prog X.w) X.A (subscriptTail value slice v u) (EP X pins σ Q) X.xe s
def MtR(X:Cx)(id:String)(r:V->List V->Hp->VK->Prop):Prop:=
 ∀(pins:List (Addr×Obj)) (s:Shared) (σ:St) (H:Hp) (x:V) (xs:List V) (v:Value) (us:List Value) (Q:VK),Inv X pins σ H s->RelV x v->Vals xs us->r x xs H Q->
  wpAny (model X.prog X.w) X.A (call (.builtin id) (v::us)) (EP X pins σ Q) X.xe s
section
variable {X:Cx}{a b:Expr}{ta tb:TE}{pos:Pos}
def IxR.or {r r':R2} (h:IxR X r) (h':IxR X r'):IxR X (fun x y H Q=>r x y H Q\/r' x y H Q):=by
 intro value slice pins s σ H x y v u Q I rx ry q hs;rcases q with q|q
 ·exact h value slice pins s σ H x y v u Q I rx ry q hs
 ·exact h' value slice pins s σ H x y v u Q I rx ry q hs
def Vc{r:R2}(hr:IxR X r)(ha:PE X a ta)(hb:PE X b tb)(hs:N8 b):PE X (.Subscript a b pos) (tOp r ta tb):=by
 intro pins s σ H Q I h;exact Subscript_ (binT ha hb I h fun v u s2 x y H2 I2 rx ry q=>hr a b pins s2 σ H2 x y v u Q I2 rx ry q (hs _ _))
def rIxL(K:Za):R2:=fun x y H Q=>∃p xs i v,x=.ref p/\y=.int i/\SqL K H p xs/\atI xs i=some v/\Q v H
def rIxT(K:Za):R2:=fun x y H Q=>∃p xs i v,x=.ref p/\y=.int i/\SqT K H p xs/\atI xs i=some v/\Q v H
def ix_list:IxR X (rIxL X.K):=by
 intro value slice pins s σ H x y v u Q I rx ry h hs;obtain⟨p,xs,i,z,rfl,rfl,hq,he,q⟩:=h;cases rx
 obtain⟨t,rfl⟩:=ry;obtain⟨its,r,pl,hz⟩:=I.list hq;obtain⟨j,h1,h2,h3,h4,h5⟩:=KR he;obtain⟨w,ew,rw'⟩:=r.get h2;have hl:=r.length;have hn:=JV;have fin:EP X pins σ Q w s:=⟨z,H,I,rw',q⟩;by_cases h0:0<=i
 ·have hj:i.toNat=j:=by
   rw[seqIndex_of h0 h5]at h1;exact ZE h1
  exact item_listR pl.isList h0 (by omega) (by rw[hj];simpa using ew) fin hs
 ·have hj:(i+(its.toArray.size:Int)).toNat=j:=by
   rw[seqIndex_neg (by omega) h4]at h1;rw[ZI,←hl];exact ZE h1
  exact subscriptTail_builtinR (x:=w) pl.isList.typeIs slot_list_getitem.lookup
   (wpAny_getItem_list_neg (Q:=fun r s'=>r=w/\EP X pins σ Q r s') pl.isList (by omega) (by rw[ZI]<;>omega) (by omega) (by rw[hj];simpa using ew) ⟨rfl,fin⟩) hs
def FP:IxR X (rIxT X.K):=by
 intro value slice pins s σ H x y v u Q I rx ry h hs;obtain⟨p,xs,i,z,rfl,rfl,hq,he,q⟩:=h;cases rx
 obtain⟨t,rfl⟩:=ry;obtain⟨its,r,pl,hz⟩:=I.tuple hq;obtain⟨j,h1,h2,h3,h4,h5⟩:=KR he;obtain⟨w,ew,rw'⟩:=r.get h2;have hl:=r.length;have hn:=JV;have fin:EP X pins σ Q w s:=⟨z,H,I,rw',q⟩
 exact subscriptTail_builtinR (x:=w) pl.typeIs slot_tuple_getitem.lookup
  (getItem_tuple (j:=j) (Q:=fun r s'=>r=w/\EP X pins σ Q r s') pl (by omega) (by omega) (by rw[ZI,←hl];exact h1) (by simpa using ew) ⟨rfl,fin⟩) hs
def Bu(its:List Value)(n j:Nat)(u:Value):Obj.mapSeq (·.setIfInBounds j u) {cls:=.type "list",data:=.seq its.toArray n}={cls:=.type "list",data:=.seq (its.set j u).toArray n}:=by
 simp[Obj.mapSeq]
def Inv.lst {pins:List (Addr×Obj)}{σ:St}{H:Hp}{s:Shared}{p:Addr}{xs:List V} (I:Inv X pins σ H s) (h:H p=some (.lst xs)) :
  ∃(its:List Value) (n:Nat),Vals xs its/\s.heap.get? p=some {cls:=.type "list",data:=.seq its.toArray n}/\xs.length<=sizeLine:=by
 obtain⟨z,its,n,r,e⟩:=I.hok p _ h;exact⟨its,n,r,e,z⟩
def Inv.lstUpd {pins:List (Addr×Obj)}{σ:St}{H:Hp}{s:Shared}{p:Addr}{xs ys:List V}{its its':List Value}{n n':Nat}{f:Obj->Obj} (I:Inv X pins σ H s) (h:H p=some (.lst xs))
  (ho:s.heap.get? p=some {cls:=.type "list",data:=.seq its.toArray n}) (hf:f {cls:=.type "list",data:=.seq its.toArray n}={cls:=.type "list",data:=.seq its'.toArray n'}) (r:Vals ys its') (hz:ys.length<=sizeLine) (t:Nat) :
  Inv X pins σ (upd H p (.lst ys)) {s with heap:=s.heap.update p f,toks:=t}:=by
 have e:(s.heap.update p f).get? p=some {cls:=.type "list",data:=.seq its'.toArray n'}:=by
  rw[Yy f ho (by rw[hf]<;>rfl),hf]
 refine I.write (x:=p) (e:=p) (by rw[h];trivial) (.inl rfl) (fun b u hb q=>(Ws _ _ (Ne.symm hb)).trans q) ⟨_,e⟩ ?_;exact⟨hz,its',n',r,e⟩
def XQ:V->V->V->Hp->(Hp->Prop)->Prop:=fun o i v H Q=>∃p xs k j,o=.ref p/\i=.int k/\H p=some (.lst xs)/\ixN xs.length k=some j/\Q (upd H p (.lst (xs.set j v)))
def Se:PSet X XQ:=by
 intro pins s σ H o i v ov iv u Q I ro ri rv h;obtain⟨p,xs,k,j,rfl,rfl,hp,hj,q⟩:=h;cases ro
 obtain⟨t,rfl⟩:=ri;obtain⟨its,n,r,ho,hz⟩:=I.lst hp;obtain⟨h1,h2,h3,h4⟩:=Nt hj;have hl:=r.length;have hn:=JV
 have I':Inv X pins σ (upd H p (.lst (xs.set j v))) {s with heap:=s.heap.update p (Obj.mapSeq (·.setIfInBounds j u))}:=
  I.lstUpd hp ho (Bu its n j u) (r.set rv j) (by rw[YG];exact hz) s.toks
 by_cases h0:0<=k
 ·have hk:k.toNat=j:=by
   rw[seqIndex_of h0 h4]at h1;exact ZE h1
  exact PySem.W.ki_setAt ho h0 (by omega) (by rw[ZI,←hl];exact h4) (by rw[hk];exact⟨_,I',q⟩)
 ·have hk:(k+(its.toArray.size:Int)).toNat=j:=by
   rw[seqIndex_neg (by omega) h3]at h1;rw[ZI,←hl];exact ZE h1
  exact PySem.W.ki_setBack ho (by omega) (by rw[ZI,←hl];exact h3) (by omega) (by rw[hk];exact⟨_,I',q⟩)
def Ak(lo hi:Option Int)(n:Nat):(sliceBounds lo hi none n).1=((HT.sIx n 0 lo:Nat):Int)/\(sliceBounds lo hi none n).2.1=((HT.sIx n n hi:Nat):Int)/\(sliceBounds lo hi none n).2.2=1:=by
 refine⟨?_,?_,rfl⟩
 ·cases lo with
  |none=>simp[sliceBounds,HT.sIx]
  |some i=>
   simp only[sliceBounds,HT.sIx,Option.getD_none,show(1:Int)>0 by decide,if_true];by_cases h:i<0
   ·simp only[h,if_true]<;>omega
   ·simp only[h,Qa]<;>omega
 ·cases hi with
  |none=>simp[sliceBounds,HT.sIx]
  |some i=>
   simp only[sliceBounds,HT.sIx,Option.getD_none,show(1:Int)>0 by decide,if_true];by_cases h:i<0
   ·simp only[h,if_true]<;>omega
   ·simp only[h,Qa]<;>omega
def AY(its:List Value)(lo hi:Option Int):slicePick its.toArray lo hi none=((its.drop (HT.sIx its.length 0 lo)).take (HT.sIx its.length its.length hi-HT.sIx its.length 0 lo)).toArray:=by
 obtain⟨h1,h2,h3⟩:=Ak lo hi its.toArray.size;unfold slicePick;rw[h1,h2,h3];simp only[sliceRange_one,pick_run,ZI]<;>rfl
def rSlL(K:Za):V->Option Int->Option Int->Hp->VK->Prop:=fun x lo hi H Q=>∃a xs,x=.ref a/\SqL K H a xs/\∀p,H p=none->Q (.ref p) (upd H p (.lst (cutV xs lo hi)))
def Fl:SlR X (rSlL X.K):=by
 intro pins s σ H x v vl vu lo hi sl Q I rx hs pl pu h;obtain⟨a,xs,rfl,hx,q⟩:=h;cases rx
 obtain⟨its,r,ht,hz⟩:=I.list hx;have hlen:=r.length;refine⟨"list",_,slot_list_getitem.lookup,ht.isList.typeIs,?_⟩;refine wpAny_getItem_list_slice ht.isList hs pl pu .none (by simp) ?_ (by rw[ZI]<;>omega);rw[AY,←hlen];refine⟨.ref s.heap.objs.size,_,I.laid (t':=s.toks) (o:=.lst (cutV xs lo hi)) (fun b ob q=>Z9 _ q) (ZF _) ?_,rfl,q _ (I.hok.fresh (ZF _))⟩;exact⟨ZW (Fk xs lo hi) hz,_,0,(r.drop (HT.sIx xs.length 0 lo)).take (HT.sIx xs.length xs.length hi-HT.sIx xs.length 0 lo),ZL _ rfl⟩
def VD:V->Bool
 | .non=>true
 | .bl _=>true
 | .int _=>true
 | .str _=>true
 |_=>false
def eqV:V->V->Bool
 | .non,.non=>true
 | .bl a,.bl b=>a==b
 | .bl a,.int b=>(if a then 1 else 0)==b
 | .int a,.bl b=>a==(if b then 1 else 0)
 | .int a,.int b=>a==b
 | .str a,.str b=>a==b
 |_,_=>false
def Nv{A:Around}{s:Shared}{y x:V}{u v:Value}(ry:RelV y u)(rx:RelV x v)(fy:VD y=true)(fx:VD x=true):SeqAt.EqAt A s u v (eqV y x):=by
 cases y with
 |non=>
  cases ry
  cases x with
  |non=>cases rx;exact SeqAt.EqAt.same _
  |bl b=>cases rx;exact SeqAt.EqAt.none_bool b
  |int b=>obtain⟨t,rfl⟩:=rx;exact SeqAt.EqAt.none_int b t
  |str b=>obtain⟨t,rfl⟩:=rx;exact SeqAt.EqAt.none_str b t
  |_=>exact absurd (show false=true from fx) ZJ
 |bl a=>
  cases ry
  cases x with
  |non=>cases rx;exact SeqAt.EqAt.bool_none a
  |bl b=>cases rx;exact SeqAt.EqAt.bool_bool a b
  |int b=>obtain⟨t,rfl⟩:=rx;exact SeqAt.EqAt.bool_int a b t
  |str b=>obtain⟨t,rfl⟩:=rx;exact SeqAt.EqAt.bool_str a b t
  |_=>exact absurd (show false=true from fx) ZJ
 |int a=>
  obtain⟨t',rfl⟩:=ry;cases x with
  |non=>cases rx;exact SeqAt.EqAt.int_none a t'
  |bl b=>cases rx;exact SeqAt.EqAt.int_bool a t' b
  |int b=>obtain⟨t,rfl⟩:=rx;exact SeqAt.EqAt.int_int a t' b t
  |str b=>obtain⟨t,rfl⟩:=rx;exact SeqAt.EqAt.int_str a t' b t
  |_=>exact absurd (show false=true from fx) ZJ
 |str a=>
  obtain⟨t',rfl⟩:=ry;cases x with
  |non=>cases rx;exact SeqAt.EqAt.str_none a t'
  |bl b=>cases rx;exact SeqAt.EqAt.str_bool a t' b
  |int b=>obtain⟨t,rfl⟩:=rx;exact SeqAt.EqAt.str_int a t' b t
  |str b=>obtain⟨t,rfl⟩:=rx;exact SeqAt.EqAt.str_str a t' b t
  |_=>exact absurd (show false=true from fx) ZJ
 |_=>exact absurd (show false=true from fy) ZJ
def eqU(x:V)(u:Value):Bool:=match u with
 | .none=>eqV .non x
 | .bool b=>eqV (.bl b) x
 | .int i _=>eqV (.int i) x
 | .str z _=>eqV (.str z) x
 |_=>false
def Bi{x y:V}{u:Value}(r:RelV y u)(f:VD y=true):eqU x u=eqV y x:=by
 cases y with
 |non=>cases r;rfl
 |bl b=>cases r;rfl
 |int i=>obtain⟨t,rfl⟩:=r;rfl
 |str z=>obtain⟨t,rfl⟩:=r;rfl
 |_=>exact absurd (show false=true from f) ZJ
def Ub{x:V}:∀{xs:List V}{us:List Value},Vals xs us->xs.all VD=true->us.any (eqU x)=xs.any fun y=>eqV y x
 |_,_,.nil,_=>rfl
 |y::xs,u::us,.cons r t,f=>by
  rw[List.all_cons,Y4]at f;rw[Wk,Wk,Bi r f.1,Ub t f.2]
def Uk{A:Around}{s:Shared}{x:V}{v:Value}(rx:RelV x v)(fx:VD x=true):∀{xs:List V}{us:List Value},Vals xs us->xs.all VD=true->∀u∈us,SeqAt.EqAt A s u v (eqU x u)
 |_,_,.nil,_=>fun u hu=>by cases hu
 |y::xs,u::us,.cons r t,f=>fun u' hu=>by
  rw[List.all_cons,Y4]at f;rcases ZT.mp hu with rfl|hu
  ·rw[Bi r f.1];exact Nv r rx f.1 fx
  ·exact Uk rx fx t f.2 u' hu
def inV(x:V)(xs:List V):Bool:=xs.any fun y=>eqV y x
def rIn(K:Za)(neg:Bool):R2:=fun x y H Q=>∃p xs,y=.ref p/\(SqL K H p xs\/SqT K H p xs)/\VD x=true/\xs.all VD=true/\Q (.bl (if neg then !inV x xs else inV x xs)) H
def CG:OpR X (compareOp .In) (rIn X.K false):=by
 intro pins s σ H x y v u Q I rx ry h;obtain⟨p,xs,rfl,hq,fx,fs,q⟩:=h;cases ry
 rcases hq with hq|hq
 ·obtain⟨its,r,pl,hz⟩:=I.list hq;refine SeqAt.in_listAt (eqU x) pl.isList (fun w hw=>Uk rx fx r fs w (by simpa using hw)) ⟨.bl _,H,I,rfl,?_⟩;rw[show its.toArray.any (eqU x)=its.any (eqU x) by simp,Ub r fs];exact q
 ·obtain⟨its,r,pl,hz⟩:=I.tuple hq;refine SeqAt.in_tupleAt (eqU x) pl (fun w hw=>Uk rx fx r fs w (by simpa using hw)) ⟨.bl _,H,I,rfl,?_⟩;rw[show its.toArray.any (eqU x)=its.any (eqU x) by simp,Ub r fs];exact q
def Eg:OpR X (compareOp .NotIn) (rIn X.K true):=by
 intro pins s σ H x y v u Q I rx ry h;obtain⟨p,xs,rfl,hq,fx,fs,q⟩:=h;cases ry
 rcases hq with hq|hq
 ·obtain⟨its,r,pl,hz⟩:=I.list hq;refine SeqAt.notIn_listAt (eqU x) pl.isList (fun w hw=>Uk rx fx r fs w (by simpa using hw)) ⟨.bl _,H,I,rfl,?_⟩;rw[show its.toArray.any (eqU x)=its.any (eqU x) by simp,Ub r fs];exact q
 ·obtain⟨its,r,pl,hz⟩:=I.tuple hq;refine SeqAt.notIn_tupleAt (eqU x) pl (fun w hw=>Uk rx fx r fs w (by simpa using hw)) ⟨.bl _,H,I,rfl,?_⟩;rw[show its.toArray.any (eqU x)=its.any (eqU x) by simp,Ub r fs];exact q
def NG:Vs X (.type "list") (fun xs H Q=>∃p ys,xs=[.ref p]/\(SqL X.K H p ys\/SqT X.K H p ys)/\∀l,H l=none->Q (.ref l) (upd H l (.lst ys))):=by
 intro pins s σ H xs us Q I r h;obtain⟨p,ys,rfl,hq,q⟩:=h;obtain⟨u,rfl,rx⟩:=vals1 r;cases rx
 have fin:∀(its:List Value),Vals ys its->ys.length<=sizeLine->∀(h':Heap) (c':Nat),(∀b o',s.heap.get? b=some o'->h'.get? b=some o')->
   h'.get? s.heap.objs.size=some {cls:=.type "list",dict:=none,data:=.seq its.toArray c',slots:=#[]}->EP X pins σ Q (.ref s.heap.objs.size) {s with heap:=h'}:=fun its r' hz h' c' kp e=>
  ⟨.ref s.heap.objs.size,_,I.laid (t':=s.toks) kp (ZF _) (show ObjOk X.prog X.w _ h' _ (.lst ys)from⟨hz,its,c',r',e⟩),rfl,q _ (I.hok.fresh (ZF _))⟩
 rcases hq with hq|hq
 ·obtain⟨its,r',pl,hz⟩:=I.list hq;have hlen:=r'.length;obtain⟨o,ho,hc,n,hd⟩:=pl.isList;exact call_list_seq p (.inl rfl) ho hc hd (fun h' c' kp e=>fin its r' hz h' c' kp e) (by simp only[ZI]<;>omega)
 ·obtain⟨its,r',pl,hz⟩:=I.tuple hq;have hlen:=r'.length;obtain⟨o,ho,hc,n,hd⟩:=pl;exact call_list_seq p (.inr rfl) ho hc hd (fun h' c' kp e=>fin its r' hz h' c' kp e) (by simp only[ZI]<;>omega)
def Cz:Vs X (.type "tuple") (fun xs H Q=>∃p ys,xs=[.ref p]/\((SqL X.K H p ys/\∀l,H l=none->Q (.ref l) (upd H l (.tup ys)))\/(SqT X.K H p ys/\Q (.ref p) H))):=by
 intro pins s σ H xs us Q I r h;obtain⟨p,ys,rfl,h⟩:=h;obtain⟨u,rfl,rx⟩:=vals1 r;cases rx
 rcases h with⟨hq,q⟩|⟨hq,q⟩
 ·obtain⟨its,r',pl,hz⟩:=I.list hq;have hlen:=r'.length;refine call_tuple_list pl.isList (fun h' kp=>?_) (by simp only[ZI]<;>omega);have I1:Inv X pins σ H {s with heap:=h'}:=I.kept (t':=s.toks) kp
  have I2:Inv X pins σ (upd H h'.objs.size (.tup ys)) {s with heap:=h'.push {cls:=.type "tuple",data:=.seq its.toArray}}:=
   I1.laid (t':=s.toks) (fun b o e=>Z9 _ e) (ZF _) (show ObjOk X.prog X.w _ _ _ (.tup ys)from⟨hz,its,r',IsTup.new _ _⟩)
  exact⟨.ref h'.objs.size,_,I2,rfl,q _ (I1.hok.fresh (ZF _))⟩
 ·obtain⟨its,r',pl,hz⟩:=I.tuple hq;exact call_tuple_same pl ⟨.ref p,H,I,rfl,q⟩
def tyV(K:Za)(T:String)(x:V)(H:Hp):Prop:=match x with
 | .str _=>T = "str"
 | .int _=>T = "int"
 | .ref p=>(T = "list"/\∃xs,SqL K H p xs)\/(T = "tuple"/\∃o,K.lookup p=some o/\o.cls=.type "tuple"/\o.dict=none)\/
   (T = "dict"/\((∃kvs,H p=some (.dK kvs))\/∃kvs,H p=some (.dT kvs)))\/(T = "set"/\∃S n,H p=some (.set S n))
 |_=>False
def Th{pins:List (Addr×Obj)}{σ:St}{H:Hp}{s:Shared}{T:String}{x:V}{v:Value}(I:Inv X pins σ H s)(r:RelV x v)(ty:tyV X.K T x H) :
  s.TypeIs v T/\∀a,v=.ref a->∃ob,s.heap.get? a=some ob/\ob.dict=none:=by
 cases x with
 |str z=>
  obtain⟨t,rfl⟩:=r;cases (show T = "str" from ty)
  exact⟨typeIs_str s z t,fun _ e=>nomatch e⟩
 |int i=>
  obtain⟨t,rfl⟩:=r;cases (show T = "int" from ty)
  exact⟨typeIs_int s i t,fun _ e=>nomatch e⟩
 |ref p=>
  cases r
  rcases ty with⟨rfl,xs,hq⟩|⟨rfl,o,hk,hc,hd⟩|⟨rfl,hk⟩|⟨rfl,S,n,hk⟩
  ·obtain⟨its,_,pl,_⟩:=I.list hq;refine⟨pl.isList.typeIs,fun a e=>?_⟩;cases e
   obtain⟨o,n,e,c,hd,_⟩:=pl;exact⟨o,e,hd⟩
  ·refine⟨⟨o,I.kIn p o hk,hc⟩,fun a e=>?_⟩;cases e
   exact⟨o,I.kIn _ o hk,hd⟩
  ·have z:∃o,s.heap.get? p=some o/\o.ExactDict:=by
    rcases hk with⟨kvs,hk⟩|⟨kvs,hk⟩
    ·obtain⟨_,_,_,_,o,_,_,e,ex,_⟩:=I.hok p _ hk;exact⟨o,e,ex⟩
    ·obtain⟨_,_,_,_,o,_,_,e,ex,_⟩:=I.hok p _ hk;exact⟨o,e,ex⟩
   obtain⟨o,e,ex⟩:=z;refine⟨⟨o,e,ex.1⟩,fun a e2=>?_⟩;cases e2
   exact⟨o,e,ex.2.1⟩
  ·obtain⟨o,_,_,_,e,ex,_⟩:=I.hok p _ hk;refine⟨⟨o,e,ex.1⟩,fun a e2=>?_⟩;cases e2
   exact⟨o,e,ex.2.1⟩
 |_=>exact False.elim ty
def tBM0(K:Za)(T:String)(r:V->List V->Hp->VK->Prop)(to:TE):TE:=fun σ H Q=>to σ H fun x H1=>tyV K T x H1/\r x [] H1 Q
def tBM(K:Za)(T:String)(r:V->List V->Hp->VK->Prop)(to:TE)(t:TA):TE:=fun σ H Q=>to σ H fun x H1=>tyV K T x H1/\t σ H1 fun xs H2=>r x xs H2 Q
variable {o e:Expr}{es:List Expr}{to:TE}{t:TA}{name:Str}{apos cpos:Pos}{T id:String}{r:V->List V->Hp->VK->Prop}
def EC(pa:PlainAttrs T)(slot:Slot T name id)(hty:typeOf (.builtin id)=pure (.type "method_descriptor"))(hm:MtR X id r)(ho:PE X o to)(hbase:attributeBase o name X.env (eval o X.env)=eval o X.env:=by rfl)(hline:(apos.endLine==cpos.line)=true:=by rfl):PE X (.Call (.Attribute o name apos) [] [] cpos) (tBM0 X.K T r to):=by
 intro pins s σ H Q I h;refine wpAny_Call_method0_late hbase hline (thn (ho pins s σ H _ I h) fun v s1 ⟨x,H1,I1,r1,ty,q1⟩=>?_);obtain⟨h1,h2⟩:=Th I1 r1 ty;exact⟨T,id,pa,slot,hty,h1,h2,Calls.callWith_builtin rfl (PySem.evalArgs_none (hm pins s1 σ H1 x [] v [] Q I1 r1 .nil q1))⟩
def Uq(pa:PlainAttrs T)(slot:Slot T name id)(hty:typeOf (.builtin id)=pure (.type "method_descriptor"))(hm:MtR X id r)(ho:PE X o to)(ha:PA X (e::es) t)(hbase:attributeBase o name X.env (eval o X.env)=eval o X.env:=by rfl)
  (hfew:((backTo cpos (starEach (e::es) X.env)).all (fun x=>!x.1)&&(backToKw cpos (keywordEach [] X.env)).all (fun x=>x.1.isSome)
   && decide ((e::es).length+([]:List Keyword).length+(if ([]:List Keyword).isEmpty then 0 else 1)<30))=true:=by rfl)
  (hline:(apos.endLine==cpos.line)=true:=by rfl) (hs:starEach (e::es) X.env=(false,eval e X.env)::starEach es X.env:=by rfl) (hplain:(backTo cpos (starEach es X.env)).any (·.1)=false:=by rfl) :
  PE X (.Call (.Attribute o name apos) (e::es) [] cpos) (tBM X.K T r to t):=by
 intro pins s σ H Q I h;refine wpAny_Call_method_late hbase hfew hline rfl (thn (ho pins s σ H _ I h) fun v s1 ⟨x,H1,I1,r1,ty,q1⟩=>?_);obtain⟨h1,h2⟩:=Th I1 r1 ty;refine⟨T,id,pa,slot,hty,h1,h2,?_⟩;have hA:=ha cpos pins s1 σ H1 _ I1 q1;rw[hs]at hA ⊢;refine Calls.callWith_builtin (by show(false || (backTo cpos (starEach es X.env)).any (·.1))=false;rw[hplain]<;>rfl) (Calls.evalArgs_plain ?_);exact thn hA fun us s2 ⟨vs,H2,I2,r2,q2⟩=>hm pins s2 σ H2 x vs v us Q I2 r1 r2 q2
end
def MtM(X:Cx)(id:String)(r:V->List V->Hp->VK->Prop):Prop:=
 ∀(pins:List (Addr×Obj)) (s:Shared) (σ:St) (H:Hp) (x:V) (xs:List V) (v:Value) (us:List Value) (Q:VK),Inv X pins σ H s->RelV x v->Vals xs us->r x xs H Q->
  wpAny (model X.prog X.w) X.A (call (.builtin id) (v::us)) (EP X pins σ Q) X.xe s
def Vals.one:∀{x:V}{us:List Value},Vals [x] us->∃u,us=[u]/\RelV x u
 |_,_,.cons r .nil=>⟨_,rfl,r⟩
def Vals.zero:∀{us:List Value},Vals [] us->us=[]
 |_,.nil=>rfl
def Vals.rep {xs:List V}{us:List Value} (h:Vals xs us):∀k:Nat,Vals (List.replicate k xs).flatten (List.replicate k us).flatten
 | 0=>.nil
 |k+1=>by
  rw[YB,YB,YV,YV];exact Vals.append h (Vals.rep h k)
def Bb(its:List Value):∀(k:Nat) (acc:List Value),
  List.foldl (fun x1 x2=>x1++x2) acc.toArray (List.replicate k its.toArray)=(acc++(List.replicate k its).flatten).toArray
 | 0,acc=>by simp
 |k+1,acc=>by
  have e:acc.toArray++its.toArray=(acc++its).toArray:=by simp
  have e2:(acc++its)++(List.replicate k its).flatten=acc++(List.replicate (k+1) its).flatten:=by
   rw[YB,YV,List.append_assoc]
  rw[←e2,←Bb its k (acc++its),←e,YB,List.foldl_cons]
section
variable {X:Cx}{pins:List (Addr×Obj)}{σ:St}{H:Hp}{s:Shared}{l b:Addr}{xs ys zs:List V}
def Inv.lset {its its':List Value}{n:Nat}{f:Array Value->Array Value}{t':Nat} (I:Inv X pins σ H s) (hH:H l=some (.lst xs))
  (e:s.heap.get? l=some {cls:=.type "list",data:=.seq its.toArray n}) (hf:f its.toArray=its'.toArray) (hv:Vals ys its') (hz:ys.length<=sizeLine) :
  Inv X pins σ (upd H l (.lst ys)) {s with heap:=s.heap.update l (Obj.mapSeq f),toks:=t'}:=by
 have q:=PySem.IsL.update e f;rw[hf]at q;refine I.write (x:=l) (e:=l) (by rw[hH];exact trivial) (.inl rfl) (fun b' u hb hu=>(Ws s.heap (Obj.mapSeq f) (Ne.symm hb)).trans hu) ⟨_,q⟩ ?_;exact⟨hz,its',_,hv,q⟩
def Inv.lnew {its:List Value}{t':Nat} (I:Inv X pins σ H s) (hv:Vals ys its) (hz:ys.length<=sizeLine) :
  Inv X pins σ (upd H s.heap.objs.size (.lst ys)) {s with heap:=s.heap.push {cls:=.type "list",data:=.seq its.toArray},toks:=t'}:=
 I.laid (fun _ _ q=>Z9 _ q) (ZF _) ⟨hz,its,0,hv,ZL _ rfl⟩
def Inv.fresh (I:Inv X pins σ H s):H s.heap.objs.size=none:=I.hok.fresh (ZF _)
def Inv.lstM (I:Inv X pins σ H s) (hH:H l=some (.lst xs)):xs.length<=sizeLine/\∃(its:List Value) (n:Nat),Vals xs its/\xs.length=its.length/\s.heap.get? l=some {cls:=.type "list",data:=.seq its.toArray n}:=by
 obtain⟨z,its,n,r,e⟩:=I.hok l _ hH;exact⟨z,its,n,r,r.length,e⟩
def PY{n:Nat}(h:n<=sizeLine):Builtin.List.listTooLong n=false:=by
 unfold Builtin.List.listTooLong;exact ZM (by omega)
end
section
variable {X:Cx}
def N4:V->List V->Hp->VK->Prop:=fun x vs H Q=>∃l xs y,x=.ref l/\vs=[y]/\H l=some (.lst xs)/\xs.length<sizeLine/\Q .non (upd H l (.lst (xs++[y])))
def Uy:MtM X "list.append" N4:=by
 intro pins s σ H x vs v us Q I rx rv h;obtain⟨l,xs,y,rfl,rfl,hH,hz,q⟩:=h;cases rx
 obtain⟨u,rfl,ru⟩:=rv.one;obtain⟨z,its,n,r,hl,e⟩:=I.lstM hH;refine call_meets F.slot_list_append ⟨_,e,rfl⟩ F.entry_list_append (F.args_list_append_2 _ _) (PySem.list_append l its.toArray n u (by rw[ZI];omega)) ⟨e,?_⟩;refine⟨.non,_,I.lset (its':=its++[u]) hH e (by simp) (r.append (.cons ru .nil)) ?_,rfl,q⟩;rw[ZX,YE];omega
def CM:V->List V->Hp->VK->Prop:=fun x vs H Q=>∃l b xs zs,x=.ref l/\vs=[.ref b]/\H l=some (.lst xs)/\H b=some (.lst zs)/\xs.length+zs.length<=sizeLine/\Q .non (upd H l (.lst (xs++zs)))
def EV:MtM X "list.extend" CM:=by
 intro pins s σ H x vs v us Q I rx rv h;obtain⟨l,b,xs,zs,rfl,rfl,hH,hB,hz,q⟩:=h;cases rx
 obtain⟨u,rfl,ru⟩:=rv.one;cases ru
 obtain⟨z,its,n,r,hl,e⟩:=I.lstM hH;obtain⟨z2,its2,n2,r2,hl2,e2⟩:=I.lstM hB;have hsz:its.toArray.size+its2.toArray.size<=sizeLine:=by rw[ZI,ZI];omega
 have hlong:¬(!its.toArray.isEmpty&&Builtin.List.listTooLong (its.toArray.size+its2.toArray.size))=true:=by
  rw[PY hsz,Qs];exact ZJ
 refine call_meets F.slot_list_extend ⟨_,e,rfl⟩ F.entry_list_extend (F.args_list_extend_2 _ _)
  (AutoSeq1.list_extend_list_list_0 l its.toArray n b its2.toArray n2 hlong (by rw[ZI];omega) (by omega)) ⟨e,e2,?_⟩
 refine⟨.non,_,I.lset (its':=its++its2) hH e (by simp) (r.append r2) ?_,rfl,q⟩;rw[ZX];omega
def rCat:R2:=fun x y H Q=>∃l b xs zs,x=.ref l/\y=.ref b/\H l=some (.lst xs)/\H b=some (.lst zs)/\xs.length+zs.length<=sizeLine/\∀p,H p=none->Q (.ref p) (upd H p (.lst (xs++zs)))
def XI:OpR X (binaryOp .Add) rCat:=by
 intro pins s σ H x y v u Q I rx ry h;obtain⟨l,b,xs,zs,rfl,rfl,hH,hB,hz,q⟩:=h;cases rx
 cases ry
 obtain⟨z,its,n,r,hl,e⟩:=I.lstM hH;obtain⟨z2,its2,n2,r2,hl2,e2⟩:=I.lstM hB;refine PySem.P.add_list e e2 ?_ (by rw[ZI,ZI];omega);have ea:its.toArray++its2.toArray=(its++its2).toArray:=by simp
 rw[ea];exact⟨.ref _,_,I.lnew (t':=s.toks) (r.append r2) (by rw[ZX];omega),rfl,q _ I.fresh⟩
def rRep:R2:=fun x y H Q=>∃l k xs,x=.ref l/\y=.int k/\H l=some (.lst xs)/\-(2 ^ 63)<=k/\k<2 ^ 63/\xs.length*k.toNat<=sizeLine/\
 ∀p,H p=none->Q (.ref p) (upd H p (.lst (List.replicate k.toNat xs).flatten))
def Dn{α:Type}(xs:List α)(k:Nat):(List.replicate k xs).flatten.length=k*xs.length:=by
 induction k with
 |zero=>simp
 |succ k ih=>rw[YB,YV,ZX,ih,Nat.succ_mul,Nat.add_comm]
def Pt:OpR X (binaryOp .Mult) rRep:=by
 intro pins s σ H x y v u Q I rx ry h;obtain⟨l,k,xs,rfl,rfl,hH,h1,h2,hz,q⟩:=h;cases rx
 obtain⟨t,rfl⟩:=ry;obtain⟨z,its,n,r,hl,e⟩:=I.lstM hH;have hlen:its.toArray.size*k.toNat<=sizeLine:=by rw[ZI,←hl];exact hz
 have hcap:¬its.toArray.size*k.toNat>(2 ^ 63-1) / 8:=by
  have:(sizeLine:Nat)<=(2 ^ 63-1) / 8:=by decide
  omega
 have hfit:¬(!Builtin.List.listFitsIndex k)=true:=by
  rw[fitsIndex_both h1 h2];exact ZJ
 have hlong:¬Builtin.List.listTooLong (its.toArray.size*k.toNat)=true:=by
  rw[PY hlen];exact ZJ
 have hnew:List.foldl (fun x1 x2=>x1++x2) #[] (List.replicate (if its.toArray.isEmpty=true then 0 else k.toNat) its.toArray)=(List.replicate k.toNat its).flatten.toArray:=by
  have f0:∀m:Nat,List.foldl (fun x1 x2=>x1++x2) #[] (List.replicate m its.toArray)=(List.replicate m its).flatten.toArray:=fun m=>by
   have:=Bb its m []
   rw[List.nil_append]at this;exact this
  rw[f0];cases its with
  |nil=>simp
  |cons a r'=>rw[ZG (by simp)]
 refine wpAny_binaryOp_repeat_ref (T:="list") (U:="int") (by decide) ⟨_,e,rfl⟩ (fun s'=>typeIs_int s' k t) noFill_list_mul F.fills_int_mul F.slot_int_rmul repeat_list F.slot_int_index.lookup
  (call_meets F.slot_int_rmul (typeIs_int s k t) F.entry_int_rmul (F.args_int_rmul_2 _ _) (int___rmul___int_list k t l its.toArray n)
   ⟨e,rfl,⟨_,e,rfl⟩,call_meets F.slot_list_mul ⟨_,e,rfl⟩ F.entry_list_mul (F.args_list_mul_2 _ _) (AutoListH.list___mul___list_int_3 l its.toArray n k t hfit hcap hlong) ⟨e,?_⟩⟩)
 rw[hnew];exact⟨.ref _,_,I.lnew (t':=s.toks) (r.rep k.toNat) (by rw[Dn,Nat.mul_comm];exact hz),rfl,q _ I.fresh⟩
end
end L2
namespace Att
open PySem PySem.W PySem.Calls PyProof.Rows
def Ao{P:Params}{h:Heap}:∀(ns:List Int) (vs:List Value),WellAll P h vs (ns.map WData.int)->IntsAre vs ns:=by
 intro ns
 induction ns with
 |nil=>
  intro vs w;rw[Qz]at w;cases w
  exact .nil
 |cons n ns ih=>
  intro vs w;rw[ZO]at w;cases w with
  |cons a b=>
   cases a
   exact .cons _ _ (ih _ b)
def Dm{l:OpenLaw}{n:Nat}(hn:l.most=some n){P:Params}{h:Heap}{args:List WData}{vals:List Value}(hpre:l.row.toRowW.claim.pre args=true)(hwl:WellAll P h vals args) :
  ∃a vs ns,vals=[Value.ref a]/\args=[WData.list (ns.map WData.int)]/\h.get? a=some {cls:=.type "list",data:=.seq vs.toArray}/\IntsAre vs ns/\ns.length<=n:=by
 have hsh:WShape.hasAll [] args [.list .int]=true:=(pre_splitW hpre).1;have hc:l.pre.holds [] {args:=args}=true:=(pre_splitW hpre).2;obtain⟨d,r,rfl,h1,h2⟩:=hasAllW_cons hsh;obtain rfl:=hasAllW_nil h2;obtain⟨xs,rfl,h3⟩:=hasW_list h1;obtain⟨ns,rfl⟩:=items_int h3
 have hlen:ns.length<=n:=by
  unfold OpenLaw.pre at hc
  have h4:(WTm.not (.lt (.lit (.int (n:Int))) (.len (.arg 0)))).holds [] {args:=[.list (ns.map .int)]}=true:=by
   have h4:=(holds_andW hc).1;rw[hn]at h4;exact h4
  have h5:=condW_of h4 (w_not (w_lt w_lit (w_len_list (w_arg rfl))));rw[Z6]at h5;refine Nat.le_of_not_lt fun q=>?_;have q':(n:Int)<((ns.length:Nat):Int):=by omega
  first
   |(rw[ZC q']at h5;exact absurd h5 (by decide))
   |(simp at h5;omega)
 cases hwl with
 |cons w1 w2=>
  cases w2
  cases w1 with
  |list ho hall=>exact⟨_,_,ns,rfl,rfl,ho,Ao ns _ hall,hlen⟩
def EB(l:OpenLaw)(args:List WData):l.row.toRowW.claim.post args (.bool true) args=true:=
 postW_of (r:=l.row.toRowW) (X:=(true==true))
  (show WShape.has [] (.bool true) .bool=true by first|rfl|decide|simp[WShape.has,WShape.arms,WShape.armsAll])
  (show(WTm.eq .res (.lit (.bool true))).value [] {args:=args,res:=some (.bool true),after:=args}=some (.bool (true==true))from w_eq_bool (w_res rfl) w_lit) rfl
def EJ{l:OpenLaw}{n:Nat}{q:Program}{loose:List Str}{XP:(Str->Option Value)->Heap->Prop}{YP:World->Heap->Prop}{d:DefRec}(hn:l.most=some n)(hdf:d.params.defaults=[])
  (call:∀(w:World) (s₀ s₁:Shared) (mg mb:Str->Option Value) (fa:Addr) (o:Obj) (pm cd doc:Value) (a:Addr) (vs:List Value) (ns:List Int),
   Ground q loose [] XP w s₀ mg mb s₁.heap->YP w s₁.heap->
   s₁.heap.get? fa=some o->o.data=.func (docDef d.name d.params d.body d.scope pm cd doc)->s₁.heap.CodeRec cd d.name->mg d.name=some (.ref fa)->
   s₁.heap.get? a=some {cls:=.type "list",data:=.seq vs.toArray}->IntsAre vs ns->ns.length<=n->s₁.gens=#[]->
   codeAny (model l.prog w) callerA (.call (.ref fa) ⟨[.ref a],[]⟩) (fun r s'=>r=.ok (.ret (.bool true))/\OldK s₁.heap s'.heap/\s'.os=s₁.os/\AllBare s'.gens) s₁) :
  WalkO q loose XP YP l.row.toRowW d [] (fun f vs=>PySem.call f vs):=by
 intro w s₀ s₁ mg mb G Y fa o pm cd doc dV kV ho hd hcd hD hmg hg args vals as hpre hlay hrd hwl hlo;obtain rfl:dV=.none:=Dflts.none hD hdf;obtain rfl:kV=.none:=Dflts.noKw hD;obtain⟨a,vs,ns,rfl,rfl,hobj,hints,hlen⟩:=Dm hn hpre hwl;refine enter_call (WB (call w s₀ s₁ mg mb fa o pm cd doc a vs ns G Y ho (fd_plain hd) hcd hmg hobj hints hlen hg) fun r s' hq=>?_);obtain⟨rfl,h2,h3,h4⟩:=hq;exact⟨.inl ⟨.bool true,.bool true,[],rfl,fun _=>rfl,.bool true,EB l _,fun _=>⟨List.Pairwise.nil,fun _ hm=>(nomatch hm)⟩⟩,h2,h3,h4⟩
end Att
namespace L2
open PySem PySem.Spec PyProof.Rows
def Xi:∀{vs:List Value}{ns:List Int},IntsAre vs ns->Vals (ns.map V.int) vs
 |_,_,.nil=>.nil
 |_,_,.cons n t h=>.cons ⟨t,rfl⟩ (Xi h)
def Only(H:Hp):Prop:=∀b,H b=none\/∃o xs,H b=some (.frz o (.lst xs))
def Dr{P:Program}{w:World}{K:Za}{mg mb:Str->Option Value}{CX:CXT}{k:Nat}{fa a:Addr}{fd:FuncData}{x:Str}{sp:Sp}{s₁:Shared}{vs:List Value}{ns:List Int}(KX:K.In s₁.heap)(hns:s₁.heap.Ns mainGlobals mg)(hb:s₁.heap.Ns builtinsNs mb)(hbb:∀x:Str,x≠"__name__"->mb x=bootBuiltins x)(hlim:s₁.heap.NoLimit)(hg:s₁.gens=#[])(ha:s₁.heap.get? a=some {cls:=.type "list",data:=.seq vs.toArray})(hi:IntsAre vs ns)(hl:ns.length<=sizeLine)(hr:Room k callerA)(F:∀base:Heap,K.In base->base.Ns mainGlobals mg->FnOk P w K mg base CX k fa fd [x] sp)(hbind:∀(s:Shared) (u:Value),BindsTo s fd ⟨[u],[]⟩ [(x,u)])(hsp:∀H:Hp,Only H->SqL K H a (ns.map V.int)->sp [.ref a] H (fun v _=>v=.bl true) fun _ _ _=>False)(hCX:∀H e s',CX [] H s₁ (fun _ _ _=>False) e s'->False) :
  codeAny (model P w) callerA (.call (.ref fa) ⟨[.ref a],[]⟩) (fun r s'=>r=.ok (.ret (.bool true))/\OldK s₁.heap s'.heap/\s'.os=s₁.os/\AllBare s'.gens) s₁:=by
 have rv:=Xi hi;have lenV:=hi.length
 have core:∀H:Hp,Only H->SqL K H a (ns.map V.int)->HOk P w H s₁.heap->(∀b,H b≠none->b=a)->(H a≠none->K.lookup a=none)->
   codeAny (model P w) callerA (.call (.ref fa) ⟨[.ref a],[]⟩) (fun r s'=>r=.ok (.ret (.bool true))/\OldK s₁.heap s'.heap/\s'.os=s₁.os/\AllBare s'.gens) s₁:=by
  intro H hO hS hok hA hK;have base_of:∀{b:Addr} {o:Obj},s₁.heap.get? b=some o->H b=none->(hidT s₁.heap H).get? b=some o:=fun e n=>DT e n
  have noA:∀{b:Addr} {o:Obj} {es:Array DictEntry} {ep:Nat},s₁.heap.get? b=some o->o.data=.dict es ep->H b=none:=fun {b o es ep} e d=>by
   cases q:H b with
   |none=>rfl
   |some u=>
    have e':b=a:=hA b (by rw[q];simp);subst e';rw[ha]at e;cases e;have d':Data.seq vs.toArray _=Data.dict es ep:=d;cases d'
  have nsK:∀{b:Addr} {m:Str->Option Value},s₁.heap.Ns b m->(hidT s₁.heap H).Ns b m:=fun {b m} ⟨o,es,ep,e,d,r⟩=>⟨o,es,ep,base_of e (noA e d),d,r⟩
  have hKb:K.In (hidT s₁.heap H):=fun b o e=>base_of (KX b o e) (by
   cases q:H b with
   |none=>rfl
   |some u=>
    have e':b=a:=hA b (by rw[q];simp);subst e';rw[hK (by rw[q];simp)]at e;cases e)
  have hM:Mod K mg (hidT s₁.heap H):=⟨hKb,nsK hns,⟨mb,nsK hb,hbb⟩,let ⟨mc,h1,h2⟩:=hlim;⟨mc,nsK h1,h2⟩⟩;have e0:Env0 P w K mg (hidT s₁.heap H) callerA [] s₁ H:=⟨rfl,hM,fun b o e=>EM e,Qh (Ay _ _),trivial,fun b hb=>absurd (show b∈([]:List Addr)from hb) (by simp),hok,.of_eq hg⟩
  refine WB ((F _ hKb (nsK hns)).run callerA [] s₁ H ⟨[.ref a],[]⟩ [.ref a] [.ref a] _ _ hr e0 (hbind s₁ (.ref a)) (.cons rfl .nil) (hsp H hO hS)) fun r s' h=>?_;cases r with
  |error e=>exact(hCX H e s' h).elim
  |ok fl=>
   cases fl with
   |next=>exact False.elim h
   |brk=>exact False.elim h
   |cont=>exact False.elim h
   |ret u=>
    obtain⟨v,H',os,bare,un,hok',r',q⟩:=h;have q':v=.bl true:=q;subst q';obtain rfl:u=Value.bool true:=r';refine⟨rfl,OldK.of_keep fun b o e=>?_,os,bare⟩;cases q:H b with
    |none=>exact un.keep b o e q (by intro z;exact absurd (show b∈([]:List Addr)from z) (by simp)) (by simp)
    |some u=>
     rcases hO b with z|⟨ob,xs,z⟩
     ·rw[q]at z;cases z
     ·have z2:=un.frzs b ob _ z;obtain⟨e1,_⟩:=hok b _ z;obtain⟨e2,_⟩:=hok' b _ z2;rw[e]at e1;cases e1;exact e2
 cases hk:K.lookup a with
 |some o=>
  have e:=KX a o hk;rw[ha]at e;cases e
  refine core (fun _=>none) (fun _=>.inl rfl) (.inr ⟨_,vs.toArray,_,hk,rfl,rfl,rfl,by rw[ZI,lenV];exact hl,by simpa using rv⟩) (fun b u z=>by have z':(none:Option HO)=some u:=z;cases z') (fun b z=>absurd rfl z) fun z=>absurd rfl z
 |none=>
  refine core (fun b=>if b=a then some (.frz {cls:=.type "list",data:=.seq vs.toArray} (.lst (ns.map V.int)))else none) (fun b=>?_) (.inl (.inr ⟨{cls:=.type "list",data:=.seq vs.toArray},ZH rfl⟩)) (fun b u z=>?_) (fun b z=>?_) fun _=>hk
  ·by_cases hb:b=a
   ·exact .inr ⟨_,_,ZH hb⟩
   ·exact .inl (ZG hb)
  ·by_cases hb:b=a
   ·have z':=(ZH hb).symm.trans z;cases z'
    subst hb;exact⟨ha,by rw[Z6];exact hl,vs,_,rv,ha⟩
   ·have z':=(ZG hb).symm.trans z;cases z'
  ·by_cases hb:b=a
   ·exact hb
   ·exact absurd (ZG hb) z
def Dx{l:PySem.W.OpenLaw}{n k:Nat}{q:Program}{loose:List Str}{XP:(Str->Option Value)->Heap->Prop}{YP:World->Heap->Prop}{d:DefRec}{K:Params->Za}{CX:World->CXT}{sp:World->Sp}{x:Str}(hn:l.most=some n)(hn2:n<=sizeLine)(hdf:d.params.defaults=[])(hr:Room k callerA)(hY:∀(w:World) (h:Heap),YP w h->(K w.params).In h)
  (F:∀(w:World) (mg:Str->Option Value) (fa:Addr) (h:Heap),(K w.params).In h->h.Ns mainGlobals mg->mg d.name=some (.ref fa)->
   ∃fd:FuncData,(∀(s:Shared) (u:Value),BindsTo s fd ⟨[u],[]⟩ [(x,u)])/\
    ∀base:Heap,(K w.params).In base->base.Ns mainGlobals mg->FnOk l.prog w (K w.params) mg base (CX w) k fa fd [x] (sp w))
  (hsp:∀(w:World) (H:Hp) (a:Addr) (ns:List Int),ns.length<=n->Only H->SqL (K w.params) H a (ns.map V.int)->sp w [.ref a] H (fun v _=>v=.bl true) fun _ _ _=>False)
  (hCX:∀(w:World) (H:Hp) (s:Shared) (e:Value) (s':Shared),CX w [] H s (fun _ _ _=>False) e s'->False) :
  PySem.W.WalkO q loose XP YP l.row.toRowW d [] (fun f vs=>PySem.call f vs):=by
 refine Att.EJ hn hdf fun w s₀ s₁ mg mb fa o pm cd doc a vs ns G Y ho hd hcd hmg hobj hints hlen hg=>?_;have KX:=hY w _ Y;obtain⟨fd,hb,hF⟩:=F w mg fa _ KX G.T.g hmg;exact Dr KX G.T.g G.T.b G.T.builtins G.T.nolimit hg hobj hints (ZW hlen hn2) hr hF hb (fun H hO hS=>hsp w H a ns hlen hO hS) fun H e s'=>hCX w H s₁ e s'
def EL{l:PySem.W.OpenLaw}{n k:Nat}{q:Program}{loose:List Str}{XP:(Str->Option Value)->Heap->Prop}{YP:World->Heap->Prop}{d:DefRec}{K:Params->Za}{CX:CXT}{sp:Za->Sp}{x:Str}(hn:l.most=some n)(hn2:n<=sizeLine)(hdf:d.params.defaults=[])(hr:Room k callerA)(hY:∀(w:World) (h:Heap),YP w h->(K w.params).In h)
  (F:∀(w:World) (mg:Str->Option Value) (fa:Addr) (h:Heap),(K w.params).In h->h.Ns mainGlobals mg->mg d.name=some (.ref fa)->
   ∃fd:FuncData,(∀(s:Shared) (u:Value),BindsTo s fd ⟨[u],[]⟩ [(x,u)])/\
    ∀base:Heap,(K w.params).In base->base.Ns mainGlobals mg->FnOk l.prog w (K w.params) mg base CX k fa fd [x] (sp (K w.params)))
  (hsp:∀(K:Za) (H:Hp) (a:Addr) (ns:List Int),ns.length<=n->Only H->SqL K H a (ns.map V.int)->sp K [.ref a] H (fun v _=>v=.bl true) fun _ _ _=>False)
  (hCX:∀(H:Hp) (s:Shared) (e:Value) (s':Shared),CX [] H s (fun _ _ _=>False) e s'->False) :
  PySem.W.WalkO q loose XP YP l.row.toRowW d [] (fun f vs=>PySem.call f vs):=
 Dx (K:=K) (CX:=fun _=>CX) (sp:=fun w=>sp (K w.params)) hn hn2 hdf hr hY F (fun w H a ns h1 h2 h3=>hsp (K w.params) H a ns h1 h2 h3) fun _ H s e s'=>hCX H s e s'
def Jr(s:Stmt):Arguments:=match s with
 | .FunctionDef _ a _ _ _ _ _ _ _ _=>a
 |_=>{posonlyargs:=[],args:=[],vararg:=none,kwonlyargs:=[],kw_defaults:=[],kwarg:=none,defaults:=[]}
def VP(s:Stmt):List Stmt:=match s with
 | .FunctionDef _ _ b _ _ _ _ _ _ _=>b
 |_=>[]
def QO(s:Stmt):Scope:=match s with
 | .FunctionDef _ _ _ _ _ _ sc _ _ _=>sc
 |_=>{kind:=.function,names:=[],isGenerator:=false,isCoroutine:=false}
abbrev CX0:CXT:=fun _ _ _ _ _ _=>False
abbrev E0:XK:=fun _ _ _=>False
def VG{X:Cx}:UY CX0 X E0:=fun _ _ _ _ _ _ _ h=>h.elim
structure Fun (K:Za) (x qual:Str) (st:Stmt) (f:Addr) (fd:FuncData):Prop where
 ex:∃(oc:Value) (od:Option Addr) (kV doc pm:Value) (an:Option Addr) (cdv ct:Value) (osl:Array (Option Value)),
  fd=PySem.W.fnOf x qual (Jr st) (VP st) (QO st) .none kV doc pm an cdv ct/\K.lookup f=some ⟨oc,od,.func fd,osl⟩/\PySem.W.codeIn K cdv qual=true
 kp:PySem.W.keepIn K (.ref f)=true
section
variable {P:Program}{w:World}{K:Za}{mg:Str->Option Value}{base:Heap}
def Fun.ok {x qual:Str}{st:Stmt}{f:Addr}{fd:FuncData}{N ps:List Str}{k:Nat}{sp:Sp} (F:Fun K x qual st f fd) (S:FnScope N ps (QO st)) (len:∀vs H Q E,sp vs H Q E->vs.length=ps.length)
  (hbody:∀(cdv:Value) (A:Around) (outer:List Env) (s:Shared) (H:Hp) (vs:List V) (Q:VK) (E:XK),Room k (A.deeper (envOfC qual (QO st) s.heap.objs.size f cdv))->sp vs H Q E->
   ∃t,PSs (cxOf CX0 P w K mg base N qual (QO st) f cdv A outer s H E).nox (VP st) t/\t {nx:=fun _ H'=>Q .non H',rt:=Q} (start N vs) H):FnOk P w K mg base CX0 (k+1) f fd ps sp:=by
 obtain⟨oc,od,kV,doc,pm,an,cdv,ct,osl,rfl,lk,hcd⟩:=F.ex;refine EF lk hcd S len fun A outer s H vs Q E hr hsp=>?_;obtain⟨t,h,q⟩:=hbody cdv A outer s H vs Q E hr hsp;exact⟨t,h.nox,q⟩
def Fun.binds {x qual:Str}{st:Stmt}{f:Addr}{fd:FuncData}{ps:List Str} (F:Fun K x qual st f fd)
  (h:∀(kV doc pm:Value) (an:Option Addr) (cdv ct:Value) (us:List Value),us.length=ps.length->bindArgs (PySem.W.fnOf x qual (Jr st) (VP st) (QO st) .none kV doc pm an cdv ct) ⟨us,[]⟩=pure (ps.zip us)):Binds K fd ps []:=by
 obtain⟨oc,od,kV,doc,pm,an,cdv,ct,osl,rfl,lk,hcd⟩:=F.ex;exact .all (h kV doc pm an cdv ct)
def N3{x qual:Str}{st:Stmt}{f:Addr}{oc:Value}{od an:Option Addr}{osl:Array (Option Value)}{kV doc pm cdv ct:Value}(l:K.lookup f=some ⟨oc,od,.func (PySem.W.fnOf x qual (Jr st) (VP st) (QO st) .none kV doc pm an cdv ct),osl⟩)(c:PySem.W.codeIn K cdv qual=true)(k:PySem.W.keepIn K (.ref f)=true):Fun K x qual st f (PySem.W.fnOf x qual (Jr st) (VP st) (QO st) .none kV doc pm an cdv ct):=⟨⟨oc,od,kV,doc,pm,an,cdv,ct,osl,rfl,l,c⟩,k⟩
end
def V8{A:Around}{k:Nat}(hr:Room k A):A.units+1<cLine:=YS (Nat.add_le_add_left (by decide:1<=64) _) hr.units
def Kr{n:Nat}(h:n<=1000):n<sizeLine:=YS h (by decide)
section
variable {X:Cx}
def pv(i:Nat){x:Str}{pos:Pos}(hN:X.N[i]?=some x:=by rfl)(hv:Vis X.env.scope x:=by first|exact Or.inl rfl|exact Or.inr (Or.inl rfl)|exact Or.inr (Or.inr rfl))(hd:(x==("__debug__" : Str))=false:=by decide)(hcd:(x==("__classdict__" : Str))=false:=by decide):PE X (.Name x pos) (tVar i):=Fy hN hv hd hcd
end
def iteF{A B:Prop}(h:B):if false=true then A else B:=by
 rw[ZG ZJ];exact h
def iteT{A B:Prop}(h:A):if true=true then A else B:=by
 rw[ZH rfl];exact h
def ite2{c A B:Prop}[Decidable c](h1:c->A)(h2:¬c->B):if c then A else B:=by
 by_cases h:c
 ·rw[ZH h];exact h1 h
 ·rw[ZG h];exact h2 h
def UX{c A B:Prop}[Decidable c](hc:c)(h:B):if (!decide c)=true then A else B:=by
 rw[ZC hc];exact iteF h
def Same(H H':Hp):Prop:=∀b o,H b=some o->H' b=some o
def Same.refl (H:Hp):Same H H:=fun _ _ h=>h
def Same.trans {H H1 H2:Hp} (a:Same H H1) (b:Same H1 H2):Same H H2:=fun c o h=>b c o (a c o h)
def Same.free {H H':Hp} (e:Same H H') {l:Addr} (h:H' l=Option.none):H l=Option.none:=by
 cases q:H l with
 |none=>rfl
 |some o=>
  rw[e l o q]at h;cases h
def Same.seq {K:Za}{H H':Hp}{a:Addr}{xs:List V} (e:Same H H') (h:SqL K H a xs):SqL K H' a xs:=by
 rcases h with(h|⟨o,h⟩)|h
 ·exact .inl (.inl (e _ _ h))
 ·exact .inl (.inr ⟨o,e _ _ h⟩)
 ·exact .inr h
end L2
set_option maxHeartbeats 4000000
namespace L2
open PySem PySem.Spec PyProof.Rows
section
variable {κ:Type} [DecidableEq κ]
def valV(kvs:List (κ×V))(k:κ):Option V:=(kvs.find? fun kv=>decide (kv.1=k)).map (·.2)
def putK(kvs:List (κ×V))(k:κ)(v:V):List (κ×V):=
 if (kvs.any fun kv=>decide (kv.1=k))=true then kvs.map (fun kv=>if kv.1=k then(kv.1,v)else kv)else kvs++[(k,v)]
def VQ{p:κ×V}{r:List (κ×V)}{k:κ}(e:p.1=k):valV (p::r) k=some p.2:=by simp[valV,Wm,e]
def VN{p:κ×V}{r:List (κ×V)}{k:κ}(e:¬p.1=k):valV (p::r) k=valV r k:=by simp[valV,Wm,e]
def Uv(k:κ):∀kvs:List (κ×V),(kvs.any fun kv=>decide (kv.1=k))=(valV kvs k).isSome
 |[]=>rfl
 |p::r=>by
  rw[Wk];by_cases e:p.1=k
  ·simp only[VQ e,ZC e,Bool.true_or,Option.isSome_some]
  ·rw[VN e,ZM e,Bool.false_or];exact Uv k r
def Ss(k j:κ)(y:V):∀kvs:List (κ×V),valV (kvs.map fun kv=>if kv.1=k then(kv.1,y)else kv) j=(valV kvs j).map fun x=>if j=k then y else x
 |[]=>rfl
 |p::r=>by
  have ih:=Ss k j y r;rw[ZO];by_cases h:p.1=k
  ·rw[ZH h];by_cases e:p.1=j
   ·rw[VQ (p:=(p.1,y)) e,VQ e,Qi,ZH (e.symm.trans h)]
   ·rw[VN (p:=(p.1,y)) e,VN e,ih]
  ·rw[ZG h];by_cases e:p.1=j
   ·rw[VQ (p:=p) e,VQ e,Qi,ZG (fun z=>h (e.trans z))]
   ·rw[VN (p:=p) e,VN e,ih]
def NO(k j:κ)(y:V):∀kvs:List (κ×V),valV kvs k=none->valV (kvs++[(k,y)]) j=if j=k then some y else valV kvs j
 |[],_=>by
  by_cases e:k=j
  ·rw[ZH e.symm];exact VQ (p:=(k,y)) e
  ·rw[ZG (fun z=>e z.symm)];exact VN (p:=(k,y)) e
 |p::r,hn=>by
  rw[YD];have hk:¬p.1=k:=fun z=>by rw[VQ z]at hn;cases hn
  rw[VN hk]at hn;have ih:=NO k j y r hn;by_cases e:p.1=j
  ·rw[VQ e,VQ e,ZG (fun z=>hk (e.trans z))]
  ·rw[VN e,VN e,ih]
def UA(kvs:List (κ×V))(k j:κ)(y:V):valV (putK kvs k y) j=if j=k then some y else valV kvs j:=by
 unfold putK;by_cases a:(kvs.any fun kv=>decide (kv.1=k))=true
 ·rw[ZH a,Ss];rw[Uv]at a;by_cases e:j=k
  ·obtain⟨x,hx⟩:=Option.isSome_iff_exists.mp a;rw[ZH e,e,hx,Qi,ZH rfl]
  ·rw[ZG e];cases valV kvs j with
   |none=>rfl
   |some x=>rw[Qi,ZG e]
 ·rw[ZG a];refine NO k j y kvs ?_;rw[Uv]at a;cases q:valV kvs k with
  |none=>rfl
  |some x=>rw[q]at a;exact(a rfl).elim
def UD(kvs:List (κ×V))(k:κ)(v:V):(putK kvs k v).length<=kvs.length+1:=by
 unfold putK;split
 ·rw[Z6];omega
 ·rw[ZX,Yt,List.length_nil];omega
def B5{kvs:List (κ×V)}{k:κ}(v:V)(h:valV kvs k=none):putK kvs k v=kvs++[(k,v)]:=by
 unfold putK;rw[Uv,h];exact ZG (by decide)
def RelO.isSome_eq {o:Option V}{u:Option Value} (r:RelO o u):o.isSome=u.isSome:=by
 cases o with
 |none=>cases u with
  |none=>rfl
  |some _=>exact(show False from r).elim
 |some _=>cases u with
  |none=>exact(show False from r).elim
  |some _=>rfl
def KV.val {kvs:List (κ×V)}{vs:List (κ×Value)} (r:KV kvs vs) (k:κ):RelO (valV kvs k) (valueAt vs k):=by
 unfold KV at r
 induction r with
 |nil=>exact True.intro
 | @cons p q ps qs h t ih=>
  obtain⟨h1,h2⟩:=h;by_cases e:p.1=k
  ·have e':q.1=k:=h1.symm.trans e;have b:valueAt (q::qs) k=some q.2:=by simp[valueAt,Wm,e']
   rw[VQ e,b];exact h2
  ·have e':¬q.1=k:=fun z=>e (h1.trans z);have b:valueAt (q::qs) k=valueAt qs k:=by simp[valueAt,Wm,e']
   rw[VN e,b];exact ih
def KV.any {kvs:List (κ×V)}{vs:List (κ×Value)} (r:KV kvs vs) (k:κ):(kvs.any fun kv=>decide (kv.1=k))=vs.any fun kv=>decide (kv.1=k):=by
 unfold KV at r
 induction r with
 |nil=>rfl
 |cons h t ih=>rw[Wk,Wk,ih,h.1]
def KV.repl {kvs:List (κ×V)}{vs:List (κ×Value)} (r:KV kvs vs) (k:κ) {y:V}{u:Value} (ry:RelV y u) :
  KV (kvs.map fun kv=>if kv.1=k then(kv.1,y)else kv) (vs.map fun kv=>if kv.1=k then(kv.1,u)else kv):=by
 unfold KV at r ⊢
 induction r with
 |nil=>exact .nil
 | @cons p q ps qs h t ih=>
  rw[ZO,ZO];refine .cons ?_ ih;obtain⟨h1,h2⟩:=h;by_cases e:p.1=k
  ·rw[ZH e,ZH (h1.symm.trans e)];exact⟨h1,ry⟩
  ·rw[ZG e,ZG (fun z=>e (h1.trans z))];exact⟨h1,h2⟩
def KV.put {kvs:List (κ×V)}{vs:List (κ×Value)} (r:KV kvs vs) (k:κ) {y:V}{u:Value} (ry:RelV y u):KV (putK kvs k y) (stored vs k u):=by
 unfold putK stored;rw[r.any k];by_cases e:(vs.any fun kv=>decide (kv.1=k))=true
 ·rw[ZH e,ZH e];exact r.repl k ry
 ·rw[ZG e,ZG e];exact Paired.snoc r ⟨rfl,ry⟩
def KV.length {kvs:List (κ×V)}{vs:List (κ×Value)} (r:KV kvs vs):kvs.length=vs.length:=Paired.length r
end
def UQ{P:Program}{w:World}{k:Key}{u:Value}(r:RelV (kV k) u):(V6 P w).is k u=true:=by
 cases k with
 |inl i=>obtain⟨t,e⟩:=(show ∃t,u=Value.int i t from r);subst e;exact Ef P w i t
 |inr x=>obtain⟨t,e⟩:=(show ∃t,u=Value.str x t from r);subst e;exact BN P w x t
def NX{P:Program}{w:World}:∀{ks:List Key}{us:List Value},Vals (ks.map kV) us->ItemsAre (V6 P w) ks us
 |[],_,r=>by rw[Qz]at r;cases r;exact .nil
 |k::ks,_,r=>by
  rw[ZO]at r;cases r with
  |cons h t=>exact .cons (UQ h) (NX t)
abbrev KT(H:Hp):List (List Key×V)->List (List Key×Addr×Value)->Prop:=Paired fun p q=>p.1=q.1/\H q.2.1=some (.tup (p.1.map kV))/\RelV p.2 q.2.2
def KT.val {H:Hp}{kvs:List (List Key×V)}{xs:List (List Key×Addr×Value)} (r:KT H kvs xs) (k:List Key):RelO (valV kvs k) ((atKey xs k).map (·.2)):=by
 induction r with
 |nil=>exact True.intro
 | @cons p q ps qs h t ih=>
  obtain⟨h1,_,h2⟩:=h;by_cases e:p.1=k
  ·have e':q.1=k:=h1.symm.trans e;have b:atKey (q::qs) k=some q.2:=by simp[atKey,Wm,e']
   rw[VQ e,b];exact h2
  ·have e':¬q.1=k:=fun z=>e (h1.trans z);have b:atKey (q::qs) k=atKey qs k:=by simp[atKey,Wm,e']
   rw[VN e,b];exact ih
def KT.repl {H:Hp}{kvs:List (List Key×V)}{xs:List (List Key×Addr×Value)} (r:KT H kvs xs) (k:List Key) {y:V}{u:Value} (ry:RelV y u) :
  KT H (kvs.map fun kv=>if kv.1=k then(kv.1,y)else kv) (xs.map (putAt k u)):=by
 induction r with
 |nil=>exact .nil
 | @cons p q ps qs h t ih=>
  rw[ZO,ZO];refine .cons ?_ ih;obtain⟨h1,h2,h3⟩:=h;unfold putAt;by_cases e:p.1=k
  ·rw[ZH e,ZH (h1.symm.trans e)];exact⟨h1,h2,ry⟩
  ·rw[ZG e,ZG (fun z=>e (h1.trans z))];exact⟨h1,h2,h3⟩
def KT.put {H:Hp}{kvs:List (List Key×V)}{xs:List (List Key×Addr×Value)} (r:KT H kvs xs) (k:List Key) {b:Addr}{y:V}{u:Value} (hb:H b=some (.tup (k.map kV))) (ry:RelV y u) :
  KT H (putK kvs k y) (storedH xs k b u):=by
 have e:(kvs.any fun kv=>decide (kv.1=k))=(atKey xs k).isSome:=by
  rw[Uv,(r.val k).isSome_eq,Option.isSome_map]
 unfold putK storedH;rw[e];by_cases q:(atKey xs k).isSome=true
 ·rw[ZH q,ZH q];exact r.repl k ry
 ·rw[ZG q,ZG q];exact Paired.snoc r ⟨rfl,hb,ry⟩
def KT.keeps {H H':Hp}{kvs:List (List Key×V)}{xs:List (List Key×Addr×Value)} (r:KT H kvs xs) (ht:∀b ys,H b=some (.tup ys)->H' b=some (.tup ys)):KT H' kvs xs:=
 Paired.mapP r fun _ _ z=>⟨z.1,ht _ _ z.2.1,z.2.2⟩
section
variable {P:Program}{w:World}{H:Hp}{h:Heap}{a:Addr}
def Sy{u:HO}(ok:HOk P w H h)(e:Rd H a u):ObjOk P w H h a u:=e.ok ok
def UI{kvs:List (Key×V)}(ok:HOk P w H h)(e:Rd H a (.dK kvs)):kvs.length<=sizeLine/\(a==sysModules)=false/\∃vs,KV kvs vs/\h.DictOf (V6 P w) a vs:=
 show ObjOk P w H h a (.dK kvs)from Sy ok e
def Dd{kvs:List (Key×V)}(ok:HOk P w H h)(e:H a=some (.dK kvs)):kvs.length<=sizeLine/\(a==sysModules)=false/\∃vs,KV kvs vs/\h.DictOf (V6 P w) a vs:=UI ok (.inl e)
def Up{ks:List Key}(ok:HOk P w H h)(e:H a=some (.tup (ks.map kV))):(tupleKind (V6 P w)).is h ks a:=by
 obtain⟨_,its,r,o,h1,h2,n,h3⟩:=(show ObjOk P w H h a (.tup (ks.map kV))from ok a _ e)
 exact⟨o,its.toArray,n,h1,h2,h3,by simpa using NX r⟩
def UO{kvs:List (List Key×V)}(ok:HOk P w H h)(e:Rd H a (.dT kvs)):kvs.length<=sizeLine/\(a==sysModules)=false/\
  ∃xs,KT H kvs xs/\h.DictOfH (tupleKind (V6 P w)) a xs:=by
 obtain⟨z,y,xs,r,o,es,ep,h1,h2,h3,h4,h5⟩:=(show ObjOk P w H h a (.dT kvs)from Sy ok e)
 refine⟨z,y,xs,r,o,es,ep,h1,h2,h3,h4,fun x hx=>?_,h5⟩
 have all:∀{l:List (List Key×V)} {m:List (List Key×Addr×Value)},KT H l m->∀x∈m,(tupleKind (V6 P w)).is h x.1 x.2.1:=by
  intro l m q
  induction q with
  |nil=>intro x hx;exact nomatch hx
  | @cons p q ps qs hq t ih=>
   intro x hx;rcases ZT.mp hx with e|hx
   ·subst e;exact Up ok (by rw[←hq.1];exact hq.2.1)
   ·exact ih x hx
 exact all r x hx
def UV{kvs:List (List Key×V)}(ok:HOk P w H h)(e:H a=some (.dT kvs)):kvs.length<=sizeLine/\(a==sysModules)=false/\
  ∃xs,KT H kvs xs/\h.DictOfH (tupleKind (V6 P w)) a xs:=UO ok (.inl e)
end
def DGet(H:Hp)(a:Addr)(y:V)(r:Option V):Prop:=
 (∃kvs k,Rd H a (.dK kvs)/\y=kV k/\r=valV kvs k)\/∃kvs k b,Rd H a (.dT kvs)/\y=.ref b/\H b=some (.tup (k.map kV))/\r=valV kvs k
def DPut(H:Hp)(a:Addr)(y v:V)(H':Hp):Prop:=
 (∃kvs k,H a=some (.dK kvs)/\y=kV k/\kvs.length<sizeLine/\H'=upd H a (.dK (putK kvs k v)))\/
 ∃kvs k b,H a=some (.dT kvs)/\y=.ref b/\H b=some (.tup (k.map kV))/\kvs.length<sizeLine/\H'=upd H a (.dT (putK kvs k v))
def DGet.k {H:Hp}{a:Addr}{kvs:List (Key×V)}{k:Key} (e:H a=some (.dK kvs)):DGet H a (kV k) (valV kvs k):=.inl ⟨kvs,k,.inl e,rfl,rfl⟩
def DGet.t {H:Hp}{a b:Addr}{kvs:List (List Key×V)}{k:List Key} (e:H a=some (.dT kvs)) (eb:H b=some (.tup (k.map kV))):DGet H a (.ref b) (valV kvs k):=.inr ⟨kvs,k,b,.inl e,rfl,eb,rfl⟩
def DPut.k {H:Hp}{a:Addr}{kvs:List (Key×V)}{k:Key}{v:V} (e:H a=some (.dK kvs)) (hl:kvs.length<sizeLine):DPut H a (kV k) v (upd H a (.dK (putK kvs k v))):=.inl ⟨kvs,k,e,rfl,hl,rfl⟩
def DPut.t {H:Hp}{a b:Addr}{kvs:List (List Key×V)}{k:List Key}{v:V} (e:H a=some (.dT kvs)) (eb:H b=some (.tup (k.map kV))) (hl:kvs.length<sizeLine) :
  DPut H a (.ref b) v (upd H a (.dT (putK kvs k v))):=.inr ⟨kvs,k,b,e,rfl,eb,hl,rfl⟩
section
variable {X:Cx}{pins:List (Addr×Obj)}{σ:St}{H:Hp}{s:Shared}{a:Addr}{y v:V}{u r:Value}{o:Option V}{A:Around}{E:Value->Shared->Prop}
def Inv.big (I:Inv X pins σ H s):sysModules<s.heap.objs.size:=by
 have h:mainGlobals<s.heap.objs.size:=(I.mod.glob.keeps I.bk).lt;exact WD (by decide) h
def FF{Q:Value->Shared->Prop}(hu:A.units+1<cLine)(I:Inv X pins σ H s)(g:DGet H a y (some v))(ry:RelV y u)(h:∀w' s',Inv X pins σ H s'->RelV v w'->Q w' s') :
  wpAny (model X.prog X.w) A (getItem (.ref a) u) Q E s:=by
 rcases g with⟨kvs,k,e,ey,l⟩|⟨kvs,k,b,e,ey,eb,l⟩
 ·subst ey;obtain⟨z,hd,vs,rel,dd⟩:=UI I.hok e;obtain⟨w',hw,rw'⟩:=RelO.some_of (v:=v) (o:=valueAt vs k) (by rw[l];exact rel.val k);exact wpAny_getItem_of (UQ ry) dd.mapOf hw (h w' _ (I.tok _) rw')
 ·subst ey;cases (show u=Value.ref b from ry)
  obtain⟨z,hd,xs,rel,dd⟩:=UO I.hok e;obtain⟨w',hw,rw'⟩:=RelO.some_of (v:=v) (o:=(atKey xs k).map (·.2)) (by rw[l];exact rel.val k);obtain⟨p,hp,hp2⟩:=Option.map_eq_some_iff.mp hw;refine wpAny_getItem_heap (tupleKind_room_in1 hu) (Up I.hok eb) dd hp ?_;rw[hp2];exact h w' _ (I.tok _) rw'
def EH{Q:Value->Shared->Prop}(hu:A.units+1<cLine)(I:Inv X pins σ H s)(g:DGet H a y o)(ry:RelV y u)(h:∀s',Inv X pins σ H s'->Q (.bool (!o.isSome)) s') :
  wpAny (model X.prog X.w) A (compareOp .NotIn u (.ref a)) Q E s:=by
 rcases g with⟨kvs,k,e,ey,l⟩|⟨kvs,k,b,e,ey,eb,l⟩
 ·subst ey;obtain⟨z,hd,vs,rel,dd⟩:=UI I.hok e;refine wpAny_notIn_of (UQ ry) hd dd.mapOf ?_;rw[←(rel.val k).isSome_eq,←l];exact h _ (I.tok _)
 ·subst ey;cases (show u=Value.ref b from ry)
  obtain⟨z,hd,xs,rel,dd⟩:=UO I.hok e;refine wpAny_notIn_heap (tupleKind_room_in1 hu) (Up I.hok eb) hd dd ?_;have q:=(rel.val k).isSome_eq;rw[Option.isSome_map]at q;rw[←q,←l];exact h _ (I.tok _)
def Ki{h':Heap}{t':Nat}{ob:HO}(I:Inv X pins σ H s)(mu:Mut (H a))(hs:Heap.SameBut a s.heap h')(he:∃q,h'.get? a=some q)(new:ObjOk X.prog X.w (upd H a ob) h' a ob) :
  Inv X pins σ (upd H a ob) {s with heap:=h',toks:=t'}:=
 I.write (x:=a) (e:=a) mu (.inl rfl) (fun b q hb z=>(hs.2 b hb).trans z) he new
def DS{P:Program}{w:World}{H':Hp}{h':Heap}{kvs:List (Key×V)}{vs:List (Key×Value)}(z:kvs.length<=sizeLine)(hd:(a==sysModules)=false)(rel:KV kvs vs)(dd:h'.DictOf (V6 P w) a vs) :
  ObjOk P w H' h' a (.dK kvs):=⟨z,hd,vs,rel,dd⟩
def F6{H':Hp}{Q:Unit->Shared->Prop}(hu:A.units+1<cLine)(I:Inv X pins σ H s)(g:DPut H a y v H')(ry:RelV y u)(rv:RelV v r)(h:∀s',Inv X pins σ H' s'->Q () s') :
  wpAny (model X.prog X.w) A (setItem (.ref a) u r) Q E s:=by
 rcases g with⟨kvs,k,e,ey,l,eH⟩|⟨kvs,k,b,e,ey,eb,l,eH⟩
 ·subst ey eH;obtain⟨z,hd,vs,rel,dd⟩:=Dd I.hok e;have hz:vs.length<=sizeLine:=by rw[←rel.length];exact z
  have hl:(putK kvs k v).length<=sizeLine:=by have:=UD kvs k v;omega
  refine wpAny_setItem_pairs (hsz:=hz) (UQ ry) dd fun h' dd' hs=>h _ ?_;have he:∃q,h'.get? a=some q:=let ⟨q,_,_,hq,_⟩:=dd';⟨q,hq⟩;exact Ki I (by rw[e];exact True.intro) hs he (DS hl hd (rel.put k rv) dd')
 ·subst ey eH;cases (show u=Value.ref b from ry)
  obtain⟨z,hd,xs,rel,dd⟩:=UV I.hok e;have hz:xs.length<=sizeLine:=by rw[←Paired.length rel];exact z
  have hl:(putK kvs k v).length<=sizeLine:=by have:=UD kvs k v;omega
  refine wpAny_setItem_heap (hsz:=hz) (tupleKind_room_in1 hu) (Up I.hok eb) dd fun h' dd' hs=>h _ ?_;obtain⟨q,es,ep,hq,h2,h3,h4,_,h5⟩:=dd';refine Ki I (by rw[e];exact True.intro) hs ⟨q,hq⟩ ⟨hl,hd,_,(rel.put k eb rv).keeps fun c ys ec=>?_,q,es,ep,hq,h2,h3,h4,h5⟩;rw[QS (NA ec e (fun z=>nomatch z))];exact ec
end
def NoSl(i:Expr):Prop:=∀ov iv,subscripted i false ov iv=operate [ov,iv] (getItem ov iv)
def Ca{prog:Program}{w:World}{A:Around}{E:Value->Shared->Prop}{s:Shared}{env:Env}{value slice:Expr}{pos:Pos}{T id:String}{Q:Value->Shared->Prop}(hl:typeLookup (.type T) "__getitem__"=pure (some (.builtin id)))(hs:NoSl slice)(h:wpAny (model prog w) A (eval value env) (fun o s₁=>wpAny (model prog w) A (eval slice env) (fun i s₂=>s₂.TypeIs o T/\wpAny (model prog w) A (getItem o i) Q E s₂) E s₁) E s) :
  wpAny (model prog w) A (eval (.Subscript value slice pos) env) Q E s:=by
 refine Subscript_ (Y3 h (fun o s₁ h₁=>Y3 h₁ (fun i s₂ h₂=>?_) fun _ _ x=>x) fun _ _ x=>x);obtain⟨hT,h₂⟩:=h₂;unfold subscriptTail;refine Z4 ?_;rw[getitemInPython_of_ne hT.not_modules];refine Z4 (wpAny_specialOf hT hl ?_)
 have fin:wpAny (model prog w) A (subscripted slice false o i) (fun r s₃=>wpAny (model prog w) A (letTemporaryGo value o r >>= fun _=>pure r) Q E s₃) E s₂:=by
  rw[hs o i];exact wpAny_operating (Y3 h₂ (fun r s₃ h₃=>Z4 (wpAny_letTemporaryGo (Z8 h₃))) fun _ _ x=>x)
 first
  |exact Z8 (Z4 fin)
  |exact Z4 (Z8 (Z4 fin))
  |exact Z4 fin
def AH{X:Cx}{pins:List (Addr×Obj)}{σ:St}{H:Hp}{s:Shared}{a:Addr}{y:V}{o:Option V}(I:Inv X pins σ H s)(g:DGet H a y o):s.TypeIs (.ref a) "dict":=by
 rcases g with⟨kvs,k,e,_,_⟩|⟨kvs,k,b,e,_,_,_⟩
 ·obtain⟨_,_,vs,_,dd⟩:=UI I.hok e;exact dd.typeIs
 ·obtain⟨_,_,xs,_,dd⟩:=UO I.hok e;exact dd.typeIs
def NI(td ty:TE):TE:=fun σ H Q=>td σ H fun x H1=>ty σ H1 fun y H2=>∃a v,x=.ref a/\DGet H2 a y (some v)/\Q v H2
def NR(ty td:TE):TE:=fun σ H Q=>ty σ H fun y H1=>td σ H1 fun x H2=>∃a o,x=.ref a/\DGet H2 a y o/\Q (.bl (!o.isSome)) H2
def Pk(td ty tv:TE):TS:=fun D σ H=>tv σ H fun v H1=>td σ H1 fun x H2=>ty σ H2 fun y H3=>∃a H4,x=.ref a/\DPut H3 a y v H4/\D.nx σ H4
section
variable {X:Cx}{o i e value:Expr}{pos pos' tpos:Pos}{td ty tv:TE}
def Np(hu:X.A.units+1<cLine)(ho:PE X o td)(hi:PE X i ty)(hs:NoSl i):PE X (.Subscript o i pos) (NI td ty):=by
 intro pins s σ H Q I h;refine Ca PySem.F.slot_dict_getitem.lookup hs (thn (ho pins s σ H _ I h) fun u s1 ⟨x,H1,I1,rx,q1⟩=>thn (hi pins s1 σ H1 _ I1 q1) fun iv s2 ⟨y,H2,I2,ry,a,v,ex,g,q2⟩=>?_);subst ex;obtain rfl:u=Value.ref a:=rx;exact⟨AH I2 g,FF hu I2 g ry fun w' s3 I3 rw'=>⟨v,H2,I3,rw',q2⟩⟩
def Cw(hu:X.A.units+1<cLine)(hi:PE X i ty)(ho:PE X o td):PC X .NotIn i o (NR ty td):=by
 intro pins s σ H Q I h;refine thn (hi pins s σ H _ I h) fun iv s1 ⟨y,H1,I1,ry,q1⟩=>thn (ho pins s1 σ H1 _ I1 q1) fun u s2 ⟨x,H2,I2,rx,a,ov,ex,g,q2⟩=>?_;subst ex;obtain rfl:u=Value.ref a:=rx;exact EH hu I2 g ry fun s3 I3=>⟨.bl (!ov.isSome),H2,I3,rfl,q2⟩
def Kz(hu:X.A.units+1<cLine)(ho:PE X o td)(hi:PE X i ty)(hv:PE X value tv)(hs:swapsWith value (some (.Subscript o i pos')) pos.line X.env=pure false) :
  PS X (.Assign [.Subscript o i pos'] value pos) (Pk td ty tv):=by
 intro pins s σ H D I h;refine wpAny_Assign_Subscript (thn (hv pins s σ H _ I h) fun r s1 ⟨v,H1,I1,rv,q1⟩=>thn (ho pins s1 σ H1 _ I1 q1) fun u s2 ⟨x,H2,I2,rx,q2⟩=>thn (hi pins s2 σ H2 _ I2 q2) fun iv s3 ⟨y,H3,I3,ry,a,H4,ex,g,q3⟩=>?_) hs;subst ex;obtain rfl:u=Value.ref a:=rx;exact F6 hu I3 g ry rv fun s4 I4=>⟨σ,H4,I4,q3⟩
end
def AJ{P:Program}{w:World}{H:Hp}(h:Heap)(hb:sysModules<h.objs.size):ObjOk P w H (h.push {cls:=.type "dict",data:=.dict #[]}) h.objs.size (.dK []):=
 ⟨Y0 _,Qn.mpr (Ne.symm (Yf hb)),[],.nil,Heap.DictOf.new h⟩
def Nq{P:Program}{w:World}{H:Hp}(h:Heap)(hb:sysModules<h.objs.size):ObjOk P w H (h.push {cls:=.type "dict",data:=.dict #[]}) h.objs.size (.dT []):=
 ⟨Y0 _,Qn.mpr (Ne.symm (Yf hb)),[],.nil,_,#[],0,ZL _ rfl,⟨rfl,rfl,rfl⟩,rfl,rfl,Ww⟩
def T3:TE:=fun _ H Q=>∀p,H p=none->Q (.ref p) (upd H p (.dK []))
def P2:TE:=fun _ H Q=>∀p,H p=none->Q (.ref p) (upd H p (.dT []))
section
variable {X:Cx}{pos:Pos}
def Dy:PE X (.Dict [] [] pos) T3:=fun pins s σ H Q I h=>
 wpAny_Dict_empty ⟨.ref s.heap.objs.size,_,I.laid (a:=s.heap.objs.size) (o:=.dK []) (t':=s.toks) (fun _ _ q=>Z9 _ q) (ZF _) (AJ s.heap I.big),rfl,h _ (I.hok.fresh (ZF _))⟩
def Fj:PE X (.Dict [] [] pos) P2:=fun pins s σ H Q I h=>
 wpAny_Dict_empty ⟨.ref s.heap.objs.size,_,I.laid (a:=s.heap.objs.size) (o:=.dT []) (t':=s.toks) (fun _ _ q=>Z9 _ q) (ZF _) (Nq s.heap I.big),rfl,h _ (I.hok.fresh (ZF _))⟩
end
def P4:List (TE×TE)->St->Hp->(List (V×V)->Hp->Prop)->Prop
 |[],_,H,Q=>Q [] H
 |(tk,tv)::r,σ,H,Q=>tk σ H fun x H1=>tv σ H1 fun y H2=>P4 r σ H2 fun ps H3=>Q ((x,y)::ps) H3
abbrev VV:List (V×V)->List (Value×Value)->Prop:=Paired fun p q=>RelV p.1 q.1/\RelV p.2 q.2
def PPs(X:Cx)(pos:Pos)(keys:List (Option Expr))(values:List Expr)(trs:List (TE×TE)):Prop:=
 ∀(pins:List (Addr×Obj)) (s:Shared) (σ:St) (H:Hp) (Q:List (V×V)->Hp->Prop),Inv X pins σ H s->P4 trs σ H Q->
  wpAny (model X.prog X.w) X.A (evalPairs (pairTrees keys values X.env pos)) (fun vs s'=>∃ps H',Inv X pins σ H' s'/\VV ps vs/\Q ps H') X.xe s
def CK{X:Cx}{pos:Pos}:PPs X pos [] [] []:=fun pins s σ H Q I h=>pairTrees_nil_walk ⟨[],H,I,.nil,h⟩
def DB{X:Cx}{pos:Pos}{k v:Expr}{ks:List (Option Expr)}{vs:List Expr}{tk tv:TE}{trs:List (TE×TE)}(hk:PE X k tk)(hv:PE X v tv)(hr:PPs X pos ks vs trs) :
  PPs X pos (some k::ks) (v::vs) ((tk,tv)::trs):=fun pins s σ H Q I h=>
 pairTrees_cons_walk (thn (hk pins s σ H _ I h) fun u s1 ⟨x,H1,I1,rx,q1⟩=>thn (hv pins s1 σ H1 _ I1 q1) fun w2 s2 ⟨y,H2,I2,ry,q2⟩=>
  thn (hr pins s2 σ H2 _ I2 q2) fun ws s3 ⟨ps,H3,I3,rel,q3⟩=>⟨(x,y)::ps,H3,I3,.cons ⟨rx,ry⟩ rel,q3⟩)
end L2
set_option genInjectivity false
set_option genSizeOfSpec false
namespace Own
open PySem PySem.Spec PyProof.Rows L2
structure Def (K:Za) (mg:Str->Option Value) (x:Str) (st:Stmt) (ps:List Str):Prop where
 ex:∃f fd,Fun K x x st f fd/\mg x=some (.ref f)/\Binds K fd ps []
structure Callee (P:Program) (w:World) (K:Za) (mg:Str->Option Value) (base:Heap) (CX:CXT) (k:Nat) (x:Str) (ps:List Str) (sp:Sp):Prop where
 ex:∃f fd,FnOk P w K mg base CX k f fd ps sp/\mg x=some (.ref f)/\PySem.W.keepIn K (.ref f)=true/\(∃o:Obj,K.lookup f=some o/\o.data=.func fd)/\Binds K fd ps []
section
variable {P:Program}{w:World}{K:Za}{mg:Str->Option Value}{base:Heap}
def Callee.at {CX:CXT}{x:Str}{st:Stmt}{f:Addr}{fd:FuncData}{k:Nat}{ps:List Str}{sp:Sp} (C:Callee P w K mg base CX k x ps sp) (hm:mg x=some (.ref f)) (F:Fun K x x st f fd) (_:Def K mg x st ps):FnOk P w K mg base CX k f fd ps sp:=by
 obtain⟨f',fd',Fo,hm',_,hl,_⟩:=C.ex;rw[hm]at hm';cases hm'
 obtain⟨oc,od,kV,doc,pm,an,cdv,ct,osl,_,lk,_⟩:=F.ex;obtain⟨o',lk',hd'⟩:=hl;rw[lk]at lk';cases lk'
 cases hd'
 exact Fo
def Def.ok {x:Str}{st:Stmt}{N ps:List Str}{k:Nat}{sp:Sp} (D:Def K mg x st ps) (S:FnScope N ps (QO st)) (len:∀vs H Q E,sp vs H Q E->vs.length=ps.length)
  (hbody:∀(f:Addr) (cdv:Value) (A:Around) (outer:List Env) (s:Shared) (H:Hp) (vs:List V) (Q:VK) (E:XK),Room k (A.deeper (envOfC x (QO st) s.heap.objs.size f cdv))->sp vs H Q E->
   ∃t,PSs (cxOf CX0 P w K mg base N x (QO st) f cdv A outer s H E).nox (VP st) t/\t {nx:=fun _ H'=>Q .non H',rt:=Q} (start N vs) H):Callee P w K mg base CX0 (k+1) x ps sp:=by
 obtain⟨f,fd,F,hm,hb⟩:=D.ex;refine⟨f,fd,F.ok S len fun cdv A outer s H vs Q E hr h=>hbody f cdv A outer s H vs Q E hr h,hm,F.kp,?_,hb⟩;obtain⟨oc,od,kV,doc,pm,an,cdv,ct,osl,_,lk,_⟩:=F.ex;exact⟨_,lk,rfl⟩
end
section
variable {X:Cx}{CX:CXT}{k:Nat}{ps:List Str}{sp:Sp}{E:XK}{x:Str}{p pos:Pos}{e:Expr}{es:List Expr}{t:TA}
def VL(C:Callee X.prog X.w X.K X.mg X.base CX k x ps sp)(hr:Room k X.A)(hx:UY CX X E)(ha:PA X (e::es) t)(hg:Gl X x:=by rfl)(hdb:(x==("__debug__" : Str))=false:=by decide)(he:starEach (e::es) X.env=(false,eval e X.env)::starEach es X.env:=by rfl)(hpl:(backTo pos (starEach es X.env)).any (·.1)=false:=by rfl) :
  PE X (.Call (.Name x p) (e::es) [] pos) (UL sp [] E t):=by
 obtain⟨f,fd,F,hm,hk,_,hb⟩:=C.ex;exact BZ F hr hg hm hk hb .nil hx ha hdb he hpl
def Ux:Vs X (.builtin "isinstance") (fun xs H Q=>∃x n t b,xs=[x,.ty n]/\TyOf X.K H x t/\PySem.W.kitOne X.K t (.type n)=some b/\Q (.bl b) H):=by
 intro pins s σ H xs us Q I rv h;obtain⟨x,n,t,b,rfl,ty,e,q⟩:=h;cases rv with
 |cons r rr=>
  cases rr with
  |cons r' rr'=>
   cases rr'
   obtain rfl:_=Value.type n:=r';exact Fq I r ty e fun tk=>⟨.bl b,H,I.tok tk,rfl,q⟩
def Vh:IxR X (fun x y H Q=>rIxL X.K x y H Q\/rIxT X.K x y H Q):=ix_list.or FP
end
def B8(t u:TS):TS:=fun D σ H=>∃J:L2.St->Hp->Prop,t {D with nx:=J} σ H/\∀σ' H',J σ' H'->u D σ' H'
def FH{X:Cx}{st:Stmt}{rest:List Stmt}{t u:TS}(h1:PS X st t)(h2:PSs X rest u):PSs X (st::rest) (B8 t u):=by
 intro pins s σ H D I h;obtain⟨J,h,k⟩:=h;refine wpAny_execs_cons (thn (h1 pins s σ H {D with nx:=J} I h) fun f s1 q=>?_)
 cases f with
 |next=>
  obtain⟨σ',H',I',q⟩:=q;exact h2 pins s1 σ' H' D I' (k σ' H' q)
 |ret v=>exact q
 |brk=>exact q
 |cont=>exact q
def U9(K:Za)(n:String):PySem.W.kitOne K (.type n) (.type n)=some true:=by
 unfold PySem.W.kitOne;rw[ZH (by simp)]
def Ek(K:Za):PySem.W.kitOne K (.type "int") (.type "bool")=some false:=by rfl
def UC{α β:Type}{f:α->β}{xs:List α}{i:Int}{v:α}(h:atI xs i=some v):atI (xs.map f) i=some (f v):=by
 unfold atI at h ⊢;rw[Z6];cases e:ixN xs.length i with
 |none=>rw[e]at h;cases h
 |some j=>
  rw[e]at h;have h':xs[j]?=some v:=h;show(xs.map f)[j]?=some (f v);rw[ZD,h'];rfl
def KA{α:Type}{xs:List α}{i:Int}{v:α}(h0:0<=i)(h:xs[i.toNat]?=some v):atI xs i=some v:=by
 have e:((i.toNat:Nat):Int)=i:=by omega
 have:=UZ h
 rwa[e]at this
def QX{H:Hp}{a:Addr}{o:HO}(h:H a=none):Same H (upd H a o):=fun b u e=>by rw[QS (V2 e h)];exact e
def Same.upd {H H':Hp}{a:Addr}{o:HO} (S:Same H H') (h:H a=none):Same H (upd H' a o):=fun b u e=>by rw[QS (V2 e h)];exact S b u e
def Same.new {H H':Hp}{a:Addr}{o:HO} (S:Same H H') (h:H' a=none):Same H (L2.upd H' a o):=Own.Same.upd S (S.free h)
def Eu{env:Env}(names:List (Str×NameKind))(hall:∀x∈names,x.2=.free->∃c,env.cells.lookup x.1=some c):∀cs0:List (Str×Addr),(∀x c,cs0.lookup x=some c->env.cells.lookup x=some c)->
  ∃cl:List (Str×Addr),(forIn names cs0 (fun(x:Str×NameKind) (cs:List (Str×Addr))=>if (x.2 == .free)=true then(do let c ←cellOf env x.1;pure (ForInStep.yield ((x.1,c)::cs)))else pure (ForInStep.yield cs)):Sem (List (Str×Addr)))=pure cl/\
   (∀x c,cl.lookup x=some c->env.cells.lookup x=some c)/\(∀x,(∃c,cs0.lookup x=some c)->∃c,cl.lookup x=some c)/\∀x∈names,x.2=.free->∃c,cl.lookup x.1=some c:=by
 induction names with
 |nil=>
  intro cs0 h0;exact⟨cs0,rfl,h0,fun _ h=>h,fun x hx=>by cases hx⟩
 |cons y r ih=>
  intro cs0 h0;have ih':=ih fun x hx=>hall x (Ya _ hx);obtain⟨n,k⟩:=y;by_cases hk:k=.free
  ·subst hk;obtain⟨c,hc⟩:=hall (n,.free) Yj rfl
   have h1:∀x d,List.lookup x ((n,c)::cs0)=some d->env.cells.lookup x=some d:=fun x d e=>by
    rw[Yu]at e;by_cases hx:x=n
    ·subst hx;simp at e;subst e;exact hc
    ·have:(x==n)=false:=by simpa using hx
     rw[this]at e;exact h0 x d e
   obtain⟨cl,e,p1,p2,p3⟩:=ih' ((n,c)::cs0) h1;refine⟨cl,?_,p1,fun x hx=>p2 x ?_,fun x hx hf=>?_⟩
   ·rw[Qj];show((if (NameKind.free==NameKind.free)=true then(do let c ←cellOf env n;pure (ForInStep.yield ((n,c)::cs0)))else pure (ForInStep.yield cs0)) >>= _)=_
    rw[ZH (show(NameKind.free==NameKind.free)=true by decide)];have ec:cellOf env n=pure c:=by unfold cellOf;rw[hc]
    rw[ec];exact e
   ·rw[Yu];cases (x==n)
    ·exact hx
    ·exact⟨c,rfl⟩
   ·rcases ZT.mp hx with rfl|hx
    ·exact p2 n ⟨c,by simp[Yu]⟩
    ·exact p3 x hx hf
  ·obtain⟨cl,e,p1,p2,p3⟩:=ih' cs0 h0;refine⟨cl,?_,p1,p2,fun x hx hf=>?_⟩
   ·rw[Qj];have hb:(k==NameKind.free)=false:=by simpa using hk
    show((if (k==NameKind.free)=true then(do let c ←cellOf env n;pure (ForInStep.yield ((n,c)::cs0)))else pure (ForInStep.yield cs0)) >>= _)=_
    rw[ZG (by rw[hb];decide)];exact e
   ·rcases ZT.mp hx with rfl|hx
    ·exact absurd hf hk
    ·exact p3 x hx hf
def ED{env:Env}{sc:Scope}(hall:∀x∈sc.names,x.2=.free->∃c,env.cells.lookup x.1=some c) :
  ∃cl:List (Str×Addr),closureFor sc env=pure cl/\(∀x c,cl.lookup x=some c->env.cells.lookup x=some c)/\∀x∈sc.names,x.2=.free->∃c,cl.lookup x.1=some c:=by
 obtain⟨cl,e,p1,_,p3⟩:=Eu sc.names hall [] (fun x c h=>by cases h);refine⟨cl,?_,p1,p3⟩;unfold closureFor;show((forIn sc.names ([]:List (Str×Addr)) (fun(x:Str×NameKind) (cs:List (Str×Addr))=>if (x.2 == .free)=true then(do let c ←cellOf env x.1;pure (ForInStep.yield ((x.1,c)::cs)))else pure (ForInStep.yield cs)):Sem (List (Str×Addr))) >>= fun cs=>pure cs)=pure cl
 rw[e];rfl
def Vr(X:Cx)(N':List Str)(sc:Scope)(cl:List (Str×Addr))(C:Addr)(s₃:Shared)(H₃:Hp)(ex:List Addr):Cx:=
 {X with N:=N',s₀:=s₃,H₀:=H₃,env:=compEnvC sc cl C X.env,outer:=X.stack,ex:=ex,fn:=fun _=>false,pn:=[],xe:=fun _ _=>False}
structure CompOk (X:Cx) (N':List Str) (φ:List (Option Nat)) (sc:Scope):Prop where
 kind:sc.kind=.function
 okind:X.env.scope.kind=.function
 nocell:∀y∈sc.names,y.2≠.cell
 names:∀y∈sc.names,y.2=.local->sc.names.lookup y.1=some .local
 frees:∀y∈sc.names,y.2=.free->X.env.scope.names.lookup y.1=some .cell
 len:φ.length=N'.length
 pick:∀(i:Nat) (x:Str) (j:Nat),N'[i]?=some x->φ[i]?=some (some j)->X.N[j]?=some x/\sc.names.lookup x=some .free
def atStart(φ:List (Option Nat))(σ:L2.St):L2.St:=φ.map fun o=>o.bind fun j=>(σ[j]?).join
def Sub(σ σ':L2.St):Prop:=σ'.length=σ.length/\∀(i:Nat) (v:V),σ[i]?=some (some v)->σ'[i]?=some (some v)
def Sub.refl {σ:L2.St}:Sub σ σ:=⟨rfl,fun _ _ h=>h⟩
def Sub.skip {σ σ':L2.St}{x:Option V} (h:Sub σ σ'):Sub (none::σ) (x::σ'):=by
 refine⟨by simp[h.1],fun i v e=>?_⟩;cases i with
 |zero=>simp at e
 |succ i=>simp at e ⊢;exact h.2 i v e
def Sub.keep {σ σ':L2.St}{x:Option V} (h:Sub σ σ'):Sub (x::σ) (x::σ'):=by
 refine⟨by simp[h.1],fun i v e=>?_⟩;cases i with
 |zero=>simpa using e
 |succ i=>simp at e ⊢;exact h.2 i v e
def PN{env:Env}(hk:env.scope.kind=.function):∀{names:List (Str×NameKind)}{x:Str},names.lookup x=some .free->env.scope.names.lookup x=some .cell->
  (names.map fun(n,k)=>if (k==NameKind.free&&env.scope.kind == .function&&env.kindOf n==some .cell)then(n,NameKind.cell)else(n,k)).lookup x=some .cell
 |[],_,h,_=>by simp at h
 |(n,k)::r,x,h,hc=>by
  have ih:=@PN env hk r x;show List.lookup x ((if (k==NameKind.free&&env.scope.kind == .function&&env.kindOf n==some .cell)=true then(n,NameKind.cell)else(n,k))::_)=_;cases hx:x==n with
  |true=>
   simp only[Yu,hx]at h;cases h
   have e:x=n:=by simpa using hx
   subst e;have hkk:env.kindOf x=some .cell:=hc;rw[hk,hkk];simp[Yu]
  |false=>
   simp only[Yu,hx]at h;by_cases hcc:(k==NameKind.free&&env.scope.kind == .function&&env.kindOf n==some .cell)=true
   ·rw[ZH hcc];simp only[Yu,hx];exact ih h hc
   ·rw[ZG hcc];simp only[Yu,hx];exact ih h hc
def XE{env:Env}:∀{names:List (Str×NameKind)}{x:Str}{q:NameKind},
  (names.map fun(n,k)=>if (k==NameKind.free&&env.scope.kind == .function&&env.kindOf n==some .cell)then(n,NameKind.cell)else(n,k)).lookup x=some q->∃k,(x,k)∈names/\(q=k\/k=.free)
 |[],_,_,h=>by simp at h
 |(n,k)::r,x,q,h=>by
  have ih:=@XE env r x q;have h':List.lookup x ((if (k==NameKind.free&&env.scope.kind == .function&&env.kindOf n==some .cell)=true then(n,NameKind.cell)else(n,k))::(r.map fun(n,k)=>if (k==NameKind.free&&env.scope.kind == .function&&env.kindOf n==some .cell)then(n,NameKind.cell)else(n,k)))=some q:=h;cases hx:x==n with
  |true=>
   have e:x=n:=by simpa using hx
   subst e;by_cases hcc:(k==NameKind.free&&env.scope.kind == .function&&env.kindOf x==some .cell)=true
   ·refine⟨k,Yj,.inr ?_⟩
    have:=(Y4 _ _▸(Y4 _ _▸hcc).1).1
    simpa using this
   ·rw[ZG hcc]at h';simp[Yu]at h';exact⟨k,Yj,.inl h'.symm⟩
  |false=>
   have h2:List.lookup x (r.map fun(n,k)=>if (k==NameKind.free&&env.scope.kind == .function&&env.kindOf n==some .cell)then(n,NameKind.cell)else(n,k))=some q:=by
    by_cases hcc:(k==NameKind.free&&env.scope.kind == .function&&env.kindOf n==some .cell)=true
    ·rw[ZH hcc]at h';simp only[Yu,hx]at h';exact h'
    ·rw[ZG hcc]at h';simp only[Yu,hx]at h';exact h'
   obtain⟨k',hm,hq⟩:=ih h2;exact⟨k',Ya _ hm,hq⟩
def Dj{prog:Program}{w:World}{A:Around}{R:Result->Shared->Prop}{s:Shared}{elt target iter:Expr}{ifs:List Expr}{scope:Scope}{pos:Pos}{it acc:Value}{env:Env}(I:Nat->Shared->Prop)
  (turn:∀n s,I n s->wpAny (model prog w) A (pyNext it) (fun r s₁=>match r with
   |none=>R (.ok .next) s₁
   |some v=>wpAny (model prog w) A (letOwnedTupleGo target it v) (fun _ s₁'=>wpAny (model prog w) A (assign target env v) (fun _ s₂=>
     wpAny (model prog w) A (forIn ifs true fun c r=>if r=true then do let ok ←isTrue c env (eval c env);pure (ForInStep.yield ok)else pure (ForInStep.yield r)) (fun ok s₃=>
      if ok=true then wpAny (model prog w) A (eval elt env) (fun x s₄=>
       wpAny (model prog w) A (call (.builtin "list.append") [acc,x]) (fun _ s₅=>∃m,m<n/\I m s₅) (fun _ _=>False) s₄) (fun _ _=>False) s₃
      else ∃m,m<n/\I m s₃) (fun _ _=>False) s₂) (fun _ _=>False) s₁') (fun _ _=>False) s₁) (fun _ _=>False) s)
  (n:Nat) (h:I n s) :
  codeAny (model prog w) A (.compLoop (.ListComp elt [⟨target,iter,ifs,0⟩] scope pos) 0 it acc env) R s:=by
 refine codeAny_loop rfl I (fun n s hI=>?_) n h;show wpAny _ A ((compTurn (.ListComp elt [⟨target,iter,ifs,0⟩] scope pos) 0 it acc env).onRaise (fun x=>do noteFrame x env;theTreesLotGoes x)) _ _ s
 refine wpAny_noted ?_;rw[compTurn_list];refine Z4 (wpAny_standAt (Z4 (Y3 (turn n s hI) (fun r s₁ h₁=>?_) fun _ _ h'=>h'.elim)));cases r with
 |none=>exact Z8 h₁
 |some v=>
  refine Z4 (Y3 h₁ (fun _ s₁' h₁'=>?_) fun _ _ h'=>h'.elim);refine Z4 (Y3 h₁' (fun _ s₂ h₂=>Z4 (Y3 h₂ (fun ok s₃ h₃=>?_) fun _ _ h'=>h'.elim)) fun _ _ h'=>h'.elim);cases ok with
  |false=>exact Z8 ⟨rfl,h₃⟩
  |true=>
   exact Z4 (Z4 (Y3 h₃ (fun x s₄ h₄=>Z4 (Y3 h₄ (fun _ s₅ h₅=>Z8 (Z8 ⟨rfl,h₅⟩)) fun _ _ h'=>h'.elim)) fun _ _ h'=>h'.elim))
def PIfs(X:Cx)(ifs:List Expr)(t:TT):Prop:=
 ∀(pins:List (Addr×Obj)) (s:Shared) (σ:L2.St) (H:Hp) (Q:Bool->Hp->Prop),Inv X pins σ H s->t σ H Q->
  wpAny (model X.prog X.w) X.A (forIn ifs true fun c r=>if r=true then do let ok ←isTrue c X.env (eval c X.env);pure (ForInStep.yield ok)else pure (ForInStep.yield r)) (TP X pins σ Q) X.xe s
def Su:TT:=fun _ H Q=>Q true H
def VW{X:Cx}:PIfs X [] Su:=fun _ _ _ H _ I h=>Z8 ⟨H,I,h⟩
def Jp{X:Cx}{c:Expr}{t:TT}(hc:PT X c t):PIfs X [c] t:=by
 intro pins s σ H Q I h;rw[Qj];refine Z4 ?_;rw[ZH rfl];exact Z4 (thn (hc pins s σ H Q I h) fun b s1 q=>Z8 (Z8 q))
def JX(φ:List (Option Nat))(wi:TI)(g:TG)(tc:TT)(te:TE):TE:=fun σ H Q=>wi σ H fun J H1=>∀D,H1 D=none->∃W:Nat->Nat->List V->Hp->Prop,(∃m,W 0 m [] (upd H1 D (.lst [])))/\
 ∀i m ys H2,W i m ys H2->(J.stop i H2/\Q (.ref D) H2)\/(J.go i H2/\∀x H3,J.yld i H2 x H3->g x (atStart φ σ) H3 fun σ2 H4=>Sub (atStart φ σ) σ2/\tc σ2 H4 fun b H5=>
  if b=true then te σ2 H5 fun y H6=>H6 D=some (.lst ys)/\ys.length<sizeLine/\∃m',m'<m/\W (i+1) m' (ys++[y]) (upd H6 D (.lst (ys++[y])))else ∃m',m'<m/\W (i+1) m' ys H5)
def Inv.weak {X:Cx}{pins:List (Addr×Obj)}{σ σ':L2.St}{H:Hp}{s:Shared} (I:Inv X pins σ' H s) (S:Sub σ σ'):Inv X pins σ H s:=
 ⟨I.ok,I.os,I.bare,I.base,let ⟨m,hn,hl⟩:=I.loc;⟨m,hn,fun i x v h1 h2 h3=>hl i x v h1 (S.2 i v h2) h3⟩,I.cell,I.free,I.freeC,I.pin,I.hok,by rw[←S.1];exact I.len⟩
def X3{φ:List (Option Nat)}{σ:L2.St}{i:Nat}{v:V}(h:(atStart φ σ)[i]?=some (some v)):∃j,φ[i]?=some (some j)/\σ[j]?=some (some v):=by
 unfold atStart at h;rw[ZD]at h;cases e:φ[i]? with
 |none=>rw[e]at h;cases h
 |some o=>
  rw[e]at h;cases o with
  |none=>simp at h
  |some j=>
   refine⟨j,rfl,?_⟩;simp at h;cases e2:σ[j]? with
   |none=>rw[e2]at h;simp at h
   |some w=>rw[e2]at h;simp at h;rw[h]
def CompEnd(X:Cx)(pins:List (Addr×Obj))(σ:L2.St)(Q:VK)(use:Option (Value->Sem Unit))(QQ:Value->Shared->Prop):Prop:=
 ∀(D C:Addr) (H5:Hp) (s6:Shared),Q (.ref D) H5->Inv X pins σ H5 s6->(∃m,s6.heap.Ns C m)->H5 C=none->C≠X.env.locals->X.s₀.heap.objs.size<=C->(∀x c,X.env.cells.lookup x=some c->c≠C)->(∀p∈X.pn++pins,p.1≠C)->C∉X.fs->
  compPost (model X.prog X.w) X.A X.xe use QQ (.ref D) C (.ok .next) s6
def Sh{X:Cx}{N':List Str}{φ:List (Option Nat)}{sc:Scope}{elt iter tg:Expr}{ifs:List Expr}{pos pos':Pos}{wi:TI}{g:TG}{tc:TT}{te:TE}{use:Option (Value->Sem Unit)}{QQ:Value->Shared->Prop}(hcalm:X.calm=true)(S:CompOk X N' φ sc)(hi:PI X tg iter wi)(hin:∀cl C s₃ H₃ ex,PG (Vr X N' sc cl C s₃ H₃ ex) tg g/\PIfs (Vr X N' sc cl C s₃ H₃ ex) ifs tc/\PE (Vr X N' sc cl C s₃ H₃ ex) elt te)(hs:∀x,foldedSetIterable iter X.env x=pure x){pins:List (Addr×Obj)}{s:Shared}{σ:L2.St}{H:Hp}{Q:VK}(I:Inv X pins σ H s)(h:JX φ wi g tc te σ H Q)(fin:CompEnd X pins σ Q use QQ) :
  wpAny (model X.prog X.w) X.A (comprehension (.ListComp elt [⟨tg,iter,ifs,0⟩] sc pos) sc X.env pos' (newList []) false (eval iter X.env) use) QQ X.xe s:=by
 obtain⟨cl,hcl,p1,p3⟩:=ED (env:=X.env) (sc:=sc) fun x hx hf=>I.ok.has x.1 (.inl (S.frees x hx hf));refine wpAny_comprehension_free (use:=use) rfl hs hcl S.kind S.names ?_;refine thn (hi pins s σ H _ I h) fun v s1 h1=>thn h1 fun itv s2 h2=>?_;obtain⟨it,fp,tn,J,H2,e,I2,T,st2,f2,hR⟩:=h2;subst e;refine Yq ?_;have hf:H2 s2.heap.objs.size=none:=I2.hok.fresh (ZF _);obtain⟨W,⟨m0,w0⟩,turn⟩:=hR s2.heap.objs.size hf;generalize eD:s2.heap.objs.size=D at *
 have I3:Inv X pins σ (upd H2 D (.lst [])) {s2 with heap:=s2.heap.push {cls:=.type "list",dict:=none,data:=.seq ([]:List Value).toArray}}:=
  I2.laid (t':=s2.toks) (fun b u e=>Z9 _ e) (Qh eD) ⟨Y0 _,[],0,.nil,by rw[←eD];exact ZL _ rfl⟩
 have st3:tn 0 (s2.heap.push {cls:=.type "list",dict:=none,data:=.seq ([]:List Value).toArray}):=T.keep _ _ _ st2 fun b _ o e=>Z9 _ e
 have hfpD:∀b∈fp,b≠D:=fun b hb z=>by
  obtain⟨o,ho,_⟩:=T.obj _ _ st2 b hb
  have:=ZK ho
  rw[z,←eD]at this;exact YL _ this
 have f3:∀b∈fp,FpOk X pins (upd H2 D (.lst [])) b:=fun b hb=>⟨by rw[QS (hfpD b hb)];exact(f2 b hb).1,(f2 b hb).2⟩;generalize es3:({s2 with heap:=s2.heap.push {cls:=.type "list",dict:=none,data:=.seq ([]:List Value).toArray}}:Shared)=s3 at *
 have st3':tn 0 s3.heap:=by rw[←es3];exact st3
 generalize eH3:upd H2 D (.lst [])=H3 at *;refine wpAny_newFunctionEnv S.nocell (by intro y hy;simp at hy) (fun h₁ hns₁ hsb₁=>?_) S.kind;have hh3:s3.heap=s2.heap.push {cls:=.type "list",dict:=none,data:=.seq ([]:List Value).toArray}:=by rw[←es3]
 rw[hh3]at hns₁ hsb₁;rw[←hh3]at hns₁ hsb₁;have old:∀b o,s3.heap.get? b=some o->h₁.get? b=some o:=fun b o e=>hsb₁.extBut b o (Yf (ZK e)) (Z9 _ e)
 have hC0:s3.heap.get? s3.heap.objs.size=none:=by
  cases e:s3.heap.get? s3.heap.objs.size with
  |none=>rfl
  |some o=>exact absurd (ZK e) (YL _)
 generalize eC:s3.heap.objs.size=C at *;have hH3C:H3 C=none:=I3.hok.fresh (Qh eC)
 have OK:(Vr X N' sc cl C s3 H3 fp).Ok:=by
  refine⟨I.ok.mod,?_,I.ok.glob,I.ok.blt,Qh eC,fun x y c h1 h2=>I.ok.inj x y c (p1 x c h1) (p1 y c h2),?_,(fun x c hx=>by cases hx),I.ok.hd,I.ok.frames,.inl rfl,?_,I3.bs,ZW I.ok.bsz I3.sz,?_,?_,I3.stack,I3.stkFree⟩
  ·exact S.kind
  ·intro x hx;have hx':(∃k,(x,k)∈sc.names/\(NameKind.cell=k\/k=.free))\/∃k,(x,k)∈sc.names/\(NameKind.free=k\/k=.free):=hx.imp XE XE
   have hfr:(x,NameKind.free)∈sc.names:=by
    rcases hx' with⟨k,hm,rfl|rfl⟩|⟨k,hm,rfl|rfl⟩
    ·exact absurd rfl (S.nocell _ hm)
    ·exact hm
    ·exact hm
    ·exact hm
   exact p3 _ hfr rfl
  ·intro b hb;refine⟨fun z=>?_,fun x c hx=>(f3 b hb).2.2.2.2.1 x c (p1 x c hx)⟩;obtain⟨o,ho,_⟩:=T.obj _ _ st3' b hb;have z':b=C:=z;rw[z',hC0]at ho;cases ho
  ·intro b o hb hx;obtain⟨_,_,_,q,_,_⟩:=f3 b hx;rcases q with q|q
   ·exact I.ok.noex b o hb q
   ·have:=Ye (ZK hb) (ZW I.ok.bsz q)
    exact YL _ this
  ·intro b hb hz;rcases ZT.mp (I.stkSub b hz)with q|q
   ·exact(f3 b hb).2.1 q
   ·exact(f3 b hb).2.2.1 q
 have hlen0:(atStart φ σ).length=N'.length:=by unfold atStart;rw[Z6];exact S.len
 have I4:Inv (Vr X N' sc cl C s3 H3 fp) [] (atStart φ σ) H3 {s3 with heap:=h₁,toks:=s3.toks+([]:List (Str×Value)).length}:=by
  refine⟨OK,rfl,I3.bare,Un.kept old,⟨_,hns₁,fun i x v h1 h2 h3=>?_⟩,fun x c hx=>?_,hH3C,fun x c hx=>I3.freeC x c (p1 x c hx),fun p hp=>?_,I3.hok.kept old,hlen0⟩
  ·obtain⟨j,hj,hv⟩:=X3 h2;obtain⟨hN,hfr⟩:=S.pick i x j h1 hj;obtain⟨m,_,hl⟩:=I3.loc;have hm:(x,NameKind.free)∈sc.names:=YN hfr;have hcell:=S.frees _ hm rfl;obtain⟨u,ru,lk⟩:=hl j x v hN hv (.inr (.inl hcell));refine⟨u,ru,.inr ⟨.inl (PN S.okind hfr hcell),?_⟩⟩;obtain⟨c,hc⟩:=p3 _ hm rfl;rcases lk with⟨hk,_⟩|⟨_,c',hc',hcl'⟩
   ·have hk':X.env.scope.names.lookup x=some .local:=hk;rw[hcell]at hk';cases hk'
   ·have e:=p1 _ _ hc;rw[hc']at e;cases e
    obtain⟨o,ho,hd⟩:=hcl';exact⟨_,hc,o,old _ o ho,hd⟩
  ·obtain⟨v,hv⟩:=I3.cell x c (p1 x c hx);obtain⟨o,ho,hd⟩:=hv;exact⟨v,o,old _ o ho,hd⟩
  ·exact absurd hp (by simp[Vr])
 have st4:tn 0 h₁:=T.keep _ _ _ st3' fun b _ o e=>old b o e
 have stat:∀{H':Hp},(∀b∈fp,H' b=none)->∀b∈fp,FpOk (Vr X N' sc cl C s3 H3 fp) [] H' b:=fun hn b hb=>
  ⟨hn b hb,(OK.exf b hb).1,OK.exfs b hb,.inl hb,(OK.exf b hb).2,fun p hp=>absurd hp (by simp[Vr])⟩
 obtain⟨hPG,hPI,hPE⟩:=hin cl C s3 H3 fp
 have loop:codeAny (model X.prog X.w) X.A (.compLoop (.ListComp elt [⟨tg,iter,ifs,0⟩] sc pos) 0 (.ref it) (.ref D) (compEnvC sc cl C X.env)) (compPost (model X.prog X.w) X.A X.xe use QQ (.ref D) C) {s3 with heap:=h₁,toks:=s3.toks+([]:List (Str×Value)).length}:=by
  refine Dj (fun n s'=>∃i ys σ' H',Inv (Vr X N' sc cl C s3 H3 fp) [] σ' H' s'/\Sub (atStart φ σ) σ'/\tn i s'.heap/\(∀b∈fp,H' b=none)/\W i n ys H') ?_ m0 ⟨0,[],_,_,I4,Sub.refl,st4,fun b hb=>(f3 b hb).1,w0⟩;rintro n s5 ⟨i,ys,σ5,H5,I5,sub5,st5,fr5,w5⟩;have I5':=Own.Inv.weak I5 sub5;rcases turn i n ys H5 w5 with⟨stop,qn⟩|⟨go,step⟩
  ·refine thn (T.done (Vr X N' sc cl C s3 H3 fp) rfl rfl rfl hcalm i [] s5 _ H5 _ I5' (stat fr5) st5 stop) fun r s6 ⟨hr,I6⟩=>?_;subst hr;obtain⟨m,hn,_⟩:=I6.loc;obtain⟨hh,gg,dd,tt,oo⟩:=s6;obtain rfl:oo=s3.os:=I6.os;have R:Inv X pins σ H5 {s3 with heap:=hh,gens:=gg,drawn:=dd,toks:=tt}:=I3.call (ch:=fp) (h':=hh) (g':=gg) (d':=dd) (t':=tt) I6.base I6.hok I6.bare fun b hb=>⟨(f3 b hb).2.2.2.1,(f3 b hb).2.1,(f3 b hb).2.2.2.2.1,(f3 b hb).2.2.2.2.2⟩
   have hC3:s3.heap.objs.size<=C:=Qh eC;obtain⟨q0,q1,q2,q3,q4,q5⟩:=I3.fpOk (b:=C) (H':=H3) hC3 hH3C;refine fin D C H5 _ qn R ⟨m,hn⟩ I6.free q1 (ZW I3.sz hC3) q4 q5 q2
  ·refine thn (T.item (Vr X N' sc cl C s3 H3 fp) rfl rfl rfl hcalm i [] s5 _ H5 _ I5' (stat fr5) st5 go) fun r s6 ⟨u,hr,h6⟩=>?_;subst hr;refine thn h6 fun _ s7 ⟨x,H7,I7,r7,y7,st7,fr7⟩=>?_;have I7':=I7.pinned (stat fr7) (T.obj _ _ st7);refine thn (hPG _ s7 _ H7 x u _ I7' r7 (step x H7 y7)) fun _ s8 ⟨σ8,H8,I8,sub8,q8⟩=>?_;refine thn (hPI _ s8 σ8 H8 _ I8 q8) fun ok s9 ⟨H9,I9,q9⟩=>?_
   have again:∀{s10:Shared} {H10:Hp} {ys':List V} {m':Nat},Inv (Vr X N' sc cl C s3 H3 fp) ([]++Uj fp s7.heap) σ8 H10 s10->W (i+1) m' ys' H10->∃i ys σ' H',Inv (Vr X N' sc cl C s3 H3 fp) [] σ' H' s10/\Sub (atStart φ σ) σ'/\tn i s10.heap/\(∀b∈fp,H' b=none)/\W i m' ys H':=fun {s10 H10 ys' m'} J10 w10=>by
    refine⟨i+1,ys',σ8,H10,J10.unpinned,sub8,T.keep _ _ _ st7 fun b hb o e=>(J10.pin (b,o) (ZY _ (ZY _ (Xm hb e)))).1,fun b hb=>?_,w10⟩;obtain⟨o,e,d⟩:=T.obj _ _ st7 b hb;exact(J10.pin (b,o) (ZY _ (ZY _ (Xm hb e)))).2.1
   cases ok with
   |false=>
    obtain⟨m',hm,w'⟩:=q9;exact⟨m',hm,again I9 w'⟩
   |true=>
    refine thn (hPE _ s9 σ8 H9 _ I9 q9) fun xv s10 ⟨y,H10,I10,r10,hD,hl,m',hm,w'⟩=>?_;refine thn (Uy _ s10 σ8 H10 (.ref D) [y] (.ref D) [xv] (fun _ H11=>H11=upd H10 D (.lst (ys++[y]))) I10 rfl (.cons r10 .nil) ⟨D,ys,y,rfl,rfl,hD,hl,rfl⟩) fun _ s11 ⟨_,H11,I11,_,e11⟩=>?_;subst e11;exact⟨m',hm,again I11 w'⟩
 refine codeAny_compStart_list loop (T.self _ 0 _ _ _ st4 loop)
def VA{X:Cx}{N':List Str}{φ:List (Option Nat)}{sc:Scope}{elt iter tg:Expr}{ifs:List Expr}{pos:Pos}{wi:TI}{g:TG}{tc:TT}{te:TE}(hcalm:X.calm=true)(S:CompOk X N' φ sc)(hi:PI X tg iter wi)(hin:∀cl C s₃ H₃ ex,PG (Vr X N' sc cl C s₃ H₃ ex) tg g/\PIfs (Vr X N' sc cl C s₃ H₃ ex) ifs tc/\PE (Vr X N' sc cl C s₃ H₃ ex) elt te)(hs:∀x,foldedSetIterable iter X.env x=pure x:=by intro _;rfl):PE X (.ListComp elt [⟨tg,iter,ifs,0⟩] sc pos) (JX φ wi g tc te):=by
 intro pins s σ H Q I h;rw[eval_ListComp];refine Sh (use:=none) hcalm S hi hin hs I h fun D C H5 s6 q R hm c0 c1 c2 c3 c4 c5=>?_;obtain⟨m,hn⟩:=hm;exact⟨m,hn,fun h' sb=>⟨.ref D,H5,R.turned (it:=C) (t':=s6.toks) (fun b o hb e=>sb.extBut b o hb e) c0 c1 (.inr c2) c3 c4,rfl,q⟩⟩
def J6{X:Cx}{N':List Str}{φ:List (Option Nat)}{sc:Scope}{elt iter tg:Expr}{ifs:List Expr}{pos spos py:Pos}{wi:TI}{g:TG}{tc:TT}{te:TE}{i:Nat}{y:Str}(hN:X.N.Nodup)(hy:X.N[i]?=some y)(hl:X.env.scope.names.lookup y=some .local)(hcalm:X.calm=true)(S:CompOk X N' φ sc)(hi:PI X tg iter wi)(hin:∀cl C s₃ H₃ ex,PG (Vr X N' sc cl C s₃ H₃ ex) tg g/\PIfs (Vr X N' sc cl C s₃ H₃ ex) ifs tc/\PE (Vr X N' sc cl C s₃ H₃ ex) elt te)(hs:∀x,foldedSetIterable iter X.env x=pure x:=by intro _;rfl)(hsw:swapsWith (.ListComp elt [⟨tg,iter,ifs,0⟩] sc pos) (some (.Name y py)) spos.line X.env=pure true:=by rfl) :
  PS X (.Assign [.Name y py] (.ListComp elt [⟨tg,iter,ifs,0⟩] sc pos) spos) (tAsg (JX φ wi g tc te) (JM i)):=by
 intro pins s σ H D0 I h;rw[exec_Assign_Name_used _ _ _ _ hsw];refine Z4 (wpAny_standAt (Z4 ?_));show wpAny _ X.A (do let _ ←comprehension (.ListComp elt [⟨tg,iter,ifs,0⟩] sc pos) sc X.env _ (newList []) false (eval iter X.env) (some (assign (.Name y py) X.env))) _ _ s
 refine Z4 (Y3 (Sh (use:=some (assign (.Name y py) X.env)) (QQ:=fun _ s'=>SP X pins D0 .next s') hcalm S hi hin hs I h fun D C H5 s6 q R hm c0 c1 c2 c3 c4 c5=>?_) (fun _ s' z=>Z8 (Z8 z)) fun _ _ e=>e);obtain⟨m,oC,es,ep,hoC,hdC,rC⟩:=hm
 have R2:Inv X (pins++[(C,oC)]) σ H5 s6:=R.pins_of fun p hp=>(ZU.mp hp).elim (fun z=>R.pin p (ZY _ z)) fun z=>by
  rw[ZA.mp z];exact⟨hoC,c0,c1,c5,fun v e=>by rw[hdC]at e;cases e⟩
 show wpAny _ X.A (assign (.Name y py) X.env (.ref D)) _ _ _;refine wpAny_assign_Name (JG R2 hN hy (.inl hl) (v:=.ref D) (u:=.ref D) rfl (fun s7 I7=>?_) (.inr hl));have hC7:=(I7.pin (C,oC) (ZY _ (ZY _ (ZA.mpr rfl)))).1;refine⟨m,⟨oC,es,ep,hC7,hdC,rC⟩,fun h' sb=>?_⟩;have I8:Inv X pins (σ.set i (some (.ref D))) H5 s7:=I7.unpinned;exact⟨_,H5,I8.turned (it:=C) (t':=s7.toks) (fun b o hb e=>sb.extBut b o hb e) c0 c1 (.inr c2) c3 c4,q⟩
def Tn(sc osc:Scope)(N N':List Str)(φ:List (Option Nat)):Bool:=
 sc.kind == .function&&osc.kind == .function&&(sc.names.all fun y=>y.2 != .cell&&(y.2 != .local || sc.names.lookup y.1==some .local)&&(y.2 != .free || osc.names.lookup y.1==some .cell)) &&
  φ.length==N'.length&&((N'.zip φ).all fun p=>match p.2 with|none=>true|some j=>N[j]? == some p.1&&sc.names.lookup p.1==some .free)
def CompOk.of {X:Cx}{N':List Str}{φ:List (Option Nat)}{sc:Scope} (h:Tn sc X.env.scope X.N N' φ=true):CompOk X N' φ sc:=by
 unfold Tn at h;simp only[Y4,beq_iff_eq,Wc,Bool.or_eq_true,bne_iff_ne,ne_eq]at h;obtain⟨⟨⟨⟨h1,h2⟩,h3⟩,h4⟩,h5⟩:=h;refine⟨h1,h2,fun y hy=>(h3 y hy).1.1,fun y hy hl=>?_,fun y hy hf=>?_,h4,fun i x j hi hj=>?_⟩
 ·rcases(h3 y hy).1.2 with z|z
  ·exact absurd hl z
  ·exact z
 ·rcases(h3 y hy).2 with z|z
  ·exact absurd hf z
  ·exact z
 ·have hz:(N'.zip φ)[i]?=some (x,some j):=by rw[List.getElem?_zip_eq_some];exact⟨hi,hj⟩
  have:=h5 _ (Yb hz)
  simpa using this
end Own
namespace SetR
open PySem PySem.Spec PyProof.Rows L2
def Ris(xs:Array Nat):Prop:=∀i j,i<j->j<xs.size->xs.getD i 0<xs.getD j 0
def Tw{xs:Array Nat}{i a b:Nat}(h:i<xs.size):xs.getD i a=xs.getD i b:=by simp[Array.getD,h]
def D6{xs:Array Nat}(R:Ris xs)(j:Nat):∀(fuel lo hi:Nat),hi-lo<=fuel->lo<=hi->hi<=xs.size->(∀k,k<lo->xs.getD k 0<j)->(∀k,hi<=k->k<xs.size->j<=xs.getD k 0)->
  let r:=SetTable.below.go xs j fuel lo hi
  r<=xs.size/\(∀k,k<r->xs.getD k 0<j)/\∀k,r<=k->k<xs.size->j<=xs.getD k 0:=by
 intro fuel
 induction fuel with
 |zero=>
  intro lo hi h1 h2 h3 h4 h5;have e:lo=hi:=by omega
  subst e;exact⟨h3,h4,h5⟩
 |succ fuel ih=>
  intro lo hi h1 h2 h3 h4 h5;show(let r:=(if lo<hi then(if xs.getD ((lo+hi) / 2) j<j then SetTable.below.go xs j fuel ((lo+hi) / 2+1) hi else SetTable.below.go xs j fuel lo ((lo+hi) / 2))else lo);r<=xs.size/\(∀k,k<r->xs.getD k 0<j)/\∀k,r<=k->k<xs.size->j<=xs.getD k 0);by_cases hl:lo<hi
  ·rw[ZH hl];have hm:(lo+hi) / 2<xs.size:=by omega
   by_cases hc:xs.getD ((lo+hi) / 2) j<j
   ·rw[ZH hc];refine ih _ _ (by omega) (by omega) h3 (fun k hk=>?_) h5;rw[Tw (b:=0) hm]at hc;by_cases e:k=(lo+hi) / 2
    ·rw[e];exact hc
    ·exact WD (R k _ (by omega) hm) hc
   ·rw[ZG hc];refine ih _ _ (by omega) (by omega) (by omega) h4 (fun k hk hk2=>?_);rw[Tw (b:=0) hm]at hc;by_cases e:k=(lo+hi) / 2
    ·rw[e];omega
    ·have:=R _ k (show(lo+hi) / 2<k by omega) hk2
     omega
  ·rw[ZG hl];have e:lo=hi:=by omega
   subst e;exact⟨h3,h4,h5⟩
def T7{xs:Array Nat}(R:Ris xs)(j:Nat):SetTable.below xs j<=xs.size/\(∀k,k<SetTable.below xs j->xs.getD k 0<j)/\∀k,SetTable.below xs j<=k->k<xs.size->j<=xs.getD k 0:=
 D6 R j xs.size 0 xs.size (by omega) (by omega) (by omega) (fun k hk=>by omega) (fun k h1 h2=>by omega)
def EO{xs:Array Nat}(R:Ris xs){i:Nat}(hi:i<=xs.size){slot:Nat}(h1:∀k,k<i->xs.getD k 0<slot)(h2:∀k,i<=k->k<xs.size->slot<=xs.getD k 0):SetTable.below xs slot=i:=by
 obtain⟨a,b,c⟩:=T7 R slot;rcases Nat.lt_trichotomy (SetTable.below xs slot) i with h|h|h
 ·have:=c _ (ZF _) (by omega)
  have:=h1 _ h
  omega
 ·exact h
 ·have:=b i h
  have:=h2 i (ZF _) (by omega)
  omega
def Rise(xs:Array Nat):Prop:=xs.toList.Pairwise (· < ·)
def Rise.ris {xs:Array Nat} (h:Rise xs):Ris xs:=by
 intro i j hij hj;have hi:i<xs.size:=by omega
 have:=(Yw.mp h) i j (by simpa using hi) (by simpa using hj) hij
 simpa [Array.getD,hi,hj]using this
def B7{xs:Array Nat}{j:Nat}(h:Rise xs)(hn:xs[SetTable.below xs j]?≠some j):Rise (SetTable.insertAt xs (SetTable.below xs j) j):=by
 obtain⟨a,b,c⟩:=T7 h.ris j;generalize SetTable.below xs j=p at *;unfold Rise;rw[SetTable.toList_insertAt];refine W3.mpr ⟨h.sublist (Qx _ _),List.pairwise_cons.mpr ⟨fun y hy=>?_,h.sublist (List.drop_sublist _ _)⟩,fun x hx y hy=>?_⟩
 ·obtain⟨k,hk,e⟩:=List.mem_drop_iff_getElem.mp hy
  have hk':p+k<xs.size:=by
   simp only[Yk]at hk;omega
  have h1:=c (p+k) (by omega) hk';have e':xs.getD (p+k) 0=y:=by simpa [Array.getD,hk']using e
  rw[e']at h1;rcases Qk j y with h2|h2
  ·exact h2
  ·have ey:y=j:=by omega
   exfalso;rcases Nat.eq_zero_or_pos k with rfl|hk0
   ·apply hn;rw[Y6 (by omega)]
    have:xs[p]=y:=by simpa using e
    rw[this,ey]
   ·have h3:=h.ris p (p+k) (by omega) hk';have h4:=c p (ZF _) (by omega);omega
 ·have hx':x<j:=by
   obtain⟨k,hk,e⟩:=List.mem_take_iff_getElem.mp hx;have hk1:k<p:=by omega
   have hk2:k<xs.size:=by omega
   have:=b k hk1
   have e':xs.getD k 0=x:=by simpa [Array.getD,hk2]using e
   omega
  rcases ZT.mp hy with rfl|hy
  ·exact hx'
  ·obtain⟨k,hk,e⟩:=List.mem_drop_iff_getElem.mp hy
   have hk':p+k<xs.size:=by
    simp only[Yk]at hk;omega
   have h1:=c (p+k) (by omega) hk';have e':xs.getD (p+k) 0=y:=by simpa [Array.getD,hk']using e
   omega
structure Tb (b:Bool) (t:SetTable):Prop where
 led:t.led=b
 dum:t.dummies=#[]
 ris:Rise t.place
def PM(j:Nat):SetTable.has #[] j=false:=by
 unfold SetTable.has;simp
def Tb.fresh (b:Bool):Tb b (.fresh 0 0 b):=⟨rfl,rfl,List.Pairwise.nil⟩
def A6(n:Nat):Rise (Array.range n):=by
 unfold Rise;rw[Array.toList_range];exact List.pairwise_lt_range
def Tb.stand {b:Bool}{t:SetTable} (h:Tb b t) (n:Nat):Tb b (t.standIn n):=⟨h.led,rfl,A6 n⟩
def Tb.orStand {b:Bool}{t:SetTable} (h:Tb b t) (n:Nat):Tb b (t.orStandIn n):=by
 unfold SetTable.orStandIn;split
 ·exact h
 ·exact h.stand n
def Tb.plainOff {b:Bool}{t:SetTable} (h:Tb b t):Tb b {t with plain:=false}:=⟨h.led,h.dum,h.ris⟩
def Tb.put {b:Bool}{t:SetTable} (h:Tb b t) {j:Nat} (hn:t.place[SetTable.below t.place j]?≠some j):Tb b (t.put j).1:=by
 refine⟨h.led,?_,B7 h.ris hn⟩;show(if SetTable.has t.dummies j=true then _ else t.dummies)=#[];rw[h.dum,PM];rfl
def B6{b:Bool}{t:SetTable}(h:Tb b t)(f:Nat->Int)(z:Int):∀(fuel:Nat) (p:SetTable.Probe) (j:Nat) (d:Option Nat),p.dummy=none->SetTable.probe.go t f z fuel p=some (.empty j d)->d=none/\t.place[SetTable.below t.place j]?≠some j:=by
 intro fuel
 induction fuel with
 |zero=>intro p j d _ e;cases e
 |succ fuel ih=>
  intro p j d hp e;unfold SetTable.probe.go at e
  have hadv:∀q:SetTable.Probe,q.dummy=none->(t.advance q).dummy=none:=fun q hq=>by
   unfold SetTable.advance;split
   ·exact hq
   ·exact hq
  cases es:t.slot p.j with
  |empty=>
   rw[es]at e;have e':=ZE e;injection e' with e1 e2;subst e1;refine⟨e2.symm.trans hp,fun hz=>?_⟩;unfold SetTable.slot at es
   dsimp only at es
   rw[hz]at es;simp at es
  |dummy=>
   exfalso;unfold SetTable.slot at es
   dsimp only at es
   split at es
   ·cases es
   ·rw[h.dum,PM]at es;simp at es
  |live i=>
   rw[es]at e
   dsimp only at e
   split at e
   ·cases e
   ·exact ih _ j d (hadv p hp) e
def Tb.layNew {b:Bool}{t:SetTable} (h:Tb b t) (es:Array (Int×Value)) (z:Int) (x:Value):Tb b (PySem.layNew t es z x).2.1:=by
 unfold PySem.layNew;split
 ·rename_i slot wasDummy e
  have hn:t.place[SetTable.below t.place slot]?≠some slot:=by
   unfold SetTable.freeSlot SetTable.probe at e;split at e
   ·rename_i j dummy e';obtain⟨h1,h2⟩:=B6 h _ _ _ _ _ _ rfl e';subst h1
    have:=ZE e
    have hj:j=slot:=Yg Prod.fst this;rw[←hj];exact h2
   ·cases e
  exact(h.put hn).orStand _
 ·exact h.stand _
def FD(n:Nat)(f:Nat->Option Nat):((List.range n).filterMap fun j=>(f j).map (j,·)).Pairwise (fun a b=>a.1<b.1):=by
 refine List.Pairwise.filterMap _ ?_ List.pairwise_lt_range;intro a a' haa b hb b' hb';cases e:f a with
 |none=>rw[e]at hb;cases hb
 |some v=>
  cases e':f a' with
  |none=>rw[e']at hb';cases hb'
  |some v'=>
   rw[e]at hb;rw[e']at hb';cases hb
   cases hb'
   exact haa
def Tb.relayAll {b:Bool}{t:SetTable} (h:Tb b t) (es:Array (Int×Value)) (n:Nat):Tb b (PySem.relayAll t es n).2.1:=by
 unfold PySem.relayAll;split
 ·rename_i t' order e
  dsimp only
  split
  ·unfold SetTable.relaid SetTable.laid at e;cases e2:SetTable.layClean (SetTable.sizeAbove n-1) (es.map (·.1))with
   |none=>rw[e2]at e;cases e
   |some owner=>
    rw[e2]at e;have e':=Yg Prod.fst (ZE e);subst e';refine⟨h.led,rfl,?_⟩;show(List.map (fun x:Nat×Nat=>x.fst) ((List.range (SetTable.sizeAbove n-1+1)).filterMap fun j=>(owner.getD j none).map (j,·))).toArray.toList.Pairwise (· < ·);rw[List.toList_toArray,List.pairwise_map];exact FD _ _
  ·exact h.stand _
 ·exact h.stand _
def keyOf(e:Int×Value):Int:=match e.2 with
 | .int k _=>k
 |_=>0
def Ent(e:Int×Value):Prop:=∃(k:Int) (t:Tok),e=(hashInt k,.int k t)
section
variable (prog:Program) (w:World)
def V9(w:World):Bool:=w.params.followText "set-order"
structure SetAt (h:Heap) (a:Addr) (js:List Int) (es:Array (Int×Value)) (ep:Nat) (t:SetTable):Prop where
 obj:∃o,h.get? a=some o/\o.ExactSet/\o.data=.set es ep t
 ent:∀e∈es.toList,Ent e
 per:(es.toList.map keyOf).Perm js
 nod:js.Nodup
 few:es.size<scanBound
 fit:t.fits es.size=true
 tab:Tb (!V9 w) t
def SetB(h:Heap)(a:Addr)(js:List Int):Prop:=∃es ep t,SetAt w h a js es ep t
end
section
variable {prog:Program}{w:World}{A:Around}{E:Value->Shared->Prop}{s:Shared}
def Ent.elems {l:List (Int×Value)} (h:∀e∈l,Ent e):ElemsOf (intKind prog w) l:=fun e he=>by
 obtain⟨k,t,rfl⟩:=h e he;exact⟨⟨k,intKind_is _ _ _ _,rfl⟩,rfl⟩
def Ni{e:Int×Value}(h:Ent e)(k:Int):(intKind prog w).is k e.2=decide (k=keyOf e):=by
 obtain⟨k',t,rfl⟩:=h;show Value.isInt k (.int k' t)=decide (k=k');by_cases e:k=k'
 ·subst e;simp[Value.isInt]
 ·rw[ZM e];simp[Value.isInt];exact fun z=>e z.symm
def SetB.len {h:Heap}{a:Addr}{js:List Int}{es:Array (Int×Value)}{ep:Nat}{t:SetTable} (S:SetAt w h a js es ep t):es.size=js.length:=by
 have:=S.per.length_eq
 simpa using this
def SetB.at {h h':Heap}{a:Addr}{js:List Int} (S:SetB w h a js) (k:∀o,h.get? a=some o->h'.get? a=some o):SetB w h' a js:=by
 obtain⟨es,ep,t,⟨o,ho,r⟩,b,c,d,e,f,g⟩:=S;exact⟨es,ep,t,⟨o,k o ho,r⟩,b,c,d,e,f,g⟩
def SetAt.store {h:Heap}{a:Addr}{js js':List Int}{es es':Array (Int×Value)}{ep:Nat}{t t':SetTable} (S:SetAt w h a js es ep t) (h1:∀e∈es'.toList,Ent e) (h2:(es'.toList.map keyOf).Perm js') (h3:js'.Nodup) (h4:es'.size<scanBound)
  (h5:t'.fits es'.size=true) (h6:Tb (!V9 w) t'):SetAt w (h.update a (Obj.putSet es' t')) a js' es' (ep+1) t':=by
 obtain⟨o,ho,hx,hd⟩:=S.obj;refine⟨⟨{o with data:=.set es' (ep+1) t'},?_,hx,rfl⟩,h1,h2,h3,h4,h5,h6⟩
 have q:=Yy (Obj.putSet es' t') ho (by rw[putSet_of es' t' hd];rfl);rwa[putSet_of es' t' hd]at q
def NH{g:Bool->Sem Unit}(hg:∀(b:Bool) (s':Shared) (R':Unit->Shared->Prop),R' () s'->wpAny (model prog w) A (g b) R' E s'){a:Addr}{js js':List Int}{es es':Array (Int×Value)}{ep:Nat}{t t':SetTable}(S:SetAt w s.heap a js es ep t)(h1:∀e∈es'.toList,Ent e)(h2:(es'.toList.map keyOf).Perm js')(h3:js'.Nodup)(h4:es'.size<scanBound)(h5:t'.fits es'.size=true)(h6:Tb (!V9 w) t'){d:Bool}{R:Option Bool->Shared->Prop}(fin:∀h',Heap.SameBut a s.heap h'->SetB w h' a js'->R (some true) {s with heap:=h'}) :
  wpAny (model prog w) A (do
    storeSet a es' t'
    if (!d&&t'.tooFull)=true then do
      g (relayAll t' es' (SetTable.grown es'.size)).2.2
      storeSet a (relayAll t' es' (SetTable.grown es'.size)).1 (relayAll t' es' (SetTable.grown es'.size)).2.1
      pure (some true)
     else pure (some true)) R E s:=by
 obtain⟨o,ho,hx,hd⟩:=S.obj;have S1:=S.store h1 h2 h3 h4 h5 h6;obtain⟨o1,ho1,hx1,hd1⟩:=S1.obj;have B1:=Yx s.heap a (Obj.putSet es' t');refine Z4 (wpAny_storeSet_of ho hd ?_ (WR h4));split
 ·have pp:=relayAll_perm t' es' (SetTable.grown es'.size);have ff:=relayAll_fits t' es' (SetTable.grown es'.size);have tt:=h6.relayAll es' (SetTable.grown es'.size);generalize relayAll t' es' (SetTable.grown es'.size)=y at pp ff tt ⊢;obtain⟨es2,t2,g2⟩:=y
  dsimp only at pp ff tt ⊢
  have z:es2.size=es'.size:=by rw[←Yk,pp.length_eq,Yk]
  refine Z4 (hg _ _ _ (Z4 (wpAny_storeSet_of ho1 hd1 ?_ (WR (by rw[z];exact h4)))));exact Z8 (fin _ (B1.trans (Yx _ a _)) ⟨_,_,_,S1.store (fun e he=>h1 e (pp.mem_iff.mp he)) ((pp.map keyOf).trans h2) h3 (by rw[z];exact h4) ff tt⟩)
 ·exact Z8 (fin _ B1 ⟨_,_,_,S1⟩)
def addJ(js:List Int)(k:Int):List Int:=if k∈js then js else js++[k]
def Fg{a:Addr}{js:List Int}{k:Int}{tk:Tok}{R:Bool->Shared->Prop}(S:SetB w s.heap a js)(room:js.length+1<scanBound)(fin:∀(r:Bool) h',Heap.SameBut a s.heap h'->SetB w h' a (addJ js k)->R r {s with heap:=h'}) :
  wpAny (model prog w) A (setAddHashed a (.int k tk) (hashInt k)) R E s:=by
 obtain⟨es,ep,t,S⟩:=S;obtain⟨o,ho,hx,hd⟩:=S.obj;have el:=Ent.elems (prog:=prog) (w:=w) S.ent;have hz:es.size=js.length:=SetB.len S;unfold setAddHashed setAddHashedIn;refine W6 (Z4 (YW ho hd S.fit ?_))
 dsimp only
 rw[byScan_of (x:=.int k tk) rfl S.few el];simp only[↓reduceIte];unfold setAddByScan;refine Z4 (Z4 (wpAny_rule (Z4 (wpAny_setScan_of (knd:=intKind prog w) (k:=k) (intKind_is _ _ _ _) ho hd S.fit el ?_))));have mem:∀z:Int,z∈js↔∃e∈es.toList,keyOf e=z:=fun z=>by rw[←S.per.mem_iff,ZS]
 cases q:List.findIdx? (fun e=>(intKind prog w).is k e.2) es.toList with
 |some j=>
  dsimp only
  obtain⟨hj,pj,_⟩:=List.findIdx?_eq_some_iff_getElem.mp q
  have hk:k∈js:=by
   rw[Ni (S.ent _ (ZV hj))]at pj;exact(mem k).mpr ⟨_,ZV hj,(ZZ pj).symm⟩
  refine Z8 (Z8 ?_);have f:=fin false s.heap (Heap.SameBut.refl a s.heap);unfold addJ at f;rw[ZH hk]at f;exact f ⟨_,_,_,S⟩
 |none=>
  dsimp only
  have hk:¬k∈js:=fun hz=>by
   obtain⟨e,he,hke⟩:=(mem k).mp hz
   have:=List.findIdx?_eq_none_iff.mp q e he
   rw[Ni (S.ent e he),ZC hke.symm]at this;cases this
  have P:=layNew_perm t es (hashInt k) (.int k tk);have F:=layNew_fits t es (hashInt k) (.int k tk);have T:=S.tab.layNew es (hashInt k) (.int k tk);change wpAny (model prog w) A (match layNew t es (hashInt k) (.int k tk)with|(es,t,wasDummy,gave)=>_) _ _ _
  generalize layNew t es (hashInt k) (.int k tk)=y at P F T ⊢;obtain⟨es1,t1,d1,g1⟩:=y
  dsimp only at P F T ⊢
  rw[Array.toList_push]at P
  have e1:∀e∈es1.toList,Ent e:=fun e he=>by
   rcases ZU.mp (P.mem_iff.mp he)with he|he
   ·exact S.ent e he
   ·rw[ZA.mp he];exact⟨k,tk,rfl⟩
  have e2:(es1.toList.map keyOf).Perm (js++[k]):=by
   refine(P.map keyOf).trans ?_;rw[Yh];exact S.per.append_right _
  have e3:(js++[k]).Nodup:=Y5.mpr ⟨S.nod,by simp,fun x hx y hy=>by rw[ZA.mp hy];rintro rfl;exact hk hx⟩
  have e4:es1.size<scanBound:=by
   rw[←Yk,P.length_eq,ZX,Yk,hz];exact room
  have fin':∀h',Heap.SameBut a s.heap h'->SetB w h' a (js++[k])->R true {s with heap:=h'}:=fun h' sb q'=>by
   have f:=fin true h' sb;unfold addJ at f;rw[ZG hk]at f;exact f q'
  have gw:∀(b:Bool) {s':Shared} {R':Unit->Shared->Prop},R' () s'->wpAny (model prog w) A (match b with|true=>rule "set.scan.the-table-gave-way" |false=>pure ()) R' E s':=fun b s' R' r'=>by cases b<;>first|exact Z8 r'|exact wpAny_rule r'
  refine Z4 (gw _ ?_);split
  ·refine Z4 ?_;rw[hashByValue_scannable 8 (x:=.int k tk) rfl];refine Z8 (NH (fun b s' R' r'=>gw b r') S e1 e2 e3 e4 ?_ ?_ fun h' sb q'=>Z8 (fin' h' sb q'))
   ·split
    ·exact F
    ·exact SetTable.fits_plain_off F
   ·split
    ·exact T
    ·exact T.plainOff
  ·refine Z4 (Z8 ?_);simp only[↓reduceIte];exact NH (fun b s' R' r'=>gw b r') S e1 e2 e3 e4 F T fun h' sb q'=>Z8 (fin' h' sb q')
def D5{R:Result->Shared->Prop}{I:Addr}{fp wr:List Addr}{P:Nat->Value->Prop}{St:Nat->Heap->Prop}{ns:List Int}(W:Walks prog w A.in1 I fp wr ns.length P St)(S:Addr)(hS:S∉fp)(hv:∀i v,P i v->∃t,v=.int (ns.getD i 0) t)(room:ns.length+1<scanBound):∀(k i:Nat) (s:Shared) (js:List Int),ns.length-i=k->i<=ns.length->St i s.heap->SetB w s.heap S js->js.length<=i->
   (∀h' tk,(∀b o,b∉S::wr->s.heap.get? b=some o->h'.get? b=some o)->SetB w h' S ((ns.drop i).foldl addJ js)->R (.ok (.ret .none)) {s with heap:=h',toks:=tk})->
   codeAny (model prog w) A (.builtin "set.update.loop" ⟨[.ref S,.ref I],[]⟩) R s:=by
 have hSw:S∉wr:=fun z=>hS (W.sub _ z);intro k
 induction k with
 |zero=>
  intro i s js hk hi st B hj fin;have ei:i=ns.length:=by omega
  refine Wn WE ?_;rw[Wa YT _];show wpAny _ A.in1 (pyNext (.ref I) >>= _) _ _ s;refine Z4 (W.done s _ _ (ei▸st) fun h' tk keep=>?_);show wpAny _ A.in1 (ret Value.none) _ _ _;refine Z8 (fin h' tk (fun b o hb e=>keep b o (fun z=>hb (Ya _ z)) e) ?_);rw[ei,List.drop_length];exact B.at fun o e=>keep S o hSw e
 |succ k ih=>
  intro i s js hk hi st B hj fin;have hlt:i<ns.length:=by omega
  refine Wn WE ?_;rw[Wa YT _];show wpAny _ A.in1 (pyNext (.ref I) >>= _) _ _ s;refine Z4 (W.item i s _ _ hlt st fun v h1 tk1 pv st1 keep1=>?_);obtain⟨t,rfl⟩:=hv i v pv;have B1:SetB w h1 S js:=B.at fun o e=>keep1 S o hSw e;show wpAny _ A.in1 (holding [Value.int (ns.getD i 0) t] (setAdd S (.int (ns.getD i 0) t)) >>= _) _ _ _;unfold setAdd;refine Z4 (W6 (W6 (Z4 ((intKind prog w).pyHash (k:=ns.getD i 0) (intKind_is _ _ _ _) ?_))));refine Fg (k:=ns.getD i 0) B1 (by omega) fun r h2 sb B2=>?_
  have el:(addJ js (ns.getD i 0)).length<=i+1:=by
   unfold addJ;split
   ·omega
   ·simp;omega
  refine Z8 ⟨WW YT _,ih (i+1) _ _ (by omega) hlt (W.frame _ h1 _ st1 fun b hb o e=>?_) B2 el fun h' tk keep B'=>?_⟩
  ·rw[sb.2 b (fun z:b=S=>hS (by rw[←z];exact hb))];exact e
  ·refine fin h' tk (fun b o hb e=>keep b o hb ?_) ?_
   ·rw[sb.2 b (fun z:b=S=>hb (by rw[z];exact Yj))];exact keep1 b o (fun z=>hb (Ya _ z)) e
   ·have e1:ns.drop i=ns.getD i 0::ns.drop (i+1):=by
     rw[List.drop_eq_getElem_cons hlt,Z7,Z5 hlt];rfl
    rw[e1];exact B'
def Ab(a:Value){Q:Value->Shared->Prop}(fin:Q (.ref s.heap.objs.size) {s with heap:=s.heap.push {cls:=.type "set",dict:=none,data:=.set #[] 0 (.fresh 0 0 (!V9 w))}}) :
  codeAny (model prog w) A (.call (.builtin "set.__new__") ⟨[.type "set",a],[]⟩) (wants Q E) s:=by
 refine codeAny_of_tree (show wpAny _ A.in1 (do checkBuiltinCall "set.__new__" ⟨[.type "set",a],[]⟩;again (.builtin "set.__new__" ⟨[.type "set",a],[]⟩)) _ _ s from ?_)
 refine Z4 (wpAny_of_eq (F.newCall_set_1 a) (Z8 ⟨WW F.plain_set_new _,Wn F.entry_set_new ?_⟩));have und:=Wa (A:=A) F.plain_set_new ⟨[.type "set",a],[]⟩;rw[und];unfold Builtin.«set.__new__» Builtin.Frozenset.newClass;have q1:=sub_set_self;obtain⟨hh,gg,dd,tt,oo⟩:=s
 dsimp only
 wp_walk
 refine wpAny_askSetting (Z8 (show wpAny _ _ _ _ _ _ from ?_))
 dsimp only
 simp only[newObj];exact Z4 (wpAny_alloc (Z8 (Z8 fin)))
set_option maxHeartbeats 4000000 in
def Er{l:Addr}{its:Array Value}{ns:List Int}{Q:Value->Shared->Prop}(hh:A.handled=none)(hl:s.heap.IsList l its)(hi:IntsAre its.toList ns)(room:ns.length+1<scanBound)(fin:∀(h':Heap) (tk:Nat),SetB w h' s.heap.objs.size (ns.foldl addJ [])->(∀b o,b<s.heap.objs.size->s.heap.get? b=some o->h'.get? b=some o)->Q (.ref s.heap.objs.size) {s with heap:=h',toks:=tk}) :
  wpAny (model prog w) A (call (.type "set") [.ref l]) Q E s:=by
 have hn:its.size=ns.length:=by have:=IntsAre.length hi;simpa using this
 obtain⟨mroC,mroT,mro⟩:=F.called_set.mro;have made:=F.called_set.made;have subs:=F.called_set.sub;refine wpAny_call (codeAny_of_tree (show wpAny _ _ (callAny (.type "set") _) _ _ _ from ?_))
 refine Z8 ⟨Code.quiet_builtin _ (by decide +kernel),Wn F.entry_type_call ?_⟩;have wt:=Around.under_plain (A:=A) (weight_type_call_type "set" [.ref l] []) rfl;rw[wt];have nt:=F.called_set.notType;have cc:=F.called_set.canCreate;have tc:=F.typeCall_set_1 (.ref l)
 repeat (any_goals (first|assumption|wp_step))
 refine WB (Ab (.ref l) (E:=E) (Q:=fun obj s1=>obj=.ref s.heap.objs.size/\s1={s with heap:=s.heap.push {cls:=.type "set",dict:=none,data:=.set #[] 0 (.fresh 0 0 (!V9 w))}}) ⟨rfl,rfl⟩) fun r s1 hr=>?_
 cases r with
 |error e=>exact hr
 |ok fl=>
  cases fl with
  |next=>exact hr.elim
  |brk=>exact hr.elim
  |cont=>exact hr.elim
  |ret obj=>
   obtain⟨rfl,rfl⟩:=hr;generalize eH:s.heap.push {cls:=.type "set",dict:=none,data:=.set #[] 0 (.fresh 0 0 (!V9 w))}=H1;have g1:H1.get? s.heap.objs.size=some {cls:=.type "set",dict:=none,data:=.set #[] 0 (.fresh 0 0 (!V9 w))}:=by rw[←eH];exact ZL _ rfl
   have hT:Shared.TypeIs {s with heap:=H1} (.ref s.heap.objs.size) "set":=⟨_,g1,rfl⟩
   have ini:=F.called_set.init.lookup;have inb:=F.called_set.init.bind (.ref s.heap.objs.size)
   repeat (any_goals (first|assumption|wp_step))
   refine WB (codeAny_call_builtin (R:=wants (fun r s2=>r=.none/\∃h' tk,s2={s with heap:=h',toks:=tk}/\SetB w h' s.heap.objs.size (ns.foldl addJ [])/\(∀b o,b<s.heap.objs.size->s.heap.get? b=some o->h'.get? b=some o)) E)
    F.called_set.init.plain F.entry_set_init (check_set_init_1 hT ?_)) fun r2 s2 hr2=>?_
   ·obtain⟨ob,hob,hcl,nl,hdl⟩:=hl;obtain⟨c1,d1,dt1,sl1⟩:=ob;simp only at hcl hdl;subst hcl;subst hdl;have hob1:H1.get? l=some {cls:=.type "list",dict:=d1,data:=.seq its nl,slots:=sl1}:=by rw[←eH];exact Z9 _ hob
    have sz1:H1.objs.size=s.heap.objs.size+1:=by rw[←eH,Heap.size_push]
    have no1:=F.sub_list_set;have no2:=F.sub_list_frozenset;have no3:(Value.type "list" == Value.type "dict")=false:=by decide
    have L1:H1.IsList l its:=⟨_,hob1,rfl,nl,rfl⟩;unfold Builtin.«set.__init__» noKeywords Builtin.Frozenset.updateFrom;generalize eP:pyIter=PI
    wp_walk
    subst eP;refine wpAny_pyIter_list L1 (Z4 (wpAny_runValue ?_));have lt1:l<s.heap.objs.size:=ZK hob;have hd3:A.in1.in1.in1.handled=none:=by simp[hh]
    have ne1:l≠H1.objs.size:=by rw[sz1];exact Yf (WS lt1)
    have no4:s.heap.objs.size∉[H1.objs.size,l]:=by
     rw[sz1];simp only[ZT,Qb,or_false,not_or];exact⟨Yf (Nat.lt_succ_self _),Nat.ne_of_gt lt1⟩
    have W0:=Walks.list (prog:=prog) (w:=w) hd3 H1.objs.size l ne1 its;rw[hn]at W0;refine D5 (ns:=ns) W0 s.heap.objs.size no4 (fun i v hv=>IntsAre.int_at hi i v (by rw[Y7];exact hv)) room (ns.length-0) 0 _ [] rfl (Y0 _) ⟨⟨_,ZL _ rfl,rfl,rfl⟩,L1.push _⟩ ?_ (Y0 _) fun h' tk keep B=>?_
    ·exact⟨#[],0,_,⟨_,Z9 _ g1,⟨rfl,rfl,rfl⟩,rfl⟩,fun e he=>by simp at he,by simp,Ww,by show(0:Nat)<4096;decide,rfl,Tb.fresh _⟩
    ·show wpAny _ _ _ _ _ _;refine Z8 (show wpAny _ _ (ret Value.none) _ _ _ from Z8 ⟨rfl,h',tk,rfl,B,fun b o hb e=>?_⟩)
     refine keep b o ?_ (Z9 _ (by rw[←eH];exact Z9 _ e));rw[sz1];simp only[ZT,Qb,or_false,not_or];exact⟨Yf hb,Yf (WS hb)⟩
   ·cases r2 with
    |error e=>exact hr2
    |ok f2=>
     cases f2 with
     |next=>exact hr2.elim
     |brk=>exact hr2.elim
     |cont=>exact hr2.elim
     |ret r=>
      obtain⟨rfl,h',tk,rfl,B,keep⟩:=hr2
      repeat (any_goals (first|assumption|wp_step))
      exact fin _ _ B keep
end
def si_slot:Slot "set_iterator" "__next__" "set_iterator.__next__":=
 Slot.of (owner:="set_iterator") (n:="__next__") (by rw[typeLookup_type,builtinLookup_eq_fast];kernel_rfl) (by decide +kernel) (by decide +kernel) (by decide +kernel)
  (by first|exact Or.inl (by decide +kernel)|exact Or.inr (by decide +kernel)) (by rw[isSubtype_type];kernel_rfl)
def Ai:entryFor table "set_iterator.__next__"=some Builtin.«set_iterator.__next__»:=entryFor_of_tree (by kernel_rfl)
def AV(a:Value):argsOk "set_iterator.__next__" ⟨[a],[]⟩:=by unfold argsOk;kernel_rfl
def DG:entryFor table "set.__iter__"=some Builtin.«frozenset.__iter__»:=entryFor_alias (id':="frozenset.__iter__") (by kernel_rfl) rfl (by decide +kernel) (by kernel_rfl)
def T5:Slot "set_iterator" "__iter__" "set_iterator.__iter__":=
 Slot.of (owner:="set_iterator") (n:="__iter__") (by rw[typeLookup_type,builtinLookup_eq_fast];kernel_rfl) (by decide +kernel) (by decide +kernel) (by decide +kernel)
  (by first|exact Or.inl (by decide +kernel)|exact Or.inr (by decide +kernel)) (by rw[isSubtype_type];kernel_rfl)
def Dg:entryFor table "set_iterator.__iter__"=some Builtin.«dict_keyiterator.__iter__»:=entryFor_alias (id':="dict_keyiterator.__iter__") (by kernel_rfl) rfl (by decide +kernel) (by kernel_rfl)
def Am(a:Value):argsOk "set_iterator.__iter__" ⟨[a],[]⟩:=by unfold argsOk;kernel_rfl
def SI(h:Heap)(I a:Addr)(first:Value)(i n ep:Nat):Prop:=∃o,h.get? I=some o/\o.cls=.type "set_iterator"/\o.data=.fields #[first,.int i 0,.ref a,.int n 0,.int ep 0]
section
variable {prog:Program}{w:World}{A:Around}{E:Value->Shared->Prop}{s:Shared}{I a:Addr}{first:Value}{i n ep:Nat}{js:List Int}{es:Array (Int×Value)}{t:SetTable}
def SI.typ (h:SI s.heap I a first i n ep):s.TypeIs (.ref I) "set_iterator":=let ⟨o,ho,hc,_⟩:=h;⟨o,ho,hc⟩
def SI.at {h h':Heap} (x:SI h I a first i n ep) (k:∀o,h.get? I=some o->h'.get? I=some o):SI h' I a first i n ep:=let ⟨o,ho,r⟩:=x;⟨o,k o ho,r⟩
def JH(first:Value)(a I:Addr)(i ep:Int):Sem PySem.Fin:=
 match first with
 |Value.int slot _=>do
  match ←setNext a slot.toNat i.toNat ep.toNat with
  |some (x,next)=>
   setField (.ref I) 0 (rawInt next)
   setField (.ref I) 1 (rawInt (i+1))
   ret x
  |none=>
   setField (.ref I) 2 .none
   raiseNew (←newExc (.type "StopIteration") [])
 |_=>do
  let some places ←seqItems? first|unsupported "internal:set_iterator"
  match places[i.toNat]? with
  |some (.int place _)=>
   let x ←setNextDrawn a place.toNat ep.toNat
   setField (.ref I) 1 (rawInt (i+1))
   ret x
  |some _=>unsupported "internal:set_iterator"
  |none=>
   setField (.ref I) 0 (rawInt 0)
   setField (.ref I) 2 .none
   raiseNew (←newExc (.type "StopIteration") [])
def Xg{Q:Option Value->Shared->Prop}(hit:SI s.heap I a first i es.size ep)(S:SetAt w s.heap a js es ep t)
  (body:wpAny (model prog w) A.in1 (JH first a I i ep) (fun fin s'=>∃v,fin=.done (.ret v)/\Q (some v) s')
   (fun e s'=>wpAny (model prog w) A (isInstance e (.type "StopIteration")) (fun b s''=>b=true/\Q none s'') E s') s) :
  wpAny (model prog w) A (pyNext (.ref I)) Q E s:=by
 obtain⟨o,ho,hc,hd⟩:=id hit;obtain⟨ob,hob,hx,hdd⟩:=S.obj;unfold pyNext;refine Z4 (wpAny_attempt (WN (name:=Str.ofString "__next__") hit.typ si_slot (YO si_slot hit.typ Ai ?_ (AV _))));unfold Builtin.«set_iterator.__next__»;refine Z4 (Z8 (Z4 (wpAny_fieldsOf ho hd ?_)));show wpAny _ _ (setEntries a >>= fun x=>if ((x.size:Int) != (es.size:Int))=true then _ else JH first a I i ep) _ _ s
 refine Z4 (wpAny_setEntries_of hob hdd S.fit ?_);rw[ZG (by simp)];refine Y3 body (fun fin s' h=>?_) fun e s' h=>?_
 ·obtain⟨v,e,q⟩:=h;exact⟨v,e,Z8 q⟩
 ·refine Z4 (Y3 h (fun b s'' h2=>?_) fun _ _ z=>z);obtain⟨rfl,q⟩:=h2;exact Z8 q
def P7{Q:Option Value->Shared->Prop}{o:Obj}{vs:Array Value}(hh:A.handled=none)(ho:s.heap.get? I=some o)(hd:o.data=.fields vs)(h2:2<vs.size)(fin:∀h',Heap.ExtBut I s.heap h'->Q none {s with heap:=h'}){R:PySem.Fin->Shared->Prop} :
  wpAny (model prog w) A.in1 (do setField (.ref I) 2 .none;raiseNew (←newExc (.type "StopIteration") [])) R (fun e s'=>wpAny (model prog w) A (isInstance e (.type "StopIteration")) (fun b s''=>b=true/\Q none s'') E s') s:=by
 refine Z4 (Wb ho hd h2 (Z4 ?_));simp only[newExc,newTuple];refine Z4 (Yq ?_ (by size_fits));refine Z4 (m:=firstArgMember _ _) (wpAny_of_eq (a:=Value.none) (by first|rfl|(simp only[firstArgMember];rfl)) (Yq ?_ (by size_fits)))
 simp only[raiseNew];refine Z4 (wpAny_handled ?_);have e1:A.in1.handled=none:=hh;rw[e1];refine Z4 (Z8 (wpAny_throw ?_));refine wpAny_isInstance (T:="StopIteration") (b:=true) ⟨_,ZL _ rfl,rfl⟩ isSubtype_stop ?_;exact⟨rfl,fin _ (((Yx ..).extBut.push _).push _)⟩
def SI.step1 {o:Obj}{x:Value} (ho:s.heap.get? I=some o) (hc:o.cls=.type "set_iterator") (hd:o.data=.fields #[first,.int i 0,.ref a,.int n 0,.int ep 0]) :
  SI (s.heap.update I (Obj.mapFields (·.setIfInBounds 1 (rawInt ((i:Int)+1))))) I a first (i+1) n ep:=
 ⟨_,Yy _ ho (Wx (Y9 hd _)),(Obj.cls_mapFields ..).trans hc,by rw[Y9 hd];simp[rawInt]⟩
def Xd{Q:Bool->Shared->Prop}(h:Q (V9 w) s):wpAny (model prog w) A setsByText Q E s:=by
 unfold setsByText;exact Z4 (wpAny_askSetting (Z8 h))
def Fw{Q:Option (Value×Nat)->Shared->Prop}{slot:Nat}(S:SetAt w s.heap a js es ep t)(hb:V9 w=true)(h:Q (((pickOrder (w.params.setOrder a ep) es)[i]?).map fun e=>(e.2,slot)) s) :
  wpAny (model prog w) A (setNext a slot i ep) Q E s:=by
 obtain⟨ob,hob,hx,hdd⟩:=S.obj;unfold setNext;refine Z4 (YW hob hdd S.fit (Z4 (Xd ?_)));rw[hb,ZH rfl]
 dsimp only
 rw[ZG (by simp)];refine Z4 ?_;unfold setWalk;refine Z4 (YW hob hdd S.fit (Z4 (Xd ?_)));rw[hb,ZH rfl];exact Z4 (wpAny_askSetting (Z8 (Z8 h)))
def DX{Q:Option (Value×Nat)->Shared->Prop}{slot:Nat}(S:SetAt w s.heap a js es ep t)(hb:V9 w=false)(hp:(!t.plain&&decide (es.size>1))=false)(h:Q (match es[SetTable.below t.place slot]?,t.place[SetTable.below t.place slot]? with|some (_,x),some j=>some (x,j+1)|_,_=>none) s):wpAny (model prog w) A (setNext a slot i ep) Q E s:=by
 obtain⟨ob,hob,hx,hdd⟩:=S.obj;unfold setNext;refine Z4 (YW hob hdd S.fit (Z4 (Xd ?_)));rw[hb,ZG (by decide)]
 dsimp only
 show wpAny _ _ (if (!t.plain&&decide (es.size>1))=true then _ else _) _ _ _;rw[hp,ZG (by decide)];refine Z4 (?_:wpAny _ _ (if (!t.led && !es.isEmpty)=true then unsupported "set:maker-not-led" else pure ()) _ _ _);have hl:t.led=true:=by rw[S.tab.led,hb];rfl
 rw[hl,ZG (by simp)];exact Z8 (Z8 h)
def CF{Q:Value->Shared->Prop}{p:Nat}{e:Int×Value}(S:SetAt w s.heap a js es ep t)(he:es[p]?=some e)(h:Q e.2 s):wpAny (model prog w) A (setNextDrawn a p ep) Q E s:=by
 obtain⟨ob,hob,hx,hdd⟩:=S.obj;unfold setNextDrawn;refine Z4 (YW hob hdd S.fit ?_)
 dsimp only
 rw[ZG (by simp),he];exact Z8 h
def B3{Q:Nat->Shared->Prop}{src:Source}{m:Nat}(hm:m≠0)(h:∀k d,k<m->Q k {s with drawn:=d}):wpAny (model prog w) A (choose src m) Q E s:=by
 intro Γ p hΓ;unfold choose;rw[Sem.wp_choose];exact⟨hm,h _ _ (Nat.mod_lt _ (Nat.pos_of_ne_zero hm))⟩
def Kb{α:Type}:∀(xs:List α) (k:Nat) (h:k<xs.length),(xs[k]::xs.eraseIdx k).Perm xs
 |x::r,0,_=>List.Perm.refl _
 |x::r,k+1,h=>by
  have hk:k<r.length:=by simpa using h
  have ih:=Kb r k hk;show(r[k]::x::r.eraseIdx k).Perm (x::r);exact(List.Perm.swap _ _ _).trans (List.Perm.cons _ ih)
def EG{α:Type}:∀(m:Nat) (xs:List α) (s:Shared) {Q:List α->Shared->Prop},xs.length=m->(∀ys d,ys.Perm xs->Q ys {s with drawn:=d})->wpAny (model prog w) A (drawOrder m xs) Q E s:=by
 intro m
 induction m with
 |zero=>
  intro xs s Q hl h;have e:xs=[]:=Wg.mp hl;subst e;exact Z8 (h [] s.drawn (List.Perm.refl _))
 |succ m ih=>
  intro xs s Q hl h;cases xs with
  |nil=>simp at hl
  |cons x r=>
   unfold drawOrder;refine Z4 (B3 (by simp) fun k d hk=>?_);rw[Z5 hk];refine Z4 (ih _ _ (by rw[List.length_eraseIdx_of_lt hk];simpa using hl) fun ys d2 hp=>Z8 ?_);exact h _ d2 ((List.Perm.cons _ hp).trans (Kb _ _ hk))
def SetAt.keep {h h':Heap} (S:SetAt w h a js es ep t) (k:∀o,h.get? a=some o->h'.get? a=some o):SetAt w h' a js es ep t:=by
 obtain⟨⟨o,ho,r⟩,b,c,d,e,f,g⟩:=S;exact⟨⟨o,k o ho,r⟩,b,c,d,e,f,g⟩
def Sl{Q:Value->Shared->Prop}(hit:SI s.heap I a first i n ep)(h:Q (.ref I) s):wpAny (model prog w) A (pyIter (.ref I)) Q E s:=by
 refine wpAny_pyIter_slot hit.typ T5 (YO T5 hit.typ Dg ?_ (Am _));show wpAny _ _ (ret (.ref I)) _ _ s;exact Z8 ⟨_,rfl, "set_iterator",_,hit.typ,si_slot.lookup,h⟩
def Sb(hh:A.handled=none)(I a:Addr)(hne:a≠I)(vs:List Value)(hl:vs.length=es.size)(sl:Nat->Nat)(nx:∀(A:Around) (E:Value->Shared->Prop) (s:Shared) (i:Nat) (Q:Option (Value×Nat)->Shared->Prop),i<=es.size->SetAt w s.heap a js es ep t->Q ((vs[i]?).map fun v=>(v,sl (i+1))) s->wpAny (model prog w) A (setNext a (sl i) i ep) Q E s) :
  Walks prog w A I [I,a] [I] es.size (fun i v=>vs[i]?=some v) (fun i h=>SI h I a (.int (sl i) 0) i es.size ep/\SetAt w h a js es ep t) where
 sub:=fun b hb=>by simp at hb;simp[hb]
 frame:=fun _ _ _ st k=>⟨st.1.at fun o e=>k I (by simp) o e,st.2.keep fun o e=>k a (by simp) o e⟩
 item:=fun i s Q E hi st fin=>by
  obtain⟨o,ho,hc,hd⟩:=id st.1;refine Xg st.1 st.2 ?_;unfold JH
  dsimp only
  rw[ZN,ZN,ZN];refine Z4 (nx _ _ s i _ (WA hi) st.2 ?_);have hi2:i<vs.length:=by omega
  rw[Z5 hi2];show wpAny _ _ (do setField (.ref I) 0 (rawInt (sl (i+1)));setField (.ref I) 1 (rawInt ((i:Int)+1));ret vs[i]) _ _ s
  refine Z4 (Wb ho hd (by simp) ?_);have g1:=Yy (Obj.mapFields (·.setIfInBounds 0 (rawInt (sl (i+1):Int)))) ho (Wx (Y9 hd _));have d1:(Obj.mapFields (·.setIfInBounds 0 (rawInt (sl (i+1):Int))) o).data=.fields #[.int (sl (i+1)) 0,.int i 0,.ref a,.int es.size 0,.int ep 0]:=by rw[Y9 hd];simp[rawInt]
  refine Z4 (Wb g1 d1 (by simp) ?_);have sb:=(Yx s.heap I (Obj.mapFields (·.setIfInBounds 0 (rawInt (sl (i+1):Int))))).trans (Yx _ I (Obj.mapFields (·.setIfInBounds 1 (rawInt ((i:Int)+1)))));refine Z8 ⟨_,rfl,fin vs[i] _ s.toks (Z5 hi2) ⟨?_,st.2.keep fun o e=>sb.extBut a o hne e⟩ fun b o hb e=>sb.extBut b o (fun z=>hb (by simp[z])) e⟩;exact SI.step1 (s:={s with heap:=_}) (x:=.none) g1 ((Obj.cls_mapFields ..).trans hc) d1
 done:=fun s Q E st fin=>by
  obtain⟨o,ho,hc,hd⟩:=id st.1;refine Xg st.1 st.2 ?_;unfold JH
  dsimp only
  rw[ZN,ZN,ZN];refine Z4 (nx _ _ s es.size _ (ZF _) st.2 ?_);rw[Wy (by omega)];exact P7 hh ho hd (by simp) fun h' eb=>fin h' s.toks fun b o hb e=>eb b o (fun z=>hb (by simp[z])) e
 self:=fun _ _ _ _ st fin=>Sl st.1 fin
def Fx(hh:A.handled=none)(I a T:Addr)(hne:a≠I)(hT:T≠I)(ps:List Nat)(hl:ps.length=es.size)(hps:∀p∈ps,p<es.size)(vs:List Value)(hvs:vs=ps.map fun p=>((es[p]?).map (·.2)).getD .none) :
  Walks prog w A I [I,a,T] [I] es.size (fun i v=>vs[i]?=some v) (fun i h=>SI h I a (.ref T) i es.size ep/\SetAt w h a js es ep t/\∃o,h.get? T=some o/\∃c,o.data=.seq (ps.map fun(p:Nat)=>rawInt p).toArray c) where
 sub:=fun b hb=>by simp at hb;simp[hb]
 frame:=fun _ _ _ st k=>⟨st.1.at fun o e=>k I (by simp) o e,st.2.1.keep fun o e=>k a (by simp) o e,let ⟨o,ho,c⟩:=st.2.2;⟨o,k T (by simp) o ho,c⟩⟩
 item:=fun i s Q E hi st fin=>by
  obtain⟨o,ho,hc,hd⟩:=id st.1;obtain⟨oT,hoT,c,hdT⟩:=st.2.2;refine Xg st.1 st.2.1 ?_;unfold JH
  dsimp only
  refine Z4 (wpAny_seqItems hoT hdT ?_);have hi2:i<ps.length:=by omega
  have e1:(ps.map fun(p:Nat)=>rawInt p).toArray[(i:Int).toNat]?=some (.int ps[i] 0):=by
   rw[ZN,List.getElem?_toArray,ZD,Z5 hi2];rfl
  have hp:=hps _ (ZV hi2)
  dsimp only
  rw[e1]
  dsimp only
  have e2:es[ps[i]]?=some es[ps[i]]:=Y6 hp;have e3:vs[i]?=some (es[ps[i]]).2:=by rw[hvs,ZD,Z5 hi2];simp[hp]
  rw[ZN,ZN];refine Z4 (CF st.2.1 e2 (Z4 (Wb ho hd (by simp) ?_)));have sb:=Yx s.heap I (Obj.mapFields (·.setIfInBounds 1 (rawInt ((i:Int)+1))));exact Z8 ⟨_,rfl,fin _ _ s.toks e3 ⟨SI.step1 (x:=.none) ho hc hd,st.2.1.keep fun o e=>sb.extBut a o hne e,oT,sb.extBut T oT hT hoT,c,hdT⟩ fun b o hb e=>sb.extBut b o (fun z=>hb (by simp[z])) e⟩
 done:=fun s Q E st fin=>by
  obtain⟨o,ho,hc,hd⟩:=id st.1;obtain⟨oT,hoT,c,hdT⟩:=st.2.2;refine Xg st.1 st.2.1 ?_;unfold JH
  dsimp only
  refine Z4 (wpAny_seqItems hoT hdT ?_)
  have e1:(ps.map fun(p:Nat)=>rawInt p).toArray[(es.size:Int).toNat]?=none:=by
   rw[ZN,List.getElem?_toArray,ZD,Wy (by omega)];rfl
  dsimp only
  rw[e1]
  dsimp only
  refine Z4 (Wb ho hd (by simp) ?_);have g1:=Yy (Obj.mapFields (·.setIfInBounds 0 (rawInt 0))) ho (Wx (Y9 hd _));have sb:=Yx s.heap I (Obj.mapFields (·.setIfInBounds 0 (rawInt 0)));refine P7 (s:={s with heap:=_}) hh g1 (Y9 hd _) (by simp) fun h' eb=>fin h' s.toks fun b o hb e=>eb b o (fun z=>hb (by simp[z])) (sb.extBut b o (fun z=>hb (by simp[z])) e)
 self:=fun _ _ _ _ st fin=>Sl st.1 fin
def AX{α:Type}(nx:Nat->Nat):∀(m k:Nat) (left:List α) (out:Array α),left.length=m->(pickOrder.go nx m k left out).toList.Perm (out.toList++left):=by
 intro m
 induction m with
 |zero=>
  intro k left out hl;have e:left=[]:=Wg.mp hl;subst e;show out.toList.Perm (out.toList++[]);rw[Wl]
 |succ m ih=>
  intro k left out hl;have hlt:nx k % left.length<left.length:=Nat.mod_lt _ (by omega);unfold pickOrder.go;rw[Z5 hlt]
  dsimp only
  refine(ih _ _ _ (by rw[List.length_eraseIdx_of_lt hlt];omega)).trans ?_;rw[Array.toList_push,List.append_assoc];exact(Kb left _ hlt).append_left _
def S9{α:Type}(nx:Nat->Nat)(xs:Array α):(pickOrder nx xs).toList.Perm xs.toList:=by
 have:=AX nx xs.size 0 xs.toList #[] (by simp)
 simpa [pickOrder]using this
def slotAt(t:SetTable)(i:Nat):Nat:=if i=0 then 0 else t.place.getD (i-1) 0+1
def P6{m:Nat}(h:t.fits m=true):t.place.size=m:=by
 simp only[SetTable.fits,Y4,beq_iff_eq]at h;exact h.1
def Ce(S:SetAt w s.heap a js es ep t){i:Nat}(hi:i<=es.size):SetTable.below t.place (slotAt t i)=i:=by
 have hz:=P6 S.fit;have R:=S.tab.ris.ris;refine EO R (by omega) (fun k hk=>?_) fun k h1 h2=>?_
 ·unfold slotAt;rw[ZG (by omega)];by_cases e:k=i-1
  ·rw[e];omega
  ·have:=R k (i-1) (by omega) (by omega)
   omega
 ·unfold slotAt;by_cases h0:i=0
  ·rw[ZH h0];omega
  ·rw[ZG h0]
   have:=R (i-1) k (by omega) h2
   omega
def BU{Q:Value->Shared->Prop}{A':Around}(hh:A'.handled=none)(S:SetAt w s.heap a js es ep t)
  (fin:∀(I:Addr) (fp:List Addr) (vs:List Value) (St:Nat->Heap->Prop) (h1:Heap) (d1:Drawn),Walks prog w A' I fp [I] es.size (fun i v=>vs[i]?=some v) St->St 0 h1->(∀b∈fp,b=a\/s.heap.get? b=none)->vs.length=es.size->vs.Perm (es.toList.map (·.2))->
   s.heap.get? I=none->(∀b o,s.heap.get? b=some o->h1.get? b=some o)->Q (.ref I) {s with heap:=h1,drawn:=d1}) :
  wpAny (model prog w) A (pyIter (.ref a)) Q E s:=by
 obtain⟨ob,hob,hx,hdd⟩:=S.obj;have hT:s.TypeIs (.ref a) "set":=⟨ob,hob,hx.1⟩;have ha:a<s.heap.objs.size:=ZK hob
 have new:∀b,s.heap.objs.size<=b->s.heap.get? b=none:=fun b hb=>by
  cases e:s.heap.get? b with
  |none=>rfl
  |some o=>exact absurd (ZK e) (Nat.not_lt.mpr hb)
 refine wpAny_pyIter_slot hT F.slot_set_iter (YO F.slot_set_iter hT DG ?_ (F.args_set_iter_1 _));unfold Builtin.«frozenset.__iter__»;show wpAny _ _ (Builtin.Frozenset.sizeOf a >>= _) _ _ s;unfold Builtin.Frozenset.sizeOf;refine Z4 (Z4 (wpAny_setEntries_of hob hdd S.fit (Z8 ?_)));refine Z4 ?_;unfold setDrawn;refine Z4 (YW hob hdd S.fit (Z4 (Xd (Z8 ?_))))
 dsimp only
 change wpAny _ _ (if (!V9 w&&(!t.plain&&decide (es.size>1)))=true then _ else _) _ _ _;cases hd:(!V9 w&&(!t.plain&&decide (es.size>1)))with
 |false=>
  rw[ZG (by decide)];refine Z4 (Z8 (Z4 (wpAny_setEpoch_of hob hdd S.fit (Z4 (Yq (Z8 ⟨_,rfl, "set_iterator",_,⟨_,ZL _ rfl,rfl⟩,si_slot.lookup,?_⟩))))));have hne:a≠s.heap.objs.size:=Yf ha;have S1:SetAt w (s.heap.push {cls:=.type "set_iterator",data:=.fields [rawInt 0,rawInt 0,.ref a,rawInt es.size,rawInt ep].toArray}) a js es ep t:=S.keep fun o e=>Z9 _ e
  have lt:∀b∈[s.heap.objs.size,a],b=a\/s.heap.get? b=none:=fun b hb=>by
   rcases ZT.mp hb with rfl|hb
   ·exact .inr (new _ (ZF _))
   ·exact .inl (ZA.mp hb)
  cases hb:V9 w with
  |true=>
   have hl:((pickOrder (w.params.setOrder a ep) es).toList.map (·.2)).length=es.size:=by
    rw[Z6,(S9 _ _).length_eq];simp
   refine fin _ _ _ _ _ s.drawn (Sb (t:=t) (js:=js) (ep:=ep) hh s.heap.objs.size a hne ((pickOrder (w.params.setOrder a ep) es).toList.map (·.2)) hl (fun _=>0) fun A E s i Q hi S' q=>Fw S' hb ?_) ⟨⟨_,ZL _ rfl,rfl,rfl⟩,S1⟩ lt hl ((S9 _ _).map _) (new _ (ZF _)) fun b o e=>Z9 _ e;rw[ZD]at q;rw[←Y7];cases e:(pickOrder (w.params.setOrder a ep) es).toList[i]? with
   |none=>rw[e]at q;exact q
   |some x=>rw[e]at q;exact q
  |false=>
   have hp:(!t.plain&&decide (es.size>1))=false:=by rw[hb]at hd;simpa using hd
   refine fin _ _ _ _ _ s.drawn (Sb (t:=t) (js:=js) (ep:=ep) hh s.heap.objs.size a hne (es.toList.map (·.2)) (by simp) (slotAt t) fun A E s i Q hi S' q=>DX S' hb hp ?_) ⟨⟨_,ZL _ rfl,rfl,rfl⟩,S1⟩ lt (by simp) (List.Perm.refl _) (new _ (ZF _)) fun b o e=>Z9 _ e;rw[Ce S' hi];have hz:=P6 S'.fit;rw[ZD]at q;by_cases hlt:i<es.size
   ·have e1:es[i]?=some es[i]:=Y6 hlt;have e2:t.place[i]?=some t.place[i]:=Y6 (by omega);have e3:es.toList[i]?=some es[i]:=by rw[Y7];exact e1
    rw[e3]at q;rw[e1,e2]
    have e4:slotAt t (i+1)=t.place[i]+1:=by
     unfold slotAt;rw[ZG (by omega)]
     have:i<t.place.size:=by omega
     simp[Array.getD,this]
    have q':Q (some (es[i].2,slotAt t (i+1))) s:=q;rw[e4]at q';exact q'
   ·have e1:es[i]?=none:=WV (by omega);have e3:es.toList[i]?=none:=by rw[Y7];exact e1
    rw[e3]at q;rw[e1];exact q
 |true=>
  rw[ZH rfl];refine Z4 (EG _ _ s (by simp) fun ps d hp=>?_);have hl:ps.length=es.size:=by rw[hp.length_eq];simp
  have hps:∀p∈ps,p<es.size:=fun p hm=>Yp.mp (hp.mem_iff.mp hm);refine Z4 (Yq ?_ (by show(ps.map fun(i:Nat)=>rawInt i).toArray.size<=sizeLine;rw[ZI,Z6,hl];exact WR S.few));have hob1:=Z9 {cls:=.type "tuple",data:=.seq (ps.map fun(i:Nat)=>rawInt i).toArray} hob;refine Z4 (wpAny_setEpoch_of hob1 hdd S.fit (Z4 (Yq (Z8 ⟨_,rfl, "set_iterator",_,⟨_,ZL _ rfl,rfl⟩,si_slot.lookup,?_⟩))));have zT:(s.heap.push {cls:=.type "tuple",data:=.seq (ps.map fun(i:Nat)=>rawInt i).toArray}).objs.size=s.heap.objs.size+1:=Heap.size_push ..
  have eq1:(List.range es.size).map (fun p=>((es[p]?).map (·.2)).getD Value.none)=es.toList.map (·.2):=by
   apply Qy;intro k;by_cases hk:k<es.size
   ·simp[hk]
   ·have:es.size<=k:=by omega
    simp[this]
  refine fin _ _ _ _ _ d (Fx (t:=t) (js:=js) (ep:=ep) hh _ a s.heap.objs.size ?_ ?_ ps hl hps _ rfl) ⟨⟨_,ZL _ rfl,rfl,rfl⟩,S.keep fun o e=>Z9 _ (Z9 _ e),_,Z9 _ (ZL _ rfl),0,rfl⟩ (fun b hb=>?_) (by rw[Z6];exact hl) ?_ (new _ ?_) fun b o e=>Z9 _ (Z9 _ e)
  ·show a≠_;rw[zT];exact Yf (WS ha)
  ·show s.heap.objs.size≠_;rw[zT];exact Yf (Nat.lt_succ_self _)
  ·rcases ZT.mp hb with rfl|hb
   ·refine .inr (new _ ?_);show s.heap.objs.size<=_;rw[zT];exact Nat.le_succ _
   ·rcases ZT.mp hb with rfl|hb
    ·exact .inl rfl
    ·rw[ZA.mp hb];exact .inr (new _ (ZF _))
  ·rw[←eq1];exact hp.map _
  ·show s.heap.objs.size<=_;rw[zT];exact Nat.le_succ _
def Bt{Q:Bool->Shared->Prop}(hT:s.TypeIs (.ref a) "set")(h:Q false s):wpAny (model prog w) A (Builtin.List.listLengthHint (.ref a)) Q E s:=by
 unfold Builtin.List.listLengthHint;refine Z4 (wpAny_specialOf hT F.slot_set_len.lookup ?_);generalize eid:("set.__len__" : String)=z
 wp_delta
 have sp:splitId z=some ("set","__len__"):=by subst eid;decide +kernel
 rw[sp];subst eid;refine Z4 (wpAny_isInstance (T:="set") (b:=true) hT (by rw[isSubtype_type];kernel_rfl) (wpAny_ite_split (fun z=>absurd z (by decide)) fun _=>?_));exact wpAny_ite_split (fun _=>Z4 (wpAny_typeOf hT (Z8 h))) fun z=>absurd (by decide +kernel) z
def AZ{R:Result->Shared->Prop}(hh:A.handled=none)(S:SetAt w s.heap a js es ep t)(D:Addr)(c:Nat)(res:Value)(hD:s.heap.get? D=some {cls:=.type "list",data:=.seq #[] c})(hne:D≠a)(fin:∀(h':Heap) (tk:Nat) (d:Drawn) (vs:List Value) (c':Nat),vs.Perm (es.toList.map (·.2))->h'.get? D=some {cls:=.type "list",dict:=none,data:=.seq vs.toArray c',slots:=#[]}->(∀b o,b≠D->s.heap.get? b=some o->h'.get? b=some o)->R (.ok (.ret res)) {s with heap:=h',toks:=tk,drawn:=d}) :
  wpAny (model prog w) A.in1 (Builtin.List.listExtendWith (.ref D) (.ref a) res) (fun f s'=>match f with | .done f=>R (.ok f) s' | .again c'=>c'.quiet=true/\codeAny (model prog w) A c' R s') (fun e s'=>R (.error e) s') s:=by
 obtain⟨ob,hob,hx,hdd⟩:=S.obj;have hT:s.TypeIs (.ref a) "set":=⟨ob,hob,hx.1⟩;unfold Builtin.List.listExtendWith;refine Z4 (wpAny_typeOf (T:="set") hT ?_);have n1:Builtin.List.listSameRef (.ref D) (.ref a)=false:=by simp[Builtin.List.listSameRef,hne]
 have n2:(Value.type "set" == Value.type "list")=false:=by decide
 have n3:(Value.type "set" == Value.type "tuple")=false:=by decide
 simp only[n1,n2,n3,Bool.or_false,WG,Qa];refine Z4 (BU (A':=A.in1) hh S fun I fp vs St h1 d1 W st0 flt hl hp hI keep=>?_);have hDI:D≠I:=fun z=>by rw[←z,hD]at hI;cases hI
 have loop:∀(h:Heap) (tk c1:Nat),St 0 h->(∀b o,b≠D->s.heap.get? b=some o->h.get? b=some o)->h.get? D=some {cls:=.type "list",data:=.seq #[] c1}->D∉fp->
   codeAny (model prog w) A (.builtin "list.extend.loop" ⟨[.ref D,.ref I,res],[]⟩) R {s with heap:=h,toks:=tk,drawn:=d1}:=fun h tk c1 st hk hD1 hDf=>by
  refine codeAny_extend_loopS W.toS (WR S.few) D hDf res es.size 0 _ #[] c1 rfl (Y0 _) st hD1 (ItemsOf.nil _) fun s' acc c' hm hD' hacc=>?_
  have ev:acc.toList=vs:=by
   apply Qy;intro k;by_cases hk2:k<acc.size
   ·have e1:acc[k]?=some acc[k]:=Y6 hk2;rw[Y7,e1];exact(hacc.2 k _ e1).symm
   ·rw[Y7,WV (by omega),Wy (by have:=hacc.1;omega)]
  have e2:acc=vs.toArray:=by rw[←ev]
  rw[e2]at hD';rw[Moved.eq_with hm];refine fin s'.heap s'.toks d1 vs c' hp hD' fun b o hb e=>hm.heap b o (fun hmem=>?_) (hk b o hb e);rcases ZT.mp hmem with z|z
  ·exact hb z
  ·rw[ZA.mp z,hI]at e;cases e
 have hDf:D∉fp:=fun hm=>by
  rcases flt D hm with z|z
  ·exact hne z
  ·rw[hD]at z;cases z
 have hT1:Shared.TypeIs {s with heap:=h1,drawn:=d1} (.ref a) "set":=⟨ob,keep _ _ hob,hx.1⟩
 refine Z4 (W6 (Bt hT1 ?_));have hD1:=keep _ _ hD;refine wpAny_ite_split (fun _=>?_) fun _=>Z8 ⟨WW F.plain_extend_loop _,loop _ _ c st0 (fun b o _ e=>keep b o e) hD1 hDf⟩;refine Z4 (wpAny_rule (Z4 (?_:wpAny _ _ (updateSeq D (·.push .none) >>= fun _=>updateSeq D (·.pop)) _ _ _)));refine Z4 (wpAny_updateSeq hD1 rfl ?_);have hD2:=Yy (Obj.mapSeq (·.push Value.none)) hD1 rfl;refine wpAny_updateSeq (hz:=by seq_fits) hD2 rfl ?_;have hD3:=Yy (Obj.mapSeq (·.pop)) hD2 rfl
 have oth:∀b o,b≠D->h1.get? b=some o->((h1.update D (Obj.mapSeq (·.push Value.none))).update D (Obj.mapSeq (·.pop))).get? b=some o:=fun b o hb e=>
  (Ws _ _ (Ne.symm hb)).trans ((Ws _ _ (Ne.symm hb)).trans e)
 exact Z8 ⟨WW F.plain_extend_loop _,loop _ _ _ (W.frame 0 _ _ st0 fun b hb o e=>oth b o (fun z=>hDf (z▸hb)) e) (fun b o hb e=>oth b o hb (keep b o e)) hD3 hDf⟩
def FI{R:List Value->Shared->Prop}(hh:A.handled=none)(S:SetAt w s.heap a js es ep t)(fin:∀(h':Heap) (tk:Nat) (d:Drawn) (vs:List Value),vs.Perm (es.toList.map (·.2))->(∀b o,s.heap.get? b=some o->h'.get? b=some o)->s.heap.objs.size<h'.objs.size->R vs {s with heap:=h',toks:=tk,drawn:=d}) :
  wpAny (model prog w) A (collect (.ref a)) R E s:=by
 obtain⟨ob,hob,hx,hdd⟩:=S.obj;have hne:s.heap.objs.size≠a:=Nat.ne_of_gt (ZK hob);unfold collect;refine Z4 (wpAny_runValue (Wn entry_proto_collect' ?_));have u1:=Wa (A:=A) PySem.F.plain_proto_collect ⟨[.ref a],[]⟩;rw[u1];refine(show wpAny _ A.in1 (newList [] >>= fun l=>again (.builtin "list.__iadd__" ⟨[l,.ref a],[]⟩)) _ _ s from Z4 (Yq (Z8 ⟨WW PySem.F.plain_list_iadd _,Wn entry_list_iadd' ?_⟩)))
 have u2:=Wa (A:=A) PySem.F.plain_list_iadd ⟨[.ref s.heap.objs.size,.ref a],[]⟩;rw[u2];have g1:(s.heap.push {cls:=.type "list",data:=.seq ([]:List Value).toArray}).get? s.heap.objs.size=some {cls:=.type "list",data:=.seq #[]}:=ZL _ rfl;show wpAny _ A.in1 (Builtin.List.listExtendWith (.ref s.heap.objs.size) (.ref a) (.ref s.heap.objs.size)) _ _ _
 have key:=AZ (prog:=prog) (A:=A) (s:={s with heap:=s.heap.push {cls:=.type "list",data:=.seq ([]:List Value).toArray}})
  (R:=fun q s'=>∃h' tk d vs c',q=.ok (.ret (.ref s.heap.objs.size))/\s'={s with heap:=h',toks:=tk,drawn:=d}/\vs.Perm (es.toList.map (·.2))/\(∀b o,s.heap.get? b=some o->h'.get? b=some o)/\
   h'.get? s.heap.objs.size=some {cls:=.type "list",dict:=none,data:=.seq vs.toArray c',slots:=#[]}) hh (S.keep fun o e=>Z9 _ e) s.heap.objs.size 0 (.ref s.heap.objs.size) g1 hne
  fun h' tk d vs c' hp hD hk=>⟨h',tk,d,vs,c',rfl,rfl,hp,fun b o e=>hk b o (Yf (ZK e)) (Z9 _ e),hD⟩
 refine Y3 key (fun f s' x=>?_) fun e s' x=>?_
 ·cases f with
  |done f=>
   obtain⟨h',tk,d,vs,c',e,rfl,hp,hk,hD⟩:=x;cases e
   refine(show wpAny _ A (load s.heap.objs.size >>= _) _ _ _ from Z4 (wpAny_load hD (Z8 ?_)))
   exact fin h' tk d vs hp hk (ZK hD)
  |again c1=>
   refine⟨x.1,WB x.2 fun q s2 y=>?_⟩;obtain⟨h',tk,d,vs,c',rfl,rfl,hp,hk,hD⟩:=y;refine(show wpAny _ A (load s.heap.objs.size >>= _) _ _ _ from Z4 (wpAny_load hD (Z8 ?_)))
   exact fin h' tk d vs hp hk (ZK hD)
 ·obtain⟨_,_,_,_,_,e',_⟩:=x;cases e'
def T8:∀{l:List (Int×Value)},(∀e∈l,Ent e)->IntsAre (l.map (·.2)) (l.map keyOf)
 |[],_=>.nil
 |e::r,h=>by
  obtain⟨k,t,rfl⟩:=h e Yj;exact .cons k t (T8 fun x hx=>h x (Ya _ hx))
def BC{vs us:List Value}(p:vs.Perm us):∀{ns:List Int},IntsAre us ns->∃ms,IntsAre vs ms/\ms.Perm ns:=by
 induction p with
 |nil=>intro ns h;cases h;exact⟨[],.nil,List.Perm.refl _⟩
 |cons x _ ih=>
  intro ns h;cases h with
  |cons n t r=>
   obtain⟨ms,h1,h2⟩:=ih r;exact⟨n::ms,.cons n t h1,List.Perm.cons _ h2⟩
 |swap x y l=>
  intro ns h;cases h with
  |cons n t r=>
   cases r with
   |cons n' t' r'=>exact⟨n'::n::_,.cons n' t' (.cons n t r'),List.Perm.swap _ _ _⟩
 |trans _ _ ih1 ih2=>
  intro ns h;obtain⟨ms,h1,h2⟩:=ih2 h;obtain⟨ks,h3,h4⟩:=ih1 h1;exact⟨ks,h3,h4.trans h2⟩
def Fc{Q:Value->Shared->Prop}(hh:A.handled=none)(B:SetB w s.heap a js)(h64:js.length<64)
  (fin:∀(l:Addr) (h':Heap) (tk:Nat) (d:Drawn) (out:List Value) (ns:List Int) (e:Nat),IntsAre out ns->ns.Perm js->ns.Pairwise (·<=·)->s.heap.get? l=none->s.heap.objs.size<=l->h'.get? l=some {cls:=.type "list",data:=.seq out.toArray e}->
   (∀b o,s.heap.get? b=some o->h'.get? b=some o)->Q (.ref l) {s with heap:=h',toks:=tk,drawn:=d}) :
  wpAny (model prog w) A (call (.builtin "sorted") [.ref a]) Q E s:=by
 obtain⟨es,ep,t,S⟩:=B;refine Calls.call_function_entry kind_sorted plain_sorted entry_sorted (args_sorted1 _) ?_;unfold Builtin.«sorted»;refine Z4 (m:=checkCount "sorted" 1 1 _) (Z8 (Z4 (FI (A:=A.in1) hh S fun h1 tk d vs hp keep big=>?_)));obtain⟨ms,hI,hms⟩:=BC hp (T8 S.ent);have hms2:ms.Perm js:=hms.trans S.per;have hl:vs.length<64:=by rw[IntsAre.length hI,hms2.length_eq];exact h64
 refine Z4 (wpAny_newList ?_ (by have:(64:Nat)<=sizeLine:=(by decide);omega));have g1:(h1.push (seqObj "list" vs.toArray 0)).get? h1.objs.size=some (seqObj "list" vs.toArray 0):=ZL _ rfl;refine Z4 (W6 (YO slot_list_sort ⟨_,g1,rfl⟩ entry_list_sort (list_sort_tree g1 hI hl fun out ns a1 a2 a3=>⟨_,rfl,?_⟩) (args_list_sort _)));obtain⟨e,he⟩:=sortedHeap_at (out:=out) g1;have hsz:s.heap.objs.size<=h1.objs.size:=WA big;refine Z8 ⟨_,rfl,fin h1.objs.size _ tk d out.toList ns e a1 (a2.trans hms2) a3 ?_ hsz (by simpa [seqObj]using he) fun b o q=>?_⟩
 ·cases q:s.heap.get? h1.objs.size with
  |none=>rfl
  |some o=>exact absurd (ZK (keep _ _ q)) (YL _)
 ·have hlt:=ZK (keep b o q);rw[sortedHeap_old (Yf hlt) (by rw[size_push'];exact WS hlt)];exact Z9 _ (keep b o q)
end
end SetR
namespace Own
open PySem PySem.Spec PyProof.Rows L2
def SetH(w:World)(l:Addr)(js:List Int):HO:=.ext fun h=>SetR.SetB w h l js
section
variable {X:Cx}
def CO{P:Program}{w:World}{H:Hp}{h:Heap}{l:Addr}{js:List Int}(B:SetR.SetB w h l js):ObjOk P w H h l (SetH w l js):=by
 refine⟨B,?_,fun h1 h2 B1 k=>B1.at k⟩;obtain⟨es,ep,t,S⟩:=B;obtain⟨o,ho,_⟩:=S.obj;exact⟨o,ho⟩
def AB(hc:X.calm=true):Vs X (.type "set") (fun xs H Q=>∃(p:Addr) (ns:List Int),xs=[.ref p]/\SqL X.K H p (ns.map V.int)/\ns.length+1<4096/\∀l,H l=none->Q (.ref l) (upd H l (SetH X.w l (ns.foldl SetR.addJ [])))):=by
 intro pins s σ H xs us Q I rv h;obtain⟨p,ns,rfl,hS,hz,q⟩:=h;obtain⟨u,rfl,ru⟩:=rv.one;obtain rfl:u=Value.ref p:=ru;obtain⟨its,r,pl,_⟩:=I.list hS;refine SetR.Er (I.ok.hd hc) pl.isList (by simpa using Xh r) hz fun h' tk B keep=>?_;have hf:H s.heap.objs.size=none:=I.hok.fresh (ZF _);exact⟨.ref s.heap.objs.size,upd H s.heap.objs.size (SetH X.w s.heap.objs.size _),I.laid (t':=tk) (fun b o e=>keep b o (ZK e) e) (ZF _) (CO B),rfl,q _ hf⟩
def NK(hc:X.calm=true):Vs X (.builtin "sorted") (fun xs H Q=>∃(p:Addr) (js:List Int),xs=[.ref p]/\js.length<64/\(SqL X.K H p (js.map V.int)\/H p=some (SetH X.w p js))/\
  ∀(l:Addr) (ns:List Int),H l=none->ns.Perm js->ns.Pairwise (·<=·)->Q (.ref l) (upd H l (.lst (ns.map V.int)))):=by
 intro pins s σ H xs us Q I rv h;obtain⟨p,js,rfl,hz,hS,q⟩:=h;obtain⟨u,rfl,ru⟩:=rv.one;obtain rfl:u=Value.ref p:=ru
 have big:∀{ns:List Int},ns.Perm js->(ns.map V.int).length<=sizeLine:=fun hp=>by
  rw[Z6,hp.length_eq]
  have:(64:Nat)<=sizeLine:=by decide
  omega
 rcases hS with hS|hS
 ·obtain⟨its,r,pl,_⟩:=I.list hS;have hI:IntsAre its js:=by simpa using Xh r
  refine sorted_ints pl.isList hI (by rw[IntsAre.length hI];exact hz) fun out ns a1 a2 a3=>?_;obtain⟨e,he⟩:=sortedAll_at s.heap its out;have hf:H (s.heap.objs.size+1)=none:=I.hok.fresh (Nat.le_succ _);refine⟨.ref (s.heap.objs.size+1),upd H (s.heap.objs.size+1) (.lst (ns.map V.int)),I.laid (t':=s.toks) (fun b o e=>sortedAll_old e) (Nat.le_succ _) ⟨big a2,out.toList,e,Xi a1,?_⟩,rfl,q _ ns hf a2 a3⟩;simpa [seqObj]using he
 ·have B:SetR.SetB X.w s.heap p js:=(show ObjOk X.prog X.w H s.heap p (SetH X.w p js)from I.hok p _ hS).1
  refine SetR.Fc (I.ok.hd hc) B hz fun l h' tk d out ns e a1 a2 a3 nl hl he keep=>?_;have hf:H l=none:=I.hok.fresh hl;refine⟨.ref l,upd H l (.lst (ns.map V.int)),?_,rfl,q l ns hf a2 a3⟩;have ok:HOk X.prog X.w (upd H l (.lst (ns.map V.int))) h':=I.hok.laid keep hl ⟨big a2,out,e,Xi a1,he⟩;exact I.call (ch:=[]) (h':=h') (g':=s.gens) (d':=d) (t':=tk) (Un.laid keep hl hf) ok I.bare (fun b z=>absurd z (by simp))
end
section
variable {X:Cx}{K:Za}
def Ut(hK:X.K=K:=by rfl):IxR X (fun x y H Q=>rIxL K x y H Q\/rIxT K x y H Q):=by subst hK;exact Vh
def BB(hK:X.K=K:=by rfl):Vs X (.builtin "len") (fun xs H Q=>∃x n,xs=[x]/\LenV K x H n/\Q (.int n) H):=by subst hK;exact Jt
def Ua(hK:X.K=K:=by rfl):OpR X (compareOp .In) (rIn K false):=by subst hK;exact CG
def BG(hK:X.K=K:=by rfl):OpR X (compareOp .NotIn) (rIn K true):=by subst hK;exact Eg
def XT{pos:Pos}{es:List Expr}{k:Nat}{t:TGs}{n:Nat}(hc:X.calm=true)(h:PGs X es t)(hK:X.K=K:=by rfl)(hn:(assignEach es X.env).length=n:=by rfl)(hst:(assignEach es X.env).findIdx? (·.1)=none:=by rfl):PG X (.Tuple es k pos) (gTup K n t):=by subst hK;exact PZ hc h hn hst
end
section
variable {α:Type}{R:Hp->V->α->Prop}{φ:List (Option Nat)}{g:TG}{tc:TT}{te:TE}{σ:L2.St}{H1:Hp}{F:Hp->Prop}{D:Addr}
def Ul{K:Za}{a:Addr}{xs:List V}{ds:List α}(f:α->Option V)(hS:SqL K H1 a xs)(hd:xs.length=ds.length)(hD:H1 D=none)(hz:ds.length<=sizeLine)(turn:∀(i:Nat) (x:V) (d:α) (H2:Hp),xs[i]?=some x->ds[i]?=some d->Same H1 H2->∀k:Option V->Hp->Prop,k (f d) H2->g x (atStart φ σ) H2 fun σ2 H4=>Sub (atStart φ σ) σ2/\tc σ2 H4 fun b H5=>if b=true then te σ2 H5 fun y H6=>k (some y) H6 else k none H5)(done:F (upd H1 D (.lst (ds.filterMap f)))) :
  ∃W:Nat->Nat->List V->Hp->Prop,(∃m,W 0 m [] (upd H1 D (.lst [])))/\
   ∀i m ys H2,W i m ys H2->((Itl K a).stop i H2/\F H2)\/((Itl K a).go i H2/\∀x H3,(Itl K a).yld i H2 x H3->g x (atStart φ σ) H3 fun σ2 H4=>Sub (atStart φ σ) σ2/\tc σ2 H4 fun b H5=>
    if b=true then te σ2 H5 fun y H6=>H6 D=some (.lst ys)/\ys.length<sizeLine/\∃m',m'<m/\W (i+1) m' (ys++[y]) (upd H6 D (.lst (ys++[y])))else ∃m',m'<m/\W (i+1) m' ys H5):=by
 refine⟨fun i m ys H2=>m=ds.length-i/\i<=ds.length/\ys=(ds.take i).filterMap f/\H2=upd H1 D (.lst ys),⟨ds.length,by simp,Y0 _,by simp,rfl⟩,?_⟩;rintro i m ys H2 ⟨rfl,hi,rfl,rfl⟩;have S2:Same H1 (upd H1 D (.lst ((ds.take i).filterMap f))):=QX hD;by_cases hlt:i<ds.length
 ·refine .inr ⟨⟨xs,xs[i]'(by omega),S2.seq hS,by simp[hd,hlt]⟩,fun x H3 y=>?_⟩;obtain⟨e,y⟩:=y;subst e;have hx:=y xs (S2.seq hS);have ed:ds[i]?=some ds[i]:=Z5 hlt
  refine turn i x ds[i] _ hx ed S2 (fun o H'=>match o with
   |some y=>H' D=some (.lst ((ds.take i).filterMap f))/\((ds.take i).filterMap f).length<sizeLine/\∃m',m'<ds.length-i/\(m'=ds.length-(i+1)/\i+1<=ds.length/\(ds.take i).filterMap f++[y]=(ds.take (i+1)).filterMap f/\upd H' D (.lst ((ds.take i).filterMap f++[y]))=upd H1 D (.lst ((ds.take i).filterMap f++[y])))
   |none=>∃m',m'<ds.length-i/\(m'=ds.length-(i+1)/\i+1<=ds.length/\(ds.take i).filterMap f=(ds.take (i+1)).filterMap f/\H'=upd H1 D (.lst ((ds.take i).filterMap f)))) ?_
  have et:ds.take (i+1)=ds.take i++[ds[i]]:=ZR hlt;cases ef:f ds[i]with
  |some y=>
   refine⟨QR,?_,ds.length-(i+1),by omega,rfl,hlt,?_,TR⟩
   ·have h1:=WH f (ds.take i);rw[Yn]at h1;omega
   ·rw[et,YF];simp[ef]
  |none=>
   refine⟨ds.length-(i+1),by omega,rfl,hlt,?_,rfl⟩;rw[et,YF];simp[ef]
 ·have e:i=ds.length:=by omega
  subst e;refine .inl ⟨⟨xs,S2.seq hS,by omega⟩,?_⟩;rw[Yv];exact done
def DZ{lo:Int}{n:Nat}(f:Nat->Option V)(hD:H1 D=none)(hz:n<=sizeLine)(turn:∀(i:Nat) (H2:Hp),i<n->Same H1 H2->∀k:Option V->Hp->Prop,k (f i) H2->g (.int (lo+i)) (atStart φ σ) H2 fun σ2 H4=>Sub (atStart φ σ) σ2/\tc σ2 H4 fun b H5=>if b=true then te σ2 H5 fun y H6=>k (some y) H6 else k none H5)(done:F (upd H1 D (.lst ((List.range n).filterMap f)))) :
  ∃W:Nat->Nat->List V->Hp->Prop,(∃m,W 0 m [] (upd H1 D (.lst [])))/\
   ∀i m ys H2,W i m ys H2->((Itr lo n).stop i H2/\F H2)\/((Itr lo n).go i H2/\∀x H3,(Itr lo n).yld i H2 x H3->g x (atStart φ σ) H3 fun σ2 H4=>Sub (atStart φ σ) σ2/\tc σ2 H4 fun b H5=>
    if b=true then te σ2 H5 fun y H6=>H6 D=some (.lst ys)/\ys.length<sizeLine/\∃m',m'<m/\W (i+1) m' (ys++[y]) (upd H6 D (.lst (ys++[y])))else ∃m',m'<m/\W (i+1) m' ys H5):=by
 refine⟨fun i m ys H2=>m=n-i/\i<=n/\ys=(List.range i).filterMap f/\H2=upd H1 D (.lst ys),⟨n,by simp,Y0 _,by simp,rfl⟩,?_⟩;rintro i m ys H2 ⟨rfl,hi,rfl,rfl⟩;have S2:Same H1 (upd H1 D (.lst ((List.range i).filterMap f))):=QX hD;by_cases hlt:i<n
 ·refine .inr ⟨hlt,fun x H3 y=>?_⟩;obtain⟨e,rfl⟩:=y;subst e
  refine turn i _ hlt S2 (fun o H'=>match o with
   |some y=>H' D=some (.lst ((List.range i).filterMap f))/\((List.range i).filterMap f).length<sizeLine/\∃m',m'<n-i/\(m'=n-(i+1)/\i+1<=n/\(List.range i).filterMap f++[y]=(List.range (i+1)).filterMap f/\upd H' D (.lst ((List.range i).filterMap f++[y]))=upd H1 D (.lst ((List.range i).filterMap f++[y])))
   |none=>∃m',m'<n-i/\(m'=n-(i+1)/\i+1<=n/\(List.range i).filterMap f=(List.range (i+1)).filterMap f/\H'=upd H1 D (.lst ((List.range i).filterMap f)))) ?_
  cases ef:f i with
  |some y=>
   refine⟨QR,?_,n-(i+1),by omega,rfl,hlt,?_,TR⟩
   ·have h1:=WH f (List.range i);rw[YX]at h1;omega
   ·rw[YH,YF];simp[ef]
  |none=>
   refine⟨n-(i+1),by omega,rfl,hlt,?_,rfl⟩;rw[YH,YF];simp[ef]
 ·have e:i=n:=by omega
  subst e;exact .inl ⟨ZF _,done⟩
end
def eqL(xs ys:List V):Bool:=decide (xs.length=ys.length)&&(List.range xs.length).all fun j=>eqV (xs.getD j .non) (ys.getD j .non)
def rEqL(K:Za)(neg:Bool):R2:=fun x y H Q=>∃(p q:Addr) (xs ys:List V),x=.ref p/\y=.ref q/\SqL K H p xs/\SqL K H q ys/\xs.all VD=true/\ys.all VD=true/\Q (.bl (if neg then !eqL xs ys else eqL xs ys)) H
section
variable {X:Cx}
def PJ{A:Around}{s:Shared}{xs ys:List V}{us ws:List Value}(r1:Vals xs us)(r2:Vals ys ws)(f1:xs.all VD=true)(f2:ys.all VD=true)(j:Nat)(h1:j<us.toArray.size)(h2:j<ws.toArray.size) :
  SeqAt.EqAt A s us.toArray[j] ws.toArray[j] (eqV (xs.getD j .non) (ys.getD j .non)):=by
 have l1:=r1.length;have l2:=r2.length;have g1:j<us.length:=by simpa using h1
 have g2:j<ws.length:=by simpa using h2
 have k1:xs[j]?=some (xs[j]'(by omega)):=Z5 _;have k2:ys[j]?=some (ys[j]'(by omega)):=Z5 _;obtain⟨u,eu,ru⟩:=r1.get k1;obtain⟨w,ew,rw'⟩:=r2.get k2
 have e1:us.toArray[j]=u:=by
  have:us[j]?=some us[j]:=Z5 g1
  rw[this]at eu;simpa using ZE eu
 have e2:ws.toArray[j]=w:=by
  have:ws[j]?=some ws[j]:=Z5 g2
  rw[this]at ew;simpa using ZE ew
 have d1:xs.getD j .non=xs[j]'(by omega):=by rw[Z7,k1];rfl
 have d2:ys.getD j .non=ys[j]'(by omega):=by rw[Z7,k2];rfl
 rw[e1,e2,d1,d2];exact Nv ru rw' (Wc.mp f1 _ (ZV _)) (Wc.mp f2 _ (ZV _))
def N9(hu:X.A.units<cLine):OpR X (compareOp .Eq) (rEqL X.K false):=by
 intro pins s σ H x y v u Q I rx ry h;obtain⟨p,q,xs,ys,rfl,rfl,hp,hq,f1,f2,k⟩:=h;obtain rfl:v=Value.ref p:=rx;obtain rfl:u=Value.ref q:=ry;obtain⟨us,r1,p1,_⟩:=I.list hp;obtain⟨ws,r2,p2,_⟩:=I.list hq;have l1:=r1.length;have l2:=r2.length;have k':Q (.bl (eqL xs ys)) H:=k;by_cases e:xs.length=ys.length
 ·refine SeqAt.eq_listAt p1.isList p2.isList (by simp;omega) hu (fun j h1 h2=>PJ r1 r2 f1 f2 j h1 h2) ⟨.bl (eqL xs ys),H,I,?_,k'⟩;show _=Value.bool (eqL xs ys);unfold eqL;rw[ZC e,WX,ZI,←l1]
 ·refine SeqAt.eq_list_lengthsAt p1.isList p2.isList (by simp;omega) hu ⟨.bl (eqL xs ys),H,I,?_,k'⟩;show _=Value.bool (eqL xs ys);unfold eqL;rw[ZM e];rfl
def Dp(hu:X.A.units<cLine):OpR X (compareOp .NotEq) (rEqL X.K true):=by
 intro pins s σ H x y v u Q I rx ry h;obtain⟨p,q,xs,ys,rfl,rfl,hp,hq,f1,f2,k⟩:=h;obtain rfl:v=Value.ref p:=rx;obtain rfl:u=Value.ref q:=ry;obtain⟨us,r1,p1,_⟩:=I.list hp;obtain⟨ws,r2,p2,_⟩:=I.list hq;have l1:=r1.length;have l2:=r2.length;have k':Q (.bl (!eqL xs ys)) H:=k;by_cases e:xs.length=ys.length
 ·refine SeqAt.RcNeAt.lists p1.isList p2.isList (by simp;omega) hu (fun j h1 h2=>PJ r1 r2 f1 f2 j h1 h2) _ _ _ _ ⟨.bl (!eqL xs ys),H,I,?_,k'⟩;show _=Value.bool (!eqL xs ys);unfold eqL;rw[ZC e,WX,ZI,←l1]
 ·refine SeqAt.RcNeAt.lists_lengths p1.isList p2.isList (by simp;omega) hu _ _ _ _ ⟨.bl (!eqL xs ys),H,I,?_,k'⟩;show _=Value.bool (!eqL xs ys);unfold eqL;rw[ZM e];rfl
def XH{xs:List Int}{us:List Value}(r:Vals (xs.map V.int) us)(z:Int):∀(j:Nat) (h1:j<us.length) (h2:j<xs.length),Value.isInt z us[j]=(xs[j]==z):=by
 intro j h1 h2;obtain⟨u,eu,t,rfl⟩:=r.get (x:=V.int xs[j]) (i:=j) (by rw[ZD,Z5 h2];rfl);rw[Z5 h1]at eu;rw[ZE eu];simp[Value.isInt]
def FN{xs:List Int}{us:List Value}(r:Vals (xs.map V.int) us)(z:Int)(t:Tok):∀y,y∈us.toArray->MeetsSeq.EqGives y (.int z t) (Value.isInt z y):=by
 intro y hy;obtain⟨j,hj,rfl⟩:=Yo.mp (by simpa using hy:y∈us);have l1:=r.length;rw[Z6]at l1;rw[XH r z j hj (by omega)];obtain⟨u,eu,t',rfl⟩:=r.get (x:=V.int (xs[j]'(by omega))) (i:=j) (by rw[ZD,Z5 (show j<xs.length by omega)];rfl);rw[Z5 hj]at eu;rw[ZE eu];exact MeetsSeq.EqGives.int _ _ _ _
def XU(K:Za):V->List V->Hp->VK->Prop:=fun x vs H Q=>∃(l:Addr) (xs:List Int) (z:Int),x=.ref l/\vs=[.int z]/\SqL K H l (xs.map V.int)/\z∈xs/\Q (.int (xs.idxOf z:Nat)) H
def Ah:MtM X "list.index" (XU X.K):=by
 intro pins s σ H x vs v us Q I rx rv h;obtain⟨l,xs,z,rfl,rfl,hS,hz,q⟩:=h;cases rx
 obtain⟨u,rfl,t,rfl⟩:=rv.one;obtain⟨its,r,p1,hsz⟩:=I.list hS;obtain⟨o,n,ho,hc,hdn,hd⟩:=p1;obtain⟨c1,d1,dt1,sl1⟩:=o;simp only at hc hdn hd;subst hc hdn hd;have l1:=r.length;rw[Z6]at l1;have hj:xs.idxOf z<xs.length:=WI.mpr hz;have hb:xs.length<=2 ^ 24:=by rw[Z6]at hsz;exact hsz
 refine call_meets Wh ⟨_,ho,rfl⟩ PySem.F.entry_list_index (PySem.F.args_list_index_2 _ _)
  (SeqAt.list_indexAt l its.toArray n none sl1 (.int z t) (Value.isInt z) (xs.idxOf z) (by simpa [←l1]using hj) (by omega) ?_ ?_) ⟨ho,fun y hy=>(FN r z t y hy).at _ _,⟨.int (xs.idxOf z:Nat),H,I.tok _,⟨_,rfl⟩,q⟩⟩
 ·have e:=XH r z (xs.idxOf z) (by omega) hj;show Value.isInt z its[xs.idxOf z]=true;rw[e];simpa using Qu hj
 ·intro m hm hlt;have hm':m<its.length:=by simpa using hm
  have e:=XH r z m hm' (by omega);show Value.isInt z its[m]=false;rw[e]
  have:=List.not_of_lt_findIdx (p:=(· == z)) (xs:=xs) (i:=m) hlt
  simpa using this
end
section
variable {X:Cx}{K:Za}
def KG(hK:X.K=K:=by rfl):MtM X "list.index" (XU K):=by subst hK;exact Ah
def Km{o e:Expr}{es:List Expr}{to:TE}{t:TA}{name:Str}{apos cpos:Pos}{T id:String}{r:V->List V->Hp->VK->Prop}(pa:PlainAttrs T)(slot:Slot T name id)(hty:typeOf (.builtin id)=pure (.type "method_descriptor"))(hm:MtM X id r)(ho:PE X o to)(ha:PA X (e::es) t)(hK:X.K=K:=by rfl)(hbase:attributeBase o name X.env (eval o X.env)=eval o X.env:=by rfl)
  (hfew:((backTo cpos (starEach (e::es) X.env)).all (fun x=>!x.1)&&(backToKw cpos (keywordEach [] X.env)).all (fun x=>x.1.isSome)
   && decide ((e::es).length+([]:List Keyword).length+(if ([]:List Keyword).isEmpty then 0 else 1)<30))=true:=by rfl)
  (hline:(apos.endLine==cpos.line)=true:=by rfl) (hs:starEach (e::es) X.env=(false,eval e X.env)::starEach es X.env:=by rfl) (hplain:(backTo cpos (starEach es X.env)).any (·.1)=false:=by rfl) :
  PE X (.Call (.Attribute o name apos) (e::es) [] cpos) (tBM K T r to t):=by
 subst hK;exact Uq pa slot hty hm ho ha hbase hfew hline hs hplain
end
def Ks(xs ys:List Int):eqL (xs.map V.int) (ys.map V.int)=decide (xs=ys):=by
 unfold eqL;rw[Z6,Z6];by_cases e:xs=ys
 ·subst e;rw[ZC rfl,ZC rfl,WX,Wc];intro j hj;have hj':j<xs.length:=by simpa using hj
  rw[Z7,ZD,Z5 hj'];show(xs[j]==xs[j])=true;simp
 ·rw[ZM e];by_cases hl:xs.length=ys.length
  ·rw[ZC hl,WX,Bool.eq_false_iff];intro hall;apply e;apply W4 hl;intro j h1 h2
   have:=Wc.mp hall j (by simpa using h1)
   rw[Z7,ZD,Z5 h1,Z7,ZD,Z5 h2]at this;have h3:(xs[j]==ys[j])=true:=this;simpa using h3
  ·rw[ZM hl];rfl
def VT(xs:List Int):(xs.map V.int).all VD=true:=by
 rw[List.all_map];exact Wc.mpr fun _ _=>rfl
end Own
namespace M
open PySem PySem.Spec PyProof.Rows L2 Own
def LV{α:Type}(R:Hp->V->α->Prop)(H:Hp)(vs:List V)(xs:List α):Prop:=
 vs.length=xs.length/\∀(i:Nat) (x:α),xs[i]?=some x->∃v,vs[i]?=some v/\R H v x
def LAt{α:Type}(R:Hp->V->α->Prop)(H:Hp)(l:Addr)(xs:List α):Prop:=∃vs,H l=some (.lst vs)/\LV R H vs xs
def PairR(H:Hp)(v:V)(q:Int×Int):Prop:=∃a,v=.ref a/\H a=some (.tup [.int q.1,.int q.2])
def Mono{α:Type}(R:Hp->V->α->Prop):Prop:=∀H H' v x,Same H H'->R H v x->R H' v x
def PairR.mono:Mono PairR:=fun _ _ _ _ S ⟨a,e,h⟩=>⟨a,e,S _ _ h⟩
section
variable {α:Type}{R:Hp->V->α->Prop}{H H':Hp}{vs:List V}{xs:List α}{l:Addr}
def LV.mono (m:Mono R) (S:Same H H') (h:LV R H vs xs):LV R H' vs xs:=
 ⟨h.1,fun i x e=>let ⟨v,e',r⟩:=h.2 i x e;⟨v,e',m _ _ _ _ S r⟩⟩
def LAt.mono (m:Mono R) (S:Same H H') (h:LAt R H l xs):LAt R H' l xs:=
 let ⟨vs,e,r⟩:=h;⟨vs,S _ _ e,r.mono m S⟩
def LV.nil:LV R H [] ([]:List α):=⟨rfl,fun i x e=>by simp at e⟩
def LV.snoc {v:V}{x:α} (h:LV R H vs xs) (r:R H v x):LV R H (vs++[v]) (xs++[x]):=by
 refine⟨by simp[h.1],fun i y e=>?_⟩;by_cases hi:i<xs.length
 ·rw[Yd hi]at e;obtain⟨v',e',r'⟩:=h.2 i y e;exact⟨v',by rw[Yd (by rw[h.1];exact hi)];exact e',r'⟩
 ·have hi':xs.length<=i:=by omega
  rw[Yl hi']at e
  have h0:i-xs.length=0:=by
   cases q:i-xs.length with
   |zero=>rfl
   |succ k=>rw[q]at e;simp at e
  rw[h0]at e;have e2:x=y:=by simpa using e
  subst e2;refine⟨v,?_,r⟩;rw[Yl (by rw[h.1];exact hi'),h.1,h0];rfl
def LV.get {i:Nat}{v:V} (h:LV R H vs xs) (e:vs[i]?=some v):∃x,xs[i]?=some x/\R H v x:=by
 have hi:i<xs.length:=by rw[←h.1];exact(ZP.mp e).1
 obtain⟨v',e',r⟩:=h.2 i xs[i] (by simp[hi]);rw[e]at e';cases e';exact⟨_,by simp[hi],r⟩
end
def Menu(m:List Int):Prop:=∃a b c d e:Int,m=[a,b,c,d,e]/\(1<=a/\a<=10)/\(1<=b/\b<=9/\(b=1\/b=3\/b=7\/b=9))/\(0<=c/\c<=9)/\(1<=d/\d<=1000)/\(1<=e/\e+d<=1001)
def Field(ps:List (Int×Int)):Prop:=∀q∈ps,1<=q.1/\q.1<=10/\1<=q.2/\q.2<=1000
def Cp(js:List Int)(k z:Int):z∈SetR.addJ js k↔z∈js\/z=k:=by
 unfold SetR.addJ;split
 ·rename_i h;constructor
  ·exact fun x=>.inl x
  ·rintro(x|rfl)
   ·exact x
   ·exact h
 ·simp
def Nx:∀(ns js:List Int) (z:Int),z∈ns.foldl SetR.addJ js↔z∈js\/z∈ns
 |[],js,z=>by simp
 |n::r,js,z=>by
  rw[List.foldl_cons,Nx r,Cp,ZT];constructor
  ·rintro((h|h)|h)
   ·exact .inl h
   ·exact .inr (.inl h)
   ·exact .inr (.inr h)
  ·rintro(h|h|h)
   ·exact .inl (.inl h)
   ·exact .inl (.inr h)
   ·exact .inr h
def E3{js:List Int}(k:Int)(h:js.Nodup):(SetR.addJ js k).Nodup:=by
 unfold SetR.addJ;split
 ·exact h
 ·rename_i hk;exact Y5.mpr ⟨h,by simp,fun x hx y hy=>by rw[ZA.mp hy];rintro rfl;exact hk hx⟩
def Tu:∀(ns:List Int) {js:List Int},js.Nodup->(ns.foldl SetR.addJ js).Nodup
 |[],_,h=>h
 |n::r,js,h=>Tu r (E3 n h)
def TB:∀(ns js:List Int),(ns.foldl SetR.addJ js).length<=js.length+ns.length
 |[],js=>by simp
 |n::r,js=>by
  have h1:=TB r (SetR.addJ js n)
  have h2:(SetR.addJ js n).length<=js.length+1:=by
   unfold SetR.addJ;split
   ·omega
   ·simp
  rw[List.foldl_cons,Yt];omega
def Kw{l:List Int}(h:l.Pairwise (·<=·))(n:l.Nodup):l.Pairwise (· < ·):=by
 have:=h.and n
 exact this.imp fun {a b} h=>by have:=h.1;have:=h.2;omega
def Aj{l₁ l₂:List Int}(h1:l₁.Pairwise (· < ·))(h2:l₂.Pairwise (· < ·))(h:∀z,z∈l₁↔z∈l₂):l₁=l₂:=by
 have n1:l₁.Nodup:=h1.imp fun {a b} h=>by omega
 have n2:l₂.Nodup:=h2.imp fun {a b} h=>by omega
 have p:l₁.Perm l₂:=(List.perm_ext_iff_of_nodup n1 n2).mpr h;exact p.eq_of_pairwise (le:=(· < ·)) (fun a b _ _ x y=>by omega) h1 h2
def tenL:List Int:=[1,2,3,4,5,6,7,8,9,10]
def DK{z:Int}:z∈tenL↔1<=z/\z<=10:=by
 unfold tenL;constructor
 ·intro h;simp only[ZT,Qb,or_false]at h;omega
 ·rintro⟨h1,h2⟩;simp only[ZT,Qb,or_false];omega
def QY(ps:List (Int×Int)):List Int:=tenL.filter fun h=>decide (h∈ps.map (·.1))
def Ur(ps:List (Int×Int)):(QY ps).Pairwise (· < ·):=List.Pairwise.filter _ (by unfold tenL;decide)
def N2{ps:List (Int×Int)}(hF:Field ps){z:Int}:z∈QY ps↔z∈ps.map (·.1):=by
 unfold QY;rw[ZQ,YY,DK];constructor
 ·exact fun h=>h.2
 ·intro h;obtain⟨q,hq,rfl⟩:=ZS.mp h
  have:=hF q hq
  exact⟨⟨this.1,this.2.1⟩,h⟩
def Uh(ps:List (Int×Int)):(QY ps).length<=10:=by
 have:=Yz (fun h=>decide (h∈ps.map (·.1))) tenL
 exact this
def Ck{ps:List (Int×Int)}{ns:List Int}(hF:Field ps)(p:ns.Perm ((ps.map (·.1)).foldl SetR.addJ []))(h:ns.Pairwise (·<=·)):ns=QY ps:=by
 have nd:ns.Nodup:=p.symm.nodup (Tu _ Ww);refine Aj (Kw h nd) (Ur ps) fun z=>?_;rw[p.mem_iff,Nx,N2 hF];simp
def JN(z:Int)(xs:List Int):inV (.int z) (xs.map V.int)=decide (z∈xs):=by
 unfold inV;rw[List.any_map]
 induction xs with
 |nil=>simp
 |cons x r ih=>
  rw[Wk,ih];show((x==z) || _)=_;by_cases e:x=z
  ·subst e;simp
  ·have:(x==z)=false:=by simpa using e
   rw[this];simp only[Bool.false_or];by_cases h:z∈r
   ·rw[ZC h,ZC (Ya _ h)]
   ·rw[ZM h,ZM];intro hz;rcases ZT.mp hz with hz|hz
    ·exact e hz.symm
    ·exact h hz
def Ex:tenL=(List.range 10).map fun(i:Nat)=>(1:Int)+(i:Int):=by decide
def BX(ps:List (Int×Int)):(List.range 10).filterMap (fun(i:Nat)=>if decide ((1:Int)+(i:Int)∈ps.map (·.1))=true then some (V.int (1+(i:Int)))else none)=(QY ps).map V.int:=by
 unfold QY;rw[Ex];generalize List.range 10=l
 induction l with
 |nil=>rfl
 |cons i r ih=>
  rw[YA,ZO,List.filter_cons];by_cases h:(1:Int)+(i:Int)∈ps.map (·.1)
  ·rw[ZC h,ZH rfl,ZH rfl,ZO,←ih]
  ·rw[ZM h,ZG (by decide),ZG (by decide),←ih]
section
variable (ps:List (Int×Int))
def tpM(y:Int):Nat->Int
 | 0=>0
 |j+1=>tpM y j+(if (ps.getD j (0,0)).1=y then(ps.getD j (0,0)).2 else 0)
def pcM(x y:Int):Nat->Int
 | 0=>0
 |k+1=>pcM x y k+(if x≠y/\(ps.getD k (0,0)).1=x then tpM ps y k*(ps.getD k (0,0)).2 else 0)
end
end M
namespace ExcR
open PySem PySem.Spec PyProof.Rows L2
section
variable {P:Program}{w:World}{H H':Hp}{h h':Heap}{a:Addr}{o:HO}{fs ex:List Addr}
def has(x:ObjOk P w H h a o):∃u,h.get? a=some u:=by
 cases o with
 |lst xs=>exact let ⟨_,_,_,_,e⟩:=x;⟨_,e⟩
 |tup xs=>exact let ⟨_,_,_,u,e,_⟩:=x;⟨u,e⟩
 |dK kvs=>exact let ⟨_,_,_,_,u,_,_,e,_⟩:=x;⟨u,e⟩
 |dT kvs=>exact let ⟨_,_,_,_,u,_,_,e,_⟩:=x;⟨u,e⟩
 |set S n=>exact let ⟨u,_,_,_,e,_⟩:=x;⟨u,e⟩
 |ins C dx fs=>exact let ⟨_,_,_,e,_⟩:=x;⟨_,e⟩
 |own y=>exact x
 |xd fs=>exact let ⟨_,⟨u,_,_,e,_⟩,_⟩:=x;⟨u,e⟩
 |rng lo hi=>exact let ⟨_,_,_,e⟩:=x;⟨_,e⟩
 |frz ob u=>exact⟨_,x.1⟩
 |tbl ps=>exact⟨_,x⟩
 |met f y=>exact⟨_,x⟩
 |ext φ=>exact x.2.1
end
structure ErrCls (K:Za) (C:Addr):Prop where
 q:PySem.W.excIn K C [.type "ValueError",.type "Exception",.type "BaseException",.type "object"] "ValueError.__new__"=true
abbrev TF:=L2.St->Hp->Str->(Str->Hp->Prop)->Prop
end ExcR
namespace ExcR
open PySem PySem.Spec PyProof.Rows L2
open Sem (wp)
structure ErrGet (K:Za) (C:Addr):Prop where
 c:ErrCls K C
 ga:PySem.W.findIn K (.ref C) "__getattribute__"=some (some (.builtin "BaseException.__getattribute__"))
 gt:PySem.W.findIn K (.ref C) "__getattr__"=some none
 cl:PySem.W.findIn K (.ref C) "__class__"=some (some (.builtin "object.__class__"))
 is:(PySem.W.clsIn K C).isSome=true
end ExcR
namespace ExcR
open PySem PySem.Spec PyProof.Rows L2
def ErrH(a C:Addr):HO:=.ext fun h=>∃o,h.get? a=some o/\o.cls=.ref C/\∃vs,o.data=.fields vs
def sufD(i:Nat)(D:Ends):Ends:={nx:=fun σ H=>D.nx (σ.set i none) H,rt:=D.rt,bk:=fun σ H=>D.bk (σ.set i none) H,ct:=fun σ H=>D.ct (σ.set i none) H}
def hx(K:Za)(C0:Addr)(i:Nat)(ts:TS)(D:Ends):L2.St->XK:=fun σ c _ H=>∃C,c=.ref C/\ErrGet K C/\PySem.W.exmOne K (.ref C) (.ref C0)=some true/\
 ∀a,H a=none->ts (sufD i D) (σ.set i (some (.ref a))) (upd H a (ErrH a C))
def VM(mg:Str->Option Value)(x:Str):Addr:=match mg x with
 |some (.ref C)=>C
 |_=>0
end ExcR
namespace Own
open PySem PySem.Spec PyProof.Rows L2 M
section
variable {X:Cx}{pins:List (Addr×Obj)}{σ:L2.St}{H:Hp}{s:Shared}
def Bm{p:Int×Int}{its:List Value}(r:Vals [V.int p.1,V.int p.2] its):∃t1 t2,its=[.int p.1 t1,.int p.2 t2]:=by
 cases r with
 |cons r1 rr=>
  cases rr with
  |cons r2 r3=>
   cases r3
   obtain⟨t1,rfl⟩:=r1;obtain⟨t2,rfl⟩:=r2;exact⟨t1,t2,rfl⟩
def Fm{A:Around}{x y:V}{p q:Int×Int}{u v:Value}(I:Inv X pins σ H s)(hu:A.units<cLine)(rx:RelV x u)(ry:RelV y v)(hp:PairR H x p)(hq:PairR H y q):SeqAt.EqAt A s u v (decide (p=q)):=by
 obtain⟨a,rfl,ha⟩:=hp;obtain⟨b,rfl,hb⟩:=hq;obtain rfl:u=Value.ref a:=rx;obtain rfl:v=Value.ref b:=ry;by_cases hab:a=b
 ·subst hab;rw[ha]at hb
  have e:p=q:=by
   injection hb with hb;injection hb with hb;injection hb with h1 h2;injection h2 with h2 _;exact Prod.ext (V.int.inj h1) (V.int.inj h2)
  rw[ZC e];exact SeqAt.EqAt.same _
 ·obtain⟨_,its,r1,t1⟩:=(show ObjOk X.prog X.w H s.heap a (.tup [.int p.1,.int p.2])from I.hok a _ ha)
  obtain⟨_,jts,r2,t2⟩:=(show ObjOk X.prog X.w H s.heap b (.tup [.int q.1,.int q.2])from I.hok b _ hb)
  obtain⟨k1,k2,rfl⟩:=Bm r1;obtain⟨k3,k4,rfl⟩:=Bm r2
  have h:=SeqAt.RcAt.tuples (A:=A) (s:=s) (e:=fun j=>if j=0 then p.1==q.1 else p.2==q.2) t1 t2 hu (fun j h1 h2=>by
   have hj:j=0\/j=1:=by
    have h1':j<2:=h1;omega
   rcases hj with rfl|rfl
   ·exact SeqAt.EqAt.int_int _ _ _ _
   ·exact SeqAt.EqAt.int_int _ _ _ _)
  have e:((List.range (min ([Value.int p.1 k1,Value.int p.2 k2].toArray).size ([Value.int q.1 k3,Value.int q.2 k4].toArray).size)).all (fun j=>if j=0 then p.1==q.1 else p.2==q.2)&&([Value.int p.1 k1,Value.int p.2 k2].toArray).size==([Value.int q.1 k3,Value.int q.2 k4].toArray).size)=decide (p=q):=by
   show((List.range 2).all (fun j=>if j=0 then p.1==q.1 else p.2==q.2)&&true)=decide (p=q);rw[Bool.and_true];have e2:(List.range 2).all (fun j=>if j=0 then p.1==q.1 else p.2==q.2)=((p.1==q.1)&&(p.2==q.2)):=by simp[List.range,List.range.loop]
   rw[e2];by_cases h1:p.1=q.1
   ·by_cases h2:p.2=q.2
    ·rw[ZC (Prod.ext h1 h2)];simp[h1,h2]
    ·rw[ZM (fun z=>h2 (by rw[z]))];simp[h2]
   ·rw[ZM (fun z=>h1 (by rw[z]))];simp[h1]
  rw[e]at h;exact SeqAt.EqAt.of_refs hab h
def eP(H:Hp)(q:Int×Int)(u:Value):Bool:=match u with
 | .ref a=>(match H a with
  |some (.tup [.int i,.int j])=>decide ((i,j)=q)
  |_=>false)
 |_=>false
def TK{v:V}{u:Value}{p q:Int×Int}(h:PairR H v p)(r:RelV v u):eP H q u=decide (p=q):=by
 obtain⟨a,rfl,ha⟩:=h;obtain rfl:u=Value.ref a:=r;unfold eP;simp only[ha]
def Kl{q:Int×Int}:∀{vs:List V}{us:List Value}{ps:List (Int×Int)},Vals vs us->LV PairR H vs ps->us.any (eP H q)=decide (q∈ps)
 |_,_,[],.nil,_=>rfl
 |_,_,_::_,.nil,h=>absurd h.1 (by simp)
 |v::vs,u::us,[],.cons _ _,h=>absurd h.1 (by simp)
 |v::vs,u::us,p::ps,.cons r t,h=>by
  obtain⟨v',e,hv⟩:=h.2 0 p rfl;cases e
  have ht:LV PairR H vs ps:=⟨by simpa using h.1,fun i x e=>h.2 (i+1) x e⟩;rw[Wk,TK hv r,Kl t ht];by_cases e1:p=q
  ·subst e1;simp
  ·by_cases e2:q∈ps
   ·simp[e1,e2]
   ·have:¬q=p:=fun z=>e1 z.symm
    simp[e1,e2,this]
def rInP(neg:Bool):R2:=fun x y H Q=>∃(l:Addr) (ps:List (Int×Int)) (q:Int×Int),y=.ref l/\PairR H x q/\LAt PairR H l ps/\Q (.bl (if neg then !decide (q∈ps)else decide (q∈ps))) H
def X7{A:Around}{x:V}{v:Value}{q:Int×Int}(I:Inv X pins σ H s)(hu:A.units<cLine)(rx:RelV x v)(hx:PairR H x q):∀{vs:List V}{us:List Value}{ps:List (Int×Int)},Vals vs us->LV PairR H vs ps->∀u∈us,SeqAt.EqAt A s u v (eP H q u)
 |_,_,_,.nil,_,u,hu'=>by cases hu'
 |w::vs,u::us,[],.cons _ _,h,_,_=>absurd h.1 (by simp)
 |w::vs,u::us,p::ps,.cons r t,h,u',hu'=>by
  obtain⟨w',e,hw⟩:=h.2 0 p rfl;cases e
  have ht:LV PairR H vs ps:=⟨by simpa using h.1,fun i x e=>h.2 (i+1) x e⟩;rcases ZT.mp hu' with rfl|hu'
  ·rw[TK hw r];exact Fm I hu r rx hw hx
  ·exact X7 I hu rx hx t ht u' hu'
def CL(hu:X.A.in1.units<cLine):OpR X (compareOp .In) (rInP false):=by
 intro pins s σ H x y v u Q I rx ry h;obtain⟨l,ps,q,rfl,hx,⟨vs,hl,hv⟩,k⟩:=h;cases ry
 obtain⟨its,r,pl,hz⟩:=I.list (SqL.of hl);refine SeqAt.in_listAt (eP H q) pl.isList (fun w hw=>X7 I hu rx hx r hv w (by simpa using hw)) ⟨.bl _,H,I,rfl,?_⟩;rw[show its.toArray.any (eP H q)=its.any (eP H q) by simp,Kl r hv];exact k
def PH(hu:X.A.in1.units<cLine):OpR X (compareOp .NotIn) (rInP true):=by
 intro pins s σ H x y v u Q I rx ry h;obtain⟨l,ps,q,rfl,hx,⟨vs,hl,hv⟩,k⟩:=h;cases ry
 obtain⟨its,r,pl,hz⟩:=I.list (SqL.of hl);refine SeqAt.notIn_listAt (eP H q) pl.isList (fun w hw=>X7 I hu rx hx r hv w (by simpa using hw)) ⟨.bl _,H,I,rfl,?_⟩;rw[show its.toArray.any (eP H q)=its.any (eP H q) by simp,Kl r hv];exact k
end
end Own
namespace M
open PySem PySem.Spec PyProof.Rows L2 Own
section
variable {α:Type}{R:Hp->V->α->Prop}{H:Hp}
def LV.cons_iff {v:V}{vs:List V}{x:α}{xs:List α}:LV R H (v::vs) (x::xs)↔R H v x/\LV R H vs xs:=by
 constructor
 ·intro h;obtain⟨v',e,r⟩:=h.2 0 x rfl;cases e
  exact⟨r,by simpa using h.1,fun i y e=>h.2 (i+1) y e⟩
 ·rintro⟨r,h⟩;refine⟨by simp[h.1],fun i y e=>?_⟩;cases i with
  |zero=>cases e;exact⟨v,rfl,r⟩
  |succ i=>exact h.2 i y e
def pick(c:α->Bool)(d:V×α):Option V:=if c d.2=true then some d.1 else none
def LV.pick (c:α->Bool):∀{vs:List V}{xs:List α},LV R H vs xs->LV R H ((vs.zip xs).filterMap (pick c)) (xs.filter c)
 |[],[],_=>LV.nil
 |[],_::_,h=>absurd h.1 (by simp)
 |_::_,[],h=>absurd h.1 (by simp)
 |v::vs,x::xs,h=>by
  obtain⟨r,h⟩:=LV.cons_iff.mp h;have ih:=LV.pick c h;rw[List.zip_cons_cons];by_cases e:c x=true
  ·rw[WJ (show M.pick c (v,x)=some v from ZH e),Wi e]
   exact LV.cons_iff.mpr ⟨r,ih⟩
  ·rw[WK (show M.pick c (v,x)=none from ZG e),Wj e]
   exact ih
def LV.zip_get {vs:List V}{xs:List α} (h:LV R H vs xs) {i:Nat}{v:V}{d:V×α} (e1:vs[i]?=some v) (e2:(vs.zip xs)[i]?=some d):d.1=v/\R H v d.2:=by
 obtain⟨x,ex,r⟩:=h.get e1;rw[List.getElem?_zip_eq_some]at e2;rw[e1]at e2;rw[ex]at e2;obtain⟨a,b⟩:=e2;cases a
 cases b
 exact⟨rfl,r⟩
def LV.zip_len {vs:List V}{xs:List α} (h:LV R H vs xs):(vs.zip xs).length=xs.length:=by
 rw[List.length_zip,h.1,Nat.min_self]
end
end M
namespace Own
open PySem PySem.Spec PyProof.Rows L2
section
variable {X:Cx}{K:Za}
def T6(hc:X.calm=true)(hK:X.K=K:=by rfl):Vs X (.builtin "sum") (fun xs H Q=>∃(p:Addr) (ns:List Int),xs=[.ref p]/\SqL K H p (ns.map V.int)/\Q (.int ns.sum) H):=by
 subst hK;intro pins s σ H xs us Q I rv h;obtain⟨p,ns,rfl,hS,q⟩:=h;obtain⟨u,rfl,ru⟩:=rv.one;obtain rfl:u=Value.ref p:=ru;obtain⟨its,r,pl,_⟩:=I.list hS;have hi:IntsAre its ns:=by simpa using Xh r
 obtain⟨ys,hx⟩:=hi.allInts.items;have hl:=pl.isList;rw[hx]at hl;refine sum_intListG (I.ok.hd hc) hl fun h' tk t' hk=>?_
 have e1:ns=ys.toList.map (·.1):=by
  rw[←nums_intItems,←hx];exact(show numsOf its.toArray.toList=ns from hi.numsOf).symm
 have e2:preSum (numAt ys) ys.size=ns.sum:=by
  rw[preSum_eq,Wt (by simp),e1]
 rw[e2];exact⟨.int ns.sum,H,I.kept (t':=tk) hk,⟨_,rfl⟩,q⟩
def FL(hc:X.calm=true)(hK:X.K=K:=by rfl):Vs X (.builtin "min") (fun xs H Q=>∃(p:Addr) (ns:List Int),xs=[.ref p]/\SqL K H p (ns.map V.int)/\0<ns.length/\∀M,M∈ns->(∀a∈ns,M<=a)->Q (.int M) H):=by
 subst hK;intro pins s σ H xs us Q I rv h;obtain⟨p,ns,rfl,hS,hne,q⟩:=h;obtain⟨u,rfl,ru⟩:=rv.one;obtain rfl:u=Value.ref p:=ru;obtain⟨its,r,pl,_⟩:=I.list hS;have hi:IntsAre its ns:=by simpa using Xh r
 obtain⟨ys,e⟩:=hi.allInts.items;have hl:=pl.isList;rw[e]at hl;have hns:ns=ys.toList.map (·.1):=by rw[←hi.numsOf,←nums_intItems,←e]
 have hsz:0<ys.size:=by
  have h3:=hne;rw[hns,Z6,Yk]at h3;exact h3
 refine min_intList (I.ok.hd hc) hl hsz fun v h' tk hv hk=>?_;obtain⟨t,rfl⟩:=intItems_at hv;obtain⟨h1,h2⟩:=argBest_lt (numAt ys) (ys.size-1);refine⟨.int _,H,I.kept (t':=tk) hk,⟨_,rfl⟩,q _ ?_ fun a ha=>?_⟩
 ·rw[hns,numAt_eq];exact getD_mem (by rw[Z6,Yk];omega)
 ·rw[hns]at ha;obtain⟨j,hj,rfl⟩:=Yo.mp ha;rw[Z6,Yk]at hj
  have:=h2 j (by omega)
  rw[numAt_eq ys j]at this;rw[Z7,Z5 (by rw[Z6,Yk];exact hj)]at this;exact this
def NC:∀{bs:List Bool}{us:List Value},Vals (bs.map V.bl) us->LSm.BoolsAre us bs
 |[],_,.nil=>.nil
 |b::r,_,.cons h t=>by
  cases (show _=Value.bool b from h)
  exact .cons b (NC t)
def A5(hc:X.calm=true)(hK:X.K=K:=by rfl):Vs X (.builtin "any") (fun xs H Q=>∃(p:Addr) (bs:List Bool),xs=[.ref p]/\SqL K H p (bs.map V.bl)/\Q (.bl (bs.any id)) H):=by
 subst hK;intro pins s σ H xs us Q I rv h;obtain⟨p,bs,rfl,hS,q⟩:=h;obtain⟨u,rfl,ru⟩:=rv.one;obtain rfl:u=Value.ref p:=ru;obtain⟨its,r,pl,_⟩:=I.list hS;have hb:=NC r;have hl:=pl.isList;have hlt:p<s.heap.objs.size:=by obtain⟨_,e,_⟩:=hl;exact ZK e
 refine call_any_walk (wpAny_pyIter_list hl ?_)
 refine⟨s.heap.objs.size,[s.heap.objs.size,p],[s.heap.objs.size],its.toArray.size,_,_,fun i=>(bs[i]?).getD false,rfl,Walks.list (A:=X.A.in1) (I.ok.hd hc) _ p (Yf hlt) its.toArray,
  ⟨⟨_,ZL _ rfl,rfl,rfl⟩,hl.push _⟩,fun i v s' Q' E' hP hQ=>?_,fun h' tk hk=>?_⟩
 ·obtain⟨b,e,rfl⟩:=hb.get i v (by simpa using hP);simp only[e,Option.getD_some]at hQ;exact YK hQ
 ·have e:((List.range its.toArray.size).any fun i=>(bs[i]?).getD false)=bs.any id:=by
   rw[ZI,hb.length];exact LSm.range_any bs
  rw[e];exact⟨.bl (bs.any id),H,I.kept (t':=tk) (LSm.kept_iter hk),rfl,q⟩
end
end Own
namespace M
open PySem PySem.Spec PyProof.Rows L2 Own
def JJ(ws:List (Int×Int))(ls:List Int):List (Int×Int):=ws.filter fun q=>decide (q.1∈ls)&&decide (q.2∈ls)
def VC(ws:List (Int×Int))(ls:List Int):List Int:=ls.filter fun h=>decide (h∈(JJ ws ls).map (·.2))
def QZ(ws:List (Int×Int))(ls:List Int):Nat->List Int
 | 0=>ls
 |n+1=>VC ws (QZ ws ls n)
def U5(ws:List (Int×Int))(r:List Int):Prop:=∀(i:Nat) (x y:Int),r[i]?=some x->r[i+1]?=some y->(x,y)∈ws
structure Ring (hs:List Int) (ws:List (Int×Int)) (r:List Int):Prop where
 two:2<=r.length
 nodup:r.Nodup
 sub:∀x∈r,x∈hs
 chain:U5 ws r
 last:∀x y,r[0]?=some x->r[r.length-1]?=some y->(y,x)∈ws
def Ring.ahead {hs:List Int}{ws:List (Int×Int)}{r:List Int} (R:Ring hs ws r) {x:Int} (hx:x∈r):∃y∈r,(y,x)∈ws:=by
 obtain⟨i,hi,e⟩:=Yo.mp hx;have two:=R.two;cases i with
 |zero=>
  have hl:r.length-1<r.length:=by omega
  exact⟨r[r.length-1],ZV hl,R.last x _ (by rw[Z5 hi,e]) (Z5 hl)⟩
 |succ i=>
  have hl:i<r.length:=by omega
  exact⟨r[i],ZV hl,R.chain i _ x (Z5 hl) (by rw[Z5 hi,e])⟩
def mem_peel{ws:List (Int×Int)}{ls:List Int}{x:Int}:x∈VC ws ls↔x∈ls/\∃y∈ls,(y,x)∈ws:=by
 unfold VC JJ;rw[ZQ];constructor
 ·rintro⟨h1,h2⟩;obtain⟨q,hq,e⟩:=ZS.mp (ZZ h2);obtain⟨h3,h4⟩:=ZQ.mp hq;rw[Y4]at h4;refine⟨h1,q.1,ZZ h4.1,?_⟩;rw[←e];exact h3
 ·rintro⟨h1,y,h2,h3⟩;refine⟨h1,ZC (ZS.mpr ⟨(y,x),ZQ.mpr ⟨h3,?_⟩,rfl⟩)⟩;rw[ZC h2,ZC h1];rfl
def X2{hs:List Int}{ws:List (Int×Int)}{r:List Int}(R:Ring hs ws r):∀(n:Nat) (x:Int),x∈r->x∈QZ ws hs n
 | 0,x,hx=>R.sub x hx
 |n+1,x,hx=>by
  obtain⟨y,hy,h⟩:=R.ahead hx;exact mem_peel.mpr ⟨X2 R n x hx,y,X2 R n y hy,h⟩
def XS(ws:List (Int×Int))(ls:List Int):(VC ws ls).Sublist ls:=Qo
def TN(ws:List (Int×Int))(hs:List Int):∀n,(QZ ws hs n).Sublist hs
 | 0=>List.Sublist.refl _
 |n+1=>(XS ws _).trans (TN ws hs n)
def TY(ws:List (Int×Int))(hs:List Int):∀n,(∃k,k<n/\VC ws (QZ ws hs k)=QZ ws hs k)\/(QZ ws hs n).length+n<=hs.length
 | 0=>.inr (ZF _)
 |n+1=>by
  rcases TY ws hs n with⟨k,hk,e⟩|h
  ·exact .inl ⟨k,by omega,e⟩
  ·by_cases e:VC ws (QZ ws hs n)=QZ ws hs n
   ·exact .inl ⟨n,by omega,e⟩
   ·have hl:(VC ws (QZ ws hs n)).length<(QZ ws hs n).length:=by
     have h1:=(XS ws (QZ ws hs n)).length_le;rcases Qk (VC ws (QZ ws hs n)).length (QZ ws hs n).length with h2|h2
     ·exact h2
     ·exact absurd ((XS ws (QZ ws hs n)).eq_of_length (by omega)) e
    refine .inr ?_;show(VC ws (QZ ws hs n)).length+(n+1)<=hs.length;omega
def SB(ws:List (Int×Int))(hs:List Int){k:Nat}(e:VC ws (QZ ws hs k)=QZ ws hs k):∀n,QZ ws hs (k+n)=QZ ws hs k
 | 0=>rfl
 |n+1=>by
  show VC ws (QZ ws hs (k+n))=_;rw[SB ws hs e n,e]
def Xv:∀{xs ys:List Int},xs.Nodup->(∀x∈xs,x∈ys)->xs.length<=ys.length
 |[],_,_,_=>Y0 _
 |x::xs,ys,nd,h=>by
  obtain⟨h1,h2⟩:=Yi.mp nd;have hx:x∈ys:=h x (Yj ..);have ih:=Xv (ys:=ys.erase x) h2 fun z hz=>(List.mem_erase_of_ne (fun e:z=x=>h1 (e▸hz))).mpr (h z (Ya _ hz));rw[List.length_erase_of_mem hx]at ih
  have:0<ys.length:=List.length_pos_of_mem hx
  rw[Yt];omega
def P3{ws:List (Int×Int)}{ls:List Int}(hu:∀q∈ws,q.1≠q.2)(hne:ls≠[])(h:∀x∈ls,∃y∈ls,(y,x)∈ws):∃r,Ring ls ws r:=by
 have grow:∀(n:Nat) (r:List Int),r≠[]->r.Nodup->(∀x∈r,x∈ls)->U5 ws r->ls.length<r.length+n->∃r,Ring ls ws r:=by
  intro n
  induction n with
  |zero=>
   intro r hr nd sub ch hl
   have:=Xv nd sub
   omega
  |succ n ih=>
   intro r hr nd sub ch hl;cases r with
   |nil=>exact absurd rfl hr
   |cons x t=>
    obtain⟨y,hy,hw⟩:=h x (sub x (Yj ..));by_cases hm:y∈x::t
    ·obtain⟨i,hi,e⟩:=Yo.mp hm
     have hi0:i≠0:=fun z=>by
      subst z;have e':x=y:=e;exact hu _ hw e'.symm
     have hlen:((x::t).take (i+1)).length=i+1:=by
      rw[Yn];omega
     refine⟨(x::t).take (i+1),by omega,nd.sublist (Qx _ _),fun z hz=>sub z (List.mem_of_mem_take hz),fun k a b h1 h2=>?_,fun a b h1 h2=>?_⟩
     ·have hk:k+1<i+1:=by
       have:=(ZP.mp h2).1
       omega
      rw[Y8 (by omega)]at h1;rw[Y8 hk]at h2;exact ch k a b h1 h2
     ·rw[hlen,Nat.add_sub_cancel,Y8 (by omega),Z5 hi,e]at h2;rw[Y8 (by omega)]at h1;cases h1
      cases h2
      exact hw
    ·refine ih (y::x::t) (by simp) (Yi.mpr ⟨hm,nd⟩) (fun z hz=>?_) (fun k a b h1 h2=>?_) (by rw[Yt];omega)
     ·rcases ZT.mp hz with rfl|hz
      ·exact hy
      ·exact sub z hz
     ·cases k with
      |zero=>
       cases h1
       cases h2
       exact hw
      |succ k=>exact ch k a b h1 h2
 obtain⟨x,hx⟩:=List.exists_mem_of_ne_nil ls hne;exact grow (ls.length+1) [x] (by simp) (by simp) (fun y hy=>by rw[ZA.mp hy];exact hx) (fun i a b h1 h2=>by simp at h2) (by show ls.length<1+(ls.length+1);omega)
def Ar{ws:List (Int×Int)}{hs:List Int}(hu:∀q∈ws,q.1≠q.2):QZ ws hs hs.length=[]↔¬ ∃r,Ring hs ws r:=by
 constructor
 ·rintro h ⟨r,R⟩;have two:=R.two;have h0:0<r.length:=by omega
  have:=X2 R hs.length r[0] (ZV h0)
  rw[h]at this;cases this
 ·intro h;rcases TY ws hs hs.length with⟨k,hk,e⟩|hl
  ·have e2:=SB ws hs e (hs.length-k);rw[show k+(hs.length-k)=hs.length by omega]at e2;rw[e2];by_cases hne:QZ ws hs k=[]
   ·exact hne
   ·obtain⟨r,R⟩:=P3 hu hne (fun x hx=>by
     rw[←e]at hx;exact(mem_peel.mp hx).2)
    exact absurd ⟨r,R.two,R.nodup,fun x hx=>(TN ws hs k).subset (R.sub x hx),R.chain,R.last⟩ h
  ·exact Wg.mp (by omega)
end M
namespace M
def sl:List Int->List Int->Prop
 |x::xs,y::ys=>x<y\/(x=y/\sl xs ys)
 |_,_=>False
def EW{l:Int}{a b:List Int}:sl (l::a) (l::b)↔sl a b:=by
 show(l<l\/(l=l/\sl a b))↔sl a b;constructor
 ·rintro(h|⟨_,h⟩)
  ·omega
  ·exact h
 ·exact fun h=>.inr ⟨rfl,h⟩
def X0:∀{a b:List Int} (x y:Int),sl a b->sl (a++[x]) (b++[y])
 |[],[],_,_,h=>by unfold sl at h;exact h.elim
 |[],_::_,_,_,h=>by unfold sl at h;exact h.elim
 |_::_,[],_,_,h=>by unfold sl at h;exact h.elim
 |p::a,q::b,x,y,h=>by
  rw[YD,YD];unfold sl at h ⊢;rcases h with h|⟨h1,h2⟩
  ·exact .inl h
  ·exact .inr ⟨h1,X0 x y h2⟩
def Sg:∀{a:List Int}{x y:Int},x<y->sl (a++[x]) (a++[y])
 |[],x,y,h=>.inl h
 |p::a,x,y,h=>by
  rw[YD,YD];exact .inr ⟨rfl,Sg h⟩
def Xw:∀{a b c:List Int},sl a b->sl b c->sl a c
 |[],b,c,h,_=>by unfold sl at h;exact h.elim
 |_::_,[],_,h,_=>by unfold sl at h;exact h.elim
 |_::_,_::_,[],_,h=>by unfold sl at h;exact h.elim
 |x::a,y::b,z::c,h1,h2=>by
  unfold sl at h1 h2 ⊢;rcases h1 with h1|⟨h1,k1⟩
  ·rcases h2 with h2|⟨h2,k2⟩
   ·exact .inl (by omega)
   ·exact .inl (by omega)
  ·rcases h2 with h2|⟨h2,k2⟩
   ·exact .inl (by omega)
   ·exact .inr ⟨by omega,Xw k1 k2⟩
def QL(g:Int):List Int->Int
 |[]=>g
 |x::t=>QL x t
def Vy(g:Int):∀(a b:List Int),QL g (a++b)=QL (QL g a) b
 |[],b=>rfl
 |x::a,b=>Vy x a b
def UG(g:Int):∀(t:List Int),(g::t)[t.length]?=some (QL g t)
 |[]=>rfl
 |x::t=>by
  rw[Yt,List.getElem?_cons_succ];exact UG x t
def Path(C:Int->Prop)(ws:List (Int×Int)):Int->List Int->Prop
 |_,[]=>True
 |g,x::t=>C x/\(g,x)∈ws/\Path C ws x t
section
variable {C:Int->Prop}{ws:List (Int×Int)}
def path_app:∀{g:Int}{a b:List Int},Path C ws g (a++b)↔Path C ws g a/\Path C ws (QL g a) b
 |g,[],b=>⟨fun h=>⟨trivial,h⟩,fun h=>h.2⟩
 |g,x::a,b=>by
  rw[YD];constructor
  ·rintro⟨h1,h2,h3⟩
   have:=path_app.mp h3
   exact⟨⟨h1,h2,this.1⟩,this.2⟩
  ·rintro⟨⟨h1,h2,h3⟩,h4⟩;exact⟨h1,h2,path_app.mpr ⟨h3,h4⟩⟩
def Si:∀{g:Int}{t:List Int},Path C ws g t->∀x∈t,C x
 |g,[],_,x,h=>by cases h
 |g,y::t,⟨h1,_,h3⟩,x,h=>by
  rcases ZT.mp h with rfl|h
  ·exact h1
  ·exact Si h3 x h
def SX:∀{g:Int}{t:List Int},Path C ws g t->U5 ws (g::t)
 |g,[],_=>fun i x y h1 h2=>by simp at h2
 |g,z::t,⟨h1,h2,h3⟩=>fun i x y k1 k2=>by
  cases i with
  |zero=>
   cases k1
   cases k2
   exact h2
  |succ i=>exact SX h3 i x y k1 k2
def TC:∀{g:Int}{t:List Int},U5 ws (g::t)->(∀x∈t,C x)->Path C ws g t
 |g,[],_,_=>trivial
 |g,z::t,h,hc=>⟨hc z Yj,h 0 g z rfl rfl,TC (fun i x y k1 k2=>h (i+1) x y k1 k2) fun x hx=>hc x (Ya _ hx)⟩
end
def Gr(hs:List Int)(l:Int):Int->Prop:=fun x=>x∈hs/\l<x
def V4(hs:List Int)(ws:List (Int×Int))(l:Int)(t:List Int):Prop:=Path (Gr hs l) ws l t/\(QL l t,l)∈ws
def RF(hs:List Int)(ws:List (Int×Int))(l:Int)(r:List Int):Prop:=
 (r=[]/\∀t,¬V4 hs ws l t)\/∃t,r=l::t/\V4 hs ws l t/\∀u,V4 hs ws l u->t.length<u.length\/(t.length=u.length/\(t=u\/sl t u))
structure Lev (hs:List Int) (ws:List (Int×Int)) (l:Int) (k:Nat) (ps:List (List Int)) (ls:List Int):Prop where
 way:∀p∈ps,p.length=k/\Path (Gr hs l) ws l p
 srt:ps.Pairwise sl
 lin:∀h∈ls,Gr hs l h
 lsrt:ls.Pairwise (· < ·)
 cover:∀t,t.length<=k->Path (Gr hs l) ws l t->QL l t∉ls
 first:∀t,t.length=k->Path (Gr hs l) ws l t->(∃p∈ps,QL l p=QL l t/\(p=t\/sl p t))\/∃u,u.length<k/\Path (Gr hs l) ws l u/\QL l u=QL l t
 none:∀t,t.length<k->¬V4 hs ws l t
 comp:∀h,Gr hs l h->h∉ls->∃t,t.length<=k/\Path (Gr hs l) ws l t/\QL l t=h
section
variable {hs:List Int}{ws:List (Int×Int)}{l:Int}{k:Nat}{ps:List (List Int)}{ls:List Int}
def Lev.start (hl:ls.Pairwise (· < ·)) (hm:∀h,h∈ls↔Gr hs l h):Lev hs ws l 0 [[]] ls:=by
 have nil:∀t:List Int,t.length=0->t=[]:=fun t h=>Wg.mp h;refine⟨fun p hp=>?_,by simp,fun h hh=>(hm h).mp hh,hl,fun t ht _ h=>?_,fun t ht _=>.inl ⟨[],by simp,by rw[nil t ht],.inl (nil t ht).symm⟩,fun t ht=>by omega,fun h hh hn=>absurd ((hm h).mpr hh) hn⟩
 ·rw[ZA.mp hp];exact⟨rfl,trivial⟩
 ·rw[nil t (by omega)]at h
  have:=((hm _).mp h).2
  exact absurd this (by show ¬l<l;omega)
def Lev.found (L:Lev hs ws l k ps ls) {p:List Int}{i:Nat} (hi:i<ps.length) (ep:ps[i]=p) (hc:(QL l p,l)∈ws) (hf:∀j (hj:j<ps.length),j<i->(QL l ps[j],l)∉ws):RF hs ws l (l::p):=by
 have hp:p∈ps:=by rw[←ep];exact ZV hi
 obtain⟨w1,w2⟩:=L.way p hp;refine .inr ⟨p,rfl,⟨w2,hc⟩,fun u hu=>?_⟩;by_cases h1:u.length<k
 ·exact absurd hu (L.none u h1)
 ·by_cases h2:u.length=k
  ·rcases L.first u h2 hu.1 with⟨q,hq,e1,e2⟩|⟨v,v1,v2,v3⟩
   ·refine .inr ⟨by omega,?_⟩;obtain⟨j,hj,ej⟩:=Yo.mp hq;have hcq:(QL l ps[j],l)∈ws:=by rw[ej,e1];exact hu.2
    have hij:i<=j:=Nat.le_of_not_lt fun z=>hf j hj z hcq
    have hpq:p=q\/sl p q:=by
     by_cases e:i=j
     ·subst e;exact .inl (ep.symm.trans ej)
     ·have:=Yw.mp L.srt i j hi hj (by omega)
      rw[ep,ej]at this;exact .inr this
    rcases hpq with rfl|hpq
    ·exact e2
    ·rcases e2 with rfl|e2
     ·exact .inr hpq
     ·exact .inr (Xw hpq e2)
   ·exact absurd ⟨v2,by rw[v3];exact hu.2⟩ (L.none v v1)
  ·exact .inl (by omega)
def Lev.none_here (L:Lev hs ws l k ps ls) (h:∀p∈ps,(QL l p,l)∉ws):∀t,t.length<k+1->¬V4 hs ws l t:=fun t ht hc=>by
 by_cases h1:t.length<k
 ·exact L.none t h1 hc
 ·rcases L.first t (by omega) hc.1 with⟨q,hq,e1,e2⟩|⟨v,v1,v2,v3⟩
  ·exact h q hq (by rw[e1];exact hc.2)
  ·exact L.none v v1 ⟨v2,by rw[v3];exact hc.2⟩
def Lev.over (L:Lev hs ws l k [] ls):RF hs ws l []:=by
 refine .inl ⟨rfl,?_⟩
 have early:∀(n:Nat) (t:List Int),t.length=n->Path (Gr hs l) ws l t->∃u,u.length<k/\Path (Gr hs l) ws l u/\QL l u=QL l t:=by
  intro n
  induction n with
  |zero=>
   intro t ht hp;by_cases hk:0<k
   ·exact⟨t,by omega,hp,rfl⟩
   ·rcases L.first t (by omega) hp with⟨q,hq,_⟩|⟨v,v1,_⟩
    ·cases hq
    ·omega
  |succ n ih=>
   intro t ht hp;have ne:t≠[]:=fun z=>by rw[z]at ht;cases ht
   have et:t=t.dropLast++[t.getLast ne]:=(Wz ne).symm;generalize t.getLast ne=x at et;generalize t.dropLast=s at et;subst et;obtain⟨p1,p2⟩:=path_app.mp hp;obtain⟨u,u1,u2,u3⟩:=ih s (by simpa using ht) p1;have pu:Path (Gr hs l) ws l (u++[x]):=path_app.mpr ⟨u2,by rw[u3];exact p2⟩;have lu:QL l (u++[x])=QL l (s++[x]):=by rw[Vy,Vy];rfl
   by_cases h1:(u++[x]).length<k
   ·exact⟨_,h1,pu,lu⟩
   ·rcases L.first (u++[x]) (by rw[ZX]at h1 ⊢;simp at h1 ⊢;omega) pu with⟨q,hq,_⟩|⟨v,v1,v2,v3⟩
    ·cases hq
    ·exact⟨v,v1,v2,v3.trans lu⟩
 intro t hc;obtain⟨u,u1,u2,u3⟩:=early t.length t rfl hc.1;exact L.none u u1 ⟨u2,by rw[u3];exact hc.2⟩
structure LG (ws:List (Int×Int)) (l:Int) (P:List Int->Int->Prop) (lg:List (List Int)):Prop where
 mem:∀q∈lg,∃p h,P p h/\q=p++[h]/\(QL l p,h)∈ws
 srt:lg.Pairwise sl
 has:∀p h,P p h->(QL l p,h)∈ws->∃p',p'++[h]∈lg/\(p'=p\/sl p' p)
def Lev.next {lg:List (List Int)}{ls':List Int} (L:Lev hs ws l k ps ls) (hn:∀p∈ps,(QL l p,l)∉ws) (G:LG ws l (fun p h=>p∈ps/\h∈ls) lg)
  (e:ls'=ls.filter fun h=>decide (¬h∈lg.map (QL l))):Lev hs ws l (k+1) lg ls':=by
 have mem':∀h,h∈ls'↔h∈ls/\¬h∈lg.map (QL l):=fun h=>by rw[e,ZQ,YY]
 have way':∀q∈lg,q.length=k+1/\Path (Gr hs l) ws l q:=fun q hq=>by
  obtain⟨p,h,⟨h1,h2⟩,rfl,h3⟩:=G.mem q hq;obtain⟨w1,w2⟩:=L.way p h1;exact⟨by simp[w1],path_app.mpr ⟨w2,L.lin h h2,h3,trivial⟩⟩
 have reach:∀(s:List Int) (x:Int),s.length=k->Path (Gr hs l) ws l s->Gr hs l x->(QL l s,x)∈ws->x∈ls->∃p∈ps,QL l p=QL l s/\(p=s\/sl p s):=fun s x h1 h2 h3 h4 h5=>by
  rcases L.first s h1 h2 with z|⟨v,v1,v2,v3⟩
  ·exact z
  ·have:=L.cover (v++[x]) (by simp;omega) (path_app.mpr ⟨v2,h3,by rw[v3];exact h4,trivial⟩)
   rw[Vy]at this;exact absurd h5 this
 refine⟨way',G.srt,fun h hh=>L.lin h ((mem' h).mp hh).1,?_,fun t ht hp hl=>?_,fun t ht hp=>?_,L.none_here hn,fun h hg hnl=>?_⟩
 ·rw[e];exact L.lsrt.filter _
 ·obtain⟨m1,m2⟩:=(mem' _).mp hl;by_cases h1:t.length<=k
  ·exact L.cover t h1 hp m1
  ·have ne:t≠[]:=fun z=>by rw[z]at h1;simp at h1
   have et:t=t.dropLast++[t.getLast ne]:=(Wz ne).symm;generalize t.getLast ne=x at et;generalize t.dropLast=s at et;subst et;obtain⟨p1,p2,p3,_⟩:=path_app.mp hp;rw[Vy]at m1 m2;obtain⟨p,hp',e1,_⟩:=reach s x (by simp at ht h1;omega) p1 p2 p3 m1;obtain⟨p',k1,_⟩:=G.has p x ⟨hp',m1⟩ (by rw[e1];exact p3);exact m2 (ZS.mpr ⟨_,k1,by rw[Vy];rfl⟩)
 ·have ne:t≠[]:=fun z=>by rw[z]at ht;simp at ht
  have et:t=t.dropLast++[t.getLast ne]:=(Wz ne).symm;generalize t.getLast ne=x at et;generalize t.dropLast=s at et;subst et;obtain⟨p1,p2,p3,_⟩:=path_app.mp hp;have hs':s.length=k:=by simpa using ht
  by_cases hx:x∈ls
  ·obtain⟨p,hp',e1,e2⟩:=reach s x hs' p1 p2 p3 hx;obtain⟨p',k1,k2⟩:=G.has p x ⟨hp',hx⟩ (by rw[e1];exact p3);refine .inl ⟨_,k1,by rw[Vy,Vy];rfl,?_⟩
   have:p'=s\/sl p' s:=by
    rcases k2 with rfl|k2
    ·exact e2
    ·rcases e2 with rfl|e2
     ·exact .inr k2
     ·exact .inr (Xw k2 e2)
   rcases this with rfl|h
   ·exact .inl rfl
   ·exact .inr (X0 x x h)
  ·obtain⟨u,u1,u2,u3⟩:=L.comp x p2 hx;exact .inr ⟨u,by omega,u2,by rw[u3,Vy];rfl⟩
 ·by_cases hx:h∈ls
  ·have:h∈lg.map (QL l):=Ys fun z=>hnl ((mem' h).mpr ⟨hx,z⟩)
   obtain⟨q,hq,e1⟩:=ZS.mp this;obtain⟨w1,w2⟩:=way' q hq;exact⟨q,by omega,w2,e1⟩
  ·obtain⟨u,u1,u2,u3⟩:=L.comp h hg hx;exact⟨u,by omega,u2,u3⟩
end
def FR(hs:List Int)(ws:List (Int×Int))(r:List Int):Prop:=
 (r=[]/\∀l∈hs,∀t,¬V4 hs ws l t)\/∃l t,r=l::t/\l∈hs/\V4 hs ws l t/\∀m∈hs,∀u,V4 hs ws m u->t.length<u.length\/(t.length=u.length/\(l<m\/(l=m/\(t=u\/sl t u))))
def X8:∀(r:List Int),r≠[]->∃i,∃h:i<r.length,∀x∈r,r[i]<=x
 |[],h=>absurd rfl h
 |[a],_=>⟨0,by simp,fun x hx=>by rw[ZA.mp hx];exact Int.le_refl _⟩
 |a::b::r,_=>by
  obtain⟨i,hi,h⟩:=X8 (b::r) (by simp);by_cases c:a<=(b::r)[i]
  ·refine⟨0,by simp,fun x hx=>?_⟩;rcases ZT.mp hx with rfl|hx
   ·exact Int.le_refl _
   ·exact Int.le_trans c (h x hx)
  ·refine⟨i+1,by simpa using hi,fun x hx=>?_⟩;have e:(a::b::r)[i+1]'(by simpa using hi)=(b::r)[i]:=rfl;rw[e];rcases ZT.mp hx with rfl|hx
   ·omega
   ·exact h x hx
def Nj(r:List Int){i j:Nat}(hi:i<=r.length):(r.drop i++r.take i)[j]?=if i+j<r.length then r[i+j]? else if j<r.length then r[i+j-r.length]? else none:=by
 rw[List.getElem?_append,WZ,List.getElem?_drop];by_cases h:i+j<r.length
 ·rw[ZH (by omega),ZH h]
 ·rw[ZG (by omega),ZG h,List.getElem?_take];by_cases h2:j<r.length
  ·rw[ZH (by omega),ZH h2];congr 1;omega
  ·rw[ZG (by omega),ZG h2]
def BR{hs:List Int}{ws:List (Int×Int)}{r:List Int}(R:Ring hs ws r):∃l∈hs,∃t,V4 hs ws l t/\t.length+1=r.length:=by
 have two:=R.two;obtain⟨i,hi,hmin⟩:=X8 r (fun z=>by rw[z]at two;simp at two);have erot:r.drop i++r.take i=r[i]::(r.drop (i+1)++r.take i):=by rw[List.drop_eq_getElem_cons hi];rfl
 have hlen:(r.drop (i+1)++r.take i).length+1=r.length:=by rw[ZX,WZ,Yn];omega
 have ch:U5 ws (r[i]::(r.drop (i+1)++r.take i)):=by
  rw[←erot];intro j x y h1 h2;rw[Nj r (by omega)]at h1 h2;by_cases c1:i+(j+1)<r.length
  ·rw[ZH c1]at h2;rw[ZH (by omega)]at h1;exact R.chain (i+j) x y h1 h2
  ·rw[ZG c1]at h2;by_cases c2:j+1<r.length
   ·rw[ZH c2]at h2;by_cases c3:i+j<r.length
    ·rw[ZH c3]at h1;have e1:i+j=r.length-1:=by omega
     have e2:i+(j+1)-r.length=0:=by omega
     rw[e1]at h1;rw[e2]at h2;exact R.last y x h2 h1
    ·rw[ZG c3,ZH (by omega)]at h1;have e:i+(j+1)-r.length=(i+j-r.length)+1:=by omega
     rw[e]at h2;exact R.chain _ x y h1 h2
   ·rw[ZG c2]at h2;cases h2
 refine⟨r[i],R.sub _ (ZV hi),r.drop (i+1)++r.take i,⟨TC ch fun x hx=>?_,?_⟩,hlen⟩
 ·have hxr:x∈r:=(ZU.mp hx).elim List.mem_of_mem_drop List.mem_of_mem_take;refine⟨R.sub x hxr,Int.lt_iff_le_and_ne.mpr ⟨hmin x hxr,fun z=>?_⟩⟩
  have nd:(r.drop i++r.take i).Nodup:=by
   have:(r.take i++r.drop i).Perm (r.drop i++r.take i):=List.perm_append_comm
   rw[←this.nodup_iff,List.take_append_drop];exact R.nodup
  rw[erot]at nd;exact(Yi.mp nd).1 (by rw[z];exact hx)
 ·have e1:=UG r[i] (r.drop (i+1)++r.take i);rw[←erot,Nj r (by omega)]at e1;have e2:(r.drop (i+1)++r.take i).length=r.length-1:=by omega
  rw[e2]at e1;by_cases c:i=0
  ·subst c;rw[ZH (by omega)]at e1;exact R.last _ _ (Z5 hi) (by simpa using e1)
  ·rw[ZG (by omega),ZH (by omega)]at e1;have e3:i+(r.length-1)-r.length=i-1:=by omega
   rw[e3]at e1;exact R.chain (i-1) _ _ e1 (by rw[show i-1+1=i by omega];exact Z5 hi)
def NV:∀{t:List Int},¬t.Nodup->∃a x b c,t=a++x::(b++x::c)
 |[],h=>absurd Ww h
 |y::t,h=>by
  by_cases hy:y∈t
  ·obtain⟨b,c,e⟩:=List.append_of_mem hy;exact⟨[],y,b,c,by rw[e];rfl⟩
  ·obtain⟨a,x,b,c,e⟩:=NV (t:=t) fun z=>h (Yi.mpr ⟨hy,z⟩);exact⟨y::a,x,b,c,by rw[e];rfl⟩
def Fh{hs:List Int}{ws:List (Int×Int)}{l:Int}{t:List Int}(hu:∀q∈ws,q.1≠q.2)(hl:l∈hs)(hc:V4 hs ws l t)(hmin:∀u,V4 hs ws l u->t.length<=u.length):Ring hs ws (l::t):=by
 have hne:t≠[]:=fun z=>by
  have h2:=hc.2;rw[z]at h2;exact hu _ h2 rfl
 have hg:=Si hc.1;refine⟨by have:=List.length_pos_iff.mpr hne;simp;omega,Yi.mpr ⟨fun z=>absurd (hg l z).2 (by omega),?_⟩,fun x hx=>?_,SX hc.1,fun x y h1 h2=>?_⟩
 ·refine Ys fun z=>?_;obtain⟨a,x,b,c,e⟩:=NV z;have h1:=hc.1;rw[e]at h1;obtain⟨p1,p2⟩:=path_app.mp h1;have p3:=(path_app (a:=x::b) (b:=x::c) (g:=QL l a)).mp p2
  have cl:V4 hs ws l (a++x::c):=by
   refine⟨path_app.mpr ⟨p1,p2.1,p2.2.1,p3.2.2.2⟩,?_⟩
   have e2:QL l (a++x::c)=QL l t:=by
    rw[e,Vy,Vy];show QL x c=QL x (b++x::c);rw[Vy];rfl
   rw[e2];exact hc.2
  have:=hmin _ cl
  rw[e]at this;simp at this;omega
 ·rcases ZT.mp hx with rfl|hx
  ·exact hl
  ·exact(hg x hx).1
 ·cases h1
  have e:=UG l t;simp only[Yt,Nat.add_sub_cancel]at h2;rw[e]at h2;cases h2
  exact hc.2
def FR.none_iff {hs:List Int}{ws:List (Int×Int)}{r:List Int} (hu:∀q∈ws,q.1≠q.2) (F:FR hs ws r):r=[]↔¬ ∃r,Ring hs ws r:=by
 constructor
 ·rintro rfl ⟨r,R⟩;obtain⟨l,hl,t,hc,_⟩:=BR R;rcases F with⟨_,F⟩|⟨_,_,e,_⟩
  ·exact F l hl t hc
  ·cases e
 ·intro h;rcases F with⟨e,_⟩|⟨l,t,rfl,hl,hc,hm⟩
  ·exact e
  ·refine absurd ⟨_,Fh hu hl hc fun u hu'=>?_⟩ h;rcases hm l hl u hu' with z|⟨z,_⟩<;>omega
def Sz(ws:List (Int×Int)):Prop:=ws.length<=20/\ws.Nodup/\∀q∈ws,(1<=q.1/\q.1<=10/\1<=q.2/\q.2<=10)/\q.1≠q.2
end M
namespace Pu
open PySem PySem.Spec PyProof.Rows L2 Own
inductive D where
 |int (i:Int)|bl (b:Bool)|non|str (x:Str)|ty (n:String)|tup (ds:List D)|lst (ds:List D)|scr (ns:List Int)|dK (kvs:List (Key×V))|dT (kvs:List (List Key×V))|loc (a:Addr) (d:D)|err (C:Addr)|ref (a:Addr)|ins (C:Addr) (xs:List Str) (ds:List D)|dF (kvs:List (List Key×V))
mutual
inductive Rp (K:Za) (H:Hp):D->V->Prop
 |int (i:Int):Rp K H (.int i) (.int i)
 |bl (b:Bool):Rp K H (.bl b) (.bl b)
 |non:Rp K H .non .non
 |str (x:Str):Rp K H (.str x) (.str x)
 |ty (n:String):Rp K H (.ty n) (.ty n)
 |tup {ds:List D} {vs:List V} {a:Addr}:H a=some (.tup vs)->Rps K H ds vs->Rp K H (.tup ds) (.ref a)
 |lst {ds:List D} {vs:List V} {a:Addr}:H a=some (.lst vs)->Rps K H ds vs->Rp K H (.lst ds) (.ref a)
 |scr {ns:List Int} {a:Addr}:SqL K H a (ns.map V.int)->Rp K H (.scr ns) (.ref a)
 |dK {kvs:List (Key×V)} {a:Addr}:H a=some (.dK kvs)->Rp K H (.dK kvs) (.ref a)
 |dT {kvs:List (List Key×V)} {a:Addr}:H a=some (.dT kvs)->Rp K H (.dT kvs) (.ref a)
 |dF {kvs:List (List Key×V)} {o:Obj} {a:Addr}:H a=some (.frz o (.dT kvs))->Rp K H (.dF kvs) (.ref a)
 |loc {d:D} {a:Addr}:Rp K H d (.ref a)->Rp K H (.loc a d) (.ref a)
 |err {C a:Addr}:H a=some (ExcR.ErrH a C)->Rp K H (.err C) (.ref a)
 |ref (a:Addr):Rp K H (.ref a) (.ref a)
 |ins {C a dx:Addr} {xs:List Str} {ds:List D} {vs:List V}:H a=some (.ins C dx (xs.zip vs))->xs.length=vs.length->Rps K H ds vs->Rp K H (.ins C xs ds) (.ref a)
inductive Rps (K:Za) (H:Hp):List D->List V->Prop
 |nil:Rps K H [] []
 |cons {d:D} {v:V} {ds:List D} {vs:List V}:Rp K H d v->Rps K H ds vs->Rps K H (d::ds) (v::vs)
end
section
variable {K:Za}{H H':Hp}
mutual
def Rp.mono (S:Same H H'):∀{d:D}{v:V},Rp K H d v->Rp K H' d v
 |_,_,.int i=>.int i
 |_,_,.bl b=>.bl b
 |_,_,.non=>.non
 |_,_,.str x=>.str x
 |_,_,.ty n=>.ty n
 |_,_,.tup h r=>.tup (S _ _ h) (Rps.mono S r)
 |_,_,.lst h r=>.lst (S _ _ h) (Rps.mono S r)
 |_,_,.scr h=>.scr (S.seq h)
 |_,_,.dK h=>.dK (S _ _ h)
 |_,_,.dT h=>.dT (S _ _ h)
 |_,_,.loc h=>.loc (Rp.mono S h)
 |_,_,.dF h=>.dF (S _ _ h)
 |_,_,.err h=>.err (S _ _ h)
 |_,_,.ref a=>.ref a
 |_,_,.ins h e r=>.ins (S _ _ h) e (Rps.mono S r)
def Rps.mono (S:Same H H'):∀{ds:List D}{vs:List V},Rps K H ds vs->Rps K H' ds vs
 |_,_,.nil=>.nil
 |_,_,.cons h r=>.cons (Rp.mono S h) (Rps.mono S r)
end
def Rps.len:∀{ds:List D}{vs:List V},Rps K H ds vs->vs.length=ds.length
 |_,_,.nil=>rfl
 |_,_,.cons _ r=>Yg (· + 1) (Rps.len r)
def Rps.get:∀{ds:List D}{vs:List V}{i:Nat}{d:D},Rps K H ds vs->ds[i]?=some d->∃v,vs[i]?=some v/\Rp K H d v
 |_,_,_,_,.nil,e=>by simp at e
 |_,_,0,_,.cons h _,e=>by simp at e;subst e;exact⟨_,rfl,h⟩
 |_,_,i+1,d,.cons _ r,e=>by
  obtain⟨v,h1,h2⟩:=Rps.get (i:=i) (d:=d) r (by simpa using e);exact⟨v,by simpa using h1,h2⟩
def Rps.append:∀{ds es:List D}{vs us:List V},Rps K H ds vs->Rps K H es us->Rps K H (ds++es) (vs++us)
 |_,_,_,_,.nil,s=>s
 |_,_,_,_,.cons h r,s=>.cons h (Rps.append r s)
def Rps.drop:∀{ds:List D}{vs:List V} (n:Nat),Rps K H ds vs->Rps K H (ds.drop n) (vs.drop n)
 |_,_,0,r=>r
 |_,_,_+1,.nil=>.nil
 |_,_,n+1,.cons _ r=>Rps.drop n r
def Rps.take:∀{ds:List D}{vs:List V} (n:Nat),Rps K H ds vs->Rps K H (ds.take n) (vs.take n)
 |_,_,0,_=>.nil
 |_,_,_+1,.nil=>.nil
 |_,_,n+1,.cons h r=>.cons h (Rps.take n r)
end
mutual
def imm:D->Bool
 | .tup ds=>imms ds
 | .lst _=>false
 | .scr _=>false
 | .dK _=>false
 | .dT _=>false
 | .loc _ _=>false
 | .err _=>false
 | .ins _ _ _=>false
 |_=>true
def imms:List D->Bool
 |[]=>true
 |d::r=>imm d&&imms r
end
open Classical in
noncomputable def off(Z:Addr->Prop)(H:Hp):Hp:=fun b=>if Z b then none else H b
section
variable {K:Za}{H H':Hp}{Z Z':Addr->Prop}
def Jj{b:Addr}{o:HO}(h:off Z H b=some o):H b=some o/\¬Z b:=by
 unfold off at h;by_cases z:Z b
 ·rw[ZH z]at h;cases h
 ·rw[ZG z]at h;exact⟨h,z⟩
def Vt{b:Addr}{o:HO}(h:H b=some o)(z:¬Z b):off Z H b=some o:=by
 unfold off;rw[ZG z];exact h
def QV(S:Same H H')(hz:∀b o,H b=some o->¬Z b->¬Z' b):Same (off Z H) (off Z' H'):=fun b o h=>by
 obtain⟨h1,h2⟩:=Jj h;exact Vt (S b o h1) (hz b o h1 h2)
def off_sub:Same (off Z H) H:=fun _ _ h=>(Jj h).1
mutual
def Rp.off (hm:∀b,Z b->Mut (H b)):∀{d:D}{v:V},Rp K H d v->imm d=true->Rp K (off Z H) d v
 |_,_,.int i,_=>.int i
 |_,_,.bl b,_=>.bl b
 |_,_,.non,_=>.non
 |_,_,.str x,_=>.str x
 |_,_,.ty n,_=>.ty n
 |_,_,.tup h r,e=>.tup (Vt h fun z=>by have:=hm _ z;rw[h]at this;exact this) (Rps.off hm r (by unfold imm at e;exact e))
 |_,_,.lst _ _,e=>by unfold imm at e;cases e
 |_,_,.scr _,e=>by unfold imm at e;cases e
 |_,_,.dK _,e=>by unfold imm at e;cases e
 |_,_,.dT _,e=>by unfold imm at e;cases e
 |_,_,.loc _,e=>by unfold imm at e;cases e
 |_,_,.dF h,_=>.dF (Vt h fun z=>by have:=hm _ z;rw[h]at this;exact this)
 |_,_,.err _,e=>by unfold imm at e;cases e
 |_,_,.ref a,_=>.ref a
 |_,_,.ins _ _ _,e=>by unfold imm at e;cases e
def Rps.off (hm:∀b,Z b->Mut (H b)):∀{ds:List D}{vs:List V},Rps K H ds vs->imms ds=true->Rps K (off Z H) ds vs
 |_,_,.nil,_=>.nil
 |_,_,.cons h r,e=>by
  unfold imms at e;rw[Y4]at e;exact .cons (Rp.off hm h e.1) (Rps.off hm r e.2)
end
end
inductive O where
 |lst (ds:List D)|dK (kvs:List (Key×V))|dT (kvs:List (List Key×V))|ins (a C:Addr) (xs:List Str) (cs:List (Addr×List D))|lsA (a:Addr) (ds:List D)|nst (cs:List (Addr×List D))|nsl (a:Addr) (cs:List (Addr×List D))
instance:Coe (List D) O:=⟨O.lst⟩
def O.d:O->D
 | .lst ds=>.lst ds | .dK kvs=>.dK kvs | .dT kvs=>.dT kvs | .ins _ C xs cs=>.ins C xs (cs.map fun c=>.lst c.2) | .lsA _ ds=>.lst ds | .nst cs=>.tup (cs.map fun c=>.lst c.2) | .nsl _ cs=>.lst (cs.map fun c=>.lst c.2)
def O.adr (a:Addr):O->Addr->Prop
 | .lst _=>fun b=>b=a
 | .dK _=>fun b=>b=a
 | .dT _=>fun b=>b=a
 | .ins x _ _ cs=>fun b=>b=x\/∃c∈cs,b=c.1
 | .lsA x _=>fun b=>b=x
 | .nst cs=>fun b=>∃c∈cs,b=c.1
 | .nsl x cs=>fun b=>b=x\/∃c∈cs,b=c.1
def OR(K:Za)(F H:Hp)(a:Addr):O->Prop
 | .lst ds=>∃vs,H a=some (.lst vs)/\Rps K F ds vs
 | .dK kvs=>H a=some (.dK kvs)
 | .dT kvs=>H a=some (.dT kvs)
 | .lsA x ds=>a=x/\∃vs,H a=some (.lst vs)/\Rps K F ds vs
 | .ins x C xs cs=>a=x/\xs.length=cs.length/\(∃dx,H a=some (.ins C dx (xs.zip (cs.map fun c=>V.ref c.1))))/\(∀c∈cs,∃vs,H c.1=some (.lst vs)/\Rps K F c.2 vs)/\(cs.map (·.1)).Nodup
 | .nsl x cs=>a=x/\H a=some (.lst (cs.map fun c=>V.ref c.1))/\(∀c∈cs,∃vs,H c.1=some (.lst vs)/\Rps K F c.2 vs)/\(x::cs.map (·.1)).Nodup
 | .nst cs=>F a=some (.tup (cs.map fun c=>V.ref c.1))/\(∀c∈cs,∃vs,H c.1=some (.lst vs)/\Rps K F c.2 vs)/\(cs.map (·.1)).Nodup
def OR.mono {K:Za}{F F' H H':Hp}{a:Addr}{o:O} (S1:Same F F') (S2:∀b,o.adr a b->∀x,H b=some x->H' b=some x) (h:OR K F H a o):OR K F' H' a o:=by
 cases o with
 |lst ds=>obtain⟨vs,h1,h2⟩:=h;exact⟨vs,S2 _ rfl _ h1,Rps.mono S1 h2⟩
 |dK kvs=>exact S2 _ rfl _ h
 |dT kvs=>exact S2 _ rfl _ h
 |lsA x ds=>obtain⟨rfl,vs,h1,h2⟩:=h;exact⟨rfl,vs,S2 _ rfl _ h1,Rps.mono S1 h2⟩
 |nsl x cs=>
  obtain⟨e,h1,h2,h3⟩:=h;exact⟨e,S2 _ (.inl e) _ h1,fun c hc=>let ⟨vs,q1,q2⟩:=h2 c hc;⟨vs,S2 _ (.inr ⟨c,hc,rfl⟩) _ q1,Rps.mono S1 q2⟩,h3⟩
 |nst cs=>
  obtain⟨h1,h2,h3⟩:=h;exact⟨S1 _ _ h1,fun c hc=>let ⟨vs,q1,q2⟩:=h2 c hc;⟨vs,S2 _ ⟨c,hc,rfl⟩ _ q1,Rps.mono S1 q2⟩,h3⟩
 |ins x C xs cs=>
  obtain⟨e,l,⟨dx,h1⟩,h2,h3⟩:=h;exact⟨e,l,⟨dx,S2 _ (.inl e) _ h1⟩,fun c hc=>let ⟨vs,q1,q2⟩:=h2 c hc;⟨vs,S2 _ (.inr ⟨c,hc,rfl⟩) _ q1,Rps.mono S1 q2⟩,h3⟩
def Jy{K:Za}{F:Hp}:∀{cs:List (Addr×List D)},(∀c∈cs,∃vs,F c.1=some (.lst vs)/\Rps K F c.2 vs)->Rps K F (cs.map fun c=>.lst c.2) (cs.map fun c=>V.ref c.1)
 |[],_=>.nil
 |c::cs,h=>let ⟨_,q1,q2⟩:=h c Yj;.cons (.lst q1 q2) (Jy fun c' hc=>h c' (Ya _ hc))
def OR.rpIn {K:Za}{F F' H:Hp}{a:Addr}{o:O} (S1:Same F F') (S2:∀b,o.adr a b->∀x,H b=some x->F' b=some x) (h:OR K F H a o):Rp K F' o.d (.ref a):=by
 cases o with
 |lst ds=>obtain⟨vs,h1,h2⟩:=h;exact .lst (S2 _ rfl _ h1) (Rps.mono S1 h2)
 |dK kvs=>exact .dK (S2 _ rfl _ h)
 |dT kvs=>exact .dT (S2 _ rfl _ h)
 |lsA x ds=>obtain⟨rfl,vs,h1,h2⟩:=h;exact .lst (S2 _ rfl _ h1) (Rps.mono S1 h2)
 |nsl x cs=>
  obtain⟨e,h1,h2,h3⟩:=h;exact .lst (S2 _ (.inl e) _ h1) (Jy fun c hc=>let ⟨vs,q1,q2⟩:=h2 c hc;⟨vs,S2 _ (.inr ⟨c,hc,rfl⟩) _ q1,Rps.mono S1 q2⟩)
 |nst cs=>
  obtain⟨h1,h2,h3⟩:=h;exact .tup (S1 _ _ h1) (Jy fun c hc=>let ⟨vs,q1,q2⟩:=h2 c hc;⟨vs,S2 _ ⟨c,hc,rfl⟩ _ q1,Rps.mono S1 q2⟩)
 |ins x C xs cs=>
  obtain⟨e,l,⟨dx,h1⟩,h2,h3⟩:=h;exact .ins (S2 _ (.inl e) _ h1) (by rw[Z6];exact l) (Jy fun c hc=>let ⟨vs,q1,q2⟩:=h2 c hc;⟨vs,S2 _ (.inr ⟨c,hc,rfl⟩) _ q1,Rps.mono S1 q2⟩)
def OR.rp {K:Za}{F H:Hp}{a:Addr}{o:O} (S1:Same F H) (h:OR K F H a o):Rp K H o.d (.ref a):=h.rpIn S1 fun _ _ _ e=>e
def OR.mut {K:Za}{F H:Hp}{a:Addr}{o:O} (h:OR K F H a o):∀b,o.adr a b->Mut (H b):=by
 cases o with
 |lst ds=>obtain⟨vs,h1,h2⟩:=h;intro b e;rw[show b=a from e,h1];trivial
 |dK kvs=>intro b e;rw[show b=a from e,show H a=some (.dK kvs)from h];trivial
 |dT kvs=>intro b e;rw[show b=a from e,show H a=some (.dT kvs)from h];trivial
 |lsA x ds=>obtain⟨rfl,vs,h1,h2⟩:=h;intro b e;rw[show b=a from e,h1];trivial
 |nsl x cs=>
  obtain⟨e,h1,h2,h3⟩:=h;intro b hb;rcases hb with hb|⟨c,hc,hb⟩
  ·rw[show b=a from hb.trans e.symm,h1];trivial
  ·obtain⟨vs,q1,_⟩:=h2 c hc;rw[hb,q1];trivial
 |nst cs=>
  obtain⟨h1,h2,h3⟩:=h;rintro b ⟨c,hc,hb⟩;obtain⟨vs,q1,_⟩:=h2 c hc;rw[hb,q1];trivial
 |ins x C xs cs=>
  obtain⟨e,l,⟨dx,h1⟩,h2,h3⟩:=h;intro b hb;rcases hb with hb|⟨c,hc,hb⟩
  ·rw[show b=a from hb.trans e.symm,h1];trivial
  ·obtain⟨vs,q1,_⟩:=h2 c hc;rw[hb,q1];trivial
inductive S where
 |bor (d:D)|sh (d:D)|own (o:O)|view (o:O)|tmp (d:D)
abbrev Γ:=List (Option S)
def D.strip:D->D
 | .loc _ d=>d|d=>d
def Rp.strip {K:Za}{H:Hp}{d:D}{v:V} (h:Rp K H d v):Rp K H d.strip v:=by
 cases h with
 |loc h=>exact h
 |int i=>exact .int i
 |bl b=>exact .bl b
 |non=>exact .non
 |str x=>exact .str x
 |ty n=>exact .ty n
 |tup h r=>exact .tup h r
 |lst h r=>exact .lst h r
 |scr h=>exact .scr h
 |dK h=>exact .dK h
 |dT h=>exact .dT h
 |dF h=>exact .dF h
 |err h=>exact .err h
 |ref a=>exact .ref a
 |ins h e r=>exact .ins h e r
def S.d:S->D
 | .bor d=>d.strip | .sh d=>d | .own o=>o.d | .view o=>o.d | .tmp d=>d
def arg(d:D):S:=match imm d with|true=>.sh d|false=>.bor d
def argT(d:D):S:=match imm d with|true=>.sh d|false=>.tmp d
def S.sub:S->D->S
 | .bor _,e=>arg e | .tmp _,e=>argT e | .own (.nst _),e=>argT e | .view (.nst _),e=>argT e | .own (.nsl _ _),e=>argT e | .view (.nsl _ _),e=>argT e|_,e=>.sh e
def S.shd:S->Option D
 | .sh d=>some d | .own o=>some o.d
 | .bor d=>match imm d with|true=>some d|false=>none
 | .tmp d=>match imm d with|true=>some d|false=>none
 | .view _=>none
def S.slot:S->Option S
 | .view _=>none | .bor d=>some (.bor d) | .sh d=>some (.sh d) | .own ds=>some (.own ds)
 | .tmp d=>match imm d with|true=>some (.sh d)|false=>none
def Ew(γ:Γ)(σ:L2.St)(b:Addr):Prop:=∃(i:Nat) (ds:O) (a:Addr),γ[i]?=some (some (.own ds))/\σ[i]?=some (some (.ref a))/\ds.adr a b
def zof(B:Addr->Prop)(γ:Γ)(σ:L2.St):Addr->Prop:=fun b=>B b\/Ew γ σ b
def SV(K:Za)(Z:Addr->Prop)(H0 H:Hp):S->V->Prop
 | .bor d,v=>Rp K H0 d v
 | .sh d,v=>Rp K (off Z H) d v
 | .own o,v=>∃a,v=.ref a/\(∀b,o.adr a b->H0 b=none)/\OR K (off Z H) H a o
 |_,_=>False
def TV(K:Za)(Z:Addr->Prop)(H0 H H':Hp):S->V->Prop
 | .bor d,v=>Rp K H0 d v
 | .sh d,v=>Rp K (off Z H') d v
 | .own o,v=>∃a,v=.ref a/\(∀b,o.adr a b->H b=none)/\OR K (off (fun b=>Z b\/o.adr a b) H') H' a o
 | .view o,v=>∃a,v=.ref a/\OR K (off Z H') H' a o
 | .tmp d,v=>Rp K H' d v
structure EnvR (K:Za) (H0:Hp) (B:Addr->Prop) (H:Hp) (σ:L2.St) (γ:Γ):Prop where
 same:Same H0 H
 len:σ.length=γ.length
 bm:∀b,B b->Mut (H b)
 own:∀(i j:Nat) (a a':Addr) (ds es:O) (b:Addr),γ[i]?=some (some (.own ds))->γ[j]?=some (some (.own es))->σ[i]?=some (some (.ref a))->σ[j]?=some (some (.ref a'))->ds.adr a b->es.adr a' b->i=j
 slot:∀(i:Nat) (s:S),γ[i]?=some (some s)->∃v,σ[i]?=some (some v)/\SV K (zof B γ σ) H0 H s v
section
variable {K:Za}{H0 H H1 H':Hp}{B Z Z':Addr->Prop}{σ:L2.St}{γ:Γ}
def Jg(S:Same H H'){b:Addr}(h:Mut (H b)):Mut (H' b):=by
 cases e:H b with
 |none=>rw[e]at h;exact h.elim
 |some o=>rw[S b o e,←e];exact h
def U7{b:Addr}(h:Mut (H b)):∃o,H b=some o:=by
 cases e:H b with
 |none=>rw[e]at h;exact h.elim
 |some o=>exact⟨o,rfl⟩
def EnvR.grow (E:EnvR K H0 B H σ γ) (S:Same H H'):EnvR K H0 B H' σ γ where
 same:=E.same.trans S
 len:=E.len
 bm b h:=Jg S (E.bm b h)
 own:=E.own
 slot i s h:=by
  obtain⟨v,h1,h2⟩:=E.slot i s h;refine⟨v,h1,?_⟩;cases s with
  |bor d=>exact h2
  |sh d=>exact Rp.mono (QV S fun _ _ _ z=>z) h2
  |own ds=>
   obtain⟨a,e1,e3,e4⟩:=h2;exact⟨a,e1,e3,e4.mono (QV S fun _ _ _ z=>z) fun b _ x=>S b x⟩
  |view ds=>exact h2
  |tmp d=>exact h2
def EnvR.zm (E:EnvR K H0 B H σ γ):∀b,zof B γ σ b->Mut (H b):=fun b h=>by
 rcases h with h|⟨i,ds,x,h1,h2,hb⟩
 ·exact E.bm b h
 ·obtain⟨v,e1,a,e2,e3,e4⟩:=E.slot i _ h1;rw[h2]at e1;cases e1
  cases e2
  exact e4.mut b hb
def TV.rp {s:S}{v:V} (h0:Same H0 H') (h:TV K Z H0 H H' s v):Rp K H' s.d v:=by
 cases s with
 |bor d=>exact(Rp.mono h0 h).strip
 |sh d=>exact Rp.mono off_sub h
 |own ds=>
  obtain⟨a,rfl,_,r⟩:=h;exact r.rp off_sub
 |view ds=>
  obtain⟨a,rfl,r⟩:=h;exact r.rp off_sub
 |tmp d=>exact h
def TV.grow {s:S}{v:V} (S1:Same H' H1) (h:TV K Z H0 H H' s v):TV K Z H0 H H1 s v:=by
 cases s with
 |bor d=>exact h
 |sh d=>exact Rp.mono (QV S1 fun _ _ _ z=>z) h
 |own ds=>
  obtain⟨a,rfl,e0,r⟩:=h;exact⟨a,rfl,e0,r.mono (QV S1 fun _ _ _ z=>z) fun b _ x=>S1 b x⟩
 |view ds=>
  obtain⟨a,rfl,r⟩:=h;exact⟨a,rfl,r.mono (QV S1 fun _ _ _ z=>z) fun b _ x=>S1 b x⟩
 |tmp d=>exact Rp.mono S1 h
def TV.weak {s:S}{v:V} (S1:Same H H1) (hz:∀b,Z b->Z' b) (h:TV K Z' H0 H1 H' s v):TV K Z H0 H H' s v:=by
 cases s with
 |bor d=>exact h
 |sh d=>exact Rp.mono (QV (Same.refl _) fun b _ _ z y=>z (hz b y)) h
 |own ds=>
  obtain⟨a,rfl,e0,r⟩:=h;exact⟨a,rfl,fun b hb=>S1.free (e0 b hb),r.mono (QV (Same.refl _) fun b _ _ z y=>z (y.imp (hz b) id)) fun _ _ _ q=>q⟩
 |view ds=>
  obtain⟨a,rfl,r⟩:=h;exact⟨a,rfl,r.mono (QV (Same.refl _) fun b _ _ z y=>z (hz b y)) fun _ _ _ q=>q⟩
 |tmp d=>exact h
def TV.shd {s:S}{v:V}{d:D} (h0:Same H0 H') (hm:∀b,Z b->Mut (H b)) (S1:Same H H') (h:TV K Z H0 H H' s v) (e:s.shd=some d):Rp K (off Z H') d v:=by
 have hm':∀b,Z b->Mut (H' b):=fun b z=>Jg S1 (hm b z);cases s with
 |bor d'=>
  unfold S.shd at e;cases q:imm d' with
  |false=>simp[q]at e
  |true=>
   simp[q]at e;subst e;exact Rp.off hm' (Rp.mono h0 h) q
 |sh d'=>cases e;exact h
 |own ds=>
  cases e
  obtain⟨a,rfl,e0,r⟩:=h;exact r.rpIn (QV (Same.refl _) fun b _ _ z y=>z (.inl y)) fun b hb x e=>Vt e fun z=>by have:=hm _ z;rw[e0 b hb]at this;exact this
 |view ds=>cases e
 |tmp d'=>
  unfold S.shd at e;cases q:imm d' with
  |false=>simp[q]at e
  |true=>
   simp[q]at e;subst e;exact Rp.off hm' h q
def argR{d:D}{v:V}(hm:∀b,Z b->Mut (H' b))(h0:Same H0 H')(h:Rp K H0 d v):TV K Z H0 H H' (arg d) v:=by
 unfold arg;cases q:imm d with
 |true=>exact Rp.off hm (Rp.mono h0 h) q
 |false=>exact h
def Jb{d:D}{v:V}(hm:∀b,Z b->Mut (H' b))(h:Rp K H' d v):TV K Z H0 H H' (argT d) v:=by
 unfold argT;cases q:imm d with
 |true=>exact Rp.off hm h q
 |false=>exact h
def Rp.lst_inv {ds:List D}{v:V} (h:Rp K H (.lst ds) v):∃a vs,v=.ref a/\H a=some (.lst vs)/\Rps K H ds vs:=by
 cases h with
 |lst h r=>exact⟨_,_,rfl,h,r⟩
def Rp.tup_inv {ds:List D}{v:V} (h:Rp K H (.tup ds) v):∃a vs,v=.ref a/\H a=some (.tup vs)/\Rps K H ds vs:=by
 cases h with
 |tup h r=>exact⟨_,_,rfl,h,r⟩
def TV.part {s:S}{v:V} (h0:Same H0 H') (hm:∀b,Z b->Mut (H b)) (S1:Same H H') (h:TV K Z H0 H H' s v) :
  (∀ds,s.d=.lst ds->∃a vs,v=.ref a/\H' a=some (.lst vs)/\vs.length=ds.length/\∀(i:Nat) d,ds[i]?=some d->∃u,vs[i]?=some u/\TV K Z H0 H H' (s.sub d) u)/\
  (∀ds,s.d=.tup ds->∃a vs,v=.ref a/\H' a=some (.tup vs)/\vs.length=ds.length/\∀(i:Nat) d,ds[i]?=some d->∃u,vs[i]?=some u/\TV K Z H0 H H' (s.sub d) u):=by
 have hm':∀b,Z b->Mut (H' b):=fun b z=>Jg S1 (hm b z);cases s with
 |bor d=>
  have h:=Rp.strip h;refine⟨fun ds e=>?_,fun ds e=>?_⟩<;>rw[show d.strip=_ from e]at h
  ·obtain⟨a,vs,rfl,h,r⟩:=Rp.lst_inv h;exact⟨_,_,rfl,h0 _ _ h,r.len,fun i d e=>let ⟨u,h1,h2⟩:=r.get e;⟨u,h1,argR hm' h0 h2⟩⟩
  ·obtain⟨a,vs,rfl,h,r⟩:=Rp.tup_inv h;exact⟨_,_,rfl,h0 _ _ h,r.len,fun i d e=>let ⟨u,h1,h2⟩:=r.get e;⟨u,h1,argR hm' h0 h2⟩⟩
 |sh d=>
  refine⟨fun ds e=>?_,fun ds e=>?_⟩<;>(have e':d=_:=e;subst e')
  ·obtain⟨a,vs,rfl,h,r⟩:=Rp.lst_inv h;exact⟨_,_,rfl,off_sub _ _ h,r.len,fun i d e=>r.get e⟩
  ·obtain⟨a,vs,rfl,h,r⟩:=Rp.tup_inv h;exact⟨_,_,rfl,off_sub _ _ h,r.len,fun i d e=>r.get e⟩
 |own es=>
  cases es with
  |lst es=>
   refine⟨fun ds e=>?_,fun ds e=>by cases e⟩;cases e
   obtain⟨a,rfl,e0,vs,e,r⟩:=h;exact⟨a,vs,rfl,e,r.len,fun i d e=>let ⟨u,h1,h2⟩:=r.get e;⟨u,h1,Rp.mono (QV (Same.refl _) fun b _ _ z y=>z (.inl y)) h2⟩⟩
  |lsA x es=>
   refine⟨fun ds e=>?_,fun ds e=>by cases e⟩;cases e
   obtain⟨a,rfl,e0,_,vs,e,r⟩:=h;exact⟨a,vs,rfl,e,r.len,fun i d e=>let ⟨u,h1,h2⟩:=r.get e;⟨u,h1,Rp.mono (QV (Same.refl _) fun b _ _ z y=>z (.inl y)) h2⟩⟩
  |dK es=>exact⟨(fun ds e=>by cases e),(fun ds e=>by cases e)⟩
  |dT es=>exact⟨(fun ds e=>by cases e),(fun ds e=>by cases e)⟩
  |nsl x cs=>
   refine⟨fun ds e=>?_,fun ds e=>by cases e⟩;cases e
   obtain⟨a,rfl,e0,_,e1,e2,e3⟩:=h;have r:Rps K H' (cs.map fun c=>D.lst c.2) (cs.map fun c=>V.ref c.1):=Jy fun c hc=>let ⟨vs,q1,q2⟩:=e2 c hc;⟨vs,q1,Rps.mono off_sub q2⟩;exact⟨a,_,rfl,e1,r.len,fun i d e=>let ⟨u,h1,h2⟩:=r.get e;⟨u,h1,Jb hm' h2⟩⟩
  |nst cs=>
   refine⟨(fun ds e=>by cases e),fun ds e=>?_⟩;cases e
   obtain⟨a,rfl,e0,e1,e2,e3⟩:=h;have r:Rps K H' (cs.map fun c=>D.lst c.2) (cs.map fun c=>V.ref c.1):=Jy fun c hc=>let ⟨vs,q1,q2⟩:=e2 c hc;⟨vs,q1,Rps.mono off_sub q2⟩;exact⟨a,_,rfl,off_sub _ _ e1,r.len,fun i d e=>let ⟨u,h1,h2⟩:=r.get e;⟨u,h1,Jb hm' h2⟩⟩
  |ins x C xs cs=>exact⟨(fun ds e=>by cases e),(fun ds e=>by cases e)⟩
 |view es=>
  cases es with
  |lst es=>
   refine⟨fun ds e=>?_,fun ds e=>by cases e⟩;cases e
   obtain⟨a,rfl,vs,e,r⟩:=h;exact⟨a,vs,rfl,e,r.len,fun i d e=>r.get e⟩
  |lsA x es=>
   refine⟨fun ds e=>?_,fun ds e=>by cases e⟩;cases e
   obtain⟨a,rfl,_,vs,e,r⟩:=h;exact⟨a,vs,rfl,e,r.len,fun i d e=>r.get e⟩
  |dK es=>exact⟨(fun ds e=>by cases e),(fun ds e=>by cases e)⟩
  |dT es=>exact⟨(fun ds e=>by cases e),(fun ds e=>by cases e)⟩
  |nsl x cs=>
   refine⟨fun ds e=>?_,fun ds e=>by cases e⟩;cases e
   obtain⟨a,rfl,_,e1,e2,e3⟩:=h;have r:Rps K H' (cs.map fun c=>D.lst c.2) (cs.map fun c=>V.ref c.1):=Jy fun c hc=>let ⟨vs,q1,q2⟩:=e2 c hc;⟨vs,q1,Rps.mono off_sub q2⟩;exact⟨a,_,rfl,e1,r.len,fun i d e=>let ⟨u,h1,h2⟩:=r.get e;⟨u,h1,Jb hm' h2⟩⟩
  |nst cs=>
   refine⟨(fun ds e=>by cases e),fun ds e=>?_⟩;cases e
   obtain⟨a,rfl,e1,e2,e3⟩:=h;have r:Rps K H' (cs.map fun c=>D.lst c.2) (cs.map fun c=>V.ref c.1):=Jy fun c hc=>let ⟨vs,q1,q2⟩:=e2 c hc;⟨vs,q1,Rps.mono off_sub q2⟩;exact⟨a,_,rfl,off_sub _ _ e1,r.len,fun i d e=>let ⟨u,h1,h2⟩:=r.get e;⟨u,h1,Jb hm' h2⟩⟩
  |ins x C xs cs=>exact⟨(fun ds e=>by cases e),(fun ds e=>by cases e)⟩
 |tmp d=>
  refine⟨fun ds e=>?_,fun ds e=>?_⟩<;>(have e':d=_:=e;subst e')
  ·obtain⟨a,vs,rfl,h,r⟩:=Rp.lst_inv h;exact⟨_,_,rfl,h,r.len,fun i d e=>let ⟨u,h1,h2⟩:=r.get e;⟨u,h1,Jb hm' h2⟩⟩
  ·obtain⟨a,vs,rfl,h,r⟩:=Rp.tup_inv h;exact⟨_,_,rfl,h,r.len,fun i d e=>let ⟨u,h1,h2⟩:=r.get e;⟨u,h1,Jb hm' h2⟩⟩
def Fr(B:Addr->Prop)(H:Hp)(σ:L2.St)(γ:Γ)(H':Hp)(σ':L2.St)(γ':Γ):Prop:=∀b o,H b=some o->¬zof B γ σ b->H' b=some o/\¬zof B γ' σ' b
def Fr.refl:Fr B H σ γ H σ γ:=fun _ _ h z=>⟨h,z⟩
def Fr.trans {H1 H2:Hp}{σ1 σ2:L2.St}{γ1 γ2:Γ} (a:Fr B H σ γ H1 σ1 γ1) (b:Fr B H1 σ1 γ1 H2 σ2 γ2):Fr B H σ γ H2 σ2 γ2:=fun x o h z=>let ⟨h1,z1⟩:=a x o h z;b x o h1 z1
def Fr.grow (S1:Same H H'):Fr B H σ γ H' σ γ:=fun _ _ h z=>⟨S1 _ _ h,z⟩
def Fr.off {H':Hp}{σ':L2.St}{γ':Γ} (f:Fr B H σ γ H' σ' γ'):Same (off (zof B γ σ) H) (Pu.off (zof B γ' σ') H'):=fun b o h=>by
 obtain⟨h1,h2⟩:=Jj h;obtain⟨h3,h4⟩:=f b o h1 h2;exact Vt h3 h4
def Vi{α:Type}{l:List α}{i j:Nat}{x y:α}(h:(l.set i x)[j]?=some y):(j=i/\x=y/\i<l.length)\/(j≠i/\l[j]?=some y):=by
 rw[List.getElem?_set]at h;by_cases e:i=j
 ·subst e;rw[ZH rfl]at h;by_cases e2:i<l.length
  ·rw[ZH e2]at h;exact .inl ⟨rfl,ZE h,e2⟩
  ·rw[ZG e2]at h;cases h
 ·rw[ZG e]at h;exact .inr ⟨fun z=>e z.symm,h⟩
def UM{α:Type}{l:List α}{i:Nat}{x:α}(h:i<l.length):(l.set i x)[i]?=some x:=by rw[Wr h]
def J5{α:Type}{l:List α}{i j:Nat}{x:α}(h:j≠i):(l.set i x)[j]?=l[j]?:=W2 fun z=>h z.symm
def EnvR.drop (E:EnvR K H0 B H σ γ) (i:Nat):EnvR K H0 B H σ (γ.set i none)/\Fr B H σ γ H σ (γ.set i none):=by
 have hz:∀b,zof B (γ.set i none) σ b->zof B γ σ b:=fun b z=>z.imp id fun⟨j,ds,a,h1,h2,h3⟩=>by
  rcases Vi h1 with⟨_,e,_⟩|⟨_,e⟩
  ·cases e
  ·exact⟨j,ds,a,e,h2,h3⟩
 refine⟨⟨E.same,by rw[YG];exact E.len,E.bm,fun k j a a' ds es b h1 h2=>?_,fun k s h=>?_⟩,fun b o h z=>⟨h,fun y=>z (hz b y)⟩⟩
 ·rcases Vi h1 with⟨_,e,_⟩|⟨_,e1⟩
  ·cases e
  ·rcases Vi h2 with⟨_,e,_⟩|⟨_,e2⟩
   ·cases e
   ·exact E.own k j a a' ds es b e1 e2
 ·rcases Vi h with⟨_,e,_⟩|⟨_,e⟩
  ·cases e
  ·obtain⟨v,h1,h2⟩:=E.slot k s e;refine⟨v,h1,?_⟩;have S1:Same (Pu.off (zof B γ σ) H) (Pu.off (zof B (γ.set i none) σ) H):=QV (Same.refl _) fun b _ _ z y=>z (hz b y);cases s with
   |bor d=>exact h2
   |sh d=>exact Rp.mono S1 h2
   |own ds=>
    obtain⟨a,e1,e3,e4⟩:=h2;exact⟨a,e1,e3,e4.mono S1 fun _ _ _ q=>q⟩
   |view ds=>exact h2
   |tmp d=>exact h2
def EnvR.put {i:Nat}{s s':S}{v:V} (E:EnvR K H0 B H σ γ) (S1:Same H H') (h:TV K (zof B γ σ) H0 H H' s v) (e:s.slot=some s') (hi:i<γ.length) :
  EnvR K H0 B H' (σ.set i (some v)) (γ.set i (some s'))/\Fr B H σ γ H' (σ.set i (some v)) (γ.set i (some s')):=by
 have hiσ:i<σ.length:=by rw[E.len];exact hi
 have E':=E.grow S1
 have isown:∀ds,s'=.own ds->s=.own ds:=fun ds q=>by
  subst q;cases s with
  |own es=>cases e;rfl
  |bor d=>cases e
  |sh d=>cases e
  |view d=>cases e
  |tmp d=>unfold S.slot at e;cases q:imm d<;>simp[q]at e
 have hown:∀b,zof B (γ.set i (some s')) (σ.set i (some v)) b->zof B γ σ b\/∃ds a,s=.own ds/\v=.ref a/\ds.adr a b:=fun b z=>by
  rcases z with z|⟨j,ds,a,h1,h2,h3⟩
  ·exact .inl (.inl z)
  ·rcases Vi h1 with⟨ej,e1,_⟩|⟨nj,e1⟩
   ·subst ej;rw[UM hiσ]at h2
    have:s'=.own ds:=ZE e1
    exact .inr ⟨ds,a,isown ds this,ZE (ZE h2),h3⟩
   ·rw[J5 nj]at h2;exact .inl (.inr ⟨j,ds,a,e1,h2,h3⟩)
 have fresh:∀ds a b,s=.own ds->v=.ref a->ds.adr a b->H b=none:=fun ds a b es ev hb=>by
  subst es;obtain⟨a',e1,e0,_⟩:=h;rw[ev]at e1;cases e1
  exact e0 b hb
 have hz:∀b o,H b=some o->¬zof B γ σ b->¬zof B (γ.set i (some s')) (σ.set i (some v)) b:=fun b o hb z y=>by
  rcases hown b y with y|⟨ds,a,y1,y2,y3⟩
  ·exact z y
  ·rw[fresh ds a b y1 y2 y3]at hb;cases hb
 have So:Same (off (zof B γ σ) H) (Pu.off (zof B (γ.set i (some s')) (σ.set i (some v))) H'):=QV S1 hz;refine⟨⟨E'.same,by rw[YG,YG];exact E.len,E'.bm,fun k j a a' ds es b h1 h2 h3 h4 h5 h6=>?_,fun k u hk=>?_⟩,fun b o hb z=>⟨S1 b o hb,hz b o hb z⟩⟩
 ·have old:∀(k:Nat) (ds:O) (a b:Addr),γ[k]?=some (some (.own ds))->σ[k]?=some (some (.ref a))->ds.adr a b->∃o,H b=some o:=fun k ds a b e1 e2 e3=>by
   obtain⟨u,q1,a',q2,_,q3⟩:=E.slot k _ e1;rw[e2]at q1;cases q1
   cases q2
   exact U7 (q3.mut b e3)
  rcases Vi h1 with⟨ek,e1,_⟩|⟨nk,e1⟩
  ·rcases Vi h2 with⟨ej,e2,_⟩|⟨nj,e2⟩
   ·rw[ek,ej]
   ·subst ek;rw[UM hiσ]at h3;rw[J5 nj]at h4;obtain⟨o,ho⟩:=old j es a' b e2 h4 h6;rw[fresh ds a b (isown ds (ZE e1)) (ZE (ZE h3)) h5]at ho;cases ho
  ·rcases Vi h2 with⟨ej,e2,_⟩|⟨nj,e2⟩
   ·subst ej;rw[UM hiσ]at h4;rw[J5 nk]at h3;obtain⟨o,ho⟩:=old k ds a b e1 h3 h5;rw[fresh es a' b (isown es (ZE e2)) (ZE (ZE h4)) h6]at ho;cases ho
   ·rw[J5 nk]at h3;rw[J5 nj]at h4;exact E.own k j a a' ds es b e1 e2 h3 h4 h5 h6
 ·rcases Vi hk with⟨ek,e1,_⟩|⟨nk,e1⟩
  ·subst ek
   have:u=s':=(ZE e1).symm
   subst this;refine⟨v,UM hiσ,?_⟩;cases s with
   |own ds=>
    cases e
    obtain⟨a,rfl,e0,r⟩:=h;refine⟨a,rfl,fun b hb=>E.same.free (e0 b hb),r.mono (QV (Same.refl _) fun b o _ z y=>?_) fun _ _ _ q=>q⟩;rcases hown b y with y|⟨_,_,y1,y,y2⟩
    ·exact z (.inl y)
    ·cases y;cases y1;exact z (.inr y2)
   |sh d=>
    cases e
    refine Rp.mono (QV (Same.refl _) fun b o _ z y=>?_) h;rcases hown b y with y|⟨_,_,y,_⟩
    ·exact z y
    ·cases y
   |bor d=>cases e;exact h
   |view d=>cases e
   |tmp d=>
    unfold S.slot at e;cases q:imm d with
    |false=>simp[q]at e
    |true=>
     simp[q]at e;subst e;refine Rp.off (fun b y=>?_) h q;rcases hown b y with y|⟨_,_,y,_⟩
     ·exact Jg S1 (E.zm b y)
     ·cases y
  ·obtain⟨w,q1,q2⟩:=E.slot k u e1;refine⟨w,by rw[J5 nk];exact q1,?_⟩;cases u with
   |bor d=>exact q2
   |sh d=>exact Rp.mono So q2
   |own ds=>
    obtain⟨a,e1,e3,e4⟩:=q2;exact⟨a,e1,e3,e4.mono So fun b _ x=>S1 b x⟩
   |view ds=>exact q2
   |tmp d=>exact q2
def frz(i:Nat)(γ:Γ):Γ:=match γ[i]? with
 |some (some (.own o))=>γ.set i (some (.sh o.d))
 |_=>γ
def EnvR.frz (E:EnvR K H0 B H σ γ) (hB:∀b,B b->∃o,H0 b=some o) (i:Nat):EnvR K H0 B H σ (frz i γ)/\Fr B H σ γ H σ (Pu.frz i γ):=by
 unfold Pu.frz;split
 ·rename_i ds hi;have hlt:i<γ.length:=(ZP.mp hi).1
  have hz:∀b,zof B (γ.set i (some (.sh ds.d))) σ b->zof B γ σ b:=fun b z=>z.imp id fun⟨j,es,a,h1,h2,h3⟩=>by
   rcases Vi h1 with⟨_,e,_⟩|⟨_,e⟩
   ·cases e
   ·exact⟨j,es,a,e,h2,h3⟩
  have S1:Same (Pu.off (zof B γ σ) H) (Pu.off (zof B (γ.set i (some (.sh ds.d))) σ) H):=QV (Same.refl _) fun b _ _ z y=>z (hz b y);refine⟨⟨E.same,by rw[YG];exact E.len,E.bm,fun k j a a' es es' b h1 h2=>?_,fun k s h=>?_⟩,fun b o h z=>⟨h,fun y=>z (hz b y)⟩⟩
  ·rcases Vi h1 with⟨_,e,_⟩|⟨_,e1⟩
   ·cases e
   ·rcases Vi h2 with⟨_,e,_⟩|⟨_,e2⟩
    ·cases e
    ·exact E.own k j a a' es es' b e1 e2
  ·rcases Vi h with⟨ek,e,_⟩|⟨nk,e⟩
   ·subst ek
    have:=ZE e
    subst this;obtain⟨v,h1,a,rfl,h3,h4⟩:=E.slot k _ hi;refine⟨_,h1,h4.rpIn S1 fun b hb x h2=>Vt h2 fun z=>?_⟩;rcases z with z|⟨j,es,a',e1,e2,e3⟩
    ·obtain⟨o,ho⟩:=hB b z;rw[h3 b hb]at ho;cases ho
    ·rcases Vi e1 with⟨_,q,_⟩|⟨nj,q⟩
     ·cases q
     ·exact nj (E.own j k a' a es ds b q hi e2 h1 e3 hb)
   ·obtain⟨v,h1,h2⟩:=E.slot k s e;refine⟨v,h1,?_⟩;cases s with
    |bor d=>exact h2
    |sh d=>exact Rp.mono S1 h2
    |own ds=>
     obtain⟨a,e1,e3,e4⟩:=h2;exact⟨a,e1,e3,e4.mono S1 fun _ _ _ q=>q⟩
    |view ds=>exact h2
    |tmp d=>exact h2
 ·exact⟨E,Fr.refl⟩
def EnvR.change {i:Nat}{a:Addr}{o o':O} (E:EnvR K H0 B H σ γ) (hi:γ[i]?=some (some (.own o))) (ha:σ[i]?=some (some (.ref a)))
  (hH:∀b x,H b=some x->¬o.adr a b->H' b=some x) (hm:∀b,o.adr a b->Mut (H' b)) (hadr:∀b,o'.adr a b->o.adr a b\/H b=none) (r:OR K (Pu.off (zof B (γ.set i (some (.own o'))) σ) H') H' a o') :
  EnvR K H0 B H' σ (γ.set i (some (.own o')))/\Fr B H σ γ H' σ (γ.set i (some (.own o'))):=by
 have hlt:i<γ.length:=(ZP.mp hi).1;obtain⟨v,h1,a',rfl,h3,h4⟩:=E.slot i _ hi;rw[ha]at h1;cases h1
 have za:∀b,o.adr a b->zof B γ σ b:=fun b hb=>.inr ⟨i,o,a,hi,ha,hb⟩
 have hz:∀b x,H b=some x->zof B (γ.set i (some (.own o'))) σ b->zof B γ σ b:=fun b x hx z=>by
  rcases z with z|⟨j,fs,a',e1,e2,e3⟩
  ·exact .inl z
  ·rcases Vi e1 with⟨ej,q,_⟩|⟨_,e⟩
   ·subst ej;cases q
    rw[ha]at e2;cases e2
    rcases hadr b e3 with k|k
    ·exact za b k
    ·rw[k]at hx;cases hx
   ·exact .inr ⟨j,fs,a',e,e2,e3⟩
 have S1:Same (Pu.off (zof B γ σ) H) (Pu.off (zof B (γ.set i (some (.own o'))) σ) H'):=fun b x h=>by
  obtain⟨q1,q2⟩:=Jj h;exact Vt (hH b x q1 fun k=>q2 (za b k)) fun z=>q2 (hz b x q1 z)
 have old:∀(k:Nat) (ds:O) (a b:Addr),γ[k]?=some (some (.own ds))->σ[k]?=some (some (.ref a))->ds.adr a b->∃o,H b=some o:=fun k ds a b e1 e2 e3=>by
  obtain⟨u,q1,a',q2,_,q3⟩:=E.slot k _ e1;rw[e2]at q1;cases q1
  cases q2
  exact U7 (q3.mut b e3)
 refine⟨⟨fun b x h=>?_,by rw[YG];exact E.len,fun b hb=>?_,fun k j x x' fs fs' b e1 e2 e3 e4 e5 e6=>?_,fun k s h=>?_⟩,fun b x h z=>⟨?_,fun y=>z (hz b x h y)⟩⟩
 ·exact hH b x (E.same b x h) fun k=>by rw[h3 b k]at h;cases h
 ·by_cases k:o.adr a b
  ·exact hm b k
  ·have:=E.bm b hb
   obtain⟨x,hx⟩:=U7 this;rw[hH b x hx k,←hx];exact this
 ·rcases Vi e1 with⟨ek,q1,_⟩|⟨nk,q1⟩
  ·rcases Vi e2 with⟨ej,_,_⟩|⟨nj,q2⟩
   ·rw[ek,ej]
   ·subst ek;cases q1
    rw[ha]at e3;cases e3
    rcases hadr b e5 with w|w
    ·exact E.own k j _ _ _ _ b hi q2 ha e4 w e6
    ·obtain⟨u,hu⟩:=old j fs' x' b q2 e4 e6;rw[w]at hu;cases hu
  ·rcases Vi e2 with⟨ej,q2,_⟩|⟨nj,q2⟩
   ·subst ej;cases q2
    rw[ha]at e4;cases e4
    rcases hadr b e6 with w|w
    ·exact E.own k j _ _ _ _ b q1 hi e3 ha e5 w
    ·obtain⟨u,hu⟩:=old k fs x b q1 e3 e5;rw[w]at hu;cases hu
   ·exact E.own k j x x' fs fs' b q1 q2 e3 e4 e5 e6
 ·rcases Vi h with⟨ek,e,_⟩|⟨nk,e⟩
  ·subst ek
   have:=ZE e
   subst this;exact⟨_,ha,a,rfl,fun b hb=>(hadr b hb).elim (h3 b) fun w=>E.same.free w,r⟩
  ·obtain⟨v,q1,q2⟩:=E.slot k s e;refine⟨v,q1,?_⟩;cases s with
   |bor d=>exact q2
   |sh d=>exact Rp.mono S1 q2
   |own fs=>
    obtain⟨x,rfl,e3,e4⟩:=q2;exact⟨x,rfl,e3,e4.mono S1 fun b hb y e2=>hH b y e2 fun w=>nk (E.own k i x a fs o b e hi q1 ha hb w)⟩
   |view ds=>exact q2
   |tmp d=>exact q2
 ·exact hH b x h fun k=>z (za b k)
def EnvR.mutate {i:Nat}{a:Addr}{ds es:O}{us:HO} (E:EnvR K H0 B H σ γ) (hi:γ[i]?=some (some (.own ds))) (ha:σ[i]?=some (some (.ref a))) (hu:Mut (some us)) (r:∀F H':Hp,Same (Pu.off (zof B γ σ) H) F->H' a=some us->OR K F H' a es)
  (k1:ds.adr a=fun b=>b=a:=by rfl) (k2:es.adr a=fun b=>b=a:=by rfl) :
  EnvR K H0 B (upd H a us) σ (γ.set i (some (.own es)))/\Fr B H σ γ (upd H a us) σ (γ.set i (some (.own es))):=by
 refine E.change (o:=ds) (o':=es) hi ha (fun b x h n=>by rw[QS (fun z=>n (by rw[k1];exact z))];exact h) (fun b h=>by rw[k1]at h;rw[show b=a from h,QR];exact hu) (fun b h=>.inl (by rw[k1];rw[k2]at h;exact h)) (r _ _ ?_ QR)
 intro b x h;obtain⟨q1,q2⟩:=Jj h;have nb:b≠a:=fun z=>q2 (.inr ⟨i,ds,a,hi,ha,by rw[k1];exact z⟩);refine Vt (by rw[QS nb];exact q1) fun z=>q2 ?_;rcases z with z|⟨j,fs,a',e1,e2,e3⟩
 ·exact .inl z
 ·rcases Vi e1 with⟨ej,q,_⟩|⟨_,e⟩
  ·subst ej;cases q
   rw[ha]at e2;cases e2
   rw[k2]at e3;exact absurd e3 nb
  ·exact .inr ⟨j,fs,a',e,e2,e3⟩
end
end Pu
namespace Pu
open PySem PySem.Spec PyProof.Rows L2 Own
abbrev XR:=Str->Prop
abbrev PTE:=Γ->(S->Prop)->XR->Prop
abbrev PTT:=Γ->(Bool->Prop)->XR->Prop
abbrev PTA:=Γ->(List S->Prop)->XR->Prop
abbrev PTO:=Γ->(Option Int->Prop)->XR->Prop
structure PEnds where
 nx:Γ->Prop
 rt:S->Prop
 ex:Γ->Str->Prop
 bk:Γ->Prop:=fun _=>False
 ct:Γ->Prop:=fun _=>False
 rv:Γ->D->Prop:=fun _ _=>False
abbrev PTS:=PEnds->Γ->Prop
abbrev PTG:=S->Γ->(Γ->Prop)->Prop
abbrev PTGs:=List S->Γ->(Γ->Prop)->Prop
inductive TVs (K:Za) (Z:Addr->Prop) (H0 H H':Hp):List S->List V->Prop
 |nil:TVs K Z H0 H H' [] []
 |cons {s:S} {v:V} {ss:List S} {vs:List V}:TV K Z H0 H H' s v->TVs K Z H0 H H' ss vs->TVs K Z H0 H H' (s::ss) (v::vs)
section
variable (K:Za) (mg:Str->Option Value) (E:L2.St->XK)
def SndE(t:TE)(p:PTE):Prop:=∀(H0:Hp) (B:Addr->Prop) (H:Hp) (σ:L2.St) (γ:Γ) (R:S->Prop) (X:XR) (Q:VK),EnvR K H0 B H σ γ->p γ R X->
 (∀s v H',R s->Same H H'->TV K (zof B γ σ) H0 H H' s v->Q v H')->(∀c H',X c->Same H H'->E σ (.ref (ExcR.VM mg c)) none H')->t σ H Q
def SndT(t:TT)(p:PTT):Prop:=∀(H0:Hp) (B:Addr->Prop) (H:Hp) (σ:L2.St) (γ:Γ) (R:Bool->Prop) (X:XR) (Q:Bool->Hp->Prop),EnvR K H0 B H σ γ->p γ R X->
 (∀b H',R b->Same H H'->Q b H')->(∀c H',X c->Same H H'->E σ (.ref (ExcR.VM mg c)) none H')->t σ H Q
def SndA(t:TA)(p:PTA):Prop:=∀(H0:Hp) (B:Addr->Prop) (H:Hp) (σ:L2.St) (γ:Γ) (R:List S->Prop) (X:XR) (Q:List V->Hp->Prop),EnvR K H0 B H σ γ->p γ R X->
 (∀ss vs H',R ss->Same H H'->TVs K (zof B γ σ) H0 H H' ss vs->Q vs H')->(∀c H',X c->Same H H'->E σ (.ref (ExcR.VM mg c)) none H')->t σ H Q
def SndO(t:TO)(p:PTO):Prop:=∀(H0:Hp) (B:Addr->Prop) (H:Hp) (σ:L2.St) (γ:Γ) (R:Option Int->Prop) (X:XR) (Q:Option Int->Hp->Prop),EnvR K H0 B H σ γ->p γ R X->
 (∀o H',R o->Same H H'->Q o H')->(∀c H',X c->Same H H'->E σ (.ref (ExcR.VM mg c)) none H')->t σ H Q
structure EndR (H0:Hp) (B:Addr->Prop) (H:Hp) (σ:L2.St) (γ:Γ) (R:PEnds) (D:Ends):Prop where
 nx:∀σ' γ' H',R.nx γ'->EnvR K H0 B H' σ' γ'->Fr B H σ γ H' σ' γ'->D.nx σ' H'
 rt:∀s v H',R.rt s->Same H0 H'->TV K B H0 H0 H' s v->D.rt v H'
 ex:∀σ' γ' c H',R.ex γ' c->EnvR K H0 B H' σ' γ'->Fr B H σ γ H' σ' γ'->E σ' (.ref (ExcR.VM mg c)) none H'
 bk:∀σ' γ' H',R.bk γ'->EnvR K H0 B H' σ' γ'->Fr B H σ γ H' σ' γ'->D.bk σ' H'
 ct:∀σ' γ' H',R.ct γ'->EnvR K H0 B H' σ' γ'->Fr B H σ γ H' σ' γ'->D.ct σ' H'
 rv:∀σ' γ' d v H',R.rv γ' d->EnvR K H0 B H' σ' γ'->Fr B H σ γ H' σ' γ'->Rp K (off (zof B γ' σ') H') d v->D.rt v H'
def SndS(t:TS)(p:PTS):Prop:=∀(H0:Hp) (B:Addr->Prop) (H:Hp) (σ:L2.St) (γ:Γ) (R:PEnds) (D:Ends),(∀b,B b->∃o,H0 b=some o)->EnvR K H0 B H σ γ->p R γ->EndR K mg E H0 B H σ γ R D->t D σ H
end
section
variable {K:Za}{mg:Str->Option Value}{E:L2.St->XK}{H0 H H1 H':Hp}{B Z Z':Addr->Prop}{σ:L2.St}{γ:Γ}
def TVs.weakG {H1 H2:Hp}:∀{ss:List S}{vs:List V},Same H H1->TVs K Z H0 H1 H2 ss vs->TVs K Z H0 H H2 ss vs
 |_,_,_,.nil=>.nil
 |_,_,S1,.cons h r=>.cons (TV.weak S1 (fun _ z=>z) h) (TVs.weakG S1 r)
def TVs.rps (h0:Same H0 H'):∀{ss:List S}{vs:List V},TVs K Z H0 H H' ss vs->Rps K H' (ss.map S.d) vs
 |_,_,.nil=>.nil
 |_,_,.cons h r=>.cons (h.rp h0) (TVs.rps h0 r)
def TVs.shd {ds:List D} (h0:Same H0 H') (hm:∀b,Z b->Mut (H b)) (S1:Same H H'):∀{ss:List S}{vs:List V}{ds:List D},TVs K Z H0 H H' ss vs->ss.map S.shd=ds.map some->Rps K (off Z H') ds vs
 |_,_,[],.nil,_=>.nil
 |_,_,_::_,.nil,e=>by cases e
 |_,_,[],.cons _ _,e=>by cases e
 |_,_,d::ds,.cons h r,e=>by
  rw[ZO,ZO,Ql]at e;exact .cons (h.shd h0 hm S1 e.1) (TVs.shd (ds:=ds) h0 hm S1 r e.2)
def Rp.int_inv {i:Int}{v:V} (h:Rp K H (.int i) v):v=.int i:=by cases h;rfl
def Rp.bl_inv {b:Bool}{v:V} (h:Rp K H (.bl b) v):v=.bl b:=by cases h;rfl
def Rp.str_inv {x:Str}{v:V} (h:Rp K H (.str x) v):v=.str x:=by cases h;rfl
def Rp.non_inv {v:V} (h:Rp K H .non v):v=.non:=by cases h;rfl
def Rp.ty_inv {n:String}{v:V} (h:Rp K H (.ty n) v):v=.ty n:=by cases h;rfl
def pVar(i:Nat):PTE:=fun γ R _=>match γ[i]? with
 |some (some (.own ds))=>R (.view ds)
 |some (some s)=>R s
 |_=>False
def QE(i:Nat):SndE K mg E (tVar i) (pVar i):=by
 intro H0 B H σ γ R X Q env h q _;unfold pVar at h;split at h
 ·rename_i ds e;obtain⟨v,h1,a,rfl,h3,h4⟩:=env.slot i _ e;exact⟨_,h1,q _ _ H h (Same.refl _) ⟨a,rfl,h4⟩⟩
 ·rename_i s ns e;obtain⟨v,h1,h2⟩:=env.slot i _ e;refine⟨v,h1,q _ _ H h (Same.refl _) ?_⟩;cases s with
  |bor d=>exact h2
  |sh d=>exact h2
  |own ds=>exact absurd rfl (ns ds)
  |view ds=>exact h2.elim
  |tmp d=>exact h2.elim
 ·exact h.elim
def pC(d:D):PTE:=fun _ R _=>R (.sh d)
def se_c{d:D}{v:V}(h:∀H,Rp K H d v):SndE K mg E (tC v) (pC d):=by
 intro H0 B H σ γ R X Q env p q _;exact q _ _ H p (Same.refl _) (h _)
def Vf{i:Int}:SndE K mg E (tC (.int i)) (pC (.int i)):=se_c fun _=>.int i
def Jf{b:Bool}:SndE K mg E (tC (.bl b)) (pC (.bl b)):=se_c fun _=>.bl b
def Fi{n:String}:SndE K mg E (tC (.ty n)) (pC (.ty n)):=se_c fun _=>.ty n
def p2(a b:PTE)(f:S->S->(S->Prop)->Prop):PTE:=fun γ R X=>a γ (fun x=>b γ (fun y=>f x y R) X) X
def se_2{r:R2}{ta tb:TE}{a b:PTE}{f:S->S->(S->Prop)->Prop}(ha:SndE K mg E ta a)(hb:SndE K mg E tb b)(hr:∀(H0 H H2:Hp) (Z:Addr->Prop) (x y:S) (v u:V) (R:S->Prop) (Q:VK),Same H0 H2->Same H H2->(∀b,Z b->Mut (H b))->TV K Z H0 H H2 x v->TV K Z H0 H H2 y u->f x y R->(∀s z H',R s->Same H2 H'->TV K Z H0 H H' s z->Q z H')->r v u H2 Q) :
  SndE K mg E (tOp r ta tb) (p2 a b f):=by
 intro H0 B H σ γ R X Q env p q qx;refine ha H0 B H σ γ _ X _ env p (fun x v H1 h1 S1 t1=>?_) qx;have env1:=env.grow S1;refine hb H0 B H1 σ γ _ X _ env1 h1 (fun y u H2 h2 S2 t2=>?_) fun c H' hc S'=>qx c H' hc (S1.trans S');exact hr H0 H H2 _ x y v u R Q (env1.same.trans S2) (S1.trans S2) env.zm (t1.grow S2) (TV.weak S1 (fun _ z=>z) t2) h2 fun s z H' hs S3 t3=>q s z H' hs ((S1.trans S2).trans S3) t3
def fI0(g:Int->Int->D):S->S->(S->Prop)->Prop:=fun x y R=>match x.d,y.d with
 | .int i,.int j=>R (.sh (g i j))
 |_,_=>False
def fI(C:Int->Int->Prop)(g:Int->Int->D):S->S->(S->Prop)->Prop:=fun x y R=>match x.d,y.d with
 | .int i,.int j=>C i j/\R (.sh (g i j))
 |_,_=>False
def Uw{g:Int->Int->V}{g':Int->Int->D}{ta tb:TE}{a b:PTE}(hg:∀H i j,Rp K H (g' i j) (g i j))(ha:SndE K mg E ta a)(hb:SndE K mg E tb b):SndE K mg E (tOp (rI0 g) ta tb) (p2 a b (fI0 g')):=by
 refine se_2 ha hb fun H0 H H2 Z x y v u R Q s0 s1 hm tx ty h q=>?_;unfold fI0 at h;have rx:=tx.rp s0;have ry:=ty.rp s0;split at h
 ·rename_i i j e1 e2;rw[e1]at rx;rw[e2]at ry;exact⟨i,j,rx.int_inv,ry.int_inv,q _ _ H2 h (Same.refl _) (hg _ i j)⟩
 ·exact h.elim
def se_I{C:Int->Int->Prop}{g:Int->Int->V}{g':Int->Int->D}{ta tb:TE}{a b:PTE}(hg:∀H i j,Rp K H (g' i j) (g i j))(ha:SndE K mg E ta a)(hb:SndE K mg E tb b):SndE K mg E (tOp (rI C g) ta tb) (p2 a b (fI C g')):=by
 refine se_2 ha hb fun H0 H H2 Z x y v u R Q s0 s1 hm tx ty h q=>?_;unfold fI at h;have rx:=tx.rp s0;have ry:=ty.rp s0;split at h
 ·rename_i i j e1 e2;rw[e1]at rx;rw[e2]at ry;exact⟨i,j,rx.int_inv,ry.int_inv,h.1,q _ _ H2 h.2 (Same.refl _) (hg _ i j)⟩
 ·exact h.elim
section
variable {ta tb tc:TE}{a b c:PTE}
def Tt(ha:SndE K mg E ta a)(hb:SndE K mg E tb b):SndE K mg E (tOp (rI0 fun i j=>.int (i+j)) ta tb) (p2 a b (fI0 fun i j=>.int (i+j))):=Uw (fun _ _ _=>.int _) ha hb
def AQ(ha:SndE K mg E ta a)(hb:SndE K mg E tb b):SndE K mg E (tOp (rI0 fun i j=>.int (i-j)) ta tb) (p2 a b (fI0 fun i j=>.int (i-j))):=Uw (fun _ _ _=>.int _) ha hb
def CT(ha:SndE K mg E ta a)(hb:SndE K mg E tb b):SndE K mg E (tOp (rI CMul fun i j=>.int (i*j)) ta tb) (p2 a b (fI CMul fun i j=>.int (i*j))):=se_I (fun _ _ _=>.int _) ha hb
def Aw(ha:SndE K mg E ta a)(hb:SndE K mg E tb b):SndE K mg E (tOp (rI CDiv fun i j=>.int (i / j)) ta tb) (p2 a b (fI CDiv fun i j=>.int (i / j))):=se_I (fun _ _ _=>.int _) ha hb
def A9(ha:SndE K mg E ta a)(hb:SndE K mg E tb b):SndE K mg E (tOp (rI (fun _ j=>0<j) fun i j=>.int (i % j)) ta tb) (p2 a b (fI (fun _ j=>0<j) fun i j=>.int (i % j))):=se_I (fun _ _ _=>.int _) ha hb
def D3(ha:SndE K mg E ta a)(hb:SndE K mg E tb b):SndE K mg E (tOp (rI0 fun i j=>.bl (decide (i<j))) ta tb) (p2 a b (fI0 fun i j=>.bl (decide (i<j)))):=Uw (fun _ _ _=>.bl _) ha hb
def Pe(ha:SndE K mg E ta a)(hb:SndE K mg E tb b):SndE K mg E (tOp (rI0 fun i j=>.bl (decide (j<i))) ta tb) (p2 a b (fI0 fun i j=>.bl (decide (j<i)))):=Uw (fun _ _ _=>.bl _) ha hb
def fEq(neg:Bool):S->S->(S->Prop)->Prop:=fun x y R=>match x.d,y.d with
 | .int i,.int j=>R (.sh (.bl (if neg then !decide (i=j)else decide (i=j))))
 | .str i,.str j=>R (.sh (.bl (if neg then !decide (i=j)else decide (i=j))))
 | .bl i,.bl j=>R (.sh (.bl (if neg then !decide (i=j)else decide (i=j))))
 |_,_=>False
def JD{α β:Type}[DecidableEq α][DecidableEq β]{f:α->β}(hf:∀a b,f a=f b->a=b)(a b:α):decide (f a=f b)=decide (a=b):=by
 by_cases e:a=b
 ·rw[ZC e,ZC (Yg f e)]
 ·rw[ZM e,ZM fun z=>e (hf a b z)]
def fIx:S->S->(S->Prop)->Prop:=fun x y R=>match x.d,y.d with
 | .lst ds,.int k=>∃d,atI ds k=some d/\R (x.sub d)
 | .tup ds,.int k=>∃d,atI ds k=some d/\R (x.sub d)
 | .scr ns,.int k=>∃i,atI ns k=some i/\R (.sh (.int i))
 |_,_=>False
def S7{ds:List D}{vs:List V}{k:Int}{d:D}{P:D->V->Prop}(hl:vs.length=ds.length)(h:∀(i:Nat) d,ds[i]?=some d->∃u,vs[i]?=some u/\P d u)(e:atI ds k=some d):∃u,atI vs k=some u/\P d u:=by
 unfold atI at e ⊢;rw[hl];cases q:ixN ds.length k with
 |none=>rw[q]at e;cases e
 |some j=>
  rw[q]at e;exact h j d e
def Vm(ha:SndE K mg E ta a)(hb:SndE K mg E tb b):SndE K mg E (tOp (fun x y H Q=>rIxL K x y H Q\/rIxT K x y H Q) ta tb) (p2 a b fIx):=by
 refine se_2 ha hb fun H0 H H2 Z x y v u R Q s0 s1 hm tx ty h q=>?_;unfold fIx at h;have ry:=ty.rp s0;obtain⟨pl,pt⟩:=tx.part s0 hm s1;split at h
 ·rename_i ds k e1 e2;rw[e2]at ry;obtain⟨d,hd,hR⟩:=h;obtain⟨l,vs,rfl,hl,hn,hp⟩:=pl ds e1;obtain⟨z,hz,tz⟩:=S7 hn hp hd;exact .inl ⟨l,vs,k,z,rfl,ry.int_inv,SqL.of hl,hz,q _ _ H2 hR (Same.refl _) tz⟩
 ·rename_i ds k e1 e2;rw[e2]at ry;obtain⟨d,hd,hR⟩:=h;obtain⟨l,vs,rfl,hl,hn,hp⟩:=pt ds e1;obtain⟨z,hz,tz⟩:=S7 hn hp hd;exact .inr ⟨l,vs,k,z,rfl,ry.int_inv,SqT.of hl,hz,q _ _ H2 hR (Same.refl _) tz⟩
 ·rename_i ns k e1 e2;rw[e2]at ry;obtain⟨i,hi,hR⟩:=h;have rx:=tx.rp s0;rw[e1]at rx;cases rx with
  |scr hs=>exact .inl ⟨_,_,k,.int i,rfl,ry.int_inv,hs,UC hi,q _ _ H2 hR (Same.refl _) (.int i)⟩
 ·exact h.elim
def Eh(a b:PTE):PTE:=fun γ R X=>a γ (fun x=>match x.d with | .bl c=>if c=true then b γ R X else R (.sh (.bl false))|_=>False) X
def BK(a:PTE):PTE:=fun γ R X=>a γ (fun x=>match x.d with | .bl c=>R (.sh (.bl (!c)))|_=>False) X
def Bw(ha:SndE K mg E ta a)(hb:SndE K mg E tb b):SndE K mg E (Bf ta tb) (Eh a b):=by
 intro H0 B H σ γ R X Q env p q qx;refine ha H0 B H σ γ _ X _ env p (fun x v H1 h1 S1 t1=>?_) qx;have env1:=env.grow S1;have rx:=t1.rp env1.same;split at h1
 ·rename_i c e1;rw[e1]at rx;refine⟨c,rx.bl_inv,?_⟩;split at h1
  ·rename_i hc;rw[ZH hc];exact hb H0 B H1 σ γ _ X _ env1 h1 (fun y u H2 h2 S2 t2=>q y u H2 h2 (S1.trans S2) (TV.weak S1 (fun _ z=>z) t2)) fun c H' hc S'=>qx c H' hc (S1.trans S')
  ·rename_i hc;rw[ZG hc];exact q _ _ H1 h1 S1 (.bl _)
 ·exact h1.elim
def FW(ha:SndE K mg E ta a):SndE K mg E (Nn ta) (BK a):=by
 intro H0 B H σ γ R X Q env p q qx;refine ha H0 B H σ γ _ X _ env p (fun x v H1 h1 S1 t1=>?_) qx;have rx:=t1.rp (env.grow S1).same;split at h1
 ·rename_i c e1;rw[e1]at rx;exact⟨c,rx.bl_inv,q _ _ H1 h1 S1 (.bl _)⟩
 ·exact h1.elim
def pNeg(a:PTE):PTE:=fun γ R X=>a γ (fun x=>match x.d with | .int i=>R (.sh (.int (-i)))|_=>False) X
def XM(ha:SndE K mg E ta a):SndE K mg E (tUn (rU fun i=>.int (-i)) ta) (pNeg a):=by
 intro H0 B H σ γ R X Q env p q qx;refine ha H0 B H σ γ _ X _ env p (fun x v H1 h1 S1 t1=>?_) qx;have rx:=t1.rp (env.grow S1).same;split at h1
 ·rename_i c e1;rw[e1]at rx;exact⟨c,rx.int_inv,q _ _ H1 h1 S1 (.int _)⟩
 ·exact h1.elim
def Sw(a:PTE):PTT:=fun γ R X=>a γ (fun x=>match x.d with | .bl c=>R c|_=>False) X
def Vw(ha:SndE K mg E ta a):SndT K mg E (UN ta) (Sw a):=by
 intro H0 B H σ γ R X Q env p q qx;refine ha H0 B H σ γ _ X _ env p (fun x v H1 h1 S1 t1=>?_) qx;have rx:=t1.rp (env.grow S1).same;split at h1
 ·rename_i c e1;rw[e1]at rx;exact⟨c,rx.bl_inv,q _ H1 h1 S1⟩
 ·exact h1.elim
def st_b(ha:SndE K mg E ta a):SndT K mg E (tB ta) (Sw a):=Vw ha
variable {sa sb:TT}{pa pb:PTT}
def pAnd(a b:PTT):PTT:=fun γ R X=>a γ (fun c=>if c=true then b γ R X else R false) X
def pOr(a b:PTT):PTT:=fun γ R X=>a γ (fun c=>if c=true then R true else b γ R X) X
def pNot(a:PTT):PTT:=fun γ R X=>a γ (fun c=>R (!c)) X
def Kc(ha:SndT K mg E sa pa)(hb:SndT K mg E sb pb):SndT K mg E (tAnd sa sb) (pAnd pa pb):=by
 intro H0 B H σ γ R X Q env p q qx;refine ha H0 B H σ γ _ X _ env p (fun c H1 h1 S1=>?_) qx;split at h1
 ·rename_i hc;rw[ZH hc];exact hb H0 B H1 σ γ _ X _ (env.grow S1) h1 (fun y H2 h2 S2=>q y H2 h2 (S1.trans S2)) fun c H' hc S'=>qx c H' hc (S1.trans S')
 ·rename_i hc;rw[ZG hc];exact q _ H1 h1 S1
def KS(ha:SndT K mg E sa pa)(hb:SndT K mg E sb pb):SndT K mg E (tOr sa sb) (pOr pa pb):=by
 intro H0 B H σ γ R X Q env p q qx;refine ha H0 B H σ γ _ X _ env p (fun c H1 h1 S1=>?_) qx;split at h1
 ·rename_i hc;rw[ZH hc];exact q _ H1 h1 S1
 ·rename_i hc;rw[ZG hc];exact hb H0 B H1 σ γ _ X _ (env.grow S1) h1 (fun y H2 h2 S2=>q y H2 h2 (S1.trans S2)) fun c H' hc S'=>qx c H' hc (S1.trans S')
def JK(ha:SndT K mg E sa pa):SndT K mg E (tNot sa) (pNot pa):=by
 intro H0 B H σ γ R X Q env p q qx;exact ha H0 B H σ γ _ X _ env p (fun c H1 h1 S1=>q _ H1 h1 S1) qx
end
def pNil:PTA:=fun _ R _=>R []
def J4(a:PTE)(r:PTA):PTA:=fun γ R X=>a γ (fun s=>r γ (fun ss=>R (s::ss)) X) X
def Jd:SndA K mg E tNil pNil:=by
 intro H0 B H σ γ R X Q env p q _;exact q _ _ H p (Same.refl _) .nil
def V3{te:TE}{ta:TA}{a:PTE}{r:PTA}(ha:SndE K mg E te a)(hr:SndA K mg E ta r):SndA K mg E (Vu te ta) (J4 a r):=by
 intro H0 B H σ γ R X Q env p q qx;refine ha H0 B H σ γ _ X _ env p (fun s v H1 h1 S1 t1=>?_) qx;refine hr H0 B H1 σ γ _ X _ (env.grow S1) h1 (fun ss vs H2 h2 S2 t2=>?_) fun c H' hc S'=>qx c H' hc (S1.trans S');exact q _ _ H2 h2 (S1.trans S2) (.cons (t1.grow S2) (TVs.weakG S1 t2))
def shds:List S->Option (List D)
 |[]=>some []
 |s::r=>match s.shd,shds r with
  |some d,some ds=>some (d::ds)
  |_,_=>none
def KB:∀{ss:List S}{ds:List D},shds ss=some ds->ss.map S.shd=ds.map some
 |[],ds,h=>by cases h;rfl
 |s::r,ds,h=>by
  unfold shds at h;split at h
  ·rename_i d es e1 e2;cases h
   rw[ZO,ZO,e1,KB e2]
  ·cases h
def pTup(r:PTA):PTE:=fun γ R X=>r γ (fun ss=>match shds ss with|some ds=>ds.length<=1000/\R (.sh (.tup ds))|none=>False) X
def pLst(r:PTA):PTE:=fun γ R X=>r γ (fun ss=>match shds ss with|some ds=>ds.length<=1000/\R (.own ds)|none=>False) X
def SD{n:Nat}(h:n<=1000):n<=sizeLine:=WA (Kr h)
def J1{ta:TA}{r:PTA}(hr:SndA K mg E ta r):SndE K mg E (tTup ta) (pTup r):=by
 intro H0 B H σ γ R X Q env p q qx;refine hr H0 B H σ γ _ X _ env p (fun ss vs H1 h1 S1 t1=>?_) qx;split at h1
 ·rename_i ds e;have env1:=env.grow S1;have rp:=t1.shd (ds:=ds) env1.same env.zm S1 (KB e);refine⟨by rw[rp.len];exact SD h1.1,fun l nl=>?_⟩;have S2:=QX (o:=.tup vs) nl;refine q _ _ _ h1.2 (S1.trans S2) (.tup (Vt QR fun z=>?_) (Rps.mono (QV S2 fun _ _ _ z=>z) rp))
  have:=env1.zm l z
  rw[nl]at this;exact this
 ·exact h1.elim
def JB{H H1:Hp}{l:Addr}{vs:List V}{ds:List D}(S1:Same H H1)(nl:H1 l=none)(rp:Rps K (off Z H1) ds vs):TV K Z H0 H (upd H1 l (.lst vs)) (.own ds) (.ref l):=
 ⟨l,rfl,(fun _ e=>e▸S1.free nl),vs,QR,Rps.mono (QV (QX nl) fun b o hb z y=>y.elim z fun e=>by rw[e,nl]at hb;cases hb) rp⟩
def VS{ta:TA}{r:PTA}(hr:SndA K mg E ta r):SndE K mg E (tLst ta) (pLst r):=by
 intro H0 B H σ γ R X Q env p q qx;refine hr H0 B H σ γ _ X _ env p (fun ss vs H1 h1 S1 t1=>?_) qx;split at h1
 ·rename_i ds e;have env1:=env.grow S1;have rp:=t1.shd (ds:=ds) env1.same env.zm S1 (KB e);refine⟨by rw[rp.len];exact SD h1.1,fun l nl=>?_⟩;exact q _ _ _ h1.2 (S1.trans (QX nl)) (JB S1 nl rp)
 ·exact h1.elim
abbrev Pc:=List D->(S->Prop)->XR->Prop
def spOf(mg:Str->Option Value)(c:Pc)(K:Za):Sp:=fun vs H Q E=>∃ds R X,Rps K H ds vs/\c ds R X/\(∀s v H',R s->Same H H'->TV K (fun b=>Mut (H b)) H H H' s v->Q v H')/\∀e H',X e->Same H H'->E (.ref (ExcR.VM mg e)) none H'
def S.back:S->S
 | .bor d=>argT d | .view o=>.tmp o.d|s=>s
def TV.back {s:S}{v:V} (env:EnvR K H0 B H1 σ γ) (S1:Same H H1) (S2:Same H1 H') (h:TV K (fun b=>Mut (H1 b)) H1 H1 H' s v):TV K (zof B γ σ) H0 H H' s.back v:=by
 cases s with
 |bor d=>exact Jb (fun b z=>Jg S2 (env.zm b z)) (Rp.mono S2 h)
 |sh d=>exact Rp.mono (QV (Same.refl _) fun b _ _ z y=>z (env.zm b y)) h
 |own ds=>
  obtain⟨a,rfl,e0,r⟩:=h;exact⟨a,rfl,(fun b hb=>S1.free (e0 b hb)),r.mono (QV (Same.refl _) fun b _ _ z y=>z (y.imp (env.zm b) id)) fun _ _ _ q=>q⟩
 |view ds=>
  obtain⟨a,rfl,r⟩:=h;exact r.rp off_sub
 |tmp d=>exact h
def CB(c:Pc)(r:PTA):PTE:=fun γ R X=>r γ (fun ss=>c (ss.map S.d) (fun s=>R s.back) fun _=>False) X
def Vb{c:Pc}{ta:TA}{r:PTA}(hr:SndA K mg E ta r):SndE K mg E (UL (spOf mg c K) [] E0 ta) (CB c r):=by
 intro H0 B H σ γ R X Q env p q qx;refine hr H0 B H σ γ _ X _ env p (fun ss vs H1 h1 S1 t1=>?_) qx;rw[Wl];have env1:=env.grow S1;exact⟨_,_,_,t1.rps env1.same,h1,fun s v H' hs S2 tv=>q _ _ H' hs (S1.trans S2) (tv.back env1 S1 S2),fun _ _ z=>z.elim⟩
end
section
variable {K:Za}{mg:Str->Option Value}{E:L2.St->XK}{H0 H H1 H':Hp}{B Z Z':Addr->Prop}{σ:L2.St}{γ:Γ}
def EnvR.set {i:Nat}{s s':S}{v:V} (Ev:EnvR K H0 B H σ γ) (S1:Same H H') (h:TV K (zof B γ σ) H0 H H' s v) (e:s.slot=some s') :
  EnvR K H0 B H' (σ.set i (some v)) (γ.set i (some s'))/\Fr B H σ γ H' (σ.set i (some v)) (γ.set i (some s')):=by
 by_cases hi:i<γ.length
 ·exact Ev.put S1 h e hi
 ·rw[List.set_eq_of_length_le (by rw[Ev.len];omega),List.set_eq_of_length_le (by omega)];exact⟨Ev.grow S1,Fr.grow S1⟩
def Upd(is:List Nat)(σ σ':L2.St):Prop:=(∀j,j∉is->σ'[j]?=σ[j]?)/\σ'.length=σ.length
def Jz(K:Za)(is:List Nat)(t:TG)(p:PTG):Prop:=∀(H0:Hp) (B:Addr->Prop) (H H':Hp) (σ:L2.St) (γ:Γ) (s:S) (v:V) (R:Γ->Prop) (Q:L2.St->Hp->Prop),EnvR K H0 B H σ γ->Same H H'->TV K (zof B γ σ) H0 H H' s v->p s γ R->
 (∀σ' γ',R γ'->EnvR K H0 B H' σ' γ'->Fr B H σ γ H' σ' γ'->Upd is σ σ'->Q σ' H')->t v σ H' Q
def Be(i:Nat):PTG:=fun s γ R=>match s.slot with|some s'=>R (γ.set i (some s'))|none=>False
def QJ(i:Nat):Jz K [i] (JM i) (Be i):=by
 intro H0 B H H' σ γ s v R Q env S1 tv p q;unfold Be at p;split at p
 ·rename_i s' e;obtain⟨e1,f1⟩:=env.set (i:=i) S1 tv e;exact q _ _ p e1 f1 ⟨fun j hj=>J5 fun z=>hj (by rw[z];exact ZA.mpr rfl),YG⟩
 ·exact p.elim
def F5:PTGs:=fun ss γ R=>match ss with|[]=>R γ|_=>False
def BV(g:PTG)(r:PTGs):PTGs:=fun ss γ R=>match ss with|s::t=>g s γ fun γ'=>r t γ' R|[]=>False
def TV.notown {s:S}{v:V}{σ':L2.St}{γ':Γ}{Hb:Hp} (f:Fr B H σ γ H' σ' γ') (hb:Same H H') (n:∀ds,s≠.own ds) (nv:∀ds,s≠.view ds) (h:TV K (zof B γ σ) H0 Hb H s v):TV K (zof B γ' σ') H0 H' H' s v:=by
 cases s with
 |bor d=>exact h
 |sh d=>exact Rp.mono f.off h
 |own ds=>exact absurd rfl (n ds)
 |view ds=>exact absurd rfl (nv ds)
 |tmp d=>exact Rp.mono hb h
def TVs.notown {σ':L2.St}{γ':Γ}{Hb:Hp} (f:Fr B H σ γ H σ' γ'):∀{ss:List S}{vs:List V},(∀s∈ss,∀ds,s≠.own ds/\s≠.view ds)->TVs K (zof B γ σ) H0 Hb H ss vs->TVs K (zof B γ' σ') H0 H H ss vs
 |_,_,_,.nil=>.nil
 |_,_,n,.cons h r=>.cons (h.notown f (Same.refl _) (fun ds=>(n _ Yj ds).1) fun ds=>(n _ Yj ds).2) (TVs.notown f (fun s hs=>n s (Ya _ hs)) r)
def X6(d:D):arg d=.sh d\/arg d=.bor d:=by unfold arg;cases imm d<;>simp
def Ug(d:D):argT d=.sh d\/argT d=.tmp d:=by unfold argT;cases imm d<;>simp
def PX(s:S)(d:D):∀ds,s.sub d≠.own ds/\s.sub d≠.view ds:=fun ds=>by
 cases s with
 |bor b=>rcases X6 d with e|e<;>(show arg d≠_/\arg d≠_;rw[e];exact⟨(fun z=>by cases z),(fun z=>by cases z)⟩)
 |tmp b=>rcases Ug d with e|e<;>(show argT d≠_/\argT d≠_;rw[e];exact⟨(fun z=>by cases z),(fun z=>by cases z)⟩)
 |sh b=>exact⟨(fun z=>by cases z),(fun z=>by cases z)⟩
 |own b=>
  cases b with
  |nst cs=>rcases Ug d with e|e<;>(show argT d≠_/\argT d≠_;rw[e];exact⟨(fun z=>by cases z),(fun z=>by cases z)⟩)
  |nsl a cs=>rcases Ug d with e|e<;>(show argT d≠_/\argT d≠_;rw[e];exact⟨(fun z=>by cases z),(fun z=>by cases z)⟩)
  |_=>exact⟨(fun z=>by cases z),(fun z=>by cases z)⟩
 |view b=>
  cases b with
  |nst cs=>rcases Ug d with e|e<;>(show argT d≠_/\argT d≠_;rw[e];exact⟨(fun z=>by cases z),(fun z=>by cases z)⟩)
  |nsl a cs=>rcases Ug d with e|e<;>(show argT d≠_/\argT d≠_;rw[e];exact⟨(fun z=>by cases z),(fun z=>by cases z)⟩)
  |_=>exact⟨(fun z=>by cases z),(fun z=>by cases z)⟩
def UF(K:Za)(is:List Nat)(t:TGs)(p:PTGs):Prop:=∀(H0:Hp) (B:Addr->Prop) (H:Hp) (σ:L2.St) (γ:Γ) (ss:List S) (vs:List V) (R:Γ->Prop) (Q:L2.St->Hp->Prop),EnvR K H0 B H σ γ->TVs K (zof B γ σ) H0 H H ss vs->(∀s∈ss,∀ds,s≠.own ds/\s≠.view ds)->p ss γ R->
 (∀σ' γ',R γ'->EnvR K H0 B H σ' γ'->Fr B H σ γ H σ' γ'->Upd is σ σ'->Q σ' H)->t vs σ H Q
def Pr:UF K [] gNil F5:=by
 intro H0 B H σ γ ss vs R Q env tv no p q;cases tv with
 |nil=>exact⟨rfl,q _ _ p env Fr.refl ⟨fun _ _=>rfl,rfl⟩⟩
 |cons _ _=>exact p.elim
def Xp{is js:List Nat}{g:TG}{r:TGs}{pg:PTG}{pr:PTGs}(hg:Jz K is g pg)(hr:UF K js r pr):UF K (is++js) (NM g r) (BV pg pr):=by
 intro H0 B H σ γ ss vs R Q env tv no p q;cases tv with
 |nil=>exact p.elim
 |cons h t=>
  refine⟨_,_,rfl,hg H0 B H H σ γ _ _ _ _ env (Same.refl _) h p fun σ1 γ1 p1 e1 f1 k1=>?_⟩;refine hr H0 B H σ1 γ1 _ _ _ _ e1 (TVs.notown f1 (fun s hs=>no s (Ya _ hs)) t) (fun s hs=>no s (Ya _ hs)) p1 fun σ2 γ2 p2 e2 f2 k2=>?_;exact q σ2 γ2 p2 e2 (f1.trans f2) ⟨fun j hj=>(k2.1 j fun z=>hj (ZY _ z)).trans (k1.1 j fun z=>hj (YZ _ z)),k2.2.trans k1.2⟩
def PQ(n:Nat)(r:PTGs):PTG:=fun s γ R=>match s.d with | .tup ds=>ds.length=n/\r (ds.map s.sub) γ R|_=>False
def TVs.of_part {ds:List D}{s:S}:∀{vs:List V}{ds:List D},vs.length=ds.length->(∀(i:Nat) d,ds[i]?=some d->∃u,vs[i]?=some u/\TV K Z H0 H H' (s.sub d) u)->TVs K Z H0 H H' (ds.map s.sub) vs
 |[],[],_,_=>.nil
 |[],_::_,e,_=>by cases e
 |_::_,[],e,_=>by cases e
 |v::vs,d::ds,e,h=>by
  obtain⟨u,h1,h2⟩:=h 0 d rfl;cases h1
  exact .cons h2 (TVs.of_part (ds:=ds) (by simpa using e) fun i d' hd=>by simpa using h (i+1) d' (by simpa using hd))
def Py{n:Nat}{is:List Nat}{r:TGs}{pr:PTGs}(hr:UF K is r pr):Jz K is (gTup K n r) (PQ n pr):=by
 intro H0 B H H' σ γ s v R Q env S1 tv p q;unfold PQ at p;have env1:=env.grow S1;obtain⟨_,pt⟩:=tv.part env1.same env.zm S1;split at p
 ·rename_i ds e;obtain⟨a,vs,rfl,ha,hn,hp⟩:=pt ds e;refine⟨a,vs,rfl,SqT.of ha,hn.trans p.1,?_⟩;have tvs:=TVs.of_part (ds:=ds) hn hp;refine hr H0 B H' σ γ _ vs R Q env1 (TVs.notown (Fr.refl) (fun s' hs ds=>?_) tvs) (fun s' hs ds=>?_) p.2 fun σ' γ' hR e1 f1 k1=>q σ' γ' hR e1 (Fr.trans (Fr.grow S1) f1) k1
  ·obtain⟨d,_,rfl⟩:=ZS.mp hs;exact PX s d ds
  ·obtain⟨d,_,rfl⟩:=ZS.mp hs;exact PX s d ds
 ·exact p.elim
def EndR.from {R:PEnds}{D:Ends}{σ1:L2.St}{γ1:Γ} (e:EndR K mg E H0 B H σ γ R D) (f:Fr B H σ γ H1 σ1 γ1):EndR K mg E H0 B H1 σ1 γ1 R D:=
 ⟨fun σ' γ' H' h1 h2 h3=>e.nx σ' γ' H' h1 h2 (f.trans h3),e.rt,fun σ' γ' c H' h1 h2 h3=>e.ex σ' γ' c H' h1 h2 (f.trans h3),fun σ' γ' H' h1 h2 h3=>e.bk σ' γ' H' h1 h2 (f.trans h3),fun σ' γ' H' h1 h2 h3=>e.ct σ' γ' H' h1 h2 (f.trans h3),fun σ' γ' d v H' h1 h2 h3=>e.rv σ' γ' d v H' h1 h2 (f.trans h3)⟩
variable {te:TE}{a:PTE}{tt:TT}{c:PTT}{t u:TS}{p q:PTS}
def E8:PTS:=fun R γ=>R.nx γ
def Vx:SndS K mg E Tx E8:=fun _ _ _ _ _ _ _ _ env h e=>e.nx _ _ _ h env Fr.refl
def pSeq(p q:PTS):PTS:=fun R γ=>p {R with nx:=q R} γ
def QN(hp:SndS K mg E t p)(hq:SndS K mg E u q):SndS K mg E (tSeq t u) (pSeq p q):=by
 intro H0 B H σ γ R D hB env h e;refine hp H0 B H σ γ _ _ hB env h ⟨fun σ' γ' H' h1 e1 f1=>?_,e.rt,e.ex,e.bk,e.ct,e.rv⟩;exact hq H0 B H' σ' γ' R D hB e1 h1 (e.from f1)
def pFrz(i:Nat)(p:PTS):PTS:=fun R γ=>p R (frz i γ)
def Vl(i:Nat)(hp:SndS K mg E t p):SndS K mg E t (pFrz i p):=by
 intro H0 B H σ γ R D hB env h e;obtain⟨e1,f1⟩:=env.frz hB i;exact hp H0 B H σ _ R D hB e1 h (e.from f1)
def pAsg(a:PTE)(g:PTG):PTS:=fun R γ=>a γ (fun s=>g s γ R.nx) (R.ex γ)
def QW{is:List Nat}{g:TG}{pg:PTG}(ha:SndE K mg E te a)(hg:Jz K is g pg):SndS K mg E (tAsg te g) (pAsg a pg):=by
 intro H0 B H σ γ R D hB env h e;refine ha H0 B H σ γ _ _ _ env h (fun s v H1 h1 S1 t1=>?_) fun c H' hc S'=>e.ex σ γ c H' hc (env.grow S') (Fr.grow S');exact hg H0 B H H1 σ γ s v _ _ env S1 t1 h1 fun σ' γ' h2 e2 f2 _=>e.nx σ' γ' H1 h2 e2 f2
def pAug(i:Nat)(f:Int->Int->Int)(a:PTE):PTS:=fun R γ=>match γ[i]? with
 |some (some (.sh (.int x)))=>a γ (fun y=>match y.d with | .int j=>R.nx (γ.set i (some (.sh (.int (f x j)))))|_=>False) (R.ex γ)
 |_=>False
def pRet(a:PTE):PTS:=fun R γ=>a γ R.rt (R.ex γ)
def VO(ha:SndE K mg E te a):SndS K mg E (tRet te) (pRet a):=by
 intro H0 B H σ γ R D hB env h e;refine ha H0 B H σ γ _ _ _ env h (fun s v H1 h1 S1 t1=>?_) fun c H' hc S'=>e.ex σ γ c H' hc (env.grow S') (Fr.grow S');exact e.rt s v H1 h1 (env.same.trans S1) (TV.weak env.same (fun b z=>.inl z) t1)
def Nm(i:Nat):PTS:=fun R γ=>match γ[i]? with|some (some s)=>R.rt s|_=>False
def Jk(i:Nat):SndS K mg E (tRet (tVar i)) (Nm i):=by
 intro H0 B H σ γ R D hB env h e;unfold Nm at h;split at h
 ·rename_i s hs;obtain⟨v,h1,h2⟩:=env.slot i _ hs;refine⟨v,h1,e.rt s v H h env.same ?_⟩;cases s with
  |bor d=>exact h2
  |sh d=>exact Rp.mono (QV (Same.refl _) fun b _ _ z y=>z (.inl y)) h2
  |own ds=>
   obtain⟨l,rfl,e2,e3⟩:=h2;exact⟨l,rfl,e2,e3.mono (QV (Same.refl _) fun b _ _ z y=>z (y.elim .inl fun w=>.inr ⟨i,ds,l,hs,h1,w⟩)) fun _ _ _ q=>q⟩
  |view ds=>exact h2.elim
  |tmp d=>exact h2.elim
 ·exact h.elim
def pIfS(c:PTT)(p q:PTS):PTS:=fun R γ=>c γ (fun b=>if b=true then p R γ else q R γ) (R.ex γ)
def Vz(hc:SndT K mg E tt c)(hp:SndS K mg E t p)(hq:SndS K mg E u q):SndS K mg E (tIfS tt t u) (pIfS c p q):=by
 intro H0 B H σ γ R D hB env h e;refine hc H0 B H σ γ _ _ _ env h (fun b H1 h1 S1=>?_) fun c H' hc S'=>e.ex σ γ c H' hc (env.grow S') (Fr.grow S');split at h1
 ·rename_i hb;rw[ZH hb];exact hp H0 B H1 σ γ R D hB (env.grow S1) h1 (e.from (Fr.grow S1))
 ·rename_i hb;rw[ZG hb];exact hq H0 B H1 σ γ R D hB (env.grow S1) h1 (e.from (Fr.grow S1))
def Ee(a:PTE):PTS:=fun R γ=>a γ (fun _=>R.nx γ) (R.ex γ)
def BI(ha:SndE K mg E te a):SndS K mg E (K5 te) (Ee a):=by
 intro H0 B H σ γ R D hB env h e;exact ha H0 B H σ γ _ _ _ env h (fun s v H1 h1 S1 t1=>e.nx σ γ H1 h1 (env.grow S1) (Fr.grow S1)) fun c H' hc S'=>e.ex σ γ c H' hc (env.grow S') (Fr.grow S')
def Et:PTS:=fun _ _=>False
def DH:SndS K mg E Sa Et:=fun _ _ _ _ _ _ _ _ _ h _=>h
def fPar(i j:Nat)(γ:Γ)(R:Γ->Prop):List S->Prop
 |[.sh d,.sh e]=>R ((γ.set i (some (.sh d))).set j (some (.sh e)))
 |_=>False
def clr:List Nat->Γ->Γ
 |[],γ=>γ
 |i::r,γ=>clr r (γ.set i none)
def EnvR.clr:∀(is:List Nat) {γ:Γ},EnvR K H0 B H σ γ->EnvR K H0 B H σ (clr is γ)/\Fr B H σ γ H σ (Pu.clr is γ)
 |[],_,e=>⟨e,Fr.refl⟩
 |i::r,γ,e=>by
  obtain⟨e1,f1⟩:=e.drop i;obtain⟨e2,f2⟩:=EnvR.clr r e1;exact⟨e2,f1.trans f2⟩
def Later(H0:Hp)(Z:Addr->Prop)(H1:Hp)(Z':Addr->Prop)(H':Hp):Prop:=Same H0 H'/\(∀b,Z' b->Mut (H' b))/\∀b o,H1 b=some o->¬Z b->H' b=some o/\¬Z' b
def Later.of {σ':L2.St}{γ':Γ} (e:EnvR K H0 B H' σ' γ') (f:Fr B H1 σ γ H' σ' γ'):Later H0 (zof B γ σ) H1 (zof B γ' σ') H':=⟨e.same,e.zm,f⟩
def Later.off (l:Later H0 Z H1 Z' H'):Same (off Z H1) (Pu.off Z' H'):=fun b o h=>by
 obtain⟨h1,h2⟩:=Jj h;obtain⟨h3,h4⟩:=l.2.2 b o h1 h2;exact Vt h3 h4
structure ItOk (K:Za) (H0:Hp) (B:Addr->Prop) (H1:Hp) (σ:L2.St) (γ:Γ) (J:It) (n:Nat) (item:Nat->S):Prop where
 go:∀(i:Nat) (H':Hp) (Z':Addr->Prop),i<n->Later H0 (zof B γ σ) H1 Z' H'->J.go i H'/\∀x H'',J.yld i H' x H''->Same H' H''/\TV K Z' H0 H' H'' (item i) x
 stop:∀(H':Hp) (Z':Addr->Prop),Later H0 (zof B γ σ) H1 Z' H'->J.stop n H'
abbrev PTI:=Γ->(Nat->(Nat->S)->Prop)->XR->Prop
def SndI(K:Za)(mg:Str->Option Value)(E:L2.St->XK)(wi:TI)(it:PTI):Prop:=∀(H0:Hp) (B:Addr->Prop) (H:Hp) (σ:L2.St) (γ:Γ) (R:Nat->(Nat->S)->Prop) (X:XR) (Q:It->Hp->Prop),EnvR K H0 B H σ γ->it γ R X->
 (∀n item J H1,R n item->Same H H1->ItOk K H0 B H1 σ γ J n item->Q J H1)->(∀c H',X c->Same H H'->E σ (.ref (ExcR.VM mg c)) none H')->wi σ H Q
structure ForW (js:List Nat) (γ:Γ) (g:PTG) (body:PTS) (R:PEnds) (n:Nat) (item:Nat->S):Prop where
 w:∃inv:Nat->Γ->Prop,inv 0 (clr js γ)/\
 (∀i γ',i<n->inv i γ'->g (item i) γ' fun γ2=>body {R with nx:=fun γ3=>inv (i+1) (clr js γ3),ct:=fun γ3=>inv (i+1) (clr js γ3),bk:=R.nx} γ2)/\∀γ',inv n γ'->R.nx γ'
def pFor(js:List Nat)(it:PTI)(g:PTG)(body:PTS):PTS:=fun R γ=>it γ (fun n item=>ForW js γ g body R n item) (R.ex γ)
def V5{is:List Nat}{wi:TI}{g:TG}{it:PTI}{pg:PTG}(js:List Nat)(hi:SndI K mg E wi it)(hg:Jz K is g pg)(hb:SndS K mg E t p):SndS K mg E (tFor wi g t) (pFor js it pg p):=by
 intro H0 B H σ γ R D hB env h e;refine hi H0 B H σ γ _ _ _ env h (fun n item J H1 h1 S1 ok=>?_) fun c H' hc S'=>e.ex σ γ c H' hc (env.grow S') (Fr.grow S');obtain⟨inv,h0,hs,hd⟩:=h1.w;have env1:=env.grow S1;refine⟨fun i m σ' H'=>m=n-i/\i<=n/\∃γ',inv i γ'/\EnvR K H0 B H' σ' γ'/\Fr B H1 σ γ H' σ' γ',⟨n,by simp,Y0 _,_,h0,(env1.clr js).1,(env1.clr js).2⟩,?_⟩;rintro i m σ' H' ⟨rfl,hin,γ',hi',e',f'⟩;by_cases hlt:i<n
 ·obtain⟨go,yl⟩:=ok.go i H' _ hlt (Later.of e' f');refine .inr ⟨go,fun σ2 H2=>∃γ2,inv (i+1) γ2/\EnvR K H0 B H2 σ2 γ2/\Fr B H1 σ γ H2 σ2 γ2,fun σ2 H2 ⟨γ2,a1,a2,a3⟩=>⟨n-(i+1),by omega,rfl,hlt,γ2,a1,a2,a3⟩,fun x H'' y=>?_⟩;obtain⟨S2,tv⟩:=yl x H'' y;refine hg H0 B H' H'' σ' γ' _ _ _ _ e' S2 tv (hs i γ' hlt hi') fun σ2 γ2 q2 e2 f2 _=>?_;have fall:=f'.trans f2;refine hb H0 B H'' σ2 γ2 _ _ hB e2 q2 ⟨fun σ3 γ3 H3 q3 e3 f3=>?_,e.rt,fun σ3 γ3 c H3 q3 e3 f3=>e.ex σ3 γ3 c H3 q3 e3 ((Fr.grow S1).trans (fall.trans f3)),fun σ3 γ3 H3 q3 e3 f3=>e.nx σ3 γ3 H3 q3 e3 ((Fr.grow S1).trans (fall.trans f3)),fun σ3 γ3 H3 q3 e3 f3=>?_,fun σ3 γ3 d v H3 q3 e3 f3=>e.rv σ3 γ3 d v H3 q3 e3 ((Fr.grow S1).trans (fall.trans f3))⟩
  ·exact⟨_,q3,(e3.clr js).1,(fall.trans f3).trans (e3.clr js).2⟩
  ·exact⟨_,q3,(e3.clr js).1,(fall.trans f3).trans (e3.clr js).2⟩
 ·have:i=n:=by omega
  subst this;exact .inl ⟨ok.stop H' _ (Later.of e' f'),e.nx σ' γ' H' (hd γ' hi') e' ((Fr.grow S1).trans f')⟩
def S.fix:S->Bool
 | .bor _=>true | .sh _=>true | .own (.nsl _ _)=>false | .own _=>true|_=>false
def pIL(a:PTE):PTI:=fun γ R X=>a γ (fun s=>match s.d with
 | .lst ds=>s.fix=true/\R ds.length fun i=>s.sub (ds.getD i .non)
 | .scr ns=>s.fix=true/\R ns.length fun i=>.sh (.int (ns.getD i 0))
 |_=>False) X
def TV.last {s:S}{v:V}{ds:List D} (env:EnvR K H0 B H σ γ) (S1:Same H H1) (tv:TV K (zof B γ σ) H0 H H1 s v) (hf:s.fix=true) (hd:s.d=.lst ds):∃l vs,v=.ref l/\vs.length=ds.length/\
  ∀(H':Hp) (Z':Addr->Prop),Later H0 (zof B γ σ) H1 Z' H'->H' l=some (.lst vs)/\∀(i:Nat) d,ds[i]?=some d->∃u,vs[i]?=some u/\TV K Z' H0 H' H' (s.sub d) u:=by
 have env1:=env.grow S1
 have key:∀{s:S},(∀d,s.sub d=.sh d)->Rp K (Pu.off (zof B γ σ) H1) (.lst ds) v->∃l vs,v=.ref l/\vs.length=ds.length/\
   ∀(H':Hp) (Z':Addr->Prop),Later H0 (zof B γ σ) H1 Z' H'->H' l=some (.lst vs)/\∀(i:Nat) d,ds[i]?=some d->∃u,vs[i]?=some u/\TV K Z' H0 H' H' (s.sub d) u:=fun hs h=>by
  obtain⟨l,vs,rfl,h1,h2⟩:=Rp.lst_inv h;refine⟨l,vs,rfl,h2.len,fun H' Z' lt=>⟨off_sub _ _ (lt.off _ _ h1),fun i d hi=>?_⟩⟩;obtain⟨u,h3,h4⟩:=h2.get hi;refine⟨u,h3,?_⟩;rw[hs];exact Rp.mono lt.off h4
 cases s with
 |bor d=>
  have tv:=Rp.strip tv;rw[show d.strip=.lst ds from hd]at tv
  obtain⟨l,vs,rfl,h1,h2⟩:=Rp.lst_inv tv;refine⟨l,vs,rfl,h2.len,fun H' Z' lt=>⟨lt.1 _ _ h1,fun i d hi=>?_⟩⟩;obtain⟨u,h3,h4⟩:=h2.get hi;exact⟨u,h3,argR lt.2.1 lt.1 h4⟩
 |sh d=>
  have:d=.lst ds:=hd
  subst this;exact key (fun _=>rfl) tv
 |own es=>
  cases es with
  |lst es=>
   cases hd
   exact key (fun _=>rfl) (tv.shd env1.same env.zm S1 rfl)
  |lsA x es=>
   cases hd
   exact key (fun _=>rfl) (tv.shd env1.same env.zm S1 rfl)
  |dK es=>cases hd
  |dT es=>cases hd
  |ins x C xs cs=>cases hd
  |nst cs=>cases hd
  |nsl a cs=>cases hf
 |view es=>cases hf
 |tmp d=>cases hf
def VU{te:TE}{a:PTE}(ha:SndE K mg E te a):SndI K mg E (U6 K te) (pIL a):=by
 intro H0 B H σ γ R X Q env h q qx;refine ha H0 B H σ γ _ X _ env h (fun s v H1 h1 S1 t1=>?_) qx;have env1:=env.grow S1;split at h1
 ·rename_i ds ed;obtain⟨l,vs,rfl,hn,hl⟩:=t1.last env S1 h1.1 ed;obtain⟨hl1,_⟩:=hl H1 _ (Later.of env1 Fr.refl);refine⟨l,rfl,⟨vs,SqL.of hl1⟩,q _ _ _ H1 h1.2 S1 ⟨fun i H' Z' hi lt=>?_,fun H' Z' lt=>?_⟩⟩
  ·obtain⟨k1,k2⟩:=hl H' Z' lt;have hd:ds[i]?=some (ds.getD i .non):=by rw[Z7,Z5 hi];rfl
   obtain⟨u,hu,tu⟩:=k2 i _ hd;refine⟨⟨vs,u,SqL.of k1,hu⟩,fun x H'' y=>?_⟩;obtain⟨rfl,y⟩:=y
   have:=y vs (SqL.of k1)
   rw[hu]at this;cases this
   exact⟨Same.refl _,tu⟩
  ·exact⟨vs,SqL.of (hl H' Z' lt).1,by omega⟩
 ·rename_i ns ed
  have hs:∃l,v=.ref l/\∀(H':Hp) (Z':Addr->Prop),Later H0 (zof B γ σ) H1 Z' H'->SqL K H' l (ns.map V.int):=by
   cases s with
   |bor d=>
    have t1:=Rp.strip t1;rw[show d.strip=.scr ns from ed]at t1
    cases t1 with
    |scr hs=>exact⟨_,rfl,fun H' Z' lt=>lt.1.seq hs⟩
   |sh d=>
    have:d=.scr ns:=ed
    subst this;cases t1 with
    |scr hs=>exact⟨_,rfl,fun H' Z' lt=>off_sub.seq (lt.off.seq hs)⟩
   |own es=>cases es<;>cases ed
   |view es=>cases es<;>cases ed
   |tmp d=>cases h1.1
  obtain⟨l,rfl,hl⟩:=hs;refine⟨l,rfl,⟨_,hl H1 _ (Later.of env1 Fr.refl)⟩,q _ _ _ H1 h1.2 S1 ⟨fun i H' Z' hi lt=>?_,fun H' Z' lt=>?_⟩⟩
  ·have k1:=hl H' Z' lt
   have hu:(ns.map V.int)[i]?=some (.int (ns.getD i 0)):=by
    rw[ZD,Z5 hi,Z7,Z5 hi];rfl
   refine⟨⟨_,_,k1,hu⟩,fun x H'' y=>?_⟩;obtain⟨rfl,y⟩:=y
   have:=y _ k1
   rw[hu]at this;cases this
   exact⟨Same.refl _,.int _⟩
  ·exact⟨_,hl H' Z' lt,by rw[Z6];exact ZF _⟩
 ·exact h1.elim
def fR1(R:Nat->(Nat->S)->Prop):List D->Prop
 |[.int j]=>(-(2 ^ 62)<=j/\j<2 ^ 62)/\R j.toNat fun i=>.sh (.int (0+(i:Int)))
 |_=>False
def fR2(R:Nat->(Nat->S)->Prop):List D->Prop
 |[.int i,.int j]=>(-(2 ^ 62)<=i/\i<2 ^ 62/\-(2 ^ 62)<=j/\j<2 ^ 62)/\R (j-i).toNat fun k=>.sh (.int (i+(k:Int)))
 |_=>False
def pIR1(r:PTA):PTI:=fun γ R X=>r γ (fun ss=>fR1 R (ss.map S.d)) X
def pIR2(r:PTA):PTI:=fun γ R X=>r γ (fun ss=>fR2 R (ss.map S.d)) X
def Rps.one_inv {d:D}{vs:List V} (h:Rps K H [d] vs):∃v,vs=[v]/\Rp K H d v:=by
 cases h with
 |cons h r=>cases r;exact⟨_,rfl,h⟩
def Rps.two_inv {d e:D}{vs:List V} (h:Rps K H [d,e] vs):∃v u,vs=[v,u]/\Rp K H d v/\Rp K H e u:=by
 cases h with
 |cons h r=>cases r with|cons h2 r=>cases r;exact⟨_,_,rfl,h,h2⟩
def T4{lo:Int}{n:Nat}:ItOk K H0 B H1 σ γ (Itr lo n) n fun i=>.sh (.int (lo+(i:Int))):=by
 refine⟨fun i H' Z' hi lt=>⟨hi,fun x H'' y=>?_⟩,fun H' Z' lt=>ZF _⟩;obtain⟨e,y⟩:=y;subst e y;exact⟨Same.refl _,.int _⟩
def KJ{ta:TA}{r:PTA}(hr:SndA K mg E ta r):SndI K mg E (Sj ta) (pIR1 r):=by
 intro H0 B H σ γ R X Q env h q qx;refine hr H0 B H σ γ _ X _ env h (fun ss vs H1 h1 S1 t1=>?_) qx;have rv:=t1.rps (env.grow S1).same;unfold fR1 at h1;split at h1
 ·rename_i j ej;rw[ej]at rv;obtain⟨v,rfl,r1⟩:=rv.one_inv;rw[r1.int_inv];exact⟨j,rfl,h1.1.1,h1.1.2,q _ _ _ H1 h1.2 S1 T4⟩
 ·exact h1.elim
def BJ{ta:TA}{r:PTA}(hr:SndA K mg E ta r):SndI K mg E (N0 ta) (pIR2 r):=by
 intro H0 B H σ γ R X Q env h q qx;refine hr H0 B H σ γ _ X _ env h (fun ss vs H1 h1 S1 t1=>?_) qx;have rv:=t1.rps (env.grow S1).same;unfold fR2 at h1;split at h1
 ·rename_i i j ej;rw[ej]at rv;obtain⟨v,u,rfl,r1,r2⟩:=rv.two_inv;rw[r1.int_inv,r2.int_inv];exact⟨i,j,rfl,h1.1,q _ _ _ H1 h1.2 S1 T4⟩
 ·exact h1.elim
structure WhileW (js:List Nat) (γ:Γ) (c:PTT) (body:PTS) (R:PEnds):Prop where
 w:∃(inv:Γ->Prop) (μ:Γ->Nat),inv (clr js γ)/\∀γ',inv γ'->c γ' (fun b=>if b=true then
  body {R with nx:=fun γ3=>inv (clr js γ3)/\μ (clr js γ3)<μ γ',ct:=fun γ3=>inv (clr js γ3)/\μ (clr js γ3)<μ γ',bk:=R.nx} γ' else R.nx γ') (R.ex γ')
def Ds(js:List Nat)(c:PTT)(body:PTS):PTS:=fun R γ=>WhileW js γ c body R
def FO(js:List Nat)(hc:SndT K mg E tt c)(hb:SndS K mg E t p):SndS K mg E (Tr tt t) (Ds js c p):=by
 intro H0 B H σ γ R D hB env h e;obtain⟨inv,μ,h0,hs⟩:=h.w;refine⟨fun m σ' H'=>∃γ',m=μ γ'/\inv γ'/\EnvR K H0 B H' σ' γ'/\Fr B H σ γ H' σ' γ',⟨_,_,rfl,h0,(env.clr js).1,(env.clr js).2⟩,?_⟩;rintro m σ' H' ⟨γ',rfl,hi,e',f'⟩;refine hc H0 B H' σ' γ' _ _ _ e' (hs γ' hi) (fun b H1 h1 S1=>?_) fun c H'' hc S'=>e.ex σ' γ' c H'' hc (e'.grow S') (f'.trans (Fr.grow S'));have e1:=e'.grow S1;have f1:=f'.trans (Fr.grow S1);cases b with
 |false=>
  rw[ZG ZJ]at h1 ⊢;exact e.nx σ' γ' H1 h1 e1 f1
 |true=>
  rw[ZH rfl]at h1 ⊢;refine⟨fun σ2 H2=>∃γ2,μ γ2<μ γ'/\inv γ2/\EnvR K H0 B H2 σ2 γ2/\Fr B H σ γ H2 σ2 γ2,fun σ2 H2 ⟨γ2,k,a1,a2,a3⟩=>⟨_,k,γ2,rfl,a1,a2,a3⟩,?_⟩;refine hb H0 B H1 σ' γ' _ _ hB e1 h1 ⟨fun σ3 γ3 H3 q3 e3 f3=>?_,e.rt,fun σ3 γ3 c H3 q3 e3 f3=>e.ex σ3 γ3 c H3 q3 e3 (f1.trans f3),fun σ3 γ3 H3 q3 e3 f3=>e.nx σ3 γ3 H3 q3 e3 (f1.trans f3),fun σ3 γ3 H3 q3 e3 f3=>?_,fun σ3 γ3 d v H3 q3 e3 f3=>e.rv σ3 γ3 d v H3 q3 e3 (f1.trans f3)⟩
  ·exact⟨_,q3.2,q3.1,(e3.clr js).1,(f1.trans f3).trans (e3.clr js).2⟩
  ·exact⟨_,q3.2,q3.1,(e3.clr js).1,(f1.trans f3).trans (e3.clr js).2⟩
end
section
variable {K:Za}{mg:Str->Option Value}{E:L2.St->XK}{H0 H H1 H':Hp}{B Z Z':Addr->Prop}{σ:L2.St}{γ:Γ}
def Je(N:List Str)(ds:List D):Γ:=ds.map (fun d=>some (arg d))++List.replicate (N.length-ds.length) none
def Br{N:List Str}{ds:List D}{vs:List V}(r:Rps K H ds vs)(hn:ds.length<=N.length):EnvR K H (fun b=>Mut (H b)) H (start N vs) (Je N ds):=by
 have hlen:=r.len
 have get:∀(i:Nat) (s:S),(Je N ds)[i]?=some (some s)->∃d,ds[i]?=some d/\s=arg d:=fun i s h=>by
  unfold Je at h;by_cases hi:i<ds.length
  ·rw[Yd (by rw[Z6];exact hi),ZD,Z5 hi]at h;exact⟨_,Z5 hi,(ZE (ZE h)).symm⟩
  ·rw[Yl (by rw[Z6];omega),List.getElem?_replicate]at h;split at h<;>cases h
 have noown:∀(i:Nat) (es:O),(Je N ds)[i]?≠some (some (.own es)):=fun i es h=>by
  obtain⟨d,_,e⟩:=get i _ h;rcases X6 d with q|q<;>rw[q]at e<;>cases e
 refine⟨Same.refl _,?_,fun b h=>h,fun i j a a' es es' b h=>absurd h (noown i es),fun i s h=>?_⟩
 ·unfold L2.start Je;simp[hlen]
 ·obtain⟨d,hd,rfl⟩:=get i s h;obtain⟨v,hv,rv⟩:=r.get hd;refine⟨v,?_,?_⟩
  ·unfold L2.start;rw[Yd (by rw[Z6];exact(ZP.mp hv).1),ZD,hv];rfl
  ·have tv:=argR (K:=K) (Z:=zof (fun b=>Mut (H b)) (Je N ds) (start N vs)) (H0:=H) (H:=H) (H':=H) (fun b z=>z.elim id fun⟨k,es,_,k1,_⟩=>absurd k1 (noown k es)) (Same.refl _) rv;rcases X6 d with q|q<;>rw[q]at tv ⊢<;>exact tv
def FS{c:Pc}{N:List Str}{t:TS}{p:PTS}{vs:List V}{Q:VK}{Ec:XK}{n:Nat}(h:spOf mg c K vs H Q Ec)(snd:SndS K mg (fun _=>Ec) t p)(hn:n<=N.length)(hp:∀ds R X,c ds R X->ds.length=n/\p {nx:=fun _=>R (.sh .non),rt:=R,ex:=fun _ e=>X e} (Je N ds)):t {nx:=fun _ H'=>Q .non H',rt:=Q} (start N vs) H:=by
 obtain⟨ds,R,X,r,hc,hQ,hX⟩:=h;obtain⟨e,hp⟩:=hp ds R X hc;refine snd H (fun b=>Mut (H b)) H _ _ _ _ (fun b z=>U7 z) (Br r (by rw[e];exact hn)) hp ⟨fun σ' γ' H' h1 e1 f1=>hQ _ _ H' h1 e1.same .non,fun s v H' h1 S1 tv=>hQ s v H' h1 S1 tv,fun σ' γ' c H' h1 e1 f1=>hX c H' h1 e1.same,fun _ _ _ z=>z.elim,fun _ _ _ z=>z.elim,fun _ _ _ _ _ z=>z.elim⟩
def BM{c:Pc}{vs:List V}{Q:VK}{Ec:XK}{n:Nat}(h:spOf mg c K vs H Q Ec)(hn:∀ds R X,c ds R X->ds.length=n):vs.length=n:=by
 obtain⟨ds,R,X,r,hc,_⟩:=h;rw[r.len];exact hn ds R X hc
def atP(φ:List (Option Nat))(γ:Γ):Γ:=φ.map fun o=>o.bind fun j=>(γ[j]?).join
structure CompW (φ:List (Option Nat)) (γ:Γ) (g:PTG) (c:PTT) (e:PTE) (n:Nat) (item:Nat->S) (R:S->Prop):Prop where
 w:n<=100000/\∃f:Nat->Option D,(∀i,i<n->g (item i) (atP φ γ) fun γ2=>c γ2 (fun b=>if b=true then e γ2 (fun s=>∃d,s.shd=some d/\f i=some d) (fun _=>False)else f i=none) (fun _=>False))/\R (.own ((List.range n).filterMap f))
def BO(φ:List (Option Nat))(it:PTI)(g:PTG)(c:PTT)(e:PTE):PTE:=fun γ R X=>it γ (fun n item=>CompW φ γ g c e n item R) X
def Xo{φ:List (Option Nat)}{i:Nat}{s:S}(h:(atP φ γ)[i]?=some (some s)):∃j,φ[i]?=some (some j)/\γ[j]?=some (some s):=by
 unfold atP at h;rw[ZD]at h;cases e:φ[i]? with
 |none=>rw[e]at h;cases h
 |some o=>
  rw[e]at h;cases o with
  |none=>simp at h
  |some j=>
   refine⟨j,rfl,?_⟩;simp at h;cases e2:γ[j]? with
   |none=>rw[e2]at h;simp at h
   |some w=>rw[e2]at h;simp at h;rw[h]
def KC:∀{φ:List (Option Nat)},(φ.filterMap id).Nodup->∀(i j k:Nat),φ[i]?=some (some k)->φ[j]?=some (some k)->i=j
 |[],_,i,_,_,h,_=>by simp at h
 |none::r,hn,i,j,k,h1,h2=>by
  cases i with
  |zero=>simp at h1
  |succ i=>
   cases j with
   |zero=>simp at h2
   |succ j=>exact Yg (· + 1) (KC (φ:=r) (by simpa using hn) i j k (by simpa using h1) (by simpa using h2))
 |some m::r,hn,i,j,k,h1,h2=>by
  have hn':m∉r.filterMap id/\(r.filterMap id).Nodup:=by simpa using hn
  have mem:∀{j:Nat},r[j]?=some (some k)->k∈r.filterMap id:=fun h=>Qt.mpr ⟨some k,Yb h,rfl⟩;cases i with
  |zero=>
   cases j with
   |zero=>rfl
   |succ j=>
    have e:m=k:=by simpa using h1
    subst e;exact absurd (mem (by simpa using h2)) hn'.1
  |succ i=>
   cases j with
   |zero=>
    have e:m=k:=by simpa using h2
    subst e;exact absurd (mem (by simpa using h1)) hn'.1
   |succ j=>exact Yg (· + 1) (KC (φ:=r) hn'.2 i j k (by simpa using h1) (by simpa using h2))
def UH{φ:List (Option Nat)}{i j:Nat}(h1:φ[i]?=some (some j)){v:V}(h2:σ[j]?=some (some v)):(atStart φ σ)[i]?=some (some v):=by
 unfold atStart;rw[ZD,h1];simp[h2]
def Ko{φ:List (Option Nat)}{L:Addr}(env:EnvR K H0 B H σ γ)(nL:H L=none):∀b o,H b=some o->¬zof B γ σ b->¬zof (fun b=>zof B γ σ b\/b=L) (atP φ γ) (atStart φ σ) b:=fun b o hb z y=>by
 rcases y with(y|y)|⟨i',ds,x,y1,y2,y3⟩
 ·exact z y
 ·rw[y,nL]at hb;cases hb
 ·obtain⟨m,m1,m2⟩:=Xo y1;obtain⟨w,w1,_⟩:=env.slot m _ m2;rw[UH m1 w1]at y2;exact z (.inr ⟨m,ds,x,m2,by rw[w1];exact Yg some (ZE y2),y3⟩)
def NZ{φ:List (Option Nat)}{L:Addr}(env:EnvR K H0 B H σ γ)(S1:Same H H')(nL:H L=none)(hL:∃ys,H' L=some (.lst ys))(hφ:(φ.filterMap id).Nodup) :
  EnvR K H0 (fun b=>zof B γ σ b\/b=L) H' (atStart φ σ) (atP φ γ):=by
 refine⟨env.same.trans S1,by unfold atStart atP;simp,fun b z=>?_,fun i j a a' ds es b h1 h2 h3 h4 h5 h6=>?_,fun i s h=>?_⟩
 ·rcases z with z|rfl
  ·exact Jg S1 (env.zm b z)
  ·obtain⟨ys,e⟩:=hL;rw[e];trivial
 ·obtain⟨k,k1,k2⟩:=Xo h1;obtain⟨l,l1,l2⟩:=Xo h2;obtain⟨v,v1,_⟩:=env.slot k _ k2;obtain⟨u,u1,_⟩:=env.slot l _ l2;rw[UH k1 v1]at h3;rw[UH l1 u1]at h4
  have:=env.own k l a a' ds es b k2 l2 (by rw[v1];exact Yg some (ZE h3)) (by rw[u1];exact Yg some (ZE h4)) h5 h6
  subst this;exact KC hφ i j k k1 l1
 ·obtain⟨k,k1,k2⟩:=Xo h;obtain⟨v,v1,v2⟩:=env.slot k _ k2;have So:Same (off (zof B γ σ) H) (off (zof (fun b=>zof B γ σ b\/b=L) (atP φ γ) (atStart φ σ)) H'):=QV S1 (Ko env nL);refine⟨v,UH k1 v1,?_⟩;cases s with
  |bor d=>exact v2
  |sh d=>exact Rp.mono So v2
  |own ds=>
   obtain⟨a,e1,e3,e4⟩:=v2;exact⟨a,e1,e3,e4.mono So fun b _ x=>S1 b x⟩
  |view ds=>exact v2
  |tmp d=>exact v2
def Sub.of {σ σ':L2.St}{is:List Nat} (hl:σ'.length=σ.length) (h1:∀j,j∉is->σ'[j]?=σ[j]?) (h2:∀j∈is,∀v,σ[j]?≠some (some v)):Sub σ σ':=⟨hl,fun i v e=>by
 by_cases hi:i∈is
 ·exact absurd e (h2 i hi v)
 ·rw[h1 i hi];exact e⟩
structure ItOkC (K:Za) (H0:Hp) (B:Addr->Prop) (H1:Hp) (σ:L2.St) (γ:Γ) (J:It) (n:Nat) (item:Nat->S):Prop where
 go:∀(i:Nat) (H':Hp) (Z':Addr->Prop),i<n->Same H1 H'->Later H0 (zof B γ σ) H1 Z' H'->J.go i H'/\∀x H'',J.yld i H' x H''->Same H' H''/\TV K Z' H0 H' H'' (item i) x
 stop:∀(H':Hp) (Z':Addr->Prop),Same H1 H'->Later H0 (zof B γ σ) H1 Z' H'->J.stop n H'
def Xl(K:Za)(mg:Str->Option Value)(E:L2.St->XK)(wi:TI)(it:PTI):Prop:=∀(H0:Hp) (B:Addr->Prop) (H:Hp) (σ:L2.St) (γ:Γ) (R:Nat->(Nat->S)->Prop) (X:XR) (Q:It->Hp->Prop),EnvR K H0 B H σ γ->it γ R X->
 (∀n item J H1,R n item->Same H H1->ItOkC K H0 B H1 σ γ J n item->Q J H1)->(∀c H',X c->Same H H'->E σ (.ref (ExcR.VM mg c)) none H')->wi σ H Q
def SndI.c {wi:TI}{it:PTI} (h:SndI K mg E wi it):Xl K mg E wi it:=fun H0 B H σ γ R X Q env p q qx=>
 h H0 B H σ γ R X Q env p (fun n item J H1 hR S1 ok=>q n item J H1 hR S1 ⟨fun i H' Z' hi _ lt=>ok.go i H' Z' hi lt,fun H' Z' _ lt=>ok.stop H' Z' lt⟩) qx
def pILc(a:PTE):PTI:=fun γ R X=>a γ (fun s=>match s.d with
 | .lst ds=>R ds.length fun i=>s.sub (ds.getD i .non)
 | .tup ds=>False
 | .scr ns=>R ns.length fun i=>.sh (.int (ns.getD i 0))
 |_=>False) X
def Jc{te:TE}{a:PTE}(ha:SndE K mg E te a):Xl K mg E (U6 K te) (pILc a):=by
 intro H0 B H σ γ R X Q env h q qx;refine ha H0 B H σ γ _ X _ env h (fun s v H1 h1 S1 t1=>?_) qx;have env1:=env.grow S1;split at h1
 ·rename_i ds ed;have rv:=t1.rp env1.same;rw[ed]at rv;obtain⟨l,vs,rfl,hl1,r1⟩:=rv.lst_inv;refine⟨l,rfl,⟨vs,SqL.of hl1⟩,q _ _ _ H1 h1 S1 ⟨fun i H' Z' hi S2 lt=>?_,fun H' Z' S2 lt=>⟨vs,SqL.of (S2 _ _ hl1),by rw[r1.len];exact ZF _⟩⟩⟩;have hd:ds[i]?=some (ds.getD i .non):=by rw[Z7,Z5 hi];rfl
  have hi':∃u,vs[i]?=some u/\TV K Z' H0 H' H' (s.sub (ds.getD i .non)) u:=by
   cases s with
   |bor d=>
    have t1:=Rp.strip t1;rw[show d.strip=.lst ds from ed]at t1
    obtain⟨l',vs',e',h3,r3⟩:=Rp.lst_inv t1;cases e'
    rw[env1.same _ _ h3]at hl1;cases hl1
    obtain⟨u,h4,h5⟩:=r3.get hd;exact⟨u,h4,argR lt.2.1 lt.1 h5⟩
   |sh d=>
    have:d=.lst ds:=ed
    subst this;obtain⟨l',vs',e',h3,r3⟩:=Rp.lst_inv t1;cases e'
    rw[off_sub _ _ h3]at hl1;cases hl1
    obtain⟨u,h4,h5⟩:=r3.get hd;exact⟨u,h4,Rp.mono lt.off h5⟩
   |own es=>
    cases es with
    |dK es=>cases ed
    |dT es=>cases ed
    |ins x C xs cs=>cases ed
    |nst cs=>cases ed
    |nsl x cs=>
     obtain⟨u,h4,h5⟩:=r1.get hd;exact⟨u,h4,Jb lt.2.1 (Rp.mono S2 h5)⟩
    |lsA x es=>
     cases ed
     obtain⟨l',e',h0,_,vs',h3,r3⟩:=t1;cases e'
     rw[h3]at hl1;cases hl1
     obtain⟨u,h4,h5⟩:=r3.get hd;exact⟨u,h4,Rp.mono lt.off (Rp.mono (QV (Same.refl _) fun b _ _ z y=>z (.inl y)) h5)⟩
    |lst es=>
    cases ed
    obtain⟨l',e',h0,vs',h3,r3⟩:=t1;cases e'
    rw[h3]at hl1;cases hl1
    obtain⟨u,h4,h5⟩:=r3.get hd;exact⟨u,h4,Rp.mono lt.off (Rp.mono (QV (Same.refl _) fun b _ _ z y=>z (.inl y)) h5)⟩
   |view es=>
    cases es with
    |dK es=>cases ed
    |dT es=>cases ed
    |ins x C xs cs=>cases ed
    |nst cs=>cases ed
    |nsl x cs=>
     obtain⟨u,h4,h5⟩:=r1.get hd;exact⟨u,h4,Jb lt.2.1 (Rp.mono S2 h5)⟩
    |lsA x es=>
     cases ed
     obtain⟨l',e',_,vs',h3,r3⟩:=t1;cases e'
     rw[h3]at hl1;cases hl1
     obtain⟨u,h4,h5⟩:=r3.get hd;exact⟨u,h4,Rp.mono lt.off h5⟩
    |lst es=>
    cases ed
    obtain⟨l',e',vs',h3,r3⟩:=t1;cases e'
    rw[h3]at hl1;cases hl1
    obtain⟨u,h4,h5⟩:=r3.get hd;exact⟨u,h4,Rp.mono lt.off h5⟩
   |tmp d=>
    have:d=.lst ds:=ed
    subst this;obtain⟨l',vs',e',h3,r3⟩:=Rp.lst_inv t1;cases e'
    rw[h3]at hl1;cases hl1
    obtain⟨u,h4,h5⟩:=r3.get hd;exact⟨u,h4,Jb lt.2.1 (Rp.mono S2 h5)⟩
  obtain⟨u,hu,tu⟩:=hi';refine⟨⟨vs,u,SqL.of (S2 _ _ hl1),hu⟩,fun x H'' y=>?_⟩;obtain⟨rfl,y⟩:=y
  have:=y vs (SqL.of (S2 _ _ hl1))
  rw[hu]at this;cases this
  exact⟨Same.refl _,tu⟩
 ·exact h1.elim
 ·rename_i ns ed;have rv:=t1.rp env1.same;rw[ed]at rv;cases rv with
  |scr hs=>
   refine⟨_,rfl,⟨_,hs⟩,q _ _ _ H1 h1 S1 ⟨fun i H' Z' hi S2 lt=>?_,fun H' Z' S2 lt=>⟨_,S2.seq hs,by rw[Z6];exact ZF _⟩⟩⟩
   have hu:(ns.map V.int)[i]?=some (.int (ns.getD i 0)):=by
    rw[ZD,Z5 hi,Z7,Z5 hi];rfl
   refine⟨⟨_,_,S2.seq hs,hu⟩,fun x H'' y=>?_⟩;obtain⟨rfl,y⟩:=y
   have:=y _ (S2.seq hs)
   rw[hu]at this;cases this
   exact⟨Same.refl _,.int _⟩
 ·exact h1.elim
def VB{φ:List (Option Nat)}{is:List Nat}{wi:TI}{g:TG}{tc:TT}{te:TE}{it:PTI}{pg:PTG}{c:PTT}{a:PTE}(hi:Xl K mg E wi it)(hg:Jz K is g pg)(hc:SndT K mg E tc c)(he:SndE K mg E te a)(h1:(φ.filterMap id).Nodup:=by decide)(h2:∀j∈is,φ[j]?=some none:=by decide):SndE K mg E (JX φ wi g tc te) (BO φ it pg c a):=by
 intro H0 B H σ γ R X Q env h q qx;refine hi H0 B H σ γ _ X _ env h (fun n item J H1 h1' S1 ok=>?_) qx;obtain⟨hn,f,hf,hR⟩:=h1'.w;have env1:=env.grow S1;have hbig:n<=sizeLine:=ZW hn (by decide);intro L nL;refine⟨fun i m ys H2=>m=n-i/\i<=n/\Same H1 H2/\H2 L=some (.lst ys)/\Rps K (off (fun b=>zof B γ σ b\/b=L) H2) ((List.range i).filterMap f) ys,⟨n,by simp,Y0 _,QX nL,QR,.nil⟩,?_⟩;rintro i m ys H2 ⟨rfl,hin,S2,hL,hys⟩;have env2:=env1.grow S2;by_cases hlt:i<n
 ·have envI2:=NZ (φ:=φ) env1 S2 nL ⟨ys,hL⟩ h1;obtain⟨go,yl⟩:=ok.go i H2 _ hlt S2 ⟨env2.same,envI2.zm,fun b o hb z=>⟨S2 _ _ hb,Ko env1 nL b o hb z⟩⟩;refine .inr ⟨go,fun x H3 y=>?_⟩;obtain⟨S3,tv⟩:=yl x H3 y;refine hg H0 _ H2 H3 _ _ _ _ _ _ envI2 S3 tv (hf i hlt) fun σ2 γ2 p2 e2 f2 k2=>⟨?_,?_⟩
  ·refine Sub.of (is:=is) k2.2 k2.1 fun j hj v z=>?_;obtain⟨k,k1,_⟩:=X3 z;rw[h2 j hj]at k1;cases k1
  ·refine hc H0 _ H3 σ2 γ2 _ _ _ e2 p2 (fun b H5 q5 S5=>?_) fun _ _ z=>z.elim;have e5:=e2.grow S5;cases b with
   |false=>
    rw[ZG ZJ]at q5 ⊢;refine⟨n-(i+1),by omega,rfl,hlt,(S2.trans S3).trans S5,(S3.trans S5) _ _ hL,?_⟩;rw[YH,YF];simp only[YA,q5,List.filterMap_nil,Wl];exact Rps.mono (QV (S3.trans S5) fun _ _ _ z=>z) hys
   |true=>
    rw[ZH rfl]at q5 ⊢;refine he H0 _ H5 σ2 γ2 _ _ _ e5 q5 (fun s v H6 q6 S6 t6=>?_) fun _ _ z=>z.elim;obtain⟨d,hd,hfd⟩:=q6;have S26:=(S3.trans S5).trans S6;have hr:=t6.shd (e5.grow S6).same e5.zm S6 hd
    have hlen:ys.length<=i:=by
     rw[hys.len];exact ZW (WH _ _) (by rw[YX];exact ZF _)
    refine⟨S26 _ _ hL,by omega,n-(i+1),by omega,rfl,hlt,fun b o hb=>?_,QR,?_⟩
    ·rw[QS (V2 hb nL)];exact S26 _ _ (S2 _ _ hb)
    ·rw[YH,YF];have ef:[i].filterMap f=[d]:=by simp[hfd]
     rw[ef]
     have So:Same (off (fun b=>zof B γ σ b\/b=L) H6) (off (fun b=>zof B γ σ b\/b=L) (upd H6 L (.lst (ys++[v])))):=fun b o h=>by
      obtain⟨a1,a2⟩:=Jj h;refine Vt ?_ a2;rw[QS fun z=>a2 (.inr z)];exact a1
     refine Rps.append (Rps.mono So (Rps.mono (QV S26 fun _ _ _ z=>z) hys)) (.cons (Rp.mono So (Rp.mono (QV (Same.refl _) fun b _ _ z y=>z (.inl y)) hr)) .nil)
 ·have:i=n:=by omega
  subst this;exact .inl ⟨ok.stop H2 _ S2 (Later.of env2 (Fr.grow S2)),q _ _ H2 hR (S1.trans S2) ⟨L,rfl,(fun _ e=>e▸S1.free nL),ys,hL,hys⟩⟩
def pYes:PTT:=fun _ R _=>R true
def Ju:SndT K mg E Su pYes:=fun _ _ H _ _ _ _ _ _ p q _=>q _ H p (Same.refl _)
def AC{α β:Type}(xs:List α)(f:α->Option β):(List.range xs.length).filterMap (fun i=>(xs[i]?).bind f)=xs.filterMap f:=by
 induction xs with
 |nil=>rfl
 |cons x r ih=>
  rw[Yt,List.range_succ_eq_map,YA,List.filterMap_map,YA]
  have e:(fun i=>((x::r)[i]?).bind f)∘Nat.succ=fun i=>(r[i]?).bind f:=by
   funext i;simp
  rw[e,ih];rfl
end
open M
section
variable {K:Za}{mg:Str->Option Value}{E:L2.St->XK}{H0 H H1 H':Hp}{B Z Z':Addr->Prop}{σ:L2.St}{γ:Γ}
def pCB(f:List S->(S->Prop)->Prop)(r:PTA):PTE:=fun γ R X=>r γ (fun ss=>f ss R) X
def Js{rr:List V->Hp->VK->Prop}{f:List S->(S->Prop)->Prop}{ta:TA}{r:PTA}(hr:SndA K mg E ta r)(h:∀(H0 H H1:Hp) (Z:Addr->Prop) (ss:List S) (vs:List V) (R:S->Prop) (Q:VK),Same H0 H1->Same H H1->(∀b,Z b->Mut (H b))->TVs K Z H0 H H1 ss vs->f ss R->(∀s z H',R s->Same H1 H'->TV K Z H0 H H' s z->Q z H')->rr vs H1 Q) :
  SndE K mg E (tCB rr ta) (pCB f r):=by
 intro H0 B H σ γ R X Q env p q qx;refine hr H0 B H σ γ _ X _ env p (fun ss vs H1 h1 S1 t1=>?_) qx;exact h H0 H H1 _ ss vs R Q (env.grow S1).same S1 env.zm t1 h1 fun s z H' hs S2 tv=>q s z H' hs (S1.trans S2) tv
def S.free:S->List D->Bool
 | .bor _,ds=>imms ds | .tmp _,ds=>imms ds | .view (.nst _),ds=>imms ds | .view (.nsl _ _),ds=>imms ds|_,_=>true
def TVs.one_inv {s:S}{vs:List V} (h:TVs K Z H0 H H' [s] vs):∃v,vs=[v]/\TV K Z H0 H H' s v:=by
 cases h with
 |cons h r=>cases r;exact⟨_,rfl,h⟩
def TVs.two_inv {s t:S}{vs:List V} (h:TVs K Z H0 H H' [s,t] vs):∃v u,vs=[v,u]/\TV K Z H0 H H' s v/\TV K Z H0 H H' t u:=by
 cases h with
 |cons h r=>cases r with|cons h2 r=>cases r;exact⟨_,_,rfl,h,h2⟩
def TV.items {s:S}{v:V}{ds:List D} (h0:Same H0 H') (hm:∀b,Z b->Mut (H b)) (S1:Same H H') (h:TV K Z H0 H H' s v) (hf:s.free ds=true) :
  (s.d=.lst ds->∃a vs,v=.ref a/\H' a=some (.lst vs)/\Rps K (off Z H') ds vs)/\(s.d=.tup ds->∃a vs,v=.ref a/\H' a=some (.tup vs)/\Rps K (off Z H') ds vs):=by
 have hm':∀b,Z b->Mut (H' b):=fun b z=>Jg S1 (hm b z);cases s with
 |bor d=>
  have h:=Rp.strip h;refine⟨fun e=>?_,fun e=>?_⟩<;>rw[show d.strip=_ from e]at h
  ·obtain⟨a,vs,rfl,h1,r⟩:=Rp.lst_inv h;exact⟨a,vs,rfl,h0 _ _ h1,Rps.off hm' (Rps.mono h0 r) hf⟩
  ·obtain⟨a,vs,rfl,h1,r⟩:=Rp.tup_inv h;exact⟨a,vs,rfl,h0 _ _ h1,Rps.off hm' (Rps.mono h0 r) hf⟩
 |sh d=>
  refine⟨fun e=>?_,fun e=>?_⟩<;>(have e':d=_:=e;subst e')
  ·obtain⟨a,vs,rfl,h1,r⟩:=Rp.lst_inv h;exact⟨a,vs,rfl,off_sub _ _ h1,r⟩
  ·obtain⟨a,vs,rfl,h1,r⟩:=Rp.tup_inv h;exact⟨a,vs,rfl,off_sub _ _ h1,r⟩
 |own es=>
  cases es with
  |dK es=>exact⟨(fun e=>by cases e),(fun e=>by cases e)⟩
  |dT es=>exact⟨(fun e=>by cases e),(fun e=>by cases e)⟩
  |ins x C xs cs=>exact⟨(fun e=>by cases e),(fun e=>by cases e)⟩
  |nsl x cs=>
   refine⟨fun e=>?_,fun e=>by cases e⟩;have h2:=h.shd h0 hm S1 (d:=.lst (cs.map fun c=>.lst c.2)) rfl;cases e
   obtain⟨a,vs,rfl,h1,r⟩:=Rp.lst_inv h2;exact⟨a,vs,rfl,off_sub _ _ h1,r⟩
  |nst cs=>
   refine⟨(fun e=>by cases e),fun e=>?_⟩;have h2:=h.shd h0 hm S1 (d:=.tup (cs.map fun c=>.lst c.2)) rfl;cases e
   obtain⟨a,vs,rfl,h1,r⟩:=Rp.tup_inv h2;exact⟨a,vs,rfl,off_sub _ _ h1,r⟩
  |lst es=>
   refine⟨fun e=>?_,fun e=>by cases e⟩;cases e
   obtain⟨a,rfl,e0,vs,e,r⟩:=h;exact⟨a,vs,rfl,e,Rps.mono (QV (Same.refl _) fun b _ _ z y=>z (.inl y)) r⟩
  |lsA x es=>
   refine⟨fun e=>?_,fun e=>by cases e⟩;cases e
   obtain⟨a,rfl,e0,_,vs,e,r⟩:=h;exact⟨a,vs,rfl,e,Rps.mono (QV (Same.refl _) fun b _ _ z y=>z (.inl y)) r⟩
 |view es=>
  cases es with
  |dK es=>exact⟨(fun e=>by cases e),(fun e=>by cases e)⟩
  |dT es=>exact⟨(fun e=>by cases e),(fun e=>by cases e)⟩
  |ins x C xs cs=>exact⟨(fun e=>by cases e),(fun e=>by cases e)⟩
  |nsl x cs=>
   refine⟨fun e=>?_,fun e=>by cases e⟩;have h2:=h.rp h0;rw[e]at h2;obtain⟨a,vs,rfl,h1,r⟩:=Rp.lst_inv h2;exact⟨a,vs,rfl,h1,Rps.off hm' r hf⟩
  |nst cs=>
   refine⟨(fun e=>by cases e),fun e=>?_⟩;have h2:=h.rp h0;rw[e]at h2;obtain⟨a,vs,rfl,h1,r⟩:=Rp.tup_inv h2;exact⟨a,vs,rfl,h1,Rps.off hm' r hf⟩
  |lst es=>
   refine⟨fun e=>?_,fun e=>by cases e⟩;cases e
   obtain⟨a,rfl,vs,e,r⟩:=h;exact⟨a,vs,rfl,e,r⟩
  |lsA x es=>
   refine⟨fun e=>?_,fun e=>by cases e⟩;cases e
   obtain⟨a,rfl,_,vs,e,r⟩:=h;exact⟨a,vs,rfl,e,r⟩
 |tmp d=>
  refine⟨fun e=>?_,fun e=>?_⟩<;>(have e':d=_:=e;subst e')
  ·obtain⟨a,vs,rfl,h1,r⟩:=Rp.lst_inv h;exact⟨a,vs,rfl,h1,Rps.off hm' r hf⟩
  ·obtain⟨a,vs,rfl,h1,r⟩:=Rp.tup_inv h;exact⟨a,vs,rfl,h1,Rps.off hm' r hf⟩
def fLen:List S->(S->Prop)->Prop
 |[s],R=>(match s.d with
  | .lst ds=>R (.sh (.int ds.length)) | .tup ds=>R (.sh (.int ds.length)) | .scr ns=>R (.sh (.int ns.length)) | .str x=>x.length<=sizeLine/\R (.sh (.int x.length))|_=>False)
 |_,_=>False
def Jn{ta:TA}{r:PTA}(hr:SndA K mg E ta r):SndE K mg E (tCB (fun xs H Q=>∃x n,xs=[x]/\LenV K x H n/\Q (.int n) H) ta) (pCB fLen r):=by
 refine Js hr fun H0 H H1 Z ss vs R Q s0 s1 hm tv h q=>?_;unfold fLen at h;split at h
 ·rename_i s;obtain⟨v,rfl,t1⟩:=tv.one_inv;have rv:=t1.rp s0;split at h
  ·rename_i ds e;rw[e]at rv;obtain⟨a,us,rfl,h1,r1⟩:=rv.lst_inv;exact⟨_,_,rfl,.inl ⟨us,SqL.of h1,rfl⟩,by rw[r1.len];exact q _ _ H1 h (Same.refl _) (.int _)⟩
  ·rename_i ds e;rw[e]at rv;obtain⟨a,us,rfl,h1,r1⟩:=rv.tup_inv;exact⟨_,_,rfl,.inr ⟨us,SqT.of h1,rfl⟩,by rw[r1.len];exact q _ _ H1 h (Same.refl _) (.int _)⟩
  ·rename_i ns e;rw[e]at rv;cases rv with
   |scr hs=>exact⟨_,_,rfl,.inl ⟨_,hs,rfl⟩,by rw[Z6];exact q _ _ H1 h (Same.refl _) (.int _)⟩
  ·rename_i x e;rw[e]at rv;rw[rv.str_inv];exact⟨_,_,rfl,⟨h.1,rfl⟩,q _ _ H1 h.2 (Same.refl _) (.int _)⟩
  ·exact h.elim
 ·exact h.elim
def Sv:List S->(S->Prop)->Prop
 |[s],R=>(match s.d with
  | .lst ds=>s.free ds=true/\R (.own ds) | .tup ds=>s.free ds=true/\R (.own ds)|_=>False)
 |_,_=>False
def Pb{ta:TA}{r:PTA}(hr:SndA K mg E ta r):SndE K mg E (tCB (fun xs H Q=>∃p ys,xs=[.ref p]/\(SqL K H p ys\/SqT K H p ys)/\∀l,H l=none->Q (.ref l) (upd H l (.lst ys))) ta) (pCB Sv r):=by
 refine Js hr fun H0 H H1 Z ss vs R Q s0 s1 hm tv h q=>?_;unfold Sv at h;split at h
 ·rename_i s;obtain⟨v,rfl,t1⟩:=tv.one_inv;split at h
  ·rename_i ds e;obtain⟨a,us,rfl,h1,r1⟩:=(t1.items s0 hm s1 h.1).1 e;exact⟨a,us,rfl,.inl (SqL.of h1),fun l nl=>q _ _ _ h.2 (QX nl) (JB s1 nl r1)⟩
  ·rename_i ds e;obtain⟨a,us,rfl,h1,r1⟩:=(t1.items s0 hm s1 h.1).2 e;exact⟨a,us,rfl,.inr (SqT.of h1),fun l nl=>q _ _ _ h.2 (QX nl) (JB s1 nl r1)⟩
  ·exact h.elim
 ·exact h.elim
def Sq:List S->(S->Prop)->Prop
 |[s],R=>(match s.d with
  | .lst ds=>s.free ds=true/\R (.sh (.tup ds)) | .tup ds=>s.free ds=true/\R (.sh (.tup ds))|_=>False)
 |_,_=>False
def Au{ta:TA}{r:PTA}(hr:SndA K mg E ta r):SndE K mg E (tCB (fun xs H Q=>∃p ys,xs=[.ref p]/\((SqL K H p ys/\∀l,H l=none->Q (.ref l) (upd H l (.tup ys)))\/(SqT K H p ys/\Q (.ref p) H))) ta) (pCB Sq r):=by
 refine Js hr fun H0 H H1 Z ss vs R Q s0 s1 hm tv h q=>?_;have hm':∀b,Z b->Mut (H1 b):=fun b z=>Jg s1 (hm b z);unfold Sq at h;split at h
 ·rename_i s;obtain⟨v,rfl,t1⟩:=tv.one_inv;split at h
  ·rename_i ds e;obtain⟨a,us,rfl,h1,r1⟩:=(t1.items s0 hm s1 h.1).1 e;refine⟨a,us,rfl,.inl ⟨SqL.of h1,fun l nl=>q _ _ _ h.2 (QX nl) (.tup (Vt QR fun z=>?_) (Rps.mono (QV (QX nl) fun _ _ _ z=>z) r1))⟩⟩
   have:=hm' l z
   rw[nl]at this;exact this
  ·rename_i ds e;obtain⟨a,us,rfl,h1,r1⟩:=(t1.items s0 hm s1 h.1).2 e;refine⟨a,us,rfl,.inr ⟨SqT.of h1,q _ _ _ h.2 (Same.refl _) (.tup (Vt h1 fun z=>?_) r1)⟩⟩
   have:=hm' a z
   rw[h1]at this;exact this
  ·exact h.elim
 ·exact h.elim
def Rps.ints {K:Za}{H:Hp}:∀{js:List Int}{vs:List V},Rps K H (js.map D.int) vs->vs=js.map V.int
 |[],_,.nil=>rfl
 |j::r,_,.cons h t=>by rw[Rp.int_inv h,Rps.ints t];rfl
def Rps.of_ints {K:Za}{H:Hp}:∀(js:List Int),Rps K H (js.map D.int) (js.map V.int)
 |[]=>.nil
 |j::r=>.cons (.int j) (Rps.of_ints r)
def NL:List S->(S->Prop)->Prop
 |[s],R=>∃js:List Int,s.d=.lst (js.map D.int)/\js.length<64/\∀ns:List Int,ns.Perm js->ns.Pairwise (·<=·)->R (.own (ns.map D.int))
 |_,_=>False
def NY{w:World}{ta:TA}{r:PTA}(hr:SndA K mg E ta r):SndE K mg E (tCB (fun xs H Q=>∃(p:Addr) (js:List Int),xs=[.ref p]/\js.length<64/\(SqL K H p (js.map V.int)\/H p=some (SetH w p js))/\
  ∀(l:Addr) (ns:List Int),H l=none->ns.Perm js->ns.Pairwise (·<=·)->Q (.ref l) (upd H l (.lst (ns.map V.int)))) ta) (pCB NL r):=by
 refine Js hr fun H0 H H1 Z ss vs R Q s0 s1 hm tv h q=>?_;unfold NL at h;split at h
 ·rename_i s;obtain⟨v,rfl,t1⟩:=tv.one_inv;obtain⟨js,e,hz,k⟩:=h;have rv:=t1.rp s0;rw[e]at rv;obtain⟨a,us,rfl,h1,r1⟩:=rv.lst_inv;rw[r1.ints]at h1;exact⟨a,js,rfl,hz,.inl (SqL.of h1),fun l ns nl hp hs=>q _ _ _ (k ns hp hs) (QX nl) (JB s1 nl (Rps.of_ints ns))⟩
 ·exact h.elim
def ET:List S->(S->Prop)->Prop
 |[s,t],R=>(match s.d,t.d with | .int i,.int j=>R (.sh (.int (if j>i then j else i)))|_,_=>False)
 |_,_=>False
def fAbs:List S->(S->Prop)->Prop
 |[s],R=>(match s.d with | .int i=>R (.sh (.int (if i<0 then -i else i)))|_=>False)
 |_,_=>False
def tyD:D->Option String
 | .int _=>some "int" | .bl _=>some "bool" | .non=>some "NoneType" | .str _=>some "str" | .tup _=>some "tuple" | .lst _=>some "list" | .dK _=>some "dict" | .dT _=>some "dict" |_=>none
inductive IsiR:String->String->Bool->Prop
 |same (n:String):IsiR n n true
 |ib:IsiR "int" "bool" false
 |bi:IsiR "bool" "int" true
 |tl:IsiR "tuple" "list" false
 |lt:IsiR "list" "tuple" false
 |it:IsiR "int" "tuple" false
 |il:IsiR "int" "list" false
 |bt:IsiR "bool" "tuple" false
 |bL:IsiR "bool" "list" false
 |ti:IsiR "tuple" "int" false
 |li:IsiR "list" "int" false
 |si:IsiR "str" "int" false
 |is:IsiR "int" "str" false
 |ni:IsiR "NoneType" "int" false
 |nl:IsiR "NoneType" "list" false
 |nt:IsiR "NoneType" "tuple" false
def IsiR.kit {m n:String}{b:Bool} (h:IsiR m n b):PySem.W.kitOne K (.type m) (.type n)=some b:=by
 cases h with
 |same=>exact U9 K _
 |_=>rfl
def fIsi:List S->(S->Prop)->Prop
 |[s,t],R=>(match tyD s.d,t.d with|some m,.ty n=>∃b,IsiR m n b/\R (.sh (.bl b))|_,_=>False)
 |_,_=>False
def AK{d:D}{v:V}{m:String}(h:Rp K H d v)(e:tyD d=some m):TyOf K H v (.type m):=by
 cases h with
 |int i=>cases e;exact .int i
 |bl b=>cases e;exact .bl b
 |non=>cases e;exact .non
 |str x=>cases e;exact .str x
 |ty n=>cases e
 |tup h r=>cases e;exact .tup h
 |lst h r=>cases e;exact .lst h
 |scr h=>cases e
 |dK h=>cases e;exact .dK h
 |dT h=>cases e;exact .dT h
 |dF h=>cases e
 |loc h=>cases e
 |err h=>cases e
 |ref a=>cases e
 |ins h q r=>cases e
def Cv{ta:TA}{r:PTA}(hr:SndA K mg E ta r):SndE K mg E (tCB (fun xs H Q=>∃x n t b,xs=[x,.ty n]/\TyOf K H x t/\PySem.W.kitOne K t (.type n)=some b/\Q (.bl b) H) ta) (pCB fIsi r):=by
 refine Js hr fun H0 H H1 Z ss vs R Q s0 s1 hm tv h q=>?_;unfold fIsi at h;split at h
 ·obtain⟨v,u,rfl,t1,t2⟩:=tv.two_inv;have r1:=t1.rp s0;have r2:=t2.rp s0;split at h
  ·rename_i m n e1 e2;rw[e2]at r2;rw[r2.ty_inv];obtain⟨b,k,hR⟩:=h;exact⟨v,n,_,b,rfl,AK r1 e1,k.kit,q _ _ H1 hR (Same.refl _) (.bl _)⟩
  ·exact h.elim
 ·exact h.elim
def pBM(f:S->List S->(S->Prop)->Prop)(a:PTE)(r:PTA):PTE:=fun γ R X=>a γ (fun s=>(∃ds,s.d=.lst ds)/\r γ (fun ss=>f s ss R) X) X
def EN{rr:V->List V->Hp->VK->Prop}{f:S->List S->(S->Prop)->Prop}{te:TE}{ta:TA}{a:PTE}{r:PTA}(ha:SndE K mg E te a)(hr:SndA K mg E ta r)(h:∀(H0 H H1:Hp) (Z:Addr->Prop) (s:S) (v:V) (ss:List S) (vs:List V) (R:S->Prop) (Q:VK),Same H0 H1->Same H H1->(∀b,Z b->Mut (H b))->TV K Z H0 H H1 s v->TVs K Z H0 H H1 ss vs->f s ss R->(∀s z H',R s->Same H1 H'->TV K Z H0 H H' s z->Q z H')->rr v vs H1 Q) :
  SndE K mg E (tBM K "list" rr te ta) (pBM f a r):=by
 intro H0 B H σ γ R X Q env p q qx;refine ha H0 B H σ γ _ X _ env p (fun s v H1 h1 S1 t1=>?_) qx;have env1:=env.grow S1;obtain⟨⟨ds,ed⟩,h1⟩:=h1;have rv:=t1.rp env1.same;rw[ed]at rv;obtain⟨l,us,rfl,hl,_⟩:=rv.lst_inv;refine⟨.inl ⟨rfl,us,SqL.of hl⟩,hr H0 B H1 σ γ _ X _ env1 h1 (fun ss vs H2 h2 S2 t2=>?_) fun c H' hc S'=>qx c H' hc (S1.trans S')⟩;exact h H0 H H2 _ s _ ss vs R Q (env1.grow S2).same (S1.trans S2) env.zm (t1.grow S2) (TVs.weakG S1 t2) h2 fun s z H' hs S3 tv=>q s z H' hs ((S1.trans S2).trans S3) tv
def NS:S->List S->(S->Prop)->Prop:=fun s ss R=>match ss with
 |[t]=>(match t.d with | .int z=>∃xs:List Int,s.d=.lst (xs.map D.int)/\z∈xs/\R (.sh (.int (xs.idxOf z:Nat)))|_=>False)
 |_=>False
def Xt{te:TE}{ta:TA}{a:PTE}{r:PTA}(ha:SndE K mg E te a)(hr:SndA K mg E ta r):SndE K mg E (tBM K "list" (XU K) te ta) (pBM NS a r):=by
 refine EN ha hr fun H0 H H1 Z s v ss vs R Q s0 s1 hm t1 t2 h q=>?_;unfold NS at h;split at h
 ·obtain⟨u,rfl,t2'⟩:=t2.one_inv;have r2:=t2'.rp s0;split at h
  ·rename_i z e;rw[e]at r2;obtain⟨xs,ex,hz,hR⟩:=h;have r1:=t1.rp s0;rw[ex]at r1;obtain⟨l,us,rfl,hl,r1⟩:=r1.lst_inv;rw[r1.ints]at hl;exact⟨l,xs,z,rfl,by rw[r2.int_inv],SqL.of hl,hz,q _ _ H1 hR (Same.refl _) (.int _)⟩
  ·exact h.elim
 ·exact h.elim
def prD(p:Int×Int):D:=.tup [.int p.1,.int p.2]
inductive InR:D->D->Bool->Prop
 |li (i:Int) (hs:List Int):InR (.int i) (.lst (hs.map D.int)) (decide (i∈hs))
 |ti (i:Int) (hs:List Int):InR (.int i) (.tup (hs.map D.int)) (decide (i∈hs))
 |lp (q:Int×Int) (ps:List (Int×Int)):InR (prD q) (.lst (ps.map prD)) (decide (q∈ps))
def fIn(neg:Bool):S->S->(S->Prop)->Prop:=fun x y R=>∃b,InR x.d y.d b/\R (.sh (.bl (if neg then !b else b)))
def Rp.pair {q:Int×Int}{v:V} (h:Rp K H (prD q) v):PairR H v q:=by
 obtain⟨a,vs,rfl,h1,r⟩:=Rp.tup_inv h;obtain⟨x,y,rfl,r1,r2⟩:=r.two_inv;rw[r1.int_inv,r2.int_inv]at h1;exact⟨a,rfl,h1⟩
def Rp.of_pair {q:Int×Int}{v:V} (h:PairR H v q):Rp K H (prD q) v:=by
 obtain⟨a,rfl,h1⟩:=h;exact .tup h1 (.cons (.int _) (.cons (.int _) .nil))
def Rps.lv {K:Za}{H:Hp}{ps:List (Int×Int)}{vs:List V} (h:Rps K H (ps.map prD) vs):LV PairR H vs ps:=by
 refine⟨by rw[h.len,Z6],fun i p hp=>?_⟩;obtain⟨v,h1,h2⟩:=h.get (i:=i) (d:=prD p) (by rw[ZD,hp];rfl);exact⟨v,h1,h2.pair⟩
def Rps.of_lv {K:Za}{H:Hp}:∀{ps:List (Int×Int)}{vs:List V},LV PairR H vs ps->Rps K H (ps.map prD) vs
 |[],[],_=>.nil
 |[],_::_,h=>by have:=h.1;simp at this
 |_::_,[],h=>by have:=h.1;simp at this
 |p::ps,v::vs,h=>by
  have h':=(LV.cons_iff (R:=PairR) (H:=H) (v:=v) (vs:=vs) (x:=p) (xs:=ps)).mp h;exact .cons (Rp.of_pair h'.1) (Rps.of_lv h'.2)
def JO{neg:Bool}{ta tb:TE}{a b:PTE}(ha:SndE K mg E ta a)(hb:SndE K mg E tb b):SndE K mg E (tOp (fun x y H Q=>rIn K neg x y H Q\/rInP neg x y H Q) ta tb) (p2 a b (fIn neg)):=by
 refine se_2 ha hb fun H0 H H2 Z x y v u R Q s0 s1 hm tx ty h q=>?_;obtain⟨k,hk,hR⟩:=h;have rx:=tx.rp s0;have ry:=ty.rp s0;generalize ex:x.d=dx at hk rx;generalize ey:y.d=dy at hk ry;cases hk with
 |li i hs=>
  obtain⟨l,us,rfl,hl,r⟩:=ry.lst_inv;rw[r.ints]at hl;rw[rx.int_inv];refine .inl ⟨l,_,rfl,.inl (SqL.of hl),rfl,VT _,?_⟩;rw[JN];exact q _ _ H2 hR (Same.refl _) (.bl _)
 |ti i hs=>
  obtain⟨l,us,rfl,hl,r⟩:=ry.tup_inv;rw[r.ints]at hl;rw[rx.int_inv];refine .inl ⟨l,_,rfl,.inr (SqT.of hl),rfl,VT _,?_⟩;rw[JN];exact q _ _ H2 hR (Same.refl _) (.bl _)
 |lp p ps=>
  obtain⟨l,us,rfl,hl,r⟩:=ry.lst_inv;exact .inr ⟨l,ps,p,rfl,rx.pair,⟨us,hl,r.lv⟩,q _ _ H2 hR (Same.refl _) (.bl _)⟩
def fEqU(neg:Bool):S->S->(S->Prop)->Prop:=fun x y R=>match x.d,y.d with
 | .lst ds,.lst es=>∃xs ys:List Int,ds=xs.map D.int/\es=ys.map D.int/\R (.sh (.bl (if neg then !decide (xs=ys)else decide (xs=ys))))
 |_,_=>fEq neg x y R
def Xc{ta tb:TE}{a b:PTE}(ha:SndE K mg E ta a)(hb:SndE K mg E tb b):SndE K mg E (tOp (fun x y H Q=>rEq x y H Q\/rEqL K false x y H Q) ta tb) (p2 a b (fEqU false)):=by
 refine se_2 ha hb fun H0 H H2 Z x y v u R Q s0 s1 hm tx ty h q=>?_;have rx:=tx.rp s0;have ry:=ty.rp s0;unfold fEqU at h;split at h
 ·rename_i ds es e1 e2;obtain⟨xs,ys,rfl,rfl,hR⟩:=h;rw[e1]at rx;rw[e2]at ry;obtain⟨l,us,rfl,hl,r⟩:=rx.lst_inv;obtain⟨m,ws,rfl,hm,r'⟩:=ry.lst_inv;rw[r.ints]at hl;rw[r'.ints]at hm;refine .inr ⟨l,m,_,_,rfl,rfl,SqL.of hl,SqL.of hm,VT _,VT _,?_⟩;rw[Ks];exact q _ _ H2 hR (Same.refl _) (.bl _)
 ·refine .inl ?_;unfold fEq at h;split at h
  ·rename_i i j e1 e2;rw[e1]at rx;rw[e2]at ry;rw[rx.int_inv,ry.int_inv];refine⟨rfl,?_⟩;rw[JD (f:=V.int) fun _ _ z=>V.int.inj z];exact q _ _ H2 h (Same.refl _) (.bl _)
  ·rename_i i j e1 e2;rw[e1]at rx;rw[e2]at ry;rw[rx.str_inv,ry.str_inv];refine⟨rfl,?_⟩;rw[JD (f:=V.str) fun _ _ z=>V.str.inj z];exact q _ _ H2 h (Same.refl _) (.bl _)
  ·rename_i i j e1 e2;rw[e1]at rx;rw[e2]at ry;rw[rx.bl_inv,ry.bl_inv];refine⟨rfl,?_⟩;rw[JD (f:=V.bl) fun _ _ z=>V.bl.inj z];exact q _ _ H2 h (Same.refl _) (.bl _)
  ·exact h.elim
def U8{ta tb:TE}{a b:PTE}(ha:SndE K mg E ta a)(hb:SndE K mg E tb b):SndE K mg E (tOp (fun x y H Q=>rNe x y H Q\/rEqL K true x y H Q) ta tb) (p2 a b (fEqU true)):=by
 refine se_2 ha hb fun H0 H H2 Z x y v u R Q s0 s1 hm tx ty h q=>?_;have rx:=tx.rp s0;have ry:=ty.rp s0;unfold fEqU at h;split at h
 ·rename_i ds es e1 e2;obtain⟨xs,ys,rfl,rfl,hR⟩:=h;rw[e1]at rx;rw[e2]at ry;obtain⟨l,us,rfl,hl,r⟩:=rx.lst_inv;obtain⟨m,ws,rfl,hm,r'⟩:=ry.lst_inv;rw[r.ints]at hl;rw[r'.ints]at hm;refine .inr ⟨l,m,_,_,rfl,rfl,SqL.of hl,SqL.of hm,VT _,VT _,?_⟩;rw[Ks];exact q _ _ H2 hR (Same.refl _) (.bl _)
 ·refine .inl ?_;unfold fEq at h;split at h
  ·rename_i i j e1 e2;rw[e1]at rx;rw[e2]at ry;rw[rx.int_inv,ry.int_inv];refine⟨rfl,?_⟩;rw[JD (f:=V.int) fun _ _ z=>V.int.inj z];exact q _ _ H2 h (Same.refl _) (.bl _)
  ·rename_i i j e1 e2;rw[e1]at rx;rw[e2]at ry;rw[rx.str_inv,ry.str_inv];refine⟨rfl,?_⟩;rw[JD (f:=V.str) fun _ _ z=>V.str.inj z];exact q _ _ H2 h (Same.refl _) (.bl _)
  ·rename_i i j e1 e2;rw[e1]at rx;rw[e2]at ry;rw[rx.bl_inv,ry.bl_inv];refine⟨rfl,?_⟩;rw[JD (f:=V.bl) fun _ _ z=>V.bl.inj z];exact q _ _ H2 h (Same.refl _) (.bl _)
  ·exact h.elim
abbrev tTru(K:Za)(ta:TE):TT:=fun σ H Q=>ta σ H fun x H'=>∃k,TruV K x H' k/\Q k H'
def pTru(a:PTE):PTT:=fun γ R X=>a γ (fun x=>match x.d with
 | .bl b=>R b | .lst ds=>R (!ds.isEmpty) | .tup ds=>R (!ds.isEmpty) | .int i=>R (i != 0) | .non=>R false|_=>False) X
def Tv{α β:Type}{l:List α}{m:List β}(h:l.length=m.length):l.isEmpty=m.isEmpty:=by
 cases l<;>cases m<;>simp at h ⊢
def VF{te:TE}{a:PTE}(ha:SndE K mg E te a):SndT K mg E (tTru K te) (pTru a):=by
 intro H0 B H σ γ R X Q env p q qx;refine ha H0 B H σ γ _ X _ env p (fun x v H1 h1 S1 t1=>?_) qx;have rx:=t1.rp (env.grow S1).same;split at h1
 ·rename_i b e;rw[e]at rx;rw[rx.bl_inv];exact⟨b,rfl,q _ H1 h1 S1⟩
 ·rename_i ds e;rw[e]at rx;obtain⟨l,us,rfl,hl,r⟩:=rx.lst_inv;exact⟨!us.isEmpty,.inl ⟨us,SqL.of hl,rfl⟩,by rw[Tv r.len];exact q _ H1 h1 S1⟩
 ·rename_i ds e;rw[e]at rx;obtain⟨l,us,rfl,hl,r⟩:=rx.tup_inv;exact⟨!us.isEmpty,.inr (.inl ⟨us,SqT.of hl,rfl⟩),by rw[Tv r.len];exact q _ H1 h1 S1⟩
 ·rename_i i e;rw[e]at rx;rw[rx.int_inv];exact⟨_,rfl,q _ H1 h1 S1⟩
 ·rename_i e;rw[e]at rx;rw[rx.non_inv];exact⟨_,rfl,q _ H1 h1 S1⟩
 ·exact h1.elim
def cutD{α:Type}(xs:List α)(lo hi:Option Int):List α:=(xs.drop (HT.sIx xs.length 0 lo)).take (HT.sIx xs.length xs.length hi-HT.sIx xs.length 0 lo)
def Dq:PTO:=fun _ R _=>R none
def CJ(a:PTE):PTO:=fun γ R X=>a γ (fun s=>match s.d with | .int i=>R (some i)|_=>False) X
def B0:SndO K mg E SW Dq:=fun _ _ H _ _ _ _ _ _ p q _=>q _ H p (Same.refl _)
def Fp{te:TE}{a:PTE}(ha:SndE K mg E te a):SndO K mg E (Nb te) (CJ a):=by
 intro H0 B H σ γ R X Q env p q qx;refine ha H0 B H σ γ _ X _ env p (fun x v H1 h1 S1 t1=>?_) qx;have rx:=t1.rp (env.grow S1).same;split at h1
 ·rename_i i e;rw[e]at rx;exact⟨i,rx.int_inv,q _ H1 h1 S1⟩
 ·exact h1.elim
def pSl(a:PTE)(l u:PTO):PTE:=fun γ R X=>a γ (fun s=>l γ (fun lo=>u γ (fun hi=>match s.d with | .lst ds=>s.free ds=true/\R (.own (cutD ds lo hi))|_=>False) X) X) X
def Rps.cut {ds:List D}{vs:List V}{lo hi:Option Int} (r:Rps K H ds vs):Rps K H (cutD ds lo hi) (cutV vs lo hi):=by
 unfold cutD cutV;rw[r.len];exact Rps.take _ (Rps.drop _ r)
def DO{te:TE}{tl th:TO}{a:PTE}{l u:PTO}(ha:SndE K mg E te a)(hl:SndO K mg E tl l)(hu:SndO K mg E th u):SndE K mg E (tSl (rSlL K) te tl th) (pSl a l u):=by
 intro H0 B H σ γ R X Q env p q qx;refine ha H0 B H σ γ _ X _ env p (fun x v H1 h1 S1 t1=>?_) qx;refine hl H0 B H1 σ γ _ X _ (env.grow S1) h1 (fun lo H2 h2 S2=>?_) fun c H' hc S'=>qx c H' hc (S1.trans S');refine hu H0 B H2 σ γ _ X _ ((env.grow S1).grow S2) h2 (fun hi H3 h3 S3=>?_) fun c H' hc S'=>qx c H' hc ((S1.trans S2).trans S');have S13:=(S1.trans S2).trans S3;split at h3
 ·rename_i ds e;obtain⟨b,us,rfl,hb,r⟩:=((t1.grow (S2.trans S3)).items (env.grow S13).same env.zm S13 h3.1).1 e;exact⟨b,us,rfl,SqL.of hb,fun m nm=>q _ _ _ h3.2 (S13.trans (QX nm)) (JB S13 nm r.cut)⟩
 ·exact h3.elim
def fCat:S->S->(S->Prop)->Prop:=fun x y R=>match x.d,y.d with
 | .lst ds,.lst es=>x.free ds=true/\y.free es=true/\ds.length+es.length<=100000/\R (.own (ds++es))
 |_,_=>False
def XO{ta tb:TE}{a b:PTE}(ha:SndE K mg E ta a)(hb:SndE K mg E tb b):SndE K mg E (tOp rCat ta tb) (p2 a b fCat):=by
 refine se_2 ha hb fun H0 H H2 Z x y v u R Q s0 s1 hm tx ty h q=>?_;unfold fCat at h;split at h
 ·rename_i ds es e1 e2;obtain⟨l,us,rfl,hl,r⟩:=(tx.items s0 hm s1 h.1).1 e1;obtain⟨m,ws,rfl,hm',r'⟩:=(ty.items s0 hm s1 h.2.1).1 e2;have hz:us.length+ws.length<=sizeLine:=by rw[r.len,r'.len];exact ZW h.2.2.1 (by decide)
  exact⟨l,m,us,ws,rfl,rfl,hl,hm',hz,fun p np=>q _ _ _ h.2.2.2 (QX np) (JB s1 np (r.append r'))⟩
 ·exact h.elim
def Tc(i:Nat)(a:PTE):PTS:=fun R γ=>match γ[i]? with
 |some (some (.own (.lst ds)))=>a γ (fun s=>match s.shd with
  |some d=>ds.length<10000000/\R.nx (γ.set i (some (.own (ds++[d]))))
  |none=>False) (R.ex γ)
 |some (some (.own (.lsA x ds)))=>a γ (fun s=>match s.shd with
  |some d=>ds.length<10000000/\R.nx (γ.set i (some (.own (.lsA x (ds++[d])))))
  |none=>False) (R.ex γ)
 |_=>False
def Nr(i:Nat){te:TE}{a:PTE}(ha:SndE K mg E te a):SndS K mg E (K5 (tBM K "list" N4 (tVar i) (Vu te tNil))) (Tc i a):=by
 intro H0 B H σ γ R D hB env h e;unfold Tc at h;split at h
 ·rename_i ds hi;obtain⟨v,hv,b,rfl,hb0,us,hb,rb⟩:=env.slot i _ hi;refine⟨_,hv,.inl ⟨rfl,us,SqL.of hb⟩,ha H0 B H σ γ _ _ _ env h (fun s u H1 h1 S1 t1=>?_) fun c H' hc S'=>e.ex σ γ c H' hc (env.grow S') (Fr.grow S')⟩;have env1:=env.grow S1;split at h1
  ·rename_i d e2;have rd:=t1.shd env1.same env.zm S1 e2;refine⟨b,us,u,rfl,rfl,S1 _ _ hb,by rw[rb.len];exact WD h1.1 (by decide),?_⟩;obtain⟨e2,f2⟩:=env1.mutate (es:=.lst (ds++[d])) (us:=.lst (us++[u])) hi hv trivial fun F H' SF hF=>⟨_,hF,Rps.mono SF (Rps.append (Rps.mono (QV S1 fun _ _ _ z=>z) rb) (.cons rd .nil))⟩;exact e.nx _ _ _ h1.2 e2 ((Fr.grow S1).trans f2)
  ·exact h1.elim
 ·rename_i x ds hi;obtain⟨v,hv,b,rfl,hb0,rfl,us,hb,rb⟩:=env.slot i _ hi;refine⟨_,hv,.inl ⟨rfl,us,SqL.of hb⟩,ha H0 B H σ γ _ _ _ env h (fun s u H1 h1 S1 t1=>?_) fun c H' hc S'=>e.ex σ γ c H' hc (env.grow S') (Fr.grow S')⟩;have env1:=env.grow S1;split at h1
  ·rename_i d e2;have rd:=t1.shd env1.same env.zm S1 e2;refine⟨b,us,u,rfl,rfl,S1 _ _ hb,by rw[rb.len];exact WD h1.1 (by decide),?_⟩;obtain⟨e2,f2⟩:=env1.mutate (es:=.lsA b (ds++[d])) (us:=.lst (us++[u])) hi hv trivial fun F H' SF hF=>⟨rfl,_,hF,Rps.mono SF (Rps.append (Rps.mono (QV S1 fun _ _ _ z=>z) rb) (.cons rd .nil))⟩;exact e.nx _ _ _ h1.2 e2 ((Fr.grow S1).trans f2)
  ·exact h1.elim
 ·exact h.elim
end
section
variable {X:Cx}{K:Za}
def U2(hu:X.A.in1.units<cLine)(hK:X.K=K:=by rfl):OpR X (compareOp .In) (fun x y H Q=>rIn K false x y H Q\/rInP false x y H Q):=(Ua hK).or (CL hu)
def AW(hu:X.A.in1.units<cLine)(hK:X.K=K:=by rfl):OpR X (compareOp .NotIn) (fun x y H Q=>rIn K true x y H Q\/rInP true x y H Q):=(BG hK).or (PH hu)
def TM(hu:X.A.units<cLine)(hK:X.K=K:=by rfl):OpR X (compareOp .Eq) (fun x y H Q=>rEq x y H Q\/rEqL K false x y H Q):=by subst hK;exact op_eq.or (N9 hu)
def CI(hu:X.A.units<cLine)(hK:X.K=K:=by rfl):OpR X (compareOp .NotEq) (fun x y H Q=>rNe x y H Q\/rEqL K true x y H Q):=by subst hK;exact op_ne.or (Dp hu)
def VI{e:Expr}{te:TE}(ha:PE X e te)(hK:X.K=K:=by rfl)(he:∀whole,isTrue e X.env whole=(do let v ←whole;standAt e.pos;holding [v] (truthy v)):=by intro _;rfl):PT X e (tTru K te):=by
 subst hK;exact CD ha he
def TL(hK:X.K=K:=by rfl):Vs X (.type "list") (fun xs H Q=>∃p ys,xs=[.ref p]/\(SqL K H p ys\/SqT K H p ys)/\∀l,H l=none->Q (.ref l) (upd H l (.lst ys))):=by subst hK;exact NG
def FB(hK:X.K=K:=by rfl):Vs X (.type "tuple") (fun xs H Q=>∃p ys,xs=[.ref p]/\((SqL K H p ys/\∀l,H l=none->Q (.ref l) (upd H l (.tup ys)))\/(SqT K H p ys/\Q (.ref p) H))):=by subst hK;exact Cz
def DV(hK:X.K=K:=by rfl):Vs X (.builtin "isinstance") (fun xs H Q=>∃x n t b,xs=[x,.ty n]/\TyOf K H x t/\PySem.W.kitOne K t (.type n)=some b/\Q (.bl b) H):=by subst hK;exact Ux
def DL(hK:X.K=K:=by rfl):SlR X (rSlL K):=by subst hK;exact Fl
def Pm(hc:X.calm=true){w:World}(hK:X.K=K:=by rfl)(hw:X.w=w:=by rfl):Vs X (.builtin "sorted") (fun xs H Q=>∃(p:Addr) (js:List Int),xs=[.ref p]/\js.length<64/\(SqL K H p (js.map V.int)\/H p=some (SetH w p js))/\
  ∀(l:Addr) (ns:List Int),H l=none->ns.Perm js->ns.Pairwise (·<=·)->Q (.ref l) (upd H l (.lst (ns.map V.int)))):=by subst hK;subst hw;exact NK hc
def Vj{tg l:Expr}{tl:TE}(hl:PE X l tl)(hK:X.K=K:=by rfl):PI X tg l (U6 K tl):=by subst hK;exact Jw hl
end
section
variable {P:Program}{w:World}{K:Za}{mg:Str->Option Value}{base:Heap}{H H':Hp}
def VR{CX:CXT}{k:Nat}{x:Str}{ps:List Str}{sp:Sp}{c:Pc}(C:Callee P w K mg base CX k x ps sp)(h:∀ds R X vs H (Q:VK) (E:XK),Rps K H ds vs->c ds R X->(∀s v H',R s->Same H H'->TV K (fun b=>Mut (H b)) H H H' s v->Q v H')->(∀e H',X e->Same H H'->E (.ref (ExcR.VM mg e)) none H')->sp vs H Q E) :
  Callee P w K mg base CX k x ps (spOf mg c K):=by
 obtain⟨f,fd,F,rest⟩:=C.ex;exact⟨f,fd,F.imp fun vs H Q E ⟨ds,R,X,r,hc,hQ,hX⟩=>h ds R X vs H Q E r hc hQ hX,rest⟩
def Rp.scr_inv {ns:List Int}{v:V} (h:Rp K H (.scr ns) v):∃a,v=.ref a/\SqL K H a (ns.map V.int):=by
 cases h with
 |scr h=>exact⟨_,rfl,h⟩
def Rp.ints_inv {ns:List Int}{v:V} (h:Rp K H (.lst (ns.map D.int)) v):∃a,v=.ref a/\H a=some (.lst (ns.map V.int)):=by
 obtain⟨a,vs,rfl,h1,r⟩:=h.lst_inv;rw[r.ints]at h1;exact⟨a,rfl,h1⟩
def Rp.pairs_inv {ps:List (Int×Int)}{v:V} (h:Rp K H (.lst (ps.map prD)) v):∃a,v=.ref a/\LAt PairR H a ps:=by
 obtain⟨a,vs,rfl,h1,r⟩:=h.lst_inv;exact⟨a,rfl,vs,h1,r.lv⟩
def Ke{a:Addr}{ns:List Int}(n:H a=none)(h:H' a=some (.lst (ns.map V.int))):TV K (fun b=>Mut (H b)) H H H' (.own (ns.map D.int)) (.ref a):=⟨a,rfl,(fun _ e=>e▸n),_,h,Rps.of_ints ns⟩
def Ag{vs:List V}{ps:List (Int×Int)}{Z:Addr->Prop}(hz:∀b xs,H' b=some (.tup xs)->¬Z b)(h:LV PairR H' vs ps):Rps K (off Z H') (ps.map prD) vs:=by
 refine Rps.of_lv ⟨h.1,fun i p hp=>?_⟩;obtain⟨v,h1,a,e,h2⟩:=h.2 i p hp;exact⟨v,h1,a,e,Vt h2 (hz a _ h2)⟩
def Pz{a:Addr}{ps:List (Int×Int)}(n:H a=none)(S1:Same H H')(h:LAt PairR H' a ps):TV K (fun b=>Mut (H b)) H H H' (.own (ps.map prD)) (.ref a):=by
 obtain⟨vs,h1,h2⟩:=h;refine⟨a,rfl,(fun _ e=>e▸n),vs,h1,Ag (fun b xs hb z=>?_) h2⟩;rcases z with z|z
 ·have:=Jg S1 z
  rw[hb]at this;exact this
 ·rw[z,h1]at hb;cases hb
def Kg:∀(ns:List Int),imms (ns.map D.int)=true
 |[]=>by unfold List.map imms;rfl
 |n::r=>by rw[ZO];unfold imms;rw[Kg r];unfold imm;rfl
def Pa{α:Type}{f:α->D}{xs:List α}{i:Nat}(h:i<xs.length):(xs.map f).getD i .non=f xs[i]:=by
 rw[Z7,ZD,Z5 h];rfl
def J8{α:Type}{f:α->D}{xs:List α}{i:Nat}(h:i<xs.length):atI (xs.map f) (i:Int)=some (f xs[i]):=UC (UZ (Z5 h))
def VH{α:Type}{φ:List (Option Nat)}{γ:Γ}{g:PTG}{c:PTT}{e:PTE}{s:S}{R:S->Prop}{xs:List α}{emb:α->D}(f:α->Option D)(hz:xs.length<=100000)(turn:∀x∈xs,g (s.sub (emb x)) (atP φ γ) fun γ2=>c γ2 (fun b=>if b=true then e γ2 (fun s=>∃d,s.shd=some d/\f x=some d) (fun _=>False)else f x=none) fun _=>False)(done:R (.own (xs.filterMap f))) :
  CompW φ γ g c e (xs.map emb).length (fun i=>s.sub ((xs.map emb).getD i .non)) R:=by
 rw[Z6];refine⟨⟨hz,fun i=>(xs[i]?).bind f,fun i hi=>?_,by rw[AC];exact done⟩⟩;have e1:(xs[i]?).bind f=f xs[i]:=by rw[Z5 hi];rfl
 have t:=turn xs[i] (ZV hi);rw[←e1]at t;rw[←Pa (f:=emb) hi]at t;exact t
def EA{φ:List (Option Nat)}{γ:Γ}{g:PTG}{c:PTT}{e:PTE}{item:Nat->S}{R:S->Prop}{n:Nat}(f:Nat->Option D)(hz:n<=100000)(turn:∀i,i<n->g (item i) (atP φ γ) fun γ2=>c γ2 (fun b=>if b=true then e γ2 (fun s=>∃d,s.shd=some d/\f i=some d) (fun _=>False)else f i=none) fun _=>False)(done:R (.own ((List.range n).filterMap f))) :
  CompW φ γ g c e n item R:=⟨⟨hz,f,turn,done⟩⟩
def VX{α:Type}{js:List Nat}{γ:Γ}{g:PTG}{body:PTS}{s:S}{R:PEnds}{xs:List α}{emb:α->D}(inv:Nat->Γ->Prop)(h0:inv 0 (clr js γ))(turn:∀(i:Nat) (hi:i<xs.length) γ',inv i γ'->g (s.sub (emb xs[i])) γ' fun γ2=>body {R with nx:=fun γ3=>inv (i+1) (clr js γ3),ct:=fun γ3=>inv (i+1) (clr js γ3),bk:=R.nx} γ2)(done:∀γ',inv xs.length γ'->R.nx γ') :
  ForW js γ g body R (xs.map emb).length (fun i=>s.sub ((xs.map emb).getD i .non)):=by
 refine⟨⟨inv,h0,fun i γ' hi h=>?_,fun γ' h=>?_⟩⟩
 ·rw[Z6]at hi;have t:=turn i hi γ' h;rw[←Pa (f:=emb) hi]at t;exact t
 ·rw[Z6]at h;exact done γ' h
def XG{js:List Nat}{γ:Γ}{g:PTG}{body:PTS}{R:PEnds}{n:Nat}{item:Nat->S}(inv:Nat->Γ->Prop)(h0:inv 0 (clr js γ))(turn:∀(i:Nat) γ',i<n->inv i γ'->g (item i) γ' fun γ2=>body {R with nx:=fun γ3=>inv (i+1) (clr js γ3),ct:=fun γ3=>inv (i+1) (clr js γ3),bk:=R.nx} γ2)(done:∀γ',inv n γ'->R.nx γ'):ForW js γ g body R n item:=⟨⟨inv,h0,turn,done⟩⟩
def E6{js:List Nat}{γ:Γ}{c:PTT}{body:PTS}{R:PEnds}(inv:Γ->Prop)(μ:Γ->Nat)(h0:inv (clr js γ))(turn:∀γ',inv γ'->c γ' (fun b=>if b=true then body {R with nx:=fun γ3=>inv (clr js γ3)/\μ (clr js γ3)<μ γ',ct:=fun γ3=>inv (clr js γ3)/\μ (clr js γ3)<μ γ',bk:=R.nx} γ' else R.nx γ') (R.ex γ')):WhileW js γ c body R:=⟨⟨inv,μ,h0,turn⟩⟩
def JL{α:Type}(c:α->Bool)(emb:α->D):∀ws:List α,ws.filterMap (fun q=>if c q=true then some (emb q)else none)=(ws.filter c).map emb
 |[]=>rfl
 |q::r=>by
  by_cases h:c q=true
  ·rw[WJ (b:=emb q) (by rw[ZH h]),Wi h,ZO,JL c emb r]
  ·rw[WK (by rw[ZG h]),Wj h,JL c emb r]
def mapD{α:Type}(emb:α->D)(ws:List α):ws.filterMap (fun q=>some (emb q))=ws.map emb:=by rw[YR]
def Ft{α:Type}(f:α->D)(xs:List α)(lo hi:Option Int):cutD (xs.map f) lo hi=(cutD xs lo hi).map f:=by
 unfold cutD;rw[Z6,List.map_take,List.map_drop]
def ER{α:Type}(xs:List α){n:Int}(h:0<=n):cutD xs none (some n)=xs.take n.toNat:=by
 unfold cutD;have e:n=(n.toNat:Int):=by omega
 rw[HT.NJ,e,HT.N1,List.drop_zero];rw[Nat.sub_zero,ZN];by_cases c:n.toNat<=xs.length
 ·rw[Nat.min_eq_left c]
 ·rw[Nat.min_eq_right (by omega),Wt (ZF _),Wt (by omega)]
def DC{α:Type}(xs:List α){n:Int}(h:0<=n):cutD xs (some n) none=xs.drop n.toNat:=by
 unfold cutD;have e:n=(n.toNat:Int):=by omega
 rw[HT.NJ,e,HT.N1,ZN];by_cases c:n.toNat<=xs.length
 ·rw[Nat.min_eq_left c,Wt (by rw[WZ];omega)]
 ·rw[Nat.min_eq_right (by omega),List.drop_of_length_le (ZF _),List.drop_of_length_le (by omega)];simp
def XB(K:Za):Sp:=fun vs H Q _=>∃(a:Addr) (ns:List Int),vs=[.ref a]/\SqL K H a (ns.map V.int)/\∀H',Q (.bl true) H'
def SK:Pc:=fun ds R _=>∃ns:List Int,ds=[.scr ns]/\R (.sh (.bl true))
def D8{vs:List V}{Q:VK}{Ec:XK}(h:XB K vs H Q Ec):spOf mg SK K vs H Q Ec:=by
 obtain⟨a,ns,rfl,hS,q⟩:=h;refine⟨[.scr ns],fun s=>s=.sh (.bl true),fun _=>False,.cons (.scr hS) .nil,⟨ns,rfl,rfl⟩,fun s v H' e S1 tv=>?_,fun _ _ z=>z.elim⟩;subst e;cases tv
 exact q H'
end
section
variable {K:Za}{mg:Str->Option Value}{E:L2.St->XK}{H0 H H1 H':Hp}{B Z Z':Addr->Prop}{σ:L2.St}{γ:Γ}
def UR:D->Option V
 | .int i=>some (.int i) | .bl b=>some (.bl b) | .non=>some .non | .str x=>some (.str x)|_=>none
def vD:V->D
 | .int i=>.int i | .bl b=>.bl b | .str x=>.str x|_=>.non
def Xk:V->Bool
 | .int _=>true | .bl _=>true | .str _=>true | .non=>true|_=>false
def Kd{v:V}(h:Xk v=true):Rp K H (vD v) v:=by
 cases v with
 |int i=>exact .int i
 |bl b=>exact .bl b
 |str x=>exact .str x
 |non=>exact .non
 |_=>cases h
def Kx{d:D}{v u:V}(h:Rp K H d v)(e:UR d=some u):v=u:=by
 cases h with
 |int i=>cases e;rfl
 |bl b=>cases e;rfl
 |non=>cases e;rfl
 |str x=>cases e;rfl
 |_=>cases e
def keyD:D->Option Key
 | .int i=>some (.inl i) | .str x=>some (.inr x)|_=>none
def JE:List D->Option (List Key)
 |[]=>some []
 |d::r=>match keyD d,JE r with
  |some k,some ks=>some (k::ks)
  |_,_=>none
def JU:D->Option (List Key)
 | .tup ds=>JE ds
 |_=>none
def UE{d:D}{v:V}{k:Key}(h:Rp K H d v)(e:keyD d=some k):v=kV k:=by
 cases h with
 |int i=>cases e;rfl
 |str x=>cases e;rfl
 |_=>cases e
def N5:∀{ds:List D}{vs:List V}{ks:List Key},Rps K H ds vs->JE ds=some ks->vs=ks.map kV
 |[],_,_,.nil,e=>by cases e;rfl
 |d::r,_,ks,.cons h t,e=>by
  unfold JE at e;split at e
  ·rename_i k js e1 e2;cases e
   rw[UE h e1,N5 t e2];rfl
  ·cases e
def Xj{d:D}{v:V}{ks:List Key}(h:Rp K H d v)(e:JU d=some ks):∃b,v=.ref b/\H b=some (.tup (ks.map kV)):=by
 cases h with
 |tup h r=>
  rw[N5 r e]at h;exact⟨_,rfl,h⟩
 |_=>cases e
def Rp.dK_inv {kvs:List (Key×V)}{v:V} (h:Rp K H (.dK kvs) v):∃a,v=.ref a/\H a=some (.dK kvs):=by
 cases h with
 |dK h=>exact⟨_,rfl,h⟩
def Rp.dT_inv {kvs:List (List Key×V)}{v:V} (h:Rp K H (.dT kvs) v):∃a,v=.ref a/\H a=some (.dT kvs):=by
 cases h with
 |dT h=>exact⟨_,rfl,h⟩
def BH:PTE:=fun _ R _=>R (.own (.dK []))
def F9:PTE:=fun _ R _=>R (.own (.dT []))
def Fs:SndE K mg E T3 BH:=by
 intro H0 B H σ γ R X Q env p q _;intro l nl;exact q _ _ _ p (QX nl) ⟨l,rfl,(fun _ e=>e▸nl),QR⟩
def Ae:SndE K mg E P2 F9:=by
 intro H0 B H σ γ R X Q env p q _;intro l nl;exact q _ _ _ p (QX nl) ⟨l,rfl,(fun _ e=>e▸nl),QR⟩
def TQ:S->S->(S->Prop)->Prop:=fun x y R=>match x.d with
 | .dK kvs=>∃k v,keyD y.d=some k/\valV kvs k=some v/\Xk v=true/\R (.sh (vD v))
 | .dT kvs=>∃k v,JU y.d=some k/\valV kvs k=some v/\Xk v=true/\R (.sh (vD v))
 |_=>False
def TZ{td ty:TE}{a b:PTE}(ha:SndE K mg E td a)(hb:SndE K mg E ty b):SndE K mg E (NI td ty) (p2 a b TQ):=by
 show SndE K mg E (tOp (fun x y H Q=>∃a v,x=.ref a/\DGet H a y (some v)/\Q v H) td ty) _;refine se_2 ha hb fun H0 H H2 Z x y v u R Q s0 s1 hm tx ty h q=>?_;have rx:=tx.rp s0;have ry:=ty.rp s0;unfold TQ at h;split at h
 ·rename_i kvs e;rw[e]at rx;obtain⟨l,rfl,hl⟩:=rx.dK_inv;obtain⟨k,w,h1,h2,h3,h4⟩:=h;refine⟨l,w,rfl,?_,q _ _ H2 h4 (Same.refl _) (Kd h3)⟩;rw[UE ry h1,←h2];exact DGet.k hl
 ·rename_i kvs e;rw[e]at rx;obtain⟨l,rfl,hl⟩:=rx.dT_inv;obtain⟨k,w,h1,h2,h3,h4⟩:=h;obtain⟨b,rfl,hb⟩:=Xj ry h1;refine⟨l,w,rfl,?_,q _ _ H2 h4 (Same.refl _) (Kd h3)⟩;rw[←h2];exact DGet.t hl hb
 ·exact h.elim
def fDIn(neg:Bool):S->S->(S->Prop)->Prop:=fun y x R=>match x.d with
 | .dK kvs=>∃k,keyD y.d=some k/\R (.sh (.bl (if neg then !(valV kvs k).isSome else(valV kvs k).isSome)))
 | .dT kvs=>∃k,JU y.d=some k/\R (.sh (.bl (if neg then !(valV kvs k).isSome else(valV kvs k).isSome)))
 |_=>False
def Bx{td ty:TE}{a b:PTE}(ha:SndE K mg E ty a)(hb:SndE K mg E td b):SndE K mg E (NR ty td) (p2 a b (fDIn true)):=by
 show SndE K mg E (tOp (fun y x H Q=>∃a o,x=.ref a/\DGet H a y o/\Q (.bl (!o.isSome)) H) ty td) _;refine se_2 ha hb fun H0 H H2 Z y x u v R Q s0 s1 hm ty tx h q=>?_;have rx:=tx.rp s0;have ry:=ty.rp s0;unfold fDIn at h;split at h
 ·rename_i kvs e;rw[e]at rx;obtain⟨l,rfl,hl⟩:=rx.dK_inv;obtain⟨k,h1,h4⟩:=h;refine⟨l,_,rfl,?_,q _ _ H2 h4 (Same.refl _) (.bl _)⟩;rw[UE ry h1];exact DGet.k hl
 ·rename_i kvs e;rw[e]at rx;obtain⟨l,rfl,hl⟩:=rx.dT_inv;obtain⟨k,h1,h4⟩:=h;obtain⟨b,rfl,hb⟩:=Xj ry h1;exact⟨l,_,rfl,DGet.t hl hb,q _ _ H2 h4 (Same.refl _) (.bl _)⟩
 ·exact h.elim
def SO(i:Nat)(b a:PTE):PTS:=fun R γ=>match γ[i]? with
 |some (some (.own (.dK kvs)))=>a γ (fun s=>b γ (fun y=>∃k u,keyD y.d=some k/\UR s.d=some u/\kvs.length<100000/\R.nx (γ.set i (some (.own (.dK (putK kvs k u)))))) (R.ex γ)) (R.ex γ)
 |some (some (.own (.dT kvs)))=>a γ (fun s=>b γ (fun y=>∃k u,JU y.d=some k/\UR s.d=some u/\kvs.length<100000/\R.nx (γ.set i (some (.own (.dT (putK kvs k u)))))) (R.ex γ)) (R.ex γ)
 |_=>False
def KL(i:Nat){ty tv:TE}{a b:PTE}(hb:SndE K mg E ty b)(ha:SndE K mg E tv a):SndS K mg E (Pk (tVar i) ty tv) (SO i b a):=by
 intro H0 B H σ γ R D hB env h e;have hx:∀c H',R.ex γ c->Same H H'->E σ (.ref (ExcR.VM mg c)) none H':=fun c H' hc S'=>e.ex σ γ c H' hc (env.grow S') (Fr.grow S');unfold SO at h;split at h
 ·rename_i kvs hi;obtain⟨v,hv,l,rfl,hb0,hl⟩:=env.slot i _ hi;refine ha H0 B H σ γ _ _ _ env h (fun s u H1 h1 S1 t1=>⟨_,hv,?_⟩) hx;have env1:=env.grow S1;refine hb H0 B H1 σ γ _ _ _ env1 h1 (fun y w H2 h2 S2 t2=>?_) fun c H' hc S'=>hx c H' hc (S1.trans S');obtain⟨k,z,k1,k2,k3,k4⟩:=h2;have env2:=env1.grow S2;have eu:=Kx (t1.rp env1.same) k2;have ew:=UE (t2.rp env2.same) k1;subst eu ew;refine⟨l,_,rfl,DPut.k (S2 _ _ (S1 _ _ hl)) (WD k3 (by decide)),?_⟩;obtain⟨e2,f2⟩:=env2.mutate (es:=.dK (putK kvs k u)) (us:=.dK (putK kvs k u)) hi hv trivial fun F H' SF hF=>hF;exact e.nx _ _ _ k4 e2 ((Fr.grow (S1.trans S2)).trans f2)
 ·rename_i kvs hi;obtain⟨v,hv,l,rfl,hb0,hl⟩:=env.slot i _ hi;refine ha H0 B H σ γ _ _ _ env h (fun s u H1 h1 S1 t1=>⟨_,hv,?_⟩) hx;have env1:=env.grow S1;refine hb H0 B H1 σ γ _ _ _ env1 h1 (fun y w H2 h2 S2 t2=>?_) fun c H' hc S'=>hx c H' hc (S1.trans S');obtain⟨k,z,k1,k2,k3,k4⟩:=h2;have env2:=env1.grow S2;have eu:=Kx (t1.rp env1.same) k2;obtain⟨b',rfl,hb'⟩:=Xj (t2.rp env2.same) k1;subst eu;refine⟨l,_,rfl,DPut.t (S2 _ _ (S1 _ _ hl)) hb' (WD k3 (by decide)),?_⟩;obtain⟨e2,f2⟩:=env2.mutate (es:=.dT (putK kvs k u)) (us:=.dT (putK kvs k u)) hi hv trivial fun F H' SF hF=>hF;exact e.nx _ _ _ k4 e2 ((Fr.grow (S1.trans S2)).trans f2)
 ·exact h.elim
def An(a:PTE):PTS:=fun R γ=>a γ (fun s=>match s.shd with|some d=>R.rt (.sh d)|none=>False) (R.ex γ)
def P5{te:TE}{a:PTE}(ha:SndE K mg E te a):SndS K mg E (tRet te) (An a):=by
 intro H0 B H σ γ R D hB env h e;refine ha H0 B H σ γ _ _ _ env h (fun s v H1 h1 S1 t1=>?_) fun c H' hc S'=>e.ex σ γ c H' hc (env.grow S') (Fr.grow S');split at h1
 ·rename_i d hd;have r:=t1.shd (env.grow S1).same env.zm S1 hd;exact e.rt (.sh d) v H1 h1 (env.same.trans S1) (Rp.mono (QV (Same.refl _) fun b _ _ z y=>z (.inl y)) r)
 ·exact h1.elim
def Pn(i:Nat)(γ:Γ):Nat:=match γ[i]? with
 |some (some (.own (.lst ds)))=>ds.length
 |_=>0
def B4{α:Type}(d:α)(ds:List α):atI (d::ds) 0=some d:=KA (by decide) rfl
def em(l:Int)(p:List Int):D:=.lst ((l::p).map D.int)
def K4(l:Int)(p:List Int):atI ((l::p).map D.int) (-1)=some (.int (QL l p)):=by
 refine UC ?_;unfold atI ixN;rw[ZG (by omega),ZH (by rw[Yt];omega)];have e:(-1+((l::p).length:Int)).toNat=p.length:=by rw[Yt];omega
 rw[e];exact UG l p
end
section
variable {K:Za}{mg:Str->Option Value}{E:L2.St->XK}{H0 H H1 H':Hp}{B Z Z':Addr->Prop}{σ:L2.St}{γ:Γ}
def Bg:List S->(S->Prop)->Prop
 |[s],R=>∃ns:List Int,s.d=.lst (ns.map D.int)/\R (.sh (.int ns.sum))
 |_,_=>False
def SZ{ta:TA}{r:PTA}(hr:SndA K mg E ta r):SndE K mg E (tCB (fun xs H Q=>∃(p:Addr) (ns:List Int),xs=[.ref p]/\SqL K H p (ns.map V.int)/\Q (.int ns.sum) H) ta) (pCB Bg r):=by
 refine Js hr fun H0 H H1 Z ss vs R Q s0 s1 hm tv h q=>?_;unfold Bg at h;split at h
 ·obtain⟨v,rfl,t1⟩:=tv.one_inv;obtain⟨ns,e,hR⟩:=h;have rv:=t1.rp s0;rw[e]at rv;obtain⟨a,rfl,ha⟩:=rv.ints_inv;exact⟨a,ns,rfl,SqL.of ha,q _ _ H1 hR (Same.refl _) (.int _)⟩
 ·exact h.elim
def NQ:List S->(S->Prop)->Prop
 |[s],R=>∃ns:List Int,s.d=.lst (ns.map D.int)/\0<ns.length/\∀m,m∈ns->(∀a∈ns,m<=a)->R (.sh (.int m))
 |_,_=>False
def Fz{ta:TA}{r:PTA}(hr:SndA K mg E ta r):SndE K mg E (tCB (fun xs H Q=>∃(p:Addr) (ns:List Int),xs=[.ref p]/\SqL K H p (ns.map V.int)/\0<ns.length/\∀M,M∈ns->(∀a∈ns,M<=a)->Q (.int M) H) ta) (pCB NQ r):=by
 refine Js hr fun H0 H H1 Z ss vs R Q s0 s1 hm tv h q=>?_;unfold NQ at h;split at h
 ·obtain⟨v,rfl,t1⟩:=tv.one_inv;obtain⟨ns,e,hne,hR⟩:=h;have rv:=t1.rp s0;rw[e]at rv;obtain⟨a,rfl,ha⟩:=rv.ints_inv;exact⟨a,ns,rfl,SqL.of ha,hne,fun m h1 h2=>q _ _ H1 (hR m h1 h2) (Same.refl _) (.int _)⟩
 ·exact h.elim
def Pp:List S->(S->Prop)->Prop
 |[s],R=>∃bs:List Bool,s.d=.lst (bs.map D.bl)/\R (.sh (.bl (bs.any id)))
 |_,_=>False
def Rps.bls {K:Za}{H:Hp}:∀{js:List Bool}{vs:List V},Rps K H (js.map D.bl) vs->vs=js.map V.bl
 |[],_,.nil=>rfl
 |j::r,_,.cons h t=>by rw[Rp.bl_inv h,Rps.bls t];rfl
def CP{ta:TA}{r:PTA}(hr:SndA K mg E ta r):SndE K mg E (tCB (fun xs H Q=>∃(p:Addr) (bs:List Bool),xs=[.ref p]/\SqL K H p (bs.map V.bl)/\Q (.bl (bs.any id)) H) ta) (pCB Pp r):=by
 refine Js hr fun H0 H H1 Z ss vs R Q s0 s1 hm tv h q=>?_;unfold Pp at h;split at h
 ·obtain⟨v,rfl,t1⟩:=tv.one_inv;obtain⟨bs,e,hR⟩:=h;have rv:=t1.rp s0;rw[e]at rv;obtain⟨a,us,rfl,ha,r1⟩:=rv.lst_inv;rw[r1.bls]at ha;exact⟨a,bs,rfl,SqL.of ha,q _ _ H1 hR (Same.refl _) (.bl _)⟩
 ·exact h.elim
end
section
variable {K:Za}{mg:Str->Option Value}{E:L2.St->XK}{H0 H H1 H':Hp}{B Z Z':Addr->Prop}{σ:L2.St}{γ:Γ}
def EU(i:Nat)(b a:PTE):PTS:=fun R γ=>match γ[i]? with
 |some (some (.own (.lst ds)))=>a γ (fun s=>b γ (fun y=>match y.d with
   | .int k=>∃j d,ixN ds.length k=some j/\s.shd=some d/\R.nx (γ.set i (some (.own (.lst (ds.set j d)))))
   |_=>False) (R.ex γ)) (R.ex γ)
 |some (some (.own (.lsA x ds)))=>a γ (fun s=>b γ (fun y=>match y.d with
   | .int k=>∃j d,ixN ds.length k=some j/\s.shd=some d/\R.nx (γ.set i (some (.own (.lsA x (ds.set j d)))))
   |_=>False) (R.ex γ)) (R.ex γ)
 |_=>False
def Rps.set {d:D}{v:V} (h:Rp K H d v):∀{ds:List D}{vs:List V} (j:Nat),Rps K H ds vs->Rps K H (ds.set j d) (vs.set j v)
 |_,_,_,.nil=>.nil
 |_,_,0,.cons _ r=>.cons h r
 |_,_,j+1,.cons k r=>.cons k (Rps.set h j r)
def fRep:S->S->(S->Prop)->Prop:=fun x y R=>match x.d,y.d with
 | .lst ds,.int k=>x.free ds=true/\(-(2 ^ 63)<=k/\k<2 ^ 63)/\ds.length*k.toNat<=10000000/\R (.own (.lst (List.replicate k.toNat ds).flatten))
 |_,_=>False
def Rps.rep {ds:List D}{vs:List V} (h:Rps K H ds vs):∀k:Nat,Rps K H (List.replicate k ds).flatten (List.replicate k vs).flatten
 | 0=>.nil
 |k+1=>by
  rw[YB,YB,YV,YV];exact Rps.append h (Rps.rep h k)
def Nc{ta tb:TE}{a b:PTE}(ha:SndE K mg E ta a)(hb:SndE K mg E tb b):SndE K mg E (tOp rRep ta tb) (p2 a b fRep):=by
 refine se_2 ha hb fun H0 H H2 Z x y v u R Q s0 s1 hm tx ty h q=>?_;unfold fRep at h;have ry:=ty.rp s0;split at h
 ·rename_i ds k e1 e2;rw[e2]at ry;obtain⟨l,us,rfl,hl,r⟩:=(tx.items s0 hm s1 h.1).1 e1;refine⟨l,k,us,rfl,ry.int_inv,hl,h.2.1.1,h.2.1.2,by rw[r.len];exact ZW h.2.2.1 (by decide),fun p np=>?_⟩;exact q _ _ _ h.2.2.2 (QX np) (JB s1 np (r.rep _))
 ·exact h.elim
end
end Pu
namespace PySem
open Sem (wp)
structure VPairs {K:Type} (es:List DictEntry) (kvs:List (K×Value)):Prop where
 length:es.length=kvs.length
 get?:∀{i:Nat} {e:DictEntry} {k:K} {v:Value},es[i]?=some e->kvs[i]?=some (k,v)->True/\e.val=v
def VDict{K:Type}(h:Heap)(a:Addr)(kvs:List (K×Value))(ep:Nat):Prop:=
 ∃o es,h.get? a=some o/\o.ExactDict/\o.data=.dict es ep/\True/\VPairs es.toList kvs/\True
section
variable {prog:Program}{w:World}{K:Type}{A:Around}{E:Value->Shared->Prop}{s:Shared}
def E2(d:Addr)(hd:(d==sysModules)=false) :
  MeetsIn prog w (Builtin.«dict.values» ⟨[.ref d],[]⟩) (fun _ R s=>s.TypeIs (.ref d) "dict"/\
   R (.ok (.ret (.ref s.heap.objs.size))) {s with heap:=s.heap.push {cls:=.type "dict_values",data:=.fields #[.ref d]}}):=
 .of_wp fun A R s ⟨hm,h⟩=>by
  refine Z4 ?_;unfold Builtin.Dict.noArgs;refine Z4 (wpAny_notOrdered_dict hm ?_);show wpAny _ _ (pure d) _ _ s;refine Z8 ?_;show wpAny _ _ (Builtin.Dict.showsAll d >>= _) _ _ s;unfold Builtin.Dict.showsAll;rw[ZG (by rw[hd];exact ZJ)];refine Z4 (Z8 ?_);exact Z4 (Yq (Z8 ⟨_,rfl,h⟩))
def Fe{v d:Addr}{kvs:List (K×Value)}{ep:Nat}{Q:Value->Shared->Prop}(hv:s.heap.IsValuesView v d)(hm:VDict s.heap d kvs ep)(hQ:Q (.ref s.heap.objs.size) {s with heap:=s.heap.push {cls:=.type "dict_valueiterator",data:=.fields #[.ref d,.int 0 0,.int kvs.length 0,.int ep 0]}}) :
  wpAny (model prog w) A (pyIter (.ref v)) Q E s:=by
 obtain⟨ov,hov,hcv,hdv⟩:=id hv;obtain⟨o,es,ho,hc,hdat,hk,hp,hn⟩:=id hm;refine wpAny_pyIter_slot hv.typeIs F.slot_dict_values_iter (YO F.slot_dict_values_iter hv.typeIs F.entry_dict_values_iter ?_ (F.args_dict_values_iter_1 _));unfold Builtin.«dict_values.__iter__»;refine Z4 (Z8 ?_);refine Z4 ?_;unfold Builtin.Dict_items.dictOf;refine Z4 (wpAny_field hov hdv (x:=.ref d) rfl (Z8 ?_));refine Z4 ?_;unfold Builtin.Dict_items.newIterator;refine Z4 (wpAny_dictEntries ho hdat ?_);refine Z4 (wpAny_dictEpoch ho hdat ?_);have hsz:es.size=kvs.length:=by rw[←hp.length];simp
 have hown:Builtin.Dict_items.ownsTuple "dict_valueiterator"=false:=by decide
 simp only[hown,WG,Qa];refine Yq (Z8 ⟨_,rfl, "dict_valueiterator",_,⟨_,ZL _ rfl,rfl⟩,F.slot_dict_valueiterator_next.lookup,?_⟩);simpa [rawInt,hsz]using hQ
def AI{it d:Addr}{i ep:Nat}{kvs:List (K×Value)}{k:K}{v:Value}{Q:Option Value->Shared->Prop}(hit:s.heap.IsValIter it d i kvs.length ep)(hm:VDict s.heap d kvs ep)(hx:kvs[i]?=some (k,v))(hQ:∀h',h'.IsValIter it d (i+1) kvs.length ep->Heap.SameBut it s.heap h'->Q (some v) {s with heap:=h'}) :
  wpAny (model prog w) A (pyNext (.ref it)) Q E s:=by
 obtain⟨o,ho,hc,hd⟩:=id hit;obtain⟨od,es,hod,hcd,hdd,hk,hp,hn⟩:=id hm;unfold pyNext
 refine Z4 (wpAny_attempt (WN (name:=Str.ofString "__next__") hit.typeIs YI
  (YO YI hit.typeIs F.entry_dict_valueiterator_next ?_ (F.args_dict_valueiterator_next_1 _))))
 refine Z4 (Z8 ?_);refine Z4 ?_;refine Z4 ?_
 first|refine Z4 (YM hit.typeIs (Z8 ?_))|refine Z4 (Wd hit.typeIs (Z8 ?_))
 refine Z4 (wpAny_fieldsOf ho hd ?_);have hown:Builtin.Dict_items.ownsTuple "dict_valueiterator"=false:=by decide
 simp only[hown,WG,Qa];show wpAny _ _ (if (Value.ref d==Value.none)=true then _ else _) _ _ s;rw[ZG (show ¬((Value.ref d==Value.none)=true)from ZJ)]
 refine Z4 (Z8 ?_);refine Z4 (wpAny_dictEntries hod hdd ?_);have hsz:es.size=kvs.length:=by rw[←hp.length];simp
 rw[ZG (by rw[hsz];simp)];refine Z4 (Z8 ?_);refine Z4 (wpAny_dictEpoch hod hdd ?_);rw[ZG (by simp)];refine Z8 ?_
 have hlt:i<kvs.length:=by
  rcases Qk i kvs.length with h|h
  ·exact h
  ·simp[Wy h]at hx
 have hlt':i<es.size:=by rw[hsz];exact hlt
 have hval:es[i].val=v:=(hp.get? (e:=es[i]) (by simp[hlt']) hx).2;simp only[show ¬((i:Int)<0)from by omega,Qa,ZN,Y6 hlt']
 refine Z4 ?_
 first|refine Z4 (YM hit.typeIs (Z8 ?_))|refine Z4 (Wd hit.typeIs (Z8 ?_))
 refine Z4 (Qd hit.typeIs ?_);show wpAny _ _ (setField (.ref it) 1 (rawInt ((i:Int)+1)) >>= _) _ _ s;refine Z4 (Wb ho hd (by simp) ?_)
 have hit':(s.heap.update it (Obj.mapFields (·.setIfInBounds 1 (rawInt ((i:Int)+1))))).IsValIter it d (i+1) kvs.length ep:=
  ⟨_,Yy _ ho (Wx (Y9 hd _)),(Obj.cls_mapFields ..).trans hc,by rw[Y9 hd];simp[rawInt]⟩
 refine Z4 (W6 ?_);refine Z4 (Qd (s:={s with heap:=s.heap.update it (Obj.mapFields (·.setIfInBounds 1 (rawInt ((i:Int)+1))))}) hit'.typeIs ?_)
 refine Z4 (Qd (s:={s with heap:=s.heap.update it (Obj.mapFields (·.setIfInBounds 1 (rawInt ((i:Int)+1))))}) hit'.typeIs ?_)
 show wpAny _ _ (pure es[i].val) _ _ _;exact Z8 (Z8 ⟨_,rfl,Z8 (hval▸hQ _ hit' (Yx ..))⟩)
def BY{it d:Addr}{i ep:Nat}{kvs:List (K×Value)}{Q:Option Value->Shared->Prop}(hh:A.handled=none)(hit:s.heap.IsValIter it d i kvs.length ep)(hm:VDict s.heap d kvs ep)(hx:kvs[i]?=none)(hQ:∀h',Heap.ExtBut it s.heap h'->Q none {s with heap:=h'}):wpAny (model prog w) A (pyNext (.ref it)) Q E s:=by
 obtain⟨o,ho,hc,hd⟩:=id hit;obtain⟨od,es,hod,hcd,hdd,hk,hp,hn⟩:=id hm;unfold pyNext
 refine Z4 (wpAny_attempt (WN (name:=Str.ofString "__next__") hit.typeIs YI
  (YO YI hit.typeIs F.entry_dict_valueiterator_next ?_ (F.args_dict_valueiterator_next_1 _))))
 refine Z4 (Z8 ?_);refine Z4 ?_;refine Z4 ?_
 first|refine Z4 (YM hit.typeIs (Z8 ?_))|refine Z4 (Wd hit.typeIs (Z8 ?_))
 refine Z4 (wpAny_fieldsOf ho hd ?_);have hown:Builtin.Dict_items.ownsTuple "dict_valueiterator"=false:=by decide
 simp only[hown,WG,Qa];show wpAny _ _ (if (Value.ref d==Value.none)=true then _ else _) _ _ s;rw[ZG (show ¬((Value.ref d==Value.none)=true)from ZJ)]
 refine Z4 (Z8 ?_);refine Z4 (wpAny_dictEntries hod hdd ?_);have hsz:es.size=kvs.length:=by rw[←hp.length];simp
 rw[ZG (by rw[hsz];simp)];refine Z4 (Z8 ?_);refine Z4 (wpAny_dictEpoch hod hdd ?_);rw[ZG (by simp)];refine Z8 ?_;have hge:es.size<=i:=by rw[hsz];simpa using hx
 simp only[show ¬((i:Int)<0)from by omega,Qa,ZN,WV hge]
 refine Z4 ?_
 first|refine Z4 (YM hit.typeIs (Z8 ?_))|refine Z4 (Wd hit.typeIs (Z8 ?_))
 show wpAny _ _ (setField (.ref it) 0 .none >>= _) _ _ s;refine Z4 (Wb ho hd (by simp) ?_);show wpAny _ _ (newExc (.type "StopIteration") [] >>= _) _ _ _;refine Z4 ?_;simp only[newExc,newTuple];refine Z4 (Yq ?_ (by size_fits));refine Z4 (m:=firstArgMember _ _) (wpAny_of_eq (a:=Value.none) (by first|rfl|(simp only[firstArgMember];rfl)) ?_)
 refine Yq ?_ (by size_fits);simp only[raiseNew];refine Z4 (wpAny_handled ?_);rw[show A.in1.handled=none from hh]
 refine Z4 (Z8 (wpAny_throw ?_));refine Z4 (wpAny_isInstance (T:="StopIteration") (b:=true) ⟨_,ZL _ rfl,rfl⟩ isSubtype_stop ?_);exact Z8 (hQ _ (((Yx ..).extBut.push _).push _))
end
end PySem
namespace Own
open PySem PySem.Spec PyProof.Rows L2
def SJ(K:Za):R2:=fun x y H Q=>∃a b xs ys,x=.ref a/\y=.ref b/\SqT K H a xs/\SqT K H b ys/\xs.length+ys.length<=sizeLine/\
 (xs=[]->Q (.ref b) H)/\(xs≠[]->ys=[]->Q (.ref a) H)/\(xs≠[]->ys≠[]->∀p,H p=none->Q (.ref p) (upd H p (.tup (xs++ys))))
section
variable {X:Cx}{K:Za}
def BL(hK:X.K=K:=by rfl):OpR X (binaryOp .Add) (SJ K):=by
 subst hK;intro pins s σ H x y v u Q I rx ry h;obtain⟨a,b,xs,ys,rfl,rfl,ha,hb,hz,q0,q1,q2⟩:=h;cases rx
 cases ry
 by_cases hx:xs=[]
 ·obtain⟨its,r1,p1,_⟩:=I.tuple ha;obtain⟨its2,r2,p2,_⟩:=I.tuple hb;have e:its=[]:=r1.nil_iff.mpr hx;obtain⟨⟨cls,dd,data,sl⟩,ho,hc,n,hd⟩:=id p1;obtain⟨⟨cls2,dd2,data2,sl2⟩,ho2,hc2,n2,hd2⟩:=id p2;simp only at hc hd hc2 hd2;subst hc hd hc2 hd2
  exact concat_meets ⟨_,ho,rfl⟩ ⟨_,ho2,rfl⟩ noFill_tuple_add seq_tuple_add WU WM (WC _ _)
   (tuple_addW0 a b its.toArray its2.toArray n n2 dd dd2 sl sl2 (by simp[e])) ⟨ho,ho2,⟨.ref b,H,I,rfl,q0 hx⟩⟩
 ·exact A8 pins s σ H (.ref a) (.ref b) _ _ Q I rfl rfl ⟨a,b,xs,ys,rfl,rfl,ha,hb,hx,hz,q1 hx,q2 hx⟩
def A1{b:Addr}{x:V}{ws:List (Value×Value)}(h:VV [(.ref b,x)] ws):∃r,ws=[(.ref b,r)]/\RelV x r:=by
 cases h with
 |cons h t=>
  cases t
  rename_i y;obtain⟨u,r⟩:=y;obtain⟨h1,h2⟩:=h;cases (show u=Value.ref b from h1)
  exact⟨r,rfl,h2⟩
def PD(tk tv:TE):TE:=fun σ H Q=>∀p,H p=none->tk σ (upd H p (.dT [])) fun y H1=>tv σ H1 fun x H2=>H2 p=some (.dT [])/\∃b ks,y=.ref b/\H2 b=some (.tup (ks.map kV))/\Q (.ref p) (upd H2 p (.dT [(ks,x)]))
def Ct{k v:Expr}{tk tv:TE}{pos:Pos}(hu:X.A.units+1<cLine)(hk:PE X k tk)(hv:PE X v tv):PE X (.Dict [some k] [v] pos) (PD tk tv):=by
 intro pins s σ H Q I q;have hn:=I.hok.fresh (ZF s.heap.objs.size);have I1:=I.laid (a:=s.heap.objs.size) (o:=.dT []) (h':=s.heap.push {cls:=.type "dict",data:=.dict #[]}) (t':=s.toks) (fun _ _ q=>Z9 _ q) (ZF _) (Nq s.heap I.big)
 refine wpAny_Dict_any rfl rfl (by simp) (by simp) (thn ((DB hk hv CK) pins _ σ _ (fun ps H2=>match ps with
  |[(y,x)]=>H2 s.heap.objs.size=some (.dT [])/\∃b ks,y=.ref b/\H2 b=some (.tup (ks.map kV))/\Q (.ref s.heap.objs.size) (upd H2 s.heap.objs.size (.dT [(ks,x)]))
  |_=>False) I1 (q _ hn)) fun ws s2 ⟨ps,H2,I2,rel,h2⟩=>?_)
 split at h2
 ·rename_i y x;obtain⟨e,b,ks,ey,eb,q2⟩:=h2;subst ey;obtain⟨wv,ew,rv⟩:=A1 rel;subst ew;obtain⟨z,hd,xs,rel',dd⟩:=UV I2.hok e;cases rel'
  unfold storeAll;rw[Qj];refine Z4 (Z4 (wpAny_dictSet_heap (hsz:=Y0 _) (show(tupleKind _).room X.A from Nat.lt_of_succ_lt hu) (Up I2.hok eb) dd fun h' dd' hs=>Z8 ?_))
  dsimp only
  rw[List.forIn_nil];refine Z8 ?_;obtain⟨qo,es,ep,hq,h2,h3,h4,_,h5⟩:=dd';refine⟨.ref s.heap.objs.size,_,Ki (ob:=.dT [(ks,x)]) I2 (by rw[e];exact True.intro) hs ⟨qo,hq⟩ ⟨(by show 1<=sizeLine;decide),hd,[(ks,b,wv)],?_,qo,es,ep,hq,h2,h3,h4,h5⟩,rfl,q2⟩;refine .cons ⟨rfl,?_,rv⟩ .nil;rw[QS (NA eb e (fun z=>nomatch z))];exact eb
 ·exact h2.elim
end
section
variable {prog:Program}{w:World}{A:Around}{K:Type}{d r:Addr}{kvs:List (K×Value)}{ep:Nat}{h h':Heap}
def VDict.at (x:VDict h d kvs ep) (e:∀o,h.get? d=some o->h'.get? d=some o):VDict h' d kvs ep:=let ⟨o,es,ho,r⟩:=x;⟨o,es,e _ ho,r⟩
def VDict.lt (x:VDict h d kvs ep):d<h.objs.size:=let ⟨_,_,ho,_⟩:=x;ZK ho
def EK(hh:A.handled=none)(I d:Addr)(hne:d≠I)(kvs:List (K×Value))(ep:Nat) :
  Walks prog w A I [I,d] [I] kvs.length (fun i v=>∃k,kvs[i]?=some (k,v)) (fun i h=>h.IsValIter I d i kvs.length ep/\VDict h d kvs ep) where
 sub:=fun b hb=>by simp at hb;simp[hb]
 frame:=fun _ _ _ st hk=>⟨st.1.at fun o e=>hk I (by simp) o e,VDict.at st.2 fun o e=>hk d (by simp) o e⟩
 item:=fun i s Q E hi st hQ=>by
  refine AI (k:=(kvs[i]).1) (v:=(kvs[i]).2) st.1 st.2 (by simp[hi]) fun h' hit' hs'=>?_;exact hQ _ h' s.toks ⟨(kvs[i]).1,by simp[hi]⟩ ⟨hit',VDict.at st.2 fun o e=>hs'.extBut d o hne e⟩ fun b o hb e=>hs'.extBut b o (fun h=>hb (by simp[h])) e
 done:=fun s Q E st hQ=>BY hh st.1 st.2 (by simp) fun h' he'=>hQ h' s.toks fun b o hb e=>he' b o (fun h=>hb (by simp[h])) e
 self:=fun _ _ _ _ st hQ=>wpAny_pyIter_valiter st.1 hQ
def AU:PySem.W.KdlSrc prog w "dict_values" r d kvs.length (fun i v=>∃k,kvs[i]?=some (k,v)) (fun h=>h.IsValuesView r d/\VDict h d kvs ep) where
 type:=fun _ hm=>hm.1.typeIs
 there:=fun _ hm=>⟨let ⟨_,ho,_⟩:=hm.1;ZK ho,VDict.lt hm.2⟩
 keep:=fun _ _ hm hk=>⟨let ⟨o,ho,x⟩:=hm.1;⟨o,hk r (.inl rfl) o ho,x⟩,VDict.at hm.2 fun o e=>hk d (.inr rfl) o e⟩
 notList:=by decide
 notTuple:=by decide
 hint:=fun _ _ _ _ hm hq=>PySem.W.kdl_hint_values hm.1.typeIs hq
 iter:=fun _ _ hh hm=>⟨_,_,(fun _ _ hq=>Fe hm.1 hm.2 hq),EK hh _ d (Yf (VDict.lt hm.2)) kvs ep,⟨⟨_,ZL _ rfl,rfl,rfl⟩,VDict.at hm.2 fun o e=>Z9 _ e⟩⟩
end
def Uo(v d:Addr):HO:=.ext fun h=>h.IsValuesView v d
def XF:V->List V->Hp->VK->Prop:=fun x vs H Q=>∃d kvs,x=.ref d/\vs=[]/\H d=some (.dT kvs)/\∀v,H v=none->Q (.ref v) (upd H v (Uo v d))
section
variable {X:Cx}
def Cq:MtR X "dict.values" XF:=by
 intro pins s σ H x xs v us Q I rx rv h;obtain⟨d,kvs,rfl,rfl,hd,q⟩:=h;cases rx
 have hus:=rv.zero;subst hus;obtain⟨z,lo,xs,rel,dd⟩:=UV I.hok hd;obtain⟨o,es,ep,ho,hx,_⟩:=id dd;refine call_meetsIn PySem.F.slot_dict_values ⟨o,ho,hx.1⟩ PySem.F.entry_dict_values (PySem.F.args_dict_values_1 _) (E2 d lo) ⟨⟨o,ho,hx.1⟩,?_⟩;refine⟨.ref s.heap.objs.size,_,I.laid (a:=s.heap.objs.size) (o:=Uo s.heap.objs.size d) (t':=s.toks) (fun _ _ q=>Z9 _ q) (ZF _) ⟨⟨_,ZL _ rfl,rfl,rfl⟩,⟨_,ZL _ rfl⟩,fun h1 h2 ⟨o,ho,r⟩ e=>⟨o,e o ho,r⟩⟩,rfl,q _ (I.hok.fresh (ZF _))⟩
def Da{K:Za}{o:Expr}{to:TE}{name:Str}{apos cpos:Pos}(ho:PE X o to)(hK:X.K=K:=by rfl)(hn:name = "values":=by rfl)(hbase:attributeBase o name X.env (eval o X.env)=eval o X.env:=by rfl)(hline:(apos.endLine==cpos.line)=true:=by rfl):PE X (.Call (.Attribute o name apos) [] [] cpos) (tBM0 K "dict" XF to):=by
 subst hK hn;exact EC PySem.F.plainAttrs_dict PySem.F.slot_dict_values PySem.F.type_dict_values Cq ho hbase hline
def Xr{H:Hp}:∀{kvs:List (List Key×V)}{xs:List (List Key×Addr×Value)},KT H kvs xs->Vals (kvs.map (·.2)) (xs.map (·.2.2))
 |_,_,.nil=>.nil
 |_,_,.cons h r=>.cons h.2.2 (Xr r)
def FV(hc:X.calm=true):Vs X (.type "list") (fun xs H Q=>∃(v d:Addr) (kvs:List (List Key×V)),xs=[.ref v]/\H v=some (Uo v d)/\H d=some (.dT kvs)/\∀l,H l=none->Q (.ref l) (upd H l (.lst (kvs.map (·.2))))):=by
 intro pins s σ H xs us Q I rv h;obtain⟨v,d,kvs,rfl,hv,hd,q⟩:=h;obtain⟨u,rfl,ru⟩:=rv.one;obtain rfl:u=Value.ref v:=ru;obtain⟨z,lo,xs,rel,dd⟩:=UV I.hok hd;obtain⟨o,es,ep,ho,hx,hdat,he,hk,hn⟩:=id dd;have view:s.heap.IsValuesView v d:=(I.hok v _ hv).1;have hl:xs.length=kvs.length:=by simpa using(Xr rel).length.symm
 have vd:VDict s.heap d (xs.map fun x=>((),x.2.2)) ep:=by
  refine⟨o,es,ho,hx,hdat,trivial,⟨by rw[he,Z6,Z6],fun {i e k v} h1 h2=>⟨trivial,?_⟩⟩,trivial⟩;rw[he,ZD]at h1;rw[ZD]at h2;cases hi:xs[i]? with
  |none=>rw[hi]at h1;cases h1
  |some x=>
   rw[hi]at h1 h2;cases h1
   cases h2
   rfl
 refine PySem.W.kdl_call AU (I.ok.hd hc) ⟨view,vd⟩ (by rw[Z6];omega) fun h' tk acc' c' hk hD hacc=>?_;refine⟨.ref s.heap.objs.size,upd H s.heap.objs.size (.lst (kvs.map (·.2))),?_,rfl,q _ (I.hok.fresh (ZF _))⟩;have ev:=PySem.W.kdl_vals_eq (kvs:=xs.map fun x=>((),x.2.2)) acc'.toList (by rw[Yk];exact hacc.1) fun j u hu=>hacc.2 j u (by rw[←hu,Y7]);refine I.laid (t':=tk) hk (ZF _) ⟨by rw[Z6];exact z,acc'.toList,c',?_,by simpa using hD⟩;rw[ev,Yr];exact Xr rel
end
end Own
namespace Pu
open PySem PySem.Spec PyProof.Rows L2 Own M
section
variable {K:Za}{mg:Str->Option Value}{E:L2.St->XK}{H0 H H1 H':Hp}{B Z Z':Addr->Prop}{σ:L2.St}{γ:Γ}
def tupD:Option D->Option (List D)
 |some (.tup ds)=>some ds|_=>none
def Kn{o:Option D}{ds:List D}(h:tupD o=some ds):o=some (.tup ds):=by
 unfold tupD at h;split at h
 ·cases h;rfl
 ·cases h
def Aq:S->S->(S->Prop)->Prop:=fun x y R=>∃ds es,tupD x.shd=some ds/\tupD y.shd=some es/\ds.length+es.length<=100000/\R (.sh (.tup (ds++es)))
def Ey{ta tb:TE}{a b:PTE}(ha:SndE K mg E ta a)(hb:SndE K mg E tb b):SndE K mg E (tOp (SJ K) ta tb) (p2 a b Aq):=by
 refine se_2 ha hb fun H0 H H2 Z x y v u R Q s0 s1 hm tx ty h q=>?_;obtain⟨ds,es,e1,e2,hz,h⟩:=h;have hm':∀b,Z b->Mut (H2 b):=fun b z=>Jg s1 (hm b z);have r1:=tx.shd s0 hm s1 (Kn e1);have r2:=ty.shd s0 hm s1 (Kn e2);obtain⟨l,us,rfl,h1,k1⟩:=Rp.tup_inv r1;obtain⟨m,ws,rfl,h2,k2⟩:=Rp.tup_inv r2;refine⟨l,m,us,ws,rfl,rfl,SqT.of (off_sub _ _ h1),SqT.of (off_sub _ _ h2),by rw[k1.len,k2.len];exact ZW hz (by decide),fun e=>?_,fun _ e=>?_,fun _ _ p np=>?_⟩
 ·subst e;cases k1
  exact q _ _ _ h (Same.refl _) r2
 ·subst e;cases k2
  refine q _ _ _ h (Same.refl _) ?_;rw[Wl];exact r1
 ·refine q _ _ _ h (QX np) (.tup (Vt QR fun z=>?_) (Rps.mono (QV (QX np) fun _ _ _ z=>z) (k1.append k2)))
  have:=hm' p z
  rw[np]at this;exact this
def pIT(a:PTE):PTI:=fun γ R X=>a γ (fun s=>∃ds,tupD s.shd=some ds/\R ds.length fun i=>.sh (ds.getD i .non)) X
def K6{te:TE}{a:PTE}(ha:SndE K mg E te a):SndI K mg E (iTup K te) (pIT a):=by
 intro H0 B H σ γ R X Q env h q qx;refine ha H0 B H σ γ _ X _ env h (fun s v H1 h1 S1 t1=>?_) qx;have env1:=env.grow S1;obtain⟨ds,ed,h1⟩:=h1;have r1:=t1.shd env1.same env.zm S1 (Kn ed);obtain⟨l,vs,rfl,hl,k1⟩:=Rp.tup_inv r1;refine⟨l,rfl,⟨vs,SqT.of (off_sub _ _ hl)⟩,q _ _ _ H1 h1 S1 ⟨fun i H' Z' hi lt=>?_,fun H' Z' lt=>?_⟩⟩
 ·have hd:ds[i]?=some (ds.getD i .non):=by rw[Z7,Z5 hi];rfl
  obtain⟨u,hu,tu⟩:=k1.get hd;have k:=off_sub _ _ (lt.off _ _ hl);refine⟨⟨vs,u,SqT.of k,hu⟩,fun x H'' y=>?_⟩;obtain⟨rfl,y⟩:=y
  have:=y vs (SqT.of k)
  rw[hu]at this;cases this
  exact⟨Same.refl _,Rp.mono lt.off tu⟩
 ·exact⟨vs,SqT.of (off_sub _ _ (lt.off _ _ hl)),by rw[k1.len];exact ZF _⟩
def JF:List (List Key×V)->Bool
 |[]=>true
 |p::r=>Xk p.2&&JF r
def P0:∀{kvs:List (List Key×V)},JF kvs=true->Rps K H (kvs.map fun p=>vD p.2) (kvs.map (·.2))
 |[],_=>.nil
 |p::r,h=>by
  unfold JF at h;rw[Y4]at h;exact .cons (Kd h.1) (P0 h.2)
def Bs:List V->Hp->VK->Prop:=fun xs H Q=>∃(v d:Addr) (kvs:List (List Key×V)),xs=[.ref v]/\H v=some (Uo v d)/\H d=some (.dT kvs)/\∀l,H l=none->Q (.ref l) (upd H l (.lst (kvs.map (·.2))))
def FC(a:PTE):PTE:=fun γ R X=>a γ (fun s=>∃kvs,s.d=.dT kvs/\JF kvs=true/\R (.own (.lst (kvs.map fun p=>vD p.2)))) X
def F1{te:TE}{a:PTE}(ha:SndE K mg E te a):SndE K mg E (tCB Bs (Vu (tBM0 K "dict" XF te) tNil)) (FC a):=by
 intro H0 B H σ γ R X Q env h q qx;refine ha H0 B H σ γ _ X _ env h (fun s v H1 h1 S1 t1=>?_) qx;obtain⟨kvs,e,hs,hR⟩:=h1;have env1:=env.grow S1;have rx:=t1.rp env1.same;rw[e]at rx;obtain⟨l,rfl,hl⟩:=rx.dT_inv;refine⟨.inr (.inr (.inl ⟨rfl,.inr ⟨kvs,hl⟩⟩)),l,kvs,rfl,rfl,hl,fun p np=>?_⟩;refine⟨p,l,kvs,rfl,QR,by rw[QS (V2 hl np)];exact hl,fun m nm=>?_⟩;have S2:Same H1 (upd H1 p (Uo p l)):=QX np;exact q _ _ _ hR ((S1.trans S2).trans (QX nm)) ⟨m,rfl,(fun _ e=>e▸(S1.trans S2).free nm),_,QR,P0 hs⟩
def Cf(a b:PTE):PTE:=fun γ R X=>a γ (fun y=>b γ (fun x=>∃ks u,JU y.d=some ks/\UR x.d=some u/\R (.own (.dT [(ks,u)]))) X) X
def Cy{tk tv:TE}{a b:PTE}(ha:SndE K mg E tk a)(hb:SndE K mg E tv b):SndE K mg E (PD tk tv) (Cf a b):=by
 intro H0 B H σ γ R X Q env h q qx;intro p np;have S0:Same H (upd H p (.dT [])):=QX np;have env0:=env.grow S0;refine ha H0 B _ σ γ _ X _ env0 h (fun y v H1 h1 S1 t1=>?_) fun c H' hc S'=>qx c H' hc (S0.trans S');have env1:=env0.grow S1;refine hb H0 B H1 σ γ _ X _ env1 h1 (fun x w H2 h2 S2 t2=>?_) fun c H' hc S'=>qx c H' hc ((S0.trans S1).trans S');have env2:=env1.grow S2;obtain⟨ks,u,k1,k2,k3⟩:=h2;have eu:=Kx (t2.rp env2.same) k2;obtain⟨b',rfl,hb'⟩:=Xj (Rp.mono S2 (t1.rp env1.same)) k1;subst eu;refine⟨S2 _ _ (S1 _ _ QR),b',ks,rfl,hb',q _ _ _ k3 (fun c o hc=>?_) ⟨p,rfl,(fun _ e=>e▸np),QR⟩⟩
 have:c≠p:=fun e=>by subst e;rw[np]at hc;cases hc
 rw[QS this];exact S2 _ _ (S1 _ _ (S0 _ _ hc))
end
section
variable {X:Cx}{K:Za}
def Kf{tg l:Expr}{tl:TE}(hl:PE X l tl)(hK:X.K=K:=by rfl):PI X tg l (iTup K tl):=by subst hK;exact DY hl
end
end Pu
namespace M
open PySem PySem.Spec PyProof.Rows L2 Own Pu
def tD(ms:List Int):D:=.tup (ms.map D.int)
def kT(ms:List Int):List Key:=ms.map Sum.inl
def Dh(ms:List Int):arg (tD ms)=.sh (tD ms):=by
 unfold arg tD imm;rw[Kg]
def XZ{N:List Str}{ms:List Int}{ds:List D}:Je N (tD ms::ds)=some (.sh (tD ms))::(ds.map (fun d=>some (arg d))++List.replicate (N.length-(ds.length+1)) none):=by
 unfold Je;rw[ZO,Dh];rfl
def Na(ms:List Int):JU (tD ms)=some (kT ms):=by
 show JE (ms.map D.int)=some (ms.map Sum.inl)
 induction ms with
 |nil=>rfl
 |cons m r ih=>
  rw[ZO,ZO];unfold JE;rw[ih];rfl
def DQ(ms:List Int):tupD (some (tD ms))=some (ms.map D.int):=rfl
def QP(ms:List Int)(h:Int):List Int:=ms.filter fun m=>decide (m≠h)
def Vo(ws:List (Int×Int))(ms:List Int)(h:Int):Bool:=!(ws.any fun q=>decide (q.1=h)&&decide (q.2∈ms))
def QU(hs:List Int):List (List Int):=hs.foldl (fun S h=>S++S.map (·++[h])) [[]]
def Jv(hs:List Int)(h:Int):QU (hs++[h])=QU hs++(QU hs).map (·++[h]):=by
 unfold QU;rw[List.foldl_append];rfl
def J9{P:List Int->Prop}(h0:P [])(h1:∀r h,P r->P (r++[h]))(l:List Int):P l:=by
 have key:∀r:List Int,P r.reverse:=fun r=>by
  induction r with
  |nil=>exact h0
  |cons a r ih=>rw[List.reverse_cons];exact h1 _ _ ih
 rw[←List.reverse_reverse l];exact key _
def VJ(hs:List Int):(QU hs).length=2 ^ hs.length:=by
 refine J9 (P:=fun hs=>(QU hs).length=2 ^ hs.length) rfl (fun r h ih=>?_) hs;rw[Jv,ZX,Z6,ih,ZX,YE,Nat.pow_succ];omega
def JY(hs:List Int):∀ms∈QU hs,ms.Sublist hs:=by
 refine J9 (P:=fun hs=>∀ms∈QU hs,ms.Sublist hs) (fun ms h=>?_) (fun r h ih ms hm=>?_) hs
 ·have:ms=[]:=by simpa [QU]using h
  subst this;exact .slnil
 ·rw[Jv,ZU]at hm;rcases hm with hm|hm
  ·exact(ih _ hm).trans (List.sublist_append_left _ _)
  ·obtain⟨n,hn,rfl⟩:=ZS.mp hm;exact(ih _ hn).append (List.Sublist.refl _)
def oc(c:Int->Int->Int):List Int->Int
 |[]=>0
 |a::r=>(r.map (c a)).sum+oc c r
def Keeps(ws:List (Int×Int))(o:List Int):Prop:=o.Pairwise fun a b=>(b,a)∉ws
structure Least (ws:List (Int×Int)) (c:Int->Int->Int) (ms:List Int) (v:Int):Prop where
 is:∃o:List Int,o.Perm ms/\Keeps ws o/\oc c o=v
 le:∀o:List Int,o.Perm ms->Keeps ws o->v<=oc c o
def Least.uniq {ws:List (Int×Int)}{c:Int->Int->Int}{ms:List Int}{v u:Int} (h:Least ws c ms v) (k:Least ws c ms u):v=u:=by
 obtain⟨o,o1,o2,o3⟩:=h.is;obtain⟨p,p1,p2,p3⟩:=k.is
 have:=h.le p p1 p2
 have:=k.le o o1 o2
 omega
def XA(c:Int->Int->Int)(l:Int):∀o:List Int,oc c (o++[l])=oc c o+(o.map (c · l)).sum
 |[]=>by simp[oc]
 |a::r=>by
  rw[YD];unfold oc;rw[XA c l r];simp only[Yh,ZO,Qz,List.sum_append,WY,List.sum_nil];omega
def Kp{f:Int->Int}{xs ys:List Int}(h:xs.Perm ys):(xs.map f).sum=(ys.map f).sum:=by
 induction h with
 |nil=>rfl
 |cons x _ ih=>rw[ZO,ZO,WY,WY,ih]
 |swap x y l=>
  simp only[ZO,WY];omega
 |trans _ _ i1 i2=>exact i1.trans i2
def UU{ms:List Int}{h:Int}(nd:ms.Nodup)(hm:h∈ms):ms.Perm (h::QP ms h):=by
 have e:QP ms h=ms.erase h:=by
  unfold QP;rw[nd.erase_eq_filter];congr 1;funext m;by_cases z:m=h<;>simp[z,bne]
 rw[e];exact List.perm_cons_erase hm
def less_sub{ms:List Int}{h:Int}:(QP ms h).Sublist ms:=Qo
def lastM_iff{ws:List (Int×Int)}{ms:List Int}{h:Int}:Vo ws ms h=true↔∀b∈ms,(h,b)∉ws:=by
 unfold Vo;rw[Bool.not_eq_true',List.any_eq_false];constructor
 ·intro k b hb hw;exact k _ hw (by simp[hb])
 ·intro k q hq z;simp only[Y4,YY]at z;obtain⟨z1,z2⟩:=z;subst z1;exact k q.2 z2 hq
def SY{ws:List (Int×Int)}{c:Int->Int->Int}{ms:List Int}{vs:Int->Int}{M:Int}(nd:ms.Nodup)(hw:∀q∈ws,q.1≠q.2)(hv:∀l∈ms,Least ws c (QP ms l) (vs l))(h1:∃l∈ms,Vo ws ms l=true/\M=vs l+((QP ms l).map (c · l)).sum)(h2:∀l∈ms,Vo ws ms l=true->M<=vs l+((QP ms l).map (c · l)).sum):Least ws c ms M:=by
 constructor
 ·obtain⟨l,hl,hlast,e⟩:=h1;obtain⟨o,o1,o2,o3⟩:=(hv l hl).is;refine⟨o++[l],?_,?_,?_⟩
  ·exact(List.perm_append_singleton l o).trans (((List.Perm.cons l o1)).trans (UU nd hl).symm)
  ·refine W3.mpr ⟨o2,List.pairwise_singleton _ _,fun a ha b hb=>?_⟩;rw[ZA.mp hb];exact lastM_iff.mp hlast a (less_sub.subset (o1.mem_iff.mp ha))
  ·rw[XA,o3,e,Kp o1]
 ·intro o o1 o2;rcases List.eq_nil_or_concat o with rfl|⟨p,l,rfl⟩
  ·obtain⟨l,hl,_⟩:=h1;rw[o1.nil_eq.symm]at hl;cases hl
  ·rw[List.concat_eq_append]at o1 o2 ⊢;have hl:l∈ms:=o1.mem_iff.mp (by simp);obtain⟨k1,_,k2⟩:=W3.mp o2
   have pp:p.Perm (QP ms l):=by
    have:=((List.perm_append_singleton l p).symm.trans o1).trans (UU nd hl)
    exact this.cons_inv
   have hlast:Vo ws ms l=true:=lastM_iff.mpr fun b hb=>by
    rcases ZT.mp ((UU nd hl).mem_iff.mp hb)with e|hb'
    ·subst e;exact fun z=>hw _ z rfl
    ·exact k2 b (pp.mem_iff.mpr hb') l (ZA.mpr rfl)
   have a1:=h2 l hl hlast;have a2:=(hv l hl).le p pp k1;rw[XA,Kp pp];omega
def Pj(a b:List Int)(l:Int):QP (a++b) l=QP a l++QP b l:=Wo ..
def S8{a:List Int}{l:Int}(h:l∉a):QP a l=a:=Qp.mpr fun m hm=>ZC fun e=>h (e▸hm)
def E1(hs:List Int):∃T,QU hs=[]::T:=by
 refine J9 (P:=fun hs=>∃T,QU hs=[]::T) ⟨[],rfl⟩ (fun r h ⟨T,e⟩=>?_) hs;rw[Jv,e];exact⟨_,rfl⟩
def TX{hs:List Int}:hs.Nodup->(QU hs).Nodup:=by
 refine J9 (P:=fun hs=>hs.Nodup->(QU hs).Nodup) (fun _=>by simp[QU]) (fun r h ih nd=>?_) hs;obtain⟨n1,_,n2⟩:=Y5.mp nd;rw[Jv];refine Y5.mpr ⟨ih n1,?_,fun a ha b hb e=>?_⟩
 ·exact List.Pairwise.map _ (fun a b hne e=>hne (List.append_cancel_right e)) (ih n1)
 ·obtain⟨c,hc,rfl⟩:=ZS.mp hb;subst e;exact n2 h ((JY r _ ha).subset (by simp)) h (by simp) rfl
def Cs{hs:List Int}:hs.Nodup->∀(k:Nat) (ms:List Int),(QU hs)[k]?=some ms->∀l∈ms,∃j:Nat,j<k/\(QU hs)[j]?=some (QP ms l):=by
 refine J9 (P:=fun hs=>hs.Nodup->∀(k:Nat) (ms:List Int),(QU hs)[k]?=some ms->∀l∈ms,∃j:Nat,j<k/\(QU hs)[j]?=some (QP ms l)) (fun _ k ms e l hl=>?_) (fun r h ih nd k ms e l hl=>?_) hs
 ·have:ms=[]:=by
   have:=Yb e
   simpa [QU]using this
  subst this;cases hl
 ·obtain⟨n1,_,n2⟩:=Y5.mp nd;rw[Jv]at e ⊢;by_cases hk:k<(QU r).length
  ·rw[Yd hk]at e;obtain⟨j,hj,ej⟩:=ih n1 k ms e l hl;exact⟨j,hj,by rw[Yd (by omega)];exact ej⟩
  ·rw[Yl (by omega),ZD]at e;cases q:(QU r)[k-(QU r).length]? with
   |none=>rw[q]at e;cases e
   |some n=>
    rw[q]at e;cases e
    have hh:h∉n:=fun z=>n2 h ((JY r n (Yb q)).subset z) h (by simp) rfl;by_cases el:l=h
    ·subst el
     have e1:QP (n++[l]) l=n:=by
      rw[Pj,S8 hh];simp[QP]
     obtain⟨j,hj,ej⟩:=Yo.mp (Yb q);refine⟨j,by omega,?_⟩;rw[Yd hj,e1,Z5 hj,ej]
    ·have hln:l∈n:=by
      rcases ZU.mp hl with z|z
      ·exact z
      ·exact absurd (ZA.mp z) el
     have e1:QP (n++[h]) l=QP n l++[h]:=by
      rw[Pj];congr 1;exact S8 fun z=>el (ZA.mp z)
     obtain⟨j,hj,ej⟩:=ih n1 _ n q l hln;refine⟨(QU r).length+j,by omega,?_⟩;rw[Yl (by omega),ZD,WO,ej,e1];rfl
def UT{a b:List Int}(h:kT a=kT b):a=b:=List.map_inj_right (fun _ _=>Sum.inl.inj) |>.mp h
def Ue(hs:List Int)(ws:List (Int×Int)):Prop:=∀ms:List Int,ms.Sublist hs->ms≠[]->∃l∈ms,∀b∈ms,(l,b)∉ws
structure Tab (ws:List (Int×Int)) (c:Int->Int->Int) (S:List (List Int)) (kvs:List (List Key×V)):Prop where
 keys:kvs.map (·.1)=S.map kT
 val:∀ms∈S,∃v,valV kvs (kT ms)=some (.int v)/\Least ws c ms v
def By(ws:List (Int×Int))(c:Int->Int->Int):Tab ws c [[]] [([],.int 0)]:=by
 refine⟨rfl,fun ms hm=>?_⟩;rw[ZA.mp hm];refine⟨0,rfl,⟨[],.refl _,.nil,rfl⟩,fun o ho _=>?_⟩;rw[ho.eq_nil];exact Int.le_refl _
def Tab.put {ws:List (Int×Int)}{c:Int->Int->Int}{S:List (List Int)}{kvs:List (List Key×V)}{ms:List Int}{v:Int} (T:Tab ws c S kvs) (hn:ms∉S) (L:Least ws c ms v):Tab ws c (S++[ms]) (putK kvs (kT ms) (.int v)):=by
 have no:valV kvs (kT ms)=none:=by
  cases e:valV kvs (kT ms)with
  |none=>rfl
  |some u=>
   unfold valV at e;cases q:kvs.find? (fun kv=>decide (kv.1=kT ms))with
   |none=>rw[q]at e;cases e
   |some x=>
    have h1:=List.mem_of_find?_eq_some q;have h2:=List.find?_some q;have h3:x.1∈kvs.map (·.1):=ZS.mpr ⟨x,h1,rfl⟩;rw[T.keys,ZZ h2]at h3;obtain⟨n,hn',e'⟩:=ZS.mp h3;rw[UT e']at hn';exact absurd hn' hn
 constructor
 ·rw[B5 _ no,Yh,Yh,T.keys];rfl
 ·intro n hn';rw[UA];by_cases e:n=ms
  ·subst e;exact⟨v,ZH rfl,L⟩
  ·rw[ZG fun z=>e (UT z)];rcases ZU.mp hn' with z|z
   ·exact T.val n z
   ·exact absurd (ZA.mp z) e
open Classical in
def Eb{ms:List Int}{P:Int->Int->Prop}(h:∀l∈ms,∃v,P l v):∃f:Int->Int,∀l∈ms,P l (f l):=
 ⟨fun l=>if hl:l∈ms then Classical.choose (h l hl)else 0,fun l hl=>by
  simp only[dif_pos hl];exact Classical.choose_spec (h l hl)⟩
def FZ{ls:List Int}{ws:List (Int×Int)}{r:List Int}(R:Ring ls (ws.map fun q=>(q.2,q.1)) r):Ring ls ws r.reverse:=by
 have sw:∀{x y:Int},(x,y)∈(ws.map fun q=>(q.2,q.1))->(y,x)∈ws:=fun h=>by
  obtain⟨q,hq,e⟩:=ZS.mp h;cases e
  exact hq
 refine⟨by rw[Qq];exact R.two,List.pairwise_reverse.mpr (R.nodup.imp fun h=>Ne.symm h),fun x hx=>R.sub x (List.mem_reverse.mp hx),fun i x y h1 h2=>?_,fun x y h1 h2=>?_⟩
 ·have hi:i+1<r.length:=by
   have:=(ZP.mp h2).1
   rw[Qq]at this;exact this
  rw[Qe (by omega)]at h1 h2;exact sw (R.chain (r.length-1-(i+1)) y x h2 (by rw[←h1];congr 1;omega))
 ·have two:=R.two;rw[Qe (by omega)]at h1;rw[Qq,Qe (by omega)]at h2;exact sw (R.last y x (by rw[←h2];congr 1;omega) (by rw[←h1];congr 1))
def Sm{hs:List Int}{ws:List (Int×Int)}(hu:∀q∈ws,q.1≠q.2)(h:¬ ∃r,Ring hs ws r):Ue hs ws:=fun ms hm hne=>by
 refine Ys fun z=>h ?_
 have h1:∀x∈ms,∃y∈ms,(y,x)∈(ws.map fun q=>(q.2,q.1)):=fun x hx=>by
  refine Ys fun k=>z ⟨x,hx,fun b hb hw=>k ⟨b,hb,ZS.mpr ⟨_,hw,rfl⟩⟩⟩
 obtain⟨r,R⟩:=P3 (ws:=ws.map fun q=>(q.2,q.1)) (fun q hq=>by
  obtain⟨p,hp,e⟩:=ZS.mp hq;subst e;exact fun e=>hu p hp e.symm) hne h1
 have F:=FZ R;exact⟨_,F.two,F.nodup,fun x hx=>hm.subset (F.sub x hx),F.chain,F.last⟩
def Pq:∀{kvs:List (List Key×V)},(kvs.map (·.1)).Nodup->∀p∈kvs,valV kvs p.1=some p.2
 |[],_,p,h=>by cases h
 |q::r,nd,p,h=>by
  rw[ZO,Yi]at nd;rcases ZT.mp h with e|h
  ·rw[e];exact VQ rfl
  ·rw[VN fun e=>nd.1 (ZS.mpr ⟨p,h,e.symm⟩)];exact Pq nd.2 p h
def TabV(ws:List (Int×Int))(c:Int->Int->Int)(S:List (List Int))(vs:List Int):Prop:=vs.length=S.length/\∀(i:Nat) (ms:List Int) (v:Int),S[i]?=some ms->vs[i]?=some v->Least ws c ms v
def Tab.vals {ws:List (Int×Int)}{c:Int->Int->Int}{S:List (List Int)}{kvs:List (List Key×V)} (T:Tab ws c S kvs) (nd:S.Nodup):∃vs:List Int,kvs.map (·.2)=vs.map V.int/\TabV ws c S vs:=by
 have nk:(kvs.map (·.1)).Nodup:=by
  rw[T.keys];exact List.Pairwise.map _ (fun a b hne e=>hne (UT e)) nd
 have hk:∀p∈kvs,∃ms∈S,p.1=kT ms/\∃v,p.2=.int v/\Least ws c ms v:=fun p hp=>by
  have h1:p.1∈kvs.map (·.1):=ZS.mpr ⟨p,hp,rfl⟩;rw[T.keys]at h1;obtain⟨ms,hm,e⟩:=ZS.mp h1;obtain⟨v,h2,h3⟩:=T.val ms hm;rw[e,Pq nk p hp]at h2;exact⟨ms,hm,e.symm,v,ZE h2,h3⟩
 have hl:kvs.length=S.length:=by
  have:=Yg List.length T.keys
  rw[Z6,Z6]at this;exact this
 refine⟨kvs.map fun p=>match p.2 with | .int v=>v|_=>0,?_,by rw[Z6,hl],fun i ms v h1 h2=>?_⟩
 ·rw[Yr];refine YC fun p hp=>?_;obtain⟨ms,_,_,v,e,_⟩:=hk p hp;show p.2=V.int (match p.2 with | .int v=>v|_=>0)
  rw[e]
 ·rw[ZD]at h2;cases q:kvs[i]? with
  |none=>rw[q]at h2;cases h2
  |some p=>
   rw[q]at h2;obtain⟨ms',hm',e1,u,e2,L⟩:=hk p (Yb q);have h3:(kvs.map (·.1))[i]?=some p.1:=by rw[ZD,q];rfl
   rw[T.keys,ZD,h1]at h3;have e3:ms=ms':=UT ((ZE h3).trans e1);subst e3
   have e4:u=v:=by
    have:=ZE h2
    simp only[e2]at this;exact this
   rw[←e4];exact L
def PV:∀{kvs:List (List Key×V)}{vs:List Int},kvs.map (·.2)=vs.map V.int->JF kvs=true/\kvs.map (fun p=>vD p.2)=vs.map D.int
 |[],[],_=>⟨rfl,rfl⟩
 |p::r,v::vs,h=>by
  rw[ZO,ZO,Ql]at h;obtain⟨h1,h2⟩:=PV h.2;unfold JF;rw[h1,ZO,ZO,h2,h.1];exact⟨rfl,rfl⟩
end M
namespace Pu
open PySem PySem.Spec PyProof.Rows L2 Own
section
variable {K:Za}{mg:Str->Option Value}{E:L2.St->XK}{H0 H H1 H':Hp}{B Z Z':Addr->Prop}{σ:L2.St}{γ:Γ}
abbrev PTW:=Γ->(Γ->D->Prop)->(Γ->Str->Prop)->Prop
variable {te:TE}{w:PTW}
def Ba{α:Type}:∀{l:List α}{i j:Nat}{x:α},l.Nodup->l[i]?=some x->l[j]?=some x->i=j
 |[],_,_,_,_,h,_=>by simp at h
 |y::r,0,0,_,_,_,_=>rfl
 |y::r,0,j+1,x,hn,h1,h2=>by
  have e:y=x:=by simpa using h1
  exact absurd (e▸Yb (show r[j]?=some x by simpa using h2)) (Yi.mp hn).1
 |y::r,i+1,0,x,hn,h1,h2=>by
  have e:y=x:=by simpa using h2
  exact absurd (e▸Yb (show r[i]?=some x by simpa using h1)) (Yi.mp hn).1
 |y::r,i+1,j+1,x,hn,h1,h2=>Yg (· + 1) (Ba (l:=r) (Yi.mp hn).2 (by simpa using h1) (by simpa using h2))
end
def len1{α:Type}{us:List α}(h:us.length=1):∃a,us=[a]:=List.length_eq_one_iff.mp h
def len2{α:Type}{us:List α}(h:us.length=2):∃a b,us=[a,b]:=by
 cases us with
 |nil=>cases h
 |cons a r=>obtain⟨b,rfl⟩:=len1 (us:=r) (by simpa using h);exact⟨a,b,rfl⟩
def len3{α:Type}{us:List α}(h:us.length=3):∃a b c,us=[a,b,c]:=by
 cases us with
 |nil=>cases h
 |cons a r=>obtain⟨b,c,rfl⟩:=len2 (us:=r) (by simpa using h);exact⟨a,b,c,rfl⟩
def len4{α:Type}{us:List α}(h:us.length=4):∃a b c d,us=[a,b,c,d]:=by
 cases us with
 |nil=>cases h
 |cons a r=>obtain⟨b,c,d,rfl⟩:=len3 (us:=r) (by simpa using h);exact⟨a,b,c,d,rfl⟩
def len5{α:Type}{us:List α}(h:us.length=5):∃a b c d e,us=[a,b,c,d,e]:=by
 cases us with
 |nil=>cases h
 |cons a r=>obtain⟨b,c,d,e,rfl⟩:=len4 (us:=r) (by simpa using h);exact⟨a,b,c,d,e,rfl⟩
abbrev PTF:=Γ->Str->(Str->Prop)->XR->Prop
open M
abbrev plD(f:List (Int×Int)):D:=.lst (f.map prD)
def two_ne{o r p:Int}(h1:0<=o/\o<p)(h2:0<=r/\r<p-1):(0<=(o+1+r) % p/\(o+1+r) % p<p)/\o≠(o+1+r) % p:=by
 refine⟨⟨W7 _ (by omega),Wp _ (by omega)⟩,?_⟩;by_cases h:o+1+r<p
 ·rw[WT (by omega) h];omega
 ·rw[←Int.sub_emod_right,WT (by omega) (by omega)];omega
end Pu
namespace Pu
open PySem PySem.Spec PyProof.Rows L2 Own
structure DI (K:Za) (x:Str) (st:Stmt):Prop where
 ex:∃f fd,PySem.W.nsIn K mainGlobals x=some (some (.ref f))/\Fun K x x st f fd
section
variable {K:Za}{h:Heap}{mg:Str->Option Value}
def di{x:Str}{st:Stmt}{f:Addr}{oc:Value}{od an:Option Addr}{osl:Array (Option Value)}{kV doc pm cdv ct:Value}(a:PySem.W.nsIn K mainGlobals x=some (some (.ref f)))(l:K.lookup f=some ⟨oc,od,.func (PySem.W.fnOf x x (Jr st) (VP st) (QO st) .none kV doc pm an cdv ct),osl⟩)(c:PySem.W.codeIn K cdv x=true)(k:PySem.W.keepIn K (.ref f)=true):DI K x st:=⟨f,_,a,N3 l c k⟩
def DI.d {x:Str}{st:Stmt}{ps:List Str} (D:DI K x st) (X:K.In h) (G0:h.Ns mainGlobals mg)
  (b:∀(kV doc pm:Value) (an:Option Addr) (cdv ct:Value) (us:List Value),us.length=ps.length->bindArgs (PySem.W.fnOf x x (Jr st) (VP st) (QO st) .none kV doc pm an cdv ct) ⟨us,[]⟩=pure (ps.zip us)):Def K mg x st ps:=
 let ⟨_,_,a,F⟩:=D.ex
 ⟨_,_,F,Qw X G0 a,F.binds b⟩
end
def fs{N P:List Str}{sc:Scope}(h1:sc.kind=.function:=by rfl)(h2:sc.isCoroutine=false:=by rfl)(h3:sc.isGenerator=false:=by rfl)(h4:N.Nodup:=by decide +kernel)(h5:N.take P.length=P:=by rfl)(h6:∀x∈P,sc.names.lookup x=some .local\/sc.names.lookup x=some .cell:=by decide +kernel)(h7:∀y∈sc.names,y.2≠.free:=by decide +kernel):FnScope N P sc:=⟨h1,h2,h3,h4,h5,h6,h7⟩
def pz{X:Cx}{pos:Pos}{x:Str}{e:Expr}{te:TE}{pos':Pos}(i:Nat)(hN:X.N.Nodup)(he:PE X e te)(hi:X.N[i]?=some x:=by rfl)(hx:Loc X.env.scope x:=by first|exact Or.inl rfl|exact Or.inr rfl)(hs:swapsWith e (some (.Name x pos')) pos.line X.env=pure false:=by rfl)(hf:X.fn x=true\/X.env.scope.names.lookup x=some .local:=by first|exact .inl rfl|exact .inr rfl|assumption) :
  PS X (.Assign [.Name x pos'] e pos) (tAsg te (JM i)):=Ci hN hi hx he hs hf
section
variable {K:Za}{mg:Str->Option Value}{E:L2.St->XK}{H0 H H1 H':Hp}{B Z Z':Addr->Prop}{σ:L2.St}{γ:Γ}
def two(o1 o2:O)(a1 a2:Addr):Addr->Prop:=fun b=>o1.adr a1 b\/o2.adr a2 b
end
section
variable {X:Cx}{k j:Nat}{x:Str}{ps:List Str}{sp:Sp}{e a b c:Expr}{es:List Expr}{t:TA}{te tf tg:TE}{p pos:Pos}
def fz(C:Callee X.prog X.w X.K X.mg X.base CX0 k x ps sp)(hr:Room j X.A)(ha:PA X (e::es) t)(hk:k<=j:=by decide)(hg:Gl X x:=by rfl)(hdb:(x==("__debug__" : Str))=false:=by decide)(he:starEach (e::es) X.env=(false,eval e X.env)::starEach es X.env:=by rfl)(hpl:(backTo pos (starEach es X.env)).any (·.1)=false:=by rfl) :
  PE X (.Call (.Name x p) (e::es) [] pos) (UL sp [] E0 t):=VL C (hr.mono hk) VG ha hg hdb he hpl
def jx(K:Za)(ha:PE X a te)(hb:PE X b tf)(hK:X.K=K:=by rfl)(hs:N8 b:=by intro _ _;rfl):PE X (.Subscript a b pos) (tOp (fun x y H Q=>rIxL K x y H Q\/rIxT K x y H Q) te tf):=Vc (Ut hK) ha hb hs
def gz(i:Nat)(hN:X.N.Nodup)(hi:X.N[i]?=some x:=by rfl)(hx:Loc X.env.scope x:=by first|exact Or.inl rfl|exact Or.inr rfl)(hf:X.fn x=true\/X.env.scope.names.lookup x=some .local:=by first|exact .inl rfl|exact .inr rfl|assumption):PG X (.Name x pos) (JM i):=V1 hN hi hx hf
def ln(K:Za)(hm:X.mg "len"=none)(ha:PE X a te)(hK:X.K=K:=by rfl)(hg:Gl X "len":=by rfl)(hs:starEach [a] X.env=(false,eval a X.env)::starEach [] X.env:=by rfl)(hpl:(backTo pos (starEach [] X.env)).any (·.1)=false:=by rfl) :
  PE X (.Call (.Name "len" p) [a] [] pos) (tCB (fun xs H Q=>∃x n,xs=[x]/\LenV K x H n/\Q (.int (n:Nat)) H) (Vu te tNil)):=Vk (BB hK) hg hm YQ (QF ha QM hs) (by decide) (by decide) hs hpl
def cq(K:Za)(hr:Room j X.A)(ha:PE X a te)(hb:PE X b tf)(hK:X.K=K:=by rfl):PT X (.Compare a [.Eq] [b] pos) (UN (tOp (fun x y H Q=>rEq x y H Q\/rEqL K false x y H Q) te tf)):=Ve (TM hr.units0 hK) ha hb (Vv _)
def cn(K:Za)(hr:Room j X.A)(ha:PE X a te)(hb:PE X b tf)(hK:X.K=K:=by rfl):PT X (.Compare a [.NotEq] [b] pos) (UN (tOp (fun x y H Q=>rNe x y H Q\/rEqL K true x y H Q) te tf)):=Ve (CI hr.units0 hK) ha hb (Vv _)
def az(ha:PE X a te)(h1:starEach [a] X.env=(false,eval a X.env)::starEach [] X.env:=by rfl):PA X [a] (Vu te tNil):=QF ha QM h1
def bz(ha:PE X a te)(hb:PE X b tf)(h1:starEach [a,b] X.env=(false,eval a X.env)::starEach [b] X.env:=by rfl)(h2:starEach [b] X.env=(false,eval b X.env)::starEach [] X.env:=by rfl):PA X [a,b] (Vu te (Vu tf tNil)):=QF ha (QF hb QM h2) h1
def dz(ha:PE X a te)(hb:PE X b tf)(hc:PE X c tg)(h1:starEach [a,b,c] X.env=(false,eval a X.env)::starEach [b,c] X.env:=by rfl)(h2:starEach [b,c] X.env=(false,eval b X.env)::starEach [c] X.env:=by rfl)(h3:starEach [c] X.env=(false,eval c X.env)::starEach [] X.env:=by rfl):PA X [a,b,c] (Vu te (Vu tf (Vu tg tNil))):=QF ha (QF hb (QF hc QM h3) h2) h1
end
section
variable {K:Za}{mg:Str->Option Value}{E:L2.St->XK}{ta tb tc:TE}{a b c:PTE}
def sz(ha:SndE K mg E ta a):SndA K mg E (Vu ta tNil) (J4 a pNil):=V3 ha Jd
def tz(ha:SndE K mg E ta a)(hb:SndE K mg E tb b):SndA K mg E (Vu ta (Vu tb tNil)) (J4 a (J4 b pNil)):=V3 ha (sz hb)
def uz(ha:SndE K mg E ta a)(hb:SndE K mg E tb b)(hc:SndE K mg E tc c):SndA K mg E (Vu ta (Vu tb (Vu tc tNil))) (J4 a (J4 b (J4 c pNil))):=V3 ha (tz hb hc)
end
section
variable {K:Za}{h:Heap}{mg:Str->Option Value}{C C':Addr}{x m q:Str}{st:Stmt}{ps:List Str}
abbrev Bd(x q:Str)(st:Stmt)(ps:List Str):Prop:=∀(kV doc pm:Value) (an:Option Addr) (cdv ct:Value) (us:List Value),us.length=ps.length->bindArgs (PySem.W.fnOf x q (Jr st) (VP st) (QO st) .none kV doc pm an cdv ct) ⟨us,[]⟩=pure (ps.zip us)
def DI.e (D:DI K x st) (X:K.In h) (G0:h.Ns mainGlobals mg) (b:Bd x x st ps:=by
  intro _ _ _ _ _ _ us hl
  first
   |(obtain⟨_,rfl⟩:=Pu.len1 hl;rfl)
   |(obtain⟨_,_,rfl⟩:=Pu.len2 hl;rfl)
   |(obtain⟨_,_,_,rfl⟩:=Pu.len3 hl;rfl)
   |(obtain⟨_,_,_,_,rfl⟩:=Pu.len4 hl;rfl)
   |(obtain⟨_,_,_,_,_,rfl⟩:=Pu.len5 hl;rfl)):Def K mg x st ps:=D.d X G0 b
end
section
variable {P:Program}{w:World}{K:Za}{mg:Str->Option Value}{base:Heap}{N ps:List Str}{sp:Sp}{p:PTS}{x q:Str}{st:Stmt}{k:Nat}{W:Addr->Prop}
structure Uz (K:Za) (mg:Str->Option Value) (N ps:List Str) (sp:Sp) (p:PTS):Prop where
 len:∀vs H Q E,sp vs H Q E->vs.length=ps.length
 run:∀vs H Q E t,sp vs H Q E->SndS K mg (fun _=>E) t p->t {nx:=fun _ H'=>Q .non H',rt:=Q} (start N vs) H
def Uz.a {c:Pc} (hp:∀ds R X,c ds R X->ds.length=ps.length/\p {nx:=fun _=>R (.sh .non),rt:=R,ex:=fun _ e=>X e} (Je N ds)) (hn:ps.length<=N.length:=by decide):Uz K mg N ps (spOf mg c K) p:=
 ⟨fun _ _ _ _ h=>BM h fun ds R X z=>(hp ds R X z).1,fun _ _ _ _ _ h s=>FS h s hn hp⟩
def _root_.Own.Def.oz (D:Def K mg x st ps) (S:FnScope N ps (QO st))
  (tr:∀(f:Addr) (cdv:Value) (A:Around) (outer:List Env) (s:Shared) (H:Hp) (E:XK),Room k (A.deeper (envOfC x (QO st) s.heap.objs.size f cdv))->
   ∃t,PSs (cxOf CX0 P w K mg base N x (QO st) f cdv A outer s H E).nox (VP st) t/\SndS K mg (fun _=>E) t p) (u:Uz K mg N ps sp p):Callee P w K mg base CX0 (k+1) x ps sp:=
 D.ok S u.len fun f cdv A outer s H vs Q E hr h=>(tr f cdv A outer s H E hr).elim fun t z=>⟨t,z.1,u.run _ _ _ _ _ h z.2⟩
end
section
variable {K:Za}{h:Heap}{mg:Str->Option Value}{x:Str}{C:Addr}
structure EI (K:Za) (x:Str) (C:Addr):Prop where
 a:PySem.W.nsIn K mainGlobals x=some (some (.ref C))
 g:ExcR.ErrGet K C
def ei{d:ClassData}(a:PySem.W.nsIn K mainGlobals x=some (some (.ref C)))(q:PySem.W.excIn K C [.type "ValueError",.type "Exception",.type "BaseException",.type "object"] "ValueError.__new__"=true)(ga:PySem.W.findIn K (.ref C) "__getattribute__"=some (some (.builtin "BaseException.__getattribute__")))(gt:PySem.W.findIn K (.ref C) "__getattr__"=some none)(cl:PySem.W.findIn K (.ref C) "__class__"=some (some (.builtin "object.__class__")))(i:PySem.W.clsIn K C=some d):EI K x C:=⟨a,⟨⟨q⟩,ga,gt,cl,by rw[i];rfl⟩⟩
end
section
variable {K:Za}{mg:Str->Option Value}{E:L2.St->XK}{H0 H H1 H':Hp}{B Z Z':Addr->Prop}{σ:L2.St}{γ:Γ}
def Df{cs:List (Addr×List D)}{k:Int}{j:Nat}{c:Addr×List D}(h1:ixN cs.length k=some j)(h2:cs[j]?=some c):atI (cs.map fun c=>V.ref c.1) k=some (.ref c.1):=by
 unfold atI;rw[Z6,h1];show(cs.map fun c=>V.ref c.1)[j]?=_;rw[ZD,h2];rfl
end
end Pu
namespace Own
open PySem PySem.Spec PyProof.Rows L2
section
variable {X:Cx}{K:Za}
def Pi(hK:X.K=K:=by rfl):PGet X (rIxL K):=by
 subst hK;intro pins s σ H x y v u Q I rx ry h;obtain⟨p,xs,i,z,rfl,rfl,hq,he,q⟩:=h;cases rx
 obtain⟨t,rfl⟩:=ry;obtain⟨its,r,pl,hz⟩:=I.list hq;obtain⟨j,h1,h2,h3,h4,h5⟩:=KR he;obtain⟨w,ew,rw'⟩:=r.get h2;have hl:=r.length;have hn:=JV;have fin:EP X pins σ Q w s:=⟨z,H,I,rw',q⟩;by_cases h0:0<=i
 ·have hj:i.toNat=j:=by
   rw[seqIndex_of h0 h5]at h1;exact ZE h1
  exact wpAny_getItem_list pl.isList h0 (by omega) (by rw[hj];simpa using ew) fin
 ·have hj:(i+(its.toArray.size:Int)).toNat=j:=by
   rw[seqIndex_neg (by omega) h4]at h1;rw[ZI,←hl];exact ZE h1
  exact wpAny_getItem_list_neg pl.isList (by omega) (by rw[ZI]<;>omega) (by omega) (by rw[hj];simpa using ew) fin
end
end Own
namespace Pu
open PySem PySem.Spec PyProof.Rows L2 Own
section
variable {K:Za}{mg:Str->Option Value}{E:L2.St->XK}{H0 H H1 H':Hp}{B Z Z':Addr->Prop}{σ:L2.St}{γ:Γ}
def K1{ta tb:TE}{a b:PTE}(ha:SndE K mg E ta a)(hb:SndE K mg E tb b):SndE K mg E (tOp (rI CPow fun i j=>.int (i*2 ^ j.toNat)) ta tb) (p2 a b (fI CPow fun i j=>.int (i*2 ^ j.toNat))):=se_I (fun _ _ _=>.int _) ha hb
def Cr{ta tb:TE}{a b:PTE}(ha:SndE K mg E ta a)(hb:SndE K mg E tb b):SndE K mg E (tOp (rI (fun _ j=>0<=j) fun i j=>.int (i / 2 ^ j.toNat)) ta tb) (p2 a b (fI (fun _ j=>0<=j) fun i j=>.int (i / 2 ^ j.toNat))):=se_I (fun _ _ _=>.int _) ha hb
def TU{ta tb:TE}{a b:PTE}(ha:SndE K mg E ta a)(hb:SndE K mg E tb b):SndE K mg E (tOp (rI0 fun i j=>.int (Builtin.bitAnd i j)) ta tb) (p2 a b (fI0 fun i j=>.int (Builtin.bitAnd i j))):=Uw (fun _ _ _=>.int _) ha hb
def PF(i:Nat)(f:Int->Int->Int)(b a:PTE):PTS:=fun R γ=>match γ[i]? with
 |some (some (.own (.lst ds)))=>b γ (fun y=>match y.d with
  | .int k=>∃j x,ixN ds.length k=some j/\ds[j]?=some (.int x)/\a γ (fun s=>match s.d with
   | .int z=>R.nx (γ.set i (some (.own (.lst (ds.set j (.int (f x z)))))))
   |_=>False) (R.ex γ)
  |_=>False) (R.ex γ)
 |_=>False
def Bv(i:Nat){f:Int->Int->Int}{tb te:TE}{a b:PTE}(hb:SndE K mg E tb b)(ha:SndE K mg E te a):SndS K mg E (KF (tVar i) tb te (rIxL K) (rI0 fun i j=>.int (f i j)) XQ) (PF i f b a):=by
 intro H0 B H σ γ R D hB env h e;have hx:∀c H',R.ex γ c->Same H H'->E σ (.ref (ExcR.VM mg c)) none H':=fun c H' hc S'=>e.ex σ γ c H' hc (env.grow S') (Fr.grow S');unfold PF at h;split at h
 ·rename_i ds hi;obtain⟨v,hv,l,rfl,hb0,us,hl,ru⟩:=env.slot i _ hi;refine⟨_,hv,hb H0 B H σ γ _ _ _ env h (fun y w H1 h1 S1 t1=>?_) hx⟩;have env1:=env.grow S1;have ry:=t1.rp env1.same;split at h1
  ·rename_i k ek;rw[ek]at ry;obtain⟨j,x,h3,h4,h5⟩:=h1;obtain⟨u0,g1,g2⟩:=ru.get h4;have eu:=g2.int_inv;subst eu;refine⟨l,us,k,.int x,rfl,ry.int_inv,SqL.of (S1 _ _ hl),?_,?_⟩
   ·unfold atI;rw[ru.len,h3];exact g1
   refine ha H0 B H1 σ γ _ _ _ env1 h5 (fun s u H2 h2 S2 t2=>?_) fun c H' hc S'=>hx c H' hc (S1.trans S');have env2:=env1.grow S2;have rs:=t2.rp env2.same;split at h2
   ·rename_i z ez;rw[ez]at rs;refine⟨x,z,rfl,rs.int_inv,?_⟩;refine⟨l,us,k,j,rfl,ry.int_inv,(S1.trans S2) _ _ hl,by rw[ru.len];exact h3,?_⟩;obtain⟨e2,f2⟩:=env2.mutate (es:=.lst (ds.set j (.int (f x z)))) (us:=.lst (us.set j (.int (f x z)))) hi hv trivial fun F H' SF hF=>⟨_,hF,Rps.mono SF (Rps.set (.int _) j (Rps.mono (QV (S1.trans S2) fun _ _ _ z=>z) ru))⟩;exact e.nx _ _ _ h2 e2 ((Fr.grow (S1.trans S2)).trans f2)
   ·exact h2.elim
  ·exact h1.elim
 ·exact h.elim
def EnvR.cellL {i j:Nat}{x:Addr}{cs:List (Addr×List D)}{b:Addr}{ds es:List D}{us:List V} (env:EnvR K H0 B H σ γ) (hi:γ[i]?=some (some (.own (.nsl x cs)))) (hj:cs[j]?=some (b,ds)) (r:Rps K (off (zof B γ σ) H) es us) :
  EnvR K H0 B (upd H b (.lst us)) σ (γ.set i (some (.own (.nsl x (cs.set j (b,es))))))/\Fr B H σ γ (upd H b (.lst us)) σ (γ.set i (some (.own (.nsl x (cs.set j (b,es)))))):=by
 obtain⟨v,hv,a,rfl,e0,e1,e3,e4,e5⟩:=env.slot i _ hi;subst e1;have hjl:j<cs.length:=(ZP.mp hj).1;have hbm:(b,ds)∈cs:=Yb hj;have e6:=Yi.mp e5;have hab:a≠b:=fun z=>e6.1 (ZS.mpr ⟨_,hbm,z.symm⟩)
 have em:(cs.set j (b,es)).map (·.1)=cs.map (·.1):=by
  apply Qy;intro k;rw[ZD,ZD,List.getElem?_set];by_cases e:j=k
  ·subst e;rw[ZH rfl,ZH hjl,hj];rfl
  ·rw[ZG e]
 have em2:(cs.set j (b,es)).map (fun c=>V.ref c.1)=cs.map fun c=>V.ref c.1:=by
  have:=Yg (List.map V.ref) em
  rw[Yr,Yr]at this;exact this
 have adr:∀c,(O.nsl a (cs.set j (b,es))).adr a c->(O.nsl a cs).adr a c:=fun c hc=>by
  rcases hc with hc|⟨d,hd,hc⟩
  ·exact .inl hc
  ·have:d.1∈(cs.set j (b,es)).map (·.1):=Qr hd
   rw[em]at this;obtain⟨d',q1,q2⟩:=ZS.mp this;exact .inr ⟨d',q1,hc.trans q2.symm⟩
 have zb:∀c,(O.nsl a cs).adr a c->zof B γ σ c:=fun c hc=>.inr ⟨i,_,a,hi,hv,hc⟩
 have So:Same (off (zof B γ σ) H) (off (zof B (γ.set i (some (.own (.nsl a (cs.set j (b,es)))))) σ) (upd H b (.lst us))):=fun c u h=>by
  obtain⟨q1,q2⟩:=Jj h;have nb:c≠b:=fun z=>q2 (zb c (.inr ⟨_,hbm,z⟩));refine Vt (by rw[QS nb];exact q1) fun z=>q2 ?_;rcases z with z|⟨k,fs,a',k1,k2,k3⟩
  ·exact .inl z
  ·rcases Vi k1 with⟨ek,q,_⟩|⟨_,e⟩
   ·subst ek;cases q
    rw[hv]at k2;cases k2
    exact zb c (adr c k3)
   ·exact .inr ⟨k,fs,a',e,k2,k3⟩
 refine env.change hi hv (fun c u hu n=>?_) (fun c hc=>?_) (fun c hc=>.inl (adr c hc)) ⟨rfl,?_,fun c hc=>?_,by rw[em];exact e5⟩
 ·rw[QS fun z=>n (.inr ⟨_,hbm,z⟩)];exact hu
 ·by_cases z:c=b
  ·rw[z,QR];trivial
  ·rw[QS z];exact env.zm c (zb c hc)
 ·rw[em2,QS hab];exact e3
 ·obtain⟨k,hk,ek⟩:=List.getElem_of_mem hc;have hk':(cs.set j (b,es))[k]?=some c:=by rw[Z5 hk,ek]
  rcases Vi hk' with⟨_,q,_⟩|⟨nk,q⟩
  ·subst q;exact⟨us,QR,Rps.mono So r⟩
  ·obtain⟨ws,w1,w2⟩:=e4 c (Yb q)
   have nb:c.1≠b:=fun z=>nk (by
    have h1:(cs.map (·.1))[k]?=some b:=by rw[ZD,q];exact Yg some z
    have h2:(cs.map (·.1))[j]?=some b:=by rw[ZD,hj];rfl
    exact Ba e6.2 h1 h2)
   exact⟨ws,by rw[QS nb];exact w1,Rps.mono So w2⟩
def TJ(i:Nat)(f:Int->Int->Int)(c b a:PTE):PTS:=fun R γ=>match γ[i]? with
 |some (some (.own (.nsl x0 cs)))=>c γ (fun z=>match z.d with
  | .int k=>∃j e,ixN cs.length k=some j/\cs[j]?=some e/\b γ (fun y=>match y.d with
   | .int n=>∃m x,ixN e.2.length n=some m/\e.2[m]?=some (.int x)/\a γ (fun s=>match s.d with
    | .int z=>R.nx (γ.set i (some (.own (.nsl x0 (cs.set j (e.1,e.2.set m (.int (f x z))))))))
    |_=>False) (R.ex γ)
   |_=>False) (R.ex γ)
  |_=>False) (R.ex γ)
 |_=>False
def Ei(i:Nat){f:Int->Int->Int}{tc tb te:TE}{a b c:PTE}(hc:SndE K mg E tc c)(hb:SndE K mg E tb b)(ha:SndE K mg E te a) :
  SndS K mg E (KF (tOp (fun x y H Q=>rIxL K x y H Q\/rIxT K x y H Q) (tVar i) tc) tb te (rIxL K) (rI0 fun i j=>.int (f i j)) XQ) (TJ i f c b a):=by
 intro H0 B H σ γ R D hB env h e;have hx:∀c H',R.ex γ c->Same H H'->E σ (.ref (ExcR.VM mg c)) none H':=fun c H' hc S'=>e.ex σ γ c H' hc (env.grow S') (Fr.grow S');unfold TJ at h;split at h
 ·rename_i x0 cs hi;obtain⟨v,hv,l,rfl,e0,e1,e3,e4,e5⟩:=env.slot i _ hi;refine⟨_,hv,hc H0 B H σ γ _ _ _ env h (fun z w H1 h1 S1 t1=>?_) hx⟩;have env1:=env.grow S1;have rz:=t1.rp env1.same;split at h1
  ·rename_i k ek;rw[ek]at rz;obtain⟨j,c0,h3,h4,h5⟩:=h1;obtain⟨us,u1,u2⟩:=e4 c0 (Yb h4);refine .inl ⟨l,_,k,.ref c0.1,rfl,rz.int_inv,SqL.of (S1 _ _ e3),Df h3 h4,?_⟩;refine hb H0 B H1 σ γ _ _ _ env1 h5 (fun y w' H2 h6 S2 t2=>?_) fun c H' hc S'=>hx c H' hc (S1.trans S');have env2:=env1.grow S2;have S12:=S1.trans S2;have ry:=t2.rp env2.same;split at h6
   ·rename_i n en;rw[en]at ry;obtain⟨m,x,h7,h8,h9⟩:=h6;obtain⟨u0,g1,g2⟩:=u2.get h8;have eu:=g2.int_inv;subst eu;refine⟨c0.1,us,n,.int x,rfl,ry.int_inv,SqL.of (S12 _ _ u1),?_,?_⟩
    ·unfold atI;rw[u2.len,h7];exact g1
    refine ha H0 B H2 σ γ _ _ _ env2 h9 (fun s u H3 h10 S3 t3=>?_) fun c H' hc S'=>hx c H' hc (S12.trans S');have env3:=env2.grow S3;have S13:=S12.trans S3;have rs:=t3.rp env3.same;split at h10
    ·rename_i z ez;rw[ez]at rs;refine⟨x,z,rfl,rs.int_inv,?_⟩;refine⟨c0.1,us,n,m,rfl,ry.int_inv,S13 _ _ u1,by rw[u2.len];exact h7,?_⟩;obtain⟨k1,k2⟩:=env3.cellL (es:=c0.2.set m (.int (f x z))) (us:=us.set m (.int (f x z))) hi h4 (Rps.set (.int _) m (Rps.mono (QV S13 fun _ _ _ z=>z) u2));exact e.nx _ _ _ h10 k1 ((Fr.grow S13).trans k2)
    ·exact h10.elim
   ·exact h6.elim
  ·exact h1.elim
 ·exact h.elim
structure CompNW (φ:List (Option Nat)) (γ:Γ) (g:PTG) (c:PTT) (e:PTE) (n:Nat) (item:Nat->S) (R:S->Prop):Prop where
 w:n<=100000/\∃f:Nat->List D,(∀i,i<n->g (item i) (atP φ γ) fun γ2=>c γ2 (fun b=>b=true/\e γ2 (fun s=>s=.own (.lst (f i))/\imms (f i)=true) (fun _=>False)) (fun _=>False))/\∀(x:Addr) (cs:List (Addr×List D)),cs.map (·.2)=(List.range n).map f->R (.own (.nsl x cs))
def CH(φ:List (Option Nat))(it:PTI)(g:PTG)(c:PTT)(e:PTE):PTE:=fun γ R X=>it γ (fun n item=>CompNW φ γ g c e n item R) X
def Ax{φ:List (Option Nat)}{is:List Nat}{wi:TI}{g:TG}{tc:TT}{te:TE}{it:PTI}{pg:PTG}{c:PTT}{a:PTE}(hi:Xl K mg E wi it)(hg:Jz K is g pg)(hc:SndT K mg E tc c)(he:SndE K mg E te a)(h1:(φ.filterMap id).Nodup:=by decide)(h2:∀j∈is,φ[j]?=some none:=by decide):SndE K mg E (JX φ wi g tc te) (CH φ it pg c a):=by
 intro H0 B H σ γ R X Q env h q qx;refine hi H0 B H σ γ _ X _ env h (fun n item J H1 h1' S1 ok=>?_) qx;obtain⟨hn,f,hf,hR⟩:=h1'.w;have env1:=env.grow S1;have hbig:n<=sizeLine:=ZW hn (by decide);intro L nL
 refine⟨fun i m ys H2=>m=n-i/\i<=n/\Same H1 H2/\H2 L=some (.lst ys)/\∃cs:List (Addr×List D),ys=cs.map (fun c=>V.ref c.1)/\cs.map (·.2)=(List.range i).map f/\(∀c∈cs,H c.1=none/\imms c.2=true/\∃vs,H2 c.1=some (.lst vs)/\Rps K (off (fun b=>b=L) H2) c.2 vs)/\(L::cs.map (·.1)).Nodup,
  ⟨n,by simp,Y0 _,QX nL,QR,[],rfl,rfl,(fun c hc=>nomatch hc),by simp⟩,?_⟩
 rintro i m ys H2 ⟨rfl,hin,S2,hL,cs,rfl,ec,hcs,hnd⟩;have env2:=env1.grow S2;by_cases hlt:i<n
 ·have envI2:=NZ (φ:=φ) env1 S2 nL ⟨_,hL⟩ h1;obtain⟨go,yl⟩:=ok.go i H2 _ hlt S2 ⟨env2.same,envI2.zm,fun b o hb z=>⟨S2 _ _ hb,Ko env1 nL b o hb z⟩⟩;refine .inr ⟨go,fun x H3 y=>?_⟩;obtain⟨S3,tv⟩:=yl x H3 y;refine hg H0 _ H2 H3 _ _ _ _ _ _ envI2 S3 tv (hf i hlt) fun σ2 γ2 p2 e2 f2 k2=>⟨?_,?_⟩
  ·refine Sub.of (is:=is) k2.2 k2.1 fun j hj v z=>?_;obtain⟨k,k1,_⟩:=X3 z;rw[h2 j hj]at k1;cases k1
  ·refine hc H0 _ H3 σ2 γ2 _ _ _ e2 p2 (fun b H5 q5 S5=>?_) fun _ _ z=>z.elim;have e5:=e2.grow S5;obtain⟨rfl,q5⟩:=q5;rw[ZH rfl];refine he H0 _ H5 σ2 γ2 _ _ _ e5 q5 (fun s v H6 q6 S6 t6=>?_) fun _ _ z=>z.elim;obtain⟨rfl,him⟩:=q6;obtain⟨a,rfl,a0,vs,a1,a2⟩:=t6;have S25:=S3.trans S5;have S26:=S25.trans S6;have na:H5 a=none:=a0 a rfl;have aL:a≠L:=fun z=>by have:=S25 _ _ hL;rw[←z,na]at this;cases this
   have hlen:(cs.map fun c=>V.ref c.1).length<=i:=by
    have:=Yg List.length ec
    rw[Z6,Z6,YX]at this;rw[Z6];omega
   have So:Same (off (fun b=>b=L) H6) (off (fun b=>b=L) (upd H6 L (.lst ((cs.map fun c=>V.ref c.1)++[V.ref a])))):=fun b o h=>by
    obtain⟨k1,k2⟩:=Jj h;exact Vt (by rw[QS k2];exact k1) k2
   refine⟨S26 _ _ hL,by omega,n-(i+1),by omega,rfl,hlt,fun b o hb=>?_,QR,cs++[(a,f i)],by rw[Yh];rfl,by rw[Yh,ec,YH,Yh];rfl,fun c hc=>?_,?_⟩
   ·rw[QS (V2 hb nL)];exact S26 _ _ (S2 _ _ hb)
   ·rcases ZU.mp hc with hc|hc
    ·obtain⟨k1,k2,us,k3,k4⟩:=hcs c hc;have cL:c.1≠L:=fun z=>(Yi.mp hnd).1 (ZS.mpr ⟨c,hc,z⟩);exact⟨k1,k2,us,by rw[QS cL];exact S26 _ _ k3,Rps.mono So (Rps.mono (QV S26 fun _ _ _ z=>z) k4)⟩
    ·rw[ZA.mp hc];refine⟨(S1.trans (S2.trans S25)).free na,him,vs,by rw[QS aL];exact a1,Rps.mono So (Rps.off (fun b z=>?_) (Rps.mono off_sub a2) him)⟩;rw[z,S26 _ _ hL];trivial
   ·rw[Yh];show((L::cs.map (·.1))++[a]).Nodup;refine Y5.mpr ⟨hnd,by simp,fun b hb d hd z=>?_⟩;rw[ZA.mp hd]at z;rcases ZT.mp hb with k|k
    ·exact aL (z.symm.trans k)
    ·obtain⟨c,hc,ec⟩:=ZS.mp k;obtain⟨_,_,us,k3,_⟩:=hcs c hc
     have:=S25 _ _ k3
     rw[ec,z,na]at this;cases this
 ·have:i=n:=by omega
  subst this
  have hm:∀b,zof B γ σ b\/(O.nsl L cs).adr L b->Mut (H2 b):=fun b z=>by
   rcases z with z|z|⟨c,hc,z⟩
   ·exact env2.zm b z
   ·rw[z,hL];trivial
   ·obtain⟨_,_,us,k3,_⟩:=hcs c hc;rw[z,k3];trivial
  refine .inl ⟨ok.stop H2 _ S2 (Later.of env2 (Fr.grow S2)),q _ _ H2 (hR L cs ec) (S1.trans S2) ⟨L,rfl,fun b hb=>?_,rfl,hL,fun c hc=>?_,hnd⟩⟩
  ·rcases hb with hb|⟨c,hc,hb⟩
   ·rw[hb];exact S1.free nL
   ·rw[hb];exact(hcs c hc).1
  ·obtain⟨_,k2,us,k3,k4⟩:=hcs c hc;exact⟨us,k3,Rps.off hm (Rps.mono off_sub k4) k2⟩
end
end Pu
namespace M
open PySem PySem.Spec PyProof.Rows L2 Own Pu
def insN(n m:Nat):List Nat:=(List.range n).filter fun j=>m.testBit j
def insM(hs:List Int)(m:Nat):List Int:=(insN hs.length m).map fun j=>hs.getD j 0
def Xa{r:List Int}{h:Int}{j:Nat}(hj:j<r.length):(r++[h]).getD j 0=r.getD j 0:=by
 rw[Z7,Z7,Yd hj]
def Ti(r:List Int)(h:Int):(r++[h]).getD r.length 0=h:=by
 rw[Z7,Yl (ZF _),Nat.sub_self];rfl
def Xn{hs:List Int}{j:Nat}(h:j<hs.length):hs.getD j 0∈hs:=by
 rw[Z7,Z5 h];exact ZV h
def JZ{hs:List Int}(nd:hs.Nodup){i j:Nat}(hi:i<hs.length)(hj:j<hs.length)(e:hs.getD i 0=hs.getD j 0):i=j:=by
 rw[Z7,Z5 hi,Z7,Z5 hj]at e;exact(List.getElem_inj (h₀:=hi) (h₁:=hj) nd).mp e
def SN{r:List Int}{h:Int}{m:Nat}(hm:m<2 ^ r.length):insM (r++[h]) m=insM r m:=by
 unfold insM insN;rw[ZX,YE,YH,Wo];have e:([r.length].filter fun j=>m.testBit j)=[]:=by simp[Wu hm]
 rw[e,Wl];refine YC fun j hj=>?_;exact Xa (Yp.mp (ZQ.mp hj).1)
def NT{r:List Int}{h:Int}{m:Nat}(hm:m<2 ^ r.length):insM (r++[h]) (2 ^ r.length+m)=insM r m++[h]:=by
 unfold insM insN;rw[ZX,YE,YH,Wo];have e:([r.length].filter fun j=>(2 ^ r.length+m).testBit j)=[r.length]:=by simp[Nat.testBit_two_pow_add_eq,Wu hm]
 have e2:(List.range r.length).filter (fun j=>(2 ^ r.length+m).testBit j)=(List.range r.length).filter fun j=>m.testBit j:=
  List.filter_congr fun j hj=>Nat.testBit_two_pow_add_gt (Yp.mp hj) m
 rw[e,e2,Yh,Wq,Ti];congr 1;refine YC fun j hj=>?_;exact Xa (Yp.mp (ZQ.mp hj).1)
def insM_mem{hs:List Int}{m:Nat}{x:Int}:x∈insM hs m↔∃j,j<hs.length/\m.testBit j=true/\hs.getD j 0=x:=by
 unfold insM insN;rw[ZS];constructor
 ·rintro⟨j,hj,e⟩;obtain⟨h1,h2⟩:=ZQ.mp hj;exact⟨j,Yp.mp h1,h2,e⟩
 ·rintro⟨j,h1,h2,e⟩;exact⟨j,ZQ.mpr ⟨Yp.mpr h1,h2⟩,e⟩
def Sr{k m:Nat}(h:m<2 ^ (k+1))(h2:¬m<2 ^ k):∃m',m'<2 ^ k/\m=2 ^ k+m':=⟨m-2 ^ k,by rw[Nat.pow_succ]at h;omega,by omega⟩
def UB(hs:List Int):∀m,m<2 ^ hs.length->(QU hs)[m]?=some (insM hs m):=by
 refine J9 (P:=fun hs=>∀m,m<2 ^ hs.length->(QU hs)[m]?=some (insM hs m)) (fun m hm=>?_) (fun r h ih m hm=>?_) hs
 ·have:m=0:=by simpa using hm
  subst this;rfl
 ·rw[ZX,YE]at hm;rw[Jv];by_cases c:m<2 ^ r.length
  ·rw[Yd (by rw[VJ];exact c),ih m c,SN c]
  ·obtain⟨m',h1,rfl⟩:=Sr hm c;rw[Yl (by rw[VJ];omega),VJ,WO,ZD,ih m' h1,NT h1];rfl
def Cg{ms:List Int}{h l:Int}(ne:h≠l):QP (ms++[h]) l=QP ms l++[h]:=by
 unfold QP;rw[Wo];congr 1;simp[ne]
def Al{ms:List Int}{h:Int}(hn:h∉ms):QP (ms++[h]) h=ms:=by
 unfold QP;rw[Wo,Qp.mpr fun x hx=>ZC (show x≠h from fun e=>hn (e▸hx))]
 simp
def El(hs:List Int):hs.Nodup->∀m j,m<2 ^ hs.length->j<hs.length->m.testBit j=true->(QU hs)[m-2 ^ j]?=some (QP (insM hs m) (hs.getD j 0)):=by
 refine J9 (P:=fun hs=>hs.Nodup->∀m j,m<2 ^ hs.length->j<hs.length->m.testBit j=true->(QU hs)[m-2 ^ j]?=some (QP (insM hs m) (hs.getD j 0))) (fun _ m j _ hj _=>by simp at hj) (fun r h ih nd m j hm hj hb=>?_) hs;obtain⟨n1,_,n2⟩:=Y5.mp nd;have hnr:h∉r:=fun z=>n2 h z h (by simp) rfl;rw[ZX,YE]at hm hj;rw[Jv];by_cases c:m<2 ^ r.length
 ·have hjk:j<r.length:=by
   rcases Qk j r.length with z|z
   ·exact z
   ·have:j=r.length:=by omega
    rw[this,Wu c]at hb;cases hb
  rw[Yd (by rw[VJ];exact YS (Nat.sub_le _ _) c),ih n1 m j c hjk hb,SN c,Xa hjk]
 ·obtain⟨m',h1,rfl⟩:=Sr hm c;rw[NT h1];by_cases e:j=r.length
  ·rw[e,WO,Yd (by rw[VJ];exact h1),UB r m' h1,Ti,Al fun z=>?_];obtain⟨i,hi,_,ex⟩:=insM_mem.mp z;exact hnr (ex▸Xn hi)
  ·have hjk:j<r.length:=by omega
   rw[Nat.testBit_two_pow_add_gt hjk]at hb;have hge:=W8 hb;have hne:h≠r.getD j 0:=fun z=>hnr (z▸Xn hjk);rw[Xa hjk,Cg hne,Yl (by rw[VJ];omega),VJ,show 2 ^ r.length+m'-2 ^ j-2 ^ r.length=m'-2 ^ j by omega,ZD,ih n1 m' j h1 hjk hb];rfl
def Ta{hs:List Int}(nd:hs.Nodup)(m:Nat):(insM hs m).Nodup:=by
 unfold insM insN;rw[List.Nodup,List.pairwise_map];refine(List.Pairwise.and_mem.mp (List.nodup_range.filter _)).imp fun {a b} h e=>?_;have h1:=Yp.mp (ZQ.mp h.1).1;have h2:=Yp.mp (ZQ.mp h.2.1).1;exact h.2.2 (JZ nd h1 h2 e)
def Ac{ws:List (Int×Int)}{c:Int->Int->Int}{hs vs:List Int}(nd:hs.Nodup)(hw:∀q∈ws,q.1≠q.2)(hl:Ue hs ws)(T:TabV ws c (QU hs) vs){m:Nat}(h0:0<m)(hm:m<2 ^ hs.length) :
  (∀j,j<hs.length->m.testBit j=true->Vo ws (insM hs m) (hs.getD j 0)=true->vs.getD m 0<=vs.getD (m-2 ^ j) 0+((QP (insM hs m) (hs.getD j 0)).map (c · (hs.getD j 0))).sum)/\
  ∃j,j<hs.length/\m.testBit j=true/\Vo ws (insM hs m) (hs.getD j 0)=true/\vs.getD m 0=vs.getD (m-2 ^ j) 0+((QP (insM hs m) (hs.getD j 0)).map (c · (hs.getD j 0))).sum:=by
 have lv:vs.length=2 ^ hs.length:=T.1.trans (VJ hs);have at_:∀k,k<vs.length->vs[k]?=some (vs.getD k 0):=fun k hk=>by rw[Z7,Z5 hk];rfl
 have L:Least ws c (insM hs m) (vs.getD m 0):=T.2 m _ _ (UB hs m hm) (at_ m (by omega));have key:∀j,j<hs.length->m.testBit j=true->Least ws c (QP (insM hs m) (hs.getD j 0)) (vs.getD (m-2 ^ j) 0):=fun j hj hb=>T.2 _ _ _ (El hs nd m j hm hj hb) (at_ _ (by rw[lv];exact YS (Nat.sub_le _ _) hm))
 have idx:∀j,j<hs.length->hs.idxOf (hs.getD j 0)=j:=fun j hj=>by
  rw[Z7,Z5 hj];exact nd.idxOf_getElem j hj
 have hv:∀l∈insM hs m,Least ws c (QP (insM hs m) l) ((fun l=>vs.getD (m-2 ^ hs.idxOf l) 0) l):=fun l h=>by
  obtain⟨j,hj,hb,rfl⟩:=insM_mem.mp h;show Least _ _ _ (vs.getD (m-2 ^ hs.idxOf (hs.getD j 0)) 0);rw[idx j hj];exact key j hj hb
 have sub:(insM hs m).Sublist hs:=JY hs _ (Yb (UB hs m hm))
 have ne:insM hs m≠[]:=fun z=>by
  obtain⟨i,hi⟩:=Nat.exists_testBit_of_ne_zero (show m≠0 by omega)
  have hin:i<hs.length:=by
   rcases Qk i hs.length with k|k
   ·exact k
   ·have:=W8 hi
    have:=YJ (n:=2) (by decide) k
    omega
  have:=insM_mem.mpr ⟨i,hin,hi,rfl⟩
  rw[z]at this;cases this
 obtain⟨l0,hl0,hlast0⟩:=hl _ sub ne
 let g:=fun l=>vs.getD (m-2 ^ hs.idxOf l) 0+((QP (insM hs m) l).map (c · l)).sum
 have hA:((insM hs m).filter fun l=>Vo ws (insM hs m) l).map g≠[]:=fun z=>by
  have:l0∈(insM hs m).filter fun l=>Vo ws (insM hs m) l:=ZQ.mpr ⟨hl0,lastM_iff.mpr hlast0⟩
  rw[List.map_eq_nil_iff.mp z]at this;cases this
 obtain⟨i,hi,hmin⟩:=X8 _ hA;have hi':i<((insM hs m).filter fun l=>Vo ws (insM hs m) l).length:=by rw[Z6]at hi;exact hi
 have hmem:=ZQ.mp (ZV hi')
 have L2:=SY (M:=(((insM hs m).filter fun l=>Vo ws (insM hs m) l).map g)[i]) (Ta nd m) hw hv
  ⟨_,hmem.1,hmem.2,by rw[W5]⟩ (fun l h1 h2=>hmin _ (ZS.mpr ⟨l,ZQ.mpr ⟨h1,h2⟩,rfl⟩))
 have ev:=L.uniq L2;refine⟨fun j hj hb hlast=>?_,?_⟩
 ·have:=hmin _ (ZS.mpr ⟨hs.getD j 0,ZQ.mpr ⟨insM_mem.mpr ⟨j,hj,hb,rfl⟩,hlast⟩,rfl⟩)
  rw[←ev]at this;simp only[g]at this;rw[idx j hj]at this;exact this
 ·obtain⟨j,hj,hb,ej⟩:=insM_mem.mp hmem.1;refine⟨j,hj,hb,by rw[ej];exact hmem.2,?_⟩;rw[ev,W5];simp only[g];rw[←ej,idx j hj]
def AE(m j:Nat):Builtin.bitAnd ((m:Int) / 2 ^ ((j:Int)).toNat) 1=if m.testBit j=true then 1 else 0:=by
 have e:((m:Int) / 2 ^ ((j:Int)).toNat)=((m / 2 ^ j:Nat):Int):=by
  rw[ZN,Int.natCast_ediv,Qm];rfl
 rw[e,PyProof.Rows.bitAnd_pp (Int.natCast_nonneg _) (by decide),ZN,show(1:Int).toNat=1 from rfl,Nat.and_one_is_mod,Nat.testBit_eq_decide_div_mod_eq]
 have:=Nat.mod_lt (m / 2 ^ j) (show 0<2 by decide)
 by_cases e:m / 2 ^ j % 2=1
 ·rw[ZC e,ZH rfl,e];rfl
 ·rw[ZM e,ZG (by decide),show m / 2 ^ j % 2=0 by omega];rfl
def F8{a b n:Nat}(hb:b<2 ^ n):(Builtin.bitAnd (a:Int) (b:Int)=0)↔∀i,i<n->b.testBit i=true->a.testBit i=false:=by
 rw[PyProof.Rows.bitAnd_pp (by omega) (by omega),ZN,ZN];constructor
 ·intro h i hi hbi;have h0:a &&& b=0:=by omega
  have:=Nat.testBit_and a b i
  rw[h0,Nat.zero_testBit,hbi,Bool.and_true]at this;exact this.symm
 ·intro h
  have:a &&& b=0:=Nat.eq_of_testBit_eq fun i=>by
   rw[Nat.testBit_and,Nat.zero_testBit];by_cases hi:i<n
   ·cases e:b.testBit i with
    |false=>rw[Qs]
    |true=>rw[h i hi e];rfl
   ·have:b.testBit i=false:=Wu (Ye hb (YJ (by decide) (by omega)))
    rw[this,Qs]
  rw[this];rfl
def Do(a b:Nat):Builtin.bitOr (a:Int) (b:Int)=((a ||| b:Nat):Int):=by
 have n1:¬(0:Int)<=Builtin.bitNot (a:Int):=by unfold Builtin.bitNot;omega
 have n2:¬(0:Int)<=Builtin.bitNot (b:Int):=by unfold Builtin.bitNot;omega
 unfold Builtin.bitOr;rw[PyProof.Rows.bitAnd_nn n1 n2];unfold Builtin.bitNot;rw[show(-(-(a:Int)-1)-1).toNat=a by omega,show(-(-(b:Int)-1)-1).toNat=b by omega];omega
def Nz(ps:List (Int×Int))(x:Int):∀k,pcM ps x x k=0
 | 0=>rfl
 |k+1=>by
  unfold pcM;rw[Nz ps x k,ZG fun z=>z.1 rfl];rfl
def JR(wn:List Nat)(hs:List Int)(ws:List (Int×Int)):Prop:=wn.length=hs.length/\∀a b,a<hs.length->b<hs.length->((wn.getD a 0).testBit b=true↔(hs.getD a 0,hs.getD b 0)∈ws)
def Tf{wn:List Nat}{hs:List Int}{ws:List (Int×Int)}{m j:Nat}(h:JR wn hs ws)(hj:j<hs.length)(hm:m<2 ^ hs.length):(Builtin.bitAnd ((wn.getD j 0:Nat):Int) (m:Int)=0)↔Vo ws (insM hs m) (hs.getD j 0)=true:=by
 rw[F8 hm,lastM_iff];constructor
 ·intro k b hb hw;obtain⟨i,hi,hbi,rfl⟩:=insM_mem.mp hb
  have:=(h.2 j i hj hi).mpr hw
  rw[k i hi hbi]at this;cases this
 ·intro k i hi hbi;cases e:(wn.getD j 0).testBit i with
  |false=>rfl
  |true=>exact absurd ((h.2 j i hj hi).mp e) (k _ (insM_mem.mpr ⟨i,hi,hbi,rfl⟩))
end M
namespace Pu
open PySem PySem.Spec PyProof.Rows L2 Own M
abbrev natD(z:Nat):D:=.int z
abbrev rowE(ps:List (Int×Int))(hs:List Int)(a:Int):D:=.lst (hs.map fun b=>.int (pcM ps a b ps.length))
abbrev U1(ps:List (Int×Int))(hs:List Int):D:=.lst (hs.map (rowE ps hs))
def Mat(cs:List (Addr×List D))(n:Nat)(F:Nat->Nat->Int):Prop:=cs.map (·.2)=(List.range n).map fun a=>(List.range n).map fun b=>D.int (F a b)
def Mat.len {cs:List (Addr×List D)}{n:Nat}{F:Nat->Nat->Int} (h:Mat cs n F):cs.length=n:=by
 have:=Yg List.length h
 rw[Z6,Z6,YX]at this;exact this
def Mat.at {cs:List (Addr×List D)}{n:Nat}{F:Nat->Nat->Int} (h:Mat cs n F) {a:Nat} (ha:a<n):∃x,cs[a]?=some (x,(List.range n).map fun b=>D.int (F a b)):=by
 have hl:=h.len
 have e:(cs.map (·.2))[a]?=some ((List.range n).map fun b=>D.int (F a b)):=by
  rw[h,ZD,List.getElem?_range ha];rfl
 rw[ZD,Z5 (show a<cs.length by omega)]at e;refine⟨cs[a].1,?_⟩;rw[Z5 (show a<cs.length by omega),←ZE e]
def Mat.set {cs:List (Addr×List D)}{n:Nat}{F G:Nat->Nat->Int} (h:Mat cs n F) {a b:Nat}{x:Addr}{v:Int} (ha:a<n) (hb:b<n) (g1:G a b=v) (g2:∀a' b',a'<n->b'<n->¬(a'=a/\b'=b)->G a' b'=F a' b') :
  Mat (cs.set a (x,((List.range n).map fun b=>D.int (F a b)).set b (.int v))) n G:=by
 unfold Mat;rw[List.map_set,h];refine W4 (by simp) fun i h1 h2=>?_;have hi:i<n:=by simpa using h2
 simp only[List.getElem_set,W5,Qv];by_cases e:a=i
 ·subst e;rw[ZH rfl];refine W4 (by simp) fun j k1 k2=>?_;have hj:j<n:=by simpa using k2
  simp only[List.getElem_set,W5,Qv];by_cases e2:b=j
  ·subst e2;rw[ZH rfl,g1]
  ·rw[ZG e2,g2 a j ha hj fun z=>e2 z.2.symm]
 ·rw[ZG e];refine YC fun j hj=>?_;rw[g2 i j hi (Yp.mp hj) fun z=>e z.1.symm]
def Mat.same {cs:List (Addr×List D)}{n:Nat}{F G:Nat->Nat->Int} (h:Mat cs n F) (g:∀a b,a<n->b<n->G a b=F a b):Mat cs n G:=by
 unfold Mat;rw[h];refine YC fun a ha=>YC fun b hb=>?_;rw[g a b (Yp.mp ha) (Yp.mp hb)]
def Mat.cost {cs:List (Addr×List D)}{ps:List (Int×Int)}{hs:List Int} (h:Mat cs hs.length fun a b=>pcM ps (hs.getD a 0) (hs.getD b 0) ps.length):(cs.map fun c=>D.lst c.2)=hs.map (rowE ps hs):=by
 have e:hs=(List.range hs.length).map fun i=>hs.getD i 0:=by
  refine W4 (by simp) fun i h1 h2=>?_;rw[W5,Qv,Z7,Z5 h1];rfl
 have e2:∀f:Int->D,hs.map f=(List.range hs.length).map fun i=>f (hs.getD i 0):=fun f=>by
  have:=Yg (List.map f) e
  rw[Yr]at this;exact this
 rw[show(cs.map fun c=>D.lst c.2)=(cs.map (·.2)).map D.lst by rw[Yr];rfl,h,Yr,e2];refine YC fun a _=>?_;show D.lst _=D.lst (hs.map fun b=>.int (pcM ps (hs.getD a 0) b ps.length));rw[e2]
end Pu
namespace T
open PySem PySem.Spec PyProof.Rows L2
def top(i:Nat):Stmt:=PySem.Challenge.pw_stripmeld_k12_table.main.body.getD i (.Pass ⟨0,0,0,0⟩)
abbrev XY:Stmt:=top 4
def Dc:FnScope ["strips"] ["strips"] (QO XY):=Pu.fs
abbrev Xs:Stmt:=top 6
def JA:FnScope ["strips","ahead","behind","to_pass","cost","holder","width"] ["strips","ahead","behind"] (QO Xs):=Pu.fs
abbrev KU:Stmt:=top 8
def Um:FnScope ["paths","left","wishes","longer","reached","path","holder"] ["paths","left","wishes"] (QO KU):=Pu.fs
abbrev K2:Stmt:=top 9
def J3:FnScope ["least","holders","wishes","paths","left","rings","reached"] ["least","holders","wishes"] (QO K2):=Pu.fs
abbrev XW:Stmt:=top 10
def Ud:FnScope ["holders","wishes","ring","least","found"] ["holders","wishes"] (QO XW):=Pu.fs
abbrev K3:Stmt:=top 11
def PU:FnScope ["strips","wishes","ring"] ["strips","wishes"] (QO K3):=Pu.fs
abbrev Kh:Stmt:=top 13
def Uu:FnScope ["strips","holders","costs","ahead","behind"] ["strips"] (QO Kh):=Pu.fs
abbrev Ka:Stmt:=top 14
def Xf:FnScope ["holders","sets","holder"] ["holders"] (QO Ka):=Pu.fs
abbrev X4:Stmt:=top 15
def CZ:FnScope ["members","holder"] ["members","holder"] (QO X4):=Pu.fs
abbrev Kt:Stmt:=top 16
def Dw:FnScope ["members","holder","wishes"] ["members","holder","wishes"] (QO Kt):=Pu.fs
abbrev K9:Stmt:=top 17
def P9:FnScope ["members","last","least","pairs","others"] ["members","last","least","pairs"] (QO K9):=Pu.fs
abbrev K7:Stmt:=top 18
def UJ:FnScope ["strips","wishes","pairs","least","members","lasts"] ["strips","wishes","pairs"] (QO K7):=Pu.fs
abbrev Xu:Stmt:=top 19
def NU:FnScope ["strips","wishes","least"] ["strips","wishes"] (QO Xu):=Pu.fs
abbrev KW:Stmt:=top 21
def F7:FnScope ["_law_script","_law_k"] ["_law_script","_law_k"] (QO KW):=Pu.fs
abbrev K8:Stmt:=top 22
def DF:FnScope ["_law_found"] ["_law_found"] (QO K8):=Pu.fs
abbrev KQ:Stmt:=top 23
def SE:FnScope ["_law_cell","_law_place","_law_first"] ["_law_cell","_law_place"] (QO KQ):=Pu.fs
abbrev KH:Stmt:=top 24
def Ea:FnScope ["_law_script","_law_k"] ["_law_script","_law_k"] (QO KH):=Pu.fs
abbrev Xy:Stmt:=top 25
def KN:FnScope ["_law_cell","_law_wide","_law_least"] ["_law_cell"] (QO Xy):=Pu.fs
abbrev Xz:Stmt:=top 26
def DM:FnScope ["_law_menu_here","_law_k"] ["_law_menu_here","_law_k"] (QO Xz):=Pu.fs
abbrev KI:Stmt:=top 27
def Ui:FnScope ["_law_script","_law_menu_here","_law_many","_law_strips_here","_law_k","_law_cell","_law_width"] ["_law_script","_law_menu_here","_law_many"] (QO KI):=Pu.fs
abbrev X9:Stmt:=top 28
def VZ:FnScope ["_law_script","_law_menu_here","_law_how","_law_pool","_law_wishes_here","_law_k","_law_cell","_law_one","_law_two","_law_pair"] ["_law_script","_law_menu_here"] (QO X9):=Pu.fs
abbrev XN:Stmt:=top 29
def X1:FnScope ["_law_found","_law_due","_law_k","_law_j"] ["_law_found","_law_due"] (QO XN):=Pu.fs
abbrev Kq:Stmt:=top 30
def Nd:FnScope ["_law_strips_here","_law_owners"] ["_law_strips_here"] (QO Kq):=Pu.fs
abbrev Kk:Stmt:=top 31
def JT:FnScope ["_law_holders","_law_wishes_here","_law_left","_law_turn","_law_inside","_law_behind"] ["_law_holders","_law_wishes_here"] (QO Kk):=Pu.fs
abbrev KP:Stmt:=top 32
def KE:FnScope ["_law_wishes_here","_law_holders","_law_kept","_law_pair"] ["_law_wishes_here","_law_holders"] (QO KP):=Pu.fs
abbrev KM:Stmt:=top 33
def JW:FnScope ["_law_strips_here","_law_holders","_law_spots","_law_rows","_law_k","_law_j","_law_cost"] ["_law_strips_here","_law_holders"] (QO KM):=Pu.fs
abbrev KD:Stmt:=top 34
def JI:FnScope ["_law_told","_law_costs","_law_wants_here","_law_mask","_law_inside","_law_met","_law_last","_law_price"] ["_law_told","_law_costs","_law_wants_here","_law_mask"] (QO KD):=Pu.fs
abbrev K0:Stmt:=top 35
def US:FnScope ["_law_holders","_law_wishes_here","_law_wants_here","_law_one","_law_two"] ["_law_holders","_law_wishes_here"] (QO K0):=Pu.fs
abbrev Kj:Stmt:=top 36
def XJ:FnScope ["_law_told","_law_holders","_law_costs","_law_wants_here","_law_number","_law_mask"] ["_law_told","_law_holders","_law_costs","_law_wants_here"] (QO Kj):=Pu.fs
abbrev Ja:Stmt:=top 37
def Ji:FnScope ["_law_script","_law_menu_here","_law_strips_here","_law_holders","_law_wishes_here","_law_handed","_law_wanted","_law_found","_law_costs"] ["_law_script"] (QO Ja):=Pu.fs
structure Glob (K:Za) (mg:Str->Option Value):Prop where
 any:mg "any"=none
 bool:mg "bool"=none
 int:mg "int"=none
 isinstance:mg "isinstance"=none
 len:mg "len"=none
 list:mg "list"=none
 max:mg "max"=none
 min:mg "min"=none
 range:mg "range"=none
 set:mg "set"=none
 sorted:mg "sorted"=none
 sum:mg "sum"=none
 tuple:mg "tuple"=none
end T
namespace M
open PySem PySem.Spec PyProof.Rows L2 Own Pu
def Nu(_:Za):Sp:=fun vs H Q _=>∃(l:Addr) (ps:List (Int×Int)),vs=[.ref l]/\LAt PairR H l ps/\Field ps/\ps.length<=50/\
 ∀(q:Addr) (H':Hp),H q=none->Same H H'->H' q=some (.lst ((QY ps).map V.int))->Q (.ref q) H'
def Po:Pc:=fun ds R _=>∃ps:List (Int×Int),ds=[.lst (ps.map prD)]/\Field ps/\ps.length<=50/\R (.own ((QY ps).map D.int))
def Ku{P:Program}{w:World}{K:Za}{mg:Str->Option Value}{base:Heap}(C:Callee P w K mg base CX0 1 "holders_of" ["strips"] (Nu K)):Callee P w K mg base CX0 1 "holders_of" ["strips"] (Pu.spOf mg Po K):=VR C fun ds R X vs H Q E r hc hQ hX=>by
 obtain⟨ps,rfl,hF,hz,hR⟩:=hc;obtain⟨v,rfl,r1⟩:=r.one_inv;obtain⟨a,rfl,ha⟩:=r1.pairs_inv;exact⟨a,ps,rfl,ha,hF,hz,fun q H' nq S h=>hQ _ _ H' hR S (Ke nq h)⟩
def Nw(_:Za):Sp:=fun vs H Q _=>∃(l:Addr) (ps:List (Int×Int)) (x y:Int),vs=[.ref l,.int x,.int y]/\LAt PairR H l ps/\Field ps/\Q (.int (pcM ps x y ps.length)) H
def Ny:Pc:=fun ds R _=>∃(ps:List (Int×Int)) (x y:Int),ds=[.lst (ps.map prD),.int x,.int y]/\Field ps/\R (.sh (.int (pcM ps x y ps.length)))
def FJ{P:Program}{w:World}{K:Za}{mg:Str->Option Value}{base:Heap}(C:Callee P w K mg base CX0 1 "pair_cost" ["strips","ahead","behind"] (Nw K)):Callee P w K mg base CX0 1 "pair_cost" ["strips","ahead","behind"] (Pu.spOf mg Ny K):=VR C fun ds R X vs H Q E r hc hQ hX=>by
 obtain⟨ps,x,y,rfl,hF,hR⟩:=hc;cases r with
 |cons r1 r=>
  obtain⟨v,u,rfl,r2,r3⟩:=r.two_inv;obtain⟨a,rfl,ha⟩:=r1.pairs_inv;rw[r2.int_inv,r3.int_inv];exact⟨a,ps,x,y,rfl,ha,hF,hQ _ _ H hR (Same.refl _) (.int _)⟩
def Bo:Pc:=fun ds R _=>∃(l:Int) (ps:List (List Int)) (ls:List Int) (ws:List (Int×Int)),ds=[.lst (ps.map (em l)),.lst (ls.map D.int),.lst (ws.map prD)]/\ps.Pairwise sl/\ls.Pairwise (· < ·)/\(∀p∈ps,p.length<=100)/\ls.length<=100/\
 ∀lg,LG ws l (fun p h=>p∈ps/\h∈ls) lg->lg.length<=ls.length->R (.own (lg.map (em l)))
def Em:Pc:=fun ds R _=>∃hs:List Int,ds=[.lst (hs.map D.int)]/\hs.length<=10/\R (.own ((QU hs).map tD))
def FK:Pc:=fun ds R _=>∃(ms:List Int) (h:Int),ds=[tD ms,.int h]/\ms.length<=1000/\R (.sh (tD (QP ms h)))
def AO:Pc:=fun ds R _=>∃(ms:List Int) (h:Int) (ws:List (Int×Int)),ds=[tD ms,.int h,.lst (ws.map prD)]/\ws.length<=50/\R (.sh (.bl (Vo ws ms h)))
def XC(K:Za):Sp:=fun vs H Q _=>∃(a:Addr) (ns:List Int) (k:Int),vs=[.ref a,.int k]/\SqL K H a (ns.map V.int)/\0<=k/\Q (.int (ns.getD k.toNat 0)) H
def Tg:Pc:=fun ds R _=>∃(ns:List Int) (k:Int),ds=[.scr ns,.int k]/\0<=k/\R (.sh (.int (ns.getD k.toNat 0)))
def Dk{P:Program}{w:World}{K:Za}{mg:Str->Option Value}{base:Heap}(C:Callee P w K mg base CX0 1 "_law_at" ["_law_script","_law_k"] (XC K)):Callee P w K mg base CX0 1 "_law_at" ["_law_script","_law_k"] (Pu.spOf mg Tg K):=VR C fun ds R X vs H Q E r hc hQ hX=>by
 obtain⟨ns,k,rfl,hk,hR⟩:=hc;obtain⟨v,u,rfl,r1,r2⟩:=r.two_inv;obtain⟨a,rfl,hS⟩:=r1.scr_inv;rw[r2.int_inv];exact⟨a,ns,k,rfl,hS,hk,hQ _ _ H hR (Same.refl _) (.int _)⟩
def KY(_:Za):Sp:=fun vs H Q _=>∃i:Int,vs=[.int i]/\Q (.bl true) H
def PP:Pc:=fun ds R _=>∃i:Int,ds=[.int i]/\R (.sh (.bl true))
def Eo{P:Program}{w:World}{K:Za}{mg:Str->Option Value}{base:Heap}(C:Callee P w K mg base CX0 1 "_law_whole" ["_law_found"] (KY K)):Callee P w K mg base CX0 1 "_law_whole" ["_law_found"] (Pu.spOf mg PP K):=VR C fun ds R X vs H Q E r hc hQ hX=>by
 obtain⟨i,rfl,hR⟩:=hc;obtain⟨v,rfl,r1⟩:=r.one_inv;rw[r1.int_inv];exact⟨i,rfl,hQ _ _ H hR (Same.refl _) (.bl _)⟩
def mix(c p:Int):Int:=((c % 2147483647+7919*p+1)*48271 % 2147483647+104729*p+11)*69621 % 2147483647
def Sd(_:Za):Sp:=fun vs H Q _=>∃c p:Int,vs=[.int c,.int p]/\Q (.int (mix c p)) H
def J0(c:Int):List Int:=[1+c % 10,[1,3,7,9].getD (c / 10 % 4).toNat 0,c / 40 % 10,[1000,3,1,2,3].getD (c / 400 % 5).toNat 0,[1,1,1,1,998].getD (c / 400 % 5).toNat 0]
def ND(_:Za):Sp:=fun vs H Q _=>∃c:Int,vs=[.int c]/\∀(l:Addr) (H':Hp),H l=none->Same H H'->H' l=some (.lst ((J0 c).map V.int))->Menu (J0 c)->Q (.ref l) H'
def Xb{xs:List Int}{i:Int}(h0:0<=i)(h:i<xs.length):atI (xs.map V.int) i=some (.int (xs.getD i.toNat 0)):=by
 apply UC (f:=V.int);apply KA h0;rw[Z7,Z5 (show i.toNat<xs.length by omega)];rfl
def Cm(c:Int):Menu (J0 c):=by
 have h1:0<=c / 10 % 4/\c / 10 % 4<4:=by omega
 have h2:0<=c / 400 % 5/\c / 400 % 5<5:=by omega
 refine⟨_,_,_,_,_,rfl,by omega,?_,by omega,?_,?_⟩
 ·have:c / 10 % 4=0\/c / 10 % 4=1\/c / 10 % 4=2\/c / 10 % 4=3:=by omega
  rcases this with e|e|e|e<;>rw[e]<;>decide
 ·have:c / 400 % 5=0\/c / 400 % 5=1\/c / 400 % 5=2\/c / 400 % 5=3\/c / 400 % 5=4:=by omega
  rcases this with e|e|e|e|e<;>rw[e]<;>decide
 ·have:c / 400 % 5=0\/c / 400 % 5=1\/c / 400 % 5=2\/c / 400 % 5=3\/c / 400 % 5=4:=by omega
  rcases this with e|e|e|e|e<;>rw[e]<;>decide
def Tj:Pc:=fun ds R _=>∃c:Int,ds=[.int c]/\(Menu (J0 c)->R (.own ((J0 c).map D.int)))
def D4{P:Program}{w:World}{K:Za}{mg:Str->Option Value}{base:Heap}(C:Callee P w K mg base CX0 1 "_law_menu" ["_law_cell"] (ND K)):Callee P w K mg base CX0 1 "_law_menu" ["_law_cell"] (Pu.spOf mg Tj K):=VR C fun ds R X vs H Q E r hc hQ hX=>by
 obtain⟨c,rfl,hR⟩:=hc;obtain⟨v,rfl,r1⟩:=r.one_inv;rw[r1.int_inv];exact⟨c,rfl,fun l H' nl S h hM=>hQ _ _ H' (hR hM) S (Ke nl h)⟩
def VY(m:List Int)(k:Int):Int:=1+(k*m.getD 1 0+m.getD 2 0) % 10
def KZ(K:Za):Sp:=fun vs H Q _=>∃(l:Addr) (m:List Int) (k:Int),vs=[.ref l,.int k]/\SqL K H l (m.map V.int)/\Menu m/\Q (.int (VY m k)) H
def SR(_:Za):Sp:=fun vs H Q _=>∃(l:Addr) (ps:List (Int×Int)),vs=[.ref l]/\LAt PairR H l ps/\ps.length<=50/\
 ∀(q:Addr) (H':Hp),H q=none->Same H H'->H' q=some (.lst ((QY ps).map V.int))->Q (.ref q) H'
def PR:Pc:=fun ds R _=>∃ps:List (Int×Int),ds=[.lst (ps.map prD)]/\ps.length<=50/\R (.own ((QY ps).map D.int))
def E7{P:Program}{w:World}{K:Za}{mg:Str->Option Value}{base:Heap}(C:Callee P w K mg base CX0 1 "_law_present" ["_law_strips_here"] (SR K)):Callee P w K mg base CX0 1 "_law_present" ["_law_strips_here"] (Pu.spOf mg PR K):=VR C fun ds R X vs H Q E r hc hQ hX=>by
 obtain⟨ps,rfl,hz,hR⟩:=hc;obtain⟨v,rfl,r1⟩:=r.one_inv;obtain⟨a,rfl,ha⟩:=r1.pairs_inv;exact⟨a,ps,rfl,ha,hz,fun q H' nq S h=>hQ _ _ H' hR S (Ke nq h)⟩
def Nh(K:Za):Sp:=fun vs H Q _=>∃(l p:Addr) (hs:List Int) (ws:List (Int×Int)),vs=[.ref l,.ref p]/\SqL K H l (hs.map V.int)/\hs.length<=50/\LAt PairR H p ws/\ws.length<=50/\
 ∀(H':Hp),Same H H'->Q (.bl (decide (QZ ws hs hs.length=[]))) H'
def Nf:Pc:=fun ds R _=>∃(hs:List Int) (ws:List (Int×Int)),ds=[.lst (hs.map D.int),.lst (ws.map prD)]/\hs.length<=50/\ws.length<=50/\R (.sh (.bl (decide (QZ ws hs hs.length=[]))))
def BP{P:Program}{w:World}{K:Za}{mg:Str->Option Value}{base:Heap}(C:Callee P w K mg base CX0 1 "_law_no_ring" ["_law_holders","_law_wishes_here"] (Nh K)):Callee P w K mg base CX0 1 "_law_no_ring" ["_law_holders","_law_wishes_here"] (Pu.spOf mg Nf K):=VR C fun ds R X vs H Q E r hc hQ hX=>by
 obtain⟨hs,ws,rfl,hz,hw,hR⟩:=hc;obtain⟨v,u,rfl,r1,r2⟩:=r.two_inv;obtain⟨a,rfl,ha⟩:=r1.ints_inv;obtain⟨l,rfl,hl⟩:=r2.pairs_inv;exact⟨a,l,hs,ws,rfl,SqL.of ha,hz,hl,hw,fun H' S=>hQ _ _ H' hR S (.bl _)⟩
def FY:Pc:=fun ds R _=>∃(ps:List (Int×Int)) (hs:List Int),ds=[plD ps,.lst (hs.map D.int)]/\Field ps/\ps.length<=50/\hs.Nodup/\hs.length<=10/\(∀q∈ps,q.1∈hs)/\∀(x:Addr) (cs:List (Addr×List D)),(cs.map fun c=>D.lst c.2)=hs.map (rowE ps hs)->R (.own (.nsl x cs))
def CY:Pc:=fun ds R _=>∃(ps ws:List (Int×Int)) (hs vs:List Int) (wn:List Nat) (m:Nat),ds=[.lst (vs.map D.int),U1 ps hs,.lst (wn.map natD),.int m]/\hs.Nodup/\hs.length<=10/\(∀q∈ws,q.1≠q.2)/\Ue hs ws/\TabV ws (fun x y=>pcM ps x y ps.length) (QU hs) vs/\JR wn hs ws/\0<m/\m<2 ^ hs.length/\R (.sh (.bl true))
def CC:Pc:=fun ds R _=>∃(hs:List Int) (ws:List (Int×Int)),ds=[.lst (hs.map D.int),.lst (ws.map prD)]/\hs.Nodup/\hs.length<=10/\∀wn:List Nat,JR wn hs ws->R (.own (.lst (wn.map natD)))
def Az:Pc:=fun ds R _=>∃(l:Int) (hs:List Int) (ws:List (Int×Int)),ds=[.int l,.lst (hs.map D.int),.lst (ws.map prD)]/\hs.Nodup/\hs.length<=50/\∀r,RF hs ws l r->r.length<=60->R (.sh (.lst (r.map D.int)))
def Aa:Pc:=fun ds R _=>∃ps:List (Int×Int),ds=[.lst (ps.map prD)]/\Field ps/\ps.length<=50/\
 ∀kvs:List (List Key×V),(∀x∈QY ps,∀y∈QY ps,valV kvs [.inl x,.inl y]=some (.int (pcM ps x y ps.length)))->R (.own (.dT kvs))
def En:Pc:=fun ds R _=>∃(ms:List Int) (l:Int) (le pa:List (List Key×V)) (c:Int->Int) (v:Int),ds=[tD ms,.int l,.dT le,.dT pa]/\ms.length<=1000/\valV le (kT (QP ms l))=some (.int v)/\
 (∀m∈QP ms l,valV pa [.inl m,.inl l]=some (.int (c m)))/\R (.sh (.int (v+((QP ms l).map c).sum)))
def VE(ns:List Int)(k:Int):Int:=if ns.getD 0 0 % 2=0 then ns.getD (1+k).toNat 0 else mix (ns.getD 1 0) k
def UW(K:Za):Sp:=fun vs H Q _=>∃(a:Addr) (ns:List Int) (k:Int),vs=[.ref a,.int k]/\SqL K H a (ns.map V.int)/\0<=k/\Q (.int (VE ns k)) H
def SS:Pc:=fun ds R _=>∃(ns:List Int) (k:Int),ds=[.scr ns,.int k]/\0<=k/\R (.sh (.int (VE ns k)))
def CQ{P:Program}{w:World}{K:Za}{mg:Str->Option Value}{base:Heap}(C:Callee P w K mg base CX0 2 "_law_draw" ["_law_script","_law_k"] (UW K)):Callee P w K mg base CX0 2 "_law_draw" ["_law_script","_law_k"] (Pu.spOf mg SS K):=VR C fun ds R X vs H Q E r hc hQ hX=>by
 obtain⟨ns,k,rfl,hk,hR⟩:=hc;obtain⟨v,u,rfl,r1,r2⟩:=r.two_inv;obtain⟨a,rfl,hS⟩:=r1.scr_inv;rw[r2.int_inv];exact⟨a,ns,k,rfl,hS,hk,hQ _ _ H hR (Same.refl _) (.int _)⟩
def SM(_:Za):Sp:=fun vs H Q _=>∃(l l':Addr) (ps:List (Int×Int)),vs=[.ref l,.ref l']/\LAt PairR H l ps/\LAt PairR H l' ps/\ps.length<=1000000/\Q (.bl true) H
def Tq:Pc:=fun ds R _=>∃ps:List (Int×Int),ds=[.lst (ps.map prD),.lst (ps.map prD)]/\ps.length<=1000000/\R (.sh (.bl true))
def AN{P:Program}{w:World}{K:Za}{mg:Str->Option Value}{base:Heap}(C:Callee P w K mg base CX0 2 "_law_tuples" ["_law_found","_law_due"] (SM K)):Callee P w K mg base CX0 2 "_law_tuples" ["_law_found","_law_due"] (Pu.spOf mg Tq K):=VR C fun ds R X vs H Q E r hc hQ hX=>by
 obtain⟨ps,rfl,hz,hR⟩:=hc;obtain⟨v,u,rfl,r1,r2⟩:=r.two_inv;obtain⟨a,rfl,ha⟩:=r1.pairs_inv;obtain⟨l,rfl,hl⟩:=r2.pairs_inv;exact⟨a,l,ps,rfl,ha,hl,hz,hQ _ _ H hR (Same.refl _) (.bl _)⟩
def FT:Pc:=fun ds R _=>∃(ws:List (Int×Int)) (hs:List Int),ds=[.lst (ws.map prD),.lst (hs.map D.int)]/\ws.length<=40/\hs.length<=50/\
 ∀ks:List (Int×Int),ks.Sublist ws->QZ ks hs hs.length=[]->R (.own (ks.map prD))
def Ed:Pc:=fun ds R _=>∃(ps ws:List (Int×Int)) (hs vs:List Int) (wn:List Nat),ds=[.lst (vs.map D.int),.lst (hs.map D.int),U1 ps hs,.lst (wn.map natD)]/\hs.Nodup/\hs.length<=10/\(∀q∈ws,q.1≠q.2)/\Ue hs ws/\TabV ws (fun x y=>pcM ps x y ps.length) (QU hs) vs/\JR wn hs ws/\R (.sh (.bl true))
def E4:Pc:=fun ds R _=>∃(hs:List Int) (ws:List (Int×Int)),ds=[.lst (hs.map D.int),.lst (ws.map prD)]/\hs.Nodup/\hs.length<=50/\∀r,FR hs ws r->r.length<=60->R (.sh (.lst (r.map D.int)))
def E9:Pc:=fun ds R _=>∃(ps ws:List (Int×Int)) (pa:List (List Key×V)) (c:Int->Int->Int),ds=[.lst (ps.map prD),.lst (ws.map prD),.dT pa]/\Field ps/\ps.length<=50/\ws.length<=50/\(∀q∈ws,q.1≠q.2)/\
 (∀x∈QY ps,∀y∈QY ps,valV pa [.inl x,.inl y]=some (.int (c x y)))/\Ue (QY ps) ws/\∀kvs,Tab ws c (QU (QY ps)) kvs->R (.own (.dT kvs))
def stripM(ns m:List Int)(k:Nat):Int×Int:=(VY m (VE ns (2+(k:Int)) % m.getD 0 0),m.getD 4 0+VE ns (2+(k:Int)) / m.getD 0 0 % m.getD 3 0)
def Jh(ns m:List Int)(n:Nat):List (Int×Int):=(List.range n).map (stripM ns m)
def To(K:Za):Sp:=fun vs H Q _=>∃(a l:Addr) (ns m:List Int) (n:Int),vs=[.ref a,.ref l,.int n]/\SqL K H a (ns.map V.int)/\SqL K H l (m.map V.int)/\Menu m/\0<=n/\n<=1000/\
 ∀(p:Addr) (H':Hp),H p=none->Same H H'->LAt PairR H' p (Jh ns m n.toNat)->Q (.ref p) H'
def Cj(ns m:List Int)(k:Nat):Jh ns m (k+1)=Jh ns m k++[stripM ns m k]:=by
 unfold Jh;rw[YH,Yh];rfl
def Td(ns m:List Int)(k:Nat):(Jh ns m k).length=k:=by simp[Jh]
def Cb{ns m:List Int}(hM:Menu m)(k:Nat):1<=(stripM ns m k).1/\(stripM ns m k).1<=10/\1<=(stripM ns m k).2/\(stripM ns m k).2<=1000:=by
 obtain⟨a,b,c,d,e,rfl,ha,hb,hc,hd,he⟩:=hM;show 1<=1+(_*b+c) % 10/\1+(_*b+c) % 10<=10/\1<=e+_ / a % d/\e+_ / a % d<=1000;have h1:=W7 (VE ns (2+(k:Int)) / a) (show d≠0 by omega);have h2:=Wp (VE ns (2+(k:Int)) / a) (show 0<d by omega);omega
def FE{ns m:List Int}(hM:Menu m)(k:Nat):Field (Jh ns m k):=by
 intro q hq;obtain⟨j,_,rfl⟩:=ZS.mp hq;exact Cb hM j
def NF:Pc:=fun ds R _=>∃(ns m:List Int) (n:Int),ds=[.scr ns,.lst (m.map D.int),.int n]/\Menu m/\0<=n/\n<=1000/\R (.own ((Jh ns m n.toNat).map prD))
def DW{P:Program}{w:World}{K:Za}{mg:Str->Option Value}{base:Heap}(C:Callee P w K mg base CX0 3 "_law_strips" ["_law_script","_law_menu_here","_law_many"] (To K)):Callee P w K mg base CX0 3 "_law_strips" ["_law_script","_law_menu_here","_law_many"] (Pu.spOf mg NF K):=VR C fun ds R X vs H Q E r hc hQ hX=>by
 obtain⟨ns,m,n,rfl,hM,h0,h1,hR⟩:=hc;cases r with
 |cons r1 r=>
  obtain⟨v,u,rfl,r2,r3⟩:=r.two_inv;obtain⟨a,rfl,hS⟩:=r1.scr_inv;obtain⟨l,rfl,hl⟩:=r2.ints_inv;rw[r3.int_inv];exact⟨a,l,ns,m,n,rfl,hS,SqL.of hl,hM,h0,h1,fun p H' np S h=>hQ _ _ H' hR S (Pz np S h)⟩
def Bj(K:Za):Sp:=fun vs H Q _=>∃(a l:Addr) (ns m:List Int),vs=[.ref a,.ref l]/\SqL K H a (ns.map V.int)/\SqL K H l (m.map V.int)/\Menu m/\
 ∀(p:Addr) (H':Hp) (ws:List (Int×Int)),H p=none->Same H H'->LAt PairR H' p ws->Sz ws->Q (.ref p) H'
def AA{m:List Int}(hM:Menu m){x y:Int}(hx:0<=x/\x<=9)(hy:0<=y/\y<=9)(h:x≠y):VY m x≠VY m y:=by
 obtain⟨a,b,c,d,e,rfl,ha,⟨_,_,hb⟩,hc,hd,he⟩:=hM;intro z;apply h;have z':1+(x*b+c) % 10=1+(y*b+c) % 10:=z;rcases hb with rfl|rfl|rfl|rfl<;>omega
def two_ne{o r p:Int}(h1:0<=o/\o<p)(h2:0<=r/\r<p-1):(0<=(o+1+r) % p/\(o+1+r) % p<p)/\o≠(o+1+r) % p:=by
 refine⟨⟨W7 _ (by omega),Wp _ (by omega)⟩,?_⟩;by_cases h:o+1+r<p
 ·rw[WT (by omega) h];omega
 ·rw[←Int.sub_emod_right,WT (by omega) (by omega)];omega
def Tp{m:List Int}(k:Int):1<=VY m k/\VY m k<=10:=by
 unfold VY;omega
def NW:Pc:=fun ds R _=>∃(ns m:List Int),ds=[.scr ns,.lst (m.map D.int)]/\Menu m/\∀ws,Sz ws->R (.own (ws.map prD))
def DJ{P:Program}{w:World}{K:Za}{mg:Str->Option Value}{base:Heap}(C:Callee P w K mg base CX0 3 "_law_wishes" ["_law_script","_law_menu_here"] (Bj K)):Callee P w K mg base CX0 3 "_law_wishes" ["_law_script","_law_menu_here"] (Pu.spOf mg NW K):=VR C fun ds R X vs H Q E r hc hQ hX=>by
 obtain⟨ns,m,rfl,hM,hR⟩:=hc;obtain⟨v,u,rfl,r1,r2⟩:=r.two_inv;obtain⟨a,rfl,hS⟩:=r1.scr_inv;obtain⟨l,rfl,hl⟩:=r2.ints_inv;exact⟨a,l,ns,m,rfl,hS,SqL.of hl,hM,fun p H' ws np S h hW=>hQ _ _ H' (hR ws hW) S (Pz np S h)⟩
def Fn:Pc:=fun ds R _=>∃(ps ws:List (Int×Int)),ds=[.lst (ps.map prD),.lst (ws.map prD)]/\Field ps/\ps.length<=50/\(∀q∈ws,q.1≠q.2)/\(¬ ∃r,Ring (QY ps) ws r)/\R (.sh .non)
def pcc(ps:List (Int×Int)):Int->Int->Int:=fun x y=>pcM ps x y ps.length
def F0:Pc:=fun ds R _=>∃(ps ws:List (Int×Int)),ds=[.lst (ps.map prD),.lst (ws.map prD)]/\Field ps/\ps.length<=50/\ws.length<=50/\(∀q∈ws,q.1≠q.2)/\(¬ ∃r,Ring (QY ps) ws r)/\
 ∀vs,TabV ws (pcc ps) (QU (QY ps)) vs->R (.own (vs.map D.int))
variable (P:Program) (w:World) (K:Za) (mg:Str->Option Value) (base:Heap)
abbrev Ky:Prop:=Callee P w K mg base CX0 1 "holders_of" ["strips"] (Pu.spOf mg Po K)
abbrev AG:Prop:=Callee P w K mg base CX0 1 "pair_cost" ["strips","ahead","behind"] (Pu.spOf mg Ny K)
abbrev SA:Prop:=Callee P w K mg base CX0 1 "longer_paths" ["paths","left","wishes"] (Pu.spOf mg Bo K)
abbrev SQ:Prop:=Callee P w K mg base CX0 1 "sets_of" ["holders"] (Pu.spOf mg Em K)
abbrev T1:Prop:=Callee P w K mg base CX0 1 "without" ["members","holder"] (Pu.spOf mg FK K)
abbrev Sx:Prop:=Callee P w K mg base CX0 1 "may_lie_last" ["members","holder","wishes"] (Pu.spOf mg AO K)
abbrev FG:Prop:=Callee P w K mg base CX0 1 "_law_at" ["_law_script","_law_k"] (Pu.spOf mg Tg K)
abbrev Ep:Prop:=Callee P w K mg base CX0 1 "_law_whole" ["_law_found"] (Pu.spOf mg PP K)
abbrev A4:Prop:=Callee P w K mg base CX0 1 "_law_menu" ["_law_cell"] (Pu.spOf mg Tj K)
abbrev DE:Prop:=Callee P w K mg base CX0 1 "_law_present" ["_law_strips_here"] (Pu.spOf mg PR K)
abbrev Du:Prop:=Callee P w K mg base CX0 1 "_law_no_ring" ["_law_holders","_law_wishes_here"] (Pu.spOf mg Nf K)
abbrev Nk:Prop:=Callee P w K mg base CX0 1 "_law_pair_rows" ["_law_strips_here","_law_holders"] (Pu.spOf mg FY K)
abbrev NN:Prop:=Callee P w K mg base CX0 1 "_law_least_in" ["_law_told","_law_costs","_law_wants_here","_law_mask"] (Pu.spOf mg CY K)
abbrev Nl:Prop:=Callee P w K mg base CX0 1 "_law_wants" ["_law_holders","_law_wishes_here"] (Pu.spOf mg CC K)
abbrev SC:Prop:=Callee P w K mg base CX0 2 "ring_from" ["least","holders","wishes"] (Pu.spOf mg Az K)
abbrev N6:Prop:=Callee P w K mg base CX0 2 "pair_costs" ["strips"] (Pu.spOf mg Aa K)
abbrev TH:Prop:=Callee P w K mg base CX0 2 "cost_with_last" ["members","last","least","pairs"] (Pu.spOf mg En K)
abbrev Cu:Prop:=Callee P w K mg base CX0 2 "_law_draw" ["_law_script","_law_k"] (Pu.spOf mg SS K)
abbrev Fb:Prop:=Callee P w K mg base CX0 2 "_law_tuples" ["_law_found","_law_due"] (Pu.spOf mg Tq K)
abbrev SG:Prop:=Callee P w K mg base CX0 2 "_law_keepable" ["_law_wishes_here","_law_holders"] (Pu.spOf mg FT K)
abbrev Ng:Prop:=Callee P w K mg base CX0 2 "_law_shows" ["_law_told","_law_holders","_law_costs","_law_wants_here"] (Pu.spOf mg Ed K)
abbrev Pw:Prop:=Callee P w K mg base CX0 3 "find_ring" ["holders","wishes"] (Pu.spOf mg E4 K)
abbrev Sk:Prop:=Callee P w K mg base CX0 3 "least_costs" ["strips","wishes","pairs"] (Pu.spOf mg E9 K)
abbrev BD:Prop:=Callee P w K mg base CX0 3 "_law_strips" ["_law_script","_law_menu_here","_law_many"] (Pu.spOf mg NF K)
abbrev Av:Prop:=Callee P w K mg base CX0 3 "_law_wishes" ["_law_script","_law_menu_here"] (Pu.spOf mg NW K)
abbrev Tz:Prop:=Callee P w K mg base CX0 4 "check_no_ring" ["strips","wishes"] (Pu.spOf mg Fn K)
abbrev Bk:Prop:=Callee P w K mg base CX0 5 "cost_table" ["strips","wishes"] (Pu.spOf mg F0 K)
abbrev AF:Prop:=Callee P w K mg base CX0 6 "law" ["_law_script"] (Pu.spOf mg SK K)
end M
namespace M
open PySem PySem.Spec PyProof.Rows L2 Own Pu
def Pd(ps:List (List Int))(ls:List Int)(i j:Nat)(p:List Int)(h:Int):Prop:=(p∈ps.take i/\h∈ls)\/(ps[i]?=some p/\h∈ls.take j)
structure LGs (ws:List (Int×Int)) (l:Int) (P:List Int->Int->Prop) (ls:List Int) (lg:List (List Int)) (kvs:List (Key×V)):Prop where
 g:LG ws l P lg
 nd:(lg.map (QL l)).Nodup
 sub:∀h∈lg.map (QL l),h∈ls
 rc:∀h:Int,(valV kvs (.inl h)).isSome=true↔h∈lg.map (QL l)
 len:kvs.length<=lg.length
def LGs.len_le {ws:List (Int×Int)}{l:Int}{P:List Int->Int->Prop}{ls:List Int}{lg:List (List Int)}{kvs:List (Key×V)} (L:LGs ws l P ls lg kvs):lg.length<=ls.length:=by
 have:=Xv L.nd L.sub
 rwa[Z6]at this
def LG.congr {ws:List (Int×Int)}{l:Int}{P P':List Int->Int->Prop}{lg:List (List Int)} (h:∀p x,P p x↔P' p x) (G:LG ws l P lg):LG ws l P' lg:=
 ⟨fun q hq=>let ⟨p,x,a,b⟩:=G.mem q hq;⟨p,x,(h p x).mp a,b⟩,G.srt,fun p x a b=>G.has p x ((h p x).mpr a) b⟩
def LGs.congr {ws:List (Int×Int)}{l:Int}{P P':List Int->Int->Prop}{ls:List Int}{lg:List (List Int)}{kvs:List (Key×V)} (h:∀p x,P p x↔P' p x) (G:LGs ws l P ls lg kvs):LGs ws l P' ls lg kvs:=⟨G.g.congr h,G.nd,G.sub,G.rc,G.len⟩
def LGs.start {ps:List (List Int)}{ls:List Int}{ws:List (Int×Int)}{l:Int}:LGs ws l (Pd ps ls 0 0) ls [] []:=by
 refine⟨⟨(fun q hq=>by cases hq),List.Pairwise.nil,fun p h a=>?_⟩,Ww,(fun h hh=>by cases hh),(fun h=>by simp[valV]),ZF _⟩;rcases a with⟨a,_⟩|⟨_,a⟩
 ·rw[WL]at a;cases a
 ·rw[WL]at a;cases a
def LGs.skip {ps:List (List Int)}{ls:List Int}{ws:List (Int×Int)}{l:Int}{lg:List (List Int)}{kvs:List (Key×V)}{i j:Nat}{p:List Int}{h:Int} (hp:ps[i]?=some p) (hh:ls[j]?=some h) (hs:ps.Pairwise sl)
  (G:LGs ws l (Pd ps ls i j) ls lg kvs) (no:(valV kvs (.inl h)).isSome=true\/(QL l p,h)∉ws):LGs ws l (Pd ps ls i (j+1)) ls lg kvs:=by
 obtain⟨hj,ej⟩:=ZP.mp hh;obtain⟨hi,ei⟩:=ZP.mp hp;have tk:∀x,x∈ls.take (j+1)↔x∈ls.take j\/x=h:=fun x=>by rw[ZR hj,ZU,ZA,ej]
 refine⟨⟨fun q hq=>?_,G.g.srt,fun p' x a b=>?_⟩,G.nd,G.sub,G.rc,G.len⟩
 ·obtain⟨p',x,a,b⟩:=G.g.mem q hq;exact⟨p',x,a.imp id fun z=>⟨z.1,(tk x).mpr (.inl z.2)⟩,b⟩
 ·rcases a with a|⟨a1,a2⟩
  ·exact G.g.has p' x (.inl a) b
  ·rcases(tk x).mp a2 with a2|rfl
   ·exact G.g.has p' x (.inr ⟨a1,a2⟩) b
   ·rw[hp]at a1;cases a1
    rcases no with no|no
    ·obtain⟨q,hq,e⟩:=ZS.mp ((G.rc x).mp no);obtain⟨p'',x',c1,rfl,c2⟩:=G.g.mem q hq;have ex:x'=x:=by rw[Vy]at e;exact e
     subst ex;refine⟨p'',hq,?_⟩;rcases c1 with⟨c1,_⟩|⟨c1,_⟩
     ·obtain⟨m,hm,em'⟩:=Yo.mp c1;rw[Yn]at hm;rw[Wv]at em'
      have:=Yw.mp hs m i (by omega) hi (by omega)
      rw[em',ei]at this;exact .inr this
     ·rw[hp]at c1;cases c1
      exact .inl rfl
    ·exact absurd b no
def LGs.put {ps:List (List Int)}{ls:List Int}{ws:List (Int×Int)}{l:Int}{lg:List (List Int)}{kvs:List (Key×V)}{i j:Nat}{p:List Int}{h:Int} (hp:ps[i]?=some p) (hh:ls[j]?=some h) (hs:ps.Pairwise sl) (hl:ls.Pairwise (· < ·))
  (G:LGs ws l (Pd ps ls i j) ls lg kvs) (new:(valV kvs (.inl h)).isSome=false) (hw:(QL l p,h)∈ws):LGs ws l (Pd ps ls i (j+1)) ls (lg++[p++[h]]) (putK kvs (.inl h) (.bl true)):=by
 obtain⟨hj,ej⟩:=ZP.mp hh;obtain⟨hi,ei⟩:=ZP.mp hp;have tk:∀x,x∈ls.take (j+1)↔x∈ls.take j\/x=h:=fun x=>by rw[ZR hj,ZU,ZA,ej]
 have lh:QL l (p++[h])=h:=by rw[Vy];rfl
 have nh:h∉lg.map (QL l):=fun z=>by rw[(G.rc h).mpr z]at new;cases new
 refine⟨⟨fun q hq=>?_,?_,fun p' x a b=>?_⟩,?_,fun x hx=>?_,fun x=>?_,?_⟩
 ·rcases ZU.mp hq with hq|hq
  ·obtain⟨p',x,a,b⟩:=G.g.mem q hq;exact⟨p',x,a.imp id fun z=>⟨z.1,(tk x).mpr (.inl z.2)⟩,b⟩
  ·rw[ZA.mp hq];exact⟨p,h,.inr ⟨hp,(tk h).mpr (.inr rfl)⟩,rfl,hw⟩
 ·refine W3.mpr ⟨G.g.srt,by simp,fun q hq q' hq'=>?_⟩;rw[ZA.mp hq'];obtain⟨p',x,a,rfl,b⟩:=G.g.mem q hq;rcases a with⟨a,_⟩|⟨a1,a2⟩
  ·obtain⟨m,hm,em'⟩:=Yo.mp a;rw[Yn]at hm;rw[Wv]at em'
   have:=Yw.mp hs m i (by omega) hi (by omega)
   rw[em',ei]at this;exact X0 x h this
  ·rw[hp]at a1;cases a1
   obtain⟨m,hm,em'⟩:=Yo.mp a2;rw[Yn]at hm;rw[Wv]at em'
   have:=Yw.mp hl m j (by omega) hj (by omega)
   rw[em',ej]at this;exact Sg this
 ·have old:∀p' x,Pd ps ls i j p' x->(QL l p',x)∈ws->∃p'',p''++[x]∈lg++[p++[h]]/\(p''=p'\/sl p'' p'):=fun p' x a b=>let ⟨p'',k1,k2⟩:=G.g.has p' x a b;⟨p'',YZ _ k1,k2⟩;rcases a with a|⟨a1,a2⟩
  ·exact old p' x (.inl a) b
  ·rcases(tk x).mp a2 with a2|rfl
   ·exact old p' x (.inr ⟨a1,a2⟩) b
   ·rw[hp]at a1;cases a1
    exact⟨p,ZY _ (ZA.mpr rfl),.inl rfl⟩
 ·rw[Yh,Wq,lh];refine Y5.mpr ⟨G.nd,by simp,fun a ha b hb=>?_⟩;rw[ZA.mp hb];rintro rfl;exact nh ha
 ·rw[Yh,Wq,lh]at hx;rcases ZU.mp hx with hx|hx
  ·exact G.sub x hx
  ·rw[ZA.mp hx,←ej];exact ZV hj
 ·rw[Yh,Wq,lh,UA,ZU,ZA];by_cases e:x=h
  ·subst e;rw[ZH rfl];exact⟨fun _=>.inr rfl,fun _=>rfl⟩
  ·rw[ZG (fun z=>e (Sum.inl.inj z)),G.rc];exact⟨.inl,fun z=>z.elim id fun w=>absurd w e⟩
 ·rw[ZX]
  have:=UD kvs (.inl h) (.bl true)
  have:=G.len
  simp;omega
def X5(bs:List Int):∀ls:List Int,ls.filterMap (fun h=>if decide (h∈bs)=true then some (V.int h)else none)=(ls.filter fun h=>decide (h∈bs)).map V.int
 |[]=>rfl
 |x::r=>by
  by_cases c1:x∈bs
  ·rw[WJ (b:=V.int x) (by rw[ZC c1];rfl),Wi (by exact ZC c1),ZO,X5 bs r]
  ·rw[WK (by rw[ZM c1];rfl),Wj (by rw[ZM c1];decide),X5 bs r]
def PK{α:Type}{c:α->Bool}:∀{xs:List α}{x:α}{r:List α},xs.filter c=x::r->∃i,∃hi:i<xs.length,xs[i]=x/\c x=true/\∀j (hj:j<xs.length),j<i->c xs[j]=false
 |[],x,r,h=>by cases h
 |y::ys,x,r,h=>by
  by_cases hy:c y=true
  ·rw[Wi hy]at h;cases h
   exact⟨0,by simp,rfl,hy,fun j _ hj=>by omega⟩
  ·rw[Wj hy]at h;obtain⟨i,hi,e1,e2,e3⟩:=PK h;refine⟨i+1,by simp;omega,by simpa using e1,e2,fun j hj hji=>?_⟩;cases j with
   |zero=>simpa using hy
   |succ j=>simpa using e3 j (by simpa using hj) (by omega)
def SU(c:Int->Bool):∀ws:List Int,ws.filterMap (fun q=>if c q=true then some (D.int q)else none)=(ws.filter c).map D.int:=JL c D.int
def FRi(hs:List Int)(ws:List (Int×Int))(ns:List Int)(r:List Int):Prop:=
 (r=[]/\∀l∈ns,∀t,¬V4 hs ws l t)\/∃l t,r=l::t/\l∈ns/\V4 hs ws l t/\∀m∈ns,∀u,V4 hs ws m u->t.length<u.length\/(t.length=u.length/\(l<m\/(l=m/\(t=u\/sl t u))))
def FRi.keep {hs:List Int}{ws:List (Int×Int)}{ns r f:List Int}{l:Int} (h:FRi hs ws ns r) (hl:∀m∈ns,m<l) (hf:RF hs ws l f) (c:f=[]\/(r≠[]/\r.length<=f.length)):FRi hs ws (ns++[l]) r:=by
 rcases h with⟨rfl,h⟩|⟨l',t,rfl,h1,h2,h3⟩
 ·rcases c with rfl|⟨c,_⟩
  ·rcases hf with⟨_,hf⟩|⟨t,e,_⟩
   ·refine .inl ⟨rfl,fun m hm=>?_⟩;rcases ZU.mp hm with hm|hm
    ·exact h m hm
    ·rw[ZA.mp hm];exact hf
   ·cases e
  ·exact absurd rfl c
 ·refine .inr ⟨l',t,rfl,YZ _ h1,h2,fun m hm u hu=>?_⟩;rcases ZU.mp hm with hm|hm
  ·exact h3 m hm u hu
  ·rw[ZA.mp hm]at hu ⊢;rcases hf with⟨rfl,hf⟩|⟨s,rfl,_,hf⟩
   ·exact absurd hu (hf u)
   ·rcases c with c|⟨_,c⟩
    ·cases c
    ·have hl':=hl l' h1;simp at c;rcases hf u hu with z|⟨z,_⟩
     ·exact .inl (by omega)
     ·by_cases e:t.length<u.length
      ·exact .inl e
      ·exact .inr ⟨by omega,.inl hl'⟩
def FRi.take {hs:List Int}{ws:List (Int×Int)}{ns r f:List Int}{l:Int} (h:FRi hs ws ns r) (hl:∀m∈ns,m<l) (hf:RF hs ws l f) (c:f≠[]/\(r=[]\/f.length<r.length)):FRi hs ws (ns++[l]) f:=by
 rcases hf with⟨rfl,_⟩|⟨s,rfl,f1,f2⟩
 ·exact absurd rfl c.1
 ·refine .inr ⟨l,s,rfl,ZY _ (ZA.mpr rfl),f1,fun m hm u hu=>?_⟩;rcases ZU.mp hm with hm|hm
  ·rcases h with⟨rfl,h⟩|⟨l',t,rfl,h1,h2,h3⟩
   ·exact absurd hu (h m hm u)
   ·rcases c.2 with c|c
    ·cases c
    ·simp at c;rcases h3 m hm u hu with z|⟨z,_⟩
     ·exact .inl (by omega)
     ·exact .inl (by omega)
  ·rw[ZA.mp hm]at hu ⊢;rcases f2 u hu with z|⟨z,z2⟩
   ·exact .inl z
   ·exact .inr ⟨z,.inr ⟨rfl,z2⟩⟩
def FRi.all {hs:List Int}{ws:List (Int×Int)}{ns r:List Int} (hp:∀z,z∈ns↔z∈hs) (h:FRi hs ws ns r):FR hs ws r:=by
 rcases h with⟨rfl,h⟩|⟨l,t,rfl,h1,h2,h3⟩
 ·exact .inl ⟨rfl,fun l hl=>h l ((hp l).mpr hl)⟩
 ·exact .inr ⟨l,t,rfl,(hp l).mp h1,h2,fun m hm=>h3 m ((hp m).mpr hm)⟩
end M
namespace T
open PySem PySem.Spec PyProof.Rows L2 Own M
section
variable {P:Program}{w:World}{K:Za}{mg:Str->Option Value}{base:Heap}
def AD(G:Glob K mg)(D:Def K mg "holders_of" XY ["strips"])
  : Callee P w K mg base CX0 1 "holders_of" ["strips"] (Nu K):=by
 refine D.ok (k:=0) Dc (fun vs H Q E h=>?_) (fun f cdv A outer s H vs Q E hr h=>?_)
 ·obtain⟨l,ps,rfl,⟨vs,hl,hv⟩,hF,hz,q⟩:=h;rfl
 ·obtain⟨l,ps,rfl,⟨vs,hl,hv⟩,hF,hz,q⟩:=h;refine⟨_,(QI (QT (Vk (NK rfl) (by rfl) G.sorted boot_sorted (QF (JC (AB rfl) (by rfl) G.set boot_set (QF (VA (N':=["holder","width"]) (φ:=[none,none]) rfl (Own.CompOk.of (by rfl)) (Jw (pv 0)) (fun _ _ _ _ _=>⟨(XT (K:=K) (n:=2) rfl (Jx (V1 (i:=0) (show(["holder","width"]:List Str).Nodup from by decide +kernel) rfl (by first|exact Or.inl rfl|exact Or.inr rfl)) (Jx (V1 (i:=1) (show(["holder","width"]:List Str).Nodup from by decide +kernel) rfl (by first|exact Or.inl rfl|exact Or.inr rfl)) Xe))),VW,(pv 0)⟩)) QM)) QM)))),?_⟩
  have e1:=hv.1;refine⟨_,rfl,l,rfl,⟨_,SqL.of hl⟩,fun D nD=>Ul (ds:=ps) (fun d=>some (V.int d.1)) (SqL.of hl) e1 nD (ZW hz (by decide)) (fun i x d H2 hx hd S k hk=>?_) ?_⟩
  ·obtain⟨d',hd',a,rfl,ha⟩:=hv.get hx;rw[hd]at hd';cases hd'
   exact⟨a,_,rfl,SqT.of (S _ _ ha),rfl,_,_,rfl,_,_,rfl,rfl,.skip (.skip .refl),_,rfl,hk⟩
  ·have em:ps.filterMap (fun d=>some (V.int d.1))=(ps.map (·.1)).map V.int:=by
    rw[YR,Yr];rfl
   rw[em];have S1:Same H (upd H D (.lst ((ps.map (·.1)).map V.int))):=QX nD;refine⟨D,ps.map (·.1),rfl,SqL.of QR,by rw[Z6];omega,fun s1 n1=>?_⟩;have S2:=Own.Same.new (o:=SetH w s1 ((ps.map (·.1)).foldl SetR.addJ [])) S1 n1;refine⟨s1,_,rfl,?_,.inr QR,fun r ns n2 hp hs=>?_⟩
   ·have:=TB (ps.map (·.1)) []
    rw[Z6]at this;simp at this ⊢;omega
   ·rw[Ck hF hp hs];exact q r _ (S2.free n2) (Own.Same.new S2 n2) QR
def AL(G:Glob K mg)(D:Def K mg "pair_cost" Xs ["strips","ahead","behind"])
  : Callee P w K mg base CX0 1 "pair_cost" ["strips","ahead","behind"] (Nw K):=by
 refine D.ok (k:=0) JA (fun vs H Q E h=>?_) (fun f cdv A outer s H vs Q E hr h=>?_)
 ·obtain⟨l,ps,x,y,rfl,⟨vs,hl,hv⟩,hF,q⟩:=h;rfl
 ·obtain⟨l,ps,x,y,rfl,⟨vs,hl,hv⟩,hF,q⟩:=h
  refine⟨_,(QH (Pu.pz 3 JA.nd QG)
   (QH (Pu.pz 4 JA.nd QG)
   (QH (Vn Yc rfl (Jw (pv 0)) (PZ rfl (Jx (V1 (i:=5) JA.nd rfl (by first|exact Or.inl rfl|exact Or.inr rfl)) (Jx (V1 (i:=6) JA.nd rfl (by first|exact Or.inl rfl|exact Or.inr rfl)) Xe)))
   (QI (Vd (Ve op_eq (pv 5) (pv 2) (Vv _))
   (QI (Te (i:=3) JA.nd rfl (by first|exact Or.inl rfl|exact Or.inr rfl) (pv 6) Ts))
   (QI (Vd (Ve op_eq (pv 5) (pv 1) (Vv _))
   (QI (Te (i:=4) JA.nd rfl (by first|exact Or.inl rfl|exact Or.inr rfl) (QK J7 (pv 3) (pv 6)) Ts))
   Vg)))))
   (QI (QT (pv 4)))))),?_⟩
  refine⟨_,rfl,l,rfl,⟨_,SqL.of hl⟩,P1 (xs:=vs) (fun i σ H2=>H2=H/\∃(u v:Option V),σ=[some (.ref l),some (.int x),some (.int y),some (.int (tpM ps y i)),some (.int (pcM ps x y i)),u,v]) ⟨rfl,none,none,rfl⟩ (fun i σ H2 _ h=>by rw[h.1];exact SqL.of hl) ?_ ?_⟩
  ·rintro i v σ H2 hi ⟨rfl,u,v',rfl⟩;obtain⟨p,ep,a,rfl,ha⟩:=hv.get hi;have hp:ps.getD i (0,0)=p:=by rw[Z7,ep];rfl
   have hw:=hF p (Yb ep);refine⟨a,_,rfl,SqT.of ha,rfl,_,_,rfl,_,_,rfl,rfl,?_⟩;refine⟨_,rfl,_,rfl,rfl,_,rfl,ite2 (fun h=>?_) (fun h=>?_)⟩
   ·have e:p.1=y:=V.int.inj (ZZ h);refine⟨_,rfl,_,rfl,_,_,rfl,rfl,rfl,some (.int p.1),some (.int p.2),?_⟩;have e1:tpM ps y (i+1)=tpM ps y i+p.2:=by simp only[tpM];rw[hp,ZH e]
    have e2:pcM ps x y (i+1)=pcM ps x y i:=by
     simp only[pcM];rw[hp,ZG (by rintro⟨z1,z2⟩;exact z1 (z2.symm.trans e))];omega
    rw[e1,e2];rfl
   ·have e:¬p.1=y:=fun z=>h (ZC (Yg V.int z));have e1:tpM ps y (i+1)=tpM ps y i:=by simp only[tpM];rw[hp,ZG e];omega
    refine⟨_,rfl,_,rfl,rfl,_,rfl,ite2 (fun h'=>?_) (fun h'=>?_)⟩
    ·have e':p.1=x:=V.int.inj (ZZ h')
     have e2:pcM ps x y (i+1)=pcM ps x y i+tpM ps y i*p.2:=by
      simp only[pcM];rw[hp,ZH ⟨fun z=>e (e'.trans z),e'⟩]
     refine⟨_,rfl,_,rfl,_,rfl,_,_,rfl,rfl,.inr ⟨by omega,by omega⟩,_,_,rfl,rfl,rfl,some (.int p.1),some (.int p.2),?_⟩;rw[e1,e2];rfl
    ·have e':¬p.1=x:=fun z=>h' (ZC (Yg V.int z))
     have e2:pcM ps x y (i+1)=pcM ps x y i:=by
      simp only[pcM];rw[hp,ZG (by rintro⟨z1,z2⟩;exact e' z2)];omega
     refine⟨rfl,some (.int p.1),some (.int p.2),?_⟩;rw[e1,e2];rfl
  ·rintro σ H2 ⟨rfl,u,v,rfl⟩;rw[hv.1];exact⟨_,rfl,q⟩
def FA(G:Glob K mg)(D:Def K mg "_law_at" KW ["_law_script","_law_k"])
  : Callee P w K mg base CX0 1 "_law_at" ["_law_script","_law_k"] (XC K):=by
 refine D.ok (k:=0) F7 (fun vs H Q E h=>?_) (fun f cdv A outer s H vs Q E hr h=>?_)
 ·obtain⟨a,ns,k,rfl,hS,hk,q⟩:=h;rfl
 ·obtain⟨a,ns,k,rfl,hS,hk,q⟩:=h
  refine⟨_,(QH (Vd (Ve NP (pv 1) (Vk Jt (by rfl) G.len YQ (QF (pv 0) QM)) (Vv _))
   (QI (QT (Vc Vh (pv 0) (pv 1) (fun _ _=>rfl))))
   Vg)
   (QI (QT QG))),?_⟩
  refine⟨_,rfl,_,rfl,_,_,rfl,.inl ⟨_,hS,rfl⟩,_,_,rfl,rfl,_,rfl,?_⟩;refine ite2 (fun h=>?_) (fun h=>?_)
  ·have h':k<((ns.map V.int).length:Int):=ZZ h;rw[Z6]at h';have hn:k.toNat<ns.length:=by omega
   refine⟨_,rfl,_,rfl,.inl ⟨_,_,_,.int (ns.getD k.toNat 0),rfl,rfl,hS,KA hk ?_,q⟩⟩;rw[ZD,Z7,Z5 hn];rfl
  ·have h':¬k<((ns.map V.int).length:Int):=fun z=>h (ZC z);rw[Z6]at h'
   have e:ns.getD k.toNat 0=0:=by
    rw[Z7,List.getElem?_eq_none_iff.mpr (by omega)];rfl
   rw[e]at q;exact q
def BA(G:Glob K mg)(D:Def K mg "_law_whole" K8 ["_law_found"])
  : Callee P w K mg base CX0 1 "_law_whole" ["_law_found"] (KY K):=by
 refine D.ok (k:=0) DF (fun vs H Q E h=>?_) (fun f cdv A outer s H vs Q E hr h=>?_)
 ·obtain⟨i,rfl,q⟩:=h;rfl
 ·obtain⟨i,rfl,q⟩:=h;refine⟨_,(QI (QT (Sn (Vk Ux (by rfl) G.isinstance W9 (QF (pv 0) (QF (Us (v:=.ty "int") rfl G.int boot_int rfl) QM))) (Px (P8 (Vk Ux (by rfl) G.isinstance W9 (QF (pv 0) (QF (Us (v:=.ty "bool") rfl G.bool boot_bool rfl) QM)))))))),?_⟩;refine⟨_,rfl,_,_,_,_,rfl,.int _,U9 _ _,_,rfl,iteT ?_⟩;exact⟨_,rfl,_,_,_,_,rfl,.int _,Ek _,_,rfl,q⟩
def As(G:Glob K mg)(D:Def K mg "_law_mix" KQ ["_law_cell","_law_place"])
  : Callee P w K mg base CX0 1 "_law_mix" ["_law_cell","_law_place"] (Sd K):=by
 refine D.ok (k:=0) SE (fun vs H Q E h=>?_) (fun f cdv A outer s H vs Q E hr h=>?_)
 ·obtain⟨c,p,rfl,q⟩:=h;rfl
 ·obtain⟨c,p,rfl,q⟩:=h
  refine⟨_,(QH (Pu.pz 2 SE.nd (QK Vp (QK J7 (QK V0 (QK V0 (QK Vp (pv 0) QG) (QK J7 QG (pv 1))) QG) QG) QG))
   (QI (QT (QK Vp (QK J7 (QK V0 (QK V0 (pv 2) (QK J7 QG (pv 1))) QG) QG) QG)))),?_⟩
  refine⟨_,rfl,_,_,rfl,rfl,(by show(0:Int)<2147483647;decide),_,rfl,_,_,rfl,rfl,.inl ⟨by decide,by decide⟩,_,_,rfl,rfl,_,_,rfl,rfl,_,_,rfl,rfl,.inr ⟨by decide,by decide⟩,_,_,rfl,rfl,(by show(0:Int)<2147483647;decide),?_⟩;refine⟨_,rfl,_,rfl,_,_,rfl,rfl,.inl ⟨by decide,by decide⟩,_,_,rfl,rfl,_,_,rfl,rfl,_,_,rfl,rfl,.inr ⟨by decide,by decide⟩,_,_,rfl,rfl,(by show(0:Int)<2147483647;decide),?_⟩;exact q
def Bp(G:Glob K mg)(D:Def K mg "_law_menu" Xy ["_law_cell"])
  : Callee P w K mg base CX0 1 "_law_menu" ["_law_cell"] (ND K):=by
 refine D.ok (k:=0) KN (fun vs H Q E h=>?_) (fun f cdv A outer s H vs Q E hr h=>?_)
 ·obtain⟨c,rfl,q⟩:=h;rfl
 ·obtain⟨c,rfl,q⟩:=h
  refine⟨_,(QH (Pu.pz 1 KN.nd (Vc Vh (Vq (QF QG (QF QG (QF QG (QF QG (QF QG QM)))))) (QK Vp (QK Jq (pv 0) QG) QG) (fun _ _=>rfl)))
   (QH (Pu.pz 2 KN.nd (Vc Vh (Vq (QF QG (QF QG (QF QG (QF QG (QF QG QM)))))) (QK Vp (QK Jq (pv 0) QG) QG) (fun _ _=>rfl)))
   (QI (QT (Vq (QF (QK V0 QG (QK Vp (pv 0) QG)) (QF (Vc Vh (Vq (QF QG (QF QG (QF QG (QF QG QM))))) (QK Vp (QK Jq (pv 0) QG) QG) (fun _ _=>rfl)) (QF (QK Vp (QK Jq (pv 0) QG) QG) (QF (pv 1) (QF (pv 2) QM)))))))))),?_⟩
  have h1:0<=c / 10 % 4/\c / 10 % 4<4:=by omega
  have h2:0<=c / 400 % 5/\c / 400 % 5<5:=by omega
  refine⟨by decide,fun l1 n1=>⟨_,rfl,_,_,rfl,rfl,⟨by decide,by decide⟩,_,_,rfl,rfl,(by show(0:Int)<5;decide),.inl ⟨_,_,_,_,rfl,rfl,SqL.of QR,Xb (xs:=[1000,3,1,2,3]) h2.1 h2.2,?_⟩⟩⟩;refine⟨by decide,fun l2 n2=>⟨_,rfl,_,_,rfl,rfl,⟨by decide,by decide⟩,_,_,rfl,rfl,(by show(0:Int)<5;decide),.inl ⟨_,_,_,_,rfl,rfl,SqL.of QR,Xb (xs:=[1,1,1,1,998]) h2.1 h2.2,?_⟩⟩⟩;refine⟨_,rfl,_,_,rfl,rfl,(by show(0:Int)<10;decide),_,_,rfl,rfl,by decide,fun l3 n3=>⟨_,rfl,_,_,rfl,rfl,⟨by decide,by decide⟩,_,_,rfl,rfl,(by show(0:Int)<4;decide),.inl ⟨_,_,_,_,rfl,rfl,SqL.of QR,Xb (xs:=[1,3,7,9]) h1.1 h1.2,?_⟩⟩⟩;refine⟨_,rfl,_,_,rfl,rfl,⟨by decide,by decide⟩,_,_,rfl,rfl,(by show(0:Int)<10;decide),_,rfl,_,rfl,(by show 5<=sizeLine;decide),fun l4 n4=>?_⟩;have S1:Same H (upd H l1 (.lst ([1000,3,1,2,3].map V.int))):=QX n1;have S2:=Own.Same.new (o:=.lst ([1,1,1,1,998].map V.int)) S1 n2;have S3:=Own.Same.new (o:=.lst ([1,3,7,9].map V.int)) S2 n3;have S4:=Own.Same.new (o:=.lst ((J0 c).map V.int)) S3 n4;exact q l4 _ (S3.free n4) S4 QR (Cm c)
def CV(G:Glob K mg)(D:Def K mg "_law_holder" Xz ["_law_menu_here","_law_k"])
  : Callee P w K mg base CX0 1 "_law_holder" ["_law_menu_here","_law_k"] (KZ K):=by
 refine D.ok (k:=0) DM (fun vs H Q E h=>?_) (fun f cdv A outer s H vs Q E hr h=>?_)
 ·obtain⟨l,m,k,rfl,hS,hM,q⟩:=h;rfl
 ·obtain⟨l,m,k,rfl,hS,hM,q⟩:=h;refine⟨_,(QI (QT (QK V0 QG (QK Vp (QK V0 (QK J7 (pv 1) (Vc Vh (pv 0) QG (fun _ _=>rfl))) (Vc Vh (pv 0) QG (fun _ _=>rfl))) QG)))),?_⟩;obtain⟨a,b,c,d,e,rfl,ha,hb,hc,hd,he⟩:=hM;refine⟨_,rfl,_,rfl,.inl ⟨_,_,_,_,rfl,rfl,hS,rfl,?_⟩⟩;refine⟨_,_,rfl,rfl,.inr ⟨by omega,by omega⟩,_,rfl,.inl ⟨_,_,_,_,rfl,rfl,hS,rfl,?_⟩⟩;exact⟨_,_,rfl,rfl,_,_,rfl,rfl,(by show(0:Int)<10;decide),_,_,rfl,rfl,q⟩
def F2(G:Glob K mg)(D:Def K mg "_law_present" Kq ["_law_strips_here"])
  : Callee P w K mg base CX0 1 "_law_present" ["_law_strips_here"] (SR K):=by
 refine D.ok (k:=0) Nd (fun vs H Q E h=>?_) (fun f cdv A outer s H vs Q E hr h=>?_)
 ·obtain⟨l,ps,rfl,⟨vs,hl,hv⟩,hz,q⟩:=h;rfl
 ·obtain⟨l,ps,rfl,⟨vs,hl,hv⟩,hz,q⟩:=h
  refine⟨_,(QH (Pu.pz 1 Nd.nd (VA (N':=["_law_strip"]) (φ:=[none]) rfl (Own.CompOk.of (by rfl)) (Jw (pv 0)) (fun _ _ _ _ _=>⟨(V1 (i:=0) (show(["_law_strip"]:List Str).Nodup from by decide +kernel) rfl (by first|exact Or.inl rfl|exact Or.inr rfl)),VW,(Vc (Ut (K:=K)) (pv 0) QG (fun _ _=>rfl))⟩)))
   (QI (QT (VA (N':=["_law_holder_here","_law_owners"]) (φ:=[none,some 1]) rfl (Own.CompOk.of (by rfl)) (Pg rfl G.range (QF QG (QF QG QM))) (fun _ _ _ _ _=>⟨(V1 (i:=0) (show(["_law_holder_here","_law_owners"]:List Str).Nodup from by decide +kernel) rfl (by first|exact Or.inl rfl|exact Or.inr rfl)),(Jp (Ve (Ua (K:=K)) (pv 0) (pv 1) (by with_unfolding_all rfl))),(pv 0)⟩))))),?_⟩
  have e1:=hv.1;refine⟨_,rfl,l,rfl,⟨_,SqL.of hl⟩,fun D nD=>Ul (ds:=ps) (fun d=>some (V.int d.1)) (SqL.of hl) e1 nD (ZW hz (by decide)) (fun i x d H2 hx hd S k hk=>?_) ?_⟩
  ·obtain⟨d',hd',a,rfl,ha⟩:=hv.get hx;rw[hd]at hd';cases hd'
   exact⟨.skip .refl,_,rfl,.inr ⟨_,_,_,_,rfl,rfl,SqT.of (S _ _ ha),rfl,hk⟩⟩
  ·have em:ps.filterMap (fun d=>some (V.int d.1))=(ps.map (·.1)).map V.int:=by
    rw[YR,Yr];rfl
   rw[em];have S1:Same H (upd H D (.lst ((ps.map (·.1)).map V.int))):=QX nD;have hD:(upd H D (.lst ((ps.map (·.1)).map V.int))) D=some (.lst ((ps.map (·.1)).map V.int)):=QR;generalize upd H D (.lst ((ps.map (·.1)).map V.int))=H1 at S1 hD ⊢;refine⟨1,11,rfl,by decide,fun D2 nD2=>DZ (fun i=>if decide ((1:Int)+(i:Int)∈ps.map (·.1))=true then some (V.int (1+(i:Int)))else none) nD2 (by decide) (fun i H2 hi S2 k hk=>?_) ?_⟩
   ·refine⟨.skip (.keep .refl),_,rfl,_,rfl,D,_,rfl,.inl (SqL.of (S2 _ _ hD)),rfl,VT _,_,rfl,?_⟩;show if inV (V.int (1+(i:Int))) ((ps.map (·.1)).map V.int)=true then _ else _;rw[JN];by_cases h:(1:Int)+(i:Int)∈ps.map (·.1)
    ·rw[ZC h]at hk ⊢;exact iteT ⟨_,rfl,hk⟩
    ·rw[ZM h]at hk ⊢;exact iteF hk
   ·have e10:((11:Int)-1).toNat=10:=rfl;rw[e10,BX];exact q D2 _ (S1.free nD2) (Own.Same.new S1 nD2) QR
def CW(G:Glob K mg)(D:Def K mg "_law_no_ring" Kk ["_law_holders","_law_wishes_here"])
  : Callee P w K mg base CX0 1 "_law_no_ring" ["_law_holders","_law_wishes_here"] (Nh K):=by
 refine D.ok (k:=0) JT (fun vs H Q E h=>?_) (fun f cdv A outer s H vs Q E hr h=>?_)
 ·obtain⟨l,p,hs,ws,rfl,hl,hz,hp,hw,q⟩:=h;rfl
 ·obtain⟨l,p,hs,ws,rfl,hl,hz,hp,hw,q⟩:=h
  refine⟨_,(QH (Pu.pz 2 JT.nd (JC NG (by rfl) G.list boot_list (QF (pv 0) QM)))
   (QH (Vn Yc rfl (Jw (pv 0)) (V1 (i:=3) JT.nd rfl (by first|exact Or.inl rfl|exact Or.inr rfl))
   (QH (J6 (N':=["_law_pair","_law_left"]) (φ:=[none,some 2]) (i:=4) JT.nd rfl rfl rfl (Own.CompOk.of (by rfl)) (Jw (pv 1)) (fun _ _ _ _ _=>⟨(V1 (i:=0) (show(["_law_pair","_law_left"]:List Str).Nodup from by decide +kernel) rfl (by first|exact Or.inl rfl|exact Or.inr rfl)),(Jp (PW.pt (U0 (Ve (Ua (K:=K)) (Vc (Ut (K:=K)) (pv 0) QG (fun _ _=>rfl)) (pv 1) (by with_unfolding_all rfl)) (U4 (Ve (Ua (K:=K)) (Vc (Ut (K:=K)) (pv 0) QG (fun _ _=>rfl)) (pv 1) (by with_unfolding_all rfl)))))),(pv 0)⟩))
   (QH (Pu.pz 5 JT.nd (VA (N':=["_law_pair"]) (φ:=[none]) rfl (Own.CompOk.of (by rfl)) (Jw (pv 4)) (fun _ _ _ _ _=>⟨(V1 (i:=0) (show(["_law_pair"]:List Str).Nodup from by decide +kernel) rfl (by first|exact Or.inl rfl|exact Or.inr rfl)),VW,(Vc (Ut (K:=K)) (pv 0) QG (fun _ _=>rfl))⟩)))
   (QI (Pu.pz 2 JT.nd (VA (N':=["_law_holder_here","_law_behind"]) (φ:=[none,some 5]) rfl (Own.CompOk.of (by rfl)) (Jw (pv 2)) (fun _ _ _ _ _=>⟨(V1 (i:=0) (show(["_law_holder_here","_law_behind"]:List Str).Nodup from by decide +kernel) rfl (by first|exact Or.inl rfl|exact Or.inr rfl)),(Jp (Ve (Ua (K:=K)) (pv 0) (pv 1) (by with_unfolding_all rfl))),(pv 0)⟩)))))))
   (QI (QT (Kv (N9 hr.units0) (pv 2) (Vq QM) (Vv _)))))),?_⟩
  refine⟨_,rfl,_,_,rfl,.inl hl,fun L nL=>?_⟩;have S1:=QX (o:=.lst (hs.map V.int)) nL;have hL:(upd H L (.lst (hs.map V.int))) L=some (.lst (hs.map V.int)):=QR;generalize upd H L (.lst (hs.map V.int))=H1 at S1 hL ⊢;refine⟨_,rfl,l,rfl,⟨_,S1.seq hl⟩,P1 (xs:=hs.map V.int) (fun i σ H'=>Same H H'/\∃(c:Addr) (y1 y2 y3:Option V),σ=[some (.ref l),some (.ref p),some (.ref c),y1,y2,y3]/\H' c=some (.lst ((QZ ws hs i).map V.int))/\(QZ ws hs i).length<=50) ⟨S1,L,none,none,none,rfl,hL,hz⟩ (fun i σ H' _ h=>h.1.seq hl) ?_ ?_⟩
  ·rintro i x σ H2 hi ⟨S2,c,y1,y2,y3,rfl,hc,hcz⟩;generalize els:QZ ws hs i=ls at hc hcz;have hp2:=hp.mono PairR.mono S2;obtain⟨us,hp1,hu⟩:=id hp2;refine⟨_,rfl,p,rfl,⟨_,SqL.of hp1⟩,fun D nD=>Ul (ds:=us.zip ws) (pick fun q=>decide (q.1∈ls)&&decide (q.2∈ls)) (SqL.of hp1) (by rw[hu.zip_len,hu.1]) nD (ZW (show(us.zip ws).length<=50 by rw[hu.zip_len];exact hw) (by decide)) (fun j x d H3 hx hd S k hk=>?_) ?_⟩
   ·obtain⟨e0,b,eb,hb⟩:=hu.zip_get hx hd;subst eb;have hb3:=S _ _ hb;have hc3:=S _ _ hc;refine⟨.skip (.keep .refl),_,rfl,.inr ⟨_,_,_,_,rfl,rfl,SqT.of hb3,rfl,_,rfl,c,_,rfl,.inl (SqL.of hc3),rfl,VT _,_,rfl,?_⟩⟩;show if inV (V.int d.2.1) (ls.map V.int)=true then _ else _;rw[JN];by_cases c1:d.2.1∈ls
    ·rw[ZC c1];refine iteT ⟨_,rfl,.inr ⟨_,_,_,_,rfl,rfl,SqT.of hb3,rfl,_,rfl,c,_,rfl,.inl (SqL.of hc3),rfl,VT _,_,rfl,?_⟩⟩;show if inV (V.int d.2.2) (ls.map V.int)=true then _ else _;rw[JN];by_cases c2:d.2.2∈ls
     ·rw[ZC c2];refine iteT ⟨_,rfl,?_⟩;have e2:pick (fun q:Int×Int=>decide (q.1∈ls)&&decide (q.2∈ls)) d=some (.ref b):=(ZH (show(decide (d.2.1∈ls)&&decide (d.2.2∈ls))=true by rw[ZC c1,ZC c2];rfl)).trans (Yg some e0);rw[e2]at hk;exact hk
     ·rw[ZM c2];have e2:pick (fun q:Int×Int=>decide (q.1∈ls)&&decide (q.2∈ls)) d=none:=ZG (show ¬(decide (d.2.1∈ls)&&decide (d.2.2∈ls))=true by rw[ZM c2,Qs];decide);rw[e2]at hk;exact iteF hk
    ·rw[ZM c1];have e2:pick (fun q:Int×Int=>decide (q.1∈ls)&&decide (q.2∈ls)) d=none:=ZG (show ¬(decide (d.2.1∈ls)&&decide (d.2.2∈ls))=true by rw[ZM c1,Bool.false_and];decide);rw[e2]at hk;exact iteF (iteF hk)
   have S3:=QX (o:=.lst ((us.zip ws).filterMap (pick fun q=>decide (q.1∈ls)&&decide (q.2∈ls)))) nD;have hD:LAt PairR (upd H2 D (.lst ((us.zip ws).filterMap (pick fun q=>decide (q.1∈ls)&&decide (q.2∈ls))))) D (JJ ws ls):=⟨_,QR,(hu.pick _).mono PairR.mono S3⟩;generalize upd H2 D (.lst ((us.zip ws).filterMap (pick fun q=>decide (q.1∈ls)&&decide (q.2∈ls))))=H3 at S3 hD ⊢;have hil:(JJ ws ls).length<=50:=ZW (Yz _ _) hw;unfold QZ;rw[els];unfold VC;generalize JJ ws ls=is at hD hil ⊢;obtain⟨vs,hD1,hv⟩:=id hD;refine⟨_,rfl,D,rfl,⟨_,SqL.of hD1⟩,fun B nB=>Ul (ds:=is) (fun d=>some (V.int d.2)) (SqL.of hD1) hv.1 nB (ZW hil (by decide)) (fun j x d H4 hx hd S k hk=>?_) ?_⟩
   ·obtain⟨d',hd',b,rfl,hb⟩:=hv.get hx;rw[hd]at hd';cases hd'
    exact⟨.skip .refl,_,rfl,.inr ⟨_,_,_,_,rfl,rfl,SqT.of (S _ _ hb),rfl,hk⟩⟩
   have em:is.filterMap (fun d=>some (V.int d.2))=(is.map (·.2)).map V.int:=by
    rw[YR,Yr];rfl
   rw[em];have S4:=QX (o:=.lst ((is.map (·.2)).map V.int)) nB;have hB:(upd H3 B (.lst ((is.map (·.2)).map V.int))) B=some (.lst ((is.map (·.2)).map V.int)):=QR;generalize upd H3 B (.lst ((is.map (·.2)).map V.int))=H4 at S4 hB ⊢;generalize is.map (·.2)=bs at hB ⊢;have hc4:=S4 _ _ (S3 _ _ hc);refine⟨_,rfl,c,rfl,⟨_,SqL.of hc4⟩,fun N nN=>Ul (ds:=ls) (fun h=>if decide (h∈bs)=true then some (V.int h)else none) (SqL.of hc4) (by rw[Z6]) nN (ZW hcz (by decide)) (fun j x h H5 hx hd S k hk=>?_) ?_⟩
   ·have ex:x=.int h:=by
     rw[ZD,hd]at hx;exact(ZE hx).symm
    subst ex;refine⟨.skip (.keep .refl),_,rfl,_,rfl,B,_,rfl,.inl (SqL.of (S _ _ hB)),rfl,VT _,_,rfl,?_⟩;show if inV (V.int h) (bs.map V.int)=true then _ else _;rw[JN];by_cases c1:h∈bs
    ·rw[ZC c1]at hk ⊢;exact iteT ⟨_,rfl,hk⟩
    ·rw[ZM c1]at hk ⊢;exact iteF hk
   have en:ls.filterMap (fun h=>if decide (h∈bs)=true then some (V.int h)else none)=(ls.filter fun h=>decide (h∈bs)).map V.int:=by
    exact X5 _ _
   rw[en];refine⟨((S2.trans S3).trans S4).trans (QX nN),N,_,_,_,rfl,QR,ZW (Yz _ _) hcz⟩
  ·rintro σ H2 ⟨S2,c,y1,y2,y3,rfl,hc,hcz⟩;rw[Z6]at hc hcz;refine⟨_,rfl,by decide,fun e ne=>⟨c,e,_,_,rfl,rfl,SqL.of (QX ne _ _ hc),SqL.of QR,VT _,rfl,?_⟩⟩;show Q (.bl (eqL ((QZ ws hs hs.length).map V.int) (([]:List Int).map V.int))) _;rw[Ks];exact q _ (S2.trans (QX ne))
def Bn(G:Glob K mg)(D:Def K mg "_law_draw" KH ["_law_script","_law_k"])(Zh:Callee P w K mg base CX0 1 "_law_mix" ["_law_cell","_law_place"] (Sd K))(Zc:Callee P w K mg base CX0 1 "_law_at" ["_law_script","_law_k"] (XC K))
  : Callee P w K mg base CX0 2 "_law_draw" ["_law_script","_law_k"] (UW K):=by
 refine D.ok (k:=1) Ea (fun vs H Q E h=>?_) (fun f cdv A outer s H vs Q E hr h=>?_)
 ·obtain⟨a,ns,k,rfl,hS,hk,q⟩:=h;rfl
 ·obtain⟨a,ns,k,rfl,hS,hk,q⟩:=h
  refine⟨_,(QH (Vd (Ve op_eq (QK Vp (VL Zc (hr.mono (by decide)) VG (QF (pv 0) (QF QG QM))) QG) QG (Vv _))
   (QI (QT (VL Zc (hr.mono (by decide)) VG (QF (pv 0) (QF (QK V0 QG (pv 1)) QM)))))
   Vg)
   (QI (QT (VL Zh (hr.mono (by decide)) VG (QF (VL Zc (hr.mono (by decide)) VG (QF (pv 0) (QF QG QM))) (QF (pv 1) QM)))))),?_⟩
  refine⟨_,rfl,a,ns,0,rfl,hS,by decide,_,_,rfl,rfl,(by show(0:Int)<2;decide),rfl,_,rfl,?_⟩;refine ite2 (fun h=>?_) (fun h=>?_)
  ·have e:ns.getD 0 0 % 2=0:=V.int.inj (ZZ h);unfold VE at q;rw[ZH e]at q;exact⟨_,rfl,_,rfl,_,_,rfl,rfl,a,ns,_,rfl,hS,by omega,q⟩
  ·have e:¬ns.getD 0 0 % 2=0:=fun z=>h (ZC (Yg V.int z));unfold VE at q;rw[ZG e]at q;exact⟨_,rfl,a,ns,1,rfl,hS,by decide,_,rfl,_,_,rfl,q⟩
def AM(G:Glob K mg)(D:Def K mg "_law_tuples" XN ["_law_found","_law_due"])(Zf:Callee P w K mg base CX0 1 "_law_whole" ["_law_found"] (KY K))
  : Callee P w K mg base CX0 2 "_law_tuples" ["_law_found","_law_due"] (SM K):=by
 refine D.ok (k:=1) X1 (fun vs H Q E h=>?_) (fun f cdv A outer s H vs Q E hr h=>?_)
 ·obtain⟨l,l',ps,rfl,⟨vs,hl,hv⟩,⟨us,hl',hu⟩,hz,q⟩:=h;rfl
 ·obtain⟨l,l',ps,rfl,⟨vs,hl,hv⟩,⟨us,hl',hu⟩,hz,q⟩:=h
  refine⟨_,(QH (Vd (PW.pt (JQ (Jo (KO (Vk Ux (by rfl) G.isinstance W9 (QF (pv 0) (QF (Us (v:=.ty "list") rfl G.list boot_list rfl) QM))))) (JP (Ve op_ne (Vk Jt (by rfl) G.len YQ (QF (pv 0) QM)) (Vk Jt (by rfl) G.len YQ (QF (pv 1) QM)) (Vv _)))))
   (QI (QT V7))
   Vg)
   (QH (Vn Yc rfl (J2 rfl G.range (QF (Vk Jt (by rfl) G.len YQ (QF (pv 1) QM)) QM)) (V1 (i:=2) X1.nd rfl (by first|exact Or.inl rfl|exact Or.inr rfl))
   (QH (Vd (PW.pt (JQ (Jo (KO (Vk Ux (by rfl) G.isinstance W9 (QF (Vc Vh (pv 0) (pv 2) (fun _ _=>rfl)) (QF (Us (v:=.ty "tuple") rfl G.tuple boot_tuple rfl) QM))))) (JP (Ve op_ne (Vk Jt (by rfl) G.len YQ (QF (Vc Vh (pv 0) (pv 2) (fun _ _=>rfl)) QM)) (Vk Jt (by rfl) G.len YQ (QF (Vc Vh (pv 1) (pv 2) (fun _ _=>rfl)) QM)) (Vv _)))))
   (QI (QT V7))
   Vg)
   (QI (Vn Yc rfl (J2 rfl G.range (QF (Vk Jt (by rfl) G.len YQ (QF (Vc Vh (pv 1) (pv 2) (fun _ _=>rfl)) QM)) QM)) (V1 (i:=3) X1.nd rfl (by first|exact Or.inl rfl|exact Or.inr rfl))
   (QI (Vd (PW.pt (JQ (Jo (KO (VL Zf (hr.mono (by decide)) VG (QF (Vc Vh (Vc Vh (pv 0) (pv 2) (fun _ _=>rfl)) (pv 3) (fun _ _=>rfl)) QM)))) (JP (Ve op_ne (Vc Vh (Vc Vh (pv 0) (pv 2) (fun _ _=>rfl)) (pv 3) (fun _ _=>rfl)) (Vc Vh (Vc Vh (pv 1) (pv 2) (fun _ _=>rfl)) (pv 3) (fun _ _=>rfl)) (Vv _)))))
   (QI (QT V7))
   Vg))))))
   (QI (QT V7)))),?_⟩
  have e1:=hv.1;have e2:=hu.1;refine⟨_,rfl,_,_,_,_,rfl,.lst hl,U9 _ _,_,rfl,iteF ⟨_,rfl,_,_,rfl,.inl ⟨_,SqL.of hl,rfl⟩,_,rfl,_,_,rfl,.inl ⟨_,SqL.of hl',rfl⟩,rfl,_,rfl,UX (by rw[e1,e2]) ?_⟩⟩;refine⟨_,rfl,_,_,rfl,.inl ⟨_,SqL.of hl',rfl⟩,_,rfl,by omega,by omega,UP (fun i σ H2=>H=H2/\∃(x y:Option V),σ=[some (.ref l),some (.ref l'),x,y]) ⟨rfl,none,none,rfl⟩ ?_ ?_⟩
  ·rintro i σ H2 hi ⟨rfl,x,y,rfl⟩;have hi':i<ps.length:=by omega
   obtain⟨v,ev,a,rfl,ha⟩:=hv.2 i ps[i] (by simp[hi']);obtain⟨u,eu,b,rfl,hb⟩:=hu.2 i ps[i] (by simp[hi']);have ez:(0:Int)+(i:Int)=(i:Int):=by omega
   have av:atI vs (0+(i:Int))=some (.ref a):=by rw[ez];exact UZ ev
   have au:atI us (0+(i:Int))=some (.ref b):=by rw[ez];exact UZ eu
   refine⟨_,rfl,_,rfl,.inl ⟨_,_,_,_,rfl,rfl,SqL.of hl,av,_,_,_,_,rfl,.tup ha,U9 _ _,_,rfl,iteF ?_⟩⟩;refine⟨_,rfl,_,rfl,.inl ⟨_,_,_,_,rfl,rfl,SqL.of hl,av,_,_,rfl,.inr ⟨_,SqT.of ha,rfl⟩,_,rfl,_,rfl,.inl ⟨_,_,_,_,rfl,rfl,SqL.of hl',au,_,_,rfl,.inr ⟨_,SqT.of hb,rfl⟩,rfl,_,rfl,UX rfl ?_⟩⟩⟩;refine⟨_,rfl,_,rfl,.inl ⟨_,_,_,_,rfl,rfl,SqL.of hl',au,_,_,rfl,.inr ⟨_,SqT.of hb,rfl⟩,_,rfl,(by show -(2 ^ 62)<=(2:Int);decide),(by show(2:Int)<2 ^ 62;decide),UP (fun j σ H2=>H=H2/\∃(y:Option V),σ=[some (.ref l),some (.ref l'),some (.int (0+(i:Int))),y]) ⟨rfl,_,rfl⟩ ?_ ?_⟩⟩
   ·rintro j σ H2 hj ⟨rfl,y,rfl⟩;have hj2:j<2:=hj
    obtain⟨z,ea⟩:∃z:Int,atI [V.int ps[i].1,V.int ps[i].2] (0+(j:Int))=some (.int z):=by
     have:j=0\/j=1:=by omega
     rcases this with rfl|rfl
     ·exact⟨_,rfl⟩
     ·exact⟨_,rfl⟩
    refine⟨_,rfl,_,rfl,.inl ⟨_,_,_,_,rfl,rfl,SqL.of hl,av,_,rfl,.inr ⟨_,_,_,_,rfl,rfl,SqT.of ha,ea,z,rfl,_,rfl,iteF ?_⟩⟩⟩;refine⟨_,rfl,_,rfl,.inl ⟨_,_,_,_,rfl,rfl,SqL.of hl,av,_,rfl,.inr ⟨_,_,_,_,rfl,rfl,SqT.of ha,ea,_,rfl,_,rfl,.inl ⟨_,_,_,_,rfl,rfl,SqL.of hl',au,_,rfl,.inr ⟨_,_,_,_,rfl,rfl,SqT.of hb,ea,rfl,_,rfl,UX rfl ?_⟩⟩⟩⟩⟩;exact⟨rfl,_,rfl⟩
   ·rintro σ H2 ⟨rfl,y,rfl⟩;exact⟨rfl,_,_,rfl⟩
  ·rintro σ H2 ⟨rfl,x,y,rfl⟩;exact q
def DN(G:Glob K mg)(D:Def K mg "_law_strips" KI ["_law_script","_law_menu_here","_law_many"])(Zb:Callee P w K mg base CX0 2 "_law_draw" ["_law_script","_law_k"] (UW K))(Ze:Callee P w K mg base CX0 1 "_law_holder" ["_law_menu_here","_law_k"] (KZ K))
  : Callee P w K mg base CX0 3 "_law_strips" ["_law_script","_law_menu_here","_law_many"] (To K):=by
 refine D.ok (k:=2) Ui (fun vs H Q E h=>?_) (fun f cdv A outer s H vs Q E hr h=>?_)
 ·obtain⟨a,l,ns,m,n,rfl,hA,hL,hM,h0,h1,q⟩:=h;rfl
 ·obtain⟨a,l,ns,m,n,rfl,hA,hL,hM,h0,h1,q⟩:=h
  refine⟨_,(QH (Pu.pz 3 Ui.nd (Vq QM))
   (QH (Vn Yc rfl (J2 rfl G.range (QF (pv 2) QM)) (V1 (i:=4) Ui.nd rfl (by first|exact Or.inl rfl|exact Or.inr rfl))
   (QH (Pu.pz 5 Ui.nd (VL Zb (hr.mono (by decide)) VG (QF (pv 0) (QF (QK V0 QG (pv 4)) QM))))
   (QH (Pu.pz 6 Ui.nd (QK V0 (Vc Vh (pv 1) QG (fun _ _=>rfl)) (QK Vp (QK Jq (pv 5) (Vc Vh (pv 1) QG (fun _ _=>rfl))) (Vc Vh (pv 1) QG (fun _ _=>rfl)))))
   (QI (U3 (Uq Y2 We Wf Uy (pv 3) (QF (Jl (QF (VL Ze (hr.mono (by decide)) VG (QF (pv 1) (QF (QK Vp (pv 5) (Vc Vh (pv 1) QG (fun _ _=>rfl))) QM))) (QF (pv 6) QM))) QM)))))))
   (QI (QT (pv 3))))),?_⟩
  have hMM:=hM;obtain⟨m0,m1,m2,m3,m4,em,ha,hb,hc,hd,he⟩:=hM;refine⟨by decide,fun p np=>?_⟩;have S0:Same H (upd H p (.lst [])):=QX np;refine⟨_,rfl,_,rfl,by omega,by omega,UP (fun i σ H2=>∃(vs:List V) (x y z:Option V),σ=[some (.ref a),some (.ref l),some (.int n),some (.ref p),x,y,z]/\Same H H2/\H2 p=some (.lst vs)/\LV PairR H2 vs (Jh ns m i)) ⟨[],none,none,none,rfl,S0,QR,LV.nil⟩ ?_ ?_⟩
  ·rintro i σ H2 hi ⟨vs,x,y,z,rfl,S,hp,hv⟩;have hA2:=S.seq hA;have hL2:=S.seq hL;refine⟨_,rfl,_,rfl,_,_,rfl,rfl,a,ns,_,rfl,hA2,by omega,?_⟩;rw[em]at hL2;have ez:(0:Int)+(i:Int)=(i:Int):=by omega
   refine⟨_,rfl,.inl ⟨_,_,_,_,rfl,rfl,hL2,rfl,_,rfl,_,rfl,.inl ⟨_,_,_,_,rfl,rfl,hL2,rfl,_,_,rfl,rfl,⟨by omega,by omega⟩,_,rfl,.inl ⟨_,_,_,_,rfl,rfl,hL2,rfl,_,_,rfl,rfl,(by show 0<m3;omega),_,_,rfl,rfl,?_⟩⟩⟩⟩;refine⟨_,rfl,.inl ⟨rfl,_,SqL.of hp⟩,_,rfl,_,rfl,_,rfl,.inl ⟨_,_,_,_,rfl,rfl,hL2,rfl,_,_,rfl,rfl,(by show 0<m0;omega),l,m,_,rfl,(by rw[em];exact hL2),hMM,_,rfl,(by show 2<=sizeLine;decide),fun t nt=>?_⟩⟩;have npt:p≠t:=V2 hp nt;refine⟨p,vs,_,rfl,rfl,by rw[QS npt];exact hp,Kr (by rw[hv.1,Td];omega),?_⟩;have nt0:H t=none:=S.free nt;refine⟨_,_,_,_,rfl,fun b o e=>?_,QR,?_⟩
   ·rw[QS (V2 e np),QS (V2 e nt0)];exact S b o e
   ·have key:∀v q,PairR H2 v q->PairR (upd (upd H2 t (.tup [V.int (VY m (VE ns (2+(0+(i:Int))) % m0)),V.int (m4+VE ns (2+(0+(i:Int))) / m0 % m3)])) p (.lst (vs++[V.ref t]))) v q:=by
     rintro v q ⟨b,eb,hb'⟩
     have hbp:b≠p:=by
      intro z;rw[z,hp]at hb';cases hb'
     exact⟨b,eb,by rw[QS hbp,QS (V2 hb' nt)];exact hb'⟩
    rw[Cj];refine LV.snoc ⟨hv.1,fun j x ex=>let ⟨v,e1,e2⟩:=hv.2 j x ex;⟨v,e1,key _ _ e2⟩⟩ ⟨t,rfl,?_⟩;rw[QS npt.symm,QR];unfold stripM;rw[em,ez];rfl
  ·rintro σ H2 ⟨vs,x,y,z,rfl,S,hp,hv⟩;exact⟨_,rfl,q p H2 np S ⟨vs,hp,hv⟩⟩
def D1(G:Glob K mg)(D:Def K mg "_law_wishes" X9 ["_law_script","_law_menu_here"])(Zb:Callee P w K mg base CX0 2 "_law_draw" ["_law_script","_law_k"] (UW K))(Ze:Callee P w K mg base CX0 1 "_law_holder" ["_law_menu_here","_law_k"] (KZ K))
  : Callee P w K mg base CX0 3 "_law_wishes" ["_law_script","_law_menu_here"] (Bj K):=by
 refine D.ok (k:=2) VZ (fun vs H Q E h=>?_) (fun f cdv A outer s H vs Q E hr h=>?_)
 ·obtain⟨a,l,ns,m,rfl,hA,hL,hM,q⟩:=h;rfl
 ·obtain⟨a,l,ns,m,rfl,hA,hL,hM,q⟩:=h
  refine⟨_,(QH (Pu.pz 2 VZ.nd (VL Zb (hr.mono (by decide)) VG (QF (pv 0) (QF QG QM))))
   (QH (Pu.pz 3 VZ.nd (Vc Vh (Vq (QF QG (QF (Vk (De rfl) (by rfl) G.max boot_max (QF QG (QF (Vc Vh (pv 1) QG (fun _ _=>rfl)) QM))) QM))) (QK Vp (QK Jq (pv 2) QG) QG) (fun _ _=>rfl)))
   (QH (Pu.pz 4 VZ.nd (Vq QM))
   (QH (Vn Yc rfl (J2 rfl G.range (QF (QK Vp (pv 2) QG) QM)) (V1 (i:=5) VZ.nd rfl (by first|exact Or.inl rfl|exact Or.inr rfl))
   (QH (Pu.pz 6 VZ.nd (VL Zb (hr.mono (by decide)) VG (QF (pv 0) (QF (QK V0 QG (pv 5)) QM))))
   (QH (Pu.pz 7 VZ.nd (QK Vp (pv 6) (pv 3)))
   (QH (Pu.pz 8 VZ.nd (QK Vp (QK V0 (QK V0 (pv 7) QG) (QK Vp (QK Jq (pv 6) (pv 3)) (QK Pf (pv 3) QG))) (pv 3)))
   (FH (Vd (PW.pt (U0 (Ve UK (QK Vp (QK Jq (pv 2) QG) QG) QG (Vv _)) (U4 (Ve UK (pv 7) (pv 8) (Vv _)))))
   (QI (BE (i:=7) (j:=8) rfl VZ.nd rfl rfl (by decide) rfl rfl (QF (pv 8) (QF (pv 7) QM)) (by rfl)))
   Vg)
   (QH (Pu.pz 9 VZ.nd (Jl (QF (VL Ze (hr.mono (by decide)) VG (QF (pv 1) (QF (pv 7) QM))) (QF (VL Ze (hr.mono (by decide)) VG (QF (pv 1) (QF (pv 8) QM))) QM))))
   (QI (Vd (Ve (PH (show _<cLine from V8 hr)) (pv 9) (pv 4) (by with_unfolding_all rfl))
   (QI (U3 (Uq Y2 We Wf Uy (pv 4) (QF (pv 9) QM))))
   Vg))))))))
   (QI (QT (pv 4))))))),?_⟩
  have hMM:=hM;obtain⟨m0,m1,m2,m3,m4,em,ha,hb,hc,hd,he⟩:=hM;have hL':=hL;rw[em]at hL';refine⟨_,rfl,a,ns,1,rfl,hA,by decide,?_⟩;generalize eh:VE ns 1=how;refine⟨_,rfl,.inl ⟨_,_,_,_,rfl,rfl,hL',rfl,_,_,rfl,(by show 2<=sizeLine;decide),fun l1 n1=>⟨_,rfl,_,_,rfl,rfl,⟨by decide,by decide⟩,_,_,rfl,rfl,(by show(0:Int)<2;decide),.inl ⟨_,_,_,_,rfl,rfl,SqL.of QR,Xb (xs:=[10,if m0>2 then m0 else 2]) (by omega) (by show how / 63 % 2<2;omega),?_⟩⟩⟩⟩
  have hpool:2<=[10,if m0>2 then m0 else 2].getD (how / 63 % 2).toNat 0/\[10,if m0>2 then m0 else 2].getD (how / 63 % 2).toNat 0<=10:=by
   have:how / 63 % 2=0\/how / 63 % 2=1:=by omega
   rcases this with e|e<;>rw[e]<;>show 2<=_/\_<=(10:Int)<;>simp<;>(try split)<;>omega
  generalize [10,if m0>2 then m0 else 2].getD (how / 63 % 2).toNat 0=pool at hpool ⊢;refine⟨by decide,fun p np=>?_⟩;have S0:Same H (upd (upd H l1 (.lst ([10,if m0>2 then m0 else 2].map V.int))) p (.lst [])):=Own.Same.new (QX n1) np;have np0:H p=none:=(QX n1).free np;refine⟨_,rfl,_,_,rfl,rfl,(by show(0:Int)<21;decide),_,rfl,(by show _<=how % 21;omega),(by show how % 21<_;omega),UP (fun i σ H2=>∃(ws:List (Int×Int)) (x1 x2 x3 x4 x5:Option V),σ=[some (.ref a),some (.ref l),some (.int how),some (.int pool),some (.ref p),x1,x2,x3,x4,x5]/\Same H H2/\LAt PairR H2 p ws/\ws.length<=i/\ws.Nodup/\∀q∈ws,(1<=q.1/\q.1<=10/\1<=q.2/\q.2<=10)/\q.1≠q.2) ⟨[],none,none,none,none,none,rfl,S0,⟨[],QR,LV.nil⟩,ZF _,Ww,fun q hq=>by cases hq⟩ ?_ ?_⟩
  ·rintro i σ H2 hi ⟨ws,x1,x2,x3,x4,x5,rfl,S,hp,hlen,hnd,hin⟩;have hA2:=S.seq hA;have hL2:=S.seq hL;refine⟨_,rfl,_,rfl,_,_,rfl,rfl,a,ns,_,rfl,hA2,by omega,?_⟩;generalize VE ns (42+(0+(i:Int)))=cell;refine⟨_,rfl,_,rfl,_,_,rfl,rfl,(by show 0<pool;omega),?_⟩;refine⟨_,rfl,_,_,rfl,rfl,_,rfl,_,rfl,_,_,rfl,rfl,⟨by omega,by omega⟩,_,rfl,_,_,rfl,rfl,_,_,rfl,rfl,(by show 0<pool-1;omega),_,_,rfl,rfl,_,rfl,_,_,rfl,rfl,(by show 0<pool;omega),?_⟩
   have fit:(0<=cell % pool/\cell % pool<=9)/\(0<=(cell % pool+1+cell / pool % (pool-1)) % pool/\(cell % pool+1+cell / pool % (pool-1)) % pool<=9)/\cell % pool≠(cell % pool+1+cell / pool % (pool-1)) % pool:=by
    have g1:=W7 cell (show pool≠0 by omega);have g2:=Wp cell (show 0<pool by omega);have g3:=W7 (cell / pool) (show pool-1≠0 by omega);have g4:=Wp (cell / pool) (show 0<pool-1 by omega);obtain⟨⟨k1,k2⟩,k3⟩:=two_ne ⟨g1,g2⟩ ⟨g3,g4⟩;exact⟨⟨g1,by omega⟩,⟨k1,by omega⟩,k3⟩
   refine⟨fun σ' H'=>H2=H'/\∃(o t:Int),((0<=o/\o<=9)/\(0<=t/\t<=9)/\o≠t)/\σ'=[some (.ref a),some (.ref l),some (.int how),some (.int pool),some (.ref p),some (.int (0+(i:Int))),some (.int cell),some (.int o),some (.int t),x5],?_,?_⟩
   ·refine⟨_,rfl,_,_,rfl,rfl,⟨by decide,by decide⟩,_,_,rfl,rfl,(by show(0:Int)<3;decide),_,_,rfl,rfl,_,rfl,ite2 (fun _=>?_) (fun _=>⟨rfl,_,_,fit,rfl⟩)⟩;refine⟨_,rfl,_,rfl,_,_,rfl,rfl,_,rfl,ite2 (fun _=>?_) (fun _=>⟨rfl,_,_,fit,rfl⟩)⟩;exact⟨_,rfl,_,rfl,_,_,rfl,rfl,_,_,⟨fit.2.1,fit.1,fun z=>fit.2.2 z.symm⟩,rfl⟩
   ·rintro σ' H' ⟨rfl,o,t',hot,rfl⟩;refine⟨_,rfl,_,rfl,l,m,o,rfl,hL2,hMM,_,rfl,_,rfl,l,m,t',rfl,hL2,hMM,(by show 2<=sizeLine;decide),fun t nt=>?_⟩;have b1:=Tp (m:=m) o;have b2:=Tp (m:=m) t';have b3:=AA hMM hot.1 hot.2.1 hot.2.2;generalize VY m o=h1 at b1 b3 ⊢;generalize VY m t'=h2 at b2 b3 ⊢;have St:=QX (o:=.tup [.int h1,.int h2]) nt;have ht:(upd H2 t (.tup [.int h1,.int h2])) t=some (.tup [.int h1,.int h2]):=QR;have hp3:=hp.mono PairR.mono St;have S3:=S.trans St;generalize upd H2 t (.tup [.int h1,.int h2])=H3 at St ht hp3 S3 ⊢;refine⟨_,rfl,_,rfl,p,ws,(h1,h2),rfl,⟨t,rfl,ht⟩,hp3,_,rfl,ite2 (fun g=>?_) (fun g=>?_)⟩
    ·have g':¬(h1,h2)∈ws:=fun z=>by rw[ZH rfl,ZC z]at g;cases g
     obtain⟨vs,hv1,hv2⟩:=id hp3;refine⟨_,rfl,.inl ⟨rfl,_,SqL.of hv1⟩,_,rfl,p,vs,_,rfl,rfl,hv1,Kr (by rw[hv2.1];omega),?_⟩;refine⟨ws++[(h1,h2)],_,_,_,_,_,rfl,fun b o e=>?_,⟨_,QR,?_⟩,by rw[ZX];show ws.length+1<=i+1;omega,?_,?_⟩
     ·rw[QS (V2 e np0)];exact S3 b o e
     ·have key:∀v q,PairR H3 v q->PairR (upd H3 p (.lst (vs++[V.ref t]))) v q:=by
       rintro v q ⟨b,eb,hb'⟩;refine⟨b,eb,?_⟩;rw[QS (fun z=>by rw[z,hv1]at hb';cases hb')];exact hb'
      exact LV.snoc ⟨hv2.1,fun j x ex=>let ⟨v,e1,e2⟩:=hv2.2 j x ex;⟨v,e1,key _ _ e2⟩⟩ (key _ _ ⟨t,rfl,ht⟩)
     ·rw[Y5];exact⟨hnd,by simp,fun x hx y hy e=>by rw[ZA]at hy;subst hy;exact g' (e▸hx)⟩
     ·intro q hq;rcases ZU.mp hq with hq|hq
      ·exact hin q hq
      ·rw[ZA.mp hq];exact⟨⟨b1.1,b1.2,b2.1,b2.2⟩,b3⟩
    ·exact⟨ws,_,_,_,_,_,rfl,S3,hp3,by omega,hnd,hin⟩
  ·rintro σ H2 ⟨ws,x1,x2,x3,x4,x5,rfl,S,hp,hlen,hnd,hin⟩;refine⟨_,rfl,q p H2 ws np0 S hp ⟨by omega,hnd,hin⟩⟩
end
open Pu
section
variable {P:Program}{w:World}{K:Za}{mg:Str->Option Value}{base:Heap}
def A2(G:Glob K mg)(DD:Def K mg "longer_paths" KU ["paths","left","wishes"])
  : SA P w K mg base:=by
 refine DD.oz (k:=0) Um (fun _ _ _ _ _ _ E hr=>⟨_,(QH (Pu.pz 3 Um.nd (Vq QM)) (QH (Pu.pz 4 Um.nd Dy) (QH (Vn Yc rfl (Vj (K:=K) (pv 0)) (gz 5 Um.nd) (QI (Vn Yc rfl (Vj (K:=K) (pv 1)) (gz 6 Um.nd) (QI (Vd (PW.pt (U0 (D9 (Cw (V8 hr) (pv 6) (pv 4))) (U4 (Ve (U2 (K:=K) (show _<cLine from V8 hr)) (Jl (bz (jx K (pv 5) (XD Xx QG)) (pv 6))) (pv 2) (by with_unfolding_all rfl))))) (QH (Kz (V8 hr) (pv 4) (pv 6) V7 rfl) (QI (U3 (Uq Y2 We Wf Uy (pv 3) (az (QK XI (pv 5) (Vq (az (pv 6)))))))))
   Vg))))) (QI (QT (pv 3)))))), (QN (QW (VS Jd) (QJ 3)) (QN (QW Fs (QJ 4)) (QN (Vl 1 (Vl 0 (V5 [5,6] (VU (QE 0)) (QJ 5) (Vl 1 (V5 [6] (VU (QE 1)) (QJ 6) (Vz (Kc (st_b (Bx (QE 6) (QE 4))) (Vw (JO (J1 (tz (Vm (QE 5) (XM Vf)) (QE 6))) (QE 2)))) (QN (KL 4 (QE 6) Jf) (Vl 6 (Nr 3 (XO (QE 5) (VS (sz (QE 6))))))) Vx)))))) (Jk 3))))⟩) (.a fun ds R X h=>?_)
 ·obtain⟨l,ps,ls,ws,rfl,hs,hl,hpl,hll,hR⟩:=h;refine⟨rfl,?_⟩
  refine⟨by simp,rfl,VX (xs:=ps) (emb:=em l) (fun i γ'=>∃lg kvs,γ'=[some (.bor (.lst (ps.map (em l)))),some (.bor (.lst (ls.map D.int))),some (.bor (.lst (ws.map prD))),some (.own (lg.map (em l))),some (.own (.dK kvs)),none,none]/\LGs ws l (Pd ps ls i 0) ls lg kvs)
   ⟨[],[],rfl,LGs.start⟩ ?_ ?_⟩
  ·rintro i hi γ' ⟨lg,kvs,rfl,G⟩;have hp:ps[i]?=some ps[i]:=Z5 hi;have hpi:=hpl ps[i] (ZV hi);generalize ps[i]=p at hp hpi ⊢;refine⟨rfl,VX (xs:=ls) (emb:=D.int) (fun j γ'=>∃lg kvs,γ'=[some (.bor (.lst (ps.map (em l)))),some (.bor (.lst (ls.map D.int))),some (.bor (.lst (ws.map prD))),some (.own (lg.map (em l))),some (.own (.dK kvs)),some (.bor (em l p)),none]/\LGs ws l (Pd ps ls i j) ls lg kvs) ⟨lg,kvs,rfl,G⟩ ?_ ?_⟩
   ·rintro j hj γ' ⟨lg,kvs,rfl,G⟩;have hh:ls[j]?=some ls[j]:=Z5 hj;generalize ls[j]=h at hh ⊢;have hlen:=G.len_le;have hkl:=G.len;refine⟨.inl h,rfl,ite2 (fun g=>?_) (fun g=>?_)⟩
    ·have g':(valV kvs (.inl h)).isSome=false:=by
      cases e:(valV kvs (.inl h)).isSome with
      |false=>rfl
      |true=>rw[e]at g;cases g
     refine⟨_,K4 l p,by simp,_,.lp (QL l p,h) ws,ite2 (fun g2=>?_) (fun g2=>?_)⟩
     ·refine⟨.inl h,.bl true,rfl,rfl,by omega,by simp,Kg _,rfl,by simp;omega,by rw[Z6];omega,lg++[p++[h]],_,?_,G.put hp hh hs hl g' (ZZ g2)⟩;rw[Yh]
      have e:em l (p++[h])=.lst ((l::p).map D.int++[.int h]):=by
       unfold em;rw[←YD,Yh];rfl
      rw[Wq,e];rfl
     ·exact⟨lg,kvs,rfl,G.skip hp hh hs (.inr fun z=>g2 (ZC z))⟩
    ·have g':(valV kvs (.inl h)).isSome=true:=by
      cases e:(valV kvs (.inl h)).isSome with
      |true=>rfl
      |false=>rw[e]at g;exact absurd rfl g
     exact iteF ⟨lg,kvs,rfl,G.skip hp hh hs (.inl g')⟩
   ·rintro γ' ⟨lg,kvs,rfl,G⟩;refine⟨lg,kvs,rfl,G.congr fun p' x=>?_⟩;unfold Pd;rw[Yv,WL];obtain⟨hi',ei⟩:=ZP.mp hp;rw[ZR hi,ZU,ZA,hp,ei];constructor
    ·rintro(⟨a,b⟩|⟨a,b⟩)
     ·exact .inl ⟨.inl a,b⟩
     ·exact .inl ⟨.inr (ZE a).symm,b⟩
    ·rintro(⟨a|a,b⟩|⟨_,a⟩)
     ·exact .inl ⟨a,b⟩
     ·exact .inr ⟨Yg some a.symm,b⟩
     ·cases a
  ·rintro γ' ⟨lg,kvs,rfl,G⟩;refine hR lg (G.g.congr fun p' x=>?_) G.len_le;unfold Pd;rw[Yv,WL];exact⟨(fun z=>z.elim id fun w=>by cases w.2),.inl⟩
def CU(G:Glob K mg)(DD:Def K mg "sets_of" Ka ["holders"])
  : SQ P w K mg base:=by
 refine DD.oz (k:=0) Xf (fun _ _ _ _ _ _ E hr=>⟨_,(QH (Pu.pz 1 Xf.nd (Vq (az (Jl QM)))) (QH (Vn Yc rfl (Vj (K:=K) (pv 0)) (gz 2 Xf.nd) (QI (Pu.pz 1 Xf.nd (QK XI (pv 1) (VA (N':=["members","holder"]) (φ:=[none,some 2]) rfl (Own.CompOk.of (by rfl)) (Vj (K:=K) (pv 1)) (fun _ _ _ _ _=>⟨(gz 0 (show(["members","holder"]:List Str).Nodup from by decide +kernel)),VW,(QK (BL (K:=K)) (pv 0) (Jl (az (pv 1))))⟩)))))) (QI (QT (pv 1))))), (QN (QW (VS (sz (J1 Jd))) (QJ 1)) (QN (Vl 0 (V5 [2] (VU (QE 0)) (QJ 2) (Vl 2 (QW (XO (QE 1) (VB (Jc (QE 1)) (QJ 0) Ju (Ey (QE 0) (J1 (sz (QE 1)))))) (QJ 1))))) (Jk 1)))⟩) (.a fun ds R X h=>?_)
 ·obtain⟨hs,rfl,hz,hR⟩:=h;refine⟨rfl,?_⟩;refine⟨by simp,by simp,rfl,VX (xs:=hs) (emb:=D.int) (fun i γ'=>γ'=[some (.bor (.lst (hs.map D.int))),some (.own ((QU (hs.take i)).map tD)),none]) rfl ?_ ?_⟩
  ·rintro i hi γ' rfl
   have hlen:(QU (hs.take i)).length<=1024:=by
    rw[VJ,Yn];exact YJ (j:=10) (by decide) (by omega)
   have hel:∀ms∈QU (hs.take i),ms.length<=10:=fun ms hm=>by
    have:=(JY _ ms hm).length_le
    rw[Yn]at this;omega
   rw[ZR hi,Jv];generalize QU (hs.take i)=S at hlen hel ⊢;generalize hs[i]=h;refine VH (xs:=S) (emb:=tD) (fun ms=>some (tD (ms++[h]))) (by omega) (fun ms hm=>?_) ?_
   ·refine⟨by simp,_,_,DQ ms,rfl,?_,_,rfl,?_⟩
    ·have:=hel ms hm
     rw[Z6];show ms.length+1<=100000;omega
    ·unfold tD;rw[Yh];rfl
   ·rw[mapD];refine⟨rfl,rfl,?_,?_⟩
    ·rw[Z6,Z6];omega
    ·show[_,_,_]=[_,_,_];rw[Yh,Yr];rfl
  ·rintro γ' rfl;rw[Yv];exact hR
def Bq(G:Glob K mg)(DD:Def K mg "without" X4 ["members","holder"])
  : T1 P w K mg base:=by
 refine DD.oz (k:=0) CZ (fun _ _ _ _ _ _ E hr=>⟨_,(QI (QT (JC (FB (K:=K)) (by rfl) G.tuple boot_tuple (az (VA (N':=["member","holder"]) (φ:=[none,some 1]) rfl (Own.CompOk.of (by rfl)) (Kf (K:=K) (pv 0)) (fun _ _ _ _ _=>⟨(gz 0 (show(["member","holder"]:List Str).Nodup from by decide +kernel)),(Jp (cn K hr (pv 0) (pv 1))),(pv 0)⟩)))))), (VO (Au (sz (VB (SndI.c (K6 (QE 0))) (QJ 0) (Vw (U8 (QE 0) (QE 1))) (QE 0)))))⟩) (.a fun ds R X h=>?_)
 ·obtain⟨ms,h,rfl,hz,hR⟩:=h;refine⟨rfl,?_⟩;rw[XZ];refine⟨_,rfl,VH (s:=.sh .non) (xs:=ms) (emb:=D.int) (fun m=>if decide (m≠h)=true then some (.int m)else none) (by omega) (fun m hm=>?_) ?_⟩
  ·show if (!decide (m=h))=true then _ else _;by_cases e:m=h
   ·rw[ZC e];exact iteF (by simp[e])
   ·rw[ZM e];exact iteT ⟨_,rfl,ZH (ZC e)⟩
  ·rw[JL (fun m=>decide (m≠h))];exact⟨rfl,hR⟩
def BS(G:Glob K mg)(DD:Def K mg "may_lie_last" Kt ["members","holder","wishes"])
  : Sx P w K mg base:=by
 refine DD.oz (k:=0) Dw (fun _ _ _ _ _ _ E hr=>⟨_,(QI (QT (P8 (Vk (A5 (K:=K) rfl) (by rfl) G.any boot_any (az (VA (N':=["ahead","behind","holder","members"]) (φ:=[none,none,some 1,some 0]) rfl (Own.CompOk.of (by rfl)) (Vj (K:=K) (pv 2)) (fun _ _ _ _ _=>⟨(XT (K:=K) (n:=2) rfl (Jx (gz 0 (show(["ahead","behind","holder","members"]:List Str).Nodup from by decide +kernel)) (Jx (gz 1 (show(["ahead","behind","holder","members"]:List Str).Nodup from by decide +kernel)) Xe))),VW,(Sn (Kv (TM (K:=K) (show _<cLine from hr.units0)) (pv 0) (pv 2) (Vv _)) (Px (Kv (U2 (K:=K) (show _<cLine from V8 hr)) (pv 1) (pv 3) (by with_unfolding_all rfl))))⟩))))))), (VO (FW (CP (sz (VB (Jc (QE 2)) (Py (Xp (QJ 0) (Xp (QJ 1) Pr))) Ju (Bw (Xc (QE 0) (QE 2)) (JO (QE 1) (QE 3))))))))⟩) (.a fun ds R X h=>?_)
 ·obtain⟨ms,h,ws,rfl,hz,hR⟩:=h;refine⟨rfl,?_⟩;rw[XZ];refine VH (xs:=ws) (emb:=prD) (fun q=>some (.bl (decide (q.1=h)&&decide (q.2∈ms)))) (by omega) (fun q hq=>?_) ?_
  ·refine⟨rfl,?_⟩;show if true=true then(if decide (q.1=h)=true then _ else _)else(some (D.bl (decide (q.1=h)&&decide (q.2∈ms)))=none);refine iteT (ite2 (fun g=>⟨_,.ti _ _,?_⟩) (fun g=>?_))
   ·refine⟨_,rfl,?_⟩;rw[g,WX];rfl
   ·refine⟨_,rfl,?_⟩;rw[Bool.eq_false_iff.mpr g,Bool.false_and]
  ·rw[mapD];refine⟨ws.map fun q=>decide (q.1=h)&&decide (q.2∈ms),by rw[Yr];rfl,?_⟩;rw[List.any_map];exact hR
def FM(G:Glob K mg)(DD:Def K mg "_law_pair_rows" KM ["_law_strips_here","_law_holders"])
  : Nk P w K mg base:=by
 refine DD.oz (k:=0) JW (fun _ _ _ _ _ _ E hr=>⟨_,(QH (J6 (N':=["_law_strip","_law_holders"]) (φ:=[none,some 1]) (i:=2) JW.nd rfl rfl rfl (Own.CompOk.of (by rfl)) (Vj (K:=K) (pv 0)) (fun _ _ _ _ _=>⟨(gz 0 (show(["_law_strip","_law_holders"]:List Str).Nodup from by decide +kernel)),VW,(Km (K:=K) Y2 Wh WQ (KG (K:=K)) (pv 1) (az (jx K (pv 0) QG)))⟩)) (QH (J6 (N':=["_law_holder_here","_law_holders"]) (φ:=[none,some 1]) (i:=3) JW.nd rfl rfl rfl (Own.CompOk.of (by rfl)) (Vj (K:=K) (pv 1)) (fun _ _ _ _ _=>⟨(gz 0 (show(["_law_holder_here","_law_holders"]:List Str).Nodup from by decide +kernel)),VW,(QK Pt (Vq (az QG)) (ln K G.len (pv 1)))⟩)) (QH (Vn Yc rfl (J2 rfl G.range (az (ln K G.len (pv 0)))) (gz 4 JW.nd) (QI (Vn Yc rfl (J2 rfl G.range (az (pv 4))) (gz 5 JW.nd) (QI (Vd (cn K hr (jx K (pv 2) (pv 5)) (jx K (pv 2) (pv 4))) (QH (Pu.pz 6 JW.nd (QK J7 (jx K (jx K (pv 0) (pv 5)) QG) (jx K (jx K (pv 0) (pv 4)) QG))) (QI (PB (jx K (pv 3) (jx K (pv 2) (pv 4))) (jx K (pv 2) (pv 5)) (Pi (K:=K)) (pv 6) Af Se)))
   Vg))))) (QI (QT (pv 3)))))), (QN (QW (VB (Jc (QE 0)) (QJ 0) Ju (Xt (QE 1) (sz (Vm (QE 0) Vf)))) (QJ 2)) (QN (QW (Ax (Jc (QE 1)) (QJ 0) Ju (Nc (VS (sz Vf)) (Jn (sz (QE 1))))) (QJ 3)) (QN (V5 [4,5,6] (KJ (sz (Jn (sz (QE 0))))) (QJ 4) (V5 [5,6] (KJ (sz (QE 4))) (QJ 5) (Vz (Vw (U8 (Vm (QE 2) (QE 5)) (Vm (QE 2) (QE 4)))) (QN (QW (CT (Vm (Vm (QE 0) (QE 5)) Vf) (Vm (Vm (QE 0) (QE 4)) Vf)) (QJ 6)) (Ei 3 (Vm (QE 2) (QE 4)) (Vm (QE 2) (QE 5)) (QE 6))) Vx))) (Jk 3))))⟩) (.a fun ds R X h=>?_)
 ·obtain⟨ps,hs,rfl,hF,hz,nd,hz2,hin,hR⟩:=h;refine⟨rfl,?_⟩;have hl:(hs.map D.int).length=hs.length:=Z6 ..;have hlp:(ps.map prD).length=ps.length:=Z6 ..;refine VH (xs:=ps) (emb:=prD) (fun q=>some (.int (hs.idxOf q.1:Nat))) (by omega) (fun q hq=>?_) ?_
  ·exact⟨⟨_,rfl⟩,_,rfl,hs,rfl,hin q hq,_,rfl,rfl⟩
  rw[mapD (fun q:Int×Int=>D.int (hs.idxOf q.1:Nat))]
  have e0:(List.replicate (((hs.map D.int).length:Nat):Int).toNat [D.int 0]).flatten=(List.range hs.length).map fun _=>D.int 0:=by
   rw[Qc,ZN,hl];refine W4 (by simp) fun i h1 h2=>?_;simp
  refine⟨⟨by omega,fun _=>(List.range hs.length).map fun _=>D.int 0,fun i hi=>?_,fun x cs ec=>?_⟩⟩
  ·have hi':i<hs.length:=by rw[←hl];exact hi
   rw[Pa (f:=D.int) hi'];refine⟨rfl,by simp,rfl,⟨by omega,by omega⟩,by show 1*(((hs.map D.int).length:Nat):Int).toNat<=10000000;omega,?_⟩;rw[e0];refine⟨rfl,?_⟩
   have key:∀l:List Nat,imms (l.map fun _=>D.int 0)=true:=fun l=>by
    induction l with
    |nil=>rfl
    |cons x l ih=>rw[ZO];unfold imms;rw[ih];rfl
   exact key _
  have ix:∀z,z∈hs->hs.idxOf z<hs.length/\hs.getD (hs.idxOf z) 0=z:=fun z hz=>by
   have h1:=WI.mpr hz;exact⟨h1,by rw[Z7,Z5 h1];exact Qu h1⟩
  have gp:∀k (hk:k<ps.length),ps.getD k (0,0)=ps[k]:=fun k hk=>by rw[Z7,Z5 hk];rfl
  have as:∀(k:Nat) (hk:k<ps.length),atI (ps.map fun q:Int×Int=>D.int (hs.idxOf q.1:Nat)) (0+(k:Int))=some (.int (hs.idxOf ps[k].1:Nat)):=fun k hk=>by
   rw[show(0:Int)+(k:Int)=((k:Nat):Int) by omega];exact J8 (f:=fun q:Int×Int=>D.int (hs.idxOf q.1:Nat)) hk
  have ap:∀(k:Nat) (hk:k<ps.length),atI (ps.map prD) (0+(k:Int))=some (prD ps[k]):=fun k hk=>by
   rw[show(0:Int)+(k:Int)=((k:Nat):Int) by omega];exact J8 hk
  have m0:Mat cs hs.length fun a b=>pcM ps (hs.getD a 0) (hs.getD b 0) 0:=by
   unfold Mat;rw[ec,hl];rfl
  refine⟨⟨by omega,by omega⟩,XG (fun k γ'=>∃cs,Mat cs hs.length (fun a b=>pcM ps (hs.getD a 0) (hs.getD b 0) k)/\γ'=[some (.bor (plD ps)),some (.bor (.lst (hs.map D.int))),some (.own (.lst (ps.map fun q:Int×Int=>D.int (hs.idxOf q.1:Nat)))),some (.own (.nsl x cs)),none,none,none]) ⟨cs,m0,rfl⟩ ?_ ?_⟩
  ·rintro k γ' hk ⟨cs,hM,rfl⟩;have hk1:k<(((ps.map prD).length:Nat):Int).toNat:=hk;have hk':k<ps.length:=by omega
   obtain⟨sk1,sk2⟩:=ix _ (hin _ (ZV hk'));have wk:=hF _ (ZV hk');refine⟨⟨by omega,by omega⟩,XG (fun j γ'=>∃cs,Mat cs hs.length (fun a b=>pcM ps (hs.getD a 0) (hs.getD b 0) k+(if hs.getD a 0≠hs.getD b 0/\ps[k].1=hs.getD a 0 then tpM ps (hs.getD b 0) j*ps[k].2 else 0))/\γ'=[some (.bor (plD ps)),some (.bor (.lst (hs.map D.int))),some (.own (.lst (ps.map fun q:Int×Int=>D.int (hs.idxOf q.1:Nat)))),some (.own (.nsl x cs)),some (.sh (.int (0+(k:Int)))),none,none]) ⟨cs,hM.same fun a b _ _=>by simp[tpM],rfl⟩ ?_ ?_⟩
   ·rintro j γ' hj ⟨cs,hM,rfl⟩;have hj1:j<(0+(k:Int)).toNat:=hj;have hj':j<ps.length:=by omega
    obtain⟨sj1,sj2⟩:=ix _ (hin _ (ZV hj'));have wj:=hF _ (ZV hj')
    have etp:∀y,tpM ps y (j+1)=tpM ps y j+(if ps[j].1=y then ps[j].2 else 0):=fun y=>by
     show tpM ps y j+(if (ps.getD j (0,0)).1=y then(ps.getD j (0,0)).2 else 0)=_;rw[gp j hj']
    refine⟨_,as j hj',_,as k hk',?_⟩;refine ite2 (fun g=>?_) (fun g=>?_)
    ·have hne:ps[j].1≠ps[k].1:=fun e=>by
      rw[e]at g;simp at g
     refine⟨_,ap j hj',_,rfl,_,ap k hk',_,rfl,.inl ⟨by show -(2 ^ 64)<ps[j].2;omega,by show ps[j].2<2 ^ 64;omega⟩,?_⟩;obtain⟨y,ey⟩:=hM.at sk1;have lc:=hM.len;refine⟨_,as k hk',hs.idxOf ps[k].1,_,?_,ey,_,as j hj',hs.idxOf ps[j].1,_,?_,by rw[ZD,List.getElem?_range sj1];rfl,?_⟩
     ·unfold ixN;rw[lc,ZH (by omega),ZH (by omega)];rfl
     ·unfold ixN;rw[Z6,YX,ZH (by omega),ZH (by omega)];rfl
     refine⟨_,hM.set (G:=fun a b=>pcM ps (hs.getD a 0) (hs.getD b 0) k+(if hs.getD a 0≠hs.getD b 0/\ps[k].1=hs.getD a 0 then tpM ps (hs.getD b 0) (j+1)*ps[k].2 else 0)) sk1 sj1 ?_ ?_,rfl⟩
     ·show _+_=_+_+ps[j].2*ps[k].2;rw[sk2,sj2,ZH ⟨fun z=>hne z.symm,rfl⟩,ZH ⟨fun z=>hne z.symm,rfl⟩,etp,ZH rfl,Int.add_mul];omega
     ·intro a b ha hb n;by_cases c:hs.getD a 0≠hs.getD b 0/\ps[k].1=hs.getD a 0
      ·have:¬ps[j].1=hs.getD b 0:=fun z=>n ⟨JZ nd ha sk1 (c.2.symm.trans sk2.symm),JZ nd hb sj1 (z.symm.trans sj2.symm)⟩
       simp only[ZH c];rw[etp,ZG this,Int.add_zero]
      ·simp only[ZG c]
    ·have heq:ps[j].1=ps[k].1:=Ys fun hne=>g (by
      have:¬((hs.idxOf ps[j].1:Nat):Int)=((hs.idxOf ps[k].1:Nat):Int):=fun e=>hne (by
       have e':hs.idxOf ps[j].1=hs.idxOf ps[k].1:=by omega
       rw[←sj2,←sk2,e'])
      simp[this])
     refine⟨cs,hM.same fun a b ha hb=>?_,rfl⟩;by_cases c:hs.getD a 0≠hs.getD b 0/\ps[k].1=hs.getD a 0
     ·simp only[ZH c];rw[etp,ZG fun z=>c.1 (c.2.symm.trans (heq.symm.trans z)),Int.add_zero]
     ·simp only[ZG c]
   ·rintro γ' ⟨cs,hM,rfl⟩;refine⟨cs,hM.same fun a b _ _=>?_,rfl⟩;show pcM ps _ _ k+(if _≠_/\(ps.getD k (0,0)).1=_ then tpM ps _ k*(ps.getD k (0,0)).2 else 0)=_;rw[gp k hk',show(0+(k:Int)).toNat=k by omega]
  ·rintro γ' ⟨cs,hM,rfl⟩;rw[show(((ps.map prD).length:Nat):Int).toNat=ps.length by omega]at hM;exact hR x cs hM.cost
def DP(G:Glob K mg)(DD:Def K mg "_law_least_in" KD ["_law_told","_law_costs","_law_wants_here","_law_mask"])
  : NN P w K mg base:=by
 refine DD.oz (k:=0) JI (fun _ _ _ _ _ _ E hr=>⟨_,(QH (J6 (N':=["_law_j","_law_mask"]) (φ:=[none,some 3]) (i:=4) JI.nd rfl rfl rfl (Own.CompOk.of (by rfl)) (J2 rfl G.range (az (ln K G.len (pv 1)))) (fun _ _ _ _ _=>⟨(gz 0 (show(["_law_j","_law_mask"]:List Str).Nodup from by decide +kernel)),(Jp (cq K hr (QK Pl (QK DU (pv 1) (pv 0)) QG) QG)),(pv 0)⟩)) (QH (Pu.pz 5 JI.nd V7) (QH (Vn Yc rfl (Vj (K:=K) (pv 4)) (gz 6 JI.nd) (QI (Vd (cq K hr (QK Pl (jx K (pv 2) (pv 6)) (pv 3)) QG) (QH (Pu.pz 7 JI.nd (QK V0 (jx K (pv 0) (QK Pf (pv 3) (QK Xq QG (pv 6)))) (Vk (T6 (K:=K) rfl) (by rfl) G.sum boot_sum (az (VA (N':=["_law_j","_law_last","_law_costs"]) (φ:=[none,some 6,some 1]) rfl (Own.CompOk.of (by rfl)) (Vj (K:=K) (pv 4)) (fun _ _ _ _ _=>⟨(gz 0 (show(["_law_j","_law_last","_law_costs"]:List Str).Nodup from by decide +kernel)),VW,(jx K (jx K (pv 2) (pv 0)) (pv 1))⟩)))))) (QH (Vd (Ve UK (jx K (pv 0) (pv 3)) (pv 7) (Vv _)) (QI (QT V7))
   Vg) (QI (Vd (cq K hr (jx K (pv 0) (pv 3)) (pv 7)) (QI (Pu.pz 5 JI.nd V7))
   Vg))))
   Vg))) (QI (QT (pv 5)))))), (QN (QW (VB (SndI.c (KJ (sz (Jn (sz (QE 1)))))) (QJ 0) (Vw (Xc (TU (Cr (QE 1) (QE 0)) Vf) Vf)) (QE 0)) (QJ 4)) (QN (QW Jf (QJ 5)) (QN (Vl 4 (V5 [6,7] (VU (QE 4)) (QJ 6) (Vz (Vw (Xc (TU (Vm (QE 2) (QE 6)) (QE 3)) Vf)) (QN (QW (Tt (Vm (QE 0) (AQ (QE 3) (K1 Vf (QE 6)))) (SZ (sz (VB (Jc (QE 4)) (QJ 0) Ju (Vm (Vm (QE 2) (QE 0)) (QE 1)))))) (QJ 7)) (QN (Vz (Vw (Pe (Vm (QE 0) (QE 3)) (QE 7))) (VO Jf) Vx) (Vz (Vw (Xc (Vm (QE 0) (QE 3)) (QE 7))) (QW Jf (QJ 5)) Vx))) Vx))) (Jk 5))))⟩) (.a fun ds R X h=>?_)
 ·obtain⟨ps,ws,hs,vs,wn,m,rfl,nd,hz,hu,hL,hT,hW,h0,hm,hR⟩:=h;refine⟨rfl,?_⟩;have lv:vs.length=2 ^ hs.length:=hT.1.trans (VJ hs);obtain⟨t1,t2⟩:=Ac nd hu hL hT h0 hm;have lh:(hs.map (rowE ps hs)).length=hs.length:=Z6 ..;have p10:2 ^ hs.length<=1024:=YJ (j:=10) (by decide) hz;refine⟨⟨by omega,by omega⟩,EA (fun i=>if m.testBit i=true then some (natD i)else none) (by omega) (fun i hi=>?_) ?_⟩
  ·have ez:(0:Int)+(i:Int)=((i:Nat):Int):=by omega
   rw[ez];refine⟨by omega,?_⟩;show if decide (Builtin.bitAnd ((m:Int) / 2 ^ ((i:Nat):Int).toNat) 1=1)=true then _ else _;rw[AE];by_cases c:m.testBit i=true
   ·rw[ZH c];exact⟨_,rfl,ZH c⟩
   ·rw[ZG c];exact ZG c
  have ei:(List.range (((hs.map (rowE ps hs)).length:Nat):Int).toNat).filterMap (fun i:Nat=>if m.testBit i=true then some (natD i)else none)=(insN hs.length m).map natD:=by
   unfold insN;rw[ZN,lh,←List.filterMap_eq_map,List.filterMap_filter];rfl
  rw[ei]
  have atv:∀(k:Nat) (z:Int),k<2 ^ hs.length->z=(k:Int)->atI (vs.map D.int) z=some (.int (vs.getD k 0)):=fun k z hk e=>by
   rw[e,Z7,Z5 (show k<vs.length by omega)];exact J8 _
  refine⟨rfl,VX (xs:=insN hs.length m) (emb:=natD) (fun i γ'=>∃b:Bool,(∀j∈(insN hs.length m).take i,Vo ws (insM hs m) (hs.getD j 0)=true->vs.getD m 0=vs.getD (m-2 ^ j) 0+((QP (insM hs m) (hs.getD j 0)).map fun x=>pcM ps x (hs.getD j 0) ps.length).sum->b=true)/\γ'=[some (.bor (.lst (vs.map D.int))),some (.bor (U1 ps hs)),some (.bor (.lst (wn.map natD))),some (.sh (.int m)),some (.sh (.lst ((insN hs.length m).map natD))),some (.sh (.bl b)),none,none]) ⟨false,by simp,rfl⟩ ?_ ?_⟩
  ·rintro i hi γ' ⟨b,hb,rfl⟩;have hmem:=ZV hi;have et:(insN hs.length m).take (i+1)=(insN hs.length m).take i++[(insN hs.length m)[i]]:=ZR hi;rw[et];generalize (insN hs.length m)[i]=L at hmem ⊢;obtain⟨hL1,hL2⟩:=ZQ.mp hmem;have hLn:L<hs.length:=Yp.mp hL1;have hge:=W8 hL2
   have aw:atI (wn.map natD) ((L:Nat):Int)=some (natD (wn.getD L 0)):=by
    have hw:=hW.1;rw[Z7,Z5 (show L<wn.length by omega)];exact J8 _
   have keep:∀b':Bool,b'=b\/b'=true->(Vo ws (insM hs m) (hs.getD L 0)=true->vs.getD m 0=vs.getD (m-2 ^ L) 0+((QP (insM hs m) (hs.getD L 0)).map fun x=>pcM ps x (hs.getD L 0) ps.length).sum->b'=true)->
     ∀j∈(insN hs.length m).take i++[L],Vo ws (insM hs m) (hs.getD j 0)=true->vs.getD m 0=vs.getD (m-2 ^ j) 0+((QP (insM hs m) (hs.getD j 0)).map fun x=>pcM ps x (hs.getD j 0) ps.length).sum->b'=true:=fun b' e h j hj h1 h2=>by
    rcases ZU.mp hj with hj|hj
    ·rcases e with e|e
     ·rw[e];exact hb j hj h1 h2
     ·exact e
    ·rw[ZA.mp hj]at h1 h2;exact h h1 h2
   refine⟨_,aw,?_⟩;refine ite2 (fun g=>?_) (fun g=>?_)
   ·have hlast:=(Tf hW hLn hm).mp (ZZ g)
    have em:((m:Int)-1*2 ^ ((L:Nat):Int).toNat)=((m-2 ^ L:Nat):Int):=by
     rw[Int.one_mul,ZN,Int.natCast_sub hge,Qm];rfl
    have es:((insN hs.length m).map fun j=>pcM ps (hs.getD j 0) (hs.getD L 0) ps.length).sum=((QP (insM hs m) (hs.getD L 0)).map fun x=>pcM ps x (hs.getD L 0) ps.length).sum:=by
     have e1:((insN hs.length m).map fun j=>pcM ps (hs.getD j 0) (hs.getD L 0) ps.length)=(insM hs m).map fun x=>pcM ps x (hs.getD L 0) ps.length:=by unfold insM;rw[Yr];rfl
     rw[e1,Kp (UU (Ta nd m) (insM_mem.mpr ⟨L,hLn,hL2,rfl⟩)),ZO,WY,Nz,Int.zero_add]
    refine⟨⟨by omega,by omega,by decide⟩,_,atv (m-2 ^ L) _ (YS (Nat.sub_le _ _) hm) em,?_⟩;refine VH (xs:=insN hs.length m) (emb:=natD) (fun j=>some (.int (pcM ps (hs.getD j 0) (hs.getD L 0) ps.length))) (by unfold insN;have:=Yz (fun j=>m.testBit j) (List.range hs.length);rw[YX]at this;omega) (fun j hj=>?_) ?_
    ·have hjn:j<hs.length:=Yp.mp (ZQ.mp hj).1
     have a1:atI (hs.map (rowE ps hs)) ((j:Nat):Int)=some (rowE ps hs (hs.getD j 0)):=by
      rw[Z7,Z5 hjn];exact J8 hjn
     have a2:atI (hs.map fun b=>D.int (pcM ps (hs.getD j 0) b ps.length)) ((L:Nat):Int)=some (.int (pcM ps (hs.getD j 0) (hs.getD L 0) ps.length)):=by
      rw[show hs.getD L 0=hs[L] by rw[Z7,Z5 hLn];rfl];exact J8 (f:=fun b=>D.int (pcM ps (hs.getD j 0) b ps.length)) hLn
     exact⟨_,a1,_,a2,_,rfl,rfl⟩
    rw[mapD (fun j:Nat=>D.int (pcM ps (hs.getD j 0) (hs.getD L 0) ps.length))];refine⟨(insN hs.length m).map fun j=>pcM ps (hs.getD j 0) (hs.getD L 0) ps.length,by rw[Yr];rfl,?_⟩;rw[es];have le:=t1 L hLn hL2 hlast;refine⟨_,atv m _ hm rfl,ite2 (fun g=>absurd (ZZ g) (by omega)) (fun _=>?_)⟩;refine⟨_,atv m _ hm rfl,ite2 (fun g=>?_) (fun g=>?_)⟩
    ·exact⟨true,keep true (.inr rfl) fun _ _=>rfl,rfl⟩
    ·exact⟨b,keep b (.inl rfl) fun _ h=>absurd (ZC h) g,rfl⟩
   ·exact⟨b,keep b (.inl rfl) fun h _=>absurd (ZC ((Tf hW hLn hm).mpr h)) g,rfl⟩
  ·rintro γ' ⟨b,hb,rfl⟩;rw[Yv]at hb;obtain⟨j,hj,hbit,hlast,e⟩:=t2;rw[hb j (ZQ.mpr ⟨Yp.mpr hj,hbit⟩) hlast e];exact hR
def Cn(G:Glob K mg)(DD:Def K mg "_law_wants" K0 ["_law_holders","_law_wishes_here"])
  : Nl P w K mg base:=by
 refine DD.oz (k:=0) US (fun _ _ _ _ _ _ E hr=>⟨_,(QH (Pu.pz 2 US.nd (QK Pt (Vq (az QG)) (ln K G.len (pv 0)))) (QH (Vn Yc rfl (Vj (K:=K) (pv 1)) (XT (K:=K) (n:=2) rfl (Jx (gz 3 US.nd) (Jx (gz 4 US.nd) Xe))) (QI (Vd (PW.pt (U0 (Ve (U2 (K:=K) (show _<cLine from V8 hr)) (pv 3) (pv 0) (by with_unfolding_all rfl)) (U4 (Ve (U2 (K:=K) (show _<cLine from V8 hr)) (pv 4) (pv 0) (by with_unfolding_all rfl))))) (QI (PB (pv 2) (Km (K:=K) Y2 Wh WQ (KG (K:=K)) (pv 0) (az (pv 3))) (Pi (K:=K)) (QK Xq QG (Km (K:=K) Y2 Wh WQ (KG (K:=K)) (pv 0) (az (pv 4)))) BQ Se))
   Vg))) (QI (QT (pv 2))))), (QN (QW (Nc (VS (sz Vf)) (Jn (sz (QE 0)))) (QJ 2)) (QN (Vl 1 (V5 [3,4] (VU (QE 1)) (Py (Xp (QJ 3) (Xp (QJ 4) Pr))) (Vz (Kc (Vw (JO (QE 3) (QE 0))) (Vw (JO (QE 4) (QE 0)))) (Bv 2 (Xt (QE 0) (sz (QE 3))) (K1 Vf (Xt (QE 0) (sz (QE 4))))) Vx))) (Jk 2)))⟩) (.a fun ds R X h=>?_)
 ·obtain⟨hs,ws,rfl,nd,hz,hR⟩:=h;refine⟨rfl,?_⟩;have hl:(hs.map D.int).length=hs.length:=Z6 ..;refine⟨by simp,rfl,⟨by omega,by omega⟩,by show 1*(((hs.map D.int).length:Nat):Int).toNat<=10000000;omega,?_⟩
  have e0:(List.replicate (((hs.map D.int).length:Nat):Int).toNat [D.int 0]).flatten=(List.replicate hs.length 0).map natD:=by
   rw[Qc,List.map_replicate,ZN,hl];rfl
  rw[e0]
  have ix:∀z,z∈hs->hs.idxOf z<hs.length/\hs.getD (hs.idxOf z) 0=z:=fun z hz=>by
   have h1:=WI.mpr hz;exact⟨h1,by rw[Z7,Z5 h1];exact Qu h1⟩
  refine⟨rfl,VX (xs:=ws) (emb:=prD) (fun i γ'=>∃wn:List Nat,JR wn hs (ws.take i)/\γ'=[some (.bor (.lst (hs.map D.int))),some (.bor (.lst (ws.map prD))),some (.own (.lst (wn.map natD))),none,none]) ⟨_,⟨by simp,fun a b ha hb=>by simp[Z7,ha]⟩,rfl⟩ ?_ ?_⟩
  ·rintro i hi γ' ⟨wn,hw,rfl⟩;have et:ws.take (i+1)=ws.take i++[ws[i]]:=ZR hi;rw[et];generalize ws[i]=q;generalize ws.take i=W at hw ⊢
   have same:¬(q.1∈hs/\q.2∈hs)->JR wn hs (W++[q]):=fun n=>⟨hw.1,fun a b ha hb=>by
    rw[hw.2 a b ha hb,ZU,ZA];refine⟨.inl,fun z=>z.resolve_right fun e=>n ?_⟩;rw[←e];exact⟨Xn ha,Xn hb⟩⟩
   refine⟨rfl,_,.li _ _,ite2 (fun g1=>⟨_,.li _ _,ite2 (fun g2=>?_) (fun g2=>?_)⟩) (fun g1=>?_)⟩
   ·have g1':q.1∈hs:=ZZ g1;have g2':q.2∈hs:=ZZ g2;obtain⟨i1,i2⟩:=ix _ g1';obtain⟨k1,k2⟩:=ix _ g2';have hj:hs.idxOf q.1<wn.length:=by rw[hw.1];exact i1
    have gd:wn.getD (hs.idxOf q.1) 0=wn[hs.idxOf q.1]:=by rw[Z7,Z5 hj];rfl
    refine⟨⟨_,rfl⟩,hs,rfl,g1',hs.idxOf q.1,(wn[hs.idxOf q.1]:Nat),?_,by rw[ZD,Z5 hj];rfl,⟨_,rfl⟩,hs,rfl,g2',⟨by omega,by omega,by decide⟩,?_⟩
    ·unfold ixN;rw[Z6,ZH (by omega),ZH (by omega)];rfl
    refine⟨wn.set (hs.idxOf q.1) (wn[hs.idxOf q.1] ||| 2 ^ hs.idxOf q.2),⟨by rw[YG];exact hw.1,fun a b ha hb=>?_⟩,?_⟩
    ·rw[ZU,ZA];by_cases e:a=hs.idxOf q.1
     ·have:(wn.set (hs.idxOf q.1) (wn[hs.idxOf q.1] ||| 2 ^ hs.idxOf q.2)).getD a 0=wn[hs.idxOf q.1] ||| 2 ^ hs.idxOf q.2:=by
       rw[e,Z7,Wr hj];rfl
      rw[this,Nat.testBit_or,Bool.or_eq_true,Nat.testBit_two_pow,YY,←gd,hw.2 _ b i1 hb,←e];refine⟨fun z=>z.imp id fun z=>?_,fun z=>z.imp id fun z=>?_⟩
      ·rw[e,i2,←z,k2]
      ·have:hs.getD b 0=q.2:=Yg Prod.snd z
       exact JZ nd k1 hb (k2.trans this.symm)
     ·have:(wn.set (hs.idxOf q.1) (wn[hs.idxOf q.1] ||| 2 ^ hs.idxOf q.2)).getD a 0=wn.getD a 0:=by
       rw[Z7,W2 (fun z=>e z.symm),Z7]
      rw[this,hw.2 a b ha hb];refine⟨.inl,fun z=>z.resolve_right fun z=>e ?_⟩
      have:hs.getD a 0=q.1:=Yg Prod.fst z
      exact(JZ nd i1 ha (i2.trans this.symm)).symm
    ·have eb:Builtin.bitOr ((wn[hs.idxOf q.1]:Nat):Int) (1*2 ^ ((hs.idxOf q.2:Nat):Int).toNat)=((wn[hs.idxOf q.1] ||| 2 ^ hs.idxOf q.2:Nat):Int):=by
      rw[Int.one_mul,ZN,←Do,Qm];rfl
     rw[List.map_set];show _=[_,_,some (S.own (O.lst ((wn.map natD).set (hs.idxOf q.1) (D.int ((wn[hs.idxOf q.1] ||| 2 ^ hs.idxOf q.2:Nat):Int))))),_,_];rw[←eb];rfl
   ·exact⟨wn,same fun z=>g2 (ZC z.2),rfl⟩
   ·exact⟨wn,same fun z=>g1 (ZC z.1),rfl⟩
  ·rintro γ' ⟨wn,hw,rfl⟩;rw[Yv]at hw;exact hR wn hw
def CA(G:Glob K mg)(DD:Def K mg "ring_from" K2 ["least","holders","wishes"])(Zi:SA P w K mg base)
  : SC P w K mg base:=by
 refine DD.oz (k:=1) J3 (fun _ _ _ _ _ _ E hr=>⟨_,(QH (Pu.pz 3 J3.nd (Vq (az (Vq (az (pv 0)))))) (QH (Pu.pz 4 J3.nd (Vk (Pm (K:=K) (w:=w) rfl) (by rfl) G.sorted boot_sorted (az (VA (N':=["holder","least"]) (φ:=[none,some 0]) rfl (Own.CompOk.of (by rfl)) (Vj (K:=K) (pv 1)) (fun _ _ _ _ _=>⟨(gz 0 (show(["holder","least"]:List Str).Nodup from by decide +kernel)),(Jp (Ve UK (pv 0) (pv 1) (Vv _))),(pv 0)⟩))))) (QH (F3 Yc (VI (K:=K) (pv 3)) (QH (J6 (N':=["path","wishes","least"]) (φ:=[none,some 2,some 0]) (i:=5) J3.nd rfl rfl rfl (Own.CompOk.of (by rfl)) (Vj (K:=K) (pv 3)) (fun _ _ _ _ _=>⟨(gz 0 (show(["path","wishes","least"]:List Str).Nodup from by decide +kernel)),(Jp (Ve (U2 (K:=K) (show _<cLine from V8 hr)) (Jl (bz (jx K (pv 0) (XD Xx QG)) (pv 2))) (pv 1) (by with_unfolding_all rfl))),(pv 0)⟩)) (QH (Vd (VI (K:=K) (pv 5)) (QI (QT (jx K (pv 5) QG)))
   Vg) (QH (Pu.pz 3 J3.nd (fz Zi hr (dz (pv 3) (pv 4) (pv 2)))) (QH (Pu.pz 6 J3.nd (VA (N':=["path"]) (φ:=[none]) rfl (Own.CompOk.of (by rfl)) (Vj (K:=K) (pv 3)) (fun _ _ _ _ _=>⟨(gz 0 (show(["path"]:List Str).Nodup from by decide +kernel)),VW,(jx K (pv 0) (XD Xx QG))⟩))) (QI (J6 (N':=["holder","reached"]) (φ:=[none,some 6]) (i:=4) J3.nd rfl rfl rfl (Own.CompOk.of (by rfl)) (Vj (K:=K) (pv 4)) (fun _ _ _ _ _=>⟨(gz 0 (show(["holder","reached"]:List Str).Nodup from by decide +kernel)),(Jp (Ve (AW (K:=K) (show _<cLine from V8 hr)) (pv 0) (pv 1) (by with_unfolding_all rfl))),(pv 0)⟩)))))))) (QI (QT (Vq QM)))))), (QN (Vl 0 (QW (VS (sz (VS (sz (QE 0))))) (QJ 3))) (QN (QW (NY (sz (VB (Jc (QE 1)) (QJ 0) (Vw (Pe (QE 0) (QE 1))) (QE 0)))) (QJ 4)) (QN (FO [5,6] (VF (QE 3)) (QN (Vl 0 (QW (VB (Jc (QE 3)) (QJ 0) (Vw (JO (J1 (tz (Vm (QE 0) (XM Vf)) (QE 2))) (QE 1))) (QE 0)) (QJ 5))) (QN (Vz (VF (QE 5)) (P5 (Vm (QE 5) Vf)) Vx) (QN (QW (Vb (uz (QE 3) (QE 4) (QE 2))) (QJ 3)) (QN (QW (VB (Jc (QE 3)) (QJ 0) Ju (Vm (QE 0) (XM Vf))) (QJ 6)) (QW (VB (Jc (QE 4)) (QJ 0) (Vw (JO (QE 0) (QE 1))) (QE 0)) (QJ 4))))))) (P5 (VS Jd)))))⟩) (.a fun ds R X h=>?_)
 ·obtain⟨l,hs,ws,rfl,hnd,hz,hR⟩:=h;refine⟨rfl,?_⟩;refine⟨by simp,by simp,VH (xs:=hs) (emb:=D.int) (fun h=>if decide (l<h)=true then some (.int h)else none) (by omega) (fun h _=>ite2 (fun g=>⟨_,rfl,ZH g⟩) (fun g=>ZG g)) ?_⟩;rw[SU fun h=>decide (l<h)];refine⟨hs.filter fun h=>decide (l<h),rfl,YS (Yz _ _) (by omega),fun ls hp hsrt=>?_⟩;have hlt:ls.Pairwise (· < ·):=Kw hsrt (hp.nodup_iff.mpr (hnd.filter _))
  have hm:∀h,h∈ls↔Gr hs l h:=fun h=>by
   rw[hp.mem_iff,ZQ,YY];exact Iff.rfl
  have hlen:ls.length<=hs.length:=by
   rw[hp.length_eq];exact Yz _ _
  refine E6 (fun γ'=>∃k ps ls,γ'=[some (.sh (.int l)),some (.bor (.lst (hs.map D.int))),some (.bor (.lst (ws.map prD))),some (.own (ps.map (em l))),some (.own (ls.map D.int)),none,none]/\Lev hs ws l k ps ls/\ps.length<=60/\ls.length<=hs.length/\(k+ls.length<=hs.length\/(ps=[]/\k<=hs.length+1)))
   (fun γ=>2*Pn 4 γ+min 1 (Pn 3 γ)) ⟨0,[[]],ls,rfl,Lev.start hlt hm,by simp,hlen,.inl (by omega)⟩ ?_
  rintro γ' ⟨k,ps,ls,rfl,L,hpl,hll,hk⟩;have emp:(!(ps.map (em l)).isEmpty)=decide (ps≠[]):=by cases ps<;>simp
  show if (!(ps.map (em l)).isEmpty)=true then _ else _;rw[emp];refine ite2 (fun g=>?_) (fun g=>?_)
  ·have hne:ps≠[]:=ZZ g;have hk':k+ls.length<=hs.length:=hk.elim id fun z=>absurd z.1 hne;have hpk:∀p∈ps,p.length<=60:=fun p hp=>by rw[(L.way p hp).1];omega
   refine VH (xs:=ps) (emb:=em l) (fun p=>if decide ((QL l p,l)∈ws)=true then some (em l p)else none) (by omega) (fun p hp=>⟨_,K4 l p,by simp,_,.lp (QL l p,l) ws,ite2 (fun g=>⟨_,rfl,ZH g⟩) (fun g=>ZG g)⟩) ?_;rw[JL fun p=>decide ((QL l p,l)∈ws)];generalize ef:(ps.filter fun p=>decide ((QL l p,l)∈ws))=fs;have emp2:(!(fs.map (em l)).isEmpty)=decide (fs≠[]):=by cases fs<;>simp
   show if (!(fs.map (em l)).isEmpty)=true then _ else _;rw[emp2];refine ite2 (fun g2=>?_) (fun g2=>?_)
   ·have hfe:fs≠[]:=ZZ g2;cases fs with
    |nil=>exact absurd rfl hfe
    |cons p r=>
     obtain⟨i,hi,e1,e2,e3⟩:=PK ef;have hp:p∈ps:=by rw[←e1];exact ZV hi
     refine⟨em l p,B4 _ _,hR (l::p) (L.found hi e1 (ZZ e2) fun j hj hji z=>?_) (by have:=(L.way p hp).1;simp;omega)⟩
     have:=e3 j hj hji
     rw[ZC z]at this;cases this
   ·have hfe:fs=[]:=Ys fun z=>g2 (ZC z)
    have hn:∀p∈ps,(QL l p,l)∉ws:=fun p hp z=>by
     have:p∈fs:=by rw[←ef];exact ZQ.mpr ⟨hp,ZC z⟩
     rw[hfe]at this;cases this
    refine⟨l,ps,ls,ws,rfl,L.srt,L.lsrt,fun p hp=>ZW (hpk p hp) (by decide),by omega,fun lg G hlg=>?_⟩;refine VH (xs:=lg) (emb:=em l) (fun p=>some (.int (QL l p))) (by omega) (fun p _=>⟨_,K4 l p,_,rfl,rfl⟩) ?_;have e1:lg.filterMap (fun p=>some (D.int (QL l p)))=(lg.map (QL l)).map D.int:=by rw[YR,Yr];rfl
    rw[e1];refine VH (xs:=ls) (emb:=D.int) (fun h=>if decide (¬h∈lg.map (QL l))=true then some (.int h)else none) (by omega) (fun h _=>⟨_,.li h _,?_⟩) ?_
    ·by_cases c:h∈lg.map (QL l)
     ·simp only[ZC c];exact iteF (ZG (by simp[c]))
     ·simp only[ZM c];exact iteT ⟨_,rfl,ZH (by simp[c])⟩
    rw[SU fun h=>decide (¬h∈lg.map (QL l))];have L':=L.next hn G rfl
    have hsub:∀h∈lg.map (QL l),h∈ls:=fun h hh=>by
     obtain⟨q,hq,e⟩:=ZS.mp hh;obtain⟨p,x,⟨_,a⟩,rfl,_⟩:=G.mem q hq;rw[Vy]at e;rw[←e];exact a
    have hfl:=Yz (fun h=>decide (¬h∈lg.map (QL l))) ls
    have hless:lg≠[]->(ls.filter fun h=>decide (¬h∈lg.map (QL l))).length<ls.length:=fun hne=>by
     obtain⟨q,hq⟩:=List.exists_mem_of_ne_nil lg hne;have hm:QL l q∈ls:=hsub _ (Qr hq);refine Nat.lt_of_le_of_ne hfl fun z=>?_
     have:=Qp.mp (List.Sublist.eq_of_length (Qo (l:=ls)) z) (QL l q) hm
     rw[YY]at this;exact this (Qr hq)
    refine⟨⟨k+1,lg,_,rfl,L',by omega,by omega,?_⟩,?_⟩
    ·by_cases c:lg=[]
     ·exact .inr ⟨c,by omega⟩
     ·have:=hless c
      exact .inl (by omega)
    ·show 2*((ls.filter fun h=>decide (¬h∈lg.map (QL l))).map D.int).length+min 1 (lg.map (em l)).length<2*(ls.map D.int).length+min 1 (ps.map (em l)).length;rw[Z6,Z6,Z6,Z6]
     have:0<ps.length:=List.length_pos_iff.mpr hne
     by_cases c:lg=[]
     ·rw[c];rw[c]at hfl;simp only[List.length_nil];omega
     ·have:=hless c
      omega
  ·have hpe:ps=[]:=Ys fun z=>g (ZC z);subst hpe;exact⟨by simp,hR [] L.over (by simp)⟩
def CS(G:Glob K mg)(DD:Def K mg "pair_costs" Kh ["strips"])(Zd:Ky P w K mg base)(Zj:AG P w K mg base)
  : N6 P w K mg base:=by
 refine DD.oz (k:=1) Uu (fun _ _ _ _ _ _ E hr=>⟨_,(QH (Pu.pz 1 Uu.nd (fz Zd hr (az (pv 0)))) (QH (Pu.pz 2 Uu.nd Fj) (QH (Vn Yc rfl (Vj (K:=K) (pv 1)) (gz 3 Uu.nd) (QI (Vn Yc rfl (Vj (K:=K) (pv 1)) (gz 4 Uu.nd) (QI (Kz (V8 hr) (pv 2) (Jl (bz (pv 3) (pv 4))) (fz Zj hr (dz (pv 0) (pv 3) (pv 4))) rfl))))) (QI (QT (pv 2)))))), (QN (QW (Vb (sz (QE 0))) (QJ 1)) (QN (QW Ae (QJ 2)) (QN (Vl 1 (V5 [3,4] (VU (QE 1)) (QJ 3) (Vl 1 (V5 [4] (VU (QE 1)) (QJ 4) (Vl 4 (Vl 3 (KL 2 (J1 (tz (QE 3) (QE 4))) (Vb (uz (QE 0) (QE 3) (QE 4)))))))))) (Jk 2))))⟩) (.a fun ds R X h=>?_)
 ·obtain⟨ps,rfl,hF,hz,hR⟩:=h;refine⟨rfl,?_⟩;refine⟨ps,rfl,hF,hz,?_⟩;have hh:=Uh ps;generalize QY ps=hs at hh hR ⊢
  refine⟨rfl,VX (xs:=hs) (emb:=D.int) (fun i γ'=>∃kvs:List (List Key×V),γ'=[some (.bor (.lst (ps.map prD))),some (.sh (.lst (hs.map D.int))),some (.own (.dT kvs)),none,none]/\kvs.length<=i*10/\
   ∀x∈hs.take i,∀y∈hs,valV kvs [.inl x,.inl y]=some (.int (pcM ps x y ps.length))) ⟨[],rfl,by simp,by simp⟩ ?_ ?_⟩
  ·rintro i hi γ' ⟨kvs,rfl,hl,hv⟩
   refine⟨rfl,VX (xs:=hs) (emb:=D.int) (fun j γ'=>∃kvs:List (List Key×V),γ'=[some (.bor (.lst (ps.map prD))),some (.sh (.lst (hs.map D.int))),some (.own (.dT kvs)),some (.sh (.int hs[i])),none]/\kvs.length<=i*10+j/\
    (∀x∈hs.take i,∀y∈hs,valV kvs [.inl x,.inl y]=some (.int (pcM ps x y ps.length)))/\∀y∈hs.take j,valV kvs [.inl hs[i],.inl y]=some (.int (pcM ps hs[i] y ps.length))) ⟨kvs,rfl,by omega,hv,by simp⟩ ?_ ?_⟩
   ·rintro j hj γ' ⟨kvs,rfl,hl,hv,hw⟩;refine⟨ps,_,_,rfl,hF,by simp,_,_,rfl,rfl,by omega,_,rfl,ZW (UD _ _ _) (by omega),fun x hx y hy=>?_,fun y hy=>?_⟩
    ·rw[UA];by_cases e:([.inl x,.inl y]:List Key)=[.inl hs[i],.inl hs[j]]
     ·rw[ZH e];simp only[Ql,Sum.inl.injEq,and_true]at e;rw[e.1,e.2]
     ·rw[ZG e];exact hv x hx y hy
    ·rw[UA];by_cases e:([.inl hs[i],.inl y]:List Key)=[.inl hs[i],.inl hs[j]]
     ·rw[ZH e];simp only[Ql,Sum.inl.injEq,and_true]at e;rw[e.2]
     ·rw[ZG e];rw[ZR hj,ZU,ZA]at hy;rcases hy with hy|hy
      ·exact hw y hy
      ·subst hy;exact absurd rfl e
   ·rintro γ' ⟨kvs,rfl,hl,hv,hw⟩;rw[Yv]at hw;refine⟨kvs,rfl,by omega,fun x hx y hy=>?_⟩;rw[ZR hi,ZU,ZA]at hx;rcases hx with hx|hx
    ·exact hv x hx y hy
    ·subst hx;exact hw y hy
  ·rintro γ' ⟨kvs,rfl,hl,hv⟩;rw[Yv]at hv;exact hR kvs hv
def Fd(G:Glob K mg)(DD:Def K mg "cost_with_last" K9 ["members","last","least","pairs"])(Zk:T1 P w K mg base)
  : TH P w K mg base:=by
 refine DD.oz (k:=1) P9 (fun _ _ _ _ _ _ E hr=>⟨_,(QH (Pu.pz 4 P9.nd (fz Zk hr (bz (pv 0) (pv 1)))) (QI (QT (QK V0 (Np (V8 hr) (pv 2) (pv 4) (fun _ _=>rfl)) (Vk (T6 (K:=K) rfl) (by rfl) G.sum boot_sum (az (VA (N':=["other","pairs","last"]) (φ:=[none,some 3,some 1]) rfl (Own.CompOk.of (by rfl)) (Kf (K:=K) (pv 4)) (fun _ _ _ _ _=>⟨(gz 0 (show(["other","pairs","last"]:List Str).Nodup from by decide +kernel)),VW,(Np (V8 hr) (pv 1) (Jl (bz (pv 0) (pv 2))) (fun _ _=>rfl))⟩)))))))), (QN (QW (Vb (tz (QE 0) (QE 1))) (QJ 4)) (Vl 1 (VO (Tt (TZ (QE 2) (QE 4)) (SZ (sz (VB (SndI.c (K6 (QE 4))) (QJ 0) Ju (TZ (QE 1) (J1 (tz (QE 0) (QE 2)))))))))))⟩) (.a fun ds R X h=>?_)
 ·obtain⟨ms,l,le,pa,c,v,rfl,hz,hv,hc,hR⟩:=h;refine⟨rfl,?_⟩;rw[XZ];have hz':(QP ms l).length<=1000:=ZW less_sub.length_le hz;refine⟨ms,l,rfl,hz,_,_,Na _,hv,rfl,_,rfl,VH (s:=.sh .non) (xs:=QP ms l) (emb:=D.int) (fun m=>some (.int (c m))) (by omega) (fun m hm=>?_) ?_⟩
  ·exact⟨by simp,_,_,rfl,hc m hm,rfl,_,rfl,rfl⟩
  ·rw[mapD];exact⟨(QP ms l).map c,by rw[Yr];rfl,hR⟩
def Ad(G:Glob K mg)(DD:Def K mg "_law_keepable" KP ["_law_wishes_here","_law_holders"])(Zl:Du P w K mg base)
  : SG P w K mg base:=by
 refine DD.oz (k:=1) KE (fun _ _ _ _ _ _ E hr=>⟨_,(QH (Pu.pz 2 KE.nd (Vq QM)) (QH (Vn Yc rfl (Vj (K:=K) (pv 0)) (gz 3 KE.nd) (QI (Vd (VI (K:=K) (fz Zl hr (bz (pv 1) (QK XI (pv 2) (Vq (az (pv 3))))))) (QI (U3 (Uq Y2 We Wf Uy (pv 2) (az (pv 3)))))
   Vg))) (QI (QT (pv 2))))), (QN (QW (VS Jd) (QJ 2)) (QN (Vl 0 (V5 [3] (VU (QE 0)) (QJ 3) (Vz (VF (Vb (tz (QE 1) (XO (QE 2) (VS (sz (QE 3))))))) (Vl 3 (Nr 2 (QE 3))) Vx))) (Jk 2)))⟩) (.a fun ds R X h=>?_)
 ·obtain⟨ws,hs,rfl,hw,hz,hR⟩:=h;refine⟨rfl,?_⟩;refine⟨by simp,rfl,VX (xs:=ws) (emb:=prD) (fun i γ'=>∃ks:List (Int×Int),γ'=[some (.bor (.lst (ws.map prD))),some (.bor (.lst (hs.map D.int))),some (.own (ks.map prD)),none]/\ks.Sublist (ws.take i)/\QZ ks hs hs.length=[]) ⟨[],rfl,List.nil_sublist _,?_⟩ ?_ ?_⟩
  ·cases hs with
   |nil=>rfl
   |cons a r=>
    show VC [] _=[];exact List.filter_eq_nil_iff.mpr fun x _=>by simp[JJ]
  ·rintro i hi γ' ⟨ks,rfl,hs1,hp⟩;have hl:=hs1.length_le;rw[Yn]at hl;have n1:ks.Sublist (ws.take (i+1)):=hs1.trans (List.take_sublist_take_left (by omega))
   have n2:(ks++[ws[i]]).Sublist (ws.take (i+1)):=by
    rw[ZR hi];exact hs1.append (List.Sublist.refl _)
   generalize ws[i]=q at n2 ⊢;have em:ks.map prD++[prD q]=(ks++[q]).map prD:=by rw[Yh];rfl
   refine⟨by simp,rfl,rfl,?_,hs,ks++[q],?_,hz,?_,ite2 (fun g=>⟨?_,ks++[q],?_,n2,ZZ g⟩) (fun g=>⟨ks,rfl,n1,hp⟩)⟩
   ·rw[Z6];show ks.length+1<=100000;omega
   ·exact Yg (fun z=>[D.lst (hs.map D.int),D.lst z]) em
   ·rw[ZX];show ks.length+1<=50;omega
   ·rw[Z6];omega
   ·rw[←em];rfl
  ·rintro γ' ⟨ks,rfl,hs1,hp⟩;rw[Yv]at hs1;exact hR ks hs1 hp
def Ap(G:Glob K mg)(DD:Def K mg "_law_shows" Kj ["_law_told","_law_holders","_law_costs","_law_wants_here"])(Zf:Ep P w K mg base)(Zm:NN P w K mg base)
  : Ng P w K mg base:=by
 refine DD.oz (k:=1) XJ (fun _ _ _ _ _ _ E hr=>⟨_,(QH (Vd (PW.pt (JQ (Jo (VI (K:=K) (Vk (DV (K:=K)) (by rfl) G.isinstance W9 (bz (pv 0) (Us (v:=.ty "list") rfl G.list boot_list rfl))))) (JP (cn K hr (ln K G.len (pv 0)) (QK Xq QG (ln K G.len (pv 1))))))) (QI (QT V7))
   Vg) (QH (Vn Yc rfl (Vj (K:=K) (pv 0)) (gz 4 XJ.nd) (QI (Vd (Jo (VI (K:=K) (fz Zf hr (az (pv 4))))) (QI (QT V7))
   Vg))) (QH (Vd (cn K hr (jx K (pv 0) QG) QG) (QI (QT V7))
   Vg) (QH (Vn Yc rfl (Pg rfl G.range (bz QG (ln K G.len (pv 0)))) (gz 5 XJ.nd) (QI (Vd (Jo (VI (K:=K) (fz Zm hr (QF (pv 0) (QF (pv 2) (QF (pv 3) (QF (pv 5) QM))))))) (QI (QT V7))
   Vg))) (QI (QT V7)))))), (QN (Vz (KS (JK (VF (Cv (tz (QE 0) Fi)))) (Vw (U8 (Jn (sz (QE 0))) (K1 Vf (Jn (sz (QE 1))))))) (VO Jf) Vx) (QN (Vl 0 (V5 [4] (VU (QE 0)) (QJ 4) (Vz (JK (VF (Vb (sz (QE 4))))) (VO Jf) Vx))) (QN (Vz (Vw (U8 (Vm (QE 0) Vf) Vf)) (VO Jf) Vx) (QN (V5 [5] (BJ (tz Vf (Jn (sz (QE 0))))) (QJ 5) (Vz (JK (VF (Vb (V3 (QE 0) (V3 (QE 2) (V3 (QE 3) (V3 (QE 5) Jd))))))) (VO Jf) Vx)) (VO Jf)))))⟩) (.a fun ds R X h=>?_)
 ·obtain⟨ps,ws,hs,vs,wn,rfl,nd,hz,hu,hL,hT,hW,hR⟩:=h;refine⟨rfl,?_⟩;have lv:vs.length=2 ^ hs.length:=hT.1.trans (VJ hs);have lvm:(vs.map D.int).length=vs.length:=Z6 ..;have lh:(hs.map D.int).length=hs.length:=Z6 ..;have p10:2 ^ hs.length<=1024:=YJ (j:=10) (by decide) hz;have p0:0<2 ^ hs.length:=Nat.pow_pos (by decide);refine⟨true,.same _,iteF ⟨⟨by omega,by omega,by decide⟩,UX ?_ ?_⟩⟩
  ·rw[lvm,lv,Int.one_mul,ZN,lh,Qm];rfl
  refine⟨rfl,VX (xs:=vs) (emb:=D.int) (fun i γ'=>γ'=[some (.bor (.lst (vs.map D.int))),some (.bor (.lst (hs.map D.int))),some (.bor (U1 ps hs)),some (.bor (.lst (wn.map natD))),none,none]) rfl ?_ ?_⟩
  ·rintro i hi γ' rfl;exact⟨_,rfl,iteF rfl⟩
  rintro γ' rfl
  have h00:vs.getD 0 0=0:=by
   have L:=hT.2 0 _ (vs.getD 0 0) (UB hs 0 p0) (by rw[Z7,Z5 (show 0<vs.length by omega)];rfl);have e:insM hs 0=[]:=by unfold insM insN;simp
   rw[e]at L;obtain⟨o,o1,_,o3⟩:=L.is;rw[List.perm_nil.mp o1]at o3;exact o3.symm
  have a0:atI (vs.map D.int) 0=some (.int 0):=by
   have h:=J8 (f:=D.int) (xs:=vs) (i:=0) (by omega);rw[Z7,Z5 (show 0<vs.length by omega)]at h00;rw[show vs[0]=0 from h00]at h
   exact h
  refine⟨_,a0,?_⟩;refine⟨⟨by decide,by decide,by omega,by omega⟩,XG (fun i γ'=>γ'=[some (.bor (.lst (vs.map D.int))),some (.bor (.lst (hs.map D.int))),some (.bor (U1 ps hs)),some (.bor (.lst (wn.map natD))),none,none]) rfl ?_ ?_⟩
  ·rintro i γ' hi rfl;have hi':i<((((vs.map D.int).length:Nat):Int)-1).toNat:=hi;have ez:(1:Int)+(i:Int)=((i+1:Nat):Int):=by omega
   refine⟨ps,ws,hs,vs,wn,i+1,by rw[ez];rfl,nd,hz,hu,hL,hT,hW,by omega,by omega,iteF rfl⟩
  ·rintro γ' rfl;exact hR
def Dl(G:Glob K mg)(DD:Def K mg "find_ring" XW ["holders","wishes"])(Zn:SC P w K mg base)
  : Pw P w K mg base:=by
 refine DD.oz (k:=2) Ud (fun _ _ _ _ _ _ E hr=>⟨_,(QH (Pu.pz 2 Ud.nd (Vq QM)) (QH (Vn Yc rfl (Vj (K:=K) (Vk (Pm (K:=K) (w:=w) rfl) (by rfl) G.sorted boot_sorted (az (pv 0)))) (gz 3 Ud.nd) (QH (Pu.pz 4 Ud.nd (fz Zn hr (dz (pv 3) (pv 0) (pv 1)))) (QI (Vd (PW.pt (U0 (VI (K:=K) (pv 4)) (U4 (PW.pt (JQ (Jo (VI (K:=K) (pv 2))) (JP (Ve NP (ln K G.len (pv 4)) (ln K G.len (pv 2)) (Vv _)))))))) (QI (Pu.pz 2 Ud.nd (pv 4)))
   Vg)))) (QI (QT (pv 2))))), (QN (QW (VS Jd) (QJ 2)) (QN (Vl 2 (V5 [3,4] (VU (NY (sz (QE 0)))) (QJ 3) (QN (QW (Vb (uz (QE 3) (QE 0) (QE 1))) (QJ 4)) (Vz (Kc (VF (QE 4)) (KS (JK (VF (QE 2))) (Vw (D3 (Jn (sz (QE 4))) (Jn (sz (QE 2))))))) (Vl 4 (QW (QE 4) (QJ 2))) Vx)))) (Vl 2 (Jk 2))))⟩) (.a fun ds R X h=>?_)
 ·obtain⟨hs,ws,rfl,hnd,hz,hR⟩:=h;refine⟨rfl,?_⟩;refine⟨by simp,hs,rfl,by omega,fun ns hp hsrt=>?_⟩;have hlt:ns.Pairwise (· < ·):=Kw hsrt (hp.nodup_iff.mpr hnd);refine⟨rfl,VX (xs:=ns) (emb:=D.int) (fun i γ'=>∃r,γ'=[some (.bor (.lst (hs.map D.int))),some (.bor (.lst (ws.map prD))),some (.sh (.lst (r.map D.int))),none,none]/\r.length<=60/\FRi hs ws (ns.take i) r) ⟨[],rfl,by simp,.inl ⟨rfl,fun l hl=>by rw[WL]at hl;cases hl⟩⟩ ?_ ?_⟩
  ·rintro i hi γ' ⟨r,rfl,hrl,F⟩
   have hbef:∀m∈ns.take i,m<ns[i]:=fun m hm=>by
    obtain⟨j,hj,e⟩:=Yo.mp hm;rw[Yn]at hj;rw[Wv]at e;rw[←e];exact Yw.mp hlt j i (by omega) hi (by omega)
   rw[ZR hi];generalize ns[i]=l at hbef ⊢;refine⟨l,hs,ws,rfl,hnd,hz,fun f hf hfl=>?_⟩;have ef:(!(f.map D.int).isEmpty)=decide (f≠[]):=by cases f<;>simp
   have er:(!(r.map D.int).isEmpty)=decide (r≠[]):=by cases r<;>simp
   show if (!(f.map D.int).isEmpty)=true then _ else _;rw[ef];refine ite2 (fun g=>?_) (fun g=>iteF ⟨r,rfl,hrl,F.keep hbef hf (.inl (Ys fun z=>g (ZC z)))⟩);have hfe:f≠[]:=ZZ g;show if (!(!(r.map D.int).isEmpty))=true then _ else _;rw[er];by_cases hre:r=[]
   ·rw[ZM (fun z=>z hre)];exact iteT (iteT ⟨f,rfl,hfl,F.take hbef hf ⟨hfe,.inl hre⟩⟩)
   ·rw[ZC hre];refine iteF ?_;show if decide (((f.map D.int).length:Int)<((r.map D.int).length:Int))=true then _ else _;rw[Z6,Z6];refine ite2 (fun g2=>?_) (fun g2=>?_)
    ·have:=ZZ g2
     exact⟨f,rfl,hfl,F.take hbef hf ⟨hfe,.inr (by omega)⟩⟩
    ·have:¬(f.length:Int)<(r.length:Int):=fun z=>g2 (ZC z)
     exact⟨r,rfl,hrl,F.keep hbef hf (.inr ⟨hre,by omega⟩)⟩
  ·rintro γ' ⟨r,rfl,hrl,F⟩;rw[Yv]at F;exact hR r (F.all fun z=>hp.mem_iff) hrl
def D7(G:Glob K mg)(DD:Def K mg "least_costs" K7 ["strips","wishes","pairs"])(Zo:SQ P w K mg base)(Zd:Ky P w K mg base)(Zp:Sx P w K mg base)(Zq:TH P w K mg base)
  : Sk P w K mg base:=by
 refine DD.oz (k:=2) UJ (fun _ _ _ _ _ _ E hr=>⟨_,(QH (Pu.pz 3 UJ.nd (Ct (V8 hr) (Jl QM) QG)) (QH (Vn Yc rfl (Vj (K:=K) (A0 (DL (K:=K)) (fz Zo hr (az (fz Zd hr (az (pv 0))))) (Dz QG) AS)) (gz 4 UJ.nd) (QH (J6 (N':=["holder","members","wishes"]) (φ:=[none,some 4,some 1]) (i:=5) UJ.nd rfl rfl rfl (Own.CompOk.of (by rfl)) (Kf (K:=K) (pv 4)) (fun _ _ _ _ _=>⟨(gz 0 (show(["holder","members","wishes"]:List Str).Nodup from by decide +kernel)),(Jp (VI (K:=K) (fz Zp hr (dz (pv 1) (pv 0) (pv 2))))),(pv 0)⟩)) (QI (Kz (V8 hr) (pv 3) (pv 4) (Vk (FL (K:=K) rfl) (by rfl) G.min boot_min (az (VA (N':=["last","members","least","pairs"]) (φ:=[none,some 4,some 3,some 2]) rfl (Own.CompOk.of (by rfl)) (Vj (K:=K) (pv 5)) (fun _ _ _ _ _=>⟨(gz 0 (show(["last","members","least","pairs"]:List Str).Nodup from by decide +kernel)),VW,(fz Zq hr (QF (pv 1) (QF (pv 0) (QF (pv 2) (QF (pv 3) QM)))))⟩)))) rfl)))) (QI (QT (pv 3))))), (QN (QW (Cy (J1 Jd) Vf) (QJ 3)) (QN (V5 [4,5] (VU (DO (Vb (sz (Vb (sz (QE 0))))) (Fp Vf) B0)) (QJ 4) (QN (QW (VB (SndI.c (K6 (QE 4))) (QJ 0) (VF (Vb (uz (QE 1) (QE 0) (QE 2)))) (QE 0)) (QJ 5)) (KL 3 (QE 4) (Fz (sz (VB (Jc (QE 5)) (QJ 0) Ju (Vb (V3 (QE 1) (V3 (QE 0) (V3 (QE 2) (V3 (QE 3) Jd))))))))))) (Jk 3)))⟩) (.a fun ds R X h=>?_)
 ·obtain⟨ps,ws,pa,c,rfl,hF,hz,hw,hu,hc,hL,hR⟩:=h;refine⟨rfl,?_⟩;refine⟨by simp,_,_,rfl,rfl,?_⟩;refine⟨ps,rfl,hF,hz,_,rfl,Uh ps,?_⟩;have hh:=Uh ps;have nd:(QY ps).Nodup:=(Ur ps).imp (fun h=>Q0 h);generalize QY ps=hs at hh nd hc hL hR ⊢;have hsl:=VJ hs;have hsub:=JY hs;have hbef:=Cs nd;have hsn:=TX nd
  have hlen:(QU hs).length<=1024:=by
   rw[hsl];exact YJ (j:=10) (by decide) hh
  obtain⟨T,eT⟩:=E1 hs;rw[eT]at hsub hbef hsn hlen hR ⊢;refine⟨rfl,rfl,?_⟩
  have ec:Pu.cutD (List.map tD ([]::T)) (some 1) none=T.map tD:=by
   rw[Ft,DC _ (by decide)];rfl
  rw[ec];refine VX (xs:=T) (emb:=tD) (fun i γ'=>∃kvs:List (List Key×V),γ'=[some (.bor (.lst (ps.map prD))),some (.bor (.lst (ws.map prD))),some (.bor (.dT pa)),some (.own (.dT kvs)),none,none]/\Tab ws c ([]::T.take i) kvs) ⟨_,rfl,By ws c⟩ ?_ ?_
  ·rintro i hi γ' ⟨kvs,rfl,ht⟩;have em:([]::T)[i+1]?=some T[i]:=by rw[List.getElem?_cons_succ,Z5 hi]
   have hmem:T[i]∈[]::T:=Yb em;have hsm:=hsub _ hmem;have hne:T[i]≠[]:=fun e=>(Yi.mp hsn).1 (e▸ZV hi)
   have hnew:T[i]∉[]::T.take i:=fun z=>by
    rcases ZT.mp z with z|z
    ·exact hne z
    ·obtain⟨j,hj,e⟩:=Yo.mp z;rw[Yn]at hj;rw[Wv]at e;exact Yw.mp (Yi.mp hsn).2 j i (by omega) hi (by omega) e
   have hml:T[i].length<=10:=ZW hsm.length_le hh
   have hless:∀l∈T[i],QP T[i] l∈[]::T.take i:=fun l hl=>by
    obtain⟨j,hj,e⟩:=hbef (i+1) _ em l hl
    have:([]::T.take i)=([]::T).take (i+1):=by rw[List.take_succ_cons]
    rw[this];refine Yb (i:=j) ?_;rw[Y8 hj];exact e
   have ndm:T[i].Nodup:=nd.sublist hsm
   have hkl:kvs.length<=1024:=by
    have:=Yg List.length ht.keys
    rw[Z6,Z6,Yt,Yn]at this;rw[Yt]at hlen;omega
   have etk:[]::T.take (i+1)=([]::T.take i)++[T[i]]:=by rw[ZR hi];rfl
   rw[etk];generalize T[i]=ms at *;obtain⟨vs,hvs⟩:=Eb fun l hl=>ht.val _ (hless l hl);obtain⟨l0,hl0,hl0'⟩:=hL ms hsm hne;refine⟨_,rfl,VH (s:=.sh .non) (xs:=ms) (emb:=D.int) (fun h=>if Vo ws ms h=true then some (.int h)else none) (by omega) (fun h hm=>?_) ?_⟩
   ·refine⟨ms,h,ws,rfl,hw,?_⟩;refine ite2 (fun g=>⟨_,rfl,ZH g⟩) (fun g=>ZG g)
   ·rw[JL (fun h=>Vo ws ms h)];refine VH (xs:=ms.filter (fun h=>Vo ws ms h)) (emb:=D.int) (fun l=>some (.int (vs l+((QP ms l).map (c · l)).sum))) (ZW (Yz _ _) (by omega)) (fun l hl=>?_) ?_
    ·obtain⟨hl1,hl2⟩:=ZQ.mp hl;exact⟨ms,l,kvs,pa,(c · l),vs l,rfl,by omega,(hvs l hl1).1,fun m hm=>hc m (hsm.subset (less_sub.subset hm)) l (hsm.subset hl1),_,rfl,rfl⟩
    ·rw[mapD];refine⟨(ms.filter (fun h=>Vo ws ms h)).map fun l=>vs l+((QP ms l).map (c · l)).sum,by rw[Yr];rfl,?_,fun M hM hle=>⟨_,_,Na ms,rfl,by omega,_,rfl,ht.put hnew (SY ndm hu (fun l hl=>(hvs l hl).2) ?_ ?_)⟩⟩
     ·rw[Z6];exact List.length_pos_of_mem (ZQ.mpr ⟨hl0,lastM_iff.mpr hl0'⟩)
     ·obtain⟨l,hl,e⟩:=ZS.mp hM;obtain⟨hl1,hl2⟩:=ZQ.mp hl;exact⟨l,hl1,hl2,e.symm⟩
     ·intro l hl hlast;exact hle _ (ZS.mpr ⟨l,ZQ.mpr ⟨hl,hlast⟩,rfl⟩)
  ·rintro γ' ⟨kvs,rfl,ht⟩;rw[Yv]at ht;exact hR kvs ht
def BW(G:Glob K mg)(DD:Def K mg "check_no_ring" K3 ["strips","wishes"])(Zr:Pw P w K mg base)(Zd:Ky P w K mg base)
  : Tz P w K mg base:=by
 refine DD.oz (k:=3) PU (fun _ _ _ _ _ _ E hr=>⟨_,(QH (Pu.pz 2 PU.nd (fz Zr hr (bz (fz Zd hr (az (pv 0))) (pv 1)))) (QI (Vd (VI (K:=K) (pv 2)) (QI Es)
   Vg))), (QN (QW (Vb (tz (Vb (sz (QE 0))) (QE 1))) (QJ 2)) (Vz (VF (QE 2)) DH Vx))⟩) (.a fun ds R X h=>?_)
 ·obtain⟨ps,ws,rfl,hF,hz,hu,hN,hR⟩:=h;refine⟨rfl,?_⟩;refine⟨ps,rfl,hF,hz,_,ws,rfl,(Ur ps).imp (fun h=>Q0 h),ZW (Uh ps) (by decide),fun r hr hl=>?_⟩;have e:=(hr.none_iff hu).mpr hN;subst e;exact iteF (A:=False) hR
def Bz(G:Glob K mg)(DD:Def K mg "cost_table" Xu ["strips","wishes"])(Zs:Tz P w K mg base)(Zt:Sk P w K mg base)(Zu:N6 P w K mg base)
  : Bk P w K mg base:=by
 refine DD.oz (k:=4) NU (fun _ _ _ _ _ _ E hr=>⟨_,(QH (U3 (fz Zs hr (bz (pv 0) (pv 1)))) (QH (Pu.pz 2 NU.nd (fz Zt hr (dz (pv 0) (pv 1) (fz Zu hr (az (pv 0)))))) (QI (QT (JC (FV rfl) (by rfl) G.list boot_list (QF (Da (K:=K) (pv 2)) QM)))))), (QN (BI (Vb (tz (QE 0) (QE 1)))) (QN (QW (Vb (uz (QE 0) (QE 1) (Vb (sz (QE 0))))) (QJ 2)) (VO (F1 (QE 2)))))⟩) (.a fun ds R X h=>?_)
 ·obtain⟨ps,ws,rfl,hF,hz,hw,hu,hN,hR⟩:=h;refine⟨rfl,?_⟩;refine⟨ps,ws,rfl,hF,hz,hu,hN,ps,rfl,hF,hz,fun pa hpa=>⟨ps,ws,pa,pcc ps,rfl,hF,hz,hw,hu,hpa,Sm hu hN,fun kvs T=>?_⟩⟩;have nd:(QY ps).Nodup:=(Ur ps).imp (fun h=>Q0 h);obtain⟨vs,e,hv⟩:=T.vals (TX nd);obtain⟨e1,e2⟩:=PV e;refine⟨kvs,rfl,e1,?_⟩;rw[e2];exact hR vs hv
def AR(G:Glob K mg)(DD:Def K mg "law" Ja ["_law_script"])(Zv:A4 P w K mg base)(Zw:BD P w K mg base)(Zx:DE P w K mg base)(Zy:SG P w K mg base)(Zz:Bk P w K mg base)(Z0:Nk P w K mg base)(Z1:Ng P w K mg base)(Zb:Cu P w K mg base)(Z2:Av P w K mg base)(Z3:Nl P w K mg base)(Zg:Fb P w K mg base)(Zc:FG P w K mg base)
  : AF P w K mg base:=by
 refine DD.oz (k:=5) Ji (fun _ _ _ _ _ _ E hr=>⟨_,(QH (Pu.pz 1 Ji.nd (fz Zv hr (az (fz Zb hr (bz (pv 0) QG))))) (QH (Pu.pz 2 Ji.nd (fz Zw hr (dz (pv 0) (pv 1) (QK Vp (QK Jq (fz Zc hr (bz (pv 0) QG)) QG) QG)))) (QH (Pu.pz 3 Ji.nd (fz Zx hr (az (pv 2)))) (QH (Pu.pz 4 Ji.nd (fz Zy hr (bz (fz Z2 hr (bz (pv 0) (pv 1))) (pv 3)))) (QH (Pu.pz 5 Ji.nd (JC (TL (K:=K)) (by rfl) G.list boot_list (az (pv 2)))) (QH (Pu.pz 6 Ji.nd (JC (TL (K:=K)) (by rfl) G.list boot_list (az (pv 4)))) (QH (Pu.pz 7 Ji.nd (fz Zz hr (bz (pv 5) (pv 6)))) (QH (Vd (PW.pt (JQ (Jo (VI (K:=K) (fz Zg hr (bz (pv 5) (pv 2))))) (JP (Jo (VI (K:=K) (fz Zg hr (bz (pv 6) (pv 4)))))))) (QI (QT V7))
   Vg) (QH (Pu.pz 8 Ji.nd (fz Z0 hr (bz (pv 2) (pv 3)))) (QI (QT (fz Z1 hr (QF (pv 7) (QF (pv 3) (QF (pv 8) (QF (fz Z3 hr (bz (pv 3) (pv 4))) QM)))))))))))))))), (QN (QW (Vb (sz (Vb (tz (QE 0) Vf)))) (QJ 1)) (QN (QW (Vb (uz (QE 0) (QE 1) (A9 (Aw (Vb (tz (QE 0) Vf)) Vf) Vf))) (QJ 2)) (QN (QW (Vb (sz (QE 2))) (QJ 3)) (QN (QW (Vb (tz (Vb (tz (QE 0) (QE 1))) (QE 3))) (QJ 4)) (QN (QW (Pb (sz (QE 2))) (QJ 5)) (QN (QW (Pb (sz (QE 4))) (QJ 6)) (QN (QW (Vb (tz (QE 5) (QE 6))) (QJ 7)) (QN (Vz (KS (JK (VF (Vb (tz (QE 5) (QE 2))))) (JK (VF (Vb (tz (QE 6) (QE 4)))))) (VO Jf) Vx) (QN (QW (Vb (tz (QE 2) (QE 3))) (QJ 8)) (VO (Vb (V3 (QE 7) (V3 (QE 3) (V3 (QE 8) (V3 (Vb (tz (QE 3) (QE 4))) Jd)))))))))))))))⟩) (.a fun ds R X h=>?_)
 ·obtain⟨ns,rfl,hR⟩:=h;refine⟨rfl,?_⟩;refine⟨ns,0,rfl,by decide,_,rfl,fun hM=>?_⟩;generalize em:J0 (VE ns 0)=m at hM ⊢;refine⟨ns,0,rfl,by decide,⟨by decide,by decide⟩,(by show(0:Int)<41;decide),ns,m,_,rfl,hM,by omega,by omega,?_⟩;generalize en:(ns.getD (0:Int).toNat 0 / 2 % 41).toNat=n;have hn:n<=40:=by omega
  have hF:=FE (ns:=ns) hM n;have hlen:=Td ns m n;generalize eps:Jh ns m n=ps at hF hlen ⊢;have hh:=Uh ps;have nd:(QY ps).Nodup:=(Ur ps).imp (fun h=>Q0 h);refine⟨ps,rfl,by omega,ns,m,rfl,hM,fun ws0 hW=>?_⟩;have hW1:=hW.1;refine⟨ws0,QY ps,rfl,by omega,by omega,fun ws hsub hpeel=>?_⟩;have hwl:=hsub.length_le;have hu:∀q∈ws,q.1≠q.2:=fun q hq=>(hW.2.2 q (hsub.subset hq)).2;have hN:¬ ∃r,Ring (QY ps) ws r:=(Ar hu).mp hpeel;have hin:∀q∈ps,q.1∈QY ps:=fun q hq=>(N2 hF).mpr (ZS.mpr ⟨q,hq,rfl⟩);refine⟨rfl,rfl,ps,ws,rfl,hF,by omega,by omega,hu,hN,fun vs hT=>?_⟩;refine⟨ps,rfl,by omega,iteF ⟨ws,rfl,by omega,iteF ?_⟩⟩;refine⟨ps,QY ps,rfl,hF,by omega,nd,by omega,hin,fun x cs ec=>?_⟩;refine⟨QY ps,ws,rfl,nd,by omega,fun wn hWn=>?_⟩;refine⟨ps,ws,QY ps,vs,wn,?_,nd,by omega,hu,Sm hu hN,hT,hWn,hR⟩;show[D.lst (vs.map D.int),.lst ((QY ps).map D.int),.lst (cs.map fun c=>D.lst c.2),.lst (wn.map natD)]=_;rw[ec]
end
end T
namespace T
open PySem PySem.Spec PyProof.Rows L2 Own M
def FX{l:PySem.W.OpenLaw}{w:World}{K:Za}{h:Heap}{mg:Str->Option Value}{fa:Addr}(X:K.In h)(G0:h.Ns mainGlobals mg)(hfa:mg "law"=some (.ref fa))(a0:Pu.DI K "holders_of" XY)(a1:Pu.DI K "pair_cost" Xs)(a2:Pu.DI K "longer_paths" KU)(a3:Pu.DI K "ring_from" K2)(a4:Pu.DI K "find_ring" XW)(a5:Pu.DI K "check_no_ring" K3)(a6:Pu.DI K "pair_costs" Kh)(a7:Pu.DI K "sets_of" Ka)(a8:Pu.DI K "without" X4)(a9:Pu.DI K "may_lie_last" Kt)(a10:Pu.DI K "cost_with_last" K9)(a11:Pu.DI K "least_costs" K7)(a12:Pu.DI K "cost_table" Xu)(a13:Pu.DI K "_law_at" KW)(a14:Pu.DI K "_law_whole" K8)(a15:Pu.DI K "_law_mix" KQ)(a16:Pu.DI K "_law_draw" KH)(a17:Pu.DI K "_law_menu" Xy)(a18:Pu.DI K "_law_holder" Xz)(a19:Pu.DI K "_law_strips" KI)(a20:Pu.DI K "_law_wishes" X9)(a21:Pu.DI K "_law_tuples" XN)(a22:Pu.DI K "_law_present" Kq)(a23:Pu.DI K "_law_no_ring" Kk)(a24:Pu.DI K "_law_keepable" KP)(a25:Pu.DI K "_law_pair_rows" KM)(a26:Pu.DI K "_law_least_in" KD)(a27:Pu.DI K "_law_wants" K0)(a28:Pu.DI K "_law_shows" Kj){f29:Addr}{od29 an29:Option Addr}{sl29:Array (Option Value)}{oc29 kV29 dc29 pm29 cd29 ct29:Value}(a29:PySem.W.nsIn K mainGlobals "law"=some (some (.ref f29)))(l29:K.lookup f29=some ⟨oc29,od29,.func (PySem.W.fnOf "law" "law" (Jr Ja) (VP Ja) (QO Ja) .none kV29 dc29 pm29 an29 cd29 ct29),sl29⟩)(c29:PySem.W.codeIn K cd29 "law"=true)(k29:PySem.W.keepIn K (.ref f29)=true)(Q1:PySem.W.nsIn K mainGlobals "any"=some none)(Q2:PySem.W.nsIn K mainGlobals "bool"=some none)(Q3:PySem.W.nsIn K mainGlobals "int"=some none)(Q4:PySem.W.nsIn K mainGlobals "isinstance"=some none)(Q5:PySem.W.nsIn K mainGlobals "len"=some none)(Q6:PySem.W.nsIn K mainGlobals "list"=some none)(Q7:PySem.W.nsIn K mainGlobals "max"=some none)(Q8:PySem.W.nsIn K mainGlobals "min"=some none)(Q9:PySem.W.nsIn K mainGlobals "range"=some none)(QA:PySem.W.nsIn K mainGlobals "set"=some none)(QB:PySem.W.nsIn K mainGlobals "sorted"=some none)(QC:PySem.W.nsIn K mainGlobals "sum"=some none)(QD:PySem.W.nsIn K mainGlobals "tuple"=some none)
  : ∃fd:FuncData,(∀(s:Shared) (v:Value),BindsTo s fd ⟨[v],[]⟩ [("_law_script",v)])/\∀base:Heap,K.In base->base.Ns mainGlobals mg->FnOk l.prog w K mg base CX0 6 fa fd ["_law_script"] (Pu.XB K):=by
 have e:=hfa.symm.trans (Qw X G0 a29);cases e
 have G:Glob K mg:=⟨Ym X G0 Q1,Ym X G0 Q2,Ym X G0 Q3,Ym X G0 Q4,Ym X G0 Q5,Ym X G0 Q6,Ym X G0 Q7,Ym X G0 Q8,Ym X G0 Q9,Ym X G0 QA,Ym X G0 QB,Ym X G0 QC,Ym X G0 QD⟩;have F29:=N3 (st:=Ja) l29 c29 k29;have b29:=F29.binds (ps:=["_law_script"]) fun _ _ _ _ _ _ us hl=>by obtain⟨_,rfl⟩:=Pu.len1 hl;rfl
 have D29:Def K mg "law" Ja ["_law_script"]:=⟨_,_,F29,Qw X G0 a29,b29⟩;refine⟨PySem.W.fnOf "law" "law" (Jr Ja) (VP Ja) (QO Ja) .none kV29 dc29 pm29 an29 cd29 ct29,fun s v=>.of_eq rfl,fun base _ _=>?_⟩;have C0:=@AD l.prog w K mg base G (a0.e X G0);have C1:=@AL l.prog w K mg base G (a1.e X G0);have C2:=@A2 l.prog w K mg base G (a2.e X G0);have C7:=@CU l.prog w K mg base G (a7.e X G0);have C8:=@Bq l.prog w K mg base G (a8.e X G0);have C9:=@BS l.prog w K mg base G (a9.e X G0);have C13:=@FA l.prog w K mg base G (a13.e X G0);have C14:=@BA l.prog w K mg base G (a14.e X G0);have C15:=@As l.prog w K mg base G (a15.e X G0);have C17:=@Bp l.prog w K mg base G (a17.e X G0);have C18:=@CV l.prog w K mg base G (a18.e X G0);have C22:=@F2 l.prog w K mg base G (a22.e X G0);have C23:=@CW l.prog w K mg base G (a23.e X G0);have C25:=@FM l.prog w K mg base G (a25.e X G0);have C26:=@DP l.prog w K mg base G (a26.e X G0);have C27:=@Cn l.prog w K mg base G (a27.e X G0);have C3:=@CA l.prog w K mg base G (a3.e X G0) C2;have C6:=@CS l.prog w K mg base G (a6.e X G0) (Ku C0) (FJ C1);have C10:=@Fd l.prog w K mg base G (a10.e X G0) C8;have C16:=@Bn l.prog w K mg base G (a16.e X G0) C15 C13;have C21:=@AM l.prog w K mg base G (a21.e X G0) C14;have C24:=@Ad l.prog w K mg base G (a24.e X G0) (BP C23);have C28:=@Ap l.prog w K mg base G (a28.e X G0) (Eo C14) C26;have C4:=@Dl l.prog w K mg base G (a4.e X G0) C3;have C11:=@D7 l.prog w K mg base G (a11.e X G0) C7 (Ku C0) C9 C10;have C19:=@DN l.prog w K mg base G (a19.e X G0) C16 C18;have C20:=@D1 l.prog w K mg base G (a20.e X G0) C16 C18;have C5:=@BW l.prog w K mg base G (a5.e X G0) C4 (Ku C0);have C12:=@Bz l.prog w K mg base G (a12.e X G0) C5 C11 C6;have C29:=@AR l.prog w K mg base G D29 (D4 C17) (DW C19) (E7 C22) C24 C12 C25 C28 (CQ C16) (DJ C20) C27 (AN C21) (Dk C13);exact(C29.at (Qw X G0 a29) F29 D29).imp fun _ _ _ _ z=>Pu.D8 z
end T
structure PySem.W.Fast:Prop where (tw11585840909941306161 tw510093242703476064 tw18354467138051702208 tw17813393557800594048 tw14821081525704052512 tw7928680049531926113 tw15274705355640064609 tw1458093369853242177 tw13604521922422674305 tw9294208427588886658 tw6688387811931790498 tw4713882322737443010 tw16281864979581899010 tw13758131775081972066 tw2142414066527142434 tw2812037747849895714 tw12390477383165237090 tw11805619728601082754 tw16995373224395180962 tw4814933918395099235 tw10494939099072615779 tw12565492146360227299 tw15666453837426632227 tw3961529530282547779 tw7423360425282809411 tw3802761104035942147 tw8279910222946467587 tw12121758891510047619 tw4074900419160894500 tw10480478622483129540 tw10989284016724582628 tw1381366257175672100 tw10706144496473109796 tw9458774199548776868 tw5454282422013217476 tw7941031103446264837 tw9069743320801709317 tw9799248138729871749 tw574529676064738885 tw1646063441327468261 tw12444116786314149894 tw12335087240493678630 tw13466056662576556102 tw17662634723562587238 tw3995229251805781126 tw6541184018226782822 tw18181367206169301606 tw17762554449104174694 tw12250667098782310054 tw11325638226712665062 tw16981090347031844967 tw36456756933699783 tw1863143141582827719 tw5819656124232910183 tw14606332708021886503 tw15826821030414281351 tw11048120399911162823 tw17368570131785487432 tw9528356456559874184 tw6717708535365806248 tw6022496338491309480 tw10481275266249802568 tw5656666830797791273 tw312285187843384361 tw2381376260757877961 tw9861828531081487721 tw15568699656794818953 tw3951126992408652361 tw10575730220370690697 tw17986069456278507273 tw3441229581907681033 tw15975385129072976745 tw6376931176522145769 tw15340428536267605066 tw14107303290938832970 tw1925848543376253194 tw9853355422922451306 tw16845957691118769802 tw8721068803589609322 tw16315365452383525738 tw16854525269238782922 tw3649989318634634218 tw3373551119091374091 tw4291404860143060075 tw14917805315000914059 tw14359642734557215947 tw11829838445919850827 tw12972757506314317163 tw14705885905049933163 tw5462476805688179147 tw17578162455835793867 tw14451165533120569899 tw8995373370880517771 tw1906309979114131275 tw15338496232309262219 tw9907707204512358379 tw10306184229282919403 tw17272917383694295180 tw9999330266651440364 tw15219468684092277420 tw9047605769422779212 tw6854556770943567724 tw89829960971476876 tw2406367620575888364 tw15321491502099780685 tw12330581166785553581 tw4653585140823570957 tw9963144440256878189 tw8370292904849438477 tw7147530969989911373 tw16276636045671624525 tw588706110282222445 tw2491478688464024525 tw14594194972663223566 tw1438930957062857006 tw18035754758936849742 tw6975584350291448206 tw14261419583485959662 tw4278390375666668398 tw17344620036649063310 tw17708211990630527886 tw9171110208077892590 tw4885123151500492015 tw1669132811404275119 tw2195636913784591983 tw12980796914046177328 tw7846395931574764656 tw13535817886278104176 tw4442256143640759440 tw9011441994477425936 tw8061037365453600176 tw18273746259556779856 tw7712099994488244080 tw3859792215511522224 tw1451368025660283856 tw16553880109326713840 tw11812459280195283089 tw5458715920044235057 tw13536056960120170801 tw13704679990726838001 tw14264134578975810353 tw9533719326953619345 tw611547108513462225 tw5242093187821651090 tw15323972964614990002 tw13240574332120656306 tw2723712627932715954 tw8150250382129114195 tw10626091045952398451 tw3357533656962959539 tw14822372649136098579 tw2169859850759458067 tw16696269941278650675 tw15481325759864792435 tw5985138867284555219 tw16687272030417681299 tw14425598027541181460 tw8000425245470003316 tw17180146231432468820 tw14815697325856601460 tw18386018220896661012 tw3253104345663291956 tw13779643944829074196 tw17433184021878676308 tw8407303517352550292 tw3394381377060584693 tw9853359451411883445 tw8811328364804016885 tw15802400534074882805 tw14545680182388010837 tw2511735321341588437 tw16663988765270918166 tw1517309625361639510 tw11280341050912632022 tw8221537769125284182 tw6014520699705284150 tw15915968282590586582 tw4360011103887053622 tw7911764667200972726 tw4059650087103380599 tw12369667039191703735 tw11557013263409958519 tw10108827441077168823 tw8524880822461816599 tw12715831981579535255 tw14424675976734957495 tw9078486546204238807 tw5939624285267816407 tw13604843149989704728 tw3246270649581319224 tw11557473845787416696 tw5933652964517727512 tw1000615931255136568 tw12827169137504960856 tw4727497779028626840 tw14832399597308319128 tw7149290445239710200 tw1151658455456637464 tw9849063929613395576 tw12633081653044972440 tw15576317845183921112 tw16611974616663652601 tw2644281757886444985 tw12011881653506729529 tw13983404757342019225 tw14467892034176956185 tw15891558496642025401 tw875531545481902106 tw13056355850752801978 tw10639214816479992090 tw13617101655121346874 tw1140133260155851098 tw10553365781257901594 tw7571666795942688378 tw12434221363709823770 tw14715547296473921402 tw11658709278701302714 tw8683417620067590106 tw12119349805667118363 tw16446024926522104251 tw9145659797649724059 tw1411771708249850555 tw6160199605813008251 tw489644437390056315 tw11600519020562608188 tw17331764538988887324 tw5570349989813587452 tw6682048040428327516 tw8676361085623452316 tw8289180700817528764 tw9894107434513402844 tw12471698381171444829 tw10263691044045451453 tw6953585099298865373 tw14512336322474431773 tw895162178690065757 tw17970293650741079581 tw6633128496535837245 tw12021884834502955613 tw3044165839733901021 tw6972567614969264957 tw16002736433933398941 tw7300158359966745630 tw1054468719545775294 tw8252287620940640798 tw1454820728542148446 tw14526275540400815006 tw13773180846193029054 tw2972344061963953631 tw10888752279242251807 tw5521680372176965215 tw17169664801479820191:True)
open PySem PySem.W PyProof.Rows
set_option maxRecDepth 100000 in
set_option maxHeartbeats 0 in
theorem PySem.Challenge.cw_stripmeld_k12_table_holds : PySem.Challenge.rw_stripmeld_k12_table.Holds := by
 w_on;o_law;k_head;(case hw=>w_witness2)
 k_fill
 refine L2.EL (l:=PySem.Challenge.rw_stripmeld_k12_table) (n:=63) (k:=6) (x:="_law_script") (CX:=L2.CX0) (sp:=Pu.XB) rfl (by decide) rfl ⟨rfl,by decide,by decide⟩ (fun w h Y=>PySem.W.kIn_of Y) ?F ?S ?C
 case F=>
  intro w mg fa h KX G hmg
  refine' T.FX KX G hmg ?a0 ?a1 ?a2 ?a3 ?a4 ?a5 ?a6 ?a7 ?a8 ?a9 ?a10 ?a11 ?a12 ?a13 ?a14 ?a15 ?a16 ?a17 ?a18 ?a19 ?a20 ?a21 ?a22 ?a23 ?a24 ?a25 ?a26 ?a27 ?a28 ?a29 ?l29 ?c29 ?k29 ?Q1 ?Q2 ?Q3 ?Q4 ?Q5 ?Q6 ?Q7 ?Q8 ?Q9 ?QA ?QB ?QC ?QD
  (case a0|a1|a2|a3|a4|a5|a6|a7|a8|a9|a10|a11|a12|a13|a14|a15|a16|a17|a18|a19|a20|a21|a22|a23|a24|a25|a26|a27|a28=>apply Pu.di<;>k_is)
  (case a29|l29|c29|k29|Q1|Q2|Q3|Q4|Q5|Q6|Q7|Q8|Q9|QA|QB|QC|QD=>k_is)
 case S=>exact fun K H a ns hl hO hS=>⟨a,ns,rfl,hS,fun _=>rfl⟩
 case C=>exact fun _ _ _ _ z=>z
