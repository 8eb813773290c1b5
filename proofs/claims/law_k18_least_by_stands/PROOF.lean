import PyProof.Rows.All
import Wide.All
import OpenK.AllK
import Wide.FinOn
import Lean
import PyProof.EqAt
import PyProof.EqKinds
import PyProof.TupleCall
import PySem.Challenge.RW_stripmeld_k18_least_by_stands
set_option Elab.async false
set_option linter.all false
set_option maxRecDepth 100000
noncomputable section
def Z9:=@PySem.wpAny_bind
def ZA:=@List.length_map
def ZC:=@List.getElem?_eq_getElem
def ZD:=@PySem.wpAny_pure
def ZE:=@List.mem_singleton
def ZF:=@PySem.Heap.get?_push_of_some
def ZG:=@Nat.le_refl
def ZH:=@PySem.Heap.lt_size
def ZI:=@if_neg
def ZJ:=@decide_eq_true
def ZK:=@if_pos
def ZL:=@Option.some.inj
def ZM:=@List.getD_eq_getElem?_getD
def ZN:=@PySem.Heap.get?_push_size
def ZO:=@Bool.false_ne_true
def ZP:=@List.size_toArray
def ZQ:=@List.mem_cons
def ZR:=@decide_eq_false
def ZS:=@List.length_append
def ZT:=@List.getElem?_map
def ZU:=@Nat.le_trans
def ZV:=@List.mem_filter
def ZW:=@List.getElem?_eq_some_iff
def ZX:=@of_decide_eq_true
def ZY:=@List.mem_append
def ZZ:=@List.map_cons
def Ya:=@List.length_cons
def Yb:=@List.getElem_mem
def Yc:=@List.mem_cons_of_mem
def Yd:=@List.mem_map
def Ye:=@Nat.ne_of_lt
def Yf:=@List.length_take
def Yg:=@List.take_succ_eq_append_getElem
def Yh:=@PySem.wpAny_newObj_type
def Yi:=@List.mem_iff_getElem
def Yj:=@PySem.PassesOwn.never
def Yk:=@List.mem_append_right
def Yl:=@Nat.lt_of_lt_of_le
def Ym:=@Int.toNat_natCast
def Yn:=@Bool.and_eq_true
def Yo:=@List.mem_cons_self
def Yp:=@Array.length_toList
def Yq:=@List.map_append
def Yr:=@PySem.W.mg_none_of
def Ys:=@Classical.byContradiction
def Yt:=@PySem.F.plainAttrs_list
def Yu:=@PySem.wpAny_mono
def Yv:=@List.nodup_cons
def Yw:=@List.mem_range
def Yx:=@List.map_map
def Yy:=@PySem.Heap.get?_update_self
def Yz:=@List.length_filter_le
def Y0:=@List.nodup_append
def Y1:=@congrArg
def Y2:=@PySem.W.kia_one
def Y3:=@PySem.Obj.data_mapFields
def Y4:=@PySem.Heap.get?_update_other
def Y5:=@List.lookup_cons
def Y6:=@PySem.Heap.SameBut.update
def Y7:=@List.getElem_take
def Y8:=@Array.getElem?_toList
def Y9:=@PySem.F.slot_list_append
def YA:=@PySem.F.type_list_append
def YB:=@PySem.Around.under_plainId
def YC:=@List.perm_ext_iff_of_nodup
def YD:=@List.append_nil
def YE:=@List.pairwise_iff_getElem
def YF:=@Array.getElem?_eq_getElem
def YG:=@PySem.codeAny_builtin
def YH:=@PySem.wpAny_call_entry
def YI:=@List.take_length
def YJ:=@Nat.zero_le
def YK:=@List.length_eq_zero_iff
def YL:=@List.pairwise_map
def YM:=@Nat.lt_irrefl
def YN:=@PySem.wpAny_setField
def YO:=@PySem.Obj.isFreed_of_fields
def YQ:=@List.getElem?_take_of_lt
def YR:=@PyProof.Rows.boot_isinstance
def YS:=@Bool.not_eq_true'
def YT:=@PySem.wpAny_typeNameOfWhole_keyiter
def YU:=@List.filter_cons_of_pos
def YV:=@List.filter_cons_of_neg
def YW:=@decide_eq_false_iff_not
def YX:=@List.filterMap_cons
def YY:=@PySem.mem_of_lookup
def YZ:=@List.nodup_nil
def Wa:=@PySem.F.slot_dict_keyiterator_next
def Wb:=@PyProof.Rows.callWith_type1
def Wc:=@PyProof.Rows.F.plain_set_update_loop
def Wd:=@List.map_singleton
def We:=@PySem.wpAny_passesOwn
def Wf:=@List.length_singleton
def Wg:=@List.getElem?_eq_none
def Wh:=@List.length_set
def Wi:=@PySem.wpAny_truthy_bool
def Wj:=@PySem.wpAny_setState_of
def Wk:=@Bool.eq_false_iff
def Wl:=@List.mem_append_left
def Wm:=@List.getElem?_append_left
def Wn:=@List.mem_of_getElem?
def Wo:=@List.pairwise_append
def Wp:=@PySem.codeAny_mono
def Wq:=@Nat.le_of_eq
def Wr:=@List.all_eq_true
def Ws:=@PySem.wpAny_typeNameOf_keyiter
def Wt:=@PySem.wpAny_callSpecial?_slot
def Wu:=@PySem.F.plain_list_iadd
def Wv:=@List.pairwise_singleton
def Ww:=@PySem.wpAny_holding
def Wx:=@List.any_cons
def Wy:=@PySem.plainId_quiet
def Wz:=@PySem.W.mg_of
def W1:=@List.find?_cons
def W2:=@List.pairwise_cons
def W3:=@List.getElem?_set_self
def W4:=@List.take_of_length_le
def W5:=@List.length_pos_of_mem
def W6:=@List.filterMap_eq_map'
def W7:=@decide_eq_true_eq
def W8:=@PySem.wpAny_loadPart_at
def W9:=@Nat.le_of_lt
def WA:=@List.filterMap_append
def WB:=@List.getElem?_set_ne
def WC:=@List.not_mem_nil
def WD:=@Nat.not_lt
def WE:=@List.getElem?_append_right
def WG:=@Bool.true_and
def WH:=@Array.getElem?_eq_some_iff
def WI:=@PySem.wpAny_field
def WJ:=@Nat.le_succ
def WK:=@List.drop_eq_getElem_cons
def WL:=@PySem.wpAny_Call_Name_kw
def WM:=@PySem.F.args_tuple_add_2
def WN:=@Nat.lt_trans
def WO:=@PySem.tupleKind_room_in1
def WQ:=@PyProof.Rows.F.entry_set_update_loop
def WR:=@List.getElem_idxOf
def WS:=@List.length_erase_of_mem
def WT:=@Int.emod_lt_of_pos
def WU:=@Nat.lt_succ_iff_lt_or_eq
def WV:=@List.getElem?_replicate
def WW:=@PySem.F.entry_tuple_add
def WX:=@PySem.F.slot_list_index
def WY:=@PySem.fits_of_scanBound
def WZ:=@Nat.lt_succ_of_lt
def Qa:=@PySem.Obj.cls_mapFields
def Qb:=@PySem.wpAny_pyIter_slot
def Qc:=@List.append_assoc
def Qd:=@PySem.F.slot_tuple_add
def Qe:=@Array.getElem?_eq_none
def Qf:=@List.filter_eq_nil_iff
def Qg:=@List.sum_cons
def Qh:=@if_false
def Qi:=@Nat.lt_succ_self
def Qj:=@PySem.F.typeOf_object_class
def Qk:=@List.Pairwise.and_mem
def Ql:=@PyProof.Rows.slot_tuple_getitem
def Qm:=@PySem.Heap.get?_none_of_le
def Qn:=@PySem.wpAny_execs_nil
def Qo:=@Nat.ne_of_gt
def Qp:=@Bool.eq_iff_iff
def Qq:=@Option.map_some
def Qr:=@List.forIn_cons
def Qs:=@Bool.or_eq_true
def Qt:=@PySem.codeAny_call_builtin
def Qu:=@PySem.W.looks_findIn
def Qv:=@List.mem_of_mem_take
def Qw:=@Int.emod_nonneg
def Qx:=@beq_eq_false_iff_ne
def Qy:=@List.length_pos_iff
def Qz:=@List.map_congr_left
def Q0:=@List.getElem_of_mem
def Q1:=@Bool.false_and
def Q2:=@List.mem_filterMap
def Q3:=@Nat.lt_of_le_of_lt
def Q4:=@Bool.false_eq_true
def Q5:=@List.take_sublist
def Q6:=@Option.isSome_map
def Q7:=@List.length_range
def Q8:=@Classical.not_not
def Q9:=@List.length_drop
def QA:=@List.cons_append
abbrev Za:=PySem.W.Frag
namespace L2
open PySem PySem.Spec PyProof.Rows
abbrev Key:=Sum Int Str
def U3:Key->Value->Bool
 | .inl k,v=>Value.isInt k v
 | .inr x,v=>Value.isStrOf x v
def keyH(w:World):Key->Int
 | .inl k=>hashInt k
 | .inr x=>hashStr w x
def JG:∀{k:Key}{v:Value},U3 k v=true->(∃i t,k=Sum.inl i/\v=Value.int i t)\/(∃x t,k=Sum.inr x/\v=Value.str x t)
 | .inl i,v,h=>by
  obtain⟨t,e⟩:=Value.isInt_shape (k:=i) (v:=v) h;exact .inl ⟨i,t,rfl,e⟩
 | .inr x,v,h=>by
  obtain⟨t,e⟩:=Value.isStrOf_shape (x:=x) (v:=v) h;exact .inr ⟨x,t,rfl,e⟩
def E8(i:Int)(t:Tok):U3 (.inl i) (.int i t)=true:=by simp[U3,Value.isInt]
def Hm(x:Str)(t:Tok):U3 (.inr x) (.str x t)=true:=by simp[U3,Value.isStrOf]
def Hy(a b:Int):decide ((Sum.inl a:Key)=Sum.inl b)=(a==b):=by
 by_cases e:a=b
 ·subst e;simp
 ·have h:¬(Sum.inl a:Key)=Sum.inl b:=fun q=>e (Sum.inl.inj q);rw[ZR h];exact(Qx.mpr e).symm
def GI(a b:Str):decide ((Sum.inr a:Key)=Sum.inr b)=decide (a=b):=by
 by_cases e:a=b
 ·subst e;simp
 ·have h:¬(Sum.inr a:Key)=Sum.inr b:=fun q=>e (Sum.inr.inj q);rw[ZR h,ZR e]
def CN(a:Int)(b:Str):decide ((Sum.inl a:Key)=Sum.inr b)=false:=ZR (fun q=>nomatch q)
def As(a:Str)(b:Int):decide ((Sum.inr a:Key)=Sum.inl b)=false:=ZR (fun q=>nomatch q)
def Jb(prog:Program)(w:World):PySem.KeyKind prog w Key where
 is:=U3
 hash:=keyH w
 inj:=fun v a b ha hb=>by
  rcases JG ha with⟨i,t,rfl,rfl⟩|⟨x,t,rfl,rfl⟩
  ·rcases JG hb with⟨j,u,rfl,e⟩|⟨y,u,rfl,e⟩
   ·injection e with e1 _;rw[e1]
   ·exact nomatch e
  ·rcases JG hb with⟨j,u,rfl,e⟩|⟨y,u,rfl,e⟩
   ·exact nomatch e
   ·injection e with e1 _;rw[e1]
 byValue:=fun k v h=>by
  rcases JG h with⟨i,t,rfl,rfl⟩|⟨x,t,rfl,rfl⟩<;>rfl
 pyHash:=fun hv h=>by
  rcases JG hv with⟨i,t,rfl,rfl⟩|⟨x,t,rfl,rfl⟩
  ·exact wpAny_pyHash_int h
  ·exact wpAny_pyHash_str h
 eqBool:=fun hu hv h=>by
  rcases JG hu with⟨i,t,rfl,rfl⟩|⟨x,t,rfl,rfl⟩
  ·rcases JG hv with⟨j,u,rfl,rfl⟩|⟨y,u,rfl,rfl⟩
   ·rw[Hy]at h;exact wpAny_eqBool_int h
   ·rw[CN]at h;exact SeqAt.EqAt.int_str i t y u _ _ _ _ h
  ·rcases JG hv with⟨j,u,rfl,rfl⟩|⟨y,u,rfl,rfl⟩
   ·rw[As]at h;exact SeqAt.EqAt.str_int x t j u _ _ _ _ h
   ·rw[GI]at h;exact wpAny_eqBool_str h
 «strs»:=fun k x t v h=>by
  rcases JG h with⟨i,u,rfl,e⟩|⟨y,u,rfl,e⟩
  ·exact nomatch e
  ·injection e with e1 _;subst e1;cases v<;>rfl
def Cd(prog:Program)(w:World)(i:Int)(t:Tok):(Jb prog w).is (.inl i) (.int i t)=true:=E8 i t
def CM(prog:Program)(w:World)(x:Str)(t:Tok):(Jb prog w).is (.inr x) (.str x t)=true:=Hm x t
inductive V where
 |non|bl (b:Bool)|int (i:Int)|str (x:Str)|byt (b:Array UInt8)|flt (b:UInt64)|ref (a:Addr)|ty (n:String)
 deriving DecidableEq
def RelV:V->Value->Prop
 | .non,u=>u=Value.none
 | .bl b,u=>u=Value.bool b
 | .int i,u=>∃t,u=Value.int i t
 | .str x,u=>∃t,u=Value.str x t
 | .byt b,u=>∃t,u=Value.bytes b t
 | .flt b,u=>∃t,u=Value.float b t
 | .ref a,u=>u=Value.ref a
 | .ty n,u=>u=Value.type n
abbrev Vals:List V->List Value->Prop:=Paired RelV
def Vals.length {xs:List V}{us:List Value} (r:Vals xs us):xs.length=us.length:=Paired.length r
def Vals.get:∀{xs:List V}{us:List Value}{i:Nat}{x:V},Vals xs us->xs[i]?=some x->∃u,us[i]?=some u/\RelV x u
 |_,_,_,_,.nil,e=>by simp at e
 |_,_,0,_,.cons r _,e=>by simp at e;subst e;exact⟨_,rfl,r⟩
 |_,_,i+1,x,.cons _ t,e=>by
  obtain⟨u,h1,h2⟩:=Vals.get (i:=i) (x:=x) t (by simpa using e);exact⟨u,by simpa using h1,h2⟩
def Vals.append:∀{xs ys:List V}{us ws:List Value},Vals xs us->Vals ys ws->Vals (xs++ys) (us++ws)
 |_,_,_,_,.nil,s=>s
 |_,_,_,_,.cons r t,s=>.cons r (Vals.append t s)
def Vals.take:∀{xs:List V}{us:List Value} (n:Nat),Vals xs us->Vals (xs.take n) (us.take n)
 |_,_,0,_=>.nil
 |_,_,_+1,.nil=>.nil
 |_,_,n+1,.cons r t=>.cons r (Vals.take n t)
def Vals.drop:∀{xs:List V}{us:List Value} (n:Nat),Vals xs us->Vals (xs.drop n) (us.drop n)
 |_,_,0,r=>r
 |_,_,_+1,.nil=>.nil
 |_,_,n+1,.cons _ t=>Vals.drop n t
def RelO:Option V->Option Value->Prop
 |some v,some u=>RelV v u
 |none,none=>True
 |_,_=>False
def KV{κ:Type}:List (κ×V)->List (κ×Value)->Prop:=Paired fun(p:κ×V) (q:κ×Value)=>p.1=q.1/\RelV p.2 q.2
def kV:Key->V
 | .inl i=>.int i
 | .inr x=>.str x
inductive HO where
 |lst (xs:List V)
 |tup (xs:List V)
 |dK (kvs:List (Key×V))|dT (kvs:List (List Key×V))
 |set (S:Int->Bool) (n:Nat)
 |ins (C dx:Addr) (fs:List (Str×V))
 |own (x:Addr)
 |xd (fs:List (Str×V))
 |met (f x:Addr)
 |rng (lo hi:Int)
 |frz (o:Obj) (u:HO)
 |tbl (ps:Array Value)
 |ext (φ:Heap->Prop)
abbrev Hp:=Addr->Option HO
def upd(H:Hp)(a:Addr)(o:HO):Hp:=fun b=>if b=a then some o else H b
def V0{H:Hp}{a:Addr}{o:HO}:upd H a o a=some o:=by unfold upd;rw[ZK rfl]
def Vl{H:Hp}{a b:Addr}{o:HO}(h:b≠a):upd H a o b=H b:=by unfold upd;rw[ZI h]
def FD{H:Hp}{a:Addr}{o u:HO}:upd (upd H a o) a u=upd H a u:=by
 funext b;unfold upd;split<;>rfl
def Pr{H:Hp}{a b:Addr}{o u:HO}(h:H a=some o)(h':H b=some u)(d:o≠u):a≠b:=by
 intro e;subst e;rw[h]at h';exact d (ZL h')
def Ja{H:Hp}{a b:Addr}{o:HO}(h:H a=some o)(h':H b=none):a≠b:=by
 intro e;subst e;rw[h]at h';cases h'
section
variable (P:Program) (w:World)
def ObjOk(H:Hp)(h:Heap)(a:Addr):HO->Prop
 | .lst xs=>xs.length<=sizeLine/\∃(its:List Value) (n:Nat),Vals xs its/\h.get? a=some {cls:=.type "list",data:=.seq its.toArray n}
 | .tup xs=>xs.length<=sizeLine/\∃its:List Value,Vals xs its/\IsTup h a its.toArray
 | .dK kvs=>kvs.length<=sizeLine/\(a==sysModules)=false/\∃vs,KV kvs vs/\h.DictOf (Jb P w) a vs
 | .dT kvs=>kvs.length<=sizeLine/\(a==sysModules)=false/\∃xs:List (List Key×Addr×Value),
   Paired (fun(p:List Key×V) (q:List Key×Addr×Value)=>p.1=q.1/\H q.2.1=some (.tup (p.1.map kV))/\RelV p.2 q.2.2) kvs xs/\
   ∃o es ep,h.get? a=some o/\o.ExactDict/\o.data=.dict es ep/\es.toList=xs.map (entryOfKey (tupleKind (Jb P w)))/\(xs.map (·.1)).Nodup
 | .set S n=>h.SetOf (intKind P w) a S n
 | .ins C dx fs=>H dx=some (.own a)/\fs.length<=1000/\dx≠a/\h.get? a=some (PySem.W.instObj C dx)/\
   ∃mA,h.Ns1 dx mA/\(∀f,RelO (fs.lookup f) (mA f))/\PySem.Within mA (fs.map (·.1))
 | .own _=>∃o,h.get? a=some o
 | .xd fs=>∃mA,h.Ns1 a mA/\∀f,RelO (fs.lookup f) (mA f)
 | .rng lo hi=>∃t u v,h.get? a=some {cls:=.type "range",data:=.fields #[.int lo t,.int hi u,.int 1 v]}
 | .frz o u=>h.get? a=some o/\ObjOk H h a u
 | .tbl ps=>h.get? a=some {cls:=.none,data:=.fields ps}
 | .met f x=>h.get? a=some (PySem.W.methodObj (.ref f) (.ref x))
 | .ext φ=>φ h/\(∃o,h.get? a=some o)/\∀h1 h2:Heap,φ h1->(∀o,h1.get? a=some o->h2.get? a=some o)->φ h2
def HOk(H:Hp)(h:Heap):Prop:=∀a o,H a=some o->ObjOk P w H h a o
end
section
variable {P:Program}{w:World}{H H':Hp}{h h':Heap}{a:Addr}{o:HO}
def ObjOk.lt (x:ObjOk P w H h a o):a<h.objs.size:=by
 cases o with
 |lst xs=>obtain⟨_,_,_,_,e⟩:=x;exact ZH e
 |tup xs=>obtain⟨_,_,_,p⟩:=x;exact p.lt
 |dK kvs=>obtain⟨_,_,_,_,o,_,_,e,_⟩:=x;exact ZH e
 |dT kvs=>obtain⟨_,_,_,_,o,_,_,e,_⟩:=x;exact ZH e
 |set S n=>obtain⟨o,_,_,_,e,_⟩:=x;exact ZH e
 |ins C dx fs=>obtain⟨_,_,_,e,_⟩:=x;exact ZH e
 |own y=>obtain⟨_,e⟩:=x;exact ZH e
 |xd fs=>obtain⟨_,⟨_,_,_,e,_⟩,_⟩:=x;exact ZH e
 |rng lo hi=>obtain⟨_,_,_,e⟩:=x;exact ZH e
 |frz ob u=>obtain⟨e,_⟩:=x;exact ZH e
 |tbl ps=>exact ZH (show h.get? a=some _ from x)
 |met f y=>exact ZH (show h.get? a=some _ from x)
 |ext φ=>obtain⟨_,⟨_,e⟩,_⟩:=x;exact ZH e
def Paired.mapP {α β:Type}{F G:α->β->Prop}:∀{l₁:List α}{l₂:List β},Paired F l₁ l₂->(∀a b,F a b->G a b)->Paired G l₁ l₂
 |_,_,.nil,_=>.nil
 |_,_,.cons r t,f=>.cons (f _ _ r) (Paired.mapP t f)
def ObjOk.stay (x:ObjOk P w H h a o) (k:∀b u,(b=a\/H b=some (.own a))->h.get? b=some u->h'.get? b=some u)
  (ho:∀b,H b=some (.own a)->H' b=some (.own a)) (ht:∀b xs,H b=some (.tup xs)->H' b=some (.tup xs)):ObjOk P w H' h' a o:=by
 induction o with
 |lst xs=>obtain⟨z,its,n,r,e⟩:=x;exact⟨z,its,n,r,k _ _ (.inl rfl) e⟩
 |tup xs=>obtain⟨z,its,r,ob,e,c⟩:=x;exact⟨z,its,r,ob,k _ _ (.inl rfl) e,c⟩
 |dK kvs=>obtain⟨z,y,vs,r,ob,es,ep,e,c⟩:=x;exact⟨z,y,vs,r,ob,es,ep,k _ _ (.inl rfl) e,c⟩
 |dT kvs=>
  obtain⟨z,y,xs,r,ob,es,ep,e,c⟩:=x;exact⟨z,y,xs,Paired.mapP r fun p q z=>⟨z.1,ht _ _ z.2.1,z.2.2⟩,ob,es,ep,k _ _ (.inl rfl) e,c⟩
 |set S n=>obtain⟨ob,es,ep,t,e,c⟩:=x;exact⟨ob,es,ep,t,k _ _ (.inl rfl) e,c⟩
 |ins C dx fs=>
  obtain⟨d,z,ne,e,mA,⟨od,es,ep,e2,c⟩,r⟩:=x;exact⟨ho _ d,z,ne,k _ _ (.inl rfl) e,mA,⟨od,es,ep,k _ _ (.inr d) e2,c⟩,r⟩
 |own y=>obtain⟨ob,e⟩:=x;exact⟨ob,k _ _ (.inl rfl) e⟩
 |xd fs=>obtain⟨mA,⟨od,es,ep,e,c⟩,r⟩:=x;exact⟨mA,⟨od,es,ep,k _ _ (.inl rfl) e,c⟩,r⟩
 |rng lo hi=>obtain⟨t,u,v,e⟩:=x;exact⟨t,u,v,k _ _ (.inl rfl) e⟩
 |frz ob u ih=>obtain⟨e,q⟩:=x;exact⟨k _ _ (.inl rfl) e,ih q⟩
 |tbl ps=>
  have e:h.get? a=some {cls:=.none,data:=.fields ps}:=x;show h'.get? a=some {cls:=.none,data:=.fields ps};exact k a _ (.inl rfl) e
 |met f y=>
  have e:h.get? a=some (PySem.W.methodObj (.ref f) (.ref y)):=x;show h'.get? a=some (PySem.W.methodObj (.ref f) (.ref y));exact k a _ (.inl rfl) e
 |ext φ=>obtain⟨p,⟨o,e⟩,st⟩:=x;exact⟨st _ _ p fun o q=>k _ _ (.inl rfl) q,⟨o,k _ _ (.inl rfl) e⟩,st⟩
def HOk.lt (x:HOk P w H h) (e:H a=some o):a<h.objs.size:=(x a o e).lt
def HOk.fresh (x:HOk P w H h) (e:h.objs.size<=a):H a=none:=by
 cases q:H a with
 |none=>rfl
 |some u=>exact absurd (Yl (x.lt q) e) (YM _)
def HOk.kept (x:HOk P w H h) (k:∀b u,h.get? b=some u->h'.get? b=some u):HOk P w H h':=fun a o e=>
 (x a o e).stay (fun b u _ q=>k b u q) (fun _ q=>q) fun _ _ q=>q
def HOk.laid (x:HOk P w H h) (k:∀b u,h.get? b=some u->h'.get? b=some u) (hp:h.objs.size<=a) (new:ObjOk P w (upd H a o) h' a o):HOk P w (upd H a o) h':=fun b u e=>by
 have hn:=x.fresh hp;by_cases hb:b=a
 ·subst hb;rw[V0]at e;cases e;exact new
 ·rw[Vl hb]at e;exact(x b u e).stay (fun c v _ q=>k c v q) (fun c q=>by rw[Vl (Ja q hn)];exact q) fun c xs q=>by rw[Vl (Ja q hn)];exact q
end
def Rd(H:Hp)(a:Addr)(u:HO):Prop:=H a=some u\/∃o,H a=some (.frz o u)
def Rd.ok {P:Program}{w:World}{H:Hp}{h:Heap}{a:Addr}{u:HO} (r:Rd H a u) (x:HOk P w H h):ObjOk P w H h a u:=by
 rcases r with r|⟨o,r⟩
 ·exact x a u r
 ·obtain⟨_,q⟩:=x a _ r;exact q
def Mut:Option HO->Prop
 |some (.lst _)=>True
 |some (.dK _)=>True
 |some (.dT _)=>True
 |some (.set _ _)=>True
 |some (.ins _ _ _)=>True
 |some (.ext _)=>True
 |_=>False
section
variable {P:Program}{w:World}{H:Hp}{h h':Heap}{x e:Addr}{o':HO}
def HOk.write (ok:HOk P w H h) (mu:Mut (H x)) (he:e=x\/H e=some (.own x)) (k:∀b u,b≠e->h.get? b=some u->h'.get? b=some u) (heo:∃u,h'.get? e=some u)
  (new:ObjOk P w (upd H x o') h' x o'):HOk P w (upd H x o') h':=fun b u q=>by
 have nown:∀c y,H c=some (.own y)->c≠x:=fun c y r z=>by subst z;rw[r]at mu;exact mu
 have ntup:∀c xs,H c=some (.tup xs)->c≠x:=fun c xs r z=>by subst z;rw[r]at mu;exact mu
 by_cases hb:b=x
 ·subst hb;rw[V0]at q;cases q;exact new
 ·rw[Vl hb]at q;by_cases hbe:b=e
  ·have q':H b=some (.own x):=by
    rcases he with z|z
    ·exact absurd (hbe.trans z) hb
    ·rw[hbe];exact z
   rw[q]at q';cases q';obtain⟨v,hv⟩:=heo;exact⟨v,by rw[hbe];exact hv⟩
  ·refine(ok b u q).stay (fun c v hc r=>k c v ?_ r) (fun c r=>by rw[Vl (nown c b r)];exact r) fun c xs r=>by rw[Vl (ntup c xs r)];exact r
   rcases hc with rfl|hc
   ·exact hbe
   ·rintro rfl;rcases he with z|z
    ·exact nown c b hc z
    ·rw[hc]at z;cases z;exact hb rfl
end
structure Un (fs ex:List Addr) (H H':Hp) (h h':Heap):Prop where
 keep:∀b o,h.get? b=some o->H b=none->b∉fs->b∉ex->h'.get? b=some o
 slot:∀b o,h.get? b=some o->H b=none->b∈fs->b∉ex->∃sl,h'.get? b=some {o with slots:=sl}
 free:∀b o,h.get? b=some o->H b=none->b∉ex->H' b=none
 there:∀b o,h.get? b=some o->b∉ex->∃o',h'.get? b=some o'
 tups:∀b xs,H b=some (.tup xs)->H' b=some (.tup xs)
 frzs:∀b o u,H b=some (.frz o u)->H' b=some (.frz o u)
 tbls:∀b ps,H b=some (.tbl ps)->∃more,H' b=some (.tbl (ps++more))
section
variable {fs fs' ex ex':List Addr}{H H1 H2:Hp}{h h1 h2 h':Heap}{a x e:Addr}{o:HO}
def Un.any (u:Un fs ex H H1 h h1) {b:Addr}{ob:Obj} (q:h.get? b=some ob) (n:H b=none) (hx:b∉ex):∃sl,h1.get? b=some {ob with slots:=sl}:=by
 by_cases hb:b∈fs
 ·exact u.slot b ob q n hb hx
 ·exact⟨ob.slots,u.keep b ob q n hb hx⟩
def Un.kept (k:∀b u,h.get? b=some u->h'.get? b=some u):Un fs ex H H h h':=
 ⟨fun b ob q _ _ _=>k b ob q,fun b ob q _ _ _=>⟨ob.slots,k b ob q⟩,fun _ _ _ n _=>n,fun b ob q _=>⟨ob,k b ob q⟩,fun _ _ q=>q,fun _ _ _ q=>q,fun _ ps q=>⟨#[],by rw[q];simp⟩⟩
def Un.refl:Un fs ex H H h h:=Un.kept fun _ _ q=>q
def Un.laid (k:∀b u,h.get? b=some u->h'.get? b=some u) (hp:h.objs.size<=a) (hn:H a=none):Un fs ex H (upd H a o) h h' where
 keep:=fun b u q _ _ _=>k b u q
 slot:=fun b u q _ _ _=>⟨u.slots,k b u q⟩
 free:=fun b u q n _=>by rw[Vl (Ye (Yl (ZH q) hp))];exact n
 there:=fun b u q _=>⟨u,k b u q⟩
 tups:=fun b xs q=>by rw[Vl (Ja q hn)];exact q
 frzs:=fun b u xs q=>by rw[Vl (Ja q hn)];exact q
 tbls:=fun b ps q=>⟨#[],by rw[Vl (Ja q hn),q];simp⟩
def Un.write (mu:Mut (H x)) (he:e=x\/H e=some (.own x)) (k:∀b u,b≠e->h.get? b=some u->h'.get? b=some u) (heo:∃u,h'.get? e=some u):Un fs ex H (upd H x o) h h':=by
 have hx:∀b,H b=none->b≠x:=fun b n z=>by subst z;rw[n]at mu;exact mu
 have hb:∀b,H b=none->b≠e:=fun b n z=>by
  subst z;rcases he with r|r
  ·exact hx b n r
  ·rw[n]at r;cases r
 have hm:∀b u,H b=some u->¬Mut (some u)->b≠x:=fun b u q nm z=>by subst z;rw[q]at mu;exact nm mu
 refine⟨fun b u q n _ _=>k b u (hb b n) q,fun b u q n _ _=>⟨u.slots,k b u (hb b n) q⟩,fun b u q n _=>by rw[Vl (hx b n)];exact n,fun b u q _=>?_,
  fun b xs q=>by rw[Vl (hm b _ q fun z=>z)];exact q,fun b u xs q=>by rw[Vl (hm b _ q fun z=>z)];exact q,fun b ps q=>⟨#[],by rw[Vl (hm b _ q fun z=>z),q];simp⟩⟩
 by_cases hbe:b=e
 ·subst hbe;exact heo
 ·exact⟨u,k b u hbe q⟩
end
def trk(h:Heap)(H:Hp):List Addr:=(List.range h.objs.size).filter fun a=>(H a).isSome
def hidT(h:Heap)(H:Hp):Heap:=PySem.W.hideAll h (trk h H)
def GS(h:Heap)(H:Hp):(hidT h H).objs.size=h.objs.size:=PySem.W.hideAll_size _ _
def G1{h:Heap}{H:Hp}{b:Addr}{o:Obj}(e:h.get? b=some o)(n:H b=none):(hidT h H).get? b=some o:=
 PySem.W.hideAll_get _ e fun hm=>by
  have q:(H b).isSome=true:=(ZV.mp hm).2;rw[n]at q;simp at q
def AI{h:Heap}{H:Hp}{b:Addr}{o:Obj}(e:(hidT h H).get? b=some o):h.get? b=some o/\H b=none:=by
 have e':h.get? b=some o:=PySem.W.of_hideAll (trk h H) e;refine⟨e',?_⟩;cases q:H b with
 |none=>rfl
 |some x=>
  have hm:b∈trk h H:=ZV.mpr ⟨Yw.mpr (ZH e'),by simp[q]⟩;have z:(hidT h H).get? b=none:=PySem.W.hideAll_none (trk h H) hm;rw[z]at e;cases e
def G4(g h:Heap)(L:Addr):List (Addr×Obj):=(List.range h.objs.size).filterMap fun a=>if a=L\/(g.get? a).isSome=true then none else(h.get? a).map fun o=>(a,o)
def rest(g h:Heap)(L d:Addr):List (Addr×Obj):=(G4 g h L).filter fun p=>decide (p.1≠d)
structure Mod (K:Za) (mg:Str->Option Value) (base:Heap):Prop where
 kin:K.In base
 glob:base.Ns mainGlobals mg
 blt:∃mb,base.Ns builtinsNs mb/\∀x:Str,x≠"__name__"->mb x=bootBuiltins x
 nolimit:base.NoLimit
structure Cx where
 prog:Program
 w:World
 K:Za
 mg:Str->Option Value
 base:Heap
 A:Around
 N:List Str
 s₀:Shared
 H₀:Hp
 env:Env
 outer:List Env
 stack:List Env
 ex:List Addr
 fn:Str->Bool
 calm:Bool
 pn:List (Addr×Obj)
 xe:Value->Shared->Prop
def frs(l:List Env):List Addr:=l.filterMap (·.frame)
abbrev Cx.fs (X:Cx):List Addr:=frs X.outer
def Vis(sc:Scope)(x:Str):Prop:=sc.names.lookup x=some .local\/sc.names.lookup x=some .cell\/sc.names.lookup x=some .free
def Loc(sc:Scope)(x:Str):Prop:=sc.names.lookup x=some .local\/sc.names.lookup x=some .cell
def Look(env:Env)(h:Heap)(m:Str->Option Value)(x:Str)(u:Value):Prop:=
 (env.kindOf x=some .local/\m x=some u)\/((env.kindOf x=some .cell\/env.kindOf x=some .free)/\∃c,env.cells.lookup x=some c/\h.IsCell c (some u))
structure Cx.Ok (X:Cx):Prop where
 mod:Mod X.K X.mg X.base
 kind:X.env.scope.kind=.function
 glob:X.env.globals=mainGlobals
 blt:X.env.builtins=builtinsNs
 above:X.s₀.heap.objs.size<=X.env.locals
 inj:∀x y c,X.env.cells.lookup x=some c->X.env.cells.lookup y=some c->x=y
 has:∀x,(X.env.kindOf x=some .cell\/X.env.kindOf x=some .free)->∃c,X.env.cells.lookup x=some c
 cab:∀x c,X.fn x=true->X.env.cells.lookup x=some c->X.s₀.heap.objs.size<=c
 hd:X.calm=true->X.A.handled=none
 frames:X.A.frames=some X.stack
 stk:X.stack=X.outer\/(X.stack=X.env::X.outer/\X.env.frame=some X.env.locals)
 exf:∀b∈X.ex,b≠X.env.locals/\∀x c,X.env.cells.lookup x=some c->c≠b
 bs:∀b o,X.base.get? b=some o->X.s₀.heap.get? b=some o/\X.H₀ b=none
 bsz:X.base.objs.size<=X.s₀.heap.objs.size
 noex:∀b o,X.base.get? b=some o->b∉X.ex
 exfs:∀b∈X.ex,b∉X.fs
 funs:X.s₀.heap.FunFrames X.base X.outer
 frf:∀b∈X.fs,X.H₀ b=none
structure Inv (X:Cx) (pins:List (Addr×Obj)) (σ:List (Option V)) (H:Hp) (s:Shared):Prop where
 ok:X.Ok
 os:s.os=X.s₀.os
 bare:AllBare s.gens
 base:Un X.fs X.ex X.H₀ H X.s₀.heap s.heap
 loc:∃m,s.heap.Ns X.env.locals m/\∀(i:Nat) (x:Str) (v:V),X.N[i]?=some x->σ[i]?=some (some v)->Vis X.env.scope x->∃u,RelV v u/\Look X.env s.heap m x u
 cell:∀x c,X.env.cells.lookup x=some c->∃v,s.heap.IsCell c v
 free:H X.env.locals=none
 freeC:∀x c,X.env.cells.lookup x=some c->H c=none
 pin:∀p∈X.pn++pins,s.heap.get? p.1=some p.2/\H p.1=none/\p.1≠X.env.locals/\p.1∉X.fs/\∀v,p.2.data≠.cell v
 hok:HOk X.prog X.w H s.heap
 len:σ.length=X.N.length
section
variable {X:Cx}{pins:List (Addr×Obj)}{σ:List (Option V)}{H H':Hp}{s:Shared}{h':Heap}
def Cx.Ok.nofr (ok:X.Ok) {b:Addr}{o:Obj} (e:X.base.get? b=some o):b∉X.fs:=fun hb=>by
 have:=(ok.funs.mem hb).1
 rw[e]at this;cases this
def Inv.bs (I:Inv X pins σ H s):∀b o,X.base.get? b=some o->s.heap.get? b=some o/\H b=none:=fun b o e=>
 ⟨I.base.keep b o (I.ok.bs b o e).1 (I.ok.bs b o e).2 (I.ok.nofr e) (I.ok.noex b o e),I.base.free b o (I.ok.bs b o e).1 (I.ok.bs b o e).2 (I.ok.noex b o e)⟩
def Inv.bk (I:Inv X pins σ H s):∀b o,X.base.get? b=some o->s.heap.get? b=some o:=fun b o e=>(I.bs b o e).1
def Inv.mod (I:Inv X pins σ H s):Mod X.K X.mg X.base:=I.ok.mod
def Inv.kIn (I:Inv X pins σ H s):X.K.In s.heap:=I.ok.mod.kin.keeps I.bk
def Inv.lt (I:Inv X pins σ H s):X.env.locals<s.heap.objs.size:=let ⟨_,hn,_⟩:=I.loc;hn.lt
def Inv.sz (I:Inv X pins σ H s):X.s₀.heap.objs.size<=s.heap.objs.size:=ZU I.ok.above (W9 I.lt)
def Inv.nofs (I:Inv X pins σ H s) {a:Addr} (h:s.heap.objs.size<=a):a∉X.fs:=fun hb=>by
 obtain⟨_,o,ho,_⟩:=I.ok.funs.mem hb;exact absurd (Yl (ZH ho) (ZU I.sz h)) (YM _)
def Inv.cne (I:Inv X pins σ H s):∀x c,X.env.cells.lookup x=some c->c≠X.env.locals:=fun x c e z=>by
 obtain⟨v,o,ho,hd⟩:=I.cell x c e;obtain⟨m,⟨o',es,ep,ho',hd',_⟩,_⟩:=I.loc;rw[z,ho']at ho;cases ho;rw[hd']at hd;cases hd
def Inv.funs (I:Inv X pins σ H s):s.heap.FunFrames X.base X.outer:=by
 have all:∀(l:List Env),(∀b∈frs l,b∈X.fs)->X.s₀.heap.FunFrames X.base l->s.heap.FunFrames X.base l:=by
  intro l
  induction l with
  |nil=>intro _ _;trivial
  |cons env r ih=>
   intro hs hl;obtain⟨hk,⟨L,o,hf,hn,ho,hd⟩,hr⟩:=hl;have hL:L∈X.fs:=hs L (by unfold frs;rw[YX,hf];exact Yo);obtain⟨sl,e⟩:=I.base.slot L o ho (I.ok.frf L hL) hL fun z=>I.ok.exfs L z hL;exact⟨hk,⟨L,_,hf,hn,e,hd⟩,ih (fun b hb=>hs b (by unfold frs;rw[YX,hf];exact Yc _ hb)) hr⟩
 exact all X.outer (fun _ hb=>hb) I.ok.funs
def Inv.stack (I:Inv X pins σ H s):s.heap.FunFrames X.base X.stack:=by
 rcases I.ok.stk with e|⟨e,hf⟩
 ·rw[e];exact I.funs
 ·rw[e];obtain⟨m,hn,_⟩:=I.loc;refine .cons (by rw[I.ok.kind];decide) hf hn ?_ I.funs;exact Qm (ZU I.ok.bsz I.ok.above)
def Inv.stkSub (I:Inv X pins σ H s):∀b∈frs X.stack,b∈X.env.locals::X.fs:=fun b hb=>by
 rcases I.ok.stk with e|⟨e,hf⟩
 ·rw[e]at hb;exact Yc _ hb
 ·rw[e]at hb;unfold frs at hb;rw[YX,hf]at hb;exact hb
def Inv.stkFree (I:Inv X pins σ H s):∀b∈frs X.stack,H b=none:=fun b hb=>by
 rcases ZQ.mp (I.stkSub b hb)with e|hb
 ·rw[e];exact I.free
 ·obtain⟨_,o,ho,_⟩:=I.ok.funs.mem hb;exact I.base.free b o ho (I.ok.frf b hb) fun z=>I.ok.exfs b z hb
def Inv.step {g':Array GenState}{t':Nat}{d':Drawn}{ch:List Addr} (I:Inv X pins σ H s)
  (hch:∀b∈ch,(b∈X.ex\/X.s₀.heap.objs.size<=b)/\b≠X.env.locals/\(∀x c,X.env.cells.lookup x=some c->c≠b)/\∀p∈X.pn++pins,p.1≠b)
  (keep:∀b o,b≠X.env.locals->b∉X.fs->b∉ch->s.heap.get? b=some o->H b=none->h'.get? b=some o)
  (slot:∀b o,b≠X.env.locals->b∈X.fs->b∉ch->s.heap.get? b=some o->H b=none->∃sl,h'.get? b=some {o with slots:=sl}) (free:∀b o,b∉ch->s.heap.get? b=some o->H b=none->H' b=none)
  (there:∀b o,b∉ch->s.heap.get? b=some o->∃o',h'.get? b=some o')
  (tups:∀b xs,H b=some (.tup xs)->H' b=some (.tup xs)) (frzs:∀b o u,H b=some (.frz o u)->H' b=some (.frz o u)) (tbls:∀b ps,H b=some (.tbl ps)->∃more,H' b=some (.tbl (ps++more)))
  (ns:∀m,s.heap.Ns X.env.locals m->h'.Ns X.env.locals m) (hok:HOk X.prog X.w H' h') (hg:AllBare g') :
  Inv X pins σ H' {s with heap:=h',gens:=g',drawn:=d',toks:=t'}:=by
 have neL:∀b o,X.s₀.heap.get? b=some o->b≠X.env.locals:=fun b o e=>Ye (Yl (ZH e) I.ok.above)
 have neC:∀b o,X.s₀.heap.get? b=some o->b∉X.ex->b∉ch:=fun b o e hx hb=>by
  rcases(hch b hb).1 with z|z
  ·exact hx z
  ·exact absurd (Yl (ZH e) z) (YM _)
 have cellK:∀x c,X.env.cells.lookup x=some c->∀v,s.heap.IsCell c v->h'.IsCell c v:=fun x c e v ⟨o,ho,hd⟩=>by
  have nch:c∉ch:=fun z=>(hch c z).2.2.1 x c e rfl;by_cases hc:c∈X.fs
  ·obtain⟨sl,q⟩:=slot c o (I.cne x c e) hc nch ho (I.freeC x c e);exact⟨_,q,hd⟩
  ·exact⟨o,keep c o (I.cne x c e) hc nch ho (I.freeC x c e),hd⟩
 refine⟨I.ok,I.os,hg,⟨fun b o e n hb hx=>?_,fun b o e n hb hx=>?_,fun b o e n hx=>?_,fun b o e hx=>?_,fun b xs e=>tups b xs (I.base.tups b xs e),fun b o xs e=>frzs b o xs (I.base.frzs b o xs e),fun b ps e=>?_⟩,?_,fun x c e=>?_,?_,fun x c e=>?_,fun p hp=>?_,hok,I.len⟩
 ·exact keep b o (neL b o e) hb (neC b o e hx) (I.base.keep b o e n hb hx) (I.base.free b o e n hx)
 ·obtain⟨sl,e1⟩:=I.base.slot b o e n hb hx;obtain⟨sl',e2⟩:=slot b _ (neL b o e) hb (neC b o e hx) e1 (I.base.free b o e n hx);exact⟨sl',e2⟩
 ·obtain⟨o',e1⟩:=I.base.there b o e hx;exact free b o' (neC b o e hx) e1 (I.base.free b o e n hx)
 ·obtain⟨o',e1⟩:=I.base.there b o e hx;exact there b o' (neC b o e hx) e1
 ·obtain⟨m1,e1⟩:=I.base.tbls b ps e;obtain⟨m2,e2⟩:=tbls b _ e1;exact⟨m1++m2,by rw[e2,Array.append_assoc]⟩
 ·obtain⟨m,hn,hl⟩:=I.loc;refine⟨m,ns m hn,fun i x v e1 e2 e3=>?_⟩;obtain⟨u,r,l⟩:=hl i x v e1 e2 e3;refine⟨u,r,?_⟩;rcases l with l|⟨k,c,e,z⟩
  ·exact .inl l
  ·exact .inr ⟨k,c,e,cellK x c e _ z⟩
 ·obtain⟨v,z⟩:=I.cell x c e;exact⟨v,cellK x c e v z⟩
 ·obtain⟨m,⟨o,_,_,ho,_⟩,_⟩:=I.loc;exact free _ o (fun z=>(hch _ z).2.1 rfl) ho I.free
 ·obtain⟨v,o,ho,hd⟩:=I.cell x c e;exact free c o (fun z=>(hch c z).2.2.1 x c e rfl) ho (I.freeC x c e)
 ·obtain⟨e,n,ne,nf,d⟩:=I.pin p hp;have nch:p.1∉ch:=fun z=>(hch p.1 z).2.2.2 p hp rfl;exact⟨keep p.1 p.2 ne nf nch e n,free p.1 p.2 nch e n,ne,nf,d⟩
def Inv.un {t':Nat} (I:Inv X pins σ H s) (u:Un X.fs [] H H' s.heap h') (hok:HOk X.prog X.w H' h'):Inv X pins σ H' {s with heap:=h',toks:=t'}:=by
 obtain⟨m,⟨o,es,ep,ho,r⟩,_⟩:=id I.loc;obtain⟨sl,hL⟩:=u.any ho I.free (by simp)
 exact I.step (g':=s.gens) (d':=s.drawn) (ch:=[]) (fun _ z=>nomatch z) (fun b o _ hb _ e n=>u.keep b o e n hb (by simp)) (fun b o _ hb _ e n=>u.slot b o e n hb (by simp)) (fun b o _ e n=>u.free b o e n (by simp)) (fun b o _ e=>u.there b o e (by simp)) u.tups u.frzs u.tbls (fun m' hm=>by
  obtain⟨o',es',ep',ho',r'⟩:=hm;rw[ho]at ho';cases ho';exact⟨_,es',ep',hL,r'⟩) hok I.bare
def Inv.call {g':Array GenState}{t':Nat}{d':Drawn}{ch:List Addr} (I:Inv X pins σ H s) (u:Un (frs X.stack) ch H H' s.heap h') (hok:HOk X.prog X.w H' h') (hg:AllBare g')
  (hch:∀b∈ch,(b∈X.ex\/X.s₀.heap.objs.size<=b)/\b≠X.env.locals/\(∀x c,X.env.cells.lookup x=some c->c≠b)/\∀p∈X.pn++pins,p.1≠b) :
  Inv X pins σ H' {s with heap:=h',gens:=g',drawn:=d',toks:=t'}:=by
 obtain⟨m,⟨o,es,ep,ho,r⟩,_⟩:=id I.loc;obtain⟨sl,hL⟩:=u.any ho I.free fun z=>(hch _ z).2.1 rfl
 exact I.step (ch:=ch) hch (fun b o hL hb hc e n=>u.keep b o e n (fun z=>(ZQ.mp (I.stkSub b z)).elim hL hb) hc) (fun b o _ _ hc e n=>u.any e n hc) (fun b o hc e n=>u.free b o e n hc) (fun b o hc e=>u.there b o e hc) u.tups u.frzs u.tbls (fun m' hm=>by
  obtain⟨o',es',ep',ho',r'⟩:=hm;rw[ho]at ho';cases ho';exact⟨_,es',ep',hL,r'⟩) hok hg
def Inv.turned {t':Nat}{it:Addr} (I:Inv X pins σ H s) (k:∀b o,b≠it->s.heap.get? b=some o->h'.get? b=some o) (hn:H it=none) (hL:it≠X.env.locals)
  (h1:it∈X.ex\/X.s₀.heap.objs.size<=it) (h2:∀x c,X.env.cells.lookup x=some c->c≠it) (h3:∀p∈X.pn++pins,p.1≠it):Inv X pins σ H {s with heap:=h',toks:=t'}:=by
 have nit:∀b u,H b=some u->b≠it:=fun b u e z=>by rw[z,hn]at e;cases e
 refine I.step (g':=s.gens) (d':=s.drawn) (ch:=[it]) (fun b hb=>?_) (fun b o _ _ hc e _=>k b o (fun z=>hc (by simp[z])) e) (fun b o _ _ hc e _=>⟨o.slots,k b o (fun z=>hc (by simp[z])) e⟩) (fun _ _ _ _ n=>n)
  (fun b o hc e=>⟨o,k b o (fun z=>hc (by simp[z])) e⟩) (fun _ _ e=>e) (fun _ _ _ e=>e) (fun b ps e=>⟨#[],by rw[e];simp⟩) (fun m hm=>?_) (fun b u e=>?_) I.bare
 ·have e:b=it:=by simpa using hb
  subst e;exact⟨h1,hL,h2,h3⟩
 ·obtain⟨o,es,ep,ho,r⟩:=hm;exact⟨o,es,ep,k _ o (Ne.symm hL) ho,r⟩
 ·refine(I.hok b u e).stay (fun c v hc q=>k c v ?_ q) (fun _ q=>q) fun _ _ q=>q;rcases hc with z|z
  ·rw[z];exact nit b u e
  ·exact nit c _ z
def Inv.tok (I:Inv X pins σ H s) (t:Nat):Inv X pins σ H {s with toks:=t}:=I.un (h':=s.heap) (t':=t) Un.refl I.hok
def Inv.kept {t':Nat} (I:Inv X pins σ H s) (k:∀b u,s.heap.get? b=some u->h'.get? b=some u):Inv X pins σ H {s with heap:=h',toks:=t'}:=I.un (Un.kept k) (I.hok.kept k)
def Inv.laid {a:Addr}{o:HO}{t':Nat} (I:Inv X pins σ H s) (k:∀b u,s.heap.get? b=some u->h'.get? b=some u) (hp:s.heap.objs.size<=a) (new:ObjOk X.prog X.w (upd H a o) h' a o) :
  Inv X pins σ (upd H a o) {s with heap:=h',toks:=t'}:=I.un (Un.laid k hp (I.hok.fresh hp)) (I.hok.laid k hp new)
def Inv.write {x e:Addr}{o:HO}{t':Nat} (I:Inv X pins σ H s) (mu:Mut (H x)) (he:e=x\/H e=some (.own x)) (k:∀b u,b≠e->s.heap.get? b=some u->h'.get? b=some u) (heo:∃u,h'.get? e=some u)
  (new:ObjOk X.prog X.w (upd H x o) h' x o):Inv X pins σ (upd H x o) {s with heap:=h',toks:=t'}:=I.un (Un.write mu he k heo) (I.hok.write mu he k heo new)
def Inv.weak {σ':List (Option V)} (I:Inv X pins σ H s) (hl:σ'.length=σ.length) (w:∀(i:Nat) v,σ'[i]?=some (some v)->σ[i]?=some (some v)):Inv X pins σ' H s:=
 ⟨I.ok,I.os,I.bare,I.base,let ⟨m,hn,hl'⟩:=I.loc;⟨m,hn,fun i x v e1 e2 e3=>hl' i x v e1 (w i v e2) e3⟩,I.cell,I.free,I.freeC,I.pin,I.hok,hl.trans I.len⟩
def Inv.pins_of {pins':List (Addr×Obj)} (I:Inv X pins σ H s) (h:∀p∈pins',s.heap.get? p.1=some p.2/\H p.1=none/\p.1≠X.env.locals/\p.1∉X.fs/\∀v,p.2.data≠.cell v):Inv X pins' σ H s:=
 ⟨I.ok,I.os,I.bare,I.base,I.loc,I.cell,I.free,I.freeC,fun p hp=>(ZY.mp hp).elim (fun z=>I.pin p (Wl _ z)) (h p),I.hok,I.len⟩
def Pf{N:List Str}(hN:N.Nodup){i j:Nat}{x:Str}(a:N[i]?=some x)(b:N[j]?=some x):i=j:=by
 obtain⟨h1,e1⟩:=ZW.mp a;obtain⟨h2,e2⟩:=ZW.mp b;exact(List.getElem_inj hN).mp (e1.trans e2.symm)
def EK{M:Model}{A:Around}{E:Value->Shared->Prop}{i:Nat}{x:Str}{v:V}{u:Value}{Q:Unit->Shared->Prop}(I:Inv X pins σ H s)(hN:X.N.Nodup)(hi:X.N[i]?=some x)(hx:Loc X.env.scope x)(r:RelV v u)(h:∀s',Inv X pins (σ.set i (some v)) H s'->(∃a,Heap.SameBut a s.heap s'.heap/\(a=X.env.locals\/X.env.cells.lookup x=some a))->Q () s')(hf:X.fn x=true\/X.env.scope.names.lookup x=some .local:=by first|exact .inl rfl|exact .inr rfl|assumption):wpAny M A (storeName X.env x u) Q E s:=by
 obtain⟨m,hn,hl⟩:=id I.loc;have hcls:(X.env.scope.kind == .class || (X.env.scope.kind == .module&&X.env.locals != X.env.globals))=false:=by rw[I.ok.kind];rfl
 have hiσ:i<σ.length:=by rw[I.len];exact(ZW.mp hi).1
 have cne:=I.cne
 have tracked:∀{a:Addr} {h':Heap},(∃o,s.heap.get? a=some o/\H a=none)->Heap.SameBut a s.heap h'->HOk X.prog X.w H h':=fun {a h'} ha hs b ob e=>by
  obtain⟨_,_,hfree⟩:=ha;refine(I.hok b ob e).stay (fun c w' hc q=>(hs.2 c ?_).trans q) (fun _ q=>q) fun _ _ q=>q;rintro rfl;rcases hc with rfl|hc
  ·rw[hfree]at e;cases e
  ·rw[hfree]at hc;cases hc
 rcases hx with hk|hk
 ·refine wpAny_storeName_local hk hn (fun h' hn' hs=>?_) hcls;obtain⟨oL,_,_,hoL,_⟩:=id hn;refine h _ ⟨I.ok,I.os,I.bare,⟨fun b o e n hb hx=>?_,fun b o e n hb hx=>?_,I.base.free,fun b o e hx=>?_,I.base.tups,I.base.frzs,I.base.tbls⟩,⟨_,hn',fun j y v' e1 e2 e3=>?_⟩,fun y c e=>?_,I.free,I.freeC,fun p hp=>?_,tracked ⟨oL,hoL,I.free⟩ hs,by simpa using I.len⟩ ⟨_,hs,.inl rfl⟩
  ·exact(hs.2 b (Ye (Yl (ZH e) I.ok.above))).trans (I.base.keep b o e n hb hx)
  ·obtain⟨sl,e1⟩:=I.base.slot b o e n hb hx;exact⟨sl,(hs.2 b (Ye (Yl (ZH e) I.ok.above))).trans e1⟩
  ·obtain⟨o',e1⟩:=I.base.there b o e hx;exact⟨o',(hs.2 b (Ye (Yl (ZH e) I.ok.above))).trans e1⟩
  ·by_cases hj:j=i
   ·subst hj;rw[hi]at e1;cases e1;rw[W3 hiσ]at e2;cases e2
    exact⟨u,r,.inl ⟨hk,by simp⟩⟩
   ·rw[WB (Ne.symm hj)]at e2;obtain⟨u',r',q⟩:=hl j y v' e1 e2 e3;refine⟨u',r',?_⟩;rcases q with⟨k,e⟩|⟨k,c,e,z⟩
    ·refine .inl ⟨k,?_⟩
     have:y≠x:=fun e=>hj (Pf hN e1 (e▸hi))
     simp[this,e]
    ·exact .inr ⟨k,c,e,z.sameBut hs (cne y c e)⟩
  ·obtain⟨w',z⟩:=I.cell y c e;exact⟨w',z.sameBut hs (cne y c e)⟩
  ·obtain⟨e,n,ne,nf,d⟩:=I.pin p hp;exact⟨(hs.2 p.1 ne).trans e,n,ne,nf,d⟩
 ·have hfn:X.fn x=true:=by
   rcases hf with z|z
   ·exact z
   ·rw[z]at hk;cases hk
  obtain⟨c,hc⟩:=I.ok.has x (.inl hk);obtain⟨w',z⟩:=I.cell x c hc;refine wpAny_storeName_cell I.ok.kind hk hc z (fun h' hc' hs=>?_);obtain⟨oc,hoc,hocd⟩:=id z;refine h {s with heap:=h'} ⟨I.ok,I.os,I.bare,⟨fun b o e n hb hx=>?_,fun b o e n hb hx=>?_,I.base.free,fun b o e hx=>?_,I.base.tups,I.base.frzs,I.base.tbls⟩,⟨m,hn.sameBut hs (Ne.symm (cne x c hc)),fun j y v' e1 e2 e3=>?_⟩,fun y c' e=>?_,I.free,I.freeC,fun p hp=>?_,tracked ⟨oc,hoc,I.freeC x c hc⟩ hs,by simpa using I.len⟩ ⟨c,hs,.inr hc⟩
  ·exact(hs.2 b (Ye (Yl (ZH e) (I.ok.cab x c hfn hc)))).trans (I.base.keep b o e n hb hx)
  ·obtain⟨sl,e1⟩:=I.base.slot b o e n hb hx;exact⟨sl,(hs.2 b (Ye (Yl (ZH e) (I.ok.cab x c hfn hc)))).trans e1⟩
  ·obtain⟨o',e1⟩:=I.base.there b o e hx;exact⟨o',(hs.2 b (Ye (Yl (ZH e) (I.ok.cab x c hfn hc)))).trans e1⟩
  ·by_cases hj:j=i
   ·subst hj;rw[hi]at e1;cases e1;rw[W3 hiσ]at e2;cases e2
    exact⟨u,r,.inr ⟨.inl hk,c,hc,hc'⟩⟩
   ·rw[WB (Ne.symm hj)]at e2;obtain⟨u',r',q⟩:=hl j y v' e1 e2 e3;refine⟨u',r',?_⟩;rcases q with q|⟨k,c',e,z'⟩
    ·exact .inl q
    ·refine .inr ⟨k,c',e,z'.sameBut hs ?_⟩;rintro rfl;exact hj (Pf hN e1 (I.ok.inj _ _ _ e hc▸hi))
  ·by_cases hcc:c'=c
   ·subst hcc;exact⟨_,hc'⟩
   ·obtain⟨w2,z2⟩:=I.cell y c' e;exact⟨w2,z2.sameBut hs hcc⟩
  ·obtain⟨e,n,ne,nf,d⟩:=I.pin p hp;refine⟨(hs.2 p.1 ?_).trans e,n,ne,nf,d⟩;intro q;rw[q,hoc]at e;have q':oc=p.2:=ZL e;exact d w' (by rw[←q'];exact hocd)
def UL{M:Model}{A:Around}{E:Value->Shared->Prop}{i:Nat}{x:Str}{v:V}{u:Value}{Q:Unit->Shared->Prop}(I:Inv X pins σ H s)(hN:X.N.Nodup)(hi:X.N[i]?=some x)(hx:Loc X.env.scope x)(r:RelV v u)(h:∀s',Inv X pins (σ.set i (some v)) H s'->Q () s')(hf:X.fn x=true\/X.env.scope.names.lookup x=some .local:=by first|exact .inl rfl|exact .inr rfl|assumption):wpAny M A (storeName X.env x u) Q E s:=
 EK I hN hi hx r (fun s' I' _=>h s' I') hf
def Inv.call' {s':Shared}{ch:List Addr} (I:Inv X pins σ H s) (ho:s'.os=s.os) (u:Un (frs X.stack) ch H H' s.heap s'.heap) (hok:HOk X.prog X.w H' s'.heap) (hg:AllBare s'.gens)
  (hch:∀b∈ch,(b∈X.ex\/X.s₀.heap.objs.size<=b)/\b≠X.env.locals/\(∀x c,X.env.cells.lookup x=some c->c≠b)/\∀p∈X.pn++pins,p.1≠b):Inv X pins σ H' s':=by
 obtain⟨h',g',d',t',o'⟩:=s';have e:o'=s.os:=ho;subst e;exact I.call (g':=g') (t':=t') (d':=d') u hok hg hch
end
abbrev XK:=Value->Option Addr->Hp->Prop
abbrev St:=List (Option V)
abbrev VK:=V->Hp->Prop
abbrev TE:=St->Hp->VK->Prop
abbrev TT:=St->Hp->(Bool->Hp->Prop)->Prop
abbrev TA:=St->Hp->(List V->Hp->Prop)->Prop
structure Ends where
 nx:St->Hp->Prop
 rt:VK
 bk:St->Hp->Prop:=fun _ _=>False
 ct:St->Hp->Prop:=fun _ _=>False
abbrev TS:=Ends->St->Hp->Prop
def EP(X:Cx)(pins:List (Addr×Obj))(σ:St)(Q:VK)(u:Value)(s':Shared):Prop:=∃v H',Inv X pins σ H' s'/\RelV v u/\Q v H'
def TP(X:Cx)(pins:List (Addr×Obj))(σ:St)(Q:Bool->Hp->Prop)(b:Bool)(s':Shared):Prop:=∃H',Inv X pins σ H' s'/\Q b H'
def AP(X:Cx)(pins:List (Addr×Obj))(σ:St)(Q:List V->Hp->Prop)(us:List Value)(s':Shared):Prop:=∃vs H',Inv X pins σ H' s'/\Vals vs us/\Q vs H'
def SP(X:Cx)(pins:List (Addr×Obj))(D:Ends)(f:Flow)(s':Shared):Prop:=
 match f with
 | .next=>∃σ' H',Inv X pins σ' H' s'/\D.nx σ' H'
 | .brk=>∃σ' H',Inv X pins σ' H' s'/\D.bk σ' H'
 | .cont=>∃σ' H',Inv X pins σ' H' s'/\D.ct σ' H'
 | .ret u=>∃v σ' H',Inv X pins σ' H' s'/\RelV v u/\D.rt v H'
def PE(X:Cx)(e:Expr)(t:TE):Prop:=
 ∀(pins:List (Addr×Obj)) (s:Shared) (σ:St) (H:Hp) (Q:VK),Inv X pins σ H s->t σ H Q->wpAny (model X.prog X.w) X.A (eval e X.env) (EP X pins σ Q) X.xe s
def PT(X:Cx)(e:Expr)(t:TT):Prop:=
 ∀(pins:List (Addr×Obj)) (s:Shared) (σ:St) (H:Hp) (Q:Bool->Hp->Prop),Inv X pins σ H s->t σ H Q->wpAny (model X.prog X.w) X.A (isTrue e X.env (eval e X.env)) (TP X pins σ Q) X.xe s
def PW(X:Cx)(e:Expr)(t:TT):Prop:=
 ∀(whole:Sem Value) (pins:List (Addr×Obj)) (s:Shared) (σ:St) (H:Hp) (Q:Bool->Hp->Prop),Inv X pins σ H s->t σ H Q->wpAny (model X.prog X.w) X.A (isTrue e X.env whole) (TP X pins σ Q) X.xe s
def PW.pt {X:Cx}{e:Expr}{t:TT} (h:PW X e t):PT X e t:=h _
def PA(X:Cx)(es:List Expr)(t:TA):Prop:=
 ∀(pos:Pos) (pins:List (Addr×Obj)) (s:Shared) (σ:St) (H:Hp) (Q:List V->Hp->Prop),Inv X pins σ H s->t σ H Q->wpAny (model X.prog X.w) X.A (spliced (backTo pos (starEach es X.env))) (AP X pins σ Q) X.xe s
def PS(X:Cx)(st:Stmt)(t:TS):Prop:=
 ∀(pins:List (Addr×Obj)) (s:Shared) (σ:St) (H:Hp) (D:Ends),Inv X pins σ H s->t D σ H->wpAny (model X.prog X.w) X.A (exec st X.env) (SP X pins D) X.xe s
def PSs(X:Cx)(st:List Stmt)(t:TS):Prop:=
 ∀(pins:List (Addr×Obj)) (s:Shared) (σ:St) (H:Hp) (D:Ends),Inv X pins σ H s->t D σ H->wpAny (model X.prog X.w) X.A (execs st X.env) (SP X pins D) X.xe s
def thn{α:Type}{t:Sem α}{Q Q':α->Shared->Prop}{M:Model}{A:Around}{E:Value->Shared->Prop}{s:Shared}(h:wpAny M A t Q E s)(hQ:∀a s,Q a s->Q' a s):wpAny M A t Q' E s:=Yu h hQ fun _ _ x=>x
section
variable {X:Cx}
def bin{a b:Expr}{ta tb:TE}(ha:PE X a ta)(hb:PE X b tb){pins:List (Addr×Obj)}{s:Shared}{σ:St}{H:Hp}{R:V->V->Hp->Prop}(I:Inv X pins σ H s)(h:ta σ H fun x H1=>tb σ H1 fun y H2=>R x y H2){α:Type}{Q:α->Shared->Prop}{f:Value->Value->Sem α}(hf:∀v u s2 x y H2,Inv X pins σ H2 s2->RelV x v->RelV y u->R x y H2->wpAny (model X.prog X.w) X.A (f v u) Q X.xe s2) :
  wpAny (model X.prog X.w) X.A (eval a X.env) (fun v s₁=>wpAny (model X.prog X.w) X.A (eval b X.env) (fun u s₂=>wpAny (model X.prog X.w) X.A (f v u) Q X.xe s₂) X.xe s₁) X.xe s:=by
 refine thn (ha pins s σ H _ I h) fun v s1 ⟨x,H1,I1,r1,q1⟩=>?_;refine thn (hb pins s1 σ H1 _ I1 q1) fun u s2 ⟨y,H2,I2,r2,q2⟩=>?_;exact hf v u s2 x y H2 I2 r1 r2 q2
def tVar(i:Nat):TE:=fun σ H Q=>∃v,σ[i]?=some (some v)/\Q v H
def tC(v:V):TE:=fun _ H Q=>Q v H
def Hc{i:Nat}{x:Str}{pos:Pos}(hN:X.N[i]?=some x)(hv:Vis X.env.scope x)(hd:(x==("__debug__" : Str))=false:=by decide)(hcd:(x==("__classdict__" : Str))=false:=by decide):PE X (.Name x pos) (tVar i):=by
 intro pins s σ H Q I h;obtain⟨v,e,h⟩:=h;obtain⟨m,hn,hl⟩:=I.loc;obtain⟨u,r,l⟩:=hl i x v hN e hv;have fin:EP X pins σ Q u s:=⟨v,H,I,r,h⟩;rcases l with⟨hk,hm⟩|⟨hk,c,hc,hcell⟩
 ·exact wpAny_Name (wpAny_loadName_local I.ok.kind hk hn hm fin) hd
 ·rcases hk with hk|hk
  ·exact wpAny_Name (wpAny_loadName_cell I.ok.kind hk hc hcell fin) hd
  ·exact wpAny_Name (wpAny_loadName_free I.ok.kind hk hc hcell fin hcd) hd
def Va{i j pos}:PE X (.Constant (.int i) j pos) (tC (.int i)):=fun _ _ _ H _ I h=>wpAny_Constant_int ⟨.int i,H,I.tok _,⟨_,rfl⟩,h⟩
def Jk{b j pos}:PE X (.Constant (.bool b) j pos) (tC (.bl b)):=fun _ _ _ H _ I h=>Constant_bool ⟨.bl b,H,I,rfl,h⟩
def Gl(X:Cx)(x:Str):Prop:=X.env.kindOf x=some .globalImplicit
def UU{E:Value->Shared->Prop}{pins:List (Addr×Obj)}{s:Shared}{σ:St}{H:Hp}{x:Str}{u:Value}{pos:Pos}{Q:Value->Shared->Prop}(I:Inv X pins σ H s)(hg:Gl X x)(hm:X.mg x=some u)(h:Q u s)(hd:(x==("__debug__" : Str))=false:=by decide):wpAny (model X.prog X.w) X.A (eval (.Name x pos) X.env) Q E s:=
 Calls.Name_function_global I.ok.kind hg (Calls.loadGlobal_global (by rw[I.ok.glob];exact I.mod.glob.keeps I.bk) hm h) hd
def UB{E:Value->Shared->Prop}{pins:List (Addr×Obj)}{s:Shared}{σ:St}{H:Hp}{x:Str}{u:Value}{pos:Pos}{Q:Value->Shared->Prop}(I:Inv X pins σ H s)(hg:Gl X x)(hm:X.mg x=none)(hv:bootBuiltins x=some u)(h:Q u s)(hn:x≠"__name__":=by decide)(hd:(x==("__debug__" : Str))=false:=by decide):wpAny (model X.prog X.w) X.A (eval (.Name x pos) X.env) Q E s:=by
 obtain⟨mb,h1,h2⟩:=I.mod.blt;exact Calls.Name_function_global I.ok.kind hg (Calls.loadGlobal_builtin (by rw[I.ok.glob];exact I.mod.glob.keeps I.bk) hm (by rw[I.ok.blt];exact h1.keeps I.bk) ((h2 x hn).trans hv) h) hd
def BP{x:Str}{v:V}{u:Value}{pos:Pos}(hg:Gl X x)(hm:X.mg x=some u)(r:RelV v u)(hd:(x==("__debug__" : Str))=false:=by decide):PE X (.Name x pos) (tC v):=
 fun _ _ _ H _ I h=>UU I hg hm ⟨v,H,I,r,h⟩ hd
def UK{x:Str}{v:V}{u:Value}{pos:Pos}(hg:Gl X x)(hm:X.mg x=none)(hv:bootBuiltins x=some u)(r:RelV v u)(hn:x≠"__name__":=by decide)(hd:(x==("__debug__" : Str))=false:=by decide):PE X (.Name x pos) (tC v):=
 fun _ _ _ H _ I h=>UB I hg hm hv ⟨v,H,I,r,h⟩ hn hd
variable {a b:Expr}{ta tb:TE}{pos:Pos}
def PC(X:Cx)(op:CmpOp)(a b:Expr)(t:TE):Prop:=
 ∀(pins:List (Addr×Obj)) (s:Shared) (σ:St) (H:Hp) (Q:VK),Inv X pins σ H s->t σ H Q->
  wpAny (model X.prog X.w) X.A (eval a X.env) (fun v s₁=>wpAny (model X.prog X.w) X.A (eval b X.env) (fun u s₂=>wpAny (model X.prog X.w) X.A (compareOp op v u) (EP X pins σ Q) X.xe s₂) X.xe s₁) X.xe s
def DW(b:Expr){op:CmpOp}(h:op≠.In)(h2:op≠.NotIn):behindInMarks op b=false:=by
 have e1:(op==CmpOp.In)=false:=by cases op<;>first|rfl|exact absurd rfl h
 have e2:(op==CmpOp.NotIn)=false:=by cases op<;>first|rfl|exact absurd rfl h2
 cases b<;>simp[behindInMarks,e1,e2]
def tB(t:TE):TT:=fun σ H Q=>t σ H fun x H1=>∃c,x=.bl c/\Q c H1
def XN{op:CmpOp}{t:TE}(h:PC X op a b t)(h1:behindInMarks op b=false:=by first|exact DW _ (by decide) (by decide)|rfl):PT X (.Compare a [op] [b] pos) (tB t):=by
 intro pins s σ H Q I hw;refine wpAny_isTrue_Compare1 (thn (h pins s σ H _ I hw) fun v s1 h1=>thn h1 fun u s2 h2=>thn h2 fun c s3 ⟨x,H1,I1,r1,q1⟩=>?_) h1;obtain⟨d,rfl,q⟩:=q1;cases r1
 exact Wi ⟨H1,I1,q⟩
variable {tA tB':TT}{rest:List Expr}
def tAnd(t u:TT):TT:=fun σ H Q=>t σ H fun c H1=>if c=true then u σ H1 Q else Q false H1
def tOr(t u:TT):TT:=fun σ H Q=>t σ H fun c H1=>if c=true then Q true H1 else u σ H1 Q
def tNot(t:TT):TT:=fun σ H Q=>t σ H fun c H1=>Q (!c) H1
def JX(ha:PT X a tA):PW X (.BoolOp .And [a] pos) tA:=by
 intro wh pins s σ H Q I h;refine isTrue_and (thn (ha pins s σ H Q I h) fun c s1 e=>?_);cases c with
 |true=>exact isTrue_and_nil e
 |false=>exact e
def UC(ha:PT X a tA):PW X (.BoolOp .Or [a] pos) tA:=by
 intro wh pins s σ H Q I h;refine isTrue_or (thn (ha pins s σ H Q I h) fun c s1 e=>?_);cases c with
 |false=>exact isTrue_or_nil e
 |true=>exact e
def JL(ha:PT X a tA)(hb:PW X (.BoolOp .And (b::rest) pos) tB'):PW X (.BoolOp .And (a::b::rest) pos) (tAnd tA tB'):=by
 intro wh pins s σ H Q I h;refine isTrue_and (thn (ha pins s σ H _ I h) fun c s1 ⟨H1,I1,q1⟩=>?_);cases c with
 |true=>exact hb wh pins s1 σ H1 Q I1 q1
 |false=>exact⟨H1,I1,q1⟩
def U4(ha:PT X a tA)(hb:PW X (.BoolOp .Or (b::rest) pos) tB'):PW X (.BoolOp .Or (a::b::rest) pos) (tOr tA tB'):=by
 intro wh pins s σ H Q I h;refine isTrue_or (thn (ha pins s σ H _ I h) fun c s1 ⟨H1,I1,q1⟩=>?_);cases c with
 |true=>exact⟨H1,I1,q1⟩
 |false=>exact hb wh pins s1 σ H1 Q I1 q1
def JR(ha:PT X a tA):PT X (.UnaryOp .Not a pos) (tNot tA):=by
 intro pins s σ H Q I h;exact isTrue_not (ha pins s σ H (fun c H1=>Q (!c) H1) I h)
def Bx(ta tb:TE):TE:=fun σ H Q=>ta σ H fun x H1=>∃c,x=.bl c/\if c=true then tb σ H1 Q else Q (.bl false) H1
def tOrV(ta tb:TE):TE:=fun σ H Q=>ta σ H fun x H1=>∃c,x=.bl c/\if c=true then Q (.bl true) H1 else tb σ H1 Q
def Tj(ta:TE):TE:=fun σ H Q=>ta σ H fun x H1=>∃c,x=.bl c/\Q (.bl (!c)) H1
def Xb{op}{t:TE}(h:PE X a t):PE X (.BoolOp op [a] pos) t:=fun pins s σ H Q I hw=>BoolOp_one (h pins s σ H Q I hw)
def X3(ha:PE X a ta)(hb:PE X (.BoolOp .And (b::rest) pos) tb):PE X (.BoolOp .And (a::b::rest) pos) (Bx ta tb):=by
 intro pins s σ H Q I h;refine BoolOp_and (thn (ha pins s σ H _ I h) fun v s1 ⟨x,H1,I1,r1,q1⟩=>?_);obtain⟨c,rfl,q1⟩:=q1;cases r1
 refine Wi ?_;cases c with
 |true=>exact hb pins s1 σ H1 Q I1 q1
 |false=>exact⟨.bl false,H1,I1,rfl,q1⟩
def GD(ha:PE X a ta)(hb:PE X (.BoolOp .Or (b::rest) pos) tb):PE X (.BoolOp .Or (a::b::rest) pos) (tOrV ta tb):=by
 intro pins s σ H Q I h;refine BoolOp_or (thn (ha pins s σ H _ I h) fun v s1 ⟨x,H1,I1,r1,q1⟩=>?_);obtain⟨c,rfl,q1⟩:=q1;cases r1
 refine Wi ?_;cases c with
 |false=>exact hb pins s1 σ H1 Q I1 q1
 |true=>exact⟨.bl true,H1,I1,rfl,q1⟩
def EU(ha:PE X a ta):PE X (.UnaryOp .Not a pos) (Tj ta):=by
 intro pins s σ H Q I h;refine UnaryOp_ (thn (ha pins s σ H _ I h) fun v s1 ⟨x,H1,I1,r1,q1⟩=>?_);obtain⟨c,rfl,q1⟩:=q1;cases r1
 exact not_of (Wi ⟨.bl (!c),H1,I1,rfl,q1⟩)
end
def SqL(K:Za)(H:Hp)(a:Addr)(xs:List V):Prop:=
 Rd H a (.lst xs)\/
  ∃(o:Obj) (its:Array Value) (n:Nat),K.lookup a=some o/\o.cls=.type "list"/\o.dict=none/\o.data=.seq its n/\its.size<=sizeLine/\Vals xs its.toList
def SqT(K:Za)(H:Hp)(a:Addr)(xs:List V):Prop:=
 Rd H a (.tup xs)\/
  ∃(o:Obj) (its:Array Value) (n:Nat),K.lookup a=some o/\o.cls=.type "tuple"/\o.data=.seq its n/\its.size<=sizeLine/\Vals xs its.toList
def absV:Value->Option V
 | .none=>some .non
 | .bool b=>some (.bl b)
 | .int i _=>some (.int i)
 | .str x _=>some (.str x)
 | .bytes b _=>some (.byt b)
 | .float b _=>some (.flt b)
 | .ref a=>some (.ref a)
 | .type n=>some (.ty n)
 |_=>none
def RelV.abs {x:V}{u:Value} (r:RelV x u):absV u=some x:=by
 cases x with
 |non=>cases r;rfl
 |bl _=>cases r;rfl
 |int _=>obtain⟨t,rfl⟩:=r;rfl
 |str _=>obtain⟨t,rfl⟩:=r;rfl
 |byt _=>obtain⟨t,rfl⟩:=r;rfl
 |flt _=>obtain⟨t,rfl⟩:=r;rfl
 |ref _=>cases r;rfl
 |ty _=>cases r;rfl
def RelV.inj {x y:V}{u:Value} (r:RelV x u) (q:RelV y u):x=y:=ZL (r.abs.symm.trans q.abs)
def Vals.inj:∀{xs ys:List V}{us:List Value},Vals xs us->Vals ys us->xs=ys
 |_,_,_,.nil,.nil=>rfl
 |_,_,_,.cons r t,.cons r' t'=>by rw[r.inj r',Vals.inj t t']
section
variable {X:Cx}{pins:List (Addr×Obj)}{σ:St}{H:Hp}{s:Shared}{a:Addr}{xs ys:List V}
def SqL.of {K:Za} (h:H a=some (.lst xs)):SqL K H a xs:=.inl (.inl h)
def SqT.of {K:Za} (h:H a=some (.tup xs)):SqT K H a xs:=.inl (.inl h)
def Inv.list (I:Inv X pins σ H s) (h:SqL X.K H a xs):∃its:List Value,Vals xs its/\PlainL s.heap a its.toArray/\xs.length<=sizeLine:=by
 rcases h with h|⟨o,its,n,hk,hc,hd,hs,hz,r⟩
 ·obtain⟨z,its,n,r,e⟩:=h.ok I.hok;exact⟨its,r,⟨_,n,e,rfl,rfl,rfl⟩,z⟩
 ·refine⟨its.toList,r,⟨o,n,I.kIn a o hk,hc,hd,by simpa using hs⟩,?_⟩;have e:=r.length;simp only[Yp]at e;omega
def Inv.tuple (I:Inv X pins σ H s) (h:SqT X.K H a xs):∃its:List Value,Vals xs its/\IsTup s.heap a its.toArray/\xs.length<=sizeLine:=by
 rcases h with h|⟨o,its,n,hk,hc,hs,hz,r⟩
 ·obtain⟨z,its,r,p⟩:=h.ok I.hok;exact⟨its,r,p,z⟩
 ·refine⟨its.toList,r,⟨o,I.kIn a o hk,hc,n,by simpa using hs⟩,?_⟩;have e:=r.length;simp only[Yp]at e;omega
def Inv.list_inj (I:Inv X pins σ H s) (h:SqL X.K H a xs) (h':SqL X.K H a ys):xs=ys:=by
 obtain⟨its,r,⟨o,n,e,_,_,d⟩,_⟩:=I.list h;obtain⟨its',r',⟨o',n',e',_,_,d'⟩,_⟩:=I.list h';rw[e]at e';cases e';rw[d]at d';injection d' with d1 _
 have:its=its':=by simpa using Y1 Array.toList d1
 subst this;exact r.inj r'
def Inv.tuple_inj (I:Inv X pins σ H s) (h:SqT X.K H a xs) (h':SqT X.K H a ys):xs=ys:=by
 obtain⟨its,r,⟨o,e,_,n,d⟩,_⟩:=I.tuple h;obtain⟨its',r',⟨o',e',_,n',d'⟩,_⟩:=I.tuple h';rw[e]at e';cases e';rw[d]at d';injection d' with d1 _
 have:its=its':=by simpa using Y1 Array.toList d1
 subst this;exact r.inj r'
end
abbrev Cx.wish (X:Cx) (E:Value->Shared->Prop):Cx:={X with xe:=E}
abbrev Cx.nox (X:Cx):Cx:=X.wish fun _ _=>False
def Cx.Ok.wish {X:Cx} (ok:X.Ok) (E:Value->Shared->Prop):(X.wish E).Ok:=
 ⟨ok.mod,ok.kind,ok.glob,ok.blt,ok.above,ok.inj,ok.has,ok.cab,ok.hd,ok.frames,ok.stk,ok.exf,ok.bs,ok.bsz,ok.noex,ok.exfs,ok.funs,ok.frf⟩
def Cx.Ok.unwish {X:Cx}{E:Value->Shared->Prop} (ok:(X.wish E).Ok):X.Ok:=
 ⟨ok.mod,ok.kind,ok.glob,ok.blt,ok.above,ok.inj,ok.has,ok.cab,ok.hd,ok.frames,ok.stk,ok.exf,ok.bs,ok.bsz,ok.noex,ok.exfs,ok.funs,ok.frf⟩
section
variable {X:Cx}{pins:List (Addr×Obj)}{σ:St}{H:Hp}{s:Shared}{E:Value->Shared->Prop}
def Inv.wish (I:Inv X pins σ H s) (E:Value->Shared->Prop):Inv (X.wish E) pins σ H s:=⟨I.ok.wish E,I.os,I.bare,I.base,I.loc,I.cell,I.free,I.freeC,I.pin,I.hok,I.len⟩
def Inv.unwish (I:Inv (X.wish E) pins σ H s):Inv X pins σ H s:=⟨I.ok.unwish,I.os,I.bare,I.base,I.loc,I.cell,I.free,I.freeC,I.pin,I.hok,I.len⟩
def SP.unwish {D:Ends}{f:Flow}{s':Shared} (h:SP (X.wish E) pins D f s'):SP X pins D f s':=by
 cases f with
 |next=>obtain⟨σ',H',I,q⟩:=h;exact⟨σ',H',I.unwish,q⟩
 |brk=>obtain⟨σ',H',I,q⟩:=h;exact⟨σ',H',I.unwish,q⟩
 |cont=>obtain⟨σ',H',I,q⟩:=h;exact⟨σ',H',I.unwish,q⟩
 |ret u=>obtain⟨v,σ',H',I,r,q⟩:=h;exact⟨v,σ',H',I.unwish,r,q⟩
def PSs.nox {st:List Stmt}{t:TS} (h:PSs X.nox st t):PSs X st t:=fun pins s σ H D I hw=>
 Yu (h pins s σ H D (I.wish _) hw) (fun _ _ q=>q.unwish) fun _ _ z=>False.elim z
end
section
variable {X:Cx}{st:Stmt}{rest:List Stmt}{t u:TS}{e:Expr}{te:TE}{pos:Pos}
def T7:TS:=fun D σ H=>D.nx σ H
def tSeq(t u:TS):TS:=fun D σ H=>t {D with nx:=u D} σ H
def V9:PSs X [] T7:=fun _ _ σ H _ I h=>Qn ⟨σ,H,I,h⟩
def Vc(h1:PS X st t)(h2:PSs X rest u):PSs X (st::rest) (tSeq t u):=by
 intro pins s σ H D I h;refine wpAny_execs_cons (thn (h1 pins s σ H {D with nx:=u D} I h) fun f s1 q=>?_)
 cases f with
 |next=>
  obtain⟨σ',H',I',q⟩:=q;exact h2 pins s1 σ' H' D I' q
 |ret v=>exact q
 |brk=>exact q
 |cont=>exact q
def Ve(h1:PS X st t):PSs X [st] t:=by
 intro pins s σ H D I h;refine wpAny_execs_cons (thn (h1 pins s σ H D I h) fun f s1 q=>?_);cases f with
 |next=>exact Qn q
 |ret v=>exact q
 |brk=>exact q
 |cont=>exact q
def Inv.quiet {pins:List (Addr×Obj)}{σ:St}{H:Hp}{s:Shared} (I:Inv X pins σ H s):interactive X.env=false:=by simp[interactive,I.ok.kind]
def XM(te:TE):TS:=fun D σ H=>te σ H fun _ H1=>D.nx σ H1
def Ji(he:PE X e te)(hs:swapsWith e none pos.line X.env=pure false:=by rfl):PS X (.Expr e pos) (XM te):=by
 intro pins s σ H D I h;exact wpAny_Expr_any (thn (he pins s σ H _ I h) fun v s1 ⟨x,H1,I1,r1,q1⟩=>⟨σ,H1,I1,q1⟩) I.quiet hs
def tRet(te:TE):TS:=fun D σ H=>te σ H D.rt
def Vk(he:PE X e te):PS X (.Return (some e) pos) (tRet te):=by
 intro pins s σ H D I h;exact wpAny_Return_some (thn (he pins s σ H _ I h) fun v s1 ⟨x,H1,I1,r1,q1⟩=>⟨x,σ,H1,I1,r1,q1⟩)
def tIfS(c:TT)(t u:TS):TS:=fun D σ H=>c σ H fun b H1=>if b=true then t D σ H1 else u D σ H1
def V2{c:Expr}{a b:List Stmt}{tc:TT}(hc:PT X c tc)(ha:PSs X a t)(hb:PSs X b u):PS X (.If c a b pos) (tIfS tc t u):=by
 intro pins s σ H D I h;refine wpAny_If (thn (hc pins s σ H _ I h) fun d s1 ⟨H1,I1,q1⟩=>?_);cases d with
 |true=>exact ha pins s1 σ H1 D I1 q1
 |false=>exact hb pins s1 σ H1 D I1 q1
def B5:TS:=fun _ _ _=>False
def AU:PS X st B5:=fun _ _ _ _ _ _ h=>h.elim
end
abbrev TG:=V->St->Hp->(St->Hp->Prop)->Prop
abbrev TGs:=List V->St->Hp->(St->Hp->Prop)->Prop
def PG(X:Cx)(target:Expr)(t:TG):Prop:=
 ∀(pins:List (Addr×Obj)) (s:Shared) (σ:St) (H:Hp) (v:V) (u:Value) (Q:St->Hp->Prop),Inv X pins σ H s->RelV v u->t v σ H Q->
  wpAny (model X.prog X.w) X.A (assign target X.env u) (fun _ s'=>∃σ' H',Inv X pins σ' H' s'/\Q σ' H') X.xe s
def PGs(X:Cx)(ts:List Expr)(t:TGs):Prop:=
 ∀(pins:List (Addr×Obj)) (s:Shared) (σ:St) (H:Hp) (vs:List V) (us:List Value) (Q:St->Hp->Prop),Inv X pins σ H s->Vals vs us->t vs σ H Q->
  wpAny (model X.prog X.w) X.A (assignInOrder ((assignEach ts X.env).map (·.2)) us) (fun _ s'=>∃σ' H',Inv X pins σ' H' s'/\Q σ' H') X.xe s
section
variable {X:Cx}{pos:Pos}
def U7(i:Nat):TG:=fun v σ H Q=>Q (σ.set i (some v)) H
def Kl{i:Nat}{x:Str}(hN:X.N.Nodup)(hi:X.N[i]?=some x)(hx:Loc X.env.scope x)(hf:X.fn x=true\/X.env.scope.names.lookup x=some .local:=by first|exact .inl rfl|exact .inr rfl|assumption):PG X (.Name x pos) (U7 i):=by
 intro pins s σ H v u Q I r h;exact wpAny_assign_Name (UL I hN hi hx r (fun s' I'=>⟨_,H,I',h⟩) hf)
def gNil:TGs:=fun vs σ H Q=>vs=[]/\Q σ H
def Bm(t:TG)(u:TGs):TGs:=fun vs σ H Q=>∃v r,vs=v::r/\t v σ H fun σ' H'=>u r σ' H' Q
def Ua:PGs X [] gNil:=by
 intro pins s σ H vs us Q I r h;obtain⟨e,h⟩:=h;subst e;cases r
 exact assignInOrder_nil ⟨σ,H,I,h⟩
def VU{e:Expr}{es:List Expr}{t:TG}{u:TGs}(h1:PG X e t)(h2:PGs X es u)(hs:(assignEach (e::es) X.env).map (·.2)=assign e X.env::(assignEach es X.env).map (·.2):=by rfl):PGs X (e::es) (Bm t u):=by
 intro pins s σ H vs us Q I r h;obtain⟨v,vr,e1,h⟩:=h;subst e1;cases r with
 |cons r rr=>
  rw[hs];refine assignInOrder_cons (thn (h1 pins s σ H _ _ _ I r h) fun _ s1 ⟨σ1,H1,I1,q1⟩=>?_);exact h2 pins s1 σ1 H1 _ _ Q I1 rr q1
def gTup(K:Za)(n:Nat)(t:TGs):TG:=fun v σ H Q=>∃a xs,v=.ref a/\SqT K H a xs/\xs.length=n/\t xs σ H Q
def Gy{es:List Expr}{k:Nat}{t:TGs}{n:Nat}(hc:X.calm=true)(h:PGs X es t)(hn:(assignEach es X.env).length=n:=by rfl)(hst:(assignEach es X.env).findIdx? (·.1)=none:=by rfl):PG X (.Tuple es k pos) (gTup X.K n t):=by
 intro pins s σ H v u Q I r hw;obtain⟨a,xs,e1,hq,hl,hw⟩:=hw;subst e1;cases r
 obtain⟨its,rv,ht,hz⟩:=I.tuple hq;refine assign_Tuple_tuple (I.ok.hd hc) ht (by simp[hn,←hl,rv.length]) hst fun h' hx=>?_;have I1:Inv X pins σ H {s with heap:=h'}:=I.kept (t':=s.toks) fun b o e=>hx b o (Ye (ZH e)) e
 exact h pins _ σ H xs _ Q I1 (by simpa using rv) hw
def tAsg(te:TE)(g:TG):TS:=fun D σ H=>te σ H fun x H1=>g x σ H1 D.nx
def EZ{i:Nat}{x:Str}{e:Expr}{te:TE}{pos':Pos}(hN:X.N.Nodup)(hi:X.N[i]?=some x)(hx:Loc X.env.scope x)(he:PE X e te)(hs:swapsWith e (some (.Name x pos')) pos.line X.env=pure false:=by rfl)(hf:X.fn x=true\/X.env.scope.names.lookup x=some .local:=by first|exact .inl rfl|exact .inr rfl|assumption) :
  PS X (.Assign [.Name x pos'] e pos) (tAsg te (U7 i)):=by
 intro pins s σ H D I h;refine wpAny_Assign_Name (thn (he pins s σ H _ I h) fun v s1 ⟨y,H1,I1,r1,q1⟩=>?_) hs;exact UL I1 hN hi hx r1 (fun s2 I2=>⟨_,H1,I2,q1⟩) hf
def tPar(i j:Nat)(ta:TA):TS:=fun D σ H=>ta σ H fun vs H1=>∃v w,vs=[v,w]/\D.nx ((σ.set i (some v)).set j (some w)) H1
def AO{i j:Nat}{x y:Str}{a b:Expr}{ta:TA}{px py pt:Pos}{kt k2 pt2}(hc:X.calm=true)(hN:X.N.Nodup)(hi:X.N[i]?=some x)(hj:X.N[j]?=some y)(hij:i≠j)(hx:X.env.scope.names.lookup x=some .local)(hy:X.env.scope.names.lookup y=some .local)(ha:PA X [a,b] ta)(hw:swappedStores [.Tuple [.Name x px,.Name y py] kt pt] (.Tuple [a,b] k2 pt2) X.env=pure (some [x,y]))(hs:swapsWithSole [.Tuple [.Name x px,.Name y py] kt pt] (.Tuple [a,b] k2 pt2) pos.line X.env=pure false:=by rfl) :
  PS X (.Assign [.Tuple [.Name x px,.Name y py] kt pt] (.Tuple [a,b] k2 pt2) pos) (tPar i j ta):=by
 intro pins s σ H D I h;rw[exec_Assign_arm];refine Z9 (wpAny_standAt ?_);rw[hs];refine Z9 (ZD ?_);rw[ZI (by decide)];refine Z9 (Tuple_ (thn (ha _ pins s σ H _ I h) fun us s1 ⟨vs,H1,I1,r1,q1⟩=>?_));obtain⟨v,w,e1,q1⟩:=q1;subst e1
 obtain⟨u1,u2,rfl,rv,rw'⟩:∃u1 u2,us=[u1,u2]/\RelV v u1/\RelV w u2:=by
  cases r1 with
  |cons p q=>
   cases q with
   |cons p' q'=>
    cases q'
    exact⟨_,_,rfl,p,p'⟩
 refine Yh ?_ (by show 2<=sizeLine;decide);have I2:Inv X pins σ H1 {s1 with heap:=s1.heap.push {cls:=.type "tuple",data:=.seq [u1,u2].toArray}}:=I1.kept (t':=s1.toks) fun b o e=>ZF _ e
 rw[hw];refine Z9 (ZD ?_);show wpAny (model X.prog X.w) X.A (do rule "assign.swapped-stores";let items ←unpackItems (.ref s1.heap.objs.size) 2 none;assignInOrder [fun v=>bindName X.env y v,fun v=>bindName X.env x v] items.reverse;pure Flow.next) _ _ _
 refine Z9 (wpAny_rule (Z9 (unpackItems_tuple (items:=#[u1,u2]) (I.ok.hd hc) (IsTup.new s1.heap _) fun h' hx'=>?_)));have I3:=I2.kept (h':=h') (t':=s1.toks) fun b o e=>hx' b o (Ye (ZH e)) e;show wpAny _ _ (assignInOrder [fun v=>bindName X.env y v,fun v=>bindName X.env x v] [u2,u1] >>= fun _=>pure Flow.next) _ _ _;refine Z9 (assignInOrder_cons (wpAny_bindName (UL I3 hN hj (.inl hy) rw' (fun s2 I4=>?_) (.inr hy))));refine assignInOrder_cons (wpAny_bindName (UL I4 hN hi (.inl hx) rv (fun s3 I5=>assignInOrder_nil (ZD ?_)) (.inr hx)));rw[List.set_comm _ _ (Ne.symm hij)]at I5;exact⟨_,H1,I5,q1⟩
end
section
variable {X:Cx}{pos:Pos}
def Fb(c:TT)(tb:TS):TS:=fun D σ H=>∃W:Nat->St->Hp->Prop,(∃m,W m σ H)/\∀m σ H,W m σ H->
 c σ H fun b H1=>if b=true then ∃N:St->Hp->Prop,(∀σ' H',N σ' H'->∃m',m'<m/\W m' σ' H')/\tb {D with nx:=N,ct:=N,bk:=D.nx} σ H1 else D.nx σ H1
def Kp{c:Expr}{body:List Stmt}{tc:TT}{tb:TS}(hp:PassesOwn (model X.prog X.w) X.A X.env X.xe)(hc:PT X c tc)(hb:PSs X body tb):PS X (.While c body [] pos) (Fb tc tb):=by
 intro pins s σ H D I h;obtain⟨W,⟨m0,w0⟩,turn⟩:=h;refine wpAny_While (codeAny_whileLoop (fun n s'=>∃σ' H',Inv X pins σ' H' s'/\W n σ' H') ?_ m0 ⟨σ,H,I,w0⟩);rintro n s1 ⟨σ1,H1,I1,w1⟩;refine We hp (thn (hc pins s1 σ1 H1 _ I1 (turn n σ1 H1 w1)) fun b s2 ⟨H2,I2,q2⟩=>?_);cases b with
 |true=>
  obtain⟨N,hN,q2⟩:=q2;rw[ZK rfl];refine We hp (thn (hb pins s2 σ1 H2 _ I2 q2) fun f s3 q3=>?_);cases f with
  |next=>
   obtain⟨σ3,H3,I3,n3⟩:=q3;obtain⟨m',hm,w3⟩:=hN σ3 H3 n3;exact⟨m',hm,σ3,H3,I3,w3⟩
  |cont=>
   obtain⟨σ3,H3,I3,n3⟩:=q3;obtain⟨m',hm,w3⟩:=hN σ3 H3 n3;exact⟨m',hm,σ3,H3,I3,w3⟩
  |brk=>exact q3
  |ret v=>exact q3
 |false=>
  rw[ZI ZO];exact Qn ⟨σ1,H2,I2,q2⟩
end
structure It where
 go:Nat->Hp->Prop
 yld:Nat->Hp->V->Hp->Prop
 stop:Nat->Hp->Prop
def FpOk(X:Cx)(pins:List (Addr×Obj))(H:Hp)(b:Addr):Prop:=
 H b=none/\b≠X.env.locals/\b∉X.fs/\(b∈X.ex\/X.s₀.heap.objs.size<=b)/\(∀x c,X.env.cells.lookup x=some c->c≠b)/\∀p∈X.pn++pins,p.1≠b
def Inv.fpOk {X:Cx}{pins:List (Addr×Obj)}{σ:St}{H H':Hp}{s:Shared}{b:Addr} (I:Inv X pins σ H s) (hb:s.heap.objs.size<=b) (hn:H' b=none):FpOk X pins H' b:=by
 refine⟨hn,Qo (Yl I.lt hb),I.nofs hb,.inr (ZU I.sz hb),fun x c e z=>?_,fun p hp z=>?_⟩
 ·obtain⟨v,q⟩:=I.cell x c e;exact absurd (Yl q.lt (by rw[z];exact hb)) (YM _)
 ·exact absurd (Yl (ZH (I.pin p hp).1) (by rw[z];exact hb)) (YM _)
structure Turn (P:Program) (w:World) (K:Za) (tg:Expr) (J:It) (fp:List Addr) (it:Addr) (tn:Nat->Heap->Prop):Prop where
 mem:it∈fp
 obj:∀i h,tn i h->∀b∈fp,∃o,h.get? b=some o/\∀v,o.data≠.cell v
 keep:∀i h h',tn i h->(∀b∈fp,∀o,h.get? b=some o->h'.get? b=some o)->tn i h'
 item:∀(X:Cx),X.prog=P->X.w=w->X.K=K->X.calm=true->∀(i:Nat) (pins:List (Addr×Obj)) (s:Shared) (σ:St) (H:Hp) (E:Value->Shared->Prop),Inv X pins σ H s->(∀b∈fp,FpOk X pins H b)->tn i s.heap->J.go i H->
  wpAny (model P w) X.A (pyNext (.ref it)) (fun r s1=>∃u,r=some u/\
   wpAny (model P w) X.A (letOwnedTupleGo tg (.ref it) u) (fun _ s2=>∃x H',Inv X pins σ H' s2/\RelV x u/\J.yld i H x H'/\tn (i+1) s2.heap/\∀b∈fp,H' b=none) E s1) E s
 done:∀(X:Cx),X.prog=P->X.w=w->X.K=K->X.calm=true->∀(i:Nat) (pins:List (Addr×Obj)) (s:Shared) (σ:St) (H:Hp) (E:Value->Shared->Prop),Inv X pins σ H s->(∀b∈fp,FpOk X pins H b)->tn i s.heap->J.stop i H->
  wpAny (model P w) X.A (pyNext (.ref it)) (fun r s1=>r=none/\Inv X pins σ H s1) E s
 self:∀(A:Around) (i:Nat) (s:Shared) (Q:Value->Shared->Prop) (E:Value->Shared->Prop),tn i s.heap->Q (.ref it) s->wpAny (model P w) A (pyIter (.ref it)) Q E s
abbrev TI:=St->Hp->(It->Hp->Prop)->Prop
def PIE(X:Cx)(pins:List (Addr×Obj))(σ:St)(tg:Expr)(R:It->Hp->Prop)(itv:Value)(s2:Shared):Prop:=
 ∃(it:Addr) (fp:List Addr) (tn:Nat->Heap->Prop) (J:It) (H':Hp),itv=.ref it/\Inv X pins σ H' s2/\Turn X.prog X.w X.K tg J fp it tn/\tn 0 s2.heap/\(∀b∈fp,FpOk X pins H' b)/\R J H'
def PI(X:Cx)(tg iter:Expr)(wi:TI):Prop:=
 ∀(pins:List (Addr×Obj)) (s:Shared) (σ:St) (H:Hp) (R:It->Hp->Prop),Inv X pins σ H s->wi σ H R->
  wpAny (model X.prog X.w) X.A (eval iter X.env) (fun v s1=>wpAny (model X.prog X.w) X.A (pyIter v) (PIE X pins σ tg R) X.xe s1) X.xe s
def Ka {M : Model} {A : Around} {E : Value → Shared → Prop} {s : Shared} {tg : Expr} {it : Addr} {u : Value} {o : Obj} {n : String} {vs : Array Value} {Q : Unit → Shared → Prop} (ho : s.heap.get? it = some o) (hc : o.cls = .type n) (hd : o.data = .fields vs)
    (hn : ["enumerate", "zip", "dict_itemiterator", "dict_reverseitemiterator", "odict_iterator", "itertools.zip_longest", "itertools.pairwise"].contains n = false) (hQ : Q () s) : wpAny M A (letOwnedTupleGo tg (.ref it) u) Q E s := by
  unfold letOwnedTupleGo
  cases tg <;> first
    | exact ZD hQ
    | (cases u <;> first
        | exact ZD hQ
        | (refine Z9 (wpAny_load ho ?_)
           rw [hc, hd]
           show wpAny M A (if (["enumerate", "zip", "dict_itemiterator", "dict_reverseitemiterator", "odict_iterator", "itertools.zip_longest", "itertools.pairwise"].contains n && vs[0]? == some (rawInt _)) = true then _ else _) Q E s
           rw [ZI (by intro h; rw [hn, Q1] at h; cases h)]
           exact ZD hQ))
def Itl(K:Za)(a:Addr):It:=
 ⟨fun i H=>∃xs x,SqL K H a xs/\xs[i]?=some x,fun i H x H'=>H'=H/\∀xs,SqL K H a xs->xs[i]?=some x,fun i H=>∃xs,SqL K H a xs/\xs.length<=i⟩
def Itt(K:Za)(a:Addr):It:=
 ⟨fun i H=>∃xs x,SqT K H a xs/\xs[i]?=some x,fun i H x H'=>H'=H/\∀xs,SqT K H a xs->xs[i]?=some x,fun i H=>∃xs,SqT K H a xs/\xs.length<=i⟩
def Itr(lo:Int)(n:Nat):It:=⟨fun i _=>i<n,fun i H x H'=>H'=H/\x=.int (lo+i),fun i _=>n<=i⟩
def Ct{P:Program}{w:World}{K:Za}{tg:Expr}(a it:Addr):Turn P w K tg (Itl K a) [it] it (fun i h=>h.IsListIter it a i) where
 mem:=by simp
 obj:=fun i h st b hb=>by
  have e:b=it:=by simpa using hb
  subst e;obtain⟨o,e,c,d⟩:=st;exact⟨o,e,fun v z=>by rw[d]at z;cases z⟩
 keep:=fun i h h' st k=>st.at fun o e=>k it (by simp) o e
 item:=by
  intro X hP hw hK hc i pins s σ H E I hf st hg;subst hP hw hK;obtain⟨xs,x,hq,hx⟩:=hg;obtain⟨its,rv,p,hz⟩:=I.list hq;obtain⟨u,hu,ru⟩:=rv.get hx;obtain⟨f0,f1,f2,f3,f4,f5⟩:=hf it (by simp);refine wpAny_pyNext_list_item st p.isList (x:=u) (by simpa using hu) fun h' st' sb=>?_;have I1:Inv X pins σ H {s with heap:=h'}:=I.turned (t':=s.toks) (fun b o hb e=>(sb.2 b hb).trans e) f0 f1 f3 f4 f5
  obtain⟨o,e,c,d⟩:=id st';exact⟨u,rfl,Ka (s:={s with heap:=h'}) e c d (by decide) ⟨x,H,I1,ru,⟨rfl,fun ys hy=>by rw[I.list_inj hy hq];exact hx⟩,st',fun b hb=>(hf b hb).1⟩⟩
 done:=by
  intro X hP hw hK hc i pins s σ H E I hf st hg;subst hP hw hK;obtain⟨xs,hq,hx⟩:=hg;obtain⟨its,rv,p,hz⟩:=I.list hq;obtain⟨f0,f1,f2,f3,f4,f5⟩:=hf it (by simp);have hl:=rv.length;exact wpAny_pyNext_list_end (I.ok.hd hc) st p.isList (by simp;omega) fun h' eb=>⟨rfl,I.turned (t':=s.toks) (fun b o hb e=>eb b o hb e) f0 f1 f3 f4 f5⟩
 self:=fun _ _ _ _ _ st h=>wpAny_pyIter_listiter st h
def Ih{P:Program}{w:World}{K:Za}{tg:Expr}(a it:Addr):Turn P w K tg (Itt K a) [it] it (fun i h=>h.IsTupleIter it a i) where
 mem:=by simp
 obj:=fun i h st b hb=>by
  have e:b=it:=by simpa using hb
  subst e;obtain⟨o,e,c,d⟩:=st;exact⟨o,e,fun v z=>by rw[d]at z;cases z⟩
 keep:=fun i h h' st k=>st.at fun o e=>k it (by simp) o e
 item:=by
  intro X hP hw hK hc i pins s σ H E I hf st hg;subst hP hw hK;obtain⟨xs,x,hq,hx⟩:=hg;obtain⟨its,rv,p,hz⟩:=I.tuple hq;obtain⟨u,hu,ru⟩:=rv.get hx;obtain⟨f0,f1,f2,f3,f4,f5⟩:=hf it (by simp);refine wpAny_pyNext_tuple_item st (show s.heap.IsTuple a its.toArray from p) (x:=u) (by simpa using hu) fun h' st' sb=>?_
  have I1:Inv X pins σ H {s with heap:=h'}:=I.turned (t':=s.toks) (fun b o hb e=>(sb.2 b hb).trans e) f0 f1 f3 f4 f5
  obtain⟨o,e,c,d⟩:=id st';exact⟨u,rfl,Ka (s:={s with heap:=h'}) e c d (by decide) ⟨x,H,I1,ru,⟨rfl,fun ys hy=>by rw[I.tuple_inj hy hq];exact hx⟩,st',fun b hb=>(hf b hb).1⟩⟩
 done:=by
  intro X hP hw hK hc i pins s σ H E I hf st hg;subst hP hw hK;obtain⟨xs,hq,hx⟩:=hg;obtain⟨its,rv,p,hz⟩:=I.tuple hq;obtain⟨f0,f1,f2,f3,f4,f5⟩:=hf it (by simp);have hl:=rv.length;exact wpAny_pyNext_tuple_end (I.ok.hd hc) st (show s.heap.IsTuple a its.toArray from p) (by simp;omega) fun h' eb=>⟨rfl,I.turned (t':=s.toks) (fun b o hb e=>eb b o hb e) f0 f1 f3 f4 f5⟩
 self:=fun _ _ _ _ _ st h=>wpAny_pyIter_tupleiter st h
def Du{P:Program}{w:World}{K:Za}{tg:Expr}(it:Addr)(lo:Int)(n:Nat):Turn P w K tg (Itr lo n) [it] it (fun i h=>IsRangeIter h it (lo+(i:Nat)*1) ((n:Int)-(i:Nat)) 1) where
 mem:=by simp
 obj:=fun i h st b hb=>by
  have e:b=it:=by simpa using hb
  subst e
  exact⟨_,st,fun v z=>by
   have z':Data.fields _=Data.cell v:=z;cases z'⟩
 keep:=fun i h h' st k=>k it (by simp) _ st
 item:=by
  intro X hP hw hK hc i pins s σ H E I hf st hg;subst hP hw hK;obtain⟨f0,f1,f2,f3,f4,f5⟩:=hf it (by simp);have W:=Walks.range (prog:=X.prog) (w:=X.w) (I.ok.hd hc) it lo 1 n;refine W.item i s _ _ hg st fun v h' tk hv st' kk=>?_;obtain⟨t,rfl⟩:=hv;have I1:Inv X pins σ H {s with heap:=h',toks:=tk}:=I.turned (fun b o hb e=>kk b o (by simpa using hb) e) f0 f1 f3 f4 f5
  refine⟨_,rfl,Ka (s:={s with heap:=h',toks:=tk}) (n:="range_iterator") st' rfl rfl (by decide) ⟨.int (lo+i),H,I1,⟨t,?_⟩,⟨rfl,rfl⟩,st',fun b hb=>(hf b hb).1⟩⟩
  rw[Int.mul_one]
 done:=by
  intro X hP hw hK hc i pins s σ H E I hf st hg;subst hP hw hK;obtain⟨f0,f1,f2,f3,f4,f5⟩:=hf it (by simp);exact wpAny_pyNext_range_end (I.ok.hd hc) st (by have:n<=i:=hg;omega) fun h' eb=>⟨rfl,I.turned (t':=s.toks) (fun b o hb e=>eb b o hb e) f0 f1 f3 f4 f5⟩
 self:=fun _ _ _ _ _ st h=>wpAny_pyIter_rangeiter st h
section
variable {X:Cx}{tg:Expr}
def X8(K:Za)(tl:TE):TI:=fun σ H R=>tl σ H fun x H1=>∃a,x=.ref a/\(∃xs,SqL K H1 a xs)/\R (Itl K a) H1
def iTup(K:Za)(tl:TE):TI:=fun σ H R=>tl σ H fun x H1=>∃a,x=.ref a/\(∃xs,SqT K H1 a xs)/\R (Itt K a) H1
def BG{l:Expr}{tl:TE}(hl:PE X l tl):PI X tg l (X8 X.K tl):=by
 intro pins s σ H R I h;refine thn (hl pins s σ H _ I h) fun v s1 ⟨x,H1,I1,r1,q1⟩=>?_;obtain⟨a,e,⟨xs,hq⟩,q⟩:=q1;subst e;cases r1
 obtain⟨its,rv,p,hz⟩:=I1.list hq;refine wpAny_pyIter_list p.isList ?_;refine⟨s1.heap.objs.size,[s1.heap.objs.size],_,_,H1,rfl,I1.kept (t':=s1.toks) fun b o e=>ZF _ e,Ct a _,⟨_,ZN _ rfl,rfl,rfl⟩,fun b hb=>?_,q⟩;have e:b=s1.heap.objs.size:=by simpa using hb
 subst e;exact I1.fpOk (ZG _) (I1.hok.fresh (ZG _))
def Dt{l:Expr}{tl:TE}(hl:PE X l tl):PI X tg l (iTup X.K tl):=by
 intro pins s σ H R I h;refine thn (hl pins s σ H _ I h) fun v s1 ⟨x,H1,I1,r1,q1⟩=>?_;obtain⟨a,e,⟨xs,hq⟩,q⟩:=q1;subst e;cases r1
 obtain⟨its,rv,p,hz⟩:=I1.tuple hq;refine wpAny_pyIter_tuple (show s1.heap.IsTuple a its.toArray from p) ?_
 refine⟨s1.heap.objs.size,[s1.heap.objs.size],_,_,H1,rfl,I1.kept (t':=s1.toks) fun b o e=>ZF _ e,Ih a _,⟨_,ZN _ rfl,rfl,rfl⟩,fun b hb=>?_,q⟩;have e:b=s1.heap.objs.size:=by simpa using hb
 subst e;exact I1.fpOk (ZG _) (I1.hok.fresh (ZG _))
def NR{pins:List (Addr×Obj)}{σ:St}{H:Hp}{s:Shared}{R:It->Hp->Prop}{E:Value->Shared->Prop}{lo hi:Int}{t u v:Tok}{tk:Nat}(I:Inv X pins σ H s)(h1:-(2 ^ 62)<=lo)(h2:lo<2 ^ 62)(h3:-(2 ^ 62)<=hi)(h4:hi<2 ^ 62)(q:R (Itr lo (hi-lo).toNat) H):wpAny (model X.prog X.w) X.A (pyIter (.ref s.heap.objs.size)) (PIE X pins σ tg R) E {s with heap:=s.heap.push {cls:=.type "range",data:=.fields #[.int lo t,.int hi u,.int 1 v]},toks:=tk}:=by
 refine wpAny_pyIter_range (IsRange.new ..) (small_one h1 h2 h3 h4) ?_;have I1:Inv X pins σ H {s with heap:=s.heap.push {cls:=.type "range",data:=.fields #[.int lo t,.int hi u,.int 1 v]},toks:=tk}:=I.kept fun b o e=>ZF _ e
 refine⟨(s.heap.push {cls:=.type "range",data:=.fields #[.int lo t,.int hi u,.int 1 v]}).objs.size,[(s.heap.push {cls:=.type "range",data:=.fields #[.int lo t,.int hi u,.int 1 v]}).objs.size],_,_,H,rfl,
  I1.kept (t':=tk) fun b o e=>ZF _ e,Du _ lo (hi-lo).toNat,?_,fun b hb=>?_,q⟩
 ·have e1:lo+((0:Nat):Int)*1=lo:=by simp
  have e2:(((hi-lo).toNat:Nat):Int)-((0:Nat):Int)=Builtin.Range.rangeSize lo hi 1:=by rw[rangeSize_one];split<;>omega
  show IsRangeIter _ _ (lo+((0:Nat):Int)*1) ((((hi-lo).toNat:Nat):Int)-((0:Nat):Int)) 1;rw[e1,e2];exact ZN _ rfl
 ·have e:b=(s.heap.push {cls:=.type "range",data:=.fields #[.int lo t,.int hi u,.int 1 v]}).objs.size:=by simpa using hb
  subst e;exact I1.fpOk (ZG _) (I1.hok.fresh (ZG _))
def Tz(ta:TA):TI:=fun σ H R=>ta σ H fun vs H1=>∃j:Int,vs=[.int j]/\-(2 ^ 62)<=j/\j<2 ^ 62/\R (Itr 0 j.toNat) H1
def TM(ta:TA):TI:=fun σ H R=>ta σ H fun vs H1=>∃i j:Int,vs=[.int i,.int j]/\(-(2 ^ 62)<=i/\i<2 ^ 62/\-(2 ^ 62)<=j/\j<2 ^ 62)/\R (Itr i (j-i).toNat) H1
def J7{a:Expr}{ta:TA}{p pos:Pos}(hg:Gl X "range")(hm:X.mg "range"=none)(ha:PA X [a] ta)(hs:starEach [a] X.env=[(false,eval a X.env)]:=by rfl):PI X tg (.Call (.Name "range" p) [a] [] pos) (Tz ta):=by
 intro pins s σ H R I h;refine Call_ (UB I hg hm boot_range (Wb (thn (ha pos pins s σ H _ I h) fun us s1 ⟨vs,H1,I1,r1,q1⟩=>?_) hs rfl));obtain⟨j,e,q1,q2,q⟩:=q1;subst e;cases r1 with
 |cons r rr=>
  cases rr
  obtain⟨t,rfl⟩:=r;exact call_range_1 (NR I1 (by omega) (by omega) q1 q2 (by simpa using q))
def Fi{a b:Expr}{ta:TA}{p pos:Pos}(hg:Gl X "range")(hm:X.mg "range"=none)(ha:PA X [a,b] ta)(hs:starEach [a,b] X.env=[(false,eval a X.env),(false,eval b X.env)]:=by rfl)(hs2:starEach [b] X.env=[(false,eval b X.env)]:=by rfl) :
  PI X tg (.Call (.Name "range" p) [a,b] [] pos) (TM ta):=by
 intro pins s σ H R I h;refine Call_ (UB I hg hm boot_range (Wb (thn (ha pos pins s σ H _ I h) fun us s1 ⟨vs,H1,I1,r1,q1⟩=>?_) (by rw[hs,hs2]) (by rw[hs2];rfl)));obtain⟨i,j,e,⟨q1,q2,q3,q4⟩,q⟩:=q1;subst e;cases r1 with
 |cons r rr=>
  cases rr with
  |cons r' rr=>
   cases rr
   obtain⟨t,rfl⟩:=r;obtain⟨t',rfl⟩:=r';exact call_range_2 (NR I1 q1 q2 q3 q4 q)
def tFor(wi:TI)(g:TG)(tb:TS):TS:=fun D σ H=>wi σ H fun J H1=>∃W:Nat->Nat->St->Hp->Prop,(∃m,W 0 m σ H1)/\∀i m σ H,W i m σ H->
 (J.stop i H/\D.nx σ H)\/(J.go i H/\∃N:St->Hp->Prop,(∀σ' H',N σ' H'->∃m',m'<m/\W (i+1) m' σ' H')/\∀x H',J.yld i H x H'->g x σ H' fun σ2 H2=>tb {D with nx:=N,ct:=N,bk:=D.nx} σ2 H2)
def Xd(fp:List Addr)(h:Heap):List (Addr×Obj):=fp.filterMap fun b=>(h.get? b).map fun o=>(b,o)
def X9{fp:List Addr}{h:Heap}{b:Addr}{o:Obj}(hb:b∈fp)(e:h.get? b=some o):(b,o)∈Xd fp h:=Q2.mpr ⟨b,hb,by rw[e];rfl⟩
def Eu{fp:List Addr}{h:Heap}{p:Addr×Obj}(hp:p∈Xd fp h):p.1∈fp/\h.get? p.1=some p.2:=by
 obtain⟨b,hb,e⟩:=Q2.mp hp;cases q:h.get? b with
 |none=>rw[q]at e;cases e
 |some o=>
  rw[q]at e;have e':(b,o)=p:=ZL e;subst e';exact⟨hb,q⟩
def Inv.pinned {pins:List (Addr×Obj)}{σ:St}{H:Hp}{s:Shared}{fp:List Addr} (I:Inv X pins σ H s) (hf:∀b∈fp,FpOk X pins H b) (ho:∀b∈fp,∃o,s.heap.get? b=some o/\∀v,o.data≠.cell v):Inv X (pins++Xd fp s.heap) σ H s:=
 I.pins_of fun p hp=>(ZY.mp hp).elim (fun z=>I.pin p (Yk _ z)) fun z=>by
  obtain⟨hb,e⟩:=Eu z;obtain⟨f0,f1,f2,_⟩:=hf p.1 hb;obtain⟨o,e',d⟩:=ho p.1 hb;rw[e]at e';cases e';exact⟨e,f0,f1,f2,d⟩
def Inv.unpinned {pins pl:List (Addr×Obj)}{σ:St}{H:Hp}{s:Shared} (I:Inv X (pins++pl) σ H s):Inv X pins σ H s:=I.pins_of fun p hp=>I.pin p (Yk _ (Wl _ hp))
def VP{iter:Expr}{body:List Stmt}{wi:TI}{g:TG}{tb:TS}{pos:Pos}(hp:PassesOwn (model X.prog X.w) X.A X.env X.xe)(hc:X.calm=true)(hi:PI X tg iter wi)(hg:PG X tg g)(hb:PSs X body tb)(hs:∀x,foldedSetIterable iter X.env x=pure x:=by intro _;rfl):PS X (.For tg iter body [] pos) (tFor wi g tb):=by
 intro pins s σ H D I h;refine wpAny_For (thn (hi pins s σ H _ I h) fun v s1 h1=>thn h1 fun itv s2 h2=>?_) hs;obtain⟨it,fp,tn,J,H2,e,I2,T,st2,f2,W,⟨m0,w0⟩,turn⟩:=h2;subst e;have stat:∀{H':Hp},(∀b∈fp,H' b=none)->∀b∈fp,FpOk X pins H' b:=fun hn b hb=>⟨hn b hb,(f2 b hb).2⟩;refine codeAny_forLoop_any (fun n s'=>∃i σ' H',Inv X pins σ' H' s'/\tn i s'.heap/\(∀b∈fp,H' b=none)/\W i n σ' H') ?_ m0 ⟨0,σ,H2,I2,st2,fun b hb=>(f2 b hb).1,w0⟩;rintro n s3 ⟨i,σ3,H3,I3,st3,fr3,w3⟩;rcases turn i n σ3 H3 w3 with⟨stop,qn⟩|⟨go,N,hN,step⟩
 ·refine We hp (thn (T.done X rfl rfl rfl hc i pins s3 σ3 H3 X.xe I3 (stat fr3) st3 stop) fun r s4 ⟨hr,I4⟩=>?_);subst hr;exact Qn ⟨σ3,H3,I4,qn⟩
 ·refine We hp (thn (T.item X rfl rfl rfl hc i pins s3 σ3 H3 X.xe I3 (stat fr3) st3 go) fun r s4 ⟨u,hr,h4⟩=>?_);subst hr;refine We hp (thn h4 fun _ s5 ⟨x,H5,I5,r5,y5,st5,fr5⟩=>?_);have I5':=I5.pinned (stat fr5) (T.obj _ _ st5);refine We hp (thn (hg _ s5 σ3 H5 x u _ I5' r5 (step x H5 y5)) fun _ s6 ⟨σ6,H6,I6,q6⟩=>?_);refine We hp (thn (hb _ s6 σ6 H6 _ I6 q6) fun f s7 q7=>?_)
  have again:∀{σ7:St} {H7:Hp},Inv X (pins++Xd fp s5.heap) σ7 H7 s7->N σ7 H7->∃m,m<n/\∃i σ' H',Inv X pins σ' H' s7/\tn i s7.heap/\(∀b∈fp,H' b=none)/\W i m σ' H':=fun {σ7 H7} I7 n7=>by
   obtain⟨m',hm,w7⟩:=hN σ7 H7 n7;refine⟨m',hm,i+1,σ7,H7,I7.unpinned,T.keep _ _ _ st5 fun b hb o e=>(I7.pin (b,o) (Yk _ (Yk _ (X9 hb e)))).1,fun b hb=>?_,w7⟩;obtain⟨o,e,d⟩:=T.obj _ _ st5 b hb;exact(I7.pin (b,o) (Yk _ (Yk _ (X9 hb e)))).2.1
  cases f with
  |next=>obtain⟨σ7,H7,I7,n7⟩:=q7;exact again I7 n7
  |cont=>obtain⟨σ7,H7,I7,n7⟩:=q7;exact again I7 n7
  |brk=>obtain⟨σ7,H7,I7,q7⟩:=q7;exact⟨σ7,H7,I7.unpinned,q7⟩
  |ret v=>obtain⟨x7,σ7,H7,I7,r7,q7⟩:=q7;exact⟨x7,σ7,H7,I7.unpinned,r7,q7⟩
end
abbrev R2:=V->V->Hp->VK->Prop
def OpR(X:Cx)(f:Value->Value->Sem Value)(r:R2):Prop:=
 ∀(pins:List (Addr×Obj)) (s:Shared) (σ:St) (H:Hp) (x y:V) (v u:Value) (Q:VK),Inv X pins σ H s->RelV x v->RelV y u->r x y H Q->
  wpAny (model X.prog X.w) X.A (f v u) (EP X pins σ Q) X.xe s
def UnR(X:Cx)(f:Value->Sem Value)(r:V->Hp->VK->Prop):Prop:=
 ∀(pins:List (Addr×Obj)) (s:Shared) (σ:St) (H:Hp) (x:V) (v:Value) (Q:VK),Inv X pins σ H s->RelV x v->r x H Q->
  wpAny (model X.prog X.w) X.A (f v) (EP X pins σ Q) X.xe s
def VN(X:Cx)(f:Value)(r:List V->Hp->VK->Prop):Prop:=
 ∀(pins:List (Addr×Obj)) (s:Shared) (σ:St) (H:Hp) (xs:List V) (us:List Value) (Q:VK),Inv X pins σ H s->Vals xs us->r xs H Q->
  wpAny (model X.prog X.w) X.A (call f us) (EP X pins σ Q) X.xe s
def TruR(X:Cx)(r:V->Hp->(Bool->Hp->Prop)->Prop):Prop:=
 ∀(pins:List (Addr×Obj)) (s:Shared) (σ:St) (H:Hp) (x:V) (v:Value) (Q:Bool->Hp->Prop),Inv X pins σ H s->RelV x v->r x H Q->
  wpAny (model X.prog X.w) X.A (truthy v) (TP X pins σ Q) X.xe s
def tOp(r:R2)(ta tb:TE):TE:=fun σ H Q=>ta σ H fun x H1=>tb σ H1 fun y H2=>r x y H2 Q
def tUn(r:V->Hp->VK->Prop)(ta:TE):TE:=fun σ H Q=>ta σ H fun x H1=>r x H1 Q
def rI(C:Int->Int->Prop)(g:Int->Int->V):R2:=fun x y H Q=>∃i j,x=.int i/\y=.int j/\C i j/\Q (g i j) H
def rI0(g:Int->Int->V):R2:=fun x y H Q=>∃i j,x=.int i/\y=.int j/\Q (g i j) H
def rU(g:Int->V):V->Hp->VK->Prop:=fun x H Q=>∃i,x=.int i/\Q (g i) H
section
variable {X:Cx}{a b c:Expr}{ta tb tc:TE}{pos:Pos}
def binT(ha:PE X a ta)(hb:PE X b tb){pins:List (Addr×Obj)}{s:Shared}{σ:St}{H:Hp}{R:V->V->Hp->Prop}(I:Inv X pins σ H s)(h:ta σ H fun x H1=>tb σ H1 fun y H2=>R x y H2){Q:Value->Shared->Prop}{f:Value->Value->Sem Value}(hf:∀v u s2 x y H2,Inv X pins σ H2 s2->RelV x v->RelV y u->R x y H2->wpAny (model X.prog X.w) X.A (f v u) Q X.xe s2) :
  wpAny (model X.prog X.w) X.A (eval a X.env) (fun v s₁=>wpAny (model X.prog X.w) X.A (eval b X.env) (fun u s₂=>wpAny (model X.prog X.w) X.A (f v u) Q X.xe s₂) X.xe s₁) X.xe s:=by
 refine thn (ha pins s σ H _ I h) fun v s1 ⟨x,H1,I1,r1,q1⟩=>?_;refine thn (hb pins s1 σ H1 _ I1 q1) fun u s2 ⟨y,H2,I2,r2,q2⟩=>?_;exact hf v u s2 x y H2 I2 r1 r2 q2
def Vf{op:Operator}{r:R2}(ho:OpR X (binaryOp op) r)(ha:PE X a ta)(hb:PE X b tb):PE X (.BinOp a op b pos) (tOp r ta tb):=by
 intro pins s σ H Q I h;exact wpAny_BinOp (binT ha hb I h fun v u s2 x y H2 I2 rx ry q=>ho pins s2 σ H2 x y v u Q I2 rx ry q)
def KL{op:UnaryOp}{r:V->Hp->VK->Prop}(ho:UnR X (unaryOp op) r)(ha:PE X a ta):PE X (.UnaryOp op a pos) (tUn r ta):=by
 intro pins s σ H Q I h;exact UnaryOp_ (thn (ha pins s σ H _ I h) fun v s1 ⟨x,H1,I1,r1,q1⟩=>ho pins s1 σ H1 x v Q I1 r1 q1)
def opI{f:Value->Value->Sem Value}{C:Int->Int->Prop}{g:Int->Int->Int}(rule:∀(i j:Int) (t u:Tok) (s:Shared) (Q:Value->Shared->Prop) (E:Value->Shared->Prop),C i j->Q (.int (g i j) s.toks) {s with toks:=s.toks+1}->wpAny (model X.prog X.w) X.A (f (.int i t) (.int j u)) Q E s) :
  OpR X f (rI C fun i j=>.int (g i j)):=by
 intro pins s σ H x y v u Q I rx ry h;obtain⟨i,j,rfl,rfl,hc,q⟩:=h;obtain⟨t,rfl⟩:=rx;obtain⟨t',rfl⟩:=ry;exact rule i j t t' s _ _ hc ⟨.int (g i j),H,I.tok _,⟨_,rfl⟩,q⟩
def opI0{f:Value->Value->Sem Value}{g:Int->Int->Int}(rule:∀(i j:Int) (t u:Tok) (s:Shared) (Q:Value->Shared->Prop) (E:Value->Shared->Prop),Q (.int (g i j) s.toks) {s with toks:=s.toks+1}->wpAny (model X.prog X.w) X.A (f (.int i t) (.int j u)) Q E s) :
  OpR X f (rI0 fun i j=>.int (g i j)):=by
 intro pins s σ H x y v u Q I rx ry h;obtain⟨i,j,rfl,rfl,q⟩:=h;obtain⟨t,rfl⟩:=rx;obtain⟨t',rfl⟩:=ry;exact rule i j t t' s _ _ ⟨.int (g i j),H,I.tok _,⟨_,rfl⟩,q⟩
def opB0{f:Value->Value->Sem Value}{g:Int->Int->Bool}(rule:∀(i j:Int) (t u:Tok) (s:Shared) (Q:Value->Shared->Prop) (E:Value->Shared->Prop),Q (.bool (g i j)) s->wpAny (model X.prog X.w) X.A (f (.int i t) (.int j u)) Q E s) :
  OpR X f (rI0 fun i j=>.bl (g i j)):=by
 intro pins s σ H x y v u Q I rx ry h;obtain⟨i,j,rfl,rfl,q⟩:=h;obtain⟨t,rfl⟩:=rx;obtain⟨t',rfl⟩:=ry;exact rule i j t t' s _ _ ⟨.bl (g i j),H,I,rfl,q⟩
def CDiv(i j:Int):Prop:=0<j/\j<1073741824
def CMul(i j:Int):Prop:=(-(2 ^ 64)<i/\i<2 ^ 64)\/(-(2 ^ 64)<j/\j<2 ^ 64)
def CMul.ok {i j:Int} (h:CMul i j):IntMulOk i j:=by
 rcases h with⟨h1,h2⟩|⟨h1,h2⟩
 ·exact .of_left (intBits_le_64 h1 h2)
 ·exact .of_right (intBits_le_64 h1 h2)
def V5:OpR X (binaryOp .Add) (rI0 fun i j=>.int (i+j)):=opI0 fun _ _ _ _ _ _ _ q=>add_int q
def JB:OpR X (binaryOp .Sub) (rI0 fun i j=>.int (i-j)):=opI0 fun _ _ _ _ _ _ _ q=>sub_int q
def Uc:OpR X (binaryOp .Mult) (rI CMul fun i j=>.int (i*j)):=opI fun _ _ _ _ _ _ _ hc q=>mul_int q hc.ok
def Ju:OpR X (binaryOp .FloorDiv) (rI CDiv fun i j=>.int (i / j)):=opI fun i j _ _ _ _ _ hc q=>by
 have h1:(0:Int)<j:=hc.1;have h2:j<1073741824:=hc.2;exact floordiv_int (by omega) (by rw[Int.fdiv_eq_ediv_of_nonneg i (by omega)];exact q) (.inl (PyProof.noPylong_small (by omega)))
def VD:OpR X (binaryOp .Mod) (rI (fun _ j=>0<j) fun i j=>.int (i % j)):=opI fun i j _ _ _ _ _ hc q=>by
 have h1:(0:Int)<j:=hc;exact mod_int' (by omega) (by rw[Int.fmod_eq_emod_of_nonneg i (by omega)];exact q)
def unI{f:Value->Sem Value}{g:Int->Int}(rule:∀(i:Int) (t:Tok) (s:Shared) (Q:Value->Shared->Prop) (E:Value->Shared->Prop),Q (.int (g i) s.toks) {s with toks:=s.toks+1}->wpAny (model X.prog X.w) X.A (f (.int i t)) Q E s) :
  UnR X f (rU fun i=>.int (g i)):=by
 intro pins s σ H x v Q I rx h;obtain⟨i,rfl,q⟩:=h;obtain⟨t,rfl⟩:=rx;exact rule i t s _ _ ⟨.int (g i),H,I.tok _,⟨_,rfl⟩,q⟩
def PK:UnR X (unaryOp .USub) (rU fun i=>.int (-i)):=unI fun _ _ _ _ _ q=>neg_int q
end
def scal:V->V->Bool
 | .non,.non=>true | .non,.int _=>true | .int _,.non=>true | .non,.bl _=>true | .bl _,.non=>true | .non,.str _=>true | .str _,.non=>true
 | .int _,.int _=>true | .bl _,.bl _=>true | .str _,.str _=>true | .byt _,.byt _=>true
 | .int _,.str _=>true | .str _,.int _=>true | .bl _,.str _=>true | .str _,.bl _=>true
 |_,_=>false
def rEq:R2:=fun x y H Q=>scal x y=true/\Q (.bl (decide (x=y))) H
def rNe:R2:=fun x y H Q=>scal x y=true/\Q (.bl (!decide (x=y))) H
def Tq{i j:Int}:decide (V.int i=V.int j)=(i==j):=by
 rw[Qp];simp
def Tw{i j:Bool}:decide (V.bl i=V.bl j)=(i==j):=by
 rw[Qp];simp
def Np{i j:Str}:decide (V.str i=V.str j)=(i==j):=by
 rw[Qp];simp
def TX{i j:Array UInt8}:decide (V.byt i=V.byt j)=(i.toList==j.toList):=by
 rw[Qp];cases i
 cases j
 simp
section
variable {X:Cx}{a b c:Expr}{ta tb tc:TE}{pos:Pos}
def Vu{pins:List (Addr×Obj)}{σ:St}{H:Hp}{s:Shared}{Q:VK}{k k':Bool}(I:Inv X pins σ H s)(q:Q (.bl k) H)(e:k=k'):EP X pins σ Q (.bool k') s:=by
 subst e;exact⟨.bl k,H,I,rfl,q⟩
def op_eq:OpR X (compareOp .Eq) rEq:=by
 intro pins s σ H x y v u Q I rx ry h;obtain⟨hs,q⟩:=h;cases x with
 |non=>
  cases rx
  cases y with
  |non=>cases ry;exact PySem.EqNone.eq_none_none (Vu I q (by simp))
  |bl j=>cases ry;exact PySem.EqNone.eq_none_bool (Vu I q (by simp))
  |int j=>obtain⟨t',rfl⟩:=ry;exact PySem.EqNone.eq_none_int (Vu I q (by simp))
  |str j=>obtain⟨t',rfl⟩:=ry;exact PySem.EqNone.eq_none_str (Vu I q (by simp))
  |_=>exact absurd (show false=true from hs) ZO
 |bl i=>
  cases rx
  cases y with
  |non=>cases ry;exact PySem.EqNone.eq_bool_none (Vu I q (by simp))
  |bl j=>cases ry;exact eq_bool (Vu I q Tw)
  |str j=>obtain⟨t',rfl⟩:=ry;exact PySem.EqMixed.eq_bool_str (Vu I q (by simp))
  |_=>exact absurd (show false=true from hs) ZO
 |int i=>
  obtain⟨t,rfl⟩:=rx;cases y with
  |non=>cases ry;exact PySem.EqNone.eq_int_none (Vu I q (by simp))
  |int j=>obtain⟨t',rfl⟩:=ry;exact eq_int (Vu I q Tq)
  |str j=>obtain⟨t',rfl⟩:=ry;exact PySem.EqMixed.eq_int_str (Vu I q (by simp))
  |_=>exact absurd (show false=true from hs) ZO
 |str i=>
  obtain⟨t,rfl⟩:=rx;cases y with
  |non=>cases ry;exact PySem.EqNone.eq_str_none (Vu I q (by simp))
  |bl j=>cases ry;exact PySem.EqMixed.eq_str_bool (Vu I q (by simp))
  |int j=>obtain⟨t',rfl⟩:=ry;exact PySem.EqMixed.eq_str_int (Vu I q (by simp))
  |str j=>obtain⟨t',rfl⟩:=ry;exact eq_str (Vu I q Np)
  |_=>exact absurd (show false=true from hs) ZO
 |byt i=>
  obtain⟨t,rfl⟩:=rx;cases y with
  |byt j=>obtain⟨t',rfl⟩:=ry;exact PySem.W.eq_bytes (Vu I q TX)
  |_=>exact absurd (show false=true from hs) ZO
 |_=>cases y<;>exact absurd (show false=true from hs) ZO
def op_ne:OpR X (compareOp .NotEq) rNe:=by
 intro pins s σ H x y v u Q I rx ry h;obtain⟨hs,q⟩:=h;cases x with
 |non=>
  cases rx
  cases y with
  |non=>cases ry;exact PySem.EqNone.ne_none_none (Vu I q (by simp))
  |bl j=>cases ry;exact PySem.EqNone.ne_none_bool (Vu I q (by simp))
  |int j=>obtain⟨t',rfl⟩:=ry;exact PySem.EqNone.ne_none_int (Vu I q (by simp))
  |str j=>obtain⟨t',rfl⟩:=ry;exact PySem.EqNone.ne_none_str (Vu I q (by simp))
  |_=>exact absurd (show false=true from hs) ZO
 |bl i=>
  cases rx
  cases y with
  |non=>cases ry;exact PySem.EqNone.ne_bool_none (Vu I q (by simp))
  |bl j=>cases ry;exact ne_bool (Vu I q (Y1 not Tw))
  |str j=>obtain⟨t',rfl⟩:=ry;exact PySem.EqMixed.ne_bool_str (Vu I q (by simp))
  |_=>exact absurd (show false=true from hs) ZO
 |int i=>
  obtain⟨t,rfl⟩:=rx;cases y with
  |non=>cases ry;exact PySem.EqNone.ne_int_none (Vu I q (by simp))
  |int j=>obtain⟨t',rfl⟩:=ry;exact ne_int (Vu I q (Y1 not Tq))
  |str j=>obtain⟨t',rfl⟩:=ry;exact PySem.EqMixed.ne_int_str (Vu I q (by simp))
  |_=>exact absurd (show false=true from hs) ZO
 |str i=>
  obtain⟨t,rfl⟩:=rx;cases y with
  |non=>cases ry;exact PySem.EqNone.ne_str_none (Vu I q (by simp))
  |bl j=>cases ry;exact PySem.EqMixed.ne_str_bool (Vu I q (by simp))
  |int j=>obtain⟨t',rfl⟩:=ry;exact PySem.EqMixed.ne_str_int (Vu I q (by simp))
  |str j=>obtain⟨t',rfl⟩:=ry;exact ne_str (Vu I q (Y1 not Np))
  |_=>exact absurd (show false=true from hs) ZO
 |byt i=>
  obtain⟨t,rfl⟩:=rx;cases y with
  |byt j=>obtain⟨t',rfl⟩:=ry;exact PySem.W.ne_bytes (Vu I q (Y1 not TX))
  |_=>exact absurd (show false=true from hs) ZO
 |_=>cases y<;>exact absurd (show false=true from hs) ZO
def Us:OpR X (compareOp .Lt) (rI0 fun i j=>.bl (decide (i<j))):=opB0 fun _ _ _ _ _ _ _ q=>lt_int q
def U0:OpR X (compareOp .Gt) (rI0 fun i j=>.bl (decide (j<i))):=opB0 fun _ _ _ _ _ _ _ q=>gt_int q
def OpR.or {f:Value->Value->Sem Value}{r r':R2} (h:OpR X f r) (h':OpR X f r'):OpR X f (fun x y H Q=>r x y H Q\/r' x y H Q):=by
 intro pins s σ H x y v u Q I rx ry q;rcases q with q|q
 ·exact h pins s σ H x y v u Q I rx ry q
 ·exact h' pins s σ H x y v u Q I rx ry q
def VF(b:Expr){op:CmpOp}(h:op≠.In:=by decide)(h2:op≠.NotIn:=by decide):behindInMarks op b=false:=by
 have e1:(op==CmpOp.In)=false:=by cases op<;>first|rfl|exact absurd rfl h
 have e2:(op==CmpOp.NotIn)=false:=by cases op<;>first|rfl|exact absurd rfl h2
 cases b<;>simp[behindInMarks,e1,e2]
def UN{op:CmpOp}{r:R2}(ho:OpR X (compareOp op) r)(ha:PE X a ta)(hb:PE X b tb)(hm:behindInMarks op b=false):PE X (.Compare a [op] [b] pos) (tOp r ta tb):=by
 intro pins s σ H Q I h;exact wpAny_Compare1 (binT ha hb I h fun v u s2 x y H2 I2 rx ry q=>ho pins s2 σ H2 x y v u Q I2 rx ry q) hm
def Kb(t:TE):TT:=fun σ H Q=>t σ H fun x H'=>∃k,x=.bl k/\Q k H'
def Vv{op:CmpOp}{r:R2}(ho:OpR X (compareOp op) r)(ha:PE X a ta)(hb:PE X b tb)(hm:behindInMarks op b=false):PT X (.Compare a [op] [b] pos) (Kb (tOp r ta tb)):=by
 intro pins s σ H Q I h
 refine wpAny_isTrue_Compare1 (thn (ha pins s σ H _ I h) fun v s1 ⟨x,H1,I1,r1,q1⟩=>thn (hb pins s1 σ H1 _ I1 q1) fun u s2 ⟨y,H2,I2,r2,q2⟩=>
  thn (ho pins s2 σ H2 x y v u _ I2 r1 r2 q2) fun c s3 ⟨z,H3,I3,r3,k,e,q3⟩=>?_) hm
 subst e;cases r3
 exact Wi ⟨H3,I3,q3⟩
def TruV(K:Za)(x:V)(H:Hp)(k:Bool):Prop:=
 match x with
 | .non=>k=false
 | .bl b=>k=b
 | .int i=>k=(i != 0)
 | .str y=>y.length<=sizeLine/\k=((y.length:Int) != 0)
 | .byt y=>y.size<=sizeLine/\k=((y.size:Int) != 0)
 | .ref p=>(∃xs,SqL K H p xs/\k=!xs.isEmpty)\/(∃xs,SqT K H p xs/\k=!xs.isEmpty)\/∃kvs,H p=some (.dK kvs)/\k=!kvs.isEmpty
 |_=>False
def Di{κ:Type}{kvs:List (κ×V)}{vs:List (κ×Value)}(r:KV kvs vs):(!vs.isEmpty)=!kvs.isEmpty:=by
 cases r<;>rfl
def BI{xs:List V}{its:List Value}(r:Vals xs its):(!its.toArray.isEmpty)=!xs.isEmpty:=by
 cases r<;>simp
def XT:(sizeLine:Nat)<2 ^ 63:=by rw[sizeLine_eq];decide
def TH:TruR X (fun x H Q=>∃k,TruV X.K x H k/\Q k H):=by
 intro pins s σ H x v Q I rx h;obtain⟨k,e,q⟩:=h;have hl:=XT;have hs:sizeLine=16777216:=sizeLine_eq;cases x with
 |non=>
  cases rx
  have e':k=false:=e;subst e';exact truthy_none ⟨H,I,q⟩
 |bl b=>
  cases rx
  have e':k=b:=e;subst e';exact Wi ⟨H,I,q⟩
 |int i=>
  obtain⟨t,rfl⟩:=rx;have e':k=(i != 0):=e;subst e';exact PySem.P.truthy_int ⟨H,I,q⟩
 |str y=>
  obtain⟨t,rfl⟩:=rx;obtain⟨hy,e'⟩:y.length<=sizeLine/\k=((y.length:Int) != 0):=e;subst e';exact PySem.P.truthy_str (by omega) ⟨H,I.tok _,q⟩
 |byt y=>
  obtain⟨t,rfl⟩:=rx;obtain⟨hy,e'⟩:y.size<=sizeLine/\k=((y.size:Int) != 0):=e;subst e';exact PySem.W.truthy_bytes (by omega) ⟨H,I.tok _,q⟩
 |ref p=>
  cases rx
  have e':(∃xs,SqL X.K H p xs/\k=!xs.isEmpty)\/(∃xs,SqT X.K H p xs/\k=!xs.isEmpty)\/∃kvs,H p=some (.dK kvs)/\k=!kvs.isEmpty:=e;rcases e' with⟨xs,hx,e'⟩|⟨xs,hx,e'⟩|⟨kvs,hx,e'⟩
  ·subst e';obtain⟨its,r,pl,hz⟩:=I.list hx;have hlen:=r.length;exact wpAny_truthy_list pl.isList (by simp only[ZP];omega) ⟨H,I.tok _,by rw[BI r];exact q⟩
  ·subst e';obtain⟨its,r,pl,hz⟩:=I.tuple hx;have hlen:=r.length;exact truthy_tuple pl (by simp only[ZP];omega) ⟨H,I.tok _,by rw[BI r];exact q⟩
  ·subst e';obtain⟨hz,hS,vs,r,m⟩:kvs.length<=sizeLine/\(p==sysModules)=false/\∃vs,KV kvs vs/\s.heap.DictOf (Jb X.prog X.w) p vs:=I.hok p _ hx;have hlen:kvs.length=vs.length:=Paired.length r;exact wpAny_truthy_dict hS m (by omega) ⟨H,I.tok _,by rw[Di r];exact q⟩
 |_=>exact(show False from e).elim
def Ds(ha:PE X a ta)(he:∀whole,isTrue a X.env whole=(do let v ←whole;standAt a.pos;holding [v] (truthy v))) :
  PT X a (fun σ H Q=>ta σ H fun x H'=>∃k,TruV X.K x H' k/\Q k H'):=by
 intro pins s σ H Q I h;exact isTrue_plain (thn (ha pins s σ H _ I h) fun v s1 ⟨x,H1,I1,r1,q1⟩=>TH pins s1 σ H1 x v Q I1 r1 q1) (he _)
def vals1{x:V}{us:List Value}(r:Vals [x] us):∃u,us=[u]/\RelV x u:=by
 cases r with
 |cons r1 r2=>cases r2;exact⟨_,rfl,r1⟩
def vals2{x y:V}{us:List Value}(r:Vals [x,y] us):∃u w',us=[u,w']/\RelV x u/\RelV y w':=by
 cases r with
 |cons r1 r2=>
  cases r2 with
  |cons r3 r4=>cases r4;exact⟨_,_,rfl,r1,r3⟩
def Dk(hc:X.calm=true):VN X (.builtin "max") (fun xs H Q=>∃i j,xs=[.int i,.int j]/\Q (.int (if j>i then j else i)) H):=by
 intro pins s σ H xs us Q I r h;obtain⟨i,j,rfl,q⟩:=h;obtain⟨u,w',rfl,⟨t,rfl⟩,⟨t',rfl⟩⟩:=vals2 r;refine max_two_ints (I.ok.hd hc) fun h' tk k=>⟨_,H,I.kept k,?_,q⟩;by_cases hj:j>i
 ·rw[ZK hj,ZK hj];exact⟨_,rfl⟩
 ·rw[ZI hj,ZI hj];exact⟨_,rfl⟩
def LenV(K:Za)(x:V)(H:Hp)(n:Nat):Prop:=
 match x with
 | .str y=>y.length<=sizeLine/\n=y.length
 | .byt y=>y.size<=sizeLine/\n=y.size
 | .ref p=>(∃xs,SqL K H p xs/\n=xs.length)\/∃xs,SqT K H p xs/\n=xs.length
 |_=>False
def Aw:VN X (.builtin "len") (fun xs H Q=>∃x n,xs=[x]/\LenV X.K x H n/\Q (.int n) H):=by
 intro pins s σ H xs us Q I r h;obtain⟨x,n,rfl,e,q⟩:=h;obtain⟨u,rfl,rx⟩:=vals1 r;have hl:=XT;have hs:sizeLine=16777216:=sizeLine_eq;cases x with
 |str y=>
  obtain⟨t,rfl⟩:=rx;obtain⟨hy,e'⟩:y.length<=sizeLine/\n=y.length:=e;subst e';exact len_str (by omega) ⟨.int _,H,I.tok _,⟨_,rfl⟩,q⟩
 |byt y=>
  obtain⟨t,rfl⟩:=rx;obtain⟨hy,e'⟩:y.size<=sizeLine/\n=y.size:=e;subst e';exact PySem.W.len_bytes (by omega) ⟨.int _,H,I.tok _,⟨_,rfl⟩,q⟩
 |ref p=>
  cases rx
  have e':(∃xs,SqL X.K H p xs/\n=xs.length)\/∃xs,SqT X.K H p xs/\n=xs.length:=e;rcases e' with⟨xs,hx,e'⟩|⟨xs,hx,e'⟩
  ·subst e';obtain⟨its,r',pl,hz⟩:=I.list hx;have hlen:=r'.length;exact Calls.call_len_list pl.isList (by simp only[ZP];omega) ⟨.int xs.length,H,I.tok _,⟨_,by simp only[ZP];rw[hlen]⟩,q⟩
  ·subst e';obtain⟨its,r',pl,hz⟩:=I.tuple hx;have hlen:=r'.length;exact len_tuple pl (by simp only[ZP];omega) ⟨.int xs.length,H,I.tok _,⟨_,by simp only[ZP];rw[hlen]⟩,q⟩
 |_=>exact(show False from e).elim
end
structure ObjM (h:Heap) (x dx C:Addr) (mA:Str->Option Value):Prop where
 obj:h.get? x=some (PySem.W.instObj C dx)
 ns:h.Ns1 dx mA
 ne:dx≠x
def A2{h:Heap}{dx:Addr}{mA:Str->Option Value}(n:h.Ns1 dx mA):∃od,h.get? dx=some od/\∀name,PySem.W.lookIn name od=some (mA name):=by
 obtain⟨o,es,ep,ho,hd,hk,_,hm⟩:=n;refine⟨o,ho,fun name=>?_⟩;have e:=hm name;unfold nsFind findBy at e;rw[←Array.find?_toList]at e;unfold PySem.W.lookIn;rw[hd]
 dsimp only
 split
 ·rename_i y q;rw[q]at e;exact Y1 some e
 ·rename_i q;rw[q]at e
  have a:es.toList.any (·.refKey)=false:=by
   rw[List.any_eq_false];intro y hy;obtain⟨z,t,hkey⟩:=hk y (Array.mem_toList_iff.mp hy);simp[DictEntry.refKey,hkey]
  have a':¬es.toList.any (·.refKey)=true:=by rw[a];exact ZO
  rw[ZI a'];exact Y1 some e
def ObjM.look {h:Heap}{x dx C:Addr}{mA:Str->Option Value} (I:ObjM h x dx C mA):∃od,PySem.W.InstAt h x (PySem.W.instObj C dx) C (some od)/\∀name,PySem.W.lookIn name od=some (mA name):=
 let ⟨od,ho,hl⟩:=A2 I.ns
 ⟨od,⟨I.obj,rfl,rfl,ho⟩,hl⟩
def RelO.some_of {v:V}{o:Option Value} (r:RelO (some v) o):∃u,o=some u/\RelV v u:=by
 cases o with
 |none=>exact(show False from r).elim
 |some u=>exact⟨u,rfl,r⟩
section
variable {P:Program}{w:World}{H H':Hp}{h h':Heap}{a C dx:Addr}{fs fs':List (Str×V)}
def HP(hok:HOk P w H h)(e:H a=some (.ins C dx fs)):∃mA,ObjM h a dx C mA/\(∀f,RelO (fs.lookup f) (mA f))/\PySem.Within mA (fs.map (·.1))/\fs.length<=1000/\H dx=some (.own a):=by
 obtain⟨d,z,ne,ob,mA,n,r,q⟩:=(show ObjOk P w H h a (.ins C dx fs)from hok a _ e)
 exact⟨mA,⟨ob,n,ne⟩,r,q,z,d⟩
end
structure Cls (K:Za) (C:Addr):Prop where
 pg:PySem.W.plainGet K C Str.empty=true
 hd:PySem.W.hasDictIn K C=true
 po:PySem.W.plainOver K C=true
 sa:PySem.W.findIn K (.ref C) "__setattr__"=some (some (.builtin "object.__setattr__"))
def Cls.get {K:Za}{C:Addr} (c:Cls K C) (f:Str):PySem.W.plainGet K C f=true:=c.pg
section
variable {X:Cx}{pins:List (Addr×Obj)}{σ:St}{H:Hp}{s:Shared}{A:Around}{E:Value->Shared->Prop}{Q:Value->Shared->Prop}{c:Value}{b:Bool}
inductive TyOf (K:Za) (H:Hp):V->Value->Prop where
 |non:TyOf K H .non (.type "NoneType")
 |bl (x:Bool):TyOf K H (.bl x) (.type "bool")
 |int (i:Int):TyOf K H (.int i) (.type "int")
 |str (x:Str):TyOf K H (.str x) (.type "str")
 |flt (x:UInt64):TyOf K H (.flt x) (.type "float")
 |lst {a:Addr} {xs:List V} (e:H a=some (.lst xs)):TyOf K H (.ref a) (.type "list")
 |frz {a:Addr} {o:Obj} {xs:List V} (e:H a=some (.frz o (.lst xs))):TyOf K H (.ref a) (.type "list")
 |tup {a:Addr} {xs:List V} (e:H a=some (.tup xs)):TyOf K H (.ref a) (.type "tuple")
 |dK {a:Addr} {kvs:List (Key×V)} (e:H a=some (.dK kvs)):TyOf K H (.ref a) (.type "dict")
 |dT {a:Addr} {kvs:List (List Key×V)} (e:H a=some (.dT kvs)):TyOf K H (.ref a) (.type "dict")
 |ins {a C dx:Addr} {fs:List (Str×V)} (e:H a=some (.ins C dx fs)) (cl:Cls K C) (ha:PySem.W.findIn K (.ref C) "__class__"=some (some (.builtin "object.__class__")))
   (hn:PySem.W.specialIn K (.builtin "object.__class__") "__get__"=some (some (.builtin "getset_descriptor.__get__"))) (htk:PySem.W.takesIn K (.builtin "object.__class__")=some true)
   (hm:PySem.W.mroIn K C (.type "object")=some true):TyOf K H (.ref a) (.ref C)
def Hv{x:V}{u t:Value}(I:Inv X pins σ H s)(rx:RelV x u)(ty:TyOf X.K H x t)(e:PySem.W.kitOne X.K t c=some b)(h:∀tk,Q (.bool b) {s with toks:=tk}) :
  wpAny (model X.prog X.w) A (call (.builtin "isinstance") [u,c]) Q E s:=by
 cases ty with
 |non=>cases (show u=Value.none from rx);exact Y2 PySem.W.kitx_none I.kIn True.intro e (fun z=>nomatch z) h
 |bl y=>cases (show u=Value.bool y from rx);exact Y2 PySem.W.kitx_bool I.kIn True.intro e (fun z=>nomatch z) h
 |int i=>obtain⟨t,q⟩:=(show ∃t,u=Value.int i t from rx);cases q;exact Y2 PySem.W.kitx_int I.kIn True.intro e (fun z=>nomatch z) h
 |str y=>obtain⟨t,q⟩:=(show ∃t,u=Value.str y t from rx);cases q;exact Y2 PySem.W.kitx_str I.kIn True.intro e (fun z=>nomatch z) h
 |flt y=>obtain⟨t,q⟩:=(show ∃t,u=Value.float y t from rx);cases q;exact Y2 PySem.W.kitx_float I.kIn True.intro e (fun z=>nomatch z) h
 | @lst a xs ea=>
  cases (show u=Value.ref a from rx)
  obtain⟨_,_,n,_,h1⟩:=(show ObjOk X.prog X.w H s.heap a (.lst xs)from I.hok a _ ea)
  exact Y2 PySem.W.kitx_list I.kIn ⟨_,h1,rfl⟩ e (fun z=>nomatch z) h
 | @frz a ob xs ea=>
  cases (show u=Value.ref a from rx)
  obtain⟨_,_,_,n,_,h1⟩:=(show ObjOk X.prog X.w H s.heap a (.frz ob (.lst xs))from I.hok a _ ea)
  exact Y2 PySem.W.kitx_list I.kIn ⟨_,h1,rfl⟩ e (fun z=>nomatch z) h
 | @tup a xs ea=>
  cases (show u=Value.ref a from rx)
  obtain⟨_,_,_,p⟩:=(show ObjOk X.prog X.w H s.heap a (.tup xs)from I.hok a _ ea)
  obtain⟨o,h1,h2,_⟩:=p;exact Y2 PySem.W.kitx_tuple I.kIn ⟨o,h1,h2⟩ e (fun z=>nomatch z) h
 | @dK a kvs ea=>
  cases (show u=Value.ref a from rx)
  obtain⟨_,_,vs,_,p⟩:=(show ObjOk X.prog X.w H s.heap a (.dK kvs)from I.hok a _ ea)
  obtain⟨o,es,ep,h1,h2,_⟩:=p;exact Y2 PySem.W.kitx_dict I.kIn ⟨o,h1,h2.1⟩ e (fun z=>nomatch z) h
 | @dT a kvs ea=>
  cases (show u=Value.ref a from rx)
  obtain⟨_,_,xs,_,o,es,ep,h1,h2,_⟩:=(show ObjOk X.prog X.w H s.heap a (.dT kvs)from I.hok a _ ea)
  exact Y2 PySem.W.kitx_dict I.kIn ⟨o,h1,h2.1⟩ e (fun z=>nomatch z) h
 | @ins a C dx fs ea cl ha hn htk hm=>
  cases (show u=Value.ref a from rx)
  obtain⟨mA,O,_⟩:=HP I.hok ea;obtain⟨od,J,_⟩:=O.look;exact Y2 (PySem.W.kitx_own (cl.get _) cl.hd ha hn htk hm) I.kIn J e (fun z=>nomatch z) h
end
structure Room (k:Nat) (A:Around):Prop where
 hd:A.handled=none
 dp:A.depth+3*k+5<recursionLimit
 un:A.units+16*k+200<cLine
def Room.mono {j k:Nat}{A:Around} (r:Room k A) (h:j<=k):Room j A:=⟨r.hd,by have:=r.dp;omega,by have:=r.un;omega⟩
def Room.deeper {k:Nat}{A:Around} (r:Room (k+1) A) (env:Env):Room k (A.deeper env):=
 ⟨r.hd,by have:=r.dp;show A.depth+1+3*k+5<_;omega,by have:=r.un;show A.units+3+16*k+200<_;omega⟩
def Room.depth {k:Nat}{A:Around} (r:Room k A):A.depth<recursionLimit:=by have:=r.dp;omega
def Room.units {k:Nat}{A:Around} (r:Room k A):A.units+64<cLine:=by have:=r.un;omega
def Room.units0 {k:Nat}{A:Around} (r:Room k A):A.units<cLine:=by have:=r.un;omega
def tNil:TA:=fun _ H Q=>Q [] H
def VR(ta:TE)(tr:TA):TA:=fun σ H Q=>ta σ H fun x H1=>tr σ H1 fun xs H2=>Q (x::xs) H2
section
variable {X:Cx}{e:Expr}{es:List Expr}{te:TE}{t:TA}{pos:Pos}
def VB:PA X [] tNil:=fun _ _ _ _ H Q I h=>Calls.spliced_nil ⟨[],H,I,.nil,h⟩
def Vw(ha:PE X e te)(hr:PA X es t)(hs:starEach (e::es) X.env=(false,eval e X.env)::starEach es X.env:=by rfl):PA X (e::es) (VR te t):=by
 intro pos pins s σ H Q I h;rw[hs];show wpAny _ _ (spliced ((false,eval e X.env)::backTo pos (starEach es X.env))) _ _ s;refine Calls.spliced_cons (thn (ha pins s σ H _ I h) fun u s1 ⟨x,H1,I1,r1,q1⟩=>?_);exact thn (hr pos pins s1 σ H1 _ I1 q1) fun us s2 ⟨xs,H2,I2,r2,q2⟩=>⟨x::xs,H2,I2,.cons r1 r2,q2⟩
def tTup(t:TA):TE:=fun σ H Q=>t σ H fun xs H1=>xs.length<=sizeLine/\∀p,H1 p=none->Q (.ref p) (upd H1 p (.tup xs))
def tLst(t:TA):TE:=fun σ H Q=>t σ H fun xs H1=>xs.length<=sizeLine/\∀p,H1 p=none->Q (.ref p) (upd H1 p (.lst xs))
def Jy{x1}(h:PA X es t):PE X (.Tuple es x1 pos) (tTup t):=by
 intro pins s σ H Q I hq;refine wpAny_Tuple_spliced (thn (h pos pins s σ H _ I hq) fun us s1 ⟨xs,H1,I1,r,z,q⟩=>⟨by rw[←r.length];exact z,?_⟩);have hf:H1 s1.heap.objs.size=none:=I1.hok.fresh (ZG _);refine⟨.ref s1.heap.objs.size,upd H1 s1.heap.objs.size (.tup xs),I1.laid (t':=s1.toks) (fun b u e=>ZF _ e) (ZG _) ?_,rfl,q _ hf⟩;exact⟨z,us,r,⟨_,ZN _ rfl,rfl,_,rfl⟩⟩
def Vz(h:PA X es t):PE X (.List es pos) (tLst t):=by
 intro pins s σ H Q I hq;refine wpAny_List_spliced (thn (h pos pins s σ H _ I hq) fun us s1 ⟨xs,H1,I1,r,z,q⟩=>⟨by rw[←r.length];exact z,?_⟩);have hf:H1 s1.heap.objs.size=none:=I1.hok.fresh (ZG _);refine⟨.ref s1.heap.objs.size,upd H1 s1.heap.objs.size (.lst xs),I1.laid (t':=s1.toks) (fun b u e=>ZF _ e) (ZG _) ?_,rfl,q _ hf⟩;exact⟨z,us,0,r,ZN _ rfl⟩
end
abbrev Sp:=List V->Hp->VK->XK->Prop
abbrev CXT:=List Env->Hp->Shared->XK->Value->Shared->Prop
structure Env0 (P:Program) (w:World) (K:Za) (mg:Str->Option Value) (base:Heap) (A:Around) (outer:List Env) (s:Shared) (H:Hp):Prop where
 frames:A.frames=some outer
 mod:Mod K mg base
 bs:∀b o,base.get? b=some o->s.heap.get? b=some o/\H b=none
 bsz:base.objs.size<=s.heap.objs.size
 funs:s.heap.FunFrames base outer
 frf:∀b∈frs outer,H b=none
 hok:HOk P w H s.heap
 bare:AllBare s.gens
def CE(outer:List Env)(P:Program)(w:World)(H:Hp)(s:Shared)(Q:VK)(u:Value)(s':Shared):Prop:=
 ∃v H',s'.os=s.os/\AllBare s'.gens/\Un (frs outer) [] H H' s.heap s'.heap/\HOk P w H' s'.heap/\RelV v u/\Q v H'
def CR(CX:CXT)(outer:List Env)(P:Program)(w:World)(H:Hp)(s:Shared)(Q:VK)(E:XK)(r:Result)(s':Shared):Prop:=
 match r with
 | .ok (.ret u)=>CE outer P w H s Q u s'
 | .ok _=>False
 | .error e=>CX outer H s E e s'
structure FnOk (P:Program) (w:World) (K:Za) (mg:Str->Option Value) (base:Heap) (CX:CXT) (k:Nat) (f:Addr) (fd:FuncData) (ps:List Str) (sp:Sp):Prop where
 len:∀vs H Q E,sp vs H Q E->vs.length=ps.length
 run:∀(A:Around) (outer:List Env) (s:Shared) (H:Hp) (args:Args) (us:List Value) (vs:List V) (Q:VK) (E:XK),Room k A->Env0 P w K mg base A outer s H->BindsTo s fd args (ps.zip us)->Vals vs us->sp vs H Q E->
  codeAny (model P w) A (.call (.ref f) args) (CR CX outer P w H s Q E) s
def FnOk.imp {P:Program}{w:World}{K:Za}{mg:Str->Option Value}{base:Heap}{CX:CXT}{k:Nat}{f:Addr}{fd:FuncData}{ps:List Str}{sp sp':Sp} (F:FnOk P w K mg base CX k f fd ps sp)
  (h:∀vs H Q E,sp' vs H Q E->sp vs H Q E):FnOk P w K mg base CX k f fd ps sp':=
 ⟨fun vs H Q E q=>F.len vs H Q E (h _ _ _ _ q),fun A outer s H args us vs Q E hr he hb hv hs=>F.run A outer s H args us vs Q E hr he hb hv (h _ _ _ _ hs)⟩
section
variable {X:Cx}{pins:List (Addr×Obj)}{σ:St}{H:Hp}{s s':Shared}
def Inv.env0 (I:Inv X pins σ H s):Env0 X.prog X.w X.K X.mg X.base X.A X.stack s H:=
 ⟨I.ok.frames,I.ok.mod,I.bs,ZU I.ok.bsz I.sz,I.stack,I.stkFree,I.hok,I.bare⟩
def Inv.after {Q:VK}{u:Value} (I:Inv X pins σ H s) (h:CE X.stack X.prog X.w H s Q u s'):EP X pins σ Q u s':=by
 obtain⟨v,H',os,bare,un,hok,r,q⟩:=h;obtain⟨hh,g,d,t,os'⟩:=s';obtain rfl:os'=s.os:=os;exact⟨v,H',I.call (h':=hh) (g':=g) (d':=d) (t':=t) (ch:=[]) un hok bare (fun b z=>absurd z (by simp)),r,q⟩
end
def Xr(sp:Sp)(dvs:List V)(E:XK)(t:TA):TE:=fun σ H Q=>t σ H fun vs H1=>sp (vs++dvs) H1 Q E
def Binds(K:Za)(fd:FuncData)(ps:List Str)(ds:List Value):Prop:=
 ∀(s:Shared) (us:List Value),K.In s.heap->(us++ds).length=ps.length->BindsTo s fd ⟨us,[]⟩ (ps.zip (us++ds))
def Binds.all {K:Za}{fd:FuncData}{ps:List Str} (h:∀us:List Value,us.length=ps.length->bindArgs fd ⟨us,[]⟩=pure (ps.zip us)):Binds K fd ps []:=fun s us _ hl=>by
 rw[YD]at hl ⊢;exact .of_eq (h us hl)
def UE(CX:CXT)(X:Cx)(E:XK):Prop:=∀(pins:List (Addr×Obj)) (σ:St) (H:Hp) (s:Shared) (e:Value) (s':Shared),Inv X pins σ H s->CX X.stack H s E e s'->X.xe e s'
section
variable {X:Cx}{CX:CXT}{k:Nat}{f C:Addr}{fd:FuncData}{ps:List Str}{sp:Sp}{dvs:List V}{ds:List Value}{E:XK}{x m:Str}{p pos apos:Pos}{e o:Expr}{es:List Expr}{ta:TE}{t:TA}
def FX{pins:List (Addr×Obj)}{σ:St}{H:Hp}{s:Shared}{Q:VK}{us:List Value}{vs:List V}(F:FnOk X.prog X.w X.K X.mg X.base CX k f fd ps sp)(hr:Room k X.A)(hb:Binds X.K fd ps ds)(hd:Vals dvs ds)(hx:UE CX X E)(I:Inv X pins σ H s)(r:Vals vs us)(h:sp (vs++dvs) H Q E):wpAny (model X.prog X.w) X.A (call (.ref f) us) (EP X pins σ Q) X.xe s:=by
 have r2:Vals (vs++dvs) (us++ds):=r.append hd;have hl:(us++ds).length=ps.length:=by rw[←r2.length];exact F.len _ _ _ _ h
 refine wpAny_call (Wp (F.run X.A X.stack s H ⟨us,[]⟩ (us++ds) (vs++dvs) Q E hr I.env0 (hb s us I.kIn hl) r2 h) fun r s' hq=>?_);cases r with
 |error e=>exact hx pins σ H s e s' I hq
 |ok fl=>
  cases fl with
  |ret u=>exact I.after hq
  |next=>exact False.elim hq
  |brk=>exact False.elim hq
  |cont=>exact False.elim hq
def Ef(F:FnOk X.prog X.w X.K X.mg X.base CX k f fd ps sp)(hr:Room k X.A)(hg:Gl X x)(hm:X.mg x=some (.ref f))(hk:PySem.W.keepIn X.K (.ref f)=true)(hb:Binds X.K fd ps ds)(hd:Vals dvs ds)(hx:UE CX X E)(ha:PA X (e::es) t)(hdb:(x==("__debug__" : Str))=false:=by decide)(he:starEach (e::es) X.env=(false,eval e X.env)::starEach es X.env:=by rfl)(hpl:(backTo pos (starEach es X.env)).any (·.1)=false:=by rfl) :
  PE X (.Call (.Name x p) (e::es) [] pos) (Xr sp dvs E t):=by
 intro pins s σ H Q I h;refine WL (UU I hg hm ?_ hdb);refine PySem.W.callWith_K (h₀:=X.base) I.ok.mod.kin hk (thn (ha pos pins s σ H _ I h) fun us s1 ⟨vs,H1,I1,r,q⟩=>⟨I1.kIn,?_⟩) he hpl;exact FX F hr hb hd hx I1 r q
end
structure FnScope (N P:List Str) (sc:Scope):Prop where
 kind:sc.kind=.function
 co:sc.isCoroutine=false
 gen:sc.isGenerator=false
 nd:N.Nodup
 pre:N.take P.length=P
 par:∀x∈P,sc.names.lookup x=some .local\/sc.names.lookup x=some .cell
 nofree:∀y∈sc.names,y.2≠.free
def F0{kindOf:Str->Option NameKind}{x:Str}:∀{binds:List (Str×Value)}{m:Str->Option Value},(∀v,(x,v)∉binds)->bindL kindOf binds m x=m x
 |[],_,_=>rfl
 |(n,v)::r,m,h=>by
  unfold bindL;rw[F0 fun w hw=>h w (Yc _ hw)];split
  ·have:x≠n:=by rintro rfl;exact h v Yo
   simp[this]
  ·rfl
def SZ{kindOf:Str->Option NameKind}{x:Str}:∀{binds:List (Str×Value)}{m:Str->Option Value},(∀v,(x,v)∉binds)->bindC kindOf binds m x=m x
 |[],_,_=>rfl
 |(n,v)::r,m,h=>by
  unfold bindC;rw[SZ fun w hw=>h w (Yc _ hw)];split
  ·rfl
  ·have:x≠n:=by rintro rfl;exact h v Yo
   simp[this]
def N9{kindOf:Str->Option NameKind}{x:Str}{v:Value}:∀{P:List Str}{vs:List Value}{i:Nat}{m:Str->Option Value},P.Nodup->P[i]?=some x->vs[i]?=some v->kindOf x=some .local->
  bindL kindOf (P.zip vs) m x=some v
 |[],_,_,_,_,h,_,_=>by simp at h
 |_::_,[],_,_,_,_,h,_=>by simp at h
 |p::P,w::vs,0,m,nd,h1,h2,hk=>by
  simp at h1 h2;subst h1;subst h2;show bindL kindOf ((p,w)::P.zip vs) m p=_;unfold bindL;rw[F0 fun v hv=>(Yv.mp nd).1 (List.of_mem_zip hv).1,ZK hk];simp
 |p::P,w::vs,i+1,m,nd,h1,h2,hk=>by
  show bindL kindOf ((p,w)::P.zip vs) m x=_;unfold bindL;exact N9 (i:=i) (Yv.mp nd).2 (by simpa using h1) (by simpa using h2) hk
def BM{kindOf:Str->Option NameKind}{x:Str}{v:Value}:∀{P:List Str}{vs:List Value}{i:Nat}{m:Str->Option Value},P.Nodup->P[i]?=some x->vs[i]?=some v->kindOf x≠some .local->
  bindC kindOf (P.zip vs) m x=some v
 |[],_,_,_,_,h,_,_=>by simp at h
 |_::_,[],_,_,_,_,h,_=>by simp at h
 |p::P,w::vs,0,m,nd,h1,h2,hk=>by
  simp at h1 h2;subst h1;subst h2;show bindC kindOf ((p,w)::P.zip vs) m p=_;unfold bindC;rw[SZ fun v hv=>(Yv.mp nd).1 (List.of_mem_zip hv).1,ZI hk];simp
 |p::P,w::vs,i+1,m,nd,h1,h2,hk=>by
  show bindC kindOf ((p,w)::P.zip vs) m x=_;unfold bindC;exact BM (i:=i) (Yv.mp nd).2 (by simpa using h1) (by simpa using h2) hk
def start(N:List Str)(vs:List V):St:=vs.map some++List.replicate (N.length-vs.length) none
def cxOf(CX:CXT)(P:Program)(w:World)(K:Za)(mg:Str->Option Value)(base:Heap)(N:List Str)(qual:Str)(scope:Scope)(f:Addr)(cd:Value)(A:Around)(outer:List Env)(s:Shared)(H:Hp)(E:XK):Cx where
 prog:=P
 w:=w
 K:=K
 mg:=mg
 base:=base
 A:=A.deeper (envOfC qual scope s.heap.objs.size f cd)
 N:=N
 s₀:=s
 H₀:=H
 env:=envOfC qual scope s.heap.objs.size f cd
 outer:=outer
 stack:=envOfC qual scope s.heap.objs.size f cd::outer
 ex:=[]
 calm:=true
 fn:=fun _=>true
 pn:=[]
 xe:=fun e s'=>wpAny (model P w) (A.deeper (envOfC qual scope s.heap.objs.size f cd)) (leaving (envOfC qual scope s.heap.objs.size f cd) e) (fun _ s''=>CX outer H s E e s'') (fun e' s''=>CX outer H s E e' s'') s'
def BO{sc:Scope}{n:Nat}{x:Str}(h:sc.names.lookup x=some .cell):∃c,(cellsFrom n sc.names []).lookup x=some c:=by
 have q:=PySem.W.cellsFrom_some sc.names n [] (.inl h);exact Option.isSome_iff_exists.mp q
def E1{CX:CXT}{P:Program}{w:World}{K:Za}{mg:Str->Option Value}{base:Heap}{N ps:List Str}{qual:Str}{scope:Scope}{f:Addr}{cd:Value}{A:Around}{outer:List Env}{s s1:Shared}{H:Hp}{E:XK}{us:List Value}{vs:List V}(S:FnScope N ps scope)(hd:A.handled=none)(e0:Env0 P w K mg base A outer s H)(hl:vs.length=ps.length)(r:Vals vs us)(x:InCallC s s.heap.objs.size (bindL (envOfC qual scope s.heap.objs.size f cd).kindOf (ps.zip us) fun _=>none) (cellsFrom (s.heap.objs.size+1) scope.names []) (bindC (envOfC qual scope s.heap.objs.size f cd).kindOf (ps.zip us) fun _=>none) s1) :
  Inv (cxOf CX P w K mg base N qual scope f cd A outer s H E) [] (start N vs) H s1:=by
 have hpl:ps.length<=N.length:=by have:=Y1 List.length S.pre;rw[Yf]at this;omega
 obtain⟨h1,tk,rfl,hk⟩:=x.done;have noA:∀b:Addr,b∉(cxOf CX P w K mg base N qual scope f cd A outer s H E).ex:=fun b z=>absurd (show b∈([]:List Addr)from z) (by simp)
 refine⟨⟨e0.mod,S.kind,rfl,rfl,ZG _,fun y z c h1 h2=>?_,fun y hy=>?_,fun y c _ h=>?_,fun _=>hd,Around.frames_deeper e0.frames,.inr ⟨rfl,rfl⟩,fun b z=>absurd z (noA b),e0.bs,e0.bsz,fun b _ _=>noA b,fun b z=>absurd z (noA b),e0.funs,e0.frf⟩,
  rfl,e0.bare,Un.kept hk,⟨_,x.toInCall.ns,fun i y v h1 h2 h3=>?_⟩,fun y c h=>⟨_,x.cell y c h⟩,e0.hok.fresh (ZG _),fun y c h=>?_,fun p hp=>absurd (show p∈([]:List (Addr×Obj))from hp) (by simp),e0.hok.kept hk,?_⟩
 ·exact name_of_addr x.apart (YY h1) (YY h2)
 ·have hy:scope.names.lookup y=some .cell\/scope.names.lookup y=some .free:=hy;rcases hy with hy|hy
  ·exact BO hy
  ·exact absurd rfl (S.nofree _ (YY hy))
 ·exact W9 (x.above y c (YY h))
 ·have hi:i<vs.length:=by
   unfold start at h2;by_cases hi:i<vs.length
   ·exact hi
   ·rw[WE (by simpa using hi)]at h2;rw[WV]at h2;split at h2<;>cases h2
  have ha:vs[i]?=some v:=by
   unfold start at h2;rw[Wm (by simpa using hi),ZT]at h2;cases e:vs[i]? with
   |none=>rw[e]at h2;cases h2
   |some a=>rw[e]at h2;cases h2;rfl
  obtain⟨u,hu,rv⟩:=r.get ha
  have hp:ps[i]?=some y:=by
   rw[←S.pre,YQ (by omega)];exact h1
  have ndP:ps.Nodup:=by rw[←S.pre];exact S.nd.sublist (Q5 _ _)
  refine⟨u,rv,?_⟩;rcases S.par y (Wn hp)with k|k
  ·exact .inl ⟨k,N9 ndP hp hu k⟩
  ·obtain⟨c,e⟩:=BO (n:=s.heap.objs.size+1) k;refine .inr ⟨.inl k,c,e,?_⟩;have q:=x.cell y c e;rw[BM ndP hp hu (by show scope.names.lookup y≠_;rw[k];decide)]at q;exact q
 ·exact e0.hok.fresh (W9 (x.above y c (YY h)))
 ·unfold start;show _=N.length;rw[ZS,ZA,List.length_replicate];omega
def SM{CX:CXT}{P:Program}{w:World}{K:Za}{mg:Str->Option Value}{base:Heap}{k:Nat}{f:Addr}{name qual:Str}{params:Arguments}{body:List Stmt}{scope:Scope}{dV kV doc pm cdv ct oc:Value}{an od:Option Addr}{osl:Array (Option Value)}{N ps:List Str}{sp:Sp}(lk:K.lookup f=some ⟨oc,od,.func (PySem.W.fnOf name qual params body scope dV kV doc pm an cdv ct),osl⟩)(hcd:PySem.W.codeIn K cdv qual=true)(S:FnScope N ps scope)(len:∀vs H Q E,sp vs H Q E->vs.length=ps.length)
  (hbody:∀(A:Around) (outer:List Env) (s:Shared) (H:Hp) (vs:List V) (Q:VK) (E:XK),Room k (A.deeper (envOfC qual scope s.heap.objs.size f cdv))->sp vs H Q E->
   ∃t,PSs (cxOf CX P w K mg base N qual scope f cdv A outer s H E) body t/\t {nx:=fun _ H'=>Q .non H',rt:=Q} (start N vs) H) :
  FnOk P w K mg base CX (k+1) f (PySem.W.fnOf name qual params body scope dV kV doc pm an cdv ct) ps sp:=by
 refine⟨len,fun A outer s H args us vs Q E hr e0 hb r hsp=>?_⟩;have hl:=len _ _ _ _ hsp;have KX:K.In s.heap:=e0.mod.kin.keeps fun b o e=>(e0.bs b o e).1;have lim:s.heap.NoLimit:=e0.mod.nolimit.keeps fun b o e=>(e0.bs b o e).1
 have hkind:∀y∈ps.zip us,scope.names.lookup y.1=some .local\/(scope.names.lookup y.1=some .cell/\((cellsFrom (s.heap.objs.size+1) scope.names []).lookup y.1).isSome=true):=fun⟨n,v⟩ hy=>by
  rcases S.par n (List.of_mem_zip hy).1 with q|q
  ·exact .inl q
  ·exact .inr ⟨q,PySem.W.cellsFrom_some _ _ _ (.inl q)⟩
 refine codeAny_call_function hr.depth (KX _ _ lk) rfl S.co S.gen rfl (PySem.W.codeRec_of KX hcd) (hb _ _ _ _ ?_);refine wpAny_newFunctionEnv_cells S.kind hkind fun env he s1 x=>?_;subst he;refine⟨lim.keeps x.toInCall.keep,codeAny_func ?_⟩;obtain⟨t,ht,hq⟩:=hbody A outer s H vs Q E (hr.deeper _) hsp;have I:Inv (cxOf CX P w K mg base N qual scope f cdv A outer s H E) [] (start N vs) H s1:=E1 S hr.hd e0 hl r x;refine Yu (ht [] s1 (start N vs) H _ I hq) (fun fl s' hs=>?_) fun e s' hs=>hs
 have fin:∀{σ':St} {H':Hp} {v:V} {u:Value},Inv (cxOf CX P w K mg base N qual scope f cdv A outer s H E) [] σ' H' s'->RelV v u->Q v H'->CE outer P w H s Q u s':=
  fun {σ' H' v u} J rv q=>⟨v,H',J.os,J.bare,J.base,J.hok,rv,q⟩
 cases fl with
 |ret u=>
  obtain⟨v,σ',H',J,rv,q⟩:=hs;exact fin J rv q
 |next=>
  obtain⟨σ',H',J,q⟩:=hs;exact fin (v:=V.non) (u:=Value.none) J rfl q
 |brk=>
  obtain⟨_,_,_,q⟩:=hs;exact False.elim q
 |cont=>
  obtain⟨_,_,_,q⟩:=hs;exact False.elim q
section
variable {X:Cx}{x:Str}{p pos:Pos}{e:Expr}{es:List Expr}{t:TA}{id T:String}{r:List V->Hp->VK->Prop}
def tCB(r:List V->Hp->VK->Prop)(t:TA):TE:=fun σ H Q=>t σ H fun vs H1=>r vs H1 Q
def VT(hc:VN X (.builtin id) r)(hg:Gl X x)(hm:X.mg x=none)(hv:bootBuiltins x=some (.builtin id))(ha:PA X (e::es) t)(hn:x≠"__name__":=by decide)(hdb:(x==("__debug__" : Str))=false:=by decide)(he:starEach (e::es) X.env=(false,eval e X.env)::starEach es X.env:=by rfl)(hpl:(backTo pos (starEach es X.env)).any (·.1)=false:=by rfl):PE X (.Call (.Name x p) (e::es) [] pos) (tCB r t):=by
 intro pins s σ H Q I h;refine WL (UB I hg hm hv ?_ hn hdb);exact PyProof.Rows.callWith_builtin1 (thn (ha pos pins s σ H _ I h) fun us s1 ⟨vs,H1,I1,r1,q1⟩=>hc pins s1 σ H1 vs us Q I1 r1 q1) he hpl
def UF(hc:VN X (.type T) r)(hg:Gl X x)(hm:X.mg x=none)(hv:bootBuiltins x=some (.type T))(ha:PA X (e::es) t)(hn:x≠"__name__":=by decide)(hdb:(x==("__debug__" : Str))=false:=by decide)(he:starEach (e::es) X.env=(false,eval e X.env)::starEach es X.env:=by rfl)(hpl:(backTo pos (starEach es X.env)).any (·.1)=false:=by rfl):PE X (.Call (.Name x p) (e::es) [] pos) (tCB r t):=by
 intro pins s σ H Q I h;refine WL (UB I hg hm hv ?_ hn hdb);exact Wb (thn (ha pos pins s σ H _ I h) fun us s1 ⟨vs,H1,I1,r1,q1⟩=>hc pins s1 σ H1 vs us Q I1 r1 q1) he hpl
end
end L2
namespace HT
open PySem PyProof.Rows
section
variable {prog:Program}{w:World}{A:Around}{E:Value->Shared->Prop}{s:Shared}
def Av{t b:Addr}{vs ws:List Value}{Q:Value->Shared->Prop}(ht:IsTup s.heap t vs.toArray)(hb:IsTup s.heap b ws.toArray)(hv:vs≠[])(h1:ws=[]->Q (.ref t) s)(h2:ws≠[]->Q (.ref s.heap.objs.size) {s with heap:=s.heap.push {cls:=.type "tuple",data:=.seq (vs++ws).toArray}})(hsz:vs.length+ws.length<=sizeLine):wpAny (model prog w) A (binaryOp .Add (.ref t) (.ref b)) Q E s:=by
 obtain⟨⟨cls,dd,data,sl⟩,ho,hc,n,hd⟩:=id ht;obtain⟨⟨cls2,dd2,data2,sl2⟩,ho2,hc2,n2,hd2⟩:=id hb;simp only at hc hd hc2 hd2;subst hc hd hc2 hd2;have e:vs.toArray++ws.toArray=(vs++ws).toArray:=by simp
 by_cases hw:ws=[]
 ·exact concat_meets ⟨_,ho,rfl⟩ ⟨_,ho2,rfl⟩ noFill_tuple_add seq_tuple_add Qd WW (WM _ _)
   (tuple_addW1 t b vs.toArray ws.toArray n n2 dd dd2 sl sl2 (by simpa using hv) (by simp[hw])) ⟨ho,ho2,h1 hw⟩
 ·refine concat_meets ⟨_,ho,rfl⟩ ⟨_,ho2,rfl⟩ noFill_tuple_add seq_tuple_add Qd WW (WM _ _)
   (tuple_addW2 t b vs.toArray ws.toArray n n2 dd dd2 sl sl2 (by simpa using hv) (by simpa using hw) (by rw[ZP,ZP];exact hsz)) ⟨ho,ho2,?_⟩
  rw[e];exact h2 hw
def sIx(n d:Nat):Option Int->Nat
 |none=>d
 |some v=>if v<0 then(v+(n:Int)).toNat else min v.toNat n
def NS(n d:Nat):sIx n d none=d:=rfl
def X6(n d k:Nat):sIx n d (some (k:Int))=min k n:=by
 show(if (k:Int)<0 then((k:Int)+(n:Int)).toNat else min (k:Int).toNat n)=min k n;rw[ZI (by omega),Ym]
def A9(n d:Nat)(hd:d<=n)(o:Option Int):sIx n d o<=n:=by
 cases o with
 |none=>exact hd
 |some v=>
  show(if v<0 then(v+(n:Int)).toNat else min v.toNat n)<=n;by_cases hv:v<0
  ·rw[ZK hv];omega
  ·rw[ZI hv];exact Nat.min_le_right _ _
def TC(v:Int)(n d:Nat):(if v<0 then max (v+(n:Int)) 0 else min v (n:Int))=((sIx n d (some v):Nat):Int):=by
 show(if v<0 then max (v+(n:Int)) 0 else min v (n:Int))=(((if v<0 then(v+(n:Int)).toNat else min v.toNat n):Nat):Int);by_cases hv:v<0
 ·simp only[ZK hv];omega
 ·simp only[ZI hv];omega
def FW(lo hi:Option Int)(n:Nat):Builtin.Slice.sliceAdjust lo hi 1 (n:Int)=(((sIx n 0 lo:Nat):Int),((sIx n n hi:Nat):Int)):=by
 have h1:¬((1:Int)<0):=by omega
 unfold Builtin.Slice.sliceAdjust;simp only[h1,Qh];refine Prod.ext ?_ ?_
 ·cases lo with
  |none=>rfl
  |some v=>exact TC v n 0
 ·cases hi with
  |none=>rfl
  |some v=>exact TC v n n
def Cu(i j:Nat):Builtin.Slice.slicePlaces (i:Int) (j:Int) 1=j-i:=by
 unfold Builtin.Slice.slicePlaces;have h1:(1:Int)>0:=by omega
 simp only[h1,if_true,Int.ediv_one];split<;>omega
def Nm{v:Value}{o:Option Int}{Q:Option Int->Shared->Prop}(p:IsPart v o)(h:Q o s):wpAny (model prog w) A (Builtin.Slice.slicePartIndex v) Q E s:=by
 cases p with
 |none=>exact slicePart_none h
 |int i t=>exact slicePart_int h
def FO{sl:Addr}{vl vu:Value}{lo hi:Option Int}{n:Nat}{Q:Int×Int×Nat->Shared->Prop}(hs:s.heap.IsSliceOf sl vl vu .none)(pl:IsPart vl lo)(pu:IsPart vu hi)(h:Q (((sIx n 0 lo:Nat):Int),1,sIx n n hi-sIx n 0 lo) s):wpAny (model prog w) A (Builtin.Slice.sliceApplied (.ref sl) (pure (n:Int))) Q E s:=by
 obtain⟨os,hos,hcs,hds⟩:=id hs;unfold Builtin.Slice.sliceApplied Builtin.Slice.sliceFields;refine Z9 (Z9 (WI hos hds (x:=vl) rfl (Z9 (WI hos hds (x:=vu) rfl (Z9 (WI hos hds (x:=.none) rfl (ZD ?_)))))));refine Z9 (slicePart_none ?_);show wpAny _ _ (if ((1:Int)==0)=true then _ else _) _ _ s;rw[ZI (by decide)];refine Z9 (Nm pl (Z9 (Nm pu (Z9 (ZD ?_)))));show wpAny _ _ (match Builtin.Slice.sliceAdjust lo hi 1 (n:Int)with|(lo,hi)=>pure (lo,(1:Int),Builtin.Slice.slicePlaces lo hi 1)) _ _ s
 rw[FW lo hi n];show wpAny _ _ (pure (((sIx n 0 lo:Nat):Int),(1:Int),Builtin.Slice.slicePlaces ((sIx n 0 lo:Nat):Int) ((sIx n n hi:Nat):Int) 1)) _ _ s;rw[Cu];exact ZD h
def G5(xs:Array Value)(i k:Nat):((List.range k).filterMap fun(m:Nat)=>xs[((i:Int)+(m:Int)*1).toNat]?).toArray=((xs.toList.drop i).take k).toArray:=by
 have e:(fun(m:Nat)=>xs[((i:Int)+(m:Int)*1).toNat]?)=fun m=>xs[i+m]?:=by
  funext m
  have:((i:Int)+(m:Int)*1).toNat=i+m:=by omega
  rw[this]
 rw[e]
 have:=pick_run xs i k
 rw[List.filterMap_map]at this;have e2:((fun x=>xs[x]?)∘fun x=>i+x)=fun m=>xs[i+m]?:=rfl;rw[e2]at this;rw[this]
def DB{t sl:Addr}{items:Array Value}{vl vu:Value}{lo hi:Option Int}{Q:Value->Shared->Prop}(ht:IsTup s.heap t items)(hs:s.heap.IsSliceOf sl vl vu .none)(pl:IsPart vl lo)(pu:IsPart vu hi)(hw:¬(sIx items.size 0 lo=0/\sIx items.size items.size hi=items.size))(h:Q (.ref s.heap.objs.size) {s with heap:=s.heap.push {cls:=.type "tuple",data:=.seq ((items.toList.drop (sIx items.size 0 lo)).take (sIx items.size items.size hi-sIx items.size 0 lo)).toArray}})(hsz:items.size<=sizeLine):wpAny (model prog w) A (getItem (.ref t) (.ref sl)) Q E s:=by
 have htake:sizeOk (.seq ((items.toList.drop (sIx items.size 0 lo)).take (sIx items.size items.size hi-sIx items.size 0 lo)).toArray):=by
  show((items.toList.drop (sIx items.size 0 lo)).take (sIx items.size items.size hi-sIx items.size 0 lo)).toArray.size<=sizeLine;rw[ZP,Yf,Q9,Yp];omega
 have hj:sIx items.size items.size hi<=items.size:=A9 _ _ (ZG _) hi;obtain⟨os,hos,hcs,hds⟩:=id hs;have hTs:s.TypeIs (.ref sl) "slice":=⟨os,hos,hcs⟩;unfold getItem
 try with_reducible refine Ww ?_
 first|refine Z9 (ZD ?_)|skip
 refine Z9 (wpAny_sequenceKey ht.typeIs (by decide) ?_)
 refine Z9 (Wt (name:=Str.ofString "__getitem__") ht.typeIs Ql
  (YH Ql ht.typeIs entry_tuple_getitem ?_ (args_tuple_getitem _ _)))
 show wpAny _ _ (Builtin.Tuple.tupleItemsOf (.ref t) >>= _) _ _ s;refine Z9 (tupleItemsOf_ ht ?_);refine Z9 (wpAny_typeOf hTs ?_);rw[ZK (by decide)];refine Z9 (FO hs pl pu ?_)
 have hno:¬((((sIx items.size 0 lo:Nat):Int)==0&&(1:Int)==1&&(sIx items.size items.size hi-sIx items.size 0 lo)==items.size)=true):=by
  intro q;rw[Yn,Yn]at q;have q1:((sIx items.size 0 lo:Nat):Int)=0:=eq_of_beq q.1.1;have q2:sIx items.size items.size hi-sIx items.size 0 lo=items.size:=eq_of_beq q.2;exact hw ⟨by omega,by omega⟩
 show wpAny _ _ (if (((sIx items.size 0 lo:Nat):Int)==0&&(1:Int)==1&&(sIx items.size items.size hi-sIx items.size 0 lo)==items.size)=true then _ else _) _ _ s;rw[ZI hno,G5]
 first
  |exact Z9 (m:=Builtin.Tuple.tupleExact _) (Yh (ZD ⟨_,rfl,ZD h⟩) htake)
  |exact Z9 (m:=Builtin.Tuple.tupleExact _) (Yh (Z9 (ZD (ZD ⟨_,rfl,ZD h⟩))) htake)
  |exact Z9 (Z9 (m:=Builtin.Tuple.tupleExact _) (Yh (ZD (ZD ⟨_,rfl,ZD h⟩)) htake))
  |exact Z9 (Z9 (m:=Builtin.Tuple.tupleExact _) (Yh (ZD ⟨_,rfl,ZD h⟩) htake))
end
end HT
namespace L2
open PySem PySem.Spec PyProof.Rows
abbrev TO:=St->Hp->(Option Int->Hp->Prop)->Prop
def PO(X:Cx)(e:Option Expr)(t:TO):Prop:=
 ∀(pins:List (Addr×Obj)) (s:Shared) (σ:St) (H:Hp) (Q:Option Int->Hp->Prop),Inv X pins σ H s->t σ H Q->
  wpAny (model X.prog X.w) X.A (evalPart e X.env) (fun u s'=>∃o H',Inv X pins σ H' s'/\IsPart u o/\Q o H') X.xe s
def Nu:TO:=fun _ H Q=>Q none H
def SC(t:TE):TO:=fun σ H Q=>t σ H fun x H1=>∃i,x=.int i/\Q (some i) H1
def X5{ns:List Int}:∀{us:List Value},Vals (ns.map V.int) us->IntsAre us ns:=by
 induction ns with
 |nil=>intro us r;rw[List.map_nil]at r;cases r;exact .nil
 |cons n ns ih=>
  intro us r;rw[ZZ]at r;cases r with
  |cons r1 r2=>
   obtain⟨t,e⟩:=r1;subst e;exact .cons n t (ih r2)
section
variable {X:Cx}{e:Expr}{te:TE}{lo hi:Option Expr}{tl th:TO}{pos p2:Pos}
def Bz:PO X none Nu:=by
 intro pins s σ H Q I h;rw[evalPart_none];exact ZD ⟨none,H,I,.none,h⟩
def Tu(h:PE X e te):PO X (some e) (SC te):=by
 intro pins s σ H Q I hw;rw[evalPart_some];refine thn (h pins s σ H _ I hw) fun u s1 ⟨x,H1,I1,r1,q1⟩=>?_;obtain⟨i,rfl,q⟩:=q1;obtain⟨t,rfl⟩:=r1;exact⟨some i,H1,I1,.int i t,q⟩
def SlR(X:Cx)(r:V->Option Int->Option Int->Hp->VK->Prop):Prop:=
 ∀(pins:List (Addr×Obj)) (s:Shared) (σ:St) (H:Hp) (x:V) (v vl vu:Value) (lo hi:Option Int) (sl:Addr) (Q:VK),Inv X pins σ H s->RelV x v->s.heap.IsSliceOf sl vl vu .none->IsPart vl lo->IsPart vu hi->r x lo hi H Q->
  ∃T id,typeLookup (.type T) "__getitem__"=pure (some (.builtin id))/\s.TypeIs v T/\wpAny (model X.prog X.w) X.A (getItem v (.ref sl)) (EP X pins σ Q) X.xe s
def tSl(r:V->Option Int->Option Int->Hp->VK->Prop)(te:TE)(tl th:TO):TE:=fun σ H Q=>te σ H fun x H1=>tl σ H1 fun l H2=>th σ H2 fun u H3=>r x l u H3 Q
def Nc{r:V->Option Int->Option Int->Hp->VK->Prop}(hr:SlR X r)(he:PE X e te)(hl:PO X lo tl)(hu:PO X hi th):PE X (.Subscript e (.Slice lo hi none p2) pos) (tSl r te tl th):=by
 intro pins s σ H Q I h;refine Subscript_ (thn (he pins s σ H _ I h) fun v s1 ⟨x,H1,I1,r1,q1⟩=>?_);refine wpAny_Slice (thn (hl pins s1 σ H1 _ I1 q1) fun vl s2 ⟨l,H2,I2,pl,q2⟩=>thn (hu pins s2 σ H2 _ I2 q2) fun vu s3 ⟨u,H3,I3,pu,q3⟩=>?_);rw[evalPart_none];refine ZD ?_;have I4:Inv X pins σ H3 {s3 with heap:=s3.heap.push {cls:=.type "slice",data:=.fields #[vl,vu,.none]}}:=I3.kept (t':=s3.toks) fun b ob q=>ZF _ q
 obtain⟨T,id,hT,ht,hg⟩:=hr pins {s3 with heap:=s3.heap.push {cls:=.type "slice",data:=.fields #[vl,vu,.none]}} σ H3 x v vl vu l u s3.heap.objs.size Q I4 r1 (Heap.IsSliceOf.new ..) pl pu q3
 show wpAny (model X.prog X.w) X.A (subscriptTail e (.Slice lo hi none p2) v (.ref s3.heap.objs.size)) (EP X pins σ Q) X.xe {s3 with heap:=s3.heap.push {cls:=.type "slice",data:=.fields #[vl,vu,.none]}}
 exact tail_any (ops:=[.ref s3.heap.objs.size,v]) ht hT hg (by with_unfolding_all rfl)
def cutV(xs:List V)(lo hi:Option Int):List V:=(xs.drop (HT.sIx xs.length 0 lo)).take (HT.sIx xs.length xs.length hi-HT.sIx xs.length 0 lo)
def Nd(xs:List V)(lo hi:Option Int):(cutV xs lo hi).length<=xs.length:=by
 unfold cutV;rw[Yf,Q9];omega
def rSlT(K:Za):V->Option Int->Option Int->Hp->VK->Prop:=fun x lo hi H Q=>∃a xs,x=.ref a/\SqT K H a xs/\
 ¬(HT.sIx xs.length 0 lo=0/\HT.sIx xs.length xs.length hi=xs.length)/\∀p,H p=none->Q (.ref p) (upd H p (.tup (cutV xs lo hi)))
def Cq:SlR X (rSlT X.K):=by
 intro pins s σ H x v vl vu lo hi sl Q I rx hs pl pu h;obtain⟨a,xs,rfl,hx,hw,q⟩:=h;cases rx
 obtain⟨its,r,ht,hz⟩:=I.tuple hx;have hlen:its.toArray.size=xs.length:=by rw[ZP];exact r.length.symm
 refine⟨"tuple",_,PyProof.Rows.slot_tuple_getitem.lookup,ht.typeIs,?_⟩;refine HT.DB ht hs pl pu (by rw[hlen];exact hw) ?_ (by rw[hlen];exact hz);rw[hlen];refine⟨.ref s.heap.objs.size,_,I.laid (t':=s.toks) (o:=.tup (cutV xs lo hi)) (fun b ob q=>ZF _ q) (ZG _) ?_,rfl,q _ (I.hok.fresh (ZG _))⟩;exact⟨ZU (Nd xs lo hi) hz,_,(r.drop (HT.sIx xs.length 0 lo)).take (HT.sIx xs.length xs.length hi-HT.sIx xs.length 0 lo),IsTup.new _ _⟩
def Cm(K:Za):R2:=fun x y H Q=>∃a b xs ys,x=.ref a/\y=.ref b/\SqT K H a xs/\SqT K H b ys/\xs≠[]/\xs.length+ys.length<=sizeLine/\
 (ys=[]->Q (.ref a) H)/\(ys≠[]->∀p,H p=none->Q (.ref p) (upd H p (.tup (xs++ys))))
def Vals.nil_iff {xs:List V}{us:List Value} (r:Vals xs us):us=[]↔xs=[]:=by
 cases r with
 |nil=>simp
 |cons _ _=>simp
def FT:OpR X (binaryOp .Add) (Cm X.K):=by
 intro pins s σ H x y v u Q I rx ry h;obtain⟨a,b,xs,ys,rfl,rfl,ha,hb,hx,hz,q1,q2⟩:=h;cases rx
 cases ry
 obtain⟨its,r1,p1,_⟩:=I.tuple ha;obtain⟨its2,r2,p2,_⟩:=I.tuple hb;refine HT.Av p1 p2 (fun z=>hx (r1.nil_iff.mp z)) (fun z=>⟨.ref a,H,I,rfl,q1 (r2.nil_iff.mp z)⟩) (fun z=>?_) (by rw[←r1.length,←r2.length];exact hz);refine⟨.ref s.heap.objs.size,_,I.laid (t':=s.toks) (o:=.tup (xs++ys)) (fun b ob q=>ZF _ q) (ZG _) ?_,rfl,q2 (fun w=>z (r2.nil_iff.mpr w)) _ (I.hok.fresh (ZG _))⟩;exact⟨by rw[ZS];exact hz,_,r1.append r2,IsTup.new _ _⟩
end
def ixN(n:Nat)(i:Int):Option Nat:=if 0<=i then(if i<n then some i.toNat else none)else if -(n:Int)<=i then some (i+n).toNat else none
def atI{α:Type}(xs:List α)(i:Int):Option α:=(ixN xs.length i).bind fun j=>xs[j]?
def Aq{n:Nat}{i:Int}{j:Nat}(h:ixN n i=some j):seqIndex? i n=some j/\j<n/\-(n:Int)<=i/\i<n:=by
 unfold ixN at h;by_cases h0:0<=i
 ·rw[ZK h0]at h;by_cases h1:i<n
  ·rw[ZK h1]at h;have e:i.toNat=j:=ZL h;exact⟨by rw[seqIndex_of h0 h1,e],by omega,by omega,h1⟩
  ·rw[ZI h1]at h;cases h
 ·rw[ZI h0]at h;by_cases h1:-(n:Int)<=i
  ·rw[ZK h1]at h;have e:(i+n).toNat=j:=ZL h;exact⟨by rw[seqIndex_neg (by omega) h1,e],by omega,h1,by omega⟩
  ·rw[ZI h1]at h;cases h
def TU{α:Type}{xs:List α}{i:Int}{v:α}(h:atI xs i=some v):∃j,seqIndex? i xs.length=some j/\xs[j]?=some v/\j<xs.length/\-(xs.length:Int)<=i/\i<xs.length:=by
 unfold atI at h;cases e:ixN xs.length i with
 |none=>rw[e]at h;cases h
 |some j=>
  rw[e]at h;obtain⟨h1,h2,h3,h4⟩:=Aq e;exact⟨j,h1,h,h2,h3,h4⟩
def Uw{α:Type}{xs:List α}{j:Nat}{v:α}(h:xs[j]?=some v):atI xs (j:Int)=some v:=by
 have hj:j<xs.length:=(ZW.mp h).1
 have e:ixN xs.length (j:Int)=some j:=by
  unfold ixN;rw[ZK (by omega),ZK (by omega)];simp
 unfold atI;rw[e];exact h
def NU(b:Expr):Prop:=∀o i,subscripted b false o i=operate [o,i] (getItem o i)
def IxR(X:Cx)(r:R2):Prop:=
 ∀(value slice:Expr) (pins:List (Addr×Obj)) (s:Shared) (σ:St) (H:Hp) (x y:V) (v u:Value) (Q:VK),Inv X pins σ H s->RelV x v->RelV y u->r x y H Q->
  subscripted slice false v u=operate [v,u] (getItem v u)->wpAny (model X.prog X.w) X.A (subscriptTail value slice v u) (EP X pins σ Q) X.xe s
def MtR(X:Cx)(id:String)(r:V->List V->Hp->VK->Prop):Prop:=
 ∀(pins:List (Addr×Obj)) (s:Shared) (σ:St) (H:Hp) (x:V) (xs:List V) (v:Value) (us:List Value) (Q:VK),Inv X pins σ H s->RelV x v->Vals xs us->r x xs H Q->
  wpAny (model X.prog X.w) X.A (call (.builtin id) (v::us)) (EP X pins σ Q) X.xe s
section
variable {X:Cx}{a b:Expr}{ta tb:TE}{pos:Pos}
def IxR.or {r r':R2} (h:IxR X r) (h':IxR X r'):IxR X (fun x y H Q=>r x y H Q\/r' x y H Q):=by
 intro value slice pins s σ H x y v u Q I rx ry q hs;rcases q with q|q
 ·exact h value slice pins s σ H x y v u Q I rx ry q hs
 ·exact h' value slice pins s σ H x y v u Q I rx ry q hs
def FI{r:R2}(hr:IxR X r)(ha:PE X a ta)(hb:PE X b tb)(hs:NU b):PE X (.Subscript a b pos) (tOp r ta tb):=by
 intro pins s σ H Q I h;exact Subscript_ (binT ha hb I h fun v u s2 x y H2 I2 rx ry q=>hr a b pins s2 σ H2 x y v u Q I2 rx ry q (hs _ _))
def rIxL(K:Za):R2:=fun x y H Q=>∃p xs i v,x=.ref p/\y=.int i/\SqL K H p xs/\atI xs i=some v/\Q v H
def rIxT(K:Za):R2:=fun x y H Q=>∃p xs i v,x=.ref p/\y=.int i/\SqT K H p xs/\atI xs i=some v/\Q v H
def ix_list:IxR X (rIxL X.K):=by
 intro value slice pins s σ H x y v u Q I rx ry h hs;obtain⟨p,xs,i,z,rfl,rfl,hq,he,q⟩:=h;cases rx
 obtain⟨t,rfl⟩:=ry;obtain⟨its,r,pl,hz⟩:=I.list hq;obtain⟨j,h1,h2,h3,h4,h5⟩:=TU he;obtain⟨w,ew,rw'⟩:=r.get h2;have hl:=r.length;have hn:=XT;have fin:EP X pins σ Q w s:=⟨z,H,I,rw',q⟩;by_cases h0:0<=i
 ·have hj:i.toNat=j:=by
   rw[seqIndex_of h0 h5]at h1;exact ZL h1
  exact item_listR pl.isList h0 (by omega) (by rw[hj];simpa using ew) fin hs
 ·have hj:(i+(its.toArray.size:Int)).toNat=j:=by
   rw[seqIndex_neg (by omega) h4]at h1;rw[ZP,←hl];exact ZL h1
  exact subscriptTail_builtinR (x:=w) pl.isList.typeIs slot_list_getitem.lookup
   (wpAny_getItem_list_neg (Q:=fun r s'=>r=w/\EP X pins σ Q r s') pl.isList (by omega) (by rw[ZP]<;>omega) (by omega) (by rw[hj];simpa using ew) ⟨rfl,fin⟩) hs
def GG:IxR X (rIxT X.K):=by
 intro value slice pins s σ H x y v u Q I rx ry h hs;obtain⟨p,xs,i,z,rfl,rfl,hq,he,q⟩:=h;cases rx
 obtain⟨t,rfl⟩:=ry;obtain⟨its,r,pl,hz⟩:=I.tuple hq;obtain⟨j,h1,h2,h3,h4,h5⟩:=TU he;obtain⟨w,ew,rw'⟩:=r.get h2;have hl:=r.length;have hn:=XT;have fin:EP X pins σ Q w s:=⟨z,H,I,rw',q⟩
 exact subscriptTail_builtinR (x:=w) pl.typeIs slot_tuple_getitem.lookup
  (getItem_tuple (j:=j) (Q:=fun r s'=>r=w/\EP X pins σ Q r s') pl (by omega) (by omega) (by rw[ZP,←hl];exact h1) (by simpa using ew) ⟨rfl,fin⟩) hs
def FZ(lo hi:Option Int)(n:Nat):(sliceBounds lo hi none n).1=((HT.sIx n 0 lo:Nat):Int)/\(sliceBounds lo hi none n).2.1=((HT.sIx n n hi:Nat):Int)/\(sliceBounds lo hi none n).2.2=1:=by
 refine⟨?_,?_,rfl⟩
 ·cases lo with
  |none=>simp[sliceBounds,HT.sIx]
  |some i=>
   simp only[sliceBounds,HT.sIx,Option.getD_none,show(1:Int)>0 by decide,if_true];by_cases h:i<0
   ·simp only[h,if_true]<;>omega
   ·simp only[h,Qh]<;>omega
 ·cases hi with
  |none=>simp[sliceBounds,HT.sIx]
  |some i=>
   simp only[sliceBounds,HT.sIx,Option.getD_none,show(1:Int)>0 by decide,if_true];by_cases h:i<0
   ·simp only[h,if_true]<;>omega
   ·simp only[h,Qh]<;>omega
def Aj(its:List Value)(lo hi:Option Int):slicePick its.toArray lo hi none=((its.drop (HT.sIx its.length 0 lo)).take (HT.sIx its.length its.length hi-HT.sIx its.length 0 lo)).toArray:=by
 obtain⟨h1,h2,h3⟩:=FZ lo hi its.toArray.size;unfold slicePick;rw[h1,h2,h3];simp only[sliceRange_one,pick_run,ZP]<;>rfl
def rSlL(K:Za):V->Option Int->Option Int->Hp->VK->Prop:=fun x lo hi H Q=>∃a xs,x=.ref a/\SqL K H a xs/\∀p,H p=none->Q (.ref p) (upd H p (.lst (cutV xs lo hi)))
def Im:SlR X (rSlL X.K):=by
 intro pins s σ H x v vl vu lo hi sl Q I rx hs pl pu h;obtain⟨a,xs,rfl,hx,q⟩:=h;cases rx
 obtain⟨its,r,ht,hz⟩:=I.list hx;have hlen:=r.length;refine⟨"list",_,slot_list_getitem.lookup,ht.isList.typeIs,?_⟩;refine wpAny_getItem_list_slice ht.isList hs pl pu .none (by simp) ?_ (by rw[ZP]<;>omega);rw[Aj,←hlen];refine⟨.ref s.heap.objs.size,_,I.laid (t':=s.toks) (o:=.lst (cutV xs lo hi)) (fun b ob q=>ZF _ q) (ZG _) ?_,rfl,q _ (I.hok.fresh (ZG _))⟩;exact⟨ZU (Nd xs lo hi) hz,_,0,(r.drop (HT.sIx xs.length 0 lo)).take (HT.sIx xs.length xs.length hi-HT.sIx xs.length 0 lo),ZN _ rfl⟩
def VW:V->Bool
 | .non=>true
 | .bl _=>true
 | .int _=>true
 | .str _=>true
 |_=>false
def eqV:V->V->Bool
 | .non,.non=>true
 | .bl a,.bl b=>a==b
 | .bl a,.int b=>(if a then 1 else 0)==b
 | .int a,.bl b=>a==(if b then 1 else 0)
 | .int a,.int b=>a==b
 | .str a,.str b=>a==b
 |_,_=>false
def TY{A:Around}{s:Shared}{y x:V}{u v:Value}(ry:RelV y u)(rx:RelV x v)(fy:VW y=true)(fx:VW x=true):SeqAt.EqAt A s u v (eqV y x):=by
 cases y with
 |non=>
  cases ry
  cases x with
  |non=>cases rx;exact SeqAt.EqAt.same _
  |bl b=>cases rx;exact SeqAt.EqAt.none_bool b
  |int b=>obtain⟨t,rfl⟩:=rx;exact SeqAt.EqAt.none_int b t
  |str b=>obtain⟨t,rfl⟩:=rx;exact SeqAt.EqAt.none_str b t
  |_=>exact absurd (show false=true from fx) ZO
 |bl a=>
  cases ry
  cases x with
  |non=>cases rx;exact SeqAt.EqAt.bool_none a
  |bl b=>cases rx;exact SeqAt.EqAt.bool_bool a b
  |int b=>obtain⟨t,rfl⟩:=rx;exact SeqAt.EqAt.bool_int a b t
  |str b=>obtain⟨t,rfl⟩:=rx;exact SeqAt.EqAt.bool_str a b t
  |_=>exact absurd (show false=true from fx) ZO
 |int a=>
  obtain⟨t',rfl⟩:=ry;cases x with
  |non=>cases rx;exact SeqAt.EqAt.int_none a t'
  |bl b=>cases rx;exact SeqAt.EqAt.int_bool a t' b
  |int b=>obtain⟨t,rfl⟩:=rx;exact SeqAt.EqAt.int_int a t' b t
  |str b=>obtain⟨t,rfl⟩:=rx;exact SeqAt.EqAt.int_str a t' b t
  |_=>exact absurd (show false=true from fx) ZO
 |str a=>
  obtain⟨t',rfl⟩:=ry;cases x with
  |non=>cases rx;exact SeqAt.EqAt.str_none a t'
  |bl b=>cases rx;exact SeqAt.EqAt.str_bool a t' b
  |int b=>obtain⟨t,rfl⟩:=rx;exact SeqAt.EqAt.str_int a t' b t
  |str b=>obtain⟨t,rfl⟩:=rx;exact SeqAt.EqAt.str_str a t' b t
  |_=>exact absurd (show false=true from fx) ZO
 |_=>exact absurd (show false=true from fy) ZO
def eqU(x:V)(u:Value):Bool:=match u with
 | .none=>eqV .non x
 | .bool b=>eqV (.bl b) x
 | .int i _=>eqV (.int i) x
 | .str z _=>eqV (.str z) x
 |_=>false
def NC{x y:V}{u:Value}(r:RelV y u)(f:VW y=true):eqU x u=eqV y x:=by
 cases y with
 |non=>cases r;rfl
 |bl b=>cases r;rfl
 |int i=>obtain⟨t,rfl⟩:=r;rfl
 |str z=>obtain⟨t,rfl⟩:=r;rfl
 |_=>exact absurd (show false=true from f) ZO
def US{x:V}:∀{xs:List V}{us:List Value},Vals xs us->xs.all VW=true->us.any (eqU x)=xs.any fun y=>eqV y x
 |_,_,.nil,_=>rfl
 |y::xs,u::us,.cons r t,f=>by
  rw[List.all_cons,Yn]at f;rw[Wx,Wx,NC r f.1,US t f.2]
def Xf{A:Around}{s:Shared}{x:V}{v:Value}(rx:RelV x v)(fx:VW x=true):∀{xs:List V}{us:List Value},Vals xs us->xs.all VW=true->∀u∈us,SeqAt.EqAt A s u v (eqU x u)
 |_,_,.nil,_=>fun u hu=>by cases hu
 |y::xs,u::us,.cons r t,f=>fun u' hu=>by
  rw[List.all_cons,Yn]at f;rcases ZQ.mp hu with rfl|hu
  ·rw[NC r f.1];exact TY r rx f.1 fx
  ·exact Xf rx fx t f.2 u' hu
def inV(x:V)(xs:List V):Bool:=xs.any fun y=>eqV y x
def rIn(K:Za)(neg:Bool):R2:=fun x y H Q=>∃p xs,y=.ref p/\(SqL K H p xs\/SqT K H p xs)/\VW x=true/\xs.all VW=true/\Q (.bl (if neg then !inV x xs else inV x xs)) H
def DC:OpR X (compareOp .In) (rIn X.K false):=by
 intro pins s σ H x y v u Q I rx ry h;obtain⟨p,xs,rfl,hq,fx,fs,q⟩:=h;cases ry
 rcases hq with hq|hq
 ·obtain⟨its,r,pl,hz⟩:=I.list hq;refine SeqAt.in_listAt (eqU x) pl.isList (fun w hw=>Xf rx fx r fs w (by simpa using hw)) ⟨.bl _,H,I,rfl,?_⟩;rw[show its.toArray.any (eqU x)=its.any (eqU x) by simp,US r fs];exact q
 ·obtain⟨its,r,pl,hz⟩:=I.tuple hq;refine SeqAt.in_tupleAt (eqU x) pl (fun w hw=>Xf rx fx r fs w (by simpa using hw)) ⟨.bl _,H,I,rfl,?_⟩;rw[show its.toArray.any (eqU x)=its.any (eqU x) by simp,US r fs];exact q
def FG:OpR X (compareOp .NotIn) (rIn X.K true):=by
 intro pins s σ H x y v u Q I rx ry h;obtain⟨p,xs,rfl,hq,fx,fs,q⟩:=h;cases ry
 rcases hq with hq|hq
 ·obtain⟨its,r,pl,hz⟩:=I.list hq;refine SeqAt.notIn_listAt (eqU x) pl.isList (fun w hw=>Xf rx fx r fs w (by simpa using hw)) ⟨.bl _,H,I,rfl,?_⟩;rw[show its.toArray.any (eqU x)=its.any (eqU x) by simp,US r fs];exact q
 ·obtain⟨its,r,pl,hz⟩:=I.tuple hq;refine SeqAt.notIn_tupleAt (eqU x) pl (fun w hw=>Xf rx fx r fs w (by simpa using hw)) ⟨.bl _,H,I,rfl,?_⟩;rw[show its.toArray.any (eqU x)=its.any (eqU x) by simp,US r fs];exact q
def EO:VN X (.type "list") (fun xs H Q=>∃p ys,xs=[.ref p]/\(SqL X.K H p ys\/SqT X.K H p ys)/\∀l,H l=none->Q (.ref l) (upd H l (.lst ys))):=by
 intro pins s σ H xs us Q I r h;obtain⟨p,ys,rfl,hq,q⟩:=h;obtain⟨u,rfl,rx⟩:=vals1 r;cases rx
 have fin:∀(its:List Value),Vals ys its->ys.length<=sizeLine->∀(h':Heap) (c':Nat),(∀b o',s.heap.get? b=some o'->h'.get? b=some o')->
   h'.get? s.heap.objs.size=some {cls:=.type "list",dict:=none,data:=.seq its.toArray c',slots:=#[]}->EP X pins σ Q (.ref s.heap.objs.size) {s with heap:=h'}:=fun its r' hz h' c' kp e=>
  ⟨.ref s.heap.objs.size,_,I.laid (t':=s.toks) kp (ZG _) (show ObjOk X.prog X.w _ h' _ (.lst ys)from⟨hz,its,c',r',e⟩),rfl,q _ (I.hok.fresh (ZG _))⟩
 rcases hq with hq|hq
 ·obtain⟨its,r',pl,hz⟩:=I.list hq;have hlen:=r'.length;obtain⟨o,ho,hc,n,hd⟩:=pl.isList;exact call_list_seq p (.inl rfl) ho hc hd (fun h' c' kp e=>fin its r' hz h' c' kp e) (by simp only[ZP]<;>omega)
 ·obtain⟨its,r',pl,hz⟩:=I.tuple hq;have hlen:=r'.length;obtain⟨o,ho,hc,n,hd⟩:=pl;exact call_list_seq p (.inr rfl) ho hc hd (fun h' c' kp e=>fin its r' hz h' c' kp e) (by simp only[ZP]<;>omega)
def tyV(K:Za)(T:String)(x:V)(H:Hp):Prop:=match x with
 | .str _=>T = "str"
 | .int _=>T = "int"
 | .ref p=>(T = "list"/\∃xs,SqL K H p xs)\/(T = "tuple"/\∃o,K.lookup p=some o/\o.cls=.type "tuple"/\o.dict=none)\/
   (T = "dict"/\((∃kvs,H p=some (.dK kvs))\/∃kvs,H p=some (.dT kvs)))\/(T = "set"/\∃S n,H p=some (.set S n))
 |_=>False
def Bn{pins:List (Addr×Obj)}{σ:St}{H:Hp}{s:Shared}{T:String}{x:V}{v:Value}(I:Inv X pins σ H s)(r:RelV x v)(ty:tyV X.K T x H) :
  s.TypeIs v T/\∀a,v=.ref a->∃ob,s.heap.get? a=some ob/\ob.dict=none:=by
 cases x with
 |str z=>
  obtain⟨t,rfl⟩:=r;cases (show T = "str" from ty)
  exact⟨typeIs_str s z t,fun _ e=>nomatch e⟩
 |int i=>
  obtain⟨t,rfl⟩:=r;cases (show T = "int" from ty)
  exact⟨typeIs_int s i t,fun _ e=>nomatch e⟩
 |ref p=>
  cases r
  rcases ty with⟨rfl,xs,hq⟩|⟨rfl,o,hk,hc,hd⟩|⟨rfl,hk⟩|⟨rfl,S,n,hk⟩
  ·obtain⟨its,_,pl,_⟩:=I.list hq;refine⟨pl.isList.typeIs,fun a e=>?_⟩;cases e
   obtain⟨o,n,e,c,hd,_⟩:=pl;exact⟨o,e,hd⟩
  ·refine⟨⟨o,I.kIn p o hk,hc⟩,fun a e=>?_⟩;cases e
   exact⟨o,I.kIn _ o hk,hd⟩
  ·have z:∃o,s.heap.get? p=some o/\o.ExactDict:=by
    rcases hk with⟨kvs,hk⟩|⟨kvs,hk⟩
    ·obtain⟨_,_,_,_,o,_,_,e,ex,_⟩:=I.hok p _ hk;exact⟨o,e,ex⟩
    ·obtain⟨_,_,_,_,o,_,_,e,ex,_⟩:=I.hok p _ hk;exact⟨o,e,ex⟩
   obtain⟨o,e,ex⟩:=z;refine⟨⟨o,e,ex.1⟩,fun a e2=>?_⟩;cases e2
   exact⟨o,e,ex.2.1⟩
  ·obtain⟨o,_,_,_,e,ex,_⟩:=I.hok p _ hk;refine⟨⟨o,e,ex.1⟩,fun a e2=>?_⟩;cases e2
   exact⟨o,e,ex.2.1⟩
 |_=>exact False.elim ty
def tBM0(K:Za)(T:String)(r:V->List V->Hp->VK->Prop)(to:TE):TE:=fun σ H Q=>to σ H fun x H1=>tyV K T x H1/\r x [] H1 Q
def tBM(K:Za)(T:String)(r:V->List V->Hp->VK->Prop)(to:TE)(t:TA):TE:=fun σ H Q=>to σ H fun x H1=>tyV K T x H1/\t σ H1 fun xs H2=>r x xs H2 Q
variable {o e:Expr}{es:List Expr}{to:TE}{t:TA}{name:Str}{apos cpos:Pos}{T id:String}{r:V->List V->Hp->VK->Prop}
def Al(pa:PlainAttrs T)(slot:Slot T name id)(hty:typeOf (.builtin id)=pure (.type "method_descriptor"))(hm:MtR X id r)(ho:PE X o to)(hbase:attributeBase o name X.env (eval o X.env)=eval o X.env:=by rfl)(hline:(apos.endLine==cpos.line)=true:=by rfl):PE X (.Call (.Attribute o name apos) [] [] cpos) (tBM0 X.K T r to):=by
 intro pins s σ H Q I h;refine wpAny_Call_method0_late hbase hline (thn (ho pins s σ H _ I h) fun v s1 ⟨x,H1,I1,r1,ty,q1⟩=>?_);obtain⟨h1,h2⟩:=Bn I1 r1 ty;exact⟨T,id,pa,slot,hty,h1,h2,Calls.callWith_builtin rfl (PySem.evalArgs_none (hm pins s1 σ H1 x [] v [] Q I1 r1 .nil q1))⟩
def JY(pa:PlainAttrs T)(slot:Slot T name id)(hty:typeOf (.builtin id)=pure (.type "method_descriptor"))(hm:MtR X id r)(ho:PE X o to)(ha:PA X (e::es) t)(hbase:attributeBase o name X.env (eval o X.env)=eval o X.env:=by rfl)
  (hfew:((backTo cpos (starEach (e::es) X.env)).all (fun x=>!x.1)&&(backToKw cpos (keywordEach [] X.env)).all (fun x=>x.1.isSome)
   && decide ((e::es).length+([]:List Keyword).length+(if ([]:List Keyword).isEmpty then 0 else 1)<30))=true:=by rfl)
  (hline:(apos.endLine==cpos.line)=true:=by rfl) (hs:starEach (e::es) X.env=(false,eval e X.env)::starEach es X.env:=by rfl) (hplain:(backTo cpos (starEach es X.env)).any (·.1)=false:=by rfl) :
  PE X (.Call (.Attribute o name apos) (e::es) [] cpos) (tBM X.K T r to t):=by
 intro pins s σ H Q I h;refine wpAny_Call_method_late hbase hfew hline rfl (thn (ho pins s σ H _ I h) fun v s1 ⟨x,H1,I1,r1,ty,q1⟩=>?_);obtain⟨h1,h2⟩:=Bn I1 r1 ty;refine⟨T,id,pa,slot,hty,h1,h2,?_⟩;have hA:=ha cpos pins s1 σ H1 _ I1 q1;rw[hs]at hA ⊢;refine Calls.callWith_builtin (by show(false || (backTo cpos (starEach es X.env)).any (·.1))=false;rw[hplain]<;>rfl) (Calls.evalArgs_plain ?_);exact thn hA fun us s2 ⟨vs,H2,I2,r2,q2⟩=>hm pins s2 σ H2 x vs v us Q I2 r1 r2 q2
end
def MtM(X:Cx)(id:String)(r:V->List V->Hp->VK->Prop):Prop:=
 ∀(pins:List (Addr×Obj)) (s:Shared) (σ:St) (H:Hp) (x:V) (xs:List V) (v:Value) (us:List Value) (Q:VK),Inv X pins σ H s->RelV x v->Vals xs us->r x xs H Q->
  wpAny (model X.prog X.w) X.A (call (.builtin id) (v::us)) (EP X pins σ Q) X.xe s
def Vals.one:∀{x:V}{us:List Value},Vals [x] us->∃u,us=[u]/\RelV x u
 |_,_,.cons r .nil=>⟨_,rfl,r⟩
def Vals.zero:∀{us:List Value},Vals [] us->us=[]
 |_,.nil=>rfl
def Vals.dropLast {xs:List V}{us:List Value} (h:Vals xs us):Vals xs.dropLast us.dropLast:=by
 induction h with
 |nil=>exact .nil
 |cons r t ih=>
  cases t with
  |nil=>exact .nil
  |cons q t'=>exact .cons r ih
def Gc{α:Type}(l:List α):l.eraseIdx (l.length-1)=l.dropLast:=by
 induction l with
 |nil=>rfl
 |cons a r ih=>
  cases r with
  |nil=>rfl
  |cons b r=>
   have e:(a::b::r).length-1=((b::r).length-1)+1:=by
    have h1:(a::b::r).length=r.length+2:=rfl;have h2:(b::r).length=r.length+1:=rfl;omega
   rw[e,List.eraseIdx_cons_succ,ih]
   all_goals rfl
section
variable {X:Cx}{pins:List (Addr×Obj)}{σ:St}{H:Hp}{s:Shared}{l b:Addr}{xs ys zs:List V}
def Inv.lset {its its':List Value}{n:Nat}{f:Array Value->Array Value}{t':Nat} (I:Inv X pins σ H s) (hH:H l=some (.lst xs))
  (e:s.heap.get? l=some {cls:=.type "list",data:=.seq its.toArray n}) (hf:f its.toArray=its'.toArray) (hv:Vals ys its') (hz:ys.length<=sizeLine) :
  Inv X pins σ (upd H l (.lst ys)) {s with heap:=s.heap.update l (Obj.mapSeq f),toks:=t'}:=by
 have q:=PySem.IsL.update e f;rw[hf]at q;refine I.write (x:=l) (e:=l) (by rw[hH];exact trivial) (.inl rfl) (fun b' u hb hu=>(Y4 s.heap (Obj.mapSeq f) (Ne.symm hb)).trans hu) ⟨_,q⟩ ?_;exact⟨hz,its',_,hv,q⟩
def Inv.lnew {its:List Value}{t':Nat} (I:Inv X pins σ H s) (hv:Vals ys its) (hz:ys.length<=sizeLine) :
  Inv X pins σ (upd H s.heap.objs.size (.lst ys)) {s with heap:=s.heap.push {cls:=.type "list",data:=.seq its.toArray},toks:=t'}:=
 I.laid (fun _ _ q=>ZF _ q) (ZG _) ⟨hz,its,0,hv,ZN _ rfl⟩
def Inv.fresh (I:Inv X pins σ H s):H s.heap.objs.size=none:=I.hok.fresh (ZG _)
def Inv.lstM (I:Inv X pins σ H s) (hH:H l=some (.lst xs)):xs.length<=sizeLine/\∃(its:List Value) (n:Nat),Vals xs its/\xs.length=its.length/\s.heap.get? l=some {cls:=.type "list",data:=.seq its.toArray n}:=by
 obtain⟨z,its,n,r,e⟩:=I.hok l _ hH;exact⟨z,its,n,r,r.length,e⟩
def Dh{n:Nat}(h:n<=sizeLine):Builtin.List.listTooLong n=false:=by
 unfold Builtin.List.listTooLong;exact ZR (by omega)
end
section
variable {X:Cx}
def Fe:V->List V->Hp->VK->Prop:=fun x vs H Q=>∃l xs y,x=.ref l/\vs=[y]/\H l=some (.lst xs)/\xs.length<sizeLine/\Q .non (upd H l (.lst (xs++[y])))
def JV:MtM X "list.append" Fe:=by
 intro pins s σ H x vs v us Q I rx rv h;obtain⟨l,xs,y,rfl,rfl,hH,hz,q⟩:=h;cases rx
 obtain⟨u,rfl,ru⟩:=rv.one;obtain⟨z,its,n,r,hl,e⟩:=I.lstM hH;refine call_meets F.slot_list_append ⟨_,e,rfl⟩ F.entry_list_append (F.args_list_append_2 _ _) (PySem.list_append l its.toArray n u (by rw[ZP];omega)) ⟨e,?_⟩;refine⟨.non,_,I.lset (its':=its++[u]) hH e (by simp) (r.append (.cons ru .nil)) ?_,rfl,q⟩;rw[ZS,Wf];omega
def An:V->List V->Hp->VK->Prop:=fun x vs H Q=>∃l b xs zs,x=.ref l/\vs=[.ref b]/\H l=some (.lst xs)/\H b=some (.lst zs)/\xs.length+zs.length<=sizeLine/\Q .non (upd H l (.lst (xs++zs)))
def Il:MtM X "list.extend" An:=by
 intro pins s σ H x vs v us Q I rx rv h;obtain⟨l,b,xs,zs,rfl,rfl,hH,hB,hz,q⟩:=h;cases rx
 obtain⟨u,rfl,ru⟩:=rv.one;cases ru
 obtain⟨z,its,n,r,hl,e⟩:=I.lstM hH;obtain⟨z2,its2,n2,r2,hl2,e2⟩:=I.lstM hB;have hsz:its.toArray.size+its2.toArray.size<=sizeLine:=by rw[ZP,ZP];omega
 have hlong:¬(!its.toArray.isEmpty&&Builtin.List.listTooLong (its.toArray.size+its2.toArray.size))=true:=by
  rw[Dh hsz,Bool.and_false];exact ZO
 refine call_meets F.slot_list_extend ⟨_,e,rfl⟩ F.entry_list_extend (F.args_list_extend_2 _ _)
  (AutoSeq1.list_extend_list_list_0 l its.toArray n b its2.toArray n2 hlong (by rw[ZP];omega) (by omega)) ⟨e,e2,?_⟩
 refine⟨.non,_,I.lset (its':=its++its2) hH e (by simp) (r.append r2) ?_,rfl,q⟩;rw[ZS];omega
def rPop:V->List V->Hp->VK->Prop:=fun x vs H Q=>∃l xs y,x=.ref l/\vs=[]/\H l=some (.lst xs)/\xs[xs.length-1]?=some y/\Q y (upd H l (.lst xs.dropLast))
def CO:MtM X "list.pop" rPop:=by
 intro pins s σ H x vs v us Q I rx rv h;obtain⟨l,xs,y,rfl,rfl,hH,hy,q⟩:=h;cases rx
 have hus:=rv.zero;subst hus;obtain⟨z,its,n,r,hl,e⟩:=I.lstM hH;obtain⟨u,hu,ru⟩:=r.get hy
 have hy':its.toArray[its.toArray.size-1]?=some u:=by
  show its.toArray[its.length-1]?=some u;rw[←Y8,←hl];exact hu
 refine call_meets F.slot_list_pop ⟨_,e,rfl⟩ F.entry_list_pop (F.args_list_pop_1 _) (MeetsSeq.list_pop_last l its.toArray n u hy' (by rw[ZP];omega)) ⟨e,?_⟩;refine⟨y,_,I.lset (its':=its.dropLast) hH e ?_ r.dropLast ?_,ru,q⟩
 ·show its.toArray.eraseIdxIfInBounds (its.toArray.size-1)=its.dropLast.toArray;rw[ZP,List.eraseIdxIfInBounds_toArray,Gc]
 ·rw[List.length_dropLast];omega
def rCat:R2:=fun x y H Q=>∃l b xs zs,x=.ref l/\y=.ref b/\H l=some (.lst xs)/\H b=some (.lst zs)/\xs.length+zs.length<=sizeLine/\∀p,H p=none->Q (.ref p) (upd H p (.lst (xs++zs)))
def Ak:OpR X (binaryOp .Add) rCat:=by
 intro pins s σ H x y v u Q I rx ry h;obtain⟨l,b,xs,zs,rfl,rfl,hH,hB,hz,q⟩:=h;cases rx
 cases ry
 obtain⟨z,its,n,r,hl,e⟩:=I.lstM hH;obtain⟨z2,its2,n2,r2,hl2,e2⟩:=I.lstM hB;refine PySem.P.add_list e e2 ?_ (by rw[ZP,ZP];omega);have ea:its.toArray++its2.toArray=(its++its2).toArray:=by simp
 rw[ea];exact⟨.ref _,_,I.lnew (t':=s.toks) (r.append r2) (by rw[ZS];omega),rfl,q _ I.fresh⟩
end
end L2
namespace Att
open PySem PySem.W PySem.Calls PyProof.Rows
def EJ{P:Params}{h:Heap}:∀(ns:List Int) (vs:List Value),WellAll P h vs (ns.map WData.int)->IntsAre vs ns:=by
 intro ns
 induction ns with
 |nil=>
  intro vs w;rw[List.map_nil]at w;cases w
  exact .nil
 |cons n ns ih=>
  intro vs w;rw[ZZ]at w;cases w with
  |cons a b=>
   cases a
   exact .cons _ _ (ih _ b)
def AA{l:OpenLaw}{n:Nat}(hn:l.most=some n){P:Params}{h:Heap}{args:List WData}{vals:List Value}(hpre:l.row.toRowW.claim.pre args=true)(hwl:WellAll P h vals args) :
  ∃a vs ns,vals=[Value.ref a]/\args=[WData.list (ns.map WData.int)]/\h.get? a=some {cls:=.type "list",data:=.seq vs.toArray}/\IntsAre vs ns/\ns.length<=n:=by
 have hsh:WShape.hasAll [] args [.list .int]=true:=(pre_splitW hpre).1;have hc:l.pre.holds [] {args:=args}=true:=(pre_splitW hpre).2;obtain⟨d,r,rfl,h1,h2⟩:=hasAllW_cons hsh;obtain rfl:=hasAllW_nil h2;obtain⟨xs,rfl,h3⟩:=hasW_list h1;obtain⟨ns,rfl⟩:=items_int h3
 have hlen:ns.length<=n:=by
  unfold OpenLaw.pre at hc
  have h4:(WTm.not (.lt (.lit (.int (n:Int))) (.len (.arg 0)))).holds [] {args:=[.list (ns.map .int)]}=true:=by
   have h4:=(holds_andW hc).1;rw[hn]at h4;exact h4
  have h5:=condW_of h4 (w_not (w_lt w_lit (w_len_list (w_arg rfl))));rw[ZA]at h5;refine Nat.le_of_not_lt fun q=>?_;have q':(n:Int)<((ns.length:Nat):Int):=by omega
  first
   |(rw[ZJ q']at h5;exact absurd h5 (by decide))
   |(simp at h5;omega)
 cases hwl with
 |cons w1 w2=>
  cases w2
  cases w1 with
  |list ho hall=>exact⟨_,_,ns,rfl,rfl,ho,EJ ns _ hall,hlen⟩
def Eb(l:OpenLaw)(args:List WData):l.row.toRowW.claim.post args (.bool true) args=true:=
 postW_of (r:=l.row.toRowW) (X:=(true==true))
  (show WShape.has [] (.bool true) .bool=true by first|rfl|decide|simp[WShape.has,WShape.arms,WShape.armsAll])
  (show(WTm.eq .res (.lit (.bool true))).value [] {args:=args,res:=some (.bool true),after:=args}=some (.bool (true==true))from w_eq_bool (w_res rfl) w_lit) rfl
def GK{l:OpenLaw}{n:Nat}{q:Program}{loose:List Str}{XP:(Str->Option Value)->Heap->Prop}{YP:World->Heap->Prop}{d:DefRec}(hn:l.most=some n)(hdf:d.params.defaults=[])
  (call:∀(w:World) (s₀ s₁:Shared) (mg mb:Str->Option Value) (fa:Addr) (o:Obj) (pm cd doc:Value) (a:Addr) (vs:List Value) (ns:List Int),
   Ground q loose [] XP w s₀ mg mb s₁.heap->YP w s₁.heap->
   s₁.heap.get? fa=some o->o.data=.func (docDef d.name d.params d.body d.scope pm cd doc)->s₁.heap.CodeRec cd d.name->mg d.name=some (.ref fa)->
   s₁.heap.get? a=some {cls:=.type "list",data:=.seq vs.toArray}->IntsAre vs ns->ns.length<=n->s₁.gens=#[]->
   codeAny (model l.prog w) callerA (.call (.ref fa) ⟨[.ref a],[]⟩) (fun r s'=>r=.ok (.ret (.bool true))/\OldK s₁.heap s'.heap/\s'.os=s₁.os/\AllBare s'.gens) s₁) :
  WalkO q loose XP YP l.row.toRowW d [] (fun f vs=>PySem.call f vs):=by
 intro w s₀ s₁ mg mb G Y fa o pm cd doc dV kV ho hd hcd hD hmg hg args vals as hpre hlay hrd hwl hlo;obtain rfl:dV=.none:=Dflts.none hD hdf;obtain rfl:kV=.none:=Dflts.noKw hD;obtain⟨a,vs,ns,rfl,rfl,hobj,hints,hlen⟩:=AA hn hpre hwl;refine enter_call (Wp (call w s₀ s₁ mg mb fa o pm cd doc a vs ns G Y ho (fd_plain hd) hcd hmg hobj hints hlen hg) fun r s' hq=>?_);obtain⟨rfl,h2,h3,h4⟩:=hq;exact⟨.inl ⟨.bool true,.bool true,[],rfl,fun _=>rfl,.bool true,Eb l _,fun _=>⟨List.Pairwise.nil,fun _ hm=>(nomatch hm)⟩⟩,h2,h3,h4⟩
end Att
namespace L2
open PySem PySem.Spec PyProof.Rows
def XS:∀{vs:List Value}{ns:List Int},IntsAre vs ns->Vals (ns.map V.int) vs
 |_,_,.nil=>.nil
 |_,_,.cons n t h=>.cons ⟨t,rfl⟩ (XS h)
def Only(H:Hp):Prop:=∀b,H b=none\/∃o xs,H b=some (.frz o (.lst xs))
def Hw{P:Program}{w:World}{K:Za}{mg mb:Str->Option Value}{CX:CXT}{k:Nat}{fa a:Addr}{fd:FuncData}{x:Str}{sp:Sp}{s₁:Shared}{vs:List Value}{ns:List Int}(KX:K.In s₁.heap)(hns:s₁.heap.Ns mainGlobals mg)(hb:s₁.heap.Ns builtinsNs mb)(hbb:∀x:Str,x≠"__name__"->mb x=bootBuiltins x)(hlim:s₁.heap.NoLimit)(hg:s₁.gens=#[])(ha:s₁.heap.get? a=some {cls:=.type "list",data:=.seq vs.toArray})(hi:IntsAre vs ns)(hl:ns.length<=sizeLine)(hr:Room k callerA)(F:∀base:Heap,K.In base->base.Ns mainGlobals mg->FnOk P w K mg base CX k fa fd [x] sp)(hbind:∀(s:Shared) (u:Value),BindsTo s fd ⟨[u],[]⟩ [(x,u)])(hsp:∀H:Hp,Only H->SqL K H a (ns.map V.int)->sp [.ref a] H (fun v _=>v=.bl true) fun _ _ _=>False)(hCX:∀H e s',CX [] H s₁ (fun _ _ _=>False) e s'->False) :
  codeAny (model P w) callerA (.call (.ref fa) ⟨[.ref a],[]⟩) (fun r s'=>r=.ok (.ret (.bool true))/\OldK s₁.heap s'.heap/\s'.os=s₁.os/\AllBare s'.gens) s₁:=by
 have rv:=XS hi;have lenV:=hi.length
 have core:∀H:Hp,Only H->SqL K H a (ns.map V.int)->HOk P w H s₁.heap->(∀b,H b≠none->b=a)->(H a≠none->K.lookup a=none)->
   codeAny (model P w) callerA (.call (.ref fa) ⟨[.ref a],[]⟩) (fun r s'=>r=.ok (.ret (.bool true))/\OldK s₁.heap s'.heap/\s'.os=s₁.os/\AllBare s'.gens) s₁:=by
  intro H hO hS hok hA hK;have base_of:∀{b:Addr} {o:Obj},s₁.heap.get? b=some o->H b=none->(hidT s₁.heap H).get? b=some o:=fun e n=>G1 e n
  have noA:∀{b:Addr} {o:Obj} {es:Array DictEntry} {ep:Nat},s₁.heap.get? b=some o->o.data=.dict es ep->H b=none:=fun {b o es ep} e d=>by
   cases q:H b with
   |none=>rfl
   |some u=>
    have e':b=a:=hA b (by rw[q];simp);subst e';rw[ha]at e;cases e;have d':Data.seq vs.toArray _=Data.dict es ep:=d;cases d'
  have nsK:∀{b:Addr} {m:Str->Option Value},s₁.heap.Ns b m->(hidT s₁.heap H).Ns b m:=fun {b m} ⟨o,es,ep,e,d,r⟩=>⟨o,es,ep,base_of e (noA e d),d,r⟩
  have hKb:K.In (hidT s₁.heap H):=fun b o e=>base_of (KX b o e) (by
   cases q:H b with
   |none=>rfl
   |some u=>
    have e':b=a:=hA b (by rw[q];simp);subst e';rw[hK (by rw[q];simp)]at e;cases e)
  have hM:Mod K mg (hidT s₁.heap H):=⟨hKb,nsK hns,⟨mb,nsK hb,hbb⟩,let ⟨mc,h1,h2⟩:=hlim;⟨mc,nsK h1,h2⟩⟩;have e0:Env0 P w K mg (hidT s₁.heap H) callerA [] s₁ H:=⟨rfl,hM,fun b o e=>AI e,Wq (GS _ _),trivial,fun b hb=>absurd (show b∈([]:List Addr)from hb) (by simp),hok,.of_eq hg⟩
  refine Wp ((F _ hKb (nsK hns)).run callerA [] s₁ H ⟨[.ref a],[]⟩ [.ref a] [.ref a] _ _ hr e0 (hbind s₁ (.ref a)) (.cons rfl .nil) (hsp H hO hS)) fun r s' h=>?_;cases r with
  |error e=>exact(hCX H e s' h).elim
  |ok fl=>
   cases fl with
   |next=>exact False.elim h
   |brk=>exact False.elim h
   |cont=>exact False.elim h
   |ret u=>
    obtain⟨v,H',os,bare,un,hok',r',q⟩:=h;have q':v=.bl true:=q;subst q';obtain rfl:u=Value.bool true:=r';refine⟨rfl,OldK.of_keep fun b o e=>?_,os,bare⟩;cases q:H b with
    |none=>exact un.keep b o e q (by intro z;exact absurd (show b∈([]:List Addr)from z) (by simp)) (by simp)
    |some u=>
     rcases hO b with z|⟨ob,xs,z⟩
     ·rw[q]at z;cases z
     ·have z2:=un.frzs b ob _ z;obtain⟨e1,_⟩:=hok b _ z;obtain⟨e2,_⟩:=hok' b _ z2;rw[e]at e1;cases e1;exact e2
 cases hk:K.lookup a with
 |some o=>
  have e:=KX a o hk;rw[ha]at e;cases e
  refine core (fun _=>none) (fun _=>.inl rfl) (.inr ⟨_,vs.toArray,_,hk,rfl,rfl,rfl,by rw[ZP,lenV];exact hl,by simpa using rv⟩) (fun b u z=>by have z':(none:Option HO)=some u:=z;cases z') (fun b z=>absurd rfl z) fun z=>absurd rfl z
 |none=>
  refine core (fun b=>if b=a then some (.frz {cls:=.type "list",data:=.seq vs.toArray} (.lst (ns.map V.int)))else none) (fun b=>?_) (.inl (.inr ⟨{cls:=.type "list",data:=.seq vs.toArray},ZK rfl⟩)) (fun b u z=>?_) (fun b z=>?_) fun _=>hk
  ·by_cases hb:b=a
   ·exact .inr ⟨_,_,ZK hb⟩
   ·exact .inl (ZI hb)
  ·by_cases hb:b=a
   ·have z':=(ZK hb).symm.trans z;cases z'
    subst hb;exact⟨ha,by rw[ZA];exact hl,vs,_,rv,ha⟩
   ·have z':=(ZI hb).symm.trans z;cases z'
  ·by_cases hb:b=a
   ·exact hb
   ·exact absurd (ZI hb) z
def DT{l:PySem.W.OpenLaw}{n k:Nat}{q:Program}{loose:List Str}{XP:(Str->Option Value)->Heap->Prop}{YP:World->Heap->Prop}{d:DefRec}{K:Params->Za}{CX:World->CXT}{sp:World->Sp}{x:Str}(hn:l.most=some n)(hn2:n<=sizeLine)(hdf:d.params.defaults=[])(hr:Room k callerA)(hY:∀(w:World) (h:Heap),YP w h->(K w.params).In h)
  (F:∀(w:World) (mg:Str->Option Value) (fa:Addr) (h:Heap),(K w.params).In h->h.Ns mainGlobals mg->mg d.name=some (.ref fa)->
   ∃fd:FuncData,(∀(s:Shared) (u:Value),BindsTo s fd ⟨[u],[]⟩ [(x,u)])/\
    ∀base:Heap,(K w.params).In base->base.Ns mainGlobals mg->FnOk l.prog w (K w.params) mg base (CX w) k fa fd [x] (sp w))
  (hsp:∀(w:World) (H:Hp) (a:Addr) (ns:List Int),ns.length<=n->Only H->SqL (K w.params) H a (ns.map V.int)->sp w [.ref a] H (fun v _=>v=.bl true) fun _ _ _=>False)
  (hCX:∀(w:World) (H:Hp) (s:Shared) (e:Value) (s':Shared),CX w [] H s (fun _ _ _=>False) e s'->False) :
  PySem.W.WalkO q loose XP YP l.row.toRowW d [] (fun f vs=>PySem.call f vs):=by
 refine Att.GK hn hdf fun w s₀ s₁ mg mb fa o pm cd doc a vs ns G Y ho hd hcd hmg hobj hints hlen hg=>?_;have KX:=hY w _ Y;obtain⟨fd,hb,hF⟩:=F w mg fa _ KX G.T.g hmg;exact Hw KX G.T.g G.T.b G.T.builtins G.T.nolimit hg hobj hints (ZU hlen hn2) hr hF hb (fun H hO hS=>hsp w H a ns hlen hO hS) fun H e s'=>hCX w H s₁ e s'
def Ci{l:PySem.W.OpenLaw}{n k:Nat}{q:Program}{loose:List Str}{XP:(Str->Option Value)->Heap->Prop}{YP:World->Heap->Prop}{d:DefRec}{K:Params->Za}{CX:CXT}{sp:Za->Sp}{x:Str}(hn:l.most=some n)(hn2:n<=sizeLine)(hdf:d.params.defaults=[])(hr:Room k callerA)(hY:∀(w:World) (h:Heap),YP w h->(K w.params).In h)
  (F:∀(w:World) (mg:Str->Option Value) (fa:Addr) (h:Heap),(K w.params).In h->h.Ns mainGlobals mg->mg d.name=some (.ref fa)->
   ∃fd:FuncData,(∀(s:Shared) (u:Value),BindsTo s fd ⟨[u],[]⟩ [(x,u)])/\
    ∀base:Heap,(K w.params).In base->base.Ns mainGlobals mg->FnOk l.prog w (K w.params) mg base CX k fa fd [x] (sp (K w.params)))
  (hsp:∀(K:Za) (H:Hp) (a:Addr) (ns:List Int),ns.length<=n->Only H->SqL K H a (ns.map V.int)->sp K [.ref a] H (fun v _=>v=.bl true) fun _ _ _=>False)
  (hCX:∀(H:Hp) (s:Shared) (e:Value) (s':Shared),CX [] H s (fun _ _ _=>False) e s'->False) :
  PySem.W.WalkO q loose XP YP l.row.toRowW d [] (fun f vs=>PySem.call f vs):=
 DT (K:=K) (CX:=fun _=>CX) (sp:=fun w=>sp (K w.params)) hn hn2 hdf hr hY F (fun w H a ns h1 h2 h3=>hsp (K w.params) H a ns h1 h2 h3) fun _ H s e s'=>hCX H s e s'
def JJ(s:Stmt):Arguments:=match s with
 | .FunctionDef _ a _ _ _ _ _ _ _ _=>a
 |_=>{posonlyargs:=[],args:=[],vararg:=none,kwonlyargs:=[],kw_defaults:=[],kwarg:=none,defaults:=[]}
def VZ(s:Stmt):List Stmt:=match s with
 | .FunctionDef _ _ b _ _ _ _ _ _ _=>b
 |_=>[]
def Vi(s:Stmt):Scope:=match s with
 | .FunctionDef _ _ _ _ _ _ sc _ _ _=>sc
 |_=>{kind:=.function,names:=[],isGenerator:=false,isCoroutine:=false}
abbrev CX0:CXT:=fun _ _ _ _ _ _=>False
abbrev E0:XK:=fun _ _ _=>False
def Df{X:Cx}:UE CX0 X E0:=fun _ _ _ _ _ _ _ h=>h.elim
structure Fun (K:Za) (x qual:Str) (st:Stmt) (f:Addr) (fd:FuncData):Prop where
 ex:∃(oc:Value) (od:Option Addr) (kV doc pm:Value) (an:Option Addr) (cdv ct:Value) (osl:Array (Option Value)),
  fd=PySem.W.fnOf x qual (JJ st) (VZ st) (Vi st) .none kV doc pm an cdv ct/\K.lookup f=some ⟨oc,od,.func fd,osl⟩/\PySem.W.codeIn K cdv qual=true
 kp:PySem.W.keepIn K (.ref f)=true
section
variable {P:Program}{w:World}{K:Za}{mg:Str->Option Value}{base:Heap}
def Fun.ok {x qual:Str}{st:Stmt}{f:Addr}{fd:FuncData}{N ps:List Str}{k:Nat}{sp:Sp} (F:Fun K x qual st f fd) (S:FnScope N ps (Vi st)) (len:∀vs H Q E,sp vs H Q E->vs.length=ps.length)
  (hbody:∀(cdv:Value) (A:Around) (outer:List Env) (s:Shared) (H:Hp) (vs:List V) (Q:VK) (E:XK),Room k (A.deeper (envOfC qual (Vi st) s.heap.objs.size f cdv))->sp vs H Q E->
   ∃t,PSs (cxOf CX0 P w K mg base N qual (Vi st) f cdv A outer s H E).nox (VZ st) t/\t {nx:=fun _ H'=>Q .non H',rt:=Q} (start N vs) H):FnOk P w K mg base CX0 (k+1) f fd ps sp:=by
 obtain⟨oc,od,kV,doc,pm,an,cdv,ct,osl,rfl,lk,hcd⟩:=F.ex;refine SM lk hcd S len fun A outer s H vs Q E hr hsp=>?_;obtain⟨t,h,q⟩:=hbody cdv A outer s H vs Q E hr hsp;exact⟨t,h.nox,q⟩
def Fun.binds {x qual:Str}{st:Stmt}{f:Addr}{fd:FuncData}{ps:List Str} (F:Fun K x qual st f fd)
  (h:∀(kV doc pm:Value) (an:Option Addr) (cdv ct:Value) (us:List Value),us.length=ps.length->bindArgs (PySem.W.fnOf x qual (JJ st) (VZ st) (Vi st) .none kV doc pm an cdv ct) ⟨us,[]⟩=pure (ps.zip us)):Binds K fd ps []:=by
 obtain⟨oc,od,kV,doc,pm,an,cdv,ct,osl,rfl,lk,hcd⟩:=F.ex;exact .all (h kV doc pm an cdv ct)
def Tt{x qual:Str}{st:Stmt}{f:Addr}{oc:Value}{od an:Option Addr}{osl:Array (Option Value)}{kV doc pm cdv ct:Value}(l:K.lookup f=some ⟨oc,od,.func (PySem.W.fnOf x qual (JJ st) (VZ st) (Vi st) .none kV doc pm an cdv ct),osl⟩)(c:PySem.W.codeIn K cdv qual=true)(k:PySem.W.keepIn K (.ref f)=true):Fun K x qual st f (PySem.W.fnOf x qual (JJ st) (VZ st) (Vi st) .none kV doc pm an cdv ct):=⟨⟨oc,od,kV,doc,pm,an,cdv,ct,osl,rfl,l,c⟩,k⟩
end
def Vx{A:Around}{k:Nat}(hr:Room k A):A.units+1<cLine:=Q3 (Nat.add_le_add_left (by decide:1<=64) _) hr.units
def FY{n:Nat}(h:n<=1000):n<sizeLine:=Q3 h (by decide)
section
variable {X:Cx}
def pv(i:Nat){x:Str}{pos:Pos}(hN:X.N[i]?=some x:=by rfl)(hv:Vis X.env.scope x:=by first|exact Or.inl rfl|exact Or.inr (Or.inl rfl)|exact Or.inr (Or.inr rfl))(hd:(x==("__debug__" : Str))=false:=by decide)(hcd:(x==("__classdict__" : Str))=false:=by decide):PE X (.Name x pos) (tVar i):=Hc hN hv hd hcd
end
def iteF{A B:Prop}(h:B):if false=true then A else B:=by
 rw[ZI ZO];exact h
def iteT{A B:Prop}(h:A):if true=true then A else B:=by
 rw[ZK rfl];exact h
def ite2{c A B:Prop}[Decidable c](h1:c->A)(h2:¬c->B):if c then A else B:=by
 by_cases h:c
 ·rw[ZK h];exact h1 h
 ·rw[ZI h];exact h2 h
def BX{c A B:Prop}[Decidable c](hc:c)(h:B):if (!decide c)=true then A else B:=by
 rw[ZJ hc];exact iteF h
def Same(H H':Hp):Prop:=∀b o,H b=some o->H' b=some o
def Same.refl (H:Hp):Same H H:=fun _ _ h=>h
def Same.trans {H H1 H2:Hp} (a:Same H H1) (b:Same H1 H2):Same H H2:=fun c o h=>b c o (a c o h)
def Same.free {H H':Hp} (e:Same H H') {l:Addr} (h:H' l=Option.none):H l=Option.none:=by
 cases q:H l with
 |none=>rfl
 |some o=>
  rw[e l o q]at h;cases h
def Same.seq {K:Za}{H H':Hp}{a:Addr}{xs:List V} (e:Same H H') (h:SqL K H a xs):SqL K H' a xs:=by
 rcases h with(h|⟨o,h⟩)|h
 ·exact .inl (.inl (e _ _ h))
 ·exact .inl (.inr ⟨o,e _ _ h⟩)
 ·exact .inr h
end L2
set_option maxHeartbeats 4000000
namespace L2
open PySem PySem.Spec PyProof.Rows
section
variable {κ:Type} [DecidableEq κ]
def valV(kvs:List (κ×V))(k:κ):Option V:=(kvs.find? fun kv=>decide (kv.1=k)).map (·.2)
def putK(kvs:List (κ×V))(k:κ)(v:V):List (κ×V):=
 if (kvs.any fun kv=>decide (kv.1=k))=true then kvs.map (fun kv=>if kv.1=k then(kv.1,v)else kv)else kvs++[(k,v)]
def Jr{p:κ×V}{r:List (κ×V)}{k:κ}(e:p.1=k):valV (p::r) k=some p.2:=by simp[valV,W1,e]
def Jp{p:κ×V}{r:List (κ×V)}{k:κ}(e:¬p.1=k):valV (p::r) k=valV r k:=by simp[valV,W1,e]
def Xh(k:κ):∀kvs:List (κ×V),(kvs.any fun kv=>decide (kv.1=k))=(valV kvs k).isSome
 |[]=>rfl
 |p::r=>by
  rw[Wx];by_cases e:p.1=k
  ·simp only[Jr e,ZJ e,Bool.true_or,Option.isSome_some]
  ·rw[Jp e,ZR e,Bool.false_or];exact Xh k r
def Sf(k j:κ)(y:V):∀kvs:List (κ×V),valV (kvs.map fun kv=>if kv.1=k then(kv.1,y)else kv) j=(valV kvs j).map fun x=>if j=k then y else x
 |[]=>rfl
 |p::r=>by
  have ih:=Sf k j y r;rw[ZZ];by_cases h:p.1=k
  ·rw[ZK h];by_cases e:p.1=j
   ·rw[Jr (p:=(p.1,y)) e,Jr e,Qq,ZK (e.symm.trans h)]
   ·rw[Jp (p:=(p.1,y)) e,Jp e,ih]
  ·rw[ZI h];by_cases e:p.1=j
   ·rw[Jr (p:=p) e,Jr e,Qq,ZI (fun z=>h (e.trans z))]
   ·rw[Jp (p:=p) e,Jp e,ih]
def NA(k j:κ)(y:V):∀kvs:List (κ×V),valV kvs k=none->valV (kvs++[(k,y)]) j=if j=k then some y else valV kvs j
 |[],_=>by
  by_cases e:k=j
  ·rw[ZK e.symm];exact Jr (p:=(k,y)) e
  ·rw[ZI (fun z=>e z.symm)];exact Jp (p:=(k,y)) e
 |p::r,hn=>by
  rw[QA];have hk:¬p.1=k:=fun z=>by rw[Jr z]at hn;cases hn
  rw[Jp hk]at hn;have ih:=NA k j y r hn;by_cases e:p.1=j
  ·rw[Jr e,Jr e,ZI (fun z=>hk (e.trans z))]
  ·rw[Jp e,Jp e,ih]
def NX(kvs:List (κ×V))(k j:κ)(y:V):valV (putK kvs k y) j=if j=k then some y else valV kvs j:=by
 unfold putK;by_cases a:(kvs.any fun kv=>decide (kv.1=k))=true
 ·rw[ZK a,Sf];rw[Xh]at a;by_cases e:j=k
  ·obtain⟨x,hx⟩:=Option.isSome_iff_exists.mp a;rw[ZK e,e,hx,Qq,ZK rfl]
  ·rw[ZI e];cases valV kvs j with
   |none=>rfl
   |some x=>rw[Qq,ZI e]
 ·rw[ZI a];refine NA k j y kvs ?_;rw[Xh]at a;cases q:valV kvs k with
  |none=>rfl
  |some x=>rw[q]at a;exact(a rfl).elim
def X1(kvs:List (κ×V))(k:κ)(v:V):(putK kvs k v).length<=kvs.length+1:=by
 unfold putK;split
 ·rw[ZA];omega
 ·rw[ZS,Ya,List.length_nil];omega
def AV{kvs:List (κ×V)}{k:κ}(v:V)(h:valV kvs k=none):putK kvs k v=kvs++[(k,v)]:=by
 unfold putK;rw[Xh,h];exact ZI (by decide)
def RelO.isSome_eq {o:Option V}{u:Option Value} (r:RelO o u):o.isSome=u.isSome:=by
 cases o with
 |none=>cases u with
  |none=>rfl
  |some _=>exact(show False from r).elim
 |some _=>cases u with
  |none=>exact(show False from r).elim
  |some _=>rfl
def KV.val {kvs:List (κ×V)}{vs:List (κ×Value)} (r:KV kvs vs) (k:κ):RelO (valV kvs k) (valueAt vs k):=by
 unfold KV at r
 induction r with
 |nil=>exact True.intro
 | @cons p q ps qs h t ih=>
  obtain⟨h1,h2⟩:=h;by_cases e:p.1=k
  ·have e':q.1=k:=h1.symm.trans e;have b:valueAt (q::qs) k=some q.2:=by simp[valueAt,W1,e']
   rw[Jr e,b];exact h2
  ·have e':¬q.1=k:=fun z=>e (h1.trans z);have b:valueAt (q::qs) k=valueAt qs k:=by simp[valueAt,W1,e']
   rw[Jp e,b];exact ih
def KV.any {kvs:List (κ×V)}{vs:List (κ×Value)} (r:KV kvs vs) (k:κ):(kvs.any fun kv=>decide (kv.1=k))=vs.any fun kv=>decide (kv.1=k):=by
 unfold KV at r
 induction r with
 |nil=>rfl
 |cons h t ih=>rw[Wx,Wx,ih,h.1]
def KV.repl {kvs:List (κ×V)}{vs:List (κ×Value)} (r:KV kvs vs) (k:κ) {y:V}{u:Value} (ry:RelV y u) :
  KV (kvs.map fun kv=>if kv.1=k then(kv.1,y)else kv) (vs.map fun kv=>if kv.1=k then(kv.1,u)else kv):=by
 unfold KV at r ⊢
 induction r with
 |nil=>exact .nil
 | @cons p q ps qs h t ih=>
  rw[ZZ,ZZ];refine .cons ?_ ih;obtain⟨h1,h2⟩:=h;by_cases e:p.1=k
  ·rw[ZK e,ZK (h1.symm.trans e)];exact⟨h1,ry⟩
  ·rw[ZI e,ZI (fun z=>e (h1.trans z))];exact⟨h1,h2⟩
def KV.put {kvs:List (κ×V)}{vs:List (κ×Value)} (r:KV kvs vs) (k:κ) {y:V}{u:Value} (ry:RelV y u):KV (putK kvs k y) (stored vs k u):=by
 unfold putK stored;rw[r.any k];by_cases e:(vs.any fun kv=>decide (kv.1=k))=true
 ·rw[ZK e,ZK e];exact r.repl k ry
 ·rw[ZI e,ZI e];exact Paired.snoc r ⟨rfl,ry⟩
def KV.length {kvs:List (κ×V)}{vs:List (κ×Value)} (r:KV kvs vs):kvs.length=vs.length:=Paired.length r
end
def UZ{P:Program}{w:World}{k:Key}{u:Value}(r:RelV (kV k) u):(Jb P w).is k u=true:=by
 cases k with
 |inl i=>obtain⟨t,e⟩:=(show ∃t,u=Value.int i t from r);subst e;exact Cd P w i t
 |inr x=>obtain⟨t,e⟩:=(show ∃t,u=Value.str x t from r);subst e;exact CM P w x t
def By{P:Program}{w:World}:∀{ks:List Key}{us:List Value},Vals (ks.map kV) us->ItemsAre (Jb P w) ks us
 |[],_,r=>by rw[List.map_nil]at r;cases r;exact .nil
 |k::ks,_,r=>by
  rw[ZZ]at r;cases r with
  |cons h t=>exact .cons (UZ h) (By t)
abbrev KT(H:Hp):List (List Key×V)->List (List Key×Addr×Value)->Prop:=Paired fun p q=>p.1=q.1/\H q.2.1=some (.tup (p.1.map kV))/\RelV p.2 q.2.2
def KT.val {H:Hp}{kvs:List (List Key×V)}{xs:List (List Key×Addr×Value)} (r:KT H kvs xs) (k:List Key):RelO (valV kvs k) ((atKey xs k).map (·.2)):=by
 induction r with
 |nil=>exact True.intro
 | @cons p q ps qs h t ih=>
  obtain⟨h1,_,h2⟩:=h;by_cases e:p.1=k
  ·have e':q.1=k:=h1.symm.trans e;have b:atKey (q::qs) k=some q.2:=by simp[atKey,W1,e']
   rw[Jr e,b];exact h2
  ·have e':¬q.1=k:=fun z=>e (h1.trans z);have b:atKey (q::qs) k=atKey qs k:=by simp[atKey,W1,e']
   rw[Jp e,b];exact ih
def KT.repl {H:Hp}{kvs:List (List Key×V)}{xs:List (List Key×Addr×Value)} (r:KT H kvs xs) (k:List Key) {y:V}{u:Value} (ry:RelV y u) :
  KT H (kvs.map fun kv=>if kv.1=k then(kv.1,y)else kv) (xs.map (putAt k u)):=by
 induction r with
 |nil=>exact .nil
 | @cons p q ps qs h t ih=>
  rw[ZZ,ZZ];refine .cons ?_ ih;obtain⟨h1,h2,h3⟩:=h;unfold putAt;by_cases e:p.1=k
  ·rw[ZK e,ZK (h1.symm.trans e)];exact⟨h1,h2,ry⟩
  ·rw[ZI e,ZI (fun z=>e (h1.trans z))];exact⟨h1,h2,h3⟩
def KT.put {H:Hp}{kvs:List (List Key×V)}{xs:List (List Key×Addr×Value)} (r:KT H kvs xs) (k:List Key) {b:Addr}{y:V}{u:Value} (hb:H b=some (.tup (k.map kV))) (ry:RelV y u) :
  KT H (putK kvs k y) (storedH xs k b u):=by
 have e:(kvs.any fun kv=>decide (kv.1=k))=(atKey xs k).isSome:=by
  rw[Xh,(r.val k).isSome_eq,Q6]
 unfold putK storedH;rw[e];by_cases q:(atKey xs k).isSome=true
 ·rw[ZK q,ZK q];exact r.repl k ry
 ·rw[ZI q,ZI q];exact Paired.snoc r ⟨rfl,hb,ry⟩
def KT.keeps {H H':Hp}{kvs:List (List Key×V)}{xs:List (List Key×Addr×Value)} (r:KT H kvs xs) (ht:∀b ys,H b=some (.tup ys)->H' b=some (.tup ys)):KT H' kvs xs:=
 Paired.mapP r fun _ _ z=>⟨z.1,ht _ _ z.2.1,z.2.2⟩
section
variable {P:Program}{w:World}{H:Hp}{h:Heap}{a:Addr}
def Nx{u:HO}(ok:HOk P w H h)(e:Rd H a u):ObjOk P w H h a u:=e.ok ok
def Xm{kvs:List (Key×V)}(ok:HOk P w H h)(e:Rd H a (.dK kvs)):kvs.length<=sizeLine/\(a==sysModules)=false/\∃vs,KV kvs vs/\h.DictOf (Jb P w) a vs:=
 show ObjOk P w H h a (.dK kvs)from Nx ok e
def DX{kvs:List (Key×V)}(ok:HOk P w H h)(e:H a=some (.dK kvs)):kvs.length<=sizeLine/\(a==sysModules)=false/\∃vs,KV kvs vs/\h.DictOf (Jb P w) a vs:=Xm ok (.inl e)
def U5{ks:List Key}(ok:HOk P w H h)(e:H a=some (.tup (ks.map kV))):(tupleKind (Jb P w)).is h ks a:=by
 obtain⟨_,its,r,o,h1,h2,n,h3⟩:=(show ObjOk P w H h a (.tup (ks.map kV))from ok a _ e)
 exact⟨o,its.toArray,n,h1,h2,h3,by simpa using By r⟩
def Xa{kvs:List (List Key×V)}(ok:HOk P w H h)(e:Rd H a (.dT kvs)):kvs.length<=sizeLine/\(a==sysModules)=false/\
  ∃xs,KT H kvs xs/\h.DictOfH (tupleKind (Jb P w)) a xs:=by
 obtain⟨z,y,xs,r,o,es,ep,h1,h2,h3,h4,h5⟩:=(show ObjOk P w H h a (.dT kvs)from Nx ok e)
 refine⟨z,y,xs,r,o,es,ep,h1,h2,h3,h4,fun x hx=>?_,h5⟩
 have all:∀{l:List (List Key×V)} {m:List (List Key×Addr×Value)},KT H l m->∀x∈m,(tupleKind (Jb P w)).is h x.1 x.2.1:=by
  intro l m q
  induction q with
  |nil=>intro x hx;exact nomatch hx
  | @cons p q ps qs hq t ih=>
   intro x hx;rcases ZQ.mp hx with e|hx
   ·subst e;exact U5 ok (by rw[←hq.1];exact hq.2.1)
   ·exact ih x hx
 exact all r x hx
def Fk{kvs:List (List Key×V)}(ok:HOk P w H h)(e:H a=some (.dT kvs)):kvs.length<=sizeLine/\(a==sysModules)=false/\
  ∃xs,KT H kvs xs/\h.DictOfH (tupleKind (Jb P w)) a xs:=Xa ok (.inl e)
end
def DGet(H:Hp)(a:Addr)(y:V)(r:Option V):Prop:=
 (∃kvs k,Rd H a (.dK kvs)/\y=kV k/\r=valV kvs k)\/∃kvs k b,Rd H a (.dT kvs)/\y=.ref b/\H b=some (.tup (k.map kV))/\r=valV kvs k
def DPut(H:Hp)(a:Addr)(y v:V)(H':Hp):Prop:=
 (∃kvs k,H a=some (.dK kvs)/\y=kV k/\kvs.length<sizeLine/\H'=upd H a (.dK (putK kvs k v)))\/
 ∃kvs k b,H a=some (.dT kvs)/\y=.ref b/\H b=some (.tup (k.map kV))/\kvs.length<sizeLine/\H'=upd H a (.dT (putK kvs k v))
def DGet.k {H:Hp}{a:Addr}{kvs:List (Key×V)}{k:Key} (e:H a=some (.dK kvs)):DGet H a (kV k) (valV kvs k):=.inl ⟨kvs,k,.inl e,rfl,rfl⟩
def DGet.t {H:Hp}{a b:Addr}{kvs:List (List Key×V)}{k:List Key} (e:H a=some (.dT kvs)) (eb:H b=some (.tup (k.map kV))):DGet H a (.ref b) (valV kvs k):=.inr ⟨kvs,k,b,.inl e,rfl,eb,rfl⟩
def DPut.k {H:Hp}{a:Addr}{kvs:List (Key×V)}{k:Key}{v:V} (e:H a=some (.dK kvs)) (hl:kvs.length<sizeLine):DPut H a (kV k) v (upd H a (.dK (putK kvs k v))):=.inl ⟨kvs,k,e,rfl,hl,rfl⟩
def DPut.t {H:Hp}{a b:Addr}{kvs:List (List Key×V)}{k:List Key}{v:V} (e:H a=some (.dT kvs)) (eb:H b=some (.tup (k.map kV))) (hl:kvs.length<sizeLine) :
  DPut H a (.ref b) v (upd H a (.dT (putK kvs k v))):=.inr ⟨kvs,k,b,e,rfl,eb,hl,rfl⟩
section
variable {X:Cx}{pins:List (Addr×Obj)}{σ:St}{H:Hp}{s:Shared}{a:Addr}{y v:V}{u r:Value}{o:Option V}{A:Around}{E:Value->Shared->Prop}
def Inv.big (I:Inv X pins σ H s):sysModules<s.heap.objs.size:=by
 have h:mainGlobals<s.heap.objs.size:=(I.mod.glob.keeps I.bk).lt;exact WN (by decide) h
def ER{Q:Value->Shared->Prop}(hu:A.units+1<cLine)(I:Inv X pins σ H s)(g:DGet H a y (some v))(ry:RelV y u)(h:∀w' s',Inv X pins σ H s'->RelV v w'->Q w' s') :
  wpAny (model X.prog X.w) A (getItem (.ref a) u) Q E s:=by
 rcases g with⟨kvs,k,e,ey,l⟩|⟨kvs,k,b,e,ey,eb,l⟩
 ·subst ey;obtain⟨z,hd,vs,rel,dd⟩:=Xm I.hok e;obtain⟨w',hw,rw'⟩:=RelO.some_of (v:=v) (o:=valueAt vs k) (by rw[l];exact rel.val k);exact wpAny_getItem_of (UZ ry) dd.mapOf hw (h w' _ (I.tok _) rw')
 ·subst ey;cases (show u=Value.ref b from ry)
  obtain⟨z,hd,xs,rel,dd⟩:=Xa I.hok e;obtain⟨w',hw,rw'⟩:=RelO.some_of (v:=v) (o:=(atKey xs k).map (·.2)) (by rw[l];exact rel.val k);obtain⟨p,hp,hp2⟩:=Option.map_eq_some_iff.mp hw;refine wpAny_getItem_heap (WO hu) (U5 I.hok eb) dd hp ?_;rw[hp2];exact h w' _ (I.tok _) rw'
def d_in{Q:Value->Shared->Prop}(hu:A.units+1<cLine)(I:Inv X pins σ H s)(g:DGet H a y o)(ry:RelV y u)(h:∀s',Inv X pins σ H s'->Q (.bool o.isSome) s') :
  wpAny (model X.prog X.w) A (compareOp .In u (.ref a)) Q E s:=by
 rcases g with⟨kvs,k,e,ey,l⟩|⟨kvs,k,b,e,ey,eb,l⟩
 ·subst ey;obtain⟨z,hd,vs,rel,dd⟩:=Xm I.hok e;refine wpAny_in_of (UZ ry) hd dd.mapOf ?_;rw[←(rel.val k).isSome_eq,←l];exact h _ (I.tok _)
 ·subst ey;cases (show u=Value.ref b from ry)
  obtain⟨z,hd,xs,rel,dd⟩:=Xa I.hok e;refine wpAny_in_heap (WO hu) (U5 I.hok eb) hd dd ?_;have q:=(rel.val k).isSome_eq;rw[Q6]at q;rw[←q,←l];exact h _ (I.tok _)
def DU{Q:Value->Shared->Prop}(hu:A.units+1<cLine)(I:Inv X pins σ H s)(g:DGet H a y o)(ry:RelV y u)(h:∀s',Inv X pins σ H s'->Q (.bool (!o.isSome)) s') :
  wpAny (model X.prog X.w) A (compareOp .NotIn u (.ref a)) Q E s:=by
 rcases g with⟨kvs,k,e,ey,l⟩|⟨kvs,k,b,e,ey,eb,l⟩
 ·subst ey;obtain⟨z,hd,vs,rel,dd⟩:=Xm I.hok e;refine wpAny_notIn_of (UZ ry) hd dd.mapOf ?_;rw[←(rel.val k).isSome_eq,←l];exact h _ (I.tok _)
 ·subst ey;cases (show u=Value.ref b from ry)
  obtain⟨z,hd,xs,rel,dd⟩:=Xa I.hok e;refine wpAny_notIn_heap (WO hu) (U5 I.hok eb) hd dd ?_;have q:=(rel.val k).isSome_eq;rw[Q6]at q;rw[←q,←l];exact h _ (I.tok _)
def XJ{h':Heap}{t':Nat}{ob:HO}(I:Inv X pins σ H s)(mu:Mut (H a))(hs:Heap.SameBut a s.heap h')(he:∃q,h'.get? a=some q)(new:ObjOk X.prog X.w (upd H a ob) h' a ob) :
  Inv X pins σ (upd H a ob) {s with heap:=h',toks:=t'}:=
 I.write (x:=a) (e:=a) mu (.inl rfl) (fun b q hb z=>(hs.2 b hb).trans z) he new
def Ha{P:Program}{w:World}{H':Hp}{h':Heap}{kvs:List (Key×V)}{vs:List (Key×Value)}(z:kvs.length<=sizeLine)(hd:(a==sysModules)=false)(rel:KV kvs vs)(dd:h'.DictOf (Jb P w) a vs) :
  ObjOk P w H' h' a (.dK kvs):=⟨z,hd,vs,rel,dd⟩
def HF{H':Hp}{Q:Unit->Shared->Prop}(hu:A.units+1<cLine)(I:Inv X pins σ H s)(g:DPut H a y v H')(ry:RelV y u)(rv:RelV v r)(h:∀s',Inv X pins σ H' s'->Q () s') :
  wpAny (model X.prog X.w) A (setItem (.ref a) u r) Q E s:=by
 rcases g with⟨kvs,k,e,ey,l,eH⟩|⟨kvs,k,b,e,ey,eb,l,eH⟩
 ·subst ey eH;obtain⟨z,hd,vs,rel,dd⟩:=DX I.hok e;have hz:vs.length<=sizeLine:=by rw[←rel.length];exact z
  have hl:(putK kvs k v).length<=sizeLine:=by have:=X1 kvs k v;omega
  refine wpAny_setItem_pairs (hsz:=hz) (UZ ry) dd fun h' dd' hs=>h _ ?_;have he:∃q,h'.get? a=some q:=let ⟨q,_,_,hq,_⟩:=dd';⟨q,hq⟩;exact XJ I (by rw[e];exact True.intro) hs he (Ha hl hd (rel.put k rv) dd')
 ·subst ey eH;cases (show u=Value.ref b from ry)
  obtain⟨z,hd,xs,rel,dd⟩:=Fk I.hok e;have hz:xs.length<=sizeLine:=by rw[←Paired.length rel];exact z
  have hl:(putK kvs k v).length<=sizeLine:=by have:=X1 kvs k v;omega
  refine wpAny_setItem_heap (hsz:=hz) (WO hu) (U5 I.hok eb) dd fun h' dd' hs=>h _ ?_;obtain⟨q,es,ep,hq,h2,h3,h4,_,h5⟩:=dd';refine XJ I (by rw[e];exact True.intro) hs ⟨q,hq⟩ ⟨hl,hd,_,(rel.put k eb rv).keeps fun c ys ec=>?_,q,es,ep,hq,h2,h3,h4,h5⟩;rw[Vl (Pr ec e (fun z=>nomatch z))];exact ec
end
def NoSl(i:Expr):Prop:=∀ov iv,subscripted i false ov iv=operate [ov,iv] (getItem ov iv)
def HK{prog:Program}{w:World}{A:Around}{E:Value->Shared->Prop}{s:Shared}{env:Env}{value slice:Expr}{pos:Pos}{T id:String}{Q:Value->Shared->Prop}(hl:typeLookup (.type T) "__getitem__"=pure (some (.builtin id)))(hs:NoSl slice)(h:wpAny (model prog w) A (eval value env) (fun o s₁=>wpAny (model prog w) A (eval slice env) (fun i s₂=>s₂.TypeIs o T/\wpAny (model prog w) A (getItem o i) Q E s₂) E s₁) E s) :
  wpAny (model prog w) A (eval (.Subscript value slice pos) env) Q E s:=by
 refine Subscript_ (Yu h (fun o s₁ h₁=>Yu h₁ (fun i s₂ h₂=>?_) fun _ _ x=>x) fun _ _ x=>x);obtain⟨hT,h₂⟩:=h₂;unfold subscriptTail;refine Z9 ?_;rw[getitemInPython_of_ne hT.not_modules];refine Z9 (wpAny_specialOf hT hl ?_)
 have fin:wpAny (model prog w) A (subscripted slice false o i) (fun r s₃=>wpAny (model prog w) A (letTemporaryGo value o r >>= fun _=>pure r) Q E s₃) E s₂:=by
  rw[hs o i];exact wpAny_operating (Yu h₂ (fun r s₃ h₃=>Z9 (wpAny_letTemporaryGo (ZD h₃))) fun _ _ x=>x)
 first
  |exact ZD (Z9 fin)
  |exact Z9 (ZD (Z9 fin))
  |exact Z9 fin
def GC{X:Cx}{pins:List (Addr×Obj)}{σ:St}{H:Hp}{s:Shared}{a:Addr}{y:V}{o:Option V}(I:Inv X pins σ H s)(g:DGet H a y o):s.TypeIs (.ref a) "dict":=by
 rcases g with⟨kvs,k,e,_,_⟩|⟨kvs,k,b,e,_,_,_⟩
 ·obtain⟨_,_,vs,_,dd⟩:=Xm I.hok e;exact dd.typeIs
 ·obtain⟨_,_,xs,_,dd⟩:=Xa I.hok e;exact dd.typeIs
def Tg(td ty:TE):TE:=fun σ H Q=>td σ H fun x H1=>ty σ H1 fun y H2=>∃a v,x=.ref a/\DGet H2 a y (some v)/\Q v H2
def tDIn(ty td:TE):TE:=fun σ H Q=>ty σ H fun y H1=>td σ H1 fun x H2=>∃a o,x=.ref a/\DGet H2 a y o/\Q (.bl o.isSome) H2
def B9(ty td:TE):TE:=fun σ H Q=>ty σ H fun y H1=>td σ H1 fun x H2=>∃a o,x=.ref a/\DGet H2 a y o/\Q (.bl (!o.isSome)) H2
def Tx(td ty tv:TE):TS:=fun D σ H=>tv σ H fun v H1=>td σ H1 fun x H2=>ty σ H2 fun y H3=>∃a H4,x=.ref a/\DPut H3 a y v H4/\D.nx σ H4
section
variable {X:Cx}{o i e value:Expr}{pos pos' tpos:Pos}{td ty tv:TE}
def UV(hu:X.A.units+1<cLine)(ho:PE X o td)(hi:PE X i ty)(hs:NoSl i):PE X (.Subscript o i pos) (Tg td ty):=by
 intro pins s σ H Q I h;refine HK PySem.F.slot_dict_getitem.lookup hs (thn (ho pins s σ H _ I h) fun u s1 ⟨x,H1,I1,rx,q1⟩=>thn (hi pins s1 σ H1 _ I1 q1) fun iv s2 ⟨y,H2,I2,ry,a,v,ex,g,q2⟩=>?_);subst ex;obtain rfl:u=Value.ref a:=rx;exact⟨GC I2 g,ER hu I2 g ry fun w' s3 I3 rw'=>⟨v,H2,I3,rw',q2⟩⟩
def TR(hu:X.A.units+1<cLine)(hi:PE X i ty)(ho:PE X o td):PC X .In i o (tDIn ty td):=by
 intro pins s σ H Q I h;refine thn (hi pins s σ H _ I h) fun iv s1 ⟨y,H1,I1,ry,q1⟩=>thn (ho pins s1 σ H1 _ I1 q1) fun u s2 ⟨x,H2,I2,rx,a,ov,ex,g,q2⟩=>?_;subst ex;obtain rfl:u=Value.ref a:=rx;exact d_in hu I2 g ry fun s3 I3=>⟨.bl ov.isSome,H2,I3,rfl,q2⟩
def N1(hu:X.A.units+1<cLine)(hi:PE X i ty)(ho:PE X o td):PC X .NotIn i o (B9 ty td):=by
 intro pins s σ H Q I h;refine thn (hi pins s σ H _ I h) fun iv s1 ⟨y,H1,I1,ry,q1⟩=>thn (ho pins s1 σ H1 _ I1 q1) fun u s2 ⟨x,H2,I2,rx,a,ov,ex,g,q2⟩=>?_;subst ex;obtain rfl:u=Value.ref a:=rx;exact DU hu I2 g ry fun s3 I3=>⟨.bl (!ov.isSome),H2,I3,rfl,q2⟩
def KW(hu:X.A.units+1<cLine)(ho:PE X o td)(hi:PE X i ty)(hv:PE X value tv)(hs:swapsWith value (some (.Subscript o i pos')) pos.line X.env=pure false) :
  PS X (.Assign [.Subscript o i pos'] value pos) (Tx td ty tv):=by
 intro pins s σ H D I h;refine wpAny_Assign_Subscript (thn (hv pins s σ H _ I h) fun r s1 ⟨v,H1,I1,rv,q1⟩=>thn (ho pins s1 σ H1 _ I1 q1) fun u s2 ⟨x,H2,I2,rx,q2⟩=>thn (hi pins s2 σ H2 _ I2 q2) fun iv s3 ⟨y,H3,I3,ry,a,H4,ex,g,q3⟩=>?_) hs;subst ex;obtain rfl:u=Value.ref a:=rx;exact HF hu I3 g ry rv fun s4 I4=>⟨σ,H4,I4,q3⟩
end
def E7{P:Program}{w:World}{H:Hp}(h:Heap)(hb:sysModules<h.objs.size):ObjOk P w H (h.push {cls:=.type "dict",data:=.dict #[]}) h.objs.size (.dK []):=
 ⟨YJ _,Qx.mpr (Ne.symm (Ye hb)),[],.nil,Heap.DictOf.new h⟩
def Gw{P:Program}{w:World}{H:Hp}(h:Heap)(hb:sysModules<h.objs.size):ObjOk P w H (h.push {cls:=.type "dict",data:=.dict #[]}) h.objs.size (.dT []):=
 ⟨YJ _,Qx.mpr (Ne.symm (Ye hb)),[],.nil,_,#[],0,ZN _ rfl,⟨rfl,rfl,rfl⟩,rfl,rfl,YZ⟩
def Fs:TE:=fun _ H Q=>∀p,H p=none->Q (.ref p) (upd H p (.dK []))
section
variable {X:Cx}{pos:Pos}
def Bt:PE X (.Dict [] [] pos) Fs:=fun pins s σ H Q I h=>
 wpAny_Dict_empty ⟨.ref s.heap.objs.size,_,I.laid (a:=s.heap.objs.size) (o:=.dK []) (t':=s.toks) (fun _ _ q=>ZF _ q) (ZG _) (E7 s.heap I.big),rfl,h _ (I.hok.fresh (ZG _))⟩
end
def Si:List (TE×TE)->St->Hp->(List (V×V)->Hp->Prop)->Prop
 |[],_,H,Q=>Q [] H
 |(tk,tv)::r,σ,H,Q=>tk σ H fun x H1=>tv σ H1 fun y H2=>Si r σ H2 fun ps H3=>Q ((x,y)::ps) H3
abbrev VV:List (V×V)->List (Value×Value)->Prop:=Paired fun p q=>RelV p.1 q.1/\RelV p.2 q.2
def PPs(X:Cx)(pos:Pos)(keys:List (Option Expr))(values:List Expr)(trs:List (TE×TE)):Prop:=
 ∀(pins:List (Addr×Obj)) (s:Shared) (σ:St) (H:Hp) (Q:List (V×V)->Hp->Prop),Inv X pins σ H s->Si trs σ H Q->
  wpAny (model X.prog X.w) X.A (evalPairs (pairTrees keys values X.env pos)) (fun vs s'=>∃ps H',Inv X pins σ H' s'/\VV ps vs/\Q ps H') X.xe s
def Cr{X:Cx}{pos:Pos}:PPs X pos [] [] []:=fun pins s σ H Q I h=>pairTrees_nil_walk ⟨[],H,I,.nil,h⟩
def FE{X:Cx}{pos:Pos}{k v:Expr}{ks:List (Option Expr)}{vs:List Expr}{tk tv:TE}{trs:List (TE×TE)}(hk:PE X k tk)(hv:PE X v tv)(hr:PPs X pos ks vs trs) :
  PPs X pos (some k::ks) (v::vs) ((tk,tv)::trs):=fun pins s σ H Q I h=>
 pairTrees_cons_walk (thn (hk pins s σ H _ I h) fun u s1 ⟨x,H1,I1,rx,q1⟩=>thn (hv pins s1 σ H1 _ I1 q1) fun w2 s2 ⟨y,H2,I2,ry,q2⟩=>
  thn (hr pins s2 σ H2 _ I2 q2) fun ws s3 ⟨ps,H3,I3,rel,q3⟩=>⟨(x,y)::ps,H3,I3,.cons ⟨rx,ry⟩ rel,q3⟩)
end L2
set_option genInjectivity false
set_option genSizeOfSpec false
namespace Own
open PySem PySem.Spec PyProof.Rows L2
structure Def (K:Za) (mg:Str->Option Value) (x:Str) (st:Stmt) (ps:List Str):Prop where
 ex:∃f fd,Fun K x x st f fd/\mg x=some (.ref f)/\Binds K fd ps []
structure Callee (P:Program) (w:World) (K:Za) (mg:Str->Option Value) (base:Heap) (CX:CXT) (k:Nat) (x:Str) (ps:List Str) (sp:Sp):Prop where
 ex:∃f fd,FnOk P w K mg base CX k f fd ps sp/\mg x=some (.ref f)/\PySem.W.keepIn K (.ref f)=true/\(∃o:Obj,K.lookup f=some o/\o.data=.func fd)/\Binds K fd ps []
section
variable {P:Program}{w:World}{K:Za}{mg:Str->Option Value}{base:Heap}
def Callee.at {CX:CXT}{x:Str}{st:Stmt}{f:Addr}{fd:FuncData}{k:Nat}{ps:List Str}{sp:Sp} (C:Callee P w K mg base CX k x ps sp) (hm:mg x=some (.ref f)) (F:Fun K x x st f fd) (_:Def K mg x st ps):FnOk P w K mg base CX k f fd ps sp:=by
 obtain⟨f',fd',Fo,hm',_,hl,_⟩:=C.ex;rw[hm]at hm';cases hm'
 obtain⟨oc,od,kV,doc,pm,an,cdv,ct,osl,_,lk,_⟩:=F.ex;obtain⟨o',lk',hd'⟩:=hl;rw[lk]at lk';cases lk'
 cases hd'
 exact Fo
def Def.ok {x:Str}{st:Stmt}{N ps:List Str}{k:Nat}{sp:Sp} (D:Def K mg x st ps) (S:FnScope N ps (Vi st)) (len:∀vs H Q E,sp vs H Q E->vs.length=ps.length)
  (hbody:∀(f:Addr) (cdv:Value) (A:Around) (outer:List Env) (s:Shared) (H:Hp) (vs:List V) (Q:VK) (E:XK),Room k (A.deeper (envOfC x (Vi st) s.heap.objs.size f cdv))->sp vs H Q E->
   ∃t,PSs (cxOf CX0 P w K mg base N x (Vi st) f cdv A outer s H E).nox (VZ st) t/\t {nx:=fun _ H'=>Q .non H',rt:=Q} (start N vs) H):Callee P w K mg base CX0 (k+1) x ps sp:=by
 obtain⟨f,fd,F,hm,hb⟩:=D.ex;refine⟨f,fd,F.ok S len fun cdv A outer s H vs Q E hr h=>hbody f cdv A outer s H vs Q E hr h,hm,F.kp,?_,hb⟩;obtain⟨oc,od,kV,doc,pm,an,cdv,ct,osl,_,lk,_⟩:=F.ex;exact⟨_,lk,rfl⟩
end
section
variable {X:Cx}{CX:CXT}{k:Nat}{ps:List Str}{sp:Sp}{E:XK}{x:Str}{p pos:Pos}{e:Expr}{es:List Expr}{t:TA}
def UQ(C:Callee X.prog X.w X.K X.mg X.base CX k x ps sp)(hr:Room k X.A)(hx:UE CX X E)(ha:PA X (e::es) t)(hg:Gl X x:=by rfl)(hdb:(x==("__debug__" : Str))=false:=by decide)(he:starEach (e::es) X.env=(false,eval e X.env)::starEach es X.env:=by rfl)(hpl:(backTo pos (starEach es X.env)).any (·.1)=false:=by rfl) :
  PE X (.Call (.Name x p) (e::es) [] pos) (Xr sp [] E t):=by
 obtain⟨f,fd,F,hm,hk,_,hb⟩:=C.ex;exact Ef F hr hg hm hk hb .nil hx ha hdb he hpl
def CF:VN X (.builtin "isinstance") (fun xs H Q=>∃x n t b,xs=[x,.ty n]/\TyOf X.K H x t/\PySem.W.kitOne X.K t (.type n)=some b/\Q (.bl b) H):=by
 intro pins s σ H xs us Q I rv h;obtain⟨x,n,t,b,rfl,ty,e,q⟩:=h;cases rv with
 |cons r rr=>
  cases rr with
  |cons r' rr'=>
   cases rr'
   obtain rfl:_=Value.type n:=r';exact Hv I r ty e fun tk=>⟨.bl b,H,I.tok tk,rfl,q⟩
def Eh:IxR X (fun x y H Q=>rIxL X.K x y H Q\/rIxT X.K x y H Q):=ix_list.or GG
end
def NQ(t u:TS):TS:=fun D σ H=>∃J:L2.St->Hp->Prop,t {D with nx:=J} σ H/\∀σ' H',J σ' H'->u D σ' H'
def Td{X:Cx}{st:Stmt}{rest:List Stmt}{t u:TS}(h1:PS X st t)(h2:PSs X rest u):PSs X (st::rest) (NQ t u):=by
 intro pins s σ H D I h;obtain⟨J,h,k⟩:=h;refine wpAny_execs_cons (thn (h1 pins s σ H {D with nx:=J} I h) fun f s1 q=>?_)
 cases f with
 |next=>
  obtain⟨σ',H',I',q⟩:=q;exact h2 pins s1 σ' H' D I' (k σ' H' q)
 |ret v=>exact q
 |brk=>exact q
 |cont=>exact q
def Hz(K:Za)(n:String):PySem.W.kitOne K (.type n) (.type n)=some true:=by
 unfold PySem.W.kitOne;rw[ZK (by simp)]
def JT{α β:Type}{f:α->β}{xs:List α}{i:Int}{v:α}(h:atI xs i=some v):atI (xs.map f) i=some (f v):=by
 unfold atI at h ⊢;rw[ZA];cases e:ixN xs.length i with
 |none=>rw[e]at h;cases h
 |some j=>
  rw[e]at h;have h':xs[j]?=some v:=h;show(xs.map f)[j]?=some (f v);rw[ZT,h'];rfl
def Bl{α:Type}{xs:List α}{i:Int}{v:α}(h0:0<=i)(h:xs[i.toNat]?=some v):atI xs i=some v:=by
 have e:((i.toNat:Nat):Int)=i:=by omega
 have:=Uw h
 rwa[e]at this
def VA{H:Hp}{a:Addr}{o:HO}(h:H a=none):Same H (upd H a o):=fun b u e=>by rw[Vl (Ja e h)];exact e
def Same.upd {H H':Hp}{a:Addr}{o:HO} (S:Same H H') (h:H a=none):Same H (upd H' a o):=fun b u e=>by rw[Vl (Ja e h)];exact S b u e
def Same.new {H H':Hp}{a:Addr}{o:HO} (S:Same H H') (h:H' a=none):Same H (L2.upd H' a o):=Own.Same.upd S (S.free h)
def Gq{env:Env}(names:List (Str×NameKind))(hall:∀x∈names,x.2=.free->∃c,env.cells.lookup x.1=some c):∀cs0:List (Str×Addr),(∀x c,cs0.lookup x=some c->env.cells.lookup x=some c)->
  ∃cl:List (Str×Addr),(forIn names cs0 (fun(x:Str×NameKind) (cs:List (Str×Addr))=>if (x.2 == .free)=true then(do let c ←cellOf env x.1;pure (ForInStep.yield ((x.1,c)::cs)))else pure (ForInStep.yield cs)):Sem (List (Str×Addr)))=pure cl/\
   (∀x c,cl.lookup x=some c->env.cells.lookup x=some c)/\(∀x,(∃c,cs0.lookup x=some c)->∃c,cl.lookup x=some c)/\∀x∈names,x.2=.free->∃c,cl.lookup x.1=some c:=by
 induction names with
 |nil=>
  intro cs0 h0;exact⟨cs0,rfl,h0,fun _ h=>h,fun x hx=>by cases hx⟩
 |cons y r ih=>
  intro cs0 h0;have ih':=ih fun x hx=>hall x (Yc _ hx);obtain⟨n,k⟩:=y;by_cases hk:k=.free
  ·subst hk;obtain⟨c,hc⟩:=hall (n,.free) Yo rfl
   have h1:∀x d,List.lookup x ((n,c)::cs0)=some d->env.cells.lookup x=some d:=fun x d e=>by
    rw[Y5]at e;by_cases hx:x=n
    ·subst hx;simp at e;subst e;exact hc
    ·have:(x==n)=false:=by simpa using hx
     rw[this]at e;exact h0 x d e
   obtain⟨cl,e,p1,p2,p3⟩:=ih' ((n,c)::cs0) h1;refine⟨cl,?_,p1,fun x hx=>p2 x ?_,fun x hx hf=>?_⟩
   ·rw[Qr];show((if (NameKind.free==NameKind.free)=true then(do let c ←cellOf env n;pure (ForInStep.yield ((n,c)::cs0)))else pure (ForInStep.yield cs0)) >>= _)=_
    rw[ZK (show(NameKind.free==NameKind.free)=true by decide)];have ec:cellOf env n=pure c:=by unfold cellOf;rw[hc]
    rw[ec];exact e
   ·rw[Y5];cases (x==n)
    ·exact hx
    ·exact⟨c,rfl⟩
   ·rcases ZQ.mp hx with rfl|hx
    ·exact p2 n ⟨c,by simp[Y5]⟩
    ·exact p3 x hx hf
  ·obtain⟨cl,e,p1,p2,p3⟩:=ih' cs0 h0;refine⟨cl,?_,p1,p2,fun x hx hf=>?_⟩
   ·rw[Qr];have hb:(k==NameKind.free)=false:=by simpa using hk
    show((if (k==NameKind.free)=true then(do let c ←cellOf env n;pure (ForInStep.yield ((n,c)::cs0)))else pure (ForInStep.yield cs0)) >>= _)=_
    rw[ZI (by rw[hb];decide)];exact e
   ·rcases ZQ.mp hx with rfl|hx
    ·exact absurd hf hk
    ·exact p3 x hx hf
def G7{env:Env}{sc:Scope}(hall:∀x∈sc.names,x.2=.free->∃c,env.cells.lookup x.1=some c) :
  ∃cl:List (Str×Addr),closureFor sc env=pure cl/\(∀x c,cl.lookup x=some c->env.cells.lookup x=some c)/\∀x∈sc.names,x.2=.free->∃c,cl.lookup x.1=some c:=by
 obtain⟨cl,e,p1,_,p3⟩:=Gq sc.names hall [] (fun x c h=>by cases h);refine⟨cl,?_,p1,p3⟩;unfold closureFor;show((forIn sc.names ([]:List (Str×Addr)) (fun(x:Str×NameKind) (cs:List (Str×Addr))=>if (x.2 == .free)=true then(do let c ←cellOf env x.1;pure (ForInStep.yield ((x.1,c)::cs)))else pure (ForInStep.yield cs)):Sem (List (Str×Addr))) >>= fun cs=>pure cs)=pure cl
 rw[e];rfl
def VG(X:Cx)(N':List Str)(sc:Scope)(cl:List (Str×Addr))(C:Addr)(s₃:Shared)(H₃:Hp)(ex:List Addr):Cx:=
 {X with N:=N',s₀:=s₃,H₀:=H₃,env:=compEnvC sc cl C X.env,outer:=X.stack,ex:=ex,fn:=fun _=>false,pn:=[],xe:=fun _ _=>False}
structure CompOk (X:Cx) (N':List Str) (φ:List (Option Nat)) (sc:Scope):Prop where
 kind:sc.kind=.function
 okind:X.env.scope.kind=.function
 nocell:∀y∈sc.names,y.2≠.cell
 names:∀y∈sc.names,y.2=.local->sc.names.lookup y.1=some .local
 frees:∀y∈sc.names,y.2=.free->X.env.scope.names.lookup y.1=some .cell
 len:φ.length=N'.length
 pick:∀(i:Nat) (x:Str) (j:Nat),N'[i]?=some x->φ[i]?=some (some j)->X.N[j]?=some x/\sc.names.lookup x=some .free
def atStart(φ:List (Option Nat))(σ:L2.St):L2.St:=φ.map fun o=>o.bind fun j=>(σ[j]?).join
def Sub(σ σ':L2.St):Prop:=σ'.length=σ.length/\∀(i:Nat) (v:V),σ[i]?=some (some v)->σ'[i]?=some (some v)
def Sub.refl {σ:L2.St}:Sub σ σ:=⟨rfl,fun _ _ h=>h⟩
def Sub.skip {σ σ':L2.St}{x:Option V} (h:Sub σ σ'):Sub (none::σ) (x::σ'):=by
 refine⟨by simp[h.1],fun i v e=>?_⟩;cases i with
 |zero=>simp at e
 |succ i=>simp at e ⊢;exact h.2 i v e
def BC{env:Env}(hk:env.scope.kind=.function):∀{names:List (Str×NameKind)}{x:Str},names.lookup x=some .free->env.scope.names.lookup x=some .cell->
  (names.map fun(n,k)=>if (k==NameKind.free&&env.scope.kind == .function&&env.kindOf n==some .cell)then(n,NameKind.cell)else(n,k)).lookup x=some .cell
 |[],_,h,_=>by simp at h
 |(n,k)::r,x,h,hc=>by
  have ih:=@BC env hk r x;show List.lookup x ((if (k==NameKind.free&&env.scope.kind == .function&&env.kindOf n==some .cell)=true then(n,NameKind.cell)else(n,k))::_)=_;cases hx:x==n with
  |true=>
   simp only[Y5,hx]at h;cases h
   have e:x=n:=by simpa using hx
   subst e;have hkk:env.kindOf x=some .cell:=hc;rw[hk,hkk];simp[Y5]
  |false=>
   simp only[Y5,hx]at h;by_cases hcc:(k==NameKind.free&&env.scope.kind == .function&&env.kindOf n==some .cell)=true
   ·rw[ZK hcc];simp only[Y5,hx];exact ih h hc
   ·rw[ZI hcc];simp only[Y5,hx];exact ih h hc
def Pe{env:Env}:∀{names:List (Str×NameKind)}{x:Str}{q:NameKind},
  (names.map fun(n,k)=>if (k==NameKind.free&&env.scope.kind == .function&&env.kindOf n==some .cell)then(n,NameKind.cell)else(n,k)).lookup x=some q->∃k,(x,k)∈names/\(q=k\/k=.free)
 |[],_,_,h=>by simp at h
 |(n,k)::r,x,q,h=>by
  have ih:=@Pe env r x q;have h':List.lookup x ((if (k==NameKind.free&&env.scope.kind == .function&&env.kindOf n==some .cell)=true then(n,NameKind.cell)else(n,k))::(r.map fun(n,k)=>if (k==NameKind.free&&env.scope.kind == .function&&env.kindOf n==some .cell)then(n,NameKind.cell)else(n,k)))=some q:=h;cases hx:x==n with
  |true=>
   have e:x=n:=by simpa using hx
   subst e;by_cases hcc:(k==NameKind.free&&env.scope.kind == .function&&env.kindOf x==some .cell)=true
   ·refine⟨k,Yo,.inr ?_⟩
    have:=(Yn _ _▸(Yn _ _▸hcc).1).1
    simpa using this
   ·rw[ZI hcc]at h';simp[Y5]at h';exact⟨k,Yo,.inl h'.symm⟩
  |false=>
   have h2:List.lookup x (r.map fun(n,k)=>if (k==NameKind.free&&env.scope.kind == .function&&env.kindOf n==some .cell)then(n,NameKind.cell)else(n,k))=some q:=by
    by_cases hcc:(k==NameKind.free&&env.scope.kind == .function&&env.kindOf n==some .cell)=true
    ·rw[ZK hcc]at h';simp only[Y5,hx]at h';exact h'
    ·rw[ZI hcc]at h';simp only[Y5,hx]at h';exact h'
   obtain⟨k',hm,hq⟩:=ih h2;exact⟨k',Yc _ hm,hq⟩
def Cv{prog:Program}{w:World}{A:Around}{R:Result->Shared->Prop}{s:Shared}{elt target iter:Expr}{ifs:List Expr}{scope:Scope}{pos:Pos}{it acc:Value}{env:Env}(I:Nat->Shared->Prop)
  (turn:∀n s,I n s->wpAny (model prog w) A (pyNext it) (fun r s₁=>match r with
   |none=>R (.ok .next) s₁
   |some v=>wpAny (model prog w) A (letOwnedTupleGo target it v) (fun _ s₁'=>wpAny (model prog w) A (assign target env v) (fun _ s₂=>
     wpAny (model prog w) A (forIn ifs true fun c r=>if r=true then do let ok ←isTrue c env (eval c env);pure (ForInStep.yield ok)else pure (ForInStep.yield r)) (fun ok s₃=>
      if ok=true then wpAny (model prog w) A (eval elt env) (fun x s₄=>
       wpAny (model prog w) A (call (.builtin "list.append") [acc,x]) (fun _ s₅=>∃m,m<n/\I m s₅) (fun _ _=>False) s₄) (fun _ _=>False) s₃
      else ∃m,m<n/\I m s₃) (fun _ _=>False) s₂) (fun _ _=>False) s₁') (fun _ _=>False) s₁) (fun _ _=>False) s)
  (n:Nat) (h:I n s) :
  codeAny (model prog w) A (.compLoop (.ListComp elt [⟨target,iter,ifs,0⟩] scope pos) 0 it acc env) R s:=by
 refine codeAny_loop rfl I (fun n s hI=>?_) n h;show wpAny _ A ((compTurn (.ListComp elt [⟨target,iter,ifs,0⟩] scope pos) 0 it acc env).onRaise (fun x=>do noteFrame x env;theTreesLotGoes x)) _ _ s
 refine wpAny_noted ?_;rw[compTurn_list];refine Z9 (wpAny_standAt (Z9 (Yu (turn n s hI) (fun r s₁ h₁=>?_) fun _ _ h'=>h'.elim)));cases r with
 |none=>exact ZD h₁
 |some v=>
  refine Z9 (Yu h₁ (fun _ s₁' h₁'=>?_) fun _ _ h'=>h'.elim);refine Z9 (Yu h₁' (fun _ s₂ h₂=>Z9 (Yu h₂ (fun ok s₃ h₃=>?_) fun _ _ h'=>h'.elim)) fun _ _ h'=>h'.elim);cases ok with
  |false=>exact ZD ⟨rfl,h₃⟩
  |true=>
   exact Z9 (Z9 (Yu h₃ (fun x s₄ h₄=>Z9 (Yu h₄ (fun _ s₅ h₅=>ZD (ZD ⟨rfl,h₅⟩)) fun _ _ h'=>h'.elim)) fun _ _ h'=>h'.elim))
def PIfs(X:Cx)(ifs:List Expr)(t:TT):Prop:=
 ∀(pins:List (Addr×Obj)) (s:Shared) (σ:L2.St) (H:Hp) (Q:Bool->Hp->Prop),Inv X pins σ H s->t σ H Q->
  wpAny (model X.prog X.w) X.A (forIn ifs true fun c r=>if r=true then do let ok ←isTrue c X.env (eval c X.env);pure (ForInStep.yield ok)else pure (ForInStep.yield r)) (TP X pins σ Q) X.xe s
def Nt:TT:=fun _ H Q=>Q true H
def Up{X:Cx}:PIfs X [] Nt:=fun _ _ _ H _ I h=>ZD ⟨H,I,h⟩
def Jn{X:Cx}{c:Expr}{t:TT}(hc:PT X c t):PIfs X [c] t:=by
 intro pins s σ H Q I h;rw[Qr];refine Z9 ?_;rw[ZK rfl];exact Z9 (thn (hc pins s σ H Q I h) fun b s1 q=>ZD (ZD q))
def Xw(φ:List (Option Nat))(wi:TI)(g:TG)(tc:TT)(te:TE):TE:=fun σ H Q=>wi σ H fun J H1=>∀D,H1 D=none->∃W:Nat->Nat->List V->Hp->Prop,(∃m,W 0 m [] (upd H1 D (.lst [])))/\
 ∀i m ys H2,W i m ys H2->(J.stop i H2/\Q (.ref D) H2)\/(J.go i H2/\∀x H3,J.yld i H2 x H3->g x (atStart φ σ) H3 fun σ2 H4=>Sub (atStart φ σ) σ2/\tc σ2 H4 fun b H5=>
  if b=true then te σ2 H5 fun y H6=>H6 D=some (.lst ys)/\ys.length<sizeLine/\∃m',m'<m/\W (i+1) m' (ys++[y]) (upd H6 D (.lst (ys++[y])))else ∃m',m'<m/\W (i+1) m' ys H5)
def Inv.weak {X:Cx}{pins:List (Addr×Obj)}{σ σ':L2.St}{H:Hp}{s:Shared} (I:Inv X pins σ' H s) (S:Sub σ σ'):Inv X pins σ H s:=
 ⟨I.ok,I.os,I.bare,I.base,let ⟨m,hn,hl⟩:=I.loc;⟨m,hn,fun i x v h1 h2 h3=>hl i x v h1 (S.2 i v h2) h3⟩,I.cell,I.free,I.freeC,I.pin,I.hok,by rw[←S.1];exact I.len⟩
def Bv{φ:List (Option Nat)}{σ:L2.St}{i:Nat}{v:V}(h:(atStart φ σ)[i]?=some (some v)):∃j,φ[i]?=some (some j)/\σ[j]?=some (some v):=by
 unfold atStart at h;rw[ZT]at h;cases e:φ[i]? with
 |none=>rw[e]at h;cases h
 |some o=>
  rw[e]at h;cases o with
  |none=>simp at h
  |some j=>
   refine⟨j,rfl,?_⟩;simp at h;cases e2:σ[j]? with
   |none=>rw[e2]at h;simp at h
   |some w=>rw[e2]at h;simp at h;rw[h]
def CompEnd(X:Cx)(pins:List (Addr×Obj))(σ:L2.St)(Q:VK)(use:Option (Value->Sem Unit))(QQ:Value->Shared->Prop):Prop:=
 ∀(D C:Addr) (H5:Hp) (s6:Shared),Q (.ref D) H5->Inv X pins σ H5 s6->(∃m,s6.heap.Ns C m)->H5 C=none->C≠X.env.locals->X.s₀.heap.objs.size<=C->(∀x c,X.env.cells.lookup x=some c->c≠C)->(∀p∈X.pn++pins,p.1≠C)->C∉X.fs->
  compPost (model X.prog X.w) X.A X.xe use QQ (.ref D) C (.ok .next) s6
def Sq{X:Cx}{N':List Str}{φ:List (Option Nat)}{sc:Scope}{elt iter tg:Expr}{ifs:List Expr}{pos pos':Pos}{wi:TI}{g:TG}{tc:TT}{te:TE}{use:Option (Value->Sem Unit)}{QQ:Value->Shared->Prop}(hcalm:X.calm=true)(S:CompOk X N' φ sc)(hi:PI X tg iter wi)(hin:∀cl C s₃ H₃ ex,PG (VG X N' sc cl C s₃ H₃ ex) tg g/\PIfs (VG X N' sc cl C s₃ H₃ ex) ifs tc/\PE (VG X N' sc cl C s₃ H₃ ex) elt te)(hs:∀x,foldedSetIterable iter X.env x=pure x){pins:List (Addr×Obj)}{s:Shared}{σ:L2.St}{H:Hp}{Q:VK}(I:Inv X pins σ H s)(h:Xw φ wi g tc te σ H Q)(fin:CompEnd X pins σ Q use QQ) :
  wpAny (model X.prog X.w) X.A (comprehension (.ListComp elt [⟨tg,iter,ifs,0⟩] sc pos) sc X.env pos' (newList []) false (eval iter X.env) use) QQ X.xe s:=by
 obtain⟨cl,hcl,p1,p3⟩:=G7 (env:=X.env) (sc:=sc) fun x hx hf=>I.ok.has x.1 (.inl (S.frees x hx hf));refine wpAny_comprehension_free (use:=use) rfl hs hcl S.kind S.names ?_;refine thn (hi pins s σ H _ I h) fun v s1 h1=>thn h1 fun itv s2 h2=>?_;obtain⟨it,fp,tn,J,H2,e,I2,T,st2,f2,hR⟩:=h2;subst e;refine Yh ?_;have hf:H2 s2.heap.objs.size=none:=I2.hok.fresh (ZG _);obtain⟨W,⟨m0,w0⟩,turn⟩:=hR s2.heap.objs.size hf;generalize eD:s2.heap.objs.size=D at *
 have I3:Inv X pins σ (upd H2 D (.lst [])) {s2 with heap:=s2.heap.push {cls:=.type "list",dict:=none,data:=.seq ([]:List Value).toArray}}:=
  I2.laid (t':=s2.toks) (fun b u e=>ZF _ e) (Wq eD) ⟨YJ _,[],0,.nil,by rw[←eD];exact ZN _ rfl⟩
 have st3:tn 0 (s2.heap.push {cls:=.type "list",dict:=none,data:=.seq ([]:List Value).toArray}):=T.keep _ _ _ st2 fun b _ o e=>ZF _ e
 have hfpD:∀b∈fp,b≠D:=fun b hb z=>by
  obtain⟨o,ho,_⟩:=T.obj _ _ st2 b hb
  have:=ZH ho
  rw[z,←eD]at this;exact YM _ this
 have f3:∀b∈fp,FpOk X pins (upd H2 D (.lst [])) b:=fun b hb=>⟨by rw[Vl (hfpD b hb)];exact(f2 b hb).1,(f2 b hb).2⟩;generalize es3:({s2 with heap:=s2.heap.push {cls:=.type "list",dict:=none,data:=.seq ([]:List Value).toArray}}:Shared)=s3 at *
 have st3':tn 0 s3.heap:=by rw[←es3];exact st3
 generalize eH3:upd H2 D (.lst [])=H3 at *;refine wpAny_newFunctionEnv S.nocell (by intro y hy;simp at hy) (fun h₁ hns₁ hsb₁=>?_) S.kind;have hh3:s3.heap=s2.heap.push {cls:=.type "list",dict:=none,data:=.seq ([]:List Value).toArray}:=by rw[←es3]
 rw[hh3]at hns₁ hsb₁;rw[←hh3]at hns₁ hsb₁;have old:∀b o,s3.heap.get? b=some o->h₁.get? b=some o:=fun b o e=>hsb₁.extBut b o (Ye (ZH e)) (ZF _ e)
 have hC0:s3.heap.get? s3.heap.objs.size=none:=by
  cases e:s3.heap.get? s3.heap.objs.size with
  |none=>rfl
  |some o=>exact absurd (ZH e) (YM _)
 generalize eC:s3.heap.objs.size=C at *;have hH3C:H3 C=none:=I3.hok.fresh (Wq eC)
 have OK:(VG X N' sc cl C s3 H3 fp).Ok:=by
  refine⟨I.ok.mod,?_,I.ok.glob,I.ok.blt,Wq eC,fun x y c h1 h2=>I.ok.inj x y c (p1 x c h1) (p1 y c h2),?_,(fun x c hx=>by cases hx),I.ok.hd,I.ok.frames,.inl rfl,?_,I3.bs,ZU I.ok.bsz I3.sz,?_,?_,I3.stack,I3.stkFree⟩
  ·exact S.kind
  ·intro x hx;have hx':(∃k,(x,k)∈sc.names/\(NameKind.cell=k\/k=.free))\/∃k,(x,k)∈sc.names/\(NameKind.free=k\/k=.free):=hx.imp Pe Pe
   have hfr:(x,NameKind.free)∈sc.names:=by
    rcases hx' with⟨k,hm,rfl|rfl⟩|⟨k,hm,rfl|rfl⟩
    ·exact absurd rfl (S.nocell _ hm)
    ·exact hm
    ·exact hm
    ·exact hm
   exact p3 _ hfr rfl
  ·intro b hb;refine⟨fun z=>?_,fun x c hx=>(f3 b hb).2.2.2.2.1 x c (p1 x c hx)⟩;obtain⟨o,ho,_⟩:=T.obj _ _ st3' b hb;have z':b=C:=z;rw[z',hC0]at ho;cases ho
  ·intro b o hb hx;obtain⟨_,_,_,q,_,_⟩:=f3 b hx;rcases q with q|q
   ·exact I.ok.noex b o hb q
   ·have:=Yl (ZH hb) (ZU I.ok.bsz q)
    exact YM _ this
  ·intro b hb hz;rcases ZQ.mp (I.stkSub b hz)with q|q
   ·exact(f3 b hb).2.1 q
   ·exact(f3 b hb).2.2.1 q
 have hlen0:(atStart φ σ).length=N'.length:=by unfold atStart;rw[ZA];exact S.len
 have I4:Inv (VG X N' sc cl C s3 H3 fp) [] (atStart φ σ) H3 {s3 with heap:=h₁,toks:=s3.toks+([]:List (Str×Value)).length}:=by
  refine⟨OK,rfl,I3.bare,Un.kept old,⟨_,hns₁,fun i x v h1 h2 h3=>?_⟩,fun x c hx=>?_,hH3C,fun x c hx=>I3.freeC x c (p1 x c hx),fun p hp=>?_,I3.hok.kept old,hlen0⟩
  ·obtain⟨j,hj,hv⟩:=Bv h2;obtain⟨hN,hfr⟩:=S.pick i x j h1 hj;obtain⟨m,_,hl⟩:=I3.loc;have hm:(x,NameKind.free)∈sc.names:=YY hfr;have hcell:=S.frees _ hm rfl;obtain⟨u,ru,lk⟩:=hl j x v hN hv (.inr (.inl hcell));refine⟨u,ru,.inr ⟨.inl (BC S.okind hfr hcell),?_⟩⟩;obtain⟨c,hc⟩:=p3 _ hm rfl;rcases lk with⟨hk,_⟩|⟨_,c',hc',hcl'⟩
   ·have hk':X.env.scope.names.lookup x=some .local:=hk;rw[hcell]at hk';cases hk'
   ·have e:=p1 _ _ hc;rw[hc']at e;cases e
    obtain⟨o,ho,hd⟩:=hcl';exact⟨_,hc,o,old _ o ho,hd⟩
  ·obtain⟨v,hv⟩:=I3.cell x c (p1 x c hx);obtain⟨o,ho,hd⟩:=hv;exact⟨v,o,old _ o ho,hd⟩
  ·exact absurd hp (by simp[VG])
 have st4:tn 0 h₁:=T.keep _ _ _ st3' fun b _ o e=>old b o e
 have stat:∀{H':Hp},(∀b∈fp,H' b=none)->∀b∈fp,FpOk (VG X N' sc cl C s3 H3 fp) [] H' b:=fun hn b hb=>
  ⟨hn b hb,(OK.exf b hb).1,OK.exfs b hb,.inl hb,(OK.exf b hb).2,fun p hp=>absurd hp (by simp[VG])⟩
 obtain⟨hPG,hPI,hPE⟩:=hin cl C s3 H3 fp
 have loop:codeAny (model X.prog X.w) X.A (.compLoop (.ListComp elt [⟨tg,iter,ifs,0⟩] sc pos) 0 (.ref it) (.ref D) (compEnvC sc cl C X.env)) (compPost (model X.prog X.w) X.A X.xe use QQ (.ref D) C) {s3 with heap:=h₁,toks:=s3.toks+([]:List (Str×Value)).length}:=by
  refine Cv (fun n s'=>∃i ys σ' H',Inv (VG X N' sc cl C s3 H3 fp) [] σ' H' s'/\Sub (atStart φ σ) σ'/\tn i s'.heap/\(∀b∈fp,H' b=none)/\W i n ys H') ?_ m0 ⟨0,[],_,_,I4,Sub.refl,st4,fun b hb=>(f3 b hb).1,w0⟩;rintro n s5 ⟨i,ys,σ5,H5,I5,sub5,st5,fr5,w5⟩;have I5':=Own.Inv.weak I5 sub5;rcases turn i n ys H5 w5 with⟨stop,qn⟩|⟨go,step⟩
  ·refine thn (T.done (VG X N' sc cl C s3 H3 fp) rfl rfl rfl hcalm i [] s5 _ H5 _ I5' (stat fr5) st5 stop) fun r s6 ⟨hr,I6⟩=>?_;subst hr;obtain⟨m,hn,_⟩:=I6.loc;obtain⟨hh,gg,dd,tt,oo⟩:=s6;obtain rfl:oo=s3.os:=I6.os;have R:Inv X pins σ H5 {s3 with heap:=hh,gens:=gg,drawn:=dd,toks:=tt}:=I3.call (ch:=fp) (h':=hh) (g':=gg) (d':=dd) (t':=tt) I6.base I6.hok I6.bare fun b hb=>⟨(f3 b hb).2.2.2.1,(f3 b hb).2.1,(f3 b hb).2.2.2.2.1,(f3 b hb).2.2.2.2.2⟩
   have hC3:s3.heap.objs.size<=C:=Wq eC;obtain⟨q0,q1,q2,q3,q4,q5⟩:=I3.fpOk (b:=C) (H':=H3) hC3 hH3C;refine fin D C H5 _ qn R ⟨m,hn⟩ I6.free q1 (ZU I3.sz hC3) q4 q5 q2
  ·refine thn (T.item (VG X N' sc cl C s3 H3 fp) rfl rfl rfl hcalm i [] s5 _ H5 _ I5' (stat fr5) st5 go) fun r s6 ⟨u,hr,h6⟩=>?_;subst hr;refine thn h6 fun _ s7 ⟨x,H7,I7,r7,y7,st7,fr7⟩=>?_;have I7':=I7.pinned (stat fr7) (T.obj _ _ st7);refine thn (hPG _ s7 _ H7 x u _ I7' r7 (step x H7 y7)) fun _ s8 ⟨σ8,H8,I8,sub8,q8⟩=>?_;refine thn (hPI _ s8 σ8 H8 _ I8 q8) fun ok s9 ⟨H9,I9,q9⟩=>?_
   have again:∀{s10:Shared} {H10:Hp} {ys':List V} {m':Nat},Inv (VG X N' sc cl C s3 H3 fp) ([]++Xd fp s7.heap) σ8 H10 s10->W (i+1) m' ys' H10->∃i ys σ' H',Inv (VG X N' sc cl C s3 H3 fp) [] σ' H' s10/\Sub (atStart φ σ) σ'/\tn i s10.heap/\(∀b∈fp,H' b=none)/\W i m' ys H':=fun {s10 H10 ys' m'} J10 w10=>by
    refine⟨i+1,ys',σ8,H10,J10.unpinned,sub8,T.keep _ _ _ st7 fun b hb o e=>(J10.pin (b,o) (Yk _ (Yk _ (X9 hb e)))).1,fun b hb=>?_,w10⟩;obtain⟨o,e,d⟩:=T.obj _ _ st7 b hb;exact(J10.pin (b,o) (Yk _ (Yk _ (X9 hb e)))).2.1
   cases ok with
   |false=>
    obtain⟨m',hm,w'⟩:=q9;exact⟨m',hm,again I9 w'⟩
   |true=>
    refine thn (hPE _ s9 σ8 H9 _ I9 q9) fun xv s10 ⟨y,H10,I10,r10,hD,hl,m',hm,w'⟩=>?_;refine thn (JV _ s10 σ8 H10 (.ref D) [y] (.ref D) [xv] (fun _ H11=>H11=upd H10 D (.lst (ys++[y]))) I10 rfl (.cons r10 .nil) ⟨D,ys,y,rfl,rfl,hD,hl,rfl⟩) fun _ s11 ⟨_,H11,I11,_,e11⟩=>?_;subst e11;exact⟨m',hm,again I11 w'⟩
 refine codeAny_compStart_list loop (T.self _ 0 _ _ _ st4 loop)
def Jw{X:Cx}{N':List Str}{φ:List (Option Nat)}{sc:Scope}{elt iter tg:Expr}{ifs:List Expr}{pos:Pos}{wi:TI}{g:TG}{tc:TT}{te:TE}(hcalm:X.calm=true)(S:CompOk X N' φ sc)(hi:PI X tg iter wi)(hin:∀cl C s₃ H₃ ex,PG (VG X N' sc cl C s₃ H₃ ex) tg g/\PIfs (VG X N' sc cl C s₃ H₃ ex) ifs tc/\PE (VG X N' sc cl C s₃ H₃ ex) elt te)(hs:∀x,foldedSetIterable iter X.env x=pure x:=by intro _;rfl):PE X (.ListComp elt [⟨tg,iter,ifs,0⟩] sc pos) (Xw φ wi g tc te):=by
 intro pins s σ H Q I h;rw[eval_ListComp];refine Sq (use:=none) hcalm S hi hin hs I h fun D C H5 s6 q R hm c0 c1 c2 c3 c4 c5=>?_;obtain⟨m,hn⟩:=hm;exact⟨m,hn,fun h' sb=>⟨.ref D,H5,R.turned (it:=C) (t':=s6.toks) (fun b o hb e=>sb.extBut b o hb e) c0 c1 (.inr c2) c3 c4,rfl,q⟩⟩
def JW{X:Cx}{N':List Str}{φ:List (Option Nat)}{sc:Scope}{elt iter tg:Expr}{ifs:List Expr}{pos spos py:Pos}{wi:TI}{g:TG}{tc:TT}{te:TE}{i:Nat}{y:Str}(hN:X.N.Nodup)(hy:X.N[i]?=some y)(hl:X.env.scope.names.lookup y=some .local)(hcalm:X.calm=true)(S:CompOk X N' φ sc)(hi:PI X tg iter wi)(hin:∀cl C s₃ H₃ ex,PG (VG X N' sc cl C s₃ H₃ ex) tg g/\PIfs (VG X N' sc cl C s₃ H₃ ex) ifs tc/\PE (VG X N' sc cl C s₃ H₃ ex) elt te)(hs:∀x,foldedSetIterable iter X.env x=pure x:=by intro _;rfl)(hsw:swapsWith (.ListComp elt [⟨tg,iter,ifs,0⟩] sc pos) (some (.Name y py)) spos.line X.env=pure true:=by rfl) :
  PS X (.Assign [.Name y py] (.ListComp elt [⟨tg,iter,ifs,0⟩] sc pos) spos) (tAsg (Xw φ wi g tc te) (U7 i)):=by
 intro pins s σ H D0 I h;rw[exec_Assign_Name_used _ _ _ _ hsw];refine Z9 (wpAny_standAt (Z9 ?_));show wpAny _ X.A (do let _ ←comprehension (.ListComp elt [⟨tg,iter,ifs,0⟩] sc pos) sc X.env _ (newList []) false (eval iter X.env) (some (assign (.Name y py) X.env))) _ _ s
 refine Z9 (Yu (Sq (use:=some (assign (.Name y py) X.env)) (QQ:=fun _ s'=>SP X pins D0 .next s') hcalm S hi hin hs I h fun D C H5 s6 q R hm c0 c1 c2 c3 c4 c5=>?_) (fun _ s' z=>ZD (ZD z)) fun _ _ e=>e);obtain⟨m,oC,es,ep,hoC,hdC,rC⟩:=hm
 have R2:Inv X (pins++[(C,oC)]) σ H5 s6:=R.pins_of fun p hp=>(ZY.mp hp).elim (fun z=>R.pin p (Yk _ z)) fun z=>by
  rw[ZE.mp z];exact⟨hoC,c0,c1,c5,fun v e=>by rw[hdC]at e;cases e⟩
 show wpAny _ X.A (assign (.Name y py) X.env (.ref D)) _ _ _;refine wpAny_assign_Name (UL R2 hN hy (.inl hl) (v:=.ref D) (u:=.ref D) rfl (fun s7 I7=>?_) (.inr hl));have hC7:=(I7.pin (C,oC) (Yk _ (Yk _ (ZE.mpr rfl)))).1;refine⟨m,⟨oC,es,ep,hC7,hdC,rC⟩,fun h' sb=>?_⟩;have I8:Inv X pins (σ.set i (some (.ref D))) H5 s7:=I7.unpinned;exact⟨_,H5,I8.turned (it:=C) (t':=s7.toks) (fun b o hb e=>sb.extBut b o hb e) c0 c1 (.inr c2) c3 c4,q⟩
def SK(sc osc:Scope)(N N':List Str)(φ:List (Option Nat)):Bool:=
 sc.kind == .function&&osc.kind == .function&&(sc.names.all fun y=>y.2 != .cell&&(y.2 != .local || sc.names.lookup y.1==some .local)&&(y.2 != .free || osc.names.lookup y.1==some .cell)) &&
  φ.length==N'.length&&((N'.zip φ).all fun p=>match p.2 with|none=>true|some j=>N[j]? == some p.1&&sc.names.lookup p.1==some .free)
def CompOk.of {X:Cx}{N':List Str}{φ:List (Option Nat)}{sc:Scope} (h:SK sc X.env.scope X.N N' φ=true):CompOk X N' φ sc:=by
 unfold SK at h;simp only[Yn,beq_iff_eq,Wr,Qs,bne_iff_ne,ne_eq]at h;obtain⟨⟨⟨⟨h1,h2⟩,h3⟩,h4⟩,h5⟩:=h;refine⟨h1,h2,fun y hy=>(h3 y hy).1.1,fun y hy hl=>?_,fun y hy hf=>?_,h4,fun i x j hi hj=>?_⟩
 ·rcases(h3 y hy).1.2 with z|z
  ·exact absurd hl z
  ·exact z
 ·rcases(h3 y hy).2 with z|z
  ·exact absurd hf z
  ·exact z
 ·have hz:(N'.zip φ)[i]?=some (x,some j):=by rw[List.getElem?_zip_eq_some];exact⟨hi,hj⟩
  have:=h5 _ (Wn hz)
  simpa using this
end Own
namespace SetR
open PySem PySem.Spec PyProof.Rows L2
def Ris(xs:Array Nat):Prop:=∀i j,i<j->j<xs.size->xs.getD i 0<xs.getD j 0
def Nr{xs:Array Nat}{i a b:Nat}(h:i<xs.size):xs.getD i a=xs.getD i b:=by simp[Array.getD,h]
def Gg{xs:Array Nat}(R:Ris xs)(j:Nat):∀(fuel lo hi:Nat),hi-lo<=fuel->lo<=hi->hi<=xs.size->(∀k,k<lo->xs.getD k 0<j)->(∀k,hi<=k->k<xs.size->j<=xs.getD k 0)->
  let r:=SetTable.below.go xs j fuel lo hi
  r<=xs.size/\(∀k,k<r->xs.getD k 0<j)/\∀k,r<=k->k<xs.size->j<=xs.getD k 0:=by
 intro fuel
 induction fuel with
 |zero=>
  intro lo hi h1 h2 h3 h4 h5;have e:lo=hi:=by omega
  subst e;exact⟨h3,h4,h5⟩
 |succ fuel ih=>
  intro lo hi h1 h2 h3 h4 h5;show(let r:=(if lo<hi then(if xs.getD ((lo+hi) / 2) j<j then SetTable.below.go xs j fuel ((lo+hi) / 2+1) hi else SetTable.below.go xs j fuel lo ((lo+hi) / 2))else lo);r<=xs.size/\(∀k,k<r->xs.getD k 0<j)/\∀k,r<=k->k<xs.size->j<=xs.getD k 0);by_cases hl:lo<hi
  ·rw[ZK hl];have hm:(lo+hi) / 2<xs.size:=by omega
   by_cases hc:xs.getD ((lo+hi) / 2) j<j
   ·rw[ZK hc];refine ih _ _ (by omega) (by omega) h3 (fun k hk=>?_) h5;rw[Nr (b:=0) hm]at hc;by_cases e:k=(lo+hi) / 2
    ·rw[e];exact hc
    ·exact WN (R k _ (by omega) hm) hc
   ·rw[ZI hc];refine ih _ _ (by omega) (by omega) (by omega) h4 (fun k hk hk2=>?_);rw[Nr (b:=0) hm]at hc;by_cases e:k=(lo+hi) / 2
    ·rw[e];omega
    ·have:=R _ k (show(lo+hi) / 2<k by omega) hk2
     omega
  ·rw[ZI hl];have e:lo=hi:=by omega
   subst e;exact⟨h3,h4,h5⟩
def Bg{xs:Array Nat}(R:Ris xs)(j:Nat):SetTable.below xs j<=xs.size/\(∀k,k<SetTable.below xs j->xs.getD k 0<j)/\∀k,SetTable.below xs j<=k->k<xs.size->j<=xs.getD k 0:=
 Gg R j xs.size 0 xs.size (by omega) (by omega) (by omega) (fun k hk=>by omega) (fun k h1 h2=>by omega)
def DV{xs:Array Nat}(R:Ris xs){i:Nat}(hi:i<=xs.size){slot:Nat}(h1:∀k,k<i->xs.getD k 0<slot)(h2:∀k,i<=k->k<xs.size->slot<=xs.getD k 0):SetTable.below xs slot=i:=by
 obtain⟨a,b,c⟩:=Bg R slot;rcases Nat.lt_trichotomy (SetTable.below xs slot) i with h|h|h
 ·have:=c _ (ZG _) (by omega)
  have:=h1 _ h
  omega
 ·exact h
 ·have:=b i h
  have:=h2 i (ZG _) (by omega)
  omega
def Rise(xs:Array Nat):Prop:=xs.toList.Pairwise (· < ·)
def Rise.ris {xs:Array Nat} (h:Rise xs):Ris xs:=by
 intro i j hij hj;have hi:i<xs.size:=by omega
 have:=(YE.mp h) i j (by simpa using hi) (by simpa using hj) hij
 simpa [Array.getD,hi,hj]using this
def D7{xs:Array Nat}{j:Nat}(h:Rise xs)(hn:xs[SetTable.below xs j]?≠some j):Rise (SetTable.insertAt xs (SetTable.below xs j) j):=by
 obtain⟨a,b,c⟩:=Bg h.ris j;generalize SetTable.below xs j=p at *;unfold Rise;rw[SetTable.toList_insertAt];refine Wo.mpr ⟨h.sublist (Q5 _ _),W2.mpr ⟨fun y hy=>?_,h.sublist (List.drop_sublist _ _)⟩,fun x hx y hy=>?_⟩
 ·obtain⟨k,hk,e⟩:=List.mem_drop_iff_getElem.mp hy
  have hk':p+k<xs.size:=by
   simp only[Yp]at hk;omega
  have h1:=c (p+k) (by omega) hk';have e':xs.getD (p+k) 0=y:=by simpa [Array.getD,hk']using e
  rw[e']at h1;rcases Nat.lt_or_ge j y with h2|h2
  ·exact h2
  ·have ey:y=j:=by omega
   exfalso;rcases Nat.eq_zero_or_pos k with rfl|hk0
   ·apply hn;rw[YF (by omega)]
    have:xs[p]=y:=by simpa using e
    rw[this,ey]
   ·have h3:=h.ris p (p+k) (by omega) hk';have h4:=c p (ZG _) (by omega);omega
 ·have hx':x<j:=by
   obtain⟨k,hk,e⟩:=List.mem_take_iff_getElem.mp hx;have hk1:k<p:=by omega
   have hk2:k<xs.size:=by omega
   have:=b k hk1
   have e':xs.getD k 0=x:=by simpa [Array.getD,hk2]using e
   omega
  rcases ZQ.mp hy with rfl|hy
  ·exact hx'
  ·obtain⟨k,hk,e⟩:=List.mem_drop_iff_getElem.mp hy
   have hk':p+k<xs.size:=by
    simp only[Yp]at hk;omega
   have h1:=c (p+k) (by omega) hk';have e':xs.getD (p+k) 0=y:=by simpa [Array.getD,hk']using e
   omega
structure Tb (b:Bool) (t:SetTable):Prop where
 led:t.led=b
 dum:t.dummies=#[]
 ris:Rise t.place
def BH(j:Nat):SetTable.has #[] j=false:=by
 unfold SetTable.has;simp
def Tb.fresh (b:Bool):Tb b (.fresh 0 0 b):=⟨rfl,rfl,List.Pairwise.nil⟩
def FM(n:Nat):Rise (Array.range n):=by
 unfold Rise;rw[Array.toList_range];exact List.pairwise_lt_range
def Tb.stand {b:Bool}{t:SetTable} (h:Tb b t) (n:Nat):Tb b (t.standIn n):=⟨h.led,rfl,FM n⟩
def Tb.orStand {b:Bool}{t:SetTable} (h:Tb b t) (n:Nat):Tb b (t.orStandIn n):=by
 unfold SetTable.orStandIn;split
 ·exact h
 ·exact h.stand n
def Tb.plainOff {b:Bool}{t:SetTable} (h:Tb b t):Tb b {t with plain:=false}:=⟨h.led,h.dum,h.ris⟩
def Tb.put {b:Bool}{t:SetTable} (h:Tb b t) {j:Nat} (hn:t.place[SetTable.below t.place j]?≠some j):Tb b (t.put j).1:=by
 refine⟨h.led,?_,D7 h.ris hn⟩;show(if SetTable.has t.dummies j=true then _ else t.dummies)=#[];rw[h.dum,BH];rfl
def Ab{b:Bool}{t:SetTable}(h:Tb b t)(f:Nat->Int)(z:Int):∀(fuel:Nat) (p:SetTable.Probe) (j:Nat) (d:Option Nat),p.dummy=none->SetTable.probe.go t f z fuel p=some (.empty j d)->d=none/\t.place[SetTable.below t.place j]?≠some j:=by
 intro fuel
 induction fuel with
 |zero=>intro p j d _ e;cases e
 |succ fuel ih=>
  intro p j d hp e;unfold SetTable.probe.go at e
  have hadv:∀q:SetTable.Probe,q.dummy=none->(t.advance q).dummy=none:=fun q hq=>by
   unfold SetTable.advance;split
   ·exact hq
   ·exact hq
  cases es:t.slot p.j with
  |empty=>
   rw[es]at e;have e':=ZL e;injection e' with e1 e2;subst e1;refine⟨e2.symm.trans hp,fun hz=>?_⟩;unfold SetTable.slot at es
   dsimp only at es
   rw[hz]at es;simp at es
  |dummy=>
   exfalso;unfold SetTable.slot at es
   dsimp only at es
   split at es
   ·cases es
   ·rw[h.dum,BH]at es;simp at es
  |live i=>
   rw[es]at e
   dsimp only at e
   split at e
   ·cases e
   ·exact ih _ j d (hadv p hp) e
def Tb.layNew {b:Bool}{t:SetTable} (h:Tb b t) (es:Array (Int×Value)) (z:Int) (x:Value):Tb b (PySem.layNew t es z x).2.1:=by
 unfold PySem.layNew;split
 ·rename_i slot wasDummy e
  have hn:t.place[SetTable.below t.place slot]?≠some slot:=by
   unfold SetTable.freeSlot SetTable.probe at e;split at e
   ·rename_i j dummy e';obtain⟨h1,h2⟩:=Ab h _ _ _ _ _ _ rfl e';subst h1
    have:=ZL e
    have hj:j=slot:=Y1 Prod.fst this;rw[←hj];exact h2
   ·cases e
  exact(h.put hn).orStand _
 ·exact h.stand _
def CZ(n:Nat)(f:Nat->Option Nat):((List.range n).filterMap fun j=>(f j).map (j,·)).Pairwise (fun a b=>a.1<b.1):=by
 refine List.Pairwise.filterMap _ ?_ List.pairwise_lt_range;intro a a' haa b hb b' hb';cases e:f a with
 |none=>rw[e]at hb;cases hb
 |some v=>
  cases e':f a' with
  |none=>rw[e']at hb';cases hb'
  |some v'=>
   rw[e]at hb;rw[e']at hb';cases hb
   cases hb'
   exact haa
def Tb.relayAll {b:Bool}{t:SetTable} (h:Tb b t) (es:Array (Int×Value)) (n:Nat):Tb b (PySem.relayAll t es n).2.1:=by
 unfold PySem.relayAll;split
 ·rename_i t' order e
  dsimp only
  split
  ·unfold SetTable.relaid SetTable.laid at e;cases e2:SetTable.layClean (SetTable.sizeAbove n-1) (es.map (·.1))with
   |none=>rw[e2]at e;cases e
   |some owner=>
    rw[e2]at e;have e':=Y1 Prod.fst (ZL e);subst e';refine⟨h.led,rfl,?_⟩;show(List.map (fun x:Nat×Nat=>x.fst) ((List.range (SetTable.sizeAbove n-1+1)).filterMap fun j=>(owner.getD j none).map (j,·))).toArray.toList.Pairwise (· < ·);rw[List.toList_toArray,YL];exact CZ _ _
  ·exact h.stand _
 ·exact h.stand _
def keyOf(e:Int×Value):Int:=match e.2 with
 | .int k _=>k
 |_=>0
def Ent(e:Int×Value):Prop:=∃(k:Int) (t:Tok),e=(hashInt k,.int k t)
section
variable (prog:Program) (w:World)
def Jj(w:World):Bool:=w.params.followText "set-order"
structure SetAt (h:Heap) (a:Addr) (js:List Int) (es:Array (Int×Value)) (ep:Nat) (t:SetTable):Prop where
 obj:∃o,h.get? a=some o/\o.ExactSet/\o.data=.set es ep t
 ent:∀e∈es.toList,Ent e
 per:(es.toList.map keyOf).Perm js
 nod:js.Nodup
 few:es.size<scanBound
 fit:t.fits es.size=true
 tab:Tb (!Jj w) t
def SetB(h:Heap)(a:Addr)(js:List Int):Prop:=∃es ep t,SetAt w h a js es ep t
end
section
variable {prog:Program}{w:World}{A:Around}{E:Value->Shared->Prop}{s:Shared}
def Ent.elems {l:List (Int×Value)} (h:∀e∈l,Ent e):ElemsOf (intKind prog w) l:=fun e he=>by
 obtain⟨k,t,rfl⟩:=h e he;exact⟨⟨k,intKind_is _ _ _ _,rfl⟩,rfl⟩
def NT{e:Int×Value}(h:Ent e)(k:Int):(intKind prog w).is k e.2=decide (k=keyOf e):=by
 obtain⟨k',t,rfl⟩:=h;show Value.isInt k (.int k' t)=decide (k=k');by_cases e:k=k'
 ·subst e;simp[Value.isInt]
 ·rw[ZR e];simp[Value.isInt];exact fun z=>e z.symm
def SetB.len {h:Heap}{a:Addr}{js:List Int}{es:Array (Int×Value)}{ep:Nat}{t:SetTable} (S:SetAt w h a js es ep t):es.size=js.length:=by
 have:=S.per.length_eq
 simpa using this
def SetB.at {h h':Heap}{a:Addr}{js:List Int} (S:SetB w h a js) (k:∀o,h.get? a=some o->h'.get? a=some o):SetB w h' a js:=by
 obtain⟨es,ep,t,⟨o,ho,r⟩,b,c,d,e,f,g⟩:=S;exact⟨es,ep,t,⟨o,k o ho,r⟩,b,c,d,e,f,g⟩
def SetAt.store {h:Heap}{a:Addr}{js js':List Int}{es es':Array (Int×Value)}{ep:Nat}{t t':SetTable} (S:SetAt w h a js es ep t) (h1:∀e∈es'.toList,Ent e) (h2:(es'.toList.map keyOf).Perm js') (h3:js'.Nodup) (h4:es'.size<scanBound)
  (h5:t'.fits es'.size=true) (h6:Tb (!Jj w) t'):SetAt w (h.update a (Obj.putSet es' t')) a js' es' (ep+1) t':=by
 obtain⟨o,ho,hx,hd⟩:=S.obj;refine⟨⟨{o with data:=.set es' (ep+1) t'},?_,hx,rfl⟩,h1,h2,h3,h4,h5,h6⟩
 have q:=Yy (Obj.putSet es' t') ho (by rw[putSet_of es' t' hd];rfl);rwa[putSet_of es' t' hd]at q
def SX{g:Bool->Sem Unit}(hg:∀(b:Bool) (s':Shared) (R':Unit->Shared->Prop),R' () s'->wpAny (model prog w) A (g b) R' E s'){a:Addr}{js js':List Int}{es es':Array (Int×Value)}{ep:Nat}{t t':SetTable}(S:SetAt w s.heap a js es ep t)(h1:∀e∈es'.toList,Ent e)(h2:(es'.toList.map keyOf).Perm js')(h3:js'.Nodup)(h4:es'.size<scanBound)(h5:t'.fits es'.size=true)(h6:Tb (!Jj w) t'){d:Bool}{R:Option Bool->Shared->Prop}(fin:∀h',Heap.SameBut a s.heap h'->SetB w h' a js'->R (some true) {s with heap:=h'}) :
  wpAny (model prog w) A (do
    storeSet a es' t'
    if (!d&&t'.tooFull)=true then do
      g (relayAll t' es' (SetTable.grown es'.size)).2.2
      storeSet a (relayAll t' es' (SetTable.grown es'.size)).1 (relayAll t' es' (SetTable.grown es'.size)).2.1
      pure (some true)
     else pure (some true)) R E s:=by
 obtain⟨o,ho,hx,hd⟩:=S.obj;have S1:=S.store h1 h2 h3 h4 h5 h6;obtain⟨o1,ho1,hx1,hd1⟩:=S1.obj;have B1:=Y6 s.heap a (Obj.putSet es' t');refine Z9 (wpAny_storeSet_of ho hd ?_ (WY h4));split
 ·have pp:=relayAll_perm t' es' (SetTable.grown es'.size);have ff:=relayAll_fits t' es' (SetTable.grown es'.size);have tt:=h6.relayAll es' (SetTable.grown es'.size);generalize relayAll t' es' (SetTable.grown es'.size)=y at pp ff tt ⊢;obtain⟨es2,t2,g2⟩:=y
  dsimp only at pp ff tt ⊢
  have z:es2.size=es'.size:=by rw[←Yp,pp.length_eq,Yp]
  refine Z9 (hg _ _ _ (Z9 (wpAny_storeSet_of ho1 hd1 ?_ (WY (by rw[z];exact h4)))));exact ZD (fin _ (B1.trans (Y6 _ a _)) ⟨_,_,_,S1.store (fun e he=>h1 e (pp.mem_iff.mp he)) ((pp.map keyOf).trans h2) h3 (by rw[z];exact h4) ff tt⟩)
 ·exact ZD (fin _ B1 ⟨_,_,_,S1⟩)
def addJ(js:List Int)(k:Int):List Int:=if k∈js then js else js++[k]
def EC{a:Addr}{js:List Int}{k:Int}{tk:Tok}{R:Bool->Shared->Prop}(S:SetB w s.heap a js)(room:js.length+1<scanBound)(fin:∀(r:Bool) h',Heap.SameBut a s.heap h'->SetB w h' a (addJ js k)->R r {s with heap:=h'}) :
  wpAny (model prog w) A (setAddHashed a (.int k tk) (hashInt k)) R E s:=by
 obtain⟨es,ep,t,S⟩:=S;obtain⟨o,ho,hx,hd⟩:=S.obj;have el:=Ent.elems (prog:=prog) (w:=w) S.ent;have hz:es.size=js.length:=SetB.len S;unfold setAddHashed setAddHashedIn;refine Ww (Z9 (Wj ho hd S.fit ?_))
 dsimp only
 rw[byScan_of (x:=.int k tk) rfl S.few el];simp only[↓reduceIte];unfold setAddByScan;refine Z9 (Z9 (wpAny_rule (Z9 (wpAny_setScan_of (knd:=intKind prog w) (k:=k) (intKind_is _ _ _ _) ho hd S.fit el ?_))));have mem:∀z:Int,z∈js↔∃e∈es.toList,keyOf e=z:=fun z=>by rw[←S.per.mem_iff,Yd]
 cases q:List.findIdx? (fun e=>(intKind prog w).is k e.2) es.toList with
 |some j=>
  dsimp only
  obtain⟨hj,pj,_⟩:=List.findIdx?_eq_some_iff_getElem.mp q
  have hk:k∈js:=by
   rw[NT (S.ent _ (Yb hj))]at pj;exact(mem k).mpr ⟨_,Yb hj,(ZX pj).symm⟩
  refine ZD (ZD ?_);have f:=fin false s.heap (Heap.SameBut.refl a s.heap);unfold addJ at f;rw[ZK hk]at f;exact f ⟨_,_,_,S⟩
 |none=>
  dsimp only
  have hk:¬k∈js:=fun hz=>by
   obtain⟨e,he,hke⟩:=(mem k).mp hz
   have:=List.findIdx?_eq_none_iff.mp q e he
   rw[NT (S.ent e he),ZJ hke.symm]at this;cases this
  have P:=layNew_perm t es (hashInt k) (.int k tk);have F:=layNew_fits t es (hashInt k) (.int k tk);have T:=S.tab.layNew es (hashInt k) (.int k tk);change wpAny (model prog w) A (match layNew t es (hashInt k) (.int k tk)with|(es,t,wasDummy,gave)=>_) _ _ _
  generalize layNew t es (hashInt k) (.int k tk)=y at P F T ⊢;obtain⟨es1,t1,d1,g1⟩:=y
  dsimp only at P F T ⊢
  rw[Array.toList_push]at P
  have e1:∀e∈es1.toList,Ent e:=fun e he=>by
   rcases ZY.mp (P.mem_iff.mp he)with he|he
   ·exact S.ent e he
   ·rw[ZE.mp he];exact⟨k,tk,rfl⟩
  have e2:(es1.toList.map keyOf).Perm (js++[k]):=by
   refine(P.map keyOf).trans ?_;rw[Yq];exact S.per.append_right _
  have e3:(js++[k]).Nodup:=Y0.mpr ⟨S.nod,by simp,fun x hx y hy=>by rw[ZE.mp hy];rintro rfl;exact hk hx⟩
  have e4:es1.size<scanBound:=by
   rw[←Yp,P.length_eq,ZS,Yp,hz];exact room
  have fin':∀h',Heap.SameBut a s.heap h'->SetB w h' a (js++[k])->R true {s with heap:=h'}:=fun h' sb q'=>by
   have f:=fin true h' sb;unfold addJ at f;rw[ZI hk]at f;exact f q'
  have gw:∀(b:Bool) {s':Shared} {R':Unit->Shared->Prop},R' () s'->wpAny (model prog w) A (match b with|true=>rule "set.scan.the-table-gave-way" |false=>pure ()) R' E s':=fun b s' R' r'=>by cases b<;>first|exact ZD r'|exact wpAny_rule r'
  refine Z9 (gw _ ?_);split
  ·refine Z9 ?_;rw[hashByValue_scannable 8 (x:=.int k tk) rfl];refine ZD (SX (fun b s' R' r'=>gw b r') S e1 e2 e3 e4 ?_ ?_ fun h' sb q'=>ZD (fin' h' sb q'))
   ·split
    ·exact F
    ·exact SetTable.fits_plain_off F
   ·split
    ·exact T
    ·exact T.plainOff
  ·refine Z9 (ZD ?_);simp only[↓reduceIte];exact SX (fun b s' R' r'=>gw b r') S e1 e2 e3 e4 F T fun h' sb q'=>ZD (fin' h' sb q')
def Gj{R:Result->Shared->Prop}{I:Addr}{fp wr:List Addr}{P:Nat->Value->Prop}{St:Nat->Heap->Prop}{ns:List Int}(W:Walks prog w A.in1 I fp wr ns.length P St)(S:Addr)(hS:S∉fp)(hv:∀i v,P i v->∃t,v=.int (ns.getD i 0) t)(room:ns.length+1<scanBound):∀(k i:Nat) (s:Shared) (js:List Int),ns.length-i=k->i<=ns.length->St i s.heap->SetB w s.heap S js->js.length<=i->
   (∀h' tk,(∀b o,b∉S::wr->s.heap.get? b=some o->h'.get? b=some o)->SetB w h' S ((ns.drop i).foldl addJ js)->R (.ok (.ret .none)) {s with heap:=h',toks:=tk})->
   codeAny (model prog w) A (.builtin "set.update.loop" ⟨[.ref S,.ref I],[]⟩) R s:=by
 have hSw:S∉wr:=fun z=>hS (W.sub _ z);intro k
 induction k with
 |zero=>
  intro i s js hk hi st B hj fin;have ei:i=ns.length:=by omega
  refine YG WQ ?_;rw[YB Wc _];show wpAny _ A.in1 (pyNext (.ref I) >>= _) _ _ s;refine Z9 (W.done s _ _ (ei▸st) fun h' tk keep=>?_);show wpAny _ A.in1 (ret Value.none) _ _ _;refine ZD (fin h' tk (fun b o hb e=>keep b o (fun z=>hb (Yc _ z)) e) ?_);rw[ei,List.drop_length];exact B.at fun o e=>keep S o hSw e
 |succ k ih=>
  intro i s js hk hi st B hj fin;have hlt:i<ns.length:=by omega
  refine YG WQ ?_;rw[YB Wc _];show wpAny _ A.in1 (pyNext (.ref I) >>= _) _ _ s;refine Z9 (W.item i s _ _ hlt st fun v h1 tk1 pv st1 keep1=>?_);obtain⟨t,rfl⟩:=hv i v pv;have B1:SetB w h1 S js:=B.at fun o e=>keep1 S o hSw e;show wpAny _ A.in1 (holding [Value.int (ns.getD i 0) t] (setAdd S (.int (ns.getD i 0) t)) >>= _) _ _ _;unfold setAdd;refine Z9 (Ww (Ww (Z9 ((intKind prog w).pyHash (k:=ns.getD i 0) (intKind_is _ _ _ _) ?_))));refine EC (k:=ns.getD i 0) B1 (by omega) fun r h2 sb B2=>?_
  have el:(addJ js (ns.getD i 0)).length<=i+1:=by
   unfold addJ;split
   ·omega
   ·simp;omega
  refine ZD ⟨Wy Wc _,ih (i+1) _ _ (by omega) hlt (W.frame _ h1 _ st1 fun b hb o e=>?_) B2 el fun h' tk keep B'=>?_⟩
  ·rw[sb.2 b (fun z:b=S=>hS (by rw[←z];exact hb))];exact e
  ·refine fin h' tk (fun b o hb e=>keep b o hb ?_) ?_
   ·rw[sb.2 b (fun z:b=S=>hb (by rw[z];exact Yo))];exact keep1 b o (fun z=>hb (Yc _ z)) e
   ·have e1:ns.drop i=ns.getD i 0::ns.drop (i+1):=by
     rw[WK hlt,ZM,ZC hlt];rfl
    rw[e1];exact B'
def EF(a:Value){Q:Value->Shared->Prop}(fin:Q (.ref s.heap.objs.size) {s with heap:=s.heap.push {cls:=.type "set",dict:=none,data:=.set #[] 0 (.fresh 0 0 (!Jj w))}}) :
  codeAny (model prog w) A (.call (.builtin "set.__new__") ⟨[.type "set",a],[]⟩) (wants Q E) s:=by
 refine codeAny_of_tree (show wpAny _ A.in1 (do checkBuiltinCall "set.__new__" ⟨[.type "set",a],[]⟩;again (.builtin "set.__new__" ⟨[.type "set",a],[]⟩)) _ _ s from ?_)
 refine Z9 (wpAny_of_eq (F.newCall_set_1 a) (ZD ⟨Wy F.plain_set_new _,YG F.entry_set_new ?_⟩));have und:=YB (A:=A) F.plain_set_new ⟨[.type "set",a],[]⟩;rw[und];unfold Builtin.«set.__new__» Builtin.Frozenset.newClass;have q1:=sub_set_self;obtain⟨hh,gg,dd,tt,oo⟩:=s
 dsimp only
 wp_walk
 refine wpAny_askSetting (ZD (show wpAny _ _ _ _ _ _ from ?_))
 dsimp only
 simp only[newObj];exact Z9 (wpAny_alloc (ZD (ZD fin)))
set_option maxHeartbeats 4000000 in
def CU{l:Addr}{its:Array Value}{ns:List Int}{Q:Value->Shared->Prop}(hh:A.handled=none)(hl:s.heap.IsList l its)(hi:IntsAre its.toList ns)(room:ns.length+1<scanBound)(fin:∀(h':Heap) (tk:Nat),SetB w h' s.heap.objs.size (ns.foldl addJ [])->(∀b o,b<s.heap.objs.size->s.heap.get? b=some o->h'.get? b=some o)->Q (.ref s.heap.objs.size) {s with heap:=h',toks:=tk}) :
  wpAny (model prog w) A (call (.type "set") [.ref l]) Q E s:=by
 have hn:its.size=ns.length:=by have:=IntsAre.length hi;simpa using this
 obtain⟨mroC,mroT,mro⟩:=F.called_set.mro;have made:=F.called_set.made;have subs:=F.called_set.sub;refine wpAny_call (codeAny_of_tree (show wpAny _ _ (callAny (.type "set") _) _ _ _ from ?_))
 refine ZD ⟨Code.quiet_builtin _ (by decide +kernel),YG F.entry_type_call ?_⟩;have wt:=Around.under_plain (A:=A) (weight_type_call_type "set" [.ref l] []) rfl;rw[wt];have nt:=F.called_set.notType;have cc:=F.called_set.canCreate;have tc:=F.typeCall_set_1 (.ref l)
 repeat (any_goals (first|assumption|wp_step))
 refine Wp (EF (.ref l) (E:=E) (Q:=fun obj s1=>obj=.ref s.heap.objs.size/\s1={s with heap:=s.heap.push {cls:=.type "set",dict:=none,data:=.set #[] 0 (.fresh 0 0 (!Jj w))}}) ⟨rfl,rfl⟩) fun r s1 hr=>?_
 cases r with
 |error e=>exact hr
 |ok fl=>
  cases fl with
  |next=>exact hr.elim
  |brk=>exact hr.elim
  |cont=>exact hr.elim
  |ret obj=>
   obtain⟨rfl,rfl⟩:=hr;generalize eH:s.heap.push {cls:=.type "set",dict:=none,data:=.set #[] 0 (.fresh 0 0 (!Jj w))}=H1;have g1:H1.get? s.heap.objs.size=some {cls:=.type "set",dict:=none,data:=.set #[] 0 (.fresh 0 0 (!Jj w))}:=by rw[←eH];exact ZN _ rfl
   have hT:Shared.TypeIs {s with heap:=H1} (.ref s.heap.objs.size) "set":=⟨_,g1,rfl⟩
   have ini:=F.called_set.init.lookup;have inb:=F.called_set.init.bind (.ref s.heap.objs.size)
   repeat (any_goals (first|assumption|wp_step))
   refine Wp (Qt (R:=wants (fun r s2=>r=.none/\∃h' tk,s2={s with heap:=h',toks:=tk}/\SetB w h' s.heap.objs.size (ns.foldl addJ [])/\(∀b o,b<s.heap.objs.size->s.heap.get? b=some o->h'.get? b=some o)) E)
    F.called_set.init.plain F.entry_set_init (check_set_init_1 hT ?_)) fun r2 s2 hr2=>?_
   ·obtain⟨ob,hob,hcl,nl,hdl⟩:=hl;obtain⟨c1,d1,dt1,sl1⟩:=ob;simp only at hcl hdl;subst hcl;subst hdl;have hob1:H1.get? l=some {cls:=.type "list",dict:=d1,data:=.seq its nl,slots:=sl1}:=by rw[←eH];exact ZF _ hob
    have sz1:H1.objs.size=s.heap.objs.size+1:=by rw[←eH,Heap.size_push]
    have no1:=F.sub_list_set;have no2:=F.sub_list_frozenset;have no3:(Value.type "list" == Value.type "dict")=false:=by decide
    have L1:H1.IsList l its:=⟨_,hob1,rfl,nl,rfl⟩;unfold Builtin.«set.__init__» noKeywords Builtin.Frozenset.updateFrom;generalize eP:pyIter=PI
    wp_walk
    subst eP;refine wpAny_pyIter_list L1 (Z9 (wpAny_runValue ?_));have lt1:l<s.heap.objs.size:=ZH hob;have hd3:A.in1.in1.in1.handled=none:=by simp[hh]
    have ne1:l≠H1.objs.size:=by rw[sz1];exact Ye (WZ lt1)
    have no4:s.heap.objs.size∉[H1.objs.size,l]:=by
     rw[sz1];simp only[ZQ,WC,or_false,not_or];exact⟨Ye (Qi _),Qo lt1⟩
    have W0:=Walks.list (prog:=prog) (w:=w) hd3 H1.objs.size l ne1 its;rw[hn]at W0;refine Gj (ns:=ns) W0 s.heap.objs.size no4 (fun i v hv=>IntsAre.int_at hi i v (by rw[Y8];exact hv)) room (ns.length-0) 0 _ [] rfl (YJ _) ⟨⟨_,ZN _ rfl,rfl,rfl⟩,L1.push _⟩ ?_ (YJ _) fun h' tk keep B=>?_
    ·exact⟨#[],0,_,⟨_,ZF _ g1,⟨rfl,rfl,rfl⟩,rfl⟩,fun e he=>by simp at he,by simp,YZ,by show(0:Nat)<4096;decide,rfl,Tb.fresh _⟩
    ·show wpAny _ _ _ _ _ _;refine ZD (show wpAny _ _ (ret Value.none) _ _ _ from ZD ⟨rfl,h',tk,rfl,B,fun b o hb e=>?_⟩)
     refine keep b o ?_ (ZF _ (by rw[←eH];exact ZF _ e));rw[sz1];simp only[ZQ,WC,or_false,not_or];exact⟨Ye hb,Ye (WZ hb)⟩
   ·cases r2 with
    |error e=>exact hr2
    |ok f2=>
     cases f2 with
     |next=>exact hr2.elim
     |brk=>exact hr2.elim
     |cont=>exact hr2.elim
     |ret r=>
      obtain⟨rfl,h',tk,rfl,B,keep⟩:=hr2
      repeat (any_goals (first|assumption|wp_step))
      exact fin _ _ B keep
end
def si_slot:Slot "set_iterator" "__next__" "set_iterator.__next__":=
 Slot.of (owner:="set_iterator") (n:="__next__") (by rw[typeLookup_type,builtinLookup_eq_fast];kernel_rfl) (by decide +kernel) (by decide +kernel) (by decide +kernel)
  (by first|exact Or.inl (by decide +kernel)|exact Or.inr (by decide +kernel)) (by rw[isSubtype_type];kernel_rfl)
def AD:entryFor table "set_iterator.__next__"=some Builtin.«set_iterator.__next__»:=entryFor_of_tree (by kernel_rfl)
def DO(a:Value):argsOk "set_iterator.__next__" ⟨[a],[]⟩:=by unfold argsOk;kernel_rfl
def Eo:entryFor table "set.__iter__"=some Builtin.«frozenset.__iter__»:=entryFor_alias (id':="frozenset.__iter__") (by kernel_rfl) rfl (by decide +kernel) (by kernel_rfl)
def F1:Slot "set_iterator" "__iter__" "set_iterator.__iter__":=
 Slot.of (owner:="set_iterator") (n:="__iter__") (by rw[typeLookup_type,builtinLookup_eq_fast];kernel_rfl) (by decide +kernel) (by decide +kernel) (by decide +kernel)
  (by first|exact Or.inl (by decide +kernel)|exact Or.inr (by decide +kernel)) (by rw[isSubtype_type];kernel_rfl)
def Dm:entryFor table "set_iterator.__iter__"=some Builtin.«dict_keyiterator.__iter__»:=entryFor_alias (id':="dict_keyiterator.__iter__") (by kernel_rfl) rfl (by decide +kernel) (by kernel_rfl)
def Ho(a:Value):argsOk "set_iterator.__iter__" ⟨[a],[]⟩:=by unfold argsOk;kernel_rfl
def SI(h:Heap)(I a:Addr)(first:Value)(i n ep:Nat):Prop:=∃o,h.get? I=some o/\o.cls=.type "set_iterator"/\o.data=.fields #[first,.int i 0,.ref a,.int n 0,.int ep 0]
section
variable {prog:Program}{w:World}{A:Around}{E:Value->Shared->Prop}{s:Shared}{I a:Addr}{first:Value}{i n ep:Nat}{js:List Int}{es:Array (Int×Value)}{t:SetTable}
def SI.typ (h:SI s.heap I a first i n ep):s.TypeIs (.ref I) "set_iterator":=let ⟨o,ho,hc,_⟩:=h;⟨o,ho,hc⟩
def SI.at {h h':Heap} (x:SI h I a first i n ep) (k:∀o,h.get? I=some o->h'.get? I=some o):SI h' I a first i n ep:=let ⟨o,ho,r⟩:=x;⟨o,k o ho,r⟩
def UM(first:Value)(a I:Addr)(i ep:Int):Sem PySem.Fin:=
 match first with
 |Value.int slot _=>do
  match ←setNext a slot.toNat i.toNat ep.toNat with
  |some (x,next)=>
   setField (.ref I) 0 (rawInt next)
   setField (.ref I) 1 (rawInt (i+1))
   ret x
  |none=>
   setField (.ref I) 2 .none
   raiseNew (←newExc (.type "StopIteration") [])
 |_=>do
  let some places ←seqItems? first|unsupported "internal:set_iterator"
  match places[i.toNat]? with
  |some (.int place _)=>
   let x ←setNextDrawn a place.toNat ep.toNat
   setField (.ref I) 1 (rawInt (i+1))
   ret x
  |some _=>unsupported "internal:set_iterator"
  |none=>
   setField (.ref I) 0 (rawInt 0)
   setField (.ref I) 2 .none
   raiseNew (←newExc (.type "StopIteration") [])
def X4{Q:Option Value->Shared->Prop}(hit:SI s.heap I a first i es.size ep)(S:SetAt w s.heap a js es ep t)
  (body:wpAny (model prog w) A.in1 (UM first a I i ep) (fun fin s'=>∃v,fin=.done (.ret v)/\Q (some v) s')
   (fun e s'=>wpAny (model prog w) A (isInstance e (.type "StopIteration")) (fun b s''=>b=true/\Q none s'') E s') s) :
  wpAny (model prog w) A (pyNext (.ref I)) Q E s:=by
 obtain⟨o,ho,hc,hd⟩:=id hit;obtain⟨ob,hob,hx,hdd⟩:=S.obj;unfold pyNext;refine Z9 (wpAny_attempt (Wt (name:=Str.ofString "__next__") hit.typ si_slot (YH si_slot hit.typ AD ?_ (DO _))));unfold Builtin.«set_iterator.__next__»;refine Z9 (ZD (Z9 (wpAny_fieldsOf ho hd ?_)));show wpAny _ _ (setEntries a >>= fun x=>if ((x.size:Int) != (es.size:Int))=true then _ else UM first a I i ep) _ _ s
 refine Z9 (wpAny_setEntries_of hob hdd S.fit ?_);rw[ZI (by simp)];refine Yu body (fun fin s' h=>?_) fun e s' h=>?_
 ·obtain⟨v,e,q⟩:=h;exact⟨v,e,ZD q⟩
 ·refine Z9 (Yu h (fun b s'' h2=>?_) fun _ _ z=>z);obtain⟨rfl,q⟩:=h2;exact ZD q
def Br{Q:Option Value->Shared->Prop}{o:Obj}{vs:Array Value}(hh:A.handled=none)(ho:s.heap.get? I=some o)(hd:o.data=.fields vs)(h2:2<vs.size)(fin:∀h',Heap.ExtBut I s.heap h'->Q none {s with heap:=h'}){R:PySem.Fin->Shared->Prop} :
  wpAny (model prog w) A.in1 (do setField (.ref I) 2 .none;raiseNew (←newExc (.type "StopIteration") [])) R (fun e s'=>wpAny (model prog w) A (isInstance e (.type "StopIteration")) (fun b s''=>b=true/\Q none s'') E s') s:=by
 refine Z9 (YN ho hd h2 (Z9 ?_));simp only[newExc,newTuple];refine Z9 (Yh ?_ (by size_fits));refine Z9 (m:=firstArgMember _ _) (wpAny_of_eq (a:=Value.none) (by first|rfl|(simp only[firstArgMember];rfl)) (Yh ?_ (by size_fits)))
 simp only[raiseNew];refine Z9 (wpAny_handled ?_);have e1:A.in1.handled=none:=hh;rw[e1];refine Z9 (ZD (wpAny_throw ?_));refine wpAny_isInstance (T:="StopIteration") (b:=true) ⟨_,ZN _ rfl,rfl⟩ isSubtype_stop ?_;exact⟨rfl,fin _ (((Y6 ..).extBut.push _).push _)⟩
def SI.step1 {o:Obj}{x:Value} (ho:s.heap.get? I=some o) (hc:o.cls=.type "set_iterator") (hd:o.data=.fields #[first,.int i 0,.ref a,.int n 0,.int ep 0]) :
  SI (s.heap.update I (Obj.mapFields (·.setIfInBounds 1 (rawInt ((i:Int)+1))))) I a first (i+1) n ep:=
 ⟨_,Yy _ ho (YO (Y3 hd _)),(Qa ..).trans hc,by rw[Y3 hd];simp[rawInt]⟩
def X2{Q:Bool->Shared->Prop}(h:Q (Jj w) s):wpAny (model prog w) A setsByText Q E s:=by
 unfold setsByText;exact Z9 (wpAny_askSetting (ZD h))
def GN{Q:Option (Value×Nat)->Shared->Prop}{slot:Nat}(S:SetAt w s.heap a js es ep t)(hb:Jj w=true)(h:Q (((pickOrder (w.params.setOrder a ep) es)[i]?).map fun e=>(e.2,slot)) s) :
  wpAny (model prog w) A (setNext a slot i ep) Q E s:=by
 obtain⟨ob,hob,hx,hdd⟩:=S.obj;unfold setNext;refine Z9 (Wj hob hdd S.fit (Z9 (X2 ?_)));rw[hb,ZK rfl]
 dsimp only
 rw[ZI (by simp)];refine Z9 ?_;unfold setWalk;refine Z9 (Wj hob hdd S.fit (Z9 (X2 ?_)));rw[hb,ZK rfl];exact Z9 (wpAny_askSetting (ZD (ZD h)))
def DQ{Q:Option (Value×Nat)->Shared->Prop}{slot:Nat}(S:SetAt w s.heap a js es ep t)(hb:Jj w=false)(hp:(!t.plain&&decide (es.size>1))=false)(h:Q (match es[SetTable.below t.place slot]?,t.place[SetTable.below t.place slot]? with|some (_,x),some j=>some (x,j+1)|_,_=>none) s):wpAny (model prog w) A (setNext a slot i ep) Q E s:=by
 obtain⟨ob,hob,hx,hdd⟩:=S.obj;unfold setNext;refine Z9 (Wj hob hdd S.fit (Z9 (X2 ?_)));rw[hb,ZI (by decide)]
 dsimp only
 show wpAny _ _ (if (!t.plain&&decide (es.size>1))=true then _ else _) _ _ _;rw[hp,ZI (by decide)];refine Z9 (?_:wpAny _ _ (if (!t.led && !es.isEmpty)=true then unsupported "set:maker-not-led" else pure ()) _ _ _);have hl:t.led=true:=by rw[S.tab.led,hb];rfl
 rw[hl,ZI (by simp)];exact ZD (ZD h)
def A8{Q:Value->Shared->Prop}{p:Nat}{e:Int×Value}(S:SetAt w s.heap a js es ep t)(he:es[p]?=some e)(h:Q e.2 s):wpAny (model prog w) A (setNextDrawn a p ep) Q E s:=by
 obtain⟨ob,hob,hx,hdd⟩:=S.obj;unfold setNextDrawn;refine Z9 (Wj hob hdd S.fit ?_)
 dsimp only
 rw[ZI (by simp),he];exact ZD h
def HV{Q:Nat->Shared->Prop}{src:Source}{m:Nat}(hm:m≠0)(h:∀k d,k<m->Q k {s with drawn:=d}):wpAny (model prog w) A (choose src m) Q E s:=by
 intro Γ p hΓ;unfold choose;rw[Sem.wp_choose];exact⟨hm,h _ _ (Nat.mod_lt _ (Nat.pos_of_ne_zero hm))⟩
def PY{α:Type}:∀(xs:List α) (k:Nat) (h:k<xs.length),(xs[k]::xs.eraseIdx k).Perm xs
 |x::r,0,_=>List.Perm.refl _
 |x::r,k+1,h=>by
  have hk:k<r.length:=by simpa using h
  have ih:=PY r k hk;show(r[k]::x::r.eraseIdx k).Perm (x::r);exact(List.Perm.swap _ _ _).trans (List.Perm.cons _ ih)
def DH{α:Type}:∀(m:Nat) (xs:List α) (s:Shared) {Q:List α->Shared->Prop},xs.length=m->(∀ys d,ys.Perm xs->Q ys {s with drawn:=d})->wpAny (model prog w) A (drawOrder m xs) Q E s:=by
 intro m
 induction m with
 |zero=>
  intro xs s Q hl h;have e:xs=[]:=YK.mp hl;subst e;exact ZD (h [] s.drawn (List.Perm.refl _))
 |succ m ih=>
  intro xs s Q hl h;cases xs with
  |nil=>simp at hl
  |cons x r=>
   unfold drawOrder;refine Z9 (HV (by simp) fun k d hk=>?_);rw[ZC hk];refine Z9 (ih _ _ (by rw[List.length_eraseIdx_of_lt hk];simpa using hl) fun ys d2 hp=>ZD ?_);exact h _ d2 ((List.Perm.cons _ hp).trans (PY _ _ hk))
def SetAt.keep {h h':Heap} (S:SetAt w h a js es ep t) (k:∀o,h.get? a=some o->h'.get? a=some o):SetAt w h' a js es ep t:=by
 obtain⟨⟨o,ho,r⟩,b,c,d,e,f,g⟩:=S;exact⟨⟨o,k o ho,r⟩,b,c,d,e,f,g⟩
def Bu{Q:Value->Shared->Prop}(hit:SI s.heap I a first i n ep)(h:Q (.ref I) s):wpAny (model prog w) A (pyIter (.ref I)) Q E s:=by
 refine Qb hit.typ F1 (YH F1 hit.typ Dm ?_ (Ho _));show wpAny _ _ (ret (.ref I)) _ _ s;exact ZD ⟨_,rfl, "set_iterator",_,hit.typ,si_slot.lookup,h⟩
def Nv(hh:A.handled=none)(I a:Addr)(hne:a≠I)(vs:List Value)(hl:vs.length=es.size)(sl:Nat->Nat)(nx:∀(A:Around) (E:Value->Shared->Prop) (s:Shared) (i:Nat) (Q:Option (Value×Nat)->Shared->Prop),i<=es.size->SetAt w s.heap a js es ep t->Q ((vs[i]?).map fun v=>(v,sl (i+1))) s->wpAny (model prog w) A (setNext a (sl i) i ep) Q E s) :
  Walks prog w A I [I,a] [I] es.size (fun i v=>vs[i]?=some v) (fun i h=>SI h I a (.int (sl i) 0) i es.size ep/\SetAt w h a js es ep t) where
 sub:=fun b hb=>by simp at hb;simp[hb]
 frame:=fun _ _ _ st k=>⟨st.1.at fun o e=>k I (by simp) o e,st.2.keep fun o e=>k a (by simp) o e⟩
 item:=fun i s Q E hi st fin=>by
  obtain⟨o,ho,hc,hd⟩:=id st.1;refine X4 st.1 st.2 ?_;unfold UM
  dsimp only
  rw[Ym,Ym,Ym];refine Z9 (nx _ _ s i _ (W9 hi) st.2 ?_);have hi2:i<vs.length:=by omega
  rw[ZC hi2];show wpAny _ _ (do setField (.ref I) 0 (rawInt (sl (i+1)));setField (.ref I) 1 (rawInt ((i:Int)+1));ret vs[i]) _ _ s
  refine Z9 (YN ho hd (by simp) ?_);have g1:=Yy (Obj.mapFields (·.setIfInBounds 0 (rawInt (sl (i+1):Int)))) ho (YO (Y3 hd _));have d1:(Obj.mapFields (·.setIfInBounds 0 (rawInt (sl (i+1):Int))) o).data=.fields #[.int (sl (i+1)) 0,.int i 0,.ref a,.int es.size 0,.int ep 0]:=by rw[Y3 hd];simp[rawInt]
  refine Z9 (YN g1 d1 (by simp) ?_);have sb:=(Y6 s.heap I (Obj.mapFields (·.setIfInBounds 0 (rawInt (sl (i+1):Int))))).trans (Y6 _ I (Obj.mapFields (·.setIfInBounds 1 (rawInt ((i:Int)+1)))));refine ZD ⟨_,rfl,fin vs[i] _ s.toks (ZC hi2) ⟨?_,st.2.keep fun o e=>sb.extBut a o hne e⟩ fun b o hb e=>sb.extBut b o (fun z=>hb (by simp[z])) e⟩;exact SI.step1 (s:={s with heap:=_}) (x:=.none) g1 ((Qa ..).trans hc) d1
 done:=fun s Q E st fin=>by
  obtain⟨o,ho,hc,hd⟩:=id st.1;refine X4 st.1 st.2 ?_;unfold UM
  dsimp only
  rw[Ym,Ym,Ym];refine Z9 (nx _ _ s es.size _ (ZG _) st.2 ?_);rw[Wg (by omega)];exact Br hh ho hd (by simp) fun h' eb=>fin h' s.toks fun b o hb e=>eb b o (fun z=>hb (by simp[z])) e
 self:=fun _ _ _ _ st fin=>Bu st.1 fin
def A3(hh:A.handled=none)(I a T:Addr)(hne:a≠I)(hT:T≠I)(ps:List Nat)(hl:ps.length=es.size)(hps:∀p∈ps,p<es.size)(vs:List Value)(hvs:vs=ps.map fun p=>((es[p]?).map (·.2)).getD .none) :
  Walks prog w A I [I,a,T] [I] es.size (fun i v=>vs[i]?=some v) (fun i h=>SI h I a (.ref T) i es.size ep/\SetAt w h a js es ep t/\∃o,h.get? T=some o/\∃c,o.data=.seq (ps.map fun(p:Nat)=>rawInt p).toArray c) where
 sub:=fun b hb=>by simp at hb;simp[hb]
 frame:=fun _ _ _ st k=>⟨st.1.at fun o e=>k I (by simp) o e,st.2.1.keep fun o e=>k a (by simp) o e,let ⟨o,ho,c⟩:=st.2.2;⟨o,k T (by simp) o ho,c⟩⟩
 item:=fun i s Q E hi st fin=>by
  obtain⟨o,ho,hc,hd⟩:=id st.1;obtain⟨oT,hoT,c,hdT⟩:=st.2.2;refine X4 st.1 st.2.1 ?_;unfold UM
  dsimp only
  refine Z9 (wpAny_seqItems hoT hdT ?_);have hi2:i<ps.length:=by omega
  have e1:(ps.map fun(p:Nat)=>rawInt p).toArray[(i:Int).toNat]?=some (.int ps[i] 0):=by
   rw[Ym,List.getElem?_toArray,ZT,ZC hi2];rfl
  have hp:=hps _ (Yb hi2)
  dsimp only
  rw[e1]
  dsimp only
  have e2:es[ps[i]]?=some es[ps[i]]:=YF hp;have e3:vs[i]?=some (es[ps[i]]).2:=by rw[hvs,ZT,ZC hi2];simp[hp]
  rw[Ym,Ym];refine Z9 (A8 st.2.1 e2 (Z9 (YN ho hd (by simp) ?_)));have sb:=Y6 s.heap I (Obj.mapFields (·.setIfInBounds 1 (rawInt ((i:Int)+1))));exact ZD ⟨_,rfl,fin _ _ s.toks e3 ⟨SI.step1 (x:=.none) ho hc hd,st.2.1.keep fun o e=>sb.extBut a o hne e,oT,sb.extBut T oT hT hoT,c,hdT⟩ fun b o hb e=>sb.extBut b o (fun z=>hb (by simp[z])) e⟩
 done:=fun s Q E st fin=>by
  obtain⟨o,ho,hc,hd⟩:=id st.1;obtain⟨oT,hoT,c,hdT⟩:=st.2.2;refine X4 st.1 st.2.1 ?_;unfold UM
  dsimp only
  refine Z9 (wpAny_seqItems hoT hdT ?_)
  have e1:(ps.map fun(p:Nat)=>rawInt p).toArray[(es.size:Int).toNat]?=none:=by
   rw[Ym,List.getElem?_toArray,ZT,Wg (by omega)];rfl
  dsimp only
  rw[e1]
  dsimp only
  refine Z9 (YN ho hd (by simp) ?_);have g1:=Yy (Obj.mapFields (·.setIfInBounds 0 (rawInt 0))) ho (YO (Y3 hd _));have sb:=Y6 s.heap I (Obj.mapFields (·.setIfInBounds 0 (rawInt 0)));refine Br (s:={s with heap:=_}) hh g1 (Y3 hd _) (by simp) fun h' eb=>fin h' s.toks fun b o hb e=>eb b o (fun z=>hb (by simp[z])) (sb.extBut b o (fun z=>hb (by simp[z])) e)
 self:=fun _ _ _ _ st fin=>Bu st.1 fin
def Ed{α:Type}(nx:Nat->Nat):∀(m k:Nat) (left:List α) (out:Array α),left.length=m->(pickOrder.go nx m k left out).toList.Perm (out.toList++left):=by
 intro m
 induction m with
 |zero=>
  intro k left out hl;have e:left=[]:=YK.mp hl;subst e;show out.toList.Perm (out.toList++[]);rw[YD]
 |succ m ih=>
  intro k left out hl;have hlt:nx k % left.length<left.length:=Nat.mod_lt _ (by omega);unfold pickOrder.go;rw[ZC hlt]
  dsimp only
  refine(ih _ _ _ (by rw[List.length_eraseIdx_of_lt hlt];omega)).trans ?_;rw[Array.toList_push,Qc];exact(PY left _ hlt).append_left _
def Fj{α:Type}(nx:Nat->Nat)(xs:Array α):(pickOrder nx xs).toList.Perm xs.toList:=by
 have:=Ed nx xs.size 0 xs.toList #[] (by simp)
 simpa [pickOrder]using this
def slotAt(t:SetTable)(i:Nat):Nat:=if i=0 then 0 else t.place.getD (i-1) 0+1
def S8{m:Nat}(h:t.fits m=true):t.place.size=m:=by
 simp only[SetTable.fits,Yn,beq_iff_eq]at h;exact h.1
def Ag(S:SetAt w s.heap a js es ep t){i:Nat}(hi:i<=es.size):SetTable.below t.place (slotAt t i)=i:=by
 have hz:=S8 S.fit;have R:=S.tab.ris.ris;refine DV R (by omega) (fun k hk=>?_) fun k h1 h2=>?_
 ·unfold slotAt;rw[ZI (by omega)];by_cases e:k=i-1
  ·rw[e];omega
  ·have:=R k (i-1) (by omega) (by omega)
   omega
 ·unfold slotAt;by_cases h0:i=0
  ·rw[ZK h0];omega
  ·rw[ZI h0]
   have:=R (i-1) k (by omega) h2
   omega
def DR{Q:Value->Shared->Prop}{A':Around}(hh:A'.handled=none)(S:SetAt w s.heap a js es ep t)
  (fin:∀(I:Addr) (fp:List Addr) (vs:List Value) (St:Nat->Heap->Prop) (h1:Heap) (d1:Drawn),Walks prog w A' I fp [I] es.size (fun i v=>vs[i]?=some v) St->St 0 h1->(∀b∈fp,b=a\/s.heap.get? b=none)->vs.length=es.size->vs.Perm (es.toList.map (·.2))->
   s.heap.get? I=none->(∀b o,s.heap.get? b=some o->h1.get? b=some o)->Q (.ref I) {s with heap:=h1,drawn:=d1}) :
  wpAny (model prog w) A (pyIter (.ref a)) Q E s:=by
 obtain⟨ob,hob,hx,hdd⟩:=S.obj;have hT:s.TypeIs (.ref a) "set":=⟨ob,hob,hx.1⟩;have ha:a<s.heap.objs.size:=ZH hob
 have new:∀b,s.heap.objs.size<=b->s.heap.get? b=none:=fun b hb=>by
  cases e:s.heap.get? b with
  |none=>rfl
  |some o=>exact absurd (ZH e) (WD.mpr hb)
 refine Qb hT F.slot_set_iter (YH F.slot_set_iter hT Eo ?_ (F.args_set_iter_1 _));unfold Builtin.«frozenset.__iter__»;show wpAny _ _ (Builtin.Frozenset.sizeOf a >>= _) _ _ s;unfold Builtin.Frozenset.sizeOf;refine Z9 (Z9 (wpAny_setEntries_of hob hdd S.fit (ZD ?_)));refine Z9 ?_;unfold setDrawn;refine Z9 (Wj hob hdd S.fit (Z9 (X2 (ZD ?_))))
 dsimp only
 change wpAny _ _ (if (!Jj w&&(!t.plain&&decide (es.size>1)))=true then _ else _) _ _ _;cases hd:(!Jj w&&(!t.plain&&decide (es.size>1)))with
 |false=>
  rw[ZI (by decide)];refine Z9 (ZD (Z9 (wpAny_setEpoch_of hob hdd S.fit (Z9 (Yh (ZD ⟨_,rfl, "set_iterator",_,⟨_,ZN _ rfl,rfl⟩,si_slot.lookup,?_⟩))))));have hne:a≠s.heap.objs.size:=Ye ha;have S1:SetAt w (s.heap.push {cls:=.type "set_iterator",data:=.fields [rawInt 0,rawInt 0,.ref a,rawInt es.size,rawInt ep].toArray}) a js es ep t:=S.keep fun o e=>ZF _ e
  have lt:∀b∈[s.heap.objs.size,a],b=a\/s.heap.get? b=none:=fun b hb=>by
   rcases ZQ.mp hb with rfl|hb
   ·exact .inr (new _ (ZG _))
   ·exact .inl (ZE.mp hb)
  cases hb:Jj w with
  |true=>
   have hl:((pickOrder (w.params.setOrder a ep) es).toList.map (·.2)).length=es.size:=by
    rw[ZA,(Fj _ _).length_eq];simp
   refine fin _ _ _ _ _ s.drawn (Nv (t:=t) (js:=js) (ep:=ep) hh s.heap.objs.size a hne ((pickOrder (w.params.setOrder a ep) es).toList.map (·.2)) hl (fun _=>0) fun A E s i Q hi S' q=>GN S' hb ?_) ⟨⟨_,ZN _ rfl,rfl,rfl⟩,S1⟩ lt hl ((Fj _ _).map _) (new _ (ZG _)) fun b o e=>ZF _ e;rw[ZT]at q;rw[←Y8];cases e:(pickOrder (w.params.setOrder a ep) es).toList[i]? with
   |none=>rw[e]at q;exact q
   |some x=>rw[e]at q;exact q
  |false=>
   have hp:(!t.plain&&decide (es.size>1))=false:=by rw[hb]at hd;simpa using hd
   refine fin _ _ _ _ _ s.drawn (Nv (t:=t) (js:=js) (ep:=ep) hh s.heap.objs.size a hne (es.toList.map (·.2)) (by simp) (slotAt t) fun A E s i Q hi S' q=>DQ S' hb hp ?_) ⟨⟨_,ZN _ rfl,rfl,rfl⟩,S1⟩ lt (by simp) (List.Perm.refl _) (new _ (ZG _)) fun b o e=>ZF _ e;rw[Ag S' hi];have hz:=S8 S'.fit;rw[ZT]at q;by_cases hlt:i<es.size
   ·have e1:es[i]?=some es[i]:=YF hlt;have e2:t.place[i]?=some t.place[i]:=YF (by omega);have e3:es.toList[i]?=some es[i]:=by rw[Y8];exact e1
    rw[e3]at q;rw[e1,e2]
    have e4:slotAt t (i+1)=t.place[i]+1:=by
     unfold slotAt;rw[ZI (by omega)]
     have:i<t.place.size:=by omega
     simp[Array.getD,this]
    have q':Q (some (es[i].2,slotAt t (i+1))) s:=q;rw[e4]at q';exact q'
   ·have e1:es[i]?=none:=Qe (by omega);have e3:es.toList[i]?=none:=by rw[Y8];exact e1
    rw[e3]at q;rw[e1];exact q
 |true=>
  rw[ZK rfl];refine Z9 (DH _ _ s (by simp) fun ps d hp=>?_);have hl:ps.length=es.size:=by rw[hp.length_eq];simp
  have hps:∀p∈ps,p<es.size:=fun p hm=>Yw.mp (hp.mem_iff.mp hm);refine Z9 (Yh ?_ (by show(ps.map fun(i:Nat)=>rawInt i).toArray.size<=sizeLine;rw[ZP,ZA,hl];exact WY S.few));have hob1:=ZF {cls:=.type "tuple",data:=.seq (ps.map fun(i:Nat)=>rawInt i).toArray} hob;refine Z9 (wpAny_setEpoch_of hob1 hdd S.fit (Z9 (Yh (ZD ⟨_,rfl, "set_iterator",_,⟨_,ZN _ rfl,rfl⟩,si_slot.lookup,?_⟩))));have zT:(s.heap.push {cls:=.type "tuple",data:=.seq (ps.map fun(i:Nat)=>rawInt i).toArray}).objs.size=s.heap.objs.size+1:=Heap.size_push ..
  have eq1:(List.range es.size).map (fun p=>((es[p]?).map (·.2)).getD Value.none)=es.toList.map (·.2):=by
   apply List.ext_getElem?;intro k;by_cases hk:k<es.size
   ·simp[hk]
   ·have:es.size<=k:=by omega
    simp[this]
  refine fin _ _ _ _ _ d (A3 (t:=t) (js:=js) (ep:=ep) hh _ a s.heap.objs.size ?_ ?_ ps hl hps _ rfl) ⟨⟨_,ZN _ rfl,rfl,rfl⟩,S.keep fun o e=>ZF _ (ZF _ e),_,ZF _ (ZN _ rfl),0,rfl⟩ (fun b hb=>?_) (by rw[ZA];exact hl) ?_ (new _ ?_) fun b o e=>ZF _ (ZF _ e)
  ·show a≠_;rw[zT];exact Ye (WZ ha)
  ·show s.heap.objs.size≠_;rw[zT];exact Ye (Qi _)
  ·rcases ZQ.mp hb with rfl|hb
   ·refine .inr (new _ ?_);show s.heap.objs.size<=_;rw[zT];exact WJ _
   ·rcases ZQ.mp hb with rfl|hb
    ·exact .inl rfl
    ·rw[ZE.mp hb];exact .inr (new _ (ZG _))
  ·rw[←eq1];exact hp.map _
  ·show s.heap.objs.size<=_;rw[zT];exact WJ _
def DL{Q:Bool->Shared->Prop}(hT:s.TypeIs (.ref a) "set")(h:Q false s):wpAny (model prog w) A (Builtin.List.listLengthHint (.ref a)) Q E s:=by
 unfold Builtin.List.listLengthHint;refine Z9 (wpAny_specialOf hT F.slot_set_len.lookup ?_);generalize eid:("set.__len__" : String)=z
 wp_delta
 have sp:splitId z=some ("set","__len__"):=by subst eid;decide +kernel
 rw[sp];subst eid;refine Z9 (wpAny_isInstance (T:="set") (b:=true) hT (by rw[isSubtype_type];kernel_rfl) (wpAny_ite_split (fun z=>absurd z (by decide)) fun _=>?_));exact wpAny_ite_split (fun _=>Z9 (wpAny_typeOf hT (ZD h))) fun z=>absurd (by decide +kernel) z
def EV{R:Result->Shared->Prop}(hh:A.handled=none)(S:SetAt w s.heap a js es ep t)(D:Addr)(c:Nat)(res:Value)(hD:s.heap.get? D=some {cls:=.type "list",data:=.seq #[] c})(hne:D≠a)(fin:∀(h':Heap) (tk:Nat) (d:Drawn) (vs:List Value) (c':Nat),vs.Perm (es.toList.map (·.2))->h'.get? D=some {cls:=.type "list",dict:=none,data:=.seq vs.toArray c',slots:=#[]}->(∀b o,b≠D->s.heap.get? b=some o->h'.get? b=some o)->R (.ok (.ret res)) {s with heap:=h',toks:=tk,drawn:=d}) :
  wpAny (model prog w) A.in1 (Builtin.List.listExtendWith (.ref D) (.ref a) res) (fun f s'=>match f with | .done f=>R (.ok f) s' | .again c'=>c'.quiet=true/\codeAny (model prog w) A c' R s') (fun e s'=>R (.error e) s') s:=by
 obtain⟨ob,hob,hx,hdd⟩:=S.obj;have hT:s.TypeIs (.ref a) "set":=⟨ob,hob,hx.1⟩;unfold Builtin.List.listExtendWith;refine Z9 (wpAny_typeOf (T:="set") hT ?_);have n1:Builtin.List.listSameRef (.ref D) (.ref a)=false:=by simp[Builtin.List.listSameRef,hne]
 have n2:(Value.type "set" == Value.type "list")=false:=by decide
 have n3:(Value.type "set" == Value.type "tuple")=false:=by decide
 simp only[n1,n2,n3,Bool.or_false,Q4,Qh];refine Z9 (DR (A':=A.in1) hh S fun I fp vs St h1 d1 W st0 flt hl hp hI keep=>?_);have hDI:D≠I:=fun z=>by rw[←z,hD]at hI;cases hI
 have loop:∀(h:Heap) (tk c1:Nat),St 0 h->(∀b o,b≠D->s.heap.get? b=some o->h.get? b=some o)->h.get? D=some {cls:=.type "list",data:=.seq #[] c1}->D∉fp->
   codeAny (model prog w) A (.builtin "list.extend.loop" ⟨[.ref D,.ref I,res],[]⟩) R {s with heap:=h,toks:=tk,drawn:=d1}:=fun h tk c1 st hk hD1 hDf=>by
  refine codeAny_extend_loopS W.toS (WY S.few) D hDf res es.size 0 _ #[] c1 rfl (YJ _) st hD1 (ItemsOf.nil _) fun s' acc c' hm hD' hacc=>?_
  have ev:acc.toList=vs:=by
   apply List.ext_getElem?;intro k;by_cases hk2:k<acc.size
   ·have e1:acc[k]?=some acc[k]:=YF hk2;rw[Y8,e1];exact(hacc.2 k _ e1).symm
   ·rw[Y8,Qe (by omega),Wg (by have:=hacc.1;omega)]
  have e2:acc=vs.toArray:=by rw[←ev]
  rw[e2]at hD';rw[Moved.eq_with hm];refine fin s'.heap s'.toks d1 vs c' hp hD' fun b o hb e=>hm.heap b o (fun hmem=>?_) (hk b o hb e);rcases ZQ.mp hmem with z|z
  ·exact hb z
  ·rw[ZE.mp z,hI]at e;cases e
 have hDf:D∉fp:=fun hm=>by
  rcases flt D hm with z|z
  ·exact hne z
  ·rw[hD]at z;cases z
 have hT1:Shared.TypeIs {s with heap:=h1,drawn:=d1} (.ref a) "set":=⟨ob,keep _ _ hob,hx.1⟩
 refine Z9 (Ww (DL hT1 ?_));have hD1:=keep _ _ hD;refine wpAny_ite_split (fun _=>?_) fun _=>ZD ⟨Wy F.plain_extend_loop _,loop _ _ c st0 (fun b o _ e=>keep b o e) hD1 hDf⟩;refine Z9 (wpAny_rule (Z9 (?_:wpAny _ _ (updateSeq D (·.push .none) >>= fun _=>updateSeq D (·.pop)) _ _ _)));refine Z9 (wpAny_updateSeq hD1 rfl ?_);have hD2:=Yy (Obj.mapSeq (·.push Value.none)) hD1 rfl;refine wpAny_updateSeq (hz:=by seq_fits) hD2 rfl ?_;have hD3:=Yy (Obj.mapSeq (·.pop)) hD2 rfl
 have oth:∀b o,b≠D->h1.get? b=some o->((h1.update D (Obj.mapSeq (·.push Value.none))).update D (Obj.mapSeq (·.pop))).get? b=some o:=fun b o hb e=>
  (Y4 _ _ (Ne.symm hb)).trans ((Y4 _ _ (Ne.symm hb)).trans e)
 exact ZD ⟨Wy F.plain_extend_loop _,loop _ _ _ (W.frame 0 _ _ st0 fun b hb o e=>oth b o (fun z=>hDf (z▸hb)) e) (fun b o hb e=>oth b o hb (keep b o e)) hD3 hDf⟩
def Gn{R:List Value->Shared->Prop}(hh:A.handled=none)(S:SetAt w s.heap a js es ep t)(fin:∀(h':Heap) (tk:Nat) (d:Drawn) (vs:List Value),vs.Perm (es.toList.map (·.2))->(∀b o,s.heap.get? b=some o->h'.get? b=some o)->s.heap.objs.size<h'.objs.size->R vs {s with heap:=h',toks:=tk,drawn:=d}) :
  wpAny (model prog w) A (collect (.ref a)) R E s:=by
 obtain⟨ob,hob,hx,hdd⟩:=S.obj;have hne:s.heap.objs.size≠a:=Qo (ZH hob);unfold collect;refine Z9 (wpAny_runValue (YG entry_proto_collect' ?_));have u1:=YB (A:=A) PySem.F.plain_proto_collect ⟨[.ref a],[]⟩;rw[u1];refine(show wpAny _ A.in1 (newList [] >>= fun l=>again (.builtin "list.__iadd__" ⟨[l,.ref a],[]⟩)) _ _ s from Z9 (Yh (ZD ⟨Wy Wu _,YG entry_list_iadd' ?_⟩)))
 have u2:=YB (A:=A) Wu ⟨[.ref s.heap.objs.size,.ref a],[]⟩;rw[u2];have g1:(s.heap.push {cls:=.type "list",data:=.seq ([]:List Value).toArray}).get? s.heap.objs.size=some {cls:=.type "list",data:=.seq #[]}:=ZN _ rfl;show wpAny _ A.in1 (Builtin.List.listExtendWith (.ref s.heap.objs.size) (.ref a) (.ref s.heap.objs.size)) _ _ _
 have key:=EV (prog:=prog) (A:=A) (s:={s with heap:=s.heap.push {cls:=.type "list",data:=.seq ([]:List Value).toArray}})
  (R:=fun q s'=>∃h' tk d vs c',q=.ok (.ret (.ref s.heap.objs.size))/\s'={s with heap:=h',toks:=tk,drawn:=d}/\vs.Perm (es.toList.map (·.2))/\(∀b o,s.heap.get? b=some o->h'.get? b=some o)/\
   h'.get? s.heap.objs.size=some {cls:=.type "list",dict:=none,data:=.seq vs.toArray c',slots:=#[]}) hh (S.keep fun o e=>ZF _ e) s.heap.objs.size 0 (.ref s.heap.objs.size) g1 hne
  fun h' tk d vs c' hp hD hk=>⟨h',tk,d,vs,c',rfl,rfl,hp,fun b o e=>hk b o (Ye (ZH e)) (ZF _ e),hD⟩
 refine Yu key (fun f s' x=>?_) fun e s' x=>?_
 ·cases f with
  |done f=>
   obtain⟨h',tk,d,vs,c',e,rfl,hp,hk,hD⟩:=x;cases e
   refine(show wpAny _ A (load s.heap.objs.size >>= _) _ _ _ from Z9 (wpAny_load hD (ZD ?_)))
   exact fin h' tk d vs hp hk (ZH hD)
  |again c1=>
   refine⟨x.1,Wp x.2 fun q s2 y=>?_⟩;obtain⟨h',tk,d,vs,c',rfl,rfl,hp,hk,hD⟩:=y;refine(show wpAny _ A (load s.heap.objs.size >>= _) _ _ _ from Z9 (wpAny_load hD (ZD ?_)))
   exact fin h' tk d vs hp hk (ZH hD)
 ·obtain⟨_,_,_,_,_,e',_⟩:=x;cases e'
def TK:∀{l:List (Int×Value)},(∀e∈l,Ent e)->IntsAre (l.map (·.2)) (l.map keyOf)
 |[],_=>.nil
 |e::r,h=>by
  obtain⟨k,t,rfl⟩:=h e Yo;exact .cons k t (TK fun x hx=>h x (Yc _ hx))
def Ii{vs us:List Value}(p:vs.Perm us):∀{ns:List Int},IntsAre us ns->∃ms,IntsAre vs ms/\ms.Perm ns:=by
 induction p with
 |nil=>intro ns h;cases h;exact⟨[],.nil,List.Perm.refl _⟩
 |cons x _ ih=>
  intro ns h;cases h with
  |cons n t r=>
   obtain⟨ms,h1,h2⟩:=ih r;exact⟨n::ms,.cons n t h1,List.Perm.cons _ h2⟩
 |swap x y l=>
  intro ns h;cases h with
  |cons n t r=>
   cases r with
   |cons n' t' r'=>exact⟨n'::n::_,.cons n' t' (.cons n t r'),List.Perm.swap _ _ _⟩
 |trans _ _ ih1 ih2=>
  intro ns h;obtain⟨ms,h1,h2⟩:=ih2 h;obtain⟨ks,h3,h4⟩:=ih1 h1;exact⟨ks,h3,h4.trans h2⟩
def AM{Q:Value->Shared->Prop}(hh:A.handled=none)(B:SetB w s.heap a js)(h64:js.length<64)
  (fin:∀(l:Addr) (h':Heap) (tk:Nat) (d:Drawn) (out:List Value) (ns:List Int) (e:Nat),IntsAre out ns->ns.Perm js->ns.Pairwise (·<=·)->s.heap.get? l=none->s.heap.objs.size<=l->h'.get? l=some {cls:=.type "list",data:=.seq out.toArray e}->
   (∀b o,s.heap.get? b=some o->h'.get? b=some o)->Q (.ref l) {s with heap:=h',toks:=tk,drawn:=d}) :
  wpAny (model prog w) A (call (.builtin "sorted") [.ref a]) Q E s:=by
 obtain⟨es,ep,t,S⟩:=B;refine Calls.call_function_entry kind_sorted plain_sorted entry_sorted (args_sorted1 _) ?_;unfold Builtin.«sorted»;refine Z9 (m:=checkCount "sorted" 1 1 _) (ZD (Z9 (Gn (A:=A.in1) hh S fun h1 tk d vs hp keep big=>?_)));obtain⟨ms,hI,hms⟩:=Ii hp (TK S.ent);have hms2:ms.Perm js:=hms.trans S.per;have hl:vs.length<64:=by rw[IntsAre.length hI,hms2.length_eq];exact h64
 refine Z9 (wpAny_newList ?_ (by have:(64:Nat)<=sizeLine:=(by decide);omega));have g1:(h1.push (seqObj "list" vs.toArray 0)).get? h1.objs.size=some (seqObj "list" vs.toArray 0):=ZN _ rfl;refine Z9 (Ww (YH slot_list_sort ⟨_,g1,rfl⟩ entry_list_sort (list_sort_tree g1 hI hl fun out ns a1 a2 a3=>⟨_,rfl,?_⟩) (args_list_sort _)));obtain⟨e,he⟩:=sortedHeap_at (out:=out) g1;have hsz:s.heap.objs.size<=h1.objs.size:=W9 big;refine ZD ⟨_,rfl,fin h1.objs.size _ tk d out.toList ns e a1 (a2.trans hms2) a3 ?_ hsz (by simpa [seqObj]using he) fun b o q=>?_⟩
 ·cases q:s.heap.get? h1.objs.size with
  |none=>rfl
  |some o=>exact absurd (ZH (keep _ _ q)) (YM _)
 ·have hlt:=ZH (keep b o q);rw[sortedHeap_old (Ye hlt) (by rw[size_push'];exact WZ hlt)];exact ZF _ (keep b o q)
end
end SetR
namespace Own
open PySem PySem.Spec PyProof.Rows L2
def SetH(w:World)(l:Addr)(js:List Int):HO:=.ext fun h=>SetR.SetB w h l js
section
variable {X:Cx}
def AY{P:Program}{w:World}{H:Hp}{h:Heap}{l:Addr}{js:List Int}(B:SetR.SetB w h l js):ObjOk P w H h l (SetH w l js):=by
 refine⟨B,?_,fun h1 h2 B1 k=>B1.at k⟩;obtain⟨es,ep,t,S⟩:=B;obtain⟨o,ho,_⟩:=S.obj;exact⟨o,ho⟩
def Ap(hc:X.calm=true):VN X (.type "set") (fun xs H Q=>∃(p:Addr) (ns:List Int),xs=[.ref p]/\SqL X.K H p (ns.map V.int)/\ns.length+1<4096/\∀l,H l=none->Q (.ref l) (upd H l (SetH X.w l (ns.foldl SetR.addJ [])))):=by
 intro pins s σ H xs us Q I rv h;obtain⟨p,ns,rfl,hS,hz,q⟩:=h;obtain⟨u,rfl,ru⟩:=rv.one;obtain rfl:u=Value.ref p:=ru;obtain⟨its,r,pl,_⟩:=I.list hS;refine SetR.CU (I.ok.hd hc) pl.isList (by simpa using X5 r) hz fun h' tk B keep=>?_;have hf:H s.heap.objs.size=none:=I.hok.fresh (ZG _);exact⟨.ref s.heap.objs.size,upd H s.heap.objs.size (SetH X.w s.heap.objs.size _),I.laid (t':=tk) (fun b o e=>keep b o (ZH e) e) (ZG _) (AY B),rfl,q _ hf⟩
def SE(hc:X.calm=true):VN X (.builtin "sorted") (fun xs H Q=>∃(p:Addr) (js:List Int),xs=[.ref p]/\js.length<64/\(SqL X.K H p (js.map V.int)\/H p=some (SetH X.w p js))/\
  ∀(l:Addr) (ns:List Int),H l=none->ns.Perm js->ns.Pairwise (·<=·)->Q (.ref l) (upd H l (.lst (ns.map V.int)))):=by
 intro pins s σ H xs us Q I rv h;obtain⟨p,js,rfl,hz,hS,q⟩:=h;obtain⟨u,rfl,ru⟩:=rv.one;obtain rfl:u=Value.ref p:=ru
 have big:∀{ns:List Int},ns.Perm js->(ns.map V.int).length<=sizeLine:=fun hp=>by
  rw[ZA,hp.length_eq]
  have:(64:Nat)<=sizeLine:=by decide
  omega
 rcases hS with hS|hS
 ·obtain⟨its,r,pl,_⟩:=I.list hS;have hI:IntsAre its js:=by simpa using X5 r
  refine sorted_ints pl.isList hI (by rw[IntsAre.length hI];exact hz) fun out ns a1 a2 a3=>?_;obtain⟨e,he⟩:=sortedAll_at s.heap its out;have hf:H (s.heap.objs.size+1)=none:=I.hok.fresh (WJ _);refine⟨.ref (s.heap.objs.size+1),upd H (s.heap.objs.size+1) (.lst (ns.map V.int)),I.laid (t':=s.toks) (fun b o e=>sortedAll_old e) (WJ _) ⟨big a2,out.toList,e,XS a1,?_⟩,rfl,q _ ns hf a2 a3⟩;simpa [seqObj]using he
 ·have B:SetR.SetB X.w s.heap p js:=(show ObjOk X.prog X.w H s.heap p (SetH X.w p js)from I.hok p _ hS).1
  refine SetR.AM (I.ok.hd hc) B hz fun l h' tk d out ns e a1 a2 a3 nl hl he keep=>?_;have hf:H l=none:=I.hok.fresh hl;refine⟨.ref l,upd H l (.lst (ns.map V.int)),?_,rfl,q l ns hf a2 a3⟩;have ok:HOk X.prog X.w (upd H l (.lst (ns.map V.int))) h':=I.hok.laid keep hl ⟨big a2,out,e,XS a1,he⟩;exact I.call (ch:=[]) (h':=h') (g':=s.gens) (d':=d) (t':=tk) (Un.laid keep hl hf) ok I.bare (fun b z=>absurd z (by simp))
end
section
variable {X:Cx}{K:Za}
def Gu(hK:X.K=K:=by rfl):IxR X (fun x y H Q=>rIxL K x y H Q\/rIxT K x y H Q):=by subst hK;exact Eh
def Ep(hK:X.K=K:=by rfl):VN X (.builtin "len") (fun xs H Q=>∃x n,xs=[x]/\LenV K x H n/\Q (.int n) H):=by subst hK;exact Aw
def AN(hK:X.K=K:=by rfl):OpR X (compareOp .In) (rIn K false):=by subst hK;exact DC
def Cy(hK:X.K=K:=by rfl):OpR X (compareOp .NotIn) (rIn K true):=by subst hK;exact FG
def JS{pos:Pos}{es:List Expr}{k:Nat}{t:TGs}{n:Nat}(hc:X.calm=true)(h:PGs X es t)(hK:X.K=K:=by rfl)(hn:(assignEach es X.env).length=n:=by rfl)(hst:(assignEach es X.env).findIdx? (·.1)=none:=by rfl):PG X (.Tuple es k pos) (gTup K n t):=by subst hK;exact Gy hc h hn hst
end
section
variable {α:Type}{R:Hp->V->α->Prop}{φ:List (Option Nat)}{g:TG}{tc:TT}{te:TE}{σ:L2.St}{H1:Hp}{F:Hp->Prop}{D:Addr}
def DA{K:Za}{a:Addr}{xs:List V}{ds:List α}(f:α->Option V)(hS:SqL K H1 a xs)(hd:xs.length=ds.length)(hD:H1 D=none)(hz:ds.length<=sizeLine)(turn:∀(i:Nat) (x:V) (d:α) (H2:Hp),xs[i]?=some x->ds[i]?=some d->Same H1 H2->∀k:Option V->Hp->Prop,k (f d) H2->g x (atStart φ σ) H2 fun σ2 H4=>Sub (atStart φ σ) σ2/\tc σ2 H4 fun b H5=>if b=true then te σ2 H5 fun y H6=>k (some y) H6 else k none H5)(done:F (upd H1 D (.lst (ds.filterMap f)))) :
  ∃W:Nat->Nat->List V->Hp->Prop,(∃m,W 0 m [] (upd H1 D (.lst [])))/\
   ∀i m ys H2,W i m ys H2->((Itl K a).stop i H2/\F H2)\/((Itl K a).go i H2/\∀x H3,(Itl K a).yld i H2 x H3->g x (atStart φ σ) H3 fun σ2 H4=>Sub (atStart φ σ) σ2/\tc σ2 H4 fun b H5=>
    if b=true then te σ2 H5 fun y H6=>H6 D=some (.lst ys)/\ys.length<sizeLine/\∃m',m'<m/\W (i+1) m' (ys++[y]) (upd H6 D (.lst (ys++[y])))else ∃m',m'<m/\W (i+1) m' ys H5):=by
 refine⟨fun i m ys H2=>m=ds.length-i/\i<=ds.length/\ys=(ds.take i).filterMap f/\H2=upd H1 D (.lst ys),⟨ds.length,by simp,YJ _,by simp,rfl⟩,?_⟩;rintro i m ys H2 ⟨rfl,hi,rfl,rfl⟩;have S2:Same H1 (upd H1 D (.lst ((ds.take i).filterMap f))):=VA hD;by_cases hlt:i<ds.length
 ·refine .inr ⟨⟨xs,xs[i]'(by omega),S2.seq hS,by simp[hd,hlt]⟩,fun x H3 y=>?_⟩;obtain⟨e,y⟩:=y;subst e;have hx:=y xs (S2.seq hS);have ed:ds[i]?=some ds[i]:=ZC hlt
  refine turn i x ds[i] _ hx ed S2 (fun o H'=>match o with
   |some y=>H' D=some (.lst ((ds.take i).filterMap f))/\((ds.take i).filterMap f).length<sizeLine/\∃m',m'<ds.length-i/\(m'=ds.length-(i+1)/\i+1<=ds.length/\(ds.take i).filterMap f++[y]=(ds.take (i+1)).filterMap f/\upd H' D (.lst ((ds.take i).filterMap f++[y]))=upd H1 D (.lst ((ds.take i).filterMap f++[y])))
   |none=>∃m',m'<ds.length-i/\(m'=ds.length-(i+1)/\i+1<=ds.length/\(ds.take i).filterMap f=(ds.take (i+1)).filterMap f/\H'=upd H1 D (.lst ((ds.take i).filterMap f)))) ?_
  have et:ds.take (i+1)=ds.take i++[ds[i]]:=Yg hlt;cases ef:f ds[i]with
  |some y=>
   refine⟨V0,?_,ds.length-(i+1),by omega,rfl,hlt,?_,FD⟩
   ·have h1:=List.length_filterMap_le f (ds.take i);rw[Yf]at h1;omega
   ·rw[et,WA];simp[ef]
  |none=>
   refine⟨ds.length-(i+1),by omega,rfl,hlt,?_,rfl⟩;rw[et,WA];simp[ef]
 ·have e:i=ds.length:=by omega
  subst e;refine .inl ⟨⟨xs,S2.seq hS,by omega⟩,?_⟩;rw[YI];exact done
end
def eqL(xs ys:List V):Bool:=decide (xs.length=ys.length)&&(List.range xs.length).all fun j=>eqV (xs.getD j .non) (ys.getD j .non)
def rEqL(K:Za)(neg:Bool):R2:=fun x y H Q=>∃(p q:Addr) (xs ys:List V),x=.ref p/\y=.ref q/\SqL K H p xs/\SqL K H q ys/\xs.all VW=true/\ys.all VW=true/\Q (.bl (if neg then !eqL xs ys else eqL xs ys)) H
section
variable {X:Cx}
def Fg{A:Around}{s:Shared}{xs ys:List V}{us ws:List Value}(r1:Vals xs us)(r2:Vals ys ws)(f1:xs.all VW=true)(f2:ys.all VW=true)(j:Nat)(h1:j<us.toArray.size)(h2:j<ws.toArray.size) :
  SeqAt.EqAt A s us.toArray[j] ws.toArray[j] (eqV (xs.getD j .non) (ys.getD j .non)):=by
 have l1:=r1.length;have l2:=r2.length;have g1:j<us.length:=by simpa using h1
 have g2:j<ws.length:=by simpa using h2
 have k1:xs[j]?=some (xs[j]'(by omega)):=ZC _;have k2:ys[j]?=some (ys[j]'(by omega)):=ZC _;obtain⟨u,eu,ru⟩:=r1.get k1;obtain⟨w,ew,rw'⟩:=r2.get k2
 have e1:us.toArray[j]=u:=by
  have:us[j]?=some us[j]:=ZC g1
  rw[this]at eu;simpa using ZL eu
 have e2:ws.toArray[j]=w:=by
  have:ws[j]?=some ws[j]:=ZC g2
  rw[this]at ew;simpa using ZL ew
 have d1:xs.getD j .non=xs[j]'(by omega):=by rw[ZM,k1];rfl
 have d2:ys.getD j .non=ys[j]'(by omega):=by rw[ZM,k2];rfl
 rw[e1,e2,d1,d2];exact TY ru rw' (Wr.mp f1 _ (Yb _)) (Wr.mp f2 _ (Yb _))
def Fz(hu:X.A.units<cLine):OpR X (compareOp .Eq) (rEqL X.K false):=by
 intro pins s σ H x y v u Q I rx ry h;obtain⟨p,q,xs,ys,rfl,rfl,hp,hq,f1,f2,k⟩:=h;obtain rfl:v=Value.ref p:=rx;obtain rfl:u=Value.ref q:=ry;obtain⟨us,r1,p1,_⟩:=I.list hp;obtain⟨ws,r2,p2,_⟩:=I.list hq;have l1:=r1.length;have l2:=r2.length;have k':Q (.bl (eqL xs ys)) H:=k;by_cases e:xs.length=ys.length
 ·refine SeqAt.eq_listAt p1.isList p2.isList (by simp;omega) hu (fun j h1 h2=>Fg r1 r2 f1 f2 j h1 h2) ⟨.bl (eqL xs ys),H,I,?_,k'⟩;show _=Value.bool (eqL xs ys);unfold eqL;rw[ZJ e,WG,ZP,←l1]
 ·refine SeqAt.eq_list_lengthsAt p1.isList p2.isList (by simp;omega) hu ⟨.bl (eqL xs ys),H,I,?_,k'⟩;show _=Value.bool (eqL xs ys);unfold eqL;rw[ZR e];rfl
def CY(hu:X.A.units<cLine):OpR X (compareOp .NotEq) (rEqL X.K true):=by
 intro pins s σ H x y v u Q I rx ry h;obtain⟨p,q,xs,ys,rfl,rfl,hp,hq,f1,f2,k⟩:=h;obtain rfl:v=Value.ref p:=rx;obtain rfl:u=Value.ref q:=ry;obtain⟨us,r1,p1,_⟩:=I.list hp;obtain⟨ws,r2,p2,_⟩:=I.list hq;have l1:=r1.length;have l2:=r2.length;have k':Q (.bl (!eqL xs ys)) H:=k;by_cases e:xs.length=ys.length
 ·refine SeqAt.RcNeAt.lists p1.isList p2.isList (by simp;omega) hu (fun j h1 h2=>Fg r1 r2 f1 f2 j h1 h2) _ _ _ _ ⟨.bl (!eqL xs ys),H,I,?_,k'⟩;show _=Value.bool (!eqL xs ys);unfold eqL;rw[ZJ e,WG,ZP,←l1]
 ·refine SeqAt.RcNeAt.lists_lengths p1.isList p2.isList (by simp;omega) hu _ _ _ _ ⟨.bl (!eqL xs ys),H,I,?_,k'⟩;show _=Value.bool (!eqL xs ys);unfold eqL;rw[ZR e];rfl
def Pj{xs:List Int}{us:List Value}(r:Vals (xs.map V.int) us)(z:Int):∀(j:Nat) (h1:j<us.length) (h2:j<xs.length),Value.isInt z us[j]=(xs[j]==z):=by
 intro j h1 h2;obtain⟨u,eu,t,rfl⟩:=r.get (x:=V.int xs[j]) (i:=j) (by rw[ZT,ZC h2];rfl);rw[ZC h1]at eu;rw[ZL eu];simp[Value.isInt]
def EX{xs:List Int}{us:List Value}(r:Vals (xs.map V.int) us)(z:Int)(t:Tok):∀y,y∈us.toArray->MeetsSeq.EqGives y (.int z t) (Value.isInt z y):=by
 intro y hy;obtain⟨j,hj,rfl⟩:=Yi.mp (by simpa using hy:y∈us);have l1:=r.length;rw[ZA]at l1;rw[Pj r z j hj (by omega)];obtain⟨u,eu,t',rfl⟩:=r.get (x:=V.int (xs[j]'(by omega))) (i:=j) (by rw[ZT,ZC (show j<xs.length by omega)];rfl);rw[ZC hj]at eu;rw[ZL eu];exact MeetsSeq.EqGives.int _ _ _ _
def PR(K:Za):V->List V->Hp->VK->Prop:=fun x vs H Q=>∃(l:Addr) (xs:List Int) (z:Int),x=.ref l/\vs=[.int z]/\SqL K H l (xs.map V.int)/\z∈xs/\Q (.int (xs.idxOf z:Nat)) H
def HY:MtM X "list.index" (PR X.K):=by
 intro pins s σ H x vs v us Q I rx rv h;obtain⟨l,xs,z,rfl,rfl,hS,hz,q⟩:=h;cases rx
 obtain⟨u,rfl,t,rfl⟩:=rv.one;obtain⟨its,r,p1,hsz⟩:=I.list hS;obtain⟨o,n,ho,hc,hdn,hd⟩:=p1;obtain⟨c1,d1,dt1,sl1⟩:=o;simp only at hc hdn hd;subst hc hdn hd;have l1:=r.length;rw[ZA]at l1;have hj:xs.idxOf z<xs.length:=List.idxOf_lt_length_iff.mpr hz;have hb:xs.length<=2 ^ 24:=by rw[ZA]at hsz;exact hsz
 refine call_meets WX ⟨_,ho,rfl⟩ PySem.F.entry_list_index (PySem.F.args_list_index_2 _ _)
  (SeqAt.list_indexAt l its.toArray n none sl1 (.int z t) (Value.isInt z) (xs.idxOf z) (by simpa [←l1]using hj) (by omega) ?_ ?_) ⟨ho,fun y hy=>(EX r z t y hy).at _ _,⟨.int (xs.idxOf z:Nat),H,I.tok _,⟨_,rfl⟩,q⟩⟩
 ·have e:=Pj r z (xs.idxOf z) (by omega) hj;show Value.isInt z its[xs.idxOf z]=true;rw[e];simpa using WR hj
 ·intro m hm hlt;have hm':m<its.length:=by simpa using hm
  have e:=Pj r z m hm' (by omega);show Value.isInt z its[m]=false;rw[e]
  have:=List.not_of_lt_findIdx (p:=(· == z)) (xs:=xs) (i:=m) hlt
  simpa using this
end
def Ite(K:Za)(a:Addr):It:=
 ⟨fun i H=>∃xs x,SqL K H a xs/\xs[i]?=some x,fun i H x H'=>∃T v,H T=none/\(∀xs,SqL K H a xs->xs[i]?=some v)/\x=.ref T/\H'=upd H T (.tup [.int i,v]),fun i H=>∃xs,SqL K H a xs/\xs.length<=i⟩
def Dn{P:Program}{w:World}{K:Za}{elts:List Expr}{k1:Nat}{tp:Pos}(a e it:Addr)(hne:e≠it) :
  Turn P w K (.Tuple elts k1 tp) (Ite K a) [e,it] e (fun i h=>∃old,IsEnum h e it i old/\h.IsListIter it a i) where
 mem:=by simp
 obj:=fun i h st b hb=>by
  obtain⟨old,h1,o,h2,_,h3⟩:=st;rcases ZQ.mp hb with rfl|hb
  ·exact⟨_,h1,fun v z=>by cases z⟩
  ·rw[ZE.mp hb];exact⟨o,h2,fun v z=>by rw[h3]at z;cases z⟩
 keep:=fun i h h' st k=>by
  obtain⟨old,h1,h2⟩:=st;exact⟨old,k e (by simp) _ h1,h2.at fun o q=>k it (by simp) o q⟩
 item:=by
  intro X hP hw hK hc i pins s σ H E I hf st hg;subst hP hw hK;obtain⟨old,he,hit⟩:=st;obtain⟨xs,x,hq,hx⟩:=hg;obtain⟨its,rv,p,hz⟩:=I.list hq;obtain⟨u,hu,ru⟩:=rv.get hx;obtain⟨a0,a1,a2,a3,a4,a5⟩:=hf e (by simp);obtain⟨b0,b1,b2,b3,b4,b5⟩:=hf it (by simp);have hfr:H s.heap.objs.size=none:=I.hok.fresh (ZG _);have heL:e<s.heap.objs.size:=ZH he;have hiL:it<s.heap.objs.size:=by obtain⟨o,ho,_⟩:=hit;exact ZH ho
  refine wpAny_pyNext_enum_item he hit p.isList (x:=u) (by simpa using hu) hne fun h1 eo it1 ht1 hz1 k1=>⟨_,rfl,?_⟩;refine wpAny_letOwnedTupleGo_enum eo fun h2 e2 sb2=>?_;have keep2:∀b o,b∉[e,it]->s.heap.get? b=some o->h2.get? b=some o:=fun b o hb q=>sb2.extBut b o (fun z=>hb (by simp[z])) (k1 b o (fun z=>hb (by simp[z])) (fun z=>hb (by simp[z])) q);have hT2:h2.get? s.heap.objs.size=some {cls:=.type "tuple",data:=.seq #[.int i s.toks,u]}:=sb2.extBut _ _ (Qo heL) ht1
  have n0:∀b,b∈[e,it]->H b=none:=fun b hb=>by
   rcases ZQ.mp hb with rfl|hb
   ·exact a0
   ·rw[ZE.mp hb];exact b0
  have un:Un (frs X.stack) [e,it] H (upd H s.heap.objs.size (.tup [.int i,x])) s.heap h2:=by
   refine⟨fun b o q _ _ hx'=>keep2 b o hx' q,fun b o q _ _ hx'=>⟨o.slots,keep2 b o hx' q⟩,fun b o q n _=>by rw[Vl (Ye (ZH q))];exact n,fun b o q hx'=>⟨o,keep2 b o hx' q⟩,
    fun b ys q=>by rw[Vl (Ja q hfr)];exact q,fun b o ys q=>by rw[Vl (Ja q hfr)];exact q,fun b ps q=>⟨#[],by rw[Vl (Ja q hfr),q];simp⟩⟩
  have ok2:HOk X.prog X.w (upd H s.heap.objs.size (.tup [.int i,x])) h2:=fun b o q=>by
   by_cases hb:b=s.heap.objs.size
   ·subst hb;rw[V0]at q;cases q
    exact⟨by show 2<=sizeLine;decide,[.int i s.toks,u],.cons ⟨_,rfl⟩ (.cons ru .nil),_,hT2,rfl,_,rfl⟩
   ·rw[Vl hb]at q;refine(I.hok b o q).stay (fun c v hc' r=>keep2 c v (fun z=>?_) r) (fun c r=>by rw[Vl (Ja r hfr)];exact r) fun c ys r=>by rw[Vl (Ja r hfr)];exact r
    have hcn:=n0 c z;rcases hc' with rfl|hc'
    ·rw[hcn]at q;cases q
    ·rw[hcn]at hc';cases hc'
  have I2:Inv X pins σ (upd H s.heap.objs.size (.tup [.int i,x])) {s with heap:=h2,toks:=s.toks+1}:=I.call (ch:=[e,it]) (h':=h2) (g':=s.gens) (d':=s.drawn) (t':=s.toks+1) un ok2 I.bare fun b hb=>by
   rcases ZQ.mp hb with rfl|hb
   ·exact⟨a3,a1,a4,a5⟩
   ·rw[ZE.mp hb];exact⟨b3,b1,b4,b5⟩
  refine⟨.ref s.heap.objs.size,_,I2,rfl,⟨_,x,hfr,fun ys hy=>by rw[I.list_inj hy hq];exact hx,rfl,rfl⟩,⟨u,?_,it1.at fun o q=>sb2.extBut it o (Ne.symm hne) q⟩,fun b hb=>?_⟩
  ·have:((i+1:Nat):Int)=(i:Int)+1:=by omega
   rw[this];exact e2
  ·rw[Vl]
   ·exact n0 b hb
   ·rcases ZQ.mp hb with rfl|hb
    ·exact Ye heL
    ·rw[ZE.mp hb];exact Ye hiL
 done:=by
  intro X hP hw hK hc i pins s σ H E I hf st hg;subst hP hw hK;obtain⟨old,he,hit⟩:=st;obtain⟨xs,hq,hx⟩:=hg;obtain⟨its,rv,p,hz⟩:=I.list hq;obtain⟨b0,b1,b2,b3,b4,b5⟩:=hf it (by simp);have l1:=rv.length;refine wpAny_pyNext_enum_end (I.ok.hd hc) he hit p.isList (by simp;omega) fun h' eb=>⟨rfl,?_⟩;exact I.turned (it:=it) (t':=s.toks) (fun b o hb q=>eb b o hb q) b0 b1 b3 b4 b5
 self:=by
  intro A i s Q E st q;obtain⟨old,he,hit⟩:=st;have hT:s.TypeIs (.ref e) "enumerate":=⟨_,he,rfl⟩;refine Qb hT F.slot_enumerate_iter (YH F.slot_enumerate_iter hT F.entry_enumerate_iter ?_ (F.args_enumerate_iter_1 _));show wpAny _ _ (ret (.ref e)) _ _ s;exact ZD ⟨_,rfl, "enumerate",_,hT,F.slot_enumerate_next.lookup,q⟩
def Sk(K:Za)(ta:TA):TI:=fun σ H R=>ta σ H fun vs H1=>∃a,vs=[.ref a]/\(∃xs,SqL K H1 a xs)/\R (Ite K a) H1
def Ib{X:Cx}{elts:List Expr}{k1:Nat}{tp:Pos}{a:Expr}{ta:TA}{p pos:Pos}(hg:Gl X "enumerate")(hm:X.mg "enumerate"=none)(ha:PA X [a] ta)(hs:starEach [a] X.env=[(false,eval a X.env)]:=by rfl) :
  PI X (.Tuple elts k1 tp) (.Call (.Name "enumerate" p) [a] [] pos) (Sk X.K ta):=by
 intro pins s σ H R I h;refine Call_ (UB I hg hm boot_enumerate (Wb (thn (ha pos pins s σ H _ I h) fun us s1 ⟨vs,H1,I1,r1,q1⟩=>?_) hs rfl));obtain⟨l,e1,⟨xs,hq⟩,q⟩:=q1;subst e1;obtain⟨u,rfl,ru⟩:=r1.one;obtain rfl:u=Value.ref l:=ru;obtain⟨its,rv,pl,hz⟩:=I1.list hq;refine call_enumerate_list pl.isList fun h' he hit hsz keep=>?_;have I2:Inv X pins σ H1 {s1 with heap:=h'}:=I1.kept (t':=s1.toks) keep
 have hne:s1.heap.objs.size+1≠s1.heap.objs.size:=Nat.succ_ne_self _;have tn:∃old,IsEnum h' (s1.heap.objs.size+1) s1.heap.objs.size ((0:Nat):Int) old/\h'.IsListIter s1.heap.objs.size l 0:=⟨_,he,hit⟩;have T:=Dn (P:=X.prog) (w:=X.w) (K:=X.K) (elts:=elts) (k1:=k1) (tp:=tp) l (s1.heap.objs.size+1) s1.heap.objs.size hne;refine T.self X.A 0 {s1 with heap:=h'} _ _ tn ⟨_,_,_,_,H1,rfl,I2,T,tn,fun b hb=>?_,q⟩
 rcases ZQ.mp hb with rfl|hb
 ·exact I1.fpOk (WJ _) (I1.hok.fresh (WJ _))
 ·rw[ZE.mp hb];exact I1.fpOk (ZG _) (I1.hok.fresh (ZG _))
section
variable {X:Cx}{K:Za}
def To(hK:X.K=K:=by rfl):MtM X "list.index" (PR K):=by subst hK;exact HY
def BW{o e:Expr}{es:List Expr}{to:TE}{t:TA}{name:Str}{apos cpos:Pos}{T id:String}{r:V->List V->Hp->VK->Prop}(pa:PlainAttrs T)(slot:Slot T name id)(hty:typeOf (.builtin id)=pure (.type "method_descriptor"))(hm:MtM X id r)(ho:PE X o to)(ha:PA X (e::es) t)(hK:X.K=K:=by rfl)(hbase:attributeBase o name X.env (eval o X.env)=eval o X.env:=by rfl)
  (hfew:((backTo cpos (starEach (e::es) X.env)).all (fun x=>!x.1)&&(backToKw cpos (keywordEach [] X.env)).all (fun x=>x.1.isSome)
   && decide ((e::es).length+([]:List Keyword).length+(if ([]:List Keyword).isEmpty then 0 else 1)<30))=true:=by rfl)
  (hline:(apos.endLine==cpos.line)=true:=by rfl) (hs:starEach (e::es) X.env=(false,eval e X.env)::starEach es X.env:=by rfl) (hplain:(backTo cpos (starEach es X.env)).any (·.1)=false:=by rfl) :
  PE X (.Call (.Attribute o name apos) (e::es) [] cpos) (tBM K T r to t):=by
 subst hK;exact JY pa slot hty hm ho ha hbase hfew hline hs hplain
end
def NM(xs ys:List Int):eqL (xs.map V.int) (ys.map V.int)=decide (xs=ys):=by
 unfold eqL;rw[ZA,ZA];by_cases e:xs=ys
 ·subst e;rw[ZJ rfl,ZJ rfl,WG,Wr];intro j hj;have hj':j<xs.length:=by simpa using hj
  rw[ZM,ZT,ZC hj'];show(xs[j]==xs[j])=true;simp
 ·rw[ZR e];by_cases hl:xs.length=ys.length
  ·rw[ZJ hl,WG,Wk];intro hall;apply e;apply List.ext_getElem hl;intro j h1 h2
   have:=Wr.mp hall j (by simpa using h1)
   rw[ZM,ZT,ZC h1,ZM,ZT,ZC h2]at this;have h3:(xs[j]==ys[j])=true:=this;simpa using h3
  ·rw[ZR hl];rfl
def Uy(xs:List Int):(xs.map V.int).all VW=true:=by
 rw[List.all_map];exact Wr.mpr fun _ _=>rfl
end Own
namespace M
open PySem PySem.Spec PyProof.Rows L2 Own
def LV{α:Type}(R:Hp->V->α->Prop)(H:Hp)(vs:List V)(xs:List α):Prop:=
 vs.length=xs.length/\∀(i:Nat) (x:α),xs[i]?=some x->∃v,vs[i]?=some v/\R H v x
def LAt{α:Type}(R:Hp->V->α->Prop)(H:Hp)(l:Addr)(xs:List α):Prop:=∃vs,H l=some (.lst vs)/\LV R H vs xs
def Je(H:Hp)(v:V)(q:Int×Int):Prop:=∃a,v=.ref a/\H a=some (.tup [.int q.1,.int q.2])
section
variable {α:Type}{R:Hp->V->α->Prop}{H H':Hp}{vs:List V}{xs:List α}{l:Addr}
def LV.get {i:Nat}{v:V} (h:LV R H vs xs) (e:vs[i]?=some v):∃x,xs[i]?=some x/\R H v x:=by
 have hi:i<xs.length:=by rw[←h.1];exact(ZW.mp e).1
 obtain⟨v',e',r⟩:=h.2 i xs[i] (by simp[hi]);rw[e]at e';cases e';exact⟨_,by simp[hi],r⟩
end
def Menu(m:List Int):Prop:=∃a b c d e:Int,m=[a,b,c,d,e]/\(1<=a/\a<=10)/\(1<=b/\b<=9/\(b=1\/b=3\/b=7\/b=9))/\(0<=c/\c<=9)/\(1<=d/\d<=1000)/\(1<=e/\e+d<=1001)
def Field(ps:List (Int×Int)):Prop:=∀q∈ps,1<=q.1/\q.1<=10/\1<=q.2/\q.2<=1000
def Gi(js:List Int)(k z:Int):z∈SetR.addJ js k↔z∈js\/z=k:=by
 unfold SetR.addJ;split
 ·rename_i h;constructor
  ·exact fun x=>.inl x
  ·rintro(x|rfl)
   ·exact x
   ·exact h
 ·simp
def B3:∀(ns js:List Int) (z:Int),z∈ns.foldl SetR.addJ js↔z∈js\/z∈ns
 |[],js,z=>by simp
 |n::r,js,z=>by
  rw[List.foldl_cons,B3 r,Gi,ZQ];constructor
  ·rintro((h|h)|h)
   ·exact .inl h
   ·exact .inr (.inl h)
   ·exact .inr (.inr h)
  ·rintro(h|h|h)
   ·exact .inl (.inl h)
   ·exact .inl (.inr h)
   ·exact .inr h
def Hn{js:List Int}(k:Int)(h:js.Nodup):(SetR.addJ js k).Nodup:=by
 unfold SetR.addJ;split
 ·exact h
 ·rename_i hk;exact Y0.mpr ⟨h,by simp,fun x hx y hy=>by rw[ZE.mp hy];rintro rfl;exact hk hx⟩
def Sb:∀(ns:List Int) {js:List Int},js.Nodup->(ns.foldl SetR.addJ js).Nodup
 |[],_,h=>h
 |n::r,js,h=>Sb r (Hn n h)
def Sg:∀(ns js:List Int),(ns.foldl SetR.addJ js).length<=js.length+ns.length
 |[],js=>by simp
 |n::r,js=>by
  have h1:=Sg r (SetR.addJ js n)
  have h2:(SetR.addJ js n).length<=js.length+1:=by
   unfold SetR.addJ;split
   ·omega
   ·simp
  rw[List.foldl_cons,Ya];omega
def HI{l:List Int}(h:l.Pairwise (·<=·))(n:l.Nodup):l.Pairwise (· < ·):=by
 have:=h.and n
 exact this.imp fun {a b} h=>by have:=h.1;have:=h.2;omega
def BV{l₁ l₂:List Int}(h1:l₁.Pairwise (· < ·))(h2:l₂.Pairwise (· < ·))(h:∀z,z∈l₁↔z∈l₂):l₁=l₂:=by
 have n1:l₁.Nodup:=h1.imp fun {a b} h=>by omega
 have n2:l₂.Nodup:=h2.imp fun {a b} h=>by omega
 have p:l₁.Perm l₂:=(YC n1 n2).mpr h;exact p.eq_of_pairwise (le:=(· < ·)) (fun a b _ _ x y=>by omega) h1 h2
def tenL:List Int:=[1,2,3,4,5,6,7,8,9,10]
def Ic{z:Int}:z∈tenL↔1<=z/\z<=10:=by
 unfold tenL;constructor
 ·intro h;simp only[ZQ,WC,or_false]at h;omega
 ·rintro⟨h1,h2⟩;simp only[ZQ,WC,or_false];omega
def Vq(ps:List (Int×Int)):List Int:=tenL.filter fun h=>decide (h∈ps.map (·.1))
def Po(ps:List (Int×Int)):(Vq ps).Pairwise (· < ·):=List.Pairwise.filter _ (by unfold tenL;decide)
def Ks{ps:List (Int×Int)}(hF:Field ps){z:Int}:z∈Vq ps↔z∈ps.map (·.1):=by
 unfold Vq;rw[ZV,W7,Ic];constructor
 ·exact fun h=>h.2
 ·intro h;obtain⟨q,hq,rfl⟩:=Yd.mp h
  have:=hF q hq
  exact⟨⟨this.1,this.2.1⟩,h⟩
def Be(ps:List (Int×Int)):(Vq ps).length<=10:=by
 have:=Yz (fun h=>decide (h∈ps.map (·.1))) tenL
 exact this
def G2{ps:List (Int×Int)}{ns:List Int}(hF:Field ps)(p:ns.Perm ((ps.map (·.1)).foldl SetR.addJ []))(h:ns.Pairwise (·<=·)):ns=Vq ps:=by
 have nd:ns.Nodup:=p.symm.nodup (Sb _ YZ);refine BV (HI h nd) (Po ps) fun z=>?_;rw[p.mem_iff,B3,Ks hF];simp
def BB(z:Int)(xs:List Int):inV (.int z) (xs.map V.int)=decide (z∈xs):=by
 unfold inV;rw[List.any_map]
 induction xs with
 |nil=>simp
 |cons x r ih=>
  rw[Wx,ih];show((x==z) || _)=_;by_cases e:x=z
  ·subst e;simp
  ·have:(x==z)=false:=by simpa using e
   rw[this];simp only[Bool.false_or];by_cases h:z∈r
   ·rw[ZJ h,ZJ (Yc _ h)]
   ·rw[ZR h,ZR];intro hz;rcases ZQ.mp hz with hz|hz
    ·exact e hz.symm
    ·exact h hz
def CK:tenL=(List.range 10).map fun(i:Nat)=>(1:Int)+(i:Int):=by decide
end M
namespace ExcR
open PySem PySem.Spec PyProof.Rows L2
structure KeepX (fs ex:List Addr) (h h':Heap):Prop where
 keep:∀b o,h.get? b=some o->b∉fs->b∉ex->h'.get? b=some o
 slot:∀b o,h.get? b=some o->b∉ex->∃sl,h'.get? b=some {o with slots:=sl}
 size:h.objs.size<=h'.objs.size
def KeepX.trans {fs ex:List Addr}{h1 h2 h3:Heap} (a:KeepX fs ex h1 h2) (b:KeepX fs ex h2 h3):KeepX fs ex h1 h3:=
 ⟨fun c o e n m=>b.keep c o (a.keep c o e n m) n m,fun c o e m=>by
  obtain⟨s1,e1⟩:=a.slot c o e m;obtain⟨s2,e2⟩:=b.slot c _ e1 m;exact⟨s2,e2⟩,ZU a.size b.size⟩
def KeepX.mono {fs fs' ex ex':List Addr}{h1 h2:Heap} (a:KeepX fs ex h1 h2) (hf:∀b∈fs,b∈fs') (hx:∀b∈ex,b∈ex'):KeepX fs' ex' h1 h2:=
 ⟨fun c o e n m=>a.keep c o e (fun z=>n (hf c z)) (fun z=>m (hx c z)),fun c o e m=>a.slot c o e fun z=>m (hx c z),a.size⟩
structure Trc (h:Heap) (e T:Addr) (cls fl:Value):Prop where
 ne:T≠e
 exc:∃oe vs,h.get? e=some oe/\oe.cls=cls/\oe.data=.fields vs/\vs[1]?=some (.ref T)
 ent:∃oT ts,h.get? T=some oT/\oT.data=.fields ts/\ts[3]?=some fl
section
variable {M:Model}{A:Around}{E:Value->Shared->Prop}{s:Shared}{base:Heap}{env:Env}{outer:List Env}{L e:Addr}
def BQ{oe:Obj}{vs:Array Value}{head:Value}{hadNext:Bool}{Q:Unit->Shared->Prop}(hfr:A.frames=some (env::outer))(hl:s.heap.FunFrames base (env::outer))(hf:env.frame=some L)(he:s.heap.get? e=some oe)(hd:oe.data=.fields vs)(hsz:1<vs.size)(h:∀h' T,s.heap.objs.size<=T->Trc h' e T oe.cls (rawInt L)->KeepX (frs (env::outer)) [e] s.heap h'->Q () {s with heap:=h'}) :
  wpAny M A (do let a ←frameOf env;let pl ←entryPlaceOf L hadNext;let b ←EntryCells.newEntry head a .none (rawInt L) .none pl;setField (.ref e) 1 b) Q E s:=by
 have hene:e∉frs (env::outer):=fun hm=>by
  obtain⟨_,o,ho,hnf⟩:=hl.mem hm;rw[he]at ho;cases ho
  exact hnf vs hd
 refine Z9 (wpAny_frameOf_fun hfr hl hf fun h1 s1=>Z9 (wpAny_entryPlaceOf fun pl hpl=>?_));unfold EntryCells.newEntry newFields;refine Z9 (Yh ?_ (hpl.sizeOk5 _ _ _ _ _));have he1:h1.get? e=some oe:=(s1.2.1 e hene).trans he;generalize eo:({cls:=.type "traceback",dict:=none,data:=.fields ([head,.ref L,.none,rawInt L,.none]++(if pl.isEmpty then List.replicate 6 Value.none else pl)).toArray}:Obj)=ot;have he2:=ZF (h:=h1) ot he1;refine YN he2 hd hsz (h _ h1.objs.size (Wq s1.1.symm) ?_ ?_)
 ·have ne1:h1.objs.size≠e:=Qo (ZH he1);have d3:=Y3 hd (·.setIfInBounds 1 (Value.ref h1.objs.size));refine⟨ne1,⟨_,_,Yy _ he2 (YO d3),Qa _ _,d3,by simp[hsz]⟩,ot,_,?_,by rw[←eo],?_⟩
  ·exact(Y4 _ _ (Ne.symm ne1)).trans (ZN h1 (by rw[←eo];rfl))
  ·first
    |(simp;done)
    |(rcases hpl with rfl|⟨_,_,_,_,_,_,_,rfl⟩<;>simp)
 ·refine⟨fun b o q nb nx=>?_,fun b o q nx=>?_,?_⟩
  ·have hbe:b≠e:=fun z=>nx (by simp[z]);rw[Y4 _ _ (Ne.symm hbe)];exact ZF _ ((s1.2.1 b nb).trans q)
  ·have hbe:b≠e:=fun z=>nx (by simp[z]);obtain⟨sl,q1⟩:=s1.2.2 b o q;exact⟨sl,by rw[Y4 _ _ (Ne.symm hbe)];exact ZF _ q1⟩
  ·rw[Heap.size_update,Heap.size_push,s1.1];exact WJ _
def FS{oe:Obj}{vs:Array Value}{Q:Unit->Shared->Prop}(hfr:A.frames=some (env::outer))(hl:s.heap.FunFrames base (env::outer))(hf:env.frame=some L)(he:s.heap.get? e=some oe)(hd:oe.data=.fields vs)(h1:vs[1]?=some .none)(h:∀h' T,s.heap.objs.size<=T->Trc h' e T oe.cls (rawInt L)->KeepX (frs (env::outer)) [e] s.heap h'->Q () {s with heap:=h'}):wpAny M A (noteFrame (.ref e) env) Q E s:=by
 unfold noteFrame;simp only[hf];refine Z9 (WI he hd h1 ?_);rw[ZI (by decide)];exact BQ hfr hl hf he hd (WH.mp h1).1 h
def BU{T:Addr}{cls fl:Value}{Q:Unit->Shared->Prop}(x:Trc s.heap e T cls fl)(h:∀h',Trc h' e T cls .none->KeepX [] [T] s.heap h'->Q () {s with heap:=h'}) :
  wpAny M A (setField (.ref T) 3 .none) Q E s:=by
 obtain⟨ne,⟨oe,vs,g1,g2,g3,g4⟩,oT,ts,k1,k2,k3⟩:=x;have hz:=(WH.mp k3).1;refine YN k1 k2 hz (h _ ?_ ?_)
 ·have d3:=Y3 k2 (·.setIfInBounds 3 Value.none);exact⟨ne,⟨oe,vs,(Y4 _ _ ne).trans g1,g2,g3,g4⟩,_,_,Yy _ k1 (YO d3),d3,by simp[hz]⟩
 ·have ot:∀b,b≠T->(s.heap.update T (Obj.mapFields (·.setIfInBounds 3 Value.none))).get? b=s.heap.get? b:=fun b hb=>Y4 _ _ (Ne.symm hb);exact⟨fun b o q _ nx=>(ot b fun z=>nx (by simp[z])).trans q,fun b o q nx=>⟨o.slots,(ot b fun z=>nx (by simp[z])).trans q⟩,Wq (Heap.size_update ..).symm⟩
def Tr{T:Addr}{cls:Value}{Q:Unit->Shared->Prop}(hfr:A.frames=some (env::outer))(hl:s.heap.FunFrames base (env::outer))(hf:env.frame=some L)(x:Trc s.heap e T cls .none)(h:∀h' T',s.heap.objs.size<=T'->Trc h' e T' cls (rawInt L)->KeepX (frs (env::outer)) [e,T] s.heap h'->Q () {s with heap:=h'}):wpAny M A (noteFrame (.ref e) env) Q E s:=by
 obtain⟨ne,⟨oe,vs,g1,g2,g3,g4⟩,oT,ts,k1,k2,k3⟩:=id x;unfold noteFrame;simp only[hf];refine Z9 (WI g1 g3 g4 ?_);rw[ZK (show(Value.ref T != Value.none)=true from by simp)]
 refine Z9 (WI k1 k2 k3 ?_);rw[ZI (show ¬((Value.none==rawInt L)=true)from by simp[rawInt])]
 refine Z9 (BU x fun h1 x1 K1=>?_)
 have hTf:T∉frs (env::outer):=fun hm=>by
  obtain⟨_,o,ho,hnf⟩:=hl.mem hm;rw[k1]at ho;cases ho
  exact hnf ts k2
 have hl1:h1.FunFrames base (env::outer):=hl.of_keeps fun b o q hnf=>⟨o,K1.keep b o q (by simp) (fun z=>by
  rw[ZE.mp z,k1]at q;cases q
  exact hnf ts k2),rfl⟩
 obtain⟨_,⟨oe1,vs1,p1,p2,p3,p4⟩,_⟩:=id x1;refine BQ (s:={s with heap:=h1}) hfr hl1 hf p1 p3 (WH.mp p4).1 fun h2 T' hT' x2 K2=>h h2 T' (ZU K1.size hT') (by rw[←p2];exact x2) ?_
 exact(K1.mono (by simp) (by simp)).trans (K2.mono (fun _ z=>z) (by simp))
def XO{T:Addr}{cls fl:Value}{Q:Unit->Shared->Prop}(x:Trc s.heap e T cls fl)(h:∀h',Trc h' e T cls .none->KeepX [] [T] s.heap h'->Q () {s with heap:=h'}) :
  wpAny M A (setFlight (.ref e) none) Q E s:=by
 obtain⟨ne,⟨oe,vs,g1,g2,g3,g4⟩,_⟩:=id x;unfold setFlight;refine Z9 (WI g1 g3 g4 ?_);rw[ZK (show(Value.ref T != Value.none)=true from by simp)]
 exact BU x h
def Dj{oe:Obj}{vs:Array Value}{Q:Unit->Shared->Prop}(hfr:A.frames=some (env::outer))(hl:s.heap.FunFrames base (env::outer))(hf:env.frame=some L)(he:s.heap.get? e=some oe)(hd:oe.data=.fields vs)(h1:vs[1]?=some .none)(h:∀h' T,s.heap.objs.size<=T->Trc h' e T oe.cls .none->KeepX (frs (env::outer)) [e] s.heap h'->Q () {s with heap:=h'}):wpAny M A (leaving env (.ref e)) Q E s:=by
 unfold leaving;refine Z9 (FS hfr hl hf he hd h1 fun h2 T hT x K=>XO x fun h3 x3 K3=>h h3 T hT x3 ?_);refine⟨fun b o q nb nx=>K3.keep b o (K.keep b o q nb nx) (by simp) (fun z=>?_),fun b o q nx=>?_,ZU K.size K3.size⟩
 ·rw[ZE.mp z]at q;exact absurd (ZH q) (WD.mpr hT)
 ·obtain⟨sl,q2⟩:=K.slot b o q nx;exact⟨sl,K3.keep b _ q2 (by simp) (fun z=>by rw[ZE.mp z]at q;exact absurd (ZH q) (WD.mpr hT))⟩
def CQ{T:Addr}{cls:Value}{Q:Unit->Shared->Prop}(hfr:A.frames=some (env::outer))(hl:s.heap.FunFrames base (env::outer))(hf:env.frame=some L)(x:Trc s.heap e T cls .none)(h:∀h' T',s.heap.objs.size<=T'->Trc h' e T' cls .none->KeepX (frs (env::outer)) [e,T] s.heap h'->Q () {s with heap:=h'}):wpAny M A (leaving env (.ref e)) Q E s:=by
 unfold leaving;refine Z9 (Tr hfr hl hf x fun h2 T' hT x2 K=>XO x2 fun h3 x3 K3=>h h3 T' hT x3 ?_);refine⟨fun b o q nb nx=>K3.keep b o (K.keep b o q nb nx) (by simp) (fun z=>?_),fun b o q nx=>?_,ZU K.size K3.size⟩
 ·rw[ZE.mp z]at q;exact absurd (ZH q) (WD.mpr hT)
 ·obtain⟨sl,q2⟩:=K.slot b o q nx;exact⟨sl,K3.keep b _ q2 (by simp) (fun z=>by rw[ZE.mp z]at q;exact absurd (ZH q) (WD.mpr hT))⟩
end
section
variable {P:Program}{w:World}{H H':Hp}{h h':Heap}{a:Addr}{o:HO}{fs ex:List Addr}
def has(x:ObjOk P w H h a o):∃u,h.get? a=some u:=by
 cases o with
 |lst xs=>exact let ⟨_,_,_,_,e⟩:=x;⟨_,e⟩
 |tup xs=>exact let ⟨_,_,_,u,e,_⟩:=x;⟨u,e⟩
 |dK kvs=>exact let ⟨_,_,_,_,u,_,_,e,_⟩:=x;⟨u,e⟩
 |dT kvs=>exact let ⟨_,_,_,_,u,_,_,e,_⟩:=x;⟨u,e⟩
 |set S n=>exact let ⟨u,_,_,_,e,_⟩:=x;⟨u,e⟩
 |ins C dx fs=>exact let ⟨_,_,_,e,_⟩:=x;⟨_,e⟩
 |own y=>exact x
 |xd fs=>exact let ⟨_,⟨u,_,_,e,_⟩,_⟩:=x;⟨u,e⟩
 |rng lo hi=>exact let ⟨_,_,_,e⟩:=x;⟨_,e⟩
 |frz ob u=>exact⟨_,x.1⟩
 |tbl ps=>exact⟨_,x⟩
 |met f y=>exact⟨_,x⟩
 |ext φ=>exact x.2.1
def NP(ok:HOk P w H h)(e:h.get? a=none):H a=none:=by
 cases q:H a with
 |none=>rfl
 |some o=>
  obtain⟨u,z⟩:=has (ok a o q);rw[e]at z;cases z
def Xe(ok:HOk P w H h)(k:KeepX fs ex h h')(hf:∀b∈fs,H b=none)(hx:∀b∈ex,H b=none):HOk P w H h':=fun a o e=>by
 refine(ok a o e).stay (fun b u hb q=>?_) (fun _ q=>q) (fun _ _ q=>q)
 have hn:H b≠none:=by
  rcases hb with rfl|hb
  ·rw[e];simp
  ·rw[hb];simp
 exact k.keep b u q (fun z=>hn (hf b z)) fun z=>hn (hx b z)
end
structure XAt (P:Program) (w:World) (outer:List Env) (H H':Hp) (s s':Shared) (a T C:Addr):Prop where
 os:s'.os=s.os
 bare:AllBare s'.gens
 un:Un (frs outer) [] H H' s.heap s'.heap
 hok:HOk P w H' s'.heap
 na:s.heap.get? a=none
 nT:s.heap.get? T=none
 fa:H' a=none
 fT:H' T=none
 tr:Trc s'.heap a T (.ref C) .none
def CXe(P:Program)(w:World):CXT:=fun outer H s E e s'=>∃a T C H',e=.ref a/\XAt P w outer H H' s s' a T C/\E (.ref C) none H'
section
variable {X:Cx}{pins:List (Addr×Obj)}{σ:L2.St}{H H':Hp}{s s':Shared}{a T C:Addr}
def NO{ex:List Addr}{h':Heap}(I:Inv X pins σ H s)(hex:X.ex=[])(k:KeepX (frs X.stack) ex s.heap h')(hx:∀b∈ex,X.s₀.heap.get? b=none):Un X.fs [] X.H₀ H X.s₀.heap h':=by
 have B:=I.base;rw[hex]at B;have out:∀b o,X.s₀.heap.get? b=some o->b∉ex:=fun b o q z=>by rw[hx b z]at q;cases q
 have nl:∀b o,X.s₀.heap.get? b=some o->b∉X.fs->b∉frs X.stack:=fun b o q nf z=>by
  rcases ZQ.mp (I.stkSub b z)with e|e
  ·have h1:=ZH q;have h2:=I.ok.above;rw[e]at h1;exact absurd h1 (WD.mpr h2)
  ·exact nf e
 refine⟨fun b o q n nf ne=>k.keep b o (B.keep b o q n nf ne) (nl b o q nf) (out b o q),fun b o q n hf ne=>?_,fun b o q n ne=>B.free b o q n ne,fun b o q ne=>?_,B.tups,B.frzs,B.tbls⟩
 ·obtain⟨sl,q1⟩:=B.slot b o q n hf ne;obtain⟨sl2,q2⟩:=k.slot b _ q1 (out b o q);exact⟨sl2,q2⟩
 ·obtain⟨o1,q1⟩:=B.there b o q ne;obtain⟨sl2,q2⟩:=k.slot b _ q1 (out b o q);exact⟨_,q2⟩
def Xc{b:Addr}(I:Inv X pins σ H s)(hex:X.ex=[])(e:s.heap.get? b=none):X.s₀.heap.get? b=none:=by
 cases q:X.s₀.heap.get? b with
 |none=>rfl
 |some o=>
  obtain⟨u,z⟩:=I.base.there b o q (by rw[hex];simp);rw[e]at z;cases z
variable {E:Value->Shared->Prop}
def HX(I:Inv X pins σ H s)(hex:X.ex=[])(hst:X.stack=X.env::X.outer)(hfr:X.env.frame=some X.env.locals)(x:XAt X.prog X.w X.stack H H' s s' a T C) :
  wpAny (model X.prog X.w) X.A (leaving X.env (.ref a)) (fun _ s2=>∃T2,XAt X.prog X.w X.outer X.H₀ H' X.s₀ s2 a T2 C) E s':=by
 have J:Inv X pins σ H' s':=I.call' (ch:=[]) x.os x.un x.hok x.bare fun b z=>absurd z (by simp);have hF:=J.stack;have hA:=J.ok.frames;rw[hst]at hF hA;refine CQ hA hF hfr x.tr fun h2 T2 hT2 tr k=>⟨T2,J.os,J.bare,?_,?_,Xc I hex x.na,?_,x.fa,x.hok.fresh hT2,tr⟩
 ·exact NO J hex (by rw[hst];exact k) fun b hb=>by
   rcases ZQ.mp hb with rfl|hb
   ·exact Xc I hex x.na
   ·rw[ZE.mp hb];exact Xc I hex x.nT
 ·refine Xe x.hok k (fun b hb=>J.stkFree b (by rw[hst];exact hb)) fun b hb=>?_;rcases ZQ.mp hb with rfl|hb
  ·exact x.fa
  ·rw[ZE.mp hb];exact x.fT
 ·exact Qm (ZU J.sz hT2)
def CB{h':Heap}{oe:Obj}{vs:Array Value}(I:Inv X pins σ H s)(hex:X.ex=[])(hst:X.stack=X.env::X.outer)(hfr:X.env.frame=some X.env.locals)(keeps:∀b o,s.heap.get? b=some o->h'.get? b=some o)(new:s.heap.get? a=none)(he:h'.get? a=some oe)(hc:oe.cls=.ref C)(hd:oe.data=.fields vs)(h1:vs[1]?=some .none) :
  wpAny (model X.prog X.w) X.A (leaving X.env (.ref a)) (fun _ s2=>∃T2,XAt X.prog X.w X.outer X.H₀ H X.s₀ s2 a T2 C) E {s with heap:=h'}:=by
 have J:Inv X pins σ H {s with heap:=h'}:=I.call' (s':={s with heap:=h'}) (ch:=[]) rfl (Un.kept keeps) (I.hok.kept keeps) I.bare fun b z=>absurd z (by simp)
 have hF:=J.stack;have hA:=J.ok.frames;rw[hst]at hF hA;have fa:=NP I.hok new;refine Dj (s:={s with heap:=h'}) hA hF hfr he hd h1 fun h2 T2 hT2 tr k=>⟨T2,J.os,J.bare,?_,?_,Xc I hex new,?_,fa,J.hok.fresh hT2,by rw[←hc];exact tr⟩
 ·exact NO J hex (by rw[hst];exact k) fun b hb=>by rw[ZE.mp hb];exact Xc I hex new
 ·exact Xe J.hok k (fun b hb=>J.stkFree b (by rw[hst];exact hb)) fun b hb=>by rw[ZE.mp hb];exact fa
 ·exact Qm (ZU J.sz hT2)
end
structure ErrCls (K:Za) (C:Addr):Prop where
 q:PySem.W.excIn K C [.type "ValueError",.type "Exception",.type "BaseException",.type "object"] "ValueError.__new__"=true
def ErrCls.obj {K:Za}{C:Addr}{h:Heap} (c:ErrCls K C) (k:K.In h):∃bm N nm q bs hdct sn sub ab col dd k0 k1 k2 k3 k5 mN,h.get? C=some (excClassObj nm q C N bs bm hdct sn sub ab col dd k0 k1 k2 k3 k5 "ValueError.__new__")/\h.Ns N mN/\mN "__init__"=none/\
  OwnTail h [.type "ValueError",.type "Exception",.type "BaseException",.type "object"] bm:=by
 have e:=c.q;unfold PySem.W.excIn at e;split at e
 next dd cd sl ho=>
  split at e
  next C1 bm k0 k1 k2 k3 n k5 hm hs=>
   simp only[Yn,beq_iff_eq,YS]at e;obtain⟨⟨⟨⟨⟨e1,e2⟩,e3⟩,e4⟩,e5⟩,e6⟩:=e;subst e1 e2;have hg:=k _ _ ho;cases cd with
   |mk nm bs mro ns qn hd sn sub ab col del=>
    simp only at hm e3 e5 e6
    have hsl:sl=#[k0,k1,k2,k3,some (.builtin "ValueError.__new__"),k5]:=by
     cases sl with
     |mk l=>simp only at hs;rw[hs]
    rw[hm,e3,hsl]at hg;exact⟨bm,ns,nm,qn,bs,hd,sn,sub,ab,col,dd,k0,k1,k2,k3,k5,_,hg,.of_isNs (PySem.W.isNs_of_in k e5),PySem.W.nsMap_none_of_in k e5 e6,PySem.W.tail_of_in k e4⟩
  next=>cases e
 next=>cases e
abbrev TF:=L2.St->Hp->Str->(Str->Hp->Prop)->Prop
def PF(X:Cx)(es:List Expr)(t:TF):Prop:=
 ∀(pins:List (Addr×Obj)) (s:Shared) (σ:L2.St) (H:Hp) (out:Str) (Q:Str->Hp->Prop),Inv X pins σ H s->t σ H out Q->
  wpAny (model X.prog X.w) X.A (joinParts out (evalEach es X.env)) (fun u s'=>∃x H',Inv X pins σ H' s'/\RelV (.str x) u/\Q x H') X.xe s
section
variable {X:Cx}{e e1 e2:Expr}{es:List Expr}{t:TF}{tv:TE}{pos:Pos}
def fNil:TF:=fun _ H out Q=>out.length<=sizeLine/\Q out H
def fStr(x:Str)(t:TF):TF:=fun σ H out Q=>(out++x).length<=sizeLine/\t σ H (out++x) Q
def fVal(tv:TE)(t:TF):TF:=fun σ H out Q=>tv σ H fun v H1=>(∃i:Int,v=.int i/\i.natAbs.log2<1920/\(out++(Str.ofString (toString i))).length<=sizeLine/\t σ H1 (out++Str.ofString (toString i)) Q)\/
 ∃x:Str,v=.str x/\x.length<=sizeLine/\(out++x).length<=sizeLine/\t σ H1 (out++x) Q
def Ah:PF X [] fNil:=fun pins s σ H out Q I h=>joinParts_nilE (joinParts_nil ⟨out,H,I.tok _,⟨_,rfl⟩,h.2⟩ h.1)
def SY{x:Str}{j}(h:PF X es t):PF X (.Constant (.str x) j pos::es) (fStr x t):=fun pins s σ H out Q I q=>
 joinParts_consE (joinParts_cons (Calls.Constant_str ⟨q.1,h pins _ σ H _ Q (I.tok _) q.2⟩))
def CV(hv:PE X e tv)(h:PF X es t):PF X (.FormattedValue e (-1) none pos::es) (fVal tv t):=fun pins s σ H out Q I q=>by
 refine joinParts_consE (joinParts_cons (FormattedValue_plain (thn (hv pins s σ H _ I q) fun u s1 ⟨v,H1,I1,r,q1⟩=>?_)));rcases q1 with⟨i,rfl,hs,hz,q2⟩|⟨x,rfl,hx,hz,q2⟩
 ·obtain⟨tk,rfl⟩:=r;exact formatField_int_small hs ⟨hz,h pins _ σ H1 _ Q (I1.tok _) q2⟩
 ·obtain⟨tk,rfl⟩:=r;exact formatField_str (fun t' tk'=>⟨hz,h pins _ σ H1 _ Q (I1.tok _) q2⟩) hx
def tF(t:TF):TE:=fun σ H Q=>t σ H Str.empty fun x H'=>Q (.str x) H'
def pe_f(h:PF X (e1::e2::es) t):PE X (.JoinedStr (e1::e2::es) pos) (tF t):=fun pins s σ H Q I q=>
 JoinedStr_many (thn (h pins s σ H _ _ I q) fun u s1 ⟨x,H1,I1,r,q1⟩=>⟨.str x,H1,I1,r,q1⟩)
end
def T1(X:Cx)(E:XK):Prop:=∀(pins:List (Addr×Obj)) (σ:L2.St) (H:Hp) (s:Shared) (C a:Addr) (h':Heap) (args:List Value),Inv X pins σ H s->Heap.MadeExcOf s.heap h' a (.ref C) args->E (.ref C) none H->X.xe (.ref a) {s with heap:=h'}
def NZ(C:Addr)(E:XK)(t:TA):TS:=fun _ σ H=>t σ H fun vs H1=>vs.length<=sizeLine/\E (.ref C) none H1
section
variable {X:Cx}{x:Str}{C:Addr}{E:XK}{e:Expr}{es:List Expr}{t:TA}{p cpos pos:Pos}
def D1(c:ErrCls X.K C)(hm:X.mg x=some (.ref C))(hR:T1 X E)(hc:X.calm=true)(ha:PA X (e::es) t)(hg:Gl X x:=by rfl)(hdb:(x==("__debug__" : Str))=false:=by decide)(he:starEach (e::es) X.env=(false,eval e X.env)::starEach es X.env:=by rfl)(hpl:(backTo cpos (starEach es X.env)).any (·.1)=false:=by rfl):PS X (.Raise (some (.Call (.Name x p) (e::es) [] cpos)) none pos) (NZ C E t):=by
 intro pins s σ H D I h;obtain⟨bm,N,nm,q,bs,hdct,sn,sub,ab,col,dd,k0,k1,k2,k3,k5,mN,hC,hN,hni,hT⟩:=c.obj I.ok.mod.kin
 have hpl':(backTo cpos (starEach (e::es) X.env)).any (·.1)=false:=by
  rw[he];show(false || (backTo cpos (starEach es X.env)).any (·.1))=false;rw[hpl];rfl
 refine wpAny_Raise_call_subU (C:=C) (nm:=nm) (q:=q) (N:=N) (bs:=bs) (bm:=bm) (hdct:=hdct) (sn:=sn) (sub:=sub) (ab:=ab) (col:=col) (dd:=dd) (k0:=k0) (k1:=k1) (k2:=k2) (k3:=k3) (k5:=k5)
  PySem.F.excBase_ValueError (by decide +kernel) PySem.F.excBase_ValueError (hT.hasType (by decide +kernel)) (I.ok.hd hc) hpl' hni (UU I hg hm ⟨rfl,?_⟩ hdb)
 have hA:=ha cpos pins s σ H _ I h;rw[he]at hA ⊢;refine Calls.evalArgs_plain (thn hA fun us s2 ⟨vs,H2,I2,r2,q1,q2⟩=>⟨rfl,by rw[←r2.length];exact q1,I2.bk _ _ hC,hN.keeps I2.bk,hT.keeps I2.bk,fun h' a hm'=>?_⟩);exact hR pins σ H2 s2 C a h' us I2 hm' q2
end
section
variable {P:Program}{w:World}{K:Za}{mg:Str->Option Value}{base:Heap}{N ps:List Str}{qual x:Str}{scope:Scope}{f:Addr}{cd:Value}{A:Around}{outer:List Env}{s:Shared}{H:Hp}{E:XK}
def FH:T1 (cxOf (CXe P w) P w K mg base N qual scope f cd A outer s H E) E:=by
 intro pins σ H1 s1 C a h' args I m q;obtain⟨t,ht,_,_⟩:=m.there;exact Yu (CB I rfl rfl rfl m.keeps m.new ht rfl rfl rfl) (fun _ s3 ⟨T2,y⟩=>⟨a,T2,C,H1,rfl,y,q⟩) fun _ _ z=>z
def Pl:UE (CXe P w) (cxOf (CXe P w) P w K mg base N qual scope f cd A outer s H E) E:=by
 rintro pins σ H1 s1 e s2 I ⟨a,T,C,H',rfl,y,q⟩;exact Yu (HX I rfl rfl rfl y) (fun _ s3 ⟨T2,z⟩=>⟨a,T2,C,H',rfl,z,q⟩) fun _ _ z=>z
def HH:PassesOwn (model P w) (cxOf (CXe P w) P w K mg base N qual scope f cd A outer s H E).A (cxOf (CXe P w) P w K mg base N qual scope f cd A outer s H E).env (cxOf (CXe P w) P w K mg base N qual scope f cd A outer s H E).xe:=PassesOwn.leaving
def Def.okX {st:Stmt}{k:Nat}{sp:Sp} (D:Own.Def K mg x st ps) (S:FnScope N ps (Vi st)) (len:∀vs H Q E,sp vs H Q E->vs.length=ps.length)
  (hbody:∀(f:Addr) (cdv:Value) (A:Around) (outer:List Env) (s:Shared) (H:Hp) (vs:List V) (Q:VK) (E:XK),Room k (A.deeper (envOfC x (Vi st) s.heap.objs.size f cdv))->sp vs H Q E->
   ∃t,PSs (cxOf (CXe P w) P w K mg base N x (Vi st) f cdv A outer s H E) (VZ st) t/\t {nx:=fun _ H'=>Q .non H',rt:=Q} (start N vs) H):Own.Callee P w K mg base (CXe P w) (k+1) x ps sp:=by
 obtain⟨f,fd,F,hm,hb⟩:=D.ex;have kp:=F.kp;obtain⟨oc,od,kV,doc,pm,an,cdv,ct,osl,rfl,lk,hcd⟩:=F.ex;exact⟨f,_,SM lk hcd S len fun A outer s H vs Q E hr hsp=>hbody f cdv A outer s H vs Q E hr hsp,hm,kp,⟨_,lk,rfl⟩,hb⟩
end
end ExcR
namespace ExcR
open PySem PySem.Spec PyProof.Rows L2
open Sem (wp)
structure ErrGet (K:Za) (C:Addr):Prop where
 c:ErrCls K C
 ga:PySem.W.findIn K (.ref C) "__getattribute__"=some (some (.builtin "BaseException.__getattribute__"))
 gt:PySem.W.findIn K (.ref C) "__getattr__"=some none
 cl:PySem.W.findIn K (.ref C) "__class__"=some (some (.builtin "object.__class__"))
 is:(PySem.W.clsIn K C).isSome=true
section
variable {prog:Program}{w:World}{A:Around}{E:Value->Shared->Prop}{h:Heap}{g:Array GenState}{d:Drawn}{t:Nat}{os:OsState}{a C:Addr}{o:Obj}{K:Za}
def FP{R:Result->Shared->Prop}(k:K.In h)(G:ErrGet K C)(hx:h.get? a=some o)(hc:o.cls=.ref C)(hq:R (.ok (.ret (.ref C))) ⟨h,g,d,t,os⟩) :
  codeAny (model prog w) A (.call (.builtin "getset_descriptor.__get__") ⟨[.builtin "object.__class__",.ref a,.ref C],[]⟩) R ⟨h,g,d,t,os⟩:=by
 obtain⟨bm,N,nm,q,bs,hdct,sn,sub,ab,col,dd,k0,k1,k2,k3,k5,mN,hC,hN,hni,hT⟩:=G.c.obj k;have hty:(⟨h,g,d,t,os⟩:Shared).TypeIs (.builtin "object.__class__") "getset_descriptor":=Qj
 have hob:(Value.ref C::bm).contains (.type (".".intercalate ("object.__class__".cutAt '.').dropLast))=true:=by
  rw[F.owner_object_class,List.contains_cons,hT.hasType (b:=true) (by decide +kernel)];rfl
 refine Qt F.slot_gs_get.plain F.entry_gs_get (F.slot_gs_get.check _ _ _ _ _ _ _ _ hty (F.args_gs_get _ _ _) ?_)
 repeat (any_goals (first|assumption|(with_reducible refine W8 hx ?_;rw[hc])|(with_reducible refine wpAny_isSubtype_exc hC ?_;rw[hob])|wp_step))
 refine⟨Code.quiet_builtin _ (by decide +kernel),YG F.entry_object_class ?_⟩
 repeat (any_goals (first|assumption|(with_reducible refine W8 hx ?_;rw[hc])|wp_step))
def EY{tk:Tok}{Q:Fin->Shared->Prop}(k:K.In h)(G:ErrGet K C)(hx:h.get? a=some o)(hc:o.cls=.ref C)(hq:Q (.done (.ret (.ref C))) ⟨h,g,d,t,os⟩) :
  wpAny (model prog w) A (Builtin.«object.__getattribute__» ⟨[.ref a,.str "__class__" tk],[]⟩) Q E ⟨h,g,d,t,os⟩:=by
 have hty:(⟨h,g,d,t,os⟩:Shared).TypeIs (.builtin "object.__class__") "getset_descriptor":=Qj;have f1:=Qj;have f2:=F.slot_gs_get.lookup;have f3:=F.slot_gs_set.lookup;have L:=Qu (M:=model prog w) k G.cl
 repeat (any_goals (first|assumption|(with_reducible refine W8 hx ?_;rw[hc])|with_reducible refine L.at ?_|wp_step))
 refine FP k G hx hc ?_
 repeat (any_goals (first|assumption|wp_step))
def Dp{M:Model}{v:Value}{Q:Unit->Shared->Prop}(k:K.In h)(G:ErrGet K C)(hx:h.get? a=some o)(hc:o.cls=.ref C)(hq:Q () ⟨h,g,d,t,os⟩) :
  wpAny M A (checkBuiltinCall "BaseException.__getattribute__" ⟨[.ref a,v],[]⟩) Q E ⟨h,g,d,t,os⟩:=by
 obtain⟨bm,N,nm,q,bs,hdct,sn,sub,ab,col,dd,k0,k1,k2,k3,k5,mN,hC,hN,hni,hT⟩:=G.c.obj k;have hbe:(Value.ref C::bm).contains (.type "BaseException")=true:=by rw[List.contains_cons,hT.hasType (b:=true) (by decide +kernel)];rfl
 have e1:builtinKind "BaseException.__getattribute__"=some .slot:=by decide +kernel
 have e2:splitId "BaseException.__getattribute__"=some ("BaseException","__getattribute__"):=by decide +kernel
 have e3:=F.args_bexc_ga (.ref a) v;simp only[checkBuiltinCall,e1,e2];refine Z9 ?_;unfold isInstance
 repeat (first|(with_reducible refine W8 hx ?_;rw[hc])|(with_reducible refine wpAny_isSubtype_exc hC ?_;rw[hbe])|wp_step)
 exact hq
def AW{tk:Tok}{Q:Value->Shared->Prop}(k:K.In h)(G:ErrGet K C)(hx:h.get? a=some o)(hc:o.cls=.ref C)(hq:Q (.ref C) ⟨h,g,d,t,os⟩) :
  wpAny (model prog w) A (getAttrBy (.ref a) (.str "__class__" tk) false) Q E ⟨h,g,d,t,os⟩:=by
 obtain⟨bm,N,nm,q,bs,hdct,sn,sub,ab,col,dd,k0,k1,k2,k3,k5,mN,hC,hN,hni,hT⟩:=G.c.obj k;have f0:=F.attrBase_ValueError.ga.bind (.ref a);have x2:(Value.builtin "BaseException.__getattribute__" == Value.builtin "object.__getattribute__")=false:=by decide +kernel
 have x1:(onTheHeap (Value.ref C)&&Value.builtin "BaseException.__getattribute__" == Value.builtin "object.__getattribute__")=false:=by rw[x2];rfl
 have L:=Qu (M:=model prog w) k G.ga;have L2:=Qu (M:=model prog w) k G.gt
 repeat (any_goals (first|assumption|(with_reducible refine W8 hx ?_;rw[hc])|with_reducible refine L.at ?_|with_reducible refine L2.at ?_|wp_step))
 refine Qt F.attrBase_ValueError.ga.plain F.entry_bexc_ga (Dp k G hx hc (EY k G hx hc ?_))
 repeat (any_goals (first|assumption|wp_step))
def Ia{Q:Option Value->Shared->Prop}(k:K.In h)(G:ErrGet K C)(hx:h.get? a=some o)(hc:o.cls=.ref C)(hq:Q (some (.ref C)) ⟨h,g,d,t+1,os⟩) :
  wpAny (model prog w) A (getAttr? (.ref a) "__class__") Q E ⟨h,g,d,t,os⟩:=by
 unfold getAttr? getAttrBy?
 repeat (any_goals (first|assumption|with_reducible apply AW k G hx hc|wp_step))
end
end ExcR
namespace ExcR
open PySem PySem.Spec PyProof.Rows L2
def ErrH(a C:Addr):HO:=.ext fun h=>∃o,h.get? a=some o/\o.cls=.ref C/\∃vs,o.data=.fields vs
def Ga{P:Program}{w:World}{H:Hp}{h:Heap}{a T C:Addr}{fl:Value}(x:Trc h a T (.ref C) fl):ObjOk P w H h a (ErrH a C):=by
 obtain⟨_,⟨o,vs,e1,e2,e3,_⟩,_⟩:=x;exact⟨⟨o,e1,e2,vs,e3⟩,⟨o,e1⟩,fun h1 h2 ⟨o1,q1,q2⟩ k=>⟨o1,k o1 q1,q2⟩⟩
def HM{K:Za}{M:Model}{h:Heap}{C:Addr}(k:K.In h)(e:(PySem.W.clsIn K C).isSome=true):PySem.W.Looks M h (isType (.ref C)) true:=by
 unfold PySem.W.clsIn at e;split at e
 next ho=>
  intro A' Q' E' s' kk q;unfold isType loadHead;exact Z9 (wpAny_loadPart (kk _ _ (k _ _ ho)) (ZD q))
 next=>cases e
def GJ{K:Za}{a C:Addr}(G:ErrGet K C):PySem.W.KitX K (.ref a) (.ref C) (fun h=>∃o,h.get? a=some o/\o.cls=.ref C) where
 ty:=fun M h _ ⟨o,h1,h2⟩=>h2▸(PySem.W.Looks.ld h1).andThen .now
 it:=fun M h k _=>HM k G.is
 ne:=fun h tp dd its n sl k htp=>by
  refine Wk.mpr fun q=>?_;obtain rfl:C=tp:=Value.ref.inj (beq_iff_eq.mp q);obtain⟨bm,N,nm,q,bs,hdct,sn,sub,ab,col,dd,k0,k1,k2,k3,k5,mN,hC,_⟩:=G.c.obj k;rw[htp]at hC;have z:Value.type "tuple"=Value.type "type":=Y1 Obj.cls (ZL hC);injection z with z;exact absurd z (by decide)
 ca:=fun {prog w A E Q s} k ⟨o,h1,h2⟩ q=>by
  obtain⟨h,g,d,t,os⟩:=s;exact Ia k G h1 h2 q
section
variable {X:Cx}
def CJ:VN X (.builtin "isinstance") (fun xs H Q=>∃(a C:Addr) (c:V) (b:Bool),xs=[.ref a,c]/\H a=some (ErrH a C)/\ErrGet X.K C/\(∃cv:Value,(∀u,RelV c u->u=cv)/\PySem.W.kitOne X.K (.ref C) cv=some b)/\Q (.bl b) H):=by
 intro pins s σ H xs us Q I rv h;obtain⟨a,C,c,b,rfl,ha,G,⟨cv,hcv,e⟩,q⟩:=h;cases rv with
 |cons r rr=>
  cases rr with
  |cons r' rr'=>
   cases rr'
   obtain rfl:_=Value.ref a:=r;cases hcv _ r'
   obtain⟨⟨o,h1,h2,_⟩,_⟩:=(show ObjOk X.prog X.w H s.heap a (ErrH a C)from I.hok a _ ha)
   exact Y2 (GJ G) I.kIn ⟨o,h1,h2⟩ e (fun z=>nomatch z) fun tk=>⟨.bl b,H,I.tok tk,rfl,q⟩
def Xx{K:Za}(hK:X.K=K:=by rfl):VN X (.builtin "isinstance") (fun xs H Q=>∃(a C:Addr) (c:V) (b:Bool),xs=[.ref a,c]/\H a=some (ErrH a C)/\ErrGet K C/\(∃cv:Value,(∀u,RelV c u->u=cv)/\PySem.W.kitOne K (.ref C) cv=some b)/\Q (.bl b) H):=by
 subst hK;exact CJ
end
def P7{fs ex:List Addr}{H H':Hp}{h h1 h2:Heap}(u:Un fs [] H H' h h1)(k:KeepX fs ex h1 h2)(hx:∀b∈ex,h.get? b=none):Un fs [] H H' h h2:=by
 have out:∀b o,h.get? b=some o->b∉ex:=fun b o q z=>by rw[hx b z]at q;cases q
 refine⟨fun b o q n nf ne=>k.keep b o (u.keep b o q n nf ne) nf (out b o q),fun b o q n hf ne=>?_,u.free,fun b o q ne=>?_,u.tups,u.frzs,u.tbls⟩
 ·obtain⟨sl,q1⟩:=u.slot b o q n hf ne;obtain⟨sl2,q2⟩:=k.slot b _ q1 (out b o q);exact⟨sl2,q2⟩
 ·obtain⟨o1,q1⟩:=u.there b o q ne;obtain⟨sl2,q2⟩:=k.slot b _ q1 (out b o q);exact⟨_,q2⟩
def sufX(X:Cx)(a:Addr):Cx:={X with A:=X.A.mark (some (.ref a)),calm:=false,xe:=fun _ _=>False}
def tryX(X:Cx)(pins:List (Addr×Obj))(D:Ends)(h0:ExceptHandler):Cx:=
 {X with pn:=X.pn++pins,xe:=fun e s1=>wpAny (model X.prog X.w) X.A (noteFrame e X.env) (fun _ s2=>wpAny (model X.prog X.w) X.A (setFlight e none) (fun _ s3=>wpAny (model X.prog X.w) X.A (handleBy e X.env [h0]) (SP X pins D) X.xe s3) X.xe s2) X.xe s1}
section
variable {X:Cx}{pins pins1:List (Addr×Obj)}{σ:L2.St}{H H':Hp}{s s':Shared}{a T C:Addr}{D:Ends}{h0:ExceptHandler}
def Gp(o:X.Ok):(sufX X a).Ok:=⟨o.mod,o.kind,o.glob,o.blt,o.above,o.inj,o.has,o.cab,(fun z=>nomatch z),o.frames,o.stk,o.exf,o.bs,o.bsz,o.noex,o.exfs,o.funs,o.frf⟩
def Nk(I:Inv X pins σ H s):Inv (sufX X a) pins σ H s:=⟨Gp I.ok,I.os,I.bare,I.base,I.loc,I.cell,I.free,I.freeC,I.pin,I.hok,I.len⟩
def Dx(o:X.Ok)(I:Inv (sufX X a) pins σ H s):Inv X pins σ H s:=⟨o,I.os,I.bare,I.base,I.loc,I.cell,I.free,I.freeC,I.pin,I.hok,I.len⟩
def Do(o:X.Ok):(tryX X pins D h0).Ok:=⟨o.mod,o.kind,o.glob,o.blt,o.above,o.inj,o.has,o.cab,o.hd,o.frames,o.stk,o.exf,o.bs,o.bsz,o.noex,o.exfs,o.funs,o.frf⟩
def Co(o:(tryX X pins D h0).Ok):X.Ok:=⟨o.mod,o.kind,o.glob,o.blt,o.above,o.inj,o.has,o.cab,o.hd,o.frames,o.stk,o.exf,o.bs,o.bsz,o.noex,o.exfs,o.funs,o.frf⟩
def EE(I:Inv X pins σ H s):Inv (tryX X pins D h0) [] σ H s:=⟨Do I.ok,I.os,I.bare,I.base,I.loc,I.cell,I.free,I.freeC,fun p hp=>I.pin p (by simpa [tryX]using hp),I.hok,I.len⟩
def Xi(I:Inv (tryX X pins D h0) pins1 σ H s):Inv X pins σ H s:=⟨Co I.ok,I.os,I.bare,I.base,I.loc,I.cell,I.free,I.freeC,fun p hp=>I.pin p (Wl _ hp),I.hok,I.len⟩
def DJ{i:Nat}{n:Str}{m:Str->Option Value}{v:Option Value}{h':Heap}{tk:Nat}(I:Inv X pins σ H s)(hN:X.N.Nodup)(hi:X.N[i]?=some n)(hk:X.env.scope.names.lookup n=some .local)(hm:∀(i:Nat) (x:Str) (v:V),X.N[i]?=some x->σ[i]?=some (some v)->Vis X.env.scope x->∃u,RelV v u/\Look X.env s.heap m x u)(hn:s.heap.Ns X.env.locals m)(hn':h'.Ns X.env.locals (fun x=>if x=n then v else m x))(hs:Heap.SameBut X.env.locals s.heap h'):Inv X pins (σ.set i none) H {s with heap:=h',toks:=tk}:=by
 have cne:=I.cne;have nl:∀{b o},X.s₀.heap.get? b=some o->b≠X.env.locals:=fun e=>Ye (Yl (ZH e) I.ok.above);refine⟨I.ok,I.os,I.bare,⟨fun b o e n hb hx=>(hs.2 b (nl e)).trans (I.base.keep b o e n hb hx),fun b o e n hb hx=>?_,I.base.free,fun b o e hx=>?_,I.base.tups,I.base.frzs,I.base.tbls⟩,⟨_,hn',fun j y v' e1 e2 e3=>?_⟩,fun y c e=>?_,I.free,I.freeC,fun p hp=>?_,fun b ob e=>?_,by simpa using I.len⟩
 ·obtain⟨sl,e1⟩:=I.base.slot b o e n hb hx;exact⟨sl,(hs.2 b (nl e)).trans e1⟩
 ·obtain⟨o',e1⟩:=I.base.there b o e hx;exact⟨o',(hs.2 b (nl e)).trans e1⟩
 ·by_cases hj:j=i
  ·subst hj;have hz:j<σ.length:=by rw[I.len];exact(ZW.mp hi).1
   rw[W3 hz]at e2;cases e2
  ·rw[WB (Ne.symm hj)]at e2;obtain⟨u',r',q⟩:=hm j y v' e1 e2 e3;refine⟨u',r',?_⟩;rcases q with⟨k,e⟩|⟨k,c,e,z⟩
   ·have hy:y≠n:=fun z=>hj (Pf hN e1 (z▸hi));exact .inl ⟨k,by simp[hy,e]⟩
   ·exact .inr ⟨k,c,e,z.sameBut hs (cne y c e)⟩
 ·obtain⟨w',z⟩:=I.cell y c e;exact⟨w',z.sameBut hs (cne y c e)⟩
 ·obtain⟨e,n,ne,nf,d⟩:=I.pin p hp;exact⟨(hs.2 p.1 ne).trans e,n,ne,nf,d⟩
 ·refine(I.hok b ob e).stay (fun c u hc q=>(hs.2 c ?_).trans q) (fun _ q=>q) fun _ _ q=>q;rintro rfl;have hf:=I.free;rcases hc with z|z
  ·rw[←z,hf]at e;cases e
  ·rw[hf]at z;cases z
end
def sufD(i:Nat)(D:Ends):Ends:={nx:=fun σ H=>D.nx (σ.set i none) H,rt:=D.rt,bk:=fun σ H=>D.bk (σ.set i none) H,ct:=fun σ H=>D.ct (σ.set i none) H}
def hx(K:Za)(C0:Addr)(i:Nat)(ts:TS)(D:Ends):L2.St->XK:=fun σ c _ H=>∃C,c=.ref C/\ErrGet K C/\PySem.W.exmOne K (.ref C) (.ref C0)=some true/\
 ∀a,H a=none->ts (sufD i D) (σ.set i (some (.ref a))) (upd H a (ErrH a C))
def Bw(CX:CXT)(X:Cx)(E:L2.St->XK):Prop:=∀(pins:List (Addr×Obj)) (σ:L2.St) (H:Hp) (s:Shared) (e:Value) (s':Shared),Inv X pins σ H s->CX X.stack H s (E σ) e s'->X.xe e s'
def Bf(sp:Sp)(E:L2.St->XK)(t:TA):TE:=fun σ H Q=>t σ H fun vs H1=>sp (vs++[]) H1 Q (E σ)
section
variable {X:Cx}{CX:CXT}{k:Nat}{ps:List Str}{sp:Sp}{E:L2.St->XK}{x:Str}{p pos:Pos}{e:Expr}{es:List Expr}{t:TA}
def Bi(C:Own.Callee X.prog X.w X.K X.mg X.base CX k x ps sp)(hr:Room k X.A)(hp:Bw CX X E)(ha:PA X (e::es) t)(hg:Gl X x:=by rfl)(hdb:(x==("__debug__" : Str))=false:=by decide)(he:starEach (e::es) X.env=(false,eval e X.env)::starEach es X.env:=by rfl)(hpl:(backTo pos (starEach es X.env)).any (·.1)=false:=by rfl) :
  PE X (.Call (.Name x p) (e::es) [] pos) (Bf sp E t):=by
 obtain⟨f,fd,F,hm,hk,_,hb⟩:=C.ex;intro pins s σ H Q I h;refine WL (UU I hg hm ?_ hdb);refine PySem.W.callWith_K (h₀:=X.base) I.ok.mod.kin hk (thn (ha pos pins s σ H _ I h) fun us s1 ⟨vs,H1,I1,r,q⟩=>⟨I1.kIn,?_⟩) he hpl;have hl:(us++[]).length=ps.length:=by rw[YD,←r.length,←F.len _ _ _ _ q,YD]
 refine wpAny_call (Wp (F.run X.A X.stack s1 H1 ⟨us,[]⟩ (us++[]) (vs++[]) Q (E σ) hr I1.env0 (hb s1 us I1.kIn hl) (by simpa using r) q) fun r s' hq=>?_);cases r with
 |error e=>exact hp pins σ H1 s1 e s' I1 hq
 |ok fl=>
  cases fl with
  |ret u=>exact I1.after hq
  |next=>exact False.elim hq
  |brk=>exact False.elim hq
  |cont=>exact False.elim hq
end
section
variable {X:Cx}{pins:List (Addr×Obj)}{D:Ends}{x n:Str}{np hpos pos:Pos}{b0:Stmt}{suite body:List Stmt}{C0:Addr}{i:Nat}{ts:TS}
def BN(hst:X.stack=X.env::X.outer)(hfr:X.env.frame=some X.env.locals)(hN:X.N.Nodup)(hi:X.N[i]?=some n)(hk:X.env.scope.names.lookup n=some .local)(hg:Gl X x)(hm:X.mg x=some (.ref C0))(hdb:(x==("__debug__" : Str))=false)(hs:∀a,PSs (sufX X a) (b0::suite) ts):Bw (CXe X.prog X.w) (tryX X pins D (.ExceptHandler (some (.Name x np)) (some n) (b0::suite) hpos)) (hx X.K C0 i ts D):=by
 rintro pins1 σ H s e s' I ⟨a,T,C,H',rfl,y,C',ec,G,em,q⟩;obtain rfl:C=C':=Value.ref.inj ec;have I:=Xi I;have J:Inv X pins σ H' s':=I.call' (ch:=[]) y.os y.un y.hok y.bare fun b z=>absurd z (by simp);have hF:=J.stack;have hA:=J.ok.frames;rw[hst]at hF hA;refine Tr hA hF hfr y.tr fun h2 T2 hT2 tr2 k2=>?_
 have nT2:s.heap.get? T2=none:=by
  cases z:s.heap.get? T2 with
  |none=>rfl
  |some o=>
   obtain⟨o1,z1⟩:=y.un.there T2 o z (by simp);exact absurd (ZH z1) (WD.mpr hT2)
 have fT2:H' T2=none:=y.hok.fresh hT2
 have u2:Un (frs X.stack) [] H H' s.heap h2:=P7 y.un (by rw[hst];exact k2) fun b hb=>by
  rcases ZQ.mp hb with rfl|hb
  ·exact y.na
  ·rw[ZE.mp hb];exact y.nT
 have ok2:HOk X.prog X.w H' h2:=Xe y.hok k2 (fun b hb=>J.stkFree b (by rw[hst];exact hb)) fun b hb=>by
  rcases ZQ.mp hb with rfl|hb
  ·exact y.fa
  ·rw[ZE.mp hb];exact y.fT
 refine XO (s:={s' with heap:=h2}) tr2 fun h3 tr3 k3=>?_
 have u3:Un (frs X.stack) [] H H' s.heap h3:=P7 u2 (k3.mono (by simp) fun _ z=>z) fun b hb=>by rw[ZE.mp hb];exact nT2
 have ok3:HOk X.prog X.w H' h3:=Xe ok2 k3 (by simp) fun b hb=>by rw[ZE.mp hb];exact fT2
 have J3:Inv X pins σ H' {s' with heap:=h3}:=I.call' (s':={s' with heap:=h3}) (ch:=[]) y.os u3 ok3 y.bare fun b z=>absurd z (by simp)
 have S3:Inv (sufX X a) pins σ H' {s' with heap:=h3}:=Nk J3
 refine wpAny_handleBy_cons (codeAny_handlers_test (UU S3 hg hm ?_ hdb)) (by intro z;cases z);obtain⟨_,⟨oe,vs,g1,g2,g3,g4⟩,_⟩:=id tr3;refine(PySem.W.exm_one (M:=model X.prog X.w) (cls:=.ref C) J3.kIn (g2▸(PySem.W.Looks.ld g1).andThen .now) em).here ?_;refine codeAny_handlers_suite_as (XO (s:={s' with heap:=h3}) tr3 fun h4 tr4 k4=>?_)
 have u4:Un (frs X.stack) [] H H' s.heap h4:=P7 u3 (k4.mono (by simp) fun _ z=>z) fun b hb=>by rw[ZE.mp hb];exact nT2
 have ok4:HOk X.prog X.w H' h4:=Xe ok3 k4 (by simp) fun b hb=>by rw[ZE.mp hb];exact fT2
 have fr4:∀b,b=a->H b=none:=fun b z=>by rw[z];exact NP I.hok y.na
 have u5:Un (frs X.stack) [] H (upd H' a (ErrH a C)) s.heap h4:=by
  have ne:∀b o,s.heap.get? b=some o->b≠a:=fun b o z w=>by rw[w,y.na]at z;cases z
  have ne2:∀b o,H' b=some o->b≠a:=fun b o z w=>by rw[w,y.fa]at z;cases z
  refine⟨u4.keep,u4.slot,fun b o z n m=>by rw[Vl (ne b o z)];exact u4.free b o z n m,u4.there,fun b xs z=>?_,fun b o u z=>?_,fun b ps z=>?_⟩
  ·rw[Vl (ne2 b _ (u4.tups b xs z))];exact u4.tups b xs z
  ·rw[Vl (ne2 b _ (u4.frzs b o u z))];exact u4.frzs b o u z
  ·obtain⟨more,z1⟩:=u4.tbls b ps z;exact⟨more,by rw[Vl (ne2 b _ z1)];exact z1⟩
 have ok5:HOk X.prog X.w (upd H' a (ErrH a C)) h4:=fun b ob e=>by
  by_cases hb:b=a
  ·subst hb;rw[V0]at e;cases e
   exact Ga tr4
  ·rw[Vl hb]at e;refine(ok4 b ob e).stay (fun _ _ _ z=>z) (fun c z=>?_) fun c xs z=>?_
   ·rw[Vl fun w=>by rw[w,y.fa]at z;cases z];exact z
   ·rw[Vl fun w=>by rw[w,y.fa]at z;cases z];exact z
 have J5:Inv X pins σ (upd H' a (ErrH a C)) {s' with heap:=h4}:=I.call' (s':={s' with heap:=h4}) (ch:=[]) y.os u5 ok5 y.bare fun b z=>absurd z (by simp)
 have S5:Inv (sufX X a) pins σ (upd H' a (ErrH a C)) {s' with heap:=h4}:=Nk J5
 refine UL (X:=sufX X a) S5 hN hi (.inl hk) (v:=.ref a) rfl (fun s6 S6=>?_) (.inr hk);refine Yu (hs a pins s6 _ _ _ S6 (q a y.fa)) (fun f s7 h7=>?_) fun _ _ z=>z.elim
 have gone:∀{σ':L2.St} {H7:Hp} {R:Unit->Shared->Prop},Inv (sufX X a) pins σ' H7 s7->(∀s8,Inv X pins (σ'.set i none) H7 s8->R () s8)->wpAny (model X.prog X.w) X.A (do bindName X.env n .none;unbindBehindTheSuite X.env n hpos) R X.xe s7:=fun {σ' H7 R} S7 hR=>by
  obtain⟨m,hn,hl⟩:=id S7.loc;exact wpAny_nameGoes_keeps hk hn (by rw[show X.env.scope.kind=.function from J5.ok.kind];rfl) fun h8 v hn8 hs8=>hR _ (DJ (Dx J5.ok S7) hN hi hk hl hn hn8 hs8)
 cases f with
 |next=>obtain⟨σ',H7,S7,q7⟩:=h7;exact gone S7 fun s8 I8=>⟨_,_,I8,q7⟩
 |brk=>obtain⟨σ',H7,S7,q7⟩:=h7;exact gone S7 fun s8 I8=>⟨_,_,I8,q7⟩
 |cont=>obtain⟨σ',H7,S7,q7⟩:=h7;exact gone S7 fun s8 I8=>⟨_,_,I8,q7⟩
 |ret u=>obtain⟨v,σ',H7,S7,rv,q7⟩:=h7;exact gone S7 fun s8 I8=>⟨v,_,_,I8,rv,q7⟩
def DK{tb:Ends->TS}(hb:∀pins D,PSs (tryX X pins D (.ExceptHandler (some (.Name x np)) (some n) (b0::suite) hpos)) body (tb D)) :
  PS X (.Try body [.ExceptHandler (some (.Name x np)) (some n) (b0::suite) hpos] [] [] pos) (fun D σ H=>tb D D σ H):=by
 intro pins s σ H D I h;refine wpAny_Try_except (Yu (hb pins D [] s σ H D (EE I) h) (fun f s1 h1=>?_) fun _ _ z=>z);cases f with
 |next=>
  obtain⟨σ',H',J,q⟩:=h1;exact ZD ⟨σ',H',Xi J,q⟩
 |brk=>obtain⟨σ',H',J,q⟩:=h1;exact⟨σ',H',Xi J,q⟩
 |cont=>obtain⟨σ',H',J,q⟩:=h1;exact⟨σ',H',Xi J,q⟩
 |ret u=>obtain⟨v,σ',H',J,r,q⟩:=h1;exact⟨v,σ',H',Xi J,r,q⟩
end
def Vt(mg:Str->Option Value)(x:Str):Addr:=match mg x with
 |some (.ref C)=>C
 |_=>0
def ET{mg:Str->Option Value}{x:Str}{C:Addr}(h:mg x=some (.ref C)):Vt mg x=C:=by unfold Vt;rw[h]
def F4{X:Cx}{x:Str}{v:V}{pos:Pos}(h:∃u,X.mg x=some u/\RelV v u)(hg:Gl X x:=by rfl)(hd:(x==("__debug__" : Str))=false:=by decide):PE X (.Name x pos) (tC v):=by
 obtain⟨u,h1,h2⟩:=h;exact BP hg h1 h2 hd
def Bp{X:Cx}{x:Str}{C:Addr}{pos:Pos}(h:X.mg x=some (.ref C))(hg:Gl X x:=by rfl)(hd:(x==("__debug__" : Str))=false:=by decide):PE X (.Name x pos) (tC (.ref C)):=BP hg h rfl hd
end ExcR
namespace Own
open PySem PySem.Spec PyProof.Rows L2 M
section
variable {X:Cx}{pins:List (Addr×Obj)}{σ:L2.St}{H:Hp}{s:Shared}
def TJ{p:Int×Int}{its:List Value}(r:Vals [V.int p.1,V.int p.2] its):∃t1 t2,its=[.int p.1 t1,.int p.2 t2]:=by
 cases r with
 |cons r1 rr=>
  cases rr with
  |cons r2 r3=>
   cases r3
   obtain⟨t1,rfl⟩:=r1;obtain⟨t2,rfl⟩:=r2;exact⟨t1,t2,rfl⟩
def FJ{A:Around}{x y:V}{p q:Int×Int}{u v:Value}(I:Inv X pins σ H s)(hu:A.units<cLine)(rx:RelV x u)(ry:RelV y v)(hp:Je H x p)(hq:Je H y q):SeqAt.EqAt A s u v (decide (p=q)):=by
 obtain⟨a,rfl,ha⟩:=hp;obtain⟨b,rfl,hb⟩:=hq;obtain rfl:u=Value.ref a:=rx;obtain rfl:v=Value.ref b:=ry;by_cases hab:a=b
 ·subst hab;rw[ha]at hb
  have e:p=q:=by
   injection hb with hb;injection hb with hb;injection hb with h1 h2;injection h2 with h2 _;exact Prod.ext (V.int.inj h1) (V.int.inj h2)
  rw[ZJ e];exact SeqAt.EqAt.same _
 ·obtain⟨_,its,r1,t1⟩:=(show ObjOk X.prog X.w H s.heap a (.tup [.int p.1,.int p.2])from I.hok a _ ha)
  obtain⟨_,jts,r2,t2⟩:=(show ObjOk X.prog X.w H s.heap b (.tup [.int q.1,.int q.2])from I.hok b _ hb)
  obtain⟨k1,k2,rfl⟩:=TJ r1;obtain⟨k3,k4,rfl⟩:=TJ r2
  have h:=SeqAt.RcAt.tuples (A:=A) (s:=s) (e:=fun j=>if j=0 then p.1==q.1 else p.2==q.2) t1 t2 hu (fun j h1 h2=>by
   have hj:j=0\/j=1:=by
    have h1':j<2:=h1;omega
   rcases hj with rfl|rfl
   ·exact SeqAt.EqAt.int_int _ _ _ _
   ·exact SeqAt.EqAt.int_int _ _ _ _)
  have e:((List.range (min ([Value.int p.1 k1,Value.int p.2 k2].toArray).size ([Value.int q.1 k3,Value.int q.2 k4].toArray).size)).all (fun j=>if j=0 then p.1==q.1 else p.2==q.2)&&([Value.int p.1 k1,Value.int p.2 k2].toArray).size==([Value.int q.1 k3,Value.int q.2 k4].toArray).size)=decide (p=q):=by
   show((List.range 2).all (fun j=>if j=0 then p.1==q.1 else p.2==q.2)&&true)=decide (p=q);rw[Bool.and_true];have e2:(List.range 2).all (fun j=>if j=0 then p.1==q.1 else p.2==q.2)=((p.1==q.1)&&(p.2==q.2)):=by simp[List.range,List.range.loop]
   rw[e2];by_cases h1:p.1=q.1
   ·by_cases h2:p.2=q.2
    ·rw[ZJ (Prod.ext h1 h2)];simp[h1,h2]
    ·rw[ZR (fun z=>h2 (by rw[z]))];simp[h2]
   ·rw[ZR (fun z=>h1 (by rw[z]))];simp[h1]
  rw[e]at h;exact SeqAt.EqAt.of_refs hab h
def eP(H:Hp)(q:Int×Int)(u:Value):Bool:=match u with
 | .ref a=>(match H a with
  |some (.tup [.int i,.int j])=>decide ((i,j)=q)
  |_=>false)
 |_=>false
def Sw{v:V}{u:Value}{p q:Int×Int}(h:Je H v p)(r:RelV v u):eP H q u=decide (p=q):=by
 obtain⟨a,rfl,ha⟩:=h;obtain rfl:u=Value.ref a:=r;unfold eP;simp only[ha]
def KA{q:Int×Int}:∀{vs:List V}{us:List Value}{ps:List (Int×Int)},Vals vs us->LV Je H vs ps->us.any (eP H q)=decide (q∈ps)
 |_,_,[],.nil,_=>rfl
 |_,_,_::_,.nil,h=>absurd h.1 (by simp)
 |v::vs,u::us,[],.cons _ _,h=>absurd h.1 (by simp)
 |v::vs,u::us,p::ps,.cons r t,h=>by
  obtain⟨v',e,hv⟩:=h.2 0 p rfl;cases e
  have ht:LV Je H vs ps:=⟨by simpa using h.1,fun i x e=>h.2 (i+1) x e⟩;rw[Wx,Sw hv r,KA t ht];by_cases e1:p=q
  ·subst e1;simp
  ·by_cases e2:q∈ps
   ·simp[e1,e2]
   ·have:¬q=p:=fun z=>e1 z.symm
    simp[e1,e2,this]
def rInP(neg:Bool):R2:=fun x y H Q=>∃(l:Addr) (ps:List (Int×Int)) (q:Int×Int),y=.ref l/\Je H x q/\LAt Je H l ps/\Q (.bl (if neg then !decide (q∈ps)else decide (q∈ps))) H
def Kz{A:Around}{x:V}{v:Value}{q:Int×Int}(I:Inv X pins σ H s)(hu:A.units<cLine)(rx:RelV x v)(hx:Je H x q):∀{vs:List V}{us:List Value}{ps:List (Int×Int)},Vals vs us->LV Je H vs ps->∀u∈us,SeqAt.EqAt A s u v (eP H q u)
 |_,_,_,.nil,_,u,hu'=>by cases hu'
 |w::vs,u::us,[],.cons _ _,h,_,_=>absurd h.1 (by simp)
 |w::vs,u::us,p::ps,.cons r t,h,u',hu'=>by
  obtain⟨w',e,hw⟩:=h.2 0 p rfl;cases e
  have ht:LV Je H vs ps:=⟨by simpa using h.1,fun i x e=>h.2 (i+1) x e⟩;rcases ZQ.mp hu' with rfl|hu'
  ·rw[Sw hw r];exact FJ I hu r rx hw hx
  ·exact Kz I hu rx hx t ht u' hu'
def GQ(hu:X.A.in1.units<cLine):OpR X (compareOp .In) (rInP false):=by
 intro pins s σ H x y v u Q I rx ry h;obtain⟨l,ps,q,rfl,hx,⟨vs,hl,hv⟩,k⟩:=h;cases ry
 obtain⟨its,r,pl,hz⟩:=I.list (SqL.of hl);refine SeqAt.in_listAt (eP H q) pl.isList (fun w hw=>Kz I hu rx hx r hv w (by simpa using hw)) ⟨.bl _,H,I,rfl,?_⟩;rw[show its.toArray.any (eP H q)=its.any (eP H q) by simp,KA r hv];exact k
def EN(hu:X.A.in1.units<cLine):OpR X (compareOp .NotIn) (rInP true):=by
 intro pins s σ H x y v u Q I rx ry h;obtain⟨l,ps,q,rfl,hx,⟨vs,hl,hv⟩,k⟩:=h;cases ry
 obtain⟨its,r,pl,hz⟩:=I.list (SqL.of hl);refine SeqAt.notIn_listAt (eP H q) pl.isList (fun w hw=>Kz I hu rx hx r hv w (by simpa using hw)) ⟨.bl _,H,I,rfl,?_⟩;rw[show its.toArray.any (eP H q)=its.any (eP H q) by simp,KA r hv];exact k
end
end Own
namespace M
open PySem PySem.Spec PyProof.Rows L2 Own
section
variable {α:Type}{R:Hp->V->α->Prop}{H:Hp}
def pick(c:α->Bool)(d:V×α):Option V:=if c d.2=true then some d.1 else none
end
end M
namespace Own
open PySem PySem.Spec PyProof.Rows L2 M
section
variable {X:Cx}
def Ai:VN X (.type "range") (fun xs H Q=>∃i j:Int,xs=[.int i,.int j]/\∀r,H r=none->Q (.ref r) (upd H r (.rng i j))):=by
 intro pins s σ H xs us Q I rv h;obtain⟨i,j,rfl,q⟩:=h;cases rv with
 |cons r rr=>
  cases rr with
  |cons r' rr=>
   cases rr
   obtain⟨t,rfl⟩:=r;obtain⟨t',rfl⟩:=r';refine call_range_2 ⟨.ref s.heap.objs.size,upd H s.heap.objs.size (.rng i j),?_,rfl,q _ (I.hok.fresh (ZG _))⟩;exact I.laid (t':=s.toks+1) (fun b o e=>ZF _ e) (ZG _) ⟨t,t',s.toks,ZN _ rfl⟩
def runI(i:Int)(n:Nat):List Int:=(List.range n).map fun(k:Nat)=>i+(k:Int)
def Hk{i:Int}:∀(n:Nat) (us:List Value),us.length=n->(∀(j:Nat) (v:Value),us[j]?=some v->∃t,v=Value.int (i+(j:Int)*1) t)->Vals ((runI i n).map V.int) us:=by
 intro n us hl h
 have key:∀(us:List Value) (o:Nat),(∀(j:Nat) (v:Value),us[j]?=some v->∃t,v=Value.int (i+((o+j:Nat):Int)) t)->Vals (((List.range' o us.length).map fun(k:Nat)=>i+(k:Int)).map V.int) us:=by
  intro us
  induction us with
  |nil=>intro o _;exact .nil
  |cons u us ih=>
   intro o h;obtain⟨t,e⟩:=h 0 u rfl;show Vals (((List.range' o (us.length+1)).map fun(k:Nat)=>i+(k:Int)).map V.int) (u::us);rw[List.range'_succ,ZZ,ZZ];refine .cons ⟨t,by rw[e];simp⟩ (ih (o+1) fun j v hv=>?_);obtain⟨t',e'⟩:=h (j+1) v hv;exact⟨t',by rw[e'];congr 1<;>omega⟩
 have:=key us 0 (fun j v hv=>by obtain⟨t,e⟩:=h j v hv;exact⟨t,by rw[e];congr 1<;>omega⟩)
 unfold runI;rw[List.range_eq_range',←hl];exact this
end
end Own
namespace Own
open PySem PySem.Spec PyProof.Rows L2
section
variable {X:Cx}{K:Za}
def AJ(hc:X.calm=true)(hK:X.K=K:=by rfl):VN X (.builtin "sum") (fun xs H Q=>∃(p:Addr) (ns:List Int),xs=[.ref p]/\SqL K H p (ns.map V.int)/\Q (.int ns.sum) H):=by
 subst hK;intro pins s σ H xs us Q I rv h;obtain⟨p,ns,rfl,hS,q⟩:=h;obtain⟨u,rfl,ru⟩:=rv.one;obtain rfl:u=Value.ref p:=ru;obtain⟨its,r,pl,_⟩:=I.list hS;have hi:IntsAre its ns:=by simpa using X5 r
 obtain⟨ys,hx⟩:=hi.allInts.items;have hl:=pl.isList;rw[hx]at hl;refine sum_intListG (I.ok.hd hc) hl fun h' tk t' hk=>?_
 have e1:ns=ys.toList.map (·.1):=by
  rw[←nums_intItems,←hx];exact(show numsOf its.toArray.toList=ns from hi.numsOf).symm
 have e2:preSum (numAt ys) ys.size=ns.sum:=by
  rw[preSum_eq,W4 (by simp),e1]
 rw[e2];exact⟨.int ns.sum,H,I.kept (t':=tk) hk,⟨_,rfl⟩,q⟩
def NI(hc:X.calm=true)(hK:X.K=K:=by rfl):VN X (.builtin "min") (fun xs H Q=>∃(p:Addr) (ns:List Int),xs=[.ref p]/\SqL K H p (ns.map V.int)/\0<ns.length/\∀M,M∈ns->(∀a∈ns,M<=a)->Q (.int M) H):=by
 subst hK;intro pins s σ H xs us Q I rv h;obtain⟨p,ns,rfl,hS,hne,q⟩:=h;obtain⟨u,rfl,ru⟩:=rv.one;obtain rfl:u=Value.ref p:=ru;obtain⟨its,r,pl,_⟩:=I.list hS;have hi:IntsAre its ns:=by simpa using X5 r
 obtain⟨ys,e⟩:=hi.allInts.items;have hl:=pl.isList;rw[e]at hl;have hns:ns=ys.toList.map (·.1):=by rw[←hi.numsOf,←nums_intItems,←e]
 have hsz:0<ys.size:=by
  have h3:=hne;rw[hns,ZA,Yp]at h3;exact h3
 refine min_intList (I.ok.hd hc) hl hsz fun v h' tk hv hk=>?_;obtain⟨t,rfl⟩:=intItems_at hv;obtain⟨h1,h2⟩:=argBest_lt (numAt ys) (ys.size-1);refine⟨.int _,H,I.kept (t':=tk) hk,⟨_,rfl⟩,q _ ?_ fun a ha=>?_⟩
 ·rw[hns,numAt_eq];exact getD_mem (by rw[ZA,Yp];omega)
 ·rw[hns]at ha;obtain⟨j,hj,rfl⟩:=Yi.mp ha;rw[ZA,Yp]at hj
  have:=h2 j (by omega)
  rw[numAt_eq ys j]at this;rw[ZM,ZC (by rw[ZA,Yp];exact hj)]at this;exact this
def rEqE(K:Za)(neg:Bool):R2:=fun x y H Q=>∃(p q:Addr) (xs:List V),x=.ref p/\y=.ref q/\SqL K H p xs/\SqL K H q []/\Q (.bl (if neg then !xs.isEmpty else xs.isEmpty)) H
def AC(hu:X.A.units<cLine)(hK:X.K=K:=by rfl):OpR X (compareOp .Eq) (rEqE K false):=by
 subst hK;intro pins s σ H x y v u Q I rx ry h;obtain⟨p,q,xs,rfl,rfl,hp,hq,k⟩:=h;obtain rfl:v=Value.ref p:=rx;obtain rfl:u=Value.ref q:=ry;obtain⟨us,r1,p1,_⟩:=I.list hp;obtain⟨ws,r2,p2,_⟩:=I.list hq;have l1:=r1.length;have l2:0=ws.length:=r2.length;have k':Q (.bl xs.isEmpty) H:=k;by_cases e:xs.length=0
 ·refine SeqAt.eq_listAt (e:=fun _=>true) p1.isList p2.isList (by simp;omega) hu (fun j h1 h2=>by simp at h2;omega) ⟨.bl xs.isEmpty,H,I,?_,k'⟩;show _=Value.bool xs.isEmpty
  have:xs=[]:=YK.mp e
  subst this;rw[ZP,←l1];rfl
 ·refine SeqAt.eq_list_lengthsAt p1.isList p2.isList (by simp;omega) hu ⟨.bl xs.isEmpty,H,I,?_,k'⟩;show _=Value.bool xs.isEmpty;cases xs with
  |nil=>exact absurd rfl e
  |cons a r=>rfl
end
end Own
namespace M
open PySem PySem.Spec PyProof.Rows L2 Own
def JP(ws:List (Int×Int))(ls:List Int):List (Int×Int):=ws.filter fun q=>decide (q.1∈ls)&&decide (q.2∈ls)
def Jl(ws:List (Int×Int))(ls:List Int):List Int:=ls.filter fun h=>decide (h∈(JP ws ls).map (·.2))
def Vp(ws:List (Int×Int))(ls:List Int):Nat->List Int
 | 0=>ls
 |n+1=>Jl ws (Vp ws ls n)
def Pn(ws:List (Int×Int))(r:List Int):Prop:=∀(i:Nat) (x y:Int),r[i]?=some x->r[i+1]?=some y->(x,y)∈ws
structure Ring (hs:List Int) (ws:List (Int×Int)) (r:List Int):Prop where
 two:2<=r.length
 nodup:r.Nodup
 sub:∀x∈r,x∈hs
 chain:Pn ws r
 last:∀x y,r[0]?=some x->r[r.length-1]?=some y->(y,x)∈ws
def Ring.ahead {hs:List Int}{ws:List (Int×Int)}{r:List Int} (R:Ring hs ws r) {x:Int} (hx:x∈r):∃y∈r,(y,x)∈ws:=by
 obtain⟨i,hi,e⟩:=Yi.mp hx;have two:=R.two;cases i with
 |zero=>
  have hl:r.length-1<r.length:=by omega
  exact⟨r[r.length-1],Yb hl,R.last x _ (by rw[ZC hi,e]) (ZC hl)⟩
 |succ i=>
  have hl:i<r.length:=by omega
  exact⟨r[i],Yb hl,R.chain i _ x (ZC hl) (by rw[ZC hi,e])⟩
def mem_peel{ws:List (Int×Int)}{ls:List Int}{x:Int}:x∈Jl ws ls↔x∈ls/\∃y∈ls,(y,x)∈ws:=by
 unfold Jl JP;rw[ZV];constructor
 ·rintro⟨h1,h2⟩;obtain⟨q,hq,e⟩:=Yd.mp (ZX h2);obtain⟨h3,h4⟩:=ZV.mp hq;rw[Yn]at h4;refine⟨h1,q.1,ZX h4.1,?_⟩;rw[←e];exact h3
 ·rintro⟨h1,y,h2,h3⟩;refine⟨h1,ZJ (Yd.mpr ⟨(y,x),ZV.mpr ⟨h3,?_⟩,rfl⟩)⟩;rw[ZJ h2,ZJ h1];rfl
def KD{hs:List Int}{ws:List (Int×Int)}{r:List Int}(R:Ring hs ws r):∀(n:Nat) (x:Int),x∈r->x∈Vp ws hs n
 | 0,x,hx=>R.sub x hx
 |n+1,x,hx=>by
  obtain⟨y,hy,h⟩:=R.ahead hx;exact mem_peel.mpr ⟨KD R n x hx,y,KD R n y hy,h⟩
def PU(ws:List (Int×Int))(ls:List Int):(Jl ws ls).Sublist ls:=List.filter_sublist
def NK(ws:List (Int×Int))(hs:List Int):∀n,(Vp ws hs n).Sublist hs
 | 0=>List.Sublist.refl _
 |n+1=>(PU ws _).trans (NK ws hs n)
def Fl(ws:List (Int×Int))(hs:List Int):∀n,(∃k,k<n/\Jl ws (Vp ws hs k)=Vp ws hs k)\/(Vp ws hs n).length+n<=hs.length
 | 0=>.inr (ZG _)
 |n+1=>by
  rcases Fl ws hs n with⟨k,hk,e⟩|h
  ·exact .inl ⟨k,by omega,e⟩
  ·by_cases e:Jl ws (Vp ws hs n)=Vp ws hs n
   ·exact .inl ⟨n,by omega,e⟩
   ·have hl:(Jl ws (Vp ws hs n)).length<(Vp ws hs n).length:=by
     have h1:=(PU ws (Vp ws hs n)).length_le;rcases Nat.lt_or_ge (Jl ws (Vp ws hs n)).length (Vp ws hs n).length with h2|h2
     ·exact h2
     ·exact absurd ((PU ws (Vp ws hs n)).eq_of_length (by omega)) e
    refine .inr ?_;show(Jl ws (Vp ws hs n)).length+(n+1)<=hs.length;omega
def SW(ws:List (Int×Int))(hs:List Int){k:Nat}(e:Jl ws (Vp ws hs k)=Vp ws hs k):∀n,Vp ws hs (k+n)=Vp ws hs k
 | 0=>rfl
 |n+1=>by
  show Jl ws (Vp ws hs (k+n))=_;rw[SW ws hs e n,e]
def PD:∀{xs ys:List Int},xs.Nodup->(∀x∈xs,x∈ys)->xs.length<=ys.length
 |[],_,_,_=>YJ _
 |x::xs,ys,nd,h=>by
  obtain⟨h1,h2⟩:=Yv.mp nd;have hx:x∈ys:=h x (Yo ..);have ih:=PD (ys:=ys.erase x) h2 fun z hz=>(List.mem_erase_of_ne (fun e:z=x=>h1 (e▸hz))).mpr (h z (Yc _ hz));rw[WS hx]at ih
  have:0<ys.length:=W5 hx
  rw[Ya];omega
def T5{ws:List (Int×Int)}{ls:List Int}(hu:∀q∈ws,q.1≠q.2)(hne:ls≠[])(h:∀x∈ls,∃y∈ls,(y,x)∈ws):∃r,Ring ls ws r:=by
 have grow:∀(n:Nat) (r:List Int),r≠[]->r.Nodup->(∀x∈r,x∈ls)->Pn ws r->ls.length<r.length+n->∃r,Ring ls ws r:=by
  intro n
  induction n with
  |zero=>
   intro r hr nd sub ch hl
   have:=PD nd sub
   omega
  |succ n ih=>
   intro r hr nd sub ch hl;cases r with
   |nil=>exact absurd rfl hr
   |cons x t=>
    obtain⟨y,hy,hw⟩:=h x (sub x (Yo ..));by_cases hm:y∈x::t
    ·obtain⟨i,hi,e⟩:=Yi.mp hm
     have hi0:i≠0:=fun z=>by
      subst z;have e':x=y:=e;exact hu _ hw e'.symm
     have hlen:((x::t).take (i+1)).length=i+1:=by
      rw[Yf];omega
     refine⟨(x::t).take (i+1),by omega,nd.sublist (Q5 _ _),fun z hz=>sub z (Qv hz),fun k a b h1 h2=>?_,fun a b h1 h2=>?_⟩
     ·have hk:k+1<i+1:=by
       have:=(ZW.mp h2).1
       omega
      rw[YQ (by omega)]at h1;rw[YQ hk]at h2;exact ch k a b h1 h2
     ·rw[hlen,Nat.add_sub_cancel,YQ (by omega),ZC hi,e]at h2;rw[YQ (by omega)]at h1;cases h1
      cases h2
      exact hw
    ·refine ih (y::x::t) (by simp) (Yv.mpr ⟨hm,nd⟩) (fun z hz=>?_) (fun k a b h1 h2=>?_) (by rw[Ya];omega)
     ·rcases ZQ.mp hz with rfl|hz
      ·exact hy
      ·exact sub z hz
     ·cases k with
      |zero=>
       cases h1
       cases h2
       exact hw
      |succ k=>exact ch k a b h1 h2
 obtain⟨x,hx⟩:=List.exists_mem_of_ne_nil ls hne;exact grow (ls.length+1) [x] (by simp) (by simp) (fun y hy=>by rw[ZE.mp hy];exact hx) (fun i a b h1 h2=>by simp at h2) (by show ls.length<1+(ls.length+1);omega)
def Bk{ws:List (Int×Int)}{hs:List Int}(hu:∀q∈ws,q.1≠q.2):Vp ws hs hs.length=[]↔¬ ∃r,Ring hs ws r:=by
 constructor
 ·rintro h ⟨r,R⟩;have two:=R.two;have h0:0<r.length:=by omega
  have:=KD R hs.length r[0] (Yb h0)
  rw[h]at this;cases this
 ·intro h;rcases Fl ws hs hs.length with⟨k,hk,e⟩|hl
  ·have e2:=SW ws hs e (hs.length-k);rw[show k+(hs.length-k)=hs.length by omega]at e2;rw[e2];by_cases hne:Vp ws hs k=[]
   ·exact hne
   ·obtain⟨r,R⟩:=T5 hu hne (fun x hx=>by
     rw[←e]at hx;exact(mem_peel.mp hx).2)
    exact absurd ⟨r,R.two,R.nodup,fun x hx=>(NK ws hs k).subset (R.sub x hx),R.chain,R.last⟩ h
  ·exact YK.mp (by omega)
end M
namespace M
def sl:List Int->List Int->Prop
 |x::xs,y::ys=>x<y\/(x=y/\sl xs ys)
 |_,_=>False
def Ij{l:Int}{a b:List Int}:sl (l::a) (l::b)↔sl a b:=by
 show(l<l\/(l=l/\sl a b))↔sl a b;constructor
 ·rintro(h|⟨_,h⟩)
  ·omega
  ·exact h
 ·exact fun h=>.inr ⟨rfl,h⟩
def Vr(g:Int):List Int->Int
 |[]=>g
 |x::t=>Vr x t
def Ub(g:Int):∀(a b:List Int),Vr g (a++b)=Vr (Vr g a) b
 |[],b=>rfl
 |x::a,b=>Ub x a b
def Ph(g:Int):∀(t:List Int),(g::t)[t.length]?=some (Vr g t)
 |[]=>rfl
 |x::t=>by
  rw[Ya,List.getElem?_cons_succ];exact Ph x t
def Path(C:Int->Prop)(ws:List (Int×Int)):Int->List Int->Prop
 |_,[]=>True
 |g,x::t=>C x/\(g,x)∈ws/\Path C ws x t
section
variable {C:Int->Prop}{ws:List (Int×Int)}
def path_app:∀{g:Int}{a b:List Int},Path C ws g (a++b)↔Path C ws g a/\Path C ws (Vr g a) b
 |g,[],b=>⟨fun h=>⟨trivial,h⟩,fun h=>h.2⟩
 |g,x::a,b=>by
  rw[QA];constructor
  ·rintro⟨h1,h2,h3⟩
   have:=path_app.mp h3
   exact⟨⟨h1,h2,this.1⟩,this.2⟩
  ·rintro⟨⟨h1,h2,h3⟩,h4⟩;exact⟨h1,h2,path_app.mpr ⟨h3,h4⟩⟩
def Sz:∀{g:Int}{t:List Int},Path C ws g t->∀x∈t,C x
 |g,[],_,x,h=>by cases h
 |g,y::t,⟨h1,_,h3⟩,x,h=>by
  rcases ZQ.mp h with rfl|h
  ·exact h1
  ·exact Sz h3 x h
def NG:∀{g:Int}{t:List Int},Path C ws g t->Pn ws (g::t)
 |g,[],_=>fun i x y h1 h2=>by simp at h2
 |g,z::t,⟨h1,h2,h3⟩=>fun i x y k1 k2=>by
  cases i with
  |zero=>
   cases k1
   cases k2
   exact h2
  |succ i=>exact NG h3 i x y k1 k2
end
def Gr(hs:List Int)(l:Int):Int->Prop:=fun x=>x∈hs/\l<x
def U2(hs:List Int)(ws:List (Int×Int))(l:Int)(t:List Int):Prop:=Path (Gr hs l) ws l t/\(Vr l t,l)∈ws
def Ng:∀{t:List Int},¬t.Nodup->∃a x b c,t=a++x::(b++x::c)
 |[],h=>absurd YZ h
 |y::t,h=>by
  by_cases hy:y∈t
  ·obtain⟨b,c,e⟩:=List.append_of_mem hy;exact⟨[],y,b,c,by rw[e];rfl⟩
  ·obtain⟨a,x,b,c,e⟩:=Ng (t:=t) fun z=>h (Yv.mpr ⟨hy,z⟩);exact⟨y::a,x,b,c,by rw[e];rfl⟩
def NV{hs:List Int}{ws:List (Int×Int)}{l:Int}{t:List Int}(hu:∀q∈ws,q.1≠q.2)(hl:l∈hs)(hc:U2 hs ws l t)(hmin:∀u,U2 hs ws l u->t.length<=u.length):Ring hs ws (l::t):=by
 have hne:t≠[]:=fun z=>by
  have h2:=hc.2;rw[z]at h2;exact hu _ h2 rfl
 have hg:=Sz hc.1;refine⟨by have:=Qy.mpr hne;simp;omega,Yv.mpr ⟨fun z=>absurd (hg l z).2 (by omega),?_⟩,fun x hx=>?_,NG hc.1,fun x y h1 h2=>?_⟩
 ·refine Ys fun z=>?_;obtain⟨a,x,b,c,e⟩:=Ng z;have h1:=hc.1;rw[e]at h1;obtain⟨p1,p2⟩:=path_app.mp h1;have p3:=(path_app (a:=x::b) (b:=x::c) (g:=Vr l a)).mp p2
  have cl:U2 hs ws l (a++x::c):=by
   refine⟨path_app.mpr ⟨p1,p2.1,p2.2.1,p3.2.2.2⟩,?_⟩
   have e2:Vr l (a++x::c)=Vr l t:=by
    rw[e,Ub,Ub];show Vr x c=Vr x (b++x::c);rw[Ub];rfl
   rw[e2];exact hc.2
  have:=hmin _ cl
  rw[e]at this;simp at this;omega
 ·rcases ZQ.mp hx with rfl|hx
  ·exact hl
  ·exact(hg x hx).1
 ·cases h1
  have e:=Ph l t;simp only[Ya,Nat.add_sub_cancel]at h2;rw[e]at h2;cases h2
  exact hc.2
def UY(ws:List (Int×Int)):Prop:=ws.length<=20/\ws.Nodup/\∀q∈ws,(1<=q.1/\q.1<=10/\1<=q.2/\q.2<=10)/\q.1≠q.2
open Own
def Ez{n:Nat}{x:Int}:x∈runI 1 n↔1<=x/\x<=n:=by
 unfold runI;rw[Yd];constructor
 ·rintro⟨k,hk,rfl⟩
  have:=Yw.mp hk
  omega
 ·intro h;exact⟨(x-1).toNat,Yw.mpr (by omega),by omega⟩
def JK(n:Nat):(runI 1 n).length=n:=by unfold runI;rw[ZA,Q7]
end M
namespace Pu
open PySem PySem.Spec PyProof.Rows L2 Own
inductive D where
 |int (i:Int)|bl (b:Bool)|non|str (x:Str)|ty (n:String)|tup (ds:List D)|lst (ds:List D)|scr (ns:List Int)|dK (kvs:List (Key×V))|dT (kvs:List (List Key×V))|loc (a:Addr) (d:D)|err (C:Addr)|ref (a:Addr)|ins (C:Addr) (xs:List Str) (ds:List D)|dF (kvs:List (List Key×V))
mutual
inductive Rp (K:Za) (H:Hp):D->V->Prop
 |int (i:Int):Rp K H (.int i) (.int i)
 |bl (b:Bool):Rp K H (.bl b) (.bl b)
 |non:Rp K H .non .non
 |str (x:Str):Rp K H (.str x) (.str x)
 |ty (n:String):Rp K H (.ty n) (.ty n)
 |tup {ds:List D} {vs:List V} {a:Addr}:H a=some (.tup vs)->Rps K H ds vs->Rp K H (.tup ds) (.ref a)
 |lst {ds:List D} {vs:List V} {a:Addr}:H a=some (.lst vs)->Rps K H ds vs->Rp K H (.lst ds) (.ref a)
 |scr {ns:List Int} {a:Addr}:SqL K H a (ns.map V.int)->Rp K H (.scr ns) (.ref a)
 |dK {kvs:List (Key×V)} {a:Addr}:H a=some (.dK kvs)->Rp K H (.dK kvs) (.ref a)
 |dT {kvs:List (List Key×V)} {a:Addr}:H a=some (.dT kvs)->Rp K H (.dT kvs) (.ref a)
 |dF {kvs:List (List Key×V)} {o:Obj} {a:Addr}:H a=some (.frz o (.dT kvs))->Rp K H (.dF kvs) (.ref a)
 |loc {d:D} {a:Addr}:Rp K H d (.ref a)->Rp K H (.loc a d) (.ref a)
 |err {C a:Addr}:H a=some (ExcR.ErrH a C)->Rp K H (.err C) (.ref a)
 |ref (a:Addr):Rp K H (.ref a) (.ref a)
 |ins {C a dx:Addr} {xs:List Str} {ds:List D} {vs:List V}:H a=some (.ins C dx (xs.zip vs))->xs.length=vs.length->Rps K H ds vs->Rp K H (.ins C xs ds) (.ref a)
inductive Rps (K:Za) (H:Hp):List D->List V->Prop
 |nil:Rps K H [] []
 |cons {d:D} {v:V} {ds:List D} {vs:List V}:Rp K H d v->Rps K H ds vs->Rps K H (d::ds) (v::vs)
end
section
variable {K:Za}{H H':Hp}
mutual
def Rp.mono (S:Same H H'):∀{d:D}{v:V},Rp K H d v->Rp K H' d v
 |_,_,.int i=>.int i
 |_,_,.bl b=>.bl b
 |_,_,.non=>.non
 |_,_,.str x=>.str x
 |_,_,.ty n=>.ty n
 |_,_,.tup h r=>.tup (S _ _ h) (Rps.mono S r)
 |_,_,.lst h r=>.lst (S _ _ h) (Rps.mono S r)
 |_,_,.scr h=>.scr (S.seq h)
 |_,_,.dK h=>.dK (S _ _ h)
 |_,_,.dT h=>.dT (S _ _ h)
 |_,_,.loc h=>.loc (Rp.mono S h)
 |_,_,.dF h=>.dF (S _ _ h)
 |_,_,.err h=>.err (S _ _ h)
 |_,_,.ref a=>.ref a
 |_,_,.ins h e r=>.ins (S _ _ h) e (Rps.mono S r)
def Rps.mono (S:Same H H'):∀{ds:List D}{vs:List V},Rps K H ds vs->Rps K H' ds vs
 |_,_,.nil=>.nil
 |_,_,.cons h r=>.cons (Rp.mono S h) (Rps.mono S r)
end
def Rps.len:∀{ds:List D}{vs:List V},Rps K H ds vs->vs.length=ds.length
 |_,_,.nil=>rfl
 |_,_,.cons _ r=>Y1 (· + 1) (Rps.len r)
def Rps.get:∀{ds:List D}{vs:List V}{i:Nat}{d:D},Rps K H ds vs->ds[i]?=some d->∃v,vs[i]?=some v/\Rp K H d v
 |_,_,_,_,.nil,e=>by simp at e
 |_,_,0,_,.cons h _,e=>by simp at e;subst e;exact⟨_,rfl,h⟩
 |_,_,i+1,d,.cons _ r,e=>by
  obtain⟨v,h1,h2⟩:=Rps.get (i:=i) (d:=d) r (by simpa using e);exact⟨v,by simpa using h1,h2⟩
def Rps.append:∀{ds es:List D}{vs us:List V},Rps K H ds vs->Rps K H es us->Rps K H (ds++es) (vs++us)
 |_,_,_,_,.nil,s=>s
 |_,_,_,_,.cons h r,s=>.cons h (Rps.append r s)
def Rps.drop:∀{ds:List D}{vs:List V} (n:Nat),Rps K H ds vs->Rps K H (ds.drop n) (vs.drop n)
 |_,_,0,r=>r
 |_,_,_+1,.nil=>.nil
 |_,_,n+1,.cons _ r=>Rps.drop n r
def Rps.take:∀{ds:List D}{vs:List V} (n:Nat),Rps K H ds vs->Rps K H (ds.take n) (vs.take n)
 |_,_,0,_=>.nil
 |_,_,_+1,.nil=>.nil
 |_,_,n+1,.cons h r=>.cons h (Rps.take n r)
end
mutual
def imm:D->Bool
 | .tup ds=>imms ds
 | .lst _=>false
 | .scr _=>false
 | .dK _=>false
 | .dT _=>false
 | .loc _ _=>false
 | .err _=>false
 | .ins _ _ _=>false
 |_=>true
def imms:List D->Bool
 |[]=>true
 |d::r=>imm d&&imms r
end
open Classical in
noncomputable def off(Z:Addr->Prop)(H:Hp):Hp:=fun b=>if Z b then none else H b
section
variable {K:Za}{H H':Hp}{Z Z':Addr->Prop}
def Uq{b:Addr}{o:HO}(h:off Z H b=some o):H b=some o/\¬Z b:=by
 unfold off at h;by_cases z:Z b
 ·rw[ZK z]at h;cases h
 ·rw[ZI z]at h;exact⟨h,z⟩
def VJ{b:Addr}{o:HO}(h:H b=some o)(z:¬Z b):off Z H b=some o:=by
 unfold off;rw[ZI z];exact h
def Vm(S:Same H H')(hz:∀b o,H b=some o->¬Z b->¬Z' b):Same (off Z H) (off Z' H'):=fun b o h=>by
 obtain⟨h1,h2⟩:=Uq h;exact VJ (S b o h1) (hz b o h1 h2)
def off_sub:Same (off Z H) H:=fun _ _ h=>(Uq h).1
mutual
def Rp.off (hm:∀b,Z b->Mut (H b)):∀{d:D}{v:V},Rp K H d v->imm d=true->Rp K (off Z H) d v
 |_,_,.int i,_=>.int i
 |_,_,.bl b,_=>.bl b
 |_,_,.non,_=>.non
 |_,_,.str x,_=>.str x
 |_,_,.ty n,_=>.ty n
 |_,_,.tup h r,e=>.tup (VJ h fun z=>by have:=hm _ z;rw[h]at this;exact this) (Rps.off hm r (by unfold imm at e;exact e))
 |_,_,.lst _ _,e=>by unfold imm at e;cases e
 |_,_,.scr _,e=>by unfold imm at e;cases e
 |_,_,.dK _,e=>by unfold imm at e;cases e
 |_,_,.dT _,e=>by unfold imm at e;cases e
 |_,_,.loc _,e=>by unfold imm at e;cases e
 |_,_,.dF h,_=>.dF (VJ h fun z=>by have:=hm _ z;rw[h]at this;exact this)
 |_,_,.err _,e=>by unfold imm at e;cases e
 |_,_,.ref a,_=>.ref a
 |_,_,.ins _ _ _,e=>by unfold imm at e;cases e
def Rps.off (hm:∀b,Z b->Mut (H b)):∀{ds:List D}{vs:List V},Rps K H ds vs->imms ds=true->Rps K (off Z H) ds vs
 |_,_,.nil,_=>.nil
 |_,_,.cons h r,e=>by
  unfold imms at e;rw[Yn]at e;exact .cons (Rp.off hm h e.1) (Rps.off hm r e.2)
end
end
inductive O where
 |lst (ds:List D)|dK (kvs:List (Key×V))|dT (kvs:List (List Key×V))|ins (a C:Addr) (xs:List Str) (cs:List (Addr×List D))|lsA (a:Addr) (ds:List D)|nst (cs:List (Addr×List D))|nsl (a:Addr) (cs:List (Addr×List D))
instance:Coe (List D) O:=⟨O.lst⟩
def O.d:O->D
 | .lst ds=>.lst ds | .dK kvs=>.dK kvs | .dT kvs=>.dT kvs | .ins _ C xs cs=>.ins C xs (cs.map fun c=>.lst c.2) | .lsA _ ds=>.lst ds | .nst cs=>.tup (cs.map fun c=>.lst c.2) | .nsl _ cs=>.lst (cs.map fun c=>.lst c.2)
def O.adr (a:Addr):O->Addr->Prop
 | .lst _=>fun b=>b=a
 | .dK _=>fun b=>b=a
 | .dT _=>fun b=>b=a
 | .ins x _ _ cs=>fun b=>b=x\/∃c∈cs,b=c.1
 | .lsA x _=>fun b=>b=x
 | .nst cs=>fun b=>∃c∈cs,b=c.1
 | .nsl x cs=>fun b=>b=x\/∃c∈cs,b=c.1
def OR(K:Za)(F H:Hp)(a:Addr):O->Prop
 | .lst ds=>∃vs,H a=some (.lst vs)/\Rps K F ds vs
 | .dK kvs=>H a=some (.dK kvs)
 | .dT kvs=>H a=some (.dT kvs)
 | .lsA x ds=>a=x/\∃vs,H a=some (.lst vs)/\Rps K F ds vs
 | .ins x C xs cs=>a=x/\xs.length=cs.length/\(∃dx,H a=some (.ins C dx (xs.zip (cs.map fun c=>V.ref c.1))))/\(∀c∈cs,∃vs,H c.1=some (.lst vs)/\Rps K F c.2 vs)/\(cs.map (·.1)).Nodup
 | .nsl x cs=>a=x/\H a=some (.lst (cs.map fun c=>V.ref c.1))/\(∀c∈cs,∃vs,H c.1=some (.lst vs)/\Rps K F c.2 vs)/\(x::cs.map (·.1)).Nodup
 | .nst cs=>F a=some (.tup (cs.map fun c=>V.ref c.1))/\(∀c∈cs,∃vs,H c.1=some (.lst vs)/\Rps K F c.2 vs)/\(cs.map (·.1)).Nodup
def OR.mono {K:Za}{F F' H H':Hp}{a:Addr}{o:O} (S1:Same F F') (S2:∀b,o.adr a b->∀x,H b=some x->H' b=some x) (h:OR K F H a o):OR K F' H' a o:=by
 cases o with
 |lst ds=>obtain⟨vs,h1,h2⟩:=h;exact⟨vs,S2 _ rfl _ h1,Rps.mono S1 h2⟩
 |dK kvs=>exact S2 _ rfl _ h
 |dT kvs=>exact S2 _ rfl _ h
 |lsA x ds=>obtain⟨rfl,vs,h1,h2⟩:=h;exact⟨rfl,vs,S2 _ rfl _ h1,Rps.mono S1 h2⟩
 |nsl x cs=>
  obtain⟨e,h1,h2,h3⟩:=h;exact⟨e,S2 _ (.inl e) _ h1,fun c hc=>let ⟨vs,q1,q2⟩:=h2 c hc;⟨vs,S2 _ (.inr ⟨c,hc,rfl⟩) _ q1,Rps.mono S1 q2⟩,h3⟩
 |nst cs=>
  obtain⟨h1,h2,h3⟩:=h;exact⟨S1 _ _ h1,fun c hc=>let ⟨vs,q1,q2⟩:=h2 c hc;⟨vs,S2 _ ⟨c,hc,rfl⟩ _ q1,Rps.mono S1 q2⟩,h3⟩
 |ins x C xs cs=>
  obtain⟨e,l,⟨dx,h1⟩,h2,h3⟩:=h;exact⟨e,l,⟨dx,S2 _ (.inl e) _ h1⟩,fun c hc=>let ⟨vs,q1,q2⟩:=h2 c hc;⟨vs,S2 _ (.inr ⟨c,hc,rfl⟩) _ q1,Rps.mono S1 q2⟩,h3⟩
def JZ{K:Za}{F:Hp}:∀{cs:List (Addr×List D)},(∀c∈cs,∃vs,F c.1=some (.lst vs)/\Rps K F c.2 vs)->Rps K F (cs.map fun c=>.lst c.2) (cs.map fun c=>V.ref c.1)
 |[],_=>.nil
 |c::cs,h=>let ⟨_,q1,q2⟩:=h c Yo;.cons (.lst q1 q2) (JZ fun c' hc=>h c' (Yc _ hc))
def OR.rpIn {K:Za}{F F' H:Hp}{a:Addr}{o:O} (S1:Same F F') (S2:∀b,o.adr a b->∀x,H b=some x->F' b=some x) (h:OR K F H a o):Rp K F' o.d (.ref a):=by
 cases o with
 |lst ds=>obtain⟨vs,h1,h2⟩:=h;exact .lst (S2 _ rfl _ h1) (Rps.mono S1 h2)
 |dK kvs=>exact .dK (S2 _ rfl _ h)
 |dT kvs=>exact .dT (S2 _ rfl _ h)
 |lsA x ds=>obtain⟨rfl,vs,h1,h2⟩:=h;exact .lst (S2 _ rfl _ h1) (Rps.mono S1 h2)
 |nsl x cs=>
  obtain⟨e,h1,h2,h3⟩:=h;exact .lst (S2 _ (.inl e) _ h1) (JZ fun c hc=>let ⟨vs,q1,q2⟩:=h2 c hc;⟨vs,S2 _ (.inr ⟨c,hc,rfl⟩) _ q1,Rps.mono S1 q2⟩)
 |nst cs=>
  obtain⟨h1,h2,h3⟩:=h;exact .tup (S1 _ _ h1) (JZ fun c hc=>let ⟨vs,q1,q2⟩:=h2 c hc;⟨vs,S2 _ ⟨c,hc,rfl⟩ _ q1,Rps.mono S1 q2⟩)
 |ins x C xs cs=>
  obtain⟨e,l,⟨dx,h1⟩,h2,h3⟩:=h;exact .ins (S2 _ (.inl e) _ h1) (by rw[ZA];exact l) (JZ fun c hc=>let ⟨vs,q1,q2⟩:=h2 c hc;⟨vs,S2 _ (.inr ⟨c,hc,rfl⟩) _ q1,Rps.mono S1 q2⟩)
def OR.rp {K:Za}{F H:Hp}{a:Addr}{o:O} (S1:Same F H) (h:OR K F H a o):Rp K H o.d (.ref a):=h.rpIn S1 fun _ _ _ e=>e
def OR.mut {K:Za}{F H:Hp}{a:Addr}{o:O} (h:OR K F H a o):∀b,o.adr a b->Mut (H b):=by
 cases o with
 |lst ds=>obtain⟨vs,h1,h2⟩:=h;intro b e;rw[show b=a from e,h1];trivial
 |dK kvs=>intro b e;rw[show b=a from e,show H a=some (.dK kvs)from h];trivial
 |dT kvs=>intro b e;rw[show b=a from e,show H a=some (.dT kvs)from h];trivial
 |lsA x ds=>obtain⟨rfl,vs,h1,h2⟩:=h;intro b e;rw[show b=a from e,h1];trivial
 |nsl x cs=>
  obtain⟨e,h1,h2,h3⟩:=h;intro b hb;rcases hb with hb|⟨c,hc,hb⟩
  ·rw[show b=a from hb.trans e.symm,h1];trivial
  ·obtain⟨vs,q1,_⟩:=h2 c hc;rw[hb,q1];trivial
 |nst cs=>
  obtain⟨h1,h2,h3⟩:=h;rintro b ⟨c,hc,hb⟩;obtain⟨vs,q1,_⟩:=h2 c hc;rw[hb,q1];trivial
 |ins x C xs cs=>
  obtain⟨e,l,⟨dx,h1⟩,h2,h3⟩:=h;intro b hb;rcases hb with hb|⟨c,hc,hb⟩
  ·rw[show b=a from hb.trans e.symm,h1];trivial
  ·obtain⟨vs,q1,_⟩:=h2 c hc;rw[hb,q1];trivial
inductive S where
 |bor (d:D)|sh (d:D)|own (o:O)|view (o:O)|tmp (d:D)
abbrev Γ:=List (Option S)
def D.strip:D->D
 | .loc _ d=>d|d=>d
def Rp.strip {K:Za}{H:Hp}{d:D}{v:V} (h:Rp K H d v):Rp K H d.strip v:=by
 cases h with
 |loc h=>exact h
 |int i=>exact .int i
 |bl b=>exact .bl b
 |non=>exact .non
 |str x=>exact .str x
 |ty n=>exact .ty n
 |tup h r=>exact .tup h r
 |lst h r=>exact .lst h r
 |scr h=>exact .scr h
 |dK h=>exact .dK h
 |dT h=>exact .dT h
 |dF h=>exact .dF h
 |err h=>exact .err h
 |ref a=>exact .ref a
 |ins h e r=>exact .ins h e r
def S.d:S->D
 | .bor d=>d.strip | .sh d=>d | .own o=>o.d | .view o=>o.d | .tmp d=>d
def arg(d:D):S:=match imm d with|true=>.sh d|false=>.bor d
def argT(d:D):S:=match imm d with|true=>.sh d|false=>.tmp d
def S.sub:S->D->S
 | .bor _,e=>arg e | .tmp _,e=>argT e | .own (.nst _),e=>argT e | .view (.nst _),e=>argT e | .own (.nsl _ _),e=>argT e | .view (.nsl _ _),e=>argT e|_,e=>.sh e
def S.shd:S->Option D
 | .sh d=>some d | .own o=>some o.d
 | .bor d=>match imm d with|true=>some d|false=>none
 | .tmp d=>match imm d with|true=>some d|false=>none
 | .view _=>none
def S.slot:S->Option S
 | .view _=>none | .bor d=>some (.bor d) | .sh d=>some (.sh d) | .own ds=>some (.own ds)
 | .tmp d=>match imm d with|true=>some (.sh d)|false=>none
def FV(γ:Γ)(σ:L2.St)(b:Addr):Prop:=∃(i:Nat) (ds:O) (a:Addr),γ[i]?=some (some (.own ds))/\σ[i]?=some (some (.ref a))/\ds.adr a b
def zof(B:Addr->Prop)(γ:Γ)(σ:L2.St):Addr->Prop:=fun b=>B b\/FV γ σ b
def SV(K:Za)(Z:Addr->Prop)(H0 H:Hp):S->V->Prop
 | .bor d,v=>Rp K H0 d v
 | .sh d,v=>Rp K (off Z H) d v
 | .own o,v=>∃a,v=.ref a/\(∀b,o.adr a b->H0 b=none)/\OR K (off Z H) H a o
 |_,_=>False
def TV(K:Za)(Z:Addr->Prop)(H0 H H':Hp):S->V->Prop
 | .bor d,v=>Rp K H0 d v
 | .sh d,v=>Rp K (off Z H') d v
 | .own o,v=>∃a,v=.ref a/\(∀b,o.adr a b->H b=none)/\OR K (off (fun b=>Z b\/o.adr a b) H') H' a o
 | .view o,v=>∃a,v=.ref a/\OR K (off Z H') H' a o
 | .tmp d,v=>Rp K H' d v
structure EnvR (K:Za) (H0:Hp) (B:Addr->Prop) (H:Hp) (σ:L2.St) (γ:Γ):Prop where
 same:Same H0 H
 len:σ.length=γ.length
 bm:∀b,B b->Mut (H b)
 own:∀(i j:Nat) (a a':Addr) (ds es:O) (b:Addr),γ[i]?=some (some (.own ds))->γ[j]?=some (some (.own es))->σ[i]?=some (some (.ref a))->σ[j]?=some (some (.ref a'))->ds.adr a b->es.adr a' b->i=j
 slot:∀(i:Nat) (s:S),γ[i]?=some (some s)->∃v,σ[i]?=some (some v)/\SV K (zof B γ σ) H0 H s v
section
variable {K:Za}{H0 H H1 H':Hp}{B Z Z':Addr->Prop}{σ:L2.St}{γ:Γ}
def JI(S:Same H H'){b:Addr}(h:Mut (H b)):Mut (H' b):=by
 cases e:H b with
 |none=>rw[e]at h;exact h.elim
 |some o=>rw[S b o e,←e];exact h
def XW{b:Addr}(h:Mut (H b)):∃o,H b=some o:=by
 cases e:H b with
 |none=>rw[e]at h;exact h.elim
 |some o=>exact⟨o,rfl⟩
def EnvR.grow (E:EnvR K H0 B H σ γ) (S:Same H H'):EnvR K H0 B H' σ γ where
 same:=E.same.trans S
 len:=E.len
 bm b h:=JI S (E.bm b h)
 own:=E.own
 slot i s h:=by
  obtain⟨v,h1,h2⟩:=E.slot i s h;refine⟨v,h1,?_⟩;cases s with
  |bor d=>exact h2
  |sh d=>exact Rp.mono (Vm S fun _ _ _ z=>z) h2
  |own ds=>
   obtain⟨a,e1,e3,e4⟩:=h2;exact⟨a,e1,e3,e4.mono (Vm S fun _ _ _ z=>z) fun b _ x=>S b x⟩
  |view ds=>exact h2
  |tmp d=>exact h2
def EnvR.zm (E:EnvR K H0 B H σ γ):∀b,zof B γ σ b->Mut (H b):=fun b h=>by
 rcases h with h|⟨i,ds,x,h1,h2,hb⟩
 ·exact E.bm b h
 ·obtain⟨v,e1,a,e2,e3,e4⟩:=E.slot i _ h1;rw[h2]at e1;cases e1
  cases e2
  exact e4.mut b hb
def TV.rp {s:S}{v:V} (h0:Same H0 H') (h:TV K Z H0 H H' s v):Rp K H' s.d v:=by
 cases s with
 |bor d=>exact(Rp.mono h0 h).strip
 |sh d=>exact Rp.mono off_sub h
 |own ds=>
  obtain⟨a,rfl,_,r⟩:=h;exact r.rp off_sub
 |view ds=>
  obtain⟨a,rfl,r⟩:=h;exact r.rp off_sub
 |tmp d=>exact h
def TV.grow {s:S}{v:V} (S1:Same H' H1) (h:TV K Z H0 H H' s v):TV K Z H0 H H1 s v:=by
 cases s with
 |bor d=>exact h
 |sh d=>exact Rp.mono (Vm S1 fun _ _ _ z=>z) h
 |own ds=>
  obtain⟨a,rfl,e0,r⟩:=h;exact⟨a,rfl,e0,r.mono (Vm S1 fun _ _ _ z=>z) fun b _ x=>S1 b x⟩
 |view ds=>
  obtain⟨a,rfl,r⟩:=h;exact⟨a,rfl,r.mono (Vm S1 fun _ _ _ z=>z) fun b _ x=>S1 b x⟩
 |tmp d=>exact Rp.mono S1 h
def TV.weak {s:S}{v:V} (S1:Same H H1) (hz:∀b,Z b->Z' b) (h:TV K Z' H0 H1 H' s v):TV K Z H0 H H' s v:=by
 cases s with
 |bor d=>exact h
 |sh d=>exact Rp.mono (Vm (Same.refl _) fun b _ _ z y=>z (hz b y)) h
 |own ds=>
  obtain⟨a,rfl,e0,r⟩:=h;exact⟨a,rfl,fun b hb=>S1.free (e0 b hb),r.mono (Vm (Same.refl _) fun b _ _ z y=>z (y.imp (hz b) id)) fun _ _ _ q=>q⟩
 |view ds=>
  obtain⟨a,rfl,r⟩:=h;exact⟨a,rfl,r.mono (Vm (Same.refl _) fun b _ _ z y=>z (hz b y)) fun _ _ _ q=>q⟩
 |tmp d=>exact h
def TV.shd {s:S}{v:V}{d:D} (h0:Same H0 H') (hm:∀b,Z b->Mut (H b)) (S1:Same H H') (h:TV K Z H0 H H' s v) (e:s.shd=some d):Rp K (off Z H') d v:=by
 have hm':∀b,Z b->Mut (H' b):=fun b z=>JI S1 (hm b z);cases s with
 |bor d'=>
  unfold S.shd at e;cases q:imm d' with
  |false=>simp[q]at e
  |true=>
   simp[q]at e;subst e;exact Rp.off hm' (Rp.mono h0 h) q
 |sh d'=>cases e;exact h
 |own ds=>
  cases e
  obtain⟨a,rfl,e0,r⟩:=h;exact r.rpIn (Vm (Same.refl _) fun b _ _ z y=>z (.inl y)) fun b hb x e=>VJ e fun z=>by have:=hm _ z;rw[e0 b hb]at this;exact this
 |view ds=>cases e
 |tmp d'=>
  unfold S.shd at e;cases q:imm d' with
  |false=>simp[q]at e
  |true=>
   simp[q]at e;subst e;exact Rp.off hm' h q
def argR{d:D}{v:V}(hm:∀b,Z b->Mut (H' b))(h0:Same H0 H')(h:Rp K H0 d v):TV K Z H0 H H' (arg d) v:=by
 unfold arg;cases q:imm d with
 |true=>exact Rp.off hm (Rp.mono h0 h) q
 |false=>exact h
def JA{d:D}{v:V}(hm:∀b,Z b->Mut (H' b))(h:Rp K H' d v):TV K Z H0 H H' (argT d) v:=by
 unfold argT;cases q:imm d with
 |true=>exact Rp.off hm h q
 |false=>exact h
def Rp.lst_inv {ds:List D}{v:V} (h:Rp K H (.lst ds) v):∃a vs,v=.ref a/\H a=some (.lst vs)/\Rps K H ds vs:=by
 cases h with
 |lst h r=>exact⟨_,_,rfl,h,r⟩
def Rp.tup_inv {ds:List D}{v:V} (h:Rp K H (.tup ds) v):∃a vs,v=.ref a/\H a=some (.tup vs)/\Rps K H ds vs:=by
 cases h with
 |tup h r=>exact⟨_,_,rfl,h,r⟩
def TV.part {s:S}{v:V} (h0:Same H0 H') (hm:∀b,Z b->Mut (H b)) (S1:Same H H') (h:TV K Z H0 H H' s v) :
  (∀ds,s.d=.lst ds->∃a vs,v=.ref a/\H' a=some (.lst vs)/\vs.length=ds.length/\∀(i:Nat) d,ds[i]?=some d->∃u,vs[i]?=some u/\TV K Z H0 H H' (s.sub d) u)/\
  (∀ds,s.d=.tup ds->∃a vs,v=.ref a/\H' a=some (.tup vs)/\vs.length=ds.length/\∀(i:Nat) d,ds[i]?=some d->∃u,vs[i]?=some u/\TV K Z H0 H H' (s.sub d) u):=by
 have hm':∀b,Z b->Mut (H' b):=fun b z=>JI S1 (hm b z);cases s with
 |bor d=>
  have h:=Rp.strip h;refine⟨fun ds e=>?_,fun ds e=>?_⟩<;>rw[show d.strip=_ from e]at h
  ·obtain⟨a,vs,rfl,h,r⟩:=Rp.lst_inv h;exact⟨_,_,rfl,h0 _ _ h,r.len,fun i d e=>let ⟨u,h1,h2⟩:=r.get e;⟨u,h1,argR hm' h0 h2⟩⟩
  ·obtain⟨a,vs,rfl,h,r⟩:=Rp.tup_inv h;exact⟨_,_,rfl,h0 _ _ h,r.len,fun i d e=>let ⟨u,h1,h2⟩:=r.get e;⟨u,h1,argR hm' h0 h2⟩⟩
 |sh d=>
  refine⟨fun ds e=>?_,fun ds e=>?_⟩<;>(have e':d=_:=e;subst e')
  ·obtain⟨a,vs,rfl,h,r⟩:=Rp.lst_inv h;exact⟨_,_,rfl,off_sub _ _ h,r.len,fun i d e=>r.get e⟩
  ·obtain⟨a,vs,rfl,h,r⟩:=Rp.tup_inv h;exact⟨_,_,rfl,off_sub _ _ h,r.len,fun i d e=>r.get e⟩
 |own es=>
  cases es with
  |lst es=>
   refine⟨fun ds e=>?_,fun ds e=>by cases e⟩;cases e
   obtain⟨a,rfl,e0,vs,e,r⟩:=h;exact⟨a,vs,rfl,e,r.len,fun i d e=>let ⟨u,h1,h2⟩:=r.get e;⟨u,h1,Rp.mono (Vm (Same.refl _) fun b _ _ z y=>z (.inl y)) h2⟩⟩
  |lsA x es=>
   refine⟨fun ds e=>?_,fun ds e=>by cases e⟩;cases e
   obtain⟨a,rfl,e0,_,vs,e,r⟩:=h;exact⟨a,vs,rfl,e,r.len,fun i d e=>let ⟨u,h1,h2⟩:=r.get e;⟨u,h1,Rp.mono (Vm (Same.refl _) fun b _ _ z y=>z (.inl y)) h2⟩⟩
  |dK es=>exact⟨(fun ds e=>by cases e),(fun ds e=>by cases e)⟩
  |dT es=>exact⟨(fun ds e=>by cases e),(fun ds e=>by cases e)⟩
  |nsl x cs=>
   refine⟨fun ds e=>?_,fun ds e=>by cases e⟩;cases e
   obtain⟨a,rfl,e0,_,e1,e2,e3⟩:=h;have r:Rps K H' (cs.map fun c=>D.lst c.2) (cs.map fun c=>V.ref c.1):=JZ fun c hc=>let ⟨vs,q1,q2⟩:=e2 c hc;⟨vs,q1,Rps.mono off_sub q2⟩;exact⟨a,_,rfl,e1,r.len,fun i d e=>let ⟨u,h1,h2⟩:=r.get e;⟨u,h1,JA hm' h2⟩⟩
  |nst cs=>
   refine⟨(fun ds e=>by cases e),fun ds e=>?_⟩;cases e
   obtain⟨a,rfl,e0,e1,e2,e3⟩:=h;have r:Rps K H' (cs.map fun c=>D.lst c.2) (cs.map fun c=>V.ref c.1):=JZ fun c hc=>let ⟨vs,q1,q2⟩:=e2 c hc;⟨vs,q1,Rps.mono off_sub q2⟩;exact⟨a,_,rfl,off_sub _ _ e1,r.len,fun i d e=>let ⟨u,h1,h2⟩:=r.get e;⟨u,h1,JA hm' h2⟩⟩
  |ins x C xs cs=>exact⟨(fun ds e=>by cases e),(fun ds e=>by cases e)⟩
 |view es=>
  cases es with
  |lst es=>
   refine⟨fun ds e=>?_,fun ds e=>by cases e⟩;cases e
   obtain⟨a,rfl,vs,e,r⟩:=h;exact⟨a,vs,rfl,e,r.len,fun i d e=>r.get e⟩
  |lsA x es=>
   refine⟨fun ds e=>?_,fun ds e=>by cases e⟩;cases e
   obtain⟨a,rfl,_,vs,e,r⟩:=h;exact⟨a,vs,rfl,e,r.len,fun i d e=>r.get e⟩
  |dK es=>exact⟨(fun ds e=>by cases e),(fun ds e=>by cases e)⟩
  |dT es=>exact⟨(fun ds e=>by cases e),(fun ds e=>by cases e)⟩
  |nsl x cs=>
   refine⟨fun ds e=>?_,fun ds e=>by cases e⟩;cases e
   obtain⟨a,rfl,_,e1,e2,e3⟩:=h;have r:Rps K H' (cs.map fun c=>D.lst c.2) (cs.map fun c=>V.ref c.1):=JZ fun c hc=>let ⟨vs,q1,q2⟩:=e2 c hc;⟨vs,q1,Rps.mono off_sub q2⟩;exact⟨a,_,rfl,e1,r.len,fun i d e=>let ⟨u,h1,h2⟩:=r.get e;⟨u,h1,JA hm' h2⟩⟩
  |nst cs=>
   refine⟨(fun ds e=>by cases e),fun ds e=>?_⟩;cases e
   obtain⟨a,rfl,e1,e2,e3⟩:=h;have r:Rps K H' (cs.map fun c=>D.lst c.2) (cs.map fun c=>V.ref c.1):=JZ fun c hc=>let ⟨vs,q1,q2⟩:=e2 c hc;⟨vs,q1,Rps.mono off_sub q2⟩;exact⟨a,_,rfl,off_sub _ _ e1,r.len,fun i d e=>let ⟨u,h1,h2⟩:=r.get e;⟨u,h1,JA hm' h2⟩⟩
  |ins x C xs cs=>exact⟨(fun ds e=>by cases e),(fun ds e=>by cases e)⟩
 |tmp d=>
  refine⟨fun ds e=>?_,fun ds e=>?_⟩<;>(have e':d=_:=e;subst e')
  ·obtain⟨a,vs,rfl,h,r⟩:=Rp.lst_inv h;exact⟨_,_,rfl,h,r.len,fun i d e=>let ⟨u,h1,h2⟩:=r.get e;⟨u,h1,JA hm' h2⟩⟩
  ·obtain⟨a,vs,rfl,h,r⟩:=Rp.tup_inv h;exact⟨_,_,rfl,h,r.len,fun i d e=>let ⟨u,h1,h2⟩:=r.get e;⟨u,h1,JA hm' h2⟩⟩
def Fr(B:Addr->Prop)(H:Hp)(σ:L2.St)(γ:Γ)(H':Hp)(σ':L2.St)(γ':Γ):Prop:=∀b o,H b=some o->¬zof B γ σ b->H' b=some o/\¬zof B γ' σ' b
def Fr.refl:Fr B H σ γ H σ γ:=fun _ _ h z=>⟨h,z⟩
def Fr.trans {H1 H2:Hp}{σ1 σ2:L2.St}{γ1 γ2:Γ} (a:Fr B H σ γ H1 σ1 γ1) (b:Fr B H1 σ1 γ1 H2 σ2 γ2):Fr B H σ γ H2 σ2 γ2:=fun x o h z=>let ⟨h1,z1⟩:=a x o h z;b x o h1 z1
def Fr.grow (S1:Same H H'):Fr B H σ γ H' σ γ:=fun _ _ h z=>⟨S1 _ _ h,z⟩
def Fr.off {H':Hp}{σ':L2.St}{γ':Γ} (f:Fr B H σ γ H' σ' γ'):Same (off (zof B γ σ) H) (Pu.off (zof B γ' σ') H'):=fun b o h=>by
 obtain⟨h1,h2⟩:=Uq h;obtain⟨h3,h4⟩:=f b o h1 h2;exact VJ h3 h4
def V7{α:Type}{l:List α}{i j:Nat}{x y:α}(h:(l.set i x)[j]?=some y):(j=i/\x=y/\i<l.length)\/(j≠i/\l[j]?=some y):=by
 rw[List.getElem?_set]at h;by_cases e:i=j
 ·subst e;rw[ZK rfl]at h;by_cases e2:i<l.length
  ·rw[ZK e2]at h;exact .inl ⟨rfl,ZL h,e2⟩
  ·rw[ZI e2]at h;cases h
 ·rw[ZI e]at h;exact .inr ⟨fun z=>e z.symm,h⟩
def XB{α:Type}{l:List α}{i:Nat}{x:α}(h:i<l.length):(l.set i x)[i]?=some x:=by rw[W3 h]
def Jh{α:Type}{l:List α}{i j:Nat}{x:α}(h:j≠i):(l.set i x)[j]?=l[j]?:=WB fun z=>h z.symm
def EnvR.drop (E:EnvR K H0 B H σ γ) (i:Nat):EnvR K H0 B H σ (γ.set i none)/\Fr B H σ γ H σ (γ.set i none):=by
 have hz:∀b,zof B (γ.set i none) σ b->zof B γ σ b:=fun b z=>z.imp id fun⟨j,ds,a,h1,h2,h3⟩=>by
  rcases V7 h1 with⟨_,e,_⟩|⟨_,e⟩
  ·cases e
  ·exact⟨j,ds,a,e,h2,h3⟩
 refine⟨⟨E.same,by rw[Wh];exact E.len,E.bm,fun k j a a' ds es b h1 h2=>?_,fun k s h=>?_⟩,fun b o h z=>⟨h,fun y=>z (hz b y)⟩⟩
 ·rcases V7 h1 with⟨_,e,_⟩|⟨_,e1⟩
  ·cases e
  ·rcases V7 h2 with⟨_,e,_⟩|⟨_,e2⟩
   ·cases e
   ·exact E.own k j a a' ds es b e1 e2
 ·rcases V7 h with⟨_,e,_⟩|⟨_,e⟩
  ·cases e
  ·obtain⟨v,h1,h2⟩:=E.slot k s e;refine⟨v,h1,?_⟩;have S1:Same (Pu.off (zof B γ σ) H) (Pu.off (zof B (γ.set i none) σ) H):=Vm (Same.refl _) fun b _ _ z y=>z (hz b y);cases s with
   |bor d=>exact h2
   |sh d=>exact Rp.mono S1 h2
   |own ds=>
    obtain⟨a,e1,e3,e4⟩:=h2;exact⟨a,e1,e3,e4.mono S1 fun _ _ _ q=>q⟩
   |view ds=>exact h2
   |tmp d=>exact h2
def EnvR.put {i:Nat}{s s':S}{v:V} (E:EnvR K H0 B H σ γ) (S1:Same H H') (h:TV K (zof B γ σ) H0 H H' s v) (e:s.slot=some s') (hi:i<γ.length) :
  EnvR K H0 B H' (σ.set i (some v)) (γ.set i (some s'))/\Fr B H σ γ H' (σ.set i (some v)) (γ.set i (some s')):=by
 have hiσ:i<σ.length:=by rw[E.len];exact hi
 have E':=E.grow S1
 have isown:∀ds,s'=.own ds->s=.own ds:=fun ds q=>by
  subst q;cases s with
  |own es=>cases e;rfl
  |bor d=>cases e
  |sh d=>cases e
  |view d=>cases e
  |tmp d=>unfold S.slot at e;cases q:imm d<;>simp[q]at e
 have hown:∀b,zof B (γ.set i (some s')) (σ.set i (some v)) b->zof B γ σ b\/∃ds a,s=.own ds/\v=.ref a/\ds.adr a b:=fun b z=>by
  rcases z with z|⟨j,ds,a,h1,h2,h3⟩
  ·exact .inl (.inl z)
  ·rcases V7 h1 with⟨ej,e1,_⟩|⟨nj,e1⟩
   ·subst ej;rw[XB hiσ]at h2
    have:s'=.own ds:=ZL e1
    exact .inr ⟨ds,a,isown ds this,ZL (ZL h2),h3⟩
   ·rw[Jh nj]at h2;exact .inl (.inr ⟨j,ds,a,e1,h2,h3⟩)
 have fresh:∀ds a b,s=.own ds->v=.ref a->ds.adr a b->H b=none:=fun ds a b es ev hb=>by
  subst es;obtain⟨a',e1,e0,_⟩:=h;rw[ev]at e1;cases e1
  exact e0 b hb
 have hz:∀b o,H b=some o->¬zof B γ σ b->¬zof B (γ.set i (some s')) (σ.set i (some v)) b:=fun b o hb z y=>by
  rcases hown b y with y|⟨ds,a,y1,y2,y3⟩
  ·exact z y
  ·rw[fresh ds a b y1 y2 y3]at hb;cases hb
 have So:Same (off (zof B γ σ) H) (Pu.off (zof B (γ.set i (some s')) (σ.set i (some v))) H'):=Vm S1 hz;refine⟨⟨E'.same,by rw[Wh,Wh];exact E.len,E'.bm,fun k j a a' ds es b h1 h2 h3 h4 h5 h6=>?_,fun k u hk=>?_⟩,fun b o hb z=>⟨S1 b o hb,hz b o hb z⟩⟩
 ·have old:∀(k:Nat) (ds:O) (a b:Addr),γ[k]?=some (some (.own ds))->σ[k]?=some (some (.ref a))->ds.adr a b->∃o,H b=some o:=fun k ds a b e1 e2 e3=>by
   obtain⟨u,q1,a',q2,_,q3⟩:=E.slot k _ e1;rw[e2]at q1;cases q1
   cases q2
   exact XW (q3.mut b e3)
  rcases V7 h1 with⟨ek,e1,_⟩|⟨nk,e1⟩
  ·rcases V7 h2 with⟨ej,e2,_⟩|⟨nj,e2⟩
   ·rw[ek,ej]
   ·subst ek;rw[XB hiσ]at h3;rw[Jh nj]at h4;obtain⟨o,ho⟩:=old j es a' b e2 h4 h6;rw[fresh ds a b (isown ds (ZL e1)) (ZL (ZL h3)) h5]at ho;cases ho
  ·rcases V7 h2 with⟨ej,e2,_⟩|⟨nj,e2⟩
   ·subst ej;rw[XB hiσ]at h4;rw[Jh nk]at h3;obtain⟨o,ho⟩:=old k ds a b e1 h3 h5;rw[fresh es a' b (isown es (ZL e2)) (ZL (ZL h4)) h6]at ho;cases ho
   ·rw[Jh nk]at h3;rw[Jh nj]at h4;exact E.own k j a a' ds es b e1 e2 h3 h4 h5 h6
 ·rcases V7 hk with⟨ek,e1,_⟩|⟨nk,e1⟩
  ·subst ek
   have:u=s':=(ZL e1).symm
   subst this;refine⟨v,XB hiσ,?_⟩;cases s with
   |own ds=>
    cases e
    obtain⟨a,rfl,e0,r⟩:=h;refine⟨a,rfl,fun b hb=>E.same.free (e0 b hb),r.mono (Vm (Same.refl _) fun b o _ z y=>?_) fun _ _ _ q=>q⟩;rcases hown b y with y|⟨_,_,y1,y,y2⟩
    ·exact z (.inl y)
    ·cases y;cases y1;exact z (.inr y2)
   |sh d=>
    cases e
    refine Rp.mono (Vm (Same.refl _) fun b o _ z y=>?_) h;rcases hown b y with y|⟨_,_,y,_⟩
    ·exact z y
    ·cases y
   |bor d=>cases e;exact h
   |view d=>cases e
   |tmp d=>
    unfold S.slot at e;cases q:imm d with
    |false=>simp[q]at e
    |true=>
     simp[q]at e;subst e;refine Rp.off (fun b y=>?_) h q;rcases hown b y with y|⟨_,_,y,_⟩
     ·exact JI S1 (E.zm b y)
     ·cases y
  ·obtain⟨w,q1,q2⟩:=E.slot k u e1;refine⟨w,by rw[Jh nk];exact q1,?_⟩;cases u with
   |bor d=>exact q2
   |sh d=>exact Rp.mono So q2
   |own ds=>
    obtain⟨a,e1,e3,e4⟩:=q2;exact⟨a,e1,e3,e4.mono So fun b _ x=>S1 b x⟩
   |view ds=>exact q2
   |tmp d=>exact q2
def frz(i:Nat)(γ:Γ):Γ:=match γ[i]? with
 |some (some (.own o))=>γ.set i (some (.sh o.d))
 |_=>γ
def EnvR.frz (E:EnvR K H0 B H σ γ) (hB:∀b,B b->∃o,H0 b=some o) (i:Nat):EnvR K H0 B H σ (frz i γ)/\Fr B H σ γ H σ (Pu.frz i γ):=by
 unfold Pu.frz;split
 ·rename_i ds hi;have hlt:i<γ.length:=(ZW.mp hi).1
  have hz:∀b,zof B (γ.set i (some (.sh ds.d))) σ b->zof B γ σ b:=fun b z=>z.imp id fun⟨j,es,a,h1,h2,h3⟩=>by
   rcases V7 h1 with⟨_,e,_⟩|⟨_,e⟩
   ·cases e
   ·exact⟨j,es,a,e,h2,h3⟩
  have S1:Same (Pu.off (zof B γ σ) H) (Pu.off (zof B (γ.set i (some (.sh ds.d))) σ) H):=Vm (Same.refl _) fun b _ _ z y=>z (hz b y);refine⟨⟨E.same,by rw[Wh];exact E.len,E.bm,fun k j a a' es es' b h1 h2=>?_,fun k s h=>?_⟩,fun b o h z=>⟨h,fun y=>z (hz b y)⟩⟩
  ·rcases V7 h1 with⟨_,e,_⟩|⟨_,e1⟩
   ·cases e
   ·rcases V7 h2 with⟨_,e,_⟩|⟨_,e2⟩
    ·cases e
    ·exact E.own k j a a' es es' b e1 e2
  ·rcases V7 h with⟨ek,e,_⟩|⟨nk,e⟩
   ·subst ek
    have:=ZL e
    subst this;obtain⟨v,h1,a,rfl,h3,h4⟩:=E.slot k _ hi;refine⟨_,h1,h4.rpIn S1 fun b hb x h2=>VJ h2 fun z=>?_⟩;rcases z with z|⟨j,es,a',e1,e2,e3⟩
    ·obtain⟨o,ho⟩:=hB b z;rw[h3 b hb]at ho;cases ho
    ·rcases V7 e1 with⟨_,q,_⟩|⟨nj,q⟩
     ·cases q
     ·exact nj (E.own j k a' a es ds b q hi e2 h1 e3 hb)
   ·obtain⟨v,h1,h2⟩:=E.slot k s e;refine⟨v,h1,?_⟩;cases s with
    |bor d=>exact h2
    |sh d=>exact Rp.mono S1 h2
    |own ds=>
     obtain⟨a,e1,e3,e4⟩:=h2;exact⟨a,e1,e3,e4.mono S1 fun _ _ _ q=>q⟩
    |view ds=>exact h2
    |tmp d=>exact h2
 ·exact⟨E,Fr.refl⟩
def EnvR.change {i:Nat}{a:Addr}{o o':O} (E:EnvR K H0 B H σ γ) (hi:γ[i]?=some (some (.own o))) (ha:σ[i]?=some (some (.ref a)))
  (hH:∀b x,H b=some x->¬o.adr a b->H' b=some x) (hm:∀b,o.adr a b->Mut (H' b)) (hadr:∀b,o'.adr a b->o.adr a b\/H b=none) (r:OR K (Pu.off (zof B (γ.set i (some (.own o'))) σ) H') H' a o') :
  EnvR K H0 B H' σ (γ.set i (some (.own o')))/\Fr B H σ γ H' σ (γ.set i (some (.own o'))):=by
 have hlt:i<γ.length:=(ZW.mp hi).1;obtain⟨v,h1,a',rfl,h3,h4⟩:=E.slot i _ hi;rw[ha]at h1;cases h1
 have za:∀b,o.adr a b->zof B γ σ b:=fun b hb=>.inr ⟨i,o,a,hi,ha,hb⟩
 have hz:∀b x,H b=some x->zof B (γ.set i (some (.own o'))) σ b->zof B γ σ b:=fun b x hx z=>by
  rcases z with z|⟨j,fs,a',e1,e2,e3⟩
  ·exact .inl z
  ·rcases V7 e1 with⟨ej,q,_⟩|⟨_,e⟩
   ·subst ej;cases q
    rw[ha]at e2;cases e2
    rcases hadr b e3 with k|k
    ·exact za b k
    ·rw[k]at hx;cases hx
   ·exact .inr ⟨j,fs,a',e,e2,e3⟩
 have S1:Same (Pu.off (zof B γ σ) H) (Pu.off (zof B (γ.set i (some (.own o'))) σ) H'):=fun b x h=>by
  obtain⟨q1,q2⟩:=Uq h;exact VJ (hH b x q1 fun k=>q2 (za b k)) fun z=>q2 (hz b x q1 z)
 have old:∀(k:Nat) (ds:O) (a b:Addr),γ[k]?=some (some (.own ds))->σ[k]?=some (some (.ref a))->ds.adr a b->∃o,H b=some o:=fun k ds a b e1 e2 e3=>by
  obtain⟨u,q1,a',q2,_,q3⟩:=E.slot k _ e1;rw[e2]at q1;cases q1
  cases q2
  exact XW (q3.mut b e3)
 refine⟨⟨fun b x h=>?_,by rw[Wh];exact E.len,fun b hb=>?_,fun k j x x' fs fs' b e1 e2 e3 e4 e5 e6=>?_,fun k s h=>?_⟩,fun b x h z=>⟨?_,fun y=>z (hz b x h y)⟩⟩
 ·exact hH b x (E.same b x h) fun k=>by rw[h3 b k]at h;cases h
 ·by_cases k:o.adr a b
  ·exact hm b k
  ·have:=E.bm b hb
   obtain⟨x,hx⟩:=XW this;rw[hH b x hx k,←hx];exact this
 ·rcases V7 e1 with⟨ek,q1,_⟩|⟨nk,q1⟩
  ·rcases V7 e2 with⟨ej,_,_⟩|⟨nj,q2⟩
   ·rw[ek,ej]
   ·subst ek;cases q1
    rw[ha]at e3;cases e3
    rcases hadr b e5 with w|w
    ·exact E.own k j _ _ _ _ b hi q2 ha e4 w e6
    ·obtain⟨u,hu⟩:=old j fs' x' b q2 e4 e6;rw[w]at hu;cases hu
  ·rcases V7 e2 with⟨ej,q2,_⟩|⟨nj,q2⟩
   ·subst ej;cases q2
    rw[ha]at e4;cases e4
    rcases hadr b e6 with w|w
    ·exact E.own k j _ _ _ _ b q1 hi e3 ha e5 w
    ·obtain⟨u,hu⟩:=old k fs x b q1 e3 e5;rw[w]at hu;cases hu
   ·exact E.own k j x x' fs fs' b q1 q2 e3 e4 e5 e6
 ·rcases V7 h with⟨ek,e,_⟩|⟨nk,e⟩
  ·subst ek
   have:=ZL e
   subst this;exact⟨_,ha,a,rfl,fun b hb=>(hadr b hb).elim (h3 b) fun w=>E.same.free w,r⟩
  ·obtain⟨v,q1,q2⟩:=E.slot k s e;refine⟨v,q1,?_⟩;cases s with
   |bor d=>exact q2
   |sh d=>exact Rp.mono S1 q2
   |own fs=>
    obtain⟨x,rfl,e3,e4⟩:=q2;exact⟨x,rfl,e3,e4.mono S1 fun b hb y e2=>hH b y e2 fun w=>nk (E.own k i x a fs o b e hi q1 ha hb w)⟩
   |view ds=>exact q2
   |tmp d=>exact q2
 ·exact hH b x h fun k=>z (za b k)
def EnvR.mutate {i:Nat}{a:Addr}{ds es:O}{us:HO} (E:EnvR K H0 B H σ γ) (hi:γ[i]?=some (some (.own ds))) (ha:σ[i]?=some (some (.ref a))) (hu:Mut (some us)) (r:∀F H':Hp,Same (Pu.off (zof B γ σ) H) F->H' a=some us->OR K F H' a es)
  (k1:ds.adr a=fun b=>b=a:=by rfl) (k2:es.adr a=fun b=>b=a:=by rfl) :
  EnvR K H0 B (upd H a us) σ (γ.set i (some (.own es)))/\Fr B H σ γ (upd H a us) σ (γ.set i (some (.own es))):=by
 refine E.change (o:=ds) (o':=es) hi ha (fun b x h n=>by rw[Vl (fun z=>n (by rw[k1];exact z))];exact h) (fun b h=>by rw[k1]at h;rw[show b=a from h,V0];exact hu) (fun b h=>.inl (by rw[k1];rw[k2]at h;exact h)) (r _ _ ?_ V0)
 intro b x h;obtain⟨q1,q2⟩:=Uq h;have nb:b≠a:=fun z=>q2 (.inr ⟨i,ds,a,hi,ha,by rw[k1];exact z⟩);refine VJ (by rw[Vl nb];exact q1) fun z=>q2 ?_;rcases z with z|⟨j,fs,a',e1,e2,e3⟩
 ·exact .inl z
 ·rcases V7 e1 with⟨ej,q,_⟩|⟨_,e⟩
  ·subst ej;cases q
   rw[ha]at e2;cases e2
   rw[k2]at e3;exact absurd e3 nb
  ·exact .inr ⟨j,fs,a',e,e2,e3⟩
end
end Pu
namespace Pu
open PySem PySem.Spec PyProof.Rows L2 Own
abbrev XR:=Str->Prop
abbrev PTE:=Γ->(S->Prop)->XR->Prop
abbrev PTT:=Γ->(Bool->Prop)->XR->Prop
abbrev PTA:=Γ->(List S->Prop)->XR->Prop
abbrev PTO:=Γ->(Option Int->Prop)->XR->Prop
structure PEnds where
 nx:Γ->Prop
 rt:S->Prop
 ex:Γ->Str->Prop
 bk:Γ->Prop:=fun _=>False
 ct:Γ->Prop:=fun _=>False
 rv:Γ->D->Prop:=fun _ _=>False
abbrev PTS:=PEnds->Γ->Prop
abbrev PTG:=S->Γ->(Γ->Prop)->Prop
abbrev PTGs:=List S->Γ->(Γ->Prop)->Prop
inductive TVs (K:Za) (Z:Addr->Prop) (H0 H H':Hp):List S->List V->Prop
 |nil:TVs K Z H0 H H' [] []
 |cons {s:S} {v:V} {ss:List S} {vs:List V}:TV K Z H0 H H' s v->TVs K Z H0 H H' ss vs->TVs K Z H0 H H' (s::ss) (v::vs)
section
variable (K:Za) (mg:Str->Option Value) (E:L2.St->XK)
def SndE(t:TE)(p:PTE):Prop:=∀(H0:Hp) (B:Addr->Prop) (H:Hp) (σ:L2.St) (γ:Γ) (R:S->Prop) (X:XR) (Q:VK),EnvR K H0 B H σ γ->p γ R X->
 (∀s v H',R s->Same H H'->TV K (zof B γ σ) H0 H H' s v->Q v H')->(∀c H',X c->Same H H'->E σ (.ref (ExcR.Vt mg c)) none H')->t σ H Q
def SndT(t:TT)(p:PTT):Prop:=∀(H0:Hp) (B:Addr->Prop) (H:Hp) (σ:L2.St) (γ:Γ) (R:Bool->Prop) (X:XR) (Q:Bool->Hp->Prop),EnvR K H0 B H σ γ->p γ R X->
 (∀b H',R b->Same H H'->Q b H')->(∀c H',X c->Same H H'->E σ (.ref (ExcR.Vt mg c)) none H')->t σ H Q
def SndA(t:TA)(p:PTA):Prop:=∀(H0:Hp) (B:Addr->Prop) (H:Hp) (σ:L2.St) (γ:Γ) (R:List S->Prop) (X:XR) (Q:List V->Hp->Prop),EnvR K H0 B H σ γ->p γ R X->
 (∀ss vs H',R ss->Same H H'->TVs K (zof B γ σ) H0 H H' ss vs->Q vs H')->(∀c H',X c->Same H H'->E σ (.ref (ExcR.Vt mg c)) none H')->t σ H Q
def SndO(t:TO)(p:PTO):Prop:=∀(H0:Hp) (B:Addr->Prop) (H:Hp) (σ:L2.St) (γ:Γ) (R:Option Int->Prop) (X:XR) (Q:Option Int->Hp->Prop),EnvR K H0 B H σ γ->p γ R X->
 (∀o H',R o->Same H H'->Q o H')->(∀c H',X c->Same H H'->E σ (.ref (ExcR.Vt mg c)) none H')->t σ H Q
structure EndR (H0:Hp) (B:Addr->Prop) (H:Hp) (σ:L2.St) (γ:Γ) (R:PEnds) (D:Ends):Prop where
 nx:∀σ' γ' H',R.nx γ'->EnvR K H0 B H' σ' γ'->Fr B H σ γ H' σ' γ'->D.nx σ' H'
 rt:∀s v H',R.rt s->Same H0 H'->TV K B H0 H0 H' s v->D.rt v H'
 ex:∀σ' γ' c H',R.ex γ' c->EnvR K H0 B H' σ' γ'->Fr B H σ γ H' σ' γ'->E σ' (.ref (ExcR.Vt mg c)) none H'
 bk:∀σ' γ' H',R.bk γ'->EnvR K H0 B H' σ' γ'->Fr B H σ γ H' σ' γ'->D.bk σ' H'
 ct:∀σ' γ' H',R.ct γ'->EnvR K H0 B H' σ' γ'->Fr B H σ γ H' σ' γ'->D.ct σ' H'
 rv:∀σ' γ' d v H',R.rv γ' d->EnvR K H0 B H' σ' γ'->Fr B H σ γ H' σ' γ'->Rp K (off (zof B γ' σ') H') d v->D.rt v H'
def SndS(t:TS)(p:PTS):Prop:=∀(H0:Hp) (B:Addr->Prop) (H:Hp) (σ:L2.St) (γ:Γ) (R:PEnds) (D:Ends),(∀b,B b->∃o,H0 b=some o)->EnvR K H0 B H σ γ->p R γ->EndR K mg E H0 B H σ γ R D->t D σ H
end
section
variable {K:Za}{mg:Str->Option Value}{E:L2.St->XK}{H0 H H1 H':Hp}{B Z Z':Addr->Prop}{σ:L2.St}{γ:Γ}
def TVs.weakG {H1 H2:Hp}:∀{ss:List S}{vs:List V},Same H H1->TVs K Z H0 H1 H2 ss vs->TVs K Z H0 H H2 ss vs
 |_,_,_,.nil=>.nil
 |_,_,S1,.cons h r=>.cons (TV.weak S1 (fun _ z=>z) h) (TVs.weakG S1 r)
def TVs.rps (h0:Same H0 H'):∀{ss:List S}{vs:List V},TVs K Z H0 H H' ss vs->Rps K H' (ss.map S.d) vs
 |_,_,.nil=>.nil
 |_,_,.cons h r=>.cons (h.rp h0) (TVs.rps h0 r)
def TVs.shd {ds:List D} (h0:Same H0 H') (hm:∀b,Z b->Mut (H b)) (S1:Same H H'):∀{ss:List S}{vs:List V}{ds:List D},TVs K Z H0 H H' ss vs->ss.map S.shd=ds.map some->Rps K (off Z H') ds vs
 |_,_,[],.nil,_=>.nil
 |_,_,_::_,.nil,e=>by cases e
 |_,_,[],.cons _ _,e=>by cases e
 |_,_,d::ds,.cons h r,e=>by
  rw[ZZ,ZZ,List.cons.injEq]at e;exact .cons (h.shd h0 hm S1 e.1) (TVs.shd (ds:=ds) h0 hm S1 r e.2)
def Rp.int_inv {i:Int}{v:V} (h:Rp K H (.int i) v):v=.int i:=by cases h;rfl
def Rp.bl_inv {b:Bool}{v:V} (h:Rp K H (.bl b) v):v=.bl b:=by cases h;rfl
def Rp.str_inv {x:Str}{v:V} (h:Rp K H (.str x) v):v=.str x:=by cases h;rfl
def Rp.non_inv {v:V} (h:Rp K H .non v):v=.non:=by cases h;rfl
def Rp.ty_inv {n:String}{v:V} (h:Rp K H (.ty n) v):v=.ty n:=by cases h;rfl
def pVar(i:Nat):PTE:=fun γ R _=>match γ[i]? with
 |some (some (.own ds))=>R (.view ds)
 |some (some s)=>R s
 |_=>False
def QY(i:Nat):SndE K mg E (tVar i) (pVar i):=by
 intro H0 B H σ γ R X Q env h q _;unfold pVar at h;split at h
 ·rename_i ds e;obtain⟨v,h1,a,rfl,h3,h4⟩:=env.slot i _ e;exact⟨_,h1,q _ _ H h (Same.refl _) ⟨a,rfl,h4⟩⟩
 ·rename_i s ns e;obtain⟨v,h1,h2⟩:=env.slot i _ e;refine⟨v,h1,q _ _ H h (Same.refl _) ?_⟩;cases s with
  |bor d=>exact h2
  |sh d=>exact h2
  |own ds=>exact absurd rfl (ns ds)
  |view ds=>exact h2.elim
  |tmp d=>exact h2.elim
 ·exact h.elim
def pC(d:D):PTE:=fun _ R _=>R (.sh d)
def se_c{d:D}{v:V}(h:∀H,Rp K H d v):SndE K mg E (tC v) (pC d):=by
 intro H0 B H σ γ R X Q env p q _;exact q _ _ H p (Same.refl _) (h _)
def QZ{i:Int}:SndE K mg E (tC (.int i)) (pC (.int i)):=se_c fun _=>.int i
def Jg{b:Bool}:SndE K mg E (tC (.bl b)) (pC (.bl b)):=se_c fun _=>.bl b
def Xp{n:String}:SndE K mg E (tC (.ty n)) (pC (.ty n)):=se_c fun _=>.ty n
def p2(a b:PTE)(f:S->S->(S->Prop)->Prop):PTE:=fun γ R X=>a γ (fun x=>b γ (fun y=>f x y R) X) X
def se_2{r:R2}{ta tb:TE}{a b:PTE}{f:S->S->(S->Prop)->Prop}(ha:SndE K mg E ta a)(hb:SndE K mg E tb b)(hr:∀(H0 H H2:Hp) (Z:Addr->Prop) (x y:S) (v u:V) (R:S->Prop) (Q:VK),Same H0 H2->Same H H2->(∀b,Z b->Mut (H b))->TV K Z H0 H H2 x v->TV K Z H0 H H2 y u->f x y R->(∀s z H',R s->Same H2 H'->TV K Z H0 H H' s z->Q z H')->r v u H2 Q) :
  SndE K mg E (tOp r ta tb) (p2 a b f):=by
 intro H0 B H σ γ R X Q env p q qx;refine ha H0 B H σ γ _ X _ env p (fun x v H1 h1 S1 t1=>?_) qx;have env1:=env.grow S1;refine hb H0 B H1 σ γ _ X _ env1 h1 (fun y u H2 h2 S2 t2=>?_) fun c H' hc S'=>qx c H' hc (S1.trans S');exact hr H0 H H2 _ x y v u R Q (env1.same.trans S2) (S1.trans S2) env.zm (t1.grow S2) (TV.weak S1 (fun _ z=>z) t2) h2 fun s z H' hs S3 t3=>q s z H' hs ((S1.trans S2).trans S3) t3
def fI0(g:Int->Int->D):S->S->(S->Prop)->Prop:=fun x y R=>match x.d,y.d with
 | .int i,.int j=>R (.sh (g i j))
 |_,_=>False
def fI(C:Int->Int->Prop)(g:Int->Int->D):S->S->(S->Prop)->Prop:=fun x y R=>match x.d,y.d with
 | .int i,.int j=>C i j/\R (.sh (g i j))
 |_,_=>False
def XF{g:Int->Int->V}{g':Int->Int->D}{ta tb:TE}{a b:PTE}(hg:∀H i j,Rp K H (g' i j) (g i j))(ha:SndE K mg E ta a)(hb:SndE K mg E tb b):SndE K mg E (tOp (rI0 g) ta tb) (p2 a b (fI0 g')):=by
 refine se_2 ha hb fun H0 H H2 Z x y v u R Q s0 s1 hm tx ty h q=>?_;unfold fI0 at h;have rx:=tx.rp s0;have ry:=ty.rp s0;split at h
 ·rename_i i j e1 e2;rw[e1]at rx;rw[e2]at ry;exact⟨i,j,rx.int_inv,ry.int_inv,q _ _ H2 h (Same.refl _) (hg _ i j)⟩
 ·exact h.elim
def se_I{C:Int->Int->Prop}{g:Int->Int->V}{g':Int->Int->D}{ta tb:TE}{a b:PTE}(hg:∀H i j,Rp K H (g' i j) (g i j))(ha:SndE K mg E ta a)(hb:SndE K mg E tb b):SndE K mg E (tOp (rI C g) ta tb) (p2 a b (fI C g')):=by
 refine se_2 ha hb fun H0 H H2 Z x y v u R Q s0 s1 hm tx ty h q=>?_;unfold fI at h;have rx:=tx.rp s0;have ry:=ty.rp s0;split at h
 ·rename_i i j e1 e2;rw[e1]at rx;rw[e2]at ry;exact⟨i,j,rx.int_inv,ry.int_inv,h.1,q _ _ H2 h.2 (Same.refl _) (hg _ i j)⟩
 ·exact h.elim
section
variable {ta tb tc:TE}{a b c:PTE}
def V4(ha:SndE K mg E ta a)(hb:SndE K mg E tb b):SndE K mg E (tOp (rI0 fun i j=>.int (i+j)) ta tb) (p2 a b (fI0 fun i j=>.int (i+j))):=XF (fun _ _ _=>.int _) ha hb
def JC(ha:SndE K mg E ta a)(hb:SndE K mg E tb b):SndE K mg E (tOp (rI0 fun i j=>.int (i-j)) ta tb) (p2 a b (fI0 fun i j=>.int (i-j))):=XF (fun _ _ _=>.int _) ha hb
def Uj(ha:SndE K mg E ta a)(hb:SndE K mg E tb b):SndE K mg E (tOp (rI CMul fun i j=>.int (i*j)) ta tb) (p2 a b (fI CMul fun i j=>.int (i*j))):=se_I (fun _ _ _=>.int _) ha hb
def Jv(ha:SndE K mg E ta a)(hb:SndE K mg E tb b):SndE K mg E (tOp (rI CDiv fun i j=>.int (i / j)) ta tb) (p2 a b (fI CDiv fun i j=>.int (i / j))):=se_I (fun _ _ _=>.int _) ha hb
def VC(ha:SndE K mg E ta a)(hb:SndE K mg E tb b):SndE K mg E (tOp (rI (fun _ j=>0<j) fun i j=>.int (i % j)) ta tb) (p2 a b (fI (fun _ j=>0<j) fun i j=>.int (i % j))):=se_I (fun _ _ _=>.int _) ha hb
def U9(ha:SndE K mg E ta a)(hb:SndE K mg E tb b):SndE K mg E (tOp (rI0 fun i j=>.bl (decide (i<j))) ta tb) (p2 a b (fI0 fun i j=>.bl (decide (i<j)))):=XF (fun _ _ _=>.bl _) ha hb
def U8(ha:SndE K mg E ta a)(hb:SndE K mg E tb b):SndE K mg E (tOp (rI0 fun i j=>.bl (decide (j<i))) ta tb) (p2 a b (fI0 fun i j=>.bl (decide (j<i)))):=XF (fun _ _ _=>.bl _) ha hb
def fEq(neg:Bool):S->S->(S->Prop)->Prop:=fun x y R=>match x.d,y.d with
 | .int i,.int j=>R (.sh (.bl (if neg then !decide (i=j)else decide (i=j))))
 | .str i,.str j=>R (.sh (.bl (if neg then !decide (i=j)else decide (i=j))))
 | .bl i,.bl j=>R (.sh (.bl (if neg then !decide (i=j)else decide (i=j))))
 |_,_=>False
def UJ{α β:Type}[DecidableEq α][DecidableEq β]{f:α->β}(hf:∀a b,f a=f b->a=b)(a b:α):decide (f a=f b)=decide (a=b):=by
 by_cases e:a=b
 ·rw[ZJ e,ZJ (Y1 f e)]
 ·rw[ZR e,ZR fun z=>e (hf a b z)]
def fIx:S->S->(S->Prop)->Prop:=fun x y R=>match x.d,y.d with
 | .lst ds,.int k=>∃d,atI ds k=some d/\R (x.sub d)
 | .tup ds,.int k=>∃d,atI ds k=some d/\R (x.sub d)
 | .scr ns,.int k=>∃i,atI ns k=some i/\R (.sh (.int i))
 |_,_=>False
def F3{ds:List D}{vs:List V}{k:Int}{d:D}{P:D->V->Prop}(hl:vs.length=ds.length)(h:∀(i:Nat) d,ds[i]?=some d->∃u,vs[i]?=some u/\P d u)(e:atI ds k=some d):∃u,atI vs k=some u/\P d u:=by
 unfold atI at e ⊢;rw[hl];cases q:ixN ds.length k with
 |none=>rw[q]at e;cases e
 |some j=>
  rw[q]at e;exact h j d e
def Vh(ha:SndE K mg E ta a)(hb:SndE K mg E tb b):SndE K mg E (tOp (fun x y H Q=>rIxL K x y H Q\/rIxT K x y H Q) ta tb) (p2 a b fIx):=by
 refine se_2 ha hb fun H0 H H2 Z x y v u R Q s0 s1 hm tx ty h q=>?_;unfold fIx at h;have ry:=ty.rp s0;obtain⟨pl,pt⟩:=tx.part s0 hm s1;split at h
 ·rename_i ds k e1 e2;rw[e2]at ry;obtain⟨d,hd,hR⟩:=h;obtain⟨l,vs,rfl,hl,hn,hp⟩:=pl ds e1;obtain⟨z,hz,tz⟩:=F3 hn hp hd;exact .inl ⟨l,vs,k,z,rfl,ry.int_inv,SqL.of hl,hz,q _ _ H2 hR (Same.refl _) tz⟩
 ·rename_i ds k e1 e2;rw[e2]at ry;obtain⟨d,hd,hR⟩:=h;obtain⟨l,vs,rfl,hl,hn,hp⟩:=pt ds e1;obtain⟨z,hz,tz⟩:=F3 hn hp hd;exact .inr ⟨l,vs,k,z,rfl,ry.int_inv,SqT.of hl,hz,q _ _ H2 hR (Same.refl _) tz⟩
 ·rename_i ns k e1 e2;rw[e2]at ry;obtain⟨i,hi,hR⟩:=h;have rx:=tx.rp s0;rw[e1]at rx;cases rx with
  |scr hs=>exact .inl ⟨_,_,k,.int i,rfl,ry.int_inv,hs,JT hi,q _ _ H2 hR (Same.refl _) (.int i)⟩
 ·exact h.elim
def A4(a b:PTE):PTE:=fun γ R X=>a γ (fun x=>match x.d with | .bl c=>if c=true then b γ R X else R (.sh (.bl false))|_=>False) X
def pOrV(a b:PTE):PTE:=fun γ R X=>a γ (fun x=>match x.d with | .bl c=>if c=true then R (.sh (.bl true))else b γ R X|_=>False) X
def CC(a:PTE):PTE:=fun γ R X=>a γ (fun x=>match x.d with | .bl c=>R (.sh (.bl (!c)))|_=>False) X
def XQ(ha:SndE K mg E ta a)(hb:SndE K mg E tb b):SndE K mg E (Bx ta tb) (A4 a b):=by
 intro H0 B H σ γ R X Q env p q qx;refine ha H0 B H σ γ _ X _ env p (fun x v H1 h1 S1 t1=>?_) qx;have env1:=env.grow S1;have rx:=t1.rp env1.same;split at h1
 ·rename_i c e1;rw[e1]at rx;refine⟨c,rx.bl_inv,?_⟩;split at h1
  ·rename_i hc;rw[ZK hc];exact hb H0 B H1 σ γ _ X _ env1 h1 (fun y u H2 h2 S2 t2=>q y u H2 h2 (S1.trans S2) (TV.weak S1 (fun _ z=>z) t2)) fun c H' hc S'=>qx c H' hc (S1.trans S')
  ·rename_i hc;rw[ZI hc];exact q _ _ H1 h1 S1 (.bl _)
 ·exact h1.elim
def FU(ha:SndE K mg E ta a)(hb:SndE K mg E tb b):SndE K mg E (tOrV ta tb) (pOrV a b):=by
 intro H0 B H σ γ R X Q env p q qx;refine ha H0 B H σ γ _ X _ env p (fun x v H1 h1 S1 t1=>?_) qx;have env1:=env.grow S1;have rx:=t1.rp env1.same;split at h1
 ·rename_i c e1;rw[e1]at rx;refine⟨c,rx.bl_inv,?_⟩;split at h1
  ·rename_i hc;rw[ZK hc];exact q _ _ H1 h1 S1 (.bl _)
  ·rename_i hc;rw[ZI hc];exact hb H0 B H1 σ γ _ X _ env1 h1 (fun y u H2 h2 S2 t2=>q y u H2 h2 (S1.trans S2) (TV.weak S1 (fun _ z=>z) t2)) fun c H' hc S'=>qx c H' hc (S1.trans S')
 ·exact h1.elim
def Cn(ha:SndE K mg E ta a):SndE K mg E (Tj ta) (CC a):=by
 intro H0 B H σ γ R X Q env p q qx;refine ha H0 B H σ γ _ X _ env p (fun x v H1 h1 S1 t1=>?_) qx;have rx:=t1.rp (env.grow S1).same;split at h1
 ·rename_i c e1;rw[e1]at rx;exact⟨c,rx.bl_inv,q _ _ H1 h1 S1 (.bl _)⟩
 ·exact h1.elim
def pNeg(a:PTE):PTE:=fun γ R X=>a γ (fun x=>match x.d with | .int i=>R (.sh (.int (-i)))|_=>False) X
def KN(ha:SndE K mg E ta a):SndE K mg E (tUn (rU fun i=>.int (-i)) ta) (pNeg a):=by
 intro H0 B H σ γ R X Q env p q qx;refine ha H0 B H σ γ _ X _ env p (fun x v H1 h1 S1 t1=>?_) qx;have rx:=t1.rp (env.grow S1).same;split at h1
 ·rename_i c e1;rw[e1]at rx;exact⟨c,rx.int_inv,q _ _ H1 h1 S1 (.int _)⟩
 ·exact h1.elim
def Fd(a:PTE):PTT:=fun γ R X=>a γ (fun x=>match x.d with | .bl c=>R c|_=>False) X
def Vn(ha:SndE K mg E ta a):SndT K mg E (Kb ta) (Fd a):=by
 intro H0 B H σ γ R X Q env p q qx;refine ha H0 B H σ γ _ X _ env p (fun x v H1 h1 S1 t1=>?_) qx;have rx:=t1.rp (env.grow S1).same;split at h1
 ·rename_i c e1;rw[e1]at rx;exact⟨c,rx.bl_inv,q _ H1 h1 S1⟩
 ·exact h1.elim
def st_b(ha:SndE K mg E ta a):SndT K mg E (tB ta) (Fd a):=Vn ha
variable {sa sb:TT}{pa pb:PTT}
def pAnd(a b:PTT):PTT:=fun γ R X=>a γ (fun c=>if c=true then b γ R X else R false) X
def pOr(a b:PTT):PTT:=fun γ R X=>a γ (fun c=>if c=true then R true else b γ R X) X
def pNot(a:PTT):PTT:=fun γ R X=>a γ (fun c=>R (!c)) X
def JH(ha:SndT K mg E sa pa)(hb:SndT K mg E sb pb):SndT K mg E (tAnd sa sb) (pAnd pa pb):=by
 intro H0 B H σ γ R X Q env p q qx;refine ha H0 B H σ γ _ X _ env p (fun c H1 h1 S1=>?_) qx;split at h1
 ·rename_i hc;rw[ZK hc];exact hb H0 B H1 σ γ _ X _ (env.grow S1) h1 (fun y H2 h2 S2=>q y H2 h2 (S1.trans S2)) fun c H' hc S'=>qx c H' hc (S1.trans S')
 ·rename_i hc;rw[ZI hc];exact q _ H1 h1 S1
def Uu(ha:SndT K mg E sa pa)(hb:SndT K mg E sb pb):SndT K mg E (tOr sa sb) (pOr pa pb):=by
 intro H0 B H σ γ R X Q env p q qx;refine ha H0 B H σ γ _ X _ env p (fun c H1 h1 S1=>?_) qx;split at h1
 ·rename_i hc;rw[ZK hc];exact q _ H1 h1 S1
 ·rename_i hc;rw[ZI hc];exact hb H0 B H1 σ γ _ X _ (env.grow S1) h1 (fun y H2 h2 S2=>q y H2 h2 (S1.trans S2)) fun c H' hc S'=>qx c H' hc (S1.trans S')
def JN(ha:SndT K mg E sa pa):SndT K mg E (tNot sa) (pNot pa):=by
 intro H0 B H σ γ R X Q env p q qx;exact ha H0 B H σ γ _ X _ env p (fun c H1 h1 S1=>q _ H1 h1 S1) qx
end
def pNil:PTA:=fun _ R _=>R []
def Ul(a:PTE)(r:PTA):PTA:=fun γ R X=>a γ (fun s=>r γ (fun ss=>R (s::ss)) X) X
def VS:SndA K mg E tNil pNil:=by
 intro H0 B H σ γ R X Q env p q _;exact q _ _ H p (Same.refl _) .nil
def V8{te:TE}{ta:TA}{a:PTE}{r:PTA}(ha:SndE K mg E te a)(hr:SndA K mg E ta r):SndA K mg E (VR te ta) (Ul a r):=by
 intro H0 B H σ γ R X Q env p q qx;refine ha H0 B H σ γ _ X _ env p (fun s v H1 h1 S1 t1=>?_) qx;refine hr H0 B H1 σ γ _ X _ (env.grow S1) h1 (fun ss vs H2 h2 S2 t2=>?_) fun c H' hc S'=>qx c H' hc (S1.trans S');exact q _ _ H2 h2 (S1.trans S2) (.cons (t1.grow S2) (TVs.weakG S1 t2))
def shds:List S->Option (List D)
 |[]=>some []
 |s::r=>match s.shd,shds r with
  |some d,some ds=>some (d::ds)
  |_,_=>none
def P0:∀{ss:List S}{ds:List D},shds ss=some ds->ss.map S.shd=ds.map some
 |[],ds,h=>by cases h;rfl
 |s::r,ds,h=>by
  unfold shds at h;split at h
  ·rename_i d es e1 e2;cases h
   rw[ZZ,ZZ,e1,P0 e2]
  ·cases h
def pTup(r:PTA):PTE:=fun γ R X=>r γ (fun ss=>match shds ss with|some ds=>ds.length<=1000/\R (.sh (.tup ds))|none=>False) X
def pLst(r:PTA):PTE:=fun γ R X=>r γ (fun ss=>match shds ss with|some ds=>ds.length<=1000/\R (.own ds)|none=>False) X
def Ku{n:Nat}(h:n<=1000):n<=sizeLine:=W9 (FY h)
def Jx{ta:TA}{r:PTA}(hr:SndA K mg E ta r):SndE K mg E (tTup ta) (pTup r):=by
 intro H0 B H σ γ R X Q env p q qx;refine hr H0 B H σ γ _ X _ env p (fun ss vs H1 h1 S1 t1=>?_) qx;split at h1
 ·rename_i ds e;have env1:=env.grow S1;have rp:=t1.shd (ds:=ds) env1.same env.zm S1 (P0 e);refine⟨by rw[rp.len];exact Ku h1.1,fun l nl=>?_⟩;have S2:=VA (o:=.tup vs) nl;refine q _ _ _ h1.2 (S1.trans S2) (.tup (VJ V0 fun z=>?_) (Rps.mono (Vm S2 fun _ _ _ z=>z) rp))
  have:=env1.zm l z
  rw[nl]at this;exact this
 ·exact h1.elim
def Xo{H H1:Hp}{l:Addr}{vs:List V}{ds:List D}(S1:Same H H1)(nl:H1 l=none)(rp:Rps K (off Z H1) ds vs):TV K Z H0 H (upd H1 l (.lst vs)) (.own ds) (.ref l):=
 ⟨l,rfl,(fun _ e=>e▸S1.free nl),vs,V0,Rps.mono (Vm (VA nl) fun b o hb z y=>y.elim z fun e=>by rw[e,nl]at hb;cases hb) rp⟩
def V1{ta:TA}{r:PTA}(hr:SndA K mg E ta r):SndE K mg E (tLst ta) (pLst r):=by
 intro H0 B H σ γ R X Q env p q qx;refine hr H0 B H σ γ _ X _ env p (fun ss vs H1 h1 S1 t1=>?_) qx;split at h1
 ·rename_i ds e;have env1:=env.grow S1;have rp:=t1.shd (ds:=ds) env1.same env.zm S1 (P0 e);refine⟨by rw[rp.len];exact Ku h1.1,fun l nl=>?_⟩;exact q _ _ _ h1.2 (S1.trans (VA nl)) (Xo S1 nl rp)
 ·exact h1.elim
abbrev Pc:=List D->(S->Prop)->XR->Prop
def spOf(mg:Str->Option Value)(c:Pc)(K:Za):Sp:=fun vs H Q E=>∃ds R X,Rps K H ds vs/\c ds R X/\(∀s v H',R s->Same H H'->TV K (fun b=>Mut (H b)) H H H' s v->Q v H')/\∀e H',X e->Same H H'->E (.ref (ExcR.Vt mg e)) none H'
def S.back:S->S
 | .bor d=>argT d | .view o=>.tmp o.d|s=>s
def TV.back {s:S}{v:V} (env:EnvR K H0 B H1 σ γ) (S1:Same H H1) (S2:Same H1 H') (h:TV K (fun b=>Mut (H1 b)) H1 H1 H' s v):TV K (zof B γ σ) H0 H H' s.back v:=by
 cases s with
 |bor d=>exact JA (fun b z=>JI S2 (env.zm b z)) (Rp.mono S2 h)
 |sh d=>exact Rp.mono (Vm (Same.refl _) fun b _ _ z y=>z (env.zm b y)) h
 |own ds=>
  obtain⟨a,rfl,e0,r⟩:=h;exact⟨a,rfl,(fun b hb=>S1.free (e0 b hb)),r.mono (Vm (Same.refl _) fun b _ _ z y=>z (y.imp (env.zm b) id)) fun _ _ _ q=>q⟩
 |view ds=>
  obtain⟨a,rfl,r⟩:=h;exact r.rp off_sub
 |tmp d=>exact h
def D6(c:Pc)(r:PTA):PTE:=fun γ R X=>r γ (fun ss=>c (ss.map S.d) (fun s=>R s.back) fun _=>False) X
def SB(c:Pc)(r:PTA):PTE:=fun γ R X=>r γ (fun ss=>c (ss.map S.d) (fun s=>R s.back) X) X
def Vj{c:Pc}{ta:TA}{r:PTA}(hr:SndA K mg E ta r):SndE K mg E (Xr (spOf mg c K) [] E0 ta) (D6 c r):=by
 intro H0 B H σ γ R X Q env p q qx;refine hr H0 B H σ γ _ X _ env p (fun ss vs H1 h1 S1 t1=>?_) qx;rw[YD];have env1:=env.grow S1;exact⟨_,_,_,t1.rps env1.same,h1,fun s v H' hs S2 tv=>q _ _ H' hs (S1.trans S2) (tv.back env1 S1 S2),fun _ _ z=>z.elim⟩
def KZ{c:Pc}{ta:TA}{r:PTA}{Ec:XK}(hr:SndA K mg (fun _=>Ec) ta r):SndE K mg (fun _=>Ec) (Xr (spOf mg c K) [] Ec ta) (SB c r):=by
 intro H0 B H σ γ R X Q env p q qx;refine hr H0 B H σ γ _ X _ env p (fun ss vs H1 h1 S1 t1=>?_) qx;rw[YD];have env1:=env.grow S1;exact⟨_,_,X,t1.rps env1.same,h1,fun s v H' hs S2 tv=>q _ _ H' hs (S1.trans S2) (tv.back env1 S1 S2),fun e H' he S2=>qx e H' he (S1.trans S2)⟩
def Fy{c:Pc}{ta:TA}{r:PTA}(hr:SndA K mg E ta r):SndE K mg E (ExcR.Bf (spOf mg c K) E ta) (SB c r):=by
 intro H0 B H σ γ R X Q env p q qx;refine hr H0 B H σ γ _ X _ env p (fun ss vs H1 h1 S1 t1=>?_) qx;rw[YD];have env1:=env.grow S1;exact⟨_,_,X,t1.rps env1.same,h1,fun s v H' hs S2 tv=>q _ _ H' hs (S1.trans S2) (tv.back env1 S1 S2),fun e H' he S2=>qx e H' he (S1.trans S2)⟩
end
section
variable {K:Za}{mg:Str->Option Value}{E:L2.St->XK}{H0 H H1 H':Hp}{B Z Z':Addr->Prop}{σ:L2.St}{γ:Γ}
def EnvR.set {i:Nat}{s s':S}{v:V} (Ev:EnvR K H0 B H σ γ) (S1:Same H H') (h:TV K (zof B γ σ) H0 H H' s v) (e:s.slot=some s') :
  EnvR K H0 B H' (σ.set i (some v)) (γ.set i (some s'))/\Fr B H σ γ H' (σ.set i (some v)) (γ.set i (some s')):=by
 by_cases hi:i<γ.length
 ·exact Ev.put S1 h e hi
 ·rw[List.set_eq_of_length_le (by rw[Ev.len];omega),List.set_eq_of_length_le (by omega)];exact⟨Ev.grow S1,Fr.grow S1⟩
def Upd(is:List Nat)(σ σ':L2.St):Prop:=(∀j,j∉is->σ'[j]?=σ[j]?)/\σ'.length=σ.length
def UG(K:Za)(is:List Nat)(t:TG)(p:PTG):Prop:=∀(H0:Hp) (B:Addr->Prop) (H H':Hp) (σ:L2.St) (γ:Γ) (s:S) (v:V) (R:Γ->Prop) (Q:L2.St->Hp->Prop),EnvR K H0 B H σ γ->Same H H'->TV K (zof B γ σ) H0 H H' s v->p s γ R->
 (∀σ' γ',R γ'->EnvR K H0 B H' σ' γ'->Fr B H σ γ H' σ' γ'->Upd is σ σ'->Q σ' H')->t v σ H' Q
def T3(i:Nat):PTG:=fun s γ R=>match s.slot with|some s'=>R (γ.set i (some s'))|none=>False
def Vb(i:Nat):UG K [i] (U7 i) (T3 i):=by
 intro H0 B H H' σ γ s v R Q env S1 tv p q;unfold T3 at p;split at p
 ·rename_i s' e;obtain⟨e1,f1⟩:=env.set (i:=i) S1 tv e;exact q _ _ p e1 f1 ⟨fun j hj=>Jh fun z=>hj (by rw[z];exact ZE.mpr rfl),Wh⟩
 ·exact p.elim
def AE:PTGs:=fun ss γ R=>match ss with|[]=>R γ|_=>False
def Ce(g:PTG)(r:PTGs):PTGs:=fun ss γ R=>match ss with|s::t=>g s γ fun γ'=>r t γ' R|[]=>False
def TV.notown {s:S}{v:V}{σ':L2.St}{γ':Γ}{Hb:Hp} (f:Fr B H σ γ H' σ' γ') (hb:Same H H') (n:∀ds,s≠.own ds) (nv:∀ds,s≠.view ds) (h:TV K (zof B γ σ) H0 Hb H s v):TV K (zof B γ' σ') H0 H' H' s v:=by
 cases s with
 |bor d=>exact h
 |sh d=>exact Rp.mono f.off h
 |own ds=>exact absurd rfl (n ds)
 |view ds=>exact absurd rfl (nv ds)
 |tmp d=>exact Rp.mono hb h
def TVs.notown {σ':L2.St}{γ':Γ}{Hb:Hp} (f:Fr B H σ γ H σ' γ'):∀{ss:List S}{vs:List V},(∀s∈ss,∀ds,s≠.own ds/\s≠.view ds)->TVs K (zof B γ σ) H0 Hb H ss vs->TVs K (zof B γ' σ') H0 H H ss vs
 |_,_,_,.nil=>.nil
 |_,_,n,.cons h r=>.cons (h.notown f (Same.refl _) (fun ds=>(n _ Yo ds).1) fun ds=>(n _ Yo ds).2) (TVs.notown f (fun s hs=>n s (Yc _ hs)) r)
def Pt(d:D):arg d=.sh d\/arg d=.bor d:=by unfold arg;cases imm d<;>simp
def Xj(d:D):argT d=.sh d\/argT d=.tmp d:=by unfold argT;cases imm d<;>simp
def B7(s:S)(d:D):∀ds,s.sub d≠.own ds/\s.sub d≠.view ds:=fun ds=>by
 cases s with
 |bor b=>rcases Pt d with e|e<;>(show arg d≠_/\arg d≠_;rw[e];exact⟨(fun z=>by cases z),(fun z=>by cases z)⟩)
 |tmp b=>rcases Xj d with e|e<;>(show argT d≠_/\argT d≠_;rw[e];exact⟨(fun z=>by cases z),(fun z=>by cases z)⟩)
 |sh b=>exact⟨(fun z=>by cases z),(fun z=>by cases z)⟩
 |own b=>
  cases b with
  |nst cs=>rcases Xj d with e|e<;>(show argT d≠_/\argT d≠_;rw[e];exact⟨(fun z=>by cases z),(fun z=>by cases z)⟩)
  |nsl a cs=>rcases Xj d with e|e<;>(show argT d≠_/\argT d≠_;rw[e];exact⟨(fun z=>by cases z),(fun z=>by cases z)⟩)
  |_=>exact⟨(fun z=>by cases z),(fun z=>by cases z)⟩
 |view b=>
  cases b with
  |nst cs=>rcases Xj d with e|e<;>(show argT d≠_/\argT d≠_;rw[e];exact⟨(fun z=>by cases z),(fun z=>by cases z)⟩)
  |nsl a cs=>rcases Xj d with e|e<;>(show argT d≠_/\argT d≠_;rw[e];exact⟨(fun z=>by cases z),(fun z=>by cases z)⟩)
  |_=>exact⟨(fun z=>by cases z),(fun z=>by cases z)⟩
def Xu(K:Za)(is:List Nat)(t:TGs)(p:PTGs):Prop:=∀(H0:Hp) (B:Addr->Prop) (H:Hp) (σ:L2.St) (γ:Γ) (ss:List S) (vs:List V) (R:Γ->Prop) (Q:L2.St->Hp->Prop),EnvR K H0 B H σ γ->TVs K (zof B γ σ) H0 H H ss vs->(∀s∈ss,∀ds,s≠.own ds/\s≠.view ds)->p ss γ R->
 (∀σ' γ',R γ'->EnvR K H0 B H σ' γ'->Fr B H σ γ H σ' γ'->Upd is σ σ'->Q σ' H)->t vs σ H Q
def Ui:Xu K [] gNil AE:=by
 intro H0 B H σ γ ss vs R Q env tv no p q;cases tv with
 |nil=>exact⟨rfl,q _ _ p env Fr.refl ⟨fun _ _=>rfl,rfl⟩⟩
 |cons _ _=>exact p.elim
def Jc{is js:List Nat}{g:TG}{r:TGs}{pg:PTG}{pr:PTGs}(hg:UG K is g pg)(hr:Xu K js r pr):Xu K (is++js) (Bm g r) (Ce pg pr):=by
 intro H0 B H σ γ ss vs R Q env tv no p q;cases tv with
 |nil=>exact p.elim
 |cons h t=>
  refine⟨_,_,rfl,hg H0 B H H σ γ _ _ _ _ env (Same.refl _) h p fun σ1 γ1 p1 e1 f1 k1=>?_⟩;refine hr H0 B H σ1 γ1 _ _ _ _ e1 (TVs.notown f1 (fun s hs=>no s (Yc _ hs)) t) (fun s hs=>no s (Yc _ hs)) p1 fun σ2 γ2 p2 e2 f2 k2=>?_;exact q σ2 γ2 p2 e2 (f1.trans f2) ⟨fun j hj=>(k2.1 j fun z=>hj (Yk _ z)).trans (k1.1 j fun z=>hj (Wl _ z)),k2.2.trans k1.2⟩
def SD(n:Nat)(r:PTGs):PTG:=fun s γ R=>match s.d with | .tup ds=>ds.length=n/\r (ds.map s.sub) γ R|_=>False
def TVs.of_part {ds:List D}{s:S}:∀{vs:List V}{ds:List D},vs.length=ds.length->(∀(i:Nat) d,ds[i]?=some d->∃u,vs[i]?=some u/\TV K Z H0 H H' (s.sub d) u)->TVs K Z H0 H H' (ds.map s.sub) vs
 |[],[],_,_=>.nil
 |[],_::_,e,_=>by cases e
 |_::_,[],e,_=>by cases e
 |v::vs,d::ds,e,h=>by
  obtain⟨u,h1,h2⟩:=h 0 d rfl;cases h1
  exact .cons h2 (TVs.of_part (ds:=ds) (by simpa using e) fun i d' hd=>by simpa using h (i+1) d' (by simpa using hd))
def Uh{n:Nat}{is:List Nat}{r:TGs}{pr:PTGs}(hr:Xu K is r pr):UG K is (gTup K n r) (SD n pr):=by
 intro H0 B H H' σ γ s v R Q env S1 tv p q;unfold SD at p;have env1:=env.grow S1;obtain⟨_,pt⟩:=tv.part env1.same env.zm S1;split at p
 ·rename_i ds e;obtain⟨a,vs,rfl,ha,hn,hp⟩:=pt ds e;refine⟨a,vs,rfl,SqT.of ha,hn.trans p.1,?_⟩;have tvs:=TVs.of_part (ds:=ds) hn hp;refine hr H0 B H' σ γ _ vs R Q env1 (TVs.notown (Fr.refl) (fun s' hs ds=>?_) tvs) (fun s' hs ds=>?_) p.2 fun σ' γ' hR e1 f1 k1=>q σ' γ' hR e1 (Fr.trans (Fr.grow S1) f1) k1
  ·obtain⟨d,_,rfl⟩:=Yd.mp hs;exact B7 s d ds
  ·obtain⟨d,_,rfl⟩:=Yd.mp hs;exact B7 s d ds
 ·exact p.elim
def EndR.from {R:PEnds}{D:Ends}{σ1:L2.St}{γ1:Γ} (e:EndR K mg E H0 B H σ γ R D) (f:Fr B H σ γ H1 σ1 γ1):EndR K mg E H0 B H1 σ1 γ1 R D:=
 ⟨fun σ' γ' H' h1 h2 h3=>e.nx σ' γ' H' h1 h2 (f.trans h3),e.rt,fun σ' γ' c H' h1 h2 h3=>e.ex σ' γ' c H' h1 h2 (f.trans h3),fun σ' γ' H' h1 h2 h3=>e.bk σ' γ' H' h1 h2 (f.trans h3),fun σ' γ' H' h1 h2 h3=>e.ct σ' γ' H' h1 h2 (f.trans h3),fun σ' γ' d v H' h1 h2 h3=>e.rv σ' γ' d v H' h1 h2 (f.trans h3)⟩
variable {te:TE}{a:PTE}{tt:TT}{c:PTT}{t u:TS}{p q:PTS}
def Ek:PTS:=fun R γ=>R.nx γ
def V6:SndS K mg E T7 Ek:=fun _ _ _ _ _ _ _ _ env h e=>e.nx _ _ _ h env Fr.refl
def pSeq(p q:PTS):PTS:=fun R γ=>p {R with nx:=q R} γ
def Vd(hp:SndS K mg E t p)(hq:SndS K mg E u q):SndS K mg E (tSeq t u) (pSeq p q):=by
 intro H0 B H σ γ R D hB env h e;refine hp H0 B H σ γ _ _ hB env h ⟨fun σ' γ' H' h1 e1 f1=>?_,e.rt,e.ex,e.bk,e.ct,e.rv⟩;exact hq H0 B H' σ' γ' R D hB e1 h1 (e.from f1)
structure JoinW (p q:PTS) (R:PEnds) (γ:Γ):Prop where
 w:∃J:Γ->Prop,p {R with nx:=J} γ/\∀γ',J γ'->q R γ'
def Ca(p q:PTS):PTS:=fun R γ=>JoinW p q R γ
def PX(hp:SndS K mg E t p)(hq:SndS K mg E u q):SndS K mg E (NQ t u) (Ca p q):=by
 intro H0 B H σ γ R D hB env h e;obtain⟨J,h,k⟩:=h.w;refine⟨fun σ' H'=>∃γ',J γ'/\EnvR K H0 B H' σ' γ'/\Fr B H σ γ H' σ' γ',hp H0 B H σ γ _ _ hB env h ⟨fun σ' γ' H' h1 e1 f1=>⟨γ',h1,e1,f1⟩,e.rt,e.ex,e.bk,e.ct,e.rv⟩,?_⟩;rintro σ' H' ⟨γ',h1,e1,f1⟩;exact hq H0 B H' σ' γ' R D hB e1 (k γ' h1) (e.from f1)
def pFrz(i:Nat)(p:PTS):PTS:=fun R γ=>p R (frz i γ)
def Vy(i:Nat)(hp:SndS K mg E t p):SndS K mg E t (pFrz i p):=by
 intro H0 B H σ γ R D hB env h e;obtain⟨e1,f1⟩:=env.frz hB i;exact hp H0 B H σ _ R D hB e1 h (e.from f1)
def pAsg(a:PTE)(g:PTG):PTS:=fun R γ=>a γ (fun s=>g s γ R.nx) (R.ex γ)
def Vg{is:List Nat}{g:TG}{pg:PTG}(ha:SndE K mg E te a)(hg:UG K is g pg):SndS K mg E (tAsg te g) (pAsg a pg):=by
 intro H0 B H σ γ R D hB env h e;refine ha H0 B H σ γ _ _ _ env h (fun s v H1 h1 S1 t1=>?_) fun c H' hc S'=>e.ex σ γ c H' hc (env.grow S') (Fr.grow S');exact hg H0 B H H1 σ γ s v _ _ env S1 t1 h1 fun σ' γ' h2 e2 f2 _=>e.nx σ' γ' H1 h2 e2 f2
def pAug(i:Nat)(f:Int->Int->Int)(a:PTE):PTS:=fun R γ=>match γ[i]? with
 |some (some (.sh (.int x)))=>a γ (fun y=>match y.d with | .int j=>R.nx (γ.set i (some (.sh (.int (f x j)))))|_=>False) (R.ex γ)
 |_=>False
def pRet(a:PTE):PTS:=fun R γ=>a γ R.rt (R.ex γ)
def Vs(ha:SndE K mg E te a):SndS K mg E (tRet te) (pRet a):=by
 intro H0 B H σ γ R D hB env h e;refine ha H0 B H σ γ _ _ _ env h (fun s v H1 h1 S1 t1=>?_) fun c H' hc S'=>e.ex σ γ c H' hc (env.grow S') (Fr.grow S');exact e.rt s v H1 h1 (env.same.trans S1) (TV.weak env.same (fun b z=>.inl z) t1)
def Fq(i:Nat):PTS:=fun R γ=>match γ[i]? with|some (some s)=>R.rt s|_=>False
def Ue(i:Nat):SndS K mg E (tRet (tVar i)) (Fq i):=by
 intro H0 B H σ γ R D hB env h e;unfold Fq at h;split at h
 ·rename_i s hs;obtain⟨v,h1,h2⟩:=env.slot i _ hs;refine⟨v,h1,e.rt s v H h env.same ?_⟩;cases s with
  |bor d=>exact h2
  |sh d=>exact Rp.mono (Vm (Same.refl _) fun b _ _ z y=>z (.inl y)) h2
  |own ds=>
   obtain⟨l,rfl,e2,e3⟩:=h2;exact⟨l,rfl,e2,e3.mono (Vm (Same.refl _) fun b _ _ z y=>z (y.elim .inl fun w=>.inr ⟨i,ds,l,hs,h1,w⟩)) fun _ _ _ q=>q⟩
  |view ds=>exact h2.elim
  |tmp d=>exact h2.elim
 ·exact h.elim
def pIfS(c:PTT)(p q:PTS):PTS:=fun R γ=>c γ (fun b=>if b=true then p R γ else q R γ) (R.ex γ)
def V3(hc:SndT K mg E tt c)(hp:SndS K mg E t p)(hq:SndS K mg E u q):SndS K mg E (tIfS tt t u) (pIfS c p q):=by
 intro H0 B H σ γ R D hB env h e;refine hc H0 B H σ γ _ _ _ env h (fun b H1 h1 S1=>?_) fun c H' hc S'=>e.ex σ γ c H' hc (env.grow S') (Fr.grow S');split at h1
 ·rename_i hb;rw[ZK hb];exact hp H0 B H1 σ γ R D hB (env.grow S1) h1 (e.from (Fr.grow S1))
 ·rename_i hb;rw[ZI hb];exact hq H0 B H1 σ γ R D hB (env.grow S1) h1 (e.from (Fr.grow S1))
def Gz(a:PTE):PTS:=fun R γ=>a γ (fun _=>R.nx γ) (R.ex γ)
def Xg(ha:SndE K mg E te a):SndS K mg E (XM te) (Gz a):=by
 intro H0 B H σ γ R D hB env h e;exact ha H0 B H σ γ _ _ _ env h (fun s v H1 h1 S1 t1=>e.nx σ γ H1 h1 (env.grow S1) (Fr.grow S1)) fun c H' hc S'=>e.ex σ γ c H' hc (env.grow S') (Fr.grow S')
def Ei:PTS:=fun _ _=>False
def GM:SndS K mg E B5 Ei:=fun _ _ _ _ _ _ _ _ _ h _=>h
def Ad(x:Str)(r:PTA):PTS:=fun R γ=>r γ (fun ss=>ss.length<=1000/\R.ex γ x) (R.ex γ)
def TVs.len:∀{ss:List S}{vs:List V},TVs K Z H0 H H' ss vs->vs.length=ss.length
 |_,_,.nil=>rfl
 |_,_,.cons _ r=>Y1 (· + 1) (TVs.len r)
def Ge{x:Str}{ta:TA}{r:PTA}{Ec:XK}(hr:SndA K mg (fun _=>Ec) ta r):SndS K mg (fun _=>Ec) (ExcR.NZ (ExcR.Vt mg x) Ec ta) (Ad x r):=by
 intro H0 B H σ γ R D hB env h e;refine hr H0 B H σ γ _ _ _ env h (fun ss vs H1 h1 S1 t1=>⟨?_,?_⟩) fun c H' hc S'=>e.ex σ γ c H' hc (env.grow S') (Fr.grow S')
 ·rw[t1.len];exact Ku h1.1
 ·exact e.ex σ γ x H1 h1.2 (env.grow S1) (Fr.grow S1)
def fPar(i j:Nat)(γ:Γ)(R:Γ->Prop):List S->Prop
 |[.sh d,.sh e]=>R ((γ.set i (some (.sh d))).set j (some (.sh e)))
 |_=>False
def pPar(i j:Nat)(r:PTA):PTS:=fun R γ=>r γ (fPar i j γ R.nx) (R.ex γ)
def Hr{i j:Nat}{ta:TA}{r:PTA}(hr:SndA K mg E ta r):SndS K mg E (tPar i j ta) (pPar i j r):=by
 intro H0 B H σ γ R D hB env h e;refine hr H0 B H σ γ _ _ _ env h (fun ss vs H1 h1 S1 t1=>?_) fun c H' hc S'=>e.ex σ γ c H' hc (env.grow S') (Fr.grow S');unfold fPar at h1;split at h1
 ·rename_i d e';cases t1 with
  |cons tx t1=>
   cases t1 with
   |cons ty t1=>
    cases t1
    rename_i vx vy;refine⟨_,_,rfl,?_⟩;obtain⟨e1,f1⟩:=env.set (i:=i) S1 tx rfl
    have ty1:TV K (zof B (γ.set i (some (.sh d))) (σ.set i (some vx))) H0 H1 H1 (.sh e') vy:=by
     refine Rp.mono (Vm (Same.refl _) fun b _ _ hz z=>hz ?_) ty;rcases z with z|⟨k,ds,x,k1,k2,k3⟩
     ·exact .inl z
     ·rcases V7 k1 with⟨_,q,_⟩|⟨nk,q⟩
      ·cases q
      ·rw[Jh nk]at k2;exact .inr ⟨k,ds,x,q,k2,k3⟩
    obtain⟨e2,f2⟩:=e1.set (i:=j) (Same.refl _) ty1 rfl;exact e.nx _ _ H1 h1 e2 (f1.trans f2)
 ·exact h1.elim
def clr:List Nat->Γ->Γ
 |[],γ=>γ
 |i::r,γ=>clr r (γ.set i none)
def EnvR.clr:∀(is:List Nat) {γ:Γ},EnvR K H0 B H σ γ->EnvR K H0 B H σ (clr is γ)/\Fr B H σ γ H σ (Pu.clr is γ)
 |[],_,e=>⟨e,Fr.refl⟩
 |i::r,γ,e=>by
  obtain⟨e1,f1⟩:=e.drop i;obtain⟨e2,f2⟩:=EnvR.clr r e1;exact⟨e2,f1.trans f2⟩
def Later(H0:Hp)(Z:Addr->Prop)(H1:Hp)(Z':Addr->Prop)(H':Hp):Prop:=Same H0 H'/\(∀b,Z' b->Mut (H' b))/\∀b o,H1 b=some o->¬Z b->H' b=some o/\¬Z' b
def Later.of {σ':L2.St}{γ':Γ} (e:EnvR K H0 B H' σ' γ') (f:Fr B H1 σ γ H' σ' γ'):Later H0 (zof B γ σ) H1 (zof B γ' σ') H':=⟨e.same,e.zm,f⟩
def Later.off (l:Later H0 Z H1 Z' H'):Same (off Z H1) (Pu.off Z' H'):=fun b o h=>by
 obtain⟨h1,h2⟩:=Uq h;obtain⟨h3,h4⟩:=l.2.2 b o h1 h2;exact VJ h3 h4
structure ItOk (K:Za) (H0:Hp) (B:Addr->Prop) (H1:Hp) (σ:L2.St) (γ:Γ) (J:It) (n:Nat) (item:Nat->S):Prop where
 go:∀(i:Nat) (H':Hp) (Z':Addr->Prop),i<n->Later H0 (zof B γ σ) H1 Z' H'->J.go i H'/\∀x H'',J.yld i H' x H''->Same H' H''/\TV K Z' H0 H' H'' (item i) x
 stop:∀(H':Hp) (Z':Addr->Prop),Later H0 (zof B γ σ) H1 Z' H'->J.stop n H'
abbrev PTI:=Γ->(Nat->(Nat->S)->Prop)->XR->Prop
def SndI(K:Za)(mg:Str->Option Value)(E:L2.St->XK)(wi:TI)(it:PTI):Prop:=∀(H0:Hp) (B:Addr->Prop) (H:Hp) (σ:L2.St) (γ:Γ) (R:Nat->(Nat->S)->Prop) (X:XR) (Q:It->Hp->Prop),EnvR K H0 B H σ γ->it γ R X->
 (∀n item J H1,R n item->Same H H1->ItOk K H0 B H1 σ γ J n item->Q J H1)->(∀c H',X c->Same H H'->E σ (.ref (ExcR.Vt mg c)) none H')->wi σ H Q
structure ForW (js:List Nat) (γ:Γ) (g:PTG) (body:PTS) (R:PEnds) (n:Nat) (item:Nat->S):Prop where
 w:∃inv:Nat->Γ->Prop,inv 0 (clr js γ)/\
 (∀i γ',i<n->inv i γ'->g (item i) γ' fun γ2=>body {R with nx:=fun γ3=>inv (i+1) (clr js γ3),ct:=fun γ3=>inv (i+1) (clr js γ3),bk:=R.nx} γ2)/\∀γ',inv n γ'->R.nx γ'
def pFor(js:List Nat)(it:PTI)(g:PTG)(body:PTS):PTS:=fun R γ=>it γ (fun n item=>ForW js γ g body R n item) (R.ex γ)
def VO{is:List Nat}{wi:TI}{g:TG}{it:PTI}{pg:PTG}(js:List Nat)(hi:SndI K mg E wi it)(hg:UG K is g pg)(hb:SndS K mg E t p):SndS K mg E (tFor wi g t) (pFor js it pg p):=by
 intro H0 B H σ γ R D hB env h e;refine hi H0 B H σ γ _ _ _ env h (fun n item J H1 h1 S1 ok=>?_) fun c H' hc S'=>e.ex σ γ c H' hc (env.grow S') (Fr.grow S');obtain⟨inv,h0,hs,hd⟩:=h1.w;have env1:=env.grow S1;refine⟨fun i m σ' H'=>m=n-i/\i<=n/\∃γ',inv i γ'/\EnvR K H0 B H' σ' γ'/\Fr B H1 σ γ H' σ' γ',⟨n,by simp,YJ _,_,h0,(env1.clr js).1,(env1.clr js).2⟩,?_⟩;rintro i m σ' H' ⟨rfl,hin,γ',hi',e',f'⟩;by_cases hlt:i<n
 ·obtain⟨go,yl⟩:=ok.go i H' _ hlt (Later.of e' f');refine .inr ⟨go,fun σ2 H2=>∃γ2,inv (i+1) γ2/\EnvR K H0 B H2 σ2 γ2/\Fr B H1 σ γ H2 σ2 γ2,fun σ2 H2 ⟨γ2,a1,a2,a3⟩=>⟨n-(i+1),by omega,rfl,hlt,γ2,a1,a2,a3⟩,fun x H'' y=>?_⟩;obtain⟨S2,tv⟩:=yl x H'' y;refine hg H0 B H' H'' σ' γ' _ _ _ _ e' S2 tv (hs i γ' hlt hi') fun σ2 γ2 q2 e2 f2 _=>?_;have fall:=f'.trans f2;refine hb H0 B H'' σ2 γ2 _ _ hB e2 q2 ⟨fun σ3 γ3 H3 q3 e3 f3=>?_,e.rt,fun σ3 γ3 c H3 q3 e3 f3=>e.ex σ3 γ3 c H3 q3 e3 ((Fr.grow S1).trans (fall.trans f3)),fun σ3 γ3 H3 q3 e3 f3=>e.nx σ3 γ3 H3 q3 e3 ((Fr.grow S1).trans (fall.trans f3)),fun σ3 γ3 H3 q3 e3 f3=>?_,fun σ3 γ3 d v H3 q3 e3 f3=>e.rv σ3 γ3 d v H3 q3 e3 ((Fr.grow S1).trans (fall.trans f3))⟩
  ·exact⟨_,q3,(e3.clr js).1,(fall.trans f3).trans (e3.clr js).2⟩
  ·exact⟨_,q3,(e3.clr js).1,(fall.trans f3).trans (e3.clr js).2⟩
 ·have:i=n:=by omega
  subst this;exact .inl ⟨ok.stop H' _ (Later.of e' f'),e.nx σ' γ' H' (hd γ' hi') e' ((Fr.grow S1).trans f')⟩
def S.fix:S->Bool
 | .bor _=>true | .sh _=>true | .own (.nsl _ _)=>false | .own _=>true|_=>false
def pIL(a:PTE):PTI:=fun γ R X=>a γ (fun s=>match s.d with
 | .lst ds=>s.fix=true/\R ds.length fun i=>s.sub (ds.getD i .non)
 | .scr ns=>s.fix=true/\R ns.length fun i=>.sh (.int (ns.getD i 0))
 |_=>False) X
def TV.last {s:S}{v:V}{ds:List D} (env:EnvR K H0 B H σ γ) (S1:Same H H1) (tv:TV K (zof B γ σ) H0 H H1 s v) (hf:s.fix=true) (hd:s.d=.lst ds):∃l vs,v=.ref l/\vs.length=ds.length/\
  ∀(H':Hp) (Z':Addr->Prop),Later H0 (zof B γ σ) H1 Z' H'->H' l=some (.lst vs)/\∀(i:Nat) d,ds[i]?=some d->∃u,vs[i]?=some u/\TV K Z' H0 H' H' (s.sub d) u:=by
 have env1:=env.grow S1
 have key:∀{s:S},(∀d,s.sub d=.sh d)->Rp K (Pu.off (zof B γ σ) H1) (.lst ds) v->∃l vs,v=.ref l/\vs.length=ds.length/\
   ∀(H':Hp) (Z':Addr->Prop),Later H0 (zof B γ σ) H1 Z' H'->H' l=some (.lst vs)/\∀(i:Nat) d,ds[i]?=some d->∃u,vs[i]?=some u/\TV K Z' H0 H' H' (s.sub d) u:=fun hs h=>by
  obtain⟨l,vs,rfl,h1,h2⟩:=Rp.lst_inv h;refine⟨l,vs,rfl,h2.len,fun H' Z' lt=>⟨off_sub _ _ (lt.off _ _ h1),fun i d hi=>?_⟩⟩;obtain⟨u,h3,h4⟩:=h2.get hi;refine⟨u,h3,?_⟩;rw[hs];exact Rp.mono lt.off h4
 cases s with
 |bor d=>
  have tv:=Rp.strip tv;rw[show d.strip=.lst ds from hd]at tv
  obtain⟨l,vs,rfl,h1,h2⟩:=Rp.lst_inv tv;refine⟨l,vs,rfl,h2.len,fun H' Z' lt=>⟨lt.1 _ _ h1,fun i d hi=>?_⟩⟩;obtain⟨u,h3,h4⟩:=h2.get hi;exact⟨u,h3,argR lt.2.1 lt.1 h4⟩
 |sh d=>
  have:d=.lst ds:=hd
  subst this;exact key (fun _=>rfl) tv
 |own es=>
  cases es with
  |lst es=>
   cases hd
   exact key (fun _=>rfl) (tv.shd env1.same env.zm S1 rfl)
  |lsA x es=>
   cases hd
   exact key (fun _=>rfl) (tv.shd env1.same env.zm S1 rfl)
  |dK es=>cases hd
  |dT es=>cases hd
  |ins x C xs cs=>cases hd
  |nst cs=>cases hd
  |nsl a cs=>cases hf
 |view es=>cases hf
 |tmp d=>cases hf
def JE{te:TE}{a:PTE}(ha:SndE K mg E te a):SndI K mg E (X8 K te) (pIL a):=by
 intro H0 B H σ γ R X Q env h q qx;refine ha H0 B H σ γ _ X _ env h (fun s v H1 h1 S1 t1=>?_) qx;have env1:=env.grow S1;split at h1
 ·rename_i ds ed;obtain⟨l,vs,rfl,hn,hl⟩:=t1.last env S1 h1.1 ed;obtain⟨hl1,_⟩:=hl H1 _ (Later.of env1 Fr.refl);refine⟨l,rfl,⟨vs,SqL.of hl1⟩,q _ _ _ H1 h1.2 S1 ⟨fun i H' Z' hi lt=>?_,fun H' Z' lt=>?_⟩⟩
  ·obtain⟨k1,k2⟩:=hl H' Z' lt;have hd:ds[i]?=some (ds.getD i .non):=by rw[ZM,ZC hi];rfl
   obtain⟨u,hu,tu⟩:=k2 i _ hd;refine⟨⟨vs,u,SqL.of k1,hu⟩,fun x H'' y=>?_⟩;obtain⟨rfl,y⟩:=y
   have:=y vs (SqL.of k1)
   rw[hu]at this;cases this
   exact⟨Same.refl _,tu⟩
  ·exact⟨vs,SqL.of (hl H' Z' lt).1,by omega⟩
 ·rename_i ns ed
  have hs:∃l,v=.ref l/\∀(H':Hp) (Z':Addr->Prop),Later H0 (zof B γ σ) H1 Z' H'->SqL K H' l (ns.map V.int):=by
   cases s with
   |bor d=>
    have t1:=Rp.strip t1;rw[show d.strip=.scr ns from ed]at t1
    cases t1 with
    |scr hs=>exact⟨_,rfl,fun H' Z' lt=>lt.1.seq hs⟩
   |sh d=>
    have:d=.scr ns:=ed
    subst this;cases t1 with
    |scr hs=>exact⟨_,rfl,fun H' Z' lt=>off_sub.seq (lt.off.seq hs)⟩
   |own es=>cases es<;>cases ed
   |view es=>cases es<;>cases ed
   |tmp d=>cases h1.1
  obtain⟨l,rfl,hl⟩:=hs;refine⟨l,rfl,⟨_,hl H1 _ (Later.of env1 Fr.refl)⟩,q _ _ _ H1 h1.2 S1 ⟨fun i H' Z' hi lt=>?_,fun H' Z' lt=>?_⟩⟩
  ·have k1:=hl H' Z' lt
   have hu:(ns.map V.int)[i]?=some (.int (ns.getD i 0)):=by
    rw[ZT,ZC hi,ZM,ZC hi];rfl
   refine⟨⟨_,_,k1,hu⟩,fun x H'' y=>?_⟩;obtain⟨rfl,y⟩:=y
   have:=y _ k1
   rw[hu]at this;cases this
   exact⟨Same.refl _,.int _⟩
  ·exact⟨_,hl H' Z' lt,by rw[ZA];exact ZG _⟩
 ·exact h1.elim
def fR1(R:Nat->(Nat->S)->Prop):List D->Prop
 |[.int j]=>(-(2 ^ 62)<=j/\j<2 ^ 62)/\R j.toNat fun i=>.sh (.int (0+(i:Int)))
 |_=>False
def fR2(R:Nat->(Nat->S)->Prop):List D->Prop
 |[.int i,.int j]=>(-(2 ^ 62)<=i/\i<2 ^ 62/\-(2 ^ 62)<=j/\j<2 ^ 62)/\R (j-i).toNat fun k=>.sh (.int (i+(k:Int)))
 |_=>False
def pIR1(r:PTA):PTI:=fun γ R X=>r γ (fun ss=>fR1 R (ss.map S.d)) X
def pIR2(r:PTA):PTI:=fun γ R X=>r γ (fun ss=>fR2 R (ss.map S.d)) X
def Rps.one_inv {d:D}{vs:List V} (h:Rps K H [d] vs):∃v,vs=[v]/\Rp K H d v:=by
 cases h with
 |cons h r=>cases r;exact⟨_,rfl,h⟩
def Rps.two_inv {d e:D}{vs:List V} (h:Rps K H [d,e] vs):∃v u,vs=[v,u]/\Rp K H d v/\Rp K H e u:=by
 cases h with
 |cons h r=>cases r with|cons h2 r=>cases r;exact⟨_,_,rfl,h,h2⟩
def NY{lo:Int}{n:Nat}:ItOk K H0 B H1 σ γ (Itr lo n) n fun i=>.sh (.int (lo+(i:Int))):=by
 refine⟨fun i H' Z' hi lt=>⟨hi,fun x H'' y=>?_⟩,fun H' Z' lt=>ZG _⟩;obtain⟨e,y⟩:=y;subst e y;exact⟨Same.refl _,.int _⟩
def J2{ta:TA}{r:PTA}(hr:SndA K mg E ta r):SndI K mg E (Tz ta) (pIR1 r):=by
 intro H0 B H σ γ R X Q env h q qx;refine hr H0 B H σ γ _ X _ env h (fun ss vs H1 h1 S1 t1=>?_) qx;have rv:=t1.rps (env.grow S1).same;unfold fR1 at h1;split at h1
 ·rename_i j ej;rw[ej]at rv;obtain⟨v,rfl,r1⟩:=rv.one_inv;rw[r1.int_inv];exact⟨j,rfl,h1.1.1,h1.1.2,q _ _ _ H1 h1.2 S1 NY⟩
 ·exact h1.elim
def Fw{ta:TA}{r:PTA}(hr:SndA K mg E ta r):SndI K mg E (TM ta) (pIR2 r):=by
 intro H0 B H σ γ R X Q env h q qx;refine hr H0 B H σ γ _ X _ env h (fun ss vs H1 h1 S1 t1=>?_) qx;have rv:=t1.rps (env.grow S1).same;unfold fR2 at h1;split at h1
 ·rename_i i j ej;rw[ej]at rv;obtain⟨v,u,rfl,r1,r2⟩:=rv.two_inv;rw[r1.int_inv,r2.int_inv];exact⟨i,j,rfl,h1.1,q _ _ _ H1 h1.2 S1 NY⟩
 ·exact h1.elim
structure WhileW (js:List Nat) (γ:Γ) (c:PTT) (body:PTS) (R:PEnds):Prop where
 w:∃(inv:Γ->Prop) (μ:Γ->Nat),inv (clr js γ)/\∀γ',inv γ'->c γ' (fun b=>if b=true then
  body {R with nx:=fun γ3=>inv (clr js γ3)/\μ (clr js γ3)<μ γ',ct:=fun γ3=>inv (clr js γ3)/\μ (clr js γ3)<μ γ',bk:=R.nx} γ' else R.nx γ') (R.ex γ')
def Ex(js:List Nat)(c:PTT)(body:PTS):PTS:=fun R γ=>WhileW js γ c body R
def KM(js:List Nat)(hc:SndT K mg E tt c)(hb:SndS K mg E t p):SndS K mg E (Fb tt t) (Ex js c p):=by
 intro H0 B H σ γ R D hB env h e;obtain⟨inv,μ,h0,hs⟩:=h.w;refine⟨fun m σ' H'=>∃γ',m=μ γ'/\inv γ'/\EnvR K H0 B H' σ' γ'/\Fr B H σ γ H' σ' γ',⟨_,_,rfl,h0,(env.clr js).1,(env.clr js).2⟩,?_⟩;rintro m σ' H' ⟨γ',rfl,hi,e',f'⟩;refine hc H0 B H' σ' γ' _ _ _ e' (hs γ' hi) (fun b H1 h1 S1=>?_) fun c H'' hc S'=>e.ex σ' γ' c H'' hc (e'.grow S') (f'.trans (Fr.grow S'));have e1:=e'.grow S1;have f1:=f'.trans (Fr.grow S1);cases b with
 |false=>
  rw[ZI ZO]at h1 ⊢;exact e.nx σ' γ' H1 h1 e1 f1
 |true=>
  rw[ZK rfl]at h1 ⊢;refine⟨fun σ2 H2=>∃γ2,μ γ2<μ γ'/\inv γ2/\EnvR K H0 B H2 σ2 γ2/\Fr B H σ γ H2 σ2 γ2,fun σ2 H2 ⟨γ2,k,a1,a2,a3⟩=>⟨_,k,γ2,rfl,a1,a2,a3⟩,?_⟩;refine hb H0 B H1 σ' γ' _ _ hB e1 h1 ⟨fun σ3 γ3 H3 q3 e3 f3=>?_,e.rt,fun σ3 γ3 c H3 q3 e3 f3=>e.ex σ3 γ3 c H3 q3 e3 (f1.trans f3),fun σ3 γ3 H3 q3 e3 f3=>e.nx σ3 γ3 H3 q3 e3 (f1.trans f3),fun σ3 γ3 H3 q3 e3 f3=>?_,fun σ3 γ3 d v H3 q3 e3 f3=>e.rv σ3 γ3 d v H3 q3 e3 (f1.trans f3)⟩
  ·exact⟨_,q3.2,q3.1,(e3.clr js).1,(f1.trans f3).trans (e3.clr js).2⟩
  ·exact⟨_,q3.2,q3.1,(e3.clr js).1,(f1.trans f3).trans (e3.clr js).2⟩
end
section
variable {K:Za}{mg:Str->Option Value}{E:L2.St->XK}{H0 H H1 H':Hp}{B Z Z':Addr->Prop}{σ:L2.St}{γ:Γ}
def Jo(N:List Str)(ds:List D):Γ:=ds.map (fun d=>some (arg d))++List.replicate (N.length-ds.length) none
def G6{N:List Str}{ds:List D}{vs:List V}(r:Rps K H ds vs)(hn:ds.length<=N.length):EnvR K H (fun b=>Mut (H b)) H (start N vs) (Jo N ds):=by
 have hlen:=r.len
 have get:∀(i:Nat) (s:S),(Jo N ds)[i]?=some (some s)->∃d,ds[i]?=some d/\s=arg d:=fun i s h=>by
  unfold Jo at h;by_cases hi:i<ds.length
  ·rw[Wm (by rw[ZA];exact hi),ZT,ZC hi]at h;exact⟨_,ZC hi,(ZL (ZL h)).symm⟩
  ·rw[WE (by rw[ZA];omega),WV]at h;split at h<;>cases h
 have noown:∀(i:Nat) (es:O),(Jo N ds)[i]?≠some (some (.own es)):=fun i es h=>by
  obtain⟨d,_,e⟩:=get i _ h;rcases Pt d with q|q<;>rw[q]at e<;>cases e
 refine⟨Same.refl _,?_,fun b h=>h,fun i j a a' es es' b h=>absurd h (noown i es),fun i s h=>?_⟩
 ·unfold L2.start Jo;simp[hlen]
 ·obtain⟨d,hd,rfl⟩:=get i s h;obtain⟨v,hv,rv⟩:=r.get hd;refine⟨v,?_,?_⟩
  ·unfold L2.start;rw[Wm (by rw[ZA];exact(ZW.mp hv).1),ZT,hv];rfl
  ·have tv:=argR (K:=K) (Z:=zof (fun b=>Mut (H b)) (Jo N ds) (start N vs)) (H0:=H) (H:=H) (H':=H) (fun b z=>z.elim id fun⟨k,es,_,k1,_⟩=>absurd k1 (noown k es)) (Same.refl _) rv;rcases Pt d with q|q<;>rw[q]at tv ⊢<;>exact tv
def Em{c:Pc}{N:List Str}{t:TS}{p:PTS}{vs:List V}{Q:VK}{Ec:XK}{n:Nat}(h:spOf mg c K vs H Q Ec)(snd:SndS K mg (fun _=>Ec) t p)(hn:n<=N.length)(hp:∀ds R X,c ds R X->ds.length=n/\p {nx:=fun _=>R (.sh .non),rt:=R,ex:=fun _ e=>X e} (Jo N ds)):t {nx:=fun _ H'=>Q .non H',rt:=Q} (start N vs) H:=by
 obtain⟨ds,R,X,r,hc,hQ,hX⟩:=h;obtain⟨e,hp⟩:=hp ds R X hc;refine snd H (fun b=>Mut (H b)) H _ _ _ _ (fun b z=>XW z) (G6 r (by rw[e];exact hn)) hp ⟨fun σ' γ' H' h1 e1 f1=>hQ _ _ H' h1 e1.same .non,fun s v H' h1 S1 tv=>hQ s v H' h1 S1 tv,fun σ' γ' c H' h1 e1 f1=>hX c H' h1 e1.same,fun _ _ _ z=>z.elim,fun _ _ _ z=>z.elim,fun _ _ _ _ _ z=>z.elim⟩
def G8{c:Pc}{vs:List V}{Q:VK}{Ec:XK}{n:Nat}(h:spOf mg c K vs H Q Ec)(hn:∀ds R X,c ds R X->ds.length=n):vs.length=n:=by
 obtain⟨ds,R,X,r,hc,_⟩:=h;rw[r.len];exact hn ds R X hc
def atP(φ:List (Option Nat))(γ:Γ):Γ:=φ.map fun o=>o.bind fun j=>(γ[j]?).join
structure CompW (φ:List (Option Nat)) (γ:Γ) (g:PTG) (c:PTT) (e:PTE) (n:Nat) (item:Nat->S) (R:S->Prop):Prop where
 w:n<=100000/\∃f:Nat->Option D,(∀i,i<n->g (item i) (atP φ γ) fun γ2=>c γ2 (fun b=>if b=true then e γ2 (fun s=>∃d,s.shd=some d/\f i=some d) (fun _=>False)else f i=none) (fun _=>False))/\R (.own ((List.range n).filterMap f))
def Gx(φ:List (Option Nat))(it:PTI)(g:PTG)(c:PTT)(e:PTE):PTE:=fun γ R X=>it γ (fun n item=>CompW φ γ g c e n item R) X
def XE{φ:List (Option Nat)}{i:Nat}{s:S}(h:(atP φ γ)[i]?=some (some s)):∃j,φ[i]?=some (some j)/\γ[j]?=some (some s):=by
 unfold atP at h;rw[ZT]at h;cases e:φ[i]? with
 |none=>rw[e]at h;cases h
 |some o=>
  rw[e]at h;cases o with
  |none=>simp at h
  |some j=>
   refine⟨j,rfl,?_⟩;simp at h;cases e2:γ[j]? with
   |none=>rw[e2]at h;simp at h
   |some w=>rw[e2]at h;simp at h;rw[h]
def Kt:∀{φ:List (Option Nat)},(φ.filterMap id).Nodup->∀(i j k:Nat),φ[i]?=some (some k)->φ[j]?=some (some k)->i=j
 |[],_,i,_,_,h,_=>by simp at h
 |none::r,hn,i,j,k,h1,h2=>by
  cases i with
  |zero=>simp at h1
  |succ i=>
   cases j with
   |zero=>simp at h2
   |succ j=>exact Y1 (· + 1) (Kt (φ:=r) (by simpa using hn) i j k (by simpa using h1) (by simpa using h2))
 |some m::r,hn,i,j,k,h1,h2=>by
  have hn':m∉r.filterMap id/\(r.filterMap id).Nodup:=by simpa using hn
  have mem:∀{j:Nat},r[j]?=some (some k)->k∈r.filterMap id:=fun h=>Q2.mpr ⟨some k,Wn h,rfl⟩;cases i with
  |zero=>
   cases j with
   |zero=>rfl
   |succ j=>
    have e:m=k:=by simpa using h1
    subst e;exact absurd (mem (by simpa using h2)) hn'.1
  |succ i=>
   cases j with
   |zero=>
    have e:m=k:=by simpa using h2
    subst e;exact absurd (mem (by simpa using h1)) hn'.1
   |succ j=>exact Y1 (· + 1) (Kt (φ:=r) hn'.2 i j k (by simpa using h1) (by simpa using h2))
def XZ{φ:List (Option Nat)}{i j:Nat}(h1:φ[i]?=some (some j)){v:V}(h2:σ[j]?=some (some v)):(atStart φ σ)[i]?=some (some v):=by
 unfold atStart;rw[ZT,h1];simp[h2]
def Ts{φ:List (Option Nat)}{L:Addr}(env:EnvR K H0 B H σ γ)(nL:H L=none):∀b o,H b=some o->¬zof B γ σ b->¬zof (fun b=>zof B γ σ b\/b=L) (atP φ γ) (atStart φ σ) b:=fun b o hb z y=>by
 rcases y with(y|y)|⟨i',ds,x,y1,y2,y3⟩
 ·exact z y
 ·rw[y,nL]at hb;cases hb
 ·obtain⟨m,m1,m2⟩:=XE y1;obtain⟨w,w1,_⟩:=env.slot m _ m2;rw[XZ m1 w1]at y2;exact z (.inr ⟨m,ds,x,m2,by rw[w1];exact Y1 some (ZL y2),y3⟩)
def Ea{φ:List (Option Nat)}{L:Addr}(env:EnvR K H0 B H σ γ)(S1:Same H H')(nL:H L=none)(hL:∃ys,H' L=some (.lst ys))(hφ:(φ.filterMap id).Nodup) :
  EnvR K H0 (fun b=>zof B γ σ b\/b=L) H' (atStart φ σ) (atP φ γ):=by
 refine⟨env.same.trans S1,by unfold atStart atP;simp,fun b z=>?_,fun i j a a' ds es b h1 h2 h3 h4 h5 h6=>?_,fun i s h=>?_⟩
 ·rcases z with z|rfl
  ·exact JI S1 (env.zm b z)
  ·obtain⟨ys,e⟩:=hL;rw[e];trivial
 ·obtain⟨k,k1,k2⟩:=XE h1;obtain⟨l,l1,l2⟩:=XE h2;obtain⟨v,v1,_⟩:=env.slot k _ k2;obtain⟨u,u1,_⟩:=env.slot l _ l2;rw[XZ k1 v1]at h3;rw[XZ l1 u1]at h4
  have:=env.own k l a a' ds es b k2 l2 (by rw[v1];exact Y1 some (ZL h3)) (by rw[u1];exact Y1 some (ZL h4)) h5 h6
  subst this;exact Kt hφ i j k k1 l1
 ·obtain⟨k,k1,k2⟩:=XE h;obtain⟨v,v1,v2⟩:=env.slot k _ k2;have So:Same (off (zof B γ σ) H) (off (zof (fun b=>zof B γ σ b\/b=L) (atP φ γ) (atStart φ σ)) H'):=Vm S1 (Ts env nL);refine⟨v,XZ k1 v1,?_⟩;cases s with
  |bor d=>exact v2
  |sh d=>exact Rp.mono So v2
  |own ds=>
   obtain⟨a,e1,e3,e4⟩:=v2;exact⟨a,e1,e3,e4.mono So fun b _ x=>S1 b x⟩
  |view ds=>exact v2
  |tmp d=>exact v2
def Sub.of {σ σ':L2.St}{is:List Nat} (hl:σ'.length=σ.length) (h1:∀j,j∉is->σ'[j]?=σ[j]?) (h2:∀j∈is,∀v,σ[j]?≠some (some v)):Sub σ σ':=⟨hl,fun i v e=>by
 by_cases hi:i∈is
 ·exact absurd e (h2 i hi v)
 ·rw[h1 i hi];exact e⟩
structure ItOkC (K:Za) (H0:Hp) (B:Addr->Prop) (H1:Hp) (σ:L2.St) (γ:Γ) (J:It) (n:Nat) (item:Nat->S):Prop where
 go:∀(i:Nat) (H':Hp) (Z':Addr->Prop),i<n->Same H1 H'->Later H0 (zof B γ σ) H1 Z' H'->J.go i H'/\∀x H'',J.yld i H' x H''->Same H' H''/\TV K Z' H0 H' H'' (item i) x
 stop:∀(H':Hp) (Z':Addr->Prop),Same H1 H'->Later H0 (zof B γ σ) H1 Z' H'->J.stop n H'
def P4(K:Za)(mg:Str->Option Value)(E:L2.St->XK)(wi:TI)(it:PTI):Prop:=∀(H0:Hp) (B:Addr->Prop) (H:Hp) (σ:L2.St) (γ:Γ) (R:Nat->(Nat->S)->Prop) (X:XR) (Q:It->Hp->Prop),EnvR K H0 B H σ γ->it γ R X->
 (∀n item J H1,R n item->Same H H1->ItOkC K H0 B H1 σ γ J n item->Q J H1)->(∀c H',X c->Same H H'->E σ (.ref (ExcR.Vt mg c)) none H')->wi σ H Q
def SndI.c {wi:TI}{it:PTI} (h:SndI K mg E wi it):P4 K mg E wi it:=fun H0 B H σ γ R X Q env p q qx=>
 h H0 B H σ γ R X Q env p (fun n item J H1 hR S1 ok=>q n item J H1 hR S1 ⟨fun i H' Z' hi _ lt=>ok.go i H' Z' hi lt,fun H' Z' _ lt=>ok.stop H' Z' lt⟩) qx
def pILc(a:PTE):PTI:=fun γ R X=>a γ (fun s=>match s.d with
 | .lst ds=>R ds.length fun i=>s.sub (ds.getD i .non)
 | .tup ds=>False
 | .scr ns=>R ns.length fun i=>.sh (.int (ns.getD i 0))
 |_=>False) X
def Jz{te:TE}{a:PTE}(ha:SndE K mg E te a):P4 K mg E (X8 K te) (pILc a):=by
 intro H0 B H σ γ R X Q env h q qx;refine ha H0 B H σ γ _ X _ env h (fun s v H1 h1 S1 t1=>?_) qx;have env1:=env.grow S1;split at h1
 ·rename_i ds ed;have rv:=t1.rp env1.same;rw[ed]at rv;obtain⟨l,vs,rfl,hl1,r1⟩:=rv.lst_inv;refine⟨l,rfl,⟨vs,SqL.of hl1⟩,q _ _ _ H1 h1 S1 ⟨fun i H' Z' hi S2 lt=>?_,fun H' Z' S2 lt=>⟨vs,SqL.of (S2 _ _ hl1),by rw[r1.len];exact ZG _⟩⟩⟩;have hd:ds[i]?=some (ds.getD i .non):=by rw[ZM,ZC hi];rfl
  have hi':∃u,vs[i]?=some u/\TV K Z' H0 H' H' (s.sub (ds.getD i .non)) u:=by
   cases s with
   |bor d=>
    have t1:=Rp.strip t1;rw[show d.strip=.lst ds from ed]at t1
    obtain⟨l',vs',e',h3,r3⟩:=Rp.lst_inv t1;cases e'
    rw[env1.same _ _ h3]at hl1;cases hl1
    obtain⟨u,h4,h5⟩:=r3.get hd;exact⟨u,h4,argR lt.2.1 lt.1 h5⟩
   |sh d=>
    have:d=.lst ds:=ed
    subst this;obtain⟨l',vs',e',h3,r3⟩:=Rp.lst_inv t1;cases e'
    rw[off_sub _ _ h3]at hl1;cases hl1
    obtain⟨u,h4,h5⟩:=r3.get hd;exact⟨u,h4,Rp.mono lt.off h5⟩
   |own es=>
    cases es with
    |dK es=>cases ed
    |dT es=>cases ed
    |ins x C xs cs=>cases ed
    |nst cs=>cases ed
    |nsl x cs=>
     obtain⟨u,h4,h5⟩:=r1.get hd;exact⟨u,h4,JA lt.2.1 (Rp.mono S2 h5)⟩
    |lsA x es=>
     cases ed
     obtain⟨l',e',h0,_,vs',h3,r3⟩:=t1;cases e'
     rw[h3]at hl1;cases hl1
     obtain⟨u,h4,h5⟩:=r3.get hd;exact⟨u,h4,Rp.mono lt.off (Rp.mono (Vm (Same.refl _) fun b _ _ z y=>z (.inl y)) h5)⟩
    |lst es=>
    cases ed
    obtain⟨l',e',h0,vs',h3,r3⟩:=t1;cases e'
    rw[h3]at hl1;cases hl1
    obtain⟨u,h4,h5⟩:=r3.get hd;exact⟨u,h4,Rp.mono lt.off (Rp.mono (Vm (Same.refl _) fun b _ _ z y=>z (.inl y)) h5)⟩
   |view es=>
    cases es with
    |dK es=>cases ed
    |dT es=>cases ed
    |ins x C xs cs=>cases ed
    |nst cs=>cases ed
    |nsl x cs=>
     obtain⟨u,h4,h5⟩:=r1.get hd;exact⟨u,h4,JA lt.2.1 (Rp.mono S2 h5)⟩
    |lsA x es=>
     cases ed
     obtain⟨l',e',_,vs',h3,r3⟩:=t1;cases e'
     rw[h3]at hl1;cases hl1
     obtain⟨u,h4,h5⟩:=r3.get hd;exact⟨u,h4,Rp.mono lt.off h5⟩
    |lst es=>
    cases ed
    obtain⟨l',e',vs',h3,r3⟩:=t1;cases e'
    rw[h3]at hl1;cases hl1
    obtain⟨u,h4,h5⟩:=r3.get hd;exact⟨u,h4,Rp.mono lt.off h5⟩
   |tmp d=>
    have:d=.lst ds:=ed
    subst this;obtain⟨l',vs',e',h3,r3⟩:=Rp.lst_inv t1;cases e'
    rw[h3]at hl1;cases hl1
    obtain⟨u,h4,h5⟩:=r3.get hd;exact⟨u,h4,JA lt.2.1 (Rp.mono S2 h5)⟩
  obtain⟨u,hu,tu⟩:=hi';refine⟨⟨vs,u,SqL.of (S2 _ _ hl1),hu⟩,fun x H'' y=>?_⟩;obtain⟨rfl,y⟩:=y
  have:=y vs (SqL.of (S2 _ _ hl1))
  rw[hu]at this;cases this
  exact⟨Same.refl _,tu⟩
 ·exact h1.elim
 ·rename_i ns ed;have rv:=t1.rp env1.same;rw[ed]at rv;cases rv with
  |scr hs=>
   refine⟨_,rfl,⟨_,hs⟩,q _ _ _ H1 h1 S1 ⟨fun i H' Z' hi S2 lt=>?_,fun H' Z' S2 lt=>⟨_,S2.seq hs,by rw[ZA];exact ZG _⟩⟩⟩
   have hu:(ns.map V.int)[i]?=some (.int (ns.getD i 0)):=by
    rw[ZT,ZC hi,ZM,ZC hi];rfl
   refine⟨⟨_,_,S2.seq hs,hu⟩,fun x H'' y=>?_⟩;obtain⟨rfl,y⟩:=y
   have:=y _ (S2.seq hs)
   rw[hu]at this;cases this
   exact⟨Same.refl _,.int _⟩
 ·exact h1.elim
def VL{φ:List (Option Nat)}{is:List Nat}{wi:TI}{g:TG}{tc:TT}{te:TE}{it:PTI}{pg:PTG}{c:PTT}{a:PTE}(hi:P4 K mg E wi it)(hg:UG K is g pg)(hc:SndT K mg E tc c)(he:SndE K mg E te a)(h1:(φ.filterMap id).Nodup:=by decide)(h2:∀j∈is,φ[j]?=some none:=by decide):SndE K mg E (Xw φ wi g tc te) (Gx φ it pg c a):=by
 intro H0 B H σ γ R X Q env h q qx;refine hi H0 B H σ γ _ X _ env h (fun n item J H1 h1' S1 ok=>?_) qx;obtain⟨hn,f,hf,hR⟩:=h1'.w;have env1:=env.grow S1;have hbig:n<=sizeLine:=ZU hn (by decide);intro L nL;refine⟨fun i m ys H2=>m=n-i/\i<=n/\Same H1 H2/\H2 L=some (.lst ys)/\Rps K (off (fun b=>zof B γ σ b\/b=L) H2) ((List.range i).filterMap f) ys,⟨n,by simp,YJ _,VA nL,V0,.nil⟩,?_⟩;rintro i m ys H2 ⟨rfl,hin,S2,hL,hys⟩;have env2:=env1.grow S2;by_cases hlt:i<n
 ·have envI2:=Ea (φ:=φ) env1 S2 nL ⟨ys,hL⟩ h1;obtain⟨go,yl⟩:=ok.go i H2 _ hlt S2 ⟨env2.same,envI2.zm,fun b o hb z=>⟨S2 _ _ hb,Ts env1 nL b o hb z⟩⟩;refine .inr ⟨go,fun x H3 y=>?_⟩;obtain⟨S3,tv⟩:=yl x H3 y;refine hg H0 _ H2 H3 _ _ _ _ _ _ envI2 S3 tv (hf i hlt) fun σ2 γ2 p2 e2 f2 k2=>⟨?_,?_⟩
  ·refine Sub.of (is:=is) k2.2 k2.1 fun j hj v z=>?_;obtain⟨k,k1,_⟩:=Bv z;rw[h2 j hj]at k1;cases k1
  ·refine hc H0 _ H3 σ2 γ2 _ _ _ e2 p2 (fun b H5 q5 S5=>?_) fun _ _ z=>z.elim;have e5:=e2.grow S5;cases b with
   |false=>
    rw[ZI ZO]at q5 ⊢;refine⟨n-(i+1),by omega,rfl,hlt,(S2.trans S3).trans S5,(S3.trans S5) _ _ hL,?_⟩;rw[List.range_succ,WA];simp only[YX,q5,List.filterMap_nil,YD];exact Rps.mono (Vm (S3.trans S5) fun _ _ _ z=>z) hys
   |true=>
    rw[ZK rfl]at q5 ⊢;refine he H0 _ H5 σ2 γ2 _ _ _ e5 q5 (fun s v H6 q6 S6 t6=>?_) fun _ _ z=>z.elim;obtain⟨d,hd,hfd⟩:=q6;have S26:=(S3.trans S5).trans S6;have hr:=t6.shd (e5.grow S6).same e5.zm S6 hd
    have hlen:ys.length<=i:=by
     rw[hys.len];exact ZU (List.length_filterMap_le _ _) (by rw[Q7];exact ZG _)
    refine⟨S26 _ _ hL,by omega,n-(i+1),by omega,rfl,hlt,fun b o hb=>?_,V0,?_⟩
    ·rw[Vl (Ja hb nL)];exact S26 _ _ (S2 _ _ hb)
    ·rw[List.range_succ,WA];have ef:[i].filterMap f=[d]:=by simp[hfd]
     rw[ef]
     have So:Same (off (fun b=>zof B γ σ b\/b=L) H6) (off (fun b=>zof B γ σ b\/b=L) (upd H6 L (.lst (ys++[v])))):=fun b o h=>by
      obtain⟨a1,a2⟩:=Uq h;refine VJ ?_ a2;rw[Vl fun z=>a2 (.inr z)];exact a1
     refine Rps.append (Rps.mono So (Rps.mono (Vm S26 fun _ _ _ z=>z) hys)) (.cons (Rp.mono So (Rp.mono (Vm (Same.refl _) fun b _ _ z y=>z (.inl y)) hr)) .nil)
 ·have:i=n:=by omega
  subst this;exact .inl ⟨ok.stop H2 _ S2 (Later.of env2 (Fr.grow S2)),q _ _ H2 hR (S1.trans S2) ⟨L,rfl,(fun _ e=>e▸S1.free nL),ys,hL,hys⟩⟩
def pYes:PTT:=fun _ R _=>R true
def U1:SndT K mg E Nt pYes:=fun _ _ H _ _ _ _ _ _ p q _=>q _ H p (Same.refl _)
def Hl{α β:Type}(xs:List α)(f:α->Option β):(List.range xs.length).filterMap (fun i=>(xs[i]?).bind f)=xs.filterMap f:=by
 induction xs with
 |nil=>rfl
 |cons x r ih=>
  rw[Ya,List.range_succ_eq_map,YX,List.filterMap_map,YX]
  have e:(fun i=>((x::r)[i]?).bind f)∘Nat.succ=fun i=>(r[i]?).bind f:=by
   funext i;simp
  rw[e,ih];rfl
end
open M
section
variable {K:Za}{mg:Str->Option Value}{E:L2.St->XK}{H0 H H1 H':Hp}{B Z Z':Addr->Prop}{σ:L2.St}{γ:Γ}
def pCB(f:List S->(S->Prop)->Prop)(r:PTA):PTE:=fun γ R X=>r γ (fun ss=>f ss R) X
def JQ{rr:List V->Hp->VK->Prop}{f:List S->(S->Prop)->Prop}{ta:TA}{r:PTA}(hr:SndA K mg E ta r)(h:∀(H0 H H1:Hp) (Z:Addr->Prop) (ss:List S) (vs:List V) (R:S->Prop) (Q:VK),Same H0 H1->Same H H1->(∀b,Z b->Mut (H b))->TVs K Z H0 H H1 ss vs->f ss R->(∀s z H',R s->Same H1 H'->TV K Z H0 H H' s z->Q z H')->rr vs H1 Q) :
  SndE K mg E (tCB rr ta) (pCB f r):=by
 intro H0 B H σ γ R X Q env p q qx;refine hr H0 B H σ γ _ X _ env p (fun ss vs H1 h1 S1 t1=>?_) qx;exact h H0 H H1 _ ss vs R Q (env.grow S1).same S1 env.zm t1 h1 fun s z H' hs S2 tv=>q s z H' hs (S1.trans S2) tv
def S.free:S->List D->Bool
 | .bor _,ds=>imms ds | .tmp _,ds=>imms ds | .view (.nst _),ds=>imms ds | .view (.nsl _ _),ds=>imms ds|_,_=>true
def TVs.one_inv {s:S}{vs:List V} (h:TVs K Z H0 H H' [s] vs):∃v,vs=[v]/\TV K Z H0 H H' s v:=by
 cases h with
 |cons h r=>cases r;exact⟨_,rfl,h⟩
def TVs.two_inv {s t:S}{vs:List V} (h:TVs K Z H0 H H' [s,t] vs):∃v u,vs=[v,u]/\TV K Z H0 H H' s v/\TV K Z H0 H H' t u:=by
 cases h with
 |cons h r=>cases r with|cons h2 r=>cases r;exact⟨_,_,rfl,h,h2⟩
def TV.items {s:S}{v:V}{ds:List D} (h0:Same H0 H') (hm:∀b,Z b->Mut (H b)) (S1:Same H H') (h:TV K Z H0 H H' s v) (hf:s.free ds=true) :
  (s.d=.lst ds->∃a vs,v=.ref a/\H' a=some (.lst vs)/\Rps K (off Z H') ds vs)/\(s.d=.tup ds->∃a vs,v=.ref a/\H' a=some (.tup vs)/\Rps K (off Z H') ds vs):=by
 have hm':∀b,Z b->Mut (H' b):=fun b z=>JI S1 (hm b z);cases s with
 |bor d=>
  have h:=Rp.strip h;refine⟨fun e=>?_,fun e=>?_⟩<;>rw[show d.strip=_ from e]at h
  ·obtain⟨a,vs,rfl,h1,r⟩:=Rp.lst_inv h;exact⟨a,vs,rfl,h0 _ _ h1,Rps.off hm' (Rps.mono h0 r) hf⟩
  ·obtain⟨a,vs,rfl,h1,r⟩:=Rp.tup_inv h;exact⟨a,vs,rfl,h0 _ _ h1,Rps.off hm' (Rps.mono h0 r) hf⟩
 |sh d=>
  refine⟨fun e=>?_,fun e=>?_⟩<;>(have e':d=_:=e;subst e')
  ·obtain⟨a,vs,rfl,h1,r⟩:=Rp.lst_inv h;exact⟨a,vs,rfl,off_sub _ _ h1,r⟩
  ·obtain⟨a,vs,rfl,h1,r⟩:=Rp.tup_inv h;exact⟨a,vs,rfl,off_sub _ _ h1,r⟩
 |own es=>
  cases es with
  |dK es=>exact⟨(fun e=>by cases e),(fun e=>by cases e)⟩
  |dT es=>exact⟨(fun e=>by cases e),(fun e=>by cases e)⟩
  |ins x C xs cs=>exact⟨(fun e=>by cases e),(fun e=>by cases e)⟩
  |nsl x cs=>
   refine⟨fun e=>?_,fun e=>by cases e⟩;have h2:=h.shd h0 hm S1 (d:=.lst (cs.map fun c=>.lst c.2)) rfl;cases e
   obtain⟨a,vs,rfl,h1,r⟩:=Rp.lst_inv h2;exact⟨a,vs,rfl,off_sub _ _ h1,r⟩
  |nst cs=>
   refine⟨(fun e=>by cases e),fun e=>?_⟩;have h2:=h.shd h0 hm S1 (d:=.tup (cs.map fun c=>.lst c.2)) rfl;cases e
   obtain⟨a,vs,rfl,h1,r⟩:=Rp.tup_inv h2;exact⟨a,vs,rfl,off_sub _ _ h1,r⟩
  |lst es=>
   refine⟨fun e=>?_,fun e=>by cases e⟩;cases e
   obtain⟨a,rfl,e0,vs,e,r⟩:=h;exact⟨a,vs,rfl,e,Rps.mono (Vm (Same.refl _) fun b _ _ z y=>z (.inl y)) r⟩
  |lsA x es=>
   refine⟨fun e=>?_,fun e=>by cases e⟩;cases e
   obtain⟨a,rfl,e0,_,vs,e,r⟩:=h;exact⟨a,vs,rfl,e,Rps.mono (Vm (Same.refl _) fun b _ _ z y=>z (.inl y)) r⟩
 |view es=>
  cases es with
  |dK es=>exact⟨(fun e=>by cases e),(fun e=>by cases e)⟩
  |dT es=>exact⟨(fun e=>by cases e),(fun e=>by cases e)⟩
  |ins x C xs cs=>exact⟨(fun e=>by cases e),(fun e=>by cases e)⟩
  |nsl x cs=>
   refine⟨fun e=>?_,fun e=>by cases e⟩;have h2:=h.rp h0;rw[e]at h2;obtain⟨a,vs,rfl,h1,r⟩:=Rp.lst_inv h2;exact⟨a,vs,rfl,h1,Rps.off hm' r hf⟩
  |nst cs=>
   refine⟨(fun e=>by cases e),fun e=>?_⟩;have h2:=h.rp h0;rw[e]at h2;obtain⟨a,vs,rfl,h1,r⟩:=Rp.tup_inv h2;exact⟨a,vs,rfl,h1,Rps.off hm' r hf⟩
  |lst es=>
   refine⟨fun e=>?_,fun e=>by cases e⟩;cases e
   obtain⟨a,rfl,vs,e,r⟩:=h;exact⟨a,vs,rfl,e,r⟩
  |lsA x es=>
   refine⟨fun e=>?_,fun e=>by cases e⟩;cases e
   obtain⟨a,rfl,_,vs,e,r⟩:=h;exact⟨a,vs,rfl,e,r⟩
 |tmp d=>
  refine⟨fun e=>?_,fun e=>?_⟩<;>(have e':d=_:=e;subst e')
  ·obtain⟨a,vs,rfl,h1,r⟩:=Rp.lst_inv h;exact⟨a,vs,rfl,h1,Rps.off hm' r hf⟩
  ·obtain⟨a,vs,rfl,h1,r⟩:=Rp.tup_inv h;exact⟨a,vs,rfl,h1,Rps.off hm' r hf⟩
def fLen:List S->(S->Prop)->Prop
 |[s],R=>(match s.d with
  | .lst ds=>R (.sh (.int ds.length)) | .tup ds=>R (.sh (.int ds.length)) | .scr ns=>R (.sh (.int ns.length)) | .str x=>x.length<=sizeLine/\R (.sh (.int x.length))|_=>False)
 |_,_=>False
def VH{ta:TA}{r:PTA}(hr:SndA K mg E ta r):SndE K mg E (tCB (fun xs H Q=>∃x n,xs=[x]/\LenV K x H n/\Q (.int n) H) ta) (pCB fLen r):=by
 refine JQ hr fun H0 H H1 Z ss vs R Q s0 s1 hm tv h q=>?_;unfold fLen at h;split at h
 ·rename_i s;obtain⟨v,rfl,t1⟩:=tv.one_inv;have rv:=t1.rp s0;split at h
  ·rename_i ds e;rw[e]at rv;obtain⟨a,us,rfl,h1,r1⟩:=rv.lst_inv;exact⟨_,_,rfl,.inl ⟨us,SqL.of h1,rfl⟩,by rw[r1.len];exact q _ _ H1 h (Same.refl _) (.int _)⟩
  ·rename_i ds e;rw[e]at rv;obtain⟨a,us,rfl,h1,r1⟩:=rv.tup_inv;exact⟨_,_,rfl,.inr ⟨us,SqT.of h1,rfl⟩,by rw[r1.len];exact q _ _ H1 h (Same.refl _) (.int _)⟩
  ·rename_i ns e;rw[e]at rv;cases rv with
   |scr hs=>exact⟨_,_,rfl,.inl ⟨_,hs,rfl⟩,by rw[ZA];exact q _ _ H1 h (Same.refl _) (.int _)⟩
  ·rename_i x e;rw[e]at rv;rw[rv.str_inv];exact⟨_,_,rfl,⟨h.1,rfl⟩,q _ _ H1 h.2 (Same.refl _) (.int _)⟩
  ·exact h.elim
 ·exact h.elim
def SN:List S->(S->Prop)->Prop
 |[s],R=>(match s.d with
  | .lst ds=>s.free ds=true/\R (.own ds) | .tup ds=>s.free ds=true/\R (.own ds)|_=>False)
 |_,_=>False
def Kw{ta:TA}{r:PTA}(hr:SndA K mg E ta r):SndE K mg E (tCB (fun xs H Q=>∃p ys,xs=[.ref p]/\(SqL K H p ys\/SqT K H p ys)/\∀l,H l=none->Q (.ref l) (upd H l (.lst ys))) ta) (pCB SN r):=by
 refine JQ hr fun H0 H H1 Z ss vs R Q s0 s1 hm tv h q=>?_;unfold SN at h;split at h
 ·rename_i s;obtain⟨v,rfl,t1⟩:=tv.one_inv;split at h
  ·rename_i ds e;obtain⟨a,us,rfl,h1,r1⟩:=(t1.items s0 hm s1 h.1).1 e;exact⟨a,us,rfl,.inl (SqL.of h1),fun l nl=>q _ _ _ h.2 (VA nl) (Xo s1 nl r1)⟩
  ·rename_i ds e;obtain⟨a,us,rfl,h1,r1⟩:=(t1.items s0 hm s1 h.1).2 e;exact⟨a,us,rfl,.inr (SqT.of h1),fun l nl=>q _ _ _ h.2 (VA nl) (Xo s1 nl r1)⟩
  ·exact h.elim
 ·exact h.elim
def Rps.ints {K:Za}{H:Hp}:∀{js:List Int}{vs:List V},Rps K H (js.map D.int) vs->vs=js.map V.int
 |[],_,.nil=>rfl
 |j::r,_,.cons h t=>by rw[Rp.int_inv h,Rps.ints t];rfl
def Rps.of_ints {K:Za}{H:Hp}:∀(js:List Int),Rps K H (js.map D.int) (js.map V.int)
 |[]=>.nil
 |j::r=>.cons (.int j) (Rps.of_ints r)
def Ba:List S->(S->Prop)->Prop
 |[s],R=>∃js:List Int,s.d=.lst (js.map D.int)/\js.length<64/\∀ns:List Int,ns.Perm js->ns.Pairwise (·<=·)->R (.own (ns.map D.int))
 |_,_=>False
def BK{w:World}{ta:TA}{r:PTA}(hr:SndA K mg E ta r):SndE K mg E (tCB (fun xs H Q=>∃(p:Addr) (js:List Int),xs=[.ref p]/\js.length<64/\(SqL K H p (js.map V.int)\/H p=some (SetH w p js))/\
  ∀(l:Addr) (ns:List Int),H l=none->ns.Perm js->ns.Pairwise (·<=·)->Q (.ref l) (upd H l (.lst (ns.map V.int)))) ta) (pCB Ba r):=by
 refine JQ hr fun H0 H H1 Z ss vs R Q s0 s1 hm tv h q=>?_;unfold Ba at h;split at h
 ·rename_i s;obtain⟨v,rfl,t1⟩:=tv.one_inv;obtain⟨js,e,hz,k⟩:=h;have rv:=t1.rp s0;rw[e]at rv;obtain⟨a,us,rfl,h1,r1⟩:=rv.lst_inv;rw[r1.ints]at h1;exact⟨a,js,rfl,hz,.inl (SqL.of h1),fun l ns nl hp hs=>q _ _ _ (k ns hp hs) (VA nl) (Xo s1 nl (Rps.of_ints ns))⟩
 ·exact h.elim
def Nb:List S->(S->Prop)->Prop
 |[s,t],R=>(match s.d,t.d with | .int i,.int j=>R (.sh (.int (if j>i then j else i)))|_,_=>False)
 |_,_=>False
def Eg{ta:TA}{r:PTA}(hr:SndA K mg E ta r):SndE K mg E (tCB (fun xs H Q=>∃i j,xs=[.int i,.int j]/\Q (.int (if j>i then j else i)) H) ta) (pCB Nb r):=by
 refine JQ hr fun H0 H H1 Z ss vs R Q s0 s1 hm tv h q=>?_;unfold Nb at h;split at h
 ·obtain⟨v,u,rfl,t1,t2⟩:=tv.two_inv;have r1:=t1.rp s0;have r2:=t2.rp s0;split at h
  ·rename_i i j e1 e2;rw[e1]at r1;rw[e2]at r2;rw[r1.int_inv,r2.int_inv];exact⟨i,j,rfl,q _ _ H1 h (Same.refl _) (.int _)⟩
  ·exact h.elim
 ·exact h.elim
def fAbs:List S->(S->Prop)->Prop
 |[s],R=>(match s.d with | .int i=>R (.sh (.int (if i<0 then -i else i)))|_=>False)
 |_,_=>False
def tyD:D->Option String
 | .int _=>some "int" | .bl _=>some "bool" | .non=>some "NoneType" | .str _=>some "str" | .tup _=>some "tuple" | .lst _=>some "list" | .dK _=>some "dict" | .dT _=>some "dict" |_=>none
inductive IsiR:String->String->Bool->Prop
 |same (n:String):IsiR n n true
 |ib:IsiR "int" "bool" false
 |bi:IsiR "bool" "int" true
 |tl:IsiR "tuple" "list" false
 |lt:IsiR "list" "tuple" false
 |it:IsiR "int" "tuple" false
 |il:IsiR "int" "list" false
 |bt:IsiR "bool" "tuple" false
 |bL:IsiR "bool" "list" false
 |ti:IsiR "tuple" "int" false
 |li:IsiR "list" "int" false
 |si:IsiR "str" "int" false
 |is:IsiR "int" "str" false
 |ni:IsiR "NoneType" "int" false
 |nl:IsiR "NoneType" "list" false
 |nt:IsiR "NoneType" "tuple" false
def IsiR.kit {m n:String}{b:Bool} (h:IsiR m n b):PySem.W.kitOne K (.type m) (.type n)=some b:=by
 cases h with
 |same=>exact Hz K _
 |_=>rfl
def fIsi:List S->(S->Prop)->Prop
 |[s,t],R=>(match tyD s.d,t.d with|some m,.ty n=>∃b,IsiR m n b/\R (.sh (.bl b))|_,_=>False)
 |_,_=>False
def HQ{d:D}{v:V}{m:String}(h:Rp K H d v)(e:tyD d=some m):TyOf K H v (.type m):=by
 cases h with
 |int i=>cases e;exact .int i
 |bl b=>cases e;exact .bl b
 |non=>cases e;exact .non
 |str x=>cases e;exact .str x
 |ty n=>cases e
 |tup h r=>cases e;exact .tup h
 |lst h r=>cases e;exact .lst h
 |scr h=>cases e
 |dK h=>cases e;exact .dK h
 |dT h=>cases e;exact .dT h
 |dF h=>cases e
 |loc h=>cases e
 |err h=>cases e
 |ref a=>cases e
 |ins h q r=>cases e
def Kg{ta:TA}{r:PTA}(hr:SndA K mg E ta r):SndE K mg E (tCB (fun xs H Q=>∃x n t b,xs=[x,.ty n]/\TyOf K H x t/\PySem.W.kitOne K t (.type n)=some b/\Q (.bl b) H) ta) (pCB fIsi r):=by
 refine JQ hr fun H0 H H1 Z ss vs R Q s0 s1 hm tv h q=>?_;unfold fIsi at h;split at h
 ·obtain⟨v,u,rfl,t1,t2⟩:=tv.two_inv;have r1:=t1.rp s0;have r2:=t2.rp s0;split at h
  ·rename_i m n e1 e2;rw[e2]at r2;rw[r2.ty_inv];obtain⟨b,k,hR⟩:=h;exact⟨v,n,_,b,rfl,HQ r1 e1,k.kit,q _ _ H1 hR (Same.refl _) (.bl _)⟩
  ·exact h.elim
 ·exact h.elim
def pBM(f:S->List S->(S->Prop)->Prop)(a:PTE)(r:PTA):PTE:=fun γ R X=>a γ (fun s=>(∃ds,s.d=.lst ds)/\r γ (fun ss=>f s ss R) X) X
def Hg{rr:V->List V->Hp->VK->Prop}{f:S->List S->(S->Prop)->Prop}{te:TE}{ta:TA}{a:PTE}{r:PTA}(ha:SndE K mg E te a)(hr:SndA K mg E ta r)(h:∀(H0 H H1:Hp) (Z:Addr->Prop) (s:S) (v:V) (ss:List S) (vs:List V) (R:S->Prop) (Q:VK),Same H0 H1->Same H H1->(∀b,Z b->Mut (H b))->TV K Z H0 H H1 s v->TVs K Z H0 H H1 ss vs->f s ss R->(∀s z H',R s->Same H1 H'->TV K Z H0 H H' s z->Q z H')->rr v vs H1 Q) :
  SndE K mg E (tBM K "list" rr te ta) (pBM f a r):=by
 intro H0 B H σ γ R X Q env p q qx;refine ha H0 B H σ γ _ X _ env p (fun s v H1 h1 S1 t1=>?_) qx;have env1:=env.grow S1;obtain⟨⟨ds,ed⟩,h1⟩:=h1;have rv:=t1.rp env1.same;rw[ed]at rv;obtain⟨l,us,rfl,hl,_⟩:=rv.lst_inv;refine⟨.inl ⟨rfl,us,SqL.of hl⟩,hr H0 B H1 σ γ _ X _ env1 h1 (fun ss vs H2 h2 S2 t2=>?_) fun c H' hc S'=>qx c H' hc (S1.trans S')⟩;exact h H0 H H2 _ s _ ss vs R Q (env1.grow S2).same (S1.trans S2) env.zm (t1.grow S2) (TVs.weakG S1 t2) h2 fun s z H' hs S3 tv=>q s z H' hs ((S1.trans S2).trans S3) tv
def BE:S->List S->(S->Prop)->Prop:=fun s ss R=>match ss with
 |[t]=>(match t.d with | .int z=>∃xs:List Int,s.d=.lst (xs.map D.int)/\z∈xs/\R (.sh (.int (xs.idxOf z:Nat)))|_=>False)
 |_=>False
def SO{te:TE}{ta:TA}{a:PTE}{r:PTA}(ha:SndE K mg E te a)(hr:SndA K mg E ta r):SndE K mg E (tBM K "list" (PR K) te ta) (pBM BE a r):=by
 refine Hg ha hr fun H0 H H1 Z s v ss vs R Q s0 s1 hm t1 t2 h q=>?_;unfold BE at h;split at h
 ·obtain⟨u,rfl,t2'⟩:=t2.one_inv;have r2:=t2'.rp s0;split at h
  ·rename_i z e;rw[e]at r2;obtain⟨xs,ex,hz,hR⟩:=h;have r1:=t1.rp s0;rw[ex]at r1;obtain⟨l,us,rfl,hl,r1⟩:=r1.lst_inv;rw[r1.ints]at hl;exact⟨l,xs,z,rfl,by rw[r2.int_inv],SqL.of hl,hz,q _ _ H1 hR (Same.refl _) (.int _)⟩
  ·exact h.elim
 ·exact h.elim
def prD(p:Int×Int):D:=.tup [.int p.1,.int p.2]
inductive InR:D->D->Bool->Prop
 |li (i:Int) (hs:List Int):InR (.int i) (.lst (hs.map D.int)) (decide (i∈hs))
 |ti (i:Int) (hs:List Int):InR (.int i) (.tup (hs.map D.int)) (decide (i∈hs))
 |lp (q:Int×Int) (ps:List (Int×Int)):InR (prD q) (.lst (ps.map prD)) (decide (q∈ps))
def fIn(neg:Bool):S->S->(S->Prop)->Prop:=fun x y R=>∃b,InR x.d y.d b/\R (.sh (.bl (if neg then !b else b)))
def Rp.pair {q:Int×Int}{v:V} (h:Rp K H (prD q) v):Je H v q:=by
 obtain⟨a,vs,rfl,h1,r⟩:=Rp.tup_inv h;obtain⟨x,y,rfl,r1,r2⟩:=r.two_inv;rw[r1.int_inv,r2.int_inv]at h1;exact⟨a,rfl,h1⟩
def Rps.lv {K:Za}{H:Hp}{ps:List (Int×Int)}{vs:List V} (h:Rps K H (ps.map prD) vs):LV Je H vs ps:=by
 refine⟨by rw[h.len,ZA],fun i p hp=>?_⟩;obtain⟨v,h1,h2⟩:=h.get (i:=i) (d:=prD p) (by rw[ZT,hp];rfl);exact⟨v,h1,h2.pair⟩
def Jf{neg:Bool}{ta tb:TE}{a b:PTE}(ha:SndE K mg E ta a)(hb:SndE K mg E tb b):SndE K mg E (tOp (fun x y H Q=>rIn K neg x y H Q\/rInP neg x y H Q) ta tb) (p2 a b (fIn neg)):=by
 refine se_2 ha hb fun H0 H H2 Z x y v u R Q s0 s1 hm tx ty h q=>?_;obtain⟨k,hk,hR⟩:=h;have rx:=tx.rp s0;have ry:=ty.rp s0;generalize ex:x.d=dx at hk rx;generalize ey:y.d=dy at hk ry;cases hk with
 |li i hs=>
  obtain⟨l,us,rfl,hl,r⟩:=ry.lst_inv;rw[r.ints]at hl;rw[rx.int_inv];refine .inl ⟨l,_,rfl,.inl (SqL.of hl),rfl,Uy _,?_⟩;rw[BB];exact q _ _ H2 hR (Same.refl _) (.bl _)
 |ti i hs=>
  obtain⟨l,us,rfl,hl,r⟩:=ry.tup_inv;rw[r.ints]at hl;rw[rx.int_inv];refine .inl ⟨l,_,rfl,.inr (SqT.of hl),rfl,Uy _,?_⟩;rw[BB];exact q _ _ H2 hR (Same.refl _) (.bl _)
 |lp p ps=>
  obtain⟨l,us,rfl,hl,r⟩:=ry.lst_inv;exact .inr ⟨l,ps,p,rfl,rx.pair,⟨us,hl,r.lv⟩,q _ _ H2 hR (Same.refl _) (.bl _)⟩
def fEqU(neg:Bool):S->S->(S->Prop)->Prop:=fun x y R=>match x.d,y.d with
 | .lst ds,.lst es=>∃xs ys:List Int,ds=xs.map D.int/\es=ys.map D.int/\R (.sh (.bl (if neg then !decide (xs=ys)else decide (xs=ys))))
 |_,_=>fEq neg x y R
def Ug{ta tb:TE}{a b:PTE}(ha:SndE K mg E ta a)(hb:SndE K mg E tb b):SndE K mg E (tOp (fun x y H Q=>rEq x y H Q\/rEqL K false x y H Q) ta tb) (p2 a b (fEqU false)):=by
 refine se_2 ha hb fun H0 H H2 Z x y v u R Q s0 s1 hm tx ty h q=>?_;have rx:=tx.rp s0;have ry:=ty.rp s0;unfold fEqU at h;split at h
 ·rename_i ds es e1 e2;obtain⟨xs,ys,rfl,rfl,hR⟩:=h;rw[e1]at rx;rw[e2]at ry;obtain⟨l,us,rfl,hl,r⟩:=rx.lst_inv;obtain⟨m,ws,rfl,hm,r'⟩:=ry.lst_inv;rw[r.ints]at hl;rw[r'.ints]at hm;refine .inr ⟨l,m,_,_,rfl,rfl,SqL.of hl,SqL.of hm,Uy _,Uy _,?_⟩;rw[NM];exact q _ _ H2 hR (Same.refl _) (.bl _)
 ·refine .inl ?_;unfold fEq at h;split at h
  ·rename_i i j e1 e2;rw[e1]at rx;rw[e2]at ry;rw[rx.int_inv,ry.int_inv];refine⟨rfl,?_⟩;rw[UJ (f:=V.int) fun _ _ z=>V.int.inj z];exact q _ _ H2 h (Same.refl _) (.bl _)
  ·rename_i i j e1 e2;rw[e1]at rx;rw[e2]at ry;rw[rx.str_inv,ry.str_inv];refine⟨rfl,?_⟩;rw[UJ (f:=V.str) fun _ _ z=>V.str.inj z];exact q _ _ H2 h (Same.refl _) (.bl _)
  ·rename_i i j e1 e2;rw[e1]at rx;rw[e2]at ry;rw[rx.bl_inv,ry.bl_inv];refine⟨rfl,?_⟩;rw[UJ (f:=V.bl) fun _ _ z=>V.bl.inj z];exact q _ _ H2 h (Same.refl _) (.bl _)
  ·exact h.elim
def UR{ta tb:TE}{a b:PTE}(ha:SndE K mg E ta a)(hb:SndE K mg E tb b):SndE K mg E (tOp (fun x y H Q=>rNe x y H Q\/rEqL K true x y H Q) ta tb) (p2 a b (fEqU true)):=by
 refine se_2 ha hb fun H0 H H2 Z x y v u R Q s0 s1 hm tx ty h q=>?_;have rx:=tx.rp s0;have ry:=ty.rp s0;unfold fEqU at h;split at h
 ·rename_i ds es e1 e2;obtain⟨xs,ys,rfl,rfl,hR⟩:=h;rw[e1]at rx;rw[e2]at ry;obtain⟨l,us,rfl,hl,r⟩:=rx.lst_inv;obtain⟨m,ws,rfl,hm,r'⟩:=ry.lst_inv;rw[r.ints]at hl;rw[r'.ints]at hm;refine .inr ⟨l,m,_,_,rfl,rfl,SqL.of hl,SqL.of hm,Uy _,Uy _,?_⟩;rw[NM];exact q _ _ H2 hR (Same.refl _) (.bl _)
 ·refine .inl ?_;unfold fEq at h;split at h
  ·rename_i i j e1 e2;rw[e1]at rx;rw[e2]at ry;rw[rx.int_inv,ry.int_inv];refine⟨rfl,?_⟩;rw[UJ (f:=V.int) fun _ _ z=>V.int.inj z];exact q _ _ H2 h (Same.refl _) (.bl _)
  ·rename_i i j e1 e2;rw[e1]at rx;rw[e2]at ry;rw[rx.str_inv,ry.str_inv];refine⟨rfl,?_⟩;rw[UJ (f:=V.str) fun _ _ z=>V.str.inj z];exact q _ _ H2 h (Same.refl _) (.bl _)
  ·rename_i i j e1 e2;rw[e1]at rx;rw[e2]at ry;rw[rx.bl_inv,ry.bl_inv];refine⟨rfl,?_⟩;rw[UJ (f:=V.bl) fun _ _ z=>V.bl.inj z];exact q _ _ H2 h (Same.refl _) (.bl _)
  ·exact h.elim
abbrev tTru(K:Za)(ta:TE):TT:=fun σ H Q=>ta σ H fun x H'=>∃k,TruV K x H' k/\Q k H'
def pTru(a:PTE):PTT:=fun γ R X=>a γ (fun x=>match x.d with
 | .bl b=>R b | .lst ds=>R (!ds.isEmpty) | .tup ds=>R (!ds.isEmpty) | .int i=>R (i != 0) | .non=>R false|_=>False) X
def Xy{α β:Type}{l:List α}{m:List β}(h:l.length=m.length):l.isEmpty=m.isEmpty:=by
 cases l<;>cases m<;>simp at h ⊢
def VY{te:TE}{a:PTE}(ha:SndE K mg E te a):SndT K mg E (tTru K te) (pTru a):=by
 intro H0 B H σ γ R X Q env p q qx;refine ha H0 B H σ γ _ X _ env p (fun x v H1 h1 S1 t1=>?_) qx;have rx:=t1.rp (env.grow S1).same;split at h1
 ·rename_i b e;rw[e]at rx;rw[rx.bl_inv];exact⟨b,rfl,q _ H1 h1 S1⟩
 ·rename_i ds e;rw[e]at rx;obtain⟨l,us,rfl,hl,r⟩:=rx.lst_inv;exact⟨!us.isEmpty,.inl ⟨us,SqL.of hl,rfl⟩,by rw[Xy r.len];exact q _ H1 h1 S1⟩
 ·rename_i ds e;rw[e]at rx;obtain⟨l,us,rfl,hl,r⟩:=rx.tup_inv;exact⟨!us.isEmpty,.inr (.inl ⟨us,SqT.of hl,rfl⟩),by rw[Xy r.len];exact q _ H1 h1 S1⟩
 ·rename_i i e;rw[e]at rx;rw[rx.int_inv];exact⟨_,rfl,q _ H1 h1 S1⟩
 ·rename_i e;rw[e]at rx;rw[rx.non_inv];exact⟨_,rfl,q _ H1 h1 S1⟩
 ·exact h1.elim
def cutD{α:Type}(xs:List α)(lo hi:Option Int):List α:=(xs.drop (HT.sIx xs.length 0 lo)).take (HT.sIx xs.length xs.length hi-HT.sIx xs.length 0 lo)
def Cp:PTO:=fun _ R _=>R none
def A1(a:PTE):PTO:=fun γ R X=>a γ (fun s=>match s.d with | .int i=>R (some i)|_=>False) X
def N4:SndO K mg E Nu Cp:=fun _ _ H _ _ _ _ _ _ p q _=>q _ H p (Same.refl _)
def TZ{te:TE}{a:PTE}(ha:SndE K mg E te a):SndO K mg E (SC te) (A1 a):=by
 intro H0 B H σ γ R X Q env p q qx;refine ha H0 B H σ γ _ X _ env p (fun x v H1 h1 S1 t1=>?_) qx;have rx:=t1.rp (env.grow S1).same;split at h1
 ·rename_i i e;rw[e]at rx;exact⟨i,rx.int_inv,q _ H1 h1 S1⟩
 ·exact h1.elim
def Rps.cut {ds:List D}{vs:List V}{lo hi:Option Int} (r:Rps K H ds vs):Rps K H (cutD ds lo hi) (cutV vs lo hi):=by
 unfold cutD cutV;rw[r.len];exact Rps.take _ (Rps.drop _ r)
def fCat:S->S->(S->Prop)->Prop:=fun x y R=>match x.d,y.d with
 | .lst ds,.lst es=>x.free ds=true/\y.free es=true/\ds.length+es.length<=100000/\R (.own (ds++es))
 |_,_=>False
def Da{ta tb:TE}{a b:PTE}(ha:SndE K mg E ta a)(hb:SndE K mg E tb b):SndE K mg E (tOp rCat ta tb) (p2 a b fCat):=by
 refine se_2 ha hb fun H0 H H2 Z x y v u R Q s0 s1 hm tx ty h q=>?_;unfold fCat at h;split at h
 ·rename_i ds es e1 e2;obtain⟨l,us,rfl,hl,r⟩:=(tx.items s0 hm s1 h.1).1 e1;obtain⟨m,ws,rfl,hm',r'⟩:=(ty.items s0 hm s1 h.2.1).1 e2;have hz:us.length+ws.length<=sizeLine:=by rw[r.len,r'.len];exact ZU h.2.2.1 (by decide)
  exact⟨l,m,us,ws,rfl,rfl,hl,hm',hz,fun p np=>q _ _ _ h.2.2.2 (VA np) (Xo s1 np (r.append r'))⟩
 ·exact h.elim
def Bb(i:Nat)(a:PTE):PTS:=fun R γ=>match γ[i]? with
 |some (some (.own (.lst ds)))=>a γ (fun s=>match s.shd with
  |some d=>ds.length<10000000/\R.nx (γ.set i (some (.own (ds++[d]))))
  |none=>False) (R.ex γ)
 |some (some (.own (.lsA x ds)))=>a γ (fun s=>match s.shd with
  |some d=>ds.length<10000000/\R.nx (γ.set i (some (.own (.lsA x (ds++[d])))))
  |none=>False) (R.ex γ)
 |_=>False
def Um(i:Nat){te:TE}{a:PTE}(ha:SndE K mg E te a):SndS K mg E (XM (tBM K "list" Fe (tVar i) (VR te tNil))) (Bb i a):=by
 intro H0 B H σ γ R D hB env h e;unfold Bb at h;split at h
 ·rename_i ds hi;obtain⟨v,hv,b,rfl,hb0,us,hb,rb⟩:=env.slot i _ hi;refine⟨_,hv,.inl ⟨rfl,us,SqL.of hb⟩,ha H0 B H σ γ _ _ _ env h (fun s u H1 h1 S1 t1=>?_) fun c H' hc S'=>e.ex σ γ c H' hc (env.grow S') (Fr.grow S')⟩;have env1:=env.grow S1;split at h1
  ·rename_i d e2;have rd:=t1.shd env1.same env.zm S1 e2;refine⟨b,us,u,rfl,rfl,S1 _ _ hb,by rw[rb.len];exact WN h1.1 (by decide),?_⟩;obtain⟨e2,f2⟩:=env1.mutate (es:=.lst (ds++[d])) (us:=.lst (us++[u])) hi hv trivial fun F H' SF hF=>⟨_,hF,Rps.mono SF (Rps.append (Rps.mono (Vm S1 fun _ _ _ z=>z) rb) (.cons rd .nil))⟩;exact e.nx _ _ _ h1.2 e2 ((Fr.grow S1).trans f2)
  ·exact h1.elim
 ·rename_i x ds hi;obtain⟨v,hv,b,rfl,hb0,rfl,us,hb,rb⟩:=env.slot i _ hi;refine⟨_,hv,.inl ⟨rfl,us,SqL.of hb⟩,ha H0 B H σ γ _ _ _ env h (fun s u H1 h1 S1 t1=>?_) fun c H' hc S'=>e.ex σ γ c H' hc (env.grow S') (Fr.grow S')⟩;have env1:=env.grow S1;split at h1
  ·rename_i d e2;have rd:=t1.shd env1.same env.zm S1 e2;refine⟨b,us,u,rfl,rfl,S1 _ _ hb,by rw[rb.len];exact WN h1.1 (by decide),?_⟩;obtain⟨e2,f2⟩:=env1.mutate (es:=.lsA b (ds++[d])) (us:=.lst (us++[u])) hi hv trivial fun F H' SF hF=>⟨rfl,_,hF,Rps.mono SF (Rps.append (Rps.mono (Vm S1 fun _ _ _ z=>z) rb) (.cons rd .nil))⟩;exact e.nx _ _ _ h1.2 e2 ((Fr.grow S1).trans f2)
  ·exact h1.elim
 ·exact h.elim
end
section
variable {X:Cx}{K:Za}
def JU(hu:X.A.in1.units<cLine)(hK:X.K=K:=by rfl):OpR X (compareOp .In) (fun x y H Q=>rIn K false x y H Q\/rInP false x y H Q):=(AN hK).or (GQ hu)
def UI(hu:X.A.in1.units<cLine)(hK:X.K=K:=by rfl):OpR X (compareOp .NotIn) (fun x y H Q=>rIn K true x y H Q\/rInP true x y H Q):=(Cy hK).or (EN hu)
def X0(hu:X.A.units<cLine)(hK:X.K=K:=by rfl):OpR X (compareOp .Eq) (fun x y H Q=>rEq x y H Q\/rEqL K false x y H Q):=by subst hK;exact op_eq.or (Fz hu)
def B0(hu:X.A.units<cLine)(hK:X.K=K:=by rfl):OpR X (compareOp .NotEq) (fun x y H Q=>rNe x y H Q\/rEqL K true x y H Q):=by subst hK;exact op_ne.or (CY hu)
def VX{e:Expr}{te:TE}(ha:PE X e te)(hK:X.K=K:=by rfl)(he:∀whole,isTrue e X.env whole=(do let v ←whole;standAt e.pos;holding [v] (truthy v)):=by intro _;rfl):PT X e (tTru K te):=by
 subst hK;exact Ds ha he
def PP(hK:X.K=K:=by rfl):VN X (.type "list") (fun xs H Q=>∃p ys,xs=[.ref p]/\(SqL K H p ys\/SqT K H p ys)/\∀l,H l=none->Q (.ref l) (upd H l (.lst ys))):=by subst hK;exact EO
def Kh(hK:X.K=K:=by rfl):VN X (.builtin "isinstance") (fun xs H Q=>∃x n t b,xs=[x,.ty n]/\TyOf K H x t/\PySem.W.kitOne K t (.type n)=some b/\Q (.bl b) H):=by subst hK;exact CF
def Fm(hc:X.calm=true){w:World}(hK:X.K=K:=by rfl)(hw:X.w=w:=by rfl):VN X (.builtin "sorted") (fun xs H Q=>∃(p:Addr) (js:List Int),xs=[.ref p]/\js.length<64/\(SqL K H p (js.map V.int)\/H p=some (SetH w p js))/\
  ∀(l:Addr) (ns:List Int),H l=none->ns.Perm js->ns.Pairwise (·<=·)->Q (.ref l) (upd H l (.lst (ns.map V.int)))):=by subst hK;subst hw;exact SE hc
def VE{tg l:Expr}{tl:TE}(hl:PE X l tl)(hK:X.K=K:=by rfl):PI X tg l (X8 K tl):=by subst hK;exact BG hl
end
section
variable {P:Program}{w:World}{K:Za}{mg:Str->Option Value}{base:Heap}{H H':Hp}
def E2{CX:CXT}{k:Nat}{x:Str}{ps:List Str}{sp:Sp}{c:Pc}(C:Callee P w K mg base CX k x ps sp)(h:∀ds R X vs H (Q:VK) (E:XK),Rps K H ds vs->c ds R X->(∀s v H',R s->Same H H'->TV K (fun b=>Mut (H b)) H H H' s v->Q v H')->(∀e H',X e->Same H H'->E (.ref (ExcR.Vt mg e)) none H')->sp vs H Q E) :
  Callee P w K mg base CX k x ps (spOf mg c K):=by
 obtain⟨f,fd,F,rest⟩:=C.ex;exact⟨f,fd,F.imp fun vs H Q E ⟨ds,R,X,r,hc,hQ,hX⟩=>h ds R X vs H Q E r hc hQ hX,rest⟩
def Rp.ints_inv {ns:List Int}{v:V} (h:Rp K H (.lst (ns.map D.int)) v):∃a,v=.ref a/\H a=some (.lst (ns.map V.int)):=by
 obtain⟨a,vs,rfl,h1,r⟩:=h.lst_inv;rw[r.ints]at h1;exact⟨a,rfl,h1⟩
def Rp.pairs_inv {ps:List (Int×Int)}{v:V} (h:Rp K H (.lst (ps.map prD)) v):∃a,v=.ref a/\LAt Je H a ps:=by
 obtain⟨a,vs,rfl,h1,r⟩:=h.lst_inv;exact⟨a,rfl,vs,h1,r.lv⟩
def GO{a:Addr}{ns:List Int}(n:H a=none)(h:H' a=some (.lst (ns.map V.int))):TV K (fun b=>Mut (H b)) H H H' (.own (ns.map D.int)) (.ref a):=⟨a,rfl,(fun _ e=>e▸n),_,h,Rps.of_ints ns⟩
def Ux:∀(ns:List Int),imms (ns.map D.int)=true
 |[]=>by unfold List.map imms;rfl
 |n::r=>by rw[ZZ];unfold imms;rw[Ux r];unfold imm;rfl
def PJ{α:Type}{f:α->D}{xs:List α}{i:Nat}(h:i<xs.length):(xs.map f).getD i .non=f xs[i]:=by
 rw[ZM,ZT,ZC h];rfl
def BF{α:Type}{f:α->D}{xs:List α}{i:Int}(h0:0<=i)(h:i<(xs.length:Int)):atI (xs.map f) i=some (f (xs[i.toNat]'(by omega))):=by
 have h':i.toNat<xs.length:=by omega
 exact JT (Bl h0 (ZC h'))
def XG{α:Type}{f:α->D}{xs:List α}{i:Nat}(h:i<xs.length):atI (xs.map f) (i:Int)=some (f xs[i]):=JT (Uw (ZC h))
def Jd{α:Type}{φ:List (Option Nat)}{γ:Γ}{g:PTG}{c:PTT}{e:PTE}{s:S}{R:S->Prop}{xs:List α}{emb:α->D}(f:α->Option D)(hz:xs.length<=100000)(turn:∀x∈xs,g (s.sub (emb x)) (atP φ γ) fun γ2=>c γ2 (fun b=>if b=true then e γ2 (fun s=>∃d,s.shd=some d/\f x=some d) (fun _=>False)else f x=none) fun _=>False)(done:R (.own (xs.filterMap f))) :
  CompW φ γ g c e (xs.map emb).length (fun i=>s.sub ((xs.map emb).getD i .non)) R:=by
 rw[ZA];refine⟨⟨hz,fun i=>(xs[i]?).bind f,fun i hi=>?_,by rw[Hl];exact done⟩⟩;have e1:(xs[i]?).bind f=f xs[i]:=by rw[ZC hi];rfl
 have t:=turn xs[i] (Yb hi);rw[←e1]at t;rw[←PJ (f:=emb) hi]at t;exact t
def Xz{φ:List (Option Nat)}{γ:Γ}{g:PTG}{c:PTT}{e:PTE}{item:Nat->S}{R:S->Prop}{n:Nat}(f:Nat->Option D)(hz:n<=100000)(turn:∀i,i<n->g (item i) (atP φ γ) fun γ2=>c γ2 (fun b=>if b=true then e γ2 (fun s=>∃d,s.shd=some d/\f i=some d) (fun _=>False)else f i=none) fun _=>False)(done:R (.own ((List.range n).filterMap f))) :
  CompW φ γ g c e n item R:=⟨⟨hz,f,turn,done⟩⟩
def JF{α:Type}{js:List Nat}{γ:Γ}{g:PTG}{body:PTS}{s:S}{R:PEnds}{xs:List α}{emb:α->D}(inv:Nat->Γ->Prop)(h0:inv 0 (clr js γ))(turn:∀(i:Nat) (hi:i<xs.length) γ',inv i γ'->g (s.sub (emb xs[i])) γ' fun γ2=>body {R with nx:=fun γ3=>inv (i+1) (clr js γ3),ct:=fun γ3=>inv (i+1) (clr js γ3),bk:=R.nx} γ2)(done:∀γ',inv xs.length γ'->R.nx γ') :
  ForW js γ g body R (xs.map emb).length (fun i=>s.sub ((xs.map emb).getD i .non)):=by
 refine⟨⟨inv,h0,fun i γ' hi h=>?_,fun γ' h=>?_⟩⟩
 ·rw[ZA]at hi;have t:=turn i hi γ' h;rw[←PJ (f:=emb) hi]at t;exact t
 ·rw[ZA]at h;exact done γ' h
def JO{js:List Nat}{γ:Γ}{g:PTG}{body:PTS}{R:PEnds}{n:Nat}{item:Nat->S}(inv:Nat->Γ->Prop)(h0:inv 0 (clr js γ))(turn:∀(i:Nat) γ',i<n->inv i γ'->g (item i) γ' fun γ2=>body {R with nx:=fun γ3=>inv (i+1) (clr js γ3),ct:=fun γ3=>inv (i+1) (clr js γ3),bk:=R.nx} γ2)(done:∀γ',inv n γ'->R.nx γ'):ForW js γ g body R n item:=⟨⟨inv,h0,turn,done⟩⟩
def KY{js:List Nat}{γ:Γ}{c:PTT}{body:PTS}{R:PEnds}(inv:Γ->Prop)(μ:Γ->Nat)(h0:inv (clr js γ))(turn:∀γ',inv γ'->c γ' (fun b=>if b=true then body {R with nx:=fun γ3=>inv (clr js γ3)/\μ (clr js γ3)<μ γ',ct:=fun γ3=>inv (clr js γ3)/\μ (clr js γ3)<μ γ',bk:=R.nx} γ' else R.nx γ') (R.ex γ')):WhileW js γ c body R:=⟨⟨inv,μ,h0,turn⟩⟩
def Te{p q:PTS}{R:PEnds}{γ:Γ}(J:Γ->Prop)(h1:p {R with nx:=J} γ)(h2:∀γ',J γ'->q R γ'):JoinW p q R γ:=⟨⟨J,h1,h2⟩⟩
def Jt{α:Type}(c:α->Bool)(emb:α->D):∀ws:List α,ws.filterMap (fun q=>if c q=true then some (emb q)else none)=(ws.filter c).map emb
 |[]=>rfl
 |q::r=>by
  by_cases h:c q=true
  ·rw[List.filterMap_cons_some (b:=emb q) (by rw[ZK h]),YU h,ZZ,Jt c emb r]
  ·rw[List.filterMap_cons_none (by rw[ZI h]),YV h,Jt c emb r]
def mapD{α:Type}(emb:α->D)(ws:List α):ws.filterMap (fun q=>some (emb q))=ws.map emb:=by rw[W6]
def Kc{α:Type}(f:α->D)(xs:List α)(lo hi:Option Int):cutD (xs.map f) lo hi=(cutD xs lo hi).map f:=by
 unfold cutD;rw[ZA,List.map_take,List.map_drop]
def Nh{α:Type}(xs:List α){n:Int}(h:0<=n):cutD xs none (some n)=xs.take n.toNat:=by
 unfold cutD;have e:n=(n.toNat:Int):=by omega
 rw[HT.NS,e,HT.X6,List.drop_zero];rw[Nat.sub_zero,Ym];by_cases c:n.toNat<=xs.length
 ·rw[Nat.min_eq_left c]
 ·rw[Nat.min_eq_right (by omega),W4 (ZG _),W4 (by omega)]
def T4{α:Type}(xs:List α){n:Int}(h:0<=n):cutD xs (some n) none=xs.drop n.toNat:=by
 unfold cutD;have e:n=(n.toNat:Int):=by omega
 rw[HT.NS,e,HT.X6,Ym];by_cases c:n.toNat<=xs.length
 ·rw[Nat.min_eq_left c,W4 (by rw[Q9];omega)]
 ·rw[Nat.min_eq_right (by omega),List.drop_of_length_le (ZG _),List.drop_of_length_le (by omega)];simp
def Px(K:Za):Sp:=fun vs H Q _=>∃(a:Addr) (ns:List Int),vs=[.ref a]/\SqL K H a (ns.map V.int)/\∀H',Q (.bl true) H'
def Nj:Pc:=fun ds R _=>∃ns:List Int,ds=[.scr ns]/\R (.sh (.bl true))
def FL{vs:List V}{Q:VK}{Ec:XK}(h:Px K vs H Q Ec):spOf mg Nj K vs H Q Ec:=by
 obtain⟨a,ns,rfl,hS,q⟩:=h;refine⟨[.scr ns],fun s=>s=.sh (.bl true),fun _=>False,.cons (.scr hS) .nil,⟨ns,rfl,rfl⟩,fun s v H' e S1 tv=>?_,fun _ _ z=>z.elim⟩;subst e;cases tv
 exact q H'
end
section
variable {K:Za}{mg:Str->Option Value}{E:L2.St->XK}{H0 H H1 H':Hp}{B Z Z':Addr->Prop}{σ:L2.St}{γ:Γ}
def Xq:D->Option V
 | .int i=>some (.int i) | .bl b=>some (.bl b) | .non=>some .non | .str x=>some (.str x)|_=>none
def vD:V->D
 | .int i=>.int i | .bl b=>.bl b | .str x=>.str x|_=>.non
def XU:V->Bool
 | .int _=>true | .bl _=>true | .str _=>true | .non=>true|_=>false
def K7{v:V}(h:XU v=true):Rp K H (vD v) v:=by
 cases v with
 |int i=>exact .int i
 |bl b=>exact .bl b
 |str x=>exact .str x
 |non=>exact .non
 |_=>cases h
def Ke{d:D}{v u:V}(h:Rp K H d v)(e:Xq d=some u):v=u:=by
 cases h with
 |int i=>cases e;rfl
 |bl b=>cases e;rfl
 |non=>cases e;rfl
 |str x=>cases e;rfl
 |_=>cases e
def keyD:D->Option Key
 | .int i=>some (.inl i) | .str x=>some (.inr x)|_=>none
def UH:List D->Option (List Key)
 |[]=>some []
 |d::r=>match keyD d,UH r with
  |some k,some ks=>some (k::ks)
  |_,_=>none
def Uk:D->Option (List Key)
 | .tup ds=>UH ds
 |_=>none
def Xs{d:D}{v:V}{k:Key}(h:Rp K H d v)(e:keyD d=some k):v=kV k:=by
 cases h with
 |int i=>cases e;rfl
 |str x=>cases e;rfl
 |_=>cases e
def T6:∀{ds:List D}{vs:List V}{ks:List Key},Rps K H ds vs->UH ds=some ks->vs=ks.map kV
 |[],_,_,.nil,e=>by cases e;rfl
 |d::r,_,ks,.cons h t,e=>by
  unfold UH at e;split at e
  ·rename_i k js e1 e2;cases e
   rw[Xs h e1,T6 t e2];rfl
  ·cases e
def UD{d:D}{v:V}{ks:List Key}(h:Rp K H d v)(e:Uk d=some ks):∃b,v=.ref b/\H b=some (.tup (ks.map kV)):=by
 cases h with
 |tup h r=>
  rw[T6 r e]at h;exact⟨_,rfl,h⟩
 |_=>cases e
def Rp.dK_inv {kvs:List (Key×V)}{v:V} (h:Rp K H (.dK kvs) v):∃a,v=.ref a/\H a=some (.dK kvs):=by
 cases h with
 |dK h=>exact⟨_,rfl,h⟩
def Rp.dT_inv {kvs:List (List Key×V)}{v:V} (h:Rp K H (.dT kvs) v):∃a,v=.ref a/\H a=some (.dT kvs):=by
 cases h with
 |dT h=>exact⟨_,rfl,h⟩
def AK:PTE:=fun _ R _=>R (.own (.dK []))
def Sh:SndE K mg E Fs AK:=by
 intro H0 B H σ γ R X Q env p q _;intro l nl;exact q _ _ _ p (VA nl) ⟨l,rfl,(fun _ e=>e▸nl),V0⟩
def NW:S->S->(S->Prop)->Prop:=fun x y R=>match x.d with
 | .dK kvs=>∃k v,keyD y.d=some k/\valV kvs k=some v/\XU v=true/\R (.sh (vD v))
 | .dT kvs=>∃k v,Uk y.d=some k/\valV kvs k=some v/\XU v=true/\R (.sh (vD v))
 |_=>False
def XX{td ty:TE}{a b:PTE}(ha:SndE K mg E td a)(hb:SndE K mg E ty b):SndE K mg E (Tg td ty) (p2 a b NW):=by
 show SndE K mg E (tOp (fun x y H Q=>∃a v,x=.ref a/\DGet H a y (some v)/\Q v H) td ty) _;refine se_2 ha hb fun H0 H H2 Z x y v u R Q s0 s1 hm tx ty h q=>?_;have rx:=tx.rp s0;have ry:=ty.rp s0;unfold NW at h;split at h
 ·rename_i kvs e;rw[e]at rx;obtain⟨l,rfl,hl⟩:=rx.dK_inv;obtain⟨k,w,h1,h2,h3,h4⟩:=h;refine⟨l,w,rfl,?_,q _ _ H2 h4 (Same.refl _) (K7 h3)⟩;rw[Xs ry h1,←h2];exact DGet.k hl
 ·rename_i kvs e;rw[e]at rx;obtain⟨l,rfl,hl⟩:=rx.dT_inv;obtain⟨k,w,h1,h2,h3,h4⟩:=h;obtain⟨b,rfl,hb⟩:=UD ry h1;refine⟨l,w,rfl,?_,q _ _ H2 h4 (Same.refl _) (K7 h3)⟩;rw[←h2];exact DGet.t hl hb
 ·exact h.elim
def fDIn(neg:Bool):S->S->(S->Prop)->Prop:=fun y x R=>match x.d with
 | .dK kvs=>∃k,keyD y.d=some k/\R (.sh (.bl (if neg then !(valV kvs k).isSome else(valV kvs k).isSome)))
 | .dT kvs=>∃k,Uk y.d=some k/\R (.sh (.bl (if neg then !(valV kvs k).isSome else(valV kvs k).isSome)))
 |_=>False
def Bj{td ty:TE}{a b:PTE}(ha:SndE K mg E ty a)(hb:SndE K mg E td b):SndE K mg E (tDIn ty td) (p2 a b (fDIn false)):=by
 show SndE K mg E (tOp (fun y x H Q=>∃a o,x=.ref a/\DGet H a y o/\Q (.bl o.isSome) H) ty td) _;refine se_2 ha hb fun H0 H H2 Z y x u v R Q s0 s1 hm ty tx h q=>?_;have rx:=tx.rp s0;have ry:=ty.rp s0;unfold fDIn at h;split at h
 ·rename_i kvs e;rw[e]at rx;obtain⟨l,rfl,hl⟩:=rx.dK_inv;obtain⟨k,h1,h4⟩:=h;refine⟨l,_,rfl,?_,q _ _ H2 h4 (Same.refl _) (.bl _)⟩;rw[Xs ry h1];exact DGet.k hl
 ·rename_i kvs e;rw[e]at rx;obtain⟨l,rfl,hl⟩:=rx.dT_inv;obtain⟨k,h1,h4⟩:=h;obtain⟨b,rfl,hb⟩:=UD ry h1;exact⟨l,_,rfl,DGet.t hl hb,q _ _ H2 h4 (Same.refl _) (.bl _)⟩
 ·exact h.elim
def BA{td ty:TE}{a b:PTE}(ha:SndE K mg E ty a)(hb:SndE K mg E td b):SndE K mg E (B9 ty td) (p2 a b (fDIn true)):=by
 show SndE K mg E (tOp (fun y x H Q=>∃a o,x=.ref a/\DGet H a y o/\Q (.bl (!o.isSome)) H) ty td) _;refine se_2 ha hb fun H0 H H2 Z y x u v R Q s0 s1 hm ty tx h q=>?_;have rx:=tx.rp s0;have ry:=ty.rp s0;unfold fDIn at h;split at h
 ·rename_i kvs e;rw[e]at rx;obtain⟨l,rfl,hl⟩:=rx.dK_inv;obtain⟨k,h1,h4⟩:=h;refine⟨l,_,rfl,?_,q _ _ H2 h4 (Same.refl _) (.bl _)⟩;rw[Xs ry h1];exact DGet.k hl
 ·rename_i kvs e;rw[e]at rx;obtain⟨l,rfl,hl⟩:=rx.dT_inv;obtain⟨k,h1,h4⟩:=h;obtain⟨b,rfl,hb⟩:=UD ry h1;exact⟨l,_,rfl,DGet.t hl hb,q _ _ H2 h4 (Same.refl _) (.bl _)⟩
 ·exact h.elim
def Nz(i:Nat)(b a:PTE):PTS:=fun R γ=>match γ[i]? with
 |some (some (.own (.dK kvs)))=>a γ (fun s=>b γ (fun y=>∃k u,keyD y.d=some k/\Xq s.d=some u/\kvs.length<100000/\R.nx (γ.set i (some (.own (.dK (putK kvs k u)))))) (R.ex γ)) (R.ex γ)
 |some (some (.own (.dT kvs)))=>a γ (fun s=>b γ (fun y=>∃k u,Uk y.d=some k/\Xq s.d=some u/\kvs.length<100000/\R.nx (γ.set i (some (.own (.dT (putK kvs k u)))))) (R.ex γ)) (R.ex γ)
 |_=>False
def P6(i:Nat){ty tv:TE}{a b:PTE}(hb:SndE K mg E ty b)(ha:SndE K mg E tv a):SndS K mg E (Tx (tVar i) ty tv) (Nz i b a):=by
 intro H0 B H σ γ R D hB env h e;have hx:∀c H',R.ex γ c->Same H H'->E σ (.ref (ExcR.Vt mg c)) none H':=fun c H' hc S'=>e.ex σ γ c H' hc (env.grow S') (Fr.grow S');unfold Nz at h;split at h
 ·rename_i kvs hi;obtain⟨v,hv,l,rfl,hb0,hl⟩:=env.slot i _ hi;refine ha H0 B H σ γ _ _ _ env h (fun s u H1 h1 S1 t1=>⟨_,hv,?_⟩) hx;have env1:=env.grow S1;refine hb H0 B H1 σ γ _ _ _ env1 h1 (fun y w H2 h2 S2 t2=>?_) fun c H' hc S'=>hx c H' hc (S1.trans S');obtain⟨k,z,k1,k2,k3,k4⟩:=h2;have env2:=env1.grow S2;have eu:=Ke (t1.rp env1.same) k2;have ew:=Xs (t2.rp env2.same) k1;subst eu ew;refine⟨l,_,rfl,DPut.k (S2 _ _ (S1 _ _ hl)) (WN k3 (by decide)),?_⟩;obtain⟨e2,f2⟩:=env2.mutate (es:=.dK (putK kvs k u)) (us:=.dK (putK kvs k u)) hi hv trivial fun F H' SF hF=>hF;exact e.nx _ _ _ k4 e2 ((Fr.grow (S1.trans S2)).trans f2)
 ·rename_i kvs hi;obtain⟨v,hv,l,rfl,hb0,hl⟩:=env.slot i _ hi;refine ha H0 B H σ γ _ _ _ env h (fun s u H1 h1 S1 t1=>⟨_,hv,?_⟩) hx;have env1:=env.grow S1;refine hb H0 B H1 σ γ _ _ _ env1 h1 (fun y w H2 h2 S2 t2=>?_) fun c H' hc S'=>hx c H' hc (S1.trans S');obtain⟨k,z,k1,k2,k3,k4⟩:=h2;have env2:=env1.grow S2;have eu:=Ke (t1.rp env1.same) k2;obtain⟨b',rfl,hb'⟩:=UD (t2.rp env2.same) k1;subst eu;refine⟨l,_,rfl,DPut.t (S2 _ _ (S1 _ _ hl)) hb' (WN k3 (by decide)),?_⟩;obtain⟨e2,f2⟩:=env2.mutate (es:=.dT (putK kvs k u)) (us:=.dT (putK kvs k u)) hi hv trivial fun F H' SF hF=>hF;exact e.nx _ _ _ k4 e2 ((Fr.grow (S1.trans S2)).trans f2)
 ·exact h.elim
def CS(a:PTE):PTS:=fun R γ=>a γ (fun s=>match s.shd with|some d=>R.rt (.sh d)|none=>False) (R.ex γ)
def SR{te:TE}{a:PTE}(ha:SndE K mg E te a):SndS K mg E (tRet te) (CS a):=by
 intro H0 B H σ γ R D hB env h e;refine ha H0 B H σ γ _ _ _ env h (fun s v H1 h1 S1 t1=>?_) fun c H' hc S'=>e.ex σ γ c H' hc (env.grow S') (Fr.grow S');split at h1
 ·rename_i d hd;have r:=t1.shd (env.grow S1).same env.zm S1 hd;exact e.rt (.sh d) v H1 h1 (env.same.trans S1) (Rp.mono (Vm (Same.refl _) fun b _ _ z y=>z (.inl y)) r)
 ·exact h1.elim
def PB(i:Nat)(γ:Γ):Nat:=match γ[i]? with
 |some (some (.own (.lst ds)))=>ds.length
 |_=>0
def pIE(r:PTA):PTI:=fun γ R X=>r γ (fun ss=>match ss with
 |[s]=>(match s.d with
  | .lst ds=>s.fix=true/\imms ds=true/\R ds.length fun i=>.sh (.tup [.int i,ds.getD i .non])
  |_=>False)
 |_=>False) X
def S4:∀{ds:List D}{i:Nat}{d:D},imms ds=true->ds[i]?=some d->imm d=true
 |[],i,d,_,e=>by simp at e
 |a::r,0,d,h,e=>by
  simp at e;subst e;unfold imms at h;exact(Yn _ _▸h).1
 |a::r,i+1,d,h,e=>by
  unfold imms at h;exact S4 (Yn _ _▸h).2 (by simpa using e)
def DZ{s:S}{d:D}(h:imm d=true):(s.sub d).shd=some d:=by
 cases s with
 |bor b=>show(arg d).shd=_;unfold arg;rw[h];rfl
 |tmp b=>show(argT d).shd=_;unfold argT;rw[h];rfl
 |sh b=>rfl
 |own b=>
  cases b with
  |nst cs=>show(argT d).shd=_;unfold argT;rw[h];rfl
  |nsl a cs=>show(argT d).shd=_;unfold argT;rw[h];rfl
  |_=>rfl
 |view b=>
  cases b with
  |nst cs=>show(argT d).shd=_;unfold argT;rw[h];rfl
  |nsl a cs=>show(argT d).shd=_;unfold argT;rw[h];rfl
  |_=>rfl
def FA{ta:TA}{r:PTA}(hr:SndA K mg E ta r):SndI K mg E (Sk K ta) (pIE r):=by
 intro H0 B H σ γ R X Q env h q qx;refine hr H0 B H σ γ _ X _ env h (fun ss vs H1 h1 S1 t1=>?_) qx;have env1:=env.grow S1;split at h1
 ·rename_i s;obtain⟨v,rfl,t1'⟩:=t1.one_inv;split at h1
  ·rename_i ds ed;obtain⟨l,vs,rfl,hn,hl⟩:=t1'.last env S1 h1.1 ed;obtain⟨hl1,_⟩:=hl H1 _ (Later.of env1 Fr.refl);refine⟨l,rfl,⟨vs,SqL.of hl1⟩,q _ _ _ H1 h1.2.2 S1 ⟨fun i H' Z' hi lt=>?_,fun H' Z' lt=>?_⟩⟩
   ·obtain⟨k1,k2⟩:=hl H' Z' lt;have hd:ds[i]?=some (ds.getD i .non):=by rw[ZM,ZC hi];rfl
    obtain⟨u,hu,tu⟩:=k2 i _ hd;refine⟨⟨vs,u,SqL.of k1,hu⟩,fun x H'' y=>?_⟩;obtain⟨T,v,nT,hv,rfl,rfl⟩:=y
    have:=hv vs (SqL.of k1)
    rw[hu]at this;cases this
    have ru:=tu.shd lt.1 lt.2.1 (Same.refl _) (DZ (S4 h1.2.1 hd));refine⟨VA nT,.tup (VJ V0 fun z=>?_) (.cons (.int _) (.cons (Rp.mono (Vm (VA nT) fun _ _ _ z=>z) ru) .nil))⟩
    have:=lt.2.1 T z
    rw[nT]at this;exact this
   ·exact⟨vs,SqL.of (hl H' Z' lt).1,by omega⟩
  ·exact h1.elim
 ·exact h1.elim
def Es{α:Type}{js:List Nat}{γ:Γ}{g:PTG}{body:PTS}{R:PEnds}{xs:List α}{emb:α->D}(inv:Nat->Γ->Prop)(h0:inv 0 (clr js γ))(turn:∀(i:Nat) (hi:i<xs.length) γ',inv i γ'->g (.sh (.tup [.int i,emb xs[i]])) γ' fun γ2=>body {R with nx:=fun γ3=>inv (i+1) (clr js γ3),ct:=fun γ3=>inv (i+1) (clr js γ3),bk:=R.nx} γ2)(done:∀γ',inv xs.length γ'->R.nx γ') :
  ForW js γ g body R (xs.map emb).length (fun i=>.sh (.tup [.int i,(xs.map emb).getD i .non])):=by
 refine⟨⟨inv,h0,fun i γ' hi h=>?_,fun γ' h=>?_⟩⟩
 ·rw[ZA]at hi;have t:=turn i hi γ' h;rw[←PJ (f:=emb) hi]at t;exact t
 ·rw[ZA]at h;exact done γ' h
def em(l:Int)(p:List Int):D:=.lst ((l::p).map D.int)
def PL(l:Int)(p:List Int):atI ((l::p).map D.int) (-1)=some (.int (Vr l p)):=by
 refine JT ?_;unfold atI ixN;rw[ZI (by omega),ZK (by rw[Ya];omega)];have e:(-1+((l::p).length:Int)).toNat=p.length:=by rw[Ya];omega
 rw[e];exact Ph l p
end
section
variable {K:Za}{mg:Str->Option Value}{E:L2.St->XK}{H0 H H1 H':Hp}{B Z Z':Addr->Prop}{σ:L2.St}{γ:Γ}
def Ff:List S->(S->Prop)->Prop
 |[s],R=>∃ns:List Int,s.d=.lst (ns.map D.int)/\R (.sh (.int ns.sum))
 |_,_=>False
def Cg{ta:TA}{r:PTA}(hr:SndA K mg E ta r):SndE K mg E (tCB (fun xs H Q=>∃(p:Addr) (ns:List Int),xs=[.ref p]/\SqL K H p (ns.map V.int)/\Q (.int ns.sum) H) ta) (pCB Ff r):=by
 refine JQ hr fun H0 H H1 Z ss vs R Q s0 s1 hm tv h q=>?_;unfold Ff at h;split at h
 ·obtain⟨v,rfl,t1⟩:=tv.one_inv;obtain⟨ns,e,hR⟩:=h;have rv:=t1.rp s0;rw[e]at rv;obtain⟨a,rfl,ha⟩:=rv.ints_inv;exact⟨a,ns,rfl,SqL.of ha,q _ _ H1 hR (Same.refl _) (.int _)⟩
 ·exact h.elim
def SU:List S->(S->Prop)->Prop
 |[s],R=>∃ns:List Int,s.d=.lst (ns.map D.int)/\0<ns.length/\∀m,m∈ns->(∀a∈ns,m<=a)->R (.sh (.int m))
 |_,_=>False
def Tn{ta:TA}{r:PTA}(hr:SndA K mg E ta r):SndE K mg E (tCB (fun xs H Q=>∃(p:Addr) (ns:List Int),xs=[.ref p]/\SqL K H p (ns.map V.int)/\0<ns.length/\∀M,M∈ns->(∀a∈ns,M<=a)->Q (.int M) H) ta) (pCB SU r):=by
 refine JQ hr fun H0 H H1 Z ss vs R Q s0 s1 hm tv h q=>?_;unfold SU at h;split at h
 ·obtain⟨v,rfl,t1⟩:=tv.one_inv;obtain⟨ns,e,hne,hR⟩:=h;have rv:=t1.rp s0;rw[e]at rv;obtain⟨a,rfl,ha⟩:=rv.ints_inv;exact⟨a,ns,rfl,SqL.of ha,hne,fun m h1 h2=>q _ _ H1 (hR m h1 h2) (Same.refl _) (.int _)⟩
 ·exact h.elim
def fEqE(neg:Bool):S->S->(S->Prop)->Prop:=fun x y R=>match x.d,y.d with
 | .lst ds,.lst []=>R (.sh (.bl (if neg then !ds.isEmpty else ds.isEmpty)))
 |_,_=>False
def HU{neg:Bool}{ta tb:TE}{a b:PTE}(ha:SndE K mg E ta a)(hb:SndE K mg E tb b):SndE K mg E (tOp (rEqE K neg) ta tb) (p2 a b (fEqE neg)):=by
 refine se_2 ha hb fun H0 H H2 Z x y v u R Q s0 s1 hm tx ty h q=>?_;have rx:=tx.rp s0;have ry:=ty.rp s0;unfold fEqE at h;split at h
 ·rename_i ds e1 e2;rw[e1]at rx;rw[e2]at ry;obtain⟨l,us,rfl,hl,r⟩:=rx.lst_inv;obtain⟨m,ws,rfl,hm',r'⟩:=ry.lst_inv;cases r'
  refine⟨l,m,us,rfl,rfl,SqL.of hl,SqL.of hm',?_⟩;rw[Xy r.len];exact q _ _ H2 h (Same.refl _) (.bl _)
 ·exact h.elim
end
section
variable {K:Za}{mg:Str->Option Value}{E:L2.St->XK}{H0 H H1 H':Hp}{B Z Z':Addr->Prop}{σ:L2.St}{γ:Γ}
def EnvR.gone (Ev:EnvR K H0 B H σ γ) (i:Nat):EnvR K H0 B H (σ.set i none) (γ.set i none)/\Fr B H σ γ H (σ.set i none) (γ.set i none):=by
 obtain⟨e1,f1⟩:=Ev.drop i
 have got:∀(j:Nat) (s:S),(γ.set i none)[j]?=some (some s)->j≠i:=fun j s h=>by
  rcases V7 h with⟨_,e,_⟩|⟨n,_⟩
  ·cases e
  ·exact n
 have hz:∀b,zof B (γ.set i none) (σ.set i none) b↔zof B (γ.set i none) σ b:=fun b=>by
  constructor
  ·rintro(z|⟨j,ds,x,z1,z2,z3⟩)
   ·exact .inl z
   ·rw[Jh (got j _ z1)]at z2;exact .inr ⟨j,ds,x,z1,z2,z3⟩
  ·rintro(z|⟨j,ds,x,z1,z2,z3⟩)
   ·exact .inl z
   ·exact .inr ⟨j,ds,x,z1,by rw[Jh (got j _ z1)];exact z2,z3⟩
 have ez:zof B (γ.set i none) (σ.set i none)=zof B (γ.set i none) σ:=funext fun b=>propext (hz b);refine⟨⟨e1.same,by rw[Wh];exact e1.len,e1.bm,fun k j a a' ds es b h1 h2 h3 h4 h5 h6=>?_,fun j s h=>?_⟩,fun b o h z=>?_⟩
 ·rw[Jh (got k _ h1)]at h3;rw[Jh (got j _ h2)]at h4;exact e1.own k j a a' ds es b h1 h2 h3 h4 h5 h6
 ·obtain⟨v,h1,h2⟩:=e1.slot j s h;rw[ez];exact⟨v,by rw[Jh (got j _ h)];exact h1,h2⟩
 ·rw[ez];exact f1 b o h z
def pTry(mg:Str->Option Value)(cs:List Str)(i:Nat)(pb ph:PTS):PTS:=fun R γ=>pb {R with ex:=fun γ' c=>c∈cs/\ph {nx:=fun g=>R.nx (g.set i none),rt:=R.rt,ex:=fun _ _=>False,bk:=fun g=>R.bk (g.set i none),ct:=fun g=>R.ct (g.set i none),rv:=R.rv} (γ'.set i (some (.sh (.err (ExcR.Vt mg c)))))} γ
def Gv{i:Nat}{C0:Addr}{tb:Ends->TS}{ts:TS}{pb ph:PTS}{E':L2.St->XK}(cs:List Str)(hcs:∀c∈cs,ExcR.ErrGet K (ExcR.Vt mg c)/\PySem.W.exmOne K (.ref (ExcR.Vt mg c)) (.ref C0)=some true)(hb:∀D,SndS K mg (ExcR.hx K C0 i ts D) (tb D) pb)(hh:SndS K mg E' ts ph):SndS K mg E (fun D σ H=>tb D D σ H) (pTry mg cs i pb ph):=by
 intro H0 B H σ γ R D hB env h e;refine hb D H0 B H σ γ _ D hB env h ⟨e.nx,e.rt,fun σ' γ' c H' hc e' f'=>?_,e.bk,e.ct,e.rv⟩;obtain⟨hin,hp⟩:=hc;obtain⟨k1,k2⟩:=hcs c hin;refine⟨_,rfl,k1,k2,fun a na=>?_⟩;have S1:=VA (o:=ExcR.ErrH a (ExcR.Vt mg c)) na;have tv:TV K (zof B γ' σ') H0 H' (upd H' a (ExcR.ErrH a (ExcR.Vt mg c))) (.sh (.err (ExcR.Vt mg c))) (.ref a):=.err (VJ V0 fun z=>by have:=e'.zm a z;rw[na]at this;exact this);obtain⟨e2,f2⟩:=e'.set (i:=i) S1 tv rfl;have f12:=f'.trans f2;refine hh H0 B _ _ _ _ _ hB e2 hp ⟨fun σ3 γ3 H3 q3 e3 f3=>?_,e.rt,fun _ _ _ _ z=>z.elim,fun σ3 γ3 H3 q3 e3 f3=>?_,fun σ3 γ3 H3 q3 e3 f3=>?_,fun σ3 γ3 d v H3 q3 e3 f3=>e.rv σ3 γ3 d v H3 q3 e3 (f12.trans f3)⟩
 ·obtain⟨e4,f4⟩:=e3.gone i;exact e.nx _ _ H3 q3 e4 (f12.trans (f3.trans f4))
 ·obtain⟨e4,f4⟩:=e3.gone i;exact e.bk _ _ H3 q3 e4 (f12.trans (f3.trans f4))
 ·obtain⟨e4,f4⟩:=e3.gone i;exact e.ct _ _ H3 q3 e4 (f12.trans (f3.trans f4))
def HD{a:Addr}:SndE K mg E (tC (.ref a)) (pC (.ref a)):=se_c fun _=>.ref a
def TN(K:Za):List S->(S->Prop)->Prop
 |[s,t],R=>(match s.d,t.d with
  | .err C,.ref C'=>∃b,ExcR.ErrGet K C/\PySem.W.kitOne K (.ref C) (.ref C')=some b/\R (.sh (.bl b))
  | .err C,.ty n=>∃b,ExcR.ErrGet K C/\PySem.W.kitOne K (.ref C) (.type n)=some b/\R (.sh (.bl b))
  |_,_=>False)
 |_,_=>False
def Rp.err_inv {C:Addr}{v:V} (h:Rp K H (.err C) v):∃a,v=.ref a/\H a=some (ExcR.ErrH a C):=by
 cases h with
 |err h=>exact⟨_,rfl,h⟩
def Rp.ref_inv {a:Addr}{v:V} (h:Rp K H (.ref a) v):v=.ref a:=by cases h;rfl
def F2{ta:TA}{r:PTA}(hr:SndA K mg E ta r):SndE K mg E (tCB (fun xs H Q=>∃(a C:Addr) (c:V) (b:Bool),xs=[.ref a,c]/\H a=some (ExcR.ErrH a C)/\ExcR.ErrGet K C/\(∃cv:Value,(∀u,RelV c u->u=cv)/\PySem.W.kitOne K (.ref C) cv=some b)/\Q (.bl b) H) ta) (pCB (TN K) r):=by
 refine JQ hr fun H0 H H1 Z ss vs R Q s0 s1 hm tv h q=>?_;unfold TN at h;split at h
 ·obtain⟨v,u,rfl,t1,t2⟩:=tv.two_inv;have r1:=t1.rp s0;have r2:=t2.rp s0;split at h
  ·rename_i C C' e1 e2;rw[e1]at r1;rw[e2]at r2;obtain⟨a,rfl,ha⟩:=r1.err_inv;obtain⟨b,h1,h2,h3⟩:=h;rw[r2.ref_inv];exact⟨a,C,_,b,rfl,ha,h1,⟨.ref C',fun u hu=>hu,h2⟩,q _ _ H1 h3 (Same.refl _) (.bl _)⟩
  ·rename_i C n e1 e2;rw[e1]at r1;rw[e2]at r2;obtain⟨a,rfl,ha⟩:=r1.err_inv;obtain⟨b,h1,h2,h3⟩:=h;rw[r2.ty_inv];exact⟨a,C,_,b,rfl,ha,h1,⟨.type n,fun u hu=>hu,h2⟩,q _ _ H1 h3 (Same.refl _) (.bl _)⟩
  ·exact h.elim
 ·exact h.elim
def Io(i:Nat)(b a:PTE):PTS:=fun R γ=>match γ[i]? with
 |some (some (.own (.lst ds)))=>a γ (fun s=>b γ (fun y=>match y.d with
   | .int k=>∃j d,ixN ds.length k=some j/\s.shd=some d/\R.nx (γ.set i (some (.own (.lst (ds.set j d)))))
   |_=>False) (R.ex γ)) (R.ex γ)
 |some (some (.own (.lsA x ds)))=>a γ (fun s=>b γ (fun y=>match y.d with
   | .int k=>∃j d,ixN ds.length k=some j/\s.shd=some d/\R.nx (γ.set i (some (.own (.lsA x (ds.set j d)))))
   |_=>False) (R.ex γ)) (R.ex γ)
 |_=>False
def fRep:S->S->(S->Prop)->Prop:=fun x y R=>match x.d,y.d with
 | .lst ds,.int k=>x.free ds=true/\(-(2 ^ 63)<=k/\k<2 ^ 63)/\ds.length*k.toNat<=10000000/\R (.own (.lst (List.replicate k.toNat ds).flatten))
 |_,_=>False
def Xn:List D->Option (List V)
 |[]=>some []
 |d::r=>match Xq d,Xn r with
  |some v,some vs=>some (v::vs)
  |_,_=>none
def Pg:∀{ds:List D}{vs us:List V},Rps K H ds vs->Xn ds=some us->vs=us
 |[],_,_,.nil,e=>by cases e;rfl
 |d::r,_,us,.cons h t,e=>by
  unfold Xn at e;split at e
  ·rename_i v vs e1 e2;cases e
   rw[Ke h e1,Pg t e2]
  ·cases e
def fEqV(neg:Bool):S->S->(S->Prop)->Prop:=fun x y R=>match x.d,y.d with
 | .lst ds,.lst es=>∃us ws,Xn ds=some us/\Xn es=some ws/\us.all VW=true/\ws.all VW=true/\R (.sh (.bl (if neg then !eqL us ws else eqL us ws)))
 |_,_=>False
def Dr{neg:Bool}{ta tb:TE}{a b:PTE}(ha:SndE K mg E ta a)(hb:SndE K mg E tb b):SndE K mg E (tOp (rEqL K neg) ta tb) (p2 a b (fEqV neg)):=by
 refine se_2 ha hb fun H0 H H2 Z x y v u R Q s0 s1 hm tx ty h q=>?_;unfold fEqV at h;have rx:=tx.rp s0;have ry:=ty.rp s0;split at h
 ·rename_i ds es e1 e2;rw[e1]at rx;rw[e2]at ry;obtain⟨us,ws,h1,h2,h3,h4,h5⟩:=h;obtain⟨l,vs,rfl,hl,r⟩:=rx.lst_inv;obtain⟨m,vs',rfl,hm',r'⟩:=ry.lst_inv;rw[Pg r h1]at hl;rw[Pg r' h2]at hm';exact⟨l,m,us,ws,rfl,rfl,SqL.of hl,SqL.of hm',h3,h4,q _ _ H2 h5 (Same.refl _) (.bl _)⟩
 ·exact h.elim
def Hi{X:Cx}(hu:X.A.units<cLine)(hK:X.K=K:=by rfl):OpR X (compareOp .Eq) (rEqL K false):=by subst hK;exact Fz hu
end
end Pu
namespace Own
open PySem PySem.Spec PyProof.Rows L2
def Ft(K:Za):R2:=fun x y H Q=>∃a b xs ys,x=.ref a/\y=.ref b/\SqT K H a xs/\SqT K H b ys/\xs.length+ys.length<=sizeLine/\
 (xs=[]->Q (.ref b) H)/\(xs≠[]->ys=[]->Q (.ref a) H)/\(xs≠[]->ys≠[]->∀p,H p=none->Q (.ref p) (upd H p (.tup (xs++ys))))
section
variable {X:Cx}{K:Za}
def K5(hK:X.K=K:=by rfl):OpR X (binaryOp .Add) (Ft K):=by
 subst hK;intro pins s σ H x y v u Q I rx ry h;obtain⟨a,b,xs,ys,rfl,rfl,ha,hb,hz,q0,q1,q2⟩:=h;cases rx
 cases ry
 by_cases hx:xs=[]
 ·obtain⟨its,r1,p1,_⟩:=I.tuple ha;obtain⟨its2,r2,p2,_⟩:=I.tuple hb;have e:its=[]:=r1.nil_iff.mpr hx;obtain⟨⟨cls,dd,data,sl⟩,ho,hc,n,hd⟩:=id p1;obtain⟨⟨cls2,dd2,data2,sl2⟩,ho2,hc2,n2,hd2⟩:=id p2;simp only at hc hd hc2 hd2;subst hc hd hc2 hd2
  exact concat_meets ⟨_,ho,rfl⟩ ⟨_,ho2,rfl⟩ noFill_tuple_add seq_tuple_add Qd WW (WM _ _)
   (tuple_addW0 a b its.toArray its2.toArray n n2 dd dd2 sl sl2 (by simp[e])) ⟨ho,ho2,⟨.ref b,H,I,rfl,q0 hx⟩⟩
 ·exact FT pins s σ H (.ref a) (.ref b) _ _ Q I rfl rfl ⟨a,b,xs,ys,rfl,rfl,ha,hb,hx,hz,q1 hx,q2 hx⟩
def El{b:Addr}{x:V}{ws:List (Value×Value)}(h:VV [(.ref b,x)] ws):∃r,ws=[(.ref b,r)]/\RelV x r:=by
 cases h with
 |cons h t=>
  cases t
  rename_i y;obtain⟨u,r⟩:=y;obtain⟨h1,h2⟩:=h;cases (show u=Value.ref b from h1)
  exact⟨r,rfl,h2⟩
def Nq(tk tv:TE):TE:=fun σ H Q=>∀p,H p=none->tk σ (upd H p (.dT [])) fun y H1=>tv σ H1 fun x H2=>H2 p=some (.dT [])/\∃b ks,y=.ref b/\H2 b=some (.tup (ks.map kV))/\Q (.ref p) (upd H2 p (.dT [(ks,x)]))
def DS{k v:Expr}{tk tv:TE}{pos:Pos}(hu:X.A.units+1<cLine)(hk:PE X k tk)(hv:PE X v tv):PE X (.Dict [some k] [v] pos) (Nq tk tv):=by
 intro pins s σ H Q I q;have hn:=I.hok.fresh (ZG s.heap.objs.size);have I1:=I.laid (a:=s.heap.objs.size) (o:=.dT []) (h':=s.heap.push {cls:=.type "dict",data:=.dict #[]}) (t':=s.toks) (fun _ _ q=>ZF _ q) (ZG _) (Gw s.heap I.big)
 refine wpAny_Dict_any rfl rfl (by simp) (by simp) (thn ((FE hk hv Cr) pins _ σ _ (fun ps H2=>match ps with
  |[(y,x)]=>H2 s.heap.objs.size=some (.dT [])/\∃b ks,y=.ref b/\H2 b=some (.tup (ks.map kV))/\Q (.ref s.heap.objs.size) (upd H2 s.heap.objs.size (.dT [(ks,x)]))
  |_=>False) I1 (q _ hn)) fun ws s2 ⟨ps,H2,I2,rel,h2⟩=>?_)
 split at h2
 ·rename_i y x;obtain⟨e,b,ks,ey,eb,q2⟩:=h2;subst ey;obtain⟨wv,ew,rv⟩:=El rel;subst ew;obtain⟨z,hd,xs,rel',dd⟩:=Fk I2.hok e;cases rel'
  unfold storeAll;rw[Qr];refine Z9 (Z9 (wpAny_dictSet_heap (hsz:=YJ _) (show(tupleKind _).room X.A from Nat.lt_of_succ_lt hu) (U5 I2.hok eb) dd fun h' dd' hs=>ZD ?_))
  dsimp only
  rw[List.forIn_nil];refine ZD ?_;obtain⟨qo,es,ep,hq,h2,h3,h4,_,h5⟩:=dd';refine⟨.ref s.heap.objs.size,_,XJ (ob:=.dT [(ks,x)]) I2 (by rw[e];exact True.intro) hs ⟨qo,hq⟩ ⟨(by show 1<=sizeLine;decide),hd,[(ks,b,wv)],?_,qo,es,ep,hq,h2,h3,h4,h5⟩,rfl,q2⟩;refine .cons ⟨rfl,?_,rv⟩ .nil;rw[Vl (Pr eb e (fun z=>nomatch z))];exact eb
 ·exact h2.elim
end
end Own
namespace Pu
open PySem PySem.Spec PyProof.Rows L2 Own M
section
variable {K:Za}{mg:Str->Option Value}{E:L2.St->XK}{H0 H H1 H':Hp}{B Z Z':Addr->Prop}{σ:L2.St}{γ:Γ}
def tupD:Option D->Option (List D)
 |some (.tup ds)=>some ds|_=>none
def K0{o:Option D}{ds:List D}(h:tupD o=some ds):o=some (.tup ds):=by
 unfold tupD at h;split at h
 ·cases h;rfl
 ·cases h
def DP:S->S->(S->Prop)->Prop:=fun x y R=>∃ds es,tupD x.shd=some ds/\tupD y.shd=some es/\ds.length+es.length<=100000/\R (.sh (.tup (ds++es)))
def Kq{ta tb:TE}{a b:PTE}(ha:SndE K mg E ta a)(hb:SndE K mg E tb b):SndE K mg E (tOp (Ft K) ta tb) (p2 a b DP):=by
 refine se_2 ha hb fun H0 H H2 Z x y v u R Q s0 s1 hm tx ty h q=>?_;obtain⟨ds,es,e1,e2,hz,h⟩:=h;have hm':∀b,Z b->Mut (H2 b):=fun b z=>JI s1 (hm b z);have r1:=tx.shd s0 hm s1 (K0 e1);have r2:=ty.shd s0 hm s1 (K0 e2);obtain⟨l,us,rfl,h1,k1⟩:=Rp.tup_inv r1;obtain⟨m,ws,rfl,h2,k2⟩:=Rp.tup_inv r2;refine⟨l,m,us,ws,rfl,rfl,SqT.of (off_sub _ _ h1),SqT.of (off_sub _ _ h2),by rw[k1.len,k2.len];exact ZU hz (by decide),fun e=>?_,fun _ e=>?_,fun _ _ p np=>?_⟩
 ·subst e;cases k1
  exact q _ _ _ h (Same.refl _) r2
 ·subst e;cases k2
  refine q _ _ _ h (Same.refl _) ?_;rw[YD];exact r1
 ·refine q _ _ _ h (VA np) (.tup (VJ V0 fun z=>?_) (Rps.mono (Vm (VA np) fun _ _ _ z=>z) (k1.append k2)))
  have:=hm' p z
  rw[np]at this;exact this
def pIT(a:PTE):PTI:=fun γ R X=>a γ (fun s=>∃ds,tupD s.shd=some ds/\R ds.length fun i=>.sh (ds.getD i .non)) X
def NJ{te:TE}{a:PTE}(ha:SndE K mg E te a):SndI K mg E (iTup K te) (pIT a):=by
 intro H0 B H σ γ R X Q env h q qx;refine ha H0 B H σ γ _ X _ env h (fun s v H1 h1 S1 t1=>?_) qx;have env1:=env.grow S1;obtain⟨ds,ed,h1⟩:=h1;have r1:=t1.shd env1.same env.zm S1 (K0 ed);obtain⟨l,vs,rfl,hl,k1⟩:=Rp.tup_inv r1;refine⟨l,rfl,⟨vs,SqT.of (off_sub _ _ hl)⟩,q _ _ _ H1 h1 S1 ⟨fun i H' Z' hi lt=>?_,fun H' Z' lt=>?_⟩⟩
 ·have hd:ds[i]?=some (ds.getD i .non):=by rw[ZM,ZC hi];rfl
  obtain⟨u,hu,tu⟩:=k1.get hd;have k:=off_sub _ _ (lt.off _ _ hl);refine⟨⟨vs,u,SqT.of k,hu⟩,fun x H'' y=>?_⟩;obtain⟨rfl,y⟩:=y
  have:=y vs (SqT.of k)
  rw[hu]at this;cases this
  exact⟨Same.refl _,Rp.mono lt.off tu⟩
 ·exact⟨vs,SqT.of (off_sub _ _ (lt.off _ _ hl)),by rw[k1.len];exact ZG _⟩
def GV(a b:PTE):PTE:=fun γ R X=>a γ (fun y=>b γ (fun x=>∃ks u,Uk y.d=some ks/\Xq x.d=some u/\R (.own (.dT [(ks,u)]))) X) X
def CL{tk tv:TE}{a b:PTE}(ha:SndE K mg E tk a)(hb:SndE K mg E tv b):SndE K mg E (Nq tk tv) (GV a b):=by
 intro H0 B H σ γ R X Q env h q qx;intro p np;have S0:Same H (upd H p (.dT [])):=VA np;have env0:=env.grow S0;refine ha H0 B _ σ γ _ X _ env0 h (fun y v H1 h1 S1 t1=>?_) fun c H' hc S'=>qx c H' hc (S0.trans S');have env1:=env0.grow S1;refine hb H0 B H1 σ γ _ X _ env1 h1 (fun x w H2 h2 S2 t2=>?_) fun c H' hc S'=>qx c H' hc ((S0.trans S1).trans S');have env2:=env1.grow S2;obtain⟨ks,u,k1,k2,k3⟩:=h2;have eu:=Ke (t2.rp env2.same) k2;obtain⟨b',rfl,hb'⟩:=UD (Rp.mono S2 (t1.rp env1.same)) k1;subst eu;refine⟨S2 _ _ (S1 _ _ V0),b',ks,rfl,hb',q _ _ _ k3 (fun c o hc=>?_) ⟨p,rfl,(fun _ e=>e▸np),V0⟩⟩
 have:c≠p:=fun e=>by subst e;rw[np]at hc;cases hc
 rw[Vl this];exact S2 _ _ (S1 _ _ (S0 _ _ hc))
end
section
variable {X:Cx}{K:Za}
def TB{tg l:Expr}{tl:TE}(hl:PE X l tl)(hK:X.K=K:=by rfl):PI X tg l (iTup K tl):=by subst hK;exact Dt hl
end
end Pu
namespace M
open PySem PySem.Spec PyProof.Rows L2 Own Pu
def tD(ms:List Int):D:=.tup (ms.map D.int)
def kT(ms:List Int):List Key:=ms.map Sum.inl
def Kj(ms:List Int):arg (tD ms)=.sh (tD ms):=by
 unfold arg tD imm;rw[Ux]
def Fp{N:List Str}{ms:List Int}{ds:List D}:Jo N (tD ms::ds)=some (.sh (tD ms))::(ds.map (fun d=>some (arg d))++List.replicate (N.length-(ds.length+1)) none):=by
 unfold Jo;rw[ZZ,Kj];rfl
def Ud(ms:List Int):Uk (tD ms)=some (kT ms):=by
 show UH (ms.map D.int)=some (ms.map Sum.inl)
 induction ms with
 |nil=>rfl
 |cons m r ih=>
  rw[ZZ,ZZ];unfold UH;rw[ih];rfl
def EH(ms:List Int):imm (tD ms)=true:=by
 unfold tD imm;exact Ux ms
def Pw{P:List Int->Prop}(h0:P [])(h1:∀r h,P r->P (r++[h]))(l:List Int):P l:=by
 have key:∀r:List Int,P r.reverse:=fun r=>by
  induction r with
  |nil=>exact h0
  |cons a r ih=>rw[List.reverse_cons];exact h1 _ _ ih
 rw[←List.reverse_reverse l];exact key _
def oc(c:Int->Int->Int):List Int->Int
 |[]=>0
 |a::r=>(r.map (c a)).sum+oc c r
def Keeps(ws:List (Int×Int))(o:List Int):Prop:=o.Pairwise fun a b=>(b,a)∉ws
def SS{f:Int->Int}{xs ys:List Int}(h:xs.Perm ys):(xs.map f).sum=(ys.map f).sum:=by
 induction h with
 |nil=>rfl
 |cons x _ ih=>rw[ZZ,ZZ,Qg,Qg,ih]
 |swap x y l=>
  simp only[ZZ,Qg];omega
 |trans _ _ i1 i2=>exact i1.trans i2
def NB{a b:List Int}(h:kT a=kT b):a=b:=List.map_inj_right (fun _ _=>Sum.inl.inj) |>.mp h
def Bo:∀{kvs:List (List Key×V)},(kvs.map (·.1)).Nodup->∀p∈kvs,valV kvs p.1=some p.2
 |[],_,p,h=>by cases h
 |q::r,nd,p,h=>by
  rw[ZZ,Yv]at nd;rcases ZQ.mp h with e|h
  ·rw[e];exact Jr rfl
  ·rw[Jp fun e=>nd.1 (Yd.mpr ⟨p,h,e.symm⟩)];exact Bo nd.2 p h
end M
namespace Pu
open PySem PySem.Spec PyProof.Rows L2 Own
section
variable {K:Za}{mg:Str->Option Value}{E:L2.St->XK}{H0 H H1 H':Hp}{B Z Z':Addr->Prop}{σ:L2.St}{γ:Γ}
abbrev PTW:=Γ->(Γ->D->Prop)->(Γ->Str->Prop)->Prop
def SndW(K:Za)(mg:Str->Option Value)(E:L2.St->XK)(t:TE)(p:PTW):Prop:=∀(H0:Hp) (B:Addr->Prop) (H:Hp) (σ:L2.St) (γ:Γ) (R:Γ->D->Prop) (X:Γ->Str->Prop) (Q:VK),(∀b,B b->∃o,H0 b=some o)->EnvR K H0 B H σ γ->p γ R X->
 (∀γ' d v H',R γ' d->EnvR K H0 B H' σ γ'->Fr B H σ γ H' σ γ'->Rp K (off (zof B γ' σ) H') d v->Q v H')->(∀γ' c H',X γ' c->EnvR K H0 B H' σ γ'->Fr B H σ γ H' σ γ'->E σ (.ref (ExcR.Vt mg c)) none H')->t σ H Q
variable {te:TE}{w:PTW}
def GY(w:PTW):PTS:=fun R γ=>w γ (fun γ' _=>R.nx γ') R.ex
def EM(hw:SndW K mg E te w):SndS K mg E (XM te) (GY w):=by
 intro H0 B H σ γ R D hB env h e;exact hw H0 B H σ γ _ _ _ hB env h (fun γ' d v H1 h1 e1 f1 _=>e.nx σ γ' H1 h1 e1 f1) fun γ' c H' hc e' f'=>e.ex σ γ' c H' hc e' f'
def Rps.dropLast:∀{ds:List D}{vs:List V},Rps K H ds vs->Rps K H ds.dropLast vs.dropLast
 |_,_,.nil=>.nil
 |_,_,.cons _ .nil=>.nil
 |_,_,.cons h (.cons h' r)=>.cons h (Rps.dropLast (.cons h' r))
end
def len1{α:Type}{us:List α}(h:us.length=1):∃a,us=[a]:=List.length_eq_one_iff.mp h
def len2{α:Type}{us:List α}(h:us.length=2):∃a b,us=[a,b]:=by
 cases us with
 |nil=>cases h
 |cons a r=>obtain⟨b,rfl⟩:=len1 (us:=r) (by simpa using h);exact⟨a,b,rfl⟩
def len3{α:Type}{us:List α}(h:us.length=3):∃a b c,us=[a,b,c]:=by
 cases us with
 |nil=>cases h
 |cons a r=>obtain⟨b,c,rfl⟩:=len2 (us:=r) (by simpa using h);exact⟨a,b,c,rfl⟩
def len4{α:Type}{us:List α}(h:us.length=4):∃a b c d,us=[a,b,c,d]:=by
 cases us with
 |nil=>cases h
 |cons a r=>obtain⟨b,c,d,rfl⟩:=len3 (us:=r) (by simpa using h);exact⟨a,b,c,d,rfl⟩
def len5{α:Type}{us:List α}(h:us.length=5):∃a b c d e,us=[a,b,c,d,e]:=by
 cases us with
 |nil=>cases h
 |cons a r=>obtain⟨b,c,d,e,rfl⟩:=len4 (us:=r) (by simpa using h);exact⟨a,b,c,d,e,rfl⟩
section
variable {P:Program}{w:World}{K:Za}{mg:Str->Option Value}{base:Heap}{W:Addr->Prop}
def HJ{X:Cx}:UE (ExcR.CXe P w) X E0:=fun _ _ _ _ _ _ _ h=>by
 obtain⟨a,T,C,H',_,_,z⟩:=h;exact z.elim
end
abbrev PTF:=Γ->Str->(Str->Prop)->XR->Prop
section
variable {K:Za}{mg:Str->Option Value}{E:L2.St->XK}{t:ExcR.TF}{p:PTF}{te:TE}{a:PTE}
def SndF(K:Za)(mg:Str->Option Value)(E:L2.St->XK)(t:ExcR.TF)(p:PTF):Prop:=∀(H0:Hp) (B:Addr->Prop) (H:Hp) (σ:L2.St) (γ:Γ) (out:Str) (R:Str->Prop) (X:XR) (Q:Str->Hp->Prop),EnvR K H0 B H σ γ->p γ out R X->
 (∀x H',R x->Same H H'->Q x H')->(∀c H',X c->Same H H'->E σ (.ref (ExcR.Vt mg c)) none H')->t σ H out Q
def GR:PTF:=fun _ out R _=>out.length<=sizeLine/\R out
def Hh:SndF K mg E ExcR.fNil GR:=fun H0 B H σ γ out R X Q env h q _=>⟨h.1,q _ H h.2 (Same.refl _)⟩
def GU(x:Str)(p:PTF):PTF:=fun γ out R X=>(out++x).length<=sizeLine/\p γ (out++x) R X
def N7{x:Str}(h:SndF K mg E t p):SndF K mg E (ExcR.fStr x t) (GU x p):=fun H0 B H σ γ out R X Q env hp q qx=>⟨hp.1,h H0 B H σ γ _ R X Q env hp.2 q qx⟩
def DE(a:PTE)(p:PTF):PTF:=fun γ out R X=>a γ (fun s=>match s.d with
 | .int i=>i.natAbs.log2<1920/\(out++(Str.ofString (toString i))).length<=sizeLine/\p γ (out++Str.ofString (toString i)) R X
 | .str x=>x.length<=sizeLine/\(out++x).length<=sizeLine/\p γ (out++x) R X
 |_=>False) X
def Ew(ha:SndE K mg E te a)(h:SndF K mg E t p):SndF K mg E (ExcR.fVal te t) (DE a p):=fun H0 B H σ γ out R X Q env hp q qx=>by
 refine ha H0 B H σ γ _ X _ env hp (fun s v H1 h1 S1 t1=>?_) qx;have env1:=env.grow S1;have rs:=t1.rp env1.same;split at h1
 ·rename_i i ei;rw[ei]at rs;exact .inl ⟨i,rs.int_inv,h1.1,h1.2.1,h H0 B H1 σ γ _ R X Q env1 h1.2.2 (fun x H' hx S'=>q x H' hx (S1.trans S')) fun c H' hc S'=>qx c H' hc (S1.trans S')⟩
 ·rename_i x ex;rw[ex]at rs;exact .inr ⟨x,rs.str_inv,h1.1,h1.2.1,h H0 B H1 σ γ _ R X Q env1 h1.2.2 (fun x H' hx S'=>q x H' hx (S1.trans S')) fun c H' hc S'=>qx c H' hc (S1.trans S')⟩
 ·exact h1.elim
def pF(p:PTF):PTE:=fun γ R X=>p γ Str.empty (fun x=>R (.sh (.str x))) X
def se_f(h:SndF K mg E t p):SndE K mg E (ExcR.tF t) (pF p):=fun H0 B H σ γ R X Q env hp q qx=>
 h H0 B H σ γ _ _ X _ env hp (fun x H' hx S'=>q _ _ H' hx S' (.str x)) qx
end
open M
abbrev plD(f:List (Int×Int)):D:=.lst (f.map prD)
def Pm(e:Option Str)(X:Str->Prop)(R:Prop):Prop:=match e with|some c=>X c|none=>R
def atP1(ps:List (Int×Int))(p:Int):Int×Int:=ps.getD (p-1).toNat (0,0)
def Ik{ps:List (Int×Int)}{p:Int}{x:Int×Int}(h1:1<=p)(h2:p<=ps.length):cutD (ps.map prD) none (some (p-1))++[prD x]++cutD (ps.map prD) (some p) none=(ps.set (p-1).toNat x).map prD:=by
 rw[Kc,Kc,Nh ps (by omega),T4 ps (by omega)];have e:p.toNat=(p-1).toNat+1:=by omega
 rw[e,List.set_eq_take_append_cons_drop,ZK (by omega),Yq,ZZ,Qc];rfl
def Uv{ps:List (Int×Int)}{p:Int}(h1:1<=p)(h2:p<=ps.length):atI (ps.map prD) (p-1)=some (prD (atP1 ps p)):=by
 rw[BF (by omega) (by omega)];unfold atP1;rw[ZM,ZC (show(p-1).toNat<ps.length by omega)];rfl
def Pk{ps:List (Int×Int)}{p:Int}(h1:1<=p)(h2:p<=ps.length):atP1 ps p∈ps:=by
 have hl:(p-1).toNat<ps.length:=by omega
 unfold atP1;rw[ZM,ZC hl];exact Yb hl
def nextM(hs r:List Int):List (List Int):=(hs.filter fun h=>!decide (h∈r)).map fun h=>r++[h]
def J0(hs:List Int):Nat->List (List Int)
 | 0=>[[]]
 |k+1=>(J0 hs k).flatMap (nextM hs)
def next_mem{hs r o:List Int}:o∈nextM hs r↔∃h,h∈hs/\h∉r/\o=r++[h]:=by
 unfold nextM;rw[Yd];constructor
 ·rintro⟨h,h1,rfl⟩;rw[ZV]at h1;exact⟨h,h1.1,by simpa using h1.2,rfl⟩
 ·rintro⟨h,h1,h2,rfl⟩;exact⟨h,ZV.mpr ⟨h1,by simpa using h2⟩,rfl⟩
def rows_mem{hs:List Int}:∀{k:Nat}{r:List Int},r∈J0 hs k↔r.length=k/\r.Nodup/\∀x∈r,x∈hs
 | 0,r=>by
  unfold J0;constructor
  ·intro h;rw[ZE]at h;subst h;exact⟨rfl,YZ,by simp⟩
  ·rintro⟨h,_⟩;rw[YK.mp h];exact ZE.mpr rfl
 |k+1,r=>by
  unfold J0;rw[List.mem_flatMap];constructor
  ·rintro⟨p,hp,ho⟩;obtain⟨h,h1,h2,rfl⟩:=next_mem.mp ho;obtain⟨a,b,c⟩:=rows_mem.mp hp;refine⟨by rw[ZS,a];rfl,?_,fun x hx=>?_⟩
   ·rw[Y0];exact⟨b,by simp,fun x hx y hy z=>h2 (by rw[ZE]at hy;rw[←hy,←z];exact hx)⟩
   ·rcases ZY.mp hx with hx|hx
    ·exact c x hx
    ·rw[ZE]at hx;rw[hx];exact h1
  ·rintro⟨a,b,c⟩;rcases List.eq_nil_or_concat r with rfl|⟨p,h,rfl⟩
   ·cases a
   ·rw[List.concat_eq_append]at a b c ⊢;rw[Y0]at b;obtain⟨b1,_,b3⟩:=b;refine⟨p,rows_mem.mpr ⟨by rw[ZS]at a;simpa using a,b1,fun x hx=>c x (Wl _ hx)⟩,next_mem.mpr ⟨h,c h (by simp),fun z=>b3 h z h (by simp) rfl,rfl⟩⟩
def SL{hs r:List Int}(nd:hs.Nodup):r∈J0 hs hs.length↔r.Perm hs:=by
 rw[rows_mem];constructor
 ·rintro⟨h1,h2,h3⟩;rw[YC h2 nd];refine fun x=>⟨h3 x,fun hx=>?_⟩;by_cases c:x∈r
  ·exact c
  ·have:(x::r).length<=hs.length:=List.Nodup.length_le_of_subset (Yv.mpr ⟨c,h2⟩) (by
    intro y hy;rcases ZQ.mp hy with rfl|hy
    ·exact hx
    ·exact h3 y hy)
   rw[Ya]at this;omega
 ·intro h;exact⟨h.length_eq,h.nodup_iff.mpr nd,fun x hx=>h.mem_iff.mp hx⟩
def wdM(ps:List (Int×Int))(x:Int):Int:=(atP1 ps x).2
def VM(ps:List (Int×Int))(r:List Int)(x:Int):Int:=wdM ps x*(((runI 1 (x-1).toNat).filter fun y=>!decide (y∈r)).map (wdM ps)).sum
def stD(q:List Int×Int):D:=.tup [tD q.1,.int q.2]
def Jm(ps:List (Int×Int))(q:List Int×Int):List (List Int×Int):=((runI 1 ps.length).filter fun x=>!decide (x∈q.1)).map fun x=>(q.1++[x],q.2+VM ps q.1 x)
def Ie(q:List Int×Int):imm (stD q)=true:=by
 unfold stD imm imms;rw[EH];unfold imms imm;rfl
def AQ(q:List Int×Int):arg (stD q)=.sh (stD q):=by
 unfold arg;rw[Ie]
def run_mem{n:Nat}{x:Int}:x∈runI 1 n↔1<=x/\x<=n:=by
 unfold runI;rw[Yd];constructor
 ·rintro⟨k,hk,rfl⟩
  have:=Yw.mp hk
  omega
 ·rintro⟨h1,h2⟩;exact⟨(x-1).toNat,Yw.mpr (by omega),by omega⟩
def Cw(ps:List (Int×Int))(q:List Int×Int):(Jm ps q).length<=ps.length:=by
 unfold Jm;rw[ZA]
 have:=Yz (fun x=>!decide (x∈q.1)) (runI 1 ps.length)
 rwa[JK]at this
def PV{ps:List (Int×Int)}(h:ps.length<=7):∀S:List (List Int×Int),(S.flatMap (Jm ps)).length<=S.length*7
 |[]=>by simp
 |q::t=>by
  rw[List.flatMap_cons,ZS,Ya,Nat.succ_mul];have h1:=Cw ps q;have h2:=PV h t;omega
def VQ(ps:List (Int×Int)):Nat->List (List Int×Int)
 | 0=>[([],0)]
 |k+1=>(VQ ps k).flatMap (Jm ps)
def Sl{ps:List (Int×Int)}:∀{k:Nat}{q:List Int×Int},q∈VQ ps k->q.1.length=k
 | 0,q,h=>by
  unfold VQ at h;rw[ZE]at h;rw[h];rfl
 |k+1,q,h=>by
  unfold VQ at h;obtain⟨p,hp,hq⟩:=List.mem_flatMap.mp h;unfold Jm at hq;obtain⟨x,_,rfl⟩:=Yd.mp hq;show(p.1++[x]).length=k+1;rw[ZS,Sl hp];rfl
def Sy{ps:List (Int×Int)}(h:ps.length<=7):∀k,(VQ ps k).length<=7 ^ k
 | 0=>by unfold VQ;simp
 |k+1=>by
  unfold VQ;rw[Nat.pow_succ];exact ZU (PV h _) (Nat.mul_le_mul_right _ (Sy h k))
def cstA(ps:List (Int×Int)):List Int->List Int->Int
 |_,[]=>0
 |pre,x::t=>VM ps pre x+cstA ps (pre++[x]) t
def Sd(ps:List (Int×Int))(x:Int):∀(t pre:List Int),cstA ps pre (t++[x])=cstA ps pre t+VM ps (pre++t) x
 |[],pre=>by
  show VM ps pre x+0=0+VM ps (pre++[]) x;rw[YD];omega
 |y::t,pre=>by
  show VM ps pre y+cstA ps (pre++[y]) (t++[x])=VM ps pre y+cstA ps (pre++[y]) t+VM ps (pre++y::t) x;rw[Sd ps x t (pre++[y]),Qc];show _+(_+VM ps (pre++y::t) x)=_;omega
def KE(ps:List (Int×Int)):∀k,VQ ps k=(J0 (runI 1 ps.length) k).map fun r=>(r,cstA ps [] r)
 | 0=>rfl
 |k+1=>by
  unfold VQ J0;rw[KE ps k,List.flatMap_map,List.map_flatMap];congr 1;funext r;unfold Jm nextM;rw[Yx];apply Qz;intro x _;show(r++[x],cstA ps [] r+VM ps r x)=(r++[x],cstA ps [] (r++[x]));rw[Sd,List.nil_append]
def invM(ps:List (Int×Int)):List Int->Int
 |[]=>0
 |x::t=>wdM ps x*((t.filter fun y=>decide (y<x)).map (wdM ps)).sum+invM ps t
def JM(n:Nat):(runI 1 n).Nodup:=by
 unfold runI;rw[List.Nodup,YL];exact List.nodup_range.imp fun h z=>h (by omega)
def BY(n:Nat):(runI 1 n).Pairwise (· < ·):=by
 unfold runI;rw[YL];exact List.pairwise_lt_range.imp fun h=>by omega
def Pp{ps:List (Int×Int)}:∀{t pre:List Int},(pre++t).Perm (runI 1 ps.length)->cstA ps pre t=invM ps t
 |[],_,_=>rfl
 |x::t,pre,h=>by
  have nd:=h.nodup_iff.mpr (JM _)
  have hmem:∀y,y∈pre\/y=x\/y∈t↔1<=y/\y<=ps.length:=fun y=>by
   rw[←run_mem,←h.mem_iff,ZY,ZQ]
  rw[Y0]at nd;obtain⟨n1,n2,n3⟩:=nd;have n4:=Yv.mp n2
  have key:((runI 1 (x-1).toNat).filter fun y=>!decide (y∈pre)).Perm (t.filter fun y=>decide (y<x)):=by
   rw[YC ((JM _).filter _) (n4.2.filter _)];intro y;rw[ZV,ZV,run_mem];have hy:=hmem y;have hx:=(hmem x).mp (.inr (.inl rfl));constructor
   ·rintro⟨⟨a,b⟩,c⟩;have c':y∉pre:=by simpa using c
    have:y<x:=by omega
    rcases hy.mpr (by omega)with z|z|z
    ·exact absurd z c'
    ·omega
    ·exact⟨z,ZJ this⟩
   ·rintro⟨a,b⟩;have b':y<x:=ZX b
    have:=hy.mp (.inr (.inr a))
    refine⟨by omega,?_⟩
    have:y∉pre:=fun z=>n3 y z y (Yc _ a) rfl
    simpa using this
  show VM ps pre x+cstA ps (pre++[x]) t=wdM ps x*_+invM ps t;rw[Pp (t:=t) (pre:=pre++[x]) (by rw[Qc];exact h)];unfold VM;rw[SS key]
def Kd{ps:List (Int×Int)}{x y:Int}(h:x<y)(b:List Int):∀a:List Int,invM ps (a++y::x::b)=invM ps (a++x::y::b)+wdM ps x*wdM ps y
 |[]=>by
  show wdM ps y*(((x::b).filter fun z=>decide (z<y)).map (wdM ps)).sum+(wdM ps x*((b.filter fun z=>decide (z<x)).map (wdM ps)).sum+invM ps b)=wdM ps x*(((y::b).filter fun z=>decide (z<x)).map (wdM ps)).sum+(wdM ps y*((b.filter fun z=>decide (z<y)).map (wdM ps)).sum+invM ps b)+wdM ps x*wdM ps y;have e1:((x::b).filter fun z=>decide (z<y))=x::b.filter fun z=>decide (z<y):=YU (ZJ h);have e2:((y::b).filter fun z=>decide (z<x))=b.filter fun z=>decide (z<x):=YV (by simp;omega);rw[e1,e2,ZZ,Qg,Int.mul_add,Int.mul_comm (wdM ps x) (wdM ps y)];omega
 |c::a=>by
  show wdM ps c*(((a++y::x::b).filter fun z=>decide (z<c)).map (wdM ps)).sum+invM ps (a++y::x::b)=wdM ps c*(((a++x::y::b).filter fun z=>decide (z<c)).map (wdM ps)).sum+invM ps (a++x::y::b)+wdM ps x*wdM ps y;rw[Kd h b a,SS (List.Perm.filter _ (List.Perm.append_left a (List.Perm.swap x y b)))];omega
def Ny:∀{r:List Int},r.Nodup->(∀a x y b,r=a++x::y::b->¬y<x)->r.Pairwise (· < ·)
 |[],_,_=>List.Pairwise.nil
 |[x],_,_=>Wv _ _
 |x::y::t,nd,h=>by
  have nd':=Yv.mp nd;have ih:=Ny nd'.2 fun a u v b e=>h (x::a) u v b (by rw[e];rfl)
  have hxy:x<y:=by
   have h1:=h [] x y t rfl;have h2:x≠y:=fun z=>nd'.1 (by rw[z];simp);omega
  refine W2.mpr ⟨fun z hz=>?_,ih⟩;rcases ZQ.mp hz with rfl|hz
  ·exact hxy
  ·have:=(W2.mp ih).1 z hz
   omega
def XA{n:Nat}{r:List Int}(h:r.Perm (runI 1 n))(ne:r≠runI 1 n):∃a x y b,r=a++x::y::b/\y<x:=by
 by_cases c:∃a x y b,r=a++x::y::b/\y<x
 ·exact c
 ·refine absurd ?_ ne;exact BV (Ny (h.nodup_iff.mpr (JM n)) fun a x y b e z=>c ⟨a,x,y,b,e,z⟩) (BY n) fun z=>h.mem_iff
end Pu
namespace Pu
open PySem PySem.Spec PyProof.Rows L2 Own
section
variable {K:Za}{mg:Str->Option Value}{E:L2.St->XK}
def pSlT(a:PTE)(l u:PTO):PTE:=fun γ R X=>a γ (fun s=>l γ (fun lo=>u γ (fun hi=>∃ds,tupD s.shd=some ds/\¬(HT.sIx ds.length 0 lo=0/\HT.sIx ds.length ds.length hi=ds.length)/\R (.sh (.tup (cutD ds lo hi)))) X) X) X
def Ni{te:TE}{tl th:TO}{a:PTE}{l u:PTO}(ha:SndE K mg E te a)(hl:SndO K mg E tl l)(hu:SndO K mg E th u):SndE K mg E (tSl (rSlT K) te tl th) (pSlT a l u):=by
 intro H0 B H σ γ R X Q env p q qx;refine ha H0 B H σ γ _ X _ env p (fun x v H1 h1 S1 t1=>?_) qx;refine hl H0 B H1 σ γ _ X _ (env.grow S1) h1 (fun lo H2 h2 S2=>?_) fun c H' hc S'=>qx c H' hc (S1.trans S');refine hu H0 B H2 σ γ _ X _ ((env.grow S1).grow S2) h2 (fun hi H3 h3 S3=>?_) fun c H' hc S'=>qx c H' hc ((S1.trans S2).trans S');have S13:=(S1.trans S2).trans S3;obtain⟨ds,e,hn,hR⟩:=h3;have env3:=env.grow S13;have t3:=t1.grow (S2.trans S3);cases es:x.shd with
 |none=>rw[es]at e;cases e
 |some d=>
  rw[es]at e;have rd:=t3.shd env3.same env.zm S13 es;cases d with
  |tup ds'=>
   cases e
   obtain⟨b,us,rfl,hb,r⟩:=Rp.tup_inv rd;refine⟨b,us,rfl,SqT.of (off_sub _ _ hb),by rw[r.len];exact hn,fun m nm=>q _ _ _ hR (S13.trans (VA nm)) ?_⟩;refine .tup (VJ V0 fun z=>?_) (Rps.mono (Vm (VA nm) fun _ _ _ z=>z) r.cut)
   have:=JI S13 (env.zm m z)
   rw[nm]at this;exact this
  |int _=>cases e
  |bl _=>cases e
  |non=>cases e
  |str _=>cases e
  |ty _=>cases e
  |lst _=>cases e
  |scr _=>cases e
  |dK _=>cases e
  |dT _=>cases e
  |loc _ _=>cases e
  |err _=>cases e
  |ref _=>cases e
  |dF _=>cases e
  |ins _ _ _=>cases e
def Fn{X:Cx}(hK:X.K=K:=by rfl):SlR X (rSlT K):=by subst hK;exact Cq
end
open M
def Kf(ws:List (Int×Int))(a b:Int):Option Str:=if ¬(1<=a/\a<=10)then some "BadHolder" else if ¬(1<=b/\b<=10)then some "BadHolder" else if a=b then some "LikeHolders" else if (a,b)∈ws then some "WishStands" else if 20<=ws.length then some "TooManyWishes" else none
def Hj{ws:List (Int×Int)}{a b:Int}(h:UY ws)(e:Kf ws a b=none):UY (ws++[(a,b)]):=by
 unfold Kf at e;split at e
 ·cases e
 split at e
 ·cases e
 split at e
 ·cases e
 split at e
 ·cases e
 split at e
 ·cases e
 rename_i c1 c2 c3 c4 c5;obtain⟨h1,h2,h3⟩:=h;have k1:=Q8.mp c1;have k2:=Q8.mp c2;refine⟨by rw[ZS,Wf];omega,?_,fun q hq=>?_⟩
 ·rw[Y0];exact⟨h2,by simp,fun x hx y hy z=>by rw[ZE]at hy;subst hy;exact c4 (z▸hx)⟩
 ·rcases ZY.mp hq with hq|hq
  ·exact h3 q hq
  ·rw[ZE]at hq;subst hq;exact⟨⟨k1.1,k1.2,k2.1,k2.2⟩,c3⟩
def En:UY []:=⟨by decide,YZ,fun q hq=>by cases hq⟩
def KJ(m:List Int)(k:Int):Int:=1+(k*m.getD 1 0+m.getD 2 0) % 10
def FQ{m:List Int}(hM:Menu m){x y:Int}(hx:0<=x/\x<=9)(hy:0<=y/\y<=9)(h:x≠y):KJ m x≠KJ m y:=by
 obtain⟨a,b,c,d,e,rfl,ha,⟨_,_,hb⟩,hc,hd,he⟩:=hM;intro z;apply h;have z':1+(x*b+c) % 10=1+(y*b+c) % 10:=z;rcases hb with rfl|rfl|rfl|rfl<;>omega
def two_ne{o r p:Int}(h1:0<=o/\o<p)(h2:0<=r/\r<p-1):(0<=(o+1+r) % p/\(o+1+r) % p<p)/\o≠(o+1+r) % p:=by
 refine⟨⟨Qw _ (by omega),WT _ (by omega)⟩,?_⟩;by_cases h:o+1+r<p
 ·rw[Int.emod_eq_of_lt (by omega) h];omega
 ·rw[←Int.sub_emod_right,Int.emod_eq_of_lt (by omega) (by omega)];omega
def HG{ws:List (Int×Int)}{a b:Int}(h1:1<=a/\a<=10)(h2:1<=b/\b<=10)(h3:a≠b)(h4:(a,b)∉ws)(h5:ws.length<20):Kf ws a b=none:=by
 unfold Kf;rw[ZI (fun z=>z h1),ZI (fun z=>z h2),ZI h3,ZI h4,ZI (by omega)]
abbrev d3(k:Str)(a b:Int):D:=.tup [.str k,.int a,.int b]
end Pu
namespace M
open PySem PySem.Spec PyProof.Rows L2 Own Pu
def N0{ws:List (Int×Int)}{o:List Int}(hk:Keeps ws o){a b:Int}(ha:a∈o)(hb:b∈o.take (o.idxOf a)):(a,b)∉ws:=by
 obtain⟨j,hj,e⟩:=Yi.mp hb;rw[Yf]at hj;rw[Y7]at e;have g:=List.idxOf_lt_length_iff.mpr ha
 have:=YE.mp hk j (o.idxOf a) (by omega) g (by omega)
 rw[e,WR g]at this;exact this
end M
namespace Pu
open PySem PySem.Spec PyProof.Rows L2 Own
structure DI (K:Za) (x:Str) (st:Stmt):Prop where
 ex:∃f fd,PySem.W.nsIn K mainGlobals x=some (some (.ref f))/\Fun K x x st f fd
section
variable {K:Za}{h:Heap}{mg:Str->Option Value}
def di{x:Str}{st:Stmt}{f:Addr}{oc:Value}{od an:Option Addr}{osl:Array (Option Value)}{kV doc pm cdv ct:Value}(a:PySem.W.nsIn K mainGlobals x=some (some (.ref f)))(l:K.lookup f=some ⟨oc,od,.func (PySem.W.fnOf x x (JJ st) (VZ st) (Vi st) .none kV doc pm an cdv ct),osl⟩)(c:PySem.W.codeIn K cdv x=true)(k:PySem.W.keepIn K (.ref f)=true):DI K x st:=⟨f,_,a,Tt l c k⟩
def DI.d {x:Str}{st:Stmt}{ps:List Str} (D:DI K x st) (X:K.In h) (G0:h.Ns mainGlobals mg)
  (b:∀(kV doc pm:Value) (an:Option Addr) (cdv ct:Value) (us:List Value),us.length=ps.length->bindArgs (PySem.W.fnOf x x (JJ st) (VZ st) (Vi st) .none kV doc pm an cdv ct) ⟨us,[]⟩=pure (ps.zip us)):Def K mg x st ps:=
 let ⟨_,_,a,F⟩:=D.ex
 ⟨_,_,F,Wz X G0 a,F.binds b⟩
end
def fs{N P:List Str}{sc:Scope}(h1:sc.kind=.function:=by rfl)(h2:sc.isCoroutine=false:=by rfl)(h3:sc.isGenerator=false:=by rfl)(h4:N.Nodup:=by decide +kernel)(h5:N.take P.length=P:=by rfl)(h6:∀x∈P,sc.names.lookup x=some .local\/sc.names.lookup x=some .cell:=by decide +kernel)(h7:∀y∈sc.names,y.2≠.free:=by decide +kernel):FnScope N P sc:=⟨h1,h2,h3,h4,h5,h6,h7⟩
def pz{X:Cx}{pos:Pos}{x:Str}{e:Expr}{te:TE}{pos':Pos}(i:Nat)(hN:X.N.Nodup)(he:PE X e te)(hi:X.N[i]?=some x:=by rfl)(hx:Loc X.env.scope x:=by first|exact Or.inl rfl|exact Or.inr rfl)(hs:swapsWith e (some (.Name x pos')) pos.line X.env=pure false:=by rfl)(hf:X.fn x=true\/X.env.scope.names.lookup x=some .local:=by first|exact .inl rfl|exact .inr rfl|assumption) :
  PS X (.Assign [.Name x pos'] e pos) (tAsg te (U7 i)):=EZ hN hi hx he hs hf
section
variable {K:Za}{mg:Str->Option Value}{E:L2.St->XK}{H0 H H1 H':Hp}{B Z Z':Addr->Prop}{σ:L2.St}{γ:Γ}
def pNm(i:Nat)(p:PTS):PTS:=fun R γ=>match γ[i]? with
 |some (some (.own (.lst ds)))=>∀a,p R (γ.set i (some (.own (.lsA a ds))))
 |_=>p R γ
def two(o1 o2:O)(a1 a2:Addr):Addr->Prop:=fun b=>o1.adr a1 b\/o2.adr a2 b
def TL(i:Nat):PTW:=fun γ R _=>match γ[i]? with
 |some (some (.own (.lsA x ds)))=>∃d,ds[ds.length-1]?=some d/\R (γ.set i (some (.own (.lsA x ds.dropLast)))) d
 |some (some (.own (.lst ds)))=>∃d,ds[ds.length-1]?=some d/\R (γ.set i (some (.own (.lst ds.dropLast)))) d
 |_=>False
def Gs(i:Nat):SndW K mg E (tBM0 K "list" rPop (tVar i)) (TL i):=by
 intro H0 B H σ γ R X Q hB env h q qx;unfold TL at h;split at h
 ·rename_i x ds hi;obtain⟨d,ed,h⟩:=h;obtain⟨v,hv,b,rfl,hb0,rfl,us,hb,rb⟩:=env.slot i _ hi;obtain⟨u,hu,ru⟩:=rb.get ed;refine⟨_,hv,.inl ⟨rfl,us,SqL.of hb⟩,b,us,u,rfl,rfl,hb,by rw[rb.len];exact hu,?_⟩;obtain⟨e2,f2⟩:=env.mutate (es:=.lsA b ds.dropLast) (us:=.lst us.dropLast) hi hv trivial fun F H' SF hF=>⟨rfl,_,hF,Rps.mono SF (Rps.dropLast rb)⟩;exact q _ _ _ _ h e2 f2 (Rp.mono f2.off ru)
 ·rename_i ds hi;obtain⟨d,ed,h⟩:=h;obtain⟨v,hv,b,rfl,hb0,us,hb,rb⟩:=env.slot i _ hi;obtain⟨u,hu,ru⟩:=rb.get ed;refine⟨_,hv,.inl ⟨rfl,us,SqL.of hb⟩,b,us,u,rfl,rfl,hb,by rw[rb.len];exact hu,?_⟩;obtain⟨e2,f2⟩:=env.mutate (es:=.lst ds.dropLast) (us:=.lst us.dropLast) hi hv trivial fun F H' SF hF=>⟨_,hF,Rps.mono SF (Rps.dropLast rb)⟩;exact q _ _ _ _ h e2 f2 (Rp.mono f2.off ru)
 ·exact h.elim
end
end Pu
namespace M
open PySem PySem.Spec PyProof.Rows L2 Own Pu
def hdN(ps:List (Int×Int))(m:Int):Int:=(ps.getD (m-1).toNat (0,0)).1
def rkN(ps:List (Int×Int))(o:List Int)(m:Int):Int:=(o.idxOf (hdN ps m):Nat)
def numN(ps:List (Int×Int))(h:Int):List Int:=((List.range ps.length).filter fun i=>decide ((ps.getD i (0,0)).1=h)).map fun i:Nat=>0+(i:Int)+1
def Hf{ps:List (Int×Int)}{h x:Int}:x∈numN ps h↔(1<=x/\x<=ps.length)/\hdN ps x=h:=by
 unfold numN hdN;rw[Yd];constructor
 ·rintro⟨i,hi,rfl⟩;obtain⟨h1,h2⟩:=ZV.mp hi
  have:=Yw.mp h1
  refine⟨by omega,?_⟩;rw[show(0+(i:Int)+1-1).toNat=i by omega];exact ZX h2
 ·rintro⟨h1,h2⟩;exact⟨(x-1).toNat,ZV.mpr ⟨Yw.mpr (by omega),ZJ h2⟩,by omega⟩
def NL(ps:List (Int×Int))(h:Int):(numN ps h).Pairwise (· < ·):=by
 unfold numN;rw[YL];exact(List.pairwise_lt_range.filter _).imp fun {a b} hab=>by omega
def FC(n:Nat):(runI 1 n).Nodup:=by
 unfold runI;exact List.Pairwise.map _ (fun a b (h:a≠b) z=>h (by omega)) List.nodup_range
def Cs{ps:List (Int×Int)}{o G mine:List Int}{i:Nat}(nd:o.Nodup)(hi:i<o.length)(g1:G.Nodup)(g2:∀x,x∈G↔(1<=x/\x<=ps.length)/\hdN ps x∈o.take i)(hm:mine.Perm (numN ps o[i])) :
  (G++mine).Nodup/\(∀x,x∈G++mine↔(1<=x/\x<=ps.length)/\hdN ps x∈o.take (i+1))/\(∀x∈G,∀y∈mine,rkN ps o x<rkN ps o y)/\∀y∈mine,rkN ps o y=i:=by
 have hmem:∀x,x∈mine↔(1<=x/\x<=ps.length)/\hdN ps x=o[i]:=fun x=>hm.mem_iff.trans Hf
 have hni:o[i]∉o.take i:=fun z=>by
  obtain⟨j,hj,e⟩:=Yi.mp z;rw[Yf]at hj;rw[Y7]at e
  have:=(List.getElem_inj (h₀:=by omega) (h₁:=hi) nd).mp e
  omega
 have hr:∀y∈mine,rkN ps o y=i:=fun y hy=>by
  unfold rkN;rw[((hmem y).mp hy).2,nd.idxOf_getElem i hi]
 have hl:∀x∈G,rkN ps o x<i:=fun x hx=>by
  obtain⟨j,hj,e⟩:=Yi.mp ((g2 x).mp hx).2;rw[Yf]at hj;rw[Y7]at e;unfold rkN;rw[←e,nd.idxOf_getElem j (by omega)];omega
 refine⟨Y0.mpr ⟨g1,hm.symm.nodup ((NL ps _).imp fun h=>Int.ne_of_lt h),fun x hx y hy z=>?_⟩,fun x=>?_,fun x hx y hy=>?_,hr⟩
 ·subst z
  have:=((g2 x).mp hx).2
  rw[((hmem x).mp hy).2]at this;exact hni this
 ·rw[ZY,g2 x,hmem x,Yg hi,ZY,ZE];constructor
  ·rintro(⟨h1,h2⟩|⟨h1,h2⟩)
   ·exact⟨h1,.inl h2⟩
   ·exact⟨h1,.inr h2⟩
  ·rintro⟨h1,h2|h2⟩
   ·exact .inl ⟨h1,h2⟩
   ·exact .inr ⟨h1,h2⟩
 ·have:=hl x hx
  rw[hr y hy];exact this
end M
namespace Pu
open PySem PySem.Spec PyProof.Rows L2 Own
section
variable {X:Cx}{k j:Nat}{x:Str}{ps:List Str}{sp:Sp}{e a b c:Expr}{es:List Expr}{t:TA}{te tf tg:TE}{p pos:Pos}
def fz(C:Callee X.prog X.w X.K X.mg X.base CX0 k x ps sp)(hr:Room j X.A)(ha:PA X (e::es) t)(hk:k<=j:=by decide)(hg:Gl X x:=by rfl)(hdb:(x==("__debug__" : Str))=false:=by decide)(he:starEach (e::es) X.env=(false,eval e X.env)::starEach es X.env:=by rfl)(hpl:(backTo pos (starEach es X.env)).any (·.1)=false:=by rfl) :
  PE X (.Call (.Name x p) (e::es) [] pos) (Xr sp [] E0 t):=UQ C (hr.mono hk) Df ha hg hdb he hpl
def jx(K:Za)(ha:PE X a te)(hb:PE X b tf)(hK:X.K=K:=by rfl)(hs:NU b:=by intro _ _;rfl):PE X (.Subscript a b pos) (tOp (fun x y H Q=>rIxL K x y H Q\/rIxT K x y H Q) te tf):=FI (Gu hK) ha hb hs
def gz(i:Nat)(hN:X.N.Nodup)(hi:X.N[i]?=some x:=by rfl)(hx:Loc X.env.scope x:=by first|exact Or.inl rfl|exact Or.inr rfl)(hf:X.fn x=true\/X.env.scope.names.lookup x=some .local:=by first|exact .inl rfl|exact .inr rfl|assumption):PG X (.Name x pos) (U7 i):=Kl hN hi hx hf
def ln(K:Za)(hm:X.mg "len"=none)(ha:PE X a te)(hK:X.K=K:=by rfl)(hg:Gl X "len":=by rfl)(hs:starEach [a] X.env=(false,eval a X.env)::starEach [] X.env:=by rfl)(hpl:(backTo pos (starEach [] X.env)).any (·.1)=false:=by rfl) :
  PE X (.Call (.Name "len" p) [a] [] pos) (tCB (fun xs H Q=>∃x n,xs=[x]/\LenV K x H n/\Q (.int (n:Nat)) H) (VR te tNil)):=VT (Ep hK) hg hm PySem.boot_len (Vw ha VB hs) (by decide) (by decide) hs hpl
def cq(K:Za)(hr:Room j X.A)(ha:PE X a te)(hb:PE X b tf)(hK:X.K=K:=by rfl):PT X (.Compare a [.Eq] [b] pos) (Kb (tOp (fun x y H Q=>rEq x y H Q\/rEqL K false x y H Q) te tf)):=Vv (X0 hr.units0 hK) ha hb (VF _)
def cn(K:Za)(hr:Room j X.A)(ha:PE X a te)(hb:PE X b tf)(hK:X.K=K:=by rfl):PT X (.Compare a [.NotEq] [b] pos) (Kb (tOp (fun x y H Q=>rNe x y H Q\/rEqL K true x y H Q) te tf)):=Vv (B0 hr.units0 hK) ha hb (VF _)
def az(ha:PE X a te)(h1:starEach [a] X.env=(false,eval a X.env)::starEach [] X.env:=by rfl):PA X [a] (VR te tNil):=Vw ha VB h1
def bz(ha:PE X a te)(hb:PE X b tf)(h1:starEach [a,b] X.env=(false,eval a X.env)::starEach [b] X.env:=by rfl)(h2:starEach [b] X.env=(false,eval b X.env)::starEach [] X.env:=by rfl):PA X [a,b] (VR te (VR tf tNil)):=Vw ha (Vw hb VB h2) h1
def dz(ha:PE X a te)(hb:PE X b tf)(hc:PE X c tg)(h1:starEach [a,b,c] X.env=(false,eval a X.env)::starEach [b,c] X.env:=by rfl)(h2:starEach [b,c] X.env=(false,eval b X.env)::starEach [c] X.env:=by rfl)(h3:starEach [c] X.env=(false,eval c X.env)::starEach [] X.env:=by rfl):PA X [a,b,c] (VR te (VR tf (VR tg tNil))):=Vw ha (Vw hb (Vw hc VB h3) h2) h1
end
section
variable {K:Za}{mg:Str->Option Value}{E:L2.St->XK}{ta tb tc:TE}{a b c:PTE}
def sz(ha:SndE K mg E ta a):SndA K mg E (VR ta tNil) (Ul a pNil):=V8 ha VS
def tz(ha:SndE K mg E ta a)(hb:SndE K mg E tb b):SndA K mg E (VR ta (VR tb tNil)) (Ul a (Ul b pNil)):=V8 ha (sz hb)
def uz(ha:SndE K mg E ta a)(hb:SndE K mg E tb b)(hc:SndE K mg E tc c):SndA K mg E (VR ta (VR tb (VR tc tNil))) (Ul a (Ul b (Ul c pNil))):=V8 ha (tz hb hc)
end
section
variable {K:Za}{h:Heap}{mg:Str->Option Value}{C C':Addr}{x m q:Str}{st:Stmt}{ps:List Str}
abbrev Bd(x q:Str)(st:Stmt)(ps:List Str):Prop:=∀(kV doc pm:Value) (an:Option Addr) (cdv ct:Value) (us:List Value),us.length=ps.length->bindArgs (PySem.W.fnOf x q (JJ st) (VZ st) (Vi st) .none kV doc pm an cdv ct) ⟨us,[]⟩=pure (ps.zip us)
def DI.e (D:DI K x st) (X:K.In h) (G0:h.Ns mainGlobals mg) (b:Bd x x st ps:=by
  intro _ _ _ _ _ _ us hl
  first
   |(obtain⟨_,rfl⟩:=Pu.len1 hl;rfl)
   |(obtain⟨_,_,rfl⟩:=Pu.len2 hl;rfl)
   |(obtain⟨_,_,_,rfl⟩:=Pu.len3 hl;rfl)
   |(obtain⟨_,_,_,_,rfl⟩:=Pu.len4 hl;rfl)
   |(obtain⟨_,_,_,_,_,rfl⟩:=Pu.len5 hl;rfl)):Def K mg x st ps:=D.d X G0 b
end
section
variable {P:Program}{w:World}{K:Za}{mg:Str->Option Value}{base:Heap}{N ps:List Str}{sp:Sp}{p:PTS}{x q:Str}{st:Stmt}{k:Nat}{W:Addr->Prop}
structure Uz (K:Za) (mg:Str->Option Value) (N ps:List Str) (sp:Sp) (p:PTS):Prop where
 len:∀vs H Q E,sp vs H Q E->vs.length=ps.length
 run:∀vs H Q E t,sp vs H Q E->SndS K mg (fun _=>E) t p->t {nx:=fun _ H'=>Q .non H',rt:=Q} (start N vs) H
def Uz.a {c:Pc} (hp:∀ds R X,c ds R X->ds.length=ps.length/\p {nx:=fun _=>R (.sh .non),rt:=R,ex:=fun _ e=>X e} (Jo N ds)) (hn:ps.length<=N.length:=by decide):Uz K mg N ps (spOf mg c K) p:=
 ⟨fun _ _ _ _ h=>G8 h fun ds R X z=>(hp ds R X z).1,fun _ _ _ _ _ h s=>Em h s hn hp⟩
def _root_.Own.Def.oz (D:Def K mg x st ps) (S:FnScope N ps (Vi st))
  (tr:∀(f:Addr) (cdv:Value) (A:Around) (outer:List Env) (s:Shared) (H:Hp) (E:XK),Room k (A.deeper (envOfC x (Vi st) s.heap.objs.size f cdv))->
   ∃t,PSs (cxOf CX0 P w K mg base N x (Vi st) f cdv A outer s H E).nox (VZ st) t/\SndS K mg (fun _=>E) t p) (u:Uz K mg N ps sp p):Callee P w K mg base CX0 (k+1) x ps sp:=
 D.ok S u.len fun f cdv A outer s H vs Q E hr h=>(tr f cdv A outer s H E hr).elim fun t z=>⟨t,z.1,u.run _ _ _ _ _ h z.2⟩
def _root_.Own.Def.ox (D:Def K mg x st ps) (S:FnScope N ps (Vi st))
  (tr:∀(f:Addr) (cdv:Value) (A:Around) (outer:List Env) (s:Shared) (H:Hp) (E:XK),Room k (A.deeper (envOfC x (Vi st) s.heap.objs.size f cdv))->
   ∃t,PSs (cxOf (ExcR.CXe P w) P w K mg base N x (Vi st) f cdv A outer s H E) (VZ st) t/\SndS K mg (fun _=>E) t p) (u:Uz K mg N ps sp p):Callee P w K mg base (ExcR.CXe P w) (k+1) x ps sp:=
 ExcR.Def.okX D S u.len fun f cdv A outer s H vs Q E hr h=>(tr f cdv A outer s H E hr).elim fun t z=>⟨t,z.1,u.run _ _ _ _ _ h z.2⟩
end
section
variable {K:Za}{h:Heap}{mg:Str->Option Value}{x:Str}{C:Addr}
structure EI (K:Za) (x:Str) (C:Addr):Prop where
 a:PySem.W.nsIn K mainGlobals x=some (some (.ref C))
 g:ExcR.ErrGet K C
def ei{d:ClassData}(a:PySem.W.nsIn K mainGlobals x=some (some (.ref C)))(q:PySem.W.excIn K C [.type "ValueError",.type "Exception",.type "BaseException",.type "object"] "ValueError.__new__"=true)(ga:PySem.W.findIn K (.ref C) "__getattribute__"=some (some (.builtin "BaseException.__getattribute__")))(gt:PySem.W.findIn K (.ref C) "__getattr__"=some none)(cl:PySem.W.findIn K (.ref C) "__class__"=some (some (.builtin "object.__class__")))(i:PySem.W.clsIn K C=some d):EI K x C:=⟨a,⟨⟨q⟩,ga,gt,cl,by rw[i];rfl⟩⟩
def EI.c (y:EI K x C) (X:K.In h) (G0:h.Ns mainGlobals mg):ExcR.Vt mg x=C:=ExcR.ET (Wz X G0 y.a)
def EI.m (y:EI K x C) (X:K.In h) (G0:h.Ns mainGlobals mg):mg x=some (.ref (ExcR.Vt mg x)):=by rw[y.c X G0];exact Wz X G0 y.a
def EI.k (y:EI K x C) (X:K.In h) (G0:h.Ns mainGlobals mg):ExcR.ErrGet K (ExcR.Vt mg x):=by rw[y.c X G0];exact y.g
end
end Pu
namespace M
open PySem PySem.Spec PyProof.Rows L2 Own Pu
def endsN(ps:List (Int×Int))(o:List Int):List Int:=o.flatMap (numN ps)
def LexR(ps:List (Int×Int))(o:List Int)(x y:Int):Prop:=rkN ps o x<rkN ps o y\/(rkN ps o x=rkN ps o y/\x<y)
def BZ{ps:List (Int×Int)}{o:List Int}(nd:o.Nodup):∀i,i<=o.length->(endsN ps (o.take i)).Nodup/\(∀x,x∈endsN ps (o.take i)↔(1<=x/\x<=ps.length)/\hdN ps x∈o.take i)/\(endsN ps (o.take i)).Pairwise (LexR ps o)
 | 0,_=>by simp[endsN]
 |i+1,hi=>by
  obtain⟨g1,g2,g5⟩:=BZ (ps:=ps) nd i (by omega)
  have et:endsN ps (o.take (i+1))=endsN ps (o.take i)++numN ps o[i]:=by
   unfold endsN;rw[Yg (by omega),List.flatMap_append];simp
  rw[et];obtain⟨s1,s2,s3,s4⟩:=Cs (mine:=numN ps o[i]) nd (by omega) g1 g2 (.refl _);refine⟨s1,s2,Wo.mpr ⟨g5,?_,fun x hx y hy=>.inl (s3 x hx y hy)⟩⟩;exact(Qk.mp (NL ps o[i])).imp fun {x y} h=>.inr ⟨by rw[s4 x h.1,s4 y h.2.1],h.2.2⟩
def Ao{ps:List (Int×Int)}{o:List Int}(nd:o.Nodup)(hin:∀q∈ps,q.1∈o):(endsN ps o).Perm (runI 1 ps.length)/\(endsN ps o).Pairwise (LexR ps o):=by
 obtain⟨g1,g2,g3⟩:=BZ (ps:=ps) nd o.length (ZG _);rw[YI]at g1 g2 g3;refine⟨(YC g1 (FC _)).mpr fun x=>?_,g3⟩;rw[g2 x,Ez];refine⟨fun h=>h.1,fun h=>⟨h,?_⟩⟩;have hx:(x-1).toNat<ps.length:=by omega
 unfold hdN;rw[ZM,ZC hx];exact hin _ (Yb hx)
end M
namespace PySem
open Sem (wp)
structure IPairs (es:List DictEntry) (kvs:List (Value×Value)):Prop where
 length:es.length=kvs.length
 get?:∀{i:Nat} {e:DictEntry} {k v:Value},es[i]?=some e->kvs[i]?=some (k,v)->e.key=k/\e.val=v
def XY(h:Heap)(a:Addr)(kvs:List (Value×Value))(ep:Nat):Prop:=
 ∃o es,h.get? a=some o/\o.ExactDict/\o.data=.dict es ep/\True/\IPairs es.toList kvs/\True
end PySem
namespace Own
open PySem PySem.Spec PyProof.Rows L2
section
variable {X:Cx}
def E3{pins:List (Addr×Obj)}{s:Shared}{σ:L2.St}{H:Hp}{l:Addr}{kvs:List (List Key×V)}(I:Inv X pins σ H s)(h:H l=some (.dT kvs)):∃o,Inv X pins σ (upd H l (.frz o (.dT kvs))) s:=by
 obtain⟨z,y,xs,r,o,es,ep,h1,h2,h3,h4,h5⟩:=(show ObjOk X.prog X.w H s.heap l (.dT kvs)from I.hok l _ h)
 have tn:∀b ys,H b=some (.tup ys)->(upd H l (.frz o (.dT kvs))) b=some (.tup ys):=fun b ys e=>by rw[Vl (Pr e h (fun z=>nomatch z))];exact e
 exact⟨o,XJ (t':=s.toks) (h':=s.heap) (ob:=.frz o (.dT kvs)) I (by rw[h];trivial) ⟨rfl,fun _ _=>rfl⟩ ⟨o,h1⟩ ⟨h1,z,y,xs,Paired.mapP r fun p q w=>⟨w.1,tn _ _ w.2.1,w.2.2⟩,o,es,ep,h1,h2,h3,h4,h5⟩⟩
def Nw(i:Nat):TS:=fun D σ H=>∃l kvs,σ[i]?=some (some (.ref l))/\H l=some (.dT kvs)/\∀o,D.rt (.ref l) (upd H l (.frz o (.dT kvs)))
def Au{e:Expr}{pos:Pos}{i:Nat}(he:PE X e (tVar i)):PS X (.Return (some e) pos) (Nw i):=by
 intro pins s σ H D I h;obtain⟨l,kvs,hl,hd,h⟩:=h;refine wpAny_Return_some (thn (he pins s σ H (fun x H1=>x=.ref l/\H1=H) I ⟨_,hl,rfl,rfl⟩) fun v s1 ⟨x,H1,I1,r1,q1⟩=>?_);obtain⟨rfl,rfl⟩:=q1;obtain⟨o,I2⟩:=E3 I1 hd;exact⟨.ref l,σ,_,I2,r1,h o⟩
def SH{α β:Type}{F:α->β->Prop}:∀{l₁:List α}{l₂:List β}{i:Nat}{a:α},Paired F l₁ l₂->l₁[i]?=some a->∃b,l₂[i]?=some b/\F a b
 |_,_,_,_,.nil,e=>by simp at e
 |_,_,0,_,.cons h _,e=>by simp at e;subst e;exact⟨_,rfl,h⟩
 |_,_,i+1,a,.cons _ r,e=>by
  obtain⟨b,h1,h2⟩:=SH (i:=i) (a:=a) r (by simpa using e);exact⟨b,by simpa using h1,h2⟩
def Kv{P:Program}{w:World}{H:Hp}{h:Heap}{d:Addr}{o:Obj}{kvs:List (List Key×V)}{es:Array DictEntry}{ep:Nat}(ok:HOk P w H h)(hd:H d=some (.frz o (.dT kvs)))(ho:o.data=.dict es ep) :
  h.get? d=some o/\o.ExactDict/\∃xs:List (List Key×Addr×Value),xs.length=kvs.length/\(∀(i:Nat) p,kvs[i]?=some p->∃x,xs[i]?=some x/\H x.2.1=some (.tup (p.1.map kV))/\RelV p.2 x.2.2)/\XY h d (xs.map fun x=>(Value.ref x.2.1,x.2.2)) ep:=by
 obtain⟨hget,z,y,xs,r,o',es',ep',e1,e2,e3,e4,e5⟩:=(show ObjOk P w H h d (.frz o (.dT kvs))from ok d _ hd)
 obtain rfl:o'=o:=ZL (e1.symm.trans hget);rw[ho]at e3;cases e3
 refine⟨hget,e2,xs,(Paired.length r).symm,fun i p hp=>?_,o',es,hget,e2,ho,trivial,⟨by rw[e4,ZA,ZA],fun {i e k v} h1 h2=>?_⟩,trivial⟩
 ·obtain⟨x,q1,q2⟩:=SH r hp;exact⟨x,q1,q2.2.1,q2.2.2⟩
 ·rw[e4,ZT]at h1;rw[ZT]at h2;cases hi:xs[i]? with
  |none=>rw[hi]at h1;cases h1
  |some x=>
   rw[hi]at h1 h2;cases h1
   cases h2
   exact⟨rfl,rfl⟩
end
set_option maxRecDepth 100000
section
variable {prog:Program}{w:World}{A:Around}{s:Shared}{E:Value->Shared->Prop}
def FR{r:Addr}{a b:Int}{t u v:Tok}{n:Nat}{Q:List Value->Shared->Prop}(hh:A.handled=none)(hr:IsRange s.heap r a b 1 t u v)(hsmall:Builtin.Range.small a b 1=true)(hn:Builtin.Range.rangeSize a b 1=n)(hlen:n<=2 ^ 24)(hQ:∀(h':Heap) (tk:Nat) (acc:Array Value),(∀b o,s.heap.get? b=some o->h'.get? b=some o)->ItemsOf (fun i v=>∃t,v=.int (a+i*1) t) acc n->Q acc.toList {s with heap:=h',toks:=tk}):wpAny (model prog w) A (collect (.ref r)) Q E s:=by
 unfold collect;refine Z9 (wpAny_runValue (YG PySem.F.entry_proto_collect ?_));rw[YB PySem.F.plain_proto_collect _];show wpAny _ A.in1 (newList [] >>= fun l=>again (.builtin "list.__iadd__" ⟨[l,.ref r],[]⟩)) _ _ s;refine Z9 (Yh ?_);refine ZD ⟨Wy Wu _,YG PySem.F.entry_list_iadd ?_⟩;rw[YB Wu _];show wpAny _ A.in1 (Builtin.List.listExtendWith (.ref s.heap.objs.size) (.ref r) (.ref s.heap.objs.size)) _ _ _;have hS:(s.heap.push {cls:=.type "list",data:=.seq ([]:List Value).toArray}).get? s.heap.objs.size=some {cls:=.type "list",data:=.seq #[] 0}:=ZN _ rfl
 have fin':∀h' tk (acc:Array Value) c',(∀b o,b≠s.heap.objs.size->(s.heap.push {cls:=.type "list",data:=.seq ([]:List Value).toArray}).get? b=some o->h'.get? b=some o)->h'.get? s.heap.objs.size=some {cls:=.type "list",dict:=none,data:=.seq acc c',slots:=#[]}->ItemsOf (fun i v=>∃t,v=.int (a+i*1) t) acc n->
   wpAny (model prog w) A (match Value.ref s.heap.objs.size with
   |Value.ref a=>do
    match (←load a).data with
     |Data.seq xs _=>pure xs.toList
     |_=>unsupported "internal:collect"
   |_=>unsupported "internal:collect") Q E {s with heap:=h',toks:=tk}:=fun h' tk acc c' hk hL hI=>by
  show wpAny _ A (load s.heap.objs.size >>= _) _ _ _;refine Z9 (wpAny_load hL ?_);refine ZD ?_;exact hQ h' tk acc (fun b o' hb=>hk b o' (Ye (ZH hb)) (ZF _ hb)) hI
 refine Yu (wpAny_extend_range (A:=A) (R:=fun r' s'=>r'=.ok (.ret (.ref s.heap.objs.size))/\∃h' tk acc c',s'={s with heap:=h',toks:=tk}/\(∀b o,b≠s.heap.objs.size->(s.heap.push {cls:=.type "list",data:=.seq ([]:List Value).toArray}).get? b=some o->h'.get? b=some o)/\h'.get? s.heap.objs.size=some {cls:=.type "list",dict:=none,data:=.seq acc c',slots:=#[]}/\ItemsOf (fun i v=>∃t,v=.int (a+i*1) t) acc n)
  (s:={s with heap:=s.heap.push {cls:=.type "list",data:=.seq ([]:List Value).toArray}}) hh (ZF _ hr) hsmall hn hlen _ _ 0 hS fun h' tk acc c' h1 h2 h3=>⟨rfl,h',tk,acc,c',rfl,h1,h2,h3⟩) (fun fin s' h=>?_) (fun e s' h=>?_)
 ·cases fin with
  |done f=>
   obtain⟨e,h',tk,acc,c',rfl,h1,h2,h3⟩:=h;cases e
   exact fin' h' tk acc c' h1 h2 h3
  |again c'=>exact⟨h.1,Wp h.2 fun r s'' hr=>by obtain⟨rfl,h',tk,acc,c',rfl,h1,h2,h3⟩:=hr;exact fin' h' tk acc c' h1 h2 h3⟩
 ·exact absurd h.1 (by simp)
def DG{r:Addr}{a b:Int}{t u v:Tok}{n:Nat}{Q₁:Value->Shared->Prop}(hh:A.handled=none)(hr:IsRange s.heap r a b 1 t u v)(hsmall:Builtin.Range.small a b 1=true)(hn:Builtin.Range.rangeSize a b 1=n)(hlen:n<=2 ^ 24)(h:∀(h':Heap) (tk:Nat) (acc:Array Value),(∀b o,s.heap.get? b=some o->h'.get? b=some o)->ItemsOf (fun i v=>∃t,v=.int (a+i*1) t) acc n->Q₁ (.ref h'.objs.size) {s with heap:=h'.push {cls:=.type "tuple",data:=.seq acc},toks:=tk}) :
  codeAny (model prog w) A (.call (.builtin "tuple.__new__") ⟨[.type "tuple",.ref r],[]⟩) (wants Q₁ E) s:=by
 refine codeAny_of_tree ?_;show wpAny _ A.in1 (do checkBuiltinCall "tuple.__new__" ⟨[.type "tuple",.ref r],[]⟩;again (.builtin "tuple.__new__" ⟨[.type "tuple",.ref r],[]⟩)) _ _ s
 refine Z9 (wpAny_of_eq (PySem.F.newCall_tuple_1 _) (ZD ⟨Wy (by decide +kernel) _,YG PySem.F.entry_tuple_new ?_⟩));rw[YB (by decide +kernel) _];have hsub:=sub_tuple_self;have hinit:=init_tuple_lookup;have hmh:=madeHere_tuple;have hTI:s.TypeIs (.ref r) "range":=⟨_,hr,rfl⟩
 wp_walk using wpAny_typeOf hTI,FR (by exact hh) hr hsmall hn hlen
 intro h' tk acc hk hacc;show wpAny _ _ (Builtin.Tuple.tupleExact acc.toList.toArray >>= fun v=>ret v) _ _ _;unfold Builtin.Tuple.tupleExact;refine Z9 (Yh ?_ (by show acc.toList.toArray.size<=sizeLine;simp only[Array.toArray_toList];rw[hacc.1];exact ZU hlen (by decide)));refine ZD ?_;have e:acc.toList.toArray=acc:=by simp
 rw[e];exact h h' tk acc hk hacc
def Gd{r:Addr}{a b:Int}{t u v:Tok}{n:Nat}{Q:Value->Shared->Prop}(hh:A.handled=none)(hr:IsRange s.heap r a b 1 t u v)(hsmall:Builtin.Range.small a b 1=true)(hn:Builtin.Range.rangeSize a b 1=n)(hlen:n<=2 ^ 24)(hQ:∀(h':Heap) (tk:Nat) (acc:Array Value),(∀b o,s.heap.get? b=some o->h'.get? b=some o)->ItemsOf (fun i v=>∃t,v=.int (a+i*1) t) acc n->Q (.ref h'.objs.size) {s with heap:=h'.push {cls:=.type "tuple",data:=.seq acc},toks:=tk}) :
  wpAny (model prog w) A (call (.type "tuple") [.ref r]) Q E s:=by
 refine callType_codes (Q₁:=fun obj s₁=>s₁.TypeIs obj "tuple"/\Q obj s₁) PySem.F.called_tuple (PySem.F.typeCall_tuple_1 _) PySem.F.entry_object_init
  (DG (A:=A.in1) hh hr hsmall hn hlen fun h' tk acc hk hacc=>⟨⟨_,ZN _ rfl,rfl⟩,hQ h' tk acc hk hacc⟩) fun obj s₁ h₁=>?_
 exact⟨h₁.1,PySem.F.args_object_init_2 obj _,object_init_meets PySem.F.called_tuple.init.lookup PySem.F.called_tuple.made (by decide) prog w A.in1 _ s₁ ⟨h₁.1,rfl,h₁.2⟩⟩
end
section
variable {X:Cx}
def Ay(hc:X.calm=true):VN X (.type "tuple") (fun xs H Q=>∃(r:Addr) (i j:Int),xs=[.ref r]/\H r=some (.rng i j)/\(-(2 ^ 62)<=i/\i<2 ^ 62/\-(2 ^ 62)<=j/\j<2 ^ 62)/\(j-i).toNat<=1000000/\
  ∀l,H l=none->Q (.ref l) (upd H l (.tup ((runI i (j-i).toNat).map V.int)))):=by
 intro pins s σ H xs us Q I rv h;obtain⟨r,i,j,rfl,hr,⟨b1,b2,b3,b4⟩,hn,q⟩:=h;obtain⟨u,rfl,ru⟩:=rv.one;obtain rfl:u=Value.ref r:=ru;obtain⟨t,u,v,e⟩:=(show ObjOk X.prog X.w H s.heap r (.rng i j)from I.hok r _ hr)
 refine Gd (I.ok.hd hc) (show IsRange s.heap r i j 1 t u v from e) (small_one b1 b2 b3 b4) (rangeSize_nat i j) (ZU hn (by decide)) fun h' tk acc hk hI=>?_
 have hv:Vals ((runI i (j-i).toNat).map V.int) acc.toList:=Hk _ _ (by rw[Yp];exact hI.1) fun k w hw=>hI.2 k w (by rw[←hw,Y8]);have I1:Inv X pins σ H {s with heap:=h',toks:=tk}:=I.kept (t':=tk) hk
 refine⟨.ref h'.objs.size,upd H h'.objs.size (.tup ((runI i (j-i).toNat).map V.int)),?_,rfl,q _ (I1.hok.fresh (ZG _))⟩;refine I1.laid (t':=tk) (fun b o e=>ZF _ e) (ZG _) ⟨?_,acc.toList,hv,_,ZN _ rfl,rfl,0,by simp⟩;rw[ZA];unfold runI;rw[ZA,Q7];exact ZU hn (by decide)
end
end Own
namespace Pu
open PySem PySem.Spec PyProof.Rows L2 Own M
section
variable {K:Za}{mg:Str->Option Value}{E:L2.St->XK}{H:Hp}
def Rp.dF_inv {kvs:List (List Key×V)}{v:V} (h:Rp K H (.dF kvs) v):∃a o,v=.ref a/\H a=some (.frz o (.dT kvs)):=by
 cases h with
 |dF h=>exact⟨_,_,rfl,h⟩
def HA:S->S->(S->Prop)->Prop:=fun x y R=>∃kvs k v,x.d=.dF kvs/\Uk y.d=some k/\valV kvs k=some v/\XU v=true/\R (.sh (vD v))
def GA{td ty:TE}{a b:PTE}(ha:SndE K mg E td a)(hb:SndE K mg E ty b):SndE K mg E (Tg td ty) (p2 a b HA):=by
 show SndE K mg E (tOp (fun x y H Q=>∃a v,x=.ref a/\DGet H a y (some v)/\Q v H) td ty) _;refine se_2 ha hb fun H0 H H2 Z x y v u R Q s0 s1 hm tx ty h q=>?_;obtain⟨kvs,k,w,e,h1,h2,h3,h4⟩:=h;have rx:=tx.rp s0;have ry:=ty.rp s0;rw[e]at rx;obtain⟨l,o,rfl,hl⟩:=rx.dF_inv;obtain⟨b,rfl,hb⟩:=UD ry h1;refine⟨l,w,rfl,?_,q _ _ H2 h4 (Same.refl _) (K7 h3)⟩;exact .inr ⟨kvs,k,b,.inr ⟨o,hl⟩,rfl,hb,h2.symm⟩
def Tv(i:Nat):PTS:=fun R γ=>match γ[i]? with
 |some (some (.own (.dT kvs)))=>R.rt (.sh (.dF kvs))
 |_=>False
def DM(i:Nat):SndS K mg E (Nw i) (Tv i):=by
 intro H0 B H σ γ R D hB env h e;unfold Tv at h;split at h
 ·rename_i kvs hi;obtain⟨v,hv,l,rfl,h0,hl⟩:=env.slot i _ hi;refine⟨l,kvs,hv,hl,fun o=>e.rt (.sh (.dF kvs)) _ _ h (fun b x hb=>by rw[Vl (Ja hb (h0 l rfl))];exact env.same b x hb) (.dF (VJ V0 fun z=>?_))⟩;obtain⟨o',ho'⟩:=hB l z;rw[h0 l rfl]at ho';cases ho'
 ·exact h.elim
def kD:Key->D
 | .inl i=>.int i | .inr x=>.str x
def P2{H:Hp}:∀ks:List Key,Rps K H (ks.map kD) (ks.map kV)
 |[]=>.nil
 | .inl i::r=>.cons (.int i) (P2 r)
 | .inr x::r=>.cons (.str x) (P2 r)
def NF:List S->(S->Prop)->Prop
 |[s,t],R=>(match s.d,t.d with
  | .int i,.int j=>(-(2 ^ 62)<=i/\i<2 ^ 62/\-(2 ^ 62)<=j/\j<2 ^ 62)/\(j-i).toNat<=1000000/\R (.sh (tD (runI i (j-i).toNat)))
  |_,_=>False)
 |_,_=>False
def FK:List V->Hp->VK->Prop:=fun xs H Q=>∃(r:Addr) (i j:Int),xs=[.ref r]/\H r=some (.rng i j)/\(-(2 ^ 62)<=i/\i<2 ^ 62/\-(2 ^ 62)<=j/\j<2 ^ 62)/\(j-i).toNat<=1000000/\
  ∀l,H l=none->Q (.ref l) (upd H l (.tup ((runI i (j-i).toNat).map V.int)))
def D3{ta:TA}{r:PTA}(hr:SndA K mg E ta r):SndE K mg E (tCB FK (VR (tCB (fun xs H Q=>∃i j:Int,xs=[.int i,.int j]/\∀r,H r=none->Q (.ref r) (upd H r (.rng i j))) ta) tNil)) (pCB NF r):=by
 intro H0 B H σ γ R X Q env p q qx;refine hr H0 B H σ γ _ X _ env p (fun ss vs H1 h1 S1 t1=>?_) qx;have s0:=(env.grow S1).same;unfold NF at h1;split at h1
 ·obtain⟨v,u,rfl,t1',t2'⟩:=t1.two_inv;have r1:=t1'.rp s0;have r2:=t2'.rp s0;split at h1
  ·rename_i i j e1 e2;rw[e1]at r1;rw[e2]at r2;rw[r1.int_inv,r2.int_inv];refine⟨i,j,rfl,fun a na=>⟨a,i,j,rfl,V0,h1.1,h1.2.1,fun l nl=>?_⟩⟩;have S2:=VA (o:=.rng i j) na;refine q _ _ _ h1.2.2 ((S1.trans S2).trans (VA nl)) (.tup (VJ V0 fun z=>?_) (Rps.of_ints _))
   have:=((env.grow S1).grow S2).zm l z
   rw[nl]at this;exact this
  ·exact h1.elim
 ·exact h1.elim
def entS(q:List Int×Int):List Key×V:=(kT q.1,.int q.2)
end
end Pu
namespace M
open PySem PySem.Spec PyProof.Rows L2 Own Pu
def hAt(ps:List (Int×Int))(k:Nat):Int:=(ps.getD k (0,0)).1
def begM(ps:List (Int×Int))(k:Nat):Bool:=decide (k=0) || !decide (hAt ps (k-1)=hAt ps k)
def newM(ps:List (Int×Int))(k:Nat):Bool:=!decide (hAt ps k∈(ps.take k).map (·.1))
def TogP(ps:List (Int×Int)):Prop:=∀k j,j<k->k<ps.length->hAt ps j=hAt ps k->hAt ps (k-1)=hAt ps k
def VI{ps:List (Int×Int)}{k:Nat}(h:k<ps.length):hAt ps k=ps[k].1:=by
 unfold hAt;rw[ZM,ZC h];rfl
def UT{ps:List (Int×Int)}{k:Nat}(hk:k<=ps.length){z:Int}:z∈(ps.take k).map (·.1)↔∃j,j<k/\hAt ps j=z:=by
 rw[Yd];constructor
 ·rintro⟨q,hq,rfl⟩;obtain⟨j,hj,rfl⟩:=Q0 hq;rw[Yf]at hj;refine⟨j,by omega,?_⟩;rw[VI (by omega),Y7]
 ·rintro⟨j,hj,rfl⟩;have hjl:j<ps.length:=by omega
  refine⟨ps[j],Yi.mpr ⟨j,by rw[Yf];omega,by rw[Y7]⟩,(VI hjl).symm⟩
def HN{ps:List (Int×Int)}{k:Nat}(hk:k<ps.length)(h:newM ps k=true):begM ps k=true:=by
 unfold begM;by_cases e:k=0
 ·rw[ZJ e];rfl
 ·rw[Qs];refine .inr ?_;rw[YS];refine ZR fun z=>?_;unfold newM at h;rw[YS,YW,UT (by omega)]at h;exact h ⟨k-1,by omega,z⟩
def Cf{ps:List (Int×Int)}(hF:Field ps):((List.range ps.length).filter (newM ps)).length=(Vq ps).length:=by
 have nd:(Vq ps).Nodup:=(Po ps).imp (fun h=>Int.ne_of_lt h)
 have key:(((List.range ps.length).filter (newM ps)).map (hAt ps)).Perm (Vq ps):=by
  refine(YC ?_ nd).mpr fun z=>?_
  ·rw[List.Nodup,YL];refine(Qk.mp (List.pairwise_lt_range.filter (newM ps))).imp fun {a b} h e=>?_;have hb:=ZV.mp h.2.1;have hbl:=Yw.mp hb.1;have h2:=hb.2;unfold newM at h2;rw[YS,YW,UT (by omega)]at h2;exact h2 ⟨a,h.2.2,e⟩
  ·rw[Ks hF,Yd];constructor
   ·rintro⟨k,hk,rfl⟩;have hkl:=Yw.mp (ZV.mp hk).1;rw[VI hkl];exact Yd.mpr ⟨_,Yb hkl,rfl⟩
   ·intro hz
    have h1:∃k,k<ps.length/\hAt ps k=z:=by
     obtain⟨q,hq,rfl⟩:=Yd.mp hz;obtain⟨k,hk,rfl⟩:=Q0 hq;exact⟨k,hk,VI hk⟩
    have h2:∀n k,k<n->k<ps.length->hAt ps k=z->∃j,j∈(List.range ps.length).filter (newM ps)/\hAt ps j=z:=fun n=>by
     induction n with
     |zero=>intro k hk;omega
     |succ n ih=>
      intro k hk hl e;by_cases c:newM ps k=true
      ·exact⟨k,ZV.mpr ⟨Yw.mpr hl,c⟩,e⟩
      ·unfold newM at c;rw[YS,YW,Q8,UT (by omega)]at c;obtain⟨j,hj,ej⟩:=c;exact ih j (by omega) (by omega) (ej.trans e)
    obtain⟨k,hk,e⟩:=h1;exact h2 (k+1) k (Qi _) hk e
 have:=key.length_eq
 rwa[ZA]at this
def BR{ps:List (Int×Int)}(hF:Field ps):((List.range ps.length).filter (begM ps)).length=(Vq ps).length↔TogP ps:=by
 rw[←Cf hF]
 have e:(List.range ps.length).filter (newM ps)=((List.range ps.length).filter (begM ps)).filter (newM ps):=by
  rw[List.filter_filter];refine List.filter_congr fun k hk=>?_;cases c:newM ps k with
  |false=>rfl
  |true=>rw[HN (Yw.mp hk) c];rfl
 rw[e,eq_comm,List.length_filter_eq_length_iff];constructor
 ·intro h k j hj hk ej;refine Ys fun ne=>?_
  have hb:begM ps k=true:=by
   unfold begM;rw[Qs];exact .inr (by rw[ZR ne];rfl)
  have:=h k (ZV.mpr ⟨Yw.mpr hk,hb⟩)
  unfold newM at this;rw[YS,YW,UT (by omega)]at this;exact this ⟨j,hj,ej⟩
 ·intro h k hk;obtain⟨h1,h2⟩:=ZV.mp hk;have hkl:=Yw.mp h1;unfold newM;rw[YS,YW,UT (by omega)];rintro⟨j,hj,ej⟩
  have:=h k j hj hkl ej
  unfold begM at h2;rw[Qs]at h2;rcases h2 with z|z
  ·have:=ZX z
   omega
  ·rw[ZJ this]at z;cases z
def Vo(l:List Int):List Int:=l.foldl (fun acc h=>if h∈acc then acc else acc++[h]) []
def Xk(l:List Int)(h:Int):Vo (l++[h])=if h∈Vo l then Vo l else Vo l++[h]:=by
 unfold Vo;rw[List.foldl_append];rfl
def X7(l:List Int):(Vo l).Nodup/\∀z,z∈Vo l↔z∈l:=by
 refine Pw (P:=fun l=>(Vo l).Nodup/\∀z,z∈Vo l↔z∈l) ⟨YZ,fun z=>Iff.rfl⟩ (fun r h ih=>?_) l;rw[Xk];by_cases c:h∈Vo r
 ·rw[ZK c];refine⟨ih.1,fun z=>?_⟩;rw[ih.2 z,ZY,ZE];exact⟨.inl,fun k=>k.elim id fun k=>k▸(ih.2 h).mp c⟩
 ·rw[ZI c];refine⟨Y0.mpr ⟨ih.1,by simp,fun a ha b hb e=>c ?_⟩,fun z=>?_⟩
  ·rw[ZE.mp hb]at e;rw[←e];exact ha
  ·rw[ZY,ZY,ih.2 z]
def PN(l:List Int):(Vo l).length<=l.length:=by
 refine Pw (P:=fun l=>(Vo l).length<=l.length) (ZG _) (fun r h ih=>?_) l;rw[Xk,ZS,Wf];split
 ·omega
 ·rw[ZS,Wf];omega
def lenP(n:Nat):Nat->Nat
 | 0=>1
 |k+1=>lenP n k*(n-k)
def facP:Nat->Nat
 | 0=>1
 |k+1=>facP k*(k+1)
def Se:∀n,n<8->lenP n n=facP n/\facP n<=5040:=by decide
def CH{hs r:List Int}(nd:hs.Nodup)(nr:r.Nodup)(hr:∀x∈r,x∈hs):(nextM hs r).length=hs.length-r.length:=by
 have e1:(hs.filter fun h=>decide (h∈r)).Perm r:=by
  rw[YC (nd.filter _) nr];intro x;rw[ZV];exact⟨fun h=>ZX h.2,fun h=>⟨hr x h,ZJ h⟩⟩
 have e2:=e1.length_eq;unfold nextM;rw[ZA]
 have e3:∀l:List Int,(l.filter fun h=>!decide (h∈r)).length+(l.filter fun h=>decide (h∈r)).length=l.length:=fun l=>by
  induction l with
  |nil=>rfl
  |cons x l ih=>
   by_cases c:x∈r
   ·rw[YV (by simp[c]),YU (by simp[c]),Ya,Ya];omega
   ·rw[YU (by simp[c]),YV (by simp[c]),Ya,Ya];omega
 have:=e3 hs
 omega
def Fh{α β:Type}{f:α->List β}{c:Nat}:∀{l:List α},(∀x∈l,(f x).length=c)->(l.flatMap f).length=l.length*c
 |[],_=>by simp
 |x::l,h=>by
  rw[List.flatMap_cons,ZS,h x Yo,Fh fun y hy=>h y (Yc _ hy),Ya,Nat.add_mul];omega
def Pb{hs:List Int}(nd:hs.Nodup):∀k,(J0 hs k).length=lenP hs.length k
 | 0=>rfl
 |k+1=>by
  unfold J0 lenP;rw[Fh (c:=hs.length-k) fun r hr=>by rw[CH nd (rows_mem.mp hr).2.1 (rows_mem.mp hr).2.2,(rows_mem.mp hr).1],Pb nd k]
def A0{ps:List (Int×Int)}(hz:ps.length<=7):(VQ ps ps.length).length<=5040:=by
 have h:=Pb (JM ps.length) ps.length;rw[JK]at h;obtain⟨e1,e2⟩:=Se ps.length (by omega);rw[KE,ZA,h,e1];exact e2
def broK(os:List Int)(q:Int×Int):Bool:=decide (q.1∈os)&&decide (q.2∈os.take (os.idxOf q.1))
def BD{os:List Int}(hn:os.Nodup){x:Int}{j:Nat}(hx:x∈os):x∈os.take j↔os.idxOf x<j:=by
 obtain⟨k,hk,rfl⟩:=Yi.mp hx;rw[hn.idxOf_getElem k hk];constructor
 ·intro h;obtain⟨m,hm,e⟩:=Yi.mp h;rw[Yf]at hm;rw[Y7]at e;have a1:=hn.idxOf_getElem m (by omega);rw[e,hn.idxOf_getElem k hk]at a1;omega
 ·intro h;exact Yi.mpr ⟨k,by rw[Yf];omega,by rw[Y7]⟩
def B8{os:List Int}(hn:os.Nodup)(q:Int×Int):broK os q=(decide (q.1∈os)&&(decide (q.2∈os)&&decide (os.idxOf q.2<os.idxOf q.1))):=by
 unfold broK;by_cases h1:q.1∈os
 ·by_cases h2:q.2∈os
  ·simp only[h1,h2,decide_true,WG,BD hn h2]
  ·have:¬q.2∈os.take (os.idxOf q.1):=fun z=>h2 (Qv z)
   simp[h1,h2,this]
 ·simp[h1]
def J6(ps ws:List (Int×Int)):Prop:=TogP ps/\∀q∈ws,broK (Vo (ps.map (·.1))) q=false
noncomputable def Ur(ps ws:List (Int×Int)):Bool:=@decide (J6 ps ws) (Classical.propDecidable _)
def keepB_iff{ps ws:List (Int×Int)}:Ur ps ws=true↔J6 ps ws:=⟨fun h=>@ZX _ (Classical.propDecidable _) h,fun h=>@ZJ _ (Classical.propDecidable _) h⟩
def fldS(ps:List (Int×Int))(r:List Int):List (Int×Int):=r.map fun z=>atP1 ps z
def HE(ps ws:List (Int×Int))(m:Int):Prop:=(∃r,r.Perm (runI 1 ps.length)/\J6 (fldS ps r) ws/\invM ps r=m)/\∀r,r.Perm (runI 1 ps.length)->J6 (fldS ps r) ws->m<=invM ps r
def Ae{ps:List (Int×Int)}(hF:Field ps){r:List Int}(h:∀z∈r,1<=z/\z<=ps.length):Field (fldS ps r):=by
 intro q hq;obtain⟨z,hz,rfl⟩:=Yd.mp hq
 have:=h z hz
 have e:atP1 ps z=ps[(z-1).toNat]:=by
  unfold atP1;rw[ZM,ZC (by omega)];rfl
 rw[e];exact hF _ (Yb _)
def stands_mem{ps:List (Int×Int)}{q:List Int×Int}:q∈VQ ps ps.length↔q.1.Perm (runI 1 ps.length)/\q.2=invM ps q.1:=by
 have hp:∀r,r∈J0 (runI 1 ps.length) ps.length↔r.Perm (runI 1 ps.length):=fun r=>by
  have:=SL (r:=r) (JM ps.length)
  rwa[JK]at this
 rw[KE,Yd];constructor
 ·rintro⟨r,hr,rfl⟩;exact⟨(hp r).mp hr,Pp (pre:=[]) ((hp r).mp hr)⟩
 ·rintro⟨h1,h2⟩;refine⟨q.1,(hp _).mpr h1,?_⟩;rw[Pp (pre:=[]) h1,←h2]
end M
namespace PySem
open Sem (wp)
section
variable {prog:Program}{w:World}{A:Around}{E:Value->Shared->Prop}{s:Shared}
def AF{d:Addr}{kvs:List (Value×Value)}{ep:Nat}{Q:Value->Shared->Prop}(hd:(d==sysModules)=false)(hm:XY s.heap d kvs ep)(hQ:Q (.ref s.heap.objs.size) {s with heap:=s.heap.push {cls:=.type "dict_keyiterator",data:=.fields #[.ref d,.int 0 0,.int kvs.length 0,.int ep 0]}}) :
  wpAny (model prog w) A (pyIter (.ref d)) Q E s:=by
 obtain⟨o,es,ho,hc,hdat,hk,hp,hn⟩:=id hm;have hT:s.TypeIs (.ref d) "dict":=⟨o,ho,hc.1⟩;refine Qb hT F.slot_dict_iter (YH F.slot_dict_iter hT F.entry_dict_iter ?_ (F.args_dict_iter_1 _));unfold Builtin.«dict.__iter__»;refine Z9 ?_;unfold Builtin.Dict.dictSlotNone;refine Z9 (wpAny_notOrdered_dict hT ?_);show wpAny _ _ (pure (Value.ref d)) _ _ s;refine ZD ?_;show wpAny _ _ (Builtin.Dict.showsAll d >>= _) _ _ s;unfold Builtin.Dict.showsAll;rw[ZI (by rw[hd];exact ZO)];refine Z9 (ZD ?_);refine Z9 (wpAny_dictEntries ho hdat ?_);refine Z9 (wpAny_dictEpoch ho hdat ?_);have hsz:es.size=kvs.length:=by rw[←hp.length];simp
 refine Z9 (Yh (ZD ⟨_,rfl, "dict_keyiterator",_,⟨_,ZN _ rfl,rfl⟩,F.slot_dict_keyiterator_next.lookup,?_⟩));simpa [rawInt,hsz]using hQ
def CI{it d:Addr}{i ep:Nat}{kvs:List (Value×Value)}{k:Value}{v:Value}{Q:Option Value->Shared->Prop}(hit:s.heap.IsKeyIter it d i kvs.length ep)(hm:XY s.heap d kvs ep)(hx:kvs[i]?=some (k,v))(hQ:∀key h',key=k->h'.IsKeyIter it d (i+1) kvs.length ep->Heap.SameBut it s.heap h'->Q (some key) {s with heap:=h'}) :
  wpAny (model prog w) A (pyNext (.ref it)) Q E s:=by
 obtain⟨o,ho,hc,hd⟩:=id hit;obtain⟨od,es,hod,hcd,hdd,hk,hp,hn⟩:=id hm;unfold pyNext
 refine Z9 (wpAny_attempt (Wt (name:=Str.ofString "__next__") hit.typeIs Wa
  (YH Wa hit.typeIs F.entry_dict_keyiterator_next ?_ (F.args_dict_keyiterator_next_1 _))))
 refine Z9 (ZD ?_);refine Z9 ?_;refine Z9 ?_
 first|refine Z9 (YT hit.typeIs (ZD ?_))|refine Z9 (Ws hit.typeIs (ZD ?_))
 refine Z9 (wpAny_fieldsOf ho hd ?_);have hown:Builtin.Dict_items.ownsTuple "dict_keyiterator"=false:=by decide
 simp only[hown,Q4,Qh];show wpAny _ _ (if (Value.ref d==Value.none)=true then _ else _) _ _ s;rw[ZI (show ¬((Value.ref d==Value.none)=true)from ZO)]
 refine Z9 (ZD ?_);refine Z9 (wpAny_dictEntries hod hdd ?_);have hsz:es.size=kvs.length:=by rw[←hp.length];simp
 rw[ZI (by rw[hsz];simp)];refine Z9 (ZD ?_);refine Z9 (wpAny_dictEpoch hod hdd ?_);rw[ZI (by simp)];refine ZD ?_
 have hlt:i<kvs.length:=by
  rcases Nat.lt_or_ge i kvs.length with h|h
  ·exact h
  ·simp[Wg h]at hx
 have hlt':i<es.size:=by rw[hsz];exact hlt
 have hkey:es[i].key=k:=(hp.get? (e:=es[i]) (by simp[hlt']) hx).1;simp only[show ¬((i:Int)<0)from by omega,Qh,Ym,YF hlt']
 refine Z9 ?_
 first|refine Z9 (YT hit.typeIs (ZD ?_))|refine Z9 (Ws hit.typeIs (ZD ?_))
 refine Z9 (wpAny_isOneOf_keyiter hit.typeIs ?_);show wpAny _ _ (setField (.ref it) 1 (rawInt ((i:Int)+1)) >>= _) _ _ s;refine Z9 (YN ho hd (by simp) ?_)
 have hit':(s.heap.update it (Obj.mapFields (·.setIfInBounds 1 (rawInt ((i:Int)+1))))).IsKeyIter it d (i+1) kvs.length ep:=
  ⟨_,Yy _ ho (YO (Y3 hd _)),(Qa ..).trans hc,by rw[Y3 hd];simp[rawInt]⟩
 refine Z9 (Ww ?_);refine Z9 (wpAny_isOneOf_keyiter (s:={s with heap:=s.heap.update it (Obj.mapFields (·.setIfInBounds 1 (rawInt ((i:Int)+1))))}) hit'.typeIs ?_)
 show wpAny _ _ (pure es[i].key) _ _ _;exact ZD (ZD ⟨_,rfl,ZD (hQ _ _ hkey hit' (Y6 ..))⟩)
def GZ{it d:Addr}{i ep:Nat}{kvs:List (Value×Value)}{Q:Option Value->Shared->Prop}(hh:A.handled=none)(hit:s.heap.IsKeyIter it d i kvs.length ep)(hm:XY s.heap d kvs ep)(hx:kvs[i]?=none)(hQ:∀h',Heap.ExtBut it s.heap h'->Q none {s with heap:=h'}):wpAny (model prog w) A (pyNext (.ref it)) Q E s:=by
 obtain⟨o,ho,hc,hd⟩:=id hit;obtain⟨od,es,hod,hcd,hdd,hk,hp,hn⟩:=id hm;unfold pyNext
 refine Z9 (wpAny_attempt (Wt (name:=Str.ofString "__next__") hit.typeIs Wa
  (YH Wa hit.typeIs F.entry_dict_keyiterator_next ?_ (F.args_dict_keyiterator_next_1 _))))
 refine Z9 (ZD ?_);refine Z9 ?_;refine Z9 ?_
 first|refine Z9 (YT hit.typeIs (ZD ?_))|refine Z9 (Ws hit.typeIs (ZD ?_))
 refine Z9 (wpAny_fieldsOf ho hd ?_);have hown:Builtin.Dict_items.ownsTuple "dict_keyiterator"=false:=by decide
 simp only[hown,Q4,Qh];show wpAny _ _ (if (Value.ref d==Value.none)=true then _ else _) _ _ s;rw[ZI (show ¬((Value.ref d==Value.none)=true)from ZO)]
 refine Z9 (ZD ?_);refine Z9 (wpAny_dictEntries hod hdd ?_);have hsz:es.size=kvs.length:=by rw[←hp.length];simp
 rw[ZI (by rw[hsz];simp)];refine Z9 (ZD ?_);refine Z9 (wpAny_dictEpoch hod hdd ?_);rw[ZI (by simp)];refine ZD ?_;have hge:es.size<=i:=by rw[hsz];simpa using hx
 simp only[show ¬((i:Int)<0)from by omega,Qh,Ym,Qe hge]
 refine Z9 ?_
 first|refine Z9 (YT hit.typeIs (ZD ?_))|refine Z9 (Ws hit.typeIs (ZD ?_))
 show wpAny _ _ (setField (.ref it) 0 .none >>= _) _ _ s;refine Z9 (YN ho hd (by simp) ?_);show wpAny _ _ (newExc (.type "StopIteration") [] >>= _) _ _ _;refine Z9 ?_;simp only[newExc,newTuple];refine Z9 (Yh ?_ (by size_fits));refine Z9 (m:=firstArgMember _ _) (wpAny_of_eq (a:=Value.none) (by first|rfl|(simp only[firstArgMember];rfl)) ?_)
 refine Yh ?_ (by size_fits);simp only[raiseNew];refine Z9 (wpAny_handled ?_);rw[show A.in1.handled=none from hh]
 refine Z9 (ZD (wpAny_throw ?_));refine Z9 (wpAny_isInstance (T:="StopIteration") (b:=true) ⟨_,ZN _ rfl,rfl⟩ isSubtype_stop ?_);exact ZD (hQ _ (((Y6 ..).extBut.push _).push _))
end
end PySem
namespace Own
open PySem PySem.Spec PyProof.Rows L2
section
variable {X:Cx}{K:Za}
def Bh(K:Za)(ta:TE):TE:=fun σ H Q=>ta σ H fun x H1=>∃k,TruV K x H1 k/\Q (.bl (!k)) H1
def HW{a:Expr}{ta:TE}{pos:Pos}(ha:PE X a ta)(hK:X.K=K:=by rfl):PE X (.UnaryOp .Not a pos) (Bh K ta):=by
 subst hK;intro pins s σ H Q I h;refine UnaryOp_ (thn (ha pins s σ H _ I h) fun v s1 ⟨x,H1,I1,r1,q1⟩=>?_);exact not_of (thn (TH pins s1 σ H1 x v (fun k H'=>Q (.bl (!k)) H') I1 r1 q1) fun b s2 ⟨H2,I2,q2⟩=>⟨.bl (!b),H2,I2,rfl,q2⟩)
def Itk(d:Addr)(o:Obj)(kvs:List (List Key×V)):It:=
 ⟨fun i H=>H d=some (.frz o (.dT kvs))/\i<kvs.length,fun i H x H'=>H'=H/\∃b ks v,kvs[i]?=some (ks,v)/\H b=some (.tup (ks.map kV))/\x=.ref b,fun i H=>H d=some (.frz o (.dT kvs))/\kvs.length<=i⟩
def E4{P:Program}{w:World}{K:Za}{tg:Expr}(d it:Addr)(hne:d≠it)(o:Obj)(kvs:List (List Key×V))(es:Array DictEntry)(ep:Nat)(ho:o.data=.dict es ep) :
  Turn P w K tg (Itk d o kvs) [it] it (fun i h=>h.IsKeyIter it d i kvs.length ep) where
 mem:=by simp
 obj:=fun i h st b hb=>by
  obtain⟨ob,h1,_,h2⟩:=st;rw[ZE.mp hb];exact⟨ob,h1,fun v z=>by rw[h2]at z;cases z⟩
 keep:=fun i h h' st k=>by
  obtain⟨ob,h1,h2⟩:=st;exact⟨ob,k it (by simp) _ h1,h2⟩
 item:=by
  intro X hP hw hK hc i pins s σ H E I hf st hg;subst hP hw hK;obtain⟨hd,hi⟩:=hg;obtain⟨hget,hx,xs,lx,hxs,hid⟩:=Kv I.hok hd ho;obtain⟨x,q1,q2,q3⟩:=hxs i kvs[i] (ZC hi);obtain⟨a0,a1,a2,a3,a4,a5⟩:=hf it (by simp);have ll:(xs.map fun x=>(Value.ref x.2.1,x.2.2)).length=kvs.length:=by rw[ZA,lx]
  have hit':s.heap.IsKeyIter it d i (xs.map fun x=>(Value.ref x.2.1,x.2.2)).length ep:=by rw[ll];exact st
  refine CI (k:=Value.ref x.2.1) (v:=x.2.2) hit' hid (by rw[ZT,q1];rfl) fun key h1 ek he sb=>⟨_,rfl,?_⟩;subst ek;obtain⟨ob,g1,g2,g3⟩:=id he;have I1:Inv X pins σ H {s with heap:=h1}:=I.turned (it:=it) (t':=s.toks) (fun b o hb q=>sb.extBut b o hb q) a0 a1 a3 a4 a5
  refine Ka (s:={s with heap:=h1}) (n:="dict_keyiterator") g1 g2 g3 (by decide) ⟨.ref x.2.1,H,I1,rfl,⟨rfl,x.2.1,kvs[i].1,kvs[i].2,ZC hi,q2,rfl⟩,by rw[ll]at he;exact he,fun b hb=>(hf b hb).1⟩
 done:=by
  intro X hP hw hK hc i pins s σ H E I hf st hg;subst hP hw hK;obtain⟨hd,hi⟩:=hg;obtain⟨hget,hx,xs,lx,hxs,hid⟩:=Kv I.hok hd ho;obtain⟨b0,b1,b2,b3,b4,b5⟩:=hf it (by simp);have ll:(xs.map fun x=>(Value.ref x.2.1,x.2.2)).length=kvs.length:=by rw[ZA,lx]
  have hit':s.heap.IsKeyIter it d i (xs.map fun x=>(Value.ref x.2.1,x.2.2)).length ep:=by rw[ll];exact st
  refine GZ (I.ok.hd hc) hit' hid (Wg (by rw[ll];exact hi)) fun h' eb=>⟨rfl,?_⟩;exact I.turned (it:=it) (t':=s.toks) (fun b o hb q=>eb b o hb q) b0 b1 b3 b4 b5
 self:=by
  intro A i s Q E st q;exact wpAny_pyIter_keyiter st q
def TQ(te:TE):TI:=fun σ H R=>te σ H fun x H1=>∃d o kvs,x=.ref d/\H1 d=some (.frz o (.dT kvs))/\R (Itk d o kvs) H1
def D4{tg o:Expr}{to:TE}(ho:PE X o to):PI X tg o (TQ to):=by
 intro pins s σ H R I h;refine thn (ho pins s σ H _ I h) fun v s1 ⟨x,H1,I1,r1,q1⟩=>?_;obtain⟨d,ob,kvs,rfl,hd,q⟩:=q1;obtain rfl:v=Value.ref d:=r1;obtain⟨_,z0,y0,_,_,o',es,ep,e1,_,ho,_,_⟩:=(show ObjOk X.prog X.w H1 s1.heap d (.frz ob (.dT kvs))from I1.hok d _ hd)
 obtain⟨hget,hx,xs,lx,hxs,hid⟩:=Kv (es:=es) (ep:=ep) I1.hok hd (by
  obtain⟨g,_⟩:=(show ObjOk X.prog X.w H1 s1.heap d (.frz ob (.dT kvs))from I1.hok d _ hd)
  rw[g]at e1;cases e1
  exact ho)
 have hob:ob.data=.dict es ep:=by
  rw[hget]at e1;cases e1
  exact ho
 have ll:(xs.map fun x=>(Value.ref x.2.1,x.2.2)).length=kvs.length:=by rw[ZA,lx]
 refine AF y0 hid ?_;refine⟨s1.heap.objs.size,[s1.heap.objs.size],_,_,H1,rfl,I1.kept (t':=s1.toks) fun b o e=>ZF _ e,E4 d _ (fun e=>?_) ob kvs es ep hob,?_,fun b hb=>?_,q⟩
 ·exact absurd (e▸ZH hget) (YM _)
 ·refine⟨_,ZN _ rfl,rfl,?_⟩;rw[ll];rfl
 ·have e:b=s1.heap.objs.size:=by simpa using hb
  subst e;exact I1.fpOk (ZG _) (I1.hok.fresh (ZG _))
end
end Own
namespace Pu
open PySem PySem.Spec PyProof.Rows L2 Own
section
variable {K:Za}{mg:Str->Option Value}{E:L2.St->XK}
def Cz(a:PTE):PTE:=fun γ R X=>a γ (fun x=>match x.d with | .lst ds=>R (.sh (.bl ds.isEmpty))|_=>False) X
def CG{te:TE}{a:PTE}(ha:SndE K mg E te a):SndE K mg E (Bh K te) (Cz a):=by
 intro H0 B H σ γ R X Q env p q qx;refine ha H0 B H σ γ _ X _ env p (fun x v H1 h1 S1 t1=>?_) qx;have rx:=t1.rp (env.grow S1).same;split at h1
 ·rename_i ds e;rw[e]at rx;obtain⟨l,us,rfl,hl,r⟩:=rx.lst_inv;refine⟨!us.isEmpty,.inl ⟨us,SqL.of hl,rfl⟩,?_⟩;rw[Bool.not_not,Xy r.len];exact q _ _ H1 h1 S1 (.bl _)
 ·exact h1.elim
def keyT(p:List Key×V):D:=.tup (p.1.map kD)
def pIK(a:PTE):PTI:=fun γ R X=>a γ (fun s=>∃kvs,s.shd=some (.dF kvs)/\R (kvs.map keyT).length fun i=>(S.sh .non).sub ((kvs.map keyT).getD i .non)) X
def CA{te:TE}{a:PTE}(ha:SndE K mg E te a):SndI K mg E (TQ te) (pIK a):=by
 intro H0 B H σ γ R X Q env h q qx;refine ha H0 B H σ γ _ X _ env h (fun s v H1 h1 S1 t1=>?_) qx;have env1:=env.grow S1;obtain⟨kvs,es,hR⟩:=h1;have r1:=t1.shd env1.same env.zm S1 es;obtain⟨l,o,rfl,hl⟩:=r1.dF_inv;have lk:(kvs.map keyT).length=kvs.length:=ZA ..;refine⟨l,o,kvs,rfl,off_sub _ _ hl,q _ _ _ H1 hR S1 ⟨fun i H' Z' hi lt=>?_,fun H' Z' lt=>⟨off_sub _ _ (lt.off _ _ hl),Wq lk.symm⟩⟩⟩;rw[lk]at hi;refine⟨⟨off_sub _ _ (lt.off _ _ hl),hi⟩,fun x H'' y=>?_⟩;obtain⟨rfl,b,ks,v,ek,hb,rfl⟩:=y;have eg:(kvs.map keyT).getD i .non=.tup (ks.map kD):=by rw[ZM,ZT,ek];rfl
 rw[eg]
 have noZ:¬Z' b:=fun z=>by
  have:=lt.2.1 b z
  rw[hb]at this;exact this
 exact⟨Same.refl _,.tup (VJ hb noZ) (P2 ks)⟩
end
end Pu
namespace M
open PySem PySem.Spec PyProof.Rows L2 Own Pu
def E6{kvs:List (List Key×V)}{k:List Key}(h:∀p∈kvs,p.1≠k):valV kvs k=none:=by
 unfold valV;rw[List.find?_eq_none.mpr fun p hp=>by simpa using h p hp];rfl
def GF(ps:List (Int×Int))(n:Nat):invM ps (runI 1 n)=0:=by
 have key:∀l:List Int,l.Pairwise (· < ·)->invM ps l=0:=fun l=>by
  induction l with
  |nil=>intro _;rfl
  |cons x l ih=>
   intro h;rw[W2]at h;unfold invM;rw[ih h.2,Qf.mpr fun y hy=>by have:=h.1 y hy;simp;omega];simp
 exact key _ (BY n)
def Bs{ps:List (Int×Int)}(h:∀x,0<=wdM ps x):∀r:List Int,0<=invM ps r
 |[]=>Int.le_refl _
 |x::t=>by
  have h1:∀l:List Int,0<=(l.map (wdM ps)).sum:=fun l=>by
   induction l with
   |nil=>exact Int.le_refl _
   |cons y l ih=>
    rw[ZZ,Qg]
    have:=h y
    omega
  have h2:=Bs h t;have h3:=Int.mul_nonneg (h x) (h1 (t.filter fun y=>decide (y<x)));show 0<=wdM ps x*_+invM ps t;omega
def oneW(n:Nat):List (Int×Int):=List.replicate n (0,1)
def Kk{n:Nat}(x:Int):0<=wdM (oneW n) x/\(1<=x->x<=n->wdM (oneW n) x=1):=by
 unfold wdM atP1 oneW;rw[ZM,WV];split
 ·exact⟨by decide,fun _ _=>rfl⟩
 ·exact⟨by decide,fun h1 h2=>by omega⟩
def levM(n:Nat)(r:List Int):Int:=invM (oneW n) r
def Xt(n:Nat)(r:List Int):0<=levM n r:=Bs (fun x=>(Kk x).1) r
def JD{n:Nat}{a b:List Int}{x y:Int}(h:(a++x::y::b).Perm (runI 1 n)):(a++y::x::b).Perm (runI 1 n):=((List.Perm.swap x y b).append_left a).trans h
def Ut{n:Nat}{a b:List Int}{x y:Int}(h:x<y)(hp:(a++x::y::b).Perm (runI 1 n)):levM n (a++y::x::b)=levM n (a++x::y::b)+1:=by
 have h1:=run_mem.mp (hp.mem_iff.mp (show x∈a++x::y::b by simp));have h2:=run_mem.mp (hp.mem_iff.mp (show y∈a++x::y::b by simp));unfold levM;rw[Kd h,(Kk x).2 h1.1 h1.2,(Kk y).2 h2.1 h2.2];rfl
structure Bq (n:Nat) (q:List (List Int)) (i:Nat):Prop where
 nd:q.Nodup
 pm:∀r∈q,r.Perm (runI 1 n)
 own:runI 1 n∈q
 srt:q.Pairwise fun a b=>levM n a<=levM n b
 up:∀r∈q.take i,∀a x y b,r=a++x::y::b->x<y->(a++y::x::b)∈q
 near:∀r,q[i]?=some r->∀s∈q,levM n s<=levM n r+1
def Bq.start (n:Nat):Bq n [runI 1 n] 0 where
 nd:=by simp
 pm:=fun r hr=>by rw[ZE.mp hr]
 own:=by simp
 srt:=Wv _ _
 up:=fun r hr=>by simp at hr
 near:=fun r hr s hs=>by
  simp at hr hs;rw[hs,hr];omega
def Bq.full {n:Nat}{q:List (List Int)}{i:Nat}{r:List Int} (B:Bq n q i) (hr:q[i]?=some r):∀(m:Nat) (s:List Int),s.Perm (runI 1 n)->levM n s=m->levM n s<=levM n r->s∈q:=by
 intro m
 induction m with
 |zero=>
  intro s hp hm hl;by_cases e:s=runI 1 n
  ·rw[e];exact B.own
  ·obtain⟨a,x,y,b,rfl,h⟩:=XA hp e;have h1:=Ut h (JD hp);have h2:=Xt n (a++y::x::b);omega
 |succ m ih=>
  intro s hp hm hl;by_cases e:s=runI 1 n
  ·rw[e];exact B.own
  ·obtain⟨a,x,y,b,rfl,h⟩:=XA hp e;have h1:=Ut h (JD hp);have h3:=ih _ (JD hp) (by omega) (by omega);obtain⟨j,hj,ej⟩:=Q0 h3;obtain⟨hi,ei⟩:=ZW.mp hr
   have hji:j<i:=Ys fun z=>by
    rcases Nat.lt_or_eq_of_le (WD.mp z)with c|c
    ·have:=YE.mp B.srt i j hi hj c
     rw[ej,ei]at this;omega
    ·subst c;rw[ej]at ei;rw[←ei]at hl;omega
   exact B.up (a++y::x::b) (Yi.mpr ⟨j,by rw[Yf];omega,by rw[Y7];exact ej⟩) a y x b rfl h
def Bq.push {n:Nat}{q:List (List Int)}{i:Nat}{a b:List Int}{x y:Int} (B:Bq n q i) (hr:q[i]?=some (a++x::y::b)) (h:x<y) (hn:(a++y::x::b)∉q):Bq n (q++[a++y::x::b]) i/\(q++[a++y::x::b])[i]?=some (a++x::y::b):=by
 obtain⟨hi,ei⟩:=ZW.mp hr;have hp:(a++x::y::b).Perm (runI 1 n):=B.pm _ (ei▸Yb hi);have hl:=Ut h hp;have hi2:(q++[a++y::x::b])[i]?=some (a++x::y::b):=by rw[Wm hi];exact hr
 refine⟨⟨?_,?_,?_,?_,?_,?_⟩,hi2⟩
 ·refine Y0.mpr ⟨B.nd,by simp,fun s hs t ht e=>hn ?_⟩;rw[ZE.mp ht]at e;exact e▸hs
 ·intro s hs;rcases ZY.mp hs with c|c
  ·exact B.pm s c
  ·rw[ZE.mp c];exact JD hp
 ·exact ZY.mpr (.inl B.own)
 ·refine Wo.mpr ⟨B.srt,Wv _ _,fun s hs t ht=>?_⟩;rw[ZE.mp ht,hl];exact B.near _ hr s hs
 ·intro s hs a' x' y' b' e h';rw[List.take_append_of_le_length (W9 hi)]at hs;exact ZY.mpr (.inl (B.up s hs a' x' y' b' e h'))
 ·intro r' hr' s hs;rw[hi2]at hr';rw[←ZL hr'];rcases ZY.mp hs with c|c
  ·exact B.near _ hr s c
  ·rw[ZE.mp c,hl];exact Int.le_refl _
def Bq.next {n:Nat}{q:List (List Int)}{i:Nat}{r:List Int} (B:Bq n q i) (hr:q[i]?=some r) (hu:∀a x y b,r=a++x::y::b->x<y->(a++y::x::b)∈q):Bq n q (i+1) where
 nd:=B.nd
 pm:=B.pm
 own:=B.own
 srt:=B.srt
 up:=fun s hs a x y b e h=>by
  obtain⟨hi,ei⟩:=ZW.mp hr;rw[Yg hi,ZY,ZE,ei]at hs;rcases hs with c|c
  ·exact B.up s c a x y b e h
  ·exact hu a x y b (c▸e) h
 near:=fun r' hr' s hs=>by
  obtain⟨hi,ei⟩:=ZW.mp hr;obtain⟨hi',ei'⟩:=ZW.mp hr'
  have:=YE.mp B.srt i (i+1) hi hi' (Qi i)
  rw[ei,ei']at this
  have:=B.near r hr s hs
  omega
def Bq.all {n:Nat}{q:List (List Int)} (B:Bq n q q.length):∀(m:Nat) (s:List Int),s.Perm (runI 1 n)->levM n s=m->s∈q:=by
 intro m
 induction m with
 |zero=>
  intro s hp hm;by_cases e:s=runI 1 n
  ·rw[e];exact B.own
  ·obtain⟨a,x,y,b,rfl,h⟩:=XA hp e;have h1:=Ut h (JD hp);have h2:=Xt n (a++y::x::b);omega
 |succ m ih=>
  intro s hp hm;by_cases e:s=runI 1 n
  ·rw[e];exact B.own
  ·obtain⟨a,x,y,b,rfl,h⟩:=XA hp e;have h1:=Ut h (JD hp);have h3:=ih _ (JD hp) (by omega);exact B.up (a++y::x::b) (by rw[YI];exact h3) a y x b rfl h
def Bq.iff {n:Nat}{q:List (List Int)} (B:Bq n q q.length) (s:List Int):s∈q↔s.Perm (runI 1 n):=⟨B.pm s,fun h=>B.all (levM n s).toNat s h (by have:=Xt n s;omega)⟩
def Na:∀{xs ys:List (List Int)},xs.Nodup->(∀x∈xs,x∈ys)->xs.length<=ys.length
 |[],_,_,_=>YJ _
 |x::xs,ys,nd,h=>by
  obtain⟨h1,h2⟩:=Yv.mp nd;have hx:x∈ys:=h x (Yo ..);have ih:=Na (ys:=ys.erase x) h2 fun z hz=>(List.mem_erase_of_ne (fun e:z=x=>h1 (e▸hz))).mpr (h z (Yc _ hz));rw[WS hx]at ih
  have:0<ys.length:=W5 hx
  rw[Ya];omega
def Bq.len {n:Nat}{q:List (List Int)}{i:Nat} (hz:n<=7) (B:Bq n q i):q.length<=5040:=by
 have h:=Pb (JM n) n;rw[JK]at h;obtain⟨e1,e2⟩:=Se n (by omega)
 have:q.length<=(J0 (runI 1 n) n).length:=Na B.nd fun r hr=>by
  have:=(SL (r:=r) (JM n)).mpr (B.pm r hr)
  rwa[JK]at this
 omega
def entC(ps:List (Int×Int))(r:List Int):List Key×V:=entS (r,invM ps r)
def Fx{ps:List (Int×Int)}{q:List (List Int)}(nd:q.Nodup)(r:List Int):valV (q.map (entC ps)) (kT r)=if r∈q then some (.int (invM ps r))else none:=by
 split
 ·rename_i h
  have nk:((q.map (entC ps)).map (·.1)).Nodup:=by
   rw[Yx,List.Nodup,YL];exact nd.imp fun {a b} h e=>h (NB e)
  exact Bo nk (entC ps r) (Yd.mpr ⟨r,h,rfl⟩)
 ·rename_i h;refine E6 fun p hp e=>?_;obtain⟨s,hs,rfl⟩:=Yd.mp hp;exact h (NB (show kT s=kT r from e)▸hs)
def HZ:Pu.Γ->Nat
 |[_,_,_,_,some (S.sh (D.int i)),_,_,_,_,_]=>6000-i.toNat
 |_=>0
def D2{r:List Int}{k:Nat}(h:k+1<r.length):∃a x y b,r=a++x::y::b/\a.length=k:=by
 refine⟨r.take k,r[k],r[k+1],r.drop (k+2),?_,by rw[Yf];omega⟩;rw[←WK h,←WK (show k<r.length by omega),List.take_append_drop]
def two_same{a a' b b':List Int}{x y x' y':Int}(h:a++x::y::b=a'++x'::y'::b')(hl:a.length=a'.length):a++y::x::b=a'++y'::x'::b':=by
 obtain⟨rfl,h2⟩:=List.append_inj h hl;injection h2 with e1 h3;injection h3 with e2 e3;rw[e1,e2,e3]
def F8{o:List Int}{a b:Int}(ha:a∈o)(hb:b∈o)(e:o.idxOf a=o.idxOf b):a=b:=by
 have h1:o[o.idxOf a]?=some a:=by rw[ZC (List.idxOf_lt_length_of_mem ha),WR]
 have h2:o[o.idxOf b]?=some b:=by rw[ZC (List.idxOf_lt_length_of_mem hb),WR]
 rw[e,h2]at h1;exact(ZL h1).symm
def Sx{hs:List Int}{ws:List (Int×Int)}(hu:∀q∈ws,q.1≠q.2)(hN:¬ ∃r,Ring hs ws r):∀(n:Nat) (ms:List Int),ms.length=n->(∀x∈ms,x∈hs)->∃o:List Int,o.Perm ms/\Keeps ws o
 | 0,ms,hl,_=>⟨[],by rw[YK.mp hl],.nil⟩
 |n+1,ms,hl,hsub=>by
  have hne:ms≠[]:=fun z=>by rw[z]at hl;simp at hl
  have hx:∃x∈ms,∀y∈ms,(y,x)∉ws:=Ys fun z=>by
   obtain⟨r,R⟩:=T5 hu hne fun x hx=>Ys fun k=>z ⟨x,hx,fun y hy w=>k ⟨y,hy,w⟩⟩;exact hN ⟨r,{R with sub:=fun x hx=>hsub x (R.sub x hx)}⟩
  obtain⟨x,hx,hy⟩:=hx;obtain⟨o,hp,hk⟩:=Sx hu hN n (ms.erase x) (by rw[WS hx];omega) fun z hz=>hsub z (List.mem_of_mem_erase hz);exact⟨x::o,(hp.cons x).trans (List.perm_cons_erase hx).symm,W2.mpr ⟨fun b hb=>hy b (List.mem_of_mem_erase (hp.mem_iff.mp hb)),hk⟩⟩
def AR{o:List Int}(l:List Int):(∀z∈l,z∈o)->l.Pairwise (fun a b=>o.idxOf a<=o.idxOf b)->(Vo l).Pairwise fun a b=>o.idxOf a<o.idxOf b:=by
 refine Pw (P:=fun l=>(∀z∈l,z∈o)->l.Pairwise (fun a b=>o.idxOf a<=o.idxOf b)->(Vo l).Pairwise fun a b=>o.idxOf a<o.idxOf b) (fun _ _=>.nil) (fun r h ih hin hp=>?_) l;obtain⟨p1,_,p3⟩:=Wo.mp hp;have ih:=ih (fun z hz=>hin z (ZY.mpr (.inl hz))) p1;rw[Xk];by_cases c:h∈Vo r
 ·rw[ZK c];exact ih
 ·rw[ZI c];refine Wo.mpr ⟨ih,Wv _ _,fun a ha b hb=>?_⟩;rw[ZE.mp hb];have har:=((X7 r).2 a).mp ha;have h1:=p3 a har h (by simp);refine Nat.lt_of_le_of_ne h1 fun e=>c ?_;rw[←F8 (hin a (ZY.mpr (.inl har))) (hin h (by simp)) e];exact ha
def HR{ps ws:List (Int×Int)}(hF:Field ps)(hu:∀q∈ws,q.1≠q.2)(hN:¬ ∃r,Ring (Vq ps) ws r):∃r,r.Perm (runI 1 ps.length)/\J6 (fldS ps r) ws:=by
 have nd:(Vq ps).Nodup:=(Po ps).imp (fun h=>Int.ne_of_lt h);obtain⟨o,hp,hk⟩:=Sx hu hN _ (Vq ps) rfl fun _ h=>h;have no:o.Nodup:=hp.nodup_iff.mpr nd;have hin:∀q∈ps,q.1∈o:=fun q hq=>hp.mem_iff.mpr ((Ks hF).mpr (Yd.mpr ⟨q,hq,rfl⟩));obtain⟨h1,h2⟩:=Ao no hin;generalize endsN ps o=r at h1 h2
 have hio:∀q∈fldS ps r,q.1∈o:=fun q hq=>by
  obtain⟨z,hz,rfl⟩:=Yd.mp hq;have hz':=run_mem.mp (h1.mem_iff.mp hz);exact hin _ (Pk hz'.1 hz'.2)
 have hs:(fldS ps r).Pairwise fun p q=>o.idxOf p.1<=o.idxOf q.1:=by
  unfold fldS;rw[YL];refine h2.imp fun {x y} h=>?_;unfold LexR rkN at h
  have h':((o.idxOf (hdN ps x):Nat):Int)<=((o.idxOf (hdN ps y):Nat):Int):=by
   rcases h with h|h
   ·omega
   ·omega
  exact Int.ofNat_le.mp h'
 refine⟨r,h1,fun k j hj hk' e=>?_,fun q hq=>?_⟩
 ·rw[VI (by omega),VI hk']at e;rw[VI (by omega),VI hk'];rcases Nat.lt_or_eq_of_le (Nat.le_sub_one_of_lt hj)with c|c
  ·have a1:=YE.mp hs j (k-1) (by omega) (by omega) c;have a2:=YE.mp hs (k-1) k (by omega) hk' (by omega);rw[e]at a1;exact F8 (hio _ (Yb _)) (hio _ (Yb _)) (by omega)
  ·subst c;exact e
 ·have hl:=AR (o:=o) ((fldS ps r).map (·.1)) (fun z hz=>by obtain⟨q,hq,rfl⟩:=Yd.mp hz;exact hio q hq) (YL.mpr hs);have hm:=X7 ((fldS ps r).map (·.1));generalize Vo ((fldS ps r).map (·.1))=L at hl hm
  have hlo:∀z∈L,z∈o:=fun z hz=>by
   obtain⟨q,hq,rfl⟩:=Yd.mp ((hm.2 z).mp hz);exact hio q hq
  have hkL:Keeps ws L:=(Qk.mp hl).imp fun {a b} h=>N0 hk (hlo b h.2.1) ((BD no (hlo a h.1)).mpr h.2.2);unfold broK;by_cases c1:q.1∈L
  ·by_cases c2:q.2∈L.take (L.idxOf q.1)
   ·exact absurd hq (N0 hkL c1 c2)
   ·simp[c2]
  ·simp[c1]
end M
namespace T
open PySem PySem.Spec PyProof.Rows L2
def top(i:Nat):Stmt:=PySem.Challenge.pw_stripmeld_k18_least_by_stands.main.body.getD i (.Pass ⟨0,0,0,0⟩)
abbrev KB:Stmt:=top 5
def EW:FnScope ["strips"] ["strips"] (Vi KB):=Pu.fs
abbrev PQ:Stmt:=top 6
def Dv:FnScope ["strips","index"] ["strips","index"] (Vi PQ):=Pu.fs
abbrev KO:Stmt:=top 7
def Nn:FnScope ["strips","runs"] ["strips"] (Vi KO):=Pu.fs
abbrev PH:Stmt:=top 9
def CP:FnScope ["strips"] ["strips"] (Vi PH):=Pu.fs
abbrev Pi:Stmt:=top 11
def Xl:FnScope ["order","wishes","index_of","index","holder","between"] ["order","wishes"] (Vi Pi):=Pu.fs
abbrev PM:Stmt:=top 12
def UO:FnScope ["paths","left","wishes","longer","reached","path","holder"] ["paths","left","wishes"] (Vi PM):=Pu.fs
abbrev Th:Stmt:=top 13
def Uo:FnScope ["least","holders","wishes","paths","left","rings","reached"] ["least","holders","wishes"] (Vi Th):=Pu.fs
abbrev KU:Stmt:=top 14
def UW:FnScope ["holders","wishes","ring","least","found"] ["holders","wishes"] (Vi KU):=Pu.fs
abbrev KI:Stmt:=top 15
def N8:FnScope ["strips","wishes","ring"] ["strips","wishes"] (Vi KI):=Pu.fs
abbrev Ti:Stmt:=top 18
def Dl:FnScope ["strips"] ["strips"] (Vi Ti):=Pu.fs
abbrev P3:Stmt:=top 19
def N2:FnScope ["strips","stand","number","passed"] ["strips","stand","number"] (Vi P3):=Pu.fs
abbrev KS:Stmt:=top 20
def UP:FnScope ["strips","stands","longer","stand","cost","number"] ["strips","stands"] (Vi KS):=Pu.fs
abbrev Pv:Stmt:=top 21
def XD:FnScope ["strips","stands","length"] ["strips"] (Vi Pv):=Pu.fs
abbrev KP:Stmt:=top 22
def XH:FnScope ["field","order","holder","width"] ["field"] (Vi KP):=Pu.fs
abbrev PZ:Stmt:=top 23
def FB:FnScope ["field","wishes"] ["field","wishes"] (Vi PZ):=Pu.fs
abbrev Ki:Stmt:=top 24
def Dy:FnScope ["strips","stand"] ["strips","stand"] (Vi Ki):=Pu.fs
abbrev Ta:Stmt:=top 25
def N5:FnScope ["strips","wishes","stands"] ["strips","wishes"] (Vi Ta):=Pu.fs
abbrev Pd:Stmt:=top 27
def Ee:FnScope ["_law_script","_law_k"] ["_law_script","_law_k"] (Vi Pd):=Pu.fs
abbrev KF:Stmt:=top 28
def Am:FnScope ["_law_found"] ["_law_found"] (Vi KF):=Pu.fs
abbrev Kn:Stmt:=top 29
def Sa:FnScope ["_law_cell","_law_place","_law_first"] ["_law_cell","_law_place"] (Vi Kn):=Pu.fs
abbrev KC:Stmt:=top 30
def HL:FnScope ["_law_script","_law_k"] ["_law_script","_law_k"] (Vi KC):=Pu.fs
abbrev Kr:Stmt:=top 31
def P9:FnScope ["_law_cell","_law_wide","_law_least"] ["_law_cell"] (Vi Kr):=Pu.fs
abbrev Py:Stmt:=top 32
def Ax:FnScope ["_law_menu_here","_law_k"] ["_law_menu_here","_law_k"] (Vi Py):=Pu.fs
abbrev K9:Stmt:=top 33
def UX:FnScope ["_law_script","_law_menu_here","_law_many","_law_strips_here","_law_k","_law_cell","_law_width"] ["_law_script","_law_menu_here","_law_many"] (Vi K9):=Pu.fs
abbrev Pz:Stmt:=top 34
def J1:FnScope ["_law_script","_law_menu_here","_law_how","_law_pool","_law_wishes_here","_law_k","_law_cell","_law_one","_law_two","_law_pair"] ["_law_script","_law_menu_here"] (Vi Pz):=Pu.fs
abbrev Tf:Stmt:=top 35
def P1:FnScope ["_law_found","_law_due","_law_k","_law_j"] ["_law_found","_law_due"] (Vi Tf):=Pu.fs
abbrev P8:Stmt:=top 36
def NH:FnScope ["_law_strips_here","_law_owners"] ["_law_strips_here"] (Vi P8):=Pu.fs
abbrev K6:Stmt:=top 37
def KG:FnScope ["_law_strips_here","_law_k","_law_j"] ["_law_strips_here"] (Vi K6):=Pu.fs
abbrev KR:Stmt:=top 38
def K8:FnScope ["_law_order","_law_wishes_here","_law_one","_law_two"] ["_law_order","_law_wishes_here"] (Vi KR):=Pu.fs
abbrev KQ:Stmt:=top 39
def U6:FnScope ["_law_holders","_law_wishes_here","_law_left","_law_turn","_law_inside","_law_behind"] ["_law_holders","_law_wishes_here"] (Vi KQ):=Pu.fs
abbrev Pa:Stmt:=top 40
def G3:FnScope ["_law_stand","_law_k"] ["_law_stand","_law_k"] (Vi Pa):=Pu.fs
abbrev Pq:Stmt:=top 41
def XI:FnScope ["_law_stand","_law_strips_here","_law_wishes_here","_law_field","_law_order","_law_strip"] ["_law_stand","_law_strips_here","_law_wishes_here"] (Vi Pq):=Pu.fs
abbrev KH:Stmt:=top 42
def Js:FnScope ["_law_strips_here","_law_own","_law_prices","_law_queue","_law_at_here","_law_stand","_law_k","_law_other","_law_step","_law_price"] ["_law_strips_here"] (Vi KH):=Pu.fs
abbrev Kx:Stmt:=top 43
def UA:FnScope ["_law_which","_law_strips_here","_law_wishes_here","_law_kinds","e"] ["_law_which","_law_strips_here","_law_wishes_here"] (Vi Kx):=Pu.fs
abbrev J4:Stmt:=top 44
def Jq:FnScope ["_law_script","_law_menu_here","_law_many","_law_size","_law_strips_here","_law_wishes_here","_law_handed","_law_wanted","_law_found","_law_prices","_law_good"] ["_law_script"] (Vi J4):=Pu.fs
structure Glob (K:Za) (mg:Str->Option Value):Prop where
 ValueError:mg "ValueError"=none
 bool:mg "bool"=none
 enumerate:mg "enumerate"=none
 int:mg "int"=none
 isinstance:mg "isinstance"=none
 len:mg "len"=none
 list:mg "list"=none
 max:mg "max"=none
 min:mg "min"=none
 range:mg "range"=none
 set:mg "set"=none
 sorted:mg "sorted"=none
 sum:mg "sum"=none
 tuple:mg "tuple"=none
 SMALL:∃u,mg "SMALL"=some u/\RelV (.int 7) u
 m_MeldError:mg "MeldError"=some (.ref (ExcR.Vt mg "MeldError"))
 g_MeldError:ExcR.ErrGet K (ExcR.Vt mg "MeldError")
 m_TooManyStands:mg "TooManyStands"=some (.ref (ExcR.Vt mg "TooManyStands"))
 g_TooManyStands:ExcR.ErrGet K (ExcR.Vt mg "TooManyStands")
 x_TooManyStands_TooManyStands:PySem.W.exmOne K (.ref (ExcR.Vt mg "TooManyStands")) (.ref (ExcR.Vt mg "TooManyStands"))=some true
 k_TooManyStands_MeldError:PySem.W.kitOne K (.ref (ExcR.Vt mg "TooManyStands")) (.ref (ExcR.Vt mg "MeldError"))=some true
 k_TooManyStands_ValueError:PySem.W.kitOne K (.ref (ExcR.Vt mg "TooManyStands")) (.type "ValueError")=some true
end T
namespace M
open PySem PySem.Spec PyProof.Rows L2 Own Pu
def F6(_:Za):Sp:=fun vs H Q _=>∃(l:Addr) (ps:List (Int×Int)),vs=[.ref l]/\LAt Je H l ps/\Field ps/\ps.length<=50/\
 ∀(q:Addr) (H':Hp),H q=none->Same H H'->H' q=some (.lst ((Vq ps).map V.int))->Q (.ref q) H'
def Fc:Pc:=fun ds R _=>∃ps:List (Int×Int),ds=[.lst (ps.map prD)]/\Field ps/\ps.length<=50/\R (.own ((Vq ps).map D.int))
def T8{P:Program}{w:World}{K:Za}{mg:Str->Option Value}{base:Heap}(C:Callee P w K mg base CX0 1 "holders_of" ["strips"] (F6 K)):Callee P w K mg base CX0 1 "holders_of" ["strips"] (Pu.spOf mg Fc K):=E2 C fun ds R X vs H Q E r hc hQ hX=>by
 obtain⟨ps,rfl,hF,hz,hR⟩:=hc;obtain⟨v,rfl,r1⟩:=r.one_inv;obtain⟨a,rfl,ha⟩:=r1.pairs_inv;exact⟨a,ps,rfl,ha,hF,hz,fun q H' nq S h=>hQ _ _ H' hR S (GO nq h)⟩
def Ig:Pc:=fun ds R _=>∃(ps:List (Int×Int)) (k:Nat),ds=[plD ps,.int k]/\k<ps.length/\R (.sh (.bl (begM ps k)))
def Cj:Pc:=fun ds R _=>∃ps:List (Int×Int),ds=[.lst (ps.map prD)]/\ps.length<=1000/\R (.own ((runI 1 ps.length).map D.int))
def J9(os:List Int)(q:Int×Int):Bool:=decide (q.1∈os)&&decide (q.2∈os.take (os.idxOf q.1))
def CT:Pc:=fun ds R _=>∃(os:List Int) (ws:List (Int×Int)),ds=[.lst (os.map D.int),.lst (ws.map prD)]/\os.Nodup/\os.length<=50/\ws.length<=50/\R (.own ((ws.filter (J9 os)).map prD))
def LW(ws:List (Int×Int))(l:Int)(ps:List (List Int))(ls:List Int)(lg:List (List Int)):Prop:=∀q∈lg,∃p∈ps,∃h∈ls,q=p++[h]/\(Vr l p,h)∈ws
def Hu:Pc:=fun ds R _=>∃(l:Int) (ps:List (List Int)) (ls:List Int) (ws:List (Int×Int)),ds=[.lst (ps.map (em l)),.lst (ls.map D.int),.lst (ws.map prD)]/\(∀p∈ps,p.length<=100)/\ls.length<=100/\
 ∀lg,LW ws l ps ls lg->lg.length<=ls.length->R (.own (lg.map (em l)))
def J8(ps:List (Int×Int)):Option Str:=if 7<ps.length then some "TooManyStands" else none
def GH:Pc:=fun ds R X=>∃ps:List (Int×Int),ds=[plD ps]/\Pm (J8 ps) X (R (.sh .non))
def HC:Pc:=fun ds R _=>∃(ps:List (Int×Int)) (r:List Int) (x:Int),ds=[plD ps,tD r,.int x]/\Field ps/\ps.length<=50/\1<=x/\x<=ps.length/\R (.sh (.int (VM ps r x)))
def G9:Pc:=fun ds R _=>∃ps:List (Int×Int),ds=[plD ps]/\ps.length<=1000/\R (.own ((Vo (ps.map (·.1))).map D.int))
def FN:Pc:=fun ds R _=>∃(ps:List (Int×Int)) (r:List Int),ds=[plD ps,tD r]/\r.length<=1000/\(∀z∈r,1<=z/\z<=ps.length)/\R (.own ((r.map fun z=>atP1 ps z).map prD))
def Er:Pc:=fun ds R _=>∃(ns:List Int) (k:Int),ds=[.scr ns,.int k]/\0<=k/\∀v:Int,R (.sh (.int v))
def DN:Pc:=fun ds R _=>∃i:Int,ds=[.int i]/\R (.sh (.bl true))
def DY:Pc:=fun ds R _=>∃c p:Int,ds=[.int c,.int p]/\∀v:Int,R (.sh (.int v))
def AH:Pc:=fun ds R _=>∃c:Int,ds=[.int c]/\∀m,Menu m->R (.own (m.map D.int))
def Cb:Pc:=fun ds R _=>∃(m:List Int) (k:Int),ds=[.lst (m.map D.int),.int k]/\Menu m/\∀h:Int,1<=h->h<=10->h=KJ m k->R (.sh (.int h))
def E9:Pc:=fun ds R _=>∃ps:List (Int×Int),ds=[.lst (ps.map prD)]/\ps.length<=50/\R (.own ((Vq ps).map D.int))
def EB:Pc:=fun ds R _=>∃ps:List (Int×Int),ds=[plD ps]/\ps.length<=1000/\(TogP ps->R (.sh (.bl true)))/\(¬TogP ps->R (.sh (.bl false)))
def badM(os:List Int)(q:Int×Int):Bool:=decide (q.1∈os)&&(decide (q.2∈os)&&decide (os.idxOf q.2<os.idxOf q.1))
def HS:Pc:=fun ds R _=>∃(os:List Int) (ws:List (Int×Int)),ds=[.lst (os.map D.int),.lst (ws.map prD)]/\((∀q∈ws,badM os q=false)->R (.sh (.bl true)))/\((∃q∈ws,badM os q=true)->R (.sh (.bl false)))
def E5:Pc:=fun ds R _=>∃(hs:List Int) (ws:List (Int×Int)),ds=[.lst (hs.map D.int),.lst (ws.map prD)]/\hs.length<=50/\ws.length<=50/\R (.sh (.bl (decide (Vp ws hs hs.length=[]))))
def A5:Pc:=fun ds R _=>∃(a b:List Int) (x y:Int),ds=[tD (a++x::y::b),.int a.length]/\a.length<=100/\b.length<=100/\R (.sh (tD (a++y::x::b)))
def Dw:Pc:=fun ds R _=>∃ps:List (Int×Int),ds=[plD ps]/\Field ps/\ps.length<=50/\(TogP ps->R (.sh (.bl true)))/\(¬TogP ps->R (.sh (.bl false)))
def D5:Pc:=fun ds R _=>∃(l:Int) (hs:List Int) (ws:List (Int×Int)),ds=[.int l,.lst (hs.map D.int),.lst (ws.map prD)]/\hs.length<=50/\(∀t,¬U2 hs ws l t)/\R (.sh (.lst []))
def HB:Pc:=fun ds R _=>∃(ps:List (Int×Int)) (S:List (List Int×Int)),ds=[plD ps,.lst (S.map stD)]/\Field ps/\ps.length<=7/\S.length<=1000000/\(∀q∈S,q.1.length<=10)/\R (.own ((S.flatMap (Jm ps)).map stD))
def GP:Pc:=fun ds R _=>∃(ns:List Int) (k:Int),ds=[.scr ns,.int k]/\0<=k/\∀v:Int,R (.sh (.int v))
def Dq:Pc:=fun ds R _=>∃ps:List (Int×Int),ds=[.lst (ps.map prD),.lst (ps.map prD)]/\ps.length<=1000000/\R (.sh (.bl true))
def GE:Pc:=fun ds R _=>∃(ps ws:List (Int×Int)) (r:List Int),ds=[tD r,plD ps,plD ws]/\r.length<=100/\(∀z∈r,1<=z/\z<=ps.length)/\(J6 (fldS ps r) ws->R (.sh (.bl true)))/\(¬J6 (fldS ps r) ws->R (.sh (.bl false)))
def Az:Pc:=fun ds R _=>∃ps:List (Int×Int),ds=[plD ps]/\Field ps/\ps.length<=7/\∀q:List (List Int),q.Nodup->q.length<=5040->(∀r,r∈q↔r.Perm (runI 1 ps.length))->R (.sh (.dF (q.map (entC ps))))
def AB:Pc:=fun ds R _=>∃(hs:List Int) (ws:List (Int×Int)),ds=[.lst (hs.map D.int),.lst (ws.map prD)]/\hs.length<=50/\(∀l∈hs,∀t,¬U2 hs ws l t)/\R (.sh (.lst []))
def Gk:Pc:=fun ds R X=>∃ps:List (Int×Int),ds=[plD ps]/\Field ps/\Pm (J8 ps) X (R (.own ((VQ ps ps.length).map stD)))
def Et:Pc:=fun ds R _=>∃ps ws:List (Int×Int),ds=[plD ps,plD ws]/\Field ps/\ps.length<=50/\ws.length<=50/\(J6 ps ws->R (.sh (.bl true)))/\(¬J6 ps ws->R (.sh (.bl false)))
def EL:Pc:=fun ds R _=>∃(ns m:List Int) (n:Int),ds=[.scr ns,.lst (m.map D.int),.int n]/\Menu m/\0<=n/\n<=1000/\∀ps:List (Int×Int),Field ps->ps.length=n.toNat->R (.own (ps.map prD))
def Hx:Pc:=fun ds R _=>∃(ns m:List Int),ds=[.scr ns,.lst (m.map D.int)]/\Menu m/\∀ws,UY ws->R (.own (ws.map prD))
def Dc:Pc:=fun ds R _=>∃(ps ws:List (Int×Int)),ds=[.lst (ps.map prD),.lst (ws.map prD)]/\Field ps/\ps.length<=50/\(∀q∈ws,q.1≠q.2)/\(¬ ∃r,Ring (Vq ps) ws r)/\R (.sh .non)
def De:Pc:=fun ds R X=>∃ps ws:List (Int×Int),ds=[plD ps,plD ws]/\Field ps/\Pm (J8 ps) X (ws.length<=50/\(∀q∈ws,q.1≠q.2)/\(¬ ∃r,Ring (Vq ps) ws r)/\(∃r,r.Perm (runI 1 ps.length)/\J6 (fldS ps r) ws)/\∀m,HE ps ws m->R (.sh (.int m)))
def Hq:Pc:=fun ds R _=>∃(k:Int) (ps ws:List (Int×Int)),ds=[.int k,plD ps,plD ws]/\Field ps/\7<ps.length/\R (.sh (.bl true))
variable (P:Program) (w:World) (K:Za) (mg:Str->Option Value) (base:Heap)
abbrev B4:Prop:=Callee P w K mg base CX0 1 "holders_of" ["strips"] (Pu.spOf mg Fc K)
abbrev Sn:Prop:=Callee P w K mg base CX0 1 "begins_run" ["strips","index"] (Pu.spOf mg Ig K)
abbrev Nf:Prop:=Callee P w K mg base CX0 1 "own_numbers" ["strips"] (Pu.spOf mg Cj K)
abbrev SA:Prop:=Callee P w K mg base CX0 1 "broken_wishes" ["order","wishes"] (Pu.spOf mg CT K)
abbrev SG:Prop:=Callee P w K mg base CX0 1 "longer_paths" ["paths","left","wishes"] (Pu.spOf mg Hu K)
abbrev K4:Prop:=Callee P w K mg base (ExcR.CXe P w) 1 "check_small" ["strips"] (Pu.spOf mg GH K)
abbrev N3:Prop:=Callee P w K mg base CX0 1 "cost_to_come_next" ["strips","stand","number"] (Pu.spOf mg HC K)
abbrev Tp:Prop:=Callee P w K mg base CX0 1 "holders_from_left" ["field"] (Pu.spOf mg G9 K)
abbrev F7:Prop:=Callee P w K mg base CX0 1 "field_of_stand" ["strips","stand"] (Pu.spOf mg FN K)
abbrev Km:Prop:=Callee P w K mg base CX0 1 "_law_at" ["_law_script","_law_k"] (Pu.spOf mg Er K)
abbrev Ky:Prop:=Callee P w K mg base CX0 1 "_law_whole" ["_law_found"] (Pu.spOf mg DN K)
abbrev Sv:Prop:=Callee P w K mg base CX0 1 "_law_mix" ["_law_cell","_law_place"] (Pu.spOf mg DY K)
abbrev Nl:Prop:=Callee P w K mg base CX0 1 "_law_menu" ["_law_cell"] (Pu.spOf mg AH K)
abbrev P5:Prop:=Callee P w K mg base CX0 1 "_law_holder" ["_law_menu_here","_law_k"] (Pu.spOf mg Cb K)
abbrev N6:Prop:=Callee P w K mg base CX0 1 "_law_present" ["_law_strips_here"] (Pu.spOf mg E9 K)
abbrev B6:Prop:=Callee P w K mg base CX0 1 "_law_together" ["_law_strips_here"] (Pu.spOf mg EB K)
abbrev SJ:Prop:=Callee P w K mg base CX0 1 "_law_kept" ["_law_order","_law_wishes_here"] (Pu.spOf mg HS K)
abbrev T9:Prop:=Callee P w K mg base CX0 1 "_law_no_ring" ["_law_holders","_law_wishes_here"] (Pu.spOf mg E5 K)
abbrev Sj:Prop:=Callee P w K mg base CX0 1 "_law_swapped" ["_law_stand","_law_k"] (Pu.spOf mg A5 K)
abbrev Fu:Prop:=Callee P w K mg base CX0 2 "lies_together" ["strips"] (Pu.spOf mg Dw K)
abbrev S9:Prop:=Callee P w K mg base CX0 2 "ring_from" ["least","holders","wishes"] (Pu.spOf mg D5 K)
abbrev ND:Prop:=Callee P w K mg base CX0 2 "longer_stands" ["strips","stands"] (Pu.spOf mg HB K)
abbrev XC:Prop:=Callee P w K mg base CX0 2 "_law_draw" ["_law_script","_law_k"] (Pu.spOf mg GP K)
abbrev Sm:Prop:=Callee P w K mg base CX0 2 "_law_tuples" ["_law_found","_law_due"] (Pu.spOf mg Dq K)
abbrev Sr:Prop:=Callee P w K mg base CX0 2 "_law_stand_keeps" ["_law_stand","_law_strips_here","_law_wishes_here"] (Pu.spOf mg GE K)
abbrev NN:Prop:=Callee P w K mg base CX0 2 "_law_come_to" ["_law_strips_here"] (Pu.spOf mg Az K)
abbrev BL:Prop:=Callee P w K mg base CX0 3 "find_ring" ["holders","wishes"] (Pu.spOf mg AB K)
abbrev Tc:Prop:=Callee P w K mg base (ExcR.CXe P w) 3 "all_stands" ["strips"] (Pu.spOf mg Gk K)
abbrev Bc:Prop:=Callee P w K mg base CX0 3 "is_melded" ["field","wishes"] (Pu.spOf mg Et K)
abbrev Su:Prop:=Callee P w K mg base CX0 3 "_law_strips" ["_law_script","_law_menu_here","_law_many"] (Pu.spOf mg EL K)
abbrev F5:Prop:=Callee P w K mg base CX0 3 "_law_wishes" ["_law_script","_law_menu_here"] (Pu.spOf mg Hx K)
abbrev SQ:Prop:=Callee P w K mg base CX0 4 "check_no_ring" ["strips","wishes"] (Pu.spOf mg Dc K)
abbrev Ko:Prop:=Callee P w K mg base (ExcR.CXe P w) 5 "least_by_stands" ["strips","wishes"] (Pu.spOf mg De K)
abbrev BS:Prop:=Callee P w K mg base CX0 6 "_law_too_many" ["_law_which","_law_strips_here","_law_wishes_here"] (Pu.spOf mg Hq K)
abbrev Hd:Prop:=Callee P w K mg base CX0 7 "law" ["_law_script"] (Pu.spOf mg Nj K)
end M
namespace M
open PySem PySem.Spec PyProof.Rows L2 Own Pu
def Xv{os:List Int}(hn:os.Nodup){j:Nat}(hj:j<os.length):os.idxOf os[j]=j:=hn.idxOf_getElem j hj
def Fv{os:List Int}{j:Nat}{z:Int}(hj:j<os.length):z∈os.take (j+1)↔z∈os.take j\/z=os[j]:=by
 rw[Yg hj,ZY,ZE]
def A6{os:List Int}(hn:os.Nodup){x:Int}{j:Nat}(hx:x∈os):x∈os.take j↔os.idxOf x<j:=by
 obtain⟨k,hk,rfl⟩:=Yi.mp hx;rw[Xv hn hk];constructor
 ·intro h;obtain⟨m,hm,e⟩:=Yi.mp h;rw[Yf]at hm;rw[Y7]at e;have a1:=Xv hn (j:=m) (by omega);rw[e,Xv hn hk]at a1;omega
 ·intro h;exact Yi.mpr ⟨k,by rw[Yf];omega,by rw[Y7]⟩
def D8{os:List Int}(hn:os.Nodup)(q:Int×Int):J9 os q=(decide (q.1∈os)&&decide (q.2∈os)&&decide (os.idxOf q.2<os.idxOf q.1)):=by
 unfold J9;by_cases h1:q.1∈os
 ·by_cases h2:q.2∈os
  ·simp only[h1,h2,decide_true,WG,A6 hn h2]
  ·have:¬q.2∈os.take (os.idxOf q.1):=fun z=>h2 (Qv z)
   simp[h1,h2,this]
 ·simp[h1]
structure LWs (ws:List (Int×Int)) (l:Int) (ps:List (List Int)) (ls:List Int) (lg:List (List Int)) (kvs:List (Key×V)):Prop where
 g:LW ws l ps ls lg
 nd:(lg.map (Vr l)).Nodup
 rc:∀h:Int,(valV kvs (.inl h)).isSome=true↔h∈lg.map (Vr l)
 len:kvs.length<=lg.length
section
variable {ws:List (Int×Int)}{l:Int}{ps:List (List Int)}{ls:List Int}{lg:List (List Int)}{kvs:List (Key×V)}
def LWs.len_le (L:LWs ws l ps ls lg kvs):lg.length<=ls.length:=by
 have:=PD L.nd (ys:=ls) fun h hh=>by
  obtain⟨q,hq,e⟩:=Yd.mp hh;obtain⟨p,_,x,hx,rfl,_⟩:=L.g q hq;rw[Ub]at e;rw[←e];exact hx
 rwa[ZA]at this
def LWs.put {p:List Int}{h:Int} (hp:p∈ps) (hh:h∈ls) (G:LWs ws l ps ls lg kvs) (new:(valV kvs (.inl h)).isSome=false) (hw:(Vr l p,h)∈ws):LWs ws l ps ls (lg++[p++[h]]) (putK kvs (.inl h) (.bl true)):=by
 have lh:Vr l (p++[h])=h:=by rw[Ub];rfl
 have nh:h∉lg.map (Vr l):=fun z=>by rw[(G.rc h).mpr z]at new;cases new
 refine⟨fun q hq=>?_,?_,fun x=>?_,?_⟩
 ·rcases ZY.mp hq with hq|hq
  ·exact G.g q hq
  ·exact⟨p,hp,h,hh,ZE.mp hq,hw⟩
 ·rw[Yq,Wd,lh];refine Y0.mpr ⟨G.nd,by simp,fun a ha b hb=>?_⟩;rw[ZE.mp hb];rintro rfl;exact nh ha
 ·rw[Yq,Wd,lh,NX,ZY,ZE];by_cases e:x=h
  ·subst e;rw[ZK rfl];exact⟨fun _=>.inr rfl,fun _=>rfl⟩
  ·rw[ZI (fun z=>e (Sum.inl.inj z)),G.rc];exact⟨.inl,fun z=>z.elim id fun w=>absurd w e⟩
 ·rw[ZS]
  have:=X1 kvs (.inl h) (.bl true)
  have:=G.len
  simp;omega
end
def BJ(c:Int->Bool):∀ws:List Int,ws.filterMap (fun q=>if c q=true then some (D.int q)else none)=(ws.filter c).map D.int:=Jt c D.int
def GT{hs:List Int}{ws:List (Int×Int)}{l:Int}(hu:∀q∈ws,q.1≠q.2)(hN:¬ ∃r,Ring hs ws r)(hl:l∈hs):∀(n:Nat) (t:List Int),t.length<=n->¬U2 hs ws l t:=by
 intro n
 induction n with
 |zero=>exact fun t ht hc=>hN ⟨_,NV hu hl hc fun u _=>by omega⟩
 |succ n ih=>exact fun t ht hc=>hN ⟨_,NV hu hl hc fun u hu'=>Ys fun z=>ih u (by omega) hu'⟩
end M
namespace T
open PySem PySem.Spec PyProof.Rows L2 Own M
section
variable {P:Program}{w:World}{K:Za}{mg:Str->Option Value}{base:Heap}
def EA(G:Glob K mg)(D:Def K mg "holders_of" KB ["strips"])
  : Callee P w K mg base CX0 1 "holders_of" ["strips"] (F6 K):=by
 refine D.ok (k:=0) EW (fun vs H Q E h=>?_) (fun f cdv A outer s H vs Q E hr h=>?_)
 ·obtain⟨l,ps,rfl,⟨vs,hl,hv⟩,hF,hz,q⟩:=h;rfl
 ·obtain⟨l,ps,rfl,⟨vs,hl,hv⟩,hF,hz,q⟩:=h;refine⟨_,(Ve (Vk (VT (SE rfl) (by rfl) G.sorted boot_sorted (Vw (UF (Ap rfl) (by rfl) G.set boot_set (Vw (Jw (N':=["holder","width"]) (φ:=[none,none]) rfl (Own.CompOk.of (by rfl)) (BG (pv 0)) (fun _ _ _ _ _=>⟨(JS (K:=K) (n:=2) rfl (VU (Kl (i:=0) (show(["holder","width"]:List Str).Nodup from by decide +kernel) rfl (by first|exact Or.inl rfl|exact Or.inr rfl)) (VU (Kl (i:=1) (show(["holder","width"]:List Str).Nodup from by decide +kernel) rfl (by first|exact Or.inl rfl|exact Or.inr rfl)) Ua))),Up,(pv 0)⟩)) VB)) VB)))),?_⟩
  have e1:=hv.1;refine⟨_,rfl,l,rfl,⟨_,SqL.of hl⟩,fun D nD=>DA (ds:=ps) (fun d=>some (V.int d.1)) (SqL.of hl) e1 nD (ZU hz (by decide)) (fun i x d H2 hx hd S k hk=>?_) ?_⟩
  ·obtain⟨d',hd',a,rfl,ha⟩:=hv.get hx;rw[hd]at hd';cases hd'
   exact⟨a,_,rfl,SqT.of (S _ _ ha),rfl,_,_,rfl,_,_,rfl,rfl,.skip (.skip .refl),_,rfl,hk⟩
  ·have em:ps.filterMap (fun d=>some (V.int d.1))=(ps.map (·.1)).map V.int:=by
    rw[W6,Yx];rfl
   rw[em];have S1:Same H (upd H D (.lst ((ps.map (·.1)).map V.int))):=VA nD;refine⟨D,ps.map (·.1),rfl,SqL.of V0,by rw[ZA];omega,fun s1 n1=>?_⟩;have S2:=Own.Same.new (o:=SetH w s1 ((ps.map (·.1)).foldl SetR.addJ [])) S1 n1;refine⟨s1,_,rfl,?_,.inr V0,fun r ns n2 hp hs=>?_⟩
   ·have:=Sg (ps.map (·.1)) []
    rw[ZA]at this;simp at this ⊢;omega
   ·rw[G2 hF hp hs];exact q r _ (S2.free n2) (Own.Same.new S2 n2) V0
end
open Pu
section
variable {P:Program}{w:World}{K:Za}{mg:Str->Option Value}{base:Heap}
def FF(G:Glob K mg)(DD:Def K mg "begins_run" PQ ["strips","index"])
  : Sn P w K mg base:=by
 refine DD.oz (k:=0) Dv (fun _ _ _ _ _ _ E hr=>⟨_,(Ve (Vk (GD (UN (X0 (K:=K) (show _<cLine from hr.units0)) (pv 1) Va (VF _)) (Xb (UN (B0 (K:=K) (show _<cLine from hr.units0)) (jx K (jx K (pv 0) (Vf JB (pv 1) Va)) Va) (jx K (jx K (pv 0) (pv 1)) Va) (VF _)))))), (Vs (FU (Ug (QY 1) QZ) (UR (Vh (Vh (QY 0) (JC (QY 1) QZ)) QZ) (Vh (Vh (QY 0) (QY 1)) QZ))))⟩) (.a fun ds R X h=>?_)
 ·obtain⟨ps,k,rfl,hk,hR⟩:=h;refine⟨rfl,?_⟩;have ap:∀(j:Nat) (z:Int),j<ps.length->z=(j:Int)->∃h:j<ps.length,atI (ps.map prD) z=some (prD ps[j]):=fun j z hj e=>⟨hj,by rw[e];exact XG hj⟩;unfold begM at hR;by_cases c:k=0
  ·subst c;exact hR
  ·show if decide (((k:Nat):Int)=0)=true then _ else _;have c':¬((k:Nat):Int)=0:=by omega
   rw[ZR c'];obtain⟨h1,a1⟩:=ap (k-1) ((k:Int)-1) (by omega) (by omega);obtain⟨h2,a2⟩:=ap k (k:Int) hk rfl;refine iteF ⟨_,a1,_,rfl,_,a2,_,rfl,?_⟩;rw[ZR c,Bool.false_or,VI h1,VI h2]at hR;exact hR
def CD(G:Glob K mg)(DD:Def K mg "own_numbers" PH ["strips"])
  : Nf P w K mg base:=by
 refine DD.oz (k:=0) CP (fun _ _ _ _ _ _ E hr=>⟨_,(Ve (Vk (Jw (N':=["index"]) (φ:=[none]) rfl (Own.CompOk.of (by rfl)) (J7 rfl G.range (az (ln K G.len (pv 0)))) (fun _ _ _ _ _=>⟨(gz 0 (show(["index"]:List Str).Nodup from by decide +kernel)),Up,(Vf V5 (pv 0) Va)⟩)))), (Vs (VL (SndI.c (J2 (sz (VH (sz (QY 0)))))) (Vb 0) U1 (V4 (QY 0) QZ)))⟩) (.a fun ds R X h=>?_)
 ·obtain⟨ps,rfl,hz,hR⟩:=h;refine⟨rfl,?_⟩;have hl:(ps.map prD).length=ps.length:=ZA ..;refine⟨⟨by omega,by omega⟩,Xz (fun i=>some (.int (0+(i:Int)+1))) (by omega) (fun i _=>⟨_,rfl,rfl⟩) ?_⟩
  have e:(List.range ((ps.map prD).length:Int).toNat).filterMap (fun(i:Nat)=>some (D.int (0+(i:Int)+1)))=(runI 1 ps.length).map D.int:=by
   unfold runI;rw[W6,Yx,hl,Ym];refine Qz fun i _=>?_;show D.int (0+(i:Int)+1)=D.int (1+(i:Int));congr 1;omega
  rw[e];exact hR
def AG(G:Glob K mg)(DD:Def K mg "broken_wishes" Pi ["order","wishes"])
  : SA P w K mg base:=by
 refine DD.oz (k:=0) Xl (fun _ _ _ _ _ _ E hr=>⟨_,(Vc (Pu.pz 2 Xl.nd Bt) (Vc (VP Yj rfl (Ib rfl G.enumerate (az (pv 0))) (JS (K:=K) (n:=2) rfl (VU (gz 3 Xl.nd) (VU (gz 4 Xl.nd) Ua))) (Ve (KW (Vx hr) (pv 2) (pv 4) (pv 3) rfl))) (Vc (JW (N':=["ahead","behind","index_of"]) (φ:=[none,none,some 2]) (i:=5) Xl.nd rfl rfl rfl (Own.CompOk.of (by rfl)) (VE (K:=K) (pv 1)) (fun _ _ _ _ _=>⟨(JS (K:=K) (n:=2) rfl (VU (gz 0 (show(["ahead","behind","index_of"]:List Str).Nodup from by decide +kernel)) (VU (gz 1 (show(["ahead","behind","index_of"]:List Str).Nodup from by decide +kernel)) Ua))),(Jn (PW.pt (JL (XN (TR (Vx hr) (pv 0) (pv 2))) (JX (XN (TR (Vx hr) (pv 1) (pv 2))))))),(Jy (bz (pv 0) (pv 1)))⟩)) (Ve (Vk (Jw (N':=["ahead","behind","index_of"]) (φ:=[none,none,some 2]) rfl (Own.CompOk.of (by rfl)) (VE (K:=K) (pv 5)) (fun _ _ _ _ _=>⟨(JS (K:=K) (n:=2) rfl (VU (gz 0 (show(["ahead","behind","index_of"]:List Str).Nodup from by decide +kernel)) (VU (gz 1 (show(["ahead","behind","index_of"]:List Str).Nodup from by decide +kernel)) Ua))),(Jn (Vv Us (UV (Vx hr) (pv 2) (pv 1) (fun _ _=>rfl)) (UV (Vx hr) (pv 2) (pv 0) (fun _ _=>rfl)) (VF _))),(Jy (bz (pv 0) (pv 1)))⟩))))))), (Vd (Vg Sh (Vb 2)) (Vd (Vy 0 (VO [3,4] (FA (sz (QY 0))) (Uh (Jc (Vb 3) (Jc (Vb 4) Ui))) (P6 2 (QY 4) (QY 3)))) (Vd (Vg (VL (Jz (QY 1)) (Uh (Jc (Vb 0) (Jc (Vb 1) Ui))) (JH (st_b (Bj (QY 0) (QY 2))) (st_b (Bj (QY 1) (QY 2)))) (Jx (tz (QY 0) (QY 1)))) (Vb 5)) (Vs (VL (Jz (QY 5)) (Uh (Jc (Vb 0) (Jc (Vb 1) Ui))) (Vn (U9 (XX (QY 2) (QY 1)) (XX (QY 2) (QY 0)))) (Jx (tz (QY 0) (QY 1))))))))⟩) (.a fun ds R X h=>?_)
 ·obtain⟨os,ws,rfl,hnd,hz,hw,hR⟩:=h;refine⟨rfl,?_⟩;refine⟨rfl,Ux _,Es (xs:=os) (emb:=D.int) (fun i γ'=>∃kvs:List (Key×V),γ'=[some (.bor (.lst (os.map D.int))),some (.bor (.lst (ws.map prD))),some (.own (.dK kvs)),none,none,none]/\kvs.length<=i/\∀h:Int,valV kvs (.inl h)=if h∈os.take i then some (.int (os.idxOf h))else none) ⟨[],rfl,by simp,fun h=>by simp[valV]⟩ ?_ ?_⟩
  ·rintro i hi γ' ⟨kvs,rfl,hl,hv⟩;refine⟨rfl,.inl os[i],.int i,rfl,rfl,by omega,_,rfl,ZU (X1 _ _ _) (by omega),fun h=>?_⟩;rw[NX,hv];by_cases e:h=os[i]
   ·subst e;rw[ZK rfl,ZK ((Fv hi).mpr (.inr rfl)),Xv hnd hi]
   ·rw[ZI (fun z=>e (Sum.inl.inj z))];simp only[Fv hi,e,or_false]
  ·rintro γ' ⟨kvs,rfl,hl,hv⟩;rw[YI]at hv;refine Jd (xs:=ws) (emb:=prD) (fun q=>if (decide (q.1∈os)&&decide (q.2∈os))=true then some (prD q)else none) (by omega) (fun q hq=>⟨rfl,⟨_,rfl,?_⟩⟩) ?_
   ·have k1:(valV kvs (.inl q.1)).isSome=decide (q.1∈os):=by
     rw[hv];by_cases e:q.1∈os<;>simp[e]
    have k2:(valV kvs (.inl q.2)).isSome=decide (q.2∈os):=by
     rw[hv];by_cases e:q.2∈os<;>simp[e]
    refine ite2 (fun h1=>⟨_,rfl,ite2 (fun h2=>⟨by simp,_,rfl,ZK ?_⟩) (fun h2=>ZI fun z=>h2 ?_)⟩) (fun h1=>iteF (ZI fun z=>h1 ?_))
    ·rw[←k1,←k2,Yn];exact⟨h1,h2⟩
    ·rw[←k1,←k2,Yn]at z;exact z.2
    ·rw[←k1,←k2,Yn]at z;exact z.1
   rw[Jt (fun q=>decide (q.1∈os)&&decide (q.2∈os)) prD];have hfl:=Yz (fun q:Int×Int=>decide (q.1∈os)&&decide (q.2∈os)) ws;refine Jd (xs:=ws.filter fun q=>decide (q.1∈os)&&decide (q.2∈os)) (emb:=prD) (fun q=>if decide (os.idxOf q.2<os.idxOf q.1)=true then some (prD q)else none) (by omega) (fun q hq=>?_) ?_
   ·have hq2:=(ZV.mp hq).2;rw[Yn,W7,W7]at hq2;refine⟨rfl,.inl q.2,.int (os.idxOf q.2),rfl,by rw[hv,ZK hq2.2],rfl,.inl q.1,.int (os.idxOf q.1),rfl,by rw[hv,ZK hq2.1],rfl,?_⟩;refine ite2 (fun h1=>⟨by simp,_,rfl,ZK ?_⟩) (fun h1=>ZI fun z=>h1 ?_)
    ·have h1':((os.idxOf q.2:Nat):Int)<((os.idxOf q.1:Nat):Int):=ZX h1;exact ZJ (by omega)
    ·have z':=ZX z;exact ZJ (show((os.idxOf q.2:Nat):Int)<((os.idxOf q.1:Nat):Int) by omega)
   rw[Jt (fun q=>decide (os.idxOf q.2<os.idxOf q.1)) prD,List.filter_filter]
   have e:(fun q:Int×Int=>decide (os.idxOf q.2<os.idxOf q.1)&&(decide (q.1∈os)&&decide (q.2∈os)))=J9 os:=by
    funext q;rw[D8 hnd,Bool.and_comm]
   rw[e];exact hR
def Aa(G:Glob K mg)(DD:Def K mg "longer_paths" PM ["paths","left","wishes"])
  : SG P w K mg base:=by
 refine DD.oz (k:=0) UO (fun _ _ _ _ _ _ E hr=>⟨_,(Vc (Pu.pz 3 UO.nd (Vz VB)) (Vc (Pu.pz 4 UO.nd Bt) (Vc (VP Yj rfl (VE (K:=K) (pv 0)) (gz 5 UO.nd) (Ve (VP Yj rfl (VE (K:=K) (pv 1)) (gz 6 UO.nd) (Ve (V2 (PW.pt (JL (XN (N1 (Vx hr) (pv 6) (pv 4))) (JX (Vv (JU (K:=K) (show _<cLine from Vx hr)) (Jy (bz (jx K (pv 5) (KL PK Va)) (pv 6))) (pv 2) (by with_unfolding_all rfl))))) (Vc (KW (Vx hr) (pv 4) (pv 6) Jk rfl) (Ve (Ji (JY Yt Y9 YA JV (pv 3) (az (Vf Ak (pv 5) (Vz (az (pv 6)))))))))
   V9))))) (Ve (Vk (pv 3)))))), (Vd (Vg (V1 VS) (Vb 3)) (Vd (Vg Sh (Vb 4)) (Vd (Vy 1 (Vy 0 (VO [5,6] (JE (QY 0)) (Vb 5) (Vy 1 (VO [6] (JE (QY 1)) (Vb 6) (V3 (JH (st_b (BA (QY 6) (QY 4))) (Vn (Jf (Jx (tz (Vh (QY 5) (KN QZ)) (QY 6))) (QY 2)))) (Vd (P6 4 (QY 6) Jg) (Vy 6 (Um 3 (Da (QY 5) (V1 (sz (QY 6))))))) V6)))))) (Ue 3))))⟩) (.a fun ds R X h=>?_)
 ·obtain⟨l,ps,ls,ws,rfl,hpl,hll,hR⟩:=h;refine⟨rfl,?_⟩
  refine⟨by simp,rfl,JF (xs:=ps) (emb:=em l) (fun i γ'=>∃lg kvs,γ'=[some (.bor (.lst (ps.map (em l)))),some (.bor (.lst (ls.map D.int))),some (.bor (.lst (ws.map prD))),some (.own (lg.map (em l))),some (.own (.dK kvs)),none,none]/\LWs ws l ps ls lg kvs)
   ⟨[],[],rfl,(fun q hq=>by cases hq),YZ,(fun h=>by simp[valV]),ZG _⟩ ?_ ?_⟩
  ·rintro i hi γ' ⟨lg,kvs,rfl,G⟩;have hp:=Yb hi;have hpi:=hpl ps[i] hp;generalize ps[i]=p at hp hpi ⊢;refine⟨rfl,JF (xs:=ls) (emb:=D.int) (fun j γ'=>∃lg kvs,γ'=[some (.bor (.lst (ps.map (em l)))),some (.bor (.lst (ls.map D.int))),some (.bor (.lst (ws.map prD))),some (.own (lg.map (em l))),some (.own (.dK kvs)),some (.bor (em l p)),none]/\LWs ws l ps ls lg kvs) ⟨lg,kvs,rfl,G⟩ ?_ ?_⟩
   ·rintro j hj γ' ⟨lg,kvs,rfl,G⟩;have hh:=Yb hj;generalize ls[j]=h at hh ⊢;have hlen:=G.len_le;have hkl:=G.len;refine⟨.inl h,rfl,ite2 (fun g=>?_) (fun g=>iteF ⟨lg,kvs,rfl,G⟩)⟩
    have g':(valV kvs (.inl h)).isSome=false:=by
     cases e:(valV kvs (.inl h)).isSome with
     |false=>rfl
     |true=>rw[e]at g;cases g
    refine⟨_,PL l p,by simp,_,.lp (Vr l p,h) ws,ite2 (fun g2=>?_) (fun g2=>⟨lg,kvs,rfl,G⟩)⟩;refine⟨.inl h,.bl true,rfl,rfl,by omega,by simp,Ux _,rfl,by simp;omega,by rw[ZA];omega,lg++[p++[h]],_,?_,G.put hp hh g' (ZX g2)⟩;rw[Yq]
    have e:em l (p++[h])=.lst ((l::p).map D.int++[.int h]):=by
     unfold em;rw[←QA,Yq];rfl
    rw[Wd,e];rfl
   ·rintro γ' ⟨lg,kvs,rfl,G⟩;exact⟨lg,kvs,rfl,G⟩
  ·rintro γ' ⟨lg,kvs,rfl,G⟩;exact hR lg G.g G.len_le
def GL(G:Glob K mg)(DD:Def K mg "check_small" Ti ["strips"])
  : K4 P w K mg base:=by
 refine DD.ox (k:=0) Dl (fun _ _ _ _ _ _ E hr=>⟨_,(Ve (V2 (Vv U0 (ln K G.len (pv 0)) (ExcR.F4 G.SMALL) (VF _)) (Ve (ExcR.D1 G.g_TooManyStands.c G.m_TooManyStands ExcR.FH rfl (az (ExcR.pe_f (ExcR.SY (ExcR.CV (ExcR.F4 G.SMALL) (ExcR.SY ExcR.Ah)))))))
   V9)), (V3 (Vn (U8 (VH (sz (QY 0))) QZ)) (Ge (sz (se_f (N7 (Ew QZ (N7 Hh)))))) V6)⟩) (.a fun ds R X h=>?_)
 ·obtain⟨ps,rfl,hR⟩:=h;refine⟨rfl,?_⟩;have hl:(ps.map prD).length=ps.length:=ZA ..;unfold J8 at hR;refine ite2 (fun g=>?_) (fun g=>?_)
  ·have g':(7:Int)<((ps.map prD).length:Int):=ZX g;rw[ZK (by omega)]at hR;exact⟨by decide,by decide,by decide,by decide,by decide,by simp,hR⟩
  ·have g':¬(7:Int)<((ps.map prD).length:Int):=fun z=>g (ZJ z);rw[ZI (by omega)]at hR;exact hR
def Ej(G:Glob K mg)(DD:Def K mg "cost_to_come_next" P3 ["strips","stand","number"])
  : N3 P w K mg base:=by
 refine DD.oz (k:=0) N2 (fun _ _ _ _ _ _ E hr=>⟨_,(Vc (JW (N':=["other","strips","stand"]) (φ:=[none,some 0,some 1]) (i:=3) N2.nd rfl rfl rfl (Own.CompOk.of (by rfl)) (Fi rfl G.range (bz Va (pv 2))) (fun _ _ _ _ _=>⟨(gz 0 (show(["other","strips","stand"]:List Str).Nodup from by decide +kernel)),(Jn (Vv (UI (K:=K) (show _<cLine from Vx hr)) (pv 0) (pv 2) (by with_unfolding_all rfl))),(jx K (jx K (pv 1) (Vf JB (pv 0) Va)) Va)⟩)) (Ve (Vk (Vf Uc (jx K (jx K (pv 0) (Vf JB (pv 2) Va)) Va) (VT (AJ (K:=K) rfl) (by rfl) G.sum boot_sum (az (pv 3))))))), (Vd (Vg (VL (SndI.c (Fw (tz QZ (QY 2)))) (Vb 0) (Vn (Jf (QY 0) (QY 2))) (Vh (Vh (QY 1) (JC (QY 0) QZ)) QZ)) (Vb 3)) (Vs (Uj (Vh (Vh (QY 0) (JC (QY 2) QZ)) QZ) (Cg (sz (QY 3))))))⟩) (.a fun ds R X h=>?_)
 ·obtain⟨ps,r,x,rfl,hF,hz,h1,h2,hR⟩:=h;refine⟨rfl,?_⟩;unfold Jo;rw[ZZ,ZZ,Kj];have hl:(ps.map prD).length=ps.length:=ZA ..;have hw:∀y:Int,1<=y->y<=ps.length->1<=wdM ps y/\wdM ps y<=1000:=fun y a b=>(hF _ (Pk a b)).2.2;refine⟨⟨by omega,by omega⟩,Xz (fun i=>if (!decide ((1+(i:Int))∈r))=true then some (.int (wdM ps (1+(i:Int))))else none) (by show(x-1).toNat<=100000;omega) (fun i hi=>?_) ?_⟩
  ·have hi':i<(x-1).toNat:=hi;refine⟨_,.ti _ _,ite2 (fun g=>⟨_,Uv (by omega) (by omega),_,rfl,_,rfl,ZK g⟩) (fun g=>ZI g)⟩
  ·have e:(List.range (x-1).toNat).filterMap (fun(i:Nat)=>if (!decide ((1+(i:Int))∈r))=true then some (D.int (wdM ps (1+(i:Int))))else none)=(((runI 1 (x-1).toNat).filter fun y=>!decide (y∈r)).map (wdM ps)).map D.int:=by
    unfold runI;rw[List.filter_map,Yx,Yx,←List.filterMap_eq_map,List.filterMap_filter];rfl
   have:=hw x h1 h2
   refine⟨_,Uv (by omega) (by omega),_,rfl,_,Y1 D.lst e,.inl ⟨by show -(2 ^ 64)<wdM ps x;omega,by show wdM ps x<2 ^ 64;omega⟩,hR⟩
def Hs(G:Glob K mg)(DD:Def K mg "holders_from_left" KP ["field"])
  : Tp P w K mg base:=by
 refine DD.oz (k:=0) XH (fun _ _ _ _ _ _ E hr=>⟨_,(Vc (Pu.pz 1 XH.nd (Vz VB)) (Vc (VP Yj rfl (VE (K:=K) (pv 0)) (JS (K:=K) (n:=2) rfl (VU (gz 2 XH.nd) (VU (gz 3 XH.nd) Ua))) (Ve (V2 (Vv (UI (K:=K) (show _<cLine from Vx hr)) (pv 2) (pv 1) (by with_unfolding_all rfl)) (Ve (Ji (JY Yt Y9 YA JV (pv 1) (az (pv 2)))))
   V9))) (Ve (Vk (pv 1))))), (Vd (Vg (V1 VS) (Vb 1)) (Vd (Vy 0 (VO [2,3] (JE (QY 0)) (Uh (Jc (Vb 2) (Jc (Vb 3) Ui))) (V3 (Vn (Jf (QY 2) (QY 1))) (Vy 2 (Um 1 (QY 2))) V6))) (Ue 1)))⟩) (.a fun ds R X h=>?_)
 ·obtain⟨ps,rfl,hz,hR⟩:=h;refine⟨rfl,?_⟩;refine⟨by simp,rfl,JF (xs:=ps) (emb:=prD) (fun i γ'=>γ'=[some (.bor (plD ps)),some (.own ((Vo ((ps.take i).map (·.1))).map D.int)),none,none]) rfl ?_ ?_⟩
  ·rintro i hi γ' rfl;have et:(ps.take (i+1)).map (·.1)=(ps.take i).map (·.1)++[ps[i].1]:=by rw[Yg hi,Yq];rfl
   have hl:=PN ((ps.take i).map (·.1));rw[ZA,Yf]at hl;rw[et,Xk];generalize Vo ((ps.take i).map (·.1))=L at hl ⊢;generalize ps[i]=q;refine⟨rfl,_,.li _ _,ite2 (fun g=>?_) (fun g=>?_)⟩
   ·have g':¬q.1∈L:=fun z=>by rw[ZK rfl,ZJ z]at g;cases g
    rw[ZI g',Yq];exact⟨by rw[ZA];omega,rfl⟩
   ·have g':q.1∈L:=Ys fun z=>g (by rw[ZK rfl,ZR z];rfl);rw[ZK g'];exact rfl
  ·rintro γ' rfl;rw[YI];exact hR
def F9(G:Glob K mg)(DD:Def K mg "field_of_stand" Ki ["strips","stand"])
  : F7 P w K mg base:=by
 refine DD.oz (k:=0) Dy (fun _ _ _ _ _ _ E hr=>⟨_,(Ve (Vk (Jw (N':=["number","strips"]) (φ:=[none,some 0]) rfl (Own.CompOk.of (by rfl)) (TB (K:=K) (pv 1)) (fun _ _ _ _ _=>⟨(gz 0 (show(["number","strips"]:List Str).Nodup from by decide +kernel)),Up,(jx K (pv 1) (Vf JB (pv 0) Va))⟩)))), (Vs (VL (SndI.c (NJ (QY 1))) (Vb 0) U1 (Vh (QY 1) (JC (QY 0) QZ))))⟩) (.a fun ds R X h=>?_)
 ·obtain⟨ps,r,rfl,hz,hin,hR⟩:=h;refine⟨rfl,?_⟩;unfold Jo;rw[ZZ,ZZ,Kj];refine⟨_,rfl,Jd (s:=.sh .non) (xs:=r) (emb:=D.int) (fun z=>some (prD (atP1 ps z))) (by omega) (fun z hz'=>?_) ?_⟩
  ·have:=hin z hz'
   exact⟨_,Uv this.1 this.2,_,rfl,rfl⟩
  rw[mapD (fun z:Int=>prD (atP1 ps z))];rw[Yx]at hR;exact hR
def Gm(G:Glob K mg)(DD:Def K mg "_law_at" Pd ["_law_script","_law_k"])
  : Km P w K mg base:=by
 refine DD.oz (k:=0) Ee (fun _ _ _ _ _ _ E hr=>⟨_,(Vc (V2 (Vv Us (pv 1) (ln K G.len (pv 0)) (VF _)) (Ve (Vk (jx K (pv 0) (pv 1))))
   V9) (Ve (Vk Va))), (Vd (V3 (Vn (U9 (QY 1) (VH (sz (QY 0))))) (Vs (Vh (QY 0) (QY 1))) V6) (Vs QZ))⟩) (.a fun ds R X h=>?_)
 ·obtain⟨ns,k,rfl,hk,hR⟩:=h;refine⟨rfl,?_⟩;refine ite2 (fun g=>?_) (fun _=>hR 0);have g':k<(ns.length:Int):=ZX g;exact⟨_,Bl hk (ZC (show k.toNat<ns.length by omega)),hR _⟩
def Dg(G:Glob K mg)(DD:Def K mg "_law_whole" KF ["_law_found"])
  : Ky P w K mg base:=by
 refine DD.oz (k:=0) Am (fun _ _ _ _ _ _ E hr=>⟨_,(Ve (Vk (X3 (VT (Kh (K:=K)) (by rfl) G.isinstance YR (bz (pv 0) (UK (v:=.ty "int") rfl G.int boot_int rfl))) (Xb (EU (VT (Kh (K:=K)) (by rfl) G.isinstance YR (bz (pv 0) (UK (v:=.ty "bool") rfl G.bool boot_bool rfl)))))))), (Vs (XQ (Kg (tz (QY 0) Xp)) (Cn (Kg (tz (QY 0) Xp)))))⟩) (.a fun ds R X h=>?_)
 ·obtain⟨i,rfl,hR⟩:=h;refine⟨rfl,?_⟩;exact⟨_,.same _,_,.ib,hR⟩
def CW(G:Glob K mg)(DD:Def K mg "_law_mix" Kn ["_law_cell","_law_place"])
  : Sv P w K mg base:=by
 refine DD.oz (k:=0) Sa (fun _ _ _ _ _ _ E hr=>⟨_,(Vc (Pu.pz 2 Sa.nd (Vf VD (Vf Uc (Vf V5 (Vf V5 (Vf VD (pv 0) Va) (Vf Uc Va (pv 1))) Va) Va) Va)) (Ve (Vk (Vf VD (Vf Uc (Vf V5 (Vf V5 (pv 2) (Vf Uc Va (pv 1))) Va) Va) Va)))), (Vd (Vg (VC (Uj (V4 (V4 (VC (QY 0) QZ) (Uj QZ (QY 1))) QZ) QZ) QZ) (Vb 2)) (Vs (VC (Uj (V4 (V4 (QY 2) (Uj QZ (QY 1))) QZ) QZ) QZ)))⟩) (.a fun ds R X h=>?_)
 ·obtain⟨c,p,rfl,hR⟩:=h;refine⟨rfl,?_⟩;exact⟨(by show(0:Int)<2147483647;decide),.inl ⟨by decide,by decide⟩,.inr ⟨by decide,by decide⟩,(by show(0:Int)<2147483647;decide),.inl ⟨by decide,by decide⟩,.inr ⟨by decide,by decide⟩,(by show(0:Int)<2147483647;decide),hR _⟩
def A7(G:Glob K mg)(DD:Def K mg "_law_menu" Kr ["_law_cell"])
  : Nl P w K mg base:=by
 refine DD.oz (k:=0) P9 (fun _ _ _ _ _ _ E hr=>⟨_,(Vc (Pu.pz 1 P9.nd (jx K (Vz (Vw Va (Vw Va (Vw Va (Vw Va (Vw Va VB)))))) (Vf VD (Vf Ju (pv 0) Va) Va))) (Vc (Pu.pz 2 P9.nd (jx K (Vz (Vw Va (Vw Va (Vw Va (Vw Va (Vw Va VB)))))) (Vf VD (Vf Ju (pv 0) Va) Va))) (Ve (Vk (Vz (Vw (Vf V5 Va (Vf VD (pv 0) Va)) (Vw (jx K (Vz (Vw Va (Vw Va (Vw Va (Vw Va VB))))) (Vf VD (Vf Ju (pv 0) Va) Va)) (Vw (Vf VD (Vf Ju (pv 0) Va) Va) (Vw (pv 1) (Vw (pv 2) VB)))))))))), (Vd (Vg (Vh (V1 (V8 QZ (V8 QZ (V8 QZ (V8 QZ (V8 QZ VS)))))) (VC (Jv (QY 0) QZ) QZ)) (Vb 1)) (Vd (Vg (Vh (V1 (V8 QZ (V8 QZ (V8 QZ (V8 QZ (V8 QZ VS)))))) (VC (Jv (QY 0) QZ) QZ)) (Vb 2)) (Vy 2 (Vy 1 (Vs (V1 (V8 (V4 QZ (VC (QY 0) QZ)) (V8 (Vh (V1 (V8 QZ (V8 QZ (V8 QZ (V8 QZ VS))))) (VC (Jv (QY 0) QZ) QZ)) (V8 (VC (Jv (QY 0) QZ) QZ) (V8 (QY 1) (V8 (QY 2) VS)))))))))))⟩) (.a fun ds R X h=>?_)
 ·obtain⟨c,rfl,hR⟩:=h;refine⟨rfl,?_⟩;have h1:0<=c / 10 % 4/\c / 10 % 4<4:=by omega
  have h2:0<=c / 400 % 5/\c / 400 % 5<5:=by omega
  have hb:∀v∈([1,3,7,9]:List Int),1<=v/\v<=9/\(v=1\/v=3\/v=7\/v=9):=by decide
  have hde:∀i:Int,0<=i->i<5->∃d e:Int,atI [D.int 1000,.int 3,.int 1,.int 2,.int 3] i=some (.int d)/\atI [D.int 1,.int 1,.int 1,.int 1,.int 998] i=some (.int e)/\(1<=d/\d<=1000)/\1<=e/\e+d<=1001:=fun i a b=>by
   have:i=0\/i=1\/i=2\/i=3\/i=4:=by omega
   rcases this with rfl|rfl|rfl|rfl|rfl
   ·exact⟨1000,1,rfl,rfl,by decide,by decide,by decide⟩
   ·exact⟨3,1,rfl,rfl,by decide,by decide,by decide⟩
   ·exact⟨1,1,rfl,rfl,by decide,by decide,by decide⟩
   ·exact⟨2,1,rfl,rfl,by decide,by decide,by decide⟩
   ·exact⟨3,998,rfl,rfl,by decide,by decide,by decide⟩
  obtain⟨d,e,e1,e2,hd,he⟩:=hde _ h2.1 h2.2;have hbb:=hb _ (Yb (l:=([1,3,7,9]:List Int)) (n:=(c / 10 % 4).toNat) (by show(c / 10 % 4).toNat<4;omega));refine⟨by simp,⟨by decide,by decide⟩,(by show(0:Int)<5;decide),_,e1,by simp,⟨by decide,by decide⟩,(by show(0:Int)<5;decide),_,e2,(by show(0:Int)<10;decide),by simp,⟨by decide,by decide⟩,(by show(0:Int)<4;decide),_,BF (f:=D.int) (xs:=[1,3,7,9]) h1.1 h1.2,⟨by decide,by decide⟩,(by show(0:Int)<10;decide),by simp,?_⟩;exact hR [_,_,_,_,_] ⟨_,_,_,_,_,rfl,by omega,hbb,by omega,hd,he⟩
def AZ(G:Glob K mg)(DD:Def K mg "_law_holder" Py ["_law_menu_here","_law_k"])
  : P5 P w K mg base:=by
 refine DD.oz (k:=0) Ax (fun _ _ _ _ _ _ E hr=>⟨_,(Ve (Vk (Vf V5 Va (Vf VD (Vf V5 (Vf Uc (pv 1) (jx K (pv 0) Va)) (jx K (pv 0) Va)) Va)))), (Vs (V4 QZ (VC (V4 (Uj (QY 1) (Vh (QY 0) QZ)) (Vh (QY 0) QZ)) QZ)))⟩) (.a fun ds R X h=>?_)
 ·obtain⟨m,k,rfl,hM,hR⟩:=h;refine⟨rfl,?_⟩;obtain⟨a,b,c,d,e,rfl,ha,hb,hc,hd,he⟩:=hM;exact⟨_,rfl,.inr ⟨by omega,by omega⟩,_,rfl,(by show(0:Int)<10;decide),hR _ (by omega) (by omega) rfl⟩
def Gh(G:Glob K mg)(DD:Def K mg "_law_present" P8 ["_law_strips_here"])
  : N6 P w K mg base:=by
 refine DD.oz (k:=0) NH (fun _ _ _ _ _ _ E hr=>⟨_,(Vc (Pu.pz 1 NH.nd (Jw (N':=["_law_strip"]) (φ:=[none]) rfl (Own.CompOk.of (by rfl)) (VE (K:=K) (pv 0)) (fun _ _ _ _ _=>⟨(gz 0 (show(["_law_strip"]:List Str).Nodup from by decide +kernel)),Up,(jx K (pv 0) Va)⟩))) (Ve (Vk (Jw (N':=["_law_holder_here","_law_owners"]) (φ:=[none,some 1]) rfl (Own.CompOk.of (by rfl)) (Fi rfl G.range (bz Va Va)) (fun _ _ _ _ _=>⟨(gz 0 (show(["_law_holder_here","_law_owners"]:List Str).Nodup from by decide +kernel)),(Jn (Vv (JU (K:=K) (show _<cLine from Vx hr)) (pv 0) (pv 1) (by with_unfolding_all rfl))),(pv 0)⟩))))), (Vd (Vg (VL (Jz (QY 0)) (Vb 0) U1 (Vh (QY 0) QZ)) (Vb 1)) (Vs (VL (SndI.c (Fw (tz QZ QZ))) (Vb 0) (Vn (Jf (QY 0) (QY 1))) (QY 0))))⟩) (.a fun ds R X h=>?_)
 ·obtain⟨ps,rfl,hz,hR⟩:=h;refine⟨rfl,?_⟩;refine Jd (xs:=ps) (emb:=prD) (fun q=>some (.int q.1)) (by omega) (fun q hq=>⟨_,rfl,_,rfl,rfl⟩) ?_;rw[mapD (fun q:Int×Int=>D.int q.1),show ps.map (fun q:Int×Int=>D.int q.1)=(ps.map (·.1)).map D.int by rw[Yx];rfl];refine⟨⟨by decide,by decide,by decide,by decide⟩,Xz (n:=10) (fun i=>if decide ((1:Int)+(i:Int)∈ps.map (·.1))=true then some (.int (1+(i:Int)))else none) (by decide) (fun i hi=>?_) ?_⟩
  ·exact⟨_,.li _ _,ite2 (fun g=>⟨_,rfl,ZK g⟩) (fun g=>ZI g)⟩
  rw[Jt (fun i:Nat=>decide ((1:Int)+(i:Int)∈ps.map (·.1)))]
  have e:((List.range 10).filter fun i:Nat=>decide ((1:Int)+(i:Int)∈ps.map (·.1))).map (fun i:Nat=>D.int (1+(i:Int)))=(Vq ps).map D.int:=by
   unfold Vq;rw[CK,List.filter_map,Yx];rfl
  rw[e];exact hR
def Ht(G:Glob K mg)(DD:Def K mg "_law_together" K6 ["_law_strips_here"])
  : B6 P w K mg base:=by
 refine DD.oz (k:=0) KG (fun _ _ _ _ _ _ E hr=>⟨_,(Vc (VP Yj rfl (J7 rfl G.range (az (ln K G.len (pv 0)))) (gz 1 KG.nd) (Ve (VP Yj rfl (J7 rfl G.range (az (pv 1))) (gz 2 KG.nd) (Ve (V2 (PW.pt (JL (cq K hr (jx K (jx K (pv 0) (pv 2)) Va) (jx K (jx K (pv 0) (pv 1)) Va)) (JX (cn K hr (jx K (jx K (pv 0) (Vf JB (pv 1) Va)) Va) (jx K (jx K (pv 0) (pv 1)) Va))))) (Ve (Vk Jk))
   V9))))) (Ve (Vk Jk))), (Vd (VO [1,2] (J2 (sz (VH (sz (QY 0))))) (Vb 1) (VO [2] (J2 (sz (QY 1))) (Vb 2) (V3 (JH (Vn (Ug (Vh (Vh (QY 0) (QY 2)) QZ) (Vh (Vh (QY 0) (QY 1)) QZ))) (Vn (UR (Vh (Vh (QY 0) (JC (QY 1) QZ)) QZ) (Vh (Vh (QY 0) (QY 1)) QZ)))) (Vs Jg) V6))) (Vs Jg))⟩) (.a fun ds R X h=>?_)
 ·obtain⟨ps,rfl,hz,hT,hN⟩:=h;refine⟨rfl,?_⟩;have hl:(ps.map prD).length=ps.length:=ZA ..;have ap:∀(j:Nat) (z:Int),j<ps.length->z=(j:Int)->∃h:j<ps.length,atI (ps.map prD) z=some (prD ps[j]):=fun j z hj e=>⟨hj,by rw[e];exact XG hj⟩;refine⟨⟨by omega,by omega⟩,JO (fun k γ'=>(∀k' j,k'<k->j<k'->hAt ps j=hAt ps k'->hAt ps (k'-1)=hAt ps k')/\γ'=[some (.bor (plD ps)),none,none]) ⟨fun k' j h=>absurd h (Nat.not_lt_zero _),rfl⟩ ?_ ?_⟩
  ·rintro k γ' hk ⟨hok,rfl⟩;have hk1:k<(((ps.map prD).length:Nat):Int).toNat:=hk;have hk':k<ps.length:=by omega
   refine⟨⟨by omega,by omega⟩,JO (fun j γ'=>(∀j',j'<j->hAt ps j'=hAt ps k->hAt ps (k-1)=hAt ps k)/\γ'=[some (.bor (plD ps)),some (.sh (.int (0+(k:Int)))),none]) ⟨fun j' h=>absurd h (Nat.not_lt_zero _),rfl⟩ ?_ ?_⟩
   ·rintro j γ' hj ⟨hj0,rfl⟩;have hj1:j<(0+(k:Int)).toNat:=hj;obtain⟨q1,a1⟩:=ap j (0+(j:Int)) (by omega) (by omega);obtain⟨q2,a2⟩:=ap k (0+(k:Int)) hk' (by omega);obtain⟨q3,a3⟩:=ap (k-1) (0+(k:Int)-1) (by omega) (by omega);refine⟨_,a1,_,rfl,_,a2,_,rfl,ite2 (fun g=>⟨_,a3,_,rfl,_,a2,_,rfl,ite2 (fun g2=>?_) (fun g2=>?_)⟩) (fun g=>?_)⟩
    ·refine hN fun z=>?_;have g':ps[j].1=ps[k].1:=ZX g
     have:=z k j (by omega) hk' (by rw[VI q1,VI q2];exact g')
     rw[VI q3,VI q2]at this;rw[ZK rfl]at g2
     have:decide (ps[k-1].1=ps[k].1)=true:=ZJ this
     simp_all
    ·refine⟨fun j' hj' e=>?_,rfl⟩;rw[VI q3,VI q2];exact Ys fun z=>g2 (by rw[ZK rfl,ZR z];rfl)
    ·refine⟨fun j' hj' e=>?_,rfl⟩;rcases WU.mp hj' with c|c
     ·exact hj0 j' c e
     ·subst c;rw[VI q1,VI q2]at e;exact absurd (ZJ e) g
   ·rintro γ' ⟨hj0,rfl⟩;refine⟨fun k' j h1 h2 e=>?_,rfl⟩;rcases WU.mp h1 with c|c
    ·exact hok k' j c h2 e
    ·subst c;exact hj0 j (by omega) e
  ·rintro γ' ⟨hok,rfl⟩;exact hT fun k j h1 h2 e=>hok k j (by omega) h1 e
def ED(G:Glob K mg)(DD:Def K mg "_law_kept" KR ["_law_order","_law_wishes_here"])
  : SJ P w K mg base:=by
 refine DD.oz (k:=0) K8 (fun _ _ _ _ _ _ E hr=>⟨_,(Vc (VP Yj rfl (VE (K:=K) (pv 1)) (JS (K:=K) (n:=2) rfl (VU (gz 2 K8.nd) (VU (gz 3 K8.nd) Ua))) (Ve (V2 (PW.pt (JL (Vv (JU (K:=K) (show _<cLine from Vx hr)) (pv 2) (pv 0) (by with_unfolding_all rfl)) (JL (Vv (JU (K:=K) (show _<cLine from Vx hr)) (pv 3) (pv 0) (by with_unfolding_all rfl)) (JX (Vv U0 (BW (K:=K) Yt WX PySem.F.type_list_index (To (K:=K)) (pv 0) (az (pv 2))) (BW (K:=K) Yt WX PySem.F.type_list_index (To (K:=K)) (pv 0) (az (pv 3))) (VF _)))))) (Ve (Vk Jk))
   V9))) (Ve (Vk Jk))), (Vd (Vy 1 (VO [2,3] (JE (QY 1)) (Uh (Jc (Vb 2) (Jc (Vb 3) Ui))) (V3 (JH (Vn (Jf (QY 2) (QY 0))) (JH (Vn (Jf (QY 3) (QY 0))) (Vn (U8 (SO (QY 0) (sz (QY 2))) (SO (QY 0) (sz (QY 3))))))) (Vs Jg) V6))) (Vs Jg))⟩) (.a fun ds R X h=>?_)
 ·obtain⟨os,ws,rfl,hR1,hR2⟩:=h;refine⟨rfl,?_⟩;refine⟨rfl,JF (xs:=ws) (emb:=prD) (fun i γ'=>γ'=[some (.bor (.lst (os.map D.int))),some (.bor (.lst (ws.map prD))),none,none]/\∀q∈ws.take i,badM os q=false) ⟨rfl,by simp⟩ ?_ ?_⟩
  ·rintro i hi γ' ⟨rfl,hb⟩;have hq:=Yb hi
   have next:badM os ws[i]=false->∀q∈ws.take (i+1),badM os q=false:=fun h q hq=>by
    rw[Yg hi,ZY,ZE]at hq;rcases hq with hq|hq
    ·exact hb q hq
    ·rw[hq];exact h
   generalize ws[i]=q at hq next ⊢;refine⟨rfl,_,.li _ _,ite2 (fun g1=>⟨_,.li _ _,ite2 (fun g2=>?_) (fun g2=>?_)⟩) (fun g1=>?_)⟩
   ·have g1':decide (q.1∈os)=true:=g1;have g2':decide (q.2∈os)=true:=g2;refine⟨⟨_,rfl⟩,os,rfl,ZX g1',⟨_,rfl⟩,os,rfl,ZX g2',?_⟩;refine ite2 (fun g3=>?_) (fun g3=>?_)
    ·have g3':=ZX g3;refine hR2 ⟨q,hq,?_⟩;unfold badM;rw[g1',g2',ZJ (by omega)];rfl
    ·have g3':¬((os.idxOf q.2:Nat):Int)<((os.idxOf q.1:Nat):Int):=fun z=>g3 (ZJ z);refine⟨rfl,next ?_⟩;unfold badM;rw[g1',g2',ZR (by omega)];rfl
   ·refine iteF ⟨rfl,next ?_⟩;have g2':decide (q.2∈os)=false:=Wk.mpr g2;unfold badM;rw[g2',Q1,Bool.and_false]
   ·refine iteF ⟨rfl,next ?_⟩;have g1':decide (q.1∈os)=false:=Wk.mpr g1;unfold badM;rw[g1',Q1]
  ·rintro γ' ⟨rfl,hb⟩;rw[YI]at hb;exact hR1 hb
def AX(G:Glob K mg)(DD:Def K mg "_law_no_ring" KQ ["_law_holders","_law_wishes_here"])
  : T9 P w K mg base:=by
 refine DD.oz (k:=0) U6 (fun _ _ _ _ _ _ E hr=>⟨_,(Vc (Pu.pz 2 U6.nd (UF (PP (K:=K)) (by rfl) G.list boot_list (az (pv 0)))) (Vc (VP Yj rfl (VE (K:=K) (pv 0)) (gz 3 U6.nd) (Vc (JW (N':=["_law_pair","_law_left"]) (φ:=[none,some 2]) (i:=4) U6.nd rfl rfl rfl (Own.CompOk.of (by rfl)) (VE (K:=K) (pv 1)) (fun _ _ _ _ _=>⟨(gz 0 (show(["_law_pair","_law_left"]:List Str).Nodup from by decide +kernel)),(Jn (PW.pt (JL (Vv (JU (K:=K) (show _<cLine from Vx hr)) (jx K (pv 0) Va) (pv 1) (by with_unfolding_all rfl)) (JX (Vv (JU (K:=K) (show _<cLine from Vx hr)) (jx K (pv 0) Va) (pv 1) (by with_unfolding_all rfl)))))),(pv 0)⟩)) (Vc (Pu.pz 5 U6.nd (Jw (N':=["_law_pair"]) (φ:=[none]) rfl (Own.CompOk.of (by rfl)) (VE (K:=K) (pv 4)) (fun _ _ _ _ _=>⟨(gz 0 (show(["_law_pair"]:List Str).Nodup from by decide +kernel)),Up,(jx K (pv 0) Va)⟩))) (Ve (Pu.pz 2 U6.nd (Jw (N':=["_law_holder_here","_law_behind"]) (φ:=[none,some 5]) rfl (Own.CompOk.of (by rfl)) (VE (K:=K) (pv 2)) (fun _ _ _ _ _=>⟨(gz 0 (show(["_law_holder_here","_law_behind"]:List Str).Nodup from by decide +kernel)),(Jn (Vv (JU (K:=K) (show _<cLine from Vx hr)) (pv 0) (pv 1) (by with_unfolding_all rfl))),(pv 0)⟩))))))) (Ve (Vk (UN (AC (K:=K) (show _<cLine from hr.units0)) (pv 2) (Vz VB) (VF _)))))), (Vd (Vg (Kw (sz (QY 0))) (Vb 2)) (Vd (Vy 0 (VO [3,4,5] (JE (QY 0)) (Vb 3) (Vd (Vg (VL (Jz (QY 1)) (Vb 0) (JH (Vn (Jf (Vh (QY 0) QZ) (QY 1))) (Vn (Jf (Vh (QY 0) QZ) (QY 1)))) (QY 0)) (Vb 4)) (Vd (Vg (VL (Jz (QY 4)) (Vb 0) U1 (Vh (QY 0) QZ)) (Vb 5)) (Vg (VL (Jz (QY 2)) (Vb 0) (Vn (Jf (QY 0) (QY 1))) (QY 0)) (Vb 2)))))) (Vs (HU (QY 2) (V1 VS)))))⟩) (.a fun ds R X h=>?_)
 ·obtain⟨hs,ws,rfl,hz,hw,hR⟩:=h;refine⟨rfl,?_⟩;refine⟨Ux _,rfl,JF (xs:=hs) (emb:=D.int) (fun i γ'=>γ'=[some (.bor (.lst (hs.map D.int))),some (.bor (.lst (ws.map prD))),some (.own ((Vp ws hs i).map D.int)),none,none,none]/\(Vp ws hs i).length<=50) ⟨rfl,hz⟩ ?_ ?_⟩
  ·rintro i hi γ' ⟨rfl,hl⟩;generalize e:Vp ws hs i=ls at hl;have e2:Vp ws hs (i+1)=Jl ws ls:=Y1 (Jl ws) e;have li:(JP ws ls).length<=50:=ZU (Yz _ _) hw;refine Jd (xs:=ws) (emb:=prD) (fun q=>if (decide (q.1∈ls)&&decide (q.2∈ls))=true then some (prD q)else none) (by omega) (fun q hq=>?_) ?_
   ·refine⟨_,rfl,_,.li _ _,ite2 (fun g1=>⟨_,rfl,_,.li _ _,ite2 (fun g2=>⟨_,rfl,ZK ?_⟩) (fun g2=>ZI ?_)⟩) (fun g1=>iteF (ZI ?_))⟩
    ·have g1':decide (q.1∈ls)=true:=g1;have g2':decide (q.2∈ls)=true:=g2;rw[g1',g2'];rfl
    ·have g2':decide (q.2∈ls)=false:=Wk.mpr g2;rw[g2',Bool.and_false];exact ZO
    ·have g1':decide (q.1∈ls)=false:=Wk.mpr g1;rw[g1',Q1];exact ZO
   rw[Jt (fun q:Int×Int=>decide (q.1∈ls)&&decide (q.2∈ls))];show _;refine Jd (xs:=JP ws ls) (emb:=prD) (fun q=>some (.int q.2)) (by omega) (fun q hq=>⟨_,rfl,_,rfl,rfl⟩) ?_;rw[mapD (fun q:Int×Int=>D.int q.2),show(JP ws ls).map (fun q:Int×Int=>D.int q.2)=((JP ws ls).map (·.2)).map D.int by rw[Yx];rfl];refine Jd (xs:=ls) (emb:=D.int) (fun h=>if decide (h∈(JP ws ls).map (·.2))=true then some (.int h)else none) (by omega) (fun h hh=>?_) ?_
   ·exact⟨_,.li _ _,ite2 (fun g=>⟨_,rfl,ZK g⟩) (fun g=>ZI g)⟩
   rw[Jt (fun h:Int=>decide (h∈(JP ws ls).map (·.2)))];exact⟨by rw[e2];rfl,by rw[e2];exact ZU (Yz _ _) hl⟩
  ·rintro γ' ⟨rfl,hl⟩;refine⟨YJ _,?_⟩;have e:((Vp ws hs hs.length).map D.int).isEmpty=decide (Vp ws hs hs.length=[]):=by cases Vp ws hs hs.length<;>simp
   show R (.sh (.bl ((Vp ws hs hs.length).map D.int).isEmpty));rw[e];exact hR
def EG(G:Glob K mg)(DD:Def K mg "_law_swapped" Pa ["_law_stand","_law_k"])
  : Sj P w K mg base:=by
 refine DD.oz (k:=0) G3 (fun _ _ _ _ _ _ E hr=>⟨_,(Ve (Vk (Vf (K5 (K:=K)) (Vf (K5 (K:=K)) (Nc (Fn (K:=K)) (pv 0) Bz (Tu (pv 1))) (Jy (bz (jx K (pv 0) (Vf V5 (pv 1) Va)) (jx K (pv 0) (pv 1))))) (Nc (Fn (K:=K)) (pv 0) (Tu (Vf V5 (pv 1) Va)) Bz)))), (Vs (Kq (Kq (Ni (QY 0) N4 (TZ (QY 1))) (Jx (tz (Vh (QY 0) (V4 (QY 1) QZ)) (Vh (QY 0) (QY 1))))) (Ni (QY 0) (TZ (V4 (QY 1) QZ)) N4)))⟩) (.a fun ds R X h=>?_)
 ·obtain⟨a,b,x,y,rfl,ha,hb,hR⟩:=h;refine⟨rfl,?_⟩;rw[Fp];have hl:((a++x::y::b).map D.int).length=a.length+b.length+2:=by rw[ZA,ZS,Ya,Ya];omega
  have e1:cutD ((a++x::y::b).map D.int) none (some (a.length:Int))=a.map D.int:=by
   rw[Kc,Nh _ (by omega)];simp
  have e2:cutD ((a++x::y::b).map D.int) (some ((a.length:Int)+2)) none=b.map D.int:=by
   rw[Kc,T4 _ (by omega)]
   have:((a.length:Int)+2).toNat=a.length+2:=by omega
   rw[this,List.drop_append];simp
  have ax:atI ((a++x::y::b).map D.int) (a.length:Int)=some (.int x):=JT (Uw (by simp))
  have ay:atI ((a++x::y::b).map D.int) ((a.length:Int)+1)=some (.int y):=by
   have:((a.length:Int)+1)=((a.length+1:Nat):Int):=by omega
   rw[this];exact JT (Uw (by rw[WE (by omega)];simp))
  refine⟨_,rfl,?_,_,ay,_,ax,by simp,_,_,rfl,rfl,?_,_,rfl,?_,_,_,rfl,rfl,?_,?_⟩
  ·rintro⟨_,z⟩;rw[HT.X6,hl]at z;omega
  ·rw[e1,ZA];show a.length+2<=100000;omega
  ·rintro⟨z,_⟩
   have:((a.length:Int)+2)=((a.length+2:Nat):Int):=by omega
   rw[this,HT.X6,hl]at z;omega
  ·rw[e1,e2,ZS,ZA,ZA];show a.length+2+b.length<=100000;omega
  ·rw[e1,e2];have e:a.map D.int++[D.int y,D.int x]++b.map D.int=(a++y::x::b).map D.int:=by simp
   show R (.sh (.tup (a.map D.int++[D.int y,D.int x]++b.map D.int)));rw[e];exact hR
def Ck(G:Glob K mg)(DD:Def K mg "lies_together" KO ["strips"])(Zl:Sn P w K mg base)(Ze:B4 P w K mg base)
  : Fu P w K mg base:=by
 refine DD.oz (k:=1) Nn (fun _ _ _ _ _ _ E hr=>⟨_,(Vc (JW (N':=["index","strips"]) (φ:=[none,some 0]) (i:=1) Nn.nd rfl rfl rfl (Own.CompOk.of (by rfl)) (J7 rfl G.range (az (ln K G.len (pv 0)))) (fun _ _ _ _ _=>⟨(gz 0 (show(["index","strips"]:List Str).Nodup from by decide +kernel)),(Jn (VX (K:=K) (fz Zl hr (bz (pv 1) (pv 0))))),(pv 0)⟩)) (Ve (Vk (UN (X0 (K:=K) (show _<cLine from hr.units0)) (ln K G.len (pv 1)) (ln K G.len (fz Ze hr (az (pv 0)))) (VF _))))), (Vd (Vg (VL (SndI.c (J2 (sz (VH (sz (QY 0)))))) (Vb 0) (VY (Vj (tz (QY 1) (QY 0)))) (QY 0)) (Vb 1)) (Vs (Ug (VH (sz (QY 1))) (VH (sz (Vj (sz (QY 0))))))))⟩) (.a fun ds R X h=>?_)
 ·obtain⟨ps,rfl,hF,hz,hT,hN⟩:=h;refine⟨rfl,?_⟩;have hl:(ps.map prD).length=ps.length:=ZA ..;refine⟨⟨by omega,by omega⟩,Xz (fun i=>if begM ps i=true then some (D.int (0+(i:Int)))else none) (by omega) (fun i hi=>?_) ?_⟩
  ·have hi':i<ps.length:=by omega
   refine⟨ps,i,by rw[show(0:Int)+(i:Int)=((i:Nat):Int) by omega];rfl,hi',?_⟩;exact ite2 (fun g=>⟨_,rfl,ZK g⟩) (fun g=>ZI g)
  rw[Jt (fun i:Nat=>begM ps i)];refine⟨ps,rfl,hF,hz,?_⟩
  have e1:(((List.range (((ps.map prD).length:Nat):Int).toNat).filter fun i:Nat=>begM ps i).map fun i:Nat=>D.int (0+(i:Int))).length=((List.range ps.length).filter (begM ps)).length:=by
   rw[ZA,show(((ps.map prD).length:Nat):Int).toNat=ps.length by omega]
  have e2:((Vq ps).map D.int).length=(Vq ps).length:=ZA ..;by_cases c:TogP ps
  ·have:=(BR hF).mpr c
   have ee:((((((List.range (((ps.map prD).length:Nat):Int).toNat).filter fun i:Nat=>begM ps i).map fun i:Nat=>D.int (0+(i:Int))).length:Nat):Int)=((((Vq ps).map D.int).length:Nat):Int)):=by omega
   have hR:=hT c;rw[←ZJ ee]at hR;exact hR
  ·have h:¬((List.range ps.length).filter (begM ps)).length=(Vq ps).length:=fun z=>c ((BR hF).mp z);have ee:¬((((((List.range (((ps.map prD).length:Nat):Int).toNat).filter fun i:Nat=>begM ps i).map fun i:Nat=>D.int (0+(i:Int))).length:Nat):Int)=((((Vq ps).map D.int).length:Nat):Int)):=by omega
   have hR:=hN c;rw[←ZR ee]at hR;exact hR
def Dz(G:Glob K mg)(DD:Def K mg "ring_from" Th ["least","holders","wishes"])(Zm:SG P w K mg base)
  : S9 P w K mg base:=by
 refine DD.oz (k:=1) Uo (fun _ _ _ _ _ _ E hr=>⟨_,(Vc (Pu.pz 3 Uo.nd (Vz (az (Vz (az (pv 0)))))) (Vc (Pu.pz 4 Uo.nd (VT (Fm (K:=K) (w:=w) rfl) (by rfl) G.sorted boot_sorted (az (Jw (N':=["holder","least"]) (φ:=[none,some 0]) rfl (Own.CompOk.of (by rfl)) (VE (K:=K) (pv 1)) (fun _ _ _ _ _=>⟨(gz 0 (show(["holder","least"]:List Str).Nodup from by decide +kernel)),(Jn (Vv U0 (pv 0) (pv 1) (VF _))),(pv 0)⟩))))) (Vc (Kp Yj (VX (K:=K) (pv 3)) (Vc (JW (N':=["path","wishes","least"]) (φ:=[none,some 2,some 0]) (i:=5) Uo.nd rfl rfl rfl (Own.CompOk.of (by rfl)) (VE (K:=K) (pv 3)) (fun _ _ _ _ _=>⟨(gz 0 (show(["path","wishes","least"]:List Str).Nodup from by decide +kernel)),(Jn (Vv (JU (K:=K) (show _<cLine from Vx hr)) (Jy (bz (jx K (pv 0) (KL PK Va)) (pv 2))) (pv 1) (by with_unfolding_all rfl))),(pv 0)⟩)) (Vc (V2 (VX (K:=K) (pv 5)) (Ve (Vk (jx K (pv 5) Va)))
   V9) (Vc (Pu.pz 3 Uo.nd (fz Zm hr (dz (pv 3) (pv 4) (pv 2)))) (Vc (Pu.pz 6 Uo.nd (Jw (N':=["path"]) (φ:=[none]) rfl (Own.CompOk.of (by rfl)) (VE (K:=K) (pv 3)) (fun _ _ _ _ _=>⟨(gz 0 (show(["path"]:List Str).Nodup from by decide +kernel)),Up,(jx K (pv 0) (KL PK Va))⟩))) (Ve (JW (N':=["holder","reached"]) (φ:=[none,some 6]) (i:=4) Uo.nd rfl rfl rfl (Own.CompOk.of (by rfl)) (VE (K:=K) (pv 4)) (fun _ _ _ _ _=>⟨(gz 0 (show(["holder","reached"]:List Str).Nodup from by decide +kernel)),(Jn (Vv (UI (K:=K) (show _<cLine from Vx hr)) (pv 0) (pv 1) (by with_unfolding_all rfl))),(pv 0)⟩)))))))) (Ve (Vk (Vz VB)))))), (Vd (Vy 0 (Vg (V1 (sz (V1 (sz (QY 0))))) (Vb 3))) (Vd (Vg (BK (sz (VL (Jz (QY 1)) (Vb 0) (Vn (U8 (QY 0) (QY 1))) (QY 0)))) (Vb 4)) (Vd (KM [5,6] (VY (QY 3)) (Vd (Vy 0 (Vg (VL (Jz (QY 3)) (Vb 0) (Vn (Jf (Jx (tz (Vh (QY 0) (KN QZ)) (QY 2))) (QY 1))) (QY 0)) (Vb 5))) (Vd (V3 (VY (QY 5)) (SR (Vh (QY 5) QZ)) V6) (Vd (Vg (Vj (uz (QY 3) (QY 4) (QY 2))) (Vb 3)) (Vd (Vg (VL (Jz (QY 3)) (Vb 0) U1 (Vh (QY 0) (KN QZ))) (Vb 6)) (Vg (VL (Jz (QY 4)) (Vb 0) (Vn (Jf (QY 0) (QY 1))) (QY 0)) (Vb 4))))))) (SR (V1 VS)))))⟩) (.a fun ds R X h=>?_)
 ·obtain⟨l,hs,ws,rfl,hz,hN,hR⟩:=h;refine⟨rfl,?_⟩;refine⟨by simp,by simp,Jd (xs:=hs) (emb:=D.int) (fun h=>if decide (l<h)=true then some (.int h)else none) (by omega) (fun h _=>ite2 (fun g=>⟨_,rfl,ZK g⟩) (fun g=>ZI g)) ?_⟩;rw[BJ fun h=>decide (l<h)];refine⟨hs.filter fun h=>decide (l<h),rfl,Q3 (Yz _ _) (by omega),fun ls hp hsrt=>?_⟩
  have hm:∀h∈ls,Gr hs l h:=fun h z=>by
   rw[hp.mem_iff,ZV,W7]at z;exact z
  have hlen:ls.length<=hs.length:=by
   rw[hp.length_eq];exact Yz _ _
  refine KY (fun γ'=>∃k ps ls,γ'=[some (.sh (.int l)),some (.bor (.lst (hs.map D.int))),some (.bor (.lst (ws.map prD))),some (.own (ps.map (em l))),some (.own (ls.map D.int)),none,none]/\(∀p∈ps,p.length=k/\Path (Gr hs l) ws l p)/\(∀h∈ls,Gr hs l h)/\ps.length<=60/\ls.length<=hs.length/\(k+ls.length<=hs.length\/(ps=[]/\k<=hs.length+1)))
   (fun γ=>2*PB 4 γ+min 1 (PB 3 γ)) ⟨0,[[]],ls,rfl,(fun p z=>by rw[ZE.mp z];exact⟨rfl,trivial⟩),hm,by simp,hlen,.inl (by omega)⟩ ?_
  rintro γ' ⟨k,ps,ls,rfl,L,hm,hpl,hll,hk⟩;have emp:(!(ps.map (em l)).isEmpty)=decide (ps≠[]):=by cases ps<;>simp
  show if (!(ps.map (em l)).isEmpty)=true then _ else _;rw[emp];refine ite2 (fun g=>?_) (fun g=>?_)
  ·have hne:ps≠[]:=ZX g;have hk':k+ls.length<=hs.length:=hk.elim id fun z=>absurd z.1 hne;have hpk:∀p∈ps,p.length<=60:=fun p hp=>by rw[(L p hp).1];omega
   have hn:∀p∈ps,(Vr l p,l)∉ws:=fun p hp z=>hN p ⟨(L p hp).2,z⟩;refine Jd (xs:=ps) (emb:=em l) (fun _=>none) (by omega) (fun p hp=>⟨_,PL l p,by simp,_,.lp (Vr l p,l) ws,ite2 (fun g=>absurd (ZX g) (hn p hp)) (fun g=>rfl)⟩) ?_;have e0:ps.filterMap (fun _=>(none:Option D))=[]:=by simp
   rw[e0];refine⟨l,ps,ls,ws,rfl,fun p hp=>ZU (hpk p hp) (by decide),by omega,fun lg G hlg=>?_⟩;refine Jd (xs:=lg) (emb:=em l) (fun p=>some (.int (Vr l p))) (by omega) (fun p _=>⟨_,PL l p,_,rfl,rfl⟩) ?_;have e1:lg.filterMap (fun p=>some (D.int (Vr l p)))=(lg.map (Vr l)).map D.int:=by rw[W6,Yx];rfl
   rw[e1];refine Jd (xs:=ls) (emb:=D.int) (fun h=>if decide (¬h∈lg.map (Vr l))=true then some (.int h)else none) (by omega) (fun h _=>⟨_,.li h _,?_⟩) ?_
   ·by_cases c:h∈lg.map (Vr l)
    ·simp only[ZJ c];exact iteF (ZI (by simp[c]))
    ·simp only[ZR c];exact iteT ⟨_,rfl,ZK (by simp[c])⟩
   rw[BJ fun h=>decide (¬h∈lg.map (Vr l))];have hfl:=Yz (fun h=>decide (¬h∈lg.map (Vr l))) ls
   have hless:lg≠[]->(ls.filter fun h=>decide (¬h∈lg.map (Vr l))).length<ls.length:=fun hne=>by
    obtain⟨q,hq⟩:=List.exists_mem_of_ne_nil lg hne
    have hm:Vr l q∈ls:=by
     obtain⟨p,_,x,hx,rfl,_⟩:=G q hq;rw[Ub];exact hx
    refine Nat.lt_of_le_of_ne hfl fun z=>?_
    have:=List.filter_eq_self.mp (List.Sublist.eq_of_length (List.filter_sublist (l:=ls)) z) (Vr l q) hm
    rw[W7]at this;exact this (List.mem_map_of_mem hq)
   refine⟨⟨k+1,lg,_,rfl,fun q hq=>?_,fun h hh=>hm h (ZV.mp hh).1,by omega,by omega,?_⟩,?_⟩
   ·obtain⟨p,hp,x,hx,rfl,hw⟩:=G q hq;exact⟨by rw[ZS,(L p hp).1];rfl,path_app.mpr ⟨(L p hp).2,hm x hx,hw,trivial⟩⟩
   ·by_cases c:lg=[]
    ·exact .inr ⟨c,by omega⟩
    ·have:=hless c
     exact .inl (by omega)
   ·show 2*((ls.filter fun h=>decide (¬h∈lg.map (Vr l))).map D.int).length+min 1 (lg.map (em l)).length<2*(ls.map D.int).length+min 1 (ps.map (em l)).length;rw[ZA,ZA,ZA,ZA]
    have:0<ps.length:=Qy.mpr hne
    by_cases c:lg=[]
    ·rw[c];rw[c]at hfl;simp only[List.length_nil];omega
    ·have:=hless c
     omega
  ·have hpe:ps=[]:=Ys fun z=>g (ZJ z);subst hpe;exact⟨by simp,hR⟩
def Ey(G:Glob K mg)(DD:Def K mg "longer_stands" KS ["strips","stands"])(Zn:Nf P w K mg base)(Zo:N3 P w K mg base)
  : ND P w K mg base:=by
 refine DD.oz (k:=1) UP (fun _ _ _ _ _ _ E hr=>⟨_,(Vc (Pu.pz 2 UP.nd (Vz VB)) (Vc (VP Yj rfl (VE (K:=K) (pv 1)) (JS (K:=K) (n:=2) rfl (VU (gz 3 UP.nd) (VU (gz 4 UP.nd) Ua))) (Ve (VP Yj rfl (VE (K:=K) (fz Zn hr (az (pv 0)))) (gz 5 UP.nd) (Ve (V2 (Vv (UI (K:=K) (show _<cLine from Vx hr)) (pv 5) (pv 3) (by with_unfolding_all rfl)) (Ve (Ji (JY Yt Y9 YA JV (pv 2) (az (Jy (bz (Vf (K5 (K:=K)) (pv 3) (Jy (az (pv 5)))) (Vf V5 (pv 4) (fz Zo hr (dz (pv 0) (pv 3) (pv 5))))))))))
   V9))))) (Ve (Vk (pv 2))))), (Vd (Vg (V1 VS) (Vb 2)) (Vd (Vy 1 (VO [3,4,5] (JE (QY 1)) (Uh (Jc (Vb 3) (Jc (Vb 4) Ui))) (VO [5] (JE (Vj (sz (QY 0)))) (Vb 5) (V3 (Vn (Jf (QY 5) (QY 3))) (Vy 5 (Um 2 (Jx (tz (Kq (QY 3) (Jx (sz (QY 5)))) (V4 (QY 4) (Vj (uz (QY 0) (QY 3) (QY 5)))))))) V6)))) (Ue 2)))⟩) (.a fun ds R X h=>?_)
 ·obtain⟨ps,Ss,rfl,hF,hz,hS,hq,hR⟩:=h;refine⟨rfl,?_⟩;refine⟨by simp,rfl,JF (xs:=Ss) (emb:=stD) (fun i γ'=>γ'=[some (.bor (plD ps)),some (.bor (.lst (Ss.map stD))),some (.own (((Ss.take i).flatMap (Jm ps)).map stD)),none,none,none]) rfl ?_ ?_⟩
  ·rintro i hi γ' rfl
   have et:(Ss.take (i+1)).flatMap (Jm ps)=(Ss.take i).flatMap (Jm ps)++Jm ps Ss[i]:=by
    rw[Yg hi,List.flatMap_append];simp
   have hfl:=PV hz (Ss.take i);have htl:(Ss.take i).length<=1000000:=by rw[Yf];omega
   have hql:=hq _ (Yb hi);rw[et];generalize Ss[i]=q at hql ⊢;generalize (Ss.take i).flatMap (Jm ps)=A at hfl ⊢;rw[show(arg (D.lst (Ss.map stD))).sub (stD q)=Pu.S.sh (stD q)from AQ q]
   refine⟨rfl,ps,rfl,by omega,?_⟩;refine⟨rfl,JF (xs:=runI 1 ps.length) (emb:=D.int) (fun j γ'=>γ'=[some (.bor (plD ps)),some (.bor (.lst (Ss.map stD))),some (.own ((A++((((runI 1 ps.length).take j).filter fun x=>!decide (x∈q.1)).map fun x=>(q.1++[x],q.2+VM ps q.1 x))).map stD)),some (.sh (tD q.1)),some (.sh (.int q.2)),none]) (by simp;rfl) ?_ ?_⟩
   ·rintro j hj γ' rfl;have hm:=run_mem.mp (Yb hj);have ej:(runI 1 ps.length).take (j+1)=(runI 1 ps.length).take j++[(runI 1 ps.length)[j]]:=Yg hj;have hpl:=Yz (fun x=>!decide (x∈q.1)) ((runI 1 ps.length).take j);rw[Yf]at hpl;have hrl:(runI 1 ps.length).length=ps.length:=JK _;rw[ej,List.filter_append,Yq];generalize (runI 1 ps.length)[j]=x at hm ⊢;generalize hP:(((runI 1 ps.length).take j).filter fun x=>!decide (x∈q.1))=P at hpl ⊢;refine⟨_,.ti _ _,ite2 (fun g=>?_) (fun g=>?_)⟩
    ·refine⟨by simp,_,_,rfl,rfl,?_,ps,q.1,x,rfl,hF,by omega,hm.1,hm.2,by simp,?_,?_⟩
     ·show(q.1.map D.int).length+1<=100000;rw[ZA];omega
     ·rw[ZS,ZA,ZA,ZA];omega
     ·rw[show([x].filter fun x=>!decide (x∈q.1))=[x]from YU g]
      show[_,_,some (Pu.S.own (O.lst ((A.map stD++(P.map fun x=>(q.1++[x],q.2+VM ps q.1 x)).map stD)++[.tup [.tup (q.1.map D.int++[D.int x]),.int (q.2+VM ps q.1 x)]]))),_,_,_]=_
      have e:D.tup [.tup (q.1.map D.int++[D.int x]),.int (q.2+VM ps q.1 x)]=stD (q.1++[x],q.2+VM ps q.1 x):=by
       unfold stD tD;rw[Yq];rfl
      rw[e];simp[Yq]
    ·rw[show([x].filter fun x=>!decide (x∈q.1))=[]from YV g]
     simp;rfl
   ·rintro γ' rfl;rw[YI];rfl
  ·rintro γ' rfl;rw[YI];exact hR
def GX(G:Glob K mg)(DD:Def K mg "_law_draw" KC ["_law_script","_law_k"])(Zp:Sv P w K mg base)(Zb:Km P w K mg base)
  : XC P w K mg base:=by
 refine DD.oz (k:=1) HL (fun _ _ _ _ _ _ E hr=>⟨_,(Vc (V2 (cq K hr (Vf VD (fz Zb hr (bz (pv 0) Va)) Va) Va) (Ve (Vk (fz Zb hr (bz (pv 0) (Vf V5 Va (pv 1))))))
   V9) (Ve (Vk (fz Zp hr (bz (fz Zb hr (bz (pv 0) Va)) (pv 1)))))), (Vd (V3 (Vn (Ug (VC (Vj (tz (QY 0) QZ)) QZ) QZ)) (Vs (Vj (tz (QY 0) (V4 QZ (QY 1))))) V6) (Vs (Vj (tz (Vj (tz (QY 0) QZ)) (QY 1)))))⟩) (.a fun ds R X h=>?_)
 ·obtain⟨ns,k,rfl,hk,hR⟩:=h;refine⟨rfl,?_⟩;refine⟨ns,0,rfl,by decide,fun v=>⟨(by show(0:Int)<2;decide),ite2 (fun _=>?_) (fun _=>?_)⟩⟩
  ·exact⟨ns,_,rfl,by omega,fun v=>hR v⟩
  ·exact⟨ns,1,rfl,by decide,fun u=>⟨_,_,rfl,fun v=>hR v⟩⟩
def Ac(G:Glob K mg)(DD:Def K mg "_law_tuples" Tf ["_law_found","_law_due"])(Zf:Ky P w K mg base)
  : Sm P w K mg base:=by
 refine DD.oz (k:=1) P1 (fun _ _ _ _ _ _ E hr=>⟨_,(Vc (V2 (PW.pt (U4 (JR (VX (K:=K) (VT (Kh (K:=K)) (by rfl) G.isinstance YR (bz (pv 0) (UK (v:=.ty "list") rfl G.list boot_list rfl))))) (UC (cn K hr (ln K G.len (pv 0)) (ln K G.len (pv 1)))))) (Ve (Vk Jk))
   V9) (Vc (VP Yj rfl (J7 rfl G.range (az (ln K G.len (pv 1)))) (gz 2 P1.nd) (Vc (V2 (PW.pt (U4 (JR (VX (K:=K) (VT (Kh (K:=K)) (by rfl) G.isinstance YR (bz (jx K (pv 0) (pv 2)) (UK (v:=.ty "tuple") rfl G.tuple boot_tuple rfl))))) (UC (cn K hr (ln K G.len (jx K (pv 0) (pv 2))) (ln K G.len (jx K (pv 1) (pv 2))))))) (Ve (Vk Jk))
   V9) (Ve (VP Yj rfl (J7 rfl G.range (az (ln K G.len (jx K (pv 1) (pv 2))))) (gz 3 P1.nd) (Ve (V2 (PW.pt (U4 (JR (VX (K:=K) (fz Zf hr (az (jx K (jx K (pv 0) (pv 2)) (pv 3)))))) (UC (cn K hr (jx K (jx K (pv 0) (pv 2)) (pv 3)) (jx K (jx K (pv 1) (pv 2)) (pv 3)))))) (Ve (Vk Jk))
   V9)))))) (Ve (Vk Jk)))), (Vd (V3 (Uu (JN (VY (Kg (tz (QY 0) Xp)))) (Vn (UR (VH (sz (QY 0))) (VH (sz (QY 1)))))) (Vs Jg) V6) (Vd (VO [2,3] (J2 (sz (VH (sz (QY 1))))) (Vb 2) (Vd (V3 (Uu (JN (VY (Kg (tz (Vh (QY 0) (QY 2)) Xp)))) (Vn (UR (VH (sz (Vh (QY 0) (QY 2)))) (VH (sz (Vh (QY 1) (QY 2))))))) (Vs Jg) V6) (VO [3] (J2 (sz (VH (sz (Vh (QY 1) (QY 2)))))) (Vb 3) (V3 (Uu (JN (VY (Vj (sz (Vh (Vh (QY 0) (QY 2)) (QY 3)))))) (Vn (UR (Vh (Vh (QY 0) (QY 2)) (QY 3)) (Vh (Vh (QY 1) (QY 2)) (QY 3))))) (Vs Jg) V6)))) (Vs Jg)))⟩) (.a fun ds R X h=>?_)
 ·obtain⟨ps,rfl,hz,hR⟩:=h;refine⟨rfl,?_⟩;have hl:(ps.map prD).length=ps.length:=ZA ..;refine⟨_,.same _,iteF (BX rfl ?_)⟩;refine⟨⟨by omega,by omega⟩,JO (fun i γ'=>∃t,γ'=[some (.bor (.lst (ps.map prD))),some (.bor (.lst (ps.map prD))),none,t]) ⟨_,rfl⟩ ?_ ?_⟩
  ·rintro i γ' hi ⟨t,rfl⟩;have hi':i<(((ps.map prD).length:Nat):Int).toNat:=hi;have ez:(0:Int)+(i:Int)=(i:Int):=by omega
   have hb:i<ps.length:=by omega
   have ha:atI (ps.map prD) (0+(i:Int))=some (prD ps[i]):=by rw[ez];exact XG hb
   generalize ps[i]=q at ha;refine⟨_,ha,_,.same _,iteF ⟨_,ha,_,ha,?_⟩⟩;refine⟨_,ha,⟨(by show -(2 ^ 62)<=(2:Int);decide),(by show(2:Int)<2 ^ 62;decide)⟩,JO (fun j γ'=>∃t,γ'=[some (.bor (.lst (ps.map prD))),some (.bor (.lst (ps.map prD))),some (.sh (.int (0+(i:Int)))),t]) ⟨_,rfl⟩ ?_ ?_⟩
   ·rintro j γ' hj ⟨t,rfl⟩;have hj2:j<2:=hj
    obtain⟨z,ea⟩:∃z:Int,atI [D.int q.1,D.int q.2] (0+(j:Int))=some (.int z):=by
     have:j=0\/j=1:=by omega
     rcases this with rfl|rfl
     ·exact⟨_,rfl⟩
     ·exact⟨_,rfl⟩
    exact⟨_,ha,_,ea,z,rfl,iteF ⟨_,ha,_,ea,_,ha,_,ea,BX rfl ⟨_,rfl⟩⟩⟩
   ·rintro γ' ⟨t,rfl⟩;exact⟨_,rfl⟩
  ·rintro γ' ⟨t,rfl⟩;exact hR
def AS(G:Glob K mg)(DD:Def K mg "_law_stand_keeps" Pq ["_law_stand","_law_strips_here","_law_wishes_here"])(Zq:SJ P w K mg base)(Zr:B6 P w K mg base)
  : Sr P w K mg base:=by
 refine DD.oz (k:=1) XI (fun _ _ _ _ _ _ E hr=>⟨_,(Vc (JW (N':=["_law_number","_law_strips_here"]) (φ:=[none,some 1]) (i:=3) XI.nd rfl rfl rfl (Own.CompOk.of (by rfl)) (TB (K:=K) (pv 0)) (fun _ _ _ _ _=>⟨(gz 0 (show(["_law_number","_law_strips_here"]:List Str).Nodup from by decide +kernel)),Up,(jx K (pv 1) (Vf JB (pv 0) Va))⟩)) (Vc (V2 (JR (VX (K:=K) (fz Zr hr (az (pv 3))))) (Ve (Vk Jk))
   V9) (Vc (Pu.pz 4 XI.nd (Vz VB)) (Vc (VP Yj rfl (VE (K:=K) (pv 3)) (gz 5 XI.nd) (Ve (V2 (Vv (UI (K:=K) (show _<cLine from Vx hr)) (jx K (pv 5) Va) (pv 4) (by with_unfolding_all rfl)) (Ve (Ji (JY Yt Y9 YA JV (pv 4) (az (jx K (pv 5) Va)))))
   V9))) (Ve (Vk (fz Zq hr (bz (pv 4) (pv 2))))))))), (Vd (Vg (VL (SndI.c (NJ (QY 0))) (Vb 0) U1 (Vh (QY 1) (JC (QY 0) QZ))) (Vb 3)) (Vd (V3 (JN (VY (Vj (sz (QY 3))))) (Vs Jg) V6) (Vd (Vg (V1 VS) (Vb 4)) (Vd (Vy 3 (VO [5] (JE (QY 3)) (Vb 5) (V3 (Vn (Jf (Vh (QY 5) QZ) (QY 4))) (Um 4 (Vh (QY 5) QZ)) V6))) (Vs (Vj (tz (QY 4) (QY 2))))))))⟩) (.a fun ds R X h=>?_)
 ·obtain⟨ps,ws,r,rfl,hz,hin,hT,hN⟩:=h;refine⟨rfl,?_⟩;rw[Fp];have hfl:(fldS ps r).length=r.length:=ZA ..;refine⟨_,rfl,Jd (s:=.sh .non) (xs:=r) (emb:=D.int) (fun z=>some (prD (atP1 ps z))) (by omega) (fun z hz'=>?_) ?_⟩
  ·have:=hin z hz'
   exact⟨_,Uv this.1 this.2,_,rfl,rfl⟩
  rw[mapD (fun z:Int=>prD (atP1 ps z))]
  have ef:(r.map fun z:Int=>prD (atP1 ps z))=(fldS ps r).map prD:=by
   unfold fldS;rw[Yx];rfl
  rw[ef];generalize fldS ps r=fs at hfl hT hN ⊢;refine⟨fs,rfl,by omega,fun t=>iteF ?_,fun t=>iteT (hN fun z=>t z.1)⟩;refine⟨by simp,rfl,JF (xs:=fs) (emb:=prD) (fun i γ'=>γ'=[some (.sh (tD r)),some (.bor (plD ps)),some (.bor (plD ws)),some (.sh (plD fs)),some (.own ((Vo ((fs.take i).map (·.1))).map D.int)),none]) rfl ?_ ?_⟩
  ·rintro i hi γ' rfl;have et:(fs.take (i+1)).map (·.1)=(fs.take i).map (·.1)++[fs[i].1]:=by rw[Yg hi,Yq];rfl
   have hl:=PN ((fs.take i).map (·.1));rw[ZA,Yf]at hl;rw[et,Xk];generalize Vo ((fs.take i).map (·.1))=L at hl ⊢;generalize fs[i]=q;refine⟨_,rfl,_,.li _ _,ite2 (fun g=>?_) (fun g=>?_)⟩
   ·have g':¬q.1∈L:=fun z=>by rw[ZK rfl,ZJ z]at g;cases g
    rw[ZI g',Yq];exact⟨_,rfl,by rw[ZA];omega,rfl⟩
   ·have g':q.1∈L:=Ys fun z=>g (by rw[ZK rfl,ZR z];rfl);rw[ZK g'];exact rfl
  ·rintro γ' rfl;rw[YI];have hm:=(X7 (fs.map (·.1))).1;refine⟨Vo (fs.map (·.1)),ws,rfl,fun c=>hT ⟨t,fun q hq=>?_⟩,fun⟨q,hq,c⟩=>hN fun z=>?_⟩
   ·rw[B8 hm];exact c q hq
   ·have:=z.2 q hq
    rw[B8 hm]at this;have c':(decide (q.1∈Vo (fs.map (·.1)))&&(decide (q.2∈Vo (fs.map (·.1)))&&decide ((Vo (fs.map (·.1))).idxOf q.2<(Vo (fs.map (·.1))).idxOf q.1)))=true:=c;rw[this]at c';cases c'
def Gf(G:Glob K mg)(DD:Def K mg "_law_come_to" KH ["_law_strips_here"])(Zs:Sj P w K mg base)
  : NN P w K mg base:=by
 refine DD.oz (k:=1) Js (fun _ _ _ _ _ _ E hr=>⟨_,(Vc (Pu.pz 1 Js.nd (UF (Ay rfl) (by rfl) G.tuple boot_tuple (az (UF Ai (by rfl) G.range boot_range (bz Va (Vf V5 (ln K G.len (pv 0)) Va)))))) (Vc (Pu.pz 2 Js.nd (DS (Vx hr) (pv 1) Va)) (Vc (Pu.pz 3 Js.nd (Vz (az (pv 1)))) (Vc (Pu.pz 4 Js.nd Va) (Vc (Kp Yj (Vv Us (pv 4) (ln K G.len (pv 3)) (VF _)) (Vc (Pu.pz 5 Js.nd (jx K (pv 3) (pv 4))) (Vc (Pu.pz 4 Js.nd (Vf V5 (pv 4) Va)) (Ve (VP Yj rfl (J7 rfl G.range (az (Vf JB (ln K G.len (pv 0)) Va))) (gz 6 Js.nd) (Vc (Pu.pz 7 Js.nd (fz Zs hr (bz (pv 5) (pv 6)))) (Vc (Pu.pz 8 Js.nd (Vf Uc (jx K (jx K (pv 0) (Vf JB (jx K (pv 5) (pv 6)) Va)) Va) (jx K (jx K (pv 0) (Vf JB (jx K (pv 5) (Vf V5 (pv 6) Va)) Va)) Va))) (Vc (Pu.pz 9 Js.nd (Vf V5 (UV (Vx hr) (pv 2) (pv 5) (fun _ _=>rfl)) (pv 8))) (Ve (V2 (PW.pt (U4 (XN (N1 (Vx hr) (pv 7) (pv 2))) (UC (Vv Us (pv 9) (UV (Vx hr) (pv 2) (pv 7) (fun _ _=>rfl)) (VF _))))) (Vc (KW (Vx hr) (pv 2) (pv 7) (pv 9) rfl) (Ve (Ji (JY Yt Y9 YA JV (pv 3) (az (pv 7))))))
   V9)))))))))) (Ve (Au (pv 2)))))))), (Vd (Vg (D3 (tz QZ (V4 (VH (sz (QY 0))) QZ))) (Vb 1)) (Vd (Vg (CL (QY 1) QZ) (Vb 2)) (Vd (Vy 1 (Vg (V1 (sz (QY 1))) (Vb 3))) (Vd (Vg QZ (Vb 4)) (Vd (KM [5,6,7,8,9] (Vn (U9 (QY 4) (VH (sz (QY 3))))) (Vd (Vg (Vh (QY 3) (QY 4)) (Vb 5)) (Vd (Vg (V4 (QY 4) QZ) (Vb 4)) (VO [6,7,8,9] (J2 (sz (JC (VH (sz (QY 0))) QZ))) (Vb 6) (Vd (Vg (Vj (tz (QY 5) (QY 6))) (Vb 7)) (Vd (Vg (Uj (Vh (Vh (QY 0) (JC (Vh (QY 5) (QY 6)) QZ)) QZ) (Vh (Vh (QY 0) (JC (Vh (QY 5) (V4 (QY 6) QZ)) QZ)) QZ)) (Vb 8)) (Vd (Vg (V4 (XX (QY 2) (QY 5)) (QY 8)) (Vb 9)) (V3 (Uu (st_b (BA (QY 7) (QY 2))) (Vn (U9 (QY 9) (XX (QY 2) (QY 7))))) (Vd (P6 2 (QY 7) (QY 9)) (Vy 7 (Um 3 (QY 7)))) V6)))))))) (DM 2))))))⟩) (.a fun ds R X h=>?_)
 ·obtain⟨ps,rfl,hF,hz,hR⟩:=h;refine⟨rfl,?_⟩;have hl:(ps.map prD).length=ps.length:=ZA ..;have en:((((ps.map prD).length:Nat):Int)+1-1).toNat=ps.length:=by omega
  have hw:∀y:Int,1<=y->y<=ps.length->1<=wdM ps y/\wdM ps y<=1000:=fun y a b=>(hF _ (Pk a b)).2.2;refine⟨⟨by decide,by decide,by omega,by omega⟩,by omega,?_⟩;rw[en];refine⟨kT (runI 1 ps.length),_,Ud _,rfl,?_⟩;refine⟨by simp,?_⟩;refine KY (fun γ'=>∃(q:List (List Int)) (i:Nat),Bq ps.length q i/\i<=q.length/\γ'=[some (.bor (plD ps)),some (.sh (tD (runI 1 ps.length))),some (.own (.dT (q.map (entC ps)))),some (.own (q.map tD)),some (.sh (.int i)),none,none,none,none,none]) HZ ⟨[runI 1 ps.length],0,Bq.start _,by simp,?_⟩ ?_
  ·have e0:entC ps (runI 1 ps.length)=(kT (runI 1 ps.length),.int 0):=by
    unfold entC;rw[GF];rfl
   rw[Wd,e0];rfl
  ·rintro γ' ⟨q,i,B,hi,rfl⟩;have hlq:(q.map tD).length=q.length:=ZA ..;have hq5:=B.len hz;refine ite2 (fun g=>?_) (fun g=>?_)
   ·have g':(i:Int)<((q.map tD).length:Int):=ZX g;have hi':i<q.length:=by omega
    refine⟨_,XG hi',?_⟩;have hri:q[i]?=some q[i]:=ZC hi';generalize q[i]=r at hri ⊢;have hrp:r.Perm (runI 1 ps.length):=B.pm r (Wn hri);have hrl:r.length=ps.length:=by rw[hrp.length_eq,JK]
    have hrn:r.Nodup:=hrp.nodup_iff.mpr (JM _);have hin:∀z∈r,1<=z/\z<=ps.length:=fun z hz=>run_mem.mp (hrp.mem_iff.mp hz);refine⟨⟨by omega,by omega⟩,JO (fun k γ'=>∃q':List (List Int),Bq ps.length q' i/\q'[i]?=some r/\(∀a x y b,r=a++x::y::b->a.length<k->x<y->(a++y::x::b)∈q')/\γ'=[some (.bor (plD ps)),some (.sh (tD (runI 1 ps.length))),some (.own (.dT (q'.map (entC ps)))),some (.own (q'.map tD)),some (.sh (.int ((i:Int)+1))),some (.sh (tD r)),none,none,none,none]) ⟨q,B,hri,fun a x y b _ h=>absurd h (Nat.not_lt_zero _),rfl⟩ ?_ ?_⟩
    ·rintro k γ' hk ⟨q',B',hri',hup,rfl⟩;have hk1:k<(((ps.map prD).length:Nat)-1:Int).toNat:=hk;obtain⟨a,x,y,b,rfl,hak⟩:=D2 (r:=r) (k:=k) (by omega);subst hak;have hla:(a++x::y::b).length=a.length+b.length+2:=by rw[ZS,Ya,Ya];omega
     have ax:atI ((a++x::y::b).map D.int) (0+(a.length:Int))=some (.int x):=by
      rw[Int.zero_add];exact JT (Uw (by simp))
     have ay:atI ((a++x::y::b).map D.int) (0+(a.length:Int)+1)=some (.int y):=by
      rw[Int.zero_add];refine JT ?_;rw[show(a.length:Int)+1=((a.length+1:Nat):Int) by omega];exact Uw (by simp)
     have hx:=hin x (by simp);have hy:=hin y (by simp);have hwx:=hw x hx.1 hx.2;have hwy:=hw y hy.1 hy.2
     have hxy:x≠y:=by
      have:=(Y0.mp hrn).2.1
      rw[Yv]at this;exact fun e=>this.1 (by rw[e];simp)
     have hq5':=B'.len hz;have hst:0<=wdM ps x*wdM ps y:=Int.mul_nonneg (by omega) (by omega);have hv:∀s,valV (q'.map (entC ps)) (kT s)=if s∈q' then some (.int (invM ps s))else none:=Fx B'.nd;have hvr:=hv (a++x::y::b);rw[ZK (Wn hri')]at hvr;refine⟨a,b,x,y,by rw[Int.zero_add];rfl,by omega,by omega,?_⟩;refine⟨_,ax,_,Uv hx.1 hx.2,_,rfl,_,ay,_,Uv hy.1 hy.2,_,rfl,.inl ⟨?_,?_⟩,?_⟩
     ·show(-2 ^ 64:Int)<wdM ps x;omega
     ·show wdM ps x<(2 ^ 64:Int);omega
     ·refine⟨_,_,Ud _,hvr,rfl,?_⟩;have hsw1:x<y->invM ps (a++y::x::b)=invM ps (a++x::y::b)+wdM ps x*wdM ps y:=fun h=>Kd h b a;have hsw2:y<x->invM ps (a++x::y::b)=invM ps (a++y::x::b)+wdM ps x*wdM ps y:=fun h=>by rw[Kd h b a,Int.mul_comm (wdM ps y)]
      have hall:∀(qq:List (List Int)),(∀s∈q',s∈qq)->(x<y->(a++y::x::b)∈qq)->∀a' x' y' b',a++x::y::b=a'++x'::y'::b'->a'.length<a.length+1->x'<y'->(a'++y'::x'::b')∈qq:=fun qq h1 h2 a' x' y' b' e hl' h=>by
       rcases WU.mp hl' with c|c
       ·exact h1 _ (hup a' x' y' b' e c h)
       ·have e2:=two_same e c.symm;obtain⟨rfl,h3⟩:=List.append_inj e c.symm;injection h3 with e4 h4;injection h4 with e5 _;rw[←e2];exact h2 (by omega)
      by_cases c:(a++y::x::b)∈q'
      ·have hvo:=hv (a++y::x::b);rw[ZK c]at hvo;refine⟨_,Ud _,?_⟩;rw[hvo];refine iteF ⟨_,_,Ud _,hvo,rfl,ite2 (fun g2=>?_) (fun g2=>?_)⟩
       ·have g3:invM ps (a++x::y::b)+wdM ps x*wdM ps y<invM ps (a++y::x::b):=ZX g2;rcases Int.lt_or_gt_of_ne hxy with d|d
        ·have:=hsw1 d
         omega
        ·have:=hsw2 d
         omega
       ·exact⟨q',B',hri',hall q' (fun _ z=>z) (fun _=>c),rfl⟩
      ·have hvo:=hv (a++y::x::b);rw[ZI c]at hvo
       have d:x<y:=by
        rcases Int.lt_or_gt_of_ne hxy with d|d
        ·exact d
        ·refine absurd (B'.full hri' (levM ps.length (a++y::x::b)).toNat _ (JD hrp) ?_ ?_) c
         ·have:=Xt ps.length (a++y::x::b)
          omega
         ·have:=Ut d (JD hrp)
          omega
       obtain⟨B2,hri2⟩:=B'.push hri' d c;refine⟨_,Ud _,?_⟩;rw[hvo];refine iteT ⟨_,_,Ud _,rfl,by rw[ZA];omega,?_⟩;refine⟨by rw[ZA];omega,q'++[a++y::x::b],B2,hri2,hall _ (fun s hs=>ZY.mpr (.inl hs)) (fun _=>ZY.mpr (.inr (by simp))),?_⟩;rw[AV _ hvo,Yq,Yq,Wd,Wd];unfold entC;rw[hsw1 d];rfl
    ·rintro γ' ⟨q',B',hri',hup,rfl⟩;obtain⟨hi2,_⟩:=ZW.mp hri';have hq5':=B'.len hz;refine⟨⟨q',i+1,B'.next hri' fun a x y b e h=>hup a x y b e ?_ h,hi2,rfl⟩,?_⟩
     ·have:=Y1 List.length e
      rw[ZS,Ya,Ya]at this;omega
     ·show 6000-((i:Int)+1).toNat<6000-(i:Int).toNat;omega
   ·have g':¬(i:Int)<((q.map tD).length:Int):=fun z=>g (ZJ z);have e:i=q.length:=by omega
    subst e;exact hR q B.nd hq5 B.iff
def Ar(G:Glob K mg)(DD:Def K mg "find_ring" KU ["holders","wishes"])(Zt:S9 P w K mg base)
  : BL P w K mg base:=by
 refine DD.oz (k:=2) UW (fun _ _ _ _ _ _ E hr=>⟨_,(Vc (Pu.pz 2 UW.nd (Vz VB)) (Vc (VP Yj rfl (VE (K:=K) (VT (Fm (K:=K) (w:=w) rfl) (by rfl) G.sorted boot_sorted (az (pv 0)))) (gz 3 UW.nd) (Vc (Pu.pz 4 UW.nd (fz Zt hr (dz (pv 3) (pv 0) (pv 1)))) (Ve (V2 (PW.pt (JL (VX (K:=K) (pv 4)) (JX (PW.pt (U4 (JR (VX (K:=K) (pv 2))) (UC (Vv Us (ln K G.len (pv 4)) (ln K G.len (pv 2)) (VF _)))))))) (Ve (Pu.pz 2 UW.nd (pv 4)))
   V9)))) (Ve (Vk (pv 2))))), (Vd (Vg (V1 VS) (Vb 2)) (Vd (Vy 2 (VO [3,4] (JE (BK (sz (QY 0)))) (Vb 3) (Vd (Vg (Vj (uz (QY 3) (QY 0) (QY 1))) (Vb 4)) (V3 (JH (VY (QY 4)) (Uu (JN (VY (QY 2))) (Vn (U9 (VH (sz (QY 4))) (VH (sz (QY 2))))))) (Vy 4 (Vg (QY 4) (Vb 2))) V6)))) (Vy 2 (Ue 2))))⟩) (.a fun ds R X h=>?_)
 ·obtain⟨hs,ws,rfl,hz,hN,hR⟩:=h;refine⟨rfl,?_⟩;refine⟨by simp,hs,rfl,by omega,fun ns hp hsrt=>?_⟩;refine⟨rfl,JF (xs:=ns) (emb:=D.int) (fun i γ'=>γ'=[some (.bor (.lst (hs.map D.int))),some (.bor (.lst (ws.map prD))),some (.sh (.lst [])),none,none]) rfl ?_ ?_⟩
  ·rintro i hi γ' rfl;have hl:=hN ns[i] (hp.mem_iff.mp (Yb hi));generalize ns[i]=l at hl ⊢;exact⟨l,hs,ws,rfl,hz,hl,rfl⟩
  ·rintro γ' rfl;exact hR
def He(G:Glob K mg)(DD:Def K mg "all_stands" Pv ["strips"])(Zg:K4 P w K mg base)(Zu:ND P w K mg base)
  : Tc P w K mg base:=by
 refine DD.ox (k:=2) XD (fun _ _ _ _ _ _ E hr=>⟨_,(Vc (Ji (UQ Zg (hr.mono (by decide)) ExcR.Pl (az (pv 0)))) (Vc (Pu.pz 1 XD.nd (Vz (az (Jy (bz (Jy VB) Va))))) (Vc (VP ExcR.HH rfl (J7 rfl G.range (az (ln K G.len (pv 0)))) (gz 2 XD.nd) (Ve (Pu.pz 1 XD.nd (fz Zu hr (bz (pv 0) (pv 1)))))) (Ve (Vk (pv 1)))))), (Vd (Xg (KZ (sz (QY 0)))) (Vd (Vg (V1 (sz (Jx (tz (Jx VS) QZ)))) (Vb 1)) (Vd (VO [2] (J2 (sz (VH (sz (QY 0))))) (Vb 2) (Vg (Vj (tz (QY 0) (QY 1))) (Vb 1))) (Ue 1))))⟩) (.a fun ds R X h=>?_)
 ·obtain⟨ps,rfl,hF,hR⟩:=h;refine⟨rfl,?_⟩;have hl:(ps.map prD).length=ps.length:=ZA ..;by_cases hz:ps.length<=7
  ·have es:J8 ps=none:=ZI (by omega);rw[es]at hR;refine⟨ps,rfl,?_⟩;rw[es];refine⟨by simp,by simp,by simp,?_⟩;refine⟨⟨by omega,by omega⟩,JO (fun i γ'=>γ'=[some (.bor (plD ps)),some (.own ((VQ ps i).map stD)),none]) ?_ ?_ ?_⟩
   ·rfl
   ·rintro i γ' hi rfl;have hi':i<(((ps.map prD).length:Nat):Int).toNat:=hi;have h6:(VQ ps i).length<=7 ^ 6:=ZU (Sy hz i) (Nat.pow_le_pow_right (n:=7) (by decide) (by omega));exact⟨ps,VQ ps i,rfl,hF,hz,ZU h6 (by decide),(fun q hq=>by rw[Sl hq];omega),rfl⟩
   ·rintro γ' rfl;have e:(((ps.map prD).length:Nat):Int).toNat=ps.length:=by omega
    show R (.own ((VQ ps (((ps.map prD).length:Nat):Int).toNat).map stD));rw[e];exact hR
  ·have es:J8 ps=some "TooManyStands":=ZK (by omega);rw[es]at hR;refine⟨ps,rfl,?_⟩;rw[es];exact hR
def Af(G:Glob K mg)(DD:Def K mg "is_melded" PZ ["field","wishes"])(Zv:Fu P w K mg base)(Zw:SA P w K mg base)(Zx:Tp P w K mg base)
  : Bc P w K mg base:=by
 refine DD.oz (k:=2) FB (fun _ _ _ _ _ _ E hr=>⟨_,(Ve (Vk (X3 (fz Zv hr (az (pv 0))) (Xb (HW (K:=K) (fz Zw hr (bz (fz Zx hr (az (pv 0))) (pv 1)))))))), (Vs (XQ (Vj (sz (QY 0))) (CG (Vj (tz (Vj (sz (QY 0))) (QY 1))))))⟩) (.a fun ds R X h=>?_)
 ·obtain⟨ps,ws,rfl,hF,hz,hw,hT,hN⟩:=h;refine⟨rfl,?_⟩;refine⟨ps,rfl,hF,hz,fun t=>iteT ?_,fun t=>iteF (hN fun z=>t z.1)⟩;have hm:=X7 (ps.map (·.1));have hl:=PN (ps.map (·.1));rw[ZA]at hl;refine⟨ps,rfl,by omega,Vo (ps.map (·.1)),ws,rfl,hm.1,by omega,hw,?_⟩;show R (.sh (.bl ((ws.filter (J9 (Vo (ps.map (·.1))))).map prD).isEmpty));by_cases c:∀q∈ws,J9 (Vo (ps.map (·.1))) q=false
  ·have e:ws.filter (J9 (Vo (ps.map (·.1))))=[]:=Qf.mpr fun q hq z=>by rw[c q hq]at z;cases z
   rw[e];exact hT ⟨t,c⟩
  ·have e:ws.filter (J9 (Vo (ps.map (·.1))))≠[]:=fun z=>c fun q hq=>by
    have:=Qf.mp z q hq
    cases h:J9 (Vo (ps.map (·.1))) q
    ·rfl
    ·exact absurd h this
   have e2:((ws.filter (J9 (Vo (ps.map (·.1))))).map prD).isEmpty=false:=by
    rw[List.isEmpty_eq_false_iff];exact fun z=>e (List.map_eq_nil_iff.mp z)
   rw[e2];exact hN fun z=>c z.2
def AL(G:Glob K mg)(DD:Def K mg "_law_strips" K9 ["_law_script","_law_menu_here","_law_many"])(Zc:XC P w K mg base)(Zd:P5 P w K mg base)
  : Su P w K mg base:=by
 refine DD.oz (k:=2) UX (fun _ _ _ _ _ _ E hr=>⟨_,(Vc (Pu.pz 3 UX.nd (Vz VB)) (Vc (VP Yj rfl (J7 rfl G.range (az (pv 2))) (gz 4 UX.nd) (Vc (Pu.pz 5 UX.nd (fz Zc hr (bz (pv 0) (Vf V5 Va (pv 4))))) (Vc (Pu.pz 6 UX.nd (Vf V5 (jx K (pv 1) Va) (Vf VD (Vf Ju (pv 5) (jx K (pv 1) Va)) (jx K (pv 1) Va)))) (Ve (Ji (JY Yt Y9 YA JV (pv 3) (az (Jy (bz (fz Zd hr (bz (pv 1) (Vf VD (pv 5) (jx K (pv 1) Va)))) (pv 6)))))))))) (Ve (Vk (pv 3))))), (Vd (Vg (V1 VS) (Vb 3)) (Vd (VO [4,5,6] (J2 (sz (QY 2))) (Vb 4) (Vd (Vg (Vj (tz (QY 0) (V4 QZ (QY 4)))) (Vb 5)) (Vd (Vg (V4 (Vh (QY 1) QZ) (VC (Jv (QY 5) (Vh (QY 1) QZ)) (Vh (QY 1) QZ))) (Vb 6)) (Vy 6 (Um 3 (Jx (tz (Vj (tz (QY 1) (VC (QY 5) (Vh (QY 1) QZ)))) (QY 6)))))))) (Ue 3)))⟩) (.a fun ds R X h=>?_)
 ·obtain⟨ns,m,n,rfl,hM,h0,h1,hR⟩:=h;refine⟨rfl,?_⟩;have hMM:=hM;obtain⟨a,b,c,d,e,rfl,ha,hb,hc,hd,he⟩:=hM;refine⟨by simp,⟨by omega,by omega⟩,JO (fun i γ'=>∃ps:List (Int×Int),γ'=[some (.bor (.scr ns)),some (.bor (.lst (([a,b,c,d,e]:List Int).map D.int))),some (.sh (.int n)),some (.own (ps.map prD)),none,none,none]/\Field ps/\ps.length=i) ⟨[],rfl,(fun q hq=>by cases hq),rfl⟩ ?_ ?_⟩
  ·rintro i γ' hi ⟨ps,rfl,hF,hl⟩;have hlm:(ps.map prD).length=ps.length:=ZA ..;have hi':i<n.toNat:=hi;refine⟨ns,_,rfl,by omega,fun v=>?_⟩;have q1:=Qw (v / a) (show d≠0 by omega);have q2:=WT (v / a) (show 0<d by omega);refine⟨_,rfl,_,rfl,⟨by omega,by omega⟩,_,rfl,(by show 0<d;omega),_,rfl,(by show 0<a;omega),[a,b,c,d,e],_,rfl,hMM,fun h l1 l2 _=>⟨by simp,by omega,ps++[(h,e+v / a % d)],?_,fun q hq=>?_,by rw[ZS,hl];rfl⟩⟩
   ·rw[Yq];rfl
   ·rcases ZY.mp hq with hq|hq
    ·exact hF q hq
    ·rw[ZE]at hq;subst hq;exact⟨l1,l2,by show 1<=e+v / a % d;omega,by show e+v / a % d<=1000;omega⟩
  ·rintro γ' ⟨ps,rfl,hF,hl⟩;exact hR ps hF hl
def GW(G:Glob K mg)(DD:Def K mg "_law_wishes" Pz ["_law_script","_law_menu_here"])(Zc:XC P w K mg base)(Zd:P5 P w K mg base)
  : F5 P w K mg base:=by
 refine DD.oz (k:=2) J1 (fun _ _ _ _ _ _ E hr=>⟨_,(Vc (Pu.pz 2 J1.nd (fz Zc hr (bz (pv 0) Va))) (Vc (Pu.pz 3 J1.nd (jx K (Vz (bz Va (VT (Dk rfl) (by rfl) G.max boot_max (bz Va (jx K (pv 1) Va))))) (Vf VD (Vf Ju (pv 2) Va) Va))) (Vc (Pu.pz 4 J1.nd (Vz VB)) (Vc (VP Yj rfl (J7 rfl G.range (az (Vf VD (pv 2) Va))) (gz 5 J1.nd) (Vc (Pu.pz 6 J1.nd (fz Zc hr (bz (pv 0) (Vf V5 Va (pv 5))))) (Vc (Pu.pz 7 J1.nd (Vf VD (pv 6) (pv 3))) (Vc (Pu.pz 8 J1.nd (Vf VD (Vf V5 (Vf V5 (pv 7) Va) (Vf VD (Vf Ju (pv 6) (pv 3)) (Vf JB (pv 3) Va))) (pv 3))) (Td (V2 (PW.pt (JL (Vv U0 (Vf VD (Vf Ju (pv 2) Va) Va) Va (VF _)) (JX (Vv U0 (pv 7) (pv 8) (VF _))))) (Ve (AO (i:=7) (j:=8) rfl J1.nd rfl rfl (by decide) rfl rfl (bz (pv 8) (pv 7)) (by rfl)))
   V9) (Vc (Pu.pz 9 J1.nd (Jy (bz (fz Zd hr (bz (pv 1) (pv 7))) (fz Zd hr (bz (pv 1) (pv 8)))))) (Ve (V2 (Vv (UI (K:=K) (show _<cLine from Vx hr)) (pv 9) (pv 4) (by with_unfolding_all rfl)) (Ve (Ji (JY Yt Y9 YA JV (pv 4) (az (pv 9)))))
   V9)))))))) (Ve (Vk (pv 4))))))), (Vd (Vg (Vj (tz (QY 0) QZ)) (Vb 2)) (Vd (Vg (Vh (V1 (tz QZ (Eg (tz QZ (Vh (QY 1) QZ))))) (VC (Jv (QY 2) QZ) QZ)) (Vb 3)) (Vd (Vg (V1 VS) (Vb 4)) (Vd (VO [5,6,7,8,9] (J2 (sz (VC (QY 2) QZ))) (Vb 5) (Vd (Vg (Vj (tz (QY 0) (V4 QZ (QY 5)))) (Vb 6)) (Vd (Vg (VC (QY 6) (QY 3)) (Vb 7)) (Vd (Vg (VC (V4 (V4 (QY 7) QZ) (VC (Jv (QY 6) (QY 3)) (JC (QY 3) QZ))) (QY 3)) (Vb 8)) (PX (V3 (JH (Vn (U8 (VC (Jv (QY 2) QZ) QZ) QZ)) (Vn (U8 (QY 7) (QY 8)))) (Vy 7 (Vy 8 (Hr (tz (QY 8) (QY 7))))) V6) (Vd (Vg (Jx (tz (Vj (tz (QY 1) (QY 7))) (Vj (tz (QY 1) (QY 8))))) (Vb 9)) (V3 (Vn (Jf (QY 9) (QY 4))) (Vy 9 (Um 4 (QY 9))) V6))))))) (Ue 4)))))⟩) (.a fun ds R X h=>?_)
 ·obtain⟨ns,m,rfl,hM,hR⟩:=h;refine⟨rfl,?_⟩;have hMM:=hM;obtain⟨a,b,c,d,e,rfl,ha,hb,hc,hd,he⟩:=hM;refine⟨ns,1,rfl,by decide,fun how=>?_⟩
  have hpool:∃p:Int,atI [D.int 10,.int (if a>2 then a else 2)] (how / 63 % 2)=some (.int p)/\2<=p/\p<=10:=by
   have:how / 63 % 2=0\/how / 63 % 2=1:=by omega
   rcases this with e|e<;>rw[e]
   ·exact⟨10,rfl,by decide,by decide⟩
   ·exact⟨_,rfl,by split<;>omega,by split<;>omega⟩
  obtain⟨pool,ep,hp⟩:=hpool;refine⟨_,rfl,by simp,⟨by decide,by decide⟩,(by show(0:Int)<2;decide),_,ep,by simp,(by show(0:Int)<21;decide),⟨by omega,by omega⟩,JO (fun i γ'=>∃ws:List (Int×Int),γ'=[some (.bor (.scr ns)),some (.bor (.lst (([a,b,c,d,e]:List Int).map D.int))),some (.sh (.int how)),some (.sh (.int pool)),some (.own (ws.map prD)),none,none,none,none,none]/\UY ws/\ws.length<=i) ⟨[],rfl,En,ZG _⟩ ?_ ?_⟩
  ·rintro i γ' hi ⟨ws,rfl,hW,hl⟩;have hi':i<(how % 21).toNat:=hi;have hlm:(ws.map prD).length=ws.length:=ZA ..;refine⟨ns,_,rfl,by omega,fun cell=>?_⟩;refine⟨(by show 0<pool;omega),⟨by omega,by omega⟩,(by show 0<pool-1;omega),(by show 0<pool;omega),?_⟩
   have fit:(0<=cell % pool/\cell % pool<=9)/\(0<=(cell % pool+1+cell / pool % (pool-1)) % pool/\(cell % pool+1+cell / pool % (pool-1)) % pool<=9)/\cell % pool≠(cell % pool+1+cell / pool % (pool-1)) % pool:=by
    have g1:=Qw cell (show pool≠0 by omega);have g2:=WT cell (show 0<pool by omega);have g3:=Qw (cell / pool) (show pool-1≠0 by omega);have g4:=WT (cell / pool) (show 0<pool-1 by omega);obtain⟨⟨k1,k2⟩,k3⟩:=two_ne ⟨g1,g2⟩ ⟨g3,g4⟩;exact⟨⟨g1,by omega⟩,⟨k1,by omega⟩,k3⟩
   refine Te (fun γ'=>∃(o t:Int) (t1 t2:Option S),((0<=o/\o<=9)/\(0<=t/\t<=9)/\o≠t)/\γ'=[some (.bor (.scr ns)),some (.bor (.lst (([a,b,c,d,e]:List Int).map D.int))),some (.sh (.int how)),some (.sh (.int pool)),some (.own (ws.map prD)),t1,t2,some (.sh (.int o)),some (.sh (.int t)),none]) ?_ ?_
   ·refine⟨⟨by decide,by decide⟩,(by show(0:Int)<3;decide),ite2 (fun _=>ite2 (fun _=>?_) (fun _=>?_)) (fun _=>iteF ?_)⟩
    ·exact⟨_,_,_,_,⟨fit.2.1,fit.1,fun z=>fit.2.2 z.symm⟩,rfl⟩
    ·exact⟨_,_,_,_,fit,rfl⟩
    ·exact⟨_,_,_,_,fit,rfl⟩
   ·rintro γ' ⟨o,t,t1,t2,hot,rfl⟩;refine⟨_,_,rfl,hMM,fun h1 l1 l2 e1=>⟨_,_,rfl,hMM,fun h2 l3 l4 e2=>?_⟩⟩;have b3:=FQ hMM hot.1 hot.2.1 hot.2.2;refine⟨by simp,_,.lp (h1,h2) ws,ite2 (fun g=>?_) (fun g=>?_)⟩
    ·have g':(h1,h2)∉ws:=fun z=>by rw[ZK rfl,ZJ z]at g;cases g
     refine⟨by omega,ws++[(h1,h2)],?_,Hj hW (HG ⟨l1,l2⟩ ⟨l3,l4⟩ (by rw[e1,e2];exact b3) g' (by omega)),?_⟩
     ·rw[Yq];rfl
     ·rw[ZS,Wf];omega
    ·exact⟨ws,rfl,hW,by omega⟩
  ·rintro γ' ⟨ws,rfl,hW,hl⟩;exact hR ws hW
def Dd(G:Glob K mg)(DD:Def K mg "check_no_ring" KI ["strips","wishes"])(Zy:BL P w K mg base)(Ze:B4 P w K mg base)
  : SQ P w K mg base:=by
 refine DD.oz (k:=3) N8 (fun _ _ _ _ _ _ E hr=>⟨_,(Vc (Pu.pz 2 N8.nd (fz Zy hr (bz (fz Ze hr (az (pv 0))) (pv 1)))) (Ve (V2 (VX (K:=K) (pv 2)) (Ve AU)
   V9))), (Vd (Vg (Vj (tz (Vj (sz (QY 0))) (QY 1))) (Vb 2)) (V3 (VY (QY 2)) GM V6))⟩) (.a fun ds R X h=>?_)
 ·obtain⟨ps,ws,rfl,hF,hz,hu,hN,hR⟩:=h;refine⟨rfl,?_⟩;exact⟨ps,rfl,hF,hz,_,ws,rfl,ZU (Be ps) (by decide),fun l hl t=>GT hu hN hl _ t (ZG _),iteF (A:=False) hR⟩
def DF(G:Glob K mg)(DD:Def K mg "least_by_stands" Ta ["strips","wishes"])(Zg:K4 P w K mg base)(Zz:SQ P w K mg base)(Zh:Tc P w K mg base)(Z0:Bc P w K mg base)(Z1:F7 P w K mg base)
  : Ko P w K mg base:=by
 refine DD.ox (k:=4) N5 (fun _ _ _ _ _ _ E hr=>⟨_,(Vc (Ji (UQ Zg (hr.mono (by decide)) ExcR.Pl (az (pv 0)))) (Vc (Ji (fz Zz hr (bz (pv 0) (pv 1)))) (Vc (Pu.pz 2 N5.nd (UQ Zh (hr.mono (by decide)) ExcR.Pl (az (pv 0)))) (Ve (Vk (VT (NI (K:=K) rfl) (by rfl) G.min boot_min (az (Jw (N':=["stand","cost","wishes","strips"]) (φ:=[none,none,some 1,some 0]) rfl (Own.CompOk.of (by rfl)) (VE (K:=K) (pv 2)) (fun _ _ _ _ _=>⟨(JS (K:=K) (n:=2) rfl (VU (gz 0 (show(["stand","cost","wishes","strips"]:List Str).Nodup from by decide +kernel)) (VU (gz 1 (show(["stand","cost","wishes","strips"]:List Str).Nodup from by decide +kernel)) Ua))),(Jn (VX (K:=K) (fz Z0 hr (bz (fz Z1 hr (bz (pv 3) (pv 0))) (pv 2))))),(pv 1)⟩))))))))), (Vd (Xg (KZ (sz (QY 0)))) (Vd (Xg (Vj (tz (QY 0) (QY 1)))) (Vd (Vg (KZ (sz (QY 0))) (Vb 2)) (Vs (Tn (sz (VL (Jz (QY 2)) (Uh (Jc (Vb 0) (Jc (Vb 1) Ui))) (VY (Vj (tz (Vj (tz (QY 3) (QY 0))) (QY 2)))) (QY 1))))))))⟩) (.a fun ds R X h=>?_)
 ·obtain⟨ps,ws,rfl,hF,hR⟩:=h;refine⟨rfl,?_⟩;by_cases hz:ps.length<=7
  ·have es:J8 ps=none:=ZI (by omega);rw[es]at hR;obtain⟨hw,hu,hN,⟨r0,hp0,hk0⟩,hR⟩:=hR;refine⟨ps,rfl,?_⟩;rw[es];refine⟨ps,ws,rfl,hF,by omega,hu,hN,?_⟩;refine⟨ps,rfl,hF,?_⟩;rw[es];have hlen:=A0 hz;refine Jd (xs:=VQ ps ps.length) (emb:=stD) (fun q=>if Ur (fldS ps q.1) ws=true then some (D.int q.2)else none) (by omega) (fun q hq=>?_) ?_
   ·obtain⟨h1,h2⟩:=stands_mem.mp hq;have hin:∀z∈q.1,1<=z/\z<=ps.length:=fun z hz=>run_mem.mp (h1.mem_iff.mp hz);have hql:q.1.length=ps.length:=by rw[h1.length_eq,JK]
    refine⟨rfl,ps,q.1,rfl,by omega,hin,fldS ps q.1,ws,rfl,Ae hF hin,?_,hw,fun c=>?_,fun c=>?_⟩
    ·show(q.1.map fun z=>atP1 ps z).length<=50;rw[ZA];omega
    ·exact iteT ⟨_,rfl,ZK (keepB_iff.mpr c)⟩
    ·exact iteF (ZI fun z=>c (keepB_iff.mp z))
   rw[Jt (fun q:List Int×Int=>Ur (fldS ps q.1) ws) (fun q:List Int×Int=>D.int q.2)];refine⟨((VQ ps ps.length).filter fun q:List Int×Int=>Ur (fldS ps q.1) ws).map (·.2),by rw[Yx];rfl,?_,fun m hm hmin=>hR m ⟨?_,fun r h1 h2=>?_⟩⟩
   ·rw[ZA];refine W5 (a:=(r0,invM ps r0)) ?_;exact ZV.mpr ⟨stands_mem.mpr ⟨hp0,rfl⟩,keepB_iff.mpr hk0⟩
   ·obtain⟨q,hq,rfl⟩:=Yd.mp hm;obtain⟨h1,h2⟩:=ZV.mp hq;obtain⟨h3,h4⟩:=stands_mem.mp h1;exact⟨q.1,h3,keepB_iff.mp h2,h4.symm⟩
   ·exact hmin _ (Yd.mpr ⟨(r,invM ps r),ZV.mpr ⟨stands_mem.mpr ⟨h1,rfl⟩,keepB_iff.mpr h2⟩,rfl⟩)
  ·have es:J8 ps=some "TooManyStands":=ZK (by omega);rw[es]at hR;refine⟨ps,rfl,?_⟩;rw[es];exact hR
def Gb(G:Glob K mg)(DD:Def K mg "_law_too_many" Kx ["_law_which","_law_strips_here","_law_wishes_here"])(Zh:Tc P w K mg base)(Zi:Ko P w K mg base)
  : BS P w K mg base:=by
 refine DD.oz (k:=5) UA (fun _ _ _ _ _ _ E hr=>⟨_,(Vc (Pu.pz 3 UA.nd (Vz VB)) (Td (ExcR.DK (fun pins D=>(Ve (V2 (cq K hr (pv 0) Va) (Ve (Ji (ExcR.Bi Zh (hr.mono (by decide)) (ExcR.BN (pins:=pins) (D:=D) (i:=4) rfl rfl UA.nd rfl rfl rfl G.m_TooManyStands (by decide) (fun a=>(Ve (Pu.pz 3 UA.nd (Vz (bz (VT (ExcR.Xx (K:=K)) (by rfl) G.isinstance YR (bz (pv 4) (ExcR.Bp G.m_MeldError))) (VT (ExcR.Xx (K:=K)) (by rfl) G.isinstance YR (bz (pv 4) (UK (v:=.ty "ValueError") rfl G.ValueError (by decide +kernel) rfl))))))))) (az (pv 1))))) (Ve (Ji (ExcR.Bi Zi (hr.mono (by decide)) (ExcR.BN (pins:=pins) (D:=D) (i:=4) rfl rfl UA.nd rfl rfl rfl G.m_TooManyStands (by decide) (fun a=>(Ve (Pu.pz 3 UA.nd (Vz (bz (VT (ExcR.Xx (K:=K)) (by rfl) G.isinstance YR (bz (pv 4) (ExcR.Bp G.m_MeldError))) (VT (ExcR.Xx (K:=K)) (by rfl) G.isinstance YR (bz (pv 4) (UK (v:=.ty "ValueError") rfl G.ValueError (by decide +kernel) rfl))))))))) (bz (pv 1) (pv 2))))))))) (Ve (Vk (UN (Hi (K:=K) (show _<cLine from hr.units0)) (pv 3) (Vz (bz Jk Jk)) (VF _)))))), (Vd (Vg (V1 VS) (Vb 3)) (PX (Gv (E':=fun _=>E) ["TooManyStands"] (fun c hc=>by
    simp only[ZQ,WC,or_false]at hc;rcases hc with rfl
    ·exact⟨G.g_TooManyStands,G.x_TooManyStands_TooManyStands⟩)
    (fun D=>(V3 (Vn (Ug (QY 0) QZ)) (Xg (Fy (sz (QY 1)))) (Xg (Fy (tz (QY 1) (QY 2)))))) (Vg (V1 (tz (F2 (tz (QY 4) HD)) (F2 (tz (QY 4) Xp)))) (Vb 3))) (Vs (Dr (QY 3) (V1 (tz Jg Jg))))))⟩) (.a fun ds R X h=>?_)
 ·obtain⟨k,ps,ws,rfl,hF,hz,hR⟩:=h;refine⟨rfl,?_⟩;have es:J8 ps=some "TooManyStands":=ZK hz;refine⟨by simp,?_⟩;refine Te (fun γ'=>∃t:Option S,γ'=[some (.sh (.int k)),some (.bor (plD ps)),some (.bor (plD ws)),some (.own (.lst [.bl true,.bl true])),t]) ?_ ?_
  ·refine ite2 (fun g=>?_) (fun g=>?_)
   ·refine⟨ps,rfl,hF,?_⟩;rw[es];exact⟨by simp,_,G.g_TooManyStands,G.k_TooManyStands_MeldError,_,G.g_TooManyStands,G.k_TooManyStands_ValueError,by simp,_,rfl⟩
   ·refine⟨ps,ws,rfl,hF,?_⟩;rw[es];exact⟨by simp,_,G.g_TooManyStands,G.k_TooManyStands_MeldError,_,G.g_TooManyStands,G.k_TooManyStands_ValueError,by simp,_,rfl⟩
  ·rintro γ' ⟨t,rfl⟩;exact⟨by simp,[.bl true,.bl true],[.bl true,.bl true],rfl,rfl,rfl,rfl,hR⟩
def GB(G:Glob K mg)(DD:Def K mg "law" J4 ["_law_script"])(Z2:Nl P w K mg base)(Z3:Su P w K mg base)(Z4:F5 P w K mg base)(Zi:Ko P w K mg base)(Z5:NN P w K mg base)(Zc:XC P w K mg base)(Zf:Ky P w K mg base)(Zb:Km P w K mg base)(Z6:T9 P w K mg base)(Zj:BS P w K mg base)(Zk:Sm P w K mg base)(Z7:Sr P w K mg base)(Z8:N6 P w K mg base)
  : Hd P w K mg base:=by
 refine DD.oz (k:=6) Jq (fun _ _ _ _ _ _ E hr=>⟨_,(Vc (Pu.pz 1 Jq.nd (fz Z2 hr (az (fz Zc hr (bz (pv 0) Va))))) (Vc (Pu.pz 2 Jq.nd (Vf VD (Vf Ju (fz Zb hr (bz (pv 0) Va)) Va) Va)) (Td (V2 (cq K hr (pv 2) Va) (Vc (Pu.pz 3 Jq.nd (Vf Ju (fz Zb hr (bz (pv 0) Va)) Va)) (Ve (Pu.pz 2 Jq.nd (Vf V5 Va (jx K (Vz (bz Va (Vf VD (Vf Ju (pv 3) Va) Va))) (Vf VD (pv 3) Va))))))
   V9) (Vc (Pu.pz 4 Jq.nd (fz Z3 hr (dz (pv 0) (pv 1) (pv 2)))) (Vc (Pu.pz 5 Jq.nd (fz Z4 hr (bz (pv 0) (pv 1)))) (Vc (Kp Yj (PW.pt (JL (Vv Us (pv 2) Va (VF _)) (JX (JR (VX (K:=K) (fz Z6 hr (bz (fz Z8 hr (az (pv 4))) (pv 5)))))))) (Ve (Ji (Al Yt PySem.F.slot_list_pop PySem.F.type_list_pop CO (pv 5))))) (Vc (Pu.pz 6 Jq.nd (UF (PP (K:=K)) (by rfl) G.list boot_list (az (pv 4)))) (Vc (Pu.pz 7 Jq.nd (UF (PP (K:=K)) (by rfl) G.list boot_list (az (pv 5)))) (Vc (V2 (Vv U0 (pv 2) Va (VF _)) (Ve (Vk (X3 (fz Zj hr (dz Va (pv 6) (pv 7))) (Xb (fz Zj hr (dz Va (pv 6) (pv 7)))))))
   V9) (Vc (Pu.pz 8 Jq.nd (UQ Zi (hr.mono (by decide)) HJ (bz (pv 6) (pv 7)))) (Vc (V2 (PW.pt (U4 (JR (VX (K:=K) (fz Zk hr (bz (pv 6) (pv 4))))) (UC (JR (VX (K:=K) (fz Zk hr (bz (pv 7) (pv 5)))))))) (Ve (Vk Jk))
   V9) (Vc (Pu.pz 9 Jq.nd (fz Z5 hr (az (pv 4)))) (Vc (JW (N':=["_law_stand","_law_prices","_law_strips_here","_law_wishes_here"]) (φ:=[none,some 9,some 4,some 5]) (i:=10) Jq.nd rfl rfl rfl (Own.CompOk.of (by rfl)) (D4 (pv 9)) (fun _ _ _ _ _=>⟨(gz 0 (show(["_law_stand","_law_prices","_law_strips_here","_law_wishes_here"]:List Str).Nodup from by decide +kernel)),(Jn (VX (K:=K) (fz Z7 hr (dz (pv 0) (pv 2) (pv 3))))),(UV (Vx hr) (pv 1) (pv 0) (fun _ _=>rfl))⟩)) (Ve (Vk (X3 (fz Zf hr (az (pv 8))) (Xb (UN (X0 (K:=K) (show _<cLine from hr.units0)) (pv 8) (VT (NI (K:=K) rfl) (by rfl) G.min boot_min (az (pv 10))) (VF _))))))))))))))))))), (Vd (Vg (Vj (sz (Vj (tz (QY 0) QZ)))) (Vb 1)) (Vd (Vg (VC (Jv (Vj (tz (QY 0) QZ)) QZ) QZ) (Vb 2)) (PX (V3 (Vn (Ug (QY 2) QZ)) (Vd (Vg (Jv (Vj (tz (QY 0) QZ)) QZ) (Vb 3)) (Vg (V4 QZ (Vh (V1 (tz QZ (VC (Jv (QY 3) QZ) QZ))) (VC (QY 3) QZ))) (Vb 2))) V6) (Vd (Vg (Vj (uz (QY 0) (QY 1) (QY 2))) (Vb 4)) (Vd (Vg (Vj (tz (QY 0) (QY 1))) (Vb 5)) (Vd (KM [] (JH (Vn (U9 (QY 2) QZ)) (JN (VY (Vj (tz (Vj (sz (QY 4))) (QY 5)))))) (EM (Gs 5))) (Vd (Vg (Kw (sz (QY 4))) (Vb 6)) (Vd (Vg (Kw (sz (QY 5))) (Vb 7)) (Vd (V3 (Vn (U8 (QY 2) QZ)) (Vs (XQ (Vj (uz QZ (QY 6) (QY 7))) (Vj (uz QZ (QY 6) (QY 7))))) V6) (Vd (Vg (Vj (tz (QY 6) (QY 7))) (Vb 8)) (Vd (V3 (Uu (JN (VY (Vj (tz (QY 6) (QY 4))))) (JN (VY (Vj (tz (QY 7) (QY 5)))))) (Vs Jg) V6) (Vd (Vg (Vj (sz (QY 4))) (Vb 9)) (Vd (Vg (VL (SndI.c (CA (QY 9))) (Vb 0) (VY (Vj (uz (QY 0) (QY 2) (QY 3)))) (GA (QY 1) (QY 0))) (Vb 10)) (Vs (XQ (Vj (sz (QY 8))) (Ug (QY 8) (Tn (sz (QY 10)))))))))))))))))))⟩) (.a fun ds R X h=>?_)
 ·obtain⟨ns,rfl,hR⟩:=h;refine⟨rfl,?_⟩;refine⟨ns,0,rfl,by decide,fun c0=>⟨c0,rfl,fun m hM=>?_⟩⟩;refine⟨ns,0,rfl,by decide,fun a0=>⟨⟨by decide,by decide⟩,(by show(0:Int)<8;decide),?_⟩⟩;refine Te (fun γ'=>∃(n:Int) (z:Option S),0<=n/\n<=40/\γ'=[some (.bor (.scr ns)),some (.own (m.map D.int)),some (.sh (.int n)),z,none,none,none,none,none,none,none]) ?_ ?_
  ·refine ite2 (fun g=>?_) (fun g=>⟨a0 / 2 % 8,_,by omega,by omega,rfl⟩)
   ·refine⟨ns,0,rfl,by decide,fun v=>⟨⟨by decide,by decide⟩,?_⟩⟩;refine⟨⟨by decide,by decide⟩,(by show(0:Int)<33;decide),by simp,(by show(0:Int)<2;decide),?_⟩;have h2:v / 16 % 2=0\/v / 16 % 2=1:=by omega
    rcases h2 with h2|h2
    ·refine⟨.int 0,?_,8+0,_,by decide,by decide,rfl⟩;show atI [D.int 0,D.int (v / 16 / 2 % 33)] (v / 16 % 2)=_;rw[h2];rfl
    ·refine⟨.int (v / 16 / 2 % 33),?_,8+v / 16 / 2 % 33,_,by omega,by omega,rfl⟩;show atI [D.int 0,D.int (v / 16 / 2 % 33)] (v / 16 % 2)=_;rw[h2];rfl
  ·rintro γ' ⟨n,z,hn0,hn4,rfl⟩;refine⟨ns,m,n,rfl,hM,hn0,by omega,fun ps hF hlen=>?_⟩;refine⟨ns,m,rfl,hM,fun ws0 hW=>?_⟩;have hW1:=hW.1;refine KY (fun γ'=>∃ws:List (Int×Int),γ'=[some (.bor (.scr ns)),some (.own (m.map D.int)),some (.sh (.int n)),z,some (.own (ps.map prD)),some (.own (ws.map prD)),none,none,none,none,none]/\ws.Sublist ws0) (PB 5) ⟨ws0,rfl,List.Sublist.refl _⟩ ?_;rintro γ' ⟨ws,rfl,hsub⟩;have hwl:=hsub.length_le;have hu:∀q∈ws,q.1≠q.2:=fun q hq=>(hW.2.2 q (hsub.subset hq)).2;have lw:(ws.map prD).length=ws.length:=ZA ..;by_cases h8:n<8
   ·have hz:ps.length<=7:=by omega
    have hhl:(Vq ps).length<=50:=ZU (Be ps) (by decide);have es:J8 ps=none:=ZI (by omega);refine ite2 (fun g=>?_) (fun g=>absurd (ZJ h8) g);refine⟨ps,rfl,by omega,Vq ps,ws,rfl,hhl,by omega,ite2 (fun g=>?_) (fun g=>?_)⟩
    ·have g':¬Vp ws (Vq ps) (Vq ps).length=[]:=fun z=>by rw[ZJ z]at g;cases g
     have hne:ws≠[]:=fun z=>g' (by
      subst z
      exact(Bk hu).mpr fun⟨r,R⟩=>by
       obtain⟨x,hx⟩:∃x,r[0]?=some x:=⟨_,ZC (by have:=R.two;omega)⟩;obtain⟨y,hy⟩:∃y,r[1]?=some y:=⟨_,ZC (by have:=R.two;omega)⟩;exact absurd (R.chain 0 x y hx hy) (by simp))
     have hpos:0<ws.length:=Qy.mpr hne;refine⟨_,ZC (by omega),⟨ws.dropLast,?_,(List.dropLast_sublist ws).trans hsub⟩,?_⟩
     ·rw[List.map_dropLast];rfl
     ·show(ws.map prD).dropLast.length<(ws.map prD).length;rw[List.length_dropLast];omega
    ·have g':Vp ws (Vq ps) (Vq ps).length=[]:=by
      by_cases z:Vp ws (Vq ps) (Vq ps).length=[]
      ·exact z
      ·exact absurd (by rw[ZR z];rfl) g
     have hN:¬ ∃r,Ring (Vq ps) ws r:=(Bk hu).mp g';refine⟨rfl,rfl,ite2 (fun g2=>?_) (fun g2=>?_)⟩
     ·have:=ZX g2
      omega
     refine⟨ps,ws,rfl,hF,?_⟩;rw[es];refine⟨by omega,hu,hN,HR hF hu hN,fun mm hL=>?_⟩;refine⟨ps,rfl,by omega,iteF ⟨ws,rfl,by omega,iteF ?_⟩⟩;refine⟨ps,rfl,hF,hz,fun q nd hq5 hq=>?_⟩;refine⟨_,rfl,?_⟩
     have ek:(q.map (entC ps)).map keyT=q.map tD:=by
      rw[Yx];refine Qz fun r _=>?_;show D.tup ((kT r).map kD)=tD r;unfold kT tD;rw[Yx];rfl
     show CompW _ _ _ _ _ ((q.map (entC ps)).map keyT).length (fun i=>(S.sh .non).sub (((q.map (entC ps)).map keyT).getD i .non)) _;rw[ek];refine Jd (s:=.sh .non) (xs:=q) (emb:=tD) (fun r=>if Ur (fldS ps r) ws=true then some (D.int (invM ps r))else none) (by omega) (fun r hr=>?_) ?_
     ·have hp:=(hq r).mp hr;have hrl:r.length=ps.length:=by rw[hp.length_eq,JK]
      have hv:=Fx (ps:=ps) nd r;rw[ZK hr]at hv;refine⟨ps,ws,r,rfl,by omega,fun z hz=>run_mem.mp (hp.mem_iff.mp hz),fun c=>iteT ?_,fun c=>iteF (ZI fun z=>c (keepB_iff.mp z))⟩;exact⟨_,_,_,rfl,Ud _,hv,rfl,_,rfl,ZK (keepB_iff.mpr c)⟩
     rw[Jt (fun r:List Int=>Ur (fldS ps r) ws) (fun r:List Int=>D.int (invM ps r))];refine⟨mm,rfl,iteT ?_⟩;obtain⟨⟨r0,p0,k0,e0⟩,hle⟩:=hL;refine⟨(q.filter fun r:List Int=>Ur (fldS ps r) ws).map (invM ps),by rw[Yx];rfl,?_,fun M hM hmin=>?_⟩
     ·rw[ZA];exact W5 (ZV.mpr ⟨(hq r0).mpr p0,keepB_iff.mpr k0⟩)
     ·have e:mm=M:=by
       obtain⟨r,hr,er⟩:=Yd.mp hM;obtain⟨h1,h2⟩:=ZV.mp hr;have a1:=hle r ((hq r).mp h1) (keepB_iff.mp h2);have a2:=hmin (invM ps r0) (Yd.mpr ⟨r0,ZV.mpr ⟨(hq r0).mpr p0,keepB_iff.mpr k0⟩,rfl⟩);omega
      subst e;show R (.sh (.bl (decide (mm=mm))));rw[ZJ rfl];exact hR
   ·refine ite2 (fun g=>absurd (ZX g) h8) (fun g=>iteF ?_);refine⟨rfl,rfl,ite2 (fun g2=>?_) (fun g2=>absurd (ZJ (show(7:Int)<n by omega)) g2)⟩;exact⟨0,ps,ws,rfl,hF,by omega,iteT ⟨1,ps,ws,rfl,hF,by omega,hR⟩⟩
end
end T
namespace T
open PySem PySem.Spec PyProof.Rows L2 Own M
def D9{l:PySem.W.OpenLaw}{w:World}{K:Za}{h:Heap}{mg:Str->Option Value}{fa:Addr}(X:K.In h)(G0:h.Ns mainGlobals mg)(hfa:mg "law"=some (.ref fa))(a0:Pu.DI K "holders_of" KB)(a1:Pu.DI K "begins_run" PQ)(a2:Pu.DI K "lies_together" KO)(a3:Pu.DI K "own_numbers" PH)(a4:Pu.DI K "broken_wishes" Pi)(a5:Pu.DI K "longer_paths" PM)(a6:Pu.DI K "ring_from" Th)(a7:Pu.DI K "find_ring" KU)(a8:Pu.DI K "check_no_ring" KI)(a9:Pu.DI K "check_small" Ti)(a10:Pu.DI K "cost_to_come_next" P3)(a11:Pu.DI K "longer_stands" KS)(a12:Pu.DI K "all_stands" Pv)(a13:Pu.DI K "holders_from_left" KP)(a14:Pu.DI K "is_melded" PZ)(a15:Pu.DI K "field_of_stand" Ki)(a16:Pu.DI K "least_by_stands" Ta)(a17:Pu.DI K "_law_at" Pd)(a18:Pu.DI K "_law_whole" KF)(a19:Pu.DI K "_law_mix" Kn)(a20:Pu.DI K "_law_draw" KC)(a21:Pu.DI K "_law_menu" Kr)(a22:Pu.DI K "_law_holder" Py)(a23:Pu.DI K "_law_strips" K9)(a24:Pu.DI K "_law_wishes" Pz)(a25:Pu.DI K "_law_tuples" Tf)(a26:Pu.DI K "_law_present" P8)(a27:Pu.DI K "_law_together" K6)(a28:Pu.DI K "_law_kept" KR)(a29:Pu.DI K "_law_no_ring" KQ)(a30:Pu.DI K "_law_swapped" Pa)(a31:Pu.DI K "_law_stand_keeps" Pq)(a32:Pu.DI K "_law_come_to" KH)(a33:Pu.DI K "_law_too_many" Kx){f34:Addr}{od34 an34:Option Addr}{sl34:Array (Option Value)}{oc34 kV34 dc34 pm34 cd34 ct34:Value}(a34:PySem.W.nsIn K mainGlobals "law"=some (some (.ref f34)))(l34:K.lookup f34=some ⟨oc34,od34,.func (PySem.W.fnOf "law" "law" (JJ J4) (VZ J4) (Vi J4) .none kV34 dc34 pm34 an34 cd34 ct34),sl34⟩)(c34:PySem.W.codeIn K cd34 "law"=true)(k34:PySem.W.keepIn K (.ref f34)=true)(QE:PySem.W.nsIn K mainGlobals "ValueError"=some none)(QF:PySem.W.nsIn K mainGlobals "bool"=some none)(QG:PySem.W.nsIn K mainGlobals "enumerate"=some none)(QH:PySem.W.nsIn K mainGlobals "int"=some none)(QI:PySem.W.nsIn K mainGlobals "isinstance"=some none)(QJ:PySem.W.nsIn K mainGlobals "len"=some none)(QK:PySem.W.nsIn K mainGlobals "list"=some none)(QL:PySem.W.nsIn K mainGlobals "max"=some none)(QM:PySem.W.nsIn K mainGlobals "min"=some none)(QN:PySem.W.nsIn K mainGlobals "range"=some none)(QO:PySem.W.nsIn K mainGlobals "set"=some none)(QP:PySem.W.nsIn K mainGlobals "sorted"=some none)(QR:PySem.W.nsIn K mainGlobals "sum"=some none)(QS:PySem.W.nsIn K mainGlobals "tuple"=some none){QW:Tok}(QT:PySem.W.nsIn K mainGlobals "SMALL"=some (some (.int 7 QW))){QV:Addr}(QB:Pu.EI K "MeldError" QV){QC:Addr}(QD:Pu.EI K "TooManyStands" QC)(x_TooManyStands_TooManyStands:PySem.W.exmOne K (.ref QC) (.ref QC)=some true)(k_TooManyStands_MeldError:PySem.W.kitOne K (.ref QC) (.ref QV)=some true)(k_TooManyStands_ValueError:PySem.W.kitOne K (.ref QC) (.type "ValueError")=some true)
  : ∃fd:FuncData,(∀(s:Shared) (v:Value),BindsTo s fd ⟨[v],[]⟩ [("_law_script",v)])/\∀base:Heap,K.In base->base.Ns mainGlobals mg->FnOk l.prog w K mg base CX0 7 fa fd ["_law_script"] (Pu.Px K):=by
 have e:=hfa.symm.trans (Wz X G0 a34);cases e
 have QX:=QB.c X G0;have QU:=QD.c X G0;have G:Glob K mg:=⟨Yr X G0 QE,Yr X G0 QF,Yr X G0 QG,Yr X G0 QH,Yr X G0 QI,Yr X G0 QJ,Yr X G0 QK,Yr X G0 QL,Yr X G0 QM,Yr X G0 QN,Yr X G0 QO,Yr X G0 QP,Yr X G0 QR,Yr X G0 QS,⟨_,Wz X G0 QT,⟨_,rfl⟩⟩,(QB.m X G0),(QB.k X G0),(QD.m X G0),(QD.k X G0),(by rw[QU];exact x_TooManyStands_TooManyStands),(by rw[QU,QX];exact k_TooManyStands_MeldError),(by rw[QU];exact k_TooManyStands_ValueError)⟩;have F34:=Tt (st:=J4) l34 c34 k34;have b34:=F34.binds (ps:=["_law_script"]) fun _ _ _ _ _ _ us hl=>by obtain⟨_,rfl⟩:=Pu.len1 hl;rfl
 have D34:Def K mg "law" J4 ["_law_script"]:=⟨_,_,F34,Wz X G0 a34,b34⟩;refine⟨PySem.W.fnOf "law" "law" (JJ J4) (VZ J4) (Vi J4) .none kV34 dc34 pm34 an34 cd34 ct34,fun s v=>.of_eq rfl,fun base _ _=>?_⟩;have C0:=@EA l.prog w K mg base G (a0.e X G0);have C1:=@FF l.prog w K mg base G (a1.e X G0);have C3:=@CD l.prog w K mg base G (a3.e X G0);have C4:=@AG l.prog w K mg base G (a4.e X G0);have C5:=@Aa l.prog w K mg base G (a5.e X G0);have C9:=@GL l.prog w K mg base G (a9.e X G0);have C10:=@Ej l.prog w K mg base G (a10.e X G0);have C13:=@Hs l.prog w K mg base G (a13.e X G0);have C15:=@F9 l.prog w K mg base G (a15.e X G0);have C17:=@Gm l.prog w K mg base G (a17.e X G0);have C18:=@Dg l.prog w K mg base G (a18.e X G0);have C19:=@CW l.prog w K mg base G (a19.e X G0);have C21:=@A7 l.prog w K mg base G (a21.e X G0);have C22:=@AZ l.prog w K mg base G (a22.e X G0);have C26:=@Gh l.prog w K mg base G (a26.e X G0);have C27:=@Ht l.prog w K mg base G (a27.e X G0);have C28:=@ED l.prog w K mg base G (a28.e X G0);have C29:=@AX l.prog w K mg base G (a29.e X G0);have C30:=@EG l.prog w K mg base G (a30.e X G0);have C2:=@Ck l.prog w K mg base G (a2.e X G0) C1 (T8 C0);have C6:=@Dz l.prog w K mg base G (a6.e X G0) C5;have C11:=@Ey l.prog w K mg base G (a11.e X G0) C3 C10;have C20:=@GX l.prog w K mg base G (a20.e X G0) C19 C17;have C25:=@Ac l.prog w K mg base G (a25.e X G0) C18;have C31:=@AS l.prog w K mg base G (a31.e X G0) C28 C27;have C32:=@Gf l.prog w K mg base G (a32.e X G0) C30;have C7:=@Ar l.prog w K mg base G (a7.e X G0) C6;have C12:=@He l.prog w K mg base G (a12.e X G0) C9 C11;have C14:=@Af l.prog w K mg base G (a14.e X G0) C2 C4 C13;have C23:=@AL l.prog w K mg base G (a23.e X G0) C20 C22;have C24:=@GW l.prog w K mg base G (a24.e X G0) C20 C22;have C8:=@Dd l.prog w K mg base G (a8.e X G0) C7 (T8 C0);have C16:=@DF l.prog w K mg base G (a16.e X G0) C9 C8 C12 C14 C15;have C33:=@Gb l.prog w K mg base G (a33.e X G0) C12 C16;have C34:=@GB l.prog w K mg base G D34 C21 C23 C24 C16 C32 C20 C18 C17 C29 C33 C25 C31 C26;exact(C34.at (Wz X G0 a34) F34 D34).imp fun _ _ _ _ z=>Pu.FL z
end T
structure PySem.W.Fast:Prop where (tw9681420171544306340 tw7366098541806935072 tw3596356561024653504 tw5934027287471874336 tw2802815839553843744 tw11146072357603811968 tw18219577173016461152 tw12781414529270708096 tw16546021671571878945 tw13412814872768892001 tw5945346484155560129 tw15513644374161150177 tw104622810193042145 tw10731576964886462273 tw6048471142099486657 tw1277525950229486658 tw1613203680609111170 tw3269817090078984450 tw13355551512167015682 tw6894022071965403458 tw10923624780502422946 tw6252174121892189762 tw858439275439452770 tw18222236093249636002 tw17335205966037998306 tw3916479687761138498 tw1371815690155087746 tw13813358289553531874 tw7886637780508433411 tw8653717185716245539 tw7322584067971295299 tw7636628109601584195 tw2494542747563100259 tw14717498970263903331 tw4428308342841340003 tw15602830503654119619 tw5332621798094236867 tw17685907710275011811 tw7902144462357022019 tw13778735328000786787 tw5267595499990100387 tw2472106267734722979 tw12648271087121847843 tw752732541140366947 tw7707730975885579939 tw8677165287087683395 tw2277291458024959811 tw7852420434283298852 tw8835557997026750660 tw18325383577676267844 tw11304631685915463012 tw14533452774988879428 tw4535961180915502692 tw3626025842818802628 tw7181825669388078117 tw15181842348219564197 tw381442968961298725 tw8487331737535663397 tw16299612064539507269 tw9899928646270101125 tw2981290808660209381 tw1507004763548812101 tw5620126390000589797 tw13723182065345295430 tw7808934144832105670 tw9024515507087326438 tw13252242015092862438 tw16882054924197403206 tw1273355542677277318 tw14262755331275366278 tw6684798477151581319 tw399313513530678407 tw8069581577356876039 tw6523413762323859911 tw13751977866062363143 tw11663883437926489927 tw9303654919155609415 tw16087833566489719016 tw883112418505074088 tw2599646478581221960 tw14315227717601402504 tw10868252574085611529 tw15763274282471395337 tw17148499971226158185 tw10041241101394651337 tw3594092902112497129 tw10951333882498118153 tw17426626282881889929 tw5834714956017198761 tw2845922391343994729 tw15433248581676161929 tw7546142506782108714 tw9325550403021732970 tw15708840841167593610 tw13036759614852106442 tw7618677157998503146 tw7138046897431383434 tw15128207231502551690 tw12251776123475208938 tw3093953495117967499 tw13135763178033137803 tw2913892593728774315 tw3417861854987944267 tw14858880414964023915 tw4910886519697022571 tw18128587212288138923 tw4534435748114384651 tw9571219353998794539 tw1002218258760101675 tw6695519684357125003 tw5573083880965382604 tw16903156515855236588 tw6495229258664525388 tw5985539539913113164 tw14953523362009827148 tw17293248718820876268 tw11498108276446273965 tw12163168827555954221 tw14464158467187679885 tw1054022423120432813 tw1300602465414980333 tw14387087900245260045 tw11553624973180821293 tw4541043352245139309 tw12693909683849789486 tw3805573416467344526 tw18026270744924019886 tw16903268298947718414 tw12435988486813732142 tw13473004664050402638 tw1842514293613871598 tw749705463034580494 tw14944787698023120558 tw6843939052563675886 tw18338907683577203534 tw16796540938694450223 tw16729429418889054287 tw13382218750071023727 tw12721265417313692815 tw2845396500325846191 tw14345729434434707695 tw8294271503322163439 tw9478965777263272335 tw12221663055841112495 tw8971922942566350255 tw2664909570192383567 tw1932100915546004143 tw12161270325777231759 tw13500093726040674320 tw5969467938793209936 tw12935811521535586416 tw2233944906759446736 tw851146030973278480 tw8814187730451870000 tw10973026765255416304 tw7843313316456446544 tw1734632104868993648 tw11532416580568801904 tw1768397115057523376 tw3984051168647229168 tw3119702033540991888 tw10295470589369943024 tw15797507863138947089 tw8886313790055517329 tw8806057835352589681 tw4072010786286938673 tw14106523671645805105 tw4465586291069200977 tw2838334191208398417 tw4649312256550219409 tw225860142242206385 tw3259138221722876657 tw17917213834157535153 tw14791101848978065426 tw7539950725680792850 tw10430260786455046450 tw9682168151272143250 tw14661732434905628050 tw322636634944516978 tw7175209801159137138 tw6380703564339732370 tw9762695100669847442 tw7295369433491824562 tw3709408160689087474 tw14901562894331465875 tw6393933073850596595 tw649846639924745555 tw14910034565600319827 tw15286871108999157619 tw884054875306518419 tw14345848823070953652 tw6483891193375134964 tw11963682261468908084 tw1302447867733553876 tw14075849323511039764 tw8829134175316938612 tw3308465031014666132 tw2106803681062816724 tw10834144546065737749 tw3310641877754981429 tw12668532700754492469 tw6776013566267991285 tw11035291727595260181 tw10562869674296361365 tw6440024987459360181 tw4036645833826640373 tw13086456333348112949 tw4385945418553658997 tw3848478732664615573 tw10404242889683568437 tw3131263325329965941 tw3512301932137863093 tw9650658167901254645 tw16758929773492355094 tw9494896081403384918 tw16442794698004809846 tw9707718446740184246 tw15295792525084769462 tw6084995198676341014 tw17097465869042156214 tw5578412436455448342 tw428625563217820470 tw10794528121038019478 tw12255052791242844567 tw3302234527987565335 tw11533047908267275223 tw3514677704210494488 tw10244402073618843704 tw2785098224953536664 tw14570200192530387160 tw9669486718289966680 tw15385684629404341976 tw12352042725877790456 tw13734931681127501688 tw16984940638439049112 tw16192442093693056920 tw5192282629069968312 tw16502347148077542457 tw2069008516113354809 tw6147159336277141561 tw2106748219222431833 tw7379744004453040633 tw8576723977047448217 tw6165977919350635289 tw14444305171427875898 tw8215235850604001370 tw17127151480417389690 tw14762401607503538394 tw11339009085498912058 tw740624295392931194 tw14176787727378079130 tw15027658032463277562 tw16886095911883572794 tw258914231257668186 tw12249134368049145594 tw4892349672859142106 tw3210858797643723899 tw2007536650521698459 tw5752127781750349115 tw14078044337128955195 tw139541181181490587 tw2644951213886528091 tw6755679844252528315 tw4066448874051028699 tw15334550441574416123 tw12897045196780891196 tw4065343481772542268 tw16996934275665747260 tw10285431664492544380 tw6395469682999999868 tw12303740205006078364 tw2721178736930327132 tw6145697558369552188 tw6645943199151167356 tw6711878695719404444 tw7897266069781202876 tw11753447857301629981 tw14147992263737498653 tw12155071985529526429 tw13173882939653341405 tw14020509198659095805 tw13017133605551684093 tw15065152803868599837 tw13346266241654186621 tw1535780391793785501 tw13261397505677164574 tw4144393319452751998 tw12337562293533280574 tw1032427415377663422 tw13259380254932451806 tw13657343529093879390 tw16983632778042365662 tw17818480117001656062 tw8971763495876226814 tw9399560097094278974 tw1960138776085013310 tw1198601641034993470 tw10680411557753128031 tw4745865577397323935 tw5921933526482837663 tw5397643081563174303 tw15656750420384380415:True)
open PySem PySem.W PyProof.Rows
set_option maxRecDepth 100000 in
set_option maxHeartbeats 0 in
theorem PySem.Challenge.cw_stripmeld_k18_least_by_stands_holds : PySem.Challenge.rw_stripmeld_k18_least_by_stands.Holds := by
 w_on;o_law;k_head;(case hw=>w_witness2)
 k_fill
 refine L2.Ci (l:=PySem.Challenge.rw_stripmeld_k18_least_by_stands) (n:=63) (k:=7) (x:="_law_script") (CX:=L2.CX0) (sp:=Pu.Px) rfl (by decide) rfl ⟨rfl,by decide,by decide⟩ (fun w h Y=>PySem.W.kIn_of Y) ?F ?S ?C
 case F=>
  intro w mg fa h KX G hmg
  refine' T.D9 KX G hmg ?a0 ?a1 ?a2 ?a3 ?a4 ?a5 ?a6 ?a7 ?a8 ?a9 ?a10 ?a11 ?a12 ?a13 ?a14 ?a15 ?a16 ?a17 ?a18 ?a19 ?a20 ?a21 ?a22 ?a23 ?a24 ?a25 ?a26 ?a27 ?a28 ?a29 ?a30 ?a31 ?a32 ?a33 ?a34 ?l34 ?c34 ?k34 ?QE ?QF ?QG ?QH ?QI ?QJ ?QK ?QL ?QM ?QN ?QO ?QP ?QR ?QS ?QT ?QB ?QD ?x_TooManyStands_TooManyStands ?k_TooManyStands_MeldError ?k_TooManyStands_ValueError
  (case a0|a1|a2|a3|a4|a5|a6|a7|a8|a9|a10|a11|a12|a13|a14|a15|a16|a17|a18|a19|a20|a21|a22|a23|a24|a25|a26|a27|a28|a29|a30|a31|a32|a33=>apply Pu.di<;>k_is)
  (case a34|l34|c34|k34|QE|QF|QG|QH|QI|QJ|QK|QL|QM|QN|QO|QP|QR|QS|QT=>k_is)
  (case QB|QD=>apply Pu.ei<;>first|(k_is;done)|k_exc)
  (case x_TooManyStands_TooManyStands=>kts_exm)
  (case k_TooManyStands_MeldError|k_TooManyStands_ValueError=>kit_is)
 case S=>exact fun K H a ns hl hO hS=>⟨a,ns,rfl,hS,fun _=>rfl⟩
 case C=>exact fun _ _ _ _ z=>z
