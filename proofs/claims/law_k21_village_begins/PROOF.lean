import PyProof.Rows.All
import Wide.All
import OpenK.AllK
import Wide.FinOn
import Lean
import PyProof.EqAt
import PyProof.EqKinds
import PyProof.TupleCall
import PySem.Challenge.RW_stripmeld_k21_village_begins
set_option Elab.async false
set_option linter.all false
set_option compiler.extract_closed false
set_option genSizeOf false
set_option maxRecDepth 100000
def bu_0(h:True:=by rfl):True:=h
def au_0:Lean.Syntax:=bu_0._auto_1
def bu_1(h:True:=by decide):True:=h
def au_1:Lean.Syntax:=bu_1._auto_1
def bu_2(h:True:=by first | exact .inl rfl | exact .inr rfl | assumption):True:=h
def au_2:Lean.Syntax:=bu_2._auto_1
def bu_3(h:True:=by intro _; rfl):True:=h
def au_3:Lean.Syntax:=bu_3._auto_1
def bu_4(h:True:=by first | exact Or.inl rfl | exact Or.inr (Or.inl rfl) | exact Or.inr (Or.inr rfl)):True:=h
def au_4:Lean.Syntax:=bu_4._auto_1
def bu_5(h:True:=by decide +kernel):True:=h
def au_5:Lean.Syntax:=bu_5._auto_1
def bu_6(h:True:=by first | exact Or.inl rfl | exact Or.inr rfl):True:=h
def au_6:Lean.Syntax:=bu_6._auto_1
def bu_7(h:True:=by intro _ _; rfl):True:=h
def au_7:Lean.Syntax:=bu_7._auto_1
def bu_8(h:True:=by kernel_rfl):True:=h
def au_8:Lean.Syntax:=bu_8._auto_1
def bu_9(h:True:=by intro _; first | exact Or.inl rfl | exact Or.inr (Or.inl rfl) | exact Or.inr (Or.inr rfl)):True:=h
def au_9:Lean.Syntax:=bu_9._auto_1
def bu_10(h:True:=by intro _; exact ⟨rfl, rfl, rfl⟩):True:=h
def au_10:Lean.Syntax:=bu_10._auto_1
def bu_11(h:True:=by with_unfolding_all rfl):True:=h
def au_11:Lean.Syntax:=bu_11._auto_1
def bu_12(h:True:=by intro _; first | exact Or.inl rfl | exact Or.inr rfl):True:=h
def au_12:Lean.Syntax:=bu_12._auto_1
def bu_13(h:True:=by intro _; first | exact .inl rfl | exact .inr rfl | assumption):True:=h
def au_13:Lean.Syntax:=bu_13._auto_1
def bu_14(h:True:=by intro _; kernel_rfl):True:=h
def au_14:Lean.Syntax:=bu_14._auto_1
open PySem PySem.Spec PyProof.Rows
noncomputable section
def Wi:=@PySem.wpAny_bind
def Wj:=@List.getElem?_eq_getElem
def Wk:=@List.length_map
def Wl:=@PySem.Heap.get?_push_of_some
def Wm:=@List.mem_singleton
def Wn:=@PySem.wpAny_pure
def Wo:=@PySem.Heap.lt_size
def Wp:=@Nat.le_refl
def Wq:=@if_neg
def Wr:=@if_pos
def Ws:=@List.getElem?_map
def Wt:=@PySem.Heap.get?_push_size
def Wu:=@List.mem_cons
def Wv:=@Option.some.inj
def Ww:=@of_decide_eq_true
def Wx:=@decide_eq_true
def Wy:=@Nat.le_trans
def Wz:=@Nat.lt_of_lt_of_le
def W1:=@Bool.false_ne_true
def W2:=@List.mem_cons_of_mem
def W3:=@Nat.ne_of_lt
def W4:=@List.getElem?_eq_some_iff
def W5:=@List.mem_of_getElem?
def W6:=@List.mem_append_right
def W7:=@List.size_toArray
def W8:=@List.getD_eq_getElem?_getD
def W9:=@decide_eq_false
def WA:=@List.length_set
def WB:=@List.length_append
def WC:=@PySem.W.mg_of
def WD:=@PySem.wpAny_mono
def WE:=@List.map_append
def WG:=@congrArg
def WH:=@PyProof.Rows.boot_isinstance
def WI:=@List.getElem_mem
def WJ:=@PySem.Heap.get?_update_other
def WK:=@PySem.W.mg_none_of
def WL:=@List.append_nil
def WM:=@List.map_cons
def WN:=@Bool.and_eq_true
def WO:=@List.all_eq_true
def WQ:=@PySem.Heap.get?_update_self
def WR:=@List.mem_cons_self
def WS:=@PySem.W.kia_one
def WT:=@List.mem_map
def WU:=@PySem.PassesOwn.never
def WV:=@Nat.zero_le
def WW:=@Array.getElem?_eq_getElem
def WX:=@List.nodup_cons
def WY:=@List.getElem?_set_ne
def WZ:=@List.getElem?_set_self
def Qa:=@Int.toNat_natCast
def Qb:=@Array.length_toList
def Qc:=@List.mem_append
def Qd:=@List.lookup_cons
def Qe:=@PySem.Obj.data_mapFields
def Qf:=@PySem.wpAny_newObj_type
def Qg:=@PySem.Heap.SameBut.update
def Qh:=@List.getElem?_append_right
def Qi:=@Array.getElem?_toList
def Qj:=@List.getElem?_append_left
def Qk:=@List.map_map
def Ql:=@PySem.F.slot_list_append
def Qm:=@PySem.F.type_list_append
def Qn:=@Nat.lt_irrefl
def Qo:=@PySem.F.plainAttrs_list
def Qp:=@List.filterMap_cons
def Qq:=@PySem.mem_of_lookup
def Qr:=@Nat.le_of_eq
def Qs:=@PySem.codeAny_mono
def Qt:=@PySem.wpAny_Call_Name_kw
def Qu:=@PySem.wpAny_passesOwn
def Qv:=@List.find?_cons
def Qw:=@PySem.codeAny_builtin
def Qx:=@PySem.Obj.isFreed_of_fields
def Qy:=@PySem.wpAny_holding
def Qz:=@PySem.wpAny_truthy_bool
def Q0:=@PySem.wpAny_setState_of
def Q1:=@List.ext_getElem?
def Q2:=@List.mem_append_left
def Q3:=@List.drop_eq_getElem_cons
def Q4:=@List.nodup_nil
def Q5:=@PySem.wpAny_setField
def Q6:=@Nat.lt_trans
def Q7:=@beq_eq_false_iff_ne
def Q8:=@PySem.W.callWith_K
def Q9:=@List.filterMap_eq_map'
def QA:=@PySem.wpAny_loadPart_at
def QB:=@List.filterMap_append
def QC:=@List.length_filter_le
def QD:=@PySem.W.looks_findIn
def QE:=@Nat.lt_succ_self
def QF:=@List.length_take
def QG:=@List.length_cons
def QH:=@PySem.Around.under_plainId
def QI:=@List.not_mem_nil
def QJ:=@PySem.W.KT.empty_app
def QK:=@List.any_cons
def QL:=@Array.getElem?_eq_some_iff
def QM:=@Nat.le_succ
def QN:=@List.mem_map_of_mem
def QO:=@List.mem_filter
def QP:=@Bool.eq_iff_iff
def QR:=@Classical.byContradiction
def QS:=@Nat.le_of_lt
def QT:=@Nat.lt_of_le_of_lt
def QU:=@PyProof.Rows.F.entry_set_update_loop
def QV:=@PyProof.Rows.F.plain_set_update_loop
def QW:=@List.mem_range
def QX:=@PySem.Heap.size_push
def QY:=@Nat.not_lt
def QZ:=@List.getElem?_replicate
def Va:=@PySem.fits_of_scanBound
def Vb:=@Nat.lt_succ_of_lt
def Vc:=@Classical.not_not
def Vd:=@Array.getElem?_eq_none
def Ve:=@List.all_cons
def Vf:=@List.drop_length
def Vg:=@PySem.wpAny_call_entry
def Vh:=@PySem.W.Looks.ld
def Vi:=@Nat.succ_le_succ
def Vj:=@PySem.W.methodCall_KW
def Vk:=@List.getElem?_eq_none
def Vl:=@PySem.F.typeOf_object_class
def Vm:=@PySem.codeAny_handlers_test
def Vn:=@PySem.Heap.get?_none_of_le
def Vo:=@PySem.wpAny_execs_nil
def Vp:=@Option.map_some
def Vq:=@PySem.codeAny_call_builtin
def Vr:=@PySem.W.plainGet_of
def Vs:=@PySem.wpAny_handleBy_cons
def Vt:=@List.getElem_of_mem
def Vu:=@ne_true_of_eq_false
def Vv:=@List.mem_filterMap
def Vw:=@List.map_singleton
def Vx:=@Option.isSome_map
def Vy:=@List.nodup_append
def Vz:=@Bool.eq_false_iff
def V0:=@decide_eq_true_eq
def V1:=@Nat.ne_of_gt
abbrev Yp:=List (Int×Int)
abbrev Yq:=List Int
abbrev Yr:=List (PySem.Addr×PySem.Obj)
abbrev Ys:=PySem.Str->Option PySem.Value
abbrev Yt:=PySem.Value->PySem.Shared->Prop
abbrev Yu:=List (Option Nat)
abbrev Yv:=List Nat
abbrev Yw:=List PySem.Value
abbrev Yx:=List PySem.Str
abbrev Yy:=List PySem.Expr
abbrev Yz:=List PySem.Stmt
abbrev Y0:=Option PySem.Value
abbrev Y1:=Option PySem.Addr
abbrev Y2:=List (PySem.Str×PySem.Addr)
abbrev Y3:=Array (Int×PySem.Value)
abbrev Yo:=PySem.W.Frag
namespace L2
abbrev Key:=Sum Int Str
noncomputable def Pg:Key->Value->Bool
 | .inl k,v=>Value.isInt k v
 | .inr x,v=>Value.isStrOf x v
noncomputable def MP(w:World):Key->Int
 | .inl k=>hashInt k
 | .inr x=>hashStr w x
def XG:∀{k}{v:Value},Pg k v=true->(∃i t,k=Sum.inl i/\v=Value.int i t)\/(∃x t,k=Sum.inr x/\v=Value.str x t)
 | .inl i,v,h=>by
  obtain⟨t,e⟩:=Value.isInt_shape h
  grind
 | .inr x,v,h=>by
  obtain⟨t,e⟩:=Value.isStrOf_shape h
  grind
def Mg(i:Int)(t:Tok):Pg (.inl i) (.int i t)=true:=by simp[Pg,Value.isInt]
def Oi(x:Str)(t:Tok):Pg (.inr x) (.str x t)=true:=by simp[Pg,Value.isStrOf]
def Lb(a b:Int):decide ((Sum.inl a:Key)=Sum.inl b)=(a==b):=by grind
def Za8(a b:Str):decide ((Sum.inr a:Key)=Sum.inr b)=decide (a=b):=by simp
def Zan(a:Int)(b:Str):decide ((Sum.inl a:Key)=Sum.inr b)=false:=W9 (λq=>nomatch q)
def Hj(a:Str)(b:Int):decide ((Sum.inr a:Key)=Sum.inl b)=false:=W9 (λq=>nomatch q)
noncomputable def Xn(prog:Program)(w:World):PySem.KeyKind prog w Key where
 is:=Pg
 hash:=MP w
 inj:=λv a b ha hb=>by
  rcases XG ha with⟨i,t,rfl,rfl⟩|⟨x,t,rfl,rfl⟩
  ·rcases XG hb with⟨j,u,rfl,e⟩|⟨y,u,rfl,e⟩
   ·injection e with e1 _;rw[e1]
   ·exact nomatch e
  ·rcases XG hb with⟨j,u,rfl,e⟩|⟨y,u,rfl,e⟩
   ·exact nomatch e
   ·injection e with e1 _;rw[e1]
 byValue:=λk v h=>by
  rcases XG h with⟨i,t,rfl,rfl⟩|⟨x,t,rfl,rfl⟩<;>rfl
 pyHash:=λhv h=>by
  rcases XG hv with⟨i,t,rfl,rfl⟩|⟨x,t,rfl,rfl⟩
  ·exact wpAny_pyHash_int h
  ·exact wpAny_pyHash_str h
 eqBool:=λhu hv h=>by
  rcases XG hu with⟨i,t,rfl,rfl⟩|⟨x,t,rfl,rfl⟩
  ·rcases XG hv with⟨j,u,rfl,rfl⟩|⟨y,u,rfl,rfl⟩
   ·rw[Lb]at h;exact wpAny_eqBool_int h
   ·rw[Zan]at h;exact SeqAt.EqAt.int_str i t y u _ _ _ _ h
  ·rcases XG hv with⟨j,u,rfl,rfl⟩|⟨y,u,rfl,rfl⟩
   ·rw[Hj]at h;exact SeqAt.EqAt.str_int x t j u _ _ _ _ h
   ·rw[Za8]at h;exact wpAny_eqBool_str h
 «strs»:=λk x t v h=>by
  rcases XG h with⟨i,u,rfl,e⟩|⟨y,u,rfl,e⟩
  ·exact nomatch e
  ·injection e with e1 _;subst e1;cases v<;>rfl
def LK(prog:Program)(w:World)(i:Int)(t:Tok):(Xn prog w).is (.inl i) (.int i t)=true:=Mg i t
def OX(prog:Program)(w:World)(x:Str)(t:Tok):(Xn prog w).is (.inr x) (.str x t)=true:=Oi x t
inductive V where
 |non|bl (b:Bool)|int (i:Int)|str (x:Str)|byt (b:Array UInt8)|flt (b:UInt64)|ref (a:Addr)|ty (n:String)
 deriving DecidableEq
def RelV:V->Value->Prop
 | .non,u=>u=Value.none
 | .bl b,u=>u=Value.bool b
 | .int i,u=>∃t,u=Value.int i t
 | .str x,u=>∃t,u=Value.str x t
 | .byt b,u=>∃t,u=Value.bytes b t
 | .flt b,u=>∃t,u=Value.float b t
 | .ref a,u=>u=Value.ref a
 | .ty n,u=>u=Value.type n
abbrev Vals:List V->Yw->Prop:=Paired RelV
def Vals.length (r:Vals xs us):xs.length=us.length:=Paired.length r
def Vals.get:∀{xs us}{i:Nat}{x:V},Vals xs us->xs[i]?=some x->∃u,us[i]?=some u/\RelV x u:=by
 intro l
 induction l with
 |nil=>
  intro _ i _ h e;simp at e
 |cons _ _ b=>
  intro _ i d h e;cases h with
  |cons h r=>
   cases i with
   |zero=>
    simp at e;subst e;exact⟨_,rfl,h⟩
   |succ i=>
    obtain⟨v,g,f⟩:=b r (by simpa using e);exact⟨v,by simpa using g,f⟩
theorem Vals.set (r:RelV x u):∀{xs us} i,Vals xs us->Vals (xs.set i x) (us.set i u)
 |_,_,_,.nil=>.nil
 |_,_,0,.cons _ t=>.cons r t
 |_,_,i+1,.cons q t=>.cons q (Vals.set r i t)
def Vals.append:∀{xs ys}{us b:Yw},Vals xs us->Vals ys b->Vals (xs++ys) (us++b):=by
 intro g
 induction g with
 |nil=>
  intro _ _ _ h s;cases h
  exact s
 |cons _ _ f=>
  intro _ _ _ h s;cases h with
  |cons h r=>
   exact .cons h (f r s)
theorem Vals.take:∀{xs us} n,Vals xs us->Vals (xs.take n) (us.take n)
 |_,_,0,_|_,_,_+1,.nil=>.nil
 |_,_,n+1,.cons r t=>.cons r (Vals.take n t)
theorem Vals.drop:∀{xs us} n,Vals xs us->Vals (xs.drop n) (us.drop n)
 |_,_,0,r=>r
 |_,_,_+1,.nil=>.nil
 |_,_,n+1,.cons _ t=>Vals.drop n t
def RelO:Option V->Y0->Prop
 |some v,some u=>RelV v u
 |none,none=>True
 |_,_=>False
def KV{b:Type}:List (b×V)->List (b×Value)->Prop:=Paired λ(p:b×V) (q:b×Value)=>p.1=q.1/\RelV p.2 q.2
noncomputable def kV:Key->V
 | .inl i=>.int i
 | .inr x=>.str x
inductive HO where
 |lst (xs:List V)
 |tup (xs:List V)
 |dK (kvs:List (Key×V))|dT (kvs:List (List Key×V))
 |set (S:Int->Bool) (n:Nat)
 |ins (C dx:Addr) (fs:List (Str×V))
 |own (x:Addr)
 |xd (fs:List (Str×V))
 |met (f x:Addr)
 |rng (lo hi:Int)
 |frz (o:Obj) (u:HO)
 |tbl (ps:Array Value)
 |ext (φ:Heap->Prop)
abbrev Hp:=Addr->Option HO
noncomputable def upd(H:Hp)(a:Addr)(o:HO):Hp:=λb=>if b=a then some o else H b
def Ur:upd H a o a=some o:=by unfold upd;rw[Wr rfl]
def Uj{a b o}(h:b≠a):upd H a o b=H b:=by unfold upd;rw[Wq h]
def Hk:upd (upd H a o) a u=upd H a u:=by
 funext b;unfold upd;split<;>rfl
def OI{H:Hp}{a b}{o u}(h:H a=some o)(f:H b=some u)(d:o≠u):a≠b:=by grind
def Xi{H:Hp}{a b}{o}(h:H a=some o)(f:H b=none):a≠b:=by grind
section
variable (P:Program) (w:World)
def ObjOk(H:Hp)(h:Heap)(a:Addr):HO->Prop
 | .lst xs=>xs.length<=sizeLine/\∃(g:Yw) (n:Nat),Vals xs g/\h.get? a=some {cls:=.type "list",data:=.seq g.toArray n}
 | .tup xs=>xs.length<=sizeLine/\∃g:Yw,Vals xs g/\IsTup h a g.toArray
 | .dK b=>b.length<=sizeLine/\(a==sysModules)=false/\∃y,KV b y/\h.DictOf (Xn P w) a y
 | .dT b=>b.length<=sizeLine/\(a==sysModules)=false/\∃xs:List (List Key×Addr×Value),
   Paired (λ(p:List Key×V) (q:List Key×Addr×Value)=>p.1=q.1/\H q.2.1=some (.tup<|p.1.map kV)/\RelV p.2 q.2.2) b xs/\
   ∃o B J,h.get? a=some o/\o.ExactDict/\o.data=.dict B J/\B.toList=xs.map (entryOfKey<|tupleKind<|Xn P w)/\(xs.map (·.1)).Nodup
 | .set S n=>h.SetOf (intKind P w) a S n
 | .ins C r fs=>H r=some (.own a)/\fs.length<=1000/\r≠a/\h.get? a=some (PySem.W.instObj C r)/\
   ∃l,h.Ns1 r l/\(∀f,RelO (fs.lookup f) (l f))/\PySem.Within l (fs.map (·.1))
 | .own _=>∃o,h.get? a=some o
 | .xd fs=>∃l,h.Ns1 a l/\∀f,RelO (fs.lookup f) (l f)
 | .rng lo G=>∃t u v,h.get? a=some {cls:=.type "range",data:=.fields #[.int lo t,.int G u,.int 1 v]}
 | .frz o u=>h.get? a=some o/\ObjOk H h a u
 | .tbl E=>h.get? a=some {cls:=.none,data:=.fields E}
 | .met f x=>h.get? a=some (PySem.W.methodObj (.ref f)<|.ref x)
 | .ext s=>s h/\(∃o,h.get? a=some o)/\∀A z:Heap,s A->(∀o,A.get? a=some o->z.get? a=some o)->s z
def HOk(H:Hp)(h:Heap):Prop:=∀a o,H a=some o->ObjOk P w H h a o
end
section
variable {P:Program}{w:World}{H H':Hp}{h h':Heap}{a:Addr}{o:HO}
def ObjOk.lt (x:ObjOk P w H h a o):a<h.objs.size:=by
 cases o with
 |lst xs=>obtain⟨_,_,_,_,e⟩:=x;exact Wo e
 |tup xs=>obtain⟨_,_,_,p⟩:=x;exact p.lt
 |set S n=>obtain⟨o,_,_,_,e,_⟩:=x;exact Wo e
 |ins C r fs=>obtain⟨_,_,_,e,_⟩:=x;exact Wo e
 |own y=>obtain⟨_,e⟩:=x;exact Wo e
 |xd fs=>obtain⟨_,⟨_,_,_,e,_⟩,_⟩:=x;exact Wo e
 |rng lo q=>obtain⟨_,_,_,e⟩:=x;exact Wo e
 |frz l u=>obtain⟨e,_⟩:=x;exact Wo e
 |tbl g|met f y=>exact Wo x
 |ext b=>obtain⟨_,⟨_,e⟩,_⟩:=x;exact Wo e
 |_=>obtain⟨_,_,_,_,o,_,_,e,_⟩:=x;exact Wo e
def Paired.mapP:∀{l:List s}{g:List q},Paired F l g->(∀a b,F a b->G a b)->Paired G l g:=by
 intro p
 induction p with
 |nil=>
  intro _ h _;cases h
  exact .nil
 |cons _ _ n=>
  intro _ h f;cases h with
  |cons h r=>
   exact .cons (f _ _ h) (n r f)
def ObjOk.stay (x:ObjOk P w H h a o) (k:∀b u,(b=a\/H b=some (.own a))->h.get? b=some u->h'.get? b=some u)
  (Q:∀b,H b=some (.own a)->H' b=some (.own a)) (N:∀b xs,H b=some (.tup xs)->H' b=some (.tup xs)):ObjOk P w H' h' a o:=by
 induction o with
 |lst xs=>obtain⟨z,A,n,r,e⟩:=x;exact⟨z,A,n,r,k _ _ (.inl rfl) e⟩
 |tup xs=>obtain⟨z,A,r,g,e,c⟩:=x;exact⟨z,A,r,g,k _ _ (.inl rfl) e,c⟩
 |dK G=>obtain⟨z,y,J,r,g,l,s,e,c⟩:=x;exact⟨z,y,J,r,g,l,s,k _ _ (.inl rfl) e,c⟩
 |dT G=>
  obtain⟨z,y,xs,r,g,l,s,e,c⟩:=x;exact⟨z,y,xs,Paired.mapP r λp q z=>⟨z.1,N _ _ z.2.1,z.2.2⟩,g,l,s,k _ _ (.inl rfl) e,c⟩
 |set S n=>obtain⟨g,l,s,t,e,c⟩:=x;exact⟨g,l,s,t,k _ _ (.inl rfl) e,c⟩
 |ins C dx fs=>
  obtain⟨d,z,L,e,E,⟨B,l,s,T,c⟩,r⟩:=x;exact⟨Q _ d,z,L,k _ _ (.inl rfl) e,E,⟨B,l,s,k _ _ (.inr d) T,c⟩,r⟩
 |own y=>obtain⟨g,e⟩:=x;exact⟨g,k _ _ (.inl rfl) e⟩
 |xd fs=>obtain⟨E,⟨B,l,s,e,c⟩,r⟩:=x;exact⟨E,⟨B,l,s,k _ _ (.inl rfl) e,c⟩,r⟩
 |rng lo hi=>obtain⟨t,u,v,e⟩:=x;exact⟨t,u,v,k _ _ (.inl rfl) e⟩
 |frz g u M=>obtain⟨e,q⟩:=x;exact⟨k _ _ (.inl rfl) e,M q⟩
 |tbl Y=>
  have e:=x;exact k a _ (.inl rfl) e
 |met f y=>
  have e:=x;exact k a _ (.inl rfl) e
 |ext U=>obtain⟨p,⟨o,e⟩,st⟩:=x;exact⟨st _ _ p λo q=>k _ _ (.inl rfl) q,⟨o,k _ _ (.inl rfl) e⟩,st⟩
def HOk.lt (x:HOk P w H h) (e:H a=some o):a<h.objs.size:=(x a o e).lt
def HOk.fresh (x:HOk P w H h) (e:h.objs.size<=a):H a=none:=by
 cases q:H a with
 |none=>rfl
 |some u=>exact absurd (Wz (x.lt q) e) (Qn _)
def HOk.kept (x:HOk P w H h) (k:∀b u,h.get? b=some u->h'.get? b=some u):HOk P w H h':=λa o e=>
 (x a o e).stay (λb u _ q=>k b u q) (λ_ q=>q) λ_ _ q=>q
def HOk.laid (x:HOk P w H h) (k:∀b u,h.get? b=some u->h'.get? b=some u) (l:h.objs.size<=a) (new:ObjOk P w (upd H a o) h' a o):HOk P w (upd H a o) h':=λb u e=>by
 have f:=x.fresh l;by_cases g:b=a
 ·subst g;rw[Ur]at e;cases e;exact new
 ·rw[Uj g]at e;exact(x b u e).stay (λc v _ q=>k c v q) (λc q=>by rw[Uj (Xi q f)];exact q) λc xs q=>by rw[Uj (Xi q f)];exact q
end
def Rd(H:Hp)(a:Addr)(u:HO):Prop:=H a=some u\/∃o,H a=some (.frz o u)
def Rd.ok {H h a u} (r:Rd H a u) (x:HOk P w H h):ObjOk P w H h a u:=by
 rcases r with r|⟨o,r⟩
 ·exact x a u r
 ·obtain⟨_,q⟩:=x a _ r;lia
def Mut:Option HO->Prop
 |some (.lst _)=>True
 |some (.dK _)=>True
 |some (.dT _)=>True
 |some (.set _ _)=>True
 |some (.ins _ _ _)=>True
 |some (.ext _)=>True
 |_=>False
section
variable {P:Program}{w:World}{H:Hp}{h h':Heap}{x e:Addr}{o':HO}
def HOk.write (ok:HOk P w H h) (g:Mut (H x)) (A:e=x\/H e=some (.own x)) (k:∀b u,b≠e->h.get? b=some u->h'.get? b=some u) (l:∃u,h'.get? e=some u)
  (new:ObjOk P w (upd H x o') h' x o'):HOk P w (upd H x o') h':=λb u q=>by
 have nown:∀c y,H c=some (.own y)->c≠x:=λc y r z=>by subst z;rw[r]at g;exact g
 have ntup:∀c xs,H c=some (.tup xs)->c≠x:=λc xs r z=>by subst z;rw[r]at g;exact g
 by_cases p:b=x
 ·subst p;rw[Ur]at q;cases q;exact new
 ·rw[Uj p]at q;by_cases f:b=e
  ·have n:H b=some (.own x):=by
    rcases A with z|z
    ·grind
    ·rw[f];exact z
   rw[q]at n;cases n;obtain⟨v,s⟩:=l;exact⟨v,by rw[f];exact s⟩
  ·refine(ok b u q).stay (λc v o r=>k c v ?_ r) (λc r=>by rw[Uj (nown c b r)];exact r) λc xs r=>by rw[Uj (ntup c xs r)];exact r
   rcases o with rfl|o
   ·exact f
   ·grind
end
structure Un (fs ex:List Addr) (H H':Hp) (h h':Heap):Prop where
 keep:∀b o,h.get? b=some o->H b=none->b∉fs->b∉ex->h'.get? b=some o
 slot:∀b o,h.get? b=some o->H b=none->b∈fs->b∉ex->∃sl,h'.get? b=some {o with slots:=sl}
 free:∀b o,h.get? b=some o->H b=none->b∉ex->H' b=none
 there:∀b o,h.get? b=some o->b∉ex->∃o',h'.get? b=some o'
 tups:∀b xs,H b=some (.tup xs)->H' b=some (.tup xs)
 frzs:∀b o u,H b=some (.frz o u)->H' b=some (.frz o u)
 tbls:∀b ps,H b=some (.tbl ps)->∃more,H' b=some (.tbl (ps++more))
section
variable {fs fs' ex ex':List Addr}{H H1 H2:Hp}{h h1 h2 h':Heap}{a x e:Addr}{o:HO}
def Un.any (u:Un fs ex H H1 h h1) {b f} (q:h.get? b=some f) (n:H b=none) (hx:b∉ex):∃sl,h1.get? b=some {f with slots:=sl}:=by
 by_cases g:b∈fs
 ·exact u.slot b f q n g hx
 ·exact⟨f.slots,u.keep b f q n g hx⟩
def Un.kept (k:∀b u,h.get? b=some u->h'.get? b=some u):Un fs ex H H h h':=
 ⟨λb f q _ _ _=>k b f q,λb f q _ _ _=>⟨f.slots,k b f q⟩,λ_ _ _ n _=>n,λb f q _=>⟨f,k b f q⟩,λ_ _ q=>q,λ_ _ _ q=>q,λ_ g q=>⟨#[],by rw[q];simp⟩⟩
def Un.refl:Un fs ex H H h h:=Un.kept λ_ _ q=>q
def Un.laid (k:∀b u,h.get? b=some u->h'.get? b=some u) (hp:h.objs.size<=a) (hn:H a=none):Un fs ex H (upd H a o) h h' where
 keep:=λb u q _ _ _=>k b u q
 slot:=λb u q _ _ _=>⟨u.slots,k b u q⟩
 free:=λb u q n _=>by rw[Uj (W3<|Wz (Wo q) hp)];exact n
 there:=λb u q _=>⟨u,k b u q⟩
 tups:=λb xs q=>by rw[Uj (Xi q hn)];exact q
 frzs:=λb u xs q=>by rw[Uj (Xi q hn)];exact q
 tbls:=λb ps q=>⟨#[],by rw[Uj (Xi q hn),q];simp⟩
def Un.write (f:Mut (H x)) (v:e=x\/H e=some (.own x)) (k:∀b u,b≠e->h.get? b=some u->h'.get? b=some u) (s:∃u,h'.get? e=some u):Un fs ex H (upd H x o) h h':=by
 have hx:∀b,H b=none->b≠x:=λb n z=>by subst z;rw[n]at f;exact f
 have l:∀b,H b=none->b≠e:=λb n z=>by
  rcases v with r|r
  ·grind
  ·grind
 have g:∀b u,H b=some u->¬Mut (some u)->b≠x:=λb u q p z=>by subst z;rw[q]at f;exact p f
 refine⟨λb u q n _ _=>k b u (l b n) q,λb u q n _ _=>⟨u.slots,k b u (l b n) q⟩,λb u q n _=>by rw[Uj (hx b n)];exact n,λb u q _=>?_,
  λb xs q=>by rw[Uj (g b _ q λz=>z)];exact q,λb u xs q=>by rw[Uj (g b _ q λz=>z)];exact q,λb y q=>⟨#[],by rw[Uj (g b _ q λz=>z),q];simp⟩⟩
 by_cases w:b=e
 ·grind
 ·grind
end
noncomputable def trk(h:Heap)(H:Hp):List Addr:=(List.range h.objs.size).filter λa=>(H a).isSome
noncomputable def Kk(h:Heap)(H:Hp):Heap:=PySem.W.hideAll h (trk h H)
def MJ(h:Heap)(H:Hp):(Kk h H).objs.size=h.objs.size:=PySem.W.hideAll_size _ _
def LH{H b o}(e:h.get? b=some o)(n:H b=none):(Kk h H).get? b=some o:=
 PySem.W.hideAll_get _ e λf=>by
  have q:=(QO.mp f).2
  grind
def LS(e:(Kk h H).get? b=some o):h.get? b=some o/\H b=none:=by
 have f:=PySem.W.of_hideAll (trk h H) e;refine⟨f,?_⟩;cases q:H b with
 |none=>rfl
 |some x=>
  have g:b∈trk h H:=QO.mpr ⟨QW.mpr (Wo f),by simp[q]⟩;have z:(Kk h H).get? b=none:=PySem.W.hideAll_none (trk h H) g
  grind
noncomputable def RQ(g h:Heap)(L:Addr):Yr:=(List.range h.objs.size).filterMap λa=>if a=L\/(g.get? a).isSome=true then none else(h.get? a).map λo=>(a,o)
noncomputable def rest(g h:Heap)(L d:Addr):Yr:=(RQ g h L).filter λp=>decide (p.1≠d)
structure Mod (K:Yo) (mg:Ys) (base:Heap):Prop where
 kin:K.In base
 glob:base.Ns mainGlobals mg
 blt:∃mb,base.Ns builtinsNs mb/\∀x:Str,x≠"__name__"->mb x=bootBuiltins x
 nolimit:base.NoLimit
structure Cx where
 prog:Program
 w:World
 K:Yo
 mg:Ys
 base:Heap
 A:Around
 N:Yx
 s₀:Shared
 H₀:Hp
 env:Env
 outer:List Env
 stack:List Env
 ex:List Addr
 fn:Str->Bool
 calm:Bool
 pn:Yr
 xe:Yt
noncomputable def frs(l:List Env):List Addr:=l.filterMap (·.frame)
noncomputable abbrev Cx.fs (X:Cx):List Addr:=frs X.outer
def Vis(b:Scope)(x:Str):Prop:=b.names.lookup x=some .local\/b.names.lookup x=some .cell\/b.names.lookup x=some .free
def Loc(b:Scope)(x:Str):Prop:=b.names.lookup x=some .local\/b.names.lookup x=some .cell
def Look(env:Env)(h:Heap)(m:Ys)(x:Str)(u:Value):Prop:=
 (env.kindOf x=some .local/\m x=some u)\/((env.kindOf x=some .cell\/env.kindOf x=some .free)/\∃c,env.cells.lookup x=some c/\h.IsCell c (some u))
structure Cx.Ok (X:Cx):Prop where
 mod:Mod X.K X.mg X.base
 kind:X.env.scope.kind=.function
 glob:X.env.globals=mainGlobals
 blt:X.env.builtins=builtinsNs
 above:X.s₀.heap.objs.size<=X.env.locals
 inj:∀x y c,X.env.cells.lookup x=some c->X.env.cells.lookup y=some c->x=y
 has:∀x,(X.env.kindOf x=some .cell\/X.env.kindOf x=some .free)->∃c,X.env.cells.lookup x=some c
 cab:∀x c,X.fn x=true->X.env.cells.lookup x=some c->X.s₀.heap.objs.size<=c
 hd:X.calm=true->X.A.handled=none
 frames:X.A.frames=some X.stack
 stk:X.stack=X.outer\/(X.stack=X.env::X.outer/\X.env.frame=some X.env.locals)
 exf:∀b∈X.ex,b≠X.env.locals/\∀x c,X.env.cells.lookup x=some c->c≠b
 bs:∀b o,X.base.get? b=some o->X.s₀.heap.get? b=some o/\X.H₀ b=none
 bsz:X.base.objs.size<=X.s₀.heap.objs.size
 noex:∀b o,X.base.get? b=some o->b∉X.ex
 exfs:∀b∈X.ex,b∉X.fs
 funs:X.s₀.heap.FunFrames X.base X.outer
 frf:∀b∈X.fs,X.H₀ b=none
structure Inv (X:Cx) (pins:Yr) (σ:List (Option V)) (H:Hp) (s:Shared):Prop where
 ok:X.Ok
 os:s.os=X.s₀.os
 bare:AllBare s.gens
 base:Un X.fs X.ex X.H₀ H X.s₀.heap s.heap
 loc:∃m,s.heap.Ns X.env.locals m/\∀(i:Nat) (x:Str) (v:V),X.N[i]?=some x->σ[i]?=some (some v)->Vis X.env.scope x->∃u,RelV v u/\Look X.env s.heap m x u
 cell:∀x c,X.env.cells.lookup x=some c->∃v,s.heap.IsCell c v
 free:H X.env.locals=none
 freeC:∀x c,X.env.cells.lookup x=some c->H c=none
 pin:∀p∈X.pn++pins,s.heap.get? p.1=some p.2/\H p.1=none/\p.1≠X.env.locals/\p.1∉X.fs/\∀v,p.2.data≠.cell v
 hok:HOk X.prog X.w H s.heap
 len:σ.length=X.N.length
section
variable {X:Cx}{pins:Yr}{σ:List (Option V)}{H H':Hp}{s:Shared}{h':Heap}
def Cx.Ok.nofr (ok:X.Ok) {b o} (e:X.base.get? b=some o):b∉X.fs:=λf=>by
 have:=(ok.funs.mem f).1
 grind
def Inv.bs (I:Inv X pins σ H s):∀b o,X.base.get? b=some o->s.heap.get? b=some o/\H b=none:=λb o e=>
 ⟨I.base.keep b o (I.ok.bs b o e).1 (I.ok.bs b o e).2 (I.ok.nofr e) (I.ok.noex b o e),I.base.free b o (I.ok.bs b o e).1 (I.ok.bs b o e).2 (I.ok.noex b o e)⟩
def Inv.bk (I:Inv X pins σ H s):∀b o,X.base.get? b=some o->s.heap.get? b=some o:=λb o e=>(I.bs b o e).1
def Inv.mod (I:Inv X pins σ H s):Mod X.K X.mg X.base:=I.ok.mod
def Inv.kIn (I:Inv X pins σ H s):X.K.In s.heap:=I.ok.mod.kin.keeps I.bk
def Inv.lt (I:Inv X pins σ H s):X.env.locals<s.heap.objs.size:=let ⟨_,b,_⟩:=I.loc;b.lt
def Inv.sz (I:Inv X pins σ H s):X.s₀.heap.objs.size<=s.heap.objs.size:=Wy I.ok.above (QS I.lt)
def Inv.nofs (I:Inv X pins σ H s) {a:Addr} (h:s.heap.objs.size<=a):a∉X.fs:=λf=>by
 obtain⟨_,o,b,_⟩:=I.ok.funs.mem f;exact absurd (Wz (Wo b)<|Wy I.sz h) (Qn _)
def Inv.cne (I:Inv X pins σ H s):∀x c,X.env.cells.lookup x=some c->c≠X.env.locals:=λx c e z=>by
 obtain⟨v,o,h,l⟩:=I.cell x c e;obtain⟨m,⟨g,n,p,b,f,_⟩,_⟩:=I.loc
 grind
def Inv.funs (I:Inv X pins σ H s):s.heap.FunFrames X.base X.outer:=by
 have all:∀l,(∀b∈frs l,b∈X.fs)->X.s₀.heap.FunFrames X.base l->s.heap.FunFrames X.base l:=by
  intro l
  induction l with
  |nil=>intro _ _;trivial
  |cons A r p=>
   intro n w;obtain⟨x,⟨L,o,f,v,u,y⟩,q⟩:=w;have h:=n L (by unfold frs;rw[Qp,f];exact WR);obtain⟨sl,e⟩:=I.base.slot L o u (I.ok.frf L h) h λz=>I.ok.exfs L z h;exact⟨x,⟨L,_,f,v,e,y⟩,p (λb g=>n b (by unfold frs;rw[Qp,f];exact W2 _ g)) q⟩
 exact all X.outer (λ_ g=>g) I.ok.funs
def Inv.stack (I:Inv X pins σ H s):s.heap.FunFrames X.base X.stack:=by
 rcases I.ok.stk with e|⟨e,f⟩
 ·rw[e];exact I.funs
 ·rw[e];obtain⟨m,b,_⟩:=I.loc;refine .cons (by rw[I.ok.kind];decide) f b ?_ I.funs;exact Vn (Wy I.ok.bsz I.ok.above)
def Inv.stkSub (I:Inv X pins σ H s):∀b∈frs X.stack,b∈X.env.locals::X.fs:=λb f=>by
 rcases I.ok.stk with e|⟨e,g⟩
 ·grind
 ·rw[e]at f;unfold frs at f;rw[Qp,g]at f;trivial
def Inv.stkFree (I:Inv X pins σ H s):∀b∈frs X.stack,H b=none:=λb f=>by
 rcases Wu.mp (I.stkSub b f)with e|f
 ·rw[e];exact I.free
 ·obtain⟨_,o,g,_⟩:=I.ok.funs.mem f;exact I.base.free b o g (I.ok.frf b f) λz=>I.ok.exfs b z f
def Inv.step {d'}{ch:List Addr} (I:Inv X pins σ H s)
  (g:∀b∈ch,(b∈X.ex\/X.s₀.heap.objs.size<=b)/\b≠X.env.locals/\(∀x c,X.env.cells.lookup x=some c->c≠b)/\∀p∈X.pn++pins,p.1≠b)
  (keep:∀b o,b≠X.env.locals->b∉X.fs->b∉ch->s.heap.get? b=some o->H b=none->h'.get? b=some o)
  (slot:∀b o,b≠X.env.locals->b∈X.fs->b∉ch->s.heap.get? b=some o->H b=none->∃sl,h'.get? b=some {o with slots:=sl}) (free:∀b o,b∉ch->s.heap.get? b=some o->H b=none->H' b=none)
  (there:∀b o,b∉ch->s.heap.get? b=some o->∃o',h'.get? b=some o')
  (tups:∀b xs,H b=some (.tup xs)->H' b=some (.tup xs)) (frzs:∀b o u,H b=some (.frz o u)->H' b=some (.frz o u)) (tbls:∀b ps,H b=some (.tbl ps)->∃more,H' b=some (.tbl (ps++more)))
  (ns:∀m,s.heap.Ns X.env.locals m->h'.Ns X.env.locals m) (J:HOk X.prog X.w H' h') (hg:AllBare g') :
  Inv X pins σ H' {s with heap:=h',gens:=g',drawn:=d',toks:=t'}:=by
 have B:∀b o,X.s₀.heap.get? b=some o->b≠X.env.locals:=λb o e=>W3 (Wz (Wo e) I.ok.above)
 have f:∀b o,X.s₀.heap.get? b=some o->b∉X.ex->b∉ch:=λb o e hx y=>by
  rcases(g b y).1 with z|z
  ·exact hx z
  ·exact absurd (Wz (Wo e) z) (Qn _)
 have cellK:∀x c,X.env.cells.lookup x=some c->∀v,s.heap.IsCell c v->h'.IsCell c v:=λx c e v ⟨o,A,L⟩=>by
  have C:=λz=>(g c z).2.2.1 x c e rfl;by_cases M:c∈X.fs
  ·obtain⟨sl,q⟩:=slot c o (I.cne x c e) M C A (I.freeC x c e);exact⟨_,q,L⟩
  ·exact⟨o,keep c o (I.cne x c e) M C A (I.freeC x c e),L⟩
 refine⟨I.ok,I.os,hg,⟨λb o e n y hx=>?_,λb o e n y hx=>?_,λb o e n hx=>?_,λb o e hx=>?_,λb xs e=>tups b xs (I.base.tups b xs e),λb o xs e=>frzs b o xs (I.base.frzs b o xs e),λb ps e=>?_⟩,?_,λx c e=>?_,?_,λx c e=>?_,λp T=>?_,J,I.len⟩
 ·exact keep b o (B b o e) y (f b o e hx) (I.base.keep b o e n y hx) (I.base.free b o e n hx)
 ·obtain⟨sl,h⟩:=I.base.slot b o e n y hx;obtain⟨G,E⟩:=slot b _ (B b o e) y (f b o e hx) h (I.base.free b o e n hx);exact⟨G,E⟩
 ·obtain⟨o',h⟩:=I.base.there b o e hx;exact free b o' (f b o e hx) h (I.base.free b o e n hx)
 ·obtain⟨o',h⟩:=I.base.there b o e hx;exact there b o' (f b o e hx) h
 ·obtain⟨Q,h⟩:=I.base.tbls b ps e;obtain⟨N,E⟩:=tbls b _ h;exact⟨Q++N,by rw[E,Array.append_assoc]⟩
 ·obtain⟨m,U,Y⟩:=I.loc;refine⟨m,ns m U,λi x v h E e3=>?_⟩;obtain⟨u,r,l⟩:=Y i x v h E e3;refine⟨u,r,?_⟩;rcases l with l|⟨k,c,e,z⟩
  ·exact .inl l
  ·exact .inr ⟨k,c,e,cellK x c e _ z⟩
 ·obtain⟨v,z⟩:=I.cell x c e;exact⟨v,cellK x c e v z⟩
 ·obtain⟨m,⟨o,_,_,A,_⟩,_⟩:=I.loc;exact free _ o (λz=>(g _ z).2.1 rfl) A I.free
 ·obtain⟨v,o,A,L⟩:=I.cell x c e;exact free c o (λz=>(g c z).2.2.1 x c e rfl) A (I.freeC x c e)
 ·obtain⟨e,n,ne,nf,d⟩:=I.pin p T
  grind
def Inv.un (I:Inv X pins σ H s) (u:Un X.fs [] H H' s.heap h') (g:HOk X.prog X.w H' h'):Inv X pins σ H' {s with heap:=h',toks:=t'}:=by
 obtain⟨m,⟨o,C,E,q,r⟩,_⟩:=id I.loc;obtain⟨sl,y⟩:=u.any q I.free (by simp)
 exact I.step (ch:=[]) (λ_ z=>nomatch z) (λb o _ h _ e n=>u.keep b o e n h (by simp)) (λb o _ h _ e n=>u.slot b o e n h (by simp)) (λb o _ e n=>u.free b o e n (by simp)) (λb o _ e=>u.there b o e (by simp)) u.tups u.frzs u.tbls (λB x=>by
  obtain⟨A,l,p,f,v⟩:=x;rw[q]at f;cases f;exact⟨_,l,p,y,v⟩) g I.bare
def Inv.call {d'}{ch} (I:Inv X pins σ H s) (u:Un (frs X.stack) ch H H' s.heap h') (l:HOk X.prog X.w H' h') (E:AllBare J)
  (h:∀b∈ch,(b∈X.ex\/X.s₀.heap.objs.size<=b)/\b≠X.env.locals/\(∀x c,X.env.cells.lookup x=some c->c≠b)/\∀p∈X.pn++pins,p.1≠b) :
  Inv X pins σ H' {s with heap:=h',gens:=J,drawn:=d',toks:=t'}:=by
 obtain⟨m,⟨o,N,Q,A,r⟩,_⟩:=id I.loc;obtain⟨sl,q⟩:=u.any A I.free λz=>(h _ z).2.1 rfl
 exact I.step h (λb o q G f e n=>u.keep b o e n (λz=>(Wu.mp<|I.stkSub b z).elim q G) f) (λb o _ _ f e n=>u.any e n f) (λb o f e n=>u.free b o e n f) (λb o f e=>u.there b o e f) u.tups u.frzs u.tbls (λM C=>by
  obtain⟨L,v,y,g,B⟩:=C;rw[A]at g;cases g;exact⟨_,v,y,q,B⟩) l E
def Inv.turned {it} (I:Inv X pins σ H s) (k:∀b o,b≠it->s.heap.get? b=some o->h'.get? b=some o) (B:H it=none) (l:it≠X.env.locals)
  (J:it∈X.ex\/X.s₀.heap.objs.size<=it) (G:∀x c,X.env.cells.lookup x=some c->c≠it) (E:∀p∈X.pn++pins,p.1≠it):Inv X pins σ H {s with heap:=h',toks:=t'}:=by
 refine I.step (ch:=[it]) (λb C=>?_) (λb o _ _ f e _=>k b o (λz=>f (by simp[z])) e) (λb o _ _ f e _=>⟨o.slots,k b o (λz=>f (by simp[z])) e⟩) (λ_ _ _ _ n=>n)
  (λb o f e=>⟨o,k b o (λz=>f (by simp[z])) e⟩) (λ_ _ e=>e) (λ_ _ _ e=>e) (λb A e=>⟨#[],by rw[e];simp⟩) (λm h=>?_) (λb u e=>?_) I.bare
 ·grind
 ·obtain⟨o,w,y,g,r⟩:=h;exact⟨o,w,y,k _ o (Ne.symm l) g,r⟩
 ·refine(I.hok b u e).stay (λc v f q=>k c v ?_ q) (λ_ q=>q) λ_ _ q=>q;rcases f with z|z
  ·grind
  ·grind
def Inv.tok (I:Inv X pins σ H s) (t:Nat):Inv X pins σ H {s with toks:=t}:=I.un Un.refl I.hok
def Inv.kept (I:Inv X pins σ H s) (k:∀b u,s.heap.get? b=some u->h'.get? b=some u):Inv X pins σ H {s with heap:=h',toks:=t'}:=I.un (Un.kept k) (I.hok.kept k)
def Inv.laid {a:Addr}{o}{t'} (I:Inv X pins σ H s) (k:∀b u,s.heap.get? b=some u->h'.get? b=some u) (f:s.heap.objs.size<=a) (new:ObjOk X.prog X.w (upd H a o) h' a o) :
  Inv X pins σ (upd H a o) {s with heap:=h',toks:=t'}:=I.un (Un.laid k f<|I.hok.fresh f) (I.hok.laid k f new)
def Inv.write (I:Inv X pins σ H s) (g:Mut (H x)) (h:e=x\/H e=some (.own x)) (k:∀b u,b≠e->s.heap.get? b=some u->h'.get? b=some u) (f:∃u,h'.get? e=some u)
  (new:ObjOk X.prog X.w (upd H x o) h' x o):Inv X pins σ (upd H x o) {s with heap:=h',toks:=t'}:=I.un (Un.write g h k f) (I.hok.write g h k f new)
def Inv.weak (I:Inv X pins σ H s) (h:b.length=σ.length) (w:∀(i:Nat) v,b[i]?=some (some v)->σ[i]?=some (some v)):Inv X pins b H s:=
 ⟨I.ok,I.os,I.bare,I.base,let ⟨m,g,f⟩:=I.loc;⟨m,g,λi x v o n l=>f i x v o (w i v n) l⟩,I.cell,I.free,I.freeC,I.pin,I.hok,h.trans I.len⟩
def Inv.pins_of (I:Inv X pins σ H s) (h:∀p∈pins',s.heap.get? p.1=some p.2/\H p.1=none/\p.1≠X.env.locals/\p.1∉X.fs/\∀v,p.2.data≠.cell v):Inv X pins' σ H s:=
 ⟨I.ok,I.os,I.bare,I.base,I.loc,I.cell,I.free,I.freeC,λp b=>(Qc.mp b).elim (λz=>I.pin p (Q2 _ z)) (h p),I.hok,I.len⟩
def Bg{N:Yx}(f:N.Nodup){i j:Nat}{x}(a:N[i]?=some x)(b:N[j]?=some x):i=j:=by
 obtain⟨n,h⟩:=W4.mp a;obtain⟨l,g⟩:=W4.mp b;exact(List.getElem_inj f).mp (h.trans g.symm)
def Rz{i x v u Q}(I:Inv X pins σ H s)(hN:X.N.Nodup)(hi:X.N[i]?=some x)(hx:Loc X.env.scope x)(r:RelV v u)(h:∀s',Inv X pins (σ.set i<|some v) H s'->(∃a,Heap.SameBut a s.heap s'.heap/\(a=X.env.locals\/X.env.cells.lookup x=some a))->Q () s')(hf:autoParam (X.fn x=true\/X.env.scope.names.lookup x=some .local) au_2):wpAny M A (storeName X.env x u) Q E s:=by
 obtain⟨m,hn,hl⟩:=id I.loc;have hcls:(X.env.scope.kind == .class || (X.env.scope.kind == .module&&X.env.locals != X.env.globals))=false:=by rw[I.ok.kind];rfl
 have J:i<σ.length:=by rw[I.len];exact(W4.mp hi).1
 have cne:=I.cne
 have tracked:∀{a:Addr} {h':Heap},(∃o,s.heap.get? a=some o/\H a=none)->Heap.SameBut a s.heap h'->HOk X.prog X.w H h':=λ{a h'} ha f b ob e=>by
  obtain⟨_,_,B⟩:=ha;refine(I.hok b ob e).stay (λc w' l q=>(f.2 c ?_).trans q) (λ_ q=>q) λ_ _ q=>q;rintro rfl;rcases l with rfl|l
  ·rw[B]at e;cases e
  ·rw[B]at l;cases l
 rcases hx with G|G
 ·refine wpAny_storeName_local G hn (λh' hn' f=>?_) hcls;obtain⟨oL,_,_,hoL,_⟩:=id hn;refine h _ ⟨I.ok,I.os,I.bare,⟨λb o e n U hx=>?_,λb o e n U hx=>?_,I.base.free,λb o e hx=>?_,I.base.tups,I.base.frzs,I.base.tbls⟩,⟨_,hn',λj y v' g C e3=>?_⟩,λy c e=>?_,I.free,I.freeC,λp hp=>?_,tracked ⟨oL,hoL,I.free⟩ f,by simpa using I.len⟩ ⟨_,f,.inl rfl⟩
  ·exact(f.2 b<|W3<|Wz (Wo e) I.ok.above).trans (I.base.keep b o e n U hx)
  ·obtain⟨sl,g⟩:=I.base.slot b o e n U hx;exact⟨sl,(f.2 b<|W3<|Wz (Wo e) I.ok.above).trans g⟩
  ·obtain⟨o',g⟩:=I.base.there b o e hx;exact⟨o',(f.2 b<|W3<|Wz (Wo e) I.ok.above).trans g⟩
  ·by_cases L:j=i
   ·subst L;rw[hi]at g;cases g;rw[WZ J]at C;cases C
    exact⟨u,r,.inl ⟨G,by simp⟩⟩
   ·rw[WY (Ne.symm L)]at C;obtain⟨u',r',q⟩:=hl j y v' g C e3;refine⟨u',r',?_⟩;rcases q with⟨k,e⟩|⟨k,c,e,z⟩
    ·refine .inl ⟨k,?_⟩
     have:y≠x:=λe=>L (Bg hN g (e▸hi))
     simp[this,e]
    ·exact .inr ⟨k,c,e,z.sameBut f (cne y c e)⟩
  ·obtain⟨w',z⟩:=I.cell y c e;exact⟨w',z.sameBut f (cne y c e)⟩
  ·obtain⟨e,n,ne,nf,d⟩:=I.pin p hp;exact⟨(f.2 p.1 ne).trans e,n,ne,nf,d⟩
 ·have T:X.fn x=true:=by
   rcases hf with z|z
   ·exact z
   ·rw[z]at G;cases G
  obtain⟨c,l⟩:=I.ok.has x (.inl G);obtain⟨w',z⟩:=I.cell x c l;refine wpAny_storeName_cell I.ok.kind G l z (λh' hc' f=>?_);obtain⟨oc,hoc,Y⟩:=id z;refine h {s with heap:=h'} ⟨I.ok,I.os,I.bare,⟨λb o e n U hx=>?_,λb o e n U hx=>?_,I.base.free,λb o e hx=>?_,I.base.tups,I.base.frzs,I.base.tbls⟩,⟨m,hn.sameBut f (Ne.symm<|cne x c l),λj y v' g C e3=>?_⟩,λy c' e=>?_,I.free,I.freeC,λp hp=>?_,tracked ⟨oc,hoc,I.freeC x c l⟩ f,by simpa using I.len⟩ ⟨c,f,.inr l⟩
  ·exact(f.2 b<|W3<|Wz (Wo e)<|I.ok.cab x c T l).trans (I.base.keep b o e n U hx)
  ·obtain⟨sl,g⟩:=I.base.slot b o e n U hx;exact⟨sl,(f.2 b<|W3<|Wz (Wo e)<|I.ok.cab x c T l).trans g⟩
  ·obtain⟨o',g⟩:=I.base.there b o e hx;exact⟨o',(f.2 b<|W3<|Wz (Wo e)<|I.ok.cab x c T l).trans g⟩
  ·by_cases L:j=i
   ·subst L;rw[hi]at g;cases g;rw[WZ J]at C;cases C
    exact⟨u,r,.inr ⟨.inl G,c,l,hc'⟩⟩
   ·rw[WY (Ne.symm L)]at C;obtain⟨u',r',q⟩:=hl j y v' g C e3;refine⟨u',r',?_⟩;rcases q with q|⟨k,c',e,z'⟩
    ·exact .inl q
    ·refine .inr ⟨k,c',e,z'.sameBut f ?_⟩;rintro rfl;exact L (Bg hN g (I.ok.inj _ _ _ e l▸hi))
  ·by_cases hcc:c'=c
   ·subst hcc;exact⟨_,hc'⟩
   ·obtain⟨w2,z2⟩:=I.cell y c' e;exact⟨w2,z2.sameBut f hcc⟩
  ·obtain⟨e,n,ne,nf,d⟩:=I.pin p hp;refine⟨(f.2 p.1 ?_).trans e,n,ne,nf,d⟩;intro q;rw[q,hoc]at e;exact d w' (by rw[←(Wv e)];exact Y)
def Te{i x v u Q}(I:Inv X pins σ H s)(l:X.N.Nodup)(f:X.N[i]?=some x)(hx:Loc X.env.scope x)(r:RelV v u)(h:∀b,Inv X pins (σ.set i<|some v) H b->Q () b)(g:autoParam (X.fn x=true\/X.env.scope.names.lookup x=some .local) au_2):wpAny M A (storeName X.env x u) Q E s:=
 Rz I l f hx r (λb n _=>h b n) g
def Inv.call' {ch} (I:Inv X pins σ H s) (l:f.os=s.os) (u:Un (frs X.stack) ch H H' s.heap f.heap) (g:HOk X.prog X.w H' f.heap) (n:AllBare f.gens)
  (h:∀b∈ch,(b∈X.ex\/X.s₀.heap.objs.size<=b)/\b≠X.env.locals/\(∀x c,X.env.cells.lookup x=some c->c≠b)/\∀p∈X.pn++pins,p.1≠b):Inv X pins σ H' f:=by
 obtain⟨h',r,v,o,q⟩:=f;subst l;exact I.call u g n h
end
abbrev XK:=Value->Y1->Hp->Prop
abbrev St:=List (Option V)
abbrev VK:=V->Hp->Prop
abbrev TE:=St->Hp->VK->Prop
abbrev TT:=St->Hp->(Bool->Hp->Prop)->Prop
abbrev TA:=St->Hp->(List V->Hp->Prop)->Prop
structure Ends where
 nx:St->Hp->Prop
 rt:VK
 bk:St->Hp->Prop:=λ_ _=>False
 ct:St->Hp->Prop:=λ_ _=>False
abbrev TS:=Ends->St->Hp->Prop
def EP(X:Cx)(pins:Yr)(f:St)(Q:VK)(u:Value)(g:Shared):Prop:=∃v b,Inv X pins f b g/\RelV v u/\Q v b
def TP(X:Cx)(pins:Yr)(g:St)(Q:Bool->Hp->Prop)(b:Bool)(h:Shared):Prop:=∃f,Inv X pins g f h/\Q b f
def AP(X:Cx)(pins:Yr)(g:St)(Q:List V->Hp->Prop)(us:Yw)(h:Shared):Prop:=∃b f,Inv X pins g f h/\Vals b us/\Q b f
def SP(X:Cx)(pins:Yr)(D:Ends)(f:Flow)(h:Shared):Prop:=
 match f with
 | .next=>∃b g,Inv X pins b g h/\D.nx b g
 | .brk=>∃b g,Inv X pins b g h/\D.bk b g
 | .cont=>∃b g,Inv X pins b g h/\D.ct b g
 | .ret u=>∃v b g,Inv X pins b g h/\RelV v u/\D.rt v g
def PE(X:Cx)(e:Expr)(t:TE):Prop:=
 ∀(pins:Yr) (s:Shared) (b:St) (H:Hp) (Q:VK),Inv X pins b H s->t b H Q->wpAny (model X.prog X.w) X.A (eval e X.env) (EP X pins b Q) X.xe s
def PT(X:Cx)(e:Expr)(t:TT):Prop:=
 ∀(pins:Yr) (s:Shared) (b:St) (H:Hp) (Q:Bool->Hp->Prop),Inv X pins b H s->t b H Q->wpAny (model X.prog X.w) X.A (isTrue e X.env<|eval e X.env) (TP X pins b Q) X.xe s
def PW(X:Cx)(e:Expr)(t:TT):Prop:=
 ∀(whole:Sem Value) (pins:Yr) (s:Shared) (b:St) (H:Hp) (Q:Bool->Hp->Prop),Inv X pins b H s->t b H Q->wpAny (model X.prog X.w) X.A (isTrue e X.env whole) (TP X pins b Q) X.xe s
def PW.pt (h:PW X e t):PT X e t:=h _
def PA(X:Cx)(es:Yy)(t:TA):Prop:=
 ∀(pos:Pos) (pins:Yr) (s:Shared) (b:St) (H:Hp) (Q:List V->Hp->Prop),Inv X pins b H s->t b H Q->wpAny (model X.prog X.w) X.A (spliced<|backTo pos<|starEach es X.env) (AP X pins b Q) X.xe s
def PS(X:Cx)(st:Stmt)(t:TS):Prop:=
 ∀(pins:Yr) (s:Shared) (b:St) (H:Hp) (D:Ends),Inv X pins b H s->t D b H->wpAny (model X.prog X.w) X.A (exec st X.env) (SP X pins D) X.xe s
def PSs(X:Cx)(st:Yz)(t:TS):Prop:=
 ∀(pins:Yr) (s:Shared) (b:St) (H:Hp) (D:Ends),Inv X pins b H s->t D b H->wpAny (model X.prog X.w) X.A (execs st X.env) (SP X pins D) X.xe s
def thn{M A E s}(h:wpAny M A t Q E s)(b:∀a s,Q a s->f a s):wpAny M A t f E s:=WD h b λ_ _ x=>x
section
variable {X:Cx}
def bin{z r}(G:PE X a z)(E:PE X b r){pins}{s}{g:St}{H}{R:V->V->Hp->Prop}(I:Inv X pins g H s)(h:z g H λx q=>r g q λy o=>R x y o){α}{Q}{f:Value->Value->Sem α}(T:∀v u p x y o,Inv X pins g o p->RelV x v->RelV y u->R x y o->wpAny (model X.prog X.w) X.A (f v u) Q X.xe p) :
  wpAny (model X.prog X.w) X.A (eval a X.env) (λv n=>wpAny (model X.prog X.w) X.A (eval b X.env) (λu l=>wpAny (model X.prog X.w) X.A (f v u) Q X.xe l) X.xe n) X.xe s:=by
 refine thn (G pins s g H _ I h) λv B ⟨x,q,J,M,C⟩=>?_;refine thn (E pins B g q _ J C) λu p ⟨y,o,U,L,N⟩=>?_
 grind
noncomputable def Xh(i:Nat):TE:=λb H Q=>∃v,b[i]?=some (some v)/\Q v H
noncomputable def tC(v:V):TE:=λ_ H Q=>Q v H
def O4{pos}(B:X.N[i]?=some x)(w:Vis X.env.scope x)(n:autoParam ((x==("__debug__" : Str))=false) au_1)(o:autoParam ((x==("__classdict__" : Str))=false) au_1):PE X (.Name x pos) (Xh i):=by
 intro pins s q H Q I h;obtain⟨v,e,h⟩:=h;obtain⟨m,y,A⟩:=I.loc;obtain⟨u,r,l⟩:=A i x v B e w;have g:EP X pins q Q u s:=⟨v,H,I,r,h⟩;rcases l with⟨f,z⟩|⟨f,c,p,b⟩
 ·exact wpAny_Name (wpAny_loadName_local I.ok.kind f y z g) n
 ·rcases f with f|f
  ·exact wpAny_Name (wpAny_loadName_cell I.ok.kind f p b g) n
  ·exact wpAny_Name (wpAny_loadName_free I.ok.kind f p b g o) n
def UA:PE X (.Constant (.int i) j pos) (tC<|.int i):=λ_ _ _ H _ I h=>wpAny_Constant_int ⟨.int i,H,I.tok _,⟨_,rfl⟩,h⟩
def Ta:PE X (.Constant (.bool b) j pos) (tC<|.bl b):=λ_ _ _ H _ I h=>Constant_bool ⟨.bl b,H,I,rfl,h⟩
def Iw:PE X (.Constant .none j pos) (tC .non):=λ_ _ _ H _ I h=>Constant_none ⟨.non,H,I,rfl,h⟩
def UI:PE X (.Constant (.str x) j pos) (tC<|.str x):=λ_ _ _ H _ I h=>Calls.Constant_str ⟨.str x,H,I.tok _,⟨_,rfl⟩,h⟩
def Gl(X:Cx)(x:Str):Prop:=X.env.kindOf x=some .globalImplicit
def XM{pins}{s}{b:St}{H}{x}{u}{pos}{Q}(I:Inv X pins b H s)(g:Gl X x)(f:X.mg x=some u)(h:Q u s)(l:autoParam ((x==("__debug__" : Str))=false) au_1):wpAny (model X.prog X.w) X.A (eval (.Name x pos) X.env) Q E s:=
 Calls.Name_function_global I.ok.kind g (Calls.loadGlobal_global (by rw[I.ok.glob];exact I.mod.glob.keeps I.bk) f h) l
def TH{E}{pins}{s}{b:St}{H}{x}{u}{pos}{Q}(I:Inv X pins b H s)(n:Gl X x)(l:X.mg x=none)(f:bootBuiltins x=some u)(h:Q u s)(g:autoParam (x≠"__name__") au_1)(o:autoParam ((x==("__debug__" : Str))=false) au_1):wpAny (model X.prog X.w) X.A (eval (.Name x pos) X.env) Q E s:=by
 obtain⟨r,q,p⟩:=I.mod.blt;exact Calls.Name_function_global I.ok.kind n (Calls.loadGlobal_builtin (by rw[I.ok.glob];exact I.mod.glob.keeps I.bk) l (by rw[I.ok.blt];exact q.keeps I.bk) ((p x g).trans f) h) o
def Tt{u pos}(f:Gl X x)(b:X.mg x=some u)(r:RelV v u)(g:autoParam ((x==("__debug__" : Str))=false) au_1):PE X (.Name x pos) (tC v):=
 λ_ _ _ H _ I h=>XM I f b ⟨v,H,I,r,h⟩ g
def XZ{u pos}(l:Gl X x)(g:X.mg x=none)(b:bootBuiltins x=some u)(r:RelV v u)(f:autoParam (x≠"__name__") au_1)(n:autoParam ((x==("__debug__" : Str))=false) au_1):PE X (.Name x pos) (tC v):=
 λ_ _ _ H _ I h=>TH I l g b ⟨v,H,I,r,h⟩ f n
variable {a b:Expr}{ta tb:TE}{pos:Pos}
def PC(X:Cx)(l:CmpOp)(a b:Expr)(t:TE):Prop:=
 ∀(pins:Yr) (s:Shared) (h:St) (H:Hp) (Q:VK),Inv X pins h H s->t h H Q->
  wpAny (model X.prog X.w) X.A (eval a X.env) (λv g=>wpAny (model X.prog X.w) X.A (eval b X.env) (λu f=>wpAny (model X.prog X.w) X.A (compareOp l v u) (EP X pins h Q) X.xe f) X.xe g) X.xe s
def Zac(b:Expr){op}(h:op≠.In)(l:op≠.NotIn):behindInMarks op b=false:=by
 have g:(op==CmpOp.In)=false:=by grind
 have f:(op==CmpOp.NotIn)=false:=by grind
 cases b<;>simp[behindInMarks,g,f]
noncomputable def tB(t:TE):TT:=λf H Q=>t f H λx g=>∃c,x=.bl c/\Q c g
def T8(h:PC X g a b t)(f:behindInMarks g b=false:=by first|exact Zac _ (by decide) (by decide)|rfl):PT X (.Compare a [g] [b] pos) (tB t):=by
 intro pins s l H Q I hw;refine wpAny_isTrue_Compare1 (thn (h pins s l H _ I hw) λv A f=>thn f λu z p=>thn p ?_) f;rintro c y ⟨x,w,r,n,o⟩;obtain⟨d,rfl,q⟩:=o;cases n
 exact Qz ⟨w,r,q⟩
variable {tA tB':TT}{rest:Yy}
noncomputable def AJ(t u:TT):TT:=λf H Q=>t f H λc g=>if c=true then u f g Q else Q false g
noncomputable def tOr(t u:TT):TT:=λf H Q=>t f H λc g=>if c=true then Q true g else u f g Q
noncomputable def DU(t:TT):TT:=λf H Q=>t f H λc g=>Q (!c) g
def Zas(g:PT X a tA):PW X (.BoolOp .And [a] pos) tA:=by
 intro l pins s f H Q I h;refine isTrue_and (thn (g pins s f H Q I h) λc n e=>?_);cases c with
 |true=>exact isTrue_and_nil e
 |false=>exact e
def Dn(g:PT X a tA):PW X (.BoolOp .Or [a] pos) tA:=by
 intro l pins s f H Q I h;refine isTrue_or (thn (g pins s f H Q I h) λc n e=>?_);cases c with
 |false=>exact isTrue_or_nil e
 |true=>exact e
def Rh(p:PT X a tA)(o:PW X (.BoolOp .And (b::rest) pos) tB'):PW X (.BoolOp .And (a::b::rest) pos) (AJ tA tB'):=by
 intro g pins s f H Q I h;refine isTrue_and (thn (p pins s f H _ I h) λc l ⟨r,q,n⟩=>?_);cases c with
 |true=>exact o g pins l f r Q q n
 |false=>trivial
def Ez(p:PT X a tA)(o:PW X (.BoolOp .Or (b::rest) pos) tB'):PW X (.BoolOp .Or (a::b::rest) pos) (tOr tA tB'):=by
 intro g pins s f H Q I h;refine isTrue_or (thn (p pins s f H _ I h) λc l ⟨r,q,n⟩=>?_);cases c with
 |true=>trivial
 |false=>exact o g pins l f r Q q n
def EF(g:PT X a tA):PT X (.UnaryOp .Not a pos) (DU tA):=by
 intro pins s f H Q I h;exact isTrue_not (g pins s f H (λc l=>Q (!c) l) I h)
noncomputable def Dk(ta tb:TE):TE:=λf H Q=>ta f H λx g=>∃c,x=.bl c/\if c=true then tb f g Q else Q (.bl false) g
noncomputable def CL(ta:TE):TE:=λf H Q=>ta f H λx g=>∃c,x=.bl c/\Q (.bl (!c)) g
def BF{t}(h:PE X a t):PE X (.BoolOp f [a] pos) t:=by trivial
def Tu(r:PE X a ta)(q:PE X (.BoolOp .And (b::rest) pos) tb):PE X (.BoolOp .And (a::b::rest) pos) (Dk ta tb):=by
 intro pins s g H Q I h;refine BoolOp_and (thn (r pins s g H _ I h) ?_);rintro v o ⟨x,n,l,p,f⟩;obtain⟨c,rfl,f⟩:=f;cases p
 refine Qz ?_;cases c with
 |true=>exact q pins o g n Q l f
 |false=>exact⟨.bl false,n,l,rfl,f⟩
def Rx(n:PE X a ta):PE X (.UnaryOp .Not a pos) (CL ta):=by
 intro pins s g H Q I h;refine UnaryOp_ (thn (n pins s g H _ I h) ?_);rintro v q ⟨x,p,o,l,f⟩;obtain⟨c,rfl,f⟩:=f;cases l
 exact not_of (Qz ⟨.bl (!c),p,o,rfl,f⟩)
noncomputable def tIf(t:TT)(ta tb:TE):TE:=λf H Q=>t f H λc g=>if c=true then ta f g Q else tb f g Q
def RY(p:PT X c tA)(r:PE X a ta)(q:PE X b tb):PE X (.IfExp c a b pos) (tIf tA ta tb):=by
 intro pins s f H Q I h;refine wpAny_IfExp (thn (p pins s f H _ I h) ?_);rintro d g ⟨o,n,l⟩;cases d with
 |true=>exact r pins g f o Q n l
 |false=>exact q pins g f o Q n l
end
def SqL(K:Yo)(H:Hp)(a:Addr)(xs:List V):Prop:=
 Rd H a (.lst xs)\/
  ∃(o:Obj) (b:Array Value) (n:Nat),K.lookup a=some o/\o.cls=.type "list"/\o.dict=none/\o.data=.seq b n/\b.size<=sizeLine/\Vals xs b.toList
def SqT(K:Yo)(H:Hp)(a:Addr)(xs:List V):Prop:=
 Rd H a (.tup xs)\/
  ∃(o:Obj) (b:Array Value) (n:Nat),K.lookup a=some o/\o.cls=.type "tuple"/\o.data=.seq b n/\b.size<=sizeLine/\Vals xs b.toList
noncomputable def GF:Value->Option V
 | .none=>some .non
 | .bool b=>some (.bl b)
 | .int i _=>some (.int i)
 | .str x _=>some (.str x)
 | .bytes b _=>some (.byt b)
 | .float b _=>some (.flt b)
 | .ref a=>some (.ref a)
 | .type n=>some (.ty n)
 |_=>none
def RelV.abs (r:RelV x u):GF u=some x:=by
 cases x with
 |non|bl _|ref _|ty _=>cases r;rfl
 |_=>obtain⟨t,rfl⟩:=r;rfl
def RelV.inj {u} (r:RelV x u) (q:RelV y u):x=y:=Wv (r.abs.symm.trans q.abs)
def Vals.inj:∀{xs ys}{us:Yw},Vals xs us->Vals ys us->xs=ys:=by
 intro n
 induction n with
 |nil=>
  intro _ _ h g;cases h
  cases g
  rfl
 |cons _ _ l=>
  intro _ _ h g;cases h with
  |cons h r=>
   cases g with
   |cons f b=>rw[h.inj f,l r b]
section
variable {X:Cx}{pins:Yr}{σ:St}{H:Hp}{s:Shared}{a:Addr}{xs ys:List V}
def SqL.of {K} (h:H a=some (.lst xs)):SqL K H a xs:=.inl (.inl h)
def SqT.of {K} (h:H a=some (.tup xs)):SqT K H a xs:=.inl (.inl h)
def Inv.list (I:Inv X pins σ H s) (h:SqL X.K H a xs):∃b,Vals xs b/\PlainL s.heap a b.toArray/\xs.length<=sizeLine:=by
 rcases h with h|⟨o,b,n,g,p,l,f,q,r⟩
 ·obtain⟨z,b,n,r,e⟩:=h.ok I.hok;exact⟨b,r,⟨_,n,e,rfl,rfl,rfl⟩,z⟩
 ·refine⟨b.toList,r,⟨o,n,I.kIn a o g,p,l,by simpa using f⟩,?_⟩;have e:=r.length
  grind
def Inv.tuple (I:Inv X pins σ H s) (h:SqT X.K H a xs):∃b,Vals xs b/\IsTup s.heap a b.toArray/\xs.length<=sizeLine:=by
 rcases h with h|⟨o,b,n,g,l,f,q,r⟩
 ·obtain⟨z,b,r,p⟩:=h.ok I.hok
  grind
 ·refine⟨b.toList,r,⟨o,I.kIn a o g,l,n,by simpa using f⟩,?_⟩;have e:=r.length
  grind
def Inv.list_inj (I:Inv X pins σ H s) (h:SqL X.K H a xs) (l:SqL X.K H a ys):xs=ys:=by
 obtain⟨f,r,⟨o,n,e,_,_,d⟩,_⟩:=I.list h;obtain⟨b,g,⟨p,q,u,_,_,v⟩,_⟩:=I.list l
 have:f=b:=by grind
 subst this;exact r.inj g
end
noncomputable abbrev Cx.wish (X:Cx) (E:Yt):Cx:={X with xe:=E}
noncomputable abbrev Cx.nox (X:Cx):Cx:=X.wish λ_ _=>False
def Cx.Ok.wish {X:Cx} (ok:X.Ok) (E:Yt):(X.wish E).Ok:=
 ⟨ok.mod,ok.kind,ok.glob,ok.blt,ok.above,ok.inj,ok.has,ok.cab,ok.hd,ok.frames,ok.stk,ok.exf,ok.bs,ok.bsz,ok.noex,ok.exfs,ok.funs,ok.frf⟩
def Cx.Ok.unwish {X:Cx}{E} (ok:(X.wish E).Ok):X.Ok:=
 ⟨ok.mod,ok.kind,ok.glob,ok.blt,ok.above,ok.inj,ok.has,ok.cab,ok.hd,ok.frames,ok.stk,ok.exf,ok.bs,ok.bsz,ok.noex,ok.exfs,ok.funs,ok.frf⟩
section
variable {X:Cx}{pins:Yr}{σ:St}{H:Hp}{s:Shared}{E:Yt}
def Inv.wish (I:Inv X pins σ H s) (E:Yt):Inv (X.wish E) pins σ H s:=⟨I.ok.wish E,I.os,I.bare,I.base,I.loc,I.cell,I.free,I.freeC,I.pin,I.hok,I.len⟩
def Inv.unwish (I:Inv (X.wish E) pins σ H s):Inv X pins σ H s:=⟨I.ok.unwish,I.os,I.bare,I.base,I.loc,I.cell,I.free,I.freeC,I.pin,I.hok,I.len⟩
def SP.unwish (h:SP (X.wish E) pins D f l):SP X pins D f l:=by
 cases f with
 |ret u=>obtain⟨v,b,g,I,r,q⟩:=h;exact⟨v,b,g,I.unwish,r,q⟩
 |_=>obtain⟨b,g,I,q⟩:=h;exact⟨b,g,I.unwish,q⟩
def PSs.nox {st t} (h:PSs X.nox st t):PSs X st t:=λpins s σ H D I hw=>
 WD (h pins s σ H D (I.wish _) hw) (λ_ _ q=>q.unwish) λ_ _ z=>False.elim z
end
section
variable {X:Cx}{st:Stmt}{rest:Yz}{t u:TS}{e:Expr}{te:TE}{pos:Pos}
noncomputable def Da:TS:=λD b H=>D.nx b H
noncomputable def Fe(t u:TS):TS:=λD b H=>t {D with nx:=u D} b H
def AV:PSs X [] Da:=λ_ _ b H _ I h=>Vo ⟨b,H,I,h⟩
def E1(o:PS X st t)(n:PSs X rest u):PSs X (st::rest) (Fe t u):=by
 intro pins s g H D I h;refine wpAny_execs_cons (thn (o pins s g H {D with nx:=u D} I h) λf l q=>?_)
 cases f with
 |next=>
  obtain⟨b,r,p,q⟩:=q;exact n pins l b r D p q
 |_=>exact q
def U0(g:PS X st t):PSs X [st] t:=by
 intro pins s b H D I h;refine wpAny_execs_cons (thn (g pins s b H D I h) λf l q=>?_);cases f with
 |next=>exact Vo q
 |_=>lia
def Inv.quiet {b:St}{H}{s} (I:Inv X pins b H s):interactive X.env=false:=by simp[interactive,I.ok.kind]
noncomputable def Pp(te:TE):TS:=λD b H=>te b H λ_ f=>D.nx b f
def XA(l:PE X e te)(g:autoParam (swapsWith e none pos.line X.env=pure false) au_0):PS X (.Expr e pos) (Pp te):=by
 intro pins s b H D I h;exact wpAny_Expr_any (thn (l pins s b H _ I h) λv p ⟨x,o,n,q,f⟩=>⟨b,o,n,f⟩) I.quiet g
noncomputable def Po(te:TE):TS:=λD b H=>te b H D.rt
def U8(l:PE X e te):PS X (.Return (some e) pos) (Po te):=by
 intro pins s b H D I h;exact wpAny_Return_some (thn (l pins s b H _ I h) λv p ⟨x,o,n,f,g⟩=>⟨x,b,o,n,f,g⟩)
noncomputable def FZ(c:TT)(t u:TS):TS:=λD f H=>c f H λb g=>if b=true then t D f g else u D f g
def Sm{tc}(p:PT X c tc)(r:PSs X a t)(q:PSs X b u):PS X (.If c a b pos) (FZ tc t u):=by
 intro pins s f H D I h;refine wpAny_If (thn (p pins s f H _ I h) ?_);rintro d g ⟨o,n,l⟩;cases d with
 |true=>exact r pins g f o D n l
 |false=>exact q pins g f o D n l
noncomputable def Dp:TS:=λ_ _ _=>False
def UV:PS X st Dp:=λ_ _ _ _ _ _ h=>h.elim
end
abbrev TG:=V->St->Hp->(St->Hp->Prop)->Prop
abbrev TGs:=List V->St->Hp->(St->Hp->Prop)->Prop
def PG(X:Cx)(target:Expr)(t:TG):Prop:=
 ∀(pins:Yr) (s:Shared) (f:St) (H:Hp) (v:V) (u:Value) (Q:St->Hp->Prop),Inv X pins f H s->RelV v u->t v f H Q->
  wpAny (model X.prog X.w) X.A (assign target X.env u) (λ_ h=>∃b g,Inv X pins b g h/\Q b g) X.xe s
def PGs(X:Cx)(n:Yy)(t:TGs):Prop:=
 ∀(pins:Yr) (s:Shared) (f:St) (H:Hp) (g:List V) (h:Yw) (Q:St->Hp->Prop),Inv X pins f H s->Vals g h->t g f H Q->
  wpAny (model X.prog X.w) X.A (assignInOrder ((assignEach n X.env).map (·.2)) h) (λ_ o=>∃b l,Inv X pins b l o/\Q b l) X.xe s
abbrev Dv:=V->V->V->Hp->(Hp->Prop)->Prop
def F8(X:Cx)(t:Dv):Prop:=
 ∀(pins:Yr) (s:Shared) (b:St) (H:Hp) (o i v:V) (f g u:Value) (Q:Hp->Prop),Inv X pins b H s->RelV o f->RelV i g->RelV v u->t o i v H Q->
  wpAny (model X.prog X.w) X.A (setItem f g u) (λ_ l=>∃h,Inv X pins b h l/\Q h) X.xe s
section
variable {X:Cx}{pos:Pos}
noncomputable def XW(i:Nat):TG:=λv b H Q=>Q (b.set i<|some v) H
def Tv(g:X.N.Nodup)(b:X.N[i]?=some x)(hx:Loc X.env.scope x)(f:autoParam (X.fn x=true\/X.env.scope.names.lookup x=some .local) au_2):PG X (.Name x pos) (XW i):=by
 intro pins s n H v u Q I r h;exact wpAny_assign_Name (Te I g b hx r (λo l=>⟨_,H,l,h⟩) f)
noncomputable def DW:TGs:=λf b H Q=>f=[]/\Q b H
noncomputable def BS(t:TG)(u:TGs):TGs:=λg f H Q=>∃v r,g=v::r/\t v f H λb h=>u r b h Q
def Fi:PGs X [] DW:=by
 intro pins s b H f g Q I r h;obtain⟨e,h⟩:=h;exact assignInOrder_nil ⟨b,H,I,h⟩
def NV{t u}(q:PG X e t)(p:PGs X es u)(o:autoParam ((assignEach (e::es) X.env).map (·.2)=assign e X.env::(assignEach es X.env).map (·.2)) au_0):PGs X (e::es) (BS t u):=by
 intro pins s f H z B Q I r h;obtain⟨v,A,w,h⟩:=h;subst w;cases r with
 |cons r l=>
  rw[o];refine assignInOrder_cons (thn (q pins s f H _ _ _ I r h) ?_);rintro _ g ⟨b,y,x,n⟩;exact p pins g b y _ _ Q x l n
noncomputable def ND(K:Yo)(n:Nat)(t:TGs):TG:=λv b H Q=>∃a xs,v=.ref a/\SqT K H a xs/\xs.length=n/\t xs b H Q
def Gb{k t n}(y:X.calm=true)(h:PGs X es t)(w:autoParam ((assignEach es X.env).length=n) au_0)(f:autoParam ((assignEach es X.env).findIdx? (·.1)=none) au_0):PG X (.Tuple es k pos) (ND X.K n t):=by
 intro pins s g H v u Q I r hw;obtain⟨a,xs,A,hq,x,hw⟩:=hw;subst A;cases r
 obtain⟨p,l,q,C⟩:=I.tuple hq;refine assign_Tuple_tuple (I.ok.hd y) q (by simp[w,←x,l.length]) f λz hx=>?_;have B:Inv X pins g H {s with heap:=z}:=I.kept λb o e=>hx b o (W3<|Wo e) e
 exact h pins _ g H xs _ Q B (by lia) hw
noncomputable def B8(f ti:TE)(t:Dv):TG:=λv b H Q=>f b H λo l=>ti b l λi h=>t o i v h λg=>Q b g
def AG{l ti t}(E:PE X o l)(G:PE X i ti)(C:F8 X t)
  (J:autoParam (∀v,assign (.Subscript o i pos) X.env v=(do
   let b ←holding [v] (eval o X.env)
   let f ←holding [v,b] (eval i X.env)
   standAt pos
   holding [v,b,f] (setItem b f v)
   release [v,b,f] [])) au_3):PG X (.Subscript o i pos) (B8 l ti t):=by
 intro pins s g H v u Q I r h;rw[J];refine Wi (Qy<|thn (E pins s g H _ I h) ?_);rintro b p ⟨x,Y,N,w,B⟩;refine Wi (Qy<|thn (G pins p g Y _ N B) ?_);rintro f n ⟨y,U,M,q,A⟩;refine Wi (wpAny_standAt<|Wi<|Qy<|thn (C pins n g U x y v b f u _ M w q r A) ?_);rintro _ s3 ⟨T,L,z⟩;exact wpAny_release ⟨g,T,L,z⟩
noncomputable def KB(te:TE)(g:TG):TS:=λD b H=>te b H λx f=>g x b f D.nx
def Dy{b e te g}(u:PE X e te)(r:PG X b g)(p:autoParam (swapsWithSole [b] e pos.line X.env=pure false) au_0)(hw:autoParam (swappedStores [b] e X.env=pure none) au_0)(w:autoParam ((assignEach [b] X.env).map (·.2)=[assign b X.env]) au_0):PS X (.Assign [b] e pos) (KB te g):=by
 intro pins s f H D I h;refine wpAny_Assign_stores (thn (u pins s f H _ I h) ?_) p hw;rintro v l ⟨x,z,y,n,o⟩;rw[w];exact thn (r pins l f z x v _ y n o) λ_ A q=>q
def L9(r:X.N.Nodup)(o:X.N[i]?=some x)(hx:Loc X.env.scope x)(q:PE X e te)(n:autoParam (swapsWith e (some<|.Name x b) pos.line X.env=pure false) au_0)(p:autoParam (X.fn x=true\/X.env.scope.names.lookup x=some .local) au_2) :
  PS X (.Assign [.Name x b] e pos) (KB te<|XW i):=by
 intro pins s f H D I h;refine wpAny_Assign_Name (thn (q pins s f H _ I h) λv B ⟨y,z,w,g,l⟩=>?_) n;exact Te w r o hx g (λA u=>⟨_,z,u,l⟩) p
noncomputable def DK(c:TT)(o:TS):TS:=λD f H=>∃W:Nat->St->Hp->Prop,(∃m,W m f H)/\∀m f H,W m f H->
 c f H λb l=>if b=true then ∃N:St->Hp->Prop,(∀g n,N g n->∃h,h<m/\W h g n)/\o {D with nx:=N,ct:=N,bk:=D.nx} f l else D.nx f l
def Iu{tc p}(r:PassesOwn (model X.prog X.w) X.A X.env X.xe)(T:PT X c tc)(U:PSs X body p):PS X (.While c body [] pos) (DK tc p):=by
 intro pins s C H D I h;obtain⟨W,⟨Q,G⟩,turn⟩:=h;refine wpAny_While (codeAny_whileLoop (λn M=>∃l z,Inv X pins l z M/\W n l z) ?_ Q ⟨C,H,I,G⟩);rintro n L ⟨g,y,Y,E⟩;refine Qu r (thn (T pins L g y _ Y<|turn n g y E) λb J ⟨x,u,o⟩=>?_);cases b with
 |true=>
  obtain⟨N,hN,o⟩:=o;refine Qu r (thn (U pins J g x _ u o) λf s3 q=>?_);cases f with
  |brk|ret v=>exact q
  |_=>
   obtain⟨B,H3,I3,n3⟩:=q
   grind
 |false=>
  exact Vo ⟨g,x,u,o⟩
end
structure It where
 go:Nat->Hp->Prop
 yld:Nat->Hp->V->Hp->Prop
 stop:Nat->Hp->Prop
def XX(X:Cx)(pins:Yr)(H:Hp)(b:Addr):Prop:=
 H b=none/\b≠X.env.locals/\b∉X.fs/\(b∈X.ex\/X.s₀.heap.objs.size<=b)/\(∀x c,X.env.cells.lookup x=some c->c≠b)/\∀p∈X.pn++pins,p.1≠b
def Inv.fpOk {g:St}{H H'}{s}{b:Addr} (I:Inv X pins g H s) (f:s.heap.objs.size<=b) (l:H' b=none):XX X pins H' b:=by
 refine⟨l,V1 (Wz I.lt f),I.nofs f,.inr (Wy I.sz f),λx c e z=>?_,λp h z=>?_⟩
 ·obtain⟨v,q⟩:=I.cell x c e;exact absurd (Wz q.lt<|by grind) (Qn _)
 ·exact absurd (Wz (Wo (I.pin p h).1)<|by grind) (Qn _)
structure Turn (P:Program) (w:World) (K:Yo) (tg:Expr) (J:It) (fp:List Addr) (it:Addr) (tn:Nat->Heap->Prop):Prop where
 mem:it∈fp
 obj:∀i h,tn i h->∀b∈fp,∃o,h.get? b=some o/\∀v,o.data≠.cell v
 keep:∀i h h',tn i h->(∀b∈fp,∀o,h.get? b=some o->h'.get? b=some o)->tn i h'
 item:∀(X:Cx),X.prog=P->X.w=w->X.K=K->X.calm=true->∀(i:Nat) (pins:Yr) (s:Shared) (σ:St) (H:Hp) (E:Yt),Inv X pins σ H s->(∀b∈fp,XX X pins H b)->tn i s.heap->J.go i H->
  wpAny (model P w) X.A (pyNext<|.ref it) (λr s1=>∃u,r=some u/\
   wpAny (model P w) X.A (letOwnedTupleGo tg (.ref it) u) (λ_ s2=>∃x H',Inv X pins σ H' s2/\RelV x u/\J.yld i H x H'/\tn (i+1) s2.heap/\∀b∈fp,H' b=none) E s1) E s
 done:∀(X:Cx),X.prog=P->X.w=w->X.K=K->X.calm=true->∀(i:Nat) (pins:Yr) (s:Shared) (σ:St) (H:Hp) (E:Yt),Inv X pins σ H s->(∀b∈fp,XX X pins H b)->tn i s.heap->J.stop i H->
  wpAny (model P w) X.A (pyNext<|.ref it) (λr s1=>r=none/\Inv X pins σ H s1) E s
 self:∀(A:Around) (i:Nat) (s:Shared) (Q:Yt) (E:Yt),tn i s.heap->Q (.ref it) s->wpAny (model P w) A (pyIter<|.ref it) Q E s
abbrev TI:=St->Hp->(It->Hp->Prop)->Prop
def PIE(X:Cx)(pins:Yr)(o:St)(p:Expr)(R:It->Hp->Prop)(f:Value)(h:Shared):Prop:=
 ∃(l:Addr) (n:List Addr) (tn:Nat->Heap->Prop) (J:It) (g:Hp),f=.ref l/\Inv X pins o g h/\Turn X.prog X.w X.K p J n l tn/\tn 0 h.heap/\(∀b∈n,XX X pins g b)/\R J g
def PI(X:Cx)(g iter:Expr)(f:TI):Prop:=
 ∀(pins:Yr) (s:Shared) (b:St) (H:Hp) (R:It->Hp->Prop),Inv X pins b H s->f b H R->
  wpAny (model X.prog X.w) X.A (eval iter X.env) (λv h=>wpAny (model X.prog X.w) X.A (pyIter v) (PIE X pins b g R) X.xe h) X.xe s
def Be {s f g u o n vs Q} (h : s.heap.get? g = some o) (p : o.cls = .type n) (l : o.data = .fields vs)
    (q : ["enumerate", "zip", "dict_itemiterator", "dict_reverseitemiterator", "odict_iterator", "itertools.zip_longest", "itertools.pairwise"].contains n = false) (b : Q () s) : wpAny M A (letOwnedTupleGo f (.ref g) u) Q E s := by
  cases f <;> first
    | exact Wn b
    | (cases u <;> first
        | exact Wn b
        | (refine Wi (wpAny_load h ?_)
           rw [p, l]
           show wpAny M A (if (["enumerate", "zip", "dict_itemiterator", "dict_reverseitemiterator", "odict_iterator", "itertools.zip_longest", "itertools.pairwise"].contains n && vs[0]? == some (rawInt _)) = true then _ else _) Q E s
           rw [Wq (by grind)]
           exact Wn b))
noncomputable def Itl(K:Yo)(a:Addr):It:=
 ⟨λi H=>∃xs x,SqL K H a xs/\xs[i]?=some x,λi H x b=>b=H/\∀xs,SqL K H a xs->xs[i]?=some x,λi H=>∃xs,SqL K H a xs/\xs.length<=i⟩
noncomputable def Itr(lo:Int)(n:Nat):It:=⟨λi _=>i<n,λi H x b=>b=H/\x=.int (lo+i),λi _=>n<=i⟩
def Oc{K tg}(a it:Addr):Turn P w K tg (Itl K a) [it] it (λi h=>h.IsListIter it a i) where
 mem:=by simp
 obj:=λi h st b hb=>by
  have e:b=it:=by simpa using hb
  subst e;obtain⟨o,e,c,d⟩:=st;exact⟨o,e,λv z=>by rw[d]at z;cases z⟩
 keep:=λi h h' st k=>st.at λo e=>k it (by simp) o e
 item:=by
  intro X hP hw hK hc i pins s σ H E I hf st hg;subst hP hw hK;obtain⟨xs,x,hq,hx⟩:=hg;obtain⟨its,rv,p,hz⟩:=I.list hq;obtain⟨u,hu,ru⟩:=rv.get hx;obtain⟨f0,f1,f2,f3,f4,f5⟩:=hf it (by simp);refine wpAny_pyNext_list_item st p.isList (by simpa using hu) λh' st' sb=>?_;have I1:Inv X pins σ H {s with heap:=h'}:=I.turned (λb o hb e=>(sb.2 b hb).trans e) f0 f1 f3 f4 f5
  obtain⟨o,e,c,d⟩:=id st';exact⟨u,rfl,Be e c d (by decide) ⟨x,H,I1,ru,⟨rfl,λys hy=>by rw[I.list_inj hy hq];exact hx⟩,st',λb hb=>(hf b hb).1⟩⟩
 done:=by
  intro X hP hw hK hc i pins s σ H E I hf st hg;subst hP hw hK;obtain⟨xs,hq,hx⟩:=hg;obtain⟨its,rv,p,hz⟩:=I.list hq;obtain⟨f0,f1,f2,f3,f4,f5⟩:=hf it (by simp);have hl:=rv.length;exact wpAny_pyNext_list_end (I.ok.hd hc) st p.isList (by simp;lia) λh' eb=>⟨rfl,I.turned (λb o hb e=>eb b o hb e) f0 f1 f3 f4 f5⟩
 self:=λ_ _ _ _ _ st h=>wpAny_pyIter_listiter st h
def HV{K tg}(it:Addr)(lo:Int)(n:Nat):Turn P w K tg (Itr lo n) [it] it (λi h=>IsRangeIter h it (lo+(i:Nat)*1) ((n:Int)-(i:Nat)) 1) where
 mem:=by simp
 obj:=λi h st b hb=>by
  have e:b=it:=by simpa using hb
  subst e
  exact⟨_,st,λv z=>by
   cases z⟩
 keep:=λi h h' st k=>k it (by simp) _ st
 item:=by
  intro X hP hw hK hc i pins s σ H E I hf st hg;subst hP hw hK;obtain⟨f0,f1,f2,f3,f4,f5⟩:=hf it (by simp);refine(Walks.range (prog:=X.prog) (w:=X.w) (I.ok.hd hc) it lo 1 n).item i s _ _ hg st λv h' tk hv st' kk=>?_;obtain⟨t,rfl⟩:=hv;have I1:Inv X pins σ H {s with heap:=h',toks:=tk}:=I.turned (λb o hb e=>kk b o (by simpa using hb) e) f0 f1 f3 f4 f5
  refine⟨_,rfl,Be st' rfl rfl (by decide) ⟨.int (lo+i),H,I1,⟨t,?_⟩,⟨rfl,rfl⟩,st',λb hb=>(hf b hb).1⟩⟩;rw[Int.mul_one]
 done:=by
  intro X hP hw hK hc i pins s σ H E I hf st hg;obtain⟨f0,f1,f2,f3,f4,f5⟩:=hf it (by simp);exact wpAny_pyNext_range_end (I.ok.hd hc) st (by have:n<=i:=hg;lia) λh' eb=>⟨rfl,I.turned (λb o hb e=>eb b o hb e) f0 f1 f3 f4 f5⟩
 self:=λ_ _ _ _ _ st h=>wpAny_pyIter_rangeiter st h
section
variable {X:Cx}{tg:Expr}
noncomputable def KS(K:Yo)(g:TE):TI:=λf H R=>g f H λx b=>∃a,x=.ref a/\(∃xs,SqL K b a xs)/\R (Itl K a) b
def FG(z:PE X l r):PI X tg l (KS X.K r):=by
 intro pins s n H R I h;refine thn (z pins s n H _ I h) λv g ⟨x,A,f,u,w⟩=>?_;obtain⟨a,e,⟨xs,hq⟩,q⟩:=w;subst e;cases u
 obtain⟨y,B,p,C⟩:=f.list hq;refine wpAny_pyIter_list p.isList ?_;refine⟨g.heap.objs.size,[g.heap.objs.size],_,_,A,rfl,f.kept λb o e=>Wl _ e,Oc a _,⟨_,Wt _ rfl,rfl,rfl⟩,λb E=>?_,q⟩;have e:b=g.heap.objs.size:=by grind
 subst e;exact f.fpOk (Wp _) (f.hok.fresh<|Wp _)
def LL{g:St}{H}{s}{R}{E}{lo f}{t u v}{tk}(I:Inv X pins g H s)(x:-(2 ^ 62)<=lo)(r:lo<2 ^ 62)(p:-(2 ^ 62)<=f)(n:f<2 ^ 62)(q:R (Itr lo (f-lo).toNat) H):wpAny (model X.prog X.w) X.A (pyIter<|.ref s.heap.objs.size) (PIE X pins g tg R) E {s with heap:=s.heap.push {cls:=.type "range",data:=.fields #[.int lo t,.int f u,.int 1 v]},toks:=tk}:=by
 refine wpAny_pyIter_range (IsRange.new ..) (small_one x r p n) ?_;have h:Inv X pins g H {s with heap:=s.heap.push {cls:=.type "range",data:=.fields #[.int lo t,.int f u,.int 1 v]},toks:=tk}:=I.kept λb o e=>Wl _ e
 refine⟨(s.heap.push {cls:=.type "range",data:=.fields #[.int lo t,.int f u,.int 1 v]}).objs.size,[(s.heap.push {cls:=.type "range",data:=.fields #[.int lo t,.int f u,.int 1 v]}).objs.size],_,_,H,rfl,
  h.kept λb o e=>Wl _ e,HV _ lo (f-lo).toNat,?_,λb l=>?_,q⟩
 ·have z:lo+((0:Nat):Int)*1=lo:=by simp
  have y:(((f-lo).toNat:Nat):Int)-((0:Nat):Int)=Builtin.Range.rangeSize lo f 1:=by rw[rangeSize_one];split<;>lia
  rw[z,y];exact Wt _ rfl
 ·have e:b=(s.heap.push {cls:=.type "range",data:=.fields #[.int lo t,.int f u,.int 1 v]}).objs.size:=by simpa using l
  subst e;exact h.fpOk (Wp _) (h.hok.fresh<|Wp _)
noncomputable def Ef(g:TA):TI:=λb H R=>g b H λf h=>∃j:Int,f=[.int j]/\-(2 ^ 62)<=j/\j<2 ^ 62/\R (Itr 0 j.toNat) h
def Mm(w:Gl X "range")(v:X.mg "range"=none)(x:PA X [a] g)(u:autoParam (starEach [a] X.env=[(false,eval a X.env)]) au_0):PI X tg (.Call (.Name "range" p) [a] [] pos) (Ef g):=by
 intro pins s f H R I h;refine Call_ (TH I w v boot_range<|PyProof.Rows.callWith_type1 (thn (x pos pins s f H _ I h) λA B ⟨z,C,y,n,b⟩=>?_) u rfl);obtain⟨j,e,b,o,q⟩:=b;subst e;cases n with
 |cons r l=>
  cases l
  obtain⟨t,rfl⟩:=r;exact call_range_1 (LL y (by lia) (by lia) b o<|by grind)
noncomputable def Bh(o:TI)(g:TG)(p:TS):TS:=λD b H=>o b H λJ r=>∃W:Nat->Nat->St->Hp->Prop,(∃m,W 0 m b r)/\∀i m b H,W i m b H->
 (J.stop i H/\D.nx b H)\/(J.go i H/\∃N:St->Hp->Prop,(∀f h,N f h->∃n,n<m/\W (i+1) n f h)/\∀x h,J.yld i H x h->g x b h λl q=>p {D with nx:=N,ct:=N,bk:=D.nx} l q)
noncomputable def P8(f:List Addr)(h:Heap):Yr:=f.filterMap λb=>(h.get? b).map λo=>(b,o)
def Nu{b o}(f:b∈g)(e:h.get? b=some o):(b,o)∈P8 g h:=Vv.mpr ⟨b,f,by rw[e];rfl⟩
def Mj(f:p∈P8 g h):p.1∈g/\h.get? p.1=some p.2:=by
 obtain⟨b,l,e⟩:=Vv.mp f;cases q:h.get? b with
 |_=>grind
def Inv.pinned {f:St}{H}{s}{fp} (I:Inv X pins f H s) (h:∀b∈fp,XX X pins H b) (n:∀b∈fp,∃o,s.heap.get? b=some o/\∀v,o.data≠.cell v):Inv X (pins++P8 fp s.heap) f H s:=
 I.pins_of λp g=>(Qc.mp g).elim (λz=>I.pin p (W6 _ z)) λz=>by
  obtain⟨l,e⟩:=Mj z;obtain⟨f0,f1,q,_⟩:=h p.1 l
  grind
def Inv.unpinned {b:St}{H}{s} (I:Inv X (pins++g) b H s):Inv X pins b H s:=I.pins_of λp f=>I.pin p (W6 _<|Q2 _ f)
def B0{wi g tb pos}(M:PassesOwn (model X.prog X.w) X.A X.env X.xe)(hc:X.calm=true)(hi:PI X tg iter wi)(hg:PG X tg g)(y:PSs X body tb)(hs:autoParam (∀x,foldedSetIterable iter X.env x=pure x) au_3):PS X (.For tg iter body [] pos) (Bh wi g tb):=by
 intro pins s σ H D I h;refine wpAny_For (thn (hi pins s σ H _ I h) λv s1 h1=>thn h1 λitv s2 h2=>?_) hs;obtain⟨it,U,tn,J,H2,e,I2,T,st2,f2,W,⟨m0,w0⟩,turn⟩:=h2;subst e;have stat:∀{B:Hp},(∀b∈U,B b=none)->∀b∈U,XX X pins B b:=λhn b y=>⟨hn b y,(f2 b y).2⟩;refine codeAny_forLoop_any (λn s'=>∃i q B,Inv X pins q B s'/\tn i s'.heap/\(∀b∈U,B b=none)/\W i n q B) ?_ m0 ⟨0,σ,H2,I2,st2,λb y=>(f2 b y).1,w0⟩;rintro n s3 ⟨i,p,Y,I3,L,Q,w3⟩;rcases turn i n p Y w3 with⟨stop,qn⟩|⟨go,N,hN,step⟩
 ·refine Qu M (thn (T.done X rfl rfl rfl hc i pins s3 p Y X.xe I3 (stat Q) L stop) ?_);rintro r s4 ⟨hr,I4⟩;subst hr;exact Vo ⟨p,Y,I4,qn⟩
 ·refine Qu M (thn (T.item X rfl rfl rfl hc i pins s3 p Y X.xe I3 (stat Q) L go) ?_);rintro r s4 ⟨u,hr,h4⟩;subst hr;refine Qu M (thn h4 ?_);rintro _ s5 ⟨x,H5,I5,r5,y5,E,fr5⟩;refine Qu M (thn (hg _ s5 p H5 x u _ (I5.pinned (stat fr5)<|T.obj _ _ E) r5<|step x H5 y5) ?_);rintro _ s6 ⟨σ6,H6,I6,q6⟩;refine Qu M (thn (y _ s6 σ6 H6 _ I6 q6) λf s7 G=>?_)
  have again:∀{l:St} {z:Hp},Inv X (pins++P8 U s5.heap) l z s7->N l z->∃m,m<n/\∃i q B,Inv X pins q B s7/\tn i s7.heap/\(∀b∈U,B b=none)/\W i m q B:=λ{l z} C n7=>by
   obtain⟨m',hm,w7⟩:=hN l z n7;refine⟨m',hm,i+1,l,z,C.unpinned,T.keep _ _ _ E λb y o e=>(C.pin (b,o)<|W6 _<|W6 _<|Nu y e).1,λb y=>?_,w7⟩;obtain⟨o,e,d⟩:=T.obj _ _ E b y;exact(C.pin (b,o)<|W6 _<|W6 _<|Nu y e).2.1
  cases f with
  |brk=>obtain⟨l,z,C,G⟩:=G;exact⟨l,z,C.unpinned,G⟩
  |ret v=>obtain⟨x7,l,z,C,r7,G⟩:=G;exact⟨x7,l,z,C.unpinned,r7,G⟩
  |_=>obtain⟨l,z,C,n7⟩:=G;exact again C n7
end
abbrev R2:=V->V->Hp->VK->Prop
def OpR(X:Cx)(f:Value->Value->Sem Value)(r:R2):Prop:=
 ∀(pins:Yr) (s:Shared) (b:St) (H:Hp) (x y:V) (v u:Value) (Q:VK),Inv X pins b H s->RelV x v->RelV y u->r x y H Q->
  wpAny (model X.prog X.w) X.A (f v u) (EP X pins b Q) X.xe s
def UnR(X:Cx)(f:Value->Sem Value)(r:V->Hp->VK->Prop):Prop:=
 ∀(pins:Yr) (s:Shared) (b:St) (H:Hp) (x:V) (v:Value) (Q:VK),Inv X pins b H s->RelV x v->r x H Q->
  wpAny (model X.prog X.w) X.A (f v) (EP X pins b Q) X.xe s
def Xd(X:Cx)(f:Value)(r:List V->Hp->VK->Prop):Prop:=
 ∀(pins:Yr) (s:Shared) (b:St) (H:Hp) (xs:List V) (g:Yw) (Q:VK),Inv X pins b H s->Vals xs g->r xs H Q->
  wpAny (model X.prog X.w) X.A (call f g) (EP X pins b Q) X.xe s
def OF(X:Cx)(r:V->Hp->(Bool->Hp->Prop)->Prop):Prop:=
 ∀(pins:Yr) (s:Shared) (b:St) (H:Hp) (x:V) (v:Value) (Q:Bool->Hp->Prop),Inv X pins b H s->RelV x v->r x H Q->
  wpAny (model X.prog X.w) X.A (truthy v) (TP X pins b Q) X.xe s
noncomputable def tOp(r:R2)(g f:TE):TE:=λb H Q=>g b H λx l=>f b l λy h=>r x y h Q
noncomputable def tUn(r:V->Hp->VK->Prop)(f:TE):TE:=λb H Q=>f b H λx g=>r x g Q
noncomputable def rI(C:Int->Int->Prop)(g:Int->Int->V):R2:=λx y H Q=>∃i j,x=.int i/\y=.int j/\C i j/\Q (g i j) H
noncomputable def rI0(g:Int->Int->V):R2:=λx y H Q=>∃i j,x=.int i/\y=.int j/\Q (g i j) H
def rU(g:Int->V):V->Hp->VK->Prop:=λx H Q=>∃i,x=.int i/\Q (g i) H
section
variable {X:Cx}{a b c:Expr}{ta tb tc:TE}{pos:Pos}
def SH(C:PE X a ta)(B:PE X b tb){pins}{s}{g:St}{H}{R:V->V->Hp->Prop}(I:Inv X pins g H s)(h:ta g H λx q=>tb g q λy o=>R x y o){Q}{f:Value->Value->Sem Value}(M:∀v u p x y o,Inv X pins g o p->RelV x v->RelV y u->R x y o->wpAny (model X.prog X.w) X.A (f v u) Q X.xe p) :
  wpAny (model X.prog X.w) X.A (eval a X.env) (λv n=>wpAny (model X.prog X.w) X.A (eval b X.env) (λu l=>wpAny (model X.prog X.w) X.A (f v u) Q X.xe l) X.xe n) X.xe s:=by
 refine thn (C pins s g H _ I h) λv r ⟨x,q,E,J,z⟩=>?_;refine thn (B pins r g q _ E z) λu p ⟨y,o,N,G,L⟩=>?_
 grind
def Gx(p:OpR X (binaryOp o) r)(z:PE X a ta)(w:PE X b tb):PE X (.BinOp a o b pos) (tOp r ta tb):=by
 intro pins s f H Q I h;exact wpAny_BinOp (SH z w I h λv u g x y B A n l q=>p pins g f B x y v u Q A n l q)
def Kr(p:UnR X (unaryOp o) r)(q:PE X a ta):PE X (.UnaryOp o a pos) (tUn r ta):=by
 intro pins s f H Q I h;exact UnaryOp_ (thn (q pins s f H _ I h) λv g ⟨x,w,u,l,n⟩=>p pins g f w x v Q u l n)
def opI{C}{g:Int->Int->Int}(rule:∀i j t u s Q E,C i j->Q (.int (g i j) s.toks) {s with toks:=s.toks+1}->wpAny (model X.prog X.w) X.A (f (.int i t)<|.int j u) Q E s) :
  OpR X f (rI C λi j=>.int (g i j)):=by
 intro pins s r H x y v u Q I o n h;obtain⟨i,j,rfl,rfl,p,q⟩:=h;obtain⟨t,rfl⟩:=o;obtain⟨l,rfl⟩:=n;exact rule i j t l s _ _ p ⟨.int (g i j),H,I.tok _,⟨_,rfl⟩,q⟩
def Rf{g:Int->Int->Int}(rule:∀i j t u s Q E,Q (.int (g i j) s.toks) {s with toks:=s.toks+1}->wpAny (model X.prog X.w) X.A (f (.int i t)<|.int j u) Q E s) :
  OpR X f (rI0 λi j=>.int (g i j)):=by
 intro pins s p H x y v u Q I o n h;obtain⟨i,j,rfl,rfl,q⟩:=h;obtain⟨t,rfl⟩:=o;obtain⟨l,rfl⟩:=n;exact rule i j t l s _ _ ⟨.int (g i j),H,I.tok _,⟨_,rfl⟩,q⟩
def B5{g:Int->Int->Bool}(rule:∀i j t u s Q E,Q (.bool<|g i j) s->wpAny (model X.prog X.w) X.A (f (.int i t)<|.int j u) Q E s) :
  OpR X f (rI0 λi j=>.bl (g i j)):=by
 intro pins s p H x y v u Q I o n h;obtain⟨i,j,rfl,rfl,q⟩:=h;obtain⟨t,rfl⟩:=o;obtain⟨l,rfl⟩:=n;exact rule i j t l s _ _ ⟨.bl (g i j),H,I,rfl,q⟩
def SE(i j:Int):Prop:=0<j/\j<1073741824
def BE(i j:Int):Prop:=0<=j/\j<=1000000/\i.natAbs<2 ^ 64
def CMul(i j:Int):Prop:=(-(2 ^ 64)<i/\i<2 ^ 64)\/(-(2 ^ 64)<j/\j<2 ^ 64)
def CMul.ok (h:CMul i j):IntMulOk i j:=by
 rcases h with⟨g,f⟩|⟨g,f⟩
 ·exact .of_left (intBits_le_64 g f)
 ·exact .of_right (intBits_le_64 g f)
def XD:OpR X (binaryOp .Add) (rI0 λi j=>.int (i+j)):=Rf λ_ _ _ _ _ _ _ q=>add_int q
def Tg:OpR X (binaryOp .Mult) (rI CMul λi j=>.int (i*j)):=opI λ_ _ _ _ _ _ _ f q=>mul_int q f.ok
def Xw:OpR X (binaryOp .FloorDiv) (rI SE λi j=>.int (i / j)):=opI λi j _ _ _ _ _ f q=>by
 have h:=f.1;have g:=f.2;exact floordiv_int (by lia) (by rw[Int.fdiv_eq_ediv_of_nonneg i (by lia)];exact q) (.inl<|PyProof.noPylong_small<|by lia)
def UQ:OpR X (binaryOp .Mod) (rI (λ_ j=>0<j) λi j=>.int (i % j)):=opI λi j _ _ _ _ _ f q=>by
 exact mod_int' (by lia) (by grind)
def FP:OpR X (binaryOp .Pow) (rI BE λi j=>.int (i ^ j.toNat)):=opI λ_ _ _ _ _ _ _ f q=>pow_int_small f.1 f.2.1 f.2.2 q
def unI{g:Int->Int}(rule:∀i t s Q E,Q (.int (g i) s.toks) {s with toks:=s.toks+1}->wpAny (model X.prog X.w) X.A (f<|.int i t) Q E s) :
  UnR X f (rU λi=>.int (g i)):=by
 intro pins s n H x v Q I l h;obtain⟨i,rfl,q⟩:=h;obtain⟨t,rfl⟩:=l;exact rule i t s _ _ ⟨.int (g i),H,I.tok _,⟨_,rfl⟩,q⟩
def Ks:UnR X (unaryOp .USub) (rU λi=>.int (-i)):=unI λ_ _ _ _ _ q=>neg_int q
end
noncomputable def DL:V->V->Bool
 | .non,.non=>true | .non,.int _=>true | .int _,.non=>true | .non,.bl _=>true | .bl _,.non=>true | .non,.str _=>true | .str _,.non=>true
 | .int _,.int _=>true | .bl _,.bl _=>true | .str _,.str _=>true | .byt _,.byt _=>true
 | .int _,.str _=>true | .str _,.int _=>true | .bl _,.str _=>true | .str _,.bl _=>true
 |_,_=>false
noncomputable def rEq:R2:=λx y H Q=>DL x y=true/\Q (.bl<|decide (x=y)) H
noncomputable def rNe:R2:=λx y H Q=>DL x y=true/\Q (.bl (!decide (x=y))) H
def Fw{i j:Int}:decide (V.int i=V.int j)=(i==j):=by
 rw[QP];simp
def E7{i j:Bool}:decide (V.bl i=V.bl j)=(i==j):=by
 rw[QP];simp
def Fd{i j:Str}:decide (V.str i=V.str j)=(i==j):=by
 rw[QP];simp
def Dj{i j:Array UInt8}:decide (V.byt i=V.byt j)=(i.toList==j.toList):=by
 rw[QP];cases i
 cases j
 simp
section
variable {X:Cx}{a b c:Expr}{ta tb tc:TE}{pos:Pos}
def Ut{f:St}{H}{s}{Q}{k g}(I:Inv X pins f H s)(q:Q (.bl k) H)(e:k=g):EP X pins f Q (.bool g) s:=by
 subst e;exact⟨.bl k,H,I,rfl,q⟩
def op_eq:OpR X (compareOp .Eq) rEq:=by
 intro pins s o H x y v u Q I n f h;obtain⟨l,q⟩:=h;cases x with
 |non=>
  cases n
  cases y with
  |non=>cases f;exact PySem.EqNone.eq_none_none (Ut I q<|by simp)
  |bl j=>cases f;exact PySem.EqNone.eq_none_bool (Ut I q<|by simp)
  |int j=>obtain⟨g,rfl⟩:=f;exact PySem.EqNone.eq_none_int (Ut I q<|by simp)
  |str j=>obtain⟨g,rfl⟩:=f;exact PySem.EqNone.eq_none_str (Ut I q<|by simp)
  |_=>exact absurd l W1
 |bl i=>
  cases n
  cases y with
  |non=>cases f;exact PySem.EqNone.eq_bool_none (Ut I q<|by simp)
  |bl j=>cases f;exact eq_bool (Ut I q E7)
  |str j=>obtain⟨g,rfl⟩:=f;exact PySem.EqMixed.eq_bool_str (Ut I q<|by simp)
  |_=>exact absurd l W1
 |int i=>
  obtain⟨t,rfl⟩:=n;cases y with
  |non=>cases f;exact PySem.EqNone.eq_int_none (Ut I q<|by simp)
  |int j=>obtain⟨g,rfl⟩:=f;exact eq_int (Ut I q Fw)
  |str j=>obtain⟨g,rfl⟩:=f;exact PySem.EqMixed.eq_int_str (Ut I q<|by simp)
  |_=>exact absurd l W1
 |str i=>
  obtain⟨t,rfl⟩:=n;cases y with
  |non=>cases f;exact PySem.EqNone.eq_str_none (Ut I q<|by simp)
  |bl j=>cases f;exact PySem.EqMixed.eq_str_bool (Ut I q<|by simp)
  |int j=>obtain⟨g,rfl⟩:=f;exact PySem.EqMixed.eq_str_int (Ut I q<|by simp)
  |str j=>obtain⟨g,rfl⟩:=f;exact eq_str (Ut I q Fd)
  |_=>exact absurd l W1
 |byt i=>
  obtain⟨t,rfl⟩:=n;cases y with
  |byt j=>obtain⟨g,rfl⟩:=f;exact PySem.W.eq_bytes (Ut I q Dj)
  |_=>exact absurd l W1
 |_=>cases y<;>exact absurd (show false=true from l) W1
def op_ne:OpR X (compareOp .NotEq) rNe:=by
 intro pins s o H x y v u Q I n f h;obtain⟨l,q⟩:=h;cases x with
 |non=>
  cases n
  cases y with
  |non=>cases f;exact PySem.EqNone.ne_none_none (Ut I q<|by simp)
  |bl j=>cases f;exact PySem.EqNone.ne_none_bool (Ut I q<|by simp)
  |int j=>obtain⟨g,rfl⟩:=f;exact PySem.EqNone.ne_none_int (Ut I q<|by simp)
  |str j=>obtain⟨g,rfl⟩:=f;exact PySem.EqNone.ne_none_str (Ut I q<|by simp)
  |_=>exact absurd l W1
 |bl i=>
  cases n
  cases y with
  |non=>cases f;exact PySem.EqNone.ne_bool_none (Ut I q<|by simp)
  |bl j=>cases f;exact ne_bool (Ut I q<|WG not E7)
  |str j=>obtain⟨g,rfl⟩:=f;exact PySem.EqMixed.ne_bool_str (Ut I q<|by simp)
  |_=>exact absurd l W1
 |int i=>
  obtain⟨t,rfl⟩:=n;cases y with
  |non=>cases f;exact PySem.EqNone.ne_int_none (Ut I q<|by simp)
  |int j=>obtain⟨g,rfl⟩:=f;exact ne_int (Ut I q<|WG not Fw)
  |str j=>obtain⟨g,rfl⟩:=f;exact PySem.EqMixed.ne_int_str (Ut I q<|by simp)
  |_=>exact absurd l W1
 |str i=>
  obtain⟨t,rfl⟩:=n;cases y with
  |non=>cases f;exact PySem.EqNone.ne_str_none (Ut I q<|by simp)
  |bl j=>cases f;exact PySem.EqMixed.ne_str_bool (Ut I q<|by simp)
  |int j=>obtain⟨g,rfl⟩:=f;exact PySem.EqMixed.ne_str_int (Ut I q<|by simp)
  |str j=>obtain⟨g,rfl⟩:=f;exact ne_str (Ut I q<|WG not Fd)
  |_=>exact absurd l W1
 |byt i=>
  obtain⟨t,rfl⟩:=n;cases y with
  |byt j=>obtain⟨g,rfl⟩:=f;exact PySem.W.ne_bytes (Ut I q<|WG not Dj)
  |_=>exact absurd l W1
 |_=>cases y<;>exact absurd (show false=true from l) W1
def Kq:OpR X (compareOp .Lt) (rI0 λi j=>.bl (decide (i<j))):=B5 λ_ _ _ _ _ _ _ q=>lt_int q
def X5:OpR X (compareOp .Gt) (rI0 λi j=>.bl (decide (j<i))):=B5 λ_ _ _ _ _ _ _ q=>gt_int q
def CU:OpR X (compareOp .GtE) (rI0 λi j=>.bl (decide (j<=i))):=B5 λ_ _ _ _ _ _ _ q=>ge_int q
def OpR.or (h:OpR X f r) (p:OpR X f o):OpR X f (λx y H Q=>r x y H Q\/o x y H Q):=by
 intro pins s g H x y v u Q I n l q;rcases q with q|q
 ·exact h pins s g H x y v u Q I n l q
 ·exact p pins s g H x y v u Q I n l q
def Ke(b:Expr){op}(h:autoParam (op≠.In) au_1)(l:autoParam (op≠.NotIn) au_1):behindInMarks op b=false:=by
 have g:(op==CmpOp.In)=false:=by grind
 have f:(op==CmpOp.NotIn)=false:=by grind
 cases b<;>simp[behindInMarks,g,f]
def E2(p:OpR X (compareOp f) r)(A:PE X a ta)(z:PE X b tb)(w:behindInMarks f b=false):PE X (.Compare a [f] [b] pos) (tOp r ta tb):=by
 intro pins s g H Q I h;exact wpAny_Compare1 (SH A z I h λv u l x y C B o n q=>p pins l g C x y v u Q B o n q) w
noncomputable def T7(t:TE):TT:=λf H Q=>t f H λx g=>∃k,x=.bl k/\Q k g
def XJ(C:OpR X (compareOp g) r)(J:PE X a ta)(G:PE X b tb)(E:behindInMarks g b=false):PT X (.Compare a [g] [b] pos) (T7<|tOp r ta tb):=by
 intro pins s f H Q I h
 refine wpAny_isTrue_Compare1 (thn (J pins s f H _ I h) λv n ⟨x,Y,N,q,B⟩=>thn (G pins n f Y _ N B) λu l ⟨y,U,M,p,A⟩=>
  thn (C pins l f U x y v u _ M q p A) λc s3 ⟨z,T,L,o,k,e,w⟩=>?_) E
 subst e;cases o
 exact Qz ⟨T,L,w⟩
def NR(K:Yo)(x:V)(H:Hp)(k:Bool):Prop:=
 match x with
 | .non=>k=false
 | .bl b=>k=b
 | .int i=>k=(i != 0)
 | .str y=>y.length<=sizeLine/\k=((y.length:Int) != 0)
 | .byt y=>y.size<=sizeLine/\k=((y.size:Int) != 0)
 | .ref p=>(∃xs,SqL K H p xs/\k=!xs.isEmpty)\/(∃xs,SqT K H p xs/\k=!xs.isEmpty)\/∃f,H p=some (.dK f)/\k=!f.isEmpty
 |_=>False
def Mh(r:KV f vs):(!vs.isEmpty)=!f.isEmpty:=by
 cases r<;>rfl
def E4(r:Vals xs f):(!f.toArray.isEmpty)=!xs.isEmpty:=by
 cases r<;>simp
def PU:(sizeLine:Nat)<2 ^ 63:=by trivial
def IE:OF X (λx H Q=>∃k,NR X.K x H k/\Q k H):=by
 intro pins s B H x v Q I l h;obtain⟨k,e,q⟩:=h;have G:=PU;have E:=sizeLine_eq;cases x with
 |non=>
  cases l
  have f:=e;subst f;exact truthy_none ⟨H,I,q⟩
 |bl b=>
  cases l
  have f:=e;subst f;exact Qz ⟨H,I,q⟩
 |int i=>
  obtain⟨t,rfl⟩:=l;have f:=e;subst f;exact PySem.P.truthy_int ⟨H,I,q⟩
 |str y=>
  obtain⟨t,rfl⟩:=l;obtain⟨z,f⟩:=e;subst f;exact PySem.P.truthy_str (by lia) ⟨H,I.tok _,q⟩
 |byt y=>
  obtain⟨t,rfl⟩:=l;obtain⟨z,f⟩:=e;subst f;exact PySem.W.truthy_bytes (by lia) ⟨H,I.tok _,q⟩
 |ref p=>
  cases l
  have f:=e;rcases f with⟨xs,hx,f⟩|⟨xs,hx,f⟩|⟨w,hx,f⟩
  ·subst f;obtain⟨o,r,n,u⟩:=I.list hx;have g:=r.length;exact wpAny_truthy_list n.isList (by simp only[W7];lia) ⟨H,I.tok _,by rw[E4 r];exact q⟩
  ·subst f;obtain⟨o,r,n,u⟩:=I.tuple hx;have g:=r.length;exact truthy_tuple n (by simp only[W7];lia) ⟨H,I.tok _,by rw[E4 r];exact q⟩
  ·subst f;obtain⟨u,A,C,r,m⟩:=I.hok p _ hx;have g:=Paired.length r;exact wpAny_truthy_dict A m (by lia) ⟨H,I.tok _,by rw[Mh r];exact q⟩
 |_=>exact e.elim
def Za7(p:PE X a ta)(o:∀whole,isTrue a X.env whole=(do let v ←whole;standAt a.pos;holding [v] (truthy v))) :
  PT X a (λf H Q=>ta f H λx H'=>∃k,NR X.K x H' k/\Q k H'):=by
 intro pins s f H Q I h;exact isTrue_plain (thn (p pins s f H _ I h) λv g ⟨x,r,q,l,n⟩=>IE pins g f r x v Q q l n) (o _)
def vals1(r:Vals [x] us):∃u,us=[u]/\RelV x u:=by
 cases r with
 |cons g f=>cases f;exact⟨_,rfl,g⟩
def Nh(K:Yo)(x:V)(H:Hp)(n:Nat):Prop:=
 match x with
 | .str y=>y.length<=sizeLine/\n=y.length
 | .byt y=>y.size<=sizeLine/\n=y.size
 | .ref p=>(∃xs,SqL K H p xs/\n=xs.length)\/∃xs,SqT K H p xs/\n=xs.length
 |_=>False
def Ii:Xd X (.builtin "len") (λxs H Q=>∃x n,xs=[x]/\Nh X.K x H n/\Q (.int n) H):=by
 intro pins s B H xs C Q I r h;obtain⟨x,n,rfl,e,q⟩:=h;obtain⟨u,rfl,l⟩:=vals1 r;have E:=sizeLine_eq;cases x with
 |str y=>
  obtain⟨t,rfl⟩:=l;obtain⟨A,g⟩:=e;subst g;exact len_str (by lia) ⟨.int _,H,I.tok _,⟨_,rfl⟩,q⟩
 |byt y=>
  obtain⟨t,rfl⟩:=l;obtain⟨A,g⟩:=e;subst g;exact PySem.W.len_bytes (by lia) ⟨.int _,H,I.tok _,⟨_,rfl⟩,q⟩
 |ref p=>
  cases l
  have g:=e;rcases g with⟨xs,hx,g⟩|⟨xs,hx,g⟩
  ·subst g;obtain⟨w,o,v,z⟩:=I.list hx;have f:=o.length;exact Calls.call_len_list v.isList (by simp only[W7];lia) ⟨.int xs.length,H,I.tok _,⟨_,by simp only[W7];rw[f]⟩,q⟩
  ·subst g;obtain⟨w,o,v,z⟩:=I.tuple hx;have f:=o.length;exact len_tuple v (by simp only[W7];lia) ⟨.int xs.length,H,I.tok _,⟨_,by simp only[W7];rw[f]⟩,q⟩
 |_=>exact e.elim
end
structure K9 (h:Heap) (x dx C:Addr) (mA:Ys):Prop where
 obj:h.get? x=some (PySem.W.instObj C dx)
 ns:h.Ns1 dx mA
 ne:dx≠x
def RJ{h:Heap}{dx}{mA}(n:h.Ns1 dx mA):∃f,h.get? dx=some f/\∀name,PySem.W.lookIn name f=some (mA name):=by
 obtain⟨o,u,v,l,s,r,_,p⟩:=n;refine⟨o,l,λname=>?_⟩;have e:=p name;unfold nsFind findBy at e;unfold PySem.W.lookIn;rw[s]
 dsimp only
 split
 ·grind
 ·rename_i q
  have a:u.toList.any (·.refKey)=false:=by
   rw[List.any_eq_false];intro y g;obtain⟨z,t,b⟩:=r y (Array.mem_toList_iff.mp g);simp[DictEntry.refKey,b]
  grind
def K9.look (I:K9 h x n C f):∃b,PySem.W.InstAt h x (PySem.W.instObj C n) C (some b)/\∀name,PySem.W.lookIn name b=some (f name):=
 let ⟨b,g,l⟩:=RJ I.ns
 ⟨b,⟨I.obj,rfl,rfl,g⟩,l⟩
section
variable {prog:Program}{w:World}{A:Around}{E:Yt}{s:Shared}{K:Yo}{x dx C f:Addr}{mA:Ys}{name:Str}{v:Value}
def MZ{Q}(X:K.In s.heap)(I:K9 s.heap x dx C mA)(l:PySem.W.plainGet K C name=true)(g:PySem.W.hasDictIn K C=true)(n:PySem.W.findIn K (.ref C) name=some none)(p:mA name=some v)(b:PySem.W.handedIn v=true)(h:Q v {s with toks:=s.toks+1}) :
  wpAny (model prog w) A (getAttr (.ref x) name expr) Q E s:=by
 obtain⟨o,J,q⟩:=I.look;exact PySem.W.get_value X J (Vr l).1 (PySem.W.findObj_own g n rfl<|by grind) b h
def Ri{Q}(X:K.In s.heap)(I:K9 s.heap x dx C mA)(b:PySem.W.plainGet K C name=true)(p:PySem.W.findIn K (.ref C) name=some (some<|.ref f))(n:PySem.W.isFn K (.ref f)=true)(l:mA name=none)(h:Q (.ref f,[.ref x]) s) :
  wpAny (model prog w) A (getMethod (.ref x) name q) Q E s:=by
 obtain⟨g,J,o⟩:=I.look;exact PySem.W.method_fn X J (Vr b).1 (Vr b).2 p (beq_iff_eq.mp n) (by show(PySem.W.lookIn name g).map (·.isSome)=some false;rw[o,l];rfl) h
def M6(X:K.In s.heap)(I:K9 s.heap x dx C mA)(z:PySem.W.findIn K (.ref C) "__setattr__"=some (some<|.builtin "object.__setattr__"))(B:PySem.W.plainOver K C=true)(u:PySem.W.takerIn K C name=some none)(G:PySem.W.hasDictIn K C=true)(hw:PySem.Within mA ns)(hsz:ns.length<=sizeLine)(h:∀n,K9 n x dx C (λy=>if y=name then some v else mA y)->Heap.SameBut dx s.heap n->Q () {s with heap:=n,toks:=s.toks+2}) :
  wpAny (model prog w) A (setAttr (.ref x) name v) Q E s:=by
 obtain⟨N,J,U⟩:=I.look;refine PySem.W.set_plain X J z (PySem.W.osa_open X J B u λb=>?_);obtain⟨Y,H,q⟩:=PySem.W.any_some G;refine Wi (Wn<|Wi<|Wi<|wpAny_loadPart I.obj<|Wi<|PySem.W.Looks.here (PySem.W.looks_clsIn X H) ?_);rw[q];refine Wn (Wi<|Wn<|Wi ?_);refine wpAny_nsSet1 I.ns λn l g=>?_;obtain⟨T,L,M,o,p,r⟩:=l.count (PySem.Within.cons name v hw);refine Wi (wpAny_lookBehind o (by rw[p];exact pastItsLine_dict (Wy r<|by grind)) ?_);exact Wn (h _ ⟨(g.2 _<|Ne.symm I.ne).trans I.obj,l,I.ne⟩ g)
def CV{vs b}(X:K.In s.heap)(g:PySem.W.makesIn K C=true)(l:PySem.W.findIn K (.ref C) "__init__"=some (some<|.ref f))(n:PySem.W.typeIn K (.ref f)=some (.type "function"))
  (h:codeAny (model prog w) (A.under<|.builtin "type.__call__" ⟨.ref C::vs,b⟩) (.call (.ref f) ⟨.ref (s.heap.objs.size+1)::vs,b⟩) (PySem.W.InitBack (s.heap.objs.size+1) R)
   {s with heap:=(s.heap.push PySem.W.emptyDict).push (PySem.W.instObj C s.heap.objs.size)}) :
  codeAny (model prog w) A (.call (.ref C) ⟨vs,b⟩) R s:=PySem.W.make_core (PySem.W.makes_of X g) (QD X l) (λself=>PySem.W.bind_fn X self n) (.inl rfl) h
end
noncomputable def UR(f:Str)(v:V):List (Str×V)->List (Str×V)
 |[]=>[(f,v)]
 |(g,x)::r=>if g=f then(g,v)::r else(g,x)::UR f v r
theorem FB(f g:Str)(v:V):∀fs,(UR f v fs).lookup g=if g=f then some v else fs.lookup g
 |[]=>by
  show List.lookup g [(f,v)]=_;by_cases h:g=f
  ·have b:=beq_iff_eq.mpr h;simp only[List.lookup,b,Wr h]
  ·have b:=Q7.mpr h;simp only[List.lookup,b,Wq h]
 |(k,x)::r=>by
  rw[show UR f v ((k,x)::r)=(if k=f then(k,v)::r else(k,x)::UR f v r)from rfl]
  by_cases l:k=f
  ·rw[Wr l];by_cases h:g=k
   ·simp_all
   ·have b:=Q7.mpr h;simp only[List.lookup,b,Wq (λe:g=f=>h (e.trans l.symm))]
  ·rw[Wq l];by_cases h:g=k
   ·simp_all
   ·have b:=Q7.mpr h;simp only[List.lookup,b];exact(FB f g v r)
theorem Sh(f:Str)(v:V):∀fs,f∈(UR f v fs).map (·.1)/\∀g,g∈fs.map (·.1)->g∈(UR f v fs).map (·.1)
 |[]=>⟨by simp[UR],λg h=>by simp at h⟩
 |(k,x)::r=>by
  obtain⟨l,b⟩:=Sh f v r;rw[show UR f v ((k,x)::r)=(if k=f then(k,v)::r else(k,x)::UR f v r)from rfl]
  by_cases n:k=f
  ·grind
  ·grind
theorem BU(f:Str)(v:V):∀fs,(UR f v fs).length<=fs.length+1
 |[]=>by simp[UR]
 |(k,x)::r=>by
  have b:=BU f v r;rw[show UR f v ((k,x)::r)=(if k=f then(k,v)::r else(k,x)::UR f v r)from rfl]
  by_cases g:k=f
  ·grind
  ·grind
def RelO.some_of (r:RelO (some v) o):∃u,o=some u/\RelV v u:=by
 cases o with
 |none=>trivial
 |some u=>exact⟨u,rfl,r⟩
def RelO.none_of (r:RelO none o):o=none:=by
 cases o with
 |none=>rfl
 |some u=>trivial
def Hu(r:RelV v u):PySem.W.handedIn u=true:=by
 cases v with
 |non|bl b|ref a|ty n=>cases r;rfl
 |_=>obtain⟨t,e⟩:=r;cases e;rfl
section
variable {P:Program}{w:World}{H H':Hp}{h h':Heap}{a C dx:Addr}{fs fs':List (Str×V)}
def Nv(g:HOk P w H h)(e:H a=some (.ins C dx fs)):∃b,K9 h a dx C b/\(∀f,RelO (fs.lookup f) (b f))/\PySem.Within b (fs.map (·.1))/\fs.length<=1000/\H dx=some (.own a):=by
 obtain⟨d,z,o,l,b,n,r,q⟩:=(g a _ e);exact⟨b,⟨l,n,o⟩,r,q,z,d⟩
end
structure Cls (K:Yo) (C:Addr):Prop where
 pg:PySem.W.plainGet K C Str.empty=true
 hd:PySem.W.hasDictIn K C=true
 po:PySem.W.plainOver K C=true
 sa:PySem.W.findIn K (.ref C) "__setattr__"=some (some<|.builtin "object.__setattr__")
def Cls.get {K C} (c:Cls K C) (f:Str):PySem.W.plainGet K C f=true:=c.pg
def NoAttr(K:Yo)(C:Addr)(f:Str):Prop:=PySem.W.findIn K (.ref C) f=some none
def NoAttr.taker {K C f} (n:NoAttr K C f):PySem.W.takerIn K C f=some none:=by
 unfold PySem.W.takerIn;rw[show PySem.W.findIn K (.ref C) f=some none from n]
 rfl
structure U9 (K:Yo) (C:Addr) (m:Str) (f:Addr):Prop where
 at_:PySem.W.findIn K (.ref C) m=some (some<|.ref f)
 fn:PySem.W.isFn K (.ref f)=true
 kp:PySem.W.keepIn K (.ref f)=true
section
variable {X:Cx}{pins:Yr}{σ:St}{H:Hp}{s:Shared}{a C dx:Addr}{fs:List (Str×V)}{f:Str}{v:V}{A:Around}{E:Yt}
def L5{Q}(I:Inv X pins σ H s)(e:H a=some (.ins C dx fs))(c:Cls X.K C)(n:NoAttr X.K C f)(l:fs.lookup f=some v)(h:∀u g,Inv X pins σ H g->RelV v u->Q u g):wpAny (model X.prog X.w) A (getAttr (.ref a) f b) Q E s:=by
 obtain⟨q,O,r,_,_,_⟩:=Nv I.hok e;obtain⟨u,p,o⟩:=RelO.some_of (by rw[←l];exact r f);exact MZ I.kIn O (c.get f) c.hd n p (Hu o) (h u _ (I.tok _) o)
def Bi{Q}(I:Inv X pins σ H s)(e:H a=some (.ins C dx fs))(c:Cls X.K C)(k:U9 X.K C m g)(l:fs.lookup m=none)(h:Q (.ref g,[.ref a]) s):wpAny (model X.prog X.w) A (getMethod (.ref a) m b) Q E s:=by
 obtain⟨n,O,r,_,_,_⟩:=Nv I.hok e;exact Ri I.kIn O (c.get m) k.at_ k.fn (RelO.none_of<|by rw[←l];exact r m) h
def Gi(I:Inv X pins σ H s)(e:H a=some (.ins C dx fs))(c:Cls X.K C)(n:NoAttr X.K C f)(hl:fs.length<1000)(J:RelV y u)(h:∀x,Inv X pins σ (upd H a<|.ins C dx<|UR f y fs) x->Q () x):wpAny (model X.prog X.w) A (setAttr (.ref a) f u) Q E s:=by
 obtain⟨L,O,r,p,_,B⟩:=Nv I.hok e;have M:(fs.map (·.1)).length<=sizeLine:=by rw[Wk,sizeLine_eq];lia
 refine M6 I.kIn O c.sa c.po n.taker c.hd p M λY l G=>h _ ?_;have T:∃o,Y.get? dx=some o:=let ⟨o,_,_,e',_⟩:=l.ns;⟨o,e'⟩;refine I.write (by rw[e];exact True.intro) (.inr B) (λb q U z=>(G.2 b U).trans z) T ?_;refine⟨by rw[Uj O.ne];exact B,?_,O.ne,l.obj,_,l.ns,λg=>?_,λg N=>?_⟩
 ·have:=BU f y fs;lia
 ·show RelO ((UR f y fs).lookup g) (if g=f then some u else L g);rw[FB];by_cases q:g=f
  ·rw[Wr q,Wr q];exact J
  ·grind
 ·by_cases q:g=f
  ·rw[q];exact(Sh f y fs).1
  ·refine(Sh f y fs).2 g (p g λz=>N ?_)
   grind
def Inv.made (I:Inv X pins σ H s):Inv X pins σ (upd (upd H s.heap.objs.size<|.own (s.heap.objs.size+1)) (s.heap.objs.size+1)<|.ins C s.heap.objs.size [])
  {s with heap:=(s.heap.push PySem.W.emptyDict).push (PySem.W.instObj C s.heap.objs.size)}:=by
 have h:(s.heap.push PySem.W.emptyDict).get? s.heap.objs.size=some PySem.W.emptyDict:=Wt s.heap rfl
 have r:((s.heap.push PySem.W.emptyDict).push (PySem.W.instObj C s.heap.objs.size)).get? (s.heap.objs.size+1)=some (PySem.W.instObj C s.heap.objs.size):=by
  have:=Wt (s.heap.push PySem.W.emptyDict) (o:=PySem.W.instObj C s.heap.objs.size) rfl
  rwa[QX]at this
 have p:(s.heap.push PySem.W.emptyDict).Ns s.heap.objs.size (λ_=>none):=⟨PySem.W.emptyDict,#[],_,h,rfl,(λe n=>absurd n (by simp)),λ_=>rfl⟩;refine(I.laid (o:=.own (s.heap.objs.size+1)) (t':=s.toks) (λb u q=>Wl _ q) (Wp _) ⟨_,h⟩).laid (λb u q=>Wl _ q) (Qr<|QX _ _) ?_;have g:s.heap.objs.size≠s.heap.objs.size+1:=W3 (QE _);refine⟨by rw[Uj g,Ur],WV _,g,r,λ_=>none,(Heap.Ns1.of_empty p).at λo q=>Wl _ q,λ_=>True.intro,λy l=>absurd rfl l⟩
def Hq{env e f pos s Q}(g:attributeBase e f env (eval e env)=eval e env)(h:wpAny (model prog w) A (eval e env) (λo b=>wpAny (model prog w) A (getAttr o f true) Q E b) E s):wpAny (model prog w) A (eval (.Attribute e f pos) env) Q E s:=
 Attribute_any_ h (by rw[arm_eval_Attribute,g])
end
noncomputable def Nz(K:Yo)(h:TE)(f:Str):TE:=λg H Q=>h g H λx b=>∃a C l fs v,x=.ref a/\b a=some (.ins C l fs)/\Cls K C/\NoAttr K C f/\fs.lookup f=some v/\Q v b
noncomputable def AW(K:Yo)(n l:TE)(f:Str):TS:=λD b H=>l b H λy o=>n b o λx h=>∃a C g fs,x=.ref a/\h a=some (.ins C g fs)/\Cls K C/\NoAttr K C f/\fs.length<1000/\
 D.nx b (upd h a<|.ins C g<|UR f y fs)
section
variable {X:Cx}{o e value:Expr}{f:Str}{pos pos' tpos:Pos}{ta tv:TE}
def Ki(r:PE X e ta)(w:attributeBase e f X.env (eval e X.env)=eval e X.env):PE X (.Attribute e f pos) (Nz X.K ta f):=by
 intro pins s b H Q I h;refine Hq w (thn (r pins s b H _ I h) ?_);rintro u L ⟨x,E,B,g,a,C,M,fs,v,y,z,c,n,l,q⟩;subst y;obtain rfl:=g;exact L5 B z c n l λG J A p=>⟨v,E,A,p,q⟩
def N9(A:PE X o ta)(w:PE X value tv)(z:swapsWith value (some<|.Attribute o f pos') pos.line X.env=pure false):PS X (.Assign [.Attribute o f pos'] value pos) (AW X.K ta tv f):=by
 intro pins s b H D I h;refine plainObj_wpAny_Assign_Attribute (thn (w pins s b H _ I h) ?_) z;rintro u g ⟨y,M,L,p,q⟩;refine thn (A pins g b M _ L q) ?_;rintro T Q ⟨x,Y,J,r,a,C,U,fs,B,E,c,n,l,v⟩;subst B;obtain rfl:=r;exact Gi J E c n l p λN G=>⟨b,_,G,v⟩
def Zbg{m}{apos}{args}{pins}{s}{b:St}{H}{Q}{te}(E:PE X e te)(I:Inv X pins b H s)
  (h:te b H λx p=>∃a C v fs g,x=.ref a/\p a=some (.ins C v fs)/\Cls X.K C/\U9 X.K C m g/\fs.lookup m=none/\
   ∀n,Inv X pins b p n->wpAny (model X.prog X.w) X.A (callWith pos (.ref g) [.ref a] (backTo pos<|starEach args X.env)<|backToKw pos<|keywordEach [] X.env) Q X.xe n)
  (B:eval (.Call (.Attribute e m apos) args [] pos) X.env=(do
   let r ←eval e X.env
   standAt apos.atName
   let (f,first) ←holding [r] (getMethod r m L)
   callWith pos f first (backTo pos<|starEach args X.env) (backToKw pos<|keywordEach [] X.env))) :
  wpAny (model X.prog X.w) X.A (eval (.Call (.Attribute e m apos) args [] pos) X.env) Q X.xe s:=by
 refine Vj (thn (E pins s b H _ I h) ?_) B;rintro u n ⟨x,p,y,z,a,C,v,fs,g,G,J,c,k,l,q⟩;subst G;obtain rfl:=z;exact Bi y J c k l (q n y)
end
section
variable {X:Cx}{pins:Yr}{σ:St}{H:Hp}{s:Shared}{A:Around}{E:Yt}{Q:Yt}{c:Value}{b:Bool}
inductive UW (K:Yo) (H:Hp):V->Value->Prop where
 |non:UW K H .non (.type "NoneType")
 |bl (x:Bool):UW K H (.bl x) (.type "bool")
 |int (i:Int):UW K H (.int i) (.type "int")
 |str (x:Str):UW K H (.str x) (.type "str")
 |flt (x:UInt64):UW K H (.flt x) (.type "float")
 |lst {a:Addr} {xs:List V} (e:H a=some (.lst xs)):UW K H (.ref a) (.type "list")
 |frz {a:Addr} {o:Obj} {xs:List V} (e:H a=some (.frz o<|.lst xs)):UW K H (.ref a) (.type "list")
 |tup {a:Addr} {xs:List V} (e:H a=some (.tup xs)):UW K H (.ref a) (.type "tuple")
 |dK {a:Addr} {kvs:List (Key×V)} (e:H a=some (.dK kvs)):UW K H (.ref a) (.type "dict")
 |dT {a:Addr} {kvs:List (List Key×V)} (e:H a=some (.dT kvs)):UW K H (.ref a) (.type "dict")
 |ins {a C dx:Addr} {fs:List (Str×V)} (e:H a=some (.ins C dx fs)) (cl:Cls K C) (ha:PySem.W.findIn K (.ref C) "__class__"=some (some<|.builtin "object.__class__"))
   (hn:PySem.W.specialIn K (.builtin "object.__class__") "__get__"=some (some<|.builtin "getset_descriptor.__get__")) (htk:PySem.W.takesIn K (.builtin "object.__class__")=some true)
   (hm:PySem.W.mroIn K C (.type "object")=some true):UW K H (.ref a) (.ref C)
def Zao(I:Inv X pins σ H s)(f:RelV x u)(L:UW X.K H x t)(e:PySem.W.kitOne X.K t c=some b)(h:∀M,Q (.bool b) {s with toks:=M}) :
  wpAny (model X.prog X.w) A (call (.builtin "isinstance") [u,c]) Q E s:=by
 cases L with
 |non=>cases f;exact WS PySem.W.kitx_none I.kIn True.intro e (λz=>nomatch z) h
 |bl y=>cases f;exact WS PySem.W.kitx_bool I.kIn True.intro e (λz=>nomatch z) h
 |int i=>obtain⟨t,q⟩:=f;cases q;exact WS PySem.W.kitx_int I.kIn True.intro e (λz=>nomatch z) h
 |str y=>obtain⟨t,q⟩:=f;cases q;exact WS PySem.W.kitx_str I.kIn True.intro e (λz=>nomatch z) h
 |flt y=>obtain⟨t,q⟩:=f;cases q;exact WS PySem.W.kitx_float I.kIn True.intro e (λz=>nomatch z) h
 | @lst a xs g=>
  cases f
  obtain⟨_,_,n,_,l⟩:=(I.hok a _ g);exact WS PySem.W.kitx_list I.kIn ⟨_,l,rfl⟩ e (λz=>nomatch z) h
 | @frz a ob xs g=>
  cases f
  obtain⟨_,_,_,n,_,l⟩:=(I.hok a _ g);exact WS PySem.W.kitx_list I.kIn ⟨_,l,rfl⟩ e (λz=>nomatch z) h
 | @tup a xs g=>
  cases f
  obtain⟨_,_,_,p⟩:=(I.hok a _ g);obtain⟨o,l,r,_⟩:=p;exact WS PySem.W.kitx_tuple I.kIn ⟨o,l,r⟩ e (λz=>nomatch z) h
 | @dK a v g=>
  cases f
  obtain⟨_,_,vs,_,p⟩:=(I.hok a _ g);obtain⟨o,Y,ep,l,r,_⟩:=p;exact WS PySem.W.kitx_dict I.kIn ⟨o,l,r.1⟩ e (λz=>nomatch z) h
 | @dT a v g=>
  cases f
  obtain⟨_,_,xs,_,o,Y,ep,l,r,_⟩:=(I.hok a _ g);exact WS PySem.W.kitx_dict I.kIn ⟨o,l,r.1⟩ e (λz=>nomatch z) h
 | @ins a C dx fs g G U N B T=>
  cases f
  obtain⟨mA,O,_⟩:=Nv I.hok g;obtain⟨od,J,_⟩:=O.look;exact WS (PySem.W.kitx_own (G.get _) G.hd U N B T) I.kIn J e (λz=>nomatch z) h
end
structure Uh (k:Nat) (A:Around):Prop where
 hd:A.handled=none
 dp:A.depth+3*k+5<recursionLimit
 un:A.units+16*k+200<cLine
 gd:A.guards=some []
def Uh.mono {j k A} (r:Uh k A) (h:j<=k):Uh j A:=⟨r.hd,by have:=r.dp;lia,by have:=r.un;lia,r.gd⟩
def Uh.deeper (r:Uh (k+1) A) (env:Env):Uh k (A.deeper env):=
 ⟨r.hd,by have:=r.dp;show A.depth+1+3*k+5<_;lia,by have:=r.un;show A.units+3+16*k+200<_;lia,r.gd⟩
def RH{A:Around}{C}{us}{kw}:(A.under<|.builtin "type.__call__" ⟨.ref C::us,kw⟩).depth=A.depth+1:=by
 rfl
def Ia{A:Around}{C}{us}{kw}:(A.under<|.builtin "type.__call__" ⟨.ref C::us,kw⟩).units=A.units+1:=rfl
def Zag{A:Around}{C:Addr}{us:Yw}{b:List (Str×Value)}(h:A.guards=some []):(A.under<|.builtin "type.__call__" ⟨.ref C::us,b⟩).guards=some []:=by
 simpa [Around.under,Code.guards,Code.isGuard,guardIds,pushGuards]using h
def Uh.make (r:Uh (k+1) A) (C:Addr) (us:Yw) (b:List (Str×Value)):Uh k (A.under<|.builtin "type.__call__" ⟨.ref C::us,b⟩):=
 ⟨r.hd,by have:=r.dp;rw[RH];lia,by have:=r.un;rw[Ia];lia,Zag r.gd⟩
def Uh.depth (r:Uh k A):A.depth<recursionLimit:=by have:=r.dp;lia
def Uh.units (r:Uh k A):A.units+64<cLine:=by have:=r.un;lia
def Uh.units0 (r:Uh k A):A.units<cLine:=by have:=r.un;lia
noncomputable def UK:TA:=λ_ H Q=>Q [] H
noncomputable def U7(g:TE)(f:TA):TA:=λb H Q=>g b H λx l=>f b l λxs h=>Q (x::xs) h
section
variable {X:Cx}{e:Expr}{es:Yy}{te:TE}{t:TA}{pos:Pos}
def Xf:PA X [] UK:=λ_ _ _ _ H Q I h=>Calls.spliced_nil ⟨[],H,I,.nil,h⟩
def U5(r:PE X e te)(q:PA X es t)(p:autoParam (starEach (e::es) X.env=(false,eval e X.env)::starEach es X.env) au_0):PA X (e::es) (U7 te t):=by
 intro pos pins s b H Q I h;rw[p];refine Calls.spliced_cons (thn (r pins s b H _ I h) ?_);rintro u f ⟨x,z,w,l,o⟩;exact thn (q pos pins f b z _ w o) λA B ⟨xs,y,v,g,n⟩=>⟨x::xs,y,v,.cons l g,n⟩
noncomputable def Cf(t:TA):TE:=λf H Q=>t f H λxs b=>xs.length<=sizeLine/\∀p,b p=none->Q (.ref p) (upd b p<|.tup xs)
noncomputable def SB(t:TA):TE:=λf H Q=>t f H λxs b=>xs.length<=sizeLine/\∀p,b p=none->Q (.ref p) (upd b p<|.lst xs)
def PJ(h:PA X es t):PE X (.Tuple es p pos) (Cf t):=by
 intro pins s l H Q I hq;refine wpAny_Tuple_spliced (thn (h pos pins s l H _ I hq) ?_);rintro n f ⟨xs,o,g,r,z,q⟩;refine⟨by rw[←r.length];exact z,?_⟩;refine⟨.ref f.heap.objs.size,upd o f.heap.objs.size (.tup xs),g.laid (λb u e=>Wl _ e) (Wp _) ?_,rfl,q _ (g.hok.fresh<|Wp _)⟩;exact⟨z,n,r,⟨_,Wt _ rfl,rfl,_,rfl⟩⟩
def Xk(h:PA X es t):PE X (.List es pos) (SB t):=by
 intro pins s l H Q I hq;refine wpAny_List_spliced (thn (h pos pins s l H _ I hq) ?_);rintro n f ⟨xs,o,g,r,z,q⟩;refine⟨by rw[←r.length];exact z,?_⟩;refine⟨.ref f.heap.objs.size,upd o f.heap.objs.size (.lst xs),g.laid (λb u e=>Wl _ e) (Wp _) ?_,rfl,q _ (g.hok.fresh<|Wp _)⟩;exact⟨z,n,0,r,Wt _ rfl⟩
end
abbrev Sp:=List V->Hp->VK->XK->Prop
abbrev CXT:=List Env->Hp->Shared->XK->Yt
structure KG (P:Program) (w:World) (K:Yo) (mg:Ys) (base:Heap) (A:Around) (outer:List Env) (s:Shared) (H:Hp):Prop where
 frames:A.frames=some outer
 mod:Mod K mg base
 bs:∀b o,base.get? b=some o->s.heap.get? b=some o/\H b=none
 bsz:base.objs.size<=s.heap.objs.size
 funs:s.heap.FunFrames base outer
 frf:∀b∈frs outer,H b=none
 hok:HOk P w H s.heap
 bare:AllBare s.gens
def CE(outer:List Env)(P:Program)(w:World)(H:Hp)(s:Shared)(Q:VK)(u:Value)(b:Shared):Prop:=
 ∃v f,b.os=s.os/\AllBare b.gens/\Un (frs outer) [] H f s.heap b.heap/\HOk P w f b.heap/\RelV v u/\Q v f
def CR(CX:CXT)(outer:List Env)(P:Program)(w:World)(H:Hp)(s:Shared)(Q:VK)(E:XK)(r:Result)(b:Shared):Prop:=
 match r with
 | .ok (.ret u)=>CE outer P w H s Q u b
 | .ok _=>False
 | .error e=>CX outer H s E e b
structure UM (P:Program) (w:World) (K:Yo) (mg:Ys) (base:Heap) (CX:CXT) (k:Nat) (f:Addr) (fd:FuncData) (ps:Yx) (sp:Sp):Prop where
 len:∀vs H Q E,sp vs H Q E->vs.length=ps.length
 run:∀(A:Around) (outer:List Env) (s:Shared) (H:Hp) (args:Args) (us:Yw) (vs:List V) (Q:VK) (E:XK),Uh k A->KG P w K mg base A outer s H->BindsTo s fd args (ps.zip us)->Vals vs us->sp vs H Q E->
  codeAny (model P w) A (.call (.ref f) args) (CR CX outer P w H s Q E) s
def UM.imp {K g base CX k f l ps sp b} (F:UM P w K g base CX k f l ps sp)
  (h:∀vs H Q E,b vs H Q E->sp vs H Q E):UM P w K g base CX k f l ps b:=
 ⟨λvs H Q E q=>F.len vs H Q E (h _ _ _ _ q),λA outer s H args n vs Q E r u v o p=>F.run A outer s H args n vs Q E r u v o (h _ _ _ _ p)⟩
def KG.make {K b base A outer s H} (e:KG P w K b base A outer s H) (C:Addr) (us:Yw) (f:List (Str×Value)) :
  KG P w K b base (A.under<|.builtin "type.__call__" ⟨.ref C::us,f⟩) outer s H:=⟨by first|exact e.frames|(simpa [Around.under,Code.envs,Code.isFrame,pushEnvs]using e.frames),e.mod,e.bs,e.bsz,e.funs,e.frf,e.hok,e.bare⟩
section
variable {X:Cx}{pins:Yr}{σ:St}{H:Hp}{s s':Shared}
def Inv.env0 (I:Inv X pins σ H s):KG X.prog X.w X.K X.mg X.base X.A X.stack s H:=
 ⟨I.ok.frames,I.ok.mod,I.bs,Wy I.ok.bsz I.sz,I.stack,I.stkFree,I.hok,I.bare⟩
def Inv.after (I:Inv X pins σ H s) (h:CE X.stack X.prog X.w H s Q u s'):EP X pins σ Q u s':=by
 obtain⟨v,n,os,bare,un,f,r,q⟩:=h;obtain⟨o,g,d,t,l⟩:=s';obtain rfl:=os;exact⟨v,n,I.call un f bare (λb z=>absurd z (by simp)),r,q⟩
end
noncomputable def P5(sp:Sp)(b:List V)(E:XK)(t:TA):TE:=λf H Q=>t f H λg h=>sp (g++b) h Q E
noncomputable def Kl(C:Addr)(m:Str)(sp:Sp)(b:List V)(E:XK)(l:TE)(t:TA):TE:=λf H Q=>l f H λx g=>∃a n fs,x=.ref a/\g a=some (.ins C n fs)/\fs.lookup m=none/\
 t f g λh o=>sp (x::(h++b)) o Q E
noncomputable def Nc(C:Addr)(sp:Sp)(f:List V)(E:XK)(t:TA):TE:=λh H Q=>t h H λl g=>∀x b,g x=none->g b=none->b≠x->
 sp (.ref x::(l++f)) (upd (upd g b<|.own x) x<|.ins C b []) (λv n=>v=.non/\Q (.ref x) n) E
def Binds(K:Yo)(f:FuncData)(ps:Yx)(ds:Yw):Prop:=
 ∀(s:Shared) (b:Yw),K.In s.heap->(b++ds).length=ps.length->BindsTo s f ⟨b,[]⟩ (ps.zip (b++ds))
def Binds.all {K f ps} (h:∀us,us.length=ps.length->bindArgs f ⟨us,[]⟩=pure (ps.zip us)):Binds K f ps []:=λs us _ b=>by
 rw[WL]at b ⊢;exact .of_eq (h us b)
def Xj(CX:CXT)(X:Cx)(E:XK):Prop:=∀(pins:Yr) (f:St) (H:Hp) (s:Shared) (e:Value) (b:Shared),Inv X pins f H s->CX X.stack H s E e b->X.xe e b
section
variable {X:Cx}{CX:CXT}{k:Nat}{f C:Addr}{fd:FuncData}{ps:Yx}{sp:Sp}{dvs:List V}{ds:Yw}{E:XK}{x m:Str}{p pos apos:Pos}{e o:Expr}{es:Yy}{ta:TE}{t:TA}
def Bx{b:St}{H}{s}{Q}{us}{vs}(F:UM X.prog X.w X.K X.mg X.base CX k f fd ps sp)(n:Uh k X.A)(y:Binds X.K fd ps ds)(v:Vals dvs ds)(hx:Xj CX X E)(I:Inv X pins b H s)(r:Vals vs us)(h:sp (vs++dvs) H Q E):wpAny (model X.prog X.w) X.A (call (.ref f) us) (EP X pins b Q) X.xe s:=by
 have g:=r.append v;have q:(us++ds).length=ps.length:=by rw[←g.length];exact F.len _ _ _ _ h
 refine wpAny_call (Qs (F.run X.A X.stack s H ⟨us,[]⟩ (us++ds) (vs++dvs) Q E n I.env0 (y s us I.kIn q) g h) λr l hq=>?_);cases r with
 |error e=>exact hx pins b H s e l I hq
 |ok z=>
  cases z with
  |ret u=>exact I.after hq
  |cont=>exact False.elim hq
  |_=>trivial
def LB(F:UM X.prog X.w X.K X.mg X.base CX k f fd ps sp)(u:Uh k X.A)(z:Gl X x)(v:X.mg x=some (.ref f))(y:PySem.W.keepIn X.K (.ref f)=true)(J:Binds X.K fd ps ds)(G:Vals dvs ds)(hx:Xj CX X E)(L:PA X (e::es) t)(g:autoParam ((x==("__debug__" : Str))=false) au_1)(B:autoParam (starEach (e::es) X.env=(false,eval e X.env)::starEach es X.env) au_0)(b:autoParam ((backTo pos<|starEach es X.env).any (·.1)=false) au_0) :
  PE X (.Call (.Name x p) (e::es) [] pos) (P5 sp dvs E t):=by
 intro pins s n H Q I h;refine Qt (XM I z v ?_ g);refine Q8 I.ok.mod.kin y (thn (L pos pins s n H _ I h) ?_) B b;rintro N T ⟨M,U,l,r,q⟩;refine⟨l.kIn,?_⟩;exact Bx F u J G hx l r q
def OE{pl}(T:PE X o ta)(c:Cls X.K C)(y:U9 X.K C m f)(F:UM X.prog X.w X.K X.mg X.base CX k f fd ps sp)(N:Uh k X.A)(Y:Binds X.K fd ps ds)(U:Vals dvs ds)(hx:Xj CX X E)(ha:PA X (e::es) t)(b:autoParam (starEach (e::es) X.env=(false,eval e X.env)::starEach es X.env) au_0)(g:autoParam ((backTo pos<|starEach es X.env).any (·.1)=false) au_0)
  (M:autoParam (eval (.Call (.Attribute o m apos) (e::es) [] pos) X.env=(do
   let v ←eval o X.env
   standAt apos.atName
   let (f,first) ←holding [v] (getMethod v m pl)
   callWith pos f first (backTo pos<|starEach (e::es) X.env) (backToKw pos<|keywordEach [] X.env))) au_0) :
  PE X (.Call (.Attribute o m apos) (e::es) [] pos) (Kl C m sp dvs E ta t):=by
 intro pins s n H Q I h;refine Vj (thn (T pins s n H _ I h) ?_) M;rintro u G ⟨x,H1,B,J,a,dx,fs,ex,ea,l,q⟩;subst ex;obtain rfl:=J;refine Bi B ea c y l ?_;refine Q8 I.ok.mod.kin y.kp (thn (ha pos pins G n H1 _ B q) ?_) b g;rintro us s2 ⟨vs,H2,z,r,L⟩;refine⟨z.kIn,?_⟩;exact Bx (vs:=.ref a::vs) F N Y U hx z (.cons rfl r) L
def R7(B:PE X o ta)(c:Cls X.K C)(n:U9 X.K C m f)(F:UM X.prog X.w X.K X.mg X.base CX k f fd ps sp)(z:Uh k X.A)(J:Binds X.K fd ps ds)(G:Vals dvs ds)(hx:Xj CX X E)
  (y:autoParam (eval (.Call (.Attribute o m apos) [] [] pos) X.env=(do
   let g ←eval o X.env
   standAt apos.atName
   let (f,first) ←holding [g] (getMethod g m T)
   callWith pos f first (backTo pos<|starEach [] X.env) (backToKw pos<|keywordEach [] X.env))) au_0) :
  PE X (.Call (.Attribute o m apos) [] [] pos) (Kl C m sp dvs E ta UK):=by
 intro pins s r H Q I h;refine Vj (thn (B pins s r H _ I h) ?_) y;rintro u N ⟨x,Y,b,v,a,U,fs,L,M,l,q⟩;subst L;obtain rfl:=v;refine Bi b M c n l ?_;exact PySem.W.callWith_K0 b.kIn n.kp (Bx (vs:=[.ref a]) F z J G hx b (.cons rfl .nil) q)
structure Mk (K:Yo) (C f:Addr):Prop where
 makes:PySem.W.makesIn K C=true
 init:PySem.W.findIn K (.ref C) "__init__"=some (some<|.ref f)
 fn:PySem.W.isFn K (.ref f)=true
 kp:PySem.W.keepIn K (.ref C)=true
def R5{n:St}{H}{s}{Q}{us}{vs}(M:Mk X.K C f)(F:UM X.prog X.w X.K X.mg X.base CX k f fd ps sp)(G:Uh (k+1) X.A)(N:Binds X.K fd ps ds)(L:Vals dvs ds)(hx:Xj CX X E)(I:Inv X pins n H s)(r:Vals vs us)(h:∀x g,H x=none->H g=none->g≠x->sp (.ref x::(vs++dvs)) (upd (upd H g<|.own x) x<|.ins C g []) (λv H2=>v=.non/\Q (.ref x) H2) E) :
  wpAny (model X.prog X.w) X.A (call (.ref C) us) (EP X pins n Q) X.xe s:=by
 have hq:=h (s.heap.objs.size+1) s.heap.objs.size (I.hok.fresh<|QM _) (I.hok.fresh<|Wp _) (W3<|QE _);have l:=Inv.made (C:=C) I;have q:Vals (V.ref (s.heap.objs.size+1)::(vs++dvs)) (Value.ref (s.heap.objs.size+1)::(us++ds)):=.cons rfl (r.append L)
 have J:(Value.ref (s.heap.objs.size+1)::us++ds).length=ps.length:=by
  have e:=q.length;rw[F.len _ _ _ _ hq]at e
  grind
 refine wpAny_call (CV I.kIn M.makes M.init (beq_iff_eq.mp M.fn) (Qs (F.run _ X.stack _ _ ⟨Value.ref (s.heap.objs.size+1)::us,[]⟩ (Value.ref (s.heap.objs.size+1)::(us++ds)) _ _ E (G.make C us [])
  (l.env0.make C us []) (N _ (Value.ref (s.heap.objs.size+1)::us) l.kIn J) q hq) λr y b=>?_))
 cases r with
 |error e=>exact hx pins n _ _ e y l b
 |ok T=>
  cases T with
  |ret u=>
   obtain⟨v,H',Y,z,U,B⟩:=l.after b;subst U;exact⟨z,⟨V.ref (s.heap.objs.size+1),H',Y,rfl,B⟩⟩
  |_=>exact False.elim b
def Oj(M:Mk X.K C f)(F:UM X.prog X.w X.K X.mg X.base CX k f fd ps sp)(u:Uh (k+1) X.A)(y:Gl X x)(v:X.mg x=some (.ref C))(G:Binds X.K fd ps ds)(B:Vals dvs ds)(hx:Xj CX X E)(J:PA X (e::es) t)(g:autoParam ((x==("__debug__" : Str))=false) au_1)(z:autoParam (starEach (e::es) X.env=(false,eval e X.env)::starEach es X.env) au_0)(b:autoParam ((backTo pos<|starEach es X.env).any (·.1)=false) au_0) :
  PE X (.Call (.Name x p) (e::es) [] pos) (Nc C sp dvs E t):=by
 intro pins s n H Q I h;refine Qt (XM I y v ?_ g);refine Q8 I.ok.mod.kin M.kp (thn (J pos pins s n H _ I h) ?_) z b;rintro N T ⟨L,U,l,r,q⟩;refine⟨l.kIn,?_⟩;exact R5 M F u G B hx l r q
end
structure Ui (N P:Yx) (sc:Scope):Prop where
 kind:sc.kind=.function
 co:sc.isCoroutine=false
 gen:sc.isGenerator=false
 nd:N.Nodup
 pre:N.take P.length=P
 par:∀x∈P,sc.names.lookup x=some .local\/sc.names.lookup x=some .cell
 nofree:∀y∈sc.names,y.2≠.free
theorem Fx{kindOf x}:∀{binds}{m:Ys},(∀v,(x,v)∉binds)->bindL kindOf binds m x=m x
 |[],_,_=>rfl
 |(n,v)::r,m,h=>by
  unfold bindL;rw[Fx λw hw=>h w (W2 _ hw)];split
  ·grind
  ·rfl
theorem FT{kindOf x}:∀{binds}{m:Ys},(∀v,(x,v)∉binds)->bindC kindOf binds m x=m x
 |[],_,_=>rfl
 |(n,v)::r,m,h=>by
  unfold bindC;rw[FT λw hw=>h w (W2 _ hw)];split
  ·rfl
  ·grind
theorem Ce{kindOf}{x}{v}:∀{P:Yx}{vs}{i:Nat}{m:Ys},P.Nodup->P[i]?=some x->vs[i]?=some v->kindOf x=some .local->
  bindL kindOf (P.zip vs) m x=some v
 |[],_,_,_,_,h,_,_|_::_,[],_,_,_,_,h,_=>by simp at h
 |p::P,w::vs,0,m,b,l,g,f=>by
  simp at l g;subst l;subst g;show bindL kindOf ((p,w)::P.zip vs) m p=_;unfold bindL;rw[Fx λv n=>(WX.mp b).1 (List.of_mem_zip n).1,Wr f];simp
 |p::P,w::vs,i+1,m,b,l,g,f=>by
  unfold bindL;exact Ce (WX.mp b).2 (by trivial) (by grind) f
theorem A8{kindOf}{x}{v}:∀{P:Yx}{vs}{i:Nat}{m:Ys},P.Nodup->P[i]?=some x->vs[i]?=some v->kindOf x≠some .local->
  bindC kindOf (P.zip vs) m x=some v
 |[],_,_,_,_,h,_,_|_::_,[],_,_,_,_,h,_=>by simp at h
 |p::P,w::vs,0,m,b,l,g,f=>by
  simp at l g;subst l;subst g;show bindC kindOf ((p,w)::P.zip vs) m p=_;unfold bindC;rw[FT λv n=>(WX.mp b).1 (List.of_mem_zip n).1,Wq f];simp
 |p::P,w::vs,i+1,m,b,l,g,f=>by
  unfold bindC;exact A8 (WX.mp b).2 (by trivial) (by grind) f
noncomputable def start(N:Yx)(vs:List V):St:=vs.map some++List.replicate (N.length-vs.length) none
noncomputable def Uy(CX:CXT)(P:Program)(w:World)(K:Yo)(mg:Ys)(base:Heap)(N:Yx)(qual:Str)(scope:Scope)(f:Addr)(cd:Value)(A:Around)(outer:List Env)(s:Shared)(H:Hp)(E:XK):Cx where
 prog:=P
 w:=w
 K:=K
 mg:=mg
 base:=base
 A:=A.deeper (envOfC qual scope s.heap.objs.size f cd)
 N:=N
 s₀:=s
 H₀:=H
 env:=envOfC qual scope s.heap.objs.size f cd
 outer:=outer
 stack:=envOfC qual scope s.heap.objs.size f cd::outer
 ex:=[]
 calm:=true
 fn:=λ_=>true
 pn:=[]
 xe:=λe s'=>wpAny (model P w) (A.deeper<|envOfC qual scope s.heap.objs.size f cd) (leaving (envOfC qual scope s.heap.objs.size f cd) e) (λ_ s''=>CX outer H s E e s'') (λe' s''=>CX outer H s E e' s'') s'
def Fu{b:Scope}{n}{x}(h:b.names.lookup x=some .cell):∃c,(cellsFrom n b.names []).lookup x=some c:=by
 exact Option.isSome_iff_exists.mp (PySem.W.cellsFrom_some b.names n []<|.inl h)
def LA{P}{w}{K}{mg}{base}{N ps}{qual}{scope}{f}{cd}{A}{outer}{s L}{H}{E}{us}{vs}(S:Ui N ps scope)(Y:A.handled=none)(l:KG P w K mg base A outer s H)(hl:vs.length=ps.length)(r:Vals vs us)(x:InCallC s s.heap.objs.size (bindL (envOfC qual scope s.heap.objs.size f cd).kindOf (ps.zip us) λ_=>none) (cellsFrom (s.heap.objs.size+1) scope.names []) (bindC (envOfC qual scope s.heap.objs.size f cd).kindOf (ps.zip us) λ_=>none) L) :
  Inv (Uy CX P w K mg base N qual scope f cd A outer s H E) [] (start N vs) H L:=by
 have U:ps.length<=N.length:=by have:=WG List.length S.pre;rw[QF]at this;lia
 obtain⟨J,tk,rfl,Q⟩:=x.done;have n:∀b,b∉(Uy CX P w K mg base N qual scope f cd A outer s H E).ex:=λb z=>absurd (show b∈([]:List Addr)from z) (by simp)
 refine⟨⟨l.mod,S.kind,rfl,rfl,Wp _,λy z c J g=>?_,λy o=>?_,λy c _ h=>?_,λ_=>Y,Around.frames_deeper l.frames,.inr ⟨rfl,rfl⟩,λb z=>absurd z (n b),l.bs,l.bsz,λb _ _=>n b,λb z=>absurd z (n b),l.funs,l.frf⟩,
  rfl,l.bare,Un.kept Q,⟨_,x.toInCall.ns,λi y v J g h3=>?_⟩,λy c h=>⟨_,x.cell y c h⟩,l.hok.fresh (Wp _),λy c h=>?_,λp C=>absurd (show p∈([]:Yr)from C) (by simp),l.hok.kept Q,?_⟩
 ·exact name_of_addr x.apart (Qq J) (Qq g)
 ·have o:=o;rcases o with o|o
  ·exact Fu o
  ·exact absurd rfl (S.nofree _<|Qq o)
 ·exact QS (x.above y c<|Qq h)
 ·have G:i<vs.length:=by
   unfold start at g;by_cases G:i<vs.length
   ·exact G
   ·rw[Qh (by simpa using G)]at g;rw[QZ]at g;split at g<;>cases g
  have ha:vs[i]?=some v:=by
   unfold start at g;rw[Qj (by simpa using G),Ws]at g;cases e:vs[i]? with
   |none=>rw[e]at g;cases g
   |some a=>rw[e]at g;cases g;rfl
  obtain⟨u,M,T⟩:=r.get ha
  have C:ps[i]?=some y:=by
   rw[←S.pre,List.getElem?_take_of_lt (by lia)];exact J
  have B:ps.Nodup:=by rw[←S.pre];exact S.nd.sublist (List.take_sublist _ _)
  refine⟨u,T,?_⟩;rcases S.par y (W5 C)with k|k
  ·exact .inl ⟨k,Ce B C M k⟩
  ·obtain⟨c,e⟩:=Fu k;refine .inr ⟨.inl k,c,e,?_⟩;have q:=x.cell y c e;rw[A8 B C M (by show scope.names.lookup y≠_;rw[k];decide)]at q;exact q
 ·exact l.hok.fresh (QS<|x.above y c<|Qq h)
 ·unfold start;show _=N.length;rw[WB,Wk,List.length_replicate];lia
def SK{K M base k f name qual params body scope dV kV L pm g ct oc an od Y N ps sp}(lk:K.lookup f=some ⟨oc,od,.func (PySem.W.fnOf name qual params body scope dV kV L pm an g ct),Y⟩)(hcd:PySem.W.codeIn K g qual=true)(S:Ui N ps scope)(len:∀vs H Q E,sp vs H Q E->vs.length=ps.length)
  (p:∀A outer s H vs Q E,Uh k (A.deeper<|envOfC qual scope s.heap.objs.size f g)->sp vs H Q E->
   ∃t,PSs (Uy CX P w K M base N qual scope f g A outer s H E) body t/\t {nx:=λ_ H'=>Q .non H',rt:=Q} (start N vs) H) :
  UM P w K M base CX (k+1) f (PySem.W.fnOf name qual params body scope dV kV L pm an g ct) ps sp:=by
 refine⟨len,λA outer s H args us vs Q E hr G hb r z=>?_⟩;have KX:=G.mod.kin.keeps λb o e=>(G.bs b o e).1
 have l:∀y∈ps.zip us,scope.names.lookup y.1=some .local\/(scope.names.lookup y.1=some .cell/\((cellsFrom (s.heap.objs.size+1) scope.names []).lookup y.1).isSome=true):=λ⟨n,v⟩ hy=>by
  rcases S.par n (List.of_mem_zip hy).1 with q|q
  ·exact .inl q
  ·exact .inr ⟨q,PySem.W.cellsFrom_some _ _ _ (.inl q)⟩
 refine codeAny_call_function hr.depth (KX _ _ lk) rfl S.co S.gen rfl (PySem.W.codeRec_of KX hcd) (hb _ _ _ _ ?_);refine wpAny_newFunctionEnv_cells S.kind l λenv he s1 x=>?_;subst he;refine⟨(G.mod.nolimit.keeps λb o e=>(G.bs b o e).1).keeps x.toInCall.keep,codeAny_func ?_⟩;obtain⟨t,ht,hq⟩:=p A outer s H vs Q E (hr.deeper _) z;have I:Inv (Uy CX P w K M base N qual scope f g A outer s H E) [] (start N vs) H s1:=LA S hr.hd G (len _ _ _ _ z) r x;refine WD (ht [] s1 (start N vs) H _ I hq) (λfl T B=>?_) λe T B=>B
 have C:∀{h:St} {H':Hp} {v:V} {u:Value},Inv (Uy CX P w K M base N qual scope f g A outer s H E) [] h H' T->RelV v u->Q v H'->CE outer P w H s Q u T:=
  λ{h H' v u} J U q=>⟨v,H',J.os,J.bare,J.base,J.hok,U,q⟩
 cases fl with
 |ret u=>
  obtain⟨v,h,H',J,U,q⟩:=B;exact C J U q
 |next=>
  obtain⟨h,H',J,q⟩:=B;exact C (v:=V.non) J rfl q
 |_=>
  obtain⟨_,_,_,q⟩:=B;exact False.elim q
section
variable {X:Cx}{x:Str}{p pos:Pos}{e:Expr}{es:Yy}{t:TA}{id T:String}{r:List V->Hp->VK->Prop}
noncomputable def tCB(r:List V->Hp->VK->Prop)(t:TA):TE:=λb H Q=>t b H λf g=>r f g Q
def UE(B:Xd X (.builtin id) r)(z:Gl X x)(y:X.mg x=none)(v:bootBuiltins x=some (.builtin id))(C:PA X (e::es) t)(w:autoParam (x≠"__name__") au_1)(f:autoParam ((x==("__debug__" : Str))=false) au_1)(A:autoParam (starEach (e::es) X.env=(false,eval e X.env)::starEach es X.env) au_0)(b:autoParam ((backTo pos<|starEach es X.env).any (·.1)=false) au_0):PE X (.Call (.Name x p) (e::es) [] pos) (tCB r t):=by
 intro pins s g H Q I h;refine Qt (TH I z y v ?_ w f);exact PyProof.Rows.callWith_builtin1 (thn (C pos pins s g H _ I h) λn o ⟨l,G,E,q,u⟩=>B pins o g G l n Q E q u) A b
def Kp(B:Xd X (.type T) r)(z:Gl X x)(y:X.mg x=none)(v:bootBuiltins x=some (.type T))(C:PA X (e::es) t)(w:autoParam (x≠"__name__") au_1)(f:autoParam ((x==("__debug__" : Str))=false) au_1)(A:autoParam (starEach (e::es) X.env=(false,eval e X.env)::starEach es X.env) au_0)(b:autoParam ((backTo pos<|starEach es X.env).any (·.1)=false) au_0):PE X (.Call (.Name x p) (e::es) [] pos) (tCB r t):=by
 intro pins s g H Q I h;refine Qt (TH I z y v ?_ w f);exact PyProof.Rows.callWith_type1 (thn (C pos pins s g H _ I h) λn o ⟨l,G,E,q,u⟩=>B pins o g G l n Q E q u) A b
end
end L2
namespace HT
open PySem PyProof.Rows
section
variable {prog:Program}{w:World}{A:Around}{E:Yt}{s:Shared}
noncomputable def sIx(n d:Nat):Option Int->Nat
 |none=>d
 |some v=>if v<0 then(v+(n:Int)).toNat else min v.toNat n
def Hl(n d:Nat):sIx n d none=d:=rfl
def HD(n d k:Nat):sIx n d (some (k:Int))=min k n:=rfl
end
end HT
namespace L2
abbrev TO:=St->Hp->(Option Int->Hp->Prop)->Prop
def PO(X:Cx)(e:Option Expr)(t:TO):Prop:=
 ∀(pins:Yr) (s:Shared) (b:St) (H:Hp) (Q:Option Int->Hp->Prop),Inv X pins b H s->t b H Q->
  wpAny (model X.prog X.w) X.A (evalPart e X.env) (λu g=>∃o f,Inv X pins b f g/\IsPart u o/\Q o f) X.xe s
noncomputable def Du:TO:=λ_ H Q=>Q none H
noncomputable def Ca(t:TE):TO:=λb H Q=>t b H λx f=>∃i,x=.int i/\Q (some i) f
def EL:∀{us:Yw},Vals (ns.map V.int) us->IntsAre us ns:=by
 induction ns with
 |nil=>intro us r;rw[List.map_nil]at r;cases r;exact .nil
 |cons n ns g=>
  intro us r;cases r with
  |cons f b=>
   obtain⟨t,e⟩:=f;subst e;exact .cons n t (g b)
section
variable {X:Cx}{e:Expr}{te:TE}{lo hi:Option Expr}{tl th:TO}{pos p2:Pos}
def Eb:PO X none Du:=by
 intro pins s b H Q I h;exact Wn ⟨none,H,I,.none,h⟩
def ET(h:PE X e te):PO X (some e) (Ca te):=by
 intro pins s b H Q I hw;refine thn (h pins s b H _ I hw) ?_;rintro u o ⟨x,n,l,f,g⟩;obtain⟨i,rfl,q⟩:=g;obtain⟨t,rfl⟩:=f;exact⟨some i,n,l,.int i t,q⟩
def SlR(X:Cx)(r:V->Option Int->Option Int->Hp->VK->Prop):Prop:=
 ∀(pins:Yr) (s:Shared) (b:St) (H:Hp) (x:V) (v g f:Value) (lo hi:Option Int) (sl:Addr) (Q:VK),Inv X pins b H s->RelV x v->s.heap.IsSliceOf sl g f .none->IsPart g lo->IsPart f hi->r x lo hi H Q->
  ∃T id,typeLookup (.type T) "__getitem__"=pure (some<|.builtin id)/\s.TypeIs v T/\wpAny (model X.prog X.w) X.A (getItem v<|.ref sl) (EP X pins b Q) X.xe s
noncomputable def tSl(r:V->Option Int->Option Int->Hp->VK->Prop)(te:TE)(tl th:TO):TE:=λb H Q=>te b H λx h=>tl b h λl g=>th b g λu f=>r x l u f Q
def Cu(M:SlR X r)(Y:PE X e te)(N:PO X lo tl)(J:PO X hi th):PE X (.Subscript e (.Slice lo hi none p2) pos) (tSl r te tl th):=by
 intro pins s f H Q I h;refine Subscript_ (thn (Y pins s f H _ I h) ?_);rintro v y ⟨x,H1,I1,z,C⟩;refine wpAny_Slice (thn (N pins y f H1 _ I1 C) ?_);rintro o w ⟨l,H2,I2,G,B⟩;refine thn (J pins w f H2 _ I2 B) ?_;rintro n g ⟨u,p,I3,E,A⟩;refine Wn ?_;have I4:Inv X pins f p {g with heap:=g.heap.push {cls:=.type "slice",data:=.fields #[o,n,.none]}}:=I3.kept λb ob q=>Wl _ q
 obtain⟨T,id,hT,L,U⟩:=M pins {g with heap:=g.heap.push {cls:=.type "slice",data:=.fields #[o,n,.none]}} f p x v o n l u g.heap.objs.size Q I4 z (Heap.IsSliceOf.new ..) G E A
 exact tail_any L hT U rfl
noncomputable def K5(xs:List V)(lo hi:Option Int):List V:=(xs.drop<|HT.sIx xs.length 0 lo).take (HT.sIx xs.length xs.length hi-HT.sIx xs.length 0 lo)
def Oo(xs:List V)(lo hi:Option Int):(K5 xs lo hi).length<=xs.length:=by
 unfold K5
 grind
end
noncomputable def ixN(n:Nat)(i:Int):Option Nat:=if 0<=i then(if i<n then some i.toNat else none)else if -(n:Int)<=i then some (i+n).toNat else none
noncomputable def atI{b:Type}(xs:List b)(i:Int):Option b:=(ixN xs.length i).bind λj=>xs[j]?
def FY(h:ixN n i=some j):seqIndex? i n=some j/\j<n/\-(n:Int)<=i/\i<n:=by
 unfold ixN at h;by_cases f:0<=i
 ·rw[Wr f]at h;by_cases b:i<n
  ·rw[Wr b]at h;have e:=Wv h;exact⟨by rw[seqIndex_of f b,e],by lia,by lia,b⟩
  ·grind
 ·rw[Wq f]at h;by_cases b:-(n:Int)<=i
  ·rw[Wr b]at h;have e:=Wv h;exact⟨by rw[seqIndex_neg (by lia) b,e],by lia,b,by lia⟩
  ·grind
def NC(h:atI xs i=some v):∃j,seqIndex? i xs.length=some j/\xs[j]?=some v/\j<xs.length/\-(xs.length:Int)<=i/\i<xs.length:=by
 unfold atI at h;cases e:ixN xs.length i with
 |none=>grind
 |some j=>
  obtain⟨l,g,f,b⟩:=FY e
  grind
def NY{j:Nat}{v}(h:xs[j]?=some v):atI xs (j:Int)=some v:=by
 have e:ixN xs.length (j:Int)=some j:=by
  unfold ixN
  grind
 unfold atI;rw[e];exact h
def BA(b:Expr):Prop:=∀o i,subscripted b false o i=operate [o,i] (getItem o i)
def IxR(X:Cx)(r:R2):Prop:=
 ∀(value slice:Expr) (pins:Yr) (s:Shared) (b:St) (H:Hp) (x y:V) (v u:Value) (Q:VK),Inv X pins b H s->RelV x v->RelV y u->r x y H Q->
  subscripted slice false v u=operate [v,u] (getItem v u)->wpAny (model X.prog X.w) X.A (subscriptTail value slice v u) (EP X pins b Q) X.xe s
def MtR(X:Cx)(id:String)(r:V->List V->Hp->VK->Prop):Prop:=
 ∀(pins:Yr) (s:Shared) (b:St) (H:Hp) (x:V) (xs:List V) (v:Value) (f:Yw) (Q:VK),Inv X pins b H s->RelV x v->Vals xs f->r x xs H Q->
  wpAny (model X.prog X.w) X.A (call (.builtin id) (v::f)) (EP X pins b Q) X.xe s
section
variable {X:Cx}{a b:Expr}{ta tb:TE}{pos:Pos}
def IxR.or (h:IxR X r) (p:IxR X o):IxR X (λx y H Q=>r x y H Q\/o x y H Q):=by
 intro value slice pins s f H x y v u Q I l g q n;rcases q with q|q
 ·exact h value slice pins s f H x y v u Q I l g q n
 ·exact p value slice pins s f H x y v u Q I l g q n
def AH(p:IxR X r)(z:PE X a ta)(w:PE X b tb)(o:BA b):PE X (.Subscript a b pos) (tOp r ta tb):=by
 intro pins s f H Q I h;exact Subscript_ (SH z w I h λv u g x y B A n l q=>p a b pins g f B x y v u Q A n l q (o _ _))
noncomputable def Pk(K:Yo):R2:=λx y H Q=>∃p xs i v,x=.ref p/\y=.int i/\SqL K H p xs/\atI xs i=some v/\Q v H
noncomputable def Pb(K:Yo):R2:=λx y H Q=>∃p xs i v,x=.ref p/\y=.int i/\SqT K H p xs/\atI xs i=some v/\Q v H
noncomputable def DF:R2:=λx y H Q=>∃z i c,x=.str z/\y=.int i/\z.length<=sizeLine/\atI z.cps.toList i=some c/\Q (.str ⟨#[c]⟩) H
def ix_list:IxR X (Pk X.K):=by
 intro value slice pins s G H x y v u Q I L J h B;obtain⟨p,xs,i,z,rfl,rfl,hq,N,q⟩:=h;cases L
 obtain⟨t,rfl⟩:=J;obtain⟨o,r,n,hz⟩:=I.list hq;obtain⟨j,g,Y,h3,U,T⟩:=NC N;obtain⟨w,E,l⟩:=r.get Y;have M:=r.length;have hn:=PU;have f:EP X pins G Q w s:=⟨z,H,I,l,q⟩;by_cases C:0<=i
 ·have A:i.toNat=j:=by
   rw[seqIndex_of C T]at g;exact Wv g
  exact item_listR n.isList C (by lia) (by rw[A];simpa using E) f B
 ·have A:(i+(o.toArray.size:Int)).toNat=j:=by
   rw[seqIndex_neg (by lia) U]at g;rw[W7,←M];exact Wv g
  exact subscriptTail_builtinR n.isList.typeIs slot_list_getitem.lookup
   (wpAny_getItem_list_neg n.isList (by lia) (by rw[W7]<;>lia) (by lia) (by rw[A];simpa using E) ⟨rfl,f⟩) B
def Hs:IxR X (Pb X.K):=by
 intro value slice pins s n H x y v u Q I A o h C;obtain⟨p,xs,i,z,rfl,rfl,hq,E,q⟩:=h;cases A
 obtain⟨t,rfl⟩:=o;obtain⟨B,r,l,L⟩:=I.tuple hq;obtain⟨j,J,G,U,T,N⟩:=NC E;obtain⟨w,Y,f⟩:=r.get G;have M:=PU;have g:EP X pins n Q w s:=⟨z,H,I,f,q⟩
 exact subscriptTail_builtinR l.typeIs slot_tuple_getitem.lookup
  (getItem_tuple l (by lia) (by lia) (by rw[W7,←r.length];exact J) (by grind) ⟨rfl,g⟩) C
def Gd:IxR X DF:=by
 intro value slice pins s E H x y v u Q I l g h n;obtain⟨z,i,c,rfl,rfl,J,p,q⟩:=h;obtain⟨t,rfl⟩:=l;obtain⟨G,rfl⟩:=g;obtain⟨j,f,A,M,w,r⟩:=NC p;have o:z.cps.toList.length=z.length:=by simp[Str.length]
 rw[o]at f w r;have L:=PU
 exact tail_any (typeIs_str s z t) slot_str_getitem.lookup (getItem_str (by
  have C:decide (i < -(2 ^ 63:Int))=false:=W9 (by lia);have B:decide (i>=2 ^ 63)=false:=W9 (by lia);rw[C,B,Bool.or_false]) (by rw[f];simpa using A) ⟨.str ⟨#[c]⟩,H,I.tok _,⟨_,rfl⟩,q⟩) n
def Lg(f:Yw)(n j:Nat)(u:Value):Obj.mapSeq (·.setIfInBounds j u) {cls:=.type "list",data:=.seq f.toArray n}={cls:=.type "list",data:=.seq (f.set j u).toArray n}:=by
 simp[Obj.mapSeq]
def Inv.lst {g:St}{H}{s}{p}{xs} (I:Inv X pins g H s) (h:H p=some (.lst xs)) :
  ∃f n,Vals xs f/\s.heap.get? p=some {cls:=.type "list",data:=.seq f.toArray n}/\xs.length<=sizeLine:=by
 obtain⟨z,f,n,r,e⟩:=I.hok p _ h
 grind
def Inv.lstUpd {v:St}{H}{s}{p}{xs ys}{l g:Yw}{n o}{f} (I:Inv X pins v H s) (h:H p=some (.lst xs))
  (y:s.heap.get? p=some {cls:=.type "list",data:=.seq l.toArray n}) (w:f {cls:=.type "list",data:=.seq l.toArray n}={cls:=.type "list",data:=.seq g.toArray o}) (r:Vals ys g) (x:ys.length<=sizeLine) (t:Nat) :
  Inv X pins v (upd H p<|.lst ys) {s with heap:=s.heap.update p f,toks:=t}:=by
 have e:(s.heap.update p f).get? p=some {cls:=.type "list",data:=.seq g.toArray o}:=by
  rw[WQ f y (by rw[w]<;>rfl),w]
 refine I.write (by rw[h];trivial) (.inl rfl) (λb u z q=>(WJ _ _<|Ne.symm z).trans q) ⟨_,e⟩ ?_;exact⟨x,g,o,r,e⟩
def Bm:V->V->V->Hp->(Hp->Prop)->Prop:=λo i v H Q=>∃p xs k j,o=.ref p/\i=.int k/\H p=some (.lst xs)/\ixN xs.length k=some j/\Q (upd H p<|.lst<|xs.set j v)
def Ew:F8 X Bm:=by
 intro pins s M H o i v N T u Q I G ri E h;obtain⟨p,xs,k,j,rfl,rfl,y,L,q⟩:=h;cases G
 obtain⟨t,rfl⟩:=ri;obtain⟨f,n,r,l,J⟩:=I.lst y;obtain⟨g,Y,A,z⟩:=FY L;have w:=r.length;have U:=PU
 have C:=
  I.lstUpd y l (Lg f n j u) (r.set E j) (by rw[WA];exact J) s.toks
 by_cases B:0<=k
 ·have x:k.toNat=j:=by
   rw[seqIndex_of B z]at g;exact Wv g
  exact PySem.W.ki_setAt l B (by lia) (by rw[W7,←w];exact z) (by rw[x];exact⟨_,C,q⟩)
 ·have x:(k+(f.toArray.size:Int)).toNat=j:=by
   rw[seqIndex_neg (by lia) A]at g;rw[W7,←w];exact Wv g
  exact PySem.W.ki_setBack l (by lia) (by rw[W7,←w];exact A) (by lia) (by rw[x];exact⟨_,C,q⟩)
def MG(lo f:Option Int)(n:Nat):(sliceBounds lo f none n).1=((HT.sIx n 0 lo:Nat):Int)/\(sliceBounds lo f none n).2.1=((HT.sIx n n f:Nat):Int)/\(sliceBounds lo f none n).2.2=1:=by
 refine⟨?_,?_,rfl⟩
 ·cases lo with
  |none=>simp[sliceBounds,HT.sIx]
  |some i=>
   simp only[sliceBounds,HT.sIx,Option.getD_none,show(1:Int)>0 by decide,if_true];by_cases h:i<0
   ·grind
   ·simp only[h,if_false]<;>lia
 ·cases f with
  |none=>simp[sliceBounds,HT.sIx]
  |some i=>
   simp only[sliceBounds,HT.sIx,Option.getD_none,show(1:Int)>0 by decide,if_true];by_cases h:i<0
   ·simp only[h,if_true]<;>lia
   ·simp only[h,if_false]<;>lia
def M8(f:Yw)(lo g:Option Int):slicePick f.toArray lo g none=((f.drop<|HT.sIx f.length 0 lo).take (HT.sIx f.length f.length g-HT.sIx f.length 0 lo)).toArray:=by
 obtain⟨n,l,h⟩:=MG lo g f.toArray.size;unfold slicePick;rw[n,l,h];simp only[sliceRange_one,pick_run,W7]<;>rfl
def T3(K:Yo):V->Option Int->Option Int->Hp->VK->Prop:=λx lo f H Q=>∃a xs,x=.ref a/\SqL K H a xs/\∀p,H p=none->Q (.ref p) (upd H p<|.lst<|K5 xs lo f)
def Ic:SlR X (T3 X.K):=by
 intro pins s z H x v B A lo l sl Q I n y p o h;obtain⟨a,xs,rfl,hx,q⟩:=h;cases n
 obtain⟨u,r,g,w⟩:=I.list hx;have f:=r.length;refine⟨"list",_,slot_list_getitem.lookup,g.isList.typeIs,?_⟩;refine wpAny_getItem_list_slice g.isList y p o .none (by simp) ?_ (by grind);rw[M8,←f];refine⟨.ref s.heap.objs.size,_,I.laid (λb C q=>Wl _ q) (Wp _) ?_,rfl,q _ (I.hok.fresh<|Wp _)⟩;exact⟨Wy (Oo xs lo l) w,_,0,(r.drop<|HT.sIx xs.length 0 lo).take (HT.sIx xs.length xs.length l-HT.sIx xs.length 0 lo),Wt _ rfl⟩
noncomputable def UY:V->Bool
 | .non=>true
 | .bl _=>true
 | .int _=>true
 | .str _=>true
 |_=>false
noncomputable def eqV:V->V->Bool
 | .non,.non=>true
 | .bl a,.bl b=>a==b
 | .bl a,.int b=>(if a then 1 else 0)==b
 | .int a,.bl b=>a==(if b then 1 else 0)
 | .int a,.int b=>a==b
 | .str a,.str b=>a==b
 |_,_=>false
def Ej{y x u v}(h:RelV y u)(f:RelV x v)(fy:UY y=true)(l:UY x=true):SeqAt.EqAt A s u v (eqV y x):=by
 cases y with
 |non=>
  cases h
  cases x with
  |non=>cases f;exact SeqAt.EqAt.same _
  |bl b=>cases f;exact SeqAt.EqAt.none_bool b
  |int b=>obtain⟨t,rfl⟩:=f;exact SeqAt.EqAt.none_int b t
  |str b=>obtain⟨t,rfl⟩:=f;exact SeqAt.EqAt.none_str b t
  |_=>exact absurd l W1
 |bl a=>
  cases h
  cases x with
  |non=>cases f;exact SeqAt.EqAt.bool_none a
  |bl b=>cases f;exact SeqAt.EqAt.bool_bool a b
  |int b=>obtain⟨t,rfl⟩:=f;exact SeqAt.EqAt.bool_int a b t
  |str b=>obtain⟨t,rfl⟩:=f;exact SeqAt.EqAt.bool_str a b t
  |_=>exact absurd l W1
 |int a=>
  obtain⟨g,rfl⟩:=h;cases x with
  |non=>cases f;exact SeqAt.EqAt.int_none a g
  |bl b=>cases f;exact SeqAt.EqAt.int_bool a g b
  |int b=>obtain⟨t,rfl⟩:=f;exact SeqAt.EqAt.int_int a g b t
  |str b=>obtain⟨t,rfl⟩:=f;exact SeqAt.EqAt.int_str a g b t
  |_=>exact absurd l W1
 |str a=>
  obtain⟨g,rfl⟩:=h;cases x with
  |non=>cases f;exact SeqAt.EqAt.str_none a g
  |bl b=>cases f;exact SeqAt.EqAt.str_bool a g b
  |int b=>obtain⟨t,rfl⟩:=f;exact SeqAt.EqAt.str_int a g b t
  |str b=>obtain⟨t,rfl⟩:=f;exact SeqAt.EqAt.str_str a g b t
  |_=>exact absurd l W1
 |_=>exact absurd fy W1
noncomputable def eqU(x:V)(u:Value):Bool:=match u with
 | .none=>eqV .non x
 | .bool b=>eqV (.bl b) x
 | .int i _=>eqV (.int i) x
 | .str z _=>eqV (.str z) x
 |_=>false
def CZ{x y u}(r:RelV y u)(f:UY y=true):eqU x u=eqV y x:=by
 cases y with
 |non|bl b=>cases r;rfl
 |int i|str z=>obtain⟨t,rfl⟩:=r;rfl
 |_=>trivial
theorem Tn:∀{xs}{us:Yw},Vals xs us->xs.all UY=true->us.any (eqU x)=xs.any λy=>eqV y x
 |_,_,.nil,_=>rfl
 |y::xs,u::us,.cons r t,f=>by
  rw[Ve,WN]at f;rw[QK,QK,CZ r f.1,Tn t f.2]
theorem P2{x v}(h:RelV x v)(l:UY x=true):∀{xs}{us:Yw},Vals xs us->xs.all UY=true->∀u∈us,SeqAt.EqAt A s u v (eqU x u)
 |_,_,.nil,_=>λu g=>by cases g
 |y::xs,u::us,.cons r t,f=>λn g=>by
  rw[Ve,WN]at f;rcases Wu.mp g with rfl|g
  ·rw[CZ r f.1];exact Ej r h f.1 l
  ·exact P2 h l t f.2 n g
noncomputable def inV(x:V)(xs:List V):Bool:=xs.any λy=>eqV y x
noncomputable def rIn(K:Yo)(neg:Bool):R2:=λx y H Q=>∃p xs,y=.ref p/\(SqL K H p xs\/SqT K H p xs)/\UY x=true/\xs.all UY=true/\Q (.bl (if neg then !inV x xs else inV x xs)) H
def RP:OpR X (compareOp .In) (rIn X.K false):=by
 intro pins s A H x y v u Q I l o h;obtain⟨p,xs,rfl,hq,n,fs,q⟩:=h;cases o
 rcases hq with hq|hq
 ·obtain⟨f,r,g,z⟩:=I.list hq;refine SeqAt.in_listAt (eqU x) g.isList (λw hw=>P2 l n r fs w (by grind)) ⟨.bl _,H,I,rfl,?_⟩;rwa[show f.toArray.any (eqU x)=f.any (eqU x) by simp,Tn r fs]
 ·obtain⟨f,r,g,z⟩:=I.tuple hq;refine SeqAt.in_tupleAt (eqU x) g (λw hw=>P2 l n r fs w (by simpa using hw)) ⟨.bl _,H,I,rfl,?_⟩;rwa[show f.toArray.any (eqU x)=f.any (eqU x) by simp,Tn r fs]
def MV:OpR X (compareOp .NotIn) (rIn X.K true):=by
 intro pins s A H x y v u Q I l o h;obtain⟨p,xs,rfl,hq,n,fs,q⟩:=h;cases o
 rcases hq with hq|hq
 ·obtain⟨f,r,g,z⟩:=I.list hq;refine SeqAt.notIn_listAt (eqU x) g.isList (λw hw=>P2 l n r fs w (by grind)) ⟨.bl _,H,I,rfl,?_⟩;rwa[show f.toArray.any (eqU x)=f.any (eqU x) by simp,Tn r fs]
 ·obtain⟨f,r,g,z⟩:=I.tuple hq;refine SeqAt.notIn_tupleAt (eqU x) g (λw hw=>P2 l n r fs w (by grind)) ⟨.bl _,H,I,rfl,?_⟩;rwa[show f.toArray.any (eqU x)=f.any (eqU x) by simp,Tn r fs]
def IS:Xd X (.type "list") (λxs H Q=>∃p ys,xs=[.ref p]/\(SqL X.K H p ys\/SqT X.K H p ys)/\∀l,H l=none->Q (.ref l) (upd H l<|.lst ys)):=by
 intro pins s M H xs T Q I r h;obtain⟨p,ys,rfl,hq,q⟩:=h;obtain⟨u,rfl,N⟩:=vals1 r;cases N
 have B:∀f,Vals ys f->ys.length<=sizeLine->∀g x,(∀b L,s.heap.get? b=some L->g.get? b=some L)->
   g.get? s.heap.objs.size=some {cls:=.type "list",dict:=none,data:=.seq f.toArray x,slots:=#[]}->EP X pins M Q (.ref s.heap.objs.size) {s with heap:=g}:=λf v z g x y e=>
  ⟨.ref s.heap.objs.size,_,I.laid y (Wp _) (show ObjOk X.prog X.w _ g _ (.lst ys)from⟨z,f,x,v,e⟩),rfl,q _ (I.hok.fresh<|Wp _)⟩
 rcases hq with hq|hq
 ·obtain⟨f,v,C,z⟩:=I.list hq;have A:=v.length;obtain⟨o,E,J,n,G⟩:=C.isList;exact call_list_seq p (.inl rfl) E J G (λg x y e=>B f v z g x y e) (by grind)
 ·obtain⟨f,v,C,z⟩:=I.tuple hq;have A:=v.length;obtain⟨o,E,J,n,G⟩:=C;exact call_list_seq p (.inr rfl) E J G (λg x y e=>B f v z g x y e) (by simp only[W7]<;>lia)
def tyV(K:Yo)(T:String)(x:V)(H:Hp):Prop:=match x with
 | .str _=>T = "str"
 | .int _=>T = "int"
 | .ref p=>(T = "list"/\∃xs,SqL K H p xs)\/(T = "tuple"/\∃o,K.lookup p=some o/\o.cls=.type "tuple"/\o.dict=none)\/
   (T = "dict"/\((∃f,H p=some (.dK f))\/∃f,H p=some (.dT f)))\/(T = "set"/\∃S n,H p=some (.set S n))
 |_=>False
def IF{A:St}{H}{s}{T}{x}{v}(I:Inv X pins A H s)(r:RelV x v)(h:tyV X.K T x H) :
  s.TypeIs v T/\∀a,v=.ref a->∃y,s.heap.get? a=some y/\y.dict=none:=by
 cases x with
 |str z=>
  obtain⟨t,rfl⟩:=r;cases h
  exact⟨typeIs_str s z t,λ_ e=>nomatch e⟩
 |int i=>
  obtain⟨t,rfl⟩:=r;cases h
  exact⟨typeIs_int s i t,λ_ e=>nomatch e⟩
 |ref p=>
  cases r
  rcases h with⟨rfl,xs,hq⟩|⟨rfl,o,f,C,q⟩|⟨rfl,f⟩|⟨rfl,S,n,f⟩
  ·obtain⟨B,_,w,_⟩:=I.list hq;refine⟨w.isList.typeIs,λa e=>?_⟩;cases e
   obtain⟨o,n,e,c,q,_⟩:=w;exact⟨o,e,q⟩
  ·refine⟨⟨o,I.kIn p o f,C⟩,λa e=>?_⟩;cases e
   exact⟨o,I.kIn _ o f,q⟩
  ·have z:∃o,s.heap.get? p=some o/\o.ExactDict:=by
    rcases f with⟨l,f⟩|⟨l,f⟩
    ·obtain⟨_,_,_,_,o,_,_,e,g,_⟩:=I.hok p _ f;exact⟨o,e,g⟩
    ·obtain⟨_,_,_,_,o,_,_,e,g,_⟩:=I.hok p _ f;exact⟨o,e,g⟩
   obtain⟨o,e,g⟩:=z;refine⟨⟨o,e,g.1⟩,λa u=>?_⟩;cases u
   exact⟨o,e,g.2.1⟩
  ·obtain⟨o,_,_,_,e,g,_⟩:=I.hok p _ f;refine⟨⟨o,e,g.1⟩,λa u=>?_⟩;cases u
   exact⟨o,e,g.2.1⟩
 |_=>exact False.elim h
noncomputable def tBM(K:Yo)(T:String)(r:V->List V->Hp->VK->Prop)(h:TE)(t:TA):TE:=λf H Q=>h f H λx g=>tyV K T x g/\t f g λxs l=>r x xs l Q
variable {o e:Expr}{es:Yy}{to:TE}{t:TA}{name:Str}{apos cpos:Pos}{T id:String}{r:V->List V->Hp->VK->Prop}
def P9(M:PlainAttrs T)(slot:Slot T name id)(q:typeOf (.builtin id)=pure (.type "method_descriptor"))(Y:MtR X id r)(U:PE X o to)(ha:PA X (e::es) t)(g:autoParam (attributeBase o name X.env (eval o X.env)=eval o X.env) au_0)
  (l:autoParam (((backTo cpos<|starEach (e::es) X.env).all (λx=>!x.1)&&(backToKw cpos<|keywordEach [] X.env).all (λx=>x.1.isSome)
   && decide ((e::es).length+([]:List Keyword).length+(if ([]:List Keyword).isEmpty then 0 else 1)<30))=true) au_0)
  (f:autoParam ((apos.endLine==cpos.line)=true) au_0) (N:autoParam (starEach (e::es) X.env=(false,eval e X.env)::starEach es X.env) au_0) (n:autoParam ((backTo cpos<|starEach es X.env).any (·.1)=false) au_0) :
  PE X (.Call (.Attribute o name apos) (e::es) [] cpos) (tBM X.K T r to t):=by
 intro pins s p H Q I h;refine wpAny_Call_method_late g l f rfl (thn (U pins s p H _ I h) λv E ⟨x,H1,y,u,B,L⟩=>?_);obtain⟨h1,h2⟩:=IF y u B;refine⟨T,id,M,slot,q,h1,h2,?_⟩;have w:=ha cpos pins E p H1 _ y L;rw[N]at w ⊢;refine Calls.callWith_builtin (by grind) (Calls.evalArgs_plain ?_);exact thn w λA C ⟨z,H2,I2,G,J⟩=>Y pins C p H2 x z v A Q I2 u G J
end
def MtM(X:Cx)(id:String)(r:V->List V->Hp->VK->Prop):Prop:=
 ∀(pins:Yr) (s:Shared) (b:St) (H:Hp) (x:V) (xs:List V) (v:Value) (f:Yw) (Q:VK),Inv X pins b H s->RelV x v->Vals xs f->r x xs H Q->
  wpAny (model X.prog X.w) X.A (call (.builtin id) (v::f)) (EP X pins b Q) X.xe s
def Vals.one:∀{x}{us:Yw},Vals [x] us->∃u,us=[u]/\RelV x u:=by
 intro _ _ h;cases h with
 |cons r t=>
  cases t
  exact⟨_,rfl,r⟩
section
variable {X:Cx}{pins:Yr}{σ:St}{H:Hp}{s:Shared}{l b:Addr}{xs ys zs:List V}
def Inv.lset {h g:Yw}{n}{f}{t'} (I:Inv X pins σ H s) (x:H l=some (.lst xs))
  (e:s.heap.get? l=some {cls:=.type "list",data:=.seq h.toArray n}) (v:f h.toArray=g.toArray) (p:Vals ys g) (o:ys.length<=sizeLine) :
  Inv X pins σ (upd H l<|.lst ys) {s with heap:=s.heap.update l (Obj.mapSeq f),toks:=t'}:=by
 have q:=PySem.IsL.update e f;rw[v]at q;refine I.write (by rw[x];exact trivial) (.inl rfl) (λy u w r=>(WJ s.heap (Obj.mapSeq f)<|Ne.symm w).trans r) ⟨_,q⟩ ?_;exact⟨o,g,_,p,q⟩
def Inv.lnew (I:Inv X pins σ H s) (h:Vals ys f) (g:ys.length<=sizeLine) :
  Inv X pins σ (upd H s.heap.objs.size<|.lst ys) {s with heap:=s.heap.push {cls:=.type "list",data:=.seq f.toArray},toks:=t'}:=
 I.laid (λ_ _ q=>Wl _ q) (Wp _) ⟨g,f,0,h,Wt _ rfl⟩
def Inv.fresh (I:Inv X pins σ H s):H s.heap.objs.size=none:=I.hok.fresh (Wp _)
def Inv.lstM (I:Inv X pins σ H s) (g:H l=some (.lst xs)):xs.length<=sizeLine/\∃f n,Vals xs f/\xs.length=f.length/\s.heap.get? l=some {cls:=.type "list",data:=.seq f.toArray n}:=by
 obtain⟨z,f,n,r,e⟩:=I.hok l _ g;exact⟨z,f,n,r,r.length,e⟩
end
section
variable {X:Cx}
def Tr:V->List V->Hp->VK->Prop:=λx b H Q=>∃l xs y,x=.ref l/\b=[y]/\H l=some (.lst xs)/\xs.length<sizeLine/\Q .non (upd H l<|.lst (xs++[y]))
def Pj:MtM X "list.append" Tr:=by
 intro pins s w H x A v B Q I g o h;obtain⟨l,xs,y,rfl,rfl,f,C,q⟩:=h;cases g
 obtain⟨u,rfl,p⟩:=o.one;obtain⟨z,b,n,r,E,e⟩:=I.lstM f;refine call_meets F.slot_list_append ⟨_,e,rfl⟩ F.entry_list_append (F.args_list_append_2 _ _) (PySem.list_append l b.toArray n u<|by grind) ⟨e,?_⟩;refine⟨.non,_,I.lset f e (by simp) (r.append<|.cons p .nil) ?_,rfl,q⟩
 grind
noncomputable def ER:R2:=λx y H Q=>∃l b xs f,x=.ref l/\y=.ref b/\H l=some (.lst xs)/\H b=some (.lst f)/\xs.length+f.length<=sizeLine/\∀p,H p=none->Q (.ref p) (upd H p<|.lst (xs++f))
def CC:OpR X (binaryOp .Add) ER:=by
 intro pins s J H x y v u Q I p o h;obtain⟨l,b,xs,L,rfl,rfl,B,C,T,q⟩:=h;cases p
 cases o
 obtain⟨z,g,n,r,U,e⟩:=I.lstM B;obtain⟨M,f,N,w,A,G⟩:=I.lstM C;refine PySem.P.add_list e G ?_ (by grind);have E:g.toArray++f.toArray=(g++f).toArray:=by simp
 rw[E];exact⟨.ref _,_,I.lnew (r.append w) (by grind),rfl,q _ I.fresh⟩
end
end L2
namespace Att
open PySem PySem.W PySem.Calls PyProof.Rows
def RC:∀ns vs,WellAll P h vs (ns.map WData.int)->IntsAre vs ns:=by
 intro ns
 induction ns with
 |nil=>
  intro vs w;cases w
  exact .nil
 |cons n ns f=>
  intro vs w;cases w with
  |cons a b=>
   cases a
   exact .cons _ _ (f _ b)
def G1{l:OpenLaw}{n}(w:l.most=some n){P}{h}{args}{vals}(b:l.row.toRowW.claim.pre args=true)(o:WellAll P h vals args) :
  ∃a vs ns,vals=[Value.ref a]/\args=[WData.list (ns.map WData.int)]/\h.get? a=some {cls:=.type "list",data:=.seq vs.toArray}/\IntsAre vs ns/\ns.length<=n:=by
 have p:WShape.hasAll [] args [.list .int]=true:=(pre_splitW b).1;have x:l.pre.holds [] {args:=args}=true:=(pre_splitW b).2;obtain⟨d,r,rfl,A,z⟩:=hasAllW_cons p;obtain rfl:=hasAllW_nil z;obtain⟨xs,rfl,y⟩:=hasW_list A;obtain⟨ns,rfl⟩:=items_int y
 have f:ns.length<=n:=by
  have q:(WTm.not<|.lt (.lit<|.int (n:Int))<|.len<|.arg 0).holds [] {args:=[.list (ns.map .int)]}=true:=by
   have q:=(holds_andW x).1;rw[w]at q;lia
  have B:=condW_of q (w_not<|w_lt w_lit<|w_len_list<|w_arg rfl);simp_all
 cases o with
 |cons u s=>
  cases s
  cases u with
  |list v g=>exact⟨_,_,ns,rfl,rfl,v,RC ns _ g,f⟩
def Gf(l:OpenLaw)(args:List WData):l.row.toRowW.claim.post args (.bool true) args=true:=
 postW_of
  rfl
  (w_eq_bool (w_res rfl) w_lit) rfl
def MC{l:OpenLaw}{n}{q}{loose}{XP}{YP}{d}(Q:l.most=some n)(E:d.params.defaults=[])
  (call:∀w s₀ b y A v o z cd h a vs ns,
   Ground q loose [] XP w s₀ y A b.heap->YP w b.heap->
   b.heap.get? v=some o->o.data=.func (docDef d.name d.params d.body d.scope z cd h)->b.heap.CodeRec cd d.name->y d.name=some (.ref v)->
   b.heap.get? a=some {cls:=.type "list",data:=.seq vs.toArray}->IntsAre vs ns->ns.length<=n->b.gens=#[]->
   codeAny (model l.prog w) callerA (.call (.ref v) ⟨[.ref a],[]⟩) (λr x=>r=.ok (.ret<|.bool true)/\OldK b.heap x.heap/\x.os=b.os/\AllBare x.gens) b) :
  WalkO q loose XP YP l.row.toRowW d [] (λf vs=>PySem.call f vs):=by
 intro w s₀ b y A G Y v o z cd h dV kV N hd H L C hg args vals as p J M B U;obtain rfl:=Dflts.none L E;obtain rfl:=Dflts.noKw L;obtain⟨a,vs,ns,rfl,rfl,s,g,u⟩:=G1 Q p B;refine enter_call (Qs (call w s₀ b y A v o z cd h a vs ns G Y N (fd_plain hd) H C s g u hg) λr x hq=>?_);obtain⟨rfl,h2,h3,h4⟩:=hq;exact⟨.inl ⟨.bool true,.bool true,[],rfl,λ_=>rfl,.bool true,Gf l _,λ_=>⟨List.Pairwise.nil,λ_ T=>(nomatch T)⟩⟩,h2,h3,h4⟩
end Att
namespace L2
theorem TY:∀{vs}{ns:Yq},IntsAre vs ns->Vals (ns.map V.int) vs
 |_,_,.nil=>.nil
 |_,_,.cons n t h=>.cons ⟨t,rfl⟩ (TY h)
def Tq(H:Hp):Prop:=∀b,H b=none\/∃o xs,H b=some (.frz o<|.lst xs)
def Od{K B U CX k fa a fd x sp f vs ns}(KX:K.In f.heap)(G:f.heap.Ns mainGlobals B)(g:f.heap.Ns builtinsNs U)(hbb:∀x:Str,x≠"__name__"->U x=bootBuiltins x)(J:f.heap.NoLimit)(hg:f.gens=#[])(M:f.heap.get? a=some {cls:=.type "list",data:=.seq vs.toArray})(hi:IntsAre vs ns)(hl:ns.length<=sizeLine)(hr:Uh k callerA)(F:∀base,K.In base->base.Ns mainGlobals B->UM P w K B base CX k fa fd [x] sp)(y:∀s u,BindsTo s fd ⟨[u],[]⟩ [(x,u)])(Y:∀H,Tq H->SqL K H a (ns.map V.int)->sp [.ref a] H (λv _=>v=.bl true) λ_ _ _=>False)(hCX:∀H e l,CX [] H f (λ_ _ _=>False) e l->False) :
  codeAny (model P w) callerA (.call (.ref fa) ⟨[.ref a],[]⟩) (λr l=>r=.ok (.ret<|.bool true)/\OldK f.heap l.heap/\l.os=f.os/\AllBare l.gens) f:=by
 have rv:=TY hi
 have core:∀H,Tq H->SqL K H a (ns.map V.int)->HOk P w H f.heap->(∀b,H b≠none->b=a)->(H a≠none->K.lookup a=none)->
   codeAny (model P w) callerA (.call (.ref fa) ⟨[.ref a],[]⟩) (λr l=>r=.ok (.ret<|.bool true)/\OldK f.heap l.heap/\l.os=f.os/\AllBare l.gens) f:=by
  intro H hO hS E hA hK;have base_of:∀{b:Addr} {o:Obj},f.heap.get? b=some o->H b=none->(Kk f.heap H).get? b=some o:=λe n=>LH e n
  have T:∀{b:Addr} {o:Obj} {N:Array DictEntry} {Q:Nat},f.heap.get? b=some o->o.data=.dict N Q->H b=none:=λ{b o N Q} e d=>by
   cases q:H b with
   |none=>rfl
   |some u=>
    have e':=hA b (by rw[q];simp);subst e';rw[M]at e;cases e;cases d
  have p:∀{b:Addr} {m:Ys},f.heap.Ns b m->(Kk f.heap H).Ns b m:=λ{b m} ⟨o,N,Q,e,d,r⟩=>⟨o,N,Q,base_of e (T e d),d,r⟩
  have L:=λb o e=>base_of (KX b o e) (by
   cases q:H b with
   |none=>rfl
   |some u=>
    have e':=hA b (by rw[q];simp);subst e';rw[hK (by rw[q];simp)]at e;cases e)
  have hM:Mod K B (Kk f.heap H):=⟨L,p G,⟨U,p g,hbb⟩,let ⟨mc,h1,h2⟩:=J;⟨mc,p h1,h2⟩⟩;have e0:KG P w K B (Kk f.heap H) callerA [] f H:=⟨rfl,hM,λb o e=>LS e,Qr (MJ _ _),trivial,λb g=>absurd (show b∈([]:List Addr)from g) (by simp),E,.of_eq hg⟩
  refine Qs ((F _ L<|p G).run callerA [] f H ⟨[.ref a],[]⟩ [.ref a] [.ref a] _ _ hr e0 (y f<|.ref a) (.cons rfl .nil) (Y H hO hS)) λr l h=>?_;cases r with
  |error e=>exact(hCX H e l h).elim
  |ok fl=>
   cases fl with
   |ret u=>
    obtain⟨v,H',os,bare,un,C,r',q⟩:=h;subst q;obtain rfl:=r';refine⟨rfl,OldK.of_keep λb o e=>?_,os,bare⟩;cases q:H b with
    |none=>exact un.keep b o e q (by intro z;exact absurd (show b∈([]:List Addr)from z) (by simp)) (by simp)
    |some u=>
     rcases hO b with z|⟨ob,xs,z⟩
     ·rw[q]at z;cases z
     ·have z2:=un.frzs b ob _ z;obtain⟨e1,_⟩:=E b _ z;obtain⟨e2,_⟩:=C b _ z2;rw[e]at e1;cases e1;exact e2
   |_=>exact False.elim h
 cases hk:K.lookup a with
 |some o=>
  have e:=KX a o hk;rw[M]at e;cases e
  refine core (λ_=>none) (λ_=>.inl rfl) (.inr ⟨_,vs.toArray,_,hk,rfl,rfl,rfl,by rw[W7,hi.length];exact hl,by simpa using rv⟩) (λb u z=>by have A:=z;cases A) (λb z=>absurd rfl z) λz=>absurd rfl z
 |none=>
  refine core (λb=>if b=a then some (.frz {cls:=.type "list",data:=.seq vs.toArray} (.lst<|ns.map V.int))else none) (λb=>?_) (.inl<|.inr ⟨{cls:=.type "list",data:=.seq vs.toArray},Wr rfl⟩) (λb u z=>?_) (λb z=>?_) λ_=>hk
  ·by_cases g:b=a
   ·exact .inr ⟨_,_,Wr g⟩
   ·exact .inl (Wq g)
  ·by_cases g:b=a
   ·have A:=(Wr g).symm.trans z;cases A
    subst g;exact⟨M,by rw[Wk];exact hl,vs,_,rv,M⟩
   ·have A:=(Wq g).symm.trans z;cases A
  ·by_cases g:b=a
   ·exact g
   ·exact absurd (Wq g) z
def HS{l:PySem.W.OpenLaw}{n k}{q}{loose}{XP}{YP}{d}{K:Params->Yo}{CX:World->CXT}{sp:World->Sp}{x}(hn:l.most=some n)(J:n<=sizeLine)(M:d.params.defaults=[])(hr:Uh k callerA)(hY:∀w h,YP w h->(K w.params).In h)
  (F:∀w y B h,(K w.params).In h->h.Ns mainGlobals y->y d.name=some (.ref B)->
   ∃Q,(∀s u,BindsTo s Q ⟨[u],[]⟩ [(x,u)])/\
    ∀base,(K w.params).In base->base.Ns mainGlobals y->UM l.prog w (K w.params) y base (CX w) k B Q [x] (sp w))
  (E:∀w H a (ns:Yq),ns.length<=n->Tq H->SqL (K w.params) H a (ns.map V.int)->sp w [.ref a] H (λv _=>v=.bl true) λ_ _ _=>False)
  (N:∀w H s e C,CX w [] H s (λ_ _ _=>False) e C->False) :
  PySem.W.WalkO q loose XP YP l.row.toRowW d [] (λf vs=>PySem.call f vs):=by
 refine Att.MC hn M λw U z y mb B o pm cd doc a vs ns G Y ho hd hcd L A r p hg=>?_;have KX:=hY w _ Y;obtain⟨Q,hb,hF⟩:=F w y B _ KX G.T.g L;exact Od KX G.T.g G.T.b G.T.builtins G.T.nolimit hg A r (Wy p J) hr hF hb (λH hO hS=>E w H a ns p hO hS) λH e C=>N w H z e C
def Rb{l:PySem.W.OpenLaw}{n k}{q}{loose}{XP}{YP}{d}{K:Params->Yo}{CX}{sp:Yo->Sp}{x}(C:l.most=some n)(p:n<=sizeLine)(r:d.params.defaults=[])(B:Uh k callerA)(E:∀w h,YP w h->(K w.params).In h)
  (F:∀w b A h,(K w.params).In h->h.Ns mainGlobals b->b d.name=some (.ref A)->
   ∃z,(∀s u,BindsTo s z ⟨[u],[]⟩ [(x,u)])/\
    ∀base,(K w.params).In base->base.Ns mainGlobals b->UM l.prog w (K w.params) b base CX k A z [x] (sp<|K w.params))
  (o:∀K H a (ns:Yq),ns.length<=n->Tq H->SqL K H a (ns.map V.int)->sp K [.ref a] H (λv _=>v=.bl true) λ_ _ _=>False)
  (y:∀H s e g,CX [] H s (λ_ _ _=>False) e g->False) :
  PySem.W.WalkO q loose XP YP l.row.toRowW d [] (λf vs=>PySem.call f vs):=
 HS C p r B E F (λw H a ns L J G=>o (K w.params) H a ns L J G) λ_ H s e g=>y H s e g
noncomputable def inClass(s:Stmt)(j:Nat):Stmt:=match s with
 | .ClassDef _ _ _ body _ _ _ _ _ _ _=>body.getD j (.Pass ⟨0,0,0,0⟩)
 |_=>.Pass ⟨0,0,0,0⟩
noncomputable def Xo(s:Stmt):Arguments:=match s with
 | .FunctionDef _ a _ _ _ _ _ _ _ _=>a
 |_=>{posonlyargs:=[],args:=[],vararg:=none,kwonlyargs:=[],kw_defaults:=[],kwarg:=none,defaults:=[]}
noncomputable def Uu(s:Stmt):Yz:=match s with
 | .FunctionDef _ _ b _ _ _ _ _ _ _=>b
 |_=>[]
noncomputable def Uc(s:Stmt):Scope:=match s with
 | .FunctionDef _ _ _ _ _ _ b _ _ _=>b
 |_=>{kind:=.function,names:=[],isGenerator:=false,isCoroutine:=false}
noncomputable abbrev CX0:CXT:=λ_ _ _ _ _ _=>False
noncomputable abbrev E0:XK:=λ_ _ _=>False
def Xl:Xj CX0 X E0:=λ_ _ _ _ _ _ _ h=>h.elim
structure Fun (K:Yo) (x qual:Str) (st:Stmt) (f:Addr) (fd:FuncData):Prop where
 ex:∃(oc:Value) (od:Y1) (kV doc pm:Value) (an:Y1) (cdv ct:Value) (osl:Array (Y0)),
  fd=PySem.W.fnOf x qual (Xo st) (Uu st) (Uc st) .none kV doc pm an cdv ct/\K.lookup f=some ⟨oc,od,.func fd,osl⟩/\PySem.W.codeIn K cdv qual=true
 kp:PySem.W.keepIn K (.ref f)=true
section
variable {P:Program}{w:World}{K:Yo}{mg:Ys}{base:Heap}
def Fun.ok {st f o N ps k sp} (F:Fun K x qual st f o) (S:Ui N ps (Uc st)) (len:∀vs H Q E,sp vs H Q E->vs.length=ps.length)
  (g:∀b A outer s H vs Q E,Uh k (A.deeper<|envOfC qual (Uc st) s.heap.objs.size f b)->sp vs H Q E->
   ∃t,PSs (Uy CX0 P w K mg base N qual (Uc st) f b A outer s H E).nox (Uu st) t/\t {nx:=λ_ H'=>Q .non H',rt:=Q} (start N vs) H):UM P w K mg base CX0 (k+1) f o ps sp:=by
 obtain⟨oc,z,kV,v,y,C,b,B,p,rfl,r,n⟩:=F.ex;refine SK r n S len λA outer s H vs Q E u l=>?_;obtain⟨t,h,q⟩:=g b A outer s H vs Q E u l;exact⟨t,h.nox,q⟩
def Fun.binds {st f o ps} (F:Fun K x qual st f o)
  (h:∀kV b l n g ct us,us.length=ps.length->bindArgs (PySem.W.fnOf x qual (Xo st) (Uu st) (Uc st) .none kV b l n g ct) ⟨us,[]⟩=pure (ps.zip us)):Binds K o ps []:=by
 obtain⟨oc,r,kV,b,l,n,g,ct,p,rfl,s,q⟩:=F.ex;exact .all (h kV b l n g ct)
def TU{st f oc p o h kV g n b ct}(l:K.lookup f=some ⟨oc,p,.func (PySem.W.fnOf x qual (Xo st) (Uu st) (Uc st) .none kV g n o b ct),h⟩)(c:PySem.W.codeIn K b qual=true)(k:PySem.W.keepIn K (.ref f)=true):Fun K x qual st f (PySem.W.fnOf x qual (Xo st) (Uu st) (Uc st) .none kV g n o b ct):=⟨⟨oc,p,kV,g,n,o,b,ct,h,rfl,l,c⟩,k⟩
end
def Ts{k}(b:Uh k A):A.units+1<cLine:=QT (Nat.add_le_add_left (by simp) _) b.units
def Za4(h:n<=1000):n<sizeLine:=QT h (by decide)
section
variable {X:Cx}
def pv(i:Nat){x pos}(h:autoParam (X.N[i]?=some x) au_0)(f:autoParam (Vis X.env.scope x) au_4)(g:autoParam ((x==("__debug__" : Str))=false) au_1)(b:autoParam ((x==("__classdict__" : Str))=false) au_1):PE X (.Name x pos) (Xh i):=O4 h f g b
end
def UT{A B:Prop}(h:B):if false=true then A else B:=by grind
def Tc{A B:Prop}(h:A):if true=true then A else B:=by grind
def U2{c A B:Prop}[Decidable c](f:c->A)(b:¬c->B):if c then A else B:=by grind
def Ph{c A B:Prop}[Decidable c](b:c)(h:B):if (!decide c)=true then A else B:=by grind
def Same(H H':Hp):Prop:=∀b o,H b=some o->H' b=some o
def Same.refl (H:Hp):Same H H:=λ_ _ h=>h
def Same.trans (a:Same H g) (b:Same g f):Same H f:=λc o h=>b c o (a c o h)
def Same.free (e:Same H H') {l} (h:H' l=Option.none):H l=Option.none:=by
 cases q:H l with
 |none=>rfl
 |some o=>
  rw[e l o q]at h;lia
def Same.seq {K H H'}{a xs} (e:Same H H') (h:SqL K H a xs):SqL K H' a xs:=by
 rcases h with(h|⟨o,h⟩)|h
 ·exact .inl (.inl<|e _ _ h)
 ·exact .inl (.inr ⟨o,e _ _ h⟩)
 ·exact .inr h
end L2
set_option maxHeartbeats 4000000
namespace L2
section
variable {κ:Type} [DecidableEq κ]
noncomputable def Us(b:List (κ×V))(k:κ):Option V:=(b.find? λf=>decide (f.1=k)).map (·.2)
noncomputable def putK(b:List (κ×V))(k:κ)(v:V):List (κ×V):=
 if (b.any λf=>decide (f.1=k))=true then b.map (λf=>if f.1=k then(f.1,v)else f)else b++[(k,v)]
def X4{p:κ×V}{r:List (κ×V)}{k:κ}(e:p.1=k):Us (p::r) k=some p.2:=by simp[Us,Qv,e]
def Xx{p:κ×V}{r:List (κ×V)}{k:κ}(e:¬p.1=k):Us (p::r) k=Us r k:=by simp[Us,Qv,e]
theorem TZ(k:κ):∀b:List (κ×V),(b.any λf=>decide (f.1=k))=(Us b k).isSome
 |[]=>rfl
 |p::r=>by
  rw[QK];by_cases e:p.1=k
  ·simp only[X4 e,Wx e,Bool.true_or,Option.isSome_some]
  ·rw[Xx e,W9 e,Bool.false_or];exact TZ k r
theorem FE(k j:κ)(y:V):∀b:List (κ×V),Us (b.map λf=>if f.1=k then(f.1,y)else f) j=(Us b j).map λx=>if j=k then y else x
 |[]=>rfl
 |p::r=>by
  have g:=FE k j y r;rw[WM];by_cases h:p.1=k
  ·rw[Wr h];by_cases e:p.1=j
   ·rw[X4 (p:=(p.1,y)) e,X4 e,Vp,Wr (e.symm.trans h)]
   ·rw[Xx (p:=(p.1,y)) e,Xx e,g]
  ·rw[Wq h];by_cases e:p.1=j
   ·rw[X4 (p:=p) e,X4 e,Vp,Wq (λz=>h (e.trans z))]
   ·rw[Xx (p:=p) e,Xx e,g]
theorem Eu(k j:κ)(y:V):∀b:List (κ×V),Us b k=none->Us (b++[(k,y)]) j=if j=k then some y else Us b j
 |[],_=>by
  by_cases e:k=j
  ·rw[Wr e.symm];exact X4 (p:=(k,y)) e
  ·rw[Wq (λz=>e z.symm)];exact Xx (p:=(k,y)) e
 |p::r,f=>by
  rw[List.cons_append];have g:¬p.1=k:=λz=>by rw[X4 z]at f;cases f
  rw[Xx g]at f;have h:=Eu k j y r f;by_cases e:p.1=j
  ·rw[X4 e,X4 e,Wq (λz=>g (e.trans z))]
  ·rw[Xx e,Xx e,h]
def GU(b:List (κ×V))(k j:κ)(y:V):Us (putK b k y) j=if j=k then some y else Us b j:=by
 unfold putK;by_cases a:(b.any λf=>decide (f.1=k))=true
 ·rw[Wr a,FE];rw[TZ]at a;by_cases e:j=k
  ·obtain⟨x,hx⟩:=Option.isSome_iff_exists.mp a;rw[Wr e,e,hx,Vp,Wr rfl]
  ·rw[Wq e];cases Us b j with
   |none=>rfl
   |some x=>rw[Vp,Wq e]
 ·rw[Wq a];refine Eu k j y b ?_;rw[TZ]at a;cases q:Us b k with
  |none=>rfl
  |some x=>rw[q]at a;exact(a rfl).elim
def NX(b:List (κ×V))(k:κ)(v:V):(putK b k v).length<=b.length+1:=by
 unfold putK;split
 ·rw[Wk];omega
 ·rw[WB,QG,List.length_nil];omega
def RelO.isSome_eq {o:Option V}{u:Y0} (r:RelO o u):o.isSome=u.isSome:=by
 cases o with
 |none=>cases u with
  |none=>rfl
  |some _=>exact(show False from r).elim
 |some _=>cases u with
  |none=>exact(show False from r).elim
  |some _=>rfl
def KV.val {f:List (κ×V)}{vs:List (κ×Value)} (r:KV f vs) (k:κ):RelO (Us f k) (valueAt vs k):=by
 unfold KV at r
 induction r with
 |nil=>exact True.intro
 | @cons p q u g h t o=>
  obtain⟨n,s⟩:=h;by_cases e:p.1=k
  ·have l:q.1=k:=n.symm.trans e;have b:valueAt (q::g) k=some q.2:=by simp[valueAt,Qv,l]
   rw[X4 e,b];exact s
  ·have l:¬q.1=k:=λz=>e (n.trans z);have b:valueAt (q::g) k=valueAt g k:=by simp[valueAt,Qv,l]
   rw[Xx e,b];exact o
def KV.any {b:List (κ×V)}{vs:List (κ×Value)} (r:KV b vs) (k:κ):(b.any λf=>decide (f.1=k))=vs.any λf=>decide (f.1=k):=by
 unfold KV at r
 induction r with
 |nil=>rfl
 |cons h t g=>rw[QK,QK,g,h.1]
def KV.repl {f:List (κ×V)}{vs:List (κ×Value)} (r:KV f vs) (k:κ) {y:V}{u:Value} (l:RelV y u) :
  KV (f.map λb=>if b.1=k then(b.1,y)else b) (vs.map λb=>if b.1=k then(b.1,u)else b):=by
 unfold KV at r ⊢
 induction r with
 |nil=>exact .nil
 | @cons p q v s h t n=>
  rw[WM,WM];refine .cons ?_ n;obtain⟨g,o⟩:=h;by_cases e:p.1=k
  ·rw[Wr e,Wr (g.symm.trans e)];exact⟨g,l⟩
  ·rw[Wq e,Wq (λz=>e (g.trans z))];exact⟨g,o⟩
def KV.put {b:List (κ×V)}{vs:List (κ×Value)} (r:KV b vs) (k:κ) {y:V}{u:Value} (f:RelV y u):KV (putK b k y) (stored vs k u):=by
 unfold putK stored;rw[r.any k];by_cases e:(vs.any λg=>decide (g.1=k))=true
 ·rw[Wr e,Wr e];exact r.repl k f
 ·rw[Wq e,Wq e];exact Paired.snoc r ⟨rfl,f⟩
def KV.length {b:List (κ×V)}{vs:List (κ×Value)} (r:KV b vs):b.length=vs.length:=Paired.length r
end
def SL{P:Program}{w:World}{k:Key}{u:Value}(r:RelV (kV k) u):(Xn P w).is k u=true:=by
 cases k with
 |inl i=>obtain⟨t,e⟩:=(show ∃t,u=Value.int i t from r);subst e;exact LK P w i t
 |inr x=>obtain⟨t,e⟩:=(show ∃t,u=Value.str x t from r);subst e;exact OX P w x t
theorem Av{P:Program}{w:World}:∀{b:List Key}{us:Yw},Vals (b.map kV) us->ItemsAre (Xn P w) b us
 |[],_,r=>by rw[List.map_nil]at r;cases r;exact .nil
 |k::b,_,r=>by
  rw[WM]at r;cases r with
  |cons h t=>exact .cons (SL h) (Av t)
abbrev KT(H:Hp):List (List Key×V)->List (List Key×Addr×Value)->Prop:=Paired λp q=>p.1=q.1/\H q.2.1=some (.tup<|p.1.map kV)/\RelV p.2 q.2.2
def KT.val {H:Hp}{f:List (List Key×V)}{xs:List (List Key×Addr×Value)} (r:KT H f xs) (k:List Key):RelO (Us f k) ((atKey xs k).map (·.2)):=by
 induction r with
 |nil=>exact True.intro
 | @cons p q u g h t o=>
  obtain⟨n,_,s⟩:=h;by_cases e:p.1=k
  ·have l:q.1=k:=n.symm.trans e;have b:atKey (q::g) k=some q.2:=by simp[atKey,Qv,l]
   rw[X4 e,b];exact s
  ·have l:¬q.1=k:=λz=>e (n.trans z);have b:atKey (q::g) k=atKey g k:=by simp[atKey,Qv,l]
   rw[Xx e,b];exact o
def KT.repl {H:Hp}{b:List (List Key×V)}{xs:List (List Key×Addr×Value)} (r:KT H b xs) (k:List Key) {y:V}{u:Value} (n:RelV y u) :
  KT H (b.map λg=>if g.1=k then(g.1,y)else g) (xs.map<|putAt k u):=by
 induction r with
 |nil=>exact .nil
 | @cons p q w v h t o=>
  rw[WM,WM];refine .cons ?_ o;obtain⟨f,l,s⟩:=h;unfold putAt;by_cases e:p.1=k
  ·rw[Wr e,Wr (f.symm.trans e)];exact⟨f,l,n⟩
  ·rw[Wq e,Wq (λz=>e (f.trans z))];exact⟨f,l,s⟩
def KT.put {H:Hp}{f:List (List Key×V)}{xs:List (List Key×Addr×Value)} (r:KT H f xs) (k:List Key) {b:Addr}{y:V}{u:Value} (l:H b=some (.tup<|k.map kV)) (g:RelV y u) :
  KT H (putK f k y) (storedH xs k b u):=by
 have e:(f.any λh=>decide (h.1=k))=(atKey xs k).isSome:=by
  rw[TZ,(r.val k).isSome_eq,Vx]
 unfold putK storedH;rw[e];by_cases q:(atKey xs k).isSome=true
 ·rw[Wr q,Wr q];exact r.repl k g
 ·rw[Wq q,Wq q];exact Paired.snoc r ⟨rfl,l,g⟩
def KT.keeps {H H':Hp}{f:List (List Key×V)}{xs:List (List Key×Addr×Value)} (r:KT H f xs) (g:∀b ys,H b=some (.tup ys)->H' b=some (.tup ys)):KT H' f xs:=
 Paired.mapP r λ_ _ z=>⟨z.1,g _ _ z.2.1,z.2.2⟩
section
variable {P:Program}{w:World}{H:Hp}{h:Heap}{a:Addr}
def FX{u:HO}(ok:HOk P w H h)(e:Rd H a u):ObjOk P w H h a u:=e.ok ok
def DJ{b:List (Key×V)}(ok:HOk P w H h)(e:Rd H a (.dK b)):b.length<=sizeLine/\(a==sysModules)=false/\∃vs,KV b vs/\h.DictOf (Xn P w) a vs:=
 show ObjOk P w H h a (.dK b)from FX ok e
def IB{b:List (Key×V)}(ok:HOk P w H h)(e:H a=some (.dK b)):b.length<=sizeLine/\(a==sysModules)=false/\∃vs,KV b vs/\h.DictOf (Xn P w) a vs:=DJ ok (.inl e)
def NA{b:List Key}(ok:HOk P w H h)(e:H a=some (.tup<|b.map kV)):(tupleKind<|Xn P w).is h b a:=by
 obtain⟨_,f,r,o,p,l,n,g⟩:=(show ObjOk P w H h a (.tup<|b.map kV)from ok a _ e)
 exact⟨o,f.toArray,n,p,l,g,by simpa using Av r⟩
def Ek{b:List (List Key×V)}(ok:HOk P w H h)(e:Rd H a (.dT b)):b.length<=sizeLine/\(a==sysModules)=false/\
  ∃xs,KT H b xs/\h.DictOfH (tupleKind<|Xn P w) a xs:=by
 obtain⟨z,y,xs,r,o,A,B,v,u,s,n,g⟩:=(show ObjOk P w H h a (.dT b)from FX ok e)
 refine⟨z,y,xs,r,o,A,B,v,u,s,n,λx hx=>?_,g⟩
 have all:∀{l:List (List Key×V)} {m:List (List Key×Addr×Value)},KT H l m->∀x∈m,(tupleKind<|Xn P w).is h x.1 x.2.1:=by
  intro l m q
  induction q with
  |nil=>intro x hx;exact nomatch hx
  | @cons p q E C hq t f=>
   intro x hx;rcases Wu.mp hx with e|hx
   ·subst e;exact NA ok (by rw[←hq.1];exact hq.2.1)
   ·exact f x hx
 exact all r x hx
def ON{b:List (List Key×V)}(ok:HOk P w H h)(e:H a=some (.dT b)):b.length<=sizeLine/\(a==sysModules)=false/\
  ∃xs,KT H b xs/\h.DictOfH (tupleKind<|Xn P w) a xs:=Ek ok (.inl e)
end
def DGet(H:Hp)(a:Addr)(y:V)(r:Option V):Prop:=
 (∃f k,Rd H a (.dK f)/\y=kV k/\r=Us f k)\/∃f k b,Rd H a (.dT f)/\y=.ref b/\H b=some (.tup<|k.map kV)/\r=Us f k
def DPut(H:Hp)(a:Addr)(y v:V)(H':Hp):Prop:=
 (∃f k,H a=some (.dK f)/\y=kV k/\f.length<sizeLine/\H'=upd H a (.dK<|putK f k v))\/
 ∃f k b,H a=some (.dT f)/\y=.ref b/\H b=some (.tup<|k.map kV)/\f.length<sizeLine/\H'=upd H a (.dT<|putK f k v)
def DGet.k {H:Hp}{a:Addr}{b:List (Key×V)}{k:Key} (e:H a=some (.dK b)):DGet H a (kV k) (Us b k):=.inl ⟨b,k,.inl e,rfl,rfl⟩
def DGet.t {H:Hp}{a b:Addr}{f:List (List Key×V)}{k:List Key} (e:H a=some (.dT f)) (g:H b=some (.tup<|k.map kV)):DGet H a (.ref b) (Us f k):=.inr ⟨f,k,b,.inl e,rfl,g,rfl⟩
def DPut.k {H:Hp}{a:Addr}{b:List (Key×V)}{k:Key}{v:V} (e:H a=some (.dK b)) (f:b.length<sizeLine):DPut H a (kV k) v (upd H a<|.dK<|putK b k v):=.inl ⟨b,k,e,rfl,f,rfl⟩
def DPut.t {H:Hp}{a b:Addr}{f:List (List Key×V)}{k:List Key}{v:V} (e:H a=some (.dT f)) (h:H b=some (.tup<|k.map kV)) (g:f.length<sizeLine) :
  DPut H a (.ref b) v (upd H a<|.dT<|putK f k v):=.inr ⟨f,k,b,e,rfl,h,g,rfl⟩
section
variable {X:Cx}{pins:Yr}{σ:St}{H:Hp}{s:Shared}{a:Addr}{y v:V}{u r:Value}{o:Option V}{A:Around}{E:Yt}
def Inv.big (I:Inv X pins σ H s):sysModules<s.heap.objs.size:=by
 have h:mainGlobals<s.heap.objs.size:=(I.mod.glob.keeps I.bk).lt;exact Q6 (by decide) h
def IW{Q:Yt}(C:A.units+1<cLine)(I:Inv X pins σ H s)(g:DGet H a y o)(B:RelV y u)(h:∀x,Inv X pins σ H x->Q (.bool (!o.isSome)) x) :
  wpAny (model X.prog X.w) A (compareOp .NotIn u<|.ref a) Q E s:=by
 rcases g with⟨f,k,e,ey,l⟩|⟨f,k,b,e,ey,G,l⟩
 ·subst ey;obtain⟨z,n,J,rel,p⟩:=DJ I.hok e;refine wpAny_notIn_of (SL B) n p.mapOf ?_;rw[←(rel.val k).isSome_eq,←l];exact h _ (I.tok _)
 ·subst ey;cases (show u=Value.ref b from B)
  obtain⟨z,n,xs,rel,p⟩:=Ek I.hok e;refine wpAny_notIn_heap (tupleKind_room_in1 C) (NA I.hok G) n p ?_;have q:=(rel.val k).isSome_eq;rw[Vx]at q;rw[←q,←l];exact h _ (I.tok _)
def AO{f:Heap}{t':Nat}{g:HO}(I:Inv X pins σ H s)(h:Mut (H a))(l:Heap.SameBut a s.heap f)(n:∃q,f.get? a=some q)(new:ObjOk X.prog X.w (upd H a g) f a g) :
  Inv X pins σ (upd H a g) {s with heap:=f,toks:=t'}:=
 I.write (x:=a) (e:=a) h (.inl rfl) (λb q p z=>(l.2 b p).trans z) n new
def M4{P:Program}{w:World}{H':Hp}{f:Heap}{b:List (Key×V)}{vs:List (Key×Value)}(z:b.length<=sizeLine)(g:(a==sysModules)=false)(rel:KV b vs)(dd:f.DictOf (Xn P w) a vs) :
  ObjOk P w H' f a (.dK b):=⟨z,g,vs,rel,dd⟩
def L6{H':Hp}{Q:Unit->Shared->Prop}(hu:A.units+1<cLine)(I:Inv X pins σ H s)(g:DPut H a y v H')(M:RelV y u)(rv:RelV v r)(h:∀L,Inv X pins σ H' L->Q () L) :
  wpAny (model X.prog X.w) A (setItem (.ref a) u r) Q E s:=by
 rcases g with⟨f,k,e,ey,l,G⟩|⟨f,k,b,e,ey,U,l,G⟩
 ·subst ey G;obtain⟨z,C,Y,rel,J⟩:=IB I.hok e;have p:Y.length<=sizeLine:=by rw[←rel.length];exact z
  have B:(putK f k v).length<=sizeLine:=by have:=NX f k v;omega
  refine wpAny_setItem_pairs (hsz:=p) (SL M) J λN n x=>h _ ?_;have he:∃q,N.get? a=some q:=let ⟨q,_,_,hq,_⟩:=n;⟨q,hq⟩;exact AO I (by rw[e];exact True.intro) x he (M4 B C (rel.put k rv) n)
 ·subst ey G;cases (show u=Value.ref b from M)
  obtain⟨z,C,xs,rel,J⟩:=ON I.hok e;have p:xs.length<=sizeLine:=by rw[←Paired.length rel];exact z
  have B:(putK f k v).length<=sizeLine:=by have:=NX f k v;omega
  refine wpAny_setItem_heap (hsz:=p) (tupleKind_room_in1 hu) (NA I.hok U) J λN n x=>h _ ?_;obtain⟨q,es,ep,hq,h2,h3,h4,_,h5⟩:=n;refine AO I (by rw[e];exact True.intro) x ⟨q,hq⟩ ⟨B,C,_,(rel.put k U rv).keeps λc ys T=>?_,q,es,ep,hq,h2,h3,h4,h5⟩;rw[Uj (OI T e (λz=>nomatch z))];exact T
end
def D8(i:Expr):Prop:=∀b f,subscripted i false b f=operate [b,f] (getItem b f)
def Ln{prog:Program}{w:World}{A:Around}{E:Yt}{s:Shared}{env:Env}{value slice:Expr}{pos:Pos}{T id:String}{Q:Yt}(y:typeLookup (.type T) "__getitem__"=pure (some<|.builtin id))(v:D8 slice)(h:wpAny (model prog w) A (eval value env) (λo l=>wpAny (model prog w) A (eval slice env) (λi b=>b.TypeIs o T/\wpAny (model prog w) A (getItem o i) Q E b) E l) E s) :
  wpAny (model prog w) A (eval (.Subscript value slice pos) env) Q E s:=by
 refine Subscript_ (WD h (λo l q=>WD q (λi b f=>?_) λ_ _ x=>x) λ_ _ x=>x);obtain⟨u,f⟩:=f;unfold subscriptTail;refine Wi ?_;rw[getitemInPython_of_ne u.not_modules];refine Wi (wpAny_specialOf u y ?_)
 have n:wpAny (model prog w) A (subscripted slice false o i) (λr g=>wpAny (model prog w) A (letTemporaryGo value o r >>= λ_=>pure r) Q E g) E b:=by
  rw[v o i];exact wpAny_operating (WD f (λr g p=>Wi (wpAny_letTemporaryGo<|Wn p)) λ_ _ x=>x)
 first
  |exact Wn (Wi n)
  |exact Wi (Wn<|Wi n)
  |exact Wi n
noncomputable def FJ(g h:TE):TE:=λb H Q=>g b H λy l=>h b l λx f=>∃a o,x=.ref a/\DGet f a y o/\Q (.bl (!o.isSome)) f
noncomputable def FN(l g h:TE):TS:=λD b H=>h b H λv p=>l b p λx o=>g b o λy n=>∃a f,x=.ref a/\DPut n a y v f/\D.nx b f
section
variable {X:Cx}{o i e value:Expr}{pos pos' tpos:Pos}{td ty tv:TE}
def Zad(v:X.A.units+1<cLine)(z:PE X i ty)(w:PE X o td):PC X .NotIn i o (FJ ty td):=by
 intro pins s b H Q I h;refine thn (z pins s b H _ I h) ?_;rintro T f ⟨y,L,G,l,q⟩;refine thn (w pins f b L _ G q) ?_;rintro u N ⟨x,J,E,n,a,r,B,g,p⟩;subst B;obtain rfl:u=Value.ref a:=n;exact IW v E g l λM C=>⟨.bl (!r.isSome),J,C,rfl,p⟩
def Rn(E:X.A.units+1<cLine)(J:PE X o td)(L:PE X i ty)(C:PE X value tv)(G:swapsWith value (some<|.Subscript o i pos') pos.line X.env=pure false) :
  PS X (.Assign [.Subscript o i pos'] value pos) (FN td ty tv):=by
 intro pins s b H D I h;refine wpAny_Assign_Subscript (thn (C pins s b H _ I h) ?_) G;rintro r l ⟨v,H1,U,q,B⟩;refine thn (J pins l b H1 _ U B) ?_;rintro u f ⟨x,H2,T,p,z⟩;refine thn (L pins f b H2 _ T z) ?_;rintro iv s3 ⟨y,H3,Q,n,a,Y,M,g,w⟩;subst M;obtain rfl:u=Value.ref a:=p;exact L6 E Q g n q λs4 N=>⟨b,Y,N,w⟩
end
def Lj{P:Program}{w:World}{H:Hp}(h:Heap)(b:sysModules<h.objs.size):ObjOk P w H (h.push {cls:=.type "dict",data:=.dict #[]}) h.objs.size (.dK []):=
 ⟨WV _,Q7.mpr (Ne.symm<|W3 b),[],.nil,Heap.DictOf.new h⟩
noncomputable def Ap:TE:=λ_ H Q=>∀p,H p=none->Q (.ref p) (upd H p<|.dK [])
section
variable {X:Cx}{pos:Pos}
def IT:PE X (.Dict [] [] pos) Ap:=λpins s b H Q I h=>
 wpAny_Dict_empty ⟨.ref s.heap.objs.size,_,I.laid (a:=s.heap.objs.size) (o:=.dK []) (t':=s.toks) (λ_ _ q=>Wl _ q) (Wp _) (Lj s.heap I.big),rfl,h _ (I.hok.fresh<|Wp _)⟩
end
end L2
set_option genInjectivity false
set_option genSizeOfSpec false
namespace Own
open L2
structure Def (K:Yo) (mg:Ys) (x:Str) (st:Stmt) (ps:Yx):Prop where
 ex:∃f fd,Fun K x x st f fd/\mg x=some (.ref f)/\Binds K fd ps []
structure Callee (P:Program) (w:World) (K:Yo) (mg:Ys) (base:Heap) (CX:CXT) (k:Nat) (x:Str) (ps:Yx) (sp:Sp):Prop where
 ex:∃f fd,UM P w K mg base CX k f fd ps sp/\mg x=some (.ref f)/\PySem.W.keepIn K (.ref f)=true/\(∃o:Obj,K.lookup f=some o/\o.data=.func fd)/\Binds K fd ps []
section
variable {P:Program}{w:World}{K:Yo}{mg:Ys}{base:Heap}
def Callee.at {st f b k ps sp} (C:Callee P w K mg base CX k x ps sp) (s:mg x=some (.ref f)) (F:Fun K x x st f b) (_:Def K mg x st ps):UM P w K mg base CX k f b ps sp:=by
 obtain⟨v,l,A,h,_,u,_⟩:=C.ex;obtain⟨oc,q,kV,n,p,z,o,y,g,_,r,_⟩:=F.ex
 grind
def Def.ok {st N ps k sp} (D:Def K mg x st ps) (S:Ui N ps (Uc st)) (len:∀vs H Q E,sp vs H Q E->vs.length=ps.length)
  (g:∀f b A outer s H vs Q E,Uh k (A.deeper<|envOfC x (Uc st) s.heap.objs.size f b)->sp vs H Q E->
   ∃t,PSs (Uy CX0 P w K mg base N x (Uc st) f b A outer s H E).nox (Uu st) t/\t {nx:=λ_ H'=>Q .non H',rt:=Q} (start N vs) H):Callee P w K mg base CX0 (k+1) x ps sp:=by
 obtain⟨f,q,F,o,p⟩:=D.ex;refine⟨f,q,F.ok S len λb A outer s H vs Q E n h=>g f b A outer s H vs Q E n h,o,F.kp,?_,p⟩;obtain⟨oc,v,kV,r,u,B,b,z,l,_,y,_⟩:=F.ex
 grind
end
section
variable {X:Cx}{CX:CXT}{k:Nat}{ps:Yx}{sp:Sp}{E:XK}{x:Str}{p pos:Pos}{e:Expr}{es:Yy}{t:TA}
def DA(C:Callee X.prog X.w X.K X.mg X.base CX k x ps sp)(h:Uh k X.A)(hx:Xj CX X E)(s:PA X (e::es) t)(o:autoParam (Gl X x) au_0)(g:autoParam ((x==("__debug__" : Str))=false) au_1)(q:autoParam (starEach (e::es) X.env=(false,eval e X.env)::starEach es X.env) au_0)(b:autoParam ((backTo pos<|starEach es X.env).any (·.1)=false) au_0) :
  PE X (.Call (.Name x p) (e::es) [] pos) (P5 sp [] E t):=by
 obtain⟨f,u,F,l,n,_,r⟩:=C.ex;exact LB F h o l n r .nil hx s g q b
def LQ:Xd X (.builtin "isinstance") (λxs H Q=>∃x n t b,xs=[x,.ty n]/\UW X.K H x t/\PySem.W.kitOne X.K t (.type n)=some b/\Q (.bl b) H):=by
 intro pins s w H xs y Q I o h;obtain⟨x,n,t,b,rfl,g,e,q⟩:=h;cases o with
 |cons r u=>
  cases u with
  |cons v f=>
   cases f
   obtain rfl:=v;exact Zao I r g e λl=>⟨.bl b,H,I.tok l,rfl,q⟩
def G7:IxR X (λx y H Q=>Pk X.K x y H Q\/Pb X.K x y H Q):=ix_list.or Hs
end
noncomputable def D9(t u:TS):TS:=λD g H=>∃J:L2.St->Hp->Prop,t {D with nx:=J} g H/\∀b f,J b f->u D b f
def Za9{st rest t u}(p:PS X st t)(o:PSs X rest u):PSs X (st::rest) (D9 t u):=by
 intro pins s l H D I h;obtain⟨J,h,k⟩:=h;refine wpAny_execs_cons (thn (p pins s l H {D with nx:=J} I h) λf n q=>?_)
 cases f with
 |next=>
  obtain⟨b,g,r,q⟩:=q;exact o pins n b g D r (k b g q)
 |_=>exact q
def Gj(K:Yo)(n:String):PySem.W.kitOne K (.type n) (.type n)=some true:=by
 unfold PySem.W.kitOne;simp
def KH{xs i v}(h:atI xs i=some v):atI (xs.map f) i=some (f v):=by
 unfold atI at h ⊢;cases e:ixN xs.length i with
 |_=>grind
def TM{i v}(b:0<=i)(h:xs[i.toNat]?=some v):atI xs i=some v:=by
 have:=NY h
 grind
def UJ(h:H a=none):Same H (upd H a o):=λb u e=>by rw[Uj (Xi e h)];exact e
def Same.upd (S:Same H H') (h:H a=none):Same H (upd H' a o):=λb u e=>by rw[Uj (Xi e h)];exact S b u e
def Same.new (S:Same H H') (h:H' a=none):Same H (L2.upd H' a o):=Own.Same.upd S (S.free h)
def Lu(names:List (Str×NameKind))(f:∀x∈names,x.2=.free->∃c,env.cells.lookup x.1=some c):∀b,(∀x c,b.lookup x=some c->env.cells.lookup x=some c)->
  ∃g,(forIn names b (λx w=>if (x.2 == .free)=true then(do let c ←cellOf env x.1;pure (ForInStep.yield ((x.1,c)::w)))else pure (ForInStep.yield w)):Sem (Y2))=pure g/\
   (∀x c,g.lookup x=some c->env.cells.lookup x=some c)/\(∀x,(∃c,b.lookup x=some c)->∃c,g.lookup x=some c)/\∀x∈names,x.2=.free->∃c,g.lookup x.1=some c:=by
 induction names with
 |nil=>
  intro b p;exact⟨b,rfl,p,λ_ h=>h,λx hx=>by cases hx⟩
 |cons y r z=>
  intro b p;have l:=z λx hx=>f x (W2 _ hx);obtain⟨n,k⟩:=y;by_cases u:k=.free
  ·subst u;obtain⟨c,v⟩:=f (n,.free) WR rfl
   have A:∀x d,List.lookup x ((n,c)::b)=some d->env.cells.lookup x=some d:=λx d e=>by
    rw[Qd]at e;by_cases hx:x=n
    ·subst hx;simp at e;subst e;exact v
    ·have:(x==n)=false:=by simpa using hx
     rw[this]at e;exact p x d e
   obtain⟨g,e,s,p2,q⟩:=l ((n,c)::b) A;refine⟨g,?_,s,λx hx=>p2 x ?_,λx hx o=>?_⟩
   ·rw[List.forIn_cons];have B:cellOf env n=pure c:=by unfold cellOf;rw[v]
    rwa[B]
   ·rw[Qd];cases (x==n)
    ·exact hx
    ·exact⟨c,rfl⟩
   ·rcases Wu.mp hx with rfl|hx
    ·exact p2 n ⟨c,by simp[Qd]⟩
    ·exact q x hx o
  ·obtain⟨g,e,s,p2,q⟩:=l b p;refine⟨g,?_,s,p2,λx hx o=>?_⟩
   ·grind
   ·rcases Wu.mp hx with rfl|hx
    ·exact absurd o u
    ·exact q x hx o
def Ra{sc}(b:∀x∈sc.names,x.2=.free->∃c,env.cells.lookup x.1=some c) :
  ∃f,closureFor sc env=pure f/\(∀x c,f.lookup x=some c->env.cells.lookup x=some c)/\∀x∈sc.names,x.2=.free->∃c,f.lookup x.1=some c:=by
 obtain⟨f,e,l,_,g⟩:=Lu sc.names b [] (λx c h=>by cases h);unfold closureFor
 grind
noncomputable def U6(X:Cx)(N':Yx)(g:Scope)(h:Y2)(C:Addr)(b:Shared)(f:Hp)(ex:List Addr):Cx:=
 {X with N:=N',s₀:=b,H₀:=f,env:=compEnvC g h C X.env,outer:=X.stack,ex:=ex,fn:=λ_=>false,pn:=[],xe:=λ_ _=>False}
structure Pe (X:Cx) (N':Yx) (φ:Yu) (sc:Scope):Prop where
 kind:sc.kind=.function
 okind:X.env.scope.kind=.function
 nocell:∀y∈sc.names,y.2≠.cell
 names:∀y∈sc.names,y.2=.local->sc.names.lookup y.1=some .local
 frees:∀y∈sc.names,y.2=.free->X.env.scope.names.lookup y.1=some .cell
 len:φ.length=N'.length
 pick:∀(i:Nat) (x:Str) (j:Nat),N'[i]?=some x->φ[i]?=some (some j)->X.N[j]?=some x/\sc.names.lookup x=some .free
noncomputable def atStart(φ:Yu)(b:L2.St):L2.St:=φ.map λo=>o.bind λj=>(b[j]?).join
def Sub(f b:L2.St):Prop:=b.length=f.length/\∀(i:Nat) (v:V),f[i]?=some (some v)->b[i]?=some (some v)
def Sub.refl:Sub b b:=⟨rfl,λ_ _ h=>h⟩
def Sub.skip (h:Sub f b):Sub (none::f) (x::b):=by
 refine⟨by simp[h.1],λi v e=>?_⟩;cases i with
 |zero=>grind
 |succ i=>simp at e ⊢;exact h.2 i v e
theorem Dq{env:Env}(o:env.scope.kind=.function):∀{names:List (Str×NameKind)}{x:Str},names.lookup x=some .free->env.scope.names.lookup x=some .cell->
  (names.map λ(n,k)=>if (k==NameKind.free&&env.scope.kind == .function&&env.kindOf n==some .cell)then(n,NameKind.cell)else(n,k)).lookup x=some .cell
 |[],_,h,_=>by simp at h
 |(n,k)::r,x,h,f=>by
  have g:=@Dq env o r x;show List.lookup x ((if (k==NameKind.free&&env.scope.kind == .function&&env.kindOf n==some .cell)=true then(n,NameKind.cell)else(n,k))::_)=_;cases hx:x==n with
  |true=>
   have l:env.kindOf x=some .cell:=f;simp_all
  |false=>
   simp only[Qd,hx]at h;by_cases b:(k==NameKind.free&&env.scope.kind == .function&&env.kindOf n==some .cell)=true
   ·rw[Wr b];simp only[Qd,hx];exact g h f
   ·rw[Wq b];simp only[Qd,hx];exact g h f
theorem BG{env:Env}:∀{names:List (Str×NameKind)}{x}{q:NameKind},
  (names.map λ(n,k)=>if (k==NameKind.free&&env.scope.kind == .function&&env.kindOf n==some .cell)then(n,NameKind.cell)else(n,k)).lookup x=some q->∃k,(x,k)∈names/\(q=k\/k=.free)
 |[],_,_,h=>by simp at h
 |(n,k)::r,x,q,h=>by
  have f:List.lookup x ((if (k==NameKind.free&&env.scope.kind == .function&&env.kindOf n==some .cell)=true then(n,NameKind.cell)else(n,k))::(r.map λ(n,k)=>if (k==NameKind.free&&env.scope.kind == .function&&env.kindOf n==some .cell)then(n,NameKind.cell)else(n,k)))=some q:=h;cases hx:x==n with
  |true=>
   have e:x=n:=by simpa using hx
   subst e;by_cases b:(k==NameKind.free&&env.scope.kind == .function&&env.kindOf x==some .cell)=true
   ·simp_all
   ·simp_all
  |false=>
   have o:List.lookup x (r.map λ(n,k)=>if (k==NameKind.free&&env.scope.kind == .function&&env.kindOf n==some .cell)then(n,NameKind.cell)else(n,k))=some q:=by
    by_cases b:(k==NameKind.free&&env.scope.kind == .function&&env.kindOf n==some .cell)=true
    ·rw[Wr b]at f;simp only[Qd,hx]at f;exact f
    ·rw[Wq b]at f;simp only[Qd,hx]at f;exact f
   obtain⟨g,l,hq⟩:=(@BG env r x q) o;exact⟨g,W2 _ l,hq⟩
def Za0{H target iter B scope pos L J env}(I:Nat->Shared->Prop)
  (turn:∀n s,I n s->wpAny (model prog w) A (pyNext L) (λr g=>match r with
   |none=>R (.ok .next) g
   |some v=>wpAny (model prog w) A (letOwnedTupleGo target L v) (λ_ f=>wpAny (model prog w) A (assign target env v) (λ_ q=>
     wpAny (model prog w) A (forIn B true λc r=>if r=true then do let ok ←isTrue c env (eval c env);pure (ForInStep.yield ok)else pure (ForInStep.yield r)) (λok b=>
      if ok=true then wpAny (model prog w) A (eval H env) (λx p=>
       wpAny (model prog w) A (call (.builtin "list.append") [J,x]) (λ_ o=>∃m,m<n/\I m o) (λ_ _=>False) p) (λ_ _=>False) b
      else ∃m,m<n/\I m b) (λ_ _=>False) q) (λ_ _=>False) f) (λ_ _=>False) g) (λ_ _=>False) s)
  (n:Nat) (h:I n s) :
  codeAny (model prog w) A (.compLoop (.ListComp H [⟨target,iter,B,0⟩] scope pos) 0 L J env) R s:=by
 refine codeAny_loop rfl I (λn s M=>?_) n h;refine wpAny_noted ?_;rw[compTurn_list];refine Wi (wpAny_standAt<|Wi (WD (turn n s M) (λr g y=>?_) λ_ _ l=>l.elim));cases r with
 |none=>exact Wn y
 |some v=>
  refine Wi (WD y (λ_ f z=>?_) λ_ _ l=>l.elim);refine Wi (WD z (λ_ q G=>Wi (WD G (λok b u=>?_) λ_ _ l=>l.elim)) λ_ _ l=>l.elim);cases ok with
  |false=>exact Wn ⟨rfl,u⟩
  |true=>
   exact Wi (Wi (WD u (λx p E=>Wi (WD E (λ_ o C=>Wn (Wn ⟨rfl,C⟩)) λ_ _ l=>l.elim)) λ_ _ l=>l.elim))
def K7(X:Cx)(f:Yy)(t:TT):Prop:=
 ∀(pins:Yr) (s:Shared) (b:L2.St) (H:Hp) (Q:Bool->Hp->Prop),Inv X pins b H s->t b H Q->
  wpAny (model X.prog X.w) X.A (forIn f true λc r=>if r=true then do let ok ←isTrue c X.env (eval c X.env);pure (ForInStep.yield ok)else pure (ForInStep.yield r)) (TP X pins b Q) X.xe s
noncomputable def Cb:TT:=λ_ H Q=>Q true H
def Nw:K7 X [] Cb:=λ_ _ _ H _ I h=>Wn ⟨H,I,h⟩
def Fq(g:PT X c t):K7 X [c] t:=by
 intro pins s f H Q I h;rw[List.forIn_cons];refine Wi ?_;exact Wi (thn (g pins s f H Q I h) λb l q=>Wn (Wn q))
noncomputable def PM(φ:Yu)(u:TI)(g:TG)(tc:TT)(te:TE):TE:=λo H Q=>u o H λJ s=>∀D,s D=none->∃W:Nat->Nat->List V->Hp->Prop,(∃m,W 0 m [] (upd s D<|.lst []))/\
 ∀i m h n,W i m h n->(J.stop i n/\Q (.ref D) n)\/(J.go i n/\∀x r,J.yld i n x r->g x (atStart φ o) r λf v=>Sub (atStart φ o) f/\tc f v λb q=>
  if b=true then te f q λy p=>p D=some (.lst h)/\h.length<sizeLine/\∃l,l<m/\W (i+1) l (h++[y]) (upd p D<|.lst (h++[y]))else ∃l,l<m/\W (i+1) l h q)
def Inv.weak {f b:L2.St}{H}{s} (I:Inv X pins b H s) (S:Sub f b):Inv X pins f H s:=
 ⟨I.ok,I.os,I.bare,I.base,let ⟨m,g,h⟩:=I.loc;⟨m,g,λi x v o n l=>h i x v o (S.2 i v n) l⟩,I.cell,I.free,I.freeC,I.pin,I.hok,by rw[←S.1];exact I.len⟩
def CN{i:Nat}{v}(h:(atStart φ b)[i]?=some (some v)):∃j,φ[i]?=some (some j)/\b[j]?=some (some v):=by
 unfold atStart at h;cases e:φ[i]? with
 |none=>grind
 |some o=>
  cases o with
  |_=>grind
def CompEnd(X:Cx)(pins:Yr)(g:L2.St)(Q:VK)(use:Option (Value->Sem Unit))(h:Yt):Prop:=
 ∀(D C:Addr) (f:Hp) (b:Shared),Q (.ref D) f->Inv X pins g f b->(∃m,b.heap.Ns C m)->f C=none->C≠X.env.locals->X.s₀.heap.objs.size<=C->(∀x c,X.env.cells.lookup x=some c->c≠C)->(∀p∈X.pn++pins,p.1≠C)->C∉X.fs->
  compPost (model X.prog X.w) X.A X.xe use h (.ref D) C (.ok .next) b
def Fh{elt iter tg}{ifs}{pos pos'}{wi}{g}{tc}{te}{use}{QQ}(hcalm:X.calm=true)(S:Pe X N' φ G)(hi:PI X tg iter wi)(hin:∀U C s₃ H₃ ex,PG (U6 X N' G U C s₃ H₃ ex) tg g/\K7 (U6 X N' G U C s₃ H₃ ex) ifs tc/\PE (U6 X N' G U C s₃ H₃ ex) elt te)(hs:∀x,foldedSetIterable iter X.env x=pure x){pins}{s}{σ:L2.St}{H}{Q}(I:Inv X pins σ H s)(h:PM φ wi g tc te σ H Q)(fin:CompEnd X pins σ Q use QQ) :
  wpAny (model X.prog X.w) X.A (comprehension (.ListComp elt [⟨tg,iter,ifs,0⟩] G pos) G X.env pos' (newList []) false (eval iter X.env) use) QQ X.xe s:=by
 obtain⟨U,hcl,p1,p3⟩:=Ra λx hx hf=>I.ok.has x.1 (.inl<|S.frees x hx hf);refine wpAny_comprehension_free rfl hs hcl S.kind S.names ?_;refine thn (hi pins s σ H _ I h) λv s1 h1=>thn h1 λitv s2 h2=>?_;obtain⟨it,L,tn,J,H2,e,I2,T,st2,f2,hR⟩:=h2;subst e;refine Qf ?_;have hf:=I2.hok.fresh (Wp _);obtain⟨W,⟨m0,w0⟩,turn⟩:=hR s2.heap.objs.size hf;generalize eD:s2.heap.objs.size=D at *
 have I3:Inv X pins σ (upd H2 D<|.lst []) {s2 with heap:=s2.heap.push {cls:=.type "list",dict:=none,data:=.seq ([]:Yw).toArray}}:=
  I2.laid (λb u e=>Wl _ e) (Qr eD) ⟨WV _,[],0,.nil,by rw[←eD];exact Wt _ rfl⟩
 have st3:tn 0 (s2.heap.push {cls:=.type "list",dict:=none,data:=.seq ([]:Yw).toArray}):=T.keep _ _ _ st2 λb _ o e=>Wl _ e
 have hfpD:∀b∈L,b≠D:=λb f z=>by
  obtain⟨o,ho,_⟩:=T.obj _ _ st2 b f
  have:=Wo ho
  rw[z,←eD]at this;exact Qn _ this
 have f3:∀b∈L,XX X pins (upd H2 D<|.lst []) b:=λb f=>⟨by rw[Uj (hfpD b f)];exact(f2 b f).1,(f2 b f).2⟩;generalize es3:({s2 with heap:=s2.heap.push {cls:=.type "list",dict:=none,data:=.seq ([]:Yw).toArray}}:Shared)=l at *
 have st3':tn 0 l.heap:=by rw[←es3];exact st3
 generalize eH3:upd H2 D (.lst [])=H3 at *;refine wpAny_newFunctionEnv S.nocell (by intro y hy;simp at hy) (λh₁ E B=>?_) S.kind;have hh3:l.heap=s2.heap.push {cls:=.type "list",dict:=none,data:=.seq ([]:Yw).toArray}:=by rw[←es3]
 rw[hh3]at E B;rw[←hh3]at E B;have old:=λb o e=>B.extBut b o (W3<|Wo e) (Wl _ e)
 have hC0:l.heap.get? l.heap.objs.size=none:=by
  cases e:l.heap.get? l.heap.objs.size with
  |none=>rfl
  |some o=>exact absurd (Wo e) (Qn _)
 generalize eC:l.heap.objs.size=C at *;have hH3C:=I3.hok.fresh (Qr eC)
 have OK:(U6 X N' G U C l H3 L).Ok:=by
  refine⟨I.ok.mod,?_,I.ok.glob,I.ok.blt,Qr eC,λx y c h1 h2=>I.ok.inj x y c (p1 x c h1) (p1 y c h2),?_,(λx c hx=>by cases hx),I.ok.hd,I.ok.frames,.inl rfl,?_,I3.bs,Wy I.ok.bsz I3.sz,?_,?_,I3.stack,I3.stkFree⟩
  ·exact S.kind
  ·intro x hx;have hx':=hx.imp BG BG
   have hfr:(x,NameKind.free)∈G.names:=by
    rcases hx' with⟨k,hm,rfl|rfl⟩|⟨k,hm,rfl|rfl⟩
    ·exact absurd rfl (S.nocell _ hm)
    ·exact hm
    ·exact hm
    ·exact hm
   exact p3 _ hfr rfl
  ·intro b f;refine⟨λz=>?_,λx c hx=>(f3 b f).2.2.2.2.1 x c (p1 x c hx)⟩;obtain⟨o,ho,_⟩:=T.obj _ _ st3' b f;have z':b=C:=z;rw[z',hC0]at ho;cases ho
  ·intro b o f hx;obtain⟨_,_,_,q,_,_⟩:=f3 b hx;rcases q with q|q
   ·exact I.ok.noex b o f q
   ·have:=Wz (Wo f) (Wy I.ok.bsz q)
    exact Qn _ this
  ·intro b f hz;rcases Wu.mp (I.stkSub b hz)with q|q
   ·exact(f3 b f).2.1 q
   ·exact(f3 b f).2.2.1 q
 have hlen0:(atStart φ σ).length=N'.length:=by unfold atStart;rw[Wk];exact S.len
 have I4:Inv (U6 X N' G U C l H3 L) [] (atStart φ σ) H3 {l with heap:=h₁,toks:=l.toks+([]:List (Str×Value)).length}:=by
  refine⟨OK,rfl,I3.bare,Un.kept old,⟨_,E,λi x v h1 h2 h3=>?_⟩,λx c hx=>?_,hH3C,λx c hx=>I3.freeC x c (p1 x c hx),λp hp=>?_,I3.hok.kept old,hlen0⟩
  ·obtain⟨j,hj,hv⟩:=CN h2;obtain⟨hN,hfr⟩:=S.pick i x j h1 hj;obtain⟨m,_,hl⟩:=I3.loc;have hm:=Qq hfr;have M:=S.frees _ hm rfl;obtain⟨u,ru,lk⟩:=hl j x v hN hv (.inr<|.inl M);refine⟨u,ru,.inr ⟨.inl (Dq S.okind hfr M),?_⟩⟩;obtain⟨c,hc⟩:=p3 _ hm rfl;rcases lk with⟨hk,_⟩|⟨_,c',hc',hcl'⟩
   ·have hk':X.env.scope.names.lookup x=some .local:=hk;rw[M]at hk';cases hk'
   ·have e:=p1 _ _ hc;rw[hc']at e;cases e
    obtain⟨o,ho,hd⟩:=hcl';exact⟨_,hc,o,old _ o ho,hd⟩
  ·obtain⟨v,hv⟩:=I3.cell x c (p1 x c hx);obtain⟨o,ho,hd⟩:=hv;exact⟨v,o,old _ o ho,hd⟩
  ·exact absurd hp (by simp[U6])
 have st4:=T.keep _ _ _ st3' λb _ o e=>old b o e
 have stat:∀{H':Hp},(∀b∈L,H' b=none)->∀b∈L,XX (U6 X N' G U C l H3 L) [] H' b:=λhn b f=>
  ⟨hn b f,(OK.exf b f).1,OK.exfs b f,.inl f,(OK.exf b f).2,λp hp=>absurd hp (by simp[U6])⟩
 obtain⟨hPG,hPI,hPE⟩:=hin U C l H3 L
 have loop:codeAny (model X.prog X.w) X.A (.compLoop (.ListComp elt [⟨tg,iter,ifs,0⟩] G pos) 0 (.ref it) (.ref D)<|compEnvC G U C X.env) (compPost (model X.prog X.w) X.A X.xe use QQ (.ref D) C) {l with heap:=h₁,toks:=l.toks+([]:List (Str×Value)).length}:=by
  refine Za0 (λn s'=>∃i ys σ' H',Inv (U6 X N' G U C l H3 L) [] σ' H' s'/\Sub (atStart φ σ) σ'/\tn i s'.heap/\(∀b∈L,H' b=none)/\W i n ys H') ?_ m0 ⟨0,[],_,_,I4,Sub.refl,st4,λb f=>(f3 b f).1,w0⟩;rintro n s5 ⟨i,ys,σ5,H5,I5,sub5,st5,fr5,w5⟩;have I5':=Own.Inv.weak I5 sub5;rcases turn i n ys H5 w5 with⟨stop,qn⟩|⟨go,step⟩
  ·refine thn (T.done (U6 X N' G U C l H3 L) rfl rfl rfl hcalm i [] s5 _ H5 _ I5' (stat fr5) st5 stop) ?_;rintro r s6 ⟨hr,I6⟩;subst hr;obtain⟨m,hn,_⟩:=I6.loc;obtain⟨hh,gg,dd,tt,oo⟩:=s6;obtain rfl:=I6.os;have R:Inv X pins σ H5 {l with heap:=hh,gens:=gg,drawn:=dd,toks:=tt}:=I3.call I6.base I6.hok I6.bare λb f=>⟨(f3 b f).2.2.2.1,(f3 b f).2.1,(f3 b f).2.2.2.2.1,(f3 b f).2.2.2.2.2⟩
   have hC3:=Qr eC;obtain⟨q0,q1,q2,q3,q4,q5⟩:=I3.fpOk hC3 hH3C;refine fin D C H5 _ qn R ⟨m,hn⟩ I6.free q1 (Wy I3.sz hC3) q4 q5 q2
  ·refine thn (T.item (U6 X N' G U C l H3 L) rfl rfl rfl hcalm i [] s5 _ H5 _ I5' (stat fr5) st5 go) ?_;rintro r s6 ⟨u,hr,h6⟩;subst hr;refine thn h6 ?_;rintro _ s7 ⟨x,H7,I7,r7,y7,st7,fr7⟩;have I7':=I7.pinned (stat fr7) (T.obj _ _ st7);refine thn (hPG _ s7 _ H7 x u _ I7' r7<|step x H7 y7) ?_;rintro _ s8 ⟨σ8,H8,I8,sub8,q8⟩;refine thn (hPI _ s8 σ8 H8 _ I8 q8) ?_;rintro ok s9 ⟨H9,I9,q9⟩
   have again:∀{Y:Shared} {N:Hp} {ys':List V} {m':Nat},Inv (U6 X N' G U C l H3 L) ([]++P8 L s7.heap) σ8 N Y->W (i+1) m' ys' N->∃i ys σ' H',Inv (U6 X N' G U C l H3 L) [] σ' H' Y/\Sub (atStart φ σ) σ'/\tn i Y.heap/\(∀b∈L,H' b=none)/\W i m' ys H':=λ{Y N ys' m'} J10 w10=>by
    refine⟨i+1,ys',σ8,N,J10.unpinned,sub8,T.keep _ _ _ st7 λb f o e=>(J10.pin (b,o)<|W6 _<|W6 _<|Nu f e).1,λb f=>?_,w10⟩;obtain⟨o,e,d⟩:=T.obj _ _ st7 b f;exact(J10.pin (b,o)<|W6 _<|W6 _<|Nu f e).2.1
   cases ok with
   |false=>
    obtain⟨m',hm,w'⟩:=q9;exact⟨m',hm,again I9 w'⟩
   |true=>
    refine thn (hPE _ s9 σ8 H9 _ I9 q9) ?_;rintro xv Y ⟨y,N,I10,r10,hD,hl,m',hm,w'⟩;refine thn (Pj _ Y σ8 N (.ref D) [y] (.ref D) [xv] (λ_ H11=>H11=upd N D (.lst (ys++[y]))) I10 rfl (.cons r10 .nil) ⟨D,ys,y,rfl,rfl,hD,hl,rfl⟩) ?_;rintro _ s11 ⟨_,H11,I11,_,e11⟩;subst e11;exact⟨m',hm,again I11 w'⟩
 refine codeAny_compStart_list loop (T.self _ 0 _ _ _ st4 loop)
def Sn{r iter v p pos z g tc te}(n:X.calm=true)(S:Pe X N' φ u)(J:PI X v iter z)(w:∀y C f l ex,PG (U6 X N' u y C f l ex) v g/\K7 (U6 X N' u y C f l ex) p tc/\PE (U6 X N' u y C f l ex) r te)(B:autoParam (∀x,foldedSetIterable iter X.env x=pure x) au_3):PE X (.ListComp r [⟨v,iter,p,0⟩] u pos) (PM φ z g tc te):=by
 intro pins s σ H Q I h;refine Fh n S J w B I h λD C H5 s6 q R G Y U T N M c5=>?_;obtain⟨m,E⟩:=G;exact⟨m,E,λh' A=>⟨.ref D,H5,R.turned (λb o L e=>A.extBut b o L e) Y U (.inr T) N M,rfl,q⟩⟩
def OV{u iter A n pos spos py M g tc te i y}(hN:X.N.Nodup)(hy:X.N[i]?=some y)(Q:X.env.scope.names.lookup y=some .local)(r:X.calm=true)(S:Pe X N' φ w)(hi:PI X A iter M)(G:∀L C f l ex,PG (U6 X N' w L C f l ex) A g/\K7 (U6 X N' w L C f l ex) n tc/\PE (U6 X N' w L C f l ex) u te)(hs:autoParam (∀x,foldedSetIterable iter X.env x=pure x) au_3)(E:autoParam (swapsWith (.ListComp u [⟨A,iter,n,0⟩] w pos) (some<|.Name y py) spos.line X.env=pure true) au_0) :
  PS X (.Assign [.Name y py] (.ListComp u [⟨A,iter,n,0⟩] w pos) spos) (KB (PM φ M g tc te)<|XW i):=by
 intro pins s Y H D0 I h;rw[exec_Assign_Name_used _ _ _ _ E];refine Wi (wpAny_standAt<|Wi ?_);refine Wi (WD (Fh r S hi G hs I h λD C U s6 q R hm c0 c1 c2 c3 c4 c5=>?_) (λ_ s' z=>Wn (Wn z)) λ_ _ e=>e);obtain⟨m,B,es,ep,hoC,J,rC⟩:=hm
 have R2:Inv X (pins++[(C,B)]) Y U s6:=R.pins_of λp hp=>(Qc.mp hp).elim (λz=>R.pin p (W6 _ z)) λz=>by
  grind
 refine wpAny_assign_Name (Te R2 hN hy (.inl Q) (v:=.ref D) rfl (λs7 T=>?_)<|.inr Q);refine⟨m,⟨B,es,ep,((T.pin (C,B)<|W6 _<|W6 _<|Wm.mpr rfl).1),J,rC⟩,λh' sb=>?_⟩;exact⟨_,U,T.unpinned.turned (λb o hb e=>sb.extBut b o hb e) c0 c1 (.inr c2) c3 c4,q⟩
noncomputable def Tf(sc b:Scope)(N N':Yx)(φ:Yu):Bool:=
 sc.kind == .function&&b.kind == .function&&(sc.names.all λy=>y.2 != .cell&&(y.2 != .local || sc.names.lookup y.1==some .local)&&(y.2 != .free || b.names.lookup y.1==some .cell)) &&
  φ.length==N'.length&&((N'.zip φ).all λp=>match p.2 with|none=>true|some j=>N[j]? == some p.1&&sc.names.lookup p.1==some .free)
def Pe.of {N'}{φ f} (h:Tf f X.env.scope X.N N' φ=true):Pe X N' φ f:=by
 unfold Tf at h;simp only[WN,beq_iff_eq,WO,Bool.or_eq_true,bne_iff_ne,ne_eq]at h;obtain⟨⟨⟨⟨s,r⟩,q⟩,p⟩,o⟩:=h;refine⟨s,r,λy b=>(q y b).1.1,λy b u=>?_,λy b v=>?_,p,λi x j n l=>?_⟩
 ·grind
 ·grind
 ·have g:(N'.zip φ)[i]?=some (x,some j):=by rw[List.getElem?_zip_eq_some];exact⟨n,l⟩
  have:=o _ (W5 g)
  grind
end Own
namespace SetR
open L2
def Ris(xs:Array Nat):Prop:=∀i j,i<j->j<xs.size->xs.getD i 0<xs.getD j 0
def E3{xs:Array Nat}{i a b}(h:i<xs.size):xs.getD i a=xs.getD i b:=by grind
def RT(R:Ris xs)(j:Nat):∀fuel lo f,f-lo<=fuel->lo<=f->f<=xs.size->(∀k,k<lo->xs.getD k 0<j)->(∀k,f<=k->k<xs.size->j<=xs.getD k 0)->
  let r:=SetTable.below.go xs j fuel lo f
  r<=xs.size/\(∀k,k<r->xs.getD k 0<j)/\∀k,r<=k->k<xs.size->j<=xs.getD k 0:=by
 intro fuel
 induction fuel with
 |zero=>
  intro lo f w v n l h;have e:lo=f:=by lia
  subst e;exact⟨n,l,h⟩
 |succ fuel q=>
  intro lo f w v n l h;show(let r:=(if lo<f then(if xs.getD ((lo+f) / 2) j<j then SetTable.below.go xs j fuel ((lo+f) / 2+1) f else SetTable.below.go xs j fuel lo ((lo+f) / 2))else lo);r<=xs.size/\(∀k,k<r->xs.getD k 0<j)/\∀k,r<=k->k<xs.size->j<=xs.getD k 0);by_cases s:lo<f
  ·rw[Wr s];have o:(lo+f) / 2<xs.size:=by lia
   by_cases g:xs.getD ((lo+f) / 2) j<j
   ·rw[Wr g];refine q _ _ (by lia) (by lia) n (λk u=>?_) h;rw[E3 o]at g;by_cases e:k=(lo+f) / 2
    ·rw[e];exact g
    ·exact Q6 (R k _ (by lia) o) g
   ·rw[Wq g];refine q _ _ (by lia) (by lia) (by lia) l (λk u p=>?_);rw[E3 (b:=0) o]at g;by_cases e:k=(lo+f) / 2
    ·rw[e];lia
    ·have:=R _ k (show(lo+f) / 2<k by lia) p
     lia
  ·rw[Wq s];have e:lo=f:=by lia
   subst e;exact⟨n,l,h⟩
def DS(R:Ris xs)(j:Nat):SetTable.below xs j<=xs.size/\(∀k,k<SetTable.below xs j->xs.getD k 0<j)/\∀k,SetTable.below xs j<=k->k<xs.size->j<=xs.getD k 0:=
 RT R j xs.size 0 xs.size (by simp) (by simp) (by simp) (λk b=>by lia) (λk g f=>by lia)
def HW(R:Ris xs){i}(f:i<=xs.size){slot}(l:∀k,k<i->xs.getD k 0<slot)(g:∀k,i<=k->k<xs.size->slot<=xs.getD k 0):SetTable.below xs slot=i:=by
 obtain⟨a,b,c⟩:=DS R slot;rcases Nat.lt_trichotomy (SetTable.below xs slot) i with h|h|h
 ·grind
 ·lia
 ·grind
def Rise(xs:Array Nat):Prop:=xs.toList.Pairwise (· < ·)
def Rise.ris (h:Rise xs):Ris xs:=by
 intro i j b f;have g:i<xs.size:=by lia
 have:=(List.pairwise_iff_getElem.mp h) i j (by omega) (by omega) b
 simp_all
def Ro(h:Rise xs)(u:xs[SetTable.below xs j]?≠some j):Rise (SetTable.insertAt xs (SetTable.below xs j) j):=by
 obtain⟨a,b,c⟩:=DS h.ris j;generalize SetTable.below xs j=p at *;unfold Rise;rw[SetTable.toList_insertAt];refine List.pairwise_append.mpr ⟨h.sublist (List.take_sublist _ _),List.pairwise_cons.mpr ⟨λy g=>?_,h.sublist (List.drop_sublist _ _)⟩,λx hx y g=>?_⟩
 ·obtain⟨k,l,e⟩:=List.mem_drop_iff_getElem.mp g
  have f:p+k<xs.size:=by
   simp only[Qb]at l;lia
  have w:=c (p+k) (by lia) f;have s:xs.getD (p+k) 0=y:=by simpa [Array.getD,f]using e
  rcases Nat.lt_or_ge j y with r|r
  ·exact r
  ·have ey:y=j:=by lia
   exfalso;rcases Nat.eq_zero_or_pos k with rfl|v
   ·apply u;rw[WW (by lia)]
    have:xs[p]=y:=by simpa using e
    rw[this,ey]
   ·have A:=h.ris p (p+k) (by lia) f;have z:=c p (Wp _) (by lia);lia
 ·have n:x<j:=by
   obtain⟨k,l,e⟩:=List.mem_take_iff_getElem.mp hx;have q:k<p:=by lia
   have o:k<xs.size:=by lia
   have:=b k q
   have s:xs.getD k 0=x:=by simpa [Array.getD,o]using e
   lia
  rcases Wu.mp g with rfl|g
  ·exact n
  ·obtain⟨k,l,e⟩:=List.mem_drop_iff_getElem.mp g
   have f:p+k<xs.size:=by
    simp only[Qb]at l;lia
   have w:=c (p+k) (by lia) f;have s:xs.getD (p+k) 0=y:=by simpa [Array.getD,f]using e
   lia
structure Tb (b:Bool) (t:SetTable):Prop where
 led:t.led=b
 dum:t.dummies=#[]
 ris:Rise t.place
def AU(j:Nat):SetTable.has #[] j=false:=rfl
def Tb.fresh (b:Bool):Tb b (.fresh 0 0 b):=⟨rfl,rfl,List.Pairwise.nil⟩
def GW(n:Nat):Rise (Array.range n):=by
 unfold Rise;rw[Array.toList_range];exact List.pairwise_lt_range
def Tb.stand (h:Tb b t) (n:Nat):Tb b (t.standIn n):=⟨h.led,rfl,GW n⟩
def Tb.orStand (h:Tb b t) (n:Nat):Tb b (t.orStandIn n):=by
 unfold SetTable.orStandIn;split
 ·lia
 ·exact h.stand n
def Tb.plainOff (h:Tb b t):Tb b {t with plain:=false}:=⟨h.led,h.dum,h.ris⟩
def Tb.put (h:Tb b t) {j} (f:t.place[SetTable.below t.place j]?≠some j):Tb b (t.put j).1:=by
 refine⟨h.led,?_,Ro h.ris f⟩;show(if SetTable.has t.dummies j=true then _ else t.dummies)=#[];rw[h.dum,AU];rfl
def IL(h:Tb b t)(f:Nat->Int)(z:Int):∀fuel p j d,p.dummy=none->SetTable.probe.go t f z fuel p=some (.empty j d)->d=none/\t.place[SetTable.below t.place j]?≠some j:=by
 intro fuel
 induction fuel with
 |zero=>intro p j d _ e;cases e
 |succ fuel n=>
  intro p j d o e;unfold SetTable.probe.go at e
  have l:∀q,q.dummy=none->(t.advance q).dummy=none:=λq hq=>by
   unfold SetTable.advance;split
   ·exact hq
   ·exact hq
  cases g:t.slot p.j with
  |empty=>
   rw[g]at e;unfold SetTable.slot at g
   grind
  |dummy=>
   unfold SetTable.slot at g
   dsimp only at g
   split at g
   ·cases g
   ·rw[h.dum,AU]at g;simp at g
  |live i=>
   rw[g]at e
   dsimp only at e
   split at e
   ·cases e
   ·exact n _ j d (l p o) e
def Tb.layNew (h:Tb b t) (es:Y3) (z:Int) (x:Value):Tb b (PySem.layNew t es z x).2.1:=by
 unfold PySem.layNew;split
 ·rename_i slot wasDummy e
  have f:t.place[SetTable.below t.place slot]?≠some slot:=by
   unfold SetTable.freeSlot SetTable.probe at e;split at e
   ·rename_i j dummy g;obtain⟨n,l⟩:=IL h _ _ _ _ _ _ rfl g
    grind
   ·grind
  exact(h.put f).orStand _
 ·exact h.stand _
def GE(n:Nat)(f:Nat->Option Nat):((List.range n).filterMap λj=>(f j).map (j,·)).Pairwise (λa b=>a.1<b.1):=by
 refine List.Pairwise.filterMap _ ?_ List.pairwise_lt_range;intro a l h b o q g;cases e:f a with
 |none=>grind
 |some v=>
  cases p:f l with
  |_=>grind
def Tb.relayAll (h:Tb b t) (es:Y3) (n:Nat):Tb b (PySem.relayAll t es n).2.1:=by
 unfold PySem.relayAll;split
 ·rename_i l order e
  dsimp only
  split
  ·unfold SetTable.relaid SetTable.laid at e;cases f:SetTable.layClean (SetTable.sizeAbove n-1) (es.map (·.1))with
   |none=>grind
   |some owner=>
    rw[f]at e;have g:=WG Prod.fst (Wv e);subst g;refine⟨h.led,rfl,?_⟩;show(List.map (λx=>x.fst) ((List.range (SetTable.sizeAbove n-1+1)).filterMap λj=>(owner.getD j none).map (j,·))).toArray.toList.Pairwise (· < ·);rw[List.toList_toArray,List.pairwise_map];exact GE _ _
  ·exact h.stand _
 ·exact h.stand _
noncomputable def keyOf(e:Int×Value):Int:=match e.2 with
 | .int k _=>k
 |_=>0
def Ent(e:Int×Value):Prop:=∃(k:Int) (t:Tok),e=(hashInt k,.int k t)
section
variable (prog:Program) (w:World)
noncomputable def Xp(w:World):Bool:=w.params.followText "set-order"
structure UB (h:Heap) (a:Addr) (js:Yq) (es:Y3) (ep:Nat) (t:SetTable):Prop where
 obj:∃o,h.get? a=some o/\o.ExactSet/\o.data=.set es ep t
 ent:∀e∈es.toList,Ent e
 per:(es.toList.map keyOf).Perm js
 nod:js.Nodup
 few:es.size<scanBound
 fit:t.fits es.size=true
 tab:Tb (!Xp w) t
def SetB(h:Heap)(a:Addr)(b:Yq):Prop:=∃f g t,UB w h a b f g t
end
section
variable {prog:Program}{w:World}{A:Around}{E:Yt}{s:Shared}
def Ent.elems (h:∀e∈l,Ent e):ElemsOf (intKind prog w) l:=λe b=>by
 obtain⟨k,t,rfl⟩:=h e b;exact⟨⟨k,intKind_is _ _ _ _,rfl⟩,rfl⟩
def DP(h:Ent e)(k:Int):(intKind prog w).is k e.2=decide (k=keyOf e):=by
 obtain⟨b,t,rfl⟩:=h;show Value.isInt k (.int b t)=decide (k=b);by_cases e:k=b
 ·subst e;simp[Value.isInt]
 ·rw[W9 e];simp[Value.isInt];lia
def SetB.len (S:UB w h a b es f t):es.size=b.length:=by
 have:=S.per.length_eq
 grind
def SetB.at {a l} (S:SetB w h a l) (k:∀o,h.get? a=some o->p.get? a=some o):SetB w p a l:=by
 obtain⟨q,u,t,⟨o,n,r⟩,b,c,d,e,f,g⟩:=S;exact⟨q,u,t,⟨o,k o n,r⟩,b,c,d,e,f,g⟩
def UB.store {es b}{g t t'} (S:UB w h a z es g t) (y:∀e∈b.toList,Ent e) (x:(b.toList.map keyOf).Perm f) (v:f.Nodup) (u:b.size<scanBound)
  (r:t'.fits b.size=true) (p:Tb (!Xp w) t'):UB w (h.update a<|Obj.putSet b t') a f b (g+1) t':=by
 obtain⟨o,n,hx,l⟩:=S.obj;refine⟨⟨{o with data:=.set b (g+1) t'},?_,hx,rfl⟩,y,x,v,u,r,p⟩
 have q:=WQ (Obj.putSet b t') n (by rw[putSet_of b t' l];rfl);rwa[putSet_of b t' l]at q
def Ee{g:Bool->Sem Unit}(Y:∀b C M,M () C->wpAny (model prog w) A (g b) M E C){a Q h}{es f}{ep t t'}(S:UB w s.heap a Q es ep t)(L:∀e∈f.toList,Ent e)(J:(f.toList.map keyOf).Perm h)(H:h.Nodup)(r:f.size<scanBound)(h5:t'.fits f.size=true)(G:Tb (!Xp w) t'){d R}(n:∀u,Heap.SameBut a s.heap u->SetB w u a h->R (some true) {s with heap:=u}) :
  wpAny (model prog w) A (do
    storeSet a f t'
    if (!d&&t'.tooFull)=true then do
      g (relayAll t' f<|SetTable.grown f.size).2.2
      storeSet a (relayAll t' f<|SetTable.grown f.size).1 (relayAll t' f<|SetTable.grown f.size).2.1
      pure (some true)
     else pure (some true)) R E s:=by
 obtain⟨o,U,hx,hd⟩:=S.obj;have B:=S.store L J H r h5 G;obtain⟨o1,p,T,q⟩:=B.obj;have N:=Qg s.heap a (Obj.putSet f t');refine Wi (wpAny_storeSet_of U hd ?_<|Va r);split
 ·have l:=relayAll_perm t' f (SetTable.grown f.size);have v:=relayAll_fits t' f (SetTable.grown f.size);have tt:=G.relayAll f (SetTable.grown f.size);generalize relayAll t' f (SetTable.grown f.size)=y at l v tt ⊢;obtain⟨x,t2,g2⟩:=y
  dsimp only at l v tt ⊢
  have z:x.size=f.size:=by rw[←Qb,l.length_eq,Qb]
  refine Wi (Y _ _ _<|Wi<|wpAny_storeSet_of p q ?_<|Va<|by lia);exact Wn (n _ (N.trans<|Qg _ a _) ⟨_,_,_,B.store (λe he=>L e (l.mem_iff.mp he)) ((l.map keyOf).trans J) H (by rw[z];exact r) v tt⟩)
 ·exact Wn (n _ N ⟨_,_,_,B⟩)
noncomputable def UD(b:Yq)(k:Int):Yq:=if k∈b then b else b++[k]
def Hv{R}(S:SetB w s.heap a n)(room:n.length+1<scanBound)(J:∀r g,Heap.SameBut a s.heap g->SetB w g a (UD n k)->R r {s with heap:=g}) :
  wpAny (model prog w) A (setAddHashed a (.int k u)<|hashInt k) R E s:=by
 obtain⟨l,ep,t,S⟩:=S;obtain⟨o,ho,hx,hd⟩:=S.obj;have el:=Ent.elems (prog:=prog) (w:=w) S.ent;have N:=SetB.len S;refine Qy (Wi<|Q0 ho hd S.fit ?_)
 dsimp only
 rw[byScan_of rfl S.few el];simp only[↓reduceIte];unfold setAddByScan;refine Wi (Wi<|wpAny_rule<|Wi<|wpAny_setScan_of (intKind_is _ _ _ _) ho hd S.fit el ?_);have H:∀z,z∈n↔∃e∈l.toList,keyOf e=z:=λz=>by rw[←S.per.mem_iff,WT]
 cases q:List.findIdx? (λe=>(intKind prog w).is k e.2) l.toList with
 |some j=>
  dsimp only
  obtain⟨hj,Y,_⟩:=List.findIdx?_eq_some_iff_getElem.mp q
  have M:k∈n:=by
   rw[DP (S.ent _<|WI hj)]at Y;exact(H k).mpr ⟨_,WI hj,(Ww Y).symm⟩
  refine Wn (Wn ?_);have f:=J false s.heap (Heap.SameBut.refl a s.heap);unfold UD at f;rw[Wr M]at f;exact f ⟨_,_,_,S⟩
 |none=>
  dsimp only
  have M:¬k∈n:=λN=>by
   obtain⟨e,he,Q⟩:=(H k).mp N
   have:=List.findIdx?_eq_none_iff.mp q e he
   rw[DP (S.ent e he),Wx Q.symm]at this;cases this
  have P:=layNew_perm t l (hashInt k) (.int k u);have F:=layNew_fits t l (hashInt k) (.int k u);have T:=S.tab.layNew l (hashInt k) (.int k u);change wpAny (model prog w) A (match layNew t l (hashInt k) (.int k u)with|(l,t,wasDummy,gave)=>_) _ _ _
  generalize layNew t l (hashInt k) (.int k u)=y at P F T ⊢;obtain⟨p,t1,d1,g1⟩:=y
  dsimp only at P F T ⊢
  rw[Array.toList_push]at P
  have e1:∀e∈p.toList,Ent e:=λe he=>by
   rcases Qc.mp (P.mem_iff.mp he)with he|he
   ·exact S.ent e he
   ·rw[Wm.mp he];exact⟨k,u,rfl⟩
  have e2:(p.toList.map keyOf).Perm (n++[k]):=by
   refine(P.map keyOf).trans ?_;rw[WE];exact S.per.append_right _
  have e3:(n++[k]).Nodup:=Vy.mpr ⟨S.nod,by simp,λx hx y hy=>by rw[Wm.mp hy];rintro rfl;exact M hx⟩
  have e4:p.size<scanBound:=by
   rwa[←Qb,P.length_eq,WB,Qb,N]
  have h:=λg B G=>by
   have f:=J true g B;unfold UD at f;rw[Wq M]at f;exact f G
  have U:∀b {C:Shared} {L:Unit->Shared->Prop},L () C->wpAny (model prog w) A (match b with|true=>rule "set.scan.the-table-gave-way" |false=>pure ()) L E C:=λb C L v=>by cases b<;>first|exact Wn v|exact wpAny_rule v
  refine Wi (U _ ?_);split
  ·refine Wi ?_;rw[hashByValue_scannable 8 rfl];refine Wn (Ee (λb C L v=>U b v) S e1 e2 e3 e4 ?_ ?_ λg B G=>Wn (h g B G))
   ·split
    ·exact F
    ·exact SetTable.fits_plain_off F
   ·split
    ·exact T
    ·exact T.plainOff
  ·refine Wi (Wn ?_);simp only[↓reduceIte];exact Ee (λb C L v=>U b v) S e1 e2 e3 e4 F T λg B G=>Wn (h g B G)
def GY{I G x P St}{ns:Yq}(W:Walks prog w A.in1 I G x ns.length P St)(S:Addr)(C:S∉G)(L:∀i v,P i v->∃t,v=.int (ns.getD i 0) t)(room:ns.length+1<scanBound):∀k i s n,ns.length-i=k->i<=ns.length->St i s.heap->SetB w s.heap S n->n.length<=i->
   (∀h p,(∀b o,b∉S::x->s.heap.get? b=some o->h.get? b=some o)->SetB w h S ((ns.drop i).foldl UD n)->R (.ok<|.ret .none) {s with heap:=h,toks:=p})->
   codeAny (model prog w) A (.builtin "set.update.loop" ⟨[.ref S,.ref I],[]⟩) R s:=by
 have q:=λz=>C (W.sub _ z);intro k
 induction k with
 |zero=>
  intro i s n M Q st B N l;have ei:i=ns.length:=by lia
  refine Qw QU ?_;show wpAny _ A.in1 (pyNext (.ref I) >>= _) _ _ s;refine Wi (W.done s _ _ (ei▸st) λh p keep=>?_);show wpAny _ A.in1 (ret Value.none) _ _ _;refine Wn (l h p (λb o g e=>keep b o (λz=>g (W2 _ z)) e) ?_);rw[ei,Vf];exact B.at λo e=>keep S o q e
 |succ k J=>
  intro i s n M Q st B N l;have f:i<ns.length:=by lia
  refine Qw QU ?_;rw[QH QV _];show wpAny _ A.in1 (pyNext (.ref I) >>= _) _ _ s;refine Wi (W.item i s _ _ f st λv T H pv u keep1=>?_);obtain⟨t,rfl⟩:=L i v pv;have B1:=B.at λo e=>keep1 S o q e;unfold setAdd;refine Wi (Qy<|Qy<|Wi ((intKind prog w).pyHash (intKind_is _ _ _ _) ?_));refine Hv B1 (by lia) λr h2 y B2=>?_
  have U:(UD n<|ns.getD i 0).length<=i+1:=by
   unfold UD;split
   ·lia
   ·simp;lia
  refine Wn ⟨plainId_quiet QV _,J (i+1) _ _ (by lia) f (W.frame _ T _ u λb g o e=>?_) B2 U λh p keep B'=>?_⟩
  ·rw[y.2 b (λz=>C (by rw[←z];exact g))];exact e
  ·refine l h p (λb o g e=>keep b o g ?_) ?_
   ·rw[y.2 b (λz=>g (by rw[z];exact WR))];exact keep1 b o (λz=>g (W2 _ z)) e
   ·have Y:ns.drop i=ns.getD i 0::ns.drop (i+1):=by
     rw[Q3 f,W8,Wj f];rfl
    rwa[Y]
def M9(a:Value){Q}(b:Q (.ref s.heap.objs.size) {s with heap:=s.heap.push {cls:=.type "set",dict:=none,data:=.set #[] 0 (.fresh 0 0 (!Xp w))}}) :
  codeAny (model prog w) A (.call (.builtin "set.__new__") ⟨[.type "set",a],[]⟩) (wants Q E) s:=by
 refine codeAny_of_tree (?_);refine Wi (wpAny_of_eq (F.newCall_set_1 a)<|Wn ⟨plainId_quiet F.plain_set_new _,Qw F.entry_set_new ?_⟩);rw[(QH (A:=A) F.plain_set_new ⟨[.type "set",a],[]⟩)];unfold Builtin.«set.__new__» Builtin.Frozenset.newClass;have f:=sub_set_self
 dsimp only
 wp_walk
 refine wpAny_askSetting (Wn<|?_)
 dsimp only
 simp only[newObj];exact Wi (wpAny_alloc<|Wn<|Wn b)
set_option maxHeartbeats 4000000 in
def RE{l:Addr}{f:Array Value}{ns:Yq}{Q:Yt}(hh:A.handled=none)(hl:s.heap.IsList l f)(hi:IntsAre f.toList ns)(room:ns.length+1<scanBound)(T:∀(h:Heap) (q:Nat),SetB w h s.heap.objs.size (ns.foldl UD [])->(∀b o,b<s.heap.objs.size->s.heap.get? b=some o->h.get? b=some o)->Q (.ref s.heap.objs.size) {s with heap:=h,toks:=q}) :
  wpAny (model prog w) A (call (.type "set") [.ref l]) Q E s:=by
 have hn:f.size=ns.length:=by have:=IntsAre.length hi;simpa using this
 obtain⟨mroC,mroT,mro⟩:=F.called_set.mro;have made:=F.called_set.made;have subs:=F.called_set.sub;refine wpAny_call (codeAny_of_tree<|show wpAny _ _ (callAny (.type "set") _) _ _ _ from ?_)
 refine Wn ⟨Code.quiet_builtin _ (by decide +kernel),Qw F.entry_type_call ?_⟩;have wt:=Around.under_plain (A:=A) (weight_type_call_type "set" [.ref l] []) rfl;rw[wt];have nt:=F.called_set.notType;have cc:=F.called_set.canCreate;have tc:=F.typeCall_set_1 (.ref l)
 repeat (any_goals (first|assumption|wp_step))
 refine Qs (M9 (.ref l) (E:=E) (Q:=λobj Y=>obj=.ref s.heap.objs.size/\Y={s with heap:=s.heap.push {cls:=.type "set",dict:=none,data:=.set #[] 0 (.fresh 0 0 (!Xp w))}}) ⟨rfl,rfl⟩) λr Y x=>?_
 cases r with
 |error e=>exact x
 |ok fl=>
  cases fl with
  |next=>exact x.elim
  |brk=>exact x.elim
  |cont=>exact x.elim
  |ret obj=>
   obtain⟨rfl,rfl⟩:=x;generalize H:s.heap.push {cls:=.type "set",dict:=none,data:=.set #[] 0 (.fresh 0 0 (!Xp w))}=n;have g1:n.get? s.heap.objs.size=some {cls:=.type "set",dict:=none,data:=.set #[] 0 (.fresh 0 0 (!Xp w))}:=by rw[←H];exact Wt _ rfl
   have hT:Shared.TypeIs {s with heap:=n} (.ref s.heap.objs.size) "set":=⟨_,g1,rfl⟩
   have ini:=F.called_set.init.lookup;have inb:=F.called_set.init.bind (.ref s.heap.objs.size)
   repeat (any_goals (first|assumption|wp_step))
   refine Qs (Vq (R:=wants (λr U=>r=.none/\∃h q,U={s with heap:=h,toks:=q}/\SetB w h s.heap.objs.size (ns.foldl UD [])/\(∀b o,b<s.heap.objs.size->s.heap.get? b=some o->h.get? b=some o)) E)
    F.called_set.init.plain F.entry_set_init (check_set_init_1 hT ?_)) λr2 U g=>?_
   ·obtain⟨ob,z,G,nl,C⟩:=hl;obtain⟨c1,d1,dt1,J⟩:=ob;simp only at G C;subst G;subst C;have y:n.get? l=some {cls:=.type "list",dict:=d1,data:=.seq f nl,slots:=J}:=by rw[←H];exact Wl _ z
    have p:n.objs.size=s.heap.objs.size+1:=by rw[←H,QX]
    have no1:=F.sub_list_set;have no2:=F.sub_list_frozenset;have no3:(Value.type "list" == Value.type "dict")=false:=by decide
    have L1:n.IsList l f:=⟨_,y,rfl,nl,rfl⟩;unfold Builtin.«set.__init__» noKeywords Builtin.Frozenset.updateFrom;generalize eP:pyIter=PI
    wp_walk
    subst eP;refine wpAny_pyIter_list L1 (Wi<|wpAny_runValue ?_);have u:l<s.heap.objs.size:=Wo z;have N:A.in1.in1.in1.handled=none:=by simp[hh]
    have M:l≠n.objs.size:=by rw[p];exact W3 (Vb u)
    have L:s.heap.objs.size∉[n.objs.size,l]:=by
     rw[p];simp only[Wu,QI,or_false,not_or];exact⟨W3 (QE _),V1 u⟩
    have W0:=Walks.list (prog:=prog) (w:=w) N n.objs.size l M f;rw[hn]at W0;refine GY (ns:=ns) W0 s.heap.objs.size L (λi v hv=>IntsAre.int_at hi i v (by rw[Qi];exact hv)) room (ns.length-0) 0 _ [] rfl (WV _) ⟨⟨_,Wt _ rfl,rfl,rfl⟩,L1.push _⟩ ?_ (WV _) λh q keep B=>?_
    ·exact⟨#[],0,_,⟨_,Wl _ g1,⟨rfl,rfl,rfl⟩,rfl⟩,λe he=>by simp at he,by simp,Q4,by show(0:Nat)<4096;decide,rfl,Tb.fresh _⟩
    ·show wpAny _ _ _ _ _ _;refine Wn (show wpAny _ _ (ret Value.none) _ _ _ from Wn ⟨rfl,h,q,rfl,B,λb o hb e=>?_⟩)
     refine keep b o ?_ (Wl _<|by rw[←H];exact Wl _ e);rw[p];simp only[Wu,QI,or_false,not_or];exact⟨W3 hb,W3 (Vb hb)⟩
   ·cases r2 with
    |error e=>exact g
    |ok f2=>
     cases f2 with
     |next=>exact g.elim
     |brk=>exact g.elim
     |cont=>exact g.elim
     |ret r=>
      obtain⟨rfl,h,q,rfl,B,keep⟩:=g
      repeat (any_goals (first|assumption|wp_step))
      exact T _ _ B keep
end
def si_slot:Slot "set_iterator" "__next__" "set_iterator.__next__":=
 Slot.of (owner:="set_iterator") (n:="__next__") (by rw[typeLookup_type,builtinLookup_eq_fast];kernel_rfl) (by decide +kernel) (by decide +kernel) (by decide +kernel)
  (by first|exact Or.inl (by decide +kernel)|exact Or.inr (by decide +kernel)) (by rw[isSubtype_type];kernel_rfl)
def Zal:entryFor table "set_iterator.__next__"=some Builtin.«set_iterator.__next__»:=entryFor_of_tree rfl
def Zaw(a:Value):argsOk "set_iterator.__next__" ⟨[a],[]⟩:=by trivial
def O1:entryFor table "set.__iter__"=some Builtin.«frozenset.__iter__»:=entryFor_alias (id':="frozenset.__iter__") (by kernel_rfl) rfl (by decide +kernel) (by kernel_rfl)
def Ei:Slot "set_iterator" "__iter__" "set_iterator.__iter__":=
 Slot.of (owner:="set_iterator") (n:="__iter__") (by rw[typeLookup_type,builtinLookup_eq_fast];kernel_rfl) (by decide +kernel) (by decide +kernel) (by decide +kernel)
  (by first|exact Or.inl (by decide +kernel)|exact Or.inr (by decide +kernel)) (by rw[isSubtype_type];kernel_rfl)
def HN:entryFor table "set_iterator.__iter__"=some Builtin.«dict_keyiterator.__iter__»:=entryFor_alias (id':="dict_keyiterator.__iter__") (by kernel_rfl) rfl (by decide +kernel) (by kernel_rfl)
def MO(a:Value):argsOk "set_iterator.__iter__" ⟨[a],[]⟩:=by unfold argsOk;kernel_rfl
def SI(h:Heap)(I a:Addr)(first:Value)(i n b:Nat):Prop:=∃o,h.get? I=some o/\o.cls=.type "set_iterator"/\o.data=.fields #[first,.int i 0,.ref a,.int n 0,.int b 0]
section
variable {prog:Program}{w:World}{A:Around}{E:Yt}{s:Shared}{I a:Addr}{first:Value}{i n ep:Nat}{js:Yq}{es:Y3}{t:SetTable}
def SI.typ (h:SI s.heap I a first i n ep):s.TypeIs (.ref I) "set_iterator":=let ⟨o,b,f,_⟩:=h;⟨o,b,f⟩
def SI.at (x:SI h I a first i n ep) (k:∀o,h.get? I=some o->f.get? I=some o):SI f I a first i n ep:=let ⟨o,b,r⟩:=x;⟨o,k o b,r⟩
noncomputable def P0(first:Value)(a I:Addr)(i ep:Int):Sem PySem.Fin:=
 match first with
 |Value.int slot _=>do
  match ←setNext a slot.toNat i.toNat ep.toNat with
  |some (x,next)=>
   setField (.ref I) 0 (rawInt next)
   setField (.ref I) 1 (rawInt (i+1))
   ret x
  |none=>
   setField (.ref I) 2 .none
   raiseNew (←newExc (.type "StopIteration") [])
 |_=>do
  let some places ←seqItems? first|unsupported "internal:set_iterator"
  match places[i.toNat]? with
  |some (.int place _)=>
   let x ←setNextDrawn a place.toNat ep.toNat
   setField (.ref I) 1 (rawInt (i+1))
   ret x
  |some _=>unsupported "internal:set_iterator"
  |none=>
   setField (.ref I) 0 (rawInt 0)
   setField (.ref I) 2 .none
   raiseNew (←newExc (.type "StopIteration") [])
def Nk(f:SI s.heap I a first i es.size ep)(S:UB w s.heap a js es ep t)
  (body:wpAny (model prog w) A.in1 (P0 first a I i ep) (λp l=>∃v,p=.done (.ret v)/\Q (some v) l)
   (λe l=>wpAny (model prog w) A (isInstance e<|.type "StopIteration") (λb g=>b=true/\Q none g) E l) s) :
  wpAny (model prog w) A (pyNext<|.ref I) Q E s:=by
 obtain⟨o,x,G,y⟩:=id f;obtain⟨C,r,hx,u⟩:=S.obj;refine Wi (wpAny_attempt<|wpAny_callSpecial?_slot f.typ si_slot<|Vg si_slot f.typ Zal ?_<|Zaw _);refine Wi (Wn<|Wi<|wpAny_fieldsOf x y ?_);refine Wi (wpAny_setEntries_of r u S.fit ?_);rw[Wq (by simp)];refine WD body (λp l h=>?_) λe l h=>?_
 ·obtain⟨v,e,q⟩:=h;exact⟨v,e,Wn q⟩
 ·refine Wi (WD h (λb g B=>?_) λ_ _ z=>z);obtain⟨rfl,q⟩:=B;exact Wn q
def Au{Q:Y0->Shared->Prop}{o}{vs}(q:A.handled=none)(p:s.heap.get? I=some o)(r:o.data=.fields vs)(u:2<vs.size)(g:∀h,Heap.ExtBut I s.heap h->Q none {s with heap:=h}){R:PySem.Fin->Shared->Prop} :
  wpAny (model prog w) A.in1 (do setField (.ref I) 2 .none;raiseNew (←newExc (.type "StopIteration") [])) R (λe l=>wpAny (model prog w) A (isInstance e<|.type "StopIteration") (λb f=>b=true/\Q none f) E l) s:=by
 refine Wi (Q5 p r u<|Wi ?_);refine Wi (Qf ?_<|by size_fits);refine Wi (wpAny_of_eq (by first|rfl|(simp only[firstArgMember];rfl))<|Qf ?_<|by size_fits)
 simp only[raiseNew];refine Wi (wpAny_handled ?_);rw[q];refine Wi (Wn<|wpAny_throw ?_);refine wpAny_isInstance ⟨_,Wt _ rfl,rfl⟩ isSubtype_stop ?_;exact⟨rfl,g _ (((Qg ..).extBut.push _).push _)⟩
def SI.step1 {x:Value} (f:s.heap.get? I=some o) (g:o.cls=.type "set_iterator") (b:o.data=.fields #[first,.int i 0,.ref a,.int n 0,.int ep 0]) :
  SI (s.heap.update I<|Obj.mapFields (·.setIfInBounds 1 (rawInt ((i:Int)+1)))) I a first (i+1) n ep:=
 ⟨_,WQ _ f (Qx<|Qe b _),(Obj.cls_mapFields ..).trans g,by rw[Qe b];simp[rawInt]⟩
def Tz(h:Q (Xp w) s):wpAny (model prog w) A setsByText Q E s:=Wi (wpAny_askSetting<|Wn h)
def LO(S:UB w s.heap a js es ep t)(g:Xp w=true)(h:Q (((pickOrder (w.params.setOrder a ep) es)[i]?).map λe=>(e.2,slot)) s) :
  wpAny (model prog w) A (setNext a slot i ep) Q E s:=by
 obtain⟨l,b,hx,f⟩:=S.obj;refine Wi (Q0 b f S.fit<|Wi<|Tz ?_);rw[g,Wr rfl,Wq (by simp)];refine Wi ?_;refine Wi (Q0 b f S.fit<|Wi<|Tz ?_);rw[g,Wr rfl];exact Wi (wpAny_askSetting<|Wn<|Wn h)
def Iq(S:UB w s.heap a js es ep t)(g:Xp w=false)(l:(!t.plain&&decide (es.size>1))=false)(h:Q (match es[SetTable.below t.place slot]?,t.place[SetTable.below t.place slot]? with|some (_,x),some j=>some (x,j+1)|_,_=>none) s):wpAny (model prog w) A (setNext a slot i ep) Q E s:=by
 obtain⟨p,b,hx,f⟩:=S.obj;refine Wi (Q0 b f S.fit<|Wi<|Tz ?_);rw[g,Wq (by decide)];show wpAny _ _ (if (!t.plain&&decide (es.size>1))=true then _ else _) _ _ _;rw[l,Wq (by decide)];refine Wi (?_:wpAny _ _ (if (!t.led && !es.isEmpty)=true then unsupported "set:maker-not-led" else pure ()) _ _ _);have o:t.led=true:=by rw[S.tab.led,g];rfl
 rw[o,Wq (by simp)];exact Wn (Wn h)
def EX{p e}(S:UB w s.heap a js es ep t)(g:es[p]?=some e)(h:Q e.2 s):wpAny (model prog w) A (setNextDrawn a p ep) Q E s:=by
 obtain⟨l,b,hx,f⟩:=S.obj;refine Wi (Q0 b f S.fit ?_)
 dsimp only
 rw[Wq (by simp),g];exact Wn h
def GV{m}(b:m≠0)(h:∀k d,k<m->Q k {s with drawn:=d}):wpAny (model prog w) A (choose f m) Q E s:=by
 intro Γ p g;exact⟨b,h _ _ (Nat.mod_lt _<|Nat.pos_of_ne_zero b)⟩
theorem SD{b:Type}:∀(xs:List b) k h,(xs[k]::xs.eraseIdx k).Perm xs
 |x::r,0,_=>List.Perm.refl _
 |x::r,k+1,h=>by
  have f:k<r.length:=by grind
  exact(List.Perm.swap _ _ _).trans (List.Perm.cons _<|SD r k f)
def G4:∀m xs s {Q:List p->Shared->Prop},xs.length=m->(∀ys d,ys.Perm xs->Q ys {s with drawn:=d})->wpAny (model prog w) A (drawOrder m xs) Q E s:=by
 intro m
 induction m with
 |zero=>
  intro xs s Q b h;have e:=List.length_eq_zero_iff.mp b;subst e;exact Wn (h [] s.drawn<|List.Perm.refl _)
 |succ m g=>
  intro xs s Q b h;cases xs with
  |nil=>grind
  |cons x r=>
   unfold drawOrder;refine Wi (GV (by simp) λk d f=>?_);rw[Wj f];refine Wi (g _ _ (by grind) λys o l=>Wn ?_);exact h _ o ((List.Perm.cons _ l).trans (SD _ _ f))
def UB.keep (S:UB w h a js es ep t) (k:∀o,h.get? a=some o->p.get? a=some o):UB w p a js es ep t:=by
 obtain⟨⟨o,l,r⟩,b,c,d,e,f,g⟩:=S;exact⟨⟨o,k o l,r⟩,b,c,d,e,f,g⟩
def Aw(b:SI s.heap I a first i n ep)(h:Q (.ref I) s):wpAny (model prog w) A (pyIter<|.ref I) Q E s:=by
 refine wpAny_pyIter_slot b.typ Ei (Vg Ei b.typ HN ?_<|MO _);exact Wn ⟨_,rfl, "set_iterator",_,b.typ,si_slot.lookup,h⟩
def FU(hh:A.handled=none)(I a:Addr)(hne:a≠I)(vs:Yw)(hl:vs.length=es.size)(sl:Nat->Nat)(nx:∀A E s i Q,i<=es.size->UB w s.heap a js es ep t->Q ((vs[i]?).map λv=>(v,sl (i+1))) s->wpAny (model prog w) A (setNext a (sl i) i ep) Q E s) :
  Walks prog w A I [I,a] [I] es.size (λi v=>vs[i]?=some v) (λi h=>SI h I a (.int (sl i) 0) i es.size ep/\UB w h a js es ep t) where
 sub:=λb hb=>by simp at hb;simp[hb]
 frame:=λ_ _ _ st k=>⟨st.1.at λo e=>k I (by simp) o e,st.2.keep λo e=>k a (by simp) o e⟩
 item:=λi s Q E hi st fin=>by
  obtain⟨o,ho,hc,hd⟩:=id st.1;refine Nk st.1 st.2 ?_;unfold P0
  dsimp only
  rw[Qa,Qa,Qa];refine Wi (nx _ _ s i _ (QS hi) st.2 ?_);have hi2:i<vs.length:=by lia
  rw[Wj hi2];refine Wi (Q5 ho hd (by simp) ?_);have g1:=WQ (Obj.mapFields (·.setIfInBounds 0 (rawInt (sl (i+1):Int)))) ho (Qx<|Qe hd _);have d1:(Obj.mapFields (·.setIfInBounds 0 (rawInt (sl (i+1):Int))) o).data=.fields #[.int (sl (i+1)) 0,.int i 0,.ref a,.int es.size 0,.int ep 0]:=by rw[Qe hd];simp[rawInt]
  refine Wi (Q5 g1 d1 (by simp) ?_);have sb:=(Qg s.heap I<|Obj.mapFields (·.setIfInBounds 0 (rawInt (sl (i+1):Int)))).trans (Qg _ I<|Obj.mapFields (·.setIfInBounds 1 (rawInt ((i:Int)+1))));refine Wn ⟨_,rfl,fin vs[i] _ s.toks (Wj hi2) ⟨?_,st.2.keep λo e=>sb.extBut a o hne e⟩ λb o hb e=>sb.extBut b o (λz=>hb (by simp[z])) e⟩;exact SI.step1 (x:=.none) g1 ((Obj.cls_mapFields ..).trans hc) d1
 done:=λs Q E st fin=>by
  obtain⟨o,ho,hc,hd⟩:=id st.1;refine Nk st.1 st.2 ?_;unfold P0
  dsimp only
  rw[Qa,Qa,Qa];refine Wi (nx _ _ s es.size _ (Wp _) st.2 ?_);rw[Vk (by lia)];exact Au hh ho hd (by simp) λh' eb=>fin h' s.toks λb o hb e=>eb b o (λz=>hb (by simp[z])) e
 self:=λ_ _ _ _ st fin=>Aw st.1 fin
def Zaq(hh:A.handled=none)(I a T:Addr)(hne:a≠I)(hT:T≠I)(ps:Yv)(hl:ps.length=es.size)(hps:∀p∈ps,p<es.size)(vs:Yw)(hvs:vs=ps.map λp=>((es[p]?).map (·.2)).getD .none) :
  Walks prog w A I [I,a,T] [I] es.size (λi v=>vs[i]?=some v) (λi h=>SI h I a (.ref T) i es.size ep/\UB w h a js es ep t/\∃o,h.get? T=some o/\∃c,o.data=.seq (ps.map λ(p:Nat)=>rawInt p).toArray c) where
 sub:=λb hb=>by simp at hb;simp[hb]
 frame:=λ_ _ _ st k=>⟨st.1.at λo e=>k I (by simp) o e,st.2.1.keep λo e=>k a (by simp) o e,let ⟨o,ho,c⟩:=st.2.2;⟨o,k T (by simp) o ho,c⟩⟩
 item:=λi s Q E hi st fin=>by
  obtain⟨o,ho,hc,hd⟩:=id st.1;obtain⟨oT,hoT,c,hdT⟩:=st.2.2;refine Nk st.1 st.2.1 ?_;unfold P0
  dsimp only
  refine Wi (wpAny_seqItems hoT hdT ?_);have hi2:i<ps.length:=by lia
  have e1:(ps.map λ(p:Nat)=>rawInt p).toArray[(i:Int).toNat]?=some (.int ps[i] 0):=by
   rw[Qa,List.getElem?_toArray,Ws,Wj hi2];rfl
  have hp:=hps _ (WI hi2)
  dsimp only
  rw[e1]
  dsimp only
  have e3:vs[i]?=some (es[ps[i]]).2:=by rw[hvs,Ws,Wj hi2];simp[hp]
  refine Wi (EX st.2.1 (WW hp)<|Wi<|Q5 ho hd (by simp) ?_);have sb:=Qg s.heap I (Obj.mapFields (·.setIfInBounds 1 (rawInt ((i:Int)+1))));exact Wn ⟨_,rfl,fin _ _ s.toks e3 ⟨SI.step1 (x:=.none) ho hc hd,st.2.1.keep λo e=>sb.extBut a o hne e,oT,sb.extBut T oT hT hoT,c,hdT⟩ λb o hb e=>sb.extBut b o (λz=>hb (by simp[z])) e⟩
 done:=λs Q E st fin=>by
  obtain⟨o,ho,hc,hd⟩:=id st.1;obtain⟨oT,hoT,c,hdT⟩:=st.2.2;refine Nk st.1 st.2.1 ?_;unfold P0
  dsimp only
  refine Wi (wpAny_seqItems hoT hdT ?_)
  have e1:(ps.map λ(p:Nat)=>rawInt p).toArray[(es.size:Int).toNat]?=none:=by
   rw[Qa,List.getElem?_toArray,Ws,Vk (by lia)];rfl
  dsimp only
  rw[e1]
  dsimp only
  refine Wi (Q5 ho hd (by simp) ?_);refine Au (s:={s with heap:=_}) hh (WQ (Obj.mapFields (·.setIfInBounds 0 (rawInt 0))) ho<|Qx<|Qe hd _) (Qe hd _) (by simp) λh' eb=>fin h' s.toks λb o hb e=>eb b o (λz=>hb (by simp[z])) ((Qg s.heap I<|Obj.mapFields (·.setIfInBounds 0 (rawInt 0))).extBut b o (λz=>hb (by simp[z])) e)
 self:=λ_ _ _ _ st fin=>Aw st.1 fin
def LZ(nx:Nat->Nat):∀m k left (b:Array l),left.length=m->(pickOrder.go nx m k left b).toList.Perm (b.toList++left):=by
 intro m
 induction m with
 |zero=>
  intro k left b g;have e:=List.length_eq_zero_iff.mp g;subst e;show b.toList.Perm (b.toList++[]);simp
 |succ m h=>
  intro k left b g;have f:nx k % left.length<left.length:=Nat.mod_lt _ (by lia);unfold pickOrder.go;rw[Wj f];refine(h _ _ _<|by grind).trans ?_;rw[Array.toList_push,List.append_assoc];exact(SD left _ f).append_left _
def FF(nx:Nat->Nat)(xs:Array b):(pickOrder nx xs).toList.Perm xs.toList:=by
 have:=LZ nx xs.size 0 xs.toList #[] rfl
 simpa [pickOrder]using this
noncomputable def slotAt(t:SetTable)(i:Nat):Nat:=if i=0 then 0 else t.place.getD (i-1) 0+1
def Ax(h:t.fits m=true):t.place.size=m:=by
 simp only[SetTable.fits,WN,beq_iff_eq]at h
 grind
def Ly(S:UB w s.heap a js es ep t){i}(l:i<=es.size):SetTable.below t.place (slotAt t i)=i:=by
 have g:=Ax S.fit;have R:=S.tab.ris.ris;refine HW R (by lia) (λk h=>?_) λk o b=>?_
 ·unfold slotAt;rw[Wq (by lia)];by_cases e:k=i-1
  ·rw[e];lia
  ·have:=R k (i-1) (by lia) (by lia)
   lia
 ·unfold slotAt;by_cases f:i=0
  ·grind
  ·rw[Wq f]
   have:=R (i-1) k (by lia) b
   lia
def HX{A'}(M:A'.handled=none)(S:UB w s.heap a js es ep t)
  (l:∀I fp (vs:Yw) St N d1,Walks prog w A' I fp [I] es.size (λi v=>vs[i]?=some v) St->St 0 N->(∀b∈fp,b=a\/s.heap.get? b=none)->vs.length=es.size->vs.Perm (es.toList.map (·.2))->
   s.heap.get? I=none->(∀b o,s.heap.get? b=some o->N.get? b=some o)->Q (.ref I) {s with heap:=N,drawn:=d1}) :
  wpAny (model prog w) A (pyIter<|.ref a) Q E s:=by
 obtain⟨ob,g,hx,h⟩:=S.obj;have hT:s.TypeIs (.ref a) "set":=⟨ob,g,hx.1⟩;have ha:=Wo g
 have new:∀b,s.heap.objs.size<=b->s.heap.get? b=none:=λb f=>by
  cases e:s.heap.get? b with
  |none=>rfl
  |some o=>exact absurd (Wo e) (QY.mpr f)
 refine wpAny_pyIter_slot hT F.slot_set_iter (Vg F.slot_set_iter hT O1 ?_<|F.args_set_iter_1 _);unfold Builtin.«frozenset.__iter__»;show wpAny _ _ (Builtin.Frozenset.sizeOf a >>= _) _ _ s;unfold Builtin.Frozenset.sizeOf;refine Wi (Wi<|wpAny_setEntries_of g h S.fit<|Wn ?_);refine Wi ?_;unfold setDrawn;refine Wi (Q0 g h S.fit<|Wi<|Tz<|Wn ?_)
 dsimp only
 change wpAny _ _ (if (!Xp w&&(!t.plain&&decide (es.size>1)))=true then _ else _) _ _ _;cases hd:(!Xp w&&(!t.plain&&decide (es.size>1)))with
 |false=>
  rw[Wq (by decide)];refine Wi (Wn<|Wi<|wpAny_setEpoch_of g h S.fit<|Wi<|Qf<|Wn ⟨_,rfl, "set_iterator",_,⟨_,Wt _ rfl,rfl⟩,si_slot.lookup,?_⟩);have B:=W3 ha;have S1:UB w (s.heap.push {cls:=.type "set_iterator",data:=.fields [rawInt 0,rawInt 0,.ref a,rawInt es.size,rawInt ep].toArray}) a js es ep t:=S.keep λo e=>Wl _ e
  have lt:∀b∈[s.heap.objs.size,a],b=a\/s.heap.get? b=none:=λb f=>by
   rcases Wu.mp f with rfl|f
   ·exact .inr (new _<|Wp _)
   ·exact .inl (Wm.mp f)
  cases f:Xp w with
  |true=>
   have u:((pickOrder (w.params.setOrder a ep) es).toList.map (·.2)).length=es.size:=by
    rw[Wk,(FF _ _).length_eq];simp
   refine l _ _ _ _ _ s.drawn (FU M s.heap.objs.size a B ((pickOrder (w.params.setOrder a ep) es).toList.map (·.2)) u (λ_=>0) λA E s i Q hi G q=>LO G f ?_) ⟨⟨_,Wt _ rfl,rfl,rfl⟩,S1⟩ lt u ((FF _ _).map _) (new _<|Wp _) λb o e=>Wl _ e;rw[Ws]at q;rw[←Qi];cases e:(pickOrder (w.params.setOrder a ep) es).toList[i]? with
   |none=>rw[e]at q;exact q
   |some x=>rw[e]at q;exact q
  |false=>
   have y:(!t.plain&&decide (es.size>1))=false:=by rw[f]at hd;simpa using hd
   refine l _ _ _ _ _ s.drawn (FU M s.heap.objs.size a B (es.toList.map (·.2)) (by simp) (slotAt t) λA E s i Q hi G q=>Iq G f y ?_) ⟨⟨_,Wt _ rfl,rfl,rfl⟩,S1⟩ lt (by simp) (List.Perm.refl _) (new _<|Wp _) λb o e=>Wl _ e;rw[Ly G hi];have hz:=Ax G.fit;rw[Ws]at q;by_cases L:i<es.size
   ·have C:=WW L;have e2:t.place[i]?=some t.place[i]:=WW (by lia);have U:es.toList[i]?=some es[i]:=by rw[Qi];exact C
    rw[U]at q;rw[C,e2]
    have e4:slotAt t (i+1)=t.place[i]+1:=by
     unfold slotAt;rw[Wq (by lia)]
     have:i<t.place.size:=by lia
     simp[Array.getD,this]
    have Y:=q;rw[e4]at Y;exact Y
   ·have C:es[i]?=none:=Vd (by lia);have U:es.toList[i]?=none:=by rw[Qi];exact C
    rw[U]at q;rwa[C]
 |true=>
  rw[Wr rfl];refine Wi (G4 _ _ s (by simp) λr d y=>?_);have u:r.length=es.size:=by rw[y.length_eq];simp
  have J:∀p∈r,p<es.size:=λp hm=>QW.mp (y.mem_iff.mp hm);refine Wi (Qf ?_<|by show(r.map λ(i:Nat)=>rawInt i).toArray.size<=sizeLine;rw[W7,Wk,u];exact Va S.few);have z:=Wl {cls:=.type "tuple",data:=.seq (r.map λ(i:Nat)=>rawInt i).toArray} g;refine Wi (wpAny_setEpoch_of z h S.fit<|Wi<|Qf<|Wn ⟨_,rfl, "set_iterator",_,⟨_,Wt _ rfl,rfl⟩,si_slot.lookup,?_⟩);have H:(s.heap.push {cls:=.type "tuple",data:=.seq (r.map λ(i:Nat)=>rawInt i).toArray}).objs.size=s.heap.objs.size+1:=QX ..
  have T:(List.range es.size).map (λp=>((es[p]?).map (·.2)).getD Value.none)=es.toList.map (·.2):=by
   apply Q1;intro k;by_cases hk:k<es.size
   ·simp[hk]
   ·have:es.size<=k:=by lia
    simp[this]
  refine l _ _ _ _ _ d (Zaq M _ a s.heap.objs.size ?_ ?_ r u J _ rfl) ⟨⟨_,Wt _ rfl,rfl,rfl⟩,S.keep λo e=>Wl _ (Wl _ e),_,Wl _ (Wt _ rfl),0,rfl⟩ (λb f=>?_) (by rw[Wk];exact u) ?_ (new _ ?_) λb o e=>Wl _ (Wl _ e)
  ·show a≠_;rw[H];exact W3 (Vb ha)
  ·show s.heap.objs.size≠_;rw[H];exact W3 (QE _)
  ·rcases Wu.mp f with rfl|f
   ·refine .inr (new _ ?_);show s.heap.objs.size<=_;rw[H];exact QM _
   ·rcases Wu.mp f with rfl|f
    ·exact .inl rfl
    ·rw[Wm.mp f];exact .inr (new _<|Wp _)
  ·rw[←T];exact y.map _
  ·show s.heap.objs.size<=_;rw[H];exact QM _
def Gh(g:s.TypeIs (.ref a) "set")(h:Q false s):wpAny (model prog w) A (Builtin.List.listLengthHint<|.ref a) Q E s:=by
 refine Wi (wpAny_specialOf g F.slot_set_len.lookup ?_);generalize f:("set.__len__" : String)=z
 wp_delta
 have l:splitId z=some ("set","__len__"):=by subst f;decide +kernel
 rw[l];subst f;refine Wi (wpAny_isInstance (b:=true) g (by rw[isSubtype_type];kernel_rfl) (wpAny_ite_split (λz=>absurd z (by decide)) λ_=>?_));exact wpAny_ite_split (λ_=>Wi (wpAny_typeOf g<|Wn h)) λz=>absurd (by decide +kernel) z
def Ow(hh:A.handled=none)(S:UB w s.heap a js es ep t)(D:Addr)(c:Nat)(g:Value)(Y:s.heap.get? D=some {cls:=.type "list",data:=.seq #[] c})(C:D≠a)(fin:∀h' L d (vs:Yw) x,vs.Perm (es.toList.map (·.2))->h'.get? D=some {cls:=.type "list",dict:=none,data:=.seq vs.toArray x,slots:=#[]}->(∀b o,b≠D->s.heap.get? b=some o->h'.get? b=some o)->R (.ok<|.ret g) {s with heap:=h',toks:=L,drawn:=d}) :
  wpAny (model prog w) A.in1 (Builtin.List.listExtendWith (.ref D) (.ref a) g) (λf u=>match f with | .done f=>R (.ok f) u | .again x=>x.quiet=true/\codeAny (model prog w) A x R u) (λe u=>R (.error e) u) s:=by
 obtain⟨ob,B,hx,hdd⟩:=S.obj;have hT:s.TypeIs (.ref a) "set":=⟨ob,B,hx.1⟩;unfold Builtin.List.listExtendWith;refine Wi (wpAny_typeOf hT ?_);have n1:Builtin.List.listSameRef (.ref D) (.ref a)=false:=by simp[Builtin.List.listSameRef,C]
 have n2:(Value.type "set" == Value.type "list")=false:=by decide
 have n3:(Value.type "set" == Value.type "tuple")=false:=by decide
 simp only[n1,n2,n3,Bool.or_false,Bool.false_eq_true,if_false];refine Wi (HX (A':=A.in1) hh S λI fp vs St h1 d1 W N flt hl hp U keep=>?_);have hDI:D≠I:=λz=>by rw[←z,Y]at U;cases U
 have loop:∀h L c1,St 0 h->(∀b o,b≠D->s.heap.get? b=some o->h.get? b=some o)->h.get? D=some {cls:=.type "list",data:=.seq #[] c1}->D∉fp->
   codeAny (model prog w) A (.builtin "list.extend.loop" ⟨[.ref D,.ref I,g],[]⟩) R {s with heap:=h,toks:=L,drawn:=d1}:=λh L c1 st hk q p=>by
  refine codeAny_extend_loopS W.toS (Va S.few) D p g es.size 0 _ #[] c1 rfl (WV _) st q (ItemsOf.nil _) λu v x M J r=>?_
  have ev:v.toList=vs:=by
   apply Q1;intro k;by_cases Q:k<v.size
   ·have e1:=WW Q;rw[Qi,e1];exact(r.2 k _ e1).symm
   ·rw[Qi,Vd (by lia),Vk (by have:=r.1;lia)]
  have e2:v=vs.toArray:=by rw[←ev]
  rw[e2]at J;rw[Moved.eq_with M];refine fin u.heap u.toks d1 vs x hp J λb o l e=>M.heap b o (λG=>?_) (hk b o l e);rcases Wu.mp G with z|z
  ·exact l z
  ·rw[Wm.mp z,U]at e;cases e
 have p:D∉fp:=λM=>by
  rcases flt D M with z|z
  ·exact C z
  ·rw[Y]at z;cases z
 have T:Shared.TypeIs {s with heap:=h1,drawn:=d1} (.ref a) "set":=⟨ob,keep _ _ B,hx.1⟩
 refine Wi (Qy<|Gh T ?_);have q:=keep _ _ Y;refine Wi (wpAny_rule<|Wi (?_:wpAny _ _ (updateSeq D (·.push .none) >>= λ_=>updateSeq D (·.pop)) _ _ _));refine Wi (wpAny_updateSeq q rfl ?_);have H:=WQ (Obj.mapSeq (·.push Value.none)) q rfl;refine wpAny_updateSeq H rfl ?_
 have y:∀b o,b≠D->h1.get? b=some o->((h1.update D<|Obj.mapSeq (·.push Value.none)).update D (Obj.mapSeq (·.pop))).get? b=some o:=λb o l e=>
  (WJ _ _<|Ne.symm l).trans ((WJ _ _<|Ne.symm l).trans e)
 exact Wn ⟨plainId_quiet F.plain_extend_loop _,loop _ _ _ (W.frame 0 _ _ N λb l o e=>y b o (λz=>p (z▸l)) e) (λb o l e=>y b o l (keep b o e)) (WQ (Obj.mapSeq (·.pop)) H rfl) p⟩
def Oz(G:A.handled=none)(S:UB w s.heap a js es ep t)(u:∀g h d vs,vs.Perm (es.toList.map (·.2))->(∀b o,s.heap.get? b=some o->g.get? b=some o)->s.heap.objs.size<g.objs.size->R vs {s with heap:=g,toks:=h,drawn:=d}) :
  wpAny (model prog w) A (collect<|.ref a) R E s:=by
 obtain⟨Q,C,hx,H⟩:=S.obj;refine Wi (wpAny_runValue<|Qw entry_proto_collect' ?_);have M:=QH (A:=A) PySem.F.plain_proto_collect ⟨[.ref a],[]⟩;refine(Wi<|Qf<|Wn ⟨plainId_quiet PySem.F.plain_list_iadd _,Qw entry_list_iadd' ?_⟩);rw[(QH (A:=A) PySem.F.plain_list_iadd ⟨[.ref s.heap.objs.size,.ref a],[]⟩)];have J:(s.heap.push {cls:=.type "list",data:=.seq ([]:Yw).toArray}).get? s.heap.objs.size=some {cls:=.type "list",data:=.seq #[]}:=Wt _ rfl
 have B:=Ow (prog:=prog) (s:={s with heap:=s.heap.push {cls:=.type "list",data:=.seq ([]:Yw).toArray}})
  (R:=λq z=>∃g h d vs v,q=.ok (.ret<|.ref s.heap.objs.size)/\z={s with heap:=g,toks:=h,drawn:=d}/\vs.Perm (es.toList.map (·.2))/\(∀b o,s.heap.get? b=some o->g.get? b=some o)/\
   g.get? s.heap.objs.size=some {cls:=.type "list",dict:=none,data:=.seq vs.toArray v,slots:=#[]}) G (S.keep λo e=>Wl _ e) s.heap.objs.size 0 (.ref s.heap.objs.size) J (V1<|Wo C)
  λg h d vs v p l r=>⟨g,h,d,vs,v,rfl,rfl,p,λb o e=>r b o (W3<|Wo e) (Wl _ e),l⟩
 refine WD B (λf z x=>?_) λe z x=>?_
 ·cases f with
  |done f=>
   obtain⟨g,h,d,vs,v,e,rfl,p,r,l⟩:=x;cases e
   refine(Wi<|wpAny_load l<|Wn ?_);exact u g h d vs p r (Wo l)
  |again T=>
   refine⟨x.1,Qs x.2 λq N y=>?_⟩;obtain⟨g,h,d,vs,v,rfl,rfl,p,r,l⟩:=y;refine(Wi<|wpAny_load l<|Wn ?_);exact u g h d vs p r (Wo l)
 ·obtain⟨_,_,_,_,_,L,_⟩:=x;cases L
theorem Ak:∀{l:List (Int×Value)},(∀e∈l,Ent e)->IntsAre (l.map (·.2)) (l.map keyOf)
 |[],_=>.nil
 |e::r,h=>by
  obtain⟨k,t,rfl⟩:=h e WR;exact .cons k t (Ak λx hx=>h x (W2 _ hx))
def Ho{vs us}(p:vs.Perm us):∀{ns:Yq},IntsAre us ns->∃b,IntsAre vs b/\b.Perm ns:=by
 induction p with
 |cons x _ q=>
  intro ns h;cases h with
  |cons n t r=>
   obtain⟨b,v,u⟩:=q r;exact⟨n::b,.cons n t v,List.Perm.cons _ u⟩
 |swap x y l=>
  intro ns h;cases h with
  |cons n t r=>
   cases r with
   |cons f g o=>exact⟨f::n::_,.cons f g (.cons n t o),List.Perm.swap _ _ _⟩
 |_=>grind
def HP(L:A.handled=none)(B:SetB w s.heap a js)(x:js.length<64)
  (C:∀l y u d f ns e,IntsAre f ns->ns.Perm js->ns.Pairwise (·<=·)->s.heap.get? l=none->s.heap.objs.size<=l->y.get? l=some {cls:=.type "list",data:=.seq f.toArray e}->
   (∀b o,s.heap.get? b=some o->y.get? b=some o)->Q (.ref l) {s with heap:=y,toks:=u,drawn:=d}) :
  wpAny (model prog w) A (call (.builtin "sorted") [.ref a]) Q E s:=by
 obtain⟨es,ep,t,S⟩:=B;refine Calls.call_function_entry kind_sorted plain_sorted entry_sorted (args_sorted1 _) ?_;refine Wi (Wn<|Wi (Oz L S λp u d r H keep big=>?_));obtain⟨N,G,v⟩:=Ho H (Ak S.ent);have g:=v.trans S.per;have J:r.length<64:=by rw[IntsAre.length G,g.length_eq];exact x
 refine Wi (wpAny_newList ?_<|by have:(64:Nat)<=sizeLine:=(by decide);lia);have z:(p.push<|seqObj "list" r.toArray 0).get? p.objs.size=some (seqObj "list" r.toArray 0):=Wt _ rfl;refine Wi (Qy<|Vg slot_list_sort ⟨_,z,rfl⟩ entry_list_sort (list_sort_tree z G J λf ns a1 a2 a3=>⟨_,rfl,?_⟩)<|args_list_sort _);obtain⟨e,M⟩:=sortedHeap_at z;refine Wn ⟨_,rfl,C p.objs.size _ u d f.toList ns e a1 (a2.trans g) a3 ?_ (QS big) (by simpa [seqObj]using M) λb o q=>?_⟩
 ·cases q:s.heap.get? p.objs.size with
  |none=>rfl
  |some o=>exact absurd (Wo<|keep _ _ q) (Qn _)
 ·have h:=Wo (keep b o q);rw[sortedHeap_old (W3 h) (by rw[size_push'];exact Vb h)];exact Wl _ (keep b o q)
end
end SetR
namespace Own
open L2
noncomputable def Kn(w:World)(l:Addr)(b:Yq):HO:=.ext λh=>SetR.SetB w h l b
section
variable {X:Cx}
def GR{w H h l b}(B:SetR.SetB w h l b):ObjOk P w H h l (Kn w l b):=by
 refine⟨B,?_,λp n f k=>f.at k⟩;obtain⟨q,r,t,S⟩:=B;obtain⟨o,g,_⟩:=S.obj
 grind
def Ij(y:X.calm=true):Xd X (.type "set") (λxs H Q=>∃(p:Addr) (ns:Yq),xs=[.ref p]/\SqL X.K H p (ns.map V.int)/\ns.length+1<4096/\∀l,H l=none->Q (.ref l) (upd H l<|Kn X.w l<|ns.foldl SetR.UD [])):=by
 intro pins s A H xs C Q I f h;obtain⟨p,ns,rfl,z,x,q⟩:=h;obtain⟨u,rfl,g⟩:=f.one;obtain rfl:=g;obtain⟨v,r,n,_⟩:=I.list z;refine SetR.RE (I.ok.hd y) n.isList (by simpa using EL r) x λG E B keep=>?_;exact⟨.ref s.heap.objs.size,upd H s.heap.objs.size (Kn X.w s.heap.objs.size _),I.laid (λb o e=>keep b o (Wo e) e) (Wp _) (GR B),rfl,q _ (I.hok.fresh<|Wp _)⟩
def Fc(N:X.calm=true):Xd X (.builtin "sorted") (λxs H Q=>∃p g,xs=[.ref p]/\g.length<64/\(SqL X.K H p (g.map V.int)\/H p=some (Kn X.w p g))/\
  ∀l (ns:Yq),H l=none->ns.Perm g->ns.Pairwise (·<=·)->Q (.ref l) (upd H l<|.lst<|ns.map V.int)):=by
 intro pins s U H xs Y Q I G h;obtain⟨p,g,rfl,A,v,q⟩:=h;obtain⟨u,rfl,J⟩:=G.one;obtain rfl:=J
 have big:∀{ns:Yq},ns.Perm g->(ns.map V.int).length<=sizeLine:=λM=>by
  rw[Wk,M.length_eq]
  have:(64:Nat)<=sizeLine:=by decide
  lia
 rcases v with v|v
 ·obtain⟨n,r,L,_⟩:=I.list v;have E:IntsAre n g:=by simpa using EL r
  refine sorted_ints L.isList E (by rw[IntsAre.length E];exact A) λf ns a1 a2 a3=>?_;obtain⟨e,C⟩:=sortedAll_at s.heap n f;have x:=I.hok.fresh (QM _);refine⟨.ref (s.heap.objs.size+1),upd H (s.heap.objs.size+1) (.lst<|ns.map V.int),I.laid (λb o e=>sortedAll_old e) (QM _) ⟨big a2,f.toList,e,TY a1,?_⟩,rfl,q _ ns x a2 a3⟩;omega
 ·have B:=(I.hok p _ v).1;refine SetR.HP (I.ok.hd N) B A λl T tk d f ns e a1 a2 a3 nl y C keep=>?_;have x:=I.hok.fresh y;refine⟨.ref l,upd H l (.lst<|ns.map V.int),?_,rfl,q l ns x a2 a3⟩;have ok:HOk X.prog X.w (upd H l<|.lst<|ns.map V.int) T:=I.hok.laid keep y ⟨big a2,f,e,TY a1,C⟩;exact I.call (ch:=[]) (Un.laid keep y x) ok I.bare (λb z=>absurd z (by simp))
end
section
variable {X:Cx}{K:Yo}
def Mq(b:autoParam (X.K=K) au_0):IxR X (λx y H Q=>Pk K x y H Q\/Pb K x y H Q):=by subst b;exact G7
def Im(b:autoParam (X.K=K) au_0):Xd X (.builtin "len") (λxs H Q=>∃x n,xs=[x]/\Nh K x H n/\Q (.int n) H):=by subst b;exact Ii
def Rt(b:autoParam (X.K=K) au_0):OpR X (compareOp .In) (rIn K false):=by subst b;exact RP
def Lz(b:autoParam (X.K=K) au_0):OpR X (compareOp .NotIn) (rIn K true):=by subst b;exact MV
def FV{pos es k t n}(g:X.calm=true)(h:PGs X es t)(l:autoParam (X.K=K) au_0)(f:autoParam ((assignEach es X.env).length=n) au_0)(b:autoParam ((assignEach es X.env).findIdx? (·.1)=none) au_0):PG X (.Tuple es k pos) (ND K n t):=by subst l;exact Gb g h f b
end
section
variable {α:Type}{R:Hp->V->α->Prop}{φ:Yu}{g:TG}{tc:TT}{te:TE}{σ:L2.St}{H1:Hp}{F:Hp->Prop}{D:Addr}
def OB{K a xs}{ds:List α}(f:α->Option V)(u:SqL K H1 a xs)(C:xs.length=ds.length)(E:H1 D=none)(H:ds.length<=sizeLine)(turn:∀(i:Nat) x d l,xs[i]?=some x->ds[i]?=some d->Same H1 l->∀k:Option V->Hp->Prop,k (f d) l->g x (atStart φ σ) l λh v=>Sub (atStart φ σ) h/\tc h v λb q=>if b=true then te h q λy s=>k (some y) s else k none q)(done:F (upd H1 D<|.lst<|ds.filterMap f)) :
  ∃W:Nat->Nat->List V->Hp->Prop,(∃m,W 0 m [] (upd H1 D<|.lst []))/\
   ∀i m ys l,W i m ys l->((Itl K a).stop i l/\F l)\/((Itl K a).go i l/\∀x w,(Itl K a).yld i l x w->g x (atStart φ σ) w λh v=>Sub (atStart φ σ) h/\tc h v λb q=>
    if b=true then te h q λy s=>s D=some (.lst ys)/\ys.length<sizeLine/\∃n,n<m/\W (i+1) n (ys++[y]) (upd s D<|.lst (ys++[y]))else ∃n,n<m/\W (i+1) n ys q):=by
 refine⟨λi m ys l=>m=ds.length-i/\i<=ds.length/\ys=(ds.take i).filterMap f/\l=upd H1 D (.lst ys),⟨ds.length,by simp,WV _,by simp,rfl⟩,?_⟩;rintro i m ys l ⟨rfl,J,rfl,rfl⟩;have r:Same H1 (upd H1 D<|.lst ((ds.take i).filterMap f)):=UJ E;by_cases p:i<ds.length
 ·refine .inr ⟨⟨xs,xs[i]'(by lia),r.seq u,by simp[C,p]⟩,λx w y=>?_⟩;obtain⟨e,y⟩:=y;subst e
  refine turn i x ds[i] _ (y xs<|r.seq u) (Wj p) r (λo z=>match o with
   |some y=>z D=some (.lst ((ds.take i).filterMap f))/\((ds.take i).filterMap f).length<sizeLine/\∃n,n<ds.length-i/\(n=ds.length-(i+1)/\i+1<=ds.length/\(ds.take i).filterMap f++[y]=(ds.take (i+1)).filterMap f/\upd z D (.lst ((ds.take i).filterMap f++[y]))=upd H1 D (.lst ((ds.take i).filterMap f++[y])))
   |none=>∃n,n<ds.length-i/\(n=ds.length-(i+1)/\i+1<=ds.length/\(ds.take i).filterMap f=(ds.take (i+1)).filterMap f/\z=upd H1 D (.lst ((ds.take i).filterMap f)))) ?_
  have A:=List.take_succ_eq_append_getElem p;cases B:f ds[i]with
  |some y=>
   refine⟨Ur,?_,ds.length-(i+1),by lia,rfl,p,?_,Hk⟩
   ·have G:=List.length_filterMap_le f (ds.take i);rw[QF]at G;lia
   ·rw[A,QB];simp[B]
  |none=>
   refine⟨ds.length-(i+1),by lia,rfl,p,?_,rfl⟩;rw[A,QB];simp[B]
 ·have e:i=ds.length:=by lia
  subst e;refine .inl ⟨⟨xs,r.seq u,by lia⟩,?_⟩;rwa[List.take_length]
end
noncomputable def eqL(xs ys:List V):Bool:=decide (xs.length=ys.length)&&(List.range xs.length).all λj=>eqV (xs.getD j .non) (ys.getD j .non)
noncomputable def X8(K:Yo)(neg:Bool):R2:=λx y H Q=>∃(p q:Addr) (xs b:List V),x=.ref p/\y=.ref q/\SqL K H p xs/\SqL K H q b/\xs.all UY=true/\b.all UY=true/\Q (.bl (if neg then !eqL xs b else eqL xs b)) H
section
variable {X:Cx}
def FA{xs ys us b}(h:Vals xs us)(g:Vals ys b)(f1:xs.all UY=true)(r:ys.all UY=true)(j:Nat)(q:j<us.toArray.size)(p:j<b.toArray.size) :
  SeqAt.EqAt A s us.toArray[j] b.toArray[j] (eqV (xs.getD j .non)<|ys.getD j .non):=by
 have C:=h.length;have B:=g.length;have G:j<us.length:=by simpa using q
 have E:j<b.length:=by simpa using p
 have n:xs[j]?=some (xs[j]'(by lia)):=Wj _;have l:ys[j]?=some (ys[j]'(by lia)):=Wj _;obtain⟨u,J,o⟩:=h.get n;obtain⟨w,H,f⟩:=g.get l;have x:us.toArray[j]=u:=by grind
 have v:b.toArray[j]=w:=by grind
 have z:xs.getD j .non=xs[j]'(by lia):=by rw[W8,n];rfl
 have y:ys.getD j .non=ys[j]'(by lia):=by rw[W8,l];rfl
 rw[x,v,z,y];exact Ej o f (WO.mp f1 _<|WI _) (WO.mp r _<|WI _)
def Iz(o:X.A.units<cLine):OpR X (compareOp .Eq) (X8 X.K false):=by
 intro pins s G H x y v u Q I w r h;obtain⟨p,q,xs,b,rfl,rfl,z,hq,f1,E,k⟩:=h;obtain rfl:=w;obtain rfl:=r;obtain⟨L,g,l,_⟩:=I.list z;obtain⟨J,f,p2,_⟩:=I.list hq;have N:=g.length;have M:=f.length;have n:=k;by_cases e:xs.length=b.length
 ·refine SeqAt.eq_listAt l.isList p2.isList (by simp;lia) o (λj C B=>FA g f f1 E j C B) ⟨.bl (eqL xs b),H,I,?_,n⟩;show _=Value.bool (eqL xs b);unfold eqL
  grind
 ·refine SeqAt.eq_list_lengthsAt l.isList p2.isList (by simp;lia) o ⟨.bl (eqL xs b),H,I,?_,n⟩;unfold eqL;rw[W9 e];rfl
def Fb(o:X.A.units<cLine):OpR X (compareOp .NotEq) (X8 X.K true):=by
 intro pins s G H x y v u Q I w r h;obtain⟨p,q,xs,b,rfl,rfl,z,hq,f1,E,k⟩:=h;obtain rfl:=w;obtain rfl:=r;obtain⟨L,g,l,_⟩:=I.list z;obtain⟨J,f,p2,_⟩:=I.list hq;have N:=g.length;have M:=f.length;have n:=k;by_cases e:xs.length=b.length
 ·refine SeqAt.RcNeAt.lists l.isList p2.isList (by simp;lia) o (λj C B=>FA g f f1 E j C B) _ _ _ _ ⟨.bl (!eqL xs b),H,I,?_,n⟩;show _=Value.bool (!eqL xs b);unfold eqL
  grind
 ·refine SeqAt.RcNeAt.lists_lengths l.isList p2.isList (by simp;lia) o _ _ _ _ ⟨.bl (!eqL xs b),H,I,?_,n⟩;unfold eqL;rw[W9 e];rfl
end
section
variable {X:Cx}{K:Yo}
def BD{n t name apos cpos T id r}(p:PlainAttrs T)(slot:Slot T name id)(l:typeOf (.builtin id)=pure (.type "method_descriptor"))(u:MtM X id r)(s:PE X o n)(v:PA X (e::es) t)(w:autoParam (X.K=K) au_0)(g:autoParam (attributeBase o name X.env (eval o X.env)=eval o X.env) au_0)
  (h:autoParam (((backTo cpos<|starEach (e::es) X.env).all (λx=>!x.1)&&(backToKw cpos<|keywordEach [] X.env).all (λx=>x.1.isSome)
   && decide ((e::es).length+([]:List Keyword).length+(if ([]:List Keyword).isEmpty then 0 else 1)<30))=true) au_0)
  (f:autoParam ((apos.endLine==cpos.line)=true) au_0) (q:autoParam (starEach (e::es) X.env=(false,eval e X.env)::starEach es X.env) au_0) (b:autoParam ((backTo cpos<|starEach es X.env).any (·.1)=false) au_0) :
  PE X (.Call (.Attribute o name apos) (e::es) [] cpos) (tBM K T r n t):=by
 subst w;exact P9 p slot l u s v g h f q b
end
def E5(xs ys:Yq):eqL (xs.map V.int) (ys.map V.int)=decide (xs=ys):=by
 unfold eqL;rw[Wk,Wk];by_cases e:xs=ys
 ·subst e;rw[Wx rfl,Wx rfl,Bool.true_and,WO];intro j l;have f:j<xs.length:=by simpa using l
  rw[W8,Ws,Wj f];show(xs[j]==xs[j])=true;simp
 ·rw[W9 e];by_cases g:xs.length=ys.length
  ·rw[Wx g,Bool.true_and,Vz];intro b;apply e;apply List.ext_getElem g;intro j h o
   have:=WO.mp b j (by simpa using h)
   rw[W8,Ws,Wj h,W8,Ws,Wj o]at this;have n:(xs[j]==ys[j])=true:=this;simpa using n
  ·grind
def KN(xs:Yq):(xs.map V.int).all UY=true:=by
 rw[List.all_map];exact WO.mpr λ_ _=>rfl
end Own
namespace M
open L2 Own
def LV{b:Type}(R:Hp->V->b->Prop)(H:Hp)(vs:List V)(xs:List b):Prop:=
 vs.length=xs.length/\∀(i:Nat) (x:b),xs[i]?=some x->∃v,vs[i]?=some v/\R H v x
def LAt{b:Type}(R:Hp->V->b->Prop)(H:Hp)(l:Addr)(xs:List b):Prop:=∃f,H l=some (.lst f)/\LV R H f xs
def Xg(H:Hp)(v:V)(q:Int×Int):Prop:=∃a,v=.ref a/\H a=some (.tup [.int q.1,.int q.2])
section
variable {α:Type}{R:Hp->V->α->Prop}{H H':Hp}{vs:List V}{xs:List α}{l:Addr}
def LV.get {i:Nat}{v} (h:LV R H vs xs) (e:vs[i]?=some v):∃x,xs[i]?=some x/\R H v x:=by
 have f:i<xs.length:=by rw[←h.1];exact(W4.mp e).1
 obtain⟨b,g,r⟩:=h.2 i xs[i] (by simp)
 grind
end
def Sw(m:Yq):Prop:=∃a b c d e:Int,m=[a,b,c,d,e]/\(1<=a/\a<=10)/\(1<=b/\b<=9/\(b=1\/b=3\/b=7\/b=9))/\(0<=c/\c<=9)/\(1<=d/\d<=1000)/\(1<=e/\e+d<=1001)
def Field(ps:Yp):Prop:=∀q∈ps,1<=q.1/\q.1<=10/\1<=q.2/\q.2<=1000
def L8(b:Yq)(k z:Int):z∈SetR.UD b k↔z∈b\/z=k:=by
 unfold SetR.UD;split
 ·grind
 ·simp
theorem Fz:∀(ns b:Yq) z,z∈ns.foldl SetR.UD b↔z∈b\/z∈ns
 |[],b,z=>by simp
 |n::r,b,z=>by
  rw[List.foldl_cons,Fz r,L8,Wu];constructor
  ·grind
  ·grind
def Zav(k:Int)(h:b.Nodup):(SetR.UD b k).Nodup:=by
 unfold SetR.UD;split
 ·lia
 ·grind
theorem Cj:∀(ns:Yq) {b:Yq},b.Nodup->(ns.foldl SetR.UD b).Nodup
 |[],_,h=>h
 |n::r,b,h=>Cj r (Zav n h)
theorem Fn:∀(ns b:Yq),(ns.foldl SetR.UD b).length<=b.length+ns.length
 |[],b=>by simp
 |n::r,b=>by
  have g:=Fn r (SetR.UD b n)
  have f:(SetR.UD b n).length<=b.length+1:=by
   unfold SetR.UD;split
   ·simp
   ·simp
  grind
def IA{l:Yq}(h:l.Pairwise (·<=·))(n:l.Nodup):l.Pairwise (· < ·):=by
 have:=h.and n
 exact this.imp λ{a b} h=>by have:=h.1;have:=h.2;lia
def Mt{g f:Yq}(n:g.Pairwise (· < ·))(l:f.Pairwise (· < ·))(h:∀z,z∈g↔z∈f):g=f:=by
 have p:g.Nodup:=n.imp λ{a b} h=>by lia
 have o:f.Nodup:=l.imp λ{a b} h=>by lia
 exact((List.perm_ext_iff_of_nodup p o).mpr h).eq_of_pairwise (λa b _ _ x y=>by lia) n l
noncomputable def tenL:Yq:=[1,2,3,4,5,6,7,8,9,10]
def M1:z∈tenL↔1<=z/\z<=10:=by
 unfold tenL;constructor
 ·intro h;simp only[Wu,QI,or_false]at h;omega
 ·rintro⟨f,b⟩;simp only[Wu,QI,or_false];lia
noncomputable def XN(ps:Yp):Yq:=tenL.filter λh=>decide (h∈ps.map (·.1))
def MU(ps:Yp):(XN ps).Pairwise (· < ·):=List.Pairwise.filter _ (by trivial)
def Rj(b:Field ps){z}:z∈XN ps↔z∈ps.map (·.1):=by
 unfold XN;rw[QO,V0,M1];constructor
 ·grind
 ·intro h;obtain⟨q,hq,rfl⟩:=WT.mp h
  have:=b q hq
  grind
def Zaj(ps:Yp):(XN ps).length<=10:=by
 have:=QC (λh=>decide (h∈ps.map (·.1))) tenL
 trivial
def IC(b:Field ps)(p:ns.Perm ((ps.map (·.1)).foldl SetR.UD []))(h:ns.Pairwise (·<=·)):ns=XN ps:=by
 refine Mt (IA h<|p.symm.nodup<|Cj _ Q4) (MU ps) λz=>?_;rw[p.mem_iff,Fz,Rj b];simp
def AS(z:Int)(xs:Yq):inV (.int z) (xs.map V.int)=decide (z∈xs):=by
 unfold inV
 induction xs with
 |nil=>rfl
 |cons x r b=>
  show((x==z) || _)=_;by_cases e:x=z
  ·grind
  ·grind
end M
namespace ExcR
open L2
structure UU (fs ex:List Addr) (h h':Heap):Prop where
 keep:∀b o,h.get? b=some o->b∉fs->b∉ex->h'.get? b=some o
 slot:∀b o,h.get? b=some o->b∉ex->∃sl,h'.get? b=some {o with slots:=sl}
 size:h.objs.size<=h'.objs.size
def UU.trans (a:UU fs ex l h) (b:UU fs ex h g):UU fs ex l g:=
 ⟨λc o e n m=>b.keep c o (a.keep c o e n m) n m,λc o e m=>by
  obtain⟨r,q⟩:=a.slot c o e m;obtain⟨f,p⟩:=b.slot c _ q m;exact⟨f,p⟩,Wy a.size b.size⟩
def UU.mono {fs f ex g}{l h} (a:UU fs ex l h) (p:∀b∈fs,b∈f) (hx:∀b∈ex,b∈g):UU f g l h:=
 ⟨λc o e n m=>a.keep c o e (λz=>n (p c z)) (λz=>m (hx c z)),λc o e m=>a.slot c o e λz=>m (hx c z),a.size⟩
def Rc(o:Obj)(f):(o.mapFields f).dict=o.dict:=by
 obtain⟨c,d,b,sl⟩:=o;cases b<;>rfl
structure Trc (h:Heap) (e T:Addr) (cls:Value×Y1) (fl:Value):Prop where
 ne:T≠e
 exc:∃oe vs,h.get? e=some oe/\(oe.cls,oe.dict)=cls/\oe.data=.fields vs/\vs[1]?=some (.ref T)
 ent:∃oT ts,h.get? T=some oT/\oT.data=.fields ts/\ts[3]?=some fl
section
variable {M:Model}{A:Around}{E:Yt}{s:Shared}{base:Heap}{env:Env}{outer:List Env}{L e:Addr}
def EN{hadNext Q}(B:A.frames=some (env::outer))(U:s.heap.FunFrames base (env::outer))(hf:env.frame=some L)(Y:s.heap.get? e=some v)(C:v.data=.fields vs)(hsz:1<vs.size)(h:∀H T,s.heap.objs.size<=T->Trc H e T (v.cls,v.dict) (rawInt L)->UU (frs (env::outer)) [e] s.heap H->Q () {s with heap:=H}) :
  wpAny M A (do let a ←frameOf env;let u ←entryPlaceOf L hadNext;let b ←EntryCells.newEntry head a .none (rawInt L) .none u;setField (.ref e) 1 b) Q E s:=by
 have n:e∉frs (env::outer):=λhm=>by
  obtain⟨_,o,N,y⟩:=U.mem hm;rw[Y]at N;cases N
  exact y vs C
 refine Wi (wpAny_frameOf_fun B U hf λG g=>Wi (wpAny_entryPlaceOf λu x=>?_));refine Wi (Qf ?_<|x.sizeOk5 _ _ _ _ _);have r:=(g.2.1 e n).trans Y;generalize eo:({cls:=.type "traceback",dict:=none,data:=.fields ([head,.ref L,.none,rawInt L,.none]++(if u.isEmpty then List.replicate 6 Value.none else u)).toArray}:Obj)=J;have p:=Wl J r;refine Q5 p C hsz (h _ G.objs.size (Qr g.1.symm) ?_ ?_)
 ·have l:=V1 (Wo r);have d3:=Qe C (·.setIfInBounds 1 (Value.ref G.objs.size));refine⟨l,⟨_,_,WQ _ p (Qx d3),by rw[Obj.cls_mapFields,Rc],d3,by simp[hsz]⟩,J,_,?_,by rw[←eo],?_⟩
  ·exact(WJ _ _<|Ne.symm l).trans (Wt G<|by rw[←eo];rfl)
  ·rfl
 ·refine⟨λb o q nb w=>?_,λb o q w=>?_,?_⟩
  ·have f:b≠e:=λz=>w (by simp[z]);rw[WJ _ _ (Ne.symm f)];exact Wl _ ((g.2.1 b nb).trans q)
  ·have f:b≠e:=λz=>w (by simp[z]);obtain⟨sl,q1⟩:=g.2.2 b o q;exact⟨sl,by rw[WJ _ _ (Ne.symm f)];exact Wl _ q1⟩
  ·rw[Heap.size_update,QX,g.1];exact QM _
def O7(f:A.frames=some (env::outer))(q:s.heap.FunFrames base (env::outer))(l:env.frame=some L)(n:s.heap.get? e=some b)(o:b.data=.fields vs)(p:vs[1]?=some .none)(h:∀g T,s.heap.objs.size<=T->Trc g e T (b.cls,b.dict) (rawInt L)->UU (frs (env::outer)) [e] s.heap g->Q () {s with heap:=g}):wpAny M A (noteFrame (.ref e) env) Q E s:=by
 unfold noteFrame;simp only[l];refine Wi (wpAny_field n o p ?_);exact EN f q l n o (QL.mp p).1 h
def BR(x:Trc s.heap e T cls Y)(h:∀g,Trc g e T cls .none->UU [] [T] s.heap g->Q () {s with heap:=g}) :
  wpAny M A (setField (.ref T) 3 .none) Q E s:=by
 obtain⟨n,⟨w,v,J,H,G,C⟩,U,N,r,p,y⟩:=x;have u:=(QL.mp y).1;refine Q5 r p u (h _ ?_ ?_)
 ·have d3:=Qe p (·.setIfInBounds 3 Value.none);exact⟨n,⟨w,v,(WJ _ _ n).trans J,H,G,C⟩,_,_,WQ _ r (Qx d3),d3,by simp[u]⟩
 ·have l:∀b,b≠T->(s.heap.update T<|Obj.mapFields (·.setIfInBounds 3 Value.none)).get? b=s.heap.get? b:=λb B=>WJ _ _ (Ne.symm B);exact⟨λb o q _ f=>(l b λz=>f (by grind)).trans q,λb o q f=>⟨o.slots,(l b λz=>f (by grind)).trans q⟩,Qr (Heap.size_update ..).symm⟩
def NL(n:A.frames=some (env::outer))(hl:s.heap.FunFrames base (env::outer))(y:env.frame=some L)(x:Trc s.heap e T cls .none)(h:∀r f,s.heap.objs.size<=f->Trc r e f cls (rawInt L)->UU (frs (env::outer)) [e,T] s.heap r->Q () {s with heap:=r}):wpAny M A (noteFrame (.ref e) env) Q E s:=by
 obtain⟨ne,⟨oe,vs,g1,g2,g3,g4⟩,oT,G,w,v,Y⟩:=id x;unfold noteFrame;simp only[y];refine Wi (wpAny_field g1 g3 g4 ?_);refine Wi (wpAny_field w v Y ?_);refine Wi (BR x λh1 B u=>?_)
 have l:=hl.of_keeps λb o q g=>⟨o,u.keep b o q (by simp) (λz=>by
  rw[Wm.mp z,w]at q;cases q
  exact g G v),rfl⟩
 obtain⟨_,⟨U,C,N,p2,J,H⟩,_⟩:=id B;refine EN n l y N J (QL.mp H).1 λh2 f p x2 K2=>h h2 f (Wy u.size p) (by grind) ?_;exact(u.mono (by simp)<|by simp).trans (K2.mono (λ_ z=>z)<|by simp)
def KF(x:Trc s.heap e T cls r)(h:∀b,Trc b e T cls .none->UU [] [T] s.heap b->Q () {s with heap:=b}) :
  wpAny M A (setFlight (.ref e) none) Q E s:=by
 obtain⟨p,⟨o,n,l,q,g,f⟩,_⟩:=id x;refine Wi (wpAny_field l g f ?_);exact BR x h
def LC(l:A.frames=some (env::outer))(y:s.heap.FunFrames base (env::outer))(B:env.frame=some L)(C:s.heap.get? e=some f)(G:f.data=.fields vs)(J:vs[1]?=some .none)(h:∀p T,s.heap.objs.size<=T->Trc p e T (f.cls,f.dict) .none->UU (frs (env::outer)) [e] s.heap p->Q () {s with heap:=p}):wpAny M A (leaving env<|.ref e) Q E s:=by
 unfold leaving;refine Wi (O7 l y B C G J λN T n x K=>KF x λH u r=>h H T n u ?_);refine⟨λb o q w g=>r.keep b o (K.keep b o q w g) (by simp) (λz=>?_),λb o q g=>?_,Wy K.size r.size⟩
 ·rw[Wm.mp z]at q;exact absurd (Wo q) (QY.mpr n)
 ·obtain⟨sl,v⟩:=K.slot b o q g;exact⟨sl,r.keep b _ v (by simp) (λz=>by rw[Wm.mp z]at q;exact absurd (Wo q) (QY.mpr n))⟩
def RV(l:A.frames=some (env::outer))(B:s.heap.FunFrames base (env::outer))(C:env.frame=some L)(x:Trc s.heap e T cls .none)(h:∀p f,s.heap.objs.size<=f->Trc p e f cls .none->UU (frs (env::outer)) [e,T] s.heap p->Q () {s with heap:=p}):wpAny M A (leaving env<|.ref e) Q E s:=by
 refine Wi (NL l B C x λH f n v K=>KF v λG u r=>h G f n u ?_);refine⟨λb o q y g=>r.keep b o (K.keep b o q y g) (by simp) (λz=>?_),λb o q g=>?_,Wy K.size r.size⟩
 ·rw[Wm.mp z]at q;exact absurd (Wo q) (QY.mpr n)
 ·obtain⟨sl,w⟩:=K.slot b o q g;exact⟨sl,r.keep b _ w (by simp) (λz=>by rw[Wm.mp z]at q;exact absurd (Wo q) (QY.mpr n))⟩
end
section
variable {P:Program}{w:World}{H H':Hp}{h h':Heap}{a:Addr}{o:HO}{fs ex:List Addr}
def has(x:ObjOk P w H h a o):∃u,h.get? a=some u:=by
 cases o with
 |lst xs=>exact let ⟨_,_,_,_,e⟩:=x;⟨_,e⟩
 |tup xs=>exact let ⟨_,_,_,u,e,_⟩:=x;⟨u,e⟩
 |dK b|dT b=>exact let ⟨_,_,_,_,u,_,_,e,_⟩:=x;⟨u,e⟩
 |set S n=>exact let ⟨u,_,_,_,e,_⟩:=x;⟨u,e⟩
 |ins C p fs=>exact let ⟨_,_,_,e,_⟩:=x;⟨_,e⟩
 |own y=>exact x
 |xd fs=>exact let ⟨_,⟨u,_,_,e,_⟩,_⟩:=x;⟨u,e⟩
 |rng lo l=>exact let ⟨_,_,_,e⟩:=x;⟨_,e⟩
 |frz g u=>exact⟨_,x.1⟩
 |ext f=>exact x.2.1
 |_=>exact⟨_,x⟩
def Le(ok:HOk P w H h)(e:h.get? a=none):H a=none:=by
 cases q:H a with
 |none=>rfl
 |some o=>
  obtain⟨u,z⟩:=has (ok a o q)
  grind
def XS(ok:HOk P w H h)(k:UU fs ex h h')(g:∀b∈fs,H b=none)(hx:∀b∈ex,H b=none):HOk P w H h':=λa o e=>by
 refine(ok a o e).stay (λb u l q=>?_) (λ_ q=>q) (λ_ _ q=>q);have f:H b≠none:=by grind
 exact k.keep b u q (λz=>f (g b z)) λz=>f (hx b z)
end
structure XAt (P:Program) (w:World) (outer:List Env) (H H':Hp) (s s':Shared) (a T C:Addr) (dx:Y1):Prop where
 os:s'.os=s.os
 bare:AllBare s'.gens
 un:Un (frs outer) [] H H' s.heap s'.heap
 hok:HOk P w H' s'.heap
 na:s.heap.get? a=none
 nT:s.heap.get? T=none
 fa:H' a=none
 fT:H' T=none
 tr:Trc s'.heap a T (.ref C,dx) .none
noncomputable def CXe(P:Program)(w:World):CXT:=λouter H s E e g=>∃a T C b f,e=.ref a/\XAt P w outer H f s g a T C b/\E (.ref C) b f
section
variable {X:Cx}{pins:Yr}{σ:L2.St}{H H':Hp}{s s':Shared}{a T C:Addr}{dx:Y1}
def A6(I:Inv X pins σ H s)(hex:X.ex=[])(k:UU (frs X.stack) ex s.heap w)(hx:∀b∈ex,X.s₀.heap.get? b=none):Un X.fs [] X.H₀ H X.s₀.heap w:=by
 have B:=I.base;rw[hex]at B;have f:∀b o,X.s₀.heap.get? b=some o->b∉ex:=λb o q z=>by rw[hx b z]at q;cases q
 have u:∀b o,X.s₀.heap.get? b=some o->b∉X.fs->b∉frs X.stack:=λb o q h z=>by
  rcases Wu.mp (I.stkSub b z)with e|e
  ·have y:=Wo q;have x:=I.ok.above
   grind
  ·exact h e
 refine⟨λb o q n h g=>k.keep b o (B.keep b o q n h g) (u b o q h) (f b o q),λb o q n v g=>?_,λb o q n g=>B.free b o q n g,λb o q g=>?_,B.tups,B.frzs,B.tbls⟩
 ·obtain⟨sl,p⟩:=B.slot b o q n v g;obtain⟨l,r⟩:=k.slot b _ p (f b o q)
  grind
 ·obtain⟨o1,p⟩:=B.there b o q g;obtain⟨l,r⟩:=k.slot b _ p (f b o q);exact⟨_,r⟩
def Nq(I:Inv X pins σ H s)(hex:X.ex=[])(e:s.heap.get? b=none):X.s₀.heap.get? b=none:=by
 cases q:X.s₀.heap.get? b with
 |none=>rfl
 |some o=>
  obtain⟨u,z⟩:=I.base.there b o q (by grind)
  grind
variable {E:Yt}
def Zak(I:Inv X pins σ H s)(hex:X.ex=[])(g:X.stack=X.env::X.outer)(l:X.env.frame=some X.env.locals)(x:XAt X.prog X.w X.stack H H' s s' a T C dx) :
  wpAny (model X.prog X.w) X.A (leaving X.env<|.ref a) (λ_ r=>∃n,XAt X.prog X.w X.outer X.H₀ H' X.s₀ r a n C dx) E s':=by
 have J:=I.call' x.os x.un x.hok x.bare λb z=>absurd z (by simp);have o:=J.stack;have p:=J.ok.frames;rw[g]at o p;refine RV p o l x.tr λu n h q k=>⟨n,J.os,J.bare,?_,?_,Nq I hex x.na,?_,x.fa,x.hok.fresh h,q⟩
 ·exact A6 J hex (by rw[g];exact k) λb f=>by
   rcases Wu.mp f with rfl|f
   ·exact Nq I hex x.na
   ·rw[Wm.mp f];exact Nq I hex x.nT
 ·refine XS x.hok k (λb f=>J.stkFree b (by grind)) λb f=>?_;rcases Wu.mp f with rfl|f
  ·exact x.fa
  ·rw[Wm.mp f];exact x.fT
 ·exact Vn (Wy J.sz h)
def LJ(J:Inv X pins σ H s)(hex:X.ex=[])(f:X.stack=X.env::X.outer)(n:X.env.frame=some X.env.locals)(q:X.s₀.heap.get? a=none)(v:H a=none)(z:s.heap.get? a=some l)(G:l.cls=.ref C)(o:l.dict=dx)(B:l.data=.fields vs)(L:vs[1]?=some .none) :
  wpAny (model X.prog X.w) X.A (leaving X.env<|.ref a) (λ_ y=>∃p,XAt X.prog X.w X.outer X.H₀ H X.s₀ y a p C dx) E s:=by
 have r:=J.stack;have u:=J.ok.frames;rw[f]at r u;refine LC u r n z B L λM p g x k=>⟨p,J.os,J.bare,?_,?_,q,?_,v,J.hok.fresh g,by rw[←G,←o];exact x⟩
 ·exact A6 J hex (by rw[f];exact k) λb h=>by rw[Wm.mp h];exact q
 ·exact XS J.hok k (λb h=>J.stkFree b (by grind)) λb h=>by rw[Wm.mp h];exact v
 ·exact Vn (Wy J.sz g)
def Ip{f vs}(I:Inv X pins σ H s)(hex:X.ex=[])(g:X.stack=X.env::X.outer)(h:X.env.frame=some X.env.locals)(keeps:∀b o,s.heap.get? b=some o->n.get? b=some o)(new:s.heap.get? a=none)(q:n.get? a=some f)(u:f.cls=.ref C)(l:f.dict=dx)(r:f.data=.fields vs)(v:vs[1]?=some .none) :
  wpAny (model X.prog X.w) X.A (leaving X.env<|.ref a) (λ_ p=>∃x,XAt X.prog X.w X.outer X.H₀ H X.s₀ p a x C dx) E {s with heap:=n}:=
 LJ (s:={s with heap:=n}) (I.call' (ch:=[]) rfl (Un.kept keeps) (I.hok.kept keeps) I.bare λb z=>absurd z (by simp)) hex g h (Nq I hex new) (Le I.hok new) q u l r v
end
structure Nm (K:Yo) (C:Addr):Prop where
 q:PySem.W.excIn K C [.type "ValueError",.type "Exception",.type "BaseException",.type "object"] "ValueError.__new__"=true
def Nm.obj {K C h} (c:Nm K C) (k:K.In h):∃b N nm q bs hdct sn sub ab col dd k0 k1 k2 k3 k5 o,h.get? C=some (excClassObj nm q C N bs b hdct sn sub ab col dd k0 k1 k2 k3 k5 "ValueError.__new__")/\h.Ns N o/\o "__init__"=none/\
  OwnTail h [.type "ValueError",.type "Exception",.type "BaseException",.type "object"] b:=by
 have e:=c.q;unfold PySem.W.excIn at e;split at e
 next dd J sl z=>
  split at e
  next L b k0 k1 k2 k3 n k5 r p=>
   simp only[WN,beq_iff_eq,Bool.not_eq_true']at e;obtain⟨⟨⟨⟨⟨G,E⟩,v⟩,B⟩,g⟩,u⟩:=e;subst G E;have s:=k _ _ z;cases J with
   |mk nm bs y x w A sn sub ab col H=>
    simp only at r v g u
    have f:sl=#[k0,k1,k2,k3,some (.builtin "ValueError.__new__"),k5]:=by
     cases sl with
     |mk l=>simp only at p;rw[p]
    rw[r,v,f]at s;exact⟨b,x,nm,w,bs,A,sn,sub,ab,col,dd,k0,k1,k2,k3,k5,_,s,.of_isNs (PySem.W.isNs_of_in k g),PySem.W.nsMap_none_of_in k g u,PySem.W.tail_of_in k B⟩
  next=>cases e
 next=>cases e
abbrev TF:=L2.St->Hp->Str->(Str->Hp->Prop)->Prop
def PF(X:Cx)(es:Yy)(t:TF):Prop:=
 ∀(pins:Yr) (s:Shared) (f:L2.St) (H:Hp) (b:Str) (Q:Str->Hp->Prop),Inv X pins f H s->t f H b Q->
  wpAny (model X.prog X.w) X.A (joinParts b<|evalEach es X.env) (λu h=>∃x g,Inv X pins f g h/\RelV (.str x) u/\Q x g) X.xe s
section
variable {X:Cx}{e e1 e2:Expr}{es:Yy}{t:TF}{tv:TE}{pos:Pos}
noncomputable def CY:TF:=λ_ H b Q=>b.length<=sizeLine/\Q b H
noncomputable def Cp(x:Str)(t:TF):TF:=λf H b Q=>(b++x).length<=sizeLine/\t f H (b++x) Q
noncomputable def AL(tv:TE)(t:TF):TF:=λf H b Q=>tv f H λv g=>(∃i:Int,v=.int i/\i.natAbs.log2<1920/\(b++(Str.ofString<|toString i)).length<=sizeLine/\t f g (b++Str.ofString (toString i)) Q)\/
 ∃x:Str,v=.str x/\x.length<=sizeLine/\(b++x).length<=sizeLine/\t f g (b++x) Q
def Pm:PF X [] CY:=λpins s f H b Q I h=>joinParts_nilE (joinParts_nil ⟨b,H,I.tok _,⟨_,rfl⟩,h.2⟩ h.1)
def XO(h:PF X es t):PF X (.Constant (.str x) j pos::es) (Cp x t):=λpins s b H f Q I q=>
 joinParts_consE (joinParts_cons<|Calls.Constant_str ⟨q.1,h pins _ b H _ Q (I.tok _) q.2⟩)
def K8(z:PE X e tv)(h:PF X es t):PF X (.FormattedValue e (-1) none pos::es) (AL tv t):=λpins s b H y Q I q=>by
 refine joinParts_consE (joinParts_cons<|FormattedValue_plain<|thn (z pins s b H _ I q) ?_);rintro u C ⟨v,n,l,r,w⟩;rcases w with⟨i,rfl,A,g,f⟩|⟨x,rfl,hx,g,f⟩
 ·obtain⟨p,rfl⟩:=r;exact formatField_int_small A ⟨g,h pins _ b n _ Q (l.tok _) f⟩
 ·obtain⟨p,rfl⟩:=r;exact formatField_str (λB o=>⟨g,h pins _ b n _ Q (l.tok _) f⟩) hx
noncomputable def tF(t:TF):TE:=λb H Q=>t b H Str.empty λx f=>Q (.str x) f
def Pn(h:PF X (e1::e2::es) t):PE X (.JoinedStr (e1::e2::es) pos) (tF t):=λpins s b H Q I q=>
 JoinedStr_many (thn (h pins s b H _ _ I q) λu n ⟨x,l,g,r,f⟩=>⟨.str x,l,g,r,f⟩)
end
def Sv(X:Cx)(E:XK):Prop:=∀(pins:Yr) (f:L2.St) (H:Hp) (s:Shared) (C a:Addr) (b:Heap) (args:Yw),Inv X pins f H s->Heap.MadeExcOf s.heap b a (.ref C) args->E (.ref C) none H->X.xe (.ref a) {s with heap:=b}
noncomputable def FR(C:Addr)(E:XK)(t:TA):TS:=λ_ b H=>t b H λf g=>f.length<=sizeLine/\E (.ref C) none g
section
variable {X:Cx}{x:Str}{C:Addr}{E:XK}{e:Expr}{es:Yy}{t:TA}{p cpos pos:Pos}
def GS(c:Nm X.K C)(J:X.mg x=some (.ref C))(T:Sv X E)(M:X.calm=true)(Q:PA X (e::es) t)(L:autoParam (Gl X x) au_0)(o:autoParam ((x==("__debug__" : Str))=false) au_1)(u:autoParam (starEach (e::es) X.env=(false,eval e X.env)::starEach es X.env) au_0)(g:autoParam ((backTo cpos<|starEach es X.env).any (·.1)=false) au_0):PS X (.Raise (some<|.Call (.Name x p) (e::es) [] cpos) none pos) (FR C E t):=by
 intro pins s r H D I h;obtain⟨bm,N,nm,q,bs,hdct,sn,sub,ab,col,dd,k0,k1,k2,k3,k5,mN,Y,U,l,v⟩:=c.obj I.ok.mod.kin
 have b:(backTo cpos<|starEach (e::es) X.env).any (·.1)=false:=by
  rw[u];show(false || (backTo cpos<|starEach es X.env).any (·.1))=false;rw[g];rfl
 refine wpAny_Raise_call_subU (nm:=nm) (q:=q) (N:=N) (bs:=bs) (hdct:=hdct) (sn:=sn) (sub:=sub) (ab:=ab) (col:=col) (dd:=dd) (k0:=k0) (k1:=k1) (k2:=k2) (k3:=k3) (k5:=k5)
  PySem.F.excBase_ValueError (by decide +kernel) PySem.F.excBase_ValueError (v.hasType<|by decide +kernel) (I.ok.hd M) b l (XM I L J ⟨rfl,?_⟩ o)
 have w:=Q cpos pins s r H _ I h;rw[u]at w ⊢;refine Calls.evalArgs_plain (thn w ?_);rintro y z ⟨vs,H2,f,A,G,B⟩;refine⟨rfl,by rw[←A.length];exact G,f.bk _ _ Y,U.keeps f.bk,v.keeps f.bk,λh' a n=>?_⟩;exact T pins r H2 z C a h' y f n B
end
section
variable {P:Program}{w:World}{K:Yo}{mg:Ys}{base:Heap}{N ps:Yx}{qual x:Str}{scope:Scope}{f:Addr}{cd:Value}{A:Around}{outer:List Env}{s:Shared}{H:Hp}{E:XK}
def Kt:Sv (Uy (CXe P w) P w K mg base N qual scope f cd A outer s H E) E:=by
 intro pins l h o C a p args I m q;obtain⟨t,b,_,_⟩:=m.there;exact WD (Ip I rfl rfl rfl m.keeps m.new b rfl rfl rfl rfl) (λ_ n ⟨g,y⟩=>⟨a,g,C,none,h,rfl,y,q⟩) λ_ _ z=>z
def Kh:Xj (CXe P w) (Uy (CXe P w) P w K mg base N qual scope f cd A outer s H E) E:=by
 rintro pins l r p e o I ⟨a,T,C,b,h,rfl,y,q⟩;exact WD (Zak I rfl rfl rfl y) (λ_ n ⟨g,z⟩=>⟨a,g,C,b,h,rfl,z,q⟩) λ_ _ z=>z
def IY:PassesOwn (model P w) (Uy (CXe P w) P w K mg base N qual scope f cd A outer s H E).A (Uy (CXe P w) P w K mg base N qual scope f cd A outer s H E).env (Uy (CXe P w) P w K mg base N qual scope f cd A outer s H E).xe:=PassesOwn.leaving
def Def.okX {st k sp} (D:Own.Def K mg x st ps) (S:Ui N ps (Uc st)) (len:∀vs H Q E,sp vs H Q E->vs.length=ps.length)
  (g:∀f b A outer s H vs Q E,Uh k (A.deeper<|envOfC x (Uc st) s.heap.objs.size f b)->sp vs H Q E->
   ∃t,PSs (Uy (CXe P w) P w K mg base N x (Uc st) f b A outer s H E) (Uu st) t/\t {nx:=λ_ H'=>Q .non H',rt:=Q} (start N vs) H):Own.Callee P w K mg base (CXe P w) (k+1) x ps sp:=by
 obtain⟨f,z,F,q,r⟩:=D.ex;obtain⟨oc,y,kV,u,v,C,b,B,o,rfl,n,l⟩:=F.ex;exact⟨f,_,SK n l S len λA outer s H vs Q E p h=>g f b A outer s H vs Q E p h,q,F.kp,⟨_,n,rfl⟩,r⟩
end
end ExcR
namespace ExcR
open L2
open Sem (wp)
structure U3 (K:Yo) (C:Addr):Prop where
 c:Nm K C
 ga:PySem.W.findIn K (.ref C) "__getattribute__"=some (some<|.builtin "BaseException.__getattribute__")
 gt:PySem.W.findIn K (.ref C) "__getattr__"=some none
 cl:PySem.W.findIn K (.ref C) "__class__"=some (some<|.builtin "object.__class__")
 is:(PySem.W.clsIn K C).isSome=true
structure Xt (K:Yo) (C:Addr):Prop where
 obj:∀{h:Heap},K.In h->∃bm N nm q bs hdct sn sub ab col dd k0 k1 k2 k3 k5,h.get? C=some (excClassObj nm q C N bs bm hdct sn sub ab col dd k0 k1 k2 k3 k5 "ValueError.__new__")/\OwnTail h [.type "ValueError",.type "Exception",.type "BaseException",.type "object"] bm
 ga:PySem.W.findIn K (.ref C) "__getattribute__"=some (some<|.builtin "BaseException.__getattribute__")
 gt:PySem.W.findIn K (.ref C) "__getattr__"=some none
 cl:PySem.W.findIn K (.ref C) "__class__"=some (some<|.builtin "object.__class__")
 is:(PySem.W.clsIn K C).isSome=true
def U3.any {K:Yo}{C:Addr} (G:U3 K C):Xt K C:=
 ⟨λk=>by
  obtain⟨x,N,h,q,bs,b,g,sub,y,f,w,r,p,o,n,l,z,v,A,s,u⟩:=G.c.obj k;exact⟨x,N,h,q,bs,b,g,sub,y,f,w,r,p,o,n,l,v,u⟩,G.ga,G.gt,G.cl,G.is⟩
section
variable {prog:Program}{w:World}{A:Around}{E:Yt}{h:Heap}{g:Array GenState}{d:Drawn}{t:Nat}{os:OsState}{a C:Addr}{o:Obj}{K:Yo}
def R6{R:Result->Shared->Prop}(k:K.In h)(G:Xt K C)(hx:h.get? a=some o)(p:o.cls=.ref C)(hq:R (.ok<|.ret<|.ref C) ⟨h,g,d,t,os⟩) :
  codeAny (model prog w) A (.call (.builtin "getset_descriptor.__get__") ⟨[.builtin "object.__class__",.ref a,.ref C],[]⟩) R ⟨h,g,d,t,os⟩:=by
 obtain⟨v,N,y,q,bs,n,x,sub,Q,u,M,L,J,H,B,z,s,r⟩:=G.obj k;have f:(⟨h,g,d,t,os⟩:Shared).TypeIs (.builtin "object.__class__") "getset_descriptor":=Vl
 have l:(Value.ref C::v).contains (.type (".".intercalate ("object.__class__".cutAt '.').dropLast))=true:=by
  rw[F.owner_object_class,List.contains_cons,r.hasType (b:=true) (by decide +kernel)];rfl
 refine Vq F.slot_gs_get.plain F.entry_gs_get (F.slot_gs_get.check _ _ _ _ _ _ _ _ f (F.args_gs_get _ _ _) ?_)
 repeat (any_goals (first|assumption|(with_reducible refine QA hx ?_;rw[p])|(with_reducible refine wpAny_isSubtype_exc s ?_;rw[l])|wp_step))
 refine⟨Code.quiet_builtin _ (by decide +kernel),Qw F.entry_object_class ?_⟩
 repeat (any_goals (first|assumption|(with_reducible refine QA hx ?_;rw[p])|wp_step))
def G9{f:Tok}{Q:Fin->Shared->Prop}(k:K.In h)(G:Xt K C)(hx:h.get? a=some o)(b:o.cls=.ref C)(hq:Q (.done<|.ret<|.ref C) ⟨h,g,d,t,os⟩) :
  wpAny (model prog w) A (Builtin.«object.__getattribute__» ⟨[.ref a,.str "__class__" f],[]⟩) Q E ⟨h,g,d,t,os⟩:=by
 have l:(⟨h,g,d,t,os⟩:Shared).TypeIs (.builtin "object.__class__") "getset_descriptor":=Vl;have f1:=Vl;have p:=F.slot_gs_get.lookup;have n:=F.slot_gs_set.lookup;have L:=QD (M:=model prog w) k G.cl
 repeat (any_goals (first|assumption|(with_reducible refine QA hx ?_;rw[b])|with_reducible refine L.at ?_|wp_step))
 refine R6 k G hx b ?_
 repeat (any_goals (first|assumption|wp_step))
def RM{M:Model}{v:Value}{Q:Unit->Shared->Prop}(k:K.In h)(G:Xt K C)(hx:h.get? a=some o)(n:o.cls=.ref C)(hq:Q () ⟨h,g,d,t,os⟩) :
  wpAny M A (checkBuiltinCall "BaseException.__getattribute__" ⟨[.ref a,v],[]⟩) Q E ⟨h,g,d,t,os⟩:=by
 obtain⟨y,N,B,q,bs,l,z,sub,ab,x,dd,U,T,L,J,H,r,p⟩:=G.obj k;have f:(Value.ref C::y).contains (.type "BaseException")=true:=by rw[List.contains_cons,p.hasType (b:=true) (by decide +kernel)];rfl
 have u:builtinKind "BaseException.__getattribute__"=some .slot:=by decide +kernel
 have s:splitId "BaseException.__getattribute__"=some ("BaseException","__getattribute__"):=by decide +kernel
 have Y:=F.args_bexc_ga (.ref a) v;simp only[checkBuiltinCall,u,s];refine Wi ?_;unfold isInstance
 repeat (first|(with_reducible refine QA hx ?_;rw[n])|(with_reducible refine wpAny_isSubtype_exc r ?_;rw[f])|wp_step)
 exact hq
def Ie{n:Tok}{Q:Yt}(k:K.In h)(G:Xt K C)(hx:h.get? a=some o)(b:o.cls=.ref C)(hq:Q (.ref C) ⟨h,g,d,t,os⟩) :
  wpAny (model prog w) A (getAttrBy (.ref a) (.str "__class__" n) false) Q E ⟨h,g,d,t,os⟩:=by
 obtain⟨U,N,u,q,bs,f,s,sub,Y,p,T,B,z,y,x,v,J,H⟩:=G.obj k;have f0:=F.attrBase_ValueError.ga.bind (.ref a);have l:(Value.builtin "BaseException.__getattribute__" == Value.builtin "object.__getattribute__")=false:=by decide +kernel
 have r:(onTheHeap (Value.ref C)&&Value.builtin "BaseException.__getattribute__" == Value.builtin "object.__getattribute__")=false:=by rw[l];rfl
 have L:=QD (M:=model prog w) k G.ga;have L2:=QD (M:=model prog w) k G.gt
 repeat (any_goals (first|assumption|(with_reducible refine QA hx ?_;rw[b])|with_reducible refine L.at ?_|with_reducible refine L2.at ?_|wp_step))
 refine Vq F.attrBase_ValueError.ga.plain F.entry_bexc_ga (RM k G hx b<|G9 k G hx b ?_)
 repeat (any_goals (first|assumption|wp_step))
def MN{Q:Y0->Shared->Prop}(k:K.In h)(G:Xt K C)(hx:h.get? a=some o)(b:o.cls=.ref C)(hq:Q (some<|.ref C) ⟨h,g,d,t+1,os⟩) :
  wpAny (model prog w) A (getAttr? (.ref a) "__class__") Q E ⟨h,g,d,t,os⟩:=by
 unfold getAttr? getAttrBy?
 repeat (any_goals (first|assumption|with_reducible apply Ie k G hx b|wp_step))
end
end ExcR
namespace ExcR
open L2
noncomputable def UN(a C:Addr)(f:Y1):HO:=.ext λh=>∃o,h.get? a=some o/\(o.cls,o.dict)=(.ref C,f)/\∃b,o.data=.fields b
noncomputable abbrev Nr(a C:Addr):HO:=UN a C none
def Ed{h a T C f p}(x:Trc h a T (.ref C,f) p):ObjOk P w H h a (UN a C f):=by
 obtain⟨_,⟨o,g,b,r,q,_⟩,_⟩:=x;exact⟨⟨o,b,r,g,q⟩,⟨o,b⟩,λu s ⟨o1,n,l⟩ k=>⟨o1,k o1 n,l⟩⟩
def Mp{K M h C}(k:K.In h)(e:(PySem.W.clsIn K C).isSome=true):PySem.W.Looks M h (isType<|.ref C) true:=by
 unfold PySem.W.clsIn at e;split at e
 next f=>
  intro o l n g b q;exact Wi (wpAny_loadPart (b _ _<|k _ _ f)<|Wn q)
 grind
def HJ{K a C}(G:Xt K C):PySem.W.KitX K (.ref a) (.ref C) (λh=>∃o,h.get? a=some o/\o.cls=.ref C) where
 ty:=λM h _ ⟨o,h1,h2⟩=>h2▸(Vh h1).andThen .now
 it:=λM h k _=>Mp k G.is
 ne:=λh tp dd its n sl k htp=>by
  refine Vz.mpr λq=>?_;obtain⟨bm,N,nm,q,bs,hdct,sn,sub,ab,col,dd,k0,k1,k2,k3,k5,hC,_⟩:=G.obj k
  grind
 ca:=λ{prog w A E Q s} k ⟨o,h1,h2⟩ q=>by
  exact MN k G h1 h2 q
section
variable {X:Cx}
def MM:Xd X (.builtin "isinstance") (λxs H Q=>∃a C n c b,xs=[.ref a,c]/\H a=some (UN a C n)/\Xt X.K C/\(∃l,(∀u,RelV c u->u=l)/\PySem.W.kitOne X.K (.ref C) l=some b)/\Q (.bl b) H):=by
 intro pins s E H xs J Q I v h;obtain⟨a,C,n,c,b,rfl,y,G,⟨l,g,e⟩,q⟩:=h;cases v with
 |cons r w=>
  cases w with
  |cons x f=>
   cases f
   obtain rfl:=r;cases g _ x
   obtain⟨⟨o,B,A,_⟩,_⟩:=(I.hok a _ y);exact WS (HJ G) I.kIn ⟨o,B,(WG Prod.fst A)⟩ e (λz=>nomatch z) λp=>⟨.bl b,H,I.tok p,rfl,q⟩
def XY{K}(g:autoParam (X.K=K) au_0):Xd X (.builtin "isinstance") (λxs H Q=>∃a C h c b,xs=[.ref a,c]/\H a=some (UN a C h)/\Xt K C/\(∃f,(∀u,RelV c u->u=f)/\PySem.W.kitOne K (.ref C) f=some b)/\Q (.bl b) H):=by
 subst g;exact MM
end
def Km{H H'}{h v s}(u:Un fs [] H H' h v)(k:UU fs ex v s)(hx:∀b∈ex,h.get? b=none):Un fs [] H H' h s:=by
 have f:∀b o,h.get? b=some o->b∉ex:=λb o q z=>by rw[hx b z]at q;cases q
 refine⟨λb o q n r g=>k.keep b o (u.keep b o q n r g) r (f b o q),λb o q n x g=>?_,u.free,λb o q g=>?_,u.tups,u.frzs,u.tbls⟩
 ·obtain⟨sl,p⟩:=u.slot b o q n x g;obtain⟨l,w⟩:=k.slot b _ p (f b o q)
  grind
 ·obtain⟨o1,p⟩:=u.there b o q g;obtain⟨l,w⟩:=k.slot b _ p (f b o q)
  grind
noncomputable def Xa(X:Cx)(a:Addr):Cx:={X with A:=X.A.mark (some<|.ref a),calm:=false,xe:=λ_ _=>False}
noncomputable def Ku(X:Cx)(pins:Yr)(D:Ends)(h:ExceptHandler):Cx:=
 {X with pn:=X.pn++pins,xe:=λe g=>wpAny (model X.prog X.w) X.A (noteFrame e X.env) (λ_ f=>wpAny (model X.prog X.w) X.A (setFlight e none) (λ_ b=>wpAny (model X.prog X.w) X.A (handleBy e X.env [h]) (SP X pins D) X.xe b) X.xe f) X.xe g}
section
variable {X:Cx}{pins pins1:Yr}{σ:L2.St}{H H':Hp}{s s':Shared}{a T C:Addr}{D:Ends}{h0:ExceptHandler}
def Rq(o:X.Ok):(Xa X a).Ok:=⟨o.mod,o.kind,o.glob,o.blt,o.above,o.inj,o.has,o.cab,(λz=>nomatch z),o.frames,o.stk,o.exf,o.bs,o.bsz,o.noex,o.exfs,o.funs,o.frf⟩
def KL(I:Inv X pins σ H s):Inv (Xa X a) pins σ H s:=⟨Rq I.ok,I.os,I.bare,I.base,I.loc,I.cell,I.free,I.freeC,I.pin,I.hok,I.len⟩
def Np(o:X.Ok)(I:Inv (Xa X a) pins σ H s):Inv X pins σ H s:=⟨o,I.os,I.bare,I.base,I.loc,I.cell,I.free,I.freeC,I.pin,I.hok,I.len⟩
def GH(o:X.Ok):(Ku X pins D h0).Ok:=⟨o.mod,o.kind,o.glob,o.blt,o.above,o.inj,o.has,o.cab,o.hd,o.frames,o.stk,o.exf,o.bs,o.bsz,o.noex,o.exfs,o.funs,o.frf⟩
def GQ(o:(Ku X pins D h0).Ok):X.Ok:=⟨o.mod,o.kind,o.glob,o.blt,o.above,o.inj,o.has,o.cab,o.hd,o.frames,o.stk,o.exf,o.bs,o.bsz,o.noex,o.exfs,o.funs,o.frf⟩
def IQ(I:Inv X pins σ H s):Inv (Ku X pins D h0) [] σ H s:=⟨GH I.ok,I.os,I.bare,I.base,I.loc,I.cell,I.free,I.freeC,λp b=>I.pin p (by simpa [Ku]using b),I.hok,I.len⟩
def Ni(I:Inv (Ku X pins D h0) pins1 σ H s):Inv X pins σ H s:=⟨GQ I.ok,I.os,I.bare,I.base,I.loc,I.cell,I.free,I.freeC,λp b=>I.pin p (Q2 _ b),I.hok,I.len⟩
def Dl{h'}{tk}(I:Inv X pins σ H s)(hN:X.N.Nodup)(hi:X.N[i]?=some n)(hk:X.env.scope.names.lookup n=some .local)(hm:∀(i:Nat) x v,X.N[i]?=some x->σ[i]?=some (some v)->Vis X.env.scope x->∃u,RelV v u/\Look X.env s.heap m x u)(hn:s.heap.Ns X.env.locals m)(l:h'.Ns X.env.locals (λx=>if x=n then v else m x))(f:Heap.SameBut X.env.locals s.heap h'):Inv X pins (σ.set i none) H {s with heap:=h',toks:=tk}:=by
 have cne:=I.cne;have h:∀{b o},X.s₀.heap.get? b=some o->b≠X.env.locals:=λe=>W3 (Wz (Wo e) I.ok.above);refine⟨I.ok,I.os,I.bare,⟨λb o e n r hx=>(f.2 b<|h e).trans (I.base.keep b o e n r hx),λb o e n r hx=>?_,I.base.free,λb o e hx=>?_,I.base.tups,I.base.frzs,I.base.tbls⟩,⟨_,l,λj y J g E e3=>?_⟩,λy c e=>?_,I.free,I.freeC,λp hp=>?_,λb Q e=>?_,by simpa using I.len⟩
 ·obtain⟨sl,g⟩:=I.base.slot b o e n r hx;exact⟨sl,(f.2 b<|h e).trans g⟩
 ·obtain⟨U,g⟩:=I.base.there b o e hx;exact⟨U,(f.2 b<|h e).trans g⟩
 ·by_cases A:j=i
  ·grind
  ·rw[WY (Ne.symm A)]at E;obtain⟨L,M,q⟩:=hm j y J g E e3;refine⟨L,M,?_⟩;rcases q with⟨k,e⟩|⟨k,c,e,z⟩
   ·have hy:y≠n:=λz=>A (Bg hN g (z▸hi));exact .inl ⟨k,by simp[hy,e]⟩
   ·exact .inr ⟨k,c,e,z.sameBut f (cne y c e)⟩
 ·obtain⟨G,z⟩:=I.cell y c e;exact⟨G,z.sameBut f (cne y c e)⟩
 ·obtain⟨e,n,w,Y,d⟩:=I.pin p hp;exact⟨(f.2 p.1 w).trans e,n,w,Y,d⟩
 ·refine(I.hok b Q e).stay (λc u hc q=>(f.2 c ?_).trans q) (λ_ q=>q) λ_ _ q=>q;rintro rfl;have B:=I.free;rcases hc with z|z
  ·rw[←z,B]at e;cases e
  ·rw[B]at z;cases z
end
noncomputable def Do(i:Nat)(D:Ends):Ends:={nx:=λb H=>D.nx (b.set i none) H,rt:=D.rt,bk:=λb H=>D.bk (b.set i none) H,ct:=λb H=>D.ct (b.set i none) H}
noncomputable def hx(K:Yo)(h:Addr)(i:Nat)(f:TS)(D:Ends):L2.St->XK:=λb c g H=>∃C,c=.ref C/\PySem.W.exmOne K (.ref C) (.ref h)=some true/\
 ∀a,H a=none->f (Do i D) (b.set i<|some<|.ref a) (upd H a<|UN a C g)
def PD(CX:CXT)(X:Cx)(E:L2.St->XK):Prop:=∀(pins:Yr) (b:L2.St) (H:Hp) (s:Shared) (e:Value) (f:Shared),Inv X pins b H s->CX X.stack H s (E b) e f->X.xe e f
noncomputable def AI(sp:Sp)(E:L2.St->XK)(t:TA):TE:=λb H Q=>t b H λf g=>sp (f++[]) g Q (E b)
section
variable {X:Cx}{CX:CXT}{k:Nat}{ps:Yx}{sp:Sp}{E:L2.St->XK}{x:Str}{p pos:Pos}{e:Expr}{es:Yy}{t:TA}
def Az(C:Own.Callee X.prog X.w X.K X.mg X.base CX k x ps sp)(G:Uh k X.A)(J:PD CX X E)(ha:PA X (e::es) t)(T:autoParam (Gl X x) au_0)(v:autoParam ((x==("__debug__" : Str))=false) au_1)(U:autoParam (starEach (e::es) X.env=(false,eval e X.env)::starEach es X.env) au_0)(o:autoParam ((backTo pos<|starEach es X.env).any (·.1)=false) au_0) :
  PE X (.Call (.Name x p) (e::es) [] pos) (AI sp E t):=by
 obtain⟨f,fd,F,L,N,_,Y⟩:=C.ex;intro pins s l H Q I h;refine Qt (XM I T L ?_ v);refine Q8 I.ok.mod.kin N (thn (ha pos pins s l H _ I h) λg n ⟨z,y,b,r,q⟩=>⟨b.kIn,?_⟩) U o;have M:(g++[]).length=ps.length:=by rw[WL,←r.length,←F.len _ _ _ _ q,WL]
 refine wpAny_call (Qs (F.run X.A X.stack n y ⟨g,[]⟩ (g++[]) (z++[]) Q (E l) G b.env0 (Y n g b.kIn M) (by grind) q) λr B hq=>?_);cases r with
 |error e=>exact J pins l y n e B b hq
 |ok fl=>
  cases fl with
  |ret u=>exact b.after hq
  |next=>trivial
  |_=>exact False.elim hq
end
section
variable {X:Cx}{pins:Yr}{D:Ends}{x n:Str}{np hpos pos:Pos}{b0:Stmt}{suite body:Yz}{C0:Addr}{i:Nat}{ts:TS}
def Aa(B:X.stack=X.env::X.outer)(hfr:X.env.frame=some X.env.locals)(hN:X.N.Nodup)(hi:X.N[i]?=some n)(hk:X.env.scope.names.lookup n=some .local)(hg:Gl X x)(hm:X.mg x=some (.ref C0))(hdb:(x==("__debug__" : Str))=false)(hs:∀a,PSs (Xa X a) (b0::suite) ts):PD (CXe X.prog X.w) (Ku X pins D<|.ExceptHandler (some<|.Name x np) (some n) (b0::suite) hpos) (hx X.K C0 i ts D):=by
 rintro pins1 σ H s e s' I ⟨a,T,C,dx,p,rfl,y,C',ec,em,q⟩;obtain rfl:=Value.ref.inj ec;have I:=Ni I;have J:=I.call' y.os y.un y.hok y.bare λb z=>absurd z (by simp);have hF:=J.stack;have hA:=J.ok.frames;rw[B]at hF hA;refine NL hA hF hfr y.tr λh2 T2 Q tr2 k2=>?_
 have M:s.heap.get? T2=none:=by
  cases z:s.heap.get? T2 with
  |none=>rfl
  |some o=>
   obtain⟨o1,z1⟩:=y.un.there T2 o z (by simp);exact absurd (Wo z1) (QY.mpr Q)
 have U:=y.hok.fresh Q
 have u2:Un (frs X.stack) [] H p s.heap h2:=Km y.un (by rw[B];exact k2) λb g=>by
  rcases Wu.mp g with rfl|g
  ·exact y.na
  ·rw[Wm.mp g];exact y.nT
 have ok2:=XS y.hok k2 (λb g=>J.stkFree b (by rw[B];exact g)) λb g=>by
  rcases Wu.mp g with rfl|g
  ·exact y.fa
  ·rw[Wm.mp g];exact y.fT
 refine KF tr2 λh3 G k3=>?_;have u3:=Km u2 (k3.mono (by simp) λ_ z=>z) λb g=>by rw[Wm.mp g];exact M
 have L:=XS ok2 k3 (by simp) λb g=>by rw[Wm.mp g];exact U
 have J3:Inv X pins σ p {s' with heap:=h3}:=I.call' y.os u3 L y.bare λb z=>absurd z (by simp)
 have S3:Inv (Xa X a) pins σ p {s' with heap:=h3}:=KL J3
 refine Vs (Vm<|XM S3 hg hm ?_ hdb) (by intro z;cases z);obtain⟨_,⟨oe,vs,g1,g2,g3,g4⟩,_⟩:=id G;refine(PySem.W.exm_one J3.kIn ((show oe.cls=Value.ref C from WG Prod.fst g2)▸(Vh g1).andThen .now) em).here ?_
 refine codeAny_handlers_suite_as (KF G λh4 tr4 k4=>?_);have l:=Km u3 (k4.mono (by simp) λ_ z=>z) λb g=>by rw[Wm.mp g];exact M
 have u5:Un (frs X.stack) [] H (upd p a<|UN a C dx) s.heap h4:=by
  have ne:∀b o,s.heap.get? b=some o->b≠a:=λb o z w=>by rw[w,y.na]at z;cases z
  have r:∀b o,p b=some o->b≠a:=λb o z w=>by rw[w,y.fa]at z;cases z
  refine⟨l.keep,l.slot,λb o z n m=>by rw[Uj (ne b o z)];exact l.free b o z n m,l.there,λb xs z=>?_,λb o u z=>?_,λb ps z=>?_⟩
  ·rw[Uj (r b _<|l.tups b xs z)];exact l.tups b xs z
  ·rw[Uj (r b _<|l.frzs b o u z)];exact l.frzs b o u z
  ·obtain⟨more,z1⟩:=l.tbls b ps z;exact⟨more,by rw[Uj (r b _ z1)];exact z1⟩
 have ok5:HOk X.prog X.w (upd p a<|UN a C dx) h4:=λb ob e=>by
  by_cases g:b=a
  ·subst g;rw[Ur]at e;cases e
   exact Ed tr4
  ·rw[Uj g]at e;refine((XS L k4 (by simp) λb g=>by rw[Wm.mp g];exact U) b ob e).stay (λ_ _ _ z=>z) (λc z=>?_) λc xs z=>?_
   ·rw[Uj λw=>by rw[w,y.fa]at z;cases z];exact z
   ·rw[Uj λw=>by rw[w,y.fa]at z;cases z];exact z
 have J5:Inv X pins σ (upd p a<|UN a C dx) {s' with heap:=h4}:=I.call' y.os u5 ok5 y.bare λb z=>absurd z (by simp)
 have S5:Inv (Xa X a) pins σ (upd p a<|UN a C dx) {s' with heap:=h4}:=KL J5
 refine Te (X:=Xa X a) S5 hN hi (.inl hk) (v:=.ref a) rfl (λs6 S6=>?_) (.inr hk);refine WD (hs a pins s6 _ _ _ S6<|q a y.fa) (λf s7 h7=>?_) λ_ _ z=>z.elim
 have gone:∀{h:L2.St} {Y:Hp} {R:Unit->Shared->Prop},Inv (Xa X a) pins h Y s7->(∀s8,Inv X pins (h.set i none) Y s8->R () s8)->wpAny (model X.prog X.w) X.A (do bindName X.env n .none;unbindBehindTheSuite X.env n hpos) R X.xe s7:=λ{h Y R} E hR=>by
  obtain⟨m,hn,hl⟩:=id E.loc;exact wpAny_nameGoes_keeps hk hn (by rw[show X.env.scope.kind=.function from J5.ok.kind];rfl) λh8 v hn8 hs8=>hR _ (Dl (Np J5.ok E) hN hi hk hl hn hn8 hs8)
 cases f with
 |ret u=>obtain⟨v,h,Y,E,rv,q7⟩:=h7;exact gone E λs8 I8=>⟨v,_,_,I8,rv,q7⟩
 |_=>obtain⟨h,Y,E,q7⟩:=h7;exact gone E λs8 I8=>⟨_,_,I8,q7⟩
def Om{p:Ends->TS}(w:∀pins D,PSs (Ku X pins D<|.ExceptHandler (some<|.Name x np) (some n) (b0::suite) hpos) body (p D)) :
  PS X (.Try body [.ExceptHandler (some<|.Name x np) (some n) (b0::suite) hpos] [] [] pos) (λD l H=>p D D l H):=by
 intro pins s l H D I h;refine wpAny_Try_except (WD (w pins D [] s l H D (IQ I) h) (λf y o=>?_) λ_ _ z=>z);cases f with
 |next=>
  obtain⟨b,g,J,q⟩:=o;exact Wn ⟨b,g,Ni J,q⟩
 |ret u=>obtain⟨v,b,g,J,r,q⟩:=o;exact⟨v,b,g,Ni J,r,q⟩
 |_=>obtain⟨b,g,J,q⟩:=o;exact⟨b,g,Ni J,q⟩
end
noncomputable def Ud(b:Ys)(x:Str):Addr:=match b x with
 |some (.ref C)=>C
 |_=>0
def SG(h:b x=some (.ref C)):Ud b x=C:=by unfold Ud;rw[h]
def Xm{v pos}(h:∃u,X.mg x=some u/\RelV v u)(b:autoParam (Gl X x) au_0)(f:autoParam ((x==("__debug__" : Str))=false) au_1):PE X (.Name x pos) (tC v):=by
 obtain⟨u,l,g⟩:=h;exact Tt b l g f
def KP{C pos}(h:X.mg x=some (.ref C))(b:autoParam (Gl X x) au_0)(f:autoParam ((x==("__debug__" : Str))=false) au_1):PE X (.Name x pos) (tC<|.ref C):=Tt b h rfl f
end ExcR
namespace Own
open L2 M
section
variable {X:Cx}{pins:Yr}{σ:L2.St}{H:Hp}{s:Shared}
def AD{p:Int×Int}{its}(r:Vals [V.int p.1,V.int p.2] its):∃f b,its=[.int p.1 f,.int p.2 b]:=by
 cases r with
 |cons n g=>
  cases g with
  |cons l h=>
   cases h
   obtain⟨f,rfl⟩:=n;obtain⟨b,rfl⟩:=l
   grind
def M5{x y p q u v}(I:Inv X pins σ H s)(U:A.units<cLine)(L:RelV x u)(J:RelV y v)(Y:Xg H x p)(hq:Xg H y q):SeqAt.EqAt A s u v (decide (p=q)):=by
 obtain⟨a,rfl,C⟩:=Y;obtain⟨b,rfl,l⟩:=hq;obtain rfl:=L;obtain rfl:=J;by_cases n:a=b
 ·subst n;rw[C]at l
  have e:p=q:=by
   injection l with l;injection l with l;injection l with g f;injection f with f _;exact Prod.ext (V.int.inj g) (V.int.inj f)
  rw[Wx e];exact SeqAt.EqAt.same _
 ·obtain⟨_,T,N,G⟩:=(I.hok a _ C);obtain⟨_,Q,M,E⟩:=(I.hok b _ l);obtain⟨B,w,rfl⟩:=AD N;obtain⟨r,o,rfl⟩:=AD M
  have h:=SeqAt.RcAt.tuples (e:=λj=>if j=0 then p.1==q.1 else p.2==q.2) G E U (λj g f=>by
   have hj:j=0\/j=1:=by
    have h1':j<2:=g;lia
   rcases hj with rfl|rfl
   ·exact SeqAt.EqAt.int_int _ _ _ _
   ·exact SeqAt.EqAt.int_int _ _ _ _)
  have e:((List.range (min ([Value.int p.1 B,Value.int p.2 w].toArray).size ([Value.int q.1 r,Value.int q.2 o].toArray).size)).all (λj=>if j=0 then p.1==q.1 else p.2==q.2)&&([Value.int p.1 B,Value.int p.2 w].toArray).size==([Value.int q.1 r,Value.int q.2 o].toArray).size)=decide (p=q):=by
   show((List.range 2).all (λj=>if j=0 then p.1==q.1 else p.2==q.2)&&true)=decide (p=q);rw[Bool.and_true];have e2:(List.range 2).all (λj=>if j=0 then p.1==q.1 else p.2==q.2)=((p.1==q.1)&&(p.2==q.2)):=by simp[List.range,List.range.loop]
   rw[e2];by_cases g:p.1=q.1
   ·by_cases f:p.2=q.2
    ·rw[Wx (Prod.ext g f)];simp[g,f]
    ·rw[W9 (λz=>f (by rw[z]))];simp[f]
   ·rw[W9 (λz=>g (by rw[z]))];simp[g]
  rw[e]at h;exact SeqAt.EqAt.of_refs n h
noncomputable def eP(H:Hp)(q:Int×Int)(u:Value):Bool:=match u with
 | .ref a=>(match H a with
  |some (.tup [.int i,.int j])=>decide ((i,j)=q)
  |_=>false)
 |_=>false
def EE{p q}(h:Xg H v p)(r:RelV v u):eP H q u=decide (p=q):=by
 obtain⟨a,rfl,b⟩:=h;obtain rfl:=r;unfold eP;simp_all
theorem Bu:∀{vs us}{ps:Yp},Vals vs us->LV Xg H vs ps->us.any (eP H q)=decide (q∈ps)
 |_,_,[],.nil,_=>rfl
 |_,_,_::_,.nil,h|v::vs,u::us,[],.cons _ _,h=>absurd h.1 (by simp)
 |v::vs,u::us,p::ps,.cons r t,h=>by
  obtain⟨g,e,b⟩:=h.2 0 p rfl;cases e
  have f:LV Xg H vs ps:=⟨by simpa using h.1,λi x e=>h.2 (i+1) x e⟩;rw[QK,EE b r,Bu t f];by_cases l:p=q
  ·grind
  ·grind
noncomputable def Px(neg:Bool):R2:=λx y H Q=>∃(l:Addr) (b:Yp) (q:Int×Int),y=.ref l/\Xg H x q/\LAt Xg H l b/\Q (.bl (if neg then !decide (q∈b)else decide (q∈b))) H
theorem Bq{x v q}(I:Inv X pins σ H s)(g:A.units<cLine)(f:RelV x v)(hx:Xg H x q):∀{vs us}{ps:Yp},Vals vs us->LV Xg H vs ps->∀u∈us,SeqAt.EqAt A s u v (eP H q u)
 |_,_,_,.nil,_,u,b=>by cases b
 |w::vs,u::us,[],.cons _ _,h,_,_=>absurd h.1 (by simp)
 |w::vs,u::us,p::ps,.cons r t,h,l,b=>by
  obtain⟨o,e,hw⟩:=h.2 0 p rfl;cases e
  have n:LV Xg H vs ps:=⟨by simpa using h.1,λi x e=>h.2 (i+1) x e⟩;rcases Wu.mp b with rfl|b
  ·rw[EE hw r];exact M5 I g r f hw hx
  ·exact Bq I g f hx t n l b
def M7(p:X.A.in1.units<cLine):OpR X (compareOp .In) (Px false):=by
 intro pins s σ H x y v u Q I n g h;obtain⟨l,C,q,rfl,hx,⟨B,z,f⟩,k⟩:=h;cases g
 obtain⟨b,r,o,E⟩:=I.list (SqL.of z);refine SeqAt.in_listAt (eP H q) o.isList (λw hw=>Bq I p n hx r f w (by grind)) ⟨.bl _,H,I,rfl,?_⟩;rwa[show b.toArray.any (eP H q)=b.any (eP H q) by simp,Bu r f]
def M3(p:X.A.in1.units<cLine):OpR X (compareOp .NotIn) (Px true):=by
 intro pins s σ H x y v u Q I n g h;obtain⟨l,C,q,rfl,hx,⟨B,z,f⟩,k⟩:=h;cases g
 obtain⟨b,r,o,E⟩:=I.list (SqL.of z);refine SeqAt.notIn_listAt (eP H q) o.isList (λw hw=>Bq I p n hx r f w (by grind)) ⟨.bl _,H,I,rfl,?_⟩;rwa[show b.toArray.any (eP H q)=b.any (eP H q) by simp,Bu r f]
end
end Own
namespace M
open L2 Own
section
variable {α:Type}{R:Hp->V->α->Prop}{H:Hp}
noncomputable def pick(c:α->Bool)(d:V×α):Option V:=if c d.2=true then some d.1 else none
end
end M
namespace Own
open L2
section
variable {X:Cx}{K:Yo}
theorem E6:∀{bs}{us:Yw},Vals (bs.map V.bl) us->LSm.BoolsAre us bs
 |[],_,.nil=>.nil
 |b::r,_,.cons h t=>by
  cases h
  exact .cons b (E6 t)
noncomputable def Ad(K:Yo)(neg:Bool):R2:=λx y H Q=>∃(p q:Addr) (xs:List V),x=.ref p/\y=.ref q/\SqL K H p xs/\SqL K H q []/\Q (.bl (if neg then !xs.isEmpty else xs.isEmpty)) H
def RS(g:X.A.units<cLine)(C:autoParam (X.K=K) au_0):OpR X (compareOp .NotEq) (Ad K true):=by
 subst C;intro pins s G H x y v u Q I o n h;obtain⟨p,q,xs,rfl,rfl,B,hq,k⟩:=h;obtain rfl:=o;obtain rfl:=n;obtain⟨J,z,b,_⟩:=I.list B;obtain⟨l,w,p2,_⟩:=I.list hq;have M:=z.length;have L:0=l.length:=w.length;have f:=k;by_cases e:xs.length=0
 ·refine SeqAt.RcNeAt.lists (e:=λ_=>true) b.isList p2.isList (by simp;lia) g (λj N E=>by simp at E;lia) _ _ _ _ ⟨.bl (!xs.isEmpty),H,I,?_,f⟩;show _=Value.bool (!xs.isEmpty)
  grind
 ·refine SeqAt.RcNeAt.lists_lengths b.isList p2.isList (by simp;lia) g _ _ _ _ ⟨.bl (!xs.isEmpty),H,I,?_,f⟩;cases xs with
  |nil=>exact absurd rfl e
  |cons a r=>rfl
end
end Own
namespace M
open L2 Own
def AC(b:Yp)(r:Yq):Prop:=∀(i:Nat) (x y:Int),r[i]?=some x->r[i+1]?=some y->(x,y)∈b
structure Ring (hs:Yq) (ws:Yp) (r:Yq):Prop where
 two:2<=r.length
 nodup:r.Nodup
 sub:∀x∈r,x∈hs
 chain:AC ws r
 last:∀x y,r[0]?=some x->r[r.length-1]?=some y->(y,x)∈ws
def Ring.ahead (R:Ring g f r) {x} (hx:x∈r):∃y∈r,(y,x)∈f:=by
 obtain⟨i,h,e⟩:=List.mem_iff_getElem.mp hx;cases i with
 |zero=>
  have b:r.length-1<r.length:=by lia
  exact⟨r[r.length-1],WI b,R.last x _ (by grind) (Wj b)⟩
 |succ i=>
  have b:i<r.length:=by lia
  exact⟨r[i],WI b,R.chain i _ x (Wj b) (by grind)⟩
theorem AF:∀{xs ys:Yq},xs.Nodup->(∀x∈xs,x∈ys)->xs.length<=ys.length
 |[],_,_,_=>WV _
 |x::xs,ys,f,h=>by
  obtain⟨l,g⟩:=WX.mp f;have n:=AF g λz b=>(List.mem_erase_of_ne (λe:z=x=>l (e▸b))).mpr (h z<|W2 _ b)
  grind
end M
namespace M
def sl:Yq->Yq->Prop
 |x::xs,y::b=>x<y\/(x=y/\sl xs b)
 |_,_=>False
def Ti:sl (l::a) (l::b)↔sl a b:=by
 show(l<l\/(l=l/\sl a b))↔sl a b;constructor
 ·simp
 ·simp
noncomputable def Uq(g:Int):Yq->Int
 |[]=>g
 |x::t=>Uq x t
theorem Ko(g:Int):∀a b,Uq g (a++b)=Uq (Uq g a) b
 |[],b=>rfl
 |x::a,b=>Ko x a b
theorem Sg(g:Int):∀t,(g::t)[t.length]?=some (Uq g t)
 |[]=>rfl
 |x::t=>by
  exact Sg x t
def Path(C:Int->Prop)(b:Yp):Int->Yq->Prop
 |_,[]=>True
 |g,x::t=>C x/\(g,x)∈b/\Path C b x t
section
variable {C:Int->Prop}{ws:Yp}
theorem path_app:∀{g}{a b:Yq},Path C ws g (a++b)↔Path C ws g a/\Path C ws (Uq g a) b
 |g,[],b=>⟨λh=>⟨trivial,h⟩,λh=>h.2⟩
 |g,x::a,b=>by
  constructor
  ·rintro⟨n,l,f⟩
   have:=path_app.mp f
   exact⟨⟨n,l,this.1⟩,this.2⟩
  ·rintro⟨⟨n,l,f⟩,o⟩;exact⟨n,l,path_app.mpr ⟨f,o⟩⟩
theorem Cm:∀{g}{t:Yq},Path C ws g t->∀x∈t,C x
 |g,[],_,x,h=>by cases h
 |g,y::t,⟨f,_,b⟩,x,h=>by
  rcases Wu.mp h with rfl|h
  ·lia
  ·exact Cm b x h
theorem EJ:∀{g}{t:Yq},Path C ws g t->AC ws (g::t)
 |g,[],_=>λi x y n b=>by simp at b
 |g,z::t,⟨n,b,l⟩=>λi x y h f=>by
  cases i with
  |zero=>grind
  |succ i=>exact EJ l i x y h f
end
def Gr(b:Yq)(l:Int):Int->Prop:=λx=>x∈b/\l<x
def KO(f:Yq)(b:Yp)(l:Int)(t:Yq):Prop:=Path (Gr f l) b l t/\(Uq l t,l)∈b
theorem AB:∀{t:Yq},¬t.Nodup->∃a x b c,t=a++x::(b++x::c)
 |[],h=>absurd Q4 h
 |y::t,h=>by
  by_cases f:y∈t
  ·obtain⟨b,c,e⟩:=List.append_of_mem f;exact⟨[],y,b,c,by rw[e];rfl⟩
  ·obtain⟨a,x,b,c,e⟩:=AB λz=>h (WX.mpr ⟨f,z⟩)
   grind
def Cd{h l t}(w:∀q∈h,q.1≠q.2)(A:l∈n)(f:KO n h l t)(r:∀u,KO n h l u->t.length<=u.length):Ring n h (l::t):=by
 have p:t≠[]:=λz=>by
  have g:=f.2;rw[z]at g;exact w _ g rfl
 have s:=Cm f.1;refine⟨by have:=List.length_pos_iff.mpr p;simp;lia,WX.mpr ⟨λz=>absurd (s l z).2 (by lia),?_⟩,λx hx=>?_,EJ f.1,λx y o g=>?_⟩
 ·refine QR λz=>?_;obtain⟨a,x,b,c,e⟩:=AB z;have o:=f.1;rw[e]at o;obtain⟨v,p2⟩:=path_app.mp o
  have C:KO n h l (a++x::c):=by
   refine⟨path_app.mpr ⟨v,p2.1,p2.2.1,((path_app (a:=x::b)).mp p2).2.2.2⟩,?_⟩
   have B:Uq l (a++x::c)=Uq l t:=by
    rw[e,Ko,Ko];show Uq x c=Uq x (b++x::c);rw[Ko];rfl
   rw[B];exact f.2
  grind
 ·rcases Wu.mp hx with rfl|hx
  ·exact A
  ·exact(s x hx).1
 ·cases o
  simp only[QG,Nat.add_sub_cancel]at g;rw[(Sg l t)]at g;cases g
  exact f.2
end M
namespace Pu
open L2 Own
inductive D where
 |int (i:Int)|bl (b:Bool)|non|str (x:Str)|ty (n:String)|tup (ds:List D)|lst (ds:List D)|scr (ns:Yq)|dK (kvs:List (Key×V))|dT (kvs:List (List Key×V))|loc (a:Addr) (d:D)|err (C:Addr)|ref (a:Addr)|ins (C:Addr) (xs:Yx) (ds:List D)|dF (kvs:List (List Key×V))|erM (C:Addr) (r:Yq)|fL (ns:Yq)
mutual
inductive Rp (K:Yo) (H:Hp):D->V->Prop
 |int (i:Int):Rp K H (.int i) (.int i)
 |bl (b:Bool):Rp K H (.bl b) (.bl b)
 |non:Rp K H .non .non
 |str (x:Str):Rp K H (.str x) (.str x)
 |ty (n:String):Rp K H (.ty n) (.ty n)
 |tup {ds:List D} {vs:List V} {a:Addr}:H a=some (.tup vs)->Rps K H ds vs->Rp K H (.tup ds) (.ref a)
 |lst {ds:List D} {vs:List V} {a:Addr}:H a=some (.lst vs)->Rps K H ds vs->Rp K H (.lst ds) (.ref a)
 |scr {ns:Yq} {a:Addr}:SqL K H a (ns.map V.int)->Rp K H (.scr ns) (.ref a)
 |dK {kvs:List (Key×V)} {a:Addr}:H a=some (.dK kvs)->Rp K H (.dK kvs) (.ref a)
 |dT {kvs:List (List Key×V)} {a:Addr}:H a=some (.dT kvs)->Rp K H (.dT kvs) (.ref a)
 |dF {kvs:List (List Key×V)} {o:Obj} {a:Addr}:H a=some (.frz o<|.dT kvs)->Rp K H (.dF kvs) (.ref a)
 |loc {d:D} {a:Addr}:Rp K H d (.ref a)->Rp K H (.loc a d) (.ref a)
 |err {C a:Addr}:H a=some (ExcR.Nr a C)->Rp K H (.err C) (.ref a)
 |ref (a:Addr):Rp K H (.ref a) (.ref a)
 |erM {C a dx l:Addr} {o:Obj} {r:Yq}:H a=some (ExcR.UN a C<|some dx)->H dx=some (.xd [("members",.ref l)])->H l=some (.frz o<|.lst<|r.map V.int)->Rp K H (.erM C r) (.ref a)
 |fL {a:Addr} {o:Obj} {ns:Yq}:H a=some (.frz o<|.lst<|ns.map V.int)->Rp K H (.fL ns) (.ref a)
 |ins {C a dx:Addr} {xs:Yx} {ds:List D} {vs:List V}:H a=some (.ins C dx<|xs.zip vs)->xs.length=vs.length->Rps K H ds vs->Rp K H (.ins C xs ds) (.ref a)
inductive Rps (K:Yo) (H:Hp):List D->List V->Prop
 |nil:Rps K H [] []
 |cons {d:D} {v:V} {ds:List D} {vs:List V}:Rp K H d v->Rps K H ds vs->Rps K H (d::ds) (v::vs)
end
section
variable {K:Yo}{H H':Hp}
def Rp.mono (S:Same H H') {d:D}{v:V}:Rp K H d v->Rp K H' d v:=
 Rp.rec (motive_1:=λd v _=>Rp K H' d v) (motive_2:=λg f _=>Rps K H' g f) .int .bl .non .str .ty (λh _ r=>.tup (S _ _ h) r) (λh _ r=>.lst (S _ _ h) r) (λh=>.scr (S.seq h)) (λh=>.dK (S _ _ h)) (λh=>.dT (S _ _ h)) (λh=>.dF (S _ _ h)) (λ_ h=>.loc h) (λh=>.err (S _ _ h)) .ref (λa b c=>.erM (S _ _ a) (S _ _ b) (S _ _ c)) (λh=>.fL (S _ _ h)) (λh e _ r=>.ins (S _ _ h) e r) .nil λ_ _=>.cons
def Rps.mono (S:Same H H') {ds:List D}:∀{vs:List V},Rps K H ds vs->Rps K H' ds vs:=by
 induction ds with
 |nil=>intro _ h;cases h;exact .nil
 |cons _ _ f=>intro _ h;cases h with|cons a b=>exact .cons (Rp.mono S a) (f b)
def Rps.len:∀{ds}{vs:List V},Rps K H ds vs->vs.length=ds.length:=by
 intro ds
 induction ds with
 |nil=>
  intro _ h;cases h
  rfl
 |cons _ _ b=>
  intro _ h;cases h with
  |cons h r=>
   exact WG (· + 1) (b r)
def Rps.get:∀{ds vs}{i:Nat}{d:D},Rps K H ds vs->ds[i]?=some d->∃v,vs[i]?=some v/\Rp K H d v:=by
 intro ds
 induction ds with
 |nil=>
  intro _ i _ h e;simp at e
 |cons _ _ b=>
  intro _ i d h e;cases h with
  |cons h r=>
   cases i with
   |zero=>
    simp at e;subst e;exact⟨_,rfl,h⟩
   |succ i=>
    obtain⟨v,g,f⟩:=b r (by simpa using e);exact⟨v,by simpa using g,f⟩
def Rps.append:∀{ds es}{vs us:List V},Rps K H ds vs->Rps K H es us->Rps K H (ds++es) (vs++us):=by
 intro ds
 induction ds with
 |nil=>
  intro _ _ _ h s;cases h
  exact s
 |cons _ _ b=>
  intro _ _ _ h s;cases h with
  |cons h r=>
   exact .cons h (b r s)
theorem Rps.drop:∀{ds vs} n,Rps K H ds vs->Rps K H (ds.drop n) (vs.drop n)
 |_,_,0,r=>r
 |_,_,_+1,.nil=>.nil
 |_,_,n+1,.cons _ r=>Rps.drop n r
theorem Rps.take:∀{ds vs} n,Rps K H ds vs->Rps K H (ds.take n) (vs.take n)
 |_,_,0,_|_,_,_+1,.nil=>.nil
 |_,_,n+1,.cons h r=>.cons h (Rps.take n r)
end
mutual
noncomputable def imm:D->Bool
 | .tup b=>UH b
 | .lst _=>false
 | .scr _=>false
 | .dK _=>false
 | .dT _=>false
 | .loc _ _=>false
 | .err _=>false
 | .erM _ _=>false
 | .ins _ _ _=>false
 |_=>true
noncomputable def UH:List D->Bool
 |[]=>true
 |d::r=>imm d&&UH r
end
open Classical in
noncomputable def off(Z:Addr->Prop)(H:Hp):Hp:=λb=>if Z b then none else H b
section
variable {K:Yo}{H H':Hp}{Z Z':Addr->Prop}
def Xy(h:off Z H b=some o):H b=some o/\¬Z b:=by
 unfold off at h;by_cases z:Z b
 ·grind
 ·grind
def U1(h:H b=some o)(z:¬Z b):off Z H b=some o:=by
 unfold off
 grind
def Ul(S:Same H H')(g:∀b o,H b=some o->¬Z b->¬Z' b):Same (off Z H) (off Z' H'):=λb o h=>by
 obtain⟨f,l⟩:=Xy h;exact U1 (S b o f) (g b o f l)
def off_sub:Same (off Z H) H:=λ_ _ h=>(Xy h).1
def Rp.off (q:∀b,Z b->Mut (H b)) {d:D}{v:V}:Rp K H d v->imm d=true->Rp K (off Z H) d v:=by
 have g:∀{a o},H a=some o->¬Mut (some o)->Pu.off Z H a=some o:=λh n=>U1 h λz=>n (h▸q _ z);have f:∀{d} {P:Prop},imm d=false->imm d=true->P:=λh e=>by rw[h]at e;cases e
 exact Rp.rec (motive_1:=λd v _=>imm d=true->Rp K (Pu.off Z H) d v) (motive_2:=λl p _=>UH l=true->Rps K (Pu.off Z H) l p) (λi _=>.int i) (λb _=>.bl b) (λ_=>.non) (λx _=>.str x) (λn _=>.ty n) (λh _ r e=>.tup (g h id) (r<|by unfold imm at e;exact e)) (λ_ _ _=>f (by unfold imm;rfl)) (λ_=>f (by unfold imm;rfl)) (λ_=>f (by unfold imm;rfl)) (λ_=>f (by unfold imm;rfl)) (λh _=>.dF (g h id)) (λ_ _=>f (by unfold imm;rfl)) (λ_=>f (by unfold imm;rfl)) (λa _=>.ref a) (λ_ _ _=>f (by unfold imm;rfl)) (λh _=>.fL (g h id)) (λ_ _ _ _=>f (by unfold imm;rfl)) (λ_=>.nil) (λ_ _ a b e=>by
  unfold UH at e;rw[WN]at e;exact .cons (a e.1) (b e.2))
def Rps.off (g:∀b,Z b->Mut (H b)) {ds:List D}:∀{vs:List V},Rps K H ds vs->UH ds=true->Rps K (off Z H) ds vs:=by
 induction ds with
 |nil=>intro _ h _;cases h;exact .nil
 |cons _ _ f=>
  intro _ h e;unfold UH at e;rw[WN]at e;cases h with|cons a b=>exact .cons (Rp.off g a e.1) (f b e.2)
end
inductive O where
 |lst (ds:List D)|dK (kvs:List (Key×V))|dT (kvs:List (List Key×V))|ins (a C:Addr) (xs:Yx) (cs:List (Addr×List D))|lsA (a:Addr) (ds:List D)|nst (cs:List (Addr×List D))|nsl (a:Addr) (cs:List (Addr×List D))
instance:Coe (List D) O:=⟨O.lst⟩
noncomputable def O.d:O->D
 | .lst g=>.lst g | .dK b=>.dK b | .dT b=>.dT b | .ins _ C xs f=>.ins C xs (f.map λc=>.lst c.2) | .lsA _ g=>.lst g | .nst f=>.tup (f.map λc=>.lst c.2) | .nsl _ f=>.lst (f.map λc=>.lst c.2)
def O.adr (a:Addr):O->Addr->Prop
 | .lst _=>λb=>b=a
 | .dK _=>λb=>b=a
 | .dT _=>λb=>b=a
 | .ins x _ _ f=>λb=>b=x\/∃c∈f,b=c.1
 | .lsA x _=>λb=>b=x
 | .nst f=>λb=>∃c∈f,b=c.1
 | .nsl x f=>λb=>b=x\/∃c∈f,b=c.1
def OR(K:Yo)(F H:Hp)(a:Addr):O->Prop
 | .lst h=>∃b,H a=some (.lst b)/\Rps K F h b
 | .dK g=>H a=some (.dK g)
 | .dT g=>H a=some (.dT g)
 | .lsA x h=>a=x/\∃b,H a=some (.lst b)/\Rps K F h b
 | .ins x C xs f=>a=x/\xs.length=f.length/\(∃l,H a=some (.ins C l<|xs.zip (f.map λc=>V.ref c.1)))/\(∀c∈f,∃b,H c.1=some (.lst b)/\Rps K F c.2 b)/\(f.map (·.1)).Nodup
 | .nsl x f=>a=x/\H a=some (.lst (f.map λc=>V.ref c.1))/\(∀c∈f,∃b,H c.1=some (.lst b)/\Rps K F c.2 b)/\(x::f.map (·.1)).Nodup
 | .nst f=>F a=some (.tup (f.map λc=>V.ref c.1))/\(∀c∈f,∃b,H c.1=some (.lst b)/\Rps K F c.2 b)/\(f.map (·.1)).Nodup
def OR.mono {K F y H H'}{a o} (r:Same F y) (q:∀b,o.adr a b->∀x,H b=some x->H' b=some x) (h:OR K F H a o):OR K y H' a o:=by
 cases o with
 |lst A=>obtain⟨f,n,g⟩:=h;exact⟨f,q _ rfl _ n,Rps.mono r g⟩
 |lsA x A=>obtain⟨rfl,f,n,g⟩:=h;exact⟨rfl,f,q _ rfl _ n,Rps.mono r g⟩
 |nsl x w=>
  obtain⟨e,n,g,v⟩:=h;exact⟨e,q _ (.inl e) _ n,λc p=>let ⟨f,u,s⟩:=g c p;⟨f,q _ (.inr ⟨c,p,rfl⟩) _ u,Rps.mono r s⟩,v⟩
 |nst w=>
  obtain⟨n,g,v⟩:=h;exact⟨r _ _ n,λc p=>let ⟨f,u,s⟩:=g c p;⟨f,q _ ⟨c,p,rfl⟩ _ u,Rps.mono r s⟩,v⟩
 |ins x C xs w=>
  obtain⟨e,l,⟨z,n⟩,g,v⟩:=h;exact⟨e,l,⟨z,q _ (.inl e) _ n⟩,λc p=>let ⟨f,u,s⟩:=g c p;⟨f,q _ (.inr ⟨c,p,rfl⟩) _ u,Rps.mono r s⟩,v⟩
 |_=>exact q _ rfl _ h
theorem Kb{K F}:∀{b:List (Addr×List D)},(∀c∈b,∃vs,F c.1=some (.lst vs)/\Rps K F c.2 vs)->Rps K F (b.map λc=>.lst c.2) (b.map λc=>V.ref c.1)
 |[],_=>.nil
 |c::b,h=>let ⟨_,g,f⟩:=h c WR;.cons (.lst g f) (Kb λn l=>h n (W2 _ l))
def OR.rpIn {K F w H a o} (r:Same F w) (n:∀b,o.adr a b->∀x,H b=some x->w b=some x) (h:OR K F H a o):Rp K w o.d (.ref a):=by
 cases o with
 |lst A=>obtain⟨q,g,f⟩:=h;exact .lst (n _ rfl _ g) (Rps.mono r f)
 |dK v=>exact .dK (n _ rfl _ h)
 |dT v=>exact .dT (n _ rfl _ h)
 |lsA x A=>obtain⟨rfl,q,g,f⟩:=h;exact .lst (n _ rfl _ g) (Rps.mono r f)
 |nsl x z=>
  obtain⟨e,g,f,y⟩:=h;exact .lst (n _ (.inl e) _ g) (Kb λc p=>let ⟨q,u,s⟩:=f c p;⟨q,n _ (.inr ⟨c,p,rfl⟩) _ u,Rps.mono r s⟩)
 |nst z=>
  obtain⟨g,f,y⟩:=h;exact .tup (r _ _ g) (Kb λc p=>let ⟨q,u,s⟩:=f c p;⟨q,n _ ⟨c,p,rfl⟩ _ u,Rps.mono r s⟩)
 |ins x C xs z=>
  obtain⟨e,l,⟨B,g⟩,f,y⟩:=h;exact .ins (n _ (.inl e) _ g) (by grind) (Kb λc p=>let ⟨q,u,s⟩:=f c p;⟨q,n _ (.inr ⟨c,p,rfl⟩) _ u,Rps.mono r s⟩)
def OR.rp {K F H a o} (b:Same F H) (h:OR K F H a o):Rp K H o.d (.ref a):=h.rpIn b λ_ _ _ e=>e
def OR.mut {K F H a o} (h:OR K F H a o):∀b,o.adr a b->Mut (H b):=by
 cases o with
 |lst w=>obtain⟨s,g,p⟩:=h;intro b e;rw[show b=a from e,g];trivial
 |dK n=>intro b e;rw[show b=a from e,show H a=some (.dK n)from h];trivial
 |dT n=>intro b e;rw[show b=a from e,show H a=some (.dT n)from h];trivial
 |lsA x w=>obtain⟨rfl,s,g,p⟩:=h;intro b e;rw[show b=a from e,g];trivial
 |nsl x v=>
  obtain⟨e,g,p,u⟩:=h;intro b f;rcases f with f|⟨c,r,f⟩
  ·rw[show b=a from f.trans e.symm,g];trivial
  ·obtain⟨s,q,_⟩:=p c r;rw[f,q];trivial
 |nst v=>
  obtain⟨g,p,u⟩:=h;rintro b ⟨c,r,f⟩;obtain⟨s,q,_⟩:=p c r;rw[f,q];trivial
 |ins x C xs v=>
  obtain⟨e,l,⟨y,g⟩,p,u⟩:=h;intro b f;rcases f with f|⟨c,r,f⟩
  ·rw[show b=a from f.trans e.symm,g];trivial
  ·obtain⟨s,q,_⟩:=p c r;rw[f,q];trivial
inductive S where
 |bor (d:D)|sh (d:D)|own (o:O)|view (o:O)|tmp (d:D)
abbrev Γ:=List (Option S)
noncomputable def D.strip:D->D
 | .loc _ d=>d|d=>d
def Rp.strip {K H d v} (h:Rp K H d v):Rp K H d.strip v:=by
 cases h with
 |loc h=>exact h
 |int i=>exact .int i
 |bl b=>exact .bl b
 |non=>exact .non
 |str x=>exact .str x
 |ty n=>exact .ty n
 |tup h r=>exact .tup h r
 |lst h r=>exact .lst h r
 |scr h=>exact .scr h
 |dK h=>exact .dK h
 |dT h=>exact .dT h
 |dF h=>exact .dF h
 |err h=>exact .err h
 |ref a=>exact .ref a
 |erM l g f=>exact .erM l g f
 |fL h=>exact .fL h
 |ins h e r=>exact .ins h e r
noncomputable def S.d:S->D
 | .bor d=>d.strip | .sh d=>d | .own o=>o.d | .view o=>o.d | .tmp d=>d
noncomputable def arg(d:D):S:=match imm d with|true=>.sh d|false=>.bor d
noncomputable def Xb(d:D):S:=match imm d with|true=>.sh d|false=>.tmp d
noncomputable def S.sub:S->D->S
 | .bor _,e=>arg e | .tmp _,e=>Xb e | .own (.nst _),e=>Xb e | .view (.nst _),e=>Xb e | .own (.nsl _ _),e=>Xb e | .view (.nsl _ _),e=>Xb e|_,e=>.sh e
noncomputable def S.shd:S->Option D
 | .sh d=>some d | .own o=>some o.d
 | .bor d=>match imm d with|true=>some d|false=>none
 | .tmp d=>match imm d with|true=>some d|false=>none
 | .view _=>none
noncomputable def S.slot:S->Option S
 | .view _=>none | .bor d=>some (.bor d) | .sh d=>some (.sh d) | .own b=>some (.own b)
 | .tmp d=>match imm d with|true=>some (.sh d)|false=>none
def Er(γ:Γ)(g:L2.St)(b:Addr):Prop:=∃(i:Nat) (f:O) (a:Addr),γ[i]?=some (some<|.own f)/\g[i]?=some (some<|.ref a)/\f.adr a b
def zof(B:Addr->Prop)(γ:Γ)(f:L2.St):Addr->Prop:=λb=>B b\/Er γ f b
def SV(K:Yo)(Z:Addr->Prop)(f H:Hp):S->V->Prop
 | .bor d,v=>Rp K f d v
 | .sh d,v=>Rp K (off Z H) d v
 | .own o,v=>∃a,v=.ref a/\(∀b,o.adr a b->f b=none)/\OR K (off Z H) H a o
 |_,_=>False
def TV(K:Yo)(Z:Addr->Prop)(f H H':Hp):S->V->Prop
 | .bor d,v=>Rp K f d v
 | .sh d,v=>Rp K (off Z H') d v
 | .own o,v=>∃a,v=.ref a/\(∀b,o.adr a b->H b=none)/\OR K (off (λb=>Z b\/o.adr a b) H') H' a o
 | .view o,v=>∃a,v=.ref a/\OR K (off Z H') H' a o
 | .tmp d,v=>Rp K H' d v
structure Ue (K:Yo) (H0:Hp) (B:Addr->Prop) (H:Hp) (σ:L2.St) (γ:Γ):Prop where
 same:Same H0 H
 len:σ.length=γ.length
 bm:∀b,B b->Mut (H b)
 own:∀(i j:Nat) (a a':Addr) (ds es:O) (b:Addr),γ[i]?=some (some<|.own ds)->γ[j]?=some (some<|.own es)->σ[i]?=some (some<|.ref a)->σ[j]?=some (some<|.ref a')->ds.adr a b->es.adr a' b->i=j
 slot:∀(i:Nat) (s:S),γ[i]?=some (some s)->∃v,σ[i]?=some (some v)/\SV K (zof B γ σ) H0 H s v
section
variable {K:Yo}{H0 H H1 H':Hp}{B Z Z':Addr->Prop}{σ:L2.St}{γ:Γ}
def Xv(S:Same H H'){b}(h:Mut (H b)):Mut (H' b):=by
 cases e:H b with
 |none=>rw[e]at h;exact h.elim
 |some o=>rw[S b o e,←e];exact h
def Kv(h:Mut (H b)):∃o,H b=some o:=by
 cases e:H b with
 |none=>rw[e]at h;exact h.elim
 |some o=>grind
def Ue.grow (E:Ue K H0 B H σ γ) (S:Same H H'):Ue K H0 B H' σ γ where
 same:=E.same.trans S
 len:=E.len
 bm b h:=Xv S (E.bm b h)
 own:=E.own
 slot i s h:=by
  obtain⟨v,h1,h2⟩:=E.slot i s h;refine⟨v,h1,?_⟩;cases s with
  |bor d=>trivial
  |sh d=>exact Rp.mono (Ul S λ_ _ _ z=>z) h2
  |own ds=>
   obtain⟨a,e1,e3,e4⟩:=h2;exact⟨a,e1,e3,e4.mono (Ul S λ_ _ _ z=>z) λb _ x=>S b x⟩
  |_=>exact h2
def Ue.zm (E:Ue K H0 B H σ γ):∀b,zof B γ σ b->Mut (H b):=λb h=>by
 rcases h with h|⟨i,r,x,n,l,g⟩
 ·exact E.bm b h
 ·obtain⟨v,f,a,p,q,o⟩:=E.slot i _ n;rw[l]at f;cases f
  cases p
  exact o.mut b g
def TV.rp (b:Same H0 H') (h:TV K Z H0 H H' s v):Rp K H' s.d v:=by
 cases s with
 |bor d=>exact(Rp.mono b h).strip
 |sh d=>exact Rp.mono off_sub h
 |own f=>
  obtain⟨a,rfl,_,r⟩:=h;exact r.rp off_sub
 |view f=>
  obtain⟨a,rfl,r⟩:=h;exact r.rp off_sub
 |tmp d=>exact h
def TV.grow (f:Same H' H1) (h:TV K Z H0 H H' s v):TV K Z H0 H H1 s v:=by
 cases s with
 |bor d=>exact h
 |sh d=>exact Rp.mono (Ul f λ_ _ _ z=>z) h
 |own l=>
  obtain⟨a,rfl,g,r⟩:=h;exact⟨a,rfl,g,r.mono (Ul f λ_ _ _ z=>z) λb _ x=>f b x⟩
 |view l=>
  obtain⟨a,rfl,r⟩:=h;exact⟨a,rfl,r.mono (Ul f λ_ _ _ z=>z) λb _ x=>f b x⟩
 |tmp d=>exact Rp.mono f h
def TV.weak (o:Same H H1) (f:∀b,Z b->Z' b) (h:TV K Z' H0 H1 H' s v):TV K Z H0 H H' s v:=by
 cases s with
 |sh d=>exact Rp.mono (Ul (Same.refl _) λb _ _ z y=>z (f b y)) h
 |own n=>
  obtain⟨a,rfl,l,r⟩:=h;exact⟨a,rfl,λb g=>o.free (l b g),r.mono (Ul (Same.refl _) λb _ _ z y=>z (y.imp (f b) id)) λ_ _ _ q=>q⟩
 |view n=>
  obtain⟨a,rfl,r⟩:=h;exact⟨a,rfl,r.mono (Ul (Same.refl _) λb _ _ z y=>z (f b y)) λ_ _ _ q=>q⟩
 |_=>exact h
def TV.shd (o:Same H0 H') (l:∀b,Z b->Mut (H b)) (w:Same H H') (h:TV K Z H0 H H' s v) (e:s.shd=some d):Rp K (off Z H') d v:=by
 have f:=λb z=>Xv w (l b z);cases s with
 |bor g=>
  unfold S.shd at e;cases q:imm g with
  |false=>simp_all
  |true=>
   simp[q]at e;subst e;exact Rp.off f (Rp.mono o h) q
 |sh g=>cases e;exact h
 |own u=>
  cases e
  obtain⟨a,rfl,p,r⟩:=h;exact r.rpIn (Ul (Same.refl _) λb _ _ z y=>z (.inl y)) λb n x e=>U1 e λz=>by have:=l _ z;rw[p b n]at this;exact this
 |view u=>cases e
 |tmp g=>
  unfold S.shd at e;cases q:imm g with
  |false=>simp[q]at e
  |true=>
   simp[q]at e;subst e;exact Rp.off f h q
def K0(f:∀b,Z b->Mut (H' b))(g:Same H0 H')(h:Rp K H0 d v):TV K Z H0 H H' (arg d) v:=by
 unfold arg;cases q:imm d with
 |true=>exact Rp.off f (Rp.mono g h) q
 |false=>exact h
def X6(f:∀b,Z b->Mut (H' b))(h:Rp K H' d v):TV K Z H0 H H' (Xb d) v:=by
 unfold Xb;cases q:imm d with
 |true=>exact Rp.off f h q
 |false=>exact h
def Rp.lst_inv (h:Rp K H (.lst ds) v):∃a vs,v=.ref a/\H a=some (.lst vs)/\Rps K H ds vs:=by
 cases h with
 |lst h r=>grind
def Rp.tup_inv (h:Rp K H (.tup ds) v):∃a vs,v=.ref a/\H a=some (.tup vs)/\Rps K H ds vs:=by
 cases h with
 |tup h r=>grind
def TV.part (C:Same H0 H') (M:∀b,Z b->Mut (H b)) (N:Same H H') (h:TV K Z H0 H H' s v) :
  (∀ds,s.d=.lst ds->∃a vs,v=.ref a/\H' a=some (.lst vs)/\vs.length=ds.length/\∀(i:Nat) d,ds[i]?=some d->∃u,vs[i]?=some u/\TV K Z H0 H H' (s.sub d) u)/\
  (∀ds,s.d=.tup ds->∃a vs,v=.ref a/\H' a=some (.tup vs)/\vs.length=ds.length/\∀(i:Nat) d,ds[i]?=some d->∃u,vs[i]?=some u/\TV K Z H0 H H' (s.sub d) u):=by
 have l:=λb z=>Xv N (M b z);cases s with
 |bor d=>
  have h:=Rp.strip h;refine⟨λds e=>?_,λds e=>?_⟩<;>rw[show d.strip=_ from e]at h
  ·obtain⟨a,vs,rfl,h,r⟩:=Rp.lst_inv h;exact⟨_,_,rfl,C _ _ h,r.len,λi d e=>let ⟨u,g,f⟩:=r.get e;⟨u,g,K0 l C f⟩⟩
  ·obtain⟨a,vs,rfl,h,r⟩:=Rp.tup_inv h;exact⟨_,_,rfl,C _ _ h,r.len,λi d e=>let ⟨u,g,f⟩:=r.get e;⟨u,g,K0 l C f⟩⟩
 |sh d=>
  refine⟨λds e=>?_,λds e=>?_⟩<;>(have J:=e;subst J)
  ·obtain⟨a,vs,rfl,h,r⟩:=Rp.lst_inv h;exact⟨_,_,rfl,off_sub _ _ h,r.len,λi d e=>r.get e⟩
  ·obtain⟨a,vs,rfl,h,r⟩:=Rp.tup_inv h;exact⟨_,_,rfl,off_sub _ _ h,r.len,λi d e=>r.get e⟩
 |own q=>
  cases q with
  |lst q=>
   refine⟨λds e=>?_,λds e=>by cases e⟩;cases e
   obtain⟨a,rfl,G,vs,e,r⟩:=h;exact⟨a,vs,rfl,e,r.len,λi d e=>let ⟨u,g,f⟩:=r.get e;⟨u,g,Rp.mono (Ul (Same.refl _) λb _ _ z y=>z (.inl y)) f⟩⟩
  |lsA x q=>
   refine⟨λds e=>?_,λds e=>by cases e⟩;cases e
   obtain⟨a,rfl,G,_,vs,e,r⟩:=h;exact⟨a,vs,rfl,e,r.len,λi d e=>let ⟨u,g,f⟩:=r.get e;⟨u,g,Rp.mono (Ul (Same.refl _) λb _ _ z y=>z (.inl y)) f⟩⟩
  |nsl x L=>
   refine⟨λds e=>?_,λds e=>by cases e⟩;cases e
   obtain⟨a,rfl,G,_,A,w,E⟩:=h;have r:=Kb λc p=>let ⟨vs,o,n⟩:=w c p;⟨vs,o,Rps.mono off_sub n⟩;exact⟨a,_,rfl,A,r.len,λi d e=>let ⟨u,g,f⟩:=r.get e;⟨u,g,X6 l f⟩⟩
  |nst L=>
   refine⟨(λds e=>by cases e),λds e=>?_⟩;cases e
   obtain⟨a,rfl,G,A,w,E⟩:=h;have r:=Kb λc p=>let ⟨vs,o,n⟩:=w c p;⟨vs,o,Rps.mono off_sub n⟩;exact⟨a,_,rfl,off_sub _ _ A,r.len,λi d e=>let ⟨u,g,f⟩:=r.get e;⟨u,g,X6 l f⟩⟩
  |_=>exact⟨(λds e=>by cases e),(λds e=>by cases e)⟩
 |view q=>
  cases q with
  |lst q=>
   refine⟨λds e=>?_,λds e=>by cases e⟩;cases e
   obtain⟨a,rfl,vs,e,r⟩:=h;exact⟨a,vs,rfl,e,r.len,λi d e=>r.get e⟩
  |lsA x q=>
   refine⟨λds e=>?_,λds e=>by cases e⟩;cases e
   obtain⟨a,rfl,_,vs,e,r⟩:=h;exact⟨a,vs,rfl,e,r.len,λi d e=>r.get e⟩
  |nsl x L=>
   refine⟨λds e=>?_,λds e=>by cases e⟩;cases e
   obtain⟨a,rfl,_,A,w,E⟩:=h;have r:=Kb λc p=>let ⟨vs,o,n⟩:=w c p;⟨vs,o,Rps.mono off_sub n⟩;exact⟨a,_,rfl,A,r.len,λi d e=>let ⟨u,g,f⟩:=r.get e;⟨u,g,X6 l f⟩⟩
  |nst L=>
   refine⟨(λds e=>by cases e),λds e=>?_⟩;cases e
   obtain⟨a,rfl,A,w,E⟩:=h;have r:=Kb λc p=>let ⟨vs,o,n⟩:=w c p;⟨vs,o,Rps.mono off_sub n⟩;exact⟨a,_,rfl,off_sub _ _ A,r.len,λi d e=>let ⟨u,g,f⟩:=r.get e;⟨u,g,X6 l f⟩⟩
  |_=>exact⟨(λds e=>by cases e),(λds e=>by cases e)⟩
 |tmp d=>
  refine⟨λds e=>?_,λds e=>?_⟩<;>(have J:=e;subst J)
  ·obtain⟨a,vs,rfl,h,r⟩:=Rp.lst_inv h;exact⟨_,_,rfl,h,r.len,λi d e=>let ⟨u,g,f⟩:=r.get e;⟨u,g,X6 l f⟩⟩
  ·obtain⟨a,vs,rfl,h,r⟩:=Rp.tup_inv h;exact⟨_,_,rfl,h,r.len,λi d e=>let ⟨u,g,f⟩:=r.get e;⟨u,g,X6 l f⟩⟩
def Fr(B:Addr->Prop)(H:Hp)(σ:L2.St)(γ:Γ)(H':Hp)(f:L2.St)(g:Γ):Prop:=∀b o,H b=some o->¬zof B γ σ b->H' b=some o/\¬zof B g f b
def Fr.refl:Fr B H σ γ H σ γ:=λ_ _ h z=>⟨h,z⟩
def Fr.trans {H1 p g f n l} (a:Fr B H σ γ H1 g n) (b:Fr B H1 g n p f l):Fr B H σ γ p f l:=λx o h z=>let ⟨r,q⟩:=a x o h z;b x o r q
def Fr.grow (b:Same H H'):Fr B H σ γ H' σ γ:=λ_ _ h z=>⟨b _ _ h,z⟩
def Fr.off {H'}{σ'}{γ'} (f:Fr B H σ γ H' σ' γ'):Same (off (zof B γ σ) H) (Pu.off (zof B γ' σ') H'):=λb o h=>by
 obtain⟨p,n⟩:=Xy h;obtain⟨l,g⟩:=f b o p n;exact U1 l g
def Ux{b:Type}{l:List b}{i j}{x y}(h:(l.set i x)[j]?=some y):(j=i/\x=y/\i<l.length)\/(j≠i/\l[j]?=some y):=by grind
def Tx{b:Type}{l:List b}{i}{x}(h:i<l.length):(l.set i x)[i]?=some x:=by grind
def X3{b:Type}{l:List b}{i j}{x}(h:j≠i):(l.set i x)[j]?=l[j]?:=by grind
def Ue.drop (E:Ue K H0 B H σ γ) (i:Nat):Ue K H0 B H σ (γ.set i none)/\Fr B H σ γ H σ (γ.set i none):=by
 have p:∀b,zof B (γ.set i none) σ b->zof B γ σ b:=λb z=>z.imp id λ⟨j,l,a,g,f,u⟩=>by
  rcases Ux g with⟨_,e,_⟩|⟨_,e⟩
  ·grind
  ·exact⟨j,l,a,e,f,u⟩
 refine⟨⟨E.same,by rw[WA];exact E.len,E.bm,λk j a G l w b g f=>?_,λk s h=>?_⟩,λb o h z=>⟨h,λy=>z (p b y)⟩⟩
 ·rcases Ux g with⟨_,e,_⟩|⟨_,n⟩
  ·cases e
  ·rcases Ux f with⟨_,e,_⟩|⟨_,C⟩
   ·cases e
   ·exact E.own k j a G l w b n C
 ·rcases Ux h with⟨_,e,_⟩|⟨_,e⟩
  ·cases e
  ·obtain⟨v,g,f⟩:=E.slot k s e;refine⟨v,g,?_⟩;have r:Same (Pu.off (zof B γ σ) H) (Pu.off (zof B (γ.set i none) σ) H):=Ul (Same.refl _) λb _ _ z y=>z (p b y);cases s with
   |sh d=>exact Rp.mono r f
   |own l=>
    obtain⟨a,n,A,x⟩:=f;exact⟨a,n,A,x.mono r λ_ _ _ q=>q⟩
   |_=>exact f
def Ue.put {s L}{v} (E:Ue K H0 B H σ γ) (S1:Same H H') (h:TV K (zof B γ σ) H0 H H' s v) (e:s.slot=some L) (hi:i<γ.length) :
  Ue K H0 B H' (σ.set i<|some v) (γ.set i<|some L)/\Fr B H σ γ H' (σ.set i<|some v) (γ.set i<|some L):=by
 have n:i<σ.length:=by rw[E.len];exact hi
 have E':=E.grow S1
 have isown:∀f,L=.own f->s=.own f:=λf q=>by
  subst q;cases s with
  |own J=>cases e;rfl
  |tmp d=>unfold S.slot at e;cases q:imm d<;>simp[q]at e
  |_=>cases e
 have l:∀b,zof B (γ.set i<|some L) (σ.set i<|some v) b->zof B γ σ b\/∃f a,s=.own f/\v=.ref a/\f.adr a b:=λb z=>by
  rcases z with z|⟨j,f,a,h1,G,A⟩
  ·exact .inl (.inl z)
  ·rcases Ux h1 with⟨Y,g,_⟩|⟨T,g⟩
   ·subst Y;rw[Tx n]at G
    have:=Wv g
    exact .inr ⟨f,a,isown f this,Wv (Wv G),A⟩
   ·rw[X3 T]at G;exact .inl (.inr ⟨j,f,a,g,G,A⟩)
 have fresh:∀f a b,s=.own f->v=.ref a->f.adr a b->H b=none:=λf a b J ev p=>by
  subst J;obtain⟨a',g,e0,_⟩:=h;rw[ev]at g;cases g
  exact e0 b p
 have hz:∀b o,H b=some o->¬zof B γ σ b->¬zof B (γ.set i<|some L) (σ.set i<|some v) b:=λb o p z y=>by
  rcases l b y with y|⟨f,a,y1,y2,y3⟩
  ·exact z y
  ·rw[fresh f a b y1 y2 y3]at p;cases p
 have So:=Ul S1 hz;refine⟨⟨E'.same,by rw[WA,WA];exact E.len,E'.bm,λk j a a' f J b h1 G A M h5 h6=>?_,λk u hk=>?_⟩,λb o p z=>⟨S1 b o p,hz b o p z⟩⟩
 ·have Q:∀(k:Nat) f a b,γ[k]?=some (some<|.own f)->σ[k]?=some (some<|.ref a)->f.adr a b->∃o,H b=some o:=λk f a b g C e3=>by
   obtain⟨u,q1,a',N,_,q3⟩:=E.slot k _ g;rw[C]at q1;cases q1
   cases N
   exact Kv (q3.mut b e3)
  rcases Ux h1 with⟨ek,g,_⟩|⟨nk,g⟩
  ·rcases Ux G with⟨Y,C,_⟩|⟨T,C⟩
   ·rw[ek,Y]
   ·subst ek;rw[Tx n]at A;rw[X3 T]at M;obtain⟨o,U⟩:=Q j J a' b C M h6;rw[fresh f a b (isown f<|Wv g) (Wv<|Wv A) h5]at U;cases U
  ·rcases Ux G with⟨Y,C,_⟩|⟨T,C⟩
   ·subst Y;rw[Tx n]at M;rw[X3 nk]at A;obtain⟨o,U⟩:=Q k f a b g A h5;rw[fresh J a' b (isown J<|Wv C) (Wv<|Wv M) h6]at U;cases U
   ·rw[X3 nk]at A;rw[X3 T]at M;exact E.own k j a a' f J b g C A M h5 h6
 ·rcases Ux hk with⟨ek,g,_⟩|⟨nk,g⟩
  ·subst ek
   have:=(Wv g).symm
   subst this;refine⟨v,Tx n,?_⟩;cases s with
   |own f=>
    cases e
    obtain⟨a,rfl,e0,r⟩:=h;refine⟨a,rfl,λb p=>E.same.free (e0 b p),r.mono (Ul (Same.refl _) λb o _ z y=>?_) λ_ _ _ q=>q⟩;rcases l b y with y|⟨_,_,y1,y,y2⟩
    ·exact z (.inl y)
    ·cases y;cases y1;exact z (.inr y2)
   |sh d=>
    cases e
    refine Rp.mono (Ul (Same.refl _) λb o _ z y=>?_) h;rcases l b y with y|⟨_,_,y,_⟩
    ·exact z y
    ·cases y
   |bor d=>cases e;exact h
   |view d=>cases e
   |tmp d=>
    unfold S.slot at e;cases q:imm d with
    |false=>simp[q]at e
    |true=>
     simp[q]at e;subst e;refine Rp.off (λb y=>?_) h q;rcases l b y with y|⟨_,_,y,_⟩
     ·exact Xv S1 (E.zm b y)
     ·cases y
  ·obtain⟨w,q1,N⟩:=E.slot k u g;refine⟨w,by rw[X3 nk];exact q1,?_⟩;cases u with
   |sh d=>exact Rp.mono So N
   |own f=>
    obtain⟨a,g,e3,e4⟩:=N;exact⟨a,g,e3,e4.mono So λb _ x=>S1 b x⟩
   |_=>exact N
noncomputable def frz(i:Nat)(γ:Γ):Γ:=match γ[i]? with
 |some (some<|.own o)=>γ.set i (some<|.sh o.d)
 |_=>γ
def Ue.frz (E:Ue K H0 B H σ γ) (hB:∀b,B b->∃o,H0 b=some o) (i:Nat):Ue K H0 B H σ (frz i γ)/\Fr B H σ γ H σ (Pu.frz i γ):=by
 unfold Pu.frz;split
 ·rename_i p J
  have G:∀b,zof B (γ.set i<|some<|.sh p.d) σ b->zof B γ σ b:=λb z=>z.imp id λ⟨j,l,a,g,f,L⟩=>by
   rcases Ux g with⟨_,e,_⟩|⟨_,e⟩
   ·cases e
   ·exact⟨j,l,a,e,f,L⟩
  have C:Same (Pu.off (zof B γ σ) H) (Pu.off (zof B (γ.set i<|some<|.sh p.d) σ) H):=Ul (Same.refl _) λb _ _ z y=>z (G b y);refine⟨⟨E.same,by rw[WA];exact E.len,E.bm,λk j a A l r b g f=>?_,λk s h=>?_⟩,λb o h z=>⟨h,λy=>z (G b y)⟩⟩
  ·rcases Ux g with⟨_,e,_⟩|⟨_,n⟩
   ·cases e
   ·rcases Ux f with⟨_,e,_⟩|⟨_,w⟩
    ·cases e
    ·exact E.own k j a A l r b n w
  ·rcases Ux h with⟨T,e,_⟩|⟨Y,e⟩
   ·subst T
    have:=Wv e
    subst this;obtain⟨v,g,a,rfl,L,Q⟩:=E.slot k _ J;refine⟨_,g,Q.rpIn C λb N x f=>U1 f λz=>?_⟩;rcases z with z|⟨j,l,A,n,w,u⟩
    ·grind
    ·rcases Ux n with⟨_,q,_⟩|⟨M,q⟩
     ·cases q
     ·exact M (E.own j k A a l p b q J w g u N)
   ·obtain⟨v,g,f⟩:=E.slot k s e;refine⟨v,g,?_⟩;cases s with
    |sh d=>exact Rp.mono C f
    |own p=>
     obtain⟨a,n,u,U⟩:=f;exact⟨a,n,u,U.mono C λ_ _ _ q=>q⟩
    |_=>exact f
 ·exact⟨E,Fr.refl⟩
def Ue.change {o o'} (E:Ue K H0 B H σ γ) (M:γ[i]?=some (some<|.own o)) (A:σ[i]?=some (some<|.ref a))
  (N:∀b x,H b=some x->¬o.adr a b->H' b=some x) (hm:∀b,o.adr a b->Mut (H' b)) (l:∀b,o'.adr a b->o.adr a b\/H b=none) (r:OR K (Pu.off (zof B (γ.set i<|some<|.own o') σ) H') H' a o') :
  Ue K H0 B H' σ (γ.set i<|some<|.own o')/\Fr B H σ γ H' σ (γ.set i<|some<|.own o'):=by
 obtain⟨v,h1,a',rfl,h3,h4⟩:=E.slot i _ M;rw[A]at h1;cases h1
 have za:∀b,o.adr a b->zof B γ σ b:=λb C=>.inr ⟨i,o,a,M,A,C⟩
 have hz:∀b x,H b=some x->zof B (γ.set i<|some<|.own o') σ b->zof B γ σ b:=λb x hx z=>by
  rcases z with z|⟨j,fs,a',U,p,n⟩
  ·exact .inl z
  ·rcases Ux U with⟨T,q,_⟩|⟨_,e⟩
   ·subst T;cases q
    rw[A]at p;cases p
    rcases l b n with k|k
    ·exact za b k
    ·rw[k]at hx;cases hx
   ·exact .inr ⟨j,fs,a',e,p,n⟩
 have S1:=λb x h=>by
  obtain⟨g,f⟩:=Xy h;exact U1 (N b x g λk=>f (za b k)) λz=>f (hz b x g z)
 have J:∀(k:Nat) ds a b,γ[k]?=some (some<|.own ds)->σ[k]?=some (some<|.ref a)->ds.adr a b->∃o,H b=some o:=λk ds a b U p n=>by
  obtain⟨u,g,a',f,_,q3⟩:=E.slot k _ U;rw[p]at g;cases g
  cases f
  exact Kv (q3.mut b n)
 refine⟨⟨λb x h=>?_,by rw[WA];exact E.len,λb C=>?_,λk j x x' fs Q b U p n G e5 e6=>?_,λk s h=>?_⟩,λb x h z=>⟨?_,λy=>z (hz b x h y)⟩⟩
 ·exact N b x (E.same b x h) λk=>by rw[h3 b k]at h;cases h
 ·by_cases k:o.adr a b
  ·exact hm b k
  ·have:=E.bm b C
   obtain⟨x,hx⟩:=Kv this;rwa[N b x hx k,←hx]
 ·rcases Ux U with⟨Y,g,_⟩|⟨nk,g⟩
  ·rcases Ux p with⟨T,_,_⟩|⟨nj,f⟩
   ·rw[Y,T]
   ·subst Y;cases g
    rw[A]at n;cases n
    rcases l b e5 with w|w
    ·exact E.own k j _ _ _ _ b M f A G w e6
    ·obtain⟨u,L⟩:=J j Q x' b f G e6;rw[w]at L;cases L
  ·rcases Ux p with⟨T,f,_⟩|⟨nj,f⟩
   ·subst T;cases f
    rw[A]at G;cases G
    rcases l b e6 with w|w
    ·exact E.own k j _ _ _ _ b g M n A e5 w
    ·obtain⟨u,L⟩:=J k fs x b g n e5;rw[w]at L;cases L
   ·exact E.own k j x x' fs Q b g f n G e5 e6
 ·rcases Ux h with⟨Y,e,_⟩|⟨nk,e⟩
  ·subst Y
   have:=Wv e
   subst this;exact⟨_,A,a,rfl,λb C=>(l b C).elim (h3 b) λw=>E.same.free w,r⟩
  ·obtain⟨v,g,f⟩:=E.slot k s e;refine⟨v,g,?_⟩;cases s with
   |sh d=>exact Rp.mono S1 f
   |own fs=>
    obtain⟨x,rfl,n,G⟩:=f;exact⟨x,rfl,n,G.mono S1 λb C y p=>N b y p λw=>nk (E.own k i x a fs o b e M g A C w)⟩
   |_=>exact f
 ·exact N b x h λk=>z (za b k)
def Ue.mutate {i:Nat}{a:Addr}{ds es:O}{us:HO} (E:Ue K H0 B H σ γ) (u:γ[i]?=some (some<|.own ds)) (f:σ[i]?=some (some<|.ref a)) (w:Mut (some us)) (r:∀F H':Hp,Same (Pu.off (zof B γ σ) H) F->H' a=some us->OR K F H' a es)
  (k1:autoParam (ds.adr a=λb=>b=a) au_0) (k2:autoParam (es.adr a=λb=>b=a) au_0) :
  Ue K H0 B (upd H a us) σ (γ.set i<|some<|.own es)/\Fr B H σ γ (upd H a us) σ (γ.set i<|some<|.own es):=by
 refine E.change (o:=ds) (o':=es) u f (λb x h n=>by rw[Uj (λz=>n (by rw[k1];exact z))];exact h) (λb h=>by rw[k1]at h;rw[show b=a from h,Ur];exact w) (λb h=>.inl (by rw[k1];rw[k2]at h;exact h)) (r _ _ ?_ Ur)
 intro b x h;obtain⟨v,p⟩:=Xy h;have s:b≠a:=λz=>p (.inr ⟨i,ds,a,u,f,by rw[k1];exact z⟩);refine U1 (by rw[Uj s];exact v) λz=>p ?_;rcases z with z|⟨j,fs,C,A,l,g⟩
 ·exact .inl z
 ·rcases Ux A with⟨y,q,_⟩|⟨_,e⟩
  ·subst y;cases q
   rw[f]at l;cases l
   rw[k2]at g;exact absurd g s
  ·exact .inr ⟨j,fs,C,e,l,g⟩
end
end Pu
namespace Pu
open L2 Own
abbrev XR:=Str->Prop
noncomputable def eI:Int->Nat
 | .ofNat n=>2*n
 | .negSucc n=>2*n+1
noncomputable def dI(n:Nat):Int:=if n % 2=0 then .ofNat (n / 2)else .negSucc (n / 2)
def HF:∀i,dI (eI i)=i
 | .ofNat n=>by
  show dI (2*n)=_;unfold dI;simp
 | .negSucc n=>by
  show dI (2*n+1)=_;unfold dI;lia
noncomputable def NW(r:Yq):Str:=⟨(0::r.map eI).toArray⟩
noncomputable def Ml:Yv->Option (Yq)
 | 0::t=>some (t.map dI)
 |_=>none
noncomputable def Kf(x:Str):Option (Yq):=Ml x.cps.toList
def Hx(r:Yq):Kf (NW r)=some r:=by
 show some ((r.map eI).map dI)=some r;rw[Qk];congr 1
 conv=>rhs;rw[←List.map_id r]
 exact List.map_congr_left λi _=>HF i
def XE(b:Ys)(E:XK)(c:Str)(H':Hp):Prop:=match Kf c with
 |none=>E (.ref<|ExcR.Ud b c) none H'
 |some r=>∀(f l:Addr) (o:Obj),H' f=some (.xd [("members",.ref l)])->H' l=some (.frz o<|.lst<|r.map V.int)->E (.ref<|ExcR.Ud b "Ringed") (some f) H'
def XE.plain {c H'} (f:Kf c=none) (h:XE b E c H'):E (.ref<|ExcR.Ud b c) none H':=by
 unfold XE at h;simp_all
def XE.of {E c H'} (f:Kf c=none) (h:E (.ref<|ExcR.Ud b c) none H'):XE b E c H':=by
 unfold XE;simp_all
def XE.ofM {E r H'} (h:∀b l o,H' b=some (.xd [("members",.ref l)])->H' l=some (.frz o<|.lst<|r.map V.int)->E (.ref<|ExcR.Ud f "Ringed") (some b) H'):XE f E (NW r) H':=by
 unfold XE;rw[Hx];lia
abbrev PTE:=Γ->(S->Prop)->XR->Prop
abbrev PTT:=Γ->(Bool->Prop)->XR->Prop
abbrev PTA:=Γ->(List S->Prop)->XR->Prop
abbrev PTO:=Γ->(Option Int->Prop)->XR->Prop
structure X7 where
 nx:Γ->Prop
 rt:S->Prop
 ex:Γ->Str->Prop
 bk:Γ->Prop:=λ_=>False
 ct:Γ->Prop:=λ_=>False
 rv:Γ->D->Prop:=λ_ _=>False
abbrev PTS:=X7->Γ->Prop
abbrev PTG:=S->Γ->(Γ->Prop)->Prop
abbrev KJ:=List S->Γ->(Γ->Prop)->Prop
inductive TVs (K:Yo) (Z:Addr->Prop) (H0 H H':Hp):List S->List V->Prop
 |nil:TVs K Z H0 H H' [] []
 |cons {s:S} {v:V} {ss:List S} {vs:List V}:TV K Z H0 H H' s v->TVs K Z H0 H H' ss vs->TVs K Z H0 H H' (s::ss) (v::vs)
section
variable (K:Yo) (mg:Ys) (E:L2.St->XK)
def Ub(t:TE)(p:PTE):Prop:=∀(h:Hp) (B:Addr->Prop) (H:Hp) (f:L2.St) (g:Γ) (R:S->Prop) (X:XR) (Q:VK),Ue K h B H f g->p g R X->
 (∀s v b,R s->Same H b->TV K (zof B g f) h H b s v->Q v b)->(∀c b,X c->Same H b->XE mg (E f) c b)->t f H Q
def UF(t:TT)(p:PTT):Prop:=∀(l:Hp) (B:Addr->Prop) (H:Hp) (g:L2.St) (h:Γ) (R:Bool->Prop) (X:XR) (Q:Bool->Hp->Prop),Ue K l B H g h->p h R X->
 (∀b f,R b->Same H f->Q b f)->(∀c f,X c->Same H f->XE mg (E g) c f)->t g H Q
def Uv(t:TA)(p:PTA):Prop:=∀(n:Hp) (B:Addr->Prop) (H:Hp) (f:L2.St) (g:Γ) (R:List S->Prop) (X:XR) (Q:List V->Hp->Prop),Ue K n B H f g->p g R X->
 (∀l h b,R l->Same H b->TVs K (zof B g f) n H b l h->Q h b)->(∀c b,X c->Same H b->XE mg (E f) c b)->t f H Q
def Kx(t:TO)(p:PTO):Prop:=∀(h:Hp) (B:Addr->Prop) (H:Hp) (f:L2.St) (g:Γ) (R:Option Int->Prop) (X:XR) (Q:Option Int->Hp->Prop),Ue K h B H f g->p g R X->
 (∀o b,R o->Same H b->Q o b)->(∀c b,X c->Same H b->XE mg (E f) c b)->t f H Q
structure PQ (H0:Hp) (B:Addr->Prop) (H:Hp) (σ:L2.St) (γ:Γ) (R:X7) (D:Ends):Prop where
 nx:∀σ' γ' H',R.nx γ'->Ue K H0 B H' σ' γ'->Fr B H σ γ H' σ' γ'->D.nx σ' H'
 rt:∀s v H',R.rt s->Same H0 H'->TV K B H0 H0 H' s v->D.rt v H'
 ex:∀σ' γ' c H',R.ex γ' c->Ue K H0 B H' σ' γ'->Fr B H σ γ H' σ' γ'->XE mg (E σ') c H'
 bk:∀σ' γ' H',R.bk γ'->Ue K H0 B H' σ' γ'->Fr B H σ γ H' σ' γ'->D.bk σ' H'
 ct:∀σ' γ' H',R.ct γ'->Ue K H0 B H' σ' γ'->Fr B H σ γ H' σ' γ'->D.ct σ' H'
 rv:∀σ' γ' d v H',R.rv γ' d->Ue K H0 B H' σ' γ'->Fr B H σ γ H' σ' γ'->Rp K (off (zof B γ' σ') H') d v->D.rt v H'
def Uk(t:TS)(p:PTS):Prop:=∀(h:Hp) (B:Addr->Prop) (H:Hp) (f:L2.St) (g:Γ) (R:X7) (D:Ends),(∀b,B b->∃o,h b=some o)->Ue K h B H f g->p R g->PQ K mg E h B H f g R D->t D f H
end
section
variable {K:Yo}{mg:Ys}{E:L2.St->XK}{H0 H H1 H':Hp}{B Z Z':Addr->Prop}{σ:L2.St}{γ:Γ}
def TVs.weakG {H1 f}:∀{ss}{vs:List V},Same H H1->TVs K Z H0 H1 f ss vs->TVs K Z H0 H f ss vs:=by
 intro ss
 induction ss with
 |nil=>
  intro _ _ h;cases h
  exact .nil
 |cons _ _ g=>
  intro _ b h;cases h with
  |cons h r=>
   exact .cons (TV.weak b (λ_ z=>z) h) (g b r)
def TVs.rps (f:Same H0 H'):∀{ss}{vs:List V},TVs K Z H0 H H' ss vs->Rps K H' (ss.map S.d) vs:=by
 intro ss
 induction ss with
 |nil=>
  intro _ h;cases h
  exact .nil
 |cons _ _ b=>
  intro _ h;cases h with
  |cons h r=>
   exact .cons (h.rp f) (b r)
theorem TVs.shd {ds:List D} (l:Same H0 H') (g:∀b,Z b->Mut (H b)) (n:Same H H'):∀{f vs}{ds:List D},TVs K Z H0 H H' f vs->f.map S.shd=ds.map some->Rps K (off Z H') ds vs
 |_,_,[],.nil,_=>.nil
 |_,_,_::_,.nil,e|_,_,[],.cons _ _,e=>by cases e
 |_,_,d::ds,.cons h r,e=>by
  rw[WM,WM,List.cons.injEq]at e;exact .cons (h.shd l g n e.1) (TVs.shd (ds:=ds) l g n r e.2)
def Rp.int_inv (h:Rp K H (.int i) v):v=.int i:=by cases h;rfl
def Rp.bl_inv (h:Rp K H (.bl b) v):v=.bl b:=by cases h;rfl
def Rp.str_inv (h:Rp K H (.str x) v):v=.str x:=by cases h;rfl
def Rp.non_inv (h:Rp K H .non v):v=.non:=by cases h;rfl
def Rp.ty_inv (h:Rp K H (.ty n) v):v=.ty n:=by cases h;rfl
noncomputable def Nd(i:Nat):PTE:=λγ R _=>match γ[i]? with
 |some (some<|.own b)=>R (.view b)
 |some (some s)=>R s
 |_=>False
def Ug(i:Nat):Ub K mg E (Xh i) (Nd i):=by
 intro H0 B H σ γ R X Q b h q _;unfold Nd at h;split at h
 ·rename_i n e;obtain⟨v,f,a,rfl,p,l⟩:=b.slot i _ e;exact⟨_,f,q _ _ H h (Same.refl _) ⟨a,rfl,l⟩⟩
 ·rename_i s o e;obtain⟨v,f,g⟩:=b.slot i _ e;refine⟨v,f,q _ _ H h (Same.refl _) ?_⟩;cases s with
  |bor d|sh d=>exact g
  |own n=>grind
  |_=>exact g.elim
 ·grind
noncomputable def pC(d:D):PTE:=λ_ R _=>R (.sh d)
def KW(h:∀H,Rp K H d v):Ub K mg E (tC v) (pC d):=by
 intro H0 B H σ γ R X Q b p q _;exact q _ _ H p (Same.refl _) (h _)
def Uo:Ub K mg E (tC<|.int i) (pC<|.int i):=KW λ_=>.int i
def PP:Ub K mg E (tC<|.bl b) (pC<|.bl b):=KW λ_=>.bl b
def Ou:Ub K mg E (tC .non) (pC .non):=KW λ_=>.non
def UC:Ub K mg E (tC<|.str x) (pC<|.str x):=KW λ_=>.str x
def Kw:Ub K mg E (tC<|.ty n) (pC<|.ty n):=KW λ_=>.ty n
noncomputable def p2(a b:PTE)(f:S->S->(S->Prop)->Prop):PTE:=λγ R X=>a γ (λx=>b γ (λy=>f x y R) X) X
def Xu{A w a b f}(Y:Ub K mg E A a)(U:Ub K mg E w b)(N:∀H0 H h Z x y v u R Q,Same H0 h->Same H h->(∀b,Z b->Mut (H b))->TV K Z H0 H h x v->TV K Z H0 H h y u->f x y R->(∀s z H',R s->Same h H'->TV K Z H0 H H' s z->Q z H')->r v u h Q) :
  Ub K mg E (tOp r A w) (p2 a b f):=by
 intro H0 B H σ γ R X Q l p q C;refine Y H0 B H σ γ _ X _ l p (λx v H1 h1 n L=>?_) C;have g:=l.grow n;refine U H0 B H1 σ γ _ X _ g h1 (λy u h h2 o J=>?_) λc H' T S'=>C c H' T (n.trans S');exact N H0 H h _ x y v u R Q (g.same.trans o) (n.trans o) l.zm (L.grow o) (TV.weak n (λ_ z=>z) J) h2 λs z H' M S3 G=>q s z H' M ((n.trans o).trans S3) G
def fI0(g:Int->Int->D):S->S->(S->Prop)->Prop:=λx y R=>match x.d,y.d with
 | .int i,.int j=>R (.sh<|g i j)
 |_,_=>False
def fI(C:Int->Int->Prop)(g:Int->Int->D):S->S->(S->Prop)->Prop:=λx y R=>match x.d,y.d with
 | .int i,.int j=>C i j/\R (.sh<|g i j)
 |_,_=>False
def TJ{g'}{l f a b}(w:∀H i j,Rp K H (g' i j) (g i j))(A:Ub K mg E l a)(z:Ub K mg E f b):Ub K mg E (tOp (rI0 g) l f) (p2 a b<|fI0 g'):=by
 refine Xu A z λH0 H J Z x y v u R Q n L M s r h q=>?_;unfold fI0 at h;have p:=s.rp n;have o:=r.rp n;split at h
 ·rename_i i j G C;rw[G]at p;rw[C]at o;exact⟨i,j,p.int_inv,o.int_inv,q _ _ J h (Same.refl _) (w _ i j)⟩
 ·grind
def Nf{g r}{l f a b}(z:∀H i j,Rp K H (r i j) (g i j))(G:Ub K mg E l a)(A:Ub K mg E f b):Ub K mg E (tOp (rI C g) l f) (p2 a b<|fI C r):=by
 refine Xu G A λH0 H M Z x y v u R Q n N T w s h q=>?_;unfold fI at h;have p:=w.rp n;have o:=s.rp n;split at h
 ·rename_i i j L J;rw[L]at p;rw[J]at o;exact⟨i,j,p.int_inv,o.int_inv,h.1,q _ _ M h.2 (Same.refl _) (z _ i j)⟩
 ·grind
section
variable {ta tb tc:TE}{a b c:PTE}
def XC(g:Ub K mg E ta a)(f:Ub K mg E tb b):Ub K mg E (tOp (rI0 λi j=>.int (i+j)) ta tb) (p2 a b (fI0 λi j=>.int (i+j))):=TJ (λ_ _ _=>.int _) g f
def PZ(g:Ub K mg E ta a)(f:Ub K mg E tb b):Ub K mg E (tOp (rI CMul λi j=>.int (i*j)) ta tb) (p2 a b (fI CMul λi j=>.int (i*j))):=Nf (λ_ _ _=>.int _) g f
def X1(g:Ub K mg E ta a)(f:Ub K mg E tb b):Ub K mg E (tOp (rI SE λi j=>.int (i / j)) ta tb) (p2 a b (fI SE λi j=>.int (i / j))):=Nf (λ_ _ _=>.int _) g f
def US(g:Ub K mg E ta a)(f:Ub K mg E tb b):Ub K mg E (tOp (rI (λ_ j=>0<j) λi j=>.int (i % j)) ta tb) (p2 a b (fI (λ_ j=>0<j) λi j=>.int (i % j))):=Nf (λ_ _ _=>.int _) g f
def FH(g:Ub K mg E ta a)(f:Ub K mg E tb b):Ub K mg E (tOp (rI BE λi j=>.int (i ^ j.toNat)) ta tb) (p2 a b (fI BE λi j=>.int (i ^ j.toNat))):=Nf (λ_ _ _=>.int _) g f
def KE(g:Ub K mg E ta a)(f:Ub K mg E tb b):Ub K mg E (tOp (rI0 λi j=>.bl (decide (i<j))) ta tb) (p2 a b (fI0 λi j=>.bl (decide (i<j)))):=TJ (λ_ _ _=>.bl _) g f
def XB(g:Ub K mg E ta a)(f:Ub K mg E tb b):Ub K mg E (tOp (rI0 λi j=>.bl (decide (j<i))) ta tb) (p2 a b (fI0 λi j=>.bl (decide (j<i)))):=TJ (λ_ _ _=>.bl _) g f
def D1(g:Ub K mg E ta a)(f:Ub K mg E tb b):Ub K mg E (tOp (rI0 λi j=>.bl (decide (j<=i))) ta tb) (p2 a b (fI0 λi j=>.bl (decide (j<=i)))):=TJ (λ_ _ _=>.bl _) g f
def fEq(neg:Bool):S->S->(S->Prop)->Prop:=λx y R=>match x.d,y.d with
 | .int i,.int j=>R (.sh<|.bl (if neg then !decide (i=j)else decide (i=j)))
 | .str i,.str j=>R (.sh<|.bl (if neg then !decide (i=j)else decide (i=j)))
 | .bl i,.bl j=>R (.sh<|.bl (if neg then !decide (i=j)else decide (i=j)))
 |_,_=>False
def KU{g h:Type}[DecidableEq g][DecidableEq h]{f:g->h}(l:∀a b,f a=f b->a=b)(a b:g):decide (f a=f b)=decide (a=b):=by grind
def fIx:S->S->(S->Prop)->Prop:=λx y R=>match x.d,y.d with
 | .lst g,.int k=>∃d,atI g k=some d/\R (x.sub d)
 | .tup g,.int k=>∃d,atI g k=some d/\R (x.sub d)
 | .scr f,.int k=>∃i,atI f k=some i/\R (.sh<|.int i)
 | .fL f,.int k=>∃i,atI f k=some i/\R (.sh<|.int i)
 |_,_=>False
def DR{P:D->V->Prop}(f:vs.length=ds.length)(h:∀(i:Nat) d,ds[i]?=some d->∃u,vs[i]?=some u/\P d u)(e:atI ds k=some d):∃u,atI vs k=some u/\P d u:=by
 unfold atI at e ⊢;cases q:ixN ds.length k with
 |_=>grind
def Nb(ha:Ub K mg E ta a)(hb:Ub K mg E tb b):Ub K mg E (tOp (λx y H Q=>Pk K x y H Q\/Pb K x y H Q) ta tb) (p2 a b fIx):=by
 refine Xu ha hb λH0 H s Z x y v u R Q r s1 hm A Y h q=>?_;unfold fIx at h;have f:=Y.rp r;obtain⟨pl,pt⟩:=A.part r hm s1;split at h
 ·rename_i U k o n;rw[n]at f;obtain⟨d,T,g⟩:=h;obtain⟨l,w,rfl,M,L,J⟩:=pl U o;obtain⟨z,C,tz⟩:=DR L J T;exact .inl ⟨l,w,k,z,rfl,f.int_inv,SqL.of M,C,q _ _ s g (Same.refl _) tz⟩
 ·rename_i U k o n;rw[n]at f;obtain⟨d,T,g⟩:=h;obtain⟨l,w,rfl,M,L,J⟩:=pt U o;obtain⟨z,C,tz⟩:=DR L J T;exact .inr ⟨l,w,k,z,rfl,f.int_inv,SqT.of M,C,q _ _ s g (Same.refl _) tz⟩
 ·rename_i ns k o n;rw[n]at f;obtain⟨i,N,g⟩:=h;have p:=A.rp r;rw[o]at p;cases p with
  |scr G=>exact .inl ⟨_,_,k,.int i,rfl,f.int_inv,G,KH N,q _ _ s g (Same.refl _) (.int i)⟩
 ·rename_i ns k o n;rw[n]at f;obtain⟨i,N,g⟩:=h;have p:=A.rp r;rw[o]at p;cases p with
  |fL G=>exact .inl ⟨_,_,k,.int i,rfl,f.int_inv,.inl (.inr ⟨_,G⟩),KH N,q _ _ s g (Same.refl _) (.int i)⟩
 ·exact h.elim
noncomputable def Hi(a b:PTE):PTE:=λγ R X=>a γ (λx=>match x.d with | .bl c=>if c=true then b γ R X else R (.sh<|.bl false)|_=>False) X
noncomputable def Zar(a:PTE):PTE:=λγ R X=>a γ (λx=>match x.d with | .bl c=>R (.sh<|.bl (!c))|_=>False) X
def T4(C:Ub K mg E ta a)(A:Ub K mg E tb b):Ub K mg E (Dk ta tb) (Hi a b):=by
 intro H0 B H σ γ R X Q h p q r;refine C H0 B H σ γ _ X _ h p (λx v H1 n l w=>?_) r;have f:=h.grow l;have o:=w.rp f.same;split at n
 ·rename_i c J;rw[J]at o;refine⟨c,o.bl_inv,?_⟩;split at n
  ·rename_i g;rw[Wr g];exact A H0 B H1 σ γ _ X _ f n (λy u N G L s=>q y u N G (l.trans L) (TV.weak l (λ_ z=>z) s)) λc H' g M=>r c H' g (l.trans M)
  ·rename_i g;rw[Wq g];exact q _ _ H1 n l (.bl _)
 ·grind
def Rw(r:Ub K mg E ta a):Ub K mg E (CL ta) (Zar a):=by
 intro H0 B H σ γ R X Q f p q o;refine r H0 B H σ γ _ X _ f p (λx v H1 h l n=>?_) o;have g:=n.rp (f.grow l).same;split at h
 ·rename_i c s;rw[s]at g;exact⟨c,g.bl_inv,q _ _ H1 h l (.bl _)⟩
 ·grind
noncomputable def Ga(a:PTE):PTE:=λγ R X=>a γ (λx=>match x.d with | .int i=>R (.sh<|.int (-i))|_=>False) X
def KA(r:Ub K mg E ta a):Ub K mg E (tUn (rU λi=>.int (-i)) ta) (Ga a):=by
 intro H0 B H σ γ R X Q f p q o;refine r H0 B H σ γ _ X _ f p (λx v H1 h l n=>?_) o;have g:=n.rp (f.grow l).same;split at h
 ·rename_i c s;rw[s]at g;exact⟨c,g.int_inv,q _ _ H1 h l (.int _)⟩
 ·grind
noncomputable def K6(a:PTE):PTT:=λγ R X=>a γ (λx=>match x.d with | .bl c=>R c|_=>False) X
def X0(r:Ub K mg E ta a):UF K mg E (T7 ta) (K6 a):=by
 intro H0 B H σ γ R X Q f p q o;refine r H0 B H σ γ _ X _ f p (λx v H1 h l n=>?_) o;have g:=n.rp (f.grow l).same;split at h
 ·rename_i c s;rw[s]at g;exact⟨c,g.bl_inv,q _ H1 h l⟩
 ·grind
def TB(f:Ub K mg E ta a):UF K mg E (tB ta) (K6 a):=X0 f
variable {sa sb:TT}{pa pb:PTT}
noncomputable def EB(a b:PTT):PTT:=λγ R X=>a γ (λc=>if c=true then b γ R X else R false) X
noncomputable def pOr(a b:PTT):PTT:=λγ R X=>a γ (λc=>if c=true then R true else b γ R X) X
noncomputable def DN(a:PTT):PTT:=λγ R X=>a γ (λc=>R (!c)) X
def Ge(r:UF K mg E sa pa)(o:UF K mg E sb pb):UF K mg E (AJ sa sb) (EB pa pb):=by
 intro H0 B H σ γ R X Q f p q l;refine r H0 B H σ γ _ X _ f p (λc H1 n h=>?_) l;split at n
 ·rename_i g;rw[Wr g];exact o H0 B H1 σ γ _ X _ (f.grow h) n (λy w s u=>q y w s (h.trans u)) λc H' g v=>l c H' g (h.trans v)
 ·grind
def Af(r:UF K mg E sa pa)(o:UF K mg E sb pb):UF K mg E (tOr sa sb) (pOr pa pb):=by
 intro H0 B H σ γ R X Q f p q l;refine r H0 B H σ γ _ X _ f p (λc H1 n h=>?_) l;split at n
 ·grind
 ·rename_i g;rw[Wq g];exact o H0 B H1 σ γ _ X _ (f.grow h) n (λy w s u=>q y w s (h.trans u)) λc H' g v=>l c H' g (h.trans v)
def Dc(h:UF K mg E sa pa):UF K mg E (DU sa) (DN pa):=by
 intro H0 B H σ γ R X Q f p q g;exact h H0 B H σ γ _ X _ f p (λc H1 l n=>q _ H1 l n) g
noncomputable def Dx(c:PTT)(a b:PTE):PTE:=λγ R X=>c γ (λk=>if k=true then a γ R X else b γ R X) X
def MW(h:UF K mg E sa pa)(C:Ub K mg E ta a)(A:Ub K mg E tb b):Ub K mg E (tIf sa ta tb) (Dx pa a b):=by
 intro H0 B H σ γ R X Q g p q n;refine h H0 B H σ γ _ X _ g p (λc H1 s f=>?_) n;split at s
 ·rename_i o;rw[Wr o];exact C H0 B H1 σ γ _ X _ (g.grow f) s (λy u x r v l=>q y u x r (f.trans v) (TV.weak f (λ_ z=>z) l)) λc H' h w=>n c H' h (f.trans w)
 ·rename_i o;rw[Wq o];exact A H0 B H1 σ γ _ X _ (g.grow f) s (λy u x r v l=>q y u x r (f.trans v) (TV.weak f (λ_ z=>z) l)) λc H' h w=>n c H' h (f.trans w)
end
noncomputable def XF:PTA:=λ_ R _=>R []
noncomputable def UZ(a:PTE)(r:PTA):PTA:=λγ R X=>a γ (λs=>r γ (λb=>R (s::b)) X) X
def UO:Uv K mg E UK XF:=by
 intro H0 B H σ γ R X Q b p q _;exact q _ _ H p (Same.refl _) .nil
def Kc{a r}(x:Ub K mg E te a)(u:Uv K mg E l r):Uv K mg E (U7 te l) (UZ a r):=by
 intro H0 B H σ γ R X Q b p q g;refine x H0 B H σ γ _ X _ b p (λs v H1 z f o=>?_) g;refine u H0 B H1 σ γ _ X _ (b.grow f) z (λJ G C y h n=>?_) λc H' w A=>g c H' w (f.trans A);exact q _ _ C y (f.trans h) (.cons (o.grow h)<|TVs.weakG f n)
noncomputable def Th:List S->Option (List D)
 |[]=>some []
 |s::r=>match s.shd,Th r with
  |some d,some b=>some (d::b)
  |_,_=>none
theorem SQ:∀{ss}{ds:List D},Th ss=some ds->ss.map S.shd=ds.map some
 |[],ds,h=>by cases h;rfl
 |s::r,ds,h=>by
  unfold Th at h;split at h
  ·rename_i d g f b;cases h
   rw[WM,WM,f,SQ b]
  ·grind
noncomputable def BV(r:PTA):PTE:=λγ R X=>r γ (λf=>match Th f with|some b=>b.length<=1000/\R (.sh<|.tup b)|none=>False) X
noncomputable def A4(r:PTA):PTE:=λγ R X=>r γ (λf=>match Th f with|some b=>b.length<=1000/\R (.own b)|none=>False) X
def TK(h:n<=1000):n<=sizeLine:=QS (Za4 h)
def PN(y:Uv K mg E v r):Ub K mg E (Cf v) (BV r):=by
 intro H0 B H σ γ R X Q f p q x;refine y H0 B H σ γ _ X _ f p (λA u H1 g h w=>?_) x;split at g
 ·rename_i ds e;have b:=f.grow h;have rp:=w.shd (ds:=ds) b.same f.zm h (SQ e);refine⟨by rw[rp.len];exact TK g.1,λl n=>?_⟩;have s:=UJ (o:=.tup u) n;refine q _ _ _ g.2 (h.trans s) (.tup (U1 Ur λz=>?_)<|Rps.mono (Ul s λ_ _ _ z=>z) rp)
  have:=b.zm l z
  rw[n]at this;exact this
 ·grind
def K4{H H1 l vs ds}(h:Same H H1)(f:H1 l=none)(rp:Rps K (off Z H1) ds vs):TV K Z H0 H (upd H1 l<|.lst vs) (.own ds) (.ref l):=
 ⟨l,rfl,(λ_ e=>e▸h.free f),vs,Ur,Rps.mono (Ul (UJ f) λb o g z y=>y.elim z λe=>by rw[e,f]at g;cases g) rp⟩
def X2(u:Uv K mg E n r):Ub K mg E (SB n) (A4 r):=by
 intro H0 B H σ γ R X Q b p q s;refine u H0 B H σ γ _ X _ b p (λw v H1 g f o=>?_) s;split at g
 ·rename_i ds e;have rp:=o.shd (ds:=ds) (b.grow f).same b.zm f (SQ e);refine⟨by rw[rp.len];exact TK g.1,λl h=>?_⟩;exact q _ _ _ g.2 (f.trans<|UJ h) (K4 f h rp)
 ·grind
abbrev Pc:=List D->(S->Prop)->XR->Prop
noncomputable def Um(mg:Ys)(c:Pc)(K:Yo):Sp:=λg H Q E=>∃f R X,Rps K H f g/\c f R X/\(∀s v H',R s->Same H H'->TV K (λb=>Mut (H b)) H H H' s v->Q v H')/\∀e H',X e->Same H H'->XE mg E e H'
noncomputable def S.back:S->S
 | .bor d=>Xb d | .view o=>.tmp o.d|s=>s
def TV.back (env:Ue K H0 B H1 σ γ) (o:Same H H1) (f:Same H1 H') (h:TV K (λb=>Mut (H1 b)) H1 H1 H' s v):TV K (zof B γ σ) H0 H H' s.back v:=by
 cases s with
 |bor d=>exact X6 (λb z=>Xv f (env.zm b z)) (Rp.mono f h)
 |sh d=>exact Rp.mono (Ul (Same.refl _) λb _ _ z y=>z (env.zm b y)) h
 |own n=>
  obtain⟨a,rfl,l,r⟩:=h;exact⟨a,rfl,(λb g=>o.free (l b g)),r.mono (Ul (Same.refl _) λb _ _ z y=>z (y.imp (env.zm b) id)) λ_ _ _ q=>q⟩
 |view n=>
  obtain⟨a,rfl,r⟩:=h;exact r.rp off_sub
 |tmp d=>exact h
noncomputable def Cq(c:Pc)(r:PTA):PTE:=λγ R X=>r γ (λb=>c (b.map S.d) (λs=>R s.back) λ_=>False) X
noncomputable def Bb(c:Pc)(r:PTA):PTE:=λγ R X=>r γ (λb=>c (b.map S.d) (λs=>R s.back) X) X
def Kg{h r}(x:Uv K mg E h r):Ub K mg E (P5 (Um mg c K) [] E0 h) (Cq c r):=by
 intro H0 B H σ γ R X Q f p q u;refine x H0 B H σ γ _ X _ f p (λC A H1 y g o=>?_) u;rw[WL];have b:=f.grow g;exact⟨_,_,_,o.rps b.same,y,λs v H' w l n=>q _ _ H' w (g.trans l) (n.back b g l),λ_ _ z=>z.elim⟩
def Mu{n r l}(y:Uv K mg (λ_=>l) n r):Ub K mg (λ_=>l) (P5 (Um mg c K) [] l n) (Bb c r):=by
 intro H0 B H σ γ R X Q f p q o;refine y H0 B H σ γ _ X _ f p (λG C H1 A h w=>?_) o;rw[WL];have b:=f.grow h;exact⟨_,_,X,w.rps b.same,A,λs v H' x g u=>q _ _ H' x (h.trans g) (u.back b h g),λe H' z g=>o e H' z (h.trans g)⟩
def Ac{l r}(x:Uv K mg E l r):Ub K mg E (ExcR.AI (Um mg c K) E l) (Bb c r):=by
 intro H0 B H σ γ R X Q f p q n;refine x H0 B H σ γ _ X _ f p (λC A H1 z h u=>?_) n;rw[WL];have b:=f.grow h;exact⟨_,_,X,u.rps b.same,z,λs v H' w g o=>q _ _ H' w (h.trans g) (o.back b h g),λe H' y g=>n e H' y (h.trans g)⟩
def Ue.set {s b}{v} (g:Ue K H0 B H σ γ) (f:Same H H') (h:TV K (zof B γ σ) H0 H H' s v) (e:s.slot=some b) :
  Ue K H0 B H' (σ.set i<|some v) (γ.set i<|some b)/\Fr B H σ γ H' (σ.set i<|some v) (γ.set i<|some b):=by
 by_cases l:i<γ.length
 ·exact g.put f h e l
 ·rw[List.set_eq_of_length_le (by rw[g.len];lia),List.set_eq_of_length_le (by lia)];exact⟨g.grow f,Fr.grow f⟩
def Upd(f:Yv)(σ b:L2.St):Prop:=(∀j,j∉f->b[j]?=σ[j]?)/\b.length=σ.length
def Ky(K:Yo)(g:Yv)(t:TG)(p:PTG):Prop:=∀(H0:Hp) (B:Addr->Prop) (H H':Hp) (σ:L2.St) (γ:Γ) (s:S) (v:V) (R:Γ->Prop) (Q:L2.St->Hp->Prop),Ue K H0 B H σ γ->Same H H'->TV K (zof B γ σ) H0 H H' s v->p s γ R->
 (∀b f,R f->Ue K H0 B H' b f->Fr B H σ γ H' b f->Upd g σ b->Q b H')->t v σ H' Q
noncomputable def KD(i:Nat):PTG:=λs γ R=>match s.slot with|some b=>R (γ.set i<|some b)|none=>False
def XI(i:Nat):Ky K [i] (XW i) (KD i):=by
 intro H0 B H H' σ γ s v R Q b l f p q;unfold KD at p;split at p
 ·rename_i n e;obtain⟨h,f1⟩:=b.set l f e;exact q _ _ p h f1 ⟨λj g=>X3 λz=>g (by grind),WA⟩
 ·grind
noncomputable def Aj:KJ:=λb γ R=>match b with|[]=>R γ|_=>False
noncomputable def ED(g:PTG)(r:KJ):KJ:=λf γ R=>match f with|s::t=>g s γ λb=>r t b R|[]=>False
def TV.notown {σ'}{γ'}{Hb} (f:Fr B H σ γ H' σ' γ') (b:Same H H') (n:∀ds,s≠.own ds) (g:∀ds,s≠.view ds) (h:TV K (zof B γ σ) H0 Hb H s v):TV K (zof B γ' σ') H0 H' H' s v:=by
 cases s with
 |bor d=>exact h
 |sh d=>exact Rp.mono f.off h
 |tmp d=>exact Rp.mono b h
 |_=>grind
def TVs.notown (f:Fr B H σ γ H b g):∀{ss}{vs:List V},(∀s∈ss,∀ds,s≠.own ds/\s≠.view ds)->TVs K (zof B γ σ) H0 p H ss vs->TVs K (zof B g b) H0 H H ss vs:=by
 intro ss
 induction ss with
 |nil=>
  intro _ _ h;cases h
  exact .nil
 |cons _ _ l=>
  intro _ n h;cases h with
  |cons h r=>
   exact .cons (h.notown f (Same.refl _) (λds=>(n _ WR ds).1) λds=>(n _ WR ds).2) (l (λs o=>n s (W2 _ o)) r)
def Bf(d:D):arg d=.sh d\/arg d=.bor d:=by unfold arg;cases imm d<;>simp
def CH(d:D):Xb d=.sh d\/Xb d=.tmp d:=by unfold Xb;cases imm d<;>simp
def FI(s:S)(d:D):∀ds,s.sub d≠.own ds/\s.sub d≠.view ds:=λds=>by
 cases s with
 |bor b=>rcases Bf d with e|e<;>(show arg d≠_/\arg d≠_;rw[e];exact⟨(λz=>by cases z),(λz=>by cases z)⟩)
 |tmp b=>rcases CH d with e|e<;>(show Xb d≠_/\Xb d≠_;rw[e];exact⟨(λz=>by cases z),(λz=>by cases z)⟩)
 |sh b=>exact⟨(λz=>by cases z),(λz=>by cases z)⟩
 |own b|view b=>
  cases b with
  |nst f|nsl a f=>rcases CH d with e|e<;>(show Xb d≠_/\Xb d≠_;rw[e];exact⟨(λz=>by cases z),(λz=>by cases z)⟩)
  |_=>exact⟨(λz=>by cases z),(λz=>by cases z)⟩
def Pv(K:Yo)(n:Yv)(t:TGs)(p:KJ):Prop:=∀(H0:Hp) (B:Addr->Prop) (H:Hp) (σ:L2.St) (γ:Γ) (g:List S) (h:List V) (R:Γ->Prop) (Q:L2.St->Hp->Prop),Ue K H0 B H σ γ->TVs K (zof B γ σ) H0 H H g h->(∀s∈g,∀l,s≠.own l/\s≠.view l)->p g γ R->
 (∀b f,R f->Ue K H0 B H b f->Fr B H σ γ H b f->Upd n σ b->Q b H)->t h σ H Q
def LR:Pv K [] DW Aj:=by
 intro H0 B H σ γ h g R Q b f l p q;cases f with
 |nil=>exact⟨rfl,q _ _ p b Fr.refl ⟨λ_ _=>rfl,rfl⟩⟩
 |cons _ _=>exact p.elim
def Mb{g r w v}(T:Ky K M g w)(N:Pv K L r v):Pv K (M++L) (BS g r) (ED w v):=by
 intro H0 B H σ γ ss vs R Q u G x p q;cases G with
 |nil=>exact p.elim
 |cons h t=>
  refine⟨_,_,rfl,T H0 B H H σ γ _ _ _ _ u (Same.refl _) h p λf n J e1 f1 A=>?_⟩;refine N H0 B H f n _ _ _ _ e1 (TVs.notown f1 (λs o=>x s (W2 _ o)) t) (λs o=>x s (W2 _ o)) J λb l p2 Y U y=>?_;exact q b l p2 Y (f1.trans U) ⟨λj C=>(y.1 j λz=>C (W6 _ z)).trans (A.1 j λz=>C (Q2 _ z)),y.2.trans A.2⟩
noncomputable def N5(n:Nat)(r:KJ):PTG:=λs γ R=>match s.d with | .tup b=>b.length=n/\r (b.map s.sub) γ R|_=>False
theorem TVs.of_part {ds:List D}{s:S}:∀{vs}{ds:List D},vs.length=ds.length->(∀(i:Nat) d,ds[i]?=some d->∃u,vs[i]?=some u/\TV K Z H0 H H' (s.sub d) u)->TVs K Z H0 H H' (ds.map s.sub) vs
 |[],[],_,_=>.nil
 |[],_::_,e,_|_::_,[],e,_=>by cases e
 |v::vs,d::ds,e,h=>by
  obtain⟨u,f,b⟩:=h 0 d rfl;cases f
  exact .cons b (TVs.of_part (ds:=ds) (by grind) λi g l=>by simpa using h (i+1) g (by grind))
def L7{x r w}(G:Pv K x r w):Ky K x (ND K n r) (N5 n w):=by
 intro H0 B H H' σ γ s v R Q f o z p q;unfold N5 at p;have b:=f.grow o;obtain⟨_,pt⟩:=z.part b.same f.zm o;split at p
 ·rename_i ds e;obtain⟨a,u,rfl,L,y,J⟩:=pt ds e;refine⟨a,u,rfl,SqT.of L,y.trans p.1,?_⟩;refine G H0 B H' σ γ _ u R Q b (TVs.notown (Fr.refl) (λA l ds=>?_)<|TVs.of_part (ds:=ds) y J) (λA l ds=>?_) p.2 λg h M N f1 C=>q g h M N (Fr.trans (Fr.grow o) f1) C
  ·obtain⟨d,_,rfl⟩:=WT.mp l;exact FI s d ds
  ·obtain⟨d,_,rfl⟩:=WT.mp l;exact FI s d ds
 ·grind
def PQ.from {D o p} (e:PQ K mg E H0 B H σ γ R D) (f:Fr B H σ γ H1 o p):PQ K mg E H0 B H1 o p R D:=
 ⟨λb g H' n l h=>e.nx b g H' n l (f.trans h),e.rt,λb g c H' n l h=>e.ex b g c H' n l (f.trans h),λb g H' n l h=>e.bk b g H' n l (f.trans h),λb g H' n l h=>e.ct b g H' n l (f.trans h),λb g d v H' n l h=>e.rv b g d v H' n l (f.trans h)⟩
variable {te:TE}{a:PTE}{tt:TT}{c:PTT}{t u:TS}{p q:PTS}
noncomputable def Ex:PTS:=λR γ=>R.nx γ
def DH:Uk K mg E Da Ex:=λ_ _ _ _ _ _ _ _ b h e=>e.nx _ _ _ h b Fr.refl
noncomputable def Aq(p q:PTS):PTS:=λR γ=>p {R with nx:=q R} γ
def Df(n:Uk K mg E t p)(hq:Uk K mg E u q):Uk K mg E (Fe t u) (Aq p q):=by
 intro H0 B H σ γ R D l g h e;refine n H0 B H σ γ _ _ l g h ⟨λb f H' o r f1=>?_,e.rt,e.ex,e.bk,e.ct,e.rv⟩;exact hq H0 B H' b f R D l r o (e.from f1)
structure DQ (p q:PTS) (R:X7) (γ:Γ):Prop where
 w:∃J:Γ->Prop,p {R with nx:=J} γ/\∀γ',J γ'->q R γ'
noncomputable def AZ(p q:PTS):PTS:=λR γ=>DQ p q R γ
def OU(r:Uk K mg E t p)(hq:Uk K mg E u q):Uk K mg E (D9 t u) (AZ p q):=by
 intro H0 B H σ γ R D o l h e;obtain⟨J,h,k⟩:=h.w;refine⟨λf H'=>∃b,J b/\Ue K H0 B H' f b/\Fr B H σ γ H' f b,r H0 B H σ γ _ _ o l h ⟨λf b H' g n f1=>⟨b,g,n,f1⟩,e.rt,e.ex,e.bk,e.ct,e.rv⟩,?_⟩;rintro f H' ⟨b,g,n,f1⟩;exact hq H0 B H' f b R D o n (k b g) (e.from f1)
noncomputable def FK(i:Nat)(p:PTS):PTS:=λR γ=>p R (frz i γ)
def D5(i:Nat)(g:Uk K mg E t p):Uk K mg E t (FK i p):=by
 intro H0 B H σ γ R D f b h e;obtain⟨l,f1⟩:=b.frz f i;exact g H0 B H σ _ R D f l h (e.from f1)
noncomputable def NF(a:PTE)(g:PTG):PTS:=λR γ=>a γ (λs=>g s γ R.nx) (R.ex γ)
def T5(y:Ub K mg E te a)(w:Ky K L g r):Uk K mg E (KB te g) (NF a r):=by
 intro H0 B H σ γ R D M b h e;refine y H0 B H σ γ _ _ _ b h (λs v H1 A J o=>?_) λc H' x n=>e.ex σ γ c H' x (b.grow n) (Fr.grow n);exact w H0 B H H1 σ γ s v _ _ b J o A λf l z G C _=>e.nx f l H1 z G C
noncomputable def Zbi(i:Nat)(f:Int->Int->Int)(a:PTE):PTS:=λR γ=>match γ[i]? with
 |some (some<|.sh<|.int x)=>a γ (λy=>match y.d with | .int j=>R.nx (γ.set i<|some<|.sh<|.int<|f x j)|_=>False) (R.ex γ)
 |_=>False
noncomputable def DM(a:PTE):PTS:=λR γ=>a γ R.rt (R.ex γ)
def UP(o:Ub K mg E te a):Uk K mg E (Po te) (DM a):=by
 intro H0 B H σ γ R D x f h e;refine o H0 B H σ γ _ _ _ f h (λs v H1 r w l=>?_) λc H' n g=>e.ex σ γ c H' n (f.grow g) (Fr.grow g);exact e.rt s v H1 r (f.same.trans w) (TV.weak f.same (λb z=>.inl z) l)
noncomputable def N7(i:Nat):PTS:=λR γ=>match γ[i]? with|some (some s)=>R.rt s|_=>False
def Oq(i:Nat):Uk K mg E (Po<|Xh i) (N7 i):=by
 intro H0 B H σ γ R D C f h e;unfold N7 at h;split at h
 ·rename_i s n;obtain⟨v,o,g⟩:=f.slot i _ n;refine⟨v,o,e.rt s v H h f.same ?_⟩;cases s with
  |bor d=>exact g
  |sh d=>exact Rp.mono (Ul (Same.refl _) λb _ _ z y=>z (.inl y)) g
  |own r=>
   obtain⟨l,rfl,A,x⟩:=g;exact⟨l,rfl,A,x.mono (Ul (Same.refl _) λb _ _ z y=>z (y.elim .inl λw=>.inr ⟨i,r,l,n,o,w⟩)) λ_ _ _ q=>q⟩
  |view r=>exact g.elim
  |tmp d=>trivial
 ·grind
noncomputable def A2(c:PTT)(p q:PTS):PTS:=λR γ=>c γ (λb=>if b=true then p R γ else q R γ) (R.ex γ)
def Sf(l:UF K mg E tt c)(v:Uk K mg E t p)(hq:Uk K mg E u q):Uk K mg E (FZ tt t u) (A2 c p q):=by
 intro H0 B H σ γ R D r f h e;refine l H0 B H σ γ _ _ _ f h (λb H1 o g=>?_) λc H' l s=>e.ex σ γ c H' l (f.grow s) (Fr.grow s);split at o
 ·rename_i n;rw[Wr n];exact v H0 B H1 σ γ R D r (f.grow g) o (e.from<|Fr.grow g)
 ·rename_i n;rw[Wq n];exact hq H0 B H1 σ γ R D r (f.grow g) o (e.from<|Fr.grow g)
noncomputable def Ey(a:PTE):PTS:=λR γ=>a γ (λ_=>R.nx γ) (R.ex γ)
def Nx(n:Ub K mg E te a):Uk K mg E (Pp te) (Ey a):=by
 intro H0 B H σ γ R D w b h e;exact n H0 B H σ γ _ _ _ b h (λs v H1 o f r=>e.nx σ γ H1 o (b.grow f) (Fr.grow f)) λc H' l g=>e.ex σ γ c H' l (b.grow g) (Fr.grow g)
noncomputable def OO:PTS:=λ_ _=>False
def UX:Uk K mg E Dp OO:=λ_ _ _ _ _ _ _ _ _ h _=>h
noncomputable def Fl(x:Str)(r:PTA):PTS:=λR γ=>r γ (λb=>b.length<=1000/\R.ex γ x) (R.ex γ)
def TVs.len:∀{ss}{vs:List V},TVs K Z H0 H H' ss vs->vs.length=ss.length:=by
 intro ss
 induction ss with
 |nil=>
  intro _ h;cases h
  rfl
 |cons _ _ b=>
  intro _ h;cases h with
  |cons h r=>
   exact WG (· + 1) (b r)
def Og{g r f}(v:Uv K mg (λ_=>f) g r)(hx:autoParam (Kf x=none) au_0):Uk K mg (λ_=>f) (ExcR.FR (ExcR.Ud mg x) f g) (Fl x r):=by
 intro H0 B H σ γ R D A b h e;refine v H0 B H σ γ _ _ _ b h (λz y H1 l n s=>⟨?_,?_⟩) λc H' w o=>e.ex σ γ c H' w (b.grow o) (Fr.grow o)
 ·rw[s.len];exact TK l.1
 ·exact(e.ex σ γ x H1 l.2 (b.grow n)<|Fr.grow n).plain hx
def Zbd(i j:Nat)(γ:Γ)(R:Γ->Prop):List S->Prop
 |[.sh d,.sh e]=>R ((γ.set i<|some<|.sh d).set j (some<|.sh e))
 |_=>False
noncomputable def clr:Yv->Γ->Γ
 |[],γ=>γ
 |i::r,γ=>clr r (γ.set i none)
theorem Ue.clr:∀b {γ:Γ},Ue K H0 B H σ γ->Ue K H0 B H σ (clr b γ)/\Fr B H σ γ H σ (Pu.clr b γ)
 |[],_,e=>⟨e,Fr.refl⟩
 |i::r,γ,e=>by
  obtain⟨h,f1⟩:=e.drop i;obtain⟨g,f⟩:=Ue.clr r h;exact⟨g,f1.trans f⟩
def Later(H0:Hp)(Z:Addr->Prop)(H1:Hp)(Z':Addr->Prop)(H':Hp):Prop:=Same H0 H'/\(∀b,Z' b->Mut (H' b))/\∀b o,H1 b=some o->¬Z b->H' b=some o/\¬Z' b
def Later.of (e:Ue K H0 B H' b g) (f:Fr B H1 σ γ H' b g):Later H0 (zof B γ σ) H1 (zof B g b) H':=⟨e.same,e.zm,f⟩
def Later.off (l:Later H0 Z H1 Z' H'):Same (off Z H1) (Pu.off Z' H'):=λb o h=>by
 obtain⟨r,n⟩:=Xy h;obtain⟨g,f⟩:=l.2.2 b o r n;exact U1 g f
structure FD (K:Yo) (H0:Hp) (B:Addr->Prop) (H1:Hp) (σ:L2.St) (γ:Γ) (J:It) (n:Nat) (item:Nat->S):Prop where
 go:∀(i:Nat) (H':Hp) (Z':Addr->Prop),i<n->Later H0 (zof B γ σ) H1 Z' H'->J.go i H'/\∀x H'',J.yld i H' x H''->Same H' H''/\TV K Z' H0 H' H'' (item i) x
 stop:∀(H':Hp) (Z':Addr->Prop),Later H0 (zof B γ σ) H1 Z' H'->J.stop n H'
abbrev PTI:=Γ->(Nat->(Nat->S)->Prop)->XR->Prop
def SndI(K:Yo)(mg:Ys)(E:L2.St->XK)(b:TI)(f:PTI):Prop:=∀(H0:Hp) (B:Addr->Prop) (H:Hp) (σ:L2.St) (γ:Γ) (R:Nat->(Nat->S)->Prop) (X:XR) (Q:It->Hp->Prop),Ue K H0 B H σ γ->f γ R X->
 (∀n item J H1,R n item->Same H H1->FD K H0 B H1 σ γ J n item->Q J H1)->(∀c H',X c->Same H H'->XE mg (E σ) c H')->b σ H Q
structure SZ (js:Yv) (γ:Γ) (g:PTG) (body:PTS) (R:X7) (n:Nat) (item:Nat->S):Prop where
 w:∃inv:Nat->Γ->Prop,inv 0 (clr js γ)/\
 (∀i γ',i<n->inv i γ'->g (item i) γ' λγ2=>body {R with nx:=λγ3=>inv (i+1) (clr js γ3),ct:=λγ3=>inv (i+1) (clr js γ3),bk:=R.nx} γ2)/\∀γ',inv n γ'->R.nx γ'
noncomputable def EG(b:Yv)(f:PTI)(g:PTG)(body:PTS):PTS:=λR γ=>f γ (λn item=>SZ b γ g body R n item) (R.ex γ)
def DO{wi g it pg}(L:Yv)(hi:SndI K mg E wi it)(hg:Ky K is g pg)(hb:Uk K mg E t p):Uk K mg E (Bh wi g t) (EG L it pg p):=by
 intro H0 B H σ γ R D hB N h e;refine hi H0 B H σ γ _ _ _ N h (λn item J H1 h1 Y ok=>?_) λc H' hc S'=>e.ex σ γ c H' hc (N.grow S') (Fr.grow S');obtain⟨inv,h0,hs,hd⟩:=h1.w;have G:=N.grow Y;refine⟨λi m s H'=>m=n-i/\i<=n/\∃b,inv i b/\Ue K H0 B H' s b/\Fr B H1 σ γ H' s b,⟨n,by simp,WV _,_,h0,(G.clr L).1,(G.clr L).2⟩,?_⟩;rintro i m s H' ⟨rfl,hin,b,U,e',f'⟩;by_cases M:i<n
 ·obtain⟨go,yl⟩:=ok.go i H' _ M (Later.of e' f');refine .inr ⟨go,λr H2=>∃o,inv (i+1) o/\Ue K H0 B H2 r o/\Fr B H1 σ γ H2 r o,λr H2 ⟨o,a1,a2,a3⟩=>⟨n-(i+1),by lia,rfl,M,o,a1,a2,a3⟩,λx T y=>?_⟩;obtain⟨S2,tv⟩:=yl x T y;refine hg H0 B H' T s b _ _ _ _ e' S2 tv (hs i b M U) λr o q2 e2 f2 _=>?_;have fall:=f'.trans f2;refine hb H0 B T r o _ _ hB e2 q2 ⟨λf l Q A z C=>?_,e.rt,λf l c Q A z C=>e.ex f l c Q A z ((Fr.grow Y).trans (fall.trans C)),λf l Q A z C=>e.nx f l Q A z ((Fr.grow Y).trans (fall.trans C)),λf l Q A z C=>?_,λf l d v Q A z C=>e.rv f l d v Q A z ((Fr.grow Y).trans (fall.trans C))⟩
  ·exact⟨_,A,(z.clr L).1,(fall.trans C).trans (z.clr L).2⟩
  ·exact⟨_,A,(z.clr L).1,(fall.trans C).trans (z.clr L).2⟩
 ·have:i=n:=by lia
  subst this;exact .inl ⟨ok.stop H' _ (Later.of e' f'),e.nx s b H' (hd b U) e' ((Fr.grow Y).trans f')⟩
noncomputable def S.fix:S->Bool
 | .bor _=>true | .sh _=>true | .own (.nsl _ _)=>false | .own _=>true|_=>false
noncomputable def pIL(a:PTE):PTI:=λγ R X=>a γ (λs=>match s.d with
 | .lst f=>s.fix=true/\R f.length λi=>s.sub (f.getD i .non)
 | .scr b=>s.fix=true/\R b.length λi=>.sh (.int<|b.getD i 0)
 |_=>False) X
def TV.last (env:Ue K H0 B H σ γ) (J:Same H H1) (b:TV K (zof B γ σ) H0 H H1 s v) (A:s.fix=true) (n:s.d=.lst ds):∃l vs,v=.ref l/\vs.length=ds.length/\
  ∀H' Z',Later H0 (zof B γ σ) H1 Z' H'->H' l=some (.lst vs)/\∀(i:Nat) d,ds[i]?=some d->∃u,vs[i]?=some u/\TV K Z' H0 H' H' (s.sub d) u:=by
 have f:∀{s:S},(∀d,s.sub d=.sh d)->Rp K (Pu.off (zof B γ σ) H1) (.lst ds) v->∃l vs,v=.ref l/\vs.length=ds.length/\
   ∀H' Z',Later H0 (zof B γ σ) H1 Z' H'->H' l=some (.lst vs)/\∀i d,ds[i]?=some d->∃u,vs[i]?=some u/\TV K Z' H0 H' H' (s.sub d) u:=λL h=>by
  obtain⟨l,vs,rfl,y,g⟩:=Rp.lst_inv h;refine⟨l,vs,rfl,g.len,λH' Z' lt=>⟨off_sub _ _ (lt.off _ _ y),λi d o=>?_⟩⟩;obtain⟨u,w,r⟩:=g.get o;refine⟨u,w,?_⟩;rw[L];exact Rp.mono lt.off r
 cases s with
 |bor d=>
  have b:=Rp.strip b;rw[show d.strip=.lst ds from n]at b
  obtain⟨l,vs,rfl,y,g⟩:=Rp.lst_inv b;refine⟨l,vs,rfl,g.len,λH' Z' lt=>⟨lt.1 _ _ y,λi d o=>?_⟩⟩;obtain⟨u,w,r⟩:=g.get o;exact⟨u,w,K0 lt.2.1 lt.1 r⟩
 |sh d=>
  have:=n
  subst this;exact f (λ_=>rfl) b
 |own z=>
  cases z with
  |dK z|dT z|ins x C xs G|nst G=>cases n
  |nsl a G=>cases A
  |_=>
   cases n
   exact f (λ_=>rfl) (b.shd (env.grow J).same env.zm J rfl)
 |_=>cases A
def R1(ha:Ub K mg E te a):SndI K mg E (KS K te) (pIL a):=by
 intro H0 B H σ γ R X Q g h q qx;refine ha H0 B H σ γ _ X _ g h (λs v H1 o L n=>?_) qx;have b:=g.grow L;split at o
 ·rename_i U A;obtain⟨l,C,rfl,hn,f⟩:=n.last g L o.1 A;obtain⟨M,_⟩:=f H1 _ (Later.of b Fr.refl);refine⟨l,rfl,⟨C,SqL.of M⟩,q _ _ _ H1 o.2 L ⟨λi H' Z' J lt=>?_,λH' Z' lt=>?_⟩⟩
  ·obtain⟨r,k2⟩:=f H' Z' lt;have hd:U[i]?=some (U.getD i .non):=by rw[W8,Wj J];rfl
   obtain⟨u,w,Y⟩:=k2 i _ hd;refine⟨⟨C,u,SqL.of r,w⟩,λx N y=>?_⟩;obtain⟨rfl,y⟩:=y
   have:=y C (SqL.of r)
   rw[w]at this;cases this
   exact⟨Same.refl _,Y⟩
  ·exact⟨C,SqL.of (f H' Z' lt).1,by lia⟩
 ·rename_i G A
  have z:∃l,v=.ref l/\∀H' Z',Later H0 (zof B γ σ) H1 Z' H'->SqL K H' l (G.map V.int):=by
   cases s with
   |bor d=>
    have n:=Rp.strip n;rw[show d.strip=.scr G from A]at n
    cases n with
    |scr z=>exact⟨_,rfl,λH' Z' lt=>lt.1.seq z⟩
   |sh d=>
    have:=A
    subst this;cases n with
    |scr z=>exact⟨_,rfl,λH' Z' lt=>off_sub.seq (lt.off.seq z)⟩
   |own T|view T=>cases T<;>cases A
   |tmp d=>cases o.1
  obtain⟨l,rfl,f⟩:=z;refine⟨l,rfl,⟨_,f H1 _ (Later.of b Fr.refl)⟩,q _ _ _ H1 o.2 L ⟨λi H' Z' J lt=>?_,λH' Z' lt=>?_⟩⟩
  ·have r:=f H' Z' lt
   have w:(G.map V.int)[i]?=some (.int<|G.getD i 0):=by
    rw[Ws,Wj J,W8,Wj J];rfl
   refine⟨⟨_,_,r,w⟩,λx N y=>?_⟩;obtain⟨rfl,y⟩:=y
   have:=y _ r
   rw[w]at this;cases this
   exact⟨Same.refl _,.int _⟩
  ·exact⟨_,f H' Z' lt,by rw[Wk];exact Wp _⟩
 ·exact o.elim
def fR1(R:Nat->(Nat->S)->Prop):List D->Prop
 |[.int j]=>(-(2 ^ 62)<=j/\j<2 ^ 62)/\R j.toNat λi=>.sh (.int (0+(i:Int)))
 |_=>False
noncomputable def Dw(r:PTA):PTI:=λγ R X=>r γ (λb=>fR1 R (b.map S.d)) X
def Rps.one_inv (h:Rps K H [d] vs):∃v,vs=[v]/\Rp K H d v:=by
 cases h with
 |cons h r=>cases r;exact⟨_,rfl,h⟩
def Rps.two_inv (h:Rps K H [d,e] vs):∃v u,vs=[v,u]/\Rp K H d v/\Rp K H e u:=by
 cases h with
 |cons h r=>cases r with|cons b r=>cases r;exact⟨_,_,rfl,h,b⟩
def Zae{lo n}:FD K H0 B H1 σ γ (Itr lo n) n λi=>.sh (.int (lo+(i:Int))):=by
 refine⟨λi H' Z' b lt=>⟨b,λx f y=>?_⟩,λH' Z' lt=>Wp _⟩;obtain⟨e,y⟩:=y;subst e y;exact⟨Same.refl _,.int _⟩
def GZ(x:Uv K mg E n r):SndI K mg E (Ef n) (Dw r):=by
 intro H0 B H σ γ R X Q f h q w;refine x H0 B H σ γ _ X _ f h (λA z H1 b l o=>?_) w;have g:=o.rps (f.grow l).same;unfold fR1 at b;split at b
 ·rename_i j y;rw[y]at g;obtain⟨v,rfl,s⟩:=g.one_inv;rw[s.int_inv];exact⟨j,rfl,b.1.1,b.1.2,q _ _ _ H1 b.2 l Zae⟩
 ·grind
structure AY (js:Yv) (γ:Γ) (c:PTT) (body:PTS) (R:X7):Prop where
 w:∃(inv:Γ->Prop) (μ:Γ->Nat),inv (clr js γ)/\∀γ',inv γ'->c γ' (λb=>if b=true then
  body {R with nx:=λγ3=>inv (clr js γ3)/\μ (clr js γ3)<μ γ',ct:=λγ3=>inv (clr js γ3)/\μ (clr js γ3)<μ γ',bk:=R.nx} γ' else R.nx γ') (R.ex γ')
noncomputable def D4(b:Yv)(c:PTT)(body:PTS):PTS:=λR γ=>AY b γ c body R
def RZ(z:Yv)(J:UF K mg E tt c)(hb:Uk K mg E t p):Uk K mg E (DK tt t) (D4 z c p):=by
 intro H0 B H σ γ R D hB C h e;obtain⟨inv,G,h0,hs⟩:=h.w;refine⟨λm l H'=>∃f,m=G f/\inv f/\Ue K H0 B H' l f/\Fr B H σ γ H' l f,⟨_,_,rfl,h0,(C.clr z).1,(C.clr z).2⟩,?_⟩;rintro m l H' ⟨f,rfl,hi,L,T⟩;refine J H0 B H' l f _ _ _ L (hs f hi) (λb H1 Q Y=>?_) λc N J S'=>e.ex l f c N J (L.grow S') (T.trans<|Fr.grow S');have U:=L.grow Y;have f1:=T.trans (Fr.grow Y);cases b with
 |false=>
  exact e.nx l f H1 Q U f1
 |true=>
  refine⟨λy M=>∃o,G o<G f/\inv o/\Ue K H0 B M y o/\Fr B H σ γ M y o,λy M ⟨o,k,a1,a2,a3⟩=>⟨_,k,o,rfl,a1,a2,a3⟩,?_⟩;refine hb H0 B H1 l f _ _ hB U Q ⟨λg n A r s x=>?_,e.rt,λg n c A r s x=>e.ex g n c A r s (f1.trans x),λg n A r s x=>e.nx g n A r s (f1.trans x),λg n A r s x=>?_,λg n d v A r s x=>e.rv g n d v A r s (f1.trans x)⟩
  ·exact⟨_,r.2,r.1,(s.clr z).1,(f1.trans x).trans (s.clr z).2⟩
  ·exact⟨_,r.2,r.1,(s.clr z).1,(f1.trans x).trans (s.clr z).2⟩
end
section
variable {K:Yo}{mg:Ys}{E:L2.St->XK}{H0 H H1 H':Hp}{B Z Z':Addr->Prop}{σ:L2.St}{γ:Γ}
noncomputable def Kd(N:Yx)(ds:List D):Γ:=ds.map (λd=>some (arg d))++List.replicate (N.length-ds.length) none
def R4{ds vs}(r:Rps K H ds vs)(x:ds.length<=N.length):Ue K H (λb=>Mut (H b)) H (start N vs) (Kd N ds):=by
 have get:∀i s,(Kd N ds)[i]?=some (some s)->∃d,ds[i]?=some d/\s=arg d:=λi s h=>by
  unfold Kd at h;by_cases g:i<ds.length
  ·rw[Qj (by rw[Wk];exact g),Ws,Wj g]at h;exact⟨_,Wj g,(Wv<|Wv h).symm⟩
  ·rw[Qh (by rw[Wk];lia),QZ]at h;split at h<;>cases h
 have noown:∀(i:Nat) f,(Kd N ds)[i]?≠some (some<|.own f):=λi f h=>by
  obtain⟨d,_,e⟩:=get i _ h;rcases Bf d with q|q<;>rw[q]at e<;>cases e
 refine⟨Same.refl _,?_,λb h=>h,λi j a y f w b h=>absurd h (noown i f),λi s h=>?_⟩
 ·unfold L2.start Kd;simp[r.len]
 ·obtain⟨d,u,rfl⟩:=get i s h;obtain⟨v,n,o⟩:=r.get u;refine⟨v,?_,?_⟩
  ·unfold L2.start;rw[Qj (by rw[Wk];exact(W4.mp n).1),Ws,n];rfl
  ·have l:=K0 (Z:=zof (λb=>Mut (H b)) (Kd N ds) (start N vs)) (H:=H) (λb z=>z.elim id λ⟨k,f,_,p,_⟩=>absurd p (noown k f)) (Same.refl _) o;rcases Bf d with q|q<;>rw[q]at l ⊢<;>exact l
def Iv{t p vs Q x n}(h:Um mg c K vs H Q x)(o:Uk K mg (λ_=>x) t p)(J:n<=N.length)(q:∀ds R X,c ds R X->ds.length=n/\p {nx:=λ_=>R (.sh .non),rt:=R,ex:=λ_ e=>X e} (Kd N ds)):t {nx:=λ_ H'=>Q .non H',rt:=Q} (start N vs) H:=by
 obtain⟨ds,R,X,r,A,w,C⟩:=h;obtain⟨e,q⟩:=q ds R X A;refine o H (λb=>Mut (H b)) H _ _ _ _ (λb z=>Kv z) (R4 r<|by lia) q ⟨λg l H' f u f1=>w _ _ H' f u.same .non,λs v H' f G y=>w s v H' f G y,λg l c H' f u f1=>C c H' f u.same,λ_ _ _ z=>z.elim,λ_ _ _ z=>z.elim,λ_ _ _ _ _ z=>z.elim⟩
def EY(h:Um mg c K vs H Q g)(b:∀ds R X,c ds R X->ds.length=n):vs.length=n:=by
 obtain⟨ds,R,X,r,f,_⟩:=h;rw[r.len]
 grind
noncomputable def atP(φ:Yu)(γ:Γ):Γ:=φ.map λo=>o.bind λj=>(γ[j]?).join
structure Pr (φ:Yu) (γ:Γ) (g:PTG) (c:PTT) (e:PTE) (n:Nat) (item:Nat->S) (R:S->Prop):Prop where
 w:n<=100000/\∃f:Nat->Option D,(∀i,i<n->g (item i) (atP φ γ) λγ2=>c γ2 (λb=>if b=true then e γ2 (λs=>∃d,s.shd=some d/\f i=some d) (λ_=>False)else f i=none) (λ_=>False))/\R (.own ((List.range n).filterMap f))
noncomputable def Bp(φ:Yu)(b:PTI)(g:PTG)(c:PTT)(e:PTE):PTE:=λγ R X=>b γ (λn item=>Pr φ γ g c e n item R) X
def TX{i:Nat}{s}(h:(atP φ γ)[i]?=some (some s)):∃j,φ[i]?=some (some j)/\γ[j]?=some (some s):=by
 unfold atP at h;cases e:φ[i]? with
 |none=>grind
 |some o=>
  cases o with
  |_=>grind
theorem N1:∀{φ:Yu},(φ.filterMap id).Nodup->∀(i j k:Nat),φ[i]?=some (some k)->φ[j]?=some (some k)->i=j
 |[],_,i,_,_,h,_=>by simp at h
 |none::r,l,i,j,k,f,b=>by
  cases i with
  |zero=>simp at f
  |succ i=>
   cases j with
   |zero=>simp at b
   |succ j=>exact WG (· + 1) (N1 (by simpa using l) i j k (by simpa using f)<|by simpa using b)
 |some m::r,l,i,j,k,f,b=>by
  have g:m∉r.filterMap id/\(r.filterMap id).Nodup:=by simpa using l
  have n:∀{j:Nat},r[j]?=some (some k)->k∈r.filterMap id:=λh=>Vv.mpr ⟨some k,W5 h,rfl⟩;cases i with
  |zero=>
   cases j with
   |zero=>rfl
   |succ j=>simp_all
  |succ i=>
   cases j with
   |zero=>simp_all
   |succ j=>exact WG (· + 1) (N1 g.2 i j k (by simpa using f)<|by simpa using b)
def Tp{i j:Nat}(f:φ[i]?=some (some j)){v}(b:σ[j]?=some (some v)):(atStart φ σ)[i]?=some (some v):=by
 unfold atStart
 grind
def AN{L}(env:Ue K H0 B H σ γ)(r:H L=none):∀b o,H b=some o->¬zof B γ σ b->¬zof (λb=>zof B γ σ b\/b=L) (atP φ γ) (atStart φ σ) b:=λb o u z y=>by
 rcases y with(y|y)|⟨s,q,x,n,f,l⟩
 ·grind
 ·grind
 ·obtain⟨m,p,h⟩:=TX n;obtain⟨w,g,_⟩:=env.slot m _ h;rw[Tp p g]at f;exact z (.inr ⟨m,q,x,h,by rw[g];exact WG some (Wv f),l⟩)
def Ih{L}(env:Ue K H0 B H σ γ)(n:Same H H')(J:H L=none)(M:∃ys,H' L=some (.lst ys))(q:(φ.filterMap id).Nodup) :
  Ue K H0 (λb=>zof B γ σ b\/b=L) H' (atStart φ σ) (atP φ γ):=by
 refine⟨env.same.trans n,by unfold atStart atP;simp,λb z=>?_,λi j a a' C es b Y U T A Q N=>?_,λi s h=>?_⟩
 ·rcases z with z|rfl
  ·exact Xv n (env.zm b z)
  ·obtain⟨ys,e⟩:=M;rw[e];trivial
 ·obtain⟨k,g,f⟩:=TX Y;obtain⟨l,y,w⟩:=TX U;obtain⟨v,p,_⟩:=env.slot k _ f;obtain⟨u,r,_⟩:=env.slot l _ w;rw[Tp g p]at T;rw[Tp y r]at A
  have:=env.own k l a a' C es b f w (by grind) (by rw[r];exact WG some (Wv A)) Q N
  subst this;exact N1 q i j k g y
 ·obtain⟨k,g,f⟩:=TX h;obtain⟨v,p,o⟩:=env.slot k _ f;have G:Same (off (zof B γ σ) H) (off (zof (λb=>zof B γ σ b\/b=L) (atP φ γ)<|atStart φ σ) H'):=Ul n (AN env J);refine⟨v,Tp g p,?_⟩;cases s with
  |sh d=>exact Rp.mono G o
  |own C=>
   obtain⟨a,e1,e3,e4⟩:=o;exact⟨a,e1,e3,e4.mono G λb _ x=>n b x⟩
  |_=>exact o
def Sub.of {f:Yv} (g:b.length=σ.length) (l:∀j,j∉f->b[j]?=σ[j]?) (n:∀j∈f,∀v,σ[j]?≠some (some v)):Sub σ b:=⟨g,λi v e=>by
 by_cases h:i∈f
 ·grind
 ·rw[l i h];exact e⟩
structure IH (K:Yo) (H0:Hp) (B:Addr->Prop) (H1:Hp) (σ:L2.St) (γ:Γ) (J:It) (n:Nat) (item:Nat->S):Prop where
 go:∀(i:Nat) (H':Hp) (Z':Addr->Prop),i<n->Same H1 H'->Later H0 (zof B γ σ) H1 Z' H'->J.go i H'/\∀x H'',J.yld i H' x H''->Same H' H''/\TV K Z' H0 H' H'' (item i) x
 stop:∀(H':Hp) (Z':Addr->Prop),Same H1 H'->Later H0 (zof B γ σ) H1 Z' H'->J.stop n H'
def T1(K:Yo)(mg:Ys)(E:L2.St->XK)(b:TI)(f:PTI):Prop:=∀(H0:Hp) (B:Addr->Prop) (H:Hp) (σ:L2.St) (γ:Γ) (R:Nat->(Nat->S)->Prop) (X:XR) (Q:It->Hp->Prop),Ue K H0 B H σ γ->f γ R X->
 (∀n item J H1,R n item->Same H H1->IH K H0 B H1 σ γ J n item->Q J H1)->(∀c H',X c->Same H H'->XE mg (E σ) c H')->b σ H Q
def SndI.c (h:SndI K mg E f l):T1 K mg E f l:=λH0 B H σ γ R X Q b p q g=>
 h H0 B H σ γ R X Q b p (λn item J H1 r s ok=>q n item J H1 r s ⟨λi H' Z' o _ lt=>ok.go i H' Z' o lt,λH' Z' _ lt=>ok.stop H' Z' lt⟩) g
noncomputable def Cg(a:PTE):PTI:=λγ R X=>a γ (λs=>match s.d with
 | .lst b=>R b.length λi=>s.sub (b.getD i .non)
 | .tup b=>False
 | .scr f=>R f.length λi=>.sh (.int<|f.getD i 0)
 |_=>False) X
def NG(ha:Ub K mg E te a):T1 K mg E (KS K te) (Cg a):=by
 intro H0 B H σ γ R X Q env h q qx;refine ha H0 B H σ γ _ X _ env h (λs v H1 h1 S1 A=>?_) qx;have M:=env.grow S1;split at h1
 ·rename_i ds G;have Y:=A.rp M.same;rw[G]at Y;obtain⟨l,U,rfl,f,r1⟩:=Y.lst_inv;refine⟨l,rfl,⟨U,SqL.of f⟩,q _ _ _ H1 h1 S1 ⟨λi H' Z' hi J lt=>?_,λH' Z' J lt=>⟨U,SqL.of (J _ _ f),by rw[r1.len];exact Wp _⟩⟩⟩;have N:ds[i]?=some (ds.getD i .non):=by rw[W8,Wj hi];rfl
  have hi':∃u,U[i]?=some u/\TV K Z' H0 H' H' (s.sub<|ds.getD i .non) u:=by
   cases s with
   |bor d=>
    have A:=Rp.strip A;rw[show d.strip=.lst ds from G]at A
    obtain⟨T,o,w,r,p⟩:=Rp.lst_inv A;cases w
    rw[M.same _ _ r]at f;cases f
    obtain⟨u,n,g⟩:=p.get N;exact⟨u,n,K0 lt.2.1 lt.1 g⟩
   |sh d=>
    have:=G
    subst this;obtain⟨T,o,w,r,p⟩:=Rp.lst_inv A;cases w
    rw[off_sub _ _ r]at f;cases f
    obtain⟨u,n,g⟩:=p.get N;exact⟨u,n,Rp.mono lt.off g⟩
   |own L=>
    cases L with
    |dK L|dT L|ins x C xs cs|nst cs=>cases G
    |nsl x cs=>
     obtain⟨u,n,g⟩:=r1.get N;exact⟨u,n,X6 lt.2.1 (Rp.mono J g)⟩
    |lsA x L=>
     cases G
     obtain⟨T,w,h0,_,o,r,p⟩:=A;cases w
     rw[r]at f;cases f
     obtain⟨u,n,g⟩:=p.get N;exact⟨u,n,Rp.mono lt.off (Rp.mono (Ul (Same.refl _) λb _ _ z y=>z (.inl y)) g)⟩
    |lst L=>
    cases G
    obtain⟨T,w,h0,o,r,p⟩:=A;cases w
    rw[r]at f;cases f
    obtain⟨u,n,g⟩:=p.get N;exact⟨u,n,Rp.mono lt.off (Rp.mono (Ul (Same.refl _) λb _ _ z y=>z (.inl y)) g)⟩
   |view L=>
    cases L with
    |dK L|dT L|ins x C xs cs|nst cs=>cases G
    |nsl x cs=>
     obtain⟨u,n,g⟩:=r1.get N;exact⟨u,n,X6 lt.2.1 (Rp.mono J g)⟩
    |lsA x L=>
     cases G
     obtain⟨T,w,_,o,r,p⟩:=A;cases w
     rw[r]at f;cases f
     obtain⟨u,n,g⟩:=p.get N;exact⟨u,n,Rp.mono lt.off g⟩
    |lst L=>
    cases G
    obtain⟨T,w,o,r,p⟩:=A;cases w
    rw[r]at f;cases f
    obtain⟨u,n,g⟩:=p.get N;exact⟨u,n,Rp.mono lt.off g⟩
   |tmp d=>
    have:=G
    subst this;obtain⟨T,o,w,r,p⟩:=Rp.lst_inv A;cases w
    rw[r]at f;cases f
    obtain⟨u,n,g⟩:=p.get N;exact⟨u,n,X6 lt.2.1 (Rp.mono J g)⟩
  obtain⟨u,hu,tu⟩:=hi';refine⟨⟨U,u,SqL.of (J _ _ f),hu⟩,λx H'' y=>?_⟩;obtain⟨rfl,y⟩:=y
  have:=y U (SqL.of<|J _ _ f)
  rw[hu]at this;cases this
  exact⟨Same.refl _,tu⟩
 ·exact h1.elim
 ·rename_i ns G;have Y:=A.rp M.same;rw[G]at Y;cases Y with
  |scr hs=>
   refine⟨_,rfl,⟨_,hs⟩,q _ _ _ H1 h1 S1 ⟨λi H' Z' hi J lt=>?_,λH' Z' J lt=>⟨_,J.seq hs,by rw[Wk];exact Wp _⟩⟩⟩
   have hu:(ns.map V.int)[i]?=some (.int<|ns.getD i 0):=by
    rw[Ws,Wj hi,W8,Wj hi];rfl
   refine⟨⟨_,_,J.seq hs,hu⟩,λx H'' y=>?_⟩;obtain⟨rfl,y⟩:=y
   have:=y _ (J.seq hs)
   rw[hu]at this;cases this
   exact⟨Same.refl _,.int _⟩
 ·exact h1.elim
def PK{φ is wi g tc te it pg c a}(hi:T1 K mg E wi it)(hg:Ky K is g pg)(hc:UF K mg E tc c)(he:Ub K mg E te a)(h1:autoParam ((φ.filterMap id).Nodup) au_1)(h2:autoParam (∀j∈is,φ[j]?=some none) au_1):Ub K mg E (PM φ wi g tc te) (Bp φ it pg c a):=by
 intro H0 B H σ γ R X Q env h q qx;refine hi H0 B H σ γ _ X _ env h (λn item J H1 h1' S1 ok=>?_) qx;obtain⟨hn,f,hf,hR⟩:=h1'.w;have l:=env.grow S1;have hbig:n<=sizeLine:=Wy hn (by decide);intro L U;refine⟨λi m G C=>m=n-i/\i<=n/\Same H1 C/\C L=some (.lst G)/\Rps K (off (λb=>zof B γ σ b\/b=L) C) ((List.range i).filterMap f) G,⟨n,by simp,WV _,UJ U,Ur,.nil⟩,?_⟩;rintro i m G C ⟨rfl,hin,u,hL,p⟩;have A:=l.grow u;by_cases r:i<n
 ·have envI2:=Ih l u U ⟨G,hL⟩ h1;obtain⟨go,yl⟩:=ok.go i C _ r u ⟨A.same,envI2.zm,λb o Y z=>⟨u _ _ Y,AN l U b o Y z⟩⟩;refine .inr ⟨go,λx H3 y=>?_⟩;obtain⟨S3,tv⟩:=yl x H3 y;refine hg H0 _ C H3 _ _ _ _ _ _ envI2 S3 tv (hf i r) λN T p2 e2 f2 k2=>⟨?_,?_⟩
  ·refine Sub.of k2.2 k2.1 λj hj v z=>?_;obtain⟨k,k1,_⟩:=CN z;rw[h2 j hj]at k1;cases k1
  ·refine hc H0 _ H3 N T _ _ _ e2 p2 (λb H5 q5 S5=>?_) λ_ _ z=>z.elim;have e5:=e2.grow S5;cases b with
   |false=>
    rw[Wq W1]at q5 ⊢;refine⟨n-(i+1),by lia,rfl,r,(u.trans S3).trans S5,(S3.trans S5) _ _ hL,?_⟩;rw[List.range_succ,QB];simp only[Qp,q5,List.filterMap_nil,WL];exact Rps.mono (Ul (S3.trans S5) λ_ _ _ z=>z) p
   |true=>
    refine he H0 _ H5 N T _ _ _ e5 q5 (λs v H6 q6 S6 t6=>?_) λ_ _ z=>z.elim;obtain⟨d,hd,hfd⟩:=q6;have M:=(S3.trans S5).trans S6
    have hlen:G.length<=i:=by
     rw[p.len];exact Wy (List.length_filterMap_le _ _) (by rw[List.length_range];exact Wp _)
    refine⟨M _ _ hL,by lia,n-(i+1),by lia,rfl,r,λb o Y=>?_,Ur,?_⟩
    ·rw[Uj (Xi Y U)];exact M _ _ (u _ _ Y)
    ·rw[List.range_succ,QB];have ef:[i].filterMap f=[d]:=by simp[hfd]
     rw[ef]
     have So:Same (off (λb=>zof B γ σ b\/b=L) H6) (off (λb=>zof B γ σ b\/b=L)<|upd H6 L<|.lst (G++[v])):=λb o h=>by
      obtain⟨a1,a2⟩:=Xy h;refine U1 ?_ a2;rwa[Uj λz=>a2 (.inr z)]
     refine Rps.append (Rps.mono So<|Rps.mono (Ul M λ_ _ _ z=>z) p) (.cons (Rp.mono So<|Rp.mono (Ul (Same.refl _) λb _ _ z y=>z (.inl y)) (t6.shd (e5.grow S6).same e5.zm S6 hd)) .nil)
 ·have:i=n:=by lia
  subst this;exact .inl ⟨ok.stop C _ u (Later.of A<|Fr.grow u),q _ _ C hR (S1.trans u) ⟨L,rfl,(λ_ e=>e▸S1.free U),G,hL,p⟩⟩
noncomputable def Sy:PTT:=λ_ R _=>R true
def N2:UF K mg E Cb Sy:=λ_ _ H _ _ _ _ _ _ p q _=>q _ H p (Same.refl _)
def MB{b g:Type}(xs:List b)(f:b->Option g):(List.range xs.length).filterMap (λi=>(xs[i]?).bind f)=xs.filterMap f:=by
 induction xs with
 |nil=>rfl
 |cons x r h=>
  rw[QG,List.range_succ_eq_map,Qp,List.filterMap_map,Qp];have e:(λi=>((x::r)[i]?).bind f)∘Nat.succ=λi=>(r[i]?).bind f:=rfl;rw[e,h];rfl
end
open M
section
variable {K:Yo}{mg:Ys}{E:L2.St->XK}{H0 H H1 H':Hp}{B Z Z':Addr->Prop}{σ:L2.St}{γ:Γ}
noncomputable def pCB(f:List S->(S->Prop)->Prop)(r:PTA):PTE:=λγ R X=>r γ (λb=>f b R) X
def KI{f o r}(A:Uv K mg E o r)(h:∀H0 H H1 Z l vs R Q,Same H0 H1->Same H H1->(∀b,Z b->Mut (H b))->TVs K Z H0 H H1 l vs->f l R->(∀s z H',R s->Same H1 H'->TV K Z H0 H H' s z->Q z H')->w vs H1 Q) :
  Ub K mg E (tCB w o) (pCB f r):=by
 intro H0 B H σ γ R X Q g p q x;refine A H0 B H σ γ _ X _ g p (λl vs H1 C n v=>?_) x;exact h H0 H H1 _ l vs R Q (g.grow n).same n g.zm v C λs z H' y G u=>q s z H' y (n.trans G) u
noncomputable def S.free:S->List D->Bool
 | .bor _,b=>UH b | .tmp _,b=>UH b | .view (.nst _),b=>UH b | .view (.nsl _ _),b=>UH b|_,_=>true
def TVs.one_inv (h:TVs K Z H0 H H' [s] vs):∃v,vs=[v]/\TV K Z H0 H H' s v:=by
 cases h with
 |cons h r=>cases r;exact⟨_,rfl,h⟩
def TVs.two_inv (h:TVs K Z H0 H H' [s,t] vs):∃v u,vs=[v,u]/\TV K Z H0 H H' s v/\TV K Z H0 H H' t u:=by
 cases h with
 |cons h r=>cases r with|cons b r=>cases r;exact⟨_,_,rfl,h,b⟩
def TV.items (n:Same H0 H') (q:∀b,Z b->Mut (H b)) (A:Same H H') (h:TV K Z H0 H H' s v) (p:s.free ds=true) :
  (s.d=.lst ds->∃a vs,v=.ref a/\H' a=some (.lst vs)/\Rps K (off Z H') ds vs)/\(s.d=.tup ds->∃a vs,v=.ref a/\H' a=some (.tup vs)/\Rps K (off Z H') ds vs):=by
 have g:=λb z=>Xv A (q b z);cases s with
 |bor d=>
  have h:=Rp.strip h;refine⟨λe=>?_,λe=>?_⟩<;>rw[show d.strip=_ from e]at h
  ·obtain⟨a,vs,rfl,f,r⟩:=Rp.lst_inv h;exact⟨a,vs,rfl,n _ _ f,Rps.off g (Rps.mono n r) p⟩
  ·obtain⟨a,vs,rfl,f,r⟩:=Rp.tup_inv h;exact⟨a,vs,rfl,n _ _ f,Rps.off g (Rps.mono n r) p⟩
 |sh d=>
  refine⟨λe=>?_,λe=>?_⟩<;>(have u:=e;subst u)
  ·obtain⟨a,vs,rfl,f,r⟩:=Rp.lst_inv h;exact⟨a,vs,rfl,off_sub _ _ f,r⟩
  ·obtain⟨a,vs,rfl,f,r⟩:=Rp.tup_inv h;exact⟨a,vs,rfl,off_sub _ _ f,r⟩
 |own o=>
  cases o with
  |nsl x w=>
   refine⟨λe=>?_,λe=>by cases e⟩;have l:=h.shd n q A rfl;cases e
   obtain⟨a,vs,rfl,f,r⟩:=Rp.lst_inv l;exact⟨a,vs,rfl,off_sub _ _ f,r⟩
  |nst w=>
   refine⟨(λe=>by cases e),λe=>?_⟩;have l:=h.shd n q A rfl;cases e
   obtain⟨a,vs,rfl,f,r⟩:=Rp.tup_inv l;exact⟨a,vs,rfl,off_sub _ _ f,r⟩
  |lst o=>
   refine⟨λe=>?_,λe=>by cases e⟩;cases e
   obtain⟨a,rfl,C,vs,e,r⟩:=h;exact⟨a,vs,rfl,e,Rps.mono (Ul (Same.refl _) λb _ _ z y=>z (.inl y)) r⟩
  |lsA x o=>
   refine⟨λe=>?_,λe=>by cases e⟩;cases e
   obtain⟨a,rfl,C,_,vs,e,r⟩:=h;exact⟨a,vs,rfl,e,Rps.mono (Ul (Same.refl _) λb _ _ z y=>z (.inl y)) r⟩
  |_=>exact⟨(λe=>by cases e),(λe=>by cases e)⟩
 |view o=>
  cases o with
  |nsl x w=>
   refine⟨λe=>?_,λe=>by cases e⟩;have l:=h.rp n;rw[e]at l;obtain⟨a,vs,rfl,f,r⟩:=Rp.lst_inv l;exact⟨a,vs,rfl,f,Rps.off g r p⟩
  |nst w=>
   refine⟨(λe=>by cases e),λe=>?_⟩;have l:=h.rp n;rw[e]at l;obtain⟨a,vs,rfl,f,r⟩:=Rp.tup_inv l;exact⟨a,vs,rfl,f,Rps.off g r p⟩
  |lst o=>
   refine⟨λe=>?_,λe=>by cases e⟩;cases e
   obtain⟨a,rfl,vs,e,r⟩:=h;exact⟨a,vs,rfl,e,r⟩
  |lsA x o=>
   refine⟨λe=>?_,λe=>by cases e⟩;cases e
   obtain⟨a,rfl,_,vs,e,r⟩:=h;exact⟨a,vs,rfl,e,r⟩
  |_=>exact⟨(λe=>by cases e),(λe=>by cases e)⟩
 |tmp d=>
  refine⟨λe=>?_,λe=>?_⟩<;>(have u:=e;subst u)
  ·obtain⟨a,vs,rfl,f,r⟩:=Rp.lst_inv h;exact⟨a,vs,rfl,f,Rps.off g r p⟩
  ·obtain⟨a,vs,rfl,f,r⟩:=Rp.tup_inv h;exact⟨a,vs,rfl,f,Rps.off g r p⟩
def NS:List S->(S->Prop)->Prop
 |[s],R=>(match s.d with
  | .lst f=>R (.sh<|.int f.length) | .tup f=>R (.sh<|.int f.length) | .scr b=>R (.sh<|.int b.length) | .fL b=>R (.sh<|.int b.length) | .str x=>x.length<=sizeLine/\R (.sh<|.int x.length)|_=>False)
 |_,_=>False
def Na(A:Uv K mg E u r):Ub K mg E (tCB (λxs H Q=>∃x n,xs=[x]/\Nh K x H n/\Q (.int n) H) u) (pCB NS r):=by
 refine KI A λH0 H H1 Z J G R Q y L M p h q=>?_;unfold NS at h;split at h
 ·rename_i s;obtain⟨v,rfl,w⟩:=p.one_inv;have b:=w.rp y;split at h
  ·rename_i C e;rw[e]at b;obtain⟨a,f,rfl,o,g⟩:=b.lst_inv;exact⟨_,_,rfl,.inl ⟨f,SqL.of o,rfl⟩,by rw[g.len];exact q _ _ H1 h (Same.refl _) (.int _)⟩
  ·rename_i C e;rw[e]at b;obtain⟨a,f,rfl,o,g⟩:=b.tup_inv;exact⟨_,_,rfl,.inr ⟨f,SqT.of o,rfl⟩,by rw[g.len];exact q _ _ H1 h (Same.refl _) (.int _)⟩
  ·rename_i z e;rw[e]at b;cases b with
   |scr l=>exact⟨_,_,rfl,.inl ⟨_,l,rfl⟩,by rw[Wk];exact q _ _ H1 h (Same.refl _) (.int _)⟩
  ·rename_i z e;rw[e]at b;cases b with
   |fL l=>exact⟨_,_,rfl,.inl ⟨_,.inl (.inr ⟨_,l⟩),rfl⟩,by rw[Wk];exact q _ _ H1 h (Same.refl _) (.int _)⟩
  ·rename_i x e;rw[e]at b;rw[b.str_inv];exact⟨_,_,rfl,⟨h.1,rfl⟩,q _ _ H1 h.2 (Same.refl _) (.int _)⟩
  ·exact h.elim
 ·exact h.elim
def FQ:List S->(S->Prop)->Prop
 |[s],R=>(match s.d with
  | .lst b=>s.free b=true/\R (.own b) | .tup b=>s.free b=true/\R (.own b)|_=>False)
 |_,_=>False
def P7(A:Uv K mg E z r):Ub K mg E (tCB (λxs H Q=>∃p ys,xs=[.ref p]/\(SqL K H p ys\/SqT K H p ys)/\∀l,H l=none->Q (.ref l) (upd H l<|.lst ys)) z) (pCB FQ r):=by
 refine KI A λH0 H H1 Z J G R Q w f x y h q=>?_;unfold FQ at h;split at h
 ·rename_i s;obtain⟨v,rfl,u⟩:=y.one_inv;split at h
  ·rename_i C e;obtain⟨a,g,rfl,o,n⟩:=(u.items w x f h.1).1 e;exact⟨a,g,rfl,.inl (SqL.of o),λl b=>q _ _ _ h.2 (UJ b) (K4 f b n)⟩
  ·rename_i C e;obtain⟨a,g,rfl,o,n⟩:=(u.items w x f h.1).2 e;exact⟨a,g,rfl,.inr (SqT.of o),λl b=>q _ _ _ h.2 (UJ b) (K4 f b n)⟩
  ·grind
 ·grind
theorem Rps.ints:∀{b:Yq}{vs:List V},Rps K H (b.map D.int) vs->vs=b.map V.int
 |[],_,.nil=>rfl
 |j::r,_,.cons h t=>by rw[Rp.int_inv h,Rps.ints t];rfl
theorem Rps.of_ints:∀(b:Yq),Rps K H (b.map D.int) (b.map V.int)
 |[]=>.nil
 |j::r=>.cons (.int j) (Rps.of_ints r)
def Ep:List S->(S->Prop)->Prop
 |[s],R=>∃f:Yq,s.d=.lst (f.map D.int)/\f.length<64/\∀b:Yq,b.Perm f->b.Pairwise (·<=·)->R (.own<|b.map D.int)
 |_,_=>False
def EM{f r}(J:Uv K mg E f r):Ub K mg E (tCB (λxs H Q=>∃p b,xs=[.ref p]/\b.length<64/\(SqL K H p (b.map V.int)\/H p=some (Kn w p b))/\
  ∀l (ns:Yq),H l=none->ns.Perm b->ns.Pairwise (·<=·)->Q (.ref l) (upd H l<|.lst<|ns.map V.int)) f) (pCB Ep r):=by
 refine KI J λH0 H H1 Z T M R Q z y U u h q=>?_;unfold Ep at h;split at h
 ·rename_i s;obtain⟨v,rfl,x⟩:=u.one_inv;obtain⟨b,e,C,k⟩:=h;have g:=x.rp z;rw[e]at g;obtain⟨a,N,rfl,o,A⟩:=g.lst_inv;rw[A.ints]at o;exact⟨a,b,rfl,C,.inl (SqL.of o),λl ns n L G=>q _ _ _ (k ns L G) (UJ n) (K4 y n<|Rps.of_ints ns)⟩
 ·grind
def Zbl:List S->(S->Prop)->Prop
 |[s,t],R=>(match s.d,t.d with | .int i,.int j=>R (.sh<|.int (if j>i then j else i))|_,_=>False)
 |_,_=>False
def Zbb:List S->(S->Prop)->Prop
 |[s],R=>(match s.d with | .int i=>R (.sh<|.int (if i<0 then -i else i))|_=>False)
 |_,_=>False
noncomputable def tyD:D->Option String
 | .int _=>some "int" | .bl _=>some "bool" | .non=>some "NoneType" | .str _=>some "str" | .tup _=>some "tuple" | .lst _=>some "list" | .fL _=>some "list" | .dK _=>some "dict" | .dT _=>some "dict" |_=>none
inductive UL:String->String->Bool->Prop
 |same (n:String):UL n n true
 |ib:UL "int" "bool" false
 |bi:UL "bool" "int" true
 |tl:UL "tuple" "list" false
 |lt:UL "list" "tuple" false
 |it:UL "int" "tuple" false
 |il:UL "int" "list" false
 |bt:UL "bool" "tuple" false
 |bL:UL "bool" "list" false
 |ti:UL "tuple" "int" false
 |li:UL "list" "int" false
 |si:UL "str" "int" false
 |is:UL "int" "str" false
 |ni:UL "NoneType" "int" false
 |nl:UL "NoneType" "list" false
 |nt:UL "NoneType" "tuple" false
def UL.kit (h:UL m n b):PySem.W.kitOne K (.type m) (.type n)=some b:=by
 cases h with
 |same=>exact Gj K _
 |_=>rfl
def A0:List S->(S->Prop)->Prop
 |[s,t],R=>(match tyD s.d,t.d with|some m,.ty n=>∃b,UL m n b/\R (.sh<|.bl b)|_,_=>False)
 |_,_=>False
def IJ(h:Rp K H d v)(e:tyD d=some m):UW K H v (.type m):=by
 cases h with
 |int i=>cases e;exact .int i
 |bl b=>cases e;exact .bl b
 |non=>cases e;exact .non
 |str x=>cases e;exact .str x
 |tup h r=>cases e;exact .tup h
 |lst h r=>cases e;exact .lst h
 |dK h=>cases e;exact .dK h
 |dT h=>cases e;exact .dT h
 |fL h=>cases e;exact .frz h
 |_=>cases e
def KY(w:Uv K mg E o r):Ub K mg E (tCB (λxs H Q=>∃x n t b,xs=[x,.ty n]/\UW K H x t/\PySem.W.kitOne K t (.type n)=some b/\Q (.bl b) H) o) (pCB A0 r):=by
 refine KI w λH0 H H1 Z G C R Q f J L l h q=>?_;unfold A0 at h;split at h
 ·obtain⟨v,u,rfl,s,p⟩:=l.two_inv;have g:=p.rp f;split at h
  ·rename_i m n A z;rw[z]at g;rw[g.ty_inv];obtain⟨b,k,y⟩:=h;exact⟨v,n,_,b,rfl,IJ (s.rp f) A,k.kit,q _ _ H1 y (Same.refl _) (.bl _)⟩
  ·grind
 ·grind
noncomputable def prD(p:Int×Int):D:=.tup [.int p.1,.int p.2]
inductive InR:D->D->Bool->Prop
 |li (i:Int) (hs:Yq):InR (.int i) (.lst<|hs.map D.int) (decide (i∈hs))
 |ti (i:Int) (hs:Yq):InR (.int i) (.tup<|hs.map D.int) (decide (i∈hs))
 |lp (q:Int×Int) (ps:Yp):InR (prD q) (.lst<|ps.map prD) (decide (q∈ps))
def fIn(neg:Bool):S->S->(S->Prop)->Prop:=λx y R=>∃b,InR x.d y.d b/\R (.sh<|.bl (if neg then !b else b))
def Rp.pair (h:Rp K H (prD q) v):Xg H v q:=by
 obtain⟨a,l,rfl,b,r⟩:=Rp.tup_inv h;obtain⟨x,y,rfl,g,f⟩:=r.two_inv;rw[g.int_inv,f.int_inv]at b;exact⟨a,rfl,b⟩
def Rps.lv {vs} (h:Rps K H (ps.map prD) vs):LV Xg H vs ps:=by
 refine⟨by rw[h.len,Wk],λi p b=>?_⟩;obtain⟨v,g,f⟩:=h.get (by rw[Ws,b];rfl);exact⟨v,g,f.pair⟩
def D6{C A a b}(U:Ub K mg E C a)(T:Ub K mg E A b):Ub K mg E (tOp (λx y H Q=>rIn K neg x y H Q\/Px neg x y H Q) C A) (p2 a b<|fIn neg):=by
 refine Xu U T λH0 H z Z x y v u R Q G Y hm L J h q=>?_;obtain⟨k,s,w⟩:=h;have n:=L.rp G;have g:=J.rp G;generalize ex:x.d=dx at s n;generalize ey:y.d=dy at s g;cases s with
 |li i N=>
  obtain⟨l,o,rfl,f,r⟩:=g.lst_inv;rw[r.ints]at f;rw[n.int_inv];refine .inl ⟨l,_,rfl,.inl (SqL.of f),rfl,KN _,?_⟩;rw[AS];exact q _ _ z w (Same.refl _) (.bl _)
 |ti i N=>
  obtain⟨l,o,rfl,f,r⟩:=g.tup_inv;rw[r.ints]at f;rw[n.int_inv];refine .inl ⟨l,_,rfl,.inr (SqT.of f),rfl,KN _,?_⟩;rw[AS];exact q _ _ z w (Same.refl _) (.bl _)
 |lp p M=>
  obtain⟨l,o,rfl,f,r⟩:=g.lst_inv;exact .inr ⟨l,M,p,rfl,n.pair,⟨o,f,r.lv⟩,q _ _ z w (Same.refl _) (.bl _)⟩
def KQ(neg:Bool):S->S->(S->Prop)->Prop:=λx y R=>match x.d,y.d with
 | .lst g,.lst f=>∃xs b:Yq,g=xs.map D.int/\f=b.map D.int/\R (.sh<|.bl (if neg then !decide (xs=b)else decide (xs=b)))
 |_,_=>fEq neg x y R
def DY{a b}(T:Ub K mg E L a)(N:Ub K mg E J b):Ub K mg E (tOp (λx y H Q=>rEq x y H Q\/X8 K false x y H Q) L J) (p2 a b<|KQ false):=by
 refine Xu T N λH0 H p Z x y v u R Q w s1 s G C h q=>?_;have g:=G.rp w;have f:=C.rp w;unfold KQ at h;split at h
 ·rename_i ds es o n;obtain⟨xs,Y,rfl,rfl,U⟩:=h;rw[o]at g;rw[n]at f;obtain⟨l,us,rfl,A,r⟩:=g.lst_inv;obtain⟨m,ws,rfl,s,M⟩:=f.lst_inv;rw[r.ints]at A;rw[M.ints]at s;refine .inr ⟨l,m,_,_,rfl,rfl,SqL.of A,SqL.of s,KN _,KN _,?_⟩;rw[E5];exact q _ _ p U (Same.refl _) (.bl _)
 ·refine .inl ?_;unfold fEq at h;split at h
  ·rename_i i j o n;rw[o]at g;rw[n]at f;rw[g.int_inv,f.int_inv];refine⟨rfl,?_⟩;rw[KU λ_ _ z=>V.int.inj z];exact q _ _ p h (Same.refl _) (.bl _)
  ·rename_i i j o n;rw[o]at g;rw[n]at f;rw[g.str_inv,f.str_inv];refine⟨rfl,?_⟩;rw[KU λ_ _ z=>V.str.inj z];exact q _ _ p h (Same.refl _) (.bl _)
  ·rename_i i j o n;rw[o]at g;rw[n]at f;rw[g.bl_inv,f.bl_inv];refine⟨rfl,?_⟩;rw[KU λ_ _ z=>V.bl.inj z];exact q _ _ p h (Same.refl _) (.bl _)
  ·exact h.elim
def DE{a b}(T:Ub K mg E L a)(N:Ub K mg E J b):Ub K mg E (tOp (λx y H Q=>rNe x y H Q\/X8 K true x y H Q) L J) (p2 a b<|KQ true):=by
 refine Xu T N λH0 H p Z x y v u R Q w s1 s G C h q=>?_;have g:=G.rp w;have f:=C.rp w;unfold KQ at h;split at h
 ·rename_i ds es o n;obtain⟨xs,Y,rfl,rfl,U⟩:=h;rw[o]at g;rw[n]at f;obtain⟨l,us,rfl,A,r⟩:=g.lst_inv;obtain⟨m,ws,rfl,s,M⟩:=f.lst_inv;rw[r.ints]at A;rw[M.ints]at s;refine .inr ⟨l,m,_,_,rfl,rfl,SqL.of A,SqL.of s,KN _,KN _,?_⟩;rw[E5];exact q _ _ p U (Same.refl _) (.bl _)
 ·refine .inl ?_;unfold fEq at h;split at h
  ·rename_i i j o n;rw[o]at g;rw[n]at f;rw[g.int_inv,f.int_inv];refine⟨rfl,?_⟩;rw[KU λ_ _ z=>V.int.inj z];exact q _ _ p h (Same.refl _) (.bl _)
  ·rename_i i j o n;rw[o]at g;rw[n]at f;rw[g.str_inv,f.str_inv];refine⟨rfl,?_⟩;rw[KU λ_ _ z=>V.str.inj z];exact q _ _ p h (Same.refl _) (.bl _)
  ·rename_i i j o n;rw[o]at g;rw[n]at f;rw[g.bl_inv,f.bl_inv];refine⟨rfl,?_⟩;rw[KU λ_ _ z=>V.bl.inj z];exact q _ _ p h (Same.refl _) (.bl _)
  ·exact h.elim
noncomputable abbrev AM(K:Yo)(b:TE):TT:=λσ H Q=>b σ H λx H'=>∃k,NR K x H' k/\Q k H'
noncomputable def Fg(a:PTE):PTT:=λγ R X=>a γ (λx=>match x.d with
 | .bl b=>R b | .lst f=>R (!f.isEmpty) | .tup f=>R (!f.isEmpty) | .int i=>R (i != 0) | .non=>R false|_=>False) X
def Sz{f b:Type}{l:List f}{m:List b}(h:l.length=m.length):l.isEmpty=m.isEmpty:=by
 cases l<;>cases m<;>simp at h ⊢
def SW(y:Ub K mg E te a):UF K mg E (AM K te) (Fg a):=by
 intro H0 B H σ γ R X Q o p q w;refine y H0 B H σ γ _ X _ o p (λx v H1 g h u=>?_) w;have f:=u.rp (o.grow h).same;split at g
 ·rename_i b e;rw[e]at f;rw[f.bl_inv];exact⟨b,rfl,q _ H1 g h⟩
 ·rename_i z e;rw[e]at f;obtain⟨l,n,rfl,s,r⟩:=f.lst_inv;exact⟨!n.isEmpty,.inl ⟨n,SqL.of s,rfl⟩,by rw[Sz r.len];exact q _ H1 g h⟩
 ·rename_i z e;rw[e]at f;obtain⟨l,n,rfl,s,r⟩:=f.tup_inv;exact⟨!n.isEmpty,.inr (.inl ⟨n,SqT.of s,rfl⟩),by rw[Sz r.len];exact q _ H1 g h⟩
 ·rename_i i e;rw[e]at f;rw[f.int_inv];exact⟨_,rfl,q _ H1 g h⟩
 ·rename_i e;rw[e]at f;rw[f.non_inv];exact⟨_,rfl,q _ H1 g h⟩
 ·exact g.elim
noncomputable def cutD{b:Type}(xs:List b)(lo f:Option Int):List b:=(xs.drop<|HT.sIx xs.length 0 lo).take (HT.sIx xs.length xs.length f-HT.sIx xs.length 0 lo)
noncomputable def DV:PTO:=λ_ R _=>R none
noncomputable def Cn(a:PTE):PTO:=λγ R X=>a γ (λs=>match s.d with | .int i=>R (some i)|_=>False) X
def De:Kx K mg E Du DV:=λ_ _ H _ _ _ _ _ _ p q _=>q _ H p (Same.refl _)
def CD(o:Ub K mg E te a):Kx K mg E (Ca te) (Cn a):=by
 intro H0 B H σ γ R X Q b p q n;refine o H0 B H σ γ _ X _ b p (λx v H1 g h l=>?_) n;have f:=l.rp (b.grow h).same;split at g
 ·rename_i i e;rw[e]at f;exact⟨i,f.int_inv,q _ H1 g h⟩
 ·grind
noncomputable def pSl(a:PTE)(l u:PTO):PTE:=λγ R X=>a γ (λs=>l γ (λlo=>u γ (λf=>match s.d with | .lst b=>s.free b=true/\R (.own<|cutD b lo f)|_=>False) X) X) X
def Rps.cut {lo b} (r:Rps K H ds vs):Rps K H (cutD ds lo b) (K5 vs lo b):=by
 unfold cutD K5;rw[r.len];exact Rps.take _ (Rps.drop _ r)
def GL{a l u}(U:Ub K mg E te a)(N:Kx K mg E G l)(M:Kx K mg E J u):Ub K mg E (tSl (T3 K) te G J) (pSl a l u):=by
 intro H0 B H σ γ R X Q f p q o;refine U H0 B H σ γ _ X _ f p (λx v H1 h1 h L=>?_) o;refine N H0 B H1 σ γ _ X _ (f.grow h) h1 (λlo H2 Y n=>?_) λc H' s y=>o c H' s (h.trans y);refine M H0 B H2 σ γ _ X _ ((f.grow h).grow n) Y (λhi H3 w A=>?_) λc H' s y=>o c H' s ((h.trans n).trans y);have g:=(h.trans n).trans A;split at w
 ·rename_i ds e;obtain⟨b,C,rfl,T,r⟩:=((L.grow<|n.trans A).items (f.grow g).same f.zm g w.1).1 e;exact⟨b,C,rfl,SqL.of T,λm z=>q _ _ _ w.2 (g.trans<|UJ z) (K4 g z r.cut)⟩
 ·grind
def CM:S->S->(S->Prop)->Prop:=λx y R=>match x.d,y.d with
 | .lst f,.lst b=>x.free f=true/\y.free b=true/\f.length+b.length<=100000/\R (.own (f++b))
 |_,_=>False
def Ft{a b}(U:Ub K mg E L a)(T:Ub K mg E J b):Ub K mg E (tOp ER L J) (p2 a b CM):=by
 refine Xu U T λH0 H H2 Z x y v u R Q s f A G C h q=>?_;unfold CM at h;split at h
 ·rename_i ds es e1 Y;obtain⟨l,o,rfl,N,r⟩:=(G.items s A f h.1).1 e1;obtain⟨m,n,rfl,g,w⟩:=(C.items s A f h.2.1).1 Y;have M:o.length+n.length<=sizeLine:=by rw[r.len,w.len];exact Wy h.2.2.1 (by decide)
  exact⟨l,m,o,n,rfl,rfl,N,g,M,λp z=>q _ _ _ h.2.2.2 (UJ z) (K4 f z<|r.append w)⟩
 ·grind
noncomputable def Bo(i:Nat)(a:PTE):PTS:=λR γ=>match γ[i]? with
 |some (some<|.own<|.lst b)=>a γ (λs=>match s.shd with
  |some d=>b.length<10000000/\R.nx (γ.set i<|some<|.own (b++[d]))
  |none=>False) (R.ex γ)
 |some (some<|.own<|.lsA x b)=>a γ (λs=>match s.shd with
  |some d=>b.length<10000000/\R.nx (γ.set i<|some<|.own<|.lsA x (b++[d]))
  |none=>False) (R.ex γ)
 |_=>False
def O2(i:Nat){te a}(Q:Ub K mg E te a):Uk K mg E (Pp<|tBM K "list" Tr (Xh i)<|U7 te UK) (Bo i a):=by
 intro H0 B H σ γ R D T f h e;unfold Bo at h;split at h
 ·rename_i M r;obtain⟨v,q,b,rfl,G,us,w,p⟩:=f.slot i _ r;refine⟨_,q,.inl ⟨rfl,us,SqL.of w⟩,Q H0 B H σ γ _ _ _ f h (λs u H1 n l A=>?_) λc H' C y=>e.ex σ γ c H' C (f.grow y) (Fr.grow y)⟩;have g:=f.grow l;split at n
  ·rename_i d o;refine⟨b,us,u,rfl,rfl,l _ _ w,by rw[p.len];exact Q6 n.1 (by decide),?_⟩;obtain⟨o,L⟩:=g.mutate (es:=.lst (M++[d])) (us:=.lst (us++[u])) r q trivial λF H' N J=>⟨_,J,Rps.mono N (Rps.append (Rps.mono (Ul l λ_ _ _ z=>z) p)<|.cons (A.shd g.same f.zm l o) .nil)⟩;exact e.nx _ _ _ n.2 o ((Fr.grow l).trans L)
  ·exact n.elim
 ·rename_i x M r;obtain⟨v,q,b,rfl,G,rfl,us,w,p⟩:=f.slot i _ r;refine⟨_,q,.inl ⟨rfl,us,SqL.of w⟩,Q H0 B H σ γ _ _ _ f h (λs u H1 n l A=>?_) λc H' C y=>e.ex σ γ c H' C (f.grow y) (Fr.grow y)⟩;have g:=f.grow l;split at n
  ·rename_i d o;refine⟨b,us,u,rfl,rfl,l _ _ w,by rw[p.len];exact Q6 n.1 (by decide),?_⟩;obtain⟨o,L⟩:=g.mutate (es:=.lsA b (M++[d])) (us:=.lst (us++[u])) r q trivial λF H' N J=>⟨rfl,_,J,Rps.mono N (Rps.append (Rps.mono (Ul l λ_ _ _ z=>z) p)<|.cons (A.shd g.same f.zm l o) .nil)⟩;exact e.nx _ _ _ n.2 o ((Fr.grow l).trans L)
  ·exact n.elim
 ·exact h.elim
end
section
variable {X:Cx}{K:Yo}
def Rl(b:X.A.in1.units<cLine)(f:autoParam (X.K=K) au_0):OpR X (compareOp .In) (λx y H Q=>rIn K false x y H Q\/Px false x y H Q):=(Rt f).or (M7 b)
def Zau(b:X.A.in1.units<cLine)(f:autoParam (X.K=K) au_0):OpR X (compareOp .NotIn) (λx y H Q=>rIn K true x y H Q\/Px true x y H Q):=(Lz f).or (M3 b)
def F6(b:X.A.units<cLine)(f:autoParam (X.K=K) au_0):OpR X (compareOp .Eq) (λx y H Q=>rEq x y H Q\/X8 K false x y H Q):=by subst f;exact op_eq.or (Iz b)
def HQ(b:X.A.units<cLine)(f:autoParam (X.K=K) au_0):OpR X (compareOp .NotEq) (λx y H Q=>rNe x y H Q\/X8 K true x y H Q):=by subst f;exact op_ne.or (Fb b)
def SX(f:PE X e te)(g:autoParam (X.K=K) au_0)(b:autoParam (∀whole,isTrue e X.env whole=(do let v ←whole;standAt e.pos;holding [v] (truthy v))) au_3):PT X e (AM K te):=by
 subst g;exact Za7 f b
def To(b:autoParam (X.K=K) au_0):Xd X (.type "list") (λxs H Q=>∃p ys,xs=[.ref p]/\(SqL K H p ys\/SqT K H p ys)/\∀l,H l=none->Q (.ref l) (upd H l<|.lst ys)):=by subst b;exact IS
def KR(f:autoParam (X.K=K) au_0):Xd X (.builtin "isinstance") (λxs H Q=>∃x n t b,xs=[x,.ty n]/\UW K H x t/\PySem.W.kitOne K t (.type n)=some b/\Q (.bl b) H):=by subst f;exact LQ
def BX(b:autoParam (X.K=K) au_0):SlR X (T3 K):=by subst b;exact Ic
def Ay(f:X.calm=true){w}(g:autoParam (X.K=K) au_0)(hw:autoParam (X.w=w) au_0):Xd X (.builtin "sorted") (λxs H Q=>∃p b,xs=[.ref p]/\b.length<64/\(SqL K H p (b.map V.int)\/H p=some (Kn w p b))/\
  ∀l (ns:Yq),H l=none->ns.Perm b->ns.Pairwise (·<=·)->Q (.ref l) (upd H l<|.lst<|ns.map V.int)):=by subst g;subst hw;exact Fc f
def KM{f l b}(g:PE X l b)(h:autoParam (X.K=K) au_0):PI X f l (KS K b):=by subst h;exact FG g
end
section
variable {P:Program}{w:World}{K:Yo}{mg:Ys}{base:Heap}{H H':Hp}
def LN(C:Callee P w K mg base CX k x ps sp)(h:∀ds R X vs H Q E,Rps K H ds vs->c ds R X->(∀s v H',R s->Same H H'->TV K (λb=>Mut (H b)) H H H' s v->Q v H')->(∀e H',X e->Same H H'->XE mg E e H')->sp vs H Q E) :
  Callee P w K mg base CX k x ps (Um mg c K):=by
 obtain⟨f,o,F,rest⟩:=C.ex;exact⟨f,o,F.imp λvs H Q E ⟨ds,R,X,r,g,n,l⟩=>h ds R X vs H Q E r g n l,rest⟩
def Rp.pairs_inv {v} (h:Rp K H (.lst<|ps.map prD) v):∃a,v=.ref a/\LAt Xg H a ps:=by
 obtain⟨a,b,rfl,f,r⟩:=h.lst_inv;exact⟨a,rfl,b,f,r.lv⟩
def Ry{ns:Yq}(n:H a=none)(h:H' a=some (.lst<|ns.map V.int)):TV K (λb=>Mut (H b)) H H H' (.own<|ns.map D.int) (.ref a):=⟨a,rfl,(λ_ e=>e▸n),_,h,Rps.of_ints ns⟩
theorem Bw:∀(ns:Yq),UH (ns.map D.int)=true
 |[]=>rfl
 |n::r=>by rw[WM];unfold UH;rw[Bw r];unfold imm;rfl
def Rv(p:Int×Int):imm (prD p)=true:=rfl
theorem Kz:∀(ps:Yp),UH (ps.map prD)=true
 |[]=>rfl
 |p::r=>by rw[WM];unfold UH;rw[Kz r,Rv];rfl
def Zba{b:Type}{f:b->D}{xs:List b}{i}(h:i<xs.length):(xs.map f).getD i .non=f xs[i]:=by grind
def CK{b:Type}{f:b->D}{xs:List b}{i}(g:0<=i)(h:i<(xs.length:Int)):atI (xs.map f) i=some (f (xs[i.toNat]'(by lia))):=by
 have l:i.toNat<xs.length:=by lia
 exact KH (TM g<|Wj l)
def BI{b:Type}{f:b->D}{xs:List b}{i}(h:i<xs.length):atI (xs.map f) (i:Int)=some (f xs[i]):=KH (NY<|Wj h)
def Kj{l:Type}{φ}{γ}{g}{c}{e}{s:S}{R}{xs:List l}{emb}(f:l->Option D)(n:xs.length<=100000)(turn:∀x∈xs,g (s.sub<|emb x) (atP φ γ) λh=>c h (λb=>if b=true then e h (λs=>∃d,s.shd=some d/\f x=some d) (λ_=>False)else f x=none) λ_=>False)(done:R (.own<|xs.filterMap f)) :
  Pr φ γ g c e (xs.map emb).length (λi=>s.sub ((xs.map emb).getD i .non)) R:=by
 rw[Wk];refine⟨⟨n,λi=>(xs[i]?).bind f,λi o=>?_,by rw[MB];exact done⟩⟩;simp_all
def HG{g c e item R n}(f:Nat->Option D)(l:n<=100000)(turn:∀i,i<n->g (item i) (atP φ γ) λh=>c h (λb=>if b=true then e h (λs=>∃d,s.shd=some d/\f i=some d) (λ_=>False)else f i=none) λ_=>False)(done:R (.own ((List.range n).filterMap f))) :
  Pr φ γ g c e n item R:=⟨⟨l,f,turn,done⟩⟩
def PX{n:Type}{js}{γ}{g}{body}{s:S}{R}{xs:List n}{emb}(inv:Nat->Γ->Prop)(p:inv 0 (clr js γ))(turn:∀i o b,inv i b->g (s.sub (emb xs[i])) b λl=>body {R with nx:=λf=>inv (i+1) (clr js f),ct:=λf=>inv (i+1) (clr js f),bk:=R.nx} l)(done:∀b,inv xs.length b->R.nx b) :
  SZ js γ g body R (xs.map emb).length (λi=>s.sub ((xs.map emb).getD i .non)):=by
 refine⟨⟨inv,p,λi b o h=>?_,λb h=>?_⟩⟩
 ·grind
 ·grind
def PB{n item}(inv:Nat->Γ->Prop)(o:inv 0 (clr l γ))(turn:∀i b,i<n->inv i b->g (item i) b λh=>body {R with nx:=λf=>inv (i+1) (clr l f),ct:=λf=>inv (i+1) (clr l f),bk:=R.nx} h)(done:∀b,inv n b->R.nx b):SZ l γ g body R n item:=⟨⟨inv,o,turn,done⟩⟩
def G3(inv:Γ->Prop)(h:Γ->Nat)(n:inv (clr l γ))(turn:∀f,inv f->c f (λb=>if b=true then body {R with nx:=λg=>inv (clr l g)/\h (clr l g)<h f,ct:=λg=>inv (clr l g)/\h (clr l g)<h f,bk:=R.nx} f else R.nx f) (R.ex f)):AY l γ c body R:=⟨⟨inv,h,n,turn⟩⟩
def Dt(J:Γ->Prop)(g:p {R with nx:=J} γ)(f:∀b,J b->q R b):DQ p q R γ:=⟨⟨J,g,f⟩⟩
theorem N0{b:Type}(c:b->Bool)(emb:b->D):∀f:List b,f.filterMap (λq=>if c q=true then some (emb q)else none)=(f.filter c).map emb
 |[]=>rfl
 |q::r=>by
  by_cases h:c q=true
  ·rw[List.filterMap_cons_some (by rw[Wr h]),List.filter_cons_of_pos h,WM,N0 c emb r]
  ·rw[List.filterMap_cons_none (by grind),List.filter_cons_of_neg h,N0 c emb r]
def R0(xs:List b){n}(h:0<=n):cutD xs (some n) none=xs.drop n.toNat:=by
 unfold cutD;have e:n=(n.toNat:Int):=by lia
 rw[HT.Hl,e,HT.HD,Qa];by_cases c:n.toNat<=xs.length
 ·grind
 ·rw[Nat.min_eq_right (by lia),List.drop_of_length_le (Wp _),List.drop_of_length_le (by lia)];simp
noncomputable def BB(K:Yo):Sp:=λb H Q _=>∃(a:Addr) (f:Yq),b=[.ref a]/\SqL K H a (f.map V.int)/\∀H',Q (.bl true) H'
noncomputable def DC:Pc:=λf R _=>∃b:Yq,f=[.scr b]/\R (.sh<|.bl true)
def Ld(h:BB K vs H Q l):Um mg DC K vs H Q l:=by
 obtain⟨a,b,rfl,g,q⟩:=h;refine⟨[.scr b],λs=>s=.sh (.bl true),λ_=>False,.cons (.scr g) .nil,⟨b,rfl,rfl⟩,λs v H' e n f=>?_,λ_ _ z=>z.elim⟩;subst e;cases f
 grind
end
section
variable {K:Yo}{mg:Ys}{E:L2.St->XK}{H0 H H1 H':Hp}{B Z Z':Addr->Prop}{σ:L2.St}{γ:Γ}
noncomputable def Nl:D->Option V
 | .int i=>some (.int i) | .bl b=>some (.bl b) | .non=>some .non | .str x=>some (.str x)|_=>none
noncomputable def vD:V->D
 | .int i=>.int i | .bl b=>.bl b | .str x=>.str x|_=>.non
noncomputable def En:V->Bool
 | .int _=>true | .bl _=>true | .str _=>true | .non=>true|_=>false
def SJ(h:Rp K H d v)(e:Nl d=some u):v=u:=by
 cases h with
 |int i|bl b|non|str x=>cases e;rfl
 |_=>cases e
noncomputable def PL:D->Option Key
 | .int i=>some (.inl i) | .str x=>some (.inr x)|_=>none
noncomputable def Ng:List D->Option (List Key)
 |[]=>some []
 |d::r=>match PL d,Ng r with
  |some k,some b=>some (k::b)
  |_,_=>none
noncomputable def T9:D->Option (List Key)
 | .tup b=>Ng b
 |_=>none
def NK(h:Rp K H d v)(e:PL d=some k):v=kV k:=by
 cases h with
 |int i|str x=>cases e;rfl
 |_=>cases e
def Of:∀{ds vs}{b:List Key},Rps K H ds vs->Ng ds=some b->vs=b.map kV:=by
 intro ds
 induction ds with
 |nil=>
  intro _ _ h e;cases h
  cases e
  rfl
 |cons _ _ f=>
  intro _ b h e;cases h with
  |cons h r=>
   unfold Ng at e;split at e
   ·rename_i k n l g;cases e
    rw[NK h l,f r g];rfl
   ·grind
def DT(h:Rp K H d v)(e:T9 d=some f):∃b,v=.ref b/\H b=some (.tup<|f.map kV):=by
 cases h with
 |tup h r=>
  rw[Of r e]at h
  grind
 |_=>cases e
def Rp.dK_inv (h:Rp K H (.dK b) v):∃a,v=.ref a/\H a=some (.dK b):=by
 cases h with
 |dK h=>grind
def Rp.dT_inv (h:Rp K H (.dT b) v):∃a,v=.ref a/\H a=some (.dT b):=by
 cases h with
 |dT h=>grind
noncomputable def Gs:PTE:=λ_ R _=>R (.own<|.dK [])
def G6:Ub K mg E Ap Gs:=by
 intro H0 B H σ γ R X Q f p q _ l b;exact q _ _ _ p (UJ b) ⟨l,rfl,(λ_ e=>e▸b),Ur⟩
def Zbh:S->S->(S->Prop)->Prop:=λx y R=>match x.d with
 | .dK b=>∃k v,PL y.d=some k/\Us b k=some v/\En v=true/\R (.sh<|vD v)
 | .dT b=>∃k v,T9 y.d=some k/\Us b k=some v/\En v=true/\R (.sh<|vD v)
 |_=>False
def Ag(neg:Bool):S->S->(S->Prop)->Prop:=λy x R=>match x.d with
 | .dK b=>∃k,PL y.d=some k/\R (.sh<|.bl (if neg then !(Us b k).isSome else(Us b k).isSome))
 | .dT b=>∃k,T9 y.d=some k/\R (.sh<|.bl (if neg then !(Us b k).isSome else(Us b k).isSome))
 |_=>False
def O3{w f a b}(J:Ub K mg E f a)(p:Ub K mg E w b):Ub K mg E (FJ f w) (p2 a b<|Ag true):=by
 refine Xu J p λH0 H C Z y x u v R Q z L M f G h q=>?_;have g:=G.rp z;have A:=f.rp z;unfold Ag at h;split at h
 ·rename_i n e;rw[e]at g;obtain⟨l,rfl,o⟩:=g.dK_inv;obtain⟨k,s,r⟩:=h;refine⟨l,_,rfl,?_,q _ _ C r (Same.refl _) (.bl _)⟩;rw[NK A s];exact DGet.k o
 ·rename_i n e;rw[e]at g;obtain⟨l,rfl,o⟩:=g.dT_inv;obtain⟨k,s,r⟩:=h;obtain⟨b,rfl,p⟩:=DT A s;exact⟨l,_,rfl,DGet.t o p,q _ _ C r (Same.refl _) (.bl _)⟩
 ·grind
noncomputable def D7(i:Nat)(b a:PTE):PTS:=λR γ=>match γ[i]? with
 |some (some<|.own<|.dK f)=>a γ (λs=>b γ (λy=>∃k u,PL y.d=some k/\Nl s.d=some u/\f.length<100000/\R.nx (γ.set i<|some<|.own<|.dK<|putK f k u)) (R.ex γ)) (R.ex γ)
 |some (some<|.own<|.dT f)=>a γ (λs=>b γ (λy=>∃k u,T9 y.d=some k/\Nl s.d=some u/\f.length<100000/\R.nx (γ.set i<|some<|.own<|.dT<|putK f k u)) (R.ex γ)) (R.ex γ)
 |_=>False
def Lq(i:Nat){ty tv a b}(hb:Ub K mg E ty b)(ha:Ub K mg E tv a):Uk K mg E (FN (Xh i) ty tv) (D7 i b a):=by
 intro H0 B H σ γ R D hB n h e;have hx:=λc H' C r=>e.ex σ γ c H' C (n.grow r) (Fr.grow r);unfold D7 at h;split at h
 ·rename_i o A;obtain⟨v,x,l,rfl,U,T⟩:=n.slot i _ A;refine ha H0 B H σ γ _ _ _ n h (λs u H1 h1 p J=>⟨_,x,?_⟩) hx;have f:=n.grow p;refine hb H0 B H1 σ γ _ _ _ f h1 (λy w H2 h2 q G=>?_) λc H' C r=>hx c H' C (p.trans r);obtain⟨k,z,Q,N,M,L⟩:=h2;have g:=f.grow q;have eu:=SJ (J.rp f.same) N;have ew:=NK (G.rp g.same) Q;subst eu ew;refine⟨l,_,rfl,DPut.k (q _ _<|p _ _ T) (Q6 M<|by decide),?_⟩;obtain⟨e2,f2⟩:=g.mutate (es:=.dK (putK o k u)) (us:=.dK (putK o k u)) A x trivial λF H' SF hF=>hF;exact e.nx _ _ _ L e2 ((Fr.grow<|p.trans q).trans f2)
 ·rename_i o A;obtain⟨v,x,l,rfl,U,T⟩:=n.slot i _ A;refine ha H0 B H σ γ _ _ _ n h (λs u H1 h1 p J=>⟨_,x,?_⟩) hx;have f:=n.grow p;refine hb H0 B H1 σ γ _ _ _ f h1 (λy w H2 h2 q G=>?_) λc H' C r=>hx c H' C (p.trans r);obtain⟨k,z,Q,N,M,L⟩:=h2;have g:=f.grow q;have eu:=SJ (J.rp f.same) N;obtain⟨b',rfl,Y⟩:=DT (G.rp g.same) Q;subst eu;refine⟨l,_,rfl,DPut.t (q _ _<|p _ _ T) Y (Q6 M<|by decide),?_⟩;obtain⟨e2,f2⟩:=g.mutate (es:=.dT (putK o k u)) (us:=.dT (putK o k u)) A x trivial λF H' SF hF=>hF;exact e.nx _ _ _ L e2 ((Fr.grow<|p.trans q).trans f2)
 ·exact h.elim
noncomputable def A7(a:PTE):PTS:=λR γ=>a γ (λs=>match s.shd with|some d=>R.rt (.sh d)|none=>False) (R.ex γ)
def Mo(r:Ub K mg E te a):Uk K mg E (Po te) (A7 a):=by
 intro H0 B H σ γ R D u f h e;refine r H0 B H σ γ _ _ _ f h (λs v H1 l g o=>?_) λc H' q n=>e.ex σ γ c H' q (f.grow n) (Fr.grow n);split at l
 ·rename_i d p;exact e.rt (.sh d) v H1 l (f.same.trans g) (Rp.mono (Ul (Same.refl _) λb _ _ z y=>z (.inl y)) (o.shd (f.grow g).same f.zm g p))
 ·grind
noncomputable def EK(i:Nat)(γ:Γ):Nat:=match γ[i]? with
 |some (some<|.own<|.lst b)=>b.length
 |_=>0
def RW(d:b)(ds:List b):atI (d::ds) 0=some d:=TM (by simp) rfl
noncomputable def em(l:Int)(p:Yq):D:=.lst ((l::p).map D.int)
def BJ(l:Int)(p:Yq):atI ((l::p).map D.int) (-1)=some (.int<|Uq l p):=by
 refine KH ?_;unfold atI ixN;rw[Wq (by lia),Wr (by grind)];have e:(-1+((l::p).length:Int)).toNat=p.length:=by grind
 rw[e];exact Sg l p
def Zbj:List S->(S->Prop)->Prop
 |[s],R=>∃b:Yq,s.d=.lst (b.map D.int)/\R (.sh<|.int b.sum)
 |_,_=>False
theorem Rps.bls:∀{b:List Bool}{vs:List V},Rps K H (b.map D.bl) vs->vs=b.map V.bl
 |[],_,.nil=>rfl
 |j::r,_,.cons h t=>by rw[Rp.bl_inv h,Rps.bls t];rfl
def FW(neg:Bool):S->S->(S->Prop)->Prop:=λx y R=>match x.d,y.d with
 | .lst b,.lst []=>R (.sh<|.bl (if neg then !b.isEmpty else b.isEmpty))
 |_,_=>False
def GI{n g a b}(L:Ub K mg E n a)(J:Ub K mg E g b):Ub K mg E (tOp (Ad K neg) n g) (p2 a b<|FW neg):=by
 refine Xu L J λH0 H T Z x y v u R Q o Y hm A z h q=>?_;have s:=A.rp o;have p:=z.rp o;unfold FW at h;split at h
 ·rename_i ds N M;rw[N]at s;rw[M]at p;obtain⟨l,w,rfl,G,r⟩:=s.lst_inv;obtain⟨m,U,rfl,f,C⟩:=p.lst_inv;cases C
  refine⟨l,m,w,rfl,rfl,SqL.of G,SqL.of f,?_⟩;rw[Sz r.len];exact q _ _ T h (Same.refl _) (.bl _)
 ·grind
def Ue.gone (N:Ue K H0 B H σ γ) (i:Nat):Ue K H0 B H (σ.set i none) (γ.set i none)/\Fr B H σ γ H (σ.set i none) (γ.set i none):=by
 obtain⟨l,f1⟩:=N.drop i
 have f:∀j s,(γ.set i none)[j]?=some (some s)->j≠i:=λj s h=>by
  rcases Ux h with⟨_,e,_⟩|⟨n,_⟩
  ·cases e
  ·exact n
 have C:∀b,zof B (γ.set i none) (σ.set i none) b↔zof B (γ.set i none) σ b:=λb=>by
  constructor
  ·rintro(z|⟨j,p,x,g,q,r⟩)
   ·exact .inl z
   ·rw[X3 (f j _ g)]at q;exact .inr ⟨j,p,x,g,q,r⟩
  ·rintro(z|⟨j,p,x,g,q,r⟩)
   ·exact .inl z
   ·exact .inr ⟨j,p,x,g,by rw[X3 (f j _ g)];exact q,r⟩
 have ez:=funext λb=>propext (C b);refine⟨⟨l.same,by rw[WA];exact l.len,l.bm,λk j a M p L b w u A y J G=>?_,λj s h=>?_⟩,λb o h z=>?_⟩
 ·rw[X3 (f k _ w)]at A;rw[X3 (f j _ u)]at y;exact l.own k j a M p L b w u A y J G
 ·obtain⟨v,w,u⟩:=l.slot j s h
  grind
 ·rw[ez];exact f1 b o h z
noncomputable def LD(mg:Ys)(l:Yx)(i:Nat)(h f:PTS):PTS:=λR γ=>h {R with ex:=λb c=>c∈l/\f {nx:=λg=>R.nx (g.set i none),rt:=R.rt,ex:=λ_ _=>False,bk:=λg=>R.bk (g.set i none),ct:=λg=>R.ct (g.set i none),rv:=R.rv} (b.set i<|some<|.sh<|.err<|ExcR.Ud mg c)} γ
def Ms{C0}{G:Ends->TS}{ts}{L J}{E'}(C:Yx)(y:∀c∈C,ExcR.U3 K (ExcR.Ud mg c)/\PySem.W.exmOne K (.ref<|ExcR.Ud mg c) (.ref C0)=some true)(hb:∀D,Uk K mg (ExcR.hx K C0 i ts D) (G D) L)(hh:Uk K mg E' ts J)(hd:autoParam (∀c∈C,Kf c=none) au_1):Uk K mg E (λD σ H=>G D D σ H) (LD mg C i L J):=by
 intro H0 B H σ γ R D N A h e;refine hb D H0 B H σ γ _ D N A h ⟨e.nx,e.rt,λw x c H' hc Q f'=>?_,e.bk,e.ct,e.rv⟩;obtain⟨r,Y⟩:=hc;obtain⟨k1,U⟩:=y c r;refine .of (hd c r) ⟨_,rfl,U,λa M=>?_⟩;have T:TV K (zof B x w) H0 H' (upd H' a<|ExcR.Nr a<|ExcR.Ud mg c) (.sh<|.err<|ExcR.Ud mg c) (.ref a):=.err (U1 Ur λz=>by have:=Q.zm a z;rw[M]at this;exact this);obtain⟨e2,f2⟩:=Q.set (UJ (o:=ExcR.Nr a (ExcR.Ud mg c)) M) T rfl;have g:=f'.trans f2;refine hh H0 B _ _ _ _ _ N e2 Y ⟨λb f q l p n=>?_,e.rt,λ_ _ _ _ z=>z.elim,λb f q l p n=>?_,λb f q l p n=>?_,λb f d v q l p n=>e.rv b f d v q l p (g.trans n)⟩
 ·obtain⟨u,s⟩:=p.gone i;exact e.nx _ _ q l u (g.trans<|n.trans s)
 ·obtain⟨u,s⟩:=p.gone i;exact e.bk _ _ q l u (g.trans<|n.trans s)
 ·obtain⟨u,s⟩:=p.gone i;exact e.ct _ _ q l u (g.trans<|n.trans s)
def NQ:Ub K mg E (tC<|.ref a) (pC<|.ref a):=KW λ_=>.ref a
def BW(K:Yo):List S->(S->Prop)->Prop
 |[s,t],R=>(match s.d,t.d with
  | .err C,.ref f=>∃b,ExcR.U3 K C/\PySem.W.kitOne K (.ref C) (.ref f)=some b/\R (.sh<|.bl b)
  | .err C,.ty n=>∃b,ExcR.U3 K C/\PySem.W.kitOne K (.ref C) (.type n)=some b/\R (.sh<|.bl b)
  | .erM C _,.ref f=>∃b,ExcR.Xt K C/\PySem.W.kitOne K (.ref C) (.ref f)=some b/\R (.sh<|.bl b)
  | .erM C _,.ty n=>∃b,ExcR.Xt K C/\PySem.W.kitOne K (.ref C) (.type n)=some b/\R (.sh<|.bl b)
  |_,_=>False)
 |_,_=>False
def Rp.err_inv (h:Rp K H (.err C) v):∃a,v=.ref a/\H a=some (ExcR.Nr a C):=by
 cases h with
 |err h=>grind
def Rp.ref_inv (h:Rp K H (.ref a) v):v=.ref a:=by cases h;rfl
def Rp.erM_inv (h:Rp K H (.erM C r) v):∃a b l o,v=.ref a/\H a=some (ExcR.UN a C<|some b)/\H b=some (.xd [("members",.ref l)])/\H l=some (.frz o<|.lst<|r.map V.int):=by
 cases h with
 |erM n g f=>grind
def TC(U:Uv K mg E M r):Ub K mg E (tCB (λxs H Q=>∃a C z c b,xs=[.ref a,c]/\H a=some (ExcR.UN a C z)/\ExcR.Xt K C/\(∃J,(∀u,RelV c u->u=J)/\PySem.W.kitOne K (.ref C) J=some b)/\Q (.bl b) H) M) (pCB (BW K) r):=by
 refine KI U λH0 H H1 Z ss Y R Q G s1 hm L h q=>?_;unfold BW at h;split at h
 ·obtain⟨v,u,rfl,T,N⟩:=L.two_inv;have g:=T.rp G;have f:=N.rp G;split at h
  ·rename_i C A y x;rw[y]at g;rw[x]at f;obtain⟨a,rfl,o⟩:=g.err_inv;obtain⟨b,w,s,p⟩:=h;rw[f.ref_inv];exact⟨a,C,_,_,b,rfl,o,w.any,⟨.ref A,λu l=>l,s⟩,q _ _ H1 p (Same.refl _) (.bl _)⟩
  ·rename_i C n y x;rw[y]at g;rw[x]at f;obtain⟨a,rfl,o⟩:=g.err_inv;obtain⟨b,w,s,p⟩:=h;rw[f.ty_inv];exact⟨a,C,_,_,b,rfl,o,w.any,⟨.type n,λu l=>l,s⟩,q _ _ H1 p (Same.refl _) (.bl _)⟩
  ·rename_i C r A y x;rw[y]at g;rw[x]at f;obtain⟨a,z,_,_,rfl,o,_,_⟩:=g.erM_inv;obtain⟨b,w,s,p⟩:=h;rw[f.ref_inv];exact⟨a,C,_,_,b,rfl,o,w,⟨.ref A,λu l=>l,s⟩,q _ _ H1 p (Same.refl _) (.bl _)⟩
  ·rename_i C r n y x;rw[y]at g;rw[x]at f;obtain⟨a,z,_,_,rfl,o,_,_⟩:=g.erM_inv;obtain⟨b,w,s,p⟩:=h;rw[f.ty_inv];exact⟨a,C,_,_,b,rfl,o,w,⟨.type n,λu l=>l,s⟩,q _ _ H1 p (Same.refl _) (.bl _)⟩
  ·exact h.elim
 ·exact h.elim
noncomputable def Sb(i:Nat)(b a:PTE):PTS:=λR γ=>match γ[i]? with
 |some (some<|.own<|.lst f)=>a γ (λs=>b γ (λy=>match y.d with
   | .int k=>∃j d,ixN f.length k=some j/\s.shd=some d/\R.nx (γ.set i<|some<|.own<|.lst<|f.set j d)
   |_=>False) (R.ex γ)) (R.ex γ)
 |some (some<|.own<|.lsA x f)=>a γ (λs=>b γ (λy=>match y.d with
   | .int k=>∃j d,ixN f.length k=some j/\s.shd=some d/\R.nx (γ.set i<|some<|.own<|.lsA x<|f.set j d)
   |_=>False) (R.ex γ)) (R.ex γ)
 |_=>False
theorem Rps.set (h:Rp K H d v):∀{ds vs} j,Rps K H ds vs->Rps K H (ds.set j d) (vs.set j v)
 |_,_,_,.nil=>.nil
 |_,_,0,.cons _ r=>.cons h r
 |_,_,j+1,.cons k r=>.cons k (Rps.set h j r)
def RG(i:Nat){tb te a b}(hb:Ub K mg E tb b)(ha:Ub K mg E te a):Uk K mg E (KB te<|B8 (Xh i) tb Bm) (Sb i b a):=by
 intro H0 B H σ γ R D hB g h e;have hx:=λc H' L r=>e.ex σ γ c H' L (g.grow r) (Fr.grow r);unfold Sb at h;split at h
 ·rename_i ds J;obtain⟨v,G,l,rfl,U,us,T,C⟩:=g.slot i _ J;refine ha H0 B H σ γ _ _ _ g h (λs u H1 h1 o N=>⟨_,G,?_⟩) hx;have f:=g.grow o;refine hb H0 B H1 σ γ _ _ _ f h1 (λy w H2 q p M=>?_) λc H' L r=>hx c H' L (o.trans r);have n:=f.grow p;have A:=M.rp n.same;split at q
  ·rename_i k ek;rw[ek]at A;obtain⟨j,d,h3,h4,h5⟩:=q;have Q:=Rp.mono (Ul p λ_ _ _ z=>z) (N.shd f.same g.zm o h4);refine⟨l,us,k,j,rfl,A.int_inv,(o.trans p) _ _ T,by rw[C.len];exact h3,?_⟩;obtain⟨e2,f2⟩:=n.mutate (es:=.lst (ds.set j d)) (us:=.lst (us.set j u)) J G trivial λF H' SF Y=>⟨_,Y,Rps.mono SF (Rps.set Q j<|Rps.mono (Ul (o.trans p) λ_ _ _ z=>z) C)⟩;exact e.nx _ _ _ h5 e2 ((Fr.grow<|o.trans p).trans f2)
  ·exact q.elim
 ·rename_i x ds J;obtain⟨v,G,l,rfl,U,rfl,us,T,C⟩:=g.slot i _ J;refine ha H0 B H σ γ _ _ _ g h (λs u H1 h1 o N=>⟨_,G,?_⟩) hx;have f:=g.grow o;refine hb H0 B H1 σ γ _ _ _ f h1 (λy w H2 q p M=>?_) λc H' L r=>hx c H' L (o.trans r);have n:=f.grow p;have A:=M.rp n.same;split at q
  ·rename_i k ek;rw[ek]at A;obtain⟨j,d,h3,h4,h5⟩:=q;have Q:=Rp.mono (Ul p λ_ _ _ z=>z) (N.shd f.same g.zm o h4);refine⟨l,us,k,j,rfl,A.int_inv,(o.trans p) _ _ T,by rw[C.len];exact h3,?_⟩;obtain⟨e2,f2⟩:=n.mutate (es:=.lsA l (ds.set j d)) (us:=.lst (us.set j u)) J G trivial λF H' SF Y=>⟨rfl,_,Y,Rps.mono SF (Rps.set Q j<|Rps.mono (Ul (o.trans p) λ_ _ _ z=>z) C)⟩;exact e.nx _ _ _ h5 e2 ((Fr.grow<|o.trans p).trans f2)
  ·exact q.elim
 ·exact h.elim
def Zbk:S->S->(S->Prop)->Prop:=λx y R=>match x.d,y.d with
 | .lst b,.int k=>x.free b=true/\(-(2 ^ 63)<=k/\k<2 ^ 63)/\b.length*k.toNat<=10000000/\R (.own (.lst (List.replicate k.toNat b).flatten))
 |_,_=>False
noncomputable def Pa:List D->Option (List V)
 |[]=>some []
 |d::r=>match Nl d,Pa r with
  |some v,some b=>some (v::b)
  |_,_=>none
theorem Sd:∀{ds}{vs us:List V},Rps K H ds vs->Pa ds=some us->vs=us
 |[],_,_,.nil,e=>by cases e;rfl
 |d::r,_,us,.cons h t,e=>by
  unfold Pa at e;split at e
  ·rename_i v vs f b;cases e
   rw[SJ h f,Sd t b]
  ·grind
def Cr(neg:Bool):S->S->(S->Prop)->Prop:=λx y R=>match x.d,y.d with
 | .lst h,.lst g=>∃f b,Pa h=some f/\Pa g=some b/\f.all UY=true/\b.all UY=true/\R (.sh<|.bl (if neg then !eqL f b else eqL f b))
 |_,_=>False
def A1{n g a b}(N:Ub K mg E n a)(M:Ub K mg E g b):Ub K mg E (tOp (X8 K neg) n g) (p2 a b<|Cr neg):=by
 refine Xu N M λH0 H H2 Z x y v u R Q o s1 hm J G h q=>?_;unfold Cr at h;have s:=J.rp o;have p:=G.rp o;split at h
 ·rename_i ds es e1 e2;rw[e1]at s;rw[e2]at p;obtain⟨C,z,h1,h2,Y,U,T⟩:=h;obtain⟨l,vs,rfl,w,r⟩:=s.lst_inv;obtain⟨m,A,rfl,f,L⟩:=p.lst_inv;rw[Sd r h1]at w;rw[Sd L h2]at f;exact⟨l,m,C,z,rfl,rfl,SqL.of w,SqL.of f,Y,U,q _ _ H2 T (Same.refl _) (.bl _)⟩
 ·grind
def Dm(b:X.A.units<cLine)(f:autoParam (X.K=K) au_0):OpR X (compareOp .NotEq) (X8 K true):=by subst f;exact Fb b
end
end Pu
namespace M
open L2 Own Pu
noncomputable def oc(c:Int->Int->Int):Yq->Int
 |[]=>0
 |a::r=>(r.map<|c a).sum+oc c r
end M
namespace Pu
open L2 Own
section
variable {K:Yo}{mg:Ys}{E:L2.St->XK}{H0 H H1 H':Hp}{B Z Z':Addr->Prop}{σ:L2.St}{γ:Γ}
def O.from:O->O->Prop
 | .ins x _ _ g,.ins f _ _ b=>f=x/\∀c∈g,∃h∈b,h.1=c.1
 | .lsA x _,.lsA f _=>f=x
 | .nsl x g,.nsl f b=>f=x/\b.map (·.1)=g.map (·.1)
 |_,_=>False
def O.from_adr {o o':O}{a} (h:o.from o'):∀b,o.adr a b->o'.adr a b:=by
 unfold O.from at h
 split at h
 ·intro b g;rcases g with g|⟨c,p,g⟩
  ·exact .inl (g.trans h.1.symm)
  ·obtain⟨q,n,l⟩:=h.2 c p;exact .inr ⟨q,n,g.trans l.symm⟩
 ·intro b g;exact g.trans h.symm
 ·intro b g;rcases g with g|⟨c,p,g⟩
  ·exact .inl (g.trans h.1.symm)
  ·have m:=QN (f:=(·.1)) p;rw[←h.2]at m;obtain⟨q,n,l⟩:=WT.mp m;exact .inr ⟨q,n,g.trans l.symm⟩
 ·grind
def O.from_at {a g}{F l H H'} (h:o.from o') (f:OR K F H a o) (b:OR K l H' g o'):g=a:=by
 unfold O.from at h
 split at h
 ·exact b.1.trans (h.1.trans f.1.symm)
 ·exact b.1.trans (h.trans f.1.symm)
 ·exact b.1.trans (h.1.trans f.1.symm)
 ·grind
abbrev Pw:=O->List S->(O->D->Prop)->(O->Str->Prop)->Prop
noncomputable def S.pass:S->Option S
 | .sh d=>some (.sh d) | .own o=>some (.sh o.d)
 | .bor d=>match imm d with|true=>some (.sh d)|false=>some (.bor d)
 | .tmp d=>match imm d with|true=>some (.sh d)|false=>none
 | .view _=>none
def S.flat:S->Prop
 | .sh _=>True | .bor _=>True|_=>False
noncomputable def passes:List S->Option (List S)
 |[]=>some []
 |s::r=>match s.pass,passes r with|some b,some f=>some (b::f)|_,_=>none
structure After (K:Yo) (B:Addr->Prop) (H:Hp) (a:Addr) (o o':O) (H':Hp):Prop where
 same:Same (off (o.adr a) H) H'
 old:∀b,o.adr a b->o'.adr a b
 new:∀b,o'.adr a b->o.adr a b\/H b=none
 at_:OR K (off (λb=>B b\/o'.adr a b) H') H' a o'
noncomputable def spW(mg:Ys)(c:Pw)(K:Yo):Sp:=λl H Q E=>∃(o:O) (a:Addr) (g:List S) (h:List V) (B:Addr->Prop) (R:O->D->Prop) (X:O->Str->Prop),
 l=.ref a::h/\(∀b,B b->Mut (H b)/\¬o.adr a b)/\OR K (off (λb=>B b\/o.adr a b) H) H a o/\TVs K (λb=>B b\/o.adr a b) (off (o.adr a) H) H H g h/\(∀s∈g,s.flat)/\c o g R X/\
 (∀f d v H',R f d->After K B H a o f H'->Rp K (off (λb=>B b\/f.adr a b) H') d v->Q v H')/\∀f e H',X f e->After K B H a o f H'->XE mg E e H'
def TVs.get:∀{b vs}{i:Nat}{s:S},TVs K Z H0 H H' b vs->b[i]?=some s->∃v,vs[i]?=some v/\TV K Z H0 H H' s v:=by
 intro n
 induction n with
 |nil=>
  intro _ i _ h e;simp at e
 |cons _ _ f=>
  intro _ i d h e;cases h with
  |cons h r=>
   cases i with
   |zero=>
    simp at e;subst e;exact⟨_,rfl,h⟩
   |succ i=>
    obtain⟨v,l,g⟩:=f r (by simpa using e);exact⟨v,by simpa using l,g⟩
noncomputable def Ka(N:Yx)(o:O)(b:List S):Γ:=some (.own o)::(b.map some++List.replicate (N.length-(b.length+1)) none)
def O9{o a f us}(T:∀b,B b->Mut (H b)/\¬o.adr a b)(M:OR K (off (λb=>B b\/o.adr a b) H) H a o)(r:TVs K (λb=>B b\/o.adr a b) (off (o.adr a) H) H H f us)(L:∀s∈f,s.flat)(hn:f.length+1<=N.length) :
  Ue K (off (o.adr a) H) B H (start N (.ref a::us)) (Ka N o f):=by
 have get:∀i s,(Ka N o f)[i+1]?=some (some s)->f[i]?=some s:=λi s h=>by
  unfold Ka at h;rw[List.getElem?_cons_succ]at h;by_cases p:i<f.length
  ·rw[Qj (by rw[Wk];exact p),Ws,Wj p]at h;rw[Wj p];exact WG some (Wv<|Wv h)
  ·rw[Qh (by rw[Wk];lia),QZ]at h;split at h<;>cases h
 have noown:∀i g,(Ka N o f)[i+1]?≠some (some<|.own g):=λi g h=>L _ (W5<|get i _ h)
 have n:(start N (V.ref a::us))[0]?=some (some<|.ref a):=by
  unfold L2.start;rfl
 have C:∀b,zof B (Ka N o f) (start N (V.ref a::us)) b->B b\/o.adr a b:=λb z=>by
  rcases z with z|⟨i,g,a',l,u,U⟩
  ·exact .inl z
  ·cases i with
   |zero=>
    cases u
    have:o=g:=by
     cases l
     rfl
    subst this;exact .inr U
   |succ i=>exact absurd l (noown i g)
 refine⟨off_sub,?_,λb h=>(T b h).1,λi j x Y g w b l u _ _ _ _=>?_,λi s h=>?_⟩
 ·unfold L2.start Ka;simp[r.len]
 ·cases i with
  |succ i=>exact absurd l (noown i g)
  |zero=>
   cases j with
   |zero=>rfl
   |succ j=>exact absurd u (noown j w)
 ·cases i with
  |zero=>
   have h:=h;cases h
   refine⟨_,n,a,rfl,λb Q=>?_,M.mono (Ul (Same.refl _) λb _ _ z y=>z (C b y)) λ_ _ _ q=>q⟩;unfold off;rw[Wr Q]
  |succ i=>
   have J:=get i s h;obtain⟨v,G,A⟩:=r.get J;refine⟨v,?_,?_⟩
   ·unfold L2.start;rw[Qj (by rw[Wk,QG];have:=(W4.mp G).1;lia),Ws,List.getElem?_cons_succ,G];rfl
   ·have:=L s (W5 J)
    cases s with
    |bor d=>exact A
    |sh d=>exact Rp.mono (Ul (Same.refl _) λb _ _ z y=>z (C b y)) A
    |_=>exact this.elim
def Ck(o:O)(R:O->D->Prop)(γ:Γ)(d:D):Prop:=∃b,γ[0]?=some (some<|.own b)/\o.from b/\R b d
def Gu(o:O)(X:O->Str->Prop)(γ:Γ)(e:Str):Prop:=∃b,γ[0]?=some (some<|.own b)/\o.from b/\X b e
noncomputable def F7(o:O)(R:O->D->Prop)(X:O->Str->Prop):X7:={nx:=λγ=>Ck o R γ .non,rt:=λ_=>False,ex:=Gu o X,rv:=Ck o R}
def NP{σ'}{γ'}(n:OR K (off (λb=>B b\/o.adr a b) H) H a o)(e:Ue K (off (o.adr a) H) B H' σ' γ')(h:γ'[0]?=some (some<|.own o'))(k:o.from o'):After K B H a o o' H'/\∀b,B b\/o'.adr a b->zof B γ' σ' b:=by
 obtain⟨v,s,f,rfl,r,l⟩:=e.slot 0 _ h;have u:=O.from_at k n l;subst u;have g:∀b,B b\/o'.adr f b->zof B γ' σ' b:=λb z=>z.imp id λz=>⟨0,o',f,h,s,z⟩;refine⟨⟨e.same,O.from_adr k,λb p=>?_,l.mono (Ul (Same.refl _) λb _ _ z y=>z (g b y)) λ_ _ _ q=>q⟩,g⟩
 have:=r b p
 unfold off at this;by_cases q:o.adr f b
 ·exact .inl q
 ·grind
def O6{t p vs Q U n}(h:spW mg c K vs H Q U)(J:Uk K mg (λ_=>U) t p)(hn:n+1<=N.length)(L:∀o s R X,c o s R X->s.length=n/\p (F7 o R X) (Ka N o s)):t {nx:=λ_ H'=>Q .non H',rt:=Q} (start N vs) H:=by
 obtain⟨o,a,s,us,B,R,X,rfl,T,G,r,hf,hc,M,hX⟩:=h;obtain⟨e,L⟩:=L o s R X hc;refine J _ B H _ _ _ _ (λb z=>?_) (O9 T G r hf<|by rw[e];exact hn) L ⟨λl q H' A C f1=>?_,λ_ _ _ z=>z.elim,λl q c H' A C f1=>?_,λ_ _ _ z=>z.elim,λ_ _ _ z=>z.elim,λl q d v H' A C f1 Y=>?_⟩
 ·obtain⟨g,f⟩:=T b z;obtain⟨x,hx⟩:=Kv g;exact⟨x,U1 hx f⟩
 ·obtain⟨w,g,f,u⟩:=A;exact M w .non .non H' u (NP G C g f).1 .non
 ·obtain⟨w,g,f,u⟩:=A;exact hX w c H' u (NP G C g f).1
 ·obtain⟨w,g,f,u⟩:=A;obtain⟨k1,k2⟩:=NP G C g f;exact M w d v H' u k1 (Rp.mono (Ul (Same.refl _) λb _ _ z y=>z (k2 b y)) Y)
def Ir(h:spW mg c K vs H Q p)(f:∀o b R X,c o b R X->b.length=n):vs.length=n+1:=by
 obtain⟨o,a,b,l,B,R,X,rfl,_,_,r,_,g,_⟩:=h;rw[QG,r.len,f o b R X g]
abbrev PTW:=Γ->(Γ->D->Prop)->(Γ->Str->Prop)->Prop
def Nt(K:Yo)(mg:Ys)(E:L2.St->XK)(t:TE)(p:PTW):Prop:=∀(H0:Hp) (B:Addr->Prop) (H:Hp) (σ:L2.St) (γ:Γ) (R:Γ->D->Prop) (X:Γ->Str->Prop) (Q:VK),(∀b,B b->∃o,H0 b=some o)->Ue K H0 B H σ γ->p γ R X->
 (∀f d v H',R f d->Ue K H0 B H' σ f->Fr B H σ γ H' σ f->Rp K (off (zof B f σ) H') d v->Q v H')->(∀f c H',X f c->Ue K H0 B H' σ f->Fr B H σ γ H' σ f->XE mg (E σ) c H')->t σ H Q
variable {te:TE}{w:PTW}
noncomputable def Iy(w:PTW):PTS:=λR γ=>w γ (λb _=>R.nx b) R.ex
def Ny(hw:Nt K mg E te w):Uk K mg E (Pp te) (Iy w):=by
 intro H0 B H σ γ R D l f h e;exact hw H0 B H σ γ _ _ _ l f h (λb d v H1 n p f1 _=>e.nx σ b H1 n p f1) λb c H' g q o=>e.ex σ b c H' g q o
noncomputable def OL(w:PTW):PTS:=λR γ=>w γ R.rv R.ex
def Ha(hw:Nt K mg E te w):Uk K mg E (Po te) (OL w):=by
 intro H0 B H σ γ R D n f h e;exact hw H0 B H σ γ _ _ _ n f h (λb d v H1 o q f1 g=>e.rv σ b d v H1 o q f1 g) λb c H' l r p=>e.ex σ b c H' l r p
noncomputable def Za3(a:PTE):PTS:=λR γ=>a γ (λs=>match s.shd with|some d=>R.rv γ d|none=>False) (R.ex γ)
def Hn(p:Ub K mg E te a):Uk K mg E (Po te) (Za3 a):=by
 intro H0 B H σ γ R D r b h e;refine p H0 B H σ γ _ _ _ b h (λs v H1 g f n=>?_) λc H' o l=>e.ex σ γ c H' o (b.grow l) (Fr.grow l);split at g
 ·rename_i d q;exact e.rv σ γ d v H1 g (b.grow f) (Fr.grow f) (n.shd (b.grow f).same b.zm f q)
 ·grind
def GB{s b:S}(h:s.pass=some b):b.flat:=by
 cases s with
 |bor d=>unfold S.pass at h;cases q:imm d<;>simp[q]at h<;>subst h<;>trivial
 |tmp d=>
  unfold S.pass at h;cases q:imm d<;>simp[q]at h
  subst h;trivial
 |view o=>cases h
 |_=>cases h;trivial
theorem BL:∀{f b:List S},passes f=some b->∀s∈b,s.flat
 |[],_,h=>by cases h;simp
 |s::r,_,h=>by
  unfold passes at h;split at h
  ·rename_i n o l g;cases h
   intro x hx;rcases Wu.mp hx with rfl|hx
   ·exact GB l
   ·exact BL g x hx
  ·grind
def TV.pass {v P W f} (r:Same H0 H') (n:∀b,Z b->Mut (H b)) (x:Same H H') (p:Same H0 (off P f)) (l:Same (off Z H') (off W f)) (h:TV K Z H0 H H' s v) (e:s.pass=some g):TV K W (off P f) f f g v:=by
 have shd:∀d,s.shd=some d->Rp K (off W f) d v:=λd u=>Rp.mono l (h.shd r n x u);cases s with
 |view o=>cases e
 |tmp d=>
  unfold S.pass at e;cases q:imm d with
  |false=>simp_all
  |true=>simp[q]at e;subst e;exact shd d (by unfold S.shd;simp[q])
 |bor d=>
  unfold S.pass at e;cases q:imm d with
  |false=>simp[q]at e;subst e;exact Rp.mono p h
  |true=>simp[q]at e;subst e;exact shd d (by unfold S.shd;simp[q])
 |_=>cases e;exact shd _ rfl
theorem TVs.pass {HB} (p:Same H0 H') (n:∀b,Z b->Mut (H b)) (q:Same H H') (o:Same H0 (off P HB)) (l:Same (off Z H') (off W HB)):∀{g f}{vs:List V},TVs K Z H0 H H' g vs->passes g=some f->TVs K W (off P HB) HB HB f vs
 |_,_,_,.nil,e=>by cases e;exact .nil
 |_,_,_,.cons h r,e=>by
  unfold passes at e;split at e
  ·rename_i v x u s;cases e
   exact .cons (h.pass p n q o l u) (TVs.pass p n q o l r s)
  ·grind
def Hz{c:Pw}{i:Nat}{o:O}{a:Addr}{ss l:List S}{us:List V}{R:Γ->D->Prop}{X:Γ->Str->Prop}{Q:VK}{Ec:XK}(env:Ue K H0 B H σ γ)(hB:∀b,B b->∃o,H0 b=some o)(U:Same H H1)(L:γ[i]?=some (some<|.own o))(G:σ[i]?=some (some<|.ref a))(t1:TVs K (zof B γ σ) H0 H H1 ss us)(hp:passes ss=some l)(hc:c o l (λo' d=>R (γ.set i<|some<|.own o') d) (λo' e=>X (γ.set i<|some<|.own o') e))(q:∀f d v H',R f d->Ue K H0 B H' σ f->Fr B H σ γ H' σ f->Rp K (off (zof B f σ) H') d v->Q v H')(qx:∀f c H',X f c->Ue K H0 B H' σ f->Fr B H σ γ H' σ f->XE mg Ec c H'):spW mg c K (.ref a::us) H1 Q Ec:=by
 have g:=env.grow U;obtain⟨v,h1,T,ev,h3,h4⟩:=g.slot i _ L;rw[G]at h1;cases h1
 cases ev
 have Y:∀b,o.adr a b->zof B γ σ b:=λb p=>.inr ⟨i,o,a,L,G,p⟩
 have J:∀o' H',After K (λb=>zof B γ σ b/\¬o.adr a b) H1 a o o' H'->Ue K H0 B H' σ (γ.set i<|some<|.own o')/\Fr B H σ γ H' σ (γ.set i<|some<|.own o')/\∀b x,H' b=some x->¬((zof B γ σ b/\¬o.adr a b)\/o'.adr a b)->¬zof B (γ.set i<|some<|.own o') σ b:=λo' H' A=>by
  have C:∀b x,H' b=some x->¬((zof B γ σ b/\¬o.adr a b)\/o'.adr a b)->¬zof B (γ.set i<|some<|.own o') σ b:=λb x _ n z=>by
   rcases z with z|⟨j,fs,T,e1,M,N⟩
   ·refine n (.inl ⟨.inl z,λw=>?_⟩);obtain⟨u,hu⟩:=hB b z;rw[h3 b w]at hu;cases hu
   ·rcases Ux e1 with⟨ej,q,_⟩|⟨nj,q⟩
    ·subst ej;cases q
     rw[G]at M;cases M
     exact n (.inr N)
    ·exact n (.inl ⟨.inr ⟨j,fs,T,q,M,N⟩,λw=>nj (env.own j i T a fs o b q L M G N w)⟩)
  obtain⟨s,r⟩:=g.change (o':=o') (H':=H') L G (λb x hx n=>A.same b x (U1 hx n)) (λb p=>A.at_.mut b (A.old b p)) A.new (A.at_.mono (Ul (Same.refl _) λb x hx z=>C b x hx z) λ_ _ _ q=>q);exact⟨s,(Fr.grow U).trans r,C⟩
 refine⟨o,a,l,us,λb=>zof B γ σ b/\¬o.adr a b,_,_,rfl,λb p=>⟨g.zm b p.1,p.2⟩,h4.mono (Ul (Same.refl _) λb _ _ z y=>z (y.elim (λy=>y.1)<|Y b)) λ_ _ _ q=>q,?_,BL hp,hc,λo' d v H' hR A rd=>?_,λo' e H' hX A=>?_⟩
 ·refine t1.pass g.same env.zm U (λb x hx=>U1 (g.same b x hx) λw=>?_) (Ul (Same.refl _) λb _ _ z y=>z (y.elim (λy=>y.1)<|Y b)) hp;rw[h3 b w]at hx;cases hx
 ·obtain⟨s,r,k3⟩:=J o' H' A;exact q _ d v H' hR s r (Rp.mono (λb x h=>let ⟨p1,p2⟩:=Xy h;U1 p1 (k3 b x p1 p2)) rd)
 ·obtain⟨s,r,_⟩:=J o' H' A;exact qx _ e H' hX s r
noncomputable def Zbc(i:Nat)(c:Pw)(r:PTA):PTW:=λγ R X=>match γ[i]? with
 |some (some<|.own o)=>r γ (λg=>match passes g with|some b=>c o b (λf d=>R (γ.set i<|some<|.own f) d) (λf e=>X (γ.set i<|some<|.own f) e)|none=>False) (X γ)
 |_=>False
def BQ(C:Addr)(xs:Yx)(j:Nat):S->(S->Prop)->Prop
 | .view (.ins _ f b h),R=>f=C/\b=xs/\∃c,h[j]?=some c/\R (.view<|.lst c.2)
 | .bor (.ins f b g),R=>f=C/\b=xs/\∃d,g[j]?=some d/\R (arg d)
 |_,_=>False
noncomputable def HA(C:Addr)(xs:Yx)(j:Nat)(a:PTE):PTE:=λγ R X=>a γ (λs=>BQ C xs j s R) X
def Rp.ins_inv (h:Rp K H (.ins C xs ds) v):∃a b vs,v=.ref a/\H a=some (.ins C b<|xs.zip vs)/\xs.length=vs.length/\Rps K H ds vs:=by
 cases h with
 |ins h e r=>grind
def FldAt(f:Str)(xs:Yx)(j:Nat):Prop:=∀b:List V,xs.length=b.length->(xs.zip b).lookup f=b[j]?
def PV(j:Nat){a}(L:Cls K C)(G:NoAttr K C f)(J:FldAt f xs j)(ha:Ub K mg E te a):Ub K mg E (Nz K te f) (HA C xs j a):=by
 intro H0 B H σ γ R X Q l p q qx;refine ha H0 B H σ γ _ X _ l p (λs v H1 h z A=>?_) qx;have g:=l.grow z;unfold BQ at h;split at h
 ·rename_i x C' n cs;obtain⟨rfl,rfl,c,M,o⟩:=h;obtain⟨b,rfl,T,N,⟨y,r⟩,e4,e5⟩:=A;obtain⟨U,u1,Y⟩:=e4 c (W5 M);refine⟨b,_,y,_,_,rfl,r,L,G,?_,q _ _ H1 o z ⟨c.1,rfl,U,u1,Y⟩⟩;rw[J _ (by grind),Ws,M];rfl
 ·rename_i C' n ds;obtain⟨rfl,rfl,d,ed,o⟩:=h;obtain⟨b,y,vs,rfl,T,N,r⟩:=Rp.ins_inv A;obtain⟨u,hu,ru⟩:=r.get ed;refine⟨b,_,y,_,u,rfl,g.same _ _ T,L,G,by rw[J _ N];exact hu,q _ _ H1 o z (K0 g.zm g.same ru)⟩
 ·exact h.elim
noncomputable def F0(C:Addr)(xs:Yx)(c:Pc)(a:PTE)(r:PTA):PTE:=λγ R X=>a γ (λs=>match s.d with
 | .ins f b h=>f=C/\b=xs/\r γ (λg=>c (.ins f b h::g.map S.d) (λs=>R s.back) X) X
 |_=>False) X
def NoFld(m:Str)(xs:Yx):Prop:=∀b:List V,(xs.zip b).lookup m=none
noncomputable def Zap(C:Addr)(m:Str)(sp:Sp)(E:L2.St->XK)(f:TE)(t:TA):TE:=λσ H Q=>f σ H λx H1=>∃a g fs,x=.ref a/\H1 a=some (.ins C g fs)/\fs.lookup m=none/\t σ H1 λb h=>sp (x::(b++[])) h Q (E σ)
def Lw{m xs c z a r}(hx:NoFld m xs)(ha:Ub K mg E te a)(T:Uv K mg E z r):Ub K mg E (Zap C m (Um mg c K) E te z) (F0 C xs c a r):=by
 intro H0 B H σ γ R X Q h p q y;refine ha H0 B H σ γ _ X _ h p (λs v H1 o n M=>?_) y;have f:=h.grow n;split at o
 ·rename_i C' A ds ed;obtain⟨rfl,rfl,o⟩:=o;have x:=M.rp f.same;rw[ed]at x;obtain⟨b,dx,G,rfl,e1,e2,e3⟩:=Rp.ins_inv x;refine⟨b,dx,_,rfl,e1,hx G,T H0 B H1 σ γ _ X _ f o (λss us H2 h2 l L=>?_) λc H' Y S'=>y c H' Y (n.trans S')⟩;have g:=f.grow l;rw[WL];refine⟨_,_,X,Rps.cons (Rp.mono l x) (L.rps g.same),h2,λs v H' N u J=>q _ _ H' N ((n.trans l).trans u) (J.back g (n.trans l) u),λe H' U u=>y e H' U ((n.trans l).trans u)⟩
 ·grind
def OY{m xs c f a r b}(hx:NoFld m xs)(h:Ub K mg (λ_=>b) te a)(g:Uv K mg (λ_=>b) f r):Ub K mg (λ_=>b) (Kl C m (Um mg c K) [] b te f) (F0 C xs c a r):=Lw hx h g
noncomputable def Me(C:Addr)(xs:Yx)(c:Pc)(a:PTE)(r:PTA):PTE:=λγ R X=>a γ (λs=>match s.d with
 | .ins f b h=>f=C/\b=xs/\r γ (λg=>c (.ins f b h::g.map S.d) (λs=>R s.back) λ_=>False) X
 |_=>False) X
def Xz{m xs c x a r}(hx:NoFld m xs)(ha:Ub K mg E te a)(U:Uv K mg E x r):Ub K mg E (Kl C m (Um mg c K) [] E0 te x) (Me C xs c a r):=by
 intro H0 B H σ γ R X Q h p q y;refine ha H0 B H σ γ _ X _ h p (λs v H1 l o N=>?_) y;have f:=h.grow o;split at l
 ·rename_i C' G ds ed;obtain⟨rfl,rfl,l⟩:=l;have u:=N.rp f.same;rw[ed]at u;obtain⟨b,dx,J,rfl,e1,e2,e3⟩:=Rp.ins_inv u;refine⟨b,dx,_,rfl,e1,hx J,U H0 B H1 σ γ _ X _ f l (λss us H2 h2 n M=>?_) λc H' Y S'=>y c H' Y (o.trans S')⟩;have g:=f.grow n;rw[WL];exact⟨_,_,_,Rps.cons (Rp.mono n u) (M.rps g.same),h2,λs v H' T A L=>q _ _ H' T ((o.trans n).trans A) (L.back g (o.trans n) A),λ_ _ z=>z.elim⟩
 ·grind
noncomputable def Zbf(i:Nat)(C:Addr)(xs:Yx)(c:Pw)(r:PTA):PTW:=λγ R X=>match γ[i]? with
 |some (some<|.own<|.ins x h b n)=>h=C/\b=xs/\r γ (λl=>match passes l with|some f=>c (.ins x h b n) f (λg d=>R (γ.set i<|some<|.own g) d) (λg e=>X (γ.set i<|some<|.own g) e)|none=>False) (X γ)
 |_=>False
noncomputable def AE(i:Nat)(C:Addr)(xs:Yx)(c:Pw)(r:PTA):PTW:=λγ R X=>match γ[i]? with
 |some (some<|.own<|.ins x g b n)=>g=C/\b=xs/\r γ (λh=>match passes h with|some f=>c (.ins x g b n) f (λl d=>R (γ.set i<|some<|.own l) d) (λ_ _=>False)|none=>False) (X γ)
 |_=>False
def DX(i:Nat){C m xs c f r}(hx:NoFld m xs)(A:Uv K mg E f r):Nt K mg E (Kl C m (spW mg c K) [] E0 (Xh i) f) (AE i C xs c r):=by
 intro H0 B H σ γ R X Q J b h q y;unfold AE at h;split at h
 ·rename_i x C' p cs l;obtain⟨rfl,rfl,h⟩:=h;obtain⟨v,g,a,rfl,_,e1,e2,⟨N,M⟩,e4⟩:=b.slot i _ l;refine⟨_,g,a,N,_,rfl,M,hx _,A H0 B H σ γ _ _ _ b h (λY U H1 n T s=>?_) λc H' G o=>y γ c H' G (b.grow o) (Fr.grow o)⟩;rw[WL];split at n
  ·rename_i u L;exact Hz (X:=λ_ _=>False) b J T l g s L n q λ_ _ _ z=>z.elim
  ·grind
 ·grind
theorem NB{f:Type}:∀{l:List f}{i j:Nat}{x:f},l.Nodup->l[i]?=some x->l[j]?=some x->i=j
 |[],_,_,_,_,h,_=>by simp at h
 |y::r,0,0,_,_,_,_=>rfl
 |y::r,0,j+1,x,b,n,g|y::r,i+1,0,x,b,n,g=>by
  grind
 |y::r,i+1,j+1,x,b,n,g=>WG (· + 1) (NB (WX.mp b).2 (by trivial)<|by grind)
def Ue.cell {f b ds es us} (env:Ue K H0 B H σ γ) (L:γ[i]?=some (some<|.own<|.ins x C xs f)) (s:f[j]?=some (b,ds)) (r:Rps K (off (zof B γ σ) H) es us) :
  Ue K H0 B (upd H b<|.lst us) σ (γ.set i<|some<|.own<|.ins x C xs<|f.set j (b,es))/\Fr B H σ γ (upd H b<|.lst us) σ (γ.set i<|some<|.own<|.ins x C xs<|f.set j (b,es)):=by
 obtain⟨v,Y,a,rfl,e0,e1,e2,⟨dx,e3⟩,e4,e5⟩:=env.slot i _ L;subst e1;have l:=W5 s
 have M:a≠b:=λz=>by
  obtain⟨T,o,_⟩:=e4 _ l;rw[←show a=b from z,e3]at o
  cases o
 have em:(f.set j (b,es)).map (·.1)=f.map (·.1):=by
  apply Q1;intro k;rw[Ws,Ws,List.getElem?_set];by_cases e:j=k
  ·subst e;rw[Wr rfl,Wr ((W4.mp s).1),s];rfl
  ·rw[Wq e]
 have N:(f.set j (b,es)).map (λc=>V.ref c.1)=f.map λc=>V.ref c.1:=by
  have:=WG (List.map V.ref) em
  rw[Qk,Qk]at this;exact this
 have adr:∀c,(O.ins a C xs<|f.set j (b,es)).adr a c->(O.ins a C xs f).adr a c:=λc g=>by
  rcases g with g|⟨d,hd,g⟩
  ·exact .inl g
  ·have:d.1∈(f.set j (b,es)).map (·.1):=QN hd
   rw[em]at this;obtain⟨d',A,p⟩:=WT.mp this;exact .inr ⟨d',A,g.trans p.symm⟩
 have y:∀c,(O.ins a C xs f).adr a c->zof B γ σ c:=λc g=>.inr ⟨i,_,a,L,Y,g⟩
 have So:Same (off (zof B γ σ) H) (off (zof B (γ.set i<|some<|.own<|.ins a C xs<|f.set j (b,es)) σ)<|upd H b<|.lst us):=λc u h=>by
  obtain⟨A,p⟩:=Xy h;have G:=λz=>p (y c<|.inr ⟨_,l,z⟩);refine U1 (by rw[Uj G];exact A) λz=>p ?_;rcases z with z|⟨k,fs,a',k1,k2,U⟩
  ·exact .inl z
  ·rcases Ux k1 with⟨Q,q,_⟩|⟨_,q⟩
   ·subst Q;cases q
    exact y c (adr c U)
   ·exact .inr ⟨k,fs,a',q,k2,U⟩
 refine env.change L Y (λc u hu n=>?_) (λc g=>?_) (λc g=>.inl (adr c g)) ⟨rfl,by rw[WA];exact e2,⟨dx,?_⟩,λc g=>?_,by rw[em];exact e5⟩
 ·rw[Uj λz=>n (.inr ⟨_,l,z⟩)];exact hu
 ·by_cases z:c=b
  ·rw[z,Ur];trivial
  ·rw[Uj z];exact env.zm c (y c g)
 ·rw[Uj M,N];exact e3
 ·obtain⟨k,hk,Q⟩:=Vt g;have J:(f.set j (b,es))[k]?=some c:=by rw[Wj hk,Q]
  rcases Ux J with⟨_,q,_⟩|⟨nk,q⟩
  ·subst q;exact⟨us,Ur,Rps.mono So r⟩
  ·obtain⟨T,o,w2⟩:=e4 c (W5 q)
   have G:=λz=>nk (by
    have h1:(f.map (·.1))[k]?=some b:=by rw[Ws,q];exact WG some z
    have h2:(f.map (·.1))[j]?=some b:=by rw[Ws,s];rfl
    exact NB e5 h1 h2)
   exact⟨T,by rw[Uj G];exact o,Rps.mono So w2⟩
noncomputable def Dg(i j:Nat)(C:Addr)(xs:Yx)(a:PTE):PTW:=λγ R X=>match γ[i]? with
 |some (some<|.own<|.ins x g b f)=>g=C/\b=xs/\∃c,f[j]?=some c/\a γ (λs=>match s.shd with
  |some d=>c.2.length<10000000/\R (γ.set i<|some<|.own<|.ins x g b<|f.set j (c.1,c.2++[d])) .non
  |none=>False) (X γ)
 |_=>False
def Se(i j:Nat){C f xs a}(p:Cls K C)(hn:NoAttr K C f)(hj:FldAt f xs j)(ha:Ub K mg E te a):Nt K mg E (tBM K "list" Tr (Nz K (Xh i) f)<|U7 te UK) (Dg i j C xs a):=by
 intro H0 B H σ γ R X Q hB g h q T;unfold Dg at h;split at h
 ·rename_i x C' M cs J;obtain⟨rfl,rfl,c,r,h⟩:=h;obtain⟨v,hv,b,rfl,_,e1,e2,⟨dx,e3⟩,e4,e5⟩:=g.slot i _ J;obtain⟨y,G,A⟩:=e4 c (W5 r);refine⟨_,hv,b,_,dx,_,V.ref c.1,rfl,e3,p,hn,?_,.inl ⟨rfl,y,SqL.of G⟩,ha H0 B H σ γ _ _ _ g h (λs u H1 o n N=>?_) λc H' p L=>T γ c H' p (g.grow L) (Fr.grow L)⟩
  ·rw[hj _ (by grind),Ws,r];rfl
  ·have l:=g.grow n;split at o
   ·rename_i d ed;refine⟨c.1,y,u,rfl,rfl,n _ _ G,by rw[A.len];exact Q6 o.1 (by decide),?_⟩;obtain⟨Y,U⟩:=l.cell J r (Rps.append (Rps.mono (Ul n λ_ _ _ z=>z) A)<|.cons (N.shd l.same g.zm n ed) .nil);exact q _ _ _ _ o.2 Y ((Fr.grow n).trans U) .non
   ·exact o.elim
 ·exact h.elim
def PutAt(f:Str)(xs:Yx):Prop:=∀(b:List V) (y:V),xs.length=b.length->UR f y (xs.zip b)=(xs++[f]).zip (b++[y])
noncomputable def OD(i:Nat)(C:Addr)(f:Str)(xs:Yx)(a:PTE):PTS:=λR γ=>a γ (λs=>match s with
 | .own (.lst l)=>(match γ[i]? with
  |some (some<|.own<|.ins x h g n)=>h=C/\g=xs/\xs.length<1000/\∀b,R.nx (γ.set i<|some<|.own<|.ins x h (xs++[f]) (n++[(b,l)]))
  |_=>False)
 |_=>False) (R.ex γ)
def BC(i:Nat){C f xs a}(g:Cls K C)(hn:NoAttr K C f)(hp:PutAt f xs)(ha:Ub K mg E te a):Uk K mg E (AW K (Xh i) te f) (OD i C f xs a):=by
 intro H0 B H σ γ R D hB p h e;refine ha H0 B H σ γ _ _ _ p h (λs v H1 G Q t1=>?_) λc H' g S'=>e.ex σ γ c H' g (p.grow S') (Fr.grow S');split at G
 ·rename_i ds;split at G
  ·rename_i x M o r hi;obtain⟨rfl,rfl,hl,G⟩:=G;obtain⟨u,hv,b,rfl,e0,e1,e2,⟨dx,e3⟩,e4,e5⟩:=p.slot i _ hi;subst e1;obtain⟨l,rfl,L,vs,l1,l2⟩:=t1;have L:=L l rfl;refine⟨_,hv,b,_,dx,_,rfl,Q _ _ e3,g,hn,?_,?_⟩
   ·rw[List.length_zip,Wk];lia
   ·rw[hp _ _ (by rw[Wk];exact e2)]
    have nl:∀c∈r,c.1≠l:=λc g=>by
     obtain⟨ws,J,_⟩:=e4 c g;exact Xi J L
    have nb:∀c∈r,c.1≠b:=λc g z=>by
     obtain⟨ws,J,_⟩:=e4 c g;rw[z,e3]at J;cases J
    have T:∀c,(O.ins b M o r).adr b c->zof B γ σ c:=λc g=>.inr ⟨i,_,b,hi,hv,g⟩
    have key:∀c u,H1 c=some u->¬(zof B γ σ c\/c=l)->¬zof B (γ.set i<|some<|.own<|.ins b M (o++[f]) (r++[(l,ds)])) σ c:=λc u _ n z=>by
     rcases z with z|⟨k,fs,a',k1,N,A⟩
     ·exact n (.inl<|.inl z)
     ·rcases Ux k1 with⟨ek,q,_⟩|⟨_,q⟩
      ·subst ek;cases q
       rw[hv]at N;cases N
       rcases A with A|⟨d,hd,A⟩
       ·exact n (.inl<|T c<|.inl A)
       ·rcases Qc.mp hd with hd|hd
        ·exact n (.inl<|T c<|.inr ⟨d,hd,A⟩)
        ·rw[Wm]at hd;subst hd;exact n (.inr A)
      ·exact n (.inl<|.inr ⟨k,fs,a',q,N,A⟩)
    have So:Same (off (λc=>zof B γ σ c\/c=l) H1) (off (zof B (γ.set i<|some<|.own<|.ins b M (o++[f]) (r++[(l,ds)])) σ)<|upd H1 b<|.ins M dx ((o++[f]).zip ((r.map λc=>V.ref c.1)++[.ref l]))):=λc u h=>by
     obtain⟨Y,U⟩:=Xy h;exact U1 (by rw[Uj λz=>U (.inl<|T c<|.inl z)];exact Y) (key c u Y U)
    have S0:Same (off (zof B γ σ) H) (off (λc=>zof B γ σ c\/c=l) H1):=Ul Q λc u g z y=>y.elim z λy=>by rw[y,L]at g;cases g
    obtain⟨k1,N⟩:=p.change (o':=.ins b M (o++[f]) (r++[(l,ds)])) (H':=upd H1 b (.ins M dx ((o++[f]).zip ((r.map λc=>V.ref c.1)++[.ref l])))) hi hv
     (λc u hu n=>by rw[Uj λz=>n (.inl z)];exact Q _ _ hu)
     (λc g=>by
      by_cases z:c=b
      ·rw[z,Ur];trivial
      ·rw[Uj z];exact(p.grow Q).zm c (T c g))
     (λc g=>by
      rcases g with g|⟨d,hd,g⟩
      ·exact .inl (.inl g)
      ·rcases Qc.mp hd with hd|hd
       ·exact .inl (.inr ⟨d,hd,g⟩)
       ·rw[Wm]at hd;subst hd;exact .inr (by rw[show c=l from g];exact L))
     ⟨rfl,by rw[WB,WB,e2];rfl,⟨dx,by rw[Ur,WE];rfl⟩,λc g=>by
      rcases Qc.mp g with g|g
      ·obtain⟨ws,J,w2⟩:=e4 c g;exact⟨ws,by rw[Uj (nb c g)];exact Q _ _ J,Rps.mono So (Rps.mono S0 w2)⟩
      ·rw[Wm]at g;subst g;exact⟨vs,by rw[Uj (λz=>(Xi e3 L) z.symm)];exact l1,Rps.mono So l2⟩,by
      rw[WE,Vy]
      exact⟨e5,by simp,λc g d hd z=>by
       obtain⟨c',Y,U⟩:=WT.mp g
       have:d=l:=by simpa using hd
       exact nl c' Y (U.trans<|z.trans this)⟩⟩
    exact e.nx _ _ _ (G l) k1 N
  ·exact G.elim
 ·exact G.elim
noncomputable def Sq(C:Addr)(c:Pw)(r:PTA):PTE:=λγ R X=>r γ (λf=>match passes f with|some b=>∀x,c (.ins x C [] []) b (λg d=>d=.non/\R (.own g)) (λ_ e=>X e)|none=>False) X
def LU{c}{M l}{us}{R:S->Prop}{X:XR}{Q:VK}{Ec}(env:Ue K H0 B H σ γ)(p:Same H H1)(T:TVs K (zof B γ σ) H0 H H1 M us)(N:passes M=some l)(h1:∀x,c (.ins x C [] []) l (λo' d=>d=.non/\R (.own o')) (λ_ e=>X e))(q:∀s v H',R s->Same H H'->TV K (zof B γ σ) H0 H H' s v->Q v H')(Y:∀c H',X c->Same H H'->XE mg Ec c H') :
  ∀x h,H1 x=none->H1 h=none->h≠x->spW mg c K (.ref x::us) (upd (upd H1 h<|.own x) x<|.ins C h []) (λv H2=>v=.non/\Q (.ref x) H2) Ec:=by
 have f:=env.grow p;intro x h n J nex
 have u:Same H1 (upd (upd H1 h<|.own x) x<|.ins C h []):=λb o e=>by
  rwa[Uj (Xi e n),Uj (Xi e J)]
 have r:∀o' H',After K (zof B γ σ) (upd (upd H1 h<|.own x) x<|.ins C h []) x (.ins x C [] []) o' H'->Same H1 H'/\∀b,o'.adr x b->H b=none:=λo' H' A=>by
  refine⟨λb o e=>A.same b o (U1 (u b o e) λz=>?_),λb G=>?_⟩
  ·rcases z with z|⟨c,g,_⟩
   ·rw[z,n]at e;cases e
   ·cases g
  ·rcases A.new b G with(z|⟨c,g,_⟩)|z
   ·rw[z];exact p.free n
   ·cases g
   ·exact p.free (u.free z)
 refine⟨.ins x C [] [],x,l,us,zof B γ σ,_,_,rfl,λb G=>⟨Xv u (f.zm b G),λz=>?_⟩,⟨rfl,rfl,⟨h,Ur⟩,(λc g=>by cases g),Q4⟩,?_,BL N,h1 x,λo' d v H' L A U=>?_,λo' e H' hX A=>?_⟩
 ·rcases z with z|⟨c,g,_⟩
  ·have:=f.zm b G
   rw[z,n]at this;exact this
  ·cases g
 ·refine T.pass f.same env.zm p (λb o e=>U1 (u _ _<|f.same b o e) λz=>?_) (Ul u λb o e z y=>?_) N
  ·rcases z with z|⟨c,g,_⟩
   ·rw[z,(f.same).free n]at e;cases e
   ·cases g
  ·rcases y with y|y|⟨c,g,_⟩
   ·exact z y
   ·rw[y,n]at e;cases e
   ·cases g
 ·obtain⟨rfl,L⟩:=L;obtain⟨k1,k2⟩:=r o' H' A;exact⟨Rp.non_inv U,q _ _ H' L (p.trans k1) ⟨x,rfl,k2,A.at_⟩⟩
 ·exact Y e H' hX (p.trans (r o' H' A).1)
def Eh{c g r}(s:Uv K mg E g r):Ub K mg E (λσ H Q=>g σ H λvs H1=>∀x f,H1 x=none->H1 f=none->f≠x->spW mg c K (.ref x::(vs++[])) (upd (upd H1 f<|.own x) x<|.ins C f []) (λv z=>v=.non/\Q (.ref x) z) (E σ)) (Sq C c r):=by
 intro H0 B H σ γ R X Q b p q h;refine s H0 B H σ γ _ X _ b p (λG A H1 l y n=>?_) h;split at l
 ·rename_i o u;rw[WL];exact LU b y n u l q h
 ·grind
def OS{f r b}(g:Uv K mg (λ_=>b) f r):Ub K mg (λ_=>b) (Nc C (spW mg c K) [] b f) (Sq C c r):=Eh g
end
def P6{b:Type}{us:List b}(h:us.length=1):∃a,us=[a]:=List.length_eq_one_iff.mp h
def TL{f:Type}{us:List f}(h:us.length=2):∃a b,us=[a,b]:=by
 cases us with
 |nil=>grind
 |cons a r=>obtain⟨b,rfl⟩:=P6 (by simpa using h);exact⟨a,b,rfl⟩
def Nn{f:Type}{us:List f}(h:us.length=3):∃a b c,us=[a,b,c]:=by
 cases us with
 |nil=>grind
 |cons a r=>obtain⟨b,c,rfl⟩:=TL (by simpa using h);exact⟨a,b,c,rfl⟩
def SO{f:Type}{us:List f}(h:us.length=4):∃a b c d,us=[a,b,c,d]:=by
 cases us with
 |nil=>grind
 |cons a r=>obtain⟨b,c,d,rfl⟩:=Nn (by simpa using h);exact⟨a,b,c,d,rfl⟩
def Lm{f:Type}{us:List f}(h:us.length=5):∃a b c d e,us=[a,b,c,d,e]:=by
 cases us with
 |nil=>grind
 |cons a r=>obtain⟨b,c,d,e,rfl⟩:=SO (by simpa using h);exact⟨a,b,c,d,e,rfl⟩
structure Uw (K:Yo) (W:Addr->Prop) (x q:Str) (st:Stmt) (ps:Yx):Prop where
 ex:∃f fd,Fun K x q st f fd/\W f/\Binds K fd ps []
structure Xq (P:Program) (w:World) (K:Yo) (mg:Ys) (base:Heap) (CX:CXT) (k:Nat) (W:Addr->Prop) (ps:Yx) (sp:Sp):Prop where
 ex:∃f fd,UM P w K mg base CX k f fd ps sp/\W f/\Binds K fd ps []
section
variable {P:Program}{w:World}{K:Yo}{mg:Ys}{base:Heap}{W:Addr->Prop}
def Uw.ok {st N ps k sp} (D:Uw K W x q st ps) (S:Ui N ps (Uc st)) (len:∀vs H Q E,sp vs H Q E->vs.length=ps.length)
  (g:∀f b A outer s H vs Q E,Uh k (A.deeper<|envOfC q (Uc st) s.heap.objs.size f b)->sp vs H Q E->
   ∃t,PSs (Uy CX0 P w K mg base N q (Uc st) f b A outer s H E).nox (Uu st) t/\t {nx:=λ_ H'=>Q .non H',rt:=Q} (start N vs) H):Xq P w K mg base CX0 (k+1) W ps sp:=by
 obtain⟨f,p,F,n,o⟩:=D.ex;exact⟨f,p,F.ok S len λb A outer s H vs Q E l h=>g f b A outer s H vs Q E l h,n,o⟩
def Uw.okX {st N ps k sp} (D:Uw K W x q st ps) (S:Ui N ps (Uc st)) (len:∀vs H Q E,sp vs H Q E->vs.length=ps.length)
  (g:∀f b A outer s H vs Q E,Uh k (A.deeper<|envOfC q (Uc st) s.heap.objs.size f b)->sp vs H Q E->
   ∃t,PSs (Uy (ExcR.CXe P w) P w K mg base N q (Uc st) f b A outer s H E) (Uu st) t/\t {nx:=λ_ H'=>Q .non H',rt:=Q} (start N vs) H):Xq P w K mg base (ExcR.CXe P w) (k+1) W ps sp:=by
 obtain⟨f,B,F,r,u⟩:=D.ex;obtain⟨oc,z,kV,v,y,G,b,C,n,rfl,o,l⟩:=F.ex;exact⟨f,_,SK o l S len λA outer s H vs Q E p h=>g f b A outer s H vs Q E p h,r,u⟩
def Bk:Xj (ExcR.CXe P w) X E0:=λ_ _ _ _ _ _ _ h=>by
 obtain⟨a,T,C,b,f,_,_,z⟩:=h
 grind
end
section
variable {X:Cx}{CX:CXT}{k:Nat}{Cc:Addr}{ps:Yx}{sp:Sp}{E:XK}{ES:L2.St->XK}{x m:Str}{p pos apos:Pos}{e o:Expr}{es:Yy}{ta:TE}{t:TA}
def Ci{pl}(C:Xq X.prog X.w X.K X.mg X.base CX k (U9 X.K Cc m) ps sp)(c:Cls X.K Cc)(n:Uh k X.A)(hx:Xj CX X E)(r:PE X o ta)(u:PA X (e::es) t)(b:autoParam (starEach (e::es) X.env=(false,eval e X.env)::starEach es X.env) au_0)(g:autoParam ((backTo pos<|starEach es X.env).any (·.1)=false) au_0)
  (l:autoParam (eval (.Call (.Attribute o m apos) (e::es) [] pos) X.env=(do
   let h ←eval o X.env
   standAt apos.atName
   let (f,first) ←holding [h] (getMethod h m pl)
   callWith pos f first (backTo pos<|starEach (e::es) X.env) (backToKw pos<|keywordEach [] X.env))) au_0) :
  PE X (.Call (.Attribute o m apos) (e::es) [] pos) (Kl Cc m sp [] E ta t):=by
 obtain⟨f,v,F,q,s⟩:=C.ex;exact OE r c q F n s .nil hx u b g l
def Xr(C:Xq X.prog X.w X.K X.mg X.base CX k (U9 X.K Cc m) ps sp)(c:Cls X.K Cc)(h:Uh k X.A)(hx:Xj CX X E)(n:PE X o ta)
  (g:autoParam (eval (.Call (.Attribute o m apos) [] [] pos) X.env=(do
   let b ←eval o X.env
   standAt apos.atName
   let (f,first) ←holding [b] (getMethod b m r)
   callWith pos f first (backTo pos<|starEach [] X.env) (backToKw pos<|keywordEach [] X.env))) au_0) :
  PE X (.Call (.Attribute o m apos) [] [] pos) (Kl Cc m sp [] E ta UK):=by
 obtain⟨f,s,F,l,q⟩:=C.ex;exact R7 n c l F h q .nil hx g
def BO(C:Xq X.prog X.w X.K X.mg X.base CX k (Mk X.K Cc) ps sp)(l:X.mg x=some (.ref Cc))(h:Uh (k+1) X.A)(hx:Xj CX X E)(s:PA X (e::es) t)(n:autoParam (Gl X x) au_0)(g:autoParam ((x==("__debug__" : Str))=false) au_1)(q:autoParam (starEach (e::es) X.env=(false,eval e X.env)::starEach es X.env) au_0)(b:autoParam ((backTo pos<|starEach es X.env).any (·.1)=false) au_0) :
  PE X (.Call (.Name x p) (e::es) [] pos) (Nc Cc sp [] E t):=by
 obtain⟨f,u,F,M,r⟩:=C.ex;exact Oj M F h n l r .nil hx s g q b
end
abbrev PTF:=Γ->Str->(Str->Prop)->XR->Prop
section
variable {K:Yo}{mg:Ys}{E:L2.St->XK}{t:ExcR.TF}{p:PTF}{te:TE}{a:PTE}
def Pf(K:Yo)(mg:Ys)(E:L2.St->XK)(t:ExcR.TF)(p:PTF):Prop:=∀(l:Hp) (B:Addr->Prop) (H:Hp) (g:L2.St) (h:Γ) (b:Str) (R:Str->Prop) (X:XR) (Q:Str->Hp->Prop),Ue K l B H g h->p h b R X->
 (∀x f,R x->Same H f->Q x f)->(∀c f,X c->Same H f->XE mg (E g) c f)->t g H b Q
noncomputable def RU:PTF:=λ_ b R _=>b.length<=sizeLine/\R b
def Pi:Pf K mg E ExcR.CY RU:=λn B H g l b R X Q f h q _=>⟨h.1,q _ H h.2 (Same.refl _)⟩
noncomputable def OZ(x:Str)(p:PTF):PTF:=λf b R X=>(b++x).length<=sizeLine/\p f (b++x) R X
def XQ(h:Pf K mg E t p):Pf K mg E (ExcR.Cp x t) (OZ x p):=λr B H g l o R X Q b f q n=>⟨f.1,h r B H g l _ R X Q b f.2 q n⟩
noncomputable def Hc(a:PTE)(p:PTF):PTF:=λf b R X=>a f (λs=>match s.d with
 | .int i=>i.natAbs.log2<1920/\(b++(Str.ofString<|toString i)).length<=sizeLine/\p f (b++Str.ofString (toString i)) R X
 | .str x=>x.length<=sizeLine/\(b++x).length<=sizeLine/\p f (b++x) R X
 |_=>False) X
def KC(M:Ub K mg E te a)(h:Pf K mg E t p):Pf K mg E (ExcR.AL te t) (Hc a p):=λA B H u w J R X Q n L q y=>by
 refine M A B H u w _ X _ n L (λs v C f o G=>?_) y;have b:=n.grow o;have r:=G.rp b.same;split at f
 ·rename_i i ei;rw[ei]at r;exact .inl ⟨i,r.int_inv,f.1,f.2.1,h A B C u w _ R X Q b f.2.2 (λx l hx g=>q x l hx (o.trans g)) λc l z g=>y c l z (o.trans g)⟩
 ·rename_i x N;rw[N]at r;exact .inr ⟨x,r.str_inv,f.1,f.2.1,h A B C u w _ R X Q b f.2.2 (λx l hx g=>q x l hx (o.trans g)) λc l z g=>y c l z (o.trans g)⟩
 ·grind
noncomputable def pF(p:PTF):PTE:=λb R X=>p b Str.empty (λx=>R (.sh<|.str x)) X
def Pd(h:Pf K mg E t p):Ub K mg E (ExcR.tF t) (pF p):=λr B H f g R X Q b n q l=>
 h r B H f g _ _ X _ b n (λx s hx o=>q _ _ s hx o (.str x)) l
end
open M
noncomputable abbrev plD(f:Yp):D:=.lst (f.map prD)
noncomputable abbrev dD(q:Str×Yq):D:=.tup (.str q.1::q.2.map D.int)
noncomputable abbrev vF:Yx:=["book","fields","wished"]
noncomputable abbrev vO(C x b1 g f:Addr)(bk:List (Str×Yq))(fs b:List (Yp)):O:=.ins x C vF [(b1,bk.map dD),(g,fs.map plD),(f,b.map plD)]
noncomputable abbrev Xs(C:Addr)(bk:List (Str×Yq))(fs b:List (Yp)):D:=.ins C vF [.lst (bk.map dD),.lst (fs.map plD),.lst (b.map plD)]
def Ae{b:Type}(f:b->D)(xs:List b)(x:b):atI ((xs++[x]).map f) (-1)=some (f x):=by
 refine KH ?_;unfold atI ixN;rw[Wq (by lia),Wr (by grind)];show(xs++[x])[_]?=some x;have e:((-1:Int)+((xs++[x]).length:Int)).toNat=xs.length:=by grind
 rw[e,Qh (Wp _),Nat.sub_self];rfl
def XU(e:Option Str)(X:Str->Prop)(R:Prop):Prop:=match e with|some c=>X c|none=>R
noncomputable def Tj(h:Int):Option Str:=if 1<=h/\h<=10 then none else some "BadHolder"
noncomputable def Xe:Yp->Option Str
 |[]=>none
 |q::r=>if ¬(1<=q.1/\q.1<=10)then some "BadHolder" else if ¬(1<=q.2/\q.2<=1000)then some "BadWidth" else Xe r
noncomputable def U4(ps:Yp):Option Str:=if 40<ps.length then some "TooManyStrips" else Xe ps
def Cz(q:Int×Int)(r:Yp):Xe (q::r)=if ¬(1<=q.1/\q.1<=10)then some ("BadHolder" : Str)else if ¬(1<=q.2/\q.2<=1000)then some ("BadWidth" : Str)else Xe r:=rfl
def R8(q:Str×Yq):imm (dD q)=true:=by
 unfold dD imm UH;rw[Bw];rfl
theorem Et:∀(bk:List (Str×Yq)),UH (bk.map dD)=true
 |[]=>rfl
 |q::r=>by
  rw[WM];unfold UH;rw[R8,Et r];rfl
noncomputable def TQ(f:Yp)(a b:Int):Option Str:=if ¬(1<=a/\a<=10)then some "BadHolder" else if ¬(1<=b/\b<=10)then some "BadHolder" else if a=b then some "LikeHolders" else if (a,b)∈f then some "WishStands" else if 20<=f.length then some "TooManyWishes" else none
noncomputable def Zab(m:Yq)(k:Int):Int:=1+(k*m.getD 1 0+m.getD 2 0) % 10
noncomputable abbrev d3(k:Str)(a b:Int):D:=.tup [.str k,.int a,.int b]
end Pu
namespace Pu
open L2 Own
structure DI (K:Yo) (x:Str) (st:Stmt):Prop where
 ex:∃f fd,PySem.W.nsIn K mainGlobals x=some (some<|.ref f)/\Fun K x x st f fd
structure MI (K:Yo) (C:Addr) (m q:Str) (st:Stmt):Prop where
 ex:∃f fd,PySem.W.findIn K (.ref C) m=some (some<|.ref f)/\PySem.W.isFn K (.ref f)=true/\Fun K m q st f fd
section
variable {K:Yo}{h:Heap}{mg:Ys}
def di{st f oc p q g kV n o b ct}(a:PySem.W.nsIn K mainGlobals x=some (some<|.ref f))(l:K.lookup f=some ⟨oc,p,.func (PySem.W.fnOf x x (Xo st) (Uu st) (Uc st) .none kV n o q b ct),g⟩)(c:PySem.W.codeIn K b x=true)(k:PySem.W.keepIn K (.ref f)=true):DI K x st:=⟨f,_,a,TU l c k⟩
def mi{st f oc p r g kV n o b ct}(a:PySem.W.findIn K (.ref C) m=some (some<|.ref f))(i:PySem.W.isFn K (.ref f)=true)(l:K.lookup f=some ⟨oc,p,.func (PySem.W.fnOf m q (Xo st) (Uu st) (Uc st) .none kV n o r b ct),g⟩)(c:PySem.W.codeIn K b q=true)(k:PySem.W.keepIn K (.ref f)=true):MI K C m q st:=⟨f,_,a,i,TU l c k⟩
def DI.d {st ps} (D:DI K x st) (X:K.In h) (o:h.Ns mainGlobals mg)
  (b:∀kV f l n g ct us,us.length=ps.length->bindArgs (PySem.W.fnOf x x (Xo st) (Uu st) (Uc st) .none kV f l n g ct) ⟨us,[]⟩=pure (ps.zip us)):Def K mg x st ps:=
 let ⟨_,_,a,F⟩:=D.ex
 ⟨_,_,F,WC X o a,F.binds b⟩
def MI.d {m q st ps} (D:MI K C m q st) (e:o=C)
  (b:∀kV f l n g ct us,us.length=ps.length->bindArgs (PySem.W.fnOf m q (Xo st) (Uu st) (Uc st) .none kV f l n g ct) ⟨us,[]⟩=pure (ps.zip us)):Uw K (U9 K o m) m q st ps:=
 let ⟨_,_,a,i,F⟩:=D.ex
 ⟨_,_,F,by rw[e];exact⟨a,i,F.kp⟩,F.binds b⟩
def MI.i {q st ps} (D:MI K C "__init__" q st) (e:p=C) (mk:PySem.W.makesIn K C=true) (n:PySem.W.keepIn K (.ref C)=true)
  (b:∀kV f l o g ct us,us.length=ps.length->bindArgs (PySem.W.fnOf "__init__" q (Xo st) (Uu st) (Uc st) .none kV f l o g ct) ⟨us,[]⟩=pure (ps.zip us)):Uw K (Mk K p) "__init__" q st ps:=
 let ⟨_,_,a,i,F⟩:=D.ex
 ⟨_,_,F,by rw[e];exact⟨mk,a,i,n⟩,F.binds b⟩
end
def fs{N P b}(p:autoParam (b.kind=.function) au_0)(o:autoParam (b.isCoroutine=false) au_0)(n:autoParam (b.isGenerator=false) au_0)(l:autoParam (N.Nodup) au_5)(h:autoParam (N.take P.length=P) au_0)(g:autoParam (∀x∈P,b.names.lookup x=some .local\/b.names.lookup x=some .cell) au_5)(f:autoParam (∀y∈b.names,y.2≠.free) au_5):Ui N P b:=⟨p,o,n,l,h,g,f⟩
def pz{pos x e te b}(i:Nat)(n:X.N.Nodup)(l:PE X e te)(g:autoParam (X.N[i]?=some x) au_0)(hx:autoParam (Loc X.env.scope x) au_6)(f:autoParam (swapsWith e (some<|.Name x b) pos.line X.env=pure false) au_0)(h:autoParam (X.fn x=true\/X.env.scope.names.lookup x=some .local) au_2) :
  PS X (.Assign [.Name x b] e pos) (KB te<|XW i):=L9 n g hx l f h
section
variable {K:Yo}{mg:Ys}{E:L2.St->XK}{H0 H H1 H':Hp}{B Z Z':Addr->Prop}{σ:L2.St}{γ:Γ}
def two(o1 f:O)(a1 a2:Addr):Addr->Prop:=λb=>o1.adr a1 b\/f.adr a2 b
noncomputable def Zbe(a:PTE)(l u:PTO):PTE:=λγ R X=>a γ (λs=>l γ (λlo=>u γ (λb=>match s.d with | .lst f=>R (.tmp<|.lst<|cutD f lo b)|_=>False) X) X) X
noncomputable def RB(a:PTE)(l u:PTO):PTI:=λγ R X=>a γ (λs=>l γ (λlo=>u γ (λb=>match s with
 | .bor d=>(match d.strip with | .lst f=>R (cutD f lo b).length (λi=>arg ((cutD f lo b).getD i .non))|_=>False)
 |_=>False) X) X) X
end
section
variable {X:Cx}{k j:Nat}{x:Str}{ps:Yx}{sp:Sp}{e a b c:Expr}{es:Yy}{t:TA}{te tf tg:TE}{p pos:Pos}
def fz(C:Callee X.prog X.w X.K X.mg X.base CX0 k x ps sp)(h:Uh j X.A)(q:PA X (e::es) t)(l:autoParam (k<=j) au_1)(n:autoParam (Gl X x) au_0)(g:autoParam ((x==("__debug__" : Str))=false) au_1)(o:autoParam (starEach (e::es) X.env=(false,eval e X.env)::starEach es X.env) au_0)(f:autoParam ((backTo pos<|starEach es X.env).any (·.1)=false) au_0) :
  PE X (.Call (.Name x p) (e::es) [] pos) (P5 sp [] E0 t):=DA C (h.mono l) Xl q n g o f
def jx(K:Yo)(h:PE X a te)(g:PE X b tf)(l:autoParam (X.K=K) au_0)(f:autoParam (BA b) au_7):PE X (.Subscript a b pos) (tOp (λx y H Q=>Pk K x y H Q\/Pb K x y H Q) te tf):=AH (Mq l) h g f
def gz(i:Nat)(h:X.N.Nodup)(f:autoParam (X.N[i]?=some x) au_0)(hx:autoParam (Loc X.env.scope x) au_6)(g:autoParam (X.fn x=true\/X.env.scope.names.lookup x=some .local) au_2):PG X (.Name x pos) (XW i):=Tv h f hx g
def ln(K:Yo)(h:X.mg "len"=none)(o:PE X a te)(q:autoParam (X.K=K) au_0)(l:autoParam (Gl X "len") au_0)(g:autoParam (starEach [a] X.env=(false,eval a X.env)::starEach [] X.env) au_0)(f:autoParam ((backTo pos<|starEach [] X.env).any (·.1)=false) au_0) :
  PE X (.Call (.Name "len" p) [a] [] pos) (tCB (λxs H Q=>∃x n,xs=[x]/\Nh K x H n/\Q (.int (n:Nat)) H)<|U7 te UK):=UE (Im q) l h PySem.boot_len (U5 o Xf g) (by decide) rfl g f
def cq(K:Yo)(f:Uh j X.A)(h:PE X a te)(g:PE X b tf)(l:autoParam (X.K=K) au_0):PT X (.Compare a [.Eq] [b] pos) (T7<|tOp (λx y H Q=>rEq x y H Q\/X8 K false x y H Q) te tf):=XJ (F6 f.units0 l) h g (Ke _)
def cn(K:Yo)(f:Uh j X.A)(h:PE X a te)(g:PE X b tf)(l:autoParam (X.K=K) au_0):PT X (.Compare a [.NotEq] [b] pos) (T7<|tOp (λx y H Q=>rNe x y H Q\/X8 K true x y H Q) te tf):=XJ (HQ f.units0 l) h g (Ke _)
def az(f:PE X a te)(g:autoParam (starEach [a] X.env=(false,eval a X.env)::starEach [] X.env) au_0):PA X [a] (U7 te UK):=U5 f Xf g
def bz(g:PE X a te)(f:PE X b tf)(l:autoParam (starEach [a,b] X.env=(false,eval a X.env)::starEach [b] X.env) au_0)(h:autoParam (starEach [b] X.env=(false,eval b X.env)::starEach [] X.env) au_0):PA X [a,b] (U7 te<|U7 tf UK):=U5 g (U5 f Xf h) l
def dz(h:PE X a te)(g:PE X b tf)(f:PE X c tg)(o:autoParam (starEach [a,b,c] X.env=(false,eval a X.env)::starEach [b,c] X.env) au_0)(n:autoParam (starEach [b,c] X.env=(false,eval b X.env)::starEach [c] X.env) au_0)(l:autoParam (starEach [c] X.env=(false,eval c X.env)::starEach [] X.env) au_0):PA X [a,b,c] (U7 te<|U7 tf<|U7 tg UK):=U5 h (U5 g (U5 f Xf l) n) o
end
section
variable {K:Yo}{mg:Ys}{E:L2.St->XK}{ta tb tc:TE}{a b c:PTE}
def sz(f:Ub K mg E ta a):Uv K mg E (U7 ta UK) (UZ a XF):=Kc f UO
def tz(g:Ub K mg E ta a)(f:Ub K mg E tb b):Uv K mg E (U7 ta<|U7 tb UK) (UZ a<|UZ b XF):=Kc g (sz f)
def uz(h:Ub K mg E ta a)(g:Ub K mg E tb b)(f:Ub K mg E tc c):Uv K mg E (U7 ta<|U7 tb<|U7 tc UK) (UZ a<|UZ b<|UZ c XF):=Kc h (tz g f)
end
section
variable {K:Yo}{h:Heap}{mg:Ys}{C C':Addr}{x m q:Str}{st:Stmt}{ps:Yx}
abbrev Bd(x q:Str)(st:Stmt)(ps:Yx):Prop:=∀(kV f l:Value) (o:Y1) (g n:Value) (b:Yw),b.length=ps.length->bindArgs (PySem.W.fnOf x q (Xo st) (Uu st) (Uc st) .none kV f l o g n) ⟨b,[]⟩=pure (ps.zip b)
def DI.e (D:DI K x st) (X:K.In h) (g:h.Ns mainGlobals mg) (b:Bd x x st ps:=by
  intro _ _ _ _ _ _ us f
  first
   |(obtain⟨_,rfl⟩:=Pu.P6 f;rfl)
   |(obtain⟨_,_,rfl⟩:=Pu.TL f;rfl)
   |(obtain⟨_,_,_,rfl⟩:=Pu.Nn f;rfl)
   |(obtain⟨_,_,_,_,rfl⟩:=Pu.SO f;rfl)
   |(obtain⟨_,_,_,_,_,rfl⟩:=Pu.Lm f;rfl)):Def K mg x st ps:=D.d X g b
def MI.e (D:MI K C m q st) (e:C'=C) (b:Bd m q st ps:=by
  intro _ _ _ _ _ _ us f
  first
   |(obtain⟨_,rfl⟩:=Pu.P6 f;rfl)
   |(obtain⟨_,_,rfl⟩:=Pu.TL f;rfl)
   |(obtain⟨_,_,_,rfl⟩:=Pu.Nn f;rfl)
   |(obtain⟨_,_,_,_,rfl⟩:=Pu.SO f;rfl)):Uw K (U9 K C' m) m q st ps:=D.d e b
def MI.j (D:MI K C "__init__" q st) (e:C'=C) (mk:PySem.W.makesIn K C=true) (g:PySem.W.keepIn K (.ref C)=true) (b:Bd "__init__" q st ps:=by
  intro _ _ _ _ _ _ us f
  first
   |(obtain⟨_,rfl⟩:=Pu.P6 f;rfl)
   |(obtain⟨_,_,rfl⟩:=Pu.TL f;rfl)
   |(obtain⟨_,_,_,rfl⟩:=Pu.Nn f;rfl)):Uw K (Mk K C') "__init__" q st ps:=D.i e mk g b
end
section
variable {P:Program}{w:World}{K:Yo}{mg:Ys}{base:Heap}{N ps:Yx}{sp:Sp}{p:PTS}{x q:Str}{st:Stmt}{k:Nat}{W:Addr->Prop}
structure Uz (K:Yo) (mg:Ys) (N ps:Yx) (sp:Sp) (p:PTS):Prop where
 len:∀vs H Q E,sp vs H Q E->vs.length=ps.length
 run:∀vs H Q E t,sp vs H Q E->Uk K mg (λ_=>E) t p->t {nx:=λ_ H'=>Q .non H',rt:=Q} (start N vs) H
def Uz.a (b:∀ds R X,c ds R X->ds.length=ps.length/\p {nx:=λ_=>R (.sh .non),rt:=R,ex:=λ_ e=>X e} (Kd N ds)) (f:autoParam (ps.length<=N.length) au_1):Uz K mg N ps (Um mg c K) p:=
 ⟨λ_ _ _ _ h=>EY h λds R X z=>(b ds R X z).1,λ_ _ _ _ _ h s=>Iv h s f b⟩
def Uz.c {c y} (f:∀o b R X,c o b R X->b.length=ps.length/\p (F7 o R X) (Ka N o b)) (g:autoParam (ps.length+1<=N.length) au_1):Uz K mg N (y::ps) (spW mg c K) p:=
 ⟨λ_ _ _ _ h=>Ir h λo l R X z=>(f o l R X z).1,λ_ _ _ _ _ h s=>O6 h s g f⟩
def _root_.Own.Def.oz (D:Def K mg x st ps) (S:Ui N ps (Uc st))
  (g:∀f b A outer s H E,Uh k (A.deeper<|envOfC x (Uc st) s.heap.objs.size f b)->
   ∃t,PSs (Uy CX0 P w K mg base N x (Uc st) f b A outer s H E).nox (Uu st) t/\Uk K mg (λ_=>E) t p) (u:Uz K mg N ps sp p):Callee P w K mg base CX0 (k+1) x ps sp:=
 D.ok S u.len λf b A outer s H n Q E l h=>(g f b A outer s H E l).elim λt z=>⟨t,z.1,u.run _ _ _ _ _ h z.2⟩
def _root_.Own.Def.ox (D:Def K mg x st ps) (S:Ui N ps (Uc st))
  (g:∀f b A outer s H E,Uh k (A.deeper<|envOfC x (Uc st) s.heap.objs.size f b)->
   ∃t,PSs (Uy (ExcR.CXe P w) P w K mg base N x (Uc st) f b A outer s H E) (Uu st) t/\Uk K mg (λ_=>E) t p) (u:Uz K mg N ps sp p):Callee P w K mg base (ExcR.CXe P w) (k+1) x ps sp:=
 ExcR.Def.okX D S u.len λf b A outer s H n Q E l h=>(g f b A outer s H E l).elim λt z=>⟨t,z.1,u.run _ _ _ _ _ h z.2⟩
def Uw.oz (D:Uw K W x q st ps) (S:Ui N ps (Uc st))
  (g:∀f b A outer s H E,Uh k (A.deeper<|envOfC q (Uc st) s.heap.objs.size f b)->
   ∃t,PSs (Uy CX0 P w K mg base N q (Uc st) f b A outer s H E).nox (Uu st) t/\Uk K mg (λ_=>E) t p) (u:Uz K mg N ps sp p):Xq P w K mg base CX0 (k+1) W ps sp:=
 D.ok S u.len λf b A outer s H n Q E l h=>(g f b A outer s H E l).elim λt z=>⟨t,z.1,u.run _ _ _ _ _ h z.2⟩
def Uw.ox (D:Uw K W x q st ps) (S:Ui N ps (Uc st))
  (g:∀f b A outer s H E,Uh k (A.deeper<|envOfC q (Uc st) s.heap.objs.size f b)->
   ∃t,PSs (Uy (ExcR.CXe P w) P w K mg base N q (Uc st) f b A outer s H E) (Uu st) t/\Uk K mg (λ_=>E) t p) (u:Uz K mg N ps sp p):Xq P w K mg base (ExcR.CXe P w) (k+1) W ps sp:=
 D.okX S u.len λf b A outer s H n Q E l h=>(g f b A outer s H E l).elim λt z=>⟨t,z.1,u.run _ _ _ _ _ h z.2⟩
end
section
variable {K:Yo}{h:Heap}{mg:Ys}{x:Str}{C:Addr}
structure EI (K:Yo) (x:Str) (C:Addr):Prop where
 a:PySem.W.nsIn K mainGlobals x=some (some<|.ref C)
 g:ExcR.U3 K C
def ei(a:PySem.W.nsIn K mainGlobals x=some (some<|.ref C))(q:PySem.W.excIn K C [.type "ValueError",.type "Exception",.type "BaseException",.type "object"] "ValueError.__new__"=true)(f:PySem.W.findIn K (.ref C) "__getattribute__"=some (some<|.builtin "BaseException.__getattribute__"))(b:PySem.W.findIn K (.ref C) "__getattr__"=some none)(g:PySem.W.findIn K (.ref C) "__class__"=some (some<|.builtin "object.__class__"))(i:PySem.W.clsIn K C=some d):EI K x C:=⟨a,⟨⟨q⟩,f,b,g,by rw[i];rfl⟩⟩
def EI.c (y:EI K x C) (X:K.In h) (b:h.Ns mainGlobals mg):ExcR.Ud mg x=C:=ExcR.SG (WC X b y.a)
def EI.m (y:EI K x C) (X:K.In h) (b:h.Ns mainGlobals mg):mg x=some (.ref<|ExcR.Ud mg x):=by rw[y.c X b];exact WC X b y.a
def EI.k (y:EI K x C) (X:K.In h) (b:h.Ns mainGlobals mg):ExcR.U3 K (ExcR.Ud mg x):=by rw[y.c X b];exact y.g
end
section
variable {K:Yo}{mg:Ys}{E:L2.St->XK}{H0 H H1 H':Hp}{B Z Z':Addr->Prop}{σ:L2.St}{γ:Γ}
def Lv{b:List (Addr×List D)}{k j c}(g:ixN b.length k=some j)(f:b[j]?=some c):atI (b.map λc=>V.ref c.1) k=some (.ref c.1):=by
 unfold atI
 grind
end
theorem NoFld.of:∀{xs:Yx},(xs.all λx=>!(m==x))=true->NoFld m xs
 |[],_,_|_::_,_,[]=>rfl
 |x::xs,h,v::b=>by
  rw[Ve,WN]at h;show(match m==x with|true=>some v|false=>(xs.zip b).lookup m)=none
  rw[show(m==x)=false by simpa using h.1];exact NoFld.of h.2 b
theorem FldAt.of (g:(f==f)=true):∀{xs}{j:Nat},((xs.take j).all λx=>!(f==x))=true->xs[j]?=some f->FldAt f xs j
 |[],_,_,e,_,_=>by simp at e
 |_::_,_,_,_,[],e=>rfl
 |x::xs,0,_,e,v::b,_=>by
  simp_all
 |x::xs,j+1,h,e,v::b,l=>by
  rw[List.take_succ_cons,Ve,WN]at h;show(match f==x with|true=>some v|false=>(xs.zip b).lookup f)=(v::b)[j+1]?
  rw[show(f==x)=false by simpa using h.1];exact FldAt.of g h.2 (by grind) b (by grind)
theorem PutAt.of:∀{xs:Yx},(xs.all λx=>decide (x≠f))=true->PutAt f xs
 |[],_,[],_,_=>rfl
 |[],_,_::_,_,e|_::_,_,[],_,e=>by cases e
 |x::xs,h,v::b,y,e=>by
  rw[Ve,WN]at h;show(if x=f then(x,y)::xs.zip b else(x,v)::UR f y (xs.zip b))=(x,v)::(xs++[f]).zip (b++[y]);rw[Wq (Ww h.1),PutAt.of h.2 b y (by grind)]
section
variable {K:Yo}{mg:Ys}{E:L2.St->XK}{H0 H H1 H':Hp}{B Z Z':Addr->Prop}{σ:L2.St}{γ:Γ}
def Ue.cellL {f b ds es us} (env:Ue K H0 B H σ γ) (C:γ[i]?=some (some<|.own<|.nsl x f)) (p:f[j]?=some (b,ds)) (r:Rps K (off (zof B γ σ) H) es us) :
  Ue K H0 B (upd H b<|.lst us) σ (γ.set i<|some<|.own<|.nsl x<|f.set j (b,es))/\Fr B H σ γ (upd H b<|.lst us) σ (γ.set i<|some<|.own<|.nsl x<|f.set j (b,es)):=by
 obtain⟨v,N,a,rfl,e0,e1,e3,e4,T⟩:=env.slot i _ C;subst e1;have l:=W5 p;have Q:=WX.mp T;have G:a≠b:=λz=>Q.1 (WT.mpr ⟨_,l,z.symm⟩)
 have em:(f.set j (b,es)).map (·.1)=f.map (·.1):=by
  apply Q1;intro k;rw[Ws,Ws,List.getElem?_set];by_cases e:j=k
  ·subst e;rw[Wr rfl,Wr ((W4.mp p).1),p];rfl
  ·rw[Wq e]
 have J:(f.set j (b,es)).map (λc=>V.ref c.1)=f.map λc=>V.ref c.1:=by
  have:=WG (List.map V.ref) em
  rw[Qk,Qk]at this;exact this
 have adr:∀c,(O.nsl a<|f.set j (b,es)).adr a c->(O.nsl a f).adr a c:=λc g=>by
  rcases g with g|⟨d,hd,g⟩
  ·exact .inl g
  ·have:d.1∈(f.set j (b,es)).map (·.1):=QN hd
   rw[em]at this;obtain⟨d',w,o⟩:=WT.mp this;exact .inr ⟨d',w,g.trans o.symm⟩
 have s:∀c,(O.nsl a f).adr a c->zof B γ σ c:=λc g=>.inr ⟨i,_,a,C,N,g⟩
 have U:Same (off (zof B γ σ) H) (off (zof B (γ.set i<|some<|.own<|.nsl a<|f.set j (b,es)) σ)<|upd H b<|.lst us):=λc u h=>by
  obtain⟨w,o⟩:=Xy h;have y:=λz=>o (s c<|.inr ⟨_,l,z⟩);refine U1 (by rw[Uj y];exact w) λz=>o ?_;rcases z with z|⟨k,fs,a',k1,k2,M⟩
  ·exact .inl z
  ·rcases Ux k1 with⟨L,q,_⟩|⟨_,e⟩
   ·subst L;cases q
    exact s c (adr c M)
   ·exact .inr ⟨k,fs,a',e,k2,M⟩
 refine env.change C N (λc u hu n=>?_) (λc g=>?_) (λc g=>.inl (adr c g)) ⟨rfl,?_,λc g=>?_,by rw[em];exact T⟩
 ·rw[Uj λz=>n (.inr ⟨_,l,z⟩)];exact hu
 ·by_cases z:c=b
  ·rw[z,Ur];trivial
  ·rw[Uj z];exact env.zm c (s c g)
 ·rw[J,Uj G];exact e3
 ·obtain⟨k,hk,L⟩:=Vt g;have A:(f.set j (b,es))[k]?=some c:=by rw[Wj hk,L]
  rcases Ux A with⟨_,q,_⟩|⟨nk,q⟩
  ·subst q;exact⟨us,Ur,Rps.mono U r⟩
  ·obtain⟨Y,w1,w2⟩:=e4 c (W5 q)
   have y:=λz=>nk (by
    have h1:(f.map (·.1))[k]?=some b:=by rw[Ws,q];exact WG some z
    have h2:(f.map (·.1))[j]?=some b:=by rw[Ws,p];rfl
    exact NB Q.2 h1 h2)
   exact⟨Y,by rw[Uj y];exact w1,Rps.mono U w2⟩
end
end Pu
namespace ExcR
open L2
open Sem (wp)
open Builtin Builtin.ObjectAttr
noncomputable def Pq:Yw:=[.type "ValueError",.type "Exception",.type "BaseException",.type "object"]
noncomputable def BN:Yw->Bool
 | .ref _::r=>BN r
 |l=>l==Pq
structure RO (K:Yo) (C:Addr):Prop where
 po:(PySem.W.clsIn K C).any (λcd=>BN cd.mro&&cd.hasDict)=true
 sa:PySem.W.findIn K (.ref C) "__setattr__"=some (some<|.builtin "object.__setattr__")
end ExcR
namespace ExcR
open L2
def Gw(K:Yo)(C f:Addr):Prop:=∃(q:Y1) (b:ClassData) (sl:Array (Y0)) (g:Yw) (p o n l h:Y0),K.lookup C=some ⟨.type "type",q,.cls b,sl⟩/\b.mro=.ref C::g/\
 sl.toList=[p,o,n,l,some (.builtin "ValueError.__new__"),h]/\b.hasDel=false/\PySem.W.tailIn K Pq g=true/\PySem.W.nsOkIn K b.ns=true/\PySem.W.nsIn K b.ns "__init__"=some (some<|.ref f)
structure GP (K:Yo) (C f:Addr):Prop where
 q:Gw K C f
 fn:PySem.W.typeIn K (.ref f)=some (.type "function")
 st:RO K C
 ga:PySem.W.findIn K (.ref C) "__getattribute__"=some (some<|.builtin "BaseException.__getattribute__")
 gt:PySem.W.findIn K (.ref C) "__getattr__"=some none
 nm:NoAttr K C "members"
 cl:PySem.W.findIn K (.ref C) "__class__"=some (some<|.builtin "object.__class__")
end ExcR
namespace Pu
open L2 Own
structure RI (K:Yo) (x:Str) (C:Addr) (q:Str) (st:Stmt):Prop where
 a:PySem.W.nsIn K mainGlobals x=some (some<|.ref C)
 ex:∃f fd,ExcR.GP K C f/\Fun K "__init__" q st f fd
section
variable {K:Yo}{h:Heap}{mg:Ys}{x q:Str}{st:Stmt}{C M N f:Addr}
def RF{cd:ClassData}(m:PySem.W.excIn K M ExcR.Pq "ValueError.__new__"=true):PySem.W.tailIn K ExcR.Pq (.ref M::ExcR.Pq)=true:=by
 unfold PySem.W.excIn at m;split at m
 next z cd sl b=>
  split at m
  next B A u s r p n o w v=>
   simp only[WN,beq_iff_eq,Bool.not_eq_true']at m;obtain⟨⟨⟨_,y⟩,l⟩,g⟩:=m;unfold PySem.W.tailIn;rw[Bool.or_eq_true];right
   try dsimp only
   rw[b]
   try dsimp only
   rw[l,g];rfl
  grind
 next=>cases m
def ri{cd sl w k0 k1 k2 k3 k5 Q es n oc A T g kV r y b ct}(a:PySem.W.nsIn K mainGlobals x=some (some<|.ref C))(l:K.lookup C=some ⟨.type "type",dd,.cls cd,sl⟩)(s:cd.mro=.ref C :: .ref M::[.type "ValueError",.type "Exception",.type "BaseException",.type "object"])(dl:cd.hasDel=false)(p:cd.hasDict=true)(o:sl.toList=[k0,k1,k2,k3,some (.builtin "ValueError.__new__"),k5])(u:cd.ns=N)(E:K.lookup N=some ⟨Q,U,.dict es n,w⟩)(z:(es.toList.all λe=>match e.key with | .str _ _=>true|_=>false)=true)(i:PySem.W.nsIn K N "__init__"=some (some<|.ref f))(m:PySem.W.excIn K M [.type "ValueError",.type "Exception",.type "BaseException",.type "object"] "ValueError.__new__"=true)(fn:PySem.W.isFn K (.ref f)=true)(v:PySem.W.findIn K (.ref C) "__setattr__"=some (some<|.builtin "object.__setattr__"))(J:PySem.W.findIn K (.ref C) "__getattribute__"=some (some<|.builtin "BaseException.__getattribute__"))(H:PySem.W.findIn K (.ref C) "__getattr__"=some none)(G:PySem.W.findIn K (.ref C) "__class__"=some (some<|.builtin "object.__class__"))(nm:PySem.W.findIn K (.ref C) "members"=some none)(B:K.lookup f=some ⟨oc,A,.func (PySem.W.fnOf "__init__" q (Xo st) (Uu st) (Uc st) .none kV r y T b ct),g⟩)(c:PySem.W.codeIn K b q=true)(k:PySem.W.keepIn K (.ref f)=true):RI K x C q st:=by
 have L:PySem.W.clsIn K C=some cd:=by unfold PySem.W.clsIn;rw[l]
 refine⟨a,f,_,⟨?_,beq_iff_eq.mp fn,⟨?_,v⟩,J,H,nm,G⟩,TU B c k⟩
 ·refine⟨dd,cd,sl,_,k0,k1,k2,k3,k5,l,s,o,dl,RF (cd:=cd) m,?_,by rw[u];exact i⟩;rw[u];unfold PySem.W.nsOkIn;rw[E];show(es.all _)=true;rw[←Array.all_toList];omega
 ·rw[L];show(ExcR.BN cd.mro&&cd.hasDict)=true;rw[s,p];rfl
end
end Pu
namespace ExcR
open L2
noncomputable def hxL(K:Yo):List (Addr×Option Nat×TS)->Ends->L2.St->XK
 |[],_=>λ_ _ _ _=>False
 |(n,l,g)::r,D=>λf c h H=>∃C b,c=.ref C/\PySem.W.exmOne K (.ref C) (.ref n)=some b/\
  if b=true then(match l with
   |some i=>∀a,H a=none->g (Do i D) (f.set i<|some<|.ref a) (upd H a<|UN a C h)
   |none=>g D f H)else hxL K r D f c h H
section
variable {X:Cx}{pins pins1:Yr}{σ:L2.St}{H H':Hp}{s s':Shared}{h3:Heap}{a T C C0:Addr}{dx:Y1}{fl:Value}{D:Ends}{hs:List ExceptHandler}{L:List (Addr×Option Nat×TS)}
structure Pre (X:Cx) (pins:Yr) (σ:L2.St) (H H':Hp) (s s':Shared) (h3:Heap) (a T C:Addr) (dx:Y1) (fl:Value):Prop where
 I:Inv X pins σ H s
 os:s'.os=s.os
 bare:AllBare s'.gens
 na:s.heap.get? a=none
 nT:s.heap.get? T=none
 fa:H' a=none
 fT:H' T=none
 tr:Trc h3 a T (.ref C,dx) fl
 u:Un (frs X.stack) [] H H' s.heap h3
 ok:HOk X.prog X.w H' h3
def Pre.inv (p:Pre X pins σ H H' s s' h3 a T C dx fl):Inv X pins σ H' {s' with heap:=h3}:=p.I.call' p.os p.u p.ok p.bare λb z=>absurd z (by simp)
def PH(X:Cx)(hs:List ExceptHandler)(L:List (Addr×Option Nat×TS)):Prop:=∀(pins:Yr) (σ:L2.St) (H H':Hp) (s s':Shared) (h3:Heap) (a T C:Addr) (dx:Y1) (fl:Value) (D:Ends),
 Pre X pins σ H H' s s' h3 a T C dx fl->hxL X.K L D σ (.ref C) dx H'->wpAny (model X.prog X.w) X.A (handleBy (.ref a) X.env hs) (SP X pins D) X.xe {s' with heap:=h3}
def Ob:PH X [] []:=λ_ _ _ _ _ _ _ _ _ _ _ _ _ _ h=>h.elim
section
variable {x n:Str}{np hpos:Pos}{b0:Stmt}{suite:Yz}{i:Nat}{ts:TS}
def Zaa(hN:X.N.Nodup)(hi:X.N[i]?=some n)(G:X.env.scope.names.lookup n=some .local)(hg:Gl X x)(hm:X.mg x=some (.ref C0))(hdb:(x==("__debug__" : Str))=false)(Y:∀a,PSs (Xa X a) (b0::suite) ts)(hr:PH X hs L):PH X (.ExceptHandler (some<|.Name x np) (some n) (b0::suite) hpos::hs) ((C0,some i,ts)::L):=by
 rintro pins σ H H' s s' h3 a T C dx fl D p ⟨C',b,ec,em,q⟩;obtain rfl:=Value.ref.inj ec;have J3:=p.inv;have S3:Inv (Xa X a) pins σ H' {s' with heap:=h3}:=KL J3
 refine Vs (Vm<|XM S3 hg hm ?_ hdb) (by intro z;cases z);obtain⟨_,⟨oe,vs,g1,g2,g3,g4⟩,_⟩:=id p.tr;refine(PySem.W.exm_one J3.kIn ((show oe.cls=Value.ref C from WG Prod.fst g2)▸(Vh g1).andThen .now) em).here ?_
 cases b with
 |false=>exact hr pins σ H H' s s' h3 a T C dx fl D p q
 |true=>
 refine codeAny_handlers_suite_as (KF p.tr λJ M k4=>?_);have h:=Km p.u (k4.mono (by simp) λ_ z=>z) λb r=>by rw[Wm.mp r];exact p.nT
 have u5:Un (frs X.stack) [] H (upd H' a<|UN a C dx) s.heap J:=by
  have ne:∀b o,s.heap.get? b=some o->b≠a:=λb o z w=>by rw[w,p.na]at z;cases z
  have l:∀b o,H' b=some o->b≠a:=λb o z w=>by rw[w,p.fa]at z;cases z
  refine⟨h.keep,h.slot,λb o z n m=>by rw[Uj (ne b o z)];exact h.free b o z n m,h.there,λb xs z=>?_,λb o u z=>?_,λb ps z=>?_⟩
  ·rw[Uj (l b _<|h.tups b xs z)];exact h.tups b xs z
  ·rw[Uj (l b _<|h.frzs b o u z)];exact h.frzs b o u z
  ·obtain⟨more,z1⟩:=h.tbls b ps z;exact⟨more,by rw[Uj (l b _ z1)];exact z1⟩
 have U:HOk X.prog X.w (upd H' a<|UN a C dx) J:=λb ob e=>by
  by_cases r:b=a
  ·subst r;rw[Ur]at e;cases e
   exact Ed M
  ·rw[Uj r]at e;refine((XS p.ok k4 (by simp) λb r=>by rw[Wm.mp r];exact p.fT) b ob e).stay (λ_ _ _ z=>z) (λc z=>?_) λc xs z=>?_
   ·rw[Uj λw=>by rw[w,p.fa]at z;cases z];exact z
   ·rw[Uj λw=>by rw[w,p.fa]at z;cases z];exact z
 have J5:Inv X pins σ (upd H' a<|UN a C dx) {s' with heap:=J}:=p.I.call' p.os u5 U p.bare λb z=>absurd z (by simp)
 have S5:Inv (Xa X a) pins σ (upd H' a<|UN a C dx) {s' with heap:=J}:=KL J5
 refine Te (X:=Xa X a) S5 hN hi (.inl G) (v:=.ref a) rfl (λs6 S6=>?_) (.inr G);refine WD (Y a pins s6 _ _ _ S6<|q a p.fa) (λf s7 h7=>?_) λ_ _ z=>z.elim
 have gone:∀{g:L2.St} {B:Hp} {R:Unit->Shared->Prop},Inv (Xa X a) pins g B s7->(∀E,Inv X pins (g.set i none) B E->R () E)->wpAny (model X.prog X.w) X.A (do bindName X.env n .none;unbindBehindTheSuite X.env n hpos) R X.xe s7:=λ{g B R} y hR=>by
  obtain⟨m,hn,hl⟩:=id y.loc;exact wpAny_nameGoes_keeps G hn (by rw[show X.env.scope.kind=.function from J5.ok.kind];rfl) λh8 v hn8 hs8=>hR _ (Dl (Np J5.ok y) hN hi G hl hn hn8 hs8)
 cases f with
 |ret u=>obtain⟨v,g,B,y,rv,Q⟩:=h7;exact gone y λE I8=>⟨v,_,_,I8,rv,Q⟩
 |_=>obtain⟨g,B,y,Q⟩:=h7;exact gone y λE I8=>⟨_,_,I8,Q⟩
def Xc(U:Gl X x)(Q:X.mg x=some (.ref C0))(o:(x==("__debug__" : Str))=false)(l:∀a,PSs (Xa X a) (b0::suite) ts)(N:PH X hs L):PH X (.ExceptHandler (some<|.Name x np) none (b0::suite) hpos::hs) ((C0,none,ts)::L):=by
 rintro pins σ H H' s s' h3 a T C dx fl D p ⟨C',b,ec,em,q⟩;obtain rfl:=Value.ref.inj ec;have E:=p.inv;have S3:Inv (Xa X a) pins σ H' {s' with heap:=h3}:=KL E
 refine Vs (Vm<|XM S3 U Q ?_ o) (by intro z;cases z);obtain⟨_,⟨M,vs,g1,g2,g3,g4⟩,_⟩:=id p.tr;refine(PySem.W.exm_one E.kIn ((show M.cls=Value.ref C from WG Prod.fst g2)▸(Vh g1).andThen .now) em).here ?_
 cases b with
 |false=>exact N pins σ H H' s s' h3 a T C dx fl D p q
 |true=>
 refine codeAny_handlers_suite (KF p.tr λY G A=>?_);have y:Inv X pins σ H' {s' with heap:=Y}:=p.I.call' p.os (Km p.u (A.mono (by simp) λ_ z=>z) λb r=>by rw[Wm.mp r];exact p.nT) (XS p.ok A (by simp) λb r=>by rw[Wm.mp r];exact p.fT) p.bare λb z=>absurd z (by simp)
 refine WD (l a pins _ _ _ _ (KL y) q) (λf s7 B=>?_) λ_ _ z=>z.elim;cases f with
 |ret u=>obtain⟨v,g,H7,w,J,h⟩:=B;exact⟨v,_,_,Np y.ok w,J,h⟩
 |_=>obtain⟨g,H7,w,h⟩:=B;exact⟨_,_,Np y.ok w,h⟩
end
noncomputable def PR(X:Cx)(pins:Yr)(D:Ends)(hs:List ExceptHandler):Cx:=
 {X with pn:=X.pn++pins,xe:=λe g=>wpAny (model X.prog X.w) X.A (noteFrame e X.env) (λ_ f=>wpAny (model X.prog X.w) X.A (setFlight e none) (λ_ b=>wpAny (model X.prog X.w) X.A (handleBy e X.env hs) (SP X pins D) X.xe b) X.xe f) X.xe g}
def Io(I:Inv X pins σ H s):Inv (PR X pins D hs) [] σ H s:=⟨⟨I.ok.mod,I.ok.kind,I.ok.glob,I.ok.blt,I.ok.above,I.ok.inj,I.ok.has,I.ok.cab,I.ok.hd,I.ok.frames,I.ok.stk,I.ok.exf,I.ok.bs,I.ok.bsz,I.ok.noex,I.ok.exfs,I.ok.funs,I.ok.frf⟩,I.os,I.bare,I.base,I.loc,I.cell,I.free,I.freeC,λp b=>I.pin p (by simpa [PR]using b),I.hok,I.len⟩
def Nj(I:Inv (PR X pins D hs) pins1 σ H s):Inv X pins σ H s:=⟨⟨I.ok.mod,I.ok.kind,I.ok.glob,I.ok.blt,I.ok.above,I.ok.inj,I.ok.has,I.ok.cab,I.ok.hd,I.ok.frames,I.ok.stk,I.ok.exf,I.ok.bs,I.ok.bsz,I.ok.noex,I.ok.exfs,I.ok.funs,I.ok.frf⟩,I.os,I.bare,I.base,I.loc,I.cell,I.free,I.freeC,λp b=>I.pin p (Q2 _ b),I.hok,I.len⟩
def HR(h:X.stack=X.env::X.outer)(x:X.env.frame=some X.env.locals)(Q:PH X hs L):PD (CXe X.prog X.w) (PR X pins D hs) (hxL X.K L D):=by
 rintro pins1 σ H s e s' I ⟨a,T,C,dx,H',rfl,y,q⟩;have I:=Nj I;have J:=I.call' y.os y.un y.hok y.bare λb z=>absurd z (by simp);have E:=J.stack;have G:=J.ok.frames;rw[h]at E G;refine NL G E x y.tr λU p l u B=>?_
 have g:s.heap.get? p=none:=by
  cases z:s.heap.get? p with
  |none=>rfl
  |some o=>
   obtain⟨o1,M⟩:=y.un.there p o z (by simp);exact absurd (Wo M) (QY.mpr l)
 have n:=y.hok.fresh l
 have N:Un (frs X.stack) [] H H' s.heap U:=Km y.un (by rw[h];exact B) λb f=>by
  rcases Wu.mp f with rfl|f
  ·exact y.na
  ·rw[Wm.mp f];exact y.nT
 have v:=XS y.hok B (λb f=>J.stkFree b (by grind)) λb f=>by
  rcases Wu.mp f with rfl|f
  ·exact y.fa
  ·rw[Wm.mp f];exact y.fT
 refine KF u λh3 r A=>?_;exact Q pins σ H H' s s' h3 a p C dx _ D ⟨I,y.os,y.bare,y.na,g,y.fa,n,r,Km N (A.mono (by simp) λ_ z=>z) λb f=>by rw[Wm.mp f];exact g,XS v A (by simp) λb f=>by rw[Wm.mp f];exact n⟩ q
def MF{l:Ends->TS}(n:∀pins D,PSs (PR X pins D (o::hs)) body (l D)):PS X (.Try body (o::hs) [] [] pos) (λD σ H=>l D D σ H):=by
 intro pins s σ H D I h;refine wpAny_Try_except (WD (n pins D [] s σ H D (Io I) h) (λf p g=>?_) λ_ _ z=>z);cases f with
 |next=>
  obtain⟨b,H',J,q⟩:=g;exact Wn ⟨b,H',Nj J,q⟩
 |ret u=>obtain⟨v,b,H',J,r,q⟩:=g;exact⟨v,b,H',Nj J,r,q⟩
 |_=>obtain⟨b,H',J,q⟩:=g;exact⟨b,H',Nj J,q⟩
end
end ExcR
namespace Pu
open L2 Own
noncomputable def Pt(c n:Str):Bool:=decide (c=n) || decide (n=("MeldError" : Str))
noncomputable def Ls(oi:Option Nat)(R:X7):X7:=match oi with
 |some i=>{nx:=λg=>R.nx (g.set i none),rt:=R.rt,ex:=λ_ _=>False,bk:=λg=>R.bk (g.set i none),ct:=λg=>R.ct (g.set i none),rv:=R.rv}
 |none=>{R with ex:=λ_ _=>False}
noncomputable def Gk(oi:Option Nat)(d:D)(γ:Γ):Γ:=match oi with
 |some i=>γ.set i (some<|.sh d)
 |none=>γ
def pHs:List (Str×Option Nat×PTS)->Str->D->X7->Γ->Prop
 |[],_,_,_,_=>False
 |(n,f,p)::r,c,d,R,b=>if Pt c n=true then p (Ls f R) (Gk f d b)else pHs r c d R b
noncomputable def Hh(f:Ys)(n:Yx)(g:List (Str×Option Nat×PTS))(l:PTS):PTS:=λR h=>l {R with ex:=λb c=>(c∈n/\pHs g c (.err<|ExcR.Ud f c) R b)\/∃r,c=NW r/\pHs g "Ringed" (.erM (ExcR.Ud f "Ringed") r) R b} h
def ExOk(K:Yo)(b:Ys)(f ns:Yx):Prop:=∀c∈f,∀n∈ns,PySem.W.exmOne K (.ref<|ExcR.Ud b c) (.ref<|ExcR.Ud b n)=some (Pt c n)
inductive HsS (K:Yo) (mg:Ys) (E:L2.St->XK):List (Addr×Option Nat×TS)->List (Str×Option Nat×PTS)->Prop
 |nil:HsS K mg E [] []
 |cons {n:Str} {oi:Option Nat} {ts:TS} {p:PTS} {L:List (Addr×Option Nat×TS)} {hs:List (Str×Option Nat×PTS)}:Uk K mg E ts p->HsS K mg E L hs->HsS K mg E ((ExcR.Ud mg n,oi,ts)::L) ((n,oi,p)::hs)
section
variable {K:Yo}{mg:Ys}{E:L2.St->XK}
theorem Bs{B Y w}{γ x}{R D c d C dx}(T:∀b,B b->∃o,M b=some o)(e:PQ K mg E M B H Y γ R D)(U:Ue K M B H' w x)(A:Fr B H Y γ H' w x){E'}(hd:∀a,H' a=none->Rp K (off (zof B x w)<|upd H' a<|ExcR.UN a C dx) d (.ref a)):∀{L} {N:List (Str×Option Nat×PTS)},HsS K mg E' L N->(∀n∈N.map (·.1),PySem.W.exmOne K (.ref C) (.ref<|ExcR.Ud mg n)=some (Pt c n))->pHs N c d R x->ExcR.hxL K L D w (.ref C) dx H'
 |_,_,.nil,_,h=>h
 |_,_,.cons (n:=n) (oi:=oi) hh r,hx,h=>by
  refine⟨C,Pt c n,rfl,hx n WR,?_⟩;unfold pHs at h;split at h
  ·rename_i Q;rw[Wr Q];cases oi with
   |none=>exact hh M B H' w x _ _ T U h ⟨λf g u l q p=>e.nx _ _ u l q (A.trans p),e.rt,λ_ _ _ _ z=>z.elim,λf g u l q p=>e.bk _ _ u l q (A.trans p),λf g u l q p=>e.ct _ _ u l q (A.trans p),λf g d v u l q p=>e.rv f g d v u l q (A.trans p)⟩
   |some i=>
    intro a na;obtain⟨e2,f2⟩:=U.set (s:=.sh d) (UJ na) (hd a na) rfl;have y:=A.trans f2;refine hh M B _ _ _ _ _ T e2 h ⟨λf g u l q p=>?_,e.rt,λ_ _ _ _ z=>z.elim,λf g u l q p=>?_,λf g u l q p=>?_,λf g d v u l q p=>e.rv f g d v u l q (y.trans p)⟩
    ·obtain⟨J,G⟩:=q.gone i;exact e.nx _ _ u l J (y.trans<|p.trans G)
    ·obtain⟨J,G⟩:=q.gone i;exact e.bk _ _ u l J (y.trans<|p.trans G)
    ·obtain⟨J,G⟩:=q.gone i;exact e.ct _ _ u l J (y.trans<|p.trans G)
  ·rename_i Q;rw[Wq Q];exact Bs T e U A hd r (λn hn=>hx n (W2 _ hn)) h
def RR{w:Ends->TS}{pb}{E'}(v ns:Yx)(hx:ExOk K mg ("Ringed" :: v) ns)(A:HsS K mg E' L x)(hb:∀D,Uk K mg (ExcR.hxL K L D) (w D) pb)(T:autoParam (x.map (·.1)=ns) au_0)(U:autoParam (∀c∈v,Kf c=none) au_1):Uk K mg E (λD p H=>w D D p H) (Hh mg v x pb):=by
 subst T;intro H0 B H p Q R D s u h e;refine hb D H0 B H p Q _ D s u h ⟨e.nx,e.rt,λM N c H' Y b C=>?_,e.bk,e.ct,e.rv⟩;rcases Y with⟨f,q⟩|⟨r,rfl,q⟩
 ·exact .of (U c f) (Bs s e b C (λa n=>.err (U1 Ur λz=>by have:=b.zm a z;rw[n]at this;exact this)) A (hx c<|W2 _ f) q)
 ·refine .ofM λG l o g y=>Bs s e b C (λa n=>?_) A (hx _ WR) q;have J:=UJ (o:=ExcR.UN a (ExcR.Ud mg "Ringed") (some G)) n;exact .erM (U1 Ur λz=>by have:=b.zm a z;rw[n]at this;exact this) (U1 (J _ _ g) λz=>by have:=b.zm G z;rw[g]at this;exact this) (U1 (J _ _ y) λz=>by have:=b.zm l z;rw[y]at this;exact this)
end
def ExOk.sub {K g l ns f b} (h:ExOk K g l ns) (r:∀c∈f,c∈l) (q:∀n∈b,n∈ns):ExOk K g f b:=λc p n o=>h c (r c p) n (q n o)
noncomputable def BP(K:Yo)(b ns:Y2):Bool:=b.all λc=>ns.all λn=>decide (PySem.W.exmOne K (.ref c.2) (.ref n.2)=some (Pt c.1 n.1))
def LX{K b f ns}(h:BP K (f.map λc=>(c,ExcR.Ud b c)) (ns.map λn=>(n,ExcR.Ud b n))=true):ExOk K b f ns:=λc l n g=>
 Ww (WO.mp (WO.mp h _<|WT.mpr ⟨c,l,rfl⟩) _<|WT.mpr ⟨n,g,rfl⟩)
def hq{A}(h:Uh j A)(b:autoParam (k<=j) au_1):Uh k A:=h.mono b
section
variable {X:Cx}{sc:Scope}{elt iter tg:Expr}{ifs:Yy}{pos:Pos}{wi:TI}{g:TG}{tc:TT}{te:TE}{x:Str}
def cz(N':Yx)(φ:Yu)(p:PI X tg iter wi)(l:∀{n C b f ex},PG (U6 X N' sc n C b f ex) tg g/\K7 (U6 X N' sc n C b f ex) ifs tc/\PE (U6 X N' sc n C b f ex) elt te)(h:autoParam (X.calm=true) au_0)(S:autoParam (Tf sc X.env.scope X.N N' φ=true) au_0)(o:autoParam (∀x,foldedSetIterable iter X.env x=pure x) au_3):PE X (.ListComp elt [⟨tg,iter,ifs,0⟩] sc pos) (PM φ wi g tc te):=Sn h (.of S) p (λ_ _ _ _ _=>l) o
def gk(i:Nat)(h:autoParam (decide X.N.Nodup=true) au_8)(b:autoParam (X.N[i]?=some x) au_0)(hx:autoParam (Loc X.env.scope x) au_6)(f:autoParam (X.fn x=true\/X.env.scope.names.lookup x=some .local) au_2):PG X (.Name x pos) (XW i):=Tv (Ww h) b hx f
end
section
variable {P:Program}{w:World}{K:Yo}{mg:Ys}{base:Heap}{N ps:Yx}{sp:Sp}{p:PTS}{x q:Str}{st:Stmt}{k:Nat}{W:Addr->Prop}
def _root_.Own.Def.ez (D:Def K mg x st ps) (S:Ui N ps (Uc st))
  (g:∀{f b A outer s H} {E:XK},Uh k (A.deeper<|envOfC x (Uc st) s.heap.objs.size f b)->
   ∃t,PSs (Uy CX0 P w K mg base N x (Uc st) f b A outer s H E).nox (Uu st) t/\Uk K mg (λ_=>E) t p) (u:Uz K mg N ps sp p):Callee P w K mg base CX0 (k+1) x ps sp:=D.oz S (λ_ _ _ _ _ _ _=>g) u
def _root_.Own.Def.ey (D:Def K mg x st ps) (S:Ui N ps (Uc st))
  (g:∀{f b A outer s H} {E:XK},Uh k (A.deeper<|envOfC x (Uc st) s.heap.objs.size f b)->
   ∃t,PSs (Uy (ExcR.CXe P w) P w K mg base N x (Uc st) f b A outer s H E) (Uu st) t/\Uk K mg (λ_=>E) t p) (u:Uz K mg N ps sp p):Callee P w K mg base (ExcR.CXe P w) (k+1) x ps sp:=D.ox S (λ_ _ _ _ _ _ _=>g) u
def Uw.ez (D:Uw K W x q st ps) (S:Ui N ps (Uc st))
  (g:∀{f b A outer s H} {E:XK},Uh k (A.deeper<|envOfC q (Uc st) s.heap.objs.size f b)->
   ∃t,PSs (Uy CX0 P w K mg base N q (Uc st) f b A outer s H E).nox (Uu st) t/\Uk K mg (λ_=>E) t p) (u:Uz K mg N ps sp p):Xq P w K mg base CX0 (k+1) W ps sp:=D.oz S (λ_ _ _ _ _ _ _=>g) u
def Uw.ey (D:Uw K W x q st ps) (S:Ui N ps (Uc st))
  (g:∀{f b A outer s H} {E:XK},Uh k (A.deeper<|envOfC q (Uc st) s.heap.objs.size f b)->
   ∃t,PSs (Uy (ExcR.CXe P w) P w K mg base N q (Uc st) f b A outer s H E) (Uu st) t/\Uk K mg (λ_=>E) t p) (u:Uz K mg N ps sp p):Xq P w K mg base (ExcR.CXe P w) (k+1) W ps sp:=D.ox S (λ_ _ _ _ _ _ _=>g) u
end
structure Fit {ι:Type} (F:ι->Cx) (K:Yo) (mg:Ys):Prop where
 k:∀j,(F j).K=K
 m:∀j,(F j).mg=mg
section
variable {ι:Type} (F:ι->Cx) (K:Yo) (mg:Ys) (E:L2.St->XK)
structure CE (e:Expr) (p:PTE):Prop where
 h:Fit F K mg->∃t,(∀j,PE (F j) e t)/\Ub K mg E t p
structure CT (e:Expr) (p:PTT):Prop where
 h:Fit F K mg->∃t,(∀j,PT (F j) e t)/\UF K mg E t p
structure CW (e:Expr) (p:PTT):Prop where
 h:Fit F K mg->∃t,(∀j,PW (F j) e t)/\UF K mg E t p
structure CA (es:Yy) (p:PTA):Prop where
 h:Fit F K mg->∃t,(∀j,PA (F j) es t)/\Uv K mg E t p
structure CS (s:Stmt) (p:PTS):Prop where
 h:Fit F K mg->∃t,(∀j,PS (F j) s t)/\Uk K mg E t p
structure CB (b:Yz) (p:PTS):Prop where
 h:Fit F K mg->∃t,(∀j,PSs (F j) b t)/\Uk K mg E t p
structure CI (tg e:Expr) (p:PTI):Prop where
 h:Fit F K mg->∃t,(∀j,PI (F j) tg e t)/\SndI K mg E t p
structure CJ (tg e:Expr) (p:PTI):Prop where
 h:Fit F K mg->∃t,(∀j,PI (F j) tg e t)/\T1 K mg E t p
structure CG (e:Expr) (is:Yv) (p:PTG):Prop where
 h:Fit F K mg->∃t,(∀j,PG (F j) e t)/\Ky K is t p
structure CGs (es:Yy) (is:Yv) (p:KJ):Prop where
 h:Fit F K mg->∃t,(∀j,PGs (F j) es t)/\Pv K is t p
structure CF (es:Yy) (p:PTT):Prop where
 h:Fit F K mg->∃t,(∀j,K7 (F j) es t)/\UF K mg E t p
end
section
variable {ι:Type}{F:ι->Cx}{K:Yo}{mg:Ys}{E:L2.St->XK}{e f g:Expr}{es:Yy}{a b c:PTE}{r:PTA}{x:Str}{pos p1:Pos}{k n:Nat}{s:Stmt}{d1 d2:Yz}{p q:PTS}{t u:PTT}{is:Yv}{pg:PTG}{it:PTI}
def xv(i:Nat)(v:autoParam (∀j,(F j).N[i]?=some x) au_3)(h:autoParam (∀j,Vis (F j).env.scope x) au_9)(l:autoParam ((x==("__debug__" : Str))=false) au_1)(o:autoParam ((x==("__classdict__" : Str))=false) au_1):CE F K mg E (.Name x pos) (Nd i):=.mk λ_=>⟨_,λj=>pv i (v j) (h j) l o,Ug i⟩
def xi:CE F K mg E (.Constant (.int i) k pos) (pC<|.int i):=.mk λ_=>⟨_,λ_=>UA,Uo⟩
def xb:CE F K mg E (.Constant (.bool i) k pos) (pC<|.bl i):=.mk λ_=>⟨_,λ_=>Ta,PP⟩
def xs:CE F K mg E (.Constant (.str i) k pos) (pC<|.str i):=.mk λ_=>⟨_,λ_=>UI,UC⟩
def xe(h:∀{j},PE (F j) e te)(k:Ub K mg E te a):CE F K mg E e a:=.mk λ_=>⟨_,λ_=>h,k⟩
def xo{r}(y:∀{X},OpR X (binaryOp l) r)(w:∀{t u},Ub K mg E t a->Ub K mg E u b->Ub K mg E (tOp r t u) c)(A:CE F K mg E e a)(B:CE F K mg E f b):CE F K mg E (.BinOp e l f pos) c:=
 .mk λh=>let ⟨_,C,v⟩:=A.h h;let ⟨_,z,o⟩:=B.h h;⟨_,λj=>Gx y (C j) (z j),w v o⟩
def xx(A:CE F K mg E e a)(B:CE F K mg E f b)(v:autoParam (BA f) au_7):CE F K mg E (.Subscript e f pos) (p2 a b fIx):=
 .mk λh=>let ⟨_,y,o⟩:=A.h h;let ⟨_,w,l⟩:=B.h h;⟨_,λj=>jx K (y j) (w j) (h.k j) v,Nb o l⟩
def xl(w:mg "len"=none)(A:CE F K mg E e a)(y:autoParam (∀j,Gl (F j) "len") au_3)(v:autoParam (∀j,starEach [e] (F j).env=(false,eval e (F j).env)::starEach [] (F j).env) au_3)(l:autoParam (∀j,(backTo pos (starEach [] (F j).env)).any (·.1)=false) au_3) :
  CE F K mg E (.Call (.Name "len" p1) [e] [] pos) (pCB NS<|UZ a XF):=
 .mk λh=>let ⟨_,z,o⟩:=A.h h;⟨_,λj=>ln K (by rw[h.m j];exact w) (z j) (h.k j) (y j) (v j) (l j),Na (sz o)⟩
def xf{ps v}(C:Callee P w K mg base CX0 k x ps (Um mg v K))(H:∀j,Uh m (F j).A)(A:CA F K mg E (e::es) r)(N:autoParam (∀j,(F j).prog=P/\(F j).w=w/\(F j).base=base) au_10)(J:autoParam (k<=m) au_1)(L:autoParam (∀j,Gl (F j) x) au_3)(o:autoParam ((x==("__debug__" : Str))=false) au_1)(M:autoParam (∀j,starEach (e::es) (F j).env=(false,eval e (F j).env)::starEach es (F j).env) au_3)(l:autoParam (∀j,(backTo pos (starEach es (F j).env)).any (·.1)=false) au_3) :
  CE F K mg E (.Call (.Name x p1) (e::es) [] pos) (Cq v r):=
 .mk λh=>let ⟨_,Q,G⟩:=A.h h;⟨_,λj=>fz (by obtain⟨B,z,y⟩:=N j;rw[B,z,y,h.k j,h.m j];exact C) (H j) (Q j) J (L j) o (M j) (l j),Kg G⟩
def xt(A:CA F K mg E es r):CE F K mg E (.Tuple es k pos) (BV r):=.mk λh=>let ⟨_,o,l⟩:=A.h h;⟨_,λj=>PJ (o j),PN l⟩
def xL(A:CA F K mg E es r):CE F K mg E (.List es pos) (A4 r):=.mk λh=>let ⟨_,o,l⟩:=A.h h;⟨_,λj=>Xk (o j),X2 l⟩
def a0:CA F K mg E [] XF:=.mk λ_=>⟨_,λ_=>Xf,UO⟩
def ac(A:CE F K mg E e a)(B:CA F K mg E es r)(y:autoParam (∀j,starEach (e::es) (F j).env=(false,eval e (F j).env)::starEach es (F j).env) au_3):CA F K mg E (e::es) (UZ a r):=
 .mk λh=>let ⟨_,w,o⟩:=A.h h;let ⟨_,v,l⟩:=B.h h;⟨_,λj=>U5 (w j) (v j) (y j),Kc o l⟩
def a1(A:CE F K mg E e a)(h:autoParam (∀j,starEach [e] (F j).env=(false,eval e (F j).env)::starEach [] (F j).env) au_3):CA F K mg E [e] (UZ a XF):=ac A a0 h
def a2(A:CE F K mg E e a)(B:CE F K mg E f b)(l:autoParam (∀j,starEach [e,f] (F j).env=(false,eval e (F j).env)::starEach [f] (F j).env) au_3)(h:autoParam (∀j,starEach [f] (F j).env=(false,eval f (F j).env)::starEach [] (F j).env) au_3):CA F K mg E [e,f] (UZ a<|UZ b XF):=ac A (a1 B h) l
def a3(A:CE F K mg E e a)(B:CE F K mg E f b)(C:CE F K mg E g c)(o:autoParam (∀j,starEach [e,f,g] (F j).env=(false,eval e (F j).env)::starEach [f,g] (F j).env) au_3)(l:autoParam (∀j,starEach [f,g] (F j).env=(false,eval f (F j).env)::starEach [g] (F j).env) au_3)(h:autoParam (∀j,starEach [g] (F j).env=(false,eval g (F j).env)::starEach [] (F j).env) au_3):CA F K mg E [e,f,g] (UZ a<|UZ b<|UZ c XF):=ac A (a2 B C l h) o
def te(h:∀{j},PT (F j) e tt)(k:UF K mg E tt t):CT F K mg E e t:=.mk λ_=>⟨_,λ_=>h,k⟩
def tc{r}(y:∀{X},OpR X (compareOp l) r)(w:∀{t u},Ub K mg E t a->Ub K mg E u b->Ub K mg E (tOp r t u) c)(A:CE F K mg E e a)(B:CE F K mg E f b)(z:behindInMarks l f=false:=by exact Ke _):CT F K mg E (.Compare e [l] [f] pos) (K6 c):=
 .mk λh=>let ⟨_,G,v⟩:=A.h h;let ⟨_,C,o⟩:=B.h h;⟨_,λj=>XJ y (G j) (C j) z,X0 (w v o)⟩
def tq(v:∀j,Uh n (F j).A)(A:CE F K mg E e a)(B:CE F K mg E f b):CT F K mg E (.Compare e [.Eq] [f] pos) (K6<|p2 a b<|KQ false):=
 .mk λh=>let ⟨_,y,o⟩:=A.h h;let ⟨_,w,l⟩:=B.h h;⟨_,λj=>cq K (v j) (y j) (w j) (h.k j),X0 (DY o l)⟩
def tn(v:∀j,Uh n (F j).A)(A:CE F K mg E e a)(B:CE F K mg E f b):CT F K mg E (.Compare e [.NotEq] [f] pos) (K6<|p2 a b<|KQ true):=
 .mk λh=>let ⟨_,y,o⟩:=A.h h;let ⟨_,w,l⟩:=B.h h;⟨_,λj=>cn K (v j) (y j) (w j) (h.k j),X0 (DE o l)⟩
def ti(v:∀j,Uh n (F j).A)(A:CE F K mg E e a)(B:CE F K mg E f b)(w:autoParam (behindInMarks .In f=false) au_11):CT F K mg E (.Compare e [.In] [f] pos) (K6<|p2 a b<|fIn false):=
 .mk λh=>let ⟨_,z,o⟩:=A.h h;let ⟨_,y,l⟩:=B.h h;⟨_,λj=>XJ (Rl (Ts<|v j)<|h.k j) (z j) (y j) w,X0 (D6 o l)⟩
def tI(v:∀j,Uh n (F j).A)(A:CE F K mg E e a)(B:CE F K mg E f b)(w:autoParam (behindInMarks .NotIn f=false) au_11):CT F K mg E (.Compare e [.NotIn] [f] pos) (K6<|p2 a b<|fIn true):=
 .mk λh=>let ⟨_,z,o⟩:=A.h h;let ⟨_,y,l⟩:=B.h h;⟨_,λj=>XJ (Zau (Ts<|v j)<|h.k j) (z j) (y j) w,X0 (D6 o l)⟩
def tt(A:CE F K mg E e a)(o:autoParam (∀j whole,isTrue e (F j).env whole=(do let v ←whole;standAt e.pos;holding [v] (truthy v))) au_7):CT F K mg E e (Fg a):=.mk λh=>let ⟨_,w,l⟩:=A.h h;⟨_,λj=>SX (w j) (h.k j) (o j),SW l⟩
def tN(A:CT F K mg E e t):CT F K mg E (.UnaryOp .Not e pos) (DN t):=.mk λh=>let ⟨_,o,l⟩:=A.h h;⟨_,λj=>EF (o j),Dc l⟩
def tp(A:CW F K mg E e t):CT F K mg E e t:=.mk λh=>let ⟨_,o,l⟩:=A.h h;⟨_,λj=>(o j).pt,l⟩
def wa(A:CT F K mg E e t)(B:CW F K mg E (.BoolOp .And (f::es) pos) u):CW F K mg E (.BoolOp .And (e::f::es) pos) (EB t u):=.mk λh=>let ⟨_,w,o⟩:=A.h h;let ⟨_,v,l⟩:=B.h h;⟨_,λj=>Rh (w j) (v j),Ge o l⟩
def wo(A:CT F K mg E e t)(B:CW F K mg E (.BoolOp .Or (f::es) pos) u):CW F K mg E (.BoolOp .Or (e::f::es) pos) (pOr t u):=.mk λh=>let ⟨_,w,o⟩:=A.h h;let ⟨_,v,l⟩:=B.h h;⟨_,λj=>Ez (w j) (v j),Af o l⟩
def wA(A:CT F K mg E e t):CW F K mg E (.BoolOp .And [e] pos) t:=.mk λh=>let ⟨_,o,l⟩:=A.h h;⟨_,λj=>Zas (o j),l⟩
def wO(A:CT F K mg E e t):CW F K mg E (.BoolOp .Or [e] pos) t:=.mk λh=>let ⟨_,o,l⟩:=A.h h;⟨_,λj=>Dn (o j),l⟩
def se(h:∀{j},PS (F j) s l)(k:Uk K mg E l p):CS F K mg E s p:=.mk λ_=>⟨_,λ_=>h,k⟩
def sS(i:Nat)(y:∀j,(F j).N.Nodup)(A:CE F K mg E e a)(v:autoParam (∀j,(F j).N[i]?=some x) au_3)(hx:autoParam (∀j,Loc (F j).env.scope x) au_12)(o:autoParam (∀j,swapsWith e (some<|.Name x p1) pos.line (F j).env=pure false) au_3)(w:autoParam (∀j,(F j).fn x=true\/(F j).env.scope.names.lookup x=some .local) au_13):CS F K mg E (.Assign [.Name x p1] e pos) (NF a<|KD i):=
 .mk λh=>let ⟨_,z,l⟩:=A.h h;⟨_,λj=>pz i (y j) (z j) (v j) (hx j) (o j) (w j),T5 l (XI i)⟩
def sR(A:CE F K mg E e a):CS F K mg E (.Return (some e) pos) (DM a):=.mk λh=>let ⟨_,o,l⟩:=A.h h;⟨_,λj=>U8 (o j),UP l⟩
def sF(i:Nat)(A:CS F K mg E s p):CS F K mg E s (FK i p):=.mk λh=>let ⟨_,o,l⟩:=A.h h;⟨_,o,D5 i l⟩
def sI(A:CT F K mg E e t)(B:CB F K mg E d1 p)(C:CB F K mg E d2 q):CS F K mg E (.If e d1 d2 pos) (A2 t p q):=.mk λh=>let ⟨_,z,v⟩:=A.h h;let ⟨_,y,o⟩:=B.h h;let ⟨_,w,l⟩:=C.h h;⟨_,λj=>Sm (z j) (y j) (w j),Sf v o l⟩
def sE(A:CE F K mg E e a)(o:autoParam (∀j,swapsWith e none pos.line (F j).env=pure false) au_3):CS F K mg E (.Expr e pos) (Ey a):=.mk λh=>let ⟨_,v,l⟩:=A.h h;⟨_,λj=>XA (v j) (o j),Nx l⟩
def sO(l:Yv)(C:∀{j},PassesOwn (model (F j).prog (F j).w) (F j).A (F j).env (F j).xe)(I:CI F K mg E f e it)(G:CG F K mg f is pg)(B:CB F K mg E d1 p)(H:autoParam (∀j,(F j).calm=true) au_3)(z:autoParam (∀j x,foldedSetIterable e (F j).env x=pure x) au_7) :
  CS F K mg E (.For f e d1 [] pos) (EG l it pg p):=
 .mk λh=>let ⟨_,M,y⟩:=I.h h;let ⟨_,L,v⟩:=G.h h;let ⟨_,J,o⟩:=B.h h;⟨_,λj=>B0 C (H j) (M j) (L j) (J j) (z j),DO l y v o⟩
def sW(l:Yv)(y:∀{j},PassesOwn (model (F j).prog (F j).w) (F j).A (F j).env (F j).xe)(A:CT F K mg E e t)(B:CB F K mg E d1 p):CS F K mg E (.While e d1 [] pos) (D4 l t p):=
 .mk λh=>let ⟨_,C,v⟩:=A.h h;let ⟨_,z,o⟩:=B.h h;⟨_,λj=>Iu y (C j) (z j),RZ l v o⟩
def b0:CB F K mg E [] Ex:=.mk λ_=>⟨_,λ_=>AV,DH⟩
def b1(A:CS F K mg E s p):CB F K mg E [s] p:=.mk λh=>let ⟨_,o,l⟩:=A.h h;⟨_,λj=>U0 (o j),l⟩
def bc(A:CS F K mg E s p)(B:CB F K mg E d1 q):CB F K mg E (s::d1) (Aq p q):=.mk λh=>let ⟨_,w,o⟩:=A.h h;let ⟨_,v,l⟩:=B.h h;⟨_,λj=>E1 (w j) (v j),Df o l⟩
def bj(A:CS F K mg E s p)(B:CB F K mg E d1 q):CB F K mg E (s::d1) (AZ p q):=.mk λh=>let ⟨_,w,o⟩:=A.h h;let ⟨_,v,l⟩:=B.h h;⟨_,λj=>Za9 (w j) (v j),OU o l⟩
def iL(A:CE F K mg E e a):CI F K mg E f e (pIL a):=.mk λh=>let ⟨_,o,l⟩:=A.h h;⟨_,λj=>KM (o j) (h.k j),R1 l⟩
def ir(v:mg "range"=none)(A:CA F K mg E [e] r)(w:autoParam (∀j,Gl (F j) "range") au_3)(o:autoParam (∀j,starEach [e] (F j).env=[(false,eval e (F j).env)]) au_3):CI F K mg E f (.Call (.Name "range" p1) [e] [] pos) (Dw r):=
 .mk λh=>let ⟨_,y,l⟩:=A.h h;⟨_,λj=>Mm (w j) (by rw[h.m j];exact v) (y j) (o j),GZ l⟩
def jL(A:CE F K mg E e a):CJ F K mg E f e (Cg a):=.mk λh=>let ⟨_,o,l⟩:=A.h h;⟨_,λj=>KM (o j) (h.k j),NG l⟩
def gN(i:Nat)(o:autoParam (∀j,decide (F j).N.Nodup=true) au_14)(h:autoParam (∀j,(F j).N[i]?=some x) au_3)(hx:autoParam (∀j,Loc (F j).env.scope x) au_12)(l:autoParam (∀j,(F j).fn x=true\/(F j).env.scope.names.lookup x=some .local) au_13):CG F K mg (.Name x pos) [i] (KD i):=.mk λ_=>⟨_,λj=>gk i (o j) (h j) (hx j) (l j),XI i⟩
def gT(n:Nat){pr}(G:CGs F K mg es is pr)(w:autoParam (∀j,(F j).calm=true) au_3)(v:autoParam (∀j,(assignEach es (F j).env).length=n) au_3)(l:autoParam (∀j,(assignEach es (F j).env).findIdx? (·.1)=none) au_3):CG F K mg (.Tuple es k pos) is (N5 n pr):=
 .mk λh=>let ⟨_,y,o⟩:=G.h h;⟨_,λj=>FV (w j) (y j) (h.k j) (v j) (l j),L7 o⟩
def g0:CGs F K mg [] [] Aj:=.mk λ_=>⟨_,λ_=>Fi,LR⟩
def gc(G:CG F K mg e is pg)(B:CGs F K mg es w l)(y:autoParam (∀j,(assignEach (e::es) (F j).env).map (·.2)=assign e (F j).env::(assignEach es (F j).env).map (·.2)) au_3):CGs F K mg (e::es) (is++w) (ED pg l):=
 .mk λh=>let ⟨_,A,v⟩:=G.h h;let ⟨_,z,o⟩:=B.h h;⟨_,λj=>NV (A j) (z j) (y j),Mb v o⟩
def f0:CF F K mg E [] Sy:=.mk λ_=>⟨_,λ_=>Nw,N2⟩
def f1(A:CT F K mg E e t):CF F K mg E [e] t:=.mk λh=>let ⟨_,o,l⟩:=A.h h;⟨_,λj=>Fq (o j),l⟩
noncomputable abbrev Blk(F:ι->Cx)(N':Yx)(h:Scope):ι×Y2×Addr×Shared×Hp×List Addr->Cx:=λj=>U6 (F j.1) N' h j.2.1 j.2.2.1 j.2.2.2.1 j.2.2.2.2.1 j.2.2.2.2.2
def xC(N':Yx)(φ:Yu)(I:CJ F K mg E f e it)(G:CG (Blk F N' v) K mg f is pg)(T:CF (Blk F N' v) K mg E es t)(A:CE (Blk F N' v) K mg E g a)(hc:autoParam (∀j,(F j).calm=true) au_3)(S:autoParam (∀j,Tf v (F j).env.scope (F j).N N' φ=true) au_3)(hs:autoParam (∀j x,foldedSetIterable e (F j).env x=pure x) au_7)(h1:autoParam ((φ.filterMap id).Nodup) au_1)(h2:autoParam (∀j∈is,φ[j]?=some none) au_1) :
  CE F K mg E (.ListComp g [⟨f,e,es,0⟩] v pos) (Bp φ it pg t a):=.mk λh=>by
 have w:Fit (Blk F N' v) K mg:=⟨λj=>h.k j.1,λj=>h.m j.1⟩;obtain⟨_,Y,L⟩:=I.h h;obtain⟨_,U,J⟩:=G.h w;obtain⟨_,Q,H⟩:=T.h w;obtain⟨_,M,B⟩:=A.h w;exact⟨_,λj=>Sn (hc j) (.of<|S j) (Y j) (λz C l o y=>⟨U (j,z,C,l,o,y),Q (j,z,C,l,o,y),M (j,z,C,l,o,y)⟩) (hs j),PK L J H B h1 h2⟩
def sr(A:CE F K mg E e a):CS F K mg E (.Return (some e) pos) (A7 a):=.mk λh=>let ⟨_,o,l⟩:=A.h h;⟨_,λj=>U8 (o j),Mo l⟩
def sV(i:Nat)(v:autoParam (∀j,(F j).N[i]?=some x) au_3)(h:autoParam (∀j,Vis (F j).env.scope x) au_9)(l:autoParam ((x==("__debug__" : Str))=false) au_1)(o:autoParam ((x==("__classdict__" : Str))=false) au_1):CS F K mg E (.Return (some<|.Name x p1) pos) (N7 i):=.mk λ_=>⟨_,λj=>U8 (pv i (v j) (h j) l o),Oq i⟩
def sA(i:Nat)(A:CE F K mg E e a)(H:autoParam (∀j,(F j).N[i]?=some x) au_3)(B:autoParam (∀j,Vis (F j).env.scope x) au_9)(C:autoParam ((x==("__debug__" : Str))=false) au_1)(G:autoParam ((x==("__classdict__" : Str))=false) au_1){apos cpos}(v:autoParam (∀j,attributeBase (.Name x p1) "append" (F j).env (eval (.Name x p1) (F j).env)=eval (.Name x p1) (F j).env) au_3)(w:autoParam (∀j,((backTo cpos (starEach [e] (F j).env)).all (λx=>!x.1)&&(backToKw cpos (keywordEach [] (F j).env)).all (λx=>x.1.isSome)&&decide ([e].length+([]:List Keyword).length+(if ([]:List Keyword).isEmpty then 0 else 1)<30))=true) au_3)(o:autoParam ((apos.endLine==cpos.line)=true) au_0)(y:autoParam (∀j,starEach [e] (F j).env=(false,eval e (F j).env)::starEach [] (F j).env) au_3)(l:autoParam (∀j,(backTo cpos (starEach [] (F j).env)).any (·.1)=false) au_3)(hw:autoParam (∀j,swapsWith (.Call (.Attribute (.Name x p1) "append" apos) [e] [] cpos) none pos.line (F j).env=pure false) au_3):CS F K mg E (.Expr (.Call (.Attribute (.Name x p1) "append" apos) [e] [] cpos) pos) (Bo i a):=
 .mk λh=>let ⟨_,J,z⟩:=A.h h;⟨_,λj=>XA (BD Qo Ql Qm Pj (pv i (H j) (B j) C G) (U5 (J j) Xf<|y j) (h.k j) (v j) (w j) o (y j)<|l j) (hw j),O2 i z⟩
def sC(i:Nat)(N':Yx)(φ:Yu){y py spos}(hN:∀j,(F j).N.Nodup)(I:CJ F K mg E f e it)(G:CG (Blk F N' v) K mg f is pg)(T:CF (Blk F N' v) K mg E es t)(A:CE (Blk F N' v) K mg E g a)(hy:autoParam (∀j,(F j).N[i]?=some y) au_3)(hl:autoParam (∀j,(F j).env.scope.names.lookup y=some .local) au_3)(hc:autoParam (∀j,(F j).calm=true) au_3)(S:autoParam (∀j,Tf v (F j).env.scope (F j).N N' φ=true) au_3)(hs:autoParam (∀j x,foldedSetIterable e (F j).env x=pure x) au_7)(h1:autoParam ((φ.filterMap id).Nodup) au_1)(h2:autoParam (∀j∈is,φ[j]?=some none) au_1)(hw:autoParam (∀j,swapsWith (.ListComp g [⟨f,e,es,0⟩] v pos) (some<|.Name y py) spos.line (F j).env=pure true) au_3) :
  CS F K mg E (.Assign [.Name y py] (.ListComp g [⟨f,e,es,0⟩] v pos) spos) (NF (Bp φ it pg t a)<|KD i):=.mk λh=>by
 have w:Fit (Blk F N' v) K mg:=⟨λj=>h.k j.1,λj=>h.m j.1⟩;obtain⟨_,i1,M⟩:=I.h h;obtain⟨_,Y,L⟩:=G.h w;obtain⟨_,U,J⟩:=T.h w;obtain⟨_,Q,H⟩:=A.h w;exact⟨_,λj=>OV (hN j) (hy j) (hl j) (hc j) (.of<|S j) (i1 j) (λB C l o z=>⟨Y (j,B,C,l,o,z),U (j,B,C,l,o,z),Q (j,B,C,l,o,z)⟩) (hs j) (hw j),T5 (PK M L J H h1 h2) (XI i)⟩
def sX(i:Nat)(B:CE F K mg E f b)(A:CE F K mg E e a)(Q:autoParam (∀j,(F j).N[i]?=some x) au_3)(G:autoParam (∀j,Vis (F j).env.scope x) au_9)(J:autoParam ((x==("__debug__" : Str))=false) au_1)(L:autoParam ((x==("__classdict__" : Str))=false) au_1){q1}(M:autoParam (∀j v,assign (.Subscript (.Name x p1) f q1) (F j).env v=(do
   let l ←holding [v] (eval (.Name x p1) (F j).env)
   let o ←holding [v,l] (eval f (F j).env)
   standAt q1
   holding [v,l,o] (setItem l o v)
   release [v,l,o] [])) au_7)(H:autoParam (∀j,swapsWithSole [.Subscript (.Name x p1) f q1] e pos.line (F j).env=pure false) au_3)(hw:autoParam (∀j,swappedStores [.Subscript (.Name x p1) f q1] e (F j).env=pure none) au_3)(T:autoParam (∀j,(assignEach [.Subscript (.Name x p1) f q1] (F j).env).map (·.2)=[assign (.Subscript (.Name x p1) f q1) (F j).env]) au_3):CS F K mg E (.Assign [.Subscript (.Name x p1) f q1] e pos) (Sb i b a):=
 .mk λh=>let ⟨_,C,y⟩:=B.h h;let ⟨_,z,w⟩:=A.h h;⟨_,λj=>Dy (z j) (AG (pv i (Q j) (G j) J L) (C j) Ew<|M j) (H j) (hw j) (T j),RG i y w⟩
structure CO {ι:Type} (F:ι->Cx) (K:Yo) (mg:Ys) (E:L2.St->XK) (o:Option Expr) (p:PTO):Prop where
 h:Fit F K mg->∃t,(∀j,PO (F j) o t)/\Kx K mg E t p
def o0:CO F K mg E none DV:=.mk λ_=>⟨_,λ_=>Eb,De⟩
def o1(A:CE F K mg E e a):CO F K mg E (some e) (Cn a):=.mk λh=>let ⟨_,o,l⟩:=A.h h;⟨_,λj=>ET (o j),CD l⟩
def xp{lo o l u v}(A:CE F K mg E e a)(L:CO F K mg E lo l)(U:CO F K mg E o u):CE F K mg E (.Subscript e (.Slice lo o none v) pos) (pSl a l u):=
 .mk λh=>let ⟨_,G,z⟩:=A.h h;let ⟨_,C,y⟩:=L.h h;let ⟨_,B,w⟩:=U.h h;⟨_,λj=>Cu (BX<|h.k j) (G j) (C j) (B j),GL z y w⟩
def xI(C:CT F K mg E g t)(A:CE F K mg E e a)(B:CE F K mg E f b):CE F K mg E (.IfExp g e f pos) (Dx t a b):=.mk λh=>let ⟨_,z,v⟩:=C.h h;let ⟨_,y,o⟩:=A.h h;let ⟨_,w,l⟩:=B.h h;⟨_,λj=>RY (z j) (y j) (w j),MW v o l⟩
def x0:CE F K mg E (.Constant .none k pos) (pC .non):=.mk λ_=>⟨_,λ_=>Iw,Ou⟩
def sQ{cpos v}(B:ExcR.U3 K (ExcR.Ud mg x))(y:mg x=some (.ref<|ExcR.Ud mg x))(H:∀{j},ExcR.Sv (F j) v)(A:CA F K mg (λ_=>v) (e::es) r)(G:autoParam (∀j,(F j).calm=true) au_3)(z:autoParam (∀j,Gl (F j) x) au_3)(o:autoParam ((x==("__debug__" : Str))=false) au_1)(C:autoParam (∀j,starEach (e::es) (F j).env=(false,eval e (F j).env)::starEach es (F j).env) au_3)(l:autoParam (∀j,(backTo cpos (starEach es (F j).env)).any (·.1)=false) au_3)(hx:autoParam (Kf x=none) au_0) :
  CS F K mg (λ_=>v) (.Raise (some<|.Call (.Name x p1) (e::es) [] cpos) none pos) (Fl x r):=
 .mk λh=>let ⟨_,J,w⟩:=A.h h;⟨_,λj=>ExcR.GS (by rw[h.k j];exact B.c) (by rw[h.m j];exact y) H (G j) (J j) (z j) o (C j) (l j),Og w hx⟩
def xg{ps y v}(C:Callee P w K mg base (ExcR.CXe P w) k x ps (Um mg y K))(J:∀j,Uh m (F j).A)(hx:∀{j},Xj (ExcR.CXe P w) (F j) v)(A:CA F K mg (λ_=>v) (e::es) r)(Q:autoParam (∀j,(F j).prog=P/\(F j).w=w/\(F j).base=base) au_10)(L:autoParam (k<=m) au_1)(M:autoParam (∀j,Gl (F j) x) au_3)(o:autoParam ((x==("__debug__" : Str))=false) au_1)(N:autoParam (∀j,starEach (e::es) (F j).env=(false,eval e (F j).env)::starEach es (F j).env) au_3)(l:autoParam (∀j,(backTo pos (starEach es (F j).env)).any (·.1)=false) au_3) :
  CE F K mg (λ_=>v) (.Call (.Name x p1) (e::es) [] pos) (Bb y r):=
 .mk λh=>let ⟨_,T,H⟩:=A.h h;⟨_,λj=>DA (by obtain⟨G,B,z⟩:=Q j;rw[G,B,z,h.k j,h.m j];exact C) ((J j).mono L) hx (T j) (M j) o (N j) (l j),Mu H⟩
variable {pw:PTW}
end
section
variable {P:Program}{w:World}{K:Yo}{mg:Ys}{base:Heap}{N ps:Yx}{sp:Sp}{p:PTS}{x q:Str}{st:Stmt}{k:Nat}{W:Addr->Prop}
def _root_.Own.Def.fz (D:Def K mg x st ps) (S:Ui N ps (Uc st))
  (n:∀{f b A outer s H} {E:XK},(∀{g:Type},g->Uh k (A.deeper<|envOfC x (Uc st) s.heap.objs.size f b))->(Unit->N.Nodup)->
   CB (λ_:Unit=>(Uy CX0 P w K mg base N x (Uc st) f b A outer s H E).nox) K mg (λ_=>E) (Uu st) p) (u:Uz K mg N ps sp p):Callee P w K mg base CX0 (k+1) x ps sp:=
 D.ez S (λo=>let ⟨t,h,l⟩:=(n (λ_=>o) λ_=>S.nd).h ⟨λ_=>rfl,λ_=>rfl⟩;⟨t,h (),l⟩) u
def _root_.Own.Def.fy (D:Def K mg x st ps) (S:Ui N ps (Uc st))
  (n:∀{f b A outer s H} {E:XK},(∀{g:Type},g->Uh k (A.deeper<|envOfC x (Uc st) s.heap.objs.size f b))->(Unit->N.Nodup)->
   CB (λ_:Unit=>Uy (ExcR.CXe P w) P w K mg base N x (Uc st) f b A outer s H E) K mg (λ_=>E) (Uu st) p) (u:Uz K mg N ps sp p):Callee P w K mg base (ExcR.CXe P w) (k+1) x ps sp:=
 D.ey S (λo=>let ⟨t,h,l⟩:=(n (λ_=>o) λ_=>S.nd).h ⟨λ_=>rfl,λ_=>rfl⟩;⟨t,h (),l⟩) u
def Uw.fz (D:Uw K W x q st ps) (S:Ui N ps (Uc st))
  (n:∀{f b A outer s H} {E:XK},(∀{g:Type},g->Uh k (A.deeper<|envOfC q (Uc st) s.heap.objs.size f b))->(Unit->N.Nodup)->
   CB (λ_:Unit=>(Uy CX0 P w K mg base N q (Uc st) f b A outer s H E).nox) K mg (λ_=>E) (Uu st) p) (u:Uz K mg N ps sp p):Xq P w K mg base CX0 (k+1) W ps sp:=
 D.ez S (λo=>let ⟨t,h,l⟩:=(n (λ_=>o) λ_=>S.nd).h ⟨λ_=>rfl,λ_=>rfl⟩;⟨t,h (),l⟩) u
def Uw.fy (D:Uw K W x q st ps) (S:Ui N ps (Uc st))
  (n:∀{f b A outer s H} {E:XK},(∀{g:Type},g->Uh k (A.deeper<|envOfC q (Uc st) s.heap.objs.size f b))->(Unit->N.Nodup)->
   CB (λ_:Unit=>Uy (ExcR.CXe P w) P w K mg base N q (Uc st) f b A outer s H E) K mg (λ_=>E) (Uu st) p) (u:Uz K mg N ps sp p):Xq P w K mg base (ExcR.CXe P w) (k+1) W ps sp:=
 D.ey S (λo=>let ⟨t,h,l⟩:=(n (λ_=>o) λ_=>S.nd).h ⟨λ_=>rfl,λ_=>rfl⟩;⟨t,h (),l⟩) u
end
mutual
noncomputable def py:D->PyData
 | .int i=>.int i
 | .bl b=>.bool b
 | .str x=>.str x
 | .tup f=>.tuple (pys f)
 | .lst f=>.list (pys f)
 | .fL g=>.list (g.map .int)
 |_=>.none
noncomputable def pys:List D->List PyData
 |[]=>[]
 |d::r=>py d::pys r
end
end Pu
namespace Pu
open L2 Own
section
variable {K:Yo}{mg:Ys}{E:L2.St->XK}{H0 H H1 H':Hp}{B Z Z':Addr->Prop}{σ:L2.St}{γ:Γ}
abbrev PTL:=Γ->(List (List D)->Prop)->(Str->Prop)->Prop
noncomputable def pLn:PTL:=λ_ R _=>R []
noncomputable def pLc(a:PTE)(r:PTL):PTL:=λγ R X=>a γ (λs=>match s with
 | .own (.lst f)=>UH f=true/\r γ (λb=>R (f::b)) X
 |_=>False) X
def Tw(K:Yo)(mg:Ys)(E:L2.St->XK)(g:Bool)(t:TA)(r:PTL):Prop:=∀(H0:Hp) (B:Addr->Prop) (H:Hp) (σ:L2.St) (γ:Γ) (R:List (List D)->Prop) (X:Str->Prop) (Q:List V->Hp->Prop),Ue K H0 B H σ γ->r γ R X->
 (∀(b:List (Addr×List D)) (H':Hp),R (b.map (·.2))->Same H H'->(∀c∈b,(H c.1=none\/g=false/\Er γ σ c.1)/\UH c.2=true/\∃f,H' c.1=some (.lst f)/\Rps K H' c.2 f)->(b.map (·.1)).Nodup->Q (b.map λc=>V.ref c.1) H')->
 (∀c H',X c->Same H H'->XE mg (E σ) c H')->t σ H Q
def IG:Tw K mg E true UK pLn:=λ_ _ H _ _ _ _ _ _ h q _=>q [] H h (Same.refl _) (λc b=>by cases b) Q4
def Ti{y:Bool}{te:TE}{a:PTE}{p:TA}{r:PTL}(Y:Ub K mg E te a)(U:Tw K mg E y p r):Tw K mg E y (U7 te p) (pLc a r):=by
 intro H0 B H σ γ R X Q f h q u;refine Y H0 B H σ γ _ X _ f h (λs v H1 l n M=>?_) u;have g:=f.grow n;split at l
 ·rename_i ds;obtain⟨a,rfl,a0,L,a1,a2⟩:=M;refine U H0 B H1 σ γ _ X _ g l.2 (λcs H2 T o x N=>?_) λc H' b S'=>u c H' b (n.trans S');refine q ((a,ds)::cs) H2 T (n.trans o) (λc b=>?_) ?_
  ·rcases Wu.mp b with rfl|b
   ·exact⟨.inl (a0 a rfl),l.1,L,o _ _ a1,Rps.mono (off_sub.trans o) a2⟩
   ·obtain⟨J,G,C⟩:=x c b;exact⟨J.imp (λz=>n.free z) id,G,C⟩
  ·refine WX.mpr ⟨λz=>?_,N⟩;obtain⟨c,b,A⟩:=WT.mp z;rcases(x c b).1 with w|⟨_,w⟩
   ·rw[show c.1=a from A,a1]at w
    cases w
   ·rw[show c.1=a from A]at w
    have:=f.zm a (.inr w)
    rw[a0 a rfl]at this;exact this
 ·exact l.elim
def GA{L:Addr}{f:List (Addr×List D)}(p:H L=none)(q:∀b,Z b->Mut (H b))(k2:∀c∈f,UH c.2=true/\∃vs,H c.1=some (.lst vs)/\Rps K H c.2 vs)(k3:(f.map (·.1)).Nodup) :
  OR K (off (λb=>Z b\/(O.nsl L f).adr L b)<|upd H L<|.lst (f.map λc=>V.ref c.1)) (upd H L<|.lst (f.map λc=>V.ref c.1)) L (.nsl L f):=by
 have l:=UJ (o:=.lst (f.map λc=>V.ref c.1)) p
 have r:∀b,Z b\/(O.nsl L f).adr L b->Mut (upd H L (.lst (f.map λc=>V.ref c.1)) b):=λb z=>by
  rcases z with z|z|⟨c,h,z⟩
  ·exact Xv l (q b z)
  ·rw[z,Ur];trivial
  ·obtain⟨_,n,g,_⟩:=k2 c h;rw[z,l _ _ g];trivial
 refine⟨rfl,Ur,λc h=>?_,WX.mpr ⟨λz=>?_,k3⟩⟩
 ·obtain⟨v,n,u,s⟩:=k2 c h;exact⟨n,l _ _ u,Rps.off r (Rps.mono l s) v⟩
 ·obtain⟨c,h,w⟩:=WT.mp z;obtain⟨_,n,g,_⟩:=k2 c h;rw[show c.1=L from w,p]at g
  cases g
noncomputable def Gz(r:PTL):PTE:=λγ R X=>r γ (λb=>b.length<=1000/\∀(x:Addr) (f:List (Addr×List D)),f.map (·.2)=b->R (.own<|.nsl x f)) X
def HI{p:TA}{r:PTL}(x:Tw K mg E true p r):Ub K mg E (SB p) (Gz r):=by
 intro H0 B H σ γ R X Q g h q v;refine x H0 B H σ γ _ X _ g h (λy H1 u o s w=>?_) v;refine⟨by rw[Wk];have:=u.1;rw[Wk]at this;exact TK this,λL l=>?_⟩;refine q _ _ _ (u.2 L y rfl) (o.trans<|UJ l) ⟨L,rfl,λb f=>?_,GA l (λb z=>Xv o (g.zm b z)) (λc n=>(s c n).2) w⟩;rcases f with f|⟨c,n,f⟩
 ·rw[f];exact o.free l
 ·rw[f];exact(s c n).1.resolve_right λz=>by cases z.1
end
end Pu
namespace Own
open L2
theorem AX:∀{f:Yx}{b:Yw},Vals (f.map V.str) b->∃l:List (Str×Tok),b=strValues l/\l.map (·.1)=f
 |[],_,.nil=>⟨[],rfl,rfl⟩
 |t::r,_,.cons h k=>by
  obtain⟨g,rfl⟩:=h;obtain⟨l,rfl,e⟩:=AX k;exact⟨(t,g)::l,rfl,by rw[WM,e]⟩
theorem Dr:∀l:List (Str×Tok),Vals ((l.map (·.1)).map V.str) (strValues l)
 |[]=>.nil
 |_::r=>.cons ⟨_,rfl⟩ (Dr r)
section
variable {X:Cx}{K:Yo}
def Am(L:X.calm=true)(T:autoParam (X.K=K) au_0):Xd X (.builtin "all") (λxs H Q=>∃(p:Addr) (bs:List Bool),xs=[.ref p]/\SqL K H p (bs.map V.bl)/\Q (.bl<|bs.all id) H):=by
 subst T;intro pins s U H xs Y Q I C h;obtain⟨p,bs,rfl,M,q⟩:=h;obtain⟨u,rfl,E⟩:=C.one;obtain rfl:u=Value.ref p:=E;obtain⟨f,r,G,_⟩:=I.list M;have x:=E6 r;have o:=G.isList;have n:p<s.heap.objs.size:=by obtain⟨_,e,_⟩:=o;exact Wo e
 refine call_all_walk (wpAny_pyIter_list o ?_)
 refine⟨s.heap.objs.size,[s.heap.objs.size,p],[s.heap.objs.size],f.toArray.size,_,_,λi=>(bs[i]?).getD true,rfl,Walks.list (A:=X.A.in1) (I.ok.hd L) _ p (W3 n) f.toArray,
  ⟨⟨_,Wt _ rfl,rfl,rfl⟩,o.push _⟩,λi v s' Q' E' N y=>?_,λh' B J=>?_⟩
 ·obtain⟨b,e,rfl⟩:=x.get i v (by simpa using N);simp only[e,Option.getD_some]at y;exact Qz y
 ·have e:((List.range f.toArray.size).all λi=>(bs[i]?).getD true)=bs.all id:=by
   rw[W7,x.length];rw[QP,WO,WO];refine⟨λz b w=>?_,λz i l=>?_⟩
   ·obtain⟨i,l,rfl⟩:=Vt w
    have:=z i (QW.mpr l)
    rw[Wj l]at this;exact this
   ·have g:=QW.mp l;rw[Wj g];exact z _ (WI g)
  rw[e];exact⟨.bl (bs.all id),H,I.kept (t':=B) (LSm.kept_iter J),rfl,q⟩
def Ab:V->List V->Hp->VK->Prop:=λx b H Q=>∃t y:Str,x=.str t/\b=[.str y]/\(y.length==0)=false/\t.length+2<=sizeLine/\∀p,H p=none->Q (.ref p) (upd H p<|.lst ((Txt.split t y).map V.str))
def EZ(t y:Str):(Txt.split t y).length<=t.length+2:=by
 unfold Txt.split;split
 ·exact Vi (WV _)
 ·split
  ·exact Vi (WV _)
  ·rw[length_partsBetween];exact Vi (StrLaws.occ_length_le _ _ _ _ _)
def R9:MtM X "str.split" Ab:=by
 intro pins s A H x G v J Q I B C h;obtain⟨t,y,rfl,rfl,z,w,q⟩:=h;obtain⟨p,rfl⟩:=B;obtain⟨u,rfl,E⟩:=C.one;obtain⟨f,rfl⟩:=E
 have g:∀(l:List (Str×Tok)) (k:Nat),l.map (·.1)=Txt.split t y->EP X pins A Q (.ref s.heap.objs.size) {s with toks:=k,heap:=s.heap.push {cls:=.type "list",data:=.seq (strValues l).toArray}}:=λl k e=>by
  have n:=I.hok.fresh (Wp _);refine⟨.ref s.heap.objs.size,upd H s.heap.objs.size (.lst ((Txt.split t y).map V.str)),I.laid (t':=k) (λb u e=>Wl _ e) (Wp _) ⟨?_,strValues l,0,?_,Wt _ rfl⟩,rfl,q _ n⟩
  ·rw[Wk];exact Wy (EZ t y) w
  ·rw[←e];exact Dr l
 have r:t.length<=sizeLine:=by lia
 cases o:(decide (t.length<y.length) || decide (Builtin.Str.strKind t<Builtin.Str.strKind y))
 ·cases n:(Builtin.Str.occurrences t y 0 t.length (t.length+1)).isEmpty
  ·refine call_meets F.slot_str_split (typeIs_str _ _ _) F.entry_str_split (F.args_str_split_2 _ _) (meets_str_split_sep t y p f o z n r<|by rw[length_partsBetween];exact Wy (Vi<|StrLaws.occ_length_le _ _ _ _ _) w) ?_;show wants _ _ _ {s with toks:=_,heap:=s.heap.push {cls:=.type "list",data:=.seq (strsFrom s.toks<|Builtin.Str.partsBetween t (Builtin.Str.occurrences t y 0 t.length (t.length+1)) y.length).toArray}}
   rw[strsFrom_eq];exact g (numbered s.toks _) _ ((numbered_texts _ _).trans ((Wq<|Vu o).trans (Wq<|Vu n)).symm)
  ·exact call_meets F.slot_str_split (typeIs_str _ _ _) F.entry_str_split (F.args_str_split_2 _ _) (meets_str_split_not_found t y p f o z n) (g [(t,p)] _ ((Wq<|Vu o).trans (Wr n)).symm)
 ·exact call_meets F.slot_str_split (typeIs_str _ _ _) F.entry_str_split (F.args_str_split_2 _ _) (meets_str_split_cannot_occur t y p f o) (g [(t,p)] _ (Wr o).symm)
def rJoin(K:Yo):V->List V->Hp->VK->Prop:=λx g H Q=>∃(b:Str) (a:Addr) (f:Yx),x=.str b/\g=[.ref a]/\SqL K H a (f.map V.str)/\JoinOk b f=true/\Q (.str<|Txt.join b f) H
def Hd(y:autoParam (X.K=K) au_0):MtM X "str.join" (rJoin K):=by
 subst y;intro pins s z H x A v B Q I f g h;obtain⟨b,a,C,rfl,rfl,w,ok,q⟩:=h;obtain⟨E,rfl⟩:=f;obtain⟨u,rfl,n⟩:=g.one;obtain rfl:u=Value.ref a:=n;obtain⟨p,r,o,_⟩:=I.list w;obtain⟨l,rfl,e⟩:=AX r;exact SC.join o.isList e ok λG k=>⟨.str _,H,I.tok k,⟨_,rfl⟩,q⟩
end
def Lits(P:Params):List DictEntry->List (Str×Int)->Prop
 |[],[]=>True
 |e::r,p::q=>(∃t,e.key=.str p.1 t)/\e.hash=PyData.keyHash P p.1/\(∃t,e.val=.int p.2 t)/\Lits P r q
 |_,_=>False
def Lits.keys {P:Params}:∀{l:List DictEntry}{b:List (Str×Int)},Lits P l b->PySem.W.KeysLit P l
 |[],_,_=>trivial
 |_::_,[],h=>h.elim
 |_::_,p::_,⟨⟨t,g⟩,f,_,h⟩=>⟨⟨p.1,t,g,f⟩,h.keys⟩
def Lits.find {P:Params} (x:Str):∀{l:List DictEntry}{b:List (Str×Int)},Lits P l b->RelO ((b.lookup x).map V.int) ((l.find? λd=>Value.isStrOf x d.key).map (·.val))
 |[],[],_=>by trivial
 |[],_::_,h=>h.elim
 |_::_,[],h=>h.elim
 |e::l,p::q,⟨⟨t,n⟩,_,⟨o,g⟩,h⟩=>by
  obtain⟨k,i⟩:=p;rw[Qv,Qd,n];by_cases z:x=k
  ·subst z;have f:Value.isStrOf x (.str x t)=true:=by simp[Value.isStrOf]
   simp only[beq_self_eq_true,f];show RelO (some<|V.int i) (some e.val);rw[g];exact⟨_,rfl⟩
  ·have f:Value.isStrOf x (.str k t)=false:=by simp[Value.isStrOf];exact λe=>z e.symm
   simp only[Q7.mpr z,f];exact h.find x
structure T6 (K:Yo) (P:Params) (mg:Ys) (x:Str) (kvs:List (Str×Int)):Prop where
 ex:∃a es n,mg x=some (.ref a)/\(a==sysModules)=false/\K.lookup a=some ⟨.type "dict",none,.dict es n,#[]⟩/\Lits P es.toList kvs
section
variable {X:Cx}{x:Str}{kvs:List (Str×Int)}{i:Expr}{ty:TE}{pos pos':Pos}
noncomputable def FM(kvs:List (Str×Int))(ty:TE):TE:=λb H Q=>ty b H λy f=>∃z,y=.str z/\Q (.bl (kvs.lookup z).isSome) f
def NU(C:T6 X.K X.w.params X.mg x kvs)(L:PE X i ty)(M:autoParam (Gl X x) au_0)(N:autoParam ((x==("__debug__" : Str))=false) au_1):PC X .In i (.Name x pos) (FM kvs ty):=by
 intro pins s g H Q I h;obtain⟨a,o,n,Y,U,T,l⟩:=C.ex;refine thn (L pins s g H _ I h) ?_;rintro iv A ⟨y,q,I1,B,J⟩;refine thn (Tt (v:=.ref a) M Y rfl N pins A g q (λv b=>v=.ref a/\b=q) I1 ⟨rfl,rfl⟩) ?_;rintro u s2 ⟨_,b,p,E,e1,e2⟩;subst e1;subst e2;obtain rfl:u=Value.ref a:=E;obtain⟨z,rfl,G⟩:=J;obtain⟨r,rfl⟩:=B;refine wpAny_in_of (strKind_is X.prog X.w z r) U (PySem.W.mapOf_K (prog:=X.prog) p.kIn T l.keys) ?_;have f:=(l.find z).isSome_eq;rw[Vx]at f
 have e:findBy Value.isStrOf o z=(o.toList.find? λd=>Value.isStrOf z d.key).map (·.val):=by
  unfold findBy;rw[←List.find?_toArray]
 rw[e,←f];exact⟨.bl _,b,p.tok _,rfl,G⟩
noncomputable def EO(kvs:List (Str×Int))(ty:TE):TE:=λb H Q=>ty b H λy f=>∃z v,y=.str z/\kvs.lookup z=some v/\Q (.int v) f
def GD(C:T6 X.K X.w.params X.mg x kvs)(M:PE X i ty)(L:D8 i)(N:autoParam (Gl X x) au_0)(T:autoParam ((x==("__debug__" : Str))=false) au_1):PE X (.Subscript (.Name x pos) i pos') (EO kvs ty):=by
 intro pins s l H Q I h;obtain⟨a,es,n,Y,h2,U,p⟩:=C.ex;refine Ln PySem.F.slot_dict_getitem.lookup L (thn (Tt (v:=.ref a) N Y rfl T pins s l H (λv g=>v=.ref a/\g=H) I ⟨rfl,rfl⟩) ?_);rintro u B ⟨_,H',I1,G,e1,e2⟩;subst e1;subst e2;obtain rfl:u=Value.ref a:=G;refine thn (M pins B l H' _ I1 h) ?_;rintro iv s2 ⟨y,g,q,E,z,v,e,ev,J⟩;subst e;obtain⟨A,rfl⟩:=E;have o:=PySem.W.mapOf_K (prog:=X.prog) q.kIn U p.keys;have f:=p.find z;rw[ev]at f;obtain⟨r,hw,b⟩:=RelO.some_of (v:=V.int v) f
 have e:findBy Value.isStrOf es z=some r:=by
  rw[←hw];unfold findBy;rw[←List.find?_toArray]
 exact⟨o.typeIs,wpAny_getItem_of (strKind_is X.prog X.w z A) o e ⟨.int v,g,q.tok _,b,J⟩⟩
end
end Own
namespace Pu
open L2 Own
section
variable {K:Yo}{mg:Ys}{E:L2.St->XK}
theorem Rps.of_strs {H:Hp}:∀b:Yx,Rps K H (b.map D.str) (b.map V.str)
 |[]=>.nil
 |_::r=>.cons (.str _) (Rps.of_strs r)
theorem Rps.strs {H:Hp}:∀{b:Yx}{vs:List V},Rps K H (b.map D.str) vs->vs=b.map V.str
 |[],_,.nil=>rfl
 |t::r,_,.cons h k=>by rw[Rps.strs k];cases h;rfl
def SU:List S->(S->Prop)->Prop
 |[s],R=>∃bs:List Bool,s.d=.lst (bs.map D.bl)/\R (.sh<|.bl<|bs.all id)
 |_,_=>False
def F9{b:TA}{r:PTA}(u:Uv K mg E b r):Ub K mg E (tCB (λxs H Q=>∃(p:Addr) (bs:List Bool),xs=[.ref p]/\SqL K H p (bs.map V.bl)/\Q (.bl<|bs.all id) H) b) (pCB SU r):=by
 refine KI u λG H x Z A y R Q o B C l h q=>?_;unfold SU at h;split at h
 ·obtain⟨v,rfl,n⟩:=l.one_inv;obtain⟨bs,e,w⟩:=h;have f:=n.rp o;rw[e]at f;obtain⟨a,z,rfl,g,s⟩:=f.lst_inv;rw[s.bls]at g;exact⟨a,bs,rfl,SqL.of g,q _ _ x w (Same.refl _) (.bl _)⟩
 ·exact h.elim
noncomputable def pBT(f:Str->D->(S->Prop)->Prop)(a b:PTE):PTE:=λg R X=>a g (λs=>match s.d with | .str t=>b g (λu=>f t u.d R) X|_=>False) X
def Cy{G:V->List V->Hp->VK->Prop}{f:Str->D->(S->Prop)->Prop}{te C:TE}{a b:PTE}(ha:Ub K mg E te a)(hb:Ub K mg E C b)(Y:∀(p H l:Hp) (Z:Addr->Prop) (t:Str) (d:D) (u:V) (R:S->Prop) (Q:VK),Same H l->Rp K l d u->f t d R->(∀s v o,R s->Same l o->TV K Z p H o s v->Q v o)->G (.str t) [u] l Q):Ub K mg E (tBM K "str" G te<|U7 C UK) (pBT f a b):=by
 intro p B H z A R X Q n h q L;refine ha p B H z A _ X _ n h (λs v H1 x r T=>?_) L;have g:=n.grow r;have J:=T.rp g.same;split at x
 ·rename_i t et;rw[et]at J;cases J
  refine⟨rfl,hb p B H1 z A _ X _ g x (λu w l h2 y N=>?_) λc H' hc S'=>L c H' hc (r.trans S')⟩;exact Y p H l _ t _ _ _ _ (r.trans y) (N.rp (g.grow y).same) h2 λs v o U S3 M=>q s v o U ((r.trans y).trans S3) M
 ·exact x.elim
def A5:Str->D->(S->Prop)->Prop:=λt d R=>match d with
 | .str y=>(y.length==0)=false/\t.length+2<=sizeLine/\R (.own ((Txt.split t y).map D.str))
 |_=>False
def He{te f:TE}{a b:PTE}(n:Ub K mg E te a)(l:Ub K mg E f b):Ub K mg E (tBM K "str" Ab te<|U7 f UK) (pBT A5 a b):=by
 refine Cy n l λv H s Z t d u R Q o r h q=>?_;unfold A5 at h;split at h
 ·cases r
  exact⟨t,_,rfl,rfl,h.1,h.2.1,λp g=>q _ _ _ h.2.2 (UJ g) (K4 o g<|Rps.of_strs _)⟩
 ·exact h.elim
def AK:Str->D->(S->Prop)->Prop:=λt d R=>match d with
 | .lst f=>∃b:Yx,f=b.map D.str/\JoinOk t b=true/\R (.sh<|.str<|Txt.join t b)
 |_=>False
def O5{te f:TE}{a b:PTE}(s:Ub K mg E te a)(p:Ub K mg E f b):Ub K mg E (tBM K "str" (rJoin K) te<|U7 f UK) (pBT AK a b):=by
 refine Cy s p λz H w Z t d u R Q y r h q=>?_;unfold AK at h;split at h
 ·obtain⟨n,rfl,ok,v⟩:=h;obtain⟨l,x,rfl,g,o⟩:=r.lst_inv;rw[o.strs]at g;exact⟨t,l,n,rfl,rfl,SqL.of g,ok,q _ _ w v (Same.refl _) (.str _)⟩
 ·exact h.elim
noncomputable def Ox(b:List (Str×Int))(a:PTE):PTE:=λf R X=>a f (λs=>match s.d with | .str z=>R (.sh (.bl (b.lookup z).isSome))|_=>False) X
def By{b:List (Str×Int)}{te:TE}{a:PTE}(w:Ub K mg E te a):Ub K mg E (FM b te) (Ox b a):=by
 intro z B H o p R X Q f h q u;refine w z B H o p _ X _ f h (λs v y g n r=>?_) u;have l:=r.rp (f.grow n).same;split at g
 ·rename_i t x;rw[x]at l;cases l
  exact⟨t,rfl,q _ _ y g n (.bl _)⟩
 ·exact g.elim
noncomputable def M2(b:List (Str×Int))(a:PTE):PTE:=λf R X=>a f (λs=>match s.d with | .str z=>∃v,b.lookup z=some v/\R (.sh<|.int v)|_=>False) X
def LP{b:List (Str×Int)}{te:TE}{a:PTE}(w:Ub K mg E te a):Ub K mg E (EO b te) (M2 b a):=by
 intro A B H o p R X Q f h q u;refine w A B H o p _ X _ f h (λs v z g n r=>?_) u;have l:=r.rp (f.grow n).same;split at g
 ·rename_i t y;rw[y]at l;cases l
  obtain⟨v,e,x⟩:=g;exact⟨t,v,rfl,e,q _ _ z x n (.int _)⟩
 ·exact g.elim
end
end Pu
namespace Own
open L2
noncomputable def Its(x:Str):It:=⟨λi _=>i<x.cps.size,λi H v b=>b=H/\∃c,x.cps[i]?=some c/\v=.str ⟨#[c]⟩,λi _=>x.cps.size<=i⟩
def Mr{P:Program}{w:World}{K:Yo}{tg:Expr}(x:Str)(t:Tok)(it:Addr):Turn P w K tg (Its x) [it] it (λi h=>h.IsStrIter it "str_ascii_iterator" x t i) where
 mem:=by simp
 obj:=λi h st b hb=>by
  have e:b=it:=by simpa using hb
  subst e;obtain⟨o,e,c,d⟩:=st;exact⟨o,e,λv z=>by rw[d]at z;cases z⟩
 keep:=λi h h' st k=>by
  obtain⟨o,e,c,d⟩:=st;exact⟨o,k it (by simp) o e,c,d⟩
 item:=by
  intro X hP hw hK hc i pins s σ H E I hf st hg;subst hP hw hK;have hx:x.cps[i]?=some (x.cps[i]'hg):=WW hg;obtain⟨f0,f1,f2,f3,f4,f5⟩:=hf it (by simp);refine wpAny_pyNext_ascii_item st hx λh' st' sb=>?_;have I1:Inv X pins σ H {s with heap:=h',toks:=s.toks+1}:=I.turned (t':=s.toks+1) (λb o hb e=>(sb.2 b hb).trans e) f0 f1 f3 f4 f5
  obtain⟨o,e,c,d⟩:=id st';exact⟨_,rfl,Be (s:={s with heap:=h',toks:=s.toks+1}) e c d (by decide) ⟨.str ⟨#[x.cps[i]'hg]⟩,H,I1,⟨_,rfl⟩,⟨rfl,_,hx,rfl⟩,st',λb hb=>(hf b hb).1⟩⟩
 done:=by
  intro X hP hw hK hc i pins s σ H E I hf st hg;subst hP hw hK;obtain⟨f0,f1,f2,f3,f4,f5⟩:=hf it (by simp);have hx:x.cps[i]?=none:=Vd hg;exact wpAny_pyNext_ascii_end (I.ok.hd hc) st hx λh' eb=>⟨rfl,I.turned (t':=s.toks) (λb o hb e=>eb b o hb e) f0 f1 f3 f4 f5⟩
 self:=λ_ _ _ _ _ st h=>wpAny_pyIter_striter_ascii st h
noncomputable def Fy(f:TE):TI:=λb H R=>f b H λv g=>∃x:Str,v=.str x/\x.cps.all (· < 128)=true/\R (Its x) g
section
variable {X:Cx}{K:Yo}{tg:Expr}
def HU{l:Expr}{n:TE}(y:PE X l n):PI X tg l (Fy n):=by
 intro pins s p H R I h;refine thn (y pins s p H _ I h) ?_;rintro v f ⟨x,C,g,u,w⟩;obtain⟨z,e,B,q⟩:=w;subst e;obtain⟨r,rfl⟩:=u;refine wpAny_pyIter_ascii B ?_;refine⟨f.heap.objs.size,[f.heap.objs.size],_,_,C,rfl,g.kept (t':=f.toks) λb o e=>Wl _ e,Mr z r _,⟨_,Wt _ rfl,rfl,rfl⟩,λb A=>?_,q⟩;have e:b=f.heap.objs.size:=by simpa using A
 subst e;exact g.fpOk (Wp _) (g.hok.fresh<|Wp _)
noncomputable def FO:R2:=λx y H Q=>∃(c:Nat) (t:Str),x=.str ⟨#[c]⟩/\y=.str t/\Q (.bl<|decide (c∈t.cps.toList)) H
def Zay:OpR X (compareOp .In) FO:=by
 intro pins s l H x y v u Q I g f h;obtain⟨c,t,rfl,rfl,q⟩:=h;obtain⟨n,rfl⟩:=g;obtain⟨b,rfl⟩:=f;refine P.in_str ?_;rw[StrLaws.found_one];exact⟨.bl _,H,I,rfl,q⟩
def OP:Xd X (.type "int") (λxs H Q=>∃(t:Str) (n:Int),xs=[.str t]/\PySem.intText? t=some n/\t.length<=640/\Q (.int n) H):=by
 intro pins s g H xs l Q I r h;obtain⟨t,n,rfl,f,b,q⟩:=h;obtain⟨u,rfl,o,rfl⟩:=r.one;exact PySem.W.KIN.call_text f b ⟨.int n,H,I.tok _,⟨_,rfl⟩,q⟩
end
end Own
namespace Pu
open L2 Own
section
variable {K:Yo}{mg:Ys}{E:L2.St->XK}
noncomputable def pIS(a:PTE):PTI:=λb R X=>a b (λs=>match s.d with | .str x=>x.cps.all (· < 128)=true/\R x.cps.size (λi=>.sh (.str ⟨#[x.cps.getD i 0]⟩))|_=>False) X
def Zax{te:TE}{a:PTE}(z:Ub K mg E te a):SndI K mg E (Fy te) (pIS a):=by
 intro J B H n o R X Q b h q r;refine z J B H n o _ X _ b h (λs v G f l p=>?_) r;have g:=p.rp (b.grow l).same;split at f
 ·rename_i x A;rw[A]at g;cases g
  refine⟨x,rfl,f.1,q _ _ _ G f.2 l ⟨λi M C u lt=>?_,λM C lt=>Wp _⟩⟩;refine⟨u,λv L y=>?_⟩;obtain⟨rfl,c,w,rfl⟩:=y;have e:x.cps.getD i 0=c:=by rw[Array.getD_eq_getD_getElem?,w];rfl
  rw[e];exact⟨Same.refl _,.str _⟩
 ·exact f.elim
def Dd:S->S->(S->Prop)->Prop:=λx y R=>match x.d,y.d with
 | .str t,.int i=>t.length<=sizeLine/\∃c,atI t.cps.toList i=some c/\R (.sh<|.str ⟨#[c]⟩)
 |_,_=>False
def OQ{g f:TE}{a b:PTE}(w:Ub K mg E g a)(s:Ub K mg E f b):Ub K mg E (tOp DF g f) (p2 a b Dd):=by
 refine Xu w s λN H J Z x y v u R Q l L M r p h q=>?_;have o:=r.rp l;have n:=p.rp l;unfold Dd at h;split at h
 ·rename_i t i G C;rw[G]at o;rw[C]at n;cases o
  cases n
  obtain⟨B,c,A,z⟩:=h;exact⟨t,i,c,rfl,rfl,B,A,q _ _ J z (Same.refl _) (.str _)⟩
 ·exact h.elim
def S8:S->S->(S->Prop)->Prop:=λx y R=>match x.d,y.d with
 | .str s,.str t=>∃c,s=⟨#[c]⟩/\R (.sh<|.bl<|decide (c∈t.cps.toList))
 |_,_=>False
def Lr{g f:TE}{a b:PTE}(z:Ub K mg E g a)(w:Ub K mg E f b):Ub K mg E (tOp FO g f) (p2 a b S8):=by
 refine Xu z w λM H G Z x y v u R Q l J L r p h q=>?_;have o:=r.rp l;have n:=p.rp l;unfold S8 at h;split at h
 ·rename_i s t C B;rw[C]at o;rw[B]at n;cases o
  cases n
  obtain⟨c,rfl,A⟩:=h;exact⟨c,t,rfl,rfl,q _ _ G A (Same.refl _) (.bl _)⟩
 ·exact h.elim
def CP:List S->(S->Prop)->Prop
 |[s],R=>(match s.d with | .str t=>∃n,PySem.intText? t=some n/\t.length<=640/\R (.sh<|.int n)|_=>False)
 |_,_=>False
def Mn{b:TA}{r:PTA}(p:Uv K mg E b r):Ub K mg E (tCB (λxs H Q=>∃(t:Str) (n:Int),xs=[.str t]/\PySem.intText? t=some n/\t.length<=640/\Q (.int n) H) b) (pCB CP r):=by
 refine KI p λC H x Z z y R Q o A B g h q=>?_;unfold CP at h;split at h
 ·obtain⟨v,rfl,l⟩:=g.one_inv;have f:=l.rp o;split at h
  ·rename_i t e;rw[e]at f;cases f
   obtain⟨n,w,u,s⟩:=h;exact⟨t,n,rfl,w,u,q _ _ x s (Same.refl _) (.int _)⟩
  ·exact h.elim
 ·exact h.elim
end
end Pu
namespace M
open L2 Own Pu
noncomputable def spc:Str:=⟨#[32]⟩
noncomputable def nS(n:Int):Str:=Str.ofString (toString n)
noncomputable def XT(x:Str):Bool:=!(decide ((x.length:Int)<1) || decide ((x.length:Int)>4)) && !(decide (x.cps.toList.head?=some 48) && !decide (x=("0" : Str)))&&(x.cps.toList.map λc=>decide (c∈("0123456789" : Str).cps.toList)).all id
def RA:((List.range 10000).all λm=>decide ((Nat.toDigits 10 m).length<=4) && !(decide ((Nat.toDigits 10 m).head?=some '0') && !decide (m=0)))=true:=by decide +kernel
def BZ(m:Nat):(nS (m:Int)).cps.toList=(Nat.toDigits 10 m).map Char.toNat:=PySem.W.KIN.signs_num m
def Mx{n:Int}(p:0<=n)(q:n<=9999):1<=(nS n).length/\(nS n).length<=4/\((nS n).cps.toList.head?=some 48->n=0):=by
 obtain⟨m,rfl⟩:=Int.eq_ofNat_of_zero_le p;have h:=WO.mp RA m (QW.mpr<|by lia);rw[WN]at h;have o:=Ww h.1
 have l:(nS (m:Int)).length=(Nat.toDigits 10 m).length:=by
  have:=WG List.length (BZ m)
  rw[Wk,Qb]at this;exact this
 refine⟨?_,by rw[l];exact o,λz=>?_⟩
 ·rw[l];exact toDigits_len_ge 10 m
 ·rw[BZ,List.head?_map]at z;have b:=h.2;cases e:(Nat.toDigits 10 m).head? with
  |none=>rw[e]at z;cases z
  |some g=>
   rw[e]at z b
   have f:g='0':=Char.ext (by
    have z:g.toNat=48:=Wv z;exact UInt32.toNat_inj.mp z)
   rw[f,Wx rfl,Bool.true_and,Bool.not_not]at b
   have:=Ww b
   lia
end M
namespace Pu
open L2 Own
section
variable {K:Yo}{mg:Ys}{E:L2.St->XK}{H0 H H1 H':Hp}{B Z Z':Addr->Prop}{σ:L2.St}{γ:Γ}
noncomputable def F1(i j:Nat)(a:PTE):PTS:=λR γ=>match γ[i]? with
 |some (some<|.own<|.nsl x f)=>i≠j/\j<γ.length/\∃d,(∀b,a b (λs=>s.shd=some d) λ_=>False)/\(∀c∈f,c.2.length<10000000)/\R.nx ((γ.set j none).set i (some<|.own<|.nsl x (f.map λc=>(c.1,c.2++[d]))))
 |_=>False
def ME(i j:Nat){te:TE}{a:PTE}(ha:Ub K mg E te a) :
  Uk K mg E (Bh (KS K<|Xh i) (XW j)<|Pp<|tBM K "list" Tr (Xh j)<|U7 te UK) (F1 i j a):=by
 intro H0 B H σ γ R D' hB env h e;unfold F1 at h;split at h
 ·rename_i x b hi;obtain⟨L,hj,d,hd,hz,hR⟩:=h;have N:i<γ.length:=(W4.mp hi).1
  let g:Nat->List (Addr×List D):=λk=>(b.take k).map (λc=>(c.1,c.2++[d]))++b.drop k
  have ck0:g 0=b:=by simp[g]
  have ckn:g b.length=b.map λc=>(c.1,c.2++[d]):=by simp only[g,List.take_length,Vf,WL]
  have ckl:∀k,(g k).length=b.length:=λk=>by simp only[g,WB,Wk,QF,List.length_drop];lia
  have ck1:∀k,(g k).map (λc=>V.ref c.1)=b.map λc=>V.ref c.1:=λk=>by
   simp only[g,WE,Qk,Function.comp_def];rw[←WE,List.take_append_drop]
  have ckg:∀k (c:Addr×List D),b[k]?=some c->(g k)[k]?=some c:=λk c r=>by
   have hk:=(W4.mp r).1;rw[Qh (by simp;lia),List.getElem?_drop,Wk,QF,←r];congr 1;lia
  have cks:∀k (c:Addr×List D),b[k]?=some c->(g k).set k (c.1,c.2++[d])=g (k+1):=λk c r=>by
   have hk:=(W4.mp r).1
   have e0:b.drop k=c::b.drop (k+1):=by
    rw[Q3 hk];congr 1;exact(W4.mp r).2
   have e1:b.take (k+1)=b.take k++[c]:=by
    rw[List.take_add_one,r];rfl
   show((b.take k).map _++b.drop k).set k _=(b.take (k+1)).map _++b.drop (k+1);rw[e0,e1,WE,List.set_append_right _ _ (by simp only[Wk,QF];lia),List.append_assoc];congr 1
   have:k-(List.map (λc=>(c.1,c.2++[d]))<|List.take k b).length=0:=by simp;lia
   rw[this];rfl
  let f:Nat->Γ:=λk=>(γ.set j none).set i (some<|.own<|.nsl x<|g k)
  have J:∀k,(f k)[i]?=some (some<|.own<|.nsl x<|g k):=λk=>by
   show((γ.set j none).set i _)[i]?=_;rw[WZ (by rw[WA];exact N)]
  have γ0:f 0=γ.set j none:=by
   show(γ.set j none).set i (some<|.own<|.nsl x<|g 0)=γ.set j none;rw[ck0];apply Q1;intro n;by_cases en:i=n
   ·subst en;rw[WZ (by rw[WA];exact N),WY (Ne.symm L),hi]
   ·rw[WY en]
  obtain⟨v,hv,l,rfl,e0,ex,e3,e4,e5⟩:=env.slot i _ hi;refine⟨_,hv,l,rfl,⟨_,SqL.of e3⟩,λk m w H'=>m=b.length-k/\k<=b.length/\Ue K H0 B H' w (f k)/\Fr B H σ γ H' w (f k),⟨_,rfl,WV _,?_⟩,?_⟩
  ·rw[γ0];exact env.drop j
  rintro k m w H' ⟨rfl,hk,p,U⟩;obtain⟨v',hv',l',rfl,f0,fx,f3,f4,f5⟩:=p.slot i _ (J k);rw[ck1]at f3;have el:l=l':=ex.trans fx.symm;subst el;by_cases M:k<b.length
  ·have r:b[k]?=some b[k]:=Wj M;generalize b[k]=c at r;have Q:=ckg k c r;have hr:(b.map λc=>V.ref c.1)[k]?=some (.ref c.1):=by rw[Ws,r];rfl
   refine .inr ⟨⟨_,_,SqL.of f3,hr⟩,λC H2=>Ue K H0 B H2 C (f (k+1))/\Fr B H σ γ H2 C (f (k+1)),λC H2 q=>⟨_,by lia,rfl,M,q⟩,λy H'' hy=>?_⟩;obtain⟨rfl,hy⟩:=hy
   have:=hy _ (SqL.of f3)
   rw[hr]at this;cases this
   show Pp _ _ (w.set j<|some<|.ref c.1) H'';obtain⟨Y,T⟩:=p.set (i:=j) (s:=.sh (.ref c.1)) (v:=.ref c.1) (Same.refl _) (Rp.ref _) rfl;obtain⟨o,G⟩:=Y.drop j;have hjs:j<w.length:=by rw[p.len];show j<((γ.set j none).set i _).length;rw[WA,WA];exact hj
   have γe:((f k).set j (some<|.sh<|.ref c.1)).set j none=f k:=by
    rw[List.set_set];apply Q1;intro n;by_cases en:j=n
    ·subst en;rw[WZ (by show j<((γ.set j none).set i _).length;rw[WA,WA];exact hj)];show _=((γ.set j none).set i _)[j]?;rw[WY L,WZ hj]
    ·rw[WY en]
   rw[γe]at o G;obtain⟨us,u1,u2⟩:=f4 c (W5 Q);have u2:=Rps.mono ((T.trans G).off) u2;refine⟨.ref c.1,by rw[WZ hjs],.inl ⟨rfl,us,SqL.of u1⟩,?_⟩;refine ha H0 B H'' _ _ _ (λ_=>False) _ o (hd _) (λs u H2 h2 S2 t2=>?_) λ_ _ z=>z.elim;have A:=o.grow S2;have rd:=t2.shd A.same o.zm S2 h2;refine⟨c.1,us,u,rfl,rfl,S2 _ _ u1,by rw[u2.len];exact Q6 (hz c<|W5 r) (by decide),?_⟩;obtain⟨k1,k2⟩:=A.cellL (es:=c.2++[d]) (us:=us++[u]) (J k) Q (Rps.append (Rps.mono (Ul S2 λ_ _ _ z=>z) u2)<|.cons rd .nil);rw[cks k c r]at k1 k2
   have γs:(f k).set i (some<|.own<|.nsl x<|g (k+1))=f (k+1):=by
    show((γ.set j none).set i _).set i _=_;rw[List.set_set]
   rw[γs]at k1 k2;exact⟨k1,((U.trans<|T.trans G).trans (Fr.grow S2)).trans k2⟩
  ·have:k=b.length:=by lia
   subst this;refine .inl ⟨⟨_,SqL.of f3,by rw[Wk];exact Wp _⟩,e.nx _ _ _ ?_ p U⟩;show R.nx ((γ.set j none).set i (some<|.own<|.nsl x<|g b.length));rw[ckn];exact hR
 ·exact h.elim
noncomputable def F2(i:Nat)(c b a:PTE):PTS:=λR γ=>match γ[i]? with
 |some (some<|.own<|.nsl x0 f)=>a γ (λs=>c γ (λz=>match z.d with
  | .int k=>∃j e,ixN f.length k=some j/\f[j]?=some e/\b γ (λy=>match y.d with
   | .int n=>∃m d,ixN e.2.length n=some m/\s.shd=some d/\R.nx (γ.set i<|some<|.own<|.nsl x0<|f.set j (e.1,e.2.set m d))
   |_=>False) (R.ex γ)
  |_=>False) (R.ex γ)) (R.ex γ)
 |_=>False
def Zaf(i:Nat){tc tb te:TE}{a b c:PTE}(q:Ub K mg E tc c)(hb:Ub K mg E tb b)(ha:Ub K mg E te a) :
  Uk K mg E (KB te<|B8 (tOp (λx y H Q=>Pk K x y H Q\/Pb K x y H Q) (Xh i) tc) tb Bm) (F2 i c b a):=by
 intro H0 B H σ γ R D hB o h e;have hx:∀c H',R.ex γ c->Same H H'->XE mg (E σ) c H':=λc H' q C=>e.ex σ γ c H' q (o.grow C) (Fr.grow C);unfold F2 at h;split at h
 ·rename_i x0 cs hi;obtain⟨v,hv,l,rfl,e0,ex,e3,e4,e5⟩:=o.slot i _ hi;refine ha H0 B H σ γ _ _ _ o h (λs u H1 h1 J t1=>⟨_,hv,?_⟩) hx;have g:=o.grow J;refine q H0 B H1 σ γ _ _ _ g h1 (λz w H2 N U t2=>?_) λc H' q C=>hx c H' q (J.trans C);have f:=g.grow U;have rz:=t2.rp f.same;have A:=J.trans U;split at N
  ·rename_i k ek;rw[ek]at rz;obtain⟨j,G,h3,M,h5⟩:=N;obtain⟨us,u1,Y⟩:=e4 G (W5 M);refine .inl ⟨l,_,k,.ref G.1,rfl,rz.int_inv,SqL.of (A _ _ e3),Lv h3 M,?_⟩;refine hb H0 B H2 σ γ _ _ _ f h5 (λy w' H3 L T t3=>?_) λc H' q C=>hx c H' q (A.trans C);have p:=f.grow T;have r:=A.trans T;have ry:=t3.rp p.same;split at L
   ·rename_i n en;rw[en]at ry;obtain⟨m,d,h7,h8,h9⟩:=L;have rd:=Rp.mono (Ul (U.trans T) λ_ _ _ z=>z) (t1.shd g.same o.zm J h8);refine⟨G.1,us,n,m,rfl,ry.int_inv,r _ _ u1,by rw[Y.len];exact h7,?_⟩;obtain⟨k1,k2⟩:=p.cellL (es:=G.2.set m d) (us:=us.set m u) hi M (Rps.set rd m<|Rps.mono (Ul r λ_ _ _ z=>z) Y);exact e.nx _ _ _ h9 k1 ((Fr.grow r).trans k2)
   ·exact L.elim
  ·exact N.elim
 ·exact h.elim
noncomputable def D2:D->Bool
 | .lst _=>true | .ins _ _ _=>true | .scr _=>true|_=>false
def Rp.isRef {d:D}{v:V} (h:Rp K H d v) (b:D2 d=true):∃a,v=.ref a:=by
 cases h<;>first|exact⟨_,rfl⟩|cases b
noncomputable def NM(a:Addr):Option S->Option S
 |some (.bor d)=>some (.bor<|.loc a d.strip)
 |some (.sh d)=>some (.sh d)
 |some (.own<|.nsl x b)=>some (.bor<|.loc x<|.lst (b.map λc=>.lst c.2))
 |_=>none
noncomputable def lend(b:Nat->Addr):Nat->Γ->Γ
 |_,[]=>[]
 |k,s::γ=>NM (b k) s::lend b (k+1) γ
theorem BM{b:Nat->Addr}:∀{γ:Γ}{k:Nat},(lend b k γ).length=γ.length
 |[],_=>rfl
 |_::γ,k=>WG (· + 1) (BM (γ:=γ))
theorem PY{b:Nat->Addr}:∀{γ:Γ}{k n:Nat},(lend b k γ)[n]?=(γ[n]?).map (NM<|b (k+n))
 |[],_,_=>rfl
 |s::γ,k,0=>rfl
 |s::γ,k,n+1=>by
  show(lend b (k+1) γ)[n]?=_;rw[PY,show k+1+n=k+(n+1) by lia];rfl
noncomputable def EC:Option S->Bool
 |some (.bor d)=>D2 d.strip
 |some (.sh _)=>true
 |some (.own<|.nsl _ _)=>true
 |none=>true
 |_=>false
noncomputable def RK(j:Nat)(p:PTS):PTS:=λR γ=>γ.all EC=true/\∀f:Nat->Addr,p ⟨λb=>b.set j none=(lend f 0 γ).set j none/\R.nx (γ.set j none),λs=>∃d,s=.sh d/\R.rt s,λ_ _=>False,λ_=>False,λ_=>False,λ_ _=>False⟩ (lend f 0 γ)
def Gc(j:Nat){t:TS}{p:PTS}(hp:Uk K mg E t p):Uk K mg E t (RK j p):=by
 intro H0 B H σ γ R D hB f h e;obtain⟨hl,h⟩:=h;have hal:∀{k s},γ[k]?=some s->EC s=true:=λg=>WO.mp hl _ (W5 g)
 let as:Nat->Addr:=λk=>match σ[k]? with
  |some (some<|.ref a)=>a
  |_=>0
 have zno:∀{N:L2.St} {b:Addr},zof (zof B γ σ) (lend as 0 γ) N b->zof B γ σ b:=λz=>by
  rcases z with z|⟨k,o,a,A,_,_⟩
  ·exact z
  ·rw[PY]at A;cases g:γ[k]? with
   |none=>rw[g]at A;cases A
   |some s=>
    rw[g]at A;cases s with
    |none=>cases A
    |some s=>
     cases s with
     |own o=>cases o<;>cases A
     |_=>cases A
 have envL:Ue K H (zof B γ σ) H σ (lend as 0 γ):=by
  refine⟨Same.refl _,by rw[BM];exact f.len,f.zm,λk j a a' ds es b Y=>?_,λk s M=>?_⟩
  ·rw[PY]at Y;cases g:γ[k]? with
   |none=>rw[g]at Y;cases Y
   |some s=>
    rw[g]at Y;cases s with
    |none=>cases Y
    |some s=>
     cases s with
     |own o=>cases o<;>cases Y
     |_=>cases Y
  ·rw[PY,Nat.zero_add]at M;cases g:γ[k]? with
   |none=>rw[g]at M;cases M
   |some s0=>
    rw[g]at M;have U:=hal g;cases s0 with
    |none=>cases M
    |some s0=>
     obtain⟨v,u,L⟩:=f.slot k _ g;cases s0 with
     |bor d=>
      cases M
      have L:=Rp.strip (Rp.mono f.same L);obtain⟨a,rfl⟩:=Rp.isRef L U
      have:as k=a:=by show(match σ[k]? with|some (some<|.ref a)=>a|_=>0)=a;rw[u]
      rw[this];exact⟨_,u,.loc L⟩
     |sh d=>
      cases M
      exact⟨v,u,Rp.mono (Ul (Same.refl _) λb _ _ z y=>z (zno y)) L⟩
     |own o=>
      cases o with
      |nsl x cs=>
       cases M
       obtain⟨a,rfl,e0,ex,e3,e4,e5⟩:=L;refine⟨_,u,?_⟩;rw[ex];rw[ex]at e3;refine .loc (.lst e3 ?_);clear e0 e3 e5 u g ex U
       induction cs with
       |nil=>exact .nil
       |cons c r ih=>
        obtain⟨vs,v1,v2⟩:=e4 c (WR ..);exact .cons (.lst v1<|Rps.mono off_sub v2) (ih λc hc=>e4 c (W2 _ hc))
      |_=>cases U
     |_=>cases U
 refine hp H (zof B γ σ) H σ (lend as 0 γ) _ D (λb z=>Kv (f.zm b z)) envL (h as) ⟨λN γ' H' q C fr'=>?_,λs v H' q S' L=>?_,λ_ _ _ _ z=>z.elim,λ_ _ _ z=>z.elim,λ_ _ _ z=>z.elim,λ_ _ _ _ _ z=>z.elim⟩
 ·obtain⟨q1,q2⟩:=q
  have at':∀k,k≠j->γ'[k]?=(γ[k]?).map (NM<|as k):=λk Q=>by
   have:=WG (λl:Γ=>l[k]?) q1
   simp only[WY (Ne.symm Q)]at this;rw[this,PY,Nat.zero_add]
  have sl:∀k o,(γ.set j none)[k]?=some (some o)->k≠j/\γ[k]?=some (some o):=λk o h=>by
   rcases Ux h with⟨_,z,_⟩|z
   ·cases z
   ·exact z
  have G:∀{k:Nat} {o:O} {a:Addr},k≠j->γ[k]?=some (some<|.own o)->σ[k]?=some (some<|.ref a)->N[k]?=some (some<|.ref a):=λ{k o a} Q g M=>by
   have U:=hal g;cases o with
   |nsl x cs=>
    obtain⟨v,u,l,rfl,e0,ex,_⟩:=f.slot k _ g;rw[M]at u;cases u
    obtain⟨v',T,J⟩:=C.slot k (.bor<|.loc x<|.lst (cs.map λc=>.lst c.2)) (by rw[at' k Q,g];rfl);cases J
    rw[T,ex]
   |_=>cases U
  have zz:∀b,zof B (γ.set j none) N b->zof B γ σ b:=λb z=>z.imp id λ⟨k,o,a,A,k2,k3⟩=>by
   obtain⟨Q,A⟩:=sl k _ A;obtain⟨v,u,l,rfl,_⟩:=f.slot k _ A
   have:=G Q A u
   rw[k2]at this;cases this
   exact⟨k,o,_,A,u,k3⟩
  have S':Same H H':=C.same;have fr:Fr B H σ γ H' N (γ.set j none):=λb o hb z=>⟨S' _ _ hb,λy=>z (zz b y)⟩
  refine e.nx _ _ _ q2 ⟨f.same.trans S',by
   have:=WG List.length q1
   rw[WA,WA,BM]at this;rw[WA,C.len,this],λb hb=>Xv S' (f.bm b hb),λk n a a' ds es b Y h2 h3 h4 h5 h6=>?_,λk s M=>?_⟩ fr
  ·obtain⟨Q,A⟩:=sl k _ Y;obtain⟨nn,n1⟩:=sl n _ h2;obtain⟨v,u,l,rfl,_⟩:=f.slot k _ A;obtain⟨w,hw,m,rfl,_⟩:=f.slot n _ n1;have e1:=G Q A u;have e2:=G nn n1 hw;rw[h3]at e1;rw[h4]at e2;cases e1
   cases e2
   exact f.own k n _ _ ds es b A n1 u hw h5 h6
  ·obtain⟨Q,g⟩:=sl k _ M;obtain⟨v,u,L⟩:=f.slot k _ g;have U:=hal g;cases s with
   |bor d=>
    obtain⟨v',T,J⟩:=C.slot k (.bor<|.loc (as k) d.strip) (by rw[at' k Q,g];rfl);obtain⟨a,rfl⟩:=Rp.isRef (Rp.strip L) U
    have:as k=a:=by show(match σ[k]? with|some (some<|.ref a)=>a|_=>0)=a;rw[u]
    rw[this]at J;cases J
    exact⟨_,T,L⟩
   |sh d=>
    obtain⟨v',T,J⟩:=C.slot k (.sh d) (by rw[at' k Q,g];rfl);exact⟨v',T,Rp.mono (Ul (Same.refl _) λb _ _ z y=>z (.inl<|zz b y)) J⟩
   |own o=>
    have hv2:=u;obtain⟨a,rfl,e0,r⟩:=L;refine⟨_,G Q g u,a,rfl,e0,OR.mono fr.off (λb _ x hb=>S' _ _ hb) r⟩
   |_=>cases U
 ·obtain⟨d,rfl,hR⟩:=q;refine e.rt _ _ _ hR (f.same.trans S') ?_;exact Rp.mono (Ul (Same.refl _) λb _ _ z y=>z (.inl y)) L
def ID{te:TE}{T U:TO}{a:PTE}{l u:PTO}(ha:Ub K mg E te a)(hl:Kx K mg E T l)(hu:Kx K mg E U u):SndI K mg E (KS K<|tSl (T3 K) te T U) (RB a l u):=by
 intro H0 B H σ γ R X Q f p q G;refine ha H0 B H σ γ _ X _ f p (λx v H1 h1 s w=>?_) G;refine hl H0 B H1 σ γ _ X _ (f.grow s) h1 (λlo H2 h2 M=>?_) λc H' L N=>G c H' L (s.trans N);refine hu H0 B H2 σ γ _ X _ ((f.grow s).grow M) h2 (λh H3 n S3=>?_) λc H' L N=>G c H' L ((s.trans M).trans N);have o:=(s.trans M).trans S3;have g:=f.grow o;split at n
 ·rename_i d;split at n
  ·rename_i A ed;have w:=Rp.strip w;rw[ed]at w;obtain⟨b,C,rfl,hb,r⟩:=Rp.lst_inv w;refine⟨b,C,rfl,SqL.of (g.same _ _ hb),λm nm=>?_⟩;have S4:Same H3 (upd H3 m<|.lst<|K5 C lo h):=UJ nm
   have zm:¬zof B γ σ m:=λz=>by
    have:=g.zm m z
    rw[nm]at this;exact this
   have Y:Rps K H0 (cutD A lo h) (K5 C lo h):=r.cut;refine⟨m,rfl,⟨_,SqL.of Ur⟩,q _ _ _ _ n (o.trans S4) ⟨λi H' Z' J lt=>?_,λH' Z' lt=>⟨_,SqL.of (lt.2.2 _ _ Ur zm).1,by rw[Y.len];exact Wp _⟩⟩⟩;have hm:=(lt.2.2 _ _ Ur zm).1;have hd:(cutD A lo h)[i]?=some ((cutD A lo h).getD i .non):=by rw[W8,Wj J];rfl
   obtain⟨u,h4,h5⟩:=Y.get hd;have tu:TV K Z' H0 H' H' (arg ((cutD A lo h).getD i .non)) u:=K0 lt.2.1 lt.1 h5;refine⟨⟨_,u,SqL.of hm,h4⟩,λx H'' y=>?_⟩;obtain⟨rfl,y⟩:=y
   have:=y _ (SqL.of hm)
   rw[h4]at this;cases this
   exact⟨Same.refl _,tu⟩
  ·exact n.elim
 ·exact n.elim
end
section
variable {X:Cx}{CX:CXT}{k:Nat}{f Cc:Addr}{fd:FuncData}{ps:Yx}{sp:Sp}{ES:L2.St->XK}{x:Str}{p pos:Pos}{e:Expr}{es:Yy}{t:TA}
def Lk{g:List V}{ds:Yw}{pins:Yr}{l:L2.St}{H:Hp}{s:Shared}{Q:VK}{us:Yw}{vs:List V}(M:Mk X.K Cc f)(F:UM X.prog X.w X.K X.mg X.base CX k f fd ps sp)(E:Uh (k+1) X.A)(L:Binds X.K fd ps ds)(J:Vals g ds)(hx:ExcR.PD CX X ES)(I:Inv X pins l H s)(r:Vals vs us)(h:∀x n,H x=none->H n=none->n≠x->sp (.ref x::(vs++g)) (upd (upd H n<|.own x) x<|.ins Cc n []) (λv Y=>v=.non/\Q (.ref x) Y) (ES l)) :
  wpAny (model X.prog X.w) X.A (call (.ref Cc) us) (EP X pins l Q) X.xe s:=by
 have hq:=h (s.heap.objs.size+1) s.heap.objs.size (I.hok.fresh<|QM _) (I.hok.fresh<|Wp _) (W3<|QE _);have o:=Inv.made (C:=Cc) I;have q:Vals (V.ref (s.heap.objs.size+1)::(vs++g)) (Value.ref (s.heap.objs.size+1)::(us++ds)):=.cons rfl (r.append J)
 have G:(Value.ref (s.heap.objs.size+1)::us++ds).length=ps.length:=by
  have e:=q.length;rw[F.len _ _ _ _ hq]at e;exact e.symm
 refine wpAny_call (CV (f:=f) I.kIn M.makes M.init (beq_iff_eq.mp M.fn) (Qs (F.run _ X.stack _ _ ⟨Value.ref (s.heap.objs.size+1)::us,[]⟩ (Value.ref (s.heap.objs.size+1)::(us++ds)) _ _ (ES l) (E.make Cc us [])
  (o.env0.make Cc us []) (L _ (Value.ref (s.heap.objs.size+1)::us) o.kIn G) q hq) λr y b=>?_))
 cases r with
 |error e=>exact hx pins l _ _ e y o b
 |ok N=>
  cases N with
  |ret u=>
   obtain⟨v,H',U,z,T,B⟩:=o.after b;subst T;exact⟨z,⟨V.ref (s.heap.objs.size+1),H',U,rfl,B⟩⟩
  |next=>exact False.elim b
  |brk=>exact False.elim b
  |cont=>exact False.elim b
noncomputable def Es(C:Addr)(sp:Sp)(E:L2.St->XK)(t:TA):TE:=λh H Q=>t h H λl g=>∀x b,g x=none->g b=none->b≠x->sp (.ref x::(l++[])) (upd (upd g b<|.own x) x<|.ins C b []) (λv n=>v=.non/\Q (.ref x) n) (E h)
def LM(C:Xq X.prog X.w X.K X.mg X.base CX k (Mk X.K Cc) ps sp)(u:X.mg x=some (.ref Cc))(o:Uh (k+1) X.A)(hx:ExcR.PD CX X ES)(B:PA X (e::es) t)(v:autoParam (Gl X x) au_0)(g:autoParam ((x==("__debug__" : Str))=false) au_1)(y:autoParam (starEach (e::es) X.env=(false,eval e X.env)::starEach es X.env) au_0)(b:autoParam ((backTo pos<|starEach es X.env).any (·.1)=false) au_0) :
  PE X (.Call (.Name x p) (e::es) [] pos) (Es Cc sp ES t):=by
 obtain⟨f,fd,F,M,z⟩:=C.ex;intro pins s n H Q I h;refine Qt (XM I v u ?_ g);refine Q8 (h₀:=X.base) I.ok.mod.kin M.kp (thn (B pos pins s n H _ I h) ?_) y b;rintro G J ⟨E,L,l,r,q⟩;refine⟨l.kIn,?_⟩;exact Lk M F o z .nil hx l r q
variable {K:Yo}{mg:Ys}{E:L2.St->XK}
def Rk{C:Addr}{c:Pw}{b:TA}{r:PTA}(g:Uv K mg E b r):Ub K mg E (Es C (spW mg c K) E b) (Sq C c r):=Eh g
end
section
variable {K:Yo}{mg:Ys}{E:L2.St->XK}{H0 H H1 H':Hp}{B Z Z':Addr->Prop}{σ:L2.St}{γ:Γ}
noncomputable def FS(i:Nat)(C:Addr)(c:Pw):PTE:=λγ R _=>match γ[i]? with
 |some (some<|.own<|.lst f)=>∀x,c (.ins x C [] []) [.bor (.lst f)] (λb d=>d=.non/\R (.own b)) (λ_ _=>False)
 |_=>False
def DZ(i:Nat){C:Addr}{c:Pw}:Ub K mg E (Nc C (spW mg c K) [] E0<|U7 (Xh i) UK) (FS i C c):=by
 intro H0 B H σ γ R X Q f h q qx;unfold FS at h;split at h
 ·rename_i ds Y;obtain⟨v,N,l,rfl,e0,vs,J,e2⟩:=f.slot i _ Y;refine⟨_,N,λx y G r M=>?_⟩;rw[WL]
  have n:Same H (upd (upd H y<|.own x) x<|.ins C y []):=λb o e=>by
   rw[Uj (Xi e G),Uj (Xi e r)];exact e
  have g:∀{b o},H b=some o->¬(O.ins x C [] []).adr x b:=λe z=>by
   rcases z with z|⟨c,u,_⟩
   ·rw[z,G]at e;cases e
   ·cases u
  refine⟨.ins x C [] [],x,[.bor (.lst ds)],[.ref l],zof B γ σ,_,_,rfl,λb p=>⟨Xv n (f.zm b p),λz=>?_⟩,⟨rfl,rfl,⟨y,Ur⟩,(λc u=>by cases u),Q4⟩,?_,λs T=>?_,h x,λo' d v H' w A L=>?_,λ_ _ _ z=>z.elim⟩
  ·obtain⟨o,U⟩:=Kv (f.zm b p);exact g U z
  ·refine .cons (.lst (U1 (n _ _ J)<|g J)<|Rps.mono (λb o e=>?_) e2) .nil;have e:=off_sub _ _ e;exact U1 (n _ _ e) (g e)
  ·rw[Wm.mp T];trivial
  ·obtain⟨rfl,w⟩:=w;refine⟨Rp.non_inv L,q _ _ H' w (λb o e=>A.same b o (U1 (n b o e)<|g e)) ⟨x,rfl,λb p=>?_,A.at_⟩⟩;rcases A.new b p with z|z
   ·cases e:H b with
    |none=>rfl
    |some o=>exact(g e z).elim
   ·exact n.free z
 ·exact h.elim
end
end Pu
namespace T
open L2
noncomputable def top(i:Nat):Stmt:=PySem.Challenge.pw_stripmeld_k21_village_begins.main.body.getD i (.Pass ⟨0,0,0,0⟩)
noncomputable abbrev B9:Stmt:=top 24
def Gy:Ui ["holder"] ["holder"] (Uc B9):=Pu.fs
noncomputable abbrev NH:Stmt:=top 25
def HZ:Ui ["width"] ["width"] (Uc NH):=Pu.fs
noncomputable abbrev B7:Stmt:=top 26
def Oh:Ui ["strips","holder","width"] ["strips"] (Uc B7):=Pu.fs
noncomputable abbrev SM:Stmt:=top 27
def EW:Ui ["strips"] ["strips"] (Uc SM):=Pu.fs
noncomputable abbrev Si:Stmt:=top 42
def F5:Ui ["paths","left","wishes","longer","reached","path","holder"] ["paths","left","wishes"] (Uc Si):=Pu.fs
noncomputable abbrev NT:Stmt:=top 43
def ML:Ui ["least","holders","wishes","paths","left","rings","reached"] ["least","holders","wishes"] (Uc NT):=Pu.fs
noncomputable abbrev SR:Stmt:=top 44
def HY:Ui ["holders","wishes","ring","least","found"] ["holders","wishes"] (Uc SR):=Pu.fs
noncomputable abbrev N8:Stmt:=top 51
def HC:Ui ["wishes","ahead","behind"] ["wishes","ahead","behind"] (Uc N8):=Pu.fs
noncomputable abbrev Bv:Stmt:=inClass (top 67) 0
def Hg:Ui ["self","strips"] ["self","strips"] (Uc Bv):=Pu.fs
noncomputable abbrev SA:Stmt:=inClass (top 67) 1
def Oy:Ui ["self"] ["self"] (Uc SA):=Pu.fs
noncomputable abbrev NJ:Stmt:=inClass (top 67) 2
def Hm:Ui ["self"] ["self"] (Uc NJ):=Pu.fs
noncomputable abbrev B6:Stmt:=inClass (top 67) 3
def Oa:Ui ["self"] ["self"] (Uc B6):=Pu.fs
noncomputable abbrev NI:Stmt:=inClass (top 67) 4
def MT:Ui ["self"] ["self"] (Uc NI):=Pu.fs
noncomputable abbrev Sx:Stmt:=inClass (top 67) 5
def Re:Ui ["self","deed","field","wishes"] ["self","deed","field","wishes"] (Uc Sx):=Pu.fs
noncomputable abbrev N6:Stmt:=inClass (top 67) 9
def Za2:Ui ["self","ahead","behind","wishes"] ["self","ahead","behind"] (Uc N6):=Pu.fs
noncomputable abbrev Sj:Stmt:=inClass (top 67) 13
def Mw:Ui ["self"] ["self"] (Uc Sj):=Pu.fs
noncomputable abbrev Su:Stmt:=top 74
def L4:Ui ["text"] ["text"] (Uc Su):=Pu.fs
noncomputable abbrev Sa:Stmt:=top 75
def Ol:Ui ["word","texts"] ["word","texts"] (Uc Sa):=Pu.fs
noncomputable abbrev Br:Stmt:=top 76
def Hy:Ui ["texts"] ["texts"] (Uc Br):=Pu.fs
noncomputable abbrev NZ:Stmt:=top 78
def Ht:Ui ["strips"] ["strips"] (Uc NZ):=Pu.fs
noncomputable abbrev B4:Stmt:=top 83
def Gm:Ui ["village","word","numbers"] ["village","word","numbers"] (Uc B4):=Pu.fs
noncomputable abbrev NN:Stmt:=top 84
def OT:Ui ["village","word","numbers","many"] ["village","word","numbers"] (Uc NN):=Pu.fs
noncomputable abbrev Bz:Stmt:=top 85
def El:Ui ["village","word","numbers","e","members"] ["village","word","numbers"] (Uc Bz):=Pu.fs
noncomputable abbrev S9:Stmt:=top 86
def Mi:Ui ["village","row","words"] ["village","row"] (Uc S9):=Pu.fs
noncomputable abbrev Ss:Stmt:=top 87
def My:Ui ["strips","rows","village"] ["strips","rows"] (Uc Ss):=Pu.fs
noncomputable abbrev Ba:Stmt:=top 89
def MH:Ui ["_law_script","_law_k"] ["_law_script","_law_k"] (Uc Ba):=Pu.fs
noncomputable abbrev Bt:Stmt:=top 90
def Lo:Ui ["_law_found"] ["_law_found"] (Uc Bt):=Pu.fs
noncomputable abbrev BH:Stmt:=top 91
def Rr:Ui ["_law_cell","_law_place","_law_first"] ["_law_cell","_law_place"] (Uc BH):=Pu.fs
noncomputable abbrev N3:Stmt:=top 92
def G5:Ui ["_law_script","_law_k"] ["_law_script","_law_k"] (Uc N3):=Pu.fs
noncomputable abbrev Bl:Stmt:=top 93
def GC:Ui ["_law_cell","_law_wide","_law_least"] ["_law_cell"] (Uc Bl):=Pu.fs
noncomputable abbrev N4:Stmt:=top 94
def II:Ui ["_law_menu_here","_law_k"] ["_law_menu_here","_law_k"] (Uc N4):=Pu.fs
noncomputable abbrev Sk:Stmt:=top 95
def MA:Ui ["_law_script","_law_menu_here","_law_many","_law_strips_here","_law_k","_law_cell","_law_width"] ["_law_script","_law_menu_here","_law_many"] (Uc Sk):=Pu.fs
noncomputable abbrev Bc:Stmt:=top 96
def Zam:Ui ["_law_found","_law_due_here","_law_k"] ["_law_found","_law_due_here"] (Uc Bc):=Pu.fs
noncomputable abbrev B3:Stmt:=top 97
def Md:Ui ["_law_found","_law_due_here","_law_k","_law_j"] ["_law_found","_law_due_here"] (Uc B3):=Pu.fs
noncomputable abbrev NO:Stmt:=top 98
def Lx:Ui ["_law_strip","_law_cell","_law_odd","_law_wide"] ["_law_strip","_law_cell"] (Uc NO):=Pu.fs
noncomputable abbrev Sl:Stmt:=top 99
def Ib:Ui ["_law_strips_here","_law_holder_here","_law_width"] ["_law_strips_here"] (Uc Sl):=Pu.fs
noncomputable abbrev SN:Stmt:=top 100
def P1:Ui ["_law_strips_here","_law_desk","_law_kinds","e"] ["_law_strips_here","_law_desk"] (Uc SN):=Pu.fs
noncomputable abbrev SY:Stmt:=top 101
def SS:Ui ["_law_village","_law_strips_here","_law_turn","_law_told","_law_row_here"] ["_law_village","_law_strips_here"] (Uc SY):=Pu.fs
noncomputable abbrev X9:Stmt:=top 102
def IU:Ui ["_law_script","_law_many","_law_strips_here","_law_cell","_law_spot","_law_due_here","_law_handed","_law_village","_law_other","_law_good"] ["_law_script"] (Uc X9):=Pu.fs
structure Glob (w:World) (K:Yo) (mg:Ys):Prop where
 Z8:mg "ValueError"=none
 ZY:mg "all"=none
 Yb:mg "bool"=none
 ZZ:mg "int"=none
 Zc:mg "isinstance"=none
 len:mg "len"=none
 Zx:mg "list"=none
 Z2:mg "range"=none
 Yc:mg "set"=none
 ZC:mg "sorted"=none
 Ya:mg "tuple"=none
 ZF:∃u,mg "HOLDERS"=some u/\RelV (.int 10) u
 ZI:∃u,mg "STRIPS"=some u/\RelV (.int 40) u
 ZJ:∃u,mg "WIDEST"=some u/\RelV (.int 1000) u
 Z5:∃u,mg "MOST_WISHES"=some u/\RelV (.int 20) u
 Zy:∃u,mg "MOST_DEEDS"=some u/\RelV (.int 100) u
 ZX:∃u,mg "FIGURES"=some u/\RelV (.str "0123456789") u
 ZK:∃u,mg "MOST_FIGURES"=some u/\RelV (.int 4) u
 ZO:Own.T6 K w.params mg "DEEDS" [("sell",2),("part",2),("unite",1),("wish",2),("drop",2)]
 ZL:Own.T6 K w.params mg "OTHERS" [("back",0),("field",0),("wishes",0),("stood",1),("ring",0),("order",0),("cost",0),("moves",0),("offer",2)]
 Z6:mg "MeldError"=some (.ref<|ExcR.Ud mg "MeldError")
 Yd:ExcR.U3 K (ExcR.Ud mg "MeldError")
 Zg:mg "TooManyStrips"=some (.ref<|ExcR.Ud mg "TooManyStrips")
 Zb:ExcR.U3 K (ExcR.Ud mg "TooManyStrips")
 Zp:mg "BadHolder"=some (.ref<|ExcR.Ud mg "BadHolder")
 Zd:ExcR.U3 K (ExcR.Ud mg "BadHolder")
 Zz:mg "BadWidth"=some (.ref<|ExcR.Ud mg "BadWidth")
 Ze:ExcR.U3 K (ExcR.Ud mg "BadWidth")
 ZS:mg "NoStrip"=some (.ref<|ExcR.Ud mg "NoStrip")
 Ye:ExcR.U3 K (ExcR.Ud mg "NoStrip")
 ZP:mg "BadOrder"=some (.ref<|ExcR.Ud mg "BadOrder")
 Yf:ExcR.U3 K (ExcR.Ud mg "BadOrder")
 ZQ:mg "OwnStrip"=some (.ref<|ExcR.Ud mg "OwnStrip")
 Yg:ExcR.U3 K (ExcR.Ud mg "OwnStrip")
 ZT:mg "BadPart"=some (.ref<|ExcR.Ud mg "BadPart")
 Yh:ExcR.U3 K (ExcR.Ud mg "BadPart")
 ZD:mg "UnlikeHolders"=some (.ref<|ExcR.Ud mg "UnlikeHolders")
 Yi:ExcR.U3 K (ExcR.Ud mg "UnlikeHolders")
 ZU:mg "TooWide"=some (.ref<|ExcR.Ud mg "TooWide")
 Yj:ExcR.U3 K (ExcR.Ud mg "TooWide")
 Z1:mg "LikeHolders"=some (.ref<|ExcR.Ud mg "LikeHolders")
 ZG:ExcR.U3 K (ExcR.Ud mg "LikeHolders")
 Z4:mg "WishStands"=some (.ref<|ExcR.Ud mg "WishStands")
 ZM:ExcR.U3 K (ExcR.Ud mg "WishStands")
 Z0:mg "TooManyWishes"=some (.ref<|ExcR.Ud mg "TooManyWishes")
 ZE:ExcR.U3 K (ExcR.Ud mg "TooManyWishes")
 ZV:mg "NoWish"=some (.ref<|ExcR.Ud mg "NoWish")
 Yk:ExcR.U3 K (ExcR.Ud mg "NoWish")
 Z9:mg "BookFull"=some (.ref<|ExcR.Ud mg "BookFull")
 ZR:ExcR.U3 K (ExcR.Ud mg "BookFull")
 ZH:mg "NothingDone"=some (.ref<|ExcR.Ud mg "NothingDone")
 Yl:ExcR.U3 K (ExcR.Ud mg "NothingDone")
 ZN:mg "NoSuchDeed"=some (.ref<|ExcR.Ud mg "NoSuchDeed")
 Ym:ExcR.U3 K (ExcR.Ud mg "NoSuchDeed")
 ZW:mg "Ringed"=some (.ref<|ExcR.Ud mg "Ringed")
 Yn:PySem.W.exmOne K (.ref<|ExcR.Ud mg "Ringed") (.ref<|ExcR.Ud mg "Ringed")=some true
 ex:Pu.ExOk K mg ["Ringed","BadOrder"] ["TooManyStrips","BadHolder","NoStrip","OwnStrip","BadPart","UnlikeHolders","TooWide","LikeHolders","WishStands","TooManyWishes","NoWish","BookFull","NothingDone","NoSuchDeed","BadOrder","Ringed"]
 Z3:PySem.W.exmOne K (.ref<|ExcR.Ud mg "TooManyStrips") (.ref<|ExcR.Ud mg "MeldError")=some true
 Z7:PySem.W.exmOne K (.ref<|ExcR.Ud mg "BadHolder") (.ref<|ExcR.Ud mg "MeldError")=some true
 ZA:PySem.W.exmOne K (.ref<|ExcR.Ud mg "BadWidth") (.ref<|ExcR.Ud mg "MeldError")=some true
 Zi:PySem.W.kitOne K (.ref<|ExcR.Ud mg "TooManyStrips") (.type "ValueError")=some true
 Zh:PySem.W.kitOne K (.ref<|ExcR.Ud mg "TooManyStrips") (.ref<|ExcR.Ud mg "TooManyStrips")=some true
 Zj:PySem.W.kitOne K (.ref<|ExcR.Ud mg "TooManyStrips") (.ref<|ExcR.Ud mg "BadHolder")=some false
 Zl:PySem.W.kitOne K (.ref<|ExcR.Ud mg "TooManyStrips") (.ref<|ExcR.Ud mg "BadWidth")=some false
 Zq:PySem.W.kitOne K (.ref<|ExcR.Ud mg "BadHolder") (.type "ValueError")=some true
 Zk:PySem.W.kitOne K (.ref<|ExcR.Ud mg "BadHolder") (.ref<|ExcR.Ud mg "TooManyStrips")=some false
 Zr:PySem.W.kitOne K (.ref<|ExcR.Ud mg "BadHolder") (.ref<|ExcR.Ud mg "BadHolder")=some true
 Zt:PySem.W.kitOne K (.ref<|ExcR.Ud mg "BadHolder") (.ref<|ExcR.Ud mg "BadWidth")=some false
 Zs:PySem.W.kitOne K (.ref<|ExcR.Ud mg "BadWidth") (.type "ValueError")=some true
 Zm:PySem.W.kitOne K (.ref<|ExcR.Ud mg "BadWidth") (.ref<|ExcR.Ud mg "TooManyStrips")=some false
 Zu:PySem.W.kitOne K (.ref<|ExcR.Ud mg "BadWidth") (.ref<|ExcR.Ud mg "BadHolder")=some false
 Zv:PySem.W.kitOne K (.ref<|ExcR.Ud mg "BadWidth") (.ref<|ExcR.Ud mg "BadWidth")=some true
 Zw:mg "Village"=some (.ref<|ExcR.Ud mg "Village")
 Za:Cls K (ExcR.Ud mg "Village")
 Zf:NoAttr K (ExcR.Ud mg "Village") "book"
 Zn:NoAttr K (ExcR.Ud mg "Village") "fields"
 Zo:NoAttr K (ExcR.Ud mg "Village") "wished"
def TN:Pu.FldAt "book" ["book","fields","wished"] 0:=.of (by decide +kernel) (by decide +kernel) rfl
def La:Pu.PutAt "book" []:=.of (by decide +kernel)
def E9:Pu.FldAt "fields" ["book","fields","wished"] 1:=.of (by decide +kernel) (by decide +kernel) rfl
def LF:Pu.PutAt "fields" ["book"]:=.of (by decide +kernel)
def Fk:Pu.FldAt "wished" ["book","fields","wished"] 2:=.of (by decide +kernel) (by decide +kernel) rfl
def R3:Pu.PutAt "wished" ["book","fields"]:=.of (by decide +kernel)
def Td:Pu.NoFld "strips" ["book","fields","wished"]:=.of (by decide +kernel)
def TR:Pu.NoFld "wishes" ["book","fields","wished"]:=.of (by decide +kernel)
def GK:Pu.NoFld "deeds" ["book","fields","wished"]:=.of (by decide +kernel)
def GN:Pu.NoFld "check_room" ["book","fields","wished"]:=.of (by decide +kernel)
def Rg:Pu.NoFld "enter" ["book","fields","wished"]:=.of (by decide +kernel)
def GM:Pu.NoFld "wish" ["book","fields","wished"]:=.of (by decide +kernel)
def Mv:Pu.NoFld "ring" ["book","fields","wished"]:=.of (by decide +kernel)
end T
namespace M
open L2 Own Pu
noncomputable def HK:Pc:=λb R X=>∃h:Int,b=[.int h]/\XU (Tj h) X (R<|.sh .non)
noncomputable def Sr(h:Int):Option Str:=if 1<=h/\h<=1000 then none else some "BadWidth"
noncomputable def Lc:Pc:=λb R X=>∃h:Int,b=[.int h]/\XU (Sr h) X (R<|.sh .non)
noncomputable def AA(_:Yo):Sp:=λg H Q _=>∃(l:Addr) (b:Yp),g=[.ref l]/\LAt Xg H l b/\Field b/\b.length<=50/\
 ∀(q:Addr) (f:Hp),H q=none->Same H f->f q=some (.lst ((XN b).map V.int))->Q (.ref q) f
noncomputable def Eg:Pc:=λf R _=>∃b:Yp,f=[.lst (b.map prD)]/\Field b/\b.length<=50/\R (.own ((XN b).map D.int))
def RL{P:Program}{w:World}{K:Yo}{b:Ys}{base:Heap}(C:Callee P w K b base CX0 1 "holders_of" ["strips"] (AA K)):Callee P w K b base CX0 1 "holders_of" ["strips"] (Um b Eg K):=LN C λB R X z H Q E r o u A=>by
 obtain⟨g,rfl,x,n,s⟩:=o;obtain⟨v,rfl,f⟩:=r.one_inv;obtain⟨a,rfl,p⟩:=f.pairs_inv;exact⟨a,g,rfl,p,x,n,λq y l S h=>u _ _ y s S (Ry l h)⟩
def LW(b:Yp)(l:Int)(ps:List (Yq))(f:Yq)(g:List (Yq)):Prop:=∀q∈g,∃p∈ps,∃h∈f,q=p++[h]/\(Uq l p,h)∈b
noncomputable def Il:Pc:=λn R _=>∃(l:Int) (f:List (Yq)) (b:Yq) (h:Yp),n=[.lst (f.map<|em l),.lst (b.map D.int),.lst (h.map prD)]/\(∀p∈f,p.length<=100)/\b.length<=100/\
 ∀g,LW h l f b g->g.length<=b.length->R (.own<|g.map<|em l)
noncomputable def RN(C:Addr):Pc:=λg R _=>∃(bk:List (Str×Yq)) (fs b:List (Yp)) (f:Yp),g=[Xs C bk (fs++[f]) b]/\R (.own<|f.map prD)
noncomputable def GJ(C:Addr):Pc:=λg R _=>∃(bk:List (Str×Yq)) (fs b:List (Yp)) (f:Yp),g=[Xs C bk fs (b++[f])]/\R (.own<|f.map prD)
noncomputable def Lf(C:Addr):Pc:=λf R _=>∃(bk:List (Str×Yq)) (fs b:List (Yp)),f=[Xs C bk fs b]/\R (.own<|bk.map dD)
noncomputable def Bj(bk:List (Str×Yq)):Option Str:=if 100<=bk.length then some "BookFull" else none
noncomputable def Zai(C:Addr):Pc:=λf R X=>∃(bk:List (Str×Yq)) (fs b:List (Yp)),f=[Xs C bk fs b]/\XU (Bj bk) X (R<|.sh .non)
noncomputable def Zah(C:Addr):Pw:=λo l R _=>∃(x b1 h g:Addr) (bk:List (Str×Yq)) (fs b:List (Yp)) (q:Str×Yq) (f w:Yp),o=vO C x b1 h g bk fs b/\l=[.sh (dD q),.sh (plD f),.sh (plD w)]/\bk.length<=1000/\fs.length<=1000/\b.length<=1000/\
 R (vO C x b1 h g (bk++[q]) (fs++[f]) (b++[w])) (.int (bk.length+1))
noncomputable def O8:Pc:=λb R _=>∃x:Str,b=[.str x]/\x.length<=sizeLine/\x.cps.all (· < 128)=true/\R (.sh<|.bl<|XT x)
noncomputable def OG:Pc:=λf R _=>∃b:Yx,f=[.lst (b.map D.str)]/\JoinOk spc b=true/\R (.sh<|.str (if b=[]then "none" else Txt.join spc b))
noncomputable def L0:Pc:=λf R _=>∃(b:Yq) (k:Int),f=[.scr b,.int k]/\0<=k/\∀v:Int,R (.sh<|.int v)
noncomputable def Ig:Pc:=λb R _=>∃i:Int,b=[.int i]/\R (.sh<|.bl true)
noncomputable def G2:Pc:=λb R _=>∃c p:Int,b=[.int c,.int p]/\∀v:Int,R (.sh<|.int v)
noncomputable def Ru:Pc:=λb R _=>∃c:Int,b=[.int c]/\∀m,Sw m->R (.own<|m.map D.int)
noncomputable def Mc:Pc:=λb R _=>∃(m:Yq) (k:Int),b=[.lst (m.map D.int),.int k]/\Sw m/\∀h:Int,1<=h->h<=10->h=Zab m k->R (.sh<|.int h)
noncomputable def M0:Pc:=λg R _=>∃(h w c:Int),g=[prD (h,w),.int c]/\∀f b:Int,R (.sh<|prD (f,b))
noncomputable def UG(ps:Yp):List Bool:=match U4 ps with|none=>[]|some c=>[true,decide (c=("TooManyStrips" : Str)),decide (c=("BadHolder" : Str)),decide (c=("BadWidth" : Str))]
def Py{ps:Yp}(h:U4 ps=none):UG ps=[]:=by unfold UG;rw[h]
def Pz{ps:Yp}(h:U4 ps=some ("TooManyStrips" : Str)):UG ps=[true,true,false,false]:=by unfold UG;rw[h];rfl
def P3{ps:Yp}(h:U4 ps=some ("BadHolder" : Str)):UG ps=[true,false,true,false]:=by unfold UG;rw[h];rfl
def P4{ps:Yp}(h:U4 ps=some ("BadWidth" : Str)):UG ps=[true,false,false,true]:=by unfold UG;rw[h];rfl
theorem EH{c:Str}:∀{b:Yp},Xe b=some c->c = "BadHolder"\/c = "BadWidth"
 |[],h=>by cases h
 |q::r,h=>by
  unfold Xe at h;split at h
  ·cases h;exact .inl rfl
  split at h
  ·cases h;exact .inr rfl
  ·exact EH h
def KZ{ps:Yp}{c:Str}(h:U4 ps=some c):c = "TooManyStrips"\/c = "BadHolder"\/c = "BadWidth":=by
 unfold U4 at h;split at h
 ·cases h;exact .inl rfl
 ·exact .inr (EH h)
theorem Ai:∀{b:Yp},Xe b=none->Field b
 |[],_=>λq h=>by cases h
 |a::r,e=>λq h=>by
  unfold Xe at e;split at e
  ·cases e
  split at e
  ·cases e
  rename_i g f;rcases Wu.mp h with rfl|h
  ·have:=Vc.mp g
   have:=Vc.mp f
   lia
  ·exact Ai e q h
def Hw{ps:Yp}(h:U4 ps=none):ps.length<=40/\Field ps:=by
 unfold U4 at h;split at h
 ·cases h
 ·exact⟨by lia,Ai h⟩
noncomputable def Gn:Pc:=λf R _=>∃b:Yp,f=[plD b]/\b.length<=50/\R (.own ((UG b).map D.bl))
noncomputable def Gp:Pc:=λf R X=>∃b:Yp,f=[plD b]/\b.length<=1000/\XU (U4 b) X (R<|.sh .non)
noncomputable def OJ:Pc:=λg R _=>∃(l:Int) (b:Yq) (f:Yp),g=[.int l,.lst (b.map D.int),.lst (f.map prD)]/\b.length<=50/\(∀t,¬KO b f l t)/\R (.sh<|.lst [])
noncomputable def Gv:Pc:=λg R X=>∃(f:Yp) (a b:Int),g=[plD f,.int a,.int b]/\f.length<=1000/\XU (TQ f a b) X (R<|.own ((f++[(a,b)]).map prD))
noncomputable def OH:Pc:=λb R _=>b=[.str "field",.lst []]/\R (.sh<|.bl true)
noncomputable def txS(q:Int×Int):Str:=nS q.1++":"++nS q.2
noncomputable def XH(b:Yp):Str:=if b=[]then "none" else Txt.join spc (b.map txS)
noncomputable def LY:Pc:=λf R _=>∃b:Yp,f=[.lst (b.map prD)]/\b.length<=50/\(∀q∈b,(0<=q.1/\q.1<=1000)/\(0<=q.2/\q.2<=1000))/\R (.sh<|.str<|XH b)
noncomputable def Rm:Pc:=λf R _=>∃(b:Yq) (k:Int),f=[.scr b,.int k]/\0<=k/\∀v:Int,R (.sh<|.int v)
noncomputable def GG:Pc:=λb R _=>∃xs:Yq,(b=[.lst (xs.map D.int),.lst (xs.map D.int)]\/b=[.fL xs,.lst (xs.map D.int)])/\xs.length<=1000000/\R (.sh<|.bl true)
noncomputable def Mf:Pc:=λf R _=>∃b:Yp,f=[.lst (b.map prD),.lst (b.map prD)]/\b.length<=1000000/\R (.sh<|.bl true)
noncomputable def IP:Pc:=λg R _=>∃(b:Yq) (f:Yp),g=[.lst (b.map D.int),.lst (f.map prD)]/\b.length<=50/\(∀l∈b,∀t,¬KO b f l t)/\R (.own<|.lst [])
noncomputable def MS(C:Addr):Pw:=λo g R X=>∃(x:Addr) (b:Yp),o=.ins x C [] []/\(∃f:S,g=[f]/\(f=.sh (plD b)\/f=.bor (plD b)))/\b.length<=1000/\XU (U4 b) (X<|.ins x C [] []) (∀b1 l h,R (vO C x b1 l h [] [b] [[]]) .non)
noncomputable def BK(bk:List (Str×Yq))(w:Yp)(a b:Int):Option Str:=if 100<=bk.length then some "BookFull" else TQ w a b
noncomputable def HE(C:Addr):Pw:=λo n R X=>∃(x b1 l g:Addr) (bk:List (Str×Yq)) (fs b:List (Yp)) (f w:Yp) (p h:Int),o=vO C x b1 l g bk (fs++[f]) (b++[w])/\n=[.sh (.int p),.sh (.int h)]/\bk.length<=1000/\fs.length<=900/\b.length<=900/\w.length<=1000/\
 XU (BK bk w p h) (X<|vO C x b1 l g bk (fs++[f]) (b++[w])) (R (vO C x b1 l g (bk++[(("wish" : Str),[p,h])]) (fs++[f]++[f]) (b++[w]++[w++[(p,h)]]))<|.int (bk.length+1))
noncomputable def Zaz(C:Addr):Pc:=λg R _=>∃(bk:List (Str×Yq)) (fs b:List (Yp)) (f:Yp),g=[Xs C bk (fs++[f]) b,.str "field",.lst []]/\f.length<=50/\(∀q∈f,(0<=q.1/\q.1<=1000)/\(0<=q.2/\q.2<=1000))/\R (.sh<|.str<|XH f)
noncomputable def Mz:Pc:=λg R _=>∃(f m:Yq) (n:Int),g=[.scr f,.lst (m.map D.int),.int n]/\Sw m/\0<=n/\n<=1000/\∀b:Yp,Field b->b.length=n.toNat->R (.own<|b.map prD)
noncomputable def Hr(C:Addr):Pc:=λg R _=>∃(bk:List (Str×Yq)) (fs b:List (Yp)) (f w:Yp),g=[Xs C bk (fs++[f]) (b++[w])]/\Field f/\f.length<=50/\(∀q∈w,q.1≠q.2)/\(¬ ∃r,Ring (XN f) w r)/\R (.own<|.lst [])
noncomputable def Za1(C:Addr):Pc:=λg R _=>∃(bk:List (Str×Yq)) (fs b:List (Yp)) (f:Yp),g=[Xs C bk (fs++[f]) b,.str "field",.lst []]/\f.length<=50/\(∀q∈f,(0<=q.1/\q.1<=1000)/\(0<=q.2/\q.2<=1000))/\R (.sh<|.str<|XH f)
noncomputable def Oe(C:Addr):Pc:=λg R _=>∃(bk:List (Str×Yq)) (fs b:List (Yp)) (f:Yp),g=[Xs C bk (fs++[f]) b,.str "field",.lst []]/\f.length<=50/\(∀q∈f,(0<=q.1/\q.1<=1000)/\(0<=q.2/\q.2<=1000))/\R (.sh<|.str<|XH f)
noncomputable def EV(C:Addr):Pc:=λb R _=>∃(f:Yp),b=[Xs C [] [f] [[]],plD f]/\Field f/\f.length<=40/\R (.sh<|.bl true)
noncomputable def MK(C:Addr):Pc:=λg R _=>∃(bk:List (Str×Yq)) (fs b:List (Yp)) (f:Yp),g=[Xs C bk (fs++[f]) b,.str "field"]/\f.length<=50/\(∀q∈f,(0<=q.1/\q.1<=1000)/\(0<=q.2/\q.2<=1000))/\R (.sh<|.str<|XH f)
noncomputable def HL(C:Addr):Pc:=λf R X=>∃b:Yp,f=[plD b,.lst [.str "field"]]/\b.length<=1000/\XU (U4 b) X (R<|.own<|.lst [.str (XH b)])
noncomputable def G8(C:Addr):Pc:=λg R _=>∃(f:Yp) (b:Bool),g=[plD f,.bl b]/\f.length<=50/\R (.own ((UG f).map D.bl))
structure Fv (P:Program) (w:World) (K:Yo) (mg:Ys) (base:Heap):Type
variable {P:Program}{w:World}{K:Yo}{mg:Ys}{base:Heap}
abbrev Cal(_:Fv P w K mg base):=Callee P w K mg base
abbrev Cam(_:Fv P w K mg base):=Xq P w K mg base
abbrev Cxe(_:Fv P w K mg base):=ExcR.CXe P w
abbrev Up(_:Fv P w K mg base):=ExcR.Ud mg "Village"
variable (ζ:Fv P w K mg base)
abbrev Fs:Prop:=Cal ζ (Cxe ζ) 1 "check_holder" ["holder"] (Um mg HK K)
abbrev Dh:Prop:=Cal ζ (Cxe ζ) 1 "check_width" ["width"] (Um mg Lc K)
abbrev OW:Prop:=Cal ζ CX0 1 "holders_of" ["strips"] (Um mg Eg K)
abbrev Ff:Prop:=Cal ζ CX0 1 "longer_paths" ["paths","left","wishes"] (Um mg Il K)
abbrev Fm:Prop:=Cam ζ CX0 1 (U9 K (Up ζ) "strips") ["self"] (Um mg (RN<|Up ζ) K)
abbrev Ao:Prop:=Cam ζ CX0 1 (U9 K (Up ζ) "wishes") ["self"] (Um mg (GJ<|Up ζ) K)
abbrev Co:Prop:=Cam ζ CX0 1 (U9 K (Up ζ) "deeds") ["self"] (Um mg (Lf<|Up ζ) K)
abbrev A3:Prop:=Cam ζ (Cxe ζ) 1 (U9 K (Up ζ) "check_room") ["self"] (Um mg (Zai<|Up ζ) K)
abbrev Em:Prop:=Cam ζ CX0 1 (U9 K (Up ζ) "enter") ["self","deed","field","wishes"] (Pu.spW mg (Zah<|Up ζ) K)
abbrev Ct:Prop:=Cal ζ CX0 1 "is_number" ["text"] (Um mg O8 K)
abbrev EU:Prop:=Cal ζ CX0 1 "told_texts" ["texts"] (Um mg OG K)
abbrev BY:Prop:=Cal ζ CX0 1 "_law_at" ["_law_script","_law_k"] (Um mg L0 K)
abbrev AR:Prop:=Cal ζ CX0 1 "_law_whole" ["_law_found"] (Um mg Ig K)
abbrev Ds:Prop:=Cal ζ CX0 1 "_law_mix" ["_law_cell","_law_place"] (Um mg G2 K)
abbrev DG:Prop:=Cal ζ CX0 1 "_law_menu" ["_law_cell"] (Um mg Ru K)
abbrev Cw:Prop:=Cal ζ CX0 1 "_law_holder" ["_law_menu_here","_law_k"] (Um mg Mc K)
abbrev F4:Prop:=Cal ζ CX0 1 "_law_spoiled" ["_law_strip","_law_cell"] (Um mg M0 K)
abbrev Cv:Prop:=Cal ζ CX0 1 "_law_due" ["_law_strips_here"] (Um mg Gn K)
abbrev Ah:Prop:=Cal ζ (Cxe ζ) 2 "check_strips" ["strips"] (Um mg Gp K)
abbrev E8:Prop:=Cal ζ CX0 2 "ring_from" ["least","holders","wishes"] (Um mg OJ K)
abbrev Di:Prop:=Cal ζ (Cxe ζ) 2 "with_wish" ["wishes","ahead","behind"] (Um mg Gv K)
abbrev Eo:Prop:=Cal ζ CX0 2 "is_row" ["word","texts"] (Um mg OH K)
abbrev AQ:Prop:=Cal ζ CX0 2 "told_strips" ["strips"] (Um mg LY K)
abbrev F3:Prop:=Cal ζ CX0 2 "_law_draw" ["_law_script","_law_k"] (Um mg Rm K)
abbrev D3:Prop:=Cal ζ CX0 2 "_law_row" ["_law_found","_law_due_here"] (Um mg GG K)
abbrev As:Prop:=Cal ζ CX0 2 "_law_tuples" ["_law_found","_law_due_here"] (Um mg Mf K)
abbrev DB:Prop:=Cal ζ CX0 3 "find_ring" ["holders","wishes"] (Um mg IP K)
abbrev Fp:Prop:=Cam ζ (Cxe ζ) 3 (Mk K<|Up ζ) ["self","strips"] (Pu.spW mg (MS<|Up ζ) K)
abbrev Fj:Prop:=Cam ζ (Cxe ζ) 3 (U9 K (Up ζ) "wish") ["self","ahead","behind"] (Pu.spW mg (HE<|Up ζ) K)
abbrev CQ:Prop:=Cal ζ CX0 3 "told_question" ["village","word","numbers"] (Um mg (Zaz<|Up ζ) K)
abbrev Ar:Prop:=Cal ζ CX0 3 "_law_strips" ["_law_script","_law_menu_here","_law_many"] (Um mg Mz K)
abbrev Cs:Prop:=Cam ζ CX0 4 (U9 K (Up ζ) "ring") ["self"] (Um mg (Hr<|Up ζ) K)
abbrev Al:Prop:=Cal ζ (Cxe ζ) 4 "told_row" ["village","word","numbers"] (Um mg (Za1<|Up ζ) K)
abbrev FC:Prop:=Cal ζ CX0 5 "told_or_refused" ["village","word","numbers"] (Um mg (Oe<|Up ζ) K)
abbrev A9:Prop:=Cal ζ CX0 5 "_law_begun" ["_law_village","_law_strips_here"] (Um mg (EV<|Up ζ) K)
abbrev EA:Prop:=Cal ζ CX0 6 "answer" ["village","row"] (Um mg (MK<|Up ζ) K)
abbrev FL:Prop:=Cal ζ (Cxe ζ) 7 "answers" ["strips","rows"] (Um mg (HL<|Up ζ) K)
abbrev Dz:Prop:=Cal ζ CX0 8 "_law_refused" ["_law_strips_here","_law_desk"] (Um mg (G8<|Up ζ) K)
abbrev MX:Prop:=Cal ζ CX0 9 "law" ["_law_script"] (Um mg DC K)
end M
namespace M
open L2 Own Pu
structure LWs (ws:Yp) (l:Int) (ps:List (Yq)) (ls:Yq) (lg:List (Yq)) (kvs:List (Key×V)):Prop where
 g:LW ws l ps ls lg
 nd:(lg.map<|Uq l).Nodup
 rc:∀h:Int,(Us kvs<|.inl h).isSome=true↔h∈lg.map (Uq l)
 len:kvs.length<=lg.length
section
variable {ws:Yp}{l:Int}{ps:List (Yq)}{ls:Yq}{lg:List (Yq)}{kvs:List (Key×V)}
def LWs.len_le (L:LWs ws l ps ls lg kvs):lg.length<=ls.length:=by
 have:=AF L.nd (ys:=ls) λh b=>by
  obtain⟨q,hq,e⟩:=WT.mp b;obtain⟨p,_,x,hx,rfl,_⟩:=L.g q hq;rw[Ko]at e;rw[←e];exact hx
 rwa[Wk]at this
def LWs.put {p:Yq}{h:Int} (o:p∈ps) (r:h∈ls) (G:LWs ws l ps ls lg kvs) (new:(Us kvs<|.inl h).isSome=false) (hw:(Uq l p,h)∈ws):LWs ws l ps ls (lg++[p++[h]]) (putK kvs (.inl h)<|.bl true):=by
 have f:Uq l (p++[h])=h:=by rw[Ko];rfl
 have n:h∉lg.map (Uq l):=λz=>by rw[(G.rc h).mpr z]at new;cases new
 refine⟨λq hq=>?_,?_,λx=>?_,?_⟩
 ·rcases Qc.mp hq with hq|hq
  ·exact G.g q hq
  ·exact⟨p,o,h,r,Wm.mp hq,hw⟩
 ·rw[WE,Vw,f];refine Vy.mpr ⟨G.nd,by simp,λa u b s=>?_⟩;rw[Wm.mp s];rintro rfl;exact n u
 ·rw[WE,Vw,f,GU,Qc,Wm];by_cases e:x=h
  ·subst e;rw[Wr rfl];exact⟨λ_=>.inr rfl,λ_=>rfl⟩
  ·rw[Wq (λz=>e (Sum.inl.inj z)),G.rc];exact⟨.inl,λz=>z.elim id λw=>absurd w e⟩
 ·rw[WB]
  have:=NX kvs (.inl h) (.bl true)
  have:=G.len
  simp;lia
end
def An{xs:Yq}{k:Int}(f:0<=k)(h:k<xs.length):∃v:Int,atI (xs.map D.int) k=some (.int v):=by
 have b:k.toNat<xs.length:=by lia
 exact⟨xs[k.toNat],KH (TM f<|Wj b)⟩
def Ea(c:Int->Bool):∀b:Yq,b.filterMap (λq=>if c q=true then some (D.int q)else none)=(b.filter c).map D.int:=N0 c D.int
def Gg{g:Yq}{b:Yp}{l:Int}(o:∀q∈b,q.1≠q.2)(s:¬ ∃r,Ring g b r)(p:l∈g):∀(n:Nat) (t:Yq),t.length<=n->¬KO g b l t:=by
 intro n
 induction n with
 |zero=>exact λt w h=>s ⟨_,Cd o p h λu _=>by lia⟩
 |succ n v=>exact λt w h=>s ⟨_,Cd o p h λu f=>QR λz=>v u (by lia) f⟩
end M
namespace T
open L2 Own M
section
variable {P:Program}{w:World}{K:Yo}{mg:Ys}{base:Heap}
def L3(G:Glob w K mg)(D:Def K mg "holders_of" SM ["strips"])
  : Callee P w K mg base CX0 1 "holders_of" ["strips"] (AA K):=by
 refine D.ok (k:=0) EW (λp H Q E h=>?_) (λf cdv A outer s H p Q E hr h=>?_)
 ·obtain⟨l,b,rfl,⟨p,v,u⟩,J,C,q⟩:=h;rfl
 ·obtain⟨l,b,rfl,⟨p,v,u⟩,J,C,q⟩:=h;refine⟨_,(U0<|U8<|UE (Fc rfl) (by rfl) G.ZC boot_sorted<|U5 (Kp (Ij rfl) (by rfl) G.Yc boot_set<|U5 (Sn (N':=["holder","width"]) (φ:=[none,none]) rfl (Pe.of<|by rfl) (FG<|pv 0) (λ_ _ _ _ _=>⟨(FV (K:=K) (n:=2) rfl<|NV (Tv (i:=0) (show(["holder","width"]:Yx).Nodup from by decide +kernel) rfl (by first|exact Or.inl rfl|exact Or.inr rfl))<|NV (Tv (i:=1) (show(["holder","width"]:Yx).Nodup from by decide +kernel) rfl (by first|exact Or.inl rfl|exact Or.inr rfl)) Fi),Nw,(pv 0)⟩)) Xf) Xf),?_⟩
  have e1:=u.1;refine⟨_,rfl,l,rfl,⟨_,SqL.of v⟩,λD z=>OB (ds:=b) (λd=>some (V.int d.1)) (SqL.of v) e1 z (Wy C<|by decide) (λi x d H2 hx Y S k U=>?_) ?_⟩
  ·obtain⟨d',g,a,rfl,ha⟩:=u.get hx;rw[Y]at g;cases g
   exact⟨a,_,rfl,SqT.of (S _ _ ha),rfl,_,_,rfl,_,_,rfl,rfl,.skip (.skip .refl),_,rfl,U⟩
  ·have em:b.filterMap (λd=>some (V.int d.1))=(b.map (·.1)).map V.int:=by
    rw[Q9,Qk];rfl
   rw[em];have S1:Same H (upd H D<|.lst ((b.map (·.1)).map V.int)):=UJ z;refine⟨D,b.map (·.1),rfl,SqL.of Ur,by rw[Wk];lia,λy M=>?_⟩;have L:=Own.Same.new (o:=Kn w y ((b.map (·.1)).foldl SetR.UD [])) S1 M;refine⟨y,_,rfl,?_,.inr Ur,λr ns B T N=>?_⟩
   ·have:=Fn (b.map (·.1)) []
    rw[Wk]at this;simp at this ⊢;lia
   ·rw[IC J T N];exact q r _ (L.free B) (Own.Same.new L B) Ur
end
open Pu
section
variable {P:Program}{w:World}{K:Yo}{mg:Ys}{base:Heap} (ζ:Fv P w K mg base)
variable (G:Glob w K mg) (YA:Fs ζ) (YE:Dh ζ) (YF:OW ζ) (YG:Ff ζ) (Y4:Fm ζ) (Y5:Ao ζ) (YH:Co ζ) (YI:A3 ζ) (YJ:Em ζ) (YK:Ct ζ) (YL:EU ζ) (Y6:BY ζ) (YC:AR ζ) (YM:Ds ζ) (YN:DG ζ) (YO:Cw ζ) (YQ:F4 ζ) (YR:Cv ζ) (YS:Ah ζ) (YT:E8 ζ) (YU:Di ζ) (YV:Eo ζ) (YW:AQ ζ) (YB:F3 ζ) (YX:D3 ζ) (Y7:As ζ) (YY:DB ζ) (Y8:Fp ζ) (YZ:Fj ζ) (Wa:CQ ζ) (Wb:Ar ζ) (Wc:Cs ζ) (Wd:Al ζ) (We:FC ζ) (Wf:A9 ζ) (Wg:EA ζ) (Wh:FL ζ) (YD:Dz ζ)
def Lp(o:Def K mg "check_holder" B9 ["holder"])
  : Fs ζ:=by
 refine o.fy Gy (λp n=>(b1<|sI (tp<|wo (tc Kq KE (xv 0) xi)<|wO<|tc X5 XB (xv 0)<|xe (ExcR.Xm G.ZF) Uo) (b1<|sQ G.Zd G.Zp ExcR.Kt<|a1<|xe (ExcR.Pn<|ExcR.XO<|ExcR.K8 (ExcR.Xm G.ZF) ExcR.Pm)<|Pd<|XQ<|KC Uo Pi) b0)) (.a ?_)
 ·rintro r R X ⟨h,rfl,b⟩;refine⟨rfl,?_⟩;unfold Tj at b;refine U2 (λg=>Tc ?_) (λg=>?_)
  ·rw[Wq (by have:=Ww g;lia)]at b;exact⟨by decide,by decide,by decide,by decide,by simp,b⟩
  ·have q:¬h<1:=λz=>g (Wx z);refine U2 (λf=>?_) (λf=>?_)
   ·rw[Wq (by have:=Ww f;lia)]at b;exact⟨by decide,by decide,by decide,by decide,by simp,b⟩
   ·have l:¬10<h:=λz=>f (Wx z);rw[Wr (by lia)]at b;exact b
def GX(o:Def K mg "check_width" NH ["width"])
  : Dh ζ:=by
 refine o.fy HZ (λp n=>(b1<|sI (tp<|wo (tc Kq KE (xv 0) xi)<|wO<|tc X5 XB (xv 0)<|xe (ExcR.Xm G.ZJ) Uo) (b1<|sQ G.Ze G.Zz ExcR.Kt<|a1<|xe (ExcR.Pn<|ExcR.XO<|ExcR.K8 (ExcR.Xm G.ZJ) ExcR.Pm)<|Pd<|XQ<|KC Uo Pi) b0)) (.a ?_)
 ·rintro r R X ⟨h,rfl,b⟩;refine⟨rfl,?_⟩;unfold Sr at b;refine U2 (λg=>Tc ?_) (λg=>?_)
  ·rw[Wq (by have:=Ww g;lia)]at b;exact⟨by decide,by decide,by decide,by decide,by simp,b⟩
  ·have q:¬h<1:=λz=>g (Wx z);refine U2 (λf=>?_) (λf=>?_)
   ·rw[Wq (by have:=Ww f;lia)]at b;exact⟨by decide,by decide,by decide,by decide,by simp,b⟩
   ·have l:¬1000<h:=λz=>f (Wx z);rw[Wr (by lia)]at b;exact b
def O0(T:Def K mg "longer_paths" Si ["paths","left","wishes"])
  : Ff ζ:=by
 refine T.fz F5 (λx n=>(bc (sS 3 n<|xL a0)<|bc (se (Pu.pz 4 F5.nd IT)<|T5 G6<|XI 4)<|bc (sF 1<|sF 0<|sO [5,6] WU (iL<|xv 0) (gN 5)<|b1<|sF 1<|sO [6] WU (iL<|xv 1) (gN 6)<|b1<|sI (tp<|wa (te (T8<|Zad (Ts<|x ()) (pv 6)<|pv 4)<|TB<|O3 (Ug 6)<|Ug 4)<|wA<|ti x (xt<|a2 (xx (xv 5)<|xe (Kr Ks UA)<|KA Uo)<|xv 6)<|xv 2) (bc (se (Rn (Ts<|x ()) (pv 4) (pv 6) Ta rfl)<|Lq 4 (Ug 6) PP)<|b1<|sF 6<|sA 3<|xo CC Ft (xv 5)<|xL<|a1<|xv 6) b0)<|b1<|sV 3)) (.a ?_)
 ·rintro U R X ⟨l,s,u,v,rfl,y,H,N⟩;refine⟨rfl,?_⟩
  refine⟨by simp,rfl,PX (xs:=s) (emb:=em l) (λi f=>∃o b,f=[some (.bor<|.lst<|s.map<|em l),some (.bor<|.lst<|u.map D.int),some (.bor<|.lst<|v.map prD),some (.own<|o.map<|em l),some (.own<|.dK b),none,none]/\LWs v l s u o b)
   ⟨[],[],rfl,(λq hq=>by cases hq),Q4,(λh=>by simp[Us]),Wp _⟩ ?_ ?_⟩
  ·rintro i M f ⟨o,b,rfl,r⟩;have A:=WI M;have z:=y s[i] A;generalize s[i]=p at A z ⊢;refine⟨rfl,PX (xs:=u) (emb:=D.int) (λj f=>∃o b,f=[some (.bor<|.lst<|s.map<|em l),some (.bor<|.lst<|u.map D.int),some (.bor<|.lst<|v.map prD),some (.own<|o.map<|em l),some (.own<|.dK b),some (.bor<|em l p),none]/\LWs v l s u o b) ⟨o,b,rfl,r⟩ ?_ ?_⟩
   ·rintro j L f ⟨o,b,rfl,r⟩;have C:=WI L;generalize u[j]=h at C ⊢;have B:=r.len_le;have J:=r.len;refine⟨.inl h,rfl,U2 (λg=>?_) (λg=>UT ⟨o,b,rfl,r⟩)⟩
    have Q:(Us b<|.inl h).isSome=false:=by
     cases e:(Us b<|.inl h).isSome with
     |false=>rfl
     |true=>rw[e]at g;cases g
    refine⟨_,BJ l p,by simp,_,.lp (Uq l p,h) v,U2 (λE=>?_) (λE=>⟨o,b,rfl,r⟩)⟩;refine⟨.inl h,.bl true,rfl,rfl,by lia,by simp,Bw _,rfl,by simp;lia,by rw[Wk];lia,o++[p++[h]],_,?_,r.put A C Q (Ww E)⟩;rw[WE]
    have e:em l (p++[h])=.lst ((l::p).map D.int++[.int h]):=by
     unfold em;rw[←List.cons_append,WE];rfl
    rw[Vw,e];rfl
   ·rintro f ⟨o,b,rfl,r⟩;exact⟨o,b,rfl,r⟩
  ·rintro f ⟨o,b,rfl,r⟩;exact N o r.g r.len_le
def IZ(g:Uw K (U9 K (Up ζ) "strips") "strips" "Village.strips" SA ["self"])
  : Fm ζ:=by
 refine g.fz Oy (λl n=>(b1<|sR<|xe (Kp (To (K:=K)) (by rfl) G.Zx boot_list<|az<|jx K (Ki (pv 0) rfl)<|Kr Ks UA)<|P7<|sz<|Nb (PV 1 G.Za G.Zn E9<|Ug 0)<|KA Uo)) (.a ?_)
 ·rintro o R X ⟨bk,fs,h,f,rfl,b⟩;refine⟨rfl,?_⟩;exact⟨rfl,rfl,_,rfl,_,Ae plD fs f,Kz _,b⟩
def LG(h:Uw K (U9 K (Up ζ) "wishes") "wishes" "Village.wishes" NJ ["self"])
  : Ao ζ:=by
 refine h.fz Hm (λl n=>(b1<|sR<|xe (Kp (To (K:=K)) (by rfl) G.Zx boot_list<|az<|jx K (Ki (pv 0) rfl)<|Kr Ks UA)<|P7<|sz<|Nb (PV 2 G.Za G.Zo Fk<|Ug 0)<|KA Uo)) (.a ?_)
 ·rintro o R X ⟨bk,fs,b,f,rfl,g⟩;refine⟨rfl,?_⟩;exact⟨rfl,rfl,_,rfl,_,Ae plD b f,Kz _,g⟩
def OM(f:Uw K (U9 K (Up ζ) "deeds") "deeds" "Village.deeds" B6 ["self"])
  : Co ζ:=by
 refine f.fz Oa (λh n=>(b1<|sR<|xe (Kp (To (K:=K)) (by rfl) G.Zx boot_list<|az<|Ki (pv 0) rfl)<|P7<|sz<|PV 0 G.Za G.Zf TN<|Ug 0)) (.a ?_)
 ·rintro l R X ⟨bk,fs,g,rfl,b⟩;refine⟨rfl,?_⟩;exact⟨rfl,rfl,_,rfl,Et _,b⟩
def IK(h:Uw K (U9 K (Up ζ) "check_room") "check_room" "Village.check_room" NI ["self"])
  : A3 ζ:=by
 refine h.fy MT (λo n=>(b1<|sI (tc CU D1 (xl G.len<|xe (Ki (pv 0) rfl)<|PV 0 G.Za G.Zf TN<|Ug 0)<|xe (ExcR.Xm G.Zy) Uo) (b1<|sQ G.ZR G.Z9 ExcR.Kt<|a1<|xe (ExcR.Pn<|ExcR.XO<|ExcR.K8 (ExcR.Xm G.Zy)<|ExcR.XO ExcR.Pm)<|Pd<|XQ<|KC Uo<|XQ Pi) b0)) (.a ?_)
 ·rintro q R X ⟨bk,fs,l,rfl,b⟩;refine⟨rfl,?_⟩;have p:(bk.map dD).length=bk.length:=Wk ..;unfold Bj at b;refine⟨rfl,rfl,_,rfl,U2 (λg=>?_) (λg=>?_)⟩
  ·have f:(100:Int)<=((bk.map dD).length:Int):=Ww g;rw[Wr (by lia)]at b;exact⟨by decide,by decide,by decide,by decide,by decide,by simp,b⟩
  ·have f:¬(100:Int)<=((bk.map dD).length:Int):=λz=>g (Wx z);rw[Wq (by lia)]at b;exact b
def Hf(z:Uw K (U9 K (Up ζ) "enter") "enter" "Village.enter" Sx ["self","deed","field","wishes"])
  : Em ζ:=by
 refine z.fz Re (λB n=>(bc (sF 1<|se (XA<|P9 Qo Ql Qm Pj (Ki (pv 0) rfl)<|az<|pv 1)<|Ny<|Se 0 0 G.Za G.Zf TN<|Ug 1)<|bc (sF 2<|se (XA<|P9 Qo Ql Qm Pj (Ki (pv 0) rfl)<|az<|pv 2)<|Ny<|Se 0 1 G.Za G.Zn E9<|Ug 2)<|bc (sF 3<|se (XA<|P9 Qo Ql Qm Pj (Ki (pv 0) rfl)<|az<|pv 3)<|Ny<|Se 0 2 G.Za G.Zo Fk<|Ug 3)<|b1<|se (U8<|ln K G.len<|Ki (pv 0) rfl)<|Hn<|Na<|sz<|PV 0 G.Za G.Zf TN<|Ug 0)) (.c ?_)
 ·rintro o A R X ⟨x,b1,y,v,bk,fs,b,q,f,w,rfl,rfl,H,E,C,p⟩;refine⟨rfl,?_⟩;have l:(bk.map dD).length<10000000:=by rw[Wk];lia
  have h:(fs.map plD).length<10000000:=by rw[Wk];lia
  have g:(b.map plD).length<10000000:=by rw[Wk];lia
  refine⟨rfl,rfl,_,rfl,l,rfl,rfl,_,rfl,h,rfl,rfl,_,rfl,g,rfl,rfl,_,rfl,_,rfl,⟨rfl,by simp⟩,?_⟩;have e:(((bk.map dD++[dD q]).length:Nat):Int)=(bk.length:Int)+1:=by rw[WB,Wk];simp
  show R (.ins x _ vF [(b1,bk.map dD++[dD q]),(y,fs.map plD++[plD f]),(v,b.map plD++[plD w])]) (.int (((bk.map dD++[dD q]).length:Nat):Int));rw[e];have u:bk.map dD++[dD q]=(bk++[q]).map dD:=by rw[WE];rfl
  have s:fs.map plD++[plD f]=(fs++[f]).map plD:=by rw[WE];rfl
  have r:b.map plD++[plD w]=(b++[w]).map plD:=by rw[WE];rfl
  rw[u,s,r];exact p
def MR(N:Def K mg "is_number" Su ["text"])
  : Ct ζ:=by
 refine N.fz L4 (λv n=>(bc (sI (tp<|wo (tc Kq KE (xl G.len<|xv 0) xi)<|wO<|tc X5 XB (xl G.len<|xv 0)<|xe (ExcR.Xm G.ZK) Uo) (b1<|sR xb) b0)<|bc (sI (tp<|wa (tq v (xe (AH Gd (pv 0) UA (λ_ _=>rfl))<|OQ (Ug 0) Uo) xs)<|wA<|tn v (xv 0) xs) (b1<|sR xb) b0)<|b1<|sR<|xe (UE (Am (K:=K) rfl) (by rfl) G.ZY boot_all<|az<|cz ["sign"] [none] (HU<|pv 0) ⟨(gk 0),Nw,(E2 Zay (pv 0) (ExcR.Xm G.ZX)<|by with_unfolding_all rfl)⟩)<|F9<|sz<|PK (SndI.c<|Zax<|Ug 0) (XI 0) N2<|Lr (Ug 0) UC)) (.a ?_)
 ·rintro T R X ⟨x,rfl,l,y,f⟩;refine⟨rfl,l,U2 (λg=>?_) (λp=>⟨l,U2 (λg=>?_) (λo=>?_)⟩)⟩
  ·have e:XT x=false:=by
    unfold XT;have g:decide ((x.length:Int)<1)=true:=g;rw[g];rfl
   rw[←e];exact f
  ·have e:XT x=false:=by
    unfold XT;have g:decide ((4:Int)<(x.length:Int))=true:=g;rw[show decide ((x.length:Int)>4)=true from g,Bool.or_true]
    rfl
   rw[←e];exact f
  have p:¬(x.length:Int)<1:=λz=>p (Wx z);have o:¬(4:Int)<(x.length:Int):=λz=>o (Wx z);have u:x.cps.toList.length=x.length:=Qb
  obtain⟨c,r,B⟩:∃c r,x.cps.toList=c::r:=by
   cases e:x.cps.toList with
   |nil=>rw[e]at u;simp at u;lia
   |cons c r=>exact⟨c,r,rfl⟩
  have E:atI x.cps.toList 0=some c:=by rw[B];exact RW _ _
  have M:decide ((⟨#[c]⟩:Str) = "0")=decide (x.cps.toList.head?=some 48):=by
   rw[B];by_cases z:c=48
   ·subst z;rw[show(48::r).head?=some 48 from rfl,Wx rfl]
    decide +kernel
   ·rw[W9 (λh=>z (by have:=WG (λs:Str=>s.cps.toList) h;exact(List.cons.inj this).1))];exact(W9 λh=>z (Wv h)).symm
  have q:XT x=(!(decide (x.cps.toList.head?=some 48) && !decide (x=("0" : Str)))&&(x.cps.toList.map λc=>decide (c∈("0123456789" : Str).cps.toList)).all id):=by
   unfold XT;rw[W9 p,W9 o];rfl
  refine⟨l,c,E,?_⟩;show if decide ((⟨#[c]⟩:Str) = "0")=true then _ else _;rw[M];have C:x.cps.size<=4:=by have:x.cps.size=x.length:=rfl;lia
  have last:∀b:Bool,b=(x.cps.toList.map λc=>decide (c∈("0123456789" : Str).cps.toList)).all id->XT x=b->Pr [none] [some (.sh<|.str x)] (KD 0) Sy (p2 (Nd 0) (pC<|.str "0123456789") S8) x.cps.size (λi=>.sh (.str ⟨#[x.cps.getD i 0]⟩)) λs=>SU [s] R:=λb J L=>by
   refine HG (λi=>some (.bl<|decide (x.cps.getD i 0∈("0123456789" : Str).cps.toList))) (by lia) (λi Q=>?_) ?_
   ·exact⟨_,rfl,_,rfl,rfl⟩
   ·have e:(List.range x.cps.size).filterMap (λi=>some (D.bl<|decide (x.cps.getD i 0∈("0123456789" : Str).cps.toList)))=(x.cps.toList.map λc=>decide (c∈("0123456789" : Str).cps.toList)).map D.bl:=by
     rw[Q9,Qk];refine List.ext_getElem (by simp) λi A H=>?_;simp at A H ⊢;rw[WW A];rfl
    rw[e];refine⟨_,rfl,?_⟩;rw[←J,←L];exact f
  refine U2 (λg=>?_) (λg=>?_)
  ·show if (!decide (x=("0" : Str)))=true then _ else _;by_cases z:x=("0" : Str)
   ·rw[Wx z];refine UT ⟨y,last _ rfl ?_⟩;rw[q,Wx z,Bool.not_true,Bool.and_false];rfl
   ·rw[W9 z];refine Tc ?_;have e:XT x=false:=by rw[q,g,W9 z];rfl
    rw[←e];exact f
  ·refine UT ⟨y,last _ rfl ?_⟩;rw[q,Vz.mpr g,Bool.false_and];rfl
def OA(l:Def K mg "told_texts" Br ["texts"])
  : EU ζ:=by
 refine l.fz Hy (λo n=>(b1<|sR<|xI (tt<|xv 0) (xe (BD (K:=K) PySem.F.plainAttrs_str PySem.F.slot_str_join PySem.F.type_str_join (Hd (K:=K)) UI<|az<|pv 0)<|O5 UC<|Ug 0) xs)) (.a ?_)
 ·rintro p R X ⟨b,rfl,h,f⟩;refine⟨rfl,?_⟩;have g:(b.map D.str).isEmpty=decide (b=[]):=by cases b<;>simp
  show if (!(b.map D.str).isEmpty)=true then _ else _;rw[g];by_cases z:b=[]
  ·rw[Wx z];rw[Wr z]at f;exact UT f
  ·rw[W9 z];rw[Wq z]at f;exact Tc ⟨b,rfl,h,f⟩
def HH(l:Def K mg "_law_at" Ba ["_law_script","_law_k"])
  : BY ζ:=by
 refine l.fz MH (λo n=>(bc (sI (tc Kq KE (xv 1)<|xl G.len<|xv 0) (b1<|sR<|xx (xv 0)<|xv 1) b0)<|b1<|sR xi)) (.a ?_)
 ·rintro q R X ⟨b,k,rfl,h,f⟩;refine⟨rfl,?_⟩;refine U2 (λg=>?_) (λ_=>f 0);have p:k<(b.length:Int):=Ww g;exact⟨_,TM h (Wj<|show k.toNat<b.length by omega),f _⟩
def GO(f:Def K mg "_law_whole" Bt ["_law_found"])
  : AR ζ:=by
 refine f.fz Lo (λg n=>(b1<|sR<|xe (Tu (UE (KR (K:=K)) (by rfl) G.Zc WH<|bz (pv 0)<|XZ (v:=.ty "int") rfl G.ZZ boot_int rfl)<|BF<|Rx<|UE (KR (K:=K)) (by rfl) G.Zc WH<|bz (pv 0)<|XZ (v:=.ty "bool") rfl G.Yb boot_bool rfl)<|T4 (KY<|tz (Ug 0) Kw)<|Rw<|KY<|tz (Ug 0) Kw)) (.a ?_)
 ·rintro h R X ⟨i,rfl,b⟩;refine⟨rfl,?_⟩;exact⟨_,.same _,_,.ib,b⟩
def I0(f:Def K mg "_law_mix" BH ["_law_cell","_law_place"])
  : Ds ζ:=by
 refine f.fz Rr (λg n=>(bc (sS 2 n<|xo UQ US (xo Tg PZ (xo XD XC (xo XD XC (xo UQ US (xv 0) xi)<|xo Tg PZ xi<|xv 1) xi) xi) xi)<|b1<|sR<|xo UQ US (xo Tg PZ (xo XD XC (xo XD XC (xv 2)<|xo Tg PZ xi<|xv 1) xi) xi) xi)) (.a ?_)
 ·rintro h R X ⟨c,p,rfl,b⟩;refine⟨rfl,?_⟩;exact⟨(by show(0:Int)<2147483647;decide),.inl ⟨by decide,by decide⟩,.inr ⟨by decide,by decide⟩,(by show(0:Int)<2147483647;decide),.inl ⟨by decide,by decide⟩,.inr ⟨by decide,by decide⟩,(by show(0:Int)<2147483647;decide),b _⟩
def MY(z:Def K mg "_law_menu" Bl ["_law_cell"])
  : DG ζ:=by
 refine z.fz GC (λA n=>(bc (sS 1 n<|xx (xL<|ac xi<|ac xi<|ac xi<|ac xi<|ac xi a0)<|xo UQ US (xo Xw X1 (xv 0) xi) xi)<|bc (sS 2 n<|xx (xL<|ac xi<|ac xi<|ac xi<|ac xi<|ac xi a0)<|xo UQ US (xo Xw X1 (xv 0) xi) xi)<|b1<|sF 2<|sF 1<|sR<|xL<|ac (xo XD XC xi<|xo UQ US (xv 0) xi)<|ac (xx (xL<|ac xi<|ac xi<|ac xi<|ac xi a0)<|xo UQ US (xo Xw X1 (xv 0) xi) xi)<|ac (xo UQ US (xo Xw X1 (xv 0) xi) xi)<|ac (xv 1)<|ac (xv 2) a0)) (.a ?_)
 ·rintro B R X ⟨c,rfl,u⟩;refine⟨rfl,?_⟩;have p:0<=c / 10 % 4/\c / 10 % 4<4:=by lia
  have o:0<=c / 400 % 5/\c / 400 % 5<5:=by lia
  have s:∀v∈([1,3,7,9]:Yq),1<=v/\v<=9/\(v=1\/v=3\/v=7\/v=9):=by decide
  have g:∀i:Int,0<=i->i<5->∃d e:Int,atI [D.int 1000,.int 3,.int 1,.int 2,.int 3] i=some (.int d)/\atI [D.int 1,.int 1,.int 1,.int 1,.int 998] i=some (.int e)/\(1<=d/\d<=1000)/\1<=e/\e+d<=1001:=λi a b=>by
   have:i=0\/i=1\/i=2\/i=3\/i=4:=by lia
   rcases this with rfl|rfl|rfl|rfl|rfl
   ·exact⟨1000,1,rfl,rfl,by decide,by decide,by decide⟩
   ·exact⟨3,1,rfl,rfl,by decide,by decide,by decide⟩
   ·exact⟨1,1,rfl,rfl,by decide,by decide,by decide⟩
   ·exact⟨2,1,rfl,rfl,by decide,by decide,by decide⟩
   ·exact⟨3,998,rfl,rfl,by decide,by decide,by decide⟩
  obtain⟨d,e,y,x,r,q⟩:=g _ o.1 o.2;have h:=s _ (WI (l:=([1,3,7,9]:Yq)) (n:=(c / 10 % 4).toNat)<|by show(c / 10 % 4).toNat<4;lia);refine⟨by simp,⟨by decide,by decide⟩,(by show(0:Int)<5;decide),_,y,by simp,⟨by decide,by decide⟩,(by show(0:Int)<5;decide),_,x,(by show(0:Int)<10;decide),by simp,⟨by decide,by decide⟩,(by show(0:Int)<4;decide),_,CK (f:=D.int) (xs:=[1,3,7,9]) p.1 p.2,⟨by decide,by decide⟩,(by show(0:Int)<10;decide),by simp,?_⟩;exact u [_,_,_,_,_] ⟨_,_,_,_,_,rfl,by lia,h,by lia,r,q⟩
def OC(h:Def K mg "_law_holder" N4 ["_law_menu_here","_law_k"])
  : Cw ζ:=by
 refine h.fz II (λl n=>(b1<|sR<|xo XD XC xi<|xo UQ US (xo XD XC (xo Tg PZ (xv 1)<|xx (xv 0) xi)<|xx (xv 0) xi) xi)) (.a ?_)
 ·rintro u R X ⟨m,k,rfl,g,f⟩;refine⟨rfl,?_⟩;obtain⟨a,b,c,d,e,rfl,s,r,q,p,o⟩:=g;exact⟨_,rfl,.inr ⟨by lia,by lia⟩,_,rfl,(by show(0:Int)<10;decide),f _ (by lia) (by lia) rfl⟩
def Lh(l:Def K mg "_law_spoiled" NO ["_law_strip","_law_cell"])
  : F4 ζ:=by
 refine l.fz Lx (λp n=>(bc (sS 2 n<|xx (xL<|ac xi<|ac (xe (Kr Ks UA)<|KA Uo)<|ac xi<|ac (xo FP FH xi xi)<|ac xi<|ac xi a0)<|xo UQ US (xo Xw X1 (xv 1) xi) xi)<|bc (sS 3 n<|xx (xL<|ac xi<|ac (xe (Kr Ks UA)<|KA Uo)<|ac xi<|ac (xo FP FH xi xi)<|ac xi<|ac xi a0)<|xo UQ US (xo Xw X1 (xv 1) xi) xi)<|b1<|sF 3<|sF 2<|sR<|xx (xL<|a2 (xt<|a2 (xv 2)<|xx (xv 0) xi)<|xt<|a2 (xx (xv 0) xi)<|xv 3)<|xo UQ US (xv 1) xi)) (.a ?_)
 ·rintro q R X ⟨h,w,c,rfl,b⟩;refine⟨rfl,?_⟩;have b1:0<=c / 2 % 6/\c / 2 % 6<6:=by lia
  obtain⟨o,g⟩:=An (xs:=[0,-1,11,10 ^ (30:Int).toNat,1,10]) b1.1 b1.2;obtain⟨u,f⟩:=An (xs:=[0,-1,1001,10 ^ (30:Int).toNat,1,1000]) b1.1 b1.2;refine⟨⟨by decide,by decide,by decide⟩,by simp,⟨by decide,by decide⟩,(show(0:Int)<6 by decide),_,g,?_⟩;refine⟨⟨by decide,by decide,by decide⟩,by simp,⟨by decide,by decide⟩,(show(0:Int)<6 by decide),_,f,?_⟩;refine⟨_,rfl,by simp,_,rfl,by simp,by simp,(show(0:Int)<2 by decide),?_⟩;rcases(by lia:c % 2=0\/c % 2=1)with e|e
  ·exact⟨_,(by rw[e];rfl),b o w⟩
  ·exact⟨_,(by rw[e];rfl),b h u⟩
def IV(y:Def K mg "_law_due" Sl ["_law_strips_here"])
  : Cv ζ:=by
 refine y.fz Ib (λB n=>(bc (sI (tc X5 XB (xl G.len<|xv 0) xi) (b1<|sR<|xL<|ac xb<|ac xb<|ac xb<|ac xb a0) b0)<|bc (sF 0<|sO [1,2] WU (iL<|xv 0) (gT 2<|gc (gN 1)<|gc (gN 2) g0)<|bc (sI (tp<|wo (tc Kq KE (xv 1) xi)<|wO<|tc X5 XB (xv 1) xi) (b1<|sR<|xL<|ac xb<|ac xb<|ac xb<|ac xb a0) b0)<|b1<|sI (tp<|wo (tc Kq KE (xv 2) xi)<|wO<|tc X5 XB (xv 2) xi) (b1<|sR<|xL<|ac xb<|ac xb<|ac xb<|ac xb a0) b0)<|b1<|sR<|xL a0)) (.a ?_)
 ·rintro H R X ⟨f,rfl,A,l⟩;refine⟨rfl,?_⟩;have C:(f.map prD).length=f.length:=Wk ..;refine U2 (λg=>?_) (λg=>?_)
  ·have v:(40:Int)<((f.map prD).length:Int):=Ww g;rw[Pz (by unfold U4;rw[Wr (by lia)])]at l;exact⟨by simp,l⟩
  ·have v:¬(40:Int)<((f.map prD).length:Int):=λz=>g (Wx z);have s:U4 f=Xe f:=by unfold U4;rw[Wq (by lia)]
   refine⟨rfl,PX (xs:=f) (emb:=prD) (λi r=>r=[some (.bor<|plD f),none,none]/\Xe (f.drop i)=Xe f) ⟨rfl,rfl⟩ ?_ ?_⟩
   ·rintro i u r ⟨rfl,h⟩;have x:f.drop i=f[i]::f.drop (i+1):=Q3 u;rw[x,Cz]at h;generalize f[i]=p at h ⊢
    have q:¬(1<=p.1/\p.1<=10)->R (.own (([true,false,true,false]:List Bool).map D.bl)):=λc=>by
     rw[Wr c]at h;rw[P3 (s.trans h.symm)]at l;exact l
    refine⟨rfl,U2 (λa=>⟨by simp,q λz=>?_⟩) λa=>U2 (λb=>⟨by simp,q λz=>?_⟩) λb=>?_⟩
    ·have:=Ww a
     lia
    ·have:=Ww b
     lia
    have M:¬p.1<1:=λz=>a (Wx z);have L:¬10<p.1:=λz=>b (Wx z);rw[Wq (λz=>z ⟨by lia,by lia⟩)]at h
    have o:¬(1<=p.2/\p.2<=1000)->R (.own (([true,false,false,true]:List Bool).map D.bl)):=λc=>by
     rw[Wr c]at h;rw[P4 (s.trans h.symm)]at l;exact l
    refine U2 (λd=>⟨by simp,o λz=>?_⟩) λd=>U2 (λe=>⟨by simp,o λz=>?_⟩) λe=>?_
    ·have:=Ww d
     lia
    ·have:=Ww e
     lia
    have J:¬p.2<1:=λz=>d (Wx z);have E:¬1000<p.2:=λz=>e (Wx z);rw[Wq (λz=>z ⟨by lia,by lia⟩)]at h;exact⟨rfl,h⟩
   ·rintro r ⟨rfl,h⟩;rw[Vf]at h;rw[Py (s.trans h.symm)]at l;exact⟨by simp,l⟩
def RD(v:Def K mg "check_strips" B7 ["strips"])
  : Ah ζ:=by
 refine v.fy Oh (λq n=>(bc (sI (tc X5 XB (xl G.len<|xv 0)<|xe (ExcR.Xm G.ZI) Uo) (b1<|sQ G.Zb G.Zg ExcR.Kt<|a1<|xe (ExcR.Pn<|ExcR.XO<|ExcR.K8 (ExcR.Xm G.ZI)<|ExcR.XO ExcR.Pm)<|Pd<|XQ<|KC Uo<|XQ Pi) b0)<|b1<|sF 0<|sO [1,2] ExcR.IY (iL<|xv 0) (gT 2<|gc (gN 1)<|gc (gN 2) g0)<|bc (sE<|xg YA q ExcR.Kh<|a1<|xv 1)<|b1<|sE<|xg YE q ExcR.Kh<|a1<|xv 2)) (.a ?_)
 ·rintro A R X ⟨b,rfl,x,h⟩;refine⟨rfl,?_⟩;have y:(b.map prD).length=b.length:=Wk ..;unfold U4 at h;refine U2 (λg=>?_) (λg=>?_)
  ·have s:(40:Int)<((b.map prD).length:Int):=Ww g;rw[Wr (by lia)]at h;exact⟨by decide,by decide,by decide,by decide,by decide,by simp,h⟩
  ·have s:¬(40:Int)<((b.map prD).length:Int):=λz=>g (Wx z);rw[Wq (by lia)]at h;refine⟨rfl,PX (xs:=b) (emb:=prD) (λi l=>l=[some (.bor<|plD b),none,none]/\Xe (b.drop i)=Xe b) ⟨rfl,rfl⟩ ?_ ?_⟩
   ·rintro i r l ⟨rfl,f⟩;have u:b.drop i=b[i]::b.drop (i+1):=Q3 r;rw[u,Cz]at f;generalize b[i]=p at f ⊢;refine⟨rfl,p.1,rfl,?_⟩;unfold Tj;by_cases c:1<=p.1/\p.1<=10
    ·rw[Wq (λz=>z c)]at f;rw[Wr c];refine⟨p.2,rfl,?_⟩;unfold Sr;by_cases o:1<=p.2/\p.2<=1000
     ·rw[Wq (λz=>z o)]at f;rw[Wr o];exact⟨rfl,f⟩
     ·rw[Wr o]at f;rw[Wq o];rw[←f]at h;exact h
    ·rw[Wr c]at f;rw[Wq c];rw[←f]at h;exact h
   ·rintro l ⟨rfl,f⟩;rw[Vf]at f;rw[←f]at h;exact h
def MD(DD:Def K mg "ring_from" NT ["least","holders","wishes"])
  : E8 ζ:=by
 refine DD.fz ML (λH n=>(bc (sF 0<|sS 3 n<|xL<|a1<|xL<|a1<|xv 0)<|bc (sS 4 n<|xe (UE (Ay (K:=K) (w:=w) rfl) (by rfl) G.ZC boot_sorted<|az<|cz ["holder","least"] [none,some 0] (KM (K:=K)<|pv 1) ⟨(gk 0),(Fq<|XJ X5 (pv 0) (pv 1)<|Ke _),(pv 0)⟩)<|EM<|sz<|PK (NG<|Ug 1) (XI 0) (X0<|XB (Ug 0)<|Ug 1)<|Ug 0)<|bc (sW [5,6] WU (tt<|xv 3)<|bc (sF 0<|sC 5 ["path","wishes","least"] [none,some 2,some 0] n (jL<|xv 3) (gN 0) (f1<|ti H (xt<|a2 (xx (xv 0)<|xe (Kr Ks UA)<|KA Uo)<|xv 2)<|xv 1)<|xv 0)<|bc (sI (tt<|xv 5) (b1<|sr<|xx (xv 5) xi) b0)<|bc (sS 3 n<|xf YG H<|a3 (xv 3) (xv 4)<|xv 2)<|bc (sS 6 n<|xC ["path"] [none] (jL<|xv 3) (gN 0) f0<|xx (xv 0)<|xe (Kr Ks UA)<|KA Uo)<|b1<|sC 4 ["holder","reached"] [none,some 6] n (jL<|xv 4) (gN 0) (f1<|tI H (xv 0)<|xv 1)<|xv 0)<|b1<|sr<|xL a0)) (.a ?_)
 ·rintro ds R X ⟨l,s,B,rfl,hz,hN,hR⟩;refine⟨rfl,by simp,by simp,Kj (xs:=s) (emb:=D.int) (λh=>if decide (l<h)=true then some (.int h)else none) (by lia) (λh _=>U2 (λg=>⟨_,rfl,Wr g⟩) (λg=>Wq g)) ?_⟩;rw[Ea λh=>decide (l<h)];refine⟨s.filter λh=>decide (l<h),rfl,QT (QC _ _) (by lia),λb r T=>?_⟩
  have y:∀h∈b,Gr s l h:=λh z=>by
   rw[r.mem_iff,QO,V0]at z;exact z
  have C:b.length<=s.length:=by
   rw[r.length_eq];exact QC _ _
  refine G3 (λA=>∃k f b,A=[some (.sh<|.int l),some (.bor<|.lst<|s.map D.int),some (.bor<|.lst<|B.map prD),some (.own<|f.map<|em l),some (.own<|b.map D.int),none,none]/\(∀p∈f,p.length=k/\Path (Gr s l) B l p)/\(∀h∈b,Gr s l h)/\f.length<=60/\b.length<=s.length/\(k+b.length<=s.length\/(f=[]/\k<=s.length+1)))
   (λQ=>2*EK 4 Q+min 1 (EK 3 Q)) ⟨0,[[]],b,rfl,(λp z=>by rw[Wm.mp z];exact⟨rfl,trivial⟩),y,by simp,C,.inl (by lia)⟩ ?_
  rintro A ⟨k,f,b,rfl,L,y,U,hll,hk⟩;have N:(!(f.map<|em l).isEmpty)=decide (f≠[]):=by cases f<;>simp
  show if (!(f.map<|em l).isEmpty)=true then _ else _;rw[N];refine U2 (λg=>?_) (λg=>?_)
  ·have v:f≠[]:=Ww g;have hk':k+b.length<=s.length:=hk.elim id λz=>absurd z.1 v;have J:∀p∈f,p.length<=60:=λp r=>by rw[(L p r).1];lia
   have Y:∀p∈f,(Uq l p,l)∉B:=λp r z=>hN p ⟨(L p r).2,z⟩;refine Kj (xs:=f) (emb:=em l) (λ_=>none) (by lia) (λp r=>⟨_,BJ l p,by simp,_,.lp (Uq l p,l) B,U2 (λg=>absurd (Ww g) (Y p r)) (λg=>rfl)⟩) ?_;have e0:f.filterMap (λ_=>(none:Option D))=[]:=by simp
   rw[e0];refine⟨l,f,b,B,rfl,λp r=>Wy (J p r) (by decide),by lia,λo G hlg=>?_⟩;refine Kj (xs:=o) (emb:=em l) (λp=>some (.int<|Uq l p)) (by lia) (λp _=>⟨_,BJ l p,_,rfl,rfl⟩) ?_;have e1:o.filterMap (λp=>some (D.int<|Uq l p))=(o.map<|Uq l).map D.int:=by rw[Q9,Qk];rfl
   rw[e1];refine Kj (xs:=b) (emb:=D.int) (λh=>if decide (¬h∈o.map (Uq l))=true then some (.int h)else none) (by lia) (λh _=>⟨_,.li h _,?_⟩) ?_
   ·by_cases c:h∈o.map (Uq l)
    ·simp only[Wx c];exact UT (Wq<|by simp[c])
    ·simp only[W9 c];exact Tc ⟨_,rfl,Wr (by simp[c])⟩
   rw[Ea λh=>decide (¬h∈o.map (Uq l))];have E:=QC (λh=>decide (¬h∈o.map (Uq l))) b
   have u:o≠[]->(b.filter λh=>decide (¬h∈o.map (Uq l))).length<b.length:=λv=>by
    obtain⟨q,hq⟩:=List.exists_mem_of_ne_nil o v
    have y:Uq l q∈b:=by
     obtain⟨p,_,x,hx,rfl,_⟩:=G q hq;rw[Ko];exact hx
    refine Nat.lt_of_le_of_ne E λz=>?_
    have:=List.filter_eq_self.mp (List.Sublist.eq_of_length (List.filter_sublist (l:=b)) z) (Uq l q) y
    rw[V0]at this;exact this (QN hq)
   refine⟨⟨k+1,o,_,rfl,λq hq=>?_,λh hh=>y h (QO.mp hh).1,by lia,by lia,?_⟩,?_⟩
   ·obtain⟨p,r,x,hx,rfl,hw⟩:=G q hq;exact⟨by rw[WB,(L p r).1];rfl,path_app.mpr ⟨(L p r).2,y x hx,hw,trivial⟩⟩
   ·by_cases c:o=[]
    ·exact .inr ⟨c,by lia⟩
    ·have:=u c
     exact .inl (by lia)
   ·show 2*((b.filter λh=>decide (¬h∈o.map (Uq l))).map D.int).length+min 1 (o.map<|em l).length<2*(b.map D.int).length+min 1 (f.map<|em l).length;rw[Wk,Wk,Wk,Wk]
    have:0<f.length:=List.length_pos_iff.mpr v
    by_cases c:o=[]
    ·rw[c];rw[c]at E;simp only[List.length_nil];lia
    ·have:=u c
     lia
  ·have M:f=[]:=QR λz=>g (Wx z);subst M;exact⟨by simp,hR⟩
def Za6(x:Def K mg "with_wish" N8 ["wishes","ahead","behind"])
  : Di ζ:=by
 refine x.fy HC (λl n=>(bc (sE<|xg YA l ExcR.Kh<|a1<|xv 1)<|bc (sE<|xg YA l ExcR.Kh<|a1<|xv 2)<|bc (sI (tq l (xv 1)<|xv 2) (b1<|sQ G.ZG G.Z1 ExcR.Kt<|a1 xs) b0)<|bc (sI (ti l (xt<|a2 (xv 1)<|xv 2)<|xv 0) (b1<|sQ G.ZM G.Z4 ExcR.Kt<|a1 xs) b0)<|bc (sI (tc CU D1 (xl G.len<|xv 0)<|xe (ExcR.Xm G.Z5) Uo) (b1<|sQ G.ZE G.Z0 ExcR.Kt<|a1<|xe (ExcR.Pn<|ExcR.XO<|ExcR.K8 (ExcR.Xm G.Z5)<|ExcR.XO ExcR.Pm)<|Pd<|XQ<|KC Uo<|XQ Pi) b0)<|b1<|sF 2<|sF 1<|sR<|xo CC Ft (xv 0)<|xL<|a1<|xt<|a2 (xv 1)<|xv 2)) (.a ?_)
 ·rintro y R X ⟨h,a,b,rfl,u,f⟩;refine⟨rfl,?_⟩;have v:(h.map prD).length=h.length:=Wk ..;unfold TQ at f;refine⟨a,rfl,?_⟩;unfold Tj;by_cases p:1<=a/\a<=10
  ·rw[Wq (λz=>z p)]at f;rw[Wr p];refine⟨b,rfl,?_⟩;unfold Tj;by_cases o:1<=b/\b<=10
   ·rw[Wq (λz=>z o)]at f;rw[Wr o];refine U2 (λg=>?_) (λg=>?_)
    ·rw[Wr (Ww g)]at f;exact⟨by simp,f⟩
    ·rw[Wq (λz=>g (Wx z))]at f;refine⟨by simp,_,.lp (a,b) h,U2 (λs=>?_) (λs=>?_)⟩
     ·rw[Wr (Ww s)]at f;exact⟨by simp,f⟩
     ·rw[Wq (λz=>s (Wx z))]at f;refine U2 (λr=>?_) (λr=>?_)
      ·have q:(20:Int)<=((h.map prD).length:Int):=Ww r;rw[Wr (by lia)]at f;exact⟨by decide,by decide,by decide,by decide,by decide,by simp,f⟩
      ·have q:¬(20:Int)<=((h.map prD).length:Int):=λz=>r (Wx z);rw[Wq (by lia)]at f;refine⟨by simp,by simp,Kz _,rfl,Wy (Nat.add_le_add (Wy (Qr v) u)<|Wp 1) (by decide),?_⟩;rw[WE]at f;exact f
   ·rw[Wr o]at f;rw[Wq o];exact f
  ·rw[Wr p]at f;rw[Wq p];exact f
def On(h:Def K mg "is_row" Sa ["word","texts"])
  : Eo ζ:=by
 refine h.fz Ol (λb n=>(bc (sI (tN<|tt<|xe (UE (Am (K:=K) rfl) (by rfl) G.ZY boot_all<|az<|cz ["text"] [none] (KM (K:=K)<|pv 1) ⟨(gk 0),Nw,(fz YK (b ())<|az<|pv 0)⟩)<|F9<|sz<|PK (NG<|Ug 1) (XI 0) N2<|Kg<|sz<|Ug 0) (b1<|sR xb) b0)<|bc (sI (te (T8<|NU G.ZO<|pv 0)<|TB<|By<|Ug 0) (b1<|se UV UX) b0)<|bc (sI (te (T8<|NU G.ZL<|pv 0)<|TB<|By<|Ug 0) (b1<|sR<|xe (E2 (F6 (K:=K)<|show _<cLine from(b ()).units0) (GD G.ZL (pv 0) (λ_ _=>rfl)) (ln K G.len<|pv 1)<|Ke _)<|DY (LP<|Ug 0)<|Na<|sz<|Ug 1) b0)<|b1<|se UV UX)) (.a ?_)
 ·rintro l R X ⟨rfl,g⟩;refine⟨rfl,?_⟩;refine Kj (xs:=([]:Yq)) (emb:=λn=>D.str (nS n)) (λn=>some (.bl true)) (by simp) (λn f=>by cases f) ?_;exact⟨[],rfl,UT ⟨_,rfl,g⟩⟩
def IR(H:Def K mg "told_strips" NZ ["strips"])
  : AQ ζ:=by
 refine H.fz Ht (λA n=>(b1<|sR<|xf YL A<|a1<|xC ["holder","width"] [none,none] (jL<|xv 0) (gT 2<|gc (gN 0)<|gc (gN 1) g0) f0<|xe (ExcR.Pn<|ExcR.K8 (pv 0)<|ExcR.XO<|ExcR.K8 (pv 1) ExcR.Pm)<|Pd<|KC (Ug 0)<|XQ<|KC (Ug 1) Pi)) (.a ?_)
 ·rintro M R X ⟨f,rfl,J,hw,C⟩;refine⟨rfl,?_⟩
  have l:∀n:Int,0<=n/\n<=1000->n.natAbs.log2<1920/\(nS n).length<=4:=λn h=>⟨by
   by_cases z:n.natAbs=0
   ·rw[z];decide
   ·exact Wz ((Nat.log2_lt z).mpr (QT (show n.natAbs<=1000 by lia)<|show 1000<2 ^ 10 by decide)) (by decide),(Mx h.1<|by lia).2.1⟩
  have g:∀a b:Str,(a++b).length=a.length+b.length:=λa b=>by
   show(a.cps++b.cps).size=_;rw[Array.size_append];rfl
  have s:∀q∈f,(txS q).length<=9:=λq hq=>by
   have r:=(l q.1 (hw q hq).1).2;have p:=(l q.2 (hw q hq).2).2;unfold txS;rw[g,g,show(":" : Str).length=1 by decide +kernel];lia
  refine Kj (xs:=f) (emb:=prD) (λq=>some (.str<|txS q)) (by lia) (λq hq=>?_) ?_
  ·have r:=l q.1 (hw q hq).1;have p:=l q.2 (hw q hq).2;have L:(1000:Nat)<=sizeLine:=by decide
   have v:(Str.empty++nS q.1).length<=sizeLine:=by rw[QJ];lia
   have u:(Str.empty++nS q.1++":").length<=sizeLine:=by rw[QJ,g,show(":" : Str).length=1 by decide +kernel];lia
   have o:(Str.empty++nS q.1++":"++nS q.2).length<=sizeLine:=by rw[QJ,g,g,show(":" : Str).length=1 by decide +kernel];lia
   refine⟨rfl,r.1,v,u,p.1,o,o,_,rfl,?_⟩;show some (D.str<|txS q)=some (D.str (Str.empty++nS q.1++":"++nS q.2));rw[QJ];rfl
  have em:f.filterMap (λq=>some (D.str<|txS q))=(f.map txS).map D.str:=by rw[Q9,Qk];rfl
  rw[em]
  have E:JoinOk spc (f.map txS)=true:=by
   unfold JoinOk;rw[StrLaws.joinFits (B:=9) (λy x=>by obtain⟨q,hq,rfl⟩:=WT.mp x;exact s q hq) (by rw[Wk,show spc.length=1 from rfl];lia)]
   rfl
  refine⟨_,rfl,E,?_⟩
  have e:(if f.map txS=[]then("none" : Str)else Txt.join spc (f.map txS))=XH f:=by
   unfold XH;by_cases z:f=[]
   ·rw[z];rfl
   ·rw[Wq z,Wq (λy=>z (List.map_eq_nil_iff.mp y))]
  rw[e];exact C
def RX(h:Def K mg "_law_draw" N3 ["_law_script","_law_k"])
  : F3 ζ:=by
 refine h.fz G5 (λb n=>(bc (sI (tq b (xo UQ US (xf Y6 b<|a2 (xv 0) xi) xi) xi) (b1<|sR<|xf Y6 b<|a2 (xv 0)<|xo XD XC xi<|xv 1) b0)<|b1<|sR<|xf YM b<|a2 (xf Y6 b<|a2 (xv 0) xi)<|xv 1)) (.a ?_)
 ·rintro o R X ⟨f,k,rfl,l,g⟩;refine⟨rfl,f,0,rfl,by decide,λv=>⟨(by show(0:Int)<2;decide),U2 (λ_=>?_) (λ_=>?_)⟩⟩
  ·exact⟨f,_,rfl,by omega,λv=>g v⟩
  ·exact⟨f,1,rfl,by decide,λu=>⟨_,_,rfl,λv=>g v⟩⟩
def Ma(u:Def K mg "_law_row" Bc ["_law_found","_law_due_here"])
  : D3 ζ:=by
 refine u.fz Zam (λh n=>(bc (sI (tp<|wo (tN<|tt<|xe (UE (KR (K:=K)) (by rfl) G.Zc WH<|bz (pv 0)<|XZ (v:=.ty "list") rfl G.Zx boot_list rfl)<|KY<|tz (Ug 0) Kw)<|wO<|tn h (xl G.len<|xv 0)<|xl G.len<|xv 1) (b1<|sR xb) b0)<|bc (sO [2] WU (ir G.Z2<|a1<|xl G.len<|xv 1) (gN 2)<|b1<|sI (tp<|wo (tN<|tt<|xf YC h<|a1<|xx (xv 0)<|xv 2)<|wO<|tn h (xx (xv 0)<|xv 2)<|xx (xv 1)<|xv 2) (b1<|sR xb) b0)<|b1<|sR xb)) (.a ?_)
 ·rintro y R X ⟨xs,rfl|rfl,x,s⟩;refine⟨rfl,?_⟩
  ·have q:(xs.map D.int).length=xs.length:=Wk ..;refine⟨_,.same _,UT (Ph rfl ?_)⟩;refine⟨⟨by lia,by lia⟩,PB (λi b=>b=[some (.bor<|.lst<|xs.map D.int),some (.bor<|.lst<|xs.map D.int),none]) rfl ?_ ?_⟩
   ·rintro i b p rfl;have o:i<(((xs.map D.int).length:Nat):Int).toNat:=p;have ez:(0:Int)+(i:Int)=(i:Int):=by lia
    have g:i<xs.length:=by lia
    have f:atI (xs.map D.int) (0+(i:Int))=some (.int xs[i]):=by rw[ez];exact BI g
    exact⟨_,f,_,rfl,UT ⟨_,f,_,f,Ph rfl rfl⟩⟩
   ·rintro b rfl;exact s
  ·refine⟨rfl,?_⟩;have q:(xs.map D.int).length=xs.length:=Wk ..;have l:((xs.length:Nat):Int)=(((xs.map D.int).length:Nat):Int):=by rw[q]
   refine⟨_,.same _,UT (Ph l ?_)⟩;refine⟨⟨by lia,by lia⟩,PB (λi b=>b=[some (.sh<|.fL xs),some (.bor<|.lst<|xs.map D.int),none]) rfl ?_ ?_⟩
   ·rintro i b p rfl;have o:i<(((xs.map D.int).length:Nat):Int).toNat:=p;have ez:(0:Int)+(i:Int)=(i:Int):=by lia
    have g:i<xs.length:=by lia
    have f:atI (xs.map D.int) (0+(i:Int))=some (.int xs[i]):=by rw[ez];exact BI g
    have r:atI xs (0+(i:Int))=some xs[i]:=by rw[ez];exact NY (Wj g)
    exact⟨_,r,_,rfl,UT ⟨_,r,_,f,Ph rfl rfl⟩⟩
   ·rintro b rfl;exact s
def MQ(y:Def K mg "_law_tuples" B3 ["_law_found","_law_due_here"])
  : As ζ:=by
 refine y.fz Md (λh n=>(bc (sI (tp<|wo (tN<|tt<|xe (UE (KR (K:=K)) (by rfl) G.Zc WH<|bz (pv 0)<|XZ (v:=.ty "list") rfl G.Zx boot_list rfl)<|KY<|tz (Ug 0) Kw)<|wO<|tn h (xl G.len<|xv 0)<|xl G.len<|xv 1) (b1<|sR xb) b0)<|bc (sO [2,3] WU (ir G.Z2<|a1<|xl G.len<|xv 1) (gN 2)<|bc (sI (tp<|wo (tN<|tt<|xe (UE (KR (K:=K)) (by rfl) G.Zc WH<|bz (jx K (pv 0)<|pv 2)<|XZ (v:=.ty "tuple") rfl G.Ya boot_tuple rfl)<|KY<|tz (Nb (Ug 0)<|Ug 2) Kw)<|wO<|tn h (xl G.len<|xx (xv 0)<|xv 2)<|xl G.len<|xx (xv 1)<|xv 2) (b1<|sR xb) b0)<|b1<|sO [3] WU (ir G.Z2<|a1<|xl G.len<|xx (xv 1)<|xv 2) (gN 3)<|b1<|sI (tp<|wo (tN<|tt<|xf YC h<|a1<|xx (xx (xv 0)<|xv 2)<|xv 3)<|wO<|tn h (xx (xx (xv 0)<|xv 2)<|xv 3)<|xx (xx (xv 1)<|xv 2)<|xv 3) (b1<|sR xb) b0)<|b1<|sR xb)) (.a ?_)
 ·rintro C R X ⟨f,rfl,A,x⟩;refine⟨rfl,?_⟩;have B:(f.map prD).length=f.length:=Wk ..;refine⟨_,.same _,UT (Ph rfl ?_)⟩;refine⟨⟨by lia,by lia⟩,PB (λi b=>∃t,b=[some (.bor<|.lst<|f.map prD),some (.bor<|.lst<|f.map prD),none,t]) ⟨_,rfl⟩ ?_ ?_⟩
  ·rintro i b s ⟨t,rfl⟩;have r:i<(((f.map prD).length:Nat):Int).toNat:=s;have ez:(0:Int)+(i:Int)=(i:Int):=by lia
   have u:i<f.length:=by lia
   have g:atI (f.map prD) (0+(i:Int))=some (prD f[i]):=by rw[ez];exact BI u
   generalize f[i]=q at g;refine⟨_,g,_,.same _,UT ⟨_,g,_,g,?_⟩⟩;refine⟨_,g,⟨(by show -(2 ^ 62)<=(2:Int);decide),(by show(2:Int)<2 ^ 62;decide)⟩,PB (λj b=>∃t,b=[some (.bor<|.lst<|f.map prD),some (.bor<|.lst<|f.map prD),some (.sh<|.int (0+(i:Int))),t]) ⟨_,rfl⟩ ?_ ?_⟩
   ·rintro j b p ⟨t,rfl⟩;have o:j<2:=p
    obtain⟨z,l⟩:∃z:Int,atI [D.int q.1,D.int q.2] (0+(j:Int))=some (.int z):=by
     have:j=0\/j=1:=by lia
     rcases this with rfl|rfl
     ·exact⟨_,rfl⟩
     ·exact⟨_,rfl⟩
    exact⟨_,g,_,l,z,rfl,UT ⟨_,g,_,l,_,g,_,l,Ph rfl ⟨_,rfl⟩⟩⟩
   ·rintro b ⟨t,rfl⟩;exact⟨_,rfl⟩
  ·rintro b ⟨t,rfl⟩;exact x
def Ll(y:Def K mg "find_ring" SR ["holders","wishes"])
  : DB ζ:=by
 refine y.fz HY (λr n=>(bc (sS 2 n<|xL a0)<|bc (sO [3,4] WU (iL<|xe (UE (Ay (K:=K) (w:=w) rfl) (by rfl) G.ZC boot_sorted<|az<|pv 0)<|EM<|sz<|Ug 0) (gN 3)<|bc (sS 4 n<|xf YT r<|a3 (xv 3) (xv 0)<|xv 1)<|b1<|sI (tp<|wa (tt<|xv 4)<|wA<|tp<|wo (tN<|tt<|xv 2)<|wO<|tc Kq KE (xl G.len<|xv 4)<|xl G.len<|xv 2) (b1<|sF 4<|sS 2 n<|xv 4) b0)<|b1<|sV 2)) (.a ?_)
 ·rintro z R X ⟨g,h,rfl,q,x,v⟩;refine⟨rfl,by simp,g,rfl,by lia,λf s o=>?_⟩;refine⟨rfl,PX (xs:=f) (emb:=D.int) (λi b=>b=[some (.bor<|.lst<|g.map D.int),some (.bor<|.lst<|h.map prD),some (.own<|.lst []),none,none]) rfl ?_ ?_⟩
  ·rintro i u b rfl;have p:=x f[i] (s.mem_iff.mp<|WI u);generalize f[i]=l at p ⊢;exact⟨l,g,h,rfl,q,p,rfl⟩
  ·rintro b rfl;exact v
def Ot(r:Uw K (Mk K<|Up ζ) "__init__" "Village.__init__" Bv ["self","strips"])
  : Fp ζ:=by
 refine r.fy Hg (λl n=>(bc (sE<|xg YS l ExcR.Kh<|a1<|xv 1)<|bc (se (N9 (pv 0) (Xk Xf) rfl)<|BC 0 G.Za G.Zf La<|X2 UO)<|bc (se (N9 (pv 0) (Xk<|az<|Kp (To (K:=K)) (by rfl) G.Zx boot_list<|az<|pv 1) rfl)<|BC 0 G.Za G.Zn LF<|X2<|sz<|P7<|sz<|Ug 1)<|b1<|se (N9 (pv 0) (Xk<|az<|Xk Xf) rfl)<|BC 0 G.Za G.Zo R3<|X2<|sz<|X2 UO)) (.c ?_)
 ·rintro o s R X ⟨x,g,rfl,⟨u,rfl,f⟩,h,b⟩;refine⟨rfl,?_⟩;rcases f with rfl|rfl
  all_goals
   refine⟨g,rfl,h,?_⟩;cases e:U4 g with
   |some c=>
    rw[e]at b;exact⟨_,rfl,⟨rfl,by simp⟩,b⟩
   |none=>
    rw[e]at b;refine⟨by simp,rfl,rfl,by decide,λb1=>?_⟩;refine⟨by first|rfl|exact Kz _,by simp,rfl,rfl,by decide,λq=>?_⟩
    refine⟨by simp,by simp,rfl,rfl,by decide,λp=>?_⟩;exact⟨_,rfl,⟨rfl,by simp⟩,b b1 q p⟩
def Zat(v:Uw K (U9 K (Up ζ) "wish") "wish" "Village.wish" N6 ["self","ahead","behind"])
  : Fj ζ:=by
 refine v.fy Za2 (λg n=>(bc (se (XA<|Xr YI G.Za (hq<|g ()) ExcR.Kh<|pv 0)<|Nx<|OY GN (Ug 0) UO)<|bc (sS 3 n<|xg YU g ExcR.Kh<|a3 (xe (Xr Y5 G.Za (hq<|g ()) Xl<|pv 0)<|Xz TR (Ug 0) UO) (xv 1)<|xv 2)<|b1<|sF 2<|sF 1<|sF 3<|se (U8<|Ci YJ G.Za (hq<|g ()) Xl (pv 0)<|dz (PJ<|dz UI (pv 1)<|pv 2) (Xr Y4 G.Za (hq<|g ()) Xl<|pv 0)<|pv 3)<|Ha<|DX 0 Rg<|uz (PN<|uz UC (Ug 1)<|Ug 2) (Xz Td (Ug 0) UO)<|Ug 3)) (.c ?_)
 ·rintro o y R X ⟨x,b1,u,s,bk,fs,l,f,w,p,h,rfl,rfl,r,z,hw,q,b⟩;refine⟨rfl,?_⟩;unfold BK at b;refine⟨rfl,rfl,bk,fs++[f],l++[w],rfl,?_⟩;unfold Bj;by_cases c:100<=bk.length
  ·rw[Wr c]at b ⊢;exact⟨_,rfl,⟨rfl,by simp⟩,b⟩
  ·rw[Wq c]at b ⊢;refine⟨rfl,rfl,bk,fs++[f],l,w,rfl,w,p,h,rfl,q,?_⟩;cases e:TQ w p h with
   |some c=>
    rw[e]at b;exact⟨_,rfl,⟨rfl,by simp⟩,b⟩
   |none=>
    rw[e]at b;refine⟨rfl,rfl,by simp,rfl,rfl,bk,fs,l++[w],f,rfl,?_⟩;exact⟨x,b1,u,s,bk,fs++[f],l++[w],("wish",[p,h]),f,w++[(p,h)],rfl,rfl,r,by rw[WB];simp;lia,by rw[WB];simp;lia,_,rfl,⟨rfl,by simp⟩,b⟩
def Za5(o:Def K mg "told_question" B4 ["village","word","numbers"])
  : CQ ζ:=by
 refine o.fz Gm (λb n=>(bc (sI (tq b (xv 1) xs) (b1<|sR<|xf YW b<|a1<|xe (Xr Y4 G.Za (hq<|b ()) Xl<|pv 0)<|Xz Td (Ug 0) UO) b0)<|bc (se UV UX)<|bc (se UV UX)<|bc (se UV UX)<|bc (se UV UX)<|bc (se UV UX)<|bc (se UV UX)<|bc (se UV UX)<|bc (se UV UX)<|b1<|se UV UX)) (.a ?_)
 ·rintro p R X ⟨bk,fs,g,f,rfl,h,hq,l⟩;refine⟨rfl,?_⟩;exact⟨rfl,rfl,bk,fs,g,f,rfl,f,rfl,h,hq,l⟩
def Ov(E:Def K mg "_law_strips" Sk ["_law_script","_law_menu_here","_law_many"])
  : Ar ζ:=by
 refine E.fz MA (λs n=>(bc (sS 3 n<|xL a0)<|bc (sO [4,5,6] WU (ir G.Z2<|a1<|xv 2) (gN 4)<|bc (sS 5 n<|xf YB s<|a2 (xv 0)<|xo XD XC xi<|xv 4)<|bc (sS 6 n<|xo XD XC (xx (xv 1) xi)<|xo UQ US (xo Xw X1 (xv 5)<|xx (xv 1) xi)<|xx (xv 1) xi)<|b1<|sF 6<|sA 3<|xt<|a2 (xf YO s<|a2 (xv 1)<|xo UQ US (xv 5)<|xx (xv 1) xi)<|xv 6)<|b1<|sV 3)) (.a ?_)
 ·rintro ds R X ⟨r,m,n,rfl,u,Y,U,C⟩;refine⟨rfl,?_⟩;have o:=u;obtain⟨a,b,c,d,e,rfl,T,Q,N,M,L⟩:=u;refine⟨by simp,⟨by omega,by omega⟩,PB (λi g=>∃f:Yp,g=[some (.bor<|.scr r),some (.bor<|.lst (([a,b,c,d,e]:Yq).map D.int)),some (.sh<|.int n),some (.own<|f.map prD),none,none,none]/\Field f/\f.length=i) ⟨[],rfl,(λq hq=>by cases hq),rfl⟩ ?_ ?_⟩
  ·rintro i g B ⟨f,rfl,p,l⟩;have z:(f.map prD).length=f.length:=Wk ..;have A:i<n.toNat:=B;refine⟨r,_,rfl,by omega,λv=>?_⟩;have J:=Int.emod_nonneg (v / a) (show d≠0 by omega);have H:=Int.emod_lt_of_pos (v / a) (show 0<d by omega);refine⟨_,rfl,_,rfl,⟨by omega,by omega⟩,_,rfl,(by show 0<d;omega),_,rfl,(by show 0<a;omega),[a,b,c,d,e],_,rfl,o,λh y x _=>⟨by simp,by omega,f++[(h,e+v / a % d)],?_,λq hq=>?_,by rw[WB,l];rfl⟩⟩
   ·rw[WE];rfl
   ·rcases Qc.mp hq with hq|hq
    ·exact p q hq
    ·rw[Wm]at hq;subst hq;exact⟨y,x,by show 1<=e+v / a % d;omega,by show e+v / a % d<=1000;omega⟩
  ·rintro g ⟨f,rfl,p,l⟩;exact C f p l
def HM(u:Uw K (U9 K (Up ζ) "ring") "ring" "Village.ring" Sj ["self"])
  : Cs ζ:=by
 refine u.fz Mw (λb n=>(b1<|sR<|xf YY b<|a2 (xf YF b<|a1<|xe (Xr Y4 G.Za (hq<|b ()) Xl<|pv 0)<|Xz Td (Ug 0) UO)<|xe (Xr Y5 G.Za (hq<|b ()) Xl<|pv 0)<|Xz TR (Ug 0) UO)) (.a ?_)
 ·rintro v R X ⟨bk,fs,g,f,w,rfl,s,h,o,r,q⟩;refine⟨rfl,rfl,rfl,bk,fs,g++[w],f,rfl,f,rfl,s,h,rfl,rfl,bk,fs++[f],g,w,rfl,?_⟩;exact⟨_,w,rfl,Wy (Zaj f) (by decide),λl p t=>Gg o r p _ t (Wp _),q⟩
def Li(o:Def K mg "told_row" NN ["village","word","numbers"])
  : Al ζ:=by
 refine o.fy OT (λb n=>(bc (sI (te (T8<|NU G.ZO<|pv 1)<|TB<|By<|Ug 1) (bc (se UV UX)<|b1<|se UV UX) b0)<|bc (sI (tq b (xv 1) xs) (b1<|se UV UX) b0)<|b1<|sR<|xf Wa b<|a3 (xv 0) (xv 1)<|xv 2)) (.a ?_)
 ·rintro p R X ⟨bk,fs,g,f,rfl,h,hq,l⟩;refine⟨rfl,?_⟩;exact⟨bk,fs,g,f,rfl,h,hq,l⟩
def Os(o:Def K mg "told_or_refused" Bz ["village","word","numbers"])
  : FC ζ:=by
 refine o.fz El (λh n=>(b1<|se (ExcR.MF (λpins D=>(U0<|U8<|ExcR.Az Wd (hq<|h ()) (ExcR.HR (pins:=pins) (D:=D) rfl rfl<|ExcR.Xc rfl G.Zg (by decide) (λa=>(U0<|U8 UI))<|ExcR.Xc rfl G.Zp (by decide) (λa=>(U0<|U8 UI))<|ExcR.Xc rfl G.ZS (by decide) (λa=>(U0<|U8 UI))<|ExcR.Xc rfl G.ZQ (by decide) (λa=>(U0<|U8 UI))<|ExcR.Xc rfl G.ZT (by decide) (λa=>(U0<|U8 UI))<|ExcR.Xc rfl G.ZD (by decide) (λa=>(U0<|U8 UI))<|ExcR.Xc rfl G.ZU (by decide) (λa=>(U0<|U8 UI))<|ExcR.Xc rfl G.Z1 (by decide) (λa=>(U0<|U8 UI))<|ExcR.Xc rfl G.Z4 (by decide) (λa=>(U0<|U8 UI))<|ExcR.Xc rfl G.Z0 (by decide) (λa=>(U0<|U8 UI))<|ExcR.Xc rfl G.ZV (by decide) (λa=>(U0<|U8 UI))<|ExcR.Xc rfl G.Z9 (by decide) (λa=>(U0<|U8 UI))<|ExcR.Xc rfl G.ZH (by decide) (λa=>(U0<|U8 UI))<|ExcR.Xc rfl G.ZN (by decide) (λa=>(U0<|U8 UI))<|ExcR.Xc rfl G.ZP (by decide) (λa=>(U0<|U8 UI))<|ExcR.Zaa (i:=3) El.nd rfl rfl rfl G.ZW (by decide) (λa=>(E1 UV<|U0 UV)) ExcR.Ob)<|dz (pv 0) (pv 1)<|pv 2)))<|RR (E':=λ_=>E0) ["BadOrder"] ["TooManyStrips","BadHolder","NoStrip","OwnStrip","BadPart","UnlikeHolders","TooWide","LikeHolders","WishStands","TooManyWishes","NoWish","BookFull","NothingDone","NoSuchDeed","BadOrder","Ringed"] (G.ex.sub (by decide)<|by decide) (.cons (UP UC)<|.cons (UP UC)<|.cons (UP UC)<|.cons (UP UC)<|.cons (UP UC)<|.cons (UP UC)<|.cons (UP UC)<|.cons (UP UC)<|.cons (UP UC)<|.cons (UP UC)<|.cons (UP UC)<|.cons (UP UC)<|.cons (UP UC)<|.cons (UP UC)<|.cons (UP UC) (.cons (Df UX
    UX)
    .nil)) (λD=>(UP<|Ac<|uz (Ug 0) (Ug 1)<|Ug 2)))) (.a ?_)
 ·rintro p R X ⟨bk,fs,b,f,rfl,g,hq,l⟩;refine⟨rfl,?_⟩;exact⟨bk,fs,b,f,rfl,g,hq,l⟩
def IX(M:Def K mg "_law_begun" SY ["_law_village","_law_strips_here"])
  : A9 ζ:=by
 refine M.fz SS (λl n=>(bc (sO [2,3,4] WU (ir G.Z2<|a1 xi) (gN 2)<|bc (sS 3 n<|xe (Xk<|U5 (Xr Y4 G.Za (hq<|l ()) Xl<|pv 0)<|U5 (Xr Y5 G.Za (hq<|l ()) Xl<|pv 0)<|U5 (Xr YH G.Za (hq<|l ()) Xl<|pv 0)<|U5 (Xr Wc G.Za (hq<|l ()) Xl<|pv 0) Xf)<|HI<|Ti (Xz Td (Ug 0) UO)<|Ti (Xz TR (Ug 0) UO)<|Ti (Xz GK (Ug 0) UO)<|Ti (Xz Mv (Ug 0) UO) IG)<|bc (sI (tN<|tt<|xf Y7 l<|a2 (xx (xv 3) xi)<|xv 1) (b1<|sR xb) b0)<|bc (se (B0 WU rfl (KM (K:=K)<|Cu (BX (K:=K)) (pv 3) (ET UA) Eb) (gz 4 SS.nd)<|U0 (Sm (PW.pt<|Ez (EF<|SX (K:=K)<|UE (KR (K:=K)) (by rfl) G.Zc WH<|bz (pv 4)<|XZ (v:=.ty "list") rfl G.Zx boot_list rfl)<|Dn<|cn K (l ()) (ln K G.len<|pv 4) UA) (U0<|U8 Ta)
   AV))<|Gc 4<|DO [4] (ID (Ug 3) (CD Uo) De) (XI 4)<|Sf (Af (Dc<|SW<|KY<|tz (Ug 4) Kw)<|X0<|DE (Na<|sz<|Ug 4) Uo) (UP PP) DH)<|bc (se (B0 WU rfl (KM (K:=K)<|pv 3) (gz 4 SS.nd)<|U0<|XA<|P9 Qo Ql Qm Pj (pv 4)<|az<|PJ<|bz UA UA)<|ME 3 4<|PN<|tz Uo Uo)<|b1<|se (Dy (PJ<|bz UA UA)<|AG (jx K (pv 3) UA) UA Ew)<|Zaf 3 Uo Uo<|PN<|tz Uo Uo)<|b1<|sR xb)) (.a ?_)
 ·rintro Q R X ⟨f,rfl,L,C,J⟩;refine⟨rfl,⟨by decide,by decide⟩,⟨λk p=>p=[some (.bor<|Xs (Up ζ) [] [f] [[]]),some (.bor<|plD f),none,none,none],rfl,?_,λp h=>by rw[h];exact J⟩⟩;rintro k p N rfl
  have B:¬ ∃r,Ring (XN f) [] r:=λ⟨r,h⟩=>by
   obtain⟨y,_,E⟩:=h.ahead (WI<|show 0<r.length from Wz (by decide) h.two)
   cases E
  refine⟨rfl,rfl,[],[],[[]],f,rfl,Kz _,rfl,rfl,[],[f],[],[],rfl,rfl,rfl,rfl,[],[f],[[]],rfl,rfl,rfl,rfl,[],[],[],f,[],rfl,L,by lia,(λ_ h=>by cases h),B,rfl,(show 4<=1000 by decide),λx z s=>?_⟩
  obtain⟨a1,a2,a3,a4,rfl⟩:∃a1 a2 a3 a4,z=[(a1,f.map prD),(a2,[]),(a3,[]),(a4,[])]:=by
   match z,s with
   |[(a1,_),(a2,_),(a3,_),(a4,_)],h=>cases h;exact⟨a1,a2,a3,a4,rfl⟩
  refine⟨_,rfl,f,rfl,by lia,UT ⟨rfl,λA=>?_⟩⟩;have g:cutD [D.lst (f.map prD),.lst [],.lst [],.lst []] (some 1) none=[.lst [],.lst [],.lst []]:=rfl
  have u:∀i,i<3->arg (([D.lst [],.lst [],.lst []]:List D).getD i .non)=.bor (.lst []):=λi u=>by
   rcases(by lia:i=0\/i=1\/i=2)with rfl|rfl|rfl<;>rfl
  refine⟨⟨λi b=>b=[some (.bor<|.loc (A 0)<|Xs (Up ζ) [] [f] [[]]),some (.bor<|.loc (A 1)<|plD f),some (.sh<|.int (0+(k:Int))),some (.bor<|.loc x<|.lst [.lst (f.map prD),.lst [],.lst [],.lst []]),none],rfl,λi b q e=>?_,λb e=>?_⟩⟩
  ·subst e;have o:i<3:=q;show KD 4 (arg ((cutD [D.lst (f.map prD),.lst [],.lst [],.lst []] (some 1) none).getD i .non)) _ _;rw[g,u i o];exact⟨_,.same _,UT rfl⟩
  ·subst e;refine⟨rfl,by decide,(show 4<5 by decide),.tup [.int 3,.int 7],λb=>⟨by simp,rfl⟩,λc g=>?_,?_⟩
   ·have:c.2.length<=40:=by
     have H:(f.map prD).length<=40:=by rw[Wk];exact C
     rcases Wu.mp g with rfl|g
     ·exact H
     rcases Wu.mp g with rfl|g
     ·exact WV _
     rcases Wu.mp g with rfl|g
     ·exact WV _
     rw[Wm.mp g];exact WV _
    lia
   refine⟨by simp,0,_,rfl,rfl,0,_,(by
    show ixN (f.map prD++[_]).length 0=some 0;rw[WB,List.length_singleton];unfold ixN;rw[Wr (by decide),Wr (by lia)];rfl),rfl,rfl⟩
def LI(s:Def K mg "answer" S9 ["village","row"])
  : EA ζ:=by
 refine s.fz Mi (λb n=>(bc (sS 2 n<|xe (BD (K:=K) PySem.F.plainAttrs_str PySem.F.slot_str_split PySem.F.type_str_split R9 (pv 1)<|az UI)<|He (Ug 1) UC)<|bc (sI (tN<|tt<|xf YV b<|a2 (xx (xv 2) xi)<|xp (xv 2) (o1 xi) o0) (b1<|sR xs) b0)<|b1<|sR<|xf We b<|a3 (xv 0) (xx (xv 2) xi)<|xC ["text"] [none] (jL<|xp (xv 2) (o1 xi) o0) (gN 0) f0<|xe (Kp OP (by rfl) G.ZZ boot_int<|az<|pv 0)<|Mn<|sz<|Ug 0)) (.a ?_)
 ·rintro u R X ⟨bk,fs,g,f,rfl,h,hq,p⟩;refine⟨rfl,?_⟩;have l:(10000:Nat)<=sizeLine:=by decide
  have q:Txt.split ("field" : Str) " " = [("field" : Str)]:=by decide +kernel
  refine⟨rfl,Wy (show("field" : Str).length+2<=10000 by decide +kernel) l,?_⟩;rw[q];have r:cutD ([("field" : Str)].map D.str) (some 1) none=[]:=by rw[R0 _ (by decide)];rfl
  refine⟨_,rfl,rfl,rfl,UT ⟨_,rfl,rfl,?_⟩⟩;show Pr _ _ _ _ _ (cutD ([("field" : Str)].map D.str) (some 1) none).length (λi=>S.sub (.own<|.lst<|cutD ([("field" : Str)].map D.str) (some 1) none) ((cutD ([("field" : Str)].map D.str) (some 1) none).getD i .non)) _;rw[r];refine Kj (xs:=([]:Yq)) (emb:=D.int) (λn=>some (.int n)) (by simp) (λn o=>by cases o) ?_;exact⟨bk,fs,g,f,rfl,h,hq,p⟩
def Ik(A:Def K mg "answers" Ss ["strips","rows"])
  : FL ζ:=by
 refine A.fy My (λp n=>(bc (sF 0<|sS 2 n<|xe (BO Y8 G.Zw (hq<|p ()) ExcR.Kh<|az<|pv 0)<|OS<|sz<|Ug 0)<|b1<|sR<|xC ["row","village"] [none,some 2] (jL<|xv 1) (gN 0) f0<|xf Wg p<|a2 (xv 1)<|xv 0)) (.a ?_)
 ·rintro B R X ⟨b,rfl,u,f⟩;refine⟨rfl,?_⟩
  have o:U4 b=none->b.length<=50/\∀q∈b,(0<=q.1/\q.1<=1000)/\(0<=q.2/\q.2<=1000):=λe=>by
   unfold U4 at e;split at e
   ·cases e
   ·refine⟨by lia,λq hq=>?_⟩
    have g:∀{l:Yp},Xe l=none->∀q∈l,(1<=q.1/\q.1<=10)/\(1<=q.2/\q.2<=1000):=λ{l}=>by
     induction l with
     |nil=>intro _ q h;cases h
     |cons a r s=>
      intro e q h;unfold Xe at e;split at e
      ·cases e
      split at e
      ·cases e
      rename_i z y;rcases Wu.mp h with rfl|h
      ·exact⟨Vc.mp z,Vc.mp y⟩
      ·exact s e q h
    have h:=g e q hq;lia
  refine λx=>⟨x,b,rfl,⟨_,rfl,.inr rfl⟩,u,?_⟩;cases e:U4 b with
  |some c=>
   rw[e]at f;exact f
  |none=>
   rw[e]at f;obtain⟨v,hq⟩:=o e;refine λb1 E C=>⟨rfl,?_⟩;refine Kj (xs:=[("field" : Str)]) (emb:=D.str) (λ_=>some (.str<|XH b)) (by simp) (λw hw=>?_) ?_
   ·rw[Wm.mp hw];exact⟨[],[],[[]],b,rfl,v,hq,_,rfl,rfl⟩
   ·exact f
def GT(p:Def K mg "_law_refused" SN ["_law_strips_here","_law_desk"])
  : Dz ζ:=by
 refine p.fz P1 (λh n=>(bc (sS 2 n<|xL a0)<|bj (se (ExcR.Om (λpins D=>(U0<|Sm (SX (K:=K)<|pv 1) (U0<|XA<|ExcR.Az Wh (hq<|h ()) (ExcR.Aa (pins:=pins) (D:=D) (i:=3) rfl rfl P1.nd rfl rfl rfl G.Z6 (by decide) (λa=>(U0<|Pu.pz 2 P1.nd<|Xk<|U5 (UE (ExcR.XY (K:=K)) (by rfl) G.Zc WH<|bz (pv 3)<|XZ (v:=.ty "ValueError") rfl G.Z8 (by decide +kernel) rfl)<|U5 (UE (ExcR.XY (K:=K)) (by rfl) G.Zc WH<|bz (pv 3)<|ExcR.KP G.Zg)<|U5 (UE (ExcR.XY (K:=K)) (by rfl) G.Zc WH<|bz (pv 3)<|ExcR.KP G.Zp)<|U5 (UE (ExcR.XY (K:=K)) (by rfl) G.Zc WH<|bz (pv 3)<|ExcR.KP G.Zz) Xf)))<|bz (pv 0)<|Xk<|az UI)<|U0<|XA<|LM Y8 G.Zw (hq<|h ()) (ExcR.Aa (pins:=pins) (D:=D) (i:=3) rfl rfl P1.nd rfl rfl rfl G.Z6 (by decide) (λa=>(U0<|Pu.pz 2 P1.nd<|Xk<|U5 (UE (ExcR.XY (K:=K)) (by rfl) G.Zc WH<|bz (pv 3)<|XZ (v:=.ty "ValueError") rfl G.Z8 (by decide +kernel) rfl)<|U5 (UE (ExcR.XY (K:=K)) (by rfl) G.Zc WH<|bz (pv 3)<|ExcR.KP G.Zg)<|U5 (UE (ExcR.XY (K:=K)) (by rfl) G.Zc WH<|bz (pv 3)<|ExcR.KP G.Zp)<|U5 (UE (ExcR.XY (K:=K)) (by rfl) G.Zc WH<|bz (pv 3)<|ExcR.KP G.Zz) Xf)))<|az<|pv 0))) (Ms (E':=λ_=>E0) ["TooManyStrips","BadHolder","BadWidth"] (λc l=>by
    simp only[Wu,QI,or_false]at l;rcases l with rfl|rfl|rfl
    ·exact⟨G.Zb,G.Z3⟩
    ·exact⟨G.Zd,G.Z7⟩
    ·exact⟨G.Ze,G.ZA⟩)
    (λD=>(Sf (SW<|Ug 1) (Nx<|Ac<|tz (Ug 0)<|X2<|sz UC)<|D5 0<|Nx<|Rk<|sz<|Ug 0)) (T5 (X2<|Kc (TC<|tz (Ug 3) Kw)<|Kc (TC<|tz (Ug 3) NQ)<|Kc (TC<|tz (Ug 3) NQ)<|Kc (TC<|tz (Ug 3) NQ) UO)<|XI 2)))<|b1<|sV 2)) (.a ?_)
 ·rintro r R X ⟨f,b,rfl,q,o⟩;refine⟨rfl,by simp,Dt (λg=>g=[some (.bor<|plD f),some (.sh<|.bl b),some (.own<|.lst ((UG f).map D.bl)),none]) ?_ ?_⟩
  ·cases b with
   |true=>
    refine⟨by simp,f,rfl,by lia,?_⟩;cases e:U4 f with
    |none=>
     show _=_;rw[Py e];rfl
    |some c=>
     refine⟨?_,?_⟩
     ·rcases KZ e with rfl|rfl|rfl<;>decide
     rcases KZ e with rfl|rfl|rfl
     ·refine⟨_,G.Zb,G.Zi,_,G.Zb,G.Zh,_,G.Zb,G.Zj,_,G.Zb,G.Zl,by simp,?_⟩;show _=_;rw[Pz e];rfl
     ·refine⟨_,G.Zd,G.Zq,_,G.Zd,G.Zk,_,G.Zd,G.Zr,_,G.Zd,G.Zt,by simp,?_⟩;show _=_;rw[P3 e];rfl
     ·refine⟨_,G.Ze,G.Zs,_,G.Ze,G.Zm,_,G.Ze,G.Zu,_,G.Ze,G.Zv,by simp,?_⟩;show _=_;rw[P4 e];rfl
   |false=>
    refine λx=>⟨x,f,rfl,⟨_,rfl,.inr rfl⟩,by lia,?_⟩;cases e:U4 f with
    |none=>
     refine λb1 u s=>⟨rfl,?_⟩;show _=_;rw[Py e];rfl
    |some c=>
     refine⟨?_,?_⟩
     ·rcases KZ e with rfl|rfl|rfl<;>decide
     rcases KZ e with rfl|rfl|rfl
     ·refine⟨_,G.Zb,G.Zi,_,G.Zb,G.Zh,_,G.Zb,G.Zj,_,G.Zb,G.Zl,by simp,?_⟩;show _=_;rw[Pz e];rfl
     ·refine⟨_,G.Zd,G.Zq,_,G.Zd,G.Zk,_,G.Zd,G.Zr,_,G.Zd,G.Zt,by simp,?_⟩;show _=_;rw[P3 e];rfl
     ·refine⟨_,G.Ze,G.Zs,_,G.Ze,G.Zm,_,G.Ze,G.Zu,_,G.Ze,G.Zv,by simp,?_⟩;show _=_;rw[P4 e];rfl
  ·rintro g rfl;exact o
def IM(DD:Def K mg "law" X9 ["_law_script"])
  : MX ζ:=by
 refine DD.fz IU (λf n=>(bc (sS 1 n<|xo UQ US (xo Xw X1 (xf Y6 f<|a2 (xv 0) xi) xi) xi)<|bc (sS 2 n<|xf Wb f<|a3 (xv 0) (xf YN f<|a1<|xf YB f<|a2 (xv 0) xi)<|xv 1)<|bc (sS 3 n<|xf YB f<|a2 (xv 0) xi)<|bj (sI (tp<|wa (tc X5 XB (xv 1) xi)<|wA<|tc X5 XB (xo UQ US (xv 3) xi) xi) (bc (sS 4 n<|xo UQ US (xo Xw X1 (xv 3) xi)<|xv 1)<|b1<|sX 2 (xv 4)<|xf YQ f<|a2 (xx (xv 2)<|xv 4)<|xo Xw X1 (xo Xw X1 (xv 3) xi)<|xv 1) b0)<|bc (sS 5 n<|xf YR f<|a1<|xv 2)<|bc (sS 6 n<|xe (Kp (To (K:=K)) (by rfl) G.Zx boot_list<|az<|pv 2)<|P7<|sz<|Ug 2)<|bc (sI (tp<|wo (te (XJ (Dm (K:=K)<|show _<cLine from(f ()).units0) (fz YD (f ())<|bz (pv 6) Ta) (pv 5)<|Ke _)<|X0<|A1 (Kg<|tz (Ug 6) PP)<|Ug 5)<|wO<|te (XJ (Dm (K:=K)<|show _<cLine from(f ()).units0) (fz YD (f ())<|bz (pv 6) Ta) (pv 5)<|Ke _)<|X0<|A1 (Kg<|tz (Ug 6) PP)<|Ug 5) (b1<|sR xb) b0)<|bc (sI (tN<|tt<|xf Y7 f<|a2 (xv 6)<|xv 2) (b1<|sR xb) b0)<|bc (sI (te (XJ (RS (K:=K)<|show _<cLine from(f ()).units0) (pv 5) (Xk Xf)<|Ke _)<|X0<|GI (Ug 5)<|X2 UO) (b1<|sR xb) b0)<|bc (sS 7 n<|xe (BO Y8 G.Zw (hq<|f ()) Bk<|az<|pv 6)<|DZ 6)<|bc (sS 8 n<|xe (BO Y8 G.Zw (hq<|f ()) Bk<|az<|pv 6)<|DZ 6)<|bc (se (XA<|Ci YZ G.Za (hq<|f ()) Bk (pv 8)<|bz UA UA)<|Ny<|DX 8 GM<|tz Uo Uo)<|bc (sA 6<|xt<|a2 xi xi)<|bc (sX 6 xi<|xt<|a2 xi xi)<|bc (sS 9 n<|xe (Tu (fz Wf (f ())<|bz (pv 7)<|pv 2)<|BF<|fz Y7 (f ())<|bz (Xr Y4 G.Za (hq<|f ()) Xl<|pv 8)<|pv 2)<|T4 (Kg<|tz (Ug 7)<|Ug 2)<|Kg<|tz (Xz Td (Ug 8) UO)<|Ug 2)<|b1<|sR<|xe (Tu (pv 9)<|Tu (fz Y7 (f ())<|bz (Xr Y5 G.Za (hq<|f ()) Xl<|pv 8)<|Xk<|az<|PJ<|bz UA UA)<|BF<|fz YX (f ())<|bz (Xk<|az<|ExcR.Xm G.Zy)<|Xk<|az UA)<|T4 (Ug 9)<|T4 (Kg<|tz (Xz TR (Ug 8) UO)<|X2<|sz<|PN<|tz Uo Uo)<|Kg<|tz (X2<|sz Uo)<|X2<|sz Uo)) (.a ?_)
 ·rintro ds R X ⟨o,rfl,q⟩;refine⟨rfl,o,0,rfl,by decide,λa0=>⟨⟨by decide,by decide⟩,(show(0:Int)<43 by decide),?_⟩⟩;have J:0<=a0 / 2 % 43/\a0 / 2 % 43<43:=by lia
  refine⟨o,0,rfl,by decide,λc0=>⟨c0,rfl,λm L=>?_⟩⟩;refine⟨o,m,_,rfl,L,J.1,by lia,λg M A=>?_⟩;refine⟨o,1,rfl,by decide,λc=>?_⟩;refine Dt (λl=>∃(b:Yp) (z:Option S),b.length<=42/\l=[some (.bor<|.scr o),some (.sh<|.int (a0 / 2 % 43)),some (.own<|b.map prD),some (.sh<|.int c),z,none,none,none,none,none]) ?_ ?_
  ·refine U2 (λE=>⟨(show(0:Int)<3 by decide),U2 (λT=>?_) λT=>⟨g,_,by lia,rfl⟩⟩) λE=>⟨g,_,by lia,rfl⟩;have p:0<a0 / 2 % 43:=Ww E;have hl:(g.map prD).length=g.length:=Wk ..;have B:0<=c / 3 % (a0 / 2 % 43)/\c / 3 % (a0 / 2 % 43)<a0 / 2 % 43:=⟨Int.emod_nonneg _ (by lia),Int.emod_lt_of_pos _ p⟩;refine⟨⟨by decide,by decide⟩,p,_,CK B.1 (by lia),⟨by decide,by decide⟩,?_⟩;refine⟨⟨by lia,by lia⟩,_,_,_,rfl,λQ H=>?_⟩;refine⟨(c / 3 % (a0 / 2 % 43)).toNat,_,?_,rfl,g.set (c / 3 % (a0 / 2 % 43)).toNat (Q,H),some (.sh<|.int (c / 3 % (a0 / 2 % 43))),by rw[WA];lia,?_⟩
   ·show ixN _ (c / 3 % (a0 / 2 % 43))=_;unfold ixN;rw[Wr B.1,Wr (by lia)]
   ·rw[List.map_set];rfl
  rintro l ⟨b,z,hz,rfl⟩;refine⟨b,rfl,by lia,?_⟩
  have v:UG b=[]\/UG b=[true,true,false,false]\/UG b=[true,false,true,false]\/UG b=[true,false,false,true]:=by
   cases e:U4 b with
   |none=>exact .inl (Py e)
   |some c=>
    rcases KZ e with rfl|rfl|rfl
    ·exact .inr (.inl<|Pz e)
    ·exact .inr (.inr<|.inl<|P3 e)
    ·exact .inr (.inr<|.inr<|P4 e)
  have s:Pa ((UG b).map D.bl)=some ((UG b).map V.bl):=by rcases v with h|h|h|h<;>rw[h]<;>rfl
  have r:((UG b).map V.bl).all UY=true:=by rcases v with h|h|h|h<;>rw[h]<;>rfl
  have C:eqL ((UG b).map V.bl) ((UG b).map V.bl)=true:=by rcases v with h|h|h|h<;>rw[h]<;>rfl
  refine⟨(by first|rfl|exact Kz b),b,false,rfl,by lia,_,_,s,s,r,r,?_⟩
  rw[C];refine⟨b,true,rfl,by lia,_,_,s,s,r,r,?_⟩;rw[C];refine⟨b,rfl,by lia,UT ?_⟩;cases e:U4 b with
  |some c=>
   rcases KZ e with rfl|rfl|rfl
   ·rw[Pz e];exact⟨by simp,q⟩
   ·rw[P3 e];exact⟨by simp,q⟩
   ·rw[P4 e];exact⟨by simp,q⟩
  |none=>
  obtain⟨u,N⟩:=Hw e;rw[Py e];refine⟨by simp,λx=>⟨x,b,rfl,⟨_,rfl,.inr rfl⟩,by lia,?_⟩⟩;rw[e];refine λb1 b2 b3=>⟨rfl,λy=>⟨y,b,rfl,⟨_,rfl,.inr rfl⟩,by lia,?_⟩⟩;rw[e];refine λY U d3=>⟨rfl,rfl,rfl,y,Y,U,d3,[],[],[],b,[],1,2,rfl,rfl,by decide,by decide,by decide,by decide,?_⟩;rw[show BK [] [] 1 2=none from rfl]
  have lp:(b.map prD).length=b.length:=Wk ..;refine⟨by simp,by lia,by simp,0,_,?_,rfl,?_⟩
  ·show ixN (b.map prD++[_]).length 0=some 0;rw[WB,List.length_singleton];unfold ixN;rw[Wr (by decide),Wr (by lia)];rfl
  refine⟨b,rfl,N,u,rfl,rfl,[(("wish" : Str),[1,2])],[b],[[],[(1,2)]],b,rfl,b,rfl,by lia,?_⟩;exact⟨rfl,rfl,[(("wish" : Str),[1,2])],[b,b],[[]],[(1,2)],rfl,by simp,by simp,[(1,2)],rfl,by decide,by simp,by simp,[100],.inl rfl,by decide,q⟩
end
end T
namespace T
open L2 Own M
def Gq{l:PySem.W.OpenLaw}{w:World}{K:Yo}{h:Heap}{f:Ys}{fa:Addr}(X:K.In h)(b:h.Ns mainGlobals f)(hfa:f "law"=some (.ref fa)){g:Addr}(VT:PySem.W.nsIn K mainGlobals "Village"=some (some<|.ref g))(VW:PySem.W.plainGet K g Str.empty=true)(VX:PySem.W.hasDictIn K g=true)(VY:PySem.W.plainOver K g=true)(VZ:PySem.W.findIn K (.ref g) "__setattr__"=some (some<|.builtin "object.__setattr__"))(Ja:PySem.W.makesIn K g=true)(Jb:PySem.W.keepIn K (.ref g)=true)(Jc:PySem.W.findIn K (.ref g) "book"=some none)(Jd:PySem.W.findIn K (.ref g) "fields"=some none)(Je:PySem.W.findIn K (.ref g) "wished"=some none)(a0:Pu.DI K "check_holder" B9)(a1:Pu.DI K "check_width" NH)(a2:Pu.DI K "check_strips" B7)(a3:Pu.DI K "holders_of" SM)(a4:Pu.DI K "longer_paths" Si)(a5:Pu.DI K "ring_from" NT)(a6:Pu.DI K "find_ring" SR)(a7:Pu.DI K "with_wish" N8)(a8:Pu.MI K g "__init__" "Village.__init__" Bv)(a9:Pu.MI K g "strips" "Village.strips" SA)(a10:Pu.MI K g "wishes" "Village.wishes" NJ)(a11:Pu.MI K g "deeds" "Village.deeds" B6)(a12:Pu.MI K g "check_room" "Village.check_room" NI)(a13:Pu.MI K g "enter" "Village.enter" Sx)(a14:Pu.MI K g "wish" "Village.wish" N6)(a15:Pu.MI K g "ring" "Village.ring" Sj)(a16:Pu.DI K "is_number" Su)(a17:Pu.DI K "is_row" Sa)(a18:Pu.DI K "told_texts" Br)(a19:Pu.DI K "told_strips" NZ)(a20:Pu.DI K "told_question" B4)(a21:Pu.DI K "told_row" NN)(a22:Pu.DI K "told_or_refused" Bz)(a23:Pu.DI K "answer" S9)(a24:Pu.DI K "answers" Ss)(a25:Pu.DI K "_law_at" Ba)(a26:Pu.DI K "_law_whole" Bt)(a27:Pu.DI K "_law_mix" BH)(a28:Pu.DI K "_law_draw" N3)(a29:Pu.DI K "_law_menu" Bl)(a30:Pu.DI K "_law_holder" N4)(a31:Pu.DI K "_law_strips" Sk)(a32:Pu.DI K "_law_row" Bc)(a33:Pu.DI K "_law_tuples" B3)(a34:Pu.DI K "_law_spoiled" NO)(a35:Pu.DI K "_law_due" Sl)(a36:Pu.DI K "_law_refused" SN)(a37:Pu.DI K "_law_begun" SY){J:Addr}{Q C:Y1}{N:Array (Y0)}{T y A x o B:Value}(a38:PySem.W.nsIn K mainGlobals "law"=some (some<|.ref J))(l38:K.lookup J=some ⟨T,Q,.func (PySem.W.fnOf "law" "law" (Xo X9) (Uu X9) (Uc X9) .none y A x C o B),N⟩)(c38:PySem.W.codeIn K o "law"=true)(k38:PySem.W.keepIn K (.ref J)=true)(Jf:PySem.W.nsIn K mainGlobals "ValueError"=some none)(Jg:PySem.W.nsIn K mainGlobals "all"=some none)(Jh:PySem.W.nsIn K mainGlobals "bool"=some none)(Ji:PySem.W.nsIn K mainGlobals "int"=some none)(Jj:PySem.W.nsIn K mainGlobals "isinstance"=some none)(Jk:PySem.W.nsIn K mainGlobals "len"=some none)(Jl:PySem.W.nsIn K mainGlobals "list"=some none)(Jm:PySem.W.nsIn K mainGlobals "range"=some none)(Jn:PySem.W.nsIn K mainGlobals "set"=some none)(Jo:PySem.W.nsIn K mainGlobals "sorted"=some none)(Jp:PySem.W.nsIn K mainGlobals "tuple"=some none){JH:Tok}(Jq:PySem.W.nsIn K mainGlobals "HOLDERS"=some (some<|.int 10 JH)){JI:Tok}(Jr:PySem.W.nsIn K mainGlobals "STRIPS"=some (some<|.int 40 JI)){JJ:Tok}(Js:PySem.W.nsIn K mainGlobals "WIDEST"=some (some<|.int 1000 JJ)){JK:Tok}(Jt:PySem.W.nsIn K mainGlobals "MOST_WISHES"=some (some<|.int 20 JK)){JL:Tok}(Ju:PySem.W.nsIn K mainGlobals "MOST_DEEDS"=some (some<|.int 100 JL)){JM:Tok}(Jv:PySem.W.nsIn K mainGlobals "FIGURES"=some (some<|.str "0123456789" JM)){JN:Tok}(Jw:PySem.W.nsIn K mainGlobals "MOST_FIGURES"=some (some<|.int 4 JN)){d_DEEDS:Addr}{es_DEEDS:Array DictEntry}{n_DEEDS:Nat}(Jx:PySem.W.nsIn K mainGlobals "DEEDS"=some (some<|.ref d_DEEDS))(zm_DEEDS:(d_DEEDS==sysModules)=false)(zl_DEEDS:K.lookup d_DEEDS=some ⟨.type "dict",none,.dict es_DEEDS n_DEEDS,#[]⟩)(ze_DEEDS:Own.Lits w.params es_DEEDS.toList [("sell",2),("part",2),("unite",1),("wish",2),("drop",2)]){d_OTHERS:Addr}{es_OTHERS:Array DictEntry}{n_OTHERS:Nat}(Jy:PySem.W.nsIn K mainGlobals "OTHERS"=some (some<|.ref d_OTHERS))(zm_OTHERS:(d_OTHERS==sysModules)=false)(zl_OTHERS:K.lookup d_OTHERS=some ⟨.type "dict",none,.dict es_OTHERS n_OTHERS,#[]⟩)(ze_OTHERS:Own.Lits w.params es_OTHERS.toList [("back",0),("field",0),("wishes",0),("stood",1),("ring",0),("order",0),("cost",0),("moves",0),("offer",2)]){VU:Addr}(VA:Pu.EI K "MeldError" VU){q:Addr}(VB:Pu.EI K "TooManyStrips" q){p:Addr}(VC:Pu.EI K "BadHolder" p){r:Addr}(VD:Pu.EI K "BadWidth" r){J2:Addr}(VE:Pu.EI K "NoStrip" J2){Jz:Addr}(VF:Pu.EI K "BadOrder" Jz){J6:Addr}(VG:Pu.EI K "OwnStrip" J6){J7:Addr}(VH:Pu.EI K "BadPart" J7){J8:Addr}(VI:Pu.EI K "UnlikeHolders" J8){J9:Addr}(VJ:Pu.EI K "TooWide" J9){JA:Addr}(VL:Pu.EI K "LikeHolders" JA){JB:Addr}(VM:Pu.EI K "WishStands" JB){JC:Addr}(VN:Pu.EI K "TooManyWishes" JC){JD:Addr}(VO:Pu.EI K "NoWish" JD){JE:Addr}(VP:Pu.EI K "BookFull" JE){JF:Addr}(VQ:Pu.EI K "NothingDone" JF){JG:Addr}(VR:Pu.EI K "NoSuchDeed" JG){U:Addr}(VV:PySem.W.nsIn K mainGlobals "Ringed"=some (some<|.ref U))(x_Ringed:PySem.W.exmOne K (.ref U) (.ref U)=some true)(x_all:Pu.BP K [("Ringed",U),("BadOrder",Jz)] [("TooManyStrips",q),("BadHolder",p),("NoStrip",J2),("OwnStrip",J6),("BadPart",J7),("UnlikeHolders",J8),("TooWide",J9),("LikeHolders",JA),("WishStands",JB),("TooManyWishes",JC),("NoWish",JD),("BookFull",JE),("NothingDone",JF),("NoSuchDeed",JG),("BadOrder",Jz),("Ringed",U)]=true)(x_TooManyStrips_MeldError:PySem.W.exmOne K (.ref q) (.ref VU)=some true)(x_BadHolder_MeldError:PySem.W.exmOne K (.ref p) (.ref VU)=some true)(x_BadWidth_MeldError:PySem.W.exmOne K (.ref r) (.ref VU)=some true)(k_TooManyStrips_ValueError:PySem.W.kitOne K (.ref q) (.type "ValueError")=some true)(k_TooManyStrips_TooManyStrips:PySem.W.kitOne K (.ref q) (.ref q)=some true)(k_TooManyStrips_BadHolder:PySem.W.kitOne K (.ref q) (.ref p)=some false)(k_TooManyStrips_BadWidth:PySem.W.kitOne K (.ref q) (.ref r)=some false)(k_BadHolder_ValueError:PySem.W.kitOne K (.ref p) (.type "ValueError")=some true)(k_BadHolder_TooManyStrips:PySem.W.kitOne K (.ref p) (.ref q)=some false)(k_BadHolder_BadHolder:PySem.W.kitOne K (.ref p) (.ref p)=some true)(k_BadHolder_BadWidth:PySem.W.kitOne K (.ref p) (.ref r)=some false)(k_BadWidth_ValueError:PySem.W.kitOne K (.ref r) (.type "ValueError")=some true)(k_BadWidth_TooManyStrips:PySem.W.kitOne K (.ref r) (.ref q)=some false)(k_BadWidth_BadHolder:PySem.W.kitOne K (.ref r) (.ref p)=some false)(k_BadWidth_BadWidth:PySem.W.kitOne K (.ref r) (.ref r)=some true)
  : ∃fd:FuncData,(∀(s:Shared) (v:Value),BindsTo s fd ⟨[v],[]⟩ [("_law_script",v)])/\∀base:Heap,K.In base->base.Ns mainGlobals f->UM l.prog w K f base CX0 9 fa fd ["_law_script"] (Pu.BB K):=by
 have e:=hfa.symm.trans (WC X b a38);cases e
 have J0:=VA.c X b;have H:=VB.c X b;have E:=VC.c X b;have L:=VD.c X b;have JO:=VE.c X b;have JP:=VF.c X b;have JQ:=VG.c X b;have JR:=VH.c X b;have JS:=VI.c X b;have JT:=VJ.c X b;have JU:=VL.c X b;have JV:=VM.c X b;have JW:=VN.c X b;have JX:=VO.c X b;have JY:=VP.c X b;have JZ:=VQ.c X b;have Ua:=VR.c X b;have J1:=ExcR.SG (WC X b VV);have n:=ExcR.SG (WC X b VT);have G:Glob w K f:=⟨WK X b Jf,WK X b Jg,WK X b Jh,WK X b Ji,WK X b Jj,WK X b Jk,WK X b Jl,WK X b Jm,WK X b Jn,WK X b Jo,WK X b Jp,⟨_,WC X b Jq,⟨_,rfl⟩⟩,⟨_,WC X b Jr,⟨_,rfl⟩⟩,⟨_,WC X b Js,⟨_,rfl⟩⟩,⟨_,WC X b Jt,⟨_,rfl⟩⟩,⟨_,WC X b Ju,⟨_,rfl⟩⟩,⟨_,WC X b Jv,⟨_,rfl⟩⟩,⟨_,WC X b Jw,⟨_,rfl⟩⟩,⟨⟨_,_,_,WC X b Jx,zm_DEEDS,zl_DEEDS,ze_DEEDS⟩⟩,⟨⟨_,_,_,WC X b Jy,zm_OTHERS,zl_OTHERS,ze_OTHERS⟩⟩,(VA.m X b),(VA.k X b),(VB.m X b),(VB.k X b),(VC.m X b),(VC.k X b),(VD.m X b),(VD.k X b),(VE.m X b),(VE.k X b),(VF.m X b),(VF.k X b),(VG.m X b),(VG.k X b),(VH.m X b),(VH.k X b),(VI.m X b),(VI.k X b),(VJ.m X b),(VJ.k X b),(VL.m X b),(VL.k X b),(VM.m X b),(VM.k X b),(VN.m X b),(VN.k X b),(VO.m X b),(VO.k X b),(VP.m X b),(VP.k X b),(VQ.m X b),(VQ.k X b),(VR.m X b),(VR.k X b),(by rw[J1];exact WC X b VV),(by rw[J1];exact x_Ringed),(by rw[←J1,←JP,←H,←E,←JO,←JQ,←JR,←JS,←JT,←JU,←JV,←JW,←JX,←JY,←JZ,←Ua]at x_all;exact Pu.LX x_all),(by rw[H,J0];exact x_TooManyStrips_MeldError),(by rw[E,J0];exact x_BadHolder_MeldError),(by rw[L,J0];exact x_BadWidth_MeldError),(by rw[H];exact k_TooManyStrips_ValueError),(by rw[H];exact k_TooManyStrips_TooManyStrips),(by rw[H,E];exact k_TooManyStrips_BadHolder),(by rw[H,L];exact k_TooManyStrips_BadWidth),(by rw[E];exact k_BadHolder_ValueError),(by rw[E,H];exact k_BadHolder_TooManyStrips),(by rw[E];exact k_BadHolder_BadHolder),(by rw[E,L];exact k_BadHolder_BadWidth),(by rw[L];exact k_BadWidth_ValueError),(by rw[L,H];exact k_BadWidth_TooManyStrips),(by rw[L,E];exact k_BadWidth_BadHolder),(by rw[L];exact k_BadWidth_BadWidth),(by rw[n];exact WC X b VT),(by rw[n];exact⟨VW,VX,VY,VZ⟩),(by rw[n];exact Jc),(by rw[n];exact Jd),(by rw[n];exact Je)⟩;have M:=TU (st:=X9) l38 c38 k38;have b38:=M.binds (ps:=["_law_script"]) λ_ _ _ _ _ _ us hl=>by obtain⟨_,rfl⟩:=Pu.P6 hl;rfl
 have Y:Def K f "law" X9 ["_law_script"]:=⟨_,_,M,WC X b a38,b38⟩;refine⟨PySem.W.fnOf "law" "law" (Xo X9) (Uu X9) (Uc X9) .none y A x C o B,λs v=>.of_eq rfl,λbase _ _=>?_⟩;have C0:=@Lp l.prog w K f base ⟨⟩ G (a0.e X b);have C1:=@GX l.prog w K f base ⟨⟩ G (a1.e X b);have C3:=@L3 l.prog w K f base G (a3.e X b);have C4:=@O0 l.prog w K f base ⟨⟩ (a4.e X b);have C9:=@IZ l.prog w K f base ⟨⟩ G (a9.e n);have u:=@LG l.prog w K f base ⟨⟩ G (a10.e n);have C11:=@OM l.prog w K f base ⟨⟩ G (a11.e n);have C12:=@IK l.prog w K f base ⟨⟩ G (a12.e n);have C13:=@Hf l.prog w K f base ⟨⟩ G (a13.e n);have C16:=@MR l.prog w K f base ⟨⟩ G (a16.e X b);have C18:=@OA l.prog w K f base ⟨⟩ (a18.e X b);have C25:=@HH l.prog w K f base ⟨⟩ G (a25.e X b);have C26:=@GO l.prog w K f base ⟨⟩ G (a26.e X b);have C27:=@I0 l.prog w K f base ⟨⟩ (a27.e X b);have C29:=@MY l.prog w K f base ⟨⟩ (a29.e X b);have C30:=@OC l.prog w K f base ⟨⟩ (a30.e X b);have C34:=@Lh l.prog w K f base ⟨⟩ (a34.e X b);have C35:=@IV l.prog w K f base ⟨⟩ G (a35.e X b);have C2:=RD ⟨⟩ G C0 C1 (a2.e X b);have C5:=MD ⟨⟩ G C4 (a5.e X b);have C7:=Za6 ⟨⟩ G C0 (a7.e X b);have C17:=On ⟨⟩ G C16 (a17.e X b);have C19:=IR ⟨⟩ C18 (a19.e X b);have C28:=RX ⟨⟩ C25 C27 (a28.e X b);have C32:=Ma ⟨⟩ G C26 (a32.e X b);have C33:=MQ ⟨⟩ G C26 (a33.e X b);have C6:=Ll ⟨⟩ G C5 (a6.e X b);have C8:=Ot ⟨⟩ G C2 (a8.j n Ja Jb);have C14:=Zat ⟨⟩ G C9 u C12 C13 C7 (a14.e n);have C20:=Za5 ⟨⟩ G C9 C19 (a20.e X b);have C31:=Ov ⟨⟩ G C30 C28 (a31.e X b);have C15:=HM ⟨⟩ G (RL C3) C9 u C6 (a15.e n);have C21:=Li ⟨⟩ G C20 (a21.e X b);have C22:=Os ⟨⟩ G C21 (a22.e X b);have C37:=IX ⟨⟩ G C9 u C11 C33 C15 (a37.e X b);have C23:=LI ⟨⟩ G C17 C22 (a23.e X b);have C24:=Ik ⟨⟩ G C8 C23 (a24.e X b);have C36:=GT ⟨⟩ G C8 C24 (a36.e X b);have C38:=IM ⟨⟩ G C9 u C25 C29 C34 C35 C28 C32 C33 C8 C14 C31 C37 C36 Y;exact(C38.at (WC X b a38) M Y).imp λ_ _ _ _ z=>Pu.Ld z
end T
namespace PySem.W.Fast
def I:True:=⟨⟩
def tw791929789923312613:=I
def tw4275739440655463424:=I
def tw6081287247924262944:=I
def tw18369382776883288128:=I
def tw13342154985429197888:=I
def tw4977911976473953536:=I
def tw10899678768924763424:=I
def tw7026064388511575360:=I
def tw17215504265494395200:=I
def tw15786374480069730688:=I
def tw6220486675535043072:=I
def tw7988797283826792992:=I
def tw3912748405809139264:=I
def tw12769006178523253344:=I
def tw16334961004012404384:=I
def tw18091133006035397344:=I
def tw5111825321380177632:=I
def tw796641265622222592:=I
def tw10955260938751051520:=I
def tw13778351412068510464:=I
def tw11002999794875999040:=I
def tw12275049038146617152:=I
def tw2560313727680377760:=I
def tw14328279795915463648:=I
def tw11472998514295415776:=I
def tw7377952964543448065:=I
def tw1561914465886980097:=I
def tw6687583425453257729:=I
def tw149540522269200417:=I
def tw2404842270333557793:=I
def tw5907353005526450241:=I
def tw1332470446761847873:=I
def tw5987926735042319457:=I
def tw18406039676773184609:=I
def tw12806289238589891713:=I
def tw6610883722137623713:=I
def tw6250277748530129089:=I
def tw15864867078153427169:=I
def tw16464799914102070529:=I
def tw8489477861069732193:=I
def tw10149882573216103841:=I
def tw10479286299698853281:=I
def tw4995030190450649537:=I
def tw12021828903671092673:=I
def tw3053881436401549825:=I
def tw9001788158670059041:=I
def tw17561576759442901569:=I
def tw9812927157646005825:=I
def tw482148815789204065:=I
def tw17379339361396437601:=I
def tw8251301688644455009:=I
def tw1463643503828784737:=I
def tw4924502690769134177:=I
def tw16949769514372330113:=I
def tw8934671837933197057:=I
def tw17183576007029663553:=I
def tw4254599251055650689:=I
def tw5249103797660135297:=I
def tw16460301428792668033:=I
def tw11792747785470952321:=I
def tw7848339529377101793:=I
def tw5854681677108274145:=I
def tw9688860902962951137:=I
def tw10646624480664398850:=I
def tw7551408933808362498:=I
def tw5863088659335444482:=I
def tw13853611890745085986:=I
def tw12586786558608309410:=I
def tw12962375885634830530:=I
def tw17293560360658341058:=I
def tw11596898501705396418:=I
def tw9541792112946612450:=I
def tw3473177572280293634:=I
def tw741612027446721794:=I
def tw5183795778986745122:=I
def tw10227156563454301666:=I
def tw17860142712869027298:=I
def tw15195620540754070018:=I
def tw3821916981131132418:=I
def tw9878630218194983586:=I
def tw12989411646973700770:=I
def tw14251346974507093698:=I
def tw12603960613319913250:=I
def tw15298030444052197154:=I
def tw9538662066134702978:=I
def tw17134157148517744546:=I
def tw14166860051219404738:=I
def tw5374142026816208899:=I
def tw858764798429734979:=I
def tw4076473274134867011:=I
def tw3920451480484659267:=I
def tw4117496584768087107:=I
def tw5296757642354207907:=I
def tw6138100283146596515:=I
def tw2456939186462373091:=I
def tw12935103759487638787:=I
def tw10523426996401933603:=I
def tw11647603607459030307:=I
def tw7392645894039856419:=I
def tw9376502514654306659:=I
def tw16363285259287802243:=I
def tw4466779454586522083:=I
def tw11970840800840357347:=I
def tw9997841505864886755:=I
def tw17782793549795826179:=I
def tw16514688056563879427:=I
def tw1177450267255461379:=I
def tw7868936367444972099:=I
def tw3671379617888612963:=I
def tw5993066143699793507:=I
def tw11467199432634804899:=I
def tw8605147344842762019:=I
def tw16671666227678934819:=I
def tw14163869569275825987:=I
def tw4825995270939746115:=I
def tw3480619595067838435:=I
def tw1490251589854446596:=I
def tw11056778217586208900:=I
def tw4264118782890473604:=I
def tw2337943432561026212:=I
def tw5481487008168605860:=I
def tw110572413783655620:=I
def tw6626968902552639748:=I
def tw14752520324456103268:=I
def tw14111633309027097988:=I
def tw14072869055132675492:=I
def tw10445896845457899972:=I
def tw7919892032782109156:=I
def tw2986984285671581156:=I
def tw6950081788059059748:=I
def tw4431679426898326052:=I
def tw14667671356927277636:=I
def tw12357690441501835876:=I
def tw11195904311863993956:=I
def tw5511992735285815972:=I
def tw11758744394478288612:=I
def tw7626315825291236100:=I
def tw192052551599281924:=I
def tw17101097583451118372:=I
def tw3888288353599335236:=I
def tw12523007025861971812:=I
def tw8874190617077131140:=I
def tw6118589541817628580:=I
def tw1795045540110259172:=I
def tw18288856280134251492:=I
def tw9190323047378424837:=I
def tw17739071518197438469:=I
def tw17828671367753809957:=I
def tw8351672854797349:=I
def tw15183513225574588549:=I
def tw3518006351170559141:=I
def tw15097676535417836741:=I
def tw17626941127456711909:=I
def tw12629003974550746341:=I
def tw6980851646705896709:=I
def tw18310492888904914213:=I
def tw3440098985516562725:=I
def tw6024762525602618693:=I
def tw18046659957471819109:=I
def tw4906564813552708965:=I
def tw299596458590413189:=I
def tw1458922383286221285:=I
def tw10822999006940273157:=I
def tw14455667849936306757:=I
def tw329839191084430917:=I
def tw2826257690302033509:=I
def tw12093836994713819781:=I
def tw6444307123238141605:=I
def tw18418332513984316101:=I
def tw16982061309641976549:=I
def tw9720106803424824101:=I
def tw1171130105331107621:=I
def tw13599453484122076005:=I
def tw5106507198542046085:=I
def tw17255054500653420517:=I
def tw8818422426517798918:=I
def tw4691803540911620102:=I
def tw2970397129377204230:=I
def tw6181088821878518790:=I
def tw14173913339993627686:=I
def tw15062578638273723462:=I
def tw11216098470578630790:=I
def tw7198984578237316262:=I
def tw16685686502676875462:=I
def tw10444963073563977926:=I
def tw7882275913628151046:=I
def tw6534060223871750438:=I
def tw9066572161113779494:=I
def tw4099509527916747110:=I
def tw447295744498930086:=I
def tw16746897533019823526:=I
def tw4645737568729441734:=I
def tw10861767776979803590:=I
def tw4699954350843254246:=I
def tw17127787194172694022:=I
def tw1654067060839449126:=I
def tw11680414981563101734:=I
def tw777480639953507942:=I
def tw1014689962853603974:=I
def tw4684857711605241510:=I
def tw14097942450633008806:=I
def tw6149171651758167750:=I
def tw17666361302611183302:=I
def tw11848721032651111110:=I
def tw316161817038048102:=I
def tw5164822391969046406:=I
def tw5808683651332869030:=I
def tw4904704541242349478:=I
def tw18009260337125642182:=I
def tw13737720722213594054:=I
def tw15577697381793393606:=I
def tw8802581972590091335:=I
def tw1739189312186063015:=I
def tw10782991352764625095:=I
def tw14895844644903378183:=I
def tw13540087205336487207:=I
def tw12899897428563297607:=I
def tw15841868123907350855:=I
def tw9396616536491217255:=I
def tw5621668014380441959:=I
def tw2063123681774831079:=I
def tw3195161167137101287:=I
def tw2801804229626759687:=I
def tw16935751161949992487:=I
def tw16604702320229810759:=I
def tw13716619006619144775:=I
def tw17563455633208385159:=I
def tw14328318681821374151:=I
def tw7169229723483250439:=I
def tw2544532402046334727:=I
def tw10035462093273793319:=I
def tw603687496778231655:=I
def tw16616455894824883079:=I
def tw14827108446359921639:=I
def tw3009673302578045960:=I
def tw2298135238931500136:=I
def tw18235749573335508104:=I
def tw10658641220685557896:=I
def tw6649464899777590408:=I
def tw4759597118955938984:=I
def tw3646112638447691048:=I
def tw279231551048007048:=I
def tw12935799535690432904:=I
def tw1909388192690030984:=I
def tw5853990422341449096:=I
def tw9806040327725185416:=I
def tw16427737079452276168:=I
def tw4774313928362268104:=I
def tw13571244718621641160:=I
def tw10746961001314655720:=I
def tw14886365969775444456:=I
def tw6918519391679014376:=I
def tw535610076409950696:=I
def tw9347745426049485320:=I
def tw10500112434067951144:=I
def tw10319268710498562600:=I
def tw12807713159722547784:=I
def tw7539781450513547880:=I
def tw12198044807222832744:=I
def tw10425768116767085224:=I
def tw10667575783354772200:=I
def tw3685673433649075944:=I
def tw12978403823777553160:=I
def tw15024406710113288968:=I
def tw12997399398062177064:=I
def tw3338624537008480072:=I
def tw8004389494865294184:=I
def tw17158156448716705672:=I
def tw8505962898606101480:=I
def tw2737936306239719529:=I
def tw14381021501636745385:=I
def tw4375816571449298089:=I
def tw9072682404598152361:=I
def tw3907187771020805321:=I
def tw16926406051165373673:=I
def tw2830704991465516265:=I
def tw15860689603584417001:=I
def tw15419374237173131561:=I
def tw12824843603465273705:=I
def tw8162118201777273193:=I
def tw9036456711966824841:=I
def tw17254799948688989577:=I
def tw13396633726525990313:=I
def tw5824199154756642249:=I
def tw10638685241824810505:=I
def tw1855733395190874665:=I
def tw16221074973089546793:=I
def tw2191856634889782825:=I
def tw8814346988197792297:=I
def tw17937294485090918953:=I
def tw9295983684687668809:=I
def tw4342160715510467145:=I
def tw488598203279601257:=I
def tw15514070722421533321:=I
def tw17369463123508701833:=I
def tw4347594244440113897:=I
def tw6614834861918172937:=I
def tw9944453868487044905:=I
def tw10280060359099260745:=I
def tw17430929807831296969:=I
def tw5206758774280389642:=I
def tw17433324836474799146:=I
def tw8388154253783772298:=I
def tw12034917267870530698:=I
def tw10316442406079745194:=I
def tw9589073843648859338:=I
def tw6544234900407455946:=I
def tw9523907327597129930:=I
def tw14741959885722308874:=I
def tw12169100678832820586:=I
def tw9334415444259967370:=I
def tw15000806807894833546:=I
def tw17807053856641547658:=I
def tw10513109524027228586:=I
def tw15037625901506288042:=I
def tw6360732764358274474:=I
def tw6309561875575504298:=I
def tw1632414960732152266:=I
def tw3604890271861606890:=I
def tw6579540030331521578:=I
def tw3612604859078267434:=I
def tw261375591968505386:=I
def tw10094720113082008170:=I
def tw13480376921668832874:=I
def tw2293790835133350602:=I
def tw15362206918957758154:=I
def tw8963738835269021418:=I
def tw626177583548728074:=I
def tw17739662300867701546:=I
def tw4410430874295269162:=I
def tw4283137870079256394:=I
def tw16741962618959869802:=I
def tw4335286362363608938:=I
def tw7909671647443701642:=I
def tw8292820542903090058:=I
def tw10483963979467136938:=I
def tw12559018462191487946:=I
def tw13333776096292576267:=I
def tw6729082411359875083:=I
def tw5258360572441473035:=I
def tw15485059499244729387:=I
def tw1035716560146030635:=I
def tw6316564107627526187:=I
def tw11758329186334834763:=I
def tw17758384034406736971:=I
def tw16636217561717360779:=I
def tw17697617073874816171:=I
def tw1651625452462841035:=I
def tw18043339335965363403:=I
def tw1564569374777922763:=I
def tw6348493767311221963:=I
def tw3175215511365334251:=I
def tw15908556550037321995:=I
def tw6906126805595085067:=I
def tw12359969408927687979:=I
def tw9894292126783188331:=I
def tw12780616858897437035:=I
def tw6937763803853745547:=I
def tw3970902012999953867:=I
def tw15317184081056603627:=I
def tw3692128076381100619:=I
def tw49865953279527499:=I
def tw9308227965471027787:=I
def tw18304447045388498507:=I
def tw4269701484413457003:=I
def tw10508562398262598251:=I
def tw17356326986454585963:=I
def tw15810835513139822251:=I
def tw15880065540993620779:=I
def tw5504029465771498315:=I
def tw9030516753409923915:=I
def tw15557453749555377003:=I
def tw4111172044132264843:=I
def tw13847367965078436747:=I
def tw1398240564844999788:=I
def tw15268287087159751884:=I
def tw13751365737994393836:=I
def tw17300424078629925132:=I
def tw6952756029851452716:=I
def tw18012073139178098988:=I
def tw16179363915390375244:=I
def tw14020050713889240396:=I
def tw14673447416968487308:=I
def tw13268566783405016460:=I
def tw13759325740258422156:=I
def tw14185733420744990124:=I
def tw18265329798274882028:=I
def tw4086570546195612140:=I
def tw1354222128523992620:=I
def tw5425592364751445580:=I
def tw293632894525212300:=I
def tw1532101071233327756:=I
def tw5767768068228183724:=I
def tw11033315537175852748:=I
def tw10057060806517801676:=I
def tw814559449027384044:=I
def tw10705869313870938860:=I
def tw84705337253450508:=I
def tw10433613555291936524:=I
def tw11740895625371414316:=I
def tw11962448967909598028:=I
def tw776189818241209196:=I
def tw9183249170634982284:=I
def tw15620814470117890028:=I
def tw440906346180810732:=I
def tw6519719659561990124:=I
def tw16360935790753999852:=I
def tw16305633801736745964:=I
def tw12632033610780882957:=I
def tw1813241179454968877:=I
def tw18257627028907041837:=I
def tw14872078381879550029:=I
def tw5992773322548430957:=I
def tw1368594952699469997:=I
def tw10328072156882032845:=I
def tw7928840263901896909:=I
def tw9547544041897358541:=I
def tw3256485128770401517:=I
def tw13274406667569255661:=I
def tw6375266470643715341:=I
def tw11957340678754391309:=I
def tw17260547213122657549:=I
def tw13776167101043190061:=I
def tw9527051141465676109:=I
def tw2919144753318569293:=I
def tw10721149500540756333:=I
def tw3479293536775311789:=I
def tw328555819907898797:=I
def tw14178026699812278733:=I
def tw13058798442114036173:=I
def tw16332841543490454989:=I
def tw10234093015095133645:=I
def tw8670469077236662765:=I
def tw10563839378713619021:=I
def tw13158478627731680845:=I
def tw16480636866321398349:=I
def tw3374785116218979917:=I
def tw205835004844158573:=I
def tw6745564791732849261:=I
def tw7279063651577678477:=I
def tw16033522386484777645:=I
def tw7974868501336447661:=I
def tw562448042186027725:=I
def tw3216333645963520717:=I
def tw7605246488127010541:=I
def tw15188842820218130221:=I
def tw13431918710032750381:=I
def tw8466621447958553421:=I
def tw18255738118060959565:=I
def tw1889793639662350157:=I
def tw10358810358633235341:=I
def tw9688471646113212301:=I
def tw594281649399517069:=I
def tw12200018528966697869:=I
def tw12846520488714052525:=I
def tw15893552009401186221:=I
def tw10727934120604322733:=I
def tw15826936265939340205:=I
def tw680114555123191757:=I
def tw3453413626431277037:=I
def tw13305953085438439405:=I
def tw2513213074444456014:=I
def tw6142320235244444782:=I
def tw5661854345217225870:=I
def tw13323505906676290702:=I
def tw1175977019801369742:=I
def tw13559334515004936366:=I
def tw7523997653809155278:=I
def tw6080582998117108974:=I
def tw10012052010772763918:=I
def tw2281227733295466830:=I
def tw7634722438579697998:=I
def tw11004666939091202414:=I
def tw10315549322506670478:=I
def tw6280137557680703982:=I
def tw8125595993795443342:=I
def tw16434125699257811758:=I
def tw2978327776405120814:=I
def tw4385248437226556302:=I
def tw3819734048088215438:=I
def tw8799366739539474350:=I
def tw9715859320519422894:=I
def tw8057283535422989359:=I
def tw13228281436089695311:=I
def tw14925456234819374191:=I
def tw16043960765949643919:=I
def tw765592268074330287:=I
def tw10085336687273005231:=I
def tw13540957065403742511:=I
def tw4668188211198913999:=I
def tw12285651434294473167:=I
def tw16047824142015528399:=I
def tw16790949495417133647:=I
def tw5122698891412073071:=I
def tw4213081454948272783:=I
def tw9933695494469767823:=I
def tw17520713826042745551:=I
def tw8050011244656203471:=I
def tw5415882442439956271:=I
def tw2332474524679291695:=I
def tw12410747304759304015:=I
def tw10790013389564498799:=I
def tw15362093373526764431:=I
def tw9070118755761324975:=I
def tw3575182718668900271:=I
def tw11489870581465553839:=I
def tw2428657569063381999:=I
def tw13050857403248082960:=I
def tw4892525108023463984:=I
def tw5120576224436399184:=I
def tw2636547154244729936:=I
def tw16324364248682870896:=I
def tw6700651106150342800:=I
def tw1802493798613201072:=I
def tw15122660763008747696:=I
def tw16652856039550667056:=I
def tw14239145550731500848:=I
def tw8856182780353406288:=I
def tw4194108842281265488:=I
def tw7056919890668556720:=I
def tw17296418655379604912:=I
def tw2407857906451358160:=I
def tw16515867331124182576:=I
def tw728625464190928496:=I
def tw6818882539219324592:=I
def tw7056578473659985584:=I
def tw15193504871863580432:=I
def tw2041025708766306096:=I
def tw10271678403770307376:=I
def tw11722716330863517488:=I
def tw3680089362384487248:=I
def tw4938576950080097232:=I
def tw1605415728160108496:=I
def tw13825488379715860464:=I
def tw16237426644293436465:=I
def tw18196803063593483409:=I
def tw14429846101687001233:=I
def tw7813418574917151921:=I
def tw8354963676594292913:=I
def tw13398679114074309841:=I
def tw14186387796341398801:=I
def tw18232172014766435665:=I
def tw70249381362718033:=I
def tw7089372103262828881:=I
def tw2772782970977536401:=I
def tw8824533219907657105:=I
def tw7728921871449191921:=I
def tw15133611505189123665:=I
def tw16469852953929811569:=I
def tw4877204248332034769:=I
def tw11188179813478268625:=I
def tw11941169257757716209:=I
def tw7035143544860334865:=I
def tw3581188650743138097:=I
def tw14375616924379417425:=I
def tw13713788384904323921:=I
def tw11589217886484351889:=I
def tw3998291270617647122:=I
def tw1733914328694410290:=I
def tw7244721730986615890:=I
def tw1681182442942517330:=I
def tw4651237987742704722:=I
def tw14080704433906865298:=I
def tw12065902484915219602:=I
def tw12337592783369739538:=I
def tw8582835337296421138:=I
def tw4786303596462550290:=I
def tw3222260541025876242:=I
def tw6071596386158283058:=I
def tw3220108447982564658:=I
def tw8328117537768420690:=I
def tw1628713605843237202:=I
def tw4315728377567934802:=I
def tw4301564225074546:=I
def tw7909898223712791922:=I
def tw13352177796808938898:=I
def tw2707765584736752050:=I
def tw5080529869224108466:=I
def tw11809494005222436274:=I
def tw924169777536467570:=I
def tw270537608599539346:=I
def tw4699857560328716946:=I
def tw12968097303921300146:=I
def tw10897634122169974482:=I
def tw3606659003232199410:=I
def tw15143128596162936594:=I
def tw6711778742264107858:=I
def tw7869433589989213042:=I
def tw6678293961697057650:=I
def tw13090477034683350962:=I
def tw15435491653982637010:=I
def tw5189689831271696499:=I
def tw7268562405867928691:=I
def tw6586538451353575571:=I
def tw3504822936580906131:=I
def tw6899493127992814771:=I
def tw15708923066116002035:=I
def tw2805090442690160915:=I
def tw13921588429996881171:=I
def tw17575742217150709043:=I
def tw2623244092286648659:=I
def tw11118413882017835347:=I
def tw17597979410122994003:=I
def tw4814580292856058227:=I
def tw5524862166485518707:=I
def tw7090370149432116691:=I
def tw11619666137443660243:=I
def tw16452492146593968627:=I
def tw14094893128447648243:=I
def tw1436664562573487635:=I
def tw6606959742831322643:=I
def tw11878874285540508211:=I
def tw1083411592073756307:=I
def tw759967129484259987:=I
def tw6879522068517743283:=I
def tw6923831520544808691:=I
def tw16605420151144111891:=I
def tw6104911069241943859:=I
def tw1574145554020157235:=I
def tw7560692432023173971:=I
def tw13487036974895878995:=I
def tw10758829879088284531:=I
def tw15262701537577045971:=I
def tw8505923479139319763:=I
def tw12342350016008241139:=I
def tw10415128002749549555:=I
def tw15199328756788138004:=I
def tw9705134840456425524:=I
def tw147860762941090900:=I
def tw5418767975879528628:=I
def tw821753027686974708:=I
def tw6616158528957495572:=I
def tw17203017877836282164:=I
def tw15783402816877785396:=I
def tw17330605944765519188:=I
def tw15268935612960010612:=I
def tw1686459142704023956:=I
def tw773477590361221716:=I
def tw18387426329568974452:=I
def tw12847922257034263188:=I
def tw10838048314099519124:=I
def tw11614059709349372596:=I
def tw3657390557434829492:=I
def tw17138215362216979124:=I
def tw15144285993260128980:=I
def tw725959918086234836:=I
def tw15199494646480385748:=I
def tw15863486058036526836:=I
def tw15965734646947219252:=I
def tw2175735042860230452:=I
def tw183914265107553076:=I
def tw11436850131352805172:=I
def tw1537545509202988948:=I
def tw7969961902671179668:=I
def tw9055981463941070740:=I
def tw6122115281607824308:=I
def tw7803447930130770965:=I
def tw9143588763474439189:=I
def tw3607695580436071477:=I
def tw16467588675773285429:=I
def tw3074011105028070453:=I
def tw15975802698322256981:=I
def tw17771299796007998549:=I
def tw187485265415541941:=I
def tw5995340696695952597:=I
def tw16863491335677334741:=I
def tw2922653114181954805:=I
def tw10550275337446077781:=I
def tw11305916253273146741:=I
def tw6316431325516597653:=I
def tw1030206921471604181:=I
def tw15836706152958119477:=I
def tw16785998312296658517:=I
def tw856315349366184597:=I
def tw10385991324538801845:=I
def tw17683750551749370549:=I
def tw14460372097906111157:=I
def tw613329715045477109:=I
def tw15705585922009859861:=I
def tw13269870162033035029:=I
def tw2083190133571448597:=I
def tw520947999843091285:=I
def tw9228736368370436949:=I
def tw7608262224822251381:=I
def tw9993488733647566709:=I
def tw13086047725219559381:=I
def tw3716535539976009685:=I
def tw16051874851316351989:=I
def tw17874816208845627414:=I
def tw11520104643044316214:=I
def tw18444867059390386294:=I
def tw14126203887806333078:=I
def tw16893994739050152118:=I
def tw10760911548475948214:=I
def tw9424765247498690806:=I
def tw9449601124074192118:=I
def tw13835538090255453462:=I
def tw18094374506980052246:=I
def tw15578559811137245622:=I
def tw5555201391865254390:=I
def tw16604964696370060822:=I
def tw17843329727064513078:=I
def tw17785395675534586454:=I
def tw5776440170916552310:=I
def tw1688289528530986614:=I
def tw8633007795507119766:=I
def tw13446493301946920662:=I
def tw5108394221144234742:=I
def tw13205977322415056630:=I
def tw989611021732309750:=I
def tw9880838555668616982:=I
def tw833822891298184982:=I
def tw7205791180901628758:=I
def tw1339842604412276630:=I
def tw859834242918976438:=I
def tw10962181557930557398:=I
def tw14222152986883460119:=I
def tw5771451177588544535:=I
def tw8850328453803438135:=I
def tw12844664086876797015:=I
def tw8508522067103252599:=I
def tw8223948858238835863:=I
def tw14435584047744736407:=I
def tw12517536603027354807:=I
def tw14640645088524863703:=I
def tw10596605315732460855:=I
def tw13128797432062053783:=I
def tw11349927159743994263:=I
def tw4839628200870477207:=I
def tw2921173980784483767:=I
def tw10465724066881668631:=I
def tw1789845473230486039:=I
def tw12304051958045907511:=I
def tw17089957209007016503:=I
def tw7676297851824798295:=I
def tw3604628868707920503:=I
def tw17377289770898674295:=I
def tw14589571409279591191:=I
def tw991947387840485143:=I
def tw9008672499051242295:=I
def tw7277722677684702039:=I
def tw608832921492852567:=I
def tw14529197001187418967:=I
def tw11073180835567641463:=I
def tw6594692702503061367:=I
def tw16171319527898383319:=I
def tw3675193561065269207:=I
def tw6878438078252476375:=I
def tw13149874147925459959:=I
def tw13383428793084237815:=I
def tw10321720093021771800:=I
def tw17331261393191117848:=I
def tw13209132608387759160:=I
def tw6597325880502205496:=I
def tw14471185333924318264:=I
def tw13092672397856428088:=I
def tw6867249754613406776:=I
def tw17672959008489703544:=I
def tw16577333414736056472:=I
def tw753794893117515928:=I
def tw16657383553997245624:=I
def tw15357269549347966136:=I
def tw4317889713611120824:=I
def tw4848097004593406168:=I
def tw14922637053899404504:=I
def tw9030062307439037688:=I
def tw12354427817260183800:=I
def tw5604876447612766520:=I
def tw5441162936029904216:=I
def tw4940218766280603032:=I
def tw17264185860651483640:=I
def tw1851669533918955000:=I
def tw3443715987540967960:=I
def tw6156391923452727832:=I
def tw15751146066524978744:=I
def tw670570006166052440:=I
def tw13874063528073493080:=I
def tw10306484658335565432:=I
def tw5019125246040248984:=I
def tw5843922174194618040:=I
def tw7863368496005918392:=I
def tw12515017290888421080:=I
def tw9207155125687074520:=I
def tw1253763275631778520:=I
def tw9648494644772564696:=I
def tw10650445591809711864:=I
def tw2487193781749513976:=I
def tw5936247614420273976:=I
def tw7777933160097485656:=I
def tw10866085663853592408:=I
def tw17756783034751747960:=I
def tw18056115838202487672:=I
def tw12338244211946216344:=I
def tw15948565626122019865:=I
def tw9647961416840132633:=I
def tw16937506564653260857:=I
def tw11283237832097239129:=I
def tw1193918428506678425:=I
def tw2736499668165227769:=I
def tw744341446718595513:=I
def tw990664973473984985:=I
def tw10379873042745133593:=I
def tw6028163065622358585:=I
def tw9743447299507754617:=I
def tw16082969795422319225:=I
def tw8379316895444421273:=I
def tw379701413440001721:=I
def tw13040985118514822905:=I
def tw2088751319438728057:=I
def tw5111381142566911865:=I
def tw13743595001843491769:=I
def tw17156017777664889849:=I
def tw16841456012619994105:=I
def tw3419972243215298586:=I
def tw8498751544630784026:=I
def tw15502341981206335610:=I
def tw10078615490994953338:=I
def tw16329459927958645882:=I
def tw17488011739345594522:=I
def tw6338465414729133274:=I
def tw3120806328084636922:=I
def tw11913374891169079546:=I
def tw219670887650592026:=I
def tw4188084796350274842:=I
def tw932231894753477946:=I
def tw2428597287355600186:=I
def tw6447485725282850106:=I
def tw14593148439180501338:=I
def tw504015567419554202:=I
def tw11153834582590504346:=I
def tw7224242205225765274:=I
def tw13969244799912827386:=I
def tw13543168618821631514:=I
def tw14309960079862872666:=I
def tw13993864402912641690:=I
def tw3643636139384702618:=I
def tw8370909406389256858:=I
def tw10947815187804226298:=I
def tw12017559220188286714:=I
def tw1000876968719621882:=I
def tw7190734315982963450:=I
def tw10717075447989655290:=I
def tw7381643655088673562:=I
def tw6397579489294986010:=I
def tw5122810221208854298:=I
def tw14363678343605313338:=I
def tw5470807677066310458:=I
def tw17904266099559564122:=I
def tw744844789637231707:=I
def tw10593542090398586971:=I
def tw12380571196020196475:=I
def tw11363780290716395643:=I
def tw456486631537617051:=I
def tw4977031154700915899:=I
def tw10954754419152692539:=I
def tw17023212364673316155:=I
def tw16403188410726540635:=I
def tw15690143431675246939:=I
def tw15515394386722210171:=I
def tw7286372846139596155:=I
def tw1212701031368785275:=I
def tw14087723591089657243:=I
def tw5423442160832259483:=I
def tw12443384814777960891:=I
def tw3363226412533630395:=I
def tw18178670930820296123:=I
def tw645523768043675099:=I
def tw778934603971561979:=I
def tw16785485270664698427:=I
def tw16643134055021821627:=I
def tw10294747335568633563:=I
def tw16559114676742653691:=I
def tw2072228758489815803:=I
def tw6713192657648670523:=I
def tw733028393888610107:=I
def tw4083890651562678139:=I
def tw8370711986268097403:=I
def tw7333556680988482459:=I
def tw16276692009686526875:=I
def tw805275270228495291:=I
def tw16060829971415113691:=I
def tw10437087815659780091:=I
def tw9822891634448955452:=I
def tw3490603738168056924:=I
def tw5940486548113416316:=I
def tw17834115874080329884:=I
def tw15824783717851023516:=I
def tw7077543762939917500:=I
def tw11328645059125531836:=I
def tw2685335876567559356:=I
def tw15870167620093671644:=I
def tw5692132052146176284:=I
def tw9355990143061992764:=I
def tw9872425765524014460:=I
def tw13431351879499231644:=I
def tw8685457035011362236:=I
def tw16798493784693183932:=I
def tw13175873485633908188:=I
def tw12692904899904004636:=I
def tw16389500966470061628:=I
def tw4749464808552548988:=I
def tw16757109751245664924:=I
def tw2577612395616630428:=I
def tw9388253696532137660:=I
def tw16079151702592215740:=I
def tw13773834947610330876:=I
def tw839000808893998844:=I
def tw3274426377110375228:=I
def tw18136459266983679804:=I
def tw10925743001536522108:=I
def tw5083435947754199964:=I
def tw8081480450565030812:=I
def tw9357669590925145052:=I
def tw13217843690246438876:=I
def tw5980711800120060924:=I
def tw9565715899510801404:=I
def tw5673737724855200797:=I
def tw2337779375891173405:=I
def tw11263168454681317405:=I
def tw10592661713504375869:=I
def tw2392692373326283837:=I
def tw1702418173674874973:=I
def tw17299655270273373309:=I
def tw16356423279264522397:=I
def tw8813057106997694685:=I
def tw3777065183880575197:=I
def tw8961205977764148477:=I
def tw7750953788460312893:=I
def tw5202784020350908893:=I
def tw1576917732006355453:=I
def tw15009449464319926845:=I
def tw14783625659600899709:=I
def tw11912312947395777181:=I
def tw1254793123469776541:=I
def tw1923062024104597149:=I
def tw12760041427124858621:=I
def tw16387252193610774269:=I
def tw14277812960214649661:=I
def tw4738446392347769661:=I
def tw7033162710996269917:=I
def tw5784826557841829757:=I
def tw11287787796299689885:=I
def tw16695769151017959325:=I
def tw2963627601681572797:=I
def tw10058957615913218045:=I
def tw9822842475486853214:=I
def tw17258169075705391230:=I
def tw10310980719050811550:=I
def tw720112624110483646:=I
def tw8868577237884171454:=I
def tw10300563895201749214:=I
def tw14169554740013243710:=I
def tw12388871242790549822:=I
def tw7733861925549961534:=I
def tw119600673014780254:=I
def tw13033379152627416510:=I
def tw5869805248742999518:=I
def tw12137238359627194878:=I
def tw13632641811296323102:=I
def tw12186093810732153374:=I
def tw13771263453724583486:=I
def tw874852371332623934:=I
def tw16860648744112486974:=I
def tw13771602232891094622:=I
def tw14439985270905137854:=I
def tw14412216013991891678:=I
def tw1153520219458428638:=I
def tw12468099007512162046:=I
def tw1992889360895363870:=I
def tw2274989291188147998:=I
def tw1852500499167608638:=I
def tw16288651202022429566:=I
def tw7378346612611895198:=I
def tw9323761867332469694:=I
def tw1646303562592184286:=I
def tw12699983464315454462:=I
def tw15962511592307332094:=I
def tw5573218020697660414:=I
def tw8706244764381223967:=I
def tw9639658866613583935:=I
def tw17830178550298294367:=I
def tw8071212632024499327:=I
def tw2554340637275870431:=I
def tw8398836082077839615:=I
def tw3160221775660620063:=I
def tw16676245500949121375:=I
def tw7572113697260687711:=I
def tw14502086276352193919:=I
def tw6562128103741653407:=I
def tw3945128085043424671:=I
def tw5840134241597174207:=I
def tw11477607349415388639:=I
def tw6047038227591200255:=I
def tw9215686782439105055:=I
def tw10501767528373326399:=I
def tw1787263731867587135:=I
def tw14041688610799150655:=I
def tw5655048703185793663:=I
def tw9687266567090595455:=I
def tw6905941771344188063:=I
def tw14151172208124399295:=I
def tw5819567320344674015:=I
def tw6063042870306599647:=I
def tw14874033268932043519:=I
def tw14443695484124149567:=I
def tw8921079568881600319:=I
def tw7121819176112048991:=I
def tw13182317158808969055:=I
def tw10634944167121186655:=I
def tw3460145209657750463:=I
def tw8059113596598229983:=I
def tw2290591380282693599:=I
end PySem.W.Fast
open PySem PySem.W PyProof.Rows
set_option maxRecDepth 100000 in
set_option maxHeartbeats 0 in
theorem PySem.Challenge.cw_stripmeld_k21_village_begins_holds : PySem.Challenge.rw_stripmeld_k21_village_begins.Holds := by
 w_on;o_law;k_head;(case hw=>w_witness2)
 k_fill
 refine L2.Rb (l:=PySem.Challenge.rw_stripmeld_k21_village_begins) (n:=63) (k:=9) (x:="_law_script") (CX:=L2.CX0) (sp:=Pu.BB) rfl (by decide) rfl ⟨rfl,by decide,by decide,rfl⟩ (fun w h Y=>PySem.W.kIn_of Y) ?F ?S ?C
 case F=>
  intro w mg fa h KX G hmg
  refine' T.Gq KX G hmg ?VT ?VW ?VX ?VY ?VZ ?Ja ?Jb ?Jc ?Jd ?Je ?a0 ?a1 ?a2 ?a3 ?a4 ?a5 ?a6 ?a7 ?a8 ?a9 ?a10 ?a11 ?a12 ?a13 ?a14 ?a15 ?a16 ?a17 ?a18 ?a19 ?a20 ?a21 ?a22 ?a23 ?a24 ?a25 ?a26 ?a27 ?a28 ?a29 ?a30 ?a31 ?a32 ?a33 ?a34 ?a35 ?a36 ?a37 ?a38 ?l38 ?c38 ?k38 ?Jf ?Jg ?Jh ?Ji ?Jj ?Jk ?Jl ?Jm ?Jn ?Jo ?Jp ?Jq ?Jr ?Js ?Jt ?Ju ?Jv ?Jw ?Jx ?zm_DEEDS ?zl_DEEDS ?ze_DEEDS ?Jy ?zm_OTHERS ?zl_OTHERS ?ze_OTHERS ?VA ?VB ?VC ?VD ?VE ?VF ?VG ?VH ?VI ?VJ ?VL ?VM ?VN ?VO ?VP ?VQ ?VR ?VV ?x_Ringed ?x_all ?x_TooManyStrips_MeldError ?x_BadHolder_MeldError ?x_BadWidth_MeldError ?k_TooManyStrips_ValueError ?k_TooManyStrips_TooManyStrips ?k_TooManyStrips_BadHolder ?k_TooManyStrips_BadWidth ?k_BadHolder_ValueError ?k_BadHolder_TooManyStrips ?k_BadHolder_BadHolder ?k_BadHolder_BadWidth ?k_BadWidth_ValueError ?k_BadWidth_TooManyStrips ?k_BadWidth_BadHolder ?k_BadWidth_BadWidth
  (case VT|VW|VX|VY|VZ|Ja|Jb|Jc|Jd|Je=>k_is)
  (case a0|a1|a2|a3|a4|a5|a6|a7=>apply Pu.di<;>k_is)
  (case a8|a9|a10|a11|a12|a13|a14|a15=>apply Pu.mi<;>k_is)
  (case a16|a17|a18|a19|a20|a21|a22|a23|a24|a25|a26|a27|a28|a29|a30|a31|a32|a33|a34|a35|a36|a37=>apply Pu.di<;>k_is)
  (case a38|l38|c38|k38|Jf|Jg|Jh|Ji|Jj|Jk|Jl|Jm|Jn|Jo|Jp|Jq|Jr|Js|Jt|Ju|Jv|Jw|Jx=>k_is)
  (case zm_DEEDS=>decide)
  (case zl_DEEDS=>k_is)
  (case ze_DEEDS=>exact⟨⟨_,rfl⟩,rfl,⟨_,rfl⟩,⟨⟨_,rfl⟩,rfl,⟨_,rfl⟩,⟨⟨_,rfl⟩,rfl,⟨_,rfl⟩,⟨⟨_,rfl⟩,rfl,⟨_,rfl⟩,⟨⟨_,rfl⟩,rfl,⟨_,rfl⟩,trivial⟩⟩⟩⟩⟩)
  (case Jy=>k_is)
  (case zm_OTHERS=>decide)
  (case zl_OTHERS=>k_is)
  (case ze_OTHERS=>exact⟨⟨_,rfl⟩,rfl,⟨_,rfl⟩,⟨⟨_,rfl⟩,rfl,⟨_,rfl⟩,⟨⟨_,rfl⟩,rfl,⟨_,rfl⟩,⟨⟨_,rfl⟩,rfl,⟨_,rfl⟩,⟨⟨_,rfl⟩,rfl,⟨_,rfl⟩,⟨⟨_,rfl⟩,rfl,⟨_,rfl⟩,⟨⟨_,rfl⟩,rfl,⟨_,rfl⟩,⟨⟨_,rfl⟩,rfl,⟨_,rfl⟩,⟨⟨_,rfl⟩,rfl,⟨_,rfl⟩,trivial⟩⟩⟩⟩⟩⟩⟩⟩⟩)
  (case VA|VB|VC|VD|VE|VF|VG|VH|VI|VJ|VL|VM|VN|VO|VP|VQ|VR=>apply Pu.ei<;>first|(k_is;done)|k_exc)
  (case VV=>k_is)
  (case x_Ringed=>kts_exm)
  (case x_all=>kernel_rfl)
  (case x_TooManyStrips_MeldError|x_BadHolder_MeldError|x_BadWidth_MeldError=>kts_exm)
  (case k_TooManyStrips_ValueError|k_TooManyStrips_TooManyStrips|k_TooManyStrips_BadHolder|k_TooManyStrips_BadWidth|k_BadHolder_ValueError|k_BadHolder_TooManyStrips|k_BadHolder_BadHolder|k_BadHolder_BadWidth|k_BadWidth_ValueError|k_BadWidth_TooManyStrips|k_BadWidth_BadHolder|k_BadWidth_BadWidth=>kit_is)
 case S=>exact fun K H a ns hl hO hS=>⟨a,ns,rfl,hS,fun _=>rfl⟩
 case C=>exact fun _ _ _ _ z=>z
