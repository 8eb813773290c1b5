import PyProof.Rows.All
import Wide.All
import OpenK.AllK
import Wide.FinOn
import Lean
import PyProof.EqAt
import PyProof.EqKinds
import PyProof.TupleCall
import PySem.Challenge.RW_stripmeld_k26_full_book
set_option Elab.async false
set_option linter.all false
set_option compiler.extract_closed false
set_option genSizeOf false
set_option maxRecDepth 100000
def bu_0(h:True:=by rfl):True:=h
def au_0:Lean.Syntax:=bu_0._auto_1
def bu_1(h:True:=by decide):True:=h
def au_1:Lean.Syntax:=bu_1._auto_1
def bu_2(h:True:=by first | exact .inl rfl | exact .inr rfl | assumption):True:=h
def au_2:Lean.Syntax:=bu_2._auto_1
def bu_3(h:True:=by intro _; rfl):True:=h
def au_3:Lean.Syntax:=bu_3._auto_1
def bu_4(h:True:=by first | exact Or.inl rfl | exact Or.inr (Or.inl rfl) | exact Or.inr (Or.inr rfl)):True:=h
def au_4:Lean.Syntax:=bu_4._auto_1
def bu_5(h:True:=by decide +kernel):True:=h
def au_5:Lean.Syntax:=bu_5._auto_1
def bu_6(h:True:=by first | exact Or.inl rfl | exact Or.inr rfl):True:=h
def au_6:Lean.Syntax:=bu_6._auto_1
def bu_7(h:True:=by intro _ _; rfl):True:=h
def au_7:Lean.Syntax:=bu_7._auto_1
def bu_8(h:True:=by size_fits):True:=h
def au_8:Lean.Syntax:=bu_8._auto_1
def bu_9(h:True:=by kernel_rfl):True:=h
def au_9:Lean.Syntax:=bu_9._auto_1
def bu_10(h:True:=by intro _; first | exact Or.inl rfl | exact Or.inr (Or.inl rfl) | exact Or.inr (Or.inr rfl)):True:=h
def au_10:Lean.Syntax:=bu_10._auto_1
def bu_11(h:True:=by intro _; exact ⟨rfl, rfl, rfl⟩):True:=h
def au_11:Lean.Syntax:=bu_11._auto_1
def bu_12(h:True:=by with_unfolding_all rfl):True:=h
def au_12:Lean.Syntax:=bu_12._auto_1
def bu_13(h:True:=by intro _; first | exact Or.inl rfl | exact Or.inr rfl):True:=h
def au_13:Lean.Syntax:=bu_13._auto_1
def bu_14(h:True:=by intro _; first | exact .inl rfl | exact .inr rfl | assumption):True:=h
def au_14:Lean.Syntax:=bu_14._auto_1
def bu_15(h:True:=by intro _; kernel_rfl):True:=h
def au_15:Lean.Syntax:=bu_15._auto_1
noncomputable section
def Ww:=@PySem.wpAny_bind
def Wx:=@List.length_map
def Wy:=@List.getElem?_eq_getElem
def Wz:=@List.mem_singleton
def W1:=@PySem.wpAny_pure
def W2:=@PySem.Heap.get?_push_of_some
def W3:=@if_neg
def W4:=@decide_eq_true
def W5:=@Nat.le_refl
def W6:=@if_pos
def W7:=@of_decide_eq_true
def W8:=@PySem.Heap.lt_size
def W9:=@PySem.Heap.get?_push_size
def WA:=@List.mem_cons
def WB:=@List.getElem?_map
def WC:=@Nat.le_trans
def WD:=@Option.some.inj
def WE:=@List.length_append
def WG:=@List.mem_cons_of_mem
def WH:=@decide_eq_false
def WI:=@List.getElem?_eq_some_iff
def WJ:=@List.getD_eq_getElem?_getD
def WK:=@Bool.false_ne_true
def WL:=@List.mem_append
def WM:=@Nat.ne_of_lt
def WN:=@List.map_cons
def WO:=@List.mem_append_right
def WQ:=@List.mem_map
def WR:=@Nat.lt_of_lt_of_le
def WS:=@List.mem_cons_self
def WT:=@List.mem_of_getElem?
def WU:=@List.map_append
def WV:=@PySem.wpAny_mono
def WW:=@List.take_succ_eq_append_getElem
def WX:=@List.size_toArray
def WY:=@List.getElem_mem
def WZ:=@PySem.W.mg_none_of
def Qa:=@Bool.and_eq_true
def Qb:=@PySem.PassesOwn.never
def Qc:=@Array.length_toList
def Qd:=@List.getElem?_append_right
def Qe:=@PySem.W.mg_of
def Qf:=@congrArg
def Qg:=@List.append_nil
def Qh:=@List.getElem?_append_left
def Qi:=@List.all_eq_true
def Qj:=@PySem.Heap.get?_update_self
def Qk:=@PySem.wpAny_newObj_type
def Ql:=@Int.toNat_natCast
def Qm:=@Array.getElem?_eq_getElem
def Qn:=@Classical.byContradiction
def Qo:=@List.nodup_cons
def Qp:=@List.length_take
def Qq:=@List.length_cons
def Qr:=@PySem.W.kia_one
def Qs:=@PySem.Obj.data_mapFields
def Qt:=@List.mem_iff_getElem
def Qu:=@PySem.Heap.get?_update_other
def Qv:=@List.pairwise_iff_getElem
def Qw:=@PySem.Heap.SameBut.update
def Qx:=@PySem.wpAny_loadPart_at
def Qy:=@List.map_map
def Qz:=@PySem.F.plainAttrs_list
def Q0:=@List.mem_append_left
def Q1:=@List.mem_filter
def Q2:=@List.length_set
def Q3:=@PyProof.Rows.boot_isinstance
def Q4:=@Array.getElem?_toList
def Q5:=@List.lookup_cons
def Q6:=@Nat.zero_le
def Q7:=@Nat.add_le_add
def Q8:=@beq_eq_false_iff_ne
def Q9:=@Nat.lt_irrefl
def QA:=@List.not_mem_nil
def QB:=@List.take_length
def QC:=@PySem.wpAny_setField
def QD:=@PySem.Obj.isFreed_of_fields
def QE:=@List.getElem?_take_of_lt
def QF:=@PySem.F.slot_dict_valueiterator_next
def QG:=@PySem.wpAny_truthy_bool
def QH:=@PySem.wpAny_holding
def QI:=@PySem.wpAny_typeNameOfWhole_valiter
def QJ:=@List.filterMap_cons
def QK:=@PySem.mem_of_lookup
def QL:=@PySem.wpAny_call_entry
def QM:=@List.dropLast_concat_getLast
def QN:=@List.filterMap_eq_map'
def QO:=@Nat.le_of_eq
def QP:=@PySem.codeAny_mono
def QR:=@Nat.lt_of_le_of_lt
def QS:=@PySem.wpAny_passesOwn
def QT:=@List.find?_cons
def QU:=@PySem.codeAny_builtin
def QV:=@List.length_filter_le
def QW:=@PySem.F.excBase_ValueError
def QX:=@PySem.wpAny_setState_of
def QY:=@List.nodup_append
def QZ:=@PySem.Heap.get?_none_of_le
def Va:=@PySem.W.looks_findIn
def Vb:=@PySem.wpAny_typeNameOf_valiter
def Vc:=@PySem.F.slot_list_append
def Vd:=@PySem.F.type_list_append
def Ve:=@PySem.wpAny_Call_Name_kw
def Vf:=@Nat.le_succ
def Vg:=@Array.getElem?_eq_none
def Vh:=@List.getElem_take
def Vi:=@PySem.Heap.size_push
def Vj:=@Nat.lt_trans
def Vk:=@List.nodup_nil
def Vl:=@List.getElem?_eq_none
def Vm:=@List.filterMap_append
def Vn:=@PyProof.Rows.callWith_type1
def Vo:=@List.cons_append
def Vp:=@List.pairwise_append
def Vq:=@PySem.Around.under_plainId
def Vr:=@PySem.codeAny_call_builtin
def Vs:=@List.all_cons
def Vt:=@List.any_cons
def Vu:=@Array.getElem?_eq_some_iff
def Vv:=@PySem.wpAny_isSubtype_exc
def Vw:=@List.mem_map_of_mem
def Vx:=@Bool.eq_iff_iff
def Vy:=@List.drop_eq_getElem_cons
def Vz:=@Nat.le_of_lt
def V0:=@PySem.W.callWith_K
def V1:=@PySem.F.args_tuple_add_2
def V2:=@PyProof.Rows.F.entry_set_update_loop
def V3:=@PyProof.Rows.F.plain_set_update_loop
def V4:=@PySem.Code.quiet_builtin
def V5:=@Bool.false_eq_true
def V6:=@List.contains_cons
def V7:=@List.map_singleton
def V8:=@List.mem_range
def V9:=@Nat.not_lt
def VA:=@List.take_zero
def VB:=@List.getElem?_replicate
def VC:=@PySem.F.entry_tuple_add
def VD:=@PySem.wpAny_callSpecial?_slot
def VE:=@List.length_eq_zero_iff
def VF:=@List.getElem?_cons_succ
def VG:=@PySem.wpAny_pyIter_list
def VH:=@List.take_sublist
def VI:=@PySem.fits_of_scanBound
def VJ:=@Nat.lt_succ_of_lt
def VL:=@PySem.Obj.cls_mapFields
def VM:=@Bool.eq_false_iff
def VN:=@decide_eq_true_eq
def VO:=@PySem.F.slot_tuple_add
def VP:=@PySem.wpAny_standAt
def VQ:=@Nat.lt_succ_self
def VR:=@if_false
def VS:=@PySem.W.Looks.ld
def VT:=@Nat.succ_le_succ
def VU:=@PySem.W.methodCall_KW
def VW:=@PySem.F.typeOf_object_class
def VX:=@PySem.codeAny_handlers_test
def VY:=@PySem.wpAny_isOneOf_valiter
def VZ:=@List.getElem?_reverse
def Ja:=@PySem.F.slot_list_pop
def Jb:=@PySem.F.type_list_pop
def Jc:=@List.getElem?_set_ne
def Jd:=@PySem.wpAny_execs_nil
def Je:=@PySem.wpAny_call
def Jf:=@PySem.Calls.evalArgs_plain
def Jg:=@Option.map_some
def Jh:=@List.cons.injEq
def Ji:=@List.dropLast_concat
def Jj:=@PySem.W.plainGet_of
def Jk:=@PySem.W.looks_clsIn
def Jl:=@PySem.wpAny_handleBy_cons
def Jm:=@List.length_reverse
def Jn:=@PySem.length_partsBetween
def Jo:=@ne_true_of_eq_false
def Jp:=@PySem.sizeLine_eq
def Jq:=@PySem.wpAny_field
def Jr:=@List.mem_filterMap
def Js:=@PySem.W.Looks.here
def Jt:=@PySem.W.isNs_of_in
def Ju:=@Nat.add_sub_cancel
def Jv:=@Bool.true_and
def Jw:=@Option.isSome_map
def Jx:=@List.append_assoc
def Jy:=@List.ext_getElem?
def Jz:=@Nat.ne_of_gt
def J0:=@Bool.or_true
def J1:=@Int.add_zero
abbrev Yh:=List (Int×Int)
abbrev Yi:=List Int
abbrev Yj:=List (PySem.Addr×PySem.Obj)
abbrev Yk:=PySem.Str->Option PySem.Value
abbrev Yl:=PySem.Value->PySem.Shared->Prop
abbrev Ym:=List (Option Nat)
abbrev Yn:=List Nat
abbrev Yo:=List PySem.Value
abbrev Yp:=List PySem.Str
abbrev Yq:=List PySem.Expr
abbrev Yr:=List PySem.Stmt
abbrev Ys:=Option PySem.Value
abbrev Yt:=Option PySem.Addr
abbrev Yu:=List (PySem.Str×PySem.Addr)
abbrev Yv:=Array (Int×PySem.Value)
abbrev Yg:=PySem.W.Frag
namespace L2
open PySem PySem.Spec PyProof.Rows
abbrev Key:=Sum Int Str
noncomputable def NQ:Key->Value->Bool
 | .inl k,v=>Value.isInt k v
 | .inr x,v=>Value.isStrOf x v
noncomputable def Zcj(w:World):Key->Int
 | .inl k=>hashInt k
 | .inr x=>hashStr w x
def PD:∀{k}{v:Value},NQ k v=true->(∃i t,k=Sum.inl i/\v=Value.int i t)\/(∃x t,k=Sum.inr x/\v=Value.str x t)
 | .inl i,v,h=>by
  obtain⟨t,e⟩:=Value.isInt_shape h
  grind
 | .inr x,v,h=>by
  obtain⟨t,e⟩:=Value.isStrOf_shape h
  grind
def Ze2(i:Int)(t:Tok):NQ (.inl i) (.int i t)=true:=by simp[NQ,Value.isInt]
def Zfc(x:Str)(t:Tok):NQ (.inr x) (.str x t)=true:=by simp[NQ,Value.isStrOf]
def Zib(a b:Int):decide ((Sum.inl a:Key)=Sum.inl b)=(a==b):=by grind
def Zis(a b:Str):decide ((Sum.inr a:Key)=Sum.inr b)=decide (a=b):=by simp
def Zdy(a:Int)(b:Str):decide ((Sum.inl a:Key)=Sum.inr b)=false:=WH (λq=>nomatch q)
def O1(a:Str)(b:Int):decide ((Sum.inr a:Key)=Sum.inl b)=false:=WH (λq=>nomatch q)
noncomputable def KU(prog:Program)(w:World):PySem.KeyKind prog w Key where
 is:=NQ
 hash:=Zcj w
 inj:=λv a b ha hb=>by
  rcases PD ha with⟨i,t,rfl,rfl⟩|⟨x,t,rfl,rfl⟩
  ·rcases PD hb with⟨j,u,rfl,e⟩|⟨y,u,rfl,e⟩
   ·injection e with e1 _;rw[e1]
   ·exact nomatch e
  ·rcases PD hb with⟨j,u,rfl,e⟩|⟨y,u,rfl,e⟩
   ·exact nomatch e
   ·injection e with e1 _;rw[e1]
 byValue:=λk v h=>by
  rcases PD h with⟨i,t,rfl,rfl⟩|⟨x,t,rfl,rfl⟩<;>rfl
 pyHash:=λhv h=>by
  rcases PD hv with⟨i,t,rfl,rfl⟩|⟨x,t,rfl,rfl⟩
  ·exact wpAny_pyHash_int h
  ·exact wpAny_pyHash_str h
 eqBool:=λhu hv h=>by
  rcases PD hu with⟨i,t,rfl,rfl⟩|⟨x,t,rfl,rfl⟩
  ·rcases PD hv with⟨j,u,rfl,rfl⟩|⟨y,u,rfl,rfl⟩
   ·rw[Zib]at h;exact wpAny_eqBool_int h
   ·rw[Zdy]at h;exact SeqAt.EqAt.int_str i t y u _ _ _ _ h
  ·rcases PD hv with⟨j,u,rfl,rfl⟩|⟨y,u,rfl,rfl⟩
   ·rw[O1]at h;exact SeqAt.EqAt.str_int x t j u _ _ _ _ h
   ·rw[Zis]at h;exact wpAny_eqBool_str h
 «strs»:=λk x t v h=>by
  rcases PD h with⟨i,u,rfl,e⟩|⟨y,u,rfl,e⟩
  ·exact nomatch e
  ·injection e with e1 _;subst e1;cases v<;>rfl
def Zkp(prog:Program)(w:World)(i:Int)(t:Tok):(KU prog w).is (.inl i) (.int i t)=true:=Ze2 i t
def Zaz(prog:Program)(w:World)(x:Str)(t:Tok):(KU prog w).is (.inr x) (.str x t)=true:=Zfc x t
inductive V where
 |non|bl (b:Bool)|int (i:Int)|str (x:Str)|byt (b:Array UInt8)|flt (b:UInt64)|ref (a:Addr)|ty (n:String)
 deriving DecidableEq
def RelV:V->Value->Prop
 | .non,u=>u=Value.none
 | .bl b,u=>u=Value.bool b
 | .int i,u=>∃t,u=Value.int i t
 | .str x,u=>∃t,u=Value.str x t
 | .byt b,u=>∃t,u=Value.bytes b t
 | .flt b,u=>∃t,u=Value.float b t
 | .ref a,u=>u=Value.ref a
 | .ty n,u=>u=Value.type n
abbrev Vals:List V->Yo->Prop:=Paired RelV
def Vals.length (r:Vals xs us):xs.length=us.length:=Paired.length r
def Vals.get:∀{xs us}{i:Nat}{x:V},Vals xs us->xs[i]?=some x->∃u,us[i]?=some u/\RelV x u:=by
 intro l
 induction l with
 |nil=>
  intro _ i _ h e;simp at e
 |cons _ _ b=>
  intro _ i d h e;cases h with
  |cons h r=>
   cases i with
   |zero=>
    simp at e;subst e;exact⟨_,rfl,h⟩
   |succ i=>
    obtain⟨v,g,f⟩:=b r (by simpa using e);exact⟨v,by simpa using g,f⟩
def Vals.append:∀{xs b}{us f:Yo},Vals xs us->Vals b f->Vals (xs++b) (us++f):=by
 intro l
 induction l with
 |nil=>
  intro _ _ _ h s;cases h
  exact s
 |cons _ _ g=>
  intro _ _ _ h s;cases h with
  |cons h r=>
   exact .cons h (g r s)
theorem Vals.take:∀{xs us} n,Vals xs us->Vals (xs.take n) (us.take n)
 |_,_,0,_|_,_,_+1,.nil=>.nil
 |_,_,n+1,.cons r t=>.cons r (Vals.take n t)
theorem Vals.drop:∀{xs us} n,Vals xs us->Vals (xs.drop n) (us.drop n)
 |_,_,0,r=>r
 |_,_,_+1,.nil=>.nil
 |_,_,n+1,.cons _ t=>Vals.drop n t
def RelO:Option V->Ys->Prop
 |some v,some u=>RelV v u
 |none,none=>True
 |_,_=>False
def KV{b:Type}:List (b×V)->List (b×Value)->Prop:=Paired λ(p:b×V) (q:b×Value)=>p.1=q.1/\RelV p.2 q.2
noncomputable def kV:Key->V
 | .inl i=>.int i
 | .inr x=>.str x
inductive HO where
 |lst (xs:List V)
 |tup (xs:List V)
 |dK (kvs:List (Key×V))|dT (kvs:List (List Key×V))
 |set (S:Int->Bool) (n:Nat)
 |ins (C dx:Addr) (fs:List (Str×V))
 |own (x:Addr)
 |xd (fs:List (Str×V))
 |met (f x:Addr)
 |rng (lo hi:Int)
 |frz (o:Obj) (u:HO)
 |tbl (ps:Array Value)
 |ext (φ:Heap->Prop)
abbrev Hp:=Addr->Option HO
noncomputable def upd(H:Hp)(a:Addr)(o:HO):Hp:=λb=>if b=a then some o else H b
def Xw:upd H a o a=some o:=by unfold upd;rw[W6 rfl]
def Xl{a b o}(h:b≠a):upd H a o b=H b:=by unfold upd;rw[W3 h]
def DR:upd (upd H a o) a u=upd H a u:=by
 funext b;unfold upd;split<;>rfl
def Cj{H:Hp}{a b}{o u}(h:H a=some o)(f:H b=some u)(d:o≠u):a≠b:=by grind
def Kf{H:Hp}{a b}{o}(h:H a=some o)(f:H b=none):a≠b:=by grind
section
variable (P:Program) (w:World)
def ObjOk(H:Hp)(h:Heap)(a:Addr):HO->Prop
 | .lst xs=>xs.length<=sizeLine/\∃(g:Yo) (n:Nat),Vals xs g/\h.get? a=some {cls:=.type "list",data:=.seq g.toArray n}
 | .tup xs=>xs.length<=sizeLine/\∃g:Yo,Vals xs g/\IsTup h a g.toArray
 | .dK b=>b.length<=sizeLine/\(a==sysModules)=false/\∃y,KV b y/\h.DictOf (KU P w) a y
 | .dT b=>b.length<=sizeLine/\(a==sysModules)=false/\∃xs:List (List Key×Addr×Value),
   Paired (λ(p:List Key×V) (q:List Key×Addr×Value)=>p.1=q.1/\H q.2.1=some (.tup<|p.1.map kV)/\RelV p.2 q.2.2) b xs/\
   ∃o B J,h.get? a=some o/\o.ExactDict/\o.data=.dict B J/\B.toList=xs.map (entryOfKey<|tupleKind<|KU P w)/\(xs.map (·.1)).Nodup
 | .set S n=>h.SetOf (intKind P w) a S n
 | .ins C r fs=>H r=some (.own a)/\fs.length<=1000/\r≠a/\h.get? a=some (PySem.W.instObj C r)/\
   ∃l,h.Ns1 r l/\(∀f,RelO (fs.lookup f) (l f))/\PySem.Within l (fs.map (·.1))
 | .own _=>∃o,h.get? a=some o
 | .xd fs=>∃l,h.Ns1 a l/\∀f,RelO (fs.lookup f) (l f)
 | .rng lo G=>∃t u v,h.get? a=some {cls:=.type "range",data:=.fields #[.int lo t,.int G u,.int 1 v]}
 | .frz o u=>h.get? a=some o/\ObjOk H h a u
 | .tbl E=>h.get? a=some {cls:=.none,data:=.fields E}
 | .met f x=>h.get? a=some (PySem.W.methodObj (.ref f)<|.ref x)
 | .ext s=>s h/\(∃o,h.get? a=some o)/\∀A z:Heap,s A->(∀o,A.get? a=some o->z.get? a=some o)->s z
def HOk(H:Hp)(h:Heap):Prop:=∀a o,H a=some o->ObjOk P w H h a o
end
section
variable {P:Program}{w:World}{H H':Hp}{h h':Heap}{a:Addr}{o:HO}
def ObjOk.lt (x:ObjOk P w H h a o):a<h.objs.size:=by
 cases o with
 |lst xs=>obtain⟨_,_,_,_,e⟩:=x;exact W8 e
 |tup xs=>obtain⟨_,_,_,p⟩:=x;exact p.lt
 |set S n=>obtain⟨o,_,_,_,e,_⟩:=x;exact W8 e
 |ins C s fs=>obtain⟨_,_,_,e,_⟩:=x;exact W8 e
 |own y=>obtain⟨_,e⟩:=x;exact W8 e
 |xd fs=>obtain⟨_,⟨_,_,_,e,_⟩,_⟩:=x;exact W8 e
 |rng lo r=>obtain⟨_,_,_,e⟩:=x;exact W8 e
 |frz l u=>obtain⟨e,_⟩:=x;exact W8 e
 |tbl g|met f y=>exact W8 x
 |ext b=>obtain⟨_,⟨_,e⟩,_⟩:=x;exact W8 e
 |_=>obtain⟨_,_,_,_,o,_,_,e,_⟩:=x;exact W8 e
def Paired.mapP:∀{l:List u}{g:List s},Paired F l g->(∀a b,F a b->G a b)->Paired G l g:=by
 intro p
 induction p with
 |nil=>
  intro _ h _;cases h
  exact .nil
 |cons _ _ n=>
  intro _ h f;cases h with
  |cons h r=>
   exact .cons (f _ _ h) (n r f)
def ObjOk.stay (x:ObjOk P w H h a o) (k:∀b u,(b=a\/H b=some (.own a))->h.get? b=some u->h'.get? b=some u)
  (Q:∀b,H b=some (.own a)->H' b=some (.own a)) (N:∀b xs,H b=some (.tup xs)->H' b=some (.tup xs)):ObjOk P w H' h' a o:=by
 induction o with
 |lst xs=>obtain⟨z,A,n,r,e⟩:=x;exact⟨z,A,n,r,k _ _ (.inl rfl) e⟩
 |tup xs=>obtain⟨z,A,r,g,e,c⟩:=x;exact⟨z,A,r,g,k _ _ (.inl rfl) e,c⟩
 |dK G=>obtain⟨z,y,J,r,g,l,s,e,c⟩:=x;exact⟨z,y,J,r,g,l,s,k _ _ (.inl rfl) e,c⟩
 |dT G=>
  obtain⟨z,y,xs,r,g,l,s,e,c⟩:=x;exact⟨z,y,xs,Paired.mapP r λp q z=>⟨z.1,N _ _ z.2.1,z.2.2⟩,g,l,s,k _ _ (.inl rfl) e,c⟩
 |set S n=>obtain⟨g,l,s,t,e,c⟩:=x;exact⟨g,l,s,t,k _ _ (.inl rfl) e,c⟩
 |ins C dx fs=>
  obtain⟨d,z,L,e,E,⟨B,l,s,T,c⟩,r⟩:=x;exact⟨Q _ d,z,L,k _ _ (.inl rfl) e,E,⟨B,l,s,k _ _ (.inr d) T,c⟩,r⟩
 |own y=>obtain⟨g,e⟩:=x;exact⟨g,k _ _ (.inl rfl) e⟩
 |xd fs=>obtain⟨E,⟨B,l,s,e,c⟩,r⟩:=x;exact⟨E,⟨B,l,s,k _ _ (.inl rfl) e,c⟩,r⟩
 |rng lo hi=>obtain⟨t,u,v,e⟩:=x;exact⟨t,u,v,k _ _ (.inl rfl) e⟩
 |frz g u M=>obtain⟨e,q⟩:=x;exact⟨k _ _ (.inl rfl) e,M q⟩
 |tbl Y=>
  have e:=x;exact k a _ (.inl rfl) e
 |met f y=>
  have e:=x;exact k a _ (.inl rfl) e
 |ext U=>obtain⟨p,⟨o,e⟩,st⟩:=x;exact⟨st _ _ p λo q=>k _ _ (.inl rfl) q,⟨o,k _ _ (.inl rfl) e⟩,st⟩
def HOk.lt (x:HOk P w H h) (e:H a=some o):a<h.objs.size:=(x a o e).lt
def HOk.fresh (x:HOk P w H h) (e:h.objs.size<=a):H a=none:=by
 cases q:H a with
 |none=>rfl
 |some u=>exact absurd (WR (x.lt q) e) (Q9 _)
def HOk.kept (x:HOk P w H h) (k:∀b u,h.get? b=some u->h'.get? b=some u):HOk P w H h':=λa o e=>
 (x a o e).stay (λb u _ q=>k b u q) (λ_ q=>q) λ_ _ q=>q
def HOk.laid (x:HOk P w H h) (k:∀b u,h.get? b=some u->h'.get? b=some u) (l:h.objs.size<=a) (new:ObjOk P w (upd H a o) h' a o):HOk P w (upd H a o) h':=λb u e=>by
 have f:=x.fresh l;by_cases g:b=a
 ·subst g;rw[Xw]at e;cases e;exact new
 ·rw[Xl g]at e;exact(x b u e).stay (λc v _ q=>k c v q) (λc q=>by rw[Xl (Kf q f)];exact q) λc xs q=>by rw[Xl (Kf q f)];exact q
end
def Rd(H:Hp)(a:Addr)(u:HO):Prop:=H a=some u\/∃o,H a=some (.frz o u)
def Rd.ok {H h a u} (r:Rd H a u) (x:HOk P w H h):ObjOk P w H h a u:=by
 rcases r with r|⟨o,r⟩
 ·exact x a u r
 ·obtain⟨_,q⟩:=x a _ r;lia
def Mut:Option HO->Prop
 |some (.lst _)=>True
 |some (.dK _)=>True
 |some (.dT _)=>True
 |some (.set _ _)=>True
 |some (.ins _ _ _)=>True
 |some (.ext _)=>True
 |_=>False
section
variable {P:Program}{w:World}{H:Hp}{h h':Heap}{x e:Addr}{o':HO}
def HOk.write (ok:HOk P w H h) (g:Mut (H x)) (A:e=x\/H e=some (.own x)) (k:∀b u,b≠e->h.get? b=some u->h'.get? b=some u) (l:∃u,h'.get? e=some u)
  (new:ObjOk P w (upd H x o') h' x o'):HOk P w (upd H x o') h':=λb u q=>by
 have nown:∀c y,H c=some (.own y)->c≠x:=λc y r z=>by subst z;rw[r]at g;exact g
 have ntup:∀c xs,H c=some (.tup xs)->c≠x:=λc xs r z=>by subst z;rw[r]at g;exact g
 by_cases p:b=x
 ·subst p;rw[Xw]at q;cases q;exact new
 ·rw[Xl p]at q;by_cases f:b=e
  ·have n:H b=some (.own x):=by
    rcases A with z|z
    ·grind
    ·rw[f];exact z
   rw[q]at n;cases n;obtain⟨v,s⟩:=l;exact⟨v,by rw[f];exact s⟩
  ·refine(ok b u q).stay (λc v o r=>k c v ?_ r) (λc r=>by rw[Xl (nown c b r)];exact r) λc xs r=>by rw[Xl (ntup c xs r)];exact r
   rcases o with rfl|o
   ·exact f
   ·grind
end
structure Un (fs ex:List Addr) (H H':Hp) (h h':Heap):Prop where
 keep:∀b o,h.get? b=some o->H b=none->b∉fs->b∉ex->h'.get? b=some o
 slot:∀b o,h.get? b=some o->H b=none->b∈fs->b∉ex->∃sl,h'.get? b=some {o with slots:=sl}
 free:∀b o,h.get? b=some o->H b=none->b∉ex->H' b=none
 there:∀b o,h.get? b=some o->b∉ex->∃o',h'.get? b=some o'
 tups:∀b xs,H b=some (.tup xs)->H' b=some (.tup xs)
 frzs:∀b o u,H b=some (.frz o u)->H' b=some (.frz o u)
 tbls:∀b ps,H b=some (.tbl ps)->∃more,H' b=some (.tbl (ps++more))
section
variable {fs fs' ex ex':List Addr}{H H1 H2:Hp}{h h1 h2 h':Heap}{a x e:Addr}{o:HO}
def Un.any (u:Un fs ex H H1 h h1) {b ob} (q:h.get? b=some ob) (n:H b=none) (hx:b∉ex):∃sl,h1.get? b=some {ob with slots:=sl}:=by
 by_cases f:b∈fs
 ·exact u.slot b ob q n f hx
 ·exact⟨ob.slots,u.keep b ob q n f hx⟩
def Un.kept (k:∀b u,h.get? b=some u->h'.get? b=some u):Un fs ex H H h h':=
 ⟨λb f q _ _ _=>k b f q,λb f q _ _ _=>⟨f.slots,k b f q⟩,λ_ _ _ n _=>n,λb f q _=>⟨f,k b f q⟩,λ_ _ q=>q,λ_ _ _ q=>q,λ_ g q=>⟨#[],by rw[q];simp⟩⟩
def Un.refl:Un fs ex H H h h:=Un.kept λ_ _ q=>q
def Un.laid (k:∀b u,h.get? b=some u->h'.get? b=some u) (hp:h.objs.size<=a) (hn:H a=none):Un fs ex H (upd H a o) h h' where
 keep:=λb u q _ _ _=>k b u q
 slot:=λb u q _ _ _=>⟨u.slots,k b u q⟩
 free:=λb u q n _=>by rw[Xl (WM<|WR (W8 q) hp)];exact n
 there:=λb u q _=>⟨u,k b u q⟩
 tups:=λb xs q=>by rw[Xl (Kf q hn)];exact q
 frzs:=λb u xs q=>by rw[Xl (Kf q hn)];exact q
 tbls:=λb ps q=>⟨#[],by rw[Xl (Kf q hn),q];simp⟩
def Un.write (f:Mut (H x)) (v:e=x\/H e=some (.own x)) (k:∀b u,b≠e->h.get? b=some u->h'.get? b=some u) (s:∃u,h'.get? e=some u):Un fs ex H (upd H x o) h h':=by
 have hx:∀b,H b=none->b≠x:=λb n z=>by subst z;rw[n]at f;exact f
 have l:∀b,H b=none->b≠e:=λb n z=>by
  rcases v with r|r
  ·grind
  ·grind
 have g:∀b u,H b=some u->¬Mut (some u)->b≠x:=λb u q p z=>by subst z;rw[q]at f;exact p f
 refine⟨λb u q n _ _=>k b u (l b n) q,λb u q n _ _=>⟨u.slots,k b u (l b n) q⟩,λb u q n _=>by rw[Xl (hx b n)];exact n,λb u q _=>?_,
  λb xs q=>by rw[Xl (g b _ q λz=>z)];exact q,λb u xs q=>by rw[Xl (g b _ q λz=>z)];exact q,λb y q=>⟨#[],by rw[Xl (g b _ q λz=>z),q];simp⟩⟩
 by_cases w:b=e
 ·grind
 ·grind
end
noncomputable def trk(h:Heap)(H:Hp):List Addr:=(List.range h.objs.size).filter λa=>(H a).isSome
noncomputable def TH(h:Heap)(H:Hp):Heap:=PySem.W.hideAll h (trk h H)
def Zj9(h:Heap)(H:Hp):(TH h H).objs.size=h.objs.size:=PySem.W.hideAll_size _ _
def Rv{H b o}(e:h.get? b=some o)(n:H b=none):(TH h H).get? b=some o:=
 PySem.W.hideAll_get _ e λf=>by
  have q:=(Q1.mp f).2
  grind
def Zc5(e:(TH h H).get? b=some o):h.get? b=some o/\H b=none:=by
 have f:=PySem.W.of_hideAll (trk h H) e;refine⟨f,?_⟩;cases q:H b with
 |none=>rfl
 |some x=>
  have g:b∈trk h H:=Q1.mpr ⟨V8.mpr (W8 f),by simp[q]⟩;have z:(TH h H).get? b=none:=PySem.W.hideAll_none (trk h H) g
  grind
noncomputable def Og(g h:Heap)(L:Addr):Yj:=(List.range h.objs.size).filterMap λa=>if a=L\/(g.get? a).isSome=true then none else(h.get? a).map λo=>(a,o)
noncomputable def rest(g h:Heap)(L d:Addr):Yj:=(Og g h L).filter λp=>decide (p.1≠d)
structure Mod (K:Yg) (mg:Yk) (base:Heap):Prop where
 kin:K.In base
 glob:base.Ns mainGlobals mg
 blt:∃mb,base.Ns builtinsNs mb/\∀x:Str,x≠"__name__"->mb x=bootBuiltins x
 nolimit:base.NoLimit
structure Cx where
 prog:Program
 w:World
 K:Yg
 mg:Yk
 base:Heap
 A:Around
 N:Yp
 s₀:Shared
 H₀:Hp
 env:Env
 outer:List Env
 stack:List Env
 ex:List Addr
 fn:Str->Bool
 calm:Bool
 pn:Yj
 xe:Yl
noncomputable def frs(l:List Env):List Addr:=l.filterMap (·.frame)
noncomputable abbrev Cx.fs (X:Cx):List Addr:=frs X.outer
def Vis(b:Scope)(x:Str):Prop:=b.names.lookup x=some .local\/b.names.lookup x=some .cell\/b.names.lookup x=some .free
def Loc(b:Scope)(x:Str):Prop:=b.names.lookup x=some .local\/b.names.lookup x=some .cell
def Look(env:Env)(h:Heap)(m:Yk)(x:Str)(u:Value):Prop:=
 (env.kindOf x=some .local/\m x=some u)\/((env.kindOf x=some .cell\/env.kindOf x=some .free)/\∃c,env.cells.lookup x=some c/\h.IsCell c (some u))
structure Cx.Ok (X:Cx):Prop where
 mod:Mod X.K X.mg X.base
 kind:X.env.scope.kind=.function
 glob:X.env.globals=mainGlobals
 blt:X.env.builtins=builtinsNs
 above:X.s₀.heap.objs.size<=X.env.locals
 inj:∀x y c,X.env.cells.lookup x=some c->X.env.cells.lookup y=some c->x=y
 has:∀x,(X.env.kindOf x=some .cell\/X.env.kindOf x=some .free)->∃c,X.env.cells.lookup x=some c
 cab:∀x c,X.fn x=true->X.env.cells.lookup x=some c->X.s₀.heap.objs.size<=c
 hd:X.calm=true->X.A.handled=none
 frames:X.A.frames=some X.stack
 stk:X.stack=X.outer\/(X.stack=X.env::X.outer/\X.env.frame=some X.env.locals)
 exf:∀b∈X.ex,b≠X.env.locals/\∀x c,X.env.cells.lookup x=some c->c≠b
 bs:∀b o,X.base.get? b=some o->X.s₀.heap.get? b=some o/\X.H₀ b=none
 bsz:X.base.objs.size<=X.s₀.heap.objs.size
 noex:∀b o,X.base.get? b=some o->b∉X.ex
 exfs:∀b∈X.ex,b∉X.fs
 funs:X.s₀.heap.FunFrames X.base X.outer
 frf:∀b∈X.fs,X.H₀ b=none
structure Inv (X:Cx) (pins:Yj) (σ:List (Option V)) (H:Hp) (s:Shared):Prop where
 ok:X.Ok
 os:s.os=X.s₀.os
 bare:AllBare s.gens
 base:Un X.fs X.ex X.H₀ H X.s₀.heap s.heap
 loc:∃m,s.heap.Ns X.env.locals m/\∀(i:Nat) (x:Str) (v:V),X.N[i]?=some x->σ[i]?=some (some v)->Vis X.env.scope x->∃u,RelV v u/\Look X.env s.heap m x u
 cell:∀x c,X.env.cells.lookup x=some c->∃v,s.heap.IsCell c v
 free:H X.env.locals=none
 freeC:∀x c,X.env.cells.lookup x=some c->H c=none
 pin:∀p∈X.pn++pins,s.heap.get? p.1=some p.2/\H p.1=none/\p.1≠X.env.locals/\p.1∉X.fs/\∀v,p.2.data≠.cell v
 hok:HOk X.prog X.w H s.heap
 len:σ.length=X.N.length
section
variable {X:Cx}{pins:Yj}{σ:List (Option V)}{H H':Hp}{s:Shared}{h':Heap}
def Cx.Ok.nofr (ok:X.Ok) {b o} (e:X.base.get? b=some o):b∉X.fs:=λf=>by
 have:=(ok.funs.mem f).1
 grind
def Inv.bs (I:Inv X pins σ H s):∀b o,X.base.get? b=some o->s.heap.get? b=some o/\H b=none:=λb o e=>
 ⟨I.base.keep b o (I.ok.bs b o e).1 (I.ok.bs b o e).2 (I.ok.nofr e) (I.ok.noex b o e),I.base.free b o (I.ok.bs b o e).1 (I.ok.bs b o e).2 (I.ok.noex b o e)⟩
def Inv.bk (I:Inv X pins σ H s):∀b o,X.base.get? b=some o->s.heap.get? b=some o:=λb o e=>(I.bs b o e).1
def Inv.mod (I:Inv X pins σ H s):Mod X.K X.mg X.base:=I.ok.mod
def Inv.kIn (I:Inv X pins σ H s):X.K.In s.heap:=I.ok.mod.kin.keeps I.bk
def Inv.lt (I:Inv X pins σ H s):X.env.locals<s.heap.objs.size:=let ⟨_,b,_⟩:=I.loc;b.lt
def Inv.sz (I:Inv X pins σ H s):X.s₀.heap.objs.size<=s.heap.objs.size:=WC I.ok.above (Vz I.lt)
def Inv.nofs (I:Inv X pins σ H s) {a:Addr} (h:s.heap.objs.size<=a):a∉X.fs:=λf=>by
 obtain⟨_,o,b,_⟩:=I.ok.funs.mem f;exact absurd (WR (W8 b)<|WC I.sz h) (Q9 _)
def Inv.cne (I:Inv X pins σ H s):∀x c,X.env.cells.lookup x=some c->c≠X.env.locals:=λx c e z=>by
 obtain⟨v,o,h,l⟩:=I.cell x c e;obtain⟨m,⟨g,n,p,b,f,_⟩,_⟩:=I.loc
 grind
def Inv.funs (I:Inv X pins σ H s):s.heap.FunFrames X.base X.outer:=by
 have all:∀l,(∀b∈frs l,b∈X.fs)->X.s₀.heap.FunFrames X.base l->s.heap.FunFrames X.base l:=by
  intro l
  induction l with
  |nil=>intro _ _;trivial
  |cons B r p=>
   intro n x;obtain⟨y,⟨L,o,f,w,v,A⟩,u⟩:=x;have h:=n L (by unfold frs;rw[QJ,f];exact WS);obtain⟨sl,e⟩:=I.base.slot L o v (I.ok.frf L h) h λz=>I.ok.exfs L z h;exact⟨y,⟨L,_,f,w,e,A⟩,p (λb g=>n b (by unfold frs;rw[QJ,f];exact WG _ g)) u⟩
 exact all X.outer (λ_ g=>g) I.ok.funs
def Inv.stack (I:Inv X pins σ H s):s.heap.FunFrames X.base X.stack:=by
 rcases I.ok.stk with e|⟨e,f⟩
 ·rw[e];exact I.funs
 ·rw[e];obtain⟨m,b,_⟩:=I.loc;refine .cons (by rw[I.ok.kind];decide) f b ?_ I.funs;exact QZ (WC I.ok.bsz I.ok.above)
def Inv.stkSub (I:Inv X pins σ H s):∀b∈frs X.stack,b∈X.env.locals::X.fs:=λb f=>by
 rcases I.ok.stk with e|⟨e,g⟩
 ·grind
 ·rw[e]at f;unfold frs at f;rw[QJ,g]at f;trivial
def Inv.stkFree (I:Inv X pins σ H s):∀b∈frs X.stack,H b=none:=λb f=>by
 rcases WA.mp (I.stkSub b f)with e|f
 ·rw[e];exact I.free
 ·obtain⟨_,o,g,_⟩:=I.ok.funs.mem f;exact I.base.free b o g (I.ok.frf b f) λz=>I.ok.exfs b z f
def Inv.step {d'}{ch:List Addr} (I:Inv X pins σ H s)
  (g:∀b∈ch,(b∈X.ex\/X.s₀.heap.objs.size<=b)/\b≠X.env.locals/\(∀x c,X.env.cells.lookup x=some c->c≠b)/\∀p∈X.pn++pins,p.1≠b)
  (keep:∀b o,b≠X.env.locals->b∉X.fs->b∉ch->s.heap.get? b=some o->H b=none->h'.get? b=some o)
  (slot:∀b o,b≠X.env.locals->b∈X.fs->b∉ch->s.heap.get? b=some o->H b=none->∃sl,h'.get? b=some {o with slots:=sl}) (free:∀b o,b∉ch->s.heap.get? b=some o->H b=none->H' b=none)
  (there:∀b o,b∉ch->s.heap.get? b=some o->∃o',h'.get? b=some o')
  (tups:∀b xs,H b=some (.tup xs)->H' b=some (.tup xs)) (frzs:∀b o u,H b=some (.frz o u)->H' b=some (.frz o u)) (tbls:∀b ps,H b=some (.tbl ps)->∃more,H' b=some (.tbl (ps++more)))
  (ns:∀m,s.heap.Ns X.env.locals m->h'.Ns X.env.locals m) (J:HOk X.prog X.w H' h') (hg:AllBare g') :
  Inv X pins σ H' {s with heap:=h',gens:=g',drawn:=d',toks:=t'}:=by
 have B:∀b o,X.s₀.heap.get? b=some o->b≠X.env.locals:=λb o e=>WM (WR (W8 e) I.ok.above)
 have f:∀b o,X.s₀.heap.get? b=some o->b∉X.ex->b∉ch:=λb o e hx y=>by
  rcases(g b y).1 with z|z
  ·exact hx z
  ·exact absurd (WR (W8 e) z) (Q9 _)
 have cellK:∀x c,X.env.cells.lookup x=some c->∀v,s.heap.IsCell c v->h'.IsCell c v:=λx c e v ⟨o,A,L⟩=>by
  have C:=λz=>(g c z).2.2.1 x c e rfl;by_cases M:c∈X.fs
  ·obtain⟨sl,q⟩:=slot c o (I.cne x c e) M C A (I.freeC x c e);exact⟨_,q,L⟩
  ·exact⟨o,keep c o (I.cne x c e) M C A (I.freeC x c e),L⟩
 refine⟨I.ok,I.os,hg,⟨λb o e n y hx=>?_,λb o e n y hx=>?_,λb o e n hx=>?_,λb o e hx=>?_,λb xs e=>tups b xs (I.base.tups b xs e),λb o xs e=>frzs b o xs (I.base.frzs b o xs e),λb ps e=>?_⟩,?_,λx c e=>?_,?_,λx c e=>?_,λp T=>?_,J,I.len⟩
 ·exact keep b o (B b o e) y (f b o e hx) (I.base.keep b o e n y hx) (I.base.free b o e n hx)
 ·obtain⟨sl,h⟩:=I.base.slot b o e n y hx;obtain⟨G,E⟩:=slot b _ (B b o e) y (f b o e hx) h (I.base.free b o e n hx);exact⟨G,E⟩
 ·obtain⟨o',h⟩:=I.base.there b o e hx;exact free b o' (f b o e hx) h (I.base.free b o e n hx)
 ·obtain⟨o',h⟩:=I.base.there b o e hx;exact there b o' (f b o e hx) h
 ·obtain⟨Q,h⟩:=I.base.tbls b ps e;obtain⟨N,E⟩:=tbls b _ h;exact⟨Q++N,by rw[E,Array.append_assoc]⟩
 ·obtain⟨m,U,Y⟩:=I.loc;refine⟨m,ns m U,λi x v h E e3=>?_⟩;obtain⟨u,r,l⟩:=Y i x v h E e3;refine⟨u,r,?_⟩;rcases l with l|⟨k,c,e,z⟩
  ·exact .inl l
  ·exact .inr ⟨k,c,e,cellK x c e _ z⟩
 ·obtain⟨v,z⟩:=I.cell x c e;exact⟨v,cellK x c e v z⟩
 ·obtain⟨m,⟨o,_,_,A,_⟩,_⟩:=I.loc;exact free _ o (λz=>(g _ z).2.1 rfl) A I.free
 ·obtain⟨v,o,A,L⟩:=I.cell x c e;exact free c o (λz=>(g c z).2.2.1 x c e rfl) A (I.freeC x c e)
 ·obtain⟨e,n,ne,nf,d⟩:=I.pin p T
  grind
def Inv.un (I:Inv X pins σ H s) (u:Un X.fs [] H H' s.heap h') (g:HOk X.prog X.w H' h'):Inv X pins σ H' {s with heap:=h',toks:=t'}:=by
 obtain⟨m,⟨o,E,G,v,r⟩,_⟩:=id I.loc;obtain⟨sl,A⟩:=u.any v I.free (by simp)
 exact I.step (ch:=[]) (λ_ z=>nomatch z) (λb o _ h _ e n=>u.keep b o e n h (by simp)) (λb o _ h _ e n=>u.slot b o e n h (by simp)) (λb o _ e n=>u.free b o e n (by simp)) (λb o _ e=>u.there b o e (by simp)) u.tups u.frzs u.tbls (λC y=>by
  obtain⟨B,l,p,f,x⟩:=y;rw[v]at f;cases f;exact⟨_,l,p,A,x⟩) g I.bare
def Inv.call {d'}{ch} (I:Inv X pins σ H s) (u:Un (frs X.stack) ch H H' s.heap h') (l:HOk X.prog X.w H' h') (G:AllBare L)
  (h:∀b∈ch,(b∈X.ex\/X.s₀.heap.objs.size<=b)/\b≠X.env.locals/\(∀x c,X.env.cells.lookup x=some c->c≠b)/\∀p∈X.pn++pins,p.1≠b) :
  Inv X pins σ H' {s with heap:=h',gens:=L,drawn:=d',toks:=t'}:=by
 obtain⟨m,⟨o,Q,T,B,r⟩,_⟩:=id I.loc;obtain⟨sl,v⟩:=u.any B I.free λz=>(h _ z).2.1 rfl
 exact I.step h (λb o v J f e n=>u.keep b o e n (λz=>(WA.mp<|I.stkSub b z).elim v J) f) (λb o _ _ f e n=>u.any e n f) (λb o f e n=>u.free b o e n f) (λb o f e=>u.there b o e f) u.tups u.frzs u.tbls (λN E=>by
  obtain⟨M,y,A,g,C⟩:=E;rw[B]at g;cases g;exact⟨_,y,A,v,C⟩) l G
def Inv.turned {it} (I:Inv X pins σ H s) (k:∀b o,b≠it->s.heap.get? b=some o->h'.get? b=some o) (B:H it=none) (l:it≠X.env.locals)
  (J:it∈X.ex\/X.s₀.heap.objs.size<=it) (G:∀x c,X.env.cells.lookup x=some c->c≠it) (E:∀p∈X.pn++pins,p.1≠it):Inv X pins σ H {s with heap:=h',toks:=t'}:=by
 refine I.step (ch:=[it]) (λb C=>?_) (λb o _ _ f e _=>k b o (λz=>f (by simp[z])) e) (λb o _ _ f e _=>⟨o.slots,k b o (λz=>f (by simp[z])) e⟩) (λ_ _ _ _ n=>n)
  (λb o f e=>⟨o,k b o (λz=>f (by simp[z])) e⟩) (λ_ _ e=>e) (λ_ _ _ e=>e) (λb A e=>⟨#[],by rw[e];simp⟩) (λm h=>?_) (λb u e=>?_) I.bare
 ·grind
 ·obtain⟨o,w,y,g,r⟩:=h;exact⟨o,w,y,k _ o (Ne.symm l) g,r⟩
 ·refine(I.hok b u e).stay (λc v f q=>k c v ?_ q) (λ_ q=>q) λ_ _ q=>q;rcases f with z|z
  ·grind
  ·grind
def Inv.tok (I:Inv X pins σ H s) (t:Nat):Inv X pins σ H {s with toks:=t}:=I.un Un.refl I.hok
def Inv.kept (I:Inv X pins σ H s) (k:∀b u,s.heap.get? b=some u->h'.get? b=some u):Inv X pins σ H {s with heap:=h',toks:=t'}:=I.un (Un.kept k) (I.hok.kept k)
def Inv.laid {a:Addr}{o}{t'} (I:Inv X pins σ H s) (k:∀b u,s.heap.get? b=some u->h'.get? b=some u) (f:s.heap.objs.size<=a) (new:ObjOk X.prog X.w (upd H a o) h' a o) :
  Inv X pins σ (upd H a o) {s with heap:=h',toks:=t'}:=I.un (Un.laid k f<|I.hok.fresh f) (I.hok.laid k f new)
def Inv.write (I:Inv X pins σ H s) (g:Mut (H x)) (h:e=x\/H e=some (.own x)) (k:∀b u,b≠e->s.heap.get? b=some u->h'.get? b=some u) (f:∃u,h'.get? e=some u)
  (new:ObjOk X.prog X.w (upd H x o) h' x o):Inv X pins σ (upd H x o) {s with heap:=h',toks:=t'}:=I.un (Un.write g h k f) (I.hok.write g h k f new)
def Inv.weak (I:Inv X pins σ H s) (h:b.length=σ.length) (w:∀(i:Nat) v,b[i]?=some (some v)->σ[i]?=some (some v)):Inv X pins b H s:=
 ⟨I.ok,I.os,I.bare,I.base,let ⟨m,g,f⟩:=I.loc;⟨m,g,λi x v o n l=>f i x v o (w i v n) l⟩,I.cell,I.free,I.freeC,I.pin,I.hok,h.trans I.len⟩
def Inv.pins_of (I:Inv X pins σ H s) (h:∀p∈pins',s.heap.get? p.1=some p.2/\H p.1=none/\p.1≠X.env.locals/\p.1∉X.fs/\∀v,p.2.data≠.cell v):Inv X pins' σ H s:=
 ⟨I.ok,I.os,I.bare,I.base,I.loc,I.cell,I.free,I.freeC,λp b=>(WL.mp b).elim (λz=>I.pin p (Q0 _ z)) (h p),I.hok,I.len⟩
def Dk{N:Yp}(f:N.Nodup){i j:Nat}{x}(a:N[i]?=some x)(b:N[j]?=some x):i=j:=by
 obtain⟨n,h⟩:=WI.mp a;obtain⟨l,g⟩:=WI.mp b;exact(List.getElem_inj f).mp (h.trans g.symm)
def Zfu{i x v u Q}(I:Inv X pins σ H s)(hN:X.N.Nodup)(hi:X.N[i]?=some x)(hx:Loc X.env.scope x)(r:RelV v u)(h:∀s',Inv X pins (σ.set i<|some v) H s'->(∃a,Heap.SameBut a s.heap s'.heap/\(a=X.env.locals\/X.env.cells.lookup x=some a))->Q () s')(hf:autoParam (X.fn x=true\/X.env.scope.names.lookup x=some .local) au_2):wpAny M A (storeName X.env x u) Q E s:=by
 obtain⟨m,hn,hl⟩:=id I.loc;have hcls:(X.env.scope.kind == .class || (X.env.scope.kind == .module&&X.env.locals != X.env.globals))=false:=by rw[I.ok.kind];rfl
 have J:i<σ.length:=by rw[I.len];exact(WI.mp hi).1
 have cne:=I.cne
 have tracked:∀{a:Addr} {h':Heap},(∃o,s.heap.get? a=some o/\H a=none)->Heap.SameBut a s.heap h'->HOk X.prog X.w H h':=λ{a h'} ha f b ob e=>by
  obtain⟨_,_,B⟩:=ha;refine(I.hok b ob e).stay (λc w' l q=>(f.2 c ?_).trans q) (λ_ q=>q) λ_ _ q=>q;rintro rfl;rcases l with rfl|l
  ·rw[B]at e;cases e
  ·rw[B]at l;cases l
 rcases hx with G|G
 ·refine wpAny_storeName_local G hn (λh' hn' f=>?_) hcls;obtain⟨oL,_,_,hoL,_⟩:=id hn;refine h _ ⟨I.ok,I.os,I.bare,⟨λb o e n U hx=>?_,λb o e n U hx=>?_,I.base.free,λb o e hx=>?_,I.base.tups,I.base.frzs,I.base.tbls⟩,⟨_,hn',λj y v' g C e3=>?_⟩,λy c e=>?_,I.free,I.freeC,λp hp=>?_,tracked ⟨oL,hoL,I.free⟩ f,by simpa using I.len⟩ ⟨_,f,.inl rfl⟩
  ·exact(f.2 b<|WM<|WR (W8 e) I.ok.above).trans (I.base.keep b o e n U hx)
  ·obtain⟨sl,g⟩:=I.base.slot b o e n U hx;exact⟨sl,(f.2 b<|WM<|WR (W8 e) I.ok.above).trans g⟩
  ·obtain⟨o',g⟩:=I.base.there b o e hx;exact⟨o',(f.2 b<|WM<|WR (W8 e) I.ok.above).trans g⟩
  ·by_cases L:j=i
   ·subst L;rw[hi]at g;cases g;rw[List.getElem?_set_self J]at C;cases C
    exact⟨u,r,.inl ⟨G,by simp⟩⟩
   ·rw[Jc (Ne.symm L)]at C;obtain⟨u',r',q⟩:=hl j y v' g C e3;refine⟨u',r',?_⟩;rcases q with⟨k,e⟩|⟨k,c,e,z⟩
    ·refine .inl ⟨k,?_⟩
     have:y≠x:=λe=>L (Dk hN g (e▸hi))
     simp[this,e]
    ·exact .inr ⟨k,c,e,z.sameBut f (cne y c e)⟩
  ·obtain⟨w',z⟩:=I.cell y c e;exact⟨w',z.sameBut f (cne y c e)⟩
  ·obtain⟨e,n,ne,nf,d⟩:=I.pin p hp;exact⟨(f.2 p.1 ne).trans e,n,ne,nf,d⟩
 ·have T:X.fn x=true:=by
   rcases hf with z|z
   ·exact z
   ·rw[z]at G;cases G
  obtain⟨c,l⟩:=I.ok.has x (.inl G);obtain⟨w',z⟩:=I.cell x c l;refine wpAny_storeName_cell I.ok.kind G l z (λh' hc' f=>?_);obtain⟨oc,hoc,Y⟩:=id z;refine h {s with heap:=h'} ⟨I.ok,I.os,I.bare,⟨λb o e n U hx=>?_,λb o e n U hx=>?_,I.base.free,λb o e hx=>?_,I.base.tups,I.base.frzs,I.base.tbls⟩,⟨m,hn.sameBut f (Ne.symm<|cne x c l),λj y v' g C e3=>?_⟩,λy c' e=>?_,I.free,I.freeC,λp hp=>?_,tracked ⟨oc,hoc,I.freeC x c l⟩ f,by simpa using I.len⟩ ⟨c,f,.inr l⟩
  ·exact(f.2 b<|WM<|WR (W8 e)<|I.ok.cab x c T l).trans (I.base.keep b o e n U hx)
  ·obtain⟨sl,g⟩:=I.base.slot b o e n U hx;exact⟨sl,(f.2 b<|WM<|WR (W8 e)<|I.ok.cab x c T l).trans g⟩
  ·obtain⟨o',g⟩:=I.base.there b o e hx;exact⟨o',(f.2 b<|WM<|WR (W8 e)<|I.ok.cab x c T l).trans g⟩
  ·by_cases L:j=i
   ·subst L;rw[hi]at g;cases g;rw[List.getElem?_set_self J]at C;cases C
    exact⟨u,r,.inr ⟨.inl G,c,l,hc'⟩⟩
   ·rw[Jc (Ne.symm L)]at C;obtain⟨u',r',q⟩:=hl j y v' g C e3;refine⟨u',r',?_⟩;rcases q with q|⟨k,c',e,z'⟩
    ·exact .inl q
    ·refine .inr ⟨k,c',e,z'.sameBut f ?_⟩;rintro rfl;exact L (Dk hN g (I.ok.inj _ _ _ e l▸hi))
  ·by_cases hcc:c'=c
   ·subst hcc;exact⟨_,hc'⟩
   ·obtain⟨w2,z2⟩:=I.cell y c' e;exact⟨w2,z2.sameBut f hcc⟩
  ·obtain⟨e,n,ne,nf,d⟩:=I.pin p hp;refine⟨(f.2 p.1 ?_).trans e,n,ne,nf,d⟩;intro q;rw[q,hoc]at e;exact d w' (by rw[←(WD e)];exact Y)
def NP{i x v u Q}(I:Inv X pins σ H s)(l:X.N.Nodup)(f:X.N[i]?=some x)(hx:Loc X.env.scope x)(r:RelV v u)(h:∀b,Inv X pins (σ.set i<|some v) H b->Q () b)(g:autoParam (X.fn x=true\/X.env.scope.names.lookup x=some .local) au_2):wpAny M A (storeName X.env x u) Q E s:=
 Zfu I l f hx r (λb n _=>h b n) g
def Inv.call' {ch} (I:Inv X pins σ H s) (l:f.os=s.os) (u:Un (frs X.stack) ch H H' s.heap f.heap) (g:HOk X.prog X.w H' f.heap) (n:AllBare f.gens)
  (h:∀b∈ch,(b∈X.ex\/X.s₀.heap.objs.size<=b)/\b≠X.env.locals/\(∀x c,X.env.cells.lookup x=some c->c≠b)/\∀p∈X.pn++pins,p.1≠b):Inv X pins σ H' f:=by
 obtain⟨h',v,y,o,r⟩:=f;subst l;exact I.call u g n h
end
abbrev XK:=Value->Yt->Hp->Prop
abbrev St:=List (Option V)
abbrev VK:=V->Hp->Prop
abbrev TE:=St->Hp->VK->Prop
abbrev TT:=St->Hp->(Bool->Hp->Prop)->Prop
abbrev TA:=St->Hp->(List V->Hp->Prop)->Prop
structure Ends where
 nx:St->Hp->Prop
 rt:VK
 bk:St->Hp->Prop:=λ_ _=>False
 ct:St->Hp->Prop:=λ_ _=>False
abbrev TS:=Ends->St->Hp->Prop
def EP(X:Cx)(pins:Yj)(f:St)(Q:VK)(u:Value)(g:Shared):Prop:=∃v b,Inv X pins f b g/\RelV v u/\Q v b
def TP(X:Cx)(pins:Yj)(g:St)(Q:Bool->Hp->Prop)(b:Bool)(h:Shared):Prop:=∃f,Inv X pins g f h/\Q b f
def AP(X:Cx)(pins:Yj)(g:St)(Q:List V->Hp->Prop)(us:Yo)(h:Shared):Prop:=∃b f,Inv X pins g f h/\Vals b us/\Q b f
def SP(X:Cx)(pins:Yj)(D:Ends)(f:Flow)(h:Shared):Prop:=
 match f with
 | .next=>∃b g,Inv X pins b g h/\D.nx b g
 | .brk=>∃b g,Inv X pins b g h/\D.bk b g
 | .cont=>∃b g,Inv X pins b g h/\D.ct b g
 | .ret u=>∃v b g,Inv X pins b g h/\RelV v u/\D.rt v g
def PE(X:Cx)(e:Expr)(t:TE):Prop:=
 ∀(pins:Yj) (s:Shared) (b:St) (H:Hp) (Q:VK),Inv X pins b H s->t b H Q->wpAny (model X.prog X.w) X.A (eval e X.env) (EP X pins b Q) X.xe s
def PT(X:Cx)(e:Expr)(t:TT):Prop:=
 ∀(pins:Yj) (s:Shared) (b:St) (H:Hp) (Q:Bool->Hp->Prop),Inv X pins b H s->t b H Q->wpAny (model X.prog X.w) X.A (isTrue e X.env<|eval e X.env) (TP X pins b Q) X.xe s
def PW(X:Cx)(e:Expr)(t:TT):Prop:=
 ∀(whole:Sem Value) (pins:Yj) (s:Shared) (b:St) (H:Hp) (Q:Bool->Hp->Prop),Inv X pins b H s->t b H Q->wpAny (model X.prog X.w) X.A (isTrue e X.env whole) (TP X pins b Q) X.xe s
def PW.pt (h:PW X e t):PT X e t:=h _
def PA(X:Cx)(es:Yq)(t:TA):Prop:=
 ∀(pos:Pos) (pins:Yj) (s:Shared) (b:St) (H:Hp) (Q:List V->Hp->Prop),Inv X pins b H s->t b H Q->wpAny (model X.prog X.w) X.A (spliced<|backTo pos<|starEach es X.env) (AP X pins b Q) X.xe s
def PS(X:Cx)(st:Stmt)(t:TS):Prop:=
 ∀(pins:Yj) (s:Shared) (b:St) (H:Hp) (D:Ends),Inv X pins b H s->t D b H->wpAny (model X.prog X.w) X.A (exec st X.env) (SP X pins D) X.xe s
def PSs(X:Cx)(st:Yr)(t:TS):Prop:=
 ∀(pins:Yj) (s:Shared) (b:St) (H:Hp) (D:Ends),Inv X pins b H s->t D b H->wpAny (model X.prog X.w) X.A (execs st X.env) (SP X pins D) X.xe s
def thn{M A E s}(h:wpAny M A t Q E s)(b:∀a s,Q a s->f a s):wpAny M A t f E s:=WV h b λ_ _ x=>x
section
variable {X:Cx}
def bin{B z}(J:PE X a B)(G:PE X b z){pins}{s}{g:St}{H}{R:V->V->Hp->Prop}(I:Inv X pins g H s)(h:B g H λx r=>z g r λy o=>R x y o){α}{Q}{f:Value->Value->Sem α}(U:∀v u p x y o,Inv X pins g o p->RelV x v->RelV y u->R x y o->wpAny (model X.prog X.w) X.A (f v u) Q X.xe p) :
  wpAny (model X.prog X.w) X.A (eval a X.env) (λv n=>wpAny (model X.prog X.w) X.A (eval b X.env) (λu l=>wpAny (model X.prog X.w) X.A (f v u) Q X.xe l) X.xe n) X.xe s:=by
 refine thn (J pins s g H _ I h) λv C ⟨x,r,L,N,E⟩=>?_;refine thn (G pins C g r _ L E) λu p ⟨y,o,Y,M,T⟩=>?_
 grind
noncomputable def Kw(i:Nat):TE:=λb H Q=>∃v,b[i]?=some (some v)/\Q v H
noncomputable def tC(v:V):TE:=λ_ H Q=>Q v H
def O9{pos}(C:X.N[i]?=some x)(y:Vis X.env.scope x)(n:autoParam ((x==("__debug__" : Str))=false) au_1)(o:autoParam ((x==("__classdict__" : Str))=false) au_1):PE X (.Name x pos) (Kw i):=by
 intro pins s w H Q I h;obtain⟨v,e,h⟩:=h;obtain⟨m,z,B⟩:=I.loc;obtain⟨u,r,l⟩:=B i x v C e y;have g:EP X pins w Q u s:=⟨v,H,I,r,h⟩;rcases l with⟨f,A⟩|⟨f,c,p,b⟩
 ·exact wpAny_Name (wpAny_loadName_local I.ok.kind f z A g) n
 ·rcases f with f|f
  ·exact wpAny_Name (wpAny_loadName_cell I.ok.kind f p b g) n
  ·exact wpAny_Name (wpAny_loadName_free I.ok.kind f p b g o) n
def Xn:PE X (.Constant (.int i) j pos) (tC<|.int i):=λ_ _ _ H _ I h=>wpAny_Constant_int ⟨.int i,H,I.tok _,⟨_,rfl⟩,h⟩
def Pv:PE X (.Constant (.bool b) j pos) (tC<|.bl b):=λ_ _ _ H _ I h=>Constant_bool ⟨.bl b,H,I,rfl,h⟩
def Zld:PE X (.Constant .none j pos) (tC .non):=λ_ _ _ H _ I h=>Constant_none ⟨.non,H,I,rfl,h⟩
def X2:PE X (.Constant (.str x) j pos) (tC<|.str x):=λ_ _ _ H _ I h=>Calls.Constant_str ⟨.str x,H,I.tok _,⟨_,rfl⟩,h⟩
def Gl(X:Cx)(x:Str):Prop:=X.env.kindOf x=some .globalImplicit
def PN{pins}{s}{b:St}{H}{x}{u}{pos}{Q}(I:Inv X pins b H s)(g:Gl X x)(f:X.mg x=some u)(h:Q u s)(l:autoParam ((x==("__debug__" : Str))=false) au_1):wpAny (model X.prog X.w) X.A (eval (.Name x pos) X.env) Q E s:=
 Calls.Name_function_global I.ok.kind g (Calls.loadGlobal_global (by rw[I.ok.glob];exact I.mod.glob.keeps I.bk) f h) l
def SJ{E}{pins}{s}{b:St}{H}{x}{u}{pos}{Q}(I:Inv X pins b H s)(n:Gl X x)(l:X.mg x=none)(f:bootBuiltins x=some u)(h:Q u s)(g:autoParam (x≠"__name__") au_1)(o:autoParam ((x==("__debug__" : Str))=false) au_1):wpAny (model X.prog X.w) X.A (eval (.Name x pos) X.env) Q E s:=by
 obtain⟨v,r,p⟩:=I.mod.blt;exact Calls.Name_function_global I.ok.kind n (Calls.loadGlobal_builtin (by rw[I.ok.glob];exact I.mod.glob.keeps I.bk) l (by rw[I.ok.blt];exact r.keeps I.bk) ((p x g).trans f) h) o
def BE{u pos}(f:Gl X x)(b:X.mg x=some u)(r:RelV v u)(g:autoParam ((x==("__debug__" : Str))=false) au_1):PE X (.Name x pos) (tC v):=
 λ_ _ _ H _ I h=>PN I f b ⟨v,H,I,r,h⟩ g
def PK{u pos}(l:Gl X x)(g:X.mg x=none)(b:bootBuiltins x=some u)(r:RelV v u)(f:autoParam (x≠"__name__") au_1)(n:autoParam ((x==("__debug__" : Str))=false) au_1):PE X (.Name x pos) (tC v):=
 λ_ _ _ H _ I h=>SJ I l g b ⟨v,H,I,r,h⟩ f n
variable {a b:Expr}{ta tb:TE}{pos:Pos}
def PC(X:Cx)(l:CmpOp)(a b:Expr)(t:TE):Prop:=
 ∀(pins:Yj) (s:Shared) (h:St) (H:Hp) (Q:VK),Inv X pins h H s->t h H Q->
  wpAny (model X.prog X.w) X.A (eval a X.env) (λv g=>wpAny (model X.prog X.w) X.A (eval b X.env) (λu f=>wpAny (model X.prog X.w) X.A (compareOp l v u) (EP X pins h Q) X.xe f) X.xe g) X.xe s
def Zjb(b:Expr){op}(h:op≠.In)(l:op≠.NotIn):behindInMarks op b=false:=by
 have g:(op==CmpOp.In)=false:=by grind
 have f:(op==CmpOp.NotIn)=false:=by grind
 cases b<;>simp[behindInMarks,g,f]
noncomputable def tB(t:TE):TT:=λf H Q=>t f H λx g=>∃c,x=.bl c/\Q c g
def Cp(h:PC X g a b t)(f:behindInMarks g b=false:=by first|exact Zjb _ (by decide) (by decide)|rfl):PT X (.Compare a [g] [b] pos) (tB t):=by
 intro pins s l H Q I hw;refine wpAny_isTrue_Compare1 (thn (h pins s l H _ I hw) λv A f=>thn f λu z p=>thn p ?_) f;rintro c y ⟨x,w,r,n,o⟩;obtain⟨d,rfl,q⟩:=o;cases n
 exact QG ⟨w,r,q⟩
variable {tA tB':TT}{rest:Yq}
noncomputable def A6(t u:TT):TT:=λf H Q=>t f H λc g=>if c=true then u f g Q else Q false g
noncomputable def tOr(t u:TT):TT:=λf H Q=>t f H λc g=>if c=true then Q true g else u f g Q
noncomputable def Ds(t:TT):TT:=λf H Q=>t f H λc g=>Q (!c) g
def Ek(g:PT X a tA):PW X (.BoolOp .And [a] pos) tA:=by
 intro l pins s f H Q I h;refine isTrue_and (thn (g pins s f H Q I h) λc n e=>?_);cases c with
 |true=>exact isTrue_and_nil e
 |false=>exact e
def CN(g:PT X a tA):PW X (.BoolOp .Or [a] pos) tA:=by
 intro l pins s f H Q I h;refine isTrue_or (thn (g pins s f H Q I h) λc n e=>?_);cases c with
 |false=>exact isTrue_or_nil e
 |true=>exact e
def M6(p:PT X a tA)(o:PW X (.BoolOp .And (b::rest) pos) tB'):PW X (.BoolOp .And (a::b::rest) pos) (A6 tA tB'):=by
 intro g pins s f H Q I h;refine isTrue_and (thn (p pins s f H _ I h) λc l ⟨u,r,n⟩=>?_);cases c with
 |true=>exact o g pins l f u Q r n
 |false=>trivial
def Fu(p:PT X a tA)(o:PW X (.BoolOp .Or (b::rest) pos) tB'):PW X (.BoolOp .Or (a::b::rest) pos) (tOr tA tB'):=by
 intro g pins s f H Q I h;refine isTrue_or (thn (p pins s f H _ I h) λc l ⟨u,r,n⟩=>?_);cases c with
 |true=>trivial
 |false=>exact o g pins l f u Q r n
def Nr(g:PT X a tA):PT X (.UnaryOp .Not a pos) (Ds tA):=by
 intro pins s f H Q I h;exact isTrue_not (g pins s f H (λc l=>Q (!c) l) I h)
noncomputable def Ie(ta tb:TE):TE:=λf H Q=>ta f H λx g=>∃c,x=.bl c/\if c=true then tb f g Q else Q (.bl false) g
noncomputable def Gc(ta:TE):TE:=λf H Q=>ta f H λx g=>∃c,x=.bl c/\Q (.bl (!c)) g
def Ct{t}(h:PE X a t):PE X (.BoolOp f [a] pos) t:=by trivial
def Af(u:PE X a ta)(r:PE X (.BoolOp .And (b::rest) pos) tb):PE X (.BoolOp .And (a::b::rest) pos) (Ie ta tb):=by
 intro pins s g H Q I h;refine BoolOp_and (thn (u pins s g H _ I h) ?_);rintro v o ⟨x,n,l,p,f⟩;obtain⟨c,rfl,f⟩:=f;cases p
 refine QG ?_;cases c with
 |true=>exact r pins o g n Q l f
 |false=>exact⟨.bl false,n,l,rfl,f⟩
def Gi(n:PE X a ta):PE X (.UnaryOp .Not a pos) (Gc ta):=by
 intro pins s g H Q I h;refine UnaryOp_ (thn (n pins s g H _ I h) ?_);rintro v r ⟨x,p,o,l,f⟩;obtain⟨c,rfl,f⟩:=f;cases l
 exact not_of (QG ⟨.bl (!c),p,o,rfl,f⟩)
end
def SqL(K:Yg)(H:Hp)(a:Addr)(xs:List V):Prop:=
 Rd H a (.lst xs)\/
  ∃(o:Obj) (b:Array Value) (n:Nat),K.lookup a=some o/\o.cls=.type "list"/\o.dict=none/\o.data=.seq b n/\b.size<=sizeLine/\Vals xs b.toList
def SqT(K:Yg)(H:Hp)(a:Addr)(xs:List V):Prop:=
 Rd H a (.tup xs)\/
  ∃(o:Obj) (b:Array Value) (n:Nat),K.lookup a=some o/\o.cls=.type "tuple"/\o.data=.seq b n/\b.size<=sizeLine/\Vals xs b.toList
noncomputable def Ob:Value->Option V
 | .none=>some .non
 | .bool b=>some (.bl b)
 | .int i _=>some (.int i)
 | .str x _=>some (.str x)
 | .bytes b _=>some (.byt b)
 | .float b _=>some (.flt b)
 | .ref a=>some (.ref a)
 | .type n=>some (.ty n)
 |_=>none
def RelV.abs (r:RelV x u):Ob u=some x:=by
 cases x with
 |non|bl _|ref _|ty _=>cases r;rfl
 |_=>obtain⟨t,rfl⟩:=r;rfl
def RelV.inj {u} (r:RelV x u) (q:RelV y u):x=y:=WD (r.abs.symm.trans q.abs)
def Vals.inj:∀{xs b}{us:Yo},Vals xs us->Vals b us->xs=b:=by
 intro o
 induction o with
 |nil=>
  intro _ _ h g;cases h
  cases g
  rfl
 |cons _ _ n=>
  intro _ _ h g;cases h with
  |cons h r=>
   cases g with
   |cons l f=>rw[h.inj l,n r f]
section
variable {X:Cx}{pins:Yj}{σ:St}{H:Hp}{s:Shared}{a:Addr}{xs ys:List V}
def SqL.of {K} (h:H a=some (.lst xs)):SqL K H a xs:=.inl (.inl h)
def SqT.of {K} (h:H a=some (.tup xs)):SqT K H a xs:=.inl (.inl h)
def Inv.list (I:Inv X pins σ H s) (h:SqL X.K H a xs):∃b,Vals xs b/\PlainL s.heap a b.toArray/\xs.length<=sizeLine:=by
 rcases h with h|⟨o,b,n,g,p,l,f,u,r⟩
 ·obtain⟨z,b,n,r,e⟩:=h.ok I.hok;exact⟨b,r,⟨_,n,e,rfl,rfl,rfl⟩,z⟩
 ·refine⟨b.toList,r,⟨o,n,I.kIn a o g,p,l,by simpa using f⟩,?_⟩;have e:=r.length
  grind
def Inv.tuple (I:Inv X pins σ H s) (h:SqT X.K H a xs):∃b,Vals xs b/\IsTup s.heap a b.toArray/\xs.length<=sizeLine:=by
 rcases h with h|⟨o,b,n,g,l,f,u,r⟩
 ·obtain⟨z,b,r,p⟩:=h.ok I.hok
  grind
 ·refine⟨b.toList,r,⟨o,I.kIn a o g,l,n,by simpa using f⟩,?_⟩;have e:=r.length
  grind
def Inv.list_inj (I:Inv X pins σ H s) (h:SqL X.K H a xs) (l:SqL X.K H a ys):xs=ys:=by
 obtain⟨f,r,⟨o,n,e,_,_,d⟩,_⟩:=I.list h;obtain⟨b,g,⟨p,u,v,_,_,w⟩,_⟩:=I.list l
 have:f=b:=by grind
 subst this;exact r.inj g
def Inv.tuple_inj (I:Inv X pins σ H s) (h:SqT X.K H a xs) (l:SqT X.K H a ys):xs=ys:=by
 obtain⟨f,r,⟨o,e,_,n,d⟩,_⟩:=I.tuple h;obtain⟨b,g,⟨p,v,_,u,w⟩,_⟩:=I.tuple l
 have:f=b:=by grind
 subst this;exact r.inj g
end
noncomputable abbrev Cx.wish (X:Cx) (E:Yl):Cx:={X with xe:=E}
noncomputable abbrev Cx.nox (X:Cx):Cx:=X.wish λ_ _=>False
def Cx.Ok.wish {X:Cx} (ok:X.Ok) (E:Yl):(X.wish E).Ok:=
 ⟨ok.mod,ok.kind,ok.glob,ok.blt,ok.above,ok.inj,ok.has,ok.cab,ok.hd,ok.frames,ok.stk,ok.exf,ok.bs,ok.bsz,ok.noex,ok.exfs,ok.funs,ok.frf⟩
def Cx.Ok.unwish {X:Cx}{E} (ok:(X.wish E).Ok):X.Ok:=
 ⟨ok.mod,ok.kind,ok.glob,ok.blt,ok.above,ok.inj,ok.has,ok.cab,ok.hd,ok.frames,ok.stk,ok.exf,ok.bs,ok.bsz,ok.noex,ok.exfs,ok.funs,ok.frf⟩
section
variable {X:Cx}{pins:Yj}{σ:St}{H:Hp}{s:Shared}{E:Yl}
def Inv.wish (I:Inv X pins σ H s) (E:Yl):Inv (X.wish E) pins σ H s:=⟨I.ok.wish E,I.os,I.bare,I.base,I.loc,I.cell,I.free,I.freeC,I.pin,I.hok,I.len⟩
def Inv.unwish (I:Inv (X.wish E) pins σ H s):Inv X pins σ H s:=⟨I.ok.unwish,I.os,I.bare,I.base,I.loc,I.cell,I.free,I.freeC,I.pin,I.hok,I.len⟩
def SP.unwish (h:SP (X.wish E) pins D f l):SP X pins D f l:=by
 cases f with
 |ret u=>obtain⟨v,b,g,I,r,q⟩:=h;exact⟨v,b,g,I.unwish,r,q⟩
 |_=>obtain⟨b,g,I,q⟩:=h;exact⟨b,g,I.unwish,q⟩
def PSs.nox {st t} (h:PSs X.nox st t):PSs X st t:=λpins s σ H D I hw=>
 WV (h pins s σ H D (I.wish _) hw) (λ_ _ q=>q.unwish) λ_ _ z=>False.elim z
end
section
variable {X:Cx}{st:Stmt}{rest:Yr}{t u:TS}{e:Expr}{te:TE}{pos:Pos}
noncomputable def Md:TS:=λD b H=>D.nx b H
noncomputable def Lm(t u:TS):TS:=λD b H=>t {D with nx:=u D} b H
def NI:PSs X [] Md:=λ_ _ b H _ I h=>Jd ⟨b,H,I,h⟩
def LQ(o:PS X st t)(n:PSs X rest u):PSs X (st::rest) (Lm t u):=by
 intro pins s g H D I h;refine wpAny_execs_cons (thn (o pins s g H {D with nx:=u D} I h) λf l q=>?_)
 cases f with
 |next=>
  obtain⟨b,r,p,q⟩:=q;exact n pins l b r D p q
 |_=>exact q
def XM(g:PS X st t):PSs X [st] t:=by
 intro pins s b H D I h;refine wpAny_execs_cons (thn (g pins s b H D I h) λf l q=>?_);cases f with
 |next=>exact Jd q
 |_=>lia
def Inv.quiet {b:St}{H}{s} (I:Inv X pins b H s):interactive X.env=false:=by simp[interactive,I.ok.kind]
noncomputable def BG(te:TE):TS:=λD b H=>te b H λ_ f=>D.nx b f
def KY(l:PE X e te)(g:autoParam (swapsWith e none pos.line X.env=pure false) au_0):PS X (.Expr e pos) (BG te):=by
 intro pins s b H D I h;exact wpAny_Expr_any (thn (l pins s b H _ I h) λv p ⟨x,o,n,r,f⟩=>⟨b,o,n,f⟩) I.quiet g
noncomputable def NZ(te:TE):TS:=λD b H=>te b H D.rt
def Xt(l:PE X e te):PS X (.Return (some e) pos) (NZ te):=by
 intro pins s b H D I h;exact wpAny_Return_some (thn (l pins s b H _ I h) λv p ⟨x,o,n,f,g⟩=>⟨x,b,o,n,f,g⟩)
noncomputable def AD(c:TT)(t u:TS):TS:=λD f H=>c f H λb g=>if b=true then t D f g else u D f g
def NK{tc}(p:PT X c tc)(v:PSs X a t)(r:PSs X b u):PS X (.If c a b pos) (AD tc t u):=by
 intro pins s f H D I h;refine wpAny_If (thn (p pins s f H _ I h) ?_);rintro d g ⟨o,n,l⟩;cases d with
 |true=>exact v pins g f o D n l
 |false=>exact r pins g f o D n l
noncomputable def EA:TS:=λ_ _ _=>False
def Se:PS X st EA:=λ_ _ _ _ _ _ h=>h.elim
end
abbrev TG:=V->St->Hp->(St->Hp->Prop)->Prop
abbrev TGs:=List V->St->Hp->(St->Hp->Prop)->Prop
def PG(X:Cx)(target:Expr)(t:TG):Prop:=
 ∀(pins:Yj) (s:Shared) (f:St) (H:Hp) (v:V) (u:Value) (Q:St->Hp->Prop),Inv X pins f H s->RelV v u->t v f H Q->
  wpAny (model X.prog X.w) X.A (assign target X.env u) (λ_ h=>∃b g,Inv X pins b g h/\Q b g) X.xe s
def PGs(X:Cx)(n:Yq)(t:TGs):Prop:=
 ∀(pins:Yj) (s:Shared) (f:St) (H:Hp) (g:List V) (h:Yo) (Q:St->Hp->Prop),Inv X pins f H s->Vals g h->t g f H Q->
  wpAny (model X.prog X.w) X.A (assignInOrder ((assignEach n X.env).map (·.2)) h) (λ_ o=>∃b l,Inv X pins b l o/\Q b l) X.xe s
abbrev TIp:=V->V->Hp->VK->Prop
def PIp(X:Cx)(f:Operator)(t:TIp):Prop:=
 ∀(pins:Yj) (s:Shared) (b:St) (H:Hp) (x y:V) (v u:Value) (Q:VK),Inv X pins b H s->RelV x v->RelV y u->t x y H Q->
  wpAny (model X.prog X.w) X.A (inplaceOp f v u) (EP X pins b Q) X.xe s
section
variable {X:Cx}{pos:Pos}
noncomputable def NN(i:Nat):TG:=λv b H Q=>Q (b.set i<|some v) H
def A0(g:X.N.Nodup)(b:X.N[i]?=some x)(hx:Loc X.env.scope x)(f:autoParam (X.fn x=true\/X.env.scope.names.lookup x=some .local) au_2):PG X (.Name x pos) (NN i):=by
 intro pins s n H v u Q I r h;exact wpAny_assign_Name (NP I g b hx r (λo l=>⟨_,H,l,h⟩) f)
noncomputable def GZ:TGs:=λf b H Q=>f=[]/\Q b H
noncomputable def HI(t:TG)(u:TGs):TGs:=λg f H Q=>∃v r,g=v::r/\t v f H λb h=>u r b h Q
def DE:PGs X [] GZ:=by
 intro pins s b H f g Q I r h;obtain⟨e,h⟩:=h;exact assignInOrder_nil ⟨b,H,I,h⟩
def Bc{t u}(w:PG X e t)(p:PGs X es u)(o:autoParam ((assignEach (e::es) X.env).map (·.2)=assign e X.env::(assignEach es X.env).map (·.2)) au_0):PGs X (e::es) (HI t u):=by
 intro pins s f H A C Q I r h;obtain⟨v,B,x,h⟩:=h;subst x;cases r with
 |cons r l=>
  rw[o];refine assignInOrder_cons (thn (w pins s f H _ _ _ I r h) ?_);rintro _ g ⟨b,z,y,n⟩;exact p pins g b z _ _ Q y l n
noncomputable def Dw(K:Yg)(n:Nat)(t:TGs):TG:=λv b H Q=>∃a xs,v=.ref a/\SqT K H a xs/\xs.length=n/\t xs b H Q
def O5{k t n}(z:X.calm=true)(h:PGs X es t)(x:autoParam ((assignEach es X.env).length=n) au_0)(f:autoParam ((assignEach es X.env).findIdx? (·.1)=none) au_0):PG X (.Tuple es k pos) (Dw X.K n t):=by
 intro pins s g H v u Q I r hw;obtain⟨a,xs,B,hq,y,hw⟩:=hw;subst B;cases r
 obtain⟨p,l,w,E⟩:=I.tuple hq;refine assign_Tuple_tuple (I.ok.hd z) w (by simp[x,←y,l.length]) f λA hx=>?_;have C:Inv X pins g H {s with heap:=A}:=I.kept λb o e=>hx b o (WM<|W8 e) e
 exact h pins _ g H xs _ Q C (by lia) hw
noncomputable def SE(te:TE)(g:TG):TS:=λD b H=>te b H λx f=>g x b f D.nx
def Zeg(u:X.N.Nodup)(o:X.N[i]?=some x)(hx:Loc X.env.scope x)(r:PE X e te)(n:autoParam (swapsWith e (some<|.Name x b) pos.line X.env=pure false) au_0)(p:autoParam (X.fn x=true\/X.env.scope.names.lookup x=some .local) au_2) :
  PS X (.Assign [.Name x b] e pos) (SE te<|NN i):=by
 intro pins s f H D I h;refine wpAny_Assign_Name (thn (r pins s f H _ I h) λv C ⟨y,A,z,g,l⟩=>?_) n;exact NP z u o hx g (λB w=>⟨_,A,w,l⟩) p
noncomputable def GP(i:Nat)(te:TE)(ti:TIp):TS:=λD b H=>∃x,b[i]?=some (some x)/\te b H λy g=>ti x y g λz f=>D.nx (b.set i<|some z) f
def Oq(hN:X.N.Nodup)(E:X.N[i]?=some x)(hx:Loc X.env.scope x)(he:PE X e te)(U:PIp X C ti)(hf:autoParam (X.fn x=true\/X.env.scope.names.lookup x=some .local) au_2) :
  PS X (.AugAssign (.Name x B) C e pos) (GP i te ti):=by
 intro pins s p H D I h;obtain⟨v,e1,h⟩:=h;obtain⟨m,Y,hl⟩:=I.loc;have o:Vis X.env.scope x:=by rcases hx with k|k;exact .inl k;exact .inr (.inl k)
 obtain⟨u,r,l⟩:=hl i x v E e1 o;refine wpAny_AugAssign_Name ?_
 have G:wpAny (model X.prog X.w) X.A (eval e X.env) (λw n=>wpAny (model X.prog X.w) X.A (inplaceOp C u w) (λr g=>wpAny (model X.prog X.w) X.A (storeName X.env x r) (λ_=>SP X pins D .next) X.xe g) X.xe n) X.xe s:=by
  refine thn (he pins s p H _ I h) λw J ⟨y,H1,I1,M,T⟩=>?_;refine thn (U pins J p H1 v y u w _ I1 r M T) λz s2 ⟨zv,H2,I2,L,Q⟩=>?_;exact NP I2 hN E hx L (λs3 I3=>⟨_,H2,I3,Q⟩) hf
 rcases l with⟨b,hm⟩|⟨b,c,hc,f⟩
 ·exact wpAny_loadName_local I.ok.kind b Y hm G
 ·rcases b with b|b
  ·exact wpAny_loadName_cell I.ok.kind b hc f G
  ·rcases hx with k|k
   ·have:X.env.scope.names.lookup x=some .free:=b
    grind
   ·have:X.env.scope.names.lookup x=some .free:=b
    rw[k]at this;cases this
noncomputable def ipI(f:Int->Int->Int):TIp:=λx y H Q=>∃i j,x=.int i/\y=.int j/\Q (.int<|f i j) H
def Mt:PIp X .Add (ipI λi j=>i+j):=by
 intro pins s n H x y v u Q I f b h;obtain⟨i,j,l,g,q⟩:=h;subst l;subst g;obtain⟨t,rfl⟩:=f;obtain⟨o,rfl⟩:=b;exact iadd_int ⟨.int _,H,I.tok _,⟨_,rfl⟩,q⟩
noncomputable def E4(c:TT)(o:TS):TS:=λD f H=>∃W:Nat->St->Hp->Prop,(∃m,W m f H)/\∀m f H,W m f H->
 c f H λb l=>if b=true then ∃N:St->Hp->Prop,(∀g n,N g n->∃h,h<m/\W h g n)/\o {D with nx:=N,ct:=N,bk:=D.nx} f l else D.nx f l
def RD{tc p}(u:PassesOwn (model X.prog X.w) X.A X.env X.xe)(U:PT X c tc)(Y:PSs X body p):PS X (.While c body [] pos) (E4 tc p):=by
 intro pins s E H D I h;obtain⟨W,⟨T,J⟩,turn⟩:=h;refine wpAny_While (codeAny_whileLoop (λn Q=>∃l B,Inv X pins l B Q/\W n l B) ?_ T ⟨E,H,I,J⟩);rintro n M ⟨g,z,I1,G⟩;refine QS u (thn (U pins M g z _ I1<|turn n g z G) λb L ⟨y,x,o⟩=>?_);cases b with
 |true=>
  obtain⟨N,hN,o⟩:=o;refine QS u (thn (Y pins L g y _ x o) λf s3 r=>?_);cases f with
  |brk|ret v=>exact r
  |_=>
   obtain⟨C,H3,I3,n3⟩:=r
   grind
 |false=>
  exact Jd ⟨g,y,x,o⟩
end
structure It where
 go:Nat->Hp->Prop
 yld:Nat->Hp->V->Hp->Prop
 stop:Nat->Hp->Prop
def Ti(X:Cx)(pins:Yj)(H:Hp)(b:Addr):Prop:=
 H b=none/\b≠X.env.locals/\b∉X.fs/\(b∈X.ex\/X.s₀.heap.objs.size<=b)/\(∀x c,X.env.cells.lookup x=some c->c≠b)/\∀p∈X.pn++pins,p.1≠b
def Inv.fpOk {g:St}{H H'}{s}{b:Addr} (I:Inv X pins g H s) (f:s.heap.objs.size<=b) (l:H' b=none):Ti X pins H' b:=by
 refine⟨l,Jz (WR I.lt f),I.nofs f,.inr (WC I.sz f),λx c e z=>?_,λp h z=>?_⟩
 ·obtain⟨v,q⟩:=I.cell x c e;exact absurd (WR q.lt<|by grind) (Q9 _)
 ·exact absurd (WR (W8 (I.pin p h).1)<|by grind) (Q9 _)
structure Turn (P:Program) (w:World) (K:Yg) (tg:Expr) (J:It) (fp:List Addr) (it:Addr) (tn:Nat->Heap->Prop):Prop where
 mem:it∈fp
 obj:∀i h,tn i h->∀b∈fp,∃o,h.get? b=some o/\∀v,o.data≠.cell v
 keep:∀i h h',tn i h->(∀b∈fp,∀o,h.get? b=some o->h'.get? b=some o)->tn i h'
 item:∀(X:Cx),X.prog=P->X.w=w->X.K=K->X.calm=true->∀(i:Nat) (pins:Yj) (s:Shared) (σ:St) (H:Hp) (E:Yl),Inv X pins σ H s->(∀b∈fp,Ti X pins H b)->tn i s.heap->J.go i H->
  wpAny (model P w) X.A (pyNext<|.ref it) (λr s1=>∃u,r=some u/\
   wpAny (model P w) X.A (letOwnedTupleGo tg (.ref it) u) (λ_ s2=>∃x H',Inv X pins σ H' s2/\RelV x u/\J.yld i H x H'/\tn (i+1) s2.heap/\∀b∈fp,H' b=none) E s1) E s
 done:∀(X:Cx),X.prog=P->X.w=w->X.K=K->X.calm=true->∀(i:Nat) (pins:Yj) (s:Shared) (σ:St) (H:Hp) (E:Yl),Inv X pins σ H s->(∀b∈fp,Ti X pins H b)->tn i s.heap->J.stop i H->
  wpAny (model P w) X.A (pyNext<|.ref it) (λr s1=>r=none/\Inv X pins σ H s1) E s
 self:∀(A:Around) (i:Nat) (s:Shared) (Q:Yl) (E:Yl),tn i s.heap->Q (.ref it) s->wpAny (model P w) A (pyIter<|.ref it) Q E s
abbrev TI:=St->Hp->(It->Hp->Prop)->Prop
def PIE(X:Cx)(pins:Yj)(o:St)(p:Expr)(R:It->Hp->Prop)(f:Value)(h:Shared):Prop:=
 ∃(l:Addr) (n:List Addr) (tn:Nat->Heap->Prop) (J:It) (g:Hp),f=.ref l/\Inv X pins o g h/\Turn X.prog X.w X.K p J n l tn/\tn 0 h.heap/\(∀b∈n,Ti X pins g b)/\R J g
def PI(X:Cx)(g iter:Expr)(f:TI):Prop:=
 ∀(pins:Yj) (s:Shared) (b:St) (H:Hp) (R:It->Hp->Prop),Inv X pins b H s->f b H R->
  wpAny (model X.prog X.w) X.A (eval iter X.env) (λv h=>wpAny (model X.prog X.w) X.A (pyIter v) (PIE X pins b g R) X.xe h) X.xe s
def Bw {s f g u o n vs Q} (h : s.heap.get? g = some o) (p : o.cls = .type n) (l : o.data = .fields vs)
    (r : ["enumerate", "zip", "dict_itemiterator", "dict_reverseitemiterator", "odict_iterator", "itertools.zip_longest", "itertools.pairwise"].contains n = false) (b : Q () s) : wpAny M A (letOwnedTupleGo f (.ref g) u) Q E s := by
  cases f <;> first
    | exact W1 b
    | (cases u <;> first
        | exact W1 b
        | (refine Ww (wpAny_load h ?_)
           rw [p, l]
           show wpAny M A (if (["enumerate", "zip", "dict_itemiterator", "dict_reverseitemiterator", "odict_iterator", "itertools.zip_longest", "itertools.pairwise"].contains n && vs[0]? == some (rawInt _)) = true then _ else _) Q E s
           rw [W3 (by grind)]
           exact W1 b))
noncomputable def Itl(K:Yg)(a:Addr):It:=
 ⟨λi H=>∃xs x,SqL K H a xs/\xs[i]?=some x,λi H x b=>b=H/\∀xs,SqL K H a xs->xs[i]?=some x,λi H=>∃xs,SqL K H a xs/\xs.length<=i⟩
noncomputable def Itt(K:Yg)(a:Addr):It:=
 ⟨λi H=>∃xs x,SqT K H a xs/\xs[i]?=some x,λi H x b=>b=H/\∀xs,SqT K H a xs->xs[i]?=some x,λi H=>∃xs,SqT K H a xs/\xs.length<=i⟩
noncomputable def Itr(lo:Int)(n:Nat):It:=⟨λi _=>i<n,λi H x b=>b=H/\x=.int (lo+i),λi _=>n<=i⟩
def Zdr{K tg}(a it:Addr):Turn P w K tg (Itl K a) [it] it (λi h=>h.IsListIter it a i) where
 mem:=by simp
 obj:=λi h st b hb=>by
  have e:b=it:=by simpa using hb
  subst e;obtain⟨o,e,c,d⟩:=st;exact⟨o,e,λv z=>by rw[d]at z;cases z⟩
 keep:=λi h h' st k=>st.at λo e=>k it (by simp) o e
 item:=by
  intro X hP hw hK hc i pins s σ H E I hf st hg;subst hP hw hK;obtain⟨xs,x,hq,hx⟩:=hg;obtain⟨its,rv,p,hz⟩:=I.list hq;obtain⟨u,hu,ru⟩:=rv.get hx;obtain⟨f0,f1,f2,f3,f4,f5⟩:=hf it (by simp);refine wpAny_pyNext_list_item st p.isList (by simpa using hu) λh' st' sb=>?_;have I1:Inv X pins σ H {s with heap:=h'}:=I.turned (λb o hb e=>(sb.2 b hb).trans e) f0 f1 f3 f4 f5
  obtain⟨o,e,c,d⟩:=id st';exact⟨u,rfl,Bw e c d (by decide) ⟨x,H,I1,ru,⟨rfl,λys hy=>by rw[I.list_inj hy hq];exact hx⟩,st',λb hb=>(hf b hb).1⟩⟩
 done:=by
  intro X hP hw hK hc i pins s σ H E I hf st hg;subst hP hw hK;obtain⟨xs,hq,hx⟩:=hg;obtain⟨its,rv,p,hz⟩:=I.list hq;obtain⟨f0,f1,f2,f3,f4,f5⟩:=hf it (by simp);have hl:=rv.length;exact wpAny_pyNext_list_end (I.ok.hd hc) st p.isList (by simp;lia) λh' eb=>⟨rfl,I.turned (λb o hb e=>eb b o hb e) f0 f1 f3 f4 f5⟩
 self:=λ_ _ _ _ _ st h=>wpAny_pyIter_listiter st h
def Zez{K tg}(a it:Addr):Turn P w K tg (Itt K a) [it] it (λi h=>h.IsTupleIter it a i) where
 mem:=by simp
 obj:=λi h st b hb=>by
  have e:b=it:=by simpa using hb
  subst e;obtain⟨o,e,c,d⟩:=st;exact⟨o,e,λv z=>by rw[d]at z;cases z⟩
 keep:=λi h h' st k=>st.at λo e=>k it (by simp) o e
 item:=by
  intro X hP hw hK hc i pins s σ H E I hf st hg;subst hP hw hK;obtain⟨xs,x,hq,hx⟩:=hg;obtain⟨its,rv,p,hz⟩:=I.tuple hq;obtain⟨u,hu,ru⟩:=rv.get hx;obtain⟨f0,f1,f2,f3,f4,f5⟩:=hf it (by simp);refine wpAny_pyNext_tuple_item st p (by simpa using hu) λh' st' sb=>?_;have I1:Inv X pins σ H {s with heap:=h'}:=I.turned (λb o hb e=>(sb.2 b hb).trans e) f0 f1 f3 f4 f5
  obtain⟨o,e,c,d⟩:=id st';exact⟨u,rfl,Bw e c d (by decide) ⟨x,H,I1,ru,⟨rfl,λys hy=>by rw[I.tuple_inj hy hq];exact hx⟩,st',λb hb=>(hf b hb).1⟩⟩
 done:=by
  intro X hP hw hK hc i pins s σ H E I hf st hg;subst hP hw hK;obtain⟨xs,hq,hx⟩:=hg;obtain⟨its,rv,p,hz⟩:=I.tuple hq;obtain⟨f0,f1,f2,f3,f4,f5⟩:=hf it (by simp);have hl:=rv.length;exact wpAny_pyNext_tuple_end (I.ok.hd hc) st p (by simp;lia) λh' eb=>⟨rfl,I.turned (λb o hb e=>eb b o hb e) f0 f1 f3 f4 f5⟩
 self:=λ_ _ _ _ _ st h=>wpAny_pyIter_tupleiter st h
def Zbp{K tg}(it:Addr)(lo:Int)(n:Nat):Turn P w K tg (Itr lo n) [it] it (λi h=>IsRangeIter h it (lo+(i:Nat)*1) ((n:Int)-(i:Nat)) 1) where
 mem:=by simp
 obj:=λi h st b hb=>by
  have e:b=it:=by simpa using hb
  subst e
  exact⟨_,st,λv z=>by
   cases z⟩
 keep:=λi h h' st k=>k it (by simp) _ st
 item:=by
  intro X hP hw hK hc i pins s σ H E I hf st hg;subst hP hw hK;obtain⟨f0,f1,f2,f3,f4,f5⟩:=hf it (by simp);refine(Walks.range (prog:=X.prog) (w:=X.w) (I.ok.hd hc) it lo 1 n).item i s _ _ hg st λv h' tk hv st' kk=>?_;obtain⟨t,rfl⟩:=hv;have I1:Inv X pins σ H {s with heap:=h',toks:=tk}:=I.turned (λb o hb e=>kk b o (by simpa using hb) e) f0 f1 f3 f4 f5
  refine⟨_,rfl,Bw st' rfl rfl (by decide) ⟨.int (lo+i),H,I1,⟨t,?_⟩,⟨rfl,rfl⟩,st',λb hb=>(hf b hb).1⟩⟩;rw[Int.mul_one]
 done:=by
  intro X hP hw hK hc i pins s σ H E I hf st hg;obtain⟨f0,f1,f2,f3,f4,f5⟩:=hf it (by simp);exact wpAny_pyNext_range_end (I.ok.hd hc) st (by have:n<=i:=hg;lia) λh' eb=>⟨rfl,I.turned (λb o hb e=>eb b o hb e) f0 f1 f3 f4 f5⟩
 self:=λ_ _ _ _ _ st h=>wpAny_pyIter_rangeiter st h
section
variable {X:Cx}{tg:Expr}
noncomputable def Fy(K:Yg)(g:TE):TI:=λf H R=>g f H λx b=>∃a,x=.ref a/\(∃xs,SqL K b a xs)/\R (Itl K a) b
noncomputable def Dr(K:Yg)(g:TE):TI:=λf H R=>g f H λx b=>∃a,x=.ref a/\(∃xs,SqT K b a xs)/\R (Itt K a) b
def Ee(z:PE X l r):PI X tg l (Fy X.K r):=by
 intro pins s n H R I h;refine thn (z pins s n H _ I h) λv g ⟨x,A,f,u,w⟩=>?_;obtain⟨a,e,⟨xs,hq⟩,q⟩:=w;subst e;cases u
 obtain⟨y,B,p,C⟩:=f.list hq;refine VG p.isList ?_;refine⟨g.heap.objs.size,[g.heap.objs.size],_,_,A,rfl,f.kept λb o e=>W2 _ e,Zdr a _,⟨_,W9 _ rfl,rfl,rfl⟩,λb E=>?_,q⟩;have e:b=g.heap.objs.size:=by grind
 subst e;exact f.fpOk (W5 _) (f.hok.fresh<|W5 _)
def Zat(z:PE X l r):PI X tg l (Dr X.K r):=by
 intro pins s n H R I h;refine thn (z pins s n H _ I h) λv g ⟨x,A,f,u,w⟩=>?_;obtain⟨a,e,⟨xs,hq⟩,q⟩:=w;subst e;cases u
 obtain⟨y,B,p,C⟩:=f.tuple hq;refine wpAny_pyIter_tuple p ?_;refine⟨g.heap.objs.size,[g.heap.objs.size],_,_,A,rfl,f.kept λb o e=>W2 _ e,Zez a _,⟨_,W9 _ rfl,rfl,rfl⟩,λb E=>?_,q⟩;have e:b=g.heap.objs.size:=by grind
 subst e;exact f.fpOk (W5 _) (f.hok.fresh<|W5 _)
def HV{g:St}{H}{s}{R}{E}{lo f}{t u v}{tk}(I:Inv X pins g H s)(x:-(2 ^ 62)<=lo)(r:lo<2 ^ 62)(p:-(2 ^ 62)<=f)(n:f<2 ^ 62)(q:R (Itr lo (f-lo).toNat) H):wpAny (model X.prog X.w) X.A (pyIter<|.ref s.heap.objs.size) (PIE X pins g tg R) E {s with heap:=s.heap.push {cls:=.type "range",data:=.fields #[.int lo t,.int f u,.int 1 v]},toks:=tk}:=by
 refine wpAny_pyIter_range (IsRange.new ..) (small_one x r p n) ?_;have h:Inv X pins g H {s with heap:=s.heap.push {cls:=.type "range",data:=.fields #[.int lo t,.int f u,.int 1 v]},toks:=tk}:=I.kept λb o e=>W2 _ e
 refine⟨(s.heap.push {cls:=.type "range",data:=.fields #[.int lo t,.int f u,.int 1 v]}).objs.size,[(s.heap.push {cls:=.type "range",data:=.fields #[.int lo t,.int f u,.int 1 v]}).objs.size],_,_,H,rfl,
  h.kept λb o e=>W2 _ e,Zbp _ lo (f-lo).toNat,?_,λb l=>?_,q⟩
 ·have z:lo+((0:Nat):Int)*1=lo:=by simp
  have y:(((f-lo).toNat:Nat):Int)-((0:Nat):Int)=Builtin.Range.rangeSize lo f 1:=by rw[rangeSize_one];split<;>lia
  rw[z,y];exact W9 _ rfl
 ·have e:b=(s.heap.push {cls:=.type "range",data:=.fields #[.int lo t,.int f u,.int 1 v]}).objs.size:=by simpa using l
  subst e;exact h.fpOk (W5 _) (h.hok.fresh<|W5 _)
noncomputable def Es(g:TA):TI:=λb H R=>g b H λf h=>∃j:Int,f=[.int j]/\-(2 ^ 62)<=j/\j<2 ^ 62/\R (Itr 0 j.toNat) h
noncomputable def IU(g:TA):TI:=λb H R=>g b H λf h=>∃i j:Int,f=[.int i,.int j]/\(-(2 ^ 62)<=i/\i<2 ^ 62/\-(2 ^ 62)<=j/\j<2 ^ 62)/\R (Itr i (j-i).toNat) h
def Zdq(w:Gl X "range")(v:X.mg "range"=none)(x:PA X [a] g)(u:autoParam (starEach [a] X.env=[(false,eval a X.env)]) au_0):PI X tg (.Call (.Name "range" p) [a] [] pos) (Es g):=by
 intro pins s f H R I h;refine Call_ (SJ I w v boot_range<|Vn (thn (x pos pins s f H _ I h) λA B ⟨z,C,y,n,b⟩=>?_) u rfl);obtain⟨j,e,b,o,q⟩:=b;subst e;cases n with
 |cons r l=>
  cases l
  obtain⟨t,rfl⟩:=r;exact call_range_1 (HV y (by lia) (by lia) b o<|by grind)
def Zbd{p pos}(A:Gl X "range")(z:X.mg "range"=none)(B:PA X [a,b] o)(M:autoParam (starEach [a,b] X.env=[(false,eval a X.env),(false,eval b X.env)]) au_0)(l:autoParam (starEach [b] X.env=[(false,eval b X.env)]) au_0) :
  PI X tg (.Call (.Name "range" p) [a,b] [] pos) (IU o):=by
 intro pins s n H R I h;refine Call_ (SJ I A z boot_range<|Vn (thn (B pos pins s n H _ I h) λG L ⟨E,N,C,u,g⟩=>?_) (by grind)<|by rw[l];rfl);obtain⟨i,j,e,⟨g,y,x,w⟩,q⟩:=g;subst e;cases u with
 |cons r f=>
  cases f with
  |cons v f=>
   cases f
   obtain⟨t,rfl⟩:=r;obtain⟨J,rfl⟩:=v;exact call_range_2 (HV C g y x w q)
noncomputable def Em(o:TI)(g:TG)(p:TS):TS:=λD b H=>o b H λJ s=>∃W:Nat->Nat->St->Hp->Prop,(∃m,W 0 m b s)/\∀i m b H,W i m b H->
 (J.stop i H/\D.nx b H)\/(J.go i H/\∃N:St->Hp->Prop,(∀f h,N f h->∃n,n<m/\W (i+1) n f h)/\∀x h,J.yld i H x h->g x b h λl r=>p {D with nx:=N,ct:=N,bk:=D.nx} l r)
noncomputable def SO(f:List Addr)(h:Heap):Yj:=f.filterMap λb=>(h.get? b).map λo=>(b,o)
def BD{b o}(f:b∈g)(e:h.get? b=some o):(b,o)∈SO g h:=Jr.mpr ⟨b,f,by rw[e];rfl⟩
def Zeb(f:p∈SO g h):p.1∈g/\h.get? p.1=some p.2:=by
 obtain⟨b,l,e⟩:=Jr.mp f;cases q:h.get? b with
 |_=>grind
def Inv.pinned {f:St}{H}{s}{fp} (I:Inv X pins f H s) (h:∀b∈fp,Ti X pins H b) (n:∀b∈fp,∃o,s.heap.get? b=some o/\∀v,o.data≠.cell v):Inv X (pins++SO fp s.heap) f H s:=
 I.pins_of λp g=>(WL.mp g).elim (λz=>I.pin p (WO _ z)) λz=>by
  obtain⟨l,e⟩:=Zeb z;obtain⟨f0,f1,r,_⟩:=h p.1 l
  grind
def Inv.unpinned {b:St}{H}{s} (I:Inv X (pins++g) b H s):Inv X pins b H s:=I.pins_of λp f=>I.pin p (WO _<|Q0 _ f)
def Zjj{wi g tb pos}(Q:PassesOwn (model X.prog X.w) X.A X.env X.xe)(hc:X.calm=true)(hi:PI X tg iter wi)(hg:PG X tg g)(z:PSs X body tb)(hs:autoParam (∀x,foldedSetIterable iter X.env x=pure x) au_3):PS X (.For tg iter body [] pos) (Em wi g tb):=by
 intro pins s σ H D I h;refine wpAny_For (thn (hi pins s σ H _ I h) λv s1 h1=>thn h1 λitv s2 h2=>?_) hs;obtain⟨it,Y,tn,J,H2,e,I2,T,st2,f2,W,⟨m0,w0⟩,turn⟩:=h2;subst e;have stat:∀{C:Hp},(∀b∈Y,C b=none)->∀b∈Y,Ti X pins C b:=λhn b z=>⟨hn b z,(f2 b z).2⟩;refine codeAny_forLoop_any (λn s'=>∃i y C,Inv X pins y C s'/\tn i s'.heap/\(∀b∈Y,C b=none)/\W i n y C) ?_ m0 ⟨0,σ,H2,I2,st2,λb z=>(f2 b z).1,w0⟩;rintro n s3 ⟨i,p,H3,I3,M,U,w3⟩;rcases turn i n p H3 w3 with⟨stop,qn⟩|⟨go,N,hN,step⟩
 ·refine QS Q (thn (T.done X rfl rfl rfl hc i pins s3 p H3 X.xe I3 (stat U) M stop) ?_);rintro r s4 ⟨hr,I4⟩;subst hr;exact Jd ⟨p,H3,I4,qn⟩
 ·refine QS Q (thn (T.item X rfl rfl rfl hc i pins s3 p H3 X.xe I3 (stat U) M go) ?_);rintro r s4 ⟨u,hr,h4⟩;subst hr;refine QS Q (thn h4 ?_);rintro _ s5 ⟨x,H5,I5,r5,y5,G,fr5⟩;refine QS Q (thn (hg _ s5 p H5 x u _ (I5.pinned (stat fr5)<|T.obj _ _ G) r5<|step x H5 y5) ?_);rintro _ s6 ⟨σ6,H6,I6,q6⟩;refine QS Q (thn (z _ s6 σ6 H6 _ I6 q6) λf s7 L=>?_)
  have again:∀{l:St} {B:Hp},Inv X (pins++SO Y s5.heap) l B s7->N l B->∃m,m<n/\∃i y C,Inv X pins y C s7/\tn i s7.heap/\(∀b∈Y,C b=none)/\W i m y C:=λ{l B} E n7=>by
   obtain⟨m',hm,w7⟩:=hN l B n7;refine⟨m',hm,i+1,l,B,E.unpinned,T.keep _ _ _ G λb z o e=>(E.pin (b,o)<|WO _<|WO _<|BD z e).1,λb z=>?_,w7⟩;obtain⟨o,e,d⟩:=T.obj _ _ G b z;exact(E.pin (b,o)<|WO _<|WO _<|BD z e).2.1
  cases f with
  |brk=>obtain⟨l,B,E,L⟩:=L;exact⟨l,B,E.unpinned,L⟩
  |ret v=>obtain⟨x7,l,B,E,r7,L⟩:=L;exact⟨x7,l,B,E.unpinned,r7,L⟩
  |_=>obtain⟨l,B,E,n7⟩:=L;exact again E n7
end
abbrev R2:=V->V->Hp->VK->Prop
def OpR(X:Cx)(f:Value->Value->Sem Value)(r:R2):Prop:=
 ∀(pins:Yj) (s:Shared) (b:St) (H:Hp) (x y:V) (v u:Value) (Q:VK),Inv X pins b H s->RelV x v->RelV y u->r x y H Q->
  wpAny (model X.prog X.w) X.A (f v u) (EP X pins b Q) X.xe s
def UnR(X:Cx)(f:Value->Sem Value)(r:V->Hp->VK->Prop):Prop:=
 ∀(pins:Yj) (s:Shared) (b:St) (H:Hp) (x:V) (v:Value) (Q:VK),Inv X pins b H s->RelV x v->r x H Q->
  wpAny (model X.prog X.w) X.A (f v) (EP X pins b Q) X.xe s
def Kg(X:Cx)(f:Value)(r:List V->Hp->VK->Prop):Prop:=
 ∀(pins:Yj) (s:Shared) (b:St) (H:Hp) (xs:List V) (g:Yo) (Q:VK),Inv X pins b H s->Vals xs g->r xs H Q->
  wpAny (model X.prog X.w) X.A (call f g) (EP X pins b Q) X.xe s
def Oo(X:Cx)(r:V->Hp->(Bool->Hp->Prop)->Prop):Prop:=
 ∀(pins:Yj) (s:Shared) (b:St) (H:Hp) (x:V) (v:Value) (Q:Bool->Hp->Prop),Inv X pins b H s->RelV x v->r x H Q->
  wpAny (model X.prog X.w) X.A (truthy v) (TP X pins b Q) X.xe s
noncomputable def tOp(r:R2)(g f:TE):TE:=λb H Q=>g b H λx l=>f b l λy h=>r x y h Q
noncomputable def tUn(r:V->Hp->VK->Prop)(f:TE):TE:=λb H Q=>f b H λx g=>r x g Q
noncomputable def rI(C:Int->Int->Prop)(g:Int->Int->V):R2:=λx y H Q=>∃i j,x=.int i/\y=.int j/\C i j/\Q (g i j) H
noncomputable def rI0(g:Int->Int->V):R2:=λx y H Q=>∃i j,x=.int i/\y=.int j/\Q (g i j) H
def rU(g:Int->V):V->Hp->VK->Prop:=λx H Q=>∃i,x=.int i/\Q (g i) H
section
variable {X:Cx}{a b c:Expr}{ta tb tc:TE}{pos:Pos}
def Dg(E:PE X a ta)(C:PE X b tb){pins}{s}{g:St}{H}{R:V->V->Hp->Prop}(I:Inv X pins g H s)(h:ta g H λx r=>tb g r λy o=>R x y o){Q}{f:Value->Value->Sem Value}(N:∀v u p x y o,Inv X pins g o p->RelV x v->RelV y u->R x y o->wpAny (model X.prog X.w) X.A (f v u) Q X.xe p) :
  wpAny (model X.prog X.w) X.A (eval a X.env) (λv n=>wpAny (model X.prog X.w) X.A (eval b X.env) (λu l=>wpAny (model X.prog X.w) X.A (f v u) Q X.xe l) X.xe n) X.xe s:=by
 refine thn (E pins s g H _ I h) λv z ⟨x,r,G,L,B⟩=>?_;refine thn (C pins z g r _ G B) λu p ⟨y,o,T,J,M⟩=>?_
 grind
def PQ(p:OpR X (binaryOp o) r)(z:PE X a ta)(w:PE X b tb):PE X (.BinOp a o b pos) (tOp r ta tb):=by
 intro pins s f H Q I h;exact wpAny_BinOp (Dg z w I h λv u g x y B A n l q=>p pins g f B x y v u Q A n l q)
def NB(p:UnR X (unaryOp o) r)(u:PE X a ta):PE X (.UnaryOp o a pos) (tUn r ta):=by
 intro pins s f H Q I h;exact UnaryOp_ (thn (u pins s f H _ I h) λv g ⟨x,y,w,l,n⟩=>p pins g f y x v Q w l n)
def opI{C}{g:Int->Int->Int}(rule:∀i j t u s Q E,C i j->Q (.int (g i j) s.toks) {s with toks:=s.toks+1}->wpAny (model X.prog X.w) X.A (f (.int i t)<|.int j u) Q E s) :
  OpR X f (rI C λi j=>.int (g i j)):=by
 intro pins s r H x y v u Q I o n h;obtain⟨i,j,rfl,rfl,p,q⟩:=h;obtain⟨t,rfl⟩:=o;obtain⟨l,rfl⟩:=n;exact rule i j t l s _ _ p ⟨.int (g i j),H,I.tok _,⟨_,rfl⟩,q⟩
def Mq{g:Int->Int->Int}(rule:∀i j t u s Q E,Q (.int (g i j) s.toks) {s with toks:=s.toks+1}->wpAny (model X.prog X.w) X.A (f (.int i t)<|.int j u) Q E s) :
  OpR X f (rI0 λi j=>.int (g i j)):=by
 intro pins s p H x y v u Q I o n h;obtain⟨i,j,rfl,rfl,q⟩:=h;obtain⟨t,rfl⟩:=o;obtain⟨l,rfl⟩:=n;exact rule i j t l s _ _ ⟨.int (g i j),H,I.tok _,⟨_,rfl⟩,q⟩
def Cv{g:Int->Int->Bool}(rule:∀i j t u s Q E,Q (.bool<|g i j) s->wpAny (model X.prog X.w) X.A (f (.int i t)<|.int j u) Q E s) :
  OpR X f (rI0 λi j=>.bl (g i j)):=by
 intro pins s p H x y v u Q I o n h;obtain⟨i,j,rfl,rfl,q⟩:=h;obtain⟨t,rfl⟩:=o;obtain⟨l,rfl⟩:=n;exact rule i j t l s _ _ ⟨.bl (g i j),H,I,rfl,q⟩
def Sw(i j:Int):Prop:=0<j/\j<1073741824
def Bx(i j:Int):Prop:=0<=j/\j<=1000000/\i.natAbs<2 ^ 64
def CMul(i j:Int):Prop:=(-(2 ^ 64)<i/\i<2 ^ 64)\/(-(2 ^ 64)<j/\j<2 ^ 64)
def CMul.ok (h:CMul i j):IntMulOk i j:=by
 rcases h with⟨g,f⟩|⟨g,f⟩
 ·exact .of_left (intBits_le_64 g f)
 ·exact .of_right (intBits_le_64 g f)
def XW:OpR X (binaryOp .Add) (rI0 λi j=>.int (i+j)):=Mq λ_ _ _ _ _ _ _ q=>add_int q
def TB:OpR X (binaryOp .Sub) (rI0 λi j=>.int (i-j)):=Mq λ_ _ _ _ _ _ _ q=>sub_int q
def NM:OpR X (binaryOp .Mult) (rI CMul λi j=>.int (i*j)):=opI λ_ _ _ _ _ _ _ f q=>mul_int q f.ok
def PX:OpR X (binaryOp .FloorDiv) (rI Sw λi j=>.int (i / j)):=opI λi j _ _ _ _ _ f q=>by
 have h:=f.1;have g:=f.2;exact floordiv_int (by lia) (by rw[Int.fdiv_eq_ediv_of_nonneg i (by lia)];exact q) (.inl<|PyProof.noPylong_small<|by lia)
def XO:OpR X (binaryOp .Mod) (rI (λ_ j=>0<j) λi j=>.int (i % j)):=opI λi j _ _ _ _ _ f q=>by
 exact mod_int' (by lia) (by grind)
def Zb0:OpR X (binaryOp .Pow) (rI Bx λi j=>.int (i ^ j.toNat)):=opI λ_ _ _ _ _ _ _ f q=>pow_int_small f.1 f.2.1 f.2.2 q
def unI{g:Int->Int}(rule:∀i t s Q E,Q (.int (g i) s.toks) {s with toks:=s.toks+1}->wpAny (model X.prog X.w) X.A (f<|.int i t) Q E s) :
  UnR X f (rU λi=>.int (g i)):=by
 intro pins s n H x v Q I l h;obtain⟨i,rfl,q⟩:=h;obtain⟨t,rfl⟩:=l;exact rule i t s _ _ ⟨.int (g i),H,I.tok _,⟨_,rfl⟩,q⟩
def Sd:UnR X (unaryOp .USub) (rU λi=>.int (-i)):=unI λ_ _ _ _ _ q=>neg_int q
end
noncomputable def IK:V->V->Bool
 | .non,.non=>true | .non,.int _=>true | .int _,.non=>true | .non,.bl _=>true | .bl _,.non=>true | .non,.str _=>true | .str _,.non=>true
 | .int _,.int _=>true | .bl _,.bl _=>true | .str _,.str _=>true | .byt _,.byt _=>true
 | .int _,.str _=>true | .str _,.int _=>true | .bl _,.str _=>true | .str _,.bl _=>true
 |_,_=>false
noncomputable def rEq:R2:=λx y H Q=>IK x y=true/\Q (.bl<|decide (x=y)) H
noncomputable def rNe:R2:=λx y H Q=>IK x y=true/\Q (.bl (!decide (x=y))) H
def MB{i j:Int}:decide (V.int i=V.int j)=(i==j):=by
 rw[Vx];simp
def Ib{i j:Bool}:decide (V.bl i=V.bl j)=(i==j):=by
 rw[Vx];simp
def Mo{i j:Str}:decide (V.str i=V.str j)=(i==j):=by
 rw[Vx];simp
def Mg{i j:Array UInt8}:decide (V.byt i=V.byt j)=(i.toList==j.toList):=by
 rw[Vx];cases i
 cases j
 simp
section
variable {X:Cx}{a b c:Expr}{ta tb tc:TE}{pos:Pos}
def XB{f:St}{H}{s}{Q}{k g}(I:Inv X pins f H s)(q:Q (.bl k) H)(e:k=g):EP X pins f Q (.bool g) s:=by
 subst e;exact⟨.bl k,H,I,rfl,q⟩
def op_eq:OpR X (compareOp .Eq) rEq:=by
 intro pins s o H x y v u Q I n f h;obtain⟨l,q⟩:=h;cases x with
 |non=>
  cases n
  cases y with
  |non=>cases f;exact PySem.EqNone.eq_none_none (XB I q<|by simp)
  |bl j=>cases f;exact PySem.EqNone.eq_none_bool (XB I q<|by simp)
  |int j=>obtain⟨g,rfl⟩:=f;exact PySem.EqNone.eq_none_int (XB I q<|by simp)
  |str j=>obtain⟨g,rfl⟩:=f;exact PySem.EqNone.eq_none_str (XB I q<|by simp)
  |_=>exact absurd l WK
 |bl i=>
  cases n
  cases y with
  |non=>cases f;exact PySem.EqNone.eq_bool_none (XB I q<|by simp)
  |bl j=>cases f;exact eq_bool (XB I q Ib)
  |str j=>obtain⟨g,rfl⟩:=f;exact PySem.EqMixed.eq_bool_str (XB I q<|by simp)
  |_=>exact absurd l WK
 |int i=>
  obtain⟨t,rfl⟩:=n;cases y with
  |non=>cases f;exact PySem.EqNone.eq_int_none (XB I q<|by simp)
  |int j=>obtain⟨g,rfl⟩:=f;exact eq_int (XB I q MB)
  |str j=>obtain⟨g,rfl⟩:=f;exact PySem.EqMixed.eq_int_str (XB I q<|by simp)
  |_=>exact absurd l WK
 |str i=>
  obtain⟨t,rfl⟩:=n;cases y with
  |non=>cases f;exact PySem.EqNone.eq_str_none (XB I q<|by simp)
  |bl j=>cases f;exact PySem.EqMixed.eq_str_bool (XB I q<|by simp)
  |int j=>obtain⟨g,rfl⟩:=f;exact PySem.EqMixed.eq_str_int (XB I q<|by simp)
  |str j=>obtain⟨g,rfl⟩:=f;exact eq_str (XB I q Mo)
  |_=>exact absurd l WK
 |byt i=>
  obtain⟨t,rfl⟩:=n;cases y with
  |byt j=>obtain⟨g,rfl⟩:=f;exact PySem.W.eq_bytes (XB I q Mg)
  |_=>exact absurd l WK
 |_=>cases y<;>exact absurd (show false=true from l) WK
def op_ne:OpR X (compareOp .NotEq) rNe:=by
 intro pins s o H x y v u Q I n f h;obtain⟨l,q⟩:=h;cases x with
 |non=>
  cases n
  cases y with
  |non=>cases f;exact PySem.EqNone.ne_none_none (XB I q<|by simp)
  |bl j=>cases f;exact PySem.EqNone.ne_none_bool (XB I q<|by simp)
  |int j=>obtain⟨g,rfl⟩:=f;exact PySem.EqNone.ne_none_int (XB I q<|by simp)
  |str j=>obtain⟨g,rfl⟩:=f;exact PySem.EqNone.ne_none_str (XB I q<|by simp)
  |_=>exact absurd l WK
 |bl i=>
  cases n
  cases y with
  |non=>cases f;exact PySem.EqNone.ne_bool_none (XB I q<|by simp)
  |bl j=>cases f;exact ne_bool (XB I q<|Qf not Ib)
  |str j=>obtain⟨g,rfl⟩:=f;exact PySem.EqMixed.ne_bool_str (XB I q<|by simp)
  |_=>exact absurd l WK
 |int i=>
  obtain⟨t,rfl⟩:=n;cases y with
  |non=>cases f;exact PySem.EqNone.ne_int_none (XB I q<|by simp)
  |int j=>obtain⟨g,rfl⟩:=f;exact ne_int (XB I q<|Qf not MB)
  |str j=>obtain⟨g,rfl⟩:=f;exact PySem.EqMixed.ne_int_str (XB I q<|by simp)
  |_=>exact absurd l WK
 |str i=>
  obtain⟨t,rfl⟩:=n;cases y with
  |non=>cases f;exact PySem.EqNone.ne_str_none (XB I q<|by simp)
  |bl j=>cases f;exact PySem.EqMixed.ne_str_bool (XB I q<|by simp)
  |int j=>obtain⟨g,rfl⟩:=f;exact PySem.EqMixed.ne_str_int (XB I q<|by simp)
  |str j=>obtain⟨g,rfl⟩:=f;exact ne_str (XB I q<|Qf not Mo)
  |_=>exact absurd l WK
 |byt i=>
  obtain⟨t,rfl⟩:=n;cases y with
  |byt j=>obtain⟨g,rfl⟩:=f;exact PySem.W.ne_bytes (XB I q<|Qf not Mg)
  |_=>exact absurd l WK
 |_=>cases y<;>exact absurd (show false=true from l) WK
def PR:OpR X (compareOp .Lt) (rI0 λi j=>.bl (decide (i<j))):=Cv λ_ _ _ _ _ _ _ q=>lt_int q
def T6:OpR X (compareOp .Gt) (rI0 λi j=>.bl (decide (j<i))):=Cv λ_ _ _ _ _ _ _ q=>gt_int q
def Ss:OpR X (compareOp .GtE) (rI0 λi j=>.bl (decide (j<=i))):=Cv λ_ _ _ _ _ _ _ q=>ge_int q
def OpR.or (h:OpR X f r) (p:OpR X f o):OpR X f (λx y H Q=>r x y H Q\/o x y H Q):=by
 intro pins s g H x y v u Q I n l q;rcases q with q|q
 ·exact h pins s g H x y v u Q I n l q
 ·exact p pins s g H x y v u Q I n l q
def To(b:Expr){op}(h:autoParam (op≠.In) au_1)(l:autoParam (op≠.NotIn) au_1):behindInMarks op b=false:=by
 have g:(op==CmpOp.In)=false:=by grind
 have f:(op==CmpOp.NotIn)=false:=by grind
 cases b<;>simp[behindInMarks,g,f]
def SG(p:OpR X (compareOp f) r)(A:PE X a ta)(z:PE X b tb)(w:behindInMarks f b=false):PE X (.Compare a [f] [b] pos) (tOp r ta tb):=by
 intro pins s g H Q I h;exact wpAny_Compare1 (Dg A z I h λv u l x y C B o n q=>p pins l g C x y v u Q B o n q) w
noncomputable def S4(t:TE):TT:=λf H Q=>t f H λx g=>∃k,x=.bl k/\Q k g
def Nj(E:OpR X (compareOp g) r)(L:PE X a ta)(J:PE X b tb)(G:behindInMarks g b=false):PT X (.Compare a [g] [b] pos) (S4<|tOp r ta tb):=by
 intro pins s f H Q I h
 refine wpAny_isTrue_Compare1 (thn (L pins s f H _ I h) λv n ⟨x,H1,T,w,C⟩=>thn (J pins n f H1 _ T C) λu l ⟨y,Y,N,p,B⟩=>
  thn (E pins l f Y x y v u _ N w p B) λc s3 ⟨z,U,M,o,k,e,A⟩=>?_) G
 subst e;cases o
 exact QG ⟨U,M,A⟩
def Di(K:Yg)(x:V)(H:Hp)(k:Bool):Prop:=
 match x with
 | .non=>k=false
 | .bl b=>k=b
 | .int i=>k=(i != 0)
 | .str y=>y.length<=sizeLine/\k=((y.length:Int) != 0)
 | .byt y=>y.size<=sizeLine/\k=((y.size:Int) != 0)
 | .ref p=>(∃xs,SqL K H p xs/\k=!xs.isEmpty)\/(∃xs,SqT K H p xs/\k=!xs.isEmpty)\/∃f,H p=some (.dK f)/\k=!f.isEmpty
 |_=>False
def Ox(r:KV f vs):(!vs.isEmpty)=!f.isEmpty:=by
 cases r<;>rfl
def HQ(r:Vals xs f):(!f.toArray.isEmpty)=!xs.isEmpty:=by
 cases r<;>simp
def Fs:(sizeLine:Nat)<2 ^ 63:=by trivial
def Rf:Oo X (λx H Q=>∃k,Di X.K x H k/\Q k H):=by
 intro pins s B H x v Q I l h;obtain⟨k,e,q⟩:=h;have G:=Fs;have E:=Jp;cases x with
 |non=>
  cases l
  have f:=e;subst f;exact truthy_none ⟨H,I,q⟩
 |bl b=>
  cases l
  have f:=e;subst f;exact QG ⟨H,I,q⟩
 |int i=>
  obtain⟨t,rfl⟩:=l;have f:=e;subst f;exact PySem.P.truthy_int ⟨H,I,q⟩
 |str y=>
  obtain⟨t,rfl⟩:=l;obtain⟨z,f⟩:=e;subst f;exact PySem.P.truthy_str (by lia) ⟨H,I.tok _,q⟩
 |byt y=>
  obtain⟨t,rfl⟩:=l;obtain⟨z,f⟩:=e;subst f;exact PySem.W.truthy_bytes (by lia) ⟨H,I.tok _,q⟩
 |ref p=>
  cases l
  have f:=e;rcases f with⟨xs,hx,f⟩|⟨xs,hx,f⟩|⟨w,hx,f⟩
  ·subst f;obtain⟨o,r,n,u⟩:=I.list hx;have g:=r.length;exact wpAny_truthy_list n.isList (by simp only[WX];lia) ⟨H,I.tok _,by rw[HQ r];exact q⟩
  ·subst f;obtain⟨o,r,n,u⟩:=I.tuple hx;have g:=r.length;exact truthy_tuple n (by simp only[WX];lia) ⟨H,I.tok _,by rw[HQ r];exact q⟩
  ·subst f;obtain⟨u,A,C,r,m⟩:=I.hok p _ hx;have g:=Paired.length r;exact wpAny_truthy_dict A m (by lia) ⟨H,I.tok _,by rw[Ox r];exact q⟩
 |_=>exact e.elim
def Zg1(p:PE X a ta)(o:∀whole,isTrue a X.env whole=(do let v ←whole;standAt a.pos;holding [v] (truthy v))) :
  PT X a (λf H Q=>ta f H λx H'=>∃k,Di X.K x H' k/\Q k H'):=by
 intro pins s f H Q I h;exact isTrue_plain (thn (p pins s f H _ I h) λv g ⟨x,u,r,l,n⟩=>Rf pins g f u x v Q r l n) (o _)
def vals1(r:Vals [x] us):∃u,us=[u]/\RelV x u:=by
 cases r with
 |cons g f=>cases f;exact⟨_,rfl,g⟩
def Bt(K:Yg)(x:V)(H:Hp)(n:Nat):Prop:=
 match x with
 | .str y=>y.length<=sizeLine/\n=y.length
 | .byt y=>y.size<=sizeLine/\n=y.size
 | .ref p=>(∃xs,SqL K H p xs/\n=xs.length)\/∃xs,SqT K H p xs/\n=xs.length
 |_=>False
def Zbc:Kg X (.builtin "len") (λxs H Q=>∃x n,xs=[x]/\Bt X.K x H n/\Q (.int n) H):=by
 intro pins s B H xs C Q I r h;obtain⟨x,n,rfl,e,q⟩:=h;obtain⟨u,rfl,l⟩:=vals1 r;have E:=Jp;cases x with
 |str y=>
  obtain⟨t,rfl⟩:=l;obtain⟨A,g⟩:=e;subst g;exact len_str (by lia) ⟨.int _,H,I.tok _,⟨_,rfl⟩,q⟩
 |byt y=>
  obtain⟨t,rfl⟩:=l;obtain⟨A,g⟩:=e;subst g;exact PySem.W.len_bytes (by lia) ⟨.int _,H,I.tok _,⟨_,rfl⟩,q⟩
 |ref p=>
  cases l
  have g:=e;rcases g with⟨xs,hx,g⟩|⟨xs,hx,g⟩
  ·subst g;obtain⟨w,o,v,z⟩:=I.list hx;have f:=o.length;exact Calls.call_len_list v.isList (by simp only[WX];lia) ⟨.int xs.length,H,I.tok _,⟨_,by simp only[WX];rw[f]⟩,q⟩
  ·subst g;obtain⟨w,o,v,z⟩:=I.tuple hx;have f:=o.length;exact len_tuple v (by simp only[WX];lia) ⟨.int xs.length,H,I.tok _,⟨_,by simp only[WX];rw[f]⟩,q⟩
 |_=>exact e.elim
end
structure TL (h:Heap) (x dx C:Addr) (mA:Yk):Prop where
 obj:h.get? x=some (PySem.W.instObj C dx)
 ns:h.Ns1 dx mA
 ne:dx≠x
def Zgj{h:Heap}{dx}{mA}(n:h.Ns1 dx mA):∃f,h.get? dx=some f/\∀name,PySem.W.lookIn name f=some (mA name):=by
 obtain⟨o,u,v,l,s,r,_,p⟩:=n;refine⟨o,l,λname=>?_⟩;have e:=p name;unfold nsFind findBy at e;unfold PySem.W.lookIn;rw[s]
 dsimp only
 split
 ·grind
 ·rename_i q
  have a:u.toList.any (·.refKey)=false:=by
   rw[List.any_eq_false];intro y g;obtain⟨z,t,b⟩:=r y (Array.mem_toList_iff.mp g);simp[DictEntry.refKey,b]
  grind
def TL.look (I:TL h x n C f):∃b,PySem.W.InstAt h x (PySem.W.instObj C n) C (some b)/\∀name,PySem.W.lookIn name b=some (f name):=
 let ⟨b,g,l⟩:=Zgj I.ns
 ⟨b,⟨I.obj,rfl,rfl,g⟩,l⟩
section
variable {prog:Program}{w:World}{A:Around}{E:Yl}{s:Shared}{K:Yg}{x dx C f:Addr}{mA:Yk}{name:Str}{v:Value}
def Zcz{Q}(X:K.In s.heap)(I:TL s.heap x dx C mA)(l:PySem.W.plainGet K C name=true)(g:PySem.W.hasDictIn K C=true)(n:PySem.W.findIn K (.ref C) name=some none)(p:mA name=some v)(b:PySem.W.handedIn v=true)(h:Q v {s with toks:=s.toks+1}) :
  wpAny (model prog w) A (getAttr (.ref x) name expr) Q E s:=by
 obtain⟨o,J,r⟩:=I.look;exact PySem.W.get_value X J (Jj l).1 (PySem.W.findObj_own g n rfl<|by grind) b h
def Zkq{Q}(X:K.In s.heap)(I:TL s.heap x dx C mA)(b:PySem.W.plainGet K C name=true)(p:PySem.W.findIn K (.ref C) name=some (some<|.ref f))(n:PySem.W.isFn K (.ref f)=true)(l:mA name=none)(h:Q (.ref f,[.ref x]) s) :
  wpAny (model prog w) A (getMethod (.ref x) name r) Q E s:=by
 obtain⟨g,J,o⟩:=I.look;exact PySem.W.method_fn X J (Jj b).1 (Jj b).2 p (beq_iff_eq.mp n) (by show(PySem.W.lookIn name g).map (·.isSome)=some false;rw[o,l];rfl) h
def Zjl(X:K.In s.heap)(I:TL s.heap x dx C mA)(B:PySem.W.findIn K (.ref C) "__setattr__"=some (some<|.builtin "object.__setattr__"))(G:PySem.W.plainOver K C=true)(z:PySem.W.takerIn K C name=some none)(H:PySem.W.hasDictIn K C=true)(hw:PySem.Within mA ns)(hsz:ns.length<=sizeLine)(h:∀n,TL n x dx C (λy=>if y=name then some v else mA y)->Heap.SameBut dx s.heap n->Q () {s with heap:=n,toks:=s.toks+2}) :
  wpAny (model prog w) A (setAttr (.ref x) name v) Q E s:=by
 obtain⟨T,J,Y⟩:=I.look;refine PySem.W.set_plain X J B (PySem.W.osa_open X J G z λb=>?_);obtain⟨cd,L,r⟩:=PySem.W.any_some H;refine Ww (W1<|Ww<|Ww<|wpAny_loadPart I.obj<|Ww<|Js (Jk X L) ?_);rw[r];refine W1 (Ww<|W1<|Ww ?_);refine wpAny_nsSet1 I.ns λn l g=>?_;obtain⟨U,M,N,o,p,u⟩:=l.count (PySem.Within.cons name v hw);refine Ww (wpAny_lookBehind o (by rw[p];exact pastItsLine_dict (WC u<|by grind)) ?_);exact W1 (h _ ⟨(g.2 _<|Ne.symm I.ne).trans I.obj,l,I.ne⟩ g)
def Zix{vs b}(X:K.In s.heap)(g:PySem.W.makesIn K C=true)(l:PySem.W.findIn K (.ref C) "__init__"=some (some<|.ref f))(n:PySem.W.typeIn K (.ref f)=some (.type "function"))
  (h:codeAny (model prog w) (A.under<|.builtin "type.__call__" ⟨.ref C::vs,b⟩) (.call (.ref f) ⟨.ref (s.heap.objs.size+1)::vs,b⟩) (PySem.W.InitBack (s.heap.objs.size+1) R)
   {s with heap:=(s.heap.push PySem.W.emptyDict).push (PySem.W.instObj C s.heap.objs.size)}) :
  codeAny (model prog w) A (.call (.ref C) ⟨vs,b⟩) R s:=PySem.W.make_core (PySem.W.makes_of X g) (Va X l) (λself=>PySem.W.bind_fn X self n) (.inl rfl) h
end
noncomputable def Ku(f:Str)(v:V):List (Str×V)->List (Str×V)
 |[]=>[(f,v)]
 |(g,x)::r=>if g=f then(g,v)::r else(g,x)::Ku f v r
theorem Hi(f g:Str)(v:V):∀fs,(Ku f v fs).lookup g=if g=f then some v else fs.lookup g
 |[]=>by
  show List.lookup g [(f,v)]=_;by_cases h:g=f
  ·have b:=beq_iff_eq.mpr h;simp only[List.lookup,b,W6 h]
  ·have b:=Q8.mpr h;simp only[List.lookup,b,W3 h]
 |(k,x)::r=>by
  rw[show Ku f v ((k,x)::r)=(if k=f then(k,v)::r else(k,x)::Ku f v r)from rfl]
  by_cases l:k=f
  ·rw[W6 l];by_cases h:g=k
   ·simp_all
   ·have b:=Q8.mpr h;simp only[List.lookup,b,W3 (λe:g=f=>h (e.trans l.symm))]
  ·rw[W3 l];by_cases h:g=k
   ·simp_all
   ·have b:=Q8.mpr h;simp only[List.lookup,b];exact(Hi f g v r)
theorem Aj(f:Str)(v:V):∀fs,f∈(Ku f v fs).map (·.1)/\∀g,g∈fs.map (·.1)->g∈(Ku f v fs).map (·.1)
 |[]=>⟨by simp[Ku],λg h=>by simp at h⟩
 |(k,x)::r=>by
  obtain⟨l,b⟩:=Aj f v r;rw[show Ku f v ((k,x)::r)=(if k=f then(k,v)::r else(k,x)::Ku f v r)from rfl]
  by_cases n:k=f
  ·grind
  ·grind
theorem DP(f:Str)(v:V):∀fs,(Ku f v fs).length<=fs.length+1
 |[]=>by simp[Ku]
 |(k,x)::r=>by
  have b:=DP f v r;rw[show Ku f v ((k,x)::r)=(if k=f then(k,v)::r else(k,x)::Ku f v r)from rfl]
  by_cases g:k=f
  ·grind
  ·grind
def RelO.some_of (r:RelO (some v) o):∃u,o=some u/\RelV v u:=by
 cases o with
 |none=>trivial
 |some u=>exact⟨u,rfl,r⟩
def RelO.none_of (r:RelO none o):o=none:=by
 cases o with
 |none=>rfl
 |some u=>trivial
def Zed(r:RelV v u):PySem.W.handedIn u=true:=by
 cases v with
 |non|bl b|ref a|ty n=>cases r;rfl
 |_=>obtain⟨t,e⟩:=r;cases e;rfl
section
variable {P:Program}{w:World}{H H':Hp}{h h':Heap}{a C dx:Addr}{fs fs':List (Str×V)}
def BH(g:HOk P w H h)(e:H a=some (.ins C dx fs)):∃b,TL h a dx C b/\(∀f,RelO (fs.lookup f) (b f))/\PySem.Within b (fs.map (·.1))/\fs.length<=1000/\H dx=some (.own a):=by
 obtain⟨d,z,o,l,b,n,r,q⟩:=(g a _ e);exact⟨b,⟨l,n,o⟩,r,q,z,d⟩
end
structure Cls (K:Yg) (C:Addr):Prop where
 pg:PySem.W.plainGet K C Str.empty=true
 hd:PySem.W.hasDictIn K C=true
 po:PySem.W.plainOver K C=true
 sa:PySem.W.findIn K (.ref C) "__setattr__"=some (some<|.builtin "object.__setattr__")
def Cls.get {K C} (c:Cls K C) (f:Str):PySem.W.plainGet K C f=true:=c.pg
def NoAttr(K:Yg)(C:Addr)(f:Str):Prop:=PySem.W.findIn K (.ref C) f=some none
def NoAttr.taker {K C f} (n:NoAttr K C f):PySem.W.takerIn K C f=some none:=by
 unfold PySem.W.takerIn;rw[show PySem.W.findIn K (.ref C) f=some none from n]
 rfl
structure X4 (K:Yg) (C:Addr) (m:Str) (f:Addr):Prop where
 at_:PySem.W.findIn K (.ref C) m=some (some<|.ref f)
 fn:PySem.W.isFn K (.ref f)=true
 kp:PySem.W.keepIn K (.ref f)=true
section
variable {X:Cx}{pins:Yj}{σ:St}{H:Hp}{s:Shared}{a C dx:Addr}{fs:List (Str×V)}{f:Str}{v:V}{A:Around}{E:Yl}
def Zgb{Q}(I:Inv X pins σ H s)(e:H a=some (.ins C dx fs))(c:Cls X.K C)(n:NoAttr X.K C f)(l:fs.lookup f=some v)(h:∀u g,Inv X pins σ H g->RelV v u->Q u g):wpAny (model X.prog X.w) A (getAttr (.ref a) f b) Q E s:=by
 obtain⟨x,O,r,_,_,_⟩:=BH I.hok e;obtain⟨u,p,o⟩:=RelO.some_of (by rw[←l];exact r f);exact Zcz I.kIn O (c.get f) c.hd n p (Zed o) (h u _ (I.tok _) o)
def CQ{Q}(I:Inv X pins σ H s)(e:H a=some (.ins C dx fs))(c:Cls X.K C)(k:X4 X.K C m g)(l:fs.lookup m=none)(h:Q (.ref g,[.ref a]) s):wpAny (model X.prog X.w) A (getMethod (.ref a) m b) Q E s:=by
 obtain⟨n,O,r,_,_,_⟩:=BH I.hok e;exact Zkq I.kIn O (c.get m) k.at_ k.fn (RelO.none_of<|by rw[←l];exact r m) h
def On(I:Inv X pins σ H s)(e:H a=some (.ins C dx fs))(c:Cls X.K C)(n:NoAttr X.K C f)(hl:fs.length<1000)(J:RelV y u)(h:∀x,Inv X pins σ (upd H a<|.ins C dx<|Ku f y fs) x->Q () x):wpAny (model X.prog X.w) A (setAttr (.ref a) f u) Q E s:=by
 obtain⟨L,O,r,p,_,B⟩:=BH I.hok e;have M:(fs.map (·.1)).length<=sizeLine:=by rw[Wx,Jp];lia
 refine Zjl I.kIn O c.sa c.po n.taker c.hd p M λY l G=>h _ ?_;have T:∃o,Y.get? dx=some o:=let ⟨o,_,_,e',_⟩:=l.ns;⟨o,e'⟩;refine I.write (by rw[e];exact True.intro) (.inr B) (λb q U z=>(G.2 b U).trans z) T ?_;refine⟨by rw[Xl O.ne];exact B,?_,O.ne,l.obj,_,l.ns,λg=>?_,λg N=>?_⟩
 ·have:=DP f y fs;lia
 ·show RelO ((Ku f y fs).lookup g) (if g=f then some u else L g);rw[Hi];by_cases q:g=f
  ·rw[W6 q,W6 q];exact J
  ·grind
 ·by_cases q:g=f
  ·rw[q];exact(Aj f y fs).1
  ·refine(Aj f y fs).2 g (p g λz=>N ?_)
   grind
def Inv.made (I:Inv X pins σ H s):Inv X pins σ (upd (upd H s.heap.objs.size<|.own (s.heap.objs.size+1)) (s.heap.objs.size+1)<|.ins C s.heap.objs.size [])
  {s with heap:=(s.heap.push PySem.W.emptyDict).push (PySem.W.instObj C s.heap.objs.size)}:=by
 have h:(s.heap.push PySem.W.emptyDict).get? s.heap.objs.size=some PySem.W.emptyDict:=W9 s.heap rfl
 have r:((s.heap.push PySem.W.emptyDict).push (PySem.W.instObj C s.heap.objs.size)).get? (s.heap.objs.size+1)=some (PySem.W.instObj C s.heap.objs.size):=by
  have:=W9 (s.heap.push PySem.W.emptyDict) (o:=PySem.W.instObj C s.heap.objs.size) rfl
  rwa[Vi]at this
 have p:(s.heap.push PySem.W.emptyDict).Ns s.heap.objs.size (λ_=>none):=⟨PySem.W.emptyDict,#[],_,h,rfl,(λe n=>absurd n (by simp)),λ_=>rfl⟩;refine(I.laid (o:=.own (s.heap.objs.size+1)) (t':=s.toks) (λb u q=>W2 _ q) (W5 _) ⟨_,h⟩).laid (λb u q=>W2 _ q) (QO<|Vi _ _) ?_;have g:s.heap.objs.size≠s.heap.objs.size+1:=WM (VQ _);refine⟨by rw[Xl g,Xw],Q6 _,g,r,λ_=>none,(Heap.Ns1.of_empty p).at λo q=>W2 _ q,λ_=>True.intro,λy l=>absurd rfl l⟩
def Rx{env e f pos s Q}(g:attributeBase e f env (eval e env)=eval e env)(h:wpAny (model prog w) A (eval e env) (λo b=>wpAny (model prog w) A (getAttr o f true) Q E b) E s):wpAny (model prog w) A (eval (.Attribute e f pos) env) Q E s:=
 Attribute_any_ h (by rw[arm_eval_Attribute,g])
end
noncomputable def Bk(K:Yg)(h:TE)(f:Str):TE:=λg H Q=>h g H λx b=>∃a C l fs v,x=.ref a/\b a=some (.ins C l fs)/\Cls K C/\NoAttr K C f/\fs.lookup f=some v/\Q v b
noncomputable def HZ(K:Yg)(n l:TE)(f:Str):TS:=λD b H=>l b H λy o=>n b o λx h=>∃a C g fs,x=.ref a/\h a=some (.ins C g fs)/\Cls K C/\NoAttr K C f/\fs.length<1000/\
 D.nx b (upd h a<|.ins C g<|Ku f y fs)
section
variable {X:Cx}{o e value:Expr}{f:Str}{pos pos' tpos:Pos}{ta tv:TE}
def KC(r:PE X e ta)(w:attributeBase e f X.env (eval e X.env)=eval e X.env):PE X (.Attribute e f pos) (Bk X.K ta f):=by
 intro pins s b H Q I h;refine Rx w (thn (r pins s b H _ I h) ?_);rintro u L ⟨x,E,B,g,a,C,M,fs,v,y,z,c,n,l,q⟩;subst y;obtain rfl:=g;exact Zgb B z c n l λG J A p=>⟨v,E,A,p,q⟩
def Cf(A:PE X o ta)(w:PE X value tv)(z:swapsWith value (some<|.Attribute o f pos') pos.line X.env=pure false):PS X (.Assign [.Attribute o f pos'] value pos) (HZ X.K ta tv f):=by
 intro pins s b H D I h;refine plainObj_wpAny_Assign_Attribute (thn (w pins s b H _ I h) ?_) z;rintro u g ⟨y,M,L,p,q⟩;refine thn (A pins g b M _ L q) ?_;rintro T Q ⟨x,Y,J,r,a,C,U,fs,B,E,c,n,l,v⟩;subst B;obtain rfl:=r;exact On J E c n l p λN G=>⟨b,_,G,v⟩
def Zlv{m}{apos}{args}{pins}{s}{b:St}{H}{Q}{te}(E:PE X e te)(I:Inv X pins b H s)
  (h:te b H λx p=>∃a C v fs g,x=.ref a/\p a=some (.ins C v fs)/\Cls X.K C/\X4 X.K C m g/\fs.lookup m=none/\
   ∀n,Inv X pins b p n->wpAny (model X.prog X.w) X.A (callWith pos (.ref g) [.ref a] (backTo pos<|starEach args X.env)<|backToKw pos<|keywordEach [] X.env) Q X.xe n)
  (B:eval (.Call (.Attribute e m apos) args [] pos) X.env=(do
   let r ←eval e X.env
   standAt apos.atName
   let (f,first) ←holding [r] (getMethod r m L)
   callWith pos f first (backTo pos<|starEach args X.env) (backToKw pos<|keywordEach [] X.env))) :
  wpAny (model X.prog X.w) X.A (eval (.Call (.Attribute e m apos) args [] pos) X.env) Q X.xe s:=by
 refine VU (thn (E pins s b H _ I h) ?_) B;rintro u n ⟨x,p,y,z,a,C,v,fs,g,G,J,c,k,l,q⟩;subst G;obtain rfl:=z;exact CQ y J c k l (q n y)
end
section
variable {X:Cx}{pins:Yj}{σ:St}{H:Hp}{s:Shared}{A:Around}{E:Yl}{Q:Yl}{c:Value}{b:Bool}
inductive K7 (K:Yg) (H:Hp):V->Value->Prop where
 |non:K7 K H .non (.type "NoneType")
 |bl (x:Bool):K7 K H (.bl x) (.type "bool")
 |int (i:Int):K7 K H (.int i) (.type "int")
 |str (x:Str):K7 K H (.str x) (.type "str")
 |flt (x:UInt64):K7 K H (.flt x) (.type "float")
 |lst {a:Addr} {xs:List V} (e:H a=some (.lst xs)):K7 K H (.ref a) (.type "list")
 |frz {a:Addr} {o:Obj} {xs:List V} (e:H a=some (.frz o<|.lst xs)):K7 K H (.ref a) (.type "list")
 |tup {a:Addr} {xs:List V} (e:H a=some (.tup xs)):K7 K H (.ref a) (.type "tuple")
 |dK {a:Addr} {kvs:List (Key×V)} (e:H a=some (.dK kvs)):K7 K H (.ref a) (.type "dict")
 |dT {a:Addr} {kvs:List (List Key×V)} (e:H a=some (.dT kvs)):K7 K H (.ref a) (.type "dict")
 |ins {a C dx:Addr} {fs:List (Str×V)} (e:H a=some (.ins C dx fs)) (cl:Cls K C) (ha:PySem.W.findIn K (.ref C) "__class__"=some (some<|.builtin "object.__class__"))
   (hn:PySem.W.specialIn K (.builtin "object.__class__") "__get__"=some (some<|.builtin "getset_descriptor.__get__")) (htk:PySem.W.takesIn K (.builtin "object.__class__")=some true)
   (hm:PySem.W.mroIn K C (.type "object")=some true):K7 K H (.ref a) (.ref C)
def Zdi(I:Inv X pins σ H s)(f:RelV x u)(L:K7 X.K H x t)(e:PySem.W.kitOne X.K t c=some b)(h:∀M,Q (.bool b) {s with toks:=M}) :
  wpAny (model X.prog X.w) A (call (.builtin "isinstance") [u,c]) Q E s:=by
 cases L with
 |non=>cases f;exact Qr PySem.W.kitx_none I.kIn True.intro e (λz=>nomatch z) h
 |bl y=>cases f;exact Qr PySem.W.kitx_bool I.kIn True.intro e (λz=>nomatch z) h
 |int i=>obtain⟨t,q⟩:=f;cases q;exact Qr PySem.W.kitx_int I.kIn True.intro e (λz=>nomatch z) h
 |str y=>obtain⟨t,q⟩:=f;cases q;exact Qr PySem.W.kitx_str I.kIn True.intro e (λz=>nomatch z) h
 |flt y=>obtain⟨t,q⟩:=f;cases q;exact Qr PySem.W.kitx_float I.kIn True.intro e (λz=>nomatch z) h
 | @lst a xs g=>
  cases f
  obtain⟨_,_,n,_,l⟩:=(I.hok a _ g);exact Qr PySem.W.kitx_list I.kIn ⟨_,l,rfl⟩ e (λz=>nomatch z) h
 | @frz a ob xs g=>
  cases f
  obtain⟨_,_,_,n,_,l⟩:=(I.hok a _ g);exact Qr PySem.W.kitx_list I.kIn ⟨_,l,rfl⟩ e (λz=>nomatch z) h
 | @tup a xs g=>
  cases f
  obtain⟨_,_,_,p⟩:=(I.hok a _ g);obtain⟨o,l,r,_⟩:=p;exact Qr PySem.W.kitx_tuple I.kIn ⟨o,l,r⟩ e (λz=>nomatch z) h
 | @dK a v g=>
  cases f
  obtain⟨_,_,vs,_,p⟩:=(I.hok a _ g);obtain⟨o,Y,ep,l,r,_⟩:=p;exact Qr PySem.W.kitx_dict I.kIn ⟨o,l,r.1⟩ e (λz=>nomatch z) h
 | @dT a v g=>
  cases f
  obtain⟨_,_,xs,_,o,Y,ep,l,r,_⟩:=(I.hok a _ g);exact Qr PySem.W.kitx_dict I.kIn ⟨o,l,r.1⟩ e (λz=>nomatch z) h
 | @ins a C dx fs g G U N B T=>
  cases f
  obtain⟨mA,O,_⟩:=BH I.hok g;obtain⟨od,J,_⟩:=O.look;exact Qr (PySem.W.kitx_own (G.get _) G.hd U N B T) I.kIn J e (λz=>nomatch z) h
end
structure Xo (k:Nat) (A:Around):Prop where
 hd:A.handled=none
 dp:A.depth+3*k+5<recursionLimit
 un:A.units+16*k+200<cLine
 gd:A.guards=some []
def Xo.mono {j k A} (r:Xo k A) (h:j<=k):Xo j A:=⟨r.hd,by have:=r.dp;lia,by have:=r.un;lia,r.gd⟩
def Xo.deeper (r:Xo (k+1) A) (env:Env):Xo k (A.deeper env):=
 ⟨r.hd,by have:=r.dp;show A.depth+1+3*k+5<_;lia,by have:=r.un;show A.units+3+16*k+200<_;lia,r.gd⟩
def Zi2{A:Around}{C}{us}{kw}:(A.under<|.builtin "type.__call__" ⟨.ref C::us,kw⟩).depth=A.depth+1:=by
 rfl
def Zh0{A:Around}{C}{us}{kw}:(A.under<|.builtin "type.__call__" ⟨.ref C::us,kw⟩).units=A.units+1:=rfl
def Zbe{A:Around}{C:Addr}{us:Yo}{b:List (Str×Value)}(h:A.guards=some []):(A.under<|.builtin "type.__call__" ⟨.ref C::us,b⟩).guards=some []:=by
 simpa [Around.under,Code.guards,Code.isGuard,guardIds,pushGuards]using h
def Xo.make (r:Xo (k+1) A) (C:Addr) (us:Yo) (b:List (Str×Value)):Xo k (A.under<|.builtin "type.__call__" ⟨.ref C::us,b⟩):=
 ⟨r.hd,by have:=r.dp;rw[Zi2];lia,by have:=r.un;rw[Zh0];lia,Zbe r.gd⟩
def Xo.depth (r:Xo k A):A.depth<recursionLimit:=by have:=r.dp;lia
def Xo.units (r:Xo k A):A.units+64<cLine:=by have:=r.un;lia
def Xo.units0 (r:Xo k A):A.units<cLine:=by have:=r.un;lia
noncomputable def Kt:TA:=λ_ H Q=>Q [] H
noncomputable def XH(g:TE)(f:TA):TA:=λb H Q=>g b H λx l=>f b l λxs h=>Q (x::xs) h
section
variable {X:Cx}{e:Expr}{es:Yq}{te:TE}{t:TA}{pos:Pos}
def KF:PA X [] Kt:=λ_ _ _ _ H Q I h=>Calls.spliced_nil ⟨[],H,I,.nil,h⟩
def XF(v:PE X e te)(r:PA X es t)(p:autoParam (starEach (e::es) X.env=(false,eval e X.env)::starEach es X.env) au_0):PA X (e::es) (XH te t):=by
 intro pos pins s b H Q I h;rw[p];refine Calls.spliced_cons (thn (v pins s b H _ I h) ?_);rintro u f ⟨x,A,y,l,o⟩;exact thn (r pos pins f b A _ y o) λB C ⟨xs,z,w,g,n⟩=>⟨x::xs,z,w,.cons l g,n⟩
noncomputable def Cg(t:TA):TE:=λf H Q=>t f H λxs b=>xs.length<=sizeLine/\∀p,b p=none->Q (.ref p) (upd b p<|.tup xs)
noncomputable def G5(t:TA):TE:=λf H Q=>t f H λxs b=>xs.length<=sizeLine/\∀p,b p=none->Q (.ref p) (upd b p<|.lst xs)
def XZ(h:PA X es t):PE X (.Tuple es p pos) (Cg t):=by
 intro pins s l H Q I hq;refine wpAny_Tuple_spliced (thn (h pos pins s l H _ I hq) ?_);rintro n f ⟨xs,o,g,r,z,q⟩;refine⟨by rw[←r.length];exact z,?_⟩;refine⟨.ref f.heap.objs.size,upd o f.heap.objs.size (.tup xs),g.laid (λb u e=>W2 _ e) (W5 _) ?_,rfl,q _ (g.hok.fresh<|W5 _)⟩;exact⟨z,n,r,⟨_,W9 _ rfl,rfl,_,rfl⟩⟩
def Ta(h:PA X es t):PE X (.List es pos) (G5 t):=by
 intro pins s l H Q I hq;refine wpAny_List_spliced (thn (h pos pins s l H _ I hq) ?_);rintro n f ⟨xs,o,g,r,z,q⟩;refine⟨by rw[←r.length];exact z,?_⟩;refine⟨.ref f.heap.objs.size,upd o f.heap.objs.size (.lst xs),g.laid (λb u e=>W2 _ e) (W5 _) ?_,rfl,q _ (g.hok.fresh<|W5 _)⟩;exact⟨z,n,0,r,W9 _ rfl⟩
end
abbrev Sp:=List V->Hp->VK->XK->Prop
abbrev CXT:=List Env->Hp->Shared->XK->Yl
structure TX (P:Program) (w:World) (K:Yg) (mg:Yk) (base:Heap) (A:Around) (outer:List Env) (s:Shared) (H:Hp):Prop where
 frames:A.frames=some outer
 mod:Mod K mg base
 bs:∀b o,base.get? b=some o->s.heap.get? b=some o/\H b=none
 bsz:base.objs.size<=s.heap.objs.size
 funs:s.heap.FunFrames base outer
 frf:∀b∈frs outer,H b=none
 hok:HOk P w H s.heap
 bare:AllBare s.gens
def CE(outer:List Env)(P:Program)(w:World)(H:Hp)(s:Shared)(Q:VK)(u:Value)(b:Shared):Prop:=
 ∃v f,b.os=s.os/\AllBare b.gens/\Un (frs outer) [] H f s.heap b.heap/\HOk P w f b.heap/\RelV v u/\Q v f
def CR(CX:CXT)(outer:List Env)(P:Program)(w:World)(H:Hp)(s:Shared)(Q:VK)(E:XK)(r:Result)(b:Shared):Prop:=
 match r with
 | .ok (.ret u)=>CE outer P w H s Q u b
 | .ok _=>False
 | .error e=>CX outer H s E e b
structure Kv (P:Program) (w:World) (K:Yg) (mg:Yk) (base:Heap) (CX:CXT) (k:Nat) (f:Addr) (fd:FuncData) (ps:Yp) (sp:Sp):Prop where
 len:∀vs H Q E,sp vs H Q E->vs.length=ps.length
 run:∀(A:Around) (outer:List Env) (s:Shared) (H:Hp) (args:Args) (us:Yo) (vs:List V) (Q:VK) (E:XK),Xo k A->TX P w K mg base A outer s H->BindsTo s fd args (ps.zip us)->Vals vs us->sp vs H Q E->
  codeAny (model P w) A (.call (.ref f) args) (CR CX outer P w H s Q E) s
def Kv.imp {K g base CX k f l ps sp b} (F:Kv P w K g base CX k f l ps sp)
  (h:∀vs H Q E,b vs H Q E->sp vs H Q E):Kv P w K g base CX k f l ps b:=
 ⟨λvs H Q E q=>F.len vs H Q E (h _ _ _ _ q),λA outer s H args n vs Q E r u v o p=>F.run A outer s H args n vs Q E r u v o (h _ _ _ _ p)⟩
def TX.make {K b base A outer s H} (e:TX P w K b base A outer s H) (C:Addr) (us:Yo) (f:List (Str×Value)) :
  TX P w K b base (A.under<|.builtin "type.__call__" ⟨.ref C::us,f⟩) outer s H:=⟨by first|exact e.frames|(simpa [Around.under,Code.envs,Code.isFrame,pushEnvs]using e.frames),e.mod,e.bs,e.bsz,e.funs,e.frf,e.hok,e.bare⟩
section
variable {X:Cx}{pins:Yj}{σ:St}{H:Hp}{s s':Shared}
def Inv.env0 (I:Inv X pins σ H s):TX X.prog X.w X.K X.mg X.base X.A X.stack s H:=
 ⟨I.ok.frames,I.ok.mod,I.bs,WC I.ok.bsz I.sz,I.stack,I.stkFree,I.hok,I.bare⟩
def Inv.after (I:Inv X pins σ H s) (h:CE X.stack X.prog X.w H s Q u s'):EP X pins σ Q u s':=by
 obtain⟨v,n,os,bare,un,f,r,q⟩:=h;obtain⟨o,g,d,t,l⟩:=s';obtain rfl:=os;exact⟨v,n,I.call un f bare (λb z=>absurd z (by simp)),r,q⟩
end
noncomputable def Tz(sp:Sp)(b:List V)(E:XK)(t:TA):TE:=λf H Q=>t f H λg h=>sp (g++b) h Q E
noncomputable def Tv(C:Addr)(m:Str)(sp:Sp)(b:List V)(E:XK)(l:TE)(t:TA):TE:=λf H Q=>l f H λx g=>∃a n fs,x=.ref a/\g a=some (.ins C n fs)/\fs.lookup m=none/\
 t f g λh o=>sp (x::(h++b)) o Q E
noncomputable def AR(C:Addr)(sp:Sp)(f:List V)(E:XK)(t:TA):TE:=λh H Q=>t h H λl g=>∀x b,g x=none->g b=none->b≠x->
 sp (.ref x::(l++f)) (upd (upd g b<|.own x) x<|.ins C b []) (λv n=>v=.non/\Q (.ref x) n) E
def Binds(K:Yg)(f:FuncData)(ps:Yp)(ds:Yo):Prop:=
 ∀(s:Shared) (b:Yo),K.In s.heap->(b++ds).length=ps.length->BindsTo s f ⟨b,[]⟩ (ps.zip (b++ds))
def Binds.all {K f ps} (h:∀us,us.length=ps.length->bindArgs f ⟨us,[]⟩=pure (ps.zip us)):Binds K f ps []:=λs us _ b=>by
 rw[Qg]at b ⊢;exact .of_eq (h us b)
def KO(CX:CXT)(X:Cx)(E:XK):Prop:=∀(pins:Yj) (f:St) (H:Hp) (s:Shared) (e:Value) (b:Shared),Inv X pins f H s->CX X.stack H s E e b->X.xe e b
section
variable {X:Cx}{CX:CXT}{k:Nat}{f C:Addr}{fd:FuncData}{ps:Yp}{sp:Sp}{dvs:List V}{ds:Yo}{E:XK}{x m:Str}{p pos apos:Pos}{e o:Expr}{es:Yq}{ta:TE}{t:TA}
def Da{b:St}{H}{s}{Q}{us}{vs}(F:Kv X.prog X.w X.K X.mg X.base CX k f fd ps sp)(n:Xo k X.A)(z:Binds X.K fd ps ds)(y:Vals dvs ds)(hx:KO CX X E)(I:Inv X pins b H s)(r:Vals vs us)(h:sp (vs++dvs) H Q E):wpAny (model X.prog X.w) X.A (call (.ref f) us) (EP X pins b Q) X.xe s:=by
 have g:=r.append y;have v:(us++ds).length=ps.length:=by rw[←g.length];exact F.len _ _ _ _ h
 refine Je (QP (F.run X.A X.stack s H ⟨us,[]⟩ (us++ds) (vs++dvs) Q E n I.env0 (z s us I.kIn v) g h) λr l hq=>?_);cases r with
 |error e=>exact hx pins b H s e l I hq
 |ok B=>
  cases B with
  |ret u=>exact I.after hq
  |cont=>exact False.elim hq
  |_=>trivial
def Za0(F:Kv X.prog X.w X.K X.mg X.base CX k f fd ps sp)(u:Xo k X.A)(z:Gl X x)(v:X.mg x=some (.ref f))(y:PySem.W.keepIn X.K (.ref f)=true)(J:Binds X.K fd ps ds)(G:Vals dvs ds)(hx:KO CX X E)(L:PA X (e::es) t)(g:autoParam ((x==("__debug__" : Str))=false) au_1)(B:autoParam (starEach (e::es) X.env=(false,eval e X.env)::starEach es X.env) au_0)(b:autoParam ((backTo pos<|starEach es X.env).any (·.1)=false) au_0) :
  PE X (.Call (.Name x p) (e::es) [] pos) (Tz sp dvs E t):=by
 intro pins s n H Q I h;refine Ve (PN I z v ?_ g);refine V0 I.ok.mod.kin y (thn (L pos pins s n H _ I h) ?_) B b;rintro N T ⟨M,U,l,r,q⟩;refine⟨l.kIn,?_⟩;exact Da F u J G hx l r q
def Ra{pl}(T:PE X o ta)(c:Cls X.K C)(y:X4 X.K C m f)(F:Kv X.prog X.w X.K X.mg X.base CX k f fd ps sp)(N:Xo k X.A)(Y:Binds X.K fd ps ds)(U:Vals dvs ds)(hx:KO CX X E)(ha:PA X (e::es) t)(b:autoParam (starEach (e::es) X.env=(false,eval e X.env)::starEach es X.env) au_0)(g:autoParam ((backTo pos<|starEach es X.env).any (·.1)=false) au_0)
  (M:autoParam (eval (.Call (.Attribute o m apos) (e::es) [] pos) X.env=(do
   let v ←eval o X.env
   standAt apos.atName
   let (f,first) ←holding [v] (getMethod v m pl)
   callWith pos f first (backTo pos<|starEach (e::es) X.env) (backToKw pos<|keywordEach [] X.env))) au_0) :
  PE X (.Call (.Attribute o m apos) (e::es) [] pos) (Tv C m sp dvs E ta t):=by
 intro pins s n H Q I h;refine VU (thn (T pins s n H _ I h) ?_) M;rintro u G ⟨x,H1,B,J,a,dx,fs,ex,ea,l,q⟩;subst ex;obtain rfl:=J;refine CQ B ea c y l ?_;refine V0 I.ok.mod.kin y.kp (thn (ha pos pins G n H1 _ B q) ?_) b g;rintro us s2 ⟨vs,H2,z,r,L⟩;refine⟨z.kIn,?_⟩;exact Da (vs:=.ref a::vs) F N Y U hx z (.cons rfl r) L
def Ol(B:PE X o ta)(c:Cls X.K C)(n:X4 X.K C m f)(F:Kv X.prog X.w X.K X.mg X.base CX k f fd ps sp)(z:Xo k X.A)(J:Binds X.K fd ps ds)(G:Vals dvs ds)(hx:KO CX X E)
  (y:autoParam (eval (.Call (.Attribute o m apos) [] [] pos) X.env=(do
   let g ←eval o X.env
   standAt apos.atName
   let (f,first) ←holding [g] (getMethod g m T)
   callWith pos f first (backTo pos<|starEach [] X.env) (backToKw pos<|keywordEach [] X.env))) au_0) :
  PE X (.Call (.Attribute o m apos) [] [] pos) (Tv C m sp dvs E ta Kt):=by
 intro pins s r H Q I h;refine VU (thn (B pins s r H _ I h) ?_) y;rintro u N ⟨x,Y,b,v,a,U,fs,L,M,l,q⟩;subst L;obtain rfl:=v;refine CQ b M c n l ?_;exact PySem.W.callWith_K0 b.kIn n.kp (Da (vs:=[.ref a]) F z J G hx b (.cons rfl .nil) q)
structure Mk (K:Yg) (C f:Addr):Prop where
 makes:PySem.W.makesIn K C=true
 init:PySem.W.findIn K (.ref C) "__init__"=some (some<|.ref f)
 fn:PySem.W.isFn K (.ref f)=true
 kp:PySem.W.keepIn K (.ref C)=true
def Zdv{n:St}{H}{s}{Q}{us}{vs}(M:Mk X.K C f)(F:Kv X.prog X.w X.K X.mg X.base CX k f fd ps sp)(J:Xo (k+1) X.A)(T:Binds X.K fd ps ds)(N:Vals dvs ds)(hx:KO CX X E)(I:Inv X pins n H s)(r:Vals vs us)(h:∀x g,H x=none->H g=none->g≠x->sp (.ref x::(vs++dvs)) (upd (upd H g<|.own x) x<|.ins C g []) (λv H2=>v=.non/\Q (.ref x) H2) E) :
  wpAny (model X.prog X.w) X.A (call (.ref C) us) (EP X pins n Q) X.xe s:=by
 have hq:=h (s.heap.objs.size+1) s.heap.objs.size (I.hok.fresh<|Vf _) (I.hok.fresh<|W5 _) (WM<|VQ _);have l:=Inv.made (C:=C) I;have y:Vals (V.ref (s.heap.objs.size+1)::(vs++dvs)) (Value.ref (s.heap.objs.size+1)::(us++ds)):=.cons rfl (r.append N)
 have L:(Value.ref (s.heap.objs.size+1)::us++ds).length=ps.length:=by
  have e:=y.length;rw[F.len _ _ _ _ hq]at e
  grind
 refine Je (Zix I.kIn M.makes M.init (beq_iff_eq.mp M.fn) (QP (F.run _ X.stack _ _ ⟨Value.ref (s.heap.objs.size+1)::us,[]⟩ (Value.ref (s.heap.objs.size+1)::(us++ds)) _ _ E (J.make C us [])
  (l.env0.make C us []) (T _ (Value.ref (s.heap.objs.size+1)::us) l.kIn L) y hq) λr z b=>?_))
 cases r with
 |error e=>exact hx pins n _ _ e z l b
 |ok U=>
  cases U with
  |ret u=>
   obtain⟨v,H',I3,B,Y,G⟩:=l.after b;subst Y;exact⟨B,⟨V.ref (s.heap.objs.size+1),H',I3,rfl,G⟩⟩
  |_=>exact False.elim b
def Zcb(M:Mk X.K C f)(F:Kv X.prog X.w X.K X.mg X.base CX k f fd ps sp)(u:Xo (k+1) X.A)(y:Gl X x)(v:X.mg x=some (.ref C))(G:Binds X.K fd ps ds)(B:Vals dvs ds)(hx:KO CX X E)(J:PA X (e::es) t)(g:autoParam ((x==("__debug__" : Str))=false) au_1)(z:autoParam (starEach (e::es) X.env=(false,eval e X.env)::starEach es X.env) au_0)(b:autoParam ((backTo pos<|starEach es X.env).any (·.1)=false) au_0) :
  PE X (.Call (.Name x p) (e::es) [] pos) (AR C sp dvs E t):=by
 intro pins s n H Q I h;refine Ve (PN I y v ?_ g);refine V0 I.ok.mod.kin M.kp (thn (J pos pins s n H _ I h) ?_) z b;rintro N T ⟨L,U,l,r,q⟩;refine⟨l.kIn,?_⟩;exact Zdv M F u G B hx l r q
end
structure Xk (N P:Yp) (sc:Scope):Prop where
 kind:sc.kind=.function
 co:sc.isCoroutine=false
 gen:sc.isGenerator=false
 nd:N.Nodup
 pre:N.take P.length=P
 par:∀x∈P,sc.names.lookup x=some .local\/sc.names.lookup x=some .cell
 nofree:∀y∈sc.names,y.2≠.free
theorem Gm{kindOf x}:∀{binds}{m:Yk},(∀v,(x,v)∉binds)->bindL kindOf binds m x=m x
 |[],_,_=>rfl
 |(n,v)::r,m,h=>by
  unfold bindL;rw[Gm λw hw=>h w (WG _ hw)];split
  ·grind
  ·rfl
theorem Gf{kindOf x}:∀{binds}{m:Yk},(∀v,(x,v)∉binds)->bindC kindOf binds m x=m x
 |[],_,_=>rfl
 |(n,v)::r,m,h=>by
  unfold bindC;rw[Gf λw hw=>h w (WG _ hw)];split
  ·rfl
  ·grind
theorem DJ{kindOf}{x}{v}:∀{P:Yp}{vs}{i:Nat}{m:Yk},P.Nodup->P[i]?=some x->vs[i]?=some v->kindOf x=some .local->
  bindL kindOf (P.zip vs) m x=some v
 |[],_,_,_,_,h,_,_|_::_,[],_,_,_,_,h,_=>by simp at h
 |p::P,w::vs,0,m,b,l,g,f=>by
  simp at l g;subst l;subst g;show bindL kindOf ((p,w)::P.zip vs) m p=_;unfold bindL;rw[Gm λv n=>(Qo.mp b).1 (List.of_mem_zip n).1,W6 f];simp
 |p::P,w::vs,i+1,m,b,l,g,f=>by
  unfold bindL;exact DJ (Qo.mp b).2 (by trivial) (by grind) f
theorem Eb{kindOf}{x}{v}:∀{P:Yp}{vs}{i:Nat}{m:Yk},P.Nodup->P[i]?=some x->vs[i]?=some v->kindOf x≠some .local->
  bindC kindOf (P.zip vs) m x=some v
 |[],_,_,_,_,h,_,_|_::_,[],_,_,_,_,h,_=>by simp at h
 |p::P,w::vs,0,m,b,l,g,f=>by
  simp at l g;subst l;subst g;show bindC kindOf ((p,w)::P.zip vs) m p=_;unfold bindC;rw[Gf λv n=>(Qo.mp b).1 (List.of_mem_zip n).1,W3 f];simp
 |p::P,w::vs,i+1,m,b,l,g,f=>by
  unfold bindC;exact Eb (Qo.mp b).2 (by trivial) (by grind) f
noncomputable def start(N:Yp)(vs:List V):St:=vs.map some++List.replicate (N.length-vs.length) none
noncomputable def XI(CX:CXT)(P:Program)(w:World)(K:Yg)(mg:Yk)(base:Heap)(N:Yp)(qual:Str)(scope:Scope)(f:Addr)(cd:Value)(A:Around)(outer:List Env)(s:Shared)(H:Hp)(E:XK):Cx where
 prog:=P
 w:=w
 K:=K
 mg:=mg
 base:=base
 A:=A.deeper (envOfC qual scope s.heap.objs.size f cd)
 N:=N
 s₀:=s
 H₀:=H
 env:=envOfC qual scope s.heap.objs.size f cd
 outer:=outer
 stack:=envOfC qual scope s.heap.objs.size f cd::outer
 ex:=[]
 calm:=true
 fn:=λ_=>true
 pn:=[]
 xe:=λe s'=>wpAny (model P w) (A.deeper<|envOfC qual scope s.heap.objs.size f cd) (leaving (envOfC qual scope s.heap.objs.size f cd) e) (λ_ s''=>CX outer H s E e s'') (λe' s''=>CX outer H s E e' s'') s'
def DO{b:Scope}{n}{x}(h:b.names.lookup x=some .cell):∃c,(cellsFrom n b.names []).lookup x=some c:=by
 exact Option.isSome_iff_exists.mp (PySem.W.cellsFrom_some b.names n []<|.inl h)
def MT{P}{w}{K}{mg}{base}{N ps}{qual}{scope}{f}{cd}{A}{outer}{s L}{H}{E}{us}{vs}(S:Xk N ps scope)(Y:A.handled=none)(l:TX P w K mg base A outer s H)(hl:vs.length=ps.length)(r:Vals vs us)(x:InCallC s s.heap.objs.size (bindL (envOfC qual scope s.heap.objs.size f cd).kindOf (ps.zip us) λ_=>none) (cellsFrom (s.heap.objs.size+1) scope.names []) (bindC (envOfC qual scope s.heap.objs.size f cd).kindOf (ps.zip us) λ_=>none) L) :
  Inv (XI CX P w K mg base N qual scope f cd A outer s H E) [] (start N vs) H L:=by
 have U:ps.length<=N.length:=by have:=Qf List.length S.pre;rw[Qp]at this;lia
 obtain⟨J,tk,rfl,Q⟩:=x.done;have n:∀b,b∉(XI CX P w K mg base N qual scope f cd A outer s H E).ex:=λb z=>absurd (show b∈([]:List Addr)from z) (by simp)
 refine⟨⟨l.mod,S.kind,rfl,rfl,W5 _,λy z c J g=>?_,λy o=>?_,λy c _ h=>?_,λ_=>Y,Around.frames_deeper l.frames,.inr ⟨rfl,rfl⟩,λb z=>absurd z (n b),l.bs,l.bsz,λb _ _=>n b,λb z=>absurd z (n b),l.funs,l.frf⟩,
  rfl,l.bare,Un.kept Q,⟨_,x.toInCall.ns,λi y v J g h3=>?_⟩,λy c h=>⟨_,x.cell y c h⟩,l.hok.fresh (W5 _),λy c h=>?_,λp C=>absurd (show p∈([]:Yj)from C) (by simp),l.hok.kept Q,?_⟩
 ·exact name_of_addr x.apart (QK J) (QK g)
 ·have o:=o;rcases o with o|o
  ·exact DO o
  ·exact absurd rfl (S.nofree _<|QK o)
 ·exact Vz (x.above y c<|QK h)
 ·have G:i<vs.length:=by
   unfold start at g;by_cases G:i<vs.length
   ·exact G
   ·rw[Qd (by simpa using G)]at g;rw[VB]at g;split at g<;>cases g
  have ha:vs[i]?=some v:=by
   unfold start at g;rw[Qh (by simpa using G),WB]at g;cases e:vs[i]? with
   |none=>rw[e]at g;cases g
   |some a=>rw[e]at g;cases g;rfl
  obtain⟨u,M,T⟩:=r.get ha
  have C:ps[i]?=some y:=by
   rw[←S.pre,QE (by lia)];exact J
  have B:ps.Nodup:=by rw[←S.pre];exact S.nd.sublist (VH _ _)
  refine⟨u,T,?_⟩;rcases S.par y (WT C)with k|k
  ·exact .inl ⟨k,DJ B C M k⟩
  ·obtain⟨c,e⟩:=DO k;refine .inr ⟨.inl k,c,e,?_⟩;have q:=x.cell y c e;rw[Eb B C M (by show scope.names.lookup y≠_;rw[k];decide)]at q;exact q
 ·exact l.hok.fresh (Vz<|x.above y c<|QK h)
 ·unfold start;show _=N.length;rw[WE,Wx,List.length_replicate];lia
def AG{K M base k f name qual params body scope dV kV L pm g ct oc an od Y N ps sp}(lk:K.lookup f=some ⟨oc,od,.func (PySem.W.fnOf name qual params body scope dV kV L pm an g ct),Y⟩)(hcd:PySem.W.codeIn K g qual=true)(S:Xk N ps scope)(len:∀vs H Q E,sp vs H Q E->vs.length=ps.length)
  (p:∀A outer s H vs Q E,Xo k (A.deeper<|envOfC qual scope s.heap.objs.size f g)->sp vs H Q E->
   ∃t,PSs (XI CX P w K M base N qual scope f g A outer s H E) body t/\t {nx:=λ_ H'=>Q .non H',rt:=Q} (start N vs) H) :
  Kv P w K M base CX (k+1) f (PySem.W.fnOf name qual params body scope dV kV L pm an g ct) ps sp:=by
 refine⟨len,λA outer s H args us vs Q E hr G hb r z=>?_⟩;have KX:=G.mod.kin.keeps λb o e=>(G.bs b o e).1
 have l:∀y∈ps.zip us,scope.names.lookup y.1=some .local\/(scope.names.lookup y.1=some .cell/\((cellsFrom (s.heap.objs.size+1) scope.names []).lookup y.1).isSome=true):=λ⟨n,v⟩ hy=>by
  rcases S.par n (List.of_mem_zip hy).1 with q|q
  ·exact .inl q
  ·exact .inr ⟨q,PySem.W.cellsFrom_some _ _ _ (.inl q)⟩
 refine codeAny_call_function hr.depth (KX _ _ lk) rfl S.co S.gen rfl (PySem.W.codeRec_of KX hcd) (hb _ _ _ _ ?_);refine wpAny_newFunctionEnv_cells S.kind l λenv he s1 x=>?_;subst he;refine⟨(G.mod.nolimit.keeps λb o e=>(G.bs b o e).1).keeps x.toInCall.keep,codeAny_func ?_⟩;obtain⟨t,ht,hq⟩:=p A outer s H vs Q E (hr.deeper _) z;have I:Inv (XI CX P w K M base N qual scope f g A outer s H E) [] (start N vs) H s1:=MT S hr.hd G (len _ _ _ _ z) r x;refine WV (ht [] s1 (start N vs) H _ I hq) (λfl T B=>?_) λe T B=>B
 have C:∀{h:St} {H':Hp} {v:V} {u:Value},Inv (XI CX P w K M base N qual scope f g A outer s H E) [] h H' T->RelV v u->Q v H'->CE outer P w H s Q u T:=
  λ{h H' v u} J U q=>⟨v,H',J.os,J.bare,J.base,J.hok,U,q⟩
 cases fl with
 |ret u=>
  obtain⟨v,h,H',J,U,q⟩:=B;exact C J U q
 |next=>
  obtain⟨h,H',J,q⟩:=B;exact C (v:=V.non) J rfl q
 |_=>
  obtain⟨_,_,_,q⟩:=B;exact False.elim q
section
variable {X:Cx}{x:Str}{p pos:Pos}{e:Expr}{es:Yq}{t:TA}{id T:String}{r:List V->Hp->VK->Prop}
noncomputable def tCB(r:List V->Hp->VK->Prop)(t:TA):TE:=λb H Q=>t b H λf g=>r f g Q
def Kp(C:Kg X (.builtin id) r)(A:Gl X x)(z:X.mg x=none)(w:bootBuiltins x=some (.builtin id))(E:PA X (e::es) t)(y:autoParam (x≠"__name__") au_1)(f:autoParam ((x==("__debug__" : Str))=false) au_1)(B:autoParam (starEach (e::es) X.env=(false,eval e X.env)::starEach es X.env) au_0)(b:autoParam ((backTo pos<|starEach es X.env).any (·.1)=false) au_0):PE X (.Call (.Name x p) (e::es) [] pos) (tCB r t):=by
 intro pins s g H Q I h;refine Ve (SJ I A z w ?_ y f);exact PyProof.Rows.callWith_builtin1 (thn (E pos pins s g H _ I h) λn o ⟨l,J,G,u,v⟩=>C pins o g J l n Q G u v) B b
def Pj(C:Kg X (.type T) r)(A:Gl X x)(z:X.mg x=none)(w:bootBuiltins x=some (.type T))(E:PA X (e::es) t)(y:autoParam (x≠"__name__") au_1)(f:autoParam ((x==("__debug__" : Str))=false) au_1)(B:autoParam (starEach (e::es) X.env=(false,eval e X.env)::starEach es X.env) au_0)(b:autoParam ((backTo pos<|starEach es X.env).any (·.1)=false) au_0):PE X (.Call (.Name x p) (e::es) [] pos) (tCB r t):=by
 intro pins s g H Q I h;refine Ve (SJ I A z w ?_ y f);exact Vn (thn (E pos pins s g H _ I h) λn o ⟨l,J,G,u,v⟩=>C pins o g J l n Q G u v) B b
end
end L2
namespace HT
open PySem PyProof.Rows
section
variable {prog:Program}{w:World}{A:Around}{E:Yl}{s:Shared}
def Oe(C:IsTup s.heap t vs.toArray)(G:IsTup s.heap b g.toArray)(v:vs≠[])(H:g=[]->Q (.ref t) s)(J:g≠[]->Q (.ref s.heap.objs.size) {s with heap:=s.heap.push {cls:=.type "tuple",data:=.seq (vs++g).toArray}})(hsz:vs.length+g.length<=sizeLine):wpAny (model prog w) A (binaryOp .Add (.ref t)<|.ref b) Q E s:=by
 obtain⟨⟨cls,z,data,sl⟩,r,y,n,x⟩:=id C;obtain⟨⟨B,p,data2,h⟩,f,o,u,l⟩:=id G;simp only at y x o l;subst y x o l;by_cases hw:g=[]
 ·exact concat_meets ⟨_,r,rfl⟩ ⟨_,f,rfl⟩ noFill_tuple_add seq_tuple_add VO VC (V1 _ _)
   (tuple_addW1 t b vs.toArray g.toArray n u z p sl h (by simpa using v)<|by simp[hw]) ⟨r,f,H hw⟩
 ·refine concat_meets ⟨_,r,rfl⟩ ⟨_,f,rfl⟩ noFill_tuple_add seq_tuple_add VO VC (V1 _ _)
   (tuple_addW2 t b vs.toArray g.toArray n u z p sl h (by simpa using v) (by simpa using hw)<|by omega) ⟨r,f,?_⟩
  grind
noncomputable def sIx(n d:Nat):Option Int->Nat
 |none=>d
 |some v=>if v<0 then(v+(n:Int)).toNat else min v.toNat n
def G3(n d:Nat):sIx n d none=d:=rfl
def DK(n d k:Nat):sIx n d (some (k:Int))=min k n:=rfl
end
end HT
namespace L2
open PySem PySem.Spec PyProof.Rows
abbrev TO:=St->Hp->(Option Int->Hp->Prop)->Prop
def PO(X:Cx)(e:Option Expr)(t:TO):Prop:=
 ∀(pins:Yj) (s:Shared) (b:St) (H:Hp) (Q:Option Int->Hp->Prop),Inv X pins b H s->t b H Q->
  wpAny (model X.prog X.w) X.A (evalPart e X.env) (λu g=>∃o f,Inv X pins b f g/\IsPart u o/\Q o f) X.xe s
noncomputable def Iv:TO:=λ_ H Q=>Q none H
noncomputable def M5(t:TE):TO:=λb H Q=>t b H λx f=>∃i,x=.int i/\Q (some i) f
def BQ:∀{us:Yo},Vals (ns.map V.int) us->IntsAre us ns:=by
 induction ns with
 |nil=>intro us r;rw[List.map_nil]at r;cases r;exact .nil
 |cons n ns g=>
  intro us r;cases r with
  |cons f b=>
   obtain⟨t,e⟩:=f;subst e;exact .cons n t (g b)
section
variable {X:Cx}{e:Expr}{te:TE}{lo hi:Option Expr}{tl th:TO}{pos p2:Pos}
def L8:PO X none Iv:=by
 intro pins s b H Q I h;exact W1 ⟨none,H,I,.none,h⟩
def GW(h:PE X e te):PO X (some e) (M5 te):=by
 intro pins s b H Q I hw;refine thn (h pins s b H _ I hw) ?_;rintro u o ⟨x,n,l,f,g⟩;obtain⟨i,rfl,q⟩:=g;obtain⟨t,rfl⟩:=f;exact⟨some i,n,l,.int i t,q⟩
def SlR(X:Cx)(r:V->Option Int->Option Int->Hp->VK->Prop):Prop:=
 ∀(pins:Yj) (s:Shared) (b:St) (H:Hp) (x:V) (v g f:Value) (lo hi:Option Int) (sl:Addr) (Q:VK),Inv X pins b H s->RelV x v->s.heap.IsSliceOf sl g f .none->IsPart g lo->IsPart f hi->r x lo hi H Q->
  ∃T id,typeLookup (.type T) "__getitem__"=pure (some<|.builtin id)/\s.TypeIs v T/\wpAny (model X.prog X.w) X.A (getItem v<|.ref sl) (EP X pins b Q) X.xe s
noncomputable def tSl(r:V->Option Int->Option Int->Hp->VK->Prop)(te:TE)(tl th:TO):TE:=λb H Q=>te b H λx h=>tl b h λl g=>th b g λu f=>r x l u f Q
def Gq(M:SlR X r)(Y:PE X e te)(N:PO X lo tl)(J:PO X hi th):PE X (.Subscript e (.Slice lo hi none p2) pos) (tSl r te tl th):=by
 intro pins s f H Q I h;refine Subscript_ (thn (Y pins s f H _ I h) ?_);rintro v y ⟨x,H1,I1,z,C⟩;refine wpAny_Slice (thn (N pins y f H1 _ I1 C) ?_);rintro o w ⟨l,H2,I2,G,B⟩;refine thn (J pins w f H2 _ I2 B) ?_;rintro n g ⟨u,p,I3,E,A⟩;refine W1 ?_;have I4:Inv X pins f p {g with heap:=g.heap.push {cls:=.type "slice",data:=.fields #[o,n,.none]}}:=I3.kept λb ob q=>W2 _ q
 obtain⟨T,id,hT,L,U⟩:=M pins {g with heap:=g.heap.push {cls:=.type "slice",data:=.fields #[o,n,.none]}} f p x v o n l u g.heap.objs.size Q I4 z (Heap.IsSliceOf.new ..) G E A
 exact tail_any L hT U rfl
noncomputable def SZ(xs:List V)(lo hi:Option Int):List V:=(xs.drop<|HT.sIx xs.length 0 lo).take (HT.sIx xs.length xs.length hi-HT.sIx xs.length 0 lo)
def Zar(xs:List V)(lo hi:Option Int):(SZ xs lo hi).length<=xs.length:=by
 unfold SZ
 grind
noncomputable def Zf3(K:Yg):R2:=λx y H Q=>∃a b xs f,x=.ref a/\y=.ref b/\SqT K H a xs/\SqT K H b f/\xs≠[]/\xs.length+f.length<=sizeLine/\
 (f=[]->Q (.ref a) H)/\(f≠[]->∀p,H p=none->Q (.ref p) (upd H p<|.tup (xs++f)))
def Vals.nil_iff (r:Vals xs us):us=[]↔xs=[]:=by
 cases r with
 |_=>simp
def Zjw:OpR X (binaryOp .Add) (Zf3 X.K):=by
 intro pins s J H x y v u Q I p o h;obtain⟨a,b,xs,L,rfl,rfl,G,E,hx,n,A,r⟩:=h;cases p
 cases o
 obtain⟨C,g,B,_⟩:=I.tuple G;obtain⟨l,f,p2,_⟩:=I.tuple E;refine HT.Oe B p2 (λz=>hx (g.nil_iff.mp z)) (λz=>⟨.ref a,H,I,rfl,A (f.nil_iff.mp z)⟩) (λz=>?_) (by rw[←g.length,←f.length];exact n);refine⟨.ref s.heap.objs.size,_,I.laid (λb M q=>W2 _ q) (W5 _) ?_,rfl,r (λw=>z (f.nil_iff.mpr w)) _ (I.hok.fresh<|W5 _)⟩;exact⟨by rw[WE];exact n,_,g.append f,IsTup.new _ _⟩
end
noncomputable def ixN(n:Nat)(i:Int):Option Nat:=if 0<=i then(if i<n then some i.toNat else none)else if -(n:Int)<=i then some (i+n).toNat else none
noncomputable def atI{b:Type}(xs:List b)(i:Int):Option b:=(ixN xs.length i).bind λj=>xs[j]?
def OH(h:ixN n i=some j):seqIndex? i n=some j/\j<n/\-(n:Int)<=i/\i<n:=by
 unfold ixN at h;by_cases f:0<=i
 ·rw[W6 f]at h;by_cases b:i<n
  ·rw[W6 b]at h;have e:=WD h;exact⟨by rw[seqIndex_of f b,e],by lia,by lia,b⟩
  ·grind
 ·rw[W3 f]at h;by_cases b:-(n:Int)<=i
  ·rw[W6 b]at h;have e:=WD h;exact⟨by rw[seqIndex_neg (by lia) b,e],by lia,b,by lia⟩
  ·grind
def Al(h:atI xs i=some v):∃j,seqIndex? i xs.length=some j/\xs[j]?=some v/\j<xs.length/\-(xs.length:Int)<=i/\i<xs.length:=by
 unfold atI at h;cases e:ixN xs.length i with
 |none=>grind
 |some j=>
  obtain⟨l,g,f,b⟩:=OH e
  grind
def CC{j:Nat}{v}(h:xs[j]?=some v):atI xs (j:Int)=some v:=by
 have e:ixN xs.length (j:Int)=some j:=by
  unfold ixN
  grind
 unfold atI;rw[e];exact h
def FI(b:Expr):Prop:=∀o i,subscripted b false o i=operate [o,i] (getItem o i)
def IxR(X:Cx)(r:R2):Prop:=
 ∀(value slice:Expr) (pins:Yj) (s:Shared) (b:St) (H:Hp) (x y:V) (v u:Value) (Q:VK),Inv X pins b H s->RelV x v->RelV y u->r x y H Q->
  subscripted slice false v u=operate [v,u] (getItem v u)->wpAny (model X.prog X.w) X.A (subscriptTail value slice v u) (EP X pins b Q) X.xe s
def MtR(X:Cx)(id:String)(r:V->List V->Hp->VK->Prop):Prop:=
 ∀(pins:Yj) (s:Shared) (b:St) (H:Hp) (x:V) (xs:List V) (v:Value) (f:Yo) (Q:VK),Inv X pins b H s->RelV x v->Vals xs f->r x xs H Q->
  wpAny (model X.prog X.w) X.A (call (.builtin id) (v::f)) (EP X pins b Q) X.xe s
section
variable {X:Cx}{a b:Expr}{ta tb:TE}{pos:Pos}
def IxR.or (h:IxR X r) (p:IxR X o):IxR X (λx y H Q=>r x y H Q\/o x y H Q):=by
 intro value slice pins s f H x y v u Q I l g q n;rcases q with q|q
 ·exact h value slice pins s f H x y v u Q I l g q n
 ·exact p value slice pins s f H x y v u Q I l g q n
def G1(p:IxR X r)(z:PE X a ta)(w:PE X b tb)(o:FI b):PE X (.Subscript a b pos) (tOp r ta tb):=by
 intro pins s f H Q I h;exact Subscript_ (Dg z w I h λv u g x y B A n l q=>p a b pins g f B x y v u Q A n l q (o _ _))
noncomputable def S8(K:Yg):R2:=λx y H Q=>∃p xs i v,x=.ref p/\y=.int i/\SqL K H p xs/\atI xs i=some v/\Q v H
noncomputable def Bj(K:Yg):R2:=λx y H Q=>∃p xs i v,x=.ref p/\y=.int i/\SqT K H p xs/\atI xs i=some v/\Q v H
noncomputable def Hg:R2:=λx y H Q=>∃z i c,x=.str z/\y=.int i/\z.length<=sizeLine/\atI z.cps.toList i=some c/\Q (.str ⟨#[c]⟩) H
def ix_list:IxR X (S8 X.K):=by
 intro value slice pins s G H x y v u Q I L J h B;obtain⟨p,xs,i,z,rfl,rfl,hq,N,q⟩:=h;cases L
 obtain⟨t,rfl⟩:=J;obtain⟨o,r,n,hz⟩:=I.list hq;obtain⟨j,g,Y,h3,U,T⟩:=Al N;obtain⟨w,E,l⟩:=r.get Y;have M:=r.length;have hn:=Fs;have f:EP X pins G Q w s:=⟨z,H,I,l,q⟩;by_cases C:0<=i
 ·have A:i.toNat=j:=by
   rw[seqIndex_of C T]at g;exact WD g
  exact item_listR n.isList C (by lia) (by rw[A];simpa using E) f B
 ·have A:(i+(o.toArray.size:Int)).toNat=j:=by
   rw[seqIndex_neg (by lia) U]at g;rw[WX,←M];exact WD g
  exact subscriptTail_builtinR n.isList.typeIs slot_list_getitem.lookup
   (wpAny_getItem_list_neg n.isList (by lia) (by rw[WX]<;>lia) (by lia) (by rw[A];simpa using E) ⟨rfl,f⟩) B
def Zdl:IxR X (Bj X.K):=by
 intro value slice pins s n H x y v u Q I A o h C;obtain⟨p,xs,i,z,rfl,rfl,hq,E,q⟩:=h;cases A
 obtain⟨t,rfl⟩:=o;obtain⟨B,r,l,L⟩:=I.tuple hq;obtain⟨j,J,G,U,T,N⟩:=Al E;obtain⟨w,Y,f⟩:=r.get G;have M:=Fs;have g:EP X pins n Q w s:=⟨z,H,I,f,q⟩
 exact subscriptTail_builtinR l.typeIs slot_tuple_getitem.lookup
  (getItem_tuple l (by lia) (by lia) (by rw[WX,←r.length];exact J) (by grind) ⟨rfl,g⟩) C
def Zhm:IxR X Hg:=by
 intro value slice pins s E H x y v u Q I l g h n;obtain⟨z,i,c,rfl,rfl,J,p,q⟩:=h;obtain⟨t,rfl⟩:=l;obtain⟨G,rfl⟩:=g;obtain⟨j,f,A,M,w,r⟩:=Al p;have o:z.cps.toList.length=z.length:=by simp[Str.length]
 rw[o]at f w r;have L:=Fs
 exact tail_any (typeIs_str s z t) slot_str_getitem.lookup (getItem_str (by
  have C:decide (i < -(2 ^ 63:Int))=false:=WH (by lia);have B:decide (i>=2 ^ 63)=false:=WH (by lia);rw[C,B,Bool.or_false]) (by rw[f];simpa using A) ⟨.str ⟨#[c]⟩,H,I.tok _,⟨_,rfl⟩,q⟩) n
def MG(lo f:Option Int)(n:Nat):(sliceBounds lo f none n).1=((HT.sIx n 0 lo:Nat):Int)/\(sliceBounds lo f none n).2.1=((HT.sIx n n f:Nat):Int)/\(sliceBounds lo f none n).2.2=1:=by
 refine⟨?_,?_,rfl⟩
 ·cases lo with
  |none=>simp[sliceBounds,HT.sIx]
  |some i=>
   simp only[sliceBounds,HT.sIx,Option.getD_none,show(1:Int)>0 by decide,if_true];by_cases h:i<0
   ·grind
   ·simp only[h,VR]<;>lia
 ·cases f with
  |none=>simp[sliceBounds,HT.sIx]
  |some i=>
   simp only[sliceBounds,HT.sIx,Option.getD_none,show(1:Int)>0 by decide,if_true];by_cases h:i<0
   ·simp only[h,if_true]<;>lia
   ·simp only[h,VR]<;>lia
def Zb4(f:Yo)(lo g:Option Int):slicePick f.toArray lo g none=((f.drop<|HT.sIx f.length 0 lo).take (HT.sIx f.length f.length g-HT.sIx f.length 0 lo)).toArray:=by
 obtain⟨n,l,h⟩:=MG lo g f.toArray.size;unfold slicePick;rw[n,l,h];simp only[sliceRange_one,pick_run,WX]<;>rfl
def F1(K:Yg):V->Option Int->Option Int->Hp->VK->Prop:=λx lo f H Q=>∃a xs,x=.ref a/\SqL K H a xs/\∀p,H p=none->Q (.ref p) (upd H p<|.lst<|SZ xs lo f)
def Zi0:SlR X (F1 X.K):=by
 intro pins s z H x v B A lo l sl Q I n y p o h;obtain⟨a,xs,rfl,hx,q⟩:=h;cases n
 obtain⟨u,r,g,w⟩:=I.list hx;have f:=r.length;refine⟨"list",_,slot_list_getitem.lookup,g.isList.typeIs,?_⟩;refine wpAny_getItem_list_slice g.isList y p o .none (by simp) ?_ (by grind);rw[Zb4,←f];refine⟨.ref s.heap.objs.size,_,I.laid (λb C q=>W2 _ q) (W5 _) ?_,rfl,q _ (I.hok.fresh<|W5 _)⟩;exact⟨WC (Zar xs lo l) w,_,0,(r.drop<|HT.sIx xs.length 0 lo).take (HT.sIx xs.length xs.length l-HT.sIx xs.length 0 lo),W9 _ rfl⟩
noncomputable def K5:V->Bool
 | .non=>true
 | .bl _=>true
 | .int _=>true
 | .str _=>true
 |_=>false
noncomputable def eqV:V->V->Bool
 | .non,.non=>true
 | .bl a,.bl b=>a==b
 | .bl a,.int b=>(if a then 1 else 0)==b
 | .int a,.bl b=>a==(if b then 1 else 0)
 | .int a,.int b=>a==b
 | .str a,.str b=>a==b
 |_,_=>false
def HA{y x u v}(h:RelV y u)(f:RelV x v)(fy:K5 y=true)(l:K5 x=true):SeqAt.EqAt A s u v (eqV y x):=by
 cases y with
 |non=>
  cases h
  cases x with
  |non=>cases f;exact SeqAt.EqAt.same _
  |bl b=>cases f;exact SeqAt.EqAt.none_bool b
  |int b=>obtain⟨t,rfl⟩:=f;exact SeqAt.EqAt.none_int b t
  |str b=>obtain⟨t,rfl⟩:=f;exact SeqAt.EqAt.none_str b t
  |_=>exact absurd l WK
 |bl a=>
  cases h
  cases x with
  |non=>cases f;exact SeqAt.EqAt.bool_none a
  |bl b=>cases f;exact SeqAt.EqAt.bool_bool a b
  |int b=>obtain⟨t,rfl⟩:=f;exact SeqAt.EqAt.bool_int a b t
  |str b=>obtain⟨t,rfl⟩:=f;exact SeqAt.EqAt.bool_str a b t
  |_=>exact absurd l WK
 |int a=>
  obtain⟨g,rfl⟩:=h;cases x with
  |non=>cases f;exact SeqAt.EqAt.int_none a g
  |bl b=>cases f;exact SeqAt.EqAt.int_bool a g b
  |int b=>obtain⟨t,rfl⟩:=f;exact SeqAt.EqAt.int_int a g b t
  |str b=>obtain⟨t,rfl⟩:=f;exact SeqAt.EqAt.int_str a g b t
  |_=>exact absurd l WK
 |str a=>
  obtain⟨g,rfl⟩:=h;cases x with
  |non=>cases f;exact SeqAt.EqAt.str_none a g
  |bl b=>cases f;exact SeqAt.EqAt.str_bool a g b
  |int b=>obtain⟨t,rfl⟩:=f;exact SeqAt.EqAt.str_int a g b t
  |str b=>obtain⟨t,rfl⟩:=f;exact SeqAt.EqAt.str_str a g b t
  |_=>exact absurd l WK
 |_=>exact absurd fy WK
noncomputable def eqU(x:V)(u:Value):Bool:=match u with
 | .none=>eqV .non x
 | .bool b=>eqV (.bl b) x
 | .int i _=>eqV (.int i) x
 | .str z _=>eqV (.str z) x
 |_=>false
def E2{x y u}(r:RelV y u)(f:K5 y=true):eqU x u=eqV y x:=by
 cases y with
 |non|bl b=>cases r;rfl
 |int i|str z=>obtain⟨t,rfl⟩:=r;rfl
 |_=>trivial
theorem Sz:∀{xs}{us:Yo},Vals xs us->xs.all K5=true->us.any (eqU x)=xs.any λy=>eqV y x
 |_,_,.nil,_=>rfl
 |y::xs,u::us,.cons r t,f=>by
  rw[Vs,Qa]at f;rw[Vt,Vt,E2 r f.1,Sz t f.2]
theorem SM{x v}(h:RelV x v)(l:K5 x=true):∀{xs}{us:Yo},Vals xs us->xs.all K5=true->∀u∈us,SeqAt.EqAt A s u v (eqU x u)
 |_,_,.nil,_=>λu g=>by cases g
 |y::xs,u::us,.cons r t,f=>λn g=>by
  rw[Vs,Qa]at f;rcases WA.mp g with rfl|g
  ·rw[E2 r f.1];exact HA r h f.1 l
  ·exact SM h l t f.2 n g
noncomputable def inV(x:V)(xs:List V):Bool:=xs.any λy=>eqV y x
noncomputable def rIn(K:Yg)(neg:Bool):R2:=λx y H Q=>∃p xs,y=.ref p/\(SqL K H p xs\/SqT K H p xs)/\K5 x=true/\xs.all K5=true/\Q (.bl (if neg then !inV x xs else inV x xs)) H
def Zba:OpR X (compareOp .In) (rIn X.K false):=by
 intro pins s A H x y v u Q I l o h;obtain⟨p,xs,rfl,hq,n,fs,q⟩:=h;cases o
 rcases hq with hq|hq
 ·obtain⟨f,r,g,z⟩:=I.list hq;refine SeqAt.in_listAt (eqU x) g.isList (λw hw=>SM l n r fs w (by grind)) ⟨.bl _,H,I,rfl,?_⟩;rwa[show f.toArray.any (eqU x)=f.any (eqU x) by simp,Sz r fs]
 ·obtain⟨f,r,g,z⟩:=I.tuple hq;refine SeqAt.in_tupleAt (eqU x) g (λw hw=>SM l n r fs w (by simpa using hw)) ⟨.bl _,H,I,rfl,?_⟩;rwa[show f.toArray.any (eqU x)=f.any (eqU x) by simp,Sz r fs]
def Rk:OpR X (compareOp .NotIn) (rIn X.K true):=by
 intro pins s A H x y v u Q I l o h;obtain⟨p,xs,rfl,hq,n,fs,q⟩:=h;cases o
 rcases hq with hq|hq
 ·obtain⟨f,r,g,z⟩:=I.list hq;refine SeqAt.notIn_listAt (eqU x) g.isList (λw hw=>SM l n r fs w (by grind)) ⟨.bl _,H,I,rfl,?_⟩;rwa[show f.toArray.any (eqU x)=f.any (eqU x) by simp,Sz r fs]
 ·obtain⟨f,r,g,z⟩:=I.tuple hq;refine SeqAt.notIn_tupleAt (eqU x) g (λw hw=>SM l n r fs w (by grind)) ⟨.bl _,H,I,rfl,?_⟩;rwa[show f.toArray.any (eqU x)=f.any (eqU x) by simp,Sz r fs]
def G6:Kg X (.type "list") (λxs H Q=>∃p v,xs=[.ref p]/\(SqL X.K H p v\/SqT X.K H p v)/\∀l,H l=none->Q (.ref l) (upd H l<|.lst v)):=by
 intro pins s N H xs U Q I r h;obtain⟨p,v,rfl,hq,q⟩:=h;obtain⟨u,rfl,T⟩:=vals1 r;cases T
 have C:∀f,Vals v f->v.length<=sizeLine->∀g y,(∀b M,s.heap.get? b=some M->g.get? b=some M)->
   g.get? s.heap.objs.size=some {cls:=.type "list",dict:=none,data:=.seq f.toArray y,slots:=#[]}->EP X pins N Q (.ref s.heap.objs.size) {s with heap:=g}:=λf x A g y z e=>
  ⟨.ref s.heap.objs.size,_,I.laid z (W5 _) (show ObjOk X.prog X.w _ g _ (.lst v)from⟨A,f,y,x,e⟩),rfl,q _ (I.hok.fresh<|W5 _)⟩
 rcases hq with hq|hq
 ·obtain⟨f,x,E,A⟩:=I.list hq;have B:=x.length;obtain⟨o,G,L,n,J⟩:=E.isList;exact call_list_seq p (.inl rfl) G L J (λg y z e=>C f x A g y z e) (by grind)
 ·obtain⟨f,x,E,A⟩:=I.tuple hq;have B:=x.length;obtain⟨o,G,L,n,J⟩:=E;exact call_list_seq p (.inr rfl) G L J (λg y z e=>C f x A g y z e) (by simp only[WX]<;>lia)
def Zk5:Kg X (.type "tuple") (λxs H Q=>∃p g,xs=[.ref p]/\((SqL X.K H p g/\∀l,H l=none->Q (.ref l) (upd H l<|.tup g))\/(SqT X.K H p g/\Q (.ref p) H))):=by
 intro pins s x H xs G Q I r h;obtain⟨p,g,rfl,h⟩:=h;obtain⟨u,rfl,B⟩:=vals1 r;cases B
 rcases h with⟨hq,q⟩|⟨hq,q⟩
 ·obtain⟨f,v,w,y⟩:=I.list hq;have z:=v.length;refine call_tuple_list w.isList (λn C=>?_) (by grind);have A:Inv X pins x H {s with heap:=n}:=I.kept C
  have E:Inv X pins x (upd H n.objs.size<|.tup g) {s with heap:=n.push {cls:=.type "tuple",data:=.seq f.toArray}}:=
   A.laid (λb o e=>W2 _ e) (W5 _) (⟨y,f,v,IsTup.new _ _⟩)
  exact⟨.ref n.objs.size,_,E,rfl,q _ (A.hok.fresh<|W5 _)⟩
 ·obtain⟨f,v,w,y⟩:=I.tuple hq;exact call_tuple_same w ⟨.ref p,H,I,rfl,q⟩
def tyV(K:Yg)(T:String)(x:V)(H:Hp):Prop:=match x with
 | .str _=>T = "str"
 | .int _=>T = "int"
 | .ref p=>(T = "list"/\∃xs,SqL K H p xs)\/(T = "tuple"/\∃o,K.lookup p=some o/\o.cls=.type "tuple"/\o.dict=none)\/
   (T = "dict"/\((∃f,H p=some (.dK f))\/∃f,H p=some (.dT f)))\/(T = "set"/\∃S n,H p=some (.set S n))
 |_=>False
def HD{A:St}{H}{s}{T}{x}{v}(I:Inv X pins A H s)(r:RelV x v)(h:tyV X.K T x H) :
  s.TypeIs v T/\∀a,v=.ref a->∃ob,s.heap.get? a=some ob/\ob.dict=none:=by
 cases x with
 |str z=>
  obtain⟨t,rfl⟩:=r;cases h
  exact⟨typeIs_str s z t,λ_ e=>nomatch e⟩
 |int i=>
  obtain⟨t,rfl⟩:=r;cases h
  exact⟨typeIs_int s i t,λ_ e=>nomatch e⟩
 |ref p=>
  cases r
  rcases h with⟨rfl,xs,hq⟩|⟨rfl,o,f,C,u⟩|⟨rfl,f⟩|⟨rfl,S,n,f⟩
  ·obtain⟨B,_,y,_⟩:=I.list hq;refine⟨y.isList.typeIs,λa e=>?_⟩;cases e
   obtain⟨o,n,e,c,u,_⟩:=y;exact⟨o,e,u⟩
  ·refine⟨⟨o,I.kIn p o f,C⟩,λa e=>?_⟩;cases e
   exact⟨o,I.kIn _ o f,u⟩
  ·have z:∃o,s.heap.get? p=some o/\o.ExactDict:=by
    rcases f with⟨l,f⟩|⟨l,f⟩
    ·obtain⟨_,_,_,_,o,_,_,e,g,_⟩:=I.hok p _ f;exact⟨o,e,g⟩
    ·obtain⟨_,_,_,_,o,_,_,e,g,_⟩:=I.hok p _ f;exact⟨o,e,g⟩
   obtain⟨o,e,g⟩:=z;refine⟨⟨o,e,g.1⟩,λa w=>?_⟩;cases w
   exact⟨o,e,g.2.1⟩
  ·obtain⟨o,_,_,_,e,g,_⟩:=I.hok p _ f;refine⟨⟨o,e,g.1⟩,λa w=>?_⟩;cases w
   exact⟨o,e,g.2.1⟩
 |_=>exact False.elim h
noncomputable def Fl(K:Yg)(T:String)(r:V->List V->Hp->VK->Prop)(h:TE):TE:=λg H Q=>h g H λx f=>tyV K T x f/\r x [] f Q
noncomputable def tBM(K:Yg)(T:String)(r:V->List V->Hp->VK->Prop)(h:TE)(t:TA):TE:=λf H Q=>h f H λx g=>tyV K T x g/\t f g λxs l=>r x xs l Q
variable {o e:Expr}{es:Yq}{to:TE}{t:TA}{name:Str}{apos cpos:Pos}{T id:String}{r:V->List V->Hp->VK->Prop}
def Fg(A:PlainAttrs T)(slot:Slot T name id)(l:typeOf (.builtin id)=pure (.type "method_descriptor"))(C:MtR X id r)(B:PE X o to)(g:autoParam (attributeBase o name X.env (eval o X.env)=eval o X.env) au_0)(f:autoParam ((apos.endLine==cpos.line)=true) au_0):PE X (.Call (.Attribute o name apos) [] [] cpos) (Fl X.K T r to):=by
 intro pins s n H Q I h;refine wpAny_Call_method0_late g f (thn (B pins s n H _ I h) ?_);rintro v y ⟨x,J,u,p,w,z⟩;obtain⟨G,E⟩:=HD u p w;exact⟨T,id,A,slot,l,G,E,Calls.callWith_builtin rfl (PySem.evalArgs_none<|C pins y n J x [] v [] Q u p .nil z)⟩
def Bz(N:PlainAttrs T)(slot:Slot T name id)(u:typeOf (.builtin id)=pure (.type "method_descriptor"))(hm:MtR X id r)(Y:PE X o to)(ha:PA X (e::es) t)(g:autoParam (attributeBase o name X.env (eval o X.env)=eval o X.env) au_0)
  (l:autoParam (((backTo cpos<|starEach (e::es) X.env).all (λx=>!x.1)&&(backToKw cpos<|keywordEach [] X.env).all (λx=>x.1.isSome)
   && decide ((e::es).length+([]:List Keyword).length+(if ([]:List Keyword).isEmpty then 0 else 1)<30))=true) au_0)
  (f:autoParam ((apos.endLine==cpos.line)=true) au_0) (U:autoParam (starEach (e::es) X.env=(false,eval e X.env)::starEach es X.env) au_0) (n:autoParam ((backTo cpos<|starEach es X.env).any (·.1)=false) au_0) :
  PE X (.Call (.Attribute o name apos) (e::es) [] cpos) (tBM X.K T r to t):=by
 intro pins s p H Q I h;refine wpAny_Call_method_late g l f rfl (thn (Y pins s p H _ I h) λv G ⟨x,H1,z,w,C,M⟩=>?_);obtain⟨h1,h2⟩:=HD z w C;refine⟨T,id,N,slot,u,h1,h2,?_⟩;have y:=ha cpos pins G p H1 _ z M;rw[U]at y ⊢;refine Calls.callWith_builtin (by grind) (Jf ?_);exact thn y λB E ⟨A,H2,I2,J,L⟩=>hm pins E p H2 x A v B Q I2 w J L
end
def MtM(X:Cx)(id:String)(r:V->List V->Hp->VK->Prop):Prop:=
 ∀(pins:Yj) (s:Shared) (b:St) (H:Hp) (x:V) (xs:List V) (v:Value) (f:Yo) (Q:VK),Inv X pins b H s->RelV x v->Vals xs f->r x xs H Q->
  wpAny (model X.prog X.w) X.A (call (.builtin id) (v::f)) (EP X pins b Q) X.xe s
def Vals.one:∀{x}{us:Yo},Vals [x] us->∃u,us=[u]/\RelV x u:=by
 intro _ _ h;cases h with
 |cons r t=>
  cases t
  exact⟨_,rfl,r⟩
def Vals.zero:∀{us:Yo},Vals [] us->us=[]
 |_,.nil=>rfl
def Vals.dropLast (h:Vals xs us):Vals xs.dropLast us.dropLast:=by
 induction h with
 |nil=>exact .nil
 |cons r t b=>
  cases t with
  |nil=>grind
  |cons q f=>exact .cons r b
def Zlp{b:Type}(l:List b):l.eraseIdx (l.length-1)=l.dropLast:=by simp
section
variable {X:Cx}{pins:Yj}{σ:St}{H:Hp}{s:Shared}{l b:Addr}{xs ys zs:List V}
def Inv.lset {h g:Yo}{n}{f}{t'} (I:Inv X pins σ H s) (x:H l=some (.lst xs))
  (e:s.heap.get? l=some {cls:=.type "list",data:=.seq h.toArray n}) (v:f h.toArray=g.toArray) (p:Vals ys g) (o:ys.length<=sizeLine) :
  Inv X pins σ (upd H l<|.lst ys) {s with heap:=s.heap.update l (Obj.mapSeq f),toks:=t'}:=by
 have q:=PySem.IsL.update e f;rw[v]at q;refine I.write (by rw[x];exact trivial) (.inl rfl) (λy u w r=>(Qu s.heap (Obj.mapSeq f)<|Ne.symm w).trans r) ⟨_,q⟩ ?_;exact⟨o,g,_,p,q⟩
def Inv.lnew (I:Inv X pins σ H s) (h:Vals ys f) (g:ys.length<=sizeLine) :
  Inv X pins σ (upd H s.heap.objs.size<|.lst ys) {s with heap:=s.heap.push {cls:=.type "list",data:=.seq f.toArray},toks:=t'}:=
 I.laid (λ_ _ q=>W2 _ q) (W5 _) ⟨g,f,0,h,W9 _ rfl⟩
def Inv.fresh (I:Inv X pins σ H s):H s.heap.objs.size=none:=I.hok.fresh (W5 _)
def Inv.lstM (I:Inv X pins σ H s) (g:H l=some (.lst xs)):xs.length<=sizeLine/\∃f n,Vals xs f/\xs.length=f.length/\s.heap.get? l=some {cls:=.type "list",data:=.seq f.toArray n}:=by
 obtain⟨z,f,n,r,e⟩:=I.hok l _ g;exact⟨z,f,n,r,r.length,e⟩
end
section
variable {X:Cx}
def AL:V->List V->Hp->VK->Prop:=λx b H Q=>∃l xs y,x=.ref l/\b=[y]/\H l=some (.lst xs)/\xs.length<sizeLine/\Q .non (upd H l<|.lst (xs++[y]))
def Bh:MtM X "list.append" AL:=by
 intro pins s w H x A v B Q I g o h;obtain⟨l,xs,y,rfl,rfl,f,C,q⟩:=h;cases g
 obtain⟨u,rfl,p⟩:=o.one;obtain⟨z,b,n,r,E,e⟩:=I.lstM f;refine call_meets F.slot_list_append ⟨_,e,rfl⟩ F.entry_list_append (F.args_list_append_2 _ _) (PySem.list_append l b.toArray n u<|by grind) ⟨e,?_⟩;refine⟨.non,_,I.lset f e (by simp) (r.append<|.cons p .nil) ?_,rfl,q⟩
 grind
def Ep:V->List V->Hp->VK->Prop:=λx b H Q=>∃l xs y,x=.ref l/\b=[]/\H l=some (.lst xs)/\xs[xs.length-1]?=some y/\Q y (upd H l<|.lst xs.dropLast)
def Df:MtM X "list.pop" Ep:=by
 intro pins s C H x E v G Q I p w h;obtain⟨l,xs,y,rfl,rfl,o,B,q⟩:=h;cases p
 have g:=w.zero;subst g;obtain⟨z,b,n,r,L,e⟩:=I.lstM o;obtain⟨u,J,A⟩:=r.get B;have f:b.toArray[b.toArray.size-1]?=some u:=by grind
 refine call_meets F.slot_list_pop ⟨_,e,rfl⟩ F.entry_list_pop (F.args_list_pop_1 _) (MeetsSeq.list_pop_last l b.toArray n u f<|by rw[WX];lia) ⟨e,?_⟩;refine⟨y,_,I.lset o e ?_ r.dropLast ?_,A,q⟩
 ·simp
 ·grind
noncomputable def Mm:R2:=λx y H Q=>∃l b xs f,x=.ref l/\y=.ref b/\H l=some (.lst xs)/\H b=some (.lst f)/\xs.length+f.length<=sizeLine/\∀p,H p=none->Q (.ref p) (upd H p<|.lst (xs++f))
def P8:OpR X (binaryOp .Add) Mm:=by
 intro pins s J H x y v u Q I p o h;obtain⟨l,b,xs,L,rfl,rfl,B,C,T,q⟩:=h;cases p
 cases o
 obtain⟨z,g,n,r,U,e⟩:=I.lstM B;obtain⟨M,f,N,w,A,G⟩:=I.lstM C;refine PySem.P.add_list e G ?_ (by grind);have E:g.toArray++f.toArray=(g++f).toArray:=by simp
 rw[E];exact⟨.ref _,_,I.lnew (r.append w) (by grind),rfl,q _ I.fresh⟩
end
end L2
namespace Att
open PySem PySem.W PySem.Calls PyProof.Rows
def Zc2:∀ns vs,WellAll P h vs (ns.map WData.int)->IntsAre vs ns:=by
 intro ns
 induction ns with
 |nil=>
  intro vs w;cases w
  exact .nil
 |cons n ns f=>
  intro vs w;cases w with
  |cons a b=>
   cases a
   exact .cons _ _ (f _ b)
def Zc3{l:OpenLaw}{n}(x:l.most=some n){P}{h}{args}{vals}(b:l.row.toRowW.claim.pre args=true)(o:WellAll P h vals args) :
  ∃a vs ns,vals=[Value.ref a]/\args=[WData.list (ns.map WData.int)]/\h.get? a=some {cls:=.type "list",data:=.seq vs.toArray}/\IntsAre vs ns/\ns.length<=n:=by
 have p:WShape.hasAll [] args [.list .int]=true:=(pre_splitW b).1;have y:l.pre.holds [] {args:=args}=true:=(pre_splitW b).2;obtain⟨d,r,rfl,B,A⟩:=hasAllW_cons p;obtain rfl:=hasAllW_nil A;obtain⟨xs,rfl,z⟩:=hasW_list B;obtain⟨ns,rfl⟩:=items_int z
 have f:ns.length<=n:=by
  have s:(WTm.not<|.lt (.lit<|.int (n:Int))<|.len<|.arg 0).holds [] {args:=[.list (ns.map .int)]}=true:=by
   have s:=(holds_andW y).1;rw[x]at s;lia
  have C:=condW_of s (w_not<|w_lt w_lit<|w_len_list<|w_arg rfl);simp_all
 cases o with
 |cons v u=>
  cases u
  cases v with
  |list w g=>exact⟨_,_,ns,rfl,rfl,w,Zc2 ns _ g,f⟩
def Zfp(l:OpenLaw)(args:List WData):l.row.toRowW.claim.post args (.bool true) args=true:=
 postW_of
  rfl
  (w_eq_bool (w_res rfl) w_lit) rfl
def Zg7{l:OpenLaw}{n}{q}{loose}{XP}{YP}{d}(Q:l.most=some n)(E:d.params.defaults=[])
  (call:∀w s₀ b y A v o z cd h a vs ns,
   Ground q loose [] XP w s₀ y A b.heap->YP w b.heap->
   b.heap.get? v=some o->o.data=.func (docDef d.name d.params d.body d.scope z cd h)->b.heap.CodeRec cd d.name->y d.name=some (.ref v)->
   b.heap.get? a=some {cls:=.type "list",data:=.seq vs.toArray}->IntsAre vs ns->ns.length<=n->b.gens=#[]->
   codeAny (model l.prog w) callerA (.call (.ref v) ⟨[.ref a],[]⟩) (λr x=>r=.ok (.ret<|.bool true)/\OldK b.heap x.heap/\x.os=b.os/\AllBare x.gens) b) :
  WalkO q loose XP YP l.row.toRowW d [] (λf vs=>PySem.call f vs):=by
 intro w s₀ b y A G Y v o z cd h dV kV N hd H L C hg args vals as p J M B U;obtain rfl:=Dflts.none L E;obtain rfl:=Dflts.noKw L;obtain⟨a,vs,ns,rfl,rfl,s,g,u⟩:=Zc3 Q p B;refine enter_call (QP (call w s₀ b y A v o z cd h a vs ns G Y N (fd_plain hd) H C s g u hg) λr x hq=>?_);obtain⟨rfl,h2,h3,h4⟩:=hq;exact⟨.inl ⟨.bool true,.bool true,[],rfl,λ_=>rfl,.bool true,Zfp l _,λ_=>⟨List.Pairwise.nil,λ_ T=>(nomatch T)⟩⟩,h2,h3,h4⟩
end Att
namespace L2
open PySem PySem.Spec PyProof.Rows
theorem BS:∀{vs}{ns:Yi},IntsAre vs ns->Vals (ns.map V.int) vs
 |_,_,.nil=>.nil
 |_,_,.cons n t h=>.cons ⟨t,rfl⟩ (BS h)
def BX(H:Hp):Prop:=∀b,H b=none\/∃o xs,H b=some (.frz o<|.lst xs)
def Zf7{K B U CX k fa a fd x sp f vs ns}(KX:K.In f.heap)(G:f.heap.Ns mainGlobals B)(g:f.heap.Ns builtinsNs U)(hbb:∀x:Str,x≠"__name__"->U x=bootBuiltins x)(J:f.heap.NoLimit)(hg:f.gens=#[])(M:f.heap.get? a=some {cls:=.type "list",data:=.seq vs.toArray})(hi:IntsAre vs ns)(hl:ns.length<=sizeLine)(hr:Xo k callerA)(F:∀base,K.In base->base.Ns mainGlobals B->Kv P w K B base CX k fa fd [x] sp)(y:∀s u,BindsTo s fd ⟨[u],[]⟩ [(x,u)])(Y:∀H,BX H->SqL K H a (ns.map V.int)->sp [.ref a] H (λv _=>v=.bl true) λ_ _ _=>False)(hCX:∀H e l,CX [] H f (λ_ _ _=>False) e l->False) :
  codeAny (model P w) callerA (.call (.ref fa) ⟨[.ref a],[]⟩) (λr l=>r=.ok (.ret<|.bool true)/\OldK f.heap l.heap/\l.os=f.os/\AllBare l.gens) f:=by
 have rv:=BS hi
 have core:∀H,BX H->SqL K H a (ns.map V.int)->HOk P w H f.heap->(∀b,H b≠none->b=a)->(H a≠none->K.lookup a=none)->
   codeAny (model P w) callerA (.call (.ref fa) ⟨[.ref a],[]⟩) (λr l=>r=.ok (.ret<|.bool true)/\OldK f.heap l.heap/\l.os=f.os/\AllBare l.gens) f:=by
  intro H hO hS E hA hK;have base_of:∀{b:Addr} {o:Obj},f.heap.get? b=some o->H b=none->(TH f.heap H).get? b=some o:=λe n=>Rv e n
  have T:∀{b:Addr} {o:Obj} {N:Array DictEntry} {Q:Nat},f.heap.get? b=some o->o.data=.dict N Q->H b=none:=λ{b o N Q} e d=>by
   cases q:H b with
   |none=>rfl
   |some u=>
    have e':=hA b (by rw[q];simp);subst e';rw[M]at e;cases e;cases d
  have p:∀{b:Addr} {m:Yk},f.heap.Ns b m->(TH f.heap H).Ns b m:=λ{b m} ⟨o,N,Q,e,d,r⟩=>⟨o,N,Q,base_of e (T e d),d,r⟩
  have L:=λb o e=>base_of (KX b o e) (by
   cases q:H b with
   |none=>rfl
   |some u=>
    have e':=hA b (by rw[q];simp);subst e';rw[hK (by rw[q];simp)]at e;cases e)
  have hM:Mod K B (TH f.heap H):=⟨L,p G,⟨U,p g,hbb⟩,let ⟨mc,h1,h2⟩:=J;⟨mc,p h1,h2⟩⟩;have e0:TX P w K B (TH f.heap H) callerA [] f H:=⟨rfl,hM,λb o e=>Zc5 e,QO (Zj9 _ _),trivial,λb g=>absurd (show b∈([]:List Addr)from g) (by simp),E,.of_eq hg⟩
  refine QP ((F _ L<|p G).run callerA [] f H ⟨[.ref a],[]⟩ [.ref a] [.ref a] _ _ hr e0 (y f<|.ref a) (.cons rfl .nil) (Y H hO hS)) λr l h=>?_;cases r with
  |error e=>exact(hCX H e l h).elim
  |ok fl=>
   cases fl with
   |ret u=>
    obtain⟨v,H',os,bare,un,C,r',q⟩:=h;subst q;obtain rfl:=r';refine⟨rfl,OldK.of_keep λb o e=>?_,os,bare⟩;cases q:H b with
    |none=>exact un.keep b o e q (by intro z;exact absurd (show b∈([]:List Addr)from z) (by simp)) (by simp)
    |some u=>
     rcases hO b with z|⟨ob,xs,z⟩
     ·rw[q]at z;cases z
     ·have z2:=un.frzs b ob _ z;obtain⟨e1,_⟩:=E b _ z;obtain⟨e2,_⟩:=C b _ z2;rw[e]at e1;cases e1;exact e2
   |_=>exact False.elim h
 cases hk:K.lookup a with
 |some o=>
  have e:=KX a o hk;rw[M]at e;cases e
  refine core (λ_=>none) (λ_=>.inl rfl) (.inr ⟨_,vs.toArray,_,hk,rfl,rfl,rfl,by rw[WX,hi.length];exact hl,by simpa using rv⟩) (λb u z=>by have A:=z;cases A) (λb z=>absurd rfl z) λz=>absurd rfl z
 |none=>
  refine core (λb=>if b=a then some (.frz {cls:=.type "list",data:=.seq vs.toArray} (.lst<|ns.map V.int))else none) (λb=>?_) (.inl<|.inr ⟨{cls:=.type "list",data:=.seq vs.toArray},W6 rfl⟩) (λb u z=>?_) (λb z=>?_) λ_=>hk
  ·by_cases g:b=a
   ·exact .inr ⟨_,_,W6 g⟩
   ·exact .inl (W3 g)
  ·by_cases g:b=a
   ·have A:=(W6 g).symm.trans z;cases A
    subst g;exact⟨M,by rw[Wx];exact hl,vs,_,rv,M⟩
   ·have A:=(W3 g).symm.trans z;cases A
  ·by_cases g:b=a
   ·exact g
   ·exact absurd (W3 g) z
def Zd1{l:PySem.W.OpenLaw}{n k}{q}{loose}{XP}{YP}{d}{K:Params->Yg}{CX:World->CXT}{sp:World->Sp}{x}(hn:l.most=some n)(J:n<=sizeLine)(M:d.params.defaults=[])(hr:Xo k callerA)(hY:∀w h,YP w h->(K w.params).In h)
  (F:∀w y B h,(K w.params).In h->h.Ns mainGlobals y->y d.name=some (.ref B)->
   ∃Q,(∀s u,BindsTo s Q ⟨[u],[]⟩ [(x,u)])/\
    ∀base,(K w.params).In base->base.Ns mainGlobals y->Kv l.prog w (K w.params) y base (CX w) k B Q [x] (sp w))
  (E:∀w H a (ns:Yi),ns.length<=n->BX H->SqL (K w.params) H a (ns.map V.int)->sp w [.ref a] H (λv _=>v=.bl true) λ_ _ _=>False)
  (N:∀w H s e C,CX w [] H s (λ_ _ _=>False) e C->False) :
  PySem.W.WalkO q loose XP YP l.row.toRowW d [] (λf vs=>PySem.call f vs):=by
 refine Att.Zg7 hn M λw U z y mb B o pm cd doc a vs ns G Y ho hd hcd L A r p hg=>?_;have KX:=hY w _ Y;obtain⟨Q,hb,hF⟩:=F w y B _ KX G.T.g L;exact Zf7 KX G.T.g G.T.b G.T.builtins G.T.nolimit hg A r (WC p J) hr hF hb (λH hO hS=>E w H a ns p hO hS) λH e C=>N w H z e C
def Zfx{l:PySem.W.OpenLaw}{n k}{q}{loose}{XP}{YP}{d}{K:Params->Yg}{CX}{sp:Yg->Sp}{x}(C:l.most=some n)(p:n<=sizeLine)(r:d.params.defaults=[])(B:Xo k callerA)(E:∀w h,YP w h->(K w.params).In h)
  (F:∀w b A h,(K w.params).In h->h.Ns mainGlobals b->b d.name=some (.ref A)->
   ∃z,(∀s u,BindsTo s z ⟨[u],[]⟩ [(x,u)])/\
    ∀base,(K w.params).In base->base.Ns mainGlobals b->Kv l.prog w (K w.params) b base CX k A z [x] (sp<|K w.params))
  (o:∀K H a (ns:Yi),ns.length<=n->BX H->SqL K H a (ns.map V.int)->sp K [.ref a] H (λv _=>v=.bl true) λ_ _ _=>False)
  (y:∀H s e g,CX [] H s (λ_ _ _=>False) e g->False) :
  PySem.W.WalkO q loose XP YP l.row.toRowW d [] (λf vs=>PySem.call f vs):=
 Zd1 C p r B E F (λw H a ns L J G=>o (K w.params) H a ns L J G) λ_ H s e g=>y H s e g
noncomputable def inClass(s:Stmt)(j:Nat):Stmt:=match s with
 | .ClassDef _ _ _ body _ _ _ _ _ _ _=>body.getD j (.Pass ⟨0,0,0,0⟩)
 |_=>.Pass ⟨0,0,0,0⟩
noncomputable def KM(s:Stmt):Arguments:=match s with
 | .FunctionDef _ a _ _ _ _ _ _ _ _=>a
 |_=>{posonlyargs:=[],args:=[],vararg:=none,kwonlyargs:=[],kw_defaults:=[],kwarg:=none,defaults:=[]}
noncomputable def XA(s:Stmt):Yr:=match s with
 | .FunctionDef _ _ b _ _ _ _ _ _ _=>b
 |_=>[]
noncomputable def Xh(s:Stmt):Scope:=match s with
 | .FunctionDef _ _ _ _ _ _ b _ _ _=>b
 |_=>{kind:=.function,names:=[],isGenerator:=false,isCoroutine:=false}
noncomputable abbrev CX0:CXT:=λ_ _ _ _ _ _=>False
noncomputable abbrev E0:XK:=λ_ _ _=>False
def XY:KO CX0 X E0:=λ_ _ _ _ _ _ _ h=>h.elim
structure Fun (K:Yg) (x qual:Str) (st:Stmt) (f:Addr) (fd:FuncData):Prop where
 ex:∃(oc:Value) (od:Yt) (kV doc pm:Value) (an:Yt) (cdv ct:Value) (osl:Array (Ys)),
  fd=PySem.W.fnOf x qual (KM st) (XA st) (Xh st) .none kV doc pm an cdv ct/\K.lookup f=some ⟨oc,od,.func fd,osl⟩/\PySem.W.codeIn K cdv qual=true
 kp:PySem.W.keepIn K (.ref f)=true
section
variable {P:Program}{w:World}{K:Yg}{mg:Yk}{base:Heap}
def Fun.ok {st f o N ps k sp} (F:Fun K x qual st f o) (S:Xk N ps (Xh st)) (len:∀vs H Q E,sp vs H Q E->vs.length=ps.length)
  (g:∀b A outer s H vs Q E,Xo k (A.deeper<|envOfC qual (Xh st) s.heap.objs.size f b)->sp vs H Q E->
   ∃t,PSs (XI CX0 P w K mg base N qual (Xh st) f b A outer s H E).nox (XA st) t/\t {nx:=λ_ H'=>Q .non H',rt:=Q} (start N vs) H):Kv P w K mg base CX0 (k+1) f o ps sp:=by
 obtain⟨oc,z,kV,v,y,C,b,B,p,rfl,r,n⟩:=F.ex;refine AG r n S len λA outer s H vs Q E u l=>?_;obtain⟨t,h,q⟩:=g b A outer s H vs Q E u l;exact⟨t,h.nox,q⟩
def Fun.binds {st f o ps} (F:Fun K x qual st f o)
  (h:∀kV b l n g ct us,us.length=ps.length->bindArgs (PySem.W.fnOf x qual (KM st) (XA st) (Xh st) .none kV b l n g ct) ⟨us,[]⟩=pure (ps.zip us)):Binds K o ps []:=by
 obtain⟨oc,s,kV,b,l,n,g,ct,p,rfl,u,r⟩:=F.ex;exact .all (h kV b l n g ct)
def Ft{st f oc p o h kV g n b ct}(l:K.lookup f=some ⟨oc,p,.func (PySem.W.fnOf x qual (KM st) (XA st) (Xh st) .none kV g n o b ct),h⟩)(c:PySem.W.codeIn K b qual=true)(k:PySem.W.keepIn K (.ref f)=true):Fun K x qual st f (PySem.W.fnOf x qual (KM st) (XA st) (Xh st) .none kV g n o b ct):=⟨⟨oc,p,kV,g,n,o,b,ct,h,rfl,l,c⟩,k⟩
end
def P9{k}(b:Xo k A):A.units+1<cLine:=QR (Nat.add_le_add_left (by simp) _) b.units
def Zho(h:n<=1000):n<sizeLine:=QR h (by decide)
section
variable {X:Cx}
def pv(i:Nat){x pos}(h:autoParam (X.N[i]?=some x) au_0)(f:autoParam (Vis X.env.scope x) au_4)(g:autoParam ((x==("__debug__" : Str))=false) au_1)(b:autoParam ((x==("__classdict__" : Str))=false) au_1):PE X (.Name x pos) (Kw i):=O9 h f g b
end
def X7{A B:Prop}(h:B):if false=true then A else B:=by grind
def KA{A B:Prop}(h:A):if true=true then A else B:=by grind
def Xx{c A B:Prop}[Decidable c](f:c->A)(b:¬c->B):if c then A else B:=by grind
def NJ{c A B:Prop}[Decidable c](b:c)(h:B):if (!decide c)=true then A else B:=by grind
def Same(H H':Hp):Prop:=∀b o,H b=some o->H' b=some o
def Same.refl (H:Hp):Same H H:=λ_ _ h=>h
def Same.trans (a:Same H g) (b:Same g f):Same H f:=λc o h=>b c o (a c o h)
def Same.free (e:Same H H') {l} (h:H' l=Option.none):H l=Option.none:=by
 cases q:H l with
 |none=>rfl
 |some o=>
  rw[e l o q]at h;lia
def Same.seq {K H H'}{a xs} (e:Same H H') (h:SqL K H a xs):SqL K H' a xs:=by
 rcases h with(h|⟨o,h⟩)|h
 ·exact .inl (.inl<|e _ _ h)
 ·exact .inl (.inr ⟨o,e _ _ h⟩)
 ·exact .inr h
end L2
set_option maxHeartbeats 4000000
namespace L2
open PySem PySem.Spec PyProof.Rows
section
variable {κ:Type} [DecidableEq κ]
noncomputable def Xu(b:List (κ×V))(k:κ):Option V:=(b.find? λf=>decide (f.1=k)).map (·.2)
noncomputable def putK(b:List (κ×V))(k:κ)(v:V):List (κ×V):=
 if (b.any λf=>decide (f.1=k))=true then b.map (λf=>if f.1=k then(f.1,v)else f)else b++[(k,v)]
def Pk{p:κ×V}{r:List (κ×V)}{k:κ}(e:p.1=k):Xu (p::r) k=some p.2:=by simp[Xu,QT,e]
def Pg{p:κ×V}{r:List (κ×V)}{k:κ}(e:¬p.1=k):Xu (p::r) k=Xu r k:=by simp[Xu,QT,e]
theorem SD(k:κ):∀b:List (κ×V),(b.any λf=>decide (f.1=k))=(Xu b k).isSome
 |[]=>rfl
 |p::r=>by
  rw[Vt];by_cases e:p.1=k
  ·simp only[Pk e,W4 e,Bool.true_or,Option.isSome_some]
  ·rw[Pg e,WH e,Bool.false_or];exact SD k r
theorem M0(k j:κ)(y:V):∀b:List (κ×V),Xu (b.map λf=>if f.1=k then(f.1,y)else f) j=(Xu b j).map λx=>if j=k then y else x
 |[]=>rfl
 |p::r=>by
  have g:=M0 k j y r;rw[WN];by_cases h:p.1=k
  ·rw[W6 h];by_cases e:p.1=j
   ·rw[Pk (p:=(p.1,y)) e,Pk e,Jg,W6 (e.symm.trans h)]
   ·rw[Pg (p:=(p.1,y)) e,Pg e,g]
  ·rw[W3 h];by_cases e:p.1=j
   ·rw[Pk (p:=p) e,Pk e,Jg,W3 (λz=>h (e.trans z))]
   ·rw[Pg (p:=p) e,Pg e,g]
theorem Lq(k j:κ)(y:V):∀b:List (κ×V),Xu b k=none->Xu (b++[(k,y)]) j=if j=k then some y else Xu b j
 |[],_=>by
  by_cases e:k=j
  ·rw[W6 e.symm];exact Pk (p:=(k,y)) e
  ·rw[W3 (λz=>e z.symm)];exact Pg (p:=(k,y)) e
 |p::r,f=>by
  rw[Vo];have g:¬p.1=k:=λz=>by rw[Pk z]at f;cases f
  rw[Pg g]at f;have h:=Lq k j y r f;by_cases e:p.1=j
  ·rw[Pk e,Pk e,W3 (λz=>g (e.trans z))]
  ·rw[Pg e,Pg e,h]
def BF(b:List (κ×V))(k j:κ)(y:V):Xu (putK b k y) j=if j=k then some y else Xu b j:=by
 unfold putK;by_cases a:(b.any λf=>decide (f.1=k))=true
 ·rw[W6 a,M0];rw[SD]at a;by_cases e:j=k
  ·obtain⟨x,hx⟩:=Option.isSome_iff_exists.mp a;rw[W6 e,e,hx,Jg,W6 rfl]
  ·rw[W3 e];cases Xu b j with
   |none=>rfl
   |some x=>rw[Jg,W3 e]
 ·rw[W3 a];refine Lq k j y b ?_;rw[SD]at a;cases q:Xu b k with
  |none=>rfl
  |some x=>rw[q]at a;exact(a rfl).elim
def Fk(b:List (κ×V))(k:κ)(v:V):(putK b k v).length<=b.length+1:=by
 unfold putK;split
 ·rw[Wx];omega
 ·rw[WE,Qq,List.length_nil];omega
def Zbf{b:List (κ×V)}{k:κ}(v:V)(h:Xu b k=none):putK b k v=b++[(k,v)]:=by
 unfold putK;rw[SD,h];exact W3 (by decide)
def RelO.isSome_eq {o:Option V}{u:Ys} (r:RelO o u):o.isSome=u.isSome:=by
 cases o with
 |none=>cases u with
  |none=>rfl
  |some _=>exact(show False from r).elim
 |some _=>cases u with
  |none=>exact(show False from r).elim
  |some _=>rfl
def KV.val {f:List (κ×V)}{vs:List (κ×Value)} (r:KV f vs) (k:κ):RelO (Xu f k) (valueAt vs k):=by
 unfold KV at r
 induction r with
 |nil=>exact True.intro
 | @cons p q u g h t o=>
  obtain⟨n,s⟩:=h;by_cases e:p.1=k
  ·have l:q.1=k:=n.symm.trans e;have b:valueAt (q::g) k=some q.2:=by simp[valueAt,QT,l]
   rw[Pk e,b];exact s
  ·have l:¬q.1=k:=λz=>e (n.trans z);have b:valueAt (q::g) k=valueAt g k:=by simp[valueAt,QT,l]
   rw[Pg e,b];exact o
def KV.any {b:List (κ×V)}{vs:List (κ×Value)} (r:KV b vs) (k:κ):(b.any λf=>decide (f.1=k))=vs.any λf=>decide (f.1=k):=by
 unfold KV at r
 induction r with
 |nil=>rfl
 |cons h t g=>rw[Vt,Vt,g,h.1]
def KV.repl {f:List (κ×V)}{vs:List (κ×Value)} (r:KV f vs) (k:κ) {y:V}{u:Value} (l:RelV y u) :
  KV (f.map λb=>if b.1=k then(b.1,y)else b) (vs.map λb=>if b.1=k then(b.1,u)else b):=by
 unfold KV at r ⊢
 induction r with
 |nil=>exact .nil
 | @cons p q v s h t n=>
  rw[WN,WN];refine .cons ?_ n;obtain⟨g,o⟩:=h;by_cases e:p.1=k
  ·rw[W6 e,W6 (g.symm.trans e)];exact⟨g,l⟩
  ·rw[W3 e,W3 (λz=>e (g.trans z))];exact⟨g,o⟩
def KV.put {b:List (κ×V)}{vs:List (κ×Value)} (r:KV b vs) (k:κ) {y:V}{u:Value} (f:RelV y u):KV (putK b k y) (stored vs k u):=by
 unfold putK stored;rw[r.any k];by_cases e:(vs.any λg=>decide (g.1=k))=true
 ·rw[W6 e,W6 e];exact r.repl k f
 ·rw[W3 e,W3 e];exact Paired.snoc r ⟨rfl,f⟩
def KV.length {b:List (κ×V)}{vs:List (κ×Value)} (r:KV b vs):b.length=vs.length:=Paired.length r
end
def Fq{P:Program}{w:World}{k:Key}{u:Value}(r:RelV (kV k) u):(KU P w).is k u=true:=by
 cases k with
 |inl i=>obtain⟨t,e⟩:=(show ∃t,u=Value.int i t from r);subst e;exact Zkp P w i t
 |inr x=>obtain⟨t,e⟩:=(show ∃t,u=Value.str x t from r);subst e;exact Zaz P w x t
theorem Gv{P:Program}{w:World}:∀{b:List Key}{us:Yo},Vals (b.map kV) us->ItemsAre (KU P w) b us
 |[],_,r=>by rw[List.map_nil]at r;cases r;exact .nil
 |k::b,_,r=>by
  rw[WN]at r;cases r with
  |cons h t=>exact .cons (Fq h) (Gv t)
abbrev KT(H:Hp):List (List Key×V)->List (List Key×Addr×Value)->Prop:=Paired λp q=>p.1=q.1/\H q.2.1=some (.tup<|p.1.map kV)/\RelV p.2 q.2.2
def KT.val {H:Hp}{f:List (List Key×V)}{xs:List (List Key×Addr×Value)} (r:KT H f xs) (k:List Key):RelO (Xu f k) ((atKey xs k).map (·.2)):=by
 induction r with
 |nil=>exact True.intro
 | @cons p q u g h t o=>
  obtain⟨n,_,s⟩:=h;by_cases e:p.1=k
  ·have l:q.1=k:=n.symm.trans e;have b:atKey (q::g) k=some q.2:=by simp[atKey,QT,l]
   rw[Pk e,b];exact s
  ·have l:¬q.1=k:=λz=>e (n.trans z);have b:atKey (q::g) k=atKey g k:=by simp[atKey,QT,l]
   rw[Pg e,b];exact o
def KT.repl {H:Hp}{b:List (List Key×V)}{xs:List (List Key×Addr×Value)} (r:KT H b xs) (k:List Key) {y:V}{u:Value} (n:RelV y u) :
  KT H (b.map λg=>if g.1=k then(g.1,y)else g) (xs.map<|putAt k u):=by
 induction r with
 |nil=>exact .nil
 | @cons p q w v h t o=>
  rw[WN,WN];refine .cons ?_ o;obtain⟨f,l,s⟩:=h;unfold putAt;by_cases e:p.1=k
  ·rw[W6 e,W6 (f.symm.trans e)];exact⟨f,l,n⟩
  ·rw[W3 e,W3 (λz=>e (f.trans z))];exact⟨f,l,s⟩
def KT.put {H:Hp}{f:List (List Key×V)}{xs:List (List Key×Addr×Value)} (r:KT H f xs) (k:List Key) {b:Addr}{y:V}{u:Value} (l:H b=some (.tup<|k.map kV)) (g:RelV y u) :
  KT H (putK f k y) (storedH xs k b u):=by
 have e:(f.any λh=>decide (h.1=k))=(atKey xs k).isSome:=by
  rw[SD,(r.val k).isSome_eq,Jw]
 unfold putK storedH;rw[e];by_cases q:(atKey xs k).isSome=true
 ·rw[W6 q,W6 q];exact r.repl k g
 ·rw[W3 q,W3 q];exact Paired.snoc r ⟨rfl,l,g⟩
def KT.keeps {H H':Hp}{f:List (List Key×V)}{xs:List (List Key×Addr×Value)} (r:KT H f xs) (h:∀b g,H b=some (.tup g)->H' b=some (.tup g)):KT H' f xs:=
 Paired.mapP r λ_ _ z=>⟨z.1,h _ _ z.2.1,z.2.2⟩
section
variable {P:Program}{w:World}{H:Hp}{h:Heap}{a:Addr}
def Iz{u:HO}(ok:HOk P w H h)(e:Rd H a u):ObjOk P w H h a u:=e.ok ok
def B4{b:List (Key×V)}(ok:HOk P w H h)(e:Rd H a (.dK b)):b.length<=sizeLine/\(a==sysModules)=false/\∃vs,KV b vs/\h.DictOf (KU P w) a vs:=
 show ObjOk P w H h a (.dK b)from Iz ok e
def Zkx{b:List (Key×V)}(ok:HOk P w H h)(e:H a=some (.dK b)):b.length<=sizeLine/\(a==sysModules)=false/\∃vs,KV b vs/\h.DictOf (KU P w) a vs:=B4 ok (.inl e)
def Sq{b:List Key}(ok:HOk P w H h)(e:H a=some (.tup<|b.map kV)):(tupleKind<|KU P w).is h b a:=by
 obtain⟨_,f,r,o,p,l,n,g⟩:=(show ObjOk P w H h a (.tup<|b.map kV)from ok a _ e)
 exact⟨o,f.toArray,n,p,l,g,by simpa using Gv r⟩
def Bm{b:List (List Key×V)}(ok:HOk P w H h)(e:Rd H a (.dT b)):b.length<=sizeLine/\(a==sysModules)=false/\
  ∃xs,KT H b xs/\h.DictOfH (tupleKind<|KU P w) a xs:=by
 obtain⟨z,y,xs,r,o,A,B,v,u,s,n,g⟩:=(show ObjOk P w H h a (.dT b)from Iz ok e)
 refine⟨z,y,xs,r,o,A,B,v,u,s,n,λx hx=>?_,g⟩
 have all:∀{l:List (List Key×V)} {m:List (List Key×Addr×Value)},KT H l m->∀x∈m,(tupleKind<|KU P w).is h x.1 x.2.1:=by
  intro l m q
  induction q with
  |nil=>intro x hx;exact nomatch hx
  | @cons p q E C hq t f=>
   intro x hx;rcases WA.mp hx with e|hx
   ·subst e;exact Sq ok (by rw[←hq.1];exact hq.2.1)
   ·exact f x hx
 exact all r x hx
def B5{b:List (List Key×V)}(ok:HOk P w H h)(e:H a=some (.dT b)):b.length<=sizeLine/\(a==sysModules)=false/\
  ∃xs,KT H b xs/\h.DictOfH (tupleKind<|KU P w) a xs:=Bm ok (.inl e)
end
def DGet(H:Hp)(a:Addr)(y:V)(r:Option V):Prop:=
 (∃f k,Rd H a (.dK f)/\y=kV k/\r=Xu f k)\/∃f k b,Rd H a (.dT f)/\y=.ref b/\H b=some (.tup<|k.map kV)/\r=Xu f k
def DPut(H:Hp)(a:Addr)(y v:V)(H':Hp):Prop:=
 (∃f k,H a=some (.dK f)/\y=kV k/\f.length<sizeLine/\H'=upd H a (.dK<|putK f k v))\/
 ∃f k b,H a=some (.dT f)/\y=.ref b/\H b=some (.tup<|k.map kV)/\f.length<sizeLine/\H'=upd H a (.dT<|putK f k v)
def DGet.k {H:Hp}{a:Addr}{b:List (Key×V)}{k:Key} (e:H a=some (.dK b)):DGet H a (kV k) (Xu b k):=.inl ⟨b,k,.inl e,rfl,rfl⟩
def DGet.t {H:Hp}{a b:Addr}{f:List (List Key×V)}{k:List Key} (e:H a=some (.dT f)) (g:H b=some (.tup<|k.map kV)):DGet H a (.ref b) (Xu f k):=.inr ⟨f,k,b,.inl e,rfl,g,rfl⟩
def DPut.k {H:Hp}{a:Addr}{b:List (Key×V)}{k:Key}{v:V} (e:H a=some (.dK b)) (f:b.length<sizeLine):DPut H a (kV k) v (upd H a<|.dK<|putK b k v):=.inl ⟨b,k,e,rfl,f,rfl⟩
def DPut.t {H:Hp}{a b:Addr}{f:List (List Key×V)}{k:List Key}{v:V} (e:H a=some (.dT f)) (h:H b=some (.tup<|k.map kV)) (g:f.length<sizeLine) :
  DPut H a (.ref b) v (upd H a<|.dT<|putK f k v):=.inr ⟨f,k,b,e,rfl,h,g,rfl⟩
section
variable {X:Cx}{pins:Yj}{σ:St}{H:Hp}{s:Shared}{a:Addr}{y v:V}{u r:Value}{o:Option V}{A:Around}{E:Yl}
def Inv.big (I:Inv X pins σ H s):sysModules<s.heap.objs.size:=by
 have h:mainGlobals<s.heap.objs.size:=(I.mod.glob.keeps I.bk).lt;exact Vj (by decide) h
def Zid{Q:Yl}(M:A.units+1<cLine)(I:Inv X pins σ H s)(g:DGet H a y (some v))(J:RelV y u)(h:∀n G,Inv X pins σ H G->RelV v n->Q n G) :
  wpAny (model X.prog X.w) A (getItem (.ref a) u) Q E s:=by
 rcases g with⟨x,k,e,ey,l⟩|⟨x,k,b,e,ey,U,l⟩
 ·subst ey;obtain⟨z,T,L,rel,C⟩:=B4 I.hok e;obtain⟨n,hw,f⟩:=RelO.some_of (v:=v) (o:=valueAt L k) (by rw[l];exact rel.val k);exact wpAny_getItem_of (Fq J) C.mapOf hw (h n _ (I.tok _) f)
 ·subst ey;cases (show u=Value.ref b from J)
  obtain⟨z,T,xs,rel,C⟩:=Bm I.hok e;obtain⟨n,hw,f⟩:=RelO.some_of (v:=v) (o:=(atKey xs k).map (·.2)) (by rw[l];exact rel.val k);obtain⟨p,N,B⟩:=Option.map_eq_some_iff.mp hw;refine wpAny_getItem_heap (tupleKind_room_in1 M) (Sq I.hok U) C N ?_;rw[B];exact h n _ (I.tok _) f
def Zbg{Q:Yl}(C:A.units+1<cLine)(I:Inv X pins σ H s)(g:DGet H a y o)(B:RelV y u)(h:∀x,Inv X pins σ H x->Q (.bool (!o.isSome)) x) :
  wpAny (model X.prog X.w) A (compareOp .NotIn u<|.ref a) Q E s:=by
 rcases g with⟨f,k,e,ey,l⟩|⟨f,k,b,e,ey,G,l⟩
 ·subst ey;obtain⟨z,n,J,rel,p⟩:=B4 I.hok e;refine wpAny_notIn_of (Fq B) n p.mapOf ?_;rw[←(rel.val k).isSome_eq,←l];exact h _ (I.tok _)
 ·subst ey;cases (show u=Value.ref b from B)
  obtain⟨z,n,xs,rel,p⟩:=Bm I.hok e;refine wpAny_notIn_heap (tupleKind_room_in1 C) (Sq I.hok G) n p ?_;have q:=(rel.val k).isSome_eq;rw[Jw]at q;rw[←q,←l];exact h _ (I.tok _)
def B7{f:Heap}{t':Nat}{ob:HO}(I:Inv X pins σ H s)(g:Mut (H a))(h:Heap.SameBut a s.heap f)(l:∃q,f.get? a=some q)(new:ObjOk X.prog X.w (upd H a ob) f a ob) :
  Inv X pins σ (upd H a ob) {s with heap:=f,toks:=t'}:=
 I.write (x:=a) (e:=a) g (.inl rfl) (λb q n z=>(h.2 b n).trans z) l new
def Zjx{P:Program}{w:World}{H':Hp}{f:Heap}{b:List (Key×V)}{vs:List (Key×Value)}(z:b.length<=sizeLine)(g:(a==sysModules)=false)(rel:KV b vs)(dd:f.DictOf (KU P w) a vs) :
  ObjOk P w H' f a (.dK b):=⟨z,g,vs,rel,dd⟩
def Zln{H':Hp}{Q:Unit->Shared->Prop}(hu:A.units+1<cLine)(I:Inv X pins σ H s)(g:DPut H a y v H')(M:RelV y u)(rv:RelV v r)(h:∀L,Inv X pins σ H' L->Q () L) :
  wpAny (model X.prog X.w) A (setItem (.ref a) u r) Q E s:=by
 rcases g with⟨f,k,e,ey,l,G⟩|⟨f,k,b,e,ey,U,l,G⟩
 ·subst ey G;obtain⟨z,C,Y,rel,J⟩:=Zkx I.hok e;have p:Y.length<=sizeLine:=by rw[←rel.length];exact z
  have B:(putK f k v).length<=sizeLine:=by have:=Fk f k v;omega
  refine wpAny_setItem_pairs (hsz:=p) (Fq M) J λN n x=>h _ ?_;have he:∃q,N.get? a=some q:=let ⟨q,_,_,hq,_⟩:=n;⟨q,hq⟩;exact B7 I (by rw[e];exact True.intro) x he (Zjx B C (rel.put k rv) n)
 ·subst ey G;cases (show u=Value.ref b from M)
  obtain⟨z,C,xs,rel,J⟩:=B5 I.hok e;have p:xs.length<=sizeLine:=by rw[←Paired.length rel];exact z
  have B:(putK f k v).length<=sizeLine:=by have:=Fk f k v;omega
  refine wpAny_setItem_heap (hsz:=p) (tupleKind_room_in1 hu) (Sq I.hok U) J λN n x=>h _ ?_;obtain⟨q,es,ep,hq,h2,h3,h4,_,h5⟩:=n;refine B7 I (by rw[e];exact True.intro) x ⟨q,hq⟩ ⟨B,C,_,(rel.put k U rv).keeps λc ys T=>?_,q,es,ep,hq,h2,h3,h4,h5⟩;rw[Xl (Cj T e (λz=>nomatch z))];exact T
end
def FX(i:Expr):Prop:=∀b f,subscripted i false b f=operate [b,f] (getItem b f)
def Ir{prog:Program}{w:World}{A:Around}{E:Yl}{s:Shared}{env:Env}{value slice:Expr}{pos:Pos}{T id:String}{Q:Yl}(z:typeLookup (.type T) "__getitem__"=pure (some<|.builtin id))(y:FX slice)(h:wpAny (model prog w) A (eval value env) (λo l=>wpAny (model prog w) A (eval slice env) (λi b=>b.TypeIs o T/\wpAny (model prog w) A (getItem o i) Q E b) E l) E s) :
  wpAny (model prog w) A (eval (.Subscript value slice pos) env) Q E s:=by
 refine Subscript_ (WV h (λo l u=>WV u (λi b f=>?_) λ_ _ x=>x) λ_ _ x=>x);obtain⟨v,f⟩:=f;unfold subscriptTail;refine Ww ?_;rw[getitemInPython_of_ne v.not_modules];refine Ww (wpAny_specialOf v z ?_)
 have n:wpAny (model prog w) A (subscripted slice false o i) (λr g=>wpAny (model prog w) A (letTemporaryGo value o r >>= λ_=>pure r) Q E g) E b:=by
  rw[y o i];exact wpAny_operating (WV f (λr g p=>Ww (wpAny_letTemporaryGo<|W1 p)) λ_ _ x=>x)
 first
  |exact W1 (Ww n)
  |exact Ww (W1<|Ww n)
  |exact Ww n
def Ziv{X:Cx}{pins:Yj}{l:St}{H:Hp}{s:Shared}{a:Addr}{y:V}{o:Option V}(I:Inv X pins l H s)(g:DGet H a y o):s.TypeIs (.ref a) "dict":=by
 rcases g with⟨f,k,e,_,_⟩|⟨f,k,b,e,_,_,_⟩
 ·obtain⟨_,_,n,_,h⟩:=B4 I.hok e;exact h.typeIs
 ·obtain⟨_,_,xs,_,h⟩:=Bm I.hok e;exact h.typeIs
noncomputable def Iu(h g:TE):TE:=λb H Q=>h b H λx l=>g b l λy f=>∃a v,x=.ref a/\DGet f a y (some v)/\Q v f
noncomputable def Lz(g h:TE):TE:=λb H Q=>g b H λy l=>h b l λx f=>∃a o,x=.ref a/\DGet f a y o/\Q (.bl (!o.isSome)) f
noncomputable def Hr(l g h:TE):TS:=λD b H=>h b H λv p=>l b p λx o=>g b o λy n=>∃a f,x=.ref a/\DPut n a y v f/\D.nx b f
section
variable {X:Cx}{o i e value:Expr}{pos pos' tpos:Pos}{td ty tv:TE}
def Mj(B:X.A.units+1<cLine)(E:PE X o td)(G:PE X i ty)(C:FX i):PE X (.Subscript o i pos) (Iu td ty):=by
 intro pins s f H Q I h;refine Ir PySem.F.slot_dict_getitem.lookup C (thn (E pins s f H _ I h) ?_);rintro u n ⟨x,T,M,r,z⟩;refine thn (G pins n f T _ M z) ?_;rintro iv s2 ⟨y,N,l,p,a,v,J,g,w⟩;subst J;obtain rfl:u=Value.ref a:=r;exact⟨Ziv l g,Zid B l g p λU Y L b=>⟨v,N,L,b,w⟩⟩
def Ziw(w:X.A.units+1<cLine)(B:PE X i ty)(z:PE X o td):PC X .NotIn i o (Lz ty td):=by
 intro pins s b H Q I h;refine thn (B pins s b H _ I h) ?_;rintro U f ⟨y,M,J,l,r⟩;refine thn (z pins f b M _ J r) ?_;rintro u T ⟨x,L,G,n,a,v,C,g,p⟩;subst C;obtain rfl:u=Value.ref a:=n;exact Zbg w G g l λN E=>⟨.bl (!v.isSome),L,E,rfl,p⟩
def FN(G:X.A.units+1<cLine)(L:PE X o td)(M:PE X i ty)(E:PE X value tv)(J:swapsWith value (some<|.Subscript o i pos') pos.line X.env=pure false) :
  PS X (.Assign [.Subscript o i pos'] value pos) (Hr td ty tv):=by
 intro pins s b H D I h;refine wpAny_Assign_Subscript (thn (E pins s b H _ I h) ?_) J;rintro r l ⟨v,H1,Y,w,C⟩;refine thn (L pins l b H1 _ Y C) ?_;rintro u f ⟨x,H2,U,p,B⟩;refine thn (M pins f b H2 _ U B) ?_;rintro iv s3 ⟨y,H3,T,n,a,H4,N,g,z⟩;subst N;obtain rfl:u=Value.ref a:=p;exact Zln G T g n w λs4 Q=>⟨b,H4,Q,z⟩
end
def Ziu{P:Program}{w:World}{H:Hp}(h:Heap)(b:sysModules<h.objs.size):ObjOk P w H (h.push {cls:=.type "dict",data:=.dict #[]}) h.objs.size (.dK []):=
 ⟨Q6 _,Q8.mpr (Ne.symm<|WM b),[],.nil,Heap.DictOf.new h⟩
def Lx{P:Program}{w:World}{H:Hp}(h:Heap)(b:sysModules<h.objs.size):ObjOk P w H (h.push {cls:=.type "dict",data:=.dict #[]}) h.objs.size (.dT []):=
 ⟨Q6 _,Q8.mpr (Ne.symm<|WM b),[],.nil,_,#[],0,W9 _ rfl,⟨rfl,rfl,rfl⟩,rfl,rfl,Vk⟩
noncomputable def Hh:TE:=λ_ H Q=>∀p,H p=none->Q (.ref p) (upd H p<|.dK [])
noncomputable def DT:TE:=λ_ H Q=>∀p,H p=none->Q (.ref p) (upd H p<|.dT [])
section
variable {X:Cx}{pos:Pos}
def MK:PE X (.Dict [] [] pos) Hh:=λpins s b H Q I h=>
 wpAny_Dict_empty ⟨.ref s.heap.objs.size,_,I.laid (a:=s.heap.objs.size) (o:=.dK []) (t':=s.toks) (λ_ _ q=>W2 _ q) (W5 _) (Ziu s.heap I.big),rfl,h _ (I.hok.fresh<|W5 _)⟩
def Zcx:PE X (.Dict [] [] pos) DT:=λpins s b H Q I h=>
 wpAny_Dict_empty ⟨.ref s.heap.objs.size,_,I.laid (a:=s.heap.objs.size) (o:=.dT []) (t':=s.toks) (λ_ _ q=>W2 _ q) (W5 _) (Lx s.heap I.big),rfl,h _ (I.hok.fresh<|W5 _)⟩
end
def E7:List (TE×TE)->St->Hp->(List (V×V)->Hp->Prop)->Prop
 |[],_,H,Q=>Q [] H
 |(g,f)::r,b,H,Q=>g b H λx o=>f b o λy n=>E7 r b n λh l=>Q ((x,y)::h) l
abbrev VV:List (V×V)->List (Value×Value)->Prop:=Paired λp q=>RelV p.1 q.1/\RelV p.2 q.2
def PPs(X:Cx)(pos:Pos)(keys:List (Option Expr))(values:Yq)(f:List (TE×TE)):Prop:=
 ∀(pins:Yj) (s:Shared) (b:St) (H:Hp) (Q:List (V×V)->Hp->Prop),Inv X pins b H s->E7 f b H Q->
  wpAny (model X.prog X.w) X.A (evalPairs<|pairTrees keys values X.env pos) (λl n=>∃g h,Inv X pins b h n/\VV g l/\Q g h) X.xe s
def Zlm{X:Cx}{pos:Pos}:PPs X pos [] [] []:=λpins s b H Q I h=>pairTrees_nil_walk ⟨[],H,I,.nil,h⟩
def Zbn{X:Cx}{pos:Pos}{k v:Expr}{n:List (Option Expr)}{vs:Yq}{l g:TE}{b:List (TE×TE)}(J:PE X k l)(E:PE X v g)(G:PPs X pos n vs b) :
  PPs X pos (some k::n) (v::vs) ((l,g)::b):=λpins s f H Q I h=>
 pairTrees_cons_walk (thn (J pins s f H _ I h) λu p ⟨x,Y,N,w,B⟩=>thn (E pins p f Y _ N B) λw2 o ⟨y,U,M,r,A⟩=>
  thn (G pins o f U _ M A) λws s3 ⟨C,T,L,rel,z⟩=>⟨(x,y)::C,T,L,.cons ⟨w,r⟩ rel,z⟩)
end L2
set_option genInjectivity false
set_option genSizeOfSpec false
namespace Own
open PySem PySem.Spec PyProof.Rows L2
structure Def (K:Yg) (mg:Yk) (x:Str) (st:Stmt) (ps:Yp):Prop where
 ex:∃f fd,Fun K x x st f fd/\mg x=some (.ref f)/\Binds K fd ps []
structure Callee (P:Program) (w:World) (K:Yg) (mg:Yk) (base:Heap) (CX:CXT) (k:Nat) (x:Str) (ps:Yp) (sp:Sp):Prop where
 ex:∃f fd,Kv P w K mg base CX k f fd ps sp/\mg x=some (.ref f)/\PySem.W.keepIn K (.ref f)=true/\(∃o:Obj,K.lookup f=some o/\o.data=.func fd)/\Binds K fd ps []
section
variable {P:Program}{w:World}{K:Yg}{mg:Yk}{base:Heap}
def Callee.at {st f b k ps sp} (C:Callee P w K mg base CX k x ps sp) (u:mg x=some (.ref f)) (F:Fun K x x st f b) (_:Def K mg x st ps):Kv P w K mg base CX k f b ps sp:=by
 obtain⟨y,l,B,h,_,v,_⟩:=C.ex;obtain⟨oc,r,kV,n,p,A,o,z,g,_,s,_⟩:=F.ex
 grind
def Def.ok {st N ps k sp} (D:Def K mg x st ps) (S:Xk N ps (Xh st)) (len:∀vs H Q E,sp vs H Q E->vs.length=ps.length)
  (g:∀f b A outer s H vs Q E,Xo k (A.deeper<|envOfC x (Xh st) s.heap.objs.size f b)->sp vs H Q E->
   ∃t,PSs (XI CX0 P w K mg base N x (Xh st) f b A outer s H E).nox (XA st) t/\t {nx:=λ_ H'=>Q .non H',rt:=Q} (start N vs) H):Callee P w K mg base CX0 (k+1) x ps sp:=by
 obtain⟨f,r,F,o,p⟩:=D.ex;refine⟨f,r,F.ok S len λb A outer s H vs Q E n h=>g f b A outer s H vs Q E n h,o,F.kp,?_,p⟩;obtain⟨oc,y,kV,u,v,C,b,B,l,_,z,_⟩:=F.ex
 grind
end
section
variable {X:Cx}{CX:CXT}{k:Nat}{ps:Yp}{sp:Sp}{E:XK}{x:Str}{p pos:Pos}{e:Expr}{es:Yq}{t:TA}
def Sm(C:Callee X.prog X.w X.K X.mg X.base CX k x ps sp)(h:Xo k X.A)(hx:KO CX X E)(u:PA X (e::es) t)(o:autoParam (Gl X x) au_0)(g:autoParam ((x==("__debug__" : Str))=false) au_1)(r:autoParam (starEach (e::es) X.env=(false,eval e X.env)::starEach es X.env) au_0)(b:autoParam ((backTo pos<|starEach es X.env).any (·.1)=false) au_0) :
  PE X (.Call (.Name x p) (e::es) [] pos) (Tz sp [] E t):=by
 obtain⟨f,v,F,l,n,_,s⟩:=C.ex;exact Za0 F h o l n s .nil hx u g r b
def R7:Kg X (.builtin "isinstance") (λxs H Q=>∃x n t b,xs=[x,.ty n]/\K7 X.K H x t/\PySem.W.kitOne X.K t (.type n)=some b/\Q (.bl b) H):=by
 intro pins s w H xs y Q I o h;obtain⟨x,n,t,b,rfl,g,e,q⟩:=h;cases o with
 |cons r u=>
  cases u with
  |cons v f=>
   cases f
   obtain rfl:=v;exact Zdi I r g e λl=>⟨.bl b,H,I.tok l,rfl,q⟩
def Za7:IxR X (λx y H Q=>S8 X.K x y H Q\/Bj X.K x y H Q):=ix_list.or Zdl
end
noncomputable def Hs(t u:TS):TS:=λD g H=>∃J:L2.St->Hp->Prop,t {D with nx:=J} g H/\∀b f,J b f->u D b f
def Zcv{st rest t u}(p:PS X st t)(o:PSs X rest u):PSs X (st::rest) (Hs t u):=by
 intro pins s l H D I h;obtain⟨J,h,k⟩:=h;refine wpAny_execs_cons (thn (p pins s l H {D with nx:=J} I h) λf n q=>?_)
 cases f with
 |next=>
  obtain⟨b,g,r,q⟩:=q;exact o pins n b g D r (k b g q)
 |_=>exact q
def MX(K:Yg)(n:String):PySem.W.kitOne K (.type n) (.type n)=some true:=by
 unfold PySem.W.kitOne;simp
def PM{xs i v}(h:atI xs i=some v):atI (xs.map f) i=some (f v):=by
 unfold atI at h ⊢;cases e:ixN xs.length i with
 |_=>grind
def SN{i v}(b:0<=i)(h:xs[i.toNat]?=some v):atI xs i=some v:=by
 have:=CC h
 grind
def XJ(h:H a=none):Same H (upd H a o):=λb u e=>by rw[Xl (Kf e h)];exact e
def Same.upd (S:Same H H') (h:H a=none):Same H (upd H' a o):=λb u e=>by rw[Xl (Kf e h)];exact S b u e
def Same.new (S:Same H H') (h:H' a=none):Same H (L2.upd H' a o):=Own.Same.upd S (S.free h)
def Zd8(names:List (Str×NameKind))(f:∀x∈names,x.2=.free->∃c,env.cells.lookup x.1=some c):∀b,(∀x c,b.lookup x=some c->env.cells.lookup x=some c)->
  ∃g,(forIn names b (λx z=>if (x.2 == .free)=true then(do let c ←cellOf env x.1;pure (ForInStep.yield ((x.1,c)::z)))else pure (ForInStep.yield z)):Sem (Yu))=pure g/\
   (∀x c,g.lookup x=some c->env.cells.lookup x=some c)/\(∀x,(∃c,b.lookup x=some c)->∃c,g.lookup x=some c)/\∀x∈names,x.2=.free->∃c,g.lookup x.1=some c:=by
 induction names with
 |nil=>
  intro b p;exact⟨b,rfl,p,λ_ h=>h,λx hx=>by cases hx⟩
 |cons y r A=>
  intro b p;have l:=A λx hx=>f x (WG _ hx);obtain⟨n,k⟩:=y;by_cases v:k=.free
  ·subst v;obtain⟨c,w⟩:=f (n,.free) WS rfl
   have B:∀x d,List.lookup x ((n,c)::b)=some d->env.cells.lookup x=some d:=λx d e=>by
    rw[Q5]at e;by_cases hx:x=n
    ·subst hx;simp at e;subst e;exact w
    ·have:(x==n)=false:=by simpa using hx
     rw[this]at e;exact p x d e
   obtain⟨g,e,u,p2,s⟩:=l ((n,c)::b) B;refine⟨g,?_,u,λx hx=>p2 x ?_,λx hx o=>?_⟩
   ·rw[List.forIn_cons];have C:cellOf env n=pure c:=by unfold cellOf;rw[w]
    rwa[C]
   ·rw[Q5];cases (x==n)
    ·exact hx
    ·exact⟨c,rfl⟩
   ·rcases WA.mp hx with rfl|hx
    ·exact p2 n ⟨c,by simp[Q5]⟩
    ·exact s x hx o
  ·obtain⟨g,e,u,p2,s⟩:=l b p;refine⟨g,?_,u,p2,λx hx o=>?_⟩
   ·grind
   ·rcases WA.mp hx with rfl|hx
    ·exact absurd o v
    ·exact s x hx o
def Zex{sc}(b:∀x∈sc.names,x.2=.free->∃c,env.cells.lookup x.1=some c) :
  ∃f,closureFor sc env=pure f/\(∀x c,f.lookup x=some c->env.cells.lookup x=some c)/\∀x∈sc.names,x.2=.free->∃c,f.lookup x.1=some c:=by
 obtain⟨f,e,l,_,g⟩:=Zd8 sc.names b [] (λx c h=>by cases h);unfold closureFor
 grind
noncomputable def Ka(X:Cx)(N':Yp)(g:Scope)(h:Yu)(C:Addr)(b:Shared)(f:Hp)(ex:List Addr):Cx:=
 {X with N:=N',s₀:=b,H₀:=f,env:=compEnvC g h C X.env,outer:=X.stack,ex:=ex,fn:=λ_=>false,pn:=[],xe:=λ_ _=>False}
structure NH (X:Cx) (N':Yp) (φ:Ym) (sc:Scope):Prop where
 kind:sc.kind=.function
 okind:X.env.scope.kind=.function
 nocell:∀y∈sc.names,y.2≠.cell
 names:∀y∈sc.names,y.2=.local->sc.names.lookup y.1=some .local
 frees:∀y∈sc.names,y.2=.free->X.env.scope.names.lookup y.1=some .cell
 len:φ.length=N'.length
 pick:∀(i:Nat) (x:Str) (j:Nat),N'[i]?=some x->φ[i]?=some (some j)->X.N[j]?=some x/\sc.names.lookup x=some .free
noncomputable def atStart(φ:Ym)(b:L2.St):L2.St:=φ.map λo=>o.bind λj=>(b[j]?).join
def Sub(f b:L2.St):Prop:=b.length=f.length/\∀(i:Nat) (v:V),f[i]?=some (some v)->b[i]?=some (some v)
def Sub.refl:Sub b b:=⟨rfl,λ_ _ h=>h⟩
def Sub.skip (h:Sub f b):Sub (none::f) (x::b):=by
 refine⟨by simp[h.1],λi v e=>?_⟩;cases i with
 |zero=>grind
 |succ i=>simp at e ⊢;exact h.2 i v e
theorem DZ{env:Env}(o:env.scope.kind=.function):∀{names:List (Str×NameKind)}{x:Str},names.lookup x=some .free->env.scope.names.lookup x=some .cell->
  (names.map λ(n,k)=>if (k==NameKind.free&&env.scope.kind == .function&&env.kindOf n==some .cell)then(n,NameKind.cell)else(n,k)).lookup x=some .cell
 |[],_,h,_=>by simp at h
 |(n,k)::r,x,h,f=>by
  have g:=@DZ env o r x;show List.lookup x ((if (k==NameKind.free&&env.scope.kind == .function&&env.kindOf n==some .cell)=true then(n,NameKind.cell)else(n,k))::_)=_;cases hx:x==n with
  |true=>
   have l:env.kindOf x=some .cell:=f;simp_all
  |false=>
   simp only[Q5,hx]at h;by_cases b:(k==NameKind.free&&env.scope.kind == .function&&env.kindOf n==some .cell)=true
   ·rw[W6 b];simp only[Q5,hx];exact g h f
   ·rw[W3 b];simp only[Q5,hx];exact g h f
theorem F9{env:Env}:∀{names:List (Str×NameKind)}{x}{q:NameKind},
  (names.map λ(n,k)=>if (k==NameKind.free&&env.scope.kind == .function&&env.kindOf n==some .cell)then(n,NameKind.cell)else(n,k)).lookup x=some q->∃k,(x,k)∈names/\(q=k\/k=.free)
 |[],_,_,h=>by simp at h
 |(n,k)::r,x,q,h=>by
  have f:List.lookup x ((if (k==NameKind.free&&env.scope.kind == .function&&env.kindOf n==some .cell)=true then(n,NameKind.cell)else(n,k))::(r.map λ(n,k)=>if (k==NameKind.free&&env.scope.kind == .function&&env.kindOf n==some .cell)then(n,NameKind.cell)else(n,k)))=some q:=h;cases hx:x==n with
  |true=>
   have e:x=n:=by simpa using hx
   subst e;by_cases b:(k==NameKind.free&&env.scope.kind == .function&&env.kindOf x==some .cell)=true
   ·simp_all
   ·simp_all
  |false=>
   have o:List.lookup x (r.map λ(n,k)=>if (k==NameKind.free&&env.scope.kind == .function&&env.kindOf n==some .cell)then(n,NameKind.cell)else(n,k))=some q:=by
    by_cases b:(k==NameKind.free&&env.scope.kind == .function&&env.kindOf n==some .cell)=true
    ·rw[W6 b]at f;simp only[Q5,hx]at f;exact f
    ·rw[W3 b]at f;simp only[Q5,hx]at f;exact f
   obtain⟨g,l,hq⟩:=(@F9 env r x q) o;exact⟨g,WG _ l,hq⟩
def Zjs{J target iter C scope pos M L env}(I:Nat->Shared->Prop)
  (turn:∀n s,I n s->wpAny (model prog w) A (pyNext M) (λr g=>match r with
   |none=>R (.ok .next) g
   |some v=>wpAny (model prog w) A (letOwnedTupleGo target M v) (λ_ f=>wpAny (model prog w) A (assign target env v) (λ_ u=>
     wpAny (model prog w) A (forIn C true λc r=>if r=true then do let ok ←isTrue c env (eval c env);pure (ForInStep.yield ok)else pure (ForInStep.yield r)) (λok b=>
      if ok=true then wpAny (model prog w) A (eval J env) (λx p=>
       wpAny (model prog w) A (call (.builtin "list.append") [L,x]) (λ_ o=>∃m,m<n/\I m o) (λ_ _=>False) p) (λ_ _=>False) b
      else ∃m,m<n/\I m b) (λ_ _=>False) u) (λ_ _=>False) f) (λ_ _=>False) g) (λ_ _=>False) s)
  (n:Nat) (h:I n s) :
  codeAny (model prog w) A (.compLoop (.ListComp J [⟨target,iter,C,0⟩] scope pos) 0 M L env) R s:=by
 refine codeAny_loop rfl I (λn s N=>?_) n h;refine wpAny_noted ?_;rw[compTurn_list];refine Ww (VP<|Ww (WV (turn n s N) (λr g z=>?_) λ_ _ l=>l.elim));cases r with
 |none=>exact W1 z
 |some v=>
  refine Ww (WV z (λ_ f B=>?_) λ_ _ l=>l.elim);refine Ww (WV B (λ_ u H=>Ww (WV H (λok b y=>?_) λ_ _ l=>l.elim)) λ_ _ l=>l.elim);cases ok with
  |false=>exact W1 ⟨rfl,y⟩
  |true=>
   exact Ww (Ww (WV y (λx p G=>Ww (WV G (λ_ o E=>W1 (W1 ⟨rfl,E⟩)) λ_ _ l=>l.elim)) λ_ _ l=>l.elim))
def Na(X:Cx)(f:Yq)(t:TT):Prop:=
 ∀(pins:Yj) (s:Shared) (b:L2.St) (H:Hp) (Q:Bool->Hp->Prop),Inv X pins b H s->t b H Q->
  wpAny (model X.prog X.w) X.A (forIn f true λc r=>if r=true then do let ok ←isTrue c X.env (eval c X.env);pure (ForInStep.yield ok)else pure (ForInStep.yield r)) (TP X pins b Q) X.xe s
noncomputable def IZ:TT:=λ_ H Q=>Q true H
def Tp:Na X [] IZ:=λ_ _ _ H _ I h=>W1 ⟨H,I,h⟩
def Ai(g:PT X c t):Na X [c] t:=by
 intro pins s f H Q I h;rw[List.forIn_cons];refine Ww ?_;exact Ww (thn (g pins s f H Q I h) λb l q=>W1 (W1 q))
noncomputable def SW(φ:Ym)(v:TI)(g:TG)(tc:TT)(te:TE):TE:=λo H Q=>v o H λJ u=>∀D,u D=none->∃W:Nat->Nat->List V->Hp->Prop,(∃m,W 0 m [] (upd u D<|.lst []))/\
 ∀i m h n,W i m h n->(J.stop i n/\Q (.ref D) n)\/(J.go i n/\∀x s,J.yld i n x s->g x (atStart φ o) s λf w=>Sub (atStart φ o) f/\tc f w λb r=>
  if b=true then te f r λy p=>p D=some (.lst h)/\h.length<sizeLine/\∃l,l<m/\W (i+1) l (h++[y]) (upd p D<|.lst (h++[y]))else ∃l,l<m/\W (i+1) l h r)
def Inv.weak {f b:L2.St}{H}{s} (I:Inv X pins b H s) (S:Sub f b):Inv X pins f H s:=
 ⟨I.ok,I.os,I.bare,I.base,let ⟨m,g,h⟩:=I.loc;⟨m,g,λi x v o n l=>h i x v o (S.2 i v n) l⟩,I.cell,I.free,I.freeC,I.pin,I.hok,by rw[←S.1];exact I.len⟩
def EZ{i:Nat}{v}(h:(atStart φ b)[i]?=some (some v)):∃j,φ[i]?=some (some j)/\b[j]?=some (some v):=by
 unfold atStart at h;cases e:φ[i]? with
 |none=>grind
 |some o=>
  cases o with
  |_=>grind
def CompEnd(X:Cx)(pins:Yj)(g:L2.St)(Q:VK)(use:Option (Value->Sem Unit))(h:Yl):Prop:=
 ∀(D C:Addr) (f:Hp) (b:Shared),Q (.ref D) f->Inv X pins g f b->(∃m,b.heap.Ns C m)->f C=none->C≠X.env.locals->X.s₀.heap.objs.size<=C->(∀x c,X.env.cells.lookup x=some c->c≠C)->(∀p∈X.pn++pins,p.1≠C)->C∉X.fs->
  compPost (model X.prog X.w) X.A X.xe use h (.ref D) C (.ok .next) b
def Hc{elt iter tg}{ifs}{pos pos'}{wi}{g}{tc}{te}{use}{QQ}(hcalm:X.calm=true)(S:NH X N' φ G)(hi:PI X tg iter wi)(hin:∀U C s₃ H₃ ex,PG (Ka X N' G U C s₃ H₃ ex) tg g/\Na (Ka X N' G U C s₃ H₃ ex) ifs tc/\PE (Ka X N' G U C s₃ H₃ ex) elt te)(hs:∀x,foldedSetIterable iter X.env x=pure x){pins}{s}{σ:L2.St}{H}{Q}(I:Inv X pins σ H s)(h:SW φ wi g tc te σ H Q)(fin:CompEnd X pins σ Q use QQ) :
  wpAny (model X.prog X.w) X.A (comprehension (.ListComp elt [⟨tg,iter,ifs,0⟩] G pos) G X.env pos' (newList []) false (eval iter X.env) use) QQ X.xe s:=by
 obtain⟨U,hcl,p1,p3⟩:=Zex λx hx hf=>I.ok.has x.1 (.inl<|S.frees x hx hf);refine wpAny_comprehension_free rfl hs hcl S.kind S.names ?_;refine thn (hi pins s σ H _ I h) λv s1 h1=>thn h1 λitv s2 h2=>?_;obtain⟨it,L,tn,J,H2,e,I2,T,st2,f2,hR⟩:=h2;subst e;refine Qk ?_;have hf:=I2.hok.fresh (W5 _);obtain⟨W,⟨m0,w0⟩,turn⟩:=hR s2.heap.objs.size hf;generalize eD:s2.heap.objs.size=D at *
 have I3:Inv X pins σ (upd H2 D<|.lst []) {s2 with heap:=s2.heap.push {cls:=.type "list",dict:=none,data:=.seq ([]:Yo).toArray}}:=
  I2.laid (λb u e=>W2 _ e) (QO eD) ⟨Q6 _,[],0,.nil,by rw[←eD];exact W9 _ rfl⟩
 have st3:tn 0 (s2.heap.push {cls:=.type "list",dict:=none,data:=.seq ([]:Yo).toArray}):=T.keep _ _ _ st2 λb _ o e=>W2 _ e
 have hfpD:∀b∈L,b≠D:=λb f z=>by
  obtain⟨o,ho,_⟩:=T.obj _ _ st2 b f
  have:=W8 ho
  rw[z,←eD]at this;exact Q9 _ this
 have f3:∀b∈L,Ti X pins (upd H2 D<|.lst []) b:=λb f=>⟨by rw[Xl (hfpD b f)];exact(f2 b f).1,(f2 b f).2⟩;generalize es3:({s2 with heap:=s2.heap.push {cls:=.type "list",dict:=none,data:=.seq ([]:Yo).toArray}}:Shared)=l at *
 have st3':tn 0 l.heap:=by rw[←es3];exact st3
 generalize eH3:upd H2 D (.lst [])=H3 at *;refine wpAny_newFunctionEnv S.nocell (by intro y hy;simp at hy) (λh₁ E B=>?_) S.kind;have hh3:l.heap=s2.heap.push {cls:=.type "list",dict:=none,data:=.seq ([]:Yo).toArray}:=by rw[←es3]
 rw[hh3]at E B;rw[←hh3]at E B;have old:=λb o e=>B.extBut b o (WM<|W8 e) (W2 _ e)
 have hC0:l.heap.get? l.heap.objs.size=none:=by
  cases e:l.heap.get? l.heap.objs.size with
  |none=>rfl
  |some o=>exact absurd (W8 e) (Q9 _)
 generalize eC:l.heap.objs.size=C at *;have hH3C:=I3.hok.fresh (QO eC)
 have OK:(Ka X N' G U C l H3 L).Ok:=by
  refine⟨I.ok.mod,?_,I.ok.glob,I.ok.blt,QO eC,λx y c h1 h2=>I.ok.inj x y c (p1 x c h1) (p1 y c h2),?_,(λx c hx=>by cases hx),I.ok.hd,I.ok.frames,.inl rfl,?_,I3.bs,WC I.ok.bsz I3.sz,?_,?_,I3.stack,I3.stkFree⟩
  ·exact S.kind
  ·intro x hx;have hx':=hx.imp F9 F9
   have hfr:(x,NameKind.free)∈G.names:=by
    rcases hx' with⟨k,hm,rfl|rfl⟩|⟨k,hm,rfl|rfl⟩
    ·exact absurd rfl (S.nocell _ hm)
    ·exact hm
    ·exact hm
    ·exact hm
   exact p3 _ hfr rfl
  ·intro b f;refine⟨λz=>?_,λx c hx=>(f3 b f).2.2.2.2.1 x c (p1 x c hx)⟩;obtain⟨o,ho,_⟩:=T.obj _ _ st3' b f;have z':b=C:=z;rw[z',hC0]at ho;cases ho
  ·intro b o f hx;obtain⟨_,_,_,q,_,_⟩:=f3 b hx;rcases q with q|q
   ·exact I.ok.noex b o f q
   ·have:=WR (W8 f) (WC I.ok.bsz q)
    exact Q9 _ this
  ·intro b f hz;rcases WA.mp (I.stkSub b hz)with q|q
   ·exact(f3 b f).2.1 q
   ·exact(f3 b f).2.2.1 q
 have hlen0:(atStart φ σ).length=N'.length:=by unfold atStart;rw[Wx];exact S.len
 have I4:Inv (Ka X N' G U C l H3 L) [] (atStart φ σ) H3 {l with heap:=h₁,toks:=l.toks+([]:List (Str×Value)).length}:=by
  refine⟨OK,rfl,I3.bare,Un.kept old,⟨_,E,λi x v h1 h2 h3=>?_⟩,λx c hx=>?_,hH3C,λx c hx=>I3.freeC x c (p1 x c hx),λp hp=>?_,I3.hok.kept old,hlen0⟩
  ·obtain⟨j,hj,hv⟩:=EZ h2;obtain⟨hN,hfr⟩:=S.pick i x j h1 hj;obtain⟨m,_,hl⟩:=I3.loc;have hm:=QK hfr;have M:=S.frees _ hm rfl;obtain⟨u,ru,lk⟩:=hl j x v hN hv (.inr<|.inl M);refine⟨u,ru,.inr ⟨.inl (DZ S.okind hfr M),?_⟩⟩;obtain⟨c,hc⟩:=p3 _ hm rfl;rcases lk with⟨hk,_⟩|⟨_,c',hc',hcl'⟩
   ·have hk':X.env.scope.names.lookup x=some .local:=hk;rw[M]at hk';cases hk'
   ·have e:=p1 _ _ hc;rw[hc']at e;cases e
    obtain⟨o,ho,hd⟩:=hcl';exact⟨_,hc,o,old _ o ho,hd⟩
  ·obtain⟨v,hv⟩:=I3.cell x c (p1 x c hx);obtain⟨o,ho,hd⟩:=hv;exact⟨v,o,old _ o ho,hd⟩
  ·exact absurd hp (by simp[Ka])
 have st4:=T.keep _ _ _ st3' λb _ o e=>old b o e
 have stat:∀{H':Hp},(∀b∈L,H' b=none)->∀b∈L,Ti (Ka X N' G U C l H3 L) [] H' b:=λhn b f=>
  ⟨hn b f,(OK.exf b f).1,OK.exfs b f,.inl f,(OK.exf b f).2,λp hp=>absurd hp (by simp[Ka])⟩
 obtain⟨hPG,hPI,hPE⟩:=hin U C l H3 L
 have loop:codeAny (model X.prog X.w) X.A (.compLoop (.ListComp elt [⟨tg,iter,ifs,0⟩] G pos) 0 (.ref it) (.ref D)<|compEnvC G U C X.env) (compPost (model X.prog X.w) X.A X.xe use QQ (.ref D) C) {l with heap:=h₁,toks:=l.toks+([]:List (Str×Value)).length}:=by
  refine Zjs (λn s'=>∃i ys σ' H',Inv (Ka X N' G U C l H3 L) [] σ' H' s'/\Sub (atStart φ σ) σ'/\tn i s'.heap/\(∀b∈L,H' b=none)/\W i n ys H') ?_ m0 ⟨0,[],_,_,I4,Sub.refl,st4,λb f=>(f3 b f).1,w0⟩;rintro n s5 ⟨i,ys,σ5,H5,I5,sub5,st5,fr5,w5⟩;have I5':=Own.Inv.weak I5 sub5;rcases turn i n ys H5 w5 with⟨stop,qn⟩|⟨go,step⟩
  ·refine thn (T.done (Ka X N' G U C l H3 L) rfl rfl rfl hcalm i [] s5 _ H5 _ I5' (stat fr5) st5 stop) ?_;rintro r s6 ⟨hr,I6⟩;subst hr;obtain⟨m,hn,_⟩:=I6.loc;obtain⟨hh,gg,dd,tt,oo⟩:=s6;obtain rfl:=I6.os;have R:Inv X pins σ H5 {l with heap:=hh,gens:=gg,drawn:=dd,toks:=tt}:=I3.call I6.base I6.hok I6.bare λb f=>⟨(f3 b f).2.2.2.1,(f3 b f).2.1,(f3 b f).2.2.2.2.1,(f3 b f).2.2.2.2.2⟩
   have hC3:=QO eC;obtain⟨q0,q1,q2,q3,q4,q5⟩:=I3.fpOk hC3 hH3C;refine fin D C H5 _ qn R ⟨m,hn⟩ I6.free q1 (WC I3.sz hC3) q4 q5 q2
  ·refine thn (T.item (Ka X N' G U C l H3 L) rfl rfl rfl hcalm i [] s5 _ H5 _ I5' (stat fr5) st5 go) ?_;rintro r s6 ⟨u,hr,h6⟩;subst hr;refine thn h6 ?_;rintro _ s7 ⟨x,H7,I7,r7,y7,st7,fr7⟩;have I7':=I7.pinned (stat fr7) (T.obj _ _ st7);refine thn (hPG _ s7 _ H7 x u _ I7' r7<|step x H7 y7) ?_;rintro _ s8 ⟨σ8,H8,I8,sub8,q8⟩;refine thn (hPI _ s8 σ8 H8 _ I8 q8) ?_;rintro ok s9 ⟨H9,I9,q9⟩
   have again:∀{Y:Shared} {N:Hp} {ys':List V} {m':Nat},Inv (Ka X N' G U C l H3 L) ([]++SO L s7.heap) σ8 N Y->W (i+1) m' ys' N->∃i ys σ' H',Inv (Ka X N' G U C l H3 L) [] σ' H' Y/\Sub (atStart φ σ) σ'/\tn i Y.heap/\(∀b∈L,H' b=none)/\W i m' ys H':=λ{Y N ys' m'} J10 w10=>by
    refine⟨i+1,ys',σ8,N,J10.unpinned,sub8,T.keep _ _ _ st7 λb f o e=>(J10.pin (b,o)<|WO _<|WO _<|BD f e).1,λb f=>?_,w10⟩;obtain⟨o,e,d⟩:=T.obj _ _ st7 b f;exact(J10.pin (b,o)<|WO _<|WO _<|BD f e).2.1
   cases ok with
   |false=>
    obtain⟨m',hm,w'⟩:=q9;exact⟨m',hm,again I9 w'⟩
   |true=>
    refine thn (hPE _ s9 σ8 H9 _ I9 q9) ?_;rintro xv Y ⟨y,N,I10,r10,hD,hl,m',hm,w'⟩;refine thn (Bh _ Y σ8 N (.ref D) [y] (.ref D) [xv] (λ_ H11=>H11=upd N D (.lst (ys++[y]))) I10 rfl (.cons r10 .nil) ⟨D,ys,y,rfl,rfl,hD,hl,rfl⟩) ?_;rintro _ s11 ⟨_,H11,I11,_,e11⟩;subst e11;exact⟨m',hm,again I11 w'⟩
 refine codeAny_compStart_list loop (T.self _ 0 _ _ _ st4 loop)
def FT{r iter v p pos z g tc te}(n:X.calm=true)(S:NH X N' φ u)(J:PI X v iter z)(w:∀y C f l ex,PG (Ka X N' u y C f l ex) v g/\Na (Ka X N' u y C f l ex) p tc/\PE (Ka X N' u y C f l ex) r te)(B:autoParam (∀x,foldedSetIterable iter X.env x=pure x) au_3):PE X (.ListComp r [⟨v,iter,p,0⟩] u pos) (SW φ z g tc te):=by
 intro pins s σ H Q I h;refine Hc n S J w B I h λD C H5 s6 q R G Y U T N M c5=>?_;obtain⟨m,E⟩:=G;exact⟨m,E,λh' A=>⟨.ref D,H5,R.turned (λb o L e=>A.extBut b o L e) Y U (.inr T) N M,rfl,q⟩⟩
def Zfh{u iter A n pos spos py M g tc te i y}(hN:X.N.Nodup)(hy:X.N[i]?=some y)(Q:X.env.scope.names.lookup y=some .local)(r:X.calm=true)(S:NH X N' φ w)(hi:PI X A iter M)(G:∀L C f l ex,PG (Ka X N' w L C f l ex) A g/\Na (Ka X N' w L C f l ex) n tc/\PE (Ka X N' w L C f l ex) u te)(hs:autoParam (∀x,foldedSetIterable iter X.env x=pure x) au_3)(E:autoParam (swapsWith (.ListComp u [⟨A,iter,n,0⟩] w pos) (some<|.Name y py) spos.line X.env=pure true) au_0) :
  PS X (.Assign [.Name y py] (.ListComp u [⟨A,iter,n,0⟩] w pos) spos) (SE (SW φ M g tc te)<|NN i):=by
 intro pins s Y H D0 I h;rw[exec_Assign_Name_used _ _ _ _ E];refine Ww (VP<|Ww ?_);refine Ww (WV (Hc r S hi G hs I h λD C U s6 q R hm c0 c1 c2 c3 c4 c5=>?_) (λ_ s' z=>W1 (W1 z)) λ_ _ e=>e);obtain⟨m,B,es,ep,hoC,J,rC⟩:=hm
 have R2:Inv X (pins++[(C,B)]) Y U s6:=R.pins_of λp hp=>(WL.mp hp).elim (λz=>R.pin p (WO _ z)) λz=>by
  grind
 refine wpAny_assign_Name (NP R2 hN hy (.inl Q) (v:=.ref D) rfl (λs7 T=>?_)<|.inr Q);refine⟨m,⟨B,es,ep,((T.pin (C,B)<|WO _<|WO _<|Wz.mpr rfl).1),J,rC⟩,λh' sb=>?_⟩;exact⟨_,U,T.unpinned.turned (λb o hb e=>sb.extBut b o hb e) c0 c1 (.inr c2) c3 c4,q⟩
noncomputable def Bg(sc b:Scope)(N N':Yp)(φ:Ym):Bool:=
 sc.kind == .function&&b.kind == .function&&(sc.names.all λy=>y.2 != .cell&&(y.2 != .local || sc.names.lookup y.1==some .local)&&(y.2 != .free || b.names.lookup y.1==some .cell)) &&
  φ.length==N'.length&&((N'.zip φ).all λp=>match p.2 with|none=>true|some j=>N[j]? == some p.1&&sc.names.lookup p.1==some .free)
def NH.of {N'}{φ f} (h:Bg f X.env.scope X.N N' φ=true):NH X N' φ f:=by
 unfold Bg at h;simp only[Qa,beq_iff_eq,Qi,Bool.or_eq_true,bne_iff_ne,ne_eq]at h;obtain⟨⟨⟨⟨u,s⟩,r⟩,p⟩,o⟩:=h;refine⟨u,s,λy b=>(r y b).1.1,λy b v=>?_,λy b w=>?_,p,λi x j n l=>?_⟩
 ·grind
 ·grind
 ·have g:(N'.zip φ)[i]?=some (x,some j):=by rw[List.getElem?_zip_eq_some];exact⟨n,l⟩
  have:=o _ (WT g)
  grind
end Own
namespace SetR
open PySem PySem.Spec PyProof.Rows L2
def Ris(xs:Array Nat):Prop:=∀i j,i<j->j<xs.size->xs.getD i 0<xs.getD j 0
def HY{xs:Array Nat}{i a b}(h:i<xs.size):xs.getD i a=xs.getD i b:=by grind
def Zf8(R:Ris xs)(j:Nat):∀fuel lo f,f-lo<=fuel->lo<=f->f<=xs.size->(∀k,k<lo->xs.getD k 0<j)->(∀k,f<=k->k<xs.size->j<=xs.getD k 0)->
  let r:=SetTable.below.go xs j fuel lo f
  r<=xs.size/\(∀k,k<r->xs.getD k 0<j)/\∀k,r<=k->k<xs.size->j<=xs.getD k 0:=by
 intro fuel
 induction fuel with
 |zero=>
  intro lo f x w n l h;have e:lo=f:=by lia
  subst e;exact⟨n,l,h⟩
 |succ fuel s=>
  intro lo f x w n l h;show(let r:=(if lo<f then(if xs.getD ((lo+f) / 2) j<j then SetTable.below.go xs j fuel ((lo+f) / 2+1) f else SetTable.below.go xs j fuel lo ((lo+f) / 2))else lo);r<=xs.size/\(∀k,k<r->xs.getD k 0<j)/\∀k,r<=k->k<xs.size->j<=xs.getD k 0);by_cases u:lo<f
  ·rw[W6 u];have o:(lo+f) / 2<xs.size:=by lia
   by_cases g:xs.getD ((lo+f) / 2) j<j
   ·rw[W6 g];refine s _ _ (by lia) (by lia) n (λk v=>?_) h;rw[HY o]at g;by_cases e:k=(lo+f) / 2
    ·rw[e];exact g
    ·exact Vj (R k _ (by lia) o) g
   ·rw[W3 g];refine s _ _ (by lia) (by lia) (by lia) l (λk v p=>?_);rw[HY (b:=0) o]at g;by_cases e:k=(lo+f) / 2
    ·rw[e];lia
    ·have:=R _ k (show(lo+f) / 2<k by lia) p
     lia
  ·rw[W3 u];have e:lo=f:=by lia
   subst e;exact⟨n,l,h⟩
def L4(R:Ris xs)(j:Nat):SetTable.below xs j<=xs.size/\(∀k,k<SetTable.below xs j->xs.getD k 0<j)/\∀k,SetTable.below xs j<=k->k<xs.size->j<=xs.getD k 0:=
 Zf8 R j xs.size 0 xs.size (by simp) (by simp) (by simp) (λk b=>by lia) (λk g f=>by lia)
def Rh(R:Ris xs){i}(f:i<=xs.size){slot}(l:∀k,k<i->xs.getD k 0<slot)(g:∀k,i<=k->k<xs.size->slot<=xs.getD k 0):SetTable.below xs slot=i:=by
 obtain⟨a,b,c⟩:=L4 R slot;rcases Nat.lt_trichotomy (SetTable.below xs slot) i with h|h|h
 ·grind
 ·lia
 ·grind
def Rise(xs:Array Nat):Prop:=xs.toList.Pairwise (· < ·)
def Rise.ris (h:Rise xs):Ris xs:=by
 intro i j b f;have g:i<xs.size:=by lia
 have:=(Qv.mp h) i j (by omega) (by omega) b
 simp_all
def Za1(h:Rise xs)(v:xs[SetTable.below xs j]?≠some j):Rise (SetTable.insertAt xs (SetTable.below xs j) j):=by
 obtain⟨a,b,c⟩:=L4 h.ris j;generalize SetTable.below xs j=p at *;unfold Rise;rw[SetTable.toList_insertAt];refine Vp.mpr ⟨h.sublist (VH _ _),List.pairwise_cons.mpr ⟨λy g=>?_,h.sublist (List.drop_sublist _ _)⟩,λx hx y g=>?_⟩
 ·obtain⟨k,l,e⟩:=List.mem_drop_iff_getElem.mp g
  have f:p+k<xs.size:=by
   simp only[Qc]at l;lia
  have z:=c (p+k) (by lia) f;have u:xs.getD (p+k) 0=y:=by simpa [Array.getD,f]using e
  rcases Nat.lt_or_ge j y with s|s
  ·exact s
  ·have ey:y=j:=by lia
   exfalso;rcases Nat.eq_zero_or_pos k with rfl|w
   ·apply v;rw[Qm (by lia)]
    have:xs[p]=y:=by simpa using e
    rw[this,ey]
   ·have B:=h.ris p (p+k) (by lia) f;have A:=c p (W5 _) (by lia);lia
 ·have n:x<j:=by
   obtain⟨k,l,e⟩:=List.mem_take_iff_getElem.mp hx;have r:k<p:=by lia
   have o:k<xs.size:=by lia
   have:=b k r
   have u:xs.getD k 0=x:=by simpa [Array.getD,o]using e
   lia
  rcases WA.mp g with rfl|g
  ·exact n
  ·obtain⟨k,l,e⟩:=List.mem_drop_iff_getElem.mp g
   have f:p+k<xs.size:=by
    simp only[Qc]at l;lia
   have z:=c (p+k) (by lia) f;have u:xs.getD (p+k) 0=y:=by simpa [Array.getD,f]using e
   lia
structure Tb (b:Bool) (t:SetTable):Prop where
 led:t.led=b
 dum:t.dummies=#[]
 ris:Rise t.place
def Ht(j:Nat):SetTable.has #[] j=false:=rfl
def Tb.fresh (b:Bool):Tb b (.fresh 0 0 b):=⟨rfl,rfl,List.Pairwise.nil⟩
def Zjg(n:Nat):Rise (Array.range n):=by
 unfold Rise;rw[Array.toList_range];exact List.pairwise_lt_range
def Tb.stand (h:Tb b t) (n:Nat):Tb b (t.standIn n):=⟨h.led,rfl,Zjg n⟩
def Tb.orStand (h:Tb b t) (n:Nat):Tb b (t.orStandIn n):=by
 unfold SetTable.orStandIn;split
 ·lia
 ·exact h.stand n
def Tb.plainOff (h:Tb b t):Tb b {t with plain:=false}:=⟨h.led,h.dum,h.ris⟩
def Tb.put (h:Tb b t) {j} (f:t.place[SetTable.below t.place j]?≠some j):Tb b (t.put j).1:=by
 refine⟨h.led,?_,Za1 h.ris f⟩;show(if SetTable.has t.dummies j=true then _ else t.dummies)=#[];rw[h.dum,Ht];rfl
def Zay(h:Tb b t)(f:Nat->Int)(z:Int):∀fuel p j d,p.dummy=none->SetTable.probe.go t f z fuel p=some (.empty j d)->d=none/\t.place[SetTable.below t.place j]?≠some j:=by
 intro fuel
 induction fuel with
 |zero=>intro p j d _ e;cases e
 |succ fuel n=>
  intro p j d o e;unfold SetTable.probe.go at e
  have l:∀q,q.dummy=none->(t.advance q).dummy=none:=λq hq=>by
   unfold SetTable.advance;split
   ·exact hq
   ·exact hq
  cases g:t.slot p.j with
  |empty=>
   rw[g]at e;unfold SetTable.slot at g
   grind
  |dummy=>
   unfold SetTable.slot at g
   dsimp only at g
   split at g
   ·cases g
   ·rw[h.dum,Ht]at g;simp at g
  |live i=>
   rw[g]at e
   dsimp only at e
   split at e
   ·cases e
   ·exact n _ j d (l p o) e
def Tb.layNew (h:Tb b t) (es:Yv) (z:Int) (x:Value):Tb b (PySem.layNew t es z x).2.1:=by
 unfold PySem.layNew;split
 ·rename_i slot wasDummy e
  have f:t.place[SetTable.below t.place slot]?≠some slot:=by
   unfold SetTable.freeSlot SetTable.probe at e;split at e
   ·rename_i j dummy g;obtain⟨n,l⟩:=Zay h _ _ _ _ _ _ rfl g
    grind
   ·grind
  exact(h.put f).orStand _
 ·exact h.stand _
def Zje(n:Nat)(f:Nat->Option Nat):((List.range n).filterMap λj=>(f j).map (j,·)).Pairwise (λa b=>a.1<b.1):=by
 refine List.Pairwise.filterMap _ ?_ List.pairwise_lt_range;intro a l h b o r g;cases e:f a with
 |none=>grind
 |some v=>
  cases p:f l with
  |_=>grind
def Tb.relayAll (h:Tb b t) (es:Yv) (n:Nat):Tb b (PySem.relayAll t es n).2.1:=by
 unfold PySem.relayAll;split
 ·rename_i l order e
  dsimp only
  split
  ·unfold SetTable.relaid SetTable.laid at e;cases f:SetTable.layClean (SetTable.sizeAbove n-1) (es.map (·.1))with
   |none=>grind
   |some owner=>
    rw[f]at e;have g:=Qf Prod.fst (WD e);subst g;refine⟨h.led,rfl,?_⟩;show(List.map (λx=>x.fst) ((List.range (SetTable.sizeAbove n-1+1)).filterMap λj=>(owner.getD j none).map (j,·))).toArray.toList.Pairwise (· < ·);rw[List.toList_toArray,List.pairwise_map];exact Zje _ _
  ·exact h.stand _
 ·exact h.stand _
noncomputable def keyOf(e:Int×Value):Int:=match e.2 with
 | .int k _=>k
 |_=>0
def Ent(e:Int×Value):Prop:=∃(k:Int) (t:Tok),e=(hashInt k,.int k t)
section
variable (prog:Program) (w:World)
noncomputable def KW(w:World):Bool:=w.params.followText "set-order"
structure Kd (h:Heap) (a:Addr) (js:Yi) (es:Yv) (ep:Nat) (t:SetTable):Prop where
 obj:∃o,h.get? a=some o/\o.ExactSet/\o.data=.set es ep t
 ent:∀e∈es.toList,Ent e
 per:(es.toList.map keyOf).Perm js
 nod:js.Nodup
 few:es.size<scanBound
 fit:t.fits es.size=true
 tab:Tb (!KW w) t
def SetB(h:Heap)(a:Addr)(b:Yi):Prop:=∃f g t,Kd w h a b f g t
end
section
variable {prog:Program}{w:World}{A:Around}{E:Yl}{s:Shared}
def Ent.elems (h:∀e∈l,Ent e):ElemsOf (intKind prog w) l:=λe b=>by
 obtain⟨k,t,rfl⟩:=h e b;exact⟨⟨k,intKind_is _ _ _ _,rfl⟩,rfl⟩
def IJ(h:Ent e)(k:Int):(intKind prog w).is k e.2=decide (k=keyOf e):=by
 obtain⟨b,t,rfl⟩:=h;show Value.isInt k (.int b t)=decide (k=b);by_cases e:k=b
 ·subst e;simp[Value.isInt]
 ·rw[WH e];simp[Value.isInt];lia
def SetB.len (S:Kd w h a b es f t):es.size=b.length:=by
 have:=S.per.length_eq
 grind
def SetB.at {a l} (S:SetB w h a l) (k:∀o,h.get? a=some o->p.get? a=some o):SetB w p a l:=by
 obtain⟨u,v,t,⟨o,n,r⟩,b,c,d,e,f,g⟩:=S;exact⟨u,v,t,⟨o,k o n,r⟩,b,c,d,e,f,g⟩
def Kd.store {es b}{g t t'} (S:Kd w h a z es g t) (y:∀e∈b.toList,Ent e) (x:(b.toList.map keyOf).Perm f) (v:f.Nodup) (u:b.size<scanBound)
  (r:t'.fits b.size=true) (p:Tb (!KW w) t'):Kd w (h.update a<|Obj.putSet b t') a f b (g+1) t':=by
 obtain⟨o,n,hx,l⟩:=S.obj;refine⟨⟨{o with data:=.set b (g+1) t'},?_,hx,rfl⟩,y,x,v,u,r,p⟩
 have q:=Qj (Obj.putSet b t') n (by rw[putSet_of b t' l];rfl);rwa[putSet_of b t' l]at q
def Ew{g:Bool->Sem Unit}(hg:∀b G N,N () G->wpAny (model prog w) A (g b) N E G){a T h}{es f}{ep t t'}(S:Kd w s.heap a T es ep t)(M:∀e∈f.toList,Ent e)(L:(f.toList.map keyOf).Perm h)(J:h.Nodup)(u:f.size<scanBound)(h5:t'.fits f.size=true)(H:Tb (!KW w) t'){d R}(n:∀v,Heap.SameBut a s.heap v->SetB w v a h->R (some true) {s with heap:=v}) :
  wpAny (model prog w) A (do
    storeSet a f t'
    if (!d&&t'.tooFull)=true then do
      g (relayAll t' f<|SetTable.grown f.size).2.2
      storeSet a (relayAll t' f<|SetTable.grown f.size).1 (relayAll t' f<|SetTable.grown f.size).2.1
      pure (some true)
     else pure (some true)) R E s:=by
 obtain⟨o,Y,hx,hd⟩:=S.obj;have C:=S.store M L J u h5 H;obtain⟨o1,p,U,r⟩:=C.obj;have Q:=Qw s.heap a (Obj.putSet f t');refine Ww (wpAny_storeSet_of Y hd ?_<|VI u);split
 ·have l:=relayAll_perm t' f (SetTable.grown f.size);have x:=relayAll_fits t' f (SetTable.grown f.size);have tt:=H.relayAll f (SetTable.grown f.size);generalize relayAll t' f (SetTable.grown f.size)=y at l x tt ⊢;obtain⟨B,t2,g2⟩:=y
  dsimp only at l x tt ⊢
  have z:B.size=f.size:=by rw[←Qc,l.length_eq,Qc]
  refine Ww (hg _ _ _<|Ww<|wpAny_storeSet_of p r ?_<|VI<|by lia);exact W1 (n _ (Q.trans<|Qw _ a _) ⟨_,_,_,C.store (λe he=>M e (l.mem_iff.mp he)) ((l.map keyOf).trans L) J (by rw[z];exact u) x tt⟩)
 ·exact W1 (n _ Q ⟨_,_,_,C⟩)
noncomputable def Ke(b:Yi)(k:Int):Yi:=if k∈b then b else b++[k]
def RH{R}(S:SetB w s.heap a n)(room:n.length+1<scanBound)(H:∀r g,Heap.SameBut a s.heap g->SetB w g a (Ke n k)->R r {s with heap:=g}) :
  wpAny (model prog w) A (setAddHashed a (.int k u)<|hashInt k) R E s:=by
 obtain⟨l,ep,t,S⟩:=S;obtain⟨o,Y,hx,hd⟩:=S.obj;have el:=Ent.elems (prog:=prog) (w:=w) S.ent;have M:=SetB.len S;refine QH (Ww<|QX Y hd S.fit ?_)
 dsimp only
 rw[byScan_of rfl S.few el];simp only[↓reduceIte];unfold setAddByScan;refine Ww (Ww<|wpAny_rule<|Ww<|wpAny_setScan_of (intKind_is _ _ _ _) Y hd S.fit el ?_);have mem:∀z,z∈n↔∃e∈l.toList,keyOf e=z:=λz=>by rw[←S.per.mem_iff,WQ]
 cases q:List.findIdx? (λe=>(intKind prog w).is k e.2) l.toList with
 |some j=>
  dsimp only
  obtain⟨hj,U,_⟩:=List.findIdx?_eq_some_iff_getElem.mp q
  have L:k∈n:=by
   rw[IJ (S.ent _<|WY hj)]at U;exact(mem k).mpr ⟨_,WY hj,(W7 U).symm⟩
  refine W1 (W1 ?_);have f:=H false s.heap (Heap.SameBut.refl a s.heap);unfold Ke at f;rw[W6 L]at f;exact f ⟨_,_,_,S⟩
 |none=>
  dsimp only
  have L:¬k∈n:=λM=>by
   obtain⟨e,he,N⟩:=(mem k).mp M
   have:=List.findIdx?_eq_none_iff.mp q e he
   rw[IJ (S.ent e he),W4 N.symm]at this;cases this
  have P:=layNew_perm t l (hashInt k) (.int k u);have F:=layNew_fits t l (hashInt k) (.int k u);have T:=S.tab.layNew l (hashInt k) (.int k u);change wpAny (model prog w) A (match layNew t l (hashInt k) (.int k u)with|(l,t,wasDummy,gave)=>_) _ _ _
  generalize layNew t l (hashInt k) (.int k u)=y at P F T ⊢;obtain⟨p,t1,d1,g1⟩:=y
  dsimp only at P F T ⊢
  rw[Array.toList_push]at P
  have e1:∀e∈p.toList,Ent e:=λe he=>by
   rcases WL.mp (P.mem_iff.mp he)with he|he
   ·exact S.ent e he
   ·rw[Wz.mp he];exact⟨k,u,rfl⟩
  have e2:(p.toList.map keyOf).Perm (n++[k]):=by
   refine(P.map keyOf).trans ?_;rw[WU];exact S.per.append_right _
  have e3:(n++[k]).Nodup:=QY.mpr ⟨S.nod,by simp,λx hx y hy=>by rw[Wz.mp hy];rintro rfl;exact L hx⟩
  have e4:p.size<scanBound:=by
   rwa[←Qc,P.length_eq,WE,Qc,M]
  have h:=λg B G=>by
   have f:=H true g B;unfold Ke at f;rw[W3 L]at f;exact f G
  have Q:∀b {C:Shared} {J:Unit->Shared->Prop},J () C->wpAny (model prog w) A (match b with|true=>rule "set.scan.the-table-gave-way" |false=>pure ()) J E C:=λb C J v=>by cases b<;>first|exact W1 v|exact wpAny_rule v
  refine Ww (Q _ ?_);split
  ·refine Ww ?_;rw[hashByValue_scannable 8 rfl];refine W1 (Ew (λb C J v=>Q b v) S e1 e2 e3 e4 ?_ ?_ λg B G=>W1 (h g B G))
   ·split
    ·exact F
    ·exact SetTable.fits_plain_off F
   ·split
    ·exact T
    ·exact T.plainOff
  ·refine Ww (W1 ?_);simp only[↓reduceIte];exact Ew (λb C J v=>Q b v) S e1 e2 e3 e4 F T λg B G=>W1 (h g B G)
def Zep{I H y P St}{ns:Yi}(W:Walks prog w A.in1 I H y ns.length P St)(S:Addr)(G:S∉H)(M:∀i v,P i v->∃t,v=.int (ns.getD i 0) t)(room:ns.length+1<scanBound):∀k i s n,ns.length-i=k->i<=ns.length->St i s.heap->SetB w s.heap S n->n.length<=i->
   (∀h p,(∀b o,b∉S::y->s.heap.get? b=some o->h.get? b=some o)->SetB w h S ((ns.drop i).foldl Ke n)->R (.ok<|.ret .none) {s with heap:=h,toks:=p})->
   codeAny (model prog w) A (.builtin "set.update.loop" ⟨[.ref S,.ref I],[]⟩) R s:=by
 have u:=λz=>G (W.sub _ z);intro k
 induction k with
 |zero=>
  intro i s n N T st B Q l;have ei:i=ns.length:=by lia
  refine QU V2 ?_;show wpAny _ A.in1 (pyNext (.ref I) >>= _) _ _ s;refine Ww (W.done s _ _ (ei▸st) λh p keep=>?_);show wpAny _ A.in1 (ret Value.none) _ _ _;refine W1 (l h p (λb o g e=>keep b o (λz=>g (WG _ z)) e) ?_);rw[ei,List.drop_length];exact B.at λo e=>keep S o u e
 |succ k L=>
  intro i s n N T st B Q l;have f:i<ns.length:=by lia
  refine QU V2 ?_;rw[Vq V3 _];show wpAny _ A.in1 (pyNext (.ref I) >>= _) _ _ s;refine Ww (W.item i s _ _ f st λv U J pv x keep1=>?_);obtain⟨t,rfl⟩:=M i v pv;have B1:=B.at λo e=>keep1 S o u e;unfold setAdd;refine Ww (QH<|QH<|Ww ((intKind prog w).pyHash (intKind_is _ _ _ _) ?_));refine RH B1 (by lia) λr h2 C B2=>?_
  have Y:(Ke n<|ns.getD i 0).length<=i+1:=by
   unfold Ke;split
   ·lia
   ·simp;lia
  refine W1 ⟨plainId_quiet V3 _,L (i+1) _ _ (by lia) f (W.frame _ U _ x λb g o e=>?_) B2 Y λh p keep B'=>?_⟩
  ·rw[C.2 b (λz=>G (by rw[←z];exact g))];exact e
  ·refine l h p (λb o g e=>keep b o g ?_) ?_
   ·rw[C.2 b (λz=>g (by rw[z];exact WS))];exact keep1 b o (λz=>g (WG _ z)) e
   ·have e1:ns.drop i=ns.getD i 0::ns.drop (i+1):=by
     rw[Vy f,WJ,Wy f];rfl
    rwa[e1]
def O4(a:Value){Q}(b:Q (.ref s.heap.objs.size) {s with heap:=s.heap.push {cls:=.type "set",dict:=none,data:=.set #[] 0 (.fresh 0 0 (!KW w))}}) :
  codeAny (model prog w) A (.call (.builtin "set.__new__") ⟨[.type "set",a],[]⟩) (wants Q E) s:=by
 refine codeAny_of_tree (?_);refine Ww (wpAny_of_eq (F.newCall_set_1 a)<|W1 ⟨plainId_quiet F.plain_set_new _,QU F.entry_set_new ?_⟩);rw[(Vq (A:=A) F.plain_set_new ⟨[.type "set",a],[]⟩)];unfold Builtin.«set.__new__» Builtin.Frozenset.newClass;have f:=sub_set_self
 dsimp only
 wp_walk
 refine wpAny_askSetting (W1<|?_)
 dsimp only
 simp only[newObj];exact Ww (wpAny_alloc<|W1<|W1 b)
set_option maxHeartbeats 4000000 in
def Zax{l:Addr}{f:Array Value}{ns:Yi}{Q:Yl}(hh:A.handled=none)(hl:s.heap.IsList l f)(hi:IntsAre f.toList ns)(room:ns.length+1<scanBound)(U:∀(h:Heap) (u:Nat),SetB w h s.heap.objs.size (ns.foldl Ke [])->(∀b o,b<s.heap.objs.size->s.heap.get? b=some o->h.get? b=some o)->Q (.ref s.heap.objs.size) {s with heap:=h,toks:=u}) :
  wpAny (model prog w) A (call (.type "set") [.ref l]) Q E s:=by
 have hn:f.size=ns.length:=by have:=IntsAre.length hi;simpa using this
 obtain⟨mroC,mroT,mro⟩:=F.called_set.mro;have made:=F.called_set.made;have subs:=F.called_set.sub;refine Je (codeAny_of_tree<|show wpAny _ _ (callAny (.type "set") _) _ _ _ from ?_)
 refine W1 ⟨V4 _ (by decide +kernel),QU F.entry_type_call ?_⟩;have wt:=Around.under_plain (A:=A) (weight_type_call_type "set" [.ref l] []) rfl;rw[wt];have nt:=F.called_set.notType;have cc:=F.called_set.canCreate;have tc:=F.typeCall_set_1 (.ref l)
 repeat (any_goals (first|assumption|wp_step))
 refine QP (O4 (.ref l) (E:=E) (Q:=λobj s1=>obj=.ref s.heap.objs.size/\s1={s with heap:=s.heap.push {cls:=.type "set",dict:=none,data:=.set #[] 0 (.fresh 0 0 (!KW w))}}) ⟨rfl,rfl⟩) λr s1 y=>?_
 cases r with
 |error e=>exact y
 |ok fl=>
  cases fl with
  |next=>exact y.elim
  |brk=>exact y.elim
  |cont=>exact y.elim
  |ret obj=>
   obtain⟨rfl,rfl⟩:=y;generalize J:s.heap.push {cls:=.type "set",dict:=none,data:=.set #[] 0 (.fresh 0 0 (!KW w))}=n;have g1:n.get? s.heap.objs.size=some {cls:=.type "set",dict:=none,data:=.set #[] 0 (.fresh 0 0 (!KW w))}:=by rw[←J];exact W9 _ rfl
   have hT:Shared.TypeIs {s with heap:=n} (.ref s.heap.objs.size) "set":=⟨_,g1,rfl⟩
   have ini:=F.called_set.init.lookup;have inb:=F.called_set.init.bind (.ref s.heap.objs.size)
   repeat (any_goals (first|assumption|wp_step))
   refine QP (Vr (R:=wants (λr Y=>r=.none/\∃h u,Y={s with heap:=h,toks:=u}/\SetB w h s.heap.objs.size (ns.foldl Ke [])/\(∀b o,b<s.heap.objs.size->s.heap.get? b=some o->h.get? b=some o)) E)
    F.called_set.init.plain F.entry_set_init (check_set_init_1 hT ?_)) λr2 Y g=>?_
   ·obtain⟨ob,C,H,nl,G⟩:=hl;obtain⟨c1,d1,dt1,L⟩:=ob;simp only at H G;subst H;subst G;have z:n.get? l=some {cls:=.type "list",dict:=d1,data:=.seq f nl,slots:=L}:=by rw[←J];exact W2 _ C
    have p:n.objs.size=s.heap.objs.size+1:=by rw[←J,Vi]
    have no1:=F.sub_list_set;have no2:=F.sub_list_frozenset;have no3:(Value.type "list" == Value.type "dict")=false:=by decide
    have L1:n.IsList l f:=⟨_,z,rfl,nl,rfl⟩;unfold Builtin.«set.__init__» noKeywords Builtin.Frozenset.updateFrom;generalize eP:pyIter=PI
    wp_walk
    subst eP;refine VG L1 (Ww<|wpAny_runValue ?_);have x:l<s.heap.objs.size:=W8 C;have T:A.in1.in1.in1.handled=none:=by simp[hh]
    have N:l≠n.objs.size:=by rw[p];exact WM (VJ x)
    have M:s.heap.objs.size∉[n.objs.size,l]:=by
     rw[p];simp only[WA,QA,or_false,not_or];exact⟨WM (VQ _),Jz x⟩
    have W0:=Walks.list (prog:=prog) (w:=w) T n.objs.size l N f;rw[hn]at W0;refine Zep (ns:=ns) W0 s.heap.objs.size M (λi v hv=>IntsAre.int_at hi i v (by rw[Q4];exact hv)) room (ns.length-0) 0 _ [] rfl (Q6 _) ⟨⟨_,W9 _ rfl,rfl,rfl⟩,L1.push _⟩ ?_ (Q6 _) λh u keep B=>?_
    ·exact⟨#[],0,_,⟨_,W2 _ g1,⟨rfl,rfl,rfl⟩,rfl⟩,λe he=>by simp at he,by simp,Vk,by show(0:Nat)<4096;decide,rfl,Tb.fresh _⟩
    ·show wpAny _ _ _ _ _ _;refine W1 (show wpAny _ _ (ret Value.none) _ _ _ from W1 ⟨rfl,h,u,rfl,B,λb o hb e=>?_⟩)
     refine keep b o ?_ (W2 _<|by rw[←J];exact W2 _ e);rw[p];simp only[WA,QA,or_false,not_or];exact⟨WM hb,WM (VJ hb)⟩
   ·cases r2 with
    |error e=>exact g
    |ok f2=>
     cases f2 with
     |next=>exact g.elim
     |brk=>exact g.elim
     |cont=>exact g.elim
     |ret r=>
      obtain⟨rfl,h,u,rfl,B,keep⟩:=g
      repeat (any_goals (first|assumption|wp_step))
      exact U _ _ B keep
end
def si_slot:Slot "set_iterator" "__next__" "set_iterator.__next__":=
 Slot.of (owner:="set_iterator") (n:="__next__") (by rw[typeLookup_type,builtinLookup_eq_fast];kernel_rfl) (by decide +kernel) (by decide +kernel) (by decide +kernel)
  (by first|exact Or.inl (by decide +kernel)|exact Or.inr (by decide +kernel)) (by rw[isSubtype_type];kernel_rfl)
def Ze5:entryFor table "set_iterator.__next__"=some Builtin.«set_iterator.__next__»:=entryFor_of_tree rfl
def Ou(a:Value):argsOk "set_iterator.__next__" ⟨[a],[]⟩:=by trivial
def Zd5:entryFor table "set.__iter__"=some Builtin.«frozenset.__iter__»:=entryFor_alias (id':="frozenset.__iter__") (by kernel_rfl) rfl (by decide +kernel) (by kernel_rfl)
def DY:Slot "set_iterator" "__iter__" "set_iterator.__iter__":=
 Slot.of (owner:="set_iterator") (n:="__iter__") (by rw[typeLookup_type,builtinLookup_eq_fast];kernel_rfl) (by decide +kernel) (by decide +kernel) (by decide +kernel)
  (by first|exact Or.inl (by decide +kernel)|exact Or.inr (by decide +kernel)) (by rw[isSubtype_type];kernel_rfl)
def R5:entryFor table "set_iterator.__iter__"=some Builtin.«dict_keyiterator.__iter__»:=entryFor_alias (id':="dict_keyiterator.__iter__") (by kernel_rfl) rfl (by decide +kernel) (by kernel_rfl)
def Zcp(a:Value):argsOk "set_iterator.__iter__" ⟨[a],[]⟩:=by unfold argsOk;kernel_rfl
def SI(h:Heap)(I a:Addr)(first:Value)(i n b:Nat):Prop:=∃o,h.get? I=some o/\o.cls=.type "set_iterator"/\o.data=.fields #[first,.int i 0,.ref a,.int n 0,.int b 0]
section
variable {prog:Program}{w:World}{A:Around}{E:Yl}{s:Shared}{I a:Addr}{first:Value}{i n ep:Nat}{js:Yi}{es:Yv}{t:SetTable}
def SI.typ (h:SI s.heap I a first i n ep):s.TypeIs (.ref I) "set_iterator":=let ⟨o,b,f,_⟩:=h;⟨o,b,f⟩
def SI.at (x:SI h I a first i n ep) (k:∀o,h.get? I=some o->f.get? I=some o):SI f I a first i n ep:=let ⟨o,b,r⟩:=x;⟨o,k o b,r⟩
noncomputable def Sk(first:Value)(a I:Addr)(i ep:Int):Sem PySem.Fin:=
 match first with
 |Value.int slot _=>do
  match ←setNext a slot.toNat i.toNat ep.toNat with
  |some (x,next)=>
   setField (.ref I) 0 (rawInt next)
   setField (.ref I) 1 (rawInt (i+1))
   ret x
  |none=>
   setField (.ref I) 2 .none
   raiseNew (←newExc (.type "StopIteration") [])
 |_=>do
  let some places ←seqItems? first|unsupported "internal:set_iterator"
  match places[i.toNat]? with
  |some (.int place _)=>
   let x ←setNextDrawn a place.toNat ep.toNat
   setField (.ref I) 1 (rawInt (i+1))
   ret x
  |some _=>unsupported "internal:set_iterator"
  |none=>
   setField (.ref I) 0 (rawInt 0)
   setField (.ref I) 2 .none
   raiseNew (←newExc (.type "StopIteration") [])
def BC(f:SI s.heap I a first i es.size ep)(S:Kd w s.heap a js es ep t)
  (body:wpAny (model prog w) A.in1 (Sk first a I i ep) (λp l=>∃v,p=.done (.ret v)/\Q (some v) l)
   (λe l=>wpAny (model prog w) A (isInstance e<|.type "StopIteration") (λb g=>b=true/\Q none g) E l) s) :
  wpAny (model prog w) A (pyNext<|.ref I) Q E s:=by
 obtain⟨o,x,G,y⟩:=id f;obtain⟨C,r,hx,u⟩:=S.obj;refine Ww (wpAny_attempt<|VD f.typ si_slot<|QL si_slot f.typ Ze5 ?_<|Ou _);refine Ww (W1<|Ww<|wpAny_fieldsOf x y ?_);refine Ww (wpAny_setEntries_of r u S.fit ?_);rw[W3 (by simp)];refine WV body (λp l h=>?_) λe l h=>?_
 ·obtain⟨v,e,q⟩:=h;exact⟨v,e,W1 q⟩
 ·refine Ww (WV h (λb g B=>?_) λ_ _ z=>z);obtain⟨rfl,q⟩:=B;exact W1 q
def LW{Q:Ys->Shared->Prop}{o}{vs}(r:A.handled=none)(p:s.heap.get? I=some o)(u:o.data=.fields vs)(v:2<vs.size)(g:∀h,Heap.ExtBut I s.heap h->Q none {s with heap:=h}){R:PySem.Fin->Shared->Prop} :
  wpAny (model prog w) A.in1 (do setField (.ref I) 2 .none;raiseNew (←newExc (.type "StopIteration") [])) R (λe l=>wpAny (model prog w) A (isInstance e<|.type "StopIteration") (λb f=>b=true/\Q none f) E l) s:=by
 refine Ww (QC p u v<|Ww ?_);refine Ww (Qk ?_<|by size_fits);refine Ww (wpAny_of_eq (by first|rfl|(simp only[firstArgMember];rfl))<|Qk ?_<|by size_fits)
 simp only[raiseNew];refine Ww (wpAny_handled ?_);rw[r];refine Ww (W1<|wpAny_throw ?_);refine wpAny_isInstance ⟨_,W9 _ rfl,rfl⟩ isSubtype_stop ?_;exact⟨rfl,g _ (((Qw ..).extBut.push _).push _)⟩
def SI.step1 {x:Value} (f:s.heap.get? I=some o) (g:o.cls=.type "set_iterator") (b:o.data=.fields #[first,.int i 0,.ref a,.int n 0,.int ep 0]) :
  SI (s.heap.update I<|Obj.mapFields (·.setIfInBounds 1 (rawInt ((i:Int)+1)))) I a first (i+1) n ep:=
 ⟨_,Qj _ f (QD<|Qs b _),(VL ..).trans g,by rw[Qs b];simp[rawInt]⟩
def BN(h:Q (KW w) s):wpAny (model prog w) A setsByText Q E s:=Ww (wpAny_askSetting<|W1 h)
def MN(S:Kd w s.heap a js es ep t)(g:KW w=true)(h:Q (((pickOrder (w.params.setOrder a ep) es)[i]?).map λe=>(e.2,slot)) s) :
  wpAny (model prog w) A (setNext a slot i ep) Q E s:=by
 obtain⟨l,b,hx,f⟩:=S.obj;refine Ww (QX b f S.fit<|Ww<|BN ?_);rw[g,W6 rfl,W3 (by simp)];refine Ww ?_;refine Ww (QX b f S.fit<|Ww<|BN ?_);rw[g,W6 rfl];exact Ww (wpAny_askSetting<|W1<|W1 h)
def Zdd(S:Kd w s.heap a js es ep t)(g:KW w=false)(l:(!t.plain&&decide (es.size>1))=false)(h:Q (match es[SetTable.below t.place slot]?,t.place[SetTable.below t.place slot]? with|some (_,x),some j=>some (x,j+1)|_,_=>none) s):wpAny (model prog w) A (setNext a slot i ep) Q E s:=by
 obtain⟨p,b,hx,f⟩:=S.obj;refine Ww (QX b f S.fit<|Ww<|BN ?_);rw[g,W3 (by decide)];show wpAny _ _ (if (!t.plain&&decide (es.size>1))=true then _ else _) _ _ _;rw[l,W3 (by decide)];refine Ww (?_:wpAny _ _ (if (!t.led && !es.isEmpty)=true then unsupported "set:maker-not-led" else pure ()) _ _ _);have o:t.led=true:=by rw[S.tab.led,g];rfl
 rw[o,W3 (by simp)];exact W1 (W1 h)
def MZ{p e}(S:Kd w s.heap a js es ep t)(g:es[p]?=some e)(h:Q e.2 s):wpAny (model prog w) A (setNextDrawn a p ep) Q E s:=by
 obtain⟨l,b,hx,f⟩:=S.obj;refine Ww (QX b f S.fit ?_)
 dsimp only
 rw[W3 (by simp),g];exact W1 h
def Zdb{m}(b:m≠0)(h:∀k d,k<m->Q k {s with drawn:=d}):wpAny (model prog w) A (choose f m) Q E s:=by
 intro Γ p g;exact⟨b,h _ _ (Nat.mod_lt _<|Nat.pos_of_ne_zero b)⟩
theorem AN{b:Type}:∀(xs:List b) k h,(xs[k]::xs.eraseIdx k).Perm xs
 |x::r,0,_=>List.Perm.refl _
 |x::r,k+1,h=>by
  have f:k<r.length:=by grind
  exact(List.Perm.swap _ _ _).trans (List.Perm.cons _<|AN r k f)
def Zb2:∀m xs s {Q:List u->Shared->Prop},xs.length=m->(∀b d,b.Perm xs->Q b {s with drawn:=d})->wpAny (model prog w) A (drawOrder m xs) Q E s:=by
 intro m
 induction m with
 |zero=>
  intro xs s Q f h;have e:=VE.mp f;subst e;exact W1 (h [] s.drawn<|List.Perm.refl _)
 |succ m l=>
  intro xs s Q f h;cases xs with
  |nil=>grind
  |cons x r=>
   unfold drawOrder;refine Ww (Zdb (by simp) λk d g=>?_);rw[Wy g];refine Ww (l _ _ (by grind) λb p o=>W1 ?_);exact h _ p ((List.Perm.cons _ o).trans (AN _ _ g))
def Kd.keep (S:Kd w h a js es ep t) (k:∀o,h.get? a=some o->p.get? a=some o):Kd w p a js es ep t:=by
 obtain⟨⟨o,l,r⟩,b,c,d,e,f,g⟩:=S;exact⟨⟨o,k o l,r⟩,b,c,d,e,f,g⟩
def Gg(b:SI s.heap I a first i n ep)(h:Q (.ref I) s):wpAny (model prog w) A (pyIter<|.ref I) Q E s:=by
 refine wpAny_pyIter_slot b.typ DY (QL DY b.typ R5 ?_<|Zcp _);exact W1 ⟨_,rfl, "set_iterator",_,b.typ,si_slot.lookup,h⟩
def EB(hh:A.handled=none)(I a:Addr)(hne:a≠I)(vs:Yo)(hl:vs.length=es.size)(sl:Nat->Nat)(nx:∀A E s i Q,i<=es.size->Kd w s.heap a js es ep t->Q ((vs[i]?).map λv=>(v,sl (i+1))) s->wpAny (model prog w) A (setNext a (sl i) i ep) Q E s) :
  Walks prog w A I [I,a] [I] es.size (λi v=>vs[i]?=some v) (λi h=>SI h I a (.int (sl i) 0) i es.size ep/\Kd w h a js es ep t) where
 sub:=λb hb=>by simp at hb;simp[hb]
 frame:=λ_ _ _ st k=>⟨st.1.at λo e=>k I (by simp) o e,st.2.keep λo e=>k a (by simp) o e⟩
 item:=λi s Q E hi st fin=>by
  obtain⟨o,ho,hc,hd⟩:=id st.1;refine BC st.1 st.2 ?_;unfold Sk
  dsimp only
  rw[Ql,Ql,Ql];refine Ww (nx _ _ s i _ (Vz hi) st.2 ?_);have hi2:i<vs.length:=by lia
  rw[Wy hi2];refine Ww (QC ho hd (by simp) ?_);have g1:=Qj (Obj.mapFields (·.setIfInBounds 0 (rawInt (sl (i+1):Int)))) ho (QD<|Qs hd _);have d1:(Obj.mapFields (·.setIfInBounds 0 (rawInt (sl (i+1):Int))) o).data=.fields #[.int (sl (i+1)) 0,.int i 0,.ref a,.int es.size 0,.int ep 0]:=by rw[Qs hd];simp[rawInt]
  refine Ww (QC g1 d1 (by simp) ?_);have sb:=(Qw s.heap I<|Obj.mapFields (·.setIfInBounds 0 (rawInt (sl (i+1):Int)))).trans (Qw _ I<|Obj.mapFields (·.setIfInBounds 1 (rawInt ((i:Int)+1))));refine W1 ⟨_,rfl,fin vs[i] _ s.toks (Wy hi2) ⟨?_,st.2.keep λo e=>sb.extBut a o hne e⟩ λb o hb e=>sb.extBut b o (λz=>hb (by simp[z])) e⟩;exact SI.step1 (x:=.none) g1 ((VL ..).trans hc) d1
 done:=λs Q E st fin=>by
  obtain⟨o,ho,hc,hd⟩:=id st.1;refine BC st.1 st.2 ?_;unfold Sk
  dsimp only
  rw[Ql,Ql,Ql];refine Ww (nx _ _ s es.size _ (W5 _) st.2 ?_);rw[Vl (by lia)];exact LW hh ho hd (by simp) λh' eb=>fin h' s.toks λb o hb e=>eb b o (λz=>hb (by simp[z])) e
 self:=λ_ _ _ _ st fin=>Gg st.1 fin
def Zaf(hh:A.handled=none)(I a T:Addr)(hne:a≠I)(hT:T≠I)(ps:Yn)(hl:ps.length=es.size)(hps:∀p∈ps,p<es.size)(vs:Yo)(hvs:vs=ps.map λp=>((es[p]?).map (·.2)).getD .none) :
  Walks prog w A I [I,a,T] [I] es.size (λi v=>vs[i]?=some v) (λi h=>SI h I a (.ref T) i es.size ep/\Kd w h a js es ep t/\∃o,h.get? T=some o/\∃c,o.data=.seq (ps.map λ(p:Nat)=>rawInt p).toArray c) where
 sub:=λb hb=>by simp at hb;simp[hb]
 frame:=λ_ _ _ st k=>⟨st.1.at λo e=>k I (by simp) o e,st.2.1.keep λo e=>k a (by simp) o e,let ⟨o,ho,c⟩:=st.2.2;⟨o,k T (by simp) o ho,c⟩⟩
 item:=λi s Q E hi st fin=>by
  obtain⟨o,ho,hc,hd⟩:=id st.1;obtain⟨oT,hoT,c,hdT⟩:=st.2.2;refine BC st.1 st.2.1 ?_;unfold Sk
  dsimp only
  refine Ww (wpAny_seqItems hoT hdT ?_);have hi2:i<ps.length:=by lia
  have e1:(ps.map λ(p:Nat)=>rawInt p).toArray[(i:Int).toNat]?=some (.int ps[i] 0):=by
   rw[Ql,List.getElem?_toArray,WB,Wy hi2];rfl
  have hp:=hps _ (WY hi2)
  dsimp only
  rw[e1]
  dsimp only
  have e3:vs[i]?=some (es[ps[i]]).2:=by rw[hvs,WB,Wy hi2];simp[hp]
  refine Ww (MZ st.2.1 (Qm hp)<|Ww<|QC ho hd (by simp) ?_);have sb:=Qw s.heap I (Obj.mapFields (·.setIfInBounds 1 (rawInt ((i:Int)+1))));exact W1 ⟨_,rfl,fin _ _ s.toks e3 ⟨SI.step1 (x:=.none) ho hc hd,st.2.1.keep λo e=>sb.extBut a o hne e,oT,sb.extBut T oT hT hoT,c,hdT⟩ λb o hb e=>sb.extBut b o (λz=>hb (by simp[z])) e⟩
 done:=λs Q E st fin=>by
  obtain⟨o,ho,hc,hd⟩:=id st.1;obtain⟨oT,hoT,c,hdT⟩:=st.2.2;refine BC st.1 st.2.1 ?_;unfold Sk
  dsimp only
  refine Ww (wpAny_seqItems hoT hdT ?_)
  have e1:(ps.map λ(p:Nat)=>rawInt p).toArray[(es.size:Int).toNat]?=none:=by
   rw[Ql,List.getElem?_toArray,WB,Vl (by lia)];rfl
  dsimp only
  rw[e1]
  dsimp only
  refine Ww (QC ho hd (by simp) ?_);refine LW (s:={s with heap:=_}) hh (Qj (Obj.mapFields (·.setIfInBounds 0 (rawInt 0))) ho<|QD<|Qs hd _) (Qs hd _) (by simp) λh' eb=>fin h' s.toks λb o hb e=>eb b o (λz=>hb (by simp[z])) ((Qw s.heap I<|Obj.mapFields (·.setIfInBounds 0 (rawInt 0))).extBut b o (λz=>hb (by simp[z])) e)
 self:=λ_ _ _ _ st fin=>Gg st.1 fin
def Zao(nx:Nat->Nat):∀m k left (b:Array l),left.length=m->(pickOrder.go nx m k left b).toList.Perm (b.toList++left):=by
 intro m
 induction m with
 |zero=>
  intro k left b g;have e:=VE.mp g;subst e;show b.toList.Perm (b.toList++[]);simp
 |succ m h=>
  intro k left b g;have f:nx k % left.length<left.length:=Nat.mod_lt _ (by lia);unfold pickOrder.go;rw[Wy f];refine(h _ _ _<|by grind).trans ?_;rw[Array.toList_push,Jx];exact(AN left _ f).append_left _
def G9(nx:Nat->Nat)(xs:Array b):(pickOrder nx xs).toList.Perm xs.toList:=by
 have:=Zao nx xs.size 0 xs.toList #[] rfl
 simpa [pickOrder]using this
noncomputable def slotAt(t:SetTable)(i:Nat):Nat:=if i=0 then 0 else t.place.getD (i-1) 0+1
def Eh(h:t.fits m=true):t.place.size=m:=by
 simp only[SetTable.fits,Qa,beq_iff_eq]at h
 grind
def Zbk(S:Kd w s.heap a js es ep t){i}(l:i<=es.size):SetTable.below t.place (slotAt t i)=i:=by
 have g:=Eh S.fit;have R:=S.tab.ris.ris;refine Rh R (by lia) (λk h=>?_) λk o b=>?_
 ·unfold slotAt;rw[W3 (by lia)];by_cases e:k=i-1
  ·rw[e];lia
  ·have:=R k (i-1) (by lia) (by lia)
   lia
 ·unfold slotAt;by_cases f:i=0
  ·grind
  ·rw[W3 f]
   have:=R (i-1) k (by lia) b
   lia
def Zdw{A'}(M:A'.handled=none)(S:Kd w s.heap a js es ep t)
  (l:∀I fp (vs:Yo) St N d1,Walks prog w A' I fp [I] es.size (λi v=>vs[i]?=some v) St->St 0 N->(∀b∈fp,b=a\/s.heap.get? b=none)->vs.length=es.size->vs.Perm (es.toList.map (·.2))->
   s.heap.get? I=none->(∀b o,s.heap.get? b=some o->N.get? b=some o)->Q (.ref I) {s with heap:=N,drawn:=d1}) :
  wpAny (model prog w) A (pyIter<|.ref a) Q E s:=by
 obtain⟨ob,g,hx,h⟩:=S.obj;have hT:s.TypeIs (.ref a) "set":=⟨ob,g,hx.1⟩;have ha:=W8 g
 have new:∀b,s.heap.objs.size<=b->s.heap.get? b=none:=λb f=>by
  cases e:s.heap.get? b with
  |none=>rfl
  |some o=>exact absurd (W8 e) (V9.mpr f)
 refine wpAny_pyIter_slot hT F.slot_set_iter (QL F.slot_set_iter hT Zd5 ?_<|F.args_set_iter_1 _);unfold Builtin.«frozenset.__iter__»;show wpAny _ _ (Builtin.Frozenset.sizeOf a >>= _) _ _ s;unfold Builtin.Frozenset.sizeOf;refine Ww (Ww<|wpAny_setEntries_of g h S.fit<|W1 ?_);refine Ww ?_;unfold setDrawn;refine Ww (QX g h S.fit<|Ww<|BN<|W1 ?_)
 dsimp only
 change wpAny _ _ (if (!KW w&&(!t.plain&&decide (es.size>1)))=true then _ else _) _ _ _;cases hd:(!KW w&&(!t.plain&&decide (es.size>1)))with
 |false=>
  rw[W3 (by decide)];refine Ww (W1<|Ww<|wpAny_setEpoch_of g h S.fit<|Ww<|Qk<|W1 ⟨_,rfl, "set_iterator",_,⟨_,W9 _ rfl,rfl⟩,si_slot.lookup,?_⟩);have B:=WM ha;have S1:Kd w (s.heap.push {cls:=.type "set_iterator",data:=.fields [rawInt 0,rawInt 0,.ref a,rawInt es.size,rawInt ep].toArray}) a js es ep t:=S.keep λo e=>W2 _ e
  have lt:∀b∈[s.heap.objs.size,a],b=a\/s.heap.get? b=none:=λb f=>by
   rcases WA.mp f with rfl|f
   ·exact .inr (new _<|W5 _)
   ·exact .inl (Wz.mp f)
  cases f:KW w with
  |true=>
   have u:((pickOrder (w.params.setOrder a ep) es).toList.map (·.2)).length=es.size:=by
    rw[Wx,(G9 _ _).length_eq];simp
   refine l _ _ _ _ _ s.drawn (EB M s.heap.objs.size a B ((pickOrder (w.params.setOrder a ep) es).toList.map (·.2)) u (λ_=>0) λA E s i Q hi G q=>MN G f ?_) ⟨⟨_,W9 _ rfl,rfl,rfl⟩,S1⟩ lt u ((G9 _ _).map _) (new _<|W5 _) λb o e=>W2 _ e;rw[WB]at q;rw[←Q4];cases e:(pickOrder (w.params.setOrder a ep) es).toList[i]? with
   |none=>rw[e]at q;exact q
   |some x=>rw[e]at q;exact q
  |false=>
   have y:(!t.plain&&decide (es.size>1))=false:=by rw[f]at hd;simpa using hd
   refine l _ _ _ _ _ s.drawn (EB M s.heap.objs.size a B (es.toList.map (·.2)) (by simp) (slotAt t) λA E s i Q hi G q=>Zdd G f y ?_) ⟨⟨_,W9 _ rfl,rfl,rfl⟩,S1⟩ lt (by simp) (List.Perm.refl _) (new _<|W5 _) λb o e=>W2 _ e;rw[Zbk G hi];have hz:=Eh G.fit;rw[WB]at q;by_cases L:i<es.size
   ·have C:=Qm L;have e2:t.place[i]?=some t.place[i]:=Qm (by lia);have U:es.toList[i]?=some es[i]:=by rw[Q4];exact C
    rw[U]at q;rw[C,e2]
    have e4:slotAt t (i+1)=t.place[i]+1:=by
     unfold slotAt;rw[W3 (by lia)]
     have:i<t.place.size:=by lia
     simp[Array.getD,this]
    have Y:=q;rw[e4]at Y;exact Y
   ·have C:es[i]?=none:=Vg (by lia);have U:es.toList[i]?=none:=by rw[Q4];exact C
    rw[U]at q;rwa[C]
 |true=>
  rw[W6 rfl];refine Ww (Zb2 _ _ s (by simp) λr d y=>?_);have u:r.length=es.size:=by rw[y.length_eq];simp
  have J:∀p∈r,p<es.size:=λp hm=>V8.mp (y.mem_iff.mp hm);refine Ww (Qk ?_<|by show(r.map λ(i:Nat)=>rawInt i).toArray.size<=sizeLine;rw[WX,Wx,u];exact VI S.few);have z:=W2 {cls:=.type "tuple",data:=.seq (r.map λ(i:Nat)=>rawInt i).toArray} g;refine Ww (wpAny_setEpoch_of z h S.fit<|Ww<|Qk<|W1 ⟨_,rfl, "set_iterator",_,⟨_,W9 _ rfl,rfl⟩,si_slot.lookup,?_⟩);have H:(s.heap.push {cls:=.type "tuple",data:=.seq (r.map λ(i:Nat)=>rawInt i).toArray}).objs.size=s.heap.objs.size+1:=Vi ..
  have T:(List.range es.size).map (λp=>((es[p]?).map (·.2)).getD Value.none)=es.toList.map (·.2):=by
   apply Jy;intro k;by_cases hk:k<es.size
   ·simp[hk]
   ·have:es.size<=k:=by lia
    simp[this]
  refine l _ _ _ _ _ d (Zaf M _ a s.heap.objs.size ?_ ?_ r u J _ rfl) ⟨⟨_,W9 _ rfl,rfl,rfl⟩,S.keep λo e=>W2 _ (W2 _ e),_,W2 _ (W9 _ rfl),0,rfl⟩ (λb f=>?_) (by rw[Wx];exact u) ?_ (new _ ?_) λb o e=>W2 _ (W2 _ e)
  ·show a≠_;rw[H];exact WM (VJ ha)
  ·show s.heap.objs.size≠_;rw[H];exact WM (VQ _)
  ·rcases WA.mp f with rfl|f
   ·refine .inr (new _ ?_);show s.heap.objs.size<=_;rw[H];exact Vf _
   ·rcases WA.mp f with rfl|f
    ·exact .inl rfl
    ·rw[Wz.mp f];exact .inr (new _<|W5 _)
  ·rw[←T];exact y.map _
  ·show s.heap.objs.size<=_;rw[H];exact Vf _
def Zcr(g:s.TypeIs (.ref a) "set")(h:Q false s):wpAny (model prog w) A (Builtin.List.listLengthHint<|.ref a) Q E s:=by
 refine Ww (wpAny_specialOf g F.slot_set_len.lookup ?_);generalize f:("set.__len__" : String)=z
 wp_delta
 have l:splitId z=some ("set","__len__"):=by subst f;decide +kernel
 rw[l];subst f;refine Ww (wpAny_isInstance (b:=true) g (by rw[isSubtype_type];kernel_rfl) (wpAny_ite_split (λz=>absurd z (by decide)) λ_=>?_));exact wpAny_ite_split (λ_=>Ww (wpAny_typeOf g<|W1 h)) λz=>absurd (by decide +kernel) z
def Zlg(hh:A.handled=none)(S:Kd w s.heap a js es ep t)(D:Addr)(c:Nat)(g:Value)(hD:s.heap.get? D=some {cls:=.type "list",data:=.seq #[] c})(G:D≠a)(fin:∀h' M d (vs:Yo) y,vs.Perm (es.toList.map (·.2))->h'.get? D=some {cls:=.type "list",dict:=none,data:=.seq vs.toArray y,slots:=#[]}->(∀b o,b≠D->s.heap.get? b=some o->h'.get? b=some o)->R (.ok<|.ret g) {s with heap:=h',toks:=M,drawn:=d}) :
  wpAny (model prog w) A.in1 (Builtin.List.listExtendWith (.ref D) (.ref a) g) (λf v=>match f with | .done f=>R (.ok f) v | .again y=>y.quiet=true/\codeAny (model prog w) A y R v) (λe v=>R (.error e) v) s:=by
 obtain⟨ob,C,hx,hdd⟩:=S.obj;have hT:s.TypeIs (.ref a) "set":=⟨ob,C,hx.1⟩;unfold Builtin.List.listExtendWith;refine Ww (wpAny_typeOf hT ?_);have n1:Builtin.List.listSameRef (.ref D) (.ref a)=false:=by simp[Builtin.List.listSameRef,G]
 have n2:(Value.type "set" == Value.type "list")=false:=by decide
 have n3:(Value.type "set" == Value.type "tuple")=false:=by decide
 simp only[n1,n2,n3,Bool.or_false,V5,VR];refine Ww (Zdw (A':=A.in1) hh S λI fp vs St h1 d1 W Q flt hl hp Y keep=>?_);have hDI:D≠I:=λz=>by rw[←z,hD]at Y;cases Y
 have loop:∀h M c1,St 0 h->(∀b o,b≠D->s.heap.get? b=some o->h.get? b=some o)->h.get? D=some {cls:=.type "list",data:=.seq #[] c1}->D∉fp->
   codeAny (model prog w) A (.builtin "list.extend.loop" ⟨[.ref D,.ref I,g],[]⟩) R {s with heap:=h,toks:=M,drawn:=d1}:=λh M c1 st hk r p=>by
  refine codeAny_extend_loopS W.toS (VI S.few) D p g es.size 0 _ #[] c1 rfl (Q6 _) st r (ItemsOf.nil _) λv x y N L u=>?_
  have ev:x.toList=vs:=by
   apply Jy;intro k;by_cases T:k<x.size
   ·have e1:=Qm T;rw[Q4,e1];exact(u.2 k _ e1).symm
   ·rw[Q4,Vg (by lia),Vl (by have:=u.1;lia)]
  have e2:x=vs.toArray:=by rw[←ev]
  rw[e2]at L;rw[Moved.eq_with N];refine fin v.heap v.toks d1 vs y hp L λb o l e=>N.heap b o (λH=>?_) (hk b o l e);rcases WA.mp H with z|z
  ·exact l z
  ·rw[Wz.mp z,Y]at e;cases e
 have p:D∉fp:=λN=>by
  rcases flt D N with z|z
  ·exact G z
  ·rw[hD]at z;cases z
 have U:Shared.TypeIs {s with heap:=h1,drawn:=d1} (.ref a) "set":=⟨ob,keep _ _ C,hx.1⟩
 refine Ww (QH<|Zcr U ?_);have r:=keep _ _ hD;refine Ww (wpAny_rule<|Ww (?_:wpAny _ _ (updateSeq D (·.push .none) >>= λ_=>updateSeq D (·.pop)) _ _ _));refine Ww (wpAny_updateSeq r rfl ?_);have J:=Qj (Obj.mapSeq (·.push Value.none)) r rfl;refine wpAny_updateSeq J rfl ?_
 have B:∀b o,b≠D->h1.get? b=some o->((h1.update D<|Obj.mapSeq (·.push Value.none)).update D (Obj.mapSeq (·.pop))).get? b=some o:=λb o l e=>
  (Qu _ _<|Ne.symm l).trans ((Qu _ _<|Ne.symm l).trans e)
 exact W1 ⟨plainId_quiet F.plain_extend_loop _,loop _ _ _ (W.frame 0 _ _ Q λb l o e=>B b o (λz=>p (z▸l)) e) (λb o l e=>B b o l (keep b o e)) (Qj (Obj.mapSeq (·.pop)) J rfl) p⟩
def Zbi(G:A.handled=none)(S:Kd w s.heap a js es ep t)(u:∀g h d vs,vs.Perm (es.toList.map (·.2))->(∀b o,s.heap.get? b=some o->g.get? b=some o)->s.heap.objs.size<g.objs.size->R vs {s with heap:=g,toks:=h,drawn:=d}) :
  wpAny (model prog w) A (collect<|.ref a) R E s:=by
 obtain⟨Q,C,hx,H⟩:=S.obj;refine Ww (wpAny_runValue<|QU entry_proto_collect' ?_);have M:=Vq (A:=A) PySem.F.plain_proto_collect ⟨[.ref a],[]⟩;refine(Ww<|Qk<|W1 ⟨plainId_quiet PySem.F.plain_list_iadd _,QU entry_list_iadd' ?_⟩);rw[(Vq (A:=A) PySem.F.plain_list_iadd ⟨[.ref s.heap.objs.size,.ref a],[]⟩)];have J:(s.heap.push {cls:=.type "list",data:=.seq ([]:Yo).toArray}).get? s.heap.objs.size=some {cls:=.type "list",data:=.seq #[]}:=W9 _ rfl
 have B:=Zlg (prog:=prog) (s:={s with heap:=s.heap.push {cls:=.type "list",data:=.seq ([]:Yo).toArray}})
  (R:=λq z=>∃g h d vs v,q=.ok (.ret<|.ref s.heap.objs.size)/\z={s with heap:=g,toks:=h,drawn:=d}/\vs.Perm (es.toList.map (·.2))/\(∀b o,s.heap.get? b=some o->g.get? b=some o)/\
   g.get? s.heap.objs.size=some {cls:=.type "list",dict:=none,data:=.seq vs.toArray v,slots:=#[]}) G (S.keep λo e=>W2 _ e) s.heap.objs.size 0 (.ref s.heap.objs.size) J (Jz<|W8 C)
  λg h d vs v p l r=>⟨g,h,d,vs,v,rfl,rfl,p,λb o e=>r b o (WM<|W8 e) (W2 _ e),l⟩
 refine WV B (λf z x=>?_) λe z x=>?_
 ·cases f with
  |done f=>
   obtain⟨g,h,d,vs,v,e,rfl,p,r,l⟩:=x;cases e
   refine(Ww<|wpAny_load l<|W1 ?_);exact u g h d vs p r (W8 l)
  |again T=>
   refine⟨x.1,QP x.2 λq N y=>?_⟩;obtain⟨g,h,d,vs,v,rfl,rfl,p,r,l⟩:=y;refine(Ww<|wpAny_load l<|W1 ?_);exact u g h d vs p r (W8 l)
 ·obtain⟨_,_,_,_,_,L,_⟩:=x;cases L
theorem EJ:∀{l:List (Int×Value)},(∀e∈l,Ent e)->IntsAre (l.map (·.2)) (l.map keyOf)
 |[],_=>.nil
 |e::r,h=>by
  obtain⟨k,t,rfl⟩:=h e WS;exact .cons k t (EJ λx hx=>h x (WG _ hx))
def Rz{vs us}(p:vs.Perm us):∀{ns:Yi},IntsAre us ns->∃b,IntsAre vs b/\b.Perm ns:=by
 induction p with
 |cons x _ u=>
  intro ns h;cases h with
  |cons n t r=>
   obtain⟨b,z,v⟩:=u r;exact⟨n::b,.cons n t z,List.Perm.cons _ v⟩
 |swap x y l=>
  intro ns h;cases h with
  |cons n t r=>
   cases r with
   |cons f g o=>exact⟨f::n::_,.cons f g (.cons n t o),List.Perm.swap _ _ _⟩
 |_=>grind
def Zhw(L:A.handled=none)(B:SetB w s.heap a js)(x:js.length<64)
  (C:∀l y u d f ns e,IntsAre f ns->ns.Perm js->ns.Pairwise (·<=·)->s.heap.get? l=none->s.heap.objs.size<=l->y.get? l=some {cls:=.type "list",data:=.seq f.toArray e}->
   (∀b o,s.heap.get? b=some o->y.get? b=some o)->Q (.ref l) {s with heap:=y,toks:=u,drawn:=d}) :
  wpAny (model prog w) A (call (.builtin "sorted") [.ref a]) Q E s:=by
 obtain⟨es,ep,t,S⟩:=B;refine Calls.call_function_entry kind_sorted plain_sorted entry_sorted (args_sorted1 _) ?_;refine Ww (W1<|Ww (Zbi L S λp u d r H keep big=>?_));obtain⟨N,G,v⟩:=Rz H (EJ S.ent);have g:=v.trans S.per;have J:r.length<64:=by rw[IntsAre.length G,g.length_eq];exact x
 refine Ww (wpAny_newList ?_<|by have:(64:Nat)<=sizeLine:=(by decide);lia);have z:(p.push<|seqObj "list" r.toArray 0).get? p.objs.size=some (seqObj "list" r.toArray 0):=W9 _ rfl;refine Ww (QH<|QL slot_list_sort ⟨_,z,rfl⟩ entry_list_sort (list_sort_tree z G J λf ns a1 a2 a3=>⟨_,rfl,?_⟩)<|args_list_sort _);obtain⟨e,M⟩:=sortedHeap_at z;refine W1 ⟨_,rfl,C p.objs.size _ u d f.toList ns e a1 (a2.trans g) a3 ?_ (Vz big) (by simpa [seqObj]using M) λb o q=>?_⟩
 ·cases q:s.heap.get? p.objs.size with
  |none=>rfl
  |some o=>exact absurd (W8<|keep _ _ q) (Q9 _)
 ·have h:=W8 (keep b o q);rw[sortedHeap_old (WM h) (by rw[size_push'];exact VJ h)];exact W2 _ (keep b o q)
end
end SetR
namespace Own
open PySem PySem.Spec PyProof.Rows L2
noncomputable def Nk(w:World)(l:Addr)(b:Yi):HO:=.ext λh=>SetR.SetB w h l b
section
variable {X:Cx}
def Zjn{w H h l b}(B:SetR.SetB w h l b):ObjOk P w H h l (Nk w l b):=by
 refine⟨B,?_,λp n f k=>f.at k⟩;obtain⟨r,s,t,S⟩:=B;obtain⟨o,g,_⟩:=S.obj
 grind
def Zel(y:X.calm=true):Kg X (.type "set") (λxs H Q=>∃(p:Addr) (ns:Yi),xs=[.ref p]/\SqL X.K H p (ns.map V.int)/\ns.length+1<4096/\∀l,H l=none->Q (.ref l) (upd H l<|Nk X.w l<|ns.foldl SetR.Ke [])):=by
 intro pins s A H xs C Q I f h;obtain⟨p,ns,rfl,z,x,q⟩:=h;obtain⟨u,rfl,g⟩:=f.one;obtain rfl:=g;obtain⟨v,r,n,_⟩:=I.list z;refine SetR.Zax (I.ok.hd y) n.isList (by simpa using BQ r) x λG E B keep=>?_;exact⟨.ref s.heap.objs.size,upd H s.heap.objs.size (Nk X.w s.heap.objs.size _),I.laid (λb o e=>keep b o (W8 e) e) (W5 _) (Zjn B),rfl,q _ (I.hok.fresh<|W5 _)⟩
def Ho(N:X.calm=true):Kg X (.builtin "sorted") (λxs H Q=>∃p g,xs=[.ref p]/\g.length<64/\(SqL X.K H p (g.map V.int)\/H p=some (Nk X.w p g))/\
  ∀l (ns:Yi),H l=none->ns.Perm g->ns.Pairwise (·<=·)->Q (.ref l) (upd H l<|.lst<|ns.map V.int)):=by
 intro pins s U H xs Y Q I G h;obtain⟨p,g,rfl,A,v,q⟩:=h;obtain⟨u,rfl,J⟩:=G.one;obtain rfl:=J
 have big:∀{ns:Yi},ns.Perm g->(ns.map V.int).length<=sizeLine:=λM=>by
  rw[Wx,M.length_eq]
  have:(64:Nat)<=sizeLine:=by decide
  lia
 rcases v with v|v
 ·obtain⟨n,r,L,_⟩:=I.list v;have E:IntsAre n g:=by simpa using BQ r
  refine sorted_ints L.isList E (by rw[IntsAre.length E];exact A) λf ns a1 a2 a3=>?_;obtain⟨e,C⟩:=sortedAll_at s.heap n f;have x:=I.hok.fresh (Vf _);refine⟨.ref (s.heap.objs.size+1),upd H (s.heap.objs.size+1) (.lst<|ns.map V.int),I.laid (λb o e=>sortedAll_old e) (Vf _) ⟨big a2,f.toList,e,BS a1,?_⟩,rfl,q _ ns x a2 a3⟩;omega
 ·have B:=(I.hok p _ v).1;refine SetR.Zhw (I.ok.hd N) B A λl T tk d f ns e a1 a2 a3 nl y C keep=>?_;have x:=I.hok.fresh y;refine⟨.ref l,upd H l (.lst<|ns.map V.int),?_,rfl,q l ns x a2 a3⟩;have ok:HOk X.prog X.w (upd H l<|.lst<|ns.map V.int) T:=I.hok.laid keep y ⟨big a2,f,e,BS a1,C⟩;exact I.call (ch:=[]) (Un.laid keep y x) ok I.bare (λb z=>absurd z (by simp))
end
section
variable {X:Cx}{K:Yg}
def Zdp(b:autoParam (X.K=K) au_0):IxR X (λx y H Q=>S8 K x y H Q\/Bj K x y H Q):=by subst b;exact Za7
def Zei(b:autoParam (X.K=K) au_0):Kg X (.builtin "len") (λxs H Q=>∃x n,xs=[x]/\Bt K x H n/\Q (.int n) H):=by subst b;exact Zbc
def OS(b:autoParam (X.K=K) au_0):OpR X (compareOp .In) (rIn K false):=by subst b;exact Zba
def Ro(b:autoParam (X.K=K) au_0):OpR X (compareOp .NotIn) (rIn K true):=by subst b;exact Rk
def AZ{pos es k t n}(g:X.calm=true)(h:PGs X es t)(l:autoParam (X.K=K) au_0)(f:autoParam ((assignEach es X.env).length=n) au_0)(b:autoParam ((assignEach es X.env).findIdx? (·.1)=none) au_0):PG X (.Tuple es k pos) (Dw K n t):=by subst l;exact O5 g h f b
end
section
variable {α:Type}{R:Hp->V->α->Prop}{φ:Ym}{g:TG}{tc:TT}{te:TE}{σ:L2.St}{H1:Hp}{F:Hp->Prop}{D:Addr}
def OA{K a xs}{ds:List α}(f:α->Option V)(w:SqL K H1 a xs)(G:xs.length=ds.length)(H:H1 D=none)(L:ds.length<=sizeLine)(turn:∀(i:Nat) x d l,xs[i]?=some x->ds[i]?=some d->Same H1 l->∀k:Option V->Hp->Prop,k (f d) l->g x (atStart φ σ) l λh z=>Sub (atStart φ σ) h/\tc h z λb s=>if b=true then te h s λy v=>k (some y) v else k none s)(done:F (upd H1 D<|.lst<|ds.filterMap f)) :
  ∃W:Nat->Nat->List V->Hp->Prop,(∃m,W 0 m [] (upd H1 D<|.lst []))/\
   ∀i m r l,W i m r l->((Itl K a).stop i l/\F l)\/((Itl K a).go i l/\∀x A,(Itl K a).yld i l x A->g x (atStart φ σ) A λh z=>Sub (atStart φ σ) h/\tc h z λb s=>
    if b=true then te h s λy v=>v D=some (.lst r)/\r.length<sizeLine/\∃n,n<m/\W (i+1) n (r++[y]) (upd v D<|.lst (r++[y]))else ∃n,n<m/\W (i+1) n r s):=by
 refine⟨λi m r l=>m=ds.length-i/\i<=ds.length/\r=(ds.take i).filterMap f/\l=upd H1 D (.lst r),⟨ds.length,by simp,Q6 _,by simp,rfl⟩,?_⟩;rintro i m r l ⟨rfl,M,rfl,rfl⟩;have u:Same H1 (upd H1 D<|.lst ((ds.take i).filterMap f)):=XJ H;by_cases p:i<ds.length
 ·refine .inr ⟨⟨xs,xs[i]'(by lia),u.seq w,by simp[G,p]⟩,λx A y=>?_⟩;obtain⟨e,y⟩:=y;subst e
  refine turn i x ds[i] _ (y xs<|u.seq w) (Wy p) u (λo B=>match o with
   |some y=>B D=some (.lst ((ds.take i).filterMap f))/\((ds.take i).filterMap f).length<sizeLine/\∃n,n<ds.length-i/\(n=ds.length-(i+1)/\i+1<=ds.length/\(ds.take i).filterMap f++[y]=(ds.take (i+1)).filterMap f/\upd B D (.lst ((ds.take i).filterMap f++[y]))=upd H1 D (.lst ((ds.take i).filterMap f++[y])))
   |none=>∃n,n<ds.length-i/\(n=ds.length-(i+1)/\i+1<=ds.length/\(ds.take i).filterMap f=(ds.take (i+1)).filterMap f/\B=upd H1 D (.lst ((ds.take i).filterMap f)))) ?_
  have C:=WW p;cases E:f ds[i]with
  |some y=>
   refine⟨Xw,?_,ds.length-(i+1),by lia,rfl,p,?_,DR⟩
   ·have J:=List.length_filterMap_le f (ds.take i);rw[Qp]at J;lia
   ·rw[C,Vm];simp[E]
  |none=>
   refine⟨ds.length-(i+1),by lia,rfl,p,?_,rfl⟩;rw[C,Vm];simp[E]
 ·have e:i=ds.length:=by lia
  subst e;refine .inl ⟨⟨xs,u.seq w,by lia⟩,?_⟩;rwa[QB]
end
noncomputable def eqL(xs b:List V):Bool:=decide (xs.length=b.length)&&(List.range xs.length).all λj=>eqV (xs.getD j .non) (b.getD j .non)
noncomputable def Pp(K:Yg)(neg:Bool):R2:=λx y H Q=>∃(p q:Addr) (xs b:List V),x=.ref p/\y=.ref q/\SqL K H p xs/\SqL K H q b/\xs.all K5=true/\b.all K5=true/\Q (.bl (if neg then !eqL xs b else eqL xs b)) H
section
variable {X:Cx}
def FK{xs b us f}(l:Vals xs us)(h:Vals b f)(f1:xs.all K5=true)(x:b.all K5=true)(j:Nat)(v:j<us.toArray.size)(r:j<f.toArray.size) :
  SeqAt.EqAt A s us.toArray[j] f.toArray[j] (eqV (xs.getD j .non)<|b.getD j .non):=by
 have G:=l.length;have E:=h.length;have J:j<us.length:=by simpa using v
 have H:j<f.length:=by simpa using r
 have o:xs[j]?=some (xs[j]'(by lia)):=Wy _;have n:b[j]?=some (b[j]'(by lia)):=Wy _;obtain⟨u,M,p⟩:=l.get o;obtain⟨w,L,g⟩:=h.get n;have z:us.toArray[j]=u:=by grind
 have y:f.toArray[j]=w:=by grind
 have C:xs.getD j .non=xs[j]'(by lia):=by rw[WJ,o];rfl
 have B:b.getD j .non=b[j]'(by lia):=by rw[WJ,n];rfl
 rw[z,y,C,B];exact HA p g (Qi.mp f1 _<|WY _) (Qi.mp x _<|WY _)
def Lv(o:X.A.units<cLine):OpR X (compareOp .Eq) (Pp X.K false):=by
 intro pins s G H x y v u Q I w r h;obtain⟨p,q,xs,b,rfl,rfl,z,hq,f1,E,k⟩:=h;obtain rfl:=w;obtain rfl:=r;obtain⟨L,g,l,_⟩:=I.list z;obtain⟨J,f,p2,_⟩:=I.list hq;have N:=g.length;have M:=f.length;have n:=k;by_cases e:xs.length=b.length
 ·refine SeqAt.eq_listAt l.isList p2.isList (by simp;lia) o (λj C B=>FK g f f1 E j C B) ⟨.bl (eqL xs b),H,I,?_,n⟩;show _=Value.bool (eqL xs b);unfold eqL
  grind
 ·refine SeqAt.eq_list_lengthsAt l.isList p2.isList (by simp;lia) o ⟨.bl (eqL xs b),H,I,?_,n⟩;unfold eqL;rw[WH e];rfl
def R4(o:X.A.units<cLine):OpR X (compareOp .NotEq) (Pp X.K true):=by
 intro pins s G H x y v u Q I w r h;obtain⟨p,q,xs,b,rfl,rfl,z,hq,f1,E,k⟩:=h;obtain rfl:=w;obtain rfl:=r;obtain⟨L,g,l,_⟩:=I.list z;obtain⟨J,f,p2,_⟩:=I.list hq;have N:=g.length;have M:=f.length;have n:=k;by_cases e:xs.length=b.length
 ·refine SeqAt.RcNeAt.lists l.isList p2.isList (by simp;lia) o (λj C B=>FK g f f1 E j C B) _ _ _ _ ⟨.bl (!eqL xs b),H,I,?_,n⟩;show _=Value.bool (!eqL xs b);unfold eqL
  grind
 ·refine SeqAt.RcNeAt.lists_lengths l.isList p2.isList (by simp;lia) o _ _ _ _ ⟨.bl (!eqL xs b),H,I,?_,n⟩;unfold eqL;rw[WH e];rfl
end
section
variable {X:Cx}{K:Yg}
def Ey{n t name apos cpos T id r}(p:PlainAttrs T)(slot:Slot T name id)(l:typeOf (.builtin id)=pure (.type "method_descriptor"))(v:MtM X id r)(u:PE X o n)(w:PA X (e::es) t)(y:autoParam (X.K=K) au_0)(g:autoParam (attributeBase o name X.env (eval o X.env)=eval o X.env) au_0)
  (h:autoParam (((backTo cpos<|starEach (e::es) X.env).all (λx=>!x.1)&&(backToKw cpos<|keywordEach [] X.env).all (λx=>x.1.isSome)
   && decide ((e::es).length+([]:List Keyword).length+(if ([]:List Keyword).isEmpty then 0 else 1)<30))=true) au_0)
  (f:autoParam ((apos.endLine==cpos.line)=true) au_0) (s:autoParam (starEach (e::es) X.env=(false,eval e X.env)::starEach es X.env) au_0) (b:autoParam ((backTo cpos<|starEach es X.env).any (·.1)=false) au_0) :
  PE X (.Call (.Attribute o name apos) (e::es) [] cpos) (tBM K T r n t):=by
 subst y;exact Bz p slot l v u w g h f s b
end
def FE(xs b:Yi):eqL (xs.map V.int) (b.map V.int)=decide (xs=b):=by
 unfold eqL;rw[Wx,Wx];by_cases e:xs=b
 ·subst e;rw[W4 rfl,W4 rfl,Jv,Qi];intro j n;have g:j<xs.length:=by simpa using n
  rw[WJ,WB,Wy g];show(xs[j]==xs[j])=true;simp
 ·rw[WH e];by_cases h:xs.length=b.length
  ·rw[W4 h,Jv,VM];intro f;apply e;apply List.ext_getElem h;intro j l p
   have:=Qi.mp f j (by simpa using l)
   rw[WJ,WB,Wy l,WJ,WB,Wy p]at this;have o:(xs[j]==b[j])=true:=this;simpa using o
  ·grind
def Tw(xs:Yi):(xs.map V.int).all K5=true:=by
 rw[List.all_map];exact Qi.mpr λ_ _=>rfl
end Own
namespace M
open PySem PySem.Spec PyProof.Rows L2 Own
def LV{b:Type}(R:Hp->V->b->Prop)(H:Hp)(vs:List V)(xs:List b):Prop:=
 vs.length=xs.length/\∀(i:Nat) (x:b),xs[i]?=some x->∃v,vs[i]?=some v/\R H v x
def LAt{b:Type}(R:Hp->V->b->Prop)(H:Hp)(l:Addr)(xs:List b):Prop:=∃f,H l=some (.lst f)/\LV R H f xs
def KP(H:Hp)(v:V)(q:Int×Int):Prop:=∃a,v=.ref a/\H a=some (.tup [.int q.1,.int q.2])
section
variable {α:Type}{R:Hp->V->α->Prop}{H H':Hp}{vs:List V}{xs:List α}{l:Addr}
def LV.get {i:Nat}{v} (h:LV R H vs xs) (e:vs[i]?=some v):∃x,xs[i]?=some x/\R H v x:=by
 have f:i<xs.length:=by rw[←h.1];exact(WI.mp e).1
 obtain⟨b,g,r⟩:=h.2 i xs[i] (by simp)
 grind
end
def AC(m:Yi):Prop:=∃a b c d e:Int,m=[a,b,c,d,e]/\(1<=a/\a<=10)/\(1<=b/\b<=9/\(b=1\/b=3\/b=7\/b=9))/\(0<=c/\c<=9)/\(1<=d/\d<=1000)/\(1<=e/\e+d<=1001)
def Field(ps:Yh):Prop:=∀q∈ps,1<=q.1/\q.1<=10/\1<=q.2/\q.2<=1000
def RK(b:Yi)(k z:Int):z∈SetR.Ke b k↔z∈b\/z=k:=by
 unfold SetR.Ke;split
 ·grind
 ·simp
theorem G2:∀(ns b:Yi) z,z∈ns.foldl SetR.Ke b↔z∈b\/z∈ns
 |[],b,z=>by simp
 |n::r,b,z=>by
  rw[List.foldl_cons,G2 r,RK,WA];constructor
  ·grind
  ·grind
def Zej(k:Int)(h:b.Nodup):(SetR.Ke b k).Nodup:=by
 unfold SetR.Ke;split
 ·lia
 ·grind
theorem DM:∀(ns:Yi) {b:Yi},b.Nodup->(ns.foldl SetR.Ke b).Nodup
 |[],_,h=>h
 |n::r,b,h=>DM r (Zej n h)
theorem Er:∀(ns b:Yi),(ns.foldl SetR.Ke b).length<=b.length+ns.length
 |[],b=>by simp
 |n::r,b=>by
  have g:=Er r (SetR.Ke b n)
  have f:(SetR.Ke b n).length<=b.length+1:=by
   unfold SetR.Ke;split
   ·simp
   ·simp
  grind
def Az{l:Yi}(h:l.Pairwise (·<=·))(n:l.Nodup):l.Pairwise (· < ·):=by
 have:=h.and n
 exact this.imp λ{a b} h=>by have:=h.1;have:=h.2;lia
def Zjo{g f:Yi}(n:g.Pairwise (· < ·))(l:f.Pairwise (· < ·))(h:∀z,z∈g↔z∈f):g=f:=by
 have p:g.Nodup:=n.imp λ{a b} h=>by lia
 have o:f.Nodup:=l.imp λ{a b} h=>by lia
 exact((List.perm_ext_iff_of_nodup p o).mpr h).eq_of_pairwise (λa b _ _ x y=>by lia) n l
noncomputable def tenL:Yi:=[1,2,3,4,5,6,7,8,9,10]
def RJ:z∈tenL↔1<=z/\z<=10:=by
 unfold tenL;constructor
 ·intro h;simp only[WA,QA,or_false]at h;omega
 ·rintro⟨f,b⟩;simp only[WA,QA,or_false];lia
noncomputable def XD(ps:Yh):Yi:=tenL.filter λh=>decide (h∈ps.map (·.1))
def Fx(ps:Yh):(XD ps).Pairwise (· < ·):=List.Pairwise.filter _ (by trivial)
def Zeo(b:Field ps){z}:z∈XD ps↔z∈ps.map (·.1):=by
 unfold XD;rw[Q1,VN,RJ];constructor
 ·grind
 ·intro h;obtain⟨q,hq,rfl⟩:=WQ.mp h
  have:=b q hq
  grind
def BV(ps:Yh):(XD ps).length<=10:=by
 have:=QV (λh=>decide (h∈ps.map (·.1))) tenL
 trivial
def Zgw(b:Field ps)(p:ns.Perm ((ps.map (·.1)).foldl SetR.Ke []))(h:ns.Pairwise (·<=·)):ns=XD ps:=by
 refine Zjo (Az h<|p.symm.nodup<|DM _ Vk) (Fx ps) λz=>?_;rw[p.mem_iff,G2,Zeo b];simp
def HX(z:Int)(xs:Yi):inV (.int z) (xs.map V.int)=decide (z∈xs):=by
 unfold inV
 induction xs with
 |nil=>rfl
 |cons x r b=>
  show((x==z) || _)=_;by_cases e:x=z
  ·grind
  ·grind
section
variable (ps:Yh)
noncomputable def tpM(y:Int):Nat->Int
 | 0=>0
 |j+1=>tpM y j+(if (ps.getD j (0,0)).1=y then(ps.getD j (0,0)).2 else 0)
noncomputable def pcM(x y:Int):Nat->Int
 | 0=>0
 |k+1=>pcM x y k+(if x≠y/\(ps.getD k (0,0)).1=x then tpM ps y k*(ps.getD k (0,0)).2 else 0)
end
end M
namespace ExcR
open PySem PySem.Spec PyProof.Rows L2
structure Ky (fs ex:List Addr) (h h':Heap):Prop where
 keep:∀b o,h.get? b=some o->b∉fs->b∉ex->h'.get? b=some o
 slot:∀b o,h.get? b=some o->b∉ex->∃sl,h'.get? b=some {o with slots:=sl}
 size:h.objs.size<=h'.objs.size
def Ky.trans (a:Ky fs ex l h) (b:Ky fs ex h g):Ky fs ex l g:=
 ⟨λc o e n m=>b.keep c o (a.keep c o e n m) n m,λc o e m=>by
  obtain⟨s,r⟩:=a.slot c o e m;obtain⟨f,p⟩:=b.slot c _ r m;exact⟨f,p⟩,WC a.size b.size⟩
def Ky.mono {fs f ex g}{l h} (a:Ky fs ex l h) (p:∀b∈fs,b∈f) (hx:∀b∈ex,b∈g):Ky f g l h:=
 ⟨λc o e n m=>a.keep c o e (λz=>n (p c z)) (λz=>m (hx c z)),λc o e m=>a.slot c o e λz=>m (hx c z),a.size⟩
def Rw(o:Obj)(f):(o.mapFields f).dict=o.dict:=by
 obtain⟨c,d,b,sl⟩:=o;cases b<;>rfl
structure Trc (h:Heap) (e T:Addr) (cls:Value×Yt) (fl:Value):Prop where
 ne:T≠e
 exc:∃oe vs,h.get? e=some oe/\(oe.cls,oe.dict)=cls/\oe.data=.fields vs/\vs[1]?=some (.ref T)
 ent:∃oT ts,h.get? T=some oT/\oT.data=.fields ts/\ts[3]?=some fl
section
variable {M:Model}{A:Around}{E:Yl}{s:Shared}{base:Heap}{env:Env}{outer:List Env}{L e:Addr}
def M4{hadNext Q}(B:A.frames=some (env::outer))(U:s.heap.FunFrames base (env::outer))(hf:env.frame=some L)(Y:s.heap.get? e=some v)(C:v.data=.fields vs)(hsz:1<vs.size)(h:∀H T,s.heap.objs.size<=T->Trc H e T (v.cls,v.dict) (rawInt L)->Ky (frs (env::outer)) [e] s.heap H->Q () {s with heap:=H}) :
  wpAny M A (do let a ←frameOf env;let u ←entryPlaceOf L hadNext;let b ←EntryCells.newEntry head a .none (rawInt L) .none u;setField (.ref e) 1 b) Q E s:=by
 have n:e∉frs (env::outer):=λhm=>by
  obtain⟨_,o,N,y⟩:=U.mem hm;rw[Y]at N;cases N
  exact y vs C
 refine Ww (wpAny_frameOf_fun B U hf λG g=>Ww (wpAny_entryPlaceOf λu x=>?_));refine Ww (Qk ?_<|x.sizeOk5 _ _ _ _ _);have r:=(g.2.1 e n).trans Y;generalize eo:({cls:=.type "traceback",dict:=none,data:=.fields ([head,.ref L,.none,rawInt L,.none]++(if u.isEmpty then List.replicate 6 Value.none else u)).toArray}:Obj)=J;have p:=W2 J r;refine QC p C hsz (h _ G.objs.size (QO g.1.symm) ?_ ?_)
 ·have l:=Jz (W8 r);have d3:=Qs C (·.setIfInBounds 1 (Value.ref G.objs.size));refine⟨l,⟨_,_,Qj _ p (QD d3),by rw[VL,Rw],d3,by simp[hsz]⟩,J,_,?_,by rw[←eo],?_⟩
  ·exact(Qu _ _<|Ne.symm l).trans (W9 G<|by rw[←eo];rfl)
  ·rfl
 ·refine⟨λb o q nb w=>?_,λb o q w=>?_,?_⟩
  ·have f:b≠e:=λz=>w (by simp[z]);rw[Qu _ _ (Ne.symm f)];exact W2 _ ((g.2.1 b nb).trans q)
  ·have f:b≠e:=λz=>w (by simp[z]);obtain⟨sl,q1⟩:=g.2.2 b o q;exact⟨sl,by rw[Qu _ _ (Ne.symm f)];exact W2 _ q1⟩
  ·rw[Heap.size_update,Vi,g.1];exact Vf _
def Zbu(f:A.frames=some (env::outer))(r:s.heap.FunFrames base (env::outer))(l:env.frame=some L)(n:s.heap.get? e=some b)(o:b.data=.fields vs)(p:vs[1]?=some .none)(h:∀g T,s.heap.objs.size<=T->Trc g e T (b.cls,b.dict) (rawInt L)->Ky (frs (env::outer)) [e] s.heap g->Q () {s with heap:=g}):wpAny M A (noteFrame (.ref e) env) Q E s:=by
 unfold noteFrame;simp only[l];refine Ww (Jq n o p ?_);exact M4 f r l n o (Vu.mp p).1 h
def EF(x:Trc s.heap e T cls Y)(h:∀g,Trc g e T cls .none->Ky [] [T] s.heap g->Q () {s with heap:=g}) :
  wpAny M A (setField (.ref T) 3 .none) Q E s:=by
 obtain⟨n,⟨w,v,J,H,G,C⟩,U,N,r,p,y⟩:=x;have u:=(Vu.mp y).1;refine QC r p u (h _ ?_ ?_)
 ·have d3:=Qs p (·.setIfInBounds 3 Value.none);exact⟨n,⟨w,v,(Qu _ _ n).trans J,H,G,C⟩,_,_,Qj _ r (QD d3),d3,by simp[u]⟩
 ·have l:∀b,b≠T->(s.heap.update T<|Obj.mapFields (·.setIfInBounds 3 Value.none)).get? b=s.heap.get? b:=λb B=>Qu _ _ (Ne.symm B);exact⟨λb o q _ f=>(l b λz=>f (by grind)).trans q,λb o q f=>⟨o.slots,(l b λz=>f (by grind)).trans q⟩,QO (Heap.size_update ..).symm⟩
def CV(n:A.frames=some (env::outer))(hl:s.heap.FunFrames base (env::outer))(y:env.frame=some L)(x:Trc s.heap e T cls .none)(h:∀r f,s.heap.objs.size<=f->Trc r e f cls (rawInt L)->Ky (frs (env::outer)) [e,T] s.heap r->Q () {s with heap:=r}):wpAny M A (noteFrame (.ref e) env) Q E s:=by
 obtain⟨ne,⟨oe,vs,g1,g2,g3,g4⟩,oT,G,w,v,Y⟩:=id x;unfold noteFrame;simp only[y];refine Ww (Jq g1 g3 g4 ?_);refine Ww (Jq w v Y ?_);refine Ww (EF x λh1 B u=>?_)
 have l:=hl.of_keeps λb o q g=>⟨o,u.keep b o q (by simp) (λz=>by
  rw[Wz.mp z,w]at q;cases q
  exact g G v),rfl⟩
 obtain⟨_,⟨U,C,N,p2,J,H⟩,_⟩:=id B;refine M4 n l y N J (Vu.mp H).1 λh2 f p x2 K2=>h h2 f (WC u.size p) (by grind) ?_;exact(u.mono (by simp)<|by simp).trans (K2.mono (λ_ z=>z)<|by simp)
def TJ(x:Trc s.heap e T cls u)(h:∀b,Trc b e T cls .none->Ky [] [T] s.heap b->Q () {s with heap:=b}) :
  wpAny M A (setFlight (.ref e) none) Q E s:=by
 obtain⟨p,⟨o,n,l,r,g,f⟩,_⟩:=id x;refine Ww (Jq l g f ?_);exact EF x h
def Zcs(l:A.frames=some (env::outer))(y:s.heap.FunFrames base (env::outer))(B:env.frame=some L)(C:s.heap.get? e=some f)(G:f.data=.fields vs)(J:vs[1]?=some .none)(h:∀p T,s.heap.objs.size<=T->Trc p e T (f.cls,f.dict) .none->Ky (frs (env::outer)) [e] s.heap p->Q () {s with heap:=p}):wpAny M A (leaving env<|.ref e) Q E s:=by
 unfold leaving;refine Ww (Zbu l y B C G J λN T n x K=>TJ x λH u r=>h H T n u ?_);refine⟨λb o q w g=>r.keep b o (K.keep b o q w g) (by simp) (λz=>?_),λb o q g=>?_,WC K.size r.size⟩
 ·rw[Wz.mp z]at q;exact absurd (W8 q) (V9.mpr n)
 ·obtain⟨sl,v⟩:=K.slot b o q g;exact⟨sl,r.keep b _ v (by simp) (λz=>by rw[Wz.mp z]at q;exact absurd (W8 q) (V9.mpr n))⟩
def Zi8(l:A.frames=some (env::outer))(B:s.heap.FunFrames base (env::outer))(C:env.frame=some L)(x:Trc s.heap e T cls .none)(h:∀p f,s.heap.objs.size<=f->Trc p e f cls .none->Ky (frs (env::outer)) [e,T] s.heap p->Q () {s with heap:=p}):wpAny M A (leaving env<|.ref e) Q E s:=by
 refine Ww (CV l B C x λH f n v K=>TJ v λG u r=>h G f n u ?_);refine⟨λb o q y g=>r.keep b o (K.keep b o q y g) (by simp) (λz=>?_),λb o q g=>?_,WC K.size r.size⟩
 ·rw[Wz.mp z]at q;exact absurd (W8 q) (V9.mpr n)
 ·obtain⟨sl,w⟩:=K.slot b o q g;exact⟨sl,r.keep b _ w (by simp) (λz=>by rw[Wz.mp z]at q;exact absurd (W8 q) (V9.mpr n))⟩
end
section
variable {P:Program}{w:World}{H H':Hp}{h h':Heap}{a:Addr}{o:HO}{fs ex:List Addr}
def has(x:ObjOk P w H h a o):∃u,h.get? a=some u:=by
 cases o with
 |lst xs=>exact let ⟨_,_,_,_,e⟩:=x;⟨_,e⟩
 |tup xs=>exact let ⟨_,_,_,u,e,_⟩:=x;⟨u,e⟩
 |dK b|dT b=>exact let ⟨_,_,_,_,u,_,_,e,_⟩:=x;⟨u,e⟩
 |set S n=>exact let ⟨u,_,_,_,e,_⟩:=x;⟨u,e⟩
 |ins C p fs=>exact let ⟨_,_,_,e,_⟩:=x;⟨_,e⟩
 |own y=>exact x
 |xd fs=>exact let ⟨_,⟨u,_,_,e,_⟩,_⟩:=x;⟨u,e⟩
 |rng lo l=>exact let ⟨_,_,_,e⟩:=x;⟨_,e⟩
 |frz g u=>exact⟨_,x.1⟩
 |ext f=>exact x.2.1
 |_=>exact⟨_,x⟩
def Dh(ok:HOk P w H h)(e:h.get? a=none):H a=none:=by
 cases q:H a with
 |none=>rfl
 |some o=>
  obtain⟨u,z⟩:=has (ok a o q)
  grind
def PL(ok:HOk P w H h)(k:Ky fs ex h h')(g:∀b∈fs,H b=none)(hx:∀b∈ex,H b=none):HOk P w H h':=λa o e=>by
 refine(ok a o e).stay (λb u l q=>?_) (λ_ q=>q) (λ_ _ q=>q);have f:H b≠none:=by grind
 exact k.keep b u q (λz=>f (g b z)) λz=>f (hx b z)
end
structure XAt (P:Program) (w:World) (outer:List Env) (H H':Hp) (s s':Shared) (a T C:Addr) (dx:Yt):Prop where
 os:s'.os=s.os
 bare:AllBare s'.gens
 un:Un (frs outer) [] H H' s.heap s'.heap
 hok:HOk P w H' s'.heap
 na:s.heap.get? a=none
 nT:s.heap.get? T=none
 fa:H' a=none
 fT:H' T=none
 tr:Trc s'.heap a T (.ref C,dx) .none
noncomputable def CXe(P:Program)(w:World):CXT:=λouter H s E e g=>∃a T C b f,e=.ref a/\XAt P w outer H f s g a T C b/\E (.ref C) b f
section
variable {X:Cx}{pins:Yj}{σ:L2.St}{H H':Hp}{s s':Shared}{a T C:Addr}{dx:Yt}
def Ma(I:Inv X pins σ H s)(hex:X.ex=[])(k:Ky (frs X.stack) ex s.heap w)(hx:∀b∈ex,X.s₀.heap.get? b=none):Un X.fs [] X.H₀ H X.s₀.heap w:=by
 have B:=I.base;rw[hex]at B;have f:∀b o,X.s₀.heap.get? b=some o->b∉ex:=λb o q z=>by rw[hx b z]at q;cases q
 have u:∀b o,X.s₀.heap.get? b=some o->b∉X.fs->b∉frs X.stack:=λb o q h z=>by
  rcases WA.mp (I.stkSub b z)with e|e
  ·have y:=W8 q;have x:=I.ok.above
   grind
  ·exact h e
 refine⟨λb o q n h g=>k.keep b o (B.keep b o q n h g) (u b o q h) (f b o q),λb o q n v g=>?_,λb o q n g=>B.free b o q n g,λb o q g=>?_,B.tups,B.frzs,B.tbls⟩
 ·obtain⟨sl,p⟩:=B.slot b o q n v g;obtain⟨l,r⟩:=k.slot b _ p (f b o q)
  grind
 ·obtain⟨o1,p⟩:=B.there b o q g;obtain⟨l,r⟩:=k.slot b _ p (f b o q);exact⟨_,r⟩
def SH(I:Inv X pins σ H s)(hex:X.ex=[])(e:s.heap.get? b=none):X.s₀.heap.get? b=none:=by
 cases q:X.s₀.heap.get? b with
 |none=>rfl
 |some o=>
  obtain⟨u,z⟩:=I.base.there b o q (by grind)
  grind
variable {E:Yl}
def Ze6(I:Inv X pins σ H s)(hex:X.ex=[])(g:X.stack=X.env::X.outer)(l:X.env.frame=some X.env.locals)(x:XAt X.prog X.w X.stack H H' s s' a T C dx) :
  wpAny (model X.prog X.w) X.A (leaving X.env<|.ref a) (λ_ u=>∃n,XAt X.prog X.w X.outer X.H₀ H' X.s₀ u a n C dx) E s':=by
 have J:=I.call' x.os x.un x.hok x.bare λb z=>absurd z (by simp);have o:=J.stack;have p:=J.ok.frames;rw[g]at o p;refine Zi8 p o l x.tr λv n h r k=>⟨n,J.os,J.bare,?_,?_,SH I hex x.na,?_,x.fa,x.hok.fresh h,r⟩
 ·exact Ma J hex (by rw[g];exact k) λb f=>by
   rcases WA.mp f with rfl|f
   ·exact SH I hex x.na
   ·rw[Wz.mp f];exact SH I hex x.nT
 ·refine PL x.hok k (λb f=>J.stkFree b (by grind)) λb f=>?_;rcases WA.mp f with rfl|f
  ·exact x.fa
  ·rw[Wz.mp f];exact x.fT
 ·exact QZ (WC J.sz h)
def GJ(J:Inv X pins σ H s)(hex:X.ex=[])(f:X.stack=X.env::X.outer)(n:X.env.frame=some X.env.locals)(r:X.s₀.heap.get? a=none)(x:H a=none)(B:s.heap.get? a=some l)(L:l.cls=.ref C)(o:l.dict=dx)(G:l.data=.fields vs)(M:vs[1]?=some .none) :
  wpAny (model X.prog X.w) X.A (leaving X.env<|.ref a) (λ_ z=>∃p,XAt X.prog X.w X.outer X.H₀ H X.s₀ z a p C dx) E s:=by
 have u:=J.stack;have v:=J.ok.frames;rw[f]at u v;refine Zcs v u n B G M λN p g y k=>⟨p,J.os,J.bare,?_,?_,r,?_,x,J.hok.fresh g,by rw[←L,←o];exact y⟩
 ·exact Ma J hex (by rw[f];exact k) λb h=>by rw[Wz.mp h];exact r
 ·exact PL J.hok k (λb h=>J.stkFree b (by grind)) λb h=>by rw[Wz.mp h];exact x
 ·exact QZ (WC J.sz g)
def RS{f vs}(I:Inv X pins σ H s)(hex:X.ex=[])(g:X.stack=X.env::X.outer)(h:X.env.frame=some X.env.locals)(keeps:∀b o,s.heap.get? b=some o->n.get? b=some o)(new:s.heap.get? a=none)(r:n.get? a=some f)(v:f.cls=.ref C)(l:f.dict=dx)(u:f.data=.fields vs)(x:vs[1]?=some .none) :
  wpAny (model X.prog X.w) X.A (leaving X.env<|.ref a) (λ_ p=>∃y,XAt X.prog X.w X.outer X.H₀ H X.s₀ p a y C dx) E {s with heap:=n}:=
 GJ (s:={s with heap:=n}) (I.call' (ch:=[]) rfl (Un.kept keeps) (I.hok.kept keeps) I.bare λb z=>absurd z (by simp)) hex g h (SH I hex new) (Dh I.hok new) r v l u x
end
structure Fc (K:Yg) (C:Addr):Prop where
 q:PySem.W.excIn K C [.type "ValueError",.type "Exception",.type "BaseException",.type "object"] "ValueError.__new__"=true
def Fc.obj {K C h} (c:Fc K C) (k:K.In h):∃b N nm q bs hdct sn sub ab col dd k0 k1 k2 k3 k5 o,h.get? C=some (excClassObj nm q C N bs b hdct sn sub ab col dd k0 k1 k2 k3 k5 "ValueError.__new__")/\h.Ns N o/\o "__init__"=none/\
  OwnTail h [.type "ValueError",.type "Exception",.type "BaseException",.type "object"] b:=by
 have e:=c.q;unfold PySem.W.excIn at e;split at e
 next dd J sl z=>
  split at e
  next L b k0 k1 k2 k3 n k5 r p=>
   simp only[Qa,beq_iff_eq,Bool.not_eq_true']at e;obtain⟨⟨⟨⟨⟨G,E⟩,v⟩,B⟩,g⟩,u⟩:=e;subst G E;have s:=k _ _ z;cases J with
   |mk nm bs y x w A sn sub ab col H=>
    simp only at r v g u
    have f:sl=#[k0,k1,k2,k3,some (.builtin "ValueError.__new__"),k5]:=by
     cases sl with
     |mk l=>simp only at p;rw[p]
    rw[r,v,f]at s;exact⟨b,x,nm,w,bs,A,sn,sub,ab,col,dd,k0,k1,k2,k3,k5,_,s,.of_isNs (Jt k g),PySem.W.nsMap_none_of_in k g u,PySem.W.tail_of_in k B⟩
  next=>cases e
 next=>cases e
abbrev TF:=L2.St->Hp->Str->(Str->Hp->Prop)->Prop
def PF(X:Cx)(es:Yq)(t:TF):Prop:=
 ∀(pins:Yj) (s:Shared) (f:L2.St) (H:Hp) (b:Str) (Q:Str->Hp->Prop),Inv X pins f H s->t f H b Q->
  wpAny (model X.prog X.w) X.A (joinParts b<|evalEach es X.env) (λu h=>∃x g,Inv X pins f g h/\RelV (.str x) u/\Q x g) X.xe s
section
variable {X:Cx}{e e1 e2:Expr}{es:Yq}{t:TF}{tv:TE}{pos:Pos}
noncomputable def EU:TF:=λ_ H b Q=>b.length<=sizeLine/\Q b H
noncomputable def GK(x:Str)(t:TF):TF:=λf H b Q=>(b++x).length<=sizeLine/\t f H (b++x) Q
noncomputable def ED(tv:TE)(t:TF):TF:=λf H b Q=>tv f H λv g=>(∃i:Int,v=.int i/\i.natAbs.log2<1920/\(b++(Str.ofString<|toString i)).length<=sizeLine/\t f g (b++Str.ofString (toString i)) Q)\/
 ∃x:Str,v=.str x/\x.length<=sizeLine/\(b++x).length<=sizeLine/\t f g (b++x) Q
def T7:PF X [] EU:=λpins s f H b Q I h=>joinParts_nilE (joinParts_nil ⟨b,H,I.tok _,⟨_,rfl⟩,h.2⟩ h.1)
def KR(h:PF X es t):PF X (.Constant (.str x) j pos::es) (GK x t):=λpins s b H f Q I q=>
 joinParts_consE (joinParts_cons<|Calls.Constant_str ⟨q.1,h pins _ b H _ Q (I.tok _) q.2⟩)
def Tt(z:PE X e tv)(h:PF X es t):PF X (.FormattedValue e (-1) none pos::es) (ED tv t):=λpins s b H y Q I q=>by
 refine joinParts_consE (joinParts_cons<|FormattedValue_plain<|thn (z pins s b H _ I q) ?_);rintro u C ⟨v,n,l,r,w⟩;rcases w with⟨i,rfl,A,g,f⟩|⟨x,rfl,hx,g,f⟩
 ·obtain⟨p,rfl⟩:=r;exact formatField_int_small A ⟨g,h pins _ b n _ Q (l.tok _) f⟩
 ·obtain⟨p,rfl⟩:=r;exact formatField_str (λB o=>⟨g,h pins _ b n _ Q (l.tok _) f⟩) hx
noncomputable def tF(t:TF):TE:=λb H Q=>t b H Str.empty λx f=>Q (.str x) f
def T3(h:PF X (e1::e2::es) t):PE X (.JoinedStr (e1::e2::es) pos) (tF t):=λpins s b H Q I q=>
 JoinedStr_many (thn (h pins s b H _ _ I q) λu n ⟨x,l,g,r,f⟩=>⟨.str x,l,g,r,f⟩)
end
def Dm(X:Cx)(E:XK):Prop:=∀(pins:Yj) (f:L2.St) (H:Hp) (s:Shared) (C a:Addr) (b:Heap) (args:Yo),Inv X pins f H s->Heap.MadeExcOf s.heap b a (.ref C) args->E (.ref C) none H->X.xe (.ref a) {s with heap:=b}
noncomputable def EW(C:Addr)(E:XK)(t:TA):TS:=λ_ b H=>t b H λf g=>f.length<=sizeLine/\E (.ref C) none g
section
variable {X:Cx}{x:Str}{C:Addr}{E:XK}{e:Expr}{es:Yq}{t:TA}{p cpos pos:Pos}
def OU(c:Fc X.K C)(J:X.mg x=some (.ref C))(T:Dm X E)(M:X.calm=true)(Q:PA X (e::es) t)(L:autoParam (Gl X x) au_0)(o:autoParam ((x==("__debug__" : Str))=false) au_1)(u:autoParam (starEach (e::es) X.env=(false,eval e X.env)::starEach es X.env) au_0)(g:autoParam ((backTo cpos<|starEach es X.env).any (·.1)=false) au_0):PS X (.Raise (some<|.Call (.Name x p) (e::es) [] cpos) none pos) (EW C E t):=by
 intro pins s r H D I h;obtain⟨bm,N,nm,q,bs,hdct,sn,sub,ab,col,dd,k0,k1,k2,k3,k5,mN,Y,U,l,v⟩:=c.obj I.ok.mod.kin
 have b:(backTo cpos<|starEach (e::es) X.env).any (·.1)=false:=by
  rw[u];show(false || (backTo cpos<|starEach es X.env).any (·.1))=false;rw[g];rfl
 refine wpAny_Raise_call_subU (nm:=nm) (q:=q) (N:=N) (bs:=bs) (hdct:=hdct) (sn:=sn) (sub:=sub) (ab:=ab) (col:=col) (dd:=dd) (k0:=k0) (k1:=k1) (k2:=k2) (k3:=k3) (k5:=k5)
  QW (by decide +kernel) QW (v.hasType<|by decide +kernel) (I.ok.hd M) b l (PN I L J ⟨rfl,?_⟩ o)
 have w:=Q cpos pins s r H _ I h;rw[u]at w ⊢;refine Jf (thn w ?_);rintro y z ⟨vs,H2,f,A,G,B⟩;refine⟨rfl,by rw[←A.length];exact G,f.bk _ _ Y,U.keeps f.bk,v.keeps f.bk,λh' a n=>?_⟩;exact T pins r H2 z C a h' y f n B
end
section
variable {P:Program}{w:World}{K:Yg}{mg:Yk}{base:Heap}{N ps:Yp}{qual x:Str}{scope:Scope}{f:Addr}{cd:Value}{A:Around}{outer:List Env}{s:Shared}{H:Hp}{E:XK}
def Kz:Dm (XI (CXe P w) P w K mg base N qual scope f cd A outer s H E) E:=by
 intro pins l h o C a p args I m q;obtain⟨t,b,_,_⟩:=m.there;exact WV (RS I rfl rfl rfl m.keeps m.new b rfl rfl rfl rfl) (λ_ n ⟨g,y⟩=>⟨a,g,C,none,h,rfl,y,q⟩) λ_ _ z=>z
def X3:KO (CXe P w) (XI (CXe P w) P w K mg base N qual scope f cd A outer s H E) E:=by
 rintro pins l r p e o I ⟨a,T,C,b,h,rfl,y,q⟩;exact WV (Ze6 I rfl rfl rfl y) (λ_ n ⟨g,z⟩=>⟨a,g,C,b,h,rfl,z,q⟩) λ_ _ z=>z
def Zig:PassesOwn (model P w) (XI (CXe P w) P w K mg base N qual scope f cd A outer s H E).A (XI (CXe P w) P w K mg base N qual scope f cd A outer s H E).env (XI (CXe P w) P w K mg base N qual scope f cd A outer s H E).xe:=PassesOwn.leaving
def Def.okX {st k sp} (D:Own.Def K mg x st ps) (S:Xk N ps (Xh st)) (len:∀vs H Q E,sp vs H Q E->vs.length=ps.length)
  (g:∀f b A outer s H vs Q E,Xo k (A.deeper<|envOfC x (Xh st) s.heap.objs.size f b)->sp vs H Q E->
   ∃t,PSs (XI (CXe P w) P w K mg base N x (Xh st) f b A outer s H E) (XA st) t/\t {nx:=λ_ H'=>Q .non H',rt:=Q} (start N vs) H):Own.Callee P w K mg base (CXe P w) (k+1) x ps sp:=by
 obtain⟨f,B,F,r,u⟩:=D.ex;obtain⟨oc,z,kV,v,y,G,b,C,o,rfl,n,l⟩:=F.ex;exact⟨f,_,AG n l S len λA outer s H vs Q E p h=>g f b A outer s H vs Q E p h,r,F.kp,⟨_,n,rfl⟩,u⟩
end
end ExcR
namespace ExcR
open PySem PySem.Spec PyProof.Rows L2
open Sem (wp)
structure XX (K:Yg) (C:Addr):Prop where
 c:Fc K C
 ga:PySem.W.findIn K (.ref C) "__getattribute__"=some (some<|.builtin "BaseException.__getattribute__")
 gt:PySem.W.findIn K (.ref C) "__getattr__"=some none
 cl:PySem.W.findIn K (.ref C) "__class__"=some (some<|.builtin "object.__class__")
 is:(PySem.W.clsIn K C).isSome=true
structure Pe (K:Yg) (C:Addr):Prop where
 obj:∀{h:Heap},K.In h->∃bm N nm q bs hdct sn sub ab col dd k0 k1 k2 k3 k5,h.get? C=some (excClassObj nm q C N bs bm hdct sn sub ab col dd k0 k1 k2 k3 k5 "ValueError.__new__")/\OwnTail h [.type "ValueError",.type "Exception",.type "BaseException",.type "object"] bm
 ga:PySem.W.findIn K (.ref C) "__getattribute__"=some (some<|.builtin "BaseException.__getattribute__")
 gt:PySem.W.findIn K (.ref C) "__getattr__"=some none
 cl:PySem.W.findIn K (.ref C) "__class__"=some (some<|.builtin "object.__class__")
 is:(PySem.W.clsIn K C).isSome=true
def XX.any {K:Yg}{C:Addr} (G:XX K C):Pe K C:=
 ⟨λk=>by
  obtain⟨x,N,h,q,bs,b,g,sub,y,f,w,r,p,o,n,l,z,v,A,s,u⟩:=G.c.obj k;exact⟨x,N,h,q,bs,b,g,sub,y,f,w,r,p,o,n,l,v,u⟩,G.ga,G.gt,G.cl,G.is⟩
section
variable {prog:Program}{w:World}{A:Around}{E:Yl}{h:Heap}{g:Array GenState}{d:Drawn}{t:Nat}{os:OsState}{a C:Addr}{o:Obj}{K:Yg}
def Zcu{R:Result->Shared->Prop}(k:K.In h)(G:Pe K C)(hx:h.get? a=some o)(p:o.cls=.ref C)(hq:R (.ok<|.ret<|.ref C) ⟨h,g,d,t,os⟩) :
  codeAny (model prog w) A (.call (.builtin "getset_descriptor.__get__") ⟨[.builtin "object.__class__",.ref a,.ref C],[]⟩) R ⟨h,g,d,t,os⟩:=by
 obtain⟨v,N,y,q,bs,n,x,sub,Q,u,M,L,J,H,B,z,s,r⟩:=G.obj k;have f:(⟨h,g,d,t,os⟩:Shared).TypeIs (.builtin "object.__class__") "getset_descriptor":=VW
 have l:(Value.ref C::v).contains (.type (".".intercalate ("object.__class__".cutAt '.').dropLast))=true:=by
  rw[F.owner_object_class,V6,r.hasType (b:=true) (by decide +kernel)];rfl
 refine Vr F.slot_gs_get.plain F.entry_gs_get (F.slot_gs_get.check _ _ _ _ _ _ _ _ f (F.args_gs_get _ _ _) ?_)
 repeat (any_goals (first|assumption|(with_reducible refine Qx hx ?_;rw[p])|(with_reducible refine Vv s ?_;rw[l])|wp_step))
 refine⟨V4 _ (by decide +kernel),QU F.entry_object_class ?_⟩
 repeat (any_goals (first|assumption|(with_reducible refine Qx hx ?_;rw[p])|wp_step))
def Zh1{f:Tok}{Q:Fin->Shared->Prop}(k:K.In h)(G:Pe K C)(hx:h.get? a=some o)(b:o.cls=.ref C)(hq:Q (.done<|.ret<|.ref C) ⟨h,g,d,t,os⟩) :
  wpAny (model prog w) A (Builtin.«object.__getattribute__» ⟨[.ref a,.str "__class__" f],[]⟩) Q E ⟨h,g,d,t,os⟩:=by
 have l:(⟨h,g,d,t,os⟩:Shared).TypeIs (.builtin "object.__class__") "getset_descriptor":=VW;have f1:=VW;have p:=F.slot_gs_get.lookup;have n:=F.slot_gs_set.lookup;have L:=Va (M:=model prog w) k G.cl
 repeat (any_goals (first|assumption|(with_reducible refine Qx hx ?_;rw[b])|with_reducible refine L.at ?_|wp_step))
 refine Zcu k G hx b ?_
 repeat (any_goals (first|assumption|wp_step))
def RO{M:Model}{v:Value}{Q:Unit->Shared->Prop}(k:K.In h)(G:Pe K C)(hx:h.get? a=some o)(n:o.cls=.ref C)(hq:Q () ⟨h,g,d,t,os⟩) :
  wpAny M A (checkBuiltinCall "BaseException.__getattribute__" ⟨[.ref a,v],[]⟩) Q E ⟨h,g,d,t,os⟩:=by
 obtain⟨y,N,B,q,bs,l,z,sub,ab,x,dd,U,T,L,J,H,r,p⟩:=G.obj k;have f:(Value.ref C::y).contains (.type "BaseException")=true:=by rw[V6,p.hasType (b:=true) (by decide +kernel)];rfl
 have u:builtinKind "BaseException.__getattribute__"=some .slot:=by decide +kernel
 have s:splitId "BaseException.__getattribute__"=some ("BaseException","__getattribute__"):=by decide +kernel
 have Y:=F.args_bexc_ga (.ref a) v;simp only[checkBuiltinCall,u,s];refine Ww ?_;unfold isInstance
 repeat (first|(with_reducible refine Qx hx ?_;rw[n])|(with_reducible refine Vv r ?_;rw[f])|wp_step)
 exact hq
def Zka{n:Tok}{Q:Yl}(k:K.In h)(G:Pe K C)(hx:h.get? a=some o)(b:o.cls=.ref C)(hq:Q (.ref C) ⟨h,g,d,t,os⟩) :
  wpAny (model prog w) A (getAttrBy (.ref a) (.str "__class__" n) false) Q E ⟨h,g,d,t,os⟩:=by
 obtain⟨U,N,u,q,bs,f,s,sub,Y,p,T,B,z,y,x,v,J,H⟩:=G.obj k;have f0:=F.attrBase_ValueError.ga.bind (.ref a);have l:(Value.builtin "BaseException.__getattribute__" == Value.builtin "object.__getattribute__")=false:=by decide +kernel
 have r:(onTheHeap (Value.ref C)&&Value.builtin "BaseException.__getattribute__" == Value.builtin "object.__getattribute__")=false:=by rw[l];rfl
 have L:=Va (M:=model prog w) k G.ga;have L2:=Va (M:=model prog w) k G.gt
 repeat (any_goals (first|assumption|(with_reducible refine Qx hx ?_;rw[b])|with_reducible refine L.at ?_|with_reducible refine L2.at ?_|wp_step))
 refine Vr F.attrBase_ValueError.ga.plain F.entry_bexc_ga (RO k G hx b<|Zh1 k G hx b ?_)
 repeat (any_goals (first|assumption|wp_step))
def Zkn{Q:Ys->Shared->Prop}(k:K.In h)(G:Pe K C)(hx:h.get? a=some o)(b:o.cls=.ref C)(hq:Q (some<|.ref C) ⟨h,g,d,t+1,os⟩) :
  wpAny (model prog w) A (getAttr? (.ref a) "__class__") Q E ⟨h,g,d,t,os⟩:=by
 unfold getAttr? getAttrBy?
 repeat (any_goals (first|assumption|with_reducible apply Zka k G hx b|wp_step))
end
end ExcR
namespace ExcR
open PySem PySem.Spec PyProof.Rows L2
noncomputable def Kn(a C:Addr)(f:Yt):HO:=.ext λh=>∃o,h.get? a=some o/\(o.cls,o.dict)=(.ref C,f)/\∃b,o.data=.fields b
noncomputable abbrev B9(a C:Addr):HO:=Kn a C none
def Lh{h a T C f p}(x:Trc h a T (.ref C,f) p):ObjOk P w H h a (Kn a C f):=by
 obtain⟨_,⟨o,g,b,s,r,_⟩,_⟩:=x;exact⟨⟨o,b,s,g,r⟩,⟨o,b⟩,λv u ⟨o1,n,l⟩ k=>⟨o1,k o1 n,l⟩⟩
def Zil{K M h C}(k:K.In h)(e:(PySem.W.clsIn K C).isSome=true):PySem.W.Looks M h (isType<|.ref C) true:=by
 unfold PySem.W.clsIn at e;split at e
 next f=>
  intro o l n g b q;exact Ww (wpAny_loadPart (b _ _<|k _ _ f)<|W1 q)
 grind
def Ru{K a C}(G:Pe K C):PySem.W.KitX K (.ref a) (.ref C) (λh=>∃o,h.get? a=some o/\o.cls=.ref C) where
 ty:=λM h _ ⟨o,h1,h2⟩=>h2▸(VS h1).andThen .now
 it:=λM h k _=>Zil k G.is
 ne:=λh tp dd its n sl k htp=>by
  refine VM.mpr λq=>?_;obtain⟨bm,N,nm,q,bs,hdct,sn,sub,ab,col,dd,k0,k1,k2,k3,k5,hC,_⟩:=G.obj k
  grind
 ca:=λ{prog w A E Q s} k ⟨o,h1,h2⟩ q=>by
  exact Zkn k G h1 h2 q
section
variable {X:Cx}
def OZ:Kg X (.builtin "isinstance") (λxs H Q=>∃a C n c b,xs=[.ref a,c]/\H a=some (Kn a C n)/\Pe X.K C/\(∃l,(∀u,RelV c u->u=l)/\PySem.W.kitOne X.K (.ref C) l=some b)/\Q (.bl b) H):=by
 intro pins s E H xs J Q I v h;obtain⟨a,C,n,c,b,rfl,y,G,⟨l,g,e⟩,q⟩:=h;cases v with
 |cons r w=>
  cases w with
  |cons x f=>
   cases f
   obtain rfl:=r;cases g _ x
   obtain⟨⟨o,B,A,_⟩,_⟩:=(I.hok a _ y);exact Qr (Ru G) I.kIn ⟨o,B,(Qf Prod.fst A)⟩ e (λz=>nomatch z) λp=>⟨.bl b,H,I.tok p,rfl,q⟩
def La{K}(g:autoParam (X.K=K) au_0):Kg X (.builtin "isinstance") (λxs H Q=>∃a C h c b,xs=[.ref a,c]/\H a=some (Kn a C h)/\Pe K C/\(∃f,(∀u,RelV c u->u=f)/\PySem.W.kitOne K (.ref C) f=some b)/\Q (.bl b) H):=by
 subst g;exact OZ
end
def Nm{H H'}{h v s}(u:Un fs [] H H' h v)(k:Ky fs ex v s)(hx:∀b∈ex,h.get? b=none):Un fs [] H H' h s:=by
 have f:∀b o,h.get? b=some o->b∉ex:=λb o q z=>by rw[hx b z]at q;cases q
 refine⟨λb o q n r g=>k.keep b o (u.keep b o q n r g) r (f b o q),λb o q n x g=>?_,u.free,λb o q g=>?_,u.tups,u.frzs,u.tbls⟩
 ·obtain⟨sl,p⟩:=u.slot b o q n x g;obtain⟨l,w⟩:=k.slot b _ p (f b o q)
  grind
 ·obtain⟨o1,p⟩:=u.there b o q g;obtain⟨l,w⟩:=k.slot b _ p (f b o q)
  grind
noncomputable def KB(X:Cx)(a:Addr):Cx:={X with A:=X.A.mark (some<|.ref a),calm:=false,xe:=λ_ _=>False}
noncomputable def Ni(X:Cx)(pins:Yj)(D:Ends)(h:ExceptHandler):Cx:=
 {X with pn:=X.pn++pins,xe:=λe g=>wpAny (model X.prog X.w) X.A (noteFrame e X.env) (λ_ f=>wpAny (model X.prog X.w) X.A (setFlight e none) (λ_ b=>wpAny (model X.prog X.w) X.A (handleBy e X.env [h]) (SP X pins D) X.xe b) X.xe f) X.xe g}
section
variable {X:Cx}{pins pins1:Yj}{σ:L2.St}{H H':Hp}{s s':Shared}{a T C:Addr}{D:Ends}{h0:ExceptHandler}
def Zb8(o:X.Ok):(KB X a).Ok:=⟨o.mod,o.kind,o.glob,o.blt,o.above,o.inj,o.has,o.cab,(λz=>nomatch z),o.frames,o.stk,o.exf,o.bs,o.bsz,o.noex,o.exfs,o.funs,o.frf⟩
def ND(I:Inv X pins σ H s):Inv (KB X a) pins σ H s:=⟨Zb8 I.ok,I.os,I.bare,I.base,I.loc,I.cell,I.free,I.freeC,I.pin,I.hok,I.len⟩
def Fp(o:X.Ok)(I:Inv (KB X a) pins σ H s):Inv X pins σ H s:=⟨o,I.os,I.bare,I.base,I.loc,I.cell,I.free,I.freeC,I.pin,I.hok,I.len⟩
def Zaq(o:X.Ok):(Ni X pins D h0).Ok:=⟨o.mod,o.kind,o.glob,o.blt,o.above,o.inj,o.has,o.cab,o.hd,o.frames,o.stk,o.exf,o.bs,o.bsz,o.noex,o.exfs,o.funs,o.frf⟩
def Zh7(o:(Ni X pins D h0).Ok):X.Ok:=⟨o.mod,o.kind,o.glob,o.blt,o.above,o.inj,o.has,o.cab,o.hd,o.frames,o.stk,o.exf,o.bs,o.bsz,o.noex,o.exfs,o.funs,o.frf⟩
def Zim(I:Inv X pins σ H s):Inv (Ni X pins D h0) [] σ H s:=⟨Zaq I.ok,I.os,I.bare,I.base,I.loc,I.cell,I.free,I.freeC,λp b=>I.pin p (by simpa [Ni]using b),I.hok,I.len⟩
def Br(I:Inv (Ni X pins D h0) pins1 σ H s):Inv X pins σ H s:=⟨Zh7 I.ok,I.os,I.bare,I.base,I.loc,I.cell,I.free,I.freeC,λp b=>I.pin p (Q0 _ b),I.hok,I.len⟩
def G7{h'}{tk}(I:Inv X pins σ H s)(hN:X.N.Nodup)(hi:X.N[i]?=some n)(hk:X.env.scope.names.lookup n=some .local)(hm:∀(i:Nat) x v,X.N[i]?=some x->σ[i]?=some (some v)->Vis X.env.scope x->∃u,RelV v u/\Look X.env s.heap m x u)(hn:s.heap.Ns X.env.locals m)(l:h'.Ns X.env.locals (λx=>if x=n then v else m x))(f:Heap.SameBut X.env.locals s.heap h'):Inv X pins (σ.set i none) H {s with heap:=h',toks:=tk}:=by
 have cne:=I.cne;have h:∀{b o},X.s₀.heap.get? b=some o->b≠X.env.locals:=λe=>WM (WR (W8 e) I.ok.above);refine⟨I.ok,I.os,I.bare,⟨λb o e n r hx=>(f.2 b<|h e).trans (I.base.keep b o e n r hx),λb o e n r hx=>?_,I.base.free,λb o e hx=>?_,I.base.tups,I.base.frzs,I.base.tbls⟩,⟨_,l,λj y J g E e3=>?_⟩,λy c e=>?_,I.free,I.freeC,λp hp=>?_,λb Q e=>?_,by simpa using I.len⟩
 ·obtain⟨sl,g⟩:=I.base.slot b o e n r hx;exact⟨sl,(f.2 b<|h e).trans g⟩
 ·obtain⟨U,g⟩:=I.base.there b o e hx;exact⟨U,(f.2 b<|h e).trans g⟩
 ·by_cases A:j=i
  ·grind
  ·rw[Jc (Ne.symm A)]at E;obtain⟨L,M,q⟩:=hm j y J g E e3;refine⟨L,M,?_⟩;rcases q with⟨k,e⟩|⟨k,c,e,z⟩
   ·have hy:y≠n:=λz=>A (Dk hN g (z▸hi));exact .inl ⟨k,by simp[hy,e]⟩
   ·exact .inr ⟨k,c,e,z.sameBut f (cne y c e)⟩
 ·obtain⟨G,z⟩:=I.cell y c e;exact⟨G,z.sameBut f (cne y c e)⟩
 ·obtain⟨e,n,w,Y,d⟩:=I.pin p hp;exact⟨(f.2 p.1 w).trans e,n,w,Y,d⟩
 ·refine(I.hok b Q e).stay (λc u hc q=>(f.2 c ?_).trans q) (λ_ q=>q) λ_ _ q=>q;rintro rfl;have B:=I.free;rcases hc with z|z
  ·rw[←z,B]at e;cases e
  ·rw[B]at z;cases z
end
noncomputable def LA(i:Nat)(D:Ends):Ends:={nx:=λb H=>D.nx (b.set i none) H,rt:=D.rt,bk:=λb H=>D.bk (b.set i none) H,ct:=λb H=>D.ct (b.set i none) H}
noncomputable def hx(K:Yg)(h:Addr)(i:Nat)(f:TS)(D:Ends):L2.St->XK:=λb c g H=>∃C,c=.ref C/\PySem.W.exmOne K (.ref C) (.ref h)=some true/\
 ∀a,H a=none->f (LA i D) (b.set i<|some<|.ref a) (upd H a<|Kn a C g)
def F5(CX:CXT)(X:Cx)(E:L2.St->XK):Prop:=∀(pins:Yj) (b:L2.St) (H:Hp) (s:Shared) (e:Value) (f:Shared),Inv X pins b H s->CX X.stack H s (E b) e f->X.xe e f
noncomputable def LD(sp:Sp)(E:L2.St->XK)(t:TA):TE:=λb H Q=>t b H λf g=>sp (f++[]) g Q (E b)
section
variable {X:Cx}{CX:CXT}{k:Nat}{ps:Yp}{sp:Sp}{E:L2.St->XK}{x:Str}{p pos:Pos}{e:Expr}{es:Yq}{t:TA}
def EE(C:Own.Callee X.prog X.w X.K X.mg X.base CX k x ps sp)(G:Xo k X.A)(J:F5 CX X E)(ha:PA X (e::es) t)(T:autoParam (Gl X x) au_0)(v:autoParam ((x==("__debug__" : Str))=false) au_1)(U:autoParam (starEach (e::es) X.env=(false,eval e X.env)::starEach es X.env) au_0)(o:autoParam ((backTo pos<|starEach es X.env).any (·.1)=false) au_0) :
  PE X (.Call (.Name x p) (e::es) [] pos) (LD sp E t):=by
 obtain⟨f,fd,F,L,N,_,Y⟩:=C.ex;intro pins s l H Q I h;refine Ve (PN I T L ?_ v);refine V0 I.ok.mod.kin N (thn (ha pos pins s l H _ I h) λg n ⟨z,y,b,r,q⟩=>⟨b.kIn,?_⟩) U o;have M:(g++[]).length=ps.length:=by rw[Qg,←r.length,←F.len _ _ _ _ q,Qg]
 refine Je (QP (F.run X.A X.stack n y ⟨g,[]⟩ (g++[]) (z++[]) Q (E l) G b.env0 (Y n g b.kIn M) (by grind) q) λr B hq=>?_);cases r with
 |error e=>exact J pins l y n e B b hq
 |ok fl=>
  cases fl with
  |ret u=>exact b.after hq
  |next=>trivial
  |_=>exact False.elim hq
end
section
variable {X:Cx}{pins:Yj}{D:Ends}{x n:Str}{np hpos pos:Pos}{b0:Stmt}{suite body:Yr}{C0:Addr}{i:Nat}{ts:TS}
def Zgz(B:X.stack=X.env::X.outer)(hfr:X.env.frame=some X.env.locals)(hN:X.N.Nodup)(hi:X.N[i]?=some n)(hk:X.env.scope.names.lookup n=some .local)(hg:Gl X x)(hm:X.mg x=some (.ref C0))(hdb:(x==("__debug__" : Str))=false)(hs:∀a,PSs (KB X a) (b0::suite) ts):F5 (CXe X.prog X.w) (Ni X pins D<|.ExceptHandler (some<|.Name x np) (some n) (b0::suite) hpos) (hx X.K C0 i ts D):=by
 rintro pins1 σ H s e s' I ⟨a,T,C,dx,p,rfl,y,C',ec,em,q⟩;obtain rfl:=Value.ref.inj ec;have I:=Br I;have J:=I.call' y.os y.un y.hok y.bare λb z=>absurd z (by simp);have hF:=J.stack;have hA:=J.ok.frames;rw[B]at hF hA;refine CV hA hF hfr y.tr λh2 T2 Q tr2 k2=>?_
 have M:s.heap.get? T2=none:=by
  cases z:s.heap.get? T2 with
  |none=>rfl
  |some o=>
   obtain⟨o1,z1⟩:=y.un.there T2 o z (by simp);exact absurd (W8 z1) (V9.mpr Q)
 have U:=y.hok.fresh Q
 have u2:Un (frs X.stack) [] H p s.heap h2:=Nm y.un (by rw[B];exact k2) λb g=>by
  rcases WA.mp g with rfl|g
  ·exact y.na
  ·rw[Wz.mp g];exact y.nT
 have ok2:=PL y.hok k2 (λb g=>J.stkFree b (by rw[B];exact g)) λb g=>by
  rcases WA.mp g with rfl|g
  ·exact y.fa
  ·rw[Wz.mp g];exact y.fT
 refine TJ tr2 λh3 G k3=>?_;have u3:=Nm u2 (k3.mono (by simp) λ_ z=>z) λb g=>by rw[Wz.mp g];exact M
 have L:=PL ok2 k3 (by simp) λb g=>by rw[Wz.mp g];exact U
 have J3:Inv X pins σ p {s' with heap:=h3}:=I.call' y.os u3 L y.bare λb z=>absurd z (by simp)
 have S3:Inv (KB X a) pins σ p {s' with heap:=h3}:=ND J3
 refine Jl (VX<|PN S3 hg hm ?_ hdb) (by intro z;cases z);obtain⟨_,⟨oe,vs,g1,g2,g3,g4⟩,_⟩:=id G;refine(PySem.W.exm_one J3.kIn ((show oe.cls=Value.ref C from Qf Prod.fst g2)▸(VS g1).andThen .now) em).here ?_
 refine codeAny_handlers_suite_as (TJ G λh4 tr4 k4=>?_);have l:=Nm u3 (k4.mono (by simp) λ_ z=>z) λb g=>by rw[Wz.mp g];exact M
 have u5:Un (frs X.stack) [] H (upd p a<|Kn a C dx) s.heap h4:=by
  have ne:∀b o,s.heap.get? b=some o->b≠a:=λb o z w=>by rw[w,y.na]at z;cases z
  have r:∀b o,p b=some o->b≠a:=λb o z w=>by rw[w,y.fa]at z;cases z
  refine⟨l.keep,l.slot,λb o z n m=>by rw[Xl (ne b o z)];exact l.free b o z n m,l.there,λb xs z=>?_,λb o u z=>?_,λb ps z=>?_⟩
  ·rw[Xl (r b _<|l.tups b xs z)];exact l.tups b xs z
  ·rw[Xl (r b _<|l.frzs b o u z)];exact l.frzs b o u z
  ·obtain⟨more,z1⟩:=l.tbls b ps z;exact⟨more,by rw[Xl (r b _ z1)];exact z1⟩
 have ok5:HOk X.prog X.w (upd p a<|Kn a C dx) h4:=λb ob e=>by
  by_cases g:b=a
  ·subst g;rw[Xw]at e;cases e
   exact Lh tr4
  ·rw[Xl g]at e;refine((PL L k4 (by simp) λb g=>by rw[Wz.mp g];exact U) b ob e).stay (λ_ _ _ z=>z) (λc z=>?_) λc xs z=>?_
   ·rw[Xl λw=>by rw[w,y.fa]at z;cases z];exact z
   ·rw[Xl λw=>by rw[w,y.fa]at z;cases z];exact z
 have J5:Inv X pins σ (upd p a<|Kn a C dx) {s' with heap:=h4}:=I.call' y.os u5 ok5 y.bare λb z=>absurd z (by simp)
 have S5:Inv (KB X a) pins σ (upd p a<|Kn a C dx) {s' with heap:=h4}:=ND J5
 refine NP (X:=KB X a) S5 hN hi (.inl hk) (v:=.ref a) rfl (λs6 S6=>?_) (.inr hk);refine WV (hs a pins s6 _ _ _ S6<|q a y.fa) (λf s7 h7=>?_) λ_ _ z=>z.elim
 have gone:∀{h:L2.St} {Y:Hp} {R:Unit->Shared->Prop},Inv (KB X a) pins h Y s7->(∀s8,Inv X pins (h.set i none) Y s8->R () s8)->wpAny (model X.prog X.w) X.A (do bindName X.env n .none;unbindBehindTheSuite X.env n hpos) R X.xe s7:=λ{h Y R} E hR=>by
  obtain⟨m,hn,hl⟩:=id E.loc;exact wpAny_nameGoes_keeps hk hn (by rw[show X.env.scope.kind=.function from J5.ok.kind];rfl) λh8 v hn8 hs8=>hR _ (G7 (Fp J5.ok E) hN hi hk hl hn hn8 hs8)
 cases f with
 |ret u=>obtain⟨v,h,Y,E,rv,q7⟩:=h7;exact gone E λs8 I8=>⟨v,_,_,I8,rv,q7⟩
 |_=>obtain⟨h,Y,E,q7⟩:=h7;exact gone E λs8 I8=>⟨_,_,I8,q7⟩
def RV{p:Ends->TS}(w:∀pins D,PSs (Ni X pins D<|.ExceptHandler (some<|.Name x np) (some n) (b0::suite) hpos) body (p D)) :
  PS X (.Try body [.ExceptHandler (some<|.Name x np) (some n) (b0::suite) hpos] [] [] pos) (λD l H=>p D D l H):=by
 intro pins s l H D I h;refine wpAny_Try_except (WV (w pins D [] s l H D (Zim I) h) (λf y o=>?_) λ_ _ z=>z);cases f with
 |next=>
  obtain⟨b,g,J,q⟩:=o;exact W1 ⟨b,g,Br J,q⟩
 |ret u=>obtain⟨v,b,g,J,r,q⟩:=o;exact⟨v,b,g,Br J,r,q⟩
 |_=>obtain⟨b,g,J,q⟩:=o;exact⟨b,g,Br J,q⟩
end
noncomputable def Xi(b:Yk)(x:Str):Addr:=match b x with
 |some (.ref C)=>C
 |_=>0
def FM(h:b x=some (.ref C)):Xi b x=C:=by unfold Xi;rw[h]
def K6{v pos}(h:∃u,X.mg x=some u/\RelV v u)(b:autoParam (Gl X x) au_0)(f:autoParam ((x==("__debug__" : Str))=false) au_1):PE X (.Name x pos) (tC v):=by
 obtain⟨u,l,g⟩:=h;exact BE b l g f
def Zgc{C pos}(h:X.mg x=some (.ref C))(b:autoParam (Gl X x) au_0)(f:autoParam ((x==("__debug__" : Str))=false) au_1):PE X (.Name x pos) (tC<|.ref C):=BE b h rfl f
end ExcR
namespace Own
open PySem PySem.Spec PyProof.Rows L2 M
section
variable {X:Cx}{pins:Yj}{σ:L2.St}{H:Hp}{s:Shared}
def Ld{p:Int×Int}{its}(r:Vals [V.int p.1,V.int p.2] its):∃f b,its=[.int p.1 f,.int p.2 b]:=by
 cases r with
 |cons n g=>
  cases g with
  |cons l h=>
   cases h
   obtain⟨f,rfl⟩:=n;obtain⟨b,rfl⟩:=l
   grind
def Zas{x y p q u v}(I:Inv X pins σ H s)(U:A.units<cLine)(L:RelV x u)(J:RelV y v)(Y:KP H x p)(hq:KP H y q):SeqAt.EqAt A s u v (decide (p=q)):=by
 obtain⟨a,rfl,C⟩:=Y;obtain⟨b,rfl,l⟩:=hq;obtain rfl:=L;obtain rfl:=J;by_cases n:a=b
 ·subst n;rw[C]at l
  have e:p=q:=by
   injection l with l;injection l with l;injection l with g f;injection f with f _;exact Prod.ext (V.int.inj g) (V.int.inj f)
  rw[W4 e];exact SeqAt.EqAt.same _
 ·obtain⟨_,T,N,G⟩:=(I.hok a _ C);obtain⟨_,Q,M,E⟩:=(I.hok b _ l);obtain⟨B,w,rfl⟩:=Ld N;obtain⟨r,o,rfl⟩:=Ld M
  have h:=SeqAt.RcAt.tuples (e:=λj=>if j=0 then p.1==q.1 else p.2==q.2) G E U (λj g f=>by
   have hj:j=0\/j=1:=by
    have h1':j<2:=g;lia
   rcases hj with rfl|rfl
   ·exact SeqAt.EqAt.int_int _ _ _ _
   ·exact SeqAt.EqAt.int_int _ _ _ _)
  have e:((List.range (min ([Value.int p.1 B,Value.int p.2 w].toArray).size ([Value.int q.1 r,Value.int q.2 o].toArray).size)).all (λj=>if j=0 then p.1==q.1 else p.2==q.2)&&([Value.int p.1 B,Value.int p.2 w].toArray).size==([Value.int q.1 r,Value.int q.2 o].toArray).size)=decide (p=q):=by
   show((List.range 2).all (λj=>if j=0 then p.1==q.1 else p.2==q.2)&&true)=decide (p=q);rw[Bool.and_true];have e2:(List.range 2).all (λj=>if j=0 then p.1==q.1 else p.2==q.2)=((p.1==q.1)&&(p.2==q.2)):=by simp[List.range,List.range.loop]
   rw[e2];by_cases g:p.1=q.1
   ·by_cases f:p.2=q.2
    ·rw[W4 (Prod.ext g f)];simp[g,f]
    ·rw[WH (λz=>f (by rw[z]))];simp[f]
   ·rw[WH (λz=>g (by rw[z]))];simp[g]
  rw[e]at h;exact SeqAt.EqAt.of_refs n h
noncomputable def eP(H:Hp)(q:Int×Int)(u:Value):Bool:=match u with
 | .ref a=>(match H a with
  |some (.tup [.int i,.int j])=>decide ((i,j)=q)
  |_=>false)
 |_=>false
def My{p q}(h:KP H v p)(r:RelV v u):eP H q u=decide (p=q):=by
 obtain⟨a,rfl,b⟩:=h;obtain rfl:=r;unfold eP;simp_all
theorem DB:∀{vs us}{ps:Yh},Vals vs us->LV KP H vs ps->us.any (eP H q)=decide (q∈ps)
 |_,_,[],.nil,_=>rfl
 |_,_,_::_,.nil,h|v::vs,u::us,[],.cons _ _,h=>absurd h.1 (by simp)
 |v::vs,u::us,p::ps,.cons r t,h=>by
  obtain⟨g,e,b⟩:=h.2 0 p rfl;cases e
  have f:LV KP H vs ps:=⟨by simpa using h.1,λi x e=>h.2 (i+1) x e⟩;rw[Vt,My b r,DB t f];by_cases l:p=q
  ·grind
  ·grind
noncomputable def Si(neg:Bool):R2:=λx y H Q=>∃(l:Addr) (b:Yh) (q:Int×Int),y=.ref l/\KP H x q/\LAt KP H l b/\Q (.bl (if neg then !decide (q∈b)else decide (q∈b))) H
theorem A7{x v q}(I:Inv X pins σ H s)(g:A.units<cLine)(f:RelV x v)(hx:KP H x q):∀{vs us}{ps:Yh},Vals vs us->LV KP H vs ps->∀u∈us,SeqAt.EqAt A s u v (eP H q u)
 |_,_,_,.nil,_,u,b=>by cases b
 |w::vs,u::us,[],.cons _ _,h,_,_=>absurd h.1 (by simp)
 |w::vs,u::us,p::ps,.cons r t,h,l,b=>by
  obtain⟨o,e,hw⟩:=h.2 0 p rfl;cases e
  have n:LV KP H vs ps:=⟨by simpa using h.1,λi x e=>h.2 (i+1) x e⟩;rcases WA.mp b with rfl|b
  ·rw[My hw r];exact Zas I g r f hw hx
  ·exact A7 I g f hx t n l b
def Zgy(p:X.A.in1.units<cLine):OpR X (compareOp .In) (Si false):=by
 intro pins s σ H x y v u Q I n g h;obtain⟨l,C,q,rfl,hx,⟨B,z,f⟩,k⟩:=h;cases g
 obtain⟨b,r,o,E⟩:=I.list (SqL.of z);refine SeqAt.in_listAt (eP H q) o.isList (λw hw=>A7 I p n hx r f w (by grind)) ⟨.bl _,H,I,rfl,?_⟩;rwa[show b.toArray.any (eP H q)=b.any (eP H q) by simp,DB r f]
def Rq(p:X.A.in1.units<cLine):OpR X (compareOp .NotIn) (Si true):=by
 intro pins s σ H x y v u Q I n g h;obtain⟨l,C,q,rfl,hx,⟨B,z,f⟩,k⟩:=h;cases g
 obtain⟨b,r,o,E⟩:=I.list (SqL.of z);refine SeqAt.notIn_listAt (eP H q) o.isList (λw hw=>A7 I p n hx r f w (by grind)) ⟨.bl _,H,I,rfl,?_⟩;rwa[show b.toArray.any (eP H q)=b.any (eP H q) by simp,DB r f]
end
end Own
namespace M
open PySem PySem.Spec PyProof.Rows L2 Own
section
variable {α:Type}{R:Hp->V->α->Prop}{H:Hp}
noncomputable def pick(c:α->Bool)(d:V×α):Option V:=if c d.2=true then some d.1 else none
end
end M
namespace Own
open PySem PySem.Spec PyProof.Rows L2
section
variable {X:Cx}{K:Yg}
def Zgh(x:X.calm=true)(z:autoParam (X.K=K) au_0):Kg X (.builtin "sum") (λxs H Q=>∃(p:Addr) (ns:Yi),xs=[.ref p]/\SqL K H p (ns.map V.int)/\Q (.int ns.sum) H):=by
 subst z;intro pins s C H xs E Q I n h;obtain⟨p,ns,rfl,y,q⟩:=h;obtain⟨u,rfl,o⟩:=n.one;obtain rfl:=o;obtain⟨f,r,v,_⟩:=I.list y;have l:IntsAre f ns:=by simpa using BQ r
 obtain⟨b,hx⟩:=l.allInts.items;have g:=v.isList;rw[hx]at g;refine sum_intListG (I.ok.hd x) g λL G J w=>?_
 have B:ns=b.toList.map (·.1):=by
  rw[←nums_intItems,←hx];exact l.numsOf.symm
 have A:preSum (numAt b) b.size=ns.sum:=by
  rw[preSum_eq,List.take_of_length_le (by simp),B]
 rw[A];exact⟨.int ns.sum,H,I.kept w,⟨_,rfl⟩,q⟩
def R3(J:X.calm=true)(N:autoParam (X.K=K) au_0):Kg X (.builtin "min") (λxs H Q=>∃(p:Addr) (ns:Yi),xs=[.ref p]/\SqL K H p (ns.map V.int)/\0<ns.length/\∀M,M∈ns->(∀a∈ns,M<=a)->Q (.int M) H):=by
 subst N;intro pins s U H xs Y Q I z h;obtain⟨p,ns,rfl,L,n,q⟩:=h;obtain⟨u,rfl,A⟩:=z.one;obtain rfl:=A;obtain⟨g,r,B,_⟩:=I.list L;have w:IntsAre g ns:=by simpa using BQ r
 obtain⟨f,e⟩:=w.allInts.items;have o:=B.isList;rw[e]at o;have b:ns=f.toList.map (·.1):=by rw[←w.numsOf,←nums_intItems,←e]
 have l:0<f.size:=by
  have y:=n;rw[b,Wx,Qc]at y;exact y
 refine min_intList (I.ok.hd J) o l λv h' tk C E=>?_;obtain⟨t,rfl⟩:=intItems_at C;obtain⟨h1,T⟩:=argBest_lt (numAt f) (f.size-1);refine⟨.int _,H,I.kept E,⟨_,rfl⟩,q _ ?_ λa x=>?_⟩
 ·rw[b,numAt_eq];exact getD_mem (by rw[Wx,Qc];lia)
 ·rw[b]at x;obtain⟨j,G,rfl⟩:=Qt.mp x;rw[Wx,Qc]at G
  have:=T j (by lia)
  rw[numAt_eq f j]at this
  grind
theorem Aw:∀{bs}{us:Yo},Vals (bs.map V.bl) us->LSm.BoolsAre us bs
 |[],_,.nil=>.nil
 |b::r,_,.cons h t=>by
  cases h
  exact .cons b (Aw t)
def MW(B:X.calm=true)(E:autoParam (X.K=K) au_0):Kg X (.builtin "any") (λxs H Q=>∃(p:Addr) (bs:List Bool),xs=[.ref p]/\SqL K H p (bs.map V.bl)/\Q (.bl<|bs.any id) H):=by
 subst E;intro pins s G H xs J Q I w h;obtain⟨p,bs,rfl,C,q⟩:=h;obtain⟨u,rfl,x⟩:=w.one;obtain rfl:=x;obtain⟨f,r,y,_⟩:=I.list C;have n:=Aw r;have l:=y.isList;have g:p<s.heap.objs.size:=by obtain⟨_,e,_⟩:=l;exact W8 e
 refine call_any_walk (VG l ?_)
 refine⟨s.heap.objs.size,[s.heap.objs.size,p],[s.heap.objs.size],f.toArray.size,_,_,λi=>(bs[i]?).getD false,rfl,Walks.list (A:=X.A.in1) (I.ok.hd B) _ p (WM g) f.toArray,
  ⟨⟨_,W9 _ rfl,rfl,rfl⟩,l.push _⟩,λi v M U Y N o=>?_,λT L z=>?_⟩
 ·obtain⟨b,e,rfl⟩:=n.get i v (by grind);simp only[e,Option.getD_some]at o;exact QG o
 ·have e:((List.range f.toArray.size).any λi=>(bs[i]?).getD false)=bs.any id:=by
   rw[WX,n.length];exact LSm.range_any bs
  rw[e];exact⟨.bl (bs.any id),H,I.kept (LSm.kept_iter z),rfl,q⟩
end
end Own
namespace M
open PySem PySem.Spec PyProof.Rows L2 Own
def Sr(b:Yh)(r:Yi):Prop:=∀(i:Nat) (x y:Int),r[i]?=some x->r[i+1]?=some y->(x,y)∈b
structure Ring (hs:Yi) (ws:Yh) (r:Yi):Prop where
 two:2<=r.length
 nodup:r.Nodup
 sub:∀x∈r,x∈hs
 chain:Sr ws r
 last:∀x y,r[0]?=some x->r[r.length-1]?=some y->(y,x)∈ws
theorem Co:∀{xs b:Yi},xs.Nodup->(∀x∈xs,x∈b)->xs.length<=b.length
 |[],_,_,_=>Q6 _
 |x::xs,b,g,h=>by
  obtain⟨n,l⟩:=Qo.mp g;have o:=Co l λz f=>(List.mem_erase_of_ne (λe:z=x=>n (e▸f))).mpr (h z<|WG _ f)
  grind
def Zi5(G:∀q∈s,q.1≠q.2)(w:g≠[])(h:∀x∈g,∃y∈g,(y,x)∈s):∃r,Ring g s r:=by
 have grow:∀n r,r≠[]->r.Nodup->(∀x∈r,x∈g)->Sr s r->g.length<r.length+n->∃r,Ring g s r:=by
  intro n
  induction n with
  |zero=>
   intro r B u sub A H
   have:=Co u sub
   lia
  |succ n E=>
   intro r B u sub A H;cases r with
   |nil=>exact absurd rfl B
   |cons x t=>
    obtain⟨y,v,hw⟩:=h x (sub x (WS ..));by_cases C:y∈x::t
    ·obtain⟨i,M,e⟩:=Qt.mp C
     have L:i≠0:=λz=>by
      subst z;exact G _ hw e.symm
     have p:((x::t).take (i+1)).length=i+1:=by
      rw[Qp];lia
     refine⟨(x::t).take (i+1),by lia,u.sublist (VH _ _),λz o=>sub z (List.mem_of_mem_take o),λk a b l f=>?_,λa b l f=>?_⟩
     ·have J:k+1<i+1:=by
       have:=(WI.mp f).1
       lia
      rw[QE (by lia)]at l;rw[QE J]at f;exact A k a b l f
     ·rw[p,Ju,QE (by lia),Wy M,e]at f;cases l
      cases f
      exact hw
    ·refine E (y::x::t) (by simp) (Qo.mpr ⟨C,u⟩) (λz o=>?_) (λk a b l f=>?_) (by rw[Qq];lia)
     ·rcases WA.mp o with rfl|o
      ·exact v
      ·exact sub z o
     ·cases k with
      |zero=>
       cases l
       cases f
       exact hw
      |succ k=>exact A k a b l f
 obtain⟨x,hx⟩:=List.exists_mem_of_ne_nil g w;exact grow (g.length+1) [x] (by simp) (by simp) (λy v=>by rw[Wz.mp v];exact hx) (λi a b l f=>by simp at f) (by show g.length<1+(g.length+1);lia)
end M
namespace M
def sl:Yi->Yi->Prop
 |x::xs,y::b=>x<y\/(x=y/\sl xs b)
 |_,_=>False
theorem Ca:∀{a b} x y,sl a b->sl (a++[x]) (b++[y])
 |[],[],_,_,h|[],_::_,_,_,h|_::_,[],_,_,h=>by unfold sl at h;exact h.elim
 |p::a,q::b,x,y,h=>by
  rw[Vo,Vo];unfold sl at h ⊢;rcases h with h|⟨g,f⟩
  ·lia
  ·exact .inr ⟨g,Ca x y f⟩
theorem M8:∀{a}{x y:Int},x<y->sl (a++[x]) (a++[y])
 |[],x,y,h=>.inl h
 |p::a,x,y,h=>by
  exact .inr ⟨rfl,M8 h⟩
theorem A3:∀{a b c:Yi},sl a b->sl b c->sl a c
 |[],b,c,h,_|_::_,[],_,h,_|_::_,_::_,[],_,h=>by unfold sl at h;exact h.elim
 |x::a,y::b,z::c,g,f=>by
  unfold sl at g f ⊢;rcases g with g|⟨g,n⟩
  ·lia
  ·rcases f with f|⟨f,l⟩
   ·lia
   ·exact .inr ⟨by lia,A3 n l⟩
noncomputable def Xq(g:Int):Yi->Int
 |[]=>g
 |x::t=>Xq x t
theorem K8(g:Int):∀a b,Xq g (a++b)=Xq (Xq g a) b
 |[],b=>rfl
 |x::a,b=>K8 x a b
theorem By(g:Int):∀t,(g::t)[t.length]?=some (Xq g t)
 |[]=>rfl
 |x::t=>by
  exact By x t
def Path(C:Int->Prop)(b:Yh):Int->Yi->Prop
 |_,[]=>True
 |g,x::t=>C x/\(g,x)∈b/\Path C b x t
section
variable {C:Int->Prop}{ws:Yh}
theorem path_app:∀{g}{a b:Yi},Path C ws g (a++b)↔Path C ws g a/\Path C ws (Xq g a) b
 |g,[],b=>⟨λh=>⟨trivial,h⟩,λh=>h.2⟩
 |g,x::a,b=>by
  constructor
  ·rintro⟨n,l,f⟩
   have:=path_app.mp f
   exact⟨⟨n,l,this.1⟩,this.2⟩
  ·rintro⟨⟨n,l,f⟩,o⟩;exact⟨n,l,path_app.mpr ⟨f,o⟩⟩
theorem Gy:∀{g}{t:Yi},Path C ws g t->∀x∈t,C x
 |g,[],_,x,h=>by cases h
 |g,y::t,⟨f,_,b⟩,x,h=>by
  rcases WA.mp h with rfl|h
  ·lia
  ·exact Gy b x h
theorem Mw:∀{g}{t:Yi},Path C ws g t->Sr ws (g::t)
 |g,[],_=>λi x y n b=>by simp at b
 |g,z::t,⟨n,b,l⟩=>λi x y h f=>by
  cases i with
  |zero=>grind
  |succ i=>exact Mw l i x y h f
theorem EL:∀{g}{t:Yi},Sr ws (g::t)->(∀x∈t,C x)->Path C ws g t
 |g,[],_,_=>trivial
 |g,z::t,h,b=>⟨b z WS,h 0 g z rfl rfl,EL (λi x y l f=>h (i+1) x y l f) λx hx=>b x (WG _ hx)⟩
end
def Gr(b:Yi)(l:Int):Int->Prop:=λx=>x∈b/\l<x
def KI(f:Yi)(b:Yh)(l:Int)(t:Yi):Prop:=Path (Gr f l) b l t/\(Xq l t,l)∈b
def RF(f:Yi)(b:Yh)(l:Int)(r:Yi):Prop:=
 (r=[]/\∀t,¬KI f b l t)\/∃t,r=l::t/\KI f b l t/\∀u,KI f b l u->t.length<u.length\/(t.length=u.length/\(t=u\/sl t u))
structure Lev (hs:Yi) (ws:Yh) (l:Int) (k:Nat) (ps:List (Yi)) (ls:Yi):Prop where
 way:∀p∈ps,p.length=k/\Path (Gr hs l) ws l p
 srt:ps.Pairwise sl
 lin:∀h∈ls,Gr hs l h
 lsrt:ls.Pairwise (· < ·)
 cover:∀t,t.length<=k->Path (Gr hs l) ws l t->Xq l t∉ls
 first:∀t,t.length=k->Path (Gr hs l) ws l t->(∃p∈ps,Xq l p=Xq l t/\(p=t\/sl p t))\/∃u,u.length<k/\Path (Gr hs l) ws l u/\Xq l u=Xq l t
 none:∀t,t.length<k->¬KI hs ws l t
 comp:∀h,Gr hs l h->h∉ls->∃t,t.length<=k/\Path (Gr hs l) ws l t/\Xq l t=h
section
variable {hs:Yi}{ws:Yh}{l:Int}{k:Nat}{ps:List (Yi)}{ls:Yi}
def Lev.start (r:ls.Pairwise (· < ·)) (f:∀h,h∈ls↔Gr hs l h):Lev hs ws l 0 [[]] ls:=by
 have nil:∀t:Yi,t.length=0->t=[]:=λt h=>VE.mp h;refine⟨λp n=>?_,by simp,λh g=>(f h).mp g,r,λt b _ h=>?_,λt b _=>.inl ⟨[],by simp,by rw[nil t b],.inl (nil t b).symm⟩,λt b=>by lia,λh g o=>absurd ((f h).mpr g) o⟩
 ·rw[Wz.mp n];trivial
 ·rw[nil t (by lia)]at h
  have:=((f _).mp h).2
  exact absurd this (by show ¬l<l;lia)
def Lev.found (L:Lev hs ws l k ps ls) {p i} (o:i<ps.length) (r:ps[i]=p) (G:(Xq l p,l)∈ws) (E:∀j h,j<i->(Xq l ps[j],l)∉ws):RF hs ws l (l::p):=by
 have B:p∈ps:=by rw[←r];exact WY o
 obtain⟨N,w⟩:=L.way p B;refine .inr ⟨p,rfl,⟨w,G⟩,λu f=>?_⟩;by_cases J:u.length<k
 ·exact absurd f (L.none u J)
 ·by_cases H:u.length=k
  ·rcases L.first u H f.1 with⟨q,hq,M,g⟩|⟨v,A,y,x⟩
   ·refine .inr ⟨by lia,?_⟩;obtain⟨j,h,s⟩:=Qt.mp hq;have n:(Xq l ps[j],l)∈ws:=by rw[s,M];exact f.2
    have C:=Nat.le_of_not_lt λz=>E j h z n
    have b:p=q\/sl p q:=by
     by_cases e:i=j
     ·grind
     ·have:=Qv.mp L.srt i j o h (by lia)
      rw[r,s]at this;exact .inr this
    rcases b with rfl|b
    ·exact g
    ·rcases g with rfl|g
     ·exact .inr b
     ·exact .inr (A3 b g)
   ·exact absurd ⟨y,by rw[x];exact f.2⟩ (L.none v A)
  ·exact .inl (by lia)
def Lev.none_here (L:Lev hs ws l k ps ls) (h:∀p∈ps,(Xq l p,l)∉ws):∀t,t.length<k+1->¬KI hs ws l t:=λt s b=>by
 by_cases o:t.length<k
 ·exact L.none t o b
 ·rcases L.first t (by lia) b.1 with⟨q,hq,r,u⟩|⟨v,n,g,f⟩
  ·exact h q hq (by rw[r];exact b.2)
  ·exact L.none v n ⟨g,by rw[f];exact b.2⟩
def Lev.over (L:Lev hs ws l k [] ls):RF hs ws l []:=by
 refine .inl ⟨rfl,?_⟩
 have early:∀n t,t.length=n->Path (Gr hs l) ws l t->∃u,u.length<k/\Path (Gr hs l) ws l u/\Xq l u=Xq l t:=by
  intro n
  induction n with
  |zero=>
   intro t b f;by_cases M:0<k
   ·exact⟨t,by lia,f,rfl⟩
   ·rcases L.first t (by lia) f with⟨q,hq,_⟩|⟨v,p,_⟩
    ·cases hq
    ·lia
  |succ n H=>
   intro t b f;have y:t≠[]:=λz=>by rw[z]at b;cases b
   have o:=(QM y).symm;generalize t.getLast y=x at o;generalize t.dropLast=s at o;subst o;obtain⟨G,p2⟩:=path_app.mp f;obtain⟨u,r,h,g⟩:=H s (by simpa using b) G;have w:=path_app.mpr ⟨h,by rw[g];exact p2⟩;have A:Xq l (u++[x])=Xq l (s++[x]):=by rw[K8,K8];rfl
   by_cases J:(u++[x]).length<k
   ·exact⟨_,J,w,A⟩
   ·rcases L.first (u++[x]) (by grind) w with⟨q,hq,_⟩|⟨v,p,E,C⟩
    ·cases hq
    ·exact⟨v,p,E,C.trans A⟩
 intro t B;obtain⟨u,r,h,g⟩:=early t.length t rfl B.1;exact L.none u r ⟨h,by rw[g];exact B.2⟩
structure LG (ws:Yh) (l:Int) (P:Yi->Int->Prop) (lg:List (Yi)):Prop where
 mem:∀q∈lg,∃p h,P p h/\q=p++[h]/\(Xq l p,h)∈ws
 srt:lg.Pairwise sl
 has:∀p h,P p h->(Xq l p,h)∈ws->∃p',p'++[h]∈lg/\(p'=p\/sl p' p)
def Lev.next (L:Lev hs ws l k ps ls) (hn:∀p∈ps,(Xq l p,l)∉ws) (G:LG ws l (λp h=>p∈ps/\h∈ls) E)
  (e:y=ls.filter λh=>decide (¬h∈E.map (Xq l))):Lev hs ws l (k+1) E y:=by
 have b:∀h,h∈y↔h∈ls/\¬h∈E.map (Xq l):=λh=>by rw[e,Q1,VN]
 have f:∀q∈E,q.length=k+1/\Path (Gr hs l) ws l q:=λq hq=>by
  obtain⟨p,h,⟨g,h2⟩,rfl,h3⟩:=G.mem q hq;obtain⟨w1,N⟩:=L.way p g;exact⟨by simp[w1],path_app.mpr ⟨N,L.lin h h2,h3,trivial⟩⟩
 have reach:∀s x,s.length=k->Path (Gr hs l) ws l s->Gr hs l x->(Xq l s,x)∈ws->x∈ls->∃p∈ps,Xq l p=Xq l s/\(p=s\/sl p s):=λs x g h2 h3 h4 h5=>by
  rcases L.first s g h2 with z|⟨v,v1,v2,v3⟩
  ·exact z
  ·have:=L.cover (v++[x]) (by simp;lia) (path_app.mpr ⟨v2,h3,by rw[v3];exact h4,trivial⟩)
   rw[K8]at this;exact absurd h5 this
 refine⟨f,G.srt,λh hh=>L.lin h ((b h).mp hh).1,?_,λt A J hl=>?_,λt A J=>?_,L.none_here hn,λh hg hnl=>?_⟩
 ·rw[e];exact L.lsrt.filter _
 ·obtain⟨C,m2⟩:=(b _).mp hl;by_cases g:t.length<=k
  ·exact L.cover t g J C
  ·have w:t≠[]:=λz=>by rw[z]at g;simp at g
   have o:=(QM w).symm;generalize t.getLast w=x at o;generalize t.dropLast=s at o;subst o;obtain⟨U,p2,r,_⟩:=path_app.mp J;rw[K8]at C m2;obtain⟨p,n,B,_⟩:=reach s x (by simp at A g;lia) U p2 r C;obtain⟨Y,k1,_⟩:=G.has p x ⟨n,C⟩ (by rw[B];exact r);exact m2 (WQ.mpr ⟨_,k1,by rw[K8];rfl⟩)
 ·have w:t≠[]:=λz=>by rw[z]at A;simp at A
  have o:=(QM w).symm;generalize t.getLast w=x at o;generalize t.dropLast=s at o;subst o;obtain⟨U,p2,r,_⟩:=path_app.mp J;have hs':s.length=k:=by simpa using A
  by_cases hx:x∈ls
  ·obtain⟨p,n,B,M⟩:=reach s x hs' U p2 r hx;obtain⟨Y,k1,H⟩:=G.has p x ⟨n,hx⟩ (by rw[B];exact r);refine .inl ⟨_,k1,by rw[K8,K8];rfl,?_⟩
   have:Y=s\/sl Y s:=by
    rcases H with rfl|H
    ·exact M
    ·rcases M with rfl|M
     ·exact .inr H
     ·exact .inr (A3 H M)
   rcases this with rfl|h
   ·exact .inl rfl
   ·exact .inr (Ca x x h)
  ·obtain⟨u,u1,T,Q⟩:=L.comp x p2 hx;exact .inr ⟨u,by lia,T,by rw[Q,K8];rfl⟩
 ·by_cases hx:h∈ls
  ·have:=Qn λz=>hnl ((b h).mpr ⟨hx,z⟩)
   obtain⟨q,hq,B⟩:=WQ.mp this;obtain⟨w1,N⟩:=f q hq;exact⟨q,by lia,N,B⟩
  ·obtain⟨u,u1,T,Q⟩:=L.comp h hg hx;exact⟨u,by lia,T,Q⟩
end
def FR(b:Yi)(f:Yh)(r:Yi):Prop:=
 (r=[]/\∀l∈b,∀t,¬KI b f l t)\/∃l t,r=l::t/\l∈b/\KI b f l t/\∀m∈b,∀u,KI b f m u->t.length<u.length\/(t.length=u.length/\(l<m\/(l=m/\(t=u\/sl t u))))
theorem GI:∀(r:Yi),r≠[]->∃i,∃h:i<r.length,∀x∈r,r[i]<=x
 |[],h=>absurd rfl h
 |[a],_=>⟨0,by simp,λx hx=>by rw[Wz.mp hx];exact Int.le_refl _⟩
 |a::b::r,_=>by
  obtain⟨i,f,h⟩:=GI (b::r) (by simp);by_cases c:a<=(b::r)[i]
  ·refine⟨0,by simp,λx hx=>?_⟩;rcases WA.mp hx with rfl|hx
   ·exact Int.le_refl _
   ·grind
  ·refine⟨i+1,by simpa using f,λx hx=>?_⟩;have e:(a::b::r)[i+1]'(by grind)=(b::r)[i]:=rfl;rcases WA.mp hx with rfl|hx
   ·lia
   ·exact h x hx
def EO(r:Yi){i j}(b:i<=r.length):(r.drop i++r.take i)[j]?=if i+j<r.length then r[i+j]? else if j<r.length then r[i+j-r.length]? else none:=by grind
def Zdu(R:Ring w u r):∃l∈w,∃t,KI w u l t/\t.length+1=r.length:=by
 have two:=R.two;obtain⟨i,p,n⟩:=GI r (λz=>by rw[z]at two;simp at two);have erot:r.drop i++r.take i=r[i]::(r.drop (i+1)++r.take i):=by rw[Vy p];rfl
 have o:(r.drop (i+1)++r.take i).length+1=r.length:=by rw[WE,List.length_drop,Qp];lia
 have G:Sr u (r[i]::(r.drop (i+1)++r.take i)):=by
  rw[←erot];intro j x y g b;rw[EO r (by lia)]at g b;by_cases C:i+(j+1)<r.length
  ·rw[W6 C]at b;rw[W6 (by lia)]at g;exact R.chain (i+j) x y g b
  ·rw[W3 C]at b;by_cases B:j+1<r.length
   ·rw[W6 B]at b;by_cases A:i+j<r.length
    ·rw[W6 A]at g;have f:i+j=r.length-1:=by lia
     have s:i+(j+1)-r.length=0:=by lia
     rw[f]at g;rw[s]at b;exact R.last y x b g
    ·rw[W3 A,W6 (by lia)]at g;have e:i+(j+1)-r.length=(i+j-r.length)+1:=by lia
     rw[e]at b;exact R.chain _ x y g b
   ·rw[W3 B]at b;cases b
 refine⟨r[i],R.sub _ (WY p),r.drop (i+1)++r.take i,⟨EL G λx hx=>?_,?_⟩,o⟩
 ·have h:=(WL.mp hx).elim List.mem_of_mem_drop List.mem_of_mem_take;refine⟨R.sub x h,Int.lt_iff_le_and_ne.mpr ⟨n x h,λz=>?_⟩⟩
  have v:(r.drop i++r.take i).Nodup:=by
   have:(r.take i++r.drop i).Perm (r.drop i++r.take i):=List.perm_append_comm
   rw[←this.nodup_iff,List.take_append_drop];exact R.nodup
  rw[erot]at v;exact(Qo.mp v).1 (by rw[z];exact hx)
 ·have f:=By r[i] (r.drop (i+1)++r.take i);rw[←erot,EO r (by lia)]at f;have s:(r.drop (i+1)++r.take i).length=r.length-1:=by lia
  rw[s]at f;by_cases c:i=0
  ·subst c;rw[W6 (by lia)]at f;exact R.last _ _ (Wy p) (by simpa using f)
  ·rw[W3 (by lia),W6 (by lia)]at f;have E:i+(r.length-1)-r.length=i-1:=by lia
   rw[E]at f;exact R.chain (i-1) _ _ f (by rw[show i-1+1=i by lia];exact Wy p)
theorem LJ:∀{t:Yi},¬t.Nodup->∃a x b c,t=a++x::(b++x::c)
 |[],h=>absurd Vk h
 |y::t,h=>by
  by_cases f:y∈t
  ·obtain⟨b,c,e⟩:=List.append_of_mem f;exact⟨[],y,b,c,by rw[e];rfl⟩
  ·obtain⟨a,x,b,c,e⟩:=LJ λz=>h (Qo.mpr ⟨f,z⟩)
   grind
def Zak{h l t}(w:∀q∈h,q.1≠q.2)(A:l∈n)(f:KI n h l t)(r:∀u,KI n h l u->t.length<=u.length):Ring n h (l::t):=by
 have p:t≠[]:=λz=>by
  have g:=f.2;rw[z]at g;exact w _ g rfl
 have s:=Gy f.1;refine⟨by have:=List.length_pos_iff.mpr p;simp;lia,Qo.mpr ⟨λz=>absurd (s l z).2 (by lia),?_⟩,λx hx=>?_,Mw f.1,λx y o g=>?_⟩
 ·refine Qn λz=>?_;obtain⟨a,x,b,c,e⟩:=LJ z;have o:=f.1;rw[e]at o;obtain⟨v,p2⟩:=path_app.mp o
  have C:KI n h l (a++x::c):=by
   refine⟨path_app.mpr ⟨v,p2.1,p2.2.1,((path_app (a:=x::b)).mp p2).2.2.2⟩,?_⟩
   have B:Xq l (a++x::c)=Xq l t:=by
    rw[e,K8,K8];show Xq x c=Xq x (b++x::c);rw[K8];rfl
   rw[B];exact f.2
  grind
 ·rcases WA.mp hx with rfl|hx
  ·exact A
  ·exact(s x hx).1
 ·cases o
  simp only[Qq,Ju]at g;rw[(By l t)]at g;cases g
  exact f.2
def FR.none_iff {b r} (o:∀q∈b,q.1≠q.2) (F:FR p b r):r=[]↔¬ ∃r,Ring p b r:=by
 constructor
 ·rintro rfl ⟨r,R⟩;obtain⟨l,f,t,g,_⟩:=Zdu R;rcases F with⟨_,F⟩|⟨_,_,e,_⟩
  ·grind
  ·grind
 ·intro h;rcases F with⟨e,_⟩|⟨l,t,rfl,f,g,s⟩
  ·exact e
  ·refine absurd ⟨_,Zak o f g λu n=>?_⟩ h
   grind
end M
namespace Pu
open PySem PySem.Spec PyProof.Rows L2 Own
inductive D where
 |int (i:Int)|bl (b:Bool)|non|str (x:Str)|ty (n:String)|tup (ds:List D)|lst (ds:List D)|scr (ns:Yi)|dK (kvs:List (Key×V))|dT (kvs:List (List Key×V))|loc (a:Addr) (d:D)|err (C:Addr)|ref (a:Addr)|ins (C:Addr) (xs:Yp) (ds:List D)|dF (kvs:List (List Key×V))|erM (C:Addr) (r:Yi)|fL (ns:Yi)
mutual
inductive Rp (K:Yg) (H:Hp):D->V->Prop
 |int (i:Int):Rp K H (.int i) (.int i)
 |bl (b:Bool):Rp K H (.bl b) (.bl b)
 |non:Rp K H .non .non
 |str (x:Str):Rp K H (.str x) (.str x)
 |ty (n:String):Rp K H (.ty n) (.ty n)
 |tup {ds:List D} {vs:List V} {a:Addr}:H a=some (.tup vs)->Rps K H ds vs->Rp K H (.tup ds) (.ref a)
 |lst {ds:List D} {vs:List V} {a:Addr}:H a=some (.lst vs)->Rps K H ds vs->Rp K H (.lst ds) (.ref a)
 |scr {ns:Yi} {a:Addr}:SqL K H a (ns.map V.int)->Rp K H (.scr ns) (.ref a)
 |dK {kvs:List (Key×V)} {a:Addr}:H a=some (.dK kvs)->Rp K H (.dK kvs) (.ref a)
 |dT {kvs:List (List Key×V)} {a:Addr}:H a=some (.dT kvs)->Rp K H (.dT kvs) (.ref a)
 |dF {kvs:List (List Key×V)} {o:Obj} {a:Addr}:H a=some (.frz o<|.dT kvs)->Rp K H (.dF kvs) (.ref a)
 |loc {d:D} {a:Addr}:Rp K H d (.ref a)->Rp K H (.loc a d) (.ref a)
 |err {C a:Addr}:H a=some (ExcR.B9 a C)->Rp K H (.err C) (.ref a)
 |ref (a:Addr):Rp K H (.ref a) (.ref a)
 |erM {C a dx l:Addr} {o:Obj} {r:Yi}:H a=some (ExcR.Kn a C<|some dx)->H dx=some (.xd [("members",.ref l)])->H l=some (.frz o<|.lst<|r.map V.int)->Rp K H (.erM C r) (.ref a)
 |fL {a:Addr} {o:Obj} {ns:Yi}:H a=some (.frz o<|.lst<|ns.map V.int)->Rp K H (.fL ns) (.ref a)
 |ins {C a dx:Addr} {xs:Yp} {ds:List D} {vs:List V}:H a=some (.ins C dx<|xs.zip vs)->xs.length=vs.length->Rps K H ds vs->Rp K H (.ins C xs ds) (.ref a)
inductive Rps (K:Yg) (H:Hp):List D->List V->Prop
 |nil:Rps K H [] []
 |cons {d:D} {v:V} {ds:List D} {vs:List V}:Rp K H d v->Rps K H ds vs->Rps K H (d::ds) (v::vs)
end
section
variable {K:Yg}{H H':Hp}
def Rp.mono (S:Same H H') {d:D}{v:V}:Rp K H d v->Rp K H' d v:=
 Rp.rec (motive_1:=λd v _=>Rp K H' d v) (motive_2:=λg f _=>Rps K H' g f) .int .bl .non .str .ty (λh _ r=>.tup (S _ _ h) r) (λh _ r=>.lst (S _ _ h) r) (λh=>.scr (S.seq h)) (λh=>.dK (S _ _ h)) (λh=>.dT (S _ _ h)) (λh=>.dF (S _ _ h)) (λ_ h=>.loc h) (λh=>.err (S _ _ h)) .ref (λa b c=>.erM (S _ _ a) (S _ _ b) (S _ _ c)) (λh=>.fL (S _ _ h)) (λh e _ r=>.ins (S _ _ h) e r) .nil λ_ _=>.cons
def Rps.mono (S:Same H H') {ds:List D}:∀{vs:List V},Rps K H ds vs->Rps K H' ds vs:=by
 induction ds with
 |nil=>intro _ h;cases h;exact .nil
 |cons _ _ f=>intro _ h;cases h with|cons a b=>exact .cons (Rp.mono S a) (f b)
def Rps.len:∀{ds}{vs:List V},Rps K H ds vs->vs.length=ds.length:=by
 intro ds
 induction ds with
 |nil=>
  intro _ h;cases h
  rfl
 |cons _ _ b=>
  intro _ h;cases h with
  |cons h r=>
   exact Qf (· + 1) (b r)
def Rps.get:∀{ds vs}{i:Nat}{d:D},Rps K H ds vs->ds[i]?=some d->∃v,vs[i]?=some v/\Rp K H d v:=by
 intro ds
 induction ds with
 |nil=>
  intro _ i _ h e;simp at e
 |cons _ _ b=>
  intro _ i d h e;cases h with
  |cons h r=>
   cases i with
   |zero=>
    simp at e;subst e;exact⟨_,rfl,h⟩
   |succ i=>
    obtain⟨v,g,f⟩:=b r (by simpa using e);exact⟨v,by simpa using g,f⟩
def Rps.append:∀{ds es}{vs us:List V},Rps K H ds vs->Rps K H es us->Rps K H (ds++es) (vs++us):=by
 intro ds
 induction ds with
 |nil=>
  intro _ _ _ h s;cases h
  exact s
 |cons _ _ b=>
  intro _ _ _ h s;cases h with
  |cons h r=>
   exact .cons h (b r s)
theorem Rps.drop:∀{ds vs} n,Rps K H ds vs->Rps K H (ds.drop n) (vs.drop n)
 |_,_,0,r=>r
 |_,_,_+1,.nil=>.nil
 |_,_,n+1,.cons _ r=>Rps.drop n r
theorem Rps.take:∀{ds vs} n,Rps K H ds vs->Rps K H (ds.take n) (vs.take n)
 |_,_,0,_|_,_,_+1,.nil=>.nil
 |_,_,n+1,.cons h r=>.cons h (Rps.take n r)
end
mutual
noncomputable def imm:D->Bool
 | .tup b=>Kq b
 | .lst _=>false
 | .scr _=>false
 | .dK _=>false
 | .dT _=>false
 | .loc _ _=>false
 | .err _=>false
 | .erM _ _=>false
 | .ins _ _ _=>false
 |_=>true
noncomputable def Kq:List D->Bool
 |[]=>true
 |d::r=>imm d&&Kq r
end
open Classical in
noncomputable def off(Z:Addr->Prop)(H:Hp):Hp:=λb=>if Z b then none else H b
section
variable {K:Yg}{H H':Hp}{Z Z':Addr->Prop}
def P0(h:off Z H b=some o):H b=some o/\¬Z b:=by
 unfold off at h;by_cases z:Z b
 ·grind
 ·grind
def XN(h:H b=some o)(z:¬Z b):off Z H b=some o:=by
 unfold off
 grind
def Xy(S:Same H H')(g:∀b o,H b=some o->¬Z b->¬Z' b):Same (off Z H) (off Z' H'):=λb o h=>by
 obtain⟨f,l⟩:=P0 h;exact XN (S b o f) (g b o f l)
def off_sub:Same (off Z H) H:=λ_ _ h=>(P0 h).1
def Rp.off (s:∀b,Z b->Mut (H b)) {d:D}{v:V}:Rp K H d v->imm d=true->Rp K (off Z H) d v:=by
 have g:∀{a o},H a=some o->¬Mut (some o)->Pu.off Z H a=some o:=λh n=>XN h λz=>n (h▸s _ z);have f:∀{d} {P:Prop},imm d=false->imm d=true->P:=λh e=>by rw[h]at e;cases e
 exact Rp.rec (motive_1:=λd v _=>imm d=true->Rp K (Pu.off Z H) d v) (motive_2:=λl p _=>Kq l=true->Rps K (Pu.off Z H) l p) (λi _=>.int i) (λb _=>.bl b) (λ_=>.non) (λx _=>.str x) (λn _=>.ty n) (λh _ r e=>.tup (g h id) (r<|by unfold imm at e;exact e)) (λ_ _ _=>f (by unfold imm;rfl)) (λ_=>f (by unfold imm;rfl)) (λ_=>f (by unfold imm;rfl)) (λ_=>f (by unfold imm;rfl)) (λh _=>.dF (g h id)) (λ_ _=>f (by unfold imm;rfl)) (λ_=>f (by unfold imm;rfl)) (λa _=>.ref a) (λ_ _ _=>f (by unfold imm;rfl)) (λh _=>.fL (g h id)) (λ_ _ _ _=>f (by unfold imm;rfl)) (λ_=>.nil) (λ_ _ a b e=>by
  unfold Kq at e;rw[Qa]at e;exact .cons (a e.1) (b e.2))
def Rps.off (g:∀b,Z b->Mut (H b)) {ds:List D}:∀{vs:List V},Rps K H ds vs->Kq ds=true->Rps K (off Z H) ds vs:=by
 induction ds with
 |nil=>intro _ h _;cases h;exact .nil
 |cons _ _ f=>
  intro _ h e;unfold Kq at e;rw[Qa]at e;cases h with|cons a b=>exact .cons (Rp.off g a e.1) (f b e.2)
end
inductive O where
 |lst (ds:List D)|dK (kvs:List (Key×V))|dT (kvs:List (List Key×V))|ins (a C:Addr) (xs:Yp) (cs:List (Addr×List D))|lsA (a:Addr) (ds:List D)|nst (cs:List (Addr×List D))|nsl (a:Addr) (cs:List (Addr×List D))
instance:Coe (List D) O:=⟨O.lst⟩
noncomputable def O.d:O->D
 | .lst g=>.lst g | .dK b=>.dK b | .dT b=>.dT b | .ins _ C xs f=>.ins C xs (f.map λc=>.lst c.2) | .lsA _ g=>.lst g | .nst f=>.tup (f.map λc=>.lst c.2) | .nsl _ f=>.lst (f.map λc=>.lst c.2)
def O.adr (a:Addr):O->Addr->Prop
 | .lst _=>λb=>b=a
 | .dK _=>λb=>b=a
 | .dT _=>λb=>b=a
 | .ins x _ _ f=>λb=>b=x\/∃c∈f,b=c.1
 | .lsA x _=>λb=>b=x
 | .nst f=>λb=>∃c∈f,b=c.1
 | .nsl x f=>λb=>b=x\/∃c∈f,b=c.1
def OR(K:Yg)(F H:Hp)(a:Addr):O->Prop
 | .lst h=>∃b,H a=some (.lst b)/\Rps K F h b
 | .dK g=>H a=some (.dK g)
 | .dT g=>H a=some (.dT g)
 | .lsA x h=>a=x/\∃b,H a=some (.lst b)/\Rps K F h b
 | .ins x C xs f=>a=x/\xs.length=f.length/\(∃l,H a=some (.ins C l<|xs.zip (f.map λc=>V.ref c.1)))/\(∀c∈f,∃b,H c.1=some (.lst b)/\Rps K F c.2 b)/\(f.map (·.1)).Nodup
 | .nsl x f=>a=x/\H a=some (.lst (f.map λc=>V.ref c.1))/\(∀c∈f,∃b,H c.1=some (.lst b)/\Rps K F c.2 b)/\(x::f.map (·.1)).Nodup
 | .nst f=>F a=some (.tup (f.map λc=>V.ref c.1))/\(∀c∈f,∃b,H c.1=some (.lst b)/\Rps K F c.2 b)/\(f.map (·.1)).Nodup
def OR.mono {K F z H H'}{a o} (s:Same F z) (r:∀b,o.adr a b->∀x,H b=some x->H' b=some x) (h:OR K F H a o):OR K z H' a o:=by
 cases o with
 |lst B=>obtain⟨f,n,g⟩:=h;exact⟨f,r _ rfl _ n,Rps.mono s g⟩
 |lsA x B=>obtain⟨rfl,f,n,g⟩:=h;exact⟨rfl,f,r _ rfl _ n,Rps.mono s g⟩
 |nsl x y=>
  obtain⟨e,n,g,w⟩:=h;exact⟨e,r _ (.inl e) _ n,λc p=>let ⟨f,v,u⟩:=g c p;⟨f,r _ (.inr ⟨c,p,rfl⟩) _ v,Rps.mono s u⟩,w⟩
 |nst y=>
  obtain⟨n,g,w⟩:=h;exact⟨s _ _ n,λc p=>let ⟨f,v,u⟩:=g c p;⟨f,r _ ⟨c,p,rfl⟩ _ v,Rps.mono s u⟩,w⟩
 |ins x C xs y=>
  obtain⟨e,l,⟨A,n⟩,g,w⟩:=h;exact⟨e,l,⟨A,r _ (.inl e) _ n⟩,λc p=>let ⟨f,v,u⟩:=g c p;⟨f,r _ (.inr ⟨c,p,rfl⟩) _ v,Rps.mono s u⟩,w⟩
 |_=>exact r _ rfl _ h
theorem Tc{K F}:∀{b:List (Addr×List D)},(∀c∈b,∃vs,F c.1=some (.lst vs)/\Rps K F c.2 vs)->Rps K F (b.map λc=>.lst c.2) (b.map λc=>V.ref c.1)
 |[],_=>.nil
 |c::b,h=>let ⟨_,g,f⟩:=h c WS;.cons (.lst g f) (Tc λn l=>h n (WG _ l))
def OR.rpIn {K F y H a o} (s:Same F y) (n:∀b,o.adr a b->∀x,H b=some x->y b=some x) (h:OR K F H a o):Rp K y o.d (.ref a):=by
 cases o with
 |lst B=>obtain⟨r,g,f⟩:=h;exact .lst (n _ rfl _ g) (Rps.mono s f)
 |dK w=>exact .dK (n _ rfl _ h)
 |dT w=>exact .dT (n _ rfl _ h)
 |lsA x B=>obtain⟨rfl,r,g,f⟩:=h;exact .lst (n _ rfl _ g) (Rps.mono s f)
 |nsl x A=>
  obtain⟨e,g,f,z⟩:=h;exact .lst (n _ (.inl e) _ g) (Tc λc p=>let ⟨r,v,u⟩:=f c p;⟨r,n _ (.inr ⟨c,p,rfl⟩) _ v,Rps.mono s u⟩)
 |nst A=>
  obtain⟨g,f,z⟩:=h;exact .tup (s _ _ g) (Tc λc p=>let ⟨r,v,u⟩:=f c p;⟨r,n _ ⟨c,p,rfl⟩ _ v,Rps.mono s u⟩)
 |ins x C xs A=>
  obtain⟨e,l,⟨E,g⟩,f,z⟩:=h;exact .ins (n _ (.inl e) _ g) (by grind) (Tc λc p=>let ⟨r,v,u⟩:=f c p;⟨r,n _ (.inr ⟨c,p,rfl⟩) _ v,Rps.mono s u⟩)
def OR.rp {K F H a o} (b:Same F H) (h:OR K F H a o):Rp K H o.d (.ref a):=h.rpIn b λ_ _ _ e=>e
def OR.mut {K F H a o} (h:OR K F H a o):∀b,o.adr a b->Mut (H b):=by
 cases o with
 |lst y=>obtain⟨u,g,p⟩:=h;intro b e;rw[show b=a from e,g];trivial
 |dK n=>intro b e;rw[show b=a from e,show H a=some (.dK n)from h];trivial
 |dT n=>intro b e;rw[show b=a from e,show H a=some (.dT n)from h];trivial
 |lsA x y=>obtain⟨rfl,u,g,p⟩:=h;intro b e;rw[show b=a from e,g];trivial
 |nsl x w=>
  obtain⟨e,g,p,v⟩:=h;intro b f;rcases f with f|⟨c,s,f⟩
  ·rw[show b=a from f.trans e.symm,g];trivial
  ·obtain⟨u,r,_⟩:=p c s;rw[f,r];trivial
 |nst w=>
  obtain⟨g,p,v⟩:=h;rintro b ⟨c,s,f⟩;obtain⟨u,r,_⟩:=p c s;rw[f,r];trivial
 |ins x C xs w=>
  obtain⟨e,l,⟨z,g⟩,p,v⟩:=h;intro b f;rcases f with f|⟨c,s,f⟩
  ·rw[show b=a from f.trans e.symm,g];trivial
  ·obtain⟨u,r,_⟩:=p c s;rw[f,r];trivial
inductive S where
 |bor (d:D)|sh (d:D)|own (o:O)|view (o:O)|tmp (d:D)
abbrev Γ:=List (Option S)
noncomputable def D.strip:D->D
 | .loc _ d=>d|d=>d
def Rp.strip {K H d v} (h:Rp K H d v):Rp K H d.strip v:=by
 cases h with
 |loc h=>exact h
 |int i=>exact .int i
 |bl b=>exact .bl b
 |non=>exact .non
 |str x=>exact .str x
 |ty n=>exact .ty n
 |tup h r=>exact .tup h r
 |lst h r=>exact .lst h r
 |scr h=>exact .scr h
 |dK h=>exact .dK h
 |dT h=>exact .dT h
 |dF h=>exact .dF h
 |err h=>exact .err h
 |ref a=>exact .ref a
 |erM l g f=>exact .erM l g f
 |fL h=>exact .fL h
 |ins h e r=>exact .ins h e r
noncomputable def S.d:S->D
 | .bor d=>d.strip | .sh d=>d | .own o=>o.d | .view o=>o.d | .tmp d=>d
noncomputable def arg(d:D):S:=match imm d with|true=>.sh d|false=>.bor d
noncomputable def K9(d:D):S:=match imm d with|true=>.sh d|false=>.tmp d
noncomputable def S.sub:S->D->S
 | .bor _,e=>arg e | .tmp _,e=>K9 e | .own (.nst _),e=>K9 e | .view (.nst _),e=>K9 e | .own (.nsl _ _),e=>K9 e | .view (.nsl _ _),e=>K9 e|_,e=>.sh e
noncomputable def S.shd:S->Option D
 | .sh d=>some d | .own o=>some o.d
 | .bor d=>match imm d with|true=>some d|false=>none
 | .tmp d=>match imm d with|true=>some d|false=>none
 | .view _=>none
noncomputable def S.slot:S->Option S
 | .view _=>none | .bor d=>some (.bor d) | .sh d=>some (.sh d) | .own b=>some (.own b)
 | .tmp d=>match imm d with|true=>some (.sh d)|false=>none
def Zew(h:Γ)(g:L2.St)(b:Addr):Prop:=∃(i:Nat) (f:O) (a:Addr),h[i]?=some (some<|.own f)/\g[i]?=some (some<|.ref a)/\f.adr a b
def zof(B:Addr->Prop)(g:Γ)(f:L2.St):Addr->Prop:=λb=>B b\/Zew g f b
def SV(K:Yg)(Z:Addr->Prop)(f H:Hp):S->V->Prop
 | .bor d,v=>Rp K f d v
 | .sh d,v=>Rp K (off Z H) d v
 | .own o,v=>∃a,v=.ref a/\(∀b,o.adr a b->f b=none)/\OR K (off Z H) H a o
 |_,_=>False
def TV(K:Yg)(Z:Addr->Prop)(f H H':Hp):S->V->Prop
 | .bor d,v=>Rp K f d v
 | .sh d,v=>Rp K (off Z H') d v
 | .own o,v=>∃a,v=.ref a/\(∀b,o.adr a b->H b=none)/\OR K (off (λb=>Z b\/o.adr a b) H') H' a o
 | .view o,v=>∃a,v=.ref a/\OR K (off Z H') H' a o
 | .tmp d,v=>Rp K H' d v
structure Xm (K:Yg) (H0:Hp) (B:Addr->Prop) (H:Hp) (σ:L2.St) (γ:Γ):Prop where
 same:Same H0 H
 len:σ.length=γ.length
 bm:∀b,B b->Mut (H b)
 own:∀(i j:Nat) (a a':Addr) (ds es:O) (b:Addr),γ[i]?=some (some<|.own ds)->γ[j]?=some (some<|.own es)->σ[i]?=some (some<|.ref a)->σ[j]?=some (some<|.ref a')->ds.adr a b->es.adr a' b->i=j
 slot:∀(i:Nat) (s:S),γ[i]?=some (some s)->∃v,σ[i]?=some (some v)/\SV K (zof B γ σ) H0 H s v
section
variable {K:Yg}{H0 H H1 H':Hp}{B Z Z':Addr->Prop}{σ:L2.St}{γ:Γ}
def Po(S:Same H H'){b}(h:Mut (H b)):Mut (H' b):=by
 cases e:H b with
 |none=>rw[e]at h;exact h.elim
 |some o=>rw[S b o e,←e];exact h
def SR(h:Mut (H b)):∃o,H b=some o:=by
 cases e:H b with
 |none=>rw[e]at h;exact h.elim
 |some o=>grind
def Xm.grow (E:Xm K H0 B H σ γ) (S:Same H H'):Xm K H0 B H' σ γ where
 same:=E.same.trans S
 len:=E.len
 bm b h:=Po S (E.bm b h)
 own:=E.own
 slot i s h:=by
  obtain⟨v,h1,h2⟩:=E.slot i s h;refine⟨v,h1,?_⟩;cases s with
  |bor d=>trivial
  |sh d=>exact Rp.mono (Xy S λ_ _ _ z=>z) h2
  |own ds=>
   obtain⟨a,e1,e3,e4⟩:=h2;exact⟨a,e1,e3,e4.mono (Xy S λ_ _ _ z=>z) λb _ x=>S b x⟩
  |_=>exact h2
def Xm.zm (E:Xm K H0 B H σ γ):∀b,zof B γ σ b->Mut (H b):=λb h=>by
 rcases h with h|⟨i,s,x,n,l,g⟩
 ·exact E.bm b h
 ·obtain⟨v,f,a,p,r,o⟩:=E.slot i _ n;rw[l]at f;cases f
  cases p
  exact o.mut b g
def TV.rp (b:Same H0 H') (h:TV K Z H0 H H' s v):Rp K H' s.d v:=by
 cases s with
 |bor d=>exact(Rp.mono b h).strip
 |sh d=>exact Rp.mono off_sub h
 |own f=>
  obtain⟨a,rfl,_,r⟩:=h;exact r.rp off_sub
 |view f=>
  obtain⟨a,rfl,r⟩:=h;exact r.rp off_sub
 |tmp d=>exact h
def TV.grow (f:Same H' H1) (h:TV K Z H0 H H' s v):TV K Z H0 H H1 s v:=by
 cases s with
 |bor d=>exact h
 |sh d=>exact Rp.mono (Xy f λ_ _ _ z=>z) h
 |own l=>
  obtain⟨a,rfl,g,r⟩:=h;exact⟨a,rfl,g,r.mono (Xy f λ_ _ _ z=>z) λb _ x=>f b x⟩
 |view l=>
  obtain⟨a,rfl,r⟩:=h;exact⟨a,rfl,r.mono (Xy f λ_ _ _ z=>z) λb _ x=>f b x⟩
 |tmp d=>exact Rp.mono f h
def TV.weak (o:Same H H1) (f:∀b,Z b->Z' b) (h:TV K Z' H0 H1 H' s v):TV K Z H0 H H' s v:=by
 cases s with
 |sh d=>exact Rp.mono (Xy (Same.refl _) λb _ _ z y=>z (f b y)) h
 |own n=>
  obtain⟨a,rfl,l,r⟩:=h;exact⟨a,rfl,λb g=>o.free (l b g),r.mono (Xy (Same.refl _) λb _ _ z y=>z (y.imp (f b) id)) λ_ _ _ q=>q⟩
 |view n=>
  obtain⟨a,rfl,r⟩:=h;exact⟨a,rfl,r.mono (Xy (Same.refl _) λb _ _ z y=>z (f b y)) λ_ _ _ q=>q⟩
 |_=>exact h
def TV.shd (o:Same H0 H') (l:∀b,Z b->Mut (H b)) (w:Same H H') (h:TV K Z H0 H H' s v) (e:s.shd=some d):Rp K (off Z H') d v:=by
 have f:=λb z=>Po w (l b z);cases s with
 |bor g=>
  unfold S.shd at e;cases q:imm g with
  |false=>simp_all
  |true=>
   simp[q]at e;subst e;exact Rp.off f (Rp.mono o h) q
 |sh g=>cases e;exact h
 |own u=>
  cases e
  obtain⟨a,rfl,p,r⟩:=h;exact r.rpIn (Xy (Same.refl _) λb _ _ z y=>z (.inl y)) λb n x e=>XN e λz=>by have:=l _ z;rw[p b n]at this;exact this
 |view u=>cases e
 |tmp g=>
  unfold S.shd at e;cases q:imm g with
  |false=>simp[q]at e
  |true=>
   simp[q]at e;subst e;exact Rp.off f h q
def NA(f:∀b,Z b->Mut (H' b))(g:Same H0 H')(h:Rp K H0 d v):TV K Z H0 H H' (arg d) v:=by
 unfold arg;cases q:imm d with
 |true=>exact Rp.off f (Rp.mono g h) q
 |false=>exact h
def P2(f:∀b,Z b->Mut (H' b))(h:Rp K H' d v):TV K Z H0 H H' (K9 d) v:=by
 unfold K9;cases q:imm d with
 |true=>exact Rp.off f h q
 |false=>exact h
def Rp.lst_inv (h:Rp K H (.lst ds) v):∃a vs,v=.ref a/\H a=some (.lst vs)/\Rps K H ds vs:=by
 cases h with
 |lst h r=>grind
def Rp.tup_inv (h:Rp K H (.tup ds) v):∃a vs,v=.ref a/\H a=some (.tup vs)/\Rps K H ds vs:=by
 cases h with
 |tup h r=>grind
def TV.part (E:Same H0 H') (N:∀b,Z b->Mut (H b)) (Q:Same H H') (h:TV K Z H0 H H' s v) :
  (∀ds,s.d=.lst ds->∃a vs,v=.ref a/\H' a=some (.lst vs)/\vs.length=ds.length/\∀(i:Nat) d,ds[i]?=some d->∃u,vs[i]?=some u/\TV K Z H0 H H' (s.sub d) u)/\
  (∀ds,s.d=.tup ds->∃a vs,v=.ref a/\H' a=some (.tup vs)/\vs.length=ds.length/\∀(i:Nat) d,ds[i]?=some d->∃u,vs[i]?=some u/\TV K Z H0 H H' (s.sub d) u):=by
 have l:=λb z=>Po Q (N b z);cases s with
 |bor d=>
  have h:=Rp.strip h;refine⟨λds e=>?_,λds e=>?_⟩<;>rw[show d.strip=_ from e]at h
  ·obtain⟨a,vs,rfl,h,r⟩:=Rp.lst_inv h;exact⟨_,_,rfl,E _ _ h,r.len,λi d e=>let ⟨u,g,f⟩:=r.get e;⟨u,g,NA l E f⟩⟩
  ·obtain⟨a,vs,rfl,h,r⟩:=Rp.tup_inv h;exact⟨_,_,rfl,E _ _ h,r.len,λi d e=>let ⟨u,g,f⟩:=r.get e;⟨u,g,NA l E f⟩⟩
 |sh d=>
  refine⟨λds e=>?_,λds e=>?_⟩<;>(have L:=e;subst L)
  ·obtain⟨a,vs,rfl,h,r⟩:=Rp.lst_inv h;exact⟨_,_,rfl,off_sub _ _ h,r.len,λi d e=>r.get e⟩
  ·obtain⟨a,vs,rfl,h,r⟩:=Rp.tup_inv h;exact⟨_,_,rfl,off_sub _ _ h,r.len,λi d e=>r.get e⟩
 |own w=>
  cases w with
  |lst w=>
   refine⟨λds e=>?_,λds e=>by cases e⟩;cases e
   obtain⟨a,rfl,J,vs,e,r⟩:=h;exact⟨a,vs,rfl,e,r.len,λi d e=>let ⟨u,g,f⟩:=r.get e;⟨u,g,Rp.mono (Xy (Same.refl _) λb _ _ z y=>z (.inl y)) f⟩⟩
  |lsA x w=>
   refine⟨λds e=>?_,λds e=>by cases e⟩;cases e
   obtain⟨a,rfl,J,_,vs,e,r⟩:=h;exact⟨a,vs,rfl,e,r.len,λi d e=>let ⟨u,g,f⟩:=r.get e;⟨u,g,Rp.mono (Xy (Same.refl _) λb _ _ z y=>z (.inl y)) f⟩⟩
  |nsl x M=>
   refine⟨λds e=>?_,λds e=>by cases e⟩;cases e
   obtain⟨a,rfl,J,_,C,A,G⟩:=h;have r:=Tc λc p=>let ⟨vs,o,n⟩:=A c p;⟨vs,o,Rps.mono off_sub n⟩;exact⟨a,_,rfl,C,r.len,λi d e=>let ⟨u,g,f⟩:=r.get e;⟨u,g,P2 l f⟩⟩
  |nst M=>
   refine⟨(λds e=>by cases e),λds e=>?_⟩;cases e
   obtain⟨a,rfl,J,C,A,G⟩:=h;have r:=Tc λc p=>let ⟨vs,o,n⟩:=A c p;⟨vs,o,Rps.mono off_sub n⟩;exact⟨a,_,rfl,off_sub _ _ C,r.len,λi d e=>let ⟨u,g,f⟩:=r.get e;⟨u,g,P2 l f⟩⟩
  |_=>exact⟨(λds e=>by cases e),(λds e=>by cases e)⟩
 |view w=>
  cases w with
  |lst w=>
   refine⟨λds e=>?_,λds e=>by cases e⟩;cases e
   obtain⟨a,rfl,vs,e,r⟩:=h;exact⟨a,vs,rfl,e,r.len,λi d e=>r.get e⟩
  |lsA x w=>
   refine⟨λds e=>?_,λds e=>by cases e⟩;cases e
   obtain⟨a,rfl,_,vs,e,r⟩:=h;exact⟨a,vs,rfl,e,r.len,λi d e=>r.get e⟩
  |nsl x M=>
   refine⟨λds e=>?_,λds e=>by cases e⟩;cases e
   obtain⟨a,rfl,_,C,A,G⟩:=h;have r:=Tc λc p=>let ⟨vs,o,n⟩:=A c p;⟨vs,o,Rps.mono off_sub n⟩;exact⟨a,_,rfl,C,r.len,λi d e=>let ⟨u,g,f⟩:=r.get e;⟨u,g,P2 l f⟩⟩
  |nst M=>
   refine⟨(λds e=>by cases e),λds e=>?_⟩;cases e
   obtain⟨a,rfl,C,A,G⟩:=h;have r:=Tc λc p=>let ⟨vs,o,n⟩:=A c p;⟨vs,o,Rps.mono off_sub n⟩;exact⟨a,_,rfl,off_sub _ _ C,r.len,λi d e=>let ⟨u,g,f⟩:=r.get e;⟨u,g,P2 l f⟩⟩
  |_=>exact⟨(λds e=>by cases e),(λds e=>by cases e)⟩
 |tmp d=>
  refine⟨λds e=>?_,λds e=>?_⟩<;>(have L:=e;subst L)
  ·obtain⟨a,vs,rfl,h,r⟩:=Rp.lst_inv h;exact⟨_,_,rfl,h,r.len,λi d e=>let ⟨u,g,f⟩:=r.get e;⟨u,g,P2 l f⟩⟩
  ·obtain⟨a,vs,rfl,h,r⟩:=Rp.tup_inv h;exact⟨_,_,rfl,h,r.len,λi d e=>let ⟨u,g,f⟩:=r.get e;⟨u,g,P2 l f⟩⟩
def Fr(B:Addr->Prop)(H:Hp)(σ:L2.St)(γ:Γ)(H':Hp)(f:L2.St)(g:Γ):Prop:=∀b o,H b=some o->¬zof B γ σ b->H' b=some o/\¬zof B g f b
def Fr.refl:Fr B H σ γ H σ γ:=λ_ _ h z=>⟨h,z⟩
def Fr.trans {H1 p g f n l} (a:Fr B H σ γ H1 g n) (b:Fr B H1 g n p f l):Fr B H σ γ p f l:=λx o h z=>let ⟨s,r⟩:=a x o h z;b x o s r
def Fr.grow (b:Same H H'):Fr B H σ γ H' σ γ:=λ_ _ h z=>⟨b _ _ h,z⟩
def Fr.off {H'}{σ'}{γ'} (f:Fr B H σ γ H' σ' γ'):Same (off (zof B γ σ) H) (Pu.off (zof B γ' σ') H'):=λb o h=>by
 obtain⟨p,n⟩:=P0 h;obtain⟨l,g⟩:=f b o p n;exact XN l g
def XS{b:Type}{l:List b}{i j}{x y}(h:(l.set i x)[j]?=some y):(j=i/\x=y/\i<l.length)\/(j≠i/\l[j]?=some y):=by grind
def BB{b:Type}{l:List b}{i}{x}(h:i<l.length):(l.set i x)[i]?=some x:=by grind
def Pq{b:Type}{l:List b}{i j}{x}(h:j≠i):(l.set i x)[j]?=l[j]?:=by grind
def Xm.drop (E:Xm K H0 B H σ γ) (i:Nat):Xm K H0 B H σ (γ.set i none)/\Fr B H σ γ H σ (γ.set i none):=by
 have p:∀b,zof B (γ.set i none) σ b->zof B γ σ b:=λb z=>z.imp id λ⟨j,l,a,g,f,u⟩=>by
  rcases XS g with⟨_,e,_⟩|⟨_,e⟩
  ·grind
  ·exact⟨j,l,a,e,f,u⟩
 refine⟨⟨E.same,by rw[Q2];exact E.len,E.bm,λk j a G l w b g f=>?_,λk s h=>?_⟩,λb o h z=>⟨h,λy=>z (p b y)⟩⟩
 ·rcases XS g with⟨_,e,_⟩|⟨_,n⟩
  ·cases e
  ·rcases XS f with⟨_,e,_⟩|⟨_,C⟩
   ·cases e
   ·exact E.own k j a G l w b n C
 ·rcases XS h with⟨_,e,_⟩|⟨_,e⟩
  ·cases e
  ·obtain⟨v,g,f⟩:=E.slot k s e;refine⟨v,g,?_⟩;have r:Same (Pu.off (zof B γ σ) H) (Pu.off (zof B (γ.set i none) σ) H):=Xy (Same.refl _) λb _ _ z y=>z (p b y);cases s with
   |sh d=>exact Rp.mono r f
   |own l=>
    obtain⟨a,n,A,x⟩:=f;exact⟨a,n,A,x.mono r λ_ _ _ q=>q⟩
   |_=>exact f
def Xm.put {s L}{v} (E:Xm K H0 B H σ γ) (S1:Same H H') (h:TV K (zof B γ σ) H0 H H' s v) (e:s.slot=some L) (hi:i<γ.length) :
  Xm K H0 B H' (σ.set i<|some v) (γ.set i<|some L)/\Fr B H σ γ H' (σ.set i<|some v) (γ.set i<|some L):=by
 have n:i<σ.length:=by rw[E.len];exact hi
 have E':=E.grow S1
 have isown:∀f,L=.own f->s=.own f:=λf q=>by
  subst q;cases s with
  |own J=>cases e;rfl
  |tmp d=>unfold S.slot at e;cases q:imm d<;>simp[q]at e
  |_=>cases e
 have l:∀b,zof B (γ.set i<|some L) (σ.set i<|some v) b->zof B γ σ b\/∃f a,s=.own f/\v=.ref a/\f.adr a b:=λb z=>by
  rcases z with z|⟨j,f,a,h1,G,A⟩
  ·exact .inl (.inl z)
  ·rcases XS h1 with⟨Y,g,_⟩|⟨T,g⟩
   ·subst Y;rw[BB n]at G
    have:=WD g
    exact .inr ⟨f,a,isown f this,WD (WD G),A⟩
   ·rw[Pq T]at G;exact .inl (.inr ⟨j,f,a,g,G,A⟩)
 have fresh:∀f a b,s=.own f->v=.ref a->f.adr a b->H b=none:=λf a b J ev p=>by
  subst J;obtain⟨a',g,e0,_⟩:=h;rw[ev]at g;cases g
  exact e0 b p
 have hz:∀b o,H b=some o->¬zof B γ σ b->¬zof B (γ.set i<|some L) (σ.set i<|some v) b:=λb o p z y=>by
  rcases l b y with y|⟨f,a,y1,y2,y3⟩
  ·exact z y
  ·rw[fresh f a b y1 y2 y3]at p;cases p
 have So:=Xy S1 hz;refine⟨⟨E'.same,by rw[Q2,Q2];exact E.len,E'.bm,λk j a a' f J b h1 G A M h5 h6=>?_,λk u hk=>?_⟩,λb o p z=>⟨S1 b o p,hz b o p z⟩⟩
 ·have Q:∀(k:Nat) f a b,γ[k]?=some (some<|.own f)->σ[k]?=some (some<|.ref a)->f.adr a b->∃o,H b=some o:=λk f a b g C e3=>by
   obtain⟨u,q1,a',N,_,q3⟩:=E.slot k _ g;rw[C]at q1;cases q1
   cases N
   exact SR (q3.mut b e3)
  rcases XS h1 with⟨ek,g,_⟩|⟨nk,g⟩
  ·rcases XS G with⟨Y,C,_⟩|⟨T,C⟩
   ·rw[ek,Y]
   ·subst ek;rw[BB n]at A;rw[Pq T]at M;obtain⟨o,U⟩:=Q j J a' b C M h6;rw[fresh f a b (isown f<|WD g) (WD<|WD A) h5]at U;cases U
  ·rcases XS G with⟨Y,C,_⟩|⟨T,C⟩
   ·subst Y;rw[BB n]at M;rw[Pq nk]at A;obtain⟨o,U⟩:=Q k f a b g A h5;rw[fresh J a' b (isown J<|WD C) (WD<|WD M) h6]at U;cases U
   ·rw[Pq nk]at A;rw[Pq T]at M;exact E.own k j a a' f J b g C A M h5 h6
 ·rcases XS hk with⟨ek,g,_⟩|⟨nk,g⟩
  ·subst ek
   have:=(WD g).symm
   subst this;refine⟨v,BB n,?_⟩;cases s with
   |own f=>
    cases e
    obtain⟨a,rfl,e0,r⟩:=h;refine⟨a,rfl,λb p=>E.same.free (e0 b p),r.mono (Xy (Same.refl _) λb o _ z y=>?_) λ_ _ _ q=>q⟩;rcases l b y with y|⟨_,_,y1,y,y2⟩
    ·exact z (.inl y)
    ·cases y;cases y1;exact z (.inr y2)
   |sh d=>
    cases e
    refine Rp.mono (Xy (Same.refl _) λb o _ z y=>?_) h;rcases l b y with y|⟨_,_,y,_⟩
    ·exact z y
    ·cases y
   |bor d=>cases e;exact h
   |view d=>cases e
   |tmp d=>
    unfold S.slot at e;cases q:imm d with
    |false=>simp[q]at e
    |true=>
     simp[q]at e;subst e;refine Rp.off (λb y=>?_) h q;rcases l b y with y|⟨_,_,y,_⟩
     ·exact Po S1 (E.zm b y)
     ·cases y
  ·obtain⟨w,q1,N⟩:=E.slot k u g;refine⟨w,by rw[Pq nk];exact q1,?_⟩;cases u with
   |sh d=>exact Rp.mono So N
   |own f=>
    obtain⟨a,g,e3,e4⟩:=N;exact⟨a,g,e3,e4.mono So λb _ x=>S1 b x⟩
   |_=>exact N
noncomputable def frz(i:Nat)(γ:Γ):Γ:=match γ[i]? with
 |some (some<|.own o)=>γ.set i (some<|.sh o.d)
 |_=>γ
def Xm.frz (E:Xm K H0 B H σ γ) (hB:∀b,B b->∃o,H0 b=some o) (i:Nat):Xm K H0 B H σ (frz i γ)/\Fr B H σ γ H σ (Pu.frz i γ):=by
 unfold Pu.frz;split
 ·rename_i p J
  have G:∀b,zof B (γ.set i<|some<|.sh p.d) σ b->zof B γ σ b:=λb z=>z.imp id λ⟨j,l,a,g,f,L⟩=>by
   rcases XS g with⟨_,e,_⟩|⟨_,e⟩
   ·cases e
   ·exact⟨j,l,a,e,f,L⟩
  have C:Same (Pu.off (zof B γ σ) H) (Pu.off (zof B (γ.set i<|some<|.sh p.d) σ) H):=Xy (Same.refl _) λb _ _ z y=>z (G b y);refine⟨⟨E.same,by rw[Q2];exact E.len,E.bm,λk j a A l r b g f=>?_,λk s h=>?_⟩,λb o h z=>⟨h,λy=>z (G b y)⟩⟩
  ·rcases XS g with⟨_,e,_⟩|⟨_,n⟩
   ·cases e
   ·rcases XS f with⟨_,e,_⟩|⟨_,w⟩
    ·cases e
    ·exact E.own k j a A l r b n w
  ·rcases XS h with⟨T,e,_⟩|⟨Y,e⟩
   ·subst T
    have:=WD e
    subst this;obtain⟨v,g,a,rfl,L,Q⟩:=E.slot k _ J;refine⟨_,g,Q.rpIn C λb N x f=>XN f λz=>?_⟩;rcases z with z|⟨j,l,A,n,w,u⟩
    ·grind
    ·rcases XS n with⟨_,q,_⟩|⟨M,q⟩
     ·cases q
     ·exact M (E.own j k A a l p b q J w g u N)
   ·obtain⟨v,g,f⟩:=E.slot k s e;refine⟨v,g,?_⟩;cases s with
    |sh d=>exact Rp.mono C f
    |own p=>
     obtain⟨a,n,u,U⟩:=f;exact⟨a,n,u,U.mono C λ_ _ _ q=>q⟩
    |_=>exact f
 ·exact⟨E,Fr.refl⟩
def Xm.change {o o'} (E:Xm K H0 B H σ γ) (M:γ[i]?=some (some<|.own o)) (A:σ[i]?=some (some<|.ref a))
  (N:∀b x,H b=some x->¬o.adr a b->H' b=some x) (hm:∀b,o.adr a b->Mut (H' b)) (l:∀b,o'.adr a b->o.adr a b\/H b=none) (r:OR K (Pu.off (zof B (γ.set i<|some<|.own o') σ) H') H' a o') :
  Xm K H0 B H' σ (γ.set i<|some<|.own o')/\Fr B H σ γ H' σ (γ.set i<|some<|.own o'):=by
 obtain⟨v,h1,a',rfl,h3,h4⟩:=E.slot i _ M;rw[A]at h1;cases h1
 have za:∀b,o.adr a b->zof B γ σ b:=λb C=>.inr ⟨i,o,a,M,A,C⟩
 have hz:∀b x,H b=some x->zof B (γ.set i<|some<|.own o') σ b->zof B γ σ b:=λb x hx z=>by
  rcases z with z|⟨j,fs,a',U,p,n⟩
  ·exact .inl z
  ·rcases XS U with⟨T,q,_⟩|⟨_,e⟩
   ·subst T;cases q
    rw[A]at p;cases p
    rcases l b n with k|k
    ·exact za b k
    ·rw[k]at hx;cases hx
   ·exact .inr ⟨j,fs,a',e,p,n⟩
 have S1:=λb x h=>by
  obtain⟨g,f⟩:=P0 h;exact XN (N b x g λk=>f (za b k)) λz=>f (hz b x g z)
 have J:∀(k:Nat) ds a b,γ[k]?=some (some<|.own ds)->σ[k]?=some (some<|.ref a)->ds.adr a b->∃o,H b=some o:=λk ds a b U p n=>by
  obtain⟨u,g,a',f,_,q3⟩:=E.slot k _ U;rw[p]at g;cases g
  cases f
  exact SR (q3.mut b n)
 refine⟨⟨λb x h=>?_,by rw[Q2];exact E.len,λb C=>?_,λk j x x' fs Q b U p n G e5 e6=>?_,λk s h=>?_⟩,λb x h z=>⟨?_,λy=>z (hz b x h y)⟩⟩
 ·exact N b x (E.same b x h) λk=>by rw[h3 b k]at h;cases h
 ·by_cases k:o.adr a b
  ·exact hm b k
  ·have:=E.bm b C
   obtain⟨x,hx⟩:=SR this;rwa[N b x hx k,←hx]
 ·rcases XS U with⟨Y,g,_⟩|⟨nk,g⟩
  ·rcases XS p with⟨T,_,_⟩|⟨nj,f⟩
   ·rw[Y,T]
   ·subst Y;cases g
    rw[A]at n;cases n
    rcases l b e5 with w|w
    ·exact E.own k j _ _ _ _ b M f A G w e6
    ·obtain⟨u,L⟩:=J j Q x' b f G e6;rw[w]at L;cases L
  ·rcases XS p with⟨T,f,_⟩|⟨nj,f⟩
   ·subst T;cases f
    rw[A]at G;cases G
    rcases l b e6 with w|w
    ·exact E.own k j _ _ _ _ b g M n A e5 w
    ·obtain⟨u,L⟩:=J k fs x b g n e5;rw[w]at L;cases L
   ·exact E.own k j x x' fs Q b g f n G e5 e6
 ·rcases XS h with⟨Y,e,_⟩|⟨nk,e⟩
  ·subst Y
   have:=WD e
   subst this;exact⟨_,A,a,rfl,λb C=>(l b C).elim (h3 b) λw=>E.same.free w,r⟩
  ·obtain⟨v,g,f⟩:=E.slot k s e;refine⟨v,g,?_⟩;cases s with
   |sh d=>exact Rp.mono S1 f
   |own fs=>
    obtain⟨x,rfl,n,G⟩:=f;exact⟨x,rfl,n,G.mono S1 λb C y p=>N b y p λw=>nk (E.own k i x a fs o b e M g A C w)⟩
   |_=>exact f
 ·exact N b x h λk=>z (za b k)
def Xm.mutate {i:Nat}{a:Addr}{ds es:O}{us:HO} (E:Xm K H0 B H σ γ) (u:γ[i]?=some (some<|.own ds)) (f:σ[i]?=some (some<|.ref a)) (w:Mut (some us)) (r:∀F H':Hp,Same (Pu.off (zof B γ σ) H) F->H' a=some us->OR K F H' a es)
  (k1:autoParam (ds.adr a=λb=>b=a) au_0) (k2:autoParam (es.adr a=λb=>b=a) au_0) :
  Xm K H0 B (upd H a us) σ (γ.set i<|some<|.own es)/\Fr B H σ γ (upd H a us) σ (γ.set i<|some<|.own es):=by
 refine E.change (o:=ds) (o':=es) u f (λb x h n=>by rw[Xl (λz=>n (by rw[k1];exact z))];exact h) (λb h=>by rw[k1]at h;rw[show b=a from h,Xw];exact w) (λb h=>.inl (by rw[k1];rw[k2]at h;exact h)) (r _ _ ?_ Xw)
 intro b x h;obtain⟨v,p⟩:=P0 h;have s:b≠a:=λz=>p (.inr ⟨i,ds,a,u,f,by rw[k1];exact z⟩);refine XN (by rw[Xl s];exact v) λz=>p ?_;rcases z with z|⟨j,fs,C,A,l,g⟩
 ·exact .inl z
 ·rcases XS A with⟨y,q,_⟩|⟨_,e⟩
  ·subst y;cases q
   rw[f]at l;cases l
   rw[k2]at g;exact absurd g s
  ·exact .inr ⟨j,fs,C,e,l,g⟩
end
end Pu
namespace Pu
open PySem PySem.Spec PyProof.Rows L2 Own
abbrev XR:=Str->Prop
noncomputable def eI:Int->Nat
 | .ofNat n=>2*n
 | .negSucc n=>2*n+1
noncomputable def dI(n:Nat):Int:=if n % 2=0 then .ofNat (n / 2)else .negSucc (n / 2)
def Zby:∀i,dI (eI i)=i
 | .ofNat n=>by
  show dI (2*n)=_;unfold dI;simp
 | .negSucc n=>by
  show dI (2*n+1)=_;unfold dI;lia
noncomputable def TN(r:Yi):Str:=⟨(0::r.map eI).toArray⟩
noncomputable def OL:Yn->Option (Yi)
 | 0::t=>some (t.map dI)
 |_=>none
noncomputable def Td(x:Str):Option (Yi):=OL x.cps.toList
def Lc(r:Yi):Td (TN r)=some r:=by
 show some ((r.map eI).map dI)=some r;rw[Qy];congr 1
 conv=>rhs;rw[←List.map_id r]
 exact List.map_congr_left λi _=>Zby i
def XE(b:Yk)(E:XK)(c:Str)(H':Hp):Prop:=match Td c with
 |none=>E (.ref<|ExcR.Xi b c) none H'
 |some r=>∀(f l:Addr) (o:Obj),H' f=some (.xd [("members",.ref l)])->H' l=some (.frz o<|.lst<|r.map V.int)->E (.ref<|ExcR.Xi b "Ringed") (some f) H'
def XE.plain {c H'} (f:Td c=none) (h:XE b E c H'):E (.ref<|ExcR.Xi b c) none H':=by
 unfold XE at h;simp_all
def XE.of {E c H'} (f:Td c=none) (h:E (.ref<|ExcR.Xi b c) none H'):XE b E c H':=by
 unfold XE;simp_all
def XE.mem (h:XE f E (TN r) H') {b l o} (n:H' b=some (.xd [("members",.ref l)])) (g:H' l=some (.frz o<|.lst<|r.map V.int)) :
  E (.ref<|ExcR.Xi f "Ringed") (some b) H':=by
 unfold XE at h;rw[Lc]at h
 grind
def XE.ofM {E r H'} (h:∀b l o,H' b=some (.xd [("members",.ref l)])->H' l=some (.frz o<|.lst<|r.map V.int)->E (.ref<|ExcR.Xi f "Ringed") (some b) H'):XE f E (TN r) H':=by
 unfold XE;rw[Lc];lia
abbrev PTE:=Γ->(S->Prop)->XR->Prop
abbrev PTT:=Γ->(Bool->Prop)->XR->Prop
abbrev PTA:=Γ->(List S->Prop)->XR->Prop
abbrev PTO:=Γ->(Option Int->Prop)->XR->Prop
structure Py where
 nx:Γ->Prop
 rt:S->Prop
 ex:Γ->Str->Prop
 bk:Γ->Prop:=λ_=>False
 ct:Γ->Prop:=λ_=>False
 rv:Γ->D->Prop:=λ_ _=>False
abbrev PTS:=Py->Γ->Prop
abbrev PTG:=S->Γ->(Γ->Prop)->Prop
abbrev Ny:=List S->Γ->(Γ->Prop)->Prop
inductive TVs (K:Yg) (Z:Addr->Prop) (H0 H H':Hp):List S->List V->Prop
 |nil:TVs K Z H0 H H' [] []
 |cons {s:S} {v:V} {ss:List S} {vs:List V}:TV K Z H0 H H' s v->TVs K Z H0 H H' ss vs->TVs K Z H0 H H' (s::ss) (v::vs)
section
variable (K:Yg) (mg:Yk) (E:L2.St->XK)
def Xf(t:TE)(p:PTE):Prop:=∀(h:Hp) (B:Addr->Prop) (H:Hp) (f:L2.St) (g:Γ) (R:S->Prop) (X:XR) (Q:VK),Xm K h B H f g->p g R X->
 (∀s v b,R s->Same H b->TV K (zof B g f) h H b s v->Q v b)->(∀c b,X c->Same H b->XE mg (E f) c b)->t f H Q
def Ki(t:TT)(p:PTT):Prop:=∀(l:Hp) (B:Addr->Prop) (H:Hp) (g:L2.St) (h:Γ) (R:Bool->Prop) (X:XR) (Q:Bool->Hp->Prop),Xm K l B H g h->p h R X->
 (∀b f,R b->Same H f->Q b f)->(∀c f,X c->Same H f->XE mg (E g) c f)->t g H Q
def X0(t:TA)(p:PTA):Prop:=∀(n:Hp) (B:Addr->Prop) (H:Hp) (f:L2.St) (g:Γ) (R:List S->Prop) (X:XR) (Q:List V->Hp->Prop),Xm K n B H f g->p g R X->
 (∀l h b,R l->Same H b->TVs K (zof B g f) n H b l h->Q h b)->(∀c b,X c->Same H b->XE mg (E f) c b)->t f H Q
def Sl(t:TO)(p:PTO):Prop:=∀(h:Hp) (B:Addr->Prop) (H:Hp) (f:L2.St) (g:Γ) (R:Option Int->Prop) (X:XR) (Q:Option Int->Hp->Prop),Xm K h B H f g->p g R X->
 (∀o b,R o->Same H b->Q o b)->(∀c b,X c->Same H b->XE mg (E f) c b)->t f H Q
structure Sj (H0:Hp) (B:Addr->Prop) (H:Hp) (σ:L2.St) (γ:Γ) (R:Py) (D:Ends):Prop where
 nx:∀σ' γ' H',R.nx γ'->Xm K H0 B H' σ' γ'->Fr B H σ γ H' σ' γ'->D.nx σ' H'
 rt:∀s v H',R.rt s->Same H0 H'->TV K B H0 H0 H' s v->D.rt v H'
 ex:∀σ' γ' c H',R.ex γ' c->Xm K H0 B H' σ' γ'->Fr B H σ γ H' σ' γ'->XE mg (E σ') c H'
 bk:∀σ' γ' H',R.bk γ'->Xm K H0 B H' σ' γ'->Fr B H σ γ H' σ' γ'->D.bk σ' H'
 ct:∀σ' γ' H',R.ct γ'->Xm K H0 B H' σ' γ'->Fr B H σ γ H' σ' γ'->D.ct σ' H'
 rv:∀σ' γ' d v H',R.rv γ' d->Xm K H0 B H' σ' γ'->Fr B H σ γ H' σ' γ'->Rp K (off (zof B γ' σ') H') d v->D.rt v H'
def Xr(t:TS)(p:PTS):Prop:=∀(h:Hp) (B:Addr->Prop) (H:Hp) (f:L2.St) (g:Γ) (R:Py) (D:Ends),(∀b,B b->∃o,h b=some o)->Xm K h B H f g->p R g->Sj K mg E h B H f g R D->t D f H
end
section
variable {K:Yg}{mg:Yk}{E:L2.St->XK}{H0 H H1 H':Hp}{B Z Z':Addr->Prop}{σ:L2.St}{γ:Γ}
def TVs.weakG {H1 f}:∀{ss}{vs:List V},Same H H1->TVs K Z H0 H1 f ss vs->TVs K Z H0 H f ss vs:=by
 intro ss
 induction ss with
 |nil=>
  intro _ _ h;cases h
  exact .nil
 |cons _ _ g=>
  intro _ b h;cases h with
  |cons h r=>
   exact .cons (TV.weak b (λ_ z=>z) h) (g b r)
def TVs.rps (f:Same H0 H'):∀{ss}{vs:List V},TVs K Z H0 H H' ss vs->Rps K H' (ss.map S.d) vs:=by
 intro ss
 induction ss with
 |nil=>
  intro _ h;cases h
  exact .nil
 |cons _ _ b=>
  intro _ h;cases h with
  |cons h r=>
   exact .cons (h.rp f) (b r)
theorem TVs.shd {ds:List D} (l:Same H0 H') (g:∀b,Z b->Mut (H b)) (n:Same H H'):∀{f vs}{ds:List D},TVs K Z H0 H H' f vs->f.map S.shd=ds.map some->Rps K (off Z H') ds vs
 |_,_,[],.nil,_=>.nil
 |_,_,_::_,.nil,e|_,_,[],.cons _ _,e=>by cases e
 |_,_,d::ds,.cons h r,e=>by
  rw[WN,WN,Jh]at e;exact .cons (h.shd l g n e.1) (TVs.shd (ds:=ds) l g n r e.2)
def Rp.int_inv (h:Rp K H (.int i) v):v=.int i:=by cases h;rfl
def Rp.bl_inv (h:Rp K H (.bl b) v):v=.bl b:=by cases h;rfl
def Rp.str_inv (h:Rp K H (.str x) v):v=.str x:=by cases h;rfl
def Rp.non_inv (h:Rp K H .non v):v=.non:=by cases h;rfl
def Rp.ty_inv (h:Rp K H (.ty n) v):v=.ty n:=by cases h;rfl
noncomputable def B3(i:Nat):PTE:=λγ R _=>match γ[i]? with
 |some (some<|.own b)=>R (.view b)
 |some (some s)=>R s
 |_=>False
def Xg(i:Nat):Xf K mg E (Kw i) (B3 i):=by
 intro H0 B H σ γ R X Q b h q _;unfold B3 at h;split at h
 ·rename_i n e;obtain⟨v,f,a,rfl,p,l⟩:=b.slot i _ e;exact⟨_,f,q _ _ H h (Same.refl _) ⟨a,rfl,l⟩⟩
 ·rename_i s o e;obtain⟨v,f,g⟩:=b.slot i _ e;refine⟨v,f,q _ _ H h (Same.refl _) ?_⟩;cases s with
  |bor d|sh d=>exact g
  |own n=>grind
  |_=>exact g.elim
 ·grind
noncomputable def pC(d:D):PTE:=λ_ R _=>R (.sh d)
def NC(h:∀H,Rp K H d v):Xf K mg E (tC v) (pC d):=by
 intro H0 B H σ γ R X Q b p q _;exact q _ _ H p (Same.refl _) (h _)
def Xj:Xf K mg E (tC<|.int i) (pC<|.int i):=NC λ_=>.int i
def Px:Xf K mg E (tC<|.bl b) (pC<|.bl b):=NC λ_=>.bl b
def Zfz:Xf K mg E (tC .non) (pC .non):=NC λ_=>.non
def Xz:Xf K mg E (tC<|.str x) (pC<|.str x):=NC λ_=>.str x
def PJ:Xf K mg E (tC<|.ty n) (pC<|.ty n):=NC λ_=>.ty n
noncomputable def p2(a b:PTE)(f:S->S->(S->Prop)->Prop):PTE:=λγ R X=>a γ (λx=>b γ (λy=>f x y R) X) X
def KL{A w a b f}(Y:Xf K mg E A a)(U:Xf K mg E w b)(N:∀H0 H h Z x y v u R Q,Same H0 h->Same H h->(∀b,Z b->Mut (H b))->TV K Z H0 H h x v->TV K Z H0 H h y u->f x y R->(∀s z H',R s->Same h H'->TV K Z H0 H H' s z->Q z H')->r v u h Q) :
  Xf K mg E (tOp r A w) (p2 a b f):=by
 intro H0 B H σ γ R X Q l p q C;refine Y H0 B H σ γ _ X _ l p (λx v H1 h1 n L=>?_) C;have g:=l.grow n;refine U H0 B H1 σ γ _ X _ g h1 (λy u h h2 o J=>?_) λc H' T S'=>C c H' T (n.trans S');exact N H0 H h _ x y v u R Q (g.same.trans o) (n.trans o) l.zm (L.grow o) (TV.weak n (λ_ z=>z) J) h2 λs z H' M S3 G=>q s z H' M ((n.trans o).trans S3) G
def fI0(g:Int->Int->D):S->S->(S->Prop)->Prop:=λx y R=>match x.d,y.d with
 | .int i,.int j=>R (.sh<|g i j)
 |_,_=>False
def fI(C:Int->Int->Prop)(g:Int->Int->D):S->S->(S->Prop)->Prop:=λx y R=>match x.d,y.d with
 | .int i,.int j=>C i j/\R (.sh<|g i j)
 |_,_=>False
def SK{g'}{l f a b}(w:∀H i j,Rp K H (g' i j) (g i j))(A:Xf K mg E l a)(z:Xf K mg E f b):Xf K mg E (tOp (rI0 g) l f) (p2 a b<|fI0 g'):=by
 refine KL A z λH0 H J Z x y v u R Q n L M s r h q=>?_;unfold fI0 at h;have p:=s.rp n;have o:=r.rp n;split at h
 ·rename_i i j G C;rw[G]at p;rw[C]at o;exact⟨i,j,p.int_inv,o.int_inv,q _ _ J h (Same.refl _) (w _ i j)⟩
 ·grind
def BO{g r}{l f a b}(z:∀H i j,Rp K H (r i j) (g i j))(G:Xf K mg E l a)(A:Xf K mg E f b):Xf K mg E (tOp (rI C g) l f) (p2 a b<|fI C r):=by
 refine KL G A λH0 H M Z x y v u R Q n N T w s h q=>?_;unfold fI at h;have p:=w.rp n;have o:=s.rp n;split at h
 ·rename_i i j L J;rw[L]at p;rw[J]at o;exact⟨i,j,p.int_inv,o.int_inv,h.1,q _ _ M h.2 (Same.refl _) (z _ i j)⟩
 ·grind
section
variable {ta tb tc:TE}{a b c:PTE}
def XT(g:Xf K mg E ta a)(f:Xf K mg E tb b):Xf K mg E (tOp (rI0 λi j=>.int (i+j)) ta tb) (p2 a b (fI0 λi j=>.int (i+j))):=SK (λ_ _ _=>.int _) g f
def Th(g:Xf K mg E ta a)(f:Xf K mg E tb b):Xf K mg E (tOp (rI0 λi j=>.int (i-j)) ta tb) (p2 a b (fI0 λi j=>.int (i-j))):=SK (λ_ _ _=>.int _) g f
def N3(g:Xf K mg E ta a)(f:Xf K mg E tb b):Xf K mg E (tOp (rI CMul λi j=>.int (i*j)) ta tb) (p2 a b (fI CMul λi j=>.int (i*j))):=BO (λ_ _ _=>.int _) g f
def PV(g:Xf K mg E ta a)(f:Xf K mg E tb b):Xf K mg E (tOp (rI Sw λi j=>.int (i / j)) ta tb) (p2 a b (fI Sw λi j=>.int (i / j))):=BO (λ_ _ _=>.int _) g f
def XQ(g:Xf K mg E ta a)(f:Xf K mg E tb b):Xf K mg E (tOp (rI (λ_ j=>0<j) λi j=>.int (i % j)) ta tb) (p2 a b (fI (λ_ j=>0<j) λi j=>.int (i % j))):=BO (λ_ _ _=>.int _) g f
def Zh2(g:Xf K mg E ta a)(f:Xf K mg E tb b):Xf K mg E (tOp (rI Bx λi j=>.int (i ^ j.toNat)) ta tb) (p2 a b (fI Bx λi j=>.int (i ^ j.toNat))):=BO (λ_ _ _=>.int _) g f
def PP(g:Xf K mg E ta a)(f:Xf K mg E tb b):Xf K mg E (tOp (rI0 λi j=>.bl (decide (i<j))) ta tb) (p2 a b (fI0 λi j=>.bl (decide (i<j)))):=SK (λ_ _ _=>.bl _) g f
def T5(g:Xf K mg E ta a)(f:Xf K mg E tb b):Xf K mg E (tOp (rI0 λi j=>.bl (decide (j<i))) ta tb) (p2 a b (fI0 λi j=>.bl (decide (j<i)))):=SK (λ_ _ _=>.bl _) g f
def Be(g:Xf K mg E ta a)(f:Xf K mg E tb b):Xf K mg E (tOp (rI0 λi j=>.bl (decide (j<=i))) ta tb) (p2 a b (fI0 λi j=>.bl (decide (j<=i)))):=SK (λ_ _ _=>.bl _) g f
def fEq(neg:Bool):S->S->(S->Prop)->Prop:=λx y R=>match x.d,y.d with
 | .int i,.int j=>R (.sh<|.bl (if neg then !decide (i=j)else decide (i=j)))
 | .str i,.str j=>R (.sh<|.bl (if neg then !decide (i=j)else decide (i=j)))
 | .bl i,.bl j=>R (.sh<|.bl (if neg then !decide (i=j)else decide (i=j)))
 |_,_=>False
def Nv{g h:Type}[DecidableEq g][DecidableEq h]{f:g->h}(l:∀a b,f a=f b->a=b)(a b:g):decide (f a=f b)=decide (a=b):=by grind
def fIx:S->S->(S->Prop)->Prop:=λx y R=>match x.d,y.d with
 | .lst g,.int k=>∃d,atI g k=some d/\R (x.sub d)
 | .tup g,.int k=>∃d,atI g k=some d/\R (x.sub d)
 | .scr f,.int k=>∃i,atI f k=some i/\R (.sh<|.int i)
 | .fL f,.int k=>∃i,atI f k=some i/\R (.sh<|.int i)
 |_,_=>False
def HS{P:D->V->Prop}(f:vs.length=ds.length)(h:∀(i:Nat) d,ds[i]?=some d->∃u,vs[i]?=some u/\P d u)(e:atI ds k=some d):∃u,atI vs k=some u/\P d u:=by
 unfold atI at e ⊢;cases q:ixN ds.length k with
 |_=>grind
def X6(ha:Xf K mg E ta a)(hb:Xf K mg E tb b):Xf K mg E (tOp (λx y H Q=>S8 K x y H Q\/Bj K x y H Q) ta tb) (p2 a b fIx):=by
 refine KL ha hb λH0 H s Z x y v u R Q r s1 hm A Y h q=>?_;unfold fIx at h;have f:=Y.rp r;obtain⟨pl,pt⟩:=A.part r hm s1;split at h
 ·rename_i U k o n;rw[n]at f;obtain⟨d,T,g⟩:=h;obtain⟨l,w,rfl,M,L,J⟩:=pl U o;obtain⟨z,C,tz⟩:=HS L J T;exact .inl ⟨l,w,k,z,rfl,f.int_inv,SqL.of M,C,q _ _ s g (Same.refl _) tz⟩
 ·rename_i U k o n;rw[n]at f;obtain⟨d,T,g⟩:=h;obtain⟨l,w,rfl,M,L,J⟩:=pt U o;obtain⟨z,C,tz⟩:=HS L J T;exact .inr ⟨l,w,k,z,rfl,f.int_inv,SqT.of M,C,q _ _ s g (Same.refl _) tz⟩
 ·rename_i ns k o n;rw[n]at f;obtain⟨i,N,g⟩:=h;have p:=A.rp r;rw[o]at p;cases p with
  |scr G=>exact .inl ⟨_,_,k,.int i,rfl,f.int_inv,G,PM N,q _ _ s g (Same.refl _) (.int i)⟩
 ·rename_i ns k o n;rw[n]at f;obtain⟨i,N,g⟩:=h;have p:=A.rp r;rw[o]at p;cases p with
  |fL G=>exact .inl ⟨_,_,k,.int i,rfl,f.int_inv,.inl (.inr ⟨_,G⟩),PM N,q _ _ s g (Same.refl _) (.int i)⟩
 ·exact h.elim
noncomputable def Zkh(a b:PTE):PTE:=λγ R X=>a γ (λx=>match x.d with | .bl c=>if c=true then b γ R X else R (.sh<|.bl false)|_=>False) X
noncomputable def Mb(a:PTE):PTE:=λγ R X=>a γ (λx=>match x.d with | .bl c=>R (.sh<|.bl (!c))|_=>False) X
def CU(C:Xf K mg E ta a)(A:Xf K mg E tb b):Xf K mg E (Ie ta tb) (Zkh a b):=by
 intro H0 B H σ γ R X Q h p q r;refine C H0 B H σ γ _ X _ h p (λx v H1 n l w=>?_) r;have f:=h.grow l;have o:=w.rp f.same;split at n
 ·rename_i c J;rw[J]at o;refine⟨c,o.bl_inv,?_⟩;split at n
  ·rename_i g;rw[W6 g];exact A H0 B H1 σ γ _ X _ f n (λy u N G L s=>q y u N G (l.trans L) (TV.weak l (λ_ z=>z) s)) λc H' g M=>r c H' g (l.trans M)
  ·rename_i g;rw[W3 g];exact q _ _ H1 n l (.bl _)
 ·grind
def Hd(r:Xf K mg E ta a):Xf K mg E (Gc ta) (Mb a):=by
 intro H0 B H σ γ R X Q f p q o;refine r H0 B H σ γ _ X _ f p (λx v H1 h l n=>?_) o;have g:=n.rp (f.grow l).same;split at h
 ·rename_i c s;rw[s]at g;exact⟨c,g.bl_inv,q _ _ H1 h l (.bl _)⟩
 ·grind
noncomputable def Zgk(a:PTE):PTE:=λγ R X=>a γ (λx=>match x.d with | .int i=>R (.sh<|.int (-i))|_=>False) X
def Sg(r:Xf K mg E ta a):Xf K mg E (tUn (rU λi=>.int (-i)) ta) (Zgk a):=by
 intro H0 B H σ γ R X Q f p q o;refine r H0 B H σ γ _ X _ f p (λx v H1 h l n=>?_) o;have g:=n.rp (f.grow l).same;split at h
 ·rename_i c s;rw[s]at g;exact⟨c,g.int_inv,q _ _ H1 h l (.int _)⟩
 ·grind
noncomputable def Nl(a:PTE):PTT:=λγ R X=>a γ (λx=>match x.d with | .bl c=>R c|_=>False) X
def Pb(r:Xf K mg E ta a):Ki K mg E (S4 ta) (Nl a):=by
 intro H0 B H σ γ R X Q f p q o;refine r H0 B H σ γ _ X _ f p (λx v H1 h l n=>?_) o;have g:=n.rp (f.grow l).same;split at h
 ·rename_i c s;rw[s]at g;exact⟨c,g.bl_inv,q _ H1 h l⟩
 ·grind
def FP(f:Xf K mg E ta a):Ki K mg E (tB ta) (Nl a):=Pb f
variable {sa sb:TT}{pa pb:PTT}
noncomputable def LL(a b:PTT):PTT:=λγ R X=>a γ (λc=>if c=true then b γ R X else R false) X
noncomputable def pOr(a b:PTT):PTT:=λγ R X=>a γ (λc=>if c=true then R true else b γ R X) X
noncomputable def Et(a:PTT):PTT:=λγ R X=>a γ (λc=>R (!c)) X
def Zdj(r:Ki K mg E sa pa)(o:Ki K mg E sb pb):Ki K mg E (A6 sa sb) (LL pa pb):=by
 intro H0 B H σ γ R X Q f p q l;refine r H0 B H σ γ _ X _ f p (λc H1 n h=>?_) l;split at n
 ·rename_i g;rw[W6 g];exact o H0 B H1 σ γ _ X _ (f.grow h) n (λy w s u=>q y w s (h.trans u)) λc H' g v=>l c H' g (h.trans v)
 ·grind
def Zfl(r:Ki K mg E sa pa)(o:Ki K mg E sb pb):Ki K mg E (tOr sa sb) (pOr pa pb):=by
 intro H0 B H σ γ R X Q f p q l;refine r H0 B H σ γ _ X _ f p (λc H1 n h=>?_) l;split at n
 ·grind
 ·rename_i g;rw[W3 g];exact o H0 B H1 σ γ _ X _ (f.grow h) n (λy w s u=>q y w s (h.trans u)) λc H' g v=>l c H' g (h.trans v)
def Cs(h:Ki K mg E sa pa):Ki K mg E (Ds sa) (Et pa):=by
 intro H0 B H σ γ R X Q f p q g;exact h H0 B H σ γ _ X _ f p (λc H1 l n=>q _ H1 l n) g
end
noncomputable def PZ:PTA:=λ_ R _=>R []
noncomputable def KE(a:PTE)(r:PTA):PTA:=λγ R X=>a γ (λs=>r γ (λb=>R (s::b)) X) X
def X9:X0 K mg E Kt PZ:=by
 intro H0 B H σ γ R X Q b p q _;exact q _ _ H p (Same.refl _) .nil
def Kl{a r}(x:Xf K mg E te a)(u:X0 K mg E l r):X0 K mg E (XH te l) (KE a r):=by
 intro H0 B H σ γ R X Q b p q g;refine x H0 B H σ γ _ X _ b p (λs v H1 z f o=>?_) g;refine u H0 B H1 σ γ _ X _ (b.grow f) z (λJ G C y h n=>?_) λc H' w A=>g c H' w (f.trans A);exact q _ _ C y (f.trans h) (.cons (o.grow h)<|TVs.weakG f n)
noncomputable def Sn:List S->Option (List D)
 |[]=>some []
 |s::r=>match s.shd,Sn r with
  |some d,some b=>some (d::b)
  |_,_=>none
theorem F0:∀{ss}{ds:List D},Sn ss=some ds->ss.map S.shd=ds.map some
 |[],ds,h=>by cases h;rfl
 |s::r,ds,h=>by
  unfold Sn at h;split at h
  ·rename_i d g f b;cases h
   rw[WN,WN,f,F0 b]
  ·grind
noncomputable def EM(r:PTA):PTE:=λγ R X=>r γ (λf=>match Sn f with|some b=>b.length<=1000/\R (.sh<|.tup b)|none=>False) X
noncomputable def Lp(r:PTA):PTE:=λγ R X=>r γ (λf=>match Sn f with|some b=>b.length<=1000/\R (.own b)|none=>False) X
def CY(h:n<=1000):n<=sizeLine:=Vz (Zho h)
def Kb(y:X0 K mg E v r):Xf K mg E (Cg v) (EM r):=by
 intro H0 B H σ γ R X Q f p q x;refine y H0 B H σ γ _ X _ f p (λA u H1 g h w=>?_) x;split at g
 ·rename_i ds e;have b:=f.grow h;have rp:=w.shd (ds:=ds) b.same f.zm h (F0 e);refine⟨by rw[rp.len];exact CY g.1,λl n=>?_⟩;have s:=XJ (o:=.tup u) n;refine q _ _ _ g.2 (h.trans s) (.tup (XN Xw λz=>?_)<|Rps.mono (Xy s λ_ _ _ z=>z) rp)
  have:=b.zm l z
  rw[n]at this;exact this
 ·grind
def Nh{H H1 l vs ds}(h:Same H H1)(f:H1 l=none)(rp:Rps K (off Z H1) ds vs):TV K Z H0 H (upd H1 l<|.lst vs) (.own ds) (.ref l):=
 ⟨l,rfl,(λ_ e=>e▸h.free f),vs,Xw,Rps.mono (Xy (XJ f) λb o g z y=>y.elim z λe=>by rw[e,f]at g;cases g) rp⟩
def Tu(u:X0 K mg E n r):Xf K mg E (G5 n) (Lp r):=by
 intro H0 B H σ γ R X Q b p q s;refine u H0 B H σ γ _ X _ b p (λw v H1 g f o=>?_) s;split at g
 ·rename_i ds e;have rp:=o.shd (ds:=ds) (b.grow f).same b.zm f (F0 e);refine⟨by rw[rp.len];exact CY g.1,λl h=>?_⟩;exact q _ _ _ g.2 (f.trans<|XJ h) (Nh f h rp)
 ·grind
abbrev Pc:=List D->(S->Prop)->XR->Prop
noncomputable def Xp(mg:Yk)(c:Pc)(K:Yg):Sp:=λg H Q E=>∃f R X,Rps K H f g/\c f R X/\(∀s v H',R s->Same H H'->TV K (λb=>Mut (H b)) H H H' s v->Q v H')/\∀e H',X e->Same H H'->XE mg E e H'
noncomputable def S.back:S->S
 | .bor d=>K9 d | .view o=>.tmp o.d|s=>s
def TV.back (env:Xm K H0 B H1 σ γ) (o:Same H H1) (f:Same H1 H') (h:TV K (λb=>Mut (H1 b)) H1 H1 H' s v):TV K (zof B γ σ) H0 H H' s.back v:=by
 cases s with
 |bor d=>exact P2 (λb z=>Po f (env.zm b z)) (Rp.mono f h)
 |sh d=>exact Rp.mono (Xy (Same.refl _) λb _ _ z y=>z (env.zm b y)) h
 |own n=>
  obtain⟨a,rfl,l,r⟩:=h;exact⟨a,rfl,(λb g=>o.free (l b g)),r.mono (Xy (Same.refl _) λb _ _ z y=>z (y.imp (env.zm b) id)) λ_ _ _ q=>q⟩
 |view n=>
  obtain⟨a,rfl,r⟩:=h;exact r.rp off_sub
 |tmp d=>exact h
noncomputable def Gd(c:Pc)(r:PTA):PTE:=λγ R X=>r γ (λb=>c (b.map S.d) (λs=>R s.back) λ_=>False) X
noncomputable def Ed(c:Pc)(r:PTA):PTE:=λγ R X=>r γ (λb=>c (b.map S.d) (λs=>R s.back) X) X
def Tx{h r}(x:X0 K mg E h r):Xf K mg E (Tz (Xp mg c K) [] E0 h) (Gd c r):=by
 intro H0 B H σ γ R X Q f p q u;refine x H0 B H σ γ _ X _ f p (λC A H1 y g o=>?_) u;rw[Qg];have b:=f.grow g;exact⟨_,_,_,o.rps b.same,y,λs v H' w l n=>q _ _ H' w (g.trans l) (n.back b g l),λ_ _ z=>z.elim⟩
def Zcy{n r l}(y:X0 K mg (λ_=>l) n r):Xf K mg (λ_=>l) (Tz (Xp mg c K) [] l n) (Ed c r):=by
 intro H0 B H σ γ R X Q f p q o;refine y H0 B H σ γ _ X _ f p (λG C H1 A h w=>?_) o;rw[Qg];have b:=f.grow h;exact⟨_,_,X,w.rps b.same,A,λs v H' x g u=>q _ _ H' x (h.trans g) (u.back b h g),λe H' z g=>o e H' z (h.trans g)⟩
def Xm.set {s b}{v} (g:Xm K H0 B H σ γ) (f:Same H H') (h:TV K (zof B γ σ) H0 H H' s v) (e:s.slot=some b) :
  Xm K H0 B H' (σ.set i<|some v) (γ.set i<|some b)/\Fr B H σ γ H' (σ.set i<|some v) (γ.set i<|some b):=by
 by_cases l:i<γ.length
 ·exact g.put f h e l
 ·rw[List.set_eq_of_length_le (by rw[g.len];lia),List.set_eq_of_length_le (by lia)];exact⟨g.grow f,Fr.grow f⟩
def Upd(f:Yn)(σ b:L2.St):Prop:=(∀j,j∉f->b[j]?=σ[j]?)/\b.length=σ.length
def TC(K:Yg)(g:Yn)(t:TG)(p:PTG):Prop:=∀(H0:Hp) (B:Addr->Prop) (H H':Hp) (σ:L2.St) (γ:Γ) (s:S) (v:V) (R:Γ->Prop) (Q:L2.St->Hp->Prop),Xm K H0 B H σ γ->Same H H'->TV K (zof B γ σ) H0 H H' s v->p s γ R->
 (∀b f,R f->Xm K H0 B H' b f->Fr B H σ γ H' b f->Upd g σ b->Q b H')->t v σ H' Q
noncomputable def TR(i:Nat):PTG:=λs γ R=>match s.slot with|some b=>R (γ.set i<|some b)|none=>False
def Km(i:Nat):TC K [i] (NN i) (TR i):=by
 intro H0 B H H' σ γ s v R Q b l f p q;unfold TR at p;split at p
 ·rename_i n e;obtain⟨h,f1⟩:=b.set l f e;exact q _ _ p h f1 ⟨λj g=>Pq λz=>g (by grind),Q2⟩
 ·grind
noncomputable def Lr:Ny:=λb γ R=>match b with|[]=>R γ|_=>False
noncomputable def GA(g:PTG)(r:Ny):Ny:=λf γ R=>match f with|s::t=>g s γ λb=>r t b R|[]=>False
def TV.notown {σ'}{γ'}{Hb} (f:Fr B H σ γ H' σ' γ') (b:Same H H') (n:∀ds,s≠.own ds) (g:∀ds,s≠.view ds) (h:TV K (zof B γ σ) H0 Hb H s v):TV K (zof B γ' σ') H0 H' H' s v:=by
 cases s with
 |bor d=>exact h
 |sh d=>exact Rp.mono f.off h
 |tmp d=>exact Rp.mono b h
 |_=>grind
def TVs.notown (f:Fr B H σ γ H b g):∀{ss}{vs:List V},(∀s∈ss,∀ds,s≠.own ds/\s≠.view ds)->TVs K (zof B γ σ) H0 p H ss vs->TVs K (zof B g b) H0 H H ss vs:=by
 intro ss
 induction ss with
 |nil=>
  intro _ _ h;cases h
  exact .nil
 |cons _ _ l=>
  intro _ n h;cases h with
  |cons h r=>
   exact .cons (h.notown f (Same.refl _) (λds=>(n _ WS ds).1) λds=>(n _ WS ds).2) (l (λs o=>n s (WG _ o)) r)
def Dx(d:D):arg d=.sh d\/arg d=.bor d:=by unfold arg;cases imm d<;>simp
def DH(d:D):K9 d=.sh d\/K9 d=.tmp d:=by unfold K9;cases imm d<;>simp
def L6(s:S)(d:D):∀ds,s.sub d≠.own ds/\s.sub d≠.view ds:=λds=>by
 cases s with
 |bor b=>rcases Dx d with e|e<;>(show arg d≠_/\arg d≠_;rw[e];exact⟨(λz=>by cases z),(λz=>by cases z)⟩)
 |tmp b=>rcases DH d with e|e<;>(show K9 d≠_/\K9 d≠_;rw[e];exact⟨(λz=>by cases z),(λz=>by cases z)⟩)
 |sh b=>exact⟨(λz=>by cases z),(λz=>by cases z)⟩
 |own b|view b=>
  cases b with
  |nst f|nsl a f=>rcases DH d with e|e<;>(show K9 d≠_/\K9 d≠_;rw[e];exact⟨(λz=>by cases z),(λz=>by cases z)⟩)
  |_=>exact⟨(λz=>by cases z),(λz=>by cases z)⟩
def Sx(K:Yg)(n:Yn)(t:TGs)(p:Ny):Prop:=∀(H0:Hp) (B:Addr->Prop) (H:Hp) (σ:L2.St) (γ:Γ) (g:List S) (h:List V) (R:Γ->Prop) (Q:L2.St->Hp->Prop),Xm K H0 B H σ γ->TVs K (zof B γ σ) H0 H H g h->(∀s∈g,∀l,s≠.own l/\s≠.view l)->p g γ R->
 (∀b f,R f->Xm K H0 B H b f->Fr B H σ γ H b f->Upd n σ b->Q b H)->t h σ H Q
def GY:Sx K [] GZ Lr:=by
 intro H0 B H σ γ h g R Q b f l p q;cases f with
 |nil=>exact⟨rfl,q _ _ p b Fr.refl ⟨λ_ _=>rfl,rfl⟩⟩
 |cons _ _=>exact p.elim
def F3{g r w v}(T:TC K M g w)(N:Sx K L r v):Sx K (M++L) (HI g r) (GA w v):=by
 intro H0 B H σ γ ss vs R Q u G x p q;cases G with
 |nil=>exact p.elim
 |cons h t=>
  refine⟨_,_,rfl,T H0 B H H σ γ _ _ _ _ u (Same.refl _) h p λf n J e1 f1 A=>?_⟩;refine N H0 B H f n _ _ _ _ e1 (TVs.notown f1 (λs o=>x s (WG _ o)) t) (λs o=>x s (WG _ o)) J λb l p2 Y U y=>?_;exact q b l p2 Y (f1.trans U) ⟨λj C=>(y.1 j λz=>C (WO _ z)).trans (A.1 j λz=>C (Q0 _ z)),y.2.trans A.2⟩
noncomputable def Dc(n:Nat)(r:Ny):PTG:=λs γ R=>match s.d with | .tup b=>b.length=n/\r (b.map s.sub) γ R|_=>False
theorem TVs.of_part {ds:List D}{s:S}:∀{vs}{ds:List D},vs.length=ds.length->(∀(i:Nat) d,ds[i]?=some d->∃u,vs[i]?=some u/\TV K Z H0 H H' (s.sub d) u)->TVs K Z H0 H H' (ds.map s.sub) vs
 |[],[],_,_=>.nil
 |[],_::_,e,_|_::_,[],e,_=>by cases e
 |v::vs,d::ds,e,h=>by
  obtain⟨u,f,b⟩:=h 0 d rfl;cases f
  exact .cons b (TVs.of_part (ds:=ds) (by grind) λi g l=>by simpa using h (i+1) g (by grind))
def Mv{x r w}(G:Sx K x r w):TC K x (Dw K n r) (Dc n w):=by
 intro H0 B H H' σ γ s v R Q f o z p q;unfold Dc at p;have b:=f.grow o;obtain⟨_,pt⟩:=z.part b.same f.zm o;split at p
 ·rename_i ds e;obtain⟨a,u,rfl,L,y,J⟩:=pt ds e;refine⟨a,u,rfl,SqT.of L,y.trans p.1,?_⟩;refine G H0 B H' σ γ _ u R Q b (TVs.notown (Fr.refl) (λA l ds=>?_)<|TVs.of_part (ds:=ds) y J) (λA l ds=>?_) p.2 λg h M N f1 C=>q g h M N (Fr.trans (Fr.grow o) f1) C
  ·obtain⟨d,_,rfl⟩:=WQ.mp l;exact L6 s d ds
  ·obtain⟨d,_,rfl⟩:=WQ.mp l;exact L6 s d ds
 ·grind
def Sj.from {D o p} (e:Sj K mg E H0 B H σ γ R D) (f:Fr B H σ γ H1 o p):Sj K mg E H0 B H1 o p R D:=
 ⟨λb g H' n l h=>e.nx b g H' n l (f.trans h),e.rt,λb g c H' n l h=>e.ex b g c H' n l (f.trans h),λb g H' n l h=>e.bk b g H' n l (f.trans h),λb g H' n l h=>e.ct b g H' n l (f.trans h),λb g d v H' n l h=>e.rv b g d v H' n l (f.trans h)⟩
variable {te:TE}{a:PTE}{tt:TT}{c:PTT}{t u:TS}{p q:PTS}
noncomputable def Ea:PTS:=λR γ=>R.nx γ
def NF:Xr K mg E Md Ea:=λ_ _ _ _ _ _ _ _ b h e=>e.nx _ _ _ h b Fr.refl
noncomputable def Ge(p q:PTS):PTS:=λR γ=>p {R with nx:=q R} γ
def HJ(n:Xr K mg E t p)(hq:Xr K mg E u q):Xr K mg E (Lm t u) (Ge p q):=by
 intro H0 B H σ γ R D l g h e;refine n H0 B H σ γ _ _ l g h ⟨λb f H' o r f1=>?_,e.rt,e.ex,e.bk,e.ct,e.rv⟩;exact hq H0 B H' b f R D l r o (e.from f1)
structure Ez (p q:PTS) (R:Py) (γ:Γ):Prop where
 w:∃J:Γ->Prop,p {R with nx:=J} γ/\∀γ',J γ'->q R γ'
noncomputable def DV(p q:PTS):PTS:=λR γ=>Ez p q R γ
def Rn(r:Xr K mg E t p)(hq:Xr K mg E u q):Xr K mg E (Hs t u) (DV p q):=by
 intro H0 B H σ γ R D o l h e;obtain⟨J,h,k⟩:=h.w;refine⟨λf H'=>∃b,J b/\Xm K H0 B H' f b/\Fr B H σ γ H' f b,r H0 B H σ γ _ _ o l h ⟨λf b H' g n f1=>⟨b,g,n,f1⟩,e.rt,e.ex,e.bk,e.ct,e.rv⟩,?_⟩;rintro f H' ⟨b,g,n,f1⟩;exact hq H0 B H' f b R D o n (k b g) (e.from f1)
noncomputable def Ih(i:Nat)(p:PTS):PTS:=λR γ=>p R (frz i γ)
def B8(i:Nat)(g:Xr K mg E t p):Xr K mg E t (Ih i p):=by
 intro H0 B H σ γ R D f b h e;obtain⟨l,f1⟩:=b.frz f i;exact g H0 B H σ _ R D f l h (e.from f1)
noncomputable def Cq(a:PTE)(g:PTG):PTS:=λR γ=>a γ (λs=>g s γ R.nx) (R.ex γ)
def N8(y:Xf K mg E te a)(w:TC K L g r):Xr K mg E (SE te g) (Cq a r):=by
 intro H0 B H σ γ R D M b h e;refine y H0 B H σ γ _ _ _ b h (λs v H1 A J o=>?_) λc H' x n=>e.ex σ γ c H' x (b.grow n) (Fr.grow n);exact w H0 B H H1 σ γ s v _ _ b J o A λf l z G C _=>e.nx f l H1 z G C
noncomputable def FY(i:Nat)(f:Int->Int->Int)(a:PTE):PTS:=λR γ=>match γ[i]? with
 |some (some<|.sh<|.int x)=>a γ (λy=>match y.d with | .int j=>R.nx (γ.set i<|some<|.sh<|.int<|f x j)|_=>False) (R.ex γ)
 |_=>False
def Zdk(z:Xf K mg E te a):Xr K mg E (GP i te<|ipI f) (FY i f a):=by
 intro H0 B H σ γ R D L b h e;unfold FY at h;split at h
 ·rename_i x hx;obtain⟨v,C,A⟩:=b.slot i _ hx;refine⟨v,C,z H0 B H σ γ _ _ _ b h (λy u H1 l n r=>?_) λc H' w o=>e.ex σ γ c H' w (b.grow o) (Fr.grow o)⟩;have g:=r.rp (b.grow n).same;split at l
  ·rename_i j G;rw[G]at g;refine⟨x,j,Rp.int_inv A,g.int_inv,?_⟩;obtain⟨J,f1⟩:=b.set (s:=.sh (.int<|f x j)) n (.int _) rfl;exact e.nx _ _ H1 l J f1
  ·grind
 ·grind
noncomputable def Gx(a:PTE):PTS:=λR γ=>a γ R.rt (R.ex γ)
def Bf(o:Xf K mg E te a):Xr K mg E (NZ te) (Gx a):=by
 intro H0 B H σ γ R D x f h e;refine o H0 B H σ γ _ _ _ f h (λs v H1 r w l=>?_) λc H' n g=>e.ex σ γ c H' n (f.grow g) (Fr.grow g);exact e.rt s v H1 r (f.same.trans w) (TV.weak f.same (λb z=>.inl z) l)
noncomputable def F4(i:Nat):PTS:=λR γ=>match γ[i]? with|some (some s)=>R.rt s|_=>False
def Zg3(i:Nat):Xr K mg E (NZ<|Kw i) (F4 i):=by
 intro H0 B H σ γ R D C f h e;unfold F4 at h;split at h
 ·rename_i s n;obtain⟨v,o,g⟩:=f.slot i _ n;refine⟨v,o,e.rt s v H h f.same ?_⟩;cases s with
  |bor d=>exact g
  |sh d=>exact Rp.mono (Xy (Same.refl _) λb _ _ z y=>z (.inl y)) g
  |own r=>
   obtain⟨l,rfl,A,x⟩:=g;exact⟨l,rfl,A,x.mono (Xy (Same.refl _) λb _ _ z y=>z (y.elim .inl λw=>.inr ⟨i,r,l,n,o,w⟩)) λ_ _ _ q=>q⟩
  |view r=>exact g.elim
  |tmp d=>trivial
 ·grind
noncomputable def E1(c:PTT)(p q:PTS):PTS:=λR γ=>c γ (λb=>if b=true then p R γ else q R γ) (R.ex γ)
def Zck(l:Ki K mg E tt c)(v:Xr K mg E t p)(hq:Xr K mg E u q):Xr K mg E (AD tt t u) (E1 c p q):=by
 intro H0 B H σ γ R D r f h e;refine l H0 B H σ γ _ _ _ f h (λb H1 o g=>?_) λc H' l s=>e.ex σ γ c H' l (f.grow s) (Fr.grow s);split at o
 ·rename_i n;rw[W6 n];exact v H0 B H1 σ γ R D r (f.grow g) o (e.from<|Fr.grow g)
 ·rename_i n;rw[W3 n];exact hq H0 B H1 σ γ R D r (f.grow g) o (e.from<|Fr.grow g)
noncomputable def HW(a:PTE):PTS:=λR γ=>a γ (λ_=>R.nx γ) (R.ex γ)
def N0(n:Xf K mg E te a):Xr K mg E (BG te) (HW a):=by
 intro H0 B H σ γ R D w b h e;exact n H0 B H σ γ _ _ _ b h (λs v H1 o f r=>e.nx σ γ H1 o (b.grow f) (Fr.grow f)) λc H' l g=>e.ex σ γ c H' l (b.grow g) (Fr.grow g)
noncomputable def Za8:PTS:=λ_ _=>False
def NV:Xr K mg E EA Za8:=λ_ _ _ _ _ _ _ _ _ h _=>h
noncomputable def IB(x:Str)(r:PTA):PTS:=λR γ=>r γ (λb=>b.length<=1000/\R.ex γ x) (R.ex γ)
def TVs.len:∀{ss}{vs:List V},TVs K Z H0 H H' ss vs->vs.length=ss.length:=by
 intro ss
 induction ss with
 |nil=>
  intro _ h;cases h
  rfl
 |cons _ _ b=>
  intro _ h;cases h with
  |cons h r=>
   exact Qf (· + 1) (b r)
def RG{g r f}(v:X0 K mg (λ_=>f) g r)(hx:autoParam (Td x=none) au_0):Xr K mg (λ_=>f) (ExcR.EW (ExcR.Xi mg x) f g) (IB x r):=by
 intro H0 B H σ γ R D A b h e;refine v H0 B H σ γ _ _ _ b h (λz y H1 l n s=>⟨?_,?_⟩) λc H' w o=>e.ex σ γ c H' w (b.grow o) (Fr.grow o)
 ·rw[s.len];exact CY l.1
 ·exact(e.ex σ γ x H1 l.2 (b.grow n)<|Fr.grow n).plain hx
def Zlt(i j:Nat)(γ:Γ)(R:Γ->Prop):List S->Prop
 |[.sh d,.sh e]=>R ((γ.set i<|some<|.sh d).set j (some<|.sh e))
 |_=>False
noncomputable def clr:Yn->Γ->Γ
 |[],γ=>γ
 |i::r,γ=>clr r (γ.set i none)
theorem Xm.clr:∀b {γ:Γ},Xm K H0 B H σ γ->Xm K H0 B H σ (clr b γ)/\Fr B H σ γ H σ (Pu.clr b γ)
 |[],_,e=>⟨e,Fr.refl⟩
 |i::r,γ,e=>by
  obtain⟨h,f1⟩:=e.drop i;obtain⟨g,f⟩:=Xm.clr r h;exact⟨g,f1.trans f⟩
def Later(H0:Hp)(Z:Addr->Prop)(H1:Hp)(Z':Addr->Prop)(H':Hp):Prop:=Same H0 H'/\(∀b,Z' b->Mut (H' b))/\∀b o,H1 b=some o->¬Z b->H' b=some o/\¬Z' b
def Later.of (e:Xm K H0 B H' b g) (f:Fr B H1 σ γ H' b g):Later H0 (zof B γ σ) H1 (zof B g b) H':=⟨e.same,e.zm,f⟩
def Later.off (l:Later H0 Z H1 Z' H'):Same (off Z H1) (Pu.off Z' H'):=λb o h=>by
 obtain⟨r,n⟩:=P0 h;obtain⟨g,f⟩:=l.2.2 b o r n;exact XN g f
structure Lg (K:Yg) (H0:Hp) (B:Addr->Prop) (H1:Hp) (σ:L2.St) (γ:Γ) (J:It) (n:Nat) (item:Nat->S):Prop where
 go:∀(i:Nat) (H':Hp) (Z':Addr->Prop),i<n->Later H0 (zof B γ σ) H1 Z' H'->J.go i H'/\∀x H'',J.yld i H' x H''->Same H' H''/\TV K Z' H0 H' H'' (item i) x
 stop:∀(H':Hp) (Z':Addr->Prop),Later H0 (zof B γ σ) H1 Z' H'->J.stop n H'
abbrev PTI:=Γ->(Nat->(Nat->S)->Prop)->XR->Prop
def SndI(K:Yg)(mg:Yk)(E:L2.St->XK)(b:TI)(f:PTI):Prop:=∀(H0:Hp) (B:Addr->Prop) (H:Hp) (σ:L2.St) (γ:Γ) (R:Nat->(Nat->S)->Prop) (X:XR) (Q:It->Hp->Prop),Xm K H0 B H σ γ->f γ R X->
 (∀n item J H1,R n item->Same H H1->Lg K H0 B H1 σ γ J n item->Q J H1)->(∀c H',X c->Same H H'->XE mg (E σ) c H')->b σ H Q
structure BA (js:Yn) (γ:Γ) (g:PTG) (body:PTS) (R:Py) (n:Nat) (item:Nat->S):Prop where
 w:∃inv:Nat->Γ->Prop,inv 0 (clr js γ)/\
 (∀i γ',i<n->inv i γ'->g (item i) γ' λγ2=>body {R with nx:=λγ3=>inv (i+1) (clr js γ3),ct:=λγ3=>inv (i+1) (clr js γ3),bk:=R.nx} γ2)/\∀γ',inv n γ'->R.nx γ'
noncomputable def EC(b:Yn)(f:PTI)(g:PTG)(body:PTS):PTS:=λR γ=>f γ (λn item=>BA b γ g body R n item) (R.ex γ)
def Zgv{wi g it pg}(L:Yn)(hi:SndI K mg E wi it)(hg:TC K is g pg)(hb:Xr K mg E t p):Xr K mg E (Em wi g t) (EC L it pg p):=by
 intro H0 B H σ γ R D hB N h e;refine hi H0 B H σ γ _ _ _ N h (λn item J H1 h1 Y ok=>?_) λc H' hc S'=>e.ex σ γ c H' hc (N.grow S') (Fr.grow S');obtain⟨inv,h0,hs,hd⟩:=h1.w;have G:=N.grow Y;refine⟨λi m s H'=>m=n-i/\i<=n/\∃b,inv i b/\Xm K H0 B H' s b/\Fr B H1 σ γ H' s b,⟨n,by simp,Q6 _,_,h0,(G.clr L).1,(G.clr L).2⟩,?_⟩;rintro i m s H' ⟨rfl,hin,b,U,e',f'⟩;by_cases M:i<n
 ·obtain⟨go,yl⟩:=ok.go i H' _ M (Later.of e' f');refine .inr ⟨go,λr H2=>∃o,inv (i+1) o/\Xm K H0 B H2 r o/\Fr B H1 σ γ H2 r o,λr H2 ⟨o,a1,a2,a3⟩=>⟨n-(i+1),by lia,rfl,M,o,a1,a2,a3⟩,λx T y=>?_⟩;obtain⟨S2,tv⟩:=yl x T y;refine hg H0 B H' T s b _ _ _ _ e' S2 tv (hs i b M U) λr o q2 e2 f2 _=>?_;have fall:=f'.trans f2;refine hb H0 B T r o _ _ hB e2 q2 ⟨λf l Q A z C=>?_,e.rt,λf l c Q A z C=>e.ex f l c Q A z ((Fr.grow Y).trans (fall.trans C)),λf l Q A z C=>e.nx f l Q A z ((Fr.grow Y).trans (fall.trans C)),λf l Q A z C=>?_,λf l d v Q A z C=>e.rv f l d v Q A z ((Fr.grow Y).trans (fall.trans C))⟩
  ·exact⟨_,A,(z.clr L).1,(fall.trans C).trans (z.clr L).2⟩
  ·exact⟨_,A,(z.clr L).1,(fall.trans C).trans (z.clr L).2⟩
 ·have:i=n:=by lia
  subst this;exact .inl ⟨ok.stop H' _ (Later.of e' f'),e.nx s b H' (hd b U) e' ((Fr.grow Y).trans f')⟩
noncomputable def S.fix:S->Bool
 | .bor _=>true | .sh _=>true | .own (.nsl _ _)=>false | .own _=>true|_=>false
noncomputable def pIL(a:PTE):PTI:=λγ R X=>a γ (λs=>match s.d with
 | .lst f=>s.fix=true/\R f.length λi=>s.sub (f.getD i .non)
 | .scr b=>s.fix=true/\R b.length λi=>.sh (.int<|b.getD i 0)
 |_=>False) X
def TV.last (env:Xm K H0 B H σ γ) (J:Same H H1) (b:TV K (zof B γ σ) H0 H H1 s v) (A:s.fix=true) (n:s.d=.lst ds):∃l vs,v=.ref l/\vs.length=ds.length/\
  ∀H' Z',Later H0 (zof B γ σ) H1 Z' H'->H' l=some (.lst vs)/\∀(i:Nat) d,ds[i]?=some d->∃u,vs[i]?=some u/\TV K Z' H0 H' H' (s.sub d) u:=by
 have f:∀{s:S},(∀d,s.sub d=.sh d)->Rp K (Pu.off (zof B γ σ) H1) (.lst ds) v->∃l vs,v=.ref l/\vs.length=ds.length/\
   ∀H' Z',Later H0 (zof B γ σ) H1 Z' H'->H' l=some (.lst vs)/\∀i d,ds[i]?=some d->∃u,vs[i]?=some u/\TV K Z' H0 H' H' (s.sub d) u:=λL h=>by
  obtain⟨l,vs,rfl,y,g⟩:=Rp.lst_inv h;refine⟨l,vs,rfl,g.len,λH' Z' lt=>⟨off_sub _ _ (lt.off _ _ y),λi d o=>?_⟩⟩;obtain⟨u,w,r⟩:=g.get o;refine⟨u,w,?_⟩;rw[L];exact Rp.mono lt.off r
 cases s with
 |bor d=>
  have b:=Rp.strip b;rw[show d.strip=.lst ds from n]at b
  obtain⟨l,vs,rfl,y,g⟩:=Rp.lst_inv b;refine⟨l,vs,rfl,g.len,λH' Z' lt=>⟨lt.1 _ _ y,λi d o=>?_⟩⟩;obtain⟨u,w,r⟩:=g.get o;exact⟨u,w,NA lt.2.1 lt.1 r⟩
 |sh d=>
  have:=n
  subst this;exact f (λ_=>rfl) b
 |own z=>
  cases z with
  |dK z|dT z|ins x C xs G|nst G=>cases n
  |nsl a G=>cases A
  |_=>
   cases n
   exact f (λ_=>rfl) (b.shd (env.grow J).same env.zm J rfl)
 |_=>cases A
def Zcc(ha:Xf K mg E te a):SndI K mg E (Fy K te) (pIL a):=by
 intro H0 B H σ γ R X Q g h q qx;refine ha H0 B H σ γ _ X _ g h (λs v H1 o L n=>?_) qx;have b:=g.grow L;split at o
 ·rename_i U A;obtain⟨l,C,rfl,hn,f⟩:=n.last g L o.1 A;obtain⟨M,_⟩:=f H1 _ (Later.of b Fr.refl);refine⟨l,rfl,⟨C,SqL.of M⟩,q _ _ _ H1 o.2 L ⟨λi H' Z' J lt=>?_,λH' Z' lt=>?_⟩⟩
  ·obtain⟨r,k2⟩:=f H' Z' lt;have hd:U[i]?=some (U.getD i .non):=by rw[WJ,Wy J];rfl
   obtain⟨u,w,Y⟩:=k2 i _ hd;refine⟨⟨C,u,SqL.of r,w⟩,λx N y=>?_⟩;obtain⟨rfl,y⟩:=y
   have:=y C (SqL.of r)
   rw[w]at this;cases this
   exact⟨Same.refl _,Y⟩
  ·exact⟨C,SqL.of (f H' Z' lt).1,by lia⟩
 ·rename_i G A
  have z:∃l,v=.ref l/\∀H' Z',Later H0 (zof B γ σ) H1 Z' H'->SqL K H' l (G.map V.int):=by
   cases s with
   |bor d=>
    have n:=Rp.strip n;rw[show d.strip=.scr G from A]at n
    cases n with
    |scr z=>exact⟨_,rfl,λH' Z' lt=>lt.1.seq z⟩
   |sh d=>
    have:=A
    subst this;cases n with
    |scr z=>exact⟨_,rfl,λH' Z' lt=>off_sub.seq (lt.off.seq z)⟩
   |own T|view T=>cases T<;>cases A
   |tmp d=>cases o.1
  obtain⟨l,rfl,f⟩:=z;refine⟨l,rfl,⟨_,f H1 _ (Later.of b Fr.refl)⟩,q _ _ _ H1 o.2 L ⟨λi H' Z' J lt=>?_,λH' Z' lt=>?_⟩⟩
  ·have r:=f H' Z' lt
   have w:(G.map V.int)[i]?=some (.int<|G.getD i 0):=by
    rw[WB,Wy J,WJ,Wy J];rfl
   refine⟨⟨_,_,r,w⟩,λx N y=>?_⟩;obtain⟨rfl,y⟩:=y
   have:=y _ r
   rw[w]at this;cases this
   exact⟨Same.refl _,.int _⟩
  ·exact⟨_,f H' Z' lt,by rw[Wx];exact W5 _⟩
 ·exact o.elim
def fR1(R:Nat->(Nat->S)->Prop):List D->Prop
 |[.int j]=>(-(2 ^ 62)<=j/\j<2 ^ 62)/\R j.toNat λi=>.sh (.int (0+(i:Int)))
 |_=>False
def fR2(R:Nat->(Nat->S)->Prop):List D->Prop
 |[.int i,.int j]=>(-(2 ^ 62)<=i/\i<2 ^ 62/\-(2 ^ 62)<=j/\j<2 ^ 62)/\R (j-i).toNat λk=>.sh (.int (i+(k:Int)))
 |_=>False
noncomputable def IC(r:PTA):PTI:=λγ R X=>r γ (λb=>fR1 R (b.map S.d)) X
noncomputable def LC(r:PTA):PTI:=λγ R X=>r γ (λb=>fR2 R (b.map S.d)) X
def Rps.one_inv (h:Rps K H [d] vs):∃v,vs=[v]/\Rp K H d v:=by
 cases h with
 |cons h r=>cases r;exact⟨_,rfl,h⟩
def Rps.two_inv (h:Rps K H [d,e] vs):∃v u,vs=[v,u]/\Rp K H d v/\Rp K H e u:=by
 cases h with
 |cons h r=>cases r with|cons b r=>cases r;exact⟨_,_,rfl,h,b⟩
def He{lo n}:Lg K H0 B H1 σ γ (Itr lo n) n λi=>.sh (.int (lo+(i:Int))):=by
 refine⟨λi H' Z' b lt=>⟨b,λx f y=>?_⟩,λH' Z' lt=>W5 _⟩;obtain⟨e,y⟩:=y;subst e y;exact⟨Same.refl _,.int _⟩
def Zfr(x:X0 K mg E n r):SndI K mg E (Es n) (IC r):=by
 intro H0 B H σ γ R X Q f h q w;refine x H0 B H σ γ _ X _ f h (λA z H1 b l o=>?_) w;have g:=o.rps (f.grow l).same;unfold fR1 at b;split at b
 ·rename_i j y;rw[y]at g;obtain⟨v,rfl,s⟩:=g.one_inv;rw[s.int_inv];exact⟨j,rfl,b.1.1,b.1.2,q _ _ _ H1 b.2 l He⟩
 ·grind
def Zfj(y:X0 K mg E n r):SndI K mg E (IU n) (LC r):=by
 intro H0 B H σ γ R X Q b h q x;refine y H0 B H σ γ _ X _ b h (λC A H1 f l o=>?_) x;have g:=o.rps (b.grow l).same;unfold fR2 at f;split at f
 ·rename_i i j z;rw[z]at g;obtain⟨v,u,rfl,w,s⟩:=g.two_inv;rw[w.int_inv,s.int_inv];exact⟨i,j,rfl,f.1,q _ _ _ H1 f.2 l He⟩
 ·grind
structure Hj (js:Yn) (γ:Γ) (c:PTT) (body:PTS) (R:Py):Prop where
 w:∃(inv:Γ->Prop) (μ:Γ->Nat),inv (clr js γ)/\∀γ',inv γ'->c γ' (λb=>if b=true then
  body {R with nx:=λγ3=>inv (clr js γ3)/\μ (clr js γ3)<μ γ',ct:=λγ3=>inv (clr js γ3)/\μ (clr js γ3)<μ γ',bk:=R.nx} γ' else R.nx γ') (R.ex γ')
noncomputable def Mn(b:Yn)(c:PTT)(body:PTS):PTS:=λR γ=>Hj b γ c body R
def Zf2(z:Yn)(J:Ki K mg E tt c)(hb:Xr K mg E t p):Xr K mg E (E4 tt t) (Mn z c p):=by
 intro H0 B H σ γ R D hB C h e;obtain⟨inv,G,h0,hs⟩:=h.w;refine⟨λm l H'=>∃f,m=G f/\inv f/\Xm K H0 B H' l f/\Fr B H σ γ H' l f,⟨_,_,rfl,h0,(C.clr z).1,(C.clr z).2⟩,?_⟩;rintro m l H' ⟨f,rfl,hi,L,T⟩;refine J H0 B H' l f _ _ _ L (hs f hi) (λb H1 Q Y=>?_) λc N J S'=>e.ex l f c N J (L.grow S') (T.trans<|Fr.grow S');have U:=L.grow Y;have f1:=T.trans (Fr.grow Y);cases b with
 |false=>
  exact e.nx l f H1 Q U f1
 |true=>
  refine⟨λy M=>∃o,G o<G f/\inv o/\Xm K H0 B M y o/\Fr B H σ γ M y o,λy M ⟨o,k,a1,a2,a3⟩=>⟨_,k,o,rfl,a1,a2,a3⟩,?_⟩;refine hb H0 B H1 l f _ _ hB U Q ⟨λg n A r s x=>?_,e.rt,λg n c A r s x=>e.ex g n c A r s (f1.trans x),λg n A r s x=>e.nx g n A r s (f1.trans x),λg n A r s x=>?_,λg n d v A r s x=>e.rv g n d v A r s (f1.trans x)⟩
  ·exact⟨_,r.2,r.1,(s.clr z).1,(f1.trans x).trans (s.clr z).2⟩
  ·exact⟨_,r.2,r.1,(s.clr z).1,(f1.trans x).trans (s.clr z).2⟩
end
section
variable {K:Yg}{mg:Yk}{E:L2.St->XK}{H0 H H1 H':Hp}{B Z Z':Addr->Prop}{σ:L2.St}{γ:Γ}
noncomputable def Pf(N:Yp)(ds:List D):Γ:=ds.map (λd=>some (arg d))++List.replicate (N.length-ds.length) none
def Za9{ds vs}(r:Rps K H ds vs)(x:ds.length<=N.length):Xm K H (λb=>Mut (H b)) H (start N vs) (Pf N ds):=by
 have get:∀i s,(Pf N ds)[i]?=some (some s)->∃d,ds[i]?=some d/\s=arg d:=λi s h=>by
  unfold Pf at h;by_cases g:i<ds.length
  ·rw[Qh (by rw[Wx];exact g),WB,Wy g]at h;exact⟨_,Wy g,(WD<|WD h).symm⟩
  ·rw[Qd (by rw[Wx];lia),VB]at h;split at h<;>cases h
 have noown:∀(i:Nat) f,(Pf N ds)[i]?≠some (some<|.own f):=λi f h=>by
  obtain⟨d,_,e⟩:=get i _ h;rcases Dx d with q|q<;>rw[q]at e<;>cases e
 refine⟨Same.refl _,?_,λb h=>h,λi j a y f w b h=>absurd h (noown i f),λi s h=>?_⟩
 ·unfold L2.start Pf;simp[r.len]
 ·obtain⟨d,u,rfl⟩:=get i s h;obtain⟨v,n,o⟩:=r.get u;refine⟨v,?_,?_⟩
  ·unfold L2.start;rw[Qh (by rw[Wx];exact(WI.mp n).1),WB,n];rfl
  ·have l:=NA (Z:=zof (λb=>Mut (H b)) (Pf N ds) (start N vs)) (H:=H) (λb z=>z.elim id λ⟨k,f,_,p,_⟩=>absurd p (noown k f)) (Same.refl _) o;rcases Dx d with q|q<;>rw[q]at l ⊢<;>exact l
def Zf5{t p vs Q y n}(h:Xp mg c K vs H Q y)(o:Xr K mg (λ_=>y) t p)(L:n<=N.length)(u:∀ds R X,c ds R X->ds.length=n/\p {nx:=λ_=>R (.sh .non),rt:=R,ex:=λ_ e=>X e} (Pf N ds)):t {nx:=λ_ H'=>Q .non H',rt:=Q} (start N vs) H:=by
 obtain⟨ds,R,X,r,C,x,G⟩:=h;obtain⟨e,u⟩:=u ds R X C;refine o H (λb=>Mut (H b)) H _ _ _ _ (λb z=>SR z) (Za9 r<|by lia) u ⟨λg l H' f w f1=>x _ _ H' f w.same .non,λs v H' f J A=>x s v H' f J A,λg l c H' f w f1=>G c H' f w.same,λ_ _ _ z=>z.elim,λ_ _ _ z=>z.elim,λ_ _ _ _ _ z=>z.elim⟩
def Za5(h:Xp mg c K vs H Q g)(b:∀ds R X,c ds R X->ds.length=n):vs.length=n:=by
 obtain⟨ds,R,X,r,f,_⟩:=h;rw[r.len]
 grind
noncomputable def atP(φ:Ym)(γ:Γ):Γ:=φ.map λo=>o.bind λj=>(γ[j]?).join
structure SA (φ:Ym) (γ:Γ) (g:PTG) (c:PTT) (e:PTE) (n:Nat) (item:Nat->S) (R:S->Prop):Prop where
 w:n<=100000/\∃f:Nat->Option D,(∀i,i<n->g (item i) (atP φ γ) λγ2=>c γ2 (λb=>if b=true then e γ2 (λs=>∃d,s.shd=some d/\f i=some d) (λ_=>False)else f i=none) (λ_=>False))/\R (.own ((List.range n).filterMap f))
noncomputable def AU(φ:Ym)(b:PTI)(g:PTG)(c:PTT)(e:PTE):PTE:=λγ R X=>b γ (λn item=>SA φ γ g c e n item R) X
def BL{i:Nat}{s}(h:(atP φ γ)[i]?=some (some s)):∃j,φ[i]?=some (some j)/\γ[j]?=some (some s):=by
 unfold atP at h;cases e:φ[i]? with
 |none=>grind
 |some o=>
  cases o with
  |_=>grind
theorem D2:∀{φ:Ym},(φ.filterMap id).Nodup->∀(i j k:Nat),φ[i]?=some (some k)->φ[j]?=some (some k)->i=j
 |[],_,i,_,_,h,_=>by simp at h
 |none::r,l,i,j,k,f,b=>by
  cases i with
  |zero=>simp at f
  |succ i=>
   cases j with
   |zero=>simp at b
   |succ j=>exact Qf (· + 1) (D2 (by simpa using l) i j k (by simpa using f)<|by simpa using b)
 |some m::r,l,i,j,k,f,b=>by
  have g:m∉r.filterMap id/\(r.filterMap id).Nodup:=by simpa using l
  have mem:∀{j:Nat},r[j]?=some (some k)->k∈r.filterMap id:=λh=>Jr.mpr ⟨some k,WT h,rfl⟩;cases i with
  |zero=>
   cases j with
   |zero=>rfl
   |succ j=>simp_all
  |succ i=>
   cases j with
   |zero=>simp_all
   |succ j=>exact Qf (· + 1) (D2 g.2 i j k (by simpa using f)<|by simpa using b)
def B0{i j:Nat}(f:φ[i]?=some (some j)){v}(b:σ[j]?=some (some v)):(atStart φ σ)[i]?=some (some v):=by
 unfold atStart
 grind
def ER{L}(env:Xm K H0 B H σ γ)(s:H L=none):∀b o,H b=some o->¬zof B γ σ b->¬zof (λb=>zof B γ σ b\/b=L) (atP φ γ) (atStart φ σ) b:=λb o v z y=>by
 rcases y with(y|y)|⟨u,r,x,n,f,l⟩
 ·grind
 ·grind
 ·obtain⟨m,p,h⟩:=BL n;obtain⟨w,g,_⟩:=env.slot m _ h;rw[B0 p g]at f;exact z (.inr ⟨m,r,x,h,by rw[g];exact Qf some (WD f),l⟩)
def RP{L}(env:Xm K H0 B H σ γ)(n:Same H H')(N:H L=none)(Q:∃w,H' L=some (.lst w))(r:(φ.filterMap id).Nodup) :
  Xm K H0 (λb=>zof B γ σ b\/b=L) H' (atStart φ σ) (atP φ γ):=by
 refine⟨env.same.trans n,by unfold atStart atP;simp,λb z=>?_,λi j a a' J es b h1 h2 Y G U T=>?_,λi s h=>?_⟩
 ·rcases z with z|rfl
  ·exact Po n (env.zm b z)
  ·obtain⟨w,e⟩:=Q;rw[e];trivial
 ·obtain⟨k,g,f⟩:=BL h1;obtain⟨l,C,A⟩:=BL h2;obtain⟨v,p,_⟩:=env.slot k _ f;obtain⟨u,y,_⟩:=env.slot l _ A;rw[B0 g p]at Y;rw[B0 C y]at G
  have:=env.own k l a a' J es b f A (by grind) (by rw[y];exact Qf some (WD G)) U T
  subst this;exact D2 r i j k g C
 ·obtain⟨k,g,f⟩:=BL h;obtain⟨v,p,o⟩:=env.slot k _ f;have M:Same (off (zof B γ σ) H) (off (zof (λb=>zof B γ σ b\/b=L) (atP φ γ)<|atStart φ σ) H'):=Xy n (ER env N);refine⟨v,B0 g p,?_⟩;cases s with
  |sh d=>exact Rp.mono M o
  |own J=>
   obtain⟨a,e1,e3,e4⟩:=o;exact⟨a,e1,e3,e4.mono M λb _ x=>n b x⟩
  |_=>exact o
def Sub.of {f:Yn} (g:b.length=σ.length) (l:∀j,j∉f->b[j]?=σ[j]?) (n:∀j∈f,∀v,σ[j]?≠some (some v)):Sub σ b:=⟨g,λi v e=>by
 by_cases h:i∈f
 ·grind
 ·rw[l i h];exact e⟩
structure Zgd (K:Yg) (H0:Hp) (B:Addr->Prop) (H1:Hp) (σ:L2.St) (γ:Γ) (J:It) (n:Nat) (item:Nat->S):Prop where
 go:∀(i:Nat) (H':Hp) (Z':Addr->Prop),i<n->Same H1 H'->Later H0 (zof B γ σ) H1 Z' H'->J.go i H'/\∀x H'',J.yld i H' x H''->Same H' H''/\TV K Z' H0 H' H'' (item i) x
 stop:∀(H':Hp) (Z':Addr->Prop),Same H1 H'->Later H0 (zof B γ σ) H1 Z' H'->J.stop n H'
def Bb(K:Yg)(mg:Yk)(E:L2.St->XK)(b:TI)(f:PTI):Prop:=∀(H0:Hp) (B:Addr->Prop) (H:Hp) (σ:L2.St) (γ:Γ) (R:Nat->(Nat->S)->Prop) (X:XR) (Q:It->Hp->Prop),Xm K H0 B H σ γ->f γ R X->
 (∀n item J H1,R n item->Same H H1->Zgd K H0 B H1 σ γ J n item->Q J H1)->(∀c H',X c->Same H H'->XE mg (E σ) c H')->b σ H Q
def SndI.c (h:SndI K mg E f l):Bb K mg E f l:=λH0 B H σ γ R X Q b p q g=>
 h H0 B H σ γ R X Q b p (λn item J H1 r s ok=>q n item J H1 r s ⟨λi H' Z' o _ lt=>ok.go i H' Z' o lt,λH' Z' _ lt=>ok.stop H' Z' lt⟩) g
noncomputable def EX(a:PTE):PTI:=λγ R X=>a γ (λs=>match s.d with
 | .lst b=>R b.length λi=>s.sub (b.getD i .non)
 | .tup b=>False
 | .scr f=>R f.length λi=>.sh (.int<|f.getD i 0)
 |_=>False) X
def N5(ha:Xf K mg E te a):Bb K mg E (Fy K te) (EX a):=by
 intro H0 B H σ γ R X Q env h q qx;refine ha H0 B H σ γ _ X _ env h (λs v H1 h1 S1 A=>?_) qx;have M:=env.grow S1;split at h1
 ·rename_i ds G;have Y:=A.rp M.same;rw[G]at Y;obtain⟨l,U,rfl,f,r1⟩:=Y.lst_inv;refine⟨l,rfl,⟨U,SqL.of f⟩,q _ _ _ H1 h1 S1 ⟨λi H' Z' hi J lt=>?_,λH' Z' J lt=>⟨U,SqL.of (J _ _ f),by rw[r1.len];exact W5 _⟩⟩⟩;have N:ds[i]?=some (ds.getD i .non):=by rw[WJ,Wy hi];rfl
  have hi':∃u,U[i]?=some u/\TV K Z' H0 H' H' (s.sub<|ds.getD i .non) u:=by
   cases s with
   |bor d=>
    have A:=Rp.strip A;rw[show d.strip=.lst ds from G]at A
    obtain⟨T,o,w,r,p⟩:=Rp.lst_inv A;cases w
    rw[M.same _ _ r]at f;cases f
    obtain⟨u,n,g⟩:=p.get N;exact⟨u,n,NA lt.2.1 lt.1 g⟩
   |sh d=>
    have:=G
    subst this;obtain⟨T,o,w,r,p⟩:=Rp.lst_inv A;cases w
    rw[off_sub _ _ r]at f;cases f
    obtain⟨u,n,g⟩:=p.get N;exact⟨u,n,Rp.mono lt.off g⟩
   |own L=>
    cases L with
    |dK L|dT L|ins x C xs cs|nst cs=>cases G
    |nsl x cs=>
     obtain⟨u,n,g⟩:=r1.get N;exact⟨u,n,P2 lt.2.1 (Rp.mono J g)⟩
    |lsA x L=>
     cases G
     obtain⟨T,w,h0,_,o,r,p⟩:=A;cases w
     rw[r]at f;cases f
     obtain⟨u,n,g⟩:=p.get N;exact⟨u,n,Rp.mono lt.off (Rp.mono (Xy (Same.refl _) λb _ _ z y=>z (.inl y)) g)⟩
    |lst L=>
    cases G
    obtain⟨T,w,h0,o,r,p⟩:=A;cases w
    rw[r]at f;cases f
    obtain⟨u,n,g⟩:=p.get N;exact⟨u,n,Rp.mono lt.off (Rp.mono (Xy (Same.refl _) λb _ _ z y=>z (.inl y)) g)⟩
   |view L=>
    cases L with
    |dK L|dT L|ins x C xs cs|nst cs=>cases G
    |nsl x cs=>
     obtain⟨u,n,g⟩:=r1.get N;exact⟨u,n,P2 lt.2.1 (Rp.mono J g)⟩
    |lsA x L=>
     cases G
     obtain⟨T,w,_,o,r,p⟩:=A;cases w
     rw[r]at f;cases f
     obtain⟨u,n,g⟩:=p.get N;exact⟨u,n,Rp.mono lt.off g⟩
    |lst L=>
    cases G
    obtain⟨T,w,o,r,p⟩:=A;cases w
    rw[r]at f;cases f
    obtain⟨u,n,g⟩:=p.get N;exact⟨u,n,Rp.mono lt.off g⟩
   |tmp d=>
    have:=G
    subst this;obtain⟨T,o,w,r,p⟩:=Rp.lst_inv A;cases w
    rw[r]at f;cases f
    obtain⟨u,n,g⟩:=p.get N;exact⟨u,n,P2 lt.2.1 (Rp.mono J g)⟩
  obtain⟨u,hu,tu⟩:=hi';refine⟨⟨U,u,SqL.of (J _ _ f),hu⟩,λx H'' y=>?_⟩;obtain⟨rfl,y⟩:=y
  have:=y U (SqL.of<|J _ _ f)
  rw[hu]at this;cases this
  exact⟨Same.refl _,tu⟩
 ·exact h1.elim
 ·rename_i ns G;have Y:=A.rp M.same;rw[G]at Y;cases Y with
  |scr hs=>
   refine⟨_,rfl,⟨_,hs⟩,q _ _ _ H1 h1 S1 ⟨λi H' Z' hi J lt=>?_,λH' Z' J lt=>⟨_,J.seq hs,by rw[Wx];exact W5 _⟩⟩⟩
   have hu:(ns.map V.int)[i]?=some (.int<|ns.getD i 0):=by
    rw[WB,Wy hi,WJ,Wy hi];rfl
   refine⟨⟨_,_,J.seq hs,hu⟩,λx H'' y=>?_⟩;obtain⟨rfl,y⟩:=y
   have:=y _ (J.seq hs)
   rw[hu]at this;cases this
   exact⟨Same.refl _,.int _⟩
 ·exact h1.elim
def P7{φ is wi g tc te it pg c a}(hi:Bb K mg E wi it)(hg:TC K is g pg)(hc:Ki K mg E tc c)(he:Xf K mg E te a)(h1:autoParam ((φ.filterMap id).Nodup) au_1)(h2:autoParam (∀j∈is,φ[j]?=some none) au_1):Xf K mg E (SW φ wi g tc te) (AU φ it pg c a):=by
 intro H0 B H σ γ R X Q env h q qx;refine hi H0 B H σ γ _ X _ env h (λn item J H1 h1' S1 ok=>?_) qx;obtain⟨hn,f,hf,hR⟩:=h1'.w;have l:=env.grow S1;have hbig:n<=sizeLine:=WC hn (by decide);intro L U;refine⟨λi m G C=>m=n-i/\i<=n/\Same H1 C/\C L=some (.lst G)/\Rps K (off (λb=>zof B γ σ b\/b=L) C) ((List.range i).filterMap f) G,⟨n,by simp,Q6 _,XJ U,Xw,.nil⟩,?_⟩;rintro i m G C ⟨rfl,hin,u,hL,p⟩;have A:=l.grow u;by_cases r:i<n
 ·have envI2:=RP l u U ⟨G,hL⟩ h1;obtain⟨go,yl⟩:=ok.go i C _ r u ⟨A.same,envI2.zm,λb o Y z=>⟨u _ _ Y,ER l U b o Y z⟩⟩;refine .inr ⟨go,λx H3 y=>?_⟩;obtain⟨S3,tv⟩:=yl x H3 y;refine hg H0 _ C H3 _ _ _ _ _ _ envI2 S3 tv (hf i r) λN T p2 e2 f2 k2=>⟨?_,?_⟩
  ·refine Sub.of k2.2 k2.1 λj hj v z=>?_;obtain⟨k,k1,_⟩:=EZ z;rw[h2 j hj]at k1;cases k1
  ·refine hc H0 _ H3 N T _ _ _ e2 p2 (λb H5 q5 S5=>?_) λ_ _ z=>z.elim;have e5:=e2.grow S5;cases b with
   |false=>
    rw[W3 WK]at q5 ⊢;refine⟨n-(i+1),by lia,rfl,r,(u.trans S3).trans S5,(S3.trans S5) _ _ hL,?_⟩;rw[List.range_succ,Vm];simp only[QJ,q5,List.filterMap_nil,Qg];exact Rps.mono (Xy (S3.trans S5) λ_ _ _ z=>z) p
   |true=>
    refine he H0 _ H5 N T _ _ _ e5 q5 (λs v H6 q6 S6 t6=>?_) λ_ _ z=>z.elim;obtain⟨d,hd,hfd⟩:=q6;have M:=(S3.trans S5).trans S6
    have hlen:G.length<=i:=by
     rw[p.len];exact WC (List.length_filterMap_le _ _) (by rw[List.length_range];exact W5 _)
    refine⟨M _ _ hL,by lia,n-(i+1),by lia,rfl,r,λb o Y=>?_,Xw,?_⟩
    ·rw[Xl (Kf Y U)];exact M _ _ (u _ _ Y)
    ·rw[List.range_succ,Vm];have ef:[i].filterMap f=[d]:=by simp[hfd]
     rw[ef]
     have So:Same (off (λb=>zof B γ σ b\/b=L) H6) (off (λb=>zof B γ σ b\/b=L)<|upd H6 L<|.lst (G++[v])):=λb o h=>by
      obtain⟨a1,a2⟩:=P0 h;refine XN ?_ a2;rwa[Xl λz=>a2 (.inr z)]
     refine Rps.append (Rps.mono So<|Rps.mono (Xy M λ_ _ _ z=>z) p) (.cons (Rp.mono So<|Rp.mono (Xy (Same.refl _) λb _ _ z y=>z (.inl y)) (t6.shd (e5.grow S6).same e5.zm S6 hd)) .nil)
 ·have:i=n:=by lia
  subst this;exact .inl ⟨ok.stop C _ u (Later.of A<|Fr.grow u),q _ _ C hR (S1.trans u) ⟨L,rfl,(λ_ e=>e▸S1.free U),G,hL,p⟩⟩
noncomputable def A5:PTT:=λ_ R _=>R true
def TU:Ki K mg E IZ A5:=λ_ _ H _ _ _ _ _ _ p q _=>q _ H p (Same.refl _)
def Zb1{b g:Type}(xs:List b)(f:b->Option g):(List.range xs.length).filterMap (λi=>(xs[i]?).bind f)=xs.filterMap f:=by
 induction xs with
 |nil=>rfl
 |cons x r h=>
  rw[Qq,List.range_succ_eq_map,QJ,List.filterMap_map,QJ];have e:(λi=>((x::r)[i]?).bind f)∘Nat.succ=λi=>(r[i]?).bind f:=rfl;rw[e,h];rfl
end
open M
section
variable {K:Yg}{mg:Yk}{E:L2.St->XK}{H0 H H1 H':Hp}{B Z Z':Addr->Prop}{σ:L2.St}{γ:Γ}
noncomputable def pCB(f:List S->(S->Prop)->Prop)(r:PTA):PTE:=λγ R X=>r γ (λb=>f b R) X
def Pt{f o r}(A:X0 K mg E o r)(h:∀H0 H H1 Z l vs R Q,Same H0 H1->Same H H1->(∀b,Z b->Mut (H b))->TVs K Z H0 H H1 l vs->f l R->(∀s z H',R s->Same H1 H'->TV K Z H0 H H' s z->Q z H')->w vs H1 Q) :
  Xf K mg E (tCB w o) (pCB f r):=by
 intro H0 B H σ γ R X Q g p q x;refine A H0 B H σ γ _ X _ g p (λl vs H1 C n v=>?_) x;exact h H0 H H1 _ l vs R Q (g.grow n).same n g.zm v C λs z H' y G u=>q s z H' y (n.trans G) u
noncomputable def S.free:S->List D->Bool
 | .bor _,b=>Kq b | .tmp _,b=>Kq b | .view (.nst _),b=>Kq b | .view (.nsl _ _),b=>Kq b|_,_=>true
def TVs.one_inv (h:TVs K Z H0 H H' [s] vs):∃v,vs=[v]/\TV K Z H0 H H' s v:=by
 cases h with
 |cons h r=>cases r;exact⟨_,rfl,h⟩
def TVs.two_inv (h:TVs K Z H0 H H' [s,t] vs):∃v u,vs=[v,u]/\TV K Z H0 H H' s v/\TV K Z H0 H H' t u:=by
 cases h with
 |cons h r=>cases r with|cons b r=>cases r;exact⟨_,_,rfl,h,b⟩
def TV.items (n:Same H0 H') (u:∀b,Z b->Mut (H b)) (C:Same H H') (h:TV K Z H0 H H' s v) (p:s.free ds=true) :
  (s.d=.lst ds->∃a vs,v=.ref a/\H' a=some (.lst vs)/\Rps K (off Z H') ds vs)/\(s.d=.tup ds->∃a vs,v=.ref a/\H' a=some (.tup vs)/\Rps K (off Z H') ds vs):=by
 have g:=λb z=>Po C (u b z);cases s with
 |bor d=>
  have h:=Rp.strip h;refine⟨λe=>?_,λe=>?_⟩<;>rw[show d.strip=_ from e]at h
  ·obtain⟨a,vs,rfl,f,r⟩:=Rp.lst_inv h;exact⟨a,vs,rfl,n _ _ f,Rps.off g (Rps.mono n r) p⟩
  ·obtain⟨a,vs,rfl,f,r⟩:=Rp.tup_inv h;exact⟨a,vs,rfl,n _ _ f,Rps.off g (Rps.mono n r) p⟩
 |sh d=>
  refine⟨λe=>?_,λe=>?_⟩<;>(have w:=e;subst w)
  ·obtain⟨a,vs,rfl,f,r⟩:=Rp.lst_inv h;exact⟨a,vs,rfl,off_sub _ _ f,r⟩
  ·obtain⟨a,vs,rfl,f,r⟩:=Rp.tup_inv h;exact⟨a,vs,rfl,off_sub _ _ f,r⟩
 |own o=>
  cases o with
  |nsl x A=>
   refine⟨λe=>?_,λe=>by cases e⟩;have l:=h.shd n u C rfl;cases e
   obtain⟨a,vs,rfl,f,r⟩:=Rp.lst_inv l;exact⟨a,vs,rfl,off_sub _ _ f,r⟩
  |nst A=>
   refine⟨(λe=>by cases e),λe=>?_⟩;have l:=h.shd n u C rfl;cases e
   obtain⟨a,vs,rfl,f,r⟩:=Rp.tup_inv l;exact⟨a,vs,rfl,off_sub _ _ f,r⟩
  |lst o=>
   refine⟨λe=>?_,λe=>by cases e⟩;cases e
   obtain⟨a,rfl,G,vs,e,r⟩:=h;exact⟨a,vs,rfl,e,Rps.mono (Xy (Same.refl _) λb _ _ z y=>z (.inl y)) r⟩
  |lsA x o=>
   refine⟨λe=>?_,λe=>by cases e⟩;cases e
   obtain⟨a,rfl,G,_,vs,e,r⟩:=h;exact⟨a,vs,rfl,e,Rps.mono (Xy (Same.refl _) λb _ _ z y=>z (.inl y)) r⟩
  |_=>exact⟨(λe=>by cases e),(λe=>by cases e)⟩
 |view o=>
  cases o with
  |nsl x A=>
   refine⟨λe=>?_,λe=>by cases e⟩;have l:=h.rp n;rw[e]at l;obtain⟨a,vs,rfl,f,r⟩:=Rp.lst_inv l;exact⟨a,vs,rfl,f,Rps.off g r p⟩
  |nst A=>
   refine⟨(λe=>by cases e),λe=>?_⟩;have l:=h.rp n;rw[e]at l;obtain⟨a,vs,rfl,f,r⟩:=Rp.tup_inv l;exact⟨a,vs,rfl,f,Rps.off g r p⟩
  |lst o=>
   refine⟨λe=>?_,λe=>by cases e⟩;cases e
   obtain⟨a,rfl,vs,e,r⟩:=h;exact⟨a,vs,rfl,e,r⟩
  |lsA x o=>
   refine⟨λe=>?_,λe=>by cases e⟩;cases e
   obtain⟨a,rfl,_,vs,e,r⟩:=h;exact⟨a,vs,rfl,e,r⟩
  |_=>exact⟨(λe=>by cases e),(λe=>by cases e)⟩
 |tmp d=>
  refine⟨λe=>?_,λe=>?_⟩<;>(have w:=e;subst w)
  ·obtain⟨a,vs,rfl,f,r⟩:=Rp.lst_inv h;exact⟨a,vs,rfl,f,Rps.off g r p⟩
  ·obtain⟨a,vs,rfl,f,r⟩:=Rp.tup_inv h;exact⟨a,vs,rfl,f,Rps.off g r p⟩
def FL:List S->(S->Prop)->Prop
 |[s],R=>(match s.d with
  | .lst f=>R (.sh<|.int f.length) | .tup f=>R (.sh<|.int f.length) | .scr b=>R (.sh<|.int b.length) | .fL b=>R (.sh<|.int b.length) | .str x=>x.length<=sizeLine/\R (.sh<|.int x.length)|_=>False)
 |_,_=>False
def FB(A:X0 K mg E u r):Xf K mg E (tCB (λxs H Q=>∃x n,xs=[x]/\Bt K x H n/\Q (.int n) H) u) (pCB FL r):=by
 refine Pt A λH0 H H1 Z J G R Q y L M p h q=>?_;unfold FL at h;split at h
 ·rename_i s;obtain⟨v,rfl,w⟩:=p.one_inv;have b:=w.rp y;split at h
  ·rename_i C e;rw[e]at b;obtain⟨a,f,rfl,o,g⟩:=b.lst_inv;exact⟨_,_,rfl,.inl ⟨f,SqL.of o,rfl⟩,by rw[g.len];exact q _ _ H1 h (Same.refl _) (.int _)⟩
  ·rename_i C e;rw[e]at b;obtain⟨a,f,rfl,o,g⟩:=b.tup_inv;exact⟨_,_,rfl,.inr ⟨f,SqT.of o,rfl⟩,by rw[g.len];exact q _ _ H1 h (Same.refl _) (.int _)⟩
  ·rename_i z e;rw[e]at b;cases b with
   |scr l=>exact⟨_,_,rfl,.inl ⟨_,l,rfl⟩,by rw[Wx];exact q _ _ H1 h (Same.refl _) (.int _)⟩
  ·rename_i z e;rw[e]at b;cases b with
   |fL l=>exact⟨_,_,rfl,.inl ⟨_,.inl (.inr ⟨_,l⟩),rfl⟩,by rw[Wx];exact q _ _ H1 h (Same.refl _) (.int _)⟩
  ·rename_i x e;rw[e]at b;rw[b.str_inv];exact⟨_,_,rfl,⟨h.1,rfl⟩,q _ _ H1 h.2 (Same.refl _) (.int _)⟩
  ·exact h.elim
 ·exact h.elim
def L7:List S->(S->Prop)->Prop
 |[s],R=>(match s.d with
  | .lst b=>s.free b=true/\R (.own b) | .tup b=>s.free b=true/\R (.own b)|_=>False)
 |_,_=>False
def Nf(C:X0 K mg E A r):Xf K mg E (tCB (λxs H Q=>∃p g,xs=[.ref p]/\(SqL K H p g\/SqT K H p g)/\∀l,H l=none->Q (.ref l) (upd H l<|.lst g)) A) (pCB L7 r):=by
 refine Pt C λH0 H H1 Z L J R Q x f y z h q=>?_;unfold L7 at h;split at h
 ·rename_i s;obtain⟨v,rfl,w⟩:=z.one_inv;split at h
  ·rename_i G e;obtain⟨a,n,rfl,u,o⟩:=(w.items x y f h.1).1 e;exact⟨a,n,rfl,.inl (SqL.of u),λl b=>q _ _ _ h.2 (XJ b) (Nh f b o)⟩
  ·rename_i G e;obtain⟨a,n,rfl,u,o⟩:=(w.items x y f h.1).2 e;exact⟨a,n,rfl,.inr (SqT.of u),λl b=>q _ _ _ h.2 (XJ b) (Nh f b o)⟩
  ·grind
 ·grind
def IM:List S->(S->Prop)->Prop
 |[s],R=>(match s.d with
  | .lst b=>s.free b=true/\R (.sh<|.tup b) | .tup b=>s.free b=true/\R (.sh<|.tup b)|_=>False)
 |_,_=>False
def Zal(L:X0 K mg E J r):Xf K mg E (tCB (λxs H Q=>∃p n,xs=[.ref p]/\((SqL K H p n/\∀l,H l=none->Q (.ref l) (upd H l<|.tup n))\/(SqT K H p n/\Q (.ref p) H))) J) (pCB IM r):=by
 refine Pt L λH0 H H1 Z T N R Q C u y G h q=>?_;have f:=λb z=>Po u (y b z);unfold IM at h;split at h
 ·rename_i s;obtain⟨v,rfl,A⟩:=G.one_inv;split at h
  ·rename_i M e;obtain⟨a,o,rfl,g,w⟩:=(A.items C y u h.1).1 e;refine⟨a,o,rfl,.inl ⟨SqL.of g,λl x=>q _ _ _ h.2 (XJ x) (.tup (XN Xw λz=>?_)<|Rps.mono (Xy (XJ x) λ_ _ _ z=>z) w)⟩⟩
   have:=f l z
   rw[x]at this;exact this
  ·rename_i M e;obtain⟨a,o,rfl,g,w⟩:=(A.items C y u h.1).2 e;refine⟨a,o,rfl,.inr ⟨SqT.of g,q _ _ _ h.2 (Same.refl _) (.tup (XN g λz=>?_) w)⟩⟩
   have:=f a z
   rw[g]at this;exact this
  ·grind
 ·exact h.elim
theorem Rps.ints:∀{b:Yi}{vs:List V},Rps K H (b.map D.int) vs->vs=b.map V.int
 |[],_,.nil=>rfl
 |j::r,_,.cons h t=>by rw[Rp.int_inv h,Rps.ints t];rfl
theorem Rps.of_ints:∀(b:Yi),Rps K H (b.map D.int) (b.map V.int)
 |[]=>.nil
 |j::r=>.cons (.int j) (Rps.of_ints r)
def DS:List S->(S->Prop)->Prop
 |[s],R=>∃f:Yi,s.d=.lst (f.map D.int)/\f.length<64/\∀b:Yi,b.Perm f->b.Pairwise (·<=·)->R (.own<|b.map D.int)
 |_,_=>False
def Lf{f r}(J:X0 K mg E f r):Xf K mg E (tCB (λxs H Q=>∃p b,xs=[.ref p]/\b.length<64/\(SqL K H p (b.map V.int)\/H p=some (Nk w p b))/\
  ∀l (ns:Yi),H l=none->ns.Perm b->ns.Pairwise (·<=·)->Q (.ref l) (upd H l<|.lst<|ns.map V.int)) f) (pCB DS r):=by
 refine Pt J λH0 H H1 Z T M R Q z y U u h q=>?_;unfold DS at h;split at h
 ·rename_i s;obtain⟨v,rfl,x⟩:=u.one_inv;obtain⟨b,e,C,k⟩:=h;have g:=x.rp z;rw[e]at g;obtain⟨a,N,rfl,o,A⟩:=g.lst_inv;rw[A.ints]at o;exact⟨a,b,rfl,C,.inl (SqL.of o),λl ns n L G=>q _ _ _ (k ns L G) (XJ n) (Nh y n<|Rps.of_ints ns)⟩
 ·grind
def Zls:List S->(S->Prop)->Prop
 |[s,t],R=>(match s.d,t.d with | .int i,.int j=>R (.sh<|.int (if j>i then j else i))|_,_=>False)
 |_,_=>False
def Zlo:List S->(S->Prop)->Prop
 |[s],R=>(match s.d with | .int i=>R (.sh<|.int (if i<0 then -i else i))|_=>False)
 |_,_=>False
noncomputable def tyD:D->Option String
 | .int _=>some "int" | .bl _=>some "bool" | .non=>some "NoneType" | .str _=>some "str" | .tup _=>some "tuple" | .lst _=>some "list" | .fL _=>some "list" | .dK _=>some "dict" | .dT _=>some "dict" |_=>none
inductive Kr:String->String->Bool->Prop
 |same (n:String):Kr n n true
 |ib:Kr "int" "bool" false
 |bi:Kr "bool" "int" true
 |tl:Kr "tuple" "list" false
 |lt:Kr "list" "tuple" false
 |it:Kr "int" "tuple" false
 |il:Kr "int" "list" false
 |bt:Kr "bool" "tuple" false
 |bL:Kr "bool" "list" false
 |ti:Kr "tuple" "int" false
 |li:Kr "list" "int" false
 |si:Kr "str" "int" false
 |is:Kr "int" "str" false
 |ni:Kr "NoneType" "int" false
 |nl:Kr "NoneType" "list" false
 |nt:Kr "NoneType" "tuple" false
def Kr.kit (h:Kr m n b):PySem.W.kitOne K (.type m) (.type n)=some b:=by
 cases h with
 |same=>exact MX K _
 |_=>rfl
def Ly:List S->(S->Prop)->Prop
 |[s,t],R=>(match tyD s.d,t.d with|some m,.ty n=>∃b,Kr m n b/\R (.sh<|.bl b)|_,_=>False)
 |_,_=>False
def RC(h:Rp K H d v)(e:tyD d=some m):K7 K H v (.type m):=by
 cases h with
 |int i=>cases e;exact .int i
 |bl b=>cases e;exact .bl b
 |non=>cases e;exact .non
 |str x=>cases e;exact .str x
 |tup h r=>cases e;exact .tup h
 |lst h r=>cases e;exact .lst h
 |dK h=>cases e;exact .dK h
 |dT h=>cases e;exact .dT h
 |fL h=>cases e;exact .frz h
 |_=>cases e
def Tj(w:X0 K mg E o r):Xf K mg E (tCB (λxs H Q=>∃x n t b,xs=[x,.ty n]/\K7 K H x t/\PySem.W.kitOne K t (.type n)=some b/\Q (.bl b) H) o) (pCB Ly r):=by
 refine Pt w λH0 H H1 Z G C R Q f J L l h q=>?_;unfold Ly at h;split at h
 ·obtain⟨v,u,rfl,s,p⟩:=l.two_inv;have g:=p.rp f;split at h
  ·rename_i m n A z;rw[z]at g;rw[g.ty_inv];obtain⟨b,k,y⟩:=h;exact⟨v,n,_,b,rfl,RC (s.rp f) A,k.kit,q _ _ H1 y (Same.refl _) (.bl _)⟩
  ·grind
 ·grind
noncomputable def prD(p:Int×Int):D:=.tup [.int p.1,.int p.2]
inductive InR:D->D->Bool->Prop
 |li (i:Int) (hs:Yi):InR (.int i) (.lst<|hs.map D.int) (decide (i∈hs))
 |ti (i:Int) (hs:Yi):InR (.int i) (.tup<|hs.map D.int) (decide (i∈hs))
 |lp (q:Int×Int) (ps:Yh):InR (prD q) (.lst<|ps.map prD) (decide (q∈ps))
def fIn(neg:Bool):S->S->(S->Prop)->Prop:=λx y R=>∃b,InR x.d y.d b/\R (.sh<|.bl (if neg then !b else b))
def Rp.pair (h:Rp K H (prD q) v):KP H v q:=by
 obtain⟨a,l,rfl,b,r⟩:=Rp.tup_inv h;obtain⟨x,y,rfl,g,f⟩:=r.two_inv;rw[g.int_inv,f.int_inv]at b;exact⟨a,rfl,b⟩
def Rps.lv {vs} (h:Rps K H (ps.map prD) vs):LV KP H vs ps:=by
 refine⟨by rw[h.len,Wx],λi p b=>?_⟩;obtain⟨v,g,f⟩:=h.get (by rw[WB,b];rfl);exact⟨v,g,f.pair⟩
def A8{C A a b}(U:Xf K mg E C a)(T:Xf K mg E A b):Xf K mg E (tOp (λx y H Q=>rIn K neg x y H Q\/Si neg x y H Q) C A) (p2 a b<|fIn neg):=by
 refine KL U T λH0 H z Z x y v u R Q G Y hm L J h q=>?_;obtain⟨k,s,w⟩:=h;have n:=L.rp G;have g:=J.rp G;generalize ex:x.d=dx at s n;generalize ey:y.d=dy at s g;cases s with
 |li i N=>
  obtain⟨l,o,rfl,f,r⟩:=g.lst_inv;rw[r.ints]at f;rw[n.int_inv];refine .inl ⟨l,_,rfl,.inl (SqL.of f),rfl,Tw _,?_⟩;rw[HX];exact q _ _ z w (Same.refl _) (.bl _)
 |ti i N=>
  obtain⟨l,o,rfl,f,r⟩:=g.tup_inv;rw[r.ints]at f;rw[n.int_inv];refine .inl ⟨l,_,rfl,.inr (SqT.of f),rfl,Tw _,?_⟩;rw[HX];exact q _ _ z w (Same.refl _) (.bl _)
 |lp p M=>
  obtain⟨l,o,rfl,f,r⟩:=g.lst_inv;exact .inr ⟨l,M,p,rfl,n.pair,⟨o,f,r.lv⟩,q _ _ z w (Same.refl _) (.bl _)⟩
def N6(neg:Bool):S->S->(S->Prop)->Prop:=λx y R=>match x.d,y.d with
 | .lst g,.lst f=>∃xs b:Yi,g=xs.map D.int/\f=b.map D.int/\R (.sh<|.bl (if neg then !decide (xs=b)else decide (xs=b)))
 |_,_=>fEq neg x y R
def Bl{a b}(T:Xf K mg E L a)(N:Xf K mg E J b):Xf K mg E (tOp (λx y H Q=>rEq x y H Q\/Pp K false x y H Q) L J) (p2 a b<|N6 false):=by
 refine KL T N λH0 H p Z x y v u R Q w s1 s G C h q=>?_;have g:=G.rp w;have f:=C.rp w;unfold N6 at h;split at h
 ·rename_i ds es o n;obtain⟨xs,Y,rfl,rfl,U⟩:=h;rw[o]at g;rw[n]at f;obtain⟨l,us,rfl,A,r⟩:=g.lst_inv;obtain⟨m,ws,rfl,s,M⟩:=f.lst_inv;rw[r.ints]at A;rw[M.ints]at s;refine .inr ⟨l,m,_,_,rfl,rfl,SqL.of A,SqL.of s,Tw _,Tw _,?_⟩;rw[FE];exact q _ _ p U (Same.refl _) (.bl _)
 ·refine .inl ?_;unfold fEq at h;split at h
  ·rename_i i j o n;rw[o]at g;rw[n]at f;rw[g.int_inv,f.int_inv];refine⟨rfl,?_⟩;rw[Nv λ_ _ z=>V.int.inj z];exact q _ _ p h (Same.refl _) (.bl _)
  ·rename_i i j o n;rw[o]at g;rw[n]at f;rw[g.str_inv,f.str_inv];refine⟨rfl,?_⟩;rw[Nv λ_ _ z=>V.str.inj z];exact q _ _ p h (Same.refl _) (.bl _)
  ·rename_i i j o n;rw[o]at g;rw[n]at f;rw[g.bl_inv,f.bl_inv];refine⟨rfl,?_⟩;rw[Nv λ_ _ z=>V.bl.inj z];exact q _ _ p h (Same.refl _) (.bl _)
  ·exact h.elim
def Bp{a b}(T:Xf K mg E L a)(N:Xf K mg E J b):Xf K mg E (tOp (λx y H Q=>rNe x y H Q\/Pp K true x y H Q) L J) (p2 a b<|N6 true):=by
 refine KL T N λH0 H p Z x y v u R Q w s1 s G C h q=>?_;have g:=G.rp w;have f:=C.rp w;unfold N6 at h;split at h
 ·rename_i ds es o n;obtain⟨xs,Y,rfl,rfl,U⟩:=h;rw[o]at g;rw[n]at f;obtain⟨l,us,rfl,A,r⟩:=g.lst_inv;obtain⟨m,ws,rfl,s,M⟩:=f.lst_inv;rw[r.ints]at A;rw[M.ints]at s;refine .inr ⟨l,m,_,_,rfl,rfl,SqL.of A,SqL.of s,Tw _,Tw _,?_⟩;rw[FE];exact q _ _ p U (Same.refl _) (.bl _)
 ·refine .inl ?_;unfold fEq at h;split at h
  ·rename_i i j o n;rw[o]at g;rw[n]at f;rw[g.int_inv,f.int_inv];refine⟨rfl,?_⟩;rw[Nv λ_ _ z=>V.int.inj z];exact q _ _ p h (Same.refl _) (.bl _)
  ·rename_i i j o n;rw[o]at g;rw[n]at f;rw[g.str_inv,f.str_inv];refine⟨rfl,?_⟩;rw[Nv λ_ _ z=>V.str.inj z];exact q _ _ p h (Same.refl _) (.bl _)
  ·rename_i i j o n;rw[o]at g;rw[n]at f;rw[g.bl_inv,f.bl_inv];refine⟨rfl,?_⟩;rw[Nv λ_ _ z=>V.bl.inj z];exact q _ _ p h (Same.refl _) (.bl _)
  ·exact h.elim
noncomputable abbrev Fw(K:Yg)(b:TE):TT:=λσ H Q=>b σ H λx H'=>∃k,Di K x H' k/\Q k H'
noncomputable def Lk(a:PTE):PTT:=λγ R X=>a γ (λx=>match x.d with
 | .bl b=>R b | .lst f=>R (!f.isEmpty) | .tup f=>R (!f.isEmpty) | .int i=>R (i != 0) | .non=>R false|_=>False) X
def Ga{f b:Type}{l:List f}{m:List b}(h:l.length=m.length):l.isEmpty=m.isEmpty:=by
 cases l<;>cases m<;>simp at h ⊢
def F6(y:Xf K mg E te a):Ki K mg E (Fw K te) (Lk a):=by
 intro H0 B H σ γ R X Q o p q w;refine y H0 B H σ γ _ X _ o p (λx v H1 g h u=>?_) w;have f:=u.rp (o.grow h).same;split at g
 ·rename_i b e;rw[e]at f;rw[f.bl_inv];exact⟨b,rfl,q _ H1 g h⟩
 ·rename_i z e;rw[e]at f;obtain⟨l,n,rfl,s,r⟩:=f.lst_inv;exact⟨!n.isEmpty,.inl ⟨n,SqL.of s,rfl⟩,by rw[Ga r.len];exact q _ H1 g h⟩
 ·rename_i z e;rw[e]at f;obtain⟨l,n,rfl,s,r⟩:=f.tup_inv;exact⟨!n.isEmpty,.inr (.inl ⟨n,SqT.of s,rfl⟩),by rw[Ga r.len];exact q _ H1 g h⟩
 ·rename_i i e;rw[e]at f;rw[f.int_inv];exact⟨_,rfl,q _ H1 g h⟩
 ·rename_i e;rw[e]at f;rw[f.non_inv];exact⟨_,rfl,q _ H1 g h⟩
 ·exact g.elim
noncomputable def cutD{b:Type}(xs:List b)(lo f:Option Int):List b:=(xs.drop<|HT.sIx xs.length 0 lo).take (HT.sIx xs.length xs.length f-HT.sIx xs.length 0 lo)
noncomputable def GL:PTO:=λ_ R _=>R none
noncomputable def LY(a:PTE):PTO:=λγ R X=>a γ (λs=>match s.d with | .int i=>R (some i)|_=>False) X
def Ls:Sl K mg E Iv GL:=λ_ _ H _ _ _ _ _ _ p q _=>q _ H p (Same.refl _)
def I0(o:Xf K mg E te a):Sl K mg E (M5 te) (LY a):=by
 intro H0 B H σ γ R X Q b p q n;refine o H0 B H σ γ _ X _ b p (λx v H1 g h l=>?_) n;have f:=l.rp (b.grow h).same;split at g
 ·rename_i i e;rw[e]at f;exact⟨i,f.int_inv,q _ H1 g h⟩
 ·grind
noncomputable def pSl(a:PTE)(l u:PTO):PTE:=λγ R X=>a γ (λs=>l γ (λlo=>u γ (λf=>match s.d with | .lst b=>s.free b=true/\R (.own<|cutD b lo f)|_=>False) X) X) X
def Rps.cut {lo b} (r:Rps K H ds vs):Rps K H (cutD ds lo b) (SZ vs lo b):=by
 unfold cutD SZ;rw[r.len];exact Rps.take _ (Rps.drop _ r)
def Hn{a l u}(U:Xf K mg E te a)(N:Sl K mg E G l)(M:Sl K mg E J u):Xf K mg E (tSl (F1 K) te G J) (pSl a l u):=by
 intro H0 B H σ γ R X Q f p q o;refine U H0 B H σ γ _ X _ f p (λx v H1 h1 h L=>?_) o;refine N H0 B H1 σ γ _ X _ (f.grow h) h1 (λlo H2 Y n=>?_) λc H' s y=>o c H' s (h.trans y);refine M H0 B H2 σ γ _ X _ ((f.grow h).grow n) Y (λhi H3 w A=>?_) λc H' s y=>o c H' s ((h.trans n).trans y);have g:=(h.trans n).trans A;split at w
 ·rename_i ds e;obtain⟨b,C,rfl,T,r⟩:=((L.grow<|n.trans A).items (f.grow g).same f.zm g w.1).1 e;exact⟨b,C,rfl,SqL.of T,λm z=>q _ _ _ w.2 (g.trans<|XJ z) (Nh g z r.cut)⟩
 ·grind
def HE:S->S->(S->Prop)->Prop:=λx y R=>match x.d,y.d with
 | .lst f,.lst b=>x.free f=true/\y.free b=true/\f.length+b.length<=100000/\R (.own (f++b))
 |_,_=>False
def Pz{a b}(U:Xf K mg E L a)(T:Xf K mg E J b):Xf K mg E (tOp Mm L J) (p2 a b HE):=by
 refine KL U T λH0 H H2 Z x y v u R Q s f A G C h q=>?_;unfold HE at h;split at h
 ·rename_i ds es e1 Y;obtain⟨l,o,rfl,N,r⟩:=(G.items s A f h.1).1 e1;obtain⟨m,n,rfl,g,w⟩:=(C.items s A f h.2.1).1 Y;have M:o.length+n.length<=sizeLine:=by rw[r.len,w.len];exact WC h.2.2.1 (by decide)
  exact⟨l,m,o,n,rfl,rfl,N,g,M,λp z=>q _ _ _ h.2.2.2 (XJ z) (Nh f z<|r.append w)⟩
 ·grind
noncomputable def CD(i:Nat)(a:PTE):PTS:=λR γ=>match γ[i]? with
 |some (some<|.own<|.lst b)=>a γ (λs=>match s.shd with
  |some d=>b.length<10000000/\R.nx (γ.set i<|some<|.own (b++[d]))
  |none=>False) (R.ex γ)
 |some (some<|.own<|.lsA x b)=>a γ (λs=>match s.shd with
  |some d=>b.length<10000000/\R.nx (γ.set i<|some<|.own<|.lsA x (b++[d]))
  |none=>False) (R.ex γ)
 |_=>False
def Zfd(i:Nat){te a}(T:Xf K mg E te a):Xr K mg E (BG<|tBM K "list" AL (Kw i)<|XH te Kt) (CD i a):=by
 intro H0 B H σ γ R D U f h e;unfold CD at h;split at h
 ·rename_i N w;obtain⟨v,r,b,rfl,J,us,y,p⟩:=f.slot i _ w;refine⟨_,r,.inl ⟨rfl,us,SqL.of y⟩,T H0 B H σ γ _ _ _ f h (λs u H1 n l C=>?_) λc H' G A=>e.ex σ γ c H' G (f.grow A) (Fr.grow A)⟩;have g:=f.grow l;split at n
  ·rename_i d o;refine⟨b,us,u,rfl,rfl,l _ _ y,by rw[p.len];exact Vj n.1 (by decide),?_⟩;obtain⟨o,M⟩:=g.mutate (es:=.lst (N++[d])) (us:=.lst (us++[u])) w r trivial λF H' Q L=>⟨_,L,Rps.mono Q (Rps.append (Rps.mono (Xy l λ_ _ _ z=>z) p)<|.cons (C.shd g.same f.zm l o) .nil)⟩;exact e.nx _ _ _ n.2 o ((Fr.grow l).trans M)
  ·exact n.elim
 ·rename_i x N w;obtain⟨v,r,b,rfl,J,rfl,us,y,p⟩:=f.slot i _ w;refine⟨_,r,.inl ⟨rfl,us,SqL.of y⟩,T H0 B H σ γ _ _ _ f h (λs u H1 n l C=>?_) λc H' G A=>e.ex σ γ c H' G (f.grow A) (Fr.grow A)⟩;have g:=f.grow l;split at n
  ·rename_i d o;refine⟨b,us,u,rfl,rfl,l _ _ y,by rw[p.len];exact Vj n.1 (by decide),?_⟩;obtain⟨o,M⟩:=g.mutate (es:=.lsA b (N++[d])) (us:=.lst (us++[u])) w r trivial λF H' Q L=>⟨rfl,_,L,Rps.mono Q (Rps.append (Rps.mono (Xy l λ_ _ _ z=>z) p)<|.cons (C.shd g.same f.zm l o) .nil)⟩;exact e.nx _ _ _ n.2 o ((Fr.grow l).trans M)
  ·exact n.elim
 ·exact h.elim
end
section
variable {X:Cx}{K:Yg}
def HK(b:X.A.in1.units<cLine)(f:autoParam (X.K=K) au_0):OpR X (compareOp .In) (λx y H Q=>rIn K false x y H Q\/Si false x y H Q):=(OS f).or (Zgy b)
def Zlb(b:X.A.in1.units<cLine)(f:autoParam (X.K=K) au_0):OpR X (compareOp .NotIn) (λx y H Q=>rIn K true x y H Q\/Si true x y H Q):=(Ro f).or (Rq b)
def Fz(b:X.A.units<cLine)(f:autoParam (X.K=K) au_0):OpR X (compareOp .Eq) (λx y H Q=>rEq x y H Q\/Pp K false x y H Q):=by subst f;exact op_eq.or (Lv b)
def Zft(b:X.A.units<cLine)(f:autoParam (X.K=K) au_0):OpR X (compareOp .NotEq) (λx y H Q=>rNe x y H Q\/Pp K true x y H Q):=by subst f;exact op_ne.or (R4 b)
def Nd(f:PE X e te)(g:autoParam (X.K=K) au_0)(b:autoParam (∀whole,isTrue e X.env whole=(do let v ←whole;standAt e.pos;holding [v] (truthy v))) au_3):PT X e (Fw K te):=by
 subst g;exact Zg1 f b
def TQ(f:autoParam (X.K=K) au_0):Kg X (.type "list") (λxs H Q=>∃p b,xs=[.ref p]/\(SqL K H p b\/SqT K H p b)/\∀l,H l=none->Q (.ref l) (upd H l<|.lst b)):=by subst f;exact G6
def Zjf(f:autoParam (X.K=K) au_0):Kg X (.type "tuple") (λxs H Q=>∃p b,xs=[.ref p]/\((SqL K H p b/\∀l,H l=none->Q (.ref l) (upd H l<|.tup b))\/(SqT K H p b/\Q (.ref p) H))):=by subst f;exact Zk5
def Tg(f:autoParam (X.K=K) au_0):Kg X (.builtin "isinstance") (λxs H Q=>∃x n t b,xs=[x,.ty n]/\K7 K H x t/\PySem.W.kitOne K t (.type n)=some b/\Q (.bl b) H):=by subst f;exact R7
def Mc(b:autoParam (X.K=K) au_0):SlR X (F1 K):=by subst b;exact Zi0
def Io(f:X.calm=true){w}(g:autoParam (X.K=K) au_0)(hw:autoParam (X.w=w) au_0):Kg X (.builtin "sorted") (λxs H Q=>∃p b,xs=[.ref p]/\b.length<64/\(SqL K H p (b.map V.int)\/H p=some (Nk w p b))/\
  ∀l (ns:Yi),H l=none->ns.Perm b->ns.Pairwise (·<=·)->Q (.ref l) (upd H l<|.lst<|ns.map V.int)):=by subst g;subst hw;exact Ho f
def TY{f l b}(g:PE X l b)(h:autoParam (X.K=K) au_0):PI X f l (Fy K b):=by subst h;exact Ee g
end
section
variable {P:Program}{w:World}{K:Yg}{mg:Yk}{base:Heap}{H H':Hp}
def MF(C:Callee P w K mg base CX k x ps sp)(h:∀ds R X vs H Q E,Rps K H ds vs->c ds R X->(∀s v H',R s->Same H H'->TV K (λb=>Mut (H b)) H H H' s v->Q v H')->(∀e H',X e->Same H H'->XE mg E e H')->sp vs H Q E) :
  Callee P w K mg base CX k x ps (Xp mg c K):=by
 obtain⟨f,o,F,rest⟩:=C.ex;exact⟨f,o,F.imp λvs H Q E ⟨ds,R,X,r,g,n,l⟩=>h ds R X vs H Q E r g n l,rest⟩
def Rp.ints_inv {ns:Yi}{v} (h:Rp K H (.lst<|ns.map D.int) v):∃a,v=.ref a/\H a=some (.lst<|ns.map V.int):=by
 obtain⟨a,f,rfl,b,r⟩:=h.lst_inv;rw[r.ints]at b
 grind
def Rp.pairs_inv {v} (h:Rp K H (.lst<|ps.map prD) v):∃a,v=.ref a/\LAt KP H a ps:=by
 obtain⟨a,b,rfl,f,r⟩:=h.lst_inv;exact⟨a,rfl,b,f,r.lv⟩
def Zhg{ns:Yi}(n:H a=none)(h:H' a=some (.lst<|ns.map V.int)):TV K (λb=>Mut (H b)) H H H' (.own<|ns.map D.int) (.ref a):=⟨a,rfl,(λ_ e=>e▸n),_,h,Rps.of_ints ns⟩
theorem Bo:∀(ns:Yi),Kq (ns.map D.int)=true
 |[]=>rfl
 |n::r=>by rw[WN];unfold Kq;rw[Bo r];unfold imm;rfl
def Ze9(p:Int×Int):imm (prD p)=true:=rfl
theorem KN:∀(ps:Yh),Kq (ps.map prD)=true
 |[]=>rfl
 |p::r=>by rw[WN];unfold Kq;rw[KN r,Ze9];rfl
def Zlq{b:Type}{f:b->D}{xs:List b}{i}(h:i<xs.length):(xs.map f).getD i .non=f xs[i]:=by grind
def BY{b:Type}{f:b->D}{xs:List b}{i}(g:0<=i)(h:i<(xs.length:Int)):atI (xs.map f) i=some (f (xs[i.toNat]'(by lia))):=by
 have l:i.toNat<xs.length:=by lia
 exact PM (SN g<|Wy l)
def GT{b:Type}{f:b->D}{xs:List b}{i}(h:i<xs.length):atI (xs.map f) (i:Int)=some (f xs[i]):=PM (CC<|Wy h)
def KZ{l:Type}{φ}{γ}{g}{c}{e}{s:S}{R}{xs:List l}{emb}(f:l->Option D)(n:xs.length<=100000)(turn:∀x∈xs,g (s.sub<|emb x) (atP φ γ) λh=>c h (λb=>if b=true then e h (λs=>∃d,s.shd=some d/\f x=some d) (λ_=>False)else f x=none) λ_=>False)(done:R (.own<|xs.filterMap f)) :
  SA φ γ g c e (xs.map emb).length (λi=>s.sub ((xs.map emb).getD i .non)) R:=by
 rw[Wx];refine⟨⟨n,λi=>(xs[i]?).bind f,λi o=>?_,by rw[Zb1];exact done⟩⟩;simp_all
def Zfk{g c e item R n}(f:Nat->Option D)(o:n<=100000)(turn:∀i,i<n->g (item i) (atP φ l) λh=>c h (λb=>if b=true then e h (λs=>∃d,s.shd=some d/\f i=some d) (λ_=>False)else f i=none) λ_=>False)(done:R (.own ((List.range n).filterMap f))) :
  SA φ l g c e n item R:=⟨⟨o,f,turn,done⟩⟩
def Pn{n:Type}{js}{γ}{g}{body}{s:S}{R}{xs:List n}{emb}(inv:Nat->Γ->Prop)(p:inv 0 (clr js γ))(turn:∀i o b,inv i b->g (s.sub (emb xs[i])) b λl=>body {R with nx:=λf=>inv (i+1) (clr js f),ct:=λf=>inv (i+1) (clr js f),bk:=R.nx} l)(done:∀b,inv xs.length b->R.nx b) :
  BA js γ g body R (xs.map emb).length (λi=>s.sub ((xs.map emb).getD i .non)):=by
 refine⟨⟨inv,p,λi b o h=>?_,λb h=>?_⟩⟩
 ·grind
 ·grind
def N2{n item}(inv:Nat->Γ->Prop)(p:inv 0 (clr l o))(turn:∀i b,i<n->inv i b->g (item i) b λh=>body {R with nx:=λf=>inv (i+1) (clr l f),ct:=λf=>inv (i+1) (clr l f),bk:=R.nx} h)(done:∀b,inv n b->R.nx b):BA l o g body R n item:=⟨⟨inv,p,turn,done⟩⟩
def Zj5(inv:Γ->Prop)(h:Γ->Nat)(o:inv (clr l n))(turn:∀f,inv f->c f (λb=>if b=true then body {R with nx:=λg=>inv (clr l g)/\h (clr l g)<h f,ct:=λg=>inv (clr l g)/\h (clr l g)<h f,bk:=R.nx} f else R.nx f) (R.ex f)):Hj l n c body R:=⟨⟨inv,h,o,turn⟩⟩
def HU(J:Γ->Prop)(h:p {R with nx:=J} f)(g:∀b,J b->q R b):Ez p q R f:=⟨⟨J,h,g⟩⟩
theorem TZ{b:Type}(c:b->Bool)(emb:b->D):∀f:List b,f.filterMap (λq=>if c q=true then some (emb q)else none)=(f.filter c).map emb
 |[]=>rfl
 |q::r=>by
  by_cases h:c q=true
  ·rw[List.filterMap_cons_some (by rw[W6 h]),List.filter_cons_of_pos h,WN,TZ c emb r]
  ·rw[List.filterMap_cons_none (by grind),List.filter_cons_of_neg h,TZ c emb r]
def BR{b:Type}(emb:b->D)(f:List b):f.filterMap (λq=>some (emb q))=f.map emb:=by simp
def T4(f:g->D)(xs:List g)(lo b:Option Int):cutD (xs.map f) lo b=(cutD xs lo b).map f:=by
 unfold cutD;simp
def BJ(xs:List b){n}(h:0<=n):cutD xs none (some n)=xs.take n.toNat:=by
 unfold cutD;have e:n=(n.toNat:Int):=by lia
 rw[HT.G3,e,HT.DK,List.drop_zero,Nat.sub_zero,Ql];by_cases c:n.toNat<=xs.length
 ·simp
 ·simp
def Ba(xs:List b){n}(h:0<=n):cutD xs (some n) none=xs.drop n.toNat:=by
 unfold cutD;have e:n=(n.toNat:Int):=by lia
 rw[HT.G3,e,HT.DK,Ql];by_cases c:n.toNat<=xs.length
 ·grind
 ·rw[Nat.min_eq_right (by lia),List.drop_of_length_le (W5 _),List.drop_of_length_le (by lia)];simp
noncomputable def AI(K:Yg):Sp:=λb H Q _=>∃(a:Addr) (f:Yi),b=[.ref a]/\SqL K H a (f.map V.int)/\∀H',Q (.bl true) H'
noncomputable def Lb:Pc:=λf R _=>∃b:Yi,f=[.scr b]/\R (.sh<|.bl true)
def Zlj(h:AI K vs H Q l):Xp mg Lb K vs H Q l:=by
 obtain⟨a,b,rfl,g,q⟩:=h;refine⟨[.scr b],λs=>s=.sh (.bl true),λ_=>False,.cons (.scr g) .nil,⟨b,rfl,rfl⟩,λs v H' e n f=>?_,λ_ _ z=>z.elim⟩;subst e;cases f
 grind
end
section
variable {K:Yg}{mg:Yk}{E:L2.St->XK}{H0 H H1 H':Hp}{B Z Z':Addr->Prop}{σ:L2.St}{γ:Γ}
noncomputable def SL:D->Option V
 | .int i=>some (.int i) | .bl b=>some (.bl b) | .non=>some .non | .str x=>some (.str x)|_=>none
noncomputable def vD:V->D
 | .int i=>.int i | .bl b=>.bl b | .str x=>.str x|_=>.non
noncomputable def Ff:V->Bool
 | .int _=>true | .bl _=>true | .str _=>true | .non=>true|_=>false
def AW(h:Ff v=true):Rp K H (vD v) v:=by
 cases v with
 |int i=>exact .int i
 |bl b=>exact .bl b
 |str x=>exact .str x
 |non=>exact .non
 |_=>cases h
def Fj(h:Rp K H d v)(e:SL d=some u):v=u:=by
 cases h with
 |int i|bl b|non|str x=>cases e;rfl
 |_=>cases e
noncomputable def SY:D->Option Key
 | .int i=>some (.inl i) | .str x=>some (.inr x)|_=>none
noncomputable def Sa:List D->Option (List Key)
 |[]=>some []
 |d::r=>match SY d,Sa r with
  |some k,some b=>some (k::b)
  |_,_=>none
noncomputable def NX:D->Option (List Key)
 | .tup b=>Sa b
 |_=>none
def Bu(h:Rp K H d v)(e:SY d=some k):v=kV k:=by
 cases h with
 |int i|str x=>cases e;rfl
 |_=>cases e
def Zke:∀{ds vs}{b:List Key},Rps K H ds vs->Sa ds=some b->vs=b.map kV:=by
 intro ds
 induction ds with
 |nil=>
  intro _ _ h e;cases h
  cases e
  rfl
 |cons _ _ f=>
  intro _ b h e;cases h with
  |cons h r=>
   unfold Sa at e;split at e
   ·rename_i k n l g;cases e
    rw[Bu h l,f r g];rfl
   ·grind
def Fi(h:Rp K H d v)(e:NX d=some f):∃b,v=.ref b/\H b=some (.tup<|f.map kV):=by
 cases h with
 |tup h r=>
  rw[Zke r e]at h
  grind
 |_=>cases e
def Rp.dK_inv (h:Rp K H (.dK b) v):∃a,v=.ref a/\H a=some (.dK b):=by
 cases h with
 |dK h=>grind
def Rp.dT_inv (h:Rp K H (.dT b) v):∃a,v=.ref a/\H a=some (.dT b):=by
 cases h with
 |dT h=>grind
noncomputable def Zf6:PTE:=λ_ R _=>R (.own<|.dK [])
noncomputable def Zh8:PTE:=λ_ R _=>R (.own<|.dT [])
def Zk8:Xf K mg E Hh Zf6:=by
 intro H0 B H σ γ R X Q f p q _ l b;exact q _ _ _ p (XJ b) ⟨l,rfl,(λ_ e=>e▸b),Xw⟩
def Zcm:Xf K mg E DT Zh8:=by
 intro H0 B H σ γ R X Q f p q _ l b;exact q _ _ _ p (XJ b) ⟨l,rfl,(λ_ e=>e▸b),Xw⟩
def GF:S->S->(S->Prop)->Prop:=λx y R=>match x.d with
 | .dK b=>∃k v,SY y.d=some k/\Xu b k=some v/\Ff v=true/\R (.sh<|vD v)
 | .dT b=>∃k v,NX y.d=some k/\Xu b k=some v/\Ff v=true/\R (.sh<|vD v)
 |_=>False
def DN{a b}(N:Xf K mg E M a)(p:Xf K mg E g b):Xf K mg E (Iu M g) (p2 a b GF):=by
 refine KL N p λH0 H J Z x y v u R Q C T U L g h q=>?_;have f:=L.rp C;have G:=g.rp C;unfold GF at h;split at h
 ·rename_i n e;rw[e]at f;obtain⟨l,rfl,o⟩:=f.dK_inv;obtain⟨k,w,A,z,s,r⟩:=h;refine⟨l,w,rfl,?_,q _ _ J r (Same.refl _) (AW s)⟩;rw[Bu G A,←z];exact DGet.k o
 ·rename_i n e;rw[e]at f;obtain⟨l,rfl,o⟩:=f.dT_inv;obtain⟨k,w,A,z,s,r⟩:=h;obtain⟨b,rfl,p⟩:=Fi G A;refine⟨l,w,rfl,?_,q _ _ J r (Same.refl _) (AW s)⟩;rw[←z];exact DGet.t o p
 ·grind
def EV(neg:Bool):S->S->(S->Prop)->Prop:=λy x R=>match x.d with
 | .dK b=>∃k,SY y.d=some k/\R (.sh<|.bl (if neg then !(Xu b k).isSome else(Xu b k).isSome))
 | .dT b=>∃k,NX y.d=some k/\R (.sh<|.bl (if neg then !(Xu b k).isSome else(Xu b k).isSome))
 |_=>False
def Oi{w f a b}(J:Xf K mg E f a)(p:Xf K mg E w b):Xf K mg E (Lz f w) (p2 a b<|EV true):=by
 refine KL J p λH0 H C Z y x u v R Q z L M f G h q=>?_;have g:=G.rp z;have A:=f.rp z;unfold EV at h;split at h
 ·rename_i n e;rw[e]at g;obtain⟨l,rfl,o⟩:=g.dK_inv;obtain⟨k,s,r⟩:=h;refine⟨l,_,rfl,?_,q _ _ C r (Same.refl _) (.bl _)⟩;rw[Bu A s];exact DGet.k o
 ·rename_i n e;rw[e]at g;obtain⟨l,rfl,o⟩:=g.dT_inv;obtain⟨k,s,r⟩:=h;obtain⟨b,rfl,p⟩:=Fi A s;exact⟨l,_,rfl,DGet.t o p,q _ _ C r (Same.refl _) (.bl _)⟩
 ·grind
noncomputable def DW(i:Nat)(b a:PTE):PTS:=λR γ=>match γ[i]? with
 |some (some<|.own<|.dK f)=>a γ (λs=>b γ (λy=>∃k u,SY y.d=some k/\SL s.d=some u/\f.length<100000/\R.nx (γ.set i<|some<|.own<|.dK<|putK f k u)) (R.ex γ)) (R.ex γ)
 |some (some<|.own<|.dT f)=>a γ (λs=>b γ (λy=>∃k u,NX y.d=some k/\SL s.d=some u/\f.length<100000/\R.nx (γ.set i<|some<|.own<|.dT<|putK f k u)) (R.ex γ)) (R.ex γ)
 |_=>False
def DC(i:Nat){ty tv a b}(hb:Xf K mg E ty b)(ha:Xf K mg E tv a):Xr K mg E (Hr (Kw i) ty tv) (DW i b a):=by
 intro H0 B H σ γ R D hB n h e;have hx:=λc H' G x=>e.ex σ γ c H' G (n.grow x) (Fr.grow x);unfold DW at h;split at h
 ·rename_i o C;obtain⟨v,A,l,rfl,Y,U⟩:=n.slot i _ C;refine ha H0 B H σ γ _ _ _ n h (λs u H1 h1 p L=>⟨_,A,?_⟩) hx;have f:=n.grow p;refine hb H0 B H1 σ γ _ _ _ f h1 (λy w H2 h2 r J=>?_) λc H' G x=>hx c H' G (p.trans x);obtain⟨k,z,T,Q,N,M⟩:=h2;have g:=f.grow r;have eu:=Fj (L.rp f.same) Q;have ew:=Bu (J.rp g.same) T;subst eu ew;refine⟨l,_,rfl,DPut.k (r _ _<|p _ _ U) (Vj N<|by decide),?_⟩;obtain⟨e2,f2⟩:=g.mutate (es:=.dK (putK o k u)) (us:=.dK (putK o k u)) C A trivial λF H' SF hF=>hF;exact e.nx _ _ _ M e2 ((Fr.grow<|p.trans r).trans f2)
 ·rename_i o C;obtain⟨v,A,l,rfl,Y,U⟩:=n.slot i _ C;refine ha H0 B H σ γ _ _ _ n h (λs u H1 h1 p L=>⟨_,A,?_⟩) hx;have f:=n.grow p;refine hb H0 B H1 σ γ _ _ _ f h1 (λy w H2 h2 r J=>?_) λc H' G x=>hx c H' G (p.trans x);obtain⟨k,z,T,Q,N,M⟩:=h2;have g:=f.grow r;have eu:=Fj (L.rp f.same) Q;obtain⟨b',rfl,hb'⟩:=Fi (J.rp g.same) T;subst eu;refine⟨l,_,rfl,DPut.t (r _ _<|p _ _ U) hb' (Vj N<|by decide),?_⟩;obtain⟨e2,f2⟩:=g.mutate (es:=.dT (putK o k u)) (us:=.dT (putK o k u)) C A trivial λF H' SF hF=>hF;exact e.nx _ _ _ M e2 ((Fr.grow<|p.trans r).trans f2)
 ·exact h.elim
noncomputable def Hw(a:PTE):PTS:=λR γ=>a γ (λs=>match s.shd with|some d=>R.rt (.sh d)|none=>False) (R.ex γ)
def MH(u:Xf K mg E te a):Xr K mg E (NZ te) (Hw a):=by
 intro H0 B H σ γ R D w f h e;refine u H0 B H σ γ _ _ _ f h (λs v H1 l g o=>?_) λc H' r n=>e.ex σ γ c H' r (f.grow n) (Fr.grow n);split at l
 ·rename_i d p;exact e.rt (.sh d) v H1 l (f.same.trans g) (Rp.mono (Xy (Same.refl _) λb _ _ z y=>z (.inl y)) (o.shd (f.grow g).same f.zm g p))
 ·grind
noncomputable def Gk(i:Nat)(γ:Γ):Nat:=match γ[i]? with
 |some (some<|.own<|.lst b)=>b.length
 |_=>0
def T1(d:b)(ds:List b):atI (d::ds) 0=some d:=SN (by simp) rfl
noncomputable def em(l:Int)(p:Yi):D:=.lst ((l::p).map D.int)
def FS(l:Int)(p:Yi):atI ((l::p).map D.int) (-1)=some (.int<|Xq l p):=by
 refine PM ?_;unfold atI ixN;rw[W3 (by lia),W6 (by grind)];have e:(-1+((l::p).length:Int)).toNat=p.length:=by grind
 rw[e];exact By l p
def GG:List S->(S->Prop)->Prop
 |[s],R=>∃b:Yi,s.d=.lst (b.map D.int)/\R (.sh<|.int b.sum)
 |_,_=>False
def Oh(o:X0 K mg E g r):Xf K mg E (tCB (λxs H Q=>∃(p:Addr) (ns:Yi),xs=[.ref p]/\SqL K H p (ns.map V.int)/\Q (.int ns.sum) H) g) (pCB GG r):=by
 refine Pt o λH0 H H1 Z x w R Q n y z f h q=>?_;unfold GG at h;split at h
 ·obtain⟨v,rfl,l⟩:=f.one_inv;obtain⟨ns,e,u⟩:=h;have b:=l.rp n;rw[e]at b;obtain⟨a,rfl,s⟩:=b.ints_inv;exact⟨a,ns,rfl,SqL.of s,q _ _ H1 u (Same.refl _) (.int _)⟩
 ·grind
def MD:List S->(S->Prop)->Prop
 |[s],R=>∃b:Yi,s.d=.lst (b.map D.int)/\0<b.length/\∀m,m∈b->(∀a∈b,m<=a)->R (.sh<|.int m)
 |_,_=>False
def Zki(s:X0 K mg E l r):Xf K mg E (tCB (λxs H Q=>∃(p:Addr) (ns:Yi),xs=[.ref p]/\SqL K H p (ns.map V.int)/\0<ns.length/\∀M,M∈ns->(∀a∈ns,M<=a)->Q (.int M) H) l) (pCB MD r):=by
 refine Pt s λH0 H H1 Z A z R Q o C G g h q=>?_;unfold MD at h;split at h
 ·obtain⟨v,rfl,n⟩:=g.one_inv;obtain⟨ns,e,b,w⟩:=h;have f:=n.rp o;rw[e]at f;obtain⟨a,rfl,u⟩:=f.ints_inv;exact⟨a,ns,rfl,SqL.of u,b,λm y x=>q _ _ H1 (w m y x) (Same.refl _) (.int _)⟩
 ·grind
def Ha:List S->(S->Prop)->Prop
 |[s],R=>∃bs:List Bool,s.d=.lst (bs.map D.bl)/\R (.sh<|.bl<|bs.any id)
 |_,_=>False
theorem Rps.bls:∀{b:List Bool}{vs:List V},Rps K H (b.map D.bl) vs->vs=b.map V.bl
 |[],_,.nil=>rfl
 |j::r,_,.cons h t=>by rw[Rp.bl_inv h,Rps.bls t];rfl
def Zg2(u:X0 K mg E l r):Xf K mg E (tCB (λxs H Q=>∃(p:Addr) (bs:List Bool),xs=[.ref p]/\SqL K H p (bs.map V.bl)/\Q (.bl<|bs.any id) H) l) (pCB Ha r):=by
 refine Pt u λH0 H H1 Z z x R Q o A C g h q=>?_;unfold Ha at h;split at h
 ·obtain⟨v,rfl,n⟩:=g.one_inv;obtain⟨bs,e,w⟩:=h;have b:=n.rp o;rw[e]at b;obtain⟨a,y,rfl,f,s⟩:=b.lst_inv;rw[s.bls]at f;exact⟨a,bs,rfl,SqL.of f,q _ _ H1 w (Same.refl _) (.bl _)⟩
 ·grind
def Nz(xs:List f)(lo b:Option Int):(cutD xs lo b).Sublist xs:=(VH _ _).trans (List.drop_sublist _ _)
def Xm.gone (Q:Xm K H0 B H σ γ) (i:Nat):Xm K H0 B H (σ.set i none) (γ.set i none)/\Fr B H σ γ H (σ.set i none) (γ.set i none):=by
 obtain⟨l,f1⟩:=Q.drop i
 have f:∀j s,(γ.set i none)[j]?=some (some s)->j≠i:=λj s h=>by
  rcases XS h with⟨_,e,_⟩|⟨n,_⟩
  ·cases e
  ·exact n
 have G:∀b,zof B (γ.set i none) (σ.set i none) b↔zof B (γ.set i none) σ b:=λb=>by
  constructor
  ·rintro(z|⟨j,p,x,g,r,u⟩)
   ·exact .inl z
   ·rw[Pq (f j _ g)]at r;exact .inr ⟨j,p,x,g,r,u⟩
  ·rintro(z|⟨j,p,x,g,r,u⟩)
   ·exact .inl z
   ·exact .inr ⟨j,p,x,g,by rw[Pq (f j _ g)];exact r,u⟩
 have ez:=funext λb=>propext (G b);refine⟨⟨l.same,by rw[Q2];exact l.len,l.bm,λk j a N p M b y w C A L J=>?_,λj s h=>?_⟩,λb o h z=>?_⟩
 ·rw[Pq (f k _ y)]at C;rw[Pq (f j _ w)]at A;exact l.own k j a N p M b y w C A L J
 ·obtain⟨v,y,w⟩:=l.slot j s h
  grind
 ·rw[ez];exact f1 b o h z
noncomputable def Zcw(mg:Yk)(l:Yp)(i:Nat)(h f:PTS):PTS:=λR γ=>h {R with ex:=λb c=>c∈l/\f {nx:=λg=>R.nx (g.set i none),rt:=R.rt,ex:=λ_ _=>False,bk:=λg=>R.bk (g.set i none),ct:=λg=>R.ct (g.set i none),rv:=R.rv} (b.set i<|some<|.sh<|.err<|ExcR.Xi mg c)} γ
def Zk4{C0}{J:Ends->TS}{ts}{M L}{E'}(G:Yp)(A:∀c∈G,ExcR.XX K (ExcR.Xi mg c)/\PySem.W.exmOne K (.ref<|ExcR.Xi mg c) (.ref C0)=some true)(hb:∀D,Xr K mg (ExcR.hx K C0 i ts D) (J D) M)(hh:Xr K mg E' ts L)(hd:autoParam (∀c∈G,Td c=none) au_1):Xr K mg E (λD σ H=>J D D σ H) (Zcw mg G i M L):=by
 intro H0 B H σ γ R D Q C h e;refine hb D H0 B H σ γ _ D Q C h ⟨e.nx,e.rt,λx y c H' hc T f'=>?_,e.bk,e.ct,e.rv⟩;obtain⟨s,hp⟩:=hc;obtain⟨k1,Y⟩:=A c s;refine .of (hd c s) ⟨_,rfl,Y,λa N=>?_⟩;have U:TV K (zof B y x) H0 H' (upd H' a<|ExcR.B9 a<|ExcR.Xi mg c) (.sh<|.err<|ExcR.Xi mg c) (.ref a):=.err (XN Xw λz=>by have:=T.zm a z;rw[N]at this;exact this);obtain⟨e2,f2⟩:=T.set (XJ (o:=ExcR.B9 a (ExcR.Xi mg c)) N) U rfl;have g:=f'.trans f2;refine hh H0 B _ _ _ _ _ Q e2 hp ⟨λb f r l p n=>?_,e.rt,λ_ _ _ _ z=>z.elim,λb f r l p n=>?_,λb f r l p n=>?_,λb f d v r l p n=>e.rv b f d v r l p (g.trans n)⟩
 ·obtain⟨w,u⟩:=p.gone i;exact e.nx _ _ r l w (g.trans<|n.trans u)
 ·obtain⟨w,u⟩:=p.gone i;exact e.bk _ _ r l w (g.trans<|n.trans u)
 ·obtain⟨w,u⟩:=p.gone i;exact e.ct _ _ r l w (g.trans<|n.trans u)
def Zf1:Xf K mg E (tC<|.ref a) (pC<|.ref a):=NC λ_=>.ref a
def Mi(K:Yg):List S->(S->Prop)->Prop
 |[s,t],R=>(match s.d,t.d with
  | .err C,.ref f=>∃b,ExcR.XX K C/\PySem.W.kitOne K (.ref C) (.ref f)=some b/\R (.sh<|.bl b)
  | .err C,.ty n=>∃b,ExcR.XX K C/\PySem.W.kitOne K (.ref C) (.type n)=some b/\R (.sh<|.bl b)
  | .erM C _,.ref f=>∃b,ExcR.Pe K C/\PySem.W.kitOne K (.ref C) (.ref f)=some b/\R (.sh<|.bl b)
  | .erM C _,.ty n=>∃b,ExcR.Pe K C/\PySem.W.kitOne K (.ref C) (.type n)=some b/\R (.sh<|.bl b)
  |_,_=>False)
 |_,_=>False
def Rp.err_inv (h:Rp K H (.err C) v):∃a,v=.ref a/\H a=some (ExcR.B9 a C):=by
 cases h with
 |err h=>grind
def Rp.ref_inv (h:Rp K H (.ref a) v):v=.ref a:=by cases h;rfl
def Rp.erM_inv (h:Rp K H (.erM C r) v):∃a b l o,v=.ref a/\H a=some (ExcR.Kn a C<|some b)/\H b=some (.xd [("members",.ref l)])/\H l=some (.frz o<|.lst<|r.map V.int):=by
 cases h with
 |erM n g f=>grind
def Ex(U:X0 K mg E M r):Xf K mg E (tCB (λxs H Q=>∃a C z c b,xs=[.ref a,c]/\H a=some (ExcR.Kn a C z)/\ExcR.Pe K C/\(∃J,(∀u,RelV c u->u=J)/\PySem.W.kitOne K (.ref C) J=some b)/\Q (.bl b) H) M) (pCB (Mi K) r):=by
 refine Pt U λH0 H H1 Z ss Y R Q G s1 hm L h q=>?_;unfold Mi at h;split at h
 ·obtain⟨v,u,rfl,T,N⟩:=L.two_inv;have g:=T.rp G;have f:=N.rp G;split at h
  ·rename_i C A y x;rw[y]at g;rw[x]at f;obtain⟨a,rfl,o⟩:=g.err_inv;obtain⟨b,w,s,p⟩:=h;rw[f.ref_inv];exact⟨a,C,_,_,b,rfl,o,w.any,⟨.ref A,λu l=>l,s⟩,q _ _ H1 p (Same.refl _) (.bl _)⟩
  ·rename_i C n y x;rw[y]at g;rw[x]at f;obtain⟨a,rfl,o⟩:=g.err_inv;obtain⟨b,w,s,p⟩:=h;rw[f.ty_inv];exact⟨a,C,_,_,b,rfl,o,w.any,⟨.type n,λu l=>l,s⟩,q _ _ H1 p (Same.refl _) (.bl _)⟩
  ·rename_i C r A y x;rw[y]at g;rw[x]at f;obtain⟨a,z,_,_,rfl,o,_,_⟩:=g.erM_inv;obtain⟨b,w,s,p⟩:=h;rw[f.ref_inv];exact⟨a,C,_,_,b,rfl,o,w,⟨.ref A,λu l=>l,s⟩,q _ _ H1 p (Same.refl _) (.bl _)⟩
  ·rename_i C r n y x;rw[y]at g;rw[x]at f;obtain⟨a,z,_,_,rfl,o,_,_⟩:=g.erM_inv;obtain⟨b,w,s,p⟩:=h;rw[f.ty_inv];exact⟨a,C,_,_,b,rfl,o,w,⟨.type n,λu l=>l,s⟩,q _ _ H1 p (Same.refl _) (.bl _)⟩
  ·exact h.elim
 ·exact h.elim
noncomputable def Zlr(i:Nat)(b a:PTE):PTS:=λR γ=>match γ[i]? with
 |some (some<|.own<|.lst f)=>a γ (λs=>b γ (λy=>match y.d with
   | .int k=>∃j d,ixN f.length k=some j/\s.shd=some d/\R.nx (γ.set i<|some<|.own<|.lst<|f.set j d)
   |_=>False) (R.ex γ)) (R.ex γ)
 |some (some<|.own<|.lsA x f)=>a γ (λs=>b γ (λy=>match y.d with
   | .int k=>∃j d,ixN f.length k=some j/\s.shd=some d/\R.nx (γ.set i<|some<|.own<|.lsA x<|f.set j d)
   |_=>False) (R.ex γ)) (R.ex γ)
 |_=>False
def Zlu:S->S->(S->Prop)->Prop:=λx y R=>match x.d,y.d with
 | .lst b,.int k=>x.free b=true/\(-(2 ^ 63)<=k/\k<2 ^ 63)/\b.length*k.toNat<=10000000/\R (.own (.lst (List.replicate k.toNat b).flatten))
 |_,_=>False
noncomputable def Sy:List D->Option (List V)
 |[]=>some []
 |d::r=>match SL d,Sy r with
  |some v,some b=>some (v::b)
  |_,_=>none
theorem FH:∀{ds}{vs us:List V},Rps K H ds vs->Sy ds=some us->vs=us
 |[],_,_,.nil,e=>by cases e;rfl
 |d::r,_,us,.cons h t,e=>by
  unfold Sy at e;split at e
  ·rename_i v vs f b;cases e
   rw[Fj h f,FH t b]
  ·grind
def Le(neg:Bool):S->S->(S->Prop)->Prop:=λx y R=>match x.d,y.d with
 | .lst h,.lst g=>∃f b,Sy h=some f/\Sy g=some b/\f.all K5=true/\b.all K5=true/\R (.sh<|.bl (if neg then !eqL f b else eqL f b))
 |_,_=>False
def Zhl{n g a b}(N:Xf K mg E n a)(M:Xf K mg E g b):Xf K mg E (tOp (Pp K neg) n g) (p2 a b<|Le neg):=by
 refine KL N M λH0 H H2 Z x y v u R Q o s1 hm J G h q=>?_;unfold Le at h;have s:=J.rp o;have p:=G.rp o;split at h
 ·rename_i ds es e1 e2;rw[e1]at s;rw[e2]at p;obtain⟨C,z,h1,h2,Y,U,T⟩:=h;obtain⟨l,vs,rfl,w,r⟩:=s.lst_inv;obtain⟨m,A,rfl,f,L⟩:=p.lst_inv;rw[FH r h1]at w;rw[FH L h2]at f;exact⟨l,m,C,z,rfl,rfl,SqL.of w,SqL.of f,Y,U,q _ _ H2 T (Same.refl _) (.bl _)⟩
 ·grind
def O2(b:X.A.units<cLine)(f:autoParam (X.K=K) au_0):OpR X (compareOp .Eq) (Pp K false):=by subst f;exact Lv b
end
end Pu
namespace PySem
open Sem (wp)
structure Zf0 {K:Type} (es:List DictEntry) (kvs:List (K×Value)):Prop where
 length:es.length=kvs.length
 get?:∀{i:Nat} {e:DictEntry} {k:K} {v:Value},es[i]?=some e->kvs[i]?=some (k,v)->True/\e.val=v
def VDict{K:Type}(h:Heap)(a:Addr)(b:List (K×Value))(g:Nat):Prop:=
 ∃o f,h.get? a=some o/\o.ExactDict/\o.data=.dict f g/\True/\Zf0 f.toList b/\True
section
variable {prog:Program}{w:World}{K:Type}{A:Around}{E:Yl}{s:Shared}
def Zhe(d:Addr)(f:(d==sysModules)=false) :
  MeetsIn prog w (Builtin.«dict.values» ⟨[.ref d],[]⟩) (λ_ R s=>s.TypeIs (.ref d) "dict"/\
   R (.ok<|.ret<|.ref s.heap.objs.size) {s with heap:=s.heap.push {cls:=.type "dict_values",data:=.fields #[.ref d]}}):=
 .of_wp λA R s ⟨b,h⟩=>by
  refine Ww ?_;unfold Builtin.Dict.noArgs;refine Ww (wpAny_notOrdered_dict b ?_);show wpAny _ _ (pure d) _ _ s;refine W1 ?_;show wpAny _ _ (Builtin.Dict.showsAll d >>= _) _ _ s;unfold Builtin.Dict.showsAll;rw[W3 (by rw[f];exact WK)];refine Ww (W1 ?_);exact Ww (Qk<|W1 ⟨_,rfl,h⟩)
def O7{v d:Addr}{f:List (K×Value)}{u:Nat}{Q:Yl}(h:s.heap.IsValuesView v d)(z:VDict s.heap d f u)(C:Q (.ref s.heap.objs.size) {s with heap:=s.heap.push {cls:=.type "dict_valueiterator",data:=.fields #[.ref d,.int 0 0,.int f.length 0,.int u 0]}}) :
  wpAny (model prog w) A (pyIter<|.ref v) Q E s:=by
 obtain⟨H,n,B,p⟩:=id h;obtain⟨o,G,r,M,b,L,y,J⟩:=id z;refine wpAny_pyIter_slot h.typeIs F.slot_dict_values_iter (QL F.slot_dict_values_iter h.typeIs F.entry_dict_values_iter ?_<|F.args_dict_values_iter_1 _);unfold Builtin.«dict_values.__iter__»;refine Ww (W1 ?_);refine Ww ?_;unfold Builtin.Dict_items.dictOf;refine Ww (Jq n p (x:=.ref d) rfl<|W1 ?_);refine Ww ?_;unfold Builtin.Dict_items.newIterator;refine Ww (wpAny_dictEntries r b ?_);refine Ww (wpAny_dictEpoch r b ?_);have l:G.size=f.length:=by rw[←y.length];simp
 have g:Builtin.Dict_items.ownsTuple "dict_valueiterator"=false:=by decide
 simp only[g,V5,VR];refine Qk (W1 ⟨_,rfl, "dict_valueiterator",_,⟨_,W9 _ rfl,rfl⟩,F.slot_dict_valueiterator_next.lookup,?_⟩);simpa [rawInt,l]using C
def Zju{l d:Addr}{i C:Nat}{b:List (K×Value)}{k:K}{v:Value}{Q:Ys->Shared->Prop}(f:s.heap.IsValIter l d i b.length C)(M:VDict s.heap d b C)(hx:b[i]?=some (k,v))(U:∀J,J.IsValIter l d (i+1) b.length C->Heap.SameBut l s.heap J->Q (some v) {s with heap:=J}) :
  wpAny (model prog w) A (pyNext<|.ref l) Q E s:=by
 obtain⟨o,G,T,B⟩:=id f;obtain⟨Y,z,x,N,y,hk,L,hn⟩:=id M;unfold pyNext
 refine Ww (wpAny_attempt (VD (name:=Str.ofString "__next__") f.typeIs QF
  (QL QF f.typeIs F.entry_dict_valueiterator_next ?_<|F.args_dict_valueiterator_next_1 _)))
 refine Ww (W1 ?_);refine Ww ?_;refine Ww ?_
 first|refine Ww (QI f.typeIs<|W1 ?_)|refine Ww (Vb f.typeIs<|W1 ?_)
 refine Ww (wpAny_fieldsOf G B ?_);have u:Builtin.Dict_items.ownsTuple "dict_valueiterator"=false:=by decide
 simp only[u,V5,VR];show wpAny _ _ (if (Value.ref d==Value.none)=true then _ else _) _ _ s;rw[W3 (show ¬((Value.ref d==Value.none)=true)from WK)]
 refine Ww (W1 ?_);refine Ww (wpAny_dictEntries x y ?_);have r:z.size=b.length:=by rw[←L.length];simp
 rw[W3 (by rw[r];simp)];refine Ww (W1 ?_);refine Ww (wpAny_dictEpoch x y ?_);rw[W3 (by simp)];refine W1 ?_
 have H:i<b.length:=by
  rcases Nat.lt_or_ge i b.length with h|h
  ·exact h
  ·simp[Vl h]at hx
 have n:i<z.size:=by rw[r];exact H
 have p:z[i].val=v:=(L.get? (e:=z[i]) (by simp[n]) hx).2;simp only[show ¬((i:Int)<0)from by omega,VR,Ql,Qm n]
 refine Ww ?_
 first|refine Ww (QI f.typeIs<|W1 ?_)|refine Ww (Vb f.typeIs<|W1 ?_)
 refine Ww (VY f.typeIs ?_);show wpAny _ _ (setField (.ref l) 1 (rawInt ((i:Int)+1)) >>= _) _ _ s;refine Ww (QC G B (by simp) ?_)
 have g:(s.heap.update l<|Obj.mapFields (·.setIfInBounds 1 (rawInt ((i:Int)+1)))).IsValIter l d (i+1) b.length C:=
  ⟨_,Qj _ G (QD<|Qs B _),(VL ..).trans T,by rw[Qs B];simp[rawInt]⟩
 refine Ww (QH ?_);refine Ww (VY (s:={s with heap:=s.heap.update l (Obj.mapFields (·.setIfInBounds 1 (rawInt ((i:Int)+1))))}) g.typeIs ?_)
 refine Ww (VY (s:={s with heap:=s.heap.update l (Obj.mapFields (·.setIfInBounds 1 (rawInt ((i:Int)+1))))}) g.typeIs ?_)
 show wpAny _ _ (pure z[i].val) _ _ _;exact W1 (W1 ⟨_,rfl,W1 (p▸U _ g (Qw ..))⟩)
def Zji{r d:Addr}{i B:Nat}{g:List (K×Value)}{Q:Ys->Shared->Prop}(H:A.handled=none)(f:s.heap.IsValIter r d i g.length B)(G:VDict s.heap d g B)(hx:g[i]?=none)(L:∀y,Heap.ExtBut r s.heap y->Q none {s with heap:=y}):wpAny (model prog w) A (pyNext<|.ref r) Q E s:=by
 obtain⟨o,v,Y,x⟩:=id f;obtain⟨M,z,n,J,p,U,C,N⟩:=id G;unfold pyNext
 refine Ww (wpAny_attempt (VD (name:=Str.ofString "__next__") f.typeIs QF
  (QL QF f.typeIs F.entry_dict_valueiterator_next ?_<|F.args_dict_valueiterator_next_1 _)))
 refine Ww (W1 ?_);refine Ww ?_;refine Ww ?_
 first|refine Ww (QI f.typeIs<|W1 ?_)|refine Ww (Vb f.typeIs<|W1 ?_)
 refine Ww (wpAny_fieldsOf v x ?_);have l:Builtin.Dict_items.ownsTuple "dict_valueiterator"=false:=by decide
 simp only[l,V5,VR];show wpAny _ _ (if (Value.ref d==Value.none)=true then _ else _) _ _ s;rw[W3 (show ¬((Value.ref d==Value.none)=true)from WK)]
 refine Ww (W1 ?_);refine Ww (wpAny_dictEntries n p ?_);have h:z.size=g.length:=by rw[←C.length];simp
 rw[W3 (by rw[h];simp)];refine Ww (W1 ?_);refine Ww (wpAny_dictEpoch n p ?_);rw[W3 (by simp)];refine W1 ?_;have u:z.size<=i:=by rw[h];simpa using hx
 simp only[show ¬((i:Int)<0)from by omega,VR,Ql,Vg u]
 refine Ww ?_
 first|refine Ww (QI f.typeIs<|W1 ?_)|refine Ww (Vb f.typeIs<|W1 ?_)
 show wpAny _ _ (setField (.ref r) 0 .none >>= _) _ _ s;refine Ww (QC v x (by simp) ?_);show wpAny _ _ (newExc (.type "StopIteration") [] >>= _) _ _ _;refine Ww ?_;simp only[newExc,newTuple];refine Ww (Qk ?_<|by size_fits);refine Ww (m:=firstArgMember _ _) (wpAny_of_eq (a:=Value.none) (by first|rfl|(simp only[firstArgMember];rfl)) ?_)
 refine Qk ?_ (by size_fits);simp only[raiseNew];refine Ww (wpAny_handled ?_);rw[show A.in1.handled=none from H]
 refine Ww (W1<|wpAny_throw ?_);refine Ww (wpAny_isInstance (T:="StopIteration") (b:=true) ⟨_,W9 _ rfl,rfl⟩ isSubtype_stop ?_);exact W1 (L _ (((Qw ..).extBut.push _).push _))
end
end PySem
open PySem PySem.Spec PyProof.Rows
namespace Own
open L2
noncomputable def Ln(K:Yg):R2:=λx y H Q=>∃a b xs f,x=.ref a/\y=.ref b/\SqT K H a xs/\SqT K H b f/\xs.length+f.length<=sizeLine/\
 (xs=[]->Q (.ref b) H)/\(xs≠[]->f=[]->Q (.ref a) H)/\(xs≠[]->f≠[]->∀p,H p=none->Q (.ref p) (upd H p<|.tup (xs++f)))
section
variable {X:Cx}{K:Yg}
def Zdh(hK:autoParam (X.K=K) au_0):OpR X (binaryOp .Add) (Ln K):=by
 subst hK;intro pins s J H x y v u Q I N M h;obtain⟨a,b,xs,L,rfl,rfl,E,C,hz,q0,Y,U⟩:=h;cases N
 cases M
 by_cases hx:xs=[]
 ·obtain⟨r,T,p1,_⟩:=I.tuple E;obtain⟨f,r2,p2,_⟩:=I.tuple C;have e:=T.nil_iff.mpr hx;obtain⟨⟨cls,dd,data,sl⟩,z,B,n,A⟩:=id p1;obtain⟨⟨G,w,data2,p⟩,g,o,n2,l⟩:=id p2;simp only at B A o l;subst B A o l
  exact concat_meets ⟨_,z,rfl⟩ ⟨_,g,rfl⟩ noFill_tuple_add seq_tuple_add VO VC (V1 _ _)
   (tuple_addW0 a b r.toArray f.toArray n n2 dd w sl p<|by grind) ⟨z,g,⟨.ref b,H,I,rfl,q0 hx⟩⟩
 ·exact Zjw pins s J H (.ref a) (.ref b) _ _ Q I rfl rfl ⟨a,b,xs,L,rfl,rfl,E,C,hx,hz,Y hx,U hx⟩
def Zku(h:VV [(.ref b,x)] f):∃r,f=[(.ref b,r)]/\RelV x r:=by
 cases h with
 |cons h t=>
  cases t
  rename_i y;obtain⟨u,r⟩:=y;obtain⟨g,l⟩:=h;cases g
  grind
noncomputable def Ms(n l:TE):TE:=λg H Q=>∀p,H p=none->n g (upd H p<|.dT []) λy o=>l g o λx f=>f p=some (.dT [])/\∃b h,y=.ref b/\f b=some (.tup<|h.map kV)/\Q (.ref p) (upd f p<|.dT [(h,x)])
def Rc{r p pos}(M:X.A.units+1<cLine)(T:PE X k r)(L:PE X v p):PE X (.Dict [some k] [v] pos) (Ms r p):=by
 intro pins s C H Q I q
 refine wpAny_Dict_any rfl rfl (by simp) (by simp) (thn ((Zbn T L Zlm) pins _ C _ (λw l=>match w with
  |[(y,x)]=>l s.heap.objs.size=some (.dT [])/\∃b g,y=.ref b/\l b=some (.tup<|g.map kV)/\Q (.ref s.heap.objs.size) (upd l s.heap.objs.size<|.dT [(g,x)])
  |_=>False) (I.laid (t':=s.toks) (λ_ _ q=>W2 _ q) (W5 _)<|Lx s.heap I.big)<|q _<|I.hok.fresh<|W5 s.heap.objs.size) λws s2 ⟨w,l,o,rel,h⟩=>?_)
 split at h
 ·rename_i y x;obtain⟨e,b,g,ey,B,J⟩:=h;subst ey;obtain⟨E,ew,G⟩:=Zku rel;subst ew;obtain⟨z,U,xs,f,dd⟩:=B5 o.hok e;cases f
  unfold storeAll;rw[List.forIn_cons];refine Ww (Ww (wpAny_dictSet_heap (Nat.lt_of_succ_lt M) (Sq o.hok B) dd λh' n N=>W1 ?_))
  dsimp only
  refine W1 ?_;obtain⟨u,es,ep,hq,h,h3,h4,_,Y⟩:=n;refine⟨.ref s.heap.objs.size,_,B7 (ob:=.dT [(g,x)]) o (by rw[e];exact True.intro) N ⟨u,hq⟩ ⟨(by show 1<=sizeLine;decide),U,[(g,b,E)],?_,u,es,ep,hq,h,h3,h4,Y⟩,rfl,J⟩;refine .cons ⟨rfl,?_,G⟩ .nil;rwa[Xl (Cj B e (λz=>nomatch z))]
 ·exact h.elim
end
section
variable {prog:Program}{w:World}{A:Around}{K:Type}{d r:Addr}{kvs:List (K×Value)}{ep:Nat}{h h':Heap}
def VDict.at (x:VDict h d kvs ep) (e:∀o,h.get? d=some o->h'.get? d=some o):VDict h' d kvs ep:=let ⟨o,f,b,r⟩:=x;⟨o,f,e _ b,r⟩
def VDict.lt (x:VDict h d kvs ep):d<h.objs.size:=let ⟨_,_,b,_⟩:=x;W8 b
def Zag(hh:A.handled=none)(I d:Addr)(hne:d≠I)(kvs:List (K×Value))(ep:Nat) :
  Walks prog w A I [I,d] [I] kvs.length (λi v=>∃k,kvs[i]?=some (k,v)) (λi h=>h.IsValIter I d i kvs.length ep/\VDict h d kvs ep) where
 sub:=λb hb=>by simp at hb;simp[hb]
 frame:=λ_ _ _ st hk=>⟨st.1.at λo e=>hk I (by simp) o e,VDict.at st.2 λo e=>hk d (by simp) o e⟩
 item:=λi s Q E hi st hQ=>by
  refine Zju (k:=(kvs[i]).1) (v:=(kvs[i]).2) st.1 st.2 (by grind) λh' hit' hs'=>?_;exact hQ _ h' s.toks ⟨(kvs[i]).1,by simp[hi]⟩ ⟨hit',VDict.at st.2 λo e=>hs'.extBut d o hne e⟩ λb o hb e=>hs'.extBut b o (λh=>hb (by grind)) e
 done:=λs Q E st hQ=>Zji hh st.1 st.2 (by simp) λh' he'=>hQ h' s.toks λb o hb e=>he' b o (λh=>hb (by grind)) e
 self:=λ_ _ _ _ st hQ=>wpAny_pyIter_valiter st.1 hQ
def Zk3:PySem.W.KdlSrc prog w "dict_values" r d kvs.length (λi v=>∃k,kvs[i]?=some (k,v)) (λh=>h.IsValuesView r d/\VDict h d kvs ep) where
 type:=λ_ hm=>hm.1.typeIs
 there:=λ_ hm=>⟨let ⟨_,ho,_⟩:=hm.1;W8 ho,VDict.lt hm.2⟩
 keep:=λ_ _ hm hk=>⟨let ⟨o,ho,x⟩:=hm.1;⟨o,hk r (.inl rfl) o ho,x⟩,VDict.at hm.2 λo e=>hk d (.inr rfl) o e⟩
 notList:=by decide
 notTuple:=by decide
 hint:=λ_ _ _ _ hm hq=>PySem.W.kdl_hint_values hm.1.typeIs hq
 iter:=λ_ _ hh hm=>⟨_,_,(λ_ _ hq=>O7 hm.1 hm.2 hq),Zag hh _ d (WM<|VDict.lt hm.2) kvs ep,⟨⟨_,W9 _ rfl,rfl,rfl⟩,VDict.at hm.2 λo e=>W2 _ e⟩⟩
end
noncomputable def SQ(v d:Addr):HO:=.ext λh=>h.IsValuesView v d
def FU:V->List V->Hp->VK->Prop:=λx f H Q=>∃d b,x=.ref d/\f=[]/\H d=some (.dT b)/\∀v,H v=none->Q (.ref v) (upd H v<|SQ v d)
section
variable {X:Cx}
def Zc6:MtR X "dict.values" FU:=by
 intro pins s w H x xs v y Q I g l h;obtain⟨d,n,rfl,rfl,p,q⟩:=h;cases g
 have f:=l.zero;subst f;obtain⟨z,lo,xs,rel,u⟩:=B5 I.hok p;obtain⟨o,C,E,b,hx,_⟩:=id u;refine call_meetsIn PySem.F.slot_dict_values ⟨o,b,hx.1⟩ PySem.F.entry_dict_values (PySem.F.args_dict_values_1 _) (Zhe d lo) ⟨⟨o,b,hx.1⟩,?_⟩;refine⟨.ref s.heap.objs.size,_,I.laid (o:=SQ s.heap.objs.size d) (λ_ _ q=>W2 _ q) (W5 _) ⟨⟨_,W9 _ rfl,rfl,rfl⟩,⟨_,W9 _ rfl⟩,λB A ⟨o,b,r⟩ e=>⟨o,e o b,r⟩⟩,rfl,q _ (I.hok.fresh<|W5 _)⟩
def ON{K}{o}{to}{name:Str}{apos cpos}(g:PE X o to)(l:autoParam (X.K=K) au_0)(h:autoParam (name = "values") au_0)(f:autoParam (attributeBase o name X.env (eval o X.env)=eval o X.env) au_0)(b:autoParam ((apos.endLine==cpos.line)=true) au_0):PE X (.Call (.Attribute o name apos) [] [] cpos) (Fl K "dict" FU to):=by
 subst l h;exact Fg PySem.F.plainAttrs_dict PySem.F.slot_dict_values PySem.F.type_dict_values Zc6 g f b
def Gn:∀{kvs}{xs:List (List Key×Addr×Value)},KT H kvs xs->Vals (kvs.map (·.2)) (xs.map (·.2.2)):=by
 intro f
 induction f with
 |nil=>
  intro _ h;cases h
  exact .nil
 |cons _ _ b=>
  intro _ h;cases h with
  |cons h r=>
   exact .cons h.2.2 (b r)
def Zh6(N:X.calm=true):Kg X (.type "list") (λxs H Q=>∃v d b,xs=[.ref v]/\H v=some (SQ v d)/\H d=some (.dT b)/\∀l,H l=none->Q (.ref l) (upd H l<|.lst<|b.map (·.2))):=by
 intro pins s σ H xs us Q I B h;obtain⟨v,d,b,rfl,E,M,q⟩:=h;obtain⟨u,rfl,C⟩:=B.one;obtain rfl:=C;obtain⟨z,lo,xs,rel,dd⟩:=B5 I.hok M;obtain⟨o,U,Y,J,hx,n,y,w,hn⟩:=id dd;have hl:xs.length=b.length:=by simpa using(Gn rel).length.symm
 have A:VDict s.heap d (xs.map λx=>((),x.2.2)) Y:=by
  refine⟨o,U,J,hx,n,trivial,⟨by rw[y,Wx,Wx],λ{i e k v} r p=>⟨trivial,?_⟩⟩,trivial⟩;rw[y,WB]at r;rw[WB]at p;cases L:xs[i]? with
  |none=>grind
  |some x=>
   rw[L]at r p;cases r
   cases p
   rfl
 refine PySem.W.kdl_call Zk3 (I.ok.hd N) ⟨((I.hok v _ E).1),A⟩ (by rw[Wx];lia) λh' tk g c' w T f=>?_;refine⟨.ref s.heap.objs.size,upd H s.heap.objs.size (.lst<|b.map (·.2)),?_,rfl,q _ (I.hok.fresh<|W5 _)⟩;refine I.laid w (W5 _) ⟨by rw[Wx];exact z,g.toList,c',?_,by simpa using T⟩;rw[(PySem.W.kdl_vals_eq g.toList (by rw[Qc];exact f.1) λj u G=>f.2 j u (by rw[←G,Q4])),Qy];exact Gn rel
end
end Own
namespace Pu
open L2 Own M
section
variable {K:Yg}{mg:Yk}{E:L2.St->XK}{H0 H H1 H':Hp}{B Z Z':Addr->Prop}{σ:L2.St}{γ:Γ}
noncomputable def Nw:Option D->Option (List D)
 |some (.tup b)=>some b|_=>none
def DA(h:Nw o=some ds):o=some (.tup ds):=by
 unfold Nw at h;split at h
 ·grind
 ·grind
def Zaa:S->S->(S->Prop)->Prop:=λx y R=>∃f b,Nw x.shd=some f/\Nw y.shd=some b/\f.length+b.length<=100000/\R (.sh<|.tup (f++b))
def Zes{a b}(Y:Xf K mg E M a)(U:Xf K mg E L b):Xf K mg E (tOp (Ln K) M L) (p2 a b Zaa):=by
 refine KL Y U λH0 H H2 Z x y v u R Q s f r J G h q=>?_;obtain⟨ds,es,e1,e2,T,h⟩:=h;have N:=J.shd s r f (DA e1);have w:=G.shd s r f (DA e2);obtain⟨l,C,rfl,h1,o⟩:=Rp.tup_inv N;obtain⟨m,A,rfl,h2,n⟩:=Rp.tup_inv w;refine⟨l,m,C,A,rfl,rfl,SqT.of (off_sub _ _ h1),SqT.of (off_sub _ _ h2),by rw[o.len,n.len];exact WC T (by decide),λe=>?_,λ_ e=>?_,λ_ _ p g=>?_⟩
 ·subst e;cases o
  exact q _ _ _ h (Same.refl _) w
 ·subst e;cases n
  refine q _ _ _ h (Same.refl _) ?_;rw[Qg];trivial
 ·refine q _ _ _ h (XJ g) (.tup (XN Xw λz=>?_)<|Rps.mono (Xy (XJ g) λ_ _ _ z=>z)<|o.append n)
  have:=(λb z=>Po f (r b z)) p z
  rw[g]at this;exact this
noncomputable def pIT(a:PTE):PTI:=λγ R X=>a γ (λs=>∃b,Nw s.shd=some b/\R b.length λi=>.sh (b.getD i .non)) X
def CH(L:Xf K mg E te a):SndI K mg E (Dr K te) (pIT a):=by
 intro H0 B H σ γ R X Q b h q C;refine L H0 B H σ γ _ X _ b h (λs v H1 n o A=>?_) C;obtain⟨w,M,n⟩:=n;obtain⟨l,f,rfl,g,p⟩:=Rp.tup_inv (A.shd (b.grow o).same b.zm o (DA M));refine⟨l,rfl,⟨f,SqT.of (off_sub _ _ g)⟩,q _ _ _ H1 n o ⟨λi H' Z' G lt=>?_,λH' Z' lt=>?_⟩⟩
 ·have J:w[i]?=some (w.getD i .non):=by rw[WJ,Wy G];rfl
  obtain⟨u,r,z⟩:=p.get J;have k:=off_sub _ _ (lt.off _ _ g);refine⟨⟨f,u,SqT.of k,r⟩,λx N y=>?_⟩;obtain⟨rfl,y⟩:=y
  have:=y f (SqT.of k)
  rw[r]at this;cases this
  exact⟨Same.refl _,Rp.mono lt.off z⟩
 ·exact⟨f,SqT.of (off_sub _ _<|lt.off _ _ g),by rw[p.len];exact W5 _⟩
noncomputable def Nx:List (List Key×V)->Bool
 |[]=>true
 |p::r=>Ff p.2&&Nx r
theorem LF:∀{b:List (List Key×V)},Nx b=true->Rps K H (b.map λp=>vD p.2) (b.map (·.2))
 |[],_=>.nil
 |p::r,h=>by
  unfold Nx at h;rw[Qa]at h;exact .cons (AW h.1) (LF h.2)
def Zko:List V->Hp->VK->Prop:=λxs H Q=>∃(v d:Addr) (b:List (List Key×V)),xs=[.ref v]/\H v=some (SQ v d)/\H d=some (.dT b)/\∀l,H l=none->Q (.ref l) (upd H l<|.lst<|b.map (·.2))
noncomputable def Zdg(a:PTE):PTE:=λγ R X=>a γ (λs=>∃b,s.d=.dT b/\Nx b=true/\R (.own<|.lst (b.map λp=>vD p.2))) X
def Zc1(A:Xf K mg E te a):Xf K mg E (tCB Zko<|XH (Fl K "dict" FU te) Kt) (Zdg a):=by
 intro H0 B H σ γ R X Q f h q y;refine A H0 B H σ γ _ X _ f h (λs v H1 G n x=>?_) y;obtain⟨b,e,z,C⟩:=G;have o:=x.rp (f.grow n).same;rw[e]at o;obtain⟨l,rfl,g⟩:=o.dT_inv;refine⟨.inr (.inr<|.inl ⟨rfl,.inr ⟨b,g⟩⟩),l,b,rfl,rfl,g,λp r=>?_⟩;refine⟨p,l,b,rfl,Xw,by rw[Xl (Kf g r)];exact g,λm u=>?_⟩;have w:Same H1 (upd H1 p<|SQ p l):=XJ r;exact q _ _ _ C ((n.trans w).trans (XJ u)) ⟨m,rfl,(λ_ e=>e▸(n.trans w).free u),_,Xw,LF z⟩
noncomputable def RY(a b:PTE):PTE:=λγ R X=>a γ (λy=>b γ (λx=>∃f u,NX y.d=some f/\SL x.d=some u/\R (.own<|.dT [(f,u)])) X) X
def Zgf{a b}(ha:Xf K mg E L a)(hb:Xf K mg E J b):Xf K mg E (Ms L J) (RY a b):=by
 intro H0 B H σ γ R X Q A h q G p s;have r:Same H (upd H p<|.dT []):=XJ s;have env0:=A.grow r;refine ha H0 B _ σ γ _ X _ env0 h (λy v H1 h1 n N=>?_) λc H' g C=>G c H' g (r.trans C);have f:=env0.grow n;refine hb H0 B H1 σ γ _ X _ f h1 (λx w H2 h2 l M=>?_) λc H' g C=>G c H' g ((r.trans n).trans C);obtain⟨T,u,k1,Y,U⟩:=h2;have eu:=Fj (M.rp (f.grow l).same) Y;obtain⟨b',rfl,z⟩:=Fi (Rp.mono l<|N.rp f.same) k1;subst eu;refine⟨l _ _ (n _ _ Xw),b',T,rfl,z,q _ _ _ U (λc o g=>?_) ⟨p,rfl,(λ_ e=>e▸s),Xw⟩⟩
 have:c≠p:=λe=>by subst e;rw[s]at g;cases g
 rw[Xl this];exact l _ _ (n _ _<|r _ _ g)
end
section
variable {X:Cx}{K:Yg}
def FJ{f l b}(g:PE X l b)(h:autoParam (X.K=K) au_0):PI X f l (Dr K b):=by subst h;exact Zat g
end
end Pu
namespace M
open L2 Own Pu
noncomputable def tD(b:Yi):D:=.tup (b.map D.int)
noncomputable def kT(b:Yi):List Key:=b.map Sum.inl
def Zfy(b:Yi):arg (tD b)=.sh (tD b):=by
 unfold arg tD imm;rw[Bo]
def DF:Pf N (tD b::ds)=some (.sh<|tD b)::(ds.map (λd=>some (arg d))++List.replicate (N.length-(ds.length+1)) none):=by
 unfold Pf;rw[WN,Zfy];rfl
def MC(b:Yi):NX (tD b)=some (kT b):=by
 show Sa (b.map D.int)=some (b.map Sum.inl)
 induction b with
 |nil=>rfl
 |cons m r f=>
  rw[WN,WN];unfold Sa;rw[f];rfl
def R6(b:Yi):Nw (some<|tD b)=some (b.map D.int):=rfl
noncomputable def XG(b:Yi)(h:Int):Yi:=b.filter λm=>decide (m≠h)
noncomputable def PY(b:Yh)(f:Yi)(h:Int):Bool:=!(b.any λq=>decide (q.1=h)&&decide (q.2∈f))
noncomputable def X5(b:Yi):List (Yi):=b.foldl (λS h=>S++S.map (·++[h])) [[]]
def Np(b:Yi)(h:Int):X5 (b++[h])=X5 b++(X5 b).map (·++[h]):=by
 unfold X5;simp
def Sb{P:Yi->Prop}(g:P [])(f:∀r h,P r->P (r++[h]))(l:Yi):P l:=by
 have b:∀r:Yi,P r.reverse:=λr=>by
  induction r with
  |_=>grind
 rw[←List.reverse_reverse l]
 grind
def GV(b:Yi):(X5 b).length=2 ^ b.length:=by
 refine Sb (P:=λb=>(X5 b).length=2 ^ b.length) rfl (λr h f=>?_) b;rw[Np,WE,Wx,f,WE,List.length_singleton,Nat.pow_succ];lia
def BI(f:Yi):∀b∈X5 f,b.Sublist f:=by
 refine Sb (P:=λf=>∀b∈X5 f,b.Sublist f) (λb h=>?_) (λr h g b hm=>?_) f
 ·have:b=[]:=by simpa [X5]using h
  grind
 ·rw[Np,WL]at hm;rcases hm with hm|hm
  ·grind
  ·grind
noncomputable def oc(c:Int->Int->Int):Yi->Int
 |[]=>0
 |a::r=>(r.map<|c a).sum+oc c r
def Keeps(f:Yh)(o:Yi):Prop:=o.Pairwise λa b=>(b,a)∉f
structure P4 (ws:Yh) (c:Int->Int->Int) (ms:Yi) (v:Int):Prop where
 is:∃o:Yi,o.Perm ms/\Keeps ws o/\oc c o=v
 le:∀o:Yi,o.Perm ms->Keeps ws o->v<=oc c o
theorem FC(c:Int->Int->Int)(l:Int):∀o,oc c (o++[l])=oc c o+(o.map (c · l)).sum
 |[]=>by simp[oc]
 |a::r=>by
  rw[Vo];unfold oc;rw[FC c l r]
  grind
def LR{f:Int->Int}{xs b:Yi}(h:xs.Perm b):(xs.map f).sum=(b.map f).sum:=by
 induction h with
 |nil=>rfl
 |trans _ _ l g=>lia
 |_=>grind
def A1{b:Yi}{h}(f:b.Nodup)(g:h∈b):b.Perm (h::XG b h):=by
 have e:XG b h=b.erase h:=by
  unfold XG;rw[f.erase_eq_filter]
  grind
 grind
def less_sub:(XG b h).Sublist b:=List.filter_sublist
def lastM_iff:PY f g h=true↔∀b∈g,(h,b)∉f:=by
 unfold PY;constructor
 ·grind
 ·grind
def Zga{ms}{vs:Int->Int}{M}(s:ms.Nodup)(hw:∀q∈h,q.1≠q.2)(w:∀l∈ms,P4 h c (XG ms l) (vs l))(E:∃l∈ms,PY h ms l=true/\M=vs l+((XG ms l).map (c · l)).sum)(C:∀l∈ms,PY h ms l=true->M<=vs l+((XG ms l).map (c · l)).sum):P4 h c ms M:=by
 constructor
 ·obtain⟨l,g,f,e⟩:=E;obtain⟨o,o1,n,x⟩:=(w l g).is;refine⟨o++[l],?_,?_,?_⟩
  ·exact(List.perm_append_singleton l o).trans (((List.Perm.cons l o1)).trans (A1 s g).symm)
  ·refine Vp.mpr ⟨n,List.pairwise_singleton _ _,λa B b v=>?_⟩;rw[Wz.mp v];exact lastM_iff.mp f a (less_sub.subset<|o1.mem_iff.mp B)
  ·rw[FC,x,e,LR o1]
 ·intro o o1 n;rcases List.eq_nil_or_concat o with rfl|⟨p,l,rfl⟩
  ·grind
  ·rw[List.concat_eq_append]at o1 n ⊢;have g:l∈ms:=o1.mem_iff.mp (by simp);obtain⟨A,_,y⟩:=Vp.mp n
   have r:p.Perm (XG ms l):=by
    have:=((List.perm_append_singleton l p).symm.trans o1).trans (A1 s g)
    exact this.cons_inv
   have f:=lastM_iff.mpr λb v=>by
    rcases WA.mp ((A1 s g).mem_iff.mp v)with e|u
    ·subst e;exact λz=>hw _ z rfl
    ·exact y b (r.mem_iff.mpr u) l (Wz.mpr rfl)
   have a1:=C l g f;have a2:=(w l g).le p r A;rw[FC,LR r];lia
def HM(a b:Yi)(l:Int):XG (a++b) l=XG a l++XG b l:=List.filter_append ..
def LH(h:l∉a):XG a l=a:=List.filter_eq_self.mpr λm b=>W4 λe=>h (e▸b)
def Zfw(b:Yi):∃T,X5 b=[]::T:=by
 refine Sb (P:=λb=>∃T,X5 b=[]::T) ⟨[],rfl⟩ (λr h ⟨T,e⟩=>?_) b;rw[Np,e]
 grind
def Zdc(b:Yi):(X5 b).getLast?=some b:=by
 refine Sb (P:=λb=>(X5 b).getLast?=some b) rfl (λr h e=>?_) b;rw[Np,List.getLast?_append,List.getLast?_map,e];rfl
def HH:f.Nodup->(X5 f).Nodup:=by
 refine Sb (P:=λf=>f.Nodup->(X5 f).Nodup) (λ_=>by simp[X5]) (λr h n o=>?_) f;obtain⟨l,_,p⟩:=QY.mp o;rw[Np];refine QY.mpr ⟨n l,?_,λa u b s e=>?_⟩
 ·exact List.Pairwise.map _ (λa b g e=>g (List.append_cancel_right e)) (n l)
 ·obtain⟨c,v,rfl⟩:=WQ.mp s;subst e;exact p h ((BI r _ u).subset (by simp)) h (by simp) rfl
def Zk1:f.Nodup->∀k b,(X5 f)[k]?=some b->∀l∈b,∃j:Nat,j<k/\(X5 f)[j]?=some (XG b l):=by
 refine Sb (P:=λf=>f.Nodup->∀k b,(X5 f)[k]?=some b->∀l∈b,∃j,j<k/\(X5 f)[j]?=some (XG b l)) (λ_ k b e l p=>?_) (λr h x y k b e l p=>?_) f
 ·have:b=[]:=by
   have:=WT e
   simpa [X5]using this
  subst this;cases p
 ·obtain⟨w,_,A⟩:=QY.mp y;rw[Np]at e ⊢;by_cases B:k<(X5 r).length
  ·rw[Qh B]at e;obtain⟨j,g,o⟩:=x w k b e l p;exact⟨j,g,by rw[Qh (by lia)];exact o⟩
  ·rw[Qd (by lia),WB]at e;cases q:(X5 r)[k-(X5 r).length]? with
   |none=>rw[q]at e;cases e
   |some n=>
    rw[q]at e;cases e
    have C:=λz=>A h ((BI r n<|WT q).subset z) h (by simp) rfl;by_cases u:l=h
    ·subst u
     have v:XG (n++[l]) l=n:=by
      rw[HM,LH C];simp[XG]
     obtain⟨j,g,o⟩:=Qt.mp (WT q);refine⟨j,by lia,?_⟩;rw[Qh g,v,Wy g,o]
    ·have s:l∈n:=by
      rcases WL.mp p with z|z
      ·exact z
      ·exact absurd (Wz.mp z) u
     have v:XG (n++[h]) l=XG n l++[h]:=by
      rw[HM];congr 1;exact LH λz=>u (Wz.mp z)
     obtain⟨j,g,o⟩:=x w _ n q l s;refine⟨(X5 r).length+j,by lia,?_⟩;rw[Qd (by lia),WB,Nat.add_sub_cancel_left,o,v];rfl
def Bs(h:kT a=kT b):a=b:=List.map_inj_right (λ_ _=>Sum.inl.inj) |>.mp h
def Hu(h:Yi)(g:Yh):Prop:=∀f:Yi,f.Sublist h->f≠[]->∃l∈f,∀b∈f,(l,b)∉g
structure Tab (ws:Yh) (c:Int->Int->Int) (S:List (Yi)) (kvs:List (List Key×V)):Prop where
 keys:kvs.map (·.1)=S.map kT
 val:∀ms∈S,∃v,Xu kvs (kT ms)=some (.int v)/\P4 ws c ms v
def RL(b:Yh)(c:Int->Int->Int):Tab b c [[]] [([],.int 0)]:=by
 refine⟨rfl,λh g=>?_⟩;rw[Wz.mp g];refine⟨0,rfl,⟨[],.refl _,.nil,rfl⟩,λo f _=>?_⟩;rw[f.eq_nil];exact Int.le_refl _
def Tab.put {S b g v} (T:Tab h c S b) (r:g∉S) (L:P4 h c g v):Tab h c (S++[g]) (putK b (kT g)<|.int v):=by
 have o:Xu b (kT g)=none:=by
  cases e:Xu b (kT g)with
  |none=>rfl
  |some u=>
   unfold Xu at e;cases q:b.find? (λp=>decide (p.1=kT g))with
   |none=>rw[q]at e;cases e
   |some x=>
    have s:=List.find?_some q;have l:x.1∈b.map (·.1):=WQ.mpr ⟨x,(List.mem_of_find?_eq_some q),rfl⟩;rw[T.keys,W7 s]at l;obtain⟨n,f,w⟩:=WQ.mp l;rw[Bs w]at f;exact absurd f r
 constructor
 ·rw[Zbf _ o,WU,WU,T.keys];rfl
 ·intro n f;rw[BF];by_cases e:n=g
  ·grind
  ·rw[W3 λz=>e (Bs z)];rcases WL.mp f with z|z
   ·exact T.val n z
   ·exact absurd (Wz.mp z) e
open Classical in
def Zem{g:Yi}{P:Int->Int->Prop}(h:∀l∈g,∃v,P l v):∃f:Int->Int,∀l∈g,P l (f l):=
 ⟨λl=>if b:l∈g then Classical.choose (h l b)else 0,λl b=>by
  simp only[dif_pos b];exact Classical.choose_spec (h l b)⟩
def Zk0{r}(R:Ring n (g.map λq=>(q.2,q.1)) r):Ring n g r.reverse:=by
 have l:∀{x y:Int},(x,y)∈(g.map λq=>(q.2,q.1))->(y,x)∈g:=λh=>by
  obtain⟨q,hq,e⟩:=WQ.mp h;cases e
  exact hq
 refine⟨by rw[Jm];exact R.two,List.pairwise_reverse.mpr (R.nodup.imp λh=>Ne.symm h),λx hx=>R.sub x (List.mem_reverse.mp hx),λi x y f b=>?_,λx y f b=>?_⟩
 ·have o:i+1<r.length:=by
   have:=(WI.mp b).1
   rw[Jm]at this;exact this
  rw[VZ (by lia)]at f b;exact l (R.chain (r.length-1-(i+1)) y x b<|by rw[←f];congr 1;lia)
 ·have two:=R.two;rw[VZ (by lia)]at f;rw[Jm,VZ (by lia)]at b;exact l (R.last y x (by rw[←b];congr 1;lia)<|by rw[←f];congr 1)
def Zfi{ws}(g:∀q∈ws,q.1≠q.2)(h:¬ ∃r,Ring l ws r):Hu l ws:=λf o b=>by
 refine Qn λz=>h ?_
 have s:∀x∈f,∃y∈f,(y,x)∈(ws.map λq=>(q.2,q.1)):=λx hx=>by
  grind
 obtain⟨r,R⟩:=Zi5 (λq hq=>by
  obtain⟨p,n,e⟩:=WQ.mp hq;subst e;exact λe=>g p n e.symm) b s
 have F:=Zk0 R;exact⟨_,F.two,F.nodup,λx hx=>o.subset (F.sub x hx),F.chain,F.last⟩
theorem LZ:∀{b:List (List Key×V)},(b.map (·.1)).Nodup->∀p∈b,Xu b p.1=some p.2
 |[],_,p,h=>by cases h
 |q::r,f,p,h=>by
  rw[WN,Qo]at f;rcases WA.mp h with e|h
  ·rw[e];exact Pk rfl
  ·rw[Pg λe=>f.1 (WQ.mpr ⟨p,h,e.symm⟩)];exact LZ f.2 p h
def IW(f:Yh)(c:Int->Int->Int)(S:List (Yi))(vs:Yi):Prop:=vs.length=S.length/\∀(i:Nat) (b:Yi) (v:Int),S[i]?=some b->vs[i]?=some v->P4 f c b v
def Tab.vals {S f} (T:Tab s c S f) (z:S.Nodup):∃vs,f.map (·.2)=vs.map V.int/\IW s c S vs:=by
 have y:(f.map (·.1)).Nodup:=by
  rw[T.keys];exact List.Pairwise.map _ (λa b r e=>r (Bs e)) z
 have x:∀p∈f,∃g∈S,p.1=kT g/\∃v,p.2=.int v/\P4 s c g v:=λp l=>by
  have o:p.1∈f.map (·.1):=WQ.mpr ⟨p,l,rfl⟩;rw[T.keys]at o;obtain⟨g,w,e⟩:=WQ.mp o;obtain⟨v,h,n⟩:=T.val g w;rw[e,LZ y p l]at h;exact⟨g,w,e.symm,v,WD h,n⟩
 have C:f.length=S.length:=by
  have:=Qf List.length T.keys
  rw[Wx,Wx]at this;exact this
 refine⟨f.map λp=>match p.2 with | .int v=>v|_=>0,?_,by rw[Wx,C],λi g v o h=>?_⟩
 ·rw[Qy];refine List.map_congr_left λp l=>?_;obtain⟨g,_,_,v,e,_⟩:=x p l;show p.2=V.int (match p.2 with | .int v=>v|_=>0)
  rw[e]
 ·rw[WB]at h;cases q:f[i]? with
  |none=>rw[q]at h;cases h
  |some p=>
   obtain⟨A,B,E,u,H,L⟩:=x p (WT q);have n:(f.map (·.1))[i]?=some p.1:=by rw[WB,q];rfl
   rw[T.keys,WB,o]at n;have G:=Bs ((WD n).trans E);simp_all
theorem Gh:∀{kvs}{vs:Yi},kvs.map (·.2)=vs.map V.int->Nx kvs=true/\kvs.map (λp=>vD p.2)=vs.map D.int
 |[],[],_=>⟨rfl,rfl⟩
 |p::r,v::vs,h=>by
  rw[WN,WN,Jh]at h;obtain⟨f,b⟩:=Gh h.2;unfold Nx;rw[f,WN,WN,b,h.1];trivial
end M
namespace Pu
open L2 Own
section
variable {K:Yg}{mg:Yk}{E:L2.St->XK}{H0 H H1 H':Hp}{B Z Z':Addr->Prop}{σ:L2.St}{γ:Γ}
def O.from:O->O->Prop
 | .ins x _ _ g,.ins f _ _ b=>f=x/\∀c∈g,∃h∈b,h.1=c.1
 | .lsA x _,.lsA f _=>f=x
 | .nsl x g,.nsl f b=>f=x/\b.map (·.1)=g.map (·.1)
 |_,_=>False
def O.from_adr {o o':O}{a} (h:o.from o'):∀b,o.adr a b->o'.adr a b:=by
 unfold O.from at h
 split at h
 ·intro b g;rcases g with g|⟨c,p,g⟩
  ·exact .inl (g.trans h.1.symm)
  ·obtain⟨r,n,l⟩:=h.2 c p;exact .inr ⟨r,n,g.trans l.symm⟩
 ·intro b g;exact g.trans h.symm
 ·intro b g;rcases g with g|⟨c,p,g⟩
  ·exact .inl (g.trans h.1.symm)
  ·have m:=Vw (f:=(·.1)) p;rw[←h.2]at m;obtain⟨r,n,l⟩:=WQ.mp m;exact .inr ⟨r,n,g.trans l.symm⟩
 ·grind
def O.from_at {a g}{F l H H'} (h:o.from o') (f:OR K F H a o) (b:OR K l H' g o'):g=a:=by
 unfold O.from at h
 split at h
 ·exact b.1.trans (h.1.trans f.1.symm)
 ·exact b.1.trans (h.trans f.1.symm)
 ·exact b.1.trans (h.1.trans f.1.symm)
 ·grind
abbrev Pw:=O->List S->(O->D->Prop)->(O->Str->Prop)->Prop
noncomputable def S.pass:S->Option S
 | .sh d=>some (.sh d) | .own o=>some (.sh o.d)
 | .bor d=>match imm d with|true=>some (.sh d)|false=>some (.bor d)
 | .tmp d=>match imm d with|true=>some (.sh d)|false=>none
 | .view _=>none
def S.flat:S->Prop
 | .sh _=>True | .bor _=>True|_=>False
noncomputable def passes:List S->Option (List S)
 |[]=>some []
 |s::r=>match s.pass,passes r with|some b,some f=>some (b::f)|_,_=>none
structure After (K:Yg) (B:Addr->Prop) (H:Hp) (a:Addr) (o o':O) (H':Hp):Prop where
 same:Same (off (o.adr a) H) H'
 old:∀b,o.adr a b->o'.adr a b
 new:∀b,o'.adr a b->o.adr a b\/H b=none
 at_:OR K (off (λb=>B b\/o'.adr a b) H') H' a o'
noncomputable def spW(mg:Yk)(c:Pw)(K:Yg):Sp:=λl H Q E=>∃(o:O) (a:Addr) (g:List S) (h:List V) (B:Addr->Prop) (R:O->D->Prop) (X:O->Str->Prop),
 l=.ref a::h/\(∀b,B b->Mut (H b)/\¬o.adr a b)/\OR K (off (λb=>B b\/o.adr a b) H) H a o/\TVs K (λb=>B b\/o.adr a b) (off (o.adr a) H) H H g h/\(∀s∈g,s.flat)/\c o g R X/\
 (∀f d v H',R f d->After K B H a o f H'->Rp K (off (λb=>B b\/f.adr a b) H') d v->Q v H')/\∀f e H',X f e->After K B H a o f H'->XE mg E e H'
def TVs.get:∀{b vs}{i:Nat}{s:S},TVs K Z H0 H H' b vs->b[i]?=some s->∃v,vs[i]?=some v/\TV K Z H0 H H' s v:=by
 intro n
 induction n with
 |nil=>
  intro _ i _ h e;simp at e
 |cons _ _ f=>
  intro _ i d h e;cases h with
  |cons h r=>
   cases i with
   |zero=>
    simp at e;subst e;exact⟨_,rfl,h⟩
   |succ i=>
    obtain⟨v,l,g⟩:=f r (by simpa using e);exact⟨v,by simpa using l,g⟩
noncomputable def Ts(N:Yp)(o:O)(b:List S):Γ:=some (.own o)::(b.map some++List.replicate (N.length-(b.length+1)) none)
def Za2{o a f us}(T:∀b,B b->Mut (H b)/\¬o.adr a b)(M:OR K (off (λb=>B b\/o.adr a b) H) H a o)(r:TVs K (λb=>B b\/o.adr a b) (off (o.adr a) H) H H f us)(L:∀s∈f,s.flat)(hn:f.length+1<=N.length) :
  Xm K (off (o.adr a) H) B H (start N (.ref a::us)) (Ts N o f):=by
 have get:∀i s,(Ts N o f)[i+1]?=some (some s)->f[i]?=some s:=λi s h=>by
  unfold Ts at h;rw[VF]at h;by_cases p:i<f.length
  ·rw[Qh (by rw[Wx];exact p),WB,Wy p]at h;rw[Wy p];exact Qf some (WD<|WD h)
  ·rw[Qd (by rw[Wx];lia),VB]at h;split at h<;>cases h
 have noown:∀i g,(Ts N o f)[i+1]?≠some (some<|.own g):=λi g h=>L _ (WT<|get i _ h)
 have n:(start N (V.ref a::us))[0]?=some (some<|.ref a):=by
  unfold L2.start;rfl
 have C:∀b,zof B (Ts N o f) (start N (V.ref a::us)) b->B b\/o.adr a b:=λb z=>by
  rcases z with z|⟨i,g,a',l,u,U⟩
  ·exact .inl z
  ·cases i with
   |zero=>
    cases u
    have:o=g:=by
     cases l
     rfl
    subst this;exact .inr U
   |succ i=>exact absurd l (noown i g)
 refine⟨off_sub,?_,λb h=>(T b h).1,λi j x Y g w b l u _ _ _ _=>?_,λi s h=>?_⟩
 ·unfold L2.start Ts;simp[r.len]
 ·cases i with
  |succ i=>exact absurd l (noown i g)
  |zero=>
   cases j with
   |zero=>rfl
   |succ j=>exact absurd u (noown j w)
 ·cases i with
  |zero=>
   have h:=h;cases h
   refine⟨_,n,a,rfl,λb Q=>?_,M.mono (Xy (Same.refl _) λb _ _ z y=>z (C b y)) λ_ _ _ q=>q⟩;unfold off;rw[W6 Q]
  |succ i=>
   have J:=get i s h;obtain⟨v,G,A⟩:=r.get J;refine⟨v,?_,?_⟩
   ·unfold L2.start;rw[Qh (by rw[Wx,Qq];have:=(WI.mp G).1;lia),WB,VF,G];rfl
   ·have:=L s (WT J)
    cases s with
    |bor d=>exact A
    |sh d=>exact Rp.mono (Xy (Same.refl _) λb _ _ z y=>z (C b y)) A
    |_=>exact this.elim
def EK(o:O)(R:O->D->Prop)(γ:Γ)(d:D):Prop:=∃b,γ[0]?=some (some<|.own b)/\o.from b/\R b d
def MM(o:O)(X:O->Str->Prop)(γ:Γ)(e:Str):Prop:=∃b,γ[0]?=some (some<|.own b)/\o.from b/\X b e
noncomputable def Il(o:O)(R:O->D->Prop)(X:O->Str->Prop):Py:={nx:=λγ=>EK o R γ .non,rt:=λ_=>False,ex:=MM o X,rv:=EK o R}
def Cy{σ'}{γ'}(n:OR K (off (λb=>B b\/o.adr a b) H) H a o)(e:Xm K (off (o.adr a) H) B H' σ' γ')(h:γ'[0]?=some (some<|.own o'))(k:o.from o'):After K B H a o o' H'/\∀b,B b\/o'.adr a b->zof B γ' σ' b:=by
 obtain⟨v,s,f,rfl,r,l⟩:=e.slot 0 _ h;have u:=O.from_at k n l;subst u;have g:∀b,B b\/o'.adr f b->zof B γ' σ' b:=λb z=>z.imp id λz=>⟨0,o',f,h,s,z⟩;refine⟨⟨e.same,O.from_adr k,λb p=>?_,l.mono (Xy (Same.refl _) λb _ _ z y=>z (g b y)) λ_ _ _ q=>q⟩,g⟩
 have:=r b p
 unfold off at this;by_cases q:o.adr f b
 ·exact .inl q
 ·grind
def Zgs{t p vs Q Y n}(h:spW mg c K vs H Q Y)(L:Xr K mg (λ_=>Y) t p)(hn:n+1<=N.length)(M:∀o u R X,c o u R X->u.length=n/\p (Il o R X) (Ts N o u)):t {nx:=λ_ H'=>Q .non H',rt:=Q} (start N vs) H:=by
 obtain⟨o,a,u,us,B,R,X,rfl,U,J,r,hf,hc,T,hX⟩:=h;obtain⟨e,M⟩:=M o u R X hc;refine L _ B H _ _ _ _ (λb z=>?_) (Za2 U J r hf<|by rw[e];exact hn) M ⟨λl s H' C G f1=>?_,λ_ _ _ z=>z.elim,λl s c H' C G f1=>?_,λ_ _ _ z=>z.elim,λ_ _ _ z=>z.elim,λl s d v H' C G f1 rd=>?_⟩
 ·obtain⟨g,f⟩:=U b z;obtain⟨x,hx⟩:=SR g;exact⟨x,XN hx f⟩
 ·obtain⟨A,g,f,w⟩:=C;exact T A .non .non H' w (Cy J G g f).1 .non
 ·obtain⟨A,g,f,w⟩:=C;exact hX A c H' w (Cy J G g f).1
 ·obtain⟨A,g,f,w⟩:=C;obtain⟨k1,k2⟩:=Cy J G g f;exact T A d v H' w k1 (Rp.mono (Xy (Same.refl _) λb _ _ z y=>z (k2 b y)) rd)
def RE(h:spW mg c K vs H Q p)(f:∀o b R X,c o b R X->b.length=n):vs.length=n+1:=by
 obtain⟨o,a,b,l,B,R,X,rfl,_,_,r,_,g,_⟩:=h;rw[Qq,r.len,f o b R X g]
abbrev PTW:=Γ->(Γ->D->Prop)->(Γ->Str->Prop)->Prop
def KG(K:Yg)(mg:Yk)(E:L2.St->XK)(t:TE)(p:PTW):Prop:=∀(H0:Hp) (B:Addr->Prop) (H:Hp) (σ:L2.St) (γ:Γ) (R:Γ->D->Prop) (X:Γ->Str->Prop) (Q:VK),(∀b,B b->∃o,H0 b=some o)->Xm K H0 B H σ γ->p γ R X->
 (∀f d v H',R f d->Xm K H0 B H' σ f->Fr B H σ γ H' σ f->Rp K (off (zof B f σ) H') d v->Q v H')->(∀f c H',X f c->Xm K H0 B H' σ f->Fr B H σ γ H' σ f->XE mg (E σ) c H')->t σ H Q
variable {te:TE}{w:PTW}
noncomputable def OE(w:PTW)(g:PTG):PTS:=λR γ=>w γ (λb d=>g (.sh d) b R.nx) R.ex
def BW(hw:KG K mg E te w)(r:TC K L g p):Xr K mg E (SE te g) (OE w p):=by
 intro H0 B H σ γ R D u n h e;refine hw H0 B H σ γ _ _ _ u n h (λb d v H1 y G f1 o=>?_) λb c H' s J A=>e.ex σ b c H' s J A;exact r H0 B H1 H1 σ b (.sh d) v _ _ G (Same.refl _) o y λf l x C z _=>e.nx f l H1 x C (f1.trans z)
noncomputable def Zcd(w:PTW):PTS:=λR γ=>w γ (λb _=>R.nx b) R.ex
def Nt(hw:KG K mg E te w):Xr K mg E (BG te) (Zcd w):=by
 intro H0 B H σ γ R D l f h e;exact hw H0 B H σ γ _ _ _ l f h (λb d v H1 n p f1 _=>e.nx σ b H1 n p f1) λb c H' g r o=>e.ex σ b c H' g r o
noncomputable def Zfa(w:PTW):PTS:=λR γ=>w γ R.rv R.ex
def Kx(hw:KG K mg E te w):Xr K mg E (NZ te) (Zfa w):=by
 intro H0 B H σ γ R D n f h e;exact hw H0 B H σ γ _ _ _ n f h (λb d v H1 o r f1 g=>e.rv σ b d v H1 o r f1 g) λb c H' l s p=>e.ex σ b c H' l s p
noncomputable def Zcq(a:PTE):PTS:=λR γ=>a γ (λs=>match s.shd with|some d=>R.rv γ d|none=>False) (R.ex γ)
def Kc(p:Xf K mg E te a):Xr K mg E (NZ te) (Zcq a):=by
 intro H0 B H σ γ R D u b h e;refine p H0 B H σ γ _ _ _ b h (λs v H1 g f n=>?_) λc H' o l=>e.ex σ γ c H' o (b.grow l) (Fr.grow l);split at g
 ·rename_i d r;exact e.rv σ γ d v H1 g (b.grow f) (Fr.grow f) (n.shd (b.grow f).same b.zm f r)
 ·grind
def Zbh{s b:S}(h:s.pass=some b):b.flat:=by
 cases s with
 |bor d=>unfold S.pass at h;cases q:imm d<;>simp[q]at h<;>subst h<;>trivial
 |tmp d=>
  unfold S.pass at h;cases q:imm d<;>simp[q]at h
  subst h;trivial
 |view o=>cases h
 |_=>cases h;trivial
theorem Dl:∀{f b:List S},passes f=some b->∀s∈b,s.flat
 |[],_,h=>by cases h;simp
 |s::r,_,h=>by
  unfold passes at h;split at h
  ·rename_i n o l g;cases h
   intro x hx;rcases WA.mp hx with rfl|hx
   ·exact Zbh l
   ·exact Dl g x hx
  ·grind
def TV.pass {v P W f} (r:Same H0 H') (n:∀b,Z b->Mut (H b)) (x:Same H H') (p:Same H0 (off P f)) (l:Same (off Z H') (off W f)) (h:TV K Z H0 H H' s v) (e:s.pass=some g):TV K W (off P f) f f g v:=by
 have shd:∀d,s.shd=some d->Rp K (off W f) d v:=λd u=>Rp.mono l (h.shd r n x u);cases s with
 |view o=>cases e
 |tmp d=>
  unfold S.pass at e;cases q:imm d with
  |false=>simp_all
  |true=>simp[q]at e;subst e;exact shd d (by unfold S.shd;simp[q])
 |bor d=>
  unfold S.pass at e;cases q:imm d with
  |false=>simp[q]at e;subst e;exact Rp.mono p h
  |true=>simp[q]at e;subst e;exact shd d (by unfold S.shd;simp[q])
 |_=>cases e;exact shd _ rfl
theorem TVs.pass {HB} (p:Same H0 H') (n:∀b,Z b->Mut (H b)) (s:Same H H') (o:Same H0 (off P HB)) (l:Same (off Z H') (off W HB)):∀{g f}{vs:List V},TVs K Z H0 H H' g vs->passes g=some f->TVs K W (off P HB) HB HB f vs
 |_,_,_,.nil,e=>by cases e;exact .nil
 |_,_,_,.cons h r,e=>by
  unfold passes at e;split at e
  ·rename_i x y v u;cases e
   exact .cons (h.pass p n s o l v) (TVs.pass p n s o l r u)
  ·grind
def BK{c:Pw}{i:Nat}{o:O}{a:Addr}{ss l:List S}{us:List V}{R:Γ->D->Prop}{X:Γ->Str->Prop}{Q:VK}{Ec:XK}(env:Xm K H0 B H σ γ)(hB:∀b,B b->∃o,H0 b=some o)(U:Same H H1)(L:γ[i]?=some (some<|.own o))(G:σ[i]?=some (some<|.ref a))(t1:TVs K (zof B γ σ) H0 H H1 ss us)(hp:passes ss=some l)(hc:c o l (λo' d=>R (γ.set i<|some<|.own o') d) (λo' e=>X (γ.set i<|some<|.own o') e))(q:∀f d v H',R f d->Xm K H0 B H' σ f->Fr B H σ γ H' σ f->Rp K (off (zof B f σ) H') d v->Q v H')(qx:∀f c H',X f c->Xm K H0 B H' σ f->Fr B H σ γ H' σ f->XE mg Ec c H'):spW mg c K (.ref a::us) H1 Q Ec:=by
 have g:=env.grow U;obtain⟨v,h1,T,ev,h3,h4⟩:=g.slot i _ L;rw[G]at h1;cases h1
 cases ev
 have Y:∀b,o.adr a b->zof B γ σ b:=λb p=>.inr ⟨i,o,a,L,G,p⟩
 have J:∀o' H',After K (λb=>zof B γ σ b/\¬o.adr a b) H1 a o o' H'->Xm K H0 B H' σ (γ.set i<|some<|.own o')/\Fr B H σ γ H' σ (γ.set i<|some<|.own o')/\∀b x,H' b=some x->¬((zof B γ σ b/\¬o.adr a b)\/o'.adr a b)->¬zof B (γ.set i<|some<|.own o') σ b:=λo' H' A=>by
  have C:∀b x,H' b=some x->¬((zof B γ σ b/\¬o.adr a b)\/o'.adr a b)->¬zof B (γ.set i<|some<|.own o') σ b:=λb x _ n z=>by
   rcases z with z|⟨j,fs,T,e1,M,N⟩
   ·refine n (.inl ⟨.inl z,λw=>?_⟩);obtain⟨u,hu⟩:=hB b z;rw[h3 b w]at hu;cases hu
   ·rcases XS e1 with⟨ej,q,_⟩|⟨nj,q⟩
    ·subst ej;cases q
     rw[G]at M;cases M
     exact n (.inr N)
    ·exact n (.inl ⟨.inr ⟨j,fs,T,q,M,N⟩,λw=>nj (env.own j i T a fs o b q L M G N w)⟩)
  obtain⟨s,r⟩:=g.change (o':=o') (H':=H') L G (λb x hx n=>A.same b x (XN hx n)) (λb p=>A.at_.mut b (A.old b p)) A.new (A.at_.mono (Xy (Same.refl _) λb x hx z=>C b x hx z) λ_ _ _ q=>q);exact⟨s,(Fr.grow U).trans r,C⟩
 refine⟨o,a,l,us,λb=>zof B γ σ b/\¬o.adr a b,_,_,rfl,λb p=>⟨g.zm b p.1,p.2⟩,h4.mono (Xy (Same.refl _) λb _ _ z y=>z (y.elim (λy=>y.1)<|Y b)) λ_ _ _ q=>q,?_,Dl hp,hc,λo' d v H' hR A rd=>?_,λo' e H' hX A=>?_⟩
 ·refine t1.pass g.same env.zm U (λb x hx=>XN (g.same b x hx) λw=>?_) (Xy (Same.refl _) λb _ _ z y=>z (y.elim (λy=>y.1)<|Y b)) hp;rw[h3 b w]at hx;cases hx
 ·obtain⟨s,r,k3⟩:=J o' H' A;exact q _ d v H' hR s r (Rp.mono (λb x h=>let ⟨p1,p2⟩:=P0 h;XN p1 (k3 b x p1 p2)) rd)
 ·obtain⟨s,r,_⟩:=J o' H' A;exact qx _ e H' hX s r
noncomputable def Bv(i:Nat)(c:Pw)(r:PTA):PTW:=λγ R X=>match γ[i]? with
 |some (some<|.own o)=>r γ (λg=>match passes g with|some b=>c o b (λf d=>R (γ.set i<|some<|.own f) d) (λf e=>X (γ.set i<|some<|.own f) e)|none=>False) (X γ)
 |_=>False
def LI(i:Nat){c g r}(A:X0 K mg E g r){f:L2.St->XK}(G:∀σ,f σ=E σ):KG K mg E (λσ H Q=>XH (Kw i) g σ H λvs H1=>spW mg c K (vs++[]) H1 Q (f σ)) (Bv i c r):=by
 intro H0 B H σ γ R X Q J b h q l;unfold Bv at h;split at h
 ·rename_i o p;obtain⟨v,n,a,rfl,_,_⟩:=b.slot i _ p;refine⟨_,n,A H0 B H σ γ _ _ _ b h (λN x H1 s M y=>?_) λc H' C u=>l γ c H' C (b.grow u) (Fr.grow u)⟩;show spW mg c K ((V.ref a::x)++[]) H1 Q (f σ);rw[Qg,G];split at s
  ·rename_i z L;exact BK b J M p n y L s q l
  ·grind
 ·grind
def IF(i:Nat){c b r}(f:X0 K mg E b r):KG K mg E (ExcR.LD (spW mg c K) E<|XH (Kw i) b) (Bv i c r):=LI i f λ_=>rfl
def OM(i:Nat){c f r b}(g:X0 K mg (λ_=>b) f r):KG K mg (λ_=>b) (Tz (spW mg c K) [] b<|XH (Kw i) f) (Bv i c r):=LI i g λ_=>rfl
noncomputable def Me(i:Nat)(c:Pw)(r:PTA):PTW:=λγ R X=>match γ[i]? with
 |some (some<|.own o)=>r γ (λf=>match passes f with|some b=>c o b (λg d=>R (γ.set i<|some<|.own g) d) (λ_ _=>False)|none=>False) (X γ)
 |_=>False
def Tn(i:Nat){c f r}(A:X0 K mg E f r):KG K mg E (Tz (spW mg c K) [] E0<|XH (Kw i) f) (Me i c r):=by
 intro H0 B H σ γ R X Q G b h q y;unfold Me at h;split at h
 ·rename_i o l;obtain⟨v,g,a,rfl,_,_⟩:=b.slot i _ l;refine⟨_,g,A H0 B H σ γ _ _ _ b h (λM s H1 n L u=>?_) λc H' C p=>y γ c H' C (b.grow p) (Fr.grow p)⟩;show spW mg c K ((V.ref a::s)++[]) H1 Q E0;rw[Qg];split at n
  ·rename_i x J;exact BK (X:=λ_ _=>False) b G L l g u J n q λ_ _ _ z=>z.elim
  ·grind
 ·grind
def HL(C:Addr)(xs:Yp)(j:Nat):S->(S->Prop)->Prop
 | .view (.ins _ f b h),R=>f=C/\b=xs/\∃c,h[j]?=some c/\R (.view<|.lst c.2)
 | .bor (.ins f b g),R=>f=C/\b=xs/\∃d,g[j]?=some d/\R (arg d)
 |_,_=>False
noncomputable def Zd4(C:Addr)(xs:Yp)(j:Nat)(a:PTE):PTE:=λγ R X=>a γ (λs=>HL C xs j s R) X
def Rp.ins_inv (h:Rp K H (.ins C xs ds) v):∃a b vs,v=.ref a/\H a=some (.ins C b<|xs.zip vs)/\xs.length=vs.length/\Rps K H ds vs:=by
 cases h with
 |ins h e r=>grind
def FldAt(f:Str)(xs:Yp)(j:Nat):Prop:=∀b:List V,xs.length=b.length->(xs.zip b).lookup f=b[j]?
def PB(j:Nat){a}(L:Cls K C)(G:NoAttr K C f)(J:FldAt f xs j)(ha:Xf K mg E te a):Xf K mg E (Bk K te f) (Zd4 C xs j a):=by
 intro H0 B H σ γ R X Q l p q qx;refine ha H0 B H σ γ _ X _ l p (λs v H1 h z A=>?_) qx;have g:=l.grow z;unfold HL at h;split at h
 ·rename_i x C' n cs;obtain⟨rfl,rfl,c,M,o⟩:=h;obtain⟨b,rfl,T,N,⟨y,r⟩,e4,e5⟩:=A;obtain⟨U,u1,Y⟩:=e4 c (WT M);refine⟨b,_,y,_,_,rfl,r,L,G,?_,q _ _ H1 o z ⟨c.1,rfl,U,u1,Y⟩⟩;rw[J _ (by grind),WB,M];rfl
 ·rename_i C' n ds;obtain⟨rfl,rfl,d,ed,o⟩:=h;obtain⟨b,y,vs,rfl,T,N,r⟩:=Rp.ins_inv A;obtain⟨u,hu,ru⟩:=r.get ed;refine⟨b,_,y,_,u,rfl,g.same _ _ T,L,G,by rw[J _ N];exact hu,q _ _ H1 o z (NA g.zm g.same ru)⟩
 ·exact h.elim
noncomputable def Gu(C:Addr)(xs:Yp)(c:Pc)(a:PTE)(r:PTA):PTE:=λγ R X=>a γ (λs=>match s.d with
 | .ins f b h=>f=C/\b=xs/\r γ (λg=>c (.ins f b h::g.map S.d) (λs=>R s.back) X) X
 |_=>False) X
def NoFld(m:Str)(xs:Yp):Prop:=∀b:List V,(xs.zip b).lookup m=none
noncomputable def GO(C:Addr)(m:Str)(sp:Sp)(E:L2.St->XK)(f:TE)(t:TA):TE:=λσ H Q=>f σ H λx H1=>∃a g fs,x=.ref a/\H1 a=some (.ins C g fs)/\fs.lookup m=none/\t σ H1 λb h=>sp (x::(b++[])) h Q (E σ)
def Zit{m xs c z a r}(hx:NoFld m xs)(ha:Xf K mg E te a)(T:X0 K mg E z r):Xf K mg E (GO C m (Xp mg c K) E te z) (Gu C xs c a r):=by
 intro H0 B H σ γ R X Q h p q y;refine ha H0 B H σ γ _ X _ h p (λs v H1 o n M=>?_) y;have f:=h.grow n;split at o
 ·rename_i C' A ds ed;obtain⟨rfl,rfl,o⟩:=o;have x:=M.rp f.same;rw[ed]at x;obtain⟨b,dx,G,rfl,e1,e2,e3⟩:=Rp.ins_inv x;refine⟨b,dx,_,rfl,e1,hx G,T H0 B H1 σ γ _ X _ f o (λss us H2 h2 l L=>?_) λc H' Y S'=>y c H' Y (n.trans S')⟩;have g:=f.grow l;rw[Qg];refine⟨_,_,X,Rps.cons (Rp.mono l x) (L.rps g.same),h2,λs v H' N u J=>q _ _ H' N ((n.trans l).trans u) (J.back g (n.trans l) u),λe H' U u=>y e H' U ((n.trans l).trans u)⟩
 ·grind
def N7{m xs c f a r b}(hx:NoFld m xs)(h:Xf K mg (λ_=>b) te a)(g:X0 K mg (λ_=>b) f r):Xf K mg (λ_=>b) (Tv C m (Xp mg c K) [] b te f) (Gu C xs c a r):=Zit hx h g
noncomputable def O6(C:Addr)(xs:Yp)(c:Pc)(a:PTE)(r:PTA):PTE:=λγ R X=>a γ (λs=>match s.d with
 | .ins f b h=>f=C/\b=xs/\r γ (λg=>c (.ins f b h::g.map S.d) (λs=>R s.back) λ_=>False) X
 |_=>False) X
def Kj{m xs c x a r}(hx:NoFld m xs)(ha:Xf K mg E te a)(U:X0 K mg E x r):Xf K mg E (Tv C m (Xp mg c K) [] E0 te x) (O6 C xs c a r):=by
 intro H0 B H σ γ R X Q h p q y;refine ha H0 B H σ γ _ X _ h p (λs v H1 l o N=>?_) y;have f:=h.grow o;split at l
 ·rename_i C' G ds ed;obtain⟨rfl,rfl,l⟩:=l;have u:=N.rp f.same;rw[ed]at u;obtain⟨b,dx,J,rfl,e1,e2,e3⟩:=Rp.ins_inv u;refine⟨b,dx,_,rfl,e1,hx J,U H0 B H1 σ γ _ X _ f l (λss us H2 h2 n M=>?_) λc H' Y S'=>y c H' Y (o.trans S')⟩;have g:=f.grow n;rw[Qg];exact⟨_,_,_,Rps.cons (Rp.mono n u) (M.rps g.same),h2,λs v H' T A L=>q _ _ H' T ((o.trans n).trans A) (L.back g (o.trans n) A),λ_ _ z=>z.elim⟩
 ·grind
noncomputable def De(i:Nat)(C:Addr)(xs:Yp)(c:Pw)(r:PTA):PTW:=λγ R X=>match γ[i]? with
 |some (some<|.own<|.ins x h b n)=>h=C/\b=xs/\r γ (λl=>match passes l with|some f=>c (.ins x h b n) f (λg d=>R (γ.set i<|some<|.own g) d) (λg e=>X (γ.set i<|some<|.own g) e)|none=>False) (X γ)
 |_=>False
def Zca(i:Nat){C m xs c f r}(hx:NoFld m xs)(z:X0 K mg E f r):KG K mg E (GO C m (spW mg c K) E (Kw i) f) (De i C xs c r):=by
 intro H0 B H σ γ R X Q G b h q g;unfold De at h;split at h
 ·rename_i x C' s cs n;obtain⟨rfl,rfl,h⟩:=h;obtain⟨v,l,a,rfl,_,e1,e2,⟨M,L⟩,Y⟩:=b.slot i _ n;refine⟨_,l,a,M,_,rfl,L,hx _,z H0 B H σ γ _ _ _ b h (λU T H1 o N u=>?_) λc H' A p=>g γ c H' A (b.grow p) (Fr.grow p)⟩;rw[Qg];split at o
  ·rename_i y J;exact BK b G N n l u J o q g
  ·grind
 ·grind
def P3(i:Nat){C m xs c f r b}(hx:NoFld m xs)(g:X0 K mg (λ_=>b) f r):KG K mg (λ_=>b) (Tv C m (spW mg c K) [] b (Kw i) f) (De i C xs c r):=Zca i hx g
noncomputable def Mr(i:Nat)(C:Addr)(xs:Yp)(c:Pw)(r:PTA):PTW:=λγ R X=>match γ[i]? with
 |some (some<|.own<|.ins x g b n)=>g=C/\b=xs/\r γ (λh=>match passes h with|some f=>c (.ins x g b n) f (λl d=>R (γ.set i<|some<|.own l) d) (λ_ _=>False)|none=>False) (X γ)
 |_=>False
def NO(i:Nat){C m xs c f r}(hx:NoFld m xs)(A:X0 K mg E f r):KG K mg E (Tv C m (spW mg c K) [] E0 (Kw i) f) (Mr i C xs c r):=by
 intro H0 B H σ γ R X Q J b h q y;unfold Mr at h;split at h
 ·rename_i x C' p cs l;obtain⟨rfl,rfl,h⟩:=h;obtain⟨v,g,a,rfl,_,e1,e2,⟨N,M⟩,e4⟩:=b.slot i _ l;refine⟨_,g,a,N,_,rfl,M,hx _,A H0 B H σ γ _ _ _ b h (λY U H1 n T s=>?_) λc H' G o=>y γ c H' G (b.grow o) (Fr.grow o)⟩;rw[Qg];split at n
  ·rename_i u L;exact BK (X:=λ_ _=>False) b J T l g s L n q λ_ _ _ z=>z.elim
  ·grind
 ·grind
theorem Gp{f:Type}:∀{l:List f}{i j:Nat}{x:f},l.Nodup->l[i]?=some x->l[j]?=some x->i=j
 |[],_,_,_,_,h,_=>by simp at h
 |y::r,0,0,_,_,_,_=>rfl
 |y::r,0,j+1,x,b,n,g|y::r,i+1,0,x,b,n,g=>by
  grind
 |y::r,i+1,j+1,x,b,n,g=>Qf (· + 1) (Gp (Qo.mp b).2 (by trivial)<|by grind)
def Xm.cell {f b ds es us} (env:Xm K H0 B H σ γ) (L:γ[i]?=some (some<|.own<|.ins x C xs f)) (s:f[j]?=some (b,ds)) (r:Rps K (off (zof B γ σ) H) es us) :
  Xm K H0 B (upd H b<|.lst us) σ (γ.set i<|some<|.own<|.ins x C xs<|f.set j (b,es))/\Fr B H σ γ (upd H b<|.lst us) σ (γ.set i<|some<|.own<|.ins x C xs<|f.set j (b,es)):=by
 obtain⟨v,Y,a,rfl,e0,e1,e2,⟨dx,e3⟩,e4,e5⟩:=env.slot i _ L;subst e1;have l:=WT s
 have M:a≠b:=λz=>by
  obtain⟨T,o,_⟩:=e4 _ l;rw[←show a=b from z,e3]at o
  cases o
 have em:(f.set j (b,es)).map (·.1)=f.map (·.1):=by
  apply Jy;intro k;rw[WB,WB,List.getElem?_set];by_cases e:j=k
  ·subst e;rw[W6 rfl,W6 ((WI.mp s).1),s];rfl
  ·rw[W3 e]
 have N:(f.set j (b,es)).map (λc=>V.ref c.1)=f.map λc=>V.ref c.1:=by
  have:=Qf (List.map V.ref) em
  rw[Qy,Qy]at this;exact this
 have adr:∀c,(O.ins a C xs<|f.set j (b,es)).adr a c->(O.ins a C xs f).adr a c:=λc g=>by
  rcases g with g|⟨d,hd,g⟩
  ·exact .inl g
  ·have:d.1∈(f.set j (b,es)).map (·.1):=Vw hd
   rw[em]at this;obtain⟨d',A,p⟩:=WQ.mp this;exact .inr ⟨d',A,g.trans p.symm⟩
 have y:∀c,(O.ins a C xs f).adr a c->zof B γ σ c:=λc g=>.inr ⟨i,_,a,L,Y,g⟩
 have So:Same (off (zof B γ σ) H) (off (zof B (γ.set i<|some<|.own<|.ins a C xs<|f.set j (b,es)) σ)<|upd H b<|.lst us):=λc u h=>by
  obtain⟨A,p⟩:=P0 h;have G:=λz=>p (y c<|.inr ⟨_,l,z⟩);refine XN (by rw[Xl G];exact A) λz=>p ?_;rcases z with z|⟨k,fs,a',k1,k2,U⟩
  ·exact .inl z
  ·rcases XS k1 with⟨Q,q,_⟩|⟨_,q⟩
   ·subst Q;cases q
    exact y c (adr c U)
   ·exact .inr ⟨k,fs,a',q,k2,U⟩
 refine env.change L Y (λc u hu n=>?_) (λc g=>?_) (λc g=>.inl (adr c g)) ⟨rfl,by rw[Q2];exact e2,⟨dx,?_⟩,λc g=>?_,by rw[em];exact e5⟩
 ·rw[Xl λz=>n (.inr ⟨_,l,z⟩)];exact hu
 ·by_cases z:c=b
  ·rw[z,Xw];trivial
  ·rw[Xl z];exact env.zm c (y c g)
 ·rw[Xl M,N];exact e3
 ·obtain⟨k,hk,Q⟩:=List.getElem_of_mem g;have J:(f.set j (b,es))[k]?=some c:=by rw[Wy hk,Q]
  rcases XS J with⟨_,q,_⟩|⟨nk,q⟩
  ·subst q;exact⟨us,Xw,Rps.mono So r⟩
  ·obtain⟨T,o,w2⟩:=e4 c (WT q)
   have G:=λz=>nk (by
    have h1:(f.map (·.1))[k]?=some b:=by rw[WB,q];exact Qf some z
    have h2:(f.map (·.1))[j]?=some b:=by rw[WB,s];rfl
    exact Gp e5 h1 h2)
   exact⟨T,by rw[Xl G];exact o,Rps.mono So w2⟩
noncomputable def LX(i j:Nat)(C:Addr)(xs:Yp)(a:PTE):PTW:=λγ R X=>match γ[i]? with
 |some (some<|.own<|.ins x g b f)=>g=C/\b=xs/\∃c,f[j]?=some c/\a γ (λs=>match s.shd with
  |some d=>c.2.length<10000000/\R (γ.set i<|some<|.own<|.ins x g b<|f.set j (c.1,c.2++[d])) .non
  |none=>False) (X γ)
 |_=>False
def AO(i j:Nat){C f xs a}(p:Cls K C)(hn:NoAttr K C f)(hj:FldAt f xs j)(ha:Xf K mg E te a):KG K mg E (tBM K "list" AL (Bk K (Kw i) f)<|XH te Kt) (LX i j C xs a):=by
 intro H0 B H σ γ R X Q hB g h q T;unfold LX at h;split at h
 ·rename_i x C' M cs J;obtain⟨rfl,rfl,c,r,h⟩:=h;obtain⟨v,hv,b,rfl,_,e1,e2,⟨dx,e3⟩,e4,e5⟩:=g.slot i _ J;obtain⟨y,G,A⟩:=e4 c (WT r);refine⟨_,hv,b,_,dx,_,V.ref c.1,rfl,e3,p,hn,?_,.inl ⟨rfl,y,SqL.of G⟩,ha H0 B H σ γ _ _ _ g h (λs u H1 o n N=>?_) λc H' p L=>T γ c H' p (g.grow L) (Fr.grow L)⟩
  ·rw[hj _ (by grind),WB,r];rfl
  ·have l:=g.grow n;split at o
   ·rename_i d ed;refine⟨c.1,y,u,rfl,rfl,n _ _ G,by rw[A.len];exact Vj o.1 (by decide),?_⟩;obtain⟨Y,U⟩:=l.cell J r (Rps.append (Rps.mono (Xy n λ_ _ _ z=>z) A)<|.cons (N.shd l.same g.zm n ed) .nil);exact q _ _ _ _ o.2 Y ((Fr.grow n).trans U) .non
   ·exact o.elim
 ·exact h.elim
noncomputable def IV(i j:Nat)(C:Addr)(xs:Yp):PTW:=λγ R _=>match γ[i]? with
 |some (some<|.own<|.ins x g b f)=>g=C/\b=xs/\∃c d,f[j]?=some c/\c.2[c.2.length-1]?=some d/\R (γ.set i<|some<|.own<|.ins x g b<|f.set j (c.1,c.2.dropLast)) d
 |_=>False
def Rps.dropLast:∀{ds}{vs:List V},Rps K H ds vs->Rps K H ds.dropLast vs.dropLast:=by
 intro ds
 induction ds with
 |nil=>
  intro _ h;cases h
  exact .nil
 |cons _ _ b=>
  intro _ h;cases h with
  |cons h r=>
   cases r with
   |nil=>exact .nil
   |cons c e=>exact .cons h (b<|.cons c e)
def AX(i j:Nat){C f xs}(N:Cls K C)(L:NoAttr K C f)(M:FldAt f xs j):KG K mg E (Fl K "list" Ep<|Bk K (Kw i) f) (IV i j C xs):=by
 intro H0 B H σ γ R X Q hB g h q qx;unfold IV at h;split at h
 ·rename_i x C' y cs s;obtain⟨rfl,rfl,c,d,n,T,h⟩:=h;obtain⟨v,G,b,rfl,_,e1,e2,⟨dx,Y⟩,U,e5⟩:=g.slot i _ s;obtain⟨o,p,l⟩:=U c (WT n);obtain⟨u,J,z⟩:=l.get T;refine⟨_,G,b,_,dx,_,V.ref c.1,rfl,Y,N,L,?_,.inl ⟨rfl,o,SqL.of p⟩,c.1,o,u,rfl,rfl,p,by rw[l.len];exact J,?_⟩
  ·rw[M _ (by grind),WB,n];rfl
  ·obtain⟨A,r⟩:=g.cell s n (Rps.dropLast l);exact q _ _ _ _ h A r (Rp.mono r.off z)
 ·grind
def PutAt(f:Str)(xs:Yp):Prop:=∀(b:List V) (y:V),xs.length=b.length->Ku f y (xs.zip b)=(xs++[f]).zip (b++[y])
noncomputable def RA(i:Nat)(C:Addr)(f:Str)(xs:Yp)(a:PTE):PTS:=λR γ=>a γ (λs=>match s with
 | .own (.lst l)=>(match γ[i]? with
  |some (some<|.own<|.ins x h g n)=>h=C/\g=xs/\xs.length<1000/\∀b,R.nx (γ.set i<|some<|.own<|.ins x h (xs++[f]) (n++[(b,l)]))
  |_=>False)
 |_=>False) (R.ex γ)
def FO(i:Nat){C f xs a}(g:Cls K C)(hn:NoAttr K C f)(hp:PutAt f xs)(ha:Xf K mg E te a):Xr K mg E (HZ K (Kw i) te f) (RA i C f xs a):=by
 intro H0 B H σ γ R D hB p h e;refine ha H0 B H σ γ _ _ _ p h (λs v H1 G Q t1=>?_) λc H' g S'=>e.ex σ γ c H' g (p.grow S') (Fr.grow S');split at G
 ·rename_i ds;split at G
  ·rename_i x M o r hi;obtain⟨rfl,rfl,hl,G⟩:=G;obtain⟨u,hv,b,rfl,e0,e1,e2,⟨dx,e3⟩,e4,e5⟩:=p.slot i _ hi;subst e1;obtain⟨l,rfl,L,vs,l1,l2⟩:=t1;have L:=L l rfl;refine⟨_,hv,b,_,dx,_,rfl,Q _ _ e3,g,hn,?_,?_⟩
   ·rw[List.length_zip,Wx];lia
   ·rw[hp _ _ (by rw[Wx];exact e2)]
    have nl:∀c∈r,c.1≠l:=λc g=>by
     obtain⟨ws,J,_⟩:=e4 c g;exact Kf J L
    have nb:∀c∈r,c.1≠b:=λc g z=>by
     obtain⟨ws,J,_⟩:=e4 c g;rw[z,e3]at J;cases J
    have T:∀c,(O.ins b M o r).adr b c->zof B γ σ c:=λc g=>.inr ⟨i,_,b,hi,hv,g⟩
    have key:∀c u,H1 c=some u->¬(zof B γ σ c\/c=l)->¬zof B (γ.set i<|some<|.own<|.ins b M (o++[f]) (r++[(l,ds)])) σ c:=λc u _ n z=>by
     rcases z with z|⟨k,fs,a',k1,N,A⟩
     ·exact n (.inl<|.inl z)
     ·rcases XS k1 with⟨ek,q,_⟩|⟨_,q⟩
      ·subst ek;cases q
       rw[hv]at N;cases N
       rcases A with A|⟨d,hd,A⟩
       ·exact n (.inl<|T c<|.inl A)
       ·rcases WL.mp hd with hd|hd
        ·exact n (.inl<|T c<|.inr ⟨d,hd,A⟩)
        ·rw[Wz]at hd;subst hd;exact n (.inr A)
      ·exact n (.inl<|.inr ⟨k,fs,a',q,N,A⟩)
    have So:Same (off (λc=>zof B γ σ c\/c=l) H1) (off (zof B (γ.set i<|some<|.own<|.ins b M (o++[f]) (r++[(l,ds)])) σ)<|upd H1 b<|.ins M dx ((o++[f]).zip ((r.map λc=>V.ref c.1)++[.ref l]))):=λc u h=>by
     obtain⟨Y,U⟩:=P0 h;exact XN (by rw[Xl λz=>U (.inl<|T c<|.inl z)];exact Y) (key c u Y U)
    have S0:Same (off (zof B γ σ) H) (off (λc=>zof B γ σ c\/c=l) H1):=Xy Q λc u g z y=>y.elim z λy=>by rw[y,L]at g;cases g
    obtain⟨k1,N⟩:=p.change (o':=.ins b M (o++[f]) (r++[(l,ds)])) (H':=upd H1 b (.ins M dx ((o++[f]).zip ((r.map λc=>V.ref c.1)++[.ref l])))) hi hv
     (λc u hu n=>by rw[Xl λz=>n (.inl z)];exact Q _ _ hu)
     (λc g=>by
      by_cases z:c=b
      ·rw[z,Xw];trivial
      ·rw[Xl z];exact(p.grow Q).zm c (T c g))
     (λc g=>by
      rcases g with g|⟨d,hd,g⟩
      ·exact .inl (.inl g)
      ·rcases WL.mp hd with hd|hd
       ·exact .inl (.inr ⟨d,hd,g⟩)
       ·rw[Wz]at hd;subst hd;exact .inr (by rw[show c=l from g];exact L))
     ⟨rfl,by rw[WE,WE,e2];rfl,⟨dx,by rw[Xw,WU];rfl⟩,λc g=>by
      rcases WL.mp g with g|g
      ·obtain⟨ws,J,w2⟩:=e4 c g;exact⟨ws,by rw[Xl (nb c g)];exact Q _ _ J,Rps.mono So (Rps.mono S0 w2)⟩
      ·rw[Wz]at g;subst g;exact⟨vs,by rw[Xl (λz=>(Kf e3 L) z.symm)];exact l1,Rps.mono So l2⟩,by
      rw[WU,QY]
      exact⟨e5,by simp,λc g d hd z=>by
       obtain⟨c',Y,U⟩:=WQ.mp g
       have:d=l:=by simpa using hd
       exact nl c' Y (U.trans<|z.trans this)⟩⟩
    exact e.nx _ _ _ (G l) k1 N
  ·exact G.elim
 ·exact G.elim
def Zlk{c}{M l}{us}{R:S->Prop}{X:XR}{Q:VK}{Ec}(env:Xm K H0 B H σ γ)(p:Same H H1)(T:TVs K (zof B γ σ) H0 H H1 M us)(N:passes M=some l)(h1:∀x,c (.ins x C [] []) l (λo' d=>d=.non/\R (.own o')) (λ_ e=>X e))(q:∀s v H',R s->Same H H'->TV K (zof B γ σ) H0 H H' s v->Q v H')(Y:∀c H',X c->Same H H'->XE mg Ec c H') :
  ∀x h,H1 x=none->H1 h=none->h≠x->spW mg c K (.ref x::us) (upd (upd H1 h<|.own x) x<|.ins C h []) (λv H2=>v=.non/\Q (.ref x) H2) Ec:=by
 have f:=env.grow p;intro x h n J nex
 have u:Same H1 (upd (upd H1 h<|.own x) x<|.ins C h []):=λb o e=>by
  rwa[Xl (Kf e n),Xl (Kf e J)]
 have r:∀o' H',After K (zof B γ σ) (upd (upd H1 h<|.own x) x<|.ins C h []) x (.ins x C [] []) o' H'->Same H1 H'/\∀b,o'.adr x b->H b=none:=λo' H' A=>by
  refine⟨λb o e=>A.same b o (XN (u b o e) λz=>?_),λb G=>?_⟩
  ·rcases z with z|⟨c,g,_⟩
   ·rw[z,n]at e;cases e
   ·cases g
  ·rcases A.new b G with(z|⟨c,g,_⟩)|z
   ·rw[z];exact p.free n
   ·cases g
   ·exact p.free (u.free z)
 refine⟨.ins x C [] [],x,l,us,zof B γ σ,_,_,rfl,λb G=>⟨Po u (f.zm b G),λz=>?_⟩,⟨rfl,rfl,⟨h,Xw⟩,(λc g=>by cases g),Vk⟩,?_,Dl N,h1 x,λo' d v H' L A U=>?_,λo' e H' hX A=>?_⟩
 ·rcases z with z|⟨c,g,_⟩
  ·have:=f.zm b G
   rw[z,n]at this;exact this
  ·cases g
 ·refine T.pass f.same env.zm p (λb o e=>XN (u _ _<|f.same b o e) λz=>?_) (Xy u λb o e z y=>?_) N
  ·rcases z with z|⟨c,g,_⟩
   ·rw[z,(f.same).free n]at e;cases e
   ·cases g
  ·rcases y with y|y|⟨c,g,_⟩
   ·exact z y
   ·rw[y,n]at e;cases e
   ·cases g
 ·obtain⟨rfl,L⟩:=L;obtain⟨k1,k2⟩:=r o' H' A;exact⟨Rp.non_inv U,q _ _ H' L (p.trans k1) ⟨x,rfl,k2,A.at_⟩⟩
 ·exact Y e H' hX (p.trans (r o' H' A).1)
noncomputable def MO(C:Addr)(c:Pw)(r:PTA):PTE:=λγ R X=>r γ (λf=>match passes f with|some b=>∀x,c (.ins x C [] []) b (λg d=>d=.non/\R (.own g)) (λ_ _=>False)|none=>False) X
def Zd9{f r}(o:X0 K mg E f r):Xf K mg E (AR C (spW mg c K) [] E0 f) (MO C c r):=by
 intro H0 B H σ γ R X Q b p q n;refine o H0 B H σ γ _ X _ b p (λx v H1 g u h=>?_) n;split at g
 ·rename_i l s;rw[Qg];exact Zlk b u h s g q λ_ _ z=>z.elim
 ·grind
end
def Sv{b:Type}{us:List b}(h:us.length=1):∃a,us=[a]:=List.length_eq_one_iff.mp h
def Bi{f:Type}{us:List f}(h:us.length=2):∃a b,us=[a,b]:=by
 cases us with
 |nil=>grind
 |cons a r=>obtain⟨b,rfl⟩:=Sv (by simpa using h);exact⟨a,b,rfl⟩
def BU{f:Type}{us:List f}(h:us.length=3):∃a b c,us=[a,b,c]:=by
 cases us with
 |nil=>grind
 |cons a r=>obtain⟨b,c,rfl⟩:=Bi (by simpa using h);exact⟨a,b,c,rfl⟩
def D5{f:Type}{us:List f}(h:us.length=4):∃a b c d,us=[a,b,c,d]:=by
 cases us with
 |nil=>grind
 |cons a r=>obtain⟨b,c,d,rfl⟩:=BU (by simpa using h);exact⟨a,b,c,d,rfl⟩
def Zaj{f:Type}{us:List f}(h:us.length=5):∃a b c d e,us=[a,b,c,d,e]:=by
 cases us with
 |nil=>grind
 |cons a r=>obtain⟨b,c,d,e,rfl⟩:=D5 (by simpa using h);exact⟨a,b,c,d,e,rfl⟩
structure X1 (K:Yg) (W:Addr->Prop) (x q:Str) (st:Stmt) (ps:Yp):Prop where
 ex:∃f fd,Fun K x q st f fd/\W f/\Binds K fd ps []
structure KJ (P:Program) (w:World) (K:Yg) (mg:Yk) (base:Heap) (CX:CXT) (k:Nat) (W:Addr->Prop) (ps:Yp) (sp:Sp):Prop where
 ex:∃f fd,Kv P w K mg base CX k f fd ps sp/\W f/\Binds K fd ps []
section
variable {P:Program}{w:World}{K:Yg}{mg:Yk}{base:Heap}{W:Addr->Prop}
def X1.ok {st N ps k sp} (D:X1 K W x q st ps) (S:Xk N ps (Xh st)) (len:∀vs H Q E,sp vs H Q E->vs.length=ps.length)
  (g:∀f b A outer s H vs Q E,Xo k (A.deeper<|envOfC q (Xh st) s.heap.objs.size f b)->sp vs H Q E->
   ∃t,PSs (XI CX0 P w K mg base N q (Xh st) f b A outer s H E).nox (XA st) t/\t {nx:=λ_ H'=>Q .non H',rt:=Q} (start N vs) H):KJ P w K mg base CX0 (k+1) W ps sp:=by
 obtain⟨f,p,F,n,o⟩:=D.ex;exact⟨f,p,F.ok S len λb A outer s H vs Q E l h=>g f b A outer s H vs Q E l h,n,o⟩
def X1.okX {st N ps k sp} (D:X1 K W x q st ps) (S:Xk N ps (Xh st)) (len:∀vs H Q E,sp vs H Q E->vs.length=ps.length)
  (g:∀f b A outer s H vs Q E,Xo k (A.deeper<|envOfC q (Xh st) s.heap.objs.size f b)->sp vs H Q E->
   ∃t,PSs (XI (ExcR.CXe P w) P w K mg base N q (Xh st) f b A outer s H E) (XA st) t/\t {nx:=λ_ H'=>Q .non H',rt:=Q} (start N vs) H):KJ P w K mg base (ExcR.CXe P w) (k+1) W ps sp:=by
 obtain⟨f,B,F,r,u⟩:=D.ex;obtain⟨oc,z,kV,v,y,G,b,C,n,rfl,o,l⟩:=F.ex;exact⟨f,_,AG o l S len λA outer s H vs Q E p h=>g f b A outer s H vs Q E p h,r,u⟩
def Nu:KO (ExcR.CXe P w) X E0:=λ_ _ _ _ _ _ _ h=>by
 obtain⟨a,T,C,b,f,_,_,z⟩:=h
 grind
end
section
variable {X:Cx}{CX:CXT}{k:Nat}{Cc:Addr}{ps:Yp}{sp:Sp}{E:XK}{ES:L2.St->XK}{x m:Str}{p pos apos:Pos}{e o:Expr}{es:Yq}{ta:TE}{t:TA}
def K0{pl}(C:KJ X.prog X.w X.K X.mg X.base CX k (X4 X.K Cc m) ps sp)(c:Cls X.K Cc)(n:Xo k X.A)(hx:KO CX X E)(s:PE X o ta)(v:PA X (e::es) t)(b:autoParam (starEach (e::es) X.env=(false,eval e X.env)::starEach es X.env) au_0)(g:autoParam ((backTo pos<|starEach es X.env).any (·.1)=false) au_0)
  (l:autoParam (eval (.Call (.Attribute o m apos) (e::es) [] pos) X.env=(do
   let h ←eval o X.env
   standAt apos.atName
   let (f,first) ←holding [h] (getMethod h m pl)
   callWith pos f first (backTo pos<|starEach (e::es) X.env) (backToKw pos<|keywordEach [] X.env))) au_0) :
  PE X (.Call (.Attribute o m apos) (e::es) [] pos) (Tv Cc m sp [] E ta t):=by
 obtain⟨f,y,F,r,u⟩:=C.ex;exact Ra s c r F n u .nil hx v b g l
def XU(C:KJ X.prog X.w X.K X.mg X.base CX k (X4 X.K Cc m) ps sp)(c:Cls X.K Cc)(h:Xo k X.A)(hx:KO CX X E)(n:PE X o ta)
  (g:autoParam (eval (.Call (.Attribute o m apos) [] [] pos) X.env=(do
   let b ←eval o X.env
   standAt apos.atName
   let (f,first) ←holding [b] (getMethod b m s)
   callWith pos f first (backTo pos<|starEach [] X.env) (backToKw pos<|keywordEach [] X.env))) au_0) :
  PE X (.Call (.Attribute o m apos) [] [] pos) (Tv Cc m sp [] E ta Kt):=by
 obtain⟨f,u,F,l,r⟩:=C.ex;exact Ol n c l F h r .nil hx g
def Zio(C:KJ X.prog X.w X.K X.mg X.base CX k (Mk X.K Cc) ps sp)(l:X.mg x=some (.ref Cc))(h:Xo (k+1) X.A)(hx:KO CX X E)(u:PA X (e::es) t)(n:autoParam (Gl X x) au_0)(g:autoParam ((x==("__debug__" : Str))=false) au_1)(r:autoParam (starEach (e::es) X.env=(false,eval e X.env)::starEach es X.env) au_0)(b:autoParam ((backTo pos<|starEach es X.env).any (·.1)=false) au_0) :
  PE X (.Call (.Name x p) (e::es) [] pos) (AR Cc sp [] E t):=by
 obtain⟨f,v,F,M,s⟩:=C.ex;exact Zcb M F h n l s .nil hx u g r b
end
abbrev PTF:=Γ->Str->(Str->Prop)->XR->Prop
section
variable {K:Yg}{mg:Yk}{E:L2.St->XK}{t:ExcR.TF}{p:PTF}{te:TE}{a:PTE}
def NG(K:Yg)(mg:Yk)(E:L2.St->XK)(t:ExcR.TF)(p:PTF):Prop:=∀(l:Hp) (B:Addr->Prop) (H:Hp) (g:L2.St) (h:Γ) (b:Str) (R:Str->Prop) (X:XR) (Q:Str->Hp->Prop),Xm K l B H g h->p h b R X->
 (∀x f,R x->Same H f->Q x f)->(∀c f,X c->Same H f->XE mg (E g) c f)->t g H b Q
noncomputable def Zi3:PTF:=λ_ b R _=>b.length<=sizeLine/\R b
def Tq:NG K mg E ExcR.EU Zi3:=λn B H g l b R X Q f h q _=>⟨h.1,q _ H h.2 (Same.refl _)⟩
noncomputable def Zgl(x:Str)(p:PTF):PTF:=λf b R X=>(b++x).length<=sizeLine/\p f (b++x) R X
def Pa(h:NG K mg E t p):NG K mg E (ExcR.GK x t) (Zgl x p):=λr B H g l o R X Q b f q n=>⟨f.1,h r B H g l _ R X Q b f.2 q n⟩
noncomputable def Zj1(a:PTE)(p:PTF):PTF:=λf b R X=>a f (λs=>match s.d with
 | .int i=>i.natAbs.log2<1920/\(b++(Str.ofString<|toString i)).length<=sizeLine/\p f (b++Str.ofString (toString i)) R X
 | .str x=>x.length<=sizeLine/\(b++x).length<=sizeLine/\p f (b++x) R X
 |_=>False) X
def T9(M:Xf K mg E te a)(h:NG K mg E t p):NG K mg E (ExcR.ED te t) (Zj1 a p):=λA B H u w J R X Q n L q y=>by
 refine M A B H u w _ X _ n L (λs v C f o G=>?_) y;have b:=n.grow o;have r:=G.rp b.same;split at f
 ·rename_i i ei;rw[ei]at r;exact .inl ⟨i,r.int_inv,f.1,f.2.1,h A B C u w _ R X Q b f.2.2 (λx l hx g=>q x l hx (o.trans g)) λc l z g=>y c l z (o.trans g)⟩
 ·rename_i x N;rw[N]at r;exact .inr ⟨x,r.str_inv,f.1,f.2.1,h A B C u w _ R X Q b f.2.2 (λx l hx g=>q x l hx (o.trans g)) λc l z g=>y c l z (o.trans g)⟩
 ·grind
noncomputable def pF(p:PTF):PTE:=λb R X=>p b Str.empty (λx=>R (.sh<|.str x)) X
def Te(h:NG K mg E t p):Xf K mg E (ExcR.tF t) (pF p):=λr B H f g R X Q b n q l=>
 h r B H f g _ _ X _ b n (λx s hx o=>q _ _ s hx o (.str x)) l
end
open M
noncomputable abbrev plD(f:Yh):D:=.lst (f.map prD)
noncomputable abbrev dD(q:Str×Yi):D:=.tup (.str q.1::q.2.map D.int)
noncomputable abbrev vF:Yp:=["book","fields","wished"]
noncomputable abbrev vO(C x b1 g f:Addr)(bk:List (Str×Yi))(fs b:List (Yh)):O:=.ins x C vF [(b1,bk.map dD),(g,fs.map plD),(f,b.map plD)]
noncomputable abbrev Ng(C:Addr)(bk:List (Str×Yi))(fs b:List (Yh)):D:=.ins C vF [.lst (bk.map dD),.lst (fs.map plD),.lst (b.map plD)]
def BP{b:Type}(f:b->D)(xs:List b)(x:b):atI ((xs++[x]).map f) (-1)=some (f x):=by
 refine PM ?_;unfold atI ixN;rw[W3 (by lia),W6 (by grind)];show(xs++[x])[_]?=some x;have e:((-1:Int)+((xs++[x]).length:Int)).toNat=xs.length:=by grind
 rw[e,Qd (W5 _),Nat.sub_self];rfl
def XC(e:Option Str)(X:Str->Prop)(R:Prop):Prop:=match e with|some c=>X c|none=>R
noncomputable def NL(h:Int):Option Str:=if 1<=h/\h<=10 then none else some "BadHolder"
noncomputable def Tr:Yh->Option Str
 |[]=>none
 |q::r=>if ¬(1<=q.1/\q.1<=10)then some "BadHolder" else if ¬(1<=q.2/\q.2<=1000)then some "BadWidth" else Tr r
noncomputable def NY(ps:Yh):Option Str:=if 40<ps.length then some "TooManyStrips" else Tr ps
theorem EY:∀{ps:Yh},Field ps->Tr ps=none
 |[],_=>rfl
 |q::r,h=>by
  obtain⟨l,g,f,b⟩:=h q WS;unfold Tr;rw[W3 (λz=>z ⟨l,g⟩),W3 (λz=>z ⟨f,b⟩)];exact EY λx hx=>h x (WG _ hx)
def OG(h:Field ps)(b:ps.length<=40):NY ps=none:=by
 unfold NY;rw[W3 (by lia)];exact EY h
noncomputable def Fb(ps:Yh)(p:Int):Option Str:=if p<1\/(ps.length:Int)<p then some "NoStrip" else none
noncomputable def Xv(ps:Yh)(p:Int):Int×Int:=ps.getD (p-1).toNat (0,0)
noncomputable def Kh(ps:Yh)(p h:Int):Option Str:=if p<1\/(ps.length:Int)<p then some "NoStrip" else if ¬(1<=h/\h<=10)then some "BadHolder" else if (Xv ps p).1=h then some "OwnStrip" else none
noncomputable def P1(ps:Yh)(p h:Int):Yh:=ps.set (p-1).toNat (h,(Xv ps p).2)
def Gs{ps:Yh}{p:Int}{x}(f:1<=p)(b:p<=ps.length):cutD (ps.map prD) none (some (p-1))++[prD x]++cutD (ps.map prD) (some p) none=(ps.set (p-1).toNat x).map prD:=by
 rw[T4,T4,BJ ps (by lia),Ba ps (by lia)];have e:p.toNat=(p-1).toNat+1:=by lia
 rw[e,List.set_eq_take_append_cons_drop,W6 (by lia),WU,WN,Jx];rfl
def Tf{p}(f:1<=p)(b:p<=ps.length):atI (ps.map prD) (p-1)=some (prD<|Xv ps p):=by
 rw[BY (by lia) (by lia)];unfold Xv;rw[WJ,Wy (by lia)];rfl
def LK(ps:Yh)(p h:Int):(P1 ps p h).length=ps.length:=Q2 ..
def Gz(b:Field ps)(e:Kh ps p h=none):Field (P1 ps p h):=by
 unfold Kh at e;split at e
 ·cases e
 ·split at e
  ·cases e
  ·rename_i o n;have f:(p-1).toNat<ps.length:=by lia
   intro q hq;rcases List.mem_or_eq_of_mem_set hq with hq|rfl
   ·exact b q hq
   ·have:Xv ps p∈ps:=by
     unfold Xv;rw[WJ,Wy f]
     grind
    obtain⟨_,_,l,g⟩:=b _ this;lia
def Zie(q:Int×Int)(r:Yh):Tr (q::r)=if ¬(1<=q.1/\q.1<=10)then some ("BadHolder" : Str)else if ¬(1<=q.2/\q.2<=1000)then some ("BadWidth" : Str)else Tr r:=rfl
def HF(q:Str×Yi):imm (dD q)=true:=by
 unfold dD imm Kq;rw[Bo];rfl
theorem IA:∀(bk:List (Str×Yi)),Kq (bk.map dD)=true
 |[]=>rfl
 |q::r=>by
  rw[WN];unfold Kq;rw[HF,IA r];rfl
def An(q:Str×Yi):arg (dD q)=.sh (dD q):=by
 unfold arg;rw[HF]
def Zgi:Pf N (dD q::ds)=some (.sh<|dD q)::(ds.map (λd=>some (arg d))++List.replicate (N.length-(ds.length+1)) none):=by
 unfold Pf;rw[WN,An];rfl
def Cb{q:Str×Yi}{i}(h:i<q.2.length):atI (.str q.1::q.2.map D.int) (1+(i:Int))=some (.int q.2[i]):=CC (by grind)
noncomputable def Ph(ps:Yh)(p w:Int):Option Str:=if p<1\/(ps.length:Int)<p then some "NoStrip" else if w<1\/(Xv ps p).2<=w then some "BadPart" else if 40<=ps.length then some "TooManyStrips" else none
noncomputable def NU(ps:Yh)(p w:Int):Yh:=ps.take (p-1).toNat++[((Xv ps p).1,w),((Xv ps p).1,(Xv ps p).2-w)]++ps.drop p.toNat
def E9{p}(g:1<=p)(f:p<=ps.length):Xv ps p∈ps:=by
 have b:(p-1).toNat<ps.length:=by lia
 unfold Xv;rw[WJ,Wy b]
 grind
def Zfs{p w}(b:1<=p):cutD (ps.map prD) none (some (p-1))++[prD ((Xv ps p).1,w),prD ((Xv ps p).1,(Xv ps p).2-w)]++cutD (ps.map prD) (some p) none=(NU ps p w).map prD:=by
 rw[T4,T4,BJ ps (by lia),Ba ps (by lia)];unfold NU
 grind
noncomputable def Ko(f:Yh)(a b:Int):Option Str:=if ¬(1<=a/\a<=10)then some "BadHolder" else if ¬(1<=b/\b<=10)then some "BadHolder" else if a=b then some "LikeHolders" else if (a,b)∈f then some "WishStands" else if 20<=f.length then some "TooManyWishes" else none
noncomputable def Kk(f:Yh)(a b:Int):Option Str:=if (a,b)∈f then none else some "NoWish"
noncomputable def N4(f:Yh)(a b:Int):Yh:=f.filter λq=>!decide (q=(a,b))
noncomputable def KQ(ps:Yh)(p:Int):Option Str:=if p<1\/(ps.length:Int)<=p then some "NoStrip" else if ¬(Xv ps p).1=(Xv ps (p+1)).1 then some "UnlikeHolders" else if 1000<(Xv ps p).2+(Xv ps (p+1)).2 then some "TooWide" else none
noncomputable def NT(ps:Yh)(p:Int):Yh:=ps.take (p-1).toNat++[((Xv ps p).1,(Xv ps p).2+(Xv ps (p+1)).2)]++ps.drop (p+1).toNat
def Zkm{p}(b:1<=p):cutD (ps.map prD) none (some (p-1))++[prD ((Xv ps p).1,(Xv ps p).2+(Xv ps (p+1)).2)]++cutD (ps.map prD) (some (p+1)) none=(NT ps p).map prD:=by
 rw[T4,T4,BJ ps (by lia),Ba ps (by lia)];unfold NT
 grind
noncomputable def Zbq(m:Yi)(k:Int):Int:=1+(k*m.getD 1 0+m.getD 2 0) % 10
def Zd0{a b}(o:1<=a/\a<=10)(n:1<=b/\b<=10)(l:a≠b)(h:(a,b)∉f)(g:f.length<20):Ko f a b=none:=by
 unfold Ko
 grind
noncomputable abbrev d3(k:Str)(a b:Int):D:=.tup [.str k,.int a,.int b]
end Pu
namespace Pu
open L2 Own
section
variable {K:Yg}{mg:Yk}{E:L2.St->XK}
noncomputable def GS(K:Yg):R2:=λx y H Q=>∃(p q:Addr) (xs b:List V),x=.ref p/\y=.ref q/\SqT K H p xs/\SqT K H q b/\xs.all K5=true/\b.all K5=true/\Q (.bl (!eqL xs b)) H
def Zeu(r:X.A.units<cLine)(z:autoParam (X.K=K) au_0):OpR X (compareOp .NotEq) (GS K):=by
 subst z;intro pins s J H x y v u Q I n l h;obtain⟨p,q,xs,b,rfl,rfl,w,hq,f1,G,k⟩:=h;obtain rfl:=n;obtain rfl:=l;obtain⟨M,g,o,_⟩:=I.tuple w;obtain⟨L,f,p2,_⟩:=I.tuple hq;have T:=g.length;have N:=f.length;refine SeqAt.RcNeAt.tuples o p2 r (λj C B=>FK g f f1 G j C B) _ _ _ _ ⟨.bl (!eqL xs b),H,I,?_,k⟩;show _=Value.bool (!eqL xs b);unfold eqL;by_cases e:xs.length=b.length
 ·grind
 ·grind
def FD:S->S->(S->Prop)->Prop:=λx y R=>∃xs b:Yi,x.d=.tup (xs.map D.int)/\y.d=.tup (b.map D.int)/\R (.sh<|.bl (!decide (xs=b)))
def Zhp{a b}(J:Xf K mg E z a)(G:Xf K mg E w b):Xf K mg E (tOp (GS K) z w) (p2 a b FD):=by
 refine KL J G λH0 H T Z x y v u R Q g s1 hm s r h q=>?_;obtain⟨xs,U,N,M,L⟩:=h;have n:=s.rp g;have l:=r.rp g;rw[N]at n;rw[M]at l;obtain⟨p,us,rfl,o,B⟩:=Rp.tup_inv n;obtain⟨C,Y,rfl,f,A⟩:=Rp.tup_inv l;rw[B.ints]at o;rw[A.ints]at f;refine⟨p,C,_,_,rfl,rfl,SqT.of o,SqT.of f,Tw _,Tw _,?_⟩;rw[FE];exact q _ _ T L (Same.refl _) (.bl _)
def Zjd{R}(h:R (.sh<|.bl (!decide (p=q)))):FD (.sh<|prD p) (.sh<|prD q) R:=by
 refine⟨[p.1,p.2],[q.1,q.2],rfl,rfl,?_⟩;have e:decide ([p.1,p.2]=[q.1,q.2])=decide (p=q):=by grind
 rw[e];omega
end
structure DI (K:Yg) (x:Str) (st:Stmt):Prop where
 ex:∃f fd,PySem.W.nsIn K mainGlobals x=some (some<|.ref f)/\Fun K x x st f fd
structure MI (K:Yg) (C:Addr) (m q:Str) (st:Stmt):Prop where
 ex:∃f fd,PySem.W.findIn K (.ref C) m=some (some<|.ref f)/\PySem.W.isFn K (.ref f)=true/\Fun K m q st f fd
section
variable {K:Yg}{h:Heap}{mg:Yk}
def di{st f oc p r g kV n o b ct}(a:PySem.W.nsIn K mainGlobals x=some (some<|.ref f))(l:K.lookup f=some ⟨oc,p,.func (PySem.W.fnOf x x (KM st) (XA st) (Xh st) .none kV n o r b ct),g⟩)(c:PySem.W.codeIn K b x=true)(k:PySem.W.keepIn K (.ref f)=true):DI K x st:=⟨f,_,a,Ft l c k⟩
def mi{st f oc p r g kV n o b ct}(a:PySem.W.findIn K (.ref C) m=some (some<|.ref f))(i:PySem.W.isFn K (.ref f)=true)(l:K.lookup f=some ⟨oc,p,.func (PySem.W.fnOf m q (KM st) (XA st) (Xh st) .none kV n o r b ct),g⟩)(c:PySem.W.codeIn K b q=true)(k:PySem.W.keepIn K (.ref f)=true):MI K C m q st:=⟨f,_,a,i,Ft l c k⟩
def DI.d {st ps} (D:DI K x st) (X:K.In h) (o:h.Ns mainGlobals mg)
  (b:∀kV f l n g ct us,us.length=ps.length->bindArgs (PySem.W.fnOf x x (KM st) (XA st) (Xh st) .none kV f l n g ct) ⟨us,[]⟩=pure (ps.zip us)):Def K mg x st ps:=
 let ⟨_,_,a,F⟩:=D.ex
 ⟨_,_,F,Qe X o a,F.binds b⟩
def MI.d {m q st ps} (D:MI K C m q st) (e:o=C)
  (b:∀kV f l n g ct us,us.length=ps.length->bindArgs (PySem.W.fnOf m q (KM st) (XA st) (Xh st) .none kV f l n g ct) ⟨us,[]⟩=pure (ps.zip us)):X1 K (X4 K o m) m q st ps:=
 let ⟨_,_,a,i,F⟩:=D.ex
 ⟨_,_,F,by rw[e];exact⟨a,i,F.kp⟩,F.binds b⟩
def MI.i {q st ps} (D:MI K C "__init__" q st) (e:p=C) (mk:PySem.W.makesIn K C=true) (n:PySem.W.keepIn K (.ref C)=true)
  (b:∀kV f l o g ct us,us.length=ps.length->bindArgs (PySem.W.fnOf "__init__" q (KM st) (XA st) (Xh st) .none kV f l o g ct) ⟨us,[]⟩=pure (ps.zip us)):X1 K (Mk K p) "__init__" q st ps:=
 let ⟨_,_,a,i,F⟩:=D.ex
 ⟨_,_,F,by rw[e];exact⟨mk,a,i,n⟩,F.binds b⟩
end
def fs{N P b}(p:autoParam (b.kind=.function) au_0)(o:autoParam (b.isCoroutine=false) au_0)(n:autoParam (b.isGenerator=false) au_0)(l:autoParam (N.Nodup) au_5)(h:autoParam (N.take P.length=P) au_0)(g:autoParam (∀x∈P,b.names.lookup x=some .local\/b.names.lookup x=some .cell) au_5)(f:autoParam (∀y∈b.names,y.2≠.free) au_5):Xk N P b:=⟨p,o,n,l,h,g,f⟩
def pz{pos x e te b}(i:Nat)(n:X.N.Nodup)(l:PE X e te)(g:autoParam (X.N[i]?=some x) au_0)(hx:autoParam (Loc X.env.scope x) au_6)(f:autoParam (swapsWith e (some<|.Name x b) pos.line X.env=pure false) au_0)(h:autoParam (X.fn x=true\/X.env.scope.names.lookup x=some .local) au_2) :
  PS X (.Assign [.Name x b] e pos) (SE te<|NN i):=Zeg n g hx l f h
section
variable {K:Yg}{mg:Yk}{E:L2.St->XK}{H0 H H1 H':Hp}{B Z Z':Addr->Prop}{σ:L2.St}{γ:Γ}
def two(o1 f:O)(a1 a2:Addr):Addr->Prop:=λb=>o1.adr a1 b\/f.adr a2 b
abbrev PTV:=Γ->(Γ->Bool->Prop)->(Γ->Str->Prop)->Prop
def KS(K:Yg)(mg:Yk)(E:L2.St->XK)(t:TT)(p:PTV):Prop:=∀(H0:Hp) (B:Addr->Prop) (H:Hp) (σ:L2.St) (γ:Γ) (R:Γ->Bool->Prop) (X:Γ->Str->Prop) (Q:Bool->Hp->Prop),(∀b,B b->∃o,H0 b=some o)->Xm K H0 B H σ γ->p γ R X->
 (∀f b H',R f b->Xm K H0 B H' σ f->Fr B H σ γ H' σ f->Q b H')->(∀f c H',X f c->Xm K H0 B H' σ f->Fr B H σ γ H' σ f->XE mg (E σ) c H')->t σ H Q
noncomputable def pVW(w:PTW):PTV:=λγ R X=>w γ (λb d=>match d with | .bl c=>R b c|_=>False) X
def Av(hw:KG K mg E te w):KS K mg E (Fw K te) (pVW w):=by
 intro H0 B H σ γ R X Q o b h q n;refine hw H0 B H σ γ _ _ _ o b h (λg d v H' f p f1 l=>?_) n;split at f
 ·rw[l.bl_inv];exact⟨_,rfl,q _ _ _ f p f1⟩
 ·grind
noncomputable def pVP(p:PTT):PTV:=λγ R X=>p γ (λb=>R γ b) (X γ)
def BM(n:Ki K mg E t p):KS K mg E t (pVP p):=by
 intro H0 B H σ γ R X Q s f h q l;exact n H0 B H σ γ _ _ _ f h (λb H' r g=>q γ b H' r (f.grow g) (Fr.grow g)) λc H' o g=>l γ c H' o (f.grow g) (Fr.grow g)
noncomputable def Zif(p:PTV):PTV:=λγ R X=>p γ (λf b=>R f (!b)) X
def Fh(n:KS K mg E t p):KS K mg E (Ds t) (Zif p):=by
 intro H0 B H σ γ R X Q o g h q l;exact n H0 B H σ γ _ _ _ o g h (λf b H' r s f1=>q f (!b) H' r s f1) l
noncomputable def ML(p r:PTV):PTV:=λγ R X=>p γ (λf b=>if b=true then R f true else r f R X) X
noncomputable def MU(p r:PTV):PTV:=λγ R X=>p γ (λf b=>if b=true then r f R X else R f false) X
def AA{p r}(z:KS K mg E t p)(y:KS K mg E u r):KS K mg E (tOr t u) (ML p r):=by
 intro H0 B H σ γ R X Q x s h q w;refine z H0 B H σ γ _ _ _ x s h (λf b H' G A f1=>?_) w;cases b with
 |true=>grind
 |false=>
  have n:r f R X:=by grind
  exact y H0 B H' σ f _ _ _ x A n (λg b C l v o=>q _ _ _ l v (f1.trans o)) λg c C l v o=>w _ _ _ l v (f1.trans o)
def Rg{p r}(z:KS K mg E t p)(y:KS K mg E u r):KS K mg E (A6 t u) (MU p r):=by
 intro H0 B H σ γ R X Q x s h q w;refine z H0 B H σ γ _ _ _ x s h (λf b H' G A f1=>?_) w;cases b with
 |false=>grind
 |true=>
  have n:r f R X:=by grind
  exact y H0 B H' σ f _ _ _ x A n (λg b C l v o=>q _ _ _ l v (f1.trans o)) λg c C l v o=>w _ _ _ l v (f1.trans o)
noncomputable def Zjk(c:PTV)(p q:PTS):PTS:=λR γ=>c γ (λf b=>if b=true then p R f else q R f) R.ex
def Su{p q}(s:KS K mg E tt c)(r:Xr K mg E t p)(hq:Xr K mg E u q):Xr K mg E (AD tt t u) (Zjk c p q):=by
 intro H0 B H σ γ R D l n h e;refine s H0 B H σ γ _ _ _ l n h (λf b H' o g f1=>?_) λf c H' o g f1=>e.ex _ _ _ _ o g f1;cases b with
 |true=>
  exact r H0 B H' σ f R D l g (by grind) (e.from f1)
 |false=>
  exact hq H0 B H' σ f R D l g (by grind) (e.from f1)
end
open M
inductive Dd where
 |sell (p h:Int)|part (p w:Int)|unite (p:Int)|wish (a b:Int)|drop (a b:Int)
noncomputable def Dd.q:Dd->Str×Yi
 | .sell p h=>("sell",[p,h]) | .part p w=>("part",[p,w]) | .unite p=>("unite",[p]) | .wish a b=>("wish",[a,b]) | .drop a b=>("drop",[a,b])
noncomputable def Dd.land:Dd->Bool
 | .sell _ _=>true | .part _ _=>true | .unite _=>true|_=>false
noncomputable def Dd.err (f w:Yh):Dd->Option Str
 | .sell p h=>Kh f p h | .part p v=>Ph f p v | .unite p=>KQ f p | .wish a b=>Ko w a b | .drop a b=>Kk w a b
noncomputable def Dd.fld (f:Yh):Dd->Yh
 | .sell p h=>P1 f p h | .part p v=>NU f p v | .unite p=>NT f p|_=>f
noncomputable def Dd.wsh (w:Yh):Dd->Yh
 | .wish a b=>w++[(a,b)] | .drop a b=>N4 w a b|_=>w
def Dd.err_cases (f w : Yh) (x : Dd) : x.err f w = none ∨ x.err f w = some ("NoStrip" : Str) ∨ x.err f w = some ("BadHolder" : Str) ∨ x.err f w = some ("OwnStrip" : Str) ∨ x.err f w = some ("BadPart" : Str) ∨ x.err f w = some ("TooManyStrips" : Str) ∨ x.err f w = some ("UnlikeHolders" : Str) ∨ x.err f w = some ("TooWide" : Str) ∨ x.err f w = some ("LikeHolders" : Str) ∨ x.err f w = some ("WishStands" : Str) ∨ x.err f w = some ("TooManyWishes" : Str) ∨ x.err f w = some ("NoWish" : Str) := by
  cases x with
  | sell p h => show Kh f p h = _ ∨ Kh f p h = _ ∨ Kh f p h = _ ∨ Kh f p h = _ ∨ _; unfold Kh; repeat' split
                all_goals simp
  | part p h => show Ph f p h = _ ∨ Ph f p h = _ ∨ Ph f p h = _ ∨ Ph f p h = _ ∨ Ph f p h = _ ∨ Ph f p h = _ ∨ _; unfold Ph; repeat' split
                all_goals simp
  | unite p => show KQ f p = _ ∨ KQ f p = _ ∨ KQ f p = _ ∨ KQ f p = _ ∨ KQ f p = _ ∨ KQ f p = _ ∨ KQ f p = _ ∨ KQ f p = _ ∨ _; unfold KQ; repeat' split
               all_goals simp
  | wish a b => show Ko w a b = _ ∨ Ko w a b = _ ∨ Ko w a b = _ ∨ Ko w a b = _ ∨ Ko w a b = _ ∨ Ko w a b = _ ∨ Ko w a b = _ ∨ Ko w a b = _ ∨ Ko w a b = _ ∨ Ko w a b = _ ∨ Ko w a b = _ ∨ _; unfold Ko; repeat' split
                all_goals simp
  | drop a b => show Kk w a b = _ ∨ Kk w a b = _ ∨ Kk w a b = _ ∨ Kk w a b = _ ∨ Kk w a b = _ ∨ Kk w a b = _ ∨ Kk w a b = _ ∨ Kk w a b = _ ∨ Kk w a b = _ ∨ Kk w a b = _ ∨ Kk w a b = _ ∨ Kk w a b = _; unfold Kk; repeat' split
                all_goals simp
def Dd.q_len (x:Dd):x.q.2.length<=2:=by cases x<;>simp[Dd.q]
def Zh4(h:Ring b [] r):False:=by
 have f:=h.two
 have:=h.last r[0] (r[r.length-1]'(by lia)) (Wy<|by lia) (Wy<|by lia)
 grind
end Pu
namespace Pu
open L2 Own
section
variable {X:Cx}{k j:Nat}{x:Str}{ps:Yp}{sp:Sp}{e a b c:Expr}{es:Yq}{t:TA}{te tf tg:TE}{p pos:Pos}
def fz(C:Callee X.prog X.w X.K X.mg X.base CX0 k x ps sp)(h:Xo j X.A)(r:PA X (e::es) t)(l:autoParam (k<=j) au_1)(n:autoParam (Gl X x) au_0)(g:autoParam ((x==("__debug__" : Str))=false) au_1)(o:autoParam (starEach (e::es) X.env=(false,eval e X.env)::starEach es X.env) au_0)(f:autoParam ((backTo pos<|starEach es X.env).any (·.1)=false) au_0) :
  PE X (.Call (.Name x p) (e::es) [] pos) (Tz sp [] E0 t):=Sm C (h.mono l) XY r n g o f
def jx(K:Yg)(h:PE X a te)(g:PE X b tf)(l:autoParam (X.K=K) au_0)(f:autoParam (FI b) au_7):PE X (.Subscript a b pos) (tOp (λx y H Q=>S8 K x y H Q\/Bj K x y H Q) te tf):=G1 (Zdp l) h g f
def ln(K:Yg)(h:X.mg "len"=none)(o:PE X a te)(r:autoParam (X.K=K) au_0)(l:autoParam (Gl X "len") au_0)(g:autoParam (starEach [a] X.env=(false,eval a X.env)::starEach [] X.env) au_0)(f:autoParam ((backTo pos<|starEach [] X.env).any (·.1)=false) au_0) :
  PE X (.Call (.Name "len" p) [a] [] pos) (tCB (λxs H Q=>∃x n,xs=[x]/\Bt K x H n/\Q (.int (n:Nat)) H)<|XH te Kt):=Kp (Zei r) l h PySem.boot_len (XF o KF g) (by decide) rfl g f
def cq(K:Yg)(f:Xo j X.A)(h:PE X a te)(g:PE X b tf)(l:autoParam (X.K=K) au_0):PT X (.Compare a [.Eq] [b] pos) (S4<|tOp (λx y H Q=>rEq x y H Q\/Pp K false x y H Q) te tf):=Nj (Fz f.units0 l) h g (To _)
def cn(K:Yg)(f:Xo j X.A)(h:PE X a te)(g:PE X b tf)(l:autoParam (X.K=K) au_0):PT X (.Compare a [.NotEq] [b] pos) (S4<|tOp (λx y H Q=>rNe x y H Q\/Pp K true x y H Q) te tf):=Nj (Zft f.units0 l) h g (To _)
def az(f:PE X a te)(g:autoParam (starEach [a] X.env=(false,eval a X.env)::starEach [] X.env) au_0):PA X [a] (XH te Kt):=XF f KF g
def bz(g:PE X a te)(f:PE X b tf)(l:autoParam (starEach [a,b] X.env=(false,eval a X.env)::starEach [b] X.env) au_0)(h:autoParam (starEach [b] X.env=(false,eval b X.env)::starEach [] X.env) au_0):PA X [a,b] (XH te<|XH tf Kt):=XF g (XF f KF h) l
def dz(h:PE X a te)(g:PE X b tf)(f:PE X c tg)(o:autoParam (starEach [a,b,c] X.env=(false,eval a X.env)::starEach [b,c] X.env) au_0)(n:autoParam (starEach [b,c] X.env=(false,eval b X.env)::starEach [c] X.env) au_0)(l:autoParam (starEach [c] X.env=(false,eval c X.env)::starEach [] X.env) au_0):PA X [a,b,c] (XH te<|XH tf<|XH tg Kt):=XF h (XF g (XF f KF l) n) o
end
section
variable {K:Yg}{mg:Yk}{E:L2.St->XK}{ta tb tc:TE}{a b c:PTE}
def sz(f:Xf K mg E ta a):X0 K mg E (XH ta Kt) (KE a PZ):=Kl f X9
def tz(g:Xf K mg E ta a)(f:Xf K mg E tb b):X0 K mg E (XH ta<|XH tb Kt) (KE a<|KE b PZ):=Kl g (sz f)
def uz(h:Xf K mg E ta a)(g:Xf K mg E tb b)(f:Xf K mg E tc c):X0 K mg E (XH ta<|XH tb<|XH tc Kt) (KE a<|KE b<|KE c PZ):=Kl h (tz g f)
end
section
variable {K:Yg}{h:Heap}{mg:Yk}{C C':Addr}{x m q:Str}{st:Stmt}{ps:Yp}
abbrev Bd(x q:Str)(st:Stmt)(ps:Yp):Prop:=∀(kV f l:Value) (o:Yt) (g n:Value) (b:Yo),b.length=ps.length->bindArgs (PySem.W.fnOf x q (KM st) (XA st) (Xh st) .none kV f l o g n) ⟨b,[]⟩=pure (ps.zip b)
def DI.e (D:DI K x st) (X:K.In h) (g:h.Ns mainGlobals mg) (b:Bd x x st ps:=by
  intro _ _ _ _ _ _ us f
  first
   |(obtain⟨_,rfl⟩:=Pu.Sv f;rfl)
   |(obtain⟨_,_,rfl⟩:=Pu.Bi f;rfl)
   |(obtain⟨_,_,_,rfl⟩:=Pu.BU f;rfl)
   |(obtain⟨_,_,_,_,rfl⟩:=Pu.D5 f;rfl)
   |(obtain⟨_,_,_,_,_,rfl⟩:=Pu.Zaj f;rfl)):Def K mg x st ps:=D.d X g b
def MI.e (D:MI K C m q st) (e:C'=C) (b:Bd m q st ps:=by
  intro _ _ _ _ _ _ us f
  first
   |(obtain⟨_,rfl⟩:=Pu.Sv f;rfl)
   |(obtain⟨_,_,rfl⟩:=Pu.Bi f;rfl)
   |(obtain⟨_,_,_,rfl⟩:=Pu.BU f;rfl)
   |(obtain⟨_,_,_,_,rfl⟩:=Pu.D5 f;rfl)):X1 K (X4 K C' m) m q st ps:=D.d e b
def MI.j (D:MI K C "__init__" q st) (e:C'=C) (mk:PySem.W.makesIn K C=true) (g:PySem.W.keepIn K (.ref C)=true) (b:Bd "__init__" q st ps:=by
  intro _ _ _ _ _ _ us f
  first
   |(obtain⟨_,rfl⟩:=Pu.Sv f;rfl)
   |(obtain⟨_,_,rfl⟩:=Pu.Bi f;rfl)
   |(obtain⟨_,_,_,rfl⟩:=Pu.BU f;rfl)):X1 K (Mk K C') "__init__" q st ps:=D.i e mk g b
end
section
variable {P:Program}{w:World}{K:Yg}{mg:Yk}{base:Heap}{N ps:Yp}{sp:Sp}{p:PTS}{x q:Str}{st:Stmt}{k:Nat}{W:Addr->Prop}
structure Uz (K:Yg) (mg:Yk) (N ps:Yp) (sp:Sp) (p:PTS):Prop where
 len:∀vs H Q E,sp vs H Q E->vs.length=ps.length
 run:∀vs H Q E t,sp vs H Q E->Xr K mg (λ_=>E) t p->t {nx:=λ_ H'=>Q .non H',rt:=Q} (start N vs) H
def Uz.a (b:∀ds R X,c ds R X->ds.length=ps.length/\p {nx:=λ_=>R (.sh .non),rt:=R,ex:=λ_ e=>X e} (Pf N ds)) (f:autoParam (ps.length<=N.length) au_1):Uz K mg N ps (Xp mg c K) p:=
 ⟨λ_ _ _ _ h=>Za5 h λds R X z=>(b ds R X z).1,λ_ _ _ _ _ h s=>Zf5 h s f b⟩
def Uz.c {c y} (f:∀o b R X,c o b R X->b.length=ps.length/\p (Il o R X) (Ts N o b)) (g:autoParam (ps.length+1<=N.length) au_1):Uz K mg N (y::ps) (spW mg c K) p:=
 ⟨λ_ _ _ _ h=>RE h λo l R X z=>(f o l R X z).1,λ_ _ _ _ _ h s=>Zgs h s g f⟩
def _root_.Own.Def.oz (D:Def K mg x st ps) (S:Xk N ps (Xh st))
  (g:∀f b A outer s H E,Xo k (A.deeper<|envOfC x (Xh st) s.heap.objs.size f b)->
   ∃t,PSs (XI CX0 P w K mg base N x (Xh st) f b A outer s H E).nox (XA st) t/\Xr K mg (λ_=>E) t p) (u:Uz K mg N ps sp p):Callee P w K mg base CX0 (k+1) x ps sp:=
 D.ok S u.len λf b A outer s H n Q E l h=>(g f b A outer s H E l).elim λt z=>⟨t,z.1,u.run _ _ _ _ _ h z.2⟩
def _root_.Own.Def.ox (D:Def K mg x st ps) (S:Xk N ps (Xh st))
  (g:∀f b A outer s H E,Xo k (A.deeper<|envOfC x (Xh st) s.heap.objs.size f b)->
   ∃t,PSs (XI (ExcR.CXe P w) P w K mg base N x (Xh st) f b A outer s H E) (XA st) t/\Xr K mg (λ_=>E) t p) (u:Uz K mg N ps sp p):Callee P w K mg base (ExcR.CXe P w) (k+1) x ps sp:=
 ExcR.Def.okX D S u.len λf b A outer s H n Q E l h=>(g f b A outer s H E l).elim λt z=>⟨t,z.1,u.run _ _ _ _ _ h z.2⟩
def X1.oz (D:X1 K W x q st ps) (S:Xk N ps (Xh st))
  (g:∀f b A outer s H E,Xo k (A.deeper<|envOfC q (Xh st) s.heap.objs.size f b)->
   ∃t,PSs (XI CX0 P w K mg base N q (Xh st) f b A outer s H E).nox (XA st) t/\Xr K mg (λ_=>E) t p) (u:Uz K mg N ps sp p):KJ P w K mg base CX0 (k+1) W ps sp:=
 D.ok S u.len λf b A outer s H n Q E l h=>(g f b A outer s H E l).elim λt z=>⟨t,z.1,u.run _ _ _ _ _ h z.2⟩
def X1.ox (D:X1 K W x q st ps) (S:Xk N ps (Xh st))
  (g:∀f b A outer s H E,Xo k (A.deeper<|envOfC q (Xh st) s.heap.objs.size f b)->
   ∃t,PSs (XI (ExcR.CXe P w) P w K mg base N q (Xh st) f b A outer s H E) (XA st) t/\Xr K mg (λ_=>E) t p) (u:Uz K mg N ps sp p):KJ P w K mg base (ExcR.CXe P w) (k+1) W ps sp:=
 D.okX S u.len λf b A outer s H n Q E l h=>(g f b A outer s H E l).elim λt z=>⟨t,z.1,u.run _ _ _ _ _ h z.2⟩
end
section
variable {K:Yg}{h:Heap}{mg:Yk}{x:Str}{C:Addr}
structure EI (K:Yg) (x:Str) (C:Addr):Prop where
 a:PySem.W.nsIn K mainGlobals x=some (some<|.ref C)
 g:ExcR.XX K C
def ei(a:PySem.W.nsIn K mainGlobals x=some (some<|.ref C))(q:PySem.W.excIn K C [.type "ValueError",.type "Exception",.type "BaseException",.type "object"] "ValueError.__new__"=true)(f:PySem.W.findIn K (.ref C) "__getattribute__"=some (some<|.builtin "BaseException.__getattribute__"))(b:PySem.W.findIn K (.ref C) "__getattr__"=some none)(g:PySem.W.findIn K (.ref C) "__class__"=some (some<|.builtin "object.__class__"))(i:PySem.W.clsIn K C=some d):EI K x C:=⟨a,⟨⟨q⟩,f,b,g,by rw[i];rfl⟩⟩
def EI.c (y:EI K x C) (X:K.In h) (b:h.Ns mainGlobals mg):ExcR.Xi mg x=C:=ExcR.FM (Qe X b y.a)
def EI.m (y:EI K x C) (X:K.In h) (b:h.Ns mainGlobals mg):mg x=some (.ref<|ExcR.Xi mg x):=by rw[y.c X b];exact Qe X b y.a
def EI.k (y:EI K x C) (X:K.In h) (b:h.Ns mainGlobals mg):ExcR.XX K (ExcR.Xi mg x):=by rw[y.c X b];exact y.g
end
section
variable {K:Yg}{mg:Yk}{E:L2.St->XK}{H0 H H1 H':Hp}{B Z Z':Addr->Prop}{σ:L2.St}{γ:Γ}
noncomputable def Zjh(a b:PTE):PTE:=λγ R X=>a γ (λs=>b γ (λu=>match s,u with
 | .own (.lst g),.own (.lst f)=>Kq g=true/\Kq f=true/\∀x y,R (.own<|.nst [(x,g),(y,f)])
 |_,_=>False) X) X
def Zin{a b}(ha:Xf K mg E G a)(hb:Xf K mg E C b):Xf K mg E (Cg<|XH G<|XH C Kt) (Zjh a b):=by
 intro H0 B H σ γ R X Q p h q M;refine ha H0 B H σ γ _ X _ p h (λs v H1 p1 A G=>?_) M;have f:=p.grow A;refine hb H0 B H1 σ γ _ X _ f p1 (λu w H2 p2 r C=>?_) λc H' n S'=>M c H' n (A.trans S');split at p2
 ·rename_i d1 d2;obtain⟨i1,i2,p2⟩:=p2;obtain⟨x,rfl,x0,vs,L,x2⟩:=G;obtain⟨y,rfl,y0,ws,y1,Y⟩:=C;have N:=y0 y rfl;refine⟨by show 2<=sizeLine;decide,λl nl=>?_⟩;have g:=XJ (o:=.tup [.ref x,.ref y]) nl;have U:=g _ _ (r _ _ L);have T:=g _ _ y1
  have J:∀c,(zof B γ σ c\/(O.nst [(x,d1),(y,d2)]).adr l c)->Mut (upd H2 l (.tup [.ref x,.ref y]) c):=λc z=>by
   rcases z with z|⟨e,he,z⟩
   ·exact Po g ((f.grow r).zm c z)
   ·rcases WA.mp he with rfl|he
    ·rw[z,U];trivial
    ·rw[Wz.mp he]at z;rw[z,T];trivial
  refine q _ _ _ (p2 x y) ((A.trans r).trans g) ⟨l,rfl,?_,?_,?_,?_⟩
  ·rintro c ⟨e,he,rfl⟩;rcases WA.mp he with rfl|he
   ·exact(x0 x rfl)
   ·rw[Wz.mp he];exact A.free N
  ·refine XN Xw λz=>?_
   have:=J l z
   rw[Xw]at this;exact this
  ·rintro c n;rcases WA.mp n with rfl|n
   ·exact⟨vs,U,Rps.off J (Rps.mono (off_sub.trans<|r.trans g) x2) i1⟩
   ·rw[Wz.mp n];exact⟨ws,T,Rps.off J (Rps.mono (off_sub.trans g) Y) i2⟩
  ·show[x,y].Nodup;simp[(Kf L N)]
 ·exact p2.elim
end
theorem NoFld.of:∀{xs:Yp},(xs.all λx=>!(m==x))=true->NoFld m xs
 |[],_,_|_::_,_,[]=>rfl
 |x::xs,h,v::b=>by
  rw[Vs,Qa]at h;show(match m==x with|true=>some v|false=>(xs.zip b).lookup m)=none
  rw[show(m==x)=false by simpa using h.1];exact NoFld.of h.2 b
theorem FldAt.of (g:(f==f)=true):∀{xs}{j:Nat},((xs.take j).all λx=>!(f==x))=true->xs[j]?=some f->FldAt f xs j
 |[],_,_,e,_,_=>by simp at e
 |_::_,_,_,_,[],e=>rfl
 |x::xs,0,_,e,v::b,_=>by
  simp_all
 |x::xs,j+1,h,e,v::b,l=>by
  rw[List.take_succ_cons,Vs,Qa]at h;show(match f==x with|true=>some v|false=>(xs.zip b).lookup f)=(v::b)[j+1]?
  rw[show(f==x)=false by simpa using h.1];exact FldAt.of g h.2 (by grind) b (by grind)
theorem PutAt.of:∀{xs:Yp},(xs.all λx=>decide (x≠f))=true->PutAt f xs
 |[],_,[],_,_=>rfl
 |[],_,_::_,_,e|_::_,_,[],_,e=>by cases e
 |x::xs,h,v::b,y,e=>by
  rw[Vs,Qa]at h;show(if x=f then(x,y)::xs.zip b else(x,v)::Ku f y (xs.zip b))=(x,v)::(xs++[f]).zip (b++[y]);rw[W3 (W7 h.1),PutAt.of h.2 b y (by grind)]
end Pu
namespace Lam
open L2 Own
section
variable {X:Cx}{pins:Yj}{σ:L2.St}{H:Hp}{A:Around}{E:Yl}{s:Shared}{kS D:Addr}{vs:Yo}{kz:Yi}{keys:Array Value}{e e1:Nat}
def Zce{H h a o}(x:HOk P w H h)(f:H a=none)(new:ObjOk P w (upd H a o) h a o):HOk P w (upd H a o) h:=λb u e=>by
 by_cases g:b=a
 ·subst g;rw[Xw]at e;cases e;exact new
 ·rw[Xl g]at e;exact(x b u e).stay (λc v _ q=>q) (λc q=>by rw[Xl (Kf q f)];exact q) λc xs q=>by rw[Xl (Kf q f)];exact q
variable {P:PySem.Fin->Shared->Prop}
end
end Lam
namespace ExcR
open L2
open Sem (wp)
section
variable {prog:Program}{w:World}{A:Around}{E:Yl}{h:Heap}{g:Array GenState}{d:Drawn}{t:Nat}{os:OsState}
variable {nm q:Str}{C N:Addr}{bs bm bmB:Yo}{hdct:Bool}{sn:Yp}{sub:Yo}{ab:Bool}{col:Option Bool}{dd:Yt}{k0 k1 k2 k3 k5:Ys}{B Bn newId nid initId inN:String}{bmN:Yo}
noncomputable def P6(C t:Addr)(b:Yt):Obj:={cls:=.ref C,dict:=b,data:=.fields #[.ref t,.none,.none,.none,.bool false,.none]}
def R0(H:ExcBaseFacts Bn newId inN bmN)(u:bmB.contains (.type Bn)=true)(F:ExcBaseFacts B nid initId bmB)(T:OwnTail h bmB bm){M rest fI L Q}(s:h.get? C=some (excClassObj nm q C N bs bm hdct sn sub ab col dd k0 k1 k2 k3 k5 newId))(hn:h.Ns N M)(hi:M "__init__"=some (.ref fI))(z:h.get? fI=some L)(y:L.cls=.type "function")(hq:∀U e,Heap.MadeExcOf h U e (.ref C) rest->wpAny (model prog w) A (call (.ref fI) (.ref e::rest)) (λr J=>r=.none/\Q (.done<|.ret<|.ref e) J) E ⟨U,g,d,t,os⟩)(hrest:autoParam (rest.length<=sizeLine) au_8) :
  wpAny (model prog w) A (Builtin.«type.__call__» ⟨.ref C::rest,[]⟩) Q E ⟨h,g,d,t,os⟩:=by
 repeat (first|with_reducible refine Qx s ?_|with_reducible refine wpAny_madeBy_exc s ?_|wp_step)
 refine codeAny_call_builtin_code (V4 _ H.quiet) (wpAny_check_new_subU H u T s ?_);refine codeAny_exc_new_subU H u F T s ?_ hrest;show wpAny _ _ _ _ _ _
 have k:∀b o,h.get? b=some o->((h.push {cls:=.type "tuple",data:=.seq rest.toArray}).push {cls:=.ref C,data:=.fields #[.ref h.objs.size,.none,.none,.none,.bool false,.none]}).get? b=some o:=
  λb o e=>W2 _ (W2 _ e)
 have f:=k _ _ s;have l:=k _ _ z;have p:=hn.keeps k;have v:=T.keeps k
 have n:((h.push {cls:=.type "tuple",data:=.seq rest.toArray}).push
   {cls:=.ref C,data:=.fields #[.ref h.objs.size,.none,.none,.none,.bool false,.none]}).get? (h.objs.size+1)=some
   {cls:=.ref C,data:=.fields #[.ref h.objs.size,.none,.none,.none,.bool false,.none]}:=by heap_get
 have G:(Value.ref C::bm).contains (.ref C)=true:=by simp
 unfold isInstance
 repeat (first|with_reducible refine Qx n ?_|(with_reducible refine Vv f ?_;rw[G])|wp_step)
 show wpAny _ _ (typeLookup (.ref C) _) _ _ _;refine wpAny_typeLookup_tail f p v F.mroIs F.init.lookup ?_;rw[hi];refine QH (Ww ?_);unfold bindSpecial;refine Ww (wpAny_typeOf ⟨_,l,y⟩ ?_);rw[W6 (by decide)];refine W1 (Ww (WV (hq _ (h.objs.size+1) ⟨k,QZ (Vf _),h.objs.size,n,QZ (W5 _),?_⟩) (λr J Y=>?_) λ_ _ x=>x))
 ·exact W2 _ (Heap.get?_push_at rfl rfl)
 ·obtain⟨rfl,hQ⟩:=Y
  wp_walk
  exact hQ
def Zgt(z:ExcBaseFacts Bn newId inN bmN)(o:bmB.contains (.type Bn)=true)(F:ExcBaseFacts B nid initId bmB)(T:OwnTail h bmB bm){s rest fI p Q}(b:h.get? C=some (excClassObj nm q C N bs bm hdct sn sub ab col dd k0 k1 k2 k3 k5 newId))(v:h.Ns N s)(y:s "__init__"=some (.ref fI))(n:h.get? fI=some p)(l:p.cls=.type "function")(hq:∀f e,Heap.MadeExcOf h f e (.ref C) rest->wpAny (model prog w) (A.under<|.builtin "type.__call__" ⟨.ref C::rest,[]⟩) (call (.ref fI) (.ref e::rest)) (λr u=>r=.none/\Q (.ref e) u) E ⟨f,g,d,t,os⟩)(hrest:autoParam (rest.length<=sizeLine) au_8) :
  wpAny (model prog w) A (call (.ref C) rest) Q E ⟨h,g,d,t,os⟩:=by
 have f1:=tc_lookup;have H:=tc_bind (.ref C);have G:(⟨h,g,d,t,os⟩:Shared).TypeIs (.ref C) "type":=⟨_,b,rfl⟩;refine Je (codeAny_of_tree ?_);show wpAny _ _ (callAny (.ref C) _) _ _ _
 repeat (any_goals (first|assumption|with_reducible refine Qx b ?_|wp_step))
 refine⟨rfl,?_⟩;refine codeAny_call_builtin_at (V4 _<|by decide +kernel) entry_typeCall (wpAny_check_type_call_sub b (R0 (hrest:=hrest) z o F T b v y n l λf e x=>?_));exact hq f e x
end
section
variable {prog:Program}{w:World}{A:Around}{E:Yl}{s:Shared}{env:Env}
variable {nm q:Str}{C N:Addr}{bs bm bmB:Yo}{hdct:Bool}{sn:Yp}{sub:Yo}{ab:Bool}{col:Option Bool}{dd:Yt}{k0 k1 k2 k3 k5:Ys}{B Bn newId nid initId inN:String}{bmN:Yo}
def Zht(f:bm.contains (.type "BaseException")=true)(u:A.handled=none)(h:wpAny (model prog w) A x (λv b=>∃e t r,v=.ref e/\b.heap.get? C=some (excClassObj nm q C N bs bm hdct sn sub ab col dd k0 k1 k2 k3 k5 newId)/\b.heap.get? e=some (P6 C t r)/\E (.ref e) b) E s) :
  wpAny (model prog w) A (raiseStmt env (some x) none) Q E s:=by
 have n:(Value.ref C::bm).contains (.type "BaseException")=true:=by rw[V6,f,J0]
 unfold raiseStmt;refine Ww (WV h (λv b l=>?_) λ_ _ x=>x);obtain⟨e,t,r,rfl,p,o,y⟩:=l;obtain⟨G,g,d,z,os⟩:=b;unfold P6 at o
 repeat (first|with_reducible refine Qx o ?_|with_reducible refine Qx p ?_|(with_reducible refine Vv p ?_;rw[n])|wp_step)
 exact wpAny_raiseNew_none u y
def Zha(Fn:ExcBaseFacts Bn newId inN bmN)(U:bmB.contains (.type Bn)=true)(F:ExcBaseFacts B nid initId bmB){mN x np cpos pos args fI oI Q}(p:bm.contains (.type "BaseException")=true)(hh:A.handled=none)(n:(backTo cpos<|starEach args env).any (·.1)=false)(hi:mN "__init__"=some (.ref fI))(J:oI.cls=.type "function")
  (h:wpAny (model prog w) A (eval (.Name x np) env) (λf o=>f=.ref C/\wpAny (model prog w) A (evalArgs (.ref C) true (backTo cpos<|starEach args env) [])
   (λa b=>a.kw=[]/\a.pos.length<=sizeLine/\b.heap.get? C=some (excClassObj nm q C N bs bm hdct sn sub ab col dd k0 k1 k2 k3 k5 newId)/\b.heap.Ns N mN/\OwnTail b.heap bmB bm/\b.heap.get? fI=some oI/\
    ∀G e,Heap.MadeExcOf b.heap G e (.ref C) a.pos->wpAny (model prog w) (A.under<|.builtin "type.__call__" ⟨.ref C::a.pos,[]⟩) (call (.ref fI) (.ref e::a.pos))
     (λr y=>r=.none/\y.heap.get? C=some (excClassObj nm q C N bs bm hdct sn sub ab col dd k0 k1 k2 k3 k5 newId)/\(∃t Y,y.heap.get? e=some (P6 C t Y))/\E (.ref e) y) E {b with heap:=G}) E o) E s) :
  wpAny (model prog w) A (exec (.Raise (some<|.Call (.Name x np) args [] cpos) none pos) env) Q E s:=by
 refine Ww (VP<|Zht (C:=C) (nm:=nm) (q:=q) (N:=N) (bs:=bs) (hdct:=hdct) (sn:=sn) (sub:=sub) (ab:=ab) (col:=col) (dd:=dd) (k0:=k0) (k1:=k1) (k2:=k2) (k3:=k3) (k5:=k5) (newId:=newId) p hh<|Ww (WV (wpAny_Call_ofName (WV h (λf o l=>?_) λ_ _ x=>x)) (λv s₃ u=>Ww (VP<|W1 u)) λ_ _ x=>x));obtain⟨rfl,l⟩:=l;refine Ww (QH (WV l (λa b g=>Ww (VP ?_)) λ_ _ x=>x));obtain⟨apos,akw⟩:=a;obtain⟨H,hlen,hC,hn,T,L,g⟩:=g;obtain rfl:=H;simp only[n];refine Ww (wpAny_keeperOf_exc hC ?_);refine Ww (Zgt Fn U F T hC hn hi L J λG e hm=>WV (g G e hm) (λr y z=>?_) λ_ _ x=>x);obtain⟨rfl,M,⟨t,Y,he⟩,hE⟩:=z;exact⟨rfl,Ww (QH<|wpAny_point<|W1 ⟨e,t,Y,rfl,M,he,hE⟩)⟩
end
end ExcR
namespace ExcR
open L2
open Sem (wp)
open Builtin Builtin.ObjectAttr
noncomputable def NR:Yo:=[.type "ValueError",.type "Exception",.type "BaseException",.type "object"]
noncomputable def Sh:Yo->Bool
 | .ref _::r=>Sh r
 |l=>l==NR
theorem HP(self:Value):∀{l:Yo},Sh l=true->refuseLoop self "__setattr__" l=pure ()
 | .ref c::r,e=>by rw[refuseLoop_ref];exact HP self e
 |[],e=>rfl
 | .type n::r,e=>by
  have:=beq_iff_eq.mp e
  rw[this];exact PySem.F.store_ValueError.passes self
theorem EG:∀{l:Yo},Sh l=true->l.contains (.type "object")=true
 | .ref c::r,e=>by rw[V6,EG (l:=r) e,J0]
 |[],e=>by cases e
 | .type n::r,e=>by
  have:=beq_iff_eq.mp e
  rw[this];decide
structure BZ (K:Yg) (C:Addr):Prop where
 po:(PySem.W.clsIn K C).any (λcd=>Sh cd.mro&&cd.hasDict)=true
 sa:PySem.W.findIn K (.ref C) "__setattr__"=some (some<|.builtin "object.__setattr__")
section
variable {prog:Program}{w:World}{A:Around}{E:Yl}{s:Shared}{K:Yg}{x C t:Addr}{name:Str}{v:Value}
def Zjc(X:K.In s.heap)(hx:s.heap.get? x=some (P6 C t none))(c:BZ K C)(n:NoAttr K C name)
  (h:∀g,g.get? x=some (P6 C t<|some s.heap.objs.size)->g.Ns1 s.heap.objs.size (λy=>if y=name then some v else none)->(∀b o,b≠x->s.heap.get? b=some o->g.get? b=some o)->s.heap.objs.size<=g.objs.size->
   Q () {s with heap:=g,toks:=s.toks+2}):wpAny (model prog w) A (setAttr (.ref x) name v) Q E s:=by
 have u:=PySem.F.store_object;have J:PySem.W.InstAt s.heap x (P6 C t none) C none:=⟨hx,rfl,rfl,True.intro⟩;obtain⟨Y,T,l⟩:=PySem.W.any_some c.po;obtain⟨l,M⟩:=(Qa _ _▸l:_/\_);have ne:Y.mro.isEmpty=false:=by cases q:Y.mro with|nil=>rw[q]at l;cases l|cons _ _=>rfl
 have sub:PySem.W.Looks (model prog w) s.heap (isInstance (.ref x)<|.type "object") true:=J.type.andThen (PySem.W.looks_mroIn X<|by unfold PySem.W.mroIn;rw[T,Option.bind_some,W3 (by rw[ne];decide),EG l]);have hm:PySem.W.Looks (model prog w) s.heap (mroOf<|.ref C) Y.mro:=(Jk X T).andThen .now;refine PySem.W.set_plain X J c.sa (Vr u.slot.plain u.entry (@PySem.W.check_slot (model prog w) _ _ {s with toks:=s.toks+1} "object.__setattr__" "object" "__setattr__" (.ref x) [.str name s.toks,v] [] _ u.kind u.split sub (u.args (.ref x) (.str name s.toks) v) ?_))
 rw[PySem.W.osa_eq,refuse_eq];refine Ww (Ww<|J.type.here (s:={s with toks:=s.toks+1})<|Ww<|hm.here (s:={s with toks:=s.toks+1}) ?_)
 rw[HP _ l];refine W1 (Ww<|J.type.here (s:={s with toks:=s.toks+1})<|Ww<|Js (Va X n)<|Ww<|W1 ?_)
 refine Ww (W1<|Ww<|Ww<|wpAny_loadPart hx<|Ww<|Js (Jk X T) ?_);rw[M];have f:(s.heap.push {cls:=.type "dict",data:=.dict #[]}).get? x=some (P6 C t none):=W2 _ hx;have p:=WM (W8 hx);refine Ww (wpAny_alloc' ?_);refine Ww (wpAny_update' f ?_);refine W1 ?_
 have H:((s.heap.push {cls:=.type "dict",data:=.dict #[]}).update x λo=>{cls:=o.cls,dict:=some s.heap.objs.size,data:=o.data,slots:=o.slots}).get? s.heap.objs.size
   = some {cls:=.type "dict",data:=.dict #[]}:=
  (Heap.get?_update_ne _ _ _ _ p.symm).trans (Heap.get?_push_at rfl rfl)
 have G:((s.heap.push {cls:=.type "dict",data:=.dict #[]}).update x λo=>{cls:=o.cls,dict:=some s.heap.objs.size,data:=o.data,slots:=o.slots}).Ns s.heap.objs.size (λ_=>none):=
  ⟨_,#[],_,H,rfl,λe he=>absurd he (by simp),λ_=>rfl⟩
 refine Ww (W1<|Ww (wpAny_nsSet1 (Heap.Ns1.of_empty G) λg r z=>?_));obtain⟨oD,esD,epD,B,L,N⟩:=r.count (Within.cons name v Within.nil);refine Ww (wpAny_lookBehind B (by rw[L];exact pastItsLine_dict (WC N<|by rw[Qq,List.length_nil,Jp];lia)) ?_);refine W1 (h g ?_ r (λb ob U hb=>?_) ?_)
 ·refine(z.2 x p).trans (Qj _ f rfl)
 ·exact(z.2 b<|WM<|W8 hb).trans ((Heap.get?_update_ne _ _ _ _ U).trans (W2 _ hb))
 ·rw[z.1,Heap.size_update,Vi];exact Vf _
end
end ExcR
namespace ExcR
open L2
section
variable {X:Cx}{pins:Yj}{σ:L2.St}{H:Hp}{s:Shared}{a b:Addr}
def Ml(I:Inv X pins σ H s)(n:H b=none)(E:b≠X.env.locals)(C:∀x c,X.env.cells.lookup x=some c->c≠b)(B:∀p∈X.pn++pins,p.1≠b)(A:∀c u,X.s₀.heap.get? c=some u->c≠b)(new:ObjOk X.prog X.w (upd H b o) s.heap b o):Inv X pins σ (upd H b o) s:=by
 refine⟨I.ok,I.os,I.bare,⟨λc u g h f r=>I.base.keep c u g h f r,λc u g h f r=>I.base.slot c u g h f r,λc u g h f=>?_,I.base.there,λc y g=>?_,λc u v g=>?_,λc z g=>?_⟩,I.loc,I.cell,?_,λx c g=>?_,λp l=>?_,?_,I.len⟩
 ·rw[Xl (A c u g)];exact I.base.free c u g h f
 ·rw[Xl (Kf (I.base.tups c y g) n)];exact I.base.tups c y g
 ·rw[Xl (Kf (I.base.frzs c u v g) n)];exact I.base.frzs c u v g
 ·obtain⟨m,q⟩:=I.base.tbls c z g;exact⟨m,by rw[Xl (Kf q n)];exact q⟩
 ·rw[Xl (Ne.symm E)];exact I.free
 ·rw[Xl (C x c g)];exact I.freeC x c g
 ·obtain⟨a1,a2,a3,a4,a5⟩:=I.pin p l;exact⟨a1,by rw[Xl (B p l)];exact a2,a3,a4,a5⟩
 ·exact Lam.Zce I.hok n new
def Zc9(I:Inv X pins σ H s)(hex:X.ex=[])(h:s.heap.get? b=none)(k:∀c u,s.heap.get? c=some u->l.get? c=some u)(new:ObjOk X.prog X.w (upd H b o) l b o) :
  Inv X pins σ (upd H b o) {s with heap:=l,toks:=t'}:=by
 have g:∀{c u},s.heap.get? c=some u->c≠b:=λ{c u} e z=>by rw[z,h]at e;cases e
 refine Ml (I.kept k) (Dh I.hok h) ?_ (λx c e=>?_) (λp n=>g (I.pin p n).1) (λc u e=>?_) new
 ·obtain⟨m,⟨o1,y,A,f,_⟩,_⟩:=I.loc
  grind
 ·obtain⟨v,o1,f,_⟩:=I.cell x c e
  grind
 ·obtain⟨r,f⟩:=I.base.there c u e (by grind);exact g f
noncomputable def er(H:Hp)(a:Addr):Hp:=λb=>if b=a then none else H b
def Bq:er H a a=none:=by unfold er;rw[W6 rfl]
def T8(h:b≠a):er H a b=H b:=by unfold er;rw[W3 h]
def Zhr(h:er H a b=some o):H b=some o:=by
 by_cases z:b=a
 ·rw[z,Bq]at h;cases h
 ·rw[T8 z]at h;exact h
def forget(I:Inv X pins σ H s)(G:H a=some (.ext φ)):Inv X pins σ (er H a) s:=by
 have f:∀{c o},H c=some o->(∀B,o≠HO.ext B)->c≠a:=λ{c o} e n z=>by rw[z,G]at e;exact n _ (WD e).symm
 have r:∀{c},H c=none->er H a c=none:=λ{c} e=>by
  by_cases z:c=a
  ·rw[z];exact Bq
  ·rw[T8 z];exact e
 refine⟨I.ok,I.os,I.bare,⟨λc u g l h y=>I.base.keep c u g l h y,λc u g l h y=>I.base.slot c u g l h y,λc u g l h=>r (I.base.free c u g l h),I.base.there,λc C g=>?_,λc u v g=>?_,λc E g=>?_⟩,I.loc,I.cell,r I.free,λx c g=>r (I.freeC x c g),λp A=>?_,λc o e=>?_,I.len⟩
 ·have q:=I.base.tups c C g;rw[T8 (f q λ_ z=>nomatch z)];exact q
 ·have q:=I.base.frzs c u v g;rw[T8 (f q λ_ z=>nomatch z)];exact q
 ·obtain⟨m,q⟩:=I.base.tbls c E g;exact⟨m,by rw[T8 (f q λ_ z=>nomatch z)];exact q⟩
 ·obtain⟨a1,a2,a3,a4,a5⟩:=I.pin p A
  grind
 ·refine(I.hok c o<|Zhr e).stay (λ_ _ _ z=>z) (λd z=>?_) λd xs z=>?_
  ·rw[T8 (f z λ_ w=>nomatch w)];exact z
  ·rw[T8 (f z λ_ w=>nomatch w)];exact z
def OW(I:Inv X pins σ H s)(h:H l=some (.lst xs)):∃o,Inv X pins σ (upd H l<|.frz o<|.lst xs) s:=by
 obtain⟨z,f,n,r,e⟩:=(I.hok l _ h);exact⟨_,B7 I (by rw[h];trivial) ⟨rfl,λ_ _=>rfl⟩ ⟨_,e⟩ ⟨e,z,f,n,r,e⟩⟩
end
def Zi1(K:Yg)(C f:Addr):Prop:=∃(r:Yt) (b:ClassData) (sl:Array (Ys)) (g:Yo) (p o n l h:Ys),K.lookup C=some ⟨.type "type",r,.cls b,sl⟩/\b.mro=.ref C::g/\
 sl.toList=[p,o,n,l,some (.builtin "ValueError.__new__"),h]/\b.hasDel=false/\PySem.W.tailIn K NR g=true/\PySem.W.nsOkIn K b.ns=true/\PySem.W.nsIn K b.ns "__init__"=some (some<|.ref f)
def Zfe{K h N b n v}(X:K.In h)(G:h.Ns N b)(e:PySem.W.nsIn K N n=some (some v)):b n=some v:=by
 obtain⟨o,u,w,p,s,_,f⟩:=G;unfold PySem.W.nsIn at e;split at e
 ·rename_i c d g l sl q
  have:=X _ _ q
  split at e
  ·rename_i x r;rw[←f];unfold nsFind findBy
   grind
  ·grind
 ·cases e
structure Pr (K:Yg) (C f:Addr):Prop where
 q:Zi1 K C f
 fn:PySem.W.typeIn K (.ref f)=some (.type "function")
 st:BZ K C
 ga:PySem.W.findIn K (.ref C) "__getattribute__"=some (some<|.builtin "BaseException.__getattribute__")
 gt:PySem.W.findIn K (.ref C) "__getattr__"=some none
 nm:NoAttr K C "members"
 cl:PySem.W.findIn K (.ref C) "__class__"=some (some<|.builtin "object.__class__")
def Pr.obj {K C f h} (c:Pr K C f) (k:K.In h):∃b N nm q bs hdct sn sub ab col dd k0 k1 k2 k3 k5 n,h.get? C=some (excClassObj nm q C N bs b hdct sn sub ab col dd k0 k1 k2 k3 k5 "ValueError.__new__")/\h.Ns N n/\n "__init__"=some (.ref f)/\
  OwnTail h NR b:=by
 obtain⟨dd,B,sl,b,k0,k1,k2,k3,k5,x,o,E,s,z,l,r⟩:=c.q;have p:=k _ _ x;cases B with
 |mk nm bs w v u y sn sub ab col A=>
  simp only at o s l r;have g:sl=#[k0,k1,k2,k3,some (.builtin "ValueError.__new__"),k5]:=by grind
  rw[o,s,g]at p;exact⟨b,v,nm,u,bs,y,sn,sub,ab,col,dd,k0,k1,k2,k3,k5,_,p,.of_isNs (Jt k l),Zfe k (.of_isNs<|Jt k l) r,PySem.W.tail_of_in k z⟩
noncomputable def Pm(a C t:Addr)(b:Yt):HO:=.ext λh=>h.get? a=some (P6 C t b)
def Gj{a C t b}(e:h.get? a=some (P6 C t b)):ObjOk P w H h a (Pm a C t b):=⟨e,⟨_,e⟩,λ_ _ q k=>k _ q⟩
noncomputable def Im(K:Yg)(f:Str)(n te:TE):TS:=λD g H=>te g H λy p=>n g p λx b=>∃a C t l xs,x=.ref a/\y=.ref l/\b a=some (Pm a C t none)/\BZ K C/\NoAttr K C f/\b l=some (.lst xs)/\
 ∀o h,b h=none->D.nx g (upd (upd (upd b l<|.frz o<|.lst xs) a<|Pm a C t<|some h) h<|.xd [(f,.ref l)])
def Zd2{pos p}{N M}(ha:PE X o N)(hv:PE X value M)(hs:swapsWith value (some<|.Attribute o f p) pos.line X.env=pure false):PS X (.Assign [.Attribute o f p] value pos) (Im X.K f N M):=by
 intro pins s w H D I h;refine plainObj_wpAny_Assign_Attribute (thn (hv pins s w H _ I h) ?_) hs;rintro u Y ⟨y,H1,I1,ry,q⟩;refine thn (ha pins Y w H1 _ I1 q) ?_;rintro ov A ⟨x,L,v,rx,a,C,t,l,xs,ex,ey,E,c,n,T,q2⟩;subst ex ey;obtain rfl:=rx;obtain rfl:=ry;obtain⟨B,J⟩:=OW v T;have G:upd L l (.frz B<|.lst xs) a=some (Pm a C t none):=by rw[Xl (Cj E T λz=>nomatch z)];exact E
 have Q:=v.hok.fresh (W5 _);refine Zjc v.kIn ((v.hok a _ E).1) c n λh' U h2 h3 h4=>?_;have f0:=J.fpOk (H':=upd (upd L l<|.frz B<|.lst xs) a (Pm a C t<|some A.heap.objs.size)) (W5 _) (by rw[Xl (Kf E Q |>.symm)];exact(J.hok.fresh<|W5 _))
 have I4:Inv X pins w (upd (upd L l<|.frz B<|.lst xs) a<|Pm a C t<|some A.heap.objs.size) {A with heap:=h',toks:=A.toks+2}:=
  J.write (by rw[G];exact True.intro) (.inl rfl) (λb q r z=>h3 b q r z) ⟨_,U⟩ (Gj U)
 have I5:=Ml (o:=.xd [(f,.ref l)]) I4 f0.1 f0.2.1 f0.2.2.2.2.1 f0.2.2.2.2.2 (λc u e z=>by
  have:=W8 e
  rw[z]at this
  exact absurd (WR this v.sz) (Q9 _)) ⟨_,h2,λg=>by
   by_cases r:g=f
   ·subst r;simp only[List.lookup,beq_self_eq_true];exact rfl
   ·rw[W3 r];simp only[List.lookup,Q8.mpr r];exact True.intro⟩
 exact⟨w,_,I5,q2 B _ Q⟩
def Ig(X:Cx)(E:XK):Prop:=∀(pins:Yj) (f:L2.St) (H:Hp) (s:Shared) (C a t:Addr) (b:Yt),Inv X pins f H s->s.heap.get? a=some (P6 C t b)->H a=none->X.s₀.heap.get? a=none->E (.ref C) b H->X.xe (.ref a) s
noncomputable def SB(K:Yg):Sp:=λf H Q _=>∃(a C t p:Addr) (xs:List V),f=[.ref a,.ref p]/\H a=some (Pm a C t none)/\SqL K H p xs/\BZ K C/\NoAttr K C "members"/\
 ∀(l b:Addr) (o:Obj),H l=none->H b=none->b≠l->Q .non (upd (upd (upd H l<|.frz o<|.lst xs) a<|Pm a C t<|some b) b<|.xd [("members",.ref l)])
noncomputable def HR(K:Yg)(C:Addr)(E:XK)(t:TA):TS:=λ_ g H=>t g H λh f=>∃(p:Addr) (xs:List V),h=[.ref p]/\SqL K f p xs/\
 ∀(l b:Addr) (o:Obj),f l=none->f b=none->b≠l->E (.ref C) (some b) (upd (upd f l<|.frz o<|.lst xs) b<|.xd [("members",.ref l)])
def Za6{a l f o0 o1 F D}(n:H a=none)(g:l≠a)(h:f≠a):er (upd (upd (upd (upd H a o0) l F) a o1) f D) a=upd (upd H l F) f D:=by
 funext b;by_cases z:b=a
 ·subst z;rw[Bq,Xl (Ne.symm h),Xl (Ne.symm g),n]
 ·rw[T8 z];by_cases y:b=f
  ·rw[y,Xw,Xw]
  ·rw[Xl y,Xl y,Xl z];by_cases x:b=l
   ·rw[x,Xw,Xw]
   ·rw[Xl x,Xl x,Xl z]
section
variable {X:Cx}{x:Str}{C:Addr}{E:XK}{e:Expr}{t:TA}{p cpos pos:Pos}{k:Nat}{ps:Yp}
def OI(Ci:Pu.KJ X.prog X.w X.K X.mg X.base CX0 k (Pr X.K C) ps (SB X.K))(hr:Xo (k+1) X.A)(hm:X.mg x=some (.ref C))(hR:Ig X E)(hex:X.ex=[])(hc:X.calm=true)(ha:PA X [e] t)(hg:autoParam (Gl X x) au_0)(hdb:autoParam ((x==("__debug__" : Str))=false) au_1)(he:autoParam (starEach [e] X.env=[(false,eval e X.env)]) au_0):PS X (.Raise (some<|.Call (.Name x p) [e] [] cpos) none pos) (HR X.K C E t):=by
 obtain⟨f,fd,F,G,hb⟩:=Ci.ex;intro pins s σ H D I h;obtain⟨bm,N,nm,q,bs,hdct,sn,sub,ab,col,dd,k0,k1,k2,k3,k5,mN,hC,hN,hni,hT⟩:=G.obj I.ok.mod.kin;obtain⟨oI,Y,hcI⟩:=Option.map_eq_some_iff.mp G.fn
 have U:(backTo cpos<|starEach [e] X.env).any (·.1)=false:=by
  rw[he];rfl
 refine Zha (nm:=nm) (q:=q) (N:=N) (bs:=bs) (hdct:=hdct) (sn:=sn) (sub:=sub) (ab:=ab) (col:=col) (dd:=dd) (k0:=k0) (k1:=k1) (k2:=k2) (k3:=k3) (k5:=k5)
  QW (by decide +kernel) QW (hT.hasType<|by decide +kernel) (I.ok.hd hc) U hni hcI (PN I hg hm ⟨rfl,?_⟩ hdb)
 have hA:=ha cpos pins s σ H _ I h;rw[he]at hA ⊢;refine Jf (thn hA ?_);rintro us s2 ⟨vs,T,B,r2,p2,xs,ev,hp,q2⟩;subst ev;obtain⟨u,rfl,ru⟩:=r2.one;obtain rfl:=ru;refine⟨rfl,by show 1<=_;rw[Jp];lia,B.bk _ _ hC,hN.keeps B.bk,hT.keeps B.bk,B.bk _ _ (I.ok.mod.kin _ _ Y),λh' a g=>?_⟩;obtain⟨n,ht,_,_⟩:=g.there;have na:=Dh B.hok g.new;have I3:=Zc9 (t':=s2.toks) B hex g.new g.keeps (Gj ht)
 have J:SB X.K [.ref a,.ref p2] (upd T a<|Pm a C n none) (λv H3=>v=.non/\∃l b o,T l=none/\T b=none/\b≠l/\l≠a/\b≠a/\H3=upd (upd (upd (upd T a<|Pm a C n none) l<|.frz o<|.lst xs) a<|Pm a C n<|some b) b (.xd [("members",.ref l)])) (λ_ _ _=>False):=by
  refine⟨a,C,n,p2,xs,rfl,Xw,(Own.XJ na).seq hp,G.st,G.nm,λl b o Q M h3=>⟨rfl,l,b,o,?_⟩⟩;have e1:l≠a:=λz=>by rw[z,Xw]at Q;cases Q
  have e2:b≠a:=λz=>by rw[z,Xw]at M;cases M
  rw[Xl e1]at Q;rw[Xl e2]at M;exact⟨Q,M,h3,e1,e2,rfl⟩
 have r3:Vals [V.ref a,V.ref p2] [Value.ref a,Value.ref p2]:=.cons rfl (.cons rfl .nil)
 have hl:([Value.ref a,Value.ref p2]++[]).length=ps.length:=by
  have:=F.len _ _ _ _ J
  exact this
 refine Je (QP (F.run _ X.stack _ _ ⟨[Value.ref a,Value.ref p2],[]⟩ [Value.ref a,Value.ref p2] _ _ (λ_ _ _=>False) (hr.make C [.ref p2] []) (I3.env0.make C [.ref p2] []) (hb _ [Value.ref a,Value.ref p2] I3.kIn hl) r3 J) λr s' y=>?_);cases r with
 |error e=>exact False.elim y
 |ok fl=>
  cases fl with
  |ret u=>
   obtain⟨v,H',I4,rv,ev,l,b,o,n1,n2,n3,n4,n5,eH⟩:=I3.after y;subst ev;obtain rfl:=rv;have ea:H' a=some (Pm a C n<|some b):=by rw[eH,Xl (Ne.symm n5),Xw]
   have L:=(I4.hok a _ ea).1;refine⟨rfl,I4.bk _ _ hC,⟨n,some b,L⟩,hR pins σ (er H' a) s' C a n (some b) (forget I4 ea) L Bq (SH B hex g.new) ?_⟩;rw[eH,Za6 na n4 n5];exact q2 l b o n1 n2 n3
  |_=>exact False.elim y
def Zci{K g base N qual scope f cd A outer s H E} :
  Ig (XI (CXe P w) P w K g base N qual scope f cd A outer s H E) E:=by
 intro pins u r B C a t n I h l b q;exact WV (GJ I rfl rfl rfl b l h rfl rfl rfl rfl) (λ_ v ⟨o,y⟩=>⟨a,o,C,n,r,rfl,y,q⟩) λ_ _ z=>z
def Zbj{K vs H Q E D}(h:SB K vs H Q E)(u:D.nx=λ_ H'=>Q .non H') :
  Im K "members" (Kw 0) (tCB (λxs H Q=>∃p b,xs=[.ref p]/\(SqL K H p b\/SqT K H p b)/\∀l,H l=none->Q (.ref l) (upd H l<|.lst b))<|XH (Kw 1) Kt) D (start ["self","members"] vs) H:=by
 obtain⟨a,C,t,p,xs,rfl,g,s,c,n,q⟩:=h;refine⟨_,rfl,p,xs,rfl,.inl s,λl r=>⟨_,rfl,a,C,t,l,xs,rfl,rfl,?_,c,n,Xw,λo w f=>?_⟩⟩
 ·rw[Xl (Kf g r)];exact g
 ·have v:w≠l:=λz=>by rw[z,Xw]at f;cases f
  rw[Xl v]at f;rw[u,DR]
  grind
end
end ExcR
namespace Pu
open L2 Own M
section
variable {K:Yg}{mg:Yk}{E:L2.St->XK}{H0 H H1 H':Hp}{B Z Z':Addr->Prop}{σ:L2.St}{γ:Γ}
theorem El:∀{ns:Yi}{vs:List V},Rps K H (ns.map D.int) vs->vs=ns.map V.int
 |[],_,h=>by cases h;rfl
 |n::ns,_,h=>by
  cases h with
  |cons h r=>rw[El r,h.int_inv];rfl
noncomputable def Zkg(r:PTA):PTS:=λR γ=>r γ (λf=>match f with
 |[s]=>(∃b:Yi,s.d=.lst (b.map D.int)/\R.ex γ (TN b))
 |_=>False) (R.ex γ)
def OC{Ec}(Q:X0 K mg (λ_=>Ec) G r):Xr K mg (λ_=>Ec) (ExcR.HR K (ExcR.Xi mg "Ringed") Ec G) (Zkg r):=by
 intro H0 B H σ γ R D hB b h e;refine Q H0 B H σ γ _ _ _ b h (λss A H1 w y J=>?_) λc H' T z=>e.ex σ γ c H' T (b.grow z) (Fr.grow z);split at w
 ·rename_i s;obtain⟨g,Y,U⟩:=w;obtain⟨v,rfl,C⟩:=J.one_inv;have f:=C.rp (b.grow y).same;rw[Y]at f;obtain⟨p,A,rfl,u,L⟩:=f.lst_inv;rw[El L]at u;refine⟨p,_,rfl,SqL.of u,λl dx o M N n=>?_⟩;have S2:Same H1 (upd (upd H1 l<|.frz o<|.lst<|g.map V.int) dx<|.xd [("members",.ref l)]):=(XJ M).trans (XJ<|by rw[Xl n];exact N);have x:=y.trans S2;exact(e.ex σ γ (TN g) _ U (b.grow x)<|Fr.grow x).mem Xw (by rw[Xl (Ne.symm n)];exact Xw)
 ·grind
end
end Pu
namespace Pu
open L2 Own
structure RI (K:Yg) (x:Str) (C:Addr) (q:Str) (st:Stmt):Prop where
 a:PySem.W.nsIn K mainGlobals x=some (some<|.ref C)
 ex:∃f fd,ExcR.Pr K C f/\Fun K "__init__" q st f fd
section
variable {K:Yg}{h:Heap}{mg:Yk}{x q:Str}{st:Stmt}{C M N f:Addr}
def Zhn{cd:ClassData}(m:PySem.W.excIn K M ExcR.NR "ValueError.__new__"=true):PySem.W.tailIn K ExcR.NR (.ref M::ExcR.NR)=true:=by
 unfold PySem.W.excIn at m;split at m
 next z cd sl b=>
  split at m
  next B A u s r p n o w v=>
   simp only[Qa,beq_iff_eq,Bool.not_eq_true']at m;obtain⟨⟨⟨_,y⟩,l⟩,g⟩:=m;unfold PySem.W.tailIn;rw[Bool.or_eq_true];right
   try dsimp only
   rw[b]
   try dsimp only
   rw[l,g];rfl
  grind
 next=>cases m
def ri{cd sl w k0 k1 k2 k3 k5 Q es n oc A T g kV r y b ct}(a:PySem.W.nsIn K mainGlobals x=some (some<|.ref C))(l:K.lookup C=some ⟨.type "type",dd,.cls cd,sl⟩)(s:cd.mro=.ref C :: .ref M::[.type "ValueError",.type "Exception",.type "BaseException",.type "object"])(dl:cd.hasDel=false)(p:cd.hasDict=true)(o:sl.toList=[k0,k1,k2,k3,some (.builtin "ValueError.__new__"),k5])(u:cd.ns=N)(E:K.lookup N=some ⟨Q,U,.dict es n,w⟩)(z:(es.toList.all λe=>match e.key with | .str _ _=>true|_=>false)=true)(i:PySem.W.nsIn K N "__init__"=some (some<|.ref f))(m:PySem.W.excIn K M [.type "ValueError",.type "Exception",.type "BaseException",.type "object"] "ValueError.__new__"=true)(fn:PySem.W.isFn K (.ref f)=true)(v:PySem.W.findIn K (.ref C) "__setattr__"=some (some<|.builtin "object.__setattr__"))(J:PySem.W.findIn K (.ref C) "__getattribute__"=some (some<|.builtin "BaseException.__getattribute__"))(H:PySem.W.findIn K (.ref C) "__getattr__"=some none)(G:PySem.W.findIn K (.ref C) "__class__"=some (some<|.builtin "object.__class__"))(nm:PySem.W.findIn K (.ref C) "members"=some none)(B:K.lookup f=some ⟨oc,A,.func (PySem.W.fnOf "__init__" q (KM st) (XA st) (Xh st) .none kV r y T b ct),g⟩)(c:PySem.W.codeIn K b q=true)(k:PySem.W.keepIn K (.ref f)=true):RI K x C q st:=by
 have L:PySem.W.clsIn K C=some cd:=by unfold PySem.W.clsIn;rw[l]
 refine⟨a,f,_,⟨?_,beq_iff_eq.mp fn,⟨?_,v⟩,J,H,nm,G⟩,Ft B c k⟩
 ·refine⟨dd,cd,sl,_,k0,k1,k2,k3,k5,l,s,o,dl,Zhn (cd:=cd) m,?_,by rw[u];exact i⟩;rw[u];unfold PySem.W.nsOkIn;rw[E];show(es.all _)=true;rw[←Array.all_toList];omega
 ·rw[L];show(ExcR.Sh cd.mro&&cd.hasDict)=true;rw[s,p];rfl
def RI.c (y:RI K x C q st) (X:K.In h) (b:h.Ns mainGlobals mg):ExcR.Xi mg x=C:=ExcR.FM (Qe X b y.a)
def RI.m (y:RI K x C q st) (X:K.In h) (b:h.Ns mainGlobals mg):mg x=some (.ref<|ExcR.Xi mg x):=by rw[y.c X b];exact Qe X b y.a
def RI.i (y:RI K x C q st) (X:K.In h) (b:h.Ns mainGlobals mg):∃g,ExcR.Pr K (ExcR.Xi mg x) g:=by
 obtain⟨f,l,e,_⟩:=y.ex;rw[y.c X b]
 grind
def RI.d (y:RI K x C q st) (e:p=C)
  (b:∀kV g n o l ct us,us.length=ps.length->bindArgs (PySem.W.fnOf "__init__" q (KM st) (XA st) (Xh st) .none kV g n o l ct) ⟨us,[]⟩=pure (ps.zip us)):X1 K (ExcR.Pr K p) "__init__" q st ps:=
 let ⟨_,_,i,F⟩:=y.ex
 ⟨_,_,F,by rw[e];exact i,F.binds b⟩
def RI.j (y:RI K x C q st) (e:l=C) (b:Bd "__init__" q st ps:=by
  intro _ _ _ _ _ _ us g;obtain⟨_,_,rfl⟩:=Pu.Bi g;rfl):X1 K (ExcR.Pr K l) "__init__" q st ps:=y.d e b
end
end Pu
namespace M
open L2 Own Pu
def Nc(f:Yi)(b:Yh)(X:Str->Prop)(A:Prop):Prop:=(∀r,FR f b r->r≠[]->X (TN r))/\((¬ ∃r,Ring f b r)->A)
noncomputable def pcc(ps:Yh):Int->Int->Int:=λx y=>pcM ps x y ps.length
end M
namespace ExcR
open L2
noncomputable def hxL(K:Yg):List (Addr×Option Nat×TS)->Ends->L2.St->XK
 |[],_=>λ_ _ _ _=>False
 |(n,l,g)::r,D=>λf c h H=>∃C b,c=.ref C/\PySem.W.exmOne K (.ref C) (.ref n)=some b/\
  if b=true then(match l with
   |some i=>∀a,H a=none->g (LA i D) (f.set i<|some<|.ref a) (upd H a<|Kn a C h)
   |none=>g D f H)else hxL K r D f c h H
section
variable {X:Cx}{pins pins1:Yj}{σ:L2.St}{H H':Hp}{s s':Shared}{h3:Heap}{a T C C0:Addr}{dx:Yt}{fl:Value}{D:Ends}{hs:List ExceptHandler}{L:List (Addr×Option Nat×TS)}
structure Pre (X:Cx) (pins:Yj) (σ:L2.St) (H H':Hp) (s s':Shared) (h3:Heap) (a T C:Addr) (dx:Yt) (fl:Value):Prop where
 I:Inv X pins σ H s
 os:s'.os=s.os
 bare:AllBare s'.gens
 na:s.heap.get? a=none
 nT:s.heap.get? T=none
 fa:H' a=none
 fT:H' T=none
 tr:Trc h3 a T (.ref C,dx) fl
 u:Un (frs X.stack) [] H H' s.heap h3
 ok:HOk X.prog X.w H' h3
def Pre.inv (p:Pre X pins σ H H' s s' h3 a T C dx fl):Inv X pins σ H' {s' with heap:=h3}:=p.I.call' p.os p.u p.ok p.bare λb z=>absurd z (by simp)
def PH(X:Cx)(hs:List ExceptHandler)(L:List (Addr×Option Nat×TS)):Prop:=∀(pins:Yj) (σ:L2.St) (H H':Hp) (s s':Shared) (h3:Heap) (a T C:Addr) (dx:Yt) (fl:Value) (D:Ends),
 Pre X pins σ H H' s s' h3 a T C dx fl->hxL X.K L D σ (.ref C) dx H'->wpAny (model X.prog X.w) X.A (handleBy (.ref a) X.env hs) (SP X pins D) X.xe {s' with heap:=h3}
def Zkd:PH X [] []:=λ_ _ _ _ _ _ _ _ _ _ _ _ _ _ h=>h.elim
section
variable {x n:Str}{np hpos:Pos}{b0:Stmt}{suite:Yr}{i:Nat}{ts:TS}
def Zde(hN:X.N.Nodup)(hi:X.N[i]?=some n)(G:X.env.scope.names.lookup n=some .local)(hg:Gl X x)(hm:X.mg x=some (.ref C0))(hdb:(x==("__debug__" : Str))=false)(Y:∀a,PSs (KB X a) (b0::suite) ts)(hr:PH X hs L):PH X (.ExceptHandler (some<|.Name x np) (some n) (b0::suite) hpos::hs) ((C0,some i,ts)::L):=by
 rintro pins σ H H' s s' h3 a T C dx fl D p ⟨C',b,ec,em,q⟩;obtain rfl:=Value.ref.inj ec;have J3:=p.inv;have S3:Inv (KB X a) pins σ H' {s' with heap:=h3}:=ND J3
 refine Jl (VX<|PN S3 hg hm ?_ hdb) (by intro z;cases z);obtain⟨_,⟨oe,vs,g1,g2,g3,g4⟩,_⟩:=id p.tr;refine(PySem.W.exm_one J3.kIn ((show oe.cls=Value.ref C from Qf Prod.fst g2)▸(VS g1).andThen .now) em).here ?_
 cases b with
 |false=>exact hr pins σ H H' s s' h3 a T C dx fl D p q
 |true=>
 refine codeAny_handlers_suite_as (TJ p.tr λJ M k4=>?_);have h:=Nm p.u (k4.mono (by simp) λ_ z=>z) λb r=>by rw[Wz.mp r];exact p.nT
 have u5:Un (frs X.stack) [] H (upd H' a<|Kn a C dx) s.heap J:=by
  have ne:∀b o,s.heap.get? b=some o->b≠a:=λb o z w=>by rw[w,p.na]at z;cases z
  have l:∀b o,H' b=some o->b≠a:=λb o z w=>by rw[w,p.fa]at z;cases z
  refine⟨h.keep,h.slot,λb o z n m=>by rw[Xl (ne b o z)];exact h.free b o z n m,h.there,λb xs z=>?_,λb o u z=>?_,λb ps z=>?_⟩
  ·rw[Xl (l b _<|h.tups b xs z)];exact h.tups b xs z
  ·rw[Xl (l b _<|h.frzs b o u z)];exact h.frzs b o u z
  ·obtain⟨more,z1⟩:=h.tbls b ps z;exact⟨more,by rw[Xl (l b _ z1)];exact z1⟩
 have U:HOk X.prog X.w (upd H' a<|Kn a C dx) J:=λb ob e=>by
  by_cases r:b=a
  ·subst r;rw[Xw]at e;cases e
   exact Lh M
  ·rw[Xl r]at e;refine((PL p.ok k4 (by simp) λb r=>by rw[Wz.mp r];exact p.fT) b ob e).stay (λ_ _ _ z=>z) (λc z=>?_) λc xs z=>?_
   ·rw[Xl λw=>by rw[w,p.fa]at z;cases z];exact z
   ·rw[Xl λw=>by rw[w,p.fa]at z;cases z];exact z
 have J5:Inv X pins σ (upd H' a<|Kn a C dx) {s' with heap:=J}:=p.I.call' p.os u5 U p.bare λb z=>absurd z (by simp)
 have S5:Inv (KB X a) pins σ (upd H' a<|Kn a C dx) {s' with heap:=J}:=ND J5
 refine NP (X:=KB X a) S5 hN hi (.inl G) (v:=.ref a) rfl (λs6 S6=>?_) (.inr G);refine WV (Y a pins s6 _ _ _ S6<|q a p.fa) (λf s7 h7=>?_) λ_ _ z=>z.elim
 have gone:∀{g:L2.St} {B:Hp} {R:Unit->Shared->Prop},Inv (KB X a) pins g B s7->(∀E,Inv X pins (g.set i none) B E->R () E)->wpAny (model X.prog X.w) X.A (do bindName X.env n .none;unbindBehindTheSuite X.env n hpos) R X.xe s7:=λ{g B R} y hR=>by
  obtain⟨m,hn,hl⟩:=id y.loc;exact wpAny_nameGoes_keeps G hn (by rw[show X.env.scope.kind=.function from J5.ok.kind];rfl) λh8 v hn8 hs8=>hR _ (G7 (Fp J5.ok y) hN hi G hl hn hn8 hs8)
 cases f with
 |ret u=>obtain⟨v,g,B,y,rv,Q⟩:=h7;exact gone y λE I8=>⟨v,_,_,I8,rv,Q⟩
 |_=>obtain⟨g,B,y,Q⟩:=h7;exact gone y λE I8=>⟨_,_,I8,Q⟩
def KH(U:Gl X x)(Q:X.mg x=some (.ref C0))(o:(x==("__debug__" : Str))=false)(l:∀a,PSs (KB X a) (b0::suite) ts)(N:PH X hs L):PH X (.ExceptHandler (some<|.Name x np) none (b0::suite) hpos::hs) ((C0,none,ts)::L):=by
 rintro pins σ H H' s s' h3 a T C dx fl D p ⟨C',b,ec,em,q⟩;obtain rfl:=Value.ref.inj ec;have E:=p.inv;have S3:Inv (KB X a) pins σ H' {s' with heap:=h3}:=ND E
 refine Jl (VX<|PN S3 U Q ?_ o) (by intro z;cases z);obtain⟨_,⟨M,vs,g1,g2,g3,g4⟩,_⟩:=id p.tr;refine(PySem.W.exm_one E.kIn ((show M.cls=Value.ref C from Qf Prod.fst g2)▸(VS g1).andThen .now) em).here ?_
 cases b with
 |false=>exact N pins σ H H' s s' h3 a T C dx fl D p q
 |true=>
 refine codeAny_handlers_suite (TJ p.tr λY G A=>?_);have y:Inv X pins σ H' {s' with heap:=Y}:=p.I.call' p.os (Nm p.u (A.mono (by simp) λ_ z=>z) λb r=>by rw[Wz.mp r];exact p.nT) (PL p.ok A (by simp) λb r=>by rw[Wz.mp r];exact p.fT) p.bare λb z=>absurd z (by simp)
 refine WV (l a pins _ _ _ _ (ND y) q) (λf s7 B=>?_) λ_ _ z=>z.elim;cases f with
 |ret u=>obtain⟨v,g,H7,w,J,h⟩:=B;exact⟨v,_,_,Fp y.ok w,J,h⟩
 |_=>obtain⟨g,H7,w,h⟩:=B;exact⟨_,_,Fp y.ok w,h⟩
end
noncomputable def SX(X:Cx)(pins:Yj)(D:Ends)(hs:List ExceptHandler):Cx:=
 {X with pn:=X.pn++pins,xe:=λe g=>wpAny (model X.prog X.w) X.A (noteFrame e X.env) (λ_ f=>wpAny (model X.prog X.w) X.A (setFlight e none) (λ_ b=>wpAny (model X.prog X.w) X.A (handleBy e X.env hs) (SP X pins D) X.xe b) X.xe f) X.xe g}
def Zh3(I:Inv X pins σ H s):Inv (SX X pins D hs) [] σ H s:=⟨⟨I.ok.mod,I.ok.kind,I.ok.glob,I.ok.blt,I.ok.above,I.ok.inj,I.ok.has,I.ok.cab,I.ok.hd,I.ok.frames,I.ok.stk,I.ok.exf,I.ok.bs,I.ok.bsz,I.ok.noex,I.ok.exfs,I.ok.funs,I.ok.frf⟩,I.os,I.bare,I.base,I.loc,I.cell,I.free,I.freeC,λp b=>I.pin p (by simpa [SX]using b),I.hok,I.len⟩
def Fm(I:Inv (SX X pins D hs) pins1 σ H s):Inv X pins σ H s:=⟨⟨I.ok.mod,I.ok.kind,I.ok.glob,I.ok.blt,I.ok.above,I.ok.inj,I.ok.has,I.ok.cab,I.ok.hd,I.ok.frames,I.ok.stk,I.ok.exf,I.ok.bs,I.ok.bsz,I.ok.noex,I.ok.exfs,I.ok.funs,I.ok.frf⟩,I.os,I.bare,I.base,I.loc,I.cell,I.free,I.freeC,λp b=>I.pin p (Q0 _ b),I.hok,I.len⟩
def Zbt(h:X.stack=X.env::X.outer)(x:X.env.frame=some X.env.locals)(Q:PH X hs L):F5 (CXe X.prog X.w) (SX X pins D hs) (hxL X.K L D):=by
 rintro pins1 σ H s e s' I ⟨a,T,C,dx,H',rfl,y,q⟩;have I:=Fm I;have J:=I.call' y.os y.un y.hok y.bare λb z=>absurd z (by simp);have E:=J.stack;have G:=J.ok.frames;rw[h]at E G;refine CV G E x y.tr λU p l u B=>?_
 have g:s.heap.get? p=none:=by
  cases z:s.heap.get? p with
  |none=>rfl
  |some o=>
   obtain⟨o1,M⟩:=y.un.there p o z (by simp);exact absurd (W8 M) (V9.mpr l)
 have n:=y.hok.fresh l
 have N:Un (frs X.stack) [] H H' s.heap U:=Nm y.un (by rw[h];exact B) λb f=>by
  rcases WA.mp f with rfl|f
  ·exact y.na
  ·rw[Wz.mp f];exact y.nT
 have v:=PL y.hok B (λb f=>J.stkFree b (by grind)) λb f=>by
  rcases WA.mp f with rfl|f
  ·exact y.fa
  ·rw[Wz.mp f];exact y.fT
 refine TJ u λh3 r A=>?_;exact Q pins σ H H' s s' h3 a p C dx _ D ⟨I,y.os,y.bare,y.na,g,y.fa,n,r,Nm N (A.mono (by simp) λ_ z=>z) λb f=>by rw[Wz.mp f];exact g,PL v A (by simp) λb f=>by rw[Wz.mp f];exact n⟩ q
def Zgm{l:Ends->TS}(n:∀pins D,PSs (SX X pins D (o::hs)) body (l D)):PS X (.Try body (o::hs) [] [] pos) (λD σ H=>l D D σ H):=by
 intro pins s σ H D I h;refine wpAny_Try_except (WV (n pins D [] s σ H D (Zh3 I) h) (λf p g=>?_) λ_ _ z=>z);cases f with
 |next=>
  obtain⟨b,H',J,q⟩:=g;exact W1 ⟨b,H',Fm J,q⟩
 |ret u=>obtain⟨v,b,H',J,r,q⟩:=g;exact⟨v,b,H',Fm J,r,q⟩
 |_=>obtain⟨b,H',J,q⟩:=g;exact⟨b,H',Fm J,q⟩
end
end ExcR
namespace Pu
open L2 Own
noncomputable def SS(c n:Str):Bool:=decide (c=n) || decide (n=("MeldError" : Str))
noncomputable def Zhz(oi:Option Nat)(R:Py):Py:=match oi with
 |some i=>{nx:=λg=>R.nx (g.set i none),rt:=R.rt,ex:=λ_ _=>False,bk:=λg=>R.bk (g.set i none),ct:=λg=>R.ct (g.set i none),rv:=R.rv}
 |none=>{R with ex:=λ_ _=>False}
noncomputable def OB(oi:Option Nat)(d:D)(b:Γ):Γ:=match oi with
 |some i=>b.set i (some<|.sh d)
 |none=>b
def pHs:List (Str×Option Nat×PTS)->Str->D->Py->Γ->Prop
 |[],_,_,_,_=>False
 |(n,f,p)::r,c,d,R,b=>if SS c n=true then p (Zhz f R) (OB f d b)else pHs r c d R b
noncomputable def Zeh(f:Yk)(n:Yp)(g:List (Str×Option Nat×PTS))(l:PTS):PTS:=λR h=>l {R with ex:=λb c=>(c∈n/\pHs g c (.err<|ExcR.Xi f c) R b)\/∃r,c=TN r/\pHs g "Ringed" (.erM (ExcR.Xi f "Ringed") r) R b} h
def ExOk(K:Yg)(b:Yk)(f ns:Yp):Prop:=∀c∈f,∀n∈ns,PySem.W.exmOne K (.ref<|ExcR.Xi b c) (.ref<|ExcR.Xi b n)=some (SS c n)
inductive HsS (K:Yg) (mg:Yk) (E:L2.St->XK):List (Addr×Option Nat×TS)->List (Str×Option Nat×PTS)->Prop
 |nil:HsS K mg E [] []
 |cons {n:Str} {oi:Option Nat} {ts:TS} {p:PTS} {L:List (Addr×Option Nat×TS)} {hs:List (Str×Option Nat×PTS)}:Xr K mg E ts p->HsS K mg E L hs->HsS K mg E ((ExcR.Xi mg n,oi,ts)::L) ((n,oi,p)::hs)
section
variable {K:Yg}{mg:Yk}{E:L2.St->XK}
theorem CK{B σ x}{γ y}{R D c d C dx}(U:∀b,B b->∃o,N b=some o)(e:Sj K mg E N B H σ γ R D)(Y:Xm K N B H' x y)(G:Fr B H σ γ H' x y){E'}(hd:∀a,H' a=none->Rp K (off (zof B y x)<|upd H' a<|ExcR.Kn a C dx) d (.ref a)):∀{L} {Q:List (Str×Option Nat×PTS)},HsS K mg E' L Q->(∀n∈Q.map (·.1),PySem.W.exmOne K (.ref C) (.ref<|ExcR.Xi mg n)=some (SS c n))->pHs Q c d R y->ExcR.hxL K L D x (.ref C) dx H'
 |_,_,.nil,_,h=>h
 |_,_,.cons (n:=n) (oi:=oi) hh r,hx,h=>by
  refine⟨C,SS c n,rfl,hx n WS,?_⟩;unfold pHs at h;split at h
  ·rename_i T;rw[W6 T];cases oi with
   |none=>exact hh N B H' x y _ _ U Y h ⟨λf g w l u p=>e.nx _ _ w l u (G.trans p),e.rt,λ_ _ _ _ z=>z.elim,λf g w l u p=>e.bk _ _ w l u (G.trans p),λf g w l u p=>e.ct _ _ w l u (G.trans p),λf g d v w l u p=>e.rv f g d v w l u (G.trans p)⟩
   |some i=>
    intro a na;obtain⟨e2,f2⟩:=Y.set (s:=.sh d) (XJ na) (hd a na) rfl;have A:=G.trans f2;refine hh N B _ _ _ _ _ U e2 h ⟨λf g w l u p=>?_,e.rt,λ_ _ _ _ z=>z.elim,λf g w l u p=>?_,λf g w l u p=>?_,λf g d v w l u p=>e.rv f g d v w l u (A.trans p)⟩
    ·obtain⟨M,J⟩:=u.gone i;exact e.nx _ _ w l M (A.trans<|p.trans J)
    ·obtain⟨M,J⟩:=u.gone i;exact e.bk _ _ w l M (A.trans<|p.trans J)
    ·obtain⟨M,J⟩:=u.gone i;exact e.ct _ _ w l M (A.trans<|p.trans J)
  ·rename_i T;rw[W3 T];exact CK U e Y G hd r (λn hn=>hx n (WG _ hn)) h
def Zk9{x:Ends->TS}{pb}{E'}(w ns:Yp)(hx:ExOk K mg ("Ringed" :: w) ns)(C:HsS K mg E' L y)(hb:∀D,Xr K mg (ExcR.hxL K L D) (x D) pb)(U:autoParam (y.map (·.1)=ns) au_0)(Y:autoParam (∀c∈w,Td c=none) au_1):Xr K mg E (λD p H=>x D D p H) (Zeh mg w y pb):=by
 subst U;intro H0 B H p T R D u v h e;refine hb D H0 B H p T _ D u v h ⟨e.nx,e.rt,λN Q c H' hc b G=>?_,e.bk,e.ct,e.rv⟩;rcases hc with⟨f,s⟩|⟨r,rfl,s⟩
 ·exact .of (Y c f) (CK u e b G (λa n=>.err (XN Xw λz=>by have:=b.zm a z;rw[n]at this;exact this)) C (hx c<|WG _ f) s)
 ·refine .ofM λJ l o g A=>CK u e b G (λa n=>?_) C (hx _ WS) s;have M:=XJ (o:=ExcR.Kn a (ExcR.Xi mg "Ringed") (some J)) n;exact .erM (XN Xw λz=>by have:=b.zm a z;rw[n]at this;exact this) (XN (M _ _ g) λz=>by have:=b.zm J z;rw[g]at this;exact this) (XN (M _ _ A) λz=>by have:=b.zm l z;rw[A]at this;exact this)
end
def ExOk.sub {K g l ns f b} (h:ExOk K g l ns) (s:∀c∈f,c∈l) (r:∀n∈b,n∈ns):ExOk K g f b:=λc p n o=>h c (s c p) n (r n o)
noncomputable def L0(K:Yg)(b ns:Yu):Bool:=b.all λc=>ns.all λn=>decide (PySem.W.exmOne K (.ref c.2) (.ref n.2)=some (SS c.1 n.1))
def Zkw{K b f ns}(h:L0 K (f.map λc=>(c,ExcR.Xi b c)) (ns.map λn=>(n,ExcR.Xi b n))=true):ExOk K b f ns:=λc l n g=>
 W7 (Qi.mp (Qi.mp h _<|WQ.mpr ⟨c,l,rfl⟩) _<|WQ.mpr ⟨n,g,rfl⟩)
def hq{A}(h:Xo j A)(b:autoParam (k<=j) au_1):Xo k A:=h.mono b
section
variable {X:Cx}{sc:Scope}{elt iter tg:Expr}{ifs:Yq}{pos:Pos}{wi:TI}{g:TG}{tc:TT}{te:TE}{x:Str}
def cz(N':Yp)(φ:Ym)(p:PI X tg iter wi)(l:∀{n C b f ex},PG (Ka X N' sc n C b f ex) tg g/\Na (Ka X N' sc n C b f ex) ifs tc/\PE (Ka X N' sc n C b f ex) elt te)(h:autoParam (X.calm=true) au_0)(S:autoParam (Bg sc X.env.scope X.N N' φ=true) au_0)(o:autoParam (∀x,foldedSetIterable iter X.env x=pure x) au_3):PE X (.ListComp elt [⟨tg,iter,ifs,0⟩] sc pos) (SW φ wi g tc te):=FT h (.of S) p (λ_ _ _ _ _=>l) o
def gk(i:Nat)(h:autoParam (decide X.N.Nodup=true) au_9)(b:autoParam (X.N[i]?=some x) au_0)(hx:autoParam (Loc X.env.scope x) au_6)(f:autoParam (X.fn x=true\/X.env.scope.names.lookup x=some .local) au_2):PG X (.Name x pos) (NN i):=A0 (W7 h) b hx f
end
section
variable {P:Program}{w:World}{K:Yg}{mg:Yk}{base:Heap}{N ps:Yp}{sp:Sp}{p:PTS}{x q:Str}{st:Stmt}{k:Nat}{W:Addr->Prop}
def _root_.Own.Def.ez (D:Def K mg x st ps) (S:Xk N ps (Xh st))
  (g:∀{f b A outer s H} {E:XK},Xo k (A.deeper<|envOfC x (Xh st) s.heap.objs.size f b)->
   ∃t,PSs (XI CX0 P w K mg base N x (Xh st) f b A outer s H E).nox (XA st) t/\Xr K mg (λ_=>E) t p) (u:Uz K mg N ps sp p):Callee P w K mg base CX0 (k+1) x ps sp:=D.oz S (λ_ _ _ _ _ _ _=>g) u
def _root_.Own.Def.ey (D:Def K mg x st ps) (S:Xk N ps (Xh st))
  (g:∀{f b A outer s H} {E:XK},Xo k (A.deeper<|envOfC x (Xh st) s.heap.objs.size f b)->
   ∃t,PSs (XI (ExcR.CXe P w) P w K mg base N x (Xh st) f b A outer s H E) (XA st) t/\Xr K mg (λ_=>E) t p) (u:Uz K mg N ps sp p):Callee P w K mg base (ExcR.CXe P w) (k+1) x ps sp:=D.ox S (λ_ _ _ _ _ _ _=>g) u
def X1.ez (D:X1 K W x q st ps) (S:Xk N ps (Xh st))
  (g:∀{f b A outer s H} {E:XK},Xo k (A.deeper<|envOfC q (Xh st) s.heap.objs.size f b)->
   ∃t,PSs (XI CX0 P w K mg base N q (Xh st) f b A outer s H E).nox (XA st) t/\Xr K mg (λ_=>E) t p) (u:Uz K mg N ps sp p):KJ P w K mg base CX0 (k+1) W ps sp:=D.oz S (λ_ _ _ _ _ _ _=>g) u
def X1.ey (D:X1 K W x q st ps) (S:Xk N ps (Xh st))
  (g:∀{f b A outer s H} {E:XK},Xo k (A.deeper<|envOfC q (Xh st) s.heap.objs.size f b)->
   ∃t,PSs (XI (ExcR.CXe P w) P w K mg base N q (Xh st) f b A outer s H E) (XA st) t/\Xr K mg (λ_=>E) t p) (u:Uz K mg N ps sp p):KJ P w K mg base (ExcR.CXe P w) (k+1) W ps sp:=D.ox S (λ_ _ _ _ _ _ _=>g) u
end
structure Fit {ι:Type} (F:ι->Cx) (K:Yg) (mg:Yk):Prop where
 k:∀j,(F j).K=K
 m:∀j,(F j).mg=mg
section
variable {ι:Type} (F:ι->Cx) (K:Yg) (mg:Yk) (E:L2.St->XK)
structure CE (e:Expr) (p:PTE):Prop where
 h:Fit F K mg->∃t,(∀j,PE (F j) e t)/\Xf K mg E t p
structure CT (e:Expr) (p:PTT):Prop where
 h:Fit F K mg->∃t,(∀j,PT (F j) e t)/\Ki K mg E t p
structure CW (e:Expr) (p:PTT):Prop where
 h:Fit F K mg->∃t,(∀j,PW (F j) e t)/\Ki K mg E t p
structure CA (es:Yq) (p:PTA):Prop where
 h:Fit F K mg->∃t,(∀j,PA (F j) es t)/\X0 K mg E t p
structure CS (s:Stmt) (p:PTS):Prop where
 h:Fit F K mg->∃t,(∀j,PS (F j) s t)/\Xr K mg E t p
structure CB (b:Yr) (p:PTS):Prop where
 h:Fit F K mg->∃t,(∀j,PSs (F j) b t)/\Xr K mg E t p
structure CI (tg e:Expr) (p:PTI):Prop where
 h:Fit F K mg->∃t,(∀j,PI (F j) tg e t)/\SndI K mg E t p
structure CJ (tg e:Expr) (p:PTI):Prop where
 h:Fit F K mg->∃t,(∀j,PI (F j) tg e t)/\Bb K mg E t p
structure CG (e:Expr) (is:Yn) (p:PTG):Prop where
 h:Fit F K mg->∃t,(∀j,PG (F j) e t)/\TC K is t p
structure CGs (es:Yq) (is:Yn) (p:Ny):Prop where
 h:Fit F K mg->∃t,(∀j,PGs (F j) es t)/\Sx K is t p
structure CF (es:Yq) (p:PTT):Prop where
 h:Fit F K mg->∃t,(∀j,Na (F j) es t)/\Ki K mg E t p
end
section
variable {ι:Type}{F:ι->Cx}{K:Yg}{mg:Yk}{E:L2.St->XK}{e f g:Expr}{es:Yq}{a b c:PTE}{r:PTA}{x:Str}{pos p1:Pos}{k n:Nat}{s:Stmt}{d1 d2:Yr}{p q:PTS}{t u:PTT}{is:Yn}{pg:PTG}{it:PTI}
def xv(i:Nat)(v:autoParam (∀j,(F j).N[i]?=some x) au_3)(h:autoParam (∀j,Vis (F j).env.scope x) au_10)(l:autoParam ((x==("__debug__" : Str))=false) au_1)(o:autoParam ((x==("__classdict__" : Str))=false) au_1):CE F K mg E (.Name x pos) (B3 i):=.mk λ_=>⟨_,λj=>pv i (v j) (h j) l o,Xg i⟩
def xi:CE F K mg E (.Constant (.int i) k pos) (pC<|.int i):=.mk λ_=>⟨_,λ_=>Xn,Xj⟩
def xb:CE F K mg E (.Constant (.bool i) k pos) (pC<|.bl i):=.mk λ_=>⟨_,λ_=>Pv,Px⟩
def xs:CE F K mg E (.Constant (.str i) k pos) (pC<|.str i):=.mk λ_=>⟨_,λ_=>X2,Xz⟩
def xe(h:∀{j},PE (F j) e te)(k:Xf K mg E te a):CE F K mg E e a:=.mk λ_=>⟨_,λ_=>h,k⟩
def xo{r}(y:∀{X},OpR X (binaryOp l) r)(w:∀{t u},Xf K mg E t a->Xf K mg E u b->Xf K mg E (tOp r t u) c)(A:CE F K mg E e a)(B:CE F K mg E f b):CE F K mg E (.BinOp e l f pos) c:=
 .mk λh=>let ⟨_,C,v⟩:=A.h h;let ⟨_,z,o⟩:=B.h h;⟨_,λj=>PQ y (C j) (z j),w v o⟩
def xx(A:CE F K mg E e a)(B:CE F K mg E f b)(v:autoParam (FI f) au_7):CE F K mg E (.Subscript e f pos) (p2 a b fIx):=
 .mk λh=>let ⟨_,y,o⟩:=A.h h;let ⟨_,w,l⟩:=B.h h;⟨_,λj=>jx K (y j) (w j) (h.k j) v,X6 o l⟩
def xl(w:mg "len"=none)(A:CE F K mg E e a)(y:autoParam (∀j,Gl (F j) "len") au_3)(v:autoParam (∀j,starEach [e] (F j).env=(false,eval e (F j).env)::starEach [] (F j).env) au_3)(l:autoParam (∀j,(backTo pos (starEach [] (F j).env)).any (·.1)=false) au_3) :
  CE F K mg E (.Call (.Name "len" p1) [e] [] pos) (pCB FL<|KE a PZ):=
 .mk λh=>let ⟨_,z,o⟩:=A.h h;⟨_,λj=>ln K (by rw[h.m j];exact w) (z j) (h.k j) (y j) (v j) (l j),FB (sz o)⟩
def xf{ps v}(C:Callee P w K mg base CX0 k x ps (Xp mg v K))(H:∀j,Xo m (F j).A)(A:CA F K mg E (e::es) r)(N:autoParam (∀j,(F j).prog=P/\(F j).w=w/\(F j).base=base) au_11)(J:autoParam (k<=m) au_1)(L:autoParam (∀j,Gl (F j) x) au_3)(o:autoParam ((x==("__debug__" : Str))=false) au_1)(M:autoParam (∀j,starEach (e::es) (F j).env=(false,eval e (F j).env)::starEach es (F j).env) au_3)(l:autoParam (∀j,(backTo pos (starEach es (F j).env)).any (·.1)=false) au_3) :
  CE F K mg E (.Call (.Name x p1) (e::es) [] pos) (Gd v r):=
 .mk λh=>let ⟨_,Q,G⟩:=A.h h;⟨_,λj=>fz (by obtain⟨B,z,y⟩:=N j;rw[B,z,y,h.k j,h.m j];exact C) (H j) (Q j) J (L j) o (M j) (l j),Tx G⟩
def xt(A:CA F K mg E es r):CE F K mg E (.Tuple es k pos) (EM r):=.mk λh=>let ⟨_,o,l⟩:=A.h h;⟨_,λj=>XZ (o j),Kb l⟩
def xL(A:CA F K mg E es r):CE F K mg E (.List es pos) (Lp r):=.mk λh=>let ⟨_,o,l⟩:=A.h h;⟨_,λj=>Ta (o j),Tu l⟩
def a0:CA F K mg E [] PZ:=.mk λ_=>⟨_,λ_=>KF,X9⟩
def ac(A:CE F K mg E e a)(B:CA F K mg E es r)(y:autoParam (∀j,starEach (e::es) (F j).env=(false,eval e (F j).env)::starEach es (F j).env) au_3):CA F K mg E (e::es) (KE a r):=
 .mk λh=>let ⟨_,w,o⟩:=A.h h;let ⟨_,v,l⟩:=B.h h;⟨_,λj=>XF (w j) (v j) (y j),Kl o l⟩
def a1(A:CE F K mg E e a)(h:autoParam (∀j,starEach [e] (F j).env=(false,eval e (F j).env)::starEach [] (F j).env) au_3):CA F K mg E [e] (KE a PZ):=ac A a0 h
def a2(A:CE F K mg E e a)(B:CE F K mg E f b)(l:autoParam (∀j,starEach [e,f] (F j).env=(false,eval e (F j).env)::starEach [f] (F j).env) au_3)(h:autoParam (∀j,starEach [f] (F j).env=(false,eval f (F j).env)::starEach [] (F j).env) au_3):CA F K mg E [e,f] (KE a<|KE b PZ):=ac A (a1 B h) l
def a3(A:CE F K mg E e a)(B:CE F K mg E f b)(C:CE F K mg E g c)(o:autoParam (∀j,starEach [e,f,g] (F j).env=(false,eval e (F j).env)::starEach [f,g] (F j).env) au_3)(l:autoParam (∀j,starEach [f,g] (F j).env=(false,eval f (F j).env)::starEach [g] (F j).env) au_3)(h:autoParam (∀j,starEach [g] (F j).env=(false,eval g (F j).env)::starEach [] (F j).env) au_3):CA F K mg E [e,f,g] (KE a<|KE b<|KE c PZ):=ac A (a2 B C l h) o
def te(h:∀{j},PT (F j) e tt)(k:Ki K mg E tt t):CT F K mg E e t:=.mk λ_=>⟨_,λ_=>h,k⟩
def tc{r}(y:∀{X},OpR X (compareOp l) r)(w:∀{t u},Xf K mg E t a->Xf K mg E u b->Xf K mg E (tOp r t u) c)(A:CE F K mg E e a)(B:CE F K mg E f b)(z:behindInMarks l f=false:=by exact To _):CT F K mg E (.Compare e [l] [f] pos) (Nl c):=
 .mk λh=>let ⟨_,G,v⟩:=A.h h;let ⟨_,C,o⟩:=B.h h;⟨_,λj=>Nj y (G j) (C j) z,Pb (w v o)⟩
def tq(v:∀j,Xo n (F j).A)(A:CE F K mg E e a)(B:CE F K mg E f b):CT F K mg E (.Compare e [.Eq] [f] pos) (Nl<|p2 a b<|N6 false):=
 .mk λh=>let ⟨_,y,o⟩:=A.h h;let ⟨_,w,l⟩:=B.h h;⟨_,λj=>cq K (v j) (y j) (w j) (h.k j),Pb (Bl o l)⟩
def tn(v:∀j,Xo n (F j).A)(A:CE F K mg E e a)(B:CE F K mg E f b):CT F K mg E (.Compare e [.NotEq] [f] pos) (Nl<|p2 a b<|N6 true):=
 .mk λh=>let ⟨_,y,o⟩:=A.h h;let ⟨_,w,l⟩:=B.h h;⟨_,λj=>cn K (v j) (y j) (w j) (h.k j),Pb (Bp o l)⟩
def ti(v:∀j,Xo n (F j).A)(A:CE F K mg E e a)(B:CE F K mg E f b)(w:autoParam (behindInMarks .In f=false) au_12):CT F K mg E (.Compare e [.In] [f] pos) (Nl<|p2 a b<|fIn false):=
 .mk λh=>let ⟨_,z,o⟩:=A.h h;let ⟨_,y,l⟩:=B.h h;⟨_,λj=>Nj (HK (P9<|v j)<|h.k j) (z j) (y j) w,Pb (A8 o l)⟩
def tI(v:∀j,Xo n (F j).A)(A:CE F K mg E e a)(B:CE F K mg E f b)(w:autoParam (behindInMarks .NotIn f=false) au_12):CT F K mg E (.Compare e [.NotIn] [f] pos) (Nl<|p2 a b<|fIn true):=
 .mk λh=>let ⟨_,z,o⟩:=A.h h;let ⟨_,y,l⟩:=B.h h;⟨_,λj=>Nj (Zlb (P9<|v j)<|h.k j) (z j) (y j) w,Pb (A8 o l)⟩
def tt(A:CE F K mg E e a)(o:autoParam (∀j whole,isTrue e (F j).env whole=(do let v ←whole;standAt e.pos;holding [v] (truthy v))) au_7):CT F K mg E e (Lk a):=.mk λh=>let ⟨_,w,l⟩:=A.h h;⟨_,λj=>Nd (w j) (h.k j) (o j),F6 l⟩
def tN(A:CT F K mg E e t):CT F K mg E (.UnaryOp .Not e pos) (Et t):=.mk λh=>let ⟨_,o,l⟩:=A.h h;⟨_,λj=>Nr (o j),Cs l⟩
def tp(A:CW F K mg E e t):CT F K mg E e t:=.mk λh=>let ⟨_,o,l⟩:=A.h h;⟨_,λj=>(o j).pt,l⟩
def wa(A:CT F K mg E e t)(B:CW F K mg E (.BoolOp .And (f::es) pos) u):CW F K mg E (.BoolOp .And (e::f::es) pos) (LL t u):=.mk λh=>let ⟨_,w,o⟩:=A.h h;let ⟨_,v,l⟩:=B.h h;⟨_,λj=>M6 (w j) (v j),Zdj o l⟩
def wo(A:CT F K mg E e t)(B:CW F K mg E (.BoolOp .Or (f::es) pos) u):CW F K mg E (.BoolOp .Or (e::f::es) pos) (pOr t u):=.mk λh=>let ⟨_,w,o⟩:=A.h h;let ⟨_,v,l⟩:=B.h h;⟨_,λj=>Fu (w j) (v j),Zfl o l⟩
def wA(A:CT F K mg E e t):CW F K mg E (.BoolOp .And [e] pos) t:=.mk λh=>let ⟨_,o,l⟩:=A.h h;⟨_,λj=>Ek (o j),l⟩
def wO(A:CT F K mg E e t):CW F K mg E (.BoolOp .Or [e] pos) t:=.mk λh=>let ⟨_,o,l⟩:=A.h h;⟨_,λj=>CN (o j),l⟩
def se(h:∀{j},PS (F j) s l)(k:Xr K mg E l p):CS F K mg E s p:=.mk λ_=>⟨_,λ_=>h,k⟩
def sS(i:Nat)(y:∀j,(F j).N.Nodup)(A:CE F K mg E e a)(v:autoParam (∀j,(F j).N[i]?=some x) au_3)(hx:autoParam (∀j,Loc (F j).env.scope x) au_13)(o:autoParam (∀j,swapsWith e (some<|.Name x p1) pos.line (F j).env=pure false) au_3)(w:autoParam (∀j,(F j).fn x=true\/(F j).env.scope.names.lookup x=some .local) au_14):CS F K mg E (.Assign [.Name x p1] e pos) (Cq a<|TR i):=
 .mk λh=>let ⟨_,z,l⟩:=A.h h;⟨_,λj=>pz i (y j) (z j) (v j) (hx j) (o j) (w j),N8 l (Km i)⟩
def sR(A:CE F K mg E e a):CS F K mg E (.Return (some e) pos) (Gx a):=.mk λh=>let ⟨_,o,l⟩:=A.h h;⟨_,λj=>Xt (o j),Bf l⟩
def sF(i:Nat)(A:CS F K mg E s p):CS F K mg E s (Ih i p):=.mk λh=>let ⟨_,o,l⟩:=A.h h;⟨_,o,B8 i l⟩
def sI(A:CT F K mg E e t)(B:CB F K mg E d1 p)(C:CB F K mg E d2 q):CS F K mg E (.If e d1 d2 pos) (E1 t p q):=.mk λh=>let ⟨_,z,v⟩:=A.h h;let ⟨_,y,o⟩:=B.h h;let ⟨_,w,l⟩:=C.h h;⟨_,λj=>NK (z j) (y j) (w j),Zck v o l⟩
def sE(A:CE F K mg E e a)(o:autoParam (∀j,swapsWith e none pos.line (F j).env=pure false) au_3):CS F K mg E (.Expr e pos) (HW a):=.mk λh=>let ⟨_,v,l⟩:=A.h h;⟨_,λj=>KY (v j) (o j),N0 l⟩
def sO(l:Yn)(C:∀{j},PassesOwn (model (F j).prog (F j).w) (F j).A (F j).env (F j).xe)(I:CI F K mg E f e it)(G:CG F K mg f is pg)(B:CB F K mg E d1 p)(H:autoParam (∀j,(F j).calm=true) au_3)(z:autoParam (∀j x,foldedSetIterable e (F j).env x=pure x) au_7) :
  CS F K mg E (.For f e d1 [] pos) (EC l it pg p):=
 .mk λh=>let ⟨_,M,y⟩:=I.h h;let ⟨_,L,v⟩:=G.h h;let ⟨_,J,o⟩:=B.h h;⟨_,λj=>Zjj C (H j) (M j) (L j) (J j) (z j),Zgv l y v o⟩
def sW(l:Yn)(y:∀{j},PassesOwn (model (F j).prog (F j).w) (F j).A (F j).env (F j).xe)(A:CT F K mg E e t)(B:CB F K mg E d1 p):CS F K mg E (.While e d1 [] pos) (Mn l t p):=
 .mk λh=>let ⟨_,C,v⟩:=A.h h;let ⟨_,z,o⟩:=B.h h;⟨_,λj=>RD y (C j) (z j),Zf2 l v o⟩
def b0:CB F K mg E [] Ea:=.mk λ_=>⟨_,λ_=>NI,NF⟩
def b1(A:CS F K mg E s p):CB F K mg E [s] p:=.mk λh=>let ⟨_,o,l⟩:=A.h h;⟨_,λj=>XM (o j),l⟩
def bc(A:CS F K mg E s p)(B:CB F K mg E d1 q):CB F K mg E (s::d1) (Ge p q):=.mk λh=>let ⟨_,w,o⟩:=A.h h;let ⟨_,v,l⟩:=B.h h;⟨_,λj=>LQ (w j) (v j),HJ o l⟩
def bj(A:CS F K mg E s p)(B:CB F K mg E d1 q):CB F K mg E (s::d1) (DV p q):=.mk λh=>let ⟨_,w,o⟩:=A.h h;let ⟨_,v,l⟩:=B.h h;⟨_,λj=>Zcv (w j) (v j),Rn o l⟩
def iL(A:CE F K mg E e a):CI F K mg E f e (pIL a):=.mk λh=>let ⟨_,o,l⟩:=A.h h;⟨_,λj=>TY (o j) (h.k j),Zcc l⟩
def ir(v:mg "range"=none)(A:CA F K mg E [e] r)(w:autoParam (∀j,Gl (F j) "range") au_3)(o:autoParam (∀j,starEach [e] (F j).env=[(false,eval e (F j).env)]) au_3):CI F K mg E f (.Call (.Name "range" p1) [e] [] pos) (IC r):=
 .mk λh=>let ⟨_,y,l⟩:=A.h h;⟨_,λj=>Zdq (w j) (by rw[h.m j];exact v) (y j) (o j),Zfr l⟩
def iR(w:mg "range"=none)(A:CA F K mg E [e,g] r)(y:autoParam (∀j,Gl (F j) "range") au_3)(v:autoParam (∀j,starEach [e,g] (F j).env=[(false,eval e (F j).env),(false,eval g (F j).env)]) au_3)(l:autoParam (∀j,starEach [g] (F j).env=[(false,eval g (F j).env)]) au_3):CI F K mg E f (.Call (.Name "range" p1) [e,g] [] pos) (LC r):=
 .mk λh=>let ⟨_,z,o⟩:=A.h h;⟨_,λj=>Zbd (y j) (by rw[h.m j];exact w) (z j) (v j) (l j),Zfj o⟩
def je(h:∀{j},PI (F j) f e l)(k:Bb K mg E l it):CJ F K mg E f e it:=.mk λ_=>⟨_,λ_=>h,k⟩
def jL(A:CE F K mg E e a):CJ F K mg E f e (EX a):=.mk λh=>let ⟨_,o,l⟩:=A.h h;⟨_,λj=>TY (o j) (h.k j),N5 l⟩
def gN(i:Nat)(o:autoParam (∀j,decide (F j).N.Nodup=true) au_15)(h:autoParam (∀j,(F j).N[i]?=some x) au_3)(hx:autoParam (∀j,Loc (F j).env.scope x) au_13)(l:autoParam (∀j,(F j).fn x=true\/(F j).env.scope.names.lookup x=some .local) au_14):CG F K mg (.Name x pos) [i] (TR i):=.mk λ_=>⟨_,λj=>gk i (o j) (h j) (hx j) (l j),Km i⟩
def gT(n:Nat){pr}(G:CGs F K mg es is pr)(w:autoParam (∀j,(F j).calm=true) au_3)(v:autoParam (∀j,(assignEach es (F j).env).length=n) au_3)(l:autoParam (∀j,(assignEach es (F j).env).findIdx? (·.1)=none) au_3):CG F K mg (.Tuple es k pos) is (Dc n pr):=
 .mk λh=>let ⟨_,y,o⟩:=G.h h;⟨_,λj=>AZ (w j) (y j) (h.k j) (v j) (l j),Mv o⟩
def g0:CGs F K mg [] [] Lr:=.mk λ_=>⟨_,λ_=>DE,GY⟩
def gc(G:CG F K mg e is pg)(B:CGs F K mg es w l)(y:autoParam (∀j,(assignEach (e::es) (F j).env).map (·.2)=assign e (F j).env::(assignEach es (F j).env).map (·.2)) au_3):CGs F K mg (e::es) (is++w) (GA pg l):=
 .mk λh=>let ⟨_,A,v⟩:=G.h h;let ⟨_,z,o⟩:=B.h h;⟨_,λj=>Bc (A j) (z j) (y j),F3 v o⟩
def f0:CF F K mg E [] A5:=.mk λ_=>⟨_,λ_=>Tp,TU⟩
def f1(A:CT F K mg E e t):CF F K mg E [e] t:=.mk λh=>let ⟨_,o,l⟩:=A.h h;⟨_,λj=>Ai (o j),l⟩
noncomputable abbrev Blk(F:ι->Cx)(N':Yp)(h:Scope):ι×Yu×Addr×Shared×Hp×List Addr->Cx:=λj=>Ka (F j.1) N' h j.2.1 j.2.2.1 j.2.2.2.1 j.2.2.2.2.1 j.2.2.2.2.2
def xC(N':Yp)(φ:Ym)(I:CJ F K mg E f e it)(G:CG (Blk F N' v) K mg f is pg)(T:CF (Blk F N' v) K mg E es t)(A:CE (Blk F N' v) K mg E g a)(hc:autoParam (∀j,(F j).calm=true) au_3)(S:autoParam (∀j,Bg v (F j).env.scope (F j).N N' φ=true) au_3)(hs:autoParam (∀j x,foldedSetIterable e (F j).env x=pure x) au_7)(h1:autoParam ((φ.filterMap id).Nodup) au_1)(h2:autoParam (∀j∈is,φ[j]?=some none) au_1) :
  CE F K mg E (.ListComp g [⟨f,e,es,0⟩] v pos) (AU φ it pg t a):=.mk λh=>by
 have w:Fit (Blk F N' v) K mg:=⟨λj=>h.k j.1,λj=>h.m j.1⟩;obtain⟨_,Y,L⟩:=I.h h;obtain⟨_,U,J⟩:=G.h w;obtain⟨_,Q,H⟩:=T.h w;obtain⟨_,M,B⟩:=A.h w;exact⟨_,λj=>FT (hc j) (.of<|S j) (Y j) (λz C l o y=>⟨U (j,z,C,l,o,y),Q (j,z,C,l,o,y),M (j,z,C,l,o,y)⟩) (hs j),P7 L J H B h1 h2⟩
def sr(A:CE F K mg E e a):CS F K mg E (.Return (some e) pos) (Hw a):=.mk λh=>let ⟨_,o,l⟩:=A.h h;⟨_,λj=>Xt (o j),MH l⟩
def sV(i:Nat)(v:autoParam (∀j,(F j).N[i]?=some x) au_3)(h:autoParam (∀j,Vis (F j).env.scope x) au_10)(l:autoParam ((x==("__debug__" : Str))=false) au_1)(o:autoParam ((x==("__classdict__" : Str))=false) au_1):CS F K mg E (.Return (some<|.Name x p1) pos) (F4 i):=.mk λ_=>⟨_,λj=>Xt (pv i (v j) (h j) l o),Zg3 i⟩
def sA(i:Nat)(A:CE F K mg E e a)(H:autoParam (∀j,(F j).N[i]?=some x) au_3)(B:autoParam (∀j,Vis (F j).env.scope x) au_10)(C:autoParam ((x==("__debug__" : Str))=false) au_1)(G:autoParam ((x==("__classdict__" : Str))=false) au_1){apos cpos}(v:autoParam (∀j,attributeBase (.Name x p1) "append" (F j).env (eval (.Name x p1) (F j).env)=eval (.Name x p1) (F j).env) au_3)(w:autoParam (∀j,((backTo cpos (starEach [e] (F j).env)).all (λx=>!x.1)&&(backToKw cpos (keywordEach [] (F j).env)).all (λx=>x.1.isSome)&&decide ([e].length+([]:List Keyword).length+(if ([]:List Keyword).isEmpty then 0 else 1)<30))=true) au_3)(o:autoParam ((apos.endLine==cpos.line)=true) au_0)(y:autoParam (∀j,starEach [e] (F j).env=(false,eval e (F j).env)::starEach [] (F j).env) au_3)(l:autoParam (∀j,(backTo cpos (starEach [] (F j).env)).any (·.1)=false) au_3)(hw:autoParam (∀j,swapsWith (.Call (.Attribute (.Name x p1) "append" apos) [e] [] cpos) none pos.line (F j).env=pure false) au_3):CS F K mg E (.Expr (.Call (.Attribute (.Name x p1) "append" apos) [e] [] cpos) pos) (CD i a):=
 .mk λh=>let ⟨_,J,z⟩:=A.h h;⟨_,λj=>KY (Ey Qz Vc Vd Bh (pv i (H j) (B j) C G) (XF (J j) KF<|y j) (h.k j) (v j) (w j) o (y j)<|l j) (hw j),Zfd i z⟩
def sU(i:Nat){l o}(B:∀j,(F j).N.Nodup)(w:∀{X},PIp X l (ipI o))(A:CE F K mg E e a)(y:autoParam (∀j,(F j).N[i]?=some x) au_3)(hx:autoParam (∀j,Loc (F j).env.scope x) au_13)(z:autoParam (∀j,(F j).fn x=true\/(F j).env.scope.names.lookup x=some .local) au_14):CS F K mg E (.AugAssign (.Name x p1) l e pos) (FY i o a):=
 .mk λh=>let ⟨_,C,v⟩:=A.h h;⟨_,λj=>Oq (B j) (y j) (hx j) (C j) w (z j),Zdk v⟩
def sC(i:Nat)(N':Yp)(φ:Ym){y py spos}(hN:∀j,(F j).N.Nodup)(I:CJ F K mg E f e it)(G:CG (Blk F N' v) K mg f is pg)(T:CF (Blk F N' v) K mg E es t)(A:CE (Blk F N' v) K mg E g a)(hy:autoParam (∀j,(F j).N[i]?=some y) au_3)(hl:autoParam (∀j,(F j).env.scope.names.lookup y=some .local) au_3)(hc:autoParam (∀j,(F j).calm=true) au_3)(S:autoParam (∀j,Bg v (F j).env.scope (F j).N N' φ=true) au_3)(hs:autoParam (∀j x,foldedSetIterable e (F j).env x=pure x) au_7)(h1:autoParam ((φ.filterMap id).Nodup) au_1)(h2:autoParam (∀j∈is,φ[j]?=some none) au_1)(hw:autoParam (∀j,swapsWith (.ListComp g [⟨f,e,es,0⟩] v pos) (some<|.Name y py) spos.line (F j).env=pure true) au_3) :
  CS F K mg E (.Assign [.Name y py] (.ListComp g [⟨f,e,es,0⟩] v pos) spos) (Cq (AU φ it pg t a)<|TR i):=.mk λh=>by
 have w:Fit (Blk F N' v) K mg:=⟨λj=>h.k j.1,λj=>h.m j.1⟩;obtain⟨_,i1,M⟩:=I.h h;obtain⟨_,Y,L⟩:=G.h w;obtain⟨_,U,J⟩:=T.h w;obtain⟨_,Q,H⟩:=A.h w;exact⟨_,λj=>Zfh (hN j) (hy j) (hl j) (hc j) (.of<|S j) (i1 j) (λB C l o z=>⟨Y (j,B,C,l,o,z),U (j,B,C,l,o,z),Q (j,B,C,l,o,z)⟩) (hs j) (hw j),N8 (P7 M L J H h1 h2) (Km i)⟩
structure CO {ι:Type} (F:ι->Cx) (K:Yg) (mg:Yk) (E:L2.St->XK) (o:Option Expr) (p:PTO):Prop where
 h:Fit F K mg->∃t,(∀j,PO (F j) o t)/\Sl K mg E t p
def o0:CO F K mg E none GL:=.mk λ_=>⟨_,λ_=>L8,Ls⟩
def o1(A:CE F K mg E e a):CO F K mg E (some e) (LY a):=.mk λh=>let ⟨_,o,l⟩:=A.h h;⟨_,λj=>GW (o j),I0 l⟩
def xp{lo o l u v}(A:CE F K mg E e a)(L:CO F K mg E lo l)(U:CO F K mg E o u):CE F K mg E (.Subscript e (.Slice lo o none v) pos) (pSl a l u):=
 .mk λh=>let ⟨_,G,z⟩:=A.h h;let ⟨_,C,y⟩:=L.h h;let ⟨_,B,w⟩:=U.h h;⟨_,λj=>Gq (Mc<|h.k j) (G j) (C j) (B j),Hn z y w⟩
def xn(A:CE F K mg E e a):CE F K mg E (.UnaryOp .Not e pos) (Mb a):=.mk λh=>let ⟨_,o,l⟩:=A.h h;⟨_,λj=>Gi (o j),Hd l⟩
def x0:CE F K mg E (.Constant .none k pos) (pC .non):=.mk λ_=>⟨_,λ_=>Zld,Zfz⟩
def sQ{cpos v}(B:ExcR.XX K (ExcR.Xi mg x))(y:mg x=some (.ref<|ExcR.Xi mg x))(H:∀{j},ExcR.Dm (F j) v)(A:CA F K mg (λ_=>v) (e::es) r)(G:autoParam (∀j,(F j).calm=true) au_3)(z:autoParam (∀j,Gl (F j) x) au_3)(o:autoParam ((x==("__debug__" : Str))=false) au_1)(C:autoParam (∀j,starEach (e::es) (F j).env=(false,eval e (F j).env)::starEach es (F j).env) au_3)(l:autoParam (∀j,(backTo cpos (starEach es (F j).env)).any (·.1)=false) au_3)(hx:autoParam (Td x=none) au_0) :
  CS F K mg (λ_=>v) (.Raise (some<|.Call (.Name x p1) (e::es) [] cpos) none pos) (IB x r):=
 .mk λh=>let ⟨_,J,w⟩:=A.h h;⟨_,λj=>ExcR.OU (by rw[h.k j];exact B.c) (by rw[h.m j];exact y) H (G j) (J j) (z j) o (C j) (l j),RG w hx⟩
def xg{ps y v}(C:Callee P w K mg base (ExcR.CXe P w) k x ps (Xp mg y K))(J:∀j,Xo m (F j).A)(hx:∀{j},KO (ExcR.CXe P w) (F j) v)(A:CA F K mg (λ_=>v) (e::es) r)(Q:autoParam (∀j,(F j).prog=P/\(F j).w=w/\(F j).base=base) au_11)(L:autoParam (k<=m) au_1)(M:autoParam (∀j,Gl (F j) x) au_3)(o:autoParam ((x==("__debug__" : Str))=false) au_1)(N:autoParam (∀j,starEach (e::es) (F j).env=(false,eval e (F j).env)::starEach es (F j).env) au_3)(l:autoParam (∀j,(backTo pos (starEach es (F j).env)).any (·.1)=false) au_3) :
  CE F K mg (λ_=>v) (.Call (.Name x p1) (e::es) [] pos) (Ed y r):=
 .mk λh=>let ⟨_,T,H⟩:=A.h h;⟨_,λj=>Sm (by obtain⟨G,B,z⟩:=Q j;rw[G,B,z,h.k j,h.m j];exact C) ((J j).mono L) hx (T j) (M j) o (N j) (l j),Zcy H⟩
variable {pw:PTW}
end
section
variable {P:Program}{w:World}{K:Yg}{mg:Yk}{base:Heap}{N ps:Yp}{sp:Sp}{p:PTS}{x q:Str}{st:Stmt}{k:Nat}{W:Addr->Prop}
def _root_.Own.Def.fz (D:Def K mg x st ps) (S:Xk N ps (Xh st))
  (n:∀{f b A outer s H} {E:XK},(∀{g:Type},g->Xo k (A.deeper<|envOfC x (Xh st) s.heap.objs.size f b))->(Unit->N.Nodup)->
   CB (λ_:Unit=>(XI CX0 P w K mg base N x (Xh st) f b A outer s H E).nox) K mg (λ_=>E) (XA st) p) (u:Uz K mg N ps sp p):Callee P w K mg base CX0 (k+1) x ps sp:=
 D.ez S (λo=>let ⟨t,h,l⟩:=(n (λ_=>o) λ_=>S.nd).h ⟨λ_=>rfl,λ_=>rfl⟩;⟨t,h (),l⟩) u
def _root_.Own.Def.fy (D:Def K mg x st ps) (S:Xk N ps (Xh st))
  (n:∀{f b A outer s H} {E:XK},(∀{g:Type},g->Xo k (A.deeper<|envOfC x (Xh st) s.heap.objs.size f b))->(Unit->N.Nodup)->
   CB (λ_:Unit=>XI (ExcR.CXe P w) P w K mg base N x (Xh st) f b A outer s H E) K mg (λ_=>E) (XA st) p) (u:Uz K mg N ps sp p):Callee P w K mg base (ExcR.CXe P w) (k+1) x ps sp:=
 D.ey S (λo=>let ⟨t,h,l⟩:=(n (λ_=>o) λ_=>S.nd).h ⟨λ_=>rfl,λ_=>rfl⟩;⟨t,h (),l⟩) u
def X1.fz (D:X1 K W x q st ps) (S:Xk N ps (Xh st))
  (n:∀{f b A outer s H} {E:XK},(∀{g:Type},g->Xo k (A.deeper<|envOfC q (Xh st) s.heap.objs.size f b))->(Unit->N.Nodup)->
   CB (λ_:Unit=>(XI CX0 P w K mg base N q (Xh st) f b A outer s H E).nox) K mg (λ_=>E) (XA st) p) (u:Uz K mg N ps sp p):KJ P w K mg base CX0 (k+1) W ps sp:=
 D.ez S (λo=>let ⟨t,h,l⟩:=(n (λ_=>o) λ_=>S.nd).h ⟨λ_=>rfl,λ_=>rfl⟩;⟨t,h (),l⟩) u
def X1.fy (D:X1 K W x q st ps) (S:Xk N ps (Xh st))
  (n:∀{f b A outer s H} {E:XK},(∀{g:Type},g->Xo k (A.deeper<|envOfC q (Xh st) s.heap.objs.size f b))->(Unit->N.Nodup)->
   CB (λ_:Unit=>XI (ExcR.CXe P w) P w K mg base N q (Xh st) f b A outer s H E) K mg (λ_=>E) (XA st) p) (u:Uz K mg N ps sp p):KJ P w K mg base (ExcR.CXe P w) (k+1) W ps sp:=
 D.ey S (λo=>let ⟨t,h,l⟩:=(n (λ_=>o) λ_=>S.nd).h ⟨λ_=>rfl,λ_=>rfl⟩;⟨t,h (),l⟩) u
end
mutual
noncomputable def py:D->PyData
 | .int i=>.int i
 | .bl b=>.bool b
 | .str x=>.str x
 | .tup f=>.tuple (pys f)
 | .lst f=>.list (pys f)
 | .fL g=>.list (g.map .int)
 |_=>.none
noncomputable def pys:List D->List PyData
 |[]=>[]
 |d::r=>py d::pys r
end
end Pu
namespace Own
open L2
theorem LO:∀l:List (Str×Tok),Vals ((l.map (·.1)).map V.str) (strValues l)
 |[]=>.nil
 |_::r=>.cons ⟨_,rfl⟩ (LO r)
section
variable {X:Cx}{K:Yg}
def GM(L:X.calm=true)(T:autoParam (X.K=K) au_0):Kg X (.builtin "all") (λxs H Q=>∃(p:Addr) (bs:List Bool),xs=[.ref p]/\SqL K H p (bs.map V.bl)/\Q (.bl<|bs.all id) H):=by
 subst T;intro pins s U H xs Y Q I C h;obtain⟨p,bs,rfl,M,q⟩:=h;obtain⟨u,rfl,E⟩:=C.one;obtain rfl:u=Value.ref p:=E;obtain⟨f,r,G,_⟩:=I.list M;have x:=Aw r;have o:=G.isList;have n:p<s.heap.objs.size:=by obtain⟨_,e,_⟩:=o;exact W8 e
 refine call_all_walk (VG o ?_)
 refine⟨s.heap.objs.size,[s.heap.objs.size,p],[s.heap.objs.size],f.toArray.size,_,_,λi=>(bs[i]?).getD true,rfl,Walks.list (A:=X.A.in1) (I.ok.hd L) _ p (WM n) f.toArray,
  ⟨⟨_,W9 _ rfl,rfl,rfl⟩,o.push _⟩,λi v s' Q' E' N y=>?_,λh' B J=>?_⟩
 ·obtain⟨b,e,rfl⟩:=x.get i v (by simpa using N);simp only[e,Option.getD_some]at y;exact QG y
 ·have e:((List.range f.toArray.size).all λi=>(bs[i]?).getD true)=bs.all id:=by
   rw[WX,x.length];rw[Vx,Qi,Qi];refine⟨λz b w=>?_,λz i l=>?_⟩
   ·obtain⟨i,l,rfl⟩:=List.getElem_of_mem w
    have:=z i (V8.mpr l)
    rw[Wy l]at this;exact this
   ·have g:=V8.mp l;rw[Wy g];exact z _ (WY g)
  rw[e];exact⟨.bl (bs.all id),H,I.kept (t':=B) (LSm.kept_iter J),rfl,q⟩
def Ia:V->List V->Hp->VK->Prop:=λx b H Q=>∃t y:Str,x=.str t/\b=[.str y]/\(y.length==0)=false/\t.length+2<=sizeLine/\∀p,H p=none->Q (.ref p) (upd H p<|.lst ((Txt.split t y).map V.str))
def RQ(t y:Str):(Txt.split t y).length<=t.length+2:=by
 unfold Txt.split;split
 ·exact VT (Q6 _)
 ·split
  ·exact VT (Q6 _)
  ·rw[Jn];exact VT (StrLaws.occ_length_le _ _ _ _ _)
def Zbm:MtM X "str.split" Ia:=by
 intro pins s A H x G v J Q I B C h;obtain⟨t,y,rfl,rfl,z,w,q⟩:=h;obtain⟨p,rfl⟩:=B;obtain⟨u,rfl,E⟩:=C.one;obtain⟨f,rfl⟩:=E
 have g:∀(l:List (Str×Tok)) (k:Nat),l.map (·.1)=Txt.split t y->EP X pins A Q (.ref s.heap.objs.size) {s with toks:=k,heap:=s.heap.push {cls:=.type "list",data:=.seq (strValues l).toArray}}:=λl k e=>by
  have n:=I.hok.fresh (W5 _);refine⟨.ref s.heap.objs.size,upd H s.heap.objs.size (.lst ((Txt.split t y).map V.str)),I.laid (t':=k) (λb u e=>W2 _ e) (W5 _) ⟨?_,strValues l,0,?_,W9 _ rfl⟩,rfl,q _ n⟩
  ·rw[Wx];exact WC (RQ t y) w
  ·rw[←e];exact LO l
 have r:t.length<=sizeLine:=by lia
 cases o:(decide (t.length<y.length) || decide (Builtin.Str.strKind t<Builtin.Str.strKind y))
 ·cases n:(Builtin.Str.occurrences t y 0 t.length (t.length+1)).isEmpty
  ·refine call_meets F.slot_str_split (typeIs_str _ _ _) F.entry_str_split (F.args_str_split_2 _ _) (meets_str_split_sep t y p f o z n r<|by rw[Jn];exact WC (VT<|StrLaws.occ_length_le _ _ _ _ _) w) ?_;show wants _ _ _ {s with toks:=_,heap:=s.heap.push {cls:=.type "list",data:=.seq (strsFrom s.toks<|Builtin.Str.partsBetween t (Builtin.Str.occurrences t y 0 t.length (t.length+1)) y.length).toArray}}
   rw[strsFrom_eq];exact g (numbered s.toks _) _ ((numbered_texts _ _).trans ((W3<|Jo o).trans (W3<|Jo n)).symm)
  ·exact call_meets F.slot_str_split (typeIs_str _ _ _) F.entry_str_split (F.args_str_split_2 _ _) (meets_str_split_not_found t y p f o z n) (g [(t,p)] _ ((W3<|Jo o).trans (W6 n)).symm)
 ·exact call_meets F.slot_str_split (typeIs_str _ _ _) F.entry_str_split (F.args_str_split_2 _ _) (meets_str_split_cannot_occur t y p f o) (g [(t,p)] _ (W6 o).symm)
end
def Lits(P:Params):List DictEntry->List (Str×Int)->Prop
 |[],[]=>True
 |e::r,p::q=>(∃t,e.key=.str p.1 t)/\e.hash=PyData.keyHash P p.1/\(∃t,e.val=.int p.2 t)/\Lits P r q
 |_,_=>False
def Lits.keys {P:Params}:∀{l:List DictEntry}{b:List (Str×Int)},Lits P l b->PySem.W.KeysLit P l
 |[],_,_=>trivial
 |_::_,[],h=>h.elim
 |_::_,p::_,⟨⟨t,g⟩,f,_,h⟩=>⟨⟨p.1,t,g,f⟩,h.keys⟩
def Lits.find {P:Params} (x:Str):∀{l:List DictEntry}{b:List (Str×Int)},Lits P l b->RelO ((b.lookup x).map V.int) ((l.find? λd=>Value.isStrOf x d.key).map (·.val))
 |[],[],_=>by trivial
 |[],_::_,h=>h.elim
 |_::_,[],h=>h.elim
 |e::l,p::q,⟨⟨t,n⟩,_,⟨o,g⟩,h⟩=>by
  obtain⟨k,i⟩:=p;rw[QT,Q5,n];by_cases z:x=k
  ·subst z;have f:Value.isStrOf x (.str x t)=true:=by simp[Value.isStrOf]
   simp only[beq_self_eq_true,f];show RelO (some<|V.int i) (some e.val);rw[g];exact⟨_,rfl⟩
  ·have f:Value.isStrOf x (.str k t)=false:=by simp[Value.isStrOf];exact λe=>z e.symm
   simp only[Q8.mpr z,f];exact h.find x
structure FQ (K:Yg) (P:Params) (mg:Yk) (x:Str) (kvs:List (Str×Int)):Prop where
 ex:∃a es n,mg x=some (.ref a)/\(a==sysModules)=false/\K.lookup a=some ⟨.type "dict",none,.dict es n,#[]⟩/\Lits P es.toList kvs
section
variable {X:Cx}{x:Str}{kvs:List (Str×Int)}{i:Expr}{ty:TE}{pos pos':Pos}
noncomputable def M9(kvs:List (Str×Int))(ty:TE):TE:=λb H Q=>ty b H λy f=>∃z,y=.str z/\Q (.bl (kvs.lookup z).isSome) f
def M3(C:FQ X.K X.w.params X.mg x kvs)(M:PE X i ty)(N:autoParam (Gl X x) au_0)(T:autoParam ((x==("__debug__" : Str))=false) au_1):PC X .In i (.Name x pos) (M9 kvs ty):=by
 intro pins s g H Q I h;obtain⟨a,o,n,h1,Y,U,l⟩:=C.ex;refine thn (M pins s g H _ I h) ?_;rintro iv B ⟨y,r,I1,E,L⟩;refine thn (BE (v:=.ref a) N h1 rfl T pins B g r (λv b=>v=.ref a/\b=r) I1 ⟨rfl,rfl⟩) ?_;rintro u s2 ⟨_,b,p,G,e1,e2⟩;subst e1;subst e2;obtain rfl:u=Value.ref a:=G;obtain⟨z,rfl,J⟩:=L;obtain⟨A,rfl⟩:=E;refine wpAny_in_of (strKind_is X.prog X.w z A) Y (PySem.W.mapOf_K (prog:=X.prog) p.kIn U l.keys) ?_;have f:=(l.find z).isSome_eq;rw[Jw]at f
 have e:findBy Value.isStrOf o z=(o.toList.find? λd=>Value.isStrOf z d.key).map (·.val):=by
  unfold findBy;rw[←List.find?_toArray]
 rw[e,←f];exact⟨.bl _,b,p.tok _,rfl,J⟩
noncomputable def L3(kvs:List (Str×Int))(ty:TE):TE:=λb H Q=>ty b H λy f=>∃z v,y=.str z/\kvs.lookup z=some v/\Q (.int v) f
def Zk7(C:FQ X.K X.w.params X.mg x kvs)(N:PE X i ty)(M:FX i)(T:autoParam (Gl X x) au_0)(U:autoParam ((x==("__debug__" : Str))=false) au_1):PE X (.Subscript (.Name x pos) i pos') (L3 kvs ty):=by
 intro pins s l H Q I h;obtain⟨a,es,n,h1,h2,Y,p⟩:=C.ex;refine Ir PySem.F.slot_dict_getitem.lookup M (thn (BE (v:=.ref a) T h1 rfl U pins s l H (λv g=>v=.ref a/\g=H) I ⟨rfl,rfl⟩) ?_);rintro u E ⟨_,H',I1,J,e1,e2⟩;subst e1;subst e2;obtain rfl:u=Value.ref a:=J;refine thn (N pins E l H' _ I1 h) ?_;rintro iv s2 ⟨y,g,r,G,z,v,e,ev,L⟩;subst e;obtain⟨B,rfl⟩:=G;have o:=PySem.W.mapOf_K (prog:=X.prog) r.kIn Y p.keys;have f:=p.find z;rw[ev]at f;obtain⟨A,hw,b⟩:=RelO.some_of (v:=V.int v) f
 have e:findBy Value.isStrOf es z=some A:=by
  rw[←hw];unfold findBy;rw[←List.find?_toArray]
 exact⟨o.typeIs,wpAny_getItem_of (strKind_is X.prog X.w z B) o e ⟨.int v,g,r.tok _,b,L⟩⟩
end
end Own
namespace Pu
open L2 Own
section
variable {K:Yg}{mg:Yk}{E:L2.St->XK}
theorem Rps.of_strs {H:Hp}:∀b:Yp,Rps K H (b.map D.str) (b.map V.str)
 |[]=>.nil
 |_::r=>.cons (.str _) (Rps.of_strs r)
def Ck:List S->(S->Prop)->Prop
 |[s],R=>∃bs:List Bool,s.d=.lst (bs.map D.bl)/\R (.sh<|.bl<|bs.all id)
 |_,_=>False
def DX{b:TA}{r:PTA}(u:X0 K mg E b r):Xf K mg E (tCB (λxs H Q=>∃(p:Addr) (bs:List Bool),xs=[.ref p]/\SqL K H p (bs.map V.bl)/\Q (.bl<|bs.all id) H) b) (pCB Ck r):=by
 refine Pt u λG H x Z A y R Q o B C l h q=>?_;unfold Ck at h;split at h
 ·obtain⟨v,rfl,n⟩:=l.one_inv;obtain⟨bs,e,w⟩:=h;have f:=n.rp o;rw[e]at f;obtain⟨a,z,rfl,g,s⟩:=f.lst_inv;rw[s.bls]at g;exact⟨a,bs,rfl,SqL.of g,q _ _ x w (Same.refl _) (.bl _)⟩
 ·exact h.elim
noncomputable def pBT(f:Str->D->(S->Prop)->Prop)(a b:PTE):PTE:=λg R X=>a g (λs=>match s.d with | .str t=>b g (λu=>f t u.d R) X|_=>False) X
def Zfn{G:V->List V->Hp->VK->Prop}{f:Str->D->(S->Prop)->Prop}{te C:TE}{a b:PTE}(ha:Xf K mg E te a)(hb:Xf K mg E C b)(Y:∀(p H l:Hp) (Z:Addr->Prop) (t:Str) (d:D) (u:V) (R:S->Prop) (Q:VK),Same H l->Rp K l d u->f t d R->(∀s v o,R s->Same l o->TV K Z p H o s v->Q v o)->G (.str t) [u] l Q):Xf K mg E (tBM K "str" G te<|XH C Kt) (pBT f a b):=by
 intro p B H z A R X Q n h q L;refine ha p B H z A _ X _ n h (λs v H1 x r T=>?_) L;have g:=n.grow r;have J:=T.rp g.same;split at x
 ·rename_i t et;rw[et]at J;cases J
  refine⟨rfl,hb p B H1 z A _ X _ g x (λu w l h2 y N=>?_) λc H' hc S'=>L c H' hc (r.trans S')⟩;exact Y p H l _ t _ _ _ _ (r.trans y) (N.rp (g.grow y).same) h2 λs v o U S3 M=>q s v o U ((r.trans y).trans S3) M
 ·exact x.elim
def Mu:Str->D->(S->Prop)->Prop:=λt d R=>match d with
 | .str y=>(y.length==0)=false/\t.length+2<=sizeLine/\R (.own ((Txt.split t y).map D.str))
 |_=>False
def Zfq{te f:TE}{a b:PTE}(n:Xf K mg E te a)(l:Xf K mg E f b):Xf K mg E (tBM K "str" Ia te<|XH f Kt) (pBT Mu a b):=by
 refine Zfn n l λv H s Z t d u R Q o r h q=>?_;unfold Mu at h;split at h
 ·cases r
  exact⟨t,_,rfl,rfl,h.1,h.2.1,λp g=>q _ _ _ h.2.2 (XJ g) (Nh o g<|Rps.of_strs _)⟩
 ·exact h.elim
noncomputable def Ri(b:List (Str×Int))(a:PTE):PTE:=λf R X=>a f (λs=>match s.d with | .str z=>R (.sh (.bl (b.lookup z).isSome))|_=>False) X
def Eo{b:List (Str×Int)}{te:TE}{a:PTE}(w:Xf K mg E te a):Xf K mg E (M9 b te) (Ri b a):=by
 intro z B H o p R X Q f h q u;refine w z B H o p _ X _ f h (λs v y g n r=>?_) u;have l:=r.rp (f.grow n).same;split at g
 ·rename_i t x;rw[x]at l;cases l
  exact⟨t,rfl,q _ _ y g n (.bl _)⟩
 ·exact g.elim
noncomputable def R1(b:List (Str×Int))(a:PTE):PTE:=λf R X=>a f (λs=>match s.d with | .str z=>∃v,b.lookup z=some v/\R (.sh<|.int v)|_=>False) X
def Zk2{b:List (Str×Int)}{te:TE}{a:PTE}(w:Xf K mg E te a):Xf K mg E (L3 b te) (R1 b a):=by
 intro A B H o p R X Q f h q u;refine w A B H o p _ X _ f h (λs v z g n r=>?_) u;have l:=r.rp (f.grow n).same;split at g
 ·rename_i t y;rw[y]at l;cases l
  obtain⟨v,e,x⟩:=g;exact⟨t,v,rfl,e,q _ _ z x n (.int _)⟩
 ·exact g.elim
end
end Pu
namespace Own
open L2
noncomputable def Its(x:Str):It:=⟨λi _=>i<x.cps.size,λi H v b=>b=H/\∃c,x.cps[i]?=some c/\v=.str ⟨#[c]⟩,λi _=>x.cps.size<=i⟩
def Ze1{P:Program}{w:World}{K:Yg}{tg:Expr}(x:Str)(t:Tok)(it:Addr):Turn P w K tg (Its x) [it] it (λi h=>h.IsStrIter it "str_ascii_iterator" x t i) where
 mem:=by simp
 obj:=λi h st b hb=>by
  have e:b=it:=by simpa using hb
  subst e;obtain⟨o,e,c,d⟩:=st;exact⟨o,e,λv z=>by rw[d]at z;cases z⟩
 keep:=λi h h' st k=>by
  obtain⟨o,e,c,d⟩:=st;exact⟨o,k it (by simp) o e,c,d⟩
 item:=by
  intro X hP hw hK hc i pins s σ H E I hf st hg;subst hP hw hK;have hx:x.cps[i]?=some (x.cps[i]'hg):=Qm hg;obtain⟨f0,f1,f2,f3,f4,f5⟩:=hf it (by simp);refine wpAny_pyNext_ascii_item st hx λh' st' sb=>?_;have I1:Inv X pins σ H {s with heap:=h',toks:=s.toks+1}:=I.turned (t':=s.toks+1) (λb o hb e=>(sb.2 b hb).trans e) f0 f1 f3 f4 f5
  obtain⟨o,e,c,d⟩:=id st';exact⟨_,rfl,Bw (s:={s with heap:=h',toks:=s.toks+1}) e c d (by decide) ⟨.str ⟨#[x.cps[i]'hg]⟩,H,I1,⟨_,rfl⟩,⟨rfl,_,hx,rfl⟩,st',λb hb=>(hf b hb).1⟩⟩
 done:=by
  intro X hP hw hK hc i pins s σ H E I hf st hg;subst hP hw hK;obtain⟨f0,f1,f2,f3,f4,f5⟩:=hf it (by simp);have hx:x.cps[i]?=none:=Vg hg;exact wpAny_pyNext_ascii_end (I.ok.hd hc) st hx λh' eb=>⟨rfl,I.turned (t':=s.toks) (λb o hb e=>eb b o hb e) f0 f1 f3 f4 f5⟩
 self:=λ_ _ _ _ _ st h=>wpAny_pyIter_striter_ascii st h
noncomputable def IE(f:TE):TI:=λb H R=>f b H λv g=>∃x:Str,v=.str x/\x.cps.all (· < 128)=true/\R (Its x) g
section
variable {X:Cx}{K:Yg}{tg:Expr}
def Zg8{l:Expr}{n:TE}(y:PE X l n):PI X tg l (IE n):=by
 intro pins s p H R I h;refine thn (y pins s p H _ I h) ?_;rintro v f ⟨x,C,g,u,w⟩;obtain⟨z,e,B,q⟩:=w;subst e;obtain⟨r,rfl⟩:=u;refine wpAny_pyIter_ascii B ?_;refine⟨f.heap.objs.size,[f.heap.objs.size],_,_,C,rfl,g.kept (t':=f.toks) λb o e=>W2 _ e,Ze1 z r _,⟨_,W9 _ rfl,rfl,rfl⟩,λb A=>?_,q⟩;have e:b=f.heap.objs.size:=by simpa using A
 subst e;exact g.fpOk (W5 _) (g.hok.fresh<|W5 _)
noncomputable def DL:R2:=λx y H Q=>∃(c:Nat) (t:Str),x=.str ⟨#[c]⟩/\y=.str t/\Q (.bl<|decide (c∈t.cps.toList)) H
def MS:OpR X (compareOp .In) DL:=by
 intro pins s l H x y v u Q I g f h;obtain⟨c,t,rfl,rfl,q⟩:=h;obtain⟨n,rfl⟩:=g;obtain⟨b,rfl⟩:=f;refine P.in_str ?_;rw[StrLaws.found_one];exact⟨.bl _,H,I,rfl,q⟩
def Zbz:Kg X (.type "int") (λxs H Q=>∃(t:Str) (n:Int),xs=[.str t]/\PySem.intText? t=some n/\t.length<=640/\Q (.int n) H):=by
 intro pins s g H xs l Q I r h;obtain⟨t,n,rfl,f,b,q⟩:=h;obtain⟨u,rfl,o,rfl⟩:=r.one;exact PySem.W.KIN.call_text f b ⟨.int n,H,I.tok _,⟨_,rfl⟩,q⟩
end
end Own
namespace Pu
open L2 Own
section
variable {K:Yg}{mg:Yk}{E:L2.St->XK}
noncomputable def pIS(a:PTE):PTI:=λb R X=>a b (λs=>match s.d with | .str x=>x.cps.all (· < 128)=true/\R x.cps.size (λi=>.sh (.str ⟨#[x.cps.getD i 0]⟩))|_=>False) X
def Zih{te:TE}{a:PTE}(z:Xf K mg E te a):SndI K mg E (IE te) (pIS a):=by
 intro J B H n o R X Q b h q r;refine z J B H n o _ X _ b h (λs v G f l p=>?_) r;have g:=p.rp (b.grow l).same;split at f
 ·rename_i x A;rw[A]at g;cases g
  refine⟨x,rfl,f.1,q _ _ _ G f.2 l ⟨λi M C u lt=>?_,λM C lt=>W5 _⟩⟩;refine⟨u,λv L y=>?_⟩;obtain⟨rfl,c,w,rfl⟩:=y;have e:x.cps.getD i 0=c:=by rw[Array.getD_eq_getD_getElem?,w];rfl
  rw[e];exact⟨Same.refl _,.str _⟩
 ·exact f.elim
def Ij:S->S->(S->Prop)->Prop:=λx y R=>match x.d,y.d with
 | .str t,.int i=>t.length<=sizeLine/\∃c,atI t.cps.toList i=some c/\R (.sh<|.str ⟨#[c]⟩)
 |_,_=>False
def Zgn{g f:TE}{a b:PTE}(w:Xf K mg E g a)(s:Xf K mg E f b):Xf K mg E (tOp Hg g f) (p2 a b Ij):=by
 refine KL w s λN H J Z x y v u R Q l L M r p h q=>?_;have o:=r.rp l;have n:=p.rp l;unfold Ij at h;split at h
 ·rename_i t i G C;rw[G]at o;rw[C]at n;cases o
  cases n
  obtain⟨B,c,A,z⟩:=h;exact⟨t,i,c,rfl,rfl,B,A,q _ _ J z (Same.refl _) (.str _)⟩
 ·exact h.elim
def Ab:S->S->(S->Prop)->Prop:=λx y R=>match x.d,y.d with
 | .str s,.str t=>∃c,s=⟨#[c]⟩/\R (.sh<|.bl<|decide (c∈t.cps.toList))
 |_,_=>False
def Zks{g f:TE}{a b:PTE}(z:Xf K mg E g a)(w:Xf K mg E f b):Xf K mg E (tOp DL g f) (p2 a b Ab):=by
 refine KL z w λM H G Z x y v u R Q l J L r p h q=>?_;have o:=r.rp l;have n:=p.rp l;unfold Ab at h;split at h
 ·rename_i s t C B;rw[C]at o;rw[B]at n;cases o
  cases n
  obtain⟨c,rfl,A⟩:=h;exact⟨c,t,rfl,rfl,q _ _ G A (Same.refl _) (.bl _)⟩
 ·exact h.elim
def IT:List S->(S->Prop)->Prop
 |[s],R=>(match s.d with | .str t=>∃n,PySem.intText? t=some n/\t.length<=640/\R (.sh<|.int n)|_=>False)
 |_,_=>False
def MY{b:TA}{r:PTA}(p:X0 K mg E b r):Xf K mg E (tCB (λxs H Q=>∃(t:Str) (n:Int),xs=[.str t]/\PySem.intText? t=some n/\t.length<=640/\Q (.int n) H) b) (pCB IT r):=by
 refine Pt p λC H x Z z y R Q o A B g h q=>?_;unfold IT at h;split at h
 ·obtain⟨v,rfl,l⟩:=g.one_inv;have f:=l.rp o;split at h
  ·rename_i t e;rw[e]at f;cases f
   obtain⟨n,w,u,s⟩:=h;exact⟨t,n,rfl,w,u,q _ _ x s (Same.refl _) (.int _)⟩
  ·exact h.elim
 ·exact h.elim
end
end Pu
namespace M
open L2 Own Pu
noncomputable def spc:Str:=⟨#[32]⟩
def LS{a b:Str}(h:a.cps.toList=b.cps.toList):a=b:=by
 obtain⟨a⟩:=a;obtain⟨b⟩:=b;rw[show a=b from Array.toList_inj.mp h]
def IR(a b:Str):(a++b).cps.toList=a.cps.toList++b.cps.toList:=by
 show(a.cps++b.cps).toList=_;rw[Array.toList_append]
def B6(c:Nat)(x y:Str)(r:Yp):(Str.join ⟨#[c]⟩ (x::y::r)).cps.toList=x.cps.toList++c::(Str.join ⟨#[c]⟩ (y::r)).cps.toList:=by
 show(x++⟨#[c]⟩++Str.join ⟨#[c]⟩ (y::r)).cps.toList=_;rw[IR,IR,Jx];rfl
theorem GH{c:Nat}:∀{a b r s:Yn},c∉a->c∉b->a++c::r=b++c::s->a=b/\r=s
 |[],[],_,_,_,_,h=>⟨rfl,(List.cons.inj h).2⟩
 |[],y::b,_,_,_,f,h=>absurd ((List.cons.inj h).1▸WS) f
 |x::a,[],_,_,g,_,h=>absurd ((List.cons.inj h).1.symm▸WS) g
 |x::a,y::b,r,s,g,f,h=>by
  obtain⟨n,l⟩:=List.cons.inj h;obtain⟨p,o⟩:=GH (λz=>g (WG _ z)) (λz=>f (WG _ z)) l;exact⟨by rw[n,p],o⟩
theorem IP(c:Nat):∀{f us:Yp},f≠[]->us≠[]->(∀w∈f,c∉w.cps.toList)->(∀w∈us,c∉w.cps.toList)->(Str.join ⟨#[c]⟩ f).cps.toList=(Str.join ⟨#[c]⟩ us).cps.toList->f=us
 |[],_,h,_,_,_,_=>absurd rfl h
 |_,[],_,h,_,_,_=>absurd rfl h
 |[x],[y],_,_,_,_,h=>by rw[LS (a:=x) (b:=y) h]
 |[x],y::z::r,_,_,hx,_,h=>by
  rw[B6]at h;have h:x.cps.toList=_:=h;exact absurd (by rw[h];simp) (hx x WS)
 |x::z::r,[y],_,_,_,g,h=>by
  rw[B6]at h;have h:_=y.cps.toList:=h;exact absurd (by rw[←h];simp) (g y WS)
 |x::p::r,y::o::s,_,_,hx,g,h=>by
  rw[B6,B6]at h;obtain⟨n,l⟩:=GH (hx x WS) (g y WS) h;rw[LS n,IP c (by simp) (by simp) (λw hw=>hx w (WG _ hw)) (λw hw=>g w (WG _ hw)) l]
def Zj8(x y:Str):Txt.split x y≠[]:=by
 unfold Txt.split;split
 ·simp
 ·split
  ·simp
  ·intro z
   have:=Qf List.length z
   rw[Jn]at this;cases this
def Zaw{c:Nat}{b:Yp}(f:b≠[])(g:∀w∈b,c∉w.cps.toList):Txt.split (Str.join ⟨#[c]⟩ b) ⟨#[c]⟩=b:=
 IP c (Zj8 _ _) f (StrLaws.split_free _ c) g (by rw[StrLaws.join_split])
noncomputable def nS(n:Int):Str:=Str.ofString (toString n)
noncomputable def K4(x:Str):Bool:=!(decide ((x.length:Int)<1) || decide ((x.length:Int)>4)) && !(decide (x.cps.toList.head?=some 48) && !decide (x=("0" : Str)))&&(x.cps.toList.map λc=>decide (c∈("0123456789" : Str).cps.toList)).all id
def R8:((List.range 10000).all λm=>decide ((Nat.toDigits 10 m).length<=4) && !(decide ((Nat.toDigits 10 m).head?=some '0') && !decide (m=0)))=true:=by decide +kernel
def S9(m:Nat):(nS (m:Int)).cps.toList=(Nat.toDigits 10 m).map Char.toNat:=PySem.W.KIN.signs_num m
def Lw{n:Int}(g:0<=n):∀c∈(nS n).cps.toList,48<=c/\c<=57:=by
 obtain⟨m,rfl⟩:=Int.eq_ofNat_of_zero_le g;intro c f;rw[S9]at f;obtain⟨h,b,e⟩:=WQ.mp f;rw[←e];exact digit_range (Nat.isDigit_of_mem_toDigits (by decide) (by decide) b)
def CP{n:Int}(p:0<=n)(r:n<=9999):1<=(nS n).length/\(nS n).length<=4/\((nS n).cps.toList.head?=some 48->n=0):=by
 obtain⟨m,rfl⟩:=Int.eq_ofNat_of_zero_le p;have h:=Qi.mp R8 m (V8.mpr<|by lia);rw[Qa]at h;have o:=W7 h.1
 have l:(nS (m:Int)).length=(Nat.toDigits 10 m).length:=by
  have:=Qf List.length (S9 m)
  rw[Wx,Qc]at this;exact this
 refine⟨?_,by rw[l];exact o,λz=>?_⟩
 ·rw[l];exact toDigits_len_ge 10 m
 ·rw[S9,List.head?_map]at z;have b:=h.2;cases e:(Nat.toDigits 10 m).head? with
  |none=>rw[e]at z;cases z
  |some g=>
   rw[e]at z b
   have f:g='0':=Char.ext (by
    have z:g.toNat=48:=WD z;exact UInt32.toNat_inj.mp z)
   rw[f,W4 rfl,Jv,Bool.not_not]at b
   have:=W7 b
   lia
def Zfg{n:Int}(f:0<=n)(o:n<=9999):K4 (nS n)=true:=by
 obtain⟨r,p,g⟩:=CP f o;unfold K4;rw[WH (by lia),WH (by lia)];rw[Qa,Qa];refine⟨⟨rfl,?_⟩,?_⟩
 ·by_cases z:(nS n).cps.toList.head?=some 48
  ·rw[g z];decide +kernel
  ·rw[WH z];rfl
 ·rw[Qi];intro b l;obtain⟨c,h,rfl⟩:=WQ.mp l;obtain⟨u,s⟩:=Lw f c h
  have:c=48\/c=49\/c=50\/c=51\/c=52\/c=53\/c=54\/c=55\/c=56\/c=57:=by lia
  rcases this with rfl|rfl|rfl|rfl|rfl|rfl|rfl|rfl|rfl|rfl<;>decide +kernel
def Zch{n:Int}(b:0<=n)(f:n<=9999):PySem.intText? (nS n)=some n:=PySem.W.KIN.num_reads b (by lia)
def A9(m:Nat):(nS<|Int.negSucc m).cps.toList=45::(Nat.toDigits 10 (m+1)).map Char.toNat:=by
 show(Str.ofString ("-"++Nat.repr (m+1))).cps.toList=_;rw[signs_ofString,String.toList_append,WU,Nat.toList_repr];rfl
def OJ(m:Nat):∀c∈(Nat.toDigits 10 m).map Char.toNat,48<=c/\c<=57:=by
 intro c f;obtain⟨g,b,e⟩:=WQ.mp f;rw[←e];exact digit_range (Nat.isDigit_of_mem_toDigits (by decide) (by decide) b)
def Gw(n:Int):∀c∈(nS n).cps.toList,c=45\/(48<=c/\c<=57):=by
 intro c b;cases n with
 |ofNat m=>exact .inr (Lw (Int.natCast_nonneg m) c b)
 |negSucc m=>
  rw[A9]at b;rcases WA.mp b with h|h
  ·exact .inl h
  ·exact .inr (OJ _ c h)
def Zbo(n:Int):(nS n).cps.all (· < 128)=true:=by
 rw[←Array.all_toList,Qi];intro c b
 have:=Gw n c b
 exact W4 (by lia)
def Ot(n:Int):32∉(nS n).cps.toList:=λz=>by
 have:=Gw n 32 z
 lia
def Ah(m:Nat){k:Nat}(b:0<k):(Nat.toDigits 10 m).length<=k↔m<10 ^ k:=by
 rw[←Nat.length_repr_le_iff b,←Nat.toList_repr];exact Iff.rfl
def DG{n:Int}{b:Yn}(h:(nS n).cps.toList=b):(nS n).length=b.length:=by
 rw[←h,Qc];rfl
def HC{n:Int}(h:n.natAbs<=10 ^ 30):1<=(nS n).length/\(nS n).length<=32:=by
 cases n with
 |ofNat m=>
  have e:=DG (S9 m);rw[Wx]at e
  have:=(Ah m (k:=31)<|by decide).mpr (QR h<|by decide)
  have:=toDigits_len_ge 10 m
  exact⟨by rw[show(Int.ofNat m)=((m:Nat):Int)from rfl];lia,by rw[show(Int.ofNat m)=((m:Nat):Int)from rfl];lia⟩
 |negSucc m=>
  have e:=DG (A9 m);rw[Qq,Wx]at e
  have:=(Ah (m+1) (k:=31)<|by decide).mpr (QR h<|by decide)
  exact⟨by lia,by lia⟩
def RT(n:Int):K4 (nS n)=decide (0<=n/\n<=9999):=by
 by_cases h:0<=n/\n<=9999
 ·rw[Zfg h.1 h.2,W4 h]
 ·rw[WH h];unfold K4;cases n with
  |ofNat m=>
   have e:=DG (S9 m);rw[Wx]at e
   have:¬(Nat.toDigits 10 m).length<=4:=λz=>by
    have:=(Ah m (k:=4)<|by decide).mp z
    exact h ⟨Int.natCast_nonneg m,by show((m:Nat):Int)<=9999;lia⟩
   rw[show Int.ofNat m=((m:Nat):Int)from rfl,W4 (p:=((nS (m:Int)).length:Int)>4) (by lia),J0]
   rfl
  |negSucc m=>
   rw[A9,WN,Vs,show decide (45∈("0123456789" : Str).cps.toList)=false by decide +kernel];exact Bool.and_false _
noncomputable def TK(os:Yi):Bool:=os.all λn=>decide (0<=n/\n<=9999)
def rowB_iff{os:Yi}:TK os=true↔∀n∈os,0<=n/\n<=9999:=by
 unfold TK;rw[Qi];exact⟨λh n b=>W7 (h n b),λh n b=>W4 (h n b)⟩
def Zj6(os:Yi):(os.map λn=>K4 (nS n)).all id=TK os:=by
 unfold TK;rw[List.all_map];congr 1;funext n;exact RT n
def MR{i:Int}(h:i.natAbs<=10 ^ 30):i.natAbs.log2<1920:=by
 by_cases z:i.natAbs=0
 ·rw[z];decide
 ·exact WR ((Nat.log2_lt z).mpr (QR h<|show 10 ^ 30<2 ^ 100 by decide)) (by decide)
def Zgq(a b:Str):(a++b).length=a.length+b.length:=by
 show(a.cps++b.cps).size=_;rw[Array.size_append];rfl
end M
namespace Pu
open L2 Own M
section
variable {K:Yg}{mg:Yk}{E:L2.St->XK}
noncomputable def Zea(w:PTW)(c:Str):PTV:=λf R X=>w f (λb d=>match d with | .str s=>R b (!decide (s=c))|_=>False) X
def Zco{te:TE}{w:PTW}{c:Str}(hw:KG K mg E te w):KS K mg E (S4<|tOp (λx y H Q=>rNe x y H Q\/Pp K true x y H Q) te<|tC<|.str c) (Zea w c):=by
 intro z B H r A R X Q G o h q u;refine hw z B H r A _ _ _ G o h (λf d v L n p f1 C=>?_) u;split at n
 ·rename_i s;rw[C.str_inv];exact Pb (Bp (Xz (x:=s))<|Xz (x:=c)) z B L r f (λb=>R f b) (X f) _ p n (λb J l g=>q _ _ _ l (p.grow g) (f1.trans<|Fr.grow g)) λc J l g=>u _ _ _ l (p.grow g) (f1.trans<|Fr.grow g)
 ·exact n.elim
noncomputable def Zik(w:PTW)(c:Pc)(r:PTA):PTV:=λg R X=>w g (λf d=>r f (λh=>c (d::h.map S.d) (λs=>match s.d with | .bl b=>R f b|_=>False) (λ_=>False)) (X f)) X
def Ow{te:TE}{w:PTW}{c:Pc}{A:TA}{r:PTA}(hw:KG K mg E te w)(hr:X0 K mg E A r):KS K mg E (Fw K<|Tz (Xp mg c K) [] E0<|XH te A) (Zik w c r):=by
 intro L B H y M R X Q hB o h q G;refine hw L B H y M _ _ _ hB o h (λl d v H' h1 p f1 rd=>?_) G;refine hr L B H' y l _ _ _ p h1 (λY N H1 h2 u U=>?_) (λc J hc g=>G l c J hc (p.grow g) (f1.trans<|Fr.grow g));have f:=p.grow u;show Xp mg c K ((v::N)++[]) H1 _ E0;rw[Qg];refine⟨d::Y.map S.d,_,_,.cons (Rp.mono u<|Rp.mono off_sub rd) (U.rps f.same),h2,λs x J n g T=>?_,λ_ _ z=>z.elim⟩;split at n
 ·rename_i b e;have C:=T.rp g;rw[e]at C;rw[C.bl_inv];exact⟨b,rfl,q _ _ _ n (f.grow g) (f1.trans<|Fr.grow<|u.trans g)⟩
 ·exact n.elim
end
end Pu
namespace T
open L2
noncomputable def top(i:Nat):Stmt:=PySem.Challenge.pw_stripmeld_k26_full_book.main.body.getD i (.Pass ⟨0,0,0,0⟩)
noncomputable abbrev FW:Stmt:=inClass (top 19) 0
def Zcl:Xk ["self","members"] ["self","members"] (Xh FW):=Pu.fs
noncomputable abbrev AE:Stmt:=top 24
def Zjy:Xk ["holder"] ["holder"] (Xh AE):=Pu.fs
noncomputable abbrev AB:Stmt:=top 25
def Zav:Xk ["width"] ["width"] (Xh AB):=Pu.fs
noncomputable abbrev Dy:Stmt:=top 26
def RU:Xk ["strips","holder","width"] ["strips"] (Xh Dy):=Pu.fs
noncomputable abbrev Aq:Stmt:=top 27
def Zdn:Xk ["strips"] ["strips"] (Xh Aq):=Pu.fs
noncomputable abbrev Aa:Stmt:=top 30
def OV:Xk ["strips","ahead","behind","to_pass","cost","holder","width"] ["strips","ahead","behind"] (Xh Aa):=Pu.fs
noncomputable abbrev Cu:Stmt:=top 38
def Zkv:Xk ["strips","place"] ["strips","place"] (Xh Cu):=Pu.fs
noncomputable abbrev Ap:Stmt:=top 42
def LP:Xk ["paths","left","wishes","longer","reached","path","holder"] ["paths","left","wishes"] (Xh Ap):=Pu.fs
noncomputable abbrev Ar:Stmt:=top 43
def Zjp:Xk ["least","holders","wishes","paths","left","rings","reached"] ["least","holders","wishes"] (Xh Ar):=Pu.fs
noncomputable abbrev Do:Stmt:=top 44
def Za3:Xk ["holders","wishes","ring","least","found"] ["holders","wishes"] (Xh Do):=Pu.fs
noncomputable abbrev AF:Stmt:=top 45
def Of:Xk ["strips","wishes","ring"] ["strips","wishes"] (Xh AF):=Pu.fs
noncomputable abbrev A4:Stmt:=top 47
def Zhs:Xk ["strips","place"] ["strips","place"] (Xh A4):=Pu.fs
noncomputable abbrev Am:Stmt:=top 48
def Zky:Xk ["strips","place","holder","strip"] ["strips","place","holder"] (Xh Am):=Pu.fs
noncomputable abbrev Dt:Stmt:=top 49
def Zcg:Xk ["strips","place","width","strip"] ["strips","place","width"] (Xh Dt):=Pu.fs
noncomputable abbrev Dn:Stmt:=top 50
def Zle:Xk ["strips","place","left","right"] ["strips","place"] (Xh Dn):=Pu.fs
noncomputable abbrev Ag:Stmt:=top 51
def Zcn:Xk ["wishes","ahead","behind"] ["wishes","ahead","behind"] (Xh Ag):=Pu.fs
noncomputable abbrev Ae:Stmt:=top 52
def Zai:Xk ["wishes","ahead","behind"] ["wishes","ahead","behind"] (Xh Ae):=Pu.fs
noncomputable abbrev AM:Stmt:=top 54
def GD:Xk ["strips","holders","costs","ahead","behind"] ["strips"] (Xh AM):=Pu.fs
noncomputable abbrev F8:Stmt:=top 55
def OO:Xk ["holders","sets","holder"] ["holders"] (Xh F8):=Pu.fs
noncomputable abbrev F7:Stmt:=top 56
def Zj2:Xk ["members","holder"] ["members","holder"] (Xh F7):=Pu.fs
noncomputable abbrev Dv:Stmt:=top 57
def Zbb:Xk ["members","holder","wishes"] ["members","holder","wishes"] (Xh Dv):=Pu.fs
noncomputable abbrev AK:Stmt:=top 59
def Zh9:Xk ["members","last","least","pairs","others"] ["members","last","least","pairs"] (Xh AK):=Pu.fs
noncomputable abbrev D7:Stmt:=top 61
def EN:Xk ["strips","wishes","pairs","least","members","lasts"] ["strips","wishes","pairs"] (Xh D7):=Pu.fs
noncomputable abbrev Dj:Stmt:=top 62
def Zhh:Xk ["strips","wishes","least"] ["strips","wishes"] (Xh Dj):=Pu.fs
noncomputable abbrev Cr:Stmt:=top 64
def Zd6:Xk ["strips","wishes"] ["strips","wishes"] (Xh Cr):=Pu.fs
noncomputable abbrev AY:Stmt:=inClass (top 67) 0
def Zia:Xk ["self","strips"] ["self","strips"] (Xh AY):=Pu.fs
noncomputable abbrev FZ:Stmt:=inClass (top 67) 1
def Zg5:Xk ["self"] ["self"] (Xh FZ):=Pu.fs
noncomputable abbrev CZ:Stmt:=inClass (top 67) 2
def OT:Xk ["self"] ["self"] (Xh CZ):=Pu.fs
noncomputable abbrev Au:Stmt:=inClass (top 67) 3
def Zfo:Xk ["self"] ["self"] (Xh Au):=Pu.fs
noncomputable abbrev CL:Stmt:=inClass (top 67) 4
def Zd7:Xk ["self"] ["self"] (Xh CL):=Pu.fs
noncomputable abbrev Cz:Stmt:=inClass (top 67) 5
def Zk6:Xk ["self","deed","field","wishes"] ["self","deed","field","wishes"] (Xh Cz):=Pu.fs
noncomputable abbrev AQ:Stmt:=inClass (top 67) 6
def Zdo:Xk ["self","place","holder","field"] ["self","place","holder"] (Xh AQ):=Pu.fs
noncomputable abbrev FV:Stmt:=inClass (top 67) 7
def Zb9:Xk ["self","place","width","field"] ["self","place","width"] (Xh FV):=Pu.fs
noncomputable abbrev Cn:Stmt:=inClass (top 67) 8
def Zj0:Xk ["self","place","field"] ["self","place"] (Xh Cn):=Pu.fs
noncomputable abbrev D3:Stmt:=inClass (top 67) 9
def RX:Xk ["self","ahead","behind","wishes"] ["self","ahead","behind"] (Xh D3):=Pu.fs
noncomputable abbrev D6:Stmt:=inClass (top 67) 10
def Zkf:Xk ["self","ahead","behind","wishes"] ["self","ahead","behind"] (Xh D6):=Pu.fs
noncomputable abbrev F2:Stmt:=inClass (top 67) 11
def O8:Xk ["self"] ["self"] (Xh F2):=Pu.fs
noncomputable abbrev AV:Stmt:=inClass (top 67) 12
def Zjm:Xk ["self","many"] ["self","many"] (Xh AV):=Pu.fs
noncomputable abbrev Dq:Stmt:=inClass (top 67) 15
def Zf9:Xk ["self"] ["self"] (Xh Dq):=Pu.fs
noncomputable abbrev As:Stmt:=inClass (top 67) 21
def Zd3:Xk ["self","place","holder","field","cost"] ["self","place","holder"] (Xh As):=Pu.fs
noncomputable abbrev Cm:Stmt:=top 74
def Oy:Xk ["text"] ["text"] (Xh Cm):=Pu.fs
noncomputable abbrev FG:Stmt:=top 75
def Zjz:Xk ["word","texts"] ["word","texts"] (Xh FG):=Pu.fs
noncomputable abbrev Ax:Stmt:=top 82
def ME:Xk ["village","word","numbers"] ["village","word","numbers"] (Xh Ax):=Pu.fs
noncomputable abbrev Ad:Stmt:=top 84
def Hx:Xk ["village","word","numbers","many"] ["village","word","numbers"] (Xh Ad):=Pu.fs
noncomputable abbrev Ce:Stmt:=top 85
def E6:Xk ["village","word","numbers","e","members"] ["village","word","numbers"] (Xh Ce):=Pu.fs
noncomputable abbrev D8:Stmt:=top 86
def Zkl:Xk ["village","row","words"] ["village","row"] (Xh D8):=Pu.fs
noncomputable abbrev D9:Stmt:=top 88
def Zeq:Xk ["_law_script","_law_k"] ["_law_script","_law_k"] (Xh D9):=Pu.fs
noncomputable abbrev AH:Stmt:=top 89
def Zhu:Xk ["_law_found"] ["_law_found"] (Xh AH):=Pu.fs
noncomputable abbrev Ao:Stmt:=top 90
def Zic:Xk ["_law_cell","_law_place","_law_first"] ["_law_cell","_law_place"] (Xh Ao):=Pu.fs
noncomputable abbrev FF:Stmt:=top 91
def OP:Xk ["_law_script","_law_k"] ["_law_script","_law_k"] (Xh FF):=Pu.fs
noncomputable abbrev Cd:Stmt:=top 92
def Rm:Xk ["_law_cell","_law_wide","_law_least"] ["_law_cell"] (Xh Cd):=Pu.fs
noncomputable abbrev FA:Stmt:=top 93
def Zkr:Xk ["_law_menu_here","_law_k"] ["_law_menu_here","_law_k"] (Xh FA):=Pu.fs
noncomputable abbrev Ay:Stmt:=top 94
def Zbv:Xk ["_law_script","_law_menu_here","_law_many","_law_strips_here","_law_k","_law_cell","_law_width"] ["_law_script","_law_menu_here","_law_many"] (Xh Ay):=Pu.fs
noncomputable abbrev Ak:Stmt:=top 95
def Zfm:Xk ["_law_found","_law_due","_law_k","_law_j"] ["_law_found","_law_due"] (Xh Ak):=Pu.fs
noncomputable abbrev Du:Stmt:=top 96
def Zec:Xk ["_law_found","_law_due","_law_j"] ["_law_found","_law_due"] (Xh Du):=Pu.fs
noncomputable abbrev Dz:Stmt:=top 97
def Zhx:Xk ["_law_found","_law_due","_law_k"] ["_law_found","_law_due"] (Xh Dz):=Pu.fs
noncomputable abbrev CM:Stmt:=top 98
def Zcf:Xk ["_law_village","_law_deed"] ["_law_village","_law_deed"] (Xh CM):=Pu.fs
noncomputable abbrev A2:Stmt:=top 99
def AS:Xk ["_law_village","_law_deed","_law_kinds","e"] ["_law_village","_law_deed"] (Xh A2):=Pu.fs
noncomputable abbrev Ac:Stmt:=top 100
def Zev:Xk ["_law_k","_law_cell","_law_now","_law_one","_law_two"] ["_law_k","_law_cell","_law_now"] (Xh Ac):=Pu.fs
noncomputable abbrev Dp:Stmt:=top 101
def Lj:Xk ["_law_village","_law_now","_law_deed","_law_row","_law_found"] ["_law_village","_law_now"] (Xh Dp):=Pu.fs
noncomputable abbrev P5:Stmt:=top 102
def D4:Xk ["_law_script","_law_menu_here","_law_now","_law_village","_law_cell","_law_book","_law_k","_law_deed","_law_found"] ["_law_script"] (Xh P5):=Pu.fs
structure Glob (w:World) (K:Yg) (mg:Yk):Prop where
 ZK:mg "ValueError"=none
 ZU:mg "all"=none
 ZY:mg "any"=none
 ZX:mg "bool"=none
 ZV:mg "int"=none
 Zc:mg "isinstance"=none
 len:mg "len"=none
 Zg:mg "list"=none
 ZZ:mg "min"=none
 Zi:mg "range"=none
 Ya:mg "set"=none
 Z1:mg "sorted"=none
 ZW:mg "str"=none
 Yb:mg "sum"=none
 Z7:mg "tuple"=none
 ZC:∃u,mg "HOLDERS"=some u/\RelV (.int 10) u
 Zq:∃u,mg "STRIPS"=some u/\RelV (.int 40) u
 Zr:∃u,mg "WIDEST"=some u/\RelV (.int 1000) u
 Zu:∃u,mg "MOST_WISHES"=some u/\RelV (.int 20) u
 Zx:∃u,mg "MOST_DEEDS"=some u/\RelV (.int 100) u
 ZT:∃u,mg "FIGURES"=some u/\RelV (.str "0123456789") u
 ZF:∃u,mg "MOST_FIGURES"=some u/\RelV (.int 4) u
 Z8:Own.FQ K w.params mg "DEEDS" [("sell",2),("part",2),("unite",1),("wish",2),("drop",2)]
 ZI:mg "MeldError"=some (.ref<|ExcR.Xi mg "MeldError")
 Yc:ExcR.XX K (ExcR.Xi mg "MeldError")
 Zf:mg "TooManyStrips"=some (.ref<|ExcR.Xi mg "TooManyStrips")
 Zj:ExcR.XX K (ExcR.Xi mg "TooManyStrips")
 Zv:mg "BadHolder"=some (.ref<|ExcR.Xi mg "BadHolder")
 ZJ:ExcR.XX K (ExcR.Xi mg "BadHolder")
 ZL:mg "BadWidth"=some (.ref<|ExcR.Xi mg "BadWidth")
 ZM:ExcR.XX K (ExcR.Xi mg "BadWidth")
 Zn:mg "NoStrip"=some (.ref<|ExcR.Xi mg "NoStrip")
 Z2:ExcR.XX K (ExcR.Xi mg "NoStrip")
 ZN:mg "BadOrder"=some (.ref<|ExcR.Xi mg "BadOrder")
 Yd:ExcR.XX K (ExcR.Xi mg "BadOrder")
 Zy:mg "OwnStrip"=some (.ref<|ExcR.Xi mg "OwnStrip")
 ZO:ExcR.XX K (ExcR.Xi mg "OwnStrip")
 Z3:mg "BadPart"=some (.ref<|ExcR.Xi mg "BadPart")
 ZP:ExcR.XX K (ExcR.Xi mg "BadPart")
 Zk:mg "UnlikeHolders"=some (.ref<|ExcR.Xi mg "UnlikeHolders")
 Z9:ExcR.XX K (ExcR.Xi mg "UnlikeHolders")
 Z4:mg "TooWide"=some (.ref<|ExcR.Xi mg "TooWide")
 ZQ:ExcR.XX K (ExcR.Xi mg "TooWide")
 Zo:mg "LikeHolders"=some (.ref<|ExcR.Xi mg "LikeHolders")
 ZD:ExcR.XX K (ExcR.Xi mg "LikeHolders")
 Zs:mg "WishStands"=some (.ref<|ExcR.Xi mg "WishStands")
 ZG:ExcR.XX K (ExcR.Xi mg "WishStands")
 Zl:mg "TooManyWishes"=some (.ref<|ExcR.Xi mg "TooManyWishes")
 ZA:ExcR.XX K (ExcR.Xi mg "TooManyWishes")
 Z5:mg "NoWish"=some (.ref<|ExcR.Xi mg "NoWish")
 ZS:ExcR.XX K (ExcR.Xi mg "NoWish")
 Zm:mg "BookFull"=some (.ref<|ExcR.Xi mg "BookFull")
 Zh:ExcR.XX K (ExcR.Xi mg "BookFull")
 Zp:mg "NothingDone"=some (.ref<|ExcR.Xi mg "NothingDone")
 ZE:ExcR.XX K (ExcR.Xi mg "NothingDone")
 Zt:mg "NoSuchDeed"=some (.ref<|ExcR.Xi mg "NoSuchDeed")
 ZH:ExcR.XX K (ExcR.Xi mg "NoSuchDeed")
 Z6:mg "Ringed"=some (.ref<|ExcR.Xi mg "Ringed")
 Ye:∃g,ExcR.Pr K (ExcR.Xi mg "Ringed") g
 Yf:PySem.W.exmOne K (.ref<|ExcR.Xi mg "Ringed") (.ref<|ExcR.Xi mg "Ringed")=some true
 ex:Pu.ExOk K mg ["Ringed","TooManyStrips","BadHolder","NoStrip","OwnStrip","BadPart","UnlikeHolders","TooWide","LikeHolders","WishStands","TooManyWishes","NoWish","BookFull"] ["TooManyStrips","BadHolder","NoStrip","OwnStrip","BadPart","UnlikeHolders","TooWide","LikeHolders","WishStands","TooManyWishes","NoWish","BookFull","NothingDone","NoSuchDeed","BadOrder","Ringed"]
 Z0:PySem.W.exmOne K (.ref<|ExcR.Xi mg "BookFull") (.ref<|ExcR.Xi mg "BookFull")=some true
 Zz:PySem.W.kitOne K (.ref<|ExcR.Xi mg "BookFull") (.ref<|ExcR.Xi mg "MeldError")=some true
 Zw:PySem.W.kitOne K (.ref<|ExcR.Xi mg "BookFull") (.type "ValueError")=some true
 ZR:mg "Village"=some (.ref<|ExcR.Xi mg "Village")
 Za:Cls K (ExcR.Xi mg "Village")
 Zb:NoAttr K (ExcR.Xi mg "Village") "book"
 Zd:NoAttr K (ExcR.Xi mg "Village") "fields"
 Ze:NoAttr K (ExcR.Xi mg "Village") "wished"
def Nn:Pu.FldAt "book" ["book","fields","wished"] 0:=.of (by decide +kernel) (by decide +kernel) rfl
def Zge:Pu.PutAt "book" []:=.of (by decide +kernel)
def Fd:Pu.FldAt "fields" ["book","fields","wished"] 1:=.of (by decide +kernel) (by decide +kernel) rfl
def Ze4:Pu.PutAt "fields" ["book"]:=.of (by decide +kernel)
def Fe:Pu.FldAt "wished" ["book","fields","wished"] 2:=.of (by decide +kernel) (by decide +kernel) rfl
def Zkb:Pu.PutAt "wished" ["book","fields"]:=.of (by decide +kernel)
def PU:Pu.NoFld "strips" ["book","fields","wished"]:=.of (by decide +kernel)
def Nq:Pu.NoFld "wishes" ["book","fields","wished"]:=.of (by decide +kernel)
def Hq:Pu.NoFld "deeds" ["book","fields","wished"]:=.of (by decide +kernel)
def SC:Pu.NoFld "check_room" ["book","fields","wished"]:=.of (by decide +kernel)
def SU:Pu.NoFld "enter" ["book","fields","wished"]:=.of (by decide +kernel)
def Iy:Pu.NoFld "sell" ["book","fields","wished"]:=.of (by decide +kernel)
def Ii:Pu.NoFld "part" ["book","fields","wished"]:=.of (by decide +kernel)
def Mx:Pu.NoFld "unite" ["book","fields","wished"]:=.of (by decide +kernel)
def GC:Pu.NoFld "wish" ["book","fields","wished"]:=.of (by decide +kernel)
def Mp:Pu.NoFld "drop" ["book","fields","wished"]:=.of (by decide +kernel)
def Od:Pu.NoFld "take_back" ["book","fields","wished"]:=.of (by decide +kernel)
def Rj:Pu.NoFld "stood" ["book","fields","wished"]:=.of (by decide +kernel)
def Zkc:Pu.NoFld "cost" ["book","fields","wished"]:=.of (by decide +kernel)
def Zac:Pu.NoFld "offer" ["book","fields","wished"]:=.of (by decide +kernel)
end T
namespace M
open L2 Own Pu
noncomputable def O3:Pc:=λb R X=>∃h:Int,b=[.int h]/\XC (NL h) X (R<|.sh .non)
noncomputable def AJ(h:Int):Option Str:=if 1<=h/\h<=1000 then none else some "BadWidth"
noncomputable def Zjq:Pc:=λb R X=>∃h:Int,b=[.int h]/\XC (AJ h) X (R<|.sh .non)
noncomputable def Hv(_:Yg):Sp:=λg H Q _=>∃(l:Addr) (b:Yh),g=[.ref l]/\LAt KP H l b/\Field b/\b.length<=50/\
 ∀(q:Addr) (f:Hp),H q=none->Same H f->f q=some (.lst ((XD b).map V.int))->Q (.ref q) f
noncomputable def LN:Pc:=λf R _=>∃b:Yh,f=[.lst (b.map prD)]/\Field b/\b.length<=50/\R (.own ((XD b).map D.int))
def Cw{P:Program}{w:World}{K:Yg}{b:Yk}{base:Heap}(C:Callee P w K b base CX0 1 "holders_of" ["strips"] (Hv K)):Callee P w K b base CX0 1 "holders_of" ["strips"] (Xp b LN K):=MF C λB R X z H Q E r o u A=>by
 obtain⟨g,rfl,x,n,s⟩:=o;obtain⟨v,rfl,f⟩:=r.one_inv;obtain⟨a,rfl,p⟩:=f.pairs_inv;exact⟨a,g,rfl,p,x,n,λq y l S h=>u _ _ y s S (Zhg l h)⟩
noncomputable def Zkj:Pc:=λf R _=>∃(b:Yh) (x y:Int),f=[.lst (b.map prD),.int x,.int y]/\Field b/\R (.sh<|.int<|pcM b x y b.length)
noncomputable def RM:Pc:=λf R X=>∃(b:Yh) (p:Int),f=[.lst (b.map prD),.int p]/\(if p<1\/(b.length:Int)<=p then X "NoStrip" else R (.sh .non))
noncomputable def Zc8:Pc:=λo R _=>∃(l:Int) (f:List (Yi)) (b:Yi) (n:Yh),o=[.lst (f.map<|em l),.lst (b.map D.int),.lst (n.map prD)]/\f.Pairwise sl/\b.Pairwise (· < ·)/\(∀p∈f,p.length<=100)/\b.length<=100/\
 ∀g,LG n l (λp h=>p∈f/\h∈b) g->g.length<=b.length->R (.own<|g.map<|em l)
noncomputable def Zc7:Pc:=λf R X=>∃(b:Yh) (p:Int),f=[plD b,.int p]/\XC (Fb b p) X (R<|.sh .non)
noncomputable def Zli:Pc:=λg R X=>∃(f:Yh) (a b:Int),g=[plD f,.int a,.int b]/\f.length<=1000/\XC (Kk f a b) X (R<|.own ((N4 f a b).map prD))
noncomputable def Om:Pc:=λf R _=>∃b:Yi,f=[.lst (b.map D.int)]/\b.length<=10/\R (.own ((X5 b).map tD))
noncomputable def Zgu:Pc:=λf R _=>∃(b:Yi) (h:Int),f=[tD b,.int h]/\b.length<=1000/\R (.sh<|tD<|XG b h)
noncomputable def Zbs:Pc:=λg R _=>∃(f:Yi) (h:Int) (b:Yh),g=[tD f,.int h,.lst (b.map prD)]/\b.length<=50/\R (.sh<|.bl<|PY b f h)
noncomputable def Zi7(C:Addr):Pc:=λg R _=>∃(bk:List (Str×Yi)) (fs b:List (Yh)) (f:Yh),g=[Ng C bk (fs++[f]) b]/\R (.own<|f.map prD)
noncomputable def Zbr(C:Addr):Pc:=λg R _=>∃(bk:List (Str×Yi)) (fs b:List (Yh)) (f:Yh),g=[Ng C bk fs (b++[f])]/\R (.own<|f.map prD)
noncomputable def Ov(C:Addr):Pc:=λf R _=>∃(bk:List (Str×Yi)) (fs b:List (Yh)),f=[Ng C bk fs b]/\R (.own<|bk.map dD)
noncomputable def TM(bk:List (Str×Yi)):Option Str:=if 100<=bk.length then some "BookFull" else none
noncomputable def Zh5(C:Addr):Pc:=λf R X=>∃(bk:List (Str×Yi)) (fs b:List (Yh)),f=[Ng C bk fs b]/\XC (TM bk) X (R<|.sh .non)
noncomputable def Ziq(C:Addr):Pw:=λo l R _=>∃(x b1 h g:Addr) (bk:List (Str×Yi)) (fs b:List (Yh)) (q:Str×Yi) (f w:Yh),o=vO C x b1 h g bk fs b/\l=[.sh (dD q),.sh (plD f),.sh (plD w)]/\bk.length<=1000/\fs.length<=1000/\b.length<=1000/\
 R (vO C x b1 h g (bk++[q]) (fs++[f]) (b++[w])) (.int (bk.length+1))
noncomputable def Zgg(C:Addr):Pw:=λo h R X=>∃(x b1 g f:Addr) (bk:List (Str×Yi)) (fs b:List (Yh)),o=vO C x b1 g f bk fs b/\h=[]/\fs.length=bk.length+1/\b.length=bk.length+1/\
 (bk=[]->X (vO C x b1 g f bk fs b) "NothingDone")/\∀b0 q,bk=b0++[q]->R (vO C x b1 g f b0 fs.dropLast b.dropLast) (dD q)
noncomputable def Zau(C:Addr):Pc:=λg R X=>∃(bk:List (Str×Yi)) (fs b:List (Yh)) (k:Int),g=[Ng C bk fs b,.int k]/\fs.length=bk.length+1/\b.length=bk.length+1/\(k<0\/(bk.length:Int)<k->X "NoSuchDeed")/\
 ∀(f w:Yh) (i:Nat) (x y:Addr),k=i->fs[i]?=some f->b[i]?=some w->R (.own<|.nst [(x,f.map prD),(y,w.map prD)])
noncomputable def Zjt:Pc:=λb R _=>∃x:Str,b=[.str x]/\x.length<=sizeLine/\x.cps.all (· < 128)=true/\R (.sh<|.bl<|K4 x)
noncomputable def Zda:Pc:=λf R _=>∃(b:Yi) (k:Int),f=[.scr b,.int k]/\0<=k/\∀v:Int,R (.sh<|.int v)
noncomputable def Zi9:Pc:=λb R _=>∃i:Int,b=[.int i]/\R (.sh<|.bl true)
noncomputable def Ze8:Pc:=λb R _=>∃c p:Int,b=[.int c,.int p]/\∀v:Int,R (.sh<|.int v)
noncomputable def Zlf:Pc:=λb R _=>∃c:Int,b=[.int c]/\∀m,AC m->R (.own<|m.map D.int)
noncomputable def Zey:Pc:=λb R _=>∃(m:Yi) (k:Int),b=[.lst (m.map D.int),.int k]/\AC m/\∀h:Int,1<=h->h<=10->h=Zbq m k->R (.sh<|.int h)
noncomputable def KD(k c:Int)(f:Yh):Dd:=if c / 90 % 2=0 then(if k % 2=0 then .wish (1+c % 10) (1+(c % 10+1+c / 10 % 9) % 10)else .drop (1+c % 10) (1+(c % 10+1+c / 10 % 9) % 10))else .sell 1 (if k % 2=0 then 1+(Xv f 1).1 % 10 else 1+((Xv f 1).1+4) % 10)
noncomputable def Zer:Pc:=λb R _=>∃(k c:Int) (f:Yh),b=[.int k,.int c,plD f]/\1<=f.length/\f.length<=40/\R (.sh (dD (KD k c f).q))
noncomputable def OY:Pc:=λf R X=>∃b:Yh,f=[plD b]/\b.length<=1000/\XC (NY b) X (R<|.sh .non)
noncomputable def Zct:Pc:=λg R _=>∃(l:Int) (b:Yi) (f:Yh),g=[.int l,.lst (b.map D.int),.lst (f.map prD)]/\b.Nodup/\b.length<=50/\∀r,RF b f l r->r.length<=60->R (.sh<|.lst<|r.map D.int)
noncomputable def Zkz:Pc:=λf R X=>∃(b:Yh) (p h:Int),f=[plD b,.int p,.int h]/\b.length<=1000/\XC (Kh b p h) X (R<|.own (P1 b p h |>.map prD))
noncomputable def Zah:Pc:=λf R X=>∃(b:Yh) (p w:Int),f=[plD b,.int p,.int w]/\b.length<=1000/\XC (Ph b p w) X (R<|.own ((NU b p w).map prD))
noncomputable def Ziz:Pc:=λf R X=>∃(b:Yh) (p:Int),f=[plD b,.int p]/\b.length<=1000/\XC (KQ b p) X (R<|.own ((NT b p).map prD))
noncomputable def Zbx:Pc:=λg R X=>∃(f:Yh) (a b:Int),g=[plD f,.int a,.int b]/\f.length<=1000/\XC (Ko f a b) X (R<|.own ((f++[(a,b)]).map prD))
noncomputable def Zkk:Pc:=λg R _=>∃b:Yh,g=[.lst (b.map prD)]/\Field b/\b.length<=50/\
 ∀f:List (List Key×V),(∀x∈XD b,∀y∈XD b,Xu f [.inl x,.inl y]=some (.int<|pcM b x y b.length))->R (.own<|.dT f)
noncomputable def Oc:Pc:=λg R _=>∃(b:Yi) (l:Int) (le f:List (List Key×V)) (c:Int->Int) (v:Int),g=[tD b,.int l,.dT le,.dT f]/\b.length<=1000/\Xu le (kT<|XG b l)=some (.int v)/\
 (∀m∈XG b l,Xu f [.inl m,.inl l]=some (.int<|c m))/\R (.sh<|.int (v+((XG b l).map c).sum))
noncomputable def Sf(bk:List (Str×Yi))(w:Yh)(a b:Int):Option Str:=if 100<=bk.length then some "BookFull" else Kk w a b
noncomputable def Zfb(C:Addr):Pw:=λo n R X=>∃(x b1 l g:Addr) (bk:List (Str×Yi)) (fs b:List (Yh)) (f w:Yh) (p h:Int),o=vO C x b1 l g bk (fs++[f]) (b++[w])/\n=[.sh (.int p),.sh (.int h)]/\bk.length<=1000/\fs.length<=900/\b.length<=900/\w.length<=1000/\
 XC (Sf bk w p h) (X<|vO C x b1 l g bk (fs++[f]) (b++[w])) (R (vO C x b1 l g (bk++[(("drop" : Str),[p,h])]) (fs++[f]++[f]) (b++[w]++[N4 w p h]))<|.int (bk.length+1))
noncomputable def Zhv:Pc:=λb R _=>∃(w:Str) (os:Yi),b=[.str w,.lst (os.map λn=>D.str (nS n))]/\(w,os.length)∈[(("sell" : Str),2),("part",2),("unite",1),("wish",2),("drop",2)]/\(∀n∈os,n.natAbs<=10 ^ 30)/\R (.sh<|.bl<|TK os)
noncomputable def Oj:Pc:=λf R _=>∃(b:Yi) (k:Int),f=[.scr b,.int k]/\0<=k/\∀v:Int,R (.sh<|.int v)
noncomputable def Za4:Pc:=λf R _=>∃b:Yh,f=[.lst (b.map prD),.lst (b.map prD)]/\b.length<=1000000/\R (.sh<|.bl true)
noncomputable def Zb5:Pc:=λb R _=>∃q:Str×Yi,b=[dD q,dD q]/\q.2.length<=100/\R (.sh<|.bl true)
noncomputable def Zdt:Pc:=λg R _=>∃(b:Yi) (f:Yh),g=[.lst (b.map D.int),.lst (f.map prD)]/\b.Nodup/\b.length<=50/\∀r,FR b f r->r.length<=60->R (.sh<|.lst<|r.map D.int)
noncomputable def Zla:Pc:=λl R _=>∃(b f:Yh) (h:List (List Key×V)) (c:Int->Int->Int),l=[.lst (b.map prD),.lst (f.map prD),.dT h]/\Field b/\b.length<=50/\f.length<=50/\(∀q∈f,q.1≠q.2)/\
 (∀x∈XD b,∀y∈XD b,Xu h [.inl x,.inl y]=some (.int<|c x y))/\Hu (XD b) f/\∀g,Tab f c (X5<|XD b) g->R (.own<|.dT g)
noncomputable def MP(C:Addr):Pw:=λo f R X=>∃(x:Addr) (b:Yh),o=.ins x C [] []/\f=[.sh (plD b)]/\b.length<=1000/\XC (NY b) (X<|.ins x C [] []) (∀b1 h g,R (vO C x b1 h g [] [b] [[]]) .non)
noncomputable def N9(bk:List (Str×Yi))(f:Yh)(p h:Int):Option Str:=if 100<=bk.length then some "BookFull" else Kh f p h
noncomputable def Zi4(C:Addr):Pw:=λo n R X=>∃(x b1 l g:Addr) (bk:List (Str×Yi)) (fs b:List (Yh)) (f w:Yh) (p h:Int),o=vO C x b1 l g bk (fs++[f]) (b++[w])/\n=[.sh (.int p),.sh (.int h)]/\bk.length<=1000/\fs.length<=900/\b.length<=900/\f.length<=1000/\
 XC (N9 bk f p h) (X<|vO C x b1 l g bk (fs++[f]) (b++[w])) (R (vO C x b1 l g (bk++[(("sell" : Str),[p,h])]) (fs++[f]++[P1 f p h]) (b++[w]++[w]))<|.int (bk.length+1))
noncomputable def NW(bk:List (Str×Yi))(f:Yh)(p h:Int):Option Str:=if 100<=bk.length then some "BookFull" else Ph f p h
noncomputable def Zj3(C:Addr):Pw:=λo n R X=>∃(x b1 l g:Addr) (bk:List (Str×Yi)) (fs b:List (Yh)) (f w:Yh) (p h:Int),o=vO C x b1 l g bk (fs++[f]) (b++[w])/\n=[.sh (.int p),.sh (.int h)]/\bk.length<=1000/\fs.length<=900/\b.length<=900/\f.length<=1000/\
 XC (NW bk f p h) (X<|vO C x b1 l g bk (fs++[f]) (b++[w])) (R (vO C x b1 l g (bk++[(("part" : Str),[p,h])]) (fs++[f]++[NU f p h]) (b++[w]++[w]))<|.int (bk.length+1))
noncomputable def NS(bk:List (Str×Yi))(f:Yh)(p:Int):Option Str:=if 100<=bk.length then some "BookFull" else KQ f p
noncomputable def Zdf(C:Addr):Pw:=λo l R X=>∃(x b1 h g:Addr) (bk:List (Str×Yi)) (fs b:List (Yh)) (f w:Yh) (p:Int),o=vO C x b1 h g bk (fs++[f]) (b++[w])/\l=[.sh (.int p)]/\bk.length<=1000/\fs.length<=900/\b.length<=900/\f.length<=1000/\
 XC (NS bk f p) (X<|vO C x b1 h g bk (fs++[f]) (b++[w])) (R (vO C x b1 h g (bk++[(("unite" : Str),[p])]) (fs++[f]++[NT f p]) (b++[w]++[w]))<|.int (bk.length+1))
noncomputable def N1(bk:List (Str×Yi))(w:Yh)(a b:Int):Option Str:=if 100<=bk.length then some "BookFull" else Ko w a b
noncomputable def Zet(C:Addr):Pw:=λo n R X=>∃(x b1 l g:Addr) (bk:List (Str×Yi)) (fs b:List (Yh)) (f w:Yh) (p h:Int),o=vO C x b1 l g bk (fs++[f]) (b++[w])/\n=[.sh (.int p),.sh (.int h)]/\bk.length<=1000/\fs.length<=900/\b.length<=900/\w.length<=1000/\
 XC (N1 bk w p h) (X<|vO C x b1 l g bk (fs++[f]) (b++[w])) (R (vO C x b1 l g (bk++[(("wish" : Str),[p,h])]) (fs++[f]++[f]) (b++[w]++[w++[(p,h)]]))<|.int (bk.length+1))
noncomputable def Zjr:Pc:=λg R _=>∃(f m:Yi) (n:Int),g=[.scr f,.lst (m.map D.int),.int n]/\AC m/\0<=n/\n<=1000/\∀b:Yh,Field b->b.length=n.toNat->R (.own<|b.map prD)
noncomputable def Zg6:Pc:=λb R _=>∃bk:List (Str×Yi),b=[.lst (bk.map dD),.lst (bk.map dD)]/\(∀q∈bk,q.2.length<=100)/\bk.length<=1000/\R (.sh<|.bl true)
noncomputable def Zam:Pc:=λg R X=>∃(b f:Yh),g=[.lst (b.map prD),.lst (f.map prD)]/\Field b/\b.length<=50/\(∀q∈f,q.1≠q.2)/\Nc (XD b) f X (R<|.sh .non)
noncomputable def Pi(bk:List (Str×Yi))(f w:Yh)(d:Dd):Option Str:=if 100<=bk.length then some "BookFull" else d.err f w
noncomputable def Zgo(C:Addr):Pw:=λo l R X=>∃(x b1 h g:Addr) (bk:List (Str×Yi)) (fs b:List (Yh)) (f w:Yh) (d:Dd),o=vO C x b1 h g bk (fs++[f]) (b++[w])/\l=[.sh (.str d.q.1),.sh (.lst<|d.q.2.map D.int)]/\bk.length<=1000/\fs.length<=900/\b.length<=900/\f.length<=1000/\w.length<=1000/\
 XC (Pi bk f w d) (X<|vO C x b1 h g bk (fs++[f]) (b++[w])) (R (vO C x b1 h g (bk++[d.q]) (fs++[f]++[d.fld f]) (b++[w]++[d.wsh w]))<|.int (bk.length+1))
noncomputable def Nb(bk:List (Str×Yi))(f w:Yh)(d:Dd):Option Str:=if 100<=bk.length then some "BookFull" else d.err f w
noncomputable def Zb6(C:Addr):Pw:=λo l R X=>∃(x b1 h g:Addr) (bk:List (Str×Yi)) (fs b:List (Yh)) (f w:Yh) (d:Dd),o=vO C x b1 h g bk (fs++[f]) (b++[w])/\l=[.sh (dD d.q)]/\bk.length<=1000/\fs.length<=900/\b.length<=900/\f.length<=1000/\w.length<=1000/\
 XC (Nb bk f w d) (X<|vO C x b1 h g bk (fs++[f]) (b++[w])) (R (vO C x b1 h g (bk++[d.q]) (fs++[f]++[d.fld f]) (b++[w]++[d.wsh w]))<|.int (bk.length+1))
noncomputable def Zee:Pc:=λh R X=>∃(b f:Yh),h=[.lst (b.map prD),.lst (f.map prD)]/\Field b/\b.length<=50/\f.length<=50/\(∀q∈f,q.1≠q.2)/\Nc (XD b) f X (∀g,IW f (pcc b) (X5<|XD b) g->R (.own<|g.map D.int))
noncomputable def Zbl(C:Addr):Pw:=λo l R X=>∃(x b1 h g:Addr) (bk:List (Str×Yi)) (fs b:List (Yh)) (f w:Yh) (d:Dd),o=vO C x b1 h g bk (fs++[f]) (b++[w])/\l=[.sh (.str d.q.1),.sh (.lst<|d.q.2.map D.int)]/\bk.length<=1000/\fs.length<=900/\b.length<=900/\f.length<=1000/\w.length<=1000/\
 XC (Pi bk f w d) (X<|vO C x b1 h g bk (fs++[f]) (b++[w])) (R (vO C x b1 h g (bk++[d.q]) (fs++[f]++[d.fld f]) (b++[w]++[d.wsh w]))<|.str (("done " : Str)++nS (bk.length+1)))
noncomputable def MV(C:Addr):Pw:=λo l R _=>∃(x b1 h g:Addr) (bk:List (Str×Yi)) (fs b:List (Yh)) (f w:Yh) (d:Dd),o=vO C x b1 h g bk (fs++[f]) (b++[w])/\l=[.sh (dD d.q)]/\bk.length=100/\fs.length<=900/\b.length<=900/\f.length<=1000/\w.length<=1000/\R (vO C x b1 h g bk (fs++[f]) (b++[w])) (.bl true)
noncomputable def Zja:Pc:=λg R X=>∃(b f:Yh),g=[.lst (b.map prD),.lst (f.map prD)]/\Field b/\b.length<=50/\f.length<=50/\(∀q∈f,q.1≠q.2)/\Nc (XD b) f X (∀v,P4 f (pcc b) (XD b) v->R (.sh<|.int v))
noncomputable def Ks(c:Str):Str:=if c=("TooManyStrips" : Str)then "refused: strips" else if c=("BadHolder" : Str)then "refused: holder" else if c=("NoStrip" : Str)then "refused: place" else if c=("OwnStrip" : Str)then "refused: own" else if c=("BadPart" : Str)then "refused: part" else if c=("UnlikeHolders" : Str)then "refused: unlike" else if c=("TooWide" : Str)then "refused: wide" else if c=("LikeHolders" : Str)then "refused: like" else if c=("WishStands" : Str)then "refused: twice" else if c=("TooManyWishes" : Str)then "refused: wishes" else if c=("NoWish" : Str)then "refused: unknown" else "refused: full"
noncomputable def Zir(C:Addr):Pw:=λo l R _=>∃(x b1 h g:Addr) (bk:List (Str×Yi)) (fs b:List (Yh)) (f w:Yh) (d:Dd),o=vO C x b1 h g bk (fs++[f]) (b++[w])/\l=[.sh (.str d.q.1),.sh (.lst<|d.q.2.map D.int)]/\bk.length<=1000/\fs.length<=900/\b.length<=900/\f.length<=1000/\w.length<=1000/\
 match Pi bk f w d with
 |none=>R (vO C x b1 h g (bk++[d.q]) (fs++[f]++[d.fld f]) (b++[w]++[d.wsh w])) (.str (("done " : Str)++nS (bk.length+1)))
 |some c=>R (vO C x b1 h g bk (fs++[f]) (b++[w])) (.str<|Ks c)
noncomputable def Zgx(C:Addr):Pc:=λg R X=>∃(bk:List (Str×Yi)) (fs b:List (Yh)) (f w:Yh),g=[Ng C bk (fs++[f]) (b++[w])]/\Field f/\f.length<=50/\w.length<=50/\(∀q∈w,q.1≠q.2)/\Nc (XD f) w X (∀v,P4 w (pcc f) (XD f) v->R (.sh<|.int v))
noncomputable def Zlh(C:Addr):Pw:=λo l R _=>∃(x b1 h g:Addr) (bk:List (Str×Yi)) (fs b:List (Yh)) (f w:Yh) (d:Dd),o=vO C x b1 h g bk (fs++[f]) (b++[w])/\l=[.sh (.str<|Str.join spc (d.q.1::d.q.2.map nS))]/\(∀n∈d.q.2,0<=n/\n<=9999)/\bk.length<=1000/\fs.length<=900/\b.length<=900/\f.length<=1000/\w.length<=1000/\
 match Pi bk f w d with
 |none=>R (vO C x b1 h g (bk++[d.q]) (fs++[f]++[d.fld f]) (b++[w]++[d.wsh w])) (.str (("done " : Str)++nS (bk.length+1)))
 |some c=>R (vO C x b1 h g bk (fs++[f]) (b++[w])) (.str<|Ks c)
noncomputable def Zen(C:Addr):Pc:=λg R X=>∃(bk:List (Str×Yi)) (fs b:List (Yh)) (f w:Yh) (p h:Int),g=[Ng C bk (fs++[f]) (b++[w]),.int p,.int h]/\Field f/\f.length<=40/\w.length<=50/\(∀q∈w,q.1≠q.2)/\XC (Kh f p h) X (Nc (XD f) w X (∀u,P4 w (pcc f) (XD f) u->Nc (XD<|P1 f p h) w X (∀v,P4 w (pcc<|P1 f p h) (XD<|P1 f p h) v->R (.sh<|.int (v-u)))))
noncomputable def Zj7(C:Addr):Pw:=λo l R _=>∃(x b1 h g:Addr) (bk:List (Str×Yi)) (fs b:List (Yh)) (f w:Yh),o=vO C x b1 h g bk (fs++[f]) (b++[w])/\l=[.sh (plD f)]/\bk.length=100/\fs.length=100/\b.length=100/\Field f/\1<=f.length/\f.length<=40/\w.length<=1000/\R (vO C x b1 h g bk (fs++[f]) (b++[w])) (.bl true)
structure Fv (P:Program) (w:World) (K:Yg) (mg:Yk) (base:Heap):Type
variable {P:Program}{w:World}{K:Yg}{mg:Yk}{base:Heap}
abbrev Cal(_:Fv P w K mg base):=Callee P w K mg base
abbrev Cam(_:Fv P w K mg base):=KJ P w K mg base
abbrev Cxe(_:Fv P w K mg base):=ExcR.CXe P w
abbrev Xs(_:Fv P w K mg base):=ExcR.Xi mg "Village"
variable (ζ:Fv P w K mg base)
abbrev Zff:Prop:=Cam ζ CX0 1 (ExcR.Pr K<|ExcR.Xi mg "Ringed") ["self","members"] (ExcR.SB K)
abbrev IS:Prop:=Cal ζ (Cxe ζ) 1 "check_holder" ["holder"] (Xp mg O3 K)
abbrev Hl:Prop:=Cal ζ (Cxe ζ) 1 "check_width" ["width"] (Xp mg Zjq K)
abbrev Ze7:Prop:=Cal ζ CX0 1 "holders_of" ["strips"] (Xp mg LN K)
abbrev L5:Prop:=Cal ζ CX0 1 "pair_cost" ["strips","ahead","behind"] (Xp mg Zkj K)
abbrev LM:Prop:=Cal ζ (Cxe ζ) 1 "check_neighbours" ["strips","place"] (Xp mg RM K)
abbrev DQ:Prop:=Cal ζ CX0 1 "longer_paths" ["paths","left","wishes"] (Xp mg Zc8 K)
abbrev HG:Prop:=Cal ζ (Cxe ζ) 1 "check_place" ["strips","place"] (Xp mg Zc7 K)
abbrev GN:Prop:=Cal ζ (Cxe ζ) 1 "without_wish" ["wishes","ahead","behind"] (Xp mg Zli K)
abbrev Ll:Prop:=Cal ζ CX0 1 "sets_of" ["holders"] (Xp mg Om K)
abbrev GE:Prop:=Cal ζ CX0 1 "without" ["members","holder"] (Xp mg Zgu K)
abbrev IX:Prop:=Cal ζ CX0 1 "may_lie_last" ["members","holder","wishes"] (Xp mg Zbs K)
abbrev MA:Prop:=Cam ζ CX0 1 (X4 K (Xs ζ) "strips") ["self"] (Xp mg (Zi7<|Xs ζ) K)
abbrev IQ:Prop:=Cam ζ CX0 1 (X4 K (Xs ζ) "wishes") ["self"] (Xp mg (Zbr<|Xs ζ) K)
abbrev Li:Prop:=Cam ζ CX0 1 (X4 K (Xs ζ) "deeds") ["self"] (Xp mg (Ov<|Xs ζ) K)
abbrev Ef:Prop:=Cam ζ (Cxe ζ) 1 (X4 K (Xs ζ) "check_room") ["self"] (Xp mg (Zh5<|Xs ζ) K)
abbrev GQ:Prop:=Cam ζ CX0 1 (X4 K (Xs ζ) "enter") ["self","deed","field","wishes"] (Pu.spW mg (Ziq<|Xs ζ) K)
abbrev Hy:Prop:=Cam ζ (Cxe ζ) 1 (X4 K (Xs ζ) "take_back") ["self"] (Pu.spW mg (Zgg<|Xs ζ) K)
abbrev Lo:Prop:=Cam ζ (Cxe ζ) 1 (X4 K (Xs ζ) "stood") ["self","many"] (Xp mg (Zau<|Xs ζ) K)
abbrev Ik:Prop:=Cal ζ CX0 1 "is_number" ["text"] (Xp mg Zjt K)
abbrev II:Prop:=Cal ζ CX0 1 "_law_at" ["_law_script","_law_k"] (Xp mg Zda K)
abbrev E8:Prop:=Cal ζ CX0 1 "_law_whole" ["_law_found"] (Xp mg Zi9 K)
abbrev M7:Prop:=Cal ζ CX0 1 "_law_mix" ["_law_cell","_law_place"] (Xp mg Ze8 K)
abbrev G4:Prop:=Cal ζ CX0 1 "_law_menu" ["_law_cell"] (Xp mg Zlf K)
abbrev Iq:Prop:=Cal ζ CX0 1 "_law_holder" ["_law_menu_here","_law_k"] (Xp mg Zey K)
abbrev Lu:Prop:=Cal ζ CX0 1 "_law_next" ["_law_k","_law_cell","_law_now"] (Xp mg Zer K)
abbrev Hm:Prop:=Cal ζ (Cxe ζ) 2 "check_strips" ["strips"] (Xp mg OY K)
abbrev Ip:Prop:=Cal ζ CX0 2 "ring_from" ["least","holders","wishes"] (Xp mg Zct K)
abbrev LU:Prop:=Cal ζ (Cxe ζ) 2 "sold" ["strips","place","holder"] (Xp mg Zkz K)
abbrev E5:Prop:=Cal ζ (Cxe ζ) 2 "parted" ["strips","place","width"] (Xp mg Zah K)
abbrev M2:Prop:=Cal ζ (Cxe ζ) 2 "united" ["strips","place"] (Xp mg Ziz K)
abbrev LB:Prop:=Cal ζ (Cxe ζ) 2 "with_wish" ["wishes","ahead","behind"] (Xp mg Zbx K)
abbrev Eu:Prop:=Cal ζ CX0 2 "pair_costs" ["strips"] (Xp mg Zkk K)
abbrev GU:Prop:=Cal ζ CX0 2 "cost_with_last" ["members","last","least","pairs"] (Xp mg Oc K)
abbrev L9:Prop:=Cam ζ (Cxe ζ) 2 (X4 K (Xs ζ) "drop") ["self","ahead","behind"] (Pu.spW mg (Zfb<|Xs ζ) K)
abbrev Iw:Prop:=Cal ζ CX0 2 "is_row" ["word","texts"] (Xp mg Zhv K)
abbrev GX:Prop:=Cal ζ CX0 2 "_law_draw" ["_law_script","_law_k"] (Xp mg Oj K)
abbrev Ei:Prop:=Cal ζ CX0 2 "_law_tuples" ["_law_found","_law_due"] (Xp mg Za4 K)
abbrev IL:Prop:=Cal ζ CX0 2 "_law_deed_is" ["_law_found","_law_due"] (Xp mg Zb5 K)
abbrev En:Prop:=Cal ζ CX0 3 "find_ring" ["holders","wishes"] (Xp mg Zdt K)
abbrev HN:Prop:=Cal ζ CX0 3 "least_costs" ["strips","wishes","pairs"] (Xp mg Zla K)
abbrev IY:Prop:=Cam ζ (Cxe ζ) 3 (Mk K<|Xs ζ) ["self","strips"] (Pu.spW mg (MP<|Xs ζ) K)
abbrev Eg:Prop:=Cam ζ (Cxe ζ) 3 (X4 K (Xs ζ) "sell") ["self","place","holder"] (Pu.spW mg (Zi4<|Xs ζ) K)
abbrev ID:Prop:=Cam ζ (Cxe ζ) 3 (X4 K (Xs ζ) "part") ["self","place","width"] (Pu.spW mg (Zj3<|Xs ζ) K)
abbrev Ic:Prop:=Cam ζ (Cxe ζ) 3 (X4 K (Xs ζ) "unite") ["self","place"] (Pu.spW mg (Zdf<|Xs ζ) K)
abbrev M1:Prop:=Cam ζ (Cxe ζ) 3 (X4 K (Xs ζ) "wish") ["self","ahead","behind"] (Pu.spW mg (Zet<|Xs ζ) K)
abbrev Hf:Prop:=Cal ζ CX0 3 "_law_strips" ["_law_script","_law_menu_here","_law_many"] (Xp mg Zjr K)
abbrev Ej:Prop:=Cal ζ CX0 3 "_law_book_is" ["_law_found","_law_due"] (Xp mg Zg6 K)
abbrev Hz:Prop:=Cal ζ (Cxe ζ) 4 "check_no_ring" ["strips","wishes"] (Xp mg Zam K)
abbrev Gb:Prop:=Cal ζ (Cxe ζ) 4 "do_deed" ["village","word","numbers"] (Pu.spW mg (Zgo<|Xs ζ) K)
abbrev GR:Prop:=Cal ζ (Cxe ζ) 4 "_law_call" ["_law_village","_law_deed"] (Pu.spW mg (Zb6<|Xs ζ) K)
abbrev Mh:Prop:=Cal ζ (Cxe ζ) 5 "cost_table" ["strips","wishes"] (Xp mg Zee K)
abbrev ET:Prop:=Cal ζ (Cxe ζ) 5 "told_row" ["village","word","numbers"] (Pu.spW mg (Zbl<|Xs ζ) K)
abbrev EH:Prop:=Cal ζ CX0 5 "_law_too_many" ["_law_village","_law_deed"] (Pu.spW mg (MV<|Xs ζ) K)
abbrev Mz:Prop:=Cal ζ (Cxe ζ) 6 "least_cost" ["strips","wishes"] (Xp mg Zja K)
abbrev E3:Prop:=Cal ζ CX0 6 "told_or_refused" ["village","word","numbers"] (Pu.spW mg (Zir<|Xs ζ) K)
abbrev Mf:Prop:=Cam ζ (Cxe ζ) 7 (X4 K (Xs ζ) "cost") ["self"] (Xp mg (Zgx<|Xs ζ) K)
abbrev G8:Prop:=Cal ζ CX0 7 "answer" ["village","row"] (Pu.spW mg (Zlh<|Xs ζ) K)
abbrev DU:Prop:=Cam ζ (Cxe ζ) 8 (X4 K (Xs ζ) "offer") ["self","place","holder"] (Xp mg (Zen<|Xs ζ) K)
abbrev GB:Prop:=Cal ζ CX0 8 "_law_refused_all" ["_law_village","_law_now"] (Pu.spW mg (Zj7<|Xs ζ) K)
abbrev RN:Prop:=Cal ζ CX0 9 "law" ["_law_script"] (Xp mg Lb K)
end M
namespace M
open L2 Own Pu
def Pd(ps:List (Yi))(b:Yi)(i j:Nat)(p:Yi)(h:Int):Prop:=(p∈ps.take i/\h∈b)\/(ps[i]?=some p/\h∈b.take j)
structure LGs (ws:Yh) (l:Int) (P:Yi->Int->Prop) (ls:Yi) (lg:List (Yi)) (kvs:List (Key×V)):Prop where
 g:LG ws l P lg
 nd:(lg.map<|Xq l).Nodup
 sub:∀h∈lg.map (Xq l),h∈ls
 rc:∀h:Int,(Xu kvs<|.inl h).isSome=true↔h∈lg.map (Xq l)
 len:kvs.length<=lg.length
def LGs.len_le {h:Yh}{l:Int}{P:Yi->Int->Prop}{f:Yi}{g:List (Yi)}{b:List (Key×V)} (L:LGs h l P f g b):g.length<=f.length:=by
 have:=Co L.nd L.sub
 rwa[Wx]at this
def LG.congr {f:Yh}{l:Int}{P n:Yi->Int->Prop}{g:List (Yi)} (h:∀p x,P p x↔n p x) (G:LG f l P g):LG f l n g:=
 ⟨λq hq=>let ⟨p,x,a,b⟩:=G.mem q hq;⟨p,x,(h p x).mp a,b⟩,G.srt,λp x a b=>G.has p x ((h p x).mpr a) b⟩
def LGs.congr {f:Yh}{l:Int}{P r:Yi->Int->Prop}{n:Yi}{o:List (Yi)}{b:List (Key×V)} (h:∀p x,P p x↔r p x) (G:LGs f l P n o b):LGs f l r n o b:=⟨G.g.congr h,G.nd,G.sub,G.rc,G.len⟩
def LGs.start {ps:List (Yi)}{b:Yi}{f:Yh}{l:Int}:LGs f l (Pd ps b 0 0) b [] []:=by
 refine⟨⟨(λq hq=>by cases hq),List.Pairwise.nil,λp h a=>?_⟩,Vk,(λh g=>by cases g),(λh=>by simp[Xu]),W5 _⟩;rcases a with⟨a,_⟩|⟨_,a⟩
 ·rw[VA]at a;cases a
 ·rw[VA]at a;cases a
def LGs.skip {ps:List (Yi)}{f:Yi}{u:Yh}{l:Int}{A:List (Yi)}{n:List (Key×V)}{i j:Nat}{p:Yi}{h:Int} (w:ps[i]?=some p) (L:f[j]?=some h) (C:ps.Pairwise sl)
  (G:LGs u l (Pd ps f i j) f A n) (no:(Xu n<|.inl h).isSome=true\/(Xq l p,h)∉u):LGs u l (Pd ps f i (j+1)) f A n:=by
 obtain⟨H,N⟩:=WI.mp L;obtain⟨J,ei⟩:=WI.mp w;have y:∀x,x∈f.take (j+1)↔x∈f.take j\/x=h:=λx=>by rw[WW H,WL,Wz,N]
 refine⟨⟨λq hq=>?_,G.g.srt,λs x a b=>?_⟩,G.nd,G.sub,G.rc,G.len⟩
 ·obtain⟨s,x,a,b⟩:=G.g.mem q hq;exact⟨s,x,a.imp id λz=>⟨z.1,(y x).mpr (.inl z.2)⟩,b⟩
 ·rcases a with a|⟨a1,a2⟩
  ·exact G.g.has s x (.inl a) b
  ·rcases(y x).mp a2 with a2|rfl
   ·exact G.g.has s x (.inr ⟨a1,a2⟩) b
   ·rw[w]at a1;cases a1
    rcases no with no|no
    ·obtain⟨q,hq,e⟩:=WQ.mp ((G.rc x).mp no);obtain⟨v,B,o,rfl,Q⟩:=G.g.mem q hq;have M:B=x:=by rw[K8]at e;exact e
     subst M;refine⟨v,hq,?_⟩;rcases o with⟨o,_⟩|⟨o,_⟩
     ·obtain⟨m,E,r⟩:=Qt.mp o;rw[Qp]at E;rw[Vh]at r
      have:=Qv.mp C m i (by lia) J (by lia)
      rw[r,ei]at this;exact .inr this
     ·rw[w]at o;cases o
      exact .inl rfl
    ·exact absurd b no
def LGs.put {ps:List (Yi)}{r:Yi}{v:Yh}{l:Int}{y:List (Yi)}{s:List (Key×V)}{i j:Nat}{p:Yi}{h:Int} (A:ps[i]?=some p) (hh:r[j]?=some h) (T:ps.Pairwise sl) (U:r.Pairwise (· < ·))
  (G:LGs v l (Pd ps r i j) r y s) (new:(Xu s<|.inl h).isSome=false) (hw:(Xq l p,h)∈v):LGs v l (Pd ps r i (j+1)) r (y++[p++[h]]) (putK s (.inl h)<|.bl true):=by
 obtain⟨J,L⟩:=WI.mp hh;obtain⟨Y,ei⟩:=WI.mp A;have B:∀x,x∈r.take (j+1)↔x∈r.take j\/x=h:=λx=>by rw[WW J,WL,Wz,L]
 have C:Xq l (p++[h])=h:=by rw[K8];rfl
 have M:h∉y.map (Xq l):=λz=>by rw[(G.rc h).mpr z]at new;cases new
 refine⟨⟨λq hq=>?_,?_,λf x a b=>?_⟩,?_,λx hx=>?_,λx=>?_,?_⟩
 ·rcases WL.mp hq with hq|hq
  ·obtain⟨f,x,a,b⟩:=G.g.mem q hq;exact⟨f,x,a.imp id λz=>⟨z.1,(B x).mpr (.inl z.2)⟩,b⟩
  ·rw[Wz.mp hq];exact⟨p,h,.inr ⟨A,(B h).mpr (.inr rfl)⟩,rfl,hw⟩
 ·refine Vp.mpr ⟨G.g.srt,by simp,λq hq q' E=>?_⟩;rw[Wz.mp E];obtain⟨f,x,a,rfl,b⟩:=G.g.mem q hq;rcases a with⟨a,_⟩|⟨a1,a2⟩
  ·obtain⟨m,H,o⟩:=Qt.mp a;rw[Qp]at H;rw[Vh]at o
   have:=Qv.mp T m i (by lia) Y (by lia)
   rw[o,ei]at this;exact Ca x h this
  ·rw[A]at a1;cases a1
   obtain⟨m,H,o⟩:=Qt.mp a2;rw[Qp]at H;rw[Vh]at o
   have:=Qv.mp U m j (by lia) J (by lia)
   rw[o,L]at this;exact M8 this
 ·have u:∀f x,Pd ps r i j f x->(Xq l f,x)∈v->∃n,n++[x]∈y++[p++[h]]/\(n=f\/sl n f):=λf x a b=>let ⟨n,Q,N⟩:=G.g.has f x a b;⟨n,Q0 _ Q,N⟩;rcases a with a|⟨a1,a2⟩
  ·exact u f x (.inl a) b
  ·rcases(B x).mp a2 with a2|rfl
   ·exact u f x (.inr ⟨a1,a2⟩) b
   ·rw[A]at a1;cases a1
    exact⟨p,WO _ (Wz.mpr rfl),.inl rfl⟩
 ·rw[WU,V7,C];refine QY.mpr ⟨G.nd,by simp,λa ha b hb=>?_⟩;rw[Wz.mp hb];rintro rfl;exact M ha
 ·rw[WU,V7,C]at hx;rcases WL.mp hx with hx|hx
  ·exact G.sub x hx
  ·rw[Wz.mp hx,←L];exact WY J
 ·rw[WU,V7,C,BF,WL,Wz];by_cases e:x=h
  ·subst e;rw[W6 rfl];exact⟨λ_=>.inr rfl,λ_=>rfl⟩
  ·rw[W3 (λz=>e (Sum.inl.inj z)),G.rc];exact⟨.inl,λz=>z.elim id λw=>absurd w e⟩
 ·rw[WE]
  have:=Fk s (.inl h) (.bl true)
  have:=G.len
  simp;lia
theorem IH{b:Type}{c:b->Bool}:∀{xs:List b}{x:b}{r:List b},xs.filter c=x::r->∃i,∃n:i<xs.length,xs[i]=x/\c x=true/\∀j (g:j<xs.length),j<i->c xs[j]=false
 |[],x,r,h=>by cases h
 |y::u,x,r,h=>by
  by_cases f:c y=true
  ·rw[List.filter_cons_of_pos f]at h;cases h
   exact⟨0,by simp,rfl,f,λj _ g=>by lia⟩
  ·rw[List.filter_cons_of_neg f]at h;obtain⟨i,n,s,p,o⟩:=IH h;refine⟨i+1,by simp;lia,by simpa using s,p,λj g l=>?_⟩;cases j with
   |zero=>simpa using f
   |succ j=>simpa using o j (by simpa using g) (by lia)
def IG(c:Int->Bool):∀b:Yi,b.filterMap (λq=>if c q=true then some (D.int q)else none)=(b.filter c).map D.int:=TZ c D.int
def FRi(f:Yi)(b:Yh)(ns:Yi)(r:Yi):Prop:=
 (r=[]/\∀l∈ns,∀t,¬KI f b l t)\/∃l t,r=l::t/\l∈ns/\KI f b l t/\∀m∈ns,∀u,KI f b m u->t.length<u.length\/(t.length=u.length/\(l<m\/(l=m/\(t=u\/sl t u))))
def FRi.keep {o:Yi}{n:Yh}{ns r f:Yi}{l:Int} (h:FRi o n ns r) (x:∀m∈ns,m<l) (b:RF o n l f) (c:f=[]\/(r≠[]/\r.length<=f.length)):FRi o n (ns++[l]) r:=by
 rcases h with⟨rfl,h⟩|⟨v,t,rfl,w,A,y⟩
 ·rcases c with rfl|⟨c,_⟩
  ·rcases b with⟨_,b⟩|⟨t,e,_⟩
   ·refine .inl ⟨rfl,λm hm=>?_⟩;rcases WL.mp hm with hm|hm
    ·exact h m hm
    ·rw[Wz.mp hm];exact b
   ·cases e
  ·exact absurd rfl c
 ·refine .inr ⟨v,t,rfl,Q0 _ w,A,λm hm u g=>?_⟩;rcases WL.mp hm with hm|hm
  ·exact y m hm u g
  ·rw[Wz.mp hm]at g ⊢;rcases b with⟨rfl,b⟩|⟨s,rfl,_,b⟩
   ·exact absurd g (b u)
   ·rcases c with c|⟨_,c⟩
    ·cases c
    ·have p:=x v w;simp at c;rcases b u g with z|⟨z,_⟩
     ·exact .inl (by lia)
     ·by_cases e:t.length<u.length
      ·exact .inl e
      ·exact .inr ⟨by lia,.inl p⟩
def FRi.take {n:Yi}{g:Yh}{ns r f:Yi}{l:Int} (h:FRi n g ns r) (y:∀m∈ns,m<l) (p:RF n g l f) (c:f≠[]/\(r=[]\/f.length<r.length)):FRi n g (ns++[l]) f:=by
 rcases p with⟨rfl,_⟩|⟨s,rfl,f1,w⟩
 ·exact absurd rfl c.1
 ·refine .inr ⟨l,s,rfl,WO _ (Wz.mpr rfl),f1,λm hm u b=>?_⟩;rcases WL.mp hm with hm|hm
  ·rcases h with⟨rfl,h⟩|⟨x,t,rfl,B,A,v⟩
   ·exact absurd b (h m hm u)
   ·rcases c.2 with c|c
    ·cases c
    ·simp at c;rcases v m hm u b with z|⟨z,_⟩
     ·exact .inl (by lia)
     ·exact .inl (by lia)
  ·rw[Wz.mp hm]at b ⊢;rcases w u b with z|⟨z,o⟩
   ·exact .inl z
   ·exact .inr ⟨z,.inr ⟨rfl,o⟩⟩
def FRi.all {b:Yi}{g:Yh}{ns r:Yi} (f:∀z,z∈ns↔z∈b) (h:FRi b g ns r):FR b g r:=by
 rcases h with⟨rfl,h⟩|⟨l,t,rfl,u,s,p⟩
 ·exact .inl ⟨rfl,λl o=>h l ((f l).mpr o)⟩
 ·exact .inr ⟨l,t,rfl,(f l).mp u,s,λm n=>p m ((f m).mpr n)⟩
def BP{b:Type}{xs:List b}{x:b}(h:xs[xs.length-1]?=some x):atI xs (-1)=some x:=by
 have f:=(WI.mp h).1;unfold atI ixN;rw[W3 (by lia),W6 (by lia)];show xs[_]?=some x;rw[←h];congr 1;lia
noncomputable def X8(c:Int)(i:Nat):Yh:=if c / 90 % 2=0/\i % 2=1 then[(1+c % 10,1+(c % 10+1+c / 10 % 9) % 10)]else[]
def D1(c:Int)(i:Nat):(X8 c i).length<=1:=by unfold X8;split<;>simp
def Hk(c:Int)(i:Nat){f:Yh}(r:Field f)(u:1<=f.length):∃d:Dd,KD (i:Int) c f=d/\d.err f (X8 c i)=none/\d.wsh (X8 c i)=X8 c (i+1)/\((∃h,d=.sell 1 h)\/(¬d.q.1=("sell" : Str)/\d.fld f=f)):=by
 have l:¬(1+c % 10)=1+(c % 10+1+c / 10 % 9) % 10:=by lia
 unfold KD X8;by_cases g:c / 90 % 2=0
 ·rw[W6 g];rcases(by lia:i % 2=0\/i % 2=1)with b|b
  ·rw[W6 (by lia),W3 (by lia),W6 ⟨g,by lia⟩];exact⟨_,rfl,Zd0 (by lia) (by lia) l (by simp) (by simp),rfl,.inr ⟨show ¬("wish" : Str) = "sell" by decide +kernel,rfl⟩⟩
  ·rw[W3 (by lia),W6 ⟨g,b⟩,W3 (by lia)];refine⟨_,rfl,?_,?_,.inr ⟨show ¬("drop" : Str) = "sell" by decide +kernel,rfl⟩⟩
   ·show Kk _ _ _=none;unfold Kk;rw[W6 (by simp)]
   ·show N4 _ _ _=[];unfold N4;simp
 ·rw[W3 g,W3 (show ¬(c / 90 % 2=0/\i % 2=1)from λz=>g z.1),W3 (show ¬(c / 90 % 2=0/\(i+1) % 2=1)from λz=>g z.1)]
  have s:=r _ (E9 (ps:=f) (p:=1) (by lia)<|by lia)
  have ok:∀h:Int,1<=h/\h<=10->h≠(Xv f 1).1->Kh f 1 h=none:=λh o n=>by
   unfold Kh;rw[W3 (by lia),W3 (λz=>z o),W3 (λz=>n z.symm)]
  rcases(by lia:i % 2=0\/i % 2=1)with b|b
  ·rw[W6 (by lia)];exact⟨_,rfl,ok _ (by lia) (by lia),rfl,.inl ⟨_,rfl⟩⟩
  ·rw[W3 (by lia)];exact⟨_,rfl,ok _ (by lia) (by lia),rfl,.inl ⟨_,rfl⟩⟩
def Zj4(d:Dd){f:Yh}(h:(∃h,d=.sell 1 h)\/(¬d.q.1=("sell" : Str)/\d.fld f=f)):(d.fld f).length=f.length:=by
 rcases h with⟨h,rfl⟩|⟨_,e⟩
 ·exact LK f 1 h
 ·rw[e]
def Zek(d:Dd){f w:Yh}(b:Field f)(g:d.err f w=none)(h:(∃h,d=.sell 1 h)\/(¬d.q.1=("sell" : Str)/\d.fld f=f)):Field (d.fld f):=by
 rcases h with⟨h,rfl⟩|⟨_,e⟩
 ·exact Gz b g
 ·rw[e];exact b
end M
namespace T
open L2 Own M
section
variable {P:Program}{w:World}{K:Yg}{mg:Yk}{base:Heap}
def Rl(G:Glob w K mg)(D:Pu.X1 K (ExcR.Pr K<|ExcR.Xi mg "Ringed") "__init__" "Ringed.__init__" FW ["self","members"])
  : Pu.KJ P w K mg base CX0 1 (ExcR.Pr K<|ExcR.Xi mg "Ringed") ["self","members"] (ExcR.SB K):=by
 refine D.ok (k:=0) Zcl (λb H Q E h=>?_) (λf g A outer s H b Q E l h=>?_)
 ·obtain⟨_,_,_,_,_,rfl,_⟩:=h;rfl
 ·exact⟨_,XM (ExcR.Zd2 (pv 0) (Pj G6 (by rfl) G.Zg boot_list<|XF (pv 1) KF)<|by rfl),ExcR.Zbj h rfl⟩
def Zan(G:Glob w K mg)(D:Def K mg "holders_of" Aq ["strips"])
  : Callee P w K mg base CX0 1 "holders_of" ["strips"] (Hv K):=by
 refine D.ok (k:=0) Zdn (λp H Q E h=>?_) (λf cdv A outer s H p Q E hr h=>?_)
 ·obtain⟨l,b,rfl,⟨p,v,u⟩,J,C,q⟩:=h;rfl
 ·obtain⟨l,b,rfl,⟨p,v,u⟩,J,C,q⟩:=h;refine⟨_,(XM<|Xt<|Kp (Ho rfl) (by rfl) G.Z1 boot_sorted<|XF (Pj (Zel rfl) (by rfl) G.Ya boot_set<|XF (FT (N':=["holder","width"]) (φ:=[none,none]) rfl (NH.of<|by rfl) (Ee<|pv 0) (λ_ _ _ _ _=>⟨(AZ (K:=K) (n:=2) rfl<|Bc (A0 (i:=0) (show(["holder","width"]:Yp).Nodup from by decide +kernel) rfl (by first|exact Or.inl rfl|exact Or.inr rfl))<|Bc (A0 (i:=1) (show(["holder","width"]:Yp).Nodup from by decide +kernel) rfl (by first|exact Or.inl rfl|exact Or.inr rfl)) DE),Tp,(pv 0)⟩)) KF) KF),?_⟩
  have e1:=u.1;refine⟨_,rfl,l,rfl,⟨_,SqL.of v⟩,λD z=>OA (ds:=b) (λd=>some (V.int d.1)) (SqL.of v) e1 z (WC C<|by decide) (λi x d H2 hx Y S k U=>?_) ?_⟩
  ·obtain⟨d',g,a,rfl,ha⟩:=u.get hx;rw[Y]at g;cases g
   exact⟨a,_,rfl,SqT.of (S _ _ ha),rfl,_,_,rfl,_,_,rfl,rfl,.skip (.skip .refl),_,rfl,U⟩
  ·have em:b.filterMap (λd=>some (V.int d.1))=(b.map (·.1)).map V.int:=by
    rw[QN,Qy];rfl
   rw[em];have S1:Same H (upd H D<|.lst ((b.map (·.1)).map V.int)):=XJ z;refine⟨D,b.map (·.1),rfl,SqL.of Xw,by rw[Wx];lia,λy M=>?_⟩;have L:=Own.Same.new (o:=Nk w y ((b.map (·.1)).foldl SetR.Ke [])) S1 M;refine⟨y,_,rfl,?_,.inr Xw,λr ns B T N=>?_⟩
   ·have:=Er (b.map (·.1)) []
    rw[Wx]at this;simp at this ⊢;lia
   ·rw[Zgw J T N];exact q r _ (L.free B) (Own.Same.new L B) Xw
end
open Pu
section
variable {P:Program}{w:World}{K:Yg}{mg:Yk}{base:Heap} (ζ:Fv P w K mg base)
variable (G:Glob w K mg) (YL:Zff ζ) (Y1:IS ζ) (YM:Hl ζ) (Y3:Ze7 ζ) (YN:L5 ζ) (YO:LM ζ) (YQ:DQ ζ) (Y7:HG ζ) (YR:GN ζ) (YS:Ll ζ) (YT:GE ζ) (YU:IX ζ) (Yw:MA ζ) (Yx:IQ ζ) (Y8:Li ζ) (Yy:Ef ζ) (Yz:GQ ζ) (YV:Hy ζ) (YW:Lo ζ) (YX:Ik ζ) (Y2:II ζ) (Y0:E8 ζ) (YY:M7 ζ) (YZ:G4 ζ) (Wa:Iq ζ) (Wb:Lu ζ) (Wc:Hm ζ) (Wd:Ip ζ) (YA:LU ζ) (We:E5 ζ) (Wf:M2 ζ) (Wg:LB ζ) (Wh:Eu ζ) (Wi:GU ζ) (YB:L9 ζ) (Wj:Iw ζ) (Y4:GX ζ) (Y5:Ei ζ) (YC:IL ζ) (Wk:En ζ) (Wl:HN ζ) (Wm:IY ζ) (YD:Eg ζ) (YE:ID ζ) (YF:Ic ζ) (YG:M1 ζ) (Wn:Hf ζ) (YH:Ej ζ) (Wo:Hz ζ) (Wp:Gb ζ) (Y6:GR ζ) (Wq:Mh ζ) (Wr:ET ζ) (YI:EH ζ) (YJ:Mz ζ) (Ws:E3 ζ) (Wt:Mf ζ) (YK:G8 ζ) (Wu:DU ζ) (Wv:GB ζ)
def Zad(o:Def K mg "check_holder" AE ["holder"])
  : IS ζ:=by
 refine o.fy Zjy (λp n=>(b1<|sI (tp<|wo (tc PR PP (xv 0) xi)<|wO<|tc T6 T5 (xv 0)<|xe (ExcR.K6 G.ZC) Xj) (b1<|sQ G.ZJ G.Zv ExcR.Kz<|a1<|xe (ExcR.T3<|ExcR.KR<|ExcR.Tt (ExcR.K6 G.ZC) ExcR.T7)<|Te<|Pa<|T9 Xj Tq) b0)) (.a ?_)
 ·rintro s R X ⟨h,rfl,b⟩;refine⟨rfl,?_⟩;unfold NL at b;refine Xx (λg=>KA ?_) (λg=>?_)
  ·rw[W3 (by have:=W7 g;lia)]at b;exact⟨by decide,by decide,by decide,by decide,by simp,b⟩
  ·have r:¬h<1:=λz=>g (W4 z);refine Xx (λf=>?_) (λf=>?_)
   ·rw[W3 (by have:=W7 f;lia)]at b;exact⟨by decide,by decide,by decide,by decide,by simp,b⟩
   ·have l:¬10<h:=λz=>f (W4 z);rw[W6 (by lia)]at b;exact b
def Zlc(o:Def K mg "check_width" AB ["width"])
  : Hl ζ:=by
 refine o.fy Zav (λp n=>(b1<|sI (tp<|wo (tc PR PP (xv 0) xi)<|wO<|tc T6 T5 (xv 0)<|xe (ExcR.K6 G.Zr) Xj) (b1<|sQ G.ZM G.ZL ExcR.Kz<|a1<|xe (ExcR.T3<|ExcR.KR<|ExcR.Tt (ExcR.K6 G.Zr) ExcR.T7)<|Te<|Pa<|T9 Xj Tq) b0)) (.a ?_)
 ·rintro s R X ⟨h,rfl,b⟩;refine⟨rfl,?_⟩;unfold AJ at b;refine Xx (λg=>KA ?_) (λg=>?_)
  ·rw[W3 (by have:=W7 g;lia)]at b;exact⟨by decide,by decide,by decide,by decide,by simp,b⟩
  ·have r:¬h<1:=λz=>g (W4 z);refine Xx (λf=>?_) (λf=>?_)
   ·rw[W3 (by have:=W7 f;lia)]at b;exact⟨by decide,by decide,by decide,by decide,by simp,b⟩
   ·have l:¬1000<h:=λz=>f (W4 z);rw[W6 (by lia)]at b;exact b
def Zfv(H:Def K mg "pair_cost" Aa ["strips","ahead","behind"])
  : L5 ζ:=by
 refine H.fz OV (λs n=>(bc (sS 3 n xi)<|bc (sS 4 n xi)<|bc (sF 0<|sO [5,6] Qb (iL<|xv 0) (gT 2<|gc (gN 5)<|gc (gN 6) g0)<|b1<|sI (tq s (xv 5)<|xv 2) (b1<|sU 3 n Mt<|xv 6)<|b1<|sI (tq s (xv 5)<|xv 1) (b1<|sU 4 n Mt<|xo NM N3 (xv 3)<|xv 6) b0)<|b1<|sV 4)) (.a ?_)
 ·rintro J R X ⟨b,x,y,rfl,B,A⟩;refine⟨rfl,rfl,Pn (xs:=b) (emb:=prD) (λi f=>f=[some (.bor<|.lst<|b.map prD),some (.sh<|.int x),some (.sh<|.int y),some (.sh<|.int<|tpM b y i),some (.sh<|.int<|pcM b x y i),none,none]) rfl ?_ ?_⟩
  ·rintro i v f rfl;have u:b.getD i (0,0)=b[i]:=by rw[WJ,Wy v];rfl
   have hw:=B _ (WY v);have E:tpM b y (i+1)=tpM b y i+(if b[i].1=y then b[i].2 else 0):=by simp only[tpM];rw[u]
   have C:pcM b x y (i+1)=pcM b x y i+(if x≠y/\b[i].1=x then tpM b y i*b[i].2 else 0):=by simp only[pcM];rw[u]
   rw[E,C];generalize b[i]=p at hw;refine⟨rfl,Xx (λg=>?_) (λg=>Xx (λo=>?_) (λo=>?_))⟩
   ·have e:p.1=y:=W7 g;rw[W6 e,W3 (by rintro⟨r,l⟩;exact r (l.symm.trans e)),J1];rfl
   ·have e:¬p.1=y:=λz=>g (W4 z);have h:p.1=x:=W7 o;rw[W3 e,W6 ⟨λz=>e (h.trans z),h⟩,J1];exact⟨.inr ⟨by show -(2 ^ 64)<p.2;lia,by show p.2<2 ^ 64;lia⟩,rfl⟩
   ·have e:¬p.1=y:=λz=>g (W4 z);have h:¬p.1=x:=λz=>o (W4 z);rw[W3 e,W3 (by rintro⟨r,l⟩;exact h l),J1,J1];rfl
  ·rintro f rfl;exact A
def Zb3(o:Def K mg "check_neighbours" Cu ["strips","place"])
  : LM ζ:=by
 refine o.fy Zkv (λr n=>(b1<|sI (tp<|wo (tc PR PP (xv 1) xi)<|wO<|tc Ss Be (xv 1)<|xl G.len<|xv 0) (b1<|sQ G.Z2 G.Zn ExcR.Kz<|a1 xs) b0)) (.a ?_)
 ·rintro v R X ⟨f,p,rfl,b⟩;refine⟨rfl,?_⟩;have s:(f.map prD).length=f.length:=Wx ..;refine Xx (λg=>KA ?_) (λg=>?_)
  ·rw[W6 (.inl<|W7 g)]at b;exact⟨by simp,b⟩
  ·have u:¬p<1:=λz=>g (W4 z);refine Xx (λl=>?_) (λl=>?_)
   ·have h:((f.map prD).length:Int)<=p:=W7 l;rw[W6 (.inr<|by lia)]at b;exact⟨by simp,b⟩
   ·have h:¬((f.map prD).length:Int)<=p:=λz=>l (W4 z);rw[W3 (by lia)]at b;exact b
def Zbw(DD:Def K mg "longer_paths" Ap ["paths","left","wishes"])
  : DQ ζ:=by
 refine DD.fz LP (λE n=>(bc (sS 3 n<|xL a0)<|bc (se (Pu.pz 4 LP.nd MK)<|N8 Zk8<|Km 4)<|bc (sF 1<|sF 0<|sO [5,6] Qb (iL<|xv 0) (gN 5)<|b1<|sF 1<|sO [6] Qb (iL<|xv 1) (gN 6)<|b1<|sI (tp<|wa (te (Cp<|Ziw (P9<|E ()) (pv 6)<|pv 4)<|FP<|Oi (Xg 6)<|Xg 4)<|wA<|ti E (xt<|a2 (xx (xv 5)<|xe (NB Sd Xn)<|Sg Xj)<|xv 6)<|xv 2) (bc (se (FN (P9<|E ()) (pv 4) (pv 6) Pv rfl)<|DC 4 (Xg 6) Px)<|b1<|sF 6<|sA 3<|xo P8 Pz (xv 5)<|xL<|a1<|xv 6) b0)<|b1<|sV 3)) (.a ?_)
 ·rintro ds R X ⟨l,v,u,A,rfl,C,Y,H,U,hR⟩;refine⟨rfl,?_⟩
  refine⟨by simp,rfl,Pn (xs:=v) (emb:=em l) (λi o=>∃r f,o=[some (.bor<|.lst<|v.map<|em l),some (.bor<|.lst<|u.map D.int),some (.bor<|.lst<|A.map prD),some (.own<|r.map<|em l),some (.own<|.dK f),none,none]/\LGs A l (Pd v u i 0) u r f)
   ⟨[],[],rfl,LGs.start⟩ ?_ ?_⟩
  ·rintro i L o ⟨r,f,rfl,s⟩;have y:v[i]?=some v[i]:=Wy L;have J:=H v[i] (WY L);generalize v[i]=p at y J ⊢;refine⟨rfl,Pn (xs:=u) (emb:=D.int) (λj o=>∃r f,o=[some (.bor<|.lst<|v.map<|em l),some (.bor<|.lst<|u.map D.int),some (.bor<|.lst<|A.map prD),some (.own<|r.map<|em l),some (.own<|.dK f),some (.bor<|em l p),none]/\LGs A l (Pd v u i j) u r f) ⟨r,f,rfl,s⟩ ?_ ?_⟩
   ·rintro j hj o ⟨r,f,rfl,s⟩;have B:u[j]?=some u[j]:=Wy hj;generalize u[j]=h at B ⊢;have Q:=s.len_le;have hkl:=s.len;refine⟨.inl h,rfl,Xx (λg=>?_) (λg=>?_)⟩
    ·have N:(Xu f<|.inl h).isSome=false:=by
      cases e:(Xu f<|.inl h).isSome with
      |false=>rfl
      |true=>rw[e]at g;cases g
     refine⟨_,FS l p,by simp,_,.lp (Xq l p,h) A,Xx (λM=>?_) (λM=>?_)⟩
     ·refine⟨.inl h,.bl true,rfl,rfl,by lia,by simp,Bo _,rfl,by simp;lia,by rw[Wx];lia,r++[p++[h]],_,?_,s.put y B C Y N (W7 M)⟩;rw[WU]
      have e:em l (p++[h])=.lst ((l::p).map D.int++[.int h]):=by
       unfold em;rw[←Vo,WU];rfl
      rw[V7,e];rfl
     ·exact⟨r,f,rfl,s.skip y B C (.inr λz=>M (W4 z))⟩
    ·have N:(Xu f<|.inl h).isSome=true:=by
      cases e:(Xu f<|.inl h).isSome with
      |true=>rfl
      |false=>rw[e]at g;exact absurd rfl g
     exact X7 ⟨r,f,rfl,s.skip y B C (.inl N)⟩
   ·rintro o ⟨r,f,rfl,s⟩;refine⟨r,f,rfl,s.congr λT x=>?_⟩;unfold Pd;rw[QB,VA];obtain⟨hi',ei⟩:=WI.mp y;rw[WW L,WL,Wz,y,ei];constructor
    ·rintro(⟨a,b⟩|⟨a,b⟩)
     ·exact .inl ⟨.inl a,b⟩
     ·exact .inl ⟨.inr (WD a).symm,b⟩
    ·rintro(⟨a|a,b⟩|⟨_,a⟩)
     ·exact .inl ⟨a,b⟩
     ·exact .inr ⟨Qf some a.symm,b⟩
     ·cases a
  ·rintro o ⟨r,f,rfl,s⟩;refine hR r (s.g.congr λT x=>?_) s.len_le;unfold Pd;rw[QB,VA];exact⟨(λz=>z.elim id λw=>by cases w.2),.inl⟩
def Zdz(o:Def K mg "check_place" A4 ["strips","place"])
  : HG ζ:=by
 refine o.fy Zhs (λr n=>(b1<|sI (tp<|wo (tc PR PP (xv 1) xi)<|wO<|tc T6 T5 (xv 1)<|xl G.len<|xv 0) (b1<|sQ G.Z2 G.Zn ExcR.Kz<|a1 xs) b0)) (.a ?_)
 ·rintro v R X ⟨f,p,rfl,b⟩;refine⟨rfl,?_⟩;have s:(f.map prD).length=f.length:=Wx ..;unfold Fb at b;refine Xx (λg=>KA ?_) (λg=>?_)
  ·rw[W6 (.inl<|W7 g)]at b;exact⟨by simp,b⟩
  ·have u:¬p<1:=λz=>g (W4 z);refine Xx (λl=>?_) (λl=>?_)
   ·have h:((f.map prD).length:Int)<p:=W7 l;rw[W6 (.inr<|by lia)]at b;exact⟨by simp,b⟩
   ·have h:¬((f.map prD).length:Int)<p:=λz=>l (W4 z);rw[W3 (by lia)]at b;exact b
def Zg9(r:Def K mg "without_wish" Ae ["wishes","ahead","behind"])
  : GN ζ:=by
 refine r.fy Zai (λp n=>(bc (sI (tI p (xt<|a2 (xv 1)<|xv 2)<|xv 0) (b1<|sQ G.ZS G.Z5 ExcR.Kz<|a1 xs) b0)<|b1<|sF 2<|sF 1<|sR<|xC ["wish","ahead","behind"] [none,some 1,some 2] (jL<|xv 0) (gN 0) (f1<|te (Nj (Zeu (K:=K)<|show _<cLine from(p ()).units0) (pv 0) (XZ<|bz (pv 1)<|pv 2)<|To _)<|Pb<|Zhp (Xg 0)<|Kb<|tz (Xg 1)<|Xg 2)<|xv 0)) (.a ?_)
 ·rintro u R X ⟨l,a,b,rfl,s,f⟩;refine⟨rfl,?_⟩;unfold Kk at f;refine⟨by simp,_,.lp (a,b) l,Xx (λg=>?_) (λg=>?_)⟩
  ·have o:¬(a,b)∈l:=λz=>by rw[W6 rfl,W4 z]at g;cases g
   rw[W3 o]at f;exact⟨by simp,f⟩
  ·have o:(a,b)∈l:=Qn λz=>g (by rw[W6 rfl,WH z];rfl);rw[W6 o]at f;refine KZ (xs:=l) (emb:=prD) (λq=>if (!decide (q=(a,b)))=true then some (prD q)else none) (by lia) (λq hq=>?_) ?_
   ·refine⟨by simp,?_⟩;show FD (.sh<|prD q) (.sh<|prD (a,b)) _;refine Zjd ?_;exact Xx (λh=>⟨_,rfl,W6 h⟩) (λh=>W3 h)
   ·rw[TZ (λq:Int×Int=>!decide (q=(a,b)))];exact f
def Zgr(u:Def K mg "sets_of" F8 ["holders"])
  : Ll ζ:=by
 refine u.fz OO (λx n=>(bc (sS 1 n<|xL<|a1<|xt a0)<|bc (sF 0<|sO [2] Qb (iL<|xv 0) (gN 2)<|b1<|sF 2<|sS 1 n<|xo P8 Pz (xv 1)<|xC ["members","holder"] [none,some 2] (jL<|xv 1) (gN 0) f0<|xe (PQ (Zdh (K:=K)) (pv 0)<|XZ<|az<|pv 1)<|Zes (Xg 0)<|Kb<|sz<|Xg 1)<|b1<|sV 1)) (.a ?_)
 ·rintro y R X ⟨g,rfl,v,s⟩;refine⟨rfl,by simp,by simp,rfl,Pn (xs:=g) (emb:=D.int) (λi f=>f=[some (.bor<|.lst<|g.map D.int),some (.own ((X5<|g.take i).map tD)),none]) rfl ?_ ?_⟩
  ·rintro i r f rfl
   have l:(X5<|g.take i).length<=1024:=by
    rw[GV,Qp];exact Nat.pow_le_pow_right (j:=10) (by decide) (by lia)
   have o:∀b∈X5 (g.take i),b.length<=10:=λb p=>by
    have:=(BI _ b p).length_le
    rw[Qp]at this;lia
   rw[WW r,Np];generalize X5 (g.take i)=S at l o ⊢;generalize g[i]=h;refine KZ (xs:=S) (emb:=tD) (λb=>some (tD (b++[h]))) (by lia) (λb p=>?_) ?_
   ·refine⟨by simp,_,_,R6 b,rfl,?_,_,rfl,?_⟩
    ·have:=o b p
     rw[Wx];show b.length+1<=100000;lia
    ·unfold tD;rw[WU];rfl
   ·rw[BR];refine⟨rfl,rfl,?_,?_⟩
    ·rw[Wx,Wx];lia
    ·show[_,_,_]=[_,_,_];rw[WU,Qy];rfl
  ·rintro f rfl;rw[QB];exact s
def Ziy(l:Def K mg "without" F7 ["members","holder"])
  : GE ζ:=by
 refine l.fz Zj2 (λf n=>(b1<|sR<|xe (Pj (Zjf (K:=K)) (by rfl) G.Z7 boot_tuple<|az<|cz ["member","holder"] [none,some 1] (FJ (K:=K)<|pv 0) ⟨(gk 0),(Ai<|cn K (f ()) (pv 0)<|pv 1),(pv 0)⟩)<|Zal<|sz<|P7 (SndI.c<|CH<|Xg 0) (Km 0) (Pb<|Bp (Xg 0)<|Xg 1)<|Xg 0)) (.a ?_)
 ·rintro r R X ⟨b,h,rfl,o,g⟩;refine⟨rfl,?_⟩;rw[DF];refine⟨_,rfl,KZ (s:=.sh .non) (xs:=b) (emb:=D.int) (λm=>if decide (m≠h)=true then some (.int m)else none) (by lia) (λm p=>?_) ?_⟩
  ·show if (!decide (m=h))=true then _ else _;by_cases e:m=h
   ·rw[W4 e];exact X7 (by simp[e])
   ·rw[WH e];exact KA ⟨_,rfl,W6 (W4 e)⟩
  ·rw[TZ (λm=>decide (m≠h))];exact⟨rfl,g⟩
def Zhj(p:Def K mg "may_lie_last" Dv ["members","holder","wishes"])
  : IX ζ:=by
 refine p.fz Zbb (λl n=>(b1<|sR<|xn<|xe (Kp (MW (K:=K) rfl) (by rfl) G.ZY boot_any<|az<|cz ["ahead","behind","holder","members"] [none,none,some 1,some 0] (TY (K:=K)<|pv 2) ⟨(AZ (K:=K) (n:=2) rfl<|Bc (gk 0)<|Bc (gk 1) DE),Tp,(Af (SG (Fz (K:=K)<|show _<cLine from(l ()).units0) (pv 0) (pv 2)<|To _)<|Ct<|SG (HK (K:=K)<|show _<cLine from P9 (l ())) (pv 1) (pv 3)<|by with_unfolding_all rfl)⟩)<|Zg2<|sz<|P7 (N5<|Xg 2) (Mv<|F3 (Km 0)<|F3 (Km 1) GY) TU<|CU (Bl (Xg 0)<|Xg 2)<|A8 (Xg 1)<|Xg 3)) (.a ?_)
 ·rintro s R X ⟨b,h,f,rfl,r,o⟩;refine⟨rfl,?_⟩;rw[DF];refine KZ (xs:=f) (emb:=prD) (λq=>some (.bl (decide (q.1=h)&&decide (q.2∈b)))) (by lia) (λq hq=>?_) ?_
  ·refine⟨rfl,?_⟩;show if true=true then(if decide (q.1=h)=true then _ else _)else(some (D.bl (decide (q.1=h)&&decide (q.2∈b)))=none);refine KA (Xx (λg=>⟨_,.ti _ _,?_⟩) (λg=>?_))
   ·refine⟨_,rfl,?_⟩;rw[g,Jv];rfl
   ·refine⟨_,rfl,?_⟩;rw[VM.mpr g,Bool.false_and]
  ·rw[BR];refine⟨f.map λq=>decide (q.1=h)&&decide (q.2∈b),by rw[Qy];rfl,?_⟩;rw[List.any_map];exact o
def RZ(g:X1 K (X4 K (Xs ζ) "strips") "strips" "Village.strips" FZ ["self"])
  : MA ζ:=by
 refine g.fz Zg5 (λl n=>(b1<|sR<|xe (Pj (TQ (K:=K)) (by rfl) G.Zg boot_list<|az<|jx K (KC (pv 0) rfl)<|NB Sd Xn)<|Nf<|sz<|X6 (PB 1 G.Za G.Zd Fd<|Xg 0)<|Sg Xj)) (.a ?_)
 ·rintro o R X ⟨bk,fs,h,f,rfl,b⟩;refine⟨rfl,?_⟩;exact⟨rfl,rfl,_,rfl,_,BP plD fs f,KN _,b⟩
def Zc0(h:X1 K (X4 K (Xs ζ) "wishes") "wishes" "Village.wishes" CZ ["self"])
  : IQ ζ:=by
 refine h.fz OT (λl n=>(b1<|sR<|xe (Pj (TQ (K:=K)) (by rfl) G.Zg boot_list<|az<|jx K (KC (pv 0) rfl)<|NB Sd Xn)<|Nf<|sz<|X6 (PB 2 G.Za G.Ze Fe<|Xg 0)<|Sg Xj)) (.a ?_)
 ·rintro o R X ⟨bk,fs,b,f,rfl,g⟩;refine⟨rfl,?_⟩;exact⟨rfl,rfl,_,rfl,_,BP plD b f,KN _,g⟩
def Zg4(f:X1 K (X4 K (Xs ζ) "deeds") "deeds" "Village.deeds" Au ["self"])
  : Li ζ:=by
 refine f.fz Zfo (λh n=>(b1<|sR<|xe (Pj (TQ (K:=K)) (by rfl) G.Zg boot_list<|az<|KC (pv 0) rfl)<|Nf<|sz<|PB 0 G.Za G.Zb Nn<|Xg 0)) (.a ?_)
 ·rintro l R X ⟨bk,fs,g,rfl,b⟩;refine⟨rfl,?_⟩;exact⟨rfl,rfl,_,rfl,IA _,b⟩
def OD(h:X1 K (X4 K (Xs ζ) "check_room") "check_room" "Village.check_room" CL ["self"])
  : Ef ζ:=by
 refine h.fy Zd7 (λo n=>(b1<|sI (tc Ss Be (xl G.len<|xe (KC (pv 0) rfl)<|PB 0 G.Za G.Zb Nn<|Xg 0)<|xe (ExcR.K6 G.Zx) Xj) (b1<|sQ G.Zh G.Zm ExcR.Kz<|a1<|xe (ExcR.T3<|ExcR.KR<|ExcR.Tt (ExcR.K6 G.Zx)<|ExcR.KR ExcR.T7)<|Te<|Pa<|T9 Xj<|Pa Tq) b0)) (.a ?_)
 ·rintro r R X ⟨bk,fs,l,rfl,b⟩;refine⟨rfl,?_⟩;have p:(bk.map dD).length=bk.length:=Wx ..;unfold TM at b;refine⟨rfl,rfl,_,rfl,Xx (λg=>?_) (λg=>?_)⟩
  ·have f:(100:Int)<=((bk.map dD).length:Int):=W7 g;rw[W6 (by lia)]at b;exact⟨by decide,by decide,by decide,by decide,by decide,by simp,b⟩
  ·have f:¬(100:Int)<=((bk.map dD).length:Int):=λz=>g (W4 z);rw[W3 (by lia)]at b;exact b
def Os(z:X1 K (X4 K (Xs ζ) "enter") "enter" "Village.enter" Cz ["self","deed","field","wishes"])
  : GQ ζ:=by
 refine z.fz Zk6 (λB n=>(bc (sF 1<|se (KY<|Bz Qz Vc Vd Bh (KC (pv 0) rfl)<|az<|pv 1)<|Nt<|AO 0 0 G.Za G.Zb Nn<|Xg 1)<|bc (sF 2<|se (KY<|Bz Qz Vc Vd Bh (KC (pv 0) rfl)<|az<|pv 2)<|Nt<|AO 0 1 G.Za G.Zd Fd<|Xg 2)<|bc (sF 3<|se (KY<|Bz Qz Vc Vd Bh (KC (pv 0) rfl)<|az<|pv 3)<|Nt<|AO 0 2 G.Za G.Ze Fe<|Xg 3)<|b1<|se (Xt<|ln K G.len<|KC (pv 0) rfl)<|Kc<|FB<|sz<|PB 0 G.Za G.Zb Nn<|Xg 0)) (.c ?_)
 ·rintro o A R X ⟨x,b1,y,v,bk,fs,b,q,f,w,rfl,rfl,H,E,C,p⟩;refine⟨rfl,?_⟩;have l:(bk.map dD).length<10000000:=by rw[Wx];lia
  have h:(fs.map plD).length<10000000:=by rw[Wx];lia
  have g:(b.map plD).length<10000000:=by rw[Wx];lia
  refine⟨rfl,rfl,_,rfl,l,rfl,rfl,_,rfl,h,rfl,rfl,_,rfl,g,rfl,rfl,_,rfl,_,rfl,⟨rfl,by simp⟩,?_⟩;have e:(((bk.map dD++[dD q]).length:Nat):Int)=(bk.length:Int)+1:=by rw[WE,Wx];simp
  show R (.ins x _ vF [(b1,bk.map dD++[dD q]),(y,fs.map plD++[plD f]),(v,b.map plD++[plD w])]) (.int (((bk.map dD++[dD q]).length:Nat):Int));rw[e];have u:bk.map dD++[dD q]=(bk++[q]).map dD:=by rw[WU];rfl
  have s:fs.map plD++[plD f]=(fs++[f]).map plD:=by rw[WU];rfl
  have r:b.map plD++[plD w]=(b++[w]).map plD:=by rw[WU];rfl
  rw[u,s,r];exact p
def O0(E:X1 K (X4 K (Xs ζ) "take_back") "take_back" "Village.take_back" F2 ["self"])
  : Hy ζ:=by
 refine E.fy O8 (λJ n=>(bc (sI (tN<|tt<|xe (KC (pv 0) rfl)<|PB 0 G.Za G.Zb Nn<|Xg 0) (b1<|sQ G.ZE G.Zp ExcR.Kz<|a1 xs) b0)<|bc (se (KY<|Fg Qz Ja Jb Df<|KC (pv 0) rfl)<|Nt<|AX 0 1 G.Za G.Zd Fd)<|bc (se (KY<|Fg Qz Ja Jb Df<|KC (pv 0) rfl)<|Nt<|AX 0 2 G.Za G.Ze Fe)<|b1<|se (Xt<|Fg Qz Ja Jb Df<|KC (pv 0) rfl)<|Kx<|AX 0 0 G.Za G.Zb Nn)) (.c ?_)
 ·rintro o H R X ⟨x,b1,p,l,bk,fs,b,rfl,rfl,M,L,v,y⟩;refine⟨rfl,?_⟩;have h:(bk.map dD).isEmpty=decide (bk=[]):=by cases bk<;>simp
  refine⟨rfl,rfl,_,rfl,?_⟩;show if (!(!(bk.map dD).isEmpty))=true then _ else _;rw[Bool.not_not,h];refine Xx (λg=>⟨by simp,_,rfl,⟨rfl,by simp⟩,v (W7 g)⟩) (λg=>?_);have f:bk≠[]:=λz=>g (W4 z);obtain⟨b0,q,rfl⟩:∃b0 q,bk=b0++[q]:=⟨_,_,(QM f).symm⟩;have u:(b0++[q]).length=b0.length+1:=by simp
  have f1:(fs.map plD)[(fs.map plD).length-1]?=some (plD (fs[fs.length-1]'(by lia))):=by
   rw[Wx,WB,Wy (by lia)];rfl
  have r:(b.map plD)[(b.map plD).length-1]?=some (plD (b[b.length-1]'(by lia))):=by
   rw[Wx,WB,Wy (by lia)];rfl
  have s:((b0++[q]).map dD)[((b0++[q]).map dD).length-1]?=some (dD q):=by
   rw[Wx,WB,u,Ju,Qd (W5 _),Nat.sub_self];rfl
  refine⟨rfl,rfl,_,_,rfl,f1,rfl,rfl,_,_,rfl,r,rfl,rfl,_,_,rfl,s,_,rfl,⟨rfl,by simp⟩,?_⟩;have C:((b0++[q]).map dD).dropLast=b0.map dD:=by rw[WU];exact Ji
  have B:(fs.map plD).dropLast=fs.dropLast.map plD:=List.map_dropLast.symm;have A:(b.map plD).dropLast=b.dropLast.map plD:=List.map_dropLast.symm
  have:=y b0 q rfl
  rw[show vO (ExcR.Xi mg "Village") x b1 p l b0 fs.dropLast b.dropLast=.ins x (ExcR.Xi mg "Village") vF [(b1,((b0++[q]).map dD).dropLast),(p,(fs.map plD).dropLast),(l,(b.map plD).dropLast)] by rw[C,B,A]]at this;exact this
def Zf4(u:X1 K (X4 K (Xs ζ) "stood") "stood" "Village.stood" AV ["self","many"])
  : Lo ζ:=by
 refine u.fy Zjm (λA n=>(bc (sI (tp<|wo (tc PR PP (xv 1) xi)<|wO<|tc T6 T5 (xv 1)<|xl G.len<|xe (KC (pv 0) rfl)<|PB 0 G.Za G.Zb Nn<|Xg 0) (b1<|sQ G.ZH G.Zt ExcR.Kz<|a1 xs) b0)<|b1<|sR<|xe (XZ<|bz (Pj (TQ (K:=K)) (by rfl) G.Zg boot_list<|az<|jx K (KC (pv 0) rfl)<|pv 1)<|Pj (TQ (K:=K)) (by rfl) G.Zg boot_list<|az<|jx K (KC (pv 0) rfl)<|pv 1)<|Zin (Nf<|sz<|X6 (PB 1 G.Za G.Zd Fd<|Xg 0)<|Xg 1)<|Nf<|sz<|X6 (PB 2 G.Za G.Ze Fe<|Xg 0)<|Xg 1)) (.a ?_)
 ·rintro H R X ⟨bk,fs,o,k,rfl,C,B,p,s⟩;refine⟨rfl,?_⟩;have v:(bk.map dD).length=bk.length:=Wx ..;refine Xx (λg=>KA ?_) (λg=>?_)
  ·exact⟨by simp,p (.inl<|W7 g)⟩
  ·have E:¬k<0:=λz=>g (W4 z);refine⟨rfl,rfl,_,rfl,Xx (λl=>?_) (λl=>?_)⟩
   ·have h:((bk.map dD).length:Int)<k:=W7 l;exact⟨by simp,p (.inr<|by lia)⟩
   ·have h:¬((bk.map dD).length:Int)<k:=λz=>l (W4 z);have r:k.toNat<fs.length:=by lia
    have b:k.toNat<o.length:=by lia
    refine⟨rfl,rfl,_,rfl,_,BY (f:=plD) (xs:=fs) (by lia) (by lia),KN _,rfl,rfl,_,rfl,_,BY (f:=plD) (xs:=o) (by lia) (by lia),KN _,KN _,KN _,λx y=>?_⟩;exact s _ _ k.toNat x y (by lia) (Wy r) (Wy b)
def OQ(Q:Def K mg "is_number" Cm ["text"])
  : Ik ζ:=by
 refine Q.fz Oy (λy n=>(bc (sI (tp<|wo (tc PR PP (xl G.len<|xv 0) xi)<|wO<|tc T6 T5 (xl G.len<|xv 0)<|xe (ExcR.K6 G.ZF) Xj) (b1<|sR xb) b0)<|bc (sI (tp<|wa (tq y (xe (G1 Zhm (pv 0) Xn (λ_ _=>rfl))<|Zgn (Xg 0) Xj) xs)<|wA<|tn y (xv 0) xs) (b1<|sR xb) b0)<|b1<|sR<|xe (Kp (GM (K:=K) rfl) (by rfl) G.ZU boot_all<|az<|cz ["sign"] [none] (Zg8<|pv 0) ⟨(gk 0),Tp,(SG MS (pv 0) (ExcR.K6 G.ZT)<|by with_unfolding_all rfl)⟩)<|DX<|sz<|P7 (SndI.c<|Zih<|Xg 0) (Km 0) TU<|Zks (Xg 0) Xz)) (.a ?_)
 ·rintro U R X ⟨x,rfl,l,A,f⟩;refine⟨rfl,l,Xx (λg=>?_) (λp=>⟨l,Xx (λg=>?_) (λo=>?_)⟩)⟩
  ·have e:K4 x=false:=by
    unfold K4;have g:decide ((x.length:Int)<1)=true:=g;rw[g];rfl
   rw[←e];exact f
  ·have e:K4 x=false:=by
    unfold K4;have g:decide ((4:Int)<(x.length:Int))=true:=g;rw[show decide ((x.length:Int)>4)=true from g,J0]
    rfl
   rw[←e];exact f
  have p:¬(x.length:Int)<1:=λz=>p (W4 z);have o:¬(4:Int)<(x.length:Int):=λz=>o (W4 z);have v:x.cps.toList.length=x.length:=Qc
  obtain⟨c,r,C⟩:∃c r,x.cps.toList=c::r:=by
   cases e:x.cps.toList with
   |nil=>rw[e]at v;simp at v;lia
   |cons c r=>exact⟨c,r,rfl⟩
  have H:atI x.cps.toList 0=some c:=by rw[C];exact T1 _ _
  have N:decide ((⟨#[c]⟩:Str) = "0")=decide (x.cps.toList.head?=some 48):=by
   rw[C];by_cases z:c=48
   ·subst z;rw[show(48::r).head?=some 48 from rfl,W4 rfl]
    decide +kernel
   ·rw[WH (λh=>z (by have:=Qf (λs:Str=>s.cps.toList) h;exact(List.cons.inj this).1))];exact(WH λh=>z (WD h)).symm
  have u:K4 x=(!(decide (x.cps.toList.head?=some 48) && !decide (x=("0" : Str)))&&(x.cps.toList.map λc=>decide (c∈("0123456789" : Str).cps.toList)).all id):=by
   unfold K4;rw[WH p,WH o];rfl
  refine⟨l,c,H,?_⟩;show if decide ((⟨#[c]⟩:Str) = "0")=true then _ else _;rw[N];have E:x.cps.size<=4:=by have:x.cps.size=x.length:=rfl;lia
  have last:∀b:Bool,b=(x.cps.toList.map λc=>decide (c∈("0123456789" : Str).cps.toList)).all id->K4 x=b->SA [none] [some (.sh<|.str x)] (TR 0) A5 (p2 (B3 0) (pC<|.str "0123456789") Ab) x.cps.size (λi=>.sh (.str ⟨#[x.cps.getD i 0]⟩)) λs=>Ck [s] R:=λb L M=>by
   refine Zfk (λi=>some (.bl<|decide (x.cps.getD i 0∈("0123456789" : Str).cps.toList))) (by lia) (λi T=>?_) ?_
   ·exact⟨_,rfl,_,rfl,rfl⟩
   ·have e:(List.range x.cps.size).filterMap (λi=>some (D.bl<|decide (x.cps.getD i 0∈("0123456789" : Str).cps.toList)))=(x.cps.toList.map λc=>decide (c∈("0123456789" : Str).cps.toList)).map D.bl:=by
     rw[QN,Qy];refine List.ext_getElem (by simp) λi B J=>?_;simp at B J ⊢;rw[Qm B];rfl
    rw[e];refine⟨_,rfl,?_⟩;rw[←L,←M];exact f
  refine Xx (λg=>?_) (λg=>?_)
  ·show if (!decide (x=("0" : Str)))=true then _ else _;by_cases z:x=("0" : Str)
   ·rw[W4 z];refine X7 ⟨A,last _ rfl ?_⟩;rw[u,W4 z,Bool.not_true,Bool.and_false];rfl
   ·rw[WH z];refine KA ?_;have e:K4 x=false:=by rw[u,g,WH z];rfl
    rw[←e];exact f
  ·refine X7 ⟨A,last _ rfl ?_⟩;rw[u,VM.mpr g,Bool.false_and];rfl
def Zdm(l:Def K mg "_law_at" D9 ["_law_script","_law_k"])
  : II ζ:=by
 refine l.fz Zeq (λo n=>(bc (sI (tc PR PP (xv 1)<|xl G.len<|xv 0) (b1<|sR<|xx (xv 0)<|xv 1) b0)<|b1<|sR xi)) (.a ?_)
 ·rintro r R X ⟨b,k,rfl,h,f⟩;refine⟨rfl,?_⟩;refine Xx (λg=>?_) (λ_=>f 0);have p:k<(b.length:Int):=W7 g;exact⟨_,SN h (Wy<|show k.toNat<b.length by omega),f _⟩
def Ze0(f:Def K mg "_law_whole" AH ["_law_found"])
  : E8 ζ:=by
 refine f.fz Zhu (λg n=>(b1<|sR<|xe (Af (Kp (Tg (K:=K)) (by rfl) G.Zc Q3<|bz (pv 0)<|PK (v:=.ty "int") rfl G.ZV boot_int rfl)<|Ct<|Gi<|Kp (Tg (K:=K)) (by rfl) G.Zc Q3<|bz (pv 0)<|PK (v:=.ty "bool") rfl G.ZX boot_bool rfl)<|CU (Tj<|tz (Xg 0) PJ)<|Hd<|Tj<|tz (Xg 0) PJ)) (.a ?_)
 ·rintro h R X ⟨i,rfl,b⟩;refine⟨rfl,?_⟩;exact⟨_,.same _,_,.ib,b⟩
def Zds(f:Def K mg "_law_mix" Ao ["_law_cell","_law_place"])
  : M7 ζ:=by
 refine f.fz Zic (λg n=>(bc (sS 2 n<|xo XO XQ (xo NM N3 (xo XW XT (xo XW XT (xo XO XQ (xv 0) xi)<|xo NM N3 xi<|xv 1) xi) xi) xi)<|b1<|sR<|xo XO XQ (xo NM N3 (xo XW XT (xo XW XT (xv 2)<|xo NM N3 xi<|xv 1) xi) xi) xi)) (.a ?_)
 ·rintro h R X ⟨c,p,rfl,b⟩;refine⟨rfl,?_⟩;exact⟨(by show(0:Int)<2147483647;decide),.inl ⟨by decide,by decide⟩,.inr ⟨by decide,by decide⟩,(by show(0:Int)<2147483647;decide),.inl ⟨by decide,by decide⟩,.inr ⟨by decide,by decide⟩,(by show(0:Int)<2147483647;decide),b _⟩
def Zb7(A:Def K mg "_law_menu" Cd ["_law_cell"])
  : G4 ζ:=by
 refine A.fz Rm (λB n=>(bc (sS 1 n<|xx (xL<|ac xi<|ac xi<|ac xi<|ac xi<|ac xi a0)<|xo XO XQ (xo PX PV (xv 0) xi) xi)<|bc (sS 2 n<|xx (xL<|ac xi<|ac xi<|ac xi<|ac xi<|ac xi a0)<|xo XO XQ (xo PX PV (xv 0) xi) xi)<|b1<|sF 2<|sF 1<|sR<|xL<|ac (xo XW XT xi<|xo XO XQ (xv 0) xi)<|ac (xx (xL<|ac xi<|ac xi<|ac xi<|ac xi a0)<|xo XO XQ (xo PX PV (xv 0) xi) xi)<|ac (xo XO XQ (xo PX PV (xv 0) xi) xi)<|ac (xv 1)<|ac (xv 2) a0)) (.a ?_)
 ·rintro C R X ⟨c,rfl,x⟩;refine⟨rfl,?_⟩;have p:0<=c / 10 % 4/\c / 10 % 4<4:=by lia
  have o:0<=c / 400 % 5/\c / 400 % 5<5:=by lia
  have u:∀v∈([1,3,7,9]:Yi),1<=v/\v<=9/\(v=1\/v=3\/v=7\/v=9):=by decide
  have g:∀i:Int,0<=i->i<5->∃d e:Int,atI [D.int 1000,.int 3,.int 1,.int 2,.int 3] i=some (.int d)/\atI [D.int 1,.int 1,.int 1,.int 1,.int 998] i=some (.int e)/\(1<=d/\d<=1000)/\1<=e/\e+d<=1001:=λi a b=>by
   have:i=0\/i=1\/i=2\/i=3\/i=4:=by lia
   rcases this with rfl|rfl|rfl|rfl|rfl
   ·exact⟨1000,1,rfl,rfl,by decide,by decide,by decide⟩
   ·exact⟨3,1,rfl,rfl,by decide,by decide,by decide⟩
   ·exact⟨1,1,rfl,rfl,by decide,by decide,by decide⟩
   ·exact⟨2,1,rfl,rfl,by decide,by decide,by decide⟩
   ·exact⟨3,998,rfl,rfl,by decide,by decide,by decide⟩
  obtain⟨d,e,z,y,s,r⟩:=g _ o.1 o.2;have h:=u _ (WY (l:=([1,3,7,9]:Yi)) (n:=(c / 10 % 4).toNat)<|by show(c / 10 % 4).toNat<4;lia);refine⟨by simp,⟨by decide,by decide⟩,(by show(0:Int)<5;decide),_,z,by simp,⟨by decide,by decide⟩,(by show(0:Int)<5;decide),_,y,(by show(0:Int)<10;decide),by simp,⟨by decide,by decide⟩,(by show(0:Int)<4;decide),_,BY (f:=D.int) (xs:=[1,3,7,9]) p.1 p.2,⟨by decide,by decide⟩,(by show(0:Int)<10;decide),by simp,?_⟩;exact x [_,_,_,_,_] ⟨_,_,_,_,_,rfl,by lia,h,by lia,s,r⟩
def Zg0(h:Def K mg "_law_holder" FA ["_law_menu_here","_law_k"])
  : Iq ζ:=by
 refine h.fz Zkr (λl n=>(b1<|sR<|xo XW XT xi<|xo XO XQ (xo XW XT (xo NM N3 (xv 1)<|xx (xv 0) xi)<|xx (xv 0) xi) xi)) (.a ?_)
 ·rintro v R X ⟨m,k,rfl,g,f⟩;refine⟨rfl,?_⟩;obtain⟨a,b,c,d,e,rfl,u,s,r,p,o⟩:=g;exact⟨_,rfl,.inr ⟨by lia,by lia⟩,_,rfl,(by show(0:Int)<10;decide),f _ (by lia) (by lia) rfl⟩
def Zkt(x:Def K mg "_law_next" Ac ["_law_k","_law_cell","_law_now"])
  : Lu ζ:=by
 refine x.fz Zev (λv n=>(bc (sS 3 n<|xo XW XT xi<|xo XO XQ (xv 1) xi)<|bc (sS 4 n<|xo XW XT xi<|xo XO XQ (xo XW XT (xo XW XT (xo XO XQ (xv 1) xi) xi)<|xo XO XQ (xo PX PV (xv 1) xi) xi) xi)<|bc (sI (tq v (xo XO XQ (xo PX PV (xv 1) xi) xi) xi) (b1<|sF 4<|sF 3<|sR<|xx (xL<|a2 (xt<|a3 xs (xv 3)<|xv 4)<|xt<|a3 xs (xv 3)<|xv 4)<|xo XO XQ (xv 0) xi) b0)<|b1<|sR<|xt<|a3 xs xi<|xx (xL<|a2 (xo XW XT xi<|xo XO XQ (xx (xx (xv 2) xi) xi) xi)<|xo XW XT xi<|xo XO XQ (xo XW XT (xx (xx (xv 2) xi) xi) xi) xi)<|xo XO XQ (xv 0) xi)) (.a ?_)
 ·rintro B R X ⟨k,c,f,rfl,A,y,l⟩;refine⟨rfl,?_⟩;have s:∀m:Int,Sw m 10/\Sw m 90:=λm=>⟨⟨by decide,by decide⟩,⟨by decide,by decide⟩⟩;have o:(0:Int)<2:=by decide
  have u:(0:Int)<9:=by decide
  have b:(0:Int)<10:=by decide
  refine⟨b,b,(s c).1,u,b,(s c).2,o,Xx (λg=>?_) λg=>?_⟩
  ·have g:=W7 g;rcases(by lia:k % 2=0\/k % 2=1)with h|h
   ·rw[show KD k c f=.wish (1+c % 10) (1+(c % 10+1+c / 10 % 9) % 10) by unfold KD;rw[W6 g,W6 h]]at l;exact⟨by simp,by simp,by simp,o,_,by show atI [_,_] (k % 2)=_;rw[h];rfl,l⟩
   ·rw[show KD k c f=.drop (1+c % 10) (1+(c % 10+1+c / 10 % 9) % 10) by unfold KD;rw[W6 g,W3 (by lia)]]at l;exact⟨by simp,by simp,by simp,o,_,by show atI [_,_] (k % 2)=_;rw[h];rfl,l⟩
  ·have g:¬c / 90 % 2=0:=λz=>g (W4 z);have r:=Tf (ps:=f) (p:=1) (by lia) (by lia);rcases(by lia:k % 2=0\/k % 2=1)with h|h
   ·rw[show KD k c f=.sell 1 (1+(Xv f 1).1 % 10) by unfold KD;rw[W3 g,W6 h]]at l;exact⟨_,r,_,rfl,b,_,r,_,rfl,b,by simp,o,_,by show atI [_,_] (k % 2)=_;rw[h];rfl,by simp,l⟩
   ·rw[show KD k c f=.sell 1 (1+((Xv f 1).1+4) % 10) by unfold KD;rw[W3 g,W3 (by lia)]]at l;exact⟨_,r,_,rfl,b,_,r,_,rfl,b,by simp,o,_,by show atI [_,_] (k % 2)=_;rw[h];rfl,by simp,l⟩
def Rr(x:Def K mg "check_strips" Dy ["strips"])
  : Hm ζ:=by
 refine x.fy RU (λr n=>(bc (sI (tc T6 T5 (xl G.len<|xv 0)<|xe (ExcR.K6 G.Zq) Xj) (b1<|sQ G.Zj G.Zf ExcR.Kz<|a1<|xe (ExcR.T3<|ExcR.KR<|ExcR.Tt (ExcR.K6 G.Zq)<|ExcR.KR ExcR.T7)<|Te<|Pa<|T9 Xj<|Pa Tq) b0)<|b1<|sF 0<|sO [1,2] ExcR.Zig (iL<|xv 0) (gT 2<|gc (gN 1)<|gc (gN 2) g0)<|bc (sE<|xg Y1 r ExcR.X3<|a1<|xv 1)<|b1<|sE<|xg YM r ExcR.X3<|a1<|xv 2)) (.a ?_)
 ·rintro B R X ⟨b,rfl,y,h⟩;refine⟨rfl,?_⟩;have A:(b.map prD).length=b.length:=Wx ..;unfold NY at h;refine Xx (λg=>?_) (λg=>?_)
  ·have u:(40:Int)<((b.map prD).length:Int):=W7 g;rw[W6 (by lia)]at h;exact⟨by decide,by decide,by decide,by decide,by decide,by simp,h⟩
  ·have u:¬(40:Int)<((b.map prD).length:Int):=λz=>g (W4 z);rw[W3 (by lia)]at h;refine⟨rfl,Pn (xs:=b) (emb:=prD) (λi l=>l=[some (.bor<|plD b),none,none]/\Tr (b.drop i)=Tr b) ⟨rfl,rfl⟩ ?_ ?_⟩
   ·rintro i s l ⟨rfl,f⟩;have v:b.drop i=b[i]::b.drop (i+1):=Vy s;rw[v,Zie]at f;generalize b[i]=p at f ⊢;refine⟨rfl,p.1,rfl,?_⟩;unfold NL;by_cases c:1<=p.1/\p.1<=10
    ·rw[W3 (λz=>z c)]at f;rw[W6 c];refine⟨p.2,rfl,?_⟩;unfold AJ;by_cases o:1<=p.2/\p.2<=1000
     ·rw[W3 (λz=>z o)]at f;rw[W6 o];exact⟨rfl,f⟩
     ·rw[W6 o]at f;rw[W3 o];rw[←f]at h;exact h
    ·rw[W6 c]at f;rw[W3 c];rw[←f]at h;exact h
   ·rintro l ⟨rfl,f⟩;rw[List.drop_length]at f;rw[←f]at h;exact h
def Zi6(DD:Def K mg "ring_from" Ar ["least","holders","wishes"])
  : Ip ζ:=by
 refine DD.fz Zjp (λT n=>(bc (sF 0<|sS 3 n<|xL<|a1<|xL<|a1<|xv 0)<|bc (sS 4 n<|xe (Kp (Io (K:=K) (w:=w) rfl) (by rfl) G.Z1 boot_sorted<|az<|cz ["holder","least"] [none,some 0] (TY (K:=K)<|pv 1) ⟨(gk 0),(Ai<|Nj T6 (pv 0) (pv 1)<|To _),(pv 0)⟩)<|Lf<|sz<|P7 (N5<|Xg 1) (Km 0) (Pb<|T5 (Xg 0)<|Xg 1)<|Xg 0)<|bc (sW [5,6] Qb (tt<|xv 3)<|bc (sF 0<|sC 5 ["path","wishes","least"] [none,some 2,some 0] n (jL<|xv 3) (gN 0) (f1<|ti T (xt<|a2 (xx (xv 0)<|xe (NB Sd Xn)<|Sg Xj)<|xv 2)<|xv 1)<|xv 0)<|bc (sI (tt<|xv 5) (b1<|sr<|xx (xv 5) xi) b0)<|bc (sS 3 n<|xf YQ T<|a3 (xv 3) (xv 4)<|xv 2)<|bc (sS 6 n<|xC ["path"] [none] (jL<|xv 3) (gN 0) f0<|xx (xv 0)<|xe (NB Sd Xn)<|Sg Xj)<|b1<|sC 4 ["holder","reached"] [none,some 6] n (jL<|xv 4) (gN 0) (f1<|tI T (xv 0)<|xv 1)<|xv 0)<|b1<|sr<|xL a0)) (.a ?_)
 ·rintro ds R X ⟨l,v,A,rfl,hnd,hz,hR⟩;refine⟨rfl,by simp,by simp,KZ (xs:=v) (emb:=D.int) (λh=>if decide (l<h)=true then some (.int h)else none) (by lia) (λh _=>Xx (λg=>⟨_,rfl,W6 g⟩) (λg=>W3 g)) ?_⟩;rw[IG λh=>decide (l<h)];refine⟨v.filter λh=>decide (l<h),rfl,QR (QV _ _) (by lia),λb s H=>?_⟩;have hlt:b.Pairwise (· < ·):=Az H (s.nodup_iff.mpr<|hnd.filter _)
  have hm:∀h,h∈b↔Gr v l h:=λh=>by
   rw[s.mem_iff,Q1,VN];exact Iff.rfl
  have J:b.length<=v.length:=by
   rw[s.length_eq];exact QV _ _
  refine Zj5 (λC=>∃k f b,C=[some (.sh<|.int l),some (.bor<|.lst<|v.map D.int),some (.bor<|.lst<|A.map prD),some (.own<|f.map<|em l),some (.own<|b.map D.int),none,none]/\Lev v A l k f b/\f.length<=60/\b.length<=v.length/\(k+b.length<=v.length\/(f=[]/\k<=v.length+1)))
   (λγ=>2*Gk 4 γ+min 1 (Gk 3 γ)) ⟨0,[[]],b,rfl,Lev.start hlt hm,by simp,J,.inl (by lia)⟩ ?_
  rintro C ⟨k,f,b,rfl,L,hpl,hll,hk⟩;have emp:(!(f.map<|em l).isEmpty)=decide (f≠[]):=by cases f<;>simp
  show if (!(f.map<|em l).isEmpty)=true then _ else _;rw[emp];refine Xx (λg=>?_) (λg=>?_)
  ·have y:f≠[]:=W7 g;have hk':k+b.length<=v.length:=hk.elim id λz=>absurd z.1 y;have U:∀p∈f,p.length<=60:=λp s=>by rw[(L.way p s).1];lia
   refine KZ (xs:=f) (emb:=em l) (λp=>if decide ((Xq l p,l)∈A)=true then some (em l p)else none) (by lia) (λp s=>⟨_,FS l p,by simp,_,.lp (Xq l p,l) A,Xx (λg=>⟨_,rfl,W6 g⟩) (λg=>W3 g)⟩) ?_;rw[TZ λp=>decide ((Xq l p,l)∈A)];generalize ef:(f.filter λp=>decide ((Xq l p,l)∈A))=fs;have N:(!(fs.map<|em l).isEmpty)=decide (fs≠[]):=by cases fs<;>simp
   show if (!(fs.map<|em l).isEmpty)=true then _ else _;rw[N];refine Xx (λg2=>?_) (λg2=>?_)
   ·have B:fs≠[]:=W7 g2;cases fs with
    |nil=>exact absurd rfl B
    |cons p r=>
     obtain⟨i,hi,Q,e2,e3⟩:=IH ef;have s:p∈f:=by rw[←Q];exact WY hi
     refine⟨em l p,T1 _ _,hR (l::p) (L.found hi Q (W7 e2) λj hj hji z=>?_) (by have:=(L.way p s).1;simp;lia)⟩
     have:=e3 j hj hji
     rw[W4 z]at this;cases this
   ·have B:fs=[]:=Qn λz=>g2 (W4 z)
    have hn:∀p∈f,(Xq l p,l)∉A:=λp s z=>by
     have:p∈fs:=by rw[←ef];exact Q1.mpr ⟨s,W4 z⟩
     rw[B]at this;cases this
    refine⟨l,f,b,A,rfl,L.srt,L.lsrt,λp s=>WC (U p s) (by decide),by lia,λo G hlg=>?_⟩;refine KZ (xs:=o) (emb:=em l) (λp=>some (.int<|Xq l p)) (by lia) (λp _=>⟨_,FS l p,_,rfl,rfl⟩) ?_;have Q:o.filterMap (λp=>some (D.int<|Xq l p))=(o.map<|Xq l).map D.int:=by rw[QN,Qy];rfl
    rw[Q];refine KZ (xs:=b) (emb:=D.int) (λh=>if decide (¬h∈o.map (Xq l))=true then some (.int h)else none) (by lia) (λh _=>⟨_,.li h _,?_⟩) ?_
    ·by_cases c:h∈o.map (Xq l)
     ·simp only[W4 c];exact X7 (W3<|by simp[c])
     ·simp only[WH c];exact KA ⟨_,rfl,W6 (by simp[c])⟩
    rw[IG λh=>decide (¬h∈o.map (Xq l))];have L':=L.next hn G rfl
    have E:∀h∈o.map (Xq l),h∈b:=λh hh=>by
     obtain⟨q,hq,e⟩:=WQ.mp hh;obtain⟨p,x,⟨_,a⟩,rfl,_⟩:=G.mem q hq;rw[K8]at e;rw[←e];exact a
    have M:=QV (λh=>decide (¬h∈o.map (Xq l))) b
    have u:o≠[]->(b.filter λh=>decide (¬h∈o.map (Xq l))).length<b.length:=λy=>by
     obtain⟨q,hq⟩:=List.exists_mem_of_ne_nil o y;have hm:Xq l q∈b:=E _ (Vw hq);refine Nat.lt_of_le_of_ne M λz=>?_
     have:=List.filter_eq_self.mp (List.Sublist.eq_of_length (List.filter_sublist (l:=b)) z) (Xq l q) hm
     rw[VN]at this;exact this (Vw hq)
    refine⟨⟨k+1,o,_,rfl,L',by lia,by lia,?_⟩,?_⟩
    ·by_cases c:o=[]
     ·exact .inr ⟨c,by lia⟩
     ·have:=u c
      exact .inl (by lia)
    ·show 2*((b.filter λh=>decide (¬h∈o.map (Xq l))).map D.int).length+min 1 (o.map<|em l).length<2*(b.map D.int).length+min 1 (f.map<|em l).length;rw[Wx,Wx,Wx,Wx]
     have:0<f.length:=List.length_pos_iff.mpr y
     by_cases c:o=[]
     ·rw[c];rw[c]at M;simp only[List.length_nil];lia
     ·have:=u c
      lia
  ·have Y:f=[]:=Qn λz=>g (W4 z);subst Y;exact⟨by simp,hR [] L.over (by simp)⟩
def Rt(u:Def K mg "sold" Am ["strips","place","holder"])
  : LU ζ:=by
 refine u.fy Zky (λl n=>(bc (sE<|xg Y7 l ExcR.X3<|a2 (xv 0)<|xv 1)<|bc (sE<|xg Y1 l ExcR.X3<|a1<|xv 2)<|bc (sS 3 n<|xx (xv 0)<|xo TB Th (xv 1) xi)<|bc (sI (tq l (xx (xv 3) xi)<|xv 2) (b1<|sQ G.ZO G.Zy ExcR.Kz<|a1 xs) b0)<|b1<|sF 2<|sR<|xo P8 Pz (xo P8 Pz (xp (xv 0) o0<|o1<|xo TB Th (xv 1) xi)<|xL<|a1<|xt<|a2 (xv 2)<|xx (xv 3) xi)<|xp (xv 0) (o1<|xv 1) o0)) (.a ?_)
 ·rintro y R X ⟨ps,p,h,rfl,v,b⟩;refine⟨rfl,?_⟩;unfold Kh at b;refine⟨ps,p,rfl,?_⟩;unfold Fb;by_cases c:p<1\/(ps.length:Int)<p
  ·rw[W6 c]at b ⊢;exact b
  ·rw[W3 c]at b ⊢;refine⟨h,rfl,?_⟩;unfold NL;by_cases f:1<=h/\h<=10
   ·rw[W3 (λz=>z f)]at b;rw[W6 f];refine⟨_,Tf (by lia) (by lia),?_⟩;have r:(cutD (ps.map prD) none<|some (p-1)).length<=1000:=by have:=(Nz (ps.map prD) none<|some (p-1)).length_le;rw[Wx]at this;lia
    have s:(cutD (ps.map prD) (some p) none).length<=1000:=by have:=(Nz (ps.map prD) (some p) none).length_le;rw[Wx]at this;lia
    refine⟨_,rfl,Xx (λg=>?_) (λg=>?_)⟩
    ·have o:(Xv ps p).1=h:=W7 g;rw[W6 o]at b;exact⟨by simp,b⟩
    ·have o:¬(Xv ps p).1=h:=λz=>g (W4 z);rw[W3 o]at b;refine⟨KN _,_,rfl,by simp,by simp,rfl,rfl,WC (Q7 r<|W5 1) (by decide),KN _,rfl,rfl,WC (Q7 (by rw[WE];exact Q7 r (W5 1)) s) (by decide),?_⟩;have e:=Gs (ps:=ps) (p:=p) (x:=(h,(Xv ps p).2)) (by lia) (by lia);show R (.own (cutD (ps.map prD) none (some (p-1))++[prD (h,(Xv ps p).2)]++cutD (ps.map prD) (some p) none));rw[e];exact b
   ·rw[W6 f]at b;rw[W3 f];exact b
def MQ(y:Def K mg "parted" Dt ["strips","place","width"])
  : E5 ζ:=by
 refine y.fy Zcg (λv n=>(bc (sE<|xg Y7 v ExcR.X3<|a2 (xv 0)<|xv 1)<|bc (sS 3 n<|xx (xv 0)<|xo TB Th (xv 1) xi)<|bc (sI (tp<|wo (tc PR PP (xv 2) xi)<|wO<|tc Ss Be (xv 2)<|xx (xv 3) xi) (b1<|sQ G.ZP G.Z3 ExcR.Kz<|a1 xs) b0)<|bc (sI (tc Ss Be (xl G.len<|xv 0)<|xe (ExcR.K6 G.Zq) Xj) (b1<|sQ G.Zj G.Zf ExcR.Kz<|a1<|xe (ExcR.T3<|ExcR.KR<|ExcR.Tt (ExcR.K6 G.Zq)<|ExcR.KR ExcR.T7)<|Te<|Pa<|T9 Xj<|Pa Tq) b0)<|b1<|sF 2<|sR<|xo P8 Pz (xo P8 Pz (xp (xv 0) o0<|o1<|xo TB Th (xv 1) xi)<|xL<|a2 (xt<|a2 (xx (xv 3) xi)<|xv 2)<|xt<|a2 (xx (xv 3) xi)<|xo TB Th (xx (xv 3) xi)<|xv 2)<|xp (xv 0) (o1<|xv 1) o0)) (.a ?_)
 ·rintro H R X ⟨f,p,w,rfl,A,b⟩;refine⟨rfl,?_⟩;have B:(f.map prD).length=f.length:=Wx ..;refine⟨f,p,rfl,?_⟩;unfold Ph at b;unfold Fb;by_cases c:p<1\/(f.length:Int)<p
  ·rw[W6 c]at b ⊢;exact b
  ·rw[W3 c]at b ⊢;refine⟨_,Tf (by lia) (by lia),?_⟩
   have C:¬(w<1\/(Xv f p).2<=w)->_:=λl=>by
    rw[W3 l]at b;exact b
   by_cases l:w<1\/(Xv f p).2<=w
   ·rw[W6 l]at b;refine Xx (λg=>KA ⟨by simp,b⟩) (λg=>⟨_,rfl,Xx (λh=>⟨by simp,b⟩) (λh=>?_)⟩);have E:¬w<1:=λz=>g (W4 z);have x:¬(Xv f p).2<=w:=λz=>h (W4 z);lia
   ·rw[W3 l]at b;refine Xx (λg=>absurd (W7 g) (by lia)) (λg=>⟨_,rfl,Xx (λh=>absurd (W7 h) (by lia)) (λh=>?_)⟩);refine Xx (λr=>?_) (λr=>?_)
    ·have o:(40:Int)<=((f.map prD).length:Int):=W7 r;rw[W6 (by lia)]at b;exact⟨by decide,by decide,by decide,by decide,by decide,by simp,b⟩
    ·have o:¬(40:Int)<=((f.map prD).length:Int):=λz=>r (W4 z);rw[W3 (by lia)]at b;have s:(cutD (f.map prD) none<|some (p-1)).length<=1000:=by have:=(Nz (f.map prD) none<|some (p-1)).length_le;rw[Wx]at this;lia
     have u:(cutD (f.map prD) (some p) none).length<=1000:=by have:=(Nz (f.map prD) (some p) none).length_le;rw[Wx]at this;lia
     refine⟨KN _,_,rfl,by simp,_,rfl,_,rfl,by simp,by simp,rfl,rfl,WC (Q7 s<|W5 2) (by decide),KN _,rfl,rfl,WC (Q7 (by rw[WE];exact Q7 s (W5 2)) u) (by decide),?_⟩;rw[←Zfs (by lia)]at b;exact b
def Zhk(u:Def K mg "united" Dn ["strips","place"])
  : M2 ζ:=by
 refine u.fy Zle (λo n=>(bc (sE<|xg YO o ExcR.X3<|a2 (xv 0)<|xv 1)<|bc (sS 2 n<|xx (xv 0)<|xo TB Th (xv 1) xi)<|bc (sS 3 n<|xx (xv 0)<|xv 1)<|bc (sI (tn o (xx (xv 2) xi)<|xx (xv 3) xi) (b1<|sQ G.Z9 G.Zk ExcR.Kz<|a1 xs) b0)<|bc (sI (tc T6 T5 (xo XW XT (xx (xv 2) xi)<|xx (xv 3) xi)<|xe (ExcR.K6 G.Zr) Xj) (b1<|sQ G.ZQ G.Z4 ExcR.Kz<|a1<|xe (ExcR.T3<|ExcR.KR<|ExcR.Tt (ExcR.K6 G.Zr)<|ExcR.KR ExcR.T7)<|Te<|Pa<|T9 Xj<|Pa Tq) b0)<|b1<|sR<|xo P8 Pz (xo P8 Pz (xp (xv 0) o0<|o1<|xo TB Th (xv 1) xi)<|xL<|a1<|xt<|a2 (xx (xv 2) xi)<|xo XW XT (xx (xv 2) xi)<|xx (xv 3) xi)<|xp (xv 0) (o1<|xo XW XT (xv 1) xi) o0)) (.a ?_)
 ·rintro y R X ⟨ps,p,rfl,v,b⟩;refine⟨rfl,?_⟩;have x:(ps.map prD).length=ps.length:=Wx ..;refine⟨ps,p,rfl,?_⟩;unfold KQ at b;by_cases c:p<1\/(ps.length:Int)<=p
  ·rw[W6 c]at b ⊢;exact b
  ·rw[W3 c]at b ⊢
   have s:atI (ps.map prD) p=some (prD<|Xv ps (p+1)):=by
    have:=Tf (ps:=ps) (p:=p+1) (by lia) (by lia)
    rwa[show p+1-1=p by lia]at this
   refine⟨_,Tf (by lia) (by lia),_,s,_,rfl,_,rfl,Xx (λg=>?_) (λg=>?_)⟩
   ·have h:¬(Xv ps p).1=(Xv ps (p+1)).1:=λz=>by rw[W4 z]at g;cases g
    rw[W6 h]at b;exact⟨by simp,b⟩
   ·have h:(Xv ps p).1=(Xv ps (p+1)).1:=Qn λz=>g (by rw[WH z];rfl);rw[W3 (λz=>z h)]at b;refine⟨_,rfl,_,rfl,Xx (λf=>?_) (λf=>?_)⟩
    ·rw[W6 (W7 f)]at b;exact⟨by decide,by decide,by decide,by decide,by decide,by simp,b⟩
    ·rw[W3 (λz=>f (W4 z))]at b;have l:(cutD (ps.map prD) none<|some (p-1)).length<=1000:=by have:=(Nz (ps.map prD) none<|some (p-1)).length_le;rw[Wx]at this;lia
     have r:(cutD (ps.map prD) (some (p+1)) none).length<=1000:=by have:=(Nz (ps.map prD) (some (p+1)) none).length_le;rw[Wx]at this;lia
     refine⟨KN _,_,rfl,_,rfl,_,rfl,by simp,by simp,rfl,rfl,WC (Q7 l<|W5 1) (by decide),KN _,rfl,rfl,WC (Q7 (by rw[WE];exact Q7 l (W5 1)) r) (by decide),?_⟩;rw[←Zkm (by lia)]at b;exact b
def Zhi(y:Def K mg "with_wish" Ag ["wishes","ahead","behind"])
  : LB ζ:=by
 refine y.fy Zcn (λl n=>(bc (sE<|xg Y1 l ExcR.X3<|a1<|xv 1)<|bc (sE<|xg Y1 l ExcR.X3<|a1<|xv 2)<|bc (sI (tq l (xv 1)<|xv 2) (b1<|sQ G.ZD G.Zo ExcR.Kz<|a1 xs) b0)<|bc (sI (ti l (xt<|a2 (xv 1)<|xv 2)<|xv 0) (b1<|sQ G.ZG G.Zs ExcR.Kz<|a1 xs) b0)<|bc (sI (tc Ss Be (xl G.len<|xv 0)<|xe (ExcR.K6 G.Zu) Xj) (b1<|sQ G.ZA G.Zl ExcR.Kz<|a1<|xe (ExcR.T3<|ExcR.KR<|ExcR.Tt (ExcR.K6 G.Zu)<|ExcR.KR ExcR.T7)<|Te<|Pa<|T9 Xj<|Pa Tq) b0)<|b1<|sF 2<|sF 1<|sR<|xo P8 Pz (xv 0)<|xL<|a1<|xt<|a2 (xv 1)<|xv 2)) (.a ?_)
 ·rintro A R X ⟨h,a,b,rfl,v,f⟩;refine⟨rfl,?_⟩;have x:(h.map prD).length=h.length:=Wx ..;unfold Ko at f;refine⟨a,rfl,?_⟩;unfold NL;by_cases p:1<=a/\a<=10
  ·rw[W3 (λz=>z p)]at f;rw[W6 p];refine⟨b,rfl,?_⟩;unfold NL;by_cases o:1<=b/\b<=10
   ·rw[W3 (λz=>z o)]at f;rw[W6 o];refine Xx (λg=>?_) (λg=>?_)
    ·rw[W6 (W7 g)]at f;exact⟨by simp,f⟩
    ·rw[W3 (λz=>g (W4 z))]at f;refine⟨by simp,_,.lp (a,b) h,Xx (λu=>?_) (λu=>?_)⟩
     ·rw[W6 (W7 u)]at f;exact⟨by simp,f⟩
     ·rw[W3 (λz=>u (W4 z))]at f;refine Xx (λs=>?_) (λs=>?_)
      ·have r:(20:Int)<=((h.map prD).length:Int):=W7 s;rw[W6 (by lia)]at f;exact⟨by decide,by decide,by decide,by decide,by decide,by simp,f⟩
      ·have r:¬(20:Int)<=((h.map prD).length:Int):=λz=>s (W4 z);rw[W3 (by lia)]at f;refine⟨by simp,by simp,KN _,rfl,WC (Q7 (WC (QO x) v)<|W5 1) (by decide),?_⟩;rw[WU]at f;exact f
   ·rw[W6 o]at f;rw[W3 o];exact f
  ·rw[W6 p]at f;rw[W3 p];exact f
def Zii(C:Def K mg "pair_costs" AM ["strips"])
  : Eu ζ:=by
 refine C.fz GD (λp n=>(bc (sS 1 n<|xf Y3 p<|a1<|xv 0)<|bc (se (Pu.pz 2 GD.nd Zcx)<|N8 Zcm<|Km 2)<|bc (sF 1<|sO [3,4] Qb (iL<|xv 1) (gN 3)<|b1<|sF 1<|sO [4] Qb (iL<|xv 1) (gN 4)<|b1<|sF 4<|sF 3<|se (FN (P9<|p ()) (pv 2) (XZ<|bz (pv 3)<|pv 4) (fz YN (p ())<|dz (pv 0) (pv 3)<|pv 4) rfl)<|DC 2 (Kb<|tz (Xg 3)<|Xg 4)<|Tx<|uz (Xg 0) (Xg 3)<|Xg 4)<|b1<|sV 2)) (.a ?_)
 ·rintro E R X ⟨h,rfl,u,v,s⟩;refine⟨rfl,h,rfl,u,v,?_⟩;have B:=BV h;generalize XD h=f at B s ⊢
  refine⟨rfl,Pn (xs:=f) (emb:=D.int) (λi g=>∃b:List (List Key×V),g=[some (.bor<|.lst<|h.map prD),some (.sh<|.lst<|f.map D.int),some (.own<|.dT b),none,none]/\b.length<=i*10/\
   ∀x∈f.take i,∀y∈f,Xu b [.inl x,.inl y]=some (.int<|pcM h x y h.length)) ⟨[],rfl,by simp,by simp⟩ ?_ ?_⟩
  ·rintro i A g ⟨b,rfl,r,o⟩
   refine⟨rfl,Pn (xs:=f) (emb:=D.int) (λj g=>∃b:List (List Key×V),g=[some (.bor<|.lst<|h.map prD),some (.sh<|.lst<|f.map D.int),some (.own<|.dT b),some (.sh (.int f[i])),none]/\b.length<=i*10+j/\
    (∀x∈f.take i,∀y∈f,Xu b [.inl x,.inl y]=some (.int<|pcM h x y h.length))/\∀y∈f.take j,Xu b [.inl f[i],.inl y]=some (.int (pcM h f[i] y h.length))) ⟨b,rfl,by lia,o,by simp⟩ ?_ ?_⟩
   ·rintro j z g ⟨b,rfl,r,o,hw⟩;refine⟨h,_,_,rfl,u,by simp,_,_,rfl,rfl,by lia,_,rfl,WC (Fk _ _ _) (by lia),λx hx y l=>?_,λy l=>?_⟩
    ·rw[BF];by_cases e:([.inl x,.inl y]:List Key)=[.inl f[i],.inl f[j]]
     ·rw[W6 e];simp only[Jh,Sum.inl.injEq,and_true]at e;rw[e.1,e.2]
     ·rw[W3 e];exact o x hx y l
    ·rw[BF];by_cases e:([.inl f[i],.inl y]:List Key)=[.inl f[i],.inl f[j]]
     ·rw[W6 e];simp only[Jh,Sum.inl.injEq,and_true]at e;rw[e.2]
     ·rw[W3 e];rw[WW z,WL,Wz]at l;rcases l with l|l
      ·exact hw y l
      ·subst l;exact absurd rfl e
   ·rintro g ⟨b,rfl,r,o,hw⟩;rw[QB]at hw;refine⟨b,rfl,by lia,λx hx y l=>?_⟩;rw[WW A,WL,Wz]at hx;rcases hx with hx|hx
    ·exact o x hx y l
    ·subst hx;exact hw y l
  ·rintro g ⟨b,rfl,r,o⟩;rw[QB]at o;exact s b o
def Zhq(x:Def K mg "cost_with_last" AK ["members","last","least","pairs"])
  : GU ζ:=by
 refine x.fz Zh9 (λf n=>(bc (sS 4 n<|xf YT f<|a2 (xv 0)<|xv 1)<|b1<|sF 1<|sR<|xo XW XT (xe (Mj (P9<|f ()) (pv 2) (pv 4) (λ_ _=>rfl))<|DN (Xg 2)<|Xg 4)<|xe (Kp (Zgh (K:=K) rfl) (by rfl) G.Yb boot_sum<|az<|cz ["other","pairs","last"] [none,some 3,some 1] (FJ (K:=K)<|pv 4) ⟨(gk 0),Tp,(Mj (P9<|f ()) (pv 1) (XZ<|bz (pv 0)<|pv 2) (λ_ _=>rfl))⟩)<|Oh<|sz<|P7 (SndI.c<|CH<|Xg 4) (Km 0) TU<|DN (Xg 1)<|Kb<|tz (Xg 0)<|Xg 2)) (.a ?_)
 ·rintro z R X ⟨b,l,le,y,c,v,rfl,g,o,r,u⟩;refine⟨rfl,?_⟩;rw[DF];have h:(XG b l).length<=1000:=WC less_sub.length_le g;refine⟨b,l,rfl,g,_,_,MC _,o,rfl,_,rfl,KZ (s:=.sh .non) (xs:=XG b l) (emb:=D.int) (λm=>some (.int<|c m)) (by lia) (λm p=>?_) ?_⟩
  ·exact⟨by simp,_,_,rfl,r m p,rfl,_,rfl,rfl⟩
  ·rw[BR];exact⟨(XG b l).map c,by rw[Qy];rfl,u⟩
def Zjv(y:X1 K (X4 K (Xs ζ) "drop") "drop" "Village.drop" D6 ["self","ahead","behind"])
  : L9 ζ:=by
 refine y.fy Zkf (λg n=>(bc (se (KY<|XU Yy G.Za (hq<|g ()) ExcR.X3<|pv 0)<|N0<|N7 SC (Xg 0) X9)<|bc (sS 3 n<|xg YR g ExcR.X3<|a3 (xe (XU Yx G.Za (hq<|g ()) XY<|pv 0)<|Kj Nq (Xg 0) X9) (xv 1)<|xv 2)<|b1<|sF 2<|sF 1<|sF 3<|se (Xt<|K0 Yz G.Za (hq<|g ()) XY (pv 0)<|dz (XZ<|dz X2 (pv 1)<|pv 2) (XU Yw G.Za (hq<|g ()) XY<|pv 0)<|pv 3)<|Kx<|NO 0 SU<|uz (Kb<|uz Xz (Xg 1)<|Xg 2) (Kj PU (Xg 0) X9)<|Xg 3)) (.c ?_)
 ·rintro o z R X ⟨x,b1,v,u,bk,fs,l,f,w,p,h,rfl,rfl,s,A,hw,r,b⟩;refine⟨rfl,?_⟩;unfold Sf at b;refine⟨rfl,rfl,bk,fs++[f],l++[w],rfl,?_⟩;unfold TM;by_cases c:100<=bk.length
  ·rw[W6 c]at b ⊢;exact⟨_,rfl,⟨rfl,by simp⟩,b⟩
  ·rw[W3 c]at b ⊢;refine⟨rfl,rfl,bk,fs++[f],l,w,rfl,w,p,h,rfl,r,?_⟩;cases e:Kk w p h with
   |some c=>
    rw[e]at b;exact⟨_,rfl,⟨rfl,by simp⟩,b⟩
   |none=>
    rw[e]at b;refine⟨rfl,rfl,by simp,rfl,rfl,bk,fs,l++[w],f,rfl,?_⟩;exact⟨x,b1,v,u,bk,fs++[f],l++[w],("drop",[p,h]),f,N4 w p h,rfl,rfl,s,by rw[WE];simp;lia,by rw[WE];simp;lia,_,rfl,⟨rfl,by simp⟩,b⟩
def Zhf(p:Def K mg "is_row" FG ["word","texts"])
  : Iw ζ:=by
 refine p.fz Zjz (λf n=>(bc (sI (tN<|tt<|xe (Kp (GM (K:=K) rfl) (by rfl) G.ZU boot_all<|az<|cz ["text"] [none] (TY (K:=K)<|pv 1) ⟨(gk 0),Tp,(fz YX (f ())<|az<|pv 0)⟩)<|DX<|sz<|P7 (N5<|Xg 1) (Km 0) TU<|Tx<|sz<|Xg 0) (b1<|sR xb) b0)<|bc (sI (te (Cp<|M3 G.Z8<|pv 0)<|FP<|Eo<|Xg 0) (b1<|sR<|xe (SG (Fz (K:=K)<|show _<cLine from(f ()).units0) (Zk7 G.Z8 (pv 0) (λ_ _=>rfl)) (ln K G.len<|pv 1)<|To _)<|Bl (Zk2<|Xg 0)<|FB<|sz<|Xg 1) b0)<|bc (se Se NV)<|b1<|se Se NV)) (.a ?_)
 ·rintro u R X ⟨w,os,rfl,hw,g,l⟩;refine⟨rfl,?_⟩
  have r:os.length<=2:=by
   simp only[WA,QA,Prod.mk.injEq,or_false]at hw;lia
  refine KZ (xs:=os) (emb:=λn=>D.str (nS n)) (λn=>some (.bl<|K4<|nS n)) (by lia) (λn h=>?_) ?_
  ·have o:=(HC<|g n h).2;exact⟨_,rfl,WC o (by decide),Zbo n,_,rfl,rfl⟩
  have em:os.filterMap (λn=>some (D.bl<|K4<|nS n))=(os.map λn=>K4 (nS n)).map D.bl:=by rw[QN,Qy];rfl
  rw[em];refine⟨_,rfl,?_⟩;rw[Zj6];have f:∀b:Bool,TK os=b->R (.sh<|.bl b):=λb e=>e▸l;generalize TK os=b at f ⊢;cases b with
  |false=>exact KA (f _ rfl)
  |true=>
   refine X7 ?_;have s:((os.map λn=>D.str (nS n)).length:Int)=os.length:=by rw[Wx]
   simp only[WA,QA,Prod.mk.injEq,or_false]at hw;rcases hw with⟨rfl,e⟩|⟨rfl,e⟩|⟨rfl,e⟩|⟨rfl,e⟩|⟨rfl,e⟩
   all_goals
    refine⟨_,rfl,?_⟩;show R (.sh<|.bl<|decide (_=(((os.map λn=>D.str (nS n)).length:Nat):Int)));rw[W4 (by lia)];exact f _ rfl
def RR(h:Def K mg "_law_draw" FF ["_law_script","_law_k"])
  : GX ζ:=by
 refine h.fz OP (λb n=>(bc (sI (tq b (xo XO XQ (xf Y2 b<|a2 (xv 0) xi) xi) xi) (b1<|sR<|xf Y2 b<|a2 (xv 0)<|xo XW XT xi<|xv 1) b0)<|b1<|sR<|xf YY b<|a2 (xf Y2 b<|a2 (xv 0) xi)<|xv 1)) (.a ?_)
 ·rintro o R X ⟨f,k,rfl,l,g⟩;refine⟨rfl,f,0,rfl,by decide,λv=>⟨(by show(0:Int)<2;decide),Xx (λ_=>?_) (λ_=>?_)⟩⟩
  ·exact⟨f,_,rfl,by omega,λv=>g v⟩
  ·exact⟨f,1,rfl,by decide,λu=>⟨_,_,rfl,λv=>g v⟩⟩
def Zij(y:Def K mg "_law_tuples" Ak ["_law_found","_law_due"])
  : Ei ζ:=by
 refine y.fz Zfm (λh n=>(bc (sI (tp<|wo (tN<|tt<|xe (Kp (Tg (K:=K)) (by rfl) G.Zc Q3<|bz (pv 0)<|PK (v:=.ty "list") rfl G.Zg boot_list rfl)<|Tj<|tz (Xg 0) PJ)<|wO<|tn h (xl G.len<|xv 0)<|xl G.len<|xv 1) (b1<|sR xb) b0)<|bc (sO [2,3] Qb (ir G.Zi<|a1<|xl G.len<|xv 1) (gN 2)<|bc (sI (tp<|wo (tN<|tt<|xe (Kp (Tg (K:=K)) (by rfl) G.Zc Q3<|bz (jx K (pv 0)<|pv 2)<|PK (v:=.ty "tuple") rfl G.Z7 boot_tuple rfl)<|Tj<|tz (X6 (Xg 0)<|Xg 2) PJ)<|wO<|tn h (xl G.len<|xx (xv 0)<|xv 2)<|xl G.len<|xx (xv 1)<|xv 2) (b1<|sR xb) b0)<|b1<|sO [3] Qb (ir G.Zi<|a1<|xl G.len<|xx (xv 1)<|xv 2) (gN 3)<|b1<|sI (tp<|wo (tN<|tt<|xf Y0 h<|a1<|xx (xx (xv 0)<|xv 2)<|xv 3)<|wO<|tn h (xx (xx (xv 0)<|xv 2)<|xv 3)<|xx (xx (xv 1)<|xv 2)<|xv 3) (b1<|sR xb) b0)<|b1<|sR xb)) (.a ?_)
 ·rintro C R X ⟨f,rfl,A,x⟩;refine⟨rfl,?_⟩;have B:(f.map prD).length=f.length:=Wx ..;refine⟨_,.same _,X7 (NJ rfl ?_)⟩;refine⟨⟨by lia,by lia⟩,N2 (λi b=>∃t,b=[some (.bor<|.lst<|f.map prD),some (.bor<|.lst<|f.map prD),none,t]) ⟨_,rfl⟩ ?_ ?_⟩
  ·rintro i b s ⟨t,rfl⟩;have r:i<(((f.map prD).length:Nat):Int).toNat:=s;have ez:(0:Int)+(i:Int)=(i:Int):=by lia
   have u:i<f.length:=by lia
   have g:atI (f.map prD) (0+(i:Int))=some (prD f[i]):=by rw[ez];exact GT u
   generalize f[i]=q at g;refine⟨_,g,_,.same _,X7 ⟨_,g,_,g,?_⟩⟩;refine⟨_,g,⟨(by show -(2 ^ 62)<=(2:Int);decide),(by show(2:Int)<2 ^ 62;decide)⟩,N2 (λj b=>∃t,b=[some (.bor<|.lst<|f.map prD),some (.bor<|.lst<|f.map prD),some (.sh<|.int (0+(i:Int))),t]) ⟨_,rfl⟩ ?_ ?_⟩
   ·rintro j b p ⟨t,rfl⟩;have o:j<2:=p
    obtain⟨z,l⟩:∃z:Int,atI [D.int q.1,D.int q.2] (0+(j:Int))=some (.int z):=by
     have:j=0\/j=1:=by lia
     rcases this with rfl|rfl
     ·exact⟨_,rfl⟩
     ·exact⟨_,rfl⟩
    exact⟨_,g,_,l,z,rfl,X7 ⟨_,g,_,l,_,g,_,l,NJ rfl ⟨_,rfl⟩⟩⟩
   ·rintro b ⟨t,rfl⟩;exact⟨_,rfl⟩
  ·rintro b ⟨t,rfl⟩;exact x
def Ry(o:Def K mg "_law_deed_is" Du ["_law_found","_law_due"])
  : IL ζ:=by
 refine o.fz Zec (λg n=>(bc (sI (tp<|wo (tN<|tt<|xe (Kp (Tg (K:=K)) (by rfl) G.Zc Q3<|bz (pv 0)<|PK (v:=.ty "tuple") rfl G.Z7 boot_tuple rfl)<|Tj<|tz (Xg 0) PJ)<|wo (tn g (xl G.len<|xv 0)<|xl G.len<|xv 1)<|wO<|tN<|tt<|xe (Kp (Tg (K:=K)) (by rfl) G.Zc Q3<|bz (jx K (pv 0) Xn)<|PK (v:=.ty "str") rfl G.ZW boot_str rfl)<|Tj<|tz (X6 (Xg 0) Xj) PJ) (b1<|sR xb) b0)<|bc (sI (tn g (xx (xv 0) xi)<|xx (xv 1) xi) (b1<|sR xb) b0)<|bc (sO [2] Qb (iR G.Zi<|a2 xi<|xl G.len<|xv 1) (gN 2)<|b1<|sI (tp<|wo (tN<|tt<|xf Y0 g<|a1<|xx (xv 0)<|xv 2)<|wO<|tn g (xx (xv 0)<|xv 2)<|xx (xv 1)<|xv 2) (b1<|sR xb) b0)<|b1<|sR xb)) (.a ?_)
 ·rintro s R X ⟨q,rfl,p,l⟩;refine⟨rfl,?_⟩;have r:(D.str q.1::q.2.map D.int).length=q.2.length+1:=by rw[Qq,Wx]
  rw[Zgi];show _;rw[WN,An];refine⟨_,.same _,X7 (NJ rfl ⟨_,T1 _ _,_,.same _,X7 ⟨_,T1 _ _,_,T1 _ _,NJ rfl ?_⟩⟩)⟩;refine⟨⟨by lia,by lia⟩,N2 (λi b=>b=[some (.sh<|dD q),some (.sh<|dD q),none]) rfl ?_ ?_⟩
  ·rintro i b h rfl
   have f:i<q.2.length:=by
    have:i<((((D.str q.1::q.2.map D.int).length:Nat):Int)-1).toNat:=h
    lia
   exact⟨_,Cb f,_,rfl,X7 ⟨_,Cb f,_,Cb f,NJ rfl rfl⟩⟩
  ·rintro b rfl;exact l
def Zab(DD:Def K mg "find_ring" Do ["holders","wishes"])
  : En ζ:=by
 refine DD.fz Za3 (λQ n=>(bc (sS 2 n<|xL a0)<|bc (sF 2<|sO [3,4] Qb (iL<|xe (Kp (Io (K:=K) (w:=w) rfl) (by rfl) G.Z1 boot_sorted<|az<|pv 0)<|Lf<|sz<|Xg 0) (gN 3)<|bc (sS 4 n<|xf Wd Q<|a3 (xv 3) (xv 0)<|xv 1)<|b1<|sI (tp<|wa (tt<|xv 4)<|wA<|tp<|wo (tN<|tt<|xv 2)<|wO<|tc PR PP (xl G.len<|xv 4)<|xl G.len<|xv 2) (b1<|sF 4<|sS 2 n<|xv 4) b0)<|b1<|sF 2<|sV 2)) (.a ?_)
 ·rintro ds R X ⟨A,C,rfl,v,N,Y⟩;refine⟨rfl,by simp,A,rfl,by lia,λs J u=>?_⟩;have E:s.Pairwise (· < ·):=Az u (J.nodup_iff.mpr v);refine⟨rfl,Pn (xs:=s) (emb:=D.int) (λi p=>∃r,p=[some (.bor<|.lst<|A.map D.int),some (.bor<|.lst<|C.map prD),some (.sh<|.lst<|r.map D.int),none,none]/\r.length<=60/\FRi A C (s.take i) r) ⟨[],rfl,by simp,.inl ⟨rfl,λl L=>by rw[VA]at L;cases L⟩⟩ ?_ ?_⟩
  ·rintro i M p ⟨r,rfl,h,F⟩
   have b:∀m∈s.take i,m<s[i]:=λm T=>by
    obtain⟨j,U,e⟩:=Qt.mp T;rw[Qp]at U;rw[Vh]at e;rw[←e];exact Qv.mp E j i (by lia) M (by lia)
   rw[WW M];generalize s[i]=l at b ⊢;refine⟨l,A,C,rfl,v,N,λf B x=>?_⟩;have ef:(!(f.map D.int).isEmpty)=decide (f≠[]):=by cases f<;>simp
   have er:(!(r.map D.int).isEmpty)=decide (r≠[]):=by cases r<;>simp
   show if (!(f.map D.int).isEmpty)=true then _ else _;rw[ef];refine Xx (λg=>?_) (λg=>X7 ⟨r,rfl,h,F.keep b B (.inl (Qn λz=>g (W4 z)))⟩);have y:f≠[]:=W7 g;show if (!(!(r.map D.int).isEmpty))=true then _ else _;rw[er];by_cases o:r=[]
   ·rw[WH (λz=>z o)];exact KA (KA ⟨f,rfl,x,F.take b B ⟨y,.inl o⟩⟩)
   ·rw[W4 o];refine X7 ?_;show if decide (((f.map D.int).length:Int)<((r.map D.int).length:Int))=true then _ else _;rw[Wx,Wx];refine Xx (λH=>?_) (λH=>?_)
    ·have:=W7 H
     exact⟨f,rfl,x,F.take b B ⟨y,.inr (by lia)⟩⟩
    ·have:¬(f.length:Int)<(r.length:Int):=λz=>H (W4 z)
     exact⟨r,rfl,h,F.keep b B (.inr ⟨o,by lia⟩)⟩
  ·rintro p ⟨r,rfl,h,F⟩;rw[QB]at F;exact Y r (F.all λz=>J.mem_iff) h
def Zae(DD:Def K mg "least_costs" D7 ["strips","wishes","pairs"])
  : HN ζ:=by
 refine DD.fz EN (λL n=>(bc (se (Pu.pz 3 EN.nd<|Rc (P9<|L ()) (XZ KF) Xn)<|N8 (Zgf (Kb X9) Xj)<|Km 3)<|bc (sO [4,5] Qb (iL<|xp (xf YS L<|a1<|xf Y3 L<|a1<|xv 0) (o1 xi) o0) (gN 4)<|bc (sC 5 ["holder","members","wishes"] [none,some 4,some 1] n (je (FJ (K:=K)<|pv 4)<|SndI.c<|CH<|Xg 4) (gN 0) (f1<|tt<|xf YU L<|a3 (xv 1) (xv 0)<|xv 2)<|xv 0)<|b1<|se (FN (P9<|L ()) (pv 3) (pv 4) (Kp (R3 (K:=K) rfl) (by rfl) G.ZZ boot_min<|az<|cz ["last","members","least","pairs"] [none,some 4,some 3,some 2] (TY (K:=K)<|pv 5) ⟨(gk 0),Tp,(fz Wi (L ())<|XF (pv 1)<|XF (pv 0)<|XF (pv 2)<|XF (pv 3) KF)⟩) rfl)<|DC 3 (Xg 4)<|Zki<|sz<|P7 (N5<|Xg 5) (Km 0) TU<|Tx<|Kl (Xg 1)<|Kl (Xg 0)<|Kl (Xg 2)<|Kl (Xg 3) X9)<|b1<|sV 3)) (.a ?_)
 ·rintro ds R X ⟨B,u,pa,c,rfl,hF,hz,hw,hu,hc,hL,hR⟩;refine⟨rfl,by simp,_,_,rfl,rfl,?_⟩;refine⟨B,rfl,hF,hz,_,rfl,BV B,?_⟩;have hh:=BV B;have nd:(XD B).Nodup:=(Fx B).imp (λh=>Int.ne_of_lt h);generalize XD B=hs at hh nd hc hL hR ⊢;have hsl:=GV hs;have v:=BI hs;have y:=Zk1 nd;have C:=HH nd
  have x:(X5 hs).length<=1024:=by
   rw[hsl];exact Nat.pow_le_pow_right (j:=10) (by decide) hh
  obtain⟨T,eT⟩:=Zfw hs;rw[eT]at v y C x hR ⊢;refine⟨rfl,rfl,?_⟩
  have ec:Pu.cutD (List.map tD ([]::T)) (some 1) none=T.map tD:=by
   rw[T4,Ba _ (by decide)];rfl
  rw[ec];refine Pn (xs:=T) (emb:=tD) (λi A=>∃b:List (List Key×V),A=[some (.bor<|.lst<|B.map prD),some (.bor<|.lst<|u.map prD),some (.bor<|.dT pa),some (.own<|.dT b),none,none]/\Tab u c ([]::T.take i) b) ⟨_,rfl,RL u c⟩ ?_ ?_
  ·rintro i hi A ⟨b,rfl,J⟩;have em:([]::T)[i+1]?=some T[i]:=by rw[VF,Wy hi]
   have Y:T[i]∈[]::T:=WT em;have o:=v _ Y;have U:T[i]≠[]:=λe=>(Qo.mp C).1 (e▸WY hi)
   have Q:T[i]∉[]::T.take i:=λz=>by
    rcases WA.mp z with z|z
    ·exact U z
    ·obtain⟨j,hj,e⟩:=Qt.mp z;rw[Qp]at hj;rw[Vh]at e;exact Qv.mp (Qo.mp C).2 j i (by lia) hi (by lia) e
   have hml:T[i].length<=10:=WC o.length_le hh
   have E:∀l∈T[i],XG T[i] l∈[]::T.take i:=λl p=>by
    obtain⟨j,hj,e⟩:=y (i+1) _ em l p
    have:([]::T.take i)=([]::T).take (i+1):=by rw[List.take_succ_cons]
    rw[this];refine WT (i:=j) ?_;rw[QE hj];exact e
   have ndm:T[i].Nodup:=nd.sublist o
   have hkl:b.length<=1024:=by
    have:=Qf List.length J.keys
    rw[Wx,Wx,Qq,Qp]at this;rw[Qq]at x;lia
   have etk:[]::T.take (i+1)=([]::T.take i)++[T[i]]:=by rw[WW hi];rfl
   rw[etk];generalize T[i]=f at *;obtain⟨vs,N⟩:=Zem λl p=>J.val _ (E l p);obtain⟨l0,hl0,hl0'⟩:=hL f o U;refine⟨_,rfl,KZ (s:=.sh .non) (xs:=f) (emb:=D.int) (λh=>if PY u f h=true then some (.int h)else none) (by lia) (λh hm=>?_) ?_⟩
   ·refine⟨f,h,u,rfl,hw,?_⟩;refine Xx (λg=>⟨_,rfl,W6 g⟩) (λg=>W3 g)
   ·rw[TZ (λh=>PY u f h)];refine KZ (xs:=f.filter (λh=>PY u f h)) (emb:=D.int) (λl=>some (.int (vs l+((XG f l).map (c · l)).sum))) (WC (QV _ _)<|by lia) (λl p=>?_) ?_
    ·obtain⟨r,hl2⟩:=Q1.mp p;exact⟨f,l,b,pa,(c · l),vs l,rfl,by lia,(N l r).1,λm hm=>hc m (o.subset<|less_sub.subset hm) l (o.subset r),_,rfl,rfl⟩
    ·rw[BR];refine⟨(f.filter (λh=>PY u f h)).map λl=>vs l+((XG f l).map (c · l)).sum,by rw[Qy];rfl,?_,λM hM hle=>⟨_,_,MC f,rfl,by lia,_,rfl,J.put Q (Zga ndm hu (λl p=>(N l p).2) ?_ ?_)⟩⟩
     ·rw[Wx];exact List.length_pos_of_mem (Q1.mpr ⟨hl0,lastM_iff.mpr hl0'⟩)
     ·obtain⟨l,p,e⟩:=WQ.mp hM;obtain⟨r,hl2⟩:=Q1.mp p;exact⟨l,r,hl2,e.symm⟩
     ·intro l p H;exact hle _ (WQ.mpr ⟨l,Q1.mpr ⟨p,H⟩,rfl⟩)
  ·rintro A ⟨b,rfl,J⟩;rw[QB]at J;exact hR b J
def Zhb(r:X1 K (Mk K<|Xs ζ) "__init__" "Village.__init__" AY ["self","strips"])
  : IY ζ:=by
 refine r.fy Zia (λh n=>(bc (sE<|xg Wc h ExcR.X3<|a1<|xv 1)<|bc (se (Cf (pv 0) (Ta KF) rfl)<|FO 0 G.Za G.Zb Zge<|Tu X9)<|bc (se (Cf (pv 0) (Ta<|az<|Pj (TQ (K:=K)) (by rfl) G.Zg boot_list<|az<|pv 1) rfl)<|FO 0 G.Za G.Zd Ze4<|Tu<|sz<|Nf<|sz<|Xg 1)<|b1<|se (Cf (pv 0) (Ta<|az<|Ta KF) rfl)<|FO 0 G.Za G.Ze Zkb<|Tu<|sz<|Tu X9)) (.c ?_)
 ·rintro o s R X ⟨x,f,rfl,rfl,g,b⟩;refine⟨rfl,f,rfl,g,?_⟩;cases e:NY f with
  |some c=>
   rw[e]at b;exact⟨_,rfl,⟨rfl,by simp⟩,b⟩
  |none=>
   rw[e]at b;refine⟨by simp,rfl,rfl,by decide,λb1=>?_⟩;refine⟨rfl,by simp,rfl,rfl,by decide,λp=>?_⟩;refine⟨by simp,by simp,rfl,rfl,by decide,λl=>?_⟩;exact⟨_,rfl,⟨rfl,by simp⟩,b b1 p l⟩
def RB(y:X1 K (X4 K (Xs ζ) "sell") "sell" "Village.sell" AQ ["self","place","holder"])
  : Eg ζ:=by
 refine y.fy Zdo (λg n=>(bc (se (KY<|XU Yy G.Za (hq<|g ()) ExcR.X3<|pv 0)<|N0<|N7 SC (Xg 0) X9)<|bc (sS 3 n<|xg YA g ExcR.X3<|a3 (xe (XU Yw G.Za (hq<|g ()) XY<|pv 0)<|Kj PU (Xg 0) X9) (xv 1)<|xv 2)<|b1<|sF 2<|sF 1<|sF 3<|se (Xt<|K0 Yz G.Za (hq<|g ()) XY (pv 0)<|dz (XZ<|dz X2 (pv 1)<|pv 2) (pv 3)<|XU Yx G.Za (hq<|g ()) XY<|pv 0)<|Kx<|NO 0 SU<|uz (Kb<|uz Xz (Xg 1)<|Xg 2) (Xg 3)<|Kj Nq (Xg 0) X9)) (.c ?_)
 ·rintro o z R X ⟨x,b1,v,u,bk,fs,l,f,w,p,h,rfl,rfl,s,A,hw,r,b⟩;refine⟨rfl,?_⟩;unfold N9 at b;refine⟨rfl,rfl,bk,fs++[f],l++[w],rfl,?_⟩;unfold TM;by_cases c:100<=bk.length
  ·rw[W6 c]at b ⊢;exact⟨_,rfl,⟨rfl,by simp⟩,b⟩
  ·rw[W3 c]at b ⊢;refine⟨rfl,rfl,bk,fs,l++[w],f,rfl,f,p,h,rfl,r,?_⟩;cases e:Kh f p h with
   |some c=>
    rw[e]at b;exact⟨_,rfl,⟨rfl,by simp⟩,b⟩
   |none=>
    rw[e]at b;refine⟨rfl,rfl,by simp,rfl,rfl,bk,fs++[f],l,w,rfl,?_⟩;exact⟨x,b1,v,u,bk,fs++[f],l++[w],("sell",[p,h]),P1 f p h,w,rfl,rfl,s,by rw[WE];simp;lia,by rw[WE];simp;lia,_,rfl,⟨rfl,by simp⟩,b⟩
def Zdx(y:X1 K (X4 K (Xs ζ) "part") "part" "Village.part" FV ["self","place","width"])
  : ID ζ:=by
 refine y.fy Zb9 (λg n=>(bc (se (KY<|XU Yy G.Za (hq<|g ()) ExcR.X3<|pv 0)<|N0<|N7 SC (Xg 0) X9)<|bc (sS 3 n<|xg We g ExcR.X3<|a3 (xe (XU Yw G.Za (hq<|g ()) XY<|pv 0)<|Kj PU (Xg 0) X9) (xv 1)<|xv 2)<|b1<|sF 2<|sF 1<|sF 3<|se (Xt<|K0 Yz G.Za (hq<|g ()) XY (pv 0)<|dz (XZ<|dz X2 (pv 1)<|pv 2) (pv 3)<|XU Yx G.Za (hq<|g ()) XY<|pv 0)<|Kx<|NO 0 SU<|uz (Kb<|uz Xz (Xg 1)<|Xg 2) (Xg 3)<|Kj Nq (Xg 0) X9)) (.c ?_)
 ·rintro o z R X ⟨x,b1,v,u,bk,fs,l,f,w,p,h,rfl,rfl,s,A,hw,r,b⟩;refine⟨rfl,?_⟩;unfold NW at b;refine⟨rfl,rfl,bk,fs++[f],l++[w],rfl,?_⟩;unfold TM;by_cases c:100<=bk.length
  ·rw[W6 c]at b ⊢;exact⟨_,rfl,⟨rfl,by simp⟩,b⟩
  ·rw[W3 c]at b ⊢;refine⟨rfl,rfl,bk,fs,l++[w],f,rfl,f,p,h,rfl,r,?_⟩;cases e:Ph f p h with
   |some c=>
    rw[e]at b;exact⟨_,rfl,⟨rfl,by simp⟩,b⟩
   |none=>
    rw[e]at b;refine⟨rfl,rfl,by simp,rfl,rfl,bk,fs++[f],l,w,rfl,?_⟩;exact⟨x,b1,v,u,bk,fs++[f],l++[w],("part",[p,h]),NU f p h,w,rfl,rfl,s,by rw[WE];simp;lia,by rw[WE];simp;lia,_,rfl,⟨rfl,by simp⟩,b⟩
def R9(v:X1 K (X4 K (Xs ζ) "unite") "unite" "Village.unite" Cn ["self","place"])
  : Ic ζ:=by
 refine v.fy Zj0 (λg n=>(bc (se (KY<|XU Yy G.Za (hq<|g ()) ExcR.X3<|pv 0)<|N0<|N7 SC (Xg 0) X9)<|bc (sS 2 n<|xg Wf g ExcR.X3<|a2 (xe (XU Yw G.Za (hq<|g ()) XY<|pv 0)<|Kj PU (Xg 0) X9)<|xv 1)<|b1<|sF 1<|sF 2<|se (Xt<|K0 Yz G.Za (hq<|g ()) XY (pv 0)<|dz (XZ<|bz X2<|pv 1) (pv 2)<|XU Yx G.Za (hq<|g ()) XY<|pv 0)<|Kx<|NO 0 SU<|uz (Kb<|tz Xz<|Xg 1) (Xg 2)<|Kj Nq (Xg 0) X9)) (.c ?_)
 ·rintro o y R X ⟨x,b1,u,s,bk,fs,h,f,w,p,rfl,rfl,r,z,hw,l,b⟩;refine⟨rfl,?_⟩;unfold NS at b;refine⟨rfl,rfl,bk,fs++[f],h++[w],rfl,?_⟩;unfold TM;by_cases c:100<=bk.length
  ·rw[W6 c]at b ⊢;exact⟨_,rfl,⟨rfl,by simp⟩,b⟩
  ·rw[W3 c]at b ⊢;refine⟨rfl,rfl,bk,fs,h++[w],f,rfl,f,p,rfl,l,?_⟩;cases e:KQ f p with
   |some c=>
    rw[e]at b;exact⟨_,rfl,⟨rfl,by simp⟩,b⟩
   |none=>
    rw[e]at b;refine⟨rfl,rfl,by simp,rfl,rfl,bk,fs++[f],h,w,rfl,?_⟩;exact⟨x,b1,u,s,bk,fs++[f],h++[w],("unite",[p]),NT f p,w,rfl,rfl,r,by rw[WE];simp;lia,by rw[WE];simp;lia,_,rfl,⟨rfl,by simp⟩,b⟩
def Zef(y:X1 K (X4 K (Xs ζ) "wish") "wish" "Village.wish" D3 ["self","ahead","behind"])
  : M1 ζ:=by
 refine y.fy RX (λg n=>(bc (se (KY<|XU Yy G.Za (hq<|g ()) ExcR.X3<|pv 0)<|N0<|N7 SC (Xg 0) X9)<|bc (sS 3 n<|xg Wg g ExcR.X3<|a3 (xe (XU Yx G.Za (hq<|g ()) XY<|pv 0)<|Kj Nq (Xg 0) X9) (xv 1)<|xv 2)<|b1<|sF 2<|sF 1<|sF 3<|se (Xt<|K0 Yz G.Za (hq<|g ()) XY (pv 0)<|dz (XZ<|dz X2 (pv 1)<|pv 2) (XU Yw G.Za (hq<|g ()) XY<|pv 0)<|pv 3)<|Kx<|NO 0 SU<|uz (Kb<|uz Xz (Xg 1)<|Xg 2) (Kj PU (Xg 0) X9)<|Xg 3)) (.c ?_)
 ·rintro o z R X ⟨x,b1,v,u,bk,fs,l,f,w,p,h,rfl,rfl,s,A,hw,r,b⟩;refine⟨rfl,?_⟩;unfold N1 at b;refine⟨rfl,rfl,bk,fs++[f],l++[w],rfl,?_⟩;unfold TM;by_cases c:100<=bk.length
  ·rw[W6 c]at b ⊢;exact⟨_,rfl,⟨rfl,by simp⟩,b⟩
  ·rw[W3 c]at b ⊢;refine⟨rfl,rfl,bk,fs++[f],l,w,rfl,w,p,h,rfl,r,?_⟩;cases e:Ko w p h with
   |some c=>
    rw[e]at b;exact⟨_,rfl,⟨rfl,by simp⟩,b⟩
   |none=>
    rw[e]at b;refine⟨rfl,rfl,by simp,rfl,rfl,bk,fs,l++[w],f,rfl,?_⟩;exact⟨x,b1,v,u,bk,fs++[f],l++[w],("wish",[p,h]),f,w++[(p,h)],rfl,rfl,s,by rw[WE];simp;lia,by rw[WE];simp;lia,_,rfl,⟨rfl,by simp⟩,b⟩
def OF(E:Def K mg "_law_strips" Ay ["_law_script","_law_menu_here","_law_many"])
  : Hf ζ:=by
 refine E.fz Zbv (λs n=>(bc (sS 3 n<|xL a0)<|bc (sO [4,5,6] Qb (ir G.Zi<|a1<|xv 2) (gN 4)<|bc (sS 5 n<|xf Y4 s<|a2 (xv 0)<|xo XW XT xi<|xv 4)<|bc (sS 6 n<|xo XW XT (xx (xv 1) xi)<|xo XO XQ (xo PX PV (xv 5)<|xx (xv 1) xi)<|xx (xv 1) xi)<|b1<|sF 6<|sA 3<|xt<|a2 (xf Wa s<|a2 (xv 1)<|xo XO XQ (xv 5)<|xx (xv 1) xi)<|xv 6)<|b1<|sV 3)) (.a ?_)
 ·rintro ds R X ⟨r,m,n,rfl,u,Y,U,C⟩;refine⟨rfl,?_⟩;have o:=u;obtain⟨a,b,c,d,e,rfl,T,Q,N,M,L⟩:=u;refine⟨by simp,⟨by omega,by omega⟩,N2 (λi g=>∃f:Yh,g=[some (.bor<|.scr r),some (.bor<|.lst (([a,b,c,d,e]:Yi).map D.int)),some (.sh<|.int n),some (.own<|f.map prD),none,none,none]/\Field f/\f.length=i) ⟨[],rfl,(λq hq=>by cases hq),rfl⟩ ?_ ?_⟩
  ·rintro i g B ⟨f,rfl,p,l⟩;have z:(f.map prD).length=f.length:=Wx ..;have A:i<n.toNat:=B;refine⟨r,_,rfl,by omega,λv=>?_⟩;have J:=Int.emod_nonneg (v / a) (show d≠0 by omega);have H:=Int.emod_lt_of_pos (v / a) (show 0<d by omega);refine⟨_,rfl,_,rfl,⟨by omega,by omega⟩,_,rfl,(by show 0<d;omega),_,rfl,(by show 0<a;omega),[a,b,c,d,e],_,rfl,o,λh y x _=>⟨by simp,by omega,f++[(h,e+v / a % d)],?_,λq hq=>?_,by rw[WE,l];rfl⟩⟩
   ·rw[WU];rfl
   ·rcases WL.mp hq with hq|hq
    ·exact p q hq
    ·rw[Wz]at hq;subst hq;exact⟨y,x,by show 1<=e+v / a % d;omega,by show e+v / a % d<=1000;omega⟩
  ·rintro g ⟨f,rfl,p,l⟩;exact C f p l
def Zhc(r:Def K mg "_law_book_is" Dz ["_law_found","_law_due"])
  : Ej ζ:=by
 refine r.fz Zhx (λf n=>(bc (sI (tp<|wo (tN<|tt<|xe (Kp (Tg (K:=K)) (by rfl) G.Zc Q3<|bz (pv 0)<|PK (v:=.ty "list") rfl G.Zg boot_list rfl)<|Tj<|tz (Xg 0) PJ)<|wO<|tn f (xl G.len<|xv 0)<|xl G.len<|xv 1) (b1<|sR xb) b0)<|bc (sO [2] Qb (ir G.Zi<|a1<|xl G.len<|xv 1) (gN 2)<|b1<|sI (tN<|tt<|xf YC f<|a2 (xx (xv 0)<|xv 2)<|xx (xv 1)<|xv 2) (b1<|sR xb) b0)<|b1<|sR xb)) (.a ?_)
 ·rintro x R X ⟨bk,rfl,hq,s,p⟩;refine⟨rfl,?_⟩;have u:(bk.map dD).length=bk.length:=Wx ..;refine⟨_,.same _,X7 (NJ rfl ?_)⟩;refine⟨⟨by lia,by lia⟩,N2 (λi b=>b=[some (.bor<|.lst<|bk.map dD),some (.bor<|.lst<|bk.map dD),none]) rfl ?_ ?_⟩
  ·rintro i b o rfl;have l:i<(((bk.map dD).length:Nat):Int).toNat:=o;have ez:(0:Int)+(i:Int)=(i:Int):=by lia
   have g:i<bk.length:=by lia
   have h:atI (bk.map dD) (0+(i:Int))=some (dD bk[i]):=by rw[ez];exact GT g
   refine⟨_,h,_,h,bk[i],?_,hq _ (WY g),X7 rfl⟩;show[(arg (dD bk[i])).d,(arg (dD bk[i])).d]=_;rw[An];rfl
  ·rintro b rfl;exact p
def OX(y:Def K mg "check_no_ring" AF ["strips","wishes"])
  : Hz ζ:=by
 refine y.fy Of (λb n=>(bc (sS 2 n<|xf Wk b<|a2 (xf Y3 b<|a1<|xv 0)<|xv 1)<|b1<|sI (tt<|xv 2) (b1<|sF 2<|se (ExcR.OI YL (hq<|b ()) G.Z6 ExcR.Zci rfl rfl<|az<|pv 2)<|OC<|sz<|Xg 2) b0)) (.a ?_)
 ·rintro B R X ⟨f,l,rfl,x,o,p,s,u⟩;refine⟨rfl,f,rfl,x,o,_,l,rfl,(Fx f).imp (λh=>Int.ne_of_lt h),WC (BV f) (by decide),λr b z=>?_⟩;by_cases e:r=[]
  ·have v:=(b.none_iff p).mp e;subst e;exact X7 (A:=False) (u v)
  ·have hx:=s r b e;refine Xx (λ_=>⟨r,rfl,hx⟩) (λg=>absurd g ?_);cases r with
   |nil=>exact absurd rfl e
   |cons a t=>simp
def RW(A:Def K mg "do_deed" Ax ["village","word","numbers"])
  : Gb ζ:=by
 refine A.fy ME (λs n=>(bc (sI (tq s (xv 1) xs) (b1<|se (Xt<|K0 YD G.Za (hq<|s ()) ExcR.X3 (pv 0)<|bz (jx K (pv 2) Xn)<|jx K (pv 2) Xn)<|Kx<|P3 0 Iy<|tz (X6 (Xg 2) Xj)<|X6 (Xg 2) Xj) b0)<|bc (sI (tq s (xv 1) xs) (b1<|se (Xt<|K0 YE G.Za (hq<|s ()) ExcR.X3 (pv 0)<|bz (jx K (pv 2) Xn)<|jx K (pv 2) Xn)<|Kx<|P3 0 Ii<|tz (X6 (Xg 2) Xj)<|X6 (Xg 2) Xj) b0)<|bc (sI (tq s (xv 1) xs) (b1<|se (Xt<|K0 YF G.Za (hq<|s ()) ExcR.X3 (pv 0)<|az<|jx K (pv 2) Xn)<|Kx<|P3 0 Mx<|sz<|X6 (Xg 2) Xj) b0)<|bc (sI (tq s (xv 1) xs) (b1<|se (Xt<|K0 YG G.Za (hq<|s ()) ExcR.X3 (pv 0)<|bz (jx K (pv 2) Xn)<|jx K (pv 2) Xn)<|Kx<|P3 0 GC<|tz (X6 (Xg 2) Xj)<|X6 (Xg 2) Xj) b0)<|b1<|se (Xt<|K0 YB G.Za (hq<|s ()) ExcR.X3 (pv 0)<|bz (jx K (pv 2) Xn)<|jx K (pv 2) Xn)<|Kx<|P3 0 Mp<|tz (X6 (Xg 2) Xj)<|X6 (Xg 2) Xj)) (.c ?_)
 ·rintro o B R X ⟨x,b1,r,l,bk,fs,g,f,w,d,rfl,rfl,v,u,hw,y,z,b⟩;refine⟨rfl,?_⟩;cases d with
  |sell p h=>
   refine⟨rfl,rfl,_,rfl,_,rfl,x,b1,r,l,bk,fs,g,f,w,p,h,rfl,rfl,v,u,hw,y,?_⟩;have b:XC (N9 bk f p h) (X<|vO (ExcR.Xi mg "Village") x b1 r l bk (fs++[f]) (g++[w])) (R (vO (ExcR.Xi mg "Village") x b1 r l (bk++[(Dd.sell p h).q]) (fs++[f]++[(Dd.sell p h).fld f]) (g++[w]++[(Dd.sell p h).wsh w]))<|.int (bk.length+1)):=b;cases e:N9 bk f p h with
   |some c=>rw[e]at b;exact⟨_,rfl,⟨rfl,by simp⟩,b⟩
   |none=>rw[e]at b;exact⟨_,rfl,⟨rfl,by simp⟩,b⟩
  |part p h=>
   refine⟨rfl,rfl,_,rfl,_,rfl,x,b1,r,l,bk,fs,g,f,w,p,h,rfl,rfl,v,u,hw,y,?_⟩;have b:XC (NW bk f p h) (X<|vO (ExcR.Xi mg "Village") x b1 r l bk (fs++[f]) (g++[w])) (R (vO (ExcR.Xi mg "Village") x b1 r l (bk++[(Dd.part p h).q]) (fs++[f]++[(Dd.part p h).fld f]) (g++[w]++[(Dd.part p h).wsh w]))<|.int (bk.length+1)):=b;cases e:NW bk f p h with
   |some c=>rw[e]at b;exact⟨_,rfl,⟨rfl,by simp⟩,b⟩
   |none=>rw[e]at b;exact⟨_,rfl,⟨rfl,by simp⟩,b⟩
  |unite p=>
   refine⟨rfl,rfl,_,rfl,x,b1,r,l,bk,fs,g,f,w,p,rfl,rfl,v,u,hw,y,?_⟩;have b:XC (NS bk f p) (X<|vO (ExcR.Xi mg "Village") x b1 r l bk (fs++[f]) (g++[w])) (R (vO (ExcR.Xi mg "Village") x b1 r l (bk++[(Dd.unite p).q]) (fs++[f]++[(Dd.unite p).fld f]) (g++[w]++[(Dd.unite p).wsh w]))<|.int (bk.length+1)):=b;cases e:NS bk f p with
   |some c=>rw[e]at b;exact⟨_,rfl,⟨rfl,by simp⟩,b⟩
   |none=>rw[e]at b;exact⟨_,rfl,⟨rfl,by simp⟩,b⟩
  |wish p h=>
   refine⟨rfl,rfl,_,rfl,_,rfl,x,b1,r,l,bk,fs,g,f,w,p,h,rfl,rfl,v,u,hw,z,?_⟩;have b:XC (N1 bk w p h) (X<|vO (ExcR.Xi mg "Village") x b1 r l bk (fs++[f]) (g++[w])) (R (vO (ExcR.Xi mg "Village") x b1 r l (bk++[(Dd.wish p h).q]) (fs++[f]++[(Dd.wish p h).fld f]) (g++[w]++[(Dd.wish p h).wsh w]))<|.int (bk.length+1)):=b;cases e:N1 bk w p h with
   |some c=>rw[e]at b;exact⟨_,rfl,⟨rfl,by simp⟩,b⟩
   |none=>rw[e]at b;exact⟨_,rfl,⟨rfl,by simp⟩,b⟩
  |drop p h=>
   refine⟨rfl,rfl,_,rfl,_,rfl,x,b1,r,l,bk,fs,g,f,w,p,h,rfl,rfl,v,u,hw,z,?_⟩;have b:XC (Sf bk w p h) (X<|vO (ExcR.Xi mg "Village") x b1 r l bk (fs++[f]) (g++[w])) (R (vO (ExcR.Xi mg "Village") x b1 r l (bk++[(Dd.drop p h).q]) (fs++[f]++[(Dd.drop p h).fld f]) (g++[w]++[(Dd.drop p h).wsh w]))<|.int (bk.length+1)):=b;cases e:Sf bk w p h with
   |some c=>rw[e]at b;exact⟨_,rfl,⟨rfl,by simp⟩,b⟩
   |none=>rw[e]at b;exact⟨_,rfl,⟨rfl,by simp⟩,b⟩
def Zhd(A:Def K mg "_law_call" CM ["_law_village","_law_deed"])
  : GR ζ:=by
 refine A.fy Zcf (λs n=>(bc (sI (tq s (xx (xv 1) xi) xs) (b1<|se (Xt<|K0 YD G.Za (hq<|s ()) ExcR.X3 (pv 0)<|bz (jx K (pv 1) Xn)<|jx K (pv 1) Xn)<|Kx<|P3 0 Iy<|tz (X6 (Xg 1) Xj)<|X6 (Xg 1) Xj) b0)<|bc (sI (tq s (xx (xv 1) xi) xs) (b1<|se (Xt<|K0 YE G.Za (hq<|s ()) ExcR.X3 (pv 0)<|bz (jx K (pv 1) Xn)<|jx K (pv 1) Xn)<|Kx<|P3 0 Ii<|tz (X6 (Xg 1) Xj)<|X6 (Xg 1) Xj) b0)<|bc (sI (tq s (xx (xv 1) xi) xs) (b1<|se (Xt<|K0 YF G.Za (hq<|s ()) ExcR.X3 (pv 0)<|az<|jx K (pv 1) Xn)<|Kx<|P3 0 Mx<|sz<|X6 (Xg 1) Xj) b0)<|bc (sI (tq s (xx (xv 1) xi) xs) (b1<|se (Xt<|K0 YG G.Za (hq<|s ()) ExcR.X3 (pv 0)<|bz (jx K (pv 1) Xn)<|jx K (pv 1) Xn)<|Kx<|P3 0 GC<|tz (X6 (Xg 1) Xj)<|X6 (Xg 1) Xj) b0)<|b1<|se (Xt<|K0 YB G.Za (hq<|s ()) ExcR.X3 (pv 0)<|bz (jx K (pv 1) Xn)<|jx K (pv 1) Xn)<|Kx<|P3 0 Mp<|tz (X6 (Xg 1) Xj)<|X6 (Xg 1) Xj)) (.c ?_)
 ·rintro o B R X ⟨x,b1,r,l,bk,fs,g,f,w,d,rfl,rfl,v,u,hw,y,z,b⟩;refine⟨rfl,?_⟩;cases d with
  |sell p h=>
   refine⟨_,rfl,?_⟩;refine⟨rfl,rfl,_,rfl,_,rfl,x,b1,r,l,bk,fs,g,f,w,p,h,rfl,rfl,v,u,hw,y,?_⟩;have b:XC (N9 bk f p h) (X<|vO (ExcR.Xi mg "Village") x b1 r l bk (fs++[f]) (g++[w])) (R (vO (ExcR.Xi mg "Village") x b1 r l (bk++[(Dd.sell p h).q]) (fs++[f]++[(Dd.sell p h).fld f]) (g++[w]++[(Dd.sell p h).wsh w]))<|.int (bk.length+1)):=b;cases e:N9 bk f p h with
   |some c=>rw[e]at b;exact⟨_,rfl,⟨rfl,by simp⟩,b⟩
   |none=>rw[e]at b;exact⟨_,rfl,⟨rfl,by simp⟩,b⟩
  |part p h=>
   refine⟨_,rfl,_,rfl,?_⟩;refine⟨rfl,rfl,_,rfl,_,rfl,x,b1,r,l,bk,fs,g,f,w,p,h,rfl,rfl,v,u,hw,y,?_⟩;have b:XC (NW bk f p h) (X<|vO (ExcR.Xi mg "Village") x b1 r l bk (fs++[f]) (g++[w])) (R (vO (ExcR.Xi mg "Village") x b1 r l (bk++[(Dd.part p h).q]) (fs++[f]++[(Dd.part p h).fld f]) (g++[w]++[(Dd.part p h).wsh w]))<|.int (bk.length+1)):=b;cases e:NW bk f p h with
   |some c=>rw[e]at b;exact⟨_,rfl,⟨rfl,by simp⟩,b⟩
   |none=>rw[e]at b;exact⟨_,rfl,⟨rfl,by simp⟩,b⟩
  |unite p=>
   refine⟨_,rfl,_,rfl,_,rfl,?_⟩;refine⟨rfl,rfl,_,rfl,x,b1,r,l,bk,fs,g,f,w,p,rfl,rfl,v,u,hw,y,?_⟩;have b:XC (NS bk f p) (X<|vO (ExcR.Xi mg "Village") x b1 r l bk (fs++[f]) (g++[w])) (R (vO (ExcR.Xi mg "Village") x b1 r l (bk++[(Dd.unite p).q]) (fs++[f]++[(Dd.unite p).fld f]) (g++[w]++[(Dd.unite p).wsh w]))<|.int (bk.length+1)):=b;cases e:NS bk f p with
   |some c=>rw[e]at b;exact⟨_,rfl,⟨rfl,by simp⟩,b⟩
   |none=>rw[e]at b;exact⟨_,rfl,⟨rfl,by simp⟩,b⟩
  |wish p h=>
   refine⟨_,rfl,_,rfl,_,rfl,_,rfl,?_⟩;refine⟨rfl,rfl,_,rfl,_,rfl,x,b1,r,l,bk,fs,g,f,w,p,h,rfl,rfl,v,u,hw,z,?_⟩;have b:XC (N1 bk w p h) (X<|vO (ExcR.Xi mg "Village") x b1 r l bk (fs++[f]) (g++[w])) (R (vO (ExcR.Xi mg "Village") x b1 r l (bk++[(Dd.wish p h).q]) (fs++[f]++[(Dd.wish p h).fld f]) (g++[w]++[(Dd.wish p h).wsh w]))<|.int (bk.length+1)):=b;cases e:N1 bk w p h with
   |some c=>rw[e]at b;exact⟨_,rfl,⟨rfl,by simp⟩,b⟩
   |none=>rw[e]at b;exact⟨_,rfl,⟨rfl,by simp⟩,b⟩
  |drop p h=>
   refine⟨_,rfl,_,rfl,_,rfl,_,rfl,?_⟩;refine⟨rfl,rfl,_,rfl,_,rfl,x,b1,r,l,bk,fs,g,f,w,p,h,rfl,rfl,v,u,hw,z,?_⟩;have b:XC (Sf bk w p h) (X<|vO (ExcR.Xi mg "Village") x b1 r l bk (fs++[f]) (g++[w])) (R (vO (ExcR.Xi mg "Village") x b1 r l (bk++[(Dd.drop p h).q]) (fs++[f]++[(Dd.drop p h).fld f]) (g++[w]++[(Dd.drop p h).wsh w]))<|.int (bk.length+1)):=b;cases e:Sf bk w p h with
   |some c=>rw[e]at b;exact⟨_,rfl,⟨rfl,by simp⟩,b⟩
   |none=>rw[e]at b;exact⟨_,rfl,⟨rfl,by simp⟩,b⟩
def Zc4(H:Def K mg "cost_table" Dj ["strips","wishes"])
  : Mh ζ:=by
 refine H.fy Zhh (λo n=>(bc (sE<|xg Wo o ExcR.X3<|a2 (xv 0)<|xv 1)<|bc (sS 2 n<|xf Wl o<|a3 (xv 0) (xv 1)<|xf Wh o<|a1<|xv 0)<|b1<|sR<|xe (Pj (Zh6 rfl) (by rfl) G.Zg boot_list<|XF (ON (K:=K)<|pv 2) KF)<|Zc1<|Xg 2)) (.a ?_)
 ·rintro J R X ⟨b,u,rfl,s,g,hw,l,B,r⟩;refine⟨rfl,b,u,rfl,s,g,l,B,λv=>?_⟩;have r:=r v;refine⟨b,rfl,s,g,λy p=>⟨b,u,y,pcc b,rfl,s,g,hw,l,p,Zfi l v,λf T=>?_⟩⟩;have z:(XD b).Nodup:=(Fx b).imp (λh=>Int.ne_of_lt h);obtain⟨x,e,A⟩:=T.vals (HH z);obtain⟨E,C⟩:=Gh e;refine⟨f,rfl,E,?_⟩;rw[C];exact r x A
def Re(C:Def K mg "told_row" Ad ["village","word","numbers"])
  : ET ζ:=by
 refine C.fy Hx (λp n=>(bc (sI (te (Cp<|M3 G.Z8<|pv 1)<|FP<|Eo<|Xg 1) (bc (sF 2<|sF 1<|se (Pu.pz 3 Hx.nd<|Sm Wp (hq<|p ()) ExcR.X3<|dz (pv 0) (pv 1)<|pv 2)<|BW (OM 0<|tz (Xg 1)<|Xg 2)<|Km 3)<|b1<|se (Xt<|ExcR.T3<|ExcR.KR<|ExcR.Tt (pv 3) ExcR.T7)<|Kc<|Te<|Pa<|T9 (Xg 3) Tq) b0)<|bc (sI (tq p (xv 1) xs) (b1<|se Se NV) b0)<|b1<|se Se NV)) (.c ?_)
 ·rintro o E R X ⟨x,b1,B,A,bk,fs,s,f,w,d,rfl,rfl,z,y,hw,u,v,b⟩;refine⟨rfl,?_⟩;have g:(List.lookup d.q.1 [(("sell" : Str),(2:Int)),("part",2),("unite",1),("wish",2),("drop",2)]).isSome=true:=by cases d<;>rfl
  show if (List.lookup d.q.1 [(("sell" : Str),(2:Int)),("part",2),("unite",1),("wish",2),("drop",2)]).isSome=true then _ else _;rw[g];refine KA ⟨x,b1,B,A,bk,fs,s,f,w,d,rfl,rfl,z,y,hw,u,v,?_⟩;cases e:Pi bk f w d with
  |some c=>
   rw[e]at b;exact⟨_,rfl,⟨rfl,by simp⟩,b⟩
  |none=>
   rw[e]at b;have r:((bk.length:Int)+1).natAbs<=10 ^ 30:=WC (show _<=1001 by lia) (by decide);have J:=(HC r).2;have H:(1000:Nat)<=sizeLine:=by decide
   have l:(Str.empty++("done " : Str)).length=5:=by decide +kernel
   have h:(Str.empty++("done " : Str)++nS ((bk.length:Int)+1)).length<=sizeLine:=by rw[Zgq,l];lia
   refine⟨by rw[l];lia,MR r,h,h,?_⟩;refine⟨_,rfl,⟨rfl,by simp⟩,?_⟩;have b:R _ (.str (("done " : Str)++nS ((bk.length:Int)+1))):=b;rw[←PySem.W.KT.empty_app ("done " : Str)]at b;exact b
def Rb(A:Def K mg "_law_too_many" A2 ["_law_village","_law_deed"])
  : EH ζ:=by
 refine A.fz AS (λh n=>(bc (sS 2 n<|xL a0)<|bj (se (ExcR.RV (λpins D=>(XM<|KY<|ExcR.EE Y6 (hq<|h ()) (ExcR.Zgz (pins:=pins) (D:=D) (i:=3) rfl rfl AS.nd rfl rfl rfl G.Zm (by decide) (λa=>(XM<|Pu.pz 2 AS.nd<|Ta<|bz (Kp (ExcR.La (K:=K)) (by rfl) G.Zc Q3<|bz (pv 3)<|ExcR.Zgc G.ZI)<|Kp (ExcR.La (K:=K)) (by rfl) G.Zc Q3<|bz (pv 3)<|PK (v:=.ty "ValueError") rfl G.ZK (by decide +kernel) rfl)))<|bz (pv 0)<|pv 1))) (Zk4 (E':=λ_=>E0) ["BookFull"] (λc l=>by
    simp only[WA,QA,or_false]at l;rcases l with rfl
    ·exact⟨G.Zh,G.Z0⟩)
    (λD=>(B8 1<|Nt<|IF 0<|sz<|Xg 1)) (N8 (Tu<|tz (Ex<|tz (Xg 3) Zf1)<|Ex<|tz (Xg 3) PJ)<|Km 2)))<|b1<|se (Xt<|SG (O2 (K:=K)<|show _<cLine from(h ()).units0) (pv 2) (Ta<|bz Pv Pv)<|To _)<|Kc<|Zhl (Xg 2)<|Tu<|tz Px Px)) (.c ?_)
 ·rintro o B R X ⟨x,b1,r,p,bk,fs,g,f,w,d,rfl,rfl,C,y,hw,s,u,z⟩;refine⟨rfl,?_⟩;have e:Nb bk f w d=some ("BookFull" : Str):=by unfold Nb;rw[W6 (by lia)]
  refine⟨by simp,?_⟩;refine HU (λb=>∃t:Option S,b=[some (.own<|vO (ExcR.Xi mg "Village") x b1 r p bk (fs++[f]) (g++[w])),some (.sh<|dD d.q),some (.own<|.lst [.bl true,.bl true]),t]) ?_ ?_
  ·refine⟨x,b1,r,p,bk,fs,g,f,w,d,rfl,rfl,by lia,y,hw,s,u,?_⟩;rw[e];exact⟨by simp,_,G.Zh,G.Zz,_,G.Zh,G.Zw,by simp,_,rfl⟩
  ·rintro b ⟨t,rfl⟩;exact⟨by simp,[.bl true,.bl true],[.bl true,.bl true],rfl,rfl,rfl,rfl,_,rfl,⟨rfl,by simp⟩,z⟩
def Ze3(C:Def K mg "least_cost" Cr ["strips","wishes"])
  : Mz ζ:=by
 refine C.fy Zd6 (λx n=>(b1<|sR<|xx (xg Wq x ExcR.X3<|a2 (xv 0)<|xv 1)<|xe (NB Sd Xn)<|Sg Xj)) (.a ?_)
 ·rintro H R X ⟨b,p,rfl,B,s,hw,u,z,g⟩;refine⟨rfl,b,p,rfl,B,s,hw,u,z,λA r o=>?_⟩;have g:=g A;have l:=Zdc (XD b);rw[List.getLast?_eq_getElem?]at l;have E:=(WI.mp l).1;have y:=o.1;obtain⟨v,h⟩:∃v,r[(X5<|XD b).length-1]?=some v:=⟨_,Wy (by lia)⟩;have L:=o.2 _ _ _ l h;rw[←y]at h;exact⟨_,PM (f:=D.int) (BP h),g _ L⟩
def Zgp(A:Def K mg "told_or_refused" Ce ["village","word","numbers"])
  : E3 ζ:=by
 refine A.fz E6 (λu n=>(b1<|se (ExcR.Zgm (λpins D=>(XM<|Xt<|ExcR.EE Wr (hq<|u ()) (ExcR.Zbt (pins:=pins) (D:=D) rfl rfl<|ExcR.KH rfl G.Zf (by decide) (λa=>(XM<|Xt X2))<|ExcR.KH rfl G.Zv (by decide) (λa=>(XM<|Xt X2))<|ExcR.KH rfl G.Zn (by decide) (λa=>(XM<|Xt X2))<|ExcR.KH rfl G.Zy (by decide) (λa=>(XM<|Xt X2))<|ExcR.KH rfl G.Z3 (by decide) (λa=>(XM<|Xt X2))<|ExcR.KH rfl G.Zk (by decide) (λa=>(XM<|Xt X2))<|ExcR.KH rfl G.Z4 (by decide) (λa=>(XM<|Xt X2))<|ExcR.KH rfl G.Zo (by decide) (λa=>(XM<|Xt X2))<|ExcR.KH rfl G.Zs (by decide) (λa=>(XM<|Xt X2))<|ExcR.KH rfl G.Zl (by decide) (λa=>(XM<|Xt X2))<|ExcR.KH rfl G.Z5 (by decide) (λa=>(XM<|Xt X2))<|ExcR.KH rfl G.Zm (by decide) (λa=>(XM<|Xt X2))<|ExcR.KH rfl G.Zp (by decide) (λa=>(XM<|Xt X2))<|ExcR.KH rfl G.Zt (by decide) (λa=>(XM<|Xt X2))<|ExcR.KH rfl G.ZN (by decide) (λa=>(XM<|Xt X2))<|ExcR.Zde (i:=3) E6.nd rfl rfl rfl G.Z6 (by decide) (λa=>(LQ Se<|XM Se)) ExcR.Zkd)<|dz (pv 0) (pv 1)<|pv 2)))<|Zk9 (E':=λ_=>E0) ["TooManyStrips","BadHolder","NoStrip","OwnStrip","BadPart","UnlikeHolders","TooWide","LikeHolders","WishStands","TooManyWishes","NoWish","BookFull"] ["TooManyStrips","BadHolder","NoStrip","OwnStrip","BadPart","UnlikeHolders","TooWide","LikeHolders","WishStands","TooManyWishes","NoWish","BookFull","NothingDone","NoSuchDeed","BadOrder","Ringed"] (G.ex.sub (by decide)<|by decide) (.cons (Kc Xz)<|.cons (Kc Xz)<|.cons (Kc Xz)<|.cons (Kc Xz)<|.cons (Kc Xz)<|.cons (Kc Xz)<|.cons (Kc Xz)<|.cons (Kc Xz)<|.cons (Kc Xz)<|.cons (Kc Xz)<|.cons (Kc Xz)<|.cons (Kc Xz)<|.cons (Kc Xz)<|.cons (Kc Xz)<|.cons (Kc Xz) (.cons (HJ NV
    NV)
    .nil)) (λD=>(B8 2<|B8 1<|Kx<|IF 0<|tz (Xg 1)<|Xg 2)))) (.c ?_)
 ·rintro o B R X ⟨x,b1,p,l,bk,fs,h,f,w,d,rfl,rfl,y,v,hw,r,s,b⟩;refine⟨rfl,x,b1,p,l,bk,fs,h,f,w,d,rfl,rfl,y,v,hw,r,s,?_⟩;cases e:Pi bk f w d with
  |none=>
   rw[e]at b;exact⟨_,rfl,⟨rfl,by simp⟩,b⟩
  |some c=>
   rw[e]at b;have b:R (vO (ExcR.Xi mg "Village") x b1 p l bk (fs++[f]) (h++[w])) (.str<|Ks c):=b
   have g:c = "BookFull"\/d.err f w=some c:=by
    unfold Pi at e;split at e
    ·exact .inl (WD e).symm
    ·exact .inr e
   rcases g with rfl|g
   ·rw[show Ks "BookFull" = "refused: full" by decide +kernel]at b;exact .inl ⟨by simp,_,rfl,⟨rfl,by simp⟩,b⟩
   ·rcases d.err_cases f w with z|z|z|z|z|z|z|z|z|z|z|z<;>rw[z]at g<;>cases g
    ·rw[show Ks "NoStrip" = "refused: place" by decide +kernel]at b;exact .inl ⟨by simp,_,rfl,⟨rfl,by simp⟩,b⟩
    ·rw[show Ks "BadHolder" = "refused: holder" by decide +kernel]at b;exact .inl ⟨by simp,_,rfl,⟨rfl,by simp⟩,b⟩
    ·rw[show Ks "OwnStrip" = "refused: own" by decide +kernel]at b;exact .inl ⟨by simp,_,rfl,⟨rfl,by simp⟩,b⟩
    ·rw[show Ks "BadPart" = "refused: part" by decide +kernel]at b;exact .inl ⟨by simp,_,rfl,⟨rfl,by simp⟩,b⟩
    ·rw[show Ks "TooManyStrips" = "refused: strips" by decide +kernel]at b;exact .inl ⟨by simp,_,rfl,⟨rfl,by simp⟩,b⟩
    ·rw[show Ks "UnlikeHolders" = "refused: unlike" by decide +kernel]at b;exact .inl ⟨by simp,_,rfl,⟨rfl,by simp⟩,b⟩
    ·rw[show Ks "TooWide" = "refused: wide" by decide +kernel]at b;exact .inl ⟨by simp,_,rfl,⟨rfl,by simp⟩,b⟩
    ·rw[show Ks "LikeHolders" = "refused: like" by decide +kernel]at b;exact .inl ⟨by simp,_,rfl,⟨rfl,by simp⟩,b⟩
    ·rw[show Ks "WishStands" = "refused: twice" by decide +kernel]at b;exact .inl ⟨by simp,_,rfl,⟨rfl,by simp⟩,b⟩
    ·rw[show Ks "TooManyWishes" = "refused: wishes" by decide +kernel]at b;exact .inl ⟨by simp,_,rfl,⟨rfl,by simp⟩,b⟩
    ·rw[show Ks "NoWish" = "refused: unknown" by decide +kernel]at b;exact .inl ⟨by simp,_,rfl,⟨rfl,by simp⟩,b⟩
def Oz(s:X1 K (X4 K (Xs ζ) "cost") "cost" "Village.cost" Dq ["self"])
  : Mf ζ:=by
 refine s.fy Zf9 (λb n=>(b1<|sR<|xg YJ b ExcR.X3<|a2 (xe (XU Yw G.Za (hq<|b ()) XY<|pv 0)<|Kj PU (Xg 0) X9)<|xe (XU Yx G.Za (hq<|b ()) XY<|pv 0)<|Kj Nq (Xg 0) X9)) (.a ?_)
 ·rintro u R X ⟨bk,fs,g,f,w,rfl,r,h,hw,l,p,o⟩;refine⟨rfl,?_⟩;exact⟨rfl,rfl,bk,fs,g++[w],f,rfl,rfl,rfl,bk,fs++[f],g,w,rfl,f,w,rfl,r,h,hw,l,p,o⟩
def MJ(DD:Def K mg "answer" D8 ["village","row"])
  : G8 ζ:=by
 refine DD.fz Zkl (λC n=>(bc (sS 2 n<|xe (Ey (K:=K) PySem.F.plainAttrs_str PySem.F.slot_str_split PySem.F.type_str_split Zbm (pv 1)<|az X2)<|Zfq (Xg 1) Xz)<|bc (sI (tN<|tt<|xf Wj C<|a2 (xx (xv 2) xi)<|xp (xv 2) (o1 xi) o0) (b1<|se (Xt X2)<|Kc Xz) b0)<|b1<|se (Xt<|fz Ws (C ())<|dz (pv 0) (jx K (pv 2) Xn)<|cz ["text"] [none] (TY (K:=K)<|Gq (Mc (K:=K)) (pv 2) (GW Xn) L8) ⟨(gk 0),Tp,(Pj Zbz (by rfl) G.ZV boot_int<|az<|pv 0)⟩)<|Kx<|Tn 0<|tz (X6 (Xg 2) Xj)<|P7 (N5<|Hn (Xg 2) (I0 Xj) Ls) (Km 0) TU<|MY<|sz<|Xg 0)) (.c ?_)
 ·rintro o ss R X ⟨x,b1,b2,b3,bk,fs,J,f,w,d,rfl,rfl,p,U,T,hw,L,M,r⟩;refine⟨rfl,?_⟩;have y:(" " : Str)=spc:=by decide +kernel
  have l:d.q.1.length<=6/\32∉d.q.1.cps.toList:=by
   have s:∀v∈[("sell" : Str), "part","unite","wish","drop"],v.length<=6/\32∉v.cps.toList:=by decide +kernel
   exact s d.q.1 (by cases d<;>simp[Dd.q])
  have N:=d.q_len
  have A:∀v∈d.q.1::d.q.2.map nS,32∉v.cps.toList:=λv b=>by
   rcases WA.mp b with rfl|b
   ·exact l.2
   ·obtain⟨n,_,rfl⟩:=WQ.mp b;exact Ot n
  have B:∀v∈d.q.1::d.q.2.map nS,v.length<=6:=λv b=>by
   rcases WA.mp b with rfl|b
   ·exact l.1
   ·obtain⟨n,g,rfl⟩:=WQ.mp b
    have:=(CP (p n g).1 (p n g).2).2.1
    lia
  have es:Txt.split (Str.join spc (d.q.1::d.q.2.map nS)) " " = d.q.1::d.q.2.map nS:=by rw[y];exact Zaw (by simp) A
  have Q:(Str.join spc (d.q.1::d.q.2.map nS)).length+2<=sizeLine:=by
   have E:=StrLaws.join_length_le spc (d.q.1::d.q.2.map nS);have h2:=StrLaws.sumLen_le _ B;have h3:(d.q.1::d.q.2.map nS).length=d.q.2.length+1:=by rw[Qq,Wx]
   have Y:spc.length=1:=rfl;have h5:(10000:Nat)<=sizeLine:=by decide
   rw[h3]at E h2;rw[Y]at E;lia
  have H:cutD ((d.q.1::d.q.2.map nS).map D.str) (some 1) none=d.q.2.map λn=>D.str (nS n):=by
   rw[Ba _ (by decide)];show(d.q.2.map nS).map D.str=_;rw[Qy];rfl
  refine⟨rfl,Q,?_⟩;rw[es];have u:∀n∈d.q.2,n.natAbs<=10 ^ 30:=λn g=>WC (show n.natAbs<=9999 by have:=p n g;lia) (by decide);refine⟨_,T1 _ _,rfl,d.q.1,d.q.2,Qf (λz=>[D.str d.q.1,D.lst z]) H,by cases d<;>simp[Dd.q],u,?_⟩;rw[rowB_iff.mpr p];refine X7 ?_;refine⟨_,T1 _ _,rfl,?_⟩;show SA _ _ _ _ _ (cutD ((d.q.1::d.q.2.map nS).map D.str) (some 1) none).length (λi=>S.sub (.own<|.lst<|cutD ((d.q.1::d.q.2.map nS).map D.str) (some 1) none) ((cutD ((d.q.1::d.q.2.map nS).map D.str) (some 1) none).getD i .non)) _;rw[H];refine KZ (xs:=d.q.2) (emb:=λn=>D.str (nS n)) (λn=>some (.int n)) (by lia) (λn g=>?_) ?_
  ·have h:=p n g;exact⟨n,Zch h.1 h.2,by have:=(CP h.1 h.2).2.1;lia,_,rfl,rfl⟩
  have em:d.q.2.filterMap (λn=>some (D.int n))=d.q.2.map D.int:=by rw[QN]
  rw[em];refine⟨x,b1,b2,b3,bk,fs,J,f,w,d,rfl,rfl,U,T,hw,L,M,?_⟩;cases e:Pi bk f w d with
  |none=>
   rw[e]at r;exact⟨_,rfl,⟨rfl,by simp⟩,r⟩
  |some c=>
   rw[e]at r;exact⟨_,rfl,⟨rfl,by simp⟩,r⟩
def Oa(A:X1 K (X4 K (Xs ζ) "offer") "offer" "Village.offer" As ["self","place","holder"])
  : DU ζ:=by
 refine A.fy Zd3 (λg n=>(bc (sS 3 n<|xg YA g ExcR.X3<|a3 (xe (XU Yw G.Za (hq<|g ()) XY<|pv 0)<|Kj PU (Xg 0) X9) (xv 1)<|xv 2)<|bc (sS 4 n<|xe (XU Wt G.Za (hq<|g ()) ExcR.X3<|pv 0)<|N7 Zkc (Xg 0) X9)<|b1<|sR<|xo TB Th (xg YJ g ExcR.X3<|a2 (xv 3)<|xe (XU Yx G.Za (hq<|g ()) XY<|pv 0)<|Kj Nq (Xg 0) X9)<|xv 4)) (.a ?_)
 ·rintro E R X ⟨bk,fs,l,f,w,p,h,rfl,v,B,hw,s,b⟩;refine⟨rfl,rfl,rfl,bk,fs,l++[w],f,rfl,?_⟩;refine⟨f,p,h,rfl,by omega,?_⟩;cases r:Kh f p h with
  |some c=>rw[r]at b;exact b
  |none=>
   rw[r]at b;obtain⟨x,b⟩:=(show Nc _ _ _ _ from b)
   have C:=LK f p h;have o:=Gz v r;refine⟨rfl,rfl,bk,fs,l,f,w,rfl,v,by omega,hw,s,x,λy u z=>?_⟩;exact⟨rfl,rfl,bk,fs++[f],l,w,rfl,P1 f p h,w,rfl,o,by omega,hw,s,b y u z⟩
def Zll(H:Def K mg "_law_refused_all" Dp ["_law_village","_law_now"])
  : GB ζ:=by
 refine H.fz Lj (λu n=>(bc (sO [2] Qb (iL<|xe (λ{_}=>(@Ta _ _ _ _<|@XF _ _ _ _ _ (XZ<|dz X2 Xn<|PQ XW Xn<|PQ XO (jx K (jx K (pv 1) Xn) Xn) Xn) (@XF _ _ _ _ _ (XZ<|dz X2 Xn Xn) (@XF _ _ _ _ _ (XZ<|dz X2 Xn Xn) (@XF _ _ _ _ _ (XZ<|dz X2 Xn Xn) (@XF _ _ _ _ _ (XZ<|dz X2 Xn Xn) (@XF _ _ _ _ _ (XZ<|bz X2 Xn) (@XF _ _ _ _ _ (XZ<|bz X2 Xn) (@XF _ _ _ _ _ (XZ<|dz X2 Xn Xn) (@XF _ _ _ _ _ (XZ<|dz X2 Xn Xn) (@XF _ _ _ _ _ (XZ<|dz X2 Xn<|PQ Zb0 Xn Xn) (@XF _ _ _ _ _ (XZ<|dz X2 Xn Xn) (@XF _ _ _ _ _ (XZ<|dz X2 Xn Xn) KF rfl) rfl) rfl) rfl) rfl) rfl) rfl) rfl) rfl) rfl) rfl) rfl))<|Tu<|Kl (Kb<|uz Xz Xj<|XT Xj<|XQ (X6 (X6 (Xg 1) Xj) Xj) Xj)<|Kl (Kb<|uz Xz Xj Xj)<|Kl (Kb<|uz Xz Xj Xj)<|Kl (Kb<|uz Xz Xj Xj)<|Kl (Kb<|uz Xz Xj Xj)<|Kl (Kb<|tz Xz Xj)<|Kl (Kb<|tz Xz Xj)<|Kl (Kb<|uz Xz Xj Xj)<|Kl (Kb<|uz Xz Xj Xj)<|Kl (Kb<|uz Xz Xj<|Zh2 Xj Xj)<|Kl (Kb<|uz Xz Xj Xj)<|Kl (Kb<|uz Xz Xj Xj) X9) (gN 2)<|b1<|sF 2<|se (NK (Nr<|Nd (K:=K)<|fz YI (u ())<|bz (pv 0)<|pv 2) (XM<|Xt Pv)
   NI)<|Su (Fh<|Av<|Tn 0<|sz<|Xg 2) (Kc Px) NF)<|bc (sO [3,4] Qb (iL<|xL<|ac xs<|ac xs<|ac xs<|ac xs<|ac xs a0) (gN 3)<|bc (sF 3<|se (Pu.pz 4 Lj.nd<|fz YK (u ())<|bz (pv 0)<|pv 3)<|BW (Tn 0<|sz<|Xg 3)<|Km 4)<|b1<|sI (tp<|wo (tN<|tt<|xe (Kp (Tg (K:=K)) (by rfl) G.Zc Q3<|bz (pv 4)<|PK (v:=.ty "str") rfl G.ZW boot_str rfl)<|Tj<|tz (Xg 4) PJ)<|wO<|tn u (xv 4) xs) (b1<|se (Xt Pv)<|Kc Px) b0)<|b1<|se (Xt Pv)<|Kc Px)) (.c ?_)
 ·rintro o J R X ⟨x,b1,r,l,bk,fs,h,f,w,rfl,rfl,A,M,hw,N,Q,L,y,B⟩;refine⟨rfl,?_⟩;have s:(0:Int)<10:=by decide
  have E:Bx 10 30:=⟨by decide,by decide,by decide⟩;have C:=Tf (ps:=f) (p:=1) (by lia) (by lia);refine⟨_,C,_,rfl,s,by simp,by simp,by simp,by simp,by simp,by simp,by simp,by simp,by simp,E,by simp,by simp,by simp,by simp,rfl,Pn (xs:=[Dd.sell 1 (1+(Xv f 1).1 % 10),.sell 0 5,.sell 1 11,.part 1 0,.part 99 1,.unite 1,.unite 0,.wish 1 2,.wish 3 3,.wish 2 (10 ^ (30:Int).toNat),.drop 1 2,.drop 9 9]) (emb:=λd=>dD d.q) (λi b=>b=[some (.own<|vO (ExcR.Xi mg "Village") x b1 r l bk (fs++[f]) (h++[w])),some (.sh<|plD f),none,none,none]) rfl ?_ ?_⟩
  ·rintro i z b rfl;generalize ([Dd.sell 1 (1+(Xv f 1).1 % 10),.sell 0 5,.sell 1 11,.part 1 0,.part 99 1,.unite 1,.unite 0,.wish 1 2,.wish 3 3,.wish 2 (10 ^ (30:Int).toNat),.drop 1 2,.drop 9 9]:List Dd)[i]=d;exact⟨x,b1,r,l,bk,fs,h,f,w,d,rfl,rfl,A,by lia,by lia,by lia,y,X7 rfl⟩
  rintro b rfl
  have er:[D.str ("sell 1 3" : Str),.str ("part 1 1" : Str),.str ("unite 0" : Str),.str ("wish 2 2" : Str),.str ("drop 9 8" : Str)]=[Dd.sell 1 3,.part 1 1,.unite 0,.wish 2 2,.drop 9 8].map λd=>D.str (Str.join spc (d.q.1::d.q.2.map nS)):=by
   rw[show("sell 1 3" : Str)=Str.join spc ("sell" :: [1,3].map nS) by decide +kernel,show("part 1 1" : Str)=Str.join spc ("part" :: [1,1].map nS) by decide +kernel,show("unite 0" : Str)=Str.join spc ("unite" :: [0].map nS) by decide +kernel,show("wish 2 2" : Str)=Str.join spc ("wish" :: [2,2].map nS) by decide +kernel,show("drop 9 8" : Str)=Str.join spc ("drop" :: [9,8].map nS) by decide +kernel];rfl
  refine⟨by simp,rfl,?_⟩;show BA _ _ _ _ _ [D.str ("sell 1 3" : Str),.str ("part 1 1" : Str),.str ("unite 0" : Str),.str ("wish 2 2" : Str),.str ("drop 9 8" : Str)].length (λi=>S.sub (.own<|.lst [D.str ("sell 1 3" : Str),.str ("part 1 1" : Str),.str ("unite 0" : Str),.str ("wish 2 2" : Str),.str ("drop 9 8" : Str)]) ([D.str ("sell 1 3" : Str),.str ("part 1 1" : Str),.str ("unite 0" : Str),.str ("wish 2 2" : Str),.str ("drop 9 8" : Str)].getD i .non));rw[er];refine Pn (xs:=[Dd.sell 1 3,.part 1 1,.unite 0,.wish 2 2,.drop 9 8]) (emb:=λd=>D.str (Str.join spc (d.q.1::d.q.2.map nS))) (λi b=>b=[some (.own<|vO (ExcR.Xi mg "Village") x b1 r l bk (fs++[f]) (h++[w])),some (.sh<|plD f),none,none,none]) rfl ?_ ?_
  ·rintro i z b rfl
   have g:∀d∈[Dd.sell 1 3,.part 1 1,.unite 0,.wish 2 2,.drop 9 8],∀n∈d.q.2,0<=n/\n<=9999:=by
    intro d g;simp only[WA,QA,or_false]at g;rcases g with rfl|rfl|rfl|rfl|rfl<;>simp[Dd.q]
   have g:=g _ (WY z);generalize ([Dd.sell 1 3,.part 1 1,.unite 0,.wish 2 2,.drop 9 8]:List Dd)[i]=d at g ⊢;have e:Pi bk f w d=some ("BookFull" : Str):=by unfold Pi;rw[W6 (by lia)]
   refine⟨x,b1,r,l,bk,fs,h,f,w,d,rfl,rfl,g,by lia,by lia,by lia,by lia,y,?_⟩;rw[e];show TR 4 (.sh<|.str<|Ks "BookFull") _ _;rw[show Ks "BookFull" = "refused: full" by decide +kernel];exact⟨true,.same _,rfl⟩
  ·rintro b rfl;exact⟨_,rfl,⟨rfl,by simp⟩,B⟩
def Zhy(DD:Def K mg "law" P5 ["_law_script"])
  : RN ζ:=by
 refine DD.fz D4 (λb n=>(bc (sS 1 n<|xf YZ b<|a1<|xf Y4 b<|a2 (xv 0) xi)<|bc (sS 2 n<|xf Wn b<|a3 (xv 0) (xv 1)<|xo XW XT xi<|xo XO XQ (xo PX PV (xf Y2 b<|a2 (xv 0) xi) xi) xi)<|bc (sS 3 n<|xe (Zio Wm G.ZR (hq<|b ()) Nu<|az<|Pj (TQ (K:=K)) (by rfl) G.Zg boot_list<|az<|pv 2)<|Zd9<|sz<|Nf<|sz<|Xg 2)<|bc (sS 4 n<|xf Y4 b<|a2 (xv 0) xi)<|bc (sS 5 n<|xL a0)<|bc (sO [6,7,8] Qb (ir G.Zi<|a1 xi) (gN 6)<|bc (sS 7 n<|xf Wb b<|a3 (xv 6) (xv 4)<|xv 2)<|bc (sF 7<|sA 5<|xv 7)<|bc (sF 7<|se (Pu.pz 8 D4.nd<|Sm Y6 (hq<|b ()) Nu<|bz (pv 3)<|pv 7)<|BW (Tn 3<|sz<|Xg 7)<|Km 8)<|bc (sI (tp<|wo (tN<|tt<|xf Y0 b<|a1<|xv 8)<|wO<|tn b (xv 8)<|xo XW XT (xv 6) xi) (b1<|sR xb) b0)<|bj (sI (tq b (xx (xv 7) xi) xs) (b1<|sS 2 n<|xo P8 Pz (xL<|a1<|xt<|a2 (xx (xv 7) xi)<|xx (xx (xv 2) xi) xi)<|xp (xv 2) (o1 xi) o0) b0)<|b1<|se (NK (PW.pt<|M6 (cq K (b ()) (pv 6)<|PQ XO (PQ PX (pv 4) Xn) Xn)<|Ek<|cn K (b ()) (fz YK (b ())<|bz (pv 3) X2) X2) (XM<|Xt Pv)
   NI)<|Su (Rg (BM<|Pb<|Bl (Xg 6)<|XQ (PV (Xg 4) Xj) Xj)<|Zco<|Tn 3<|sz Xz) (Bf Px) NF)<|bc (sF 2<|se (NK (PW.pt<|Fu (Nr<|Nd (K:=K)<|fz Wv (b ())<|bz (pv 3)<|pv 2)<|CN<|Nr<|Nd (K:=K)<|fz YH (b ())<|bz (XU Y8 G.Za (hq<|b ()) XY<|pv 3)<|pv 5) (XM<|Xt Pv)
   NI)<|Su (AA (Fh<|Av<|Tn 3<|sz<|Xg 2)<|BM<|Cs<|F6<|Tx<|tz (Kj Hq (Xg 3) X9)<|Xg 5) (Bf Px) NF)<|bc (sI (tN<|tt<|xf Y0 b<|a1<|xe (K0 Wu G.Za (hq<|b ()) Nu (pv 3)<|bz Xn<|PQ XW Xn<|PQ XO (jx K (jx K (pv 2) Xn) Xn) Xn)<|Kj Zac (Xg 3)<|tz Xj<|XT Xj<|XQ (X6 (X6 (Xg 2) Xj) Xj) Xj) (b1<|sR xb) b0)<|bc (sI (tp<|wo (tN<|tt<|xf Y5 b<|a2 (xx (xe (K0 YW G.Za (hq<|b ()) Nu (pv 3)<|az Xn)<|Kj Rj (Xg 3)<|sz Xj) xi)<|xv 2)<|wO<|tN<|tt<|xf Y5 b<|a2 (xe (XU Yw G.Za (hq<|b ()) XY<|pv 3)<|Kj PU (Xg 3) X9)<|xv 2) (b1<|sR xb) b0)<|bc (se (NK (Nr<|Nd (K:=K)<|fz YC (b ())<|bz (XU YV G.Za (hq<|b ()) Nu<|pv 3)<|jx K (pv 5) Xn) (XM<|Xt Pv)
   NI)<|Su (Fh<|Ow (NO 3 Od X9)<|sz<|X6 (Xg 5) Xj) (Bf Px) NF)<|bc (se (Pu.pz 8 D4.nd<|Sm Y6 (hq<|b ()) Nu<|bz (pv 3)<|jx K (pv 5) Xn)<|BW (Tn 3<|sz<|X6 (Xg 5) Xj)<|Km 8)<|bc (se (NK (PW.pt<|Fu (Nr<|Nd (K:=K)<|fz Y0 (b ())<|az<|pv 8)<|Fu (cn K (b ()) (pv 8) Xn)<|CN<|Nr<|Nd (K:=K)<|fz YI (b ())<|bz (pv 3)<|jx K (pv 5) Xn) (XM<|Xt Pv)
   NI)<|Su (AA (BM<|Cs<|F6<|Tx<|sz<|Xg 8)<|AA (BM<|Pb<|Bp (Xg 8) Xj)<|Fh<|Av<|Tn 3<|sz<|X6 (Xg 5) Xj) (Bf Px) NF)<|b1<|sR<|xe (Af (fz YH (b ())<|bz (XU Y8 G.Za (hq<|b ()) XY<|pv 3)<|pv 5)<|Ct<|fz Y5 (b ())<|bz (XU Yw G.Za (hq<|b ()) XY<|pv 3)<|pv 2)<|CU (Tx<|tz (Kj Hq (Xg 3) X9)<|Xg 5)<|Tx<|tz (Kj PU (Xg 3) X9)<|Xg 2)) (.a ?_)
 ·rintro ds R X ⟨N,rfl,hR⟩;refine⟨rfl,N,0,rfl,by decide,λc0=>⟨c0,rfl,λm hM=>?_⟩⟩;refine⟨N,0,rfl,by decide,λa0=>⟨⟨by decide,by decide⟩,(by show(0:Int)<6;decide),N,m,_,rfl,hM,by lia,by lia,λps hF hlen=>?_⟩⟩;have hp2:2<=ps.length/\ps.length<=7:=by lia
  refine⟨rfl,λx=>⟨x,ps,rfl,rfl,by lia,?_⟩⟩;rw[OG hF (by lia)];refine λb1 L H=>⟨rfl,?_⟩;refine⟨N,1,rfl,by decide,λc=>⟨by simp,?_⟩⟩
  refine⟨by decide,N2 (λi B=>∃(bk:List (Str×Yi)) (fs y:List (Yh)) (f:Yh),B=[some (.bor<|.scr N),some (.own<|.lst<|m.map D.int),some (.own<|.lst<|f.map prD),some (.own<|vO (ExcR.Xi mg "Village") x b1 L H bk (fs++[f]) (y++[X8 c i])),some (.sh<|.int c),some (.own<|.lst<|bk.map dD),none,none,none]/\bk.length=i/\fs.length=i/\y.length=i/\Field f/\f.length=ps.length/\(∀q∈bk,∃d:Dd,q=d.q)/\
   ∀j,i=j+1->∃(l:List (Str×Yi)) (s o:List (Yh)) (f0:Yh),bk=l++[(KD (j:Int) c f0).q]/\fs=s++[f0]/\y=o++[X8 c j]/\f=(KD (j:Int) c f0).fld f0/\Field f0/\f0.length=ps.length) ?_ ?_ ?_⟩
  ·have w0:X8 c 0=[]:=by unfold X8;rw[W3 (by lia)]
   exact⟨[],[],[],ps,by rw[w0];rfl,rfl,rfl,rfl,hF,rfl,by simp,λj z=>by cases z⟩
  ·rintro i B hi ⟨bk,fs,y,f,rfl,M,T,Q,A,hl,hq,_⟩;have hi':i<100:=hi;have lb:(bk.map dD).length=bk.length:=Wx ..;have lw:=D1 c i;refine⟨_,c,f,rfl,by lia,by lia,?_⟩;rw[Int.zero_add];obtain⟨d,ed,he,C,hk⟩:=Hk c i A (by lia);have hl2:=Zj4 d hk;have hF2:=Zek d A he hk;rw[ed];have ec:Nb bk f (X8 c i) d=none:=by unfold Nb;rw[W3 (by lia),he]
   refine⟨by lia,x,b1,L,H,bk,fs,y,f,X8 c i,d,rfl,rfl,by lia,by lia,by lia,by lia,by lia,?_⟩;rw[ec,C];have he8:(bk.length:Int)+1=(i:Int)+1:=by lia
   refine⟨_,rfl,X7 ?_⟩;show if (!decide ((bk.length:Int)+1=(i:Int)+1))=true then _ else _;rw[W4 he8];refine X7 ?_
   have hq2:∀q∈bk++[d.q],∃d:Dd,q=d.q:=λq hm=>by
    rcases WL.mp hm with hm|hm
    ·exact hq q hm
    ·exact⟨d,Wz.mp hm⟩
   have e1:=Tf (ps:=f) (p:=1) (by lia) (by lia);refine HU (λB=>∃t7 t8:Option S,B=[some (.bor<|.scr N),some (.own<|.lst<|m.map D.int),some (.own<|.lst ((d.fld f).map prD)),some (.own<|vO (ExcR.Xi mg "Village") x b1 L H (bk++[d.q]) (fs++[f]++[d.fld f]) (y++[X8 c i]++[X8 c (i+1)])),some (.sh<|.int c),some (.own<|.lst ((bk++[d.q]).map dD)),some (.sh<|.int i),t7,t8]) ?_ ?_
   ·refine⟨_,T1 _ _,?_⟩;show if decide (d.q.1=("sell" : Str))=true then _ else _;rw[WU];rcases hk with⟨h,rfl⟩|⟨hn,e⟩
    ·rw[show decide ((Dd.sell 1 h).q.1=("sell" : Str))=true from W4 rfl]
     have cs:=Gs (ps:=f) (p:=1) (x:=(h,(Xv f 1).2)) (by lia) (by lia);have lc:=Qf List.length cs;rw[WE,WE,Wx,Q2]at lc;rw[show cutD (f.map prD) none (some ((1:Int)-1))=[] by rw[T4,BJ _ (by decide)];rfl]at cs lc;refine KA ⟨_,rfl,_,e1,_,rfl,by simp,by simp,rfl,rfl,rfl,?_,some (.sh (dD (Dd.sell 1 h).q)),some (.sh<|.int ((bk.length:Int)+1)),?_⟩
     ·show 1+_<=100000
      have:[prD (h,(Xv f 1).2)].length=1:=rfl
      lia
     ·have cs:[prD (h,(Xv f 1).2)]++cutD (f.map prD) (some 1) none=((Dd.sell 1 h).fld f).map prD:=cs;rw[←cs];rfl
    ·rw[WH hn];exact X7 ⟨_,_,by rw[e];rfl⟩
   ·rintro B ⟨t7,t8,rfl⟩
    have J:∃(E:List (Str×Yi)) (fs' ws':List (Yh)) (f':Yh),clr [6,7,8] [some (S.bor<|.scr N),some (.own<|.lst<|m.map D.int),some (.own<|.lst ((d.fld f).map prD)),some (.own<|vO (ExcR.Xi mg "Village") x b1 L H (bk++[d.q]) (fs++[f]++[d.fld f]) (y++[X8 c i]++[X8 c (i+1)])),some (.sh<|.int c),some (.own<|.lst ((bk++[d.q]).map dD)),some (.sh<|.int i),t7,t8]=[some (.bor<|.scr N),some (.own<|.lst<|m.map D.int),some (.own<|.lst<|f'.map prD),some (.own<|vO (ExcR.Xi mg "Village") x b1 L H E (fs'++[f']) (ws'++[X8 c (i+1)])),some (.sh<|.int c),some (.own<|.lst<|E.map dD),none,none,none]/\E.length=i+1/\fs'.length=i+1/\ws'.length=i+1/\Field f'/\f'.length=ps.length/\(∀q∈E,∃d:Dd,q=d.q)/\
      ∀j,i+1=j+1->∃(l:List (Str×Yi)) (s o:List (Yh)) (f0:Yh),E=l++[(KD (j:Int) c f0).q]/\fs'=s++[f0]/\ws'=o++[X8 c j]/\f'=(KD (j:Int) c f0).fld f0/\Field f0/\f0.length=ps.length:=by
     refine⟨bk++[d.q],fs++[f],y++[X8 c i],d.fld f,rfl,by simp[M],by simp[T],by simp[Q],hF2,by lia,hq2,λj hj=>?_⟩;obtain rfl:i=j:=by lia
     exact⟨bk,fs,y,f,by rw[ed],rfl,rfl,by rw[ed],A,hl⟩
    refine⟨⟨by decide,by decide⟩,(by show(0:Int)<99;decide),Xx (λg=>?_) λg=>X7 J⟩;have g:(i:Int)=c / 180 % 99:=W7 g;have hb9:(bk++[d.q]).length=i+1:=by simp[M]
    have ee:Pi (bk++[d.q]) (d.fld f) (X8 c (i+1)) (.sell 0 3)=some ("NoStrip" : Str):=by
     unfold Pi;rw[W3 (by lia)];show Kh _ _ _=_;unfold Kh;rw[W6 (by lia)]
    refine⟨x,b1,L,H,bk++[d.q],fs++[f],y++[X8 c i],d.fld f,X8 c (i+1),.sell 0 3,rfl,Qf (λz=>[S.sh (.str z)]) (show("sell 0 3" : Str)=Str.join spc ("sell" :: [0,3].map nS) by decide +kernel),by simp[Dd.q],by lia,by simp[T];lia,by simp[Q];lia,by lia,by have:=D1 c (i+1);lia,?_⟩;rw[ee];show if (!decide (Ks "NoStrip"=("refused: place" : Str)))=true then _ else _;rw[show Ks "NoStrip" = "refused: place" by decide +kernel,W4 rfl];exact X7 J
  rintro B ⟨bk,fs,y,f,rfl,M,T,Q,A,hl,hq,hlast⟩;rw[show X8 c (Int.toNat 100)=[] by unfold X8;rw[W3 (λz=>absurd z.2 (by decide))]];have M:bk.length=100:=M;have T:fs.length=100:=T;have Q:y.length=100:=Q
  have hqs:∀q∈bk,q.2.length<=100:=λq hm=>by
   obtain⟨d,rfl⟩:=hq q hm
   have:=d.q_len
   lia
  have e1:=Tf (ps:=f) (p:=1) (by lia) (by lia);have hm1:=A _ (E9 (ps:=f) (p:=1) (by lia)<|by lia);refine⟨x,b1,L,H,bk,fs,y,f,[],rfl,rfl,M,T,Q,A,by lia,by lia,by simp,X7 ?_⟩;refine⟨rfl,rfl,bk,fs++[f],y++[[]],rfl,bk,rfl,hqs,by lia,X7 ?_⟩;refine⟨rfl,rfl,_,e1,_,rfl,(show(0:Int)<10 by decide),bk,fs,y,f,[],1,_,rfl,A,by lia,by simp,by simp,?_⟩
  have Y:Kh f 1 (1+(Xv f 1).1 % 10)=none:=by
   unfold Kh;rw[W3 (by lia),W3 (by lia),W3 (by lia)]
  have nr:∀Y:Yi,¬ ∃r,Ring Y [] r:=λY ⟨r,z⟩=>Zh4 z;have nf:∀(Y r:Yi),FR Y [] r->r=[]:=λY r z=>(z.none_iff<|by simp).mpr (nr Y);rw[Y];refine⟨λr b hne=>absurd (nf _ r b) hne,λ_ u _=>⟨λr b hne=>absurd (nf _ r b) hne,λ_ v _=>⟨_,rfl,X7 ?_⟩⟩⟩;refine⟨rfl,rfl,bk,fs++[f],y++[[]],100,rfl,by simp[M,T],by simp[M,Q],λz=>absurd z (by lia),λf' w' i x1 y1 hi hf hw=>?_⟩;obtain rfl:i=fs.length:=by lia
  rw[Qd (W5 _),Nat.sub_self]at hf;obtain rfl:f=f':=WD hf;refine⟨_,rfl,f,rfl,by lia,X7 ?_⟩;refine⟨rfl,rfl,bk,fs,y++[[]],f,rfl,f,rfl,by lia,X7 ?_⟩;obtain⟨l,s,o,f0,rfl,rfl,rfl,ef,hF0,hl0⟩:=hlast 99 rfl;have U:l.length=99:=by simpa using M
  have k02:s.length=99:=by simpa using T
  have k03:o.length=99:=by simpa using Q
  obtain⟨d,ed,he,C,hk⟩:=Hk c 99 hF0 (by lia);have lw:=D1 c 99;rw[ed]at ef hqs hq ⊢;have h99:atI ((l++[d.q]).map dD) 99=some (dD d.q):=PM (SN (by decide)<|by rw[Qd (by rw[U];decide),U];rfl);obtain⟨d8,ed8⟩:=hq (l[98]'(by lia)) (Q0 _<|WY _);have h98:atI ((l++[d.q]).map dD) 98=some (dD d8.q):=PM (SN (by decide)<|by rw[Qh (by rw[U];decide),Wy (by rw[U];decide),←ed8];rfl);refine⟨rfl,rfl,x,b1,L,H,l++[d.q],s++[f0]++[f],o++[X8 c 99]++[[]],rfl,rfl,by simp[U,k02],by simp[U,k03],λz=>by simp at z,λb0 q z=>?_⟩;obtain⟨rfl,e2⟩:=List.append_inj' z rfl;cases e2
  rw[Ji,Ji];have hd2:=d.q_len;refine⟨_,h99,d.q,rfl,by lia,X7 ?_⟩;have ec:Nb l f0 (X8 c 99) d=none:=by unfold Nb;rw[W3 (by lia),he]
  refine⟨_,h99,x,b1,L,H,l,s,o,f0,X8 c 99,d,rfl,rfl,by lia,by lia,by lia,by lia,by lia,?_⟩;rw[ec,C,←ef];rw[show X8 c (99+1)=[] by unfold X8;rw[W3 (λz=>absurd z.2 (by decide))]];refine⟨_,rfl,X7 ?_⟩;show if (!decide ((l.length:Int)+1=100))=true then _ else _;rw[W4 (by lia)];refine X7 ?_;refine⟨_,h98,x,b1,L,H,l++[d.q],s++[f0],o++[X8 c 99],f,[],d8,rfl,rfl,by simp[U],by lia,by lia,by lia,by simp,X7 ?_⟩;exact⟨rfl,rfl,l++[d.q],s++[f0]++[f],o++[X8 c 99]++[[]],rfl,l++[d.q],rfl,hqs,by simp[U],rfl,rfl,l++[d.q],s++[f0],o++[X8 c 99]++[[]],f,rfl,f,rfl,by lia,hR⟩
end
end T
namespace T
open L2 Own M
def Zap{l:PySem.W.OpenLaw}{w:World}{K:Yg}{h:Heap}{f:Yk}{fa:Addr}(X:K.In h)(b:h.Ns mainGlobals f)(hfa:f "law"=some (.ref fa)){g:Addr}(JQ:PySem.W.nsIn K mainGlobals "Village"=some (some<|.ref g))(JT:PySem.W.plainGet K g Str.empty=true)(JU:PySem.W.hasDictIn K g=true)(JV:PySem.W.plainOver K g=true)(JW:PySem.W.findIn K (.ref g) "__setattr__"=some (some<|.builtin "object.__setattr__"))(JX:PySem.W.makesIn K g=true)(JY:PySem.W.keepIn K (.ref g)=true)(JZ:PySem.W.findIn K (.ref g) "book"=some none)(Ua:PySem.W.findIn K (.ref g) "fields"=some none)(Ub:PySem.W.findIn K (.ref g) "wished"=some none)(a1:Pu.DI K "check_holder" AE)(a2:Pu.DI K "check_width" AB)(a3:Pu.DI K "check_strips" Dy)(a4:Pu.DI K "holders_of" Aq)(a5:Pu.DI K "pair_cost" Aa)(a6:Pu.DI K "check_neighbours" Cu)(a7:Pu.DI K "longer_paths" Ap)(a8:Pu.DI K "ring_from" Ar)(a9:Pu.DI K "find_ring" Do)(a10:Pu.DI K "check_no_ring" AF)(a11:Pu.DI K "check_place" A4)(a12:Pu.DI K "sold" Am)(a13:Pu.DI K "parted" Dt)(a14:Pu.DI K "united" Dn)(a15:Pu.DI K "with_wish" Ag)(a16:Pu.DI K "without_wish" Ae)(a17:Pu.DI K "pair_costs" AM)(a18:Pu.DI K "sets_of" F8)(a19:Pu.DI K "without" F7)(a20:Pu.DI K "may_lie_last" Dv)(a21:Pu.DI K "cost_with_last" AK)(a22:Pu.DI K "least_costs" D7)(a23:Pu.DI K "cost_table" Dj)(a24:Pu.DI K "least_cost" Cr)(a25:Pu.MI K g "__init__" "Village.__init__" AY)(a26:Pu.MI K g "strips" "Village.strips" FZ)(a27:Pu.MI K g "wishes" "Village.wishes" CZ)(a28:Pu.MI K g "deeds" "Village.deeds" Au)(a29:Pu.MI K g "check_room" "Village.check_room" CL)(a30:Pu.MI K g "enter" "Village.enter" Cz)(a31:Pu.MI K g "sell" "Village.sell" AQ)(a32:Pu.MI K g "part" "Village.part" FV)(a33:Pu.MI K g "unite" "Village.unite" Cn)(a34:Pu.MI K g "wish" "Village.wish" D3)(a35:Pu.MI K g "drop" "Village.drop" D6)(a36:Pu.MI K g "take_back" "Village.take_back" F2)(a37:Pu.MI K g "stood" "Village.stood" AV)(a38:Pu.MI K g "cost" "Village.cost" Dq)(a39:Pu.MI K g "offer" "Village.offer" As)(a40:Pu.DI K "is_number" Cm)(a41:Pu.DI K "is_row" FG)(a42:Pu.DI K "do_deed" Ax)(a43:Pu.DI K "told_row" Ad)(a44:Pu.DI K "told_or_refused" Ce)(a45:Pu.DI K "answer" D8)(a46:Pu.DI K "_law_at" D9)(a47:Pu.DI K "_law_whole" AH)(a48:Pu.DI K "_law_mix" Ao)(a49:Pu.DI K "_law_draw" FF)(a50:Pu.DI K "_law_menu" Cd)(a51:Pu.DI K "_law_holder" FA)(a52:Pu.DI K "_law_strips" Ay)(a53:Pu.DI K "_law_tuples" Ak)(a54:Pu.DI K "_law_deed_is" Du)(a55:Pu.DI K "_law_book_is" Dz)(a56:Pu.DI K "_law_call" CM)(a57:Pu.DI K "_law_too_many" A2)(a58:Pu.DI K "_law_next" Ac)(a59:Pu.DI K "_law_refused_all" Dp){H:Addr}{Q E:Yt}{N:Array (Ys)}{T A B y r C:Value}(a60:PySem.W.nsIn K mainGlobals "law"=some (some<|.ref H))(l60:K.lookup H=some ⟨T,Q,.func (PySem.W.fnOf "law" "law" (KM P5) (XA P5) (Xh P5) .none A B y E r C),N⟩)(c60:PySem.W.codeIn K r "law"=true)(k60:PySem.W.keepIn K (.ref H)=true)(Uc:PySem.W.nsIn K mainGlobals "ValueError"=some none)(Ud:PySem.W.nsIn K mainGlobals "all"=some none)(Ue:PySem.W.nsIn K mainGlobals "any"=some none)(Ug:PySem.W.nsIn K mainGlobals "bool"=some none)(Uh:PySem.W.nsIn K mainGlobals "int"=some none)(Ui:PySem.W.nsIn K mainGlobals "isinstance"=some none)(Uj:PySem.W.nsIn K mainGlobals "len"=some none)(Uk:PySem.W.nsIn K mainGlobals "list"=some none)(Ul:PySem.W.nsIn K mainGlobals "min"=some none)(Um:PySem.W.nsIn K mainGlobals "range"=some none)(Uo:PySem.W.nsIn K mainGlobals "set"=some none)(Up:PySem.W.nsIn K mainGlobals "sorted"=some none)(Uq:PySem.W.nsIn K mainGlobals "str"=some none)(Ur:PySem.W.nsIn K mainGlobals "sum"=some none)(Us:PySem.W.nsIn K mainGlobals "tuple"=some none){UI:Tok}(Ut:PySem.W.nsIn K mainGlobals "HOLDERS"=some (some<|.int 10 UI)){UJ:Tok}(Uu:PySem.W.nsIn K mainGlobals "STRIPS"=some (some<|.int 40 UJ)){UK:Tok}(Uv:PySem.W.nsIn K mainGlobals "WIDEST"=some (some<|.int 1000 UK)){UL:Tok}(Uw:PySem.W.nsIn K mainGlobals "MOST_WISHES"=some (some<|.int 20 UL)){UM:Tok}(Ux:PySem.W.nsIn K mainGlobals "MOST_DEEDS"=some (some<|.int 100 UM)){UN:Tok}(Uy:PySem.W.nsIn K mainGlobals "FIGURES"=some (some<|.str "0123456789" UN)){UO:Tok}(U0:PySem.W.nsIn K mainGlobals "MOST_FIGURES"=some (some<|.int 4 UO)){d_DEEDS:Addr}{es_DEEDS:Array DictEntry}{n_DEEDS:Nat}(U1:PySem.W.nsIn K mainGlobals "DEEDS"=some (some<|.ref d_DEEDS))(zm_DEEDS:(d_DEEDS==sysModules)=false)(zl_DEEDS:K.lookup d_DEEDS=some ⟨.type "dict",none,.dict es_DEEDS n_DEEDS,#[]⟩)(ze_DEEDS:Own.Lits w.params es_DEEDS.toList [("sell",2),("part",2),("unite",1),("wish",2),("drop",2)]){UE:Addr}(J9:Pu.EI K "MeldError" UE){U2:Addr}(JA:Pu.EI K "TooManyStrips" U2){U3:Addr}(JB:Pu.EI K "BadHolder" U3){UP:Addr}(JR:Pu.EI K "BadWidth" UP){U4:Addr}(JC:Pu.EI K "NoStrip" U4){UF:Addr}(JD:Pu.EI K "BadOrder" UF){U5:Addr}(JE:Pu.EI K "OwnStrip" U5){U6:Addr}(JF:Pu.EI K "BadPart" U6){U7:Addr}(JG:Pu.EI K "UnlikeHolders" U7){U8:Addr}(JH:Pu.EI K "TooWide" U8){U9:Addr}(JI:Pu.EI K "LikeHolders" U9){UA:Addr}(JJ:Pu.EI K "WishStands" UA){UB:Addr}(JK:Pu.EI K "TooManyWishes" UB){UC:Addr}(JL:Pu.EI K "NoWish" UC){J:Addr}(JM:Pu.EI K "BookFull" J){UG:Addr}(JN:Pu.EI K "NothingDone" UG){UH:Addr}(JO:Pu.EI K "NoSuchDeed" UH){U:Addr}(J8:Pu.RI K "Ringed" U "Ringed.__init__" FW)(x_Ringed:PySem.W.exmOne K (.ref U) (.ref U)=some true)(x_all:Pu.L0 K [("Ringed",U),("TooManyStrips",U2),("BadHolder",U3),("NoStrip",U4),("OwnStrip",U5),("BadPart",U6),("UnlikeHolders",U7),("TooWide",U8),("LikeHolders",U9),("WishStands",UA),("TooManyWishes",UB),("NoWish",UC),("BookFull",J)] [("TooManyStrips",U2),("BadHolder",U3),("NoStrip",U4),("OwnStrip",U5),("BadPart",U6),("UnlikeHolders",U7),("TooWide",U8),("LikeHolders",U9),("WishStands",UA),("TooManyWishes",UB),("NoWish",UC),("BookFull",J),("NothingDone",UG),("NoSuchDeed",UH),("BadOrder",UF),("Ringed",U)]=true)(x_BookFull_BookFull:PySem.W.exmOne K (.ref J) (.ref J)=some true)(k_BookFull_MeldError:PySem.W.kitOne K (.ref J) (.ref UE)=some true)(k_BookFull_ValueError:PySem.W.kitOne K (.ref J) (.type "ValueError")=some true)
  : ∃fd:FuncData,(∀(s:Shared) (v:Value),BindsTo s fd ⟨[v],[]⟩ [("_law_script",v)])/\∀base:Heap,K.In base->base.Ns mainGlobals f->Kv l.prog w K f base CX0 9 fa fd ["_law_script"] (Pu.AI K):=by
 have e:=hfa.symm.trans (Qe X b a60);cases e
 have UQ:=J9.c X b;have UR:=JA.c X b;have US:=JB.c X b;have UT:=JC.c X b;have UU:=JD.c X b;have UV:=JE.c X b;have UW:=JF.c X b;have UX:=JG.c X b;have UY:=JH.c X b;have UZ:=JI.c X b;have Xa:=JJ.c X b;have Xb:=JK.c X b;have Xc:=JL.c X b;have JS:=JM.c X b;have Xd:=JN.c X b;have Xe:=JO.c X b;have UD:=J8.c X b;have n:=ExcR.FM (Qe X b JQ);have G:Glob w K f:=⟨WZ X b Uc,WZ X b Ud,WZ X b Ue,WZ X b Ug,WZ X b Uh,WZ X b Ui,WZ X b Uj,WZ X b Uk,WZ X b Ul,WZ X b Um,WZ X b Uo,WZ X b Up,WZ X b Uq,WZ X b Ur,WZ X b Us,⟨_,Qe X b Ut,⟨_,rfl⟩⟩,⟨_,Qe X b Uu,⟨_,rfl⟩⟩,⟨_,Qe X b Uv,⟨_,rfl⟩⟩,⟨_,Qe X b Uw,⟨_,rfl⟩⟩,⟨_,Qe X b Ux,⟨_,rfl⟩⟩,⟨_,Qe X b Uy,⟨_,rfl⟩⟩,⟨_,Qe X b U0,⟨_,rfl⟩⟩,⟨⟨_,_,_,Qe X b U1,zm_DEEDS,zl_DEEDS,ze_DEEDS⟩⟩,(J9.m X b),(J9.k X b),(JA.m X b),(JA.k X b),(JB.m X b),(JB.k X b),(JR.m X b),(JR.k X b),(JC.m X b),(JC.k X b),(JD.m X b),(JD.k X b),(JE.m X b),(JE.k X b),(JF.m X b),(JF.k X b),(JG.m X b),(JG.k X b),(JH.m X b),(JH.k X b),(JI.m X b),(JI.k X b),(JJ.m X b),(JJ.k X b),(JK.m X b),(JK.k X b),(JL.m X b),(JL.k X b),(JM.m X b),(JM.k X b),(JN.m X b),(JN.k X b),(JO.m X b),(JO.k X b),(J8.m X b),(J8.i X b),(by rw[UD];exact x_Ringed),(by rw[←UD,←UR,←US,←UT,←UV,←UW,←UX,←UY,←UZ,←Xa,←Xb,←Xc,←JS,←Xd,←Xe,←UU]at x_all;exact Pu.Zkw x_all),(by rw[JS];exact x_BookFull_BookFull),(by rw[JS,UQ];exact k_BookFull_MeldError),(by rw[JS];exact k_BookFull_ValueError),(by rw[n];exact Qe X b JQ),(by rw[n];exact⟨JT,JU,JV,JW⟩),(by rw[n];exact JZ),(by rw[n];exact Ua),(by rw[n];exact Ub)⟩;have L:=Ft (st:=P5) l60 c60 k60;have b60:=L.binds (ps:=["_law_script"]) λ_ _ _ _ _ _ us hl=>by obtain⟨_,rfl⟩:=Pu.Sv hl;rfl
 have Y:Def K f "law" P5 ["_law_script"]:=⟨_,_,L,Qe X b a60,b60⟩;refine⟨PySem.W.fnOf "law" "law" (KM P5) (XA P5) (Xh P5) .none A B y E r C,λs v=>.of_eq rfl,λbase _ _=>?_⟩;have C0:=@Rl l.prog w K f base G (J8.j UD);have C1:=@Zad l.prog w K f base ⟨⟩ G (a1.e X b);have C2:=@Zlc l.prog w K f base ⟨⟩ G (a2.e X b);have C4:=@Zan l.prog w K f base G (a4.e X b);have C5:=@Zfv l.prog w K f base ⟨⟩ (a5.e X b);have C6:=@Zb3 l.prog w K f base ⟨⟩ G (a6.e X b);have C7:=@Zbw l.prog w K f base ⟨⟩ (a7.e X b);have C11:=@Zdz l.prog w K f base ⟨⟩ G (a11.e X b);have C16:=@Zg9 l.prog w K f base ⟨⟩ G (a16.e X b);have C18:=@Zgr l.prog w K f base ⟨⟩ (a18.e X b);have C19:=@Ziy l.prog w K f base ⟨⟩ G (a19.e X b);have C20:=@Zhj l.prog w K f base ⟨⟩ G (a20.e X b);have o:=@RZ l.prog w K f base ⟨⟩ G (a26.e n);have p:=@Zc0 l.prog w K f base ⟨⟩ G (a27.e n);have C28:=@Zg4 l.prog w K f base ⟨⟩ G (a28.e n);have x:=@OD l.prog w K f base ⟨⟩ G (a29.e n);have u:=@Os l.prog w K f base ⟨⟩ G (a30.e n);have C36:=@O0 l.prog w K f base ⟨⟩ G (a36.e n);have C37:=@Zf4 l.prog w K f base ⟨⟩ G (a37.e n);have C40:=@OQ l.prog w K f base ⟨⟩ G (a40.e X b);have C46:=@Zdm l.prog w K f base ⟨⟩ G (a46.e X b);have M:=@Ze0 l.prog w K f base ⟨⟩ G (a47.e X b);have C48:=@Zds l.prog w K f base ⟨⟩ (a48.e X b);have C50:=@Zb7 l.prog w K f base ⟨⟩ (a50.e X b);have C51:=@Zg0 l.prog w K f base ⟨⟩ (a51.e X b);have C58:=@Zkt l.prog w K f base ⟨⟩ (a58.e X b);have C3:=Rr ⟨⟩ G C1 C2 (a3.e X b);have C8:=Zi6 ⟨⟩ G C7 (a8.e X b);have C12:=Rt ⟨⟩ G C1 C11 (a12.e X b);have C13:=MQ ⟨⟩ G C11 (a13.e X b);have C14:=Zhk ⟨⟩ G C6 (a14.e X b);have C15:=Zhi ⟨⟩ G C1 (a15.e X b);have C17:=Zii ⟨⟩ (Cw C4) C5 (a17.e X b);have C21:=Zhq ⟨⟩ G C19 (a21.e X b);have C35:=Zjv ⟨⟩ G C16 o p x u (a35.e n);have C41:=Zhf ⟨⟩ G C40 (a41.e X b);have C49:=RR ⟨⟩ C46 C48 (a49.e X b);have C53:=Zij ⟨⟩ G M (a53.e X b);have C54:=Ry ⟨⟩ G M (a54.e X b);have C9:=Zab ⟨⟩ G C8 (a9.e X b);have C22:=Zae ⟨⟩ G (Cw C4) C18 C20 C21 (a22.e X b);have C25:=Zhb ⟨⟩ G C3 (a25.j n JX JY);have C31:=RB ⟨⟩ G o p x u C12 (a31.e n);have C32:=Zdx ⟨⟩ G o p x u C13 (a32.e n);have C33:=R9 ⟨⟩ G o p x u C14 (a33.e n);have C34:=Zef ⟨⟩ G o p x u C15 (a34.e n);have C52:=OF ⟨⟩ G C51 C49 (a52.e X b);have C55:=Zhc ⟨⟩ G C54 (a55.e X b);have C10:=OX ⟨⟩ G C0 (Cw C4) C9 (a10.e X b);have C42:=RW ⟨⟩ G C35 C31 C32 C33 C34 (a42.e X b);have C56:=Zhd ⟨⟩ G C35 C31 C32 C33 C34 (a56.e X b);have C23:=Zc4 ⟨⟩ G C17 C22 C10 (a23.e X b);have C43:=Re ⟨⟩ G C42 (a43.e X b);have C57:=Rb ⟨⟩ G C56 (a57.e X b);have C24:=Ze3 ⟨⟩ C23 (a24.e X b);have C44:=Zgp ⟨⟩ G C43 (a44.e X b);have C38:=Oz ⟨⟩ G o p C24 (a38.e n);have C45:=MJ ⟨⟩ G C41 C44 (a45.e X b);have C39:=Oa ⟨⟩ G o p C12 C24 C38 (a39.e n);have C59:=Zll ⟨⟩ G C57 C45 (a59.e X b);have C60:=Zhy ⟨⟩ G o C28 C36 C37 C46 M C50 C58 C49 C53 C54 C25 C52 C55 C56 C57 C45 C39 C59 Y;exact(C60.at (Qe X b a60) L Y).imp λ_ _ _ _ z=>Pu.Zlj z
end T
namespace PySem.W.Fast
def I:True:=⟨⟩
def tw1238831831514641596:=I
def tw1256573674663972896:=I
def tw18320407303127049312:=I
def tw11587693140790376544:=I
def tw15021020014284971136:=I
def tw10886325026915729536:=I
def tw17403687606518049984:=I
def tw10074597598025063648:=I
def tw457760458687496416:=I
def tw1183203065659813120:=I
def tw16391019322997675296:=I
def tw2197339766441222496:=I
def tw12323261330279278976:=I
def tw4837559835265131904:=I
def tw1487573465280817568:=I
def tw1878156188238625184:=I
def tw16461224947260656064:=I
def tw16346786251729525184:=I
def tw9305122180061467104:=I
def tw3987060141162541536:=I
def tw306482624823360992:=I
def tw427738479871165952:=I
def tw134691850810025504:=I
def tw9796214082493094496:=I
def tw17097554693234570912:=I
def tw6468663892994354944:=I
def tw4348590512397236000:=I
def tw14585496788771298080:=I
def tw1617484293585923872:=I
def tw17959391244407438176:=I
def tw2945003068379214752:=I
def tw5867149838955467680:=I
def tw6347151642189606848:=I
def tw6350184983297998784:=I
def tw10829254955493807072:=I
def tw17373429662150746080:=I
def tw4507408583602185313:=I
def tw11925513245192824929:=I
def tw59377732128190561:=I
def tw6556850407949468801:=I
def tw11670461637865738369:=I
def tw15947678067717223553:=I
def tw4010708798129229953:=I
def tw13142040636628626561:=I
def tw4736856646801934497:=I
def tw14480946855257386177:=I
def tw12487752986403563713:=I
def tw15431474586848811233:=I
def tw15161206873130988833:=I
def tw10129178744814878017:=I
def tw5407943447011216737:=I
def tw10654179869947284833:=I
def tw1729765299513050593:=I
def tw14475377809831283169:=I
def tw14258989916641950177:=I
def tw3499983369010258529:=I
def tw11464254422167206497:=I
def tw12027193741931115137:=I
def tw5980346608283776641:=I
def tw15128027200309962401:=I
def tw11078320852144956097:=I
def tw10017499465305144001:=I
def tw734691333335937729:=I
def tw9361760681254955745:=I
def tw6891735386940323553:=I
def tw13828507558113012449:=I
def tw8872135258392794881:=I
def tw15931350016973517569:=I
def tw7583161676080768769:=I
def tw6718368948926710625:=I
def tw12099907292304189313:=I
def tw16598339883319539617:=I
def tw7753305282608302082:=I
def tw12599756008981743618:=I
def tw10815496676282543234:=I
def tw1332296992011962498:=I
def tw2008261901065971970:=I
def tw18056028153279164738:=I
def tw11639084602631749986:=I
def tw11246365927390754210:=I
def tw11241649252203427266:=I
def tw16512590955478494690:=I
def tw4619862895338056386:=I
def tw6239699107512431362:=I
def tw6527791831341942562:=I
def tw16619961851841565506:=I
def tw5689262582295188322:=I
def tw3157121239977805698:=I
def tw17215280691914824578:=I
def tw16088692454379003842:=I
def tw5630231291109713890:=I
def tw9032660635204576226:=I
def tw3693956803201238147:=I
def tw13534421682926215299:=I
def tw7353658193837983907:=I
def tw12649772543479962787:=I
def tw16493436949808158915:=I
def tw10681764590358217955:=I
def tw7442142369763303683:=I
def tw18300018906884970787:=I
def tw13778861997434808611:=I
def tw3514993642862423331:=I
def tw17182320841876982051:=I
def tw14171790754076920131:=I
def tw182110853603944771:=I
def tw17944061403242371427:=I
def tw15127154008038659427:=I
def tw18057021743393968515:=I
def tw825142541362937219:=I
def tw11061502938313444803:=I
def tw16333376126414120419:=I
def tw10619526533262641667:=I
def tw12506049912862416387:=I
def tw4638032500530630275:=I
def tw16970348979506605699:=I
def tw17506114413140621987:=I
def tw10440131754807853763:=I
def tw17663399432776286947:=I
def tw7346950733894916835:=I
def tw4558577919234116355:=I
def tw2681995462765094691:=I
def tw7621632822815583011:=I
def tw9808131553969934147:=I
def tw11918276953776918339:=I
def tw11722426746354727747:=I
def tw9857803115479744355:=I
def tw12409105922975297379:=I
def tw16185251617817564067:=I
def tw7568105966485387171:=I
def tw8940147220067761091:=I
def tw15240130645848476611:=I
def tw10676051958984330179:=I
def tw7078991448405829571:=I
def tw17800463951649598403:=I
def tw4610184685291472867:=I
def tw16579963566808669220:=I
def tw12495339883043080228:=I
def tw17663874255174923300:=I
def tw13864065386343072836:=I
def tw14991474435000345732:=I
def tw578864016263180420:=I
def tw4880955866130523300:=I
def tw11960264351006542116:=I
def tw3539735672884449604:=I
def tw15120703847696668004:=I
def tw9772137161960117604:=I
def tw8877118685853507972:=I
def tw7838028262407111140:=I
def tw1093718133036105188:=I
def tw17568708971698166276:=I
def tw10661974206027494916:=I
def tw10171089572520525380:=I
def tw11117894947238645348:=I
def tw274068655732732516:=I
def tw18407307879223279204:=I
def tw18407934875513057988:=I
def tw4162066067226270436:=I
def tw6588432329143238372:=I
def tw2982135060816016164:=I
def tw350874101640667972:=I
def tw9591083740014474052:=I
def tw8979760052090286980:=I
def tw18034637361136204676:=I
def tw15926148508732369828:=I
def tw8388041588129917860:=I
def tw15822092034017591204:=I
def tw3609157246590579652:=I
def tw5976293401765203940:=I
def tw6296717236038793188:=I
def tw8338582104592240709:=I
def tw4718752938712056933:=I
def tw5447497863687914597:=I
def tw4827325804554159237:=I
def tw1208204632808894597:=I
def tw255467506268868837:=I
def tw6492485948021878021:=I
def tw12226421226011089189:=I
def tw6261388046612143429:=I
def tw6671874934658785605:=I
def tw10737494123311248741:=I
def tw7883523913981034885:=I
def tw11989230787419580837:=I
def tw3082919240539996613:=I
def tw10654465581960868325:=I
def tw6453838479017878053:=I
def tw17441256705945679429:=I
def tw13077198699824160357:=I
def tw11126626217949779557:=I
def tw3522864567237645957:=I
def tw17757845585308930693:=I
def tw10904343858616853125:=I
def tw4785197212123615909:=I
def tw14819155738971882213:=I
def tw13149117012675668741:=I
def tw6051982741029675781:=I
def tw2633027827715864421:=I
def tw11895616480915956677:=I
def tw211612939049382918:=I
def tw513668365852306438:=I
def tw1076509643228074022:=I
def tw11273109950635110470:=I
def tw17579095047208364134:=I
def tw17451914509188144294:=I
def tw2724208218904976550:=I
def tw6266775609999848614:=I
def tw1539665904250942662:=I
def tw3732501793092039878:=I
def tw17364844496178976006:=I
def tw2389670628142400774:=I
def tw17341332780808768902:=I
def tw8345788183891332486:=I
def tw15861349962447295974:=I
def tw1272127917015201286:=I
def tw7745437657805722150:=I
def tw2937750282103336486:=I
def tw15393490857565814310:=I
def tw11717319088711806566:=I
def tw16601622638431152774:=I
def tw14908570112056109702:=I
def tw1330347238715451046:=I
def tw749465150509686534:=I
def tw12485849995558061894:=I
def tw294692051810396006:=I
def tw10103916894200247174:=I
def tw10563304640306448326:=I
def tw9753535528035528646:=I
def tw18406314179890825158:=I
def tw11192377366121334758:=I
def tw18358910389718089702:=I
def tw14629956193898377255:=I
def tw2817948914595915815:=I
def tw5915646919202201671:=I
def tw10356530548375844967:=I
def tw5208182391472605319:=I
def tw8401763405686443175:=I
def tw14311724518118773927:=I
def tw3375554133861983399:=I
def tw14068582382802860423:=I
def tw11573472952475637159:=I
def tw7294248082041546183:=I
def tw6368392389280101863:=I
def tw1925747701189544455:=I
def tw4481290650874712583:=I
def tw15095213343317261831:=I
def tw10414066629565423143:=I
def tw11866114081357346343:=I
def tw9452486041773734439:=I
def tw9687728850491997735:=I
def tw10797528207052367495:=I
def tw14410902994281061031:=I
def tw6461282728479984327:=I
def tw9451620446615084743:=I
def tw15280840071411850983:=I
def tw8049245518751223591:=I
def tw15980628103008214855:=I
def tw14879024963827807079:=I
def tw8664549918122089415:=I
def tw3020139903129799623:=I
def tw16920313629274467271:=I
def tw9287986708851268583:=I
def tw450582919616791560:=I
def tw9376673123052334088:=I
def tw12098812129112642568:=I
def tw4166212416740298792:=I
def tw7953929998961511496:=I
def tw9751245237540341832:=I
def tw5149226174534794344:=I
def tw2660860889954986184:=I
def tw2158878349053685960:=I
def tw1452199043426069736:=I
def tw12993005763936833768:=I
def tw1062937662975198568:=I
def tw3940911985223420264:=I
def tw16809642468017046920:=I
def tw9610472368696645000:=I
def tw6474651902743924136:=I
def tw10238669914211566024:=I
def tw10870964215318581736:=I
def tw1783906653337213416:=I
def tw13126014296485008904:=I
def tw1812096135052336648:=I
def tw3263017786965930536:=I
def tw15566044179900510792:=I
def tw5840077898154798664:=I
def tw16569488633513651816:=I
def tw4812349005268284072:=I
def tw3810728950632437480:=I
def tw14534263817293989736:=I
def tw3614280635708028776:=I
def tw2467327604318999432:=I
def tw17408892468092430216:=I
def tw13314020078617704360:=I
def tw7786772220279248808:=I
def tw15716062740737182664:=I
def tw12184629061407735752:=I
def tw1046471340421540840:=I
def tw3708495862128676873:=I
def tw17102959685422358569:=I
def tw3142643371816395817:=I
def tw12689220727713104009:=I
def tw11408809378841011337:=I
def tw9990005498967638153:=I
def tw343239579683696841:=I
def tw5365076433372702921:=I
def tw13244701799244600585:=I
def tw6070090701346771273:=I
def tw9897253993924860265:=I
def tw2629817084693737833:=I
def tw6710299817985643913:=I
def tw6540413223851513225:=I
def tw5385455851383875977:=I
def tw14740041450967043497:=I
def tw3265632656868285865:=I
def tw12094976922302304681:=I
def tw6716460879059806665:=I
def tw586485219259814377:=I
def tw555669987756542537:=I
def tw3927960399337033289:=I
def tw12676968621030358601:=I
def tw15751770251971781193:=I
def tw4768176280156245609:=I
def tw11007467378761897641:=I
def tw13472124418475789001:=I
def tw16333801938404447945:=I
def tw16030458416313197353:=I
def tw8281811006472390505:=I
def tw5209719337577242473:=I
def tw1172791384216102793:=I
def tw13169816612889226153:=I
def tw801718894431940618:=I
def tw17112961906960391178:=I
def tw7173352114452031498:=I
def tw4829609910234951754:=I
def tw17039043854871680074:=I
def tw14718239380552952938:=I
def tw8837531650646873226:=I
def tw15557437275302279402:=I
def tw8224449000125004042:=I
def tw15357635963997760842:=I
def tw16061237939337085258:=I
def tw18260315537277819306:=I
def tw2383237657789478346:=I
def tw17608025054528964106:=I
def tw4357549317300882954:=I
def tw12480654816891281962:=I
def tw6584213489788012074:=I
def tw16607417115832784522:=I
def tw826378294583571082:=I
def tw10539395723076466346:=I
def tw9124834718058103626:=I
def tw16659586692852118378:=I
def tw2910943994254645194:=I
def tw10596828828935640107:=I
def tw4034422680255667275:=I
def tw9932081383388848203:=I
def tw9812398510760952011:=I
def tw7575325218249544907:=I
def tw4016926291853688075:=I
def tw9099781486852736299:=I
def tw6525317491753211179:=I
def tw3884594371832061259:=I
def tw14932015510745529675:=I
def tw2464513808120779115:=I
def tw1998899879342814635:=I
def tw8826852612942498251:=I
def tw17823663309904288299:=I
def tw7144916003369381419:=I
def tw15030004265559032523:=I
def tw18029400253192642251:=I
def tw10336931128247042763:=I
def tw4621940082628389611:=I
def tw11896841324007878411:=I
def tw8201601303651026763:=I
def tw10420795945348104011:=I
def tw15342054757992717195:=I
def tw17664019742596990891:=I
def tw10334579352492762027:=I
def tw9984736486176095179:=I
def tw10418883599229819883:=I
def tw2678617929601130540:=I
def tw481006789237485612:=I
def tw1221282982383283244:=I
def tw3666397114557202508:=I
def tw3923309016710556748:=I
def tw3096879411524536460:=I
def tw239248802375142636:=I
def tw6696118065400943852:=I
def tw1951143268070011180:=I
def tw1743127840615150892:=I
def tw3999205034349386060:=I
def tw15993117006881948044:=I
def tw18421202271097401772:=I
def tw15024062386039442892:=I
def tw8385653484982396364:=I
def tw14372610081501608396:=I
def tw7093628452108854764:=I
def tw10890596937302242828:=I
def tw12189740661854269004:=I
def tw5933972883781627564:=I
def tw13490827519295363788:=I
def tw8306795299817472716:=I
def tw3680095449536988908:=I
def tw16723187317327316876:=I
def tw16060338589958359980:=I
def tw11433831559855345741:=I
def tw4733183028651181133:=I
def tw4442554312602250349:=I
def tw6018766165390653549:=I
def tw11120974549854826637:=I
def tw14242020085776790797:=I
def tw15884260882116751661:=I
def tw16680849601284989261:=I
def tw12670912179560422765:=I
def tw5374250998680069485:=I
def tw10147080007189069165:=I
def tw4819799111596051853:=I
def tw15415922273761124877:=I
def tw8065915427157477933:=I
def tw2965314771268262445:=I
def tw6631271305874029165:=I
def tw13586757711716289197:=I
def tw10507877068535712461:=I
def tw7947034986792345293:=I
def tw6590206025642439405:=I
def tw15597887485386974061:=I
def tw6031298875210468366:=I
def tw11468473466196757550:=I
def tw3725649237156328494:=I
def tw1838225677168748622:=I
def tw17008094000745440366:=I
def tw11650667031494227054:=I
def tw979680000840236142:=I
def tw10086715148467110030:=I
def tw15016024371373000878:=I
def tw2651881724966259886:=I
def tw6312883188492178638:=I
def tw375588397170195662:=I
def tw5311175267336896782:=I
def tw14861988694842857774:=I
def tw1185320404085767470:=I
def tw16438473203800736142:=I
def tw14890048067551341966:=I
def tw3514142445123151278:=I
def tw15911029166271017390:=I
def tw2978441274111385006:=I
def tw15683782410769686958:=I
def tw10707279281141069262:=I
def tw15618538898067961294:=I
def tw3578752325876242894:=I
def tw12131212550107819470:=I
def tw2502420690598636046:=I
def tw10077141977620476430:=I
def tw13481545319701512750:=I
def tw17741546203997667886:=I
def tw9446939100246185518:=I
def tw16981891359064847918:=I
def tw13171007706036491854:=I
def tw2862202308381404750:=I
def tw8925949614349885102:=I
def tw701179587711055534:=I
def tw16510391180455799470:=I
def tw4639862210606473934:=I
def tw5709155544186783470:=I
def tw17307690793667254030:=I
def tw9499553973843654414:=I
def tw15831913447074170670:=I
def tw7449489453575991086:=I
def tw7613895850684089166:=I
def tw3128885009942188878:=I
def tw3154041657662889838:=I
def tw5809776254422056846:=I
def tw15118516678726444974:=I
def tw11499693208893988814:=I
def tw10543127671571012558:=I
def tw11473786286381998062:=I
def tw12782840753363104750:=I
def tw9716682073533136878:=I
def tw18018627381925080046:=I
def tw10008540809432974351:=I
def tw3024145281938298927:=I
def tw14921172638991562799:=I
def tw5269051214548011119:=I
def tw17340234170874474607:=I
def tw3214069511265119343:=I
def tw1129511853269811343:=I
def tw10132160305952649359:=I
def tw1179739190314110127:=I
def tw7017289081515495599:=I
def tw10137110676980673743:=I
def tw8209611042869282031:=I
def tw1008986602600728815:=I
def tw10686704087083736335:=I
def tw17618554548863289647:=I
def tw10214548571093525871:=I
def tw15680167130623537519:=I
def tw4798764916068569487:=I
def tw16906085621872055695:=I
def tw3672423206595581327:=I
def tw2700296199638545807:=I
def tw16309318975747750287:=I
def tw10774812217409580591:=I
def tw1045937682474053199:=I
def tw15116652291674549871:=I
def tw6076191313329651343:=I
def tw1821006061716038319:=I
def tw16219490048105349839:=I
def tw2421320349071554255:=I
def tw6915138496644466415:=I
def tw4207837867458357071:=I
def tw4745042589637408655:=I
def tw1140464498913607567:=I
def tw9200891592985166799:=I
def tw12695949794879134800:=I
def tw15094340275982238864:=I
def tw9259738584903131280:=I
def tw955008878038265008:=I
def tw14587599034617310384:=I
def tw8554553190040121552:=I
def tw1121991978944374000:=I
def tw8920097349658548496:=I
def tw13336069932252954928:=I
def tw6684148771521562928:=I
def tw15922177961411752240:=I
def tw1897886194927892784:=I
def tw4686062179731218800:=I
def tw7009013902615355760:=I
def tw12579489849962587504:=I
def tw6708131713362135440:=I
def tw8345722788604103056:=I
def tw17864674921375330704:=I
def tw3575412574827335088:=I
def tw16961748732739318192:=I
def tw11815751731076016624:=I
def tw7974805655967083024:=I
def tw1925078935022389808:=I
def tw16079477499003343440:=I
def tw5943868653605816944:=I
def tw6665743988842048112:=I
def tw13146107340939373200:=I
def tw353776497744822992:=I
def tw11299008154580498256:=I
def tw17689439319034979152:=I
def tw14684569688997261136:=I
def tw12535378404726707120:=I
def tw11409254126650792880:=I
def tw1128264586852058032:=I
def tw10469743158419449776:=I
def tw1716861045009127408:=I
def tw10011447072121645040:=I
def tw8808423085700322321:=I
def tw3634111595945019409:=I
def tw16145763264574007377:=I
def tw15208893671755529329:=I
def tw2969416580331692209:=I
def tw673141325867187377:=I
def tw7360026771705576657:=I
def tw3929687067313597649:=I
def tw12604052573056838897:=I
def tw13014195773230461169:=I
def tw3026107177253546257:=I
def tw7685861671287199025:=I
def tw13358561884637561169:=I
def tw4849922462527665585:=I
def tw5885446205466073521:=I
def tw11676190162461497809:=I
def tw7386381520760611281:=I
def tw12326797332530572753:=I
def tw3311883562302104049:=I
def tw4918962952711989745:=I
def tw3650758475086794257:=I
def tw8388515698053623313:=I
def tw10543411878237360657:=I
def tw7137379424959513137:=I
def tw698629501870566993:=I
def tw10873846851347138225:=I
def tw2724518587561295633:=I
def tw2882216837789486897:=I
def tw1529127521560433457:=I
def tw13433844427539728177:=I
def tw10942215526109111089:=I
def tw9927434688755474289:=I
def tw14925639122075940753:=I
def tw1159309603699262417:=I
def tw10009106024267702225:=I
def tw14436019075922818033:=I
def tw16894328587351490610:=I
def tw7925822736865434738:=I
def tw17069194320499265682:=I
def tw11392948374470498482:=I
def tw4586855777955301554:=I
def tw2459712965065829554:=I
def tw14847384375807747282:=I
def tw8347426099365852434:=I
def tw10577351013936554258:=I
def tw10968293075844317522:=I
def tw5688671205930222930:=I
def tw7311524614694575474:=I
def tw690178816763647346:=I
def tw15188407508162316690:=I
def tw10667284232002329010:=I
def tw11410381107084815826:=I
def tw358345476951881202:=I
def tw8722860272037322226:=I
def tw12721385799926967794:=I
def tw15397291189778888210:=I
def tw12128880055126569522:=I
def tw13123291561073505874:=I
def tw2771861558501013074:=I
def tw1947356084620714610:=I
def tw11771575941922657074:=I
def tw8644090680460726066:=I
def tw8206293029057024818:=I
def tw12784873859043357490:=I
def tw10199308067433413426:=I
def tw9335346367824228242:=I
def tw11988565744388066290:=I
def tw15432209859897326643:=I
def tw8677086423033253971:=I
def tw7972625680317929555:=I
def tw9485153144530134163:=I
def tw10190050766093111475:=I
def tw15112285751296191667:=I
def tw6778039963691274483:=I
def tw6505356085337554163:=I
def tw7413054659001475411:=I
def tw5323208318380936563:=I
def tw2041998702501898611:=I
def tw5415704432557185395:=I
def tw17979287793856116083:=I
def tw1057363379728871827:=I
def tw2391855705348871603:=I
def tw960417889876564435:=I
def tw13466320315031909875:=I
def tw1544770280540561971:=I
def tw16611501202845571699:=I
def tw10330142381880766067:=I
def tw4482313613362079443:=I
def tw16071838465010480851:=I
def tw16730464759825103571:=I
def tw16396837533953806067:=I
def tw9656871047605782291:=I
def tw18304118678552709907:=I
def tw1111487917883558675:=I
def tw9105920966617456467:=I
def tw8928811269485505395:=I
def tw236550586347880371:=I
def tw10460262038549664723:=I
def tw4466094241957978067:=I
def tw10375231879680083923:=I
def tw15712157351229639635:=I
def tw13188268318632016851:=I
def tw11554265952072215604:=I
def tw18132480677673768084:=I
def tw962333803400441076:=I
def tw14577281441520487700:=I
def tw156318231222076788:=I
def tw8827103136485928404:=I
def tw2591993439298426388:=I
def tw17914939804301998612:=I
def tw5476395632708818484:=I
def tw13407293523571458644:=I
def tw10314536940741362324:=I
def tw13563346018912458420:=I
def tw13864281114833066708:=I
def tw5405869293226929908:=I
def tw13338705842516385524:=I
def tw14103849603046802196:=I
def tw4132321734270587668:=I
def tw13246843565938859828:=I
def tw6527297178256258900:=I
def tw14749194233961549684:=I
def tw11530822327646650228:=I
def tw8986813214852392916:=I
def tw1326796277972217812:=I
def tw6581152206486177813:=I
def tw4513932580834224149:=I
def tw17618449370117055541:=I
def tw13994469524723117141:=I
def tw15236017089383798965:=I
def tw2148346490099164373:=I
def tw533425425439235349:=I
def tw16943995979982988565:=I
def tw16589966468252052789:=I
def tw14243587641790265653:=I
def tw16419661987626990933:=I
def tw11178638231958259061:=I
def tw17270880128017993141:=I
def tw17666200627425063349:=I
def tw8554252851153471957:=I
def tw12105240250263442933:=I
def tw13787582772240693781:=I
def tw6784321584011005461:=I
def tw5207682085481242133:=I
def tw84500254802759221:=I
def tw5423542045416283701:=I
def tw18335589236967030421:=I
def tw6004528886446038709:=I
def tw12986777078086708917:=I
def tw11013170894579333845:=I
def tw1342982810709005045:=I
def tw14826823725952077589:=I
def tw9099646225013285653:=I
def tw5089419801013582613:=I
def tw1584311758241957685:=I
def tw12533984625920414517:=I
def tw14234842053048372053:=I
def tw15284382221464905557:=I
def tw13379609874580160341:=I
def tw7670902899207192405:=I
def tw9237385753432592373:=I
def tw13738226921449600022:=I
def tw4665689606299938934:=I
def tw5095551583639726230:=I
def tw1774806818518958262:=I
def tw4672969456409919702:=I
def tw10225423117145261270:=I
def tw14361577270249844982:=I
def tw2953976265952496950:=I
def tw15848277611880269142:=I
def tw13933798030201781622:=I
def tw8014549777681558934:=I
def tw1911561863232619958:=I
def tw4323918446661882294:=I
def tw130888302744772054:=I
def tw18001885708919353814:=I
def tw14113766265126482422:=I
def tw5883632724481809942:=I
def tw5008800002284705302:=I
def tw12124101058172437142:=I
def tw9051766592630223510:=I
def tw2195053725019845334:=I
def tw17853962348848598742:=I
def tw4528478626852901622:=I
def tw9797588368436186902:=I
def tw2442727307488434998:=I
def tw3543747725887086422:=I
def tw18020964738479078262:=I
def tw15120548668538023798:=I
def tw13155391871399925654:=I
def tw1762450351407313910:=I
def tw14931843254449715223:=I
def tw11022692938131298327:=I
def tw7460589226812429431:=I
def tw14702898003813295255:=I
def tw11917754128323851479:=I
def tw12401265292700272855:=I
def tw16551074281950601463:=I
def tw1205782286438790391:=I
def tw12824197479569856823:=I
def tw12348823457004473687:=I
def tw5704602846248657239:=I
def tw6764920505918502295:=I
def tw8299058590607427991:=I
def tw3881868258322049495:=I
def tw16193769111833947639:=I
def tw15196826060662645271:=I
def tw15530394705602244119:=I
def tw973747422645682743:=I
def tw16808293195072365143:=I
def tw16674909702785082999:=I
def tw3436128945144938135:=I
def tw7097280388586589879:=I
def tw3889088901172684503:=I
def tw14570329904626778871:=I
def tw8284922687301378839:=I
def tw7500555524361717623:=I
def tw3256780782866648951:=I
def tw9631122757285981111:=I
def tw4969229877474728919:=I
def tw13031846223270530072:=I
def tw6678882600909638840:=I
def tw6313874007267441848:=I
def tw15215658894483924184:=I
def tw15637412339009877208:=I
def tw10447955251564437784:=I
def tw12216284089994048792:=I
def tw9060031151419657560:=I
def tw12470292500049542520:=I
def tw13240018835603201432:=I
def tw8396231527531060664:=I
def tw11666190927460935096:=I
def tw4346203036883268024:=I
def tw11306889732736444856:=I
def tw4997752852366991864:=I
def tw10872207481944996472:=I
def tw130008498967143064:=I
def tw16889393590468383448:=I
def tw7384655031276606168:=I
def tw16959718321310939864:=I
def tw4292812706664995672:=I
def tw3661086875643703128:=I
def tw15783726401410757496:=I
def tw15757038431442073464:=I
def tw10623631890268420984:=I
def tw11330536243427587992:=I
def tw3489131569449260952:=I
def tw2472147594688097176:=I
def tw18316506042596052920:=I
def tw8319192618104584281:=I
def tw6852932132783388761:=I
def tw5136113406527319225:=I
def tw16552933939344699577:=I
def tw18099673276287909049:=I
def tw15353601289044570329:=I
def tw7685536335851619577:=I
def tw1011007767211368697:=I
def tw1988555967864472857:=I
def tw15875488362261447001:=I
def tw10465026551770270201:=I
def tw8615667452870880761:=I
def tw16865330069455565337:=I
def tw8114912249873103385:=I
def tw15621770685650822745:=I
def tw6335637244935762553:=I
def tw10618966440268149433:=I
def tw17231706450944354009:=I
def tw10082532153495713497:=I
def tw12456765038477163449:=I
def tw10376496711089984473:=I
def tw5409655474294268921:=I
def tw7876135725477015545:=I
def tw10859805186004858873:=I
def tw120783974672167962:=I
def tw3513824327584876602:=I
def tw2050154913305310266:=I
def tw14059753855240904794:=I
def tw15417777845548210266:=I
def tw10886849545325816954:=I
def tw14103067520392734874:=I
def tw7200496220237538490:=I
def tw4218854817104733434:=I
def tw7673173596896527642:=I
def tw16291472019859116314:=I
def tw957142382557607194:=I
def tw5338500614336922906:=I
def tw10382361618753277210:=I
def tw11815286094241024378:=I
def tw3764648084843718010:=I
def tw16701076984543934842:=I
def tw16974407911595613626:=I
def tw8949558676606460346:=I
def tw16934630998713968090:=I
def tw8214678533411786234:=I
def tw6494795102627125754:=I
def tw13749571412113777146:=I
def tw1058735875132973562:=I
def tw5219321435366275706:=I
def tw9452072027149758202:=I
def tw10356848419581431578:=I
def tw15697390676682665754:=I
def tw16884642653578113850:=I
def tw14692906327517609818:=I
def tw17775487213765934970:=I
def tw9284023474004820890:=I
def tw17318957472611381146:=I
def tw15871494359443223450:=I
def tw1610174960380502938:=I
def tw14329504758942632890:=I
def tw36087904694478778:=I
def tw10768166215154084826:=I
def tw16723887975915055066:=I
def tw1907392265622572059:=I
def tw12674528602844622875:=I
def tw3461976504640327867:=I
def tw6030044033474665691:=I
def tw3714338889505267963:=I
def tw1355431647728022811:=I
def tw554023336372977947:=I
def tw3102582823043841371:=I
def tw5200073208987301339:=I
def tw15151561814725370395:=I
def tw8563413546910678555:=I
def tw359523943710171707:=I
def tw15770414682647638651:=I
def tw12136104046693674619:=I
def tw460110594609161915:=I
def tw15333850972251441883:=I
def tw7376879555105388315:=I
def tw16804685093338660731:=I
def tw11547036587622123387:=I
def tw4563120451734305723:=I
def tw17085249359326238683:=I
def tw4406323815798593499:=I
def tw12468763312407507931:=I
def tw13199678059270465628:=I
def tw3723688525094522012:=I
def tw14754745673966652572:=I
def tw7000725320920508572:=I
def tw18224246910984510652:=I
def tw5916371173772101852:=I
def tw16170533241555668188:=I
def tw6073080967457541372:=I
def tw4600308748010707196:=I
def tw10436144364558420252:=I
def tw387957912477399356:=I
def tw2626990834981317980:=I
def tw10995505995718759804:=I
def tw2627214802609484156:=I
def tw12557412202128466300:=I
def tw10326515969884588444:=I
def tw10894750467730069916:=I
def tw17863854089285470716:=I
def tw10890933974065735196:=I
def tw4845487271312315964:=I
def tw966649559916114524:=I
def tw8315837791973147260:=I
def tw9256850200613223068:=I
def tw8350261894696625884:=I
def tw2050772850179193596:=I
def tw4671041473987881756:=I
def tw8794896418300802876:=I
def tw7824193501179124604:=I
def tw6260403571334259580:=I
def tw16758135472876180412:=I
def tw7160848743314347964:=I
def tw6693822514758438876:=I
def tw6675308312349968380:=I
def tw1608785793924692988:=I
def tw1668314556419440669:=I
def tw9752461867139648573:=I
def tw1155463591550499965:=I
def tw17138408025453428893:=I
def tw649844958021944541:=I
def tw8940010246225149149:=I
def tw5014198244254141661:=I
def tw9197891956788801789:=I
def tw17595533950203171165:=I
def tw13854366735440914813:=I
def tw883360636767928733:=I
def tw10232270124126571005:=I
def tw3683883002111146525:=I
def tw6677139228786933277:=I
def tw1833384900664680989:=I
def tw9307935138310547037:=I
def tw18379456490529756797:=I
def tw16506304903163902589:=I
def tw10741544163864808093:=I
def tw12218527265709651613:=I
def tw13893678120483970749:=I
def tw18037206074037299901:=I
def tw2544173782172271325:=I
def tw10381515625022623485:=I
def tw5390372853609273117:=I
def tw14681235438368758557:=I
def tw14671332336016158493:=I
def tw5892643399737731901:=I
def tw16949496478086660989:=I
def tw4965269314998344605:=I
def tw10766350071277193149:=I
def tw1289941294486471613:=I
def tw6148374034702774237:=I
def tw6145943357710296158:=I
def tw14788259954890363038:=I
def tw2848130918891741342:=I
def tw7735938498348816574:=I
def tw11469816021596903614:=I
def tw8222998436831468734:=I
def tw6531876075210731742:=I
def tw7945064082770727166:=I
def tw9911353013565393246:=I
def tw17650497592804713854:=I
def tw16807003545947792798:=I
def tw6561481577950030270:=I
def tw959831080717613502:=I
def tw12755803394784548446:=I
def tw17944565669138095710:=I
def tw10841584171653911166:=I
def tw15593351035843411614:=I
def tw17128433785967495870:=I
def tw17127845041991731934:=I
def tw16191599786495994654:=I
def tw7001383878987711294:=I
def tw10703242030924083006:=I
def tw18260671204118671166:=I
def tw11298873704767520606:=I
def tw17361988270108602270:=I
def tw11149060615125761950:=I
def tw18196440780192689118:=I
def tw11925197959680249854:=I
def tw9678733811159586814:=I
def tw11528687089205932063:=I
def tw9168982031849903167:=I
def tw9622878752929241151:=I
def tw9624810321987305567:=I
def tw12857139042446938271:=I
def tw6963758798850872479:=I
def tw530005095030672639:=I
def tw18090094349495382303:=I
def tw16166485933603496255:=I
def tw6404700457842202943:=I
def tw7360744047710027103:=I
def tw1874307217471276415:=I
def tw11477086688031363455:=I
def tw11434302177719355839:=I
def tw1266314856838072799:=I
def tw641587366621456863:=I
def tw3482066176391482911:=I
def tw5112857819721646623:=I
def tw14795802728914060863:=I
def tw8962462687400218175:=I
def tw3542259467477282399:=I
def tw3108023499081135743:=I
def tw8104274347686955679:=I
def tw9813277098449152671:=I
def tw16860755592704770719:=I
def tw12188771752006243007:=I
def tw3168032556606031583:=I
def tw16117489921490898655:=I
def tw2978423507053339423:=I
def tw18357483810562043711:=I
def tw8007738936015084383:=I
def tw16526883841842523007:=I
def tw1990315391494855583:=I
def tw16773264915352929183:=I
end PySem.W.Fast
open PySem PySem.W PyProof.Rows
set_option maxRecDepth 100000 in
set_option maxHeartbeats 0 in
theorem PySem.Challenge.cw_stripmeld_k26_full_book_holds : PySem.Challenge.rw_stripmeld_k26_full_book.Holds := by
 w_on;o_law;k_head;(case hw=>w_witness2)
 k_fill
 refine L2.Zfx (l:=PySem.Challenge.rw_stripmeld_k26_full_book) (n:=63) (k:=9) (x:="_law_script") (CX:=L2.CX0) (sp:=Pu.AI) rfl (by decide) rfl ⟨rfl,by decide,by decide,rfl⟩ (fun w h Y=>PySem.W.kIn_of Y) ?F ?S ?C
 case F=>
  intro w mg fa h KX G hmg
  refine' T.Zap KX G hmg ?JQ ?JT ?JU ?JV ?JW ?JX ?JY ?JZ ?Ua ?Ub ?a1 ?a2 ?a3 ?a4 ?a5 ?a6 ?a7 ?a8 ?a9 ?a10 ?a11 ?a12 ?a13 ?a14 ?a15 ?a16 ?a17 ?a18 ?a19 ?a20 ?a21 ?a22 ?a23 ?a24 ?a25 ?a26 ?a27 ?a28 ?a29 ?a30 ?a31 ?a32 ?a33 ?a34 ?a35 ?a36 ?a37 ?a38 ?a39 ?a40 ?a41 ?a42 ?a43 ?a44 ?a45 ?a46 ?a47 ?a48 ?a49 ?a50 ?a51 ?a52 ?a53 ?a54 ?a55 ?a56 ?a57 ?a58 ?a59 ?a60 ?l60 ?c60 ?k60 ?Uc ?Ud ?Ue ?Ug ?Uh ?Ui ?Uj ?Uk ?Ul ?Um ?Uo ?Up ?Uq ?Ur ?Us ?Ut ?Uu ?Uv ?Uw ?Ux ?Uy ?U0 ?U1 ?zm_DEEDS ?zl_DEEDS ?ze_DEEDS ?J9 ?JA ?JB ?JR ?JC ?JD ?JE ?JF ?JG ?JH ?JI ?JJ ?JK ?JL ?JM ?JN ?JO ?J8 ?x_Ringed ?x_all ?x_BookFull_BookFull ?k_BookFull_MeldError ?k_BookFull_ValueError
  (case JQ|JT|JU|JV|JW|JX|JY|JZ|Ua|Ub=>k_is)
  (case a1|a2|a3|a4|a5|a6|a7|a8|a9|a10|a11|a12|a13|a14|a15|a16|a17|a18|a19|a20|a21|a22|a23|a24=>apply Pu.di<;>k_is)
  (case a25|a26|a27|a28|a29|a30|a31|a32|a33|a34|a35|a36|a37|a38|a39=>apply Pu.mi<;>k_is)
  (case a40|a41|a42|a43|a44|a45|a46|a47|a48|a49|a50|a51|a52|a53|a54|a55|a56|a57|a58|a59=>apply Pu.di<;>k_is)
  (case a60|l60|c60|k60|Uc|Ud|Ue|Ug|Uh|Ui|Uj|Uk|Ul|Um|Uo|Up|Uq|Ur|Us|Ut|Uu|Uv|Uw|Ux|Uy|U0|U1=>k_is)
  (case zm_DEEDS=>decide)
  (case zl_DEEDS=>k_is)
  (case ze_DEEDS=>exact⟨⟨_,rfl⟩,rfl,⟨_,rfl⟩,⟨⟨_,rfl⟩,rfl,⟨_,rfl⟩,⟨⟨_,rfl⟩,rfl,⟨_,rfl⟩,⟨⟨_,rfl⟩,rfl,⟨_,rfl⟩,⟨⟨_,rfl⟩,rfl,⟨_,rfl⟩,trivial⟩⟩⟩⟩⟩)
  (case J9|JA|JB|JR|JC|JD|JE|JF|JG|JH|JI|JJ|JK|JL|JM|JN|JO=>apply Pu.ei<;>first|(k_is;done)|k_exc)
  (case J8=>apply Pu.ri<;>first|(k_is;done)|k_exc|rfl)
  (case x_Ringed=>kts_exm)
  (case x_all=>kernel_rfl)
  (case x_BookFull_BookFull=>kts_exm)
  (case k_BookFull_MeldError|k_BookFull_ValueError=>kit_is)
 case S=>exact fun K H a ns hl hO hS=>⟨a,ns,rfl,hS,fun _=>rfl⟩
 case C=>exact fun _ _ _ _ z=>z
