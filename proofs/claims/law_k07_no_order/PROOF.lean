import PyProof.Rows.All
import Wide.All
import OpenK.AllK
import Wide.FinOn
import Lean
import PyProof.EqAt
import PyProof.EqKinds
import PyProof.TupleCall
import PySem.Challenge.RW_stripmeld_k07_no_order
set_option Elab.async false
set_option linter.all false
set_option compiler.extract_closed false
set_option genSizeOf false
set_option maxRecDepth 100000
def bu_0(h:True:=by rfl):True:=h
def au_0:Lean.Syntax:=bu_0._auto_1
def bu_1(h:True:=by decide):True:=h
def au_1:Lean.Syntax:=bu_1._auto_1
def bu_2(h:True:=by first | exact .inl rfl | exact .inr rfl | assumption):True:=h
def au_2:Lean.Syntax:=bu_2._auto_1
def bu_3(h:True:=by intro _; rfl):True:=h
def au_3:Lean.Syntax:=bu_3._auto_1
def bu_4(h:True:=by first | exact Or.inl rfl | exact Or.inr (Or.inl rfl) | exact Or.inr (Or.inr rfl)):True:=h
def au_4:Lean.Syntax:=bu_4._auto_1
def bu_5(h:True:=by decide +kernel):True:=h
def au_5:Lean.Syntax:=bu_5._auto_1
def bu_6(h:True:=by first | exact Or.inl rfl | exact Or.inr rfl):True:=h
def au_6:Lean.Syntax:=bu_6._auto_1
def bu_7(h:True:=by intro _ _; rfl):True:=h
def au_7:Lean.Syntax:=bu_7._auto_1
def bu_8(h:True:=by kernel_rfl):True:=h
def au_8:Lean.Syntax:=bu_8._auto_1
def bu_9(h:True:=by intro _; first | exact Or.inl rfl | exact Or.inr (Or.inl rfl) | exact Or.inr (Or.inr rfl)):True:=h
def au_9:Lean.Syntax:=bu_9._auto_1
def bu_10(h:True:=by intro _; exact ⟨rfl, rfl, rfl⟩):True:=h
def au_10:Lean.Syntax:=bu_10._auto_1
def bu_11(h:True:=by with_unfolding_all rfl):True:=h
def au_11:Lean.Syntax:=bu_11._auto_1
def bu_12(h:True:=by intro _; first | exact Or.inl rfl | exact Or.inr rfl):True:=h
def au_12:Lean.Syntax:=bu_12._auto_1
def bu_13(h:True:=by intro _; first | exact .inl rfl | exact .inr rfl | assumption):True:=h
def au_13:Lean.Syntax:=bu_13._auto_1
def bu_14(h:True:=by intro _; kernel_rfl):True:=h
def au_14:Lean.Syntax:=bu_14._auto_1
open PySem PySem.Spec PyProof.Rows
noncomputable section
def Wb:=@PySem.wpAny_bind
def Wc:=@List.getElem?_eq_getElem
def Wd:=@List.length_map
def We:=@PySem.Heap.get?_push_of_some
def Wf:=@List.mem_singleton
def Wg:=@PySem.wpAny_pure
def Wh:=@PySem.Heap.lt_size
def Wi:=@decide_eq_true
def Wj:=@List.getD_eq_getElem?_getD
def Wk:=@Nat.le_refl
def Wl:=@if_neg
def Wm:=@Option.some.inj
def Wn:=@PySem.Heap.get?_push_size
def Wo:=@List.mem_cons
def Wp:=@if_pos
def Wq:=@decide_eq_false
def Wr:=@List.mem_cons_of_mem
def Ws:=@List.getElem?_map
def Wt:=@Bool.false_ne_true
def Wu:=@Nat.le_trans
def Wv:=@Nat.lt_of_lt_of_le
def Ww:=@Nat.ne_of_lt
def Wx:=@of_decide_eq_true
def Wy:=@List.mem_append_right
def Wz:=@List.mem_cons_self
def W1:=@List.length_append
def W2:=@Bool.and_eq_true
def W3:=@List.map_cons
def W4:=@List.size_toArray
def W5:=@List.map_append
def W6:=@List.all_eq_true
def W7:=@PyProof.Rows.boot_isinstance
def W8:=@PySem.W.mg_of
def W9:=@PySem.W.mg_none_of
def WA:=@PySem.wpAny_mono
def WB:=@List.getElem_mem
def WC:=@List.mem_map
def WD:=@Int.toNat_natCast
def WE:=@List.append_nil
def WG:=@List.length_cons
def WH:=@List.mem_append
def WI:=@PySem.W.kia_one
def WJ:=@congrArg
def WK:=@PySem.Heap.get?_update_other
def WL:=@List.getElem?_eq_some_iff
def WM:=@List.getElem?_append_left
def WN:=@Array.getElem?_eq_getElem
def WO:=@List.drop_eq_getElem_cons
def WQ:=@PySem.Heap.get?_update_self
def WR:=@PySem.PassesOwn.never
def WS:=@List.mem_of_getElem?
def WT:=@List.take_succ_eq_append_getElem
def WU:=@List.filterMap_eq_map'
def WV:=@Array.length_toList
def WW:=@List.lookup_cons
def WX:=@PySem.Obj.data_mapFields
def WY:=@List.map_map
def WZ:=@Int.le_refl
def Qa:=@PySem.wpAny_newObj_type
def Qb:=@PySem.Heap.SameBut.update
def Qc:=@Array.getElem?_toList
def Qd:=@Nat.zero_le
def Qe:=@List.mem_append_left
def Qf:=@Nat.lt_irrefl
def Qg:=@PySem.F.plainAttrs_list
def Qh:=@List.filterMap_cons
def Qi:=@PySem.mem_of_lookup
def Qj:=@List.length_take
def Qk:=@PyProof.Rows.callWith_type1
def Ql:=@PySem.codeAny_mono
def Qm:=@PySem.wpAny_passesOwn
def Qn:=@List.find?_cons
def Qo:=@PySem.codeAny_builtin
def Qp:=@PySem.Obj.isFreed_of_fields
def Qq:=@List.length_filter_le
def Qr:=@List.length_set
def Qs:=@List.getElem?_append_right
def Qt:=@PySem.wpAny_truthy_bool
def Qu:=@PySem.wpAny_setState_of
def Qv:=@PySem.wpAny_setField
def Qw:=@Nat.le_of_eq
def Qx:=@beq_eq_false_iff_ne
def Qy:=@List.mem_filter
def Qz:=@Bool.eq_iff_iff
def Q0:=@PySem.wpAny_Call_Name_kw
def Q1:=@PySem.W.callWith_K
def Q2:=@Nat.le_succ
def Q3:=@PySem.wpAny_loadPart_at
def Q4:=@List.mem_range
def Q5:=@PySem.W.methodCall_KW
def Q6:=@List.getElem?_eq_none
def Q7:=@List.filterMap_append
def Q8:=@PySem.W.looks_findIn
def Q9:=@PySem.Around.under_plainId
def QA:=@List.not_mem_nil
def QB:=@PySem.wpAny_call_entry
def QC:=@List.take_length
def QD:=@List.mem_iff_getElem
def QE:=@PySem.W.KT.empty_app
def QF:=@List.any_cons
def QG:=@Array.getElem?_eq_some_iff
def QH:=@List.map_congr_left
def QI:=@Nat.le_of_lt
def QJ:=@Nat.lt_of_le_of_lt
def QK:=@Nat.lt_trans
def QL:=@PyProof.Rows.F.entry_set_update_loop
def QM:=@PyProof.Rows.F.plain_set_update_loop
def QN:=@List.idxOf_lt_length_iff
def QO:=@Int.emod_lt_of_pos
def QP:=@PySem.Heap.size_push
def QR:=@PySem.call_meets
def QS:=@Nat.not_lt
def QT:=@List.getElem?_replicate
def QU:=@PySem.fits_of_scanBound
def QV:=@Nat.lt_succ_of_lt
def QW:=@List.append_assoc
def QX:=@Array.getElem?_eq_none
def QY:=@PySem.F.plainAttrs_str
def QZ:=@List.all_cons
def Va:=@PySem.wpAny_holding
def Vb:=@Nat.lt_succ_self
def Vc:=@PySem.W.Looks.ld
def Vd:=@Nat.succ_le_succ
def Ve:=@PySem.F.typeOf_object_class
def Vf:=@PySem.codeAny_handlers_test
def Vg:=@PySem.Heap.get?_none_of_le
def Vh:=@List.getElem?_set_ne
def Vi:=@PySem.wpAny_execs_nil
def Vj:=@Nat.ne_of_gt
def Vk:=@List.nodup_cons
def Vl:=@Option.map_some
def Vm:=@PySem.codeAny_call_builtin
def Vn:=@Int.emod_nonneg
def Vo:=@PySem.W.plainGet_of
def Vp:=@PySem.wpAny_handleBy_cons
def Vq:=@PySem.length_partsBetween
def Vr:=@ne_true_of_eq_false
def Vs:=@List.mem_filterMap
def Vt:=@List.getElem_idxOf
def Vu:=@Bool.true_and
def Vv:=@List.take_sublist
def Vw:=@Option.isSome_map
def Vx:=@Bool.eq_false_iff
def Vy:=@decide_eq_true_eq
def Vz:=@List.cons_append
def V0:=@List.drop_length
def V1:=@Int.add_zero
abbrev Ye:=List (Int×Int)
abbrev Yf:=List Int
abbrev Yg:=List (PySem.Addr×PySem.Obj)
abbrev Yh:=PySem.Str->Option PySem.Value
abbrev Yi:=PySem.Value->PySem.Shared->Prop
abbrev Yj:=List (Option Nat)
abbrev Yk:=List Nat
abbrev Yl:=List PySem.Value
abbrev Ym:=List PySem.Str
abbrev Yn:=List PySem.Expr
abbrev Yo:=List PySem.Stmt
abbrev Yp:=Option PySem.Value
abbrev Yq:=Option PySem.Addr
abbrev Yr:=Array PySem.Value
abbrev Ys:=List (PySem.Str×PySem.Addr)
abbrev Yt:=Array (Int×PySem.Value)
abbrev Yd:=PySem.W.Frag
namespace L2
abbrev Key:=Sum Int Str
noncomputable def KJ:Key->Value->Bool
 | .inl k,v=>Value.isInt k v
 | .inr x,v=>Value.isStrOf x v
noncomputable def Ll(w:World):Key->Int
 | .inl k=>hashInt k
 | .inr x=>hashStr w x
def XQ:∀{k}{v:Value},KJ k v=true->(∃i t,k=Sum.inl i/\v=Value.int i t)\/(∃x t,k=Sum.inr x/\v=Value.str x t)
 | .inl i,v,h=>by
  obtain⟨t,e⟩:=Value.isInt_shape h
  grind
 | .inr x,v,h=>by
  obtain⟨t,e⟩:=Value.isStrOf_shape h
  grind
def Zbd(i:Int)(t:Tok):KJ (.inl i) (.int i t)=true:=by simp[KJ,Value.isInt]
def Mf(x:Str)(t:Tok):KJ (.inr x) (.str x t)=true:=by simp[KJ,Value.isStrOf]
def G7(a b:Int):decide ((Sum.inl a:Key)=Sum.inl b)=(a==b):=by grind
def IF(a b:Str):decide ((Sum.inr a:Key)=Sum.inr b)=decide (a=b):=by simp
def L6(a:Int)(b:Str):decide ((Sum.inl a:Key)=Sum.inr b)=false:=Wq (λq=>nomatch q)
def Lc(a:Str)(b:Int):decide ((Sum.inr a:Key)=Sum.inl b)=false:=Wq (λq=>nomatch q)
noncomputable def Xn(prog:Program)(w:World):PySem.KeyKind prog w Key where
 is:=KJ
 hash:=Ll w
 inj:=λv a b ha hb=>by
  rcases XQ ha with⟨i,t,rfl,rfl⟩|⟨x,t,rfl,rfl⟩
  ·rcases XQ hb with⟨j,u,rfl,e⟩|⟨y,u,rfl,e⟩
   ·injection e with e1 _;rw[e1]
   ·exact nomatch e
  ·rcases XQ hb with⟨j,u,rfl,e⟩|⟨y,u,rfl,e⟩
   ·exact nomatch e
   ·injection e with e1 _;rw[e1]
 byValue:=λk v h=>by
  rcases XQ h with⟨i,t,rfl,rfl⟩|⟨x,t,rfl,rfl⟩<;>rfl
 pyHash:=λhv h=>by
  rcases XQ hv with⟨i,t,rfl,rfl⟩|⟨x,t,rfl,rfl⟩
  ·exact wpAny_pyHash_int h
  ·exact wpAny_pyHash_str h
 eqBool:=λhu hv h=>by
  rcases XQ hu with⟨i,t,rfl,rfl⟩|⟨x,t,rfl,rfl⟩
  ·rcases XQ hv with⟨j,u,rfl,rfl⟩|⟨y,u,rfl,rfl⟩
   ·rw[G7]at h;exact wpAny_eqBool_int h
   ·rw[L6]at h;exact SeqAt.EqAt.int_str i t y u _ _ _ _ h
  ·rcases XQ hv with⟨j,u,rfl,rfl⟩|⟨y,u,rfl,rfl⟩
   ·rw[Lc]at h;exact SeqAt.EqAt.str_int x t j u _ _ _ _ h
   ·rw[IF]at h;exact wpAny_eqBool_str h
 «strs»:=λk x t v h=>by
  rcases XQ h with⟨i,u,rfl,e⟩|⟨y,u,rfl,e⟩
  ·exact nomatch e
  ·injection e with e1 _;subst e1;cases v<;>rfl
def MU(prog:Program)(w:World)(i:Int)(t:Tok):(Xn prog w).is (.inl i) (.int i t)=true:=Zbd i t
def GK(prog:Program)(w:World)(x:Str)(t:Tok):(Xn prog w).is (.inr x) (.str x t)=true:=Mf x t
inductive V where
 |non|bl (b:Bool)|int (i:Int)|str (x:Str)|byt (b:Array UInt8)|flt (b:UInt64)|ref (a:Addr)|ty (n:String)
 deriving DecidableEq
def RelV:V->Value->Prop
 | .non,u=>u=Value.none
 | .bl b,u=>u=Value.bool b
 | .int i,u=>∃t,u=Value.int i t
 | .str x,u=>∃t,u=Value.str x t
 | .byt b,u=>∃t,u=Value.bytes b t
 | .flt b,u=>∃t,u=Value.float b t
 | .ref a,u=>u=Value.ref a
 | .ty n,u=>u=Value.type n
abbrev Vals:List V->Yl->Prop:=Paired RelV
def Vals.length (r:Vals xs us):xs.length=us.length:=Paired.length r
def Vals.get:∀{xs us}{i:Nat}{x:V},Vals xs us->xs[i]?=some x->∃u,us[i]?=some u/\RelV x u:=by
 intro n
 induction n with
 |nil=>
  intro _ i _ h e;simp at e
 |cons _ _ f=>
  intro _ i d h e;cases h with
  |cons h r=>
   cases i with
   |zero=>
    simp at e;subst e;exact⟨_,rfl,h⟩
   |succ i=>
    obtain⟨v,l,g⟩:=f r (by simpa using e);exact⟨v,by simpa using l,g⟩
theorem Vals.set (r:RelV x u):∀{xs us} i,Vals xs us->Vals (xs.set i x) (us.set i u)
 |_,_,_,.nil=>.nil
 |_,_,0,.cons _ t=>.cons r t
 |_,_,i+1,.cons q t=>.cons q (Vals.set r i t)
def Vals.append:∀{xs f}{us g:Yl},Vals xs us->Vals f g->Vals (xs++f) (us++g):=by
 intro n
 induction n with
 |nil=>
  intro _ _ _ h s;cases h
  exact s
 |cons _ _ l=>
  intro _ _ _ h s;cases h with
  |cons h r=>
   exact .cons h (l r s)
theorem Vals.take:∀{xs us} n,Vals xs us->Vals (xs.take n) (us.take n)
 |_,_,0,_|_,_,_+1,.nil=>.nil
 |_,_,n+1,.cons r t=>.cons r (Vals.take n t)
theorem Vals.drop:∀{xs us} n,Vals xs us->Vals (xs.drop n) (us.drop n)
 |_,_,0,r=>r
 |_,_,_+1,.nil=>.nil
 |_,_,n+1,.cons _ t=>Vals.drop n t
def RelO:Option V->Yp->Prop
 |some v,some u=>RelV v u
 |none,none=>True
 |_,_=>False
def KV{f:Type}:List (f×V)->List (f×Value)->Prop:=Paired λ(p:f×V) (q:f×Value)=>p.1=q.1/\RelV p.2 q.2
noncomputable def kV:Key->V
 | .inl i=>.int i
 | .inr x=>.str x
inductive HO where
 |lst (xs:List V)
 |tup (xs:List V)
 |dK (kvs:List (Key×V))|dT (kvs:List (List Key×V))
 |set (S:Int->Bool) (n:Nat)
 |ins (C dx:Addr) (fs:List (Str×V))
 |own (x:Addr)
 |xd (fs:List (Str×V))
 |met (f x:Addr)
 |rng (lo hi:Int)
 |frz (o:Obj) (u:HO)
 |tbl (ps:Yr)
 |ext (φ:Heap->Prop)
abbrev Hp:=Addr->Option HO
noncomputable def upd(H:Hp)(a:Addr)(o:HO):Hp:=λb=>if b=a then some o else H b
def Ur:upd H a o a=some o:=by unfold upd;rw[Wp rfl]
def Ug{a b o}(h:b≠a):upd H a o b=H b:=by unfold upd;rw[Wl h]
def Za3:upd (upd H a o) a u=upd H a u:=by
 funext b;unfold upd;split<;>rfl
def GW{H:Hp}{a b}{o u}(h:H a=some o)(f:H b=some u)(d:o≠u):a≠b:=by grind
def U3{H:Hp}{a b}{o}(h:H a=some o)(f:H b=none):a≠b:=by grind
section
variable (P:Program) (w:World)
def ObjOk(H:Hp)(h:Heap)(a:Addr):HO->Prop
 | .lst xs=>xs.length<=sizeLine/\∃(l:Yl) (n:Nat),Vals xs l/\h.get? a=some {cls:=.type "list",data:=.seq l.toArray n}
 | .tup xs=>xs.length<=sizeLine/\∃l:Yl,Vals xs l/\IsTup h a l.toArray
 | .dK g=>g.length<=sizeLine/\(a==sysModules)=false/\∃z,KV g z/\h.DictOf (Xn P w) a z
 | .dT g=>g.length<=sizeLine/\(a==sysModules)=false/\∃xs:List (List Key×Addr×Value),
   Paired (λ(p:List Key×V) (q:List Key×Addr×Value)=>p.1=q.1/\H q.2.1=some (.tup<|p.1.map kV)/\RelV p.2 q.2.2) g xs/\
   ∃o E L,h.get? a=some o/\o.ExactDict/\o.data=.dict E L/\E.toList=xs.map (entryOfKey<|tupleKind<|Xn P w)/\(xs.map (·.1)).Nodup
 | .set S n=>h.SetOf (intKind P w) a S n
 | .ins C s fs=>H s=some (.own a)/\fs.length<=1000/\s≠a/\h.get? a=some (PySem.W.instObj C s)/\
   ∃r,h.Ns1 s r/\(∀f,RelO (fs.lookup f) (r f))/\PySem.Within r (fs.map (·.1))
 | .own _=>∃o,h.get? a=some o
 | .xd fs=>∃r,h.Ns1 a r/\∀f,RelO (fs.lookup f) (r f)
 | .rng lo J=>∃t u v,h.get? a=some {cls:=.type "range",data:=.fields #[.int lo t,.int J u,.int 1 v]}
 | .frz o u=>h.get? a=some o/\ObjOk H h a u
 | .tbl G=>h.get? a=some {cls:=.none,data:=.fields G}
 | .met f x=>h.get? a=some (PySem.W.methodObj (.ref f)<|.ref x)
 | .ext y=>y h/\(∃o,h.get? a=some o)/\∀B A:Heap,y B->(∀o,B.get? a=some o->A.get? a=some o)->y A
def HOk(H:Hp)(h:Heap):Prop:=∀a o,H a=some o->ObjOk P w H h a o
end
section
variable {P:Program}{w:World}{H H':Hp}{h h':Heap}{a:Addr}{o:HO}
def ObjOk.lt (x:ObjOk P w H h a o):a<h.objs.size:=by
 cases o with
 |lst xs=>obtain⟨_,_,_,_,e⟩:=x;exact Wh e
 |tup xs=>obtain⟨_,_,_,p⟩:=x;exact p.lt
 |set S n=>obtain⟨o,_,_,_,e,_⟩:=x;exact Wh e
 |ins C s fs=>obtain⟨_,_,_,e,_⟩:=x;exact Wh e
 |own y=>obtain⟨_,e⟩:=x;exact Wh e
 |xd fs=>obtain⟨_,⟨_,_,_,e,_⟩,_⟩:=x;exact Wh e
 |rng lo r=>obtain⟨_,_,_,e⟩:=x;exact Wh e
 |frz q u=>obtain⟨e,_⟩:=x;exact Wh e
 |tbl l|met f y=>exact Wh x
 |ext g=>obtain⟨_,⟨_,e⟩,_⟩:=x;exact Wh e
 |_=>obtain⟨_,_,_,_,o,_,_,e,_⟩:=x;exact Wh e
def Paired.mapP:∀{l:List s}{g:List q},Paired F l g->(∀a b,F a b->G a b)->Paired G l g:=by
 intro p
 induction p with
 |nil=>
  intro _ h _;cases h
  exact .nil
 |cons _ _ n=>
  intro _ h f;cases h with
  |cons h r=>
   exact .cons (f _ _ h) (n r f)
def ObjOk.stay (x:ObjOk P w H h a o) (k:∀b u,(b=a\/H b=some (.own a))->h.get? b=some u->h'.get? b=some u)
  (Q:∀b,H b=some (.own a)->H' b=some (.own a)) (N:∀b xs,H b=some (.tup xs)->H' b=some (.tup xs)):ObjOk P w H' h' a o:=by
 induction o with
 |lst xs=>obtain⟨z,A,n,r,e⟩:=x;exact⟨z,A,n,r,k _ _ (.inl rfl) e⟩
 |tup xs=>obtain⟨z,A,r,g,e,c⟩:=x;exact⟨z,A,r,g,k _ _ (.inl rfl) e,c⟩
 |dK G=>obtain⟨z,y,J,r,g,l,s,e,c⟩:=x;exact⟨z,y,J,r,g,l,s,k _ _ (.inl rfl) e,c⟩
 |dT G=>
  obtain⟨z,y,xs,r,g,l,s,e,c⟩:=x;exact⟨z,y,xs,Paired.mapP r λp q z=>⟨z.1,N _ _ z.2.1,z.2.2⟩,g,l,s,k _ _ (.inl rfl) e,c⟩
 |set S n=>obtain⟨g,l,s,t,e,c⟩:=x;exact⟨g,l,s,t,k _ _ (.inl rfl) e,c⟩
 |ins C dx fs=>
  obtain⟨d,z,L,e,E,⟨B,l,s,T,c⟩,r⟩:=x;exact⟨Q _ d,z,L,k _ _ (.inl rfl) e,E,⟨B,l,s,k _ _ (.inr d) T,c⟩,r⟩
 |own y=>obtain⟨g,e⟩:=x;exact⟨g,k _ _ (.inl rfl) e⟩
 |xd fs=>obtain⟨E,⟨B,l,s,e,c⟩,r⟩:=x;exact⟨E,⟨B,l,s,k _ _ (.inl rfl) e,c⟩,r⟩
 |rng lo hi=>obtain⟨t,u,v,e⟩:=x;exact⟨t,u,v,k _ _ (.inl rfl) e⟩
 |frz g u M=>obtain⟨e,q⟩:=x;exact⟨k _ _ (.inl rfl) e,M q⟩
 |tbl Y=>
  have e:=x;exact k a _ (.inl rfl) e
 |met f y=>
  have e:=x;exact k a _ (.inl rfl) e
 |ext U=>obtain⟨p,⟨o,e⟩,st⟩:=x;exact⟨st _ _ p λo q=>k _ _ (.inl rfl) q,⟨o,k _ _ (.inl rfl) e⟩,st⟩
def HOk.lt (x:HOk P w H h) (e:H a=some o):a<h.objs.size:=(x a o e).lt
def HOk.fresh (x:HOk P w H h) (e:h.objs.size<=a):H a=none:=by
 cases q:H a with
 |none=>rfl
 |some u=>exact absurd (Wv (x.lt q) e) (Qf _)
def HOk.kept (x:HOk P w H h) (k:∀b u,h.get? b=some u->h'.get? b=some u):HOk P w H h':=λa o e=>
 (x a o e).stay (λb u _ q=>k b u q) (λ_ q=>q) λ_ _ q=>q
def HOk.laid (x:HOk P w H h) (k:∀b u,h.get? b=some u->h'.get? b=some u) (l:h.objs.size<=a) (new:ObjOk P w (upd H a o) h' a o):HOk P w (upd H a o) h':=λb u e=>by
 have f:=x.fresh l;by_cases g:b=a
 ·subst g;rw[Ur]at e;cases e;exact new
 ·rw[Ug g]at e;exact(x b u e).stay (λc v _ q=>k c v q) (λc q=>by rw[Ug (U3 q f)];exact q) λc xs q=>by rw[Ug (U3 q f)];exact q
end
def Rd(H:Hp)(a:Addr)(u:HO):Prop:=H a=some u\/∃o,H a=some (.frz o u)
def Rd.ok {H h a u} (r:Rd H a u) (x:HOk P w H h):ObjOk P w H h a u:=by
 rcases r with r|⟨o,r⟩
 ·exact x a u r
 ·obtain⟨_,q⟩:=x a _ r;lia
def Mut:Option HO->Prop
 |some (.lst _)=>True
 |some (.dK _)=>True
 |some (.dT _)=>True
 |some (.set _ _)=>True
 |some (.ins _ _ _)=>True
 |some (.ext _)=>True
 |_=>False
section
variable {P:Program}{w:World}{H:Hp}{h h':Heap}{x e:Addr}{o':HO}
def HOk.write (ok:HOk P w H h) (g:Mut (H x)) (A:e=x\/H e=some (.own x)) (k:∀b u,b≠e->h.get? b=some u->h'.get? b=some u) (l:∃u,h'.get? e=some u)
  (new:ObjOk P w (upd H x o') h' x o'):HOk P w (upd H x o') h':=λb u q=>by
 have nown:∀c y,H c=some (.own y)->c≠x:=λc y r z=>by subst z;rw[r]at g;exact g
 have ntup:∀c xs,H c=some (.tup xs)->c≠x:=λc xs r z=>by subst z;rw[r]at g;exact g
 by_cases p:b=x
 ·subst p;rw[Ur]at q;cases q;exact new
 ·rw[Ug p]at q;by_cases f:b=e
  ·have n:H b=some (.own x):=by
    rcases A with z|z
    ·grind
    ·rw[f];exact z
   rw[q]at n;cases n;obtain⟨v,s⟩:=l;exact⟨v,by rw[f];exact s⟩
  ·refine(ok b u q).stay (λc v o r=>k c v ?_ r) (λc r=>by rw[Ug (nown c b r)];exact r) λc xs r=>by rw[Ug (ntup c xs r)];exact r
   rcases o with rfl|o
   ·exact f
   ·grind
end
structure Un (fs ex:List Addr) (H H':Hp) (h h':Heap):Prop where
 keep:∀b o,h.get? b=some o->H b=none->b∉fs->b∉ex->h'.get? b=some o
 slot:∀b o,h.get? b=some o->H b=none->b∈fs->b∉ex->∃sl,h'.get? b=some {o with slots:=sl}
 free:∀b o,h.get? b=some o->H b=none->b∉ex->H' b=none
 there:∀b o,h.get? b=some o->b∉ex->∃o',h'.get? b=some o'
 tups:∀b xs,H b=some (.tup xs)->H' b=some (.tup xs)
 frzs:∀b o u,H b=some (.frz o u)->H' b=some (.frz o u)
 tbls:∀b ps,H b=some (.tbl ps)->∃more,H' b=some (.tbl (ps++more))
section
variable {fs fs' ex ex':List Addr}{H H1 H2:Hp}{h h1 h2 h':Heap}{a x e:Addr}{o:HO}
def Un.any (u:Un fs ex H H1 h h1) {b f} (q:h.get? b=some f) (n:H b=none) (hx:b∉ex):∃sl,h1.get? b=some {f with slots:=sl}:=by
 by_cases g:b∈fs
 ·exact u.slot b f q n g hx
 ·exact⟨f.slots,u.keep b f q n g hx⟩
def Un.kept (k:∀b u,h.get? b=some u->h'.get? b=some u):Un fs ex H H h h':=
 ⟨λb f q _ _ _=>k b f q,λb f q _ _ _=>⟨f.slots,k b f q⟩,λ_ _ _ n _=>n,λb f q _=>⟨f,k b f q⟩,λ_ _ q=>q,λ_ _ _ q=>q,λ_ g q=>⟨#[],by rw[q];simp⟩⟩
def Un.refl:Un fs ex H H h h:=Un.kept λ_ _ q=>q
def Un.laid (k:∀b u,h.get? b=some u->h'.get? b=some u) (hp:h.objs.size<=a) (hn:H a=none):Un fs ex H (upd H a o) h h' where
 keep:=λb u q _ _ _=>k b u q
 slot:=λb u q _ _ _=>⟨u.slots,k b u q⟩
 free:=λb u q n _=>by rw[Ug (Ww<|Wv (Wh q) hp)];exact n
 there:=λb u q _=>⟨u,k b u q⟩
 tups:=λb xs q=>by rw[Ug (U3 q hn)];exact q
 frzs:=λb u xs q=>by rw[Ug (U3 q hn)];exact q
 tbls:=λb ps q=>⟨#[],by rw[Ug (U3 q hn),q];simp⟩
def Un.write (f:Mut (H x)) (v:e=x\/H e=some (.own x)) (k:∀b u,b≠e->h.get? b=some u->h'.get? b=some u) (s:∃u,h'.get? e=some u):Un fs ex H (upd H x o) h h':=by
 have hx:∀b,H b=none->b≠x:=λb n z=>by subst z;rw[n]at f;exact f
 have l:∀b,H b=none->b≠e:=λb n z=>by
  rcases v with r|r
  ·grind
  ·grind
 have g:∀b u,H b=some u->¬Mut (some u)->b≠x:=λb u q p z=>by subst z;rw[q]at f;exact p f
 refine⟨λb u q n _ _=>k b u (l b n) q,λb u q n _ _=>⟨u.slots,k b u (l b n) q⟩,λb u q n _=>by rw[Ug (hx b n)];exact n,λb u q _=>?_,
  λb xs q=>by rw[Ug (g b _ q λz=>z)];exact q,λb u xs q=>by rw[Ug (g b _ q λz=>z)];exact q,λb y q=>⟨#[],by rw[Ug (g b _ q λz=>z),q];simp⟩⟩
 by_cases w:b=e
 ·grind
 ·grind
end
noncomputable def trk(h:Heap)(H:Hp):List Addr:=(List.range h.objs.size).filter λa=>(H a).isSome
noncomputable def XX(h:Heap)(H:Hp):Heap:=PySem.W.hideAll h (trk h H)
def HJ(h:Heap)(H:Hp):(XX h H).objs.size=h.objs.size:=PySem.W.hideAll_size _ _
def MY{H b o}(e:h.get? b=some o)(n:H b=none):(XX h H).get? b=some o:=
 PySem.W.hideAll_get _ e λf=>by
  have q:=(Qy.mp f).2
  grind
def G9(e:(XX h H).get? b=some o):h.get? b=some o/\H b=none:=by
 have f:=PySem.W.of_hideAll (trk h H) e;refine⟨f,?_⟩;cases q:H b with
 |none=>rfl
 |some x=>
  have g:b∈trk h H:=Qy.mpr ⟨Q4.mpr (Wh f),by simp[q]⟩;have z:(XX h H).get? b=none:=PySem.W.hideAll_none (trk h H) g
  grind
noncomputable def IC(g h:Heap)(L:Addr):Yg:=(List.range h.objs.size).filterMap λa=>if a=L\/(g.get? a).isSome=true then none else(h.get? a).map λo=>(a,o)
noncomputable def rest(g h:Heap)(L d:Addr):Yg:=(IC g h L).filter λp=>decide (p.1≠d)
structure Mod (K:Yd) (mg:Yh) (base:Heap):Prop where
 kin:K.In base
 glob:base.Ns mainGlobals mg
 blt:∃mb,base.Ns builtinsNs mb/\∀x:Str,x≠"__name__"->mb x=bootBuiltins x
 nolimit:base.NoLimit
structure Cx where
 prog:Program
 w:World
 K:Yd
 mg:Yh
 base:Heap
 A:Around
 N:Ym
 s₀:Shared
 H₀:Hp
 env:Env
 outer:List Env
 stack:List Env
 ex:List Addr
 fn:Str->Bool
 calm:Bool
 pn:Yg
 xe:Yi
noncomputable def frs(l:List Env):List Addr:=l.filterMap (·.frame)
noncomputable abbrev Cx.fs (X:Cx):List Addr:=frs X.outer
def Vis(f:Scope)(x:Str):Prop:=f.names.lookup x=some .local\/f.names.lookup x=some .cell\/f.names.lookup x=some .free
def Loc(f:Scope)(x:Str):Prop:=f.names.lookup x=some .local\/f.names.lookup x=some .cell
def Look(env:Env)(h:Heap)(m:Yh)(x:Str)(u:Value):Prop:=
 (env.kindOf x=some .local/\m x=some u)\/((env.kindOf x=some .cell\/env.kindOf x=some .free)/\∃c,env.cells.lookup x=some c/\h.IsCell c (some u))
structure Cx.Ok (X:Cx):Prop where
 mod:Mod X.K X.mg X.base
 kind:X.env.scope.kind=.function
 glob:X.env.globals=mainGlobals
 blt:X.env.builtins=builtinsNs
 above:X.s₀.heap.objs.size<=X.env.locals
 inj:∀x y c,X.env.cells.lookup x=some c->X.env.cells.lookup y=some c->x=y
 has:∀x,(X.env.kindOf x=some .cell\/X.env.kindOf x=some .free)->∃c,X.env.cells.lookup x=some c
 cab:∀x c,X.fn x=true->X.env.cells.lookup x=some c->X.s₀.heap.objs.size<=c
 hd:X.calm=true->X.A.handled=none
 frames:X.A.frames=some X.stack
 stk:X.stack=X.outer\/(X.stack=X.env::X.outer/\X.env.frame=some X.env.locals)
 exf:∀b∈X.ex,b≠X.env.locals/\∀x c,X.env.cells.lookup x=some c->c≠b
 bs:∀b o,X.base.get? b=some o->X.s₀.heap.get? b=some o/\X.H₀ b=none
 bsz:X.base.objs.size<=X.s₀.heap.objs.size
 noex:∀b o,X.base.get? b=some o->b∉X.ex
 exfs:∀b∈X.ex,b∉X.fs
 funs:X.s₀.heap.FunFrames X.base X.outer
 frf:∀b∈X.fs,X.H₀ b=none
structure Inv (X:Cx) (pins:Yg) (σ:List (Option V)) (H:Hp) (s:Shared):Prop where
 ok:X.Ok
 os:s.os=X.s₀.os
 bare:AllBare s.gens
 base:Un X.fs X.ex X.H₀ H X.s₀.heap s.heap
 loc:∃m,s.heap.Ns X.env.locals m/\∀(i:Nat) (x:Str) (v:V),X.N[i]?=some x->σ[i]?=some (some v)->Vis X.env.scope x->∃u,RelV v u/\Look X.env s.heap m x u
 cell:∀x c,X.env.cells.lookup x=some c->∃v,s.heap.IsCell c v
 free:H X.env.locals=none
 freeC:∀x c,X.env.cells.lookup x=some c->H c=none
 pin:∀p∈X.pn++pins,s.heap.get? p.1=some p.2/\H p.1=none/\p.1≠X.env.locals/\p.1∉X.fs/\∀v,p.2.data≠.cell v
 hok:HOk X.prog X.w H s.heap
 len:σ.length=X.N.length
section
variable {X:Cx}{pins:Yg}{σ:List (Option V)}{H H':Hp}{s:Shared}{h':Heap}
def Cx.Ok.nofr (ok:X.Ok) {b o} (e:X.base.get? b=some o):b∉X.fs:=λf=>by
 have:=(ok.funs.mem f).1
 grind
def Inv.bs (I:Inv X pins σ H s):∀b o,X.base.get? b=some o->s.heap.get? b=some o/\H b=none:=λb o e=>
 ⟨I.base.keep b o (I.ok.bs b o e).1 (I.ok.bs b o e).2 (I.ok.nofr e) (I.ok.noex b o e),I.base.free b o (I.ok.bs b o e).1 (I.ok.bs b o e).2 (I.ok.noex b o e)⟩
def Inv.bk (I:Inv X pins σ H s):∀b o,X.base.get? b=some o->s.heap.get? b=some o:=λb o e=>(I.bs b o e).1
def Inv.mod (I:Inv X pins σ H s):Mod X.K X.mg X.base:=I.ok.mod
def Inv.kIn (I:Inv X pins σ H s):X.K.In s.heap:=I.ok.mod.kin.keeps I.bk
def Inv.lt (I:Inv X pins σ H s):X.env.locals<s.heap.objs.size:=let ⟨_,f,_⟩:=I.loc;f.lt
def Inv.sz (I:Inv X pins σ H s):X.s₀.heap.objs.size<=s.heap.objs.size:=Wu I.ok.above (QI I.lt)
def Inv.nofs (I:Inv X pins σ H s) {a:Addr} (h:s.heap.objs.size<=a):a∉X.fs:=λg=>by
 obtain⟨_,o,f,_⟩:=I.ok.funs.mem g;exact absurd (Wv (Wh f)<|Wu I.sz h) (Qf _)
def Inv.cne (I:Inv X pins σ H s):∀x c,X.env.cells.lookup x=some c->c≠X.env.locals:=λx c e z=>by
 obtain⟨v,o,l,n⟩:=I.cell x c e;obtain⟨m,⟨h,p,q,f,g,_⟩,_⟩:=I.loc
 grind
def Inv.funs (I:Inv X pins σ H s):s.heap.FunFrames X.base X.outer:=by
 have all:∀l,(∀b∈frs l,b∈X.fs)->X.s₀.heap.FunFrames X.base l->s.heap.FunFrames X.base l:=by
  intro l
  induction l with
  |nil=>intro _ _;trivial
  |cons A r p=>
   intro n w;obtain⟨x,⟨L,o,f,v,u,y⟩,q⟩:=w;have h:=n L (by unfold frs;rw[Qh,f];exact Wz);obtain⟨sl,e⟩:=I.base.slot L o u (I.ok.frf L h) h λz=>I.ok.exfs L z h;exact⟨x,⟨L,_,f,v,e,y⟩,p (λb g=>n b (by unfold frs;rw[Qh,f];exact Wr _ g)) q⟩
 exact all X.outer (λ_ g=>g) I.ok.funs
def Inv.stack (I:Inv X pins σ H s):s.heap.FunFrames X.base X.stack:=by
 rcases I.ok.stk with e|⟨e,g⟩
 ·rw[e];exact I.funs
 ·rw[e];obtain⟨m,f,_⟩:=I.loc;refine .cons (by rw[I.ok.kind];decide) g f ?_ I.funs;exact Vg (Wu I.ok.bsz I.ok.above)
def Inv.stkSub (I:Inv X pins σ H s):∀b∈frs X.stack,b∈X.env.locals::X.fs:=λb f=>by
 rcases I.ok.stk with e|⟨e,g⟩
 ·grind
 ·rw[e]at f;unfold frs at f;rw[Qh,g]at f;trivial
def Inv.stkFree (I:Inv X pins σ H s):∀b∈frs X.stack,H b=none:=λb f=>by
 rcases Wo.mp (I.stkSub b f)with e|f
 ·rw[e];exact I.free
 ·obtain⟨_,o,g,_⟩:=I.ok.funs.mem f;exact I.base.free b o g (I.ok.frf b f) λz=>I.ok.exfs b z f
def Inv.step {d'}{ch:List Addr} (I:Inv X pins σ H s)
  (g:∀b∈ch,(b∈X.ex\/X.s₀.heap.objs.size<=b)/\b≠X.env.locals/\(∀x c,X.env.cells.lookup x=some c->c≠b)/\∀p∈X.pn++pins,p.1≠b)
  (keep:∀b o,b≠X.env.locals->b∉X.fs->b∉ch->s.heap.get? b=some o->H b=none->h'.get? b=some o)
  (slot:∀b o,b≠X.env.locals->b∈X.fs->b∉ch->s.heap.get? b=some o->H b=none->∃sl,h'.get? b=some {o with slots:=sl}) (free:∀b o,b∉ch->s.heap.get? b=some o->H b=none->H' b=none)
  (there:∀b o,b∉ch->s.heap.get? b=some o->∃o',h'.get? b=some o')
  (tups:∀b xs,H b=some (.tup xs)->H' b=some (.tup xs)) (frzs:∀b o u,H b=some (.frz o u)->H' b=some (.frz o u)) (tbls:∀b ps,H b=some (.tbl ps)->∃more,H' b=some (.tbl (ps++more)))
  (ns:∀m,s.heap.Ns X.env.locals m->h'.Ns X.env.locals m) (J:HOk X.prog X.w H' h') (hg:AllBare g') :
  Inv X pins σ H' {s with heap:=h',gens:=g',drawn:=d',toks:=t'}:=by
 have B:∀b o,X.s₀.heap.get? b=some o->b≠X.env.locals:=λb o e=>Ww (Wv (Wh e) I.ok.above)
 have f:∀b o,X.s₀.heap.get? b=some o->b∉X.ex->b∉ch:=λb o e hx y=>by
  rcases(g b y).1 with z|z
  ·exact hx z
  ·exact absurd (Wv (Wh e) z) (Qf _)
 have cellK:∀x c,X.env.cells.lookup x=some c->∀v,s.heap.IsCell c v->h'.IsCell c v:=λx c e v ⟨o,A,L⟩=>by
  have C:=λz=>(g c z).2.2.1 x c e rfl;by_cases M:c∈X.fs
  ·obtain⟨sl,q⟩:=slot c o (I.cne x c e) M C A (I.freeC x c e);exact⟨_,q,L⟩
  ·exact⟨o,keep c o (I.cne x c e) M C A (I.freeC x c e),L⟩
 refine⟨I.ok,I.os,hg,⟨λb o e n y hx=>?_,λb o e n y hx=>?_,λb o e n hx=>?_,λb o e hx=>?_,λb xs e=>tups b xs (I.base.tups b xs e),λb o xs e=>frzs b o xs (I.base.frzs b o xs e),λb ps e=>?_⟩,?_,λx c e=>?_,?_,λx c e=>?_,λp T=>?_,J,I.len⟩
 ·exact keep b o (B b o e) y (f b o e hx) (I.base.keep b o e n y hx) (I.base.free b o e n hx)
 ·obtain⟨sl,h⟩:=I.base.slot b o e n y hx;obtain⟨G,E⟩:=slot b _ (B b o e) y (f b o e hx) h (I.base.free b o e n hx);exact⟨G,E⟩
 ·obtain⟨o',h⟩:=I.base.there b o e hx;exact free b o' (f b o e hx) h (I.base.free b o e n hx)
 ·obtain⟨o',h⟩:=I.base.there b o e hx;exact there b o' (f b o e hx) h
 ·obtain⟨Q,h⟩:=I.base.tbls b ps e;obtain⟨N,E⟩:=tbls b _ h;exact⟨Q++N,by rw[E,Array.append_assoc]⟩
 ·obtain⟨m,U,Y⟩:=I.loc;refine⟨m,ns m U,λi x v h E e3=>?_⟩;obtain⟨u,r,l⟩:=Y i x v h E e3;refine⟨u,r,?_⟩;rcases l with l|⟨k,c,e,z⟩
  ·exact .inl l
  ·exact .inr ⟨k,c,e,cellK x c e _ z⟩
 ·obtain⟨v,z⟩:=I.cell x c e;exact⟨v,cellK x c e v z⟩
 ·obtain⟨m,⟨o,_,_,A,_⟩,_⟩:=I.loc;exact free _ o (λz=>(g _ z).2.1 rfl) A I.free
 ·obtain⟨v,o,A,L⟩:=I.cell x c e;exact free c o (λz=>(g c z).2.2.1 x c e rfl) A (I.freeC x c e)
 ·obtain⟨e,n,ne,nf,d⟩:=I.pin p T
  grind
def Inv.un (I:Inv X pins σ H s) (u:Un X.fs [] H H' s.heap h') (g:HOk X.prog X.w H' h'):Inv X pins σ H' {s with heap:=h',toks:=t'}:=by
 obtain⟨m,⟨o,C,E,q,r⟩,_⟩:=id I.loc;obtain⟨sl,y⟩:=u.any q I.free (by simp)
 exact I.step (ch:=[]) (λ_ z=>nomatch z) (λb o _ h _ e n=>u.keep b o e n h (by simp)) (λb o _ h _ e n=>u.slot b o e n h (by simp)) (λb o _ e n=>u.free b o e n (by simp)) (λb o _ e=>u.there b o e (by simp)) u.tups u.frzs u.tbls (λB x=>by
  obtain⟨A,l,p,f,v⟩:=x;rw[q]at f;cases f;exact⟨_,l,p,y,v⟩) g I.bare
def Inv.call {d'}{ch} (I:Inv X pins σ H s) (u:Un (frs X.stack) ch H H' s.heap h') (l:HOk X.prog X.w H' h') (E:AllBare J)
  (h:∀b∈ch,(b∈X.ex\/X.s₀.heap.objs.size<=b)/\b≠X.env.locals/\(∀x c,X.env.cells.lookup x=some c->c≠b)/\∀p∈X.pn++pins,p.1≠b) :
  Inv X pins σ H' {s with heap:=h',gens:=J,drawn:=d',toks:=t'}:=by
 obtain⟨m,⟨o,N,Q,A,r⟩,_⟩:=id I.loc;obtain⟨sl,q⟩:=u.any A I.free λz=>(h _ z).2.1 rfl
 exact I.step h (λb o q G f e n=>u.keep b o e n (λz=>(Wo.mp<|I.stkSub b z).elim q G) f) (λb o _ _ f e n=>u.any e n f) (λb o f e n=>u.free b o e n f) (λb o f e=>u.there b o e f) u.tups u.frzs u.tbls (λM C=>by
  obtain⟨L,v,y,g,B⟩:=C;rw[A]at g;cases g;exact⟨_,v,y,q,B⟩) l E
def Inv.turned {it} (I:Inv X pins σ H s) (k:∀b o,b≠it->s.heap.get? b=some o->h'.get? b=some o) (B:H it=none) (l:it≠X.env.locals)
  (J:it∈X.ex\/X.s₀.heap.objs.size<=it) (G:∀x c,X.env.cells.lookup x=some c->c≠it) (E:∀p∈X.pn++pins,p.1≠it):Inv X pins σ H {s with heap:=h',toks:=t'}:=by
 refine I.step (ch:=[it]) (λb C=>?_) (λb o _ _ f e _=>k b o (λz=>f (by simp[z])) e) (λb o _ _ f e _=>⟨o.slots,k b o (λz=>f (by simp[z])) e⟩) (λ_ _ _ _ n=>n)
  (λb o f e=>⟨o,k b o (λz=>f (by simp[z])) e⟩) (λ_ _ e=>e) (λ_ _ _ e=>e) (λb A e=>⟨#[],by rw[e];simp⟩) (λm h=>?_) (λb u e=>?_) I.bare
 ·grind
 ·obtain⟨o,w,y,g,r⟩:=h;exact⟨o,w,y,k _ o (Ne.symm l) g,r⟩
 ·refine(I.hok b u e).stay (λc v f q=>k c v ?_ q) (λ_ q=>q) λ_ _ q=>q;rcases f with z|z
  ·grind
  ·grind
def Inv.tok (I:Inv X pins σ H s) (t:Nat):Inv X pins σ H {s with toks:=t}:=I.un Un.refl I.hok
def Inv.kept (I:Inv X pins σ H s) (k:∀b u,s.heap.get? b=some u->h'.get? b=some u):Inv X pins σ H {s with heap:=h',toks:=t'}:=I.un (Un.kept k) (I.hok.kept k)
def Inv.laid {a:Addr}{o}{t'} (I:Inv X pins σ H s) (k:∀b u,s.heap.get? b=some u->h'.get? b=some u) (f:s.heap.objs.size<=a) (new:ObjOk X.prog X.w (upd H a o) h' a o) :
  Inv X pins σ (upd H a o) {s with heap:=h',toks:=t'}:=I.un (Un.laid k f<|I.hok.fresh f) (I.hok.laid k f new)
def Inv.write (I:Inv X pins σ H s) (g:Mut (H x)) (h:e=x\/H e=some (.own x)) (k:∀b u,b≠e->s.heap.get? b=some u->h'.get? b=some u) (f:∃u,h'.get? e=some u)
  (new:ObjOk X.prog X.w (upd H x o) h' x o):Inv X pins σ (upd H x o) {s with heap:=h',toks:=t'}:=I.un (Un.write g h k f) (I.hok.write g h k f new)
def Inv.weak (I:Inv X pins σ H s) (l:f.length=σ.length) (w:∀(i:Nat) v,f[i]?=some (some v)->σ[i]?=some (some v)):Inv X pins f H s:=
 ⟨I.ok,I.os,I.bare,I.base,let ⟨m,h,g⟩:=I.loc;⟨m,h,λi x v p o n=>g i x v p (w i v o) n⟩,I.cell,I.free,I.freeC,I.pin,I.hok,l.trans I.len⟩
def Inv.pins_of (I:Inv X pins σ H s) (h:∀p∈pins',s.heap.get? p.1=some p.2/\H p.1=none/\p.1≠X.env.locals/\p.1∉X.fs/\∀v,p.2.data≠.cell v):Inv X pins' σ H s:=
 ⟨I.ok,I.os,I.bare,I.base,I.loc,I.cell,I.free,I.freeC,λp f=>(WH.mp f).elim (λz=>I.pin p (Qe _ z)) (h p),I.hok,I.len⟩
def BU{N:Ym}(f:N.Nodup){i j:Nat}{x}(a:N[i]?=some x)(b:N[j]?=some x):i=j:=by
 obtain⟨n,h⟩:=WL.mp a;obtain⟨l,g⟩:=WL.mp b;exact(List.getElem_inj f).mp (h.trans g.symm)
def Zbu{i x v u Q}(I:Inv X pins σ H s)(hN:X.N.Nodup)(hi:X.N[i]?=some x)(hx:Loc X.env.scope x)(r:RelV v u)(h:∀s',Inv X pins (σ.set i<|some v) H s'->(∃a,Heap.SameBut a s.heap s'.heap/\(a=X.env.locals\/X.env.cells.lookup x=some a))->Q () s')(hf:autoParam (X.fn x=true\/X.env.scope.names.lookup x=some .local) au_2):wpAny M A (storeName X.env x u) Q E s:=by
 obtain⟨m,hn,hl⟩:=id I.loc;have hcls:(X.env.scope.kind == .class || (X.env.scope.kind == .module&&X.env.locals != X.env.globals))=false:=by rw[I.ok.kind];rfl
 have J:i<σ.length:=by rw[I.len];exact(WL.mp hi).1
 have cne:=I.cne
 have tracked:∀{a:Addr} {h':Heap},(∃o,s.heap.get? a=some o/\H a=none)->Heap.SameBut a s.heap h'->HOk X.prog X.w H h':=λ{a h'} ha f b ob e=>by
  obtain⟨_,_,B⟩:=ha;refine(I.hok b ob e).stay (λc w' l q=>(f.2 c ?_).trans q) (λ_ q=>q) λ_ _ q=>q;rintro rfl;rcases l with rfl|l
  ·rw[B]at e;cases e
  ·rw[B]at l;cases l
 rcases hx with G|G
 ·refine wpAny_storeName_local G hn (λh' hn' f=>?_) hcls;obtain⟨oL,_,_,hoL,_⟩:=id hn;refine h _ ⟨I.ok,I.os,I.bare,⟨λb o e n U hx=>?_,λb o e n U hx=>?_,I.base.free,λb o e hx=>?_,I.base.tups,I.base.frzs,I.base.tbls⟩,⟨_,hn',λj y v' g C e3=>?_⟩,λy c e=>?_,I.free,I.freeC,λp hp=>?_,tracked ⟨oL,hoL,I.free⟩ f,by simpa using I.len⟩ ⟨_,f,.inl rfl⟩
  ·exact(f.2 b<|Ww<|Wv (Wh e) I.ok.above).trans (I.base.keep b o e n U hx)
  ·obtain⟨sl,g⟩:=I.base.slot b o e n U hx;exact⟨sl,(f.2 b<|Ww<|Wv (Wh e) I.ok.above).trans g⟩
  ·obtain⟨o',g⟩:=I.base.there b o e hx;exact⟨o',(f.2 b<|Ww<|Wv (Wh e) I.ok.above).trans g⟩
  ·by_cases L:j=i
   ·subst L;rw[hi]at g;cases g;rw[List.getElem?_set_self J]at C;cases C
    exact⟨u,r,.inl ⟨G,by simp⟩⟩
   ·rw[Vh (Ne.symm L)]at C;obtain⟨u',r',q⟩:=hl j y v' g C e3;refine⟨u',r',?_⟩;rcases q with⟨k,e⟩|⟨k,c,e,z⟩
    ·refine .inl ⟨k,?_⟩
     have:y≠x:=λe=>L (BU hN g (e▸hi))
     simp[this,e]
    ·exact .inr ⟨k,c,e,z.sameBut f (cne y c e)⟩
  ·obtain⟨w',z⟩:=I.cell y c e;exact⟨w',z.sameBut f (cne y c e)⟩
  ·obtain⟨e,n,ne,nf,d⟩:=I.pin p hp;exact⟨(f.2 p.1 ne).trans e,n,ne,nf,d⟩
 ·have T:X.fn x=true:=by
   rcases hf with z|z
   ·exact z
   ·rw[z]at G;cases G
  obtain⟨c,l⟩:=I.ok.has x (.inl G);obtain⟨w',z⟩:=I.cell x c l;refine wpAny_storeName_cell I.ok.kind G l z (λh' hc' f=>?_);obtain⟨oc,hoc,Y⟩:=id z;refine h {s with heap:=h'} ⟨I.ok,I.os,I.bare,⟨λb o e n U hx=>?_,λb o e n U hx=>?_,I.base.free,λb o e hx=>?_,I.base.tups,I.base.frzs,I.base.tbls⟩,⟨m,hn.sameBut f (Ne.symm<|cne x c l),λj y v' g C e3=>?_⟩,λy c' e=>?_,I.free,I.freeC,λp hp=>?_,tracked ⟨oc,hoc,I.freeC x c l⟩ f,by simpa using I.len⟩ ⟨c,f,.inr l⟩
  ·exact(f.2 b<|Ww<|Wv (Wh e)<|I.ok.cab x c T l).trans (I.base.keep b o e n U hx)
  ·obtain⟨sl,g⟩:=I.base.slot b o e n U hx;exact⟨sl,(f.2 b<|Ww<|Wv (Wh e)<|I.ok.cab x c T l).trans g⟩
  ·obtain⟨o',g⟩:=I.base.there b o e hx;exact⟨o',(f.2 b<|Ww<|Wv (Wh e)<|I.ok.cab x c T l).trans g⟩
  ·by_cases L:j=i
   ·subst L;rw[hi]at g;cases g;rw[List.getElem?_set_self J]at C;cases C
    exact⟨u,r,.inr ⟨.inl G,c,l,hc'⟩⟩
   ·rw[Vh (Ne.symm L)]at C;obtain⟨u',r',q⟩:=hl j y v' g C e3;refine⟨u',r',?_⟩;rcases q with q|⟨k,c',e,z'⟩
    ·exact .inl q
    ·refine .inr ⟨k,c',e,z'.sameBut f ?_⟩;rintro rfl;exact L (BU hN g (I.ok.inj _ _ _ e l▸hi))
  ·by_cases hcc:c'=c
   ·subst hcc;exact⟨_,hc'⟩
   ·obtain⟨w2,z2⟩:=I.cell y c' e;exact⟨w2,z2.sameBut f hcc⟩
  ·obtain⟨e,n,ne,nf,d⟩:=I.pin p hp;refine⟨(f.2 p.1 ?_).trans e,n,ne,nf,d⟩;intro q;rw[q,hoc]at e;exact d w' (by rw[←(Wm e)];exact Y)
def Ph{i x v u Q}(I:Inv X pins σ H s)(n:X.N.Nodup)(g:X.N[i]?=some x)(hx:Loc X.env.scope x)(r:RelV v u)(h:∀f,Inv X pins (σ.set i<|some v) H f->Q () f)(l:autoParam (X.fn x=true\/X.env.scope.names.lookup x=some .local) au_2):wpAny M A (storeName X.env x u) Q E s:=
 Zbu I n g hx r (λf o _=>h f o) l
def Inv.call' {ch} (I:Inv X pins σ H s) (l:f.os=s.os) (u:Un (frs X.stack) ch H H' s.heap f.heap) (g:HOk X.prog X.w H' f.heap) (n:AllBare f.gens)
  (h:∀b∈ch,(b∈X.ex\/X.s₀.heap.objs.size<=b)/\b≠X.env.locals/\(∀x c,X.env.cells.lookup x=some c->c≠b)/\∀p∈X.pn++pins,p.1≠b):Inv X pins σ H' f:=by
 obtain⟨h',r,v,o,q⟩:=f;subst l;exact I.call u g n h
end
abbrev XK:=Value->Yq->Hp->Prop
abbrev St:=List (Option V)
abbrev VK:=V->Hp->Prop
abbrev TE:=St->Hp->VK->Prop
abbrev TT:=St->Hp->(Bool->Hp->Prop)->Prop
abbrev TA:=St->Hp->(List V->Hp->Prop)->Prop
structure Ends where
 nx:St->Hp->Prop
 rt:VK
 bk:St->Hp->Prop:=λ_ _=>False
 ct:St->Hp->Prop:=λ_ _=>False
abbrev TS:=Ends->St->Hp->Prop
def EP(X:Cx)(pins:Yg)(g:St)(Q:VK)(u:Value)(h:Shared):Prop:=∃v f,Inv X pins g f h/\RelV v u/\Q v f
def TP(X:Cx)(pins:Yg)(g:St)(Q:Bool->Hp->Prop)(b:Bool)(h:Shared):Prop:=∃f,Inv X pins g f h/\Q b f
def AP(X:Cx)(pins:Yg)(h:St)(Q:List V->Hp->Prop)(us:Yl)(l:Shared):Prop:=∃f g,Inv X pins h g l/\Vals f us/\Q f g
def SP(X:Cx)(pins:Yg)(D:Ends)(f:Flow)(l:Shared):Prop:=
 match f with
 | .next=>∃g h,Inv X pins g h l/\D.nx g h
 | .brk=>∃g h,Inv X pins g h l/\D.bk g h
 | .cont=>∃g h,Inv X pins g h l/\D.ct g h
 | .ret u=>∃v g h,Inv X pins g h l/\RelV v u/\D.rt v h
def PE(X:Cx)(e:Expr)(t:TE):Prop:=
 ∀(pins:Yg) (s:Shared) (f:St) (H:Hp) (Q:VK),Inv X pins f H s->t f H Q->wpAny (model X.prog X.w) X.A (eval e X.env) (EP X pins f Q) X.xe s
def PT(X:Cx)(e:Expr)(t:TT):Prop:=
 ∀(pins:Yg) (s:Shared) (f:St) (H:Hp) (Q:Bool->Hp->Prop),Inv X pins f H s->t f H Q->wpAny (model X.prog X.w) X.A (isTrue e X.env<|eval e X.env) (TP X pins f Q) X.xe s
def PW(X:Cx)(e:Expr)(t:TT):Prop:=
 ∀(whole:Sem Value) (pins:Yg) (s:Shared) (f:St) (H:Hp) (Q:Bool->Hp->Prop),Inv X pins f H s->t f H Q->wpAny (model X.prog X.w) X.A (isTrue e X.env whole) (TP X pins f Q) X.xe s
def PW.pt (h:PW X e t):PT X e t:=h _
def PA(X:Cx)(es:Yn)(t:TA):Prop:=
 ∀(pos:Pos) (pins:Yg) (s:Shared) (f:St) (H:Hp) (Q:List V->Hp->Prop),Inv X pins f H s->t f H Q->wpAny (model X.prog X.w) X.A (spliced<|backTo pos<|starEach es X.env) (AP X pins f Q) X.xe s
def PS(X:Cx)(st:Stmt)(t:TS):Prop:=
 ∀(pins:Yg) (s:Shared) (f:St) (H:Hp) (D:Ends),Inv X pins f H s->t D f H->wpAny (model X.prog X.w) X.A (exec st X.env) (SP X pins D) X.xe s
def PSs(X:Cx)(st:Yo)(t:TS):Prop:=
 ∀(pins:Yg) (s:Shared) (f:St) (H:Hp) (D:Ends),Inv X pins f H s->t D f H->wpAny (model X.prog X.w) X.A (execs st X.env) (SP X pins D) X.xe s
def thn{M A E s}(h:wpAny M A t Q E s)(f:∀a s,Q a s->g a s):wpAny M A t g E s:=WA h f λ_ _ x=>x
section
variable {X:Cx}
def bin{z r}(G:PE X a z)(E:PE X b r){pins}{s}{g:St}{H}{R:V->V->Hp->Prop}(I:Inv X pins g H s)(h:z g H λx q=>r g q λy o=>R x y o){α}{Q}{f:Value->Value->Sem α}(T:∀v u p x y o,Inv X pins g o p->RelV x v->RelV y u->R x y o->wpAny (model X.prog X.w) X.A (f v u) Q X.xe p) :
  wpAny (model X.prog X.w) X.A (eval a X.env) (λv n=>wpAny (model X.prog X.w) X.A (eval b X.env) (λu l=>wpAny (model X.prog X.w) X.A (f v u) Q X.xe l) X.xe n) X.xe s:=by
 refine thn (G pins s g H _ I h) λv B ⟨x,q,J,M,C⟩=>?_;refine thn (E pins B g q _ J C) λu p ⟨y,o,U,L,N⟩=>?_
 grind
noncomputable def Kl(i:Nat):TE:=λf H Q=>∃v,f[i]?=some (some v)/\Q v H
noncomputable def tC(v:V):TE:=λ_ H Q=>Q v H
def Zaw{pos}(C:X.N[i]?=some x)(y:Vis X.env.scope x)(o:autoParam ((x==("__debug__" : Str))=false) au_1)(p:autoParam ((x==("__classdict__" : Str))=false) au_1):PE X (.Name x pos) (Kl i):=by
 intro pins s w H Q I h;obtain⟨v,e,h⟩:=h;obtain⟨m,z,B⟩:=I.loc;obtain⟨u,r,l⟩:=B i x v C e y;have n:EP X pins w Q u s:=⟨v,H,I,r,h⟩;rcases l with⟨g,A⟩|⟨g,c,q,f⟩
 ·exact wpAny_Name (wpAny_loadName_local I.ok.kind g z A n) o
 ·rcases g with g|g
  ·exact wpAny_Name (wpAny_loadName_cell I.ok.kind g q f n) o
  ·exact wpAny_Name (wpAny_loadName_free I.ok.kind g q f n p) o
def Xr:PE X (.Constant (.int i) j pos) (tC<|.int i):=λ_ _ _ H _ I h=>wpAny_Constant_int ⟨.int i,H,I.tok _,⟨_,rfl⟩,h⟩
def Bj:PE X (.Constant (.bool b) j pos) (tC<|.bl b):=λ_ _ _ H _ I h=>Constant_bool ⟨.bl b,H,I,rfl,h⟩
def UF:PE X (.Constant (.str x) j pos) (tC<|.str x):=λ_ _ _ H _ I h=>Calls.Constant_str ⟨.str x,H,I.tok _,⟨_,rfl⟩,h⟩
def Gl(X:Cx)(x:Str):Prop:=X.env.kindOf x=some .globalImplicit
def Kb{pins}{s}{f:St}{H}{x}{u}{pos}{Q}(I:Inv X pins f H s)(l:Gl X x)(g:X.mg x=some u)(h:Q u s)(n:autoParam ((x==("__debug__" : Str))=false) au_1):wpAny (model X.prog X.w) X.A (eval (.Name x pos) X.env) Q E s:=
 Calls.Name_function_global I.ok.kind l (Calls.loadGlobal_global (by rw[I.ok.glob];exact I.mod.glob.keeps I.bk) g h) n
def Pd{E}{pins}{s}{f:St}{H}{x}{u}{pos}{Q}(I:Inv X pins f H s)(o:Gl X x)(n:X.mg x=none)(g:bootBuiltins x=some u)(h:Q u s)(l:autoParam (x≠"__name__") au_1)(p:autoParam ((x==("__debug__" : Str))=false) au_1):wpAny (model X.prog X.w) X.A (eval (.Name x pos) X.env) Q E s:=by
 obtain⟨v,r,q⟩:=I.mod.blt;exact Calls.Name_function_global I.ok.kind o (Calls.loadGlobal_builtin (by rw[I.ok.glob];exact I.mod.glob.keeps I.bk) n (by rw[I.ok.blt];exact r.keeps I.bk) ((q x l).trans g) h) p
def TM{u pos}(g:Gl X x)(f:X.mg x=some u)(r:RelV v u)(l:autoParam ((x==("__debug__" : Str))=false) au_1):PE X (.Name x pos) (tC v):=
 λ_ _ _ H _ I h=>Kb I g f ⟨v,H,I,r,h⟩ l
def X1{u pos}(n:Gl X x)(l:X.mg x=none)(f:bootBuiltins x=some u)(r:RelV v u)(g:autoParam (x≠"__name__") au_1)(o:autoParam ((x==("__debug__" : Str))=false) au_1):PE X (.Name x pos) (tC v):=
 λ_ _ _ H _ I h=>Pd I n l f ⟨v,H,I,r,h⟩ g o
variable {a b:Expr}{ta tb:TE}{pos:Pos}
def PC(X:Cx)(l:CmpOp)(a b:Expr)(t:TE):Prop:=
 ∀(pins:Yg) (s:Shared) (h:St) (H:Hp) (Q:VK),Inv X pins h H s->t h H Q->
  wpAny (model X.prog X.w) X.A (eval a X.env) (λv g=>wpAny (model X.prog X.w) X.A (eval b X.env) (λu f=>wpAny (model X.prog X.w) X.A (compareOp l v u) (EP X pins h Q) X.xe f) X.xe g) X.xe s
def Fl(b:Expr){op}(h:op≠.In)(l:op≠.NotIn):behindInMarks op b=false:=by
 have g:(op==CmpOp.In)=false:=by grind
 have f:(op==CmpOp.NotIn)=false:=by grind
 cases b<;>simp[behindInMarks,g,f]
noncomputable def tB(t:TE):TT:=λf H Q=>t f H λx g=>∃c,x=.bl c/\Q c g
def Lr(h:PC X f a b t)(l:behindInMarks f b=false:=by first|exact Fl _ (by decide) (by decide)|rfl):PE X (.Compare a [f] [b] pos) t:=λpins s g H Q I hw=>wpAny_Compare1 (h pins s g H Q I hw) l
def To(h:PC X g a b t)(f:behindInMarks g b=false:=by first|exact Fl _ (by decide) (by decide)|rfl):PT X (.Compare a [g] [b] pos) (tB t):=by
 intro pins s l H Q I hw;refine wpAny_isTrue_Compare1 (thn (h pins s l H _ I hw) λv A f=>thn f λu z p=>thn p ?_) f;rintro c y ⟨x,w,r,n,o⟩;obtain⟨d,rfl,q⟩:=o;cases n
 exact Qt ⟨w,r,q⟩
variable {tA tB':TT}{rest:Yn}
noncomputable def EK(t u:TT):TT:=λf H Q=>t f H λc g=>if c=true then u f g Q else Q false g
noncomputable def tOr(t u:TT):TT:=λf H Q=>t f H λc g=>if c=true then Q true g else u f g Q
noncomputable def AL(t:TT):TT:=λf H Q=>t f H λc g=>Q (!c) g
def Zax(g:PT X a tA):PW X (.BoolOp .And [a] pos) tA:=by
 intro l pins s f H Q I h;refine isTrue_and (thn (g pins s f H Q I h) λc n e=>?_);cases c with
 |true=>exact isTrue_and_nil e
 |false=>exact e
def Zcq(g:PT X a tA):PW X (.BoolOp .Or [a] pos) tA:=by
 intro l pins s f H Q I h;refine isTrue_or (thn (g pins s f H Q I h) λc n e=>?_);cases c with
 |false=>exact isTrue_or_nil e
 |true=>exact e
def Rt(p:PT X a tA)(o:PW X (.BoolOp .And (b::rest) pos) tB'):PW X (.BoolOp .And (a::b::rest) pos) (EK tA tB'):=by
 intro g pins s f H Q I h;refine isTrue_and (thn (p pins s f H _ I h) λc l ⟨r,q,n⟩=>?_);cases c with
 |true=>exact o g pins l f r Q q n
 |false=>trivial
def Zco(p:PT X a tA)(o:PW X (.BoolOp .Or (b::rest) pos) tB'):PW X (.BoolOp .Or (a::b::rest) pos) (tOr tA tB'):=by
 intro g pins s f H Q I h;refine isTrue_or (thn (p pins s f H _ I h) λc l ⟨r,q,n⟩=>?_);cases c with
 |true=>trivial
 |false=>exact o g pins l f r Q q n
def Oi(g:PT X a tA):PT X (.UnaryOp .Not a pos) (AL tA):=by
 intro pins s f H Q I h;exact isTrue_not (g pins s f H (λc l=>Q (!c) l) I h)
noncomputable def Ao(ta tb:TE):TE:=λf H Q=>ta f H λx g=>∃c,x=.bl c/\if c=true then tb f g Q else Q (.bl false) g
noncomputable def Ab(ta:TE):TE:=λf H Q=>ta f H λx g=>∃c,x=.bl c/\Q (.bl (!c)) g
def F8{t}(h:PE X a t):PE X (.BoolOp f [a] pos) t:=by trivial
def Bt(r:PE X a ta)(q:PE X (.BoolOp .And (b::rest) pos) tb):PE X (.BoolOp .And (a::b::rest) pos) (Ao ta tb):=by
 intro pins s g H Q I h;refine BoolOp_and (thn (r pins s g H _ I h) ?_);rintro v o ⟨x,n,l,p,f⟩;obtain⟨c,rfl,f⟩:=f;cases p
 refine Qt ?_;cases c with
 |true=>exact q pins o g n Q l f
 |false=>exact⟨.bl false,n,l,rfl,f⟩
def HX(n:PE X a ta):PE X (.UnaryOp .Not a pos) (Ab ta):=by
 intro pins s g H Q I h;refine UnaryOp_ (thn (n pins s g H _ I h) ?_);rintro v q ⟨x,p,o,l,f⟩;obtain⟨c,rfl,f⟩:=f;cases l
 exact not_of (Qt ⟨.bl (!c),p,o,rfl,f⟩)
noncomputable def tIf(t:TT)(ta tb:TE):TE:=λf H Q=>t f H λc g=>if c=true then ta f g Q else tb f g Q
def IU(p:PT X c tA)(r:PE X a ta)(q:PE X b tb):PE X (.IfExp c a b pos) (tIf tA ta tb):=by
 intro pins s f H Q I h;refine wpAny_IfExp (thn (p pins s f H _ I h) ?_);rintro d g ⟨o,n,l⟩;cases d with
 |true=>exact r pins g f o Q n l
 |false=>exact q pins g f o Q n l
end
def SqL(K:Yd)(H:Hp)(a:Addr)(xs:List V):Prop:=
 Rd H a (.lst xs)\/
  ∃(o:Obj) (f:Yr) (n:Nat),K.lookup a=some o/\o.cls=.type "list"/\o.dict=none/\o.data=.seq f n/\f.size<=sizeLine/\Vals xs f.toList
def SqT(K:Yd)(H:Hp)(a:Addr)(xs:List V):Prop:=
 Rd H a (.tup xs)\/
  ∃(o:Obj) (f:Yr) (n:Nat),K.lookup a=some o/\o.cls=.type "tuple"/\o.data=.seq f n/\f.size<=sizeLine/\Vals xs f.toList
noncomputable def GL:Value->Option V
 | .none=>some .non
 | .bool b=>some (.bl b)
 | .int i _=>some (.int i)
 | .str x _=>some (.str x)
 | .bytes b _=>some (.byt b)
 | .float b _=>some (.flt b)
 | .ref a=>some (.ref a)
 | .type n=>some (.ty n)
 |_=>none
def RelV.abs (r:RelV x u):GL u=some x:=by
 cases x with
 |non|bl _|ref _|ty _=>cases r;rfl
 |_=>obtain⟨t,rfl⟩:=r;rfl
def RelV.inj {u} (r:RelV x u) (q:RelV y u):x=y:=Wm (r.abs.symm.trans q.abs)
def Vals.inj:∀{xs f}{us:Yl},Vals xs us->Vals f us->xs=f:=by
 intro p
 induction p with
 |nil=>
  intro _ _ h g;cases h
  cases g
  rfl
 |cons _ _ o=>
  intro _ _ h g;cases h with
  |cons h r=>
   cases g with
   |cons n l=>rw[h.inj n,o r l]
section
variable {X:Cx}{pins:Yg}{σ:St}{H:Hp}{s:Shared}{a:Addr}{xs ys:List V}
def SqL.of {K} (h:H a=some (.lst xs)):SqL K H a xs:=.inl (.inl h)
def SqT.of {K} (h:H a=some (.tup xs)):SqT K H a xs:=.inl (.inl h)
def Inv.list (I:Inv X pins σ H s) (h:SqL X.K H a xs):∃f,Vals xs f/\PlainL s.heap a f.toArray/\xs.length<=sizeLine:=by
 rcases h with h|⟨o,f,n,l,q,p,g,u,r⟩
 ·obtain⟨z,f,n,r,e⟩:=h.ok I.hok;exact⟨f,r,⟨_,n,e,rfl,rfl,rfl⟩,z⟩
 ·refine⟨f.toList,r,⟨o,n,I.kIn a o l,q,p,by simpa using g⟩,?_⟩;have e:=r.length
  grind
def Inv.tuple (I:Inv X pins σ H s) (h:SqT X.K H a xs):∃f,Vals xs f/\IsTup s.heap a f.toArray/\xs.length<=sizeLine:=by
 rcases h with h|⟨o,f,n,l,q,g,u,r⟩
 ·obtain⟨z,f,r,p⟩:=h.ok I.hok
  grind
 ·refine⟨f.toList,r,⟨o,I.kIn a o l,q,n,by simpa using g⟩,?_⟩;have e:=r.length
  grind
def Inv.list_inj (I:Inv X pins σ H s) (h:SqL X.K H a xs) (p:SqL X.K H a ys):xs=ys:=by
 obtain⟨g,r,⟨o,n,e,_,_,d⟩,_⟩:=I.list h;obtain⟨f,l,⟨q,u,v,_,_,w⟩,_⟩:=I.list p
 have:g=f:=by grind
 subst this;exact r.inj l
end
noncomputable abbrev Cx.wish (X:Cx) (E:Yi):Cx:={X with xe:=E}
noncomputable abbrev Cx.nox (X:Cx):Cx:=X.wish λ_ _=>False
def Cx.Ok.wish {X:Cx} (ok:X.Ok) (E:Yi):(X.wish E).Ok:=
 ⟨ok.mod,ok.kind,ok.glob,ok.blt,ok.above,ok.inj,ok.has,ok.cab,ok.hd,ok.frames,ok.stk,ok.exf,ok.bs,ok.bsz,ok.noex,ok.exfs,ok.funs,ok.frf⟩
def Cx.Ok.unwish {X:Cx}{E} (ok:(X.wish E).Ok):X.Ok:=
 ⟨ok.mod,ok.kind,ok.glob,ok.blt,ok.above,ok.inj,ok.has,ok.cab,ok.hd,ok.frames,ok.stk,ok.exf,ok.bs,ok.bsz,ok.noex,ok.exfs,ok.funs,ok.frf⟩
section
variable {X:Cx}{pins:Yg}{σ:St}{H:Hp}{s:Shared}{E:Yi}
def Inv.wish (I:Inv X pins σ H s) (E:Yi):Inv (X.wish E) pins σ H s:=⟨I.ok.wish E,I.os,I.bare,I.base,I.loc,I.cell,I.free,I.freeC,I.pin,I.hok,I.len⟩
def Inv.unwish (I:Inv (X.wish E) pins σ H s):Inv X pins σ H s:=⟨I.ok.unwish,I.os,I.bare,I.base,I.loc,I.cell,I.free,I.freeC,I.pin,I.hok,I.len⟩
def SP.unwish (h:SP (X.wish E) pins D f n):SP X pins D f n:=by
 cases f with
 |ret u=>obtain⟨v,g,l,I,r,q⟩:=h;exact⟨v,g,l,I.unwish,r,q⟩
 |_=>obtain⟨g,l,I,q⟩:=h;exact⟨g,l,I.unwish,q⟩
def PSs.nox {st t} (h:PSs X.nox st t):PSs X st t:=λpins s σ H D I hw=>
 WA (h pins s σ H D (I.wish _) hw) (λ_ _ q=>q.unwish) λ_ _ z=>False.elim z
end
section
variable {X:Cx}{st:Stmt}{rest:Yo}{t u:TS}{e:Expr}{te:TE}{pos:Pos}
noncomputable def FI:TS:=λD f H=>D.nx f H
noncomputable def Fk(t u:TS):TS:=λD f H=>t {D with nx:=u D} f H
def Pt:PSs X [] FI:=λ_ _ f H _ I h=>Vi ⟨f,H,I,h⟩
def Km(p:PS X st t)(o:PSs X rest u):PSs X (st::rest) (Fk t u):=by
 intro pins s l H D I h;refine wpAny_execs_cons (thn (p pins s l H {D with nx:=u D} I h) λf n q=>?_)
 cases f with
 |next=>
  obtain⟨g,v,r,q⟩:=q;exact o pins n g v D r q
 |_=>exact q
def Uo(l:PS X st t):PSs X [st] t:=by
 intro pins s g H D I h;refine wpAny_execs_cons (thn (l pins s g H D I h) λf n q=>?_);cases f with
 |next=>exact Vi q
 |_=>lia
def Inv.quiet {f:St}{H}{s} (I:Inv X pins f H s):interactive X.env=false:=by simp[interactive,I.ok.kind]
noncomputable def NC(te:TE):TS:=λD f H=>te f H λ_ g=>D.nx f g
def XA(n:PE X e te)(l:autoParam (swapsWith e none pos.line X.env=pure false) au_0):PS X (.Expr e pos) (NC te):=by
 intro pins s f H D I h;exact wpAny_Expr_any (thn (n pins s f H _ I h) λv q ⟨x,p,o,r,g⟩=>⟨f,p,o,g⟩) I.quiet l
noncomputable def NH(te:TE):TS:=λD f H=>te f H D.rt
def U8(n:PE X e te):PS X (.Return (some e) pos) (NH te):=by
 intro pins s f H D I h;exact wpAny_Return_some (thn (n pins s f H _ I h) λv q ⟨x,p,o,g,l⟩=>⟨x,f,p,o,g,l⟩)
noncomputable def G5(c:TT)(t u:TS):TS:=λD f H=>c f H λb g=>if b=true then t D f g else u D f g
def KZ{tc}(p:PT X c tc)(r:PSs X a t)(q:PSs X b u):PS X (.If c a b pos) (G5 tc t u):=by
 intro pins s f H D I h;refine wpAny_If (thn (p pins s f H _ I h) ?_);rintro d g ⟨o,n,l⟩;cases d with
 |true=>exact r pins g f o D n l
 |false=>exact q pins g f o D n l
noncomputable def Fx:TS:=λ_ _ _=>False
def Xf:PS X st Fx:=λ_ _ _ _ _ _ h=>h.elim
end
abbrev TG:=V->St->Hp->(St->Hp->Prop)->Prop
abbrev TGs:=List V->St->Hp->(St->Hp->Prop)->Prop
def PG(X:Cx)(target:Expr)(t:TG):Prop:=
 ∀(pins:Yg) (s:Shared) (g:St) (H:Hp) (v:V) (u:Value) (Q:St->Hp->Prop),Inv X pins g H s->RelV v u->t v g H Q->
  wpAny (model X.prog X.w) X.A (assign target X.env u) (λ_ l=>∃f h,Inv X pins f h l/\Q f h) X.xe s
def PGs(X:Cx)(o:Yn)(t:TGs):Prop:=
 ∀(pins:Yg) (s:Shared) (g:St) (H:Hp) (h:List V) (l:Yl) (Q:St->Hp->Prop),Inv X pins g H s->Vals h l->t h g H Q->
  wpAny (model X.prog X.w) X.A (assignInOrder ((assignEach o X.env).map (·.2)) l) (λ_ p=>∃f n,Inv X pins f n p/\Q f n) X.xe s
abbrev TIp:=V->V->Hp->VK->Prop
def PIp(X:Cx)(g:Operator)(t:TIp):Prop:=
 ∀(pins:Yg) (s:Shared) (f:St) (H:Hp) (x y:V) (v u:Value) (Q:VK),Inv X pins f H s->RelV x v->RelV y u->t x y H Q->
  wpAny (model X.prog X.w) X.A (inplaceOp g v u) (EP X pins f Q) X.xe s
section
variable {X:Cx}{pos:Pos}
noncomputable def KP(i:Nat):TG:=λv f H Q=>Q (f.set i<|some v) H
def Sn(l:X.N.Nodup)(f:X.N[i]?=some x)(hx:Loc X.env.scope x)(g:autoParam (X.fn x=true\/X.env.scope.names.lookup x=some .local) au_2):PG X (.Name x pos) (KP i):=by
 intro pins s o H v u Q I r h;exact wpAny_assign_Name (Ph I l f hx r (λp n=>⟨_,H,n,h⟩) g)
noncomputable def As:TGs:=λg f H Q=>g=[]/\Q f H
noncomputable def D1(t:TG)(u:TGs):TGs:=λh g H Q=>∃v r,h=v::r/\t v g H λf l=>u r f l Q
def Cz:PGs X [] As:=by
 intro pins s f H g l Q I r h;obtain⟨e,h⟩:=h;exact assignInOrder_nil ⟨f,H,I,h⟩
def SU{t u}(w:PG X e t)(q:PGs X es u)(p:autoParam ((assignEach (e::es) X.env).map (·.2)=assign e X.env::(assignEach es X.env).map (·.2)) au_0):PGs X (e::es) (D1 t u):=by
 intro pins s g H A C Q I r h;obtain⟨v,B,x,h⟩:=h;subst x;cases r with
 |cons r n=>
  rw[p];refine assignInOrder_cons (thn (w pins s g H _ _ _ I r h) ?_);rintro _ l ⟨f,z,y,o⟩;exact q pins l f z _ _ Q y n o
noncomputable def NX(K:Yd)(n:Nat)(t:TGs):TG:=λv f H Q=>∃a xs,v=.ref a/\SqT K H a xs/\xs.length=n/\t xs f H Q
def Zap{k t n}(y:X.calm=true)(h:PGs X es t)(w:autoParam ((assignEach es X.env).length=n) au_0)(f:autoParam ((assignEach es X.env).findIdx? (·.1)=none) au_0):PG X (.Tuple es k pos) (NX X.K n t):=by
 intro pins s g H v u Q I r hw;obtain⟨a,xs,A,hq,x,hw⟩:=hw;subst A;cases r
 obtain⟨p,l,q,C⟩:=I.tuple hq;refine assign_Tuple_tuple (I.ok.hd y) q (by simp[w,←x,l.length]) f λz hx=>?_;have B:Inv X pins g H {s with heap:=z}:=I.kept λb o e=>hx b o (Ww<|Wh e) e
 exact h pins _ g H xs _ Q B (by lia) hw
noncomputable def ND(te:TE)(g:TG):TS:=λD f H=>te f H λx h=>g x f h D.nx
def RE(u:X.N.Nodup)(p:X.N[i]?=some x)(hx:Loc X.env.scope x)(r:PE X e te)(o:autoParam (swapsWith e (some<|.Name x f) pos.line X.env=pure false) au_0)(q:autoParam (X.fn x=true\/X.env.scope.names.lookup x=some .local) au_2) :
  PS X (.Assign [.Name x f] e pos) (ND te<|KP i):=by
 intro pins s g H D I h;refine wpAny_Assign_Name (thn (r pins s g H _ I h) λv C ⟨y,A,z,l,n⟩=>?_) o;exact Ph z u p hx l (λB w=>⟨_,A,w,n⟩) q
noncomputable def CL(i:Nat)(te:TE)(ti:TIp):TS:=λD f H=>∃x,f[i]?=some (some x)/\te f H λy h=>ti x y h λz g=>D.nx (f.set i<|some z) g
def HA(hN:X.N.Nodup)(E:X.N[i]?=some x)(hx:Loc X.env.scope x)(he:PE X e te)(U:PIp X C ti)(hf:autoParam (X.fn x=true\/X.env.scope.names.lookup x=some .local) au_2) :
  PS X (.AugAssign (.Name x B) C e pos) (CL i te ti):=by
 intro pins s q H D I h;obtain⟨v,e1,h⟩:=h;obtain⟨m,Y,hl⟩:=I.loc;have p:Vis X.env.scope x:=by rcases hx with k|k;exact .inl k;exact .inr (.inl k)
 obtain⟨u,r,l⟩:=hl i x v E e1 p;refine wpAny_AugAssign_Name ?_
 have G:wpAny (model X.prog X.w) X.A (eval e X.env) (λw o=>wpAny (model X.prog X.w) X.A (inplaceOp C u w) (λr n=>wpAny (model X.prog X.w) X.A (storeName X.env x r) (λ_=>SP X pins D .next) X.xe n) X.xe o) X.xe s:=by
  refine thn (he pins s q H _ I h) λw J ⟨y,H1,I1,M,T⟩=>?_;refine thn (U pins J q H1 v y u w _ I1 r M T) λz s2 ⟨zv,H2,I2,L,Q⟩=>?_;exact Ph I2 hN E hx L (λs3 I3=>⟨_,H2,I3,Q⟩) hf
 rcases l with⟨f,hm⟩|⟨f,c,hc,g⟩
 ·exact wpAny_loadName_local I.ok.kind f Y hm G
 ·rcases f with f|f
  ·exact wpAny_loadName_cell I.ok.kind f hc g G
  ·rcases hx with k|k
   ·have:X.env.scope.names.lookup x=some .free:=f
    grind
   ·have:X.env.scope.names.lookup x=some .free:=f
    rw[k]at this;cases this
noncomputable def ipI(f:Int->Int->Int):TIp:=λx y H Q=>∃i j,x=.int i/\y=.int j/\Q (.int<|f i j) H
def B4:PIp X .Add (ipI λi j=>i+j):=by
 intro pins s o H x y v u Q I g f h;obtain⟨i,j,n,l,q⟩:=h;subst n;subst l;obtain⟨t,rfl⟩:=g;obtain⟨p,rfl⟩:=f;exact iadd_int ⟨.int _,H,I.tok _,⟨_,rfl⟩,q⟩
noncomputable def EZ(c:TT)(o:TS):TS:=λD f H=>∃W:Nat->St->Hp->Prop,(∃m,W m f H)/\∀m f H,W m f H->
 c f H λb l=>if b=true then ∃N:St->Hp->Prop,(∀g n,N g n->∃h,h<m/\W h g n)/\o {D with nx:=N,ct:=N,bk:=D.nx} f l else D.nx f l
def Ez{tc p}(r:PassesOwn (model X.prog X.w) X.A X.env X.xe)(T:PT X c tc)(U:PSs X body p):PS X (.While c body [] pos) (EZ tc p):=by
 intro pins s C H D I h;obtain⟨W,⟨Q,G⟩,turn⟩:=h;refine wpAny_While (codeAny_whileLoop (λn M=>∃l z,Inv X pins l z M/\W n l z) ?_ Q ⟨C,H,I,G⟩);rintro n L ⟨g,y,Y,E⟩;refine Qm r (thn (T pins L g y _ Y<|turn n g y E) λb J ⟨x,u,o⟩=>?_);cases b with
 |true=>
  obtain⟨N,hN,o⟩:=o;refine Qm r (thn (U pins J g x _ u o) λf s3 q=>?_);cases f with
  |brk|ret v=>exact q
  |_=>
   obtain⟨B,H3,I3,n3⟩:=q
   grind
 |false=>
  exact Vi ⟨g,x,u,o⟩
end
structure It where
 go:Nat->Hp->Prop
 yld:Nat->Hp->V->Hp->Prop
 stop:Nat->Hp->Prop
def XW(X:Cx)(pins:Yg)(H:Hp)(b:Addr):Prop:=
 H b=none/\b≠X.env.locals/\b∉X.fs/\(b∈X.ex\/X.s₀.heap.objs.size<=b)/\(∀x c,X.env.cells.lookup x=some c->c≠b)/\∀p∈X.pn++pins,p.1≠b
def Inv.fpOk {g:St}{H H'}{s}{b:Addr} (I:Inv X pins g H s) (f:s.heap.objs.size<=b) (l:H' b=none):XW X pins H' b:=by
 refine⟨l,Vj (Wv I.lt f),I.nofs f,.inr (Wu I.sz f),λx c e z=>?_,λp h z=>?_⟩
 ·obtain⟨v,q⟩:=I.cell x c e;exact absurd (Wv q.lt<|by grind) (Qf _)
 ·exact absurd (Wv (Wh (I.pin p h).1)<|by grind) (Qf _)
structure Turn (P:Program) (w:World) (K:Yd) (tg:Expr) (J:It) (fp:List Addr) (it:Addr) (tn:Nat->Heap->Prop):Prop where
 mem:it∈fp
 obj:∀i h,tn i h->∀b∈fp,∃o,h.get? b=some o/\∀v,o.data≠.cell v
 keep:∀i h h',tn i h->(∀b∈fp,∀o,h.get? b=some o->h'.get? b=some o)->tn i h'
 item:∀(X:Cx),X.prog=P->X.w=w->X.K=K->X.calm=true->∀(i:Nat) (pins:Yg) (s:Shared) (σ:St) (H:Hp) (E:Yi),Inv X pins σ H s->(∀b∈fp,XW X pins H b)->tn i s.heap->J.go i H->
  wpAny (model P w) X.A (pyNext<|.ref it) (λr s1=>∃u,r=some u/\
   wpAny (model P w) X.A (letOwnedTupleGo tg (.ref it) u) (λ_ s2=>∃x H',Inv X pins σ H' s2/\RelV x u/\J.yld i H x H'/\tn (i+1) s2.heap/\∀b∈fp,H' b=none) E s1) E s
 done:∀(X:Cx),X.prog=P->X.w=w->X.K=K->X.calm=true->∀(i:Nat) (pins:Yg) (s:Shared) (σ:St) (H:Hp) (E:Yi),Inv X pins σ H s->(∀b∈fp,XW X pins H b)->tn i s.heap->J.stop i H->
  wpAny (model P w) X.A (pyNext<|.ref it) (λr s1=>r=none/\Inv X pins σ H s1) E s
 self:∀(A:Around) (i:Nat) (s:Shared) (Q:Yi) (E:Yi),tn i s.heap->Q (.ref it) s->wpAny (model P w) A (pyIter<|.ref it) Q E s
abbrev TI:=St->Hp->(It->Hp->Prop)->Prop
def PIE(X:Cx)(pins:Yg)(o:St)(p:Expr)(R:It->Hp->Prop)(f:Value)(h:Shared):Prop:=
 ∃(l:Addr) (n:List Addr) (tn:Nat->Heap->Prop) (J:It) (g:Hp),f=.ref l/\Inv X pins o g h/\Turn X.prog X.w X.K p J n l tn/\tn 0 h.heap/\(∀b∈n,XW X pins g b)/\R J g
def PI(X:Cx)(h iter:Expr)(g:TI):Prop:=
 ∀(pins:Yg) (s:Shared) (f:St) (H:Hp) (R:It->Hp->Prop),Inv X pins f H s->g f H R->
  wpAny (model X.prog X.w) X.A (eval iter X.env) (λv l=>wpAny (model X.prog X.w) X.A (pyIter v) (PIE X pins f h R) X.xe l) X.xe s
def Sk {s g h u o n vs Q} (l : s.heap.get? h = some o) (q : o.cls = .type n) (p : o.data = .fields vs)
    (r : ["enumerate", "zip", "dict_itemiterator", "dict_reverseitemiterator", "odict_iterator", "itertools.zip_longest", "itertools.pairwise"].contains n = false) (f : Q () s) : wpAny M A (letOwnedTupleGo g (.ref h) u) Q E s := by
  cases g <;> first
    | exact Wg f
    | (cases u <;> first
        | exact Wg f
        | (refine Wb (wpAny_load l ?_)
           rw [q, p]
           show wpAny M A (if (["enumerate", "zip", "dict_itemiterator", "dict_reverseitemiterator", "odict_iterator", "itertools.zip_longest", "itertools.pairwise"].contains n && vs[0]? == some (rawInt _)) = true then _ else _) Q E s
           rw [Wl (by grind)]
           exact Wg f))
noncomputable def Itl(K:Yd)(a:Addr):It:=
 ⟨λi H=>∃xs x,SqL K H a xs/\xs[i]?=some x,λi H x f=>f=H/\∀xs,SqL K H a xs->xs[i]?=some x,λi H=>∃xs,SqL K H a xs/\xs.length<=i⟩
noncomputable def Itr(lo:Int)(n:Nat):It:=⟨λi _=>i<n,λi H x f=>f=H/\x=.int (lo+i),λi _=>n<=i⟩
def RU{K tg}(a it:Addr):Turn P w K tg (Itl K a) [it] it (λi h=>h.IsListIter it a i) where
 mem:=by simp
 obj:=λi h st b hb=>by
  have e:b=it:=by simpa using hb
  subst e;obtain⟨o,e,c,d⟩:=st;exact⟨o,e,λv z=>by rw[d]at z;cases z⟩
 keep:=λi h h' st k=>st.at λo e=>k it (by simp) o e
 item:=by
  intro X hP hw hK hc i pins s σ H E I hf st hg;subst hP hw hK;obtain⟨xs,x,hq,hx⟩:=hg;obtain⟨its,rv,p,hz⟩:=I.list hq;obtain⟨u,hu,ru⟩:=rv.get hx;obtain⟨f0,f1,f2,f3,f4,f5⟩:=hf it (by simp);refine wpAny_pyNext_list_item st p.isList (by simpa using hu) λh' st' sb=>?_;have I1:Inv X pins σ H {s with heap:=h'}:=I.turned (λb o hb e=>(sb.2 b hb).trans e) f0 f1 f3 f4 f5
  obtain⟨o,e,c,d⟩:=id st';exact⟨u,rfl,Sk e c d (by decide) ⟨x,H,I1,ru,⟨rfl,λys hy=>by rw[I.list_inj hy hq];exact hx⟩,st',λb hb=>(hf b hb).1⟩⟩
 done:=by
  intro X hP hw hK hc i pins s σ H E I hf st hg;subst hP hw hK;obtain⟨xs,hq,hx⟩:=hg;obtain⟨its,rv,p,hz⟩:=I.list hq;obtain⟨f0,f1,f2,f3,f4,f5⟩:=hf it (by simp);have hl:=rv.length;exact wpAny_pyNext_list_end (I.ok.hd hc) st p.isList (by simp;lia) λh' eb=>⟨rfl,I.turned (λb o hb e=>eb b o hb e) f0 f1 f3 f4 f5⟩
 self:=λ_ _ _ _ _ st h=>wpAny_pyIter_listiter st h
def LQ{K tg}(it:Addr)(lo:Int)(n:Nat):Turn P w K tg (Itr lo n) [it] it (λi h=>IsRangeIter h it (lo+(i:Nat)*1) ((n:Int)-(i:Nat)) 1) where
 mem:=by simp
 obj:=λi h st b hb=>by
  have e:b=it:=by simpa using hb
  subst e
  exact⟨_,st,λv z=>by
   cases z⟩
 keep:=λi h h' st k=>k it (by simp) _ st
 item:=by
  intro X hP hw hK hc i pins s σ H E I hf st hg;subst hP hw hK;obtain⟨f0,f1,f2,f3,f4,f5⟩:=hf it (by simp);refine(Walks.range (prog:=X.prog) (w:=X.w) (I.ok.hd hc) it lo 1 n).item i s _ _ hg st λv h' tk hv st' kk=>?_;obtain⟨t,rfl⟩:=hv;have I1:Inv X pins σ H {s with heap:=h',toks:=tk}:=I.turned (λb o hb e=>kk b o (by simpa using hb) e) f0 f1 f3 f4 f5
  refine⟨_,rfl,Sk st' rfl rfl (by decide) ⟨.int (lo+i),H,I1,⟨t,?_⟩,⟨rfl,rfl⟩,st',λb hb=>(hf b hb).1⟩⟩;rw[Int.mul_one]
 done:=by
  intro X hP hw hK hc i pins s σ H E I hf st hg;obtain⟨f0,f1,f2,f3,f4,f5⟩:=hf it (by simp);exact wpAny_pyNext_range_end (I.ok.hd hc) st (by have:n<=i:=hg;lia) λh' eb=>⟨rfl,I.turned (λb o hb e=>eb b o hb e) f0 f1 f3 f4 f5⟩
 self:=λ_ _ _ _ _ st h=>wpAny_pyIter_rangeiter st h
section
variable {X:Cx}{tg:Expr}
noncomputable def NG(K:Yd)(h:TE):TI:=λg H R=>h g H λx f=>∃a,x=.ref a/\(∃xs,SqL K f a xs)/\R (Itl K a) f
def CN(z:PE X l r):PI X tg l (NG X.K r):=by
 intro pins s n H R I h;refine thn (z pins s n H _ I h) λv g ⟨x,A,f,u,w⟩=>?_;obtain⟨a,e,⟨xs,hq⟩,q⟩:=w;subst e;cases u
 obtain⟨y,B,p,C⟩:=f.list hq;refine wpAny_pyIter_list p.isList ?_;refine⟨g.heap.objs.size,[g.heap.objs.size],_,_,A,rfl,f.kept λb o e=>We _ e,RU a _,⟨_,Wn _ rfl,rfl,rfl⟩,λb E=>?_,q⟩;have e:b=g.heap.objs.size:=by grind
 subst e;exact f.fpOk (Wk _) (f.hok.fresh<|Wk _)
def Et{g:St}{H}{s}{R}{E}{lo f}{t u v}{tk}(I:Inv X pins g H s)(x:-(2 ^ 62)<=lo)(r:lo<2 ^ 62)(p:-(2 ^ 62)<=f)(n:f<2 ^ 62)(q:R (Itr lo (f-lo).toNat) H):wpAny (model X.prog X.w) X.A (pyIter<|.ref s.heap.objs.size) (PIE X pins g tg R) E {s with heap:=s.heap.push {cls:=.type "range",data:=.fields #[.int lo t,.int f u,.int 1 v]},toks:=tk}:=by
 refine wpAny_pyIter_range (IsRange.new ..) (small_one x r p n) ?_;have h:Inv X pins g H {s with heap:=s.heap.push {cls:=.type "range",data:=.fields #[.int lo t,.int f u,.int 1 v]},toks:=tk}:=I.kept λb o e=>We _ e
 refine⟨(s.heap.push {cls:=.type "range",data:=.fields #[.int lo t,.int f u,.int 1 v]}).objs.size,[(s.heap.push {cls:=.type "range",data:=.fields #[.int lo t,.int f u,.int 1 v]}).objs.size],_,_,H,rfl,
  h.kept λb o e=>We _ e,LQ _ lo (f-lo).toNat,?_,λb l=>?_,q⟩
 ·have z:lo+((0:Nat):Int)*1=lo:=by simp
  have y:(((f-lo).toNat:Nat):Int)-((0:Nat):Int)=Builtin.Range.rangeSize lo f 1:=by rw[rangeSize_one];split<;>lia
  rw[z,y];exact Wn _ rfl
 ·have e:b=(s.heap.push {cls:=.type "range",data:=.fields #[.int lo t,.int f u,.int 1 v]}).objs.size:=by simpa using l
  subst e;exact h.fpOk (Wk _) (h.hok.fresh<|Wk _)
noncomputable def Df(h:TA):TI:=λf H R=>h f H λg l=>∃j:Int,g=[.int j]/\-(2 ^ 62)<=j/\j<2 ^ 62/\R (Itr 0 j.toNat) l
noncomputable def AF(h:TA):TI:=λf H R=>h f H λg l=>∃i j:Int,g=[.int i,.int j]/\(-(2 ^ 62)<=i/\i<2 ^ 62/\-(2 ^ 62)<=j/\j<2 ^ 62)/\R (Itr i (j-i).toNat) l
def OI(x:Gl X "range")(w:X.mg "range"=none)(y:PA X [a] l)(v:autoParam (starEach [a] X.env=[(false,eval a X.env)]) au_0):PI X tg (.Call (.Name "range" p) [a] [] pos) (Df l):=by
 intro pins s g H R I h;refine Call_ (Pd I x w boot_range<|Qk (thn (y pos pins s g H _ I h) λB C ⟨A,E,z,o,f⟩=>?_) v rfl);obtain⟨j,e,f,u,q⟩:=f;subst e;cases o with
 |cons r n=>
  cases n
  obtain⟨t,rfl⟩:=r;exact call_range_1 (Et z (by lia) (by lia) f u<|by grind)
def L7{p pos}(A:Gl X "range")(z:X.mg "range"=none)(B:PA X [a,b] o)(M:autoParam (starEach [a,b] X.env=[(false,eval a X.env),(false,eval b X.env)]) au_0)(l:autoParam (starEach [b] X.env=[(false,eval b X.env)]) au_0) :
  PI X tg (.Call (.Name "range" p) [a,b] [] pos) (AF o):=by
 intro pins s n H R I h;refine Call_ (Pd I A z boot_range<|Qk (thn (B pos pins s n H _ I h) λG L ⟨E,N,C,u,g⟩=>?_) (by grind)<|by rw[l];rfl);obtain⟨i,j,e,⟨g,y,x,w⟩,q⟩:=g;subst e;cases u with
 |cons r f=>
  cases f with
  |cons v f=>
   cases f
   obtain⟨t,rfl⟩:=r;obtain⟨J,rfl⟩:=v;exact call_range_2 (Et C g y x w q)
noncomputable def EN(p:TI)(g:TG)(q:TS):TS:=λD f H=>p f H λJ s=>∃W:Nat->Nat->St->Hp->Prop,(∃m,W 0 m f s)/\∀i m f H,W i m f H->
 (J.stop i H/\D.nx f H)\/(J.go i H/\∃N:St->Hp->Prop,(∀h l,N h l->∃o,o<m/\W (i+1) o h l)/\∀x l,J.yld i H x l->g x f l λn r=>q {D with nx:=N,ct:=N,bk:=D.nx} n r)
noncomputable def PD(f:List Addr)(h:Heap):Yg:=f.filterMap λb=>(h.get? b).map λo=>(b,o)
def Nb{b o}(f:b∈g)(e:h.get? b=some o):(b,o)∈PD g h:=Vs.mpr ⟨b,f,by rw[e];rfl⟩
def Zaq(f:p∈PD g h):p.1∈g/\h.get? p.1=some p.2:=by
 obtain⟨b,l,e⟩:=Vs.mp f;cases q:h.get? b with
 |_=>grind
def Inv.pinned {f:St}{H}{s}{fp} (I:Inv X pins f H s) (h:∀b∈fp,XW X pins H b) (n:∀b∈fp,∃o,s.heap.get? b=some o/\∀v,o.data≠.cell v):Inv X (pins++PD fp s.heap) f H s:=
 I.pins_of λp g=>(WH.mp g).elim (λz=>I.pin p (Wy _ z)) λz=>by
  obtain⟨l,e⟩:=Zaq z;obtain⟨f0,f1,q,_⟩:=h p.1 l
  grind
def Inv.unpinned {f:St}{H}{s} (I:Inv X (pins++h) f H s):Inv X pins f H s:=I.pins_of λp g=>I.pin p (Wy _<|Qe _ g)
def HC{wi g tb pos}(M:PassesOwn (model X.prog X.w) X.A X.env X.xe)(hc:X.calm=true)(hi:PI X tg iter wi)(hg:PG X tg g)(y:PSs X body tb)(hs:autoParam (∀x,foldedSetIterable iter X.env x=pure x) au_3):PS X (.For tg iter body [] pos) (EN wi g tb):=by
 intro pins s σ H D I h;refine wpAny_For (thn (hi pins s σ H _ I h) λv s1 h1=>thn h1 λitv s2 h2=>?_) hs;obtain⟨it,U,tn,J,H2,e,I2,T,st2,f2,W,⟨m0,w0⟩,turn⟩:=h2;subst e;have stat:∀{B:Hp},(∀b∈U,B b=none)->∀b∈U,XW X pins B b:=λhn b y=>⟨hn b y,(f2 b y).2⟩;refine codeAny_forLoop_any (λn s'=>∃i q B,Inv X pins q B s'/\tn i s'.heap/\(∀b∈U,B b=none)/\W i n q B) ?_ m0 ⟨0,σ,H2,I2,st2,λb y=>(f2 b y).1,w0⟩;rintro n s3 ⟨i,p,Y,I3,L,Q,w3⟩;rcases turn i n p Y w3 with⟨stop,qn⟩|⟨go,N,hN,step⟩
 ·refine Qm M (thn (T.done X rfl rfl rfl hc i pins s3 p Y X.xe I3 (stat Q) L stop) ?_);rintro r s4 ⟨hr,I4⟩;subst hr;exact Vi ⟨p,Y,I4,qn⟩
 ·refine Qm M (thn (T.item X rfl rfl rfl hc i pins s3 p Y X.xe I3 (stat Q) L go) ?_);rintro r s4 ⟨u,hr,h4⟩;subst hr;refine Qm M (thn h4 ?_);rintro _ s5 ⟨x,H5,I5,r5,y5,E,fr5⟩;refine Qm M (thn (hg _ s5 p H5 x u _ (I5.pinned (stat fr5)<|T.obj _ _ E) r5<|step x H5 y5) ?_);rintro _ s6 ⟨σ6,H6,I6,q6⟩;refine Qm M (thn (y _ s6 σ6 H6 _ I6 q6) λf s7 G=>?_)
  have again:∀{l:St} {z:Hp},Inv X (pins++PD U s5.heap) l z s7->N l z->∃m,m<n/\∃i q B,Inv X pins q B s7/\tn i s7.heap/\(∀b∈U,B b=none)/\W i m q B:=λ{l z} C n7=>by
   obtain⟨m',hm,w7⟩:=hN l z n7;refine⟨m',hm,i+1,l,z,C.unpinned,T.keep _ _ _ E λb y o e=>(C.pin (b,o)<|Wy _<|Wy _<|Nb y e).1,λb y=>?_,w7⟩;obtain⟨o,e,d⟩:=T.obj _ _ E b y;exact(C.pin (b,o)<|Wy _<|Wy _<|Nb y e).2.1
  cases f with
  |brk=>obtain⟨l,z,C,G⟩:=G;exact⟨l,z,C.unpinned,G⟩
  |ret v=>obtain⟨x7,l,z,C,r7,G⟩:=G;exact⟨x7,l,z,C.unpinned,r7,G⟩
  |_=>obtain⟨l,z,C,n7⟩:=G;exact again C n7
end
abbrev R2:=V->V->Hp->VK->Prop
def OpR(X:Cx)(f:Value->Value->Sem Value)(r:R2):Prop:=
 ∀(pins:Yg) (s:Shared) (g:St) (H:Hp) (x y:V) (v u:Value) (Q:VK),Inv X pins g H s->RelV x v->RelV y u->r x y H Q->
  wpAny (model X.prog X.w) X.A (f v u) (EP X pins g Q) X.xe s
def UnR(X:Cx)(f:Value->Sem Value)(r:V->Hp->VK->Prop):Prop:=
 ∀(pins:Yg) (s:Shared) (g:St) (H:Hp) (x:V) (v:Value) (Q:VK),Inv X pins g H s->RelV x v->r x H Q->
  wpAny (model X.prog X.w) X.A (f v) (EP X pins g Q) X.xe s
def UV(X:Cx)(f:Value)(r:List V->Hp->VK->Prop):Prop:=
 ∀(pins:Yg) (s:Shared) (g:St) (H:Hp) (xs:List V) (h:Yl) (Q:VK),Inv X pins g H s->Vals xs h->r xs H Q->
  wpAny (model X.prog X.w) X.A (call f h) (EP X pins g Q) X.xe s
def OJ(X:Cx)(r:V->Hp->(Bool->Hp->Prop)->Prop):Prop:=
 ∀(pins:Yg) (s:Shared) (f:St) (H:Hp) (x:V) (v:Value) (Q:Bool->Hp->Prop),Inv X pins f H s->RelV x v->r x H Q->
  wpAny (model X.prog X.w) X.A (truthy v) (TP X pins f Q) X.xe s
noncomputable def tOp(r:R2)(h g:TE):TE:=λf H Q=>h f H λx n=>g f n λy l=>r x y l Q
noncomputable def tUn(r:V->Hp->VK->Prop)(g:TE):TE:=λf H Q=>g f H λx h=>r x h Q
noncomputable def rI(C:Int->Int->Prop)(g:Int->Int->V):R2:=λx y H Q=>∃i j,x=.int i/\y=.int j/\C i j/\Q (g i j) H
noncomputable def rI0(g:Int->Int->V):R2:=λx y H Q=>∃i j,x=.int i/\y=.int j/\Q (g i j) H
def rU(g:Int->V):V->Hp->VK->Prop:=λx H Q=>∃i,x=.int i/\Q (g i) H
section
variable {X:Cx}{a b c:Expr}{ta tb tc:TE}{pos:Pos}
def NO(C:PE X a ta)(B:PE X b tb){pins}{s}{g:St}{H}{R:V->V->Hp->Prop}(I:Inv X pins g H s)(h:ta g H λx q=>tb g q λy o=>R x y o){Q}{f:Value->Value->Sem Value}(M:∀v u p x y o,Inv X pins g o p->RelV x v->RelV y u->R x y o->wpAny (model X.prog X.w) X.A (f v u) Q X.xe p) :
  wpAny (model X.prog X.w) X.A (eval a X.env) (λv n=>wpAny (model X.prog X.w) X.A (eval b X.env) (λu l=>wpAny (model X.prog X.w) X.A (f v u) Q X.xe l) X.xe n) X.xe s:=by
 refine thn (C pins s g H _ I h) λv r ⟨x,q,E,J,z⟩=>?_;refine thn (B pins r g q _ E z) λu p ⟨y,o,N,G,L⟩=>?_
 grind
def PR(p:OpR X (binaryOp o) r)(z:PE X a ta)(w:PE X b tb):PE X (.BinOp a o b pos) (tOp r ta tb):=by
 intro pins s f H Q I h;exact wpAny_BinOp (NO z w I h λv u g x y B A n l q=>p pins g f B x y v u Q A n l q)
def TC(p:UnR X (unaryOp o) r)(q:PE X a ta):PE X (.UnaryOp o a pos) (tUn r ta):=by
 intro pins s f H Q I h;exact UnaryOp_ (thn (q pins s f H _ I h) λv g ⟨x,w,u,l,n⟩=>p pins g f w x v Q u l n)
def opI{C}{g:Int->Int->Int}(rule:∀i j t u s Q E,C i j->Q (.int (g i j) s.toks) {s with toks:=s.toks+1}->wpAny (model X.prog X.w) X.A (f (.int i t)<|.int j u) Q E s) :
  OpR X f (rI C λi j=>.int (g i j)):=by
 intro pins s r H x y v u Q I o n h;obtain⟨i,j,rfl,rfl,p,q⟩:=h;obtain⟨t,rfl⟩:=o;obtain⟨l,rfl⟩:=n;exact rule i j t l s _ _ p ⟨.int (g i j),H,I.tok _,⟨_,rfl⟩,q⟩
def Dp{g:Int->Int->Int}(rule:∀i j t u s Q E,Q (.int (g i j) s.toks) {s with toks:=s.toks+1}->wpAny (model X.prog X.w) X.A (f (.int i t)<|.int j u) Q E s) :
  OpR X f (rI0 λi j=>.int (g i j)):=by
 intro pins s p H x y v u Q I o n h;obtain⟨i,j,rfl,rfl,q⟩:=h;obtain⟨t,rfl⟩:=o;obtain⟨l,rfl⟩:=n;exact rule i j t l s _ _ ⟨.int (g i j),H,I.tok _,⟨_,rfl⟩,q⟩
def Fw{g:Int->Int->Bool}(rule:∀i j t u s Q E,Q (.bool<|g i j) s->wpAny (model X.prog X.w) X.A (f (.int i t)<|.int j u) Q E s) :
  OpR X f (rI0 λi j=>.bl (g i j)):=by
 intro pins s p H x y v u Q I o n h;obtain⟨i,j,rfl,rfl,q⟩:=h;obtain⟨t,rfl⟩:=o;obtain⟨l,rfl⟩:=n;exact rule i j t l s _ _ ⟨.bl (g i j),H,I,rfl,q⟩
def KS(i j:Int):Prop:=0<j/\j<1073741824
def SD(i j:Int):Prop:=0<=j/\j<=1000000/\i.natAbs<2 ^ 64
def CMul(i j:Int):Prop:=(-(2 ^ 64)<i/\i<2 ^ 64)\/(-(2 ^ 64)<j/\j<2 ^ 64)
def CMul.ok (h:CMul i j):IntMulOk i j:=by
 rcases h with⟨g,f⟩|⟨g,f⟩
 ·exact .of_left (intBits_le_64 g f)
 ·exact .of_right (intBits_le_64 g f)
def UQ:OpR X (binaryOp .Add) (rI0 λi j=>.int (i+j)):=Dp λ_ _ _ _ _ _ _ q=>add_int q
def XG:OpR X (binaryOp .Sub) (rI0 λi j=>.int (i-j)):=Dp λ_ _ _ _ _ _ _ q=>sub_int q
def Kx:OpR X (binaryOp .Mult) (rI CMul λi j=>.int (i*j)):=opI λ_ _ _ _ _ _ _ f q=>mul_int q f.ok
def Xt:OpR X (binaryOp .FloorDiv) (rI KS λi j=>.int (i / j)):=opI λi j _ _ _ _ _ f q=>by
 have h:=f.1;have g:=f.2;exact floordiv_int (by lia) (by rw[Int.fdiv_eq_ediv_of_nonneg i (by lia)];exact q) (.inl<|PyProof.noPylong_small<|by lia)
def U5:OpR X (binaryOp .Mod) (rI (λ_ j=>0<j) λi j=>.int (i % j)):=opI λi j _ _ _ _ _ f q=>by
 exact mod_int' (by lia) (by grind)
def GJ:OpR X (binaryOp .Pow) (rI SD λi j=>.int (i ^ j.toNat)):=opI λ_ _ _ _ _ _ _ f q=>pow_int_small f.1 f.2.1 f.2.2 q
def unI{g:Int->Int}(rule:∀i t s Q E,Q (.int (g i) s.toks) {s with toks:=s.toks+1}->wpAny (model X.prog X.w) X.A (f<|.int i t) Q E s) :
  UnR X f (rU λi=>.int (g i)):=by
 intro pins s n H x v Q I l h;obtain⟨i,rfl,q⟩:=h;obtain⟨t,rfl⟩:=l;exact rule i t s _ _ ⟨.int (g i),H,I.tok _,⟨_,rfl⟩,q⟩
def T1:UnR X (unaryOp .USub) (rU λi=>.int (-i)):=unI λ_ _ _ _ _ q=>neg_int q
end
noncomputable def En:V->V->Bool
 | .non,.non=>true | .non,.int _=>true | .int _,.non=>true | .non,.bl _=>true | .bl _,.non=>true | .non,.str _=>true | .str _,.non=>true
 | .int _,.int _=>true | .bl _,.bl _=>true | .str _,.str _=>true | .byt _,.byt _=>true
 | .int _,.str _=>true | .str _,.int _=>true | .bl _,.str _=>true | .str _,.bl _=>true
 |_,_=>false
noncomputable def rEq:R2:=λx y H Q=>En x y=true/\Q (.bl<|decide (x=y)) H
noncomputable def rNe:R2:=λx y H Q=>En x y=true/\Q (.bl (!decide (x=y))) H
def Dj{i j:Int}:decide (V.int i=V.int j)=(i==j):=by
 rw[Qz];simp
def FJ{i j:Bool}:decide (V.bl i=V.bl j)=(i==j):=by
 rw[Qz];simp
def Cu{i j:Str}:decide (V.str i=V.str j)=(i==j):=by
 rw[Qz];simp
def FK{i j:Array UInt8}:decide (V.byt i=V.byt j)=(i.toList==j.toList):=by
 rw[Qz];cases i
 cases j
 simp
section
variable {X:Cx}{a b c:Expr}{ta tb tc:TE}{pos:Pos}
def Us{f:St}{H}{s}{Q}{k g}(I:Inv X pins f H s)(q:Q (.bl k) H)(e:k=g):EP X pins f Q (.bool g) s:=by
 subst e;exact⟨.bl k,H,I,rfl,q⟩
def op_eq:OpR X (compareOp .Eq) rEq:=by
 intro pins s o H x y v u Q I n f h;obtain⟨l,q⟩:=h;cases x with
 |non=>
  cases n
  cases y with
  |non=>cases f;exact PySem.EqNone.eq_none_none (Us I q<|by simp)
  |bl j=>cases f;exact PySem.EqNone.eq_none_bool (Us I q<|by simp)
  |int j=>obtain⟨g,rfl⟩:=f;exact PySem.EqNone.eq_none_int (Us I q<|by simp)
  |str j=>obtain⟨g,rfl⟩:=f;exact PySem.EqNone.eq_none_str (Us I q<|by simp)
  |_=>exact absurd l Wt
 |bl i=>
  cases n
  cases y with
  |non=>cases f;exact PySem.EqNone.eq_bool_none (Us I q<|by simp)
  |bl j=>cases f;exact eq_bool (Us I q FJ)
  |str j=>obtain⟨g,rfl⟩:=f;exact PySem.EqMixed.eq_bool_str (Us I q<|by simp)
  |_=>exact absurd l Wt
 |int i=>
  obtain⟨t,rfl⟩:=n;cases y with
  |non=>cases f;exact PySem.EqNone.eq_int_none (Us I q<|by simp)
  |int j=>obtain⟨g,rfl⟩:=f;exact eq_int (Us I q Dj)
  |str j=>obtain⟨g,rfl⟩:=f;exact PySem.EqMixed.eq_int_str (Us I q<|by simp)
  |_=>exact absurd l Wt
 |str i=>
  obtain⟨t,rfl⟩:=n;cases y with
  |non=>cases f;exact PySem.EqNone.eq_str_none (Us I q<|by simp)
  |bl j=>cases f;exact PySem.EqMixed.eq_str_bool (Us I q<|by simp)
  |int j=>obtain⟨g,rfl⟩:=f;exact PySem.EqMixed.eq_str_int (Us I q<|by simp)
  |str j=>obtain⟨g,rfl⟩:=f;exact eq_str (Us I q Cu)
  |_=>exact absurd l Wt
 |byt i=>
  obtain⟨t,rfl⟩:=n;cases y with
  |byt j=>obtain⟨g,rfl⟩:=f;exact PySem.W.eq_bytes (Us I q FK)
  |_=>exact absurd l Wt
 |_=>cases y<;>exact absurd (show false=true from l) Wt
def op_ne:OpR X (compareOp .NotEq) rNe:=by
 intro pins s o H x y v u Q I n f h;obtain⟨l,q⟩:=h;cases x with
 |non=>
  cases n
  cases y with
  |non=>cases f;exact PySem.EqNone.ne_none_none (Us I q<|by simp)
  |bl j=>cases f;exact PySem.EqNone.ne_none_bool (Us I q<|by simp)
  |int j=>obtain⟨g,rfl⟩:=f;exact PySem.EqNone.ne_none_int (Us I q<|by simp)
  |str j=>obtain⟨g,rfl⟩:=f;exact PySem.EqNone.ne_none_str (Us I q<|by simp)
  |_=>exact absurd l Wt
 |bl i=>
  cases n
  cases y with
  |non=>cases f;exact PySem.EqNone.ne_bool_none (Us I q<|by simp)
  |bl j=>cases f;exact ne_bool (Us I q<|WJ not FJ)
  |str j=>obtain⟨g,rfl⟩:=f;exact PySem.EqMixed.ne_bool_str (Us I q<|by simp)
  |_=>exact absurd l Wt
 |int i=>
  obtain⟨t,rfl⟩:=n;cases y with
  |non=>cases f;exact PySem.EqNone.ne_int_none (Us I q<|by simp)
  |int j=>obtain⟨g,rfl⟩:=f;exact ne_int (Us I q<|WJ not Dj)
  |str j=>obtain⟨g,rfl⟩:=f;exact PySem.EqMixed.ne_int_str (Us I q<|by simp)
  |_=>exact absurd l Wt
 |str i=>
  obtain⟨t,rfl⟩:=n;cases y with
  |non=>cases f;exact PySem.EqNone.ne_str_none (Us I q<|by simp)
  |bl j=>cases f;exact PySem.EqMixed.ne_str_bool (Us I q<|by simp)
  |int j=>obtain⟨g,rfl⟩:=f;exact PySem.EqMixed.ne_str_int (Us I q<|by simp)
  |str j=>obtain⟨g,rfl⟩:=f;exact ne_str (Us I q<|WJ not Cu)
  |_=>exact absurd l Wt
 |byt i=>
  obtain⟨t,rfl⟩:=n;cases y with
  |byt j=>obtain⟨g,rfl⟩:=f;exact PySem.W.ne_bytes (Us I q<|WJ not FK)
  |_=>exact absurd l Wt
 |_=>cases y<;>exact absurd (show false=true from l) Wt
def KW:OpR X (compareOp .Lt) (rI0 λi j=>.bl (decide (i<j))):=Fw λ_ _ _ _ _ _ _ q=>lt_int q
def Kv:OpR X (compareOp .Gt) (rI0 λi j=>.bl (decide (j<i))):=Fw λ_ _ _ _ _ _ _ q=>gt_int q
def OpR.or (h:OpR X f r) (p:OpR X f o):OpR X f (λx y H Q=>r x y H Q\/o x y H Q):=by
 intro pins s g H x y v u Q I n l q;rcases q with q|q
 ·exact h pins s g H x y v u Q I n l q
 ·exact p pins s g H x y v u Q I n l q
def XT(b:Expr){op}(h:autoParam (op≠.In) au_1)(l:autoParam (op≠.NotIn) au_1):behindInMarks op b=false:=by
 have g:(op==CmpOp.In)=false:=by grind
 have f:(op==CmpOp.NotIn)=false:=by grind
 cases b<;>simp[behindInMarks,g,f]
def PZ(p:OpR X (compareOp f) r)(A:PE X a ta)(z:PE X b tb)(w:behindInMarks f b=false):PE X (.Compare a [f] [b] pos) (tOp r ta tb):=by
 intro pins s g H Q I h;exact wpAny_Compare1 (NO A z I h λv u l x y C B o n q=>p pins l g C x y v u Q B o n q) w
noncomputable def N3(t:TE):TT:=λf H Q=>t f H λx g=>∃k,x=.bl k/\Q k g
def KY(C:OpR X (compareOp g) r)(J:PE X a ta)(G:PE X b tb)(E:behindInMarks g b=false):PT X (.Compare a [g] [b] pos) (N3<|tOp r ta tb):=by
 intro pins s f H Q I h
 refine wpAny_isTrue_Compare1 (thn (J pins s f H _ I h) λv n ⟨x,Y,N,q,B⟩=>thn (G pins n f Y _ N B) λu l ⟨y,U,M,p,A⟩=>
  thn (C pins l f U x y v u _ M q p A) λc s3 ⟨z,T,L,o,k,e,w⟩=>?_) E
 subst e;cases o
 exact Qt ⟨T,L,w⟩
def B6(K:Yd)(x:V)(H:Hp)(k:Bool):Prop:=
 match x with
 | .non=>k=false
 | .bl b=>k=b
 | .int i=>k=(i != 0)
 | .str y=>y.length<=sizeLine/\k=((y.length:Int) != 0)
 | .byt y=>y.size<=sizeLine/\k=((y.size:Int) != 0)
 | .ref p=>(∃xs,SqL K H p xs/\k=!xs.isEmpty)\/(∃xs,SqT K H p xs/\k=!xs.isEmpty)\/∃f,H p=some (.dK f)/\k=!f.isEmpty
 |_=>False
def On(r:KV f vs):(!vs.isEmpty)=!f.isEmpty:=by
 cases r<;>rfl
def Ct(r:Vals xs f):(!f.toArray.isEmpty)=!xs.isEmpty:=by
 cases r<;>simp
def TU:(sizeLine:Nat)<2 ^ 63:=by trivial
def Iq:OJ X (λx H Q=>∃k,B6 X.K x H k/\Q k H):=by
 intro pins s B H x v Q I l h;obtain⟨k,e,q⟩:=h;have G:=TU;have E:=sizeLine_eq;cases x with
 |non=>
  cases l
  have f:=e;subst f;exact truthy_none ⟨H,I,q⟩
 |bl b=>
  cases l
  have f:=e;subst f;exact Qt ⟨H,I,q⟩
 |int i=>
  obtain⟨t,rfl⟩:=l;have f:=e;subst f;exact PySem.P.truthy_int ⟨H,I,q⟩
 |str y=>
  obtain⟨t,rfl⟩:=l;obtain⟨z,f⟩:=e;subst f;exact PySem.P.truthy_str (by lia) ⟨H,I.tok _,q⟩
 |byt y=>
  obtain⟨t,rfl⟩:=l;obtain⟨z,f⟩:=e;subst f;exact PySem.W.truthy_bytes (by lia) ⟨H,I.tok _,q⟩
 |ref p=>
  cases l
  have f:=e;rcases f with⟨xs,hx,f⟩|⟨xs,hx,f⟩|⟨w,hx,f⟩
  ·subst f;obtain⟨o,r,n,u⟩:=I.list hx;have g:=r.length;exact wpAny_truthy_list n.isList (by simp only[W4];lia) ⟨H,I.tok _,by rw[Ct r];exact q⟩
  ·subst f;obtain⟨o,r,n,u⟩:=I.tuple hx;have g:=r.length;exact truthy_tuple n (by simp only[W4];lia) ⟨H,I.tok _,by rw[Ct r];exact q⟩
  ·subst f;obtain⟨u,A,C,r,m⟩:=I.hok p _ hx;have g:=Paired.length r;exact wpAny_truthy_dict A m (by lia) ⟨H,I.tok _,by rw[On r];exact q⟩
 |_=>exact e.elim
def Zb9(p:PE X a ta)(o:∀whole,isTrue a X.env whole=(do let v ←whole;standAt a.pos;holding [v] (truthy v))) :
  PT X a (λf H Q=>ta f H λx H'=>∃k,B6 X.K x H' k/\Q k H'):=by
 intro pins s f H Q I h;exact isTrue_plain (thn (p pins s f H _ I h) λv g ⟨x,r,q,l,n⟩=>Iq pins g f r x v Q q l n) (o _)
def vals1(r:Vals [x] us):∃u,us=[u]/\RelV x u:=by
 cases r with
 |cons g f=>cases f;exact⟨_,rfl,g⟩
def Zbg:UV X (.type "int") (λxs H Q=>(∃i,xs=[.int i]/\Q (.int i) H)\/∃k,xs=[.bl k]/\Q (.int (if k then 1 else 0)) H):=by
 intro pins s g H xs l Q I r h;rcases h with⟨i,rfl,q⟩|⟨k,rfl,q⟩
 ·obtain⟨u,rfl,t,rfl⟩:=vals1 r;exact call_int_int ⟨.int i,H,I,⟨_,rfl⟩,q⟩
 ·obtain⟨u,rfl,f⟩:=vals1 r;cases f
  exact call_int_bool ⟨.int (if k then 1 else 0),H,I.tok _,⟨_,rfl⟩,q⟩
def A5:UV X (.type "str") (λxs H Q=>∃i,xs=[.int i]/\i.natAbs.log2<1920/\Q (.str<|toString i) H):=by
 intro pins s g H xs l Q I r h;obtain⟨i,rfl,f,q⟩:=h;obtain⟨u,rfl,t,rfl⟩:=vals1 r;exact PySem.P.str_of_int f ⟨.str _,H,I.tok _,⟨_,rfl⟩,q⟩
def Nc(K:Yd)(x:V)(H:Hp)(n:Nat):Prop:=
 match x with
 | .str y=>y.length<=sizeLine/\n=y.length
 | .byt y=>y.size<=sizeLine/\n=y.size
 | .ref p=>(∃xs,SqL K H p xs/\n=xs.length)\/∃xs,SqT K H p xs/\n=xs.length
 |_=>False
def Bi:UV X (.builtin "len") (λxs H Q=>∃x n,xs=[x]/\Nc X.K x H n/\Q (.int n) H):=by
 intro pins s B H xs C Q I r h;obtain⟨x,n,rfl,e,q⟩:=h;obtain⟨u,rfl,l⟩:=vals1 r;have E:=sizeLine_eq;cases x with
 |str y=>
  obtain⟨t,rfl⟩:=l;obtain⟨A,g⟩:=e;subst g;exact len_str (by lia) ⟨.int _,H,I.tok _,⟨_,rfl⟩,q⟩
 |byt y=>
  obtain⟨t,rfl⟩:=l;obtain⟨A,g⟩:=e;subst g;exact PySem.W.len_bytes (by lia) ⟨.int _,H,I.tok _,⟨_,rfl⟩,q⟩
 |ref p=>
  cases l
  have g:=e;rcases g with⟨xs,hx,g⟩|⟨xs,hx,g⟩
  ·subst g;obtain⟨w,o,v,z⟩:=I.list hx;have f:=o.length;exact Calls.call_len_list v.isList (by simp only[W4];lia) ⟨.int xs.length,H,I.tok _,⟨_,by simp only[W4];rw[f]⟩,q⟩
  ·subst g;obtain⟨w,o,v,z⟩:=I.tuple hx;have f:=o.length;exact len_tuple v (by simp only[W4];lia) ⟨.int xs.length,H,I.tok _,⟨_,by simp only[W4];rw[f]⟩,q⟩
 |_=>exact e.elim
end
structure Ko (h:Heap) (x dx C:Addr) (mA:Yh):Prop where
 obj:h.get? x=some (PySem.W.instObj C dx)
 ns:h.Ns1 dx mA
 ne:dx≠x
def Zas{h:Heap}{dx}{mA}(n:h.Ns1 dx mA):∃g,h.get? dx=some g/\∀name,PySem.W.lookIn name g=some (mA name):=by
 obtain⟨o,v,w,p,u,s,_,r⟩:=n;refine⟨o,p,λname=>?_⟩;have e:=r name;unfold nsFind findBy at e;unfold PySem.W.lookIn;rw[u]
 dsimp only
 split
 ·grind
 ·rename_i q
  have a:v.toList.any (·.refKey)=false:=by
   rw[List.any_eq_false];intro y l;obtain⟨z,t,f⟩:=s y (Array.mem_toList_iff.mp l);simp[DictEntry.refKey,f]
  grind
def Ko.look (I:Ko h x o C g):∃f,PySem.W.InstAt h x (PySem.W.instObj C o) C (some f)/\∀name,PySem.W.lookIn name f=some (g name):=
 let ⟨f,l,n⟩:=Zas I.ns
 ⟨f,⟨I.obj,rfl,rfl,l⟩,n⟩
section
variable {prog:Program}{w:World}{A:Around}{E:Yi}{s:Shared}{K:Yd}{x dx C f:Addr}{mA:Yh}{name:Str}{v:Value}
def Rr{Q}(X:K.In s.heap)(I:Ko s.heap x dx C mA)(n:PySem.W.plainGet K C name=true)(l:PySem.W.hasDictIn K C=true)(o:PySem.W.findIn K (.ref C) name=some none)(q:mA name=some v)(g:PySem.W.handedIn v=true)(h:Q v {s with toks:=s.toks+1}) :
  wpAny (model prog w) A (getAttr (.ref x) name expr) Q E s:=by
 obtain⟨p,J,r⟩:=I.look;exact PySem.W.get_value X J (Vo n).1 (PySem.W.findObj_own l o rfl<|by grind) g h
def ON{Q}(X:K.In s.heap)(I:Ko s.heap x dx C mA)(g:PySem.W.plainGet K C name=true)(q:PySem.W.findIn K (.ref C) name=some (some<|.ref f))(o:PySem.W.isFn K (.ref f)=true)(n:mA name=none)(h:Q (.ref f,[.ref x]) s) :
  wpAny (model prog w) A (getMethod (.ref x) name r) Q E s:=by
 obtain⟨l,J,p⟩:=I.look;exact PySem.W.method_fn X J (Vo g).1 (Vo g).2 q (beq_iff_eq.mp o) (by show(PySem.W.lookIn name l).map (·.isSome)=some false;rw[p,n];rfl) h
def R6(X:K.In s.heap)(I:Ko s.heap x dx C mA)(z:PySem.W.findIn K (.ref C) "__setattr__"=some (some<|.builtin "object.__setattr__"))(B:PySem.W.plainOver K C=true)(u:PySem.W.takerIn K C name=some none)(G:PySem.W.hasDictIn K C=true)(hw:PySem.Within mA ns)(hsz:ns.length<=sizeLine)(h:∀n,Ko n x dx C (λy=>if y=name then some v else mA y)->Heap.SameBut dx s.heap n->Q () {s with heap:=n,toks:=s.toks+2}) :
  wpAny (model prog w) A (setAttr (.ref x) name v) Q E s:=by
 obtain⟨N,J,U⟩:=I.look;refine PySem.W.set_plain X J z (PySem.W.osa_open X J B u λb=>?_);obtain⟨Y,H,q⟩:=PySem.W.any_some G;refine Wb (Wg<|Wb<|Wb<|wpAny_loadPart I.obj<|Wb<|PySem.W.Looks.here (PySem.W.looks_clsIn X H) ?_);rw[q];refine Wg (Wb<|Wg<|Wb ?_);refine wpAny_nsSet1 I.ns λn l g=>?_;obtain⟨T,L,M,o,p,r⟩:=l.count (PySem.Within.cons name v hw);refine Wb (wpAny_lookBehind o (by rw[p];exact pastItsLine_dict (Wu r<|by grind)) ?_);exact Wg (h _ ⟨(g.2 _<|Ne.symm I.ne).trans I.obj,l,I.ne⟩ g)
def IM{vs g}(X:K.In s.heap)(l:PySem.W.makesIn K C=true)(n:PySem.W.findIn K (.ref C) "__init__"=some (some<|.ref f))(o:PySem.W.typeIn K (.ref f)=some (.type "function"))
  (h:codeAny (model prog w) (A.under<|.builtin "type.__call__" ⟨.ref C::vs,g⟩) (.call (.ref f) ⟨.ref (s.heap.objs.size+1)::vs,g⟩) (PySem.W.InitBack (s.heap.objs.size+1) R)
   {s with heap:=(s.heap.push PySem.W.emptyDict).push (PySem.W.instObj C s.heap.objs.size)}) :
  codeAny (model prog w) A (.call (.ref C) ⟨vs,g⟩) R s:=PySem.W.make_core (PySem.W.makes_of X l) (Q8 X n) (λself=>PySem.W.bind_fn X self o) (.inl rfl) h
end
noncomputable def UP(f:Str)(v:V):List (Str×V)->List (Str×V)
 |[]=>[(f,v)]
 |(g,x)::r=>if g=f then(g,v)::r else(g,x)::UP f v r
theorem DY(f g:Str)(v:V):∀fs,(UP f v fs).lookup g=if g=f then some v else fs.lookup g
 |[]=>by
  show List.lookup g [(f,v)]=_;by_cases h:g=f
  ·have l:=beq_iff_eq.mpr h;simp only[List.lookup,l,Wp h]
  ·have l:=Qx.mpr h;simp only[List.lookup,l,Wl h]
 |(k,x)::r=>by
  rw[show UP f v ((k,x)::r)=(if k=f then(k,v)::r else(k,x)::UP f v r)from rfl]
  by_cases n:k=f
  ·rw[Wp n];by_cases h:g=k
   ·simp_all
   ·have l:=Qx.mpr h;simp only[List.lookup,l,Wl (λe:g=f=>h (e.trans n.symm))]
  ·rw[Wl n];by_cases h:g=k
   ·simp_all
   ·have l:=Qx.mpr h;simp only[List.lookup,l];exact(DY f g v r)
theorem BP(f:Str)(v:V):∀fs,f∈(UP f v fs).map (·.1)/\∀g,g∈fs.map (·.1)->g∈(UP f v fs).map (·.1)
 |[]=>⟨by simp[UP],λg h=>by simp at h⟩
 |(k,x)::r=>by
  obtain⟨n,l⟩:=BP f v r;rw[show UP f v ((k,x)::r)=(if k=f then(k,v)::r else(k,x)::UP f v r)from rfl]
  by_cases o:k=f
  ·grind
  ·grind
theorem Cy(f:Str)(v:V):∀fs,(UP f v fs).length<=fs.length+1
 |[]=>by simp[UP]
 |(k,x)::r=>by
  have g:=Cy f v r;rw[show UP f v ((k,x)::r)=(if k=f then(k,v)::r else(k,x)::UP f v r)from rfl]
  by_cases h:k=f
  ·grind
  ·grind
def RelO.some_of (r:RelO (some v) o):∃u,o=some u/\RelV v u:=by
 cases o with
 |none=>trivial
 |some u=>exact⟨u,rfl,r⟩
def RelO.none_of (r:RelO none o):o=none:=by
 cases o with
 |none=>rfl
 |some u=>trivial
def IP(r:RelV v u):PySem.W.handedIn u=true:=by
 cases v with
 |non|bl b|ref a|ty n=>cases r;rfl
 |_=>obtain⟨t,e⟩:=r;cases e;rfl
section
variable {P:Program}{w:World}{H H':Hp}{h h':Heap}{a C dx:Addr}{fs fs':List (Str×V)}
def Nk(l:HOk P w H h)(e:H a=some (.ins C dx fs)):∃g,Ko h a dx C g/\(∀f,RelO (fs.lookup f) (g f))/\PySem.Within g (fs.map (·.1))/\fs.length<=1000/\H dx=some (.own a):=by
 obtain⟨d,z,p,o,g,n,r,q⟩:=(l a _ e);exact⟨g,⟨o,n,p⟩,r,q,z,d⟩
end
structure Cls (K:Yd) (C:Addr):Prop where
 pg:PySem.W.plainGet K C Str.empty=true
 hd:PySem.W.hasDictIn K C=true
 po:PySem.W.plainOver K C=true
 sa:PySem.W.findIn K (.ref C) "__setattr__"=some (some<|.builtin "object.__setattr__")
def Cls.get {K C} (c:Cls K C) (f:Str):PySem.W.plainGet K C f=true:=c.pg
def NoAttr(K:Yd)(C:Addr)(f:Str):Prop:=PySem.W.findIn K (.ref C) f=some none
def NoAttr.taker {K C f} (n:NoAttr K C f):PySem.W.takerIn K C f=some none:=by
 unfold PySem.W.takerIn;rw[show PySem.W.findIn K (.ref C) f=some none from n]
 rfl
structure UJ (K:Yd) (C:Addr) (m:Str) (f:Addr):Prop where
 at_:PySem.W.findIn K (.ref C) m=some (some<|.ref f)
 fn:PySem.W.isFn K (.ref f)=true
 kp:PySem.W.keepIn K (.ref f)=true
section
variable {X:Cx}{pins:Yg}{σ:St}{H:Hp}{s:Shared}{a C dx:Addr}{fs:List (Str×V)}{f:Str}{v:V}{A:Around}{E:Yi}
def R1{Q}(I:Inv X pins σ H s)(e:H a=some (.ins C dx fs))(c:Cls X.K C)(n:NoAttr X.K C f)(l:fs.lookup f=some v)(h:∀u g,Inv X pins σ H g->RelV v u->Q u g):wpAny (model X.prog X.w) A (getAttr (.ref a) f b) Q E s:=by
 obtain⟨q,O,r,_,_,_⟩:=Nk I.hok e;obtain⟨u,p,o⟩:=RelO.some_of (by rw[←l];exact r f);exact Rr I.kIn O (c.get f) c.hd n p (IP o) (h u _ (I.tok _) o)
def Nj{Q}(I:Inv X pins σ H s)(e:H a=some (.ins C dx fs))(c:Cls X.K C)(k:UJ X.K C m g)(l:fs.lookup m=none)(h:Q (.ref g,[.ref a]) s):wpAny (model X.prog X.w) A (getMethod (.ref a) m n) Q E s:=by
 obtain⟨o,O,r,_,_,_⟩:=Nk I.hok e;exact ON I.kIn O (c.get m) k.at_ k.fn (RelO.none_of<|by rw[←l];exact r m) h
def GG(I:Inv X pins σ H s)(e:H a=some (.ins C dx fs))(c:Cls X.K C)(n:NoAttr X.K C f)(hl:fs.length<1000)(J:RelV y u)(h:∀x,Inv X pins σ (upd H a<|.ins C dx<|UP f y fs) x->Q () x):wpAny (model X.prog X.w) A (setAttr (.ref a) f u) Q E s:=by
 obtain⟨L,O,r,p,_,B⟩:=Nk I.hok e;have M:(fs.map (·.1)).length<=sizeLine:=by rw[Wd,sizeLine_eq];lia
 refine R6 I.kIn O c.sa c.po n.taker c.hd p M λY l G=>h _ ?_;have T:∃o,Y.get? dx=some o:=let ⟨o,_,_,e',_⟩:=l.ns;⟨o,e'⟩;refine I.write (by rw[e];exact True.intro) (.inr B) (λb q U z=>(G.2 b U).trans z) T ?_;refine⟨by rw[Ug O.ne];exact B,?_,O.ne,l.obj,_,l.ns,λg=>?_,λg N=>?_⟩
 ·have:=Cy f y fs;lia
 ·show RelO ((UP f y fs).lookup g) (if g=f then some u else L g);rw[DY];by_cases q:g=f
  ·rw[Wp q,Wp q];exact J
  ·grind
 ·by_cases q:g=f
  ·rw[q];exact(BP f y fs).1
  ·refine(BP f y fs).2 g (p g λz=>N ?_)
   grind
def Inv.made (I:Inv X pins σ H s):Inv X pins σ (upd (upd H s.heap.objs.size<|.own (s.heap.objs.size+1)) (s.heap.objs.size+1)<|.ins C s.heap.objs.size [])
  {s with heap:=(s.heap.push PySem.W.emptyDict).push (PySem.W.instObj C s.heap.objs.size)}:=by
 have h:(s.heap.push PySem.W.emptyDict).get? s.heap.objs.size=some PySem.W.emptyDict:=Wn s.heap rfl
 have r:((s.heap.push PySem.W.emptyDict).push (PySem.W.instObj C s.heap.objs.size)).get? (s.heap.objs.size+1)=some (PySem.W.instObj C s.heap.objs.size):=by
  have:=Wn (s.heap.push PySem.W.emptyDict) (o:=PySem.W.instObj C s.heap.objs.size) rfl
  rwa[QP]at this
 have p:(s.heap.push PySem.W.emptyDict).Ns s.heap.objs.size (λ_=>none):=⟨PySem.W.emptyDict,#[],_,h,rfl,(λe n=>absurd n (by simp)),λ_=>rfl⟩;refine(I.laid (o:=.own (s.heap.objs.size+1)) (t':=s.toks) (λb u q=>We _ q) (Wk _) ⟨_,h⟩).laid (λb u q=>We _ q) (Qw<|QP _ _) ?_;have g:s.heap.objs.size≠s.heap.objs.size+1:=Ww (Vb _);refine⟨by rw[Ug g,Ur],Qd _,g,r,λ_=>none,(Heap.Ns1.of_empty p).at λo q=>We _ q,λ_=>True.intro,λy l=>absurd rfl l⟩
def Zcd{env e f pos s Q}(l:attributeBase e f env (eval e env)=eval e env)(h:wpAny (model prog w) A (eval e env) (λo g=>wpAny (model prog w) A (getAttr o f true) Q E g) E s):wpAny (model prog w) A (eval (.Attribute e f pos) env) Q E s:=
 Attribute_any_ h (by rw[arm_eval_Attribute,l])
end
noncomputable def Gx(K:Yd)(l:TE)(f:Str):TE:=λh H Q=>l h H λx g=>∃a C n fs v,x=.ref a/\g a=some (.ins C n fs)/\Cls K C/\NoAttr K C f/\fs.lookup f=some v/\Q v g
noncomputable def F5(K:Yd)(o n:TE)(f:Str):TS:=λD g H=>n g H λy p=>o g p λx l=>∃a C h fs,x=.ref a/\l a=some (.ins C h fs)/\Cls K C/\NoAttr K C f/\fs.length<1000/\
 D.nx g (upd l a<|.ins C h<|UP f y fs)
section
variable {X:Cx}{o e value:Expr}{f:Str}{pos pos' tpos:Pos}{ta tv:TE}
def BD(w:PE X e ta)(y:attributeBase e f X.env (eval e X.env)=eval e X.env):PE X (.Attribute e f pos) (Gx X.K ta f):=by
 intro pins s g H Q I h;refine Zcd y (thn (w pins s g H _ I h) ?_);rintro u M ⟨x,G,E,p,a,C,N,fs,v,z,A,c,n,l,q⟩;subst z;obtain rfl:=p;exact R1 E A c n l λJ L B r=>⟨v,G,B,r,q⟩
def Bh(B:PE X o ta)(z:PE X value tv)(A:swapsWith value (some<|.Attribute o f pos') pos.line X.env=pure false):PS X (.Assign [.Attribute o f pos'] value pos) (F5 X.K ta tv f):=by
 intro pins s g H D I h;refine plainObj_wpAny_Assign_Attribute (thn (z pins s g H _ I h) ?_) A;rintro u p ⟨y,N,M,r,q⟩;refine thn (B pins p g N _ M q) ?_;rintro U T ⟨x,H2,L,v,a,C,Y,fs,E,G,c,n,l,w⟩;subst E;obtain rfl:=v;exact GG L G c n l r λQ J=>⟨g,_,J,w⟩
def Zcz{m}{apos}{args}{pins}{s}{n:St}{H}{Q}{te}(G:PE X e te)(I:Inv X pins n H s)
  (h:te n H λx r=>∃a C y fs g,x=.ref a/\r a=some (.ins C y fs)/\Cls X.K C/\UJ X.K C m g/\fs.lookup m=none/\
   ∀p,Inv X pins n r p->wpAny (model X.prog X.w) X.A (callWith pos (.ref g) [.ref a] (backTo pos<|starEach args X.env)<|backToKw pos<|keywordEach [] X.env) Q X.xe p)
  (E:eval (.Call (.Attribute e m apos) args [] pos) X.env=(do
   let v ←eval e X.env
   standAt apos.atName
   let (f,first) ←holding [v] (getMethod v m M)
   callWith pos f first (backTo pos<|starEach args X.env) (backToKw pos<|keywordEach [] X.env))) :
  wpAny (model X.prog X.w) X.A (eval (.Call (.Attribute e m apos) args [] pos) X.env) Q X.xe s:=by
 refine Q5 (thn (G pins s n H _ I h) ?_) E;rintro u p ⟨x,r,z,B,a,C,y,fs,g,J,L,c,k,l,q⟩;subst J;obtain rfl:=B;exact Nj z L c k l (q p z)
end
section
variable {X:Cx}{pins:Yg}{σ:St}{H:Hp}{s:Shared}{A:Around}{E:Yi}{Q:Yi}{c:Value}{b:Bool}
inductive UZ (K:Yd) (H:Hp):V->Value->Prop where
 |non:UZ K H .non (.type "NoneType")
 |bl (x:Bool):UZ K H (.bl x) (.type "bool")
 |int (i:Int):UZ K H (.int i) (.type "int")
 |str (x:Str):UZ K H (.str x) (.type "str")
 |flt (x:UInt64):UZ K H (.flt x) (.type "float")
 |lst {a:Addr} {xs:List V} (e:H a=some (.lst xs)):UZ K H (.ref a) (.type "list")
 |frz {a:Addr} {o:Obj} {xs:List V} (e:H a=some (.frz o<|.lst xs)):UZ K H (.ref a) (.type "list")
 |tup {a:Addr} {xs:List V} (e:H a=some (.tup xs)):UZ K H (.ref a) (.type "tuple")
 |dK {a:Addr} {kvs:List (Key×V)} (e:H a=some (.dK kvs)):UZ K H (.ref a) (.type "dict")
 |dT {a:Addr} {kvs:List (List Key×V)} (e:H a=some (.dT kvs)):UZ K H (.ref a) (.type "dict")
 |ins {a C dx:Addr} {fs:List (Str×V)} (e:H a=some (.ins C dx fs)) (cl:Cls K C) (ha:PySem.W.findIn K (.ref C) "__class__"=some (some<|.builtin "object.__class__"))
   (hn:PySem.W.specialIn K (.builtin "object.__class__") "__get__"=some (some<|.builtin "getset_descriptor.__get__")) (htk:PySem.W.takesIn K (.builtin "object.__class__")=some true)
   (hm:PySem.W.mroIn K C (.type "object")=some true):UZ K H (.ref a) (.ref C)
def Zcn(I:Inv X pins σ H s)(f:RelV x u)(L:UZ X.K H x t)(e:PySem.W.kitOne X.K t c=some b)(h:∀M,Q (.bool b) {s with toks:=M}) :
  wpAny (model X.prog X.w) A (call (.builtin "isinstance") [u,c]) Q E s:=by
 cases L with
 |non=>cases f;exact WI PySem.W.kitx_none I.kIn True.intro e (λz=>nomatch z) h
 |bl y=>cases f;exact WI PySem.W.kitx_bool I.kIn True.intro e (λz=>nomatch z) h
 |int i=>obtain⟨t,q⟩:=f;cases q;exact WI PySem.W.kitx_int I.kIn True.intro e (λz=>nomatch z) h
 |str y=>obtain⟨t,q⟩:=f;cases q;exact WI PySem.W.kitx_str I.kIn True.intro e (λz=>nomatch z) h
 |flt y=>obtain⟨t,q⟩:=f;cases q;exact WI PySem.W.kitx_float I.kIn True.intro e (λz=>nomatch z) h
 | @lst a xs g=>
  cases f
  obtain⟨_,_,n,_,l⟩:=(I.hok a _ g);exact WI PySem.W.kitx_list I.kIn ⟨_,l,rfl⟩ e (λz=>nomatch z) h
 | @frz a ob xs g=>
  cases f
  obtain⟨_,_,_,n,_,l⟩:=(I.hok a _ g);exact WI PySem.W.kitx_list I.kIn ⟨_,l,rfl⟩ e (λz=>nomatch z) h
 | @tup a xs g=>
  cases f
  obtain⟨_,_,_,p⟩:=(I.hok a _ g);obtain⟨o,l,r,_⟩:=p;exact WI PySem.W.kitx_tuple I.kIn ⟨o,l,r⟩ e (λz=>nomatch z) h
 | @dK a v g=>
  cases f
  obtain⟨_,_,vs,_,p⟩:=(I.hok a _ g);obtain⟨o,Y,ep,l,r,_⟩:=p;exact WI PySem.W.kitx_dict I.kIn ⟨o,l,r.1⟩ e (λz=>nomatch z) h
 | @dT a v g=>
  cases f
  obtain⟨_,_,xs,_,o,Y,ep,l,r,_⟩:=(I.hok a _ g);exact WI PySem.W.kitx_dict I.kIn ⟨o,l,r.1⟩ e (λz=>nomatch z) h
 | @ins a C dx fs g G U N B T=>
  cases f
  obtain⟨mA,O,_⟩:=Nk I.hok g;obtain⟨od,J,_⟩:=O.look;exact WI (PySem.W.kitx_own (G.get _) G.hd U N B T) I.kIn J e (λz=>nomatch z) h
end
structure Uh (k:Nat) (A:Around):Prop where
 hd:A.handled=none
 dp:A.depth+3*k+5<recursionLimit
 un:A.units+16*k+200<cLine
 gd:A.guards=some []
def Uh.mono {j k A} (r:Uh k A) (h:j<=k):Uh j A:=⟨r.hd,by have:=r.dp;lia,by have:=r.un;lia,r.gd⟩
def Uh.deeper (r:Uh (k+1) A) (env:Env):Uh k (A.deeper env):=
 ⟨r.hd,by have:=r.dp;show A.depth+1+3*k+5<_;lia,by have:=r.un;show A.units+3+16*k+200<_;lia,r.gd⟩
def Rf{A:Around}{C}{us}{kw}:(A.under<|.builtin "type.__call__" ⟨.ref C::us,kw⟩).depth=A.depth+1:=by
 rfl
def L5{A:Around}{C}{us}{kw}:(A.under<|.builtin "type.__call__" ⟨.ref C::us,kw⟩).units=A.units+1:=rfl
def GD{A:Around}{C:Addr}{us:Yl}{f:List (Str×Value)}(h:A.guards=some []):(A.under<|.builtin "type.__call__" ⟨.ref C::us,f⟩).guards=some []:=by
 simpa [Around.under,Code.guards,Code.isGuard,guardIds,pushGuards]using h
def Uh.make (r:Uh (k+1) A) (C:Addr) (us:Yl) (f:List (Str×Value)):Uh k (A.under<|.builtin "type.__call__" ⟨.ref C::us,f⟩):=
 ⟨r.hd,by have:=r.dp;rw[Rf];lia,by have:=r.un;rw[L5];lia,GD r.gd⟩
def Uh.depth (r:Uh k A):A.depth<recursionLimit:=by have:=r.dp;lia
def Uh.units (r:Uh k A):A.units+64<cLine:=by have:=r.un;lia
def Uh.units0 (r:Uh k A):A.units<cLine:=by have:=r.un;lia
noncomputable def UY:TA:=λ_ H Q=>Q [] H
noncomputable def UE(h:TE)(g:TA):TA:=λf H Q=>h f H λx n=>g f n λxs l=>Q (x::xs) l
section
variable {X:Cx}{e:Expr}{es:Yn}{te:TE}{t:TA}{pos:Pos}
def UA:PA X [] UY:=λ_ _ _ _ H Q I h=>Calls.spliced_nil ⟨[],H,I,.nil,h⟩
def UX(v:PE X e te)(r:PA X es t)(q:autoParam (starEach (e::es) X.env=(false,eval e X.env)::starEach es X.env) au_0):PA X (e::es) (UE te t):=by
 intro pos pins s f H Q I h;rw[q];refine Calls.spliced_cons (thn (v pins s f H _ I h) ?_);rintro u g ⟨x,A,y,n,p⟩;exact thn (r pos pins g f A _ y p) λB C ⟨xs,z,w,l,o⟩=>⟨x::xs,z,w,.cons n l,o⟩
noncomputable def FV(t:TA):TE:=λg H Q=>t g H λxs f=>xs.length<=sizeLine/\∀p,f p=none->Q (.ref p) (upd f p<|.tup xs)
noncomputable def EX(t:TA):TE:=λg H Q=>t g H λxs f=>xs.length<=sizeLine/\∀p,f p=none->Q (.ref p) (upd f p<|.lst xs)
def Ho(h:PA X es t):PE X (.Tuple es p pos) (FV t):=by
 intro pins s l H Q I hq;refine wpAny_Tuple_spliced (thn (h pos pins s l H _ I hq) ?_);rintro n f ⟨xs,o,g,r,z,q⟩;refine⟨by rw[←r.length];exact z,?_⟩;refine⟨.ref f.heap.objs.size,upd o f.heap.objs.size (.tup xs),g.laid (λb u e=>We _ e) (Wk _) ?_,rfl,q _ (g.hok.fresh<|Wk _)⟩;exact⟨z,n,r,⟨_,Wn _ rfl,rfl,_,rfl⟩⟩
def UR(h:PA X es t):PE X (.List es pos) (EX t):=by
 intro pins s l H Q I hq;refine wpAny_List_spliced (thn (h pos pins s l H _ I hq) ?_);rintro n f ⟨xs,o,g,r,z,q⟩;refine⟨by rw[←r.length];exact z,?_⟩;refine⟨.ref f.heap.objs.size,upd o f.heap.objs.size (.lst xs),g.laid (λb u e=>We _ e) (Wk _) ?_,rfl,q _ (g.hok.fresh<|Wk _)⟩;exact⟨z,n,0,r,Wn _ rfl⟩
end
abbrev Sp:=List V->Hp->VK->XK->Prop
abbrev CXT:=List Env->Hp->Shared->XK->Yi
structure Kz (P:Program) (w:World) (K:Yd) (mg:Yh) (base:Heap) (A:Around) (outer:List Env) (s:Shared) (H:Hp):Prop where
 frames:A.frames=some outer
 mod:Mod K mg base
 bs:∀b o,base.get? b=some o->s.heap.get? b=some o/\H b=none
 bsz:base.objs.size<=s.heap.objs.size
 funs:s.heap.FunFrames base outer
 frf:∀b∈frs outer,H b=none
 hok:HOk P w H s.heap
 bare:AllBare s.gens
def CE(outer:List Env)(P:Program)(w:World)(H:Hp)(s:Shared)(Q:VK)(u:Value)(f:Shared):Prop:=
 ∃v g,f.os=s.os/\AllBare f.gens/\Un (frs outer) [] H g s.heap f.heap/\HOk P w g f.heap/\RelV v u/\Q v g
def CR(CX:CXT)(outer:List Env)(P:Program)(w:World)(H:Hp)(s:Shared)(Q:VK)(E:XK)(r:Result)(f:Shared):Prop:=
 match r with
 | .ok (.ret u)=>CE outer P w H s Q u f
 | .ok _=>False
 | .error e=>CX outer H s E e f
structure UK (P:Program) (w:World) (K:Yd) (mg:Yh) (base:Heap) (CX:CXT) (k:Nat) (f:Addr) (fd:FuncData) (ps:Ym) (sp:Sp):Prop where
 len:∀vs H Q E,sp vs H Q E->vs.length=ps.length
 run:∀(A:Around) (outer:List Env) (s:Shared) (H:Hp) (args:Args) (us:Yl) (vs:List V) (Q:VK) (E:XK),Uh k A->Kz P w K mg base A outer s H->BindsTo s fd args (ps.zip us)->Vals vs us->sp vs H Q E->
  codeAny (model P w) A (.call (.ref f) args) (CR CX outer P w H s Q E) s
def UK.imp {K l base CX k f n ps sp g} (F:UK P w K l base CX k f n ps sp)
  (h:∀vs H Q E,g vs H Q E->sp vs H Q E):UK P w K l base CX k f n ps g:=
 ⟨λvs H Q E q=>F.len vs H Q E (h _ _ _ _ q),λA outer s H args o vs Q E u v x p r=>F.run A outer s H args o vs Q E u v x p (h _ _ _ _ r)⟩
def Kz.make {K f base A outer s H} (e:Kz P w K f base A outer s H) (C:Addr) (us:Yl) (g:List (Str×Value)) :
  Kz P w K f base (A.under<|.builtin "type.__call__" ⟨.ref C::us,g⟩) outer s H:=⟨by first|exact e.frames|(simpa [Around.under,Code.envs,Code.isFrame,pushEnvs]using e.frames),e.mod,e.bs,e.bsz,e.funs,e.frf,e.hok,e.bare⟩
section
variable {X:Cx}{pins:Yg}{σ:St}{H:Hp}{s s':Shared}
def Inv.env0 (I:Inv X pins σ H s):Kz X.prog X.w X.K X.mg X.base X.A X.stack s H:=
 ⟨I.ok.frames,I.ok.mod,I.bs,Wu I.ok.bsz I.sz,I.stack,I.stkFree,I.hok,I.bare⟩
def Inv.after (I:Inv X pins σ H s) (h:CE X.stack X.prog X.w H s Q u s'):EP X pins σ Q u s':=by
 obtain⟨v,n,os,bare,un,f,r,q⟩:=h;obtain⟨o,g,d,t,l⟩:=s';obtain rfl:=os;exact⟨v,n,I.call un f bare (λb z=>absurd z (by simp)),r,q⟩
end
noncomputable def Px(sp:Sp)(f:List V)(E:XK)(t:TA):TE:=λg H Q=>t g H λh l=>sp (h++f) l Q E
noncomputable def Pj(C:Addr)(m:Str)(sp:Sp)(f:List V)(E:XK)(n:TE)(t:TA):TE:=λg H Q=>n g H λx h=>∃a o fs,x=.ref a/\h a=some (.ins C o fs)/\fs.lookup m=none/\
 t g h λl p=>sp (x::(l++f)) p Q E
noncomputable def BH(C:Addr)(sp:Sp)(g:List V)(E:XK)(t:TA):TE:=λl H Q=>t l H λn h=>∀x f,h x=none->h f=none->f≠x->
 sp (.ref x::(n++g)) (upd (upd h f<|.own x) x<|.ins C f []) (λv o=>v=.non/\Q (.ref x) o) E
def Binds(K:Yd)(g:FuncData)(ps:Ym)(ds:Yl):Prop:=
 ∀(s:Shared) (f:Yl),K.In s.heap->(f++ds).length=ps.length->BindsTo s g ⟨f,[]⟩ (ps.zip (f++ds))
def Binds.all {K g ps} (h:∀us,us.length=ps.length->bindArgs g ⟨us,[]⟩=pure (ps.zip us)):Binds K g ps []:=λs us _ f=>by
 rw[WE]at f ⊢;exact .of_eq (h us f)
def Xi(CX:CXT)(X:Cx)(E:XK):Prop:=∀(pins:Yg) (g:St) (H:Hp) (s:Shared) (e:Value) (f:Shared),Inv X pins g H s->CX X.stack H s E e f->X.xe e f
section
variable {X:Cx}{CX:CXT}{k:Nat}{f C:Addr}{fd:FuncData}{ps:Ym}{sp:Sp}{dvs:List V}{ds:Yl}{E:XK}{x m:Str}{p pos apos:Pos}{e o:Expr}{es:Yn}{ta:TE}{t:TA}
def BE{g:St}{H}{s}{Q}{us}{vs}(F:UK X.prog X.w X.K X.mg X.base CX k f fd ps sp)(q:Uh k X.A)(z:Binds X.K fd ps ds)(y:Vals dvs ds)(hx:Xi CX X E)(I:Inv X pins g H s)(r:Vals vs us)(h:sp (vs++dvs) H Q E):wpAny (model X.prog X.w) X.A (call (.ref f) us) (EP X pins g Q) X.xe s:=by
 have l:=r.append y;have v:(us++ds).length=ps.length:=by rw[←l.length];exact F.len _ _ _ _ h
 refine wpAny_call (Ql (F.run X.A X.stack s H ⟨us,[]⟩ (us++ds) (vs++dvs) Q E q I.env0 (z s us I.kIn v) l h) λr n hq=>?_);cases r with
 |error e=>exact hx pins g H s e n I hq
 |ok B=>
  cases B with
  |ret u=>exact I.after hq
  |cont=>exact False.elim hq
  |_=>trivial
def OC(F:UK X.prog X.w X.K X.mg X.base CX k f fd ps sp)(v:Uh k X.A)(B:Gl X x)(y:X.mg x=some (.ref f))(z:PySem.W.keepIn X.K (.ref f)=true)(L:Binds X.K fd ps ds)(J:Vals dvs ds)(hx:Xi CX X E)(M:PA X (e::es) t)(l:autoParam ((x==("__debug__" : Str))=false) au_1)(G:autoParam (starEach (e::es) X.env=(false,eval e X.env)::starEach es X.env) au_0)(g:autoParam ((backTo pos<|starEach es X.env).any (·.1)=false) au_0) :
  PE X (.Call (.Name x p) (e::es) [] pos) (Px sp dvs E t):=by
 intro pins s u H Q I h;refine Q0 (Kb I B y ?_ l);refine Q1 I.ok.mod.kin z (thn (M pos pins s u H _ I h) ?_) G g;rintro T U ⟨N,Y,n,r,q⟩;refine⟨n.kIn,?_⟩;exact BE F v L J hx n r q
def Zb6{pl}(U:PE X o ta)(c:Cls X.K C)(z:UJ X.K C m f)(F:UK X.prog X.w X.K X.mg X.base CX k f fd ps sp)(T:Uh k X.A)(hb:Binds X.K fd ps ds)(Y:Vals dvs ds)(hx:Xi CX X E)(ha:PA X (e::es) t)(g:autoParam (starEach (e::es) X.env=(false,eval e X.env)::starEach es X.env) au_0)(n:autoParam ((backTo pos<|starEach es X.env).any (·.1)=false) au_0)
  (N:autoParam (eval (.Call (.Attribute o m apos) (e::es) [] pos) X.env=(do
   let y ←eval o X.env
   standAt apos.atName
   let (f,first) ←holding [y] (getMethod y m pl)
   callWith pos f first (backTo pos<|starEach (e::es) X.env) (backToKw pos<|keywordEach [] X.env))) au_0) :
  PE X (.Call (.Attribute o m apos) (e::es) [] pos) (Pj C m sp dvs E ta t):=by
 intro pins s v H Q I h;refine Q5 (thn (U pins s v H _ I h) ?_) N;rintro u J ⟨x,H1,G,L,a,dx,fs,ex,ea,l,q⟩;subst ex;obtain rfl:=L;refine Nj G ea c z l ?_;refine Q1 I.ok.mod.kin z.kp (thn (ha pos pins J v H1 _ G q) ?_) g n;rintro us s2 ⟨vs,H2,B,r,M⟩;refine⟨B.kIn,?_⟩;exact BE (vs:=.ref a::vs) F T hb Y hx B (.cons rfl r) M
def RA(G:PE X o ta)(c:Cls X.K C)(r:UJ X.K C m f)(F:UK X.prog X.w X.K X.mg X.base CX k f fd ps sp)(B:Uh k X.A)(L:Binds X.K fd ps ds)(J:Vals dvs ds)(hx:Xi CX X E)
  (z:autoParam (eval (.Call (.Attribute o m apos) [] [] pos) X.env=(do
   let n ←eval o X.env
   standAt apos.atName
   let (f,first) ←holding [n] (getMethod n m U)
   callWith pos f first (backTo pos<|starEach [] X.env) (backToKw pos<|keywordEach [] X.env))) au_0) :
  PE X (.Call (.Attribute o m apos) [] [] pos) (Pj C m sp dvs E ta UY):=by
 intro pins s v H Q I h;refine Q5 (thn (G pins s v H _ I h) ?_) z;rintro u T ⟨x,H1,g,y,a,Y,fs,M,N,l,q⟩;subst M;obtain rfl:=y;refine Nj g N c r l ?_;exact PySem.W.callWith_K0 g.kIn r.kp (BE (vs:=[.ref a]) F B L J hx g (.cons rfl .nil) q)
structure Mk (K:Yd) (C f:Addr):Prop where
 makes:PySem.W.makesIn K C=true
 init:PySem.W.findIn K (.ref C) "__init__"=some (some<|.ref f)
 fn:PySem.W.isFn K (.ref f)=true
 kp:PySem.W.keepIn K (.ref C)=true
def MK{q:St}{H}{s}{Q}{us}{vs}(M:Mk X.K C f)(F:UK X.prog X.w X.K X.mg X.base CX k f fd ps sp)(J:Uh (k+1) X.A)(T:Binds X.K fd ps ds)(N:Vals dvs ds)(hx:Xi CX X E)(I:Inv X pins q H s)(r:Vals vs us)(h:∀x l,H x=none->H l=none->l≠x->sp (.ref x::(vs++dvs)) (upd (upd H l<|.own x) x<|.ins C l []) (λv H2=>v=.non/\Q (.ref x) H2) E) :
  wpAny (model X.prog X.w) X.A (call (.ref C) us) (EP X pins q Q) X.xe s:=by
 have hq:=h (s.heap.objs.size+1) s.heap.objs.size (I.hok.fresh<|Q2 _) (I.hok.fresh<|Wk _) (Ww<|Vb _);have n:=Inv.made (C:=C) I;have y:Vals (V.ref (s.heap.objs.size+1)::(vs++dvs)) (Value.ref (s.heap.objs.size+1)::(us++ds)):=.cons rfl (r.append N)
 have L:(Value.ref (s.heap.objs.size+1)::us++ds).length=ps.length:=by
  have e:=y.length;rw[F.len _ _ _ _ hq]at e
  grind
 refine wpAny_call (IM I.kIn M.makes M.init (beq_iff_eq.mp M.fn) (Ql (F.run _ X.stack _ _ ⟨Value.ref (s.heap.objs.size+1)::us,[]⟩ (Value.ref (s.heap.objs.size+1)::(us++ds)) _ _ E (J.make C us [])
  (n.env0.make C us []) (T _ (Value.ref (s.heap.objs.size+1)::us) n.kIn L) y hq) λr z g=>?_))
 cases r with
 |error e=>exact hx pins q _ _ e z n g
 |ok U=>
  cases U with
  |ret u=>
   obtain⟨v,H',I3,B,Y,G⟩:=n.after g;subst Y;exact⟨B,⟨V.ref (s.heap.objs.size+1),H',I3,rfl,G⟩⟩
  |_=>exact False.elim g
def Ir(M:Mk X.K C f)(F:UK X.prog X.w X.K X.mg X.base CX k f fd ps sp)(v:Uh (k+1) X.A)(z:Gl X x)(y:X.mg x=some (.ref C))(J:Binds X.K fd ps ds)(G:Vals dvs ds)(hx:Xi CX X E)(L:PA X (e::es) t)(l:autoParam ((x==("__debug__" : Str))=false) au_1)(B:autoParam (starEach (e::es) X.env=(false,eval e X.env)::starEach es X.env) au_0)(g:autoParam ((backTo pos<|starEach es X.env).any (·.1)=false) au_0) :
  PE X (.Call (.Name x p) (e::es) [] pos) (BH C sp dvs E t):=by
 intro pins s u H Q I h;refine Q0 (Kb I z y ?_ l);refine Q1 I.ok.mod.kin M.kp (thn (L pos pins s u H _ I h) ?_) B g;rintro T U ⟨N,Y,n,r,q⟩;refine⟨n.kIn,?_⟩;exact MK M F v J G hx n r q
end
structure Ue (N P:Ym) (sc:Scope):Prop where
 kind:sc.kind=.function
 co:sc.isCoroutine=false
 gen:sc.isGenerator=false
 nd:N.Nodup
 pre:N.take P.length=P
 par:∀x∈P,sc.names.lookup x=some .local\/sc.names.lookup x=some .cell
 nofree:∀y∈sc.names,y.2≠.free
theorem Cw{kindOf x}:∀{binds}{m:Yh},(∀v,(x,v)∉binds)->bindL kindOf binds m x=m x
 |[],_,_=>rfl
 |(n,v)::r,m,h=>by
  unfold bindL;rw[Cw λw hw=>h w (Wr _ hw)];split
  ·grind
  ·rfl
theorem CD{kindOf x}:∀{binds}{m:Yh},(∀v,(x,v)∉binds)->bindC kindOf binds m x=m x
 |[],_,_=>rfl
 |(n,v)::r,m,h=>by
  unfold bindC;rw[CD λw hw=>h w (Wr _ hw)];split
  ·rfl
  ·grind
theorem E6{kindOf}{x}{v}:∀{P:Ym}{vs}{i:Nat}{m:Yh},P.Nodup->P[i]?=some x->vs[i]?=some v->kindOf x=some .local->
  bindL kindOf (P.zip vs) m x=some v
 |[],_,_,_,_,h,_,_|_::_,[],_,_,_,_,h,_=>by simp at h
 |p::P,w::vs,0,m,f,n,l,g=>by
  simp at n l;subst n;subst l;show bindL kindOf ((p,w)::P.zip vs) m p=_;unfold bindL;rw[Cw λv o=>(Vk.mp f).1 (List.of_mem_zip o).1,Wp g];simp
 |p::P,w::vs,i+1,m,f,n,l,g=>by
  unfold bindL;exact E6 (Vk.mp f).2 (by trivial) (by grind) g
theorem F3{kindOf}{x}{v}:∀{P:Ym}{vs}{i:Nat}{m:Yh},P.Nodup->P[i]?=some x->vs[i]?=some v->kindOf x≠some .local->
  bindC kindOf (P.zip vs) m x=some v
 |[],_,_,_,_,h,_,_|_::_,[],_,_,_,_,h,_=>by simp at h
 |p::P,w::vs,0,m,f,n,l,g=>by
  simp at n l;subst n;subst l;show bindC kindOf ((p,w)::P.zip vs) m p=_;unfold bindC;rw[CD λv o=>(Vk.mp f).1 (List.of_mem_zip o).1,Wl g];simp
 |p::P,w::vs,i+1,m,f,n,l,g=>by
  unfold bindC;exact F3 (Vk.mp f).2 (by trivial) (by grind) g
noncomputable def start(N:Ym)(vs:List V):St:=vs.map some++List.replicate (N.length-vs.length) none
noncomputable def Uu(CX:CXT)(P:Program)(w:World)(K:Yd)(mg:Yh)(base:Heap)(N:Ym)(qual:Str)(scope:Scope)(f:Addr)(cd:Value)(A:Around)(outer:List Env)(s:Shared)(H:Hp)(E:XK):Cx where
 prog:=P
 w:=w
 K:=K
 mg:=mg
 base:=base
 A:=A.deeper (envOfC qual scope s.heap.objs.size f cd)
 N:=N
 s₀:=s
 H₀:=H
 env:=envOfC qual scope s.heap.objs.size f cd
 outer:=outer
 stack:=envOfC qual scope s.heap.objs.size f cd::outer
 ex:=[]
 calm:=true
 fn:=λ_=>true
 pn:=[]
 xe:=λe s'=>wpAny (model P w) (A.deeper<|envOfC qual scope s.heap.objs.size f cd) (leaving (envOfC qual scope s.heap.objs.size f cd) e) (λ_ s''=>CX outer H s E e s'') (λe' s''=>CX outer H s E e' s'') s'
def FB{f:Scope}{n}{x}(h:f.names.lookup x=some .cell):∃c,(cellsFrom n f.names []).lookup x=some c:=by
 exact Option.isSome_iff_exists.mp (PySem.W.cellsFrom_some f.names n []<|.inl h)
def O0{P}{w}{K}{mg}{base}{N ps}{qual}{scope}{f}{cd}{A}{outer}{s L}{H}{E}{us}{vs}(S:Ue N ps scope)(Y:A.handled=none)(l:Kz P w K mg base A outer s H)(hl:vs.length=ps.length)(r:Vals vs us)(x:InCallC s s.heap.objs.size (bindL (envOfC qual scope s.heap.objs.size f cd).kindOf (ps.zip us) λ_=>none) (cellsFrom (s.heap.objs.size+1) scope.names []) (bindC (envOfC qual scope s.heap.objs.size f cd).kindOf (ps.zip us) λ_=>none) L) :
  Inv (Uu CX P w K mg base N qual scope f cd A outer s H E) [] (start N vs) H L:=by
 have U:ps.length<=N.length:=by have:=WJ List.length S.pre;rw[Qj]at this;lia
 obtain⟨J,tk,rfl,Q⟩:=x.done;have n:∀b,b∉(Uu CX P w K mg base N qual scope f cd A outer s H E).ex:=λb z=>absurd (show b∈([]:List Addr)from z) (by simp)
 refine⟨⟨l.mod,S.kind,rfl,rfl,Wk _,λy z c J g=>?_,λy o=>?_,λy c _ h=>?_,λ_=>Y,Around.frames_deeper l.frames,.inr ⟨rfl,rfl⟩,λb z=>absurd z (n b),l.bs,l.bsz,λb _ _=>n b,λb z=>absurd z (n b),l.funs,l.frf⟩,
  rfl,l.bare,Un.kept Q,⟨_,x.toInCall.ns,λi y v J g h3=>?_⟩,λy c h=>⟨_,x.cell y c h⟩,l.hok.fresh (Wk _),λy c h=>?_,λp C=>absurd (show p∈([]:Yg)from C) (by simp),l.hok.kept Q,?_⟩
 ·exact name_of_addr x.apart (Qi J) (Qi g)
 ·have o:=o;rcases o with o|o
  ·exact FB o
  ·exact absurd rfl (S.nofree _<|Qi o)
 ·exact QI (x.above y c<|Qi h)
 ·have G:i<vs.length:=by
   unfold start at g;by_cases G:i<vs.length
   ·exact G
   ·rw[Qs (by simpa using G)]at g;rw[QT]at g;split at g<;>cases g
  have ha:vs[i]?=some v:=by
   unfold start at g;rw[WM (by simpa using G),Ws]at g;cases e:vs[i]? with
   |none=>rw[e]at g;cases g
   |some a=>rw[e]at g;cases g;rfl
  obtain⟨u,M,T⟩:=r.get ha
  have C:ps[i]?=some y:=by
   rw[←S.pre,List.getElem?_take_of_lt (by lia)];exact J
  have B:ps.Nodup:=by rw[←S.pre];exact S.nd.sublist (Vv _ _)
  refine⟨u,T,?_⟩;rcases S.par y (WS C)with k|k
  ·exact .inl ⟨k,E6 B C M k⟩
  ·obtain⟨c,e⟩:=FB k;refine .inr ⟨.inl k,c,e,?_⟩;have q:=x.cell y c e;rw[F3 B C M (by show scope.names.lookup y≠_;rw[k];decide)]at q;exact q
 ·exact l.hok.fresh (QI<|x.above y c<|Qi h)
 ·unfold start;show _=N.length;rw[W1,Wd,List.length_replicate];lia
def Fb{K M base k f name qual params body scope dV kV L pm g ct oc an od Y N ps sp}(lk:K.lookup f=some ⟨oc,od,.func (PySem.W.fnOf name qual params body scope dV kV L pm an g ct),Y⟩)(hcd:PySem.W.codeIn K g qual=true)(S:Ue N ps scope)(len:∀vs H Q E,sp vs H Q E->vs.length=ps.length)
  (p:∀A outer s H vs Q E,Uh k (A.deeper<|envOfC qual scope s.heap.objs.size f g)->sp vs H Q E->
   ∃t,PSs (Uu CX P w K M base N qual scope f g A outer s H E) body t/\t {nx:=λ_ H'=>Q .non H',rt:=Q} (start N vs) H) :
  UK P w K M base CX (k+1) f (PySem.W.fnOf name qual params body scope dV kV L pm an g ct) ps sp:=by
 refine⟨len,λA outer s H args us vs Q E hr G hb r z=>?_⟩;have KX:=G.mod.kin.keeps λb o e=>(G.bs b o e).1
 have l:∀y∈ps.zip us,scope.names.lookup y.1=some .local\/(scope.names.lookup y.1=some .cell/\((cellsFrom (s.heap.objs.size+1) scope.names []).lookup y.1).isSome=true):=λ⟨n,v⟩ hy=>by
  rcases S.par n (List.of_mem_zip hy).1 with q|q
  ·exact .inl q
  ·exact .inr ⟨q,PySem.W.cellsFrom_some _ _ _ (.inl q)⟩
 refine codeAny_call_function hr.depth (KX _ _ lk) rfl S.co S.gen rfl (PySem.W.codeRec_of KX hcd) (hb _ _ _ _ ?_);refine wpAny_newFunctionEnv_cells S.kind l λenv he s1 x=>?_;subst he;refine⟨(G.mod.nolimit.keeps λb o e=>(G.bs b o e).1).keeps x.toInCall.keep,codeAny_func ?_⟩;obtain⟨t,ht,hq⟩:=p A outer s H vs Q E (hr.deeper _) z;have I:Inv (Uu CX P w K M base N qual scope f g A outer s H E) [] (start N vs) H s1:=O0 S hr.hd G (len _ _ _ _ z) r x;refine WA (ht [] s1 (start N vs) H _ I hq) (λfl T B=>?_) λe T B=>B
 have C:∀{h:St} {H':Hp} {v:V} {u:Value},Inv (Uu CX P w K M base N qual scope f g A outer s H E) [] h H' T->RelV v u->Q v H'->CE outer P w H s Q u T:=
  λ{h H' v u} J U q=>⟨v,H',J.os,J.bare,J.base,J.hok,U,q⟩
 cases fl with
 |ret u=>
  obtain⟨v,h,H',J,U,q⟩:=B;exact C J U q
 |next=>
  obtain⟨h,H',J,q⟩:=B;exact C (v:=V.non) J rfl q
 |_=>
  obtain⟨_,_,_,q⟩:=B;exact False.elim q
section
variable {X:Cx}{x:Str}{p pos:Pos}{e:Expr}{es:Yn}{t:TA}{id T:String}{r:List V->Hp->VK->Prop}
noncomputable def tCB(r:List V->Hp->VK->Prop)(t:TA):TE:=λf H Q=>t f H λg h=>r g h Q
def U0(C:UV X (.builtin id) r)(A:Gl X x)(z:X.mg x=none)(w:bootBuiltins x=some (.builtin id))(E:PA X (e::es) t)(y:autoParam (x≠"__name__") au_1)(g:autoParam ((x==("__debug__" : Str))=false) au_1)(B:autoParam (starEach (e::es) X.env=(false,eval e X.env)::starEach es X.env) au_0)(f:autoParam ((backTo pos<|starEach es X.env).any (·.1)=false) au_0):PE X (.Call (.Name x p) (e::es) [] pos) (tCB r t):=by
 intro pins s l H Q I h;refine Q0 (Pd I A z w ?_ y g);exact PyProof.Rows.callWith_builtin1 (thn (E pos pins s l H _ I h) λo q ⟨n,J,G,u,v⟩=>C pins q l J n o Q G u v) B f
def Xp(C:UV X (.type T) r)(A:Gl X x)(z:X.mg x=none)(w:bootBuiltins x=some (.type T))(E:PA X (e::es) t)(y:autoParam (x≠"__name__") au_1)(g:autoParam ((x==("__debug__" : Str))=false) au_1)(B:autoParam (starEach (e::es) X.env=(false,eval e X.env)::starEach es X.env) au_0)(f:autoParam ((backTo pos<|starEach es X.env).any (·.1)=false) au_0):PE X (.Call (.Name x p) (e::es) [] pos) (tCB r t):=by
 intro pins s l H Q I h;refine Q0 (Pd I A z w ?_ y g);exact Qk (thn (E pos pins s l H _ I h) λo q ⟨n,J,G,u,v⟩=>C pins q l J n o Q G u v) B f
end
end L2
namespace HT
open PySem PyProof.Rows
section
variable {prog:Program}{w:World}{A:Around}{E:Yi}{s:Shared}
noncomputable def sIx(n d:Nat):Option Int->Nat
 |none=>d
 |some v=>if v<0 then(v+(n:Int)).toNat else min v.toNat n
def F7(n d:Nat):sIx n d none=d:=rfl
def DM(n d k:Nat):sIx n d (some (k:Int))=min k n:=rfl
end
end HT
namespace L2
abbrev TO:=St->Hp->(Option Int->Hp->Prop)->Prop
def PO(X:Cx)(e:Option Expr)(t:TO):Prop:=
 ∀(pins:Yg) (s:Shared) (f:St) (H:Hp) (Q:Option Int->Hp->Prop),Inv X pins f H s->t f H Q->
  wpAny (model X.prog X.w) X.A (evalPart e X.env) (λu h=>∃o g,Inv X pins f g h/\IsPart u o/\Q o g) X.xe s
noncomputable def F4:TO:=λ_ H Q=>Q none H
noncomputable def Ex(t:TE):TO:=λf H Q=>t f H λx g=>∃i,x=.int i/\Q (some i) g
def ET:∀{us:Yl},Vals (ns.map V.int) us->IntsAre us ns:=by
 induction ns with
 |nil=>intro us r;rw[List.map_nil]at r;cases r;exact .nil
 |cons n ns h=>
  intro us r;cases r with
  |cons g f=>
   obtain⟨t,e⟩:=g;subst e;exact .cons n t (h f)
section
variable {X:Cx}{e:Expr}{te:TE}{lo hi:Option Expr}{tl th:TO}{pos p2:Pos}
def GN:PO X none F4:=by
 intro pins s f H Q I h;exact Wg ⟨none,H,I,.none,h⟩
def Ip(h:PE X e te):PO X (some e) (Ex te):=by
 intro pins s f H Q I hw;refine thn (h pins s f H _ I hw) ?_;rintro u p ⟨x,o,n,g,l⟩;obtain⟨i,rfl,q⟩:=l;obtain⟨t,rfl⟩:=g;exact⟨some i,o,n,.int i t,q⟩
def SlR(X:Cx)(r:V->Option Int->Option Int->Hp->VK->Prop):Prop:=
 ∀(pins:Yg) (s:Shared) (f:St) (H:Hp) (x:V) (v h g:Value) (lo hi:Option Int) (sl:Addr) (Q:VK),Inv X pins f H s->RelV x v->s.heap.IsSliceOf sl h g .none->IsPart h lo->IsPart g hi->r x lo hi H Q->
  ∃T id,typeLookup (.type T) "__getitem__"=pure (some<|.builtin id)/\s.TypeIs v T/\wpAny (model X.prog X.w) X.A (getItem v<|.ref sl) (EP X pins f Q) X.xe s
noncomputable def tSl(r:V->Option Int->Option Int->Hp->VK->Prop)(te:TE)(tl th:TO):TE:=λf H Q=>te f H λx n=>tl f n λl h=>th f h λu g=>r x l u g Q
def Zb0(M:SlR X r)(Y:PE X e te)(N:PO X lo tl)(J:PO X hi th):PE X (.Subscript e (.Slice lo hi none p2) pos) (tSl r te tl th):=by
 intro pins s f H Q I h;refine Subscript_ (thn (Y pins s f H _ I h) ?_);rintro v y ⟨x,H1,I1,z,C⟩;refine wpAny_Slice (thn (N pins y f H1 _ I1 C) ?_);rintro o w ⟨l,H2,I2,G,B⟩;refine thn (J pins w f H2 _ I2 B) ?_;rintro n g ⟨u,p,I3,E,A⟩;refine Wg ?_;have I4:Inv X pins f p {g with heap:=g.heap.push {cls:=.type "slice",data:=.fields #[o,n,.none]}}:=I3.kept λb ob q=>We _ q
 obtain⟨T,id,hT,L,U⟩:=M pins {g with heap:=g.heap.push {cls:=.type "slice",data:=.fields #[o,n,.none]}} f p x v o n l u g.heap.objs.size Q I4 z (Heap.IsSliceOf.new ..) G E A
 exact tail_any L hT U rfl
noncomputable def PY(xs:List V)(lo hi:Option Int):List V:=(xs.drop<|HT.sIx xs.length 0 lo).take (HT.sIx xs.length xs.length hi-HT.sIx xs.length 0 lo)
def Oy(xs:List V)(lo hi:Option Int):(PY xs lo hi).length<=xs.length:=by
 unfold PY
 grind
end
noncomputable def ixN(n:Nat)(i:Int):Option Nat:=if 0<=i then(if i<n then some i.toNat else none)else if -(n:Int)<=i then some (i+n).toNat else none
noncomputable def atI{f:Type}(xs:List f)(i:Int):Option f:=(ixN xs.length i).bind λj=>xs[j]?
def MP(h:ixN n i=some j):seqIndex? i n=some j/\j<n/\-(n:Int)<=i/\i<n:=by
 unfold ixN at h;by_cases g:0<=i
 ·rw[Wp g]at h;by_cases f:i<n
  ·rw[Wp f]at h;have e:=Wm h;exact⟨by rw[seqIndex_of g f,e],by lia,by lia,f⟩
  ·grind
 ·rw[Wl g]at h;by_cases f:-(n:Int)<=i
  ·rw[Wp f]at h;have e:=Wm h;exact⟨by rw[seqIndex_neg (by lia) f,e],by lia,f,by lia⟩
  ·grind
def BG(h:atI xs i=some v):∃j,seqIndex? i xs.length=some j/\xs[j]?=some v/\j<xs.length/\-(xs.length:Int)<=i/\i<xs.length:=by
 unfold atI at h;cases e:ixN xs.length i with
 |none=>grind
 |some j=>
  obtain⟨n,l,g,f⟩:=MP e
  grind
def P8{j:Nat}{v}(h:xs[j]?=some v):atI xs (j:Int)=some v:=by
 have e:ixN xs.length (j:Int)=some j:=by
  unfold ixN
  grind
 unfold atI;rw[e];exact h
def OH(xs:List f)(v:f):atI (xs++[v]) (-1)=some v:=by
 have e:ixN (xs++[v]).length (-1)=some xs.length:=by
  unfold ixN
  grind
 unfold atI
 grind
def SS(b:Expr):Prop:=∀o i,subscripted b false o i=operate [o,i] (getItem o i)
def IxR(X:Cx)(r:R2):Prop:=
 ∀(value slice:Expr) (pins:Yg) (s:Shared) (f:St) (H:Hp) (x y:V) (v u:Value) (Q:VK),Inv X pins f H s->RelV x v->RelV y u->r x y H Q->
  subscripted slice false v u=operate [v,u] (getItem v u)->wpAny (model X.prog X.w) X.A (subscriptTail value slice v u) (EP X pins f Q) X.xe s
def MtR(X:Cx)(id:String)(r:V->List V->Hp->VK->Prop):Prop:=
 ∀(pins:Yg) (s:Shared) (f:St) (H:Hp) (x:V) (xs:List V) (v:Value) (g:Yl) (Q:VK),Inv X pins f H s->RelV x v->Vals xs g->r x xs H Q->
  wpAny (model X.prog X.w) X.A (call (.builtin id) (v::g)) (EP X pins f Q) X.xe s
section
variable {X:Cx}{a b:Expr}{ta tb:TE}{pos:Pos}
def IxR.or (h:IxR X r) (p:IxR X o):IxR X (λx y H Q=>r x y H Q\/o x y H Q):=by
 intro value slice pins s f H x y v u Q I l g q n;rcases q with q|q
 ·exact h value slice pins s f H x y v u Q I l g q n
 ·exact p value slice pins s f H x y v u Q I l g q n
def TZ(p:IxR X r)(z:PE X a ta)(w:PE X b tb)(o:SS b):PE X (.Subscript a b pos) (tOp r ta tb):=by
 intro pins s f H Q I h;exact Subscript_ (NO z w I h λv u g x y B A n l q=>p a b pins g f B x y v u Q A n l q (o _ _))
noncomputable def Th(K:Yd):R2:=λx y H Q=>∃p xs i v,x=.ref p/\y=.int i/\SqL K H p xs/\atI xs i=some v/\Q v H
noncomputable def P6(K:Yd):R2:=λx y H Q=>∃p xs i v,x=.ref p/\y=.int i/\SqT K H p xs/\atI xs i=some v/\Q v H
noncomputable def Eo:R2:=λx y H Q=>∃z i c,x=.str z/\y=.int i/\z.length<=sizeLine/\atI z.cps.toList i=some c/\Q (.str ⟨#[c]⟩) H
def ix_list:IxR X (Th X.K):=by
 intro value slice pins s G H x y v u Q I L J h B;obtain⟨p,xs,i,z,rfl,rfl,hq,N,q⟩:=h;cases L
 obtain⟨t,rfl⟩:=J;obtain⟨o,r,n,hz⟩:=I.list hq;obtain⟨j,g,Y,h3,U,T⟩:=BG N;obtain⟨w,E,l⟩:=r.get Y;have M:=r.length;have hn:=TU;have f:EP X pins G Q w s:=⟨z,H,I,l,q⟩;by_cases C:0<=i
 ·have A:i.toNat=j:=by
   rw[seqIndex_of C T]at g;exact Wm g
  exact item_listR n.isList C (by lia) (by rw[A];simpa using E) f B
 ·have A:(i+(o.toArray.size:Int)).toNat=j:=by
   rw[seqIndex_neg (by lia) U]at g;rw[W4,←M];exact Wm g
  exact subscriptTail_builtinR n.isList.typeIs slot_list_getitem.lookup
   (wpAny_getItem_list_neg n.isList (by lia) (by rw[W4]<;>lia) (by lia) (by rw[A];simpa using E) ⟨rfl,f⟩) B
def Zal:IxR X (P6 X.K):=by
 intro value slice pins s n H x y v u Q I A o h C;obtain⟨p,xs,i,z,rfl,rfl,hq,E,q⟩:=h;cases A
 obtain⟨t,rfl⟩:=o;obtain⟨B,r,l,L⟩:=I.tuple hq;obtain⟨j,J,G,U,T,N⟩:=BG E;obtain⟨w,Y,f⟩:=r.get G;have M:=TU;have g:EP X pins n Q w s:=⟨z,H,I,f,q⟩
 exact subscriptTail_builtinR l.typeIs slot_tuple_getitem.lookup
  (getItem_tuple l (by lia) (by lia) (by rw[W4,←r.length];exact J) (by grind) ⟨rfl,g⟩) C
def RF:IxR X Eo:=by
 intro value slice pins s E H x y v u Q I l g h n;obtain⟨z,i,c,rfl,rfl,J,p,q⟩:=h;obtain⟨t,rfl⟩:=l;obtain⟨G,rfl⟩:=g;obtain⟨j,f,A,M,w,r⟩:=BG p;have o:z.cps.toList.length=z.length:=by simp[Str.length]
 rw[o]at f w r;have L:=TU
 exact tail_any (typeIs_str s z t) slot_str_getitem.lookup (getItem_str (by
  have C:decide (i < -(2 ^ 63:Int))=false:=Wq (by lia);have B:decide (i>=2 ^ 63)=false:=Wq (by lia);rw[C,B,Bool.or_false]) (by rw[f];simpa using A) ⟨.str ⟨#[c]⟩,H,I.tok _,⟨_,rfl⟩,q⟩) n
def Hd(lo f:Option Int)(n:Nat):(sliceBounds lo f none n).1=((HT.sIx n 0 lo:Nat):Int)/\(sliceBounds lo f none n).2.1=((HT.sIx n n f:Nat):Int)/\(sliceBounds lo f none n).2.2=1:=by
 refine⟨?_,?_,rfl⟩
 ·cases lo with
  |none=>simp[sliceBounds,HT.sIx]
  |some i=>
   simp only[sliceBounds,HT.sIx,Option.getD_none,show(1:Int)>0 by decide,if_true];by_cases h:i<0
   ·grind
   ·simp only[h,if_false]<;>lia
 ·cases f with
  |none=>simp[sliceBounds,HT.sIx]
  |some i=>
   simp only[sliceBounds,HT.sIx,Option.getD_none,show(1:Int)>0 by decide,if_true];by_cases h:i<0
   ·simp only[h,if_true]<;>lia
   ·simp only[h,if_false]<;>lia
def HM(f:Yl)(lo g:Option Int):slicePick f.toArray lo g none=((f.drop<|HT.sIx f.length 0 lo).take (HT.sIx f.length f.length g-HT.sIx f.length 0 lo)).toArray:=by
 obtain⟨n,l,h⟩:=Hd lo g f.toArray.size;unfold slicePick;rw[n,l,h];simp only[sliceRange_one,pick_run,W4]<;>rfl
def Bw(K:Yd):V->Option Int->Option Int->Hp->VK->Prop:=λx lo f H Q=>∃a xs,x=.ref a/\SqL K H a xs/\∀p,H p=none->Q (.ref p) (upd H p<|.lst<|PY xs lo f)
def HI:SlR X (Bw X.K):=by
 intro pins s z H x v B A lo l sl Q I n y p o h;obtain⟨a,xs,rfl,hx,q⟩:=h;cases n
 obtain⟨u,r,g,w⟩:=I.list hx;have f:=r.length;refine⟨"list",_,slot_list_getitem.lookup,g.isList.typeIs,?_⟩;refine wpAny_getItem_list_slice g.isList y p o .none (by simp) ?_ (by grind);rw[HM,←f];refine⟨.ref s.heap.objs.size,_,I.laid (λb C q=>We _ q) (Wk _) ?_,rfl,q _ (I.hok.fresh<|Wk _)⟩;exact⟨Wu (Oy xs lo l) w,_,0,(r.drop<|HT.sIx xs.length 0 lo).take (HT.sIx xs.length xs.length l-HT.sIx xs.length 0 lo),Wn _ rfl⟩
noncomputable def Xa:V->Bool
 | .non=>true
 | .bl _=>true
 | .int _=>true
 | .str _=>true
 |_=>false
noncomputable def eqV:V->V->Bool
 | .non,.non=>true
 | .bl a,.bl b=>a==b
 | .bl a,.int b=>(if a then 1 else 0)==b
 | .int a,.bl b=>a==(if b then 1 else 0)
 | .int a,.int b=>a==b
 | .str a,.str b=>a==b
 |_,_=>false
def E5{y x u v}(h:RelV y u)(f:RelV x v)(fy:Xa y=true)(l:Xa x=true):SeqAt.EqAt A s u v (eqV y x):=by
 cases y with
 |non=>
  cases h
  cases x with
  |non=>cases f;exact SeqAt.EqAt.same _
  |bl b=>cases f;exact SeqAt.EqAt.none_bool b
  |int b=>obtain⟨t,rfl⟩:=f;exact SeqAt.EqAt.none_int b t
  |str b=>obtain⟨t,rfl⟩:=f;exact SeqAt.EqAt.none_str b t
  |_=>exact absurd l Wt
 |bl a=>
  cases h
  cases x with
  |non=>cases f;exact SeqAt.EqAt.bool_none a
  |bl b=>cases f;exact SeqAt.EqAt.bool_bool a b
  |int b=>obtain⟨t,rfl⟩:=f;exact SeqAt.EqAt.bool_int a b t
  |str b=>obtain⟨t,rfl⟩:=f;exact SeqAt.EqAt.bool_str a b t
  |_=>exact absurd l Wt
 |int a=>
  obtain⟨g,rfl⟩:=h;cases x with
  |non=>cases f;exact SeqAt.EqAt.int_none a g
  |bl b=>cases f;exact SeqAt.EqAt.int_bool a g b
  |int b=>obtain⟨t,rfl⟩:=f;exact SeqAt.EqAt.int_int a g b t
  |str b=>obtain⟨t,rfl⟩:=f;exact SeqAt.EqAt.int_str a g b t
  |_=>exact absurd l Wt
 |str a=>
  obtain⟨g,rfl⟩:=h;cases x with
  |non=>cases f;exact SeqAt.EqAt.str_none a g
  |bl b=>cases f;exact SeqAt.EqAt.str_bool a g b
  |int b=>obtain⟨t,rfl⟩:=f;exact SeqAt.EqAt.str_int a g b t
  |str b=>obtain⟨t,rfl⟩:=f;exact SeqAt.EqAt.str_str a g b t
  |_=>exact absurd l Wt
 |_=>exact absurd fy Wt
noncomputable def eqU(x:V)(u:Value):Bool:=match u with
 | .none=>eqV .non x
 | .bool b=>eqV (.bl b) x
 | .int i _=>eqV (.int i) x
 | .str z _=>eqV (.str z) x
 |_=>false
def EH{x y u}(r:RelV y u)(f:Xa y=true):eqU x u=eqV y x:=by
 cases y with
 |non|bl b=>cases r;rfl
 |int i|str z=>obtain⟨t,rfl⟩:=r;rfl
 |_=>trivial
theorem Fh:∀{xs}{us:Yl},Vals xs us->xs.all Xa=true->us.any (eqU x)=xs.any λy=>eqV y x
 |_,_,.nil,_=>rfl
 |y::xs,u::us,.cons r t,f=>by
  rw[QZ,W2]at f;rw[QF,QF,EH r f.1,Fh t f.2]
theorem BV{x v}(h:RelV x v)(l:Xa x=true):∀{xs}{us:Yl},Vals xs us->xs.all Xa=true->∀u∈us,SeqAt.EqAt A s u v (eqU x u)
 |_,_,.nil,_=>λu g=>by cases g
 |y::xs,u::us,.cons r t,f=>λn g=>by
  rw[QZ,W2]at f;rcases Wo.mp g with rfl|g
  ·rw[EH r f.1];exact E5 r h f.1 l
  ·exact BV h l t f.2 n g
noncomputable def inV(x:V)(xs:List V):Bool:=xs.any λy=>eqV y x
noncomputable def rIn(K:Yd)(neg:Bool):R2:=λx y H Q=>∃p xs,y=.ref p/\(SqL K H p xs\/SqT K H p xs)/\Xa x=true/\xs.all Xa=true/\Q (.bl (if neg then !inV x xs else inV x xs)) H
def Es:OpR X (compareOp .In) (rIn X.K false):=by
 intro pins s A H x y v u Q I l o h;obtain⟨p,xs,rfl,hq,n,fs,q⟩:=h;cases o
 rcases hq with hq|hq
 ·obtain⟨f,r,g,z⟩:=I.list hq;refine SeqAt.in_listAt (eqU x) g.isList (λw hw=>BV l n r fs w (by grind)) ⟨.bl _,H,I,rfl,?_⟩;rwa[show f.toArray.any (eqU x)=f.any (eqU x) by simp,Fh r fs]
 ·obtain⟨f,r,g,z⟩:=I.tuple hq;refine SeqAt.in_tupleAt (eqU x) g (λw hw=>BV l n r fs w (by simpa using hw)) ⟨.bl _,H,I,rfl,?_⟩;rwa[show f.toArray.any (eqU x)=f.any (eqU x) by simp,Fh r fs]
def Ey:UV X (.type "list") (λxs H Q=>∃p v,xs=[.ref p]/\(SqL X.K H p v\/SqT X.K H p v)/\∀l,H l=none->Q (.ref l) (upd H l<|.lst v)):=by
 intro pins s N H xs U Q I r h;obtain⟨p,v,rfl,hq,q⟩:=h;obtain⟨u,rfl,T⟩:=vals1 r;cases T
 have C:∀f,Vals v f->v.length<=sizeLine->∀g y,(∀b M,s.heap.get? b=some M->g.get? b=some M)->
   g.get? s.heap.objs.size=some {cls:=.type "list",dict:=none,data:=.seq f.toArray y,slots:=#[]}->EP X pins N Q (.ref s.heap.objs.size) {s with heap:=g}:=λf x A g y z e=>
  ⟨.ref s.heap.objs.size,_,I.laid z (Wk _) (show ObjOk X.prog X.w _ g _ (.lst v)from⟨A,f,y,x,e⟩),rfl,q _ (I.hok.fresh<|Wk _)⟩
 rcases hq with hq|hq
 ·obtain⟨f,x,E,A⟩:=I.list hq;have B:=x.length;obtain⟨o,G,L,n,J⟩:=E.isList;exact call_list_seq p (.inl rfl) G L J (λg y z e=>C f x A g y z e) (by grind)
 ·obtain⟨f,x,E,A⟩:=I.tuple hq;have B:=x.length;obtain⟨o,G,L,n,J⟩:=E;exact call_list_seq p (.inr rfl) G L J (λg y z e=>C f x A g y z e) (by simp only[W4]<;>lia)
def tyV(K:Yd)(T:String)(x:V)(H:Hp):Prop:=match x with
 | .str _=>T = "str"
 | .int _=>T = "int"
 | .ref p=>(T = "list"/\∃xs,SqL K H p xs)\/(T = "tuple"/\∃o,K.lookup p=some o/\o.cls=.type "tuple"/\o.dict=none)\/
   (T = "dict"/\((∃f,H p=some (.dK f))\/∃f,H p=some (.dT f)))\/(T = "set"/\∃S n,H p=some (.set S n))
 |_=>False
def M3{A:St}{H}{s}{T}{x}{v}(I:Inv X pins A H s)(r:RelV x v)(h:tyV X.K T x H) :
  s.TypeIs v T/\∀a,v=.ref a->∃y,s.heap.get? a=some y/\y.dict=none:=by
 cases x with
 |str z=>
  obtain⟨t,rfl⟩:=r;cases h
  exact⟨typeIs_str s z t,λ_ e=>nomatch e⟩
 |int i=>
  obtain⟨t,rfl⟩:=r;cases h
  exact⟨typeIs_int s i t,λ_ e=>nomatch e⟩
 |ref p=>
  cases r
  rcases h with⟨rfl,xs,hq⟩|⟨rfl,o,f,C,q⟩|⟨rfl,f⟩|⟨rfl,S,n,f⟩
  ·obtain⟨B,_,w,_⟩:=I.list hq;refine⟨w.isList.typeIs,λa e=>?_⟩;cases e
   obtain⟨o,n,e,c,q,_⟩:=w;exact⟨o,e,q⟩
  ·refine⟨⟨o,I.kIn p o f,C⟩,λa e=>?_⟩;cases e
   exact⟨o,I.kIn _ o f,q⟩
  ·have z:∃o,s.heap.get? p=some o/\o.ExactDict:=by
    rcases f with⟨l,f⟩|⟨l,f⟩
    ·obtain⟨_,_,_,_,o,_,_,e,g,_⟩:=I.hok p _ f;exact⟨o,e,g⟩
    ·obtain⟨_,_,_,_,o,_,_,e,g,_⟩:=I.hok p _ f;exact⟨o,e,g⟩
   obtain⟨o,e,g⟩:=z;refine⟨⟨o,e,g.1⟩,λa u=>?_⟩;cases u
   exact⟨o,e,g.2.1⟩
  ·obtain⟨o,_,_,_,e,g,_⟩:=I.hok p _ f;refine⟨⟨o,e,g.1⟩,λa u=>?_⟩;cases u
   exact⟨o,e,g.2.1⟩
 |_=>exact False.elim h
noncomputable def tBM(K:Yd)(T:String)(r:V->List V->Hp->VK->Prop)(h:TE)(t:TA):TE:=λf H Q=>h f H λx g=>tyV K T x g/\t f g λxs l=>r x xs l Q
variable {o e:Expr}{es:Yn}{to:TE}{t:TA}{name:Str}{apos cpos:Pos}{T id:String}{r:V->List V->Hp->VK->Prop}
def Tz(M:PlainAttrs T)(slot:Slot T name id)(q:typeOf (.builtin id)=pure (.type "method_descriptor"))(Y:MtR X id r)(U:PE X o to)(ha:PA X (e::es) t)(g:autoParam (attributeBase o name X.env (eval o X.env)=eval o X.env) au_0)
  (l:autoParam (((backTo cpos<|starEach (e::es) X.env).all (λx=>!x.1)&&(backToKw cpos<|keywordEach [] X.env).all (λx=>x.1.isSome)
   && decide ((e::es).length+([]:List Keyword).length+(if ([]:List Keyword).isEmpty then 0 else 1)<30))=true) au_0)
  (f:autoParam ((apos.endLine==cpos.line)=true) au_0) (N:autoParam (starEach (e::es) X.env=(false,eval e X.env)::starEach es X.env) au_0) (n:autoParam ((backTo cpos<|starEach es X.env).any (·.1)=false) au_0) :
  PE X (.Call (.Attribute o name apos) (e::es) [] cpos) (tBM X.K T r to t):=by
 intro pins s p H Q I h;refine wpAny_Call_method_late g l f rfl (thn (U pins s p H _ I h) λv E ⟨x,H1,y,u,B,L⟩=>?_);obtain⟨h1,h2⟩:=M3 y u B;refine⟨T,id,M,slot,q,h1,h2,?_⟩;have w:=ha cpos pins E p H1 _ y L;rw[N]at w ⊢;refine Calls.callWith_builtin (by grind) (Calls.evalArgs_plain ?_);exact thn w λA C ⟨z,H2,I2,G,J⟩=>Y pins C p H2 x z v A Q I2 u G J
end
def MtM(X:Cx)(id:String)(r:V->List V->Hp->VK->Prop):Prop:=
 ∀(pins:Yg) (s:Shared) (f:St) (H:Hp) (x:V) (xs:List V) (v:Value) (g:Yl) (Q:VK),Inv X pins f H s->RelV x v->Vals xs g->r x xs H Q->
  wpAny (model X.prog X.w) X.A (call (.builtin id) (v::g)) (EP X pins f Q) X.xe s
def Vals.one:∀{x}{us:Yl},Vals [x] us->∃u,us=[u]/\RelV x u:=by
 intro _ _ h;cases h with
 |cons r t=>
  cases t
  exact⟨_,rfl,r⟩
theorem Vals.eraseIdx:∀{xs us} i,Vals xs us->Vals (xs.eraseIdx i) (us.eraseIdx i)
 |_,_,_,.nil=>.nil
 |_,_,0,.cons _ t=>t
 |_,_,i+1,.cons r t=>.cons r (Vals.eraseIdx i t)
section
variable {X:Cx}{pins:Yg}{σ:St}{H:Hp}{s:Shared}{l b:Addr}{xs ys zs:List V}
def Inv.lset {g its':Yl}{n}{f}{t'} (I:Inv X pins σ H s) (w:H l=some (.lst xs))
  (e:s.heap.get? l=some {cls:=.type "list",data:=.seq g.toArray n}) (r:f g.toArray=its'.toArray) (o:Vals ys its') (h:ys.length<=sizeLine) :
  Inv X pins σ (upd H l<|.lst ys) {s with heap:=s.heap.update l (Obj.mapSeq f),toks:=t'}:=by
 have q:=PySem.IsL.update e f;rw[r]at q;refine I.write (by rw[w];exact trivial) (.inl rfl) (λx u v p=>(WK s.heap (Obj.mapSeq f)<|Ne.symm v).trans p) ⟨_,q⟩ ?_;exact⟨h,its',_,o,q⟩
def Inv.lnew (I:Inv X pins σ H s) (h:Vals ys f) (g:ys.length<=sizeLine) :
  Inv X pins σ (upd H s.heap.objs.size<|.lst ys) {s with heap:=s.heap.push {cls:=.type "list",data:=.seq f.toArray},toks:=t'}:=
 I.laid (λ_ _ q=>We _ q) (Wk _) ⟨g,f,0,h,Wn _ rfl⟩
def Inv.fresh (I:Inv X pins σ H s):H s.heap.objs.size=none:=I.hok.fresh (Wk _)
def Inv.lstM (I:Inv X pins σ H s) (g:H l=some (.lst xs)):xs.length<=sizeLine/\∃f n,Vals xs f/\xs.length=f.length/\s.heap.get? l=some {cls:=.type "list",data:=.seq f.toArray n}:=by
 obtain⟨z,f,n,r,e⟩:=I.hok l _ g;exact⟨z,f,n,r,r.length,e⟩
def Hv(h:n<=sizeLine):Builtin.List.listTooLong n=false:=by
 unfold Builtin.List.listTooLong
 grind
end
section
variable {X:Cx}
def Dc:V->List V->Hp->VK->Prop:=λx f H Q=>∃l xs y,x=.ref l/\f=[y]/\H l=some (.lst xs)/\xs.length<sizeLine/\Q .non (upd H l<|.lst (xs++[y]))
def NL:MtM X "list.append" Dc:=by
 intro pins s A H x B v C Q I o p h;obtain⟨l,xs,y,rfl,rfl,g,E,q⟩:=h;cases o
 obtain⟨u,rfl,w⟩:=p.one;obtain⟨z,f,n,r,G,e⟩:=I.lstM g;refine QR F.slot_list_append ⟨_,e,rfl⟩ F.entry_list_append (F.args_list_append_2 _ _) (PySem.list_append l f.toArray n u<|by grind) ⟨e,?_⟩;refine⟨.non,_,I.lset g e (by simp) (r.append<|.cons w .nil) ?_,rfl,q⟩
 grind
def FR:V->List V->Hp->VK->Prop:=λx g H Q=>∃l b xs f,x=.ref l/\g=[.ref b]/\H l=some (.lst xs)/\H b=some (.lst f)/\xs.length+f.length<=sizeLine/\Q .non (upd H l<|.lst (xs++f))
def GP:MtM X "list.extend" FR:=by
 intro pins s M H x U v Y Q I y A h;obtain⟨l,b,xs,N,rfl,rfl,w,J,hz,q⟩:=h;cases y
 obtain⟨u,rfl,B⟩:=A.one;cases B
 obtain⟨z,g,n,r,hl,e⟩:=I.lstM w;obtain⟨T,f,E,C,G,L⟩:=I.lstM J;have p:g.toArray.size+f.toArray.size<=sizeLine:=by grind
 have o:¬(!g.toArray.isEmpty&&Builtin.List.listTooLong (g.toArray.size+f.toArray.size))=true:=by
  rw[Hv p,Bool.and_false];exact Wt
 refine QR F.slot_list_extend ⟨_,e,rfl⟩ F.entry_list_extend (F.args_list_extend_2 _ _)
  (AutoSeq1.list_extend_list_list_0 l g.toArray n b f.toArray E o (by lia)<|by lia) ⟨e,L,?_⟩
 refine⟨.non,_,I.lset w e (by simp) (r.append C) ?_,rfl,q⟩
 grind
noncomputable def Ew:R2:=λx y H Q=>∃l b xs f,x=.ref l/\y=.ref b/\H l=some (.lst xs)/\H b=some (.lst f)/\xs.length+f.length<=sizeLine/\∀p,H p=none->Q (.ref p) (upd H p<|.lst (xs++f))
def XC:OpR X (binaryOp .Add) Ew:=by
 intro pins s J H x y v u Q I p o h;obtain⟨l,b,xs,L,rfl,rfl,B,C,T,q⟩:=h;cases p
 cases o
 obtain⟨z,g,n,r,U,e⟩:=I.lstM B;obtain⟨M,f,N,w,A,G⟩:=I.lstM C;refine PySem.P.add_list e G ?_ (by grind);have E:g.toArray++f.toArray=(g++f).toArray:=by simp
 rw[E];exact⟨.ref _,_,I.lnew (r.append w) (by grind),rfl,q _ I.fresh⟩
end
end L2
namespace Att
open PySem PySem.W PySem.Calls PyProof.Rows
def MN:∀ns vs,WellAll P h vs (ns.map WData.int)->IntsAre vs ns:=by
 intro ns
 induction ns with
 |nil=>
  intro vs w;cases w
  exact .nil
 |cons n ns f=>
  intro vs w;cases w with
  |cons a b=>
   cases a
   exact .cons _ _ (f _ b)
def GA{l:OpenLaw}{n}(x:l.most=some n){P}{h}{args}{vals}(f:l.row.toRowW.claim.pre args=true)(p:WellAll P h vals args) :
  ∃a vs ns,vals=[Value.ref a]/\args=[WData.list (ns.map WData.int)]/\h.get? a=some {cls:=.type "list",data:=.seq vs.toArray}/\IntsAre vs ns/\ns.length<=n:=by
 have q:WShape.hasAll [] args [.list .int]=true:=(pre_splitW f).1;have y:l.pre.holds [] {args:=args}=true:=(pre_splitW f).2;obtain⟨d,r,rfl,B,A⟩:=hasAllW_cons q;obtain rfl:=hasAllW_nil A;obtain⟨xs,rfl,z⟩:=hasW_list B;obtain⟨ns,rfl⟩:=items_int z
 have g:ns.length<=n:=by
  have s:(WTm.not<|.lt (.lit<|.int (n:Int))<|.len<|.arg 0).holds [] {args:=[.list (ns.map .int)]}=true:=by
   have s:=(holds_andW y).1;rw[x]at s;lia
  have C:=condW_of s (w_not<|w_lt w_lit<|w_len_list<|w_arg rfl);simp_all
 cases p with
 |cons v u=>
  cases u
  cases v with
  |list w o=>exact⟨_,_,ns,rfl,rfl,w,MN ns _ o,g⟩
def Hf(l:OpenLaw)(args:List WData):l.row.toRowW.claim.post args (.bool true) args=true:=
 postW_of
  rfl
  (w_eq_bool (w_res rfl) w_lit) rfl
def LA{l:OpenLaw}{n}{q}{loose}{XP}{YP}{d}(U:l.most=some n)(J:d.params.defaults=[])
  (call:∀w s₀ g z C x o B A p a vs ns,
   Ground q loose [] XP w s₀ z C g.heap->YP w g.heap->
   g.heap.get? x=some o->o.data=.func (docDef d.name d.params d.body d.scope B A p)->g.heap.CodeRec A d.name->z d.name=some (.ref x)->
   g.heap.get? a=some {cls:=.type "list",data:=.seq vs.toArray}->IntsAre vs ns->ns.length<=n->g.gens=#[]->
   codeAny (model l.prog w) callerA (.call (.ref x) ⟨[.ref a],[]⟩) (λr y=>r=.ok (.ret<|.bool true)/\OldK g.heap y.heap/\y.os=g.os/\AllBare y.gens) g) :
  WalkO q loose XP YP l.row.toRowW d [] (λf vs=>PySem.call f vs):=by
 intro w s₀ g z C G Y x o B A p dV kV T hd L N H hg args vals as s M Q E hlo;obtain rfl:=Dflts.none N J;obtain rfl:=Dflts.noKw N;obtain⟨a,vs,ns,rfl,rfl,u,h,v⟩:=GA U s E;refine enter_call (Ql (call w s₀ g z C x o B A p a vs ns G Y T (fd_plain hd) L H u h v hg) λr y hq=>?_);obtain⟨rfl,h2,h3,h4⟩:=hq;exact⟨.inl ⟨.bool true,.bool true,[],rfl,λ_=>rfl,.bool true,Hf l _,λ_=>⟨List.Pairwise.nil,λ_ hm=>(nomatch hm)⟩⟩,h2,h3,h4⟩
end Att
namespace L2
theorem T6:∀{vs}{ns:Yf},IntsAre vs ns->Vals (ns.map V.int) vs
 |_,_,.nil=>.nil
 |_,_,.cons n t h=>.cons ⟨t,rfl⟩ (T6 h)
def Nh(H:Hp):Prop:=∀b,H b=none\/∃o xs,H b=some (.frz o<|.lst xs)
def Zbj{K B U CX k fa a fd x sp f vs ns}(KX:K.In f.heap)(G:f.heap.Ns mainGlobals B)(g:f.heap.Ns builtinsNs U)(hbb:∀x:Str,x≠"__name__"->U x=bootBuiltins x)(J:f.heap.NoLimit)(hg:f.gens=#[])(M:f.heap.get? a=some {cls:=.type "list",data:=.seq vs.toArray})(hi:IntsAre vs ns)(hl:ns.length<=sizeLine)(hr:Uh k callerA)(F:∀base,K.In base->base.Ns mainGlobals B->UK P w K B base CX k fa fd [x] sp)(y:∀s u,BindsTo s fd ⟨[u],[]⟩ [(x,u)])(Y:∀H,Nh H->SqL K H a (ns.map V.int)->sp [.ref a] H (λv _=>v=.bl true) λ_ _ _=>False)(hCX:∀H e l,CX [] H f (λ_ _ _=>False) e l->False) :
  codeAny (model P w) callerA (.call (.ref fa) ⟨[.ref a],[]⟩) (λr l=>r=.ok (.ret<|.bool true)/\OldK f.heap l.heap/\l.os=f.os/\AllBare l.gens) f:=by
 have rv:=T6 hi
 have core:∀H,Nh H->SqL K H a (ns.map V.int)->HOk P w H f.heap->(∀b,H b≠none->b=a)->(H a≠none->K.lookup a=none)->
   codeAny (model P w) callerA (.call (.ref fa) ⟨[.ref a],[]⟩) (λr l=>r=.ok (.ret<|.bool true)/\OldK f.heap l.heap/\l.os=f.os/\AllBare l.gens) f:=by
  intro H hO hS E hA hK;have base_of:∀{b:Addr} {o:Obj},f.heap.get? b=some o->H b=none->(XX f.heap H).get? b=some o:=λe n=>MY e n
  have T:∀{b:Addr} {o:Obj} {N:Array DictEntry} {Q:Nat},f.heap.get? b=some o->o.data=.dict N Q->H b=none:=λ{b o N Q} e d=>by
   cases q:H b with
   |none=>rfl
   |some u=>
    have e':=hA b (by rw[q];simp);subst e';rw[M]at e;cases e;cases d
  have p:∀{b:Addr} {m:Yh},f.heap.Ns b m->(XX f.heap H).Ns b m:=λ{b m} ⟨o,N,Q,e,d,r⟩=>⟨o,N,Q,base_of e (T e d),d,r⟩
  have L:=λb o e=>base_of (KX b o e) (by
   cases q:H b with
   |none=>rfl
   |some u=>
    have e':=hA b (by rw[q];simp);subst e';rw[hK (by rw[q];simp)]at e;cases e)
  have hM:Mod K B (XX f.heap H):=⟨L,p G,⟨U,p g,hbb⟩,let ⟨mc,h1,h2⟩:=J;⟨mc,p h1,h2⟩⟩;have e0:Kz P w K B (XX f.heap H) callerA [] f H:=⟨rfl,hM,λb o e=>G9 e,Qw (HJ _ _),trivial,λb g=>absurd (show b∈([]:List Addr)from g) (by simp),E,.of_eq hg⟩
  refine Ql ((F _ L<|p G).run callerA [] f H ⟨[.ref a],[]⟩ [.ref a] [.ref a] _ _ hr e0 (y f<|.ref a) (.cons rfl .nil) (Y H hO hS)) λr l h=>?_;cases r with
  |error e=>exact(hCX H e l h).elim
  |ok fl=>
   cases fl with
   |ret u=>
    obtain⟨v,H',os,bare,un,C,r',q⟩:=h;subst q;obtain rfl:=r';refine⟨rfl,OldK.of_keep λb o e=>?_,os,bare⟩;cases q:H b with
    |none=>exact un.keep b o e q (by intro z;exact absurd (show b∈([]:List Addr)from z) (by simp)) (by simp)
    |some u=>
     rcases hO b with z|⟨ob,xs,z⟩
     ·rw[q]at z;cases z
     ·have z2:=un.frzs b ob _ z;obtain⟨e1,_⟩:=E b _ z;obtain⟨e2,_⟩:=C b _ z2;rw[e]at e1;cases e1;exact e2
   |_=>exact False.elim h
 cases hk:K.lookup a with
 |some o=>
  have e:=KX a o hk;rw[M]at e;cases e
  refine core (λ_=>none) (λ_=>.inl rfl) (.inr ⟨_,vs.toArray,_,hk,rfl,rfl,rfl,by rw[W4,hi.length];exact hl,by simpa using rv⟩) (λb u z=>by have A:=z;cases A) (λb z=>absurd rfl z) λz=>absurd rfl z
 |none=>
  refine core (λb=>if b=a then some (.frz {cls:=.type "list",data:=.seq vs.toArray} (.lst<|ns.map V.int))else none) (λb=>?_) (.inl<|.inr ⟨{cls:=.type "list",data:=.seq vs.toArray},Wp rfl⟩) (λb u z=>?_) (λb z=>?_) λ_=>hk
  ·by_cases g:b=a
   ·exact .inr ⟨_,_,Wp g⟩
   ·exact .inl (Wl g)
  ·by_cases g:b=a
   ·have A:=(Wp g).symm.trans z;cases A
    subst g;exact⟨M,by rw[Wd];exact hl,vs,_,rv,M⟩
   ·have A:=(Wl g).symm.trans z;cases A
  ·by_cases g:b=a
   ·exact g
   ·exact absurd (Wl g) z
def Zao{l:PySem.W.OpenLaw}{n k}{q}{loose}{XP}{YP}{d}{K:Params->Yd}{CX:World->CXT}{sp:World->Sp}{x}(hn:l.most=some n)(J:n<=sizeLine)(M:d.params.defaults=[])(hr:Uh k callerA)(hY:∀w h,YP w h->(K w.params).In h)
  (F:∀w y B h,(K w.params).In h->h.Ns mainGlobals y->y d.name=some (.ref B)->
   ∃Q,(∀s u,BindsTo s Q ⟨[u],[]⟩ [(x,u)])/\
    ∀base,(K w.params).In base->base.Ns mainGlobals y->UK l.prog w (K w.params) y base (CX w) k B Q [x] (sp w))
  (E:∀w H a (ns:Yf),ns.length<=n->Nh H->SqL (K w.params) H a (ns.map V.int)->sp w [.ref a] H (λv _=>v=.bl true) λ_ _ _=>False)
  (N:∀w H s e C,CX w [] H s (λ_ _ _=>False) e C->False) :
  PySem.W.WalkO q loose XP YP l.row.toRowW d [] (λf vs=>PySem.call f vs):=by
 refine Att.LA hn M λw U z y mb B o pm cd doc a vs ns G Y ho hd hcd L A r p hg=>?_;have KX:=hY w _ Y;obtain⟨Q,hb,hF⟩:=F w y B _ KX G.T.g L;exact Zbj KX G.T.g G.T.b G.T.builtins G.T.nolimit hg A r (Wu p J) hr hF hb (λH hO hS=>E w H a ns p hO hS) λH e C=>N w H z e C
def M6{l:PySem.W.OpenLaw}{n k}{q}{loose}{XP}{YP}{d}{K:Params->Yd}{CX}{sp:Yd->Sp}{x}(E:l.most=some n)(r:n<=sizeLine)(y:d.params.defaults=[])(C:Uh k callerA)(G:∀w h,YP w h->(K w.params).In h)
  (F:∀w g B h,(K w.params).In h->h.Ns mainGlobals g->g d.name=some (.ref B)->
   ∃A,(∀s u,BindsTo s A ⟨[u],[]⟩ [(x,u)])/\
    ∀base,(K w.params).In base->base.Ns mainGlobals g->UK l.prog w (K w.params) g base CX k B A [x] (sp<|K w.params))
  (p:∀K H a (ns:Yf),ns.length<=n->Nh H->SqL K H a (ns.map V.int)->sp K [.ref a] H (λv _=>v=.bl true) λ_ _ _=>False)
  (z:∀H s e o,CX [] H s (λ_ _ _=>False) e o->False) :
  PySem.W.WalkO q loose XP YP l.row.toRowW d [] (λf vs=>PySem.call f vs):=
 Zao E r y C G F (λw H a ns M L J=>p (K w.params) H a ns M L J) λ_ H s e o=>z H s e o
noncomputable def inClass(s:Stmt)(j:Nat):Stmt:=match s with
 | .ClassDef _ _ _ body _ _ _ _ _ _ _=>body.getD j (.Pass ⟨0,0,0,0⟩)
 |_=>.Pass ⟨0,0,0,0⟩
noncomputable def Xs(s:Stmt):Arguments:=match s with
 | .FunctionDef _ a _ _ _ _ _ _ _ _=>a
 |_=>{posonlyargs:=[],args:=[],vararg:=none,kwonlyargs:=[],kw_defaults:=[],kwarg:=none,defaults:=[]}
noncomputable def Ut(s:Stmt):Yo:=match s with
 | .FunctionDef _ _ b _ _ _ _ _ _ _=>b
 |_=>[]
noncomputable def Ua(s:Stmt):Scope:=match s with
 | .FunctionDef _ _ _ _ _ _ f _ _ _=>f
 |_=>{kind:=.function,names:=[],isGenerator:=false,isCoroutine:=false}
noncomputable abbrev CX0:CXT:=λ_ _ _ _ _ _=>False
noncomputable abbrev E0:XK:=λ_ _ _=>False
def KB:Xi CX0 X E0:=λ_ _ _ _ _ _ _ h=>h.elim
structure Fun (K:Yd) (x qual:Str) (st:Stmt) (f:Addr) (fd:FuncData):Prop where
 ex:∃(oc:Value) (od:Yq) (kV doc pm:Value) (an:Yq) (cdv ct:Value) (osl:Array (Yp)),
  fd=PySem.W.fnOf x qual (Xs st) (Ut st) (Ua st) .none kV doc pm an cdv ct/\K.lookup f=some ⟨oc,od,.func fd,osl⟩/\PySem.W.codeIn K cdv qual=true
 kp:PySem.W.keepIn K (.ref f)=true
section
variable {P:Program}{w:World}{K:Yd}{mg:Yh}{base:Heap}
def Fun.ok {st f p N ps k sp} (F:Fun K x qual st f p) (S:Ue N ps (Ua st)) (len:∀vs H Q E,sp vs H Q E->vs.length=ps.length)
  (l:∀g A outer s H vs Q E,Uh k (A.deeper<|envOfC qual (Ua st) s.heap.objs.size f g)->sp vs H Q E->
   ∃t,PSs (Uu CX0 P w K mg base N qual (Ua st) f g A outer s H E).nox (Ut st) t/\t {nx:=λ_ H'=>Q .non H',rt:=Q} (start N vs) H):UK P w K mg base CX0 (k+1) f p ps sp:=by
 obtain⟨oc,B,kV,y,z,G,g,C,r,rfl,u,o⟩:=F.ex;refine Fb u o S len λA outer s H vs Q E v n=>?_;obtain⟨t,h,q⟩:=l g A outer s H vs Q E v n;exact⟨t,h.nox,q⟩
def Fun.binds {st f p ps} (F:Fun K x qual st f p)
  (h:∀kV g n o l ct us,us.length=ps.length->bindArgs (PySem.W.fnOf x qual (Xs st) (Ut st) (Ua st) .none kV g n o l ct) ⟨us,[]⟩=pure (ps.zip us)):Binds K p ps []:=by
 obtain⟨oc,s,kV,g,n,o,l,ct,q,rfl,u,r⟩:=F.ex;exact .all (h kV g n o l ct)
def B5{st f oc q p n kV h o g ct}(l:K.lookup f=some ⟨oc,q,.func (PySem.W.fnOf x qual (Xs st) (Ut st) (Ua st) .none kV h o p g ct),n⟩)(c:PySem.W.codeIn K g qual=true)(k:PySem.W.keepIn K (.ref f)=true):Fun K x qual st f (PySem.W.fnOf x qual (Xs st) (Ut st) (Ua st) .none kV h o p g ct):=⟨⟨oc,q,kV,h,o,p,g,ct,n,rfl,l,c⟩,k⟩
end
def Py{k}(f:Uh k A):A.units+1<cLine:=QJ (Nat.add_le_add_left (by simp) _) f.units
def Dl(h:n<=1000):n<sizeLine:=QJ h (by decide)
section
variable {X:Cx}
def pv(i:Nat){x pos}(l:autoParam (X.N[i]?=some x) au_0)(g:autoParam (Vis X.env.scope x) au_4)(h:autoParam ((x==("__debug__" : Str))=false) au_1)(f:autoParam ((x==("__classdict__" : Str))=false) au_1):PE X (.Name x pos) (Kl i):=Zaw l g h f
end
def U2{A B:Prop}(h:B):if false=true then A else B:=by grind
def PP{A B:Prop}(h:A):if true=true then A else B:=by grind
def Uq{c A B:Prop}[Decidable c](g:c->A)(f:¬c->B):if c then A else B:=by grind
def Pi{c A B:Prop}[Decidable c](f:c)(h:B):if (!decide c)=true then A else B:=by grind
def Same(H H':Hp):Prop:=∀b o,H b=some o->H' b=some o
def Same.refl (H:Hp):Same H H:=λ_ _ h=>h
def Same.trans (a:Same H g) (b:Same g f):Same H f:=λc o h=>b c o (a c o h)
def Same.free (e:Same H H') {l} (h:H' l=Option.none):H l=Option.none:=by
 cases q:H l with
 |none=>rfl
 |some o=>
  rw[e l o q]at h;lia
def Same.seq {K H H'}{a xs} (e:Same H H') (h:SqL K H a xs):SqL K H' a xs:=by
 rcases h with(h|⟨o,h⟩)|h
 ·exact .inl (.inl<|e _ _ h)
 ·exact .inl (.inr ⟨o,e _ _ h⟩)
 ·exact .inr h
end L2
set_option maxHeartbeats 4000000
namespace L2
section
variable {κ:Type} [DecidableEq κ]
noncomputable def Up(f:List (κ×V))(k:κ):Option V:=(f.find? λg=>decide (g.1=k)).map (·.2)
noncomputable def putK(f:List (κ×V))(k:κ)(v:V):List (κ×V):=
 if (f.any λg=>decide (g.1=k))=true then f.map (λg=>if g.1=k then(g.1,v)else g)else f++[(k,v)]
def Xz{p:κ×V}{r:List (κ×V)}{k:κ}(e:p.1=k):Up (p::r) k=some p.2:=by simp[Up,Qn,e]
def X0{p:κ×V}{r:List (κ×V)}{k:κ}(e:¬p.1=k):Up (p::r) k=Up r k:=by simp[Up,Qn,e]
theorem Ng(k:κ):∀f:List (κ×V),(f.any λg=>decide (g.1=k))=(Up f k).isSome
 |[]=>rfl
 |p::r=>by
  rw[QF];by_cases e:p.1=k
  ·simp only[Xz e,Wi e,Bool.true_or,Option.isSome_some]
  ·rw[X0 e,Wq e,Bool.false_or];exact Ng k r
theorem Fn(k j:κ)(y:V):∀f:List (κ×V),Up (f.map λg=>if g.1=k then(g.1,y)else g) j=(Up f j).map λx=>if j=k then y else x
 |[]=>rfl
 |p::r=>by
  have l:=Fn k j y r;rw[W3];by_cases h:p.1=k
  ·rw[Wp h];by_cases e:p.1=j
   ·rw[Xz (p:=(p.1,y)) e,Xz e,Vl,Wp (e.symm.trans h)]
   ·rw[X0 (p:=(p.1,y)) e,X0 e,l]
  ·rw[Wl h];by_cases e:p.1=j
   ·rw[Xz (p:=p) e,Xz e,Vl,Wl (λz=>h (e.trans z))]
   ·rw[X0 (p:=p) e,X0 e,l]
theorem DZ(k j:κ)(y:V):∀f:List (κ×V),Up f k=none->Up (f++[(k,y)]) j=if j=k then some y else Up f j
 |[],_=>by
  by_cases e:k=j
  ·rw[Wp e.symm];exact Xz (p:=(k,y)) e
  ·rw[Wl (λz=>e z.symm)];exact X0 (p:=(k,y)) e
 |p::r,g=>by
  rw[Vz];have h:¬p.1=k:=λz=>by rw[Xz z]at g;cases g
  rw[X0 h]at g;have l:=DZ k j y r g;by_cases e:p.1=j
  ·rw[Xz e,Xz e,Wl (λz=>h (e.trans z))]
  ·rw[X0 e,X0 e,l]
def IH(f:List (κ×V))(k j:κ)(y:V):Up (putK f k y) j=if j=k then some y else Up f j:=by
 unfold putK;by_cases a:(f.any λg=>decide (g.1=k))=true
 ·rw[Wp a,Fn];rw[Ng]at a;by_cases e:j=k
  ·obtain⟨x,hx⟩:=Option.isSome_iff_exists.mp a;rw[Wp e,e,hx,Vl,Wp rfl]
  ·rw[Wl e];cases Up f j with
   |none=>rfl
   |some x=>rw[Vl,Wl e]
 ·rw[Wl a];refine DZ k j y f ?_;rw[Ng]at a;cases q:Up f k with
  |none=>rfl
  |some x=>rw[q]at a;exact(a rfl).elim
def BZ(f:List (κ×V))(k:κ)(v:V):(putK f k v).length<=f.length+1:=by
 unfold putK;split
 ·rw[Wd];omega
 ·rw[W1,WG,List.length_nil];omega
def RelO.isSome_eq {o:Option V}{u:Yp} (r:RelO o u):o.isSome=u.isSome:=by
 cases o with
 |none=>cases u with
  |none=>rfl
  |some _=>exact(show False from r).elim
 |some _=>cases u with
  |none=>exact(show False from r).elim
  |some _=>rfl
def KV.val {f:List (κ×V)}{vs:List (κ×Value)} (r:KV f vs) (k:κ):RelO (Up f k) (valueAt vs k):=by
 unfold KV at r
 induction r with
 |nil=>exact True.intro
 | @cons p q u g h t o=>
  obtain⟨n,s⟩:=h;by_cases e:p.1=k
  ·have l:q.1=k:=n.symm.trans e;have b:valueAt (q::g) k=some q.2:=by simp[valueAt,Qn,l]
   rw[Xz e,b];exact s
  ·have l:¬q.1=k:=λz=>e (n.trans z);have b:valueAt (q::g) k=valueAt g k:=by simp[valueAt,Qn,l]
   rw[X0 e,b];exact o
def KV.any {f:List (κ×V)}{vs:List (κ×Value)} (r:KV f vs) (k:κ):(f.any λg=>decide (g.1=k))=vs.any λg=>decide (g.1=k):=by
 unfold KV at r
 induction r with
 |nil=>rfl
 |cons h t l=>rw[QF,QF,l,h.1]
def KV.repl {g:List (κ×V)}{vs:List (κ×Value)} (r:KV g vs) (k:κ) {y:V}{u:Value} (n:RelV y u) :
  KV (g.map λf=>if f.1=k then(f.1,y)else f) (vs.map λf=>if f.1=k then(f.1,u)else f):=by
 unfold KV at r ⊢
 induction r with
 |nil=>exact .nil
 | @cons p q w v h t o=>
  rw[W3,W3];refine .cons ?_ o;obtain⟨l,s⟩:=h;by_cases e:p.1=k
  ·rw[Wp e,Wp (l.symm.trans e)];exact⟨l,n⟩
  ·rw[Wl e,Wl (λz=>e (l.trans z))];exact⟨l,s⟩
def KV.put {f:List (κ×V)}{vs:List (κ×Value)} (r:KV f vs) (k:κ) {y:V}{u:Value} (g:RelV y u):KV (putK f k y) (stored vs k u):=by
 unfold putK stored;rw[r.any k];by_cases e:(vs.any λh=>decide (h.1=k))=true
 ·rw[Wp e,Wp e];exact r.repl k g
 ·rw[Wl e,Wl e];exact Paired.snoc r ⟨rfl,g⟩
def KV.length {f:List (κ×V)}{vs:List (κ×Value)} (r:KV f vs):f.length=vs.length:=Paired.length r
end
def TY{P:Program}{w:World}{k:Key}{u:Value}(r:RelV (kV k) u):(Xn P w).is k u=true:=by
 cases k with
 |inl i=>obtain⟨t,e⟩:=(show ∃t,u=Value.int i t from r);subst e;exact MU P w i t
 |inr x=>obtain⟨t,e⟩:=(show ∃t,u=Value.str x t from r);subst e;exact GK P w x t
theorem E2{P:Program}{w:World}:∀{f:List Key}{us:Yl},Vals (f.map kV) us->ItemsAre (Xn P w) f us
 |[],_,r=>by rw[List.map_nil]at r;cases r;exact .nil
 |k::f,_,r=>by
  rw[W3]at r;cases r with
  |cons h t=>exact .cons (TY h) (E2 t)
abbrev KT(H:Hp):List (List Key×V)->List (List Key×Addr×Value)->Prop:=Paired λp q=>p.1=q.1/\H q.2.1=some (.tup<|p.1.map kV)/\RelV p.2 q.2.2
def KT.val {H:Hp}{f:List (List Key×V)}{xs:List (List Key×Addr×Value)} (r:KT H f xs) (k:List Key):RelO (Up f k) ((atKey xs k).map (·.2)):=by
 induction r with
 |nil=>exact True.intro
 | @cons p q u g h t o=>
  obtain⟨n,_,s⟩:=h;by_cases e:p.1=k
  ·have l:q.1=k:=n.symm.trans e;have b:atKey (q::g) k=some q.2:=by simp[atKey,Qn,l]
   rw[Xz e,b];exact s
  ·have l:¬q.1=k:=λz=>e (n.trans z);have b:atKey (q::g) k=atKey g k:=by simp[atKey,Qn,l]
   rw[X0 e,b];exact o
def KT.repl {H:Hp}{f:List (List Key×V)}{xs:List (List Key×Addr×Value)} (r:KT H f xs) (k:List Key) {y:V}{u:Value} (o:RelV y u) :
  KT H (f.map λl=>if l.1=k then(l.1,y)else l) (xs.map<|putAt k u):=by
 induction r with
 |nil=>exact .nil
 | @cons p q x w h t s=>
  rw[W3,W3];refine .cons ?_ s;obtain⟨g,n,v⟩:=h;unfold putAt;by_cases e:p.1=k
  ·rw[Wp e,Wp (g.symm.trans e)];exact⟨g,n,o⟩
  ·rw[Wl e,Wl (λz=>e (g.trans z))];exact⟨g,n,v⟩
def KT.put {H:Hp}{f:List (List Key×V)}{xs:List (List Key×Addr×Value)} (r:KT H f xs) (k:List Key) {b:Addr}{y:V}{u:Value} (l:H b=some (.tup<|k.map kV)) (g:RelV y u) :
  KT H (putK f k y) (storedH xs k b u):=by
 have e:(f.any λh=>decide (h.1=k))=(atKey xs k).isSome:=by
  rw[Ng,(r.val k).isSome_eq,Vw]
 unfold putK storedH;rw[e];by_cases q:(atKey xs k).isSome=true
 ·rw[Wp q,Wp q];exact r.repl k g
 ·rw[Wl q,Wl q];exact Paired.snoc r ⟨rfl,l,g⟩
def KT.keeps {H H':Hp}{f:List (List Key×V)}{xs:List (List Key×Addr×Value)} (r:KT H f xs) (h:∀b g,H b=some (.tup g)->H' b=some (.tup g)):KT H' f xs:=
 Paired.mapP r λ_ _ z=>⟨z.1,h _ _ z.2.1,z.2.2⟩
section
variable {P:Program}{w:World}{H:Hp}{h:Heap}{a:Addr}
def Fy{u:HO}(ok:HOk P w H h)(e:Rd H a u):ObjOk P w H h a u:=e.ok ok
def Nl{f:List (Key×V)}(ok:HOk P w H h)(e:Rd H a (.dK f)):f.length<=sizeLine/\(a==sysModules)=false/\∃vs,KV f vs/\h.DictOf (Xn P w) a vs:=
 show ObjOk P w H h a (.dK f)from Fy ok e
def HE{f:List (Key×V)}(ok:HOk P w H h)(e:H a=some (.dK f)):f.length<=sizeLine/\(a==sysModules)=false/\∃vs,KV f vs/\h.DictOf (Xn P w) a vs:=Nl ok (.inl e)
def N1{f:List Key}(ok:HOk P w H h)(e:H a=some (.tup<|f.map kV)):(tupleKind<|Xn P w).is h f a:=by
 obtain⟨_,g,r,o,q,p,n,l⟩:=(show ObjOk P w H h a (.tup<|f.map kV)from ok a _ e)
 exact⟨o,g.toArray,n,q,p,l,by simpa using E2 r⟩
def Nn{f:List (List Key×V)}(ok:HOk P w H h)(e:Rd H a (.dT f)):f.length<=sizeLine/\(a==sysModules)=false/\
  ∃xs,KT H f xs/\h.DictOfH (tupleKind<|Xn P w) a xs:=by
 obtain⟨z,y,xs,r,o,B,C,A,v,u,s,n⟩:=(show ObjOk P w H h a (.dT f)from Fy ok e)
 refine⟨z,y,xs,r,o,B,C,A,v,u,s,λx hx=>?_,n⟩
 have all:∀{l:List (List Key×V)} {m:List (List Key×Addr×Value)},KT H l m->∀x∈m,(tupleKind<|Xn P w).is h x.1 x.2.1:=by
  intro l m q
  induction q with
  |nil=>intro x hx;exact nomatch hx
  | @cons p q G E hq t g=>
   intro x hx;rcases Wo.mp hx with e|hx
   ·subst e;exact N1 ok (by rw[←hq.1];exact hq.2.1)
   ·exact g x hx
 exact all r x hx
def Zb7{f:List (List Key×V)}(ok:HOk P w H h)(e:H a=some (.dT f)):f.length<=sizeLine/\(a==sysModules)=false/\
  ∃xs,KT H f xs/\h.DictOfH (tupleKind<|Xn P w) a xs:=Nn ok (.inl e)
end
def DGet(H:Hp)(a:Addr)(y:V)(r:Option V):Prop:=
 (∃f k,Rd H a (.dK f)/\y=kV k/\r=Up f k)\/∃f k b,Rd H a (.dT f)/\y=.ref b/\H b=some (.tup<|k.map kV)/\r=Up f k
def DPut(H:Hp)(a:Addr)(y v:V)(H':Hp):Prop:=
 (∃f k,H a=some (.dK f)/\y=kV k/\f.length<sizeLine/\H'=upd H a (.dK<|putK f k v))\/
 ∃f k b,H a=some (.dT f)/\y=.ref b/\H b=some (.tup<|k.map kV)/\f.length<sizeLine/\H'=upd H a (.dT<|putK f k v)
def DGet.k {H:Hp}{a:Addr}{f:List (Key×V)}{k:Key} (e:H a=some (.dK f)):DGet H a (kV k) (Up f k):=.inl ⟨f,k,.inl e,rfl,rfl⟩
def DGet.t {H:Hp}{a b:Addr}{f:List (List Key×V)}{k:List Key} (e:H a=some (.dT f)) (g:H b=some (.tup<|k.map kV)):DGet H a (.ref b) (Up f k):=.inr ⟨f,k,b,.inl e,rfl,g,rfl⟩
def DPut.k {H:Hp}{a:Addr}{f:List (Key×V)}{k:Key}{v:V} (e:H a=some (.dK f)) (g:f.length<sizeLine):DPut H a (kV k) v (upd H a<|.dK<|putK f k v):=.inl ⟨f,k,e,rfl,g,rfl⟩
def DPut.t {H:Hp}{a b:Addr}{f:List (List Key×V)}{k:List Key}{v:V} (e:H a=some (.dT f)) (h:H b=some (.tup<|k.map kV)) (g:f.length<sizeLine) :
  DPut H a (.ref b) v (upd H a<|.dT<|putK f k v):=.inr ⟨f,k,b,e,rfl,h,g,rfl⟩
section
variable {X:Cx}{pins:Yg}{σ:St}{H:Hp}{s:Shared}{a:Addr}{y v:V}{u r:Value}{o:Option V}{A:Around}{E:Yi}
def Inv.big (I:Inv X pins σ H s):sysModules<s.heap.objs.size:=by
 have h:mainGlobals<s.heap.objs.size:=(I.mod.glob.keeps I.bk).lt;exact QK (by decide) h
def Rx{Q:Yi}(L:A.units+1<cLine)(I:Inv X pins σ H s)(g:DGet H a y (some v))(G:RelV y u)(h:∀n C,Inv X pins σ H C->RelV v n->Q n C) :
  wpAny (model X.prog X.w) A (getItem (.ref a) u) Q E s:=by
 rcases g with⟨q,k,e,ey,l⟩|⟨q,k,b,e,ey,T,l⟩
 ·subst ey;obtain⟨z,N,J,rel,B⟩:=Nl I.hok e;obtain⟨n,hw,f⟩:=RelO.some_of (v:=v) (o:=valueAt J k) (by rw[l];exact rel.val k);exact wpAny_getItem_of (TY G) B.mapOf hw (h n _ (I.tok _) f)
 ·subst ey;cases (show u=Value.ref b from G)
  obtain⟨z,N,xs,rel,B⟩:=Nn I.hok e;obtain⟨n,hw,f⟩:=RelO.some_of (v:=v) (o:=(atKey xs k).map (·.2)) (by rw[l];exact rel.val k);obtain⟨p,M,x⟩:=Option.map_eq_some_iff.mp hw;refine wpAny_getItem_heap (tupleKind_room_in1 L) (N1 I.hok T) B M ?_;rw[x];exact h n _ (I.tok _) f
def LO{Q:Yi}(C:A.units+1<cLine)(I:Inv X pins σ H s)(g:DGet H a y o)(B:RelV y u)(h:∀x,Inv X pins σ H x->Q (.bool o.isSome) x) :
  wpAny (model X.prog X.w) A (compareOp .In u<|.ref a) Q E s:=by
 rcases g with⟨f,k,e,ey,l⟩|⟨f,k,b,e,ey,G,l⟩
 ·subst ey;obtain⟨z,n,J,rel,p⟩:=Nl I.hok e;refine wpAny_in_of (TY B) n p.mapOf ?_;rw[←(rel.val k).isSome_eq,←l];exact h _ (I.tok _)
 ·subst ey;cases (show u=Value.ref b from B)
  obtain⟨z,n,xs,rel,p⟩:=Nn I.hok e;refine wpAny_in_heap (tupleKind_room_in1 C) (N1 I.hok G) n p ?_;have q:=(rel.val k).isSome_eq;rw[Vw]at q;rw[←q,←l];exact h _ (I.tok _)
def Gg{f:Heap}{t':Nat}{g:HO}(I:Inv X pins σ H s)(h:Mut (H a))(l:Heap.SameBut a s.heap f)(n:∃q,f.get? a=some q)(new:ObjOk X.prog X.w (upd H a g) f a g) :
  Inv X pins σ (upd H a g) {s with heap:=f,toks:=t'}:=
 I.write (x:=a) (e:=a) h (.inl rfl) (λb q p z=>(l.2 b p).trans z) n new
def Rb{P:Program}{w:World}{H':Hp}{g:Heap}{f:List (Key×V)}{vs:List (Key×Value)}(z:f.length<=sizeLine)(h:(a==sysModules)=false)(rel:KV f vs)(dd:g.DictOf (Xn P w) a vs) :
  ObjOk P w H' g a (.dK f):=⟨z,h,vs,rel,dd⟩
def Ik{H':Hp}{Q:Unit->Shared->Prop}(hu:A.units+1<cLine)(I:Inv X pins σ H s)(g:DPut H a y v H')(M:RelV y u)(rv:RelV v r)(h:∀L,Inv X pins σ H' L->Q () L) :
  wpAny (model X.prog X.w) A (setItem (.ref a) u r) Q E s:=by
 rcases g with⟨f,k,e,ey,l,G⟩|⟨f,k,b,e,ey,U,l,G⟩
 ·subst ey G;obtain⟨z,C,Y,rel,J⟩:=HE I.hok e;have p:Y.length<=sizeLine:=by rw[←rel.length];exact z
  have B:(putK f k v).length<=sizeLine:=by have:=BZ f k v;omega
  refine wpAny_setItem_pairs (hsz:=p) (TY M) J λN n x=>h _ ?_;have he:∃q,N.get? a=some q:=let ⟨q,_,_,hq,_⟩:=n;⟨q,hq⟩;exact Gg I (by rw[e];exact True.intro) x he (Rb B C (rel.put k rv) n)
 ·subst ey G;cases (show u=Value.ref b from M)
  obtain⟨z,C,xs,rel,J⟩:=Zb7 I.hok e;have p:xs.length<=sizeLine:=by rw[←Paired.length rel];exact z
  have B:(putK f k v).length<=sizeLine:=by have:=BZ f k v;omega
  refine wpAny_setItem_heap (hsz:=p) (tupleKind_room_in1 hu) (N1 I.hok U) J λN n x=>h _ ?_;obtain⟨q,es,ep,hq,h2,h3,h4,_,h5⟩:=n;refine Gg I (by rw[e];exact True.intro) x ⟨q,hq⟩ ⟨B,C,_,(rel.put k U rv).keeps λc ys T=>?_,q,es,ep,hq,h2,h3,h4,h5⟩;rw[Ug (GW T e (λz=>nomatch z))];exact T
end
def AE(i:Expr):Prop:=∀f g,subscripted i false f g=operate [f,g] (getItem f g)
def Ln{prog:Program}{w:World}{A:Around}{E:Yi}{s:Shared}{env:Env}{value slice:Expr}{pos:Pos}{T id:String}{Q:Yi}(z:typeLookup (.type T) "__getitem__"=pure (some<|.builtin id))(y:AE slice)(h:wpAny (model prog w) A (eval value env) (λo n=>wpAny (model prog w) A (eval slice env) (λi f=>f.TypeIs o T/\wpAny (model prog w) A (getItem o i) Q E f) E n) E s) :
  wpAny (model prog w) A (eval (.Subscript value slice pos) env) Q E s:=by
 refine Subscript_ (WA h (λo n u=>WA u (λi f g=>?_) λ_ _ x=>x) λ_ _ x=>x);obtain⟨v,g⟩:=g;unfold subscriptTail;refine Wb ?_;rw[getitemInPython_of_ne v.not_modules];refine Wb (wpAny_specialOf v z ?_)
 have p:wpAny (model prog w) A (subscripted slice false o i) (λr l=>wpAny (model prog w) A (letTemporaryGo value o r >>= λ_=>pure r) Q E l) E f:=by
  rw[y o i];exact wpAny_operating (WA g (λr l q=>Wb (wpAny_letTemporaryGo<|Wg q)) λ_ _ x=>x)
 first
  |exact Wg (Wb p)
  |exact Wb (Wg<|Wb p)
  |exact Wb p
def LD{X:Cx}{pins:Yg}{l:St}{H:Hp}{s:Shared}{a:Addr}{y:V}{o:Option V}(I:Inv X pins l H s)(g:DGet H a y o):s.TypeIs (.ref a) "dict":=by
 rcases g with⟨f,k,e,_,_⟩|⟨f,k,b,e,_,_,_⟩
 ·obtain⟨_,_,n,_,h⟩:=Nl I.hok e;exact h.typeIs
 ·obtain⟨_,_,xs,_,h⟩:=Nn I.hok e;exact h.typeIs
noncomputable def CM(l h:TE):TE:=λf H Q=>l f H λx n=>h f n λy g=>∃a v,x=.ref a/\DGet g a y (some v)/\Q v g
noncomputable def Gb(h l:TE):TE:=λf H Q=>h f H λy n=>l f n λx g=>∃a o,x=.ref a/\DGet g a y o/\Q (.bl o.isSome) g
noncomputable def Cp(n h l:TE):TS:=λD f H=>l f H λv q=>n f q λx p=>h f p λy o=>∃a g,x=.ref a/\DPut o a y v g/\D.nx f g
section
variable {X:Cx}{o i e value:Expr}{pos pos' tpos:Pos}{td ty tv:TE}
def DJ(B:X.A.units+1<cLine)(E:PE X o td)(G:PE X i ty)(C:AE i):PE X (.Subscript o i pos) (CM td ty):=by
 intro pins s l H Q I h;refine Ln PySem.F.slot_dict_getitem.lookup C (thn (E pins s l H _ I h) ?_);rintro u p ⟨x,T,M,r,z⟩;refine thn (G pins p l T _ M z) ?_;rintro iv s2 ⟨y,N,n,q,a,v,J,g,w⟩;subst J;obtain rfl:u=Value.ref a:=r;exact⟨LD n g,Rx B n g q λU Y L f=>⟨v,N,L,f,w⟩⟩
def Eh(w:X.A.units+1<cLine)(B:PE X i ty)(z:PE X o td):PC X .In i o (Gb ty td):=by
 intro pins s f H Q I h;refine thn (B pins s f H _ I h) ?_;rintro U l ⟨y,M,J,n,r⟩;refine thn (z pins l f M _ J r) ?_;rintro u T ⟨x,L,G,p,a,v,C,g,q⟩;subst C;obtain rfl:u=Value.ref a:=p;exact LO w G g n λN E=>⟨.bl v.isSome,L,E,rfl,q⟩
def M0(G:X.A.units+1<cLine)(L:PE X o td)(M:PE X i ty)(E:PE X value tv)(J:swapsWith value (some<|.Subscript o i pos') pos.line X.env=pure false) :
  PS X (.Assign [.Subscript o i pos'] value pos) (Cp td ty tv):=by
 intro pins s f H D I h;refine wpAny_Assign_Subscript (thn (E pins s f H _ I h) ?_) J;rintro r n ⟨v,H1,Y,w,C⟩;refine thn (L pins n f H1 _ Y C) ?_;rintro u l ⟨x,H2,U,q,B⟩;refine thn (M pins l f H2 _ U B) ?_;rintro iv s3 ⟨y,H3,T,p,a,H4,N,g,z⟩;subst N;obtain rfl:u=Value.ref a:=q;exact Ik G T g p w λs4 Q=>⟨f,H4,Q,z⟩
end
def LP{P:Program}{w:World}{H:Hp}(h:Heap)(f:sysModules<h.objs.size):ObjOk P w H (h.push {cls:=.type "dict",data:=.dict #[]}) h.objs.size (.dK []):=
 ⟨Qd _,Qx.mpr (Ne.symm<|Ww f),[],.nil,Heap.DictOf.new h⟩
noncomputable def Ca:TE:=λ_ H Q=>∀p,H p=none->Q (.ref p) (upd H p<|.dK [])
section
variable {X:Cx}{pos:Pos}
def Lg:PE X (.Dict [] [] pos) Ca:=λpins s f H Q I h=>
 wpAny_Dict_empty ⟨.ref s.heap.objs.size,_,I.laid (a:=s.heap.objs.size) (o:=.dK []) (t':=s.toks) (λ_ _ q=>We _ q) (Wk _) (LP s.heap I.big),rfl,h _ (I.hok.fresh<|Wk _)⟩
end
end L2
set_option genInjectivity false
set_option genSizeOfSpec false
namespace Own
open L2
structure Def (K:Yd) (mg:Yh) (x:Str) (st:Stmt) (ps:Ym):Prop where
 ex:∃f fd,Fun K x x st f fd/\mg x=some (.ref f)/\Binds K fd ps []
structure Callee (P:Program) (w:World) (K:Yd) (mg:Yh) (base:Heap) (CX:CXT) (k:Nat) (x:Str) (ps:Ym) (sp:Sp):Prop where
 ex:∃f fd,UK P w K mg base CX k f fd ps sp/\mg x=some (.ref f)/\PySem.W.keepIn K (.ref f)=true/\(∃o:Obj,K.lookup f=some o/\o.data=.func fd)/\Binds K fd ps []
section
variable {P:Program}{w:World}{K:Yd}{mg:Yh}{base:Heap}
def Callee.at {st f g k ps sp} (C:Callee P w K mg base CX k x ps sp) (u:mg x=some (.ref f)) (F:Fun K x x st f g) (_:Def K mg x st ps):UK P w K mg base CX k f g ps sp:=by
 obtain⟨y,n,B,l,_,v,_⟩:=C.ex;obtain⟨oc,r,kV,o,q,A,p,z,h,_,s,_⟩:=F.ex
 grind
def Def.ok {st N ps k sp} (D:Def K mg x st ps) (S:Ue N ps (Ua st)) (len:∀vs H Q E,sp vs H Q E->vs.length=ps.length)
  (l:∀f g A outer s H vs Q E,Uh k (A.deeper<|envOfC x (Ua st) s.heap.objs.size f g)->sp vs H Q E->
   ∃t,PSs (Uu CX0 P w K mg base N x (Ua st) f g A outer s H E).nox (Ut st) t/\t {nx:=λ_ H'=>Q .non H',rt:=Q} (start N vs) H):Callee P w K mg base CX0 (k+1) x ps sp:=by
 obtain⟨f,r,F,p,q⟩:=D.ex;refine⟨f,r,F.ok S len λg A outer s H vs Q E o h=>l f g A outer s H vs Q E o h,p,F.kp,?_,q⟩;obtain⟨oc,y,kV,u,v,C,g,B,n,_,z,_⟩:=F.ex
 grind
end
section
variable {X:Cx}{CX:CXT}{k:Nat}{ps:Ym}{sp:Sp}{E:XK}{x:Str}{p pos:Pos}{e:Expr}{es:Yn}{t:TA}
def AK(C:Callee X.prog X.w X.K X.mg X.base CX k x ps sp)(l:Uh k X.A)(hx:Xi CX X E)(u:PA X (e::es) t)(q:autoParam (Gl X x) au_0)(h:autoParam ((x==("__debug__" : Str))=false) au_1)(r:autoParam (starEach (e::es) X.env=(false,eval e X.env)::starEach es X.env) au_0)(g:autoParam ((backTo pos<|starEach es X.env).any (·.1)=false) au_0) :
  PE X (.Call (.Name x p) (e::es) [] pos) (Px sp [] E t):=by
 obtain⟨f,v,F,n,o,_,s⟩:=C.ex;exact OC F l q n o s .nil hx u h r g
def R9:UV X (.builtin "isinstance") (λxs H Q=>∃x n t b,xs=[x,.ty n]/\UZ X.K H x t/\PySem.W.kitOne X.K t (.type n)=some b/\Q (.bl b) H):=by
 intro pins s w H xs y Q I o h;obtain⟨x,n,t,b,rfl,g,e,q⟩:=h;cases o with
 |cons r u=>
  cases u with
  |cons v f=>
   cases f
   obtain rfl:=v;exact Zcn I r g e λl=>⟨.bl b,H,I.tok l,rfl,q⟩
def SY:IxR X (λx y H Q=>Th X.K x y H Q\/P6 X.K x y H Q):=ix_list.or Zal
end
noncomputable def CP(t u:TS):TS:=λD h H=>∃J:L2.St->Hp->Prop,t {D with nx:=J} h H/\∀f g,J f g->u D f g
def P9{st rest t u}(r:PS X st t)(p:PSs X rest u):PSs X (st::rest) (CP t u):=by
 intro pins s n H D I h;obtain⟨J,h,k⟩:=h;refine wpAny_execs_cons (thn (r pins s n H {D with nx:=J} I h) λf o q=>?_)
 cases f with
 |next=>
  obtain⟨g,l,v,q⟩:=q;exact p pins o g l D v (k g l q)
 |_=>exact q
def Zch(K:Yd)(n:String):PySem.W.kitOne K (.type n) (.type n)=some true:=by
 unfold PySem.W.kitOne;simp
def XN{xs i v}(h:atI xs i=some v):atI (xs.map f) i=some (f v):=by
 unfold atI at h ⊢;cases e:ixN xs.length i with
 |_=>grind
def Tu{i v}(f:0<=i)(h:xs[i.toNat]?=some v):atI xs i=some v:=by
 have:=P8 h
 grind
def UI(h:H a=none):Same H (upd H a o):=λb u e=>by rw[Ug (U3 e h)];exact e
def Same.upd (S:Same H H') (h:H a=none):Same H (upd H' a o):=λb u e=>by rw[Ug (U3 e h)];exact S b u e
def Same.new (S:Same H H') (h:H' a=none):Same H (L2.upd H' a o):=Own.Same.upd S (S.free h)
def OL(names:List (Str×NameKind))(g:∀x∈names,x.2=.free->∃c,env.cells.lookup x.1=some c):∀f,(∀x c,f.lookup x=some c->env.cells.lookup x=some c)->
  ∃l,(forIn names f (λx z=>if (x.2 == .free)=true then(do let c ←cellOf env x.1;pure (ForInStep.yield ((x.1,c)::z)))else pure (ForInStep.yield z)):Sem (Ys))=pure l/\
   (∀x c,l.lookup x=some c->env.cells.lookup x=some c)/\(∀x,(∃c,f.lookup x=some c)->∃c,l.lookup x=some c)/\∀x∈names,x.2=.free->∃c,l.lookup x.1=some c:=by
 induction names with
 |nil=>
  intro f q;exact⟨f,rfl,q,λ_ h=>h,λx hx=>by cases hx⟩
 |cons y r A=>
  intro f q;have o:=A λx hx=>g x (Wr _ hx);obtain⟨n,k⟩:=y;by_cases v:k=.free
  ·subst v;obtain⟨c,w⟩:=g (n,.free) Wz rfl
   have B:∀x d,List.lookup x ((n,c)::f)=some d->env.cells.lookup x=some d:=λx d e=>by
    rw[WW]at e;by_cases hx:x=n
    ·subst hx;simp at e;subst e;exact w
    ·have:(x==n)=false:=by simpa using hx
     rw[this]at e;exact q x d e
   obtain⟨l,e,u,p2,s⟩:=o ((n,c)::f) B;refine⟨l,?_,u,λx hx=>p2 x ?_,λx hx p=>?_⟩
   ·rw[List.forIn_cons];have C:cellOf env n=pure c:=by unfold cellOf;rw[w]
    rwa[C]
   ·rw[WW];cases (x==n)
    ·exact hx
    ·exact⟨c,rfl⟩
   ·rcases Wo.mp hx with rfl|hx
    ·exact p2 n ⟨c,by simp[WW]⟩
    ·exact s x hx p
  ·obtain⟨l,e,u,p2,s⟩:=o f q;refine⟨l,?_,u,p2,λx hx p=>?_⟩
   ·grind
   ·rcases Wo.mp hx with rfl|hx
    ·exact absurd p v
    ·exact s x hx p
def IR{sc}(f:∀x∈sc.names,x.2=.free->∃c,env.cells.lookup x.1=some c) :
  ∃g,closureFor sc env=pure g/\(∀x c,g.lookup x=some c->env.cells.lookup x=some c)/\∀x∈sc.names,x.2=.free->∃c,g.lookup x.1=some c:=by
 obtain⟨g,e,n,_,l⟩:=OL sc.names f [] (λx c h=>by cases h);unfold closureFor
 grind
noncomputable def U1(X:Cx)(N':Ym)(h:Scope)(l:Ys)(C:Addr)(f:Shared)(g:Hp)(ex:List Addr):Cx:=
 {X with N:=N',s₀:=f,H₀:=g,env:=compEnvC h l C X.env,outer:=X.stack,ex:=ex,fn:=λ_=>false,pn:=[],xe:=λ_ _=>False}
structure KD (X:Cx) (N':Ym) (φ:Yj) (sc:Scope):Prop where
 kind:sc.kind=.function
 okind:X.env.scope.kind=.function
 nocell:∀y∈sc.names,y.2≠.cell
 names:∀y∈sc.names,y.2=.local->sc.names.lookup y.1=some .local
 frees:∀y∈sc.names,y.2=.free->X.env.scope.names.lookup y.1=some .cell
 len:φ.length=N'.length
 pick:∀(i:Nat) (x:Str) (j:Nat),N'[i]?=some x->φ[i]?=some (some j)->X.N[j]?=some x/\sc.names.lookup x=some .free
noncomputable def atStart(φ:Yj)(f:L2.St):L2.St:=φ.map λo=>o.bind λj=>(f[j]?).join
def Sub(g f:L2.St):Prop:=f.length=g.length/\∀(i:Nat) (v:V),g[i]?=some (some v)->f[i]?=some (some v)
def Sub.refl:Sub f f:=⟨rfl,λ_ _ h=>h⟩
def Sub.skip (h:Sub g f):Sub (none::g) (x::f):=by
 refine⟨by simp[h.1],λi v e=>?_⟩;cases i with
 |zero=>grind
 |succ i=>simp at e ⊢;exact h.2 i v e
theorem Af{env:Env}(p:env.scope.kind=.function):∀{names:List (Str×NameKind)}{x:Str},names.lookup x=some .free->env.scope.names.lookup x=some .cell->
  (names.map λ(n,k)=>if (k==NameKind.free&&env.scope.kind == .function&&env.kindOf n==some .cell)then(n,NameKind.cell)else(n,k)).lookup x=some .cell
 |[],_,h,_=>by simp at h
 |(n,k)::r,x,h,g=>by
  have l:=@Af env p r x;show List.lookup x ((if (k==NameKind.free&&env.scope.kind == .function&&env.kindOf n==some .cell)=true then(n,NameKind.cell)else(n,k))::_)=_;cases hx:x==n with
  |true=>
   have o:env.kindOf x=some .cell:=g;simp_all
  |false=>
   simp only[WW,hx]at h;by_cases f:(k==NameKind.free&&env.scope.kind == .function&&env.kindOf n==some .cell)=true
   ·rw[Wp f];simp only[WW,hx];exact l h g
   ·rw[Wl f];simp only[WW,hx];exact l h g
theorem NZ{env:Env}:∀{names:List (Str×NameKind)}{x}{q:NameKind},
  (names.map λ(n,k)=>if (k==NameKind.free&&env.scope.kind == .function&&env.kindOf n==some .cell)then(n,NameKind.cell)else(n,k)).lookup x=some q->∃k,(x,k)∈names/\(q=k\/k=.free)
 |[],_,_,h=>by simp at h
 |(n,k)::r,x,q,h=>by
  have g:List.lookup x ((if (k==NameKind.free&&env.scope.kind == .function&&env.kindOf n==some .cell)=true then(n,NameKind.cell)else(n,k))::(r.map λ(n,k)=>if (k==NameKind.free&&env.scope.kind == .function&&env.kindOf n==some .cell)then(n,NameKind.cell)else(n,k)))=some q:=h;cases hx:x==n with
  |true=>
   have e:x=n:=by simpa using hx
   subst e;by_cases f:(k==NameKind.free&&env.scope.kind == .function&&env.kindOf x==some .cell)=true
   ·simp_all
   ·simp_all
  |false=>
   have p:List.lookup x (r.map λ(n,k)=>if (k==NameKind.free&&env.scope.kind == .function&&env.kindOf n==some .cell)then(n,NameKind.cell)else(n,k))=some q:=by
    by_cases f:(k==NameKind.free&&env.scope.kind == .function&&env.kindOf n==some .cell)=true
    ·rw[Wp f]at g;simp only[WW,hx]at g;exact g
    ·rw[Wl f]at g;simp only[WW,hx]at g;exact g
   obtain⟨l,o,hq⟩:=(@NZ env r x q) p;exact⟨l,Wr _ o,hq⟩
def Ow{J target iter C scope pos M L env}(I:Nat->Shared->Prop)
  (turn:∀n s,I n s->wpAny (model prog w) A (pyNext M) (λr l=>match r with
   |none=>R (.ok .next) l
   |some v=>wpAny (model prog w) A (letOwnedTupleGo target M v) (λ_ g=>wpAny (model prog w) A (assign target env v) (λ_ u=>
     wpAny (model prog w) A (forIn C true λc r=>if r=true then do let ok ←isTrue c env (eval c env);pure (ForInStep.yield ok)else pure (ForInStep.yield r)) (λok f=>
      if ok=true then wpAny (model prog w) A (eval J env) (λx q=>
       wpAny (model prog w) A (call (.builtin "list.append") [L,x]) (λ_ p=>∃m,m<n/\I m p) (λ_ _=>False) q) (λ_ _=>False) f
      else ∃m,m<n/\I m f) (λ_ _=>False) u) (λ_ _=>False) g) (λ_ _=>False) l) (λ_ _=>False) s)
  (n:Nat) (h:I n s) :
  codeAny (model prog w) A (.compLoop (.ListComp J [⟨target,iter,C,0⟩] scope pos) 0 M L env) R s:=by
 refine codeAny_loop rfl I (λn s N=>?_) n h;refine wpAny_noted ?_;rw[compTurn_list];refine Wb (wpAny_standAt<|Wb (WA (turn n s N) (λr l z=>?_) λ_ _ o=>o.elim));cases r with
 |none=>exact Wg z
 |some v=>
  refine Wb (WA z (λ_ g B=>?_) λ_ _ o=>o.elim);refine Wb (WA B (λ_ u H=>Wb (WA H (λok f y=>?_) λ_ _ o=>o.elim)) λ_ _ o=>o.elim);cases ok with
  |false=>exact Wg ⟨rfl,y⟩
  |true=>
   exact Wb (Wb (WA y (λx q G=>Wb (WA G (λ_ p E=>Wg (Wg ⟨rfl,E⟩)) λ_ _ o=>o.elim)) λ_ _ o=>o.elim))
def K9(X:Cx)(g:Yn)(t:TT):Prop:=
 ∀(pins:Yg) (s:Shared) (f:L2.St) (H:Hp) (Q:Bool->Hp->Prop),Inv X pins f H s->t f H Q->
  wpAny (model X.prog X.w) X.A (forIn g true λc r=>if r=true then do let ok ←isTrue c X.env (eval c X.env);pure (ForInStep.yield ok)else pure (ForInStep.yield r)) (TP X pins f Q) X.xe s
noncomputable def De:TT:=λ_ H Q=>Q true H
def P2:K9 X [] De:=λ_ _ _ H _ I h=>Wg ⟨H,I,h⟩
def FE(g:PT X c t):K9 X [c] t:=by
 intro pins s f H Q I h;rw[List.forIn_cons];refine Wb ?_;exact Wb (thn (g pins s f H Q I h) λb l q=>Wg (Wg q))
noncomputable def PJ(φ:Yj)(u:TI)(g:TG)(tc:TT)(te:TE):TE:=λo H Q=>u o H λJ s=>∀D,s D=none->∃W:Nat->Nat->List V->Hp->Prop,(∃m,W 0 m [] (upd s D<|.lst []))/\
 ∀i m h n,W i m h n->(J.stop i n/\Q (.ref D) n)\/(J.go i n/\∀x r,J.yld i n x r->g x (atStart φ o) r λf v=>Sub (atStart φ o) f/\tc f v λb q=>
  if b=true then te f q λy p=>p D=some (.lst h)/\h.length<sizeLine/\∃l,l<m/\W (i+1) l (h++[y]) (upd p D<|.lst (h++[y]))else ∃l,l<m/\W (i+1) l h q)
def Inv.weak {g f:L2.St}{H}{s} (I:Inv X pins f H s) (S:Sub g f):Inv X pins g H s:=
 ⟨I.ok,I.os,I.bare,I.base,let ⟨m,h,l⟩:=I.loc;⟨m,h,λi x v p o n=>l i x v p (S.2 i v o) n⟩,I.cell,I.free,I.freeC,I.pin,I.hok,by rw[←S.1];exact I.len⟩
def Gc{i:Nat}{v}(h:(atStart φ f)[i]?=some (some v)):∃j,φ[i]?=some (some j)/\f[j]?=some (some v):=by
 unfold atStart at h;cases e:φ[i]? with
 |none=>grind
 |some o=>
  cases o with
  |_=>grind
def CompEnd(X:Cx)(pins:Yg)(h:L2.St)(Q:VK)(use:Option (Value->Sem Unit))(l:Yi):Prop:=
 ∀(D C:Addr) (g:Hp) (f:Shared),Q (.ref D) g->Inv X pins h g f->(∃m,f.heap.Ns C m)->g C=none->C≠X.env.locals->X.s₀.heap.objs.size<=C->(∀x c,X.env.cells.lookup x=some c->c≠C)->(∀p∈X.pn++pins,p.1≠C)->C∉X.fs->
  compPost (model X.prog X.w) X.A X.xe use l (.ref D) C (.ok .next) f
def F6{elt iter tg}{ifs}{pos pos'}{wi}{g}{tc}{te}{use}{QQ}(hcalm:X.calm=true)(S:KD X N' φ G)(hi:PI X tg iter wi)(hin:∀U C s₃ H₃ ex,PG (U1 X N' G U C s₃ H₃ ex) tg g/\K9 (U1 X N' G U C s₃ H₃ ex) ifs tc/\PE (U1 X N' G U C s₃ H₃ ex) elt te)(hs:∀x,foldedSetIterable iter X.env x=pure x){pins}{s}{σ:L2.St}{H}{Q}(I:Inv X pins σ H s)(h:PJ φ wi g tc te σ H Q)(fin:CompEnd X pins σ Q use QQ) :
  wpAny (model X.prog X.w) X.A (comprehension (.ListComp elt [⟨tg,iter,ifs,0⟩] G pos) G X.env pos' (newList []) false (eval iter X.env) use) QQ X.xe s:=by
 obtain⟨U,hcl,p1,p3⟩:=IR λx hx hf=>I.ok.has x.1 (.inl<|S.frees x hx hf);refine wpAny_comprehension_free rfl hs hcl S.kind S.names ?_;refine thn (hi pins s σ H _ I h) λv s1 h1=>thn h1 λitv s2 h2=>?_;obtain⟨it,L,tn,J,H2,e,I2,T,st2,f2,hR⟩:=h2;subst e;refine Qa ?_;have hf:=I2.hok.fresh (Wk _);obtain⟨W,⟨m0,w0⟩,turn⟩:=hR s2.heap.objs.size hf;generalize eD:s2.heap.objs.size=D at *
 have I3:Inv X pins σ (upd H2 D<|.lst []) {s2 with heap:=s2.heap.push {cls:=.type "list",dict:=none,data:=.seq ([]:Yl).toArray}}:=
  I2.laid (λb u e=>We _ e) (Qw eD) ⟨Qd _,[],0,.nil,by rw[←eD];exact Wn _ rfl⟩
 have st3:tn 0 (s2.heap.push {cls:=.type "list",dict:=none,data:=.seq ([]:Yl).toArray}):=T.keep _ _ _ st2 λb _ o e=>We _ e
 have hfpD:∀b∈L,b≠D:=λb f z=>by
  obtain⟨o,ho,_⟩:=T.obj _ _ st2 b f
  have:=Wh ho
  rw[z,←eD]at this;exact Qf _ this
 have f3:∀b∈L,XW X pins (upd H2 D<|.lst []) b:=λb f=>⟨by rw[Ug (hfpD b f)];exact(f2 b f).1,(f2 b f).2⟩;generalize es3:({s2 with heap:=s2.heap.push {cls:=.type "list",dict:=none,data:=.seq ([]:Yl).toArray}}:Shared)=l at *
 have st3':tn 0 l.heap:=by rw[←es3];exact st3
 generalize eH3:upd H2 D (.lst [])=H3 at *;refine wpAny_newFunctionEnv S.nocell (by intro y hy;simp at hy) (λh₁ E B=>?_) S.kind;have hh3:l.heap=s2.heap.push {cls:=.type "list",dict:=none,data:=.seq ([]:Yl).toArray}:=by rw[←es3]
 rw[hh3]at E B;rw[←hh3]at E B;have old:=λb o e=>B.extBut b o (Ww<|Wh e) (We _ e)
 have hC0:l.heap.get? l.heap.objs.size=none:=by
  cases e:l.heap.get? l.heap.objs.size with
  |none=>rfl
  |some o=>exact absurd (Wh e) (Qf _)
 generalize eC:l.heap.objs.size=C at *;have hH3C:=I3.hok.fresh (Qw eC)
 have OK:(U1 X N' G U C l H3 L).Ok:=by
  refine⟨I.ok.mod,?_,I.ok.glob,I.ok.blt,Qw eC,λx y c h1 h2=>I.ok.inj x y c (p1 x c h1) (p1 y c h2),?_,(λx c hx=>by cases hx),I.ok.hd,I.ok.frames,.inl rfl,?_,I3.bs,Wu I.ok.bsz I3.sz,?_,?_,I3.stack,I3.stkFree⟩
  ·exact S.kind
  ·intro x hx;have hx':=hx.imp NZ NZ
   have hfr:(x,NameKind.free)∈G.names:=by
    rcases hx' with⟨k,hm,rfl|rfl⟩|⟨k,hm,rfl|rfl⟩
    ·exact absurd rfl (S.nocell _ hm)
    ·exact hm
    ·exact hm
    ·exact hm
   exact p3 _ hfr rfl
  ·intro b f;refine⟨λz=>?_,λx c hx=>(f3 b f).2.2.2.2.1 x c (p1 x c hx)⟩;obtain⟨o,ho,_⟩:=T.obj _ _ st3' b f;have z':b=C:=z;rw[z',hC0]at ho;cases ho
  ·intro b o f hx;obtain⟨_,_,_,q,_,_⟩:=f3 b hx;rcases q with q|q
   ·exact I.ok.noex b o f q
   ·have:=Wv (Wh f) (Wu I.ok.bsz q)
    exact Qf _ this
  ·intro b f hz;rcases Wo.mp (I.stkSub b hz)with q|q
   ·exact(f3 b f).2.1 q
   ·exact(f3 b f).2.2.1 q
 have hlen0:(atStart φ σ).length=N'.length:=by unfold atStart;rw[Wd];exact S.len
 have I4:Inv (U1 X N' G U C l H3 L) [] (atStart φ σ) H3 {l with heap:=h₁,toks:=l.toks+([]:List (Str×Value)).length}:=by
  refine⟨OK,rfl,I3.bare,Un.kept old,⟨_,E,λi x v h1 h2 h3=>?_⟩,λx c hx=>?_,hH3C,λx c hx=>I3.freeC x c (p1 x c hx),λp hp=>?_,I3.hok.kept old,hlen0⟩
  ·obtain⟨j,hj,hv⟩:=Gc h2;obtain⟨hN,hfr⟩:=S.pick i x j h1 hj;obtain⟨m,_,hl⟩:=I3.loc;have hm:=Qi hfr;have M:=S.frees _ hm rfl;obtain⟨u,ru,lk⟩:=hl j x v hN hv (.inr<|.inl M);refine⟨u,ru,.inr ⟨.inl (Af S.okind hfr M),?_⟩⟩;obtain⟨c,hc⟩:=p3 _ hm rfl;rcases lk with⟨hk,_⟩|⟨_,c',hc',hcl'⟩
   ·have hk':X.env.scope.names.lookup x=some .local:=hk;rw[M]at hk';cases hk'
   ·have e:=p1 _ _ hc;rw[hc']at e;cases e
    obtain⟨o,ho,hd⟩:=hcl';exact⟨_,hc,o,old _ o ho,hd⟩
  ·obtain⟨v,hv⟩:=I3.cell x c (p1 x c hx);obtain⟨o,ho,hd⟩:=hv;exact⟨v,o,old _ o ho,hd⟩
  ·exact absurd hp (by simp[U1])
 have st4:=T.keep _ _ _ st3' λb _ o e=>old b o e
 have stat:∀{H':Hp},(∀b∈L,H' b=none)->∀b∈L,XW (U1 X N' G U C l H3 L) [] H' b:=λhn b f=>
  ⟨hn b f,(OK.exf b f).1,OK.exfs b f,.inl f,(OK.exf b f).2,λp hp=>absurd hp (by simp[U1])⟩
 obtain⟨hPG,hPI,hPE⟩:=hin U C l H3 L
 have loop:codeAny (model X.prog X.w) X.A (.compLoop (.ListComp elt [⟨tg,iter,ifs,0⟩] G pos) 0 (.ref it) (.ref D)<|compEnvC G U C X.env) (compPost (model X.prog X.w) X.A X.xe use QQ (.ref D) C) {l with heap:=h₁,toks:=l.toks+([]:List (Str×Value)).length}:=by
  refine Ow (λn s'=>∃i ys σ' H',Inv (U1 X N' G U C l H3 L) [] σ' H' s'/\Sub (atStart φ σ) σ'/\tn i s'.heap/\(∀b∈L,H' b=none)/\W i n ys H') ?_ m0 ⟨0,[],_,_,I4,Sub.refl,st4,λb f=>(f3 b f).1,w0⟩;rintro n s5 ⟨i,ys,σ5,H5,I5,sub5,st5,fr5,w5⟩;have I5':=Own.Inv.weak I5 sub5;rcases turn i n ys H5 w5 with⟨stop,qn⟩|⟨go,step⟩
  ·refine thn (T.done (U1 X N' G U C l H3 L) rfl rfl rfl hcalm i [] s5 _ H5 _ I5' (stat fr5) st5 stop) ?_;rintro r s6 ⟨hr,I6⟩;subst hr;obtain⟨m,hn,_⟩:=I6.loc;obtain⟨hh,gg,dd,tt,oo⟩:=s6;obtain rfl:=I6.os;have R:Inv X pins σ H5 {l with heap:=hh,gens:=gg,drawn:=dd,toks:=tt}:=I3.call I6.base I6.hok I6.bare λb f=>⟨(f3 b f).2.2.2.1,(f3 b f).2.1,(f3 b f).2.2.2.2.1,(f3 b f).2.2.2.2.2⟩
   have hC3:=Qw eC;obtain⟨q0,q1,q2,q3,q4,q5⟩:=I3.fpOk hC3 hH3C;refine fin D C H5 _ qn R ⟨m,hn⟩ I6.free q1 (Wu I3.sz hC3) q4 q5 q2
  ·refine thn (T.item (U1 X N' G U C l H3 L) rfl rfl rfl hcalm i [] s5 _ H5 _ I5' (stat fr5) st5 go) ?_;rintro r s6 ⟨u,hr,h6⟩;subst hr;refine thn h6 ?_;rintro _ s7 ⟨x,H7,I7,r7,y7,st7,fr7⟩;have I7':=I7.pinned (stat fr7) (T.obj _ _ st7);refine thn (hPG _ s7 _ H7 x u _ I7' r7<|step x H7 y7) ?_;rintro _ s8 ⟨σ8,H8,I8,sub8,q8⟩;refine thn (hPI _ s8 σ8 H8 _ I8 q8) ?_;rintro ok s9 ⟨H9,I9,q9⟩
   have again:∀{Y:Shared} {N:Hp} {ys':List V} {m':Nat},Inv (U1 X N' G U C l H3 L) ([]++PD L s7.heap) σ8 N Y->W (i+1) m' ys' N->∃i ys σ' H',Inv (U1 X N' G U C l H3 L) [] σ' H' Y/\Sub (atStart φ σ) σ'/\tn i Y.heap/\(∀b∈L,H' b=none)/\W i m' ys H':=λ{Y N ys' m'} J10 w10=>by
    refine⟨i+1,ys',σ8,N,J10.unpinned,sub8,T.keep _ _ _ st7 λb f o e=>(J10.pin (b,o)<|Wy _<|Wy _<|Nb f e).1,λb f=>?_,w10⟩;obtain⟨o,e,d⟩:=T.obj _ _ st7 b f;exact(J10.pin (b,o)<|Wy _<|Wy _<|Nb f e).2.1
   cases ok with
   |false=>
    obtain⟨m',hm,w'⟩:=q9;exact⟨m',hm,again I9 w'⟩
   |true=>
    refine thn (hPE _ s9 σ8 H9 _ I9 q9) ?_;rintro xv Y ⟨y,N,I10,r10,hD,hl,m',hm,w'⟩;refine thn (NL _ Y σ8 N (.ref D) [y] (.ref D) [xv] (λ_ H11=>H11=upd N D (.lst (ys++[y]))) I10 rfl (.cons r10 .nil) ⟨D,ys,y,rfl,rfl,hD,hl,rfl⟩) ?_;rintro _ s11 ⟨_,H11,I11,_,e11⟩;subst e11;exact⟨m',hm,again I11 w'⟩
 refine codeAny_compStart_list loop (T.self _ 0 _ _ _ st4 loop)
def Fe{r iter v p pos z g tc te}(n:X.calm=true)(S:KD X N' φ u)(J:PI X v iter z)(w:∀y C f l ex,PG (U1 X N' u y C f l ex) v g/\K9 (U1 X N' u y C f l ex) p tc/\PE (U1 X N' u y C f l ex) r te)(B:autoParam (∀x,foldedSetIterable iter X.env x=pure x) au_3):PE X (.ListComp r [⟨v,iter,p,0⟩] u pos) (PJ φ z g tc te):=by
 intro pins s σ H Q I h;refine F6 n S J w B I h λD C H5 s6 q R G Y U T N M c5=>?_;obtain⟨m,E⟩:=G;exact⟨m,E,λh' A=>⟨.ref D,H5,R.turned (λb o L e=>A.extBut b o L e) Y U (.inr T) N M,rfl,q⟩⟩
def HQ{u iter A n pos spos py M g tc te i y}(hN:X.N.Nodup)(hy:X.N[i]?=some y)(Q:X.env.scope.names.lookup y=some .local)(r:X.calm=true)(S:KD X N' φ w)(hi:PI X A iter M)(G:∀L C f l ex,PG (U1 X N' w L C f l ex) A g/\K9 (U1 X N' w L C f l ex) n tc/\PE (U1 X N' w L C f l ex) u te)(hs:autoParam (∀x,foldedSetIterable iter X.env x=pure x) au_3)(E:autoParam (swapsWith (.ListComp u [⟨A,iter,n,0⟩] w pos) (some<|.Name y py) spos.line X.env=pure true) au_0) :
  PS X (.Assign [.Name y py] (.ListComp u [⟨A,iter,n,0⟩] w pos) spos) (ND (PJ φ M g tc te)<|KP i):=by
 intro pins s Y H D0 I h;rw[exec_Assign_Name_used _ _ _ _ E];refine Wb (wpAny_standAt<|Wb ?_);refine Wb (WA (F6 r S hi G hs I h λD C U s6 q R hm c0 c1 c2 c3 c4 c5=>?_) (λ_ s' z=>Wg (Wg z)) λ_ _ e=>e);obtain⟨m,B,es,ep,hoC,J,rC⟩:=hm
 have R2:Inv X (pins++[(C,B)]) Y U s6:=R.pins_of λp hp=>(WH.mp hp).elim (λz=>R.pin p (Wy _ z)) λz=>by
  grind
 refine wpAny_assign_Name (Ph R2 hN hy (.inl Q) (v:=.ref D) rfl (λs7 T=>?_)<|.inr Q);refine⟨m,⟨B,es,ep,((T.pin (C,B)<|Wy _<|Wy _<|Wf.mpr rfl).1),J,rC⟩,λh' sb=>?_⟩;exact⟨_,U,T.unpinned.turned (λb o hb e=>sb.extBut b o hb e) c0 c1 (.inr c2) c3 c4,q⟩
noncomputable def Ti(sc f:Scope)(N N':Ym)(φ:Yj):Bool:=
 sc.kind == .function&&f.kind == .function&&(sc.names.all λy=>y.2 != .cell&&(y.2 != .local || sc.names.lookup y.1==some .local)&&(y.2 != .free || f.names.lookup y.1==some .cell)) &&
  φ.length==N'.length&&((N'.zip φ).all λp=>match p.2 with|none=>true|some j=>N[j]? == some p.1&&sc.names.lookup p.1==some .free)
def KD.of {N'}{φ g} (h:Ti g X.env.scope X.N N' φ=true):KD X N' φ g:=by
 unfold Ti at h;simp only[W2,beq_iff_eq,W6,Bool.or_eq_true,bne_iff_ne,ne_eq]at h;obtain⟨⟨⟨⟨u,s⟩,r⟩,q⟩,p⟩:=h;refine⟨u,s,λy f=>(r y f).1.1,λy f v=>?_,λy f w=>?_,q,λi x j o n=>?_⟩
 ·grind
 ·grind
 ·have l:(N'.zip φ)[i]?=some (x,some j):=by rw[List.getElem?_zip_eq_some];exact⟨o,n⟩
  have:=p _ (WS l)
  grind
end Own
namespace SetR
open L2
def Ris(xs:Array Nat):Prop:=∀i j,i<j->j<xs.size->xs.getD i 0<xs.getD j 0
def Ei{xs:Array Nat}{i a b}(h:i<xs.size):xs.getD i a=xs.getD i b:=by grind
def LI(R:Ris xs)(j:Nat):∀fuel lo f,f-lo<=fuel->lo<=f->f<=xs.size->(∀k,k<lo->xs.getD k 0<j)->(∀k,f<=k->k<xs.size->j<=xs.getD k 0)->
  let r:=SetTable.below.go xs j fuel lo f
  r<=xs.size/\(∀k,k<r->xs.getD k 0<j)/\∀k,r<=k->k<xs.size->j<=xs.getD k 0:=by
 intro fuel
 induction fuel with
 |zero=>
  intro lo f w v n l h;have e:lo=f:=by lia
  subst e;exact⟨n,l,h⟩
 |succ fuel q=>
  intro lo f w v n l h;show(let r:=(if lo<f then(if xs.getD ((lo+f) / 2) j<j then SetTable.below.go xs j fuel ((lo+f) / 2+1) f else SetTable.below.go xs j fuel lo ((lo+f) / 2))else lo);r<=xs.size/\(∀k,k<r->xs.getD k 0<j)/\∀k,r<=k->k<xs.size->j<=xs.getD k 0);by_cases s:lo<f
  ·rw[Wp s];have o:(lo+f) / 2<xs.size:=by lia
   by_cases g:xs.getD ((lo+f) / 2) j<j
   ·rw[Wp g];refine q _ _ (by lia) (by lia) n (λk u=>?_) h;rw[Ei o]at g;by_cases e:k=(lo+f) / 2
    ·rw[e];exact g
    ·exact QK (R k _ (by lia) o) g
   ·rw[Wl g];refine q _ _ (by lia) (by lia) (by lia) l (λk u p=>?_);rw[Ei (b:=0) o]at g;by_cases e:k=(lo+f) / 2
    ·rw[e];lia
    ·have:=R _ k (show(lo+f) / 2<k by lia) p
     lia
  ·rw[Wl s];have e:lo=f:=by lia
   subst e;exact⟨n,l,h⟩
def DX(R:Ris xs)(j:Nat):SetTable.below xs j<=xs.size/\(∀k,k<SetTable.below xs j->xs.getD k 0<j)/\∀k,SetTable.below xs j<=k->k<xs.size->j<=xs.getD k 0:=
 LI R j xs.size 0 xs.size (by simp) (by simp) (by simp) (λk f=>by lia) (λk h g=>by lia)
def RC(R:Ris xs){i}(f:i<=xs.size){slot}(l:∀k,k<i->xs.getD k 0<slot)(g:∀k,i<=k->k<xs.size->slot<=xs.getD k 0):SetTable.below xs slot=i:=by
 obtain⟨a,b,c⟩:=DX R slot;rcases Nat.lt_trichotomy (SetTable.below xs slot) i with h|h|h
 ·grind
 ·lia
 ·grind
def Rise(xs:Array Nat):Prop:=xs.toList.Pairwise (· < ·)
def Rise.ris (h:Rise xs):Ris xs:=by
 intro i j f g;have l:i<xs.size:=by lia
 have:=(List.pairwise_iff_getElem.mp h) i j (by omega) (by omega) f
 simp_all
def Mc(h:Rise xs)(u:xs[SetTable.below xs j]?≠some j):Rise (SetTable.insertAt xs (SetTable.below xs j) j):=by
 obtain⟨a,b,c⟩:=DX h.ris j;generalize SetTable.below xs j=p at *;unfold Rise;rw[SetTable.toList_insertAt];refine List.pairwise_append.mpr ⟨h.sublist (Vv _ _),List.pairwise_cons.mpr ⟨λy g=>?_,h.sublist (List.drop_sublist _ _)⟩,λx hx y g=>?_⟩
 ·obtain⟨k,l,e⟩:=List.mem_drop_iff_getElem.mp g
  have f:p+k<xs.size:=by
   simp only[WV]at l;lia
  have w:=c (p+k) (by lia) f;have s:xs.getD (p+k) 0=y:=by simpa [Array.getD,f]using e
  rcases Nat.lt_or_ge j y with r|r
  ·exact r
  ·have ey:y=j:=by lia
   exfalso;rcases Nat.eq_zero_or_pos k with rfl|v
   ·apply u;rw[WN (by lia)]
    have:xs[p]=y:=by simpa using e
    rw[this,ey]
   ·have A:=h.ris p (p+k) (by lia) f;have z:=c p (Wk _) (by lia);lia
 ·have n:x<j:=by
   obtain⟨k,l,e⟩:=List.mem_take_iff_getElem.mp hx;have q:k<p:=by lia
   have o:k<xs.size:=by lia
   have:=b k q
   have s:xs.getD k 0=x:=by simpa [Array.getD,o]using e
   lia
  rcases Wo.mp g with rfl|g
  ·exact n
  ·obtain⟨k,l,e⟩:=List.mem_drop_iff_getElem.mp g
   have f:p+k<xs.size:=by
    simp only[WV]at l;lia
   have w:=c (p+k) (by lia) f;have s:xs.getD (p+k) 0=y:=by simpa [Array.getD,f]using e
   lia
structure Tb (b:Bool) (t:SetTable):Prop where
 led:t.led=b
 dum:t.dummies=#[]
 ris:Rise t.place
def F9(j:Nat):SetTable.has #[] j=false:=rfl
def Tb.fresh (b:Bool):Tb b (.fresh 0 0 b):=⟨rfl,rfl,List.Pairwise.nil⟩
def LU(n:Nat):Rise (Array.range n):=by
 unfold Rise;rw[Array.toList_range];exact List.pairwise_lt_range
def Tb.stand (h:Tb b t) (n:Nat):Tb b (t.standIn n):=⟨h.led,rfl,LU n⟩
def Tb.orStand (h:Tb b t) (n:Nat):Tb b (t.orStandIn n):=by
 unfold SetTable.orStandIn;split
 ·lia
 ·exact h.stand n
def Tb.plainOff (h:Tb b t):Tb b {t with plain:=false}:=⟨h.led,h.dum,h.ris⟩
def Tb.put (h:Tb b t) {j} (f:t.place[SetTable.below t.place j]?≠some j):Tb b (t.put j).1:=by
 refine⟨h.led,?_,Mc h.ris f⟩;show(if SetTable.has t.dummies j=true then _ else t.dummies)=#[];rw[h.dum,F9];rfl
def Iu(h:Tb b t)(f:Nat->Int)(z:Int):∀fuel p j d,p.dummy=none->SetTable.probe.go t f z fuel p=some (.empty j d)->d=none/\t.place[SetTable.below t.place j]?≠some j:=by
 intro fuel
 induction fuel with
 |zero=>intro p j d _ e;cases e
 |succ fuel n=>
  intro p j d o e;unfold SetTable.probe.go at e
  have l:∀q,q.dummy=none->(t.advance q).dummy=none:=λq hq=>by
   unfold SetTable.advance;split
   ·exact hq
   ·exact hq
  cases g:t.slot p.j with
  |empty=>
   rw[g]at e;unfold SetTable.slot at g
   grind
  |dummy=>
   unfold SetTable.slot at g
   dsimp only at g
   split at g
   ·cases g
   ·rw[h.dum,F9]at g;simp at g
  |live i=>
   rw[g]at e
   dsimp only at e
   split at e
   ·cases e
   ·exact n _ j d (l p o) e
def Tb.layNew (h:Tb b t) (es:Yt) (z:Int) (x:Value):Tb b (PySem.layNew t es z x).2.1:=by
 unfold PySem.layNew;split
 ·rename_i slot wasDummy e
  have f:t.place[SetTable.below t.place slot]?≠some slot:=by
   unfold SetTable.freeSlot SetTable.probe at e;split at e
   ·rename_i j dummy g;obtain⟨n,l⟩:=Iu h _ _ _ _ _ _ rfl g
    grind
   ·grind
  exact(h.put f).orStand _
 ·exact h.stand _
def IQ(n:Nat)(f:Nat->Option Nat):((List.range n).filterMap λj=>(f j).map (j,·)).Pairwise (λa b=>a.1<b.1):=by
 refine List.Pairwise.filterMap _ ?_ List.pairwise_lt_range;intro a l h b o q g;cases e:f a with
 |none=>grind
 |some v=>
  cases p:f l with
  |_=>grind
def Tb.relayAll (h:Tb b t) (es:Yt) (n:Nat):Tb b (PySem.relayAll t es n).2.1:=by
 unfold PySem.relayAll;split
 ·rename_i l order e
  dsimp only
  split
  ·unfold SetTable.relaid SetTable.laid at e;cases f:SetTable.layClean (SetTable.sizeAbove n-1) (es.map (·.1))with
   |none=>grind
   |some owner=>
    rw[f]at e;have g:=WJ Prod.fst (Wm e);subst g;refine⟨h.led,rfl,?_⟩;show(List.map (λx=>x.fst) ((List.range (SetTable.sizeAbove n-1+1)).filterMap λj=>(owner.getD j none).map (j,·))).toArray.toList.Pairwise (· < ·);rw[List.toList_toArray,List.pairwise_map];exact IQ _ _
  ·exact h.stand _
 ·exact h.stand _
noncomputable def keyOf(e:Int×Value):Int:=match e.2 with
 | .int k _=>k
 |_=>0
def Ent(e:Int×Value):Prop:=∃(k:Int) (t:Tok),e=(hashInt k,.int k t)
section
variable (prog:Program) (w:World)
noncomputable def Xk(w:World):Bool:=w.params.followText "set-order"
structure U9 (h:Heap) (a:Addr) (js:Yf) (es:Yt) (ep:Nat) (t:SetTable):Prop where
 obj:∃o,h.get? a=some o/\o.ExactSet/\o.data=.set es ep t
 ent:∀e∈es.toList,Ent e
 per:(es.toList.map keyOf).Perm js
 nod:js.Nodup
 few:es.size<scanBound
 fit:t.fits es.size=true
 tab:Tb (!Xk w) t
def SetB(h:Heap)(a:Addr)(f:Yf):Prop:=∃g l t,U9 w h a f g l t
end
section
variable {prog:Program}{w:World}{A:Around}{E:Yi}{s:Shared}
def Ent.elems (h:∀e∈l,Ent e):ElemsOf (intKind prog w) l:=λe f=>by
 obtain⟨k,t,rfl⟩:=h e f;exact⟨⟨k,intKind_is _ _ _ _,rfl⟩,rfl⟩
def EC(h:Ent e)(k:Int):(intKind prog w).is k e.2=decide (k=keyOf e):=by
 obtain⟨f,t,rfl⟩:=h;show Value.isInt k (.int f t)=decide (k=f);by_cases e:k=f
 ·subst e;simp[Value.isInt]
 ·rw[Wq e];simp[Value.isInt];lia
def SetB.len (S:U9 w h a f es g t):es.size=f.length:=by
 have:=S.per.length_eq
 grind
def SetB.at {a l} (S:SetB w h a l) (k:∀o,h.get? a=some o->p.get? a=some o):SetB w p a l:=by
 obtain⟨q,u,t,⟨o,n,r⟩,b,c,d,e,f,g⟩:=S;exact⟨q,u,t,⟨o,k o n,r⟩,b,c,d,e,f,g⟩
def U9.store {es f}{l t t'} (S:U9 w h a B es l t) (z:∀e∈f.toList,Ent e) (y:(f.toList.map keyOf).Perm g) (x:g.Nodup) (v:f.size<scanBound)
  (u:t'.fits f.size=true) (r:Tb (!Xk w) t'):U9 w (h.update a<|Obj.putSet f t') a g f (l+1) t':=by
 obtain⟨o,p,hx,n⟩:=S.obj;refine⟨⟨{o with data:=.set f (l+1) t'},?_,hx,rfl⟩,z,y,x,v,u,r⟩
 have q:=WQ (Obj.putSet f t') p (by rw[putSet_of f t' n];rfl);rwa[putSet_of f t' n]at q
def Aa{g:Bool->Sem Unit}(Y:∀b C M,M () C->wpAny (model prog w) A (g b) M E C){a Q h}{es f}{ep t t'}(S:U9 w s.heap a Q es ep t)(L:∀e∈f.toList,Ent e)(J:(f.toList.map keyOf).Perm h)(H:h.Nodup)(r:f.size<scanBound)(h5:t'.fits f.size=true)(G:Tb (!Xk w) t'){d R}(n:∀u,Heap.SameBut a s.heap u->SetB w u a h->R (some true) {s with heap:=u}) :
  wpAny (model prog w) A (do
    storeSet a f t'
    if (!d&&t'.tooFull)=true then do
      g (relayAll t' f<|SetTable.grown f.size).2.2
      storeSet a (relayAll t' f<|SetTable.grown f.size).1 (relayAll t' f<|SetTable.grown f.size).2.1
      pure (some true)
     else pure (some true)) R E s:=by
 obtain⟨o,U,hx,hd⟩:=S.obj;have B:=S.store L J H r h5 G;obtain⟨o1,p,T,q⟩:=B.obj;have N:=Qb s.heap a (Obj.putSet f t');refine Wb (wpAny_storeSet_of U hd ?_<|QU r);split
 ·have l:=relayAll_perm t' f (SetTable.grown f.size);have v:=relayAll_fits t' f (SetTable.grown f.size);have tt:=G.relayAll f (SetTable.grown f.size);generalize relayAll t' f (SetTable.grown f.size)=y at l v tt ⊢;obtain⟨x,t2,g2⟩:=y
  dsimp only at l v tt ⊢
  have z:x.size=f.size:=by rw[←WV,l.length_eq,WV]
  refine Wb (Y _ _ _<|Wb<|wpAny_storeSet_of p q ?_<|QU<|by lia);exact Wg (n _ (N.trans<|Qb _ a _) ⟨_,_,_,B.store (λe he=>L e (l.mem_iff.mp he)) ((l.map keyOf).trans J) H (by rw[z];exact r) v tt⟩)
 ·exact Wg (n _ N ⟨_,_,_,B⟩)
noncomputable def U6(f:Yf)(k:Int):Yf:=if k∈f then f else f++[k]
def Iw{R}(S:SetB w s.heap a n)(room:n.length+1<scanBound)(J:∀r g,Heap.SameBut a s.heap g->SetB w g a (U6 n k)->R r {s with heap:=g}) :
  wpAny (model prog w) A (setAddHashed a (.int k u)<|hashInt k) R E s:=by
 obtain⟨l,ep,t,S⟩:=S;obtain⟨o,ho,hx,hd⟩:=S.obj;have el:=Ent.elems (prog:=prog) (w:=w) S.ent;have N:=SetB.len S;refine Va (Wb<|Qu ho hd S.fit ?_)
 dsimp only
 rw[byScan_of rfl S.few el];simp only[↓reduceIte];unfold setAddByScan;refine Wb (Wb<|wpAny_rule<|Wb<|wpAny_setScan_of (intKind_is _ _ _ _) ho hd S.fit el ?_);have H:∀z,z∈n↔∃e∈l.toList,keyOf e=z:=λz=>by rw[←S.per.mem_iff,WC]
 cases q:List.findIdx? (λe=>(intKind prog w).is k e.2) l.toList with
 |some j=>
  dsimp only
  obtain⟨hj,Y,_⟩:=List.findIdx?_eq_some_iff_getElem.mp q
  have M:k∈n:=by
   rw[EC (S.ent _<|WB hj)]at Y;exact(H k).mpr ⟨_,WB hj,(Wx Y).symm⟩
  refine Wg (Wg ?_);have f:=J false s.heap (Heap.SameBut.refl a s.heap);unfold U6 at f;rw[Wp M]at f;exact f ⟨_,_,_,S⟩
 |none=>
  dsimp only
  have M:¬k∈n:=λN=>by
   obtain⟨e,he,Q⟩:=(H k).mp N
   have:=List.findIdx?_eq_none_iff.mp q e he
   rw[EC (S.ent e he),Wi Q.symm]at this;cases this
  have P:=layNew_perm t l (hashInt k) (.int k u);have F:=layNew_fits t l (hashInt k) (.int k u);have T:=S.tab.layNew l (hashInt k) (.int k u);change wpAny (model prog w) A (match layNew t l (hashInt k) (.int k u)with|(l,t,wasDummy,gave)=>_) _ _ _
  generalize layNew t l (hashInt k) (.int k u)=y at P F T ⊢;obtain⟨p,t1,d1,g1⟩:=y
  dsimp only at P F T ⊢
  rw[Array.toList_push]at P
  have e1:∀e∈p.toList,Ent e:=λe he=>by
   rcases WH.mp (P.mem_iff.mp he)with he|he
   ·exact S.ent e he
   ·rw[Wf.mp he];exact⟨k,u,rfl⟩
  have e2:(p.toList.map keyOf).Perm (n++[k]):=by
   refine(P.map keyOf).trans ?_;rw[W5];exact S.per.append_right _
  have e3:(n++[k]).Nodup:=List.nodup_append.mpr ⟨S.nod,by simp,λx hx y hy=>by rw[Wf.mp hy];rintro rfl;exact M hx⟩
  have e4:p.size<scanBound:=by
   rwa[←WV,P.length_eq,W1,WV,N]
  have h:=λg B G=>by
   have f:=J true g B;unfold U6 at f;rw[Wl M]at f;exact f G
  have U:∀b {C:Shared} {L:Unit->Shared->Prop},L () C->wpAny (model prog w) A (match b with|true=>rule "set.scan.the-table-gave-way" |false=>pure ()) L E C:=λb C L v=>by cases b<;>first|exact Wg v|exact wpAny_rule v
  refine Wb (U _ ?_);split
  ·refine Wb ?_;rw[hashByValue_scannable 8 rfl];refine Wg (Aa (λb C L v=>U b v) S e1 e2 e3 e4 ?_ ?_ λg B G=>Wg (h g B G))
   ·split
    ·exact F
    ·exact SetTable.fits_plain_off F
   ·split
    ·exact T
    ·exact T.plainOff
  ·refine Wb (Wg ?_);simp only[↓reduceIte];exact Aa (λb C L v=>U b v) S e1 e2 e3 e4 F T λg B G=>Wg (h g B G)
def G8{I G x P St}{ns:Yf}(W:Walks prog w A.in1 I G x ns.length P St)(S:Addr)(C:S∉G)(L:∀i v,P i v->∃t,v=.int (ns.getD i 0) t)(room:ns.length+1<scanBound):∀k i s n,ns.length-i=k->i<=ns.length->St i s.heap->SetB w s.heap S n->n.length<=i->
   (∀h p,(∀b o,b∉S::x->s.heap.get? b=some o->h.get? b=some o)->SetB w h S ((ns.drop i).foldl U6 n)->R (.ok<|.ret .none) {s with heap:=h,toks:=p})->
   codeAny (model prog w) A (.builtin "set.update.loop" ⟨[.ref S,.ref I],[]⟩) R s:=by
 have q:=λz=>C (W.sub _ z);intro k
 induction k with
 |zero=>
  intro i s n M Q st B N l;have ei:i=ns.length:=by lia
  refine Qo QL ?_;show wpAny _ A.in1 (pyNext (.ref I) >>= _) _ _ s;refine Wb (W.done s _ _ (ei▸st) λh p keep=>?_);show wpAny _ A.in1 (ret Value.none) _ _ _;refine Wg (l h p (λb o g e=>keep b o (λz=>g (Wr _ z)) e) ?_);rw[ei,V0];exact B.at λo e=>keep S o q e
 |succ k J=>
  intro i s n M Q st B N l;have f:i<ns.length:=by lia
  refine Qo QL ?_;rw[Q9 QM _];show wpAny _ A.in1 (pyNext (.ref I) >>= _) _ _ s;refine Wb (W.item i s _ _ f st λv T H pv u keep1=>?_);obtain⟨t,rfl⟩:=L i v pv;have B1:=B.at λo e=>keep1 S o q e;unfold setAdd;refine Wb (Va<|Va<|Wb ((intKind prog w).pyHash (intKind_is _ _ _ _) ?_));refine Iw B1 (by lia) λr h2 y B2=>?_
  have U:(U6 n<|ns.getD i 0).length<=i+1:=by
   unfold U6;split
   ·lia
   ·simp;lia
  refine Wg ⟨plainId_quiet QM _,J (i+1) _ _ (by lia) f (W.frame _ T _ u λb g o e=>?_) B2 U λh p keep B'=>?_⟩
  ·rw[y.2 b (λz=>C (by rw[←z];exact g))];exact e
  ·refine l h p (λb o g e=>keep b o g ?_) ?_
   ·rw[y.2 b (λz=>g (by rw[z];exact Wz))];exact keep1 b o (λz=>g (Wr _ z)) e
   ·have Y:ns.drop i=ns.getD i 0::ns.drop (i+1):=by
     rw[WO f,Wj,Wc f];rfl
    rwa[Y]
def Zat(a:Value){Q}(f:Q (.ref s.heap.objs.size) {s with heap:=s.heap.push {cls:=.type "set",dict:=none,data:=.set #[] 0 (.fresh 0 0 (!Xk w))}}) :
  codeAny (model prog w) A (.call (.builtin "set.__new__") ⟨[.type "set",a],[]⟩) (wants Q E) s:=by
 refine codeAny_of_tree (?_);refine Wb (wpAny_of_eq (F.newCall_set_1 a)<|Wg ⟨plainId_quiet F.plain_set_new _,Qo F.entry_set_new ?_⟩);rw[(Q9 (A:=A) F.plain_set_new ⟨[.type "set",a],[]⟩)];unfold Builtin.«set.__new__» Builtin.Frozenset.newClass;have g:=sub_set_self
 dsimp only
 wp_walk
 refine wpAny_askSetting (Wg<|?_)
 dsimp only
 simp only[newObj];exact Wb (wpAny_alloc<|Wg<|Wg f)
set_option maxHeartbeats 4000000 in
def Mw{l:Addr}{f:Yr}{ns:Yf}{Q:Yi}(hh:A.handled=none)(hl:s.heap.IsList l f)(hi:IntsAre f.toList ns)(room:ns.length+1<scanBound)(T:∀(h:Heap) (q:Nat),SetB w h s.heap.objs.size (ns.foldl U6 [])->(∀b o,b<s.heap.objs.size->s.heap.get? b=some o->h.get? b=some o)->Q (.ref s.heap.objs.size) {s with heap:=h,toks:=q}) :
  wpAny (model prog w) A (call (.type "set") [.ref l]) Q E s:=by
 have hn:f.size=ns.length:=by have:=IntsAre.length hi;simpa using this
 obtain⟨mroC,mroT,mro⟩:=F.called_set.mro;have made:=F.called_set.made;have subs:=F.called_set.sub;refine wpAny_call (codeAny_of_tree<|show wpAny _ _ (callAny (.type "set") _) _ _ _ from ?_)
 refine Wg ⟨Code.quiet_builtin _ (by decide +kernel),Qo F.entry_type_call ?_⟩;have wt:=Around.under_plain (A:=A) (weight_type_call_type "set" [.ref l] []) rfl;rw[wt];have nt:=F.called_set.notType;have cc:=F.called_set.canCreate;have tc:=F.typeCall_set_1 (.ref l)
 repeat (any_goals (first|assumption|wp_step))
 refine Ql (Zat (.ref l) (E:=E) (Q:=λobj Y=>obj=.ref s.heap.objs.size/\Y={s with heap:=s.heap.push {cls:=.type "set",dict:=none,data:=.set #[] 0 (.fresh 0 0 (!Xk w))}}) ⟨rfl,rfl⟩) λr Y x=>?_
 cases r with
 |error e=>exact x
 |ok fl=>
  cases fl with
  |next=>exact x.elim
  |brk=>exact x.elim
  |cont=>exact x.elim
  |ret obj=>
   obtain⟨rfl,rfl⟩:=x;generalize H:s.heap.push {cls:=.type "set",dict:=none,data:=.set #[] 0 (.fresh 0 0 (!Xk w))}=n;have g1:n.get? s.heap.objs.size=some {cls:=.type "set",dict:=none,data:=.set #[] 0 (.fresh 0 0 (!Xk w))}:=by rw[←H];exact Wn _ rfl
   have hT:Shared.TypeIs {s with heap:=n} (.ref s.heap.objs.size) "set":=⟨_,g1,rfl⟩
   have ini:=F.called_set.init.lookup;have inb:=F.called_set.init.bind (.ref s.heap.objs.size)
   repeat (any_goals (first|assumption|wp_step))
   refine Ql (Vm (R:=wants (λr U=>r=.none/\∃h q,U={s with heap:=h,toks:=q}/\SetB w h s.heap.objs.size (ns.foldl U6 [])/\(∀b o,b<s.heap.objs.size->s.heap.get? b=some o->h.get? b=some o)) E)
    F.called_set.init.plain F.entry_set_init (check_set_init_1 hT ?_)) λr2 U g=>?_
   ·obtain⟨ob,z,G,nl,C⟩:=hl;obtain⟨c1,d1,dt1,J⟩:=ob;simp only at G C;subst G;subst C;have y:n.get? l=some {cls:=.type "list",dict:=d1,data:=.seq f nl,slots:=J}:=by rw[←H];exact We _ z
    have p:n.objs.size=s.heap.objs.size+1:=by rw[←H,QP]
    have no1:=F.sub_list_set;have no2:=F.sub_list_frozenset;have no3:(Value.type "list" == Value.type "dict")=false:=by decide
    have L1:n.IsList l f:=⟨_,y,rfl,nl,rfl⟩;unfold Builtin.«set.__init__» noKeywords Builtin.Frozenset.updateFrom;generalize eP:pyIter=PI
    wp_walk
    subst eP;refine wpAny_pyIter_list L1 (Wb<|wpAny_runValue ?_);have u:l<s.heap.objs.size:=Wh z;have N:A.in1.in1.in1.handled=none:=by simp[hh]
    have M:l≠n.objs.size:=by rw[p];exact Ww (QV u)
    have L:s.heap.objs.size∉[n.objs.size,l]:=by
     rw[p];simp only[Wo,QA,or_false,not_or];exact⟨Ww (Vb _),Vj u⟩
    have W0:=Walks.list (prog:=prog) (w:=w) N n.objs.size l M f;rw[hn]at W0;refine G8 (ns:=ns) W0 s.heap.objs.size L (λi v hv=>IntsAre.int_at hi i v (by rw[Qc];exact hv)) room (ns.length-0) 0 _ [] rfl (Qd _) ⟨⟨_,Wn _ rfl,rfl,rfl⟩,L1.push _⟩ ?_ (Qd _) λh q keep B=>?_
    ·exact⟨#[],0,_,⟨_,We _ g1,⟨rfl,rfl,rfl⟩,rfl⟩,λe he=>by simp at he,by simp,List.nodup_nil,by show(0:Nat)<4096;decide,rfl,Tb.fresh _⟩
    ·show wpAny _ _ _ _ _ _;refine Wg (show wpAny _ _ (ret Value.none) _ _ _ from Wg ⟨rfl,h,q,rfl,B,λb o hb e=>?_⟩)
     refine keep b o ?_ (We _<|by rw[←H];exact We _ e);rw[p];simp only[Wo,QA,or_false,not_or];exact⟨Ww hb,Ww (QV hb)⟩
   ·cases r2 with
    |error e=>exact g
    |ok f2=>
     cases f2 with
     |next=>exact g.elim
     |brk=>exact g.elim
     |cont=>exact g.elim
     |ret r=>
      obtain⟨rfl,h,q,rfl,B,keep⟩:=g
      repeat (any_goals (first|assumption|wp_step))
      exact T _ _ B keep
end
def si_slot:Slot "set_iterator" "__next__" "set_iterator.__next__":=
 Slot.of (owner:="set_iterator") (n:="__next__") (by rw[typeLookup_type,builtinLookup_eq_fast];kernel_rfl) (by decide +kernel) (by decide +kernel) (by decide +kernel)
  (by first|exact Or.inl (by decide +kernel)|exact Or.inr (by decide +kernel)) (by rw[isSubtype_type];kernel_rfl)
def Hc:entryFor table "set_iterator.__next__"=some Builtin.«set_iterator.__next__»:=entryFor_of_tree rfl
def Za7(a:Value):argsOk "set_iterator.__next__" ⟨[a],[]⟩:=by trivial
def OA:entryFor table "set.__iter__"=some Builtin.«frozenset.__iter__»:=entryFor_alias (id':="frozenset.__iter__") (by kernel_rfl) rfl (by decide +kernel) (by kernel_rfl)
def Dw:Slot "set_iterator" "__iter__" "set_iterator.__iter__":=
 Slot.of (owner:="set_iterator") (n:="__iter__") (by rw[typeLookup_type,builtinLookup_eq_fast];kernel_rfl) (by decide +kernel) (by decide +kernel) (by decide +kernel)
  (by first|exact Or.inl (by decide +kernel)|exact Or.inr (by decide +kernel)) (by rw[isSubtype_type];kernel_rfl)
def Zaa:entryFor table "set_iterator.__iter__"=some Builtin.«dict_keyiterator.__iter__»:=entryFor_alias (id':="dict_keyiterator.__iter__") (by kernel_rfl) rfl (by decide +kernel) (by kernel_rfl)
def GM(a:Value):argsOk "set_iterator.__iter__" ⟨[a],[]⟩:=by unfold argsOk;kernel_rfl
def SI(h:Heap)(I a:Addr)(first:Value)(i n f:Nat):Prop:=∃o,h.get? I=some o/\o.cls=.type "set_iterator"/\o.data=.fields #[first,.int i 0,.ref a,.int n 0,.int f 0]
section
variable {prog:Program}{w:World}{A:Around}{E:Yi}{s:Shared}{I a:Addr}{first:Value}{i n ep:Nat}{js:Yf}{es:Yt}{t:SetTable}
def SI.typ (h:SI s.heap I a first i n ep):s.TypeIs (.ref I) "set_iterator":=let ⟨o,f,g,_⟩:=h;⟨o,f,g⟩
def SI.at (x:SI h I a first i n ep) (k:∀o,h.get? I=some o->g.get? I=some o):SI g I a first i n ep:=let ⟨o,f,r⟩:=x;⟨o,k o f,r⟩
noncomputable def PQ(first:Value)(a I:Addr)(i ep:Int):Sem PySem.Fin:=
 match first with
 |Value.int slot _=>do
  match ←setNext a slot.toNat i.toNat ep.toNat with
  |some (x,next)=>
   setField (.ref I) 0 (rawInt next)
   setField (.ref I) 1 (rawInt (i+1))
   ret x
  |none=>
   setField (.ref I) 2 .none
   raiseNew (←newExc (.type "StopIteration") [])
 |_=>do
  let some places ←seqItems? first|unsupported "internal:set_iterator"
  match places[i.toNat]? with
  |some (.int place _)=>
   let x ←setNextDrawn a place.toNat ep.toNat
   setField (.ref I) 1 (rawInt (i+1))
   ret x
  |some _=>unsupported "internal:set_iterator"
  |none=>
   setField (.ref I) 0 (rawInt 0)
   setField (.ref I) 2 .none
   raiseNew (←newExc (.type "StopIteration") [])
def Nq(f:SI s.heap I a first i es.size ep)(S:U9 w s.heap a js es ep t)
  (body:wpAny (model prog w) A.in1 (PQ first a I i ep) (λp l=>∃v,p=.done (.ret v)/\Q (some v) l)
   (λe l=>wpAny (model prog w) A (isInstance e<|.type "StopIteration") (λb g=>b=true/\Q none g) E l) s) :
  wpAny (model prog w) A (pyNext<|.ref I) Q E s:=by
 obtain⟨o,x,G,y⟩:=id f;obtain⟨C,r,hx,u⟩:=S.obj;refine Wb (wpAny_attempt<|wpAny_callSpecial?_slot f.typ si_slot<|QB si_slot f.typ Hc ?_<|Za7 _);refine Wb (Wg<|Wb<|wpAny_fieldsOf x y ?_);refine Wb (wpAny_setEntries_of r u S.fit ?_);rw[Wl (by simp)];refine WA body (λp l h=>?_) λe l h=>?_
 ·obtain⟨v,e,q⟩:=h;exact⟨v,e,Wg q⟩
 ·refine Wb (WA h (λb g B=>?_) λ_ _ z=>z);obtain⟨rfl,q⟩:=B;exact Wg q
def Cb{Q:Yp->Shared->Prop}{o}{vs}(q:A.handled=none)(p:s.heap.get? I=some o)(r:o.data=.fields vs)(u:2<vs.size)(g:∀h,Heap.ExtBut I s.heap h->Q none {s with heap:=h}){R:PySem.Fin->Shared->Prop} :
  wpAny (model prog w) A.in1 (do setField (.ref I) 2 .none;raiseNew (←newExc (.type "StopIteration") [])) R (λe l=>wpAny (model prog w) A (isInstance e<|.type "StopIteration") (λb f=>b=true/\Q none f) E l) s:=by
 refine Wb (Qv p r u<|Wb ?_);refine Wb (Qa ?_<|by size_fits);refine Wb (wpAny_of_eq (by first|rfl|(simp only[firstArgMember];rfl))<|Qa ?_<|by size_fits)
 simp only[raiseNew];refine Wb (wpAny_handled ?_);rw[q];refine Wb (Wg<|wpAny_throw ?_);refine wpAny_isInstance ⟨_,Wn _ rfl,rfl⟩ isSubtype_stop ?_;exact⟨rfl,g _ (((Qb ..).extBut.push _).push _)⟩
def SI.step1 {x:Value} (g:s.heap.get? I=some o) (h:o.cls=.type "set_iterator") (f:o.data=.fields #[first,.int i 0,.ref a,.int n 0,.int ep 0]) :
  SI (s.heap.update I<|Obj.mapFields (·.setIfInBounds 1 (rawInt ((i:Int)+1)))) I a first (i+1) n ep:=
 ⟨_,WQ _ g (Qp<|WX f _),(Obj.cls_mapFields ..).trans h,by rw[WX f];simp[rawInt]⟩
def Nm(h:Q (Xk w) s):wpAny (model prog w) A setsByText Q E s:=Wb (wpAny_askSetting<|Wg h)
def Zbe(S:U9 w s.heap a js es ep t)(l:Xk w=true)(h:Q (((pickOrder (w.params.setOrder a ep) es)[i]?).map λe=>(e.2,slot)) s) :
  wpAny (model prog w) A (setNext a slot i ep) Q E s:=by
 obtain⟨o,f,hx,g⟩:=S.obj;refine Wb (Qu f g S.fit<|Wb<|Nm ?_);rw[l,Wp rfl,Wl (by simp)];refine Wb ?_;refine Wb (Qu f g S.fit<|Wb<|Nm ?_);rw[l,Wp rfl];exact Wb (wpAny_askSetting<|Wg<|Wg h)
def Zay(S:U9 w s.heap a js es ep t)(l:Xk w=false)(o:(!t.plain&&decide (es.size>1))=false)(h:Q (match es[SetTable.below t.place slot]?,t.place[SetTable.below t.place slot]? with|some (_,x),some j=>some (x,j+1)|_,_=>none) s):wpAny (model prog w) A (setNext a slot i ep) Q E s:=by
 obtain⟨q,f,hx,g⟩:=S.obj;refine Wb (Qu f g S.fit<|Wb<|Nm ?_);rw[l,Wl (by decide)];show wpAny _ _ (if (!t.plain&&decide (es.size>1))=true then _ else _) _ _ _;rw[o,Wl (by decide)];refine Wb (?_:wpAny _ _ (if (!t.led && !es.isEmpty)=true then unsupported "set:maker-not-led" else pure ()) _ _ _);have p:t.led=true:=by rw[S.tab.led,l];rfl
 rw[p,Wl (by simp)];exact Wg (Wg h)
def MC{p e}(S:U9 w s.heap a js es ep t)(l:es[p]?=some e)(h:Q e.2 s):wpAny (model prog w) A (setNextDrawn a p ep) Q E s:=by
 obtain⟨o,f,hx,g⟩:=S.obj;refine Wb (Qu f g S.fit ?_)
 dsimp only
 rw[Wl (by simp),l];exact Wg h
def Ls{m}(f:m≠0)(h:∀k d,k<m->Q k {s with drawn:=d}):wpAny (model prog w) A (choose g m) Q E s:=by
 intro Γ p l;exact⟨f,h _ _ (Nat.mod_lt _<|Nat.pos_of_ne_zero f)⟩
theorem T9{f:Type}:∀(xs:List f) k h,(xs[k]::xs.eraseIdx k).Perm xs
 |x::r,0,_=>List.Perm.refl _
 |x::r,k+1,h=>by
  have g:k<r.length:=by grind
  exact(List.Perm.swap _ _ _).trans (List.Perm.cons _<|T9 r k g)
def RB:∀m xs s {Q:List u->Shared->Prop},xs.length=m->(∀f d,f.Perm xs->Q f {s with drawn:=d})->wpAny (model prog w) A (drawOrder m xs) Q E s:=by
 intro m
 induction m with
 |zero=>
  intro xs s Q g h;have e:=List.length_eq_zero_iff.mp g;subst e;exact Wg (h [] s.drawn<|List.Perm.refl _)
 |succ m o=>
  intro xs s Q g h;cases xs with
  |nil=>grind
  |cons x r=>
   unfold drawOrder;refine Wb (Ls (by simp) λk d l=>?_);rw[Wc l];refine Wb (o _ _ (by grind) λf q p=>Wg ?_);exact h _ q ((List.Perm.cons _ p).trans (T9 _ _ l))
def U9.keep (S:U9 w h a js es ep t) (k:∀o,h.get? a=some o->p.get? a=some o):U9 w p a js es ep t:=by
 obtain⟨⟨o,l,r⟩,b,c,d,e,f,g⟩:=S;exact⟨⟨o,k o l,r⟩,b,c,d,e,f,g⟩
def Av(f:SI s.heap I a first i n ep)(h:Q (.ref I) s):wpAny (model prog w) A (pyIter<|.ref I) Q E s:=by
 refine wpAny_pyIter_slot f.typ Dw (QB Dw f.typ Zaa ?_<|GM _);exact Wg ⟨_,rfl, "set_iterator",_,f.typ,si_slot.lookup,h⟩
def Cq(hh:A.handled=none)(I a:Addr)(hne:a≠I)(vs:Yl)(hl:vs.length=es.size)(sl:Nat->Nat)(nx:∀A E s i Q,i<=es.size->U9 w s.heap a js es ep t->Q ((vs[i]?).map λv=>(v,sl (i+1))) s->wpAny (model prog w) A (setNext a (sl i) i ep) Q E s) :
  Walks prog w A I [I,a] [I] es.size (λi v=>vs[i]?=some v) (λi h=>SI h I a (.int (sl i) 0) i es.size ep/\U9 w h a js es ep t) where
 sub:=λb hb=>by simp at hb;simp[hb]
 frame:=λ_ _ _ st k=>⟨st.1.at λo e=>k I (by simp) o e,st.2.keep λo e=>k a (by simp) o e⟩
 item:=λi s Q E hi st fin=>by
  obtain⟨o,ho,hc,hd⟩:=id st.1;refine Nq st.1 st.2 ?_;unfold PQ
  dsimp only
  rw[WD,WD,WD];refine Wb (nx _ _ s i _ (QI hi) st.2 ?_);have hi2:i<vs.length:=by lia
  rw[Wc hi2];refine Wb (Qv ho hd (by simp) ?_);have g1:=WQ (Obj.mapFields (·.setIfInBounds 0 (rawInt (sl (i+1):Int)))) ho (Qp<|WX hd _);have d1:(Obj.mapFields (·.setIfInBounds 0 (rawInt (sl (i+1):Int))) o).data=.fields #[.int (sl (i+1)) 0,.int i 0,.ref a,.int es.size 0,.int ep 0]:=by rw[WX hd];simp[rawInt]
  refine Wb (Qv g1 d1 (by simp) ?_);have sb:=(Qb s.heap I<|Obj.mapFields (·.setIfInBounds 0 (rawInt (sl (i+1):Int)))).trans (Qb _ I<|Obj.mapFields (·.setIfInBounds 1 (rawInt ((i:Int)+1))));refine Wg ⟨_,rfl,fin vs[i] _ s.toks (Wc hi2) ⟨?_,st.2.keep λo e=>sb.extBut a o hne e⟩ λb o hb e=>sb.extBut b o (λz=>hb (by simp[z])) e⟩;exact SI.step1 (x:=.none) g1 ((Obj.cls_mapFields ..).trans hc) d1
 done:=λs Q E st fin=>by
  obtain⟨o,ho,hc,hd⟩:=id st.1;refine Nq st.1 st.2 ?_;unfold PQ
  dsimp only
  rw[WD,WD,WD];refine Wb (nx _ _ s es.size _ (Wk _) st.2 ?_);rw[Q6 (by lia)];exact Cb hh ho hd (by simp) λh' eb=>fin h' s.toks λb o hb e=>eb b o (λz=>hb (by simp[z])) e
 self:=λ_ _ _ _ st fin=>Av st.1 fin
def IB(hh:A.handled=none)(I a T:Addr)(hne:a≠I)(hT:T≠I)(ps:Yk)(hl:ps.length=es.size)(hps:∀p∈ps,p<es.size)(vs:Yl)(hvs:vs=ps.map λp=>((es[p]?).map (·.2)).getD .none) :
  Walks prog w A I [I,a,T] [I] es.size (λi v=>vs[i]?=some v) (λi h=>SI h I a (.ref T) i es.size ep/\U9 w h a js es ep t/\∃o,h.get? T=some o/\∃c,o.data=.seq (ps.map λ(p:Nat)=>rawInt p).toArray c) where
 sub:=λb hb=>by simp at hb;simp[hb]
 frame:=λ_ _ _ st k=>⟨st.1.at λo e=>k I (by simp) o e,st.2.1.keep λo e=>k a (by simp) o e,let ⟨o,ho,c⟩:=st.2.2;⟨o,k T (by simp) o ho,c⟩⟩
 item:=λi s Q E hi st fin=>by
  obtain⟨o,ho,hc,hd⟩:=id st.1;obtain⟨oT,hoT,c,hdT⟩:=st.2.2;refine Nq st.1 st.2.1 ?_;unfold PQ
  dsimp only
  refine Wb (wpAny_seqItems hoT hdT ?_);have hi2:i<ps.length:=by lia
  have e1:(ps.map λ(p:Nat)=>rawInt p).toArray[(i:Int).toNat]?=some (.int ps[i] 0):=by
   rw[WD,List.getElem?_toArray,Ws,Wc hi2];rfl
  have hp:=hps _ (WB hi2)
  dsimp only
  rw[e1]
  dsimp only
  have e3:vs[i]?=some (es[ps[i]]).2:=by rw[hvs,Ws,Wc hi2];simp[hp]
  refine Wb (MC st.2.1 (WN hp)<|Wb<|Qv ho hd (by simp) ?_);have sb:=Qb s.heap I (Obj.mapFields (·.setIfInBounds 1 (rawInt ((i:Int)+1))));exact Wg ⟨_,rfl,fin _ _ s.toks e3 ⟨SI.step1 (x:=.none) ho hc hd,st.2.1.keep λo e=>sb.extBut a o hne e,oT,sb.extBut T oT hT hoT,c,hdT⟩ λb o hb e=>sb.extBut b o (λz=>hb (by simp[z])) e⟩
 done:=λs Q E st fin=>by
  obtain⟨o,ho,hc,hd⟩:=id st.1;obtain⟨oT,hoT,c,hdT⟩:=st.2.2;refine Nq st.1 st.2.1 ?_;unfold PQ
  dsimp only
  refine Wb (wpAny_seqItems hoT hdT ?_)
  have e1:(ps.map λ(p:Nat)=>rawInt p).toArray[(es.size:Int).toNat]?=none:=by
   rw[WD,List.getElem?_toArray,Ws,Q6 (by lia)];rfl
  dsimp only
  rw[e1]
  dsimp only
  refine Wb (Qv ho hd (by simp) ?_);refine Cb (s:={s with heap:=_}) hh (WQ (Obj.mapFields (·.setIfInBounds 0 (rawInt 0))) ho<|Qp<|WX hd _) (WX hd _) (by simp) λh' eb=>fin h' s.toks λb o hb e=>eb b o (λz=>hb (by simp[z])) ((Qb s.heap I<|Obj.mapFields (·.setIfInBounds 0 (rawInt 0))).extBut b o (λz=>hb (by simp[z])) e)
 self:=λ_ _ _ _ st fin=>Av st.1 fin
def Zag(nx:Nat->Nat):∀m k left (f:Array o),left.length=m->(pickOrder.go nx m k left f).toList.Perm (f.toList++left):=by
 intro m
 induction m with
 |zero=>
  intro k left f h;have e:=List.length_eq_zero_iff.mp h;subst e;show f.toList.Perm (f.toList++[]);simp
 |succ m l=>
  intro k left f h;have g:nx k % left.length<left.length:=Nat.mod_lt _ (by lia);unfold pickOrder.go;rw[Wc g];refine(l _ _ _<|by grind).trans ?_;rw[Array.toList_push,QW];exact(T9 left _ g).append_left _
def Cj(nx:Nat->Nat)(xs:Array f):(pickOrder nx xs).toList.Perm xs.toList:=by
 have:=Zag nx xs.size 0 xs.toList #[] rfl
 simpa [pickOrder]using this
noncomputable def slotAt(t:SetTable)(i:Nat):Nat:=if i=0 then 0 else t.place.getD (i-1) 0+1
def G1(h:t.fits m=true):t.place.size=m:=by
 simp only[SetTable.fits,W2,beq_iff_eq]at h
 grind
def Zbw(S:U9 w s.heap a js es ep t){i}(o:i<=es.size):SetTable.below t.place (slotAt t i)=i:=by
 have h:=G1 S.fit;have R:=S.tab.ris.ris;refine RC R (by lia) (λk l=>?_) λk p f=>?_
 ·unfold slotAt;rw[Wl (by lia)];by_cases e:k=i-1
  ·rw[e];lia
  ·have:=R k (i-1) (by lia) (by lia)
   lia
 ·unfold slotAt;by_cases g:i=0
  ·grind
  ·rw[Wl g]
   have:=R (i-1) k (by lia) f
   lia
def Ml{A'}(M:A'.handled=none)(S:U9 w s.heap a js es ep t)
  (l:∀I fp (vs:Yl) St N d1,Walks prog w A' I fp [I] es.size (λi v=>vs[i]?=some v) St->St 0 N->(∀b∈fp,b=a\/s.heap.get? b=none)->vs.length=es.size->vs.Perm (es.toList.map (·.2))->
   s.heap.get? I=none->(∀b o,s.heap.get? b=some o->N.get? b=some o)->Q (.ref I) {s with heap:=N,drawn:=d1}) :
  wpAny (model prog w) A (pyIter<|.ref a) Q E s:=by
 obtain⟨ob,g,hx,h⟩:=S.obj;have hT:s.TypeIs (.ref a) "set":=⟨ob,g,hx.1⟩;have ha:=Wh g
 have new:∀b,s.heap.objs.size<=b->s.heap.get? b=none:=λb f=>by
  cases e:s.heap.get? b with
  |none=>rfl
  |some o=>exact absurd (Wh e) (QS.mpr f)
 refine wpAny_pyIter_slot hT F.slot_set_iter (QB F.slot_set_iter hT OA ?_<|F.args_set_iter_1 _);unfold Builtin.«frozenset.__iter__»;show wpAny _ _ (Builtin.Frozenset.sizeOf a >>= _) _ _ s;unfold Builtin.Frozenset.sizeOf;refine Wb (Wb<|wpAny_setEntries_of g h S.fit<|Wg ?_);refine Wb ?_;unfold setDrawn;refine Wb (Qu g h S.fit<|Wb<|Nm<|Wg ?_)
 dsimp only
 change wpAny _ _ (if (!Xk w&&(!t.plain&&decide (es.size>1)))=true then _ else _) _ _ _;cases hd:(!Xk w&&(!t.plain&&decide (es.size>1)))with
 |false=>
  rw[Wl (by decide)];refine Wb (Wg<|Wb<|wpAny_setEpoch_of g h S.fit<|Wb<|Qa<|Wg ⟨_,rfl, "set_iterator",_,⟨_,Wn _ rfl,rfl⟩,si_slot.lookup,?_⟩);have B:=Ww ha;have S1:U9 w (s.heap.push {cls:=.type "set_iterator",data:=.fields [rawInt 0,rawInt 0,.ref a,rawInt es.size,rawInt ep].toArray}) a js es ep t:=S.keep λo e=>We _ e
  have lt:∀b∈[s.heap.objs.size,a],b=a\/s.heap.get? b=none:=λb f=>by
   rcases Wo.mp f with rfl|f
   ·exact .inr (new _<|Wk _)
   ·exact .inl (Wf.mp f)
  cases f:Xk w with
  |true=>
   have u:((pickOrder (w.params.setOrder a ep) es).toList.map (·.2)).length=es.size:=by
    rw[Wd,(Cj _ _).length_eq];simp
   refine l _ _ _ _ _ s.drawn (Cq M s.heap.objs.size a B ((pickOrder (w.params.setOrder a ep) es).toList.map (·.2)) u (λ_=>0) λA E s i Q hi G q=>Zbe G f ?_) ⟨⟨_,Wn _ rfl,rfl,rfl⟩,S1⟩ lt u ((Cj _ _).map _) (new _<|Wk _) λb o e=>We _ e;rw[Ws]at q;rw[←Qc];cases e:(pickOrder (w.params.setOrder a ep) es).toList[i]? with
   |none=>rw[e]at q;exact q
   |some x=>rw[e]at q;exact q
  |false=>
   have y:(!t.plain&&decide (es.size>1))=false:=by rw[f]at hd;simpa using hd
   refine l _ _ _ _ _ s.drawn (Cq M s.heap.objs.size a B (es.toList.map (·.2)) (by simp) (slotAt t) λA E s i Q hi G q=>Zay G f y ?_) ⟨⟨_,Wn _ rfl,rfl,rfl⟩,S1⟩ lt (by simp) (List.Perm.refl _) (new _<|Wk _) λb o e=>We _ e;rw[Zbw G hi];have hz:=G1 G.fit;rw[Ws]at q;by_cases L:i<es.size
   ·have C:=WN L;have e2:t.place[i]?=some t.place[i]:=WN (by lia);have U:es.toList[i]?=some es[i]:=by rw[Qc];exact C
    rw[U]at q;rw[C,e2]
    have e4:slotAt t (i+1)=t.place[i]+1:=by
     unfold slotAt;rw[Wl (by lia)]
     have:i<t.place.size:=by lia
     simp[Array.getD,this]
    have Y:=q;rw[e4]at Y;exact Y
   ·have C:es[i]?=none:=QX (by lia);have U:es.toList[i]?=none:=by rw[Qc];exact C
    rw[U]at q;rwa[C]
 |true=>
  rw[Wp rfl];refine Wb (RB _ _ s (by simp) λr d y=>?_);have u:r.length=es.size:=by rw[y.length_eq];simp
  have J:∀p∈r,p<es.size:=λp hm=>Q4.mp (y.mem_iff.mp hm);refine Wb (Qa ?_<|by show(r.map λ(i:Nat)=>rawInt i).toArray.size<=sizeLine;rw[W4,Wd,u];exact QU S.few);have z:=We {cls:=.type "tuple",data:=.seq (r.map λ(i:Nat)=>rawInt i).toArray} g;refine Wb (wpAny_setEpoch_of z h S.fit<|Wb<|Qa<|Wg ⟨_,rfl, "set_iterator",_,⟨_,Wn _ rfl,rfl⟩,si_slot.lookup,?_⟩);have H:(s.heap.push {cls:=.type "tuple",data:=.seq (r.map λ(i:Nat)=>rawInt i).toArray}).objs.size=s.heap.objs.size+1:=QP ..
  have T:(List.range es.size).map (λp=>((es[p]?).map (·.2)).getD Value.none)=es.toList.map (·.2):=by
   apply List.ext_getElem?;intro k;by_cases hk:k<es.size
   ·simp[hk]
   ·have:es.size<=k:=by lia
    simp[this]
  refine l _ _ _ _ _ d (IB M _ a s.heap.objs.size ?_ ?_ r u J _ rfl) ⟨⟨_,Wn _ rfl,rfl,rfl⟩,S.keep λo e=>We _ (We _ e),_,We _ (Wn _ rfl),0,rfl⟩ (λb f=>?_) (by rw[Wd];exact u) ?_ (new _ ?_) λb o e=>We _ (We _ e)
  ·show a≠_;rw[H];exact Ww (QV ha)
  ·show s.heap.objs.size≠_;rw[H];exact Ww (Vb _)
  ·rcases Wo.mp f with rfl|f
   ·refine .inr (new _ ?_);show s.heap.objs.size<=_;rw[H];exact Q2 _
   ·rcases Wo.mp f with rfl|f
    ·exact .inl rfl
    ·rw[Wf.mp f];exact .inr (new _<|Wk _)
  ·rw[←T];exact y.map _
  ·show s.heap.objs.size<=_;rw[H];exact Q2 _
def Zbt(g:s.TypeIs (.ref a) "set")(h:Q false s):wpAny (model prog w) A (Builtin.List.listLengthHint<|.ref a) Q E s:=by
 refine Wb (wpAny_specialOf g F.slot_set_len.lookup ?_);generalize f:("set.__len__" : String)=z
 wp_delta
 have l:splitId z=some ("set","__len__"):=by subst f;decide +kernel
 rw[l];subst f;refine Wb (wpAny_isInstance (b:=true) g (by rw[isSubtype_type];kernel_rfl) (wpAny_ite_split (λz=>absurd z (by decide)) λ_=>?_));exact wpAny_ite_split (λ_=>Wb (wpAny_typeOf g<|Wg h)) λz=>absurd (by decide +kernel) z
def Ot(hh:A.handled=none)(S:U9 w s.heap a js es ep t)(D:Addr)(c:Nat)(g:Value)(Y:s.heap.get? D=some {cls:=.type "list",data:=.seq #[] c})(C:D≠a)(fin:∀h' L d (vs:Yl) x,vs.Perm (es.toList.map (·.2))->h'.get? D=some {cls:=.type "list",dict:=none,data:=.seq vs.toArray x,slots:=#[]}->(∀b o,b≠D->s.heap.get? b=some o->h'.get? b=some o)->R (.ok<|.ret g) {s with heap:=h',toks:=L,drawn:=d}) :
  wpAny (model prog w) A.in1 (Builtin.List.listExtendWith (.ref D) (.ref a) g) (λf u=>match f with | .done f=>R (.ok f) u | .again x=>x.quiet=true/\codeAny (model prog w) A x R u) (λe u=>R (.error e) u) s:=by
 obtain⟨ob,B,hx,hdd⟩:=S.obj;have hT:s.TypeIs (.ref a) "set":=⟨ob,B,hx.1⟩;unfold Builtin.List.listExtendWith;refine Wb (wpAny_typeOf hT ?_);have n1:Builtin.List.listSameRef (.ref D) (.ref a)=false:=by simp[Builtin.List.listSameRef,C]
 have n2:(Value.type "set" == Value.type "list")=false:=by decide
 have n3:(Value.type "set" == Value.type "tuple")=false:=by decide
 simp only[n1,n2,n3,Bool.or_false,Bool.false_eq_true,if_false];refine Wb (Ml (A':=A.in1) hh S λI fp vs St h1 d1 W N flt hl hp U keep=>?_);have hDI:D≠I:=λz=>by rw[←z,Y]at U;cases U
 have loop:∀h L c1,St 0 h->(∀b o,b≠D->s.heap.get? b=some o->h.get? b=some o)->h.get? D=some {cls:=.type "list",data:=.seq #[] c1}->D∉fp->
   codeAny (model prog w) A (.builtin "list.extend.loop" ⟨[.ref D,.ref I,g],[]⟩) R {s with heap:=h,toks:=L,drawn:=d1}:=λh L c1 st hk q p=>by
  refine codeAny_extend_loopS W.toS (QU S.few) D p g es.size 0 _ #[] c1 rfl (Qd _) st q (ItemsOf.nil _) λu v x M J r=>?_
  have ev:v.toList=vs:=by
   apply List.ext_getElem?;intro k;by_cases Q:k<v.size
   ·have e1:=WN Q;rw[Qc,e1];exact(r.2 k _ e1).symm
   ·rw[Qc,QX (by lia),Q6 (by have:=r.1;lia)]
  have e2:v=vs.toArray:=by rw[←ev]
  rw[e2]at J;rw[Moved.eq_with M];refine fin u.heap u.toks d1 vs x hp J λb o l e=>M.heap b o (λG=>?_) (hk b o l e);rcases Wo.mp G with z|z
  ·exact l z
  ·rw[Wf.mp z,U]at e;cases e
 have p:D∉fp:=λM=>by
  rcases flt D M with z|z
  ·exact C z
  ·rw[Y]at z;cases z
 have T:Shared.TypeIs {s with heap:=h1,drawn:=d1} (.ref a) "set":=⟨ob,keep _ _ B,hx.1⟩
 refine Wb (Va<|Zbt T ?_);have q:=keep _ _ Y;refine Wb (wpAny_rule<|Wb (?_:wpAny _ _ (updateSeq D (·.push .none) >>= λ_=>updateSeq D (·.pop)) _ _ _));refine Wb (wpAny_updateSeq q rfl ?_);have H:=WQ (Obj.mapSeq (·.push Value.none)) q rfl;refine wpAny_updateSeq H rfl ?_
 have y:∀b o,b≠D->h1.get? b=some o->((h1.update D<|Obj.mapSeq (·.push Value.none)).update D (Obj.mapSeq (·.pop))).get? b=some o:=λb o l e=>
  (WK _ _<|Ne.symm l).trans ((WK _ _<|Ne.symm l).trans e)
 exact Wg ⟨plainId_quiet F.plain_extend_loop _,loop _ _ _ (W.frame 0 _ _ N λb l o e=>y b o (λz=>p (z▸l)) e) (λb o l e=>y b o l (keep b o e)) (WQ (Obj.mapSeq (·.pop)) H rfl) p⟩
def Zce(G:A.handled=none)(S:U9 w s.heap a js es ep t)(u:∀g h d vs,vs.Perm (es.toList.map (·.2))->(∀b o,s.heap.get? b=some o->g.get? b=some o)->s.heap.objs.size<g.objs.size->R vs {s with heap:=g,toks:=h,drawn:=d}) :
  wpAny (model prog w) A (collect<|.ref a) R E s:=by
 obtain⟨Q,C,hx,H⟩:=S.obj;refine Wb (wpAny_runValue<|Qo entry_proto_collect' ?_);have M:=Q9 (A:=A) PySem.F.plain_proto_collect ⟨[.ref a],[]⟩;refine(Wb<|Qa<|Wg ⟨plainId_quiet PySem.F.plain_list_iadd _,Qo entry_list_iadd' ?_⟩);rw[(Q9 (A:=A) PySem.F.plain_list_iadd ⟨[.ref s.heap.objs.size,.ref a],[]⟩)];have J:(s.heap.push {cls:=.type "list",data:=.seq ([]:Yl).toArray}).get? s.heap.objs.size=some {cls:=.type "list",data:=.seq #[]}:=Wn _ rfl
 have B:=Ot (prog:=prog) (s:={s with heap:=s.heap.push {cls:=.type "list",data:=.seq ([]:Yl).toArray}})
  (R:=λq z=>∃g h d vs v,q=.ok (.ret<|.ref s.heap.objs.size)/\z={s with heap:=g,toks:=h,drawn:=d}/\vs.Perm (es.toList.map (·.2))/\(∀b o,s.heap.get? b=some o->g.get? b=some o)/\
   g.get? s.heap.objs.size=some {cls:=.type "list",dict:=none,data:=.seq vs.toArray v,slots:=#[]}) G (S.keep λo e=>We _ e) s.heap.objs.size 0 (.ref s.heap.objs.size) J (Vj<|Wh C)
  λg h d vs v p l r=>⟨g,h,d,vs,v,rfl,rfl,p,λb o e=>r b o (Ww<|Wh e) (We _ e),l⟩
 refine WA B (λf z x=>?_) λe z x=>?_
 ·cases f with
  |done f=>
   obtain⟨g,h,d,vs,v,e,rfl,p,r,l⟩:=x;cases e
   refine(Wb<|wpAny_load l<|Wg ?_);exact u g h d vs p r (Wh l)
  |again T=>
   refine⟨x.1,Ql x.2 λq N y=>?_⟩;obtain⟨g,h,d,vs,v,rfl,rfl,p,r,l⟩:=y;refine(Wb<|wpAny_load l<|Wg ?_);exact u g h d vs p r (Wh l)
 ·obtain⟨_,_,_,_,_,L,_⟩:=x;cases L
theorem Ed:∀{l:List (Int×Value)},(∀e∈l,Ent e)->IntsAre (l.map (·.2)) (l.map keyOf)
 |[],_=>.nil
 |e::r,h=>by
  obtain⟨k,t,rfl⟩:=h e Wz;exact .cons k t (Ed λx hx=>h x (Wr _ hx))
def GE{vs us}(p:vs.Perm us):∀{ns:Yf},IntsAre us ns->∃f,IntsAre vs f/\f.Perm ns:=by
 induction p with
 |cons x _ u=>
  intro ns h;cases h with
  |cons n t r=>
   obtain⟨f,z,v⟩:=u r;exact⟨n::f,.cons n t z,List.Perm.cons _ v⟩
 |swap x y l=>
  intro ns h;cases h with
  |cons n t r=>
   cases r with
   |cons g o q=>exact⟨g::n::_,.cons g o (.cons n t q),List.Perm.swap _ _ _⟩
 |_=>grind
def Oz(L:A.handled=none)(B:SetB w s.heap a js)(x:js.length<64)
  (C:∀l y u d f ns e,IntsAre f ns->ns.Perm js->ns.Pairwise (·<=·)->s.heap.get? l=none->s.heap.objs.size<=l->y.get? l=some {cls:=.type "list",data:=.seq f.toArray e}->
   (∀b o,s.heap.get? b=some o->y.get? b=some o)->Q (.ref l) {s with heap:=y,toks:=u,drawn:=d}) :
  wpAny (model prog w) A (call (.builtin "sorted") [.ref a]) Q E s:=by
 obtain⟨es,ep,t,S⟩:=B;refine Calls.call_function_entry kind_sorted plain_sorted entry_sorted (args_sorted1 _) ?_;refine Wb (Wg<|Wb (Zce L S λp u d r H keep big=>?_));obtain⟨N,G,v⟩:=GE H (Ed S.ent);have g:=v.trans S.per;have J:r.length<64:=by rw[IntsAre.length G,g.length_eq];exact x
 refine Wb (wpAny_newList ?_<|by have:(64:Nat)<=sizeLine:=(by decide);lia);have z:(p.push<|seqObj "list" r.toArray 0).get? p.objs.size=some (seqObj "list" r.toArray 0):=Wn _ rfl;refine Wb (Va<|QB slot_list_sort ⟨_,z,rfl⟩ entry_list_sort (list_sort_tree z G J λf ns a1 a2 a3=>⟨_,rfl,?_⟩)<|args_list_sort _);obtain⟨e,M⟩:=sortedHeap_at z;refine Wg ⟨_,rfl,C p.objs.size _ u d f.toList ns e a1 (a2.trans g) a3 ?_ (QI big) (by simpa [seqObj]using M) λb o q=>?_⟩
 ·cases q:s.heap.get? p.objs.size with
  |none=>rfl
  |some o=>exact absurd (Wh<|keep _ _ q) (Qf _)
 ·have h:=Wh (keep b o q);rw[sortedHeap_old (Ww h) (by rw[size_push'];exact QV h)];exact We _ (keep b o q)
end
end SetR
namespace Own
open L2
noncomputable def K0(w:World)(l:Addr)(f:Yf):HO:=.ext λh=>SetR.SetB w h l f
section
variable {X:Cx}
def My{w H h l f}(B:SetR.SetB w h l f):ObjOk P w H h l (K0 w l f):=by
 refine⟨B,?_,λq p g k=>g.at k⟩;obtain⟨r,s,t,S⟩:=B;obtain⟨o,n,_⟩:=S.obj
 grind
def RS(y:X.calm=true):UV X (.type "set") (λxs H Q=>∃(p:Addr) (ns:Yf),xs=[.ref p]/\SqL X.K H p (ns.map V.int)/\ns.length+1<4096/\∀l,H l=none->Q (.ref l) (upd H l<|K0 X.w l<|ns.foldl SetR.U6 [])):=by
 intro pins s A H xs C Q I f h;obtain⟨p,ns,rfl,z,x,q⟩:=h;obtain⟨u,rfl,g⟩:=f.one;obtain rfl:=g;obtain⟨v,r,n,_⟩:=I.list z;refine SetR.Mw (I.ok.hd y) n.isList (by simpa using ET r) x λG E B keep=>?_;exact⟨.ref s.heap.objs.size,upd H s.heap.objs.size (K0 X.w s.heap.objs.size _),I.laid (λb o e=>keep b o (Wh e) e) (Wk _) (My B),rfl,q _ (I.hok.fresh<|Wk _)⟩
def AI(N:X.calm=true):UV X (.builtin "sorted") (λxs H Q=>∃p g,xs=[.ref p]/\g.length<64/\(SqL X.K H p (g.map V.int)\/H p=some (K0 X.w p g))/\
  ∀l (ns:Yf),H l=none->ns.Perm g->ns.Pairwise (·<=·)->Q (.ref l) (upd H l<|.lst<|ns.map V.int)):=by
 intro pins s U H xs Y Q I G h;obtain⟨p,g,rfl,A,v,q⟩:=h;obtain⟨u,rfl,J⟩:=G.one;obtain rfl:=J
 have big:∀{ns:Yf},ns.Perm g->(ns.map V.int).length<=sizeLine:=λM=>by
  rw[Wd,M.length_eq]
  have:(64:Nat)<=sizeLine:=by decide
  lia
 rcases v with v|v
 ·obtain⟨n,r,L,_⟩:=I.list v;have E:IntsAre n g:=by simpa using ET r
  refine sorted_ints L.isList E (by rw[IntsAre.length E];exact A) λf ns a1 a2 a3=>?_;obtain⟨e,C⟩:=sortedAll_at s.heap n f;have x:=I.hok.fresh (Q2 _);refine⟨.ref (s.heap.objs.size+1),upd H (s.heap.objs.size+1) (.lst<|ns.map V.int),I.laid (λb o e=>sortedAll_old e) (Q2 _) ⟨big a2,f.toList,e,T6 a1,?_⟩,rfl,q _ ns x a2 a3⟩;omega
 ·have B:=(I.hok p _ v).1;refine SetR.Oz (I.ok.hd N) B A λl T tk d f ns e a1 a2 a3 nl y C keep=>?_;have x:=I.hok.fresh y;refine⟨.ref l,upd H l (.lst<|ns.map V.int),?_,rfl,q l ns x a2 a3⟩;have ok:HOk X.prog X.w (upd H l<|.lst<|ns.map V.int) T:=I.hok.laid keep y ⟨big a2,f,e,T6 a1,C⟩;exact I.call (ch:=[]) (Un.laid keep y x) ok I.bare (λb z=>absurd z (by simp))
end
section
variable {X:Cx}{K:Yd}
def OS(f:autoParam (X.K=K) au_0):IxR X (λx y H Q=>Th K x y H Q\/P6 K x y H Q):=by subst f;exact SY
def Lh(f:autoParam (X.K=K) au_0):UV X (.builtin "len") (λxs H Q=>∃x n,xs=[x]/\Nc K x H n/\Q (.int n) H):=by subst f;exact Bi
def Zbc(f:autoParam (X.K=K) au_0):OpR X (compareOp .In) (rIn K false):=by subst f;exact Es
def FY{pos es k t n}(l:X.calm=true)(h:PGs X es t)(o:autoParam (X.K=K) au_0)(g:autoParam ((assignEach es X.env).length=n) au_0)(f:autoParam ((assignEach es X.env).findIdx? (·.1)=none) au_0):PG X (.Tuple es k pos) (NX K n t):=by subst o;exact Zap l h g f
end
section
variable {α:Type}{R:Hp->V->α->Prop}{φ:Yj}{g:TG}{tc:TT}{te:TE}{σ:L2.St}{H1:Hp}{F:Hp->Prop}{D:Addr}
def Ht{K a xs}{ds:List α}(f:α->Option V)(v:SqL K H1 a xs)(E:xs.length=ds.length)(G:H1 D=none)(J:ds.length<=sizeLine)(turn:∀(i:Nat) x d l,xs[i]?=some x->ds[i]?=some d->Same H1 l->∀k:Option V->Hp->Prop,k (f d) l->g x (atStart φ σ) l λh w=>Sub (atStart φ σ) h/\tc h w λb r=>if b=true then te h r λy u=>k (some y) u else k none r)(done:F (upd H1 D<|.lst<|ds.filterMap f)) :
  ∃W:Nat->Nat->List V->Hp->Prop,(∃m,W 0 m [] (upd H1 D<|.lst []))/\
   ∀i m q l,W i m q l->((Itl K a).stop i l/\F l)\/((Itl K a).go i l/\∀x z,(Itl K a).yld i l x z->g x (atStart φ σ) z λh w=>Sub (atStart φ σ) h/\tc h w λb r=>
    if b=true then te h r λy u=>u D=some (.lst q)/\q.length<sizeLine/\∃n,n<m/\W (i+1) n (q++[y]) (upd u D<|.lst (q++[y]))else ∃n,n<m/\W (i+1) n q r):=by
 refine⟨λi m q l=>m=ds.length-i/\i<=ds.length/\q=(ds.take i).filterMap f/\l=upd H1 D (.lst q),⟨ds.length,by simp,Qd _,by simp,rfl⟩,?_⟩;rintro i m q l ⟨rfl,L,rfl,rfl⟩;have s:Same H1 (upd H1 D<|.lst ((ds.take i).filterMap f)):=UI G;by_cases p:i<ds.length
 ·refine .inr ⟨⟨xs,xs[i]'(by lia),s.seq v,by simp[E,p]⟩,λx z y=>?_⟩;obtain⟨e,y⟩:=y;subst e
  refine turn i x ds[i] _ (y xs<|s.seq v) (Wc p) s (λo A=>match o with
   |some y=>A D=some (.lst ((ds.take i).filterMap f))/\((ds.take i).filterMap f).length<sizeLine/\∃n,n<ds.length-i/\(n=ds.length-(i+1)/\i+1<=ds.length/\(ds.take i).filterMap f++[y]=(ds.take (i+1)).filterMap f/\upd A D (.lst ((ds.take i).filterMap f++[y]))=upd H1 D (.lst ((ds.take i).filterMap f++[y])))
   |none=>∃n,n<ds.length-i/\(n=ds.length-(i+1)/\i+1<=ds.length/\(ds.take i).filterMap f=(ds.take (i+1)).filterMap f/\A=upd H1 D (.lst ((ds.take i).filterMap f)))) ?_
  have B:=WT p;cases C:f ds[i]with
  |some y=>
   refine⟨Ur,?_,ds.length-(i+1),by lia,rfl,p,?_,Za3⟩
   ·have H:=List.length_filterMap_le f (ds.take i);rw[Qj]at H;lia
   ·rw[B,Q7];simp[C]
  |none=>
   refine⟨ds.length-(i+1),by lia,rfl,p,?_,rfl⟩;rw[B,Q7];simp[C]
 ·have e:i=ds.length:=by lia
  subst e;refine .inl ⟨⟨xs,s.seq v,by lia⟩,?_⟩;rwa[QC]
end
noncomputable def eqL(xs f:List V):Bool:=decide (xs.length=f.length)&&(List.range xs.length).all λj=>eqV (xs.getD j .non) (f.getD j .non)
noncomputable def X8(K:Yd)(neg:Bool):R2:=λx y H Q=>∃(p q:Addr) (xs f:List V),x=.ref p/\y=.ref q/\SqL K H p xs/\SqL K H q f/\xs.all Xa=true/\f.all Xa=true/\Q (.bl (if neg then !eqL xs f else eqL xs f)) H
section
variable {X:Cx}
def Ck{xs f us g}(n:Vals xs us)(l:Vals f g)(f1:xs.all Xa=true)(x:f.all Xa=true)(j:Nat)(v:j<us.toArray.size)(r:j<g.toArray.size) :
  SeqAt.EqAt A s us.toArray[j] g.toArray[j] (eqV (xs.getD j .non)<|f.getD j .non):=by
 have G:=n.length;have E:=l.length;have J:j<us.length:=by simpa using v
 have H:j<g.length:=by simpa using r
 have p:xs[j]?=some (xs[j]'(by lia)):=Wc _;have o:f[j]?=some (f[j]'(by lia)):=Wc _;obtain⟨u,M,q⟩:=n.get p;obtain⟨w,L,h⟩:=l.get o;have z:us.toArray[j]=u:=by grind
 have y:g.toArray[j]=w:=by grind
 have C:xs.getD j .non=xs[j]'(by lia):=by rw[Wj,p];rfl
 have B:f.getD j .non=f[j]'(by lia):=by rw[Wj,o];rfl
 rw[z,y,C,B];exact E5 q h (W6.mp f1 _<|WB _) (W6.mp x _<|WB _)
def O6(r:X.A.units<cLine):OpR X (compareOp .Eq) (X8 X.K false):=by
 intro pins s J H x y v u Q I z w h;obtain⟨p,q,xs,f,rfl,rfl,B,hq,f1,G,k⟩:=h;obtain rfl:=z;obtain rfl:=w;obtain⟨M,l,n,_⟩:=I.list B;obtain⟨L,g,p2,_⟩:=I.list hq;have T:=l.length;have N:=g.length;have o:=k;by_cases e:xs.length=f.length
 ·refine SeqAt.eq_listAt n.isList p2.isList (by simp;lia) r (λj E C=>Ck l g f1 G j E C) ⟨.bl (eqL xs f),H,I,?_,o⟩;show _=Value.bool (eqL xs f);unfold eqL
  grind
 ·refine SeqAt.eq_list_lengthsAt n.isList p2.isList (by simp;lia) r ⟨.bl (eqL xs f),H,I,?_,o⟩;unfold eqL;rw[Wq e];rfl
def Ff(r:X.A.units<cLine):OpR X (compareOp .NotEq) (X8 X.K true):=by
 intro pins s J H x y v u Q I z w h;obtain⟨p,q,xs,f,rfl,rfl,B,hq,f1,G,k⟩:=h;obtain rfl:=z;obtain rfl:=w;obtain⟨M,l,n,_⟩:=I.list B;obtain⟨L,g,p2,_⟩:=I.list hq;have T:=l.length;have N:=g.length;have o:=k;by_cases e:xs.length=f.length
 ·refine SeqAt.RcNeAt.lists n.isList p2.isList (by simp;lia) r (λj E C=>Ck l g f1 G j E C) _ _ _ _ ⟨.bl (!eqL xs f),H,I,?_,o⟩;show _=Value.bool (!eqL xs f);unfold eqL
  grind
 ·refine SeqAt.RcNeAt.lists_lengths n.isList p2.isList (by simp;lia) r _ _ _ _ ⟨.bl (!eqL xs f),H,I,?_,o⟩;unfold eqL;rw[Wq e];rfl
def TK{xs:Yf}{us}(r:Vals (xs.map V.int) us)(z:Int):∀j g (f:j<xs.length),Value.isInt z us[j]=(xs[j]==z):=by
 intro j g f;obtain⟨u,h,t,rfl⟩:=r.get (by rw[Ws,Wc f];rfl);rw[Wc g]at h;rw[Wm h];rfl
def Al{xs:Yf}{us}(r:Vals (xs.map V.int) us)(z:Int)(t:Tok):∀y,y∈us.toArray->MeetsSeq.EqGives y (.int z t) (Value.isInt z y):=by
 intro y h;obtain⟨j,l,rfl⟩:=QD.mp (by simpa using h:y∈us);have g:=r.length;rw[Wd]at g;obtain⟨u,f,n,rfl⟩:=r.get (by rw[Ws,Wc (show j<xs.length by lia)];rfl);rw[Wc l]at f;rw[Wm f];exact MeetsSeq.EqGives.int _ _ _ _
def Bb(K:Yd):V->List V->Hp->VK->Prop:=λx f H Q=>∃(l:Addr) (xs:Yf) (z:Int),x=.ref l/\f=[.int z]/\SqL K H l (xs.map V.int)/\z∈xs/\Q (.int (xs.idxOf z:Nat)) H
def MJ:MtM X "list.index" (Bb X.K):=by
 intro pins s σ H x vs v us Q I M N h;obtain⟨l,xs,z,rfl,rfl,hS,U,q⟩:=h;cases M
 obtain⟨u,rfl,t,rfl⟩:=N.one;obtain⟨f,r,T,g⟩:=I.list hS;obtain⟨o,n,G,L,p,J⟩:=T;obtain⟨c1,d1,dt1,w⟩:=o;simp only at L p J;subst L p J;have E:=r.length;rw[Wd]at E;have C:=QN.mpr U;have hb:xs.length<=2 ^ 24:=by rw[Wd]at g;exact g
 refine QR PySem.F.slot_list_index ⟨_,G,rfl⟩ PySem.F.entry_list_index (PySem.F.args_list_index_2 _ _)
  (SeqAt.list_indexAt l f.toArray n none w (.int z t) (Value.isInt z) (xs.idxOf z) (by simpa [←E]using C) (by lia) ?_ ?_) ⟨G,λy Y=>(Al r z t y Y).at _ _,⟨.int (xs.idxOf z:Nat),H,I.tok _,⟨_,rfl⟩,q⟩⟩
 ·have e:=TK r z (xs.idxOf z) (by lia) C;show Value.isInt z f[xs.idxOf z]=true;rw[e];simpa using Vt C
 ·intro m hm B;have A:m<f.length:=by simpa using hm
  show Value.isInt z f[m]=false;rw[(TK r z m A<|by lia)]
  have:=List.not_of_lt_findIdx B
  simpa using this
theorem Di{g h:Type}(f:g->h):∀(xs:List g) k,(xs.eraseIdx k).map f=(xs.map f).eraseIdx k
 |[],_|_::_,0=>rfl
 |x::r,k+1=>by
  show f x::(r.eraseIdx k).map f=f x::(r.map f).eraseIdx k;rw[Di f r k]
def LF:V->List V->Hp->VK->Prop:=λx f H Q=>∃(l:Addr) (xs:Yf) (z:Int),x=.ref l/\f=[.int z]/\H l=some (.lst<|xs.map V.int)/\z∈xs/\Q .non (upd H l<|.lst ((xs.eraseIdx<|xs.idxOf z).map V.int))
def RP:MtM X "list.remove" LF:=by
 intro pins s L H x M v N Q I B C h;obtain⟨l,xs,z,rfl,rfl,A,E,q⟩:=h;cases B
 obtain⟨u,rfl,t,rfl⟩:=C.one;obtain⟨g,f,n,r,J,e⟩:=I.lstM A;have y:=r.length;rw[Wd]at y;have w:=QN.mpr E
 refine QR PySem.F.slot_list_remove ⟨_,e,rfl⟩ PySem.F.entry_list_remove (PySem.F.args_list_remove_2 _ _)
  (MeetsSeq.list_remove l f.toArray n (.int z t) (Value.isInt z) (Al r z t) (xs.idxOf z) (by simpa [←y]using w) ?_ ?_<|by rw[W4,←J];exact g) ⟨e,?_⟩
 ·have e:=TK r z (xs.idxOf z) (by lia) w;show Value.isInt z f[xs.idxOf z]=true;rw[e];simpa using Vt w
 ·intro m G p;have o:m<f.length:=by simpa using G
  have e:=TK r z m o (by lia);show Value.isInt z f[m]=false;rw[e]
  have:=List.not_of_lt_findIdx p
  simpa using this
 ·refine⟨.non,_,I.lset (its':=f.eraseIdx (xs.idxOf z)) A e ?_ ?_ ?_,rfl,q⟩
  ·show f.toArray.eraseIdxIfInBounds (xs.idxOf z)=_;rw[List.eraseIdxIfInBounds_toArray]
  ·rw[Di];exact r.eraseIdx _
  ·rw[Wd,List.length_eraseIdx];split<;>lia
end
noncomputable def Ite(K:Yd)(a:Addr):It:=
 ⟨λi H=>∃xs x,SqL K H a xs/\xs[i]?=some x,λi H x f=>∃T v,H T=none/\(∀xs,SqL K H a xs->xs[i]?=some v)/\x=.ref T/\f=upd H T (.tup [.int i,v]),λi H=>∃xs,SqL K H a xs/\xs.length<=i⟩
def OB{K elts k1 tp}(a e it:Addr)(hne:e≠it) :
  Turn P w K (.Tuple elts k1 tp) (Ite K a) [e,it] e (λi h=>∃old,IsEnum h e it i old/\h.IsListIter it a i) where
 mem:=by simp
 obj:=λi h st b hb=>by
  obtain⟨old,h1,o,h2,_,h3⟩:=st;rcases Wo.mp hb with rfl|hb
  ·exact⟨_,h1,λv z=>by cases z⟩
  ·rw[Wf.mp hb];exact⟨o,h2,λv z=>by rw[h3]at z;cases z⟩
 keep:=λi h h' st k=>by
  obtain⟨old,h1,h2⟩:=st;exact⟨old,k e (by simp) _ h1,h2.at λo q=>k it (by simp) o q⟩
 item:=by
  intro X hP hw hK hc i pins s σ H E I hf st hg;subst hP hw hK;obtain⟨old,he,hit⟩:=st;obtain⟨xs,x,hq,hx⟩:=hg;obtain⟨its,rv,p,hz⟩:=I.list hq;obtain⟨u,hu,ru⟩:=rv.get hx;obtain⟨a0,a1,a2,a3,a4,a5⟩:=hf e (by simp);obtain⟨b0,b1,b2,b3,b4,b5⟩:=hf it (by simp);have hfr:=I.hok.fresh (Wk _);have heL:=Wh he;have hiL:it<s.heap.objs.size:=by obtain⟨o,ho,_⟩:=hit;exact Wh ho
  refine wpAny_pyNext_enum_item he hit p.isList (by simpa using hu) hne λh1 eo it1 ht1 hz1 k1=>⟨_,rfl,?_⟩;refine wpAny_letOwnedTupleGo_enum eo λh2 e2 sb2=>?_;have keep2:∀b o,b∉[e,it]->s.heap.get? b=some o->h2.get? b=some o:=λb o hb q=>sb2.extBut b o (λz=>hb (by simp[z])) (k1 b o (λz=>hb (by simp[z])) (λz=>hb (by simp[z])) q)
  have n0:∀b,b∈[e,it]->H b=none:=λb hb=>by
   rcases Wo.mp hb with rfl|hb
   ·exact a0
   ·rw[Wf.mp hb];exact b0
  have un:Un (frs X.stack) [e,it] H (upd H s.heap.objs.size<|.tup [.int i,x]) s.heap h2:=by
   refine⟨λb o q _ _ hx'=>keep2 b o hx' q,λb o q _ _ hx'=>⟨o.slots,keep2 b o hx' q⟩,λb o q n _=>by rw[Ug (Ww<|Wh q)];exact n,λb o q hx'=>⟨o,keep2 b o hx' q⟩,
    λb ys q=>by rw[Ug (U3 q hfr)];exact q,λb o ys q=>by rw[Ug (U3 q hfr)];exact q,λb ps q=>⟨#[],by rw[Ug (U3 q hfr),q];simp⟩⟩
  have ok2:HOk X.prog X.w (upd H s.heap.objs.size<|.tup [.int i,x]) h2:=λb o q=>by
   by_cases hb:b=s.heap.objs.size
   ·subst hb;rw[Ur]at q;cases q
    exact⟨by show 2<=sizeLine;decide,[.int i s.toks,u],.cons ⟨_,rfl⟩ (.cons ru .nil),_,(sb2.extBut _ _ (Vj heL) ht1),rfl,_,rfl⟩
   ·rw[Ug hb]at q;refine(I.hok b o q).stay (λc v hc' r=>keep2 c v (λz=>?_) r) (λc r=>by rw[Ug (U3 r hfr)];exact r) λc ys r=>by rw[Ug (U3 r hfr)];exact r
    have hcn:=n0 c z;rcases hc' with rfl|hc'
    ·rw[hcn]at q;cases q
    ·rw[hcn]at hc';cases hc'
  have I2:Inv X pins σ (upd H s.heap.objs.size<|.tup [.int i,x]) {s with heap:=h2,toks:=s.toks+1}:=I.call un ok2 I.bare λb hb=>by
   rcases Wo.mp hb with rfl|hb
   ·exact⟨a3,a1,a4,a5⟩
   ·rw[Wf.mp hb];exact⟨b3,b1,b4,b5⟩
  refine⟨.ref s.heap.objs.size,_,I2,rfl,⟨_,x,hfr,λys hy=>by rw[I.list_inj hy hq];exact hx,rfl,rfl⟩,⟨u,?_,it1.at λo q=>sb2.extBut it o (Ne.symm hne) q⟩,λb hb=>?_⟩
  ·have:((i+1:Nat):Int)=(i:Int)+1:=by lia
   rwa[this]
  ·rw[Ug]
   ·exact n0 b hb
   ·rcases Wo.mp hb with rfl|hb
    ·exact Ww heL
    ·rw[Wf.mp hb];exact Ww hiL
 done:=by
  intro X hP hw hK hc i pins s σ H E I hf st hg;subst hP hw hK;obtain⟨old,he,hit⟩:=st;obtain⟨xs,hq,hx⟩:=hg;obtain⟨its,rv,p,hz⟩:=I.list hq;obtain⟨b0,b1,b2,b3,b4,b5⟩:=hf it (by simp);have l1:=rv.length;refine wpAny_pyNext_enum_end (I.ok.hd hc) he hit p.isList (by simp;lia) λh' eb=>⟨rfl,?_⟩;exact I.turned (λb o hb q=>eb b o hb q) b0 b1 b3 b4 b5
 self:=by
  intro A i s Q E st q;obtain⟨old,he,hit⟩:=st;have hT:s.TypeIs (.ref e) "enumerate":=⟨_,he,rfl⟩;refine wpAny_pyIter_slot hT F.slot_enumerate_iter (QB F.slot_enumerate_iter hT F.entry_enumerate_iter ?_<|F.args_enumerate_iter_1 _);exact Wg ⟨_,rfl, "enumerate",_,hT,F.slot_enumerate_next.lookup,q⟩
noncomputable def EU(K:Yd)(l:TA):TI:=λg H R=>l g H λh f=>∃a,h=[.ref a]/\(∃xs,SqL K f a xs)/\R (Ite K a) f
def DA{a z p pos}(U:Gl X "enumerate")(Q:X.mg "enumerate"=none)(ha:PA X [a] z)(N:autoParam (starEach [a] X.env=[(false,eval a X.env)]) au_0) :
  PI X (.Tuple elts k1 tp) (.Call (.Name "enumerate" p) [a] [] pos) (EU X.K z):=by
 intro pins s y H R I h;refine Call_ (Pd I U Q boot_enumerate<|Qk (thn (ha pos pins s y H _ I h) ?_) N rfl);rintro us f ⟨vs,B,g,E,G⟩;obtain⟨l,e1,⟨xs,hq⟩,q⟩:=G;subst e1;obtain⟨u,rfl,C⟩:=E.one;obtain rfl:=C;obtain⟨L,rv,J,hz⟩:=g.list hq;refine call_enumerate_list J.isList λn Y v M keep=>?_;have I2:Inv X pins y B {f with heap:=n}:=g.kept keep
 have r:f.heap.objs.size+1≠f.heap.objs.size:=Nat.succ_ne_self _;have tn:∃o,IsEnum n (f.heap.objs.size+1) f.heap.objs.size ((0:Nat):Int) o/\n.IsListIter f.heap.objs.size l 0:=⟨_,Y,v⟩;have T:=OB (P:=X.prog) (w:=X.w) (K:=X.K) (elts:=elts) (k1:=k1) (tp:=tp) l (f.heap.objs.size+1) f.heap.objs.size r;refine T.self X.A 0 {f with heap:=n} _ _ tn ⟨_,_,_,_,B,rfl,I2,T,tn,λb x=>?_,q⟩
 rcases Wo.mp x with rfl|x
 ·exact g.fpOk (Q2 _) (g.hok.fresh<|Q2 _)
 ·rw[Wf.mp x];exact g.fpOk (Wk _) (g.hok.fresh<|Wk _)
section
variable {X:Cx}{K:Yd}
def O3(f:autoParam (X.K=K) au_0):MtM X "list.index" (Bb K):=by subst f;exact MJ
def PU{p t name apos cpos T id r}(q:PlainAttrs T)(slot:Slot T name id)(n:typeOf (.builtin id)=pure (.type "method_descriptor"))(v:MtM X id r)(u:PE X o p)(w:PA X (e::es) t)(y:autoParam (X.K=K) au_0)(h:autoParam (attributeBase o name X.env (eval o X.env)=eval o X.env) au_0)
  (l:autoParam (((backTo cpos<|starEach (e::es) X.env).all (λx=>!x.1)&&(backToKw cpos<|keywordEach [] X.env).all (λx=>x.1.isSome)
   && decide ((e::es).length+([]:List Keyword).length+(if ([]:List Keyword).isEmpty then 0 else 1)<30))=true) au_0)
  (g:autoParam ((apos.endLine==cpos.line)=true) au_0) (s:autoParam (starEach (e::es) X.env=(false,eval e X.env)::starEach es X.env) au_0) (f:autoParam ((backTo cpos<|starEach es X.env).any (·.1)=false) au_0) :
  PE X (.Call (.Attribute o name apos) (e::es) [] cpos) (tBM K T r p t):=by
 subst y;exact Tz q slot n v u w h l g s f
end
def SB(xs f:Yf):eqL (xs.map V.int) (f.map V.int)=decide (xs=f):=by
 unfold eqL;rw[Wd,Wd];by_cases e:xs=f
 ·subst e;rw[Wi rfl,Wi rfl,Vu,W6];intro j o;have h:j<xs.length:=by simpa using o
  rw[Wj,Ws,Wc h];show(xs[j]==xs[j])=true;simp
 ·rw[Wq e];by_cases l:xs.length=f.length
  ·rw[Wi l,Vu,Vx];intro g;apply e;apply List.ext_getElem l;intro j n q
   have:=W6.mp g j (by simpa using n)
   rw[Wj,Ws,Wc n,Wj,Ws,Wc q]at this;have p:(xs[j]==f[j])=true:=this;simpa using p
  ·grind
def Kj(xs:Yf):(xs.map V.int).all Xa=true:=by
 rw[List.all_map];exact W6.mpr λ_ _=>rfl
end Own
namespace M
open L2 Own
def LV{f:Type}(R:Hp->V->f->Prop)(H:Hp)(vs:List V)(xs:List f):Prop:=
 vs.length=xs.length/\∀(i:Nat) (x:f),xs[i]?=some x->∃v,vs[i]?=some v/\R H v x
def LAt{f:Type}(R:Hp->V->f->Prop)(H:Hp)(l:Addr)(xs:List f):Prop:=∃g,H l=some (.lst g)/\LV R H g xs
def Xj(H:Hp)(v:V)(q:Int×Int):Prop:=∃a,v=.ref a/\H a=some (.tup [.int q.1,.int q.2])
section
variable {α:Type}{R:Hp->V->α->Prop}{H H':Hp}{vs:List V}{xs:List α}{l:Addr}
def LV.get {i:Nat}{v} (h:LV R H vs xs) (e:vs[i]?=some v):∃x,xs[i]?=some x/\R H v x:=by
 have g:i<xs.length:=by rw[←h.1];exact(WL.mp e).1
 obtain⟨f,n,r⟩:=h.2 i xs[i] (by simp)
 grind
end
def Bv(m:Yf):Prop:=∃a b c d e:Int,m=[a,b,c,d,e]/\(1<=a/\a<=10)/\(1<=b/\b<=9/\(b=1\/b=3\/b=7\/b=9))/\(0<=c/\c<=9)/\(1<=d/\d<=1000)/\(1<=e/\e+d<=1001)
def Field(ps:Ye):Prop:=∀q∈ps,1<=q.1/\q.1<=10/\1<=q.2/\q.2<=1000
def OG(f:Yf)(k z:Int):z∈SetR.U6 f k↔z∈f\/z=k:=by
 unfold SetR.U6;split
 ·grind
 ·simp
theorem Aq:∀(ns f:Yf) z,z∈ns.foldl SetR.U6 f↔z∈f\/z∈ns
 |[],f,z=>by simp
 |n::r,f,z=>by
  rw[List.foldl_cons,Aq r,OG,Wo];constructor
  ·grind
  ·grind
def Ra(k:Int)(h:f.Nodup):(SetR.U6 f k).Nodup:=by
 unfold SetR.U6;split
 ·lia
 ·grind
theorem Gr:∀(ns:Yf) {f:Yf},f.Nodup->(ns.foldl SetR.U6 f).Nodup
 |[],_,h=>h
 |n::r,f,h=>Gr r (Ra n h)
theorem FO:∀(ns f:Yf),(ns.foldl SetR.U6 f).length<=f.length+ns.length
 |[],f=>by simp
 |n::r,f=>by
  have h:=FO r (SetR.U6 f n)
  have g:(SetR.U6 f n).length<=f.length+1:=by
   unfold SetR.U6;split
   ·simp
   ·simp
  grind
def Er{l:Yf}(h:l.Pairwise (·<=·))(n:l.Nodup):l.Pairwise (· < ·):=by
 have:=h.and n
 exact this.imp λ{a b} h=>by have:=h.1;have:=h.2;lia
def EJ{g f:Yf}(n:g.Pairwise (· < ·))(l:f.Pairwise (· < ·))(h:∀z,z∈g↔z∈f):g=f:=by
 have p:g.Nodup:=n.imp λ{a b} h=>by lia
 have o:f.Nodup:=l.imp λ{a b} h=>by lia
 exact((List.perm_ext_iff_of_nodup p o).mpr h).eq_of_pairwise (λa b _ _ x y=>by lia) n l
noncomputable def tenL:Yf:=[1,2,3,4,5,6,7,8,9,10]
def Zbr:z∈tenL↔1<=z/\z<=10:=by
 unfold tenL;constructor
 ·intro h;simp only[Wo,QA,or_false]at h;omega
 ·rintro⟨g,f⟩;simp only[Wo,QA,or_false];lia
noncomputable def Uw(ps:Ye):Yf:=tenL.filter λh=>decide (h∈ps.map (·.1))
def TR(ps:Ye):(Uw ps).Pairwise (· < ·):=List.Pairwise.filter _ (by trivial)
def Ea(f:Field ps){z}:z∈Uw ps↔z∈ps.map (·.1):=by
 unfold Uw;rw[Qy,Vy,Zbr];constructor
 ·grind
 ·intro h;obtain⟨q,hq,rfl⟩:=WC.mp h
  have:=f q hq
  grind
def Te(ps:Ye):(Uw ps).length<=10:=by
 have:=Qq (λh=>decide (h∈ps.map (·.1))) tenL
 trivial
def GU(f:Field ps)(p:ns.Perm ((ps.map (·.1)).foldl SetR.U6 []))(h:ns.Pairwise (·<=·)):ns=Uw ps:=by
 refine EJ (Er h<|p.symm.nodup<|Gr _ List.nodup_nil) (TR ps) λz=>?_;rw[p.mem_iff,Aq,Ea f];simp
def AM(z:Int)(xs:Yf):inV (.int z) (xs.map V.int)=decide (z∈xs):=by
 unfold inV
 induction xs with
 |nil=>rfl
 |cons x r f=>
  show((x==z) || _)=_;by_cases e:x=z
  ·grind
  ·grind
def OP:tenL=(List.range 10).map λ(i:Nat)=>(1:Int)+(i:Int):=rfl
def Oj{os ns}(g:os.Perm (Uw ps))(n:ns.Perm os)(l:ns.Pairwise (·<=·)):ns=Uw ps:=by
 have f:(Uw ps).Nodup:=(TR ps).imp λ{a b} h=>by lia
 have p:=n.trans g;exact EJ (Er l<|p.symm.nodup f) (TR ps) λz=>p.mem_iff
section
variable (ps:Ye)
noncomputable def tpM(y:Int):Nat->Int
 | 0=>0
 |j+1=>tpM y j+(if (ps.getD j (0,0)).1=y then(ps.getD j (0,0)).2 else 0)
noncomputable def pcM(x y:Int):Nat->Int
 | 0=>0
 |k+1=>pcM x y k+(if x≠y/\(ps.getD k (0,0)).1=x then tpM ps y k*(ps.getD k (0,0)).2 else 0)
noncomputable def Xm(n:Nat):Yf->Int
 |[]=>0
 |a::r=>(r.map λb=>pcM ps a b n).sum+Xm n r
end
end M
namespace ExcR
open L2
structure UW (fs ex:List Addr) (h h':Heap):Prop where
 keep:∀b o,h.get? b=some o->b∉fs->b∉ex->h'.get? b=some o
 slot:∀b o,h.get? b=some o->b∉ex->∃sl,h'.get? b=some {o with slots:=sl}
 size:h.objs.size<=h'.objs.size
def UW.trans (a:UW fs ex l h) (b:UW fs ex h g):UW fs ex l g:=
 ⟨λc o e n m=>b.keep c o (a.keep c o e n m) n m,λc o e m=>by
  obtain⟨r,q⟩:=a.slot c o e m;obtain⟨f,p⟩:=b.slot c _ q m;exact⟨f,p⟩,Wu a.size b.size⟩
def UW.mono {fs f ex g}{l h} (a:UW fs ex l h) (p:∀b∈fs,b∈f) (hx:∀b∈ex,b∈g):UW f g l h:=
 ⟨λc o e n m=>a.keep c o e (λz=>n (p c z)) (λz=>m (hx c z)),λc o e m=>a.slot c o e λz=>m (hx c z),a.size⟩
def HK(o:Obj)(f):(o.mapFields f).dict=o.dict:=by
 obtain⟨c,d,g,sl⟩:=o;cases g<;>rfl
structure Trc (h:Heap) (e T:Addr) (cls:Value×Yq) (fl:Value):Prop where
 ne:T≠e
 exc:∃oe vs,h.get? e=some oe/\(oe.cls,oe.dict)=cls/\oe.data=.fields vs/\vs[1]?=some (.ref T)
 ent:∃oT ts,h.get? T=some oT/\oT.data=.fields ts/\ts[3]?=some fl
section
variable {M:Model}{A:Around}{E:Yi}{s:Shared}{base:Heap}{env:Env}{outer:List Env}{L e:Addr}
def Gj{hadNext Q}(B:A.frames=some (env::outer))(U:s.heap.FunFrames base (env::outer))(hf:env.frame=some L)(Y:s.heap.get? e=some v)(C:v.data=.fields vs)(hsz:1<vs.size)(h:∀H T,s.heap.objs.size<=T->Trc H e T (v.cls,v.dict) (rawInt L)->UW (frs (env::outer)) [e] s.heap H->Q () {s with heap:=H}) :
  wpAny M A (do let a ←frameOf env;let u ←entryPlaceOf L hadNext;let b ←EntryCells.newEntry head a .none (rawInt L) .none u;setField (.ref e) 1 b) Q E s:=by
 have n:e∉frs (env::outer):=λhm=>by
  obtain⟨_,o,N,y⟩:=U.mem hm;rw[Y]at N;cases N
  exact y vs C
 refine Wb (wpAny_frameOf_fun B U hf λG g=>Wb (wpAny_entryPlaceOf λu x=>?_));refine Wb (Qa ?_<|x.sizeOk5 _ _ _ _ _);have r:=(g.2.1 e n).trans Y;generalize eo:({cls:=.type "traceback",dict:=none,data:=.fields ([head,.ref L,.none,rawInt L,.none]++(if u.isEmpty then List.replicate 6 Value.none else u)).toArray}:Obj)=J;have p:=We J r;refine Qv p C hsz (h _ G.objs.size (Qw g.1.symm) ?_ ?_)
 ·have l:=Vj (Wh r);have d3:=WX C (·.setIfInBounds 1 (Value.ref G.objs.size));refine⟨l,⟨_,_,WQ _ p (Qp d3),by rw[Obj.cls_mapFields,HK],d3,by simp[hsz]⟩,J,_,?_,by rw[←eo],?_⟩
  ·exact(WK _ _<|Ne.symm l).trans (Wn G<|by rw[←eo];rfl)
  ·rfl
 ·refine⟨λb o q nb w=>?_,λb o q w=>?_,?_⟩
  ·have f:b≠e:=λz=>w (by simp[z]);rw[WK _ _ (Ne.symm f)];exact We _ ((g.2.1 b nb).trans q)
  ·have f:b≠e:=λz=>w (by simp[z]);obtain⟨sl,q1⟩:=g.2.2 b o q;exact⟨sl,by rw[WK _ _ (Ne.symm f)];exact We _ q1⟩
  ·rw[Heap.size_update,QP,g.1];exact Q2 _
def Zaz(g:A.frames=some (env::outer))(r:s.heap.FunFrames base (env::outer))(n:env.frame=some L)(o:s.heap.get? e=some f)(p:f.data=.fields vs)(q:vs[1]?=some .none)(h:∀l T,s.heap.objs.size<=T->Trc l e T (f.cls,f.dict) (rawInt L)->UW (frs (env::outer)) [e] s.heap l->Q () {s with heap:=l}):wpAny M A (noteFrame (.ref e) env) Q E s:=by
 unfold noteFrame;simp only[n];refine Wb (wpAny_field o p q ?_);exact Gj g r n o p (QG.mp q).1 h
def AA(x:Trc s.heap e T cls Y)(h:∀g,Trc g e T cls .none->UW [] [T] s.heap g->Q () {s with heap:=g}) :
  wpAny M A (setField (.ref T) 3 .none) Q E s:=by
 obtain⟨n,⟨w,v,J,H,G,C⟩,U,N,r,p,y⟩:=x;have u:=(QG.mp y).1;refine Qv r p u (h _ ?_ ?_)
 ·have d3:=WX p (·.setIfInBounds 3 Value.none);exact⟨n,⟨w,v,(WK _ _ n).trans J,H,G,C⟩,_,_,WQ _ r (Qp d3),d3,by simp[u]⟩
 ·have l:∀b,b≠T->(s.heap.update T<|Obj.mapFields (·.setIfInBounds 3 Value.none)).get? b=s.heap.get? b:=λb B=>WK _ _ (Ne.symm B);exact⟨λb o q _ f=>(l b λz=>f (by grind)).trans q,λb o q f=>⟨o.slots,(l b λz=>f (by grind)).trans q⟩,Qw (Heap.size_update ..).symm⟩
def Bf(n:A.frames=some (env::outer))(hl:s.heap.FunFrames base (env::outer))(y:env.frame=some L)(x:Trc s.heap e T cls .none)(h:∀r f,s.heap.objs.size<=f->Trc r e f cls (rawInt L)->UW (frs (env::outer)) [e,T] s.heap r->Q () {s with heap:=r}):wpAny M A (noteFrame (.ref e) env) Q E s:=by
 obtain⟨ne,⟨oe,vs,g1,g2,g3,g4⟩,oT,G,w,v,Y⟩:=id x;unfold noteFrame;simp only[y];refine Wb (wpAny_field g1 g3 g4 ?_);refine Wb (wpAny_field w v Y ?_);refine Wb (AA x λh1 B u=>?_)
 have l:=hl.of_keeps λb o q g=>⟨o,u.keep b o q (by simp) (λz=>by
  rw[Wf.mp z,w]at q;cases q
  exact g G v),rfl⟩
 obtain⟨_,⟨U,C,N,p2,J,H⟩,_⟩:=id B;refine Gj n l y N J (QG.mp H).1 λh2 f p x2 K2=>h h2 f (Wu u.size p) (by grind) ?_;exact(u.mono (by simp)<|by simp).trans (K2.mono (λ_ z=>z)<|by simp)
def KA(x:Trc s.heap e T cls u)(h:∀f,Trc f e T cls .none->UW [] [T] s.heap f->Q () {s with heap:=f}) :
  wpAny M A (setFlight (.ref e) none) Q E s:=by
 obtain⟨q,⟨p,o,n,r,l,g⟩,_⟩:=id x;refine Wb (wpAny_field n l g ?_);exact AA x h
def Oq(l:A.frames=some (env::outer))(y:s.heap.FunFrames base (env::outer))(B:env.frame=some L)(C:s.heap.get? e=some f)(G:f.data=.fields vs)(J:vs[1]?=some .none)(h:∀p T,s.heap.objs.size<=T->Trc p e T (f.cls,f.dict) .none->UW (frs (env::outer)) [e] s.heap p->Q () {s with heap:=p}):wpAny M A (leaving env<|.ref e) Q E s:=by
 unfold leaving;refine Wb (Zaz l y B C G J λN T n x K=>KA x λH u r=>h H T n u ?_);refine⟨λb o q w g=>r.keep b o (K.keep b o q w g) (by simp) (λz=>?_),λb o q g=>?_,Wu K.size r.size⟩
 ·rw[Wf.mp z]at q;exact absurd (Wh q) (QS.mpr n)
 ·obtain⟨sl,v⟩:=K.slot b o q g;exact⟨sl,r.keep b _ v (by simp) (λz=>by rw[Wf.mp z]at q;exact absurd (Wh q) (QS.mpr n))⟩
def Mi(l:A.frames=some (env::outer))(B:s.heap.FunFrames base (env::outer))(C:env.frame=some L)(x:Trc s.heap e T cls .none)(h:∀p f,s.heap.objs.size<=f->Trc p e f cls .none->UW (frs (env::outer)) [e,T] s.heap p->Q () {s with heap:=p}):wpAny M A (leaving env<|.ref e) Q E s:=by
 refine Wb (Bf l B C x λH f n v K=>KA v λG u r=>h G f n u ?_);refine⟨λb o q y g=>r.keep b o (K.keep b o q y g) (by simp) (λz=>?_),λb o q g=>?_,Wu K.size r.size⟩
 ·rw[Wf.mp z]at q;exact absurd (Wh q) (QS.mpr n)
 ·obtain⟨sl,w⟩:=K.slot b o q g;exact⟨sl,r.keep b _ w (by simp) (λz=>by rw[Wf.mp z]at q;exact absurd (Wh q) (QS.mpr n))⟩
end
section
variable {P:Program}{w:World}{H H':Hp}{h h':Heap}{a:Addr}{o:HO}{fs ex:List Addr}
def has(x:ObjOk P w H h a o):∃u,h.get? a=some u:=by
 cases o with
 |lst xs=>exact let ⟨_,_,_,_,e⟩:=x;⟨_,e⟩
 |tup xs=>exact let ⟨_,_,_,u,e,_⟩:=x;⟨u,e⟩
 |dK f|dT f=>exact let ⟨_,_,_,_,u,_,_,e,_⟩:=x;⟨u,e⟩
 |set S n=>exact let ⟨u,_,_,_,e,_⟩:=x;⟨u,e⟩
 |ins C q fs=>exact let ⟨_,_,_,e,_⟩:=x;⟨_,e⟩
 |own y=>exact x
 |xd fs=>exact let ⟨_,⟨u,_,_,e,_⟩,_⟩:=x;⟨u,e⟩
 |rng lo p=>exact let ⟨_,_,_,e⟩:=x;⟨_,e⟩
 |frz l u=>exact⟨_,x.1⟩
 |ext g=>exact x.2.1
 |_=>exact⟨_,x⟩
def HW(ok:HOk P w H h)(e:h.get? a=none):H a=none:=by
 cases q:H a with
 |none=>rfl
 |some o=>
  obtain⟨u,z⟩:=has (ok a o q)
  grind
def XS(ok:HOk P w H h)(k:UW fs ex h h')(g:∀b∈fs,H b=none)(hx:∀b∈ex,H b=none):HOk P w H h':=λa o e=>by
 refine(ok a o e).stay (λb u l q=>?_) (λ_ q=>q) (λ_ _ q=>q);have f:H b≠none:=by grind
 exact k.keep b u q (λz=>f (g b z)) λz=>f (hx b z)
end
structure XAt (P:Program) (w:World) (outer:List Env) (H H':Hp) (s s':Shared) (a T C:Addr) (dx:Yq):Prop where
 os:s'.os=s.os
 bare:AllBare s'.gens
 un:Un (frs outer) [] H H' s.heap s'.heap
 hok:HOk P w H' s'.heap
 na:s.heap.get? a=none
 nT:s.heap.get? T=none
 fa:H' a=none
 fT:H' T=none
 tr:Trc s'.heap a T (.ref C,dx) .none
noncomputable def CXe(P:Program)(w:World):CXT:=λouter H s E e h=>∃a T C f g,e=.ref a/\XAt P w outer H g s h a T C f/\E (.ref C) f g
section
variable {X:Cx}{pins:Yg}{σ:L2.St}{H H':Hp}{s s':Shared}{a T C:Addr}{dx:Yq}
def FA(I:Inv X pins σ H s)(r:X.ex=[])(k:UW (frs X.stack) ex s.heap x)(hx:∀b∈ex,X.s₀.heap.get? b=none):Un X.fs [] X.H₀ H X.s₀.heap x:=by
 have B:=I.base;rw[r]at B;have f:∀b o,X.s₀.heap.get? b=some o->b∉ex:=λb o q z=>by rw[hx b z]at q;cases q
 have v:∀b o,X.s₀.heap.get? b=some o->b∉X.fs->b∉frs X.stack:=λb o q h z=>by
  rcases Wo.mp (I.stkSub b z)with e|e
  ·have A:=Wh q;have y:=I.ok.above
   grind
  ·exact h e
 refine⟨λb o q n h g=>k.keep b o (B.keep b o q n h g) (v b o q h) (f b o q),λb o q n w g=>?_,λb o q n g=>B.free b o q n g,λb o q g=>?_,B.tups,B.frzs,B.tbls⟩
 ·obtain⟨sl,p⟩:=B.slot b o q n w g;obtain⟨l,u⟩:=k.slot b _ p (f b o q)
  grind
 ·obtain⟨o1,p⟩:=B.there b o q g;obtain⟨l,u⟩:=k.slot b _ p (f b o q);exact⟨_,u⟩
def N8(I:Inv X pins σ H s)(f:X.ex=[])(e:s.heap.get? b=none):X.s₀.heap.get? b=none:=by
 cases q:X.s₀.heap.get? b with
 |none=>rfl
 |some o=>
  obtain⟨u,z⟩:=I.base.there b o q (by grind)
  grind
variable {E:Yi}
def RK(I:Inv X pins σ H s)(f:X.ex=[])(h:X.stack=X.env::X.outer)(n:X.env.frame=some X.env.locals)(x:XAt X.prog X.w X.stack H H' s s' a T C dx) :
  wpAny (model X.prog X.w) X.A (leaving X.env<|.ref a) (λ_ u=>∃o,XAt X.prog X.w X.outer X.H₀ H' X.s₀ u a o C dx) E s':=by
 have J:=I.call' x.os x.un x.hok x.bare λb z=>absurd z (by simp);have p:=J.stack;have q:=J.ok.frames;rw[h]at p q;refine Mi q p n x.tr λv o l r k=>⟨o,J.os,J.bare,?_,?_,N8 I f x.na,?_,x.fa,x.hok.fresh l,r⟩
 ·exact FA J f (by rw[h];exact k) λb g=>by
   rcases Wo.mp g with rfl|g
   ·exact N8 I f x.na
   ·rw[Wf.mp g];exact N8 I f x.nT
 ·refine XS x.hok k (λb g=>J.stkFree b (by grind)) λb g=>?_;rcases Wo.mp g with rfl|g
  ·exact x.fa
  ·rw[Wf.mp g];exact x.fT
 ·exact Vg (Wu J.sz l)
def HN(J:Inv X pins σ H s)(o:X.ex=[])(f:X.stack=X.env::X.outer)(n:X.env.frame=some X.env.locals)(r:X.s₀.heap.get? a=none)(x:H a=none)(B:s.heap.get? a=some l)(L:l.cls=.ref C)(p:l.dict=dx)(G:l.data=.fields vs)(M:vs[1]?=some .none) :
  wpAny (model X.prog X.w) X.A (leaving X.env<|.ref a) (λ_ z=>∃q,XAt X.prog X.w X.outer X.H₀ H X.s₀ z a q C dx) E s:=by
 have u:=J.stack;have v:=J.ok.frames;rw[f]at u v;refine Oq v u n B G M λN q g y k=>⟨q,J.os,J.bare,?_,?_,r,?_,x,J.hok.fresh g,by rw[←L,←p];exact y⟩
 ·exact FA J o (by rw[f];exact k) λb h=>by rw[Wf.mp h];exact r
 ·exact XS J.hok k (λb h=>J.stkFree b (by grind)) λb h=>by rw[Wf.mp h];exact x
 ·exact Vg (Wu J.sz g)
def L3{g vs}(I:Inv X pins σ H s)(f:X.ex=[])(h:X.stack=X.env::X.outer)(l:X.env.frame=some X.env.locals)(keeps:∀b o,s.heap.get? b=some o->p.get? b=some o)(new:s.heap.get? a=none)(r:p.get? a=some g)(v:g.cls=.ref C)(n:g.dict=dx)(u:g.data=.fields vs)(x:vs[1]?=some .none) :
  wpAny (model X.prog X.w) X.A (leaving X.env<|.ref a) (λ_ q=>∃y,XAt X.prog X.w X.outer X.H₀ H X.s₀ q a y C dx) E {s with heap:=p}:=
 HN (s:={s with heap:=p}) (I.call' (ch:=[]) rfl (Un.kept keeps) (I.hok.kept keeps) I.bare λb z=>absurd z (by simp)) f h l (N8 I f new) (HW I.hok new) r v n u x
end
structure Np (K:Yd) (C:Addr):Prop where
 q:PySem.W.excIn K C [.type "ValueError",.type "Exception",.type "BaseException",.type "object"] "ValueError.__new__"=true
def Np.obj {K C h} (c:Np K C) (k:K.In h):∃f N nm q bs hdct sn sub ab col dd k0 k1 k2 k3 k5 p,h.get? C=some (excClassObj nm q C N bs f hdct sn sub ab col dd k0 k1 k2 k3 k5 "ValueError.__new__")/\h.Ns N p/\p "__init__"=none/\
  OwnTail h [.type "ValueError",.type "Exception",.type "BaseException",.type "object"] f:=by
 have e:=c.q;unfold PySem.W.excIn at e;split at e
 next dd L sl A=>
  split at e
  next M f k0 k1 k2 k3 n k5 s r=>
   simp only[W2,beq_iff_eq,Bool.not_eq_true']at e;obtain⟨⟨⟨⟨⟨H,G⟩,w⟩,E⟩,o⟩,v⟩:=e;subst H G;have u:=k _ _ A;cases L with
   |mk nm bs z y x B sn sub ab col J=>
    simp only at s w o v
    have g:sl=#[k0,k1,k2,k3,some (.builtin "ValueError.__new__"),k5]:=by
     cases sl with
     |mk l=>simp only at r;rw[r]
    rw[s,w,g]at u;exact⟨f,y,nm,x,bs,B,sn,sub,ab,col,dd,k0,k1,k2,k3,k5,_,u,.of_isNs (PySem.W.isNs_of_in k o),PySem.W.nsMap_none_of_in k o v,PySem.W.tail_of_in k E⟩
  next=>cases e
 next=>cases e
abbrev TF:=L2.St->Hp->Str->(Str->Hp->Prop)->Prop
def PF(X:Cx)(es:Yn)(t:TF):Prop:=
 ∀(pins:Yg) (s:Shared) (g:L2.St) (H:Hp) (f:Str) (Q:Str->Hp->Prop),Inv X pins g H s->t g H f Q->
  wpAny (model X.prog X.w) X.A (joinParts f<|evalEach es X.env) (λu l=>∃x h,Inv X pins g h l/\RelV (.str x) u/\Q x h) X.xe s
section
variable {X:Cx}{e e1 e2:Expr}{es:Yn}{t:TF}{tv:TE}{pos:Pos}
noncomputable def D5:TF:=λ_ H f Q=>f.length<=sizeLine/\Q f H
noncomputable def FT(x:Str)(t:TF):TF:=λg H f Q=>(f++x).length<=sizeLine/\t g H (f++x) Q
noncomputable def DT(tv:TE)(t:TF):TF:=λg H f Q=>tv g H λv h=>(∃i:Int,v=.int i/\i.natAbs.log2<1920/\(f++(Str.ofString<|toString i)).length<=sizeLine/\t g h (f++Str.ofString (toString i)) Q)\/
 ∃x:Str,v=.str x/\x.length<=sizeLine/\(f++x).length<=sizeLine/\t g h (f++x) Q
def TB:PF X [] D5:=λpins s g H f Q I h=>joinParts_nilE (joinParts_nil ⟨f,H,I.tok _,⟨_,rfl⟩,h.2⟩ h.1)
def PM(h:PF X es t):PF X (.Constant (.str x) j pos::es) (FT x t):=λpins s f H g Q I q=>
 joinParts_consE (joinParts_cons<|Calls.Constant_str ⟨q.1,h pins _ f H _ Q (I.tok _) q.2⟩)
def Tq(A:PE X e tv)(h:PF X es t):PF X (.FormattedValue e (-1) none pos::es) (DT tv t):=λpins s f H z Q I q=>by
 refine joinParts_consE (joinParts_cons<|FormattedValue_plain<|thn (A pins s f H _ I q) ?_);rintro u E ⟨v,o,n,r,y⟩;rcases y with⟨i,rfl,B,l,g⟩|⟨x,rfl,hx,l,g⟩
 ·obtain⟨w,rfl⟩:=r;exact formatField_int_small B ⟨l,h pins _ f o _ Q (n.tok _) g⟩
 ·obtain⟨w,rfl⟩:=r;exact formatField_str (λC p=>⟨l,h pins _ f o _ Q (n.tok _) g⟩) hx
noncomputable def tF(t:TF):TE:=λf H Q=>t f H Str.empty λx g=>Q (.str x) g
def T8(h:PF X (e1::e2::es) t):PE X (.JoinedStr (e1::e2::es) pos) (tF t):=λpins s f H Q I q=>
 JoinedStr_many (thn (h pins s f H _ _ I q) λu o ⟨x,n,l,r,g⟩=>⟨.str x,n,l,r,g⟩)
end
def BR(X:Cx)(E:XK):Prop:=∀(pins:Yg) (g:L2.St) (H:Hp) (s:Shared) (C a:Addr) (f:Heap) (args:Yl),Inv X pins g H s->Heap.MadeExcOf s.heap f a (.ref C) args->E (.ref C) none H->X.xe (.ref a) {s with heap:=f}
noncomputable def CY(C:Addr)(E:XK)(t:TA):TS:=λ_ f H=>t f H λg h=>g.length<=sizeLine/\E (.ref C) none h
section
variable {X:Cx}{x:Str}{C:Addr}{E:XK}{e:Expr}{es:Yn}{t:TA}{p cpos pos:Pos}
def Lp(c:Np X.K C)(L:X.mg x=some (.ref C))(U:BR X E)(Q:X.calm=true)(T:PA X (e::es) t)(M:autoParam (Gl X x) au_0)(r:autoParam ((x==("__debug__" : Str))=false) au_1)(v:autoParam (starEach (e::es) X.env=(false,eval e X.env)::starEach es X.env) au_0)(l:autoParam ((backTo cpos<|starEach es X.env).any (·.1)=false) au_0):PS X (.Raise (some<|.Call (.Name x p) (e::es) [] cpos) none pos) (CY C E t):=by
 intro pins s u H D I h;obtain⟨bm,N,nm,q,bs,hdct,sn,sub,ab,col,dd,k0,k1,k2,k3,k5,mN,hC,Y,n,w⟩:=c.obj I.ok.mod.kin
 have f:(backTo cpos<|starEach (e::es) X.env).any (·.1)=false:=by
  rw[v];show(false || (backTo cpos<|starEach es X.env).any (·.1))=false;rw[l];rfl
 refine wpAny_Raise_call_subU (nm:=nm) (q:=q) (N:=N) (bs:=bs) (hdct:=hdct) (sn:=sn) (sub:=sub) (ab:=ab) (col:=col) (dd:=dd) (k0:=k0) (k1:=k1) (k2:=k2) (k3:=k3) (k5:=k5)
  PySem.F.excBase_ValueError (by decide +kernel) PySem.F.excBase_ValueError (w.hasType<|by decide +kernel) (I.ok.hd Q) f n (Kb I M L ⟨rfl,?_⟩ r)
 have y:=T cpos pins s u H _ I h;rw[v]at y ⊢;refine Calls.evalArgs_plain (thn y ?_);rintro z A ⟨vs,H2,g,B,J,G⟩;refine⟨rfl,by rw[←B.length];exact J,g.bk _ _ hC,Y.keeps g.bk,w.keeps g.bk,λh' a o=>?_⟩;exact U pins u H2 A C a h' z g o G
end
section
variable {P:Program}{w:World}{K:Yd}{mg:Yh}{base:Heap}{N ps:Ym}{qual x:Str}{scope:Scope}{f:Addr}{cd:Value}{A:Around}{outer:List Env}{s:Shared}{H:Hp}{E:XK}
def T5:BR (Uu (CXe P w) P w K mg base N qual scope f cd A outer s H E) E:=by
 intro pins n l p C a r args I m q;obtain⟨t,g,_,_⟩:=m.there;exact WA (L3 I rfl rfl rfl m.keeps m.new g rfl rfl rfl rfl) (λ_ o ⟨h,y⟩=>⟨a,h,C,none,l,rfl,y,q⟩) λ_ _ z=>z
def X4:Xi (CXe P w) (Uu (CXe P w) P w K mg base N qual scope f cd A outer s H E) E:=by
 rintro pins n u r e p I ⟨a,T,C,g,l,rfl,y,q⟩;exact WA (RK I rfl rfl rfl y) (λ_ o ⟨h,z⟩=>⟨a,h,C,g,l,rfl,z,q⟩) λ_ _ z=>z
def P5:PassesOwn (model P w) (Uu (CXe P w) P w K mg base N qual scope f cd A outer s H E).A (Uu (CXe P w) P w K mg base N qual scope f cd A outer s H E).env (Uu (CXe P w) P w K mg base N qual scope f cd A outer s H E).xe:=PassesOwn.leaving
def Def.okX {st k sp} (D:Own.Def K mg x st ps) (S:Ue N ps (Ua st)) (len:∀vs H Q E,sp vs H Q E->vs.length=ps.length)
  (h:∀f g A outer s H vs Q E,Uh k (A.deeper<|envOfC x (Ua st) s.heap.objs.size f g)->sp vs H Q E->
   ∃t,PSs (Uu (CXe P w) P w K mg base N x (Ua st) f g A outer s H E) (Ut st) t/\t {nx:=λ_ H'=>Q .non H',rt:=Q} (start N vs) H):Own.Callee P w K mg base (CXe P w) (k+1) x ps sp:=by
 obtain⟨f,B,F,r,u⟩:=D.ex;obtain⟨oc,z,kV,v,y,G,g,C,p,rfl,o,n⟩:=F.ex;exact⟨f,_,Fb o n S len λA outer s H vs Q E q l=>h f g A outer s H vs Q E q l,r,F.kp,⟨_,o,rfl⟩,u⟩
end
end ExcR
namespace ExcR
open L2
open Sem (wp)
structure Ux (K:Yd) (C:Addr):Prop where
 c:Np K C
 ga:PySem.W.findIn K (.ref C) "__getattribute__"=some (some<|.builtin "BaseException.__getattribute__")
 gt:PySem.W.findIn K (.ref C) "__getattr__"=some none
 cl:PySem.W.findIn K (.ref C) "__class__"=some (some<|.builtin "object.__class__")
 is:(PySem.W.clsIn K C).isSome=true
structure Xx (K:Yd) (C:Addr):Prop where
 obj:∀{h:Heap},K.In h->∃bm N nm q bs hdct sn sub ab col dd k0 k1 k2 k3 k5,h.get? C=some (excClassObj nm q C N bs bm hdct sn sub ab col dd k0 k1 k2 k3 k5 "ValueError.__new__")/\OwnTail h [.type "ValueError",.type "Exception",.type "BaseException",.type "object"] bm
 ga:PySem.W.findIn K (.ref C) "__getattribute__"=some (some<|.builtin "BaseException.__getattribute__")
 gt:PySem.W.findIn K (.ref C) "__getattr__"=some none
 cl:PySem.W.findIn K (.ref C) "__class__"=some (some<|.builtin "object.__class__")
 is:(PySem.W.clsIn K C).isSome=true
def Ux.any {K:Yd}{C:Addr} (G:Ux K C):Xx K C:=
 ⟨λk=>by
  obtain⟨y,N,l,q,bs,f,h,sub,z,g,x,s,r,p,o,n,A,w,B,u,v⟩:=G.c.obj k;exact⟨y,N,l,q,bs,f,h,sub,z,g,x,s,r,p,o,n,w,v⟩,G.ga,G.gt,G.cl,G.is⟩
section
variable {prog:Program}{w:World}{A:Around}{E:Yi}{h:Heap}{g:Array GenState}{d:Drawn}{t:Nat}{os:OsState}{a C:Addr}{o:Obj}{K:Yd}
def OQ{R:Result->Shared->Prop}(k:K.In h)(G:Xx K C)(hx:h.get? a=some o)(p:o.cls=.ref C)(hq:R (.ok<|.ret<|.ref C) ⟨h,g,d,t,os⟩) :
  codeAny (model prog w) A (.call (.builtin "getset_descriptor.__get__") ⟨[.builtin "object.__class__",.ref a,.ref C],[]⟩) R ⟨h,g,d,t,os⟩:=by
 obtain⟨v,N,y,q,bs,n,x,sub,Q,u,M,L,J,H,B,z,s,r⟩:=G.obj k;have f:(⟨h,g,d,t,os⟩:Shared).TypeIs (.builtin "object.__class__") "getset_descriptor":=Ve
 have l:(Value.ref C::v).contains (.type (".".intercalate ("object.__class__".cutAt '.').dropLast))=true:=by
  rw[F.owner_object_class,List.contains_cons,r.hasType (b:=true) (by decide +kernel)];rfl
 refine Vm F.slot_gs_get.plain F.entry_gs_get (F.slot_gs_get.check _ _ _ _ _ _ _ _ f (F.args_gs_get _ _ _) ?_)
 repeat (any_goals (first|assumption|(with_reducible refine Q3 hx ?_;rw[p])|(with_reducible refine wpAny_isSubtype_exc s ?_;rw[l])|wp_step))
 refine⟨Code.quiet_builtin _ (by decide +kernel),Qo F.entry_object_class ?_⟩
 repeat (any_goals (first|assumption|(with_reducible refine Q3 hx ?_;rw[p])|wp_step))
def M9{l:Tok}{Q:Fin->Shared->Prop}(k:K.In h)(G:Xx K C)(hx:h.get? a=some o)(f:o.cls=.ref C)(hq:Q (.done<|.ret<|.ref C) ⟨h,g,d,t,os⟩) :
  wpAny (model prog w) A (Builtin.«object.__getattribute__» ⟨[.ref a,.str "__class__" l],[]⟩) Q E ⟨h,g,d,t,os⟩:=by
 have n:(⟨h,g,d,t,os⟩:Shared).TypeIs (.builtin "object.__class__") "getset_descriptor":=Ve;have f1:=Ve;have q:=F.slot_gs_get.lookup;have p:=F.slot_gs_set.lookup;have L:=Q8 (M:=model prog w) k G.cl
 repeat (any_goals (first|assumption|(with_reducible refine Q3 hx ?_;rw[f])|with_reducible refine L.at ?_|wp_step))
 refine OQ k G hx f ?_
 repeat (any_goals (first|assumption|wp_step))
def Lv{M:Model}{v:Value}{Q:Unit->Shared->Prop}(k:K.In h)(G:Xx K C)(hx:h.get? a=some o)(n:o.cls=.ref C)(hq:Q () ⟨h,g,d,t,os⟩) :
  wpAny M A (checkBuiltinCall "BaseException.__getattribute__" ⟨[.ref a,v],[]⟩) Q E ⟨h,g,d,t,os⟩:=by
 obtain⟨y,N,B,q,bs,l,z,sub,ab,x,dd,U,T,L,J,H,r,p⟩:=G.obj k;have f:(Value.ref C::y).contains (.type "BaseException")=true:=by rw[List.contains_cons,p.hasType (b:=true) (by decide +kernel)];rfl
 have u:builtinKind "BaseException.__getattribute__"=some .slot:=by decide +kernel
 have s:splitId "BaseException.__getattribute__"=some ("BaseException","__getattribute__"):=by decide +kernel
 have Y:=F.args_bexc_ga (.ref a) v;simp only[checkBuiltinCall,u,s];refine Wb ?_;unfold isInstance
 repeat (first|(with_reducible refine Q3 hx ?_;rw[n])|(with_reducible refine wpAny_isSubtype_exc r ?_;rw[f])|wp_step)
 exact hq
def Ma{p:Tok}{Q:Yi}(k:K.In h)(G:Xx K C)(hx:h.get? a=some o)(f:o.cls=.ref C)(hq:Q (.ref C) ⟨h,g,d,t,os⟩) :
  wpAny (model prog w) A (getAttrBy (.ref a) (.str "__class__" p) false) Q E ⟨h,g,d,t,os⟩:=by
 obtain⟨Y,N,v,q,bs,l,u,sub,ab,r,U,H,B,z,y,x,T,J⟩:=G.obj k;have f0:=F.attrBase_ValueError.ga.bind (.ref a);have n:(Value.builtin "BaseException.__getattribute__" == Value.builtin "object.__getattribute__")=false:=by decide +kernel
 have s:(onTheHeap (Value.ref C)&&Value.builtin "BaseException.__getattribute__" == Value.builtin "object.__getattribute__")=false:=by rw[n];rfl
 have L:=Q8 (M:=model prog w) k G.ga;have L2:=Q8 (M:=model prog w) k G.gt
 repeat (any_goals (first|assumption|(with_reducible refine Q3 hx ?_;rw[f])|with_reducible refine L.at ?_|with_reducible refine L2.at ?_|wp_step))
 refine Vm F.attrBase_ValueError.ga.plain F.entry_bexc_ga (Lv k G hx f<|M9 k G hx f ?_)
 repeat (any_goals (first|assumption|wp_step))
def RX{Q:Yp->Shared->Prop}(k:K.In h)(G:Xx K C)(hx:h.get? a=some o)(f:o.cls=.ref C)(hq:Q (some<|.ref C) ⟨h,g,d,t+1,os⟩) :
  wpAny (model prog w) A (getAttr? (.ref a) "__class__") Q E ⟨h,g,d,t,os⟩:=by
 unfold getAttr? getAttrBy?
 repeat (any_goals (first|assumption|with_reducible apply Ma k G hx f|wp_step))
end
end ExcR
namespace ExcR
open L2
noncomputable def UH(a C:Addr)(g:Yq):HO:=.ext λh=>∃o,h.get? a=some o/\(o.cls,o.dict)=(.ref C,g)/\∃f,o.data=.fields f
noncomputable abbrev TN(a C:Addr):HO:=UH a C none
def D4{h a T C g q}(x:Trc h a T (.ref C,g) q):ObjOk P w H h a (UH a C g):=by
 obtain⟨_,⟨o,l,f,s,r,_⟩,_⟩:=x;exact⟨⟨o,f,s,l,r⟩,⟨o,f⟩,λv u ⟨o1,p,n⟩ k=>⟨o1,k o1 p,n⟩⟩
def Re{K M h C}(k:K.In h)(e:(PySem.W.clsIn K C).isSome=true):PySem.W.Looks M h (isType<|.ref C) true:=by
 unfold PySem.W.clsIn at e;split at e
 next g=>
  intro p n o l f q;exact Wb (wpAny_loadPart (f _ _<|k _ _ g)<|Wg q)
 grind
def Ou{K a C}(G:Xx K C):PySem.W.KitX K (.ref a) (.ref C) (λh=>∃o,h.get? a=some o/\o.cls=.ref C) where
 ty:=λM h _ ⟨o,h1,h2⟩=>h2▸(Vc h1).andThen .now
 it:=λM h k _=>Re k G.is
 ne:=λh tp dd its n sl k htp=>by
  refine Vx.mpr λq=>?_;obtain⟨bm,N,nm,q,bs,hdct,sn,sub,ab,col,dd,k0,k1,k2,k3,k5,hC,_⟩:=G.obj k
  grind
 ca:=λ{prog w A E Q s} k ⟨o,h1,h2⟩ q=>by
  exact RX k G h1 h2 q
section
variable {X:Cx}
def OF:UV X (.builtin "isinstance") (λxs H Q=>∃a C n c b,xs=[.ref a,c]/\H a=some (UH a C n)/\Xx X.K C/\(∃l,(∀u,RelV c u->u=l)/\PySem.W.kitOne X.K (.ref C) l=some b)/\Q (.bl b) H):=by
 intro pins s E H xs J Q I v h;obtain⟨a,C,n,c,b,rfl,y,G,⟨l,g,e⟩,q⟩:=h;cases v with
 |cons r w=>
  cases w with
  |cons x f=>
   cases f
   obtain rfl:=r;cases g _ x
   obtain⟨⟨o,B,A,_⟩,_⟩:=(I.hok a _ y);exact WI (Ou G) I.kIn ⟨o,B,(WJ Prod.fst A)⟩ e (λz=>nomatch z) λp=>⟨.bl b,H,I.tok p,rfl,q⟩
def X9{K}(g:autoParam (X.K=K) au_0):UV X (.builtin "isinstance") (λxs H Q=>∃a C h c b,xs=[.ref a,c]/\H a=some (UH a C h)/\Xx K C/\(∃f,(∀u,RelV c u->u=f)/\PySem.W.kitOne K (.ref C) f=some b)/\Q (.bl b) H):=by
 subst g;exact OF
end
def Kp{H H'}{h v s}(u:Un fs [] H H' h v)(k:UW fs ex v s)(hx:∀b∈ex,h.get? b=none):Un fs [] H H' h s:=by
 have f:∀b o,h.get? b=some o->b∉ex:=λb o q z=>by rw[hx b z]at q;cases q
 refine⟨λb o q n r g=>k.keep b o (u.keep b o q n r g) r (f b o q),λb o q n x g=>?_,u.free,λb o q g=>?_,u.tups,u.frzs,u.tbls⟩
 ·obtain⟨sl,p⟩:=u.slot b o q n x g;obtain⟨l,w⟩:=k.slot b _ p (f b o q)
  grind
 ·obtain⟨o1,p⟩:=u.there b o q g;obtain⟨l,w⟩:=k.slot b _ p (f b o q)
  grind
noncomputable def Xc(X:Cx)(a:Addr):Cx:={X with A:=X.A.mark (some<|.ref a),calm:=false,xe:=λ_ _=>False}
noncomputable def Kw(X:Cx)(pins:Yg)(D:Ends)(l:ExceptHandler):Cx:=
 {X with pn:=X.pn++pins,xe:=λe h=>wpAny (model X.prog X.w) X.A (noteFrame e X.env) (λ_ g=>wpAny (model X.prog X.w) X.A (setFlight e none) (λ_ f=>wpAny (model X.prog X.w) X.A (handleBy e X.env [l]) (SP X pins D) X.xe f) X.xe g) X.xe h}
section
variable {X:Cx}{pins pins1:Yg}{σ:L2.St}{H H':Hp}{s s':Shared}{a T C:Addr}{D:Ends}{h0:ExceptHandler}
def Mx(o:X.Ok):(Xc X a).Ok:=⟨o.mod,o.kind,o.glob,o.blt,o.above,o.inj,o.has,o.cab,(λz=>nomatch z),o.frames,o.stk,o.exf,o.bs,o.bsz,o.noex,o.exfs,o.funs,o.frf⟩
def Pp(I:Inv X pins σ H s):Inv (Xc X a) pins σ H s:=⟨Mx I.ok,I.os,I.bare,I.base,I.loc,I.cell,I.free,I.freeC,I.pin,I.hok,I.len⟩
def Nw(o:X.Ok)(I:Inv (Xc X a) pins σ H s):Inv X pins σ H s:=⟨o,I.os,I.bare,I.base,I.loc,I.cell,I.free,I.freeC,I.pin,I.hok,I.len⟩
def HR(o:X.Ok):(Kw X pins D h0).Ok:=⟨o.mod,o.kind,o.glob,o.blt,o.above,o.inj,o.has,o.cab,o.hd,o.frames,o.stk,o.exf,o.bs,o.bsz,o.noex,o.exfs,o.funs,o.frf⟩
def RM(o:(Kw X pins D h0).Ok):X.Ok:=⟨o.mod,o.kind,o.glob,o.blt,o.above,o.inj,o.has,o.cab,o.hd,o.frames,o.stk,o.exf,o.bs,o.bsz,o.noex,o.exfs,o.funs,o.frf⟩
def MQ(I:Inv X pins σ H s):Inv (Kw X pins D h0) [] σ H s:=⟨HR I.ok,I.os,I.bare,I.base,I.loc,I.cell,I.free,I.freeC,λp f=>I.pin p (by simpa [Kw]using f),I.hok,I.len⟩
def Nx(I:Inv (Kw X pins D h0) pins1 σ H s):Inv X pins σ H s:=⟨RM I.ok,I.os,I.bare,I.base,I.loc,I.cell,I.free,I.freeC,λp f=>I.pin p (Qe _ f),I.hok,I.len⟩
def AO{h'}{tk}(I:Inv X pins σ H s)(hN:X.N.Nodup)(hi:X.N[i]?=some n)(hk:X.env.scope.names.lookup n=some .local)(hm:∀(i:Nat) x v,X.N[i]?=some x->σ[i]?=some (some v)->Vis X.env.scope x->∃u,RelV v u/\Look X.env s.heap m x u)(hn:s.heap.Ns X.env.locals m)(l:h'.Ns X.env.locals (λx=>if x=n then v else m x))(f:Heap.SameBut X.env.locals s.heap h'):Inv X pins (σ.set i none) H {s with heap:=h',toks:=tk}:=by
 have cne:=I.cne;have h:∀{b o},X.s₀.heap.get? b=some o->b≠X.env.locals:=λe=>Ww (Wv (Wh e) I.ok.above);refine⟨I.ok,I.os,I.bare,⟨λb o e n r hx=>(f.2 b<|h e).trans (I.base.keep b o e n r hx),λb o e n r hx=>?_,I.base.free,λb o e hx=>?_,I.base.tups,I.base.frzs,I.base.tbls⟩,⟨_,l,λj y J g E e3=>?_⟩,λy c e=>?_,I.free,I.freeC,λp hp=>?_,λb Q e=>?_,by simpa using I.len⟩
 ·obtain⟨sl,g⟩:=I.base.slot b o e n r hx;exact⟨sl,(f.2 b<|h e).trans g⟩
 ·obtain⟨U,g⟩:=I.base.there b o e hx;exact⟨U,(f.2 b<|h e).trans g⟩
 ·by_cases A:j=i
  ·grind
  ·rw[Vh (Ne.symm A)]at E;obtain⟨L,M,q⟩:=hm j y J g E e3;refine⟨L,M,?_⟩;rcases q with⟨k,e⟩|⟨k,c,e,z⟩
   ·have hy:y≠n:=λz=>A (BU hN g (z▸hi));exact .inl ⟨k,by simp[hy,e]⟩
   ·exact .inr ⟨k,c,e,z.sameBut f (cne y c e)⟩
 ·obtain⟨G,z⟩:=I.cell y c e;exact⟨G,z.sameBut f (cne y c e)⟩
 ·obtain⟨e,n,w,Y,d⟩:=I.pin p hp;exact⟨(f.2 p.1 w).trans e,n,w,Y,d⟩
 ·refine(I.hok b Q e).stay (λc u hc q=>(f.2 c ?_).trans q) (λ_ q=>q) λ_ _ q=>q;rintro rfl;have B:=I.free;rcases hc with z|z
  ·rw[←z,B]at e;cases e
  ·rw[B]at z;cases z
end
noncomputable def AQ(i:Nat)(D:Ends):Ends:={nx:=λf H=>D.nx (f.set i none) H,rt:=D.rt,bk:=λf H=>D.bk (f.set i none) H,ct:=λf H=>D.ct (f.set i none) H}
noncomputable def hx(K:Yd)(l:Addr)(i:Nat)(g:TS)(D:Ends):L2.St->XK:=λf c h H=>∃C,c=.ref C/\PySem.W.exmOne K (.ref C) (.ref l)=some true/\
 ∀a,H a=none->g (AQ i D) (f.set i<|some<|.ref a) (upd H a<|UH a C h)
def Tw(CX:CXT)(X:Cx)(E:L2.St->XK):Prop:=∀(pins:Yg) (f:L2.St) (H:Hp) (s:Shared) (e:Value) (g:Shared),Inv X pins f H s->CX X.stack H s (E f) e g->X.xe e g
noncomputable def Ak(sp:Sp)(E:L2.St->XK)(t:TA):TE:=λf H Q=>t f H λg h=>sp (g++[]) h Q (E f)
section
variable {X:Cx}{CX:CXT}{k:Nat}{ps:Ym}{sp:Sp}{E:L2.St->XK}{x:Str}{p pos:Pos}{e:Expr}{es:Yn}{t:TA}
def Ny(C:Own.Callee X.prog X.w X.K X.mg X.base CX k x ps sp)(J:Uh k X.A)(L:Tw CX X E)(ha:PA X (e::es) t)(U:autoParam (Gl X x) au_0)(y:autoParam ((x==("__debug__" : Str))=false) au_1)(Y:autoParam (starEach (e::es) X.env=(false,eval e X.env)::starEach es X.env) au_0)(v:autoParam ((backTo pos<|starEach es X.env).any (·.1)=false) au_0) :
  PE X (.Call (.Name x p) (e::es) [] pos) (Ak sp E t):=by
 obtain⟨f,fd,F,M,T,_,hb⟩:=C.ex;intro pins s n H Q I h;refine Q0 (Kb I U M ?_ y);refine Q1 I.ok.mod.kin T (thn (ha pos pins s n H _ I h) λl o ⟨B,z,g,r,q⟩=>⟨g.kIn,?_⟩) Y v;have N:(l++[]).length=ps.length:=by rw[WE,←r.length,←F.len _ _ _ _ q,WE]
 refine wpAny_call (Ql (F.run X.A X.stack o z ⟨l,[]⟩ (l++[]) (B++[]) Q (E n) J g.env0 (hb o l g.kIn N) (by grind) q) λr G hq=>?_);cases r with
 |error e=>exact L pins n z o e G g hq
 |ok fl=>
  cases fl with
  |ret u=>exact g.after hq
  |next=>trivial
  |_=>exact False.elim hq
end
section
variable {X:Cx}{pins:Yg}{D:Ends}{x n:Str}{np hpos pos:Pos}{b0:Stmt}{suite body:Yo}{C0:Addr}{i:Nat}{ts:TS}
def Tt(B:X.stack=X.env::X.outer)(hfr:X.env.frame=some X.env.locals)(hN:X.N.Nodup)(hi:X.N[i]?=some n)(hk:X.env.scope.names.lookup n=some .local)(hg:Gl X x)(hm:X.mg x=some (.ref C0))(hdb:(x==("__debug__" : Str))=false)(hs:∀a,PSs (Xc X a) (b0::suite) ts):Tw (CXe X.prog X.w) (Kw X pins D<|.ExceptHandler (some<|.Name x np) (some n) (b0::suite) hpos) (hx X.K C0 i ts D):=by
 rintro pins1 σ H s e s' I ⟨a,T,C,dx,p,rfl,y,C',ec,em,q⟩;obtain rfl:=Value.ref.inj ec;have I:=Nx I;have J:=I.call' y.os y.un y.hok y.bare λb z=>absurd z (by simp);have hF:=J.stack;have hA:=J.ok.frames;rw[B]at hF hA;refine Bf hA hF hfr y.tr λh2 T2 Q tr2 k2=>?_
 have M:s.heap.get? T2=none:=by
  cases z:s.heap.get? T2 with
  |none=>rfl
  |some o=>
   obtain⟨o1,z1⟩:=y.un.there T2 o z (by simp);exact absurd (Wh z1) (QS.mpr Q)
 have U:=y.hok.fresh Q
 have u2:Un (frs X.stack) [] H p s.heap h2:=Kp y.un (by rw[B];exact k2) λb g=>by
  rcases Wo.mp g with rfl|g
  ·exact y.na
  ·rw[Wf.mp g];exact y.nT
 have ok2:=XS y.hok k2 (λb g=>J.stkFree b (by rw[B];exact g)) λb g=>by
  rcases Wo.mp g with rfl|g
  ·exact y.fa
  ·rw[Wf.mp g];exact y.fT
 refine KA tr2 λh3 G k3=>?_;have u3:=Kp u2 (k3.mono (by simp) λ_ z=>z) λb g=>by rw[Wf.mp g];exact M
 have L:=XS ok2 k3 (by simp) λb g=>by rw[Wf.mp g];exact U
 have J3:Inv X pins σ p {s' with heap:=h3}:=I.call' y.os u3 L y.bare λb z=>absurd z (by simp)
 have S3:Inv (Xc X a) pins σ p {s' with heap:=h3}:=Pp J3
 refine Vp (Vf<|Kb S3 hg hm ?_ hdb) (by intro z;cases z);obtain⟨_,⟨oe,vs,g1,g2,g3,g4⟩,_⟩:=id G;refine(PySem.W.exm_one J3.kIn ((show oe.cls=Value.ref C from WJ Prod.fst g2)▸(Vc g1).andThen .now) em).here ?_
 refine codeAny_handlers_suite_as (KA G λh4 tr4 k4=>?_);have l:=Kp u3 (k4.mono (by simp) λ_ z=>z) λb g=>by rw[Wf.mp g];exact M
 have u5:Un (frs X.stack) [] H (upd p a<|UH a C dx) s.heap h4:=by
  have ne:∀b o,s.heap.get? b=some o->b≠a:=λb o z w=>by rw[w,y.na]at z;cases z
  have r:∀b o,p b=some o->b≠a:=λb o z w=>by rw[w,y.fa]at z;cases z
  refine⟨l.keep,l.slot,λb o z n m=>by rw[Ug (ne b o z)];exact l.free b o z n m,l.there,λb xs z=>?_,λb o u z=>?_,λb ps z=>?_⟩
  ·rw[Ug (r b _<|l.tups b xs z)];exact l.tups b xs z
  ·rw[Ug (r b _<|l.frzs b o u z)];exact l.frzs b o u z
  ·obtain⟨more,z1⟩:=l.tbls b ps z;exact⟨more,by rw[Ug (r b _ z1)];exact z1⟩
 have ok5:HOk X.prog X.w (upd p a<|UH a C dx) h4:=λb ob e=>by
  by_cases g:b=a
  ·subst g;rw[Ur]at e;cases e
   exact D4 tr4
  ·rw[Ug g]at e;refine((XS L k4 (by simp) λb g=>by rw[Wf.mp g];exact U) b ob e).stay (λ_ _ _ z=>z) (λc z=>?_) λc xs z=>?_
   ·rw[Ug λw=>by rw[w,y.fa]at z;cases z];exact z
   ·rw[Ug λw=>by rw[w,y.fa]at z;cases z];exact z
 have J5:Inv X pins σ (upd p a<|UH a C dx) {s' with heap:=h4}:=I.call' y.os u5 ok5 y.bare λb z=>absurd z (by simp)
 have S5:Inv (Xc X a) pins σ (upd p a<|UH a C dx) {s' with heap:=h4}:=Pp J5
 refine Ph (X:=Xc X a) S5 hN hi (.inl hk) (v:=.ref a) rfl (λs6 S6=>?_) (.inr hk);refine WA (hs a pins s6 _ _ _ S6<|q a y.fa) (λf s7 h7=>?_) λ_ _ z=>z.elim
 have gone:∀{h:L2.St} {Y:Hp} {R:Unit->Shared->Prop},Inv (Xc X a) pins h Y s7->(∀s8,Inv X pins (h.set i none) Y s8->R () s8)->wpAny (model X.prog X.w) X.A (do bindName X.env n .none;unbindBehindTheSuite X.env n hpos) R X.xe s7:=λ{h Y R} E hR=>by
  obtain⟨m,hn,hl⟩:=id E.loc;exact wpAny_nameGoes_keeps hk hn (by rw[show X.env.scope.kind=.function from J5.ok.kind];rfl) λh8 v hn8 hs8=>hR _ (AO (Nw J5.ok E) hN hi hk hl hn hn8 hs8)
 cases f with
 |ret u=>obtain⟨v,h,Y,E,rv,q7⟩:=h7;exact gone E λs8 I8=>⟨v,_,_,I8,rv,q7⟩
 |_=>obtain⟨h,Y,E,q7⟩:=h7;exact gone E λs8 I8=>⟨_,_,I8,q7⟩
def O8{w:Ends->TS}(y:∀pins D,PSs (Kw X pins D<|.ExceptHandler (some<|.Name x np) (some n) (b0::suite) hpos) body (w D)) :
  PS X (.Try body [.ExceptHandler (some<|.Name x np) (some n) (b0::suite) hpos] [] [] pos) (λD o H=>w D D o H):=by
 intro pins s o H D I h;refine wpAny_Try_except (WA (y pins D [] s o H D (MQ I) h) (λf A p=>?_) λ_ _ z=>z);cases f with
 |next=>
  obtain⟨g,l,J,q⟩:=p;exact Wg ⟨g,l,Nx J,q⟩
 |ret u=>obtain⟨v,g,l,J,r,q⟩:=p;exact⟨v,g,l,Nx J,r,q⟩
 |_=>obtain⟨g,l,J,q⟩:=p;exact⟨g,l,Nx J,q⟩
end
noncomputable def Uc(f:Yh)(x:Str):Addr:=match f x with
 |some (.ref C)=>C
 |_=>0
def SE(h:f x=some (.ref C)):Uc f x=C:=by unfold Uc;rw[h]
def XY{v pos}(h:∃u,X.mg x=some u/\RelV v u)(f:autoParam (Gl X x) au_0)(g:autoParam ((x==("__debug__" : Str))=false) au_1):PE X (.Name x pos) (tC v):=by
 obtain⟨u,n,l⟩:=h;exact TM f n l g
def PL{C pos}(h:X.mg x=some (.ref C))(f:autoParam (Gl X x) au_0)(g:autoParam ((x==("__debug__" : Str))=false) au_1):PE X (.Name x pos) (tC<|.ref C):=TM f h rfl g
end ExcR
namespace Own
open L2 M
section
variable {X:Cx}{pins:Yg}{σ:L2.St}{H:Hp}{s:Shared}
def Do{p:Int×Int}{its}(r:Vals [V.int p.1,V.int p.2] its):∃g f,its=[.int p.1 g,.int p.2 f]:=by
 cases r with
 |cons o h=>
  cases h with
  |cons n l=>
   cases l
   obtain⟨g,rfl⟩:=o;obtain⟨f,rfl⟩:=n
   grind
def IK{x y p q u v}(I:Inv X pins σ H s)(U:A.units<cLine)(L:RelV x u)(J:RelV y v)(Y:Xj H x p)(hq:Xj H y q):SeqAt.EqAt A s u v (decide (p=q)):=by
 obtain⟨a,rfl,C⟩:=Y;obtain⟨b,rfl,l⟩:=hq;obtain rfl:=L;obtain rfl:=J;by_cases n:a=b
 ·subst n;rw[C]at l
  have e:p=q:=by
   injection l with l;injection l with l;injection l with g f;injection f with f _;exact Prod.ext (V.int.inj g) (V.int.inj f)
  rw[Wi e];exact SeqAt.EqAt.same _
 ·obtain⟨_,T,N,G⟩:=(I.hok a _ C);obtain⟨_,Q,M,E⟩:=(I.hok b _ l);obtain⟨B,w,rfl⟩:=Do N;obtain⟨r,o,rfl⟩:=Do M
  have h:=SeqAt.RcAt.tuples (e:=λj=>if j=0 then p.1==q.1 else p.2==q.2) G E U (λj g f=>by
   have hj:j=0\/j=1:=by
    have h1':j<2:=g;lia
   rcases hj with rfl|rfl
   ·exact SeqAt.EqAt.int_int _ _ _ _
   ·exact SeqAt.EqAt.int_int _ _ _ _)
  have e:((List.range (min ([Value.int p.1 B,Value.int p.2 w].toArray).size ([Value.int q.1 r,Value.int q.2 o].toArray).size)).all (λj=>if j=0 then p.1==q.1 else p.2==q.2)&&([Value.int p.1 B,Value.int p.2 w].toArray).size==([Value.int q.1 r,Value.int q.2 o].toArray).size)=decide (p=q):=by
   show((List.range 2).all (λj=>if j=0 then p.1==q.1 else p.2==q.2)&&true)=decide (p=q);rw[Bool.and_true];have e2:(List.range 2).all (λj=>if j=0 then p.1==q.1 else p.2==q.2)=((p.1==q.1)&&(p.2==q.2)):=by simp[List.range,List.range.loop]
   rw[e2];by_cases g:p.1=q.1
   ·by_cases f:p.2=q.2
    ·rw[Wi (Prod.ext g f)];simp[g,f]
    ·rw[Wq (λz=>f (by rw[z]))];simp[f]
   ·rw[Wq (λz=>g (by rw[z]))];simp[g]
  rw[e]at h;exact SeqAt.EqAt.of_refs n h
noncomputable def eP(H:Hp)(q:Int×Int)(u:Value):Bool:=match u with
 | .ref a=>(match H a with
  |some (.tup [.int i,.int j])=>decide ((i,j)=q)
  |_=>false)
 |_=>false
def Ai{p q}(h:Xj H v p)(r:RelV v u):eP H q u=decide (p=q):=by
 obtain⟨a,rfl,f⟩:=h;obtain rfl:=r;unfold eP;simp_all
theorem Dx:∀{vs us}{ps:Ye},Vals vs us->LV Xj H vs ps->us.any (eP H q)=decide (q∈ps)
 |_,_,[],.nil,_=>rfl
 |_,_,_::_,.nil,h|v::vs,u::us,[],.cons _ _,h=>absurd h.1 (by simp)
 |v::vs,u::us,p::ps,.cons r t,h=>by
  obtain⟨l,e,f⟩:=h.2 0 p rfl;cases e
  have g:LV Xj H vs ps:=⟨by simpa using h.1,λi x e=>h.2 (i+1) x e⟩;rw[QF,Ai f r,Dx t g];by_cases n:p=q
  ·grind
  ·grind
noncomputable def Sz(neg:Bool):R2:=λx y H Q=>∃(l:Addr) (f:Ye) (q:Int×Int),y=.ref l/\Xj H x q/\LAt Xj H l f/\Q (.bl (if neg then !decide (q∈f)else decide (q∈f))) H
theorem Dv{x v q}(I:Inv X pins σ H s)(l:A.units<cLine)(g:RelV x v)(hx:Xj H x q):∀{vs us}{ps:Ye},Vals vs us->LV Xj H vs ps->∀u∈us,SeqAt.EqAt A s u v (eP H q u)
 |_,_,_,.nil,_,u,f=>by cases f
 |w::vs,u::us,[],.cons _ _,h,_,_=>absurd h.1 (by simp)
 |w::vs,u::us,p::ps,.cons r t,h,n,f=>by
  obtain⟨y,e,hw⟩:=h.2 0 p rfl;cases e
  have o:LV Xj H vs ps:=⟨by simpa using h.1,λi x e=>h.2 (i+1) x e⟩;rcases Wo.mp f with rfl|f
  ·rw[Ai hw r];exact IK I l r g hw hx
  ·exact Dv I l g hx t o n f
def GH(z:X.A.in1.units<cLine):OpR X (compareOp .In) (Sz false):=by
 intro pins s σ H x y v u Q I o n h;obtain⟨l,E,q,rfl,hx,⟨C,B,g⟩,k⟩:=h;cases n
 obtain⟨f,r,p,G⟩:=I.list (SqL.of B);refine SeqAt.in_listAt (eP H q) p.isList (λw hw=>Dv I z o hx r g w (by grind)) ⟨.bl _,H,I,rfl,?_⟩;rwa[show f.toArray.any (eP H q)=f.any (eP H q) by simp,Dx r g]
end
end Own
namespace M
open L2 Own
section
variable {α:Type}{R:Hp->V->α->Prop}{H:Hp}
noncomputable def pick(c:α->Bool)(d:V×α):Option V:=if c d.2=true then some d.1 else none
end
end M
namespace Own
open L2 M
section
variable {X:Cx}
noncomputable def UT(i:Int)(n:Nat):Yf:=(List.range n).map λ(k:Nat)=>i+(k:Int)
end
end Own
namespace Own
open L2
section
variable {X:Cx}{K:Yd}
theorem AJ:∀{bs}{us:Yl},Vals (bs.map V.bl) us->LSm.BoolsAre us bs
 |[],_,.nil=>.nil
 |b::r,_,.cons h t=>by
  cases h
  exact .cons b (AJ t)
noncomputable def E9(K:Yd)(neg:Bool):R2:=λx y H Q=>∃(p q:Addr) (xs:List V),x=.ref p/\y=.ref q/\SqL K H p xs/\SqL K H q []/\Q (.bl (if neg then !xs.isEmpty else xs.isEmpty)) H
def Dh(l:X.A.units<cLine)(E:autoParam (X.K=K) au_0):OpR X (compareOp .Eq) (E9 K false):=by
 subst E;intro pins s J H x y v u Q I w o h;obtain⟨p,q,xs,rfl,rfl,C,hq,k⟩:=h;obtain rfl:=w;obtain rfl:=o;obtain⟨L,B,f,_⟩:=I.list C;obtain⟨n,z,p2,_⟩:=I.list hq;have N:=B.length;have M:0=n.length:=z.length;have g:=k;by_cases e:xs.length=0
 ·refine SeqAt.eq_listAt (e:=λ_=>true) f.isList p2.isList (by simp;lia) l (λj T G=>by simp at G;lia) ⟨.bl xs.isEmpty,H,I,?_,g⟩;show _=Value.bool xs.isEmpty
  grind
 ·refine SeqAt.eq_list_lengthsAt f.isList p2.isList (by simp;lia) l ⟨.bl xs.isEmpty,H,I,?_,g⟩;cases xs with
  |nil=>exact absurd rfl e
  |cons a r=>rfl
end
end Own
namespace M
def sl:Yf->Yf->Prop
 |x::xs,y::f=>x<y\/(x=y/\sl xs f)
 |_,_=>False
def Kt(f:Ye):Prop:=f.length<=20/\f.Nodup/\∀q∈f,(1<=q.1/\q.1<=10/\1<=q.2/\q.2<=10)/\q.1≠q.2
open Own
noncomputable def exM(ps:Ye)(ns:Yf)(p:Nat):Int:=(ps.getD (ns.getD (p-1) 0-1).toNat (0,0)).2*(ps.getD (ns.getD p 0-1).toNat (0,0)).2
noncomputable def Xd(ns:Yf)(p:Nat):Yf:=ns.take (p-1)++[ns.getD p 0,ns.getD (p-1) 0]++ns.drop (p+1)
def Aw{p}(o:1<=p)(h:p<ns.length):(Xd ns p).Perm ns:=by
 unfold Xd;have n:ns.getD p 0=ns[p]:=by grind
 have l:ns.getD (p-1) 0=ns[p-1]'(by lia):=by grind
 rw[n,l]
 have e:ns=ns.take (p-1)++[ns[p-1]'(by lia),ns[p]]++ns.drop (p+1):=by
  have f:ns.drop (p-1)=ns[p-1]'(by lia)::ns.drop (p-1+1):=WO (by lia);have g:p-1+1=p:=by lia
  rw[g,(WO h)]at f
  calc ns=ns.take (p-1)++ns.drop (p-1):=(List.take_append_drop _ _).symm
   _=_:=by rw[f];simp
 refine List.Perm.trans ?_ (List.Perm.of_eq e.symm);exact List.Perm.append_right _ (List.Perm.append_left _<|List.Perm.swap _ _ _)
def runI_mem:x∈UT 1 n↔1<=x/\x<=n:=by
 unfold UT;rw[WC];constructor
 ·grind
 ·intro h;exact⟨(x-1).toNat,Q4.mpr (by lia),by lia⟩
def NV(n:Nat):(UT 1 n).length=n:=by unfold UT;rw[Wd,List.length_range]
end M
namespace Pu
open L2 Own
inductive D where
 |int (i:Int)|bl (b:Bool)|non|str (x:Str)|ty (n:String)|tup (ds:List D)|lst (ds:List D)|scr (ns:Yf)|dK (kvs:List (Key×V))|dT (kvs:List (List Key×V))|loc (a:Addr) (d:D)|err (C:Addr)|ref (a:Addr)|ins (C:Addr) (xs:Ym) (ds:List D)|dF (kvs:List (List Key×V))|erM (C:Addr) (r:Yf)|fL (ns:Yf)
mutual
inductive Rp (K:Yd) (H:Hp):D->V->Prop
 |int (i:Int):Rp K H (.int i) (.int i)
 |bl (b:Bool):Rp K H (.bl b) (.bl b)
 |non:Rp K H .non .non
 |str (x:Str):Rp K H (.str x) (.str x)
 |ty (n:String):Rp K H (.ty n) (.ty n)
 |tup {ds:List D} {vs:List V} {a:Addr}:H a=some (.tup vs)->Rps K H ds vs->Rp K H (.tup ds) (.ref a)
 |lst {ds:List D} {vs:List V} {a:Addr}:H a=some (.lst vs)->Rps K H ds vs->Rp K H (.lst ds) (.ref a)
 |scr {ns:Yf} {a:Addr}:SqL K H a (ns.map V.int)->Rp K H (.scr ns) (.ref a)
 |dK {kvs:List (Key×V)} {a:Addr}:H a=some (.dK kvs)->Rp K H (.dK kvs) (.ref a)
 |dT {kvs:List (List Key×V)} {a:Addr}:H a=some (.dT kvs)->Rp K H (.dT kvs) (.ref a)
 |dF {kvs:List (List Key×V)} {o:Obj} {a:Addr}:H a=some (.frz o<|.dT kvs)->Rp K H (.dF kvs) (.ref a)
 |loc {d:D} {a:Addr}:Rp K H d (.ref a)->Rp K H (.loc a d) (.ref a)
 |err {C a:Addr}:H a=some (ExcR.TN a C)->Rp K H (.err C) (.ref a)
 |ref (a:Addr):Rp K H (.ref a) (.ref a)
 |erM {C a dx l:Addr} {o:Obj} {r:Yf}:H a=some (ExcR.UH a C<|some dx)->H dx=some (.xd [("members",.ref l)])->H l=some (.frz o<|.lst<|r.map V.int)->Rp K H (.erM C r) (.ref a)
 |fL {a:Addr} {o:Obj} {ns:Yf}:H a=some (.frz o<|.lst<|ns.map V.int)->Rp K H (.fL ns) (.ref a)
 |ins {C a dx:Addr} {xs:Ym} {ds:List D} {vs:List V}:H a=some (.ins C dx<|xs.zip vs)->xs.length=vs.length->Rps K H ds vs->Rp K H (.ins C xs ds) (.ref a)
inductive Rps (K:Yd) (H:Hp):List D->List V->Prop
 |nil:Rps K H [] []
 |cons {d:D} {v:V} {ds:List D} {vs:List V}:Rp K H d v->Rps K H ds vs->Rps K H (d::ds) (v::vs)
end
section
variable {K:Yd}{H H':Hp}
def Rp.mono (S:Same H H') {d:D}{v:V}:Rp K H d v->Rp K H' d v:=
 Rp.rec (motive_1:=λd v _=>Rp K H' d v) (motive_2:=λg f _=>Rps K H' g f) .int .bl .non .str .ty (λh _ r=>.tup (S _ _ h) r) (λh _ r=>.lst (S _ _ h) r) (λh=>.scr (S.seq h)) (λh=>.dK (S _ _ h)) (λh=>.dT (S _ _ h)) (λh=>.dF (S _ _ h)) (λ_ h=>.loc h) (λh=>.err (S _ _ h)) .ref (λa b c=>.erM (S _ _ a) (S _ _ b) (S _ _ c)) (λh=>.fL (S _ _ h)) (λh e _ r=>.ins (S _ _ h) e r) .nil λ_ _=>.cons
def Rps.mono (S:Same H H') {ds:List D}:∀{vs:List V},Rps K H ds vs->Rps K H' ds vs:=by
 induction ds with
 |nil=>intro _ h;cases h;exact .nil
 |cons _ _ f=>intro _ h;cases h with|cons a b=>exact .cons (Rp.mono S a) (f b)
def Rps.len:∀{ds}{vs:List V},Rps K H ds vs->vs.length=ds.length:=by
 intro ds
 induction ds with
 |nil=>
  intro _ h;cases h
  rfl
 |cons _ _ f=>
  intro _ h;cases h with
  |cons h r=>
   exact WJ (· + 1) (f r)
def Rps.get:∀{ds vs}{i:Nat}{d:D},Rps K H ds vs->ds[i]?=some d->∃v,vs[i]?=some v/\Rp K H d v:=by
 intro ds
 induction ds with
 |nil=>
  intro _ i _ h e;simp at e
 |cons _ _ f=>
  intro _ i d h e;cases h with
  |cons h r=>
   cases i with
   |zero=>
    simp at e;subst e;exact⟨_,rfl,h⟩
   |succ i=>
    obtain⟨v,l,g⟩:=f r (by simpa using e);exact⟨v,by simpa using l,g⟩
def Rps.append:∀{ds es}{vs us:List V},Rps K H ds vs->Rps K H es us->Rps K H (ds++es) (vs++us):=by
 intro ds
 induction ds with
 |nil=>
  intro _ _ _ h s;cases h
  exact s
 |cons _ _ f=>
  intro _ _ _ h s;cases h with
  |cons h r=>
   exact .cons h (f r s)
theorem Rps.drop:∀{ds vs} n,Rps K H ds vs->Rps K H (ds.drop n) (vs.drop n)
 |_,_,0,r=>r
 |_,_,_+1,.nil=>.nil
 |_,_,n+1,.cons _ r=>Rps.drop n r
theorem Rps.take:∀{ds vs} n,Rps K H ds vs->Rps K H (ds.take n) (vs.take n)
 |_,_,0,_|_,_,_+1,.nil=>.nil
 |_,_,n+1,.cons h r=>.cons h (Rps.take n r)
end
mutual
noncomputable def imm:D->Bool
 | .tup f=>UC f
 | .lst _=>false
 | .scr _=>false
 | .dK _=>false
 | .dT _=>false
 | .loc _ _=>false
 | .err _=>false
 | .erM _ _=>false
 | .ins _ _ _=>false
 |_=>true
noncomputable def UC:List D->Bool
 |[]=>true
 |d::r=>imm d&&UC r
end
open Classical in
noncomputable def off(Z:Addr->Prop)(H:Hp):Hp:=λb=>if Z b then none else H b
section
variable {K:Yd}{H H':Hp}{Z Z':Addr->Prop}
def Kd(h:off Z H b=some o):H b=some o/\¬Z b:=by
 unfold off at h;by_cases z:Z b
 ·grind
 ·grind
def UB(h:H b=some o)(z:¬Z b):off Z H b=some o:=by
 unfold off
 grind
def Ul(S:Same H H')(g:∀b o,H b=some o->¬Z b->¬Z' b):Same (off Z H) (off Z' H'):=λb o h=>by
 obtain⟨f,l⟩:=Kd h;exact UB (S b o f) (g b o f l)
def off_sub:Same (off Z H) H:=λ_ _ h=>(Kd h).1
def Rp.off (q:∀b,Z b->Mut (H b)) {d:D}{v:V}:Rp K H d v->imm d=true->Rp K (off Z H) d v:=by
 have g:∀{a o},H a=some o->¬Mut (some o)->Pu.off Z H a=some o:=λh n=>UB h λz=>n (h▸q _ z);have f:∀{d} {P:Prop},imm d=false->imm d=true->P:=λh e=>by rw[h]at e;cases e
 exact Rp.rec (motive_1:=λd v _=>imm d=true->Rp K (Pu.off Z H) d v) (motive_2:=λl p _=>UC l=true->Rps K (Pu.off Z H) l p) (λi _=>.int i) (λb _=>.bl b) (λ_=>.non) (λx _=>.str x) (λn _=>.ty n) (λh _ r e=>.tup (g h id) (r<|by unfold imm at e;exact e)) (λ_ _ _=>f (by unfold imm;rfl)) (λ_=>f (by unfold imm;rfl)) (λ_=>f (by unfold imm;rfl)) (λ_=>f (by unfold imm;rfl)) (λh _=>.dF (g h id)) (λ_ _=>f (by unfold imm;rfl)) (λ_=>f (by unfold imm;rfl)) (λa _=>.ref a) (λ_ _ _=>f (by unfold imm;rfl)) (λh _=>.fL (g h id)) (λ_ _ _ _=>f (by unfold imm;rfl)) (λ_=>.nil) (λ_ _ a b e=>by
  unfold UC at e;rw[W2]at e;exact .cons (a e.1) (b e.2))
def Rps.off (g:∀b,Z b->Mut (H b)) {ds:List D}:∀{vs:List V},Rps K H ds vs->UC ds=true->Rps K (off Z H) ds vs:=by
 induction ds with
 |nil=>intro _ h _;cases h;exact .nil
 |cons _ _ f=>
  intro _ h e;unfold UC at e;rw[W2]at e;cases h with|cons a b=>exact .cons (Rp.off g a e.1) (f b e.2)
end
inductive O where
 |lst (ds:List D)|dK (kvs:List (Key×V))|dT (kvs:List (List Key×V))|ins (a C:Addr) (xs:Ym) (cs:List (Addr×List D))|lsA (a:Addr) (ds:List D)|nst (cs:List (Addr×List D))|nsl (a:Addr) (cs:List (Addr×List D))
instance:Coe (List D) O:=⟨O.lst⟩
noncomputable def O.d:O->D
 | .lst h=>.lst h | .dK f=>.dK f | .dT f=>.dT f | .ins _ C xs g=>.ins C xs (g.map λc=>.lst c.2) | .lsA _ h=>.lst h | .nst g=>.tup (g.map λc=>.lst c.2) | .nsl _ g=>.lst (g.map λc=>.lst c.2)
def O.adr (a:Addr):O->Addr->Prop
 | .lst _=>λb=>b=a
 | .dK _=>λb=>b=a
 | .dT _=>λb=>b=a
 | .ins x _ _ f=>λb=>b=x\/∃c∈f,b=c.1
 | .lsA x _=>λb=>b=x
 | .nst f=>λb=>∃c∈f,b=c.1
 | .nsl x f=>λb=>b=x\/∃c∈f,b=c.1
def OR(K:Yd)(F H:Hp)(a:Addr):O->Prop
 | .lst l=>∃f,H a=some (.lst f)/\Rps K F l f
 | .dK h=>H a=some (.dK h)
 | .dT h=>H a=some (.dT h)
 | .lsA x l=>a=x/\∃f,H a=some (.lst f)/\Rps K F l f
 | .ins x C xs g=>a=x/\xs.length=g.length/\(∃n,H a=some (.ins C n<|xs.zip (g.map λc=>V.ref c.1)))/\(∀c∈g,∃f,H c.1=some (.lst f)/\Rps K F c.2 f)/\(g.map (·.1)).Nodup
 | .nsl x g=>a=x/\H a=some (.lst (g.map λc=>V.ref c.1))/\(∀c∈g,∃f,H c.1=some (.lst f)/\Rps K F c.2 f)/\(x::g.map (·.1)).Nodup
 | .nst g=>F a=some (.tup (g.map λc=>V.ref c.1))/\(∀c∈g,∃f,H c.1=some (.lst f)/\Rps K F c.2 f)/\(g.map (·.1)).Nodup
def OR.mono {K F y H H'}{a o} (r:Same F y) (q:∀b,o.adr a b->∀x,H b=some x->H' b=some x) (h:OR K F H a o):OR K y H' a o:=by
 cases o with
 |lst A=>obtain⟨f,n,g⟩:=h;exact⟨f,q _ rfl _ n,Rps.mono r g⟩
 |lsA x A=>obtain⟨rfl,f,n,g⟩:=h;exact⟨rfl,f,q _ rfl _ n,Rps.mono r g⟩
 |nsl x w=>
  obtain⟨e,n,g,v⟩:=h;exact⟨e,q _ (.inl e) _ n,λc p=>let ⟨f,u,s⟩:=g c p;⟨f,q _ (.inr ⟨c,p,rfl⟩) _ u,Rps.mono r s⟩,v⟩
 |nst w=>
  obtain⟨n,g,v⟩:=h;exact⟨r _ _ n,λc p=>let ⟨f,u,s⟩:=g c p;⟨f,q _ ⟨c,p,rfl⟩ _ u,Rps.mono r s⟩,v⟩
 |ins x C xs w=>
  obtain⟨e,l,⟨z,n⟩,g,v⟩:=h;exact⟨e,l,⟨z,q _ (.inl e) _ n⟩,λc p=>let ⟨f,u,s⟩:=g c p;⟨f,q _ (.inr ⟨c,p,rfl⟩) _ u,Rps.mono r s⟩,v⟩
 |_=>exact q _ rfl _ h
theorem Kk{K F}:∀{f:List (Addr×List D)},(∀c∈f,∃vs,F c.1=some (.lst vs)/\Rps K F c.2 vs)->Rps K F (f.map λc=>.lst c.2) (f.map λc=>V.ref c.1)
 |[],_=>.nil
 |c::f,h=>let ⟨_,l,g⟩:=h c Wz;.cons (.lst l g) (Kk λo n=>h o (Wr _ n))
def OR.rpIn {K F w H a o} (r:Same F w) (n:∀b,o.adr a b->∀x,H b=some x->w b=some x) (h:OR K F H a o):Rp K w o.d (.ref a):=by
 cases o with
 |lst A=>obtain⟨q,g,f⟩:=h;exact .lst (n _ rfl _ g) (Rps.mono r f)
 |dK v=>exact .dK (n _ rfl _ h)
 |dT v=>exact .dT (n _ rfl _ h)
 |lsA x A=>obtain⟨rfl,q,g,f⟩:=h;exact .lst (n _ rfl _ g) (Rps.mono r f)
 |nsl x z=>
  obtain⟨e,g,f,y⟩:=h;exact .lst (n _ (.inl e) _ g) (Kk λc p=>let ⟨q,u,s⟩:=f c p;⟨q,n _ (.inr ⟨c,p,rfl⟩) _ u,Rps.mono r s⟩)
 |nst z=>
  obtain⟨g,f,y⟩:=h;exact .tup (r _ _ g) (Kk λc p=>let ⟨q,u,s⟩:=f c p;⟨q,n _ ⟨c,p,rfl⟩ _ u,Rps.mono r s⟩)
 |ins x C xs z=>
  obtain⟨e,l,⟨B,g⟩,f,y⟩:=h;exact .ins (n _ (.inl e) _ g) (by grind) (Kk λc p=>let ⟨q,u,s⟩:=f c p;⟨q,n _ (.inr ⟨c,p,rfl⟩) _ u,Rps.mono r s⟩)
def OR.rp {K F H a o} (f:Same F H) (h:OR K F H a o):Rp K H o.d (.ref a):=h.rpIn f λ_ _ _ e=>e
def OR.mut {K F H a o} (h:OR K F H a o):∀b,o.adr a b->Mut (H b):=by
 cases o with
 |lst w=>obtain⟨s,g,p⟩:=h;intro b e;rw[show b=a from e,g];trivial
 |dK n=>intro b e;rw[show b=a from e,show H a=some (.dK n)from h];trivial
 |dT n=>intro b e;rw[show b=a from e,show H a=some (.dT n)from h];trivial
 |lsA x w=>obtain⟨rfl,s,g,p⟩:=h;intro b e;rw[show b=a from e,g];trivial
 |nsl x v=>
  obtain⟨e,g,p,u⟩:=h;intro b f;rcases f with f|⟨c,r,f⟩
  ·rw[show b=a from f.trans e.symm,g];trivial
  ·obtain⟨s,q,_⟩:=p c r;rw[f,q];trivial
 |nst v=>
  obtain⟨g,p,u⟩:=h;rintro b ⟨c,r,f⟩;obtain⟨s,q,_⟩:=p c r;rw[f,q];trivial
 |ins x C xs v=>
  obtain⟨e,l,⟨y,g⟩,p,u⟩:=h;intro b f;rcases f with f|⟨c,r,f⟩
  ·rw[show b=a from f.trans e.symm,g];trivial
  ·obtain⟨s,q,_⟩:=p c r;rw[f,q];trivial
inductive S where
 |bor (d:D)|sh (d:D)|own (o:O)|view (o:O)|tmp (d:D)
abbrev Γ:=List (Option S)
noncomputable def D.strip:D->D
 | .loc _ d=>d|d=>d
def Rp.strip {K H d v} (h:Rp K H d v):Rp K H d.strip v:=by
 cases h with
 |loc h=>exact h
 |int i=>exact .int i
 |bl b=>exact .bl b
 |non=>exact .non
 |str x=>exact .str x
 |ty n=>exact .ty n
 |tup h r=>exact .tup h r
 |lst h r=>exact .lst h r
 |scr h=>exact .scr h
 |dK h=>exact .dK h
 |dT h=>exact .dT h
 |dF h=>exact .dF h
 |err h=>exact .err h
 |ref a=>exact .ref a
 |erM l g f=>exact .erM l g f
 |fL h=>exact .fL h
 |ins h e r=>exact .ins h e r
noncomputable def S.d:S->D
 | .bor d=>d.strip | .sh d=>d | .own o=>o.d | .view o=>o.d | .tmp d=>d
noncomputable def arg(d:D):S:=match imm d with|true=>.sh d|false=>.bor d
noncomputable def UM(d:D):S:=match imm d with|true=>.sh d|false=>.tmp d
noncomputable def S.sub:S->D->S
 | .bor _,e=>arg e | .tmp _,e=>UM e | .own (.nst _),e=>UM e | .view (.nst _),e=>UM e | .own (.nsl _ _),e=>UM e | .view (.nsl _ _),e=>UM e|_,e=>.sh e
noncomputable def S.shd:S->Option D
 | .sh d=>some d | .own o=>some o.d
 | .bor d=>match imm d with|true=>some d|false=>none
 | .tmp d=>match imm d with|true=>some d|false=>none
 | .view _=>none
noncomputable def S.slot:S->Option S
 | .view _=>none | .bor d=>some (.bor d) | .sh d=>some (.sh d) | .own f=>some (.own f)
 | .tmp d=>match imm d with|true=>some (.sh d)|false=>none
def Lq(h:Γ)(g:L2.St)(b:Addr):Prop:=∃(i:Nat) (f:O) (a:Addr),h[i]?=some (some<|.own f)/\g[i]?=some (some<|.ref a)/\f.adr a b
def zof(B:Addr->Prop)(g:Γ)(f:L2.St):Addr->Prop:=λb=>B b\/Lq g f b
def SV(K:Yd)(Z:Addr->Prop)(f H:Hp):S->V->Prop
 | .bor d,v=>Rp K f d v
 | .sh d,v=>Rp K (off Z H) d v
 | .own o,v=>∃a,v=.ref a/\(∀b,o.adr a b->f b=none)/\OR K (off Z H) H a o
 |_,_=>False
def TV(K:Yd)(Z:Addr->Prop)(f H H':Hp):S->V->Prop
 | .bor d,v=>Rp K f d v
 | .sh d,v=>Rp K (off Z H') d v
 | .own o,v=>∃a,v=.ref a/\(∀b,o.adr a b->H b=none)/\OR K (off (λb=>Z b\/o.adr a b) H') H' a o
 | .view o,v=>∃a,v=.ref a/\OR K (off Z H') H' a o
 | .tmp d,v=>Rp K H' d v
structure Ud (K:Yd) (H0:Hp) (B:Addr->Prop) (H:Hp) (σ:L2.St) (γ:Γ):Prop where
 same:Same H0 H
 len:σ.length=γ.length
 bm:∀b,B b->Mut (H b)
 own:∀(i j:Nat) (a a':Addr) (ds es:O) (b:Addr),γ[i]?=some (some<|.own ds)->γ[j]?=some (some<|.own es)->σ[i]?=some (some<|.ref a)->σ[j]?=some (some<|.ref a')->ds.adr a b->es.adr a' b->i=j
 slot:∀(i:Nat) (s:S),γ[i]?=some (some s)->∃v,σ[i]?=some (some v)/\SV K (zof B γ σ) H0 H s v
section
variable {K:Yd}{H0 H H1 H':Hp}{B Z Z':Addr->Prop}{σ:L2.St}{γ:Γ}
def XM(S:Same H H'){b}(h:Mut (H b)):Mut (H' b):=by
 cases e:H b with
 |none=>rw[e]at h;exact h.elim
 |some o=>rw[S b o e,←e];exact h
def KG(h:Mut (H b)):∃o,H b=some o:=by
 cases e:H b with
 |none=>rw[e]at h;exact h.elim
 |some o=>grind
def Ud.grow (E:Ud K H0 B H σ γ) (S:Same H H'):Ud K H0 B H' σ γ where
 same:=E.same.trans S
 len:=E.len
 bm b h:=XM S (E.bm b h)
 own:=E.own
 slot i s h:=by
  obtain⟨v,h1,h2⟩:=E.slot i s h;refine⟨v,h1,?_⟩;cases s with
  |bor d=>trivial
  |sh d=>exact Rp.mono (Ul S λ_ _ _ z=>z) h2
  |own ds=>
   obtain⟨a,e1,e3,e4⟩:=h2;exact⟨a,e1,e3,e4.mono (Ul S λ_ _ _ z=>z) λb _ x=>S b x⟩
  |_=>exact h2
def Ud.zm (E:Ud K H0 B H σ γ):∀b,zof B γ σ b->Mut (H b):=λb h=>by
 rcases h with h|⟨i,r,x,n,l,g⟩
 ·exact E.bm b h
 ·obtain⟨v,f,a,p,q,o⟩:=E.slot i _ n;rw[l]at f;cases f
  cases p
  exact o.mut b g
def TV.rp (f:Same H0 H') (h:TV K Z H0 H H' s v):Rp K H' s.d v:=by
 cases s with
 |bor d=>exact(Rp.mono f h).strip
 |sh d=>exact Rp.mono off_sub h
 |own g=>
  obtain⟨a,rfl,_,r⟩:=h;exact r.rp off_sub
 |view g=>
  obtain⟨a,rfl,r⟩:=h;exact r.rp off_sub
 |tmp d=>exact h
def TV.grow (f:Same H' H1) (h:TV K Z H0 H H' s v):TV K Z H0 H H1 s v:=by
 cases s with
 |bor d=>exact h
 |sh d=>exact Rp.mono (Ul f λ_ _ _ z=>z) h
 |own l=>
  obtain⟨a,rfl,g,r⟩:=h;exact⟨a,rfl,g,r.mono (Ul f λ_ _ _ z=>z) λb _ x=>f b x⟩
 |view l=>
  obtain⟨a,rfl,r⟩:=h;exact⟨a,rfl,r.mono (Ul f λ_ _ _ z=>z) λb _ x=>f b x⟩
 |tmp d=>exact Rp.mono f h
def TV.weak (o:Same H H1) (f:∀b,Z b->Z' b) (h:TV K Z' H0 H1 H' s v):TV K Z H0 H H' s v:=by
 cases s with
 |sh d=>exact Rp.mono (Ul (Same.refl _) λb _ _ z y=>z (f b y)) h
 |own n=>
  obtain⟨a,rfl,l,r⟩:=h;exact⟨a,rfl,λb g=>o.free (l b g),r.mono (Ul (Same.refl _) λb _ _ z y=>z (y.imp (f b) id)) λ_ _ _ q=>q⟩
 |view n=>
  obtain⟨a,rfl,r⟩:=h;exact⟨a,rfl,r.mono (Ul (Same.refl _) λb _ _ z y=>z (f b y)) λ_ _ _ q=>q⟩
 |_=>exact h
def TV.shd (o:Same H0 H') (l:∀b,Z b->Mut (H b)) (w:Same H H') (h:TV K Z H0 H H' s v) (e:s.shd=some d):Rp K (off Z H') d v:=by
 have f:=λb z=>XM w (l b z);cases s with
 |bor g=>
  unfold S.shd at e;cases q:imm g with
  |false=>simp_all
  |true=>
   simp[q]at e;subst e;exact Rp.off f (Rp.mono o h) q
 |sh g=>cases e;exact h
 |own u=>
  cases e
  obtain⟨a,rfl,p,r⟩:=h;exact r.rpIn (Ul (Same.refl _) λb _ _ z y=>z (.inl y)) λb n x e=>UB e λz=>by have:=l _ z;rw[p b n]at this;exact this
 |view u=>cases e
 |tmp g=>
  unfold S.shd at e;cases q:imm g with
  |false=>simp[q]at e
  |true=>
   simp[q]at e;subst e;exact Rp.off f h q
def Pz(f:∀b,Z b->Mut (H' b))(g:Same H0 H')(h:Rp K H0 d v):TV K Z H0 H H' (arg d) v:=by
 unfold arg;cases q:imm d with
 |true=>exact Rp.off f (Rp.mono g h) q
 |false=>exact h
def X3(f:∀b,Z b->Mut (H' b))(h:Rp K H' d v):TV K Z H0 H H' (UM d) v:=by
 unfold UM;cases q:imm d with
 |true=>exact Rp.off f h q
 |false=>exact h
def Rp.lst_inv (h:Rp K H (.lst ds) v):∃a vs,v=.ref a/\H a=some (.lst vs)/\Rps K H ds vs:=by
 cases h with
 |lst h r=>grind
def Rp.tup_inv (h:Rp K H (.tup ds) v):∃a vs,v=.ref a/\H a=some (.tup vs)/\Rps K H ds vs:=by
 cases h with
 |tup h r=>grind
def TV.part (C:Same H0 H') (M:∀b,Z b->Mut (H b)) (N:Same H H') (h:TV K Z H0 H H' s v) :
  (∀ds,s.d=.lst ds->∃a vs,v=.ref a/\H' a=some (.lst vs)/\vs.length=ds.length/\∀(i:Nat) d,ds[i]?=some d->∃u,vs[i]?=some u/\TV K Z H0 H H' (s.sub d) u)/\
  (∀ds,s.d=.tup ds->∃a vs,v=.ref a/\H' a=some (.tup vs)/\vs.length=ds.length/\∀(i:Nat) d,ds[i]?=some d->∃u,vs[i]?=some u/\TV K Z H0 H H' (s.sub d) u):=by
 have l:=λb z=>XM N (M b z);cases s with
 |bor d=>
  have h:=Rp.strip h;refine⟨λds e=>?_,λds e=>?_⟩<;>rw[show d.strip=_ from e]at h
  ·obtain⟨a,vs,rfl,h,r⟩:=Rp.lst_inv h;exact⟨_,_,rfl,C _ _ h,r.len,λi d e=>let ⟨u,g,f⟩:=r.get e;⟨u,g,Pz l C f⟩⟩
  ·obtain⟨a,vs,rfl,h,r⟩:=Rp.tup_inv h;exact⟨_,_,rfl,C _ _ h,r.len,λi d e=>let ⟨u,g,f⟩:=r.get e;⟨u,g,Pz l C f⟩⟩
 |sh d=>
  refine⟨λds e=>?_,λds e=>?_⟩<;>(have J:=e;subst J)
  ·obtain⟨a,vs,rfl,h,r⟩:=Rp.lst_inv h;exact⟨_,_,rfl,off_sub _ _ h,r.len,λi d e=>r.get e⟩
  ·obtain⟨a,vs,rfl,h,r⟩:=Rp.tup_inv h;exact⟨_,_,rfl,off_sub _ _ h,r.len,λi d e=>r.get e⟩
 |own q=>
  cases q with
  |lst q=>
   refine⟨λds e=>?_,λds e=>by cases e⟩;cases e
   obtain⟨a,rfl,G,vs,e,r⟩:=h;exact⟨a,vs,rfl,e,r.len,λi d e=>let ⟨u,g,f⟩:=r.get e;⟨u,g,Rp.mono (Ul (Same.refl _) λb _ _ z y=>z (.inl y)) f⟩⟩
  |lsA x q=>
   refine⟨λds e=>?_,λds e=>by cases e⟩;cases e
   obtain⟨a,rfl,G,_,vs,e,r⟩:=h;exact⟨a,vs,rfl,e,r.len,λi d e=>let ⟨u,g,f⟩:=r.get e;⟨u,g,Rp.mono (Ul (Same.refl _) λb _ _ z y=>z (.inl y)) f⟩⟩
  |nsl x L=>
   refine⟨λds e=>?_,λds e=>by cases e⟩;cases e
   obtain⟨a,rfl,G,_,A,w,E⟩:=h;have r:=Kk λc p=>let ⟨vs,o,n⟩:=w c p;⟨vs,o,Rps.mono off_sub n⟩;exact⟨a,_,rfl,A,r.len,λi d e=>let ⟨u,g,f⟩:=r.get e;⟨u,g,X3 l f⟩⟩
  |nst L=>
   refine⟨(λds e=>by cases e),λds e=>?_⟩;cases e
   obtain⟨a,rfl,G,A,w,E⟩:=h;have r:=Kk λc p=>let ⟨vs,o,n⟩:=w c p;⟨vs,o,Rps.mono off_sub n⟩;exact⟨a,_,rfl,off_sub _ _ A,r.len,λi d e=>let ⟨u,g,f⟩:=r.get e;⟨u,g,X3 l f⟩⟩
  |_=>exact⟨(λds e=>by cases e),(λds e=>by cases e)⟩
 |view q=>
  cases q with
  |lst q=>
   refine⟨λds e=>?_,λds e=>by cases e⟩;cases e
   obtain⟨a,rfl,vs,e,r⟩:=h;exact⟨a,vs,rfl,e,r.len,λi d e=>r.get e⟩
  |lsA x q=>
   refine⟨λds e=>?_,λds e=>by cases e⟩;cases e
   obtain⟨a,rfl,_,vs,e,r⟩:=h;exact⟨a,vs,rfl,e,r.len,λi d e=>r.get e⟩
  |nsl x L=>
   refine⟨λds e=>?_,λds e=>by cases e⟩;cases e
   obtain⟨a,rfl,_,A,w,E⟩:=h;have r:=Kk λc p=>let ⟨vs,o,n⟩:=w c p;⟨vs,o,Rps.mono off_sub n⟩;exact⟨a,_,rfl,A,r.len,λi d e=>let ⟨u,g,f⟩:=r.get e;⟨u,g,X3 l f⟩⟩
  |nst L=>
   refine⟨(λds e=>by cases e),λds e=>?_⟩;cases e
   obtain⟨a,rfl,A,w,E⟩:=h;have r:=Kk λc p=>let ⟨vs,o,n⟩:=w c p;⟨vs,o,Rps.mono off_sub n⟩;exact⟨a,_,rfl,off_sub _ _ A,r.len,λi d e=>let ⟨u,g,f⟩:=r.get e;⟨u,g,X3 l f⟩⟩
  |_=>exact⟨(λds e=>by cases e),(λds e=>by cases e)⟩
 |tmp d=>
  refine⟨λds e=>?_,λds e=>?_⟩<;>(have J:=e;subst J)
  ·obtain⟨a,vs,rfl,h,r⟩:=Rp.lst_inv h;exact⟨_,_,rfl,h,r.len,λi d e=>let ⟨u,g,f⟩:=r.get e;⟨u,g,X3 l f⟩⟩
  ·obtain⟨a,vs,rfl,h,r⟩:=Rp.tup_inv h;exact⟨_,_,rfl,h,r.len,λi d e=>let ⟨u,g,f⟩:=r.get e;⟨u,g,X3 l f⟩⟩
def Fr(B:Addr->Prop)(H:Hp)(σ:L2.St)(γ:Γ)(H':Hp)(f:L2.St)(g:Γ):Prop:=∀b o,H b=some o->¬zof B γ σ b->H' b=some o/\¬zof B g f b
def Fr.refl:Fr B H σ γ H σ γ:=λ_ _ h z=>⟨h,z⟩
def Fr.trans {H1 p g f n l} (a:Fr B H σ γ H1 g n) (b:Fr B H1 g n p f l):Fr B H σ γ p f l:=λx o h z=>let ⟨r,q⟩:=a x o h z;b x o r q
def Fr.grow (f:Same H H'):Fr B H σ γ H' σ γ:=λ_ _ h z=>⟨f _ _ h,z⟩
def Fr.off {H'}{σ'}{γ'} (f:Fr B H σ γ H' σ' γ'):Same (off (zof B γ σ) H) (Pu.off (zof B γ' σ') H'):=λb o h=>by
 obtain⟨p,n⟩:=Kd h;obtain⟨l,g⟩:=f b o p n;exact UB l g
def U4{f:Type}{l:List f}{i j}{x y}(h:(l.set i x)[j]?=some y):(j=i/\x=y/\i<l.length)\/(j≠i/\l[j]?=some y):=by grind
def N7{f:Type}{l:List f}{i}{x}(h:i<l.length):(l.set i x)[i]?=some x:=by grind
def X2{f:Type}{l:List f}{i j}{x}(h:j≠i):(l.set i x)[j]?=l[j]?:=by grind
def Ud.drop (E:Ud K H0 B H σ γ) (i:Nat):Ud K H0 B H σ (γ.set i none)/\Fr B H σ γ H σ (γ.set i none):=by
 have p:∀b,zof B (γ.set i none) σ b->zof B γ σ b:=λb z=>z.imp id λ⟨j,l,a,g,f,u⟩=>by
  rcases U4 g with⟨_,e,_⟩|⟨_,e⟩
  ·grind
  ·exact⟨j,l,a,e,f,u⟩
 refine⟨⟨E.same,by rw[Qr];exact E.len,E.bm,λk j a G l w b g f=>?_,λk s h=>?_⟩,λb o h z=>⟨h,λy=>z (p b y)⟩⟩
 ·rcases U4 g with⟨_,e,_⟩|⟨_,n⟩
  ·cases e
  ·rcases U4 f with⟨_,e,_⟩|⟨_,C⟩
   ·cases e
   ·exact E.own k j a G l w b n C
 ·rcases U4 h with⟨_,e,_⟩|⟨_,e⟩
  ·cases e
  ·obtain⟨v,g,f⟩:=E.slot k s e;refine⟨v,g,?_⟩;have r:Same (Pu.off (zof B γ σ) H) (Pu.off (zof B (γ.set i none) σ) H):=Ul (Same.refl _) λb _ _ z y=>z (p b y);cases s with
   |sh d=>exact Rp.mono r f
   |own l=>
    obtain⟨a,n,A,x⟩:=f;exact⟨a,n,A,x.mono r λ_ _ _ q=>q⟩
   |_=>exact f
def Ud.put {s L}{v} (E:Ud K H0 B H σ γ) (S1:Same H H') (h:TV K (zof B γ σ) H0 H H' s v) (e:s.slot=some L) (hi:i<γ.length) :
  Ud K H0 B H' (σ.set i<|some v) (γ.set i<|some L)/\Fr B H σ γ H' (σ.set i<|some v) (γ.set i<|some L):=by
 have n:i<σ.length:=by rw[E.len];exact hi
 have E':=E.grow S1
 have isown:∀f,L=.own f->s=.own f:=λf q=>by
  subst q;cases s with
  |own J=>cases e;rfl
  |tmp d=>unfold S.slot at e;cases q:imm d<;>simp[q]at e
  |_=>cases e
 have l:∀b,zof B (γ.set i<|some L) (σ.set i<|some v) b->zof B γ σ b\/∃f a,s=.own f/\v=.ref a/\f.adr a b:=λb z=>by
  rcases z with z|⟨j,f,a,h1,G,A⟩
  ·exact .inl (.inl z)
  ·rcases U4 h1 with⟨Y,g,_⟩|⟨T,g⟩
   ·subst Y;rw[N7 n]at G
    have:=Wm g
    exact .inr ⟨f,a,isown f this,Wm (Wm G),A⟩
   ·rw[X2 T]at G;exact .inl (.inr ⟨j,f,a,g,G,A⟩)
 have fresh:∀f a b,s=.own f->v=.ref a->f.adr a b->H b=none:=λf a b J ev p=>by
  subst J;obtain⟨a',g,e0,_⟩:=h;rw[ev]at g;cases g
  exact e0 b p
 have hz:∀b o,H b=some o->¬zof B γ σ b->¬zof B (γ.set i<|some L) (σ.set i<|some v) b:=λb o p z y=>by
  rcases l b y with y|⟨f,a,y1,y2,y3⟩
  ·exact z y
  ·rw[fresh f a b y1 y2 y3]at p;cases p
 have So:=Ul S1 hz;refine⟨⟨E'.same,by rw[Qr,Qr];exact E.len,E'.bm,λk j a a' f J b h1 G A M h5 h6=>?_,λk u hk=>?_⟩,λb o p z=>⟨S1 b o p,hz b o p z⟩⟩
 ·have Q:∀(k:Nat) f a b,γ[k]?=some (some<|.own f)->σ[k]?=some (some<|.ref a)->f.adr a b->∃o,H b=some o:=λk f a b g C e3=>by
   obtain⟨u,q1,a',N,_,q3⟩:=E.slot k _ g;rw[C]at q1;cases q1
   cases N
   exact KG (q3.mut b e3)
  rcases U4 h1 with⟨ek,g,_⟩|⟨nk,g⟩
  ·rcases U4 G with⟨Y,C,_⟩|⟨T,C⟩
   ·rw[ek,Y]
   ·subst ek;rw[N7 n]at A;rw[X2 T]at M;obtain⟨o,U⟩:=Q j J a' b C M h6;rw[fresh f a b (isown f<|Wm g) (Wm<|Wm A) h5]at U;cases U
  ·rcases U4 G with⟨Y,C,_⟩|⟨T,C⟩
   ·subst Y;rw[N7 n]at M;rw[X2 nk]at A;obtain⟨o,U⟩:=Q k f a b g A h5;rw[fresh J a' b (isown J<|Wm C) (Wm<|Wm M) h6]at U;cases U
   ·rw[X2 nk]at A;rw[X2 T]at M;exact E.own k j a a' f J b g C A M h5 h6
 ·rcases U4 hk with⟨ek,g,_⟩|⟨nk,g⟩
  ·subst ek
   have:=(Wm g).symm
   subst this;refine⟨v,N7 n,?_⟩;cases s with
   |own f=>
    cases e
    obtain⟨a,rfl,e0,r⟩:=h;refine⟨a,rfl,λb p=>E.same.free (e0 b p),r.mono (Ul (Same.refl _) λb o _ z y=>?_) λ_ _ _ q=>q⟩;rcases l b y with y|⟨_,_,y1,y,y2⟩
    ·exact z (.inl y)
    ·cases y;cases y1;exact z (.inr y2)
   |sh d=>
    cases e
    refine Rp.mono (Ul (Same.refl _) λb o _ z y=>?_) h;rcases l b y with y|⟨_,_,y,_⟩
    ·exact z y
    ·cases y
   |bor d=>cases e;exact h
   |view d=>cases e
   |tmp d=>
    unfold S.slot at e;cases q:imm d with
    |false=>simp[q]at e
    |true=>
     simp[q]at e;subst e;refine Rp.off (λb y=>?_) h q;rcases l b y with y|⟨_,_,y,_⟩
     ·exact XM S1 (E.zm b y)
     ·cases y
  ·obtain⟨w,q1,N⟩:=E.slot k u g;refine⟨w,by rw[X2 nk];exact q1,?_⟩;cases u with
   |sh d=>exact Rp.mono So N
   |own f=>
    obtain⟨a,g,e3,e4⟩:=N;exact⟨a,g,e3,e4.mono So λb _ x=>S1 b x⟩
   |_=>exact N
noncomputable def frz(i:Nat)(γ:Γ):Γ:=match γ[i]? with
 |some (some<|.own o)=>γ.set i (some<|.sh o.d)
 |_=>γ
def Ud.frz (E:Ud K H0 B H σ γ) (hB:∀b,B b->∃o,H0 b=some o) (i:Nat):Ud K H0 B H σ (frz i γ)/\Fr B H σ γ H σ (Pu.frz i γ):=by
 unfold Pu.frz;split
 ·rename_i p J
  have G:∀b,zof B (γ.set i<|some<|.sh p.d) σ b->zof B γ σ b:=λb z=>z.imp id λ⟨j,l,a,g,f,L⟩=>by
   rcases U4 g with⟨_,e,_⟩|⟨_,e⟩
   ·cases e
   ·exact⟨j,l,a,e,f,L⟩
  have C:Same (Pu.off (zof B γ σ) H) (Pu.off (zof B (γ.set i<|some<|.sh p.d) σ) H):=Ul (Same.refl _) λb _ _ z y=>z (G b y);refine⟨⟨E.same,by rw[Qr];exact E.len,E.bm,λk j a A l r b g f=>?_,λk s h=>?_⟩,λb o h z=>⟨h,λy=>z (G b y)⟩⟩
  ·rcases U4 g with⟨_,e,_⟩|⟨_,n⟩
   ·cases e
   ·rcases U4 f with⟨_,e,_⟩|⟨_,w⟩
    ·cases e
    ·exact E.own k j a A l r b n w
  ·rcases U4 h with⟨T,e,_⟩|⟨Y,e⟩
   ·subst T
    have:=Wm e
    subst this;obtain⟨v,g,a,rfl,L,Q⟩:=E.slot k _ J;refine⟨_,g,Q.rpIn C λb N x f=>UB f λz=>?_⟩;rcases z with z|⟨j,l,A,n,w,u⟩
    ·grind
    ·rcases U4 n with⟨_,q,_⟩|⟨M,q⟩
     ·cases q
     ·exact M (E.own j k A a l p b q J w g u N)
   ·obtain⟨v,g,f⟩:=E.slot k s e;refine⟨v,g,?_⟩;cases s with
    |sh d=>exact Rp.mono C f
    |own p=>
     obtain⟨a,n,u,U⟩:=f;exact⟨a,n,u,U.mono C λ_ _ _ q=>q⟩
    |_=>exact f
 ·exact⟨E,Fr.refl⟩
def Ud.change {o o'} (E:Ud K H0 B H σ γ) (M:γ[i]?=some (some<|.own o)) (A:σ[i]?=some (some<|.ref a))
  (N:∀b x,H b=some x->¬o.adr a b->H' b=some x) (hm:∀b,o.adr a b->Mut (H' b)) (l:∀b,o'.adr a b->o.adr a b\/H b=none) (r:OR K (Pu.off (zof B (γ.set i<|some<|.own o') σ) H') H' a o') :
  Ud K H0 B H' σ (γ.set i<|some<|.own o')/\Fr B H σ γ H' σ (γ.set i<|some<|.own o'):=by
 obtain⟨v,h1,a',rfl,h3,h4⟩:=E.slot i _ M;rw[A]at h1;cases h1
 have za:∀b,o.adr a b->zof B γ σ b:=λb C=>.inr ⟨i,o,a,M,A,C⟩
 have hz:∀b x,H b=some x->zof B (γ.set i<|some<|.own o') σ b->zof B γ σ b:=λb x hx z=>by
  rcases z with z|⟨j,fs,a',U,p,n⟩
  ·exact .inl z
  ·rcases U4 U with⟨T,q,_⟩|⟨_,e⟩
   ·subst T;cases q
    rw[A]at p;cases p
    rcases l b n with k|k
    ·exact za b k
    ·rw[k]at hx;cases hx
   ·exact .inr ⟨j,fs,a',e,p,n⟩
 have S1:=λb x h=>by
  obtain⟨g,f⟩:=Kd h;exact UB (N b x g λk=>f (za b k)) λz=>f (hz b x g z)
 have J:∀(k:Nat) ds a b,γ[k]?=some (some<|.own ds)->σ[k]?=some (some<|.ref a)->ds.adr a b->∃o,H b=some o:=λk ds a b U p n=>by
  obtain⟨u,g,a',f,_,q3⟩:=E.slot k _ U;rw[p]at g;cases g
  cases f
  exact KG (q3.mut b n)
 refine⟨⟨λb x h=>?_,by rw[Qr];exact E.len,λb C=>?_,λk j x x' fs Q b U p n G e5 e6=>?_,λk s h=>?_⟩,λb x h z=>⟨?_,λy=>z (hz b x h y)⟩⟩
 ·exact N b x (E.same b x h) λk=>by rw[h3 b k]at h;cases h
 ·by_cases k:o.adr a b
  ·exact hm b k
  ·have:=E.bm b C
   obtain⟨x,hx⟩:=KG this;rwa[N b x hx k,←hx]
 ·rcases U4 U with⟨Y,g,_⟩|⟨nk,g⟩
  ·rcases U4 p with⟨T,_,_⟩|⟨nj,f⟩
   ·rw[Y,T]
   ·subst Y;cases g
    rw[A]at n;cases n
    rcases l b e5 with w|w
    ·exact E.own k j _ _ _ _ b M f A G w e6
    ·obtain⟨u,L⟩:=J j Q x' b f G e6;rw[w]at L;cases L
  ·rcases U4 p with⟨T,f,_⟩|⟨nj,f⟩
   ·subst T;cases f
    rw[A]at G;cases G
    rcases l b e6 with w|w
    ·exact E.own k j _ _ _ _ b g M n A e5 w
    ·obtain⟨u,L⟩:=J k fs x b g n e5;rw[w]at L;cases L
   ·exact E.own k j x x' fs Q b g f n G e5 e6
 ·rcases U4 h with⟨Y,e,_⟩|⟨nk,e⟩
  ·subst Y
   have:=Wm e
   subst this;exact⟨_,A,a,rfl,λb C=>(l b C).elim (h3 b) λw=>E.same.free w,r⟩
  ·obtain⟨v,g,f⟩:=E.slot k s e;refine⟨v,g,?_⟩;cases s with
   |sh d=>exact Rp.mono S1 f
   |own fs=>
    obtain⟨x,rfl,n,G⟩:=f;exact⟨x,rfl,n,G.mono S1 λb C y p=>N b y p λw=>nk (E.own k i x a fs o b e M g A C w)⟩
   |_=>exact f
 ·exact N b x h λk=>z (za b k)
def Ud.mutate {i:Nat}{a:Addr}{ds es:O}{us:HO} (E:Ud K H0 B H σ γ) (u:γ[i]?=some (some<|.own ds)) (f:σ[i]?=some (some<|.ref a)) (w:Mut (some us)) (r:∀F H':Hp,Same (Pu.off (zof B γ σ) H) F->H' a=some us->OR K F H' a es)
  (k1:autoParam (ds.adr a=λb=>b=a) au_0) (k2:autoParam (es.adr a=λb=>b=a) au_0) :
  Ud K H0 B (upd H a us) σ (γ.set i<|some<|.own es)/\Fr B H σ γ (upd H a us) σ (γ.set i<|some<|.own es):=by
 refine E.change (o:=ds) (o':=es) u f (λb x h n=>by rw[Ug (λz=>n (by rw[k1];exact z))];exact h) (λb h=>by rw[k1]at h;rw[show b=a from h,Ur];exact w) (λb h=>.inl (by rw[k1];rw[k2]at h;exact h)) (r _ _ ?_ Ur)
 intro b x h;obtain⟨v,p⟩:=Kd h;have s:b≠a:=λz=>p (.inr ⟨i,ds,a,u,f,by rw[k1];exact z⟩);refine UB (by rw[Ug s];exact v) λz=>p ?_;rcases z with z|⟨j,fs,C,A,l,g⟩
 ·exact .inl z
 ·rcases U4 A with⟨y,q,_⟩|⟨_,e⟩
  ·subst y;cases q
   rw[f]at l;cases l
   rw[k2]at g;exact absurd g s
  ·exact .inr ⟨j,fs,C,e,l,g⟩
end
end Pu
namespace Pu
open L2 Own
abbrev XR:=Str->Prop
noncomputable def eI:Int->Nat
 | .ofNat n=>2*n
 | .negSucc n=>2*n+1
noncomputable def dI(n:Nat):Int:=if n % 2=0 then .ofNat (n / 2)else .negSucc (n / 2)
def RV:∀i,dI (eI i)=i
 | .ofNat n=>by
  show dI (2*n)=_;unfold dI;simp
 | .negSucc n=>by
  show dI (2*n+1)=_;unfold dI;lia
noncomputable def B9(r:Yf):Str:=⟨(0::r.map eI).toArray⟩
noncomputable def Ro:Yk->Option (Yf)
 | 0::t=>some (t.map dI)
 |_=>none
noncomputable def Kc(x:Str):Option (Yf):=Ro x.cps.toList
def Za8(r:Yf):Kc (B9 r)=some r:=by
 show some ((r.map eI).map dI)=some r;rw[WY];congr 1
 conv=>rhs;rw[←List.map_id r]
 exact QH λi _=>RV i
def XE(f:Yh)(E:XK)(c:Str)(H':Hp):Prop:=match Kc c with
 |none=>E (.ref<|ExcR.Uc f c) none H'
 |some r=>∀(g l:Addr) (o:Obj),H' g=some (.xd [("members",.ref l)])->H' l=some (.frz o<|.lst<|r.map V.int)->E (.ref<|ExcR.Uc f "Ringed") (some g) H'
def XE.plain {c H'} (g:Kc c=none) (h:XE f E c H'):E (.ref<|ExcR.Uc f c) none H':=by
 unfold XE at h;simp_all
def XE.of {E c H'} (g:Kc c=none) (h:E (.ref<|ExcR.Uc f c) none H'):XE f E c H':=by
 unfold XE;simp_all
def XE.ofM {E r H'} (h:∀f l o,H' f=some (.xd [("members",.ref l)])->H' l=some (.frz o<|.lst<|r.map V.int)->E (.ref<|ExcR.Uc g "Ringed") (some f) H'):XE g E (B9 r) H':=by
 unfold XE;rw[Za8];lia
abbrev PTE:=Γ->(S->Prop)->XR->Prop
abbrev PTT:=Γ->(Bool->Prop)->XR->Prop
abbrev PTA:=Γ->(List S->Prop)->XR->Prop
abbrev PTO:=Γ->(Option Int->Prop)->XR->Prop
structure X7 where
 nx:Γ->Prop
 rt:S->Prop
 ex:Γ->Str->Prop
 bk:Γ->Prop:=λ_=>False
 ct:Γ->Prop:=λ_=>False
 rv:Γ->D->Prop:=λ_ _=>False
abbrev PTS:=X7->Γ->Prop
abbrev PTG:=S->Γ->(Γ->Prop)->Prop
abbrev Po:=List S->Γ->(Γ->Prop)->Prop
inductive TVs (K:Yd) (Z:Addr->Prop) (H0 H H':Hp):List S->List V->Prop
 |nil:TVs K Z H0 H H' [] []
 |cons {s:S} {v:V} {ss:List S} {vs:List V}:TV K Z H0 H H' s v->TVs K Z H0 H H' ss vs->TVs K Z H0 H H' (s::ss) (v::vs)
section
variable (K:Yd) (mg:Yh) (E:L2.St->XK)
def JZ(t:TE)(p:PTE):Prop:=∀(l:Hp) (B:Addr->Prop) (H:Hp) (g:L2.St) (h:Γ) (R:S->Prop) (X:XR) (Q:VK),Ud K l B H g h->p h R X->
 (∀s v f,R s->Same H f->TV K (zof B h g) l H f s v->Q v f)->(∀c f,X c->Same H f->XE mg (E g) c f)->t g H Q
def UG(t:TT)(p:PTT):Prop:=∀(l:Hp) (B:Addr->Prop) (H:Hp) (g:L2.St) (h:Γ) (R:Bool->Prop) (X:XR) (Q:Bool->Hp->Prop),Ud K l B H g h->p h R X->
 (∀b f,R b->Same H f->Q b f)->(∀c f,X c->Same H f->XE mg (E g) c f)->t g H Q
def Um(t:TA)(p:PTA):Prop:=∀(o:Hp) (B:Addr->Prop) (H:Hp) (g:L2.St) (h:Γ) (R:List S->Prop) (X:XR) (Q:List V->Hp->Prop),Ud K o B H g h->p h R X->
 (∀n l f,R n->Same H f->TVs K (zof B h g) o H f n l->Q l f)->(∀c f,X c->Same H f->XE mg (E g) c f)->t g H Q
def PK(t:TO)(p:PTO):Prop:=∀(l:Hp) (B:Addr->Prop) (H:Hp) (g:L2.St) (h:Γ) (R:Option Int->Prop) (X:XR) (Q:Option Int->Hp->Prop),Ud K l B H g h->p h R X->
 (∀o f,R o->Same H f->Q o f)->(∀c f,X c->Same H f->XE mg (E g) c f)->t g H Q
structure PB (H0:Hp) (B:Addr->Prop) (H:Hp) (σ:L2.St) (γ:Γ) (R:X7) (D:Ends):Prop where
 nx:∀σ' γ' H',R.nx γ'->Ud K H0 B H' σ' γ'->Fr B H σ γ H' σ' γ'->D.nx σ' H'
 rt:∀s v H',R.rt s->Same H0 H'->TV K B H0 H0 H' s v->D.rt v H'
 ex:∀σ' γ' c H',R.ex γ' c->Ud K H0 B H' σ' γ'->Fr B H σ γ H' σ' γ'->XE mg (E σ') c H'
 bk:∀σ' γ' H',R.bk γ'->Ud K H0 B H' σ' γ'->Fr B H σ γ H' σ' γ'->D.bk σ' H'
 ct:∀σ' γ' H',R.ct γ'->Ud K H0 B H' σ' γ'->Fr B H σ γ H' σ' γ'->D.ct σ' H'
 rv:∀σ' γ' d v H',R.rv γ' d->Ud K H0 B H' σ' γ'->Fr B H σ γ H' σ' γ'->Rp K (off (zof B γ' σ') H') d v->D.rt v H'
def Uj(t:TS)(p:PTS):Prop:=∀(h:Hp) (B:Addr->Prop) (H:Hp) (f:L2.St) (g:Γ) (R:X7) (D:Ends),(∀b,B b->∃o,h b=some o)->Ud K h B H f g->p R g->PB K mg E h B H f g R D->t D f H
end
section
variable {K:Yd}{mg:Yh}{E:L2.St->XK}{H0 H H1 H':Hp}{B Z Z':Addr->Prop}{σ:L2.St}{γ:Γ}
def TVs.weakG {H1 g}:∀{ss}{vs:List V},Same H H1->TVs K Z H0 H1 g ss vs->TVs K Z H0 H g ss vs:=by
 intro ss
 induction ss with
 |nil=>
  intro _ _ h;cases h
  exact .nil
 |cons _ _ l=>
  intro _ f h;cases h with
  |cons h r=>
   exact .cons (TV.weak f (λ_ z=>z) h) (l f r)
def TVs.rps (g:Same H0 H'):∀{ss}{vs:List V},TVs K Z H0 H H' ss vs->Rps K H' (ss.map S.d) vs:=by
 intro ss
 induction ss with
 |nil=>
  intro _ h;cases h
  exact .nil
 |cons _ _ f=>
  intro _ h;cases h with
  |cons h r=>
   exact .cons (h.rp g) (f r)
theorem TVs.shd {ds:List D} (l:Same H0 H') (g:∀b,Z b->Mut (H b)) (n:Same H H'):∀{f vs}{ds:List D},TVs K Z H0 H H' f vs->f.map S.shd=ds.map some->Rps K (off Z H') ds vs
 |_,_,[],.nil,_=>.nil
 |_,_,_::_,.nil,e|_,_,[],.cons _ _,e=>by cases e
 |_,_,d::ds,.cons h r,e=>by
  rw[W3,W3,List.cons.injEq]at e;exact .cons (h.shd l g n e.1) (TVs.shd (ds:=ds) l g n r e.2)
def Rp.int_inv (h:Rp K H (.int i) v):v=.int i:=by cases h;rfl
def Rp.bl_inv (h:Rp K H (.bl b) v):v=.bl b:=by cases h;rfl
def Rp.str_inv (h:Rp K H (.str x) v):v=.str x:=by cases h;rfl
def Rp.non_inv (h:Rp K H .non v):v=.non:=by cases h;rfl
def Rp.ty_inv (h:Rp K H (.ty n) v):v=.ty n:=by cases h;rfl
noncomputable def Nd(i:Nat):PTE:=λγ R _=>match γ[i]? with
 |some (some<|.own f)=>R (.view f)
 |some (some s)=>R s
 |_=>False
def Ub(i:Nat):JZ K mg E (Kl i) (Nd i):=by
 intro H0 B H σ γ R X Q f h q _;unfold Nd at h;split at h
 ·rename_i o e;obtain⟨v,g,a,rfl,r,n⟩:=f.slot i _ e;exact⟨_,g,q _ _ H h (Same.refl _) ⟨a,rfl,n⟩⟩
 ·rename_i s p e;obtain⟨v,g,l⟩:=f.slot i _ e;refine⟨v,g,q _ _ H h (Same.refl _) ?_⟩;cases s with
  |bor d|sh d=>exact l
  |own o=>grind
  |_=>exact l.elim
 ·grind
noncomputable def pC(d:D):PTE:=λ_ R _=>R (.sh d)
def Td(h:∀H,Rp K H d v):JZ K mg E (tC v) (pC d):=by
 intro H0 B H σ γ R X Q f p q _;exact q _ _ H p (Same.refl _) (h _)
def UN:JZ K mg E (tC<|.int i) (pC<|.int i):=Td λ_=>.int i
def BB:JZ K mg E (tC<|.bl b) (pC<|.bl b):=Td λ_=>.bl b
def U7:JZ K mg E (tC<|.str x) (pC<|.str x):=Td λ_=>.str x
def K7:JZ K mg E (tC<|.ty n) (pC<|.ty n):=Td λ_=>.ty n
noncomputable def p2(a b:PTE)(f:S->S->(S->Prop)->Prop):PTE:=λγ R X=>a γ (λx=>b γ (λy=>f x y R) X) X
def Xq{A w a b f}(Y:JZ K mg E A a)(U:JZ K mg E w b)(N:∀H0 H h Z x y v u R Q,Same H0 h->Same H h->(∀b,Z b->Mut (H b))->TV K Z H0 H h x v->TV K Z H0 H h y u->f x y R->(∀s z H',R s->Same h H'->TV K Z H0 H H' s z->Q z H')->r v u h Q) :
  JZ K mg E (tOp r A w) (p2 a b f):=by
 intro H0 B H σ γ R X Q l p q C;refine Y H0 B H σ γ _ X _ l p (λx v H1 h1 n L=>?_) C;have g:=l.grow n;refine U H0 B H1 σ γ _ X _ g h1 (λy u h h2 o J=>?_) λc H' T S'=>C c H' T (n.trans S');exact N H0 H h _ x y v u R Q (g.same.trans o) (n.trans o) l.zm (L.grow o) (TV.weak n (λ_ z=>z) J) h2 λs z H' M S3 G=>q s z H' M ((n.trans o).trans S3) G
def fI0(g:Int->Int->D):S->S->(S->Prop)->Prop:=λx y R=>match x.d,y.d with
 | .int i,.int j=>R (.sh<|g i j)
 |_,_=>False
def fI(C:Int->Int->Prop)(g:Int->Int->D):S->S->(S->Prop)->Prop:=λx y R=>match x.d,y.d with
 | .int i,.int j=>C i j/\R (.sh<|g i j)
 |_,_=>False
def N5{g'}{l f a b}(w:∀H i j,Rp K H (g' i j) (g i j))(A:JZ K mg E l a)(z:JZ K mg E f b):JZ K mg E (tOp (rI0 g) l f) (p2 a b<|fI0 g'):=by
 refine Xq A z λH0 H J Z x y v u R Q n L M s r h q=>?_;unfold fI0 at h;have p:=s.rp n;have o:=r.rp n;split at h
 ·rename_i i j G C;rw[G]at p;rw[C]at o;exact⟨i,j,p.int_inv,o.int_inv,q _ _ J h (Same.refl _) (w _ i j)⟩
 ·grind
def TX{g r}{l f a b}(z:∀H i j,Rp K H (r i j) (g i j))(G:JZ K mg E l a)(A:JZ K mg E f b):JZ K mg E (tOp (rI C g) l f) (p2 a b<|fI C r):=by
 refine Xq G A λH0 H M Z x y v u R Q n N T w s h q=>?_;unfold fI at h;have p:=w.rp n;have o:=s.rp n;split at h
 ·rename_i i j L J;rw[L]at p;rw[J]at o;exact⟨i,j,p.int_inv,o.int_inv,h.1,q _ _ M h.2 (Same.refl _) (z _ i j)⟩
 ·grind
section
variable {ta tb tc:TE}{a b c:PTE}
def US(g:JZ K mg E ta a)(f:JZ K mg E tb b):JZ K mg E (tOp (rI0 λi j=>.int (i+j)) ta tb) (p2 a b (fI0 λi j=>.int (i+j))):=N5 (λ_ _ _=>.int _) g f
def XH(g:JZ K mg E ta a)(f:JZ K mg E tb b):JZ K mg E (tOp (rI0 λi j=>.int (i-j)) ta tb) (p2 a b (fI0 λi j=>.int (i-j))):=N5 (λ_ _ _=>.int _) g f
def Ky(g:JZ K mg E ta a)(f:JZ K mg E tb b):JZ K mg E (tOp (rI CMul λi j=>.int (i*j)) ta tb) (p2 a b (fI CMul λi j=>.int (i*j))):=TX (λ_ _ _=>.int _) g f
def Xy(g:JZ K mg E ta a)(f:JZ K mg E tb b):JZ K mg E (tOp (rI KS λi j=>.int (i / j)) ta tb) (p2 a b (fI KS λi j=>.int (i / j))):=TX (λ_ _ _=>.int _) g f
def UD(g:JZ K mg E ta a)(f:JZ K mg E tb b):JZ K mg E (tOp (rI (λ_ j=>0<j) λi j=>.int (i % j)) ta tb) (p2 a b (fI (λ_ j=>0<j) λi j=>.int (i % j))):=TX (λ_ _ _=>.int _) g f
def Lm(g:JZ K mg E ta a)(f:JZ K mg E tb b):JZ K mg E (tOp (rI SD λi j=>.int (i ^ j.toNat)) ta tb) (p2 a b (fI SD λi j=>.int (i ^ j.toNat))):=TX (λ_ _ _=>.int _) g f
def KH(g:JZ K mg E ta a)(f:JZ K mg E tb b):JZ K mg E (tOp (rI0 λi j=>.bl (decide (i<j))) ta tb) (p2 a b (fI0 λi j=>.bl (decide (i<j)))):=N5 (λ_ _ _=>.bl _) g f
def K8(g:JZ K mg E ta a)(f:JZ K mg E tb b):JZ K mg E (tOp (rI0 λi j=>.bl (decide (j<i))) ta tb) (p2 a b (fI0 λi j=>.bl (decide (j<i)))):=N5 (λ_ _ _=>.bl _) g f
def fEq(neg:Bool):S->S->(S->Prop)->Prop:=λx y R=>match x.d,y.d with
 | .int i,.int j=>R (.sh<|.bl (if neg then !decide (i=j)else decide (i=j)))
 | .str i,.str j=>R (.sh<|.bl (if neg then !decide (i=j)else decide (i=j)))
 | .bl i,.bl j=>R (.sh<|.bl (if neg then !decide (i=j)else decide (i=j)))
 |_,_=>False
def KN{g h:Type}[DecidableEq g][DecidableEq h]{f:g->h}(l:∀a b,f a=f b->a=b)(a b:g):decide (f a=f b)=decide (a=b):=by grind
def fIx:S->S->(S->Prop)->Prop:=λx y R=>match x.d,y.d with
 | .lst g,.int k=>∃d,atI g k=some d/\R (x.sub d)
 | .tup g,.int k=>∃d,atI g k=some d/\R (x.sub d)
 | .scr f,.int k=>∃i,atI f k=some i/\R (.sh<|.int i)
 | .fL f,.int k=>∃i,atI f k=some i/\R (.sh<|.int i)
 |_,_=>False
def Ge{P:D->V->Prop}(f:vs.length=ds.length)(h:∀(i:Nat) d,ds[i]?=some d->∃u,vs[i]?=some u/\P d u)(e:atI ds k=some d):∃u,atI vs k=some u/\P d u:=by
 unfold atI at e ⊢;cases q:ixN ds.length k with
 |_=>grind
def KR(ha:JZ K mg E ta a)(hb:JZ K mg E tb b):JZ K mg E (tOp (λx y H Q=>Th K x y H Q\/P6 K x y H Q) ta tb) (p2 a b fIx):=by
 refine Xq ha hb λH0 H s Z x y v u R Q r s1 hm A Y h q=>?_;unfold fIx at h;have f:=Y.rp r;obtain⟨pl,pt⟩:=A.part r hm s1;split at h
 ·rename_i U k o n;rw[n]at f;obtain⟨d,T,g⟩:=h;obtain⟨l,w,rfl,M,L,J⟩:=pl U o;obtain⟨z,C,tz⟩:=Ge L J T;exact .inl ⟨l,w,k,z,rfl,f.int_inv,SqL.of M,C,q _ _ s g (Same.refl _) tz⟩
 ·rename_i U k o n;rw[n]at f;obtain⟨d,T,g⟩:=h;obtain⟨l,w,rfl,M,L,J⟩:=pt U o;obtain⟨z,C,tz⟩:=Ge L J T;exact .inr ⟨l,w,k,z,rfl,f.int_inv,SqT.of M,C,q _ _ s g (Same.refl _) tz⟩
 ·rename_i ns k o n;rw[n]at f;obtain⟨i,N,g⟩:=h;have p:=A.rp r;rw[o]at p;cases p with
  |scr G=>exact .inl ⟨_,_,k,.int i,rfl,f.int_inv,G,XN N,q _ _ s g (Same.refl _) (.int i)⟩
 ·rename_i ns k o n;rw[n]at f;obtain⟨i,N,g⟩:=h;have p:=A.rp r;rw[o]at p;cases p with
  |fL G=>exact .inl ⟨_,_,k,.int i,rfl,f.int_inv,.inl (.inr ⟨_,G⟩),XN N,q _ _ s g (Same.refl _) (.int i)⟩
 ·exact h.elim
noncomputable def Ms(a b:PTE):PTE:=λγ R X=>a γ (λx=>match x.d with | .bl c=>if c=true then b γ R X else R (.sh<|.bl false)|_=>False) X
noncomputable def RQ(a:PTE):PTE:=λγ R X=>a γ (λx=>match x.d with | .bl c=>R (.sh<|.bl (!c))|_=>False) X
def B3(C:JZ K mg E ta a)(A:JZ K mg E tb b):JZ K mg E (Ao ta tb) (Ms a b):=by
 intro H0 B H σ γ R X Q h p q r;refine C H0 B H σ γ _ X _ h p (λx v H1 n l w=>?_) r;have f:=h.grow l;have o:=w.rp f.same;split at n
 ·rename_i c J;rw[J]at o;refine⟨c,o.bl_inv,?_⟩;split at n
  ·rename_i g;rw[Wp g];exact A H0 B H1 σ γ _ X _ f n (λy u N G L s=>q y u N G (l.trans L) (TV.weak l (λ_ z=>z) s)) λc H' g M=>r c H' g (l.trans M)
  ·rename_i g;rw[Wl g];exact q _ _ H1 n l (.bl _)
 ·grind
def Hs(r:JZ K mg E ta a):JZ K mg E (Ab ta) (RQ a):=by
 intro H0 B H σ γ R X Q f p q o;refine r H0 B H σ γ _ X _ f p (λx v H1 h l n=>?_) o;have g:=n.rp (f.grow l).same;split at h
 ·rename_i c s;rw[s]at g;exact⟨c,g.bl_inv,q _ _ H1 h l (.bl _)⟩
 ·grind
noncomputable def Ri(a:PTE):PTE:=λγ R X=>a γ (λx=>match x.d with | .int i=>R (.sh<|.int (-i))|_=>False) X
def Bx(r:JZ K mg E ta a):JZ K mg E (tUn (rU λi=>.int (-i)) ta) (Ri a):=by
 intro H0 B H σ γ R X Q f p q o;refine r H0 B H σ γ _ X _ f p (λx v H1 h l n=>?_) o;have g:=n.rp (f.grow l).same;split at h
 ·rename_i c s;rw[s]at g;exact⟨c,g.int_inv,q _ _ H1 h l (.int _)⟩
 ·grind
noncomputable def Pk(a:PTE):PTT:=λγ R X=>a γ (λx=>match x.d with | .bl c=>R c|_=>False) X
def Xw(r:JZ K mg E ta a):UG K mg E (N3 ta) (Pk a):=by
 intro H0 B H σ γ R X Q f p q o;refine r H0 B H σ γ _ X _ f p (λx v H1 h l n=>?_) o;have g:=n.rp (f.grow l).same;split at h
 ·rename_i c s;rw[s]at g;exact⟨c,g.bl_inv,q _ H1 h l⟩
 ·grind
def Ta(f:JZ K mg E ta a):UG K mg E (tB ta) (Pk a):=Xw f
variable {sa sb:TT}{pa pb:PTT}
noncomputable def G3(a b:PTT):PTT:=λγ R X=>a γ (λc=>if c=true then b γ R X else R false) X
noncomputable def pOr(a b:PTT):PTT:=λγ R X=>a γ (λc=>if c=true then R true else b γ R X) X
noncomputable def A4(a:PTT):PTT:=λγ R X=>a γ (λc=>R (!c)) X
def Za0(r:UG K mg E sa pa)(o:UG K mg E sb pb):UG K mg E (EK sa sb) (G3 pa pb):=by
 intro H0 B H σ γ R X Q f p q l;refine r H0 B H σ γ _ X _ f p (λc H1 n h=>?_) l;split at n
 ·rename_i g;rw[Wp g];exact o H0 B H1 σ γ _ X _ (f.grow h) n (λy w s u=>q y w s (h.trans u)) λc H' g v=>l c H' g (h.trans v)
 ·grind
def OU(r:UG K mg E sa pa)(o:UG K mg E sb pb):UG K mg E (tOr sa sb) (pOr pa pb):=by
 intro H0 B H σ γ R X Q f p q l;refine r H0 B H σ γ _ X _ f p (λc H1 n h=>?_) l;split at n
 ·grind
 ·rename_i g;rw[Wl g];exact o H0 B H1 σ γ _ X _ (f.grow h) n (λy w s u=>q y w s (h.trans u)) λc H' g v=>l c H' g (h.trans v)
def Mp(h:UG K mg E sa pa):UG K mg E (AL sa) (A4 pa):=by
 intro H0 B H σ γ R X Q f p q g;exact h H0 B H σ γ _ X _ f p (λc H1 l n=>q _ H1 l n) g
noncomputable def Az(c:PTT)(a b:PTE):PTE:=λγ R X=>c γ (λk=>if k=true then a γ R X else b γ R X) X
def Zbl(h:UG K mg E sa pa)(C:JZ K mg E ta a)(A:JZ K mg E tb b):JZ K mg E (tIf sa ta tb) (Az pa a b):=by
 intro H0 B H σ γ R X Q g p q n;refine h H0 B H σ γ _ X _ g p (λc H1 s f=>?_) n;split at s
 ·rename_i o;rw[Wp o];exact C H0 B H1 σ γ _ X _ (g.grow f) s (λy u x r v l=>q y u x r (f.trans v) (TV.weak f (λ_ z=>z) l)) λc H' h w=>n c H' h (f.trans w)
 ·rename_i o;rw[Wl o];exact A H0 B H1 σ γ _ X _ (g.grow f) s (λy u x r v l=>q y u x r (f.trans v) (TV.weak f (λ_ z=>z) l)) λc H' h w=>n c H' h (f.trans w)
end
noncomputable def XO:PTA:=λ_ R _=>R []
noncomputable def Xb(a:PTE)(r:PTA):PTA:=λγ R X=>a γ (λs=>r γ (λf=>R (s::f)) X) X
def Xl:Um K mg E UY XO:=by
 intro H0 B H σ γ R X Q f p q _;exact q _ _ H p (Same.refl _) .nil
def N9{a r}(y:JZ K mg E te a)(w:Um K mg E n r):Um K mg E (UE te n) (Xb a r):=by
 intro H0 B H σ γ R X Q f p q h;refine y H0 B H σ γ _ X _ f p (λs v H1 A g u=>?_) h;refine w H0 B H1 σ γ _ X _ (f.grow g) A (λL J G z l o=>?_) λc H' x C=>h c H' x (g.trans C);exact q _ _ G z (g.trans l) (.cons (u.grow l)<|TVs.weakG g o)
noncomputable def PX:List S->Option (List D)
 |[]=>some []
 |s::r=>match s.shd,PX r with
  |some d,some f=>some (d::f)
  |_,_=>none
theorem By:∀{ss}{ds:List D},PX ss=some ds->ss.map S.shd=ds.map some
 |[],ds,h=>by cases h;rfl
 |s::r,ds,h=>by
  unfold PX at h;split at h
  ·rename_i d l g f;cases h
   rw[W3,W3,g,By f]
  ·grind
noncomputable def DH(r:PTA):PTE:=λγ R X=>r γ (λg=>match PX g with|some f=>f.length<=1000/\R (.sh<|.tup f)|none=>False) X
noncomputable def AG(r:PTA):PTE:=λγ R X=>r γ (λg=>match PX g with|some f=>f.length<=1000/\R (.own f)|none=>False) X
def BK(h:n<=1000):n<=sizeLine:=QI (Dl h)
def Hl(A:Um K mg E w r):JZ K mg E (FV w) (DH r):=by
 intro H0 B H σ γ R X Q g p q y;refine A H0 B H σ γ _ X _ g p (λC v H1 h n x=>?_) y;split at h
 ·rename_i ds e;have f:=g.grow n;have rp:=x.shd (ds:=ds) f.same g.zm n (By e);refine⟨by rw[rp.len];exact BK h.1,λl s=>?_⟩;have u:=UI (o:=.tup v) s;refine q _ _ _ h.2 (n.trans u) (.tup (UB Ur λz=>?_)<|Rps.mono (Ul u λ_ _ _ z=>z) rp)
  have:=f.zm l z
  rw[s]at this;exact this
 ·grind
def Kr{H H1 l vs ds}(h:Same H H1)(f:H1 l=none)(rp:Rps K (off Z H1) ds vs):TV K Z H0 H (upd H1 l<|.lst vs) (.own ds) (.ref l):=
 ⟨l,rfl,(λ_ e=>e▸h.free f),vs,Ur,Rps.mono (Ul (UI f) λb o g z y=>y.elim z λe=>by rw[e,f]at g;cases g) rp⟩
def Xu(v:Um K mg E o r):JZ K mg E (EX o) (AG r):=by
 intro H0 B H σ γ R X Q f p q u;refine v H0 B H σ γ _ X _ f p (λx w H1 h g s=>?_) u;split at h
 ·rename_i ds e;have rp:=s.shd (ds:=ds) (f.grow g).same f.zm g (By e);refine⟨by rw[rp.len];exact BK h.1,λl n=>?_⟩;exact q _ _ _ h.2 (g.trans<|UI n) (Kr g n rp)
 ·grind
abbrev Pc:=List D->(S->Prop)->XR->Prop
noncomputable def Ui(mg:Yh)(c:Pc)(K:Yd):Sp:=λg H Q E=>∃f R X,Rps K H f g/\c f R X/\(∀s v H',R s->Same H H'->TV K (λb=>Mut (H b)) H H H' s v->Q v H')/\∀e H',X e->Same H H'->XE mg E e H'
noncomputable def S.back:S->S
 | .bor d=>UM d | .view o=>.tmp o.d|s=>s
def TV.back (env:Ud K H0 B H1 σ γ) (o:Same H H1) (f:Same H1 H') (h:TV K (λb=>Mut (H1 b)) H1 H1 H' s v):TV K (zof B γ σ) H0 H H' s.back v:=by
 cases s with
 |bor d=>exact X3 (λb z=>XM f (env.zm b z)) (Rp.mono f h)
 |sh d=>exact Rp.mono (Ul (Same.refl _) λb _ _ z y=>z (env.zm b y)) h
 |own n=>
  obtain⟨a,rfl,l,r⟩:=h;exact⟨a,rfl,(λb g=>o.free (l b g)),r.mono (Ul (Same.refl _) λb _ _ z y=>z (y.imp (env.zm b) id)) λ_ _ _ q=>q⟩
 |view n=>
  obtain⟨a,rfl,r⟩:=h;exact r.rp off_sub
 |tmp d=>exact h
noncomputable def AV(c:Pc)(r:PTA):PTE:=λγ R X=>r γ (λf=>c (f.map S.d) (λs=>R s.back) λ_=>False) X
noncomputable def Sr(c:Pc)(r:PTA):PTE:=λγ R X=>r γ (λf=>c (f.map S.d) (λs=>R s.back) X) X
def KC{l r}(y:Um K mg E l r):JZ K mg E (Px (Ui mg c K) [] E0 l) (AV c r):=by
 intro H0 B H σ γ R X Q g p q w;refine y H0 B H σ γ _ X _ g p (λG C H1 A h u=>?_) w;rw[WE];have f:=g.grow h;exact⟨_,_,_,u.rps f.same,A,λs v H' x n o=>q _ _ H' x (h.trans n) (o.back f h n),λ_ _ z=>z.elim⟩
def Hm{o r n}(z:Um K mg (λ_=>n) o r):JZ K mg (λ_=>n) (Px (Ui mg c K) [] n o) (Sr c r):=by
 intro H0 B H σ γ R X Q g p q u;refine z H0 B H σ γ _ X _ g p (λJ G H1 C l x=>?_) u;rw[WE];have f:=g.grow l;exact⟨_,_,X,x.rps f.same,C,λs v H' y h w=>q _ _ H' y (l.trans h) (w.back f l h),λe H' A h=>u e H' A (l.trans h)⟩
def TJ{n r}(y:Um K mg E n r):JZ K mg E (ExcR.Ak (Ui mg c K) E n) (Sr c r):=by
 intro H0 B H σ γ R X Q g p q o;refine y H0 B H σ γ _ X _ g p (λG C H1 A l w=>?_) o;rw[WE];have f:=g.grow l;exact⟨_,_,X,w.rps f.same,A,λs v H' x h u=>q _ _ H' x (l.trans h) (u.back f l h),λe H' z h=>o e H' z (l.trans h)⟩
def Ud.set {s f}{v} (l:Ud K H0 B H σ γ) (g:Same H H') (h:TV K (zof B γ σ) H0 H H' s v) (e:s.slot=some f) :
  Ud K H0 B H' (σ.set i<|some v) (γ.set i<|some f)/\Fr B H σ γ H' (σ.set i<|some v) (γ.set i<|some f):=by
 by_cases n:i<γ.length
 ·exact l.put g h e n
 ·rw[List.set_eq_of_length_le (by rw[l.len];lia),List.set_eq_of_length_le (by lia)];exact⟨l.grow g,Fr.grow g⟩
def Upd(g:Yk)(σ f:L2.St):Prop:=(∀j,j∉g->f[j]?=σ[j]?)/\f.length=σ.length
def K4(K:Yd)(h:Yk)(t:TG)(p:PTG):Prop:=∀(H0:Hp) (B:Addr->Prop) (H H':Hp) (σ:L2.St) (γ:Γ) (s:S) (v:V) (R:Γ->Prop) (Q:L2.St->Hp->Prop),Ud K H0 B H σ γ->Same H H'->TV K (zof B γ σ) H0 H H' s v->p s γ R->
 (∀f g,R g->Ud K H0 B H' f g->Fr B H σ γ H' f g->Upd h σ f->Q f H')->t v σ H' Q
noncomputable def Ka(i:Nat):PTG:=λs γ R=>match s.slot with|some f=>R (γ.set i<|some f)|none=>False
def XU(i:Nat):K4 K [i] (KP i) (Ka i):=by
 intro H0 B H H' σ γ s v R Q f n g p q;unfold Ka at p;split at p
 ·rename_i o e;obtain⟨l,f1⟩:=f.set n g e;exact q _ _ p l f1 ⟨λj h=>X2 λz=>h (by grind),Qr⟩
 ·grind
noncomputable def Gy:Po:=λf γ R=>match f with|[]=>R γ|_=>False
noncomputable def Gz(g:PTG)(r:Po):Po:=λh γ R=>match h with|s::t=>g s γ λf=>r t f R|[]=>False
def TV.notown {σ'}{γ'}{Hb} (f:Fr B H σ γ H' σ' γ') (g:Same H H') (n:∀ds,s≠.own ds) (l:∀ds,s≠.view ds) (h:TV K (zof B γ σ) H0 Hb H s v):TV K (zof B γ' σ') H0 H' H' s v:=by
 cases s with
 |bor d=>exact h
 |sh d=>exact Rp.mono f.off h
 |tmp d=>exact Rp.mono g h
 |_=>grind
def TVs.notown (f:Fr B H σ γ H g l):∀{ss}{vs:List V},(∀s∈ss,∀ds,s≠.own ds/\s≠.view ds)->TVs K (zof B γ σ) H0 q H ss vs->TVs K (zof B l g) H0 H H ss vs:=by
 intro ss
 induction ss with
 |nil=>
  intro _ _ h;cases h
  exact .nil
 |cons _ _ o=>
  intro _ n h;cases h with
  |cons h r=>
   exact .cons (h.notown f (Same.refl _) (λds=>(n _ Wz ds).1) λds=>(n _ Wz ds).2) (o (λs p=>n s (Wr _ p)) r)
def Sw(d:D):arg d=.sh d\/arg d=.bor d:=by unfold arg;cases imm d<;>simp
def FU(d:D):UM d=.sh d\/UM d=.tmp d:=by unfold UM;cases imm d<;>simp
def AN(s:S)(d:D):∀ds,s.sub d≠.own ds/\s.sub d≠.view ds:=λds=>by
 cases s with
 |bor b=>rcases Sw d with e|e<;>(show arg d≠_/\arg d≠_;rw[e];exact⟨(λz=>by cases z),(λz=>by cases z)⟩)
 |tmp b=>rcases FU d with e|e<;>(show UM d≠_/\UM d≠_;rw[e];exact⟨(λz=>by cases z),(λz=>by cases z)⟩)
 |sh b=>exact⟨(λz=>by cases z),(λz=>by cases z)⟩
 |own b|view b=>
  cases b with
  |nst f|nsl a f=>rcases FU d with e|e<;>(show UM d≠_/\UM d≠_;rw[e];exact⟨(λz=>by cases z),(λz=>by cases z)⟩)
  |_=>exact⟨(λz=>by cases z),(λz=>by cases z)⟩
def Tc(K:Yd)(o:Yk)(t:TGs)(p:Po):Prop:=∀(H0:Hp) (B:Addr->Prop) (H:Hp) (σ:L2.St) (γ:Γ) (h:List S) (l:List V) (R:Γ->Prop) (Q:L2.St->Hp->Prop),Ud K H0 B H σ γ->TVs K (zof B γ σ) H0 H H h l->(∀s∈h,∀n,s≠.own n/\s≠.view n)->p h γ R->
 (∀f g,R g->Ud K H0 B H f g->Fr B H σ γ H f g->Upd o σ f->Q f H)->t l σ H Q
def Zcc:Tc K [] As Gy:=by
 intro H0 B H σ γ l h R Q f g n p q;cases g with
 |nil=>exact⟨rfl,q _ _ p f Fr.refl ⟨λ_ _=>rfl,rfl⟩⟩
 |cons _ _=>exact p.elim
def Zbq{g r x w}(U:K4 K N g x)(T:Tc K M r w):Tc K (N++M) (D1 g r) (Gz x w):=by
 intro H0 B H σ γ ss vs R Q v J y p q;cases J with
 |nil=>exact p.elim
 |cons h t=>
  refine⟨_,_,rfl,U H0 B H H σ γ _ _ _ _ v (Same.refl _) h p λl o L e1 f1 C=>?_⟩;refine T H0 B H l o _ _ _ _ e1 (TVs.notown f1 (λs u=>y s (Wr _ u)) t) (λs u=>y s (Wr _ u)) L λf n p2 e2 Y A=>?_;exact q f n p2 e2 (f1.trans Y) ⟨λj G=>(A.1 j λz=>G (Wy _ z)).trans (C.1 j λz=>G (Qe _ z)),A.2.trans C.2⟩
noncomputable def Sg(n:Nat)(r:Po):PTG:=λs γ R=>match s.d with | .tup f=>f.length=n/\r (f.map s.sub) γ R|_=>False
theorem TVs.of_part {ds:List D}{s:S}:∀{vs}{ds:List D},vs.length=ds.length->(∀(i:Nat) d,ds[i]?=some d->∃u,vs[i]?=some u/\TV K Z H0 H H' (s.sub d) u)->TVs K Z H0 H H' (ds.map s.sub) vs
 |[],[],_,_=>.nil
 |[],_::_,e,_|_::_,[],e,_=>by cases e
 |v::vs,d::ds,e,h=>by
  obtain⟨u,g,f⟩:=h 0 d rfl;cases g
  exact .cons f (TVs.of_part (ds:=ds) (by grind) λi l n=>by simpa using h (i+1) l (by grind))
def Zby{y r x}(J:Tc K y r x):K4 K y (NX K n r) (Sg n x):=by
 intro H0 B H H' σ γ s v R Q g u A p q;unfold Sg at p;have f:=g.grow u;obtain⟨_,pt⟩:=A.part f.same g.zm u;split at p
 ·rename_i ds e;obtain⟨a,w,rfl,M,z,L⟩:=pt ds e;refine⟨a,w,rfl,SqT.of M,z.trans p.1,?_⟩;refine J H0 B H' σ γ _ w R Q f (TVs.notown (Fr.refl) (λC o ds=>?_)<|TVs.of_part (ds:=ds) z L) (λC o ds=>?_) p.2 λh l N T f1 G=>q h l N T (Fr.trans (Fr.grow u) f1) G
  ·obtain⟨d,_,rfl⟩:=WC.mp o;exact AN s d ds
  ·obtain⟨d,_,rfl⟩:=WC.mp o;exact AN s d ds
 ·grind
def PB.from {D p q} (e:PB K mg E H0 B H σ γ R D) (f:Fr B H σ γ H1 p q):PB K mg E H0 B H1 p q R D:=
 ⟨λg h H' o n l=>e.nx g h H' o n (f.trans l),e.rt,λg h c H' o n l=>e.ex g h c H' o n (f.trans l),λg h H' o n l=>e.bk g h H' o n (f.trans l),λg h H' o n l=>e.ct g h H' o n (f.trans l),λg h d v H' o n l=>e.rv g h d v H' o n (f.trans l)⟩
variable {te:TE}{a:PTE}{tt:TT}{c:PTT}{t u:TS}{p q:PTS}
noncomputable def A1:PTS:=λR γ=>R.nx γ
def Pn:Uj K mg E FI A1:=λ_ _ _ _ _ _ _ _ f h e=>e.nx _ _ _ h f Fr.refl
noncomputable def EM(p q:PTS):PTS:=λR γ=>p {R with nx:=q R} γ
def DE(o:Uj K mg E t p)(hq:Uj K mg E u q):Uj K mg E (Fk t u) (EM p q):=by
 intro H0 B H σ γ R D n l h e;refine o H0 B H σ γ _ _ n l h ⟨λf g H' r s f1=>?_,e.rt,e.ex,e.bk,e.ct,e.rv⟩;exact hq H0 B H' f g R D n s r (e.from f1)
structure Ft (p q:PTS) (R:X7) (γ:Γ):Prop where
 w:∃J:Γ->Prop,p {R with nx:=J} γ/\∀γ',J γ'->q R γ'
noncomputable def E7(p q:PTS):PTS:=λR γ=>Ft p q R γ
def P1(s:Uj K mg E t p)(hq:Uj K mg E u q):Uj K mg E (CP t u) (E7 p q):=by
 intro H0 B H σ γ R D r n h e;obtain⟨J,h,k⟩:=h.w;refine⟨λg H'=>∃f,J f/\Ud K H0 B H' g f/\Fr B H σ γ H' g f,s H0 B H σ γ _ _ r n h ⟨λg f H' l o f1=>⟨f,l,o,f1⟩,e.rt,e.ex,e.bk,e.ct,e.rv⟩,?_⟩;rintro g H' ⟨f,l,o,f1⟩;exact hq H0 B H' g f R D r o (k f l) (e.from f1)
noncomputable def Gf(i:Nat)(p:PTS):PTS:=λR γ=>p R (frz i γ)
def Zaf(i:Nat)(l:Uj K mg E t p):Uj K mg E t (Gf i p):=by
 intro H0 B H σ γ R D g f h e;obtain⟨n,f1⟩:=f.frz g i;exact l H0 B H σ _ R D g n h (e.from f1)
noncomputable def BX(a:PTE)(g:PTG):PTS:=λR γ=>a γ (λs=>g s γ R.nx) (R.ex γ)
def NF(z:JZ K mg E te a)(x:K4 K M g w):Uj K mg E (ND te g) (BX a w):=by
 intro H0 B H σ γ R D N f h e;refine z H0 B H σ γ _ _ _ f h (λs v H1 C L r=>?_) λc H' y o=>e.ex σ γ c H' y (f.grow o) (Fr.grow o);exact x H0 B H H1 σ γ s v _ _ f L r C λl n A J G _=>e.nx l n H1 A J G
noncomputable def Sj(i:Nat)(f:Int->Int->Int)(a:PTE):PTS:=λR γ=>match γ[i]? with
 |some (some<|.sh<|.int x)=>a γ (λy=>match y.d with | .int j=>R.nx (γ.set i<|some<|.sh<|.int<|f x j)|_=>False) (R.ex γ)
 |_=>False
def ML(A:JZ K mg E te a):Uj K mg E (CL i te<|ipI f) (Sj i f a):=by
 intro H0 B H σ γ R D M g h e;unfold Sj at h;split at h
 ·rename_i x hx;obtain⟨v,G,C⟩:=g.slot i _ hx;refine⟨v,G,A H0 B H σ γ _ _ _ g h (λy u H1 n o w=>?_) λc H' z r=>e.ex σ γ c H' z (g.grow r) (Fr.grow r)⟩;have l:=w.rp (g.grow o).same;split at n
  ·rename_i j J;rw[J]at l;refine⟨x,j,Rp.int_inv C,l.int_inv,?_⟩;obtain⟨L,f1⟩:=g.set (s:=.sh (.int<|f x j)) o (.int _) rfl;exact e.nx _ _ H1 n L f1
  ·grind
 ·grind
noncomputable def DG(a:PTE):PTS:=λR γ=>a γ R.rt (R.ex γ)
def UU(o:JZ K mg E te a):Uj K mg E (NH te) (DG a):=by
 intro H0 B H σ γ R D x f h e;refine o H0 B H σ γ _ _ _ f h (λs v H1 r w l=>?_) λc H' n g=>e.ex σ γ c H' n (f.grow g) (Fr.grow g);exact e.rt s v H1 r (f.same.trans w) (TV.weak f.same (λb z=>.inl z) l)
noncomputable def Fg(i:Nat):PTS:=λR γ=>match γ[i]? with|some (some s)=>R.rt s|_=>False
def RI(i:Nat):Uj K mg E (NH<|Kl i) (Fg i):=by
 intro H0 B H σ γ R D C f h e;unfold Fg at h;split at h
 ·rename_i s n;obtain⟨v,o,g⟩:=f.slot i _ n;refine⟨v,o,e.rt s v H h f.same ?_⟩;cases s with
  |bor d=>exact g
  |sh d=>exact Rp.mono (Ul (Same.refl _) λb _ _ z y=>z (.inl y)) g
  |own r=>
   obtain⟨l,rfl,A,x⟩:=g;exact⟨l,rfl,A,x.mono (Ul (Same.refl _) λb _ _ z y=>z (y.elim .inl λw=>.inr ⟨i,r,l,n,o,w⟩)) λ_ _ _ q=>q⟩
  |view r=>exact g.elim
  |tmp d=>trivial
 ·grind
noncomputable def Eb(c:PTT)(p q:PTS):PTS:=λR γ=>c γ (λb=>if b=true then p R γ else q R γ) (R.ex γ)
def P0(l:UG K mg E tt c)(v:Uj K mg E t p)(hq:Uj K mg E u q):Uj K mg E (G5 tt t u) (Eb c p q):=by
 intro H0 B H σ γ R D r f h e;refine l H0 B H σ γ _ _ _ f h (λb H1 o g=>?_) λc H' l s=>e.ex σ γ c H' l (f.grow s) (Fr.grow s);split at o
 ·rename_i n;rw[Wp n];exact v H0 B H1 σ γ R D r (f.grow g) o (e.from<|Fr.grow g)
 ·rename_i n;rw[Wl n];exact hq H0 B H1 σ γ R D r (f.grow g) o (e.from<|Fr.grow g)
noncomputable def CU(a:PTE):PTS:=λR γ=>a γ (λ_=>R.nx γ) (R.ex γ)
def KL(o:JZ K mg E te a):Uj K mg E (NC te) (CU a):=by
 intro H0 B H σ γ R D x f h e;exact o H0 B H σ γ _ _ _ f h (λs v H1 r g w=>e.nx σ γ H1 r (f.grow g) (Fr.grow g)) λc H' n l=>e.ex σ γ c H' n (f.grow l) (Fr.grow l)
noncomputable def Zae:PTS:=λ_ _=>False
def Xg:Uj K mg E Fx Zae:=λ_ _ _ _ _ _ _ _ _ h _=>h
noncomputable def Dq(x:Str)(r:PTA):PTS:=λR γ=>r γ (λf=>f.length<=1000/\R.ex γ x) (R.ex γ)
def TVs.len:∀{ss}{vs:List V},TVs K Z H0 H H' ss vs->vs.length=ss.length:=by
 intro ss
 induction ss with
 |nil=>
  intro _ h;cases h
  rfl
 |cons _ _ f=>
  intro _ h;cases h with
  |cons h r=>
   exact WJ (· + 1) (f r)
def MT{l r g}(w:Um K mg (λ_=>g) l r)(hx:autoParam (Kc x=none) au_0):Uj K mg (λ_=>g) (ExcR.CY (ExcR.Uc mg x) g l) (Dq x r):=by
 intro H0 B H σ γ R D C f h e;refine w H0 B H σ γ _ _ _ f h (λA z H1 n o v=>⟨?_,?_⟩) λc H' y s=>e.ex σ γ c H' y (f.grow s) (Fr.grow s)
 ·rw[v.len];exact BK n.1
 ·exact(e.ex σ γ x H1 n.2 (f.grow o)<|Fr.grow o).plain hx
def Zcy(i j:Nat)(γ:Γ)(R:Γ->Prop):List S->Prop
 |[.sh d,.sh e]=>R ((γ.set i<|some<|.sh d).set j (some<|.sh e))
 |_=>False
noncomputable def clr:Yk->Γ->Γ
 |[],γ=>γ
 |i::r,γ=>clr r (γ.set i none)
theorem Ud.clr:∀f {γ:Γ},Ud K H0 B H σ γ->Ud K H0 B H σ (clr f γ)/\Fr B H σ γ H σ (Pu.clr f γ)
 |[],_,e=>⟨e,Fr.refl⟩
 |i::r,γ,e=>by
  obtain⟨l,f1⟩:=e.drop i;obtain⟨h,g⟩:=Ud.clr r l;exact⟨h,f1.trans g⟩
def Later(H0:Hp)(Z:Addr->Prop)(H1:Hp)(Z':Addr->Prop)(H':Hp):Prop:=Same H0 H'/\(∀b,Z' b->Mut (H' b))/\∀b o,H1 b=some o->¬Z b->H' b=some o/\¬Z' b
def Later.of (e:Ud K H0 B H' g h) (f:Fr B H1 σ γ H' g h):Later H0 (zof B γ σ) H1 (zof B h g) H':=⟨e.same,e.zm,f⟩
def Later.off (l:Later H0 Z H1 Z' H'):Same (off Z H1) (Pu.off Z' H'):=λb o h=>by
 obtain⟨r,n⟩:=Kd h;obtain⟨g,f⟩:=l.2.2 b o r n;exact UB g f
structure Fp (K:Yd) (H0:Hp) (B:Addr->Prop) (H1:Hp) (σ:L2.St) (γ:Γ) (J:It) (n:Nat) (item:Nat->S):Prop where
 go:∀(i:Nat) (H':Hp) (Z':Addr->Prop),i<n->Later H0 (zof B γ σ) H1 Z' H'->J.go i H'/\∀x H'',J.yld i H' x H''->Same H' H''/\TV K Z' H0 H' H'' (item i) x
 stop:∀(H':Hp) (Z':Addr->Prop),Later H0 (zof B γ σ) H1 Z' H'->J.stop n H'
abbrev PTI:=Γ->(Nat->(Nat->S)->Prop)->XR->Prop
def SndI(K:Yd)(mg:Yh)(E:L2.St->XK)(f:TI)(g:PTI):Prop:=∀(H0:Hp) (B:Addr->Prop) (H:Hp) (σ:L2.St) (γ:Γ) (R:Nat->(Nat->S)->Prop) (X:XR) (Q:It->Hp->Prop),Ud K H0 B H σ γ->g γ R X->
 (∀n item J H1,R n item->Same H H1->Fp K H0 B H1 σ γ J n item->Q J H1)->(∀c H',X c->Same H H'->XE mg (E σ) c H')->f σ H Q
structure Tv (js:Yk) (γ:Γ) (g:PTG) (body:PTS) (R:X7) (n:Nat) (item:Nat->S):Prop where
 w:∃inv:Nat->Γ->Prop,inv 0 (clr js γ)/\
 (∀i γ',i<n->inv i γ'->g (item i) γ' λγ2=>body {R with nx:=λγ3=>inv (i+1) (clr js γ3),ct:=λγ3=>inv (i+1) (clr js γ3),bk:=R.nx} γ2)/\∀γ',inv n γ'->R.nx γ'
noncomputable def E8(f:Yk)(h:PTI)(g:PTG)(body:PTS):PTS:=λR γ=>h γ (λn item=>Tv f γ g body R n item) (R.ex γ)
def Rz{wi g it pg}(M:Yk)(hi:SndI K mg E wi it)(hg:K4 K is g pg)(hb:Uj K mg E t p):Uj K mg E (EN wi g t) (E8 M it pg p):=by
 intro H0 B H σ γ R D hB Q h e;refine hi H0 B H σ γ _ _ _ Q h (λn item J H1 h1 S1 ok=>?_) λc H' hc S'=>e.ex σ γ c H' hc (Q.grow S') (Fr.grow S');obtain⟨inv,h0,hs,hd⟩:=h1.w;have L:=Q.grow S1;refine⟨λi m z H'=>m=n-i/\i<=n/\∃f,inv i f/\Ud K H0 B H' z f/\Fr B H1 σ γ H' z f,⟨n,by simp,Qd _,_,h0,(L.clr M).1,(L.clr M).2⟩,?_⟩;rintro i m z H' ⟨rfl,hin,f,Y,e',f'⟩;by_cases N:i<n
 ·obtain⟨go,yl⟩:=ok.go i H' _ N (Later.of e' f');refine .inr ⟨go,λs H2=>∃r,inv (i+1) r/\Ud K H0 B H2 s r/\Fr B H1 σ γ H2 s r,λs H2 ⟨r,a1,a2,a3⟩=>⟨n-(i+1),by lia,rfl,N,r,a1,a2,a3⟩,λx U y=>?_⟩;obtain⟨S2,tv⟩:=yl x U y;refine hg H0 B H' U z f _ _ _ _ e' S2 tv (hs i f N Y) λs r q2 e2 f2 _=>?_;have fall:=f'.trans f2;refine hb H0 B U s r _ _ hB e2 q2 ⟨λl o T C A G=>?_,e.rt,λl o c T C A G=>e.ex l o c T C A ((Fr.grow S1).trans (fall.trans G)),λl o T C A G=>e.nx l o T C A ((Fr.grow S1).trans (fall.trans G)),λl o T C A G=>?_,λl o d v T C A G=>e.rv l o d v T C A ((Fr.grow S1).trans (fall.trans G))⟩
  ·exact⟨_,C,(A.clr M).1,(fall.trans G).trans (A.clr M).2⟩
  ·exact⟨_,C,(A.clr M).1,(fall.trans G).trans (A.clr M).2⟩
 ·have:i=n:=by lia
  subst this;exact .inl ⟨ok.stop H' _ (Later.of e' f'),e.nx z f H' (hd f Y) e' ((Fr.grow S1).trans f')⟩
noncomputable def S.fix:S->Bool
 | .bor _=>true | .sh _=>true | .own (.nsl _ _)=>false | .own _=>true|_=>false
noncomputable def pIL(a:PTE):PTI:=λγ R X=>a γ (λs=>match s.d with
 | .lst g=>s.fix=true/\R g.length λi=>s.sub (g.getD i .non)
 | .scr f=>s.fix=true/\R f.length λi=>.sh (.int<|f.getD i 0)
 |_=>False) X
def TV.last (env:Ud K H0 B H σ γ) (L:Same H H1) (f:TV K (zof B γ σ) H0 H H1 s v) (G:s.fix=true) (o:s.d=.lst ds):∃l vs,v=.ref l/\vs.length=ds.length/\
  ∀H' Z',Later H0 (zof B γ σ) H1 Z' H'->H' l=some (.lst vs)/\∀(i:Nat) d,ds[i]?=some d->∃u,vs[i]?=some u/\TV K Z' H0 H' H' (s.sub d) u:=by
 have g:∀{s:S},(∀d,s.sub d=.sh d)->Rp K (Pu.off (zof B γ σ) H1) (.lst ds) v->∃l vs,v=.ref l/\vs.length=ds.length/\
   ∀H' Z',Later H0 (zof B γ σ) H1 Z' H'->H' l=some (.lst vs)/\∀i d,ds[i]?=some d->∃u,vs[i]?=some u/\TV K Z' H0 H' H' (s.sub d) u:=λM h=>by
  obtain⟨l,vs,rfl,z,n⟩:=Rp.lst_inv h;refine⟨l,vs,rfl,n.len,λH' Z' lt=>⟨off_sub _ _ (lt.off _ _ z),λi d r=>?_⟩⟩;obtain⟨u,y,w⟩:=n.get r;refine⟨u,y,?_⟩;rw[M];exact Rp.mono lt.off w
 cases s with
 |bor d=>
  have f:=Rp.strip f;rw[show d.strip=.lst ds from o]at f
  obtain⟨l,vs,rfl,z,n⟩:=Rp.lst_inv f;refine⟨l,vs,rfl,n.len,λH' Z' lt=>⟨lt.1 _ _ z,λi d r=>?_⟩⟩;obtain⟨u,y,w⟩:=n.get r;exact⟨u,y,Pz lt.2.1 lt.1 w⟩
 |sh d=>
  have:=o
  subst this;exact g (λ_=>rfl) f
 |own A=>
  cases A with
  |dK A|dT A|ins x C xs J|nst J=>cases o
  |nsl a J=>cases G
  |_=>
   cases o
   exact g (λ_=>rfl) (f.shd (env.grow L).same env.zm L rfl)
 |_=>cases G
def LR(ha:JZ K mg E te a):SndI K mg E (NG K te) (pIL a):=by
 intro H0 B H σ γ R X Q n h q qx;refine ha H0 B H σ γ _ X _ n h (λs v H1 r M o=>?_) qx;have f:=n.grow M;split at r
 ·rename_i Y C;obtain⟨l,G,rfl,hn,g⟩:=o.last n M r.1 C;obtain⟨N,_⟩:=g H1 _ (Later.of f Fr.refl);refine⟨l,rfl,⟨G,SqL.of N⟩,q _ _ _ H1 r.2 M ⟨λi H' Z' L lt=>?_,λH' Z' lt=>?_⟩⟩
  ·obtain⟨w,k2⟩:=g H' Z' lt;have hd:Y[i]?=some (Y.getD i .non):=by rw[Wj,Wc L];rfl
   obtain⟨u,z,tu⟩:=k2 i _ hd;refine⟨⟨G,u,SqL.of w,z⟩,λx T y=>?_⟩;obtain⟨rfl,y⟩:=y
   have:=y G (SqL.of w)
   rw[z]at this;cases this
   exact⟨Same.refl _,tu⟩
  ·exact⟨G,SqL.of (g H' Z' lt).1,by lia⟩
 ·rename_i J C
  have A:∃l,v=.ref l/\∀H' Z',Later H0 (zof B γ σ) H1 Z' H'->SqL K H' l (J.map V.int):=by
   cases s with
   |bor d=>
    have o:=Rp.strip o;rw[show d.strip=.scr J from C]at o
    cases o with
    |scr A=>exact⟨_,rfl,λH' Z' lt=>lt.1.seq A⟩
   |sh d=>
    have:=C
    subst this;cases o with
    |scr A=>exact⟨_,rfl,λH' Z' lt=>off_sub.seq (lt.off.seq A)⟩
   |own U|view U=>cases U<;>cases C
   |tmp d=>cases r.1
  obtain⟨l,rfl,g⟩:=A;refine⟨l,rfl,⟨_,g H1 _ (Later.of f Fr.refl)⟩,q _ _ _ H1 r.2 M ⟨λi H' Z' L lt=>?_,λH' Z' lt=>?_⟩⟩
  ·have w:=g H' Z' lt
   have z:(J.map V.int)[i]?=some (.int<|J.getD i 0):=by
    rw[Ws,Wc L,Wj,Wc L];rfl
   refine⟨⟨_,_,w,z⟩,λx T y=>?_⟩;obtain⟨rfl,y⟩:=y
   have:=y _ w
   rw[z]at this;cases this
   exact⟨Same.refl _,.int _⟩
  ·exact⟨_,g H' Z' lt,by rw[Wd];exact Wk _⟩
 ·exact r.elim
def fR1(R:Nat->(Nat->S)->Prop):List D->Prop
 |[.int j]=>(-(2 ^ 62)<=j/\j<2 ^ 62)/\R j.toNat λi=>.sh (.int (0+(i:Int)))
 |_=>False
def fR2(R:Nat->(Nat->S)->Prop):List D->Prop
 |[.int i,.int j]=>(-(2 ^ 62)<=i/\i<2 ^ 62/\-(2 ^ 62)<=j/\j<2 ^ 62)/\R (j-i).toNat λk=>.sh (.int (i+(k:Int)))
 |_=>False
noncomputable def AD(r:PTA):PTI:=λγ R X=>r γ (λf=>fR1 R (f.map S.d)) X
noncomputable def Dt(r:PTA):PTI:=λγ R X=>r γ (λf=>fR2 R (f.map S.d)) X
def Rps.one_inv (h:Rps K H [d] vs):∃v,vs=[v]/\Rp K H d v:=by
 cases h with
 |cons h r=>cases r;exact⟨_,rfl,h⟩
def Rps.two_inv (h:Rps K H [d,e] vs):∃v u,vs=[v,u]/\Rp K H d v/\Rp K H e u:=by
 cases h with
 |cons h r=>cases r with|cons f r=>cases r;exact⟨_,_,rfl,h,f⟩
def CH{lo n}:Fp K H0 B H1 σ γ (Itr lo n) n λi=>.sh (.int (lo+(i:Int))):=by
 refine⟨λi H' Z' f lt=>⟨f,λx g y=>?_⟩,λH' Z' lt=>Wk _⟩;obtain⟨e,y⟩:=y;subst e y;exact⟨Same.refl _,.int _⟩
def RT(y:Um K mg E o r):SndI K mg E (Df o) (AD r):=by
 intro H0 B H σ γ R X Q g h q x;refine y H0 B H σ γ _ X _ g h (λC A H1 f n s=>?_) x;have l:=s.rps (g.grow n).same;unfold fR1 at f;split at f
 ·rename_i j z;rw[z]at l;obtain⟨v,rfl,w⟩:=l.one_inv;rw[w.int_inv];exact⟨j,rfl,f.1.1,f.1.2,q _ _ _ H1 f.2 n CH⟩
 ·grind
def O2(z:Um K mg E o r):SndI K mg E (AF o) (Dt r):=by
 intro H0 B H σ γ R X Q f h q y;refine z H0 B H σ γ _ X _ f h (λG C H1 g n s=>?_) y;have l:=s.rps (f.grow n).same;unfold fR2 at g;split at g
 ·rename_i i j A;rw[A]at l;obtain⟨v,u,rfl,x,w⟩:=l.two_inv;rw[x.int_inv,w.int_inv];exact⟨i,j,rfl,g.1,q _ _ _ H1 g.2 n CH⟩
 ·grind
structure FC (js:Yk) (γ:Γ) (c:PTT) (body:PTS) (R:X7):Prop where
 w:∃(inv:Γ->Prop) (μ:Γ->Nat),inv (clr js γ)/\∀γ',inv γ'->c γ' (λb=>if b=true then
  body {R with nx:=λγ3=>inv (clr js γ3)/\μ (clr js γ3)<μ γ',ct:=λγ3=>inv (clr js γ3)/\μ (clr js γ3)<μ γ',bk:=R.nx} γ' else R.nx γ') (R.ex γ')
noncomputable def Ga(f:Yk)(c:PTT)(body:PTS):PTS:=λR γ=>FC f γ c body R
def IX(z:Yk)(J:UG K mg E tt c)(hb:Uj K mg E t p):Uj K mg E (EZ tt t) (Ga z c p):=by
 intro H0 B H σ γ R D hB C h e;obtain⟨inv,G,h0,hs⟩:=h.w;refine⟨λm l H'=>∃f,m=G f/\inv f/\Ud K H0 B H' l f/\Fr B H σ γ H' l f,⟨_,_,rfl,h0,(C.clr z).1,(C.clr z).2⟩,?_⟩;rintro m l H' ⟨f,rfl,hi,L,T⟩;refine J H0 B H' l f _ _ _ L (hs f hi) (λb H1 Q Y=>?_) λc N J S'=>e.ex l f c N J (L.grow S') (T.trans<|Fr.grow S');have U:=L.grow Y;have f1:=T.trans (Fr.grow Y);cases b with
 |false=>
  exact e.nx l f H1 Q U f1
 |true=>
  refine⟨λy M=>∃o,G o<G f/\inv o/\Ud K H0 B M y o/\Fr B H σ γ M y o,λy M ⟨o,k,a1,a2,a3⟩=>⟨_,k,o,rfl,a1,a2,a3⟩,?_⟩;refine hb H0 B H1 l f _ _ hB U Q ⟨λg n A r s x=>?_,e.rt,λg n c A r s x=>e.ex g n c A r s (f1.trans x),λg n A r s x=>e.nx g n A r s (f1.trans x),λg n A r s x=>?_,λg n d v A r s x=>e.rv g n d v A r s (f1.trans x)⟩
  ·exact⟨_,r.2,r.1,(s.clr z).1,(f1.trans x).trans (s.clr z).2⟩
  ·exact⟨_,r.2,r.1,(s.clr z).1,(f1.trans x).trans (s.clr z).2⟩
end
section
variable {K:Yd}{mg:Yh}{E:L2.St->XK}{H0 H H1 H':Hp}{B Z Z':Addr->Prop}{σ:L2.St}{γ:Γ}
noncomputable def Ke(N:Ym)(ds:List D):Γ:=ds.map (λd=>some (arg d))++List.replicate (N.length-ds.length) none
def IA{ds vs}(r:Rps K H ds vs)(x:ds.length<=N.length):Ud K H (λb=>Mut (H b)) H (start N vs) (Ke N ds):=by
 have get:∀i s,(Ke N ds)[i]?=some (some s)->∃d,ds[i]?=some d/\s=arg d:=λi s h=>by
  unfold Ke at h;by_cases g:i<ds.length
  ·rw[WM (by rw[Wd];exact g),Ws,Wc g]at h;exact⟨_,Wc g,(Wm<|Wm h).symm⟩
  ·rw[Qs (by rw[Wd];lia),QT]at h;split at h<;>cases h
 have noown:∀(i:Nat) f,(Ke N ds)[i]?≠some (some<|.own f):=λi f h=>by
  obtain⟨d,_,e⟩:=get i _ h;rcases Sw d with q|q<;>rw[q]at e<;>cases e
 refine⟨Same.refl _,?_,λb h=>h,λi j a y f w b h=>absurd h (noown i f),λi s h=>?_⟩
 ·unfold L2.start Ke;simp[r.len]
 ·obtain⟨d,u,rfl⟩:=get i s h;obtain⟨v,n,o⟩:=r.get u;refine⟨v,?_,?_⟩
  ·unfold L2.start;rw[WM (by rw[Wd];exact(WL.mp n).1),Ws,n];rfl
  ·have l:=Pz (Z:=zof (λb=>Mut (H b)) (Ke N ds) (start N vs)) (H:=H) (λb z=>z.elim id λ⟨k,f,_,p,_⟩=>absurd p (noown k f)) (Same.refl _) o;rcases Sw d with q|q<;>rw[q]at l ⊢<;>exact l
def Zan{t p vs Q x n}(h:Ui mg c K vs H Q x)(o:Uj K mg (λ_=>x) t p)(J:n<=N.length)(q:∀ds R X,c ds R X->ds.length=n/\p {nx:=λ_=>R (.sh .non),rt:=R,ex:=λ_ e=>X e} (Ke N ds)):t {nx:=λ_ H'=>Q .non H',rt:=Q} (start N vs) H:=by
 obtain⟨ds,R,X,r,A,w,C⟩:=h;obtain⟨e,q⟩:=q ds R X A;refine o H (λb=>Mut (H b)) H _ _ _ _ (λb z=>KG z) (IA r<|by lia) q ⟨λg l H' f u f1=>w _ _ H' f u.same .non,λs v H' f G y=>w s v H' f G y,λg l c H' f u f1=>C c H' f u.same,λ_ _ _ z=>z.elim,λ_ _ _ z=>z.elim,λ_ _ _ _ _ z=>z.elim⟩
def Zcb(h:Ui mg c K vs H Q l)(f:∀ds R X,c ds R X->ds.length=n):vs.length=n:=by
 obtain⟨ds,R,X,r,g,_⟩:=h;rw[r.len]
 grind
noncomputable def atP(φ:Yj)(γ:Γ):Γ:=φ.map λo=>o.bind λj=>(γ[j]?).join
structure Tp (φ:Yj) (γ:Γ) (g:PTG) (c:PTT) (e:PTE) (n:Nat) (item:Nat->S) (R:S->Prop):Prop where
 w:n<=100000/\∃f:Nat->Option D,(∀i,i<n->g (item i) (atP φ γ) λγ2=>c γ2 (λb=>if b=true then e γ2 (λs=>∃d,s.shd=some d/\f i=some d) (λ_=>False)else f i=none) (λ_=>False))/\R (.own ((List.range n).filterMap f))
noncomputable def NT(φ:Yj)(f:PTI)(g:PTG)(c:PTT)(e:PTE):PTE:=λγ R X=>f γ (λn item=>Tp φ γ g c e n item R) X
def Nz{i:Nat}{s}(h:(atP φ γ)[i]?=some (some s)):∃j,φ[i]?=some (some j)/\γ[j]?=some (some s):=by
 unfold atP at h;cases e:φ[i]? with
 |none=>grind
 |some o=>
  cases o with
  |_=>grind
theorem NR:∀{φ:Yj},(φ.filterMap id).Nodup->∀(i j k:Nat),φ[i]?=some (some k)->φ[j]?=some (some k)->i=j
 |[],_,i,_,_,h,_=>by simp at h
 |none::r,n,i,j,k,g,f=>by
  cases i with
  |zero=>simp at g
  |succ i=>
   cases j with
   |zero=>simp at f
   |succ j=>exact WJ (· + 1) (NR (by simpa using n) i j k (by simpa using g)<|by simpa using f)
 |some m::r,n,i,j,k,g,f=>by
  have l:m∉r.filterMap id/\(r.filterMap id).Nodup:=by simpa using n
  have o:∀{j:Nat},r[j]?=some (some k)->k∈r.filterMap id:=λh=>Vs.mpr ⟨some k,WS h,rfl⟩;cases i with
  |zero=>
   cases j with
   |zero=>rfl
   |succ j=>simp_all
  |succ i=>
   cases j with
   |zero=>simp_all
   |succ j=>exact WJ (· + 1) (NR l.2 i j k (by simpa using g)<|by simpa using f)
def N4{i j:Nat}(g:φ[i]?=some (some j)){v}(f:σ[j]?=some (some v)):(atStart φ σ)[i]?=some (some v):=by
 unfold atStart
 grind
def EV{L}(env:Ud K H0 B H σ γ)(r:H L=none):∀b o,H b=some o->¬zof B γ σ b->¬zof (λb=>zof B γ σ b\/b=L) (atP φ γ) (atStart φ σ) b:=λb o u z y=>by
 rcases y with(y|y)|⟨s,q,x,n,f,l⟩
 ·grind
 ·grind
 ·obtain⟨m,p,h⟩:=Nz n;obtain⟨w,g,_⟩:=env.slot m _ h;rw[N4 p g]at f;exact z (.inr ⟨m,q,x,h,by rw[g];exact WJ some (Wm f),l⟩)
def IS{L}(env:Ud K H0 B H σ γ)(n:Same H H')(M:H L=none)(N:∃r,H' L=some (.lst r))(q:(φ.filterMap id).Nodup) :
  Ud K H0 (λb=>zof B γ σ b\/b=L) H' (atStart φ σ) (atP φ γ):=by
 refine⟨env.same.trans n,by unfold atStart atP;simp,λb z=>?_,λi j a a' G es b h1 Y U C T Q=>?_,λi s h=>?_⟩
 ·rcases z with z|rfl
  ·exact XM n (env.zm b z)
  ·obtain⟨r,e⟩:=N;rw[e];trivial
 ·obtain⟨k,g,f⟩:=Nz h1;obtain⟨l,A,y⟩:=Nz Y;obtain⟨v,p,_⟩:=env.slot k _ f;obtain⟨u,w,_⟩:=env.slot l _ y;rw[N4 g p]at U;rw[N4 A w]at C
  have:=env.own k l a a' G es b f y (by grind) (by rw[w];exact WJ some (Wm C)) T Q
  subst this;exact NR q i j k g A
 ·obtain⟨k,g,f⟩:=Nz h;obtain⟨v,p,o⟩:=env.slot k _ f;have J:Same (off (zof B γ σ) H) (off (zof (λb=>zof B γ σ b\/b=L) (atP φ γ)<|atStart φ σ) H'):=Ul n (EV env M);refine⟨v,N4 g p,?_⟩;cases s with
  |sh d=>exact Rp.mono J o
  |own G=>
   obtain⟨a,e1,e3,e4⟩:=o;exact⟨a,e1,e3,e4.mono J λb _ x=>n b x⟩
  |_=>exact o
def Sub.of {g:Yk} (h:f.length=σ.length) (n:∀j,j∉g->f[j]?=σ[j]?) (o:∀j∈g,∀v,σ[j]?≠some (some v)):Sub σ f:=⟨h,λi v e=>by
 by_cases l:i∈g
 ·grind
 ·rw[n i l];exact e⟩
structure Os (K:Yd) (H0:Hp) (B:Addr->Prop) (H1:Hp) (σ:L2.St) (γ:Γ) (J:It) (n:Nat) (item:Nat->S):Prop where
 go:∀(i:Nat) (H':Hp) (Z':Addr->Prop),i<n->Same H1 H'->Later H0 (zof B γ σ) H1 Z' H'->J.go i H'/\∀x H'',J.yld i H' x H''->Same H' H''/\TV K Z' H0 H' H'' (item i) x
 stop:∀(H':Hp) (Z':Addr->Prop),Same H1 H'->Later H0 (zof B γ σ) H1 Z' H'->J.stop n H'
def N2(K:Yd)(mg:Yh)(E:L2.St->XK)(f:TI)(g:PTI):Prop:=∀(H0:Hp) (B:Addr->Prop) (H:Hp) (σ:L2.St) (γ:Γ) (R:Nat->(Nat->S)->Prop) (X:XR) (Q:It->Hp->Prop),Ud K H0 B H σ γ->g γ R X->
 (∀n item J H1,R n item->Same H H1->Os K H0 B H1 σ γ J n item->Q J H1)->(∀c H',X c->Same H H'->XE mg (E σ) c H')->f σ H Q
def SndI.c (h:SndI K mg E g o):N2 K mg E g o:=λH0 B H σ γ R X Q f p q l=>
 h H0 B H σ γ R X Q f p (λn item J H1 s u ok=>q n item J H1 s u ⟨λi H' Z' r _ lt=>ok.go i H' Z' r lt,λH' Z' _ lt=>ok.stop H' Z' lt⟩) l
noncomputable def Ee(a:PTE):PTI:=λγ R X=>a γ (λs=>match s.d with
 | .lst f=>R f.length λi=>s.sub (f.getD i .non)
 | .tup f=>False
 | .scr g=>R g.length λi=>.sh (.int<|g.getD i 0)
 |_=>False) X
def N0(ha:JZ K mg E te a):N2 K mg E (NG K te) (Ee a):=by
 intro H0 B H σ γ R X Q env h q qx;refine ha H0 B H σ γ _ X _ env h (λs v H1 h1 S1 A=>?_) qx;have M:=env.grow S1;split at h1
 ·rename_i ds G;have Y:=A.rp M.same;rw[G]at Y;obtain⟨l,U,rfl,f,r1⟩:=Y.lst_inv;refine⟨l,rfl,⟨U,SqL.of f⟩,q _ _ _ H1 h1 S1 ⟨λi H' Z' hi J lt=>?_,λH' Z' J lt=>⟨U,SqL.of (J _ _ f),by rw[r1.len];exact Wk _⟩⟩⟩;have N:ds[i]?=some (ds.getD i .non):=by rw[Wj,Wc hi];rfl
  have hi':∃u,U[i]?=some u/\TV K Z' H0 H' H' (s.sub<|ds.getD i .non) u:=by
   cases s with
   |bor d=>
    have A:=Rp.strip A;rw[show d.strip=.lst ds from G]at A
    obtain⟨T,o,w,r,p⟩:=Rp.lst_inv A;cases w
    rw[M.same _ _ r]at f;cases f
    obtain⟨u,n,g⟩:=p.get N;exact⟨u,n,Pz lt.2.1 lt.1 g⟩
   |sh d=>
    have:=G
    subst this;obtain⟨T,o,w,r,p⟩:=Rp.lst_inv A;cases w
    rw[off_sub _ _ r]at f;cases f
    obtain⟨u,n,g⟩:=p.get N;exact⟨u,n,Rp.mono lt.off g⟩
   |own L=>
    cases L with
    |dK L|dT L|ins x C xs cs|nst cs=>cases G
    |nsl x cs=>
     obtain⟨u,n,g⟩:=r1.get N;exact⟨u,n,X3 lt.2.1 (Rp.mono J g)⟩
    |lsA x L=>
     cases G
     obtain⟨T,w,h0,_,o,r,p⟩:=A;cases w
     rw[r]at f;cases f
     obtain⟨u,n,g⟩:=p.get N;exact⟨u,n,Rp.mono lt.off (Rp.mono (Ul (Same.refl _) λb _ _ z y=>z (.inl y)) g)⟩
    |lst L=>
    cases G
    obtain⟨T,w,h0,o,r,p⟩:=A;cases w
    rw[r]at f;cases f
    obtain⟨u,n,g⟩:=p.get N;exact⟨u,n,Rp.mono lt.off (Rp.mono (Ul (Same.refl _) λb _ _ z y=>z (.inl y)) g)⟩
   |view L=>
    cases L with
    |dK L|dT L|ins x C xs cs|nst cs=>cases G
    |nsl x cs=>
     obtain⟨u,n,g⟩:=r1.get N;exact⟨u,n,X3 lt.2.1 (Rp.mono J g)⟩
    |lsA x L=>
     cases G
     obtain⟨T,w,_,o,r,p⟩:=A;cases w
     rw[r]at f;cases f
     obtain⟨u,n,g⟩:=p.get N;exact⟨u,n,Rp.mono lt.off g⟩
    |lst L=>
    cases G
    obtain⟨T,w,o,r,p⟩:=A;cases w
    rw[r]at f;cases f
    obtain⟨u,n,g⟩:=p.get N;exact⟨u,n,Rp.mono lt.off g⟩
   |tmp d=>
    have:=G
    subst this;obtain⟨T,o,w,r,p⟩:=Rp.lst_inv A;cases w
    rw[r]at f;cases f
    obtain⟨u,n,g⟩:=p.get N;exact⟨u,n,X3 lt.2.1 (Rp.mono J g)⟩
  obtain⟨u,hu,tu⟩:=hi';refine⟨⟨U,u,SqL.of (J _ _ f),hu⟩,λx H'' y=>?_⟩;obtain⟨rfl,y⟩:=y
  have:=y U (SqL.of<|J _ _ f)
  rw[hu]at this;cases this
  exact⟨Same.refl _,tu⟩
 ·exact h1.elim
 ·rename_i ns G;have Y:=A.rp M.same;rw[G]at Y;cases Y with
  |scr hs=>
   refine⟨_,rfl,⟨_,hs⟩,q _ _ _ H1 h1 S1 ⟨λi H' Z' hi J lt=>?_,λH' Z' J lt=>⟨_,J.seq hs,by rw[Wd];exact Wk _⟩⟩⟩
   have hu:(ns.map V.int)[i]?=some (.int<|ns.getD i 0):=by
    rw[Ws,Wc hi,Wj,Wc hi];rfl
   refine⟨⟨_,_,J.seq hs,hu⟩,λx H'' y=>?_⟩;obtain⟨rfl,y⟩:=y
   have:=y _ (J.seq hs)
   rw[hu]at this;cases this
   exact⟨Same.refl _,.int _⟩
 ·exact h1.elim
def KM{φ is wi g tc te it pg c a}(hi:N2 K mg E wi it)(hg:K4 K is g pg)(hc:UG K mg E tc c)(he:JZ K mg E te a)(h1:autoParam ((φ.filterMap id).Nodup) au_1)(h2:autoParam (∀j∈is,φ[j]?=some none) au_1):JZ K mg E (PJ φ wi g tc te) (NT φ it pg c a):=by
 intro H0 B H σ γ R X Q env h q qx;refine hi H0 B H σ γ _ X _ env h (λn item J H1 h1' S1 ok=>?_) qx;obtain⟨hn,f,hf,hR⟩:=h1'.w;have l:=env.grow S1;have hbig:n<=sizeLine:=Wu hn (by decide);intro L U;refine⟨λi m G C=>m=n-i/\i<=n/\Same H1 C/\C L=some (.lst G)/\Rps K (off (λb=>zof B γ σ b\/b=L) C) ((List.range i).filterMap f) G,⟨n,by simp,Qd _,UI U,Ur,.nil⟩,?_⟩;rintro i m G C ⟨rfl,hin,u,hL,p⟩;have A:=l.grow u;by_cases r:i<n
 ·have envI2:=IS l u U ⟨G,hL⟩ h1;obtain⟨go,yl⟩:=ok.go i C _ r u ⟨A.same,envI2.zm,λb o Y z=>⟨u _ _ Y,EV l U b o Y z⟩⟩;refine .inr ⟨go,λx H3 y=>?_⟩;obtain⟨S3,tv⟩:=yl x H3 y;refine hg H0 _ C H3 _ _ _ _ _ _ envI2 S3 tv (hf i r) λN T p2 e2 f2 k2=>⟨?_,?_⟩
  ·refine Sub.of k2.2 k2.1 λj hj v z=>?_;obtain⟨k,k1,_⟩:=Gc z;rw[h2 j hj]at k1;cases k1
  ·refine hc H0 _ H3 N T _ _ _ e2 p2 (λb H5 q5 S5=>?_) λ_ _ z=>z.elim;have e5:=e2.grow S5;cases b with
   |false=>
    rw[Wl Wt]at q5 ⊢;refine⟨n-(i+1),by lia,rfl,r,(u.trans S3).trans S5,(S3.trans S5) _ _ hL,?_⟩;rw[List.range_succ,Q7];simp only[Qh,q5,List.filterMap_nil,WE];exact Rps.mono (Ul (S3.trans S5) λ_ _ _ z=>z) p
   |true=>
    refine he H0 _ H5 N T _ _ _ e5 q5 (λs v H6 q6 S6 t6=>?_) λ_ _ z=>z.elim;obtain⟨d,hd,hfd⟩:=q6;have M:=(S3.trans S5).trans S6
    have hlen:G.length<=i:=by
     rw[p.len];exact Wu (List.length_filterMap_le _ _) (by rw[List.length_range];exact Wk _)
    refine⟨M _ _ hL,by lia,n-(i+1),by lia,rfl,r,λb o Y=>?_,Ur,?_⟩
    ·rw[Ug (U3 Y U)];exact M _ _ (u _ _ Y)
    ·rw[List.range_succ,Q7];have ef:[i].filterMap f=[d]:=by simp[hfd]
     rw[ef]
     have So:Same (off (λb=>zof B γ σ b\/b=L) H6) (off (λb=>zof B γ σ b\/b=L)<|upd H6 L<|.lst (G++[v])):=λb o h=>by
      obtain⟨a1,a2⟩:=Kd h;refine UB ?_ a2;rwa[Ug λz=>a2 (.inr z)]
     refine Rps.append (Rps.mono So<|Rps.mono (Ul M λ_ _ _ z=>z) p) (.cons (Rp.mono So<|Rp.mono (Ul (Same.refl _) λb _ _ z y=>z (.inl y)) (t6.shd (e5.grow S6).same e5.zm S6 hd)) .nil)
 ·have:i=n:=by lia
  subst this;exact .inl ⟨ok.stop C _ u (Later.of A<|Fr.grow u),q _ _ C hR (S1.trans u) ⟨L,rfl,(λ_ e=>e▸S1.free U),G,hL,p⟩⟩
noncomputable def Se:PTT:=λ_ R _=>R true
def TQ:UG K mg E De Se:=λ_ _ H _ _ _ _ _ _ p q _=>q _ H p (Same.refl _)
def Og{g h:Type}(xs:List g)(f:g->Option h):(List.range xs.length).filterMap (λi=>(xs[i]?).bind f)=xs.filterMap f:=by
 induction xs with
 |nil=>rfl
 |cons x r l=>
  rw[WG,List.range_succ_eq_map,Qh,List.filterMap_map,Qh];have e:(λi=>((x::r)[i]?).bind f)∘Nat.succ=λi=>(r[i]?).bind f:=rfl;rw[e,l];rfl
end
open M
section
variable {K:Yd}{mg:Yh}{E:L2.St->XK}{H0 H H1 H':Hp}{B Z Z':Addr->Prop}{σ:L2.St}{γ:Γ}
noncomputable def pCB(f:List S->(S->Prop)->Prop)(r:PTA):PTE:=λγ R X=>r γ (λg=>f g R) X
def XI{f o r}(A:Um K mg E o r)(h:∀H0 H H1 Z l vs R Q,Same H0 H1->Same H H1->(∀b,Z b->Mut (H b))->TVs K Z H0 H H1 l vs->f l R->(∀s z H',R s->Same H1 H'->TV K Z H0 H H' s z->Q z H')->w vs H1 Q) :
  JZ K mg E (tCB w o) (pCB f r):=by
 intro H0 B H σ γ R X Q g p q x;refine A H0 B H σ γ _ X _ g p (λl vs H1 C n v=>?_) x;exact h H0 H H1 _ l vs R Q (g.grow n).same n g.zm v C λs z H' y G u=>q s z H' y (n.trans G) u
noncomputable def S.free:S->List D->Bool
 | .bor _,f=>UC f | .tmp _,f=>UC f | .view (.nst _),f=>UC f | .view (.nsl _ _),f=>UC f|_,_=>true
def TVs.one_inv (h:TVs K Z H0 H H' [s] vs):∃v,vs=[v]/\TV K Z H0 H H' s v:=by
 cases h with
 |cons h r=>cases r;exact⟨_,rfl,h⟩
def TVs.two_inv (h:TVs K Z H0 H H' [s,t] vs):∃v u,vs=[v,u]/\TV K Z H0 H H' s v/\TV K Z H0 H H' t u:=by
 cases h with
 |cons h r=>cases r with|cons f r=>cases r;exact⟨_,_,rfl,h,f⟩
def TV.items (n:Same H0 H') (q:∀b,Z b->Mut (H b)) (A:Same H H') (h:TV K Z H0 H H' s v) (p:s.free ds=true) :
  (s.d=.lst ds->∃a vs,v=.ref a/\H' a=some (.lst vs)/\Rps K (off Z H') ds vs)/\(s.d=.tup ds->∃a vs,v=.ref a/\H' a=some (.tup vs)/\Rps K (off Z H') ds vs):=by
 have g:=λb z=>XM A (q b z);cases s with
 |bor d=>
  have h:=Rp.strip h;refine⟨λe=>?_,λe=>?_⟩<;>rw[show d.strip=_ from e]at h
  ·obtain⟨a,vs,rfl,f,r⟩:=Rp.lst_inv h;exact⟨a,vs,rfl,n _ _ f,Rps.off g (Rps.mono n r) p⟩
  ·obtain⟨a,vs,rfl,f,r⟩:=Rp.tup_inv h;exact⟨a,vs,rfl,n _ _ f,Rps.off g (Rps.mono n r) p⟩
 |sh d=>
  refine⟨λe=>?_,λe=>?_⟩<;>(have u:=e;subst u)
  ·obtain⟨a,vs,rfl,f,r⟩:=Rp.lst_inv h;exact⟨a,vs,rfl,off_sub _ _ f,r⟩
  ·obtain⟨a,vs,rfl,f,r⟩:=Rp.tup_inv h;exact⟨a,vs,rfl,off_sub _ _ f,r⟩
 |own o=>
  cases o with
  |nsl x w=>
   refine⟨λe=>?_,λe=>by cases e⟩;have l:=h.shd n q A rfl;cases e
   obtain⟨a,vs,rfl,f,r⟩:=Rp.lst_inv l;exact⟨a,vs,rfl,off_sub _ _ f,r⟩
  |nst w=>
   refine⟨(λe=>by cases e),λe=>?_⟩;have l:=h.shd n q A rfl;cases e
   obtain⟨a,vs,rfl,f,r⟩:=Rp.tup_inv l;exact⟨a,vs,rfl,off_sub _ _ f,r⟩
  |lst o=>
   refine⟨λe=>?_,λe=>by cases e⟩;cases e
   obtain⟨a,rfl,C,vs,e,r⟩:=h;exact⟨a,vs,rfl,e,Rps.mono (Ul (Same.refl _) λb _ _ z y=>z (.inl y)) r⟩
  |lsA x o=>
   refine⟨λe=>?_,λe=>by cases e⟩;cases e
   obtain⟨a,rfl,C,_,vs,e,r⟩:=h;exact⟨a,vs,rfl,e,Rps.mono (Ul (Same.refl _) λb _ _ z y=>z (.inl y)) r⟩
  |_=>exact⟨(λe=>by cases e),(λe=>by cases e)⟩
 |view o=>
  cases o with
  |nsl x w=>
   refine⟨λe=>?_,λe=>by cases e⟩;have l:=h.rp n;rw[e]at l;obtain⟨a,vs,rfl,f,r⟩:=Rp.lst_inv l;exact⟨a,vs,rfl,f,Rps.off g r p⟩
  |nst w=>
   refine⟨(λe=>by cases e),λe=>?_⟩;have l:=h.rp n;rw[e]at l;obtain⟨a,vs,rfl,f,r⟩:=Rp.tup_inv l;exact⟨a,vs,rfl,f,Rps.off g r p⟩
  |lst o=>
   refine⟨λe=>?_,λe=>by cases e⟩;cases e
   obtain⟨a,rfl,vs,e,r⟩:=h;exact⟨a,vs,rfl,e,r⟩
  |lsA x o=>
   refine⟨λe=>?_,λe=>by cases e⟩;cases e
   obtain⟨a,rfl,_,vs,e,r⟩:=h;exact⟨a,vs,rfl,e,r⟩
  |_=>exact⟨(λe=>by cases e),(λe=>by cases e)⟩
 |tmp d=>
  refine⟨λe=>?_,λe=>?_⟩<;>(have u:=e;subst u)
  ·obtain⟨a,vs,rfl,f,r⟩:=Rp.lst_inv h;exact⟨a,vs,rfl,f,Rps.off g r p⟩
  ·obtain⟨a,vs,rfl,f,r⟩:=Rp.tup_inv h;exact⟨a,vs,rfl,f,Rps.off g r p⟩
def Sl:List S->(S->Prop)->Prop
 |[s],R=>(match s.d with
  | .lst g=>R (.sh<|.int g.length) | .tup g=>R (.sh<|.int g.length) | .scr f=>R (.sh<|.int f.length) | .fL f=>R (.sh<|.int f.length) | .str x=>x.length<=sizeLine/\R (.sh<|.int x.length)|_=>False)
 |_,_=>False
def Hw(C:Um K mg E w r):JZ K mg E (tCB (λxs H Q=>∃x n,xs=[x]/\Nc K x H n/\Q (.int n) H) w) (pCB Sl r):=by
 refine XI C λH0 H H1 Z L J R Q z M N u h q=>?_;unfold Sl at h;split at h
 ·rename_i s;obtain⟨v,rfl,y⟩:=u.one_inv;have f:=y.rp z;split at h
  ·rename_i G e;rw[e]at f;obtain⟨a,g,rfl,p,l⟩:=f.lst_inv;exact⟨_,_,rfl,.inl ⟨g,SqL.of p,rfl⟩,by rw[l.len];exact q _ _ H1 h (Same.refl _) (.int _)⟩
  ·rename_i G e;rw[e]at f;obtain⟨a,g,rfl,p,l⟩:=f.tup_inv;exact⟨_,_,rfl,.inr ⟨g,SqT.of p,rfl⟩,by rw[l.len];exact q _ _ H1 h (Same.refl _) (.int _)⟩
  ·rename_i A e;rw[e]at f;cases f with
   |scr o=>exact⟨_,_,rfl,.inl ⟨_,o,rfl⟩,by rw[Wd];exact q _ _ H1 h (Same.refl _) (.int _)⟩
  ·rename_i A e;rw[e]at f;cases f with
   |fL o=>exact⟨_,_,rfl,.inl ⟨_,.inl (.inr ⟨_,o⟩),rfl⟩,by rw[Wd];exact q _ _ H1 h (Same.refl _) (.int _)⟩
  ·rename_i x e;rw[e]at f;rw[f.str_inv];exact⟨_,_,rfl,⟨h.1,rfl⟩,q _ _ H1 h.2 (Same.refl _) (.int _)⟩
  ·exact h.elim
 ·exact h.elim
def A2:List S->(S->Prop)->Prop
 |[s],R=>(match s.d with
  | .lst f=>s.free f=true/\R (.own f) | .tup f=>s.free f=true/\R (.own f)|_=>False)
 |_,_=>False
def Ks(G:Um K mg E C r):JZ K mg E (tCB (λxs H Q=>∃p n,xs=[.ref p]/\(SqL K H p n\/SqT K H p n)/\∀l,H l=none->Q (.ref l) (upd H l<|.lst n)) C) (pCB A2 r):=by
 refine XI G λH0 H H1 Z M L R Q y g z A h q=>?_;unfold A2 at h;split at h
 ·rename_i s;obtain⟨v,rfl,x⟩:=A.one_inv;split at h
  ·rename_i J e;obtain⟨a,o,rfl,w,u⟩:=(x.items y z g h.1).1 e;exact⟨a,o,rfl,.inl (SqL.of w),λl f=>q _ _ _ h.2 (UI f) (Kr g f u)⟩
  ·rename_i J e;obtain⟨a,o,rfl,w,u⟩:=(x.items y z g h.1).2 e;exact⟨a,o,rfl,.inr (SqT.of w),λl f=>q _ _ _ h.2 (UI f) (Kr g f u)⟩
  ·grind
 ·grind
theorem Rps.ints:∀{f:Yf}{vs:List V},Rps K H (f.map D.int) vs->vs=f.map V.int
 |[],_,.nil=>rfl
 |j::r,_,.cons h t=>by rw[Rp.int_inv h,Rps.ints t];rfl
theorem Rps.of_ints:∀(f:Yf),Rps K H (f.map D.int) (f.map V.int)
 |[]=>.nil
 |j::r=>.cons (.int j) (Rps.of_ints r)
def Dd:List S->(S->Prop)->Prop
 |[s],R=>∃g:Yf,s.d=.lst (g.map D.int)/\g.length<64/\∀f:Yf,f.Perm g->f.Pairwise (·<=·)->R (.own<|f.map D.int)
 |_,_=>False
def Ej{g r}(L:Um K mg E g r):JZ K mg E (tCB (λxs H Q=>∃p f,xs=[.ref p]/\f.length<64/\(SqL K H p (f.map V.int)\/H p=some (K0 w p f))/\
  ∀l (ns:Yf),H l=none->ns.Perm f->ns.Pairwise (·<=·)->Q (.ref l) (upd H l<|.lst<|ns.map V.int)) g) (pCB Dd r):=by
 refine XI L λH0 H H1 Z U N R Q A z Y x h q=>?_;unfold Dd at h;split at h
 ·rename_i s;obtain⟨v,rfl,y⟩:=x.one_inv;obtain⟨f,e,G,k⟩:=h;have n:=y.rp A;rw[e]at n;obtain⟨a,T,rfl,u,C⟩:=n.lst_inv;rw[C.ints]at u;exact⟨a,f,rfl,G,.inl (SqL.of u),λl ns o M J=>q _ _ _ (k ns M J) (UI o) (Kr z o<|Rps.of_ints ns)⟩
 ·grind
def Zcs:List S->(S->Prop)->Prop
 |[s,t],R=>(match s.d,t.d with | .int i,.int j=>R (.sh<|.int (if j>i then j else i))|_,_=>False)
 |_,_=>False
def Zct:List S->(S->Prop)->Prop
 |[s],R=>(match s.d with | .int i=>R (.sh<|.int (if i<0 then -i else i))|_=>False)
 |_,_=>False
noncomputable def tyD:D->Option String
 | .int _=>some "int" | .bl _=>some "bool" | .non=>some "NoneType" | .str _=>some "str" | .tup _=>some "tuple" | .lst _=>some "list" | .fL _=>some "list" | .dK _=>some "dict" | .dT _=>some "dict" |_=>none
inductive UL:String->String->Bool->Prop
 |same (n:String):UL n n true
 |ib:UL "int" "bool" false
 |bi:UL "bool" "int" true
 |tl:UL "tuple" "list" false
 |lt:UL "list" "tuple" false
 |it:UL "int" "tuple" false
 |il:UL "int" "list" false
 |bt:UL "bool" "tuple" false
 |bL:UL "bool" "list" false
 |ti:UL "tuple" "int" false
 |li:UL "list" "int" false
 |si:UL "str" "int" false
 |is:UL "int" "str" false
 |ni:UL "NoneType" "int" false
 |nl:UL "NoneType" "list" false
 |nt:UL "NoneType" "tuple" false
def UL.kit (h:UL m n b):PySem.W.kitOne K (.type m) (.type n)=some b:=by
 cases h with
 |same=>exact Zch K _
 |_=>rfl
def CV:List S->(S->Prop)->Prop
 |[s,t],R=>(match tyD s.d,t.d with|some m,.ty n=>∃b,UL m n b/\R (.sh<|.bl b)|_,_=>False)
 |_,_=>False
def RW(h:Rp K H d v)(e:tyD d=some m):UZ K H v (.type m):=by
 cases h with
 |int i=>cases e;exact .int i
 |bl b=>cases e;exact .bl b
 |non=>cases e;exact .non
 |str x=>cases e;exact .str x
 |tup h r=>cases e;exact .tup h
 |lst h r=>cases e;exact .lst h
 |dK h=>cases e;exact .dK h
 |dT h=>cases e;exact .dT h
 |fL h=>cases e;exact .frz h
 |_=>cases e
def Pm(w:Um K mg E o r):JZ K mg E (tCB (λxs H Q=>∃x n t b,xs=[x,.ty n]/\UZ K H x t/\PySem.W.kitOne K t (.type n)=some b/\Q (.bl b) H) o) (pCB CV r):=by
 refine XI w λH0 H H1 Z G C R Q f J L l h q=>?_;unfold CV at h;split at h
 ·obtain⟨v,u,rfl,s,p⟩:=l.two_inv;have g:=p.rp f;split at h
  ·rename_i m n A z;rw[z]at g;rw[g.ty_inv];obtain⟨b,k,y⟩:=h;exact⟨v,n,_,b,rfl,RW (s.rp f) A,k.kit,q _ _ H1 y (Same.refl _) (.bl _)⟩
  ·grind
 ·grind
noncomputable def pBM(f:S->List S->(S->Prop)->Prop)(a:PTE)(r:PTA):PTE:=λγ R X=>a γ (λs=>(∃h,s.d=.lst h)/\r γ (λg=>f s g R) X) X
def Zbb{f te y a r}(ha:JZ K mg E te a)(U:Um K mg E y r)(h:∀H0 H H1 Z s v u vs R Q,Same H0 H1->Same H H1->(∀b,Z b->Mut (H b))->TV K Z H0 H H1 s v->TVs K Z H0 H H1 u vs->f s u R->(∀s z H',R s->Same H1 H'->TV K Z H0 H H' s z->Q z H')->N v vs H1 Q) :
  JZ K mg E (tBM K "list" N te y) (pBM f a r):=by
 intro H0 B H σ γ R X Q n p q G;refine ha H0 B H σ γ _ X _ n p (λs v H1 x o A=>?_) G;have g:=n.grow o;obtain⟨⟨ds,ed⟩,x⟩:=x;have C:=A.rp g.same;rw[ed]at C;obtain⟨l,J,rfl,Y,_⟩:=C.lst_inv;refine⟨.inl ⟨rfl,J,SqL.of Y⟩,U H0 B H1 σ γ _ X _ g x (λu vs H2 h2 w M=>?_) λc H' hc S'=>G c H' hc (o.trans S')⟩;exact h H0 H H2 _ s _ u vs R Q (g.grow w).same (o.trans w) n.zm (A.grow w) (TVs.weakG o M) h2 λs z H' T S3 L=>q s z H' T ((o.trans w).trans S3) L
def DQ:S->List S->(S->Prop)->Prop:=λs f R=>match f with
 |[t]=>(match t.d with | .int z=>∃xs:Yf,s.d=.lst (xs.map D.int)/\z∈xs/\R (.sh<|.int (xs.idxOf z:Nat))|_=>False)
 |_=>False
def LB{a r}(G:JZ K mg E te a)(C:Um K mg E w r):JZ K mg E (tBM K "list" (Bb K) te w) (pBM DQ a r):=by
 refine Zbb G C λH0 H H1 Z s v T M R Q n U Y y x h q=>?_;unfold DQ at h;split at h
 ·obtain⟨u,rfl,g⟩:=x.one_inv;have o:=g.rp n;split at h
  ·rename_i z e;rw[e]at o;obtain⟨xs,L,A,J⟩:=h;have f:=y.rp n;rw[L]at f;obtain⟨l,N,rfl,p,f⟩:=f.lst_inv;rw[f.ints]at p;exact⟨l,xs,z,rfl,by rw[o.int_inv],SqL.of p,A,q _ _ H1 J (Same.refl _) (.int _)⟩
  ·grind
 ·exact h.elim
noncomputable def prD(p:Int×Int):D:=.tup [.int p.1,.int p.2]
inductive InR:D->D->Bool->Prop
 |li (i:Int) (hs:Yf):InR (.int i) (.lst<|hs.map D.int) (decide (i∈hs))
 |ti (i:Int) (hs:Yf):InR (.int i) (.tup<|hs.map D.int) (decide (i∈hs))
 |lp (q:Int×Int) (ps:Ye):InR (prD q) (.lst<|ps.map prD) (decide (q∈ps))
def fIn(neg:Bool):S->S->(S->Prop)->Prop:=λx y R=>∃b,InR x.d y.d b/\R (.sh<|.bl (if neg then !b else b))
def Rp.pair (h:Rp K H (prD q) v):Xj H v q:=by
 obtain⟨a,n,rfl,f,r⟩:=Rp.tup_inv h;obtain⟨x,y,rfl,l,g⟩:=r.two_inv;rw[l.int_inv,g.int_inv]at f;exact⟨a,rfl,f⟩
def Rps.lv {vs} (h:Rps K H (ps.map prD) vs):LV Xj H vs ps:=by
 refine⟨by rw[h.len,Wd],λi p f=>?_⟩;obtain⟨v,l,g⟩:=h.get (by rw[Ws,f];rfl);exact⟨v,l,g.pair⟩
def L9{C A a b}(U:JZ K mg E C a)(T:JZ K mg E A b):JZ K mg E (tOp (λx y H Q=>rIn K neg x y H Q\/Sz neg x y H Q) C A) (p2 a b<|fIn neg):=by
 refine Xq U T λH0 H z Z x y v u R Q G Y hm L J h q=>?_;obtain⟨k,s,w⟩:=h;have n:=L.rp G;have g:=J.rp G;generalize ex:x.d=dx at s n;generalize ey:y.d=dy at s g;cases s with
 |li i N=>
  obtain⟨l,o,rfl,f,r⟩:=g.lst_inv;rw[r.ints]at f;rw[n.int_inv];refine .inl ⟨l,_,rfl,.inl (SqL.of f),rfl,Kj _,?_⟩;rw[AM];exact q _ _ z w (Same.refl _) (.bl _)
 |ti i N=>
  obtain⟨l,o,rfl,f,r⟩:=g.tup_inv;rw[r.ints]at f;rw[n.int_inv];refine .inl ⟨l,_,rfl,.inr (SqT.of f),rfl,Kj _,?_⟩;rw[AM];exact q _ _ z w (Same.refl _) (.bl _)
 |lp p M=>
  obtain⟨l,o,rfl,f,r⟩:=g.lst_inv;exact .inr ⟨l,M,p,rfl,n.pair,⟨o,f,r.lv⟩,q _ _ z w (Same.refl _) (.bl _)⟩
def KF(neg:Bool):S->S->(S->Prop)->Prop:=λx y R=>match x.d,y.d with
 | .lst h,.lst g=>∃xs f:Yf,h=xs.map D.int/\g=f.map D.int/\R (.sh<|.bl (if neg then !decide (xs=f)else decide (xs=f)))
 |_,_=>fEq neg x y R
def XJ{a b}(T:JZ K mg E L a)(N:JZ K mg E J b):JZ K mg E (tOp (λx y H Q=>rEq x y H Q\/X8 K false x y H Q) L J) (p2 a b<|KF false):=by
 refine Xq T N λH0 H p Z x y v u R Q w s1 s G C h q=>?_;have g:=G.rp w;have f:=C.rp w;unfold KF at h;split at h
 ·rename_i ds es o n;obtain⟨xs,Y,rfl,rfl,U⟩:=h;rw[o]at g;rw[n]at f;obtain⟨l,us,rfl,A,r⟩:=g.lst_inv;obtain⟨m,ws,rfl,s,M⟩:=f.lst_inv;rw[r.ints]at A;rw[M.ints]at s;refine .inr ⟨l,m,_,_,rfl,rfl,SqL.of A,SqL.of s,Kj _,Kj _,?_⟩;rw[SB];exact q _ _ p U (Same.refl _) (.bl _)
 ·refine .inl ?_;unfold fEq at h;split at h
  ·rename_i i j o n;rw[o]at g;rw[n]at f;rw[g.int_inv,f.int_inv];refine⟨rfl,?_⟩;rw[KN λ_ _ z=>V.int.inj z];exact q _ _ p h (Same.refl _) (.bl _)
  ·rename_i i j o n;rw[o]at g;rw[n]at f;rw[g.str_inv,f.str_inv];refine⟨rfl,?_⟩;rw[KN λ_ _ z=>V.str.inj z];exact q _ _ p h (Same.refl _) (.bl _)
  ·rename_i i j o n;rw[o]at g;rw[n]at f;rw[g.bl_inv,f.bl_inv];refine⟨rfl,?_⟩;rw[KN λ_ _ z=>V.bl.inj z];exact q _ _ p h (Same.refl _) (.bl _)
  ·exact h.elim
def Ob{a b}(T:JZ K mg E L a)(N:JZ K mg E J b):JZ K mg E (tOp (λx y H Q=>rNe x y H Q\/X8 K true x y H Q) L J) (p2 a b<|KF true):=by
 refine Xq T N λH0 H p Z x y v u R Q w s1 s G C h q=>?_;have g:=G.rp w;have f:=C.rp w;unfold KF at h;split at h
 ·rename_i ds es o n;obtain⟨xs,Y,rfl,rfl,U⟩:=h;rw[o]at g;rw[n]at f;obtain⟨l,us,rfl,A,r⟩:=g.lst_inv;obtain⟨m,ws,rfl,s,M⟩:=f.lst_inv;rw[r.ints]at A;rw[M.ints]at s;refine .inr ⟨l,m,_,_,rfl,rfl,SqL.of A,SqL.of s,Kj _,Kj _,?_⟩;rw[SB];exact q _ _ p U (Same.refl _) (.bl _)
 ·refine .inl ?_;unfold fEq at h;split at h
  ·rename_i i j o n;rw[o]at g;rw[n]at f;rw[g.int_inv,f.int_inv];refine⟨rfl,?_⟩;rw[KN λ_ _ z=>V.int.inj z];exact q _ _ p h (Same.refl _) (.bl _)
  ·rename_i i j o n;rw[o]at g;rw[n]at f;rw[g.str_inv,f.str_inv];refine⟨rfl,?_⟩;rw[KN λ_ _ z=>V.str.inj z];exact q _ _ p h (Same.refl _) (.bl _)
  ·rename_i i j o n;rw[o]at g;rw[n]at f;rw[g.bl_inv,f.bl_inv];refine⟨rfl,?_⟩;rw[KN λ_ _ z=>V.bl.inj z];exact q _ _ p h (Same.refl _) (.bl _)
  ·exact h.elim
noncomputable abbrev Gv(K:Yd)(f:TE):TT:=λσ H Q=>f σ H λx H'=>∃k,B6 K x H' k/\Q k H'
noncomputable def FZ(a:PTE):PTT:=λγ R X=>a γ (λx=>match x.d with
 | .bl b=>R b | .lst f=>R (!f.isEmpty) | .tup f=>R (!f.isEmpty) | .int i=>R (i != 0) | .non=>R false|_=>False) X
def BM{g f:Type}{l:List g}{m:List f}(h:l.length=m.length):l.isEmpty=m.isEmpty:=by
 cases l<;>cases m<;>simp at h ⊢
def Zbo(y:JZ K mg E te a):UG K mg E (Gv K te) (FZ a):=by
 intro H0 B H σ γ R X Q o p q w;refine y H0 B H σ γ _ X _ o p (λx v H1 g h u=>?_) w;have f:=u.rp (o.grow h).same;split at g
 ·rename_i b e;rw[e]at f;rw[f.bl_inv];exact⟨b,rfl,q _ H1 g h⟩
 ·rename_i z e;rw[e]at f;obtain⟨l,n,rfl,s,r⟩:=f.lst_inv;exact⟨!n.isEmpty,.inl ⟨n,SqL.of s,rfl⟩,by rw[BM r.len];exact q _ H1 g h⟩
 ·rename_i z e;rw[e]at f;obtain⟨l,n,rfl,s,r⟩:=f.tup_inv;exact⟨!n.isEmpty,.inr (.inl ⟨n,SqT.of s,rfl⟩),by rw[BM r.len];exact q _ H1 g h⟩
 ·rename_i i e;rw[e]at f;rw[f.int_inv];exact⟨_,rfl,q _ H1 g h⟩
 ·rename_i e;rw[e]at f;rw[f.non_inv];exact⟨_,rfl,q _ H1 g h⟩
 ·exact g.elim
noncomputable def cutD{f:Type}(xs:List f)(lo g:Option Int):List f:=(xs.drop<|HT.sIx xs.length 0 lo).take (HT.sIx xs.length xs.length g-HT.sIx xs.length 0 lo)
noncomputable def Gi:PTO:=λ_ R _=>R none
noncomputable def CQ(a:PTE):PTO:=λγ R X=>a γ (λs=>match s.d with | .int i=>R (some i)|_=>False) X
def GB:PK K mg E F4 Gi:=λ_ _ H _ _ _ _ _ _ p q _=>q _ H p (Same.refl _)
def Za4(r:JZ K mg E te a):PK K mg E (Ex te) (CQ a):=by
 intro H0 B H σ γ R X Q f p q o;refine r H0 B H σ γ _ X _ f p (λx v H1 h l n=>?_) o;have g:=n.rp (f.grow l).same;split at h
 ·rename_i i e;rw[e]at g;exact⟨i,g.int_inv,q _ H1 h l⟩
 ·grind
noncomputable def pSl(a:PTE)(l u:PTO):PTE:=λγ R X=>a γ (λs=>l γ (λlo=>u γ (λg=>match s.d with | .lst f=>s.free f=true/\R (.own<|cutD f lo g)|_=>False) X) X) X
def Rps.cut {lo f} (r:Rps K H ds vs):Rps K H (cutD ds lo f) (PY vs lo f):=by
 unfold cutD PY;rw[r.len];exact Rps.take _ (Rps.drop _ r)
def Hn{a l u}(U:JZ K mg E te a)(N:PK K mg E G l)(M:PK K mg E J u):JZ K mg E (tSl (Bw K) te G J) (pSl a l u):=by
 intro H0 B H σ γ R X Q f p q o;refine U H0 B H σ γ _ X _ f p (λx v H1 h1 h L=>?_) o;refine N H0 B H1 σ γ _ X _ (f.grow h) h1 (λlo H2 Y n=>?_) λc H' s y=>o c H' s (h.trans y);refine M H0 B H2 σ γ _ X _ ((f.grow h).grow n) Y (λhi H3 w A=>?_) λc H' s y=>o c H' s ((h.trans n).trans y);have g:=(h.trans n).trans A;split at w
 ·rename_i ds e;obtain⟨b,C,rfl,T,r⟩:=((L.grow<|n.trans A).items (f.grow g).same f.zm g w.1).1 e;exact⟨b,C,rfl,SqL.of T,λm z=>q _ _ _ w.2 (g.trans<|UI z) (Kr g z r.cut)⟩
 ·grind
def E1:S->S->(S->Prop)->Prop:=λx y R=>match x.d,y.d with
 | .lst g,.lst f=>x.free g=true/\y.free f=true/\g.length+f.length<=100000/\R (.own (g++f))
 |_,_=>False
def XD{a b}(U:JZ K mg E L a)(T:JZ K mg E J b):JZ K mg E (tOp Ew L J) (p2 a b E1):=by
 refine Xq U T λH0 H H2 Z x y v u R Q s f A G C h q=>?_;unfold E1 at h;split at h
 ·rename_i ds es e1 Y;obtain⟨l,o,rfl,N,r⟩:=(G.items s A f h.1).1 e1;obtain⟨m,n,rfl,g,w⟩:=(C.items s A f h.2.1).1 Y;have M:o.length+n.length<=sizeLine:=by rw[r.len,w.len];exact Wu h.2.2.1 (by decide)
  exact⟨l,m,o,n,rfl,rfl,N,g,M,λp z=>q _ _ _ h.2.2.2 (UI z) (Kr f z<|r.append w)⟩
 ·grind
noncomputable def Ss(i:Nat)(a:PTE):PTS:=λR γ=>match γ[i]? with
 |some (some<|.own<|.lst f)=>a γ (λs=>match s.shd with
  |some d=>f.length<10000000/\R.nx (γ.set i<|some<|.own (f++[d]))
  |none=>False) (R.ex γ)
 |some (some<|.own<|.lsA x f)=>a γ (λs=>match s.shd with
  |some d=>f.length<10000000/\R.nx (γ.set i<|some<|.own<|.lsA x (f++[d]))
  |none=>False) (R.ex γ)
 |_=>False
def Lk(i:Nat){te a}(Q:JZ K mg E te a):Uj K mg E (NC<|tBM K "list" Dc (Kl i)<|UE te UY) (Ss i a):=by
 intro H0 B H σ γ R D T f h e;unfold Ss at h;split at h
 ·rename_i M r;obtain⟨v,q,b,rfl,G,us,w,p⟩:=f.slot i _ r;refine⟨_,q,.inl ⟨rfl,us,SqL.of w⟩,Q H0 B H σ γ _ _ _ f h (λs u H1 n l A=>?_) λc H' C y=>e.ex σ γ c H' C (f.grow y) (Fr.grow y)⟩;have g:=f.grow l;split at n
  ·rename_i d o;refine⟨b,us,u,rfl,rfl,l _ _ w,by rw[p.len];exact QK n.1 (by decide),?_⟩;obtain⟨o,L⟩:=g.mutate (es:=.lst (M++[d])) (us:=.lst (us++[u])) r q trivial λF H' N J=>⟨_,J,Rps.mono N (Rps.append (Rps.mono (Ul l λ_ _ _ z=>z) p)<|.cons (A.shd g.same f.zm l o) .nil)⟩;exact e.nx _ _ _ n.2 o ((Fr.grow l).trans L)
  ·exact n.elim
 ·rename_i x M r;obtain⟨v,q,b,rfl,G,rfl,us,w,p⟩:=f.slot i _ r;refine⟨_,q,.inl ⟨rfl,us,SqL.of w⟩,Q H0 B H σ γ _ _ _ f h (λs u H1 n l A=>?_) λc H' C y=>e.ex σ γ c H' C (f.grow y) (Fr.grow y)⟩;have g:=f.grow l;split at n
  ·rename_i d o;refine⟨b,us,u,rfl,rfl,l _ _ w,by rw[p.len];exact QK n.1 (by decide),?_⟩;obtain⟨o,L⟩:=g.mutate (es:=.lsA b (M++[d])) (us:=.lst (us++[u])) r q trivial λF H' N J=>⟨rfl,_,J,Rps.mono N (Rps.append (Rps.mono (Ul l λ_ _ _ z=>z) p)<|.cons (A.shd g.same f.zm l o) .nil)⟩;exact e.nx _ _ _ n.2 o ((Fr.grow l).trans L)
  ·exact n.elim
 ·exact h.elim
end
section
variable {X:Cx}{K:Yd}
def HY(f:X.A.in1.units<cLine)(g:autoParam (X.K=K) au_0):OpR X (compareOp .In) (λx y H Q=>rIn K false x y H Q\/Sz false x y H Q):=(Zbc g).or (GH f)
def Bl(f:X.A.units<cLine)(g:autoParam (X.K=K) au_0):OpR X (compareOp .Eq) (λx y H Q=>rEq x y H Q\/X8 K false x y H Q):=by subst g;exact op_eq.or (O6 f)
def Za9(f:X.A.units<cLine)(g:autoParam (X.K=K) au_0):OpR X (compareOp .NotEq) (λx y H Q=>rNe x y H Q\/X8 K true x y H Q):=by subst g;exact op_ne.or (Ff f)
def M2(g:PE X e te)(h:autoParam (X.K=K) au_0)(f:autoParam (∀whole,isTrue e X.env whole=(do let v ←whole;standAt e.pos;holding [v] (truthy v))) au_3):PT X e (Gv K te):=by
 subst h;exact Zb9 g f
def K5(g:autoParam (X.K=K) au_0):UV X (.type "list") (λxs H Q=>∃p f,xs=[.ref p]/\(SqL K H p f\/SqT K H p f)/\∀l,H l=none->Q (.ref l) (upd H l<|.lst f)):=by subst g;exact Ey
def Pa(f:autoParam (X.K=K) au_0):UV X (.builtin "isinstance") (λxs H Q=>∃x n t b,xs=[x,.ty n]/\UZ K H x t/\PySem.W.kitOne K t (.type n)=some b/\Q (.bl b) H):=by subst f;exact R9
def Zaj(f:autoParam (X.K=K) au_0):SlR X (Bw K):=by subst f;exact HI
def Dm(g:X.calm=true){w}(h:autoParam (X.K=K) au_0)(hw:autoParam (X.w=w) au_0):UV X (.builtin "sorted") (λxs H Q=>∃p f,xs=[.ref p]/\f.length<64/\(SqL K H p (f.map V.int)\/H p=some (K0 w p f))/\
  ∀l (ns:Yf),H l=none->ns.Perm f->ns.Pairwise (·<=·)->Q (.ref l) (upd H l<|.lst<|ns.map V.int)):=by subst h;subst hw;exact AI g
def Tr{g l f}(h:PE X l f)(n:autoParam (X.K=K) au_0):PI X g l (NG K f):=by subst n;exact CN h
end
section
variable {P:Program}{w:World}{K:Yd}{mg:Yh}{base:Heap}{H H':Hp}
def FG(C:Callee P w K mg base CX k x ps sp)(h:∀ds R X vs H Q E,Rps K H ds vs->c ds R X->(∀s v H',R s->Same H H'->TV K (λb=>Mut (H b)) H H H' s v->Q v H')->(∀e H',X e->Same H H'->XE mg E e H')->sp vs H Q E) :
  Callee P w K mg base CX k x ps (Ui mg c K):=by
 obtain⟨f,o,F,rest⟩:=C.ex;exact⟨f,o,F.imp λvs H Q E ⟨ds,R,X,r,g,n,l⟩=>h ds R X vs H Q E r g n l,rest⟩
def Rp.ints_inv {ns:Yf}{v} (h:Rp K H (.lst<|ns.map D.int) v):∃a,v=.ref a/\H a=some (.lst<|ns.map V.int):=by
 obtain⟨a,g,rfl,f,r⟩:=h.lst_inv;rw[r.ints]at f
 grind
def Rp.pairs_inv {v} (h:Rp K H (.lst<|ps.map prD) v):∃a,v=.ref a/\LAt Xj H a ps:=by
 obtain⟨a,f,rfl,g,r⟩:=h.lst_inv;exact⟨a,rfl,f,g,r.lv⟩
def Dg{ns:Yf}(n:H a=none)(h:H' a=some (.lst<|ns.map V.int)):TV K (λb=>Mut (H b)) H H H' (.own<|ns.map D.int) (.ref a):=⟨a,rfl,(λ_ e=>e▸n),_,h,Rps.of_ints ns⟩
theorem Kq:∀(ns:Yf),UC (ns.map D.int)=true
 |[]=>rfl
 |n::r=>by rw[W3];unfold UC;rw[Kq r];unfold imm;rfl
def Zb5(p:Int×Int):imm (prD p)=true:=rfl
theorem SQ:∀(ps:Ye),UC (ps.map prD)=true
 |[]=>rfl
 |p::r=>by rw[W3];unfold UC;rw[SQ r,Zb5];rfl
def Zc2{g:Type}{f:g->D}{xs:List g}{i}(h:i<xs.length):(xs.map f).getD i .non=f xs[i]:=by grind
def Kg{g:Type}{f:g->D}{xs:List g}{i}(l:0<=i)(h:i<(xs.length:Int)):atI (xs.map f) i=some (f (xs[i.toNat]'(by lia))):=by
 have n:i.toNat<xs.length:=by lia
 exact XN (Tu l<|Wc n)
def Be{g:Type}{f:g->D}{xs:List g}{i}(h:i<xs.length):atI (xs.map f) (i:Int)=some (f xs[i]):=XN (P8<|Wc h)
def XF{l:Type}{φ}{γ}{g}{c}{e}{s:S}{R}{xs:List l}{emb}(f:l->Option D)(n:xs.length<=100000)(turn:∀x∈xs,g (s.sub<|emb x) (atP φ γ) λh=>c h (λb=>if b=true then e h (λs=>∃d,s.shd=some d/\f x=some d) (λ_=>False)else f x=none) λ_=>False)(done:R (.own<|xs.filterMap f)) :
  Tp φ γ g c e (xs.map emb).length (λi=>s.sub ((xs.map emb).getD i .non)) R:=by
 rw[Wd];refine⟨⟨n,λi=>(xs[i]?).bind f,λi o=>?_,by rw[Og];exact done⟩⟩;simp_all
def NW{g c e item R n}(f:Nat->Option D)(o:n<=100000)(turn:∀i,i<n->g (item i) (atP φ l) λh=>c h (λb=>if b=true then e h (λs=>∃d,s.shd=some d/\f i=some d) (λ_=>False)else f i=none) λ_=>False)(done:R (.own ((List.range n).filterMap f))) :
  Tp φ l g c e n item R:=⟨⟨o,f,turn,done⟩⟩
def Pe{o:Type}{js}{γ}{g}{body}{s:S}{R}{xs:List o}{emb}(inv:Nat->Γ->Prop)(q:inv 0 (clr js γ))(turn:∀i p f,inv i f->g (s.sub (emb xs[i])) f λn=>body {R with nx:=λl=>inv (i+1) (clr js l),ct:=λl=>inv (i+1) (clr js l),bk:=R.nx} n)(done:∀f,inv xs.length f->R.nx f) :
  Tv js γ g body R (xs.map emb).length (λi=>s.sub ((xs.map emb).getD i .non)):=by
 refine⟨⟨inv,q,λi f p h=>?_,λf h=>?_⟩⟩
 ·grind
 ·grind
def Ku{n item}(inv:Nat->Γ->Prop)(q:inv 0 (clr o p))(turn:∀i f,i<n->inv i f->g (item i) f λl=>body {R with nx:=λh=>inv (i+1) (clr o h),ct:=λh=>inv (i+1) (clr o h),bk:=R.nx} l)(done:∀f,inv n f->R.nx f):Tv o p g body R n item:=⟨⟨inv,q,turn,done⟩⟩
def Rc(inv:Γ->Prop)(h:Γ->Nat)(o:inv (clr l n))(turn:∀f,inv f->c f (λb=>if b=true then body {R with nx:=λg=>inv (clr l g)/\h (clr l g)<h f,ct:=λg=>inv (clr l g)/\h (clr l g)<h f,bk:=R.nx} f else R.nx f) (R.ex f)):FC l n c body R:=⟨⟨inv,h,o,turn⟩⟩
def PV(J:Γ->Prop)(l:p {R with nx:=J} g)(h:∀f,J f->q R f):Ft p q R g:=⟨⟨J,l,h⟩⟩
theorem KI{f:Type}(c:f->Bool)(emb:f->D):∀g:List f,g.filterMap (λq=>if c q=true then some (emb q)else none)=(g.filter c).map emb
 |[]=>rfl
 |q::r=>by
  by_cases h:c q=true
  ·rw[List.filterMap_cons_some (by rw[Wp h]),List.filter_cons_of_pos h,W3,KI c emb r]
  ·rw[List.filterMap_cons_none (by grind),List.filter_cons_of_neg h,KI c emb r]
def E4{f:Type}(emb:f->D)(g:List f):g.filterMap (λq=>some (emb q))=g.map emb:=by simp
def KE(f:h->D)(xs:List h)(lo g:Option Int):cutD (xs.map f) lo g=(cutD xs lo g).map f:=by
 unfold cutD;simp
def An(xs:List f){n}(h:0<=n):cutD xs none (some n)=xs.take n.toNat:=by
 unfold cutD;have e:n=(n.toNat:Int):=by lia
 rw[HT.F7,e,HT.DM,List.drop_zero,Nat.sub_zero,WD];by_cases c:n.toNat<=xs.length
 ·simp
 ·simp
def P4(xs:List f){n}(h:0<=n):cutD xs (some n) none=xs.drop n.toNat:=by
 unfold cutD;have e:n=(n.toNat:Int):=by lia
 rw[HT.F7,e,HT.DM,WD];by_cases c:n.toNat<=xs.length
 ·grind
 ·rw[Nat.min_eq_right (by lia),List.drop_of_length_le (Wk _),List.drop_of_length_le (by lia)];simp
noncomputable def BC(K:Yd):Sp:=λf H Q _=>∃(a:Addr) (g:Yf),f=[.ref a]/\SqL K H a (g.map V.int)/\∀H',Q (.bl true) H'
noncomputable def CZ:Pc:=λg R _=>∃f:Yf,g=[.scr f]/\R (.sh<|.bl true)
def M7(h:BC K vs H Q n):Ui mg CZ K vs H Q n:=by
 obtain⟨a,f,rfl,l,q⟩:=h;refine⟨[.scr f],λs=>s=.sh (.bl true),λ_=>False,.cons (.scr l) .nil,⟨f,rfl,rfl⟩,λs v H' e o g=>?_,λ_ _ z=>z.elim⟩;subst e;cases g
 grind
end
section
variable {K:Yd}{mg:Yh}{E:L2.St->XK}{H0 H H1 H':Hp}{B Z Z':Addr->Prop}{σ:L2.St}{γ:Γ}
noncomputable def NB:D->Option V
 | .int i=>some (.int i) | .bl b=>some (.bl b) | .non=>some .non | .str x=>some (.str x)|_=>none
noncomputable def vD:V->D
 | .int i=>.int i | .bl b=>.bl b | .str x=>.str x|_=>.non
noncomputable def Sa:V->Bool
 | .int _=>true | .bl _=>true | .str _=>true | .non=>true|_=>false
def Ae(h:Sa v=true):Rp K H (vD v) v:=by
 cases v with
 |int i=>exact .int i
 |bl b=>exact .bl b
 |str x=>exact .str x
 |non=>exact .non
 |_=>cases h
def Sd(h:Rp K H d v)(e:NB d=some u):v=u:=by
 cases h with
 |int i|bl b|non|str x=>cases e;rfl
 |_=>cases e
noncomputable def Tn:D->Option Key
 | .int i=>some (.inl i) | .str x=>some (.inr x)|_=>none
noncomputable def Nu:List D->Option (List Key)
 |[]=>some []
 |d::r=>match Tn d,Nu r with
  |some k,some f=>some (k::f)
  |_,_=>none
noncomputable def Nt:D->Option (List Key)
 | .tup f=>Nu f
 |_=>none
def Tx(h:Rp K H d v)(e:Tn d=some k):v=kV k:=by
 cases h with
 |int i|str x=>cases e;rfl
 |_=>cases e
def HH:∀{ds vs}{f:List Key},Rps K H ds vs->Nu ds=some f->vs=f.map kV:=by
 intro ds
 induction ds with
 |nil=>
  intro _ _ h e;cases h
  cases e
  rfl
 |cons _ _ g=>
  intro _ f h e;cases h with
  |cons h r=>
   unfold Nu at e;split at e
   ·rename_i k o n l;cases e
    rw[Tx h n,g r l];rfl
   ·grind
def BL(h:Rp K H d v)(e:Nt d=some f):∃b,v=.ref b/\H b=some (.tup<|f.map kV):=by
 cases h with
 |tup h r=>
  rw[HH r e]at h
  grind
 |_=>cases e
def Rp.dK_inv (h:Rp K H (.dK f) v):∃a,v=.ref a/\H a=some (.dK f):=by
 cases h with
 |dK h=>grind
def Rp.dT_inv (h:Rp K H (.dT f) v):∃a,v=.ref a/\H a=some (.dT f):=by
 cases h with
 |dT h=>grind
noncomputable def LG:PTE:=λ_ R _=>R (.own<|.dK [])
def MF:JZ K mg E Ca LG:=by
 intro H0 B H σ γ R X Q g p q _ l f;exact q _ _ _ p (UI f) ⟨l,rfl,(λ_ e=>e▸f),Ur⟩
def AU:S->S->(S->Prop)->Prop:=λx y R=>match x.d with
 | .dK f=>∃k v,Tn y.d=some k/\Up f k=some v/\Sa v=true/\R (.sh<|vD v)
 | .dT f=>∃k v,Nt y.d=some k/\Up f k=some v/\Sa v=true/\R (.sh<|vD v)
 |_=>False
def DB{a b}(N:JZ K mg E M a)(p:JZ K mg E g b):JZ K mg E (CM M g) (p2 a b AU):=by
 refine Xq N p λH0 H J Z x y v u R Q C T U L g h q=>?_;have f:=L.rp C;have G:=g.rp C;unfold AU at h;split at h
 ·rename_i n e;rw[e]at f;obtain⟨l,rfl,o⟩:=f.dK_inv;obtain⟨k,w,A,z,s,r⟩:=h;refine⟨l,w,rfl,?_,q _ _ J r (Same.refl _) (Ae s)⟩;rw[Tx G A,←z];exact DGet.k o
 ·rename_i n e;rw[e]at f;obtain⟨l,rfl,o⟩:=f.dT_inv;obtain⟨k,w,A,z,s,r⟩:=h;obtain⟨b,rfl,p⟩:=BL G A;refine⟨l,w,rfl,?_,q _ _ J r (Same.refl _) (Ae s)⟩;rw[←z];exact DGet.t o p
 ·grind
def Co(neg:Bool):S->S->(S->Prop)->Prop:=λy x R=>match x.d with
 | .dK f=>∃k,Tn y.d=some k/\R (.sh<|.bl (if neg then !(Up f k).isSome else(Up f k).isSome))
 | .dT f=>∃k,Nt y.d=some k/\R (.sh<|.bl (if neg then !(Up f k).isSome else(Up f k).isSome))
 |_=>False
def Gk{w f a b}(J:JZ K mg E f a)(p:JZ K mg E w b):JZ K mg E (Gb f w) (p2 a b<|Co false):=by
 refine Xq J p λH0 H C Z y x u v R Q z L M f G h q=>?_;have g:=G.rp z;have A:=f.rp z;unfold Co at h;split at h
 ·rename_i n e;rw[e]at g;obtain⟨l,rfl,o⟩:=g.dK_inv;obtain⟨k,s,r⟩:=h;refine⟨l,_,rfl,?_,q _ _ C r (Same.refl _) (.bl _)⟩;rw[Tx A s];exact DGet.k o
 ·rename_i n e;rw[e]at g;obtain⟨l,rfl,o⟩:=g.dT_inv;obtain⟨k,s,r⟩:=h;obtain⟨b,rfl,p⟩:=BL A s;exact⟨l,_,rfl,DGet.t o p,q _ _ C r (Same.refl _) (.bl _)⟩
 ·grind
noncomputable def Cf(i:Nat)(b a:PTE):PTS:=λR γ=>match γ[i]? with
 |some (some<|.own<|.dK f)=>a γ (λs=>b γ (λy=>∃k u,Tn y.d=some k/\NB s.d=some u/\f.length<100000/\R.nx (γ.set i<|some<|.own<|.dK<|putK f k u)) (R.ex γ)) (R.ex γ)
 |some (some<|.own<|.dT f)=>a γ (λs=>b γ (λy=>∃k u,Nt y.d=some k/\NB s.d=some u/\f.length<100000/\R.nx (γ.set i<|some<|.own<|.dT<|putK f k u)) (R.ex γ)) (R.ex γ)
 |_=>False
def Ih(i:Nat){ty tv a b}(hb:JZ K mg E ty b)(ha:JZ K mg E tv a):Uj K mg E (Cp (Kl i) ty tv) (Cf i b a):=by
 intro H0 B H σ γ R D hB n h e;have hx:=λc H' C r=>e.ex σ γ c H' C (n.grow r) (Fr.grow r);unfold Cf at h;split at h
 ·rename_i o A;obtain⟨v,x,l,rfl,U,T⟩:=n.slot i _ A;refine ha H0 B H σ γ _ _ _ n h (λs u H1 h1 p J=>⟨_,x,?_⟩) hx;have f:=n.grow p;refine hb H0 B H1 σ γ _ _ _ f h1 (λy w H2 h2 q G=>?_) λc H' C r=>hx c H' C (p.trans r);obtain⟨k,z,Q,N,M,L⟩:=h2;have g:=f.grow q;have eu:=Sd (J.rp f.same) N;have ew:=Tx (G.rp g.same) Q;subst eu ew;refine⟨l,_,rfl,DPut.k (q _ _<|p _ _ T) (QK M<|by decide),?_⟩;obtain⟨e2,f2⟩:=g.mutate (es:=.dK (putK o k u)) (us:=.dK (putK o k u)) A x trivial λF H' SF hF=>hF;exact e.nx _ _ _ L e2 ((Fr.grow<|p.trans q).trans f2)
 ·rename_i o A;obtain⟨v,x,l,rfl,U,T⟩:=n.slot i _ A;refine ha H0 B H σ γ _ _ _ n h (λs u H1 h1 p J=>⟨_,x,?_⟩) hx;have f:=n.grow p;refine hb H0 B H1 σ γ _ _ _ f h1 (λy w H2 h2 q G=>?_) λc H' C r=>hx c H' C (p.trans r);obtain⟨k,z,Q,N,M,L⟩:=h2;have g:=f.grow q;have eu:=Sd (J.rp f.same) N;obtain⟨b',rfl,Y⟩:=BL (G.rp g.same) Q;subst eu;refine⟨l,_,rfl,DPut.t (q _ _<|p _ _ T) Y (QK M<|by decide),?_⟩;obtain⟨e2,f2⟩:=g.mutate (es:=.dT (putK o k u)) (us:=.dT (putK o k u)) A x trivial λF H' SF hF=>hF;exact e.nx _ _ _ L e2 ((Fr.grow<|p.trans q).trans f2)
 ·exact h.elim
noncomputable def FM(a:PTE):PTS:=λR γ=>a γ (λs=>match s.shd with|some d=>R.rt (.sh d)|none=>False) (R.ex γ)
def Oc(r:JZ K mg E te a):Uj K mg E (NH te) (FM a):=by
 intro H0 B H σ γ R D u f h e;refine r H0 B H σ γ _ _ _ f h (λs v H1 l g o=>?_) λc H' q n=>e.ex σ γ c H' q (f.grow n) (Fr.grow n);split at l
 ·rename_i d p;exact e.rt (.sh d) v H1 l (f.same.trans g) (Rp.mono (Ul (Same.refl _) λb _ _ z y=>z (.inl y)) (o.shd (f.grow g).same f.zm g p))
 ·grind
noncomputable def pIE(r:PTA):PTI:=λγ R X=>r γ (λg=>match g with
 |[s]=>(match s.d with
  | .lst f=>s.fix=true/\UC f=true/\R f.length λi=>.sh (.tup [.int i,f.getD i .non])
  |_=>False)
 |_=>False) X
theorem CC:∀{ds}{i:Nat}{d:D},UC ds=true->ds[i]?=some d->imm d=true
 |[],i,d,_,e=>by simp at e
 |a::r,0,d,h,e=>by
  unfold UC at h
  grind
 |a::r,i+1,d,h,e=>by
  exact CC (W2 _ _▸h).2 (by trivial)
def Zb3{s:S}{d}(h:imm d=true):(s.sub d).shd=some d:=by
 cases s with
 |bor b=>show(arg d).shd=_;unfold arg;rw[h];rfl
 |tmp b=>show(UM d).shd=_;unfold UM;rw[h];rfl
 |sh b=>rfl
 |own b|view b=>
  cases b with
  |nst f|nsl a f=>show(UM d).shd=_;unfold UM;rw[h];rfl
  |_=>rfl
def Ax(hr:Um K mg E U r):SndI K mg E (EU K U) (pIE r):=by
 intro H0 B H σ γ R X Q g h q qx;refine hr H0 B H σ γ _ X _ g h (λss n H1 f C Y=>?_) qx;split at f
 ·rename_i s;obtain⟨v,rfl,o⟩:=Y.one_inv;split at f
  ·rename_i M ed;obtain⟨l,n,rfl,hn,A⟩:=o.last g C f.1 ed;obtain⟨w,_⟩:=A H1 _ (Later.of (g.grow C) Fr.refl);refine⟨l,rfl,⟨n,SqL.of w⟩,q _ _ _ H1 f.2.2 C ⟨λi H' Z' hi lt=>?_,λH' Z' lt=>?_⟩⟩
   ·obtain⟨G,k2⟩:=A H' Z' lt;have L:M[i]?=some (M.getD i .non):=by grind
    obtain⟨u,J,N⟩:=k2 i _ L;refine⟨⟨n,u,SqL.of G,J⟩,λx H'' y=>?_⟩;obtain⟨T,v,p,hv,rfl,rfl⟩:=y
    have:=hv n (SqL.of G)
    rw[J]at this;cases this
    refine⟨UI p,.tup (UB Ur λz=>?_) (.cons (.int _)<|.cons (Rp.mono (Ul (UI p) λ_ _ _ z=>z)<|N.shd lt.1 lt.2.1 (Same.refl _)<|Zb3<|CC f.2.1 L) .nil)⟩
    have:=lt.2.1 T z
    rw[p]at this;exact this
   ·exact⟨n,SqL.of (A H' Z' lt).1,by lia⟩
  ·exact f.elim
 ·exact f.elim
def A7{o:Type}{js}{γ}{g}{body}{R}{xs:List o}{emb}(inv:Nat->Γ->Prop)(q:inv 0 (clr js γ))(turn:∀i p f,inv i f->g (.sh<|.tup [.int i,emb xs[i]]) f λn=>body {R with nx:=λl=>inv (i+1) (clr js l),ct:=λl=>inv (i+1) (clr js l),bk:=R.nx} n)(done:∀f,inv xs.length f->R.nx f) :
  Tv js γ g body R (xs.map emb).length (λi=>.sh (.tup [.int i,(xs.map emb).getD i .non])):=by
 refine⟨⟨inv,q,λi f p h=>?_,λf h=>?_⟩⟩
 ·grind
 ·grind
def Fd(d:f)(ds:List f):atI (d::ds) 0=some d:=Tu (by simp) rfl
noncomputable def em(l:Int)(p:Yf):D:=.lst ((l::p).map D.int)
def Zc0:List S->(S->Prop)->Prop
 |[s],R=>∃f:Yf,s.d=.lst (f.map D.int)/\R (.sh<|.int f.sum)
 |_,_=>False
theorem Rps.bls:∀{f:List Bool}{vs:List V},Rps K H (f.map D.bl) vs->vs=f.map V.bl
 |[],_,.nil=>rfl
 |j::r,_,.cons h t=>by rw[Rp.bl_inv h,Rps.bls t];rfl
def Ep(neg:Bool):S->S->(S->Prop)->Prop:=λx y R=>match x.d,y.d with
 | .lst f,.lst []=>R (.sh<|.bl (if neg then !f.isEmpty else f.isEmpty))
 |_,_=>False
def FF{n g a b}(L:JZ K mg E n a)(J:JZ K mg E g b):JZ K mg E (tOp (E9 K neg) n g) (p2 a b<|Ep neg):=by
 refine Xq L J λH0 H T Z x y v u R Q o Y hm A z h q=>?_;have s:=A.rp o;have p:=z.rp o;unfold Ep at h;split at h
 ·rename_i ds N M;rw[N]at s;rw[M]at p;obtain⟨l,w,rfl,G,r⟩:=s.lst_inv;obtain⟨m,U,rfl,f,C⟩:=p.lst_inv;cases C
  refine⟨l,m,w,rfl,rfl,SqL.of G,SqL.of f,?_⟩;rw[BM r.len];exact q _ _ T h (Same.refl _) (.bl _)
 ·grind
def Du(xs:List g)(lo f:Option Int):(cutD xs lo f).Sublist xs:=(Vv _ _).trans (List.drop_sublist _ _)
def Ud.gone (N:Ud K H0 B H σ γ) (i:Nat):Ud K H0 B H (σ.set i none) (γ.set i none)/\Fr B H σ γ H (σ.set i none) (γ.set i none):=by
 obtain⟨l,f1⟩:=N.drop i
 have f:∀j s,(γ.set i none)[j]?=some (some s)->j≠i:=λj s h=>by
  rcases U4 h with⟨_,e,_⟩|⟨n,_⟩
  ·cases e
  ·exact n
 have C:∀b,zof B (γ.set i none) (σ.set i none) b↔zof B (γ.set i none) σ b:=λb=>by
  constructor
  ·rintro(z|⟨j,p,x,g,q,r⟩)
   ·exact .inl z
   ·rw[X2 (f j _ g)]at q;exact .inr ⟨j,p,x,g,q,r⟩
  ·rintro(z|⟨j,p,x,g,q,r⟩)
   ·exact .inl z
   ·exact .inr ⟨j,p,x,g,by rw[X2 (f j _ g)];exact q,r⟩
 have ez:=funext λb=>propext (C b);refine⟨⟨l.same,by rw[Qr];exact l.len,l.bm,λk j a M p L b w u A y J G=>?_,λj s h=>?_⟩,λb o h z=>?_⟩
 ·rw[X2 (f k _ w)]at A;rw[X2 (f j _ u)]at y;exact l.own k j a M p L b w u A y J G
 ·obtain⟨v,w,u⟩:=l.slot j s h
  grind
 ·rw[ez];exact f1 b o h z
noncomputable def M4(mg:Yh)(n:Ym)(i:Nat)(l h:PTS):PTS:=λR γ=>l {R with ex:=λf c=>c∈n/\h {nx:=λg=>R.nx (g.set i none),rt:=R.rt,ex:=λ_ _=>False,bk:=λg=>R.bk (g.set i none),ct:=λg=>R.ct (g.set i none),rv:=R.rv} (f.set i<|some<|.sh<|.err<|ExcR.Uc mg c)} γ
def OX{C0}{J:Ends->TS}{ts}{M L}{E'}(G:Ym)(A:∀c∈G,ExcR.Ux K (ExcR.Uc mg c)/\PySem.W.exmOne K (.ref<|ExcR.Uc mg c) (.ref C0)=some true)(hb:∀D,Uj K mg (ExcR.hx K C0 i ts D) (J D) M)(hh:Uj K mg E' ts L)(hd:autoParam (∀c∈G,Kc c=none) au_1):Uj K mg E (λD σ H=>J D D σ H) (M4 mg G i M L):=by
 intro H0 B H σ γ R D Q C h e;refine hb D H0 B H σ γ _ D Q C h ⟨e.nx,e.rt,λx y c H' hc T f'=>?_,e.bk,e.ct,e.rv⟩;obtain⟨s,hp⟩:=hc;obtain⟨k1,Y⟩:=A c s;refine .of (hd c s) ⟨_,rfl,Y,λa N=>?_⟩;have U:TV K (zof B y x) H0 H' (upd H' a<|ExcR.TN a<|ExcR.Uc mg c) (.sh<|.err<|ExcR.Uc mg c) (.ref a):=.err (UB Ur λz=>by have:=T.zm a z;rw[N]at this;exact this);obtain⟨e2,f2⟩:=T.set (UI (o:=ExcR.TN a (ExcR.Uc mg c)) N) U rfl;have l:=f'.trans f2;refine hh H0 B _ _ _ _ _ Q e2 hp ⟨λf g r n q p=>?_,e.rt,λ_ _ _ _ z=>z.elim,λf g r n q p=>?_,λf g r n q p=>?_,λf g d v r n q p=>e.rv f g d v r n q (l.trans p)⟩
 ·obtain⟨w,u⟩:=q.gone i;exact e.nx _ _ r n w (l.trans<|p.trans u)
 ·obtain⟨w,u⟩:=q.gone i;exact e.bk _ _ r n w (l.trans<|p.trans u)
 ·obtain⟨w,u⟩:=q.gone i;exact e.ct _ _ r n w (l.trans<|p.trans u)
def Hh:JZ K mg E (tC<|.ref a) (pC<|.ref a):=Td λ_=>.ref a
def Em(K:Yd):List S->(S->Prop)->Prop
 |[s,t],R=>(match s.d,t.d with
  | .err C,.ref f=>∃b,ExcR.Ux K C/\PySem.W.kitOne K (.ref C) (.ref f)=some b/\R (.sh<|.bl b)
  | .err C,.ty n=>∃b,ExcR.Ux K C/\PySem.W.kitOne K (.ref C) (.type n)=some b/\R (.sh<|.bl b)
  | .erM C _,.ref f=>∃b,ExcR.Xx K C/\PySem.W.kitOne K (.ref C) (.ref f)=some b/\R (.sh<|.bl b)
  | .erM C _,.ty n=>∃b,ExcR.Xx K C/\PySem.W.kitOne K (.ref C) (.type n)=some b/\R (.sh<|.bl b)
  |_,_=>False)
 |_,_=>False
def Rp.err_inv (h:Rp K H (.err C) v):∃a,v=.ref a/\H a=some (ExcR.TN a C):=by
 cases h with
 |err h=>grind
def Rp.ref_inv (h:Rp K H (.ref a) v):v=.ref a:=by cases h;rfl
def Rp.erM_inv (h:Rp K H (.erM C r) v):∃a f l o,v=.ref a/\H a=some (ExcR.UH a C<|some f)/\H f=some (.xd [("members",.ref l)])/\H l=some (.frz o<|.lst<|r.map V.int):=by
 cases h with
 |erM p n g=>grind
def Cg(U:Um K mg E M r):JZ K mg E (tCB (λxs H Q=>∃a C z c b,xs=[.ref a,c]/\H a=some (ExcR.UH a C z)/\ExcR.Xx K C/\(∃J,(∀u,RelV c u->u=J)/\PySem.W.kitOne K (.ref C) J=some b)/\Q (.bl b) H) M) (pCB (Em K) r):=by
 refine XI U λH0 H H1 Z ss Y R Q G s1 hm L h q=>?_;unfold Em at h;split at h
 ·obtain⟨v,u,rfl,T,N⟩:=L.two_inv;have g:=T.rp G;have f:=N.rp G;split at h
  ·rename_i C A y x;rw[y]at g;rw[x]at f;obtain⟨a,rfl,o⟩:=g.err_inv;obtain⟨b,w,s,p⟩:=h;rw[f.ref_inv];exact⟨a,C,_,_,b,rfl,o,w.any,⟨.ref A,λu l=>l,s⟩,q _ _ H1 p (Same.refl _) (.bl _)⟩
  ·rename_i C n y x;rw[y]at g;rw[x]at f;obtain⟨a,rfl,o⟩:=g.err_inv;obtain⟨b,w,s,p⟩:=h;rw[f.ty_inv];exact⟨a,C,_,_,b,rfl,o,w.any,⟨.type n,λu l=>l,s⟩,q _ _ H1 p (Same.refl _) (.bl _)⟩
  ·rename_i C r A y x;rw[y]at g;rw[x]at f;obtain⟨a,z,_,_,rfl,o,_,_⟩:=g.erM_inv;obtain⟨b,w,s,p⟩:=h;rw[f.ref_inv];exact⟨a,C,_,_,b,rfl,o,w,⟨.ref A,λu l=>l,s⟩,q _ _ H1 p (Same.refl _) (.bl _)⟩
  ·rename_i C r n y x;rw[y]at g;rw[x]at f;obtain⟨a,z,_,_,rfl,o,_,_⟩:=g.erM_inv;obtain⟨b,w,s,p⟩:=h;rw[f.ty_inv];exact⟨a,C,_,_,b,rfl,o,w,⟨.type n,λu l=>l,s⟩,q _ _ H1 p (Same.refl _) (.bl _)⟩
  ·exact h.elim
 ·exact h.elim
noncomputable def Zcu(i:Nat)(b a:PTE):PTS:=λR γ=>match γ[i]? with
 |some (some<|.own<|.lst f)=>a γ (λs=>b γ (λy=>match y.d with
   | .int k=>∃j d,ixN f.length k=some j/\s.shd=some d/\R.nx (γ.set i<|some<|.own<|.lst<|f.set j d)
   |_=>False) (R.ex γ)) (R.ex γ)
 |some (some<|.own<|.lsA x f)=>a γ (λs=>b γ (λy=>match y.d with
   | .int k=>∃j d,ixN f.length k=some j/\s.shd=some d/\R.nx (γ.set i<|some<|.own<|.lsA x<|f.set j d)
   |_=>False) (R.ex γ)) (R.ex γ)
 |_=>False
def Zc1:S->S->(S->Prop)->Prop:=λx y R=>match x.d,y.d with
 | .lst f,.int k=>x.free f=true/\(-(2 ^ 63)<=k/\k<2 ^ 63)/\f.length*k.toNat<=10000000/\R (.own (.lst (List.replicate k.toNat f).flatten))
 |_,_=>False
noncomputable def Pv:List D->Option (List V)
 |[]=>some []
 |d::r=>match NB d,Pv r with
  |some v,some f=>some (v::f)
  |_,_=>none
theorem S9:∀{ds}{vs us:List V},Rps K H ds vs->Pv ds=some us->vs=us
 |[],_,_,.nil,e=>by cases e;rfl
 |d::r,_,us,.cons h t,e=>by
  unfold Pv at e;split at e
  ·rename_i v vs g f;cases e
   rw[Sd h g,S9 t f]
  ·grind
def Gp(neg:Bool):S->S->(S->Prop)->Prop:=λx y R=>match x.d,y.d with
 | .lst l,.lst h=>∃g f,Pv l=some g/\Pv h=some f/\g.all Xa=true/\f.all Xa=true/\R (.sh<|.bl (if neg then !eqL g f else eqL g f))
 |_,_=>False
def Za6{n g a b}(N:JZ K mg E n a)(M:JZ K mg E g b):JZ K mg E (tOp (X8 K neg) n g) (p2 a b<|Gp neg):=by
 refine Xq N M λH0 H H2 Z x y v u R Q o s1 hm J G h q=>?_;unfold Gp at h;have s:=J.rp o;have p:=G.rp o;split at h
 ·rename_i ds es e1 e2;rw[e1]at s;rw[e2]at p;obtain⟨C,z,h1,h2,Y,U,T⟩:=h;obtain⟨l,vs,rfl,w,r⟩:=s.lst_inv;obtain⟨m,A,rfl,f,L⟩:=p.lst_inv;rw[S9 r h1]at w;rw[S9 L h2]at f;exact⟨l,m,C,z,rfl,rfl,SqL.of w,SqL.of f,Y,U,q _ _ H2 T (Same.refl _) (.bl _)⟩
 ·grind
def RG(f:X.A.units<cLine)(g:autoParam (X.K=K) au_0):OpR X (compareOp .NotEq) (X8 K true):=by subst g;exact Ff f
end
end Pu
namespace M
open L2 Own Pu
noncomputable def oc(c:Int->Int->Int):Yf->Int
 |[]=>0
 |a::r=>(r.map<|c a).sum+oc c r
end M
namespace Pu
open L2 Own
section
variable {K:Yd}{mg:Yh}{E:L2.St->XK}{H0 H H1 H':Hp}{B Z Z':Addr->Prop}{σ:L2.St}{γ:Γ}
def O.from:O->O->Prop
 | .ins x _ _ h,.ins g _ _ f=>g=x/\∀c∈h,∃l∈f,l.1=c.1
 | .lsA x _,.lsA g _=>g=x
 | .nsl x h,.nsl g f=>g=x/\f.map (·.1)=h.map (·.1)
 |_,_=>False
def O.from_adr {o o':O}{a} (h:o.from o'):∀b,o.adr a b->o'.adr a b:=by
 unfold O.from at h
 split at h
 ·intro b g;rcases g with g|⟨c,p,g⟩
  ·exact .inl (g.trans h.1.symm)
  ·obtain⟨q,n,l⟩:=h.2 c p;exact .inr ⟨q,n,g.trans l.symm⟩
 ·intro b g;exact g.trans h.symm
 ·intro b g;rcases g with g|⟨c,p,g⟩
  ·exact .inl (g.trans h.1.symm)
  ·have m:=List.mem_map_of_mem (f:=(·.1)) p;rw[←h.2]at m;obtain⟨q,n,l⟩:=WC.mp m;exact .inr ⟨q,n,g.trans l.symm⟩
 ·grind
def O.from_at {a l}{F n H H'} (h:o.from o') (g:OR K F H a o) (f:OR K n H' l o'):l=a:=by
 unfold O.from at h
 split at h
 ·exact f.1.trans (h.1.trans g.1.symm)
 ·exact f.1.trans (h.trans g.1.symm)
 ·exact f.1.trans (h.1.trans g.1.symm)
 ·grind
abbrev Pw:=O->List S->(O->D->Prop)->(O->Str->Prop)->Prop
noncomputable def S.pass:S->Option S
 | .sh d=>some (.sh d) | .own o=>some (.sh o.d)
 | .bor d=>match imm d with|true=>some (.sh d)|false=>some (.bor d)
 | .tmp d=>match imm d with|true=>some (.sh d)|false=>none
 | .view _=>none
def S.flat:S->Prop
 | .sh _=>True | .bor _=>True|_=>False
noncomputable def passes:List S->Option (List S)
 |[]=>some []
 |s::r=>match s.pass,passes r with|some f,some g=>some (f::g)|_,_=>none
structure After (K:Yd) (B:Addr->Prop) (H:Hp) (a:Addr) (o o':O) (H':Hp):Prop where
 same:Same (off (o.adr a) H) H'
 old:∀b,o.adr a b->o'.adr a b
 new:∀b,o'.adr a b->o.adr a b\/H b=none
 at_:OR K (off (λb=>B b\/o'.adr a b) H') H' a o'
noncomputable def spW(mg:Yh)(c:Pw)(K:Yd):Sp:=λl H Q E=>∃(o:O) (a:Addr) (g:List S) (h:List V) (B:Addr->Prop) (R:O->D->Prop) (X:O->Str->Prop),
 l=.ref a::h/\(∀b,B b->Mut (H b)/\¬o.adr a b)/\OR K (off (λb=>B b\/o.adr a b) H) H a o/\TVs K (λb=>B b\/o.adr a b) (off (o.adr a) H) H H g h/\(∀s∈g,s.flat)/\c o g R X/\
 (∀f d v H',R f d->After K B H a o f H'->Rp K (off (λb=>B b\/f.adr a b) H') d v->Q v H')/\∀f e H',X f e->After K B H a o f H'->XE mg E e H'
def TVs.get:∀{f vs}{i:Nat}{s:S},TVs K Z H0 H H' f vs->f[i]?=some s->∃v,vs[i]?=some v/\TV K Z H0 H H' s v:=by
 intro o
 induction o with
 |nil=>
  intro _ i _ h e;simp at e
 |cons _ _ g=>
  intro _ i d h e;cases h with
  |cons h r=>
   cases i with
   |zero=>
    simp at e;subst e;exact⟨_,rfl,h⟩
   |succ i=>
    obtain⟨v,n,l⟩:=g r (by simpa using e);exact⟨v,by simpa using n,l⟩
noncomputable def Ki(N:Ym)(o:O)(f:List S):Γ:=some (.own o)::(f.map some++List.replicate (N.length-(f.length+1)) none)
def O1{o a f us}(T:∀b,B b->Mut (H b)/\¬o.adr a b)(M:OR K (off (λb=>B b\/o.adr a b) H) H a o)(r:TVs K (λb=>B b\/o.adr a b) (off (o.adr a) H) H H f us)(L:∀s∈f,s.flat)(hn:f.length+1<=N.length) :
  Ud K (off (o.adr a) H) B H (start N (.ref a::us)) (Ki N o f):=by
 have get:∀i s,(Ki N o f)[i+1]?=some (some s)->f[i]?=some s:=λi s h=>by
  unfold Ki at h;rw[List.getElem?_cons_succ]at h;by_cases p:i<f.length
  ·rw[WM (by rw[Wd];exact p),Ws,Wc p]at h;rw[Wc p];exact WJ some (Wm<|Wm h)
  ·rw[Qs (by rw[Wd];lia),QT]at h;split at h<;>cases h
 have noown:∀i g,(Ki N o f)[i+1]?≠some (some<|.own g):=λi g h=>L _ (WS<|get i _ h)
 have n:(start N (V.ref a::us))[0]?=some (some<|.ref a):=by
  unfold L2.start;rfl
 have C:∀b,zof B (Ki N o f) (start N (V.ref a::us)) b->B b\/o.adr a b:=λb z=>by
  rcases z with z|⟨i,g,a',l,u,U⟩
  ·exact .inl z
  ·cases i with
   |zero=>
    cases u
    have:o=g:=by
     cases l
     rfl
    subst this;exact .inr U
   |succ i=>exact absurd l (noown i g)
 refine⟨off_sub,?_,λb h=>(T b h).1,λi j x Y g w b l u _ _ _ _=>?_,λi s h=>?_⟩
 ·unfold L2.start Ki;simp[r.len]
 ·cases i with
  |succ i=>exact absurd l (noown i g)
  |zero=>
   cases j with
   |zero=>rfl
   |succ j=>exact absurd u (noown j w)
 ·cases i with
  |zero=>
   have h:=h;cases h
   refine⟨_,n,a,rfl,λb Q=>?_,M.mono (Ul (Same.refl _) λb _ _ z y=>z (C b y)) λ_ _ _ q=>q⟩;unfold off;rw[Wp Q]
  |succ i=>
   have J:=get i s h;obtain⟨v,G,A⟩:=r.get J;refine⟨v,?_,?_⟩
   ·unfold L2.start;rw[WM (by rw[Wd,WG];have:=(WL.mp G).1;lia),Ws,List.getElem?_cons_succ,G];rfl
   ·have:=L s (WS J)
    cases s with
    |bor d=>exact A
    |sh d=>exact Rp.mono (Ul (Same.refl _) λb _ _ z y=>z (C b y)) A
    |_=>exact this.elim
def Ef(o:O)(R:O->D->Prop)(γ:Γ)(d:D):Prop:=∃f,γ[0]?=some (some<|.own f)/\o.from f/\R f d
def RJ(o:O)(X:O->Str->Prop)(γ:Γ)(e:Str):Prop:=∃f,γ[0]?=some (some<|.own f)/\o.from f/\X f e
noncomputable def Gh(o:O)(R:O->D->Prop)(X:O->Str->Prop):X7:={nx:=λγ=>Ef o R γ .non,rt:=λ_=>False,ex:=RJ o X,rv:=Ef o R}
def Sq{σ'}{γ'}(n:OR K (off (λb=>B b\/o.adr a b) H) H a o)(e:Ud K (off (o.adr a) H) B H' σ' γ')(h:γ'[0]?=some (some<|.own o'))(k:o.from o'):After K B H a o o' H'/\∀b,B b\/o'.adr a b->zof B γ' σ' b:=by
 obtain⟨v,s,f,rfl,r,l⟩:=e.slot 0 _ h;have u:=O.from_at k n l;subst u;have g:∀b,B b\/o'.adr f b->zof B γ' σ' b:=λb z=>z.imp id λz=>⟨0,o',f,h,s,z⟩;refine⟨⟨e.same,O.from_adr k,λb p=>?_,l.mono (Ul (Same.refl _) λb _ _ z y=>z (g b y)) λ_ _ _ q=>q⟩,g⟩
 have:=r b p
 unfold off at this;by_cases q:o.adr f b
 ·exact .inl q
 ·grind
def R5{t p vs Q U n}(h:spW mg c K vs H Q U)(J:Uj K mg (λ_=>U) t p)(hn:n+1<=N.length)(L:∀o s R X,c o s R X->s.length=n/\p (Gh o R X) (Ki N o s)):t {nx:=λ_ H'=>Q .non H',rt:=Q} (start N vs) H:=by
 obtain⟨o,a,s,us,B,R,X,rfl,T,G,r,hf,hc,M,hX⟩:=h;obtain⟨e,L⟩:=L o s R X hc;refine J _ B H _ _ _ _ (λb z=>?_) (O1 T G r hf<|by rw[e];exact hn) L ⟨λl q H' A C f1=>?_,λ_ _ _ z=>z.elim,λl q c H' A C f1=>?_,λ_ _ _ z=>z.elim,λ_ _ _ z=>z.elim,λl q d v H' A C f1 Y=>?_⟩
 ·obtain⟨g,f⟩:=T b z;obtain⟨x,hx⟩:=KG g;exact⟨x,UB hx f⟩
 ·obtain⟨w,g,f,u⟩:=A;exact M w .non .non H' u (Sq G C g f).1 .non
 ·obtain⟨w,g,f,u⟩:=A;exact hX w c H' u (Sq G C g f).1
 ·obtain⟨w,g,f,u⟩:=A;obtain⟨k1,k2⟩:=Sq G C g f;exact M w d v H' u k1 (Rp.mono (Ul (Same.refl _) λb _ _ z y=>z (k2 b y)) Y)
def R3(h:spW mg c K vs H Q q)(g:∀o f R X,c o f R X->f.length=n):vs.length=n+1:=by
 obtain⟨o,a,f,p,B,R,X,rfl,_,_,r,_,l,_⟩:=h;rw[WG,r.len,g o f R X l]
abbrev PTW:=Γ->(Γ->D->Prop)->(Γ->Str->Prop)->Prop
variable {te:TE}{w:PTW}
def Mj{s f:S}(h:s.pass=some f):f.flat:=by
 cases s with
 |bor d=>unfold S.pass at h;cases q:imm d<;>simp[q]at h<;>subst h<;>trivial
 |tmp d=>
  unfold S.pass at h;cases q:imm d<;>simp[q]at h
  subst h;trivial
 |view o=>cases h
 |_=>cases h;trivial
theorem SR:∀{g f:List S},passes g=some f->∀s∈f,s.flat
 |[],_,h=>by cases h;simp
 |s::r,_,h=>by
  unfold passes at h;split at h
  ·rename_i o p n l;cases h
   intro x hx;rcases Wo.mp hx with rfl|hx
   ·exact Mj n
   ·exact SR l x hx
  ·grind
def TV.pass {v P W f} (r:Same H0 H') (n:∀b,Z b->Mut (H b)) (x:Same H H') (p:Same H0 (off P f)) (l:Same (off Z H') (off W f)) (h:TV K Z H0 H H' s v) (e:s.pass=some g):TV K W (off P f) f f g v:=by
 have shd:∀d,s.shd=some d->Rp K (off W f) d v:=λd u=>Rp.mono l (h.shd r n x u);cases s with
 |view o=>cases e
 |tmp d=>
  unfold S.pass at e;cases q:imm d with
  |false=>simp_all
  |true=>simp[q]at e;subst e;exact shd d (by unfold S.shd;simp[q])
 |bor d=>
  unfold S.pass at e;cases q:imm d with
  |false=>simp[q]at e;subst e;exact Rp.mono p h
  |true=>simp[q]at e;subst e;exact shd d (by unfold S.shd;simp[q])
 |_=>cases e;exact shd _ rfl
theorem TVs.pass {HB} (p:Same H0 H') (n:∀b,Z b->Mut (H b)) (q:Same H H') (o:Same H0 (off P HB)) (l:Same (off Z H') (off W HB)):∀{g f}{vs:List V},TVs K Z H0 H H' g vs->passes g=some f->TVs K W (off P HB) HB HB f vs
 |_,_,_,.nil,e=>by cases e;exact .nil
 |_,_,_,.cons h r,e=>by
  unfold passes at e;split at e
  ·rename_i v x u s;cases e
   exact .cons (h.pass p n q o l u) (TVs.pass p n q o l r s)
  ·grind
noncomputable def Zcw(i:Nat)(c:Pw)(r:PTA):PTW:=λγ R X=>match γ[i]? with
 |some (some<|.own o)=>r γ (λh=>match passes h with|some f=>c o f (λg d=>R (γ.set i<|some<|.own g) d) (λg e=>X (γ.set i<|some<|.own g) e)|none=>False) (X γ)
 |_=>False
def Aj(C:Addr)(xs:Ym)(j:Nat):S->(S->Prop)->Prop
 | .view (.ins _ g f l),R=>g=C/\f=xs/\∃c,l[j]?=some c/\R (.view<|.lst c.2)
 | .bor (.ins g f h),R=>g=C/\f=xs/\∃d,h[j]?=some d/\R (arg d)
 |_,_=>False
noncomputable def Zbp(C:Addr)(xs:Ym)(j:Nat)(a:PTE):PTE:=λγ R X=>a γ (λs=>Aj C xs j s R) X
def Rp.ins_inv (h:Rp K H (.ins C xs ds) v):∃a f vs,v=.ref a/\H a=some (.ins C f<|xs.zip vs)/\xs.length=vs.length/\Rps K H ds vs:=by
 cases h with
 |ins h e r=>grind
def FldAt(f:Str)(xs:Ym)(j:Nat):Prop:=∀g:List V,xs.length=g.length->(xs.zip g).lookup f=g[j]?
def Si(j:Nat){a}(L:Cls K C)(G:NoAttr K C f)(J:FldAt f xs j)(ha:JZ K mg E te a):JZ K mg E (Gx K te f) (Zbp C xs j a):=by
 intro H0 B H σ γ R X Q l p q qx;refine ha H0 B H σ γ _ X _ l p (λs v H1 h z A=>?_) qx;have g:=l.grow z;unfold Aj at h;split at h
 ·rename_i x C' n cs;obtain⟨rfl,rfl,c,M,o⟩:=h;obtain⟨b,rfl,T,N,⟨y,r⟩,e4,e5⟩:=A;obtain⟨U,u1,Y⟩:=e4 c (WS M);refine⟨b,_,y,_,_,rfl,r,L,G,?_,q _ _ H1 o z ⟨c.1,rfl,U,u1,Y⟩⟩;rw[J _ (by grind),Ws,M];rfl
 ·rename_i C' n ds;obtain⟨rfl,rfl,d,ed,o⟩:=h;obtain⟨b,y,vs,rfl,T,N,r⟩:=Rp.ins_inv A;obtain⟨u,hu,ru⟩:=r.get ed;refine⟨b,_,y,_,u,rfl,g.same _ _ T,L,G,by rw[J _ N];exact hu,q _ _ H1 o z (Pz g.zm g.same ru)⟩
 ·exact h.elim
noncomputable def Dr(C:Addr)(xs:Ym)(c:Pc)(a:PTE)(r:PTA):PTE:=λγ R X=>a γ (λs=>match s.d with
 | .ins g f l=>g=C/\f=xs/\r γ (λh=>c (.ins g f l::h.map S.d) (λs=>R s.back) X) X
 |_=>False) X
def NoFld(m:Str)(xs:Ym):Prop:=∀f:List V,(xs.zip f).lookup m=none
noncomputable def DK(C:Addr)(m:Str)(sp:Sp)(E:L2.St->XK)(g:TE)(t:TA):TE:=λσ H Q=>g σ H λx H1=>∃a h fs,x=.ref a/\H1 a=some (.ins C h fs)/\fs.lookup m=none/\t σ H1 λf l=>sp (x::(f++[])) l Q (E σ)
def BQ{m xs c z a r}(hx:NoFld m xs)(ha:JZ K mg E te a)(T:Um K mg E z r):JZ K mg E (DK C m (Ui mg c K) E te z) (Dr C xs c a r):=by
 intro H0 B H σ γ R X Q h p q y;refine ha H0 B H σ γ _ X _ h p (λs v H1 o n M=>?_) y;have f:=h.grow n;split at o
 ·rename_i C' A ds ed;obtain⟨rfl,rfl,o⟩:=o;have x:=M.rp f.same;rw[ed]at x;obtain⟨b,dx,G,rfl,e1,e2,e3⟩:=Rp.ins_inv x;refine⟨b,dx,_,rfl,e1,hx G,T H0 B H1 σ γ _ X _ f o (λss us H2 h2 l L=>?_) λc H' Y S'=>y c H' Y (n.trans S')⟩;have g:=f.grow l;rw[WE];refine⟨_,_,X,Rps.cons (Rp.mono l x) (L.rps g.same),h2,λs v H' N u J=>q _ _ H' N ((n.trans l).trans u) (J.back g (n.trans l) u),λe H' U u=>y e H' U ((n.trans l).trans u)⟩
 ·grind
def Gm{m xs c g a r f}(hx:NoFld m xs)(l:JZ K mg (λ_=>f) te a)(h:Um K mg (λ_=>f) g r):JZ K mg (λ_=>f) (Pj C m (Ui mg c K) [] f te g) (Dr C xs c a r):=BQ hx l h
noncomputable def RL(C:Addr)(xs:Ym)(c:Pc)(a:PTE)(r:PTA):PTE:=λγ R X=>a γ (λs=>match s.d with
 | .ins g f l=>g=C/\f=xs/\r γ (λh=>c (.ins g f l::h.map S.d) (λs=>R s.back) λ_=>False) X
 |_=>False) X
def Pf{m xs c x a r}(hx:NoFld m xs)(ha:JZ K mg E te a)(U:Um K mg E x r):JZ K mg E (Pj C m (Ui mg c K) [] E0 te x) (RL C xs c a r):=by
 intro H0 B H σ γ R X Q h p q y;refine ha H0 B H σ γ _ X _ h p (λs v H1 l o N=>?_) y;have f:=h.grow o;split at l
 ·rename_i C' G ds ed;obtain⟨rfl,rfl,l⟩:=l;have u:=N.rp f.same;rw[ed]at u;obtain⟨b,dx,J,rfl,e1,e2,e3⟩:=Rp.ins_inv u;refine⟨b,dx,_,rfl,e1,hx J,U H0 B H1 σ γ _ X _ f l (λss us H2 h2 n M=>?_) λc H' Y S'=>y c H' Y (o.trans S')⟩;have g:=f.grow n;rw[WE];exact⟨_,_,_,Rps.cons (Rp.mono n u) (M.rps g.same),h2,λs v H' T A L=>q _ _ H' T ((o.trans n).trans A) (L.back g (o.trans n) A),λ_ _ z=>z.elim⟩
 ·grind
noncomputable def Zcx(i:Nat)(C:Addr)(xs:Ym)(c:Pw)(r:PTA):PTW:=λγ R X=>match γ[i]? with
 |some (some<|.own<|.ins x l f o)=>l=C/\f=xs/\r γ (λn=>match passes n with|some g=>c (.ins x l f o) g (λh d=>R (γ.set i<|some<|.own h) d) (λh e=>X (γ.set i<|some<|.own h) e)|none=>False) (X γ)
 |_=>False
def PutAt(f:Str)(xs:Ym):Prop:=∀(g:List V) (y:V),xs.length=g.length->UP f y (xs.zip g)=(xs++[f]).zip (g++[y])
noncomputable def IT(i:Nat)(C:Addr)(f:Str)(xs:Ym)(a:PTE):PTS:=λR γ=>a γ (λs=>match s with
 | .own (.lst l)=>(match γ[i]? with
  |some (some<|.own<|.ins x h g n)=>h=C/\g=xs/\xs.length<1000/\∀b,R.nx (γ.set i<|some<|.own<|.ins x h (xs++[f]) (n++[(b,l)]))
  |_=>False)
 |_=>False) (R.ex γ)
def Ba(i:Nat){C f xs a}(g:Cls K C)(hn:NoAttr K C f)(hp:PutAt f xs)(ha:JZ K mg E te a):Uj K mg E (F5 K (Kl i) te f) (IT i C f xs a):=by
 intro H0 B H σ γ R D hB p h e;refine ha H0 B H σ γ _ _ _ p h (λs v H1 G Q t1=>?_) λc H' g S'=>e.ex σ γ c H' g (p.grow S') (Fr.grow S');split at G
 ·rename_i ds;split at G
  ·rename_i x M o r hi;obtain⟨rfl,rfl,hl,G⟩:=G;obtain⟨u,hv,b,rfl,e0,e1,e2,⟨dx,e3⟩,e4,e5⟩:=p.slot i _ hi;subst e1;obtain⟨l,rfl,L,vs,l1,l2⟩:=t1;have L:=L l rfl;refine⟨_,hv,b,_,dx,_,rfl,Q _ _ e3,g,hn,?_,?_⟩
   ·rw[List.length_zip,Wd];lia
   ·rw[hp _ _ (by rw[Wd];exact e2)]
    have nl:∀c∈r,c.1≠l:=λc g=>by
     obtain⟨ws,J,_⟩:=e4 c g;exact U3 J L
    have nb:∀c∈r,c.1≠b:=λc g z=>by
     obtain⟨ws,J,_⟩:=e4 c g;rw[z,e3]at J;cases J
    have T:∀c,(O.ins b M o r).adr b c->zof B γ σ c:=λc g=>.inr ⟨i,_,b,hi,hv,g⟩
    have key:∀c u,H1 c=some u->¬(zof B γ σ c\/c=l)->¬zof B (γ.set i<|some<|.own<|.ins b M (o++[f]) (r++[(l,ds)])) σ c:=λc u _ n z=>by
     rcases z with z|⟨k,fs,a',k1,N,A⟩
     ·exact n (.inl<|.inl z)
     ·rcases U4 k1 with⟨ek,q,_⟩|⟨_,q⟩
      ·subst ek;cases q
       rw[hv]at N;cases N
       rcases A with A|⟨d,hd,A⟩
       ·exact n (.inl<|T c<|.inl A)
       ·rcases WH.mp hd with hd|hd
        ·exact n (.inl<|T c<|.inr ⟨d,hd,A⟩)
        ·rw[Wf]at hd;subst hd;exact n (.inr A)
      ·exact n (.inl<|.inr ⟨k,fs,a',q,N,A⟩)
    have So:Same (off (λc=>zof B γ σ c\/c=l) H1) (off (zof B (γ.set i<|some<|.own<|.ins b M (o++[f]) (r++[(l,ds)])) σ)<|upd H1 b<|.ins M dx ((o++[f]).zip ((r.map λc=>V.ref c.1)++[.ref l]))):=λc u h=>by
     obtain⟨Y,U⟩:=Kd h;exact UB (by rw[Ug λz=>U (.inl<|T c<|.inl z)];exact Y) (key c u Y U)
    have S0:Same (off (zof B γ σ) H) (off (λc=>zof B γ σ c\/c=l) H1):=Ul Q λc u g z y=>y.elim z λy=>by rw[y,L]at g;cases g
    obtain⟨k1,N⟩:=p.change (o':=.ins b M (o++[f]) (r++[(l,ds)])) (H':=upd H1 b (.ins M dx ((o++[f]).zip ((r.map λc=>V.ref c.1)++[.ref l])))) hi hv
     (λc u hu n=>by rw[Ug λz=>n (.inl z)];exact Q _ _ hu)
     (λc g=>by
      by_cases z:c=b
      ·rw[z,Ur];trivial
      ·rw[Ug z];exact(p.grow Q).zm c (T c g))
     (λc g=>by
      rcases g with g|⟨d,hd,g⟩
      ·exact .inl (.inl g)
      ·rcases WH.mp hd with hd|hd
       ·exact .inl (.inr ⟨d,hd,g⟩)
       ·rw[Wf]at hd;subst hd;exact .inr (by rw[show c=l from g];exact L))
     ⟨rfl,by rw[W1,W1,e2];rfl,⟨dx,by rw[Ur,W5];rfl⟩,λc g=>by
      rcases WH.mp g with g|g
      ·obtain⟨ws,J,w2⟩:=e4 c g;exact⟨ws,by rw[Ug (nb c g)];exact Q _ _ J,Rps.mono So (Rps.mono S0 w2)⟩
      ·rw[Wf]at g;subst g;exact⟨vs,by rw[Ug (λz=>(U3 e3 L) z.symm)];exact l1,Rps.mono So l2⟩,by
      rw[W5,List.nodup_append]
      exact⟨e5,by simp,λc g d hd z=>by
       obtain⟨c',Y,U⟩:=WC.mp g
       have:d=l:=by simpa using hd
       exact nl c' Y (U.trans<|z.trans this)⟩⟩
    exact e.nx _ _ _ (G l) k1 N
  ·exact G.elim
 ·exact G.elim
def MG{c}{M l}{us}{R:S->Prop}{X:XR}{Q:VK}{Ec}(env:Ud K H0 B H σ γ)(p:Same H H1)(T:TVs K (zof B γ σ) H0 H H1 M us)(N:passes M=some l)(h1:∀x,c (.ins x C [] []) l (λo' d=>d=.non/\R (.own o')) (λ_ e=>X e))(q:∀s v H',R s->Same H H'->TV K (zof B γ σ) H0 H H' s v->Q v H')(Y:∀c H',X c->Same H H'->XE mg Ec c H') :
  ∀x h,H1 x=none->H1 h=none->h≠x->spW mg c K (.ref x::us) (upd (upd H1 h<|.own x) x<|.ins C h []) (λv H2=>v=.non/\Q (.ref x) H2) Ec:=by
 have f:=env.grow p;intro x h n J nex
 have u:Same H1 (upd (upd H1 h<|.own x) x<|.ins C h []):=λb o e=>by
  rwa[Ug (U3 e n),Ug (U3 e J)]
 have r:∀o' H',After K (zof B γ σ) (upd (upd H1 h<|.own x) x<|.ins C h []) x (.ins x C [] []) o' H'->Same H1 H'/\∀b,o'.adr x b->H b=none:=λo' H' A=>by
  refine⟨λb o e=>A.same b o (UB (u b o e) λz=>?_),λb G=>?_⟩
  ·rcases z with z|⟨c,g,_⟩
   ·rw[z,n]at e;cases e
   ·cases g
  ·rcases A.new b G with(z|⟨c,g,_⟩)|z
   ·rw[z];exact p.free n
   ·cases g
   ·exact p.free (u.free z)
 refine⟨.ins x C [] [],x,l,us,zof B γ σ,_,_,rfl,λb G=>⟨XM u (f.zm b G),λz=>?_⟩,⟨rfl,rfl,⟨h,Ur⟩,(λc g=>by cases g),List.nodup_nil⟩,?_,SR N,h1 x,λo' d v H' L A U=>?_,λo' e H' hX A=>?_⟩
 ·rcases z with z|⟨c,g,_⟩
  ·have:=f.zm b G
   rw[z,n]at this;exact this
  ·cases g
 ·refine T.pass f.same env.zm p (λb o e=>UB (u _ _<|f.same b o e) λz=>?_) (Ul u λb o e z y=>?_) N
  ·rcases z with z|⟨c,g,_⟩
   ·rw[z,(f.same).free n]at e;cases e
   ·cases g
  ·rcases y with y|y|⟨c,g,_⟩
   ·exact z y
   ·rw[y,n]at e;cases e
   ·cases g
 ·obtain⟨rfl,L⟩:=L;obtain⟨k1,k2⟩:=r o' H' A;exact⟨Rp.non_inv U,q _ _ H' L (p.trans k1) ⟨x,rfl,k2,A.at_⟩⟩
 ·exact Y e H' hX (p.trans (r o' H' A).1)
noncomputable def L8(C:Addr)(c:Pw)(r:PTA):PTE:=λγ R X=>r γ (λg=>match passes g with|some f=>∀x,c (.ins x C [] []) f (λh d=>d=.non/\R (.own h)) (λ_ _=>False)|none=>False) X
def LX{g r}(s:Um K mg E g r):JZ K mg E (BH C (spW mg c K) [] E0 g) (L8 C c r):=by
 intro H0 B H σ γ R X Q f p q o;refine s H0 B H σ γ _ X _ f p (λy x H1 h v l=>?_) o;split at h
 ·rename_i n u;rw[WE];exact MG f v l u h q λ_ _ z=>z.elim
 ·grind
end
def Tg{f:Type}{us:List f}(h:us.length=1):∃a,us=[a]:=List.length_eq_one_iff.mp h
def Nf{f:Type}{us:List f}(h:us.length=2):∃a b,us=[a,b]:=by
 cases us with
 |nil=>grind
 |cons a r=>obtain⟨b,rfl⟩:=Tg (by simpa using h);exact⟨a,b,rfl⟩
def T3{f:Type}{us:List f}(h:us.length=3):∃a b c,us=[a,b,c]:=by
 cases us with
 |nil=>grind
 |cons a r=>obtain⟨b,c,rfl⟩:=Nf (by simpa using h);exact⟨a,b,c,rfl⟩
def NK{f:Type}{us:List f}(h:us.length=4):∃a b c d,us=[a,b,c,d]:=by
 cases us with
 |nil=>grind
 |cons a r=>obtain⟨b,c,d,rfl⟩:=T3 (by simpa using h);exact⟨a,b,c,d,rfl⟩
def LK{f:Type}{us:List f}(h:us.length=5):∃a b c d e,us=[a,b,c,d,e]:=by
 cases us with
 |nil=>grind
 |cons a r=>obtain⟨b,c,d,e,rfl⟩:=NK (by simpa using h);exact⟨a,b,c,d,e,rfl⟩
structure Uv (K:Yd) (W:Addr->Prop) (x q:Str) (st:Stmt) (ps:Ym):Prop where
 ex:∃f fd,Fun K x q st f fd/\W f/\Binds K fd ps []
structure Xo (P:Program) (w:World) (K:Yd) (mg:Yh) (base:Heap) (CX:CXT) (k:Nat) (W:Addr->Prop) (ps:Ym) (sp:Sp):Prop where
 ex:∃f fd,UK P w K mg base CX k f fd ps sp/\W f/\Binds K fd ps []
section
variable {P:Program}{w:World}{K:Yd}{mg:Yh}{base:Heap}{W:Addr->Prop}
def Uv.ok {st N ps k sp} (D:Uv K W x q st ps) (S:Ue N ps (Ua st)) (len:∀vs H Q E,sp vs H Q E->vs.length=ps.length)
  (l:∀f g A outer s H vs Q E,Uh k (A.deeper<|envOfC q (Ua st) s.heap.objs.size f g)->sp vs H Q E->
   ∃t,PSs (Uu CX0 P w K mg base N q (Ua st) f g A outer s H E).nox (Ut st) t/\t {nx:=λ_ H'=>Q .non H',rt:=Q} (start N vs) H):Xo P w K mg base CX0 (k+1) W ps sp:=by
 obtain⟨f,r,F,o,p⟩:=D.ex;exact⟨f,r,F.ok S len λg A outer s H vs Q E n h=>l f g A outer s H vs Q E n h,o,p⟩
def Uv.okX {st N ps k sp} (D:Uv K W x q st ps) (S:Ue N ps (Ua st)) (len:∀vs H Q E,sp vs H Q E->vs.length=ps.length)
  (h:∀f g A outer s H vs Q E,Uh k (A.deeper<|envOfC q (Ua st) s.heap.objs.size f g)->sp vs H Q E->
   ∃t,PSs (Uu (ExcR.CXe P w) P w K mg base N q (Ua st) f g A outer s H E) (Ut st) t/\t {nx:=λ_ H'=>Q .non H',rt:=Q} (start N vs) H):Xo P w K mg base (ExcR.CXe P w) (k+1) W ps sp:=by
 obtain⟨f,C,F,u,v⟩:=D.ex;obtain⟨oc,B,kV,y,z,J,g,G,o,rfl,p,n⟩:=F.ex;exact⟨f,_,Fb p n S len λA outer s H vs Q E r l=>h f g A outer s H vs Q E r l,u,v⟩
def Zak:Xi (ExcR.CXe P w) X E0:=λ_ _ _ _ _ _ _ h=>by
 obtain⟨a,T,C,f,g,_,_,z⟩:=h
 grind
end
section
variable {X:Cx}{CX:CXT}{k:Nat}{Cc:Addr}{ps:Ym}{sp:Sp}{E:XK}{ES:L2.St->XK}{x m:Str}{p pos apos:Pos}{e o:Expr}{es:Yn}{ta:TE}{t:TA}
def FP{pl}(C:Xo X.prog X.w X.K X.mg X.base CX k (UJ X.K Cc m) ps sp)(c:Cls X.K Cc)(q:Uh k X.A)(hx:Xi CX X E)(s:PE X o ta)(v:PA X (e::es) t)(g:autoParam (starEach (e::es) X.env=(false,eval e X.env)::starEach es X.env) au_0)(h:autoParam ((backTo pos<|starEach es X.env).any (·.1)=false) au_0)
  (n:autoParam (eval (.Call (.Attribute o m apos) (e::es) [] pos) X.env=(do
   let l ←eval o X.env
   standAt apos.atName
   let (f,first) ←holding [l] (getMethod l m pl)
   callWith pos f first (backTo pos<|starEach (e::es) X.env) (backToKw pos<|keywordEach [] X.env))) au_0) :
  PE X (.Call (.Attribute o m apos) (e::es) [] pos) (Pj Cc m sp [] E ta t):=by
 obtain⟨f,y,F,r,u⟩:=C.ex;exact Zb6 s c r F q u .nil hx v g h n
def Pg(C:Xo X.prog X.w X.K X.mg X.base CX k (UJ X.K Cc m) ps sp)(c:Cls X.K Cc)(l:Uh k X.A)(hx:Xi CX X E)(q:PE X o ta)
  (h:autoParam (eval (.Call (.Attribute o m apos) [] [] pos) X.env=(do
   let g ←eval o X.env
   standAt apos.atName
   let (f,first) ←holding [g] (getMethod g m s)
   callWith pos f first (backTo pos<|starEach [] X.env) (backToKw pos<|keywordEach [] X.env))) au_0) :
  PE X (.Call (.Attribute o m apos) [] [] pos) (Pj Cc m sp [] E ta UY):=by
 obtain⟨f,u,F,n,r⟩:=C.ex;exact RA q c n F l r .nil hx h
def Mn{g:L2.St}{H}{s}{Q}{us}{vs}(F:UK X.prog X.w X.K X.mg X.base CX k f z ps sp)(n:Uh k X.A)(v:Binds X.K z ps [])(hx:ExcR.Tw CX X ES)(I:Inv X pins g H s)(r:Vals vs us)(h:sp vs H Q (ES g)):wpAny (model X.prog X.w) X.A (call (.ref f) us) (EP X pins g Q) X.xe s:=by
 have q:(us++[]).length=ps.length:=by rw[WE,←r.length];exact F.len _ _ _ _ h
 refine wpAny_call (Ql (F.run X.A X.stack s H ⟨us,[]⟩ (us++[]) vs Q (ES g) n I.env0 (v s us I.kIn q) (by grind) h) λr l hq=>?_);cases r with
 |error e=>exact hx pins g H s e l I hq
 |ok y=>
  cases y with
  |ret u=>exact I.after hq
  |cont=>exact False.elim hq
  |_=>trivial
def Gw{pl}(C:Xo X.prog X.w X.K X.mg X.base CX k (UJ X.K Cc m) ps sp)(c:Cls X.K Cc)(T:Uh k X.A)(hx:ExcR.Tw CX X ES)(U:PE X o ta)(ha:PA X (e::es) t)(g:autoParam (starEach (e::es) X.env=(false,eval e X.env)::starEach es X.env) au_0)(n:autoParam ((backTo pos<|starEach es X.env).any (·.1)=false) au_0)
  (N:autoParam (eval (.Call (.Attribute o m apos) (e::es) [] pos) X.env=(do
   let y ←eval o X.env
   standAt apos.atName
   let (f,first) ←holding [y] (getMethod y m pl)
   callWith pos f first (backTo pos<|starEach (e::es) X.env) (backToKw pos<|keywordEach [] X.env))) au_0) :
  PE X (.Call (.Attribute o m apos) (e::es) [] pos) (DK Cc m sp ES ta t):=by
 obtain⟨f,fd,F,z,Y⟩:=C.ex;intro pins s v H Q I h;refine Q5 (thn (U pins s v H _ I h) λu J ⟨x,H1,G,L,a,dx,fs,ex,ea,l,q⟩=>?_) N;subst ex;obtain rfl:=L;refine Nj G ea c z l ?_;refine Q1 I.ok.mod.kin z.kp (thn (ha pos pins J v H1 _ G q) λus s2 ⟨vs,H2,B,r,M⟩=>⟨B.kIn,?_⟩) g n;exact Mn (vs:=.ref a::(vs++[])) F T Y hx B (.cons rfl<|by simp_all) M
def Za5(C:Xo X.prog X.w X.K X.mg X.base CX k (Mk X.K Cc) ps sp)(n:X.mg x=some (.ref Cc))(l:Uh (k+1) X.A)(hx:Xi CX X E)(u:PA X (e::es) t)(q:autoParam (Gl X x) au_0)(h:autoParam ((x==("__debug__" : Str))=false) au_1)(r:autoParam (starEach (e::es) X.env=(false,eval e X.env)::starEach es X.env) au_0)(g:autoParam ((backTo pos<|starEach es X.env).any (·.1)=false) au_0) :
  PE X (.Call (.Name x p) (e::es) [] pos) (BH Cc sp [] E t):=by
 obtain⟨f,v,F,M,s⟩:=C.ex;exact Ir M F l q n s .nil hx u h r g
end
abbrev PTF:=Γ->Str->(Str->Prop)->XR->Prop
section
variable {K:Yd}{mg:Yh}{E:L2.St->XK}{t:ExcR.TF}{p:PTF}{te:TE}{a:PTE}
def KU(K:Yd)(mg:Yh)(E:L2.St->XK)(t:ExcR.TF)(p:PTF):Prop:=∀(n:Hp) (B:Addr->Prop) (H:Hp) (h:L2.St) (l:Γ) (f:Str) (R:Str->Prop) (X:XR) (Q:Str->Hp->Prop),Ud K n B H h l->p l f R X->
 (∀x g,R x->Same H g->Q x g)->(∀c g,X c->Same H g->XE mg (E h) c g)->t h H f Q
noncomputable def O9:PTF:=λ_ f R _=>f.length<=sizeLine/\R f
def T7:KU K mg E ExcR.D5 O9:=λo B H l n f R X Q g h q _=>⟨h.1,q _ H h.2 (Same.refl _)⟩
noncomputable def Mq(x:Str)(p:PTF):PTF:=λg f R X=>(f++x).length<=sizeLine/\p g (f++x) R X
def P7(h:KU K mg E t p):KU K mg E (ExcR.FT x t) (Mq x p):=λs B H l n r R X Q f g q o=>⟨g.1,h s B H l n _ R X Q f g.2 q o⟩
noncomputable def GX(a:PTE)(p:PTF):PTF:=λg f R X=>a g (λs=>match s.d with
 | .int i=>i.natAbs.log2<1920/\(f++(Str.ofString<|toString i)).length<=sizeLine/\p g (f++Str.ofString (toString i)) R X
 | .str x=>x.length<=sizeLine/\(f++x).length<=sizeLine/\p g (f++x) R X
 |_=>False) X
def P3(N:JZ K mg E te a)(h:KU K mg E t p):KU K mg E (ExcR.DT te t) (GX a p):=λC B H w y L R X Q o M q z=>by
 refine N C B H w y _ X _ o M (λs v G g r J=>?_) z;have f:=o.grow r;have u:=J.rp f.same;split at g
 ·rename_i i ei;rw[ei]at u;exact .inl ⟨i,u.int_inv,g.1,g.2.1,h C B G w y _ R X Q f g.2.2 (λx n hx l=>q x n hx (r.trans l)) λc n A l=>z c n A (r.trans l)⟩
 ·rename_i x T;rw[T]at u;exact .inr ⟨x,u.str_inv,g.1,g.2.1,h C B G w y _ R X Q f g.2.2 (λx n hx l=>q x n hx (r.trans l)) λc n A l=>z c n A (r.trans l)⟩
 ·grind
noncomputable def pF(p:PTF):PTE:=λf R X=>p f Str.empty (λx=>R (.sh<|.str x)) X
def T4(h:KU K mg E t p):JZ K mg E (ExcR.tF t) (pF p):=λs B H g l R X Q f o q n=>
 h s B H g l _ _ X _ f o (λx u hx r=>q _ _ u hx r (.str x)) n
end
open M
noncomputable abbrev plD(f:Ye):D:=.lst (f.map prD)
noncomputable abbrev dD(q:Str×Yf):D:=.tup (.str q.1::q.2.map D.int)
noncomputable abbrev vF:Ym:=["book","fields","wished"]
noncomputable abbrev vO(C x b1 b2 g:Addr)(bk:List (Str×Yf))(fs f:List (Ye)):O:=.ins x C vF [(b1,bk.map dD),(b2,fs.map plD),(g,f.map plD)]
noncomputable abbrev UO(C:Addr)(bk:List (Str×Yf))(fs f:List (Ye)):D:=.ins C vF [.lst (bk.map dD),.lst (fs.map plD),.lst (f.map plD)]
def Cd{g:Type}(f:g->D)(xs:List g)(x:g):atI ((xs++[x]).map f) (-1)=some (f x):=by
 refine XN ?_;unfold atI ixN;rw[Wl (by lia),Wp (by grind)];show(xs++[x])[_]?=some x;have e:((-1:Int)+((xs++[x]).length:Int)).toNat=xs.length:=by grind
 rw[e,Qs (Wk _),Nat.sub_self];rfl
def Xv(e:Option Str)(X:Str->Prop)(R:Prop):Prop:=match e with|some c=>X c|none=>R
noncomputable def Bz(h:Int):Option Str:=if 1<=h/\h<=10 then none else some "BadHolder"
noncomputable def Kh:Ye->Option Str
 |[]=>none
 |q::r=>if ¬(1<=q.1/\q.1<=10)then some "BadHolder" else if ¬(1<=q.2/\q.2<=1000)then some "BadWidth" else Kh r
noncomputable def Pr(ps:Ye):Option Str:=if 40<ps.length then some "TooManyStrips" else Kh ps
theorem Ci:∀{ps:Ye},Field ps->Kh ps=none
 |[],_=>rfl
 |q::r,h=>by
  obtain⟨n,l,g,f⟩:=h q Wz;unfold Kh;rw[Wl (λz=>z ⟨n,l⟩),Wl (λz=>z ⟨g,f⟩)];exact Ci λx hx=>h x (Wr _ hx)
def MD(h:Field ps)(f:ps.length<=40):Pr ps=none:=by
 unfold Pr;rw[Wl (by lia)];exact Ci h
def Zb1(q:Int×Int)(r:Ye):Kh (q::r)=if ¬(1<=q.1/\q.1<=10)then some ("BadHolder" : Str)else if ¬(1<=q.2/\q.2<=1000)then some ("BadWidth" : Str)else Kh r:=rfl
def Ii(q:Str×Yf):imm (dD q)=true:=by
 unfold dD imm UC;rw[Kq];rfl
theorem Au:∀(bk:List (Str×Yf)),UC (bk.map dD)=true
 |[]=>rfl
 |q::r=>by
  rw[W3];unfold UC;rw[Ii,Au r];rfl
section
variable {K:Yd}{mg:Yh}{E:L2.St->XK}
noncomputable def FN(i:Nat)(a:PTE):PTS:=λR f=>match f[i]? with
 |some (some<|.own<|.lst h)=>a f (λs=>match s.shd with
  |some (.lst g)=>h.length+g.length<=10000000/\R.nx (f.set i<|some<|.own (h++g))
  |_=>False) (R.ex f)
 |_=>False
def Hk(i:Nat){te a}(T:JZ K mg E te a):Uj K mg E (NC<|tBM K "list" FR (Kl i)<|UE te UY) (FN i a):=by
 intro H0 B H r w R D hB f h e;unfold FN at h;split at h
 ·rename_i ds C;obtain⟨v,A,b,rfl,Q,us,G,y⟩:=f.slot i _ C;refine⟨_,A,.inl ⟨rfl,us,SqL.of G⟩,T H0 B H r w _ _ _ f h (λs u H1 p n M=>?_) λc L N J=>e.ex r w c L N (f.grow J) (Fr.grow J)⟩;have g:=f.grow n;split at p
  ·rename_i es q;obtain⟨a',x,rfl,o,l⟩:=Rp.lst_inv (M.shd g.same f.zm n q);refine⟨b,a',us,x,rfl,rfl,n _ _ G,off_sub _ _ o,by rw[y.len,l.len];exact Wu p.1 (by decide),?_⟩;obtain⟨q,Y⟩:=g.mutate (es:=.lst (ds++es)) (us:=.lst (us++x)) C A trivial λF L SF U=>⟨_,U,Rps.mono SF (Rps.append (Rps.mono (Ul n λ_ _ _ z=>z) y) l)⟩;exact e.nx _ _ _ p.2 q ((Fr.grow n).trans Y)
  ·grind
 ·exact h.elim
end
noncomputable def MM(m:Yf)(k:Int):Int:=1+(k*m.getD 1 0+m.getD 2 0) % 10
noncomputable def Uk(ps:Ye)(os:Yf):Option Str:=if os.isPerm (Uw ps)=true then none else some "BadOrder"
def FL{os ns}(f:ns.Perm os)(g:ns.Pairwise (·<=·)):(ns=Uw ps)↔os.isPerm (Uw ps)=true:=by
 rw[List.isPerm_iff];exact⟨λz=>z▸f.symm,λz=>Oj z f g⟩
noncomputable abbrev d3(k:Str)(a b:Int):D:=.tup [.str k,.int a,.int b]
end Pu
namespace M
open L2 Own Pu
def Rg{o:Yf}(g:Field ps)(h:o.Perm (Uw ps)):∀p∈ps,p.1∈o:=λp f=>h.mem_iff.mpr ((Ea g).mpr (WC.mpr ⟨p,f,rfl⟩))
end M
namespace Pu
open L2 Own
section
variable {K:Yd}{mg:Yh}{E:L2.St->XK}
def D6:List S->(S->Prop)->Prop
 |[s],R=>(match s.d with | .int i=>R (.sh<|.int i) | .bl k=>R (.sh<|.int (if k then 1 else 0))|_=>False)
 |_,_=>False
def Hj(u:Um K mg E n r):JZ K mg E (tCB (λxs H Q=>(∃i,xs=[.int i]/\Q (.int i) H)\/∃k,xs=[.bl k]/\Q (.int (if k then 1 else 0)) H) n) (pCB D6 r):=by
 refine XI u λA H g Z x w R Q p y z l h q=>?_;unfold D6 at h;split at h
 ·rename_i s;obtain⟨v,rfl,o⟩:=l.one_inv;have f:=o.rp p;split at h
  ·rename_i i e;rw[e]at f;exact .inl ⟨i,by rw[f.int_inv],q _ _ g h (Same.refl _) (.int _)⟩
  ·rename_i k e;rw[e]at f;exact .inr ⟨k,by rw[f.bl_inv],q _ _ g h (Same.refl _) (.int _)⟩
  ·grind
 ·exact h.elim
end
structure DI (K:Yd) (x:Str) (st:Stmt):Prop where
 ex:∃f fd,PySem.W.nsIn K mainGlobals x=some (some<|.ref f)/\Fun K x x st f fd
structure MI (K:Yd) (C:Addr) (m q:Str) (st:Stmt):Prop where
 ex:∃f fd,PySem.W.findIn K (.ref C) m=some (some<|.ref f)/\PySem.W.isFn K (.ref f)=true/\Fun K m q st f fd
section
variable {K:Yd}{h:Heap}{mg:Yh}
def di{st f oc q r n kV o p g ct}(a:PySem.W.nsIn K mainGlobals x=some (some<|.ref f))(l:K.lookup f=some ⟨oc,q,.func (PySem.W.fnOf x x (Xs st) (Ut st) (Ua st) .none kV o p r g ct),n⟩)(c:PySem.W.codeIn K g x=true)(k:PySem.W.keepIn K (.ref f)=true):DI K x st:=⟨f,_,a,B5 l c k⟩
def mi{st f oc r s n kV o p g ct}(a:PySem.W.findIn K (.ref C) m=some (some<|.ref f))(i:PySem.W.isFn K (.ref f)=true)(l:K.lookup f=some ⟨oc,r,.func (PySem.W.fnOf m q (Xs st) (Ut st) (Ua st) .none kV o p s g ct),n⟩)(c:PySem.W.codeIn K g q=true)(k:PySem.W.keepIn K (.ref f)=true):MI K C m q st:=⟨f,_,a,i,B5 l c k⟩
def DI.d {st ps} (D:DI K x st) (X:K.In h) (o:h.Ns mainGlobals mg)
  (b:∀kV f l n g ct us,us.length=ps.length->bindArgs (PySem.W.fnOf x x (Xs st) (Ut st) (Ua st) .none kV f l n g ct) ⟨us,[]⟩=pure (ps.zip us)):Def K mg x st ps:=
 let ⟨_,_,a,F⟩:=D.ex
 ⟨_,_,F,W8 X o a,F.binds b⟩
def MI.d {m q st ps} (D:MI K C m q st) (e:o=C)
  (b:∀kV f l n g ct us,us.length=ps.length->bindArgs (PySem.W.fnOf m q (Xs st) (Ut st) (Ua st) .none kV f l n g ct) ⟨us,[]⟩=pure (ps.zip us)):Uv K (UJ K o m) m q st ps:=
 let ⟨_,_,a,i,F⟩:=D.ex
 ⟨_,_,F,by rw[e];exact⟨a,i,F.kp⟩,F.binds b⟩
def MI.i {q st ps} (D:MI K C "__init__" q st) (e:p=C) (mk:PySem.W.makesIn K C=true) (n:PySem.W.keepIn K (.ref C)=true)
  (b:∀kV f l o g ct us,us.length=ps.length->bindArgs (PySem.W.fnOf "__init__" q (Xs st) (Ut st) (Ua st) .none kV f l o g ct) ⟨us,[]⟩=pure (ps.zip us)):Uv K (Mk K p) "__init__" q st ps:=
 let ⟨_,_,a,i,F⟩:=D.ex
 ⟨_,_,F,by rw[e];exact⟨mk,a,i,n⟩,F.binds b⟩
end
def fs{N P f}(q:autoParam (f.kind=.function) au_0)(p:autoParam (f.isCoroutine=false) au_0)(o:autoParam (f.isGenerator=false) au_0)(n:autoParam (N.Nodup) au_5)(l:autoParam (N.take P.length=P) au_0)(h:autoParam (∀x∈P,f.names.lookup x=some .local\/f.names.lookup x=some .cell) au_5)(g:autoParam (∀y∈f.names,y.2≠.free) au_5):Ue N P f:=⟨q,p,o,n,l,h,g⟩
def pz{pos x e te f}(i:Nat)(o:X.N.Nodup)(n:PE X e te)(h:autoParam (X.N[i]?=some x) au_0)(hx:autoParam (Loc X.env.scope x) au_6)(g:autoParam (swapsWith e (some<|.Name x f) pos.line X.env=pure false) au_0)(l:autoParam (X.fn x=true\/X.env.scope.names.lookup x=some .local) au_2) :
  PS X (.Assign [.Name x f] e pos) (ND te<|KP i):=RE o h hx n g l
section
variable {K:Yd}{mg:Yh}{E:L2.St->XK}{H0 H H1 H':Hp}{B Z Z':Addr->Prop}{σ:L2.St}{γ:Γ}
abbrev Pw2:=O->O->List S->(O->O->D->Prop)->(O->O->Str->Prop)->Prop
noncomputable def Zcv(i j:Nat)(c:Pw2)(r:PTA):PTW:=λγ R X=>match γ[i]?,γ[j]? with
 |some (some<|.own o1),some (some<|.own n)=>r γ (λl=>match passes l with|some h=>c o1 n h (λg f d=>R ((γ.set i<|some<|.own g).set j (some<|.own f)) d) (λg f e=>X ((γ.set i<|some<|.own g).set j (some<|.own f)) e)|none=>False) (X γ)
 |_,_=>False
abbrev Pq:=List S->(S->Prop)->(Str->Prop)->Prop
noncomputable def spS(mg:Yh)(c:Pq)(K:Yd):Sp:=λg H Q E=>∃(f:List S) (B:Addr->Prop) (R:S->Prop) (X:Str->Prop),(∀b,B b->Mut (H b))/\TVs K B H H H f g/\(∀s∈f,s.flat)/\c f R X/\
 (∀s v H',R s->Same H H'->TV K B H H H' s v->Q v H')/\∀e H',X e->Same H H'->XE mg E e H'
noncomputable def XZ(N:Ym)(f:List S):Γ:=f.map some++List.replicate (N.length-f.length) none
def Lb{f us}(A:∀b,B b->Mut (H b))(r:TVs K B H H H f us)(u:∀s∈f,s.flat)(J:f.length<=N.length):Ud K H B H (start N us) (XZ N f):=by
 have get:∀i s,(XZ N f)[i]?=some (some s)->f[i]?=some s:=λi s h=>by
  unfold XZ at h;by_cases l:i<f.length
  ·rw[WM (by rw[Wd];exact l),Ws,Wc l]at h;rw[Wc l];exact WJ some (Wm<|Wm h)
  ·grind
 have noown:∀(i:Nat) g,(XZ N f)[i]?≠some (some<|.own g):=λi g h=>u _ (WS<|get i _ h)
 have w:∀b,zof B (XZ N f) (start N us) b->B b:=λb z=>by
  rcases z with z|⟨i,g,Q,n,M,L⟩
  ·exact z
  ·exact absurd n (noown i g)
 refine⟨Same.refl _,?_,A,λi j x G g C b n _ _ _ _ _=>absurd n (noown i g),λi s h=>?_⟩
 ·unfold L2.start XZ;simp[r.len]
 ·have q:=get i s h;obtain⟨v,p,o⟩:=r.get q;refine⟨v,?_,?_⟩
  ·unfold L2.start;rw[WM (by rw[Wd];exact(WL.mp p).1),Ws,p];rfl
  ·have:=u s (WS q)
   cases s with
   |bor d=>exact o
   |sh d=>exact Rp.mono (Ul (Same.refl _) λb _ _ z y=>z (w b y)) o
   |_=>exact this.elim
def Zck{t p vs Q A n}(h:spS mg c K vs H Q A)(q:Uj K mg (λ_=>A) t p)(T:n<=N.length)(u:∀f R X,c f R X->f.length=n/\p {nx:=λ_=>R (.sh .non),rt:=R,ex:=λ_ e=>X e} (XZ N f)):t {nx:=λ_ H'=>Q .non H',rt:=Q} (start N vs) H:=by
 obtain⟨f,B,R,X,y,r,G,J,x,L⟩:=h;obtain⟨e,u⟩:=u f R X J;exact q H B H _ _ _ _ (λb z=>KG (y b z)) (Lb y r G<|by lia) u ⟨λl o H' g w f1=>x _ _ H' g w.same .non,λs v H' g M C=>x s v H' g M C,λl o c H' g w f1=>L c H' g w.same,λ_ _ _ z=>z.elim,λ_ _ _ z=>z.elim,λ_ _ _ _ _ z=>z.elim⟩
def Zcm(h:spS mg c K vs H Q o)(g:∀f R X,c f R X->f.length=n):vs.length=n:=by
 obtain⟨f,B,R,X,_,r,_,l,_⟩:=h;rw[r.len]
 grind
def TV.backS (env:Ud K H0 B H1 σ γ) (o:Same H H1) (f:Same H1 H') (h:TV K (zof B γ σ) H1 H1 H' s v):TV K (zof B γ σ) H0 H H' s.back v:=by
 cases s with
 |bor d=>exact X3 (λb z=>XM f (env.zm b z)) (Rp.mono f h)
 |own n=>
  obtain⟨a,rfl,l,r⟩:=h;exact⟨a,rfl,(λb g=>o.free (l b g)),r⟩
 |view n=>
  obtain⟨a,rfl,r⟩:=h;exact r.rp off_sub
 |_=>exact h
def TV.passS {v} (env:Ud K H0 B H1 σ γ) (g:∀b,zof B γ σ b->Mut (H b)) (n:Same H H1) (h:TV K (zof B γ σ) H0 H H1 s v) (e:s.pass=some f):TV K (zof B γ σ) H1 H1 H1 f v:=by
 have shd:∀d,s.shd=some d->Rp K (off (zof B γ σ) H1) d v:=λd l=>h.shd env.same g n l;cases s with
 |view o=>cases e
 |tmp d=>
  unfold S.pass at e;cases q:imm d with
  |false=>simp_all
  |true=>simp[q]at e;subst e;exact shd d (by unfold S.shd;simp[q])
 |bor d=>
  unfold S.pass at e;cases q:imm d with
  |false=>simp[q]at e;subst e;exact Rp.mono env.same h
  |true=>simp[q]at e;subst e;exact shd d (by unfold S.shd;simp[q])
 |_=>cases e;exact shd _ rfl
theorem TVs.passS (env:Ud K H0 B H1 σ γ) (l:∀b,zof B γ σ b->Mut (H b)) (n:Same H H1):∀{g f}{vs:List V},TVs K (zof B γ σ) H0 H H1 g vs->passes g=some f->TVs K (zof B γ σ) H1 H1 H1 f vs
 |_,_,_,.nil,e=>by cases e;exact .nil
 |_,_,_,.cons h r,e=>by
  unfold passes at e;split at e
  ·rename_i q s p o;cases e
   exact .cons (h.passS env l n p) (TVs.passS env l n r o)
  ·grind
noncomputable def Mb(c:Pq)(r:PTA):PTE:=λγ R X=>r γ (λg=>match passes g with|some f=>c f (λs=>R s.back) (λ_=>False)|none=>False) X
def Rw{n r}(G:Um K mg E n r):JZ K mg E (Px (spS mg c K) [] E0 n) (Mb c r):=by
 intro H0 B H σ γ R X Q g p q A;refine G H0 B H σ γ _ X _ g p (λL J H1 o h y=>?_) A;rw[WE];have f:=g.grow h;split at o
 ·rename_i l u;exact⟨l,zof B γ σ,_,_,f.zm,y.passS f g.zm h u,SR u,o,λs v H' C w x=>q _ _ H' C (h.trans w) (x.backS f h w),λ_ _ z=>z.elim⟩
 ·grind
end
end Pu
namespace M
open L2 Own Pu
noncomputable def ltS(k:Int):Ye->Int
 |[]=>0
 |q::l=>(if q.1<k then q.2 else 0)+ltS k l
noncomputable def Kn:Ye->Int
 |[]=>0
 |p::l=>ltS p.1 l*p.2+Kn l
theorem Gu(k:Int)(a b:Int×Int)(B:Ye):∀A,ltS k (A++a::b::B)=ltS k (A++b::a::B)
 |[]=>by simp only[List.nil_append,ltS];lia
 |q::A=>by simp only[Vz,ltS];rw[Gu k a b B A]
theorem DN(a b:Int×Int)(B:Ye):∀A,Kn (A++a::b::B)+(if a.1<b.1 then a.2*b.2 else 0)=Kn (A++b::a::B)+(if b.1<a.1 then a.2*b.2 else 0)
 |[]=>by
  simp only[List.nil_append,Kn,ltS];by_cases f:a.1<b.1
  ·grind
  ·grind
 |q::A=>by
  simp only[Vz,Kn];rw[Gu q.1 a b B A]
  have:=DN a b B A
  lia
noncomputable def hdN(ps:Ye)(m:Int):Int:=(ps.getD (m-1).toNat (0,0)).1
def GQ{p}(o:1<=p)(g:p<ns.length):∃A x y B,ns=A++x::y::B/\A.length+1=p/\Xd ns p=A++y::x::B/\ns.getD (p-1) 0=x/\ns.getD p 0=y:=by
 have f:ns.drop (p-1)=ns[p-1]'(by lia)::ns.drop (p-1+1):=WO (by lia);have n:p-1+1=p:=by lia
 rw[n,(WO g)]at f;have l:ns.getD p 0=ns[p]:=by rw[Wj,Wc g];rfl
 have h:ns.getD (p-1) 0=ns[p-1]'(by lia):=by grind
 refine⟨ns.take (p-1),ns[p-1]'(by lia),ns[p],ns.drop (p+1),by rw[←f,List.take_append_drop],by rw[Qj];lia,?_,h,l⟩;unfold Xd;rw[l,h];simp
def Om{p}(g:1<=p)(f:p<ns.length):(Xd ns p).length=ns.length:=(Aw g f).length_eq
noncomputable def rkN(ps:Ye)(o:Yf)(m:Int):Int:=(o.idxOf (hdN ps m):Nat)
def FW(f:Yf)(p:Nat):Prop:=(∀q,1<=q->q<(if p=0 then f.length else p)->f.getD (q-1) 0<=f.getD q 0)/\(p=0\/(1<=p/\p<f.length/\f.getD p 0<f.getD (p-1) 0))
abbrev Mo:=Int×Int×Int×Int
inductive Mv (ps:Ye) (f:Int->Int):Yf->List Mo->Prop
 |done (ns:Yf):FW (ns.map f) 0->Mv ps f ns []
 |step (ns:Yf) (p:Nat) (ms:List Mo):FW (ns.map f) p->p≠0->Mv ps f (Xd ns p) ms->Mv ps f ns (((p:Int),ns.getD (p-1) 0,ns.getD p 0,exM ps ns p)::ms)
def Bu{f:Int->Int}{ns:Yf}{i}(h:i<ns.length):(ns.map f).getD i 0=f (ns.getD i 0):=by grind
noncomputable def Xh(f:Int->Int)(ns:Yf):Int:=Kn (ns.map λm=>(f m,1))
def Lo(f:Int->Int){ns p}(l:1<=p)(g:p<ns.length)(h:f (ns.getD p 0)<f (ns.getD (p-1) 0)):Xh f ns=Xh f (Xd ns p)+1:=by
 obtain⟨A,x,y,B,e,_,o,n,ey⟩:=GQ l g;rw[n,ey]at h;rw[o,e];unfold Xh;rw[W5,W3,W3,W5,W3,W3];have k:=DN (f x,1) (f y,1) (B.map λm=>(f m,1)) (A.map λm=>(f m,1));lia
theorem FX(f:Int->Int)(k:Int):∀l:Yf,0<=ltS k (l.map λm=>(f m,1))/\ltS k (l.map λm=>(f m,1))<=l.length
 |[]=>⟨WZ 0,WZ 0⟩
 |m::l=>by
  have:=FX f k l
  rw[W3,WG];unfold ltS;lia
theorem Nv(f:Int->Int):∀l,0<=Xh f l/\Xh f l<=(l.length:Int)*l.length
 |[]=>⟨WZ 0,WZ 0⟩
 |m::l=>by
  have g:=Nv f l;have h:=FX f (f m) l;unfold Xh at g ⊢;rw[W3,WG];unfold Kn
  grind
noncomputable def toI:D->Int
 | .int i=>i
 |_=>0
noncomputable def mvN(f:List (Option Pu.S)):Nat:=match f[2]?,f[3]? with
 |some (some<|Pu.S.own<|Pu.O.lst g),some (some<|Pu.S.own<|Pu.O.lst h)=>(Xh (λm=>(g.map toI).getD (m-1).toNat 0)<|h.map toI).toNat
 |_,_=>0
def BW(xs:Yf):(xs.map D.int).map toI=xs:=by
 rw[WY];exact List.map_id _
end M
namespace Pu
open L2 Own M
noncomputable abbrev mvD(m:Mo):D:=.tup [.int m.1,.int m.2.1,.int m.2.2.1,.int m.2.2.2]
end Pu
namespace Pu
open L2 Own
section
variable {X:Cx}{k j:Nat}{x:Str}{ps:Ym}{sp:Sp}{e a b c:Expr}{es:Yn}{t:TA}{te tf tg:TE}{p pos:Pos}
def fz(C:Callee X.prog X.w X.K X.mg X.base CX0 k x ps sp)(h:Uh j X.A)(q:PA X (e::es) t)(l:autoParam (k<=j) au_1)(n:autoParam (Gl X x) au_0)(g:autoParam ((x==("__debug__" : Str))=false) au_1)(o:autoParam (starEach (e::es) X.env=(false,eval e X.env)::starEach es X.env) au_0)(f:autoParam ((backTo pos<|starEach es X.env).any (·.1)=false) au_0) :
  PE X (.Call (.Name x p) (e::es) [] pos) (Px sp [] E0 t):=AK C (h.mono l) KB q n g o f
def jx(K:Yd)(h:PE X a te)(g:PE X b tf)(l:autoParam (X.K=K) au_0)(f:autoParam (SS b) au_7):PE X (.Subscript a b pos) (tOp (λx y H Q=>Th K x y H Q\/P6 K x y H Q) te tf):=TZ (OS l) h g f
def ln(K:Yd)(h:X.mg "len"=none)(o:PE X a te)(q:autoParam (X.K=K) au_0)(l:autoParam (Gl X "len") au_0)(g:autoParam (starEach [a] X.env=(false,eval a X.env)::starEach [] X.env) au_0)(f:autoParam ((backTo pos<|starEach [] X.env).any (·.1)=false) au_0) :
  PE X (.Call (.Name "len" p) [a] [] pos) (tCB (λxs H Q=>∃x n,xs=[x]/\Nc K x H n/\Q (.int (n:Nat)) H)<|UE te UY):=U0 (Lh q) l h PySem.boot_len (UX o UA g) (by decide) rfl g f
def cq(K:Yd)(f:Uh j X.A)(h:PE X a te)(g:PE X b tf)(l:autoParam (X.K=K) au_0):PT X (.Compare a [.Eq] [b] pos) (N3<|tOp (λx y H Q=>rEq x y H Q\/X8 K false x y H Q) te tf):=KY (Bl f.units0 l) h g (XT _)
def cn(K:Yd)(f:Uh j X.A)(h:PE X a te)(g:PE X b tf)(l:autoParam (X.K=K) au_0):PT X (.Compare a [.NotEq] [b] pos) (N3<|tOp (λx y H Q=>rNe x y H Q\/X8 K true x y H Q) te tf):=KY (Za9 f.units0 l) h g (XT _)
def az(f:PE X a te)(g:autoParam (starEach [a] X.env=(false,eval a X.env)::starEach [] X.env) au_0):PA X [a] (UE te UY):=UX f UA g
def bz(g:PE X a te)(f:PE X b tf)(l:autoParam (starEach [a,b] X.env=(false,eval a X.env)::starEach [b] X.env) au_0)(h:autoParam (starEach [b] X.env=(false,eval b X.env)::starEach [] X.env) au_0):PA X [a,b] (UE te<|UE tf UY):=UX g (UX f UA h) l
def dz(h:PE X a te)(g:PE X b tf)(f:PE X c tg)(o:autoParam (starEach [a,b,c] X.env=(false,eval a X.env)::starEach [b,c] X.env) au_0)(n:autoParam (starEach [b,c] X.env=(false,eval b X.env)::starEach [c] X.env) au_0)(l:autoParam (starEach [c] X.env=(false,eval c X.env)::starEach [] X.env) au_0):PA X [a,b,c] (UE te<|UE tf<|UE tg UY):=UX h (UX g (UX f UA l) n) o
end
section
variable {K:Yd}{mg:Yh}{E:L2.St->XK}{ta tb tc:TE}{a b c:PTE}
def sz(f:JZ K mg E ta a):Um K mg E (UE ta UY) (Xb a XO):=N9 f Xl
def tz(g:JZ K mg E ta a)(f:JZ K mg E tb b):Um K mg E (UE ta<|UE tb UY) (Xb a<|Xb b XO):=N9 g (sz f)
def uz(h:JZ K mg E ta a)(g:JZ K mg E tb b)(f:JZ K mg E tc c):Um K mg E (UE ta<|UE tb<|UE tc UY) (Xb a<|Xb b<|Xb c XO):=N9 h (tz g f)
end
section
variable {K:Yd}{h:Heap}{mg:Yh}{C C':Addr}{x m q:Str}{st:Stmt}{ps:Ym}
abbrev Bd(x q:Str)(st:Stmt)(ps:Ym):Prop:=∀(kV g n:Value) (p:Yq) (l o:Value) (f:Yl),f.length=ps.length->bindArgs (PySem.W.fnOf x q (Xs st) (Ut st) (Ua st) .none kV g n p l o) ⟨f,[]⟩=pure (ps.zip f)
def DI.e (D:DI K x st) (X:K.In h) (g:h.Ns mainGlobals mg) (b:Bd x x st ps:=by
  intro _ _ _ _ _ _ us f
  first
   |(obtain⟨_,rfl⟩:=Pu.Tg f;rfl)
   |(obtain⟨_,_,rfl⟩:=Pu.Nf f;rfl)
   |(obtain⟨_,_,_,rfl⟩:=Pu.T3 f;rfl)
   |(obtain⟨_,_,_,_,rfl⟩:=Pu.NK f;rfl)
   |(obtain⟨_,_,_,_,_,rfl⟩:=Pu.LK f;rfl)):Def K mg x st ps:=D.d X g b
def MI.e (D:MI K C m q st) (e:C'=C) (b:Bd m q st ps:=by
  intro _ _ _ _ _ _ us f
  first
   |(obtain⟨_,rfl⟩:=Pu.Tg f;rfl)
   |(obtain⟨_,_,rfl⟩:=Pu.Nf f;rfl)
   |(obtain⟨_,_,_,rfl⟩:=Pu.T3 f;rfl)
   |(obtain⟨_,_,_,_,rfl⟩:=Pu.NK f;rfl)):Uv K (UJ K C' m) m q st ps:=D.d e b
def MI.j (D:MI K C "__init__" q st) (e:C'=C) (mk:PySem.W.makesIn K C=true) (g:PySem.W.keepIn K (.ref C)=true) (b:Bd "__init__" q st ps:=by
  intro _ _ _ _ _ _ us f
  first
   |(obtain⟨_,rfl⟩:=Pu.Tg f;rfl)
   |(obtain⟨_,_,rfl⟩:=Pu.Nf f;rfl)
   |(obtain⟨_,_,_,rfl⟩:=Pu.T3 f;rfl)):Uv K (Mk K C') "__init__" q st ps:=D.i e mk g b
end
section
variable {P:Program}{w:World}{K:Yd}{mg:Yh}{base:Heap}{N ps:Ym}{sp:Sp}{p:PTS}{x q:Str}{st:Stmt}{k:Nat}{W:Addr->Prop}
structure Uz (K:Yd) (mg:Yh) (N ps:Ym) (sp:Sp) (p:PTS):Prop where
 len:∀vs H Q E,sp vs H Q E->vs.length=ps.length
 run:∀vs H Q E t,sp vs H Q E->Uj K mg (λ_=>E) t p->t {nx:=λ_ H'=>Q .non H',rt:=Q} (start N vs) H
def Uz.a (f:∀ds R X,c ds R X->ds.length=ps.length/\p {nx:=λ_=>R (.sh .non),rt:=R,ex:=λ_ e=>X e} (Ke N ds)) (g:autoParam (ps.length<=N.length) au_1):Uz K mg N ps (Ui mg c K) p:=
 ⟨λ_ _ _ _ h=>Zcb h λds R X z=>(f ds R X z).1,λ_ _ _ _ _ h s=>Zan h s g f⟩
def Uz.b (g:∀f R X,c f R X->f.length=ps.length/\p {nx:=λ_=>R (.sh .non),rt:=R,ex:=λ_ e=>X e} (XZ N f)) (l:autoParam (ps.length<=N.length) au_1):Uz K mg N ps (spS mg c K) p:=
 ⟨λ_ _ _ _ h=>Zcm h λn R X z=>(g n R X z).1,λ_ _ _ _ _ h s=>Zck h s l g⟩
def Uz.c {c y} (g:∀o f R X,c o f R X->f.length=ps.length/\p (Gh o R X) (Ki N o f)) (l:autoParam (ps.length+1<=N.length) au_1):Uz K mg N (y::ps) (spW mg c K) p:=
 ⟨λ_ _ _ _ h=>R3 h λo n R X z=>(g o n R X z).1,λ_ _ _ _ _ h s=>R5 h s l g⟩
def _root_.Own.Def.oz (D:Def K mg x st ps) (S:Ue N ps (Ua st))
  (l:∀f g A outer s H E,Uh k (A.deeper<|envOfC x (Ua st) s.heap.objs.size f g)->
   ∃t,PSs (Uu CX0 P w K mg base N x (Ua st) f g A outer s H E).nox (Ut st) t/\Uj K mg (λ_=>E) t p) (u:Uz K mg N ps sp p):Callee P w K mg base CX0 (k+1) x ps sp:=
 D.ok S u.len λf g A outer s H o Q E n h=>(l f g A outer s H E n).elim λt z=>⟨t,z.1,u.run _ _ _ _ _ h z.2⟩
def _root_.Own.Def.ox (D:Def K mg x st ps) (S:Ue N ps (Ua st))
  (l:∀f g A outer s H E,Uh k (A.deeper<|envOfC x (Ua st) s.heap.objs.size f g)->
   ∃t,PSs (Uu (ExcR.CXe P w) P w K mg base N x (Ua st) f g A outer s H E) (Ut st) t/\Uj K mg (λ_=>E) t p) (u:Uz K mg N ps sp p):Callee P w K mg base (ExcR.CXe P w) (k+1) x ps sp:=
 ExcR.Def.okX D S u.len λf g A outer s H o Q E n h=>(l f g A outer s H E n).elim λt z=>⟨t,z.1,u.run _ _ _ _ _ h z.2⟩
def Uv.oz (D:Uv K W x q st ps) (S:Ue N ps (Ua st))
  (l:∀f g A outer s H E,Uh k (A.deeper<|envOfC q (Ua st) s.heap.objs.size f g)->
   ∃t,PSs (Uu CX0 P w K mg base N q (Ua st) f g A outer s H E).nox (Ut st) t/\Uj K mg (λ_=>E) t p) (u:Uz K mg N ps sp p):Xo P w K mg base CX0 (k+1) W ps sp:=
 D.ok S u.len λf g A outer s H o Q E n h=>(l f g A outer s H E n).elim λt z=>⟨t,z.1,u.run _ _ _ _ _ h z.2⟩
def Uv.ox (D:Uv K W x q st ps) (S:Ue N ps (Ua st))
  (l:∀f g A outer s H E,Uh k (A.deeper<|envOfC q (Ua st) s.heap.objs.size f g)->
   ∃t,PSs (Uu (ExcR.CXe P w) P w K mg base N q (Ua st) f g A outer s H E) (Ut st) t/\Uj K mg (λ_=>E) t p) (u:Uz K mg N ps sp p):Xo P w K mg base (ExcR.CXe P w) (k+1) W ps sp:=
 D.okX S u.len λf g A outer s H o Q E n h=>(l f g A outer s H E n).elim λt z=>⟨t,z.1,u.run _ _ _ _ _ h z.2⟩
end
section
variable {K:Yd}{h:Heap}{mg:Yh}{x:Str}{C:Addr}
structure EI (K:Yd) (x:Str) (C:Addr):Prop where
 a:PySem.W.nsIn K mainGlobals x=some (some<|.ref C)
 g:ExcR.Ux K C
def ei(a:PySem.W.nsIn K mainGlobals x=some (some<|.ref C))(q:PySem.W.excIn K C [.type "ValueError",.type "Exception",.type "BaseException",.type "object"] "ValueError.__new__"=true)(g:PySem.W.findIn K (.ref C) "__getattribute__"=some (some<|.builtin "BaseException.__getattribute__"))(f:PySem.W.findIn K (.ref C) "__getattr__"=some none)(l:PySem.W.findIn K (.ref C) "__class__"=some (some<|.builtin "object.__class__"))(i:PySem.W.clsIn K C=some d):EI K x C:=⟨a,⟨⟨q⟩,g,f,l,by rw[i];rfl⟩⟩
def EI.c (y:EI K x C) (X:K.In h) (f:h.Ns mainGlobals mg):ExcR.Uc mg x=C:=ExcR.SE (W8 X f y.a)
def EI.m (y:EI K x C) (X:K.In h) (f:h.Ns mainGlobals mg):mg x=some (.ref<|ExcR.Uc mg x):=by rw[y.c X f];exact W8 X f y.a
def EI.k (y:EI K x C) (X:K.In h) (f:h.Ns mainGlobals mg):ExcR.Ux K (ExcR.Uc mg x):=by rw[y.c X f];exact y.g
end
theorem NoFld.of:∀{xs:Ym},(xs.all λx=>!(m==x))=true->NoFld m xs
 |[],_,_|_::_,_,[]=>rfl
 |x::xs,h,v::f=>by
  rw[QZ,W2]at h;show(match m==x with|true=>some v|false=>(xs.zip f).lookup m)=none
  rw[show(m==x)=false by simpa using h.1];exact NoFld.of h.2 f
theorem FldAt.of (n:(f==f)=true):∀{xs}{j:Nat},((xs.take j).all λx=>!(f==x))=true->xs[j]?=some f->FldAt f xs j
 |[],_,_,e,_,_=>by simp at e
 |_::_,_,_,_,[],e=>rfl
 |x::xs,0,_,e,v::g,_=>by
  simp_all
 |x::xs,j+1,h,e,v::g,l=>by
  rw[List.take_succ_cons,QZ,W2]at h;show(match f==x with|true=>some v|false=>(xs.zip g).lookup f)=(v::g)[j+1]?
  rw[show(f==x)=false by simpa using h.1];exact FldAt.of n h.2 (by grind) g (by grind)
theorem PutAt.of:∀{xs:Ym},(xs.all λx=>decide (x≠f))=true->PutAt f xs
 |[],_,[],_,_=>rfl
 |[],_,_::_,_,e|_::_,_,[],_,e=>by cases e
 |x::xs,h,v::g,y,e=>by
  rw[QZ,W2]at h;show(if x=f then(x,y)::xs.zip g else(x,v)::UP f y (xs.zip g))=(x,v)::(xs++[f]).zip (g++[y]);rw[Wl (Wx h.1),PutAt.of h.2 g y (by grind)]
end Pu
namespace ExcR
open L2
section
variable {X:Cx}{pins:Yg}{σ:L2.St}{H:Hp}{s:Shared}{a b:Addr}
noncomputable def er(H:Hp)(a:Addr):Hp:=λb=>if b=a then none else H b
end
end ExcR
namespace M
open L2 Own Pu
noncomputable def pcc(ps:Ye):Int->Int->Int:=λx y=>pcM ps x y ps.length
end M
namespace ExcR
open L2
noncomputable def hxL(K:Yd):List (Addr×Option Nat×TS)->Ends->L2.St->XK
 |[],_=>λ_ _ _ _=>False
 |(n,l,g)::r,D=>λf c h H=>∃C b,c=.ref C/\PySem.W.exmOne K (.ref C) (.ref n)=some b/\
  if b=true then(match l with
   |some i=>∀a,H a=none->g (AQ i D) (f.set i<|some<|.ref a) (upd H a<|UH a C h)
   |none=>g D f H)else hxL K r D f c h H
section
variable {X:Cx}{pins pins1:Yg}{σ:L2.St}{H H':Hp}{s s':Shared}{h3:Heap}{a T C C0:Addr}{dx:Yq}{fl:Value}{D:Ends}{hs:List ExceptHandler}{L:List (Addr×Option Nat×TS)}
structure Pre (X:Cx) (pins:Yg) (σ:L2.St) (H H':Hp) (s s':Shared) (h3:Heap) (a T C:Addr) (dx:Yq) (fl:Value):Prop where
 I:Inv X pins σ H s
 os:s'.os=s.os
 bare:AllBare s'.gens
 na:s.heap.get? a=none
 nT:s.heap.get? T=none
 fa:H' a=none
 fT:H' T=none
 tr:Trc h3 a T (.ref C,dx) fl
 u:Un (frs X.stack) [] H H' s.heap h3
 ok:HOk X.prog X.w H' h3
def Pre.inv (p:Pre X pins σ H H' s s' h3 a T C dx fl):Inv X pins σ H' {s' with heap:=h3}:=p.I.call' p.os p.u p.ok p.bare λb z=>absurd z (by simp)
def PH(X:Cx)(hs:List ExceptHandler)(L:List (Addr×Option Nat×TS)):Prop:=∀(pins:Yg) (σ:L2.St) (H H':Hp) (s s':Shared) (h3:Heap) (a T C:Addr) (dx:Yq) (fl:Value) (D:Ends),
 Pre X pins σ H H' s s' h3 a T C dx fl->hxL X.K L D σ (.ref C) dx H'->wpAny (model X.prog X.w) X.A (handleBy (.ref a) X.env hs) (SP X pins D) X.xe {s' with heap:=h3}
def HS:PH X [] []:=λ_ _ _ _ _ _ _ _ _ _ _ _ _ _ h=>h.elim
section
variable {x n:Str}{np hpos:Pos}{b0:Stmt}{suite:Yo}{i:Nat}{ts:TS}
def Zbz(hN:X.N.Nodup)(hi:X.N[i]?=some n)(G:X.env.scope.names.lookup n=some .local)(hg:Gl X x)(hm:X.mg x=some (.ref C0))(hdb:(x==("__debug__" : Str))=false)(Y:∀a,PSs (Xc X a) (b0::suite) ts)(hr:PH X hs L):PH X (.ExceptHandler (some<|.Name x np) (some n) (b0::suite) hpos::hs) ((C0,some i,ts)::L):=by
 rintro pins σ H H' s s' h3 a T C dx fl D p ⟨C',b,ec,em,q⟩;obtain rfl:=Value.ref.inj ec;have J3:=p.inv;have S3:Inv (Xc X a) pins σ H' {s' with heap:=h3}:=Pp J3
 refine Vp (Vf<|Kb S3 hg hm ?_ hdb) (by intro z;cases z);obtain⟨_,⟨oe,vs,g1,g2,g3,g4⟩,_⟩:=id p.tr;refine(PySem.W.exm_one J3.kIn ((show oe.cls=Value.ref C from WJ Prod.fst g2)▸(Vc g1).andThen .now) em).here ?_
 cases b with
 |false=>exact hr pins σ H H' s s' h3 a T C dx fl D p q
 |true=>
 refine codeAny_handlers_suite_as (KA p.tr λJ M k4=>?_);have h:=Kp p.u (k4.mono (by simp) λ_ z=>z) λb r=>by rw[Wf.mp r];exact p.nT
 have u5:Un (frs X.stack) [] H (upd H' a<|UH a C dx) s.heap J:=by
  have ne:∀b o,s.heap.get? b=some o->b≠a:=λb o z w=>by rw[w,p.na]at z;cases z
  have l:∀b o,H' b=some o->b≠a:=λb o z w=>by rw[w,p.fa]at z;cases z
  refine⟨h.keep,h.slot,λb o z n m=>by rw[Ug (ne b o z)];exact h.free b o z n m,h.there,λb xs z=>?_,λb o u z=>?_,λb ps z=>?_⟩
  ·rw[Ug (l b _<|h.tups b xs z)];exact h.tups b xs z
  ·rw[Ug (l b _<|h.frzs b o u z)];exact h.frzs b o u z
  ·obtain⟨more,z1⟩:=h.tbls b ps z;exact⟨more,by rw[Ug (l b _ z1)];exact z1⟩
 have U:HOk X.prog X.w (upd H' a<|UH a C dx) J:=λb ob e=>by
  by_cases r:b=a
  ·subst r;rw[Ur]at e;cases e
   exact D4 M
  ·rw[Ug r]at e;refine((XS p.ok k4 (by simp) λb r=>by rw[Wf.mp r];exact p.fT) b ob e).stay (λ_ _ _ z=>z) (λc z=>?_) λc xs z=>?_
   ·rw[Ug λw=>by rw[w,p.fa]at z;cases z];exact z
   ·rw[Ug λw=>by rw[w,p.fa]at z;cases z];exact z
 have J5:Inv X pins σ (upd H' a<|UH a C dx) {s' with heap:=J}:=p.I.call' p.os u5 U p.bare λb z=>absurd z (by simp)
 have S5:Inv (Xc X a) pins σ (upd H' a<|UH a C dx) {s' with heap:=J}:=Pp J5
 refine Ph (X:=Xc X a) S5 hN hi (.inl G) (v:=.ref a) rfl (λs6 S6=>?_) (.inr G);refine WA (Y a pins s6 _ _ _ S6<|q a p.fa) (λf s7 h7=>?_) λ_ _ z=>z.elim
 have gone:∀{g:L2.St} {B:Hp} {R:Unit->Shared->Prop},Inv (Xc X a) pins g B s7->(∀E,Inv X pins (g.set i none) B E->R () E)->wpAny (model X.prog X.w) X.A (do bindName X.env n .none;unbindBehindTheSuite X.env n hpos) R X.xe s7:=λ{g B R} y hR=>by
  obtain⟨m,hn,hl⟩:=id y.loc;exact wpAny_nameGoes_keeps G hn (by rw[show X.env.scope.kind=.function from J5.ok.kind];rfl) λh8 v hn8 hs8=>hR _ (AO (Nw J5.ok y) hN hi G hl hn hn8 hs8)
 cases f with
 |ret u=>obtain⟨v,g,B,y,rv,Q⟩:=h7;exact gone y λE I8=>⟨v,_,_,I8,rv,Q⟩
 |_=>obtain⟨g,B,y,Q⟩:=h7;exact gone y λE I8=>⟨_,_,I8,Q⟩
def Xe(U:Gl X x)(Q:X.mg x=some (.ref C0))(o:(x==("__debug__" : Str))=false)(l:∀a,PSs (Xc X a) (b0::suite) ts)(N:PH X hs L):PH X (.ExceptHandler (some<|.Name x np) none (b0::suite) hpos::hs) ((C0,none,ts)::L):=by
 rintro pins σ H H' s s' h3 a T C dx fl D p ⟨C',b,ec,em,q⟩;obtain rfl:=Value.ref.inj ec;have E:=p.inv;have S3:Inv (Xc X a) pins σ H' {s' with heap:=h3}:=Pp E
 refine Vp (Vf<|Kb S3 U Q ?_ o) (by intro z;cases z);obtain⟨_,⟨M,vs,g1,g2,g3,g4⟩,_⟩:=id p.tr;refine(PySem.W.exm_one E.kIn ((show M.cls=Value.ref C from WJ Prod.fst g2)▸(Vc g1).andThen .now) em).here ?_
 cases b with
 |false=>exact N pins σ H H' s s' h3 a T C dx fl D p q
 |true=>
 refine codeAny_handlers_suite (KA p.tr λY G A=>?_);have y:Inv X pins σ H' {s' with heap:=Y}:=p.I.call' p.os (Kp p.u (A.mono (by simp) λ_ z=>z) λb r=>by rw[Wf.mp r];exact p.nT) (XS p.ok A (by simp) λb r=>by rw[Wf.mp r];exact p.fT) p.bare λb z=>absurd z (by simp)
 refine WA (l a pins _ _ _ _ (Pp y) q) (λf s7 B=>?_) λ_ _ z=>z.elim;cases f with
 |ret u=>obtain⟨v,g,H7,w,J,h⟩:=B;exact⟨v,_,_,Nw y.ok w,J,h⟩
 |_=>obtain⟨g,H7,w,h⟩:=B;exact⟨_,_,Nw y.ok w,h⟩
end
noncomputable def Tf(X:Cx)(pins:Yg)(D:Ends)(hs:List ExceptHandler):Cx:=
 {X with pn:=X.pn++pins,xe:=λe h=>wpAny (model X.prog X.w) X.A (noteFrame e X.env) (λ_ g=>wpAny (model X.prog X.w) X.A (setFlight e none) (λ_ f=>wpAny (model X.prog X.w) X.A (handleBy e X.env hs) (SP X pins D) X.xe f) X.xe g) X.xe h}
def Hz(I:Inv X pins σ H s):Inv (Tf X pins D hs) [] σ H s:=⟨⟨I.ok.mod,I.ok.kind,I.ok.glob,I.ok.blt,I.ok.above,I.ok.inj,I.ok.has,I.ok.cab,I.ok.hd,I.ok.frames,I.ok.stk,I.ok.exf,I.ok.bs,I.ok.bsz,I.ok.noex,I.ok.exfs,I.ok.funs,I.ok.frf⟩,I.os,I.bare,I.base,I.loc,I.cell,I.free,I.freeC,λp f=>I.pin p (by simpa [Tf]using f),I.hok,I.len⟩
def Nr(I:Inv (Tf X pins D hs) pins1 σ H s):Inv X pins σ H s:=⟨⟨I.ok.mod,I.ok.kind,I.ok.glob,I.ok.blt,I.ok.above,I.ok.inj,I.ok.has,I.ok.cab,I.ok.hd,I.ok.frames,I.ok.stk,I.ok.exf,I.ok.bs,I.ok.bsz,I.ok.noex,I.ok.exfs,I.ok.funs,I.ok.frf⟩,I.os,I.bare,I.base,I.loc,I.cell,I.free,I.freeC,λp f=>I.pin p (Qe _ f),I.hok,I.len⟩
def Me(h:X.stack=X.env::X.outer)(x:X.env.frame=some X.env.locals)(Q:PH X hs L):Tw (CXe X.prog X.w) (Tf X pins D hs) (hxL X.K L D):=by
 rintro pins1 σ H s e s' I ⟨a,T,C,dx,H',rfl,y,q⟩;have I:=Nr I;have J:=I.call' y.os y.un y.hok y.bare λb z=>absurd z (by simp);have E:=J.stack;have G:=J.ok.frames;rw[h]at E G;refine Bf G E x y.tr λU p l u B=>?_
 have g:s.heap.get? p=none:=by
  cases z:s.heap.get? p with
  |none=>rfl
  |some o=>
   obtain⟨o1,M⟩:=y.un.there p o z (by simp);exact absurd (Wh M) (QS.mpr l)
 have n:=y.hok.fresh l
 have N:Un (frs X.stack) [] H H' s.heap U:=Kp y.un (by rw[h];exact B) λb f=>by
  rcases Wo.mp f with rfl|f
  ·exact y.na
  ·rw[Wf.mp f];exact y.nT
 have v:=XS y.hok B (λb f=>J.stkFree b (by grind)) λb f=>by
  rcases Wo.mp f with rfl|f
  ·exact y.fa
  ·rw[Wf.mp f];exact y.fT
 refine KA u λh3 r A=>?_;exact Q pins σ H H' s s' h3 a p C dx _ D ⟨I,y.os,y.bare,y.na,g,y.fa,n,r,Kp N (A.mono (by simp) λ_ z=>z) λb f=>by rw[Wf.mp f];exact g,XS v A (by simp) λb f=>by rw[Wf.mp f];exact n⟩ q
def O7{n:Ends->TS}(o:∀pins D,PSs (Tf X pins D (p::hs)) body (n D)):PS X (.Try body (p::hs) [] [] pos) (λD σ H=>n D D σ H):=by
 intro pins s σ H D I h;refine wpAny_Try_except (WA (o pins D [] s σ H D (Hz I) h) (λf w l=>?_) λ_ _ z=>z);cases f with
 |next=>
  obtain⟨g,H',J,q⟩:=l;exact Wg ⟨g,H',Nr J,q⟩
 |ret u=>obtain⟨v,g,H',J,r,q⟩:=l;exact⟨v,g,H',Nr J,r,q⟩
 |_=>obtain⟨g,H',J,q⟩:=l;exact⟨g,H',Nr J,q⟩
end
end ExcR
namespace Pu
open L2 Own
noncomputable def Ts(c n:Str):Bool:=decide (c=n) || decide (n=("MeldError" : Str))
noncomputable def Ol(oi:Option Nat)(R:X7):X7:=match oi with
 |some i=>{nx:=λg=>R.nx (g.set i none),rt:=R.rt,ex:=λ_ _=>False,bk:=λg=>R.bk (g.set i none),ct:=λg=>R.ct (g.set i none),rv:=R.rv}
 |none=>{R with ex:=λ_ _=>False}
noncomputable def OM(oi:Option Nat)(d:D)(f:Γ):Γ:=match oi with
 |some i=>f.set i (some<|.sh d)
 |none=>f
def pHs:List (Str×Option Nat×PTS)->Str->D->X7->Γ->Prop
 |[],_,_,_,_=>False
 |(n,g,p)::r,c,d,R,f=>if Ts c n=true then p (Ol g R) (OM g d f)else pHs r c d R f
noncomputable def IV(g:Yh)(o:Ym)(h:List (Str×Option Nat×PTS))(n:PTS):PTS:=λR l=>n {R with ex:=λf c=>(c∈o/\pHs h c (.err<|ExcR.Uc g c) R f)\/∃r,c=B9 r/\pHs h "Ringed" (.erM (ExcR.Uc g "Ringed") r) R f} l
def ExOk(K:Yd)(f:Yh)(g ns:Ym):Prop:=∀c∈g,∀n∈ns,PySem.W.exmOne K (.ref<|ExcR.Uc f c) (.ref<|ExcR.Uc f n)=some (Ts c n)
inductive HsS (K:Yd) (mg:Yh) (E:L2.St->XK):List (Addr×Option Nat×TS)->List (Str×Option Nat×PTS)->Prop
 |nil:HsS K mg E [] []
 |cons {n:Str} {oi:Option Nat} {ts:TS} {p:PTS} {L:List (Addr×Option Nat×TS)} {hs:List (Str×Option Nat×PTS)}:Uj K mg E ts p->HsS K mg E L hs->HsS K mg E ((ExcR.Uc mg n,oi,ts)::L) ((n,oi,p)::hs)
section
variable {K:Yd}{mg:Yh}{E:L2.St->XK}
theorem SJ{B Y w}{γ x}{R D c d C dx}(T:∀b,B b->∃o,M b=some o)(e:PB K mg E M B H Y γ R D)(U:Ud K M B H' w x)(A:Fr B H Y γ H' w x){E'}(hd:∀a,H' a=none->Rp K (off (zof B x w)<|upd H' a<|ExcR.UH a C dx) d (.ref a)):∀{L} {N:List (Str×Option Nat×PTS)},HsS K mg E' L N->(∀n∈N.map (·.1),PySem.W.exmOne K (.ref C) (.ref<|ExcR.Uc mg n)=some (Ts c n))->pHs N c d R x->ExcR.hxL K L D w (.ref C) dx H'
 |_,_,.nil,_,h=>h
 |_,_,.cons (n:=n) (oi:=oi) hh r,hx,h=>by
  refine⟨C,Ts c n,rfl,hx n Wz,?_⟩;unfold pHs at h;split at h
  ·rename_i Q;rw[Wp Q];cases oi with
   |none=>exact hh M B H' w x _ _ T U h ⟨λf g u l q p=>e.nx _ _ u l q (A.trans p),e.rt,λ_ _ _ _ z=>z.elim,λf g u l q p=>e.bk _ _ u l q (A.trans p),λf g u l q p=>e.ct _ _ u l q (A.trans p),λf g d v u l q p=>e.rv f g d v u l q (A.trans p)⟩
   |some i=>
    intro a na;obtain⟨e2,f2⟩:=U.set (s:=.sh d) (UI na) (hd a na) rfl;have y:=A.trans f2;refine hh M B _ _ _ _ _ T e2 h ⟨λf g u l q p=>?_,e.rt,λ_ _ _ _ z=>z.elim,λf g u l q p=>?_,λf g u l q p=>?_,λf g d v u l q p=>e.rv f g d v u l q (y.trans p)⟩
    ·obtain⟨J,G⟩:=q.gone i;exact e.nx _ _ u l J (y.trans<|p.trans G)
    ·obtain⟨J,G⟩:=q.gone i;exact e.bk _ _ u l J (y.trans<|p.trans G)
    ·obtain⟨J,G⟩:=q.gone i;exact e.ct _ _ u l J (y.trans<|p.trans G)
  ·rename_i Q;rw[Wl Q];exact SJ T e U A hd r (λn hn=>hx n (Wr _ hn)) h
def Zcg{x:Ends->TS}{pb}{E'}(w ns:Ym)(hx:ExOk K mg ("Ringed" :: w) ns)(C:HsS K mg E' L y)(hb:∀D,Uj K mg (ExcR.hxL K L D) (x D) pb)(U:autoParam (y.map (·.1)=ns) au_0)(Y:autoParam (∀c∈w,Kc c=none) au_1):Uj K mg E (λD q H=>x D D q H) (IV mg w y pb):=by
 subst U;intro H0 B H q T R D u v h e;refine hb D H0 B H q T _ D u v h ⟨e.nx,e.rt,λN Q c H' hc f G=>?_,e.bk,e.ct,e.rv⟩;rcases hc with⟨g,s⟩|⟨r,rfl,s⟩
 ·exact .of (Y c g) (SJ u e f G (λa p=>.err (UB Ur λz=>by have:=f.zm a z;rw[p]at this;exact this)) C (hx c<|Wr _ g) s)
 ·refine .ofM λJ l o n A=>SJ u e f G (λa p=>?_) C (hx _ Wz) s;have M:=UI (o:=ExcR.UH a (ExcR.Uc mg "Ringed") (some J)) p;exact .erM (UB Ur λz=>by have:=f.zm a z;rw[p]at this;exact this) (UB (M _ _ n) λz=>by have:=f.zm J z;rw[n]at this;exact this) (UB (M _ _ A) λz=>by have:=f.zm l z;rw[A]at this;exact this)
end
def ExOk.sub {K l o ns g f} (h:ExOk K l o ns) (s:∀c∈g,c∈o) (r:∀n∈f,n∈ns):ExOk K l g f:=λc q n p=>h c (s c q) n (r n p)
noncomputable def EL(K:Yd)(f ns:Ys):Bool:=f.all λc=>ns.all λn=>decide (PySem.W.exmOne K (.ref c.2) (.ref n.2)=some (Ts c.1 n.1))
def MB{K f g ns}(h:EL K (g.map λc=>(c,ExcR.Uc f c)) (ns.map λn=>(n,ExcR.Uc f n))=true):ExOk K f g ns:=λc o n l=>
 Wx (W6.mp (W6.mp h _<|WC.mpr ⟨c,o,rfl⟩) _<|WC.mpr ⟨n,l,rfl⟩)
def hq{A}(h:Uh j A)(f:autoParam (k<=j) au_1):Uh k A:=h.mono f
section
variable {X:Cx}{sc:Scope}{elt iter tg:Expr}{ifs:Yn}{pos:Pos}{wi:TI}{g:TG}{tc:TT}{te:TE}{x:Str}
def cz(N':Ym)(φ:Yj)(q:PI X tg iter wi)(n:∀{o C f h ex},PG (U1 X N' sc o C f h ex) tg g/\K9 (U1 X N' sc o C f h ex) ifs tc/\PE (U1 X N' sc o C f h ex) elt te)(l:autoParam (X.calm=true) au_0)(S:autoParam (Ti sc X.env.scope X.N N' φ=true) au_0)(p:autoParam (∀x,foldedSetIterable iter X.env x=pure x) au_3):PE X (.ListComp elt [⟨tg,iter,ifs,0⟩] sc pos) (PJ φ wi g tc te):=Fe l (.of S) q (λ_ _ _ _ _=>n) p
def gk(i:Nat)(l:autoParam (decide X.N.Nodup=true) au_8)(f:autoParam (X.N[i]?=some x) au_0)(hx:autoParam (Loc X.env.scope x) au_6)(h:autoParam (X.fn x=true\/X.env.scope.names.lookup x=some .local) au_2):PG X (.Name x pos) (KP i):=Sn (Wx l) f hx h
end
section
variable {P:Program}{w:World}{K:Yd}{mg:Yh}{base:Heap}{N ps:Ym}{sp:Sp}{p:PTS}{x q:Str}{st:Stmt}{k:Nat}{W:Addr->Prop}
def _root_.Own.Def.ez (D:Def K mg x st ps) (S:Ue N ps (Ua st))
  (h:∀{f g A outer s H} {E:XK},Uh k (A.deeper<|envOfC x (Ua st) s.heap.objs.size f g)->
   ∃t,PSs (Uu CX0 P w K mg base N x (Ua st) f g A outer s H E).nox (Ut st) t/\Uj K mg (λ_=>E) t p) (u:Uz K mg N ps sp p):Callee P w K mg base CX0 (k+1) x ps sp:=D.oz S (λ_ _ _ _ _ _ _=>h) u
def _root_.Own.Def.ey (D:Def K mg x st ps) (S:Ue N ps (Ua st))
  (h:∀{f g A outer s H} {E:XK},Uh k (A.deeper<|envOfC x (Ua st) s.heap.objs.size f g)->
   ∃t,PSs (Uu (ExcR.CXe P w) P w K mg base N x (Ua st) f g A outer s H E) (Ut st) t/\Uj K mg (λ_=>E) t p) (u:Uz K mg N ps sp p):Callee P w K mg base (ExcR.CXe P w) (k+1) x ps sp:=D.ox S (λ_ _ _ _ _ _ _=>h) u
def Uv.ez (D:Uv K W x q st ps) (S:Ue N ps (Ua st))
  (h:∀{f g A outer s H} {E:XK},Uh k (A.deeper<|envOfC q (Ua st) s.heap.objs.size f g)->
   ∃t,PSs (Uu CX0 P w K mg base N q (Ua st) f g A outer s H E).nox (Ut st) t/\Uj K mg (λ_=>E) t p) (u:Uz K mg N ps sp p):Xo P w K mg base CX0 (k+1) W ps sp:=D.oz S (λ_ _ _ _ _ _ _=>h) u
def Uv.ey (D:Uv K W x q st ps) (S:Ue N ps (Ua st))
  (h:∀{f g A outer s H} {E:XK},Uh k (A.deeper<|envOfC q (Ua st) s.heap.objs.size f g)->
   ∃t,PSs (Uu (ExcR.CXe P w) P w K mg base N q (Ua st) f g A outer s H E) (Ut st) t/\Uj K mg (λ_=>E) t p) (u:Uz K mg N ps sp p):Xo P w K mg base (ExcR.CXe P w) (k+1) W ps sp:=D.ox S (λ_ _ _ _ _ _ _=>h) u
end
structure Fit {ι:Type} (F:ι->Cx) (K:Yd) (mg:Yh):Prop where
 k:∀j,(F j).K=K
 m:∀j,(F j).mg=mg
section
variable {ι:Type} (F:ι->Cx) (K:Yd) (mg:Yh) (E:L2.St->XK)
structure CE (e:Expr) (p:PTE):Prop where
 h:Fit F K mg->∃t,(∀j,PE (F j) e t)/\JZ K mg E t p
structure CT (e:Expr) (p:PTT):Prop where
 h:Fit F K mg->∃t,(∀j,PT (F j) e t)/\UG K mg E t p
structure CW (e:Expr) (p:PTT):Prop where
 h:Fit F K mg->∃t,(∀j,PW (F j) e t)/\UG K mg E t p
structure CA (es:Yn) (p:PTA):Prop where
 h:Fit F K mg->∃t,(∀j,PA (F j) es t)/\Um K mg E t p
structure CS (s:Stmt) (p:PTS):Prop where
 h:Fit F K mg->∃t,(∀j,PS (F j) s t)/\Uj K mg E t p
structure CB (b:Yo) (p:PTS):Prop where
 h:Fit F K mg->∃t,(∀j,PSs (F j) b t)/\Uj K mg E t p
structure CI (tg e:Expr) (p:PTI):Prop where
 h:Fit F K mg->∃t,(∀j,PI (F j) tg e t)/\SndI K mg E t p
structure CJ (tg e:Expr) (p:PTI):Prop where
 h:Fit F K mg->∃t,(∀j,PI (F j) tg e t)/\N2 K mg E t p
structure CG (e:Expr) (is:Yk) (p:PTG):Prop where
 h:Fit F K mg->∃t,(∀j,PG (F j) e t)/\K4 K is t p
structure CGs (es:Yn) (is:Yk) (p:Po):Prop where
 h:Fit F K mg->∃t,(∀j,PGs (F j) es t)/\Tc K is t p
structure CF (es:Yn) (p:PTT):Prop where
 h:Fit F K mg->∃t,(∀j,K9 (F j) es t)/\UG K mg E t p
end
section
variable {ι:Type}{F:ι->Cx}{K:Yd}{mg:Yh}{E:L2.St->XK}{e f g:Expr}{es:Yn}{a b c:PTE}{r:PTA}{x:Str}{pos p1:Pos}{k n:Nat}{s:Stmt}{d1 d2:Yo}{p q:PTS}{t u:PTT}{is:Yk}{pg:PTG}{it:PTI}
def xv(i:Nat)(v:autoParam (∀j,(F j).N[i]?=some x) au_3)(h:autoParam (∀j,Vis (F j).env.scope x) au_9)(l:autoParam ((x==("__debug__" : Str))=false) au_1)(o:autoParam ((x==("__classdict__" : Str))=false) au_1):CE F K mg E (.Name x pos) (Nd i):=.mk λ_=>⟨_,λj=>pv i (v j) (h j) l o,Ub i⟩
def xi:CE F K mg E (.Constant (.int i) k pos) (pC<|.int i):=.mk λ_=>⟨_,λ_=>Xr,UN⟩
def xb:CE F K mg E (.Constant (.bool i) k pos) (pC<|.bl i):=.mk λ_=>⟨_,λ_=>Bj,BB⟩
def xs:CE F K mg E (.Constant (.str i) k pos) (pC<|.str i):=.mk λ_=>⟨_,λ_=>UF,U7⟩
def xe(h:∀{j},PE (F j) e te)(k:JZ K mg E te a):CE F K mg E e a:=.mk λ_=>⟨_,λ_=>h,k⟩
def xo{r}(y:∀{X},OpR X (binaryOp l) r)(w:∀{t u},JZ K mg E t a->JZ K mg E u b->JZ K mg E (tOp r t u) c)(A:CE F K mg E e a)(B:CE F K mg E f b):CE F K mg E (.BinOp e l f pos) c:=
 .mk λh=>let ⟨_,C,v⟩:=A.h h;let ⟨_,z,o⟩:=B.h h;⟨_,λj=>PR y (C j) (z j),w v o⟩
def xx(A:CE F K mg E e a)(B:CE F K mg E f b)(v:autoParam (SS f) au_7):CE F K mg E (.Subscript e f pos) (p2 a b fIx):=
 .mk λh=>let ⟨_,y,o⟩:=A.h h;let ⟨_,w,l⟩:=B.h h;⟨_,λj=>jx K (y j) (w j) (h.k j) v,KR o l⟩
def xl(w:mg "len"=none)(A:CE F K mg E e a)(y:autoParam (∀j,Gl (F j) "len") au_3)(v:autoParam (∀j,starEach [e] (F j).env=(false,eval e (F j).env)::starEach [] (F j).env) au_3)(l:autoParam (∀j,(backTo pos (starEach [] (F j).env)).any (·.1)=false) au_3) :
  CE F K mg E (.Call (.Name "len" p1) [e] [] pos) (pCB Sl<|Xb a XO):=
 .mk λh=>let ⟨_,z,o⟩:=A.h h;⟨_,λj=>ln K (by rw[h.m j];exact w) (z j) (h.k j) (y j) (v j) (l j),Hw (sz o)⟩
def xf{ps v}(C:Callee P w K mg base CX0 k x ps (Ui mg v K))(H:∀j,Uh m (F j).A)(A:CA F K mg E (e::es) r)(N:autoParam (∀j,(F j).prog=P/\(F j).w=w/\(F j).base=base) au_10)(J:autoParam (k<=m) au_1)(L:autoParam (∀j,Gl (F j) x) au_3)(o:autoParam ((x==("__debug__" : Str))=false) au_1)(M:autoParam (∀j,starEach (e::es) (F j).env=(false,eval e (F j).env)::starEach es (F j).env) au_3)(l:autoParam (∀j,(backTo pos (starEach es (F j).env)).any (·.1)=false) au_3) :
  CE F K mg E (.Call (.Name x p1) (e::es) [] pos) (AV v r):=
 .mk λh=>let ⟨_,Q,G⟩:=A.h h;⟨_,λj=>fz (by obtain⟨B,z,y⟩:=N j;rw[B,z,y,h.k j,h.m j];exact C) (H j) (Q j) J (L j) o (M j) (l j),KC G⟩
def xt(A:CA F K mg E es r):CE F K mg E (.Tuple es k pos) (DH r):=.mk λh=>let ⟨_,o,l⟩:=A.h h;⟨_,λj=>Ho (o j),Hl l⟩
def xL(A:CA F K mg E es r):CE F K mg E (.List es pos) (AG r):=.mk λh=>let ⟨_,o,l⟩:=A.h h;⟨_,λj=>UR (o j),Xu l⟩
def a0:CA F K mg E [] XO:=.mk λ_=>⟨_,λ_=>UA,Xl⟩
def ac(A:CE F K mg E e a)(B:CA F K mg E es r)(y:autoParam (∀j,starEach (e::es) (F j).env=(false,eval e (F j).env)::starEach es (F j).env) au_3):CA F K mg E (e::es) (Xb a r):=
 .mk λh=>let ⟨_,w,o⟩:=A.h h;let ⟨_,v,l⟩:=B.h h;⟨_,λj=>UX (w j) (v j) (y j),N9 o l⟩
def a1(A:CE F K mg E e a)(h:autoParam (∀j,starEach [e] (F j).env=(false,eval e (F j).env)::starEach [] (F j).env) au_3):CA F K mg E [e] (Xb a XO):=ac A a0 h
def a2(A:CE F K mg E e a)(B:CE F K mg E f b)(l:autoParam (∀j,starEach [e,f] (F j).env=(false,eval e (F j).env)::starEach [f] (F j).env) au_3)(h:autoParam (∀j,starEach [f] (F j).env=(false,eval f (F j).env)::starEach [] (F j).env) au_3):CA F K mg E [e,f] (Xb a<|Xb b XO):=ac A (a1 B h) l
def a3(A:CE F K mg E e a)(B:CE F K mg E f b)(C:CE F K mg E g c)(o:autoParam (∀j,starEach [e,f,g] (F j).env=(false,eval e (F j).env)::starEach [f,g] (F j).env) au_3)(l:autoParam (∀j,starEach [f,g] (F j).env=(false,eval f (F j).env)::starEach [g] (F j).env) au_3)(h:autoParam (∀j,starEach [g] (F j).env=(false,eval g (F j).env)::starEach [] (F j).env) au_3):CA F K mg E [e,f,g] (Xb a<|Xb b<|Xb c XO):=ac A (a2 B C l h) o
def te(h:∀{j},PT (F j) e tt)(k:UG K mg E tt t):CT F K mg E e t:=.mk λ_=>⟨_,λ_=>h,k⟩
def tc{r}(y:∀{X},OpR X (compareOp l) r)(w:∀{t u},JZ K mg E t a->JZ K mg E u b->JZ K mg E (tOp r t u) c)(A:CE F K mg E e a)(B:CE F K mg E f b)(z:behindInMarks l f=false:=by exact XT _):CT F K mg E (.Compare e [l] [f] pos) (Pk c):=
 .mk λh=>let ⟨_,G,v⟩:=A.h h;let ⟨_,C,o⟩:=B.h h;⟨_,λj=>KY y (G j) (C j) z,Xw (w v o)⟩
def tq(v:∀j,Uh n (F j).A)(A:CE F K mg E e a)(B:CE F K mg E f b):CT F K mg E (.Compare e [.Eq] [f] pos) (Pk<|p2 a b<|KF false):=
 .mk λh=>let ⟨_,y,o⟩:=A.h h;let ⟨_,w,l⟩:=B.h h;⟨_,λj=>cq K (v j) (y j) (w j) (h.k j),Xw (XJ o l)⟩
def tn(v:∀j,Uh n (F j).A)(A:CE F K mg E e a)(B:CE F K mg E f b):CT F K mg E (.Compare e [.NotEq] [f] pos) (Pk<|p2 a b<|KF true):=
 .mk λh=>let ⟨_,y,o⟩:=A.h h;let ⟨_,w,l⟩:=B.h h;⟨_,λj=>cn K (v j) (y j) (w j) (h.k j),Xw (Ob o l)⟩
def ti(v:∀j,Uh n (F j).A)(A:CE F K mg E e a)(B:CE F K mg E f b)(w:autoParam (behindInMarks .In f=false) au_11):CT F K mg E (.Compare e [.In] [f] pos) (Pk<|p2 a b<|fIn false):=
 .mk λh=>let ⟨_,z,o⟩:=A.h h;let ⟨_,y,l⟩:=B.h h;⟨_,λj=>KY (HY (Py<|v j)<|h.k j) (z j) (y j) w,Xw (L9 o l)⟩
def tt(A:CE F K mg E e a)(o:autoParam (∀j whole,isTrue e (F j).env whole=(do let v ←whole;standAt e.pos;holding [v] (truthy v))) au_7):CT F K mg E e (FZ a):=.mk λh=>let ⟨_,w,l⟩:=A.h h;⟨_,λj=>M2 (w j) (h.k j) (o j),Zbo l⟩
def tN(A:CT F K mg E e t):CT F K mg E (.UnaryOp .Not e pos) (A4 t):=.mk λh=>let ⟨_,o,l⟩:=A.h h;⟨_,λj=>Oi (o j),Mp l⟩
def tp(A:CW F K mg E e t):CT F K mg E e t:=.mk λh=>let ⟨_,o,l⟩:=A.h h;⟨_,λj=>(o j).pt,l⟩
def wa(A:CT F K mg E e t)(B:CW F K mg E (.BoolOp .And (f::es) pos) u):CW F K mg E (.BoolOp .And (e::f::es) pos) (G3 t u):=.mk λh=>let ⟨_,w,o⟩:=A.h h;let ⟨_,v,l⟩:=B.h h;⟨_,λj=>Rt (w j) (v j),Za0 o l⟩
def wo(A:CT F K mg E e t)(B:CW F K mg E (.BoolOp .Or (f::es) pos) u):CW F K mg E (.BoolOp .Or (e::f::es) pos) (pOr t u):=.mk λh=>let ⟨_,w,o⟩:=A.h h;let ⟨_,v,l⟩:=B.h h;⟨_,λj=>Zco (w j) (v j),OU o l⟩
def wA(A:CT F K mg E e t):CW F K mg E (.BoolOp .And [e] pos) t:=.mk λh=>let ⟨_,o,l⟩:=A.h h;⟨_,λj=>Zax (o j),l⟩
def wO(A:CT F K mg E e t):CW F K mg E (.BoolOp .Or [e] pos) t:=.mk λh=>let ⟨_,o,l⟩:=A.h h;⟨_,λj=>Zcq (o j),l⟩
def se(h:∀{j},PS (F j) s l)(k:Uj K mg E l p):CS F K mg E s p:=.mk λ_=>⟨_,λ_=>h,k⟩
def sS(i:Nat)(y:∀j,(F j).N.Nodup)(A:CE F K mg E e a)(v:autoParam (∀j,(F j).N[i]?=some x) au_3)(hx:autoParam (∀j,Loc (F j).env.scope x) au_12)(o:autoParam (∀j,swapsWith e (some<|.Name x p1) pos.line (F j).env=pure false) au_3)(w:autoParam (∀j,(F j).fn x=true\/(F j).env.scope.names.lookup x=some .local) au_13):CS F K mg E (.Assign [.Name x p1] e pos) (BX a<|Ka i):=
 .mk λh=>let ⟨_,z,l⟩:=A.h h;⟨_,λj=>pz i (y j) (z j) (v j) (hx j) (o j) (w j),NF l (XU i)⟩
def sR(A:CE F K mg E e a):CS F K mg E (.Return (some e) pos) (DG a):=.mk λh=>let ⟨_,o,l⟩:=A.h h;⟨_,λj=>U8 (o j),UU l⟩
def sF(i:Nat)(A:CS F K mg E s p):CS F K mg E s (Gf i p):=.mk λh=>let ⟨_,o,l⟩:=A.h h;⟨_,o,Zaf i l⟩
def sI(A:CT F K mg E e t)(B:CB F K mg E d1 p)(C:CB F K mg E d2 q):CS F K mg E (.If e d1 d2 pos) (Eb t p q):=.mk λh=>let ⟨_,z,v⟩:=A.h h;let ⟨_,y,o⟩:=B.h h;let ⟨_,w,l⟩:=C.h h;⟨_,λj=>KZ (z j) (y j) (w j),P0 v o l⟩
def sE(A:CE F K mg E e a)(o:autoParam (∀j,swapsWith e none pos.line (F j).env=pure false) au_3):CS F K mg E (.Expr e pos) (CU a):=.mk λh=>let ⟨_,v,l⟩:=A.h h;⟨_,λj=>XA (v j) (o j),KL l⟩
def sO(l:Yk)(C:∀{j},PassesOwn (model (F j).prog (F j).w) (F j).A (F j).env (F j).xe)(I:CI F K mg E f e it)(G:CG F K mg f is pg)(B:CB F K mg E d1 p)(H:autoParam (∀j,(F j).calm=true) au_3)(z:autoParam (∀j x,foldedSetIterable e (F j).env x=pure x) au_7) :
  CS F K mg E (.For f e d1 [] pos) (E8 l it pg p):=
 .mk λh=>let ⟨_,M,y⟩:=I.h h;let ⟨_,L,v⟩:=G.h h;let ⟨_,J,o⟩:=B.h h;⟨_,λj=>HC C (H j) (M j) (L j) (J j) (z j),Rz l y v o⟩
def sW(l:Yk)(y:∀{j},PassesOwn (model (F j).prog (F j).w) (F j).A (F j).env (F j).xe)(A:CT F K mg E e t)(B:CB F K mg E d1 p):CS F K mg E (.While e d1 [] pos) (Ga l t p):=
 .mk λh=>let ⟨_,C,v⟩:=A.h h;let ⟨_,z,o⟩:=B.h h;⟨_,λj=>Ez y (C j) (z j),IX l v o⟩
def b0:CB F K mg E [] A1:=.mk λ_=>⟨_,λ_=>Pt,Pn⟩
def b1(A:CS F K mg E s p):CB F K mg E [s] p:=.mk λh=>let ⟨_,o,l⟩:=A.h h;⟨_,λj=>Uo (o j),l⟩
def bc(A:CS F K mg E s p)(B:CB F K mg E d1 q):CB F K mg E (s::d1) (EM p q):=.mk λh=>let ⟨_,w,o⟩:=A.h h;let ⟨_,v,l⟩:=B.h h;⟨_,λj=>Km (w j) (v j),DE o l⟩
def bj(A:CS F K mg E s p)(B:CB F K mg E d1 q):CB F K mg E (s::d1) (E7 p q):=.mk λh=>let ⟨_,w,o⟩:=A.h h;let ⟨_,v,l⟩:=B.h h;⟨_,λj=>P9 (w j) (v j),P1 o l⟩
def ie(h:∀{j},PI (F j) f e l)(k:SndI K mg E l it):CI F K mg E f e it:=.mk λ_=>⟨_,λ_=>h,k⟩
def iL(A:CE F K mg E e a):CI F K mg E f e (pIL a):=.mk λh=>let ⟨_,o,l⟩:=A.h h;⟨_,λj=>Tr (o j) (h.k j),LR l⟩
def ir(v:mg "range"=none)(A:CA F K mg E [e] r)(w:autoParam (∀j,Gl (F j) "range") au_3)(o:autoParam (∀j,starEach [e] (F j).env=[(false,eval e (F j).env)]) au_3):CI F K mg E f (.Call (.Name "range" p1) [e] [] pos) (AD r):=
 .mk λh=>let ⟨_,y,l⟩:=A.h h;⟨_,λj=>OI (w j) (by rw[h.m j];exact v) (y j) (o j),RT l⟩
def iR(w:mg "range"=none)(A:CA F K mg E [e,g] r)(y:autoParam (∀j,Gl (F j) "range") au_3)(v:autoParam (∀j,starEach [e,g] (F j).env=[(false,eval e (F j).env),(false,eval g (F j).env)]) au_3)(l:autoParam (∀j,starEach [g] (F j).env=[(false,eval g (F j).env)]) au_3):CI F K mg E f (.Call (.Name "range" p1) [e,g] [] pos) (Dt r):=
 .mk λh=>let ⟨_,z,o⟩:=A.h h;⟨_,λj=>L7 (y j) (by rw[h.m j];exact w) (z j) (v j) (l j),O2 o⟩
def jL(A:CE F K mg E e a):CJ F K mg E f e (Ee a):=.mk λh=>let ⟨_,o,l⟩:=A.h h;⟨_,λj=>Tr (o j) (h.k j),N0 l⟩
def jI(I:CI F K mg E f e it):CJ F K mg E f e it:=.mk λh=>let ⟨_,o,l⟩:=I.h h;⟨_,o,l.c⟩
def gN(i:Nat)(o:autoParam (∀j,decide (F j).N.Nodup=true) au_14)(h:autoParam (∀j,(F j).N[i]?=some x) au_3)(hx:autoParam (∀j,Loc (F j).env.scope x) au_12)(l:autoParam (∀j,(F j).fn x=true\/(F j).env.scope.names.lookup x=some .local) au_13):CG F K mg (.Name x pos) [i] (Ka i):=.mk λ_=>⟨_,λj=>gk i (o j) (h j) (hx j) (l j),XU i⟩
def gT(n:Nat){pr}(G:CGs F K mg es is pr)(w:autoParam (∀j,(F j).calm=true) au_3)(v:autoParam (∀j,(assignEach es (F j).env).length=n) au_3)(l:autoParam (∀j,(assignEach es (F j).env).findIdx? (·.1)=none) au_3):CG F K mg (.Tuple es k pos) is (Sg n pr):=
 .mk λh=>let ⟨_,y,o⟩:=G.h h;⟨_,λj=>FY (w j) (y j) (h.k j) (v j) (l j),Zby o⟩
def g0:CGs F K mg [] [] Gy:=.mk λ_=>⟨_,λ_=>Cz,Zcc⟩
def gc(G:CG F K mg e is pg)(B:CGs F K mg es w l)(y:autoParam (∀j,(assignEach (e::es) (F j).env).map (·.2)=assign e (F j).env::(assignEach es (F j).env).map (·.2)) au_3):CGs F K mg (e::es) (is++w) (Gz pg l):=
 .mk λh=>let ⟨_,A,v⟩:=G.h h;let ⟨_,z,o⟩:=B.h h;⟨_,λj=>SU (A j) (z j) (y j),Zbq v o⟩
def f0:CF F K mg E [] Se:=.mk λ_=>⟨_,λ_=>P2,TQ⟩
def f1(A:CT F K mg E e t):CF F K mg E [e] t:=.mk λh=>let ⟨_,o,l⟩:=A.h h;⟨_,λj=>FE (o j),l⟩
noncomputable abbrev Blk(F:ι->Cx)(N':Ym)(h:Scope):ι×Ys×Addr×Shared×Hp×List Addr->Cx:=λj=>U1 (F j.1) N' h j.2.1 j.2.2.1 j.2.2.2.1 j.2.2.2.2.1 j.2.2.2.2.2
def xC(N':Ym)(φ:Yj)(I:CJ F K mg E f e it)(G:CG (Blk F N' v) K mg f is pg)(T:CF (Blk F N' v) K mg E es t)(A:CE (Blk F N' v) K mg E g a)(hc:autoParam (∀j,(F j).calm=true) au_3)(S:autoParam (∀j,Ti v (F j).env.scope (F j).N N' φ=true) au_3)(hs:autoParam (∀j x,foldedSetIterable e (F j).env x=pure x) au_7)(h1:autoParam ((φ.filterMap id).Nodup) au_1)(h2:autoParam (∀j∈is,φ[j]?=some none) au_1) :
  CE F K mg E (.ListComp g [⟨f,e,es,0⟩] v pos) (NT φ it pg t a):=.mk λh=>by
 have w:Fit (Blk F N' v) K mg:=⟨λj=>h.k j.1,λj=>h.m j.1⟩;obtain⟨_,Y,L⟩:=I.h h;obtain⟨_,U,J⟩:=G.h w;obtain⟨_,Q,H⟩:=T.h w;obtain⟨_,M,B⟩:=A.h w;exact⟨_,λj=>Fe (hc j) (.of<|S j) (Y j) (λz C l o y=>⟨U (j,z,C,l,o,y),Q (j,z,C,l,o,y),M (j,z,C,l,o,y)⟩) (hs j),KM L J H B h1 h2⟩
def sr(A:CE F K mg E e a):CS F K mg E (.Return (some e) pos) (FM a):=.mk λh=>let ⟨_,o,l⟩:=A.h h;⟨_,λj=>U8 (o j),Oc l⟩
def sV(i:Nat)(v:autoParam (∀j,(F j).N[i]?=some x) au_3)(h:autoParam (∀j,Vis (F j).env.scope x) au_9)(l:autoParam ((x==("__debug__" : Str))=false) au_1)(o:autoParam ((x==("__classdict__" : Str))=false) au_1):CS F K mg E (.Return (some<|.Name x p1) pos) (Fg i):=.mk λ_=>⟨_,λj=>U8 (pv i (v j) (h j) l o),RI i⟩
def sA(i:Nat)(A:CE F K mg E e a)(H:autoParam (∀j,(F j).N[i]?=some x) au_3)(B:autoParam (∀j,Vis (F j).env.scope x) au_9)(C:autoParam ((x==("__debug__" : Str))=false) au_1)(G:autoParam ((x==("__classdict__" : Str))=false) au_1){apos cpos}(v:autoParam (∀j,attributeBase (.Name x p1) "append" (F j).env (eval (.Name x p1) (F j).env)=eval (.Name x p1) (F j).env) au_3)(w:autoParam (∀j,((backTo cpos (starEach [e] (F j).env)).all (λx=>!x.1)&&(backToKw cpos (keywordEach [] (F j).env)).all (λx=>x.1.isSome)&&decide ([e].length+([]:List Keyword).length+(if ([]:List Keyword).isEmpty then 0 else 1)<30))=true) au_3)(o:autoParam ((apos.endLine==cpos.line)=true) au_0)(y:autoParam (∀j,starEach [e] (F j).env=(false,eval e (F j).env)::starEach [] (F j).env) au_3)(l:autoParam (∀j,(backTo cpos (starEach [] (F j).env)).any (·.1)=false) au_3)(hw:autoParam (∀j,swapsWith (.Call (.Attribute (.Name x p1) "append" apos) [e] [] cpos) none pos.line (F j).env=pure false) au_3):CS F K mg E (.Expr (.Call (.Attribute (.Name x p1) "append" apos) [e] [] cpos) pos) (Ss i a):=
 .mk λh=>let ⟨_,J,z⟩:=A.h h;⟨_,λj=>XA (PU Qg PySem.F.slot_list_append PySem.F.type_list_append NL (pv i (H j) (B j) C G) (UX (J j) UA<|y j) (h.k j) (v j) (w j) o (y j)<|l j) (hw j),Lk i z⟩
def sU(i:Nat){l o}(B:∀j,(F j).N.Nodup)(w:∀{X},PIp X l (ipI o))(A:CE F K mg E e a)(y:autoParam (∀j,(F j).N[i]?=some x) au_3)(hx:autoParam (∀j,Loc (F j).env.scope x) au_12)(z:autoParam (∀j,(F j).fn x=true\/(F j).env.scope.names.lookup x=some .local) au_13):CS F K mg E (.AugAssign (.Name x p1) l e pos) (Sj i o a):=
 .mk λh=>let ⟨_,C,v⟩:=A.h h;⟨_,λj=>HA (B j) (y j) (hx j) (C j) w (z j),ML v⟩
def sC(i:Nat)(N':Ym)(φ:Yj){y py spos}(hN:∀j,(F j).N.Nodup)(I:CJ F K mg E f e it)(G:CG (Blk F N' v) K mg f is pg)(T:CF (Blk F N' v) K mg E es t)(A:CE (Blk F N' v) K mg E g a)(hy:autoParam (∀j,(F j).N[i]?=some y) au_3)(hl:autoParam (∀j,(F j).env.scope.names.lookup y=some .local) au_3)(hc:autoParam (∀j,(F j).calm=true) au_3)(S:autoParam (∀j,Ti v (F j).env.scope (F j).N N' φ=true) au_3)(hs:autoParam (∀j x,foldedSetIterable e (F j).env x=pure x) au_7)(h1:autoParam ((φ.filterMap id).Nodup) au_1)(h2:autoParam (∀j∈is,φ[j]?=some none) au_1)(hw:autoParam (∀j,swapsWith (.ListComp g [⟨f,e,es,0⟩] v pos) (some<|.Name y py) spos.line (F j).env=pure true) au_3) :
  CS F K mg E (.Assign [.Name y py] (.ListComp g [⟨f,e,es,0⟩] v pos) spos) (BX (NT φ it pg t a)<|Ka i):=.mk λh=>by
 have w:Fit (Blk F N' v) K mg:=⟨λj=>h.k j.1,λj=>h.m j.1⟩;obtain⟨_,i1,M⟩:=I.h h;obtain⟨_,Y,L⟩:=G.h w;obtain⟨_,U,J⟩:=T.h w;obtain⟨_,Q,H⟩:=A.h w;exact⟨_,λj=>HQ (hN j) (hy j) (hl j) (hc j) (.of<|S j) (i1 j) (λB C l o z=>⟨Y (j,B,C,l,o,z),U (j,B,C,l,o,z),Q (j,B,C,l,o,z)⟩) (hs j) (hw j),NF (KM M L J H h1 h2) (XU i)⟩
structure CO {ι:Type} (F:ι->Cx) (K:Yd) (mg:Yh) (E:L2.St->XK) (o:Option Expr) (p:PTO):Prop where
 h:Fit F K mg->∃t,(∀j,PO (F j) o t)/\PK K mg E t p
def o0:CO F K mg E none Gi:=.mk λ_=>⟨_,λ_=>GN,GB⟩
def o1(A:CE F K mg E e a):CO F K mg E (some e) (CQ a):=.mk λh=>let ⟨_,o,l⟩:=A.h h;⟨_,λj=>Ip (o j),Za4 l⟩
def xp{lo o l u v}(A:CE F K mg E e a)(L:CO F K mg E lo l)(U:CO F K mg E o u):CE F K mg E (.Subscript e (.Slice lo o none v) pos) (pSl a l u):=
 .mk λh=>let ⟨_,G,z⟩:=A.h h;let ⟨_,C,y⟩:=L.h h;let ⟨_,B,w⟩:=U.h h;⟨_,λj=>Zb0 (Zaj<|h.k j) (G j) (C j) (B j),Hn z y w⟩
def xI(C:CT F K mg E g t)(A:CE F K mg E e a)(B:CE F K mg E f b):CE F K mg E (.IfExp g e f pos) (Az t a b):=.mk λh=>let ⟨_,z,v⟩:=C.h h;let ⟨_,y,o⟩:=A.h h;let ⟨_,w,l⟩:=B.h h;⟨_,λj=>IU (z j) (y j) (w j),Zbl v o l⟩
def sQ{cpos v}(B:ExcR.Ux K (ExcR.Uc mg x))(y:mg x=some (.ref<|ExcR.Uc mg x))(H:∀{j},ExcR.BR (F j) v)(A:CA F K mg (λ_=>v) (e::es) r)(G:autoParam (∀j,(F j).calm=true) au_3)(z:autoParam (∀j,Gl (F j) x) au_3)(o:autoParam ((x==("__debug__" : Str))=false) au_1)(C:autoParam (∀j,starEach (e::es) (F j).env=(false,eval e (F j).env)::starEach es (F j).env) au_3)(l:autoParam (∀j,(backTo cpos (starEach es (F j).env)).any (·.1)=false) au_3)(hx:autoParam (Kc x=none) au_0) :
  CS F K mg (λ_=>v) (.Raise (some<|.Call (.Name x p1) (e::es) [] cpos) none pos) (Dq x r):=
 .mk λh=>let ⟨_,J,w⟩:=A.h h;⟨_,λj=>ExcR.Lp (by rw[h.k j];exact B.c) (by rw[h.m j];exact y) H (G j) (J j) (z j) o (C j) (l j),MT w hx⟩
def xg{ps y v}(C:Callee P w K mg base (ExcR.CXe P w) k x ps (Ui mg y K))(J:∀j,Uh m (F j).A)(hx:∀{j},Xi (ExcR.CXe P w) (F j) v)(A:CA F K mg (λ_=>v) (e::es) r)(Q:autoParam (∀j,(F j).prog=P/\(F j).w=w/\(F j).base=base) au_10)(L:autoParam (k<=m) au_1)(M:autoParam (∀j,Gl (F j) x) au_3)(o:autoParam ((x==("__debug__" : Str))=false) au_1)(N:autoParam (∀j,starEach (e::es) (F j).env=(false,eval e (F j).env)::starEach es (F j).env) au_3)(l:autoParam (∀j,(backTo pos (starEach es (F j).env)).any (·.1)=false) au_3) :
  CE F K mg (λ_=>v) (.Call (.Name x p1) (e::es) [] pos) (Sr y r):=
 .mk λh=>let ⟨_,T,H⟩:=A.h h;⟨_,λj=>AK (by obtain⟨G,B,z⟩:=Q j;rw[G,B,z,h.k j,h.m j];exact C) ((J j).mono L) hx (T j) (M j) o (N j) (l j),Hm H⟩
variable {pw:PTW}
end
section
variable {P:Program}{w:World}{K:Yd}{mg:Yh}{base:Heap}{N ps:Ym}{sp:Sp}{p:PTS}{x q:Str}{st:Stmt}{k:Nat}{W:Addr->Prop}
def _root_.Own.Def.fz (D:Def K mg x st ps) (S:Ue N ps (Ua st))
  (o:∀{f g A outer s H} {E:XK},(∀{n:Type},n->Uh k (A.deeper<|envOfC x (Ua st) s.heap.objs.size f g))->(Unit->N.Nodup)->
   CB (λ_:Unit=>(Uu CX0 P w K mg base N x (Ua st) f g A outer s H E).nox) K mg (λ_=>E) (Ut st) p) (u:Uz K mg N ps sp p):Callee P w K mg base CX0 (k+1) x ps sp:=
 D.ez S (λr=>let ⟨t,h,l⟩:=(o (λ_=>r) λ_=>S.nd).h ⟨λ_=>rfl,λ_=>rfl⟩;⟨t,h (),l⟩) u
def _root_.Own.Def.fy (D:Def K mg x st ps) (S:Ue N ps (Ua st))
  (o:∀{f g A outer s H} {E:XK},(∀{n:Type},n->Uh k (A.deeper<|envOfC x (Ua st) s.heap.objs.size f g))->(Unit->N.Nodup)->
   CB (λ_:Unit=>Uu (ExcR.CXe P w) P w K mg base N x (Ua st) f g A outer s H E) K mg (λ_=>E) (Ut st) p) (u:Uz K mg N ps sp p):Callee P w K mg base (ExcR.CXe P w) (k+1) x ps sp:=
 D.ey S (λr=>let ⟨t,h,l⟩:=(o (λ_=>r) λ_=>S.nd).h ⟨λ_=>rfl,λ_=>rfl⟩;⟨t,h (),l⟩) u
def Uv.fz (D:Uv K W x q st ps) (S:Ue N ps (Ua st))
  (o:∀{f g A outer s H} {E:XK},(∀{n:Type},n->Uh k (A.deeper<|envOfC q (Ua st) s.heap.objs.size f g))->(Unit->N.Nodup)->
   CB (λ_:Unit=>(Uu CX0 P w K mg base N q (Ua st) f g A outer s H E).nox) K mg (λ_=>E) (Ut st) p) (u:Uz K mg N ps sp p):Xo P w K mg base CX0 (k+1) W ps sp:=
 D.ez S (λr=>let ⟨t,h,l⟩:=(o (λ_=>r) λ_=>S.nd).h ⟨λ_=>rfl,λ_=>rfl⟩;⟨t,h (),l⟩) u
def Uv.fy (D:Uv K W x q st ps) (S:Ue N ps (Ua st))
  (o:∀{f g A outer s H} {E:XK},(∀{n:Type},n->Uh k (A.deeper<|envOfC q (Ua st) s.heap.objs.size f g))->(Unit->N.Nodup)->
   CB (λ_:Unit=>Uu (ExcR.CXe P w) P w K mg base N q (Ua st) f g A outer s H E) K mg (λ_=>E) (Ut st) p) (u:Uz K mg N ps sp p):Xo P w K mg base (ExcR.CXe P w) (k+1) W ps sp:=
 D.ey S (λr=>let ⟨t,h,l⟩:=(o (λ_=>r) λ_=>S.nd).h ⟨λ_=>rfl,λ_=>rfl⟩;⟨t,h (),l⟩) u
end
mutual
noncomputable def py:D->PyData
 | .int i=>.int i
 | .bl b=>.bool b
 | .str x=>.str x
 | .tup f=>.tuple (pys f)
 | .lst f=>.list (pys f)
 | .fL g=>.list (g.map .int)
 |_=>.none
noncomputable def pys:List D->List PyData
 |[]=>[]
 |d::r=>py d::pys r
end
end Pu
namespace M
open L2 Own Pu
def A3{ps:Ye}(f:Field ps)(j:Nat):0<=(ps.getD j (0,0)).2/\(ps.getD j (0,0)).2<=1000:=by
 rw[Wj];by_cases h:j<ps.length
 ·rw[Wc h]
  have:=f _ (WB h)
  show 0<=ps[j].2/\ps[j].2<=1000;lia
 ·rw[Q6 (by lia)];exact⟨WZ 0,by decide⟩
theorem AB{ps:Ye}(f:Field ps)(y:Int):∀n:Nat,0<=tpM ps y n/\tpM ps y n<=1000*n
 | 0=>⟨WZ 0,WZ 0⟩
 |n+1=>by
  have h:=AB f y n;have w:=A3 f n;unfold tpM;split<;>lia
theorem AW{ps:Ye}(f:Field ps)(g:ps.length<=40)(x y:Int):∀n:Nat,n<=ps.length->0<=pcM ps x y n/\pcM ps x y n<=40000000*n
 | 0,_=>⟨WZ 0,WZ 0⟩
 |n+1,l=>by
  have h:=AW f g x y n (by lia);have w:=A3 f n;have t:=AB f y n;unfold pcM;split
  ·have p:=Int.mul_nonneg t.1 w.1;have o:tpM ps y n*(ps.getD n (0,0)).2<=40000*1000:=Int.mul_le_mul (by lia) w.2 w.1 (by decide);lia
  ·lia
theorem D2{c:Int->Int->Int}(f:∀x y,0<=c x y/\c x y<=1600000000):∀o:Yf,o.length<=10->0<=oc c o/\oc c o<=16000000000*o.length
 |[],_=>⟨WZ 0,WZ 0⟩
 |a::r,g=>by
  rw[WG]at g;have h:=D2 f r (by lia)
  have s:∀l:Yf,0<=(l.map<|c a).sum/\(l.map<|c a).sum<=1600000000*l.length:=λl=>by
   induction l with
   |nil=>exact⟨WZ 0,WZ 0⟩
   |cons b l n=>
    have:=f a b
    rw[W3,List.sum_cons,WG];lia
  have s:=s r;unfold oc;rw[WG];lia
end M
namespace Own
open L2
theorem El:∀{g:Ym}{f:Yl},Vals (g.map V.str) f->∃l:List (Str×Tok),f=strValues l/\l.map (·.1)=g
 |[],_,.nil=>⟨[],rfl,rfl⟩
 |t::r,_,.cons h k=>by
  obtain⟨n,rfl⟩:=h;obtain⟨l,rfl,e⟩:=El k;exact⟨(t,n)::l,rfl,by rw[W3,e]⟩
theorem AZ:∀l:List (Str×Tok),Vals ((l.map (·.1)).map V.str) (strValues l)
 |[]=>.nil
 |_::r=>.cons ⟨_,rfl⟩ (AZ r)
section
variable {X:Cx}{K:Yd}
def EG(L:X.calm=true)(T:autoParam (X.K=K) au_0):UV X (.builtin "all") (λxs H Q=>∃(p:Addr) (bs:List Bool),xs=[.ref p]/\SqL K H p (bs.map V.bl)/\Q (.bl<|bs.all id) H):=by
 subst T;intro pins s U H xs Y Q I C h;obtain⟨p,bs,rfl,M,q⟩:=h;obtain⟨u,rfl,E⟩:=C.one;obtain rfl:u=Value.ref p:=E;obtain⟨f,r,G,_⟩:=I.list M;have x:=AJ r;have o:=G.isList;have n:p<s.heap.objs.size:=by obtain⟨_,e,_⟩:=o;exact Wh e
 refine call_all_walk (wpAny_pyIter_list o ?_)
 refine⟨s.heap.objs.size,[s.heap.objs.size,p],[s.heap.objs.size],f.toArray.size,_,_,λi=>(bs[i]?).getD true,rfl,Walks.list (A:=X.A.in1) (I.ok.hd L) _ p (Ww n) f.toArray,
  ⟨⟨_,Wn _ rfl,rfl,rfl⟩,o.push _⟩,λi v s' Q' E' N y=>?_,λh' B J=>?_⟩
 ·obtain⟨b,e,rfl⟩:=x.get i v (by simpa using N);simp only[e,Option.getD_some]at y;exact Qt y
 ·have e:((List.range f.toArray.size).all λi=>(bs[i]?).getD true)=bs.all id:=by
   rw[W4,x.length];rw[Qz,W6,W6];refine⟨λz b w=>?_,λz i l=>?_⟩
   ·obtain⟨i,l,rfl⟩:=List.getElem_of_mem w
    have:=z i (Q4.mpr l)
    rw[Wc l]at this;exact this
   ·have g:=Q4.mp l;rw[Wc g];exact z _ (WB g)
  rw[e];exact⟨.bl (bs.all id),H,I.kept (t':=B) (LSm.kept_iter J),rfl,q⟩
def F0:V->List V->Hp->VK->Prop:=λx f H Q=>∃t y:Str,x=.str t/\f=[.str y]/\(y.length==0)=false/\t.length+2<=sizeLine/\∀p,H p=none->Q (.ref p) (upd H p<|.lst ((Txt.split t y).map V.str))
def RN(t y:Str):(Txt.split t y).length<=t.length+2:=by
 unfold Txt.split;split
 ·exact Vd (Qd _)
 ·split
  ·exact Vd (Qd _)
  ·rw[Vq];exact Vd (StrLaws.occ_length_le _ _ _ _ _)
def Hi:MtM X "str.split" F0:=by
 intro pins s A H x G v J Q I B C h;obtain⟨t,y,rfl,rfl,z,w,q⟩:=h;obtain⟨p,rfl⟩:=B;obtain⟨u,rfl,E⟩:=C.one;obtain⟨f,rfl⟩:=E
 have g:∀(l:List (Str×Tok)) (k:Nat),l.map (·.1)=Txt.split t y->EP X pins A Q (.ref s.heap.objs.size) {s with toks:=k,heap:=s.heap.push {cls:=.type "list",data:=.seq (strValues l).toArray}}:=λl k e=>by
  have n:=I.hok.fresh (Wk _);refine⟨.ref s.heap.objs.size,upd H s.heap.objs.size (.lst ((Txt.split t y).map V.str)),I.laid (t':=k) (λb u e=>We _ e) (Wk _) ⟨?_,strValues l,0,?_,Wn _ rfl⟩,rfl,q _ n⟩
  ·rw[Wd];exact Wu (RN t y) w
  ·rw[←e];exact AZ l
 have r:t.length<=sizeLine:=by lia
 cases o:(decide (t.length<y.length) || decide (Builtin.Str.strKind t<Builtin.Str.strKind y))
 ·cases n:(Builtin.Str.occurrences t y 0 t.length (t.length+1)).isEmpty
  ·refine QR F.slot_str_split (typeIs_str _ _ _) F.entry_str_split (F.args_str_split_2 _ _) (meets_str_split_sep t y p f o z n r<|by rw[Vq];exact Wu (Vd<|StrLaws.occ_length_le _ _ _ _ _) w) ?_;show wants _ _ _ {s with toks:=_,heap:=s.heap.push {cls:=.type "list",data:=.seq (strsFrom s.toks<|Builtin.Str.partsBetween t (Builtin.Str.occurrences t y 0 t.length (t.length+1)) y.length).toArray}}
   rw[strsFrom_eq];exact g (numbered s.toks _) _ ((numbered_texts _ _).trans ((Wl<|Vr o).trans (Wl<|Vr n)).symm)
  ·exact QR F.slot_str_split (typeIs_str _ _ _) F.entry_str_split (F.args_str_split_2 _ _) (meets_str_split_not_found t y p f o z n) (g [(t,p)] _ ((Wl<|Vr o).trans (Wp n)).symm)
 ·exact QR F.slot_str_split (typeIs_str _ _ _) F.entry_str_split (F.args_str_split_2 _ _) (meets_str_split_cannot_occur t y p f o) (g [(t,p)] _ (Wp o).symm)
def rJoin(K:Yd):V->List V->Hp->VK->Prop:=λx h H Q=>∃(f:Str) (a:Addr) (g:Ym),x=.str f/\h=[.ref a]/\SqL K H a (g.map V.str)/\JoinOk f g=true/\Q (.str<|Txt.join f g) H
def Cs(z:autoParam (X.K=K) au_0):MtM X "str.join" (rJoin K):=by
 subst z;intro pins s A H x B v C Q I g n h;obtain⟨f,a,E,rfl,rfl,y,ok,q⟩:=h;obtain⟨G,rfl⟩:=g;obtain⟨u,rfl,o⟩:=n.one;obtain rfl:u=Value.ref a:=o;obtain⟨w,r,p,_⟩:=I.list y;obtain⟨l,rfl,e⟩:=El r;exact SC.join p.isList e ok λJ k=>⟨.str _,H,I.tok k,⟨_,rfl⟩,q⟩
end
def Lits(P:Params):List DictEntry->List (Str×Int)->Prop
 |[],[]=>True
 |e::r,p::q=>(∃t,e.key=.str p.1 t)/\e.hash=PyData.keyHash P p.1/\(∃t,e.val=.int p.2 t)/\Lits P r q
 |_,_=>False
def Lits.keys {P:Params}:∀{l:List DictEntry}{f:List (Str×Int)},Lits P l f->PySem.W.KeysLit P l
 |[],_,_=>trivial
 |_::_,[],h=>h.elim
 |_::_,p::_,⟨⟨t,n⟩,g,_,h⟩=>⟨⟨p.1,t,n,g⟩,h.keys⟩
def Lits.find {P:Params} (x:Str):∀{l:List DictEntry}{f:List (Str×Int)},Lits P l f->RelO ((f.lookup x).map V.int) ((l.find? λd=>Value.isStrOf x d.key).map (·.val))
 |[],[],_=>by trivial
 |[],_::_,h=>h.elim
 |_::_,[],h=>h.elim
 |e::l,p::q,⟨⟨t,o⟩,_,⟨r,n⟩,h⟩=>by
  obtain⟨k,i⟩:=p;rw[Qn,WW,o];by_cases z:x=k
  ·subst z;have g:Value.isStrOf x (.str x t)=true:=by simp[Value.isStrOf]
   simp only[beq_self_eq_true,g];show RelO (some<|V.int i) (some e.val);rw[n];exact⟨_,rfl⟩
  ·have g:Value.isStrOf x (.str k t)=false:=by simp[Value.isStrOf];exact λe=>z e.symm
   simp only[Qx.mpr z,g];exact h.find x
structure SZ (K:Yd) (P:Params) (mg:Yh) (x:Str) (kvs:List (Str×Int)):Prop where
 ex:∃a es n,mg x=some (.ref a)/\(a==sysModules)=false/\K.lookup a=some ⟨.type "dict",none,.dict es n,#[]⟩/\Lits P es.toList kvs
section
variable {X:Cx}{x:Str}{kvs:List (Str×Int)}{i:Expr}{ty:TE}{pos pos':Pos}
noncomputable def Gd(kvs:List (Str×Int))(ty:TE):TE:=λf H Q=>ty f H λy g=>∃z,y=.str z/\Q (.bl (kvs.lookup z).isSome) g
def Bq(C:SZ X.K X.w.params X.mg x kvs)(M:PE X i ty)(N:autoParam (Gl X x) au_0)(T:autoParam ((x==("__debug__" : Str))=false) au_1):PC X .In i (.Name x pos) (Gd kvs ty):=by
 intro pins s l H Q I h;obtain⟨a,p,n,h1,Y,U,o⟩:=C.ex;refine thn (M pins s l H _ I h) ?_;rintro iv B ⟨y,r,I1,E,L⟩;refine thn (TM (v:=.ref a) N h1 rfl T pins B l r (λv g=>v=.ref a/\g=r) I1 ⟨rfl,rfl⟩) ?_;rintro u s2 ⟨_,g,q,G,e1,e2⟩;subst e1;subst e2;obtain rfl:u=Value.ref a:=G;obtain⟨z,rfl,J⟩:=L;obtain⟨A,rfl⟩:=E;refine wpAny_in_of (strKind_is X.prog X.w z A) Y (PySem.W.mapOf_K (prog:=X.prog) q.kIn U o.keys) ?_;have f:=(o.find z).isSome_eq;rw[Vw]at f
 have e:findBy Value.isStrOf p z=(p.toList.find? λd=>Value.isStrOf z d.key).map (·.val):=by
  unfold findBy;rw[←List.find?_toArray]
 rw[e,←f];exact⟨.bl _,g,q.tok _,rfl,J⟩
end
end Own
namespace Pu
open L2 Own
section
variable {K:Yd}{mg:Yh}{E:L2.St->XK}
theorem Rps.of_strs {H:Hp}:∀f:Ym,Rps K H (f.map D.str) (f.map V.str)
 |[]=>.nil
 |_::r=>.cons (.str _) (Rps.of_strs r)
theorem Rps.strs {H:Hp}:∀{f:Ym}{vs:List V},Rps K H (f.map D.str) vs->vs=f.map V.str
 |[],_,.nil=>rfl
 |t::r,_,.cons h k=>by rw[Rps.strs k];cases h;rfl
def Bc:List S->(S->Prop)->Prop
 |[s],R=>∃bs:List Bool,s.d=.lst (bs.map D.bl)/\R (.sh<|.bl<|bs.all id)
 |_,_=>False
def EE{f:TA}{r:PTA}(w:Um K mg E f r):JZ K mg E (tCB (λxs H Q=>∃(p:Addr) (bs:List Bool),xs=[.ref p]/\SqL K H p (bs.map V.bl)/\Q (.bl<|bs.all id) H) f) (pCB Bc r):=by
 refine XI w λJ H y Z B z R Q s C G n h q=>?_;unfold Bc at h;split at h
 ·obtain⟨v,rfl,o⟩:=n.one_inv;obtain⟨bs,e,x⟩:=h;have g:=o.rp s;rw[e]at g;obtain⟨a,A,rfl,l,u⟩:=g.lst_inv;rw[u.bls]at l;exact⟨a,bs,rfl,SqL.of l,q _ _ y x (Same.refl _) (.bl _)⟩
 ·exact h.elim
noncomputable def pBT(f:Str->D->(S->Prop)->Prop)(a b:PTE):PTE:=λg R X=>a g (λs=>match s.d with | .str t=>b g (λu=>f t u.d R) X|_=>False) X
def D8{G:V->List V->Hp->VK->Prop}{f:Str->D->(S->Prop)->Prop}{te C:TE}{a b:PTE}(ha:JZ K mg E te a)(hb:JZ K mg E C b)(Y:∀(p H l:Hp) (Z:Addr->Prop) (t:Str) (d:D) (u:V) (R:S->Prop) (Q:VK),Same H l->Rp K l d u->f t d R->(∀s v o,R s->Same l o->TV K Z p H o s v->Q v o)->G (.str t) [u] l Q):JZ K mg E (tBM K "str" G te<|UE C UY) (pBT f a b):=by
 intro p B H z A R X Q n h q L;refine ha p B H z A _ X _ n h (λs v H1 x r T=>?_) L;have g:=n.grow r;have J:=T.rp g.same;split at x
 ·rename_i t et;rw[et]at J;cases J
  refine⟨rfl,hb p B H1 z A _ X _ g x (λu w l h2 y N=>?_) λc H' hc S'=>L c H' hc (r.trans S')⟩;exact Y p H l _ t _ _ _ _ (r.trans y) (N.rp (g.grow y).same) h2 λs v o U S3 M=>q s v o U ((r.trans y).trans S3) M
 ·exact x.elim
def DO:Str->D->(S->Prop)->Prop:=λt d R=>match d with
 | .str y=>(y.length==0)=false/\t.length+2<=sizeLine/\R (.own ((Txt.split t y).map D.str))
 |_=>False
def G6{te f:TE}{a b:PTE}(n:JZ K mg E te a)(l:JZ K mg E f b):JZ K mg E (tBM K "str" F0 te<|UE f UY) (pBT DO a b):=by
 refine D8 n l λv H s Z t d u R Q o r h q=>?_;unfold DO at h;split at h
 ·cases r
  exact⟨t,_,rfl,rfl,h.1,h.2.1,λp g=>q _ _ _ h.2.2 (UI g) (Kr o g<|Rps.of_strs _)⟩
 ·exact h.elim
def Fm:Str->D->(S->Prop)->Prop:=λt d R=>match d with
 | .lst g=>∃f:Ym,g=f.map D.str/\JoinOk t f=true/\R (.sh<|.str<|Txt.join t f)
 |_=>False
def DC{te f:TE}{a b:PTE}(s:JZ K mg E te a)(p:JZ K mg E f b):JZ K mg E (tBM K "str" (rJoin K) te<|UE f UY) (pBT Fm a b):=by
 refine D8 s p λz H w Z t d u R Q y r h q=>?_;unfold Fm at h;split at h
 ·obtain⟨n,rfl,ok,v⟩:=h;obtain⟨l,x,rfl,g,o⟩:=r.lst_inv;rw[o.strs]at g;exact⟨t,l,n,rfl,rfl,SqL.of g,ok,q _ _ w v (Same.refl _) (.str _)⟩
 ·exact h.elim
noncomputable def LW(f:List (Str×Int))(a:PTE):PTE:=λg R X=>a g (λs=>match s.d with | .str z=>R (.sh (.bl (f.lookup z).isSome))|_=>False) X
def NS{f:List (Str×Int)}{te:TE}{a:PTE}(x:JZ K mg E te a):JZ K mg E (Gd f te) (LW f a):=by
 intro A B H p r R X Q g h q w;refine x A B H p r _ X _ g h (λs v z l o u=>?_) w;have n:=u.rp (g.grow o).same;split at l
 ·rename_i t y;rw[y]at n;cases n
  exact⟨t,rfl,q _ _ z l o (.bl _)⟩
 ·exact l.elim
end
end Pu
namespace Own
open L2
noncomputable def Its(x:Str):It:=⟨λi _=>i<x.cps.size,λi H v f=>f=H/\∃c,x.cps[i]?=some c/\v=.str ⟨#[c]⟩,λi _=>x.cps.size<=i⟩
def Rn{P:Program}{w:World}{K:Yd}{tg:Expr}(x:Str)(t:Tok)(it:Addr):Turn P w K tg (Its x) [it] it (λi h=>h.IsStrIter it "str_ascii_iterator" x t i) where
 mem:=by simp
 obj:=λi h st b hb=>by
  have e:b=it:=by simpa using hb
  subst e;obtain⟨o,e,c,d⟩:=st;exact⟨o,e,λv z=>by rw[d]at z;cases z⟩
 keep:=λi h h' st k=>by
  obtain⟨o,e,c,d⟩:=st;exact⟨o,k it (by simp) o e,c,d⟩
 item:=by
  intro X hP hw hK hc i pins s σ H E I hf st hg;subst hP hw hK;have hx:x.cps[i]?=some (x.cps[i]'hg):=WN hg;obtain⟨f0,f1,f2,f3,f4,f5⟩:=hf it (by simp);refine wpAny_pyNext_ascii_item st hx λh' st' sb=>?_;have I1:Inv X pins σ H {s with heap:=h',toks:=s.toks+1}:=I.turned (t':=s.toks+1) (λb o hb e=>(sb.2 b hb).trans e) f0 f1 f3 f4 f5
  obtain⟨o,e,c,d⟩:=id st';exact⟨_,rfl,Sk (s:={s with heap:=h',toks:=s.toks+1}) e c d (by decide) ⟨.str ⟨#[x.cps[i]'hg]⟩,H,I1,⟨_,rfl⟩,⟨rfl,_,hx,rfl⟩,st',λb hb=>(hf b hb).1⟩⟩
 done:=by
  intro X hP hw hK hc i pins s σ H E I hf st hg;subst hP hw hK;obtain⟨f0,f1,f2,f3,f4,f5⟩:=hf it (by simp);have hx:x.cps[i]?=none:=QX hg;exact wpAny_pyNext_ascii_end (I.ok.hd hc) st hx λh' eb=>⟨rfl,I.turned (t':=s.toks) (λb o hb e=>eb b o hb e) f0 f1 f3 f4 f5⟩
 self:=λ_ _ _ _ _ st h=>wpAny_pyIter_striter_ascii st h
noncomputable def AY(g:TE):TI:=λf H R=>g f H λv h=>∃x:Str,v=.str x/\x.cps.all (· < 128)=true/\R (Its x) h
section
variable {X:Cx}{K:Yd}{tg:Expr}
def Zcr{l:Expr}{n:TE}(y:PE X l n):PI X tg l (AY n):=by
 intro pins s p H R I h;refine thn (y pins s p H _ I h) ?_;rintro v f ⟨x,C,g,u,w⟩;obtain⟨z,e,B,q⟩:=w;subst e;obtain⟨r,rfl⟩:=u;refine wpAny_pyIter_ascii B ?_;refine⟨f.heap.objs.size,[f.heap.objs.size],_,_,C,rfl,g.kept (t':=f.toks) λb o e=>We _ e,Rn z r _,⟨_,Wn _ rfl,rfl,rfl⟩,λb A=>?_,q⟩;have e:b=f.heap.objs.size:=by simpa using A
 subst e;exact g.fpOk (Wk _) (g.hok.fresh<|Wk _)
noncomputable def Gn:R2:=λx y H Q=>∃(c:Nat) (t:Str),x=.str ⟨#[c]⟩/\y=.str t/\Q (.bl<|decide (c∈t.cps.toList)) H
def Mt:OpR X (compareOp .In) Gn:=by
 intro pins s n H x y v u Q I l g h;obtain⟨c,t,rfl,rfl,q⟩:=h;obtain⟨o,rfl⟩:=l;obtain⟨f,rfl⟩:=g;refine P.in_str ?_;rw[StrLaws.found_one];exact⟨.bl _,H,I,rfl,q⟩
def LS:UV X (.type "int") (λxs H Q=>∃(t:Str) (n:Int),xs=[.str t]/\PySem.intText? t=some n/\t.length<=640/\Q (.int n) H):=by
 intro pins s l H xs o Q I r h;obtain⟨t,n,rfl,g,f,q⟩:=h;obtain⟨u,rfl,p,rfl⟩:=r.one;exact PySem.W.KIN.call_text g f ⟨.int n,H,I.tok _,⟨_,rfl⟩,q⟩
end
end Own
namespace Pu
open L2 Own
section
variable {K:Yd}{mg:Yh}{E:L2.St->XK}
noncomputable def pIS(a:PTE):PTI:=λf R X=>a f (λs=>match s.d with | .str x=>x.cps.all (· < 128)=true/\R x.cps.size (λi=>.sh (.str ⟨#[x.cps.getD i 0]⟩))|_=>False) X
def HP{te:TE}{a:PTE}(A:JZ K mg E te a):SndI K mg E (AY te) (pIS a):=by
 intro L B H o p R X Q f h q u;refine A L B H o p _ X _ f h (λs v J g n r=>?_) u;have l:=r.rp (f.grow n).same;split at g
 ·rename_i x C;rw[C]at l;cases l
  refine⟨x,rfl,g.1,q _ _ _ J g.2 n ⟨λi N G w lt=>?_,λN G lt=>Wk _⟩⟩;refine⟨w,λv M y=>?_⟩;obtain⟨rfl,c,z,rfl⟩:=y;have e:x.cps.getD i 0=c:=by rw[Array.getD_eq_getD_getElem?,z];rfl
  rw[e];exact⟨Same.refl _,.str _⟩
 ·exact g.elim
def ED:S->S->(S->Prop)->Prop:=λx y R=>match x.d,y.d with
 | .str t,.int i=>t.length<=sizeLine/\∃c,atI t.cps.toList i=some c/\R (.sh<|.str ⟨#[c]⟩)
 |_,_=>False
def Rv{g f:TE}{a b:PTE}(w:JZ K mg E g a)(s:JZ K mg E f b):JZ K mg E (tOp Eo g f) (p2 a b ED):=by
 refine Xq w s λN H J Z x y v u R Q l L M r p h q=>?_;have o:=r.rp l;have n:=p.rp l;unfold ED at h;split at h
 ·rename_i t i G C;rw[G]at o;rw[C]at n;cases o
  cases n
  obtain⟨B,c,A,z⟩:=h;exact⟨t,i,c,rfl,rfl,B,A,q _ _ J z (Same.refl _) (.str _)⟩
 ·exact h.elim
def Sx:S->S->(S->Prop)->Prop:=λx y R=>match x.d,y.d with
 | .str s,.str t=>∃c,s=⟨#[c]⟩/\R (.sh<|.bl<|decide (c∈t.cps.toList))
 |_,_=>False
def RR{g f:TE}{a b:PTE}(z:JZ K mg E g a)(w:JZ K mg E f b):JZ K mg E (tOp Gn g f) (p2 a b Sx):=by
 refine Xq z w λM H G Z x y v u R Q l J L r p h q=>?_;have o:=r.rp l;have n:=p.rp l;unfold Sx at h;split at h
 ·rename_i s t C B;rw[C]at o;rw[B]at n;cases o
  cases n
  obtain⟨c,rfl,A⟩:=h;exact⟨c,t,rfl,rfl,q _ _ G A (Same.refl _) (.bl _)⟩
 ·exact h.elim
def Ah:List S->(S->Prop)->Prop
 |[s],R=>(match s.d with | .str t=>∃n,PySem.intText? t=some n/\t.length<=640/\R (.sh<|.int n)|_=>False)
 |_,_=>False
def La{f:TA}{r:PTA}(s:Um K mg E f r):JZ K mg E (tCB (λxs H Q=>∃(t:Str) (n:Int),xs=[.str t]/\PySem.intText? t=some n/\t.length<=640/\Q (.int n) H) f) (pCB Ah r):=by
 refine XI s λG H y Z A z R Q p B C l h q=>?_;unfold Ah at h;split at h
 ·obtain⟨v,rfl,o⟩:=l.one_inv;have g:=o.rp p;split at h
  ·rename_i t e;rw[e]at g;cases g
   obtain⟨n,x,w,u⟩:=h;exact⟨t,n,rfl,x,w,q _ _ y u (Same.refl _) (.int _)⟩
  ·exact h.elim
 ·exact h.elim
def DV:List S->(S->Prop)->Prop
 |[s],R=>(match s.d with | .int i=>i.natAbs.log2<1920/\R (.sh<|.str<|toString i)|_=>False)
 |_,_=>False
def A6{f:TA}{r:PTA}(p:Um K mg E f r):JZ K mg E (tCB (λxs H Q=>∃i,xs=[.int i]/\i.natAbs.log2<1920/\Q (.str<|toString i) H) f) (pCB DV r):=by
 refine XI p λz H s Z w u R Q o x y l h q=>?_;unfold DV at h;split at h
 ·obtain⟨v,rfl,n⟩:=l.one_inv;have g:=n.rp o;split at h
  ·rename_i i e;rw[e]at g;cases g
   exact⟨i,rfl,h.1,q _ _ s h.2 (Same.refl _) (.str _)⟩
  ·exact h.elim
 ·exact h.elim
end
end Pu
namespace M
open L2 Own Pu
noncomputable def spc:Str:=⟨#[32]⟩
def DS{a b:Str}(h:a.cps.toList=b.cps.toList):a=b:=by
 obtain⟨a⟩:=a;obtain⟨b⟩:=b;rw[show a=b from Array.toList_inj.mp h]
def Na(a b:Str):(a++b).cps.toList=a.cps.toList++b.cps.toList:=by
 show(a.cps++b.cps).toList=_;rw[Array.toList_append]
def N6(c:Nat)(x y:Str)(r:Ym):(Str.join ⟨#[c]⟩ (x::y::r)).cps.toList=x.cps.toList++c::(Str.join ⟨#[c]⟩ (y::r)).cps.toList:=by
 show(x++⟨#[c]⟩++Str.join ⟨#[c]⟩ (y::r)).cps.toList=_;rw[Na,Na,QW];rfl
theorem Gq{c:Nat}:∀{a b r s:Yk},c∉a->c∉b->a++c::r=b++c::s->a=b/\r=s
 |[],[],_,_,_,_,h=>⟨rfl,(List.cons.inj h).2⟩
 |[],y::b,_,_,_,f,h=>absurd ((List.cons.inj h).1▸Wz) f
 |x::a,[],_,_,g,_,h=>absurd ((List.cons.inj h).1.symm▸Wz) g
 |x::a,y::b,r,s,g,f,h=>by
  obtain⟨n,l⟩:=List.cons.inj h;obtain⟨p,o⟩:=Gq (λz=>g (Wr _ z)) (λz=>f (Wr _ z)) l;exact⟨by rw[n,p],o⟩
theorem Ad(c:Nat):∀{f us:Ym},f≠[]->us≠[]->(∀w∈f,c∉w.cps.toList)->(∀w∈us,c∉w.cps.toList)->(Str.join ⟨#[c]⟩ f).cps.toList=(Str.join ⟨#[c]⟩ us).cps.toList->f=us
 |[],_,h,_,_,_,_=>absurd rfl h
 |_,[],_,h,_,_,_=>absurd rfl h
 |[x],[y],_,_,_,_,h=>by rw[DS (a:=x) (b:=y) h]
 |[x],y::z::r,_,_,hx,_,h=>by
  rw[N6]at h;have h:x.cps.toList=_:=h;exact absurd (by rw[h];simp) (hx x Wz)
 |x::z::r,[y],_,_,_,g,h=>by
  rw[N6]at h;have h:_=y.cps.toList:=h;exact absurd (by rw[←h];simp) (g y Wz)
 |x::p::r,y::o::s,_,_,hx,g,h=>by
  rw[N6,N6]at h;obtain⟨n,l⟩:=Gq (hx x Wz) (g y Wz) h;rw[DS n,Ad c (by simp) (by simp) (λw hw=>hx w (Wr _ hw)) (λw hw=>g w (Wr _ hw)) l]
def Zcl(x y:Str):Txt.split x y≠[]:=by
 unfold Txt.split;split
 ·simp
 ·split
  ·simp
  ·intro z
   have:=WJ List.length z
   rw[Vq]at this;cases this
def FS{c:Nat}{f:Ym}(g:f≠[])(h:∀w∈f,c∉w.cps.toList):Txt.split (Str.join ⟨#[c]⟩ f) ⟨#[c]⟩=f:=
 Ad c (Zcl _ _) g (StrLaws.split_free _ c) h (by rw[StrLaws.join_split])
noncomputable def nS(n:Int):Str:=Str.ofString (toString n)
noncomputable def X6(x:Str):Bool:=!(decide ((x.length:Int)<1) || decide ((x.length:Int)>4)) && !(decide (x.cps.toList.head?=some 48) && !decide (x=("0" : Str)))&&(x.cps.toList.map λc=>decide (c∈("0123456789" : Str).cps.toList)).all id
def Ov:((List.range 10000).all λm=>decide ((Nat.toDigits 10 m).length<=4) && !(decide ((Nat.toDigits 10 m).head?=some '0') && !decide (m=0)))=true:=by decide +kernel
def NI(m:Nat):(nS (m:Int)).cps.toList=(Nat.toDigits 10 m).map Char.toNat:=PySem.W.KIN.signs_num m
def TH{n:Int}(h:0<=n):∀c∈(nS n).cps.toList,48<=c/\c<=57:=by
 obtain⟨m,rfl⟩:=Int.eq_ofNat_of_zero_le h;intro c g;rw[NI]at g;obtain⟨l,f,e⟩:=WC.mp g;rw[←e];exact digit_range (Nat.isDigit_of_mem_toDigits (by decide) (by decide) f)
def KQ{n:Int}(q:0<=n)(r:n<=9999):1<=(nS n).length/\(nS n).length<=4/\((nS n).cps.toList.head?=some 48->n=0):=by
 obtain⟨m,rfl⟩:=Int.eq_ofNat_of_zero_le q;have h:=W6.mp Ov m (Q4.mpr<|by lia);rw[W2]at h;have p:=Wx h.1
 have l:(nS (m:Int)).length=(Nat.toDigits 10 m).length:=by
  have:=WJ List.length (NI m)
  rw[Wd,WV]at this;exact this
 refine⟨?_,by rw[l];exact p,λz=>?_⟩
 ·rw[l];exact toDigits_len_ge 10 m
 ·rw[NI,List.head?_map]at z;have f:=h.2;cases e:(Nat.toDigits 10 m).head? with
  |none=>rw[e]at z;cases z
  |some o=>
   rw[e]at z f
   have g:o='0':=Char.ext (by
    have z:o.toNat=48:=Wm z;exact UInt32.toNat_inj.mp z)
   rw[g,Wi rfl,Vu,Bool.not_not]at f
   have:=Wx f
   lia
def GV{n:Int}(f:0<=n)(o:n<=9999):X6 (nS n)=true:=by
 obtain⟨q,p,g⟩:=KQ f o;unfold X6;rw[Wq (by lia),Wq (by lia)];rw[W2,W2];refine⟨⟨rfl,?_⟩,?_⟩
 ·by_cases z:(nS n).cps.toList.head?=some 48
  ·rw[g z];decide +kernel
  ·rw[Wq z];rfl
 ·rw[W6];intro b l;obtain⟨c,h,rfl⟩:=WC.mp l;obtain⟨s,r⟩:=TH f c h
  have:c=48\/c=49\/c=50\/c=51\/c=52\/c=53\/c=54\/c=55\/c=56\/c=57:=by lia
  rcases this with rfl|rfl|rfl|rfl|rfl|rfl|rfl|rfl|rfl|rfl<;>decide +kernel
def Ia{n:Int}(g:0<=n):(nS n).cps.all (· < 128)=true:=by
 rw[←Array.all_toList,W6];intro c f
 have:=TH g c f
 exact Wi (by lia)
def BO{n:Int}(f:0<=n):32∉(nS n).cps.toList:=λz=>by
 have:=TH f 32 z
 lia
def M8{n:Int}(f:0<=n)(g:n<=9999):PySem.intText? (nS n)=some n:=PySem.W.KIN.num_reads f (by lia)
end M
namespace Own
open L2
def Zav(z:Str)(xs:Ym):inV (.str z) (xs.map V.str)=decide (z∈xs):=by
 unfold inV;rw[List.any_map,Qz,List.any_eq_true,decide_eq_true_iff];refine⟨λ⟨x,hx,h⟩=>?_,λh=>⟨z,h,?_⟩⟩
 ·have h:eqV (.str x) (.str z)=true:=h
  have:x=z:=by simpa [eqV]using h
  exact this▸hx
 ·show eqV (.str z) (.str z)=true;simp[eqV]
def Hr(xs:Ym):(xs.map V.str).all Xa=true:=by
 rw[List.all_map,W6];intro x _;rfl
structure Ar (K:Yd) (mg:Yh) (x:Str) (ts:Ym):Prop where
 ex:∃a dd sl its n,mg x=some (.ref a)/\K.lookup a=some ⟨.type "tuple",dd,.seq its n,sl⟩/\its.size<=sizeLine/\Vals (ts.map V.str) its.toList
section
variable {X:Cx}{x:Str}{ts:Ym}{i:Expr}{ty:TE}{pos:Pos}
noncomputable def D9(ts:Ym)(ty:TE):TE:=λf H Q=>ty f H λy g=>∃z,y=.str z/\Q (.bl<|decide (z∈ts)) g
def GF(C:Ar X.K X.mg x ts)(L:PE X i ty)(M:autoParam (Gl X x) au_0)(N:autoParam ((x==("__debug__" : Str))=false) au_1):PC X .In i (.Name x pos) (D9 ts ty):=by
 intro pins s f H Q I h;obtain⟨a,dd,sl,g,n,U,T,J,r⟩:=C.ex;refine thn (L pins s f H _ I h) ?_;rintro G q ⟨y,o,I1,w,E⟩;refine thn (TM (v:=.ref a) M U rfl N pins q f o (λv l=>v=.ref a/\l=o) I1 ⟨rfl,rfl⟩) ?_;rintro u p ⟨_,l,I2,A,e1,Y⟩;subst e1;subst Y;obtain rfl:u=Value.ref a:=A;obtain⟨z,rfl,B⟩:=E;refine Es pins p f l (.str z) (.ref a) G _ Q I2 w rfl ⟨a,ts.map V.str,rfl,.inr (.inr ⟨_,g,n,T,rfl,rfl,J,r⟩),rfl,Hr ts,?_⟩;rw[Zav];exact B
end
end Own
namespace Pu
open L2 Own
section
variable {K:Yd}{mg:Yh}{E:L2.St->XK}
noncomputable def Iv(g:Ym)(a:PTE):PTE:=λf R X=>a f (λs=>match s.d with | .str z=>R (.sh<|.bl<|decide (z∈g))|_=>False) X
def Lz{l:Ym}{te:TE}{a:PTE}(x:JZ K mg E te a):JZ K mg E (D9 l te) (Iv l a):=by
 intro A B H p r R X Q f h q w;refine x A B H p r _ X _ f h (λs v z g o u=>?_) w;have n:=u.rp (f.grow o).same;split at g
 ·rename_i t y;rw[y]at n;cases n
  exact⟨t,rfl,q _ _ z g o (.bl _)⟩
 ·exact g.elim
end
end Pu
namespace T
open L2
noncomputable def top(i:Nat):Stmt:=PySem.Challenge.pw_stripmeld_k07_no_order.main.body.getD i (.Pass ⟨0,0,0,0⟩)
noncomputable abbrev Br:Stmt:=top 24
def OV:Ue ["holder"] ["holder"] (Ua Br):=Pu.fs
noncomputable abbrev Sf:Stmt:=top 25
def ID:Ue ["width"] ["width"] (Ua Sf):=Pu.fs
noncomputable abbrev Bm:Stmt:=top 26
def O4:Ue ["strips","holder","width"] ["strips"] (Ua Bm):=Pu.fs
noncomputable abbrev B8:Stmt:=top 27
def Zam:Ue ["strips"] ["strips"] (Ua B8):=Pu.fs
noncomputable abbrev B0:Stmt:=top 28
def Zar:Ue ["strips","order"] ["strips","order"] (Ua B0):=Pu.fs
noncomputable abbrev BN:Stmt:=top 29
def Od:Ue ["strips","order","field","holder"] ["strips","order"] (Ua BN):=Pu.fs
noncomputable abbrev NQ:Stmt:=top 31
def HL:Ue ["strips","ahead","behind","to_pass","cost","holder","width"] ["strips","ahead","behind"] (Ua NQ):=Pu.fs
noncomputable abbrev Fj:Stmt:=top 32
def Zb2:Ue ["strips","order","cost","index","ahead","behind"] ["strips","order"] (Ua Fj):=Pu.fs
noncomputable abbrev SM:Stmt:=top 34
def RZ:Ue ["strips"] ["strips"] (Ua SM):=Pu.fs
noncomputable abbrev Bp:Stmt:=top 35
def Zbf:Ue ["strips","numbers","place","left","right"] ["strips","numbers","place"] (Ua Bp):=Pu.fs
noncomputable abbrev Su:Stmt:=top 36
def Hg:Ue ["numbers","place"] ["numbers","place"] (Ua Su):=Pu.fs
noncomputable abbrev SL:Stmt:=top 37
def Zcj:Ue ["numbers","ranks","place"] ["numbers","ranks"] (Ua SL):=Pu.fs
noncomputable abbrev SK:Stmt:=top 38
def Zbi:Ue ["strips","order","ranks","numbers","moves","place"] ["strips","order"] (Ua SK):=Pu.fs
noncomputable abbrev SN:Stmt:=top 42
def EW:Ue ["order","wishes","index_of","index","holder","between"] ["order","wishes"] (Ua SN):=Pu.fs
noncomputable abbrev Sh:Stmt:=inClass (top 68) 0
def L0:Ue ["self","strips"] ["self","strips"] (Ua Sh):=Pu.fs
noncomputable abbrev NY:Stmt:=inClass (top 68) 1
def Ru:Ue ["self"] ["self"] (Ua NY):=Pu.fs
noncomputable abbrev BY:Stmt:=inClass (top 68) 2
def LN:Ue ["self"] ["self"] (Ua BY):=Pu.fs
noncomputable abbrev Sm:Stmt:=inClass (top 68) 3
def Ry:Ue ["self"] ["self"] (Ua Sm):=Pu.fs
noncomputable abbrev SA:Stmt:=inClass (top 68) 19
def IW:Ue ["self","order"] ["self","order"] (Ua SA):=Pu.fs
noncomputable abbrev NJ:Stmt:=inClass (top 68) 20
def IG:Ue ["self","order"] ["self","order"] (Ua NJ):=Pu.fs
noncomputable abbrev B7:Stmt:=top 75
def GR:Ue ["text"] ["text"] (Ua B7):=Pu.fs
noncomputable abbrev Bk:Stmt:=top 76
def GI:Ue ["word","texts"] ["word","texts"] (Ua Bk):=Pu.fs
noncomputable abbrev Sb:Stmt:=top 77
def Md:Ue ["texts"] ["texts"] (Ua Sb):=Pu.fs
noncomputable abbrev NM:Stmt:=top 80
def HZ:Ue ["wishes"] ["wishes"] (Ua NM):=Pu.fs
noncomputable abbrev Bg:Stmt:=top 84
def IZ:Ue ["village","word","numbers"] ["village","word","numbers"] (Ua Bg):=Pu.fs
noncomputable abbrev BI:Stmt:=top 85
def Mh:Ue ["village","word","numbers","many"] ["village","word","numbers"] (Ua BI):=Pu.fs
noncomputable abbrev BF:Stmt:=top 86
def A0:Ue ["village","word","numbers","e","members"] ["village","word","numbers"] (Ua BF):=Pu.fs
noncomputable abbrev NU:Stmt:=top 87
def GY:Ue ["village","row","words"] ["village","row"] (Ua NU):=Pu.fs
noncomputable abbrev Bo:Stmt:=top 89
def IE:Ue ["_law_script","_law_k"] ["_law_script","_law_k"] (Ua Bo):=Pu.fs
noncomputable abbrev Fi:Stmt:=top 90
def MX:Ue ["_law_found"] ["_law_found"] (Ua Fi):=Pu.fs
noncomputable abbrev Fc:Stmt:=top 91
def Zac:Ue ["_law_cell","_law_place","_law_first"] ["_law_cell","_law_place"] (Ua Fc):=Pu.fs
noncomputable abbrev BJ:Stmt:=top 92
def Hq:Ue ["_law_script","_law_k"] ["_law_script","_law_k"] (Ua BJ):=Pu.fs
noncomputable abbrev S8:Stmt:=top 93
def IY:Ue ["_law_cell","_law_wide","_law_least"] ["_law_cell"] (Ua S8):=Pu.fs
noncomputable abbrev Sv:Stmt:=top 94
def GT:Ue ["_law_menu_here","_law_k"] ["_law_menu_here","_law_k"] (Ua Sv):=Pu.fs
noncomputable abbrev NP:Stmt:=top 95
def Rq:Ue ["_law_script","_law_menu_here","_law_many","_law_strips_here","_law_k","_law_cell","_law_width"] ["_law_script","_law_menu_here","_law_many"] (Ua NP):=Pu.fs
noncomputable abbrev Bs:Stmt:=top 96
def R7:Ue ["_law_found","_law_due","_law_k"] ["_law_found","_law_due"] (Ua Bs):=Pu.fs
noncomputable abbrev NN:Stmt:=top 97
def Zba:Ue ["_law_found","_law_due","_law_k","_law_j"] ["_law_found","_law_due"] (Ua NN):=Pu.fs
noncomputable abbrev BS:Stmt:=top 98
def O5:Ue ["_law_strips_here","_law_owners"] ["_law_strips_here"] (Ua BS):=Pu.fs
noncomputable abbrev SO:Stmt:=top 99
def Tj:Ue ["_law_holders","_law_cell","_law_left","_law_order","_law_rest"] ["_law_holders","_law_cell"] (Ua SO):=Pu.fs
noncomputable abbrev Sy:Stmt:=top 100
def LZ:Ue ["_law_order","_law_cell","_law_twice","_law_odd","_law_spot"] ["_law_order","_law_cell"] (Ua Sy):=Pu.fs
noncomputable abbrev BA:Stmt:=top 101
def X5:Ue ["_law_which","_law_strips_here","_law_village","_law_order","_law_kinds","e"] ["_law_which","_law_strips_here","_law_village","_law_order"] (Ua BA):=Pu.fs
noncomputable abbrev SW:Stmt:=top 102
def Zab:Ue ["_law_village","_law_order","_law_good","_law_number","_law_word","_law_row_here","_law_found"] ["_law_village","_law_order","_law_good"] (Ua SW):=Pu.fs
noncomputable abbrev XB:Stmt:=top 103
def HG:Ue ["_law_script","_law_menu_here","_law_strips_here","_law_cell","_law_order","_law_good","_law_village","_law_which","_law_handed","_law_named","_law_kinds"] ["_law_script"] (Ua XB):=Pu.fs
structure Glob (w:World) (K:Yd) (mg:Yh):Prop where
 Zh:mg "ValueError"=none
 ZJ:mg "all"=none
 ZN:mg "bool"=none
 Zq:mg "enumerate"=none
 Z9:mg "int"=none
 Za:mg "isinstance"=none
 len:mg "len"=none
 Zi:mg "list"=none
 Zj:mg "range"=none
 ZO:mg "set"=none
 Zr:mg "sorted"=none
 ZA:mg "str"=none
 ZM:mg "tuple"=none
 Zv:∃u,mg "HOLDERS"=some u/\RelV (.int 10) u
 Zy:∃u,mg "STRIPS"=some u/\RelV (.int 40) u
 Zz:∃u,mg "WIDEST"=some u/\RelV (.int 1000) u
 ZI:∃u,mg "FIGURES"=some u/\RelV (.str "0123456789") u
 Z0:∃u,mg "MOST_FIGURES"=some u/\RelV (.int 4) u
 Z4:Own.SZ K w.params mg "DEEDS" [("sell",2),("part",2),("unite",1),("wish",2),("drop",2)]
 ZK:Own.SZ K w.params mg "OTHERS" [("back",0),("field",0),("wishes",0),("stood",1),("ring",0),("order",0),("cost",0),("moves",0),("offer",2)]
 ZL:Own.Ar K mg "ORDERS" ["price","broken"]
 Zg:mg "MeldError"=some (.ref<|ExcR.Uc mg "MeldError")
 ZP:ExcR.Ux K (ExcR.Uc mg "MeldError")
 Zm:mg "TooManyStrips"=some (.ref<|ExcR.Uc mg "TooManyStrips")
 Zs:ExcR.Ux K (ExcR.Uc mg "TooManyStrips")
 Zo:mg "BadHolder"=some (.ref<|ExcR.Uc mg "BadHolder")
 Z3:ExcR.Ux K (ExcR.Uc mg "BadHolder")
 Z5:mg "BadWidth"=some (.ref<|ExcR.Uc mg "BadWidth")
 Z6:ExcR.Ux K (ExcR.Uc mg "BadWidth")
 ZC:mg "NoStrip"=some (.ref<|ExcR.Uc mg "NoStrip")
 ZQ:ExcR.Ux K (ExcR.Uc mg "NoStrip")
 Zf:mg "BadOrder"=some (.ref<|ExcR.Uc mg "BadOrder")
 Zc:ExcR.Ux K (ExcR.Uc mg "BadOrder")
 Z7:mg "OwnStrip"=some (.ref<|ExcR.Uc mg "OwnStrip")
 ZR:ExcR.Ux K (ExcR.Uc mg "OwnStrip")
 ZD:mg "BadPart"=some (.ref<|ExcR.Uc mg "BadPart")
 ZS:ExcR.Ux K (ExcR.Uc mg "BadPart")
 Zt:mg "UnlikeHolders"=some (.ref<|ExcR.Uc mg "UnlikeHolders")
 ZT:ExcR.Ux K (ExcR.Uc mg "UnlikeHolders")
 ZE:mg "TooWide"=some (.ref<|ExcR.Uc mg "TooWide")
 ZU:ExcR.Ux K (ExcR.Uc mg "TooWide")
 Zw:mg "LikeHolders"=some (.ref<|ExcR.Uc mg "LikeHolders")
 ZV:ExcR.Ux K (ExcR.Uc mg "LikeHolders")
 Z1:mg "WishStands"=some (.ref<|ExcR.Uc mg "WishStands")
 ZW:ExcR.Ux K (ExcR.Uc mg "WishStands")
 Zu:mg "TooManyWishes"=some (.ref<|ExcR.Uc mg "TooManyWishes")
 ZX:ExcR.Ux K (ExcR.Uc mg "TooManyWishes")
 ZG:mg "NoWish"=some (.ref<|ExcR.Uc mg "NoWish")
 ZY:ExcR.Ux K (ExcR.Uc mg "NoWish")
 Z8:mg "BookFull"=some (.ref<|ExcR.Uc mg "BookFull")
 ZZ:ExcR.Ux K (ExcR.Uc mg "BookFull")
 Zx:mg "NothingDone"=some (.ref<|ExcR.Uc mg "NothingDone")
 Ya:ExcR.Ux K (ExcR.Uc mg "NothingDone")
 Z2:mg "NoSuchDeed"=some (.ref<|ExcR.Uc mg "NoSuchDeed")
 Yb:ExcR.Ux K (ExcR.Uc mg "NoSuchDeed")
 ZH:mg "Ringed"=some (.ref<|ExcR.Uc mg "Ringed")
 Yc:PySem.W.exmOne K (.ref<|ExcR.Uc mg "Ringed") (.ref<|ExcR.Uc mg "Ringed")=some true
 ex:Pu.ExOk K mg ["Ringed","BadOrder"] ["TooManyStrips","BadHolder","NoStrip","OwnStrip","BadPart","UnlikeHolders","TooWide","LikeHolders","WishStands","TooManyWishes","NoWish","BookFull","NothingDone","NoSuchDeed","BadOrder","Ringed"]
 Zp:PySem.W.exmOne K (.ref<|ExcR.Uc mg "BadOrder") (.ref<|ExcR.Uc mg "BadOrder")=some true
 Ze:PySem.W.kitOne K (.ref<|ExcR.Uc mg "BadOrder") (.ref<|ExcR.Uc mg "MeldError")=some true
 Zd:PySem.W.kitOne K (.ref<|ExcR.Uc mg "BadOrder") (.type "ValueError")=some true
 ZF:mg "Village"=some (.ref<|ExcR.Uc mg "Village")
 Zb:Cls K (ExcR.Uc mg "Village")
 Zn:NoAttr K (ExcR.Uc mg "Village") "book"
 Zk:NoAttr K (ExcR.Uc mg "Village") "fields"
 Zl:NoAttr K (ExcR.Uc mg "Village") "wished"
def II:Pu.FldAt "book" ["book","fields","wished"] 0:=.of (by decide +kernel) (by decide +kernel) rfl
def Oe:Pu.PutAt "book" []:=.of (by decide +kernel)
def Hu:Pu.FldAt "fields" ["book","fields","wished"] 1:=.of (by decide +kernel) (by decide +kernel) rfl
def Ib:Pu.PutAt "fields" ["book"]:=.of (by decide +kernel)
def ME:Pu.FldAt "wished" ["book","fields","wished"] 2:=.of (by decide +kernel) (by decide +kernel) rfl
def Ic:Pu.PutAt "wished" ["book","fields"]:=.of (by decide +kernel)
def SX:Pu.NoFld "strips" ["book","fields","wished"]:=.of (by decide +kernel)
def AH:Pu.NoFld "wishes" ["book","fields","wished"]:=.of (by decide +kernel)
def Lf:Pu.NoFld "deeds" ["book","fields","wished"]:=.of (by decide +kernel)
def Ay:Pu.NoFld "price" ["book","fields","wished"]:=.of (by decide +kernel)
def A8:Pu.NoFld "broken" ["book","fields","wished"]:=.of (by decide +kernel)
end T
namespace M
open L2 Own Pu
noncomputable def MW:Pc:=λf R X=>∃h:Int,f=[.int h]/\Xv (Bz h) X (R<|.sh .non)
noncomputable def SH(h:Int):Option Str:=if 1<=h/\h<=1000 then none else some "BadWidth"
noncomputable def Hx:Pc:=λf R X=>∃h:Int,f=[.int h]/\Xv (SH h) X (R<|.sh .non)
noncomputable def G4(_:Yd):Sp:=λh H Q _=>∃(l:Addr) (f:Ye),h=[.ref l]/\LAt Xj H l f/\Field f/\f.length<=50/\
 ∀(q:Addr) (g:Hp),H q=none->Same H g->g q=some (.lst ((Uw f).map V.int))->Q (.ref q) g
noncomputable def AS:Pc:=λg R _=>∃f:Ye,g=[.lst (f.map prD)]/\Field f/\f.length<=50/\R (.own ((Uw f).map D.int))
def Rm{P:Program}{w:World}{K:Yd}{f:Yh}{base:Heap}(C:Callee P w K f base CX0 1 "holders_of" ["strips"] (G4 K)):Callee P w K f base CX0 1 "holders_of" ["strips"] (Ui f AS K):=FG C λG R X A H Q E r p x B=>by
 obtain⟨l,rfl,y,o,u⟩:=p;obtain⟨v,rfl,g⟩:=r.one_inv;obtain⟨a,rfl,s⟩:=g.pairs_inv;exact⟨a,l,rfl,s,y,o,λq z n S h=>x _ _ z u S (Dg n h)⟩
noncomputable def Zbv:Pc:=λg R _=>∃(f:Ye) (x y:Int),g=[.lst (f.map prD),.int x,.int y]/\Field f/\R (.sh<|.int<|pcM f x y f.length)
noncomputable def Mz:Pc:=λg R _=>∃f:Ye,g=[.lst (f.map prD)]/\f.length<=1000/\R (.own ((UT 1 f.length).map D.int))
noncomputable def Oo:Pc:=λh R _=>∃(f:Ye) (g:Yf) (p:Int),h=[.lst (f.map prD),.lst (g.map D.int),.int p]/\Field f/\(∀n∈g,1<=n/\n<=f.length)/\1<=p/\p<g.length/\R (.sh<|.int<|exM f g p.toNat)
noncomputable def Oh:Pc:=λg R _=>∃(f:Yf) (p:Int),g=[.lst (f.map D.int),.int p]/\1<=p/\p<f.length/\f.length<=1000/\R (.own ((Xd f p.toNat).map D.int))
noncomputable def Il:Pc:=λh R _=>∃f g:Yf,h=[.lst (f.map D.int),.lst (g.map D.int)]/\(∀m∈f,1<=m/\m<=g.length)/\f.length<=1000/\∀p:Nat,FW (f.map λm=>g.getD (m-1).toNat 0) p->R (.sh<|.int p)
noncomputable def K6(os:Yf)(q:Int×Int):Bool:=decide (q.1∈os)&&decide (q.2∈os.take (os.idxOf q.1))
noncomputable def Ld:Pc:=λg R _=>∃(os:Yf) (f:Ye),g=[.lst (os.map D.int),.lst (f.map prD)]/\os.Nodup/\os.length<=50/\f.length<=50/\R (.own ((f.filter<|K6 os).map prD))
noncomputable def M5(C:Addr):Pc:=λh R _=>∃(bk:List (Str×Yf)) (fs g:List (Ye)) (f:Ye),h=[UO C bk (fs++[f]) g]/\R (.own<|f.map prD)
noncomputable def Oa(C:Addr):Pc:=λh R _=>∃(bk:List (Str×Yf)) (fs g:List (Ye)) (f:Ye),h=[UO C bk fs (g++[f])]/\R (.own<|f.map prD)
noncomputable def IL(C:Addr):Pc:=λg R _=>∃(bk:List (Str×Yf)) (fs f:List (Ye)),g=[UO C bk fs f]/\R (.own<|bk.map dD)
noncomputable def LL:Pc:=λf R _=>∃x:Str,f=[.str x]/\x.length<=sizeLine/\x.cps.all (· < 128)=true/\R (.sh<|.bl<|X6 x)
noncomputable def I0:Pc:=λg R _=>∃f:Ym,g=[.lst (f.map D.str)]/\JoinOk spc f=true/\R (.sh<|.str (if f=[]then "none" else Txt.join spc f))
noncomputable def MO:Pc:=λg R _=>∃(f:Yf) (k:Int),g=[.scr f,.int k]/\0<=k/\∀v:Int,R (.sh<|.int v)
noncomputable def Zbk:Pc:=λf R _=>∃i:Int,f=[.int i]/\R (.sh<|.bl true)
noncomputable def Za1:Pc:=λf R _=>∃c p:Int,f=[.int c,.int p]/\∀v:Int,R (.sh<|.int v)
noncomputable def Zb8:Pc:=λf R _=>∃c:Int,f=[.int c]/\∀m,Bv m->R (.own<|m.map D.int)
noncomputable def Io:Pc:=λf R _=>∃(m:Yf) (k:Int),f=[.lst (m.map D.int),.int k]/\Bv m/\∀h:Int,1<=h->h<=10->h=MM m k->R (.sh<|.int h)
noncomputable def Hy:Pc:=λg R _=>∃f:Ye,g=[.lst (f.map prD)]/\f.length<=50/\R (.own ((Uw f).map D.int))
noncomputable def DU(K:Yd):Sp:=λh H Q _=>∃(l:Addr) (f:Yf) (c:Int),h=[.ref l,.int c]/\SqL K H l (f.map V.int)/\f.length<=50/\
 ∀(q:Addr) (g:Hp) (os:Yf),H q=none->Same H g->g q=some (.lst<|os.map V.int)->os.Perm f->Q (.ref q) g
noncomputable def FQ:Pc:=λg R _=>∃(f:Yf) (c:Int),g=[.lst (f.map D.int),.int c]/\f.length<=50/\∀os:Yf,os.Perm f->R (.own<|os.map D.int)
def MV{P:Program}{w:World}{K:Yd}{f:Yh}{base:Heap}(C:Callee P w K f base CX0 1 "_law_shuffled" ["_law_holders","_law_cell"] (DU K)):Callee P w K f base CX0 1 "_law_shuffled" ["_law_holders","_law_cell"] (Ui f FQ K):=FG C λL R X G H Q E r x A J=>by
 obtain⟨p,c,rfl,o,z⟩:=x;obtain⟨v,u,rfl,l,g⟩:=r.two_inv;obtain⟨a,rfl,y⟩:=l.ints_inv;rw[g.int_inv];exact⟨a,p,c,rfl,SqL.of y,o,λq B os n S h s=>A _ _ B (z os s) S (Dg n h)⟩
noncomputable def LM:Pq:=λg R _=>∃(os:Yf) (c:Int),g=[.sh (.lst<|os.map D.int),.sh (.int c)]/\os.length<=20/\∀f:Yf,f.length<=21->R (.sh<|.lst<|f.map D.int)
noncomputable def GZ:Pc:=λg R X=>∃f:Ye,g=[plD f]/\f.length<=1000/\Xv (Pr f) X (R<|.sh .non)
noncomputable def Zad:Pc:=λg R X=>∃(f:Ye) (os:Yf),g=[plD f,.lst (os.map D.int)]/\Field f/\f.length<=50/\os.length<64/\Xv (Uk f os) X (R<|.sh .non)
noncomputable def Zca:Pc:=λf R _=>∃(w:Str) (os:Yf),f=[.str w,.lst (os.map λn=>D.str (nS n))]/\(w=("price" : Str)\/w=("broken" : Str))/\(∀n∈os,0<=n/\n<=9999)/\os.length<=100/\R (.sh<|.bl true)
noncomputable def wS(q:Int×Int):Str:=nS q.1++">"++nS q.2
noncomputable def Pb(f:Ye):Str:=if f=[]then "none" else Txt.join spc (f.map wS)
noncomputable def Mr:Pc:=λg R _=>∃f:Ye,g=[.lst (f.map prD)]/\f.length<=50/\(∀q∈f,(0<=q.1/\q.1<=10)/\(0<=q.2/\q.2<=10))/\R (.sh<|.str<|Pb f)
noncomputable def He:Pc:=λg R _=>∃(f:Yf) (k:Int),g=[.scr f,.int k]/\0<=k/\∀v:Int,R (.sh<|.int v)
noncomputable def Zcp:Pc:=λf R _=>∃xs:Yf,(f=[.lst (xs.map D.int),.lst (xs.map D.int)]\/f=[.fL xs,.lst (xs.map D.int)])/\xs.length<=1000000/\R (.sh<|.bl true)
noncomputable def Zbm:Pc:=λg R _=>∃f:Ye,g=[.lst (f.map prD),.lst (f.map prD)]/\f.length<=1000000/\R (.sh<|.bl true)
noncomputable def Kf(ps:Ye)(os:Yf):Ye:=os.flatMap λh=>ps.filter λq=>decide (q.1=h)
noncomputable def OZ:Pc:=λg R X=>∃(f:Ye) (os:Yf),g=[plD f,.lst (os.map D.int)]/\Field f/\f.length<=50/\os.length<64/\Xv (Uk f os) X (R<|.own ((Kf f os).map prD))
noncomputable def MS:Pc:=λg R X=>∃(f:Ye) (os:Yf),g=[plD f,.lst (os.map D.int)]/\Field f/\f.length<=50/\os.length<64/\Xv (Uk f os) X (R<|.sh<|.int<|Xm f f.length os)
noncomputable def M1:Pc:=λh R X=>∃(f:Ye) (o:Yf),h=[plD f,.lst (o.map D.int)]/\Field f/\f.length<=40/\o.length<64/\Xv (Uk f o) X (∀g:List Mo,Mv f (rkN f o) (UT 1 f.length) g->R (.own<|g.map mvD))
noncomputable def HV(C:Addr):Pw:=λo g R X=>∃(x:Addr) (f:Ye),o=.ins x C [] []/\g=[.sh (plD f)]/\f.length<=1000/\Xv (Pr f) (X<|.ins x C [] []) (∀b1 l h,R (vO C x b1 l h [] [f] [[]]) .non)
noncomputable def Lu(C:Addr):Pc:=λh R X=>∃(bk:List (Str×Yf)) (fs g:List (Ye)) (f w:Ye) (os:Yf),h=[UO C bk (fs++[f]) (g++[w]),.lst (os.map D.int)]/\Field f/\f.length<=50/\os.length<64/\w.length<=50/\Xv (Uk f os) X (R<|.own ((w.filter<|K6 os).map prD))
noncomputable def Iy:Pc:=λh R _=>∃(g m:Yf) (n:Int),h=[.scr g,.lst (m.map D.int),.int n]/\Bv m/\0<=n/\n<=1000/\∀f:Ye,Field f->f.length=n.toNat->R (.own<|f.map prD)
noncomputable def Zai(C:Addr):Pc:=λh R X=>∃(bk:List (Str×Yf)) (fs g:List (Ye)) (f:Ye) (os:Yf),h=[UO C bk (fs++[f]) g,.lst (os.map D.int)]/\Field f/\f.length<=50/\os.length<64/\Xv (Uk f os) X (R<|.sh<|.int<|Xm f f.length os)
theorem Ds(ps:Ye):∀o:Yf,oc (pcc ps) o=Xm ps ps.length o
 |[]=>rfl
 |a::r=>by
  unfold oc Xm;rw[Ds ps r];rfl
def G2{f:Ye}{os:Yf}(l:Field f)(g:f.length<=40)(h:os.length<=10):0<=Xm f f.length os/\Xm f f.length os<=160000000000:=by
 have:=D2 (c:=pcc f) (λx y=>by have:=AW l g x y f.length (Wk _);unfold pcc;lia) os h
 rw[Ds]at this;lia
def FD{i:Int}(h:0<=i/\i<=160000000000):i.natAbs.log2<1920:=by
 by_cases z:i.natAbs=0
 ·rw[z];decide
 ·exact Wv ((Nat.log2_lt z).mpr (QJ (show i.natAbs<=160000000000 by lia)<|show 160000000000<2 ^ 40 by decide)) (by decide)
def SG{f:Ye}{os:Yf}(e:Uk f os=none):os.Perm (Uw f):=by
 unfold Uk at e;split at e
 ·rename_i h;exact List.isPerm_iff.mp h
 ·cases e
noncomputable def NA(f w:Ye)(os:Yf)(word:Str):Str:=if word=("price" : Str)then nS (Xm f f.length os)else Pb (w.filter<|K6 os)
noncomputable def MH(C:Addr):Pc:=λh R X=>∃(bk:List (Str×Yf)) (fs g:List (Ye)) (f w:Ye) (os:Yf) (word:Str),h=[UO C bk (fs++[f]) (g++[w]),.str word,.lst (os.map D.int)]/\(word=("price" : Str)\/word=("broken" : Str))/\Field f/\f.length<=40/\os.length<64/\Kt w/\Xv (Uk f os) X (R<|.sh<|.str<|NA f w os word)
noncomputable def KO(ps:Ye)(os:Yf):List Bool:=if Uk ps os=none then[]else[true,true]
noncomputable def HD(C:Addr):Pc:=λh R _=>∃(i:Int) (bk:List (Str×Yf)) (fs g:List (Ye)) (f w:Ye) (os:Yf),h=[.int i,plD f,UO C bk (fs++[f]) (g++[w]),.lst (os.map D.int)]/\0<=i/\i<5/\Field f/\f.length<=40/\os.length<64/\w.length<=50/\R (.own<|.lst ((KO f os).map D.bl))
noncomputable def Mm(C:Addr):Pc:=λh R X=>∃(bk:List (Str×Yf)) (fs g:List (Ye)) (f w:Ye) (os:Yf) (word:Str),h=[UO C bk (fs++[f]) (g++[w]),.str word,.lst (os.map D.int)]/\(word=("price" : Str)\/word=("broken" : Str))/\Field f/\f.length<=40/\os.length<64/\Kt w/\Xv (Uk f os) X (R<|.sh<|.str<|NA f w os word)
noncomputable def PN(f w:Ye)(os:Yf)(word:Str):Str:=if Uk f os=none then NA f w os word else "refused: order"
noncomputable def Of(C:Addr):Pc:=λh R _=>∃(bk:List (Str×Yf)) (fs g:List (Ye)) (f w:Ye) (os:Yf) (word:Str),h=[UO C bk (fs++[f]) (g++[w]),.str word,.lst (os.map D.int)]/\(word=("price" : Str)\/word=("broken" : Str))/\Field f/\f.length<=40/\os.length<64/\Kt w/\R (.sh<|.str<|PN f w os word)
noncomputable def OW(C:Addr):Pc:=λh R _=>∃(bk:List (Str×Yf)) (fs g:List (Ye)) (f w:Ye) (os:Yf) (word:Str),h=[UO C bk (fs++[f]) (g++[w]),.str (Str.join spc (word::os.map nS))]/\(word=("price" : Str)\/word=("broken" : Str))/\Field f/\f.length<=40/\os.length<64/\(∀n∈os,0<=n/\n<=9999)/\Kt w/\R (.sh<|.str<|PN f w os word)
def Ek{q:Int×Int}(h:(0<=q.1/\q.1<=10)/\(0<=q.2/\q.2<=10)):32∉(wS q).cps.toList/\62∈(wS q).cps.toList:=by
 have e:(">" : Str).cps.toList=[62]:=by decide +kernel
 unfold wS;rw[Na,Na,e];refine⟨λz=>?_,Qe _ (Wy _<|Wf.mpr rfl)⟩;rcases WH.mp z with z|z
 ·rcases WH.mp z with z|z
  ·exact BO h.1.1 z
  ·cases Wf.mp z
 ·exact BO h.2.1 z
def Zah{f:Ye}(h:∀q∈f,(0<=q.1/\q.1<=10)/\(0<=q.2/\q.2<=10)):Pb f≠("refused: order" : Str):=by
 unfold Pb;by_cases z:f=[]
 ·rw[Wp z];decide +kernel
 ·rw[Wl z];intro e
  have g:Txt.split (Txt.join spc<|f.map wS) spc=f.map wS:=by
   rw[show Txt.join spc (f.map wS)=Str.join spc (f.map wS)from StrLaws.glued_eq_join _ _]
   exact FS (λy=>z (List.map_eq_nil_iff.mp y)) λv n=>by obtain⟨q,hq,rfl⟩:=WC.mp n;exact(Ek<|h q hq).1
  rw[e,show Txt.split ("refused: order" : Str) spc=[("refused:" : Str),("order" : Str)] by decide +kernel]at g;cases f with
  |nil=>cases g
  |cons q r=>
   have o:("refused:" : Str)=wS q:=(List.cons.inj g).1;have l:=(Ek<|h q (Wz ..)).2;rw[←o]at l;exact absurd l (by decide +kernel)
def LC{n:Int}(h:0<=n):nS n≠("refused: order" : Str):=λe=>by
 have:=TH h
 rw[e]at this;exact absurd (this 114<|by decide +kernel).2 (by decide)
def Le{f w:Ye}{os:Yf}{word:Str}(l:Field f)(g:f.length<=40)(h:Kt w):decide (PN f w os word=("refused: order" : Str))=!decide (Uk f os=none):=by
 unfold PN;by_cases e:Uk f os=none
 ·rw[Wp e,Wi e];apply Wq;unfold NA;split
  ·exact LC (G2 l g<|by rw[(SG e).length_eq];exact Te f).1
  ·exact Zah λq hq=>by have:=(h.2.2 q (Qy.mp hq).1).1;lia
 ·rw[Wl e,Wq e];exact Wi rfl
noncomputable def Ox(C:Addr):Pc:=λh R _=>∃(bk:List (Str×Yf)) (fs g:List (Ye)) (f w:Ye) (os:Yf),h=[UO C bk (fs++[f]) (g++[w]),.lst (os.map D.int),.bl (decide (Uk f os=none))]/\Field f/\f.length<=40/\os.length<64/\Kt w/\R (.sh<|.bl true)
structure Fv (P:Program) (w:World) (K:Yd) (mg:Yh) (base:Heap):Type
variable {P:Program}{w:World}{K:Yd}{mg:Yh}{base:Heap}
abbrev Cal(_:Fv P w K mg base):=Callee P w K mg base
abbrev Cam(_:Fv P w K mg base):=Xo P w K mg base
abbrev Cxe(_:Fv P w K mg base):=ExcR.CXe P w
abbrev Uy(_:Fv P w K mg base):=ExcR.Uc mg "Village"
variable (ζ:Fv P w K mg base)
abbrev F2:Prop:=Cal ζ (Cxe ζ) 1 "check_holder" ["holder"] (Ui mg MW K)
abbrev Ce:Prop:=Cal ζ (Cxe ζ) 1 "check_width" ["width"] (Ui mg Hx K)
abbrev Ig:Prop:=Cal ζ CX0 1 "holders_of" ["strips"] (Ui mg AS K)
abbrev Cn:Prop:=Cal ζ CX0 1 "pair_cost" ["strips","ahead","behind"] (Ui mg Zbv K)
abbrev D3:Prop:=Cal ζ CX0 1 "own_numbers" ["strips"] (Ui mg Mz K)
abbrev Fq:Prop:=Cal ζ CX0 1 "exchange_cost" ["strips","numbers","place"] (Ui mg Oo K)
abbrev EO:Prop:=Cal ζ CX0 1 "exchanged" ["numbers","place"] (Ui mg Oh K)
abbrev Dn:Prop:=Cal ζ CX0 1 "first_wrong_place" ["numbers","ranks"] (Ui mg Il K)
abbrev Fz:Prop:=Cal ζ CX0 1 "broken_wishes" ["order","wishes"] (Ui mg Ld K)
abbrev Cm:Prop:=Cam ζ CX0 1 (UJ K (Uy ζ) "strips") ["self"] (Ui mg (M5<|Uy ζ) K)
abbrev D7:Prop:=Cam ζ CX0 1 (UJ K (Uy ζ) "wishes") ["self"] (Ui mg (Oa<|Uy ζ) K)
abbrev EB:Prop:=Cam ζ CX0 1 (UJ K (Uy ζ) "deeds") ["self"] (Ui mg (IL<|Uy ζ) K)
abbrev Cv:Prop:=Cal ζ CX0 1 "is_number" ["text"] (Ui mg LL K)
abbrev DF:Prop:=Cal ζ CX0 1 "told_texts" ["texts"] (Ui mg I0 K)
abbrev Cr:Prop:=Cal ζ CX0 1 "_law_at" ["_law_script","_law_k"] (Ui mg MO K)
abbrev A9:Prop:=Cal ζ CX0 1 "_law_whole" ["_law_found"] (Ui mg Zbk K)
abbrev DW:Prop:=Cal ζ CX0 1 "_law_mix" ["_law_cell","_law_place"] (Ui mg Za1 K)
abbrev E3:Prop:=Cal ζ CX0 1 "_law_menu" ["_law_cell"] (Ui mg Zb8 K)
abbrev Eg:Prop:=Cal ζ CX0 1 "_law_holder" ["_law_menu_here","_law_k"] (Ui mg Io K)
abbrev Da:Prop:=Cal ζ CX0 1 "_law_present" ["_law_strips_here"] (Ui mg Hy K)
abbrev R4:Prop:=Cal ζ CX0 1 "_law_shuffled" ["_law_holders","_law_cell"] (Ui mg FQ K)
abbrev Fu:Prop:=Cal ζ CX0 1 "_law_spoiled" ["_law_order","_law_cell"] (Pu.spS mg LM K)
abbrev DP:Prop:=Cal ζ (Cxe ζ) 2 "check_strips" ["strips"] (Ui mg GZ K)
abbrev CK:Prop:=Cal ζ (Cxe ζ) 2 "check_order" ["strips","order"] (Ui mg Zad K)
abbrev Ag:Prop:=Cal ζ CX0 2 "is_row" ["word","texts"] (Ui mg Zca K)
abbrev Fs:Prop:=Cal ζ CX0 2 "told_wishes" ["wishes"] (Ui mg Mr K)
abbrev AC:Prop:=Cal ζ CX0 2 "_law_draw" ["_law_script","_law_k"] (Ui mg He K)
abbrev AX:Prop:=Cal ζ CX0 2 "_law_row" ["_law_found","_law_due"] (Ui mg Zcp K)
abbrev FH:Prop:=Cal ζ CX0 2 "_law_tuples" ["_law_found","_law_due"] (Ui mg Zbm K)
abbrev Dz:Prop:=Cal ζ (Cxe ζ) 3 "gathered" ["strips","order"] (Ui mg OZ K)
abbrev Gs:Prop:=Cal ζ (Cxe ζ) 3 "order_cost" ["strips","order"] (Ui mg MS K)
abbrev ER:Prop:=Cal ζ (Cxe ζ) 3 "told_moves" ["strips","order"] (Ui mg M1 K)
abbrev Ac:Prop:=Cam ζ (Cxe ζ) 3 (Mk K<|Uy ζ) ["self","strips"] (Pu.spW mg (HV<|Uy ζ) K)
abbrev DR:Prop:=Cam ζ (Cxe ζ) 3 (UJ K (Uy ζ) "broken") ["self","order"] (Ui mg (Lu<|Uy ζ) K)
abbrev Eu:Prop:=Cal ζ CX0 3 "_law_strips" ["_law_script","_law_menu_here","_law_many"] (Ui mg Iy K)
abbrev Dk:Prop:=Cam ζ (Cxe ζ) 4 (UJ K (Uy ζ) "price") ["self","order"] (Ui mg (Zai<|Uy ζ) K)
abbrev Dy:Prop:=Cal ζ (Cxe ζ) 5 "told_question" ["village","word","numbers"] (Ui mg (MH<|Uy ζ) K)
abbrev Am:Prop:=Cal ζ CX0 5 "_law_door" ["_law_which","_law_strips_here","_law_village","_law_order"] (Ui mg (HD<|Uy ζ) K)
abbrev F1:Prop:=Cal ζ (Cxe ζ) 6 "told_row" ["village","word","numbers"] (Ui mg (Mm<|Uy ζ) K)
abbrev DL:Prop:=Cal ζ CX0 7 "told_or_refused" ["village","word","numbers"] (Ui mg (Of<|Uy ζ) K)
abbrev EY:Prop:=Cal ζ CX0 8 "answer" ["village","row"] (Ui mg (OW<|Uy ζ) K)
abbrev EF:Prop:=Cal ζ CX0 9 "_law_at_desk" ["_law_village","_law_order","_law_good"] (Ui mg (Ox<|Uy ζ) K)
abbrev OD:Prop:=Cal ζ CX0 10 "law" ["_law_script"] (Ui mg CZ K)
end M
namespace M
open L2 Own Pu
def TL{f:Type}{xs:List f}{i:Nat}{d:f}(h:i<xs.length):xs.getD i d=xs[i]:=by rw[Wj,Wc h];rfl
def AR{f:Type}{xs:List f}{i:Nat}{d:f}(h:i<xs.length):xs.getD i d=xs[i]:=by rw[Wj,Wc h];rfl
def Lj{ns:Yf}{p:Int}(l:1<=p)(h:p<ns.length){b1:p.toNat<ns.length}{b2:(p-1).toNat<ns.length}:cutD (ns.map D.int) none (some (p-1))++[D.int ns[p.toNat],D.int ns[(p-1).toNat]]++cutD (ns.map D.int) (some (p+1)) none=(Xd ns p.toNat).map D.int:=by
 unfold Xd;rw[KE,KE,An ns (by lia),P4 ns (by lia),W5,W5];have g:p.toNat-1=(p-1).toNat:=by lia
 have f:p.toNat+1=(p+1).toNat:=by lia
 rw[g,f,AR b1,AR b2];rfl
def Ni{os:Yf}(f:os.Nodup){j:Nat}(g:j<os.length):os.idxOf os[j]=j:=f.idxOf_getElem j g
def EA{os:Yf}{j:Nat}{z:Int}(f:j<os.length):z∈os.take (j+1)↔z∈os.take j\/z=os[j]:=by
 rw[WT f,WH,Wf]
def Ie{os:Yf}(f:os.Nodup){x:Int}{j:Nat}(hx:x∈os):x∈os.take j↔os.idxOf x<j:=by
 obtain⟨k,g,rfl⟩:=QD.mp hx;rw[Ni f g];constructor
 ·intro h;obtain⟨m,l,e⟩:=QD.mp h;rw[Qj]at l;rw[List.getElem_take]at e;have a1:=Ni f (j:=m) (by lia);rw[e,Ni f g]at a1;lia
 ·intro h;exact QD.mpr ⟨k,by rw[Qj];lia,by rw[List.getElem_take]⟩
def HF{os:Yf}(h:os.Nodup)(q:Int×Int):K6 os q=(decide (q.1∈os)&&decide (q.2∈os)&&decide (os.idxOf q.2<os.idxOf q.1)):=by
 unfold K6;by_cases g:q.1∈os
 ·by_cases f:q.2∈os
  ·simp only[g,f,decide_true,Vu,Ie h f]
  ·have:¬q.2∈os.take (os.idxOf q.1):=λz=>f (List.mem_of_mem_take z)
   simp[g,f,this]
 ·simp[g]
def Ap{xs:Yf}{k:Int}(g:0<=k)(h:k<xs.length):∃v:Int,atI (xs.map D.int) k=some (.int v):=by
 have f:k.toNat<xs.length:=by lia
 exact⟨xs[k.toNat],XN (Tu g<|Wc f)⟩
def Rk(ps:Ye)(os:Yf):(Kf ps os).length<=os.length*ps.length:=by
 unfold Kf
 induction os with
 |nil=>simp
 |cons h r f=>
  rw[List.flatMap_cons,W1,WG,Nat.add_mul]
  have:=Qq (λq:Int×Int=>decide (q.1=h)) ps
  lia
end M
namespace T
open L2 Own M
section
variable {P:Program}{w:World}{K:Yd}{mg:Yh}{base:Heap}
def Ly(G:Glob w K mg)(D:Def K mg "holders_of" B8 ["strips"])
  : Callee P w K mg base CX0 1 "holders_of" ["strips"] (G4 K):=by
 refine D.ok (k:=0) Zam (λu H Q E h=>?_) (λf cdv A outer s H u Q E hr h=>?_)
 ·obtain⟨l,g,rfl,⟨u,y,v⟩,L,J,q⟩:=h;rfl
 ·obtain⟨l,g,rfl,⟨u,y,v⟩,L,J,q⟩:=h;refine⟨_,(Uo<|U8<|U0 (AI rfl) (by rfl) G.Zr boot_sorted<|UX (Xp (RS rfl) (by rfl) G.ZO boot_set<|UX (Fe (N':=["holder","width"]) (φ:=[none,none]) rfl (KD.of<|by rfl) (CN<|pv 0) (λ_ _ _ _ _=>⟨(FY (K:=K) (n:=2) rfl<|SU (Sn (i:=0) (show(["holder","width"]:Ym).Nodup from by decide +kernel) rfl (by first|exact Or.inl rfl|exact Or.inr rfl))<|SU (Sn (i:=1) (show(["holder","width"]:Ym).Nodup from by decide +kernel) rfl (by first|exact Or.inl rfl|exact Or.inr rfl)) Cz),P2,(pv 0)⟩)) UA) UA),?_⟩
  have e1:=v.1;refine⟨_,rfl,l,rfl,⟨_,SqL.of y⟩,λD B=>Ht (ds:=g) (λd=>some (V.int d.1)) (SqL.of y) e1 B (Wu J<|by decide) (λi x d H2 hx hd S k Y=>?_) ?_⟩
  ·obtain⟨d',p,a,rfl,ha⟩:=v.get hx;rw[hd]at p;cases p
   exact⟨a,_,rfl,SqT.of (S _ _ ha),rfl,_,_,rfl,_,_,rfl,rfl,.skip (.skip .refl),_,rfl,Y⟩
  ·have em:g.filterMap (λd=>some (V.int d.1))=(g.map (·.1)).map V.int:=by
    rw[WU,WY];rfl
   rw[em];have S1:Same H (upd H D<|.lst ((g.map (·.1)).map V.int)):=UI B;refine⟨D,g.map (·.1),rfl,SqL.of Ur,by rw[Wd];lia,λz N=>?_⟩;have M:=Own.Same.new (o:=K0 w z ((g.map (·.1)).foldl SetR.U6 [])) S1 N;refine⟨z,_,rfl,?_,.inr Ur,λr ns C U T=>?_⟩
   ·have:=FO (g.map (·.1)) []
    rw[Wd]at this;simp at this ⊢;lia
   ·rw[GU L U T];exact q r _ (M.free C) (Own.Same.new M C) Ur
def RH(G:Glob w K mg)(D:Def K mg "_law_shuffled" SO ["_law_holders","_law_cell"])
  : Callee P w K mg base CX0 1 "_law_shuffled" ["_law_holders","_law_cell"] (DU K):=by
 refine D.ok (k:=0) Tj (λvs H Q E h=>?_) (λf cdv A outer s H vs Q E hr h=>?_)
 ·obtain⟨l,B,c,rfl,hl,hz,q⟩:=h;rfl
 ·obtain⟨l,B,c,rfl,hl,hz,q⟩:=h
  refine⟨_,(Km (Pu.pz 2 Tj.nd<|Xp Ey (by rfl) G.Zi boot_list<|UX (pv 0) UA)
   (Km (Pu.pz 3 Tj.nd<|UR UA)
   (Km (Pu.pz 4 Tj.nd<|pv 1)
   (Km (Ez WR (KY (Ff hr.units0) (pv 2) (UR UA)<|XT _)
   (Km (XA<|Tz Qg PySem.F.slot_list_append PySem.F.type_list_append NL (pv 3)<|UX (TZ SY (pv 2) (PR U5 (pv 4)<|U0 Bi (by rfl) G.len PySem.boot_len<|UX (pv 2) UA) (λ_ _=>rfl)) UA)
   (Km (Pu.pz 4 Tj.nd<|PR Xt (pv 4)<|U0 Bi (by rfl) G.len PySem.boot_len<|UX (pv 2) UA)
   (Uo<|XA<|Tz Qg PySem.F.slot_list_remove PySem.F.type_list_remove RP (pv 2)<|UX (TZ SY (pv 3) (TC T1 Xr) (λ_ _=>rfl)) UA))))
   (Uo<|U8<|pv 3))))),?_⟩
  refine⟨_,rfl,_,_,rfl,.inl hl,λL nL=>⟨by decide,λO nO=>⟨_,rfl,?_⟩⟩⟩;have S1:=UI (o:=.lst (B.map V.int)) nL;have S2:=Own.Same.new (o:=.lst []) S1 nO;have v:L≠O:=λz=>by rw[←z,Ur]at nO;cases nO
  have M:=S1.free nO;refine⟨λm σ y=>∃(xs os:Yf) (g:Int),m=xs.length/\σ=[some (.ref l),some (.int c),some (.ref L),some (.ref O),some (.int g)]/\y L=some (.lst<|xs.map V.int)/\y O=some (.lst<|os.map V.int)/\(os++xs).Perm B/\Same H y,⟨B.length,B,[],c,rfl,rfl,by rw[Ug v,Ur],Ur,List.Perm.refl _,S2⟩,?_⟩;rintro m σ y ⟨xs,os,g,rfl,rfl,hL,hO,hp,S⟩;refine⟨_,rfl,by decide,λe ne=>⟨L,e,_,_,rfl,rfl,SqL.of (by rw[Ug (U3 hL ne)];exact hL),SqL.of Ur,Kj xs,Kj [],_,rfl,?_⟩⟩;show if (!eqL (xs.map V.int) (([]:Yf).map V.int))=true then _ else _;rw[SB];have S3:=Own.Same.new (o:=.lst []) S ne;have r:(upd y e<|.lst []) L=some (.lst<|xs.map V.int):=by rw[Ug (U3 hL ne)];exact hL
  have n:(upd y e<|.lst []) O=some (.lst<|os.map V.int):=by rw[Ug (U3 hO ne)];exact hO
  generalize upd y e (.lst [])=Y at S3 r n;have T:=hp.length_eq;rw[W1]at T;by_cases hx:xs=[]
  ·rw[Wi hx];subst hx;refine U2 ⟨_,rfl,q O Y os M S3 n ?_⟩;simpa using hp
  ·rw[Wq hx];have hpos:0<xs.length:=List.length_pos_iff.mpr hx;refine PP ⟨λC H'=>∃m',m'<xs.length/\∃(u J:Yf) (g:Int),m'=u.length/\C=[some (.ref l),some (.int c),some (.ref L),some (.ref O),some (.int g)]/\H' L=some (.lst<|u.map V.int)/\H' O=some (.lst<|J.map V.int)/\(J++u).Perm B/\Same H H',λC H' z=>z,?_⟩;have hi1:=Vn g (show(xs.length:Int)≠0 by omega);have hi2:=QO g (show(0:Int)<xs.length by omega);have hk:(g % (xs.length:Int)).toNat<xs.length:=by omega
   have ai:atI (xs.map V.int) (g % (xs.length:Int))=some (.int xs[(g % (xs.length:Int)).toNat]):=XN (Tu hi1<|Wc hk);generalize hz0:xs[(g % (xs.length:Int)).toNat]=z at ai;have N:z∈xs:=by rw[←hz0];exact WB hk
   refine⟨_,rfl,.inl ⟨rfl,_,SqL.of n⟩,_,rfl,_,rfl,_,rfl,_,_,rfl,.inl ⟨_,SqL.of r,rfl⟩,_,_,rfl,rfl,(by show(0:Int)<_;rw[Wd];omega),.inl ⟨L,xs.map V.int,g % ((xs.map V.int).length:Int),.int z,rfl,rfl,SqL.of r,by rw[Wd];exact ai,O,_,_,rfl,rfl,n,Dl (by rw[Wd];omega),?_⟩⟩;have x:(upd Y O<|.lst (os.map V.int++[.int z])) O=some (.lst ((os++[z]).map V.int)):=by rw[Ur,W5];rfl
   have p:(upd Y O<|.lst (os.map V.int++[.int z])) L=some (.lst<|xs.map V.int):=by rw[Ug v];exact r
   have S4:Same H (upd Y O<|.lst (os.map V.int++[.int z])):=λb o U=>by rw[Ug (U3 U M)];exact S3 b o U
   generalize upd Y O (.lst (os.map V.int++[.int z]))=H4 at S4 p x;refine⟨_,rfl,_,rfl,_,_,rfl,.inl ⟨_,SqL.of p,rfl⟩,_,_,rfl,rfl,⟨by rw[Wd];omega,by rw[Wd];omega⟩,?_⟩;have al:atI ((os++[z]).map V.int) (-1)=some (.int z):=by rw[W5];exact OH _ _
   refine⟨_,rfl,.inl ⟨rfl,_,SqL.of p⟩,_,rfl,_,rfl,.inl ⟨O,_,_,_,rfl,rfl,SqL.of x,al,L,xs,z,rfl,rfl,p,N,?_⟩⟩;have hj:xs.idxOf z<xs.length:=QN.mpr N;have e1:(xs.eraseIdx<|xs.idxOf z).length<xs.length:=by rw[List.length_eraseIdx_of_lt hj];omega
   refine⟨_,e1,xs.eraseIdx (xs.idxOf z),os++[z],_,rfl,rfl,Ur,by rw[Ug v.symm];exact x,?_,λb o U=>by rw[Ug (U3 U nL)];exact S4 b o U⟩;have pe:=SetR.T9 xs (xs.idxOf z) hj;have ez:xs[xs.idxOf z]=z:=Vt hj;rw[ez]at pe;rw[QW];exact(pe.append_left os).trans hp
end
open Pu
section
variable {P:Program}{w:World}{K:Yd}{mg:Yh}{base:Heap} (ζ:Fv P w K mg base)
variable (G:Glob w K mg) (Y6:F2 ζ) (Y7:Ce ζ) (Y8:Ig ζ) (Y9:Cn ζ) (YA:D3 ζ) (YB:Fq ζ) (YC:EO ζ) (Yy:Dn ζ) (YD:Fz ζ) (Yw:Cm ζ) (Yz:D7 ζ) (YE:EB ζ) (YF:Cv ζ) (YG:DF ζ) (Yu:Cr ζ) (Y0:A9 ζ) (YH:DW ζ) (YI:E3 ζ) (YJ:Eg ζ) (Y1:Da ζ) (YK:R4 ζ) (YL:Fu ζ) (YM:DP ζ) (Yv:CK ζ) (YN:Ag ζ) (YO:Fs ζ) (Yx:AC ζ) (YQ:AX ζ) (Y2:FH ζ) (YR:Dz ζ) (Y3:Gs ζ) (YS:ER ζ) (YT:Ac ζ) (Y4:DR ζ) (YU:Eu ζ) (Y5:Dk ζ) (YV:Dy ζ) (YW:Am ζ) (YX:F1 ζ) (YY:DL ζ) (YZ:EY ζ) (Wa:EF ζ)
def Im(p:Def K mg "check_holder" Br ["holder"])
  : F2 ζ:=by
 refine p.fy OV (λq n=>(b1<|sI (tp<|wo (tc KW KH (xv 0) xi)<|wO<|tc Kv K8 (xv 0)<|xe (ExcR.XY G.Zv) UN) (b1<|sQ G.Z3 G.Zo ExcR.T5<|a1<|xe (ExcR.T8<|ExcR.PM<|ExcR.Tq (ExcR.XY G.Zv) ExcR.TB)<|T4<|P7<|P3 UN T7) b0)) (.a ?_)
 ·rintro s R X ⟨h,rfl,f⟩;refine⟨rfl,?_⟩;unfold Bz at f;refine Uq (λg=>PP ?_) (λg=>?_)
  ·rw[Wl (by have:=Wx g;lia)]at f;exact⟨by decide,by decide,by decide,by decide,by simp,f⟩
  ·have r:¬h<1:=λz=>g (Wi z);refine Uq (λl=>?_) (λl=>?_)
   ·rw[Wl (by have:=Wx l;lia)]at f;exact⟨by decide,by decide,by decide,by decide,by simp,f⟩
   ·have o:¬10<h:=λz=>l (Wi z);rw[Wp (by lia)]at f;exact f
def MR(p:Def K mg "check_width" Sf ["width"])
  : Ce ζ:=by
 refine p.fy ID (λq n=>(b1<|sI (tp<|wo (tc KW KH (xv 0) xi)<|wO<|tc Kv K8 (xv 0)<|xe (ExcR.XY G.Zz) UN) (b1<|sQ G.Z6 G.Z5 ExcR.T5<|a1<|xe (ExcR.T8<|ExcR.PM<|ExcR.Tq (ExcR.XY G.Zz) ExcR.TB)<|T4<|P7<|P3 UN T7) b0)) (.a ?_)
 ·rintro s R X ⟨h,rfl,f⟩;refine⟨rfl,?_⟩;unfold SH at f;refine Uq (λg=>PP ?_) (λg=>?_)
  ·rw[Wl (by have:=Wx g;lia)]at f;exact⟨by decide,by decide,by decide,by decide,by simp,f⟩
  ·have r:¬h<1:=λz=>g (Wi z);refine Uq (λl=>?_) (λl=>?_)
   ·rw[Wl (by have:=Wx l;lia)]at f;exact⟨by decide,by decide,by decide,by decide,by simp,f⟩
   ·have o:¬1000<h:=λz=>l (Wi z);rw[Wp (by lia)]at f;exact f
def Mu(H:Def K mg "pair_cost" NQ ["strips","ahead","behind"])
  : Cn ζ:=by
 refine H.fz HL (λs n=>(bc (sS 3 n xi)<|bc (sS 4 n xi)<|bc (sF 0<|sO [5,6] WR (iL<|xv 0) (gT 2<|gc (gN 5)<|gc (gN 6) g0)<|b1<|sI (tq s (xv 5)<|xv 2) (b1<|sU 3 n B4<|xv 6)<|b1<|sI (tq s (xv 5)<|xv 1) (b1<|sU 4 n B4<|xo Kx Ky (xv 3)<|xv 6) b0)<|b1<|sV 4)) (.a ?_)
 ·rintro J R X ⟨f,x,y,rfl,B,A⟩;refine⟨rfl,rfl,Pe (xs:=f) (emb:=prD) (λi h=>h=[some (.bor<|.lst<|f.map prD),some (.sh<|.int x),some (.sh<|.int y),some (.sh<|.int<|tpM f y i),some (.sh<|.int<|pcM f x y i),none,none]) rfl ?_ ?_⟩
  ·rintro i v h rfl;have u:f.getD i (0,0)=f[i]:=by rw[Wj,Wc v];rfl
   have hw:=B _ (WB v);have E:tpM f y (i+1)=tpM f y i+(if f[i].1=y then f[i].2 else 0):=by simp only[tpM];rw[u]
   have C:pcM f x y (i+1)=pcM f x y i+(if x≠y/\f[i].1=x then tpM f y i*f[i].2 else 0):=by simp only[pcM];rw[u]
   rw[E,C];generalize f[i]=p at hw;refine⟨rfl,Uq (λg=>?_) (λg=>Uq (λq=>?_) (λq=>?_))⟩
   ·have e:p.1=y:=Wx g;rw[Wp e,Wl (by rintro⟨r,o⟩;exact r (o.symm.trans e)),V1];rfl
   ·have e:¬p.1=y:=λz=>g (Wi z);have l:p.1=x:=Wx q;rw[Wl e,Wp ⟨λz=>e (l.trans z),l⟩,V1];exact⟨.inr ⟨by show -(2 ^ 64)<p.2;lia,by show p.2<2 ^ 64;lia⟩,rfl⟩
   ·have e:¬p.1=y:=λz=>g (Wi z);have l:¬p.1=x:=λz=>q (Wi z);rw[Wl e,Wl (by rintro⟨r,o⟩;exact l o),V1,V1];rfl
  ·rintro h rfl;exact A
def R8(l:Def K mg "own_numbers" SM ["strips"])
  : D3 ζ:=by
 refine l.fz RZ (λp n=>(b1<|sR<|xC ["index"] [none] (jI<|ir G.Zj<|a1<|xl G.len<|xv 0) (gN 0) f0<|xo UQ US (xv 0) xi)) (.a ?_)
 ·rintro q R X ⟨f,rfl,o,h⟩;refine⟨rfl,?_⟩;have g:(f.map prD).length=f.length:=Wd ..;refine⟨⟨by lia,by lia⟩,NW (λi=>some (.int (0+(i:Int)+1))) (by lia) (λi _=>⟨_,rfl,rfl⟩) ?_⟩
  have e:(List.range ((f.map prD).length:Int).toNat).filterMap (λ(i:Nat)=>some (D.int (0+(i:Int)+1)))=(UT 1 f.length).map D.int:=by
   unfold UT;rw[WU,WY,g,WD];refine QH λi _=>?_;show D.int (0+(i:Int)+1)=D.int (1+(i:Int));congr 1;lia
  rw[e];exact h
def Zbh(v:Def K mg "exchange_cost" Bp ["strips","numbers","place"])
  : Fq ζ:=by
 refine v.fz Zbf (λz n=>(bc (sS 3 n<|xx (xv 0)<|xo XG XH (xx (xv 1)<|xo XG XH (xv 2) xi) xi)<|bc (sS 4 n<|xx (xv 0)<|xo XG XH (xx (xv 1)<|xv 2) xi)<|b1<|sR<|xo Kx Ky (xx (xv 3) xi)<|xx (xv 4) xi)) (.a ?_)
 ·rintro C R X ⟨g,f,p,rfl,r,h,B,A,l⟩;refine⟨rfl,?_⟩;have b1:(p-1).toNat<f.length:=by omega
  have q:p.toNat<f.length:=by omega
  have y:=h _ (WB b1);have x:=h _ (WB q);refine⟨_,Kg (by omega) (by omega),_,Kg (by omega) (by omega),_,Kg (by omega) (by omega),_,Kg (by omega) (by omega),_,rfl,_,rfl,?_⟩;have o:(f[(p-1).toNat]-1).toNat<g.length:=by omega
  have u:(f[p.toNat]-1).toNat<g.length:=by omega
  have f1:=r _ (WB o);refine⟨.inl ⟨by show -(2 ^ 64)<(g[(f[(p-1).toNat]-1).toNat]).2;omega,by show(g[(f[(p-1).toNat]-1).toNat]).2<2 ^ 64;omega⟩,?_⟩
  have e:exM g f p.toNat=(g[(f[(p-1).toNat]-1).toNat]).2*(g[(f[p.toNat]-1).toNat]).2:=by
   unfold exM
   have s:f.getD (p.toNat-1) 0=f[(p-1).toNat]:=by
    rw[show p.toNat-1=(p-1).toNat by omega];exact TL b1
   rw[s,TL q,TL o,TL u]
  rw[e]at l;exact l
def LJ(r:Def K mg "exchanged" Su ["numbers","place"])
  : EO ζ:=by
 refine r.fz Hg (λu n=>(b1<|sR<|xo XC XD (xo XC XD (xp (xv 0) o0<|o1<|xo XG XH (xv 1) xi)<|xL<|a2 (xx (xv 0)<|xv 1)<|xx (xv 0)<|xo XG XH (xv 1) xi)<|xp (xv 0) (o1<|xo UQ US (xv 1) xi) o0)) (.a ?_)
 ·rintro v R X ⟨f,p,rfl,q,o,s,h⟩;refine⟨rfl,?_⟩;have b1:p.toNat<f.length:=by lia
  have b2:(p-1).toNat<f.length:=by lia
  have g:(cutD (f.map D.int) none<|some (p-1)).length<=1000:=by have:=(Du (f.map D.int) none<|some (p-1)).length_le;rw[Wd]at this;lia
  have l:(cutD (f.map D.int) (some (p+1)) none).length<=1000:=by have:=(Du (f.map D.int) (some (p+1)) none).length_le;rw[Wd]at this;lia
  refine⟨Kq _,_,Kg (by lia) (by lia),_,Kg (by lia) (by lia),by simp,rfl,rfl,Wu (Nat.add_le_add g<|Wk 2) (by decide),Kq _,rfl,rfl,Wu (Nat.add_le_add (by rw[W1];exact Nat.add_le_add g (Wk 2)) l) (by decide),?_⟩;have e:=Lj q o (b1:=b1) (b2:=b2);rw[←e]at h;exact h
def RO(L:Def K mg "first_wrong_place" SL ["numbers","ranks"])
  : Dn ζ:=by
 refine L.fz Zcj (λN n=>(bc (sO [2] WR (iR G.Zj<|a2 xi<|xl G.len<|xv 0) (gN 2)<|b1<|sI (tc Kv K8 (xx (xv 1)<|xo XG XH (xx (xv 0)<|xo XG XH (xv 2) xi) xi)<|xx (xv 1)<|xo XG XH (xx (xv 0)<|xv 2) xi) (b1<|sV 2) b0)<|b1<|sR xi)) (.a ?_)
 ·rintro U R X ⟨h,l,rfl,y,M,E⟩;refine⟨rfl,?_⟩;have Q:(h.map D.int).length=h.length:=Wd ..
  have C:∀(i:Nat) (k:Int),i<h.length->k=(i:Int)->atI (h.map D.int) k=some (.int<|h.getD i 0):=λi k p e=>by
   rw[e];exact XN (f:=D.int) (P8<|by rw[Wj,Wc p];rfl)
  have A:∀i:Nat,i<h.length->atI (l.map D.int) (h.getD i 0-1)=some (.int (l.getD (h.getD i 0-1).toNat 0)):=λi p=>by
   have J:h.getD i 0∈h:=by
    rw[Wj,Wc p];exact WB p
   have:=y _ J
   generalize h.getD i 0=z at this;rw[Kg (f:=D.int) (xs:=l) (by lia) (by lia),Wj,Wc (show(z-1).toNat<l.length by lia)];rfl
  have x:∀i:Nat,i<h.length->(h.map λm=>l.getD (m-1).toNat 0).getD i 0=l.getD (h.getD i 0-1).toNat 0:=λi p=>Bu p;have B:(h.map λm=>l.getD (m-1).toNat 0).length=h.length:=Wd ..;refine⟨⟨by lia,by lia⟩,Ku (λi r=>(∀q,1<=q->q<1+i->(h.map λm=>l.getD (m-1).toNat 0).getD (q-1) 0<=(h.map λm=>l.getD (m-1).toNat 0).getD q 0)/\r=[some (.bor<|.lst<|h.map D.int),some (.bor<|.lst<|l.map D.int),none]) ⟨λq u T=>by lia,rfl⟩ ?_ ?_⟩
  ·rintro i r p ⟨u,rfl⟩
   have o:i+1<h.length:=by
    have:i<((((h.map D.int).length:Nat):Int)-1).toNat:=p
    lia
   refine⟨_,C i _ (by lia) (by lia),_,A i (by lia),_,C (i+1) _ o (by lia),_,A (i+1) o,?_⟩;refine Uq (λg=>?_) (λg=>?_)
   ·have H:l.getD (h.getD (i+1) 0-1).toNat 0<l.getD (h.getD i 0-1).toNat 0:=Wx g
    have:=E (i+1) ⟨λq s v=>u q s (by rw[Wl (by lia)]at v;lia),.inr ⟨by lia,by rw[B];exact o,by rw[x _ o,Nat.add_sub_cancel,x _ (by lia)];exact H⟩⟩
    rw[show((i+1:Nat):Int)=1+(i:Int) by lia]at this;exact this
   ·have H:¬l.getD (h.getD (i+1) 0-1).toNat 0<l.getD (h.getD i 0-1).toNat 0:=λz=>g (Wi z);refine⟨λq s v=>?_,rfl⟩;by_cases c:q<1+i
    ·exact u q s c
    ·have:q=i+1:=by lia
     subst this;rw[x _ o,Nat.add_sub_cancel,x _ (by lia)];lia
  ·rintro r ⟨u,rfl⟩;refine E 0 ⟨λq s v=>u q s ?_,.inl rfl⟩;rw[Wp rfl,B]at v;lia
def Li(J:Def K mg "broken_wishes" SN ["order","wishes"])
  : Fz ζ:=by
 refine J.fz EW (λr n=>(bc (se (Pu.pz 2 EW.nd Lg)<|NF MF<|XU 2)<|bc (sF 0<|sO [3,4] WR (ie (DA rfl G.Zq<|az<|pv 0)<|Ax<|sz<|Ub 0) (gT 2<|gc (gN 3)<|gc (gN 4) g0)<|b1<|se (M0 (Py<|r ()) (pv 2) (pv 4) (pv 3) rfl)<|Ih 2 (Ub 4)<|Ub 3)<|bc (sC 5 ["ahead","behind","index_of"] [none,none,some 2] n (jL<|xv 1) (gT 2<|gc (gN 0)<|gc (gN 1) g0) (f1<|tp<|wa (te (To<|Eh (Py<|r ()) (pv 0)<|pv 2)<|Ta<|Gk (Ub 0)<|Ub 2)<|wA<|te (To<|Eh (Py<|r ()) (pv 1)<|pv 2)<|Ta<|Gk (Ub 1)<|Ub 2)<|xt<|a2 (xv 0)<|xv 1)<|b1<|sR<|xC ["ahead","behind","index_of"] [none,none,some 2] (jL<|xv 5) (gT 2<|gc (gN 0)<|gc (gN 1) g0) (f1<|tc KW KH (xe (DJ (Py<|r ()) (pv 2) (pv 1) (λ_ _=>rfl))<|DB (Ub 2)<|Ub 1)<|xe (DJ (Py<|r ()) (pv 2) (pv 0) (λ_ _=>rfl))<|DB (Ub 2)<|Ub 0)<|xt<|a2 (xv 0)<|xv 1)) (.a ?_)
 ·rintro N R X ⟨os,u,rfl,s,M,hw,E⟩;refine⟨rfl,rfl,Kq _,A7 (xs:=os) (emb:=D.int) (λi g=>∃f:List (Key×V),g=[some (.bor<|.lst<|os.map D.int),some (.bor<|.lst<|u.map prD),some (.own<|.dK f),none,none,none]/\f.length<=i/\∀h:Int,Up f (.inl h)=if h∈os.take i then some (.int<|os.idxOf h)else none) ⟨[],rfl,by simp,λh=>by simp[Up]⟩ ?_ ?_⟩
  ·rintro i y g ⟨f,rfl,B,l⟩;refine⟨rfl,.inl os[i],.int i,rfl,rfl,by lia,_,rfl,Wu (BZ _ _ _) (by lia),λh=>?_⟩;rw[IH,l];by_cases e:h=os[i]
   ·subst e;rw[Wp rfl,Wp ((EA y).mpr (.inr rfl)),Ni s y]
   ·rw[Wl (λz=>e (Sum.inl.inj z))];simp only[EA y,e,or_false]
  ·rintro g ⟨f,rfl,B,l⟩;rw[QC]at l;refine XF (xs:=u) (emb:=prD) (λq=>if (decide (q.1∈os)&&decide (q.2∈os))=true then some (prD q)else none) (by lia) (λq hq=>⟨rfl,⟨_,rfl,?_⟩⟩) ?_
   ·have x:(Up f<|.inl q.1).isSome=decide (q.1∈os):=by
     rw[l];by_cases e:q.1∈os<;>simp[e]
    have v:(Up f<|.inl q.2).isSome=decide (q.2∈os):=by
     rw[l];by_cases e:q.2∈os<;>simp[e]
    refine Uq (λp=>⟨_,rfl,Uq (λA=>⟨by simp,_,rfl,Wp ?_⟩) (λA=>Wl λz=>A ?_)⟩) (λp=>U2 (Wl λz=>p ?_))
    ·rw[←x,←v,W2];exact⟨p,A⟩
    ·rw[←x,←v,W2]at z;exact z.2
    ·rw[←x,←v,W2]at z;exact z.1
   rw[KI (λq=>decide (q.1∈os)&&decide (q.2∈os)) prD];have C:=Qq (λq:Int×Int=>decide (q.1∈os)&&decide (q.2∈os)) u;refine XF (xs:=u.filter λq=>decide (q.1∈os)&&decide (q.2∈os)) (emb:=prD) (λq=>if decide (os.idxOf q.2<os.idxOf q.1)=true then some (prD q)else none) (by lia) (λq hq=>?_) ?_
   ·have o:=(Qy.mp hq).2;rw[W2,Vy,Vy]at o;refine⟨rfl,.inl q.2,.int (os.idxOf q.2),rfl,by rw[l,Wp o.2],rfl,.inl q.1,.int (os.idxOf q.1),rfl,by rw[l,Wp o.1],rfl,?_⟩;refine Uq (λp=>⟨by simp,_,rfl,Wp ?_⟩) (λp=>Wl λz=>p ?_)
    ·have H:((os.idxOf q.2:Nat):Int)<((os.idxOf q.1:Nat):Int):=Wx p;exact Wi (by lia)
    ·have L:=Wx z;exact Wi (show((os.idxOf q.2:Nat):Int)<((os.idxOf q.1:Nat):Int) by lia)
   rw[KI (λq=>decide (os.idxOf q.2<os.idxOf q.1)) prD,List.filter_filter]
   have e:(λq:Int×Int=>decide (os.idxOf q.2<os.idxOf q.1)&&(decide (q.1∈os)&&decide (q.2∈os)))=K6 os:=by
    funext q;rw[HF s,Bool.and_comm]
   rw[e];exact E
def Iz(h:Uv K (UJ K (Uy ζ) "strips") "strips" "Village.strips" NY ["self"])
  : Cm ζ:=by
 refine h.fz Ru (λo n=>(b1<|sR<|xe (Xp (K5 (K:=K)) (by rfl) G.Zi boot_list<|az<|jx K (BD (pv 0) rfl)<|TC T1 Xr)<|Ks<|sz<|KR (Si 1 G.Zb G.Zk Hu<|Ub 0)<|Bx UN)) (.a ?_)
 ·rintro p R X ⟨bk,fs,l,f,rfl,g⟩;refine⟨rfl,?_⟩;exact⟨rfl,rfl,_,rfl,_,Cd plD fs f,SQ _,g⟩
def GC(l:Uv K (UJ K (Uy ζ) "wishes") "wishes" "Village.wishes" BY ["self"])
  : D7 ζ:=by
 refine l.fz LN (λo n=>(b1<|sR<|xe (Xp (K5 (K:=K)) (by rfl) G.Zi boot_list<|az<|jx K (BD (pv 0) rfl)<|TC T1 Xr)<|Ks<|sz<|KR (Si 2 G.Zb G.Zl ME<|Ub 0)<|Bx UN)) (.a ?_)
 ·rintro p R X ⟨bk,fs,g,f,rfl,h⟩;refine⟨rfl,?_⟩;exact⟨rfl,rfl,_,rfl,_,Cd plD g f,SQ _,h⟩
def Zbx(g:Uv K (UJ K (Uy ζ) "deeds") "deeds" "Village.deeds" Sm ["self"])
  : EB ζ:=by
 refine g.fz Ry (λl n=>(b1<|sR<|xe (Xp (K5 (K:=K)) (by rfl) G.Zi boot_list<|az<|BD (pv 0) rfl)<|Ks<|sz<|Si 0 G.Zb G.Zn II<|Ub 0)) (.a ?_)
 ·rintro o R X ⟨bk,fs,h,rfl,f⟩;refine⟨rfl,?_⟩;exact⟨rfl,rfl,_,rfl,Au _,f⟩
def Mg(N:Def K mg "is_number" B7 ["text"])
  : Cv ζ:=by
 refine N.fz GR (λv n=>(bc (sI (tp<|wo (tc KW KH (xl G.len<|xv 0) xi)<|wO<|tc Kv K8 (xl G.len<|xv 0)<|xe (ExcR.XY G.Z0) UN) (b1<|sR xb) b0)<|bc (sI (tp<|wa (tq v (xe (TZ RF (pv 0) Xr (λ_ _=>rfl))<|Rv (Ub 0) UN) xs)<|wA<|tn v (xv 0) xs) (b1<|sR xb) b0)<|b1<|sR<|xe (U0 (EG (K:=K) rfl) (by rfl) G.ZJ boot_all<|az<|cz ["sign"] [none] (Zcr<|pv 0) ⟨(gk 0),P2,(PZ Mt (pv 0) (ExcR.XY G.ZI)<|by with_unfolding_all rfl)⟩)<|EE<|sz<|KM (SndI.c<|HP<|Ub 0) (XU 0) TQ<|RR (Ub 0) U7)) (.a ?_)
 ·rintro T R X ⟨x,rfl,l,y,f⟩;refine⟨rfl,l,Uq (λg=>?_) (λp=>⟨l,Uq (λg=>?_) (λo=>?_)⟩)⟩
  ·have e:X6 x=false:=by
    unfold X6;have g:decide ((x.length:Int)<1)=true:=g;rw[g];rfl
   rw[←e];exact f
  ·have e:X6 x=false:=by
    unfold X6;have g:decide ((4:Int)<(x.length:Int))=true:=g;rw[show decide ((x.length:Int)>4)=true from g,Bool.or_true]
    rfl
   rw[←e];exact f
  have p:¬(x.length:Int)<1:=λz=>p (Wi z);have o:¬(4:Int)<(x.length:Int):=λz=>o (Wi z);have u:x.cps.toList.length=x.length:=WV
  obtain⟨c,r,B⟩:∃c r,x.cps.toList=c::r:=by
   cases e:x.cps.toList with
   |nil=>rw[e]at u;simp at u;lia
   |cons c r=>exact⟨c,r,rfl⟩
  have E:atI x.cps.toList 0=some c:=by rw[B];exact Fd _ _
  have M:decide ((⟨#[c]⟩:Str) = "0")=decide (x.cps.toList.head?=some 48):=by
   rw[B];by_cases z:c=48
   ·subst z;rw[show(48::r).head?=some 48 from rfl,Wi rfl]
    decide +kernel
   ·rw[Wq (λh=>z (by have:=WJ (λs:Str=>s.cps.toList) h;exact(List.cons.inj this).1))];exact(Wq λh=>z (Wm h)).symm
  have q:X6 x=(!(decide (x.cps.toList.head?=some 48) && !decide (x=("0" : Str)))&&(x.cps.toList.map λc=>decide (c∈("0123456789" : Str).cps.toList)).all id):=by
   unfold X6;rw[Wq p,Wq o];rfl
  refine⟨l,c,E,?_⟩;show if decide ((⟨#[c]⟩:Str) = "0")=true then _ else _;rw[M];have C:x.cps.size<=4:=by have:x.cps.size=x.length:=rfl;lia
  have last:∀b:Bool,b=(x.cps.toList.map λc=>decide (c∈("0123456789" : Str).cps.toList)).all id->X6 x=b->Tp [none] [some (.sh<|.str x)] (Ka 0) Se (p2 (Nd 0) (pC<|.str "0123456789") Sx) x.cps.size (λi=>.sh (.str ⟨#[x.cps.getD i 0]⟩)) λs=>Bc [s] R:=λb J L=>by
   refine NW (λi=>some (.bl<|decide (x.cps.getD i 0∈("0123456789" : Str).cps.toList))) (by lia) (λi Q=>?_) ?_
   ·exact⟨_,rfl,_,rfl,rfl⟩
   ·have e:(List.range x.cps.size).filterMap (λi=>some (D.bl<|decide (x.cps.getD i 0∈("0123456789" : Str).cps.toList)))=(x.cps.toList.map λc=>decide (c∈("0123456789" : Str).cps.toList)).map D.bl:=by
     rw[WU,WY];refine List.ext_getElem (by simp) λi A H=>?_;simp at A H ⊢;rw[WN A];rfl
    rw[e];refine⟨_,rfl,?_⟩;rw[←J,←L];exact f
  refine Uq (λg=>?_) (λg=>?_)
  ·show if (!decide (x=("0" : Str)))=true then _ else _;by_cases z:x=("0" : Str)
   ·rw[Wi z];refine U2 ⟨y,last _ rfl ?_⟩;rw[q,Wi z,Bool.not_true,Bool.and_false];rfl
   ·rw[Wq z];refine PP ?_;have e:X6 x=false:=by rw[q,g,Wq z];rfl
    rw[←e];exact f
  ·refine U2 ⟨y,last _ rfl ?_⟩;rw[q,Vx.mpr g,Bool.false_and];rfl
def OO(o:Def K mg "told_texts" Sb ["texts"])
  : DF ζ:=by
 refine o.fz Md (λp n=>(b1<|sR<|xI (tt<|xv 0) (xe (PU (K:=K) QY PySem.F.slot_str_join PySem.F.type_str_join (Cs (K:=K)) UF<|az<|pv 0)<|DC U7<|Ub 0) xs)) (.a ?_)
 ·rintro q R X ⟨f,rfl,l,g⟩;refine⟨rfl,?_⟩;have h:(f.map D.str).isEmpty=decide (f=[]):=by cases f<;>simp
  show if (!(f.map D.str).isEmpty)=true then _ else _;rw[h];by_cases z:f=[]
  ·rw[Wi z];rw[Wp z]at g;exact U2 g
  ·rw[Wq z];rw[Wl z]at g;exact PP ⟨f,rfl,l,g⟩
def Rl(o:Def K mg "_law_at" Bo ["_law_script","_law_k"])
  : Cr ζ:=by
 refine o.fz IE (λp n=>(bc (sI (tc KW KH (xv 1)<|xl G.len<|xv 0) (b1<|sR<|xx (xv 0)<|xv 1) b0)<|b1<|sR xi)) (.a ?_)
 ·rintro r R X ⟨f,k,rfl,l,h⟩;refine⟨rfl,?_⟩;refine Uq (λg=>?_) (λ_=>h 0);have q:k<(f.length:Int):=Wx g;exact⟨_,Tu l (Wc<|show k.toNat<f.length by omega),h _⟩
def LH(g:Def K mg "_law_whole" Fi ["_law_found"])
  : A9 ζ:=by
 refine g.fz MX (λh n=>(b1<|sR<|xe (Bt (U0 (Pa (K:=K)) (by rfl) G.Za W7<|bz (pv 0)<|X1 (v:=.ty "int") rfl G.Z9 boot_int rfl)<|F8<|HX<|U0 (Pa (K:=K)) (by rfl) G.Za W7<|bz (pv 0)<|X1 (v:=.ty "bool") rfl G.ZN boot_bool rfl)<|B3 (Pm<|tz (Ub 0) K7)<|Hs<|Pm<|tz (Ub 0) K7)) (.a ?_)
 ·rintro l R X ⟨i,rfl,f⟩;refine⟨rfl,?_⟩;exact⟨_,.same _,_,.ib,f⟩
def RD(g:Def K mg "_law_mix" Fc ["_law_cell","_law_place"])
  : DW ζ:=by
 refine g.fz Zac (λh n=>(bc (sS 2 n<|xo U5 UD (xo Kx Ky (xo UQ US (xo UQ US (xo U5 UD (xv 0) xi)<|xo Kx Ky xi<|xv 1) xi) xi) xi)<|b1<|sR<|xo U5 UD (xo Kx Ky (xo UQ US (xo UQ US (xv 2)<|xo Kx Ky xi<|xv 1) xi) xi) xi)) (.a ?_)
 ·rintro l R X ⟨c,p,rfl,f⟩;refine⟨rfl,?_⟩;exact⟨(by show(0:Int)<2147483647;decide),.inl ⟨by decide,by decide⟩,.inr ⟨by decide,by decide⟩,(by show(0:Int)<2147483647;decide),.inl ⟨by decide,by decide⟩,.inr ⟨by decide,by decide⟩,(by show(0:Int)<2147483647;decide),f _⟩
def Ij(z:Def K mg "_law_menu" S8 ["_law_cell"])
  : E3 ζ:=by
 refine z.fz IY (λA n=>(bc (sS 1 n<|xx (xL<|ac xi<|ac xi<|ac xi<|ac xi<|ac xi a0)<|xo U5 UD (xo Xt Xy (xv 0) xi) xi)<|bc (sS 2 n<|xx (xL<|ac xi<|ac xi<|ac xi<|ac xi<|ac xi a0)<|xo U5 UD (xo Xt Xy (xv 0) xi) xi)<|b1<|sF 2<|sF 1<|sR<|xL<|ac (xo UQ US xi<|xo U5 UD (xv 0) xi)<|ac (xx (xL<|ac xi<|ac xi<|ac xi<|ac xi a0)<|xo U5 UD (xo Xt Xy (xv 0) xi) xi)<|ac (xo U5 UD (xo Xt Xy (xv 0) xi) xi)<|ac (xv 1)<|ac (xv 2) a0)) (.a ?_)
 ·rintro B R X ⟨c,rfl,u⟩;refine⟨rfl,?_⟩;have p:0<=c / 10 % 4/\c / 10 % 4<4:=by lia
  have o:0<=c / 400 % 5/\c / 400 % 5<5:=by lia
  have s:∀v∈([1,3,7,9]:Yf),1<=v/\v<=9/\(v=1\/v=3\/v=7\/v=9):=by decide
  have g:∀i:Int,0<=i->i<5->∃d e:Int,atI [D.int 1000,.int 3,.int 1,.int 2,.int 3] i=some (.int d)/\atI [D.int 1,.int 1,.int 1,.int 1,.int 998] i=some (.int e)/\(1<=d/\d<=1000)/\1<=e/\e+d<=1001:=λi a b=>by
   have:i=0\/i=1\/i=2\/i=3\/i=4:=by lia
   rcases this with rfl|rfl|rfl|rfl|rfl
   ·exact⟨1000,1,rfl,rfl,by decide,by decide,by decide⟩
   ·exact⟨3,1,rfl,rfl,by decide,by decide,by decide⟩
   ·exact⟨1,1,rfl,rfl,by decide,by decide,by decide⟩
   ·exact⟨2,1,rfl,rfl,by decide,by decide,by decide⟩
   ·exact⟨3,998,rfl,rfl,by decide,by decide,by decide⟩
  obtain⟨d,e,y,x,r,q⟩:=g _ o.1 o.2;have h:=s _ (WB (l:=([1,3,7,9]:Yf)) (n:=(c / 10 % 4).toNat)<|by show(c / 10 % 4).toNat<4;lia);refine⟨by simp,⟨by decide,by decide⟩,(by show(0:Int)<5;decide),_,y,by simp,⟨by decide,by decide⟩,(by show(0:Int)<5;decide),_,x,(by show(0:Int)<10;decide),by simp,⟨by decide,by decide⟩,(by show(0:Int)<4;decide),_,Kg (f:=D.int) (xs:=[1,3,7,9]) p.1 p.2,⟨by decide,by decide⟩,(by show(0:Int)<10;decide),by simp,?_⟩;exact u [_,_,_,_,_] ⟨_,_,_,_,_,rfl,by lia,h,by lia,r,q⟩
def Rj(h:Def K mg "_law_holder" Sv ["_law_menu_here","_law_k"])
  : Eg ζ:=by
 refine h.fz GT (λl n=>(b1<|sR<|xo UQ US xi<|xo U5 UD (xo UQ US (xo Kx Ky (xv 1)<|xx (xv 0) xi)<|xx (xv 0) xi) xi)) (.a ?_)
 ·rintro u R X ⟨m,k,rfl,g,f⟩;refine⟨rfl,?_⟩;obtain⟨a,b,c,d,e,rfl,s,r,q,p,o⟩:=g;exact⟨_,rfl,.inr ⟨by lia,by lia⟩,_,rfl,(by show(0:Int)<10;decide),f _ (by lia) (by lia) rfl⟩
def OY(o:Def K mg "_law_present" BS ["_law_strips_here"])
  : Da ζ:=by
 refine o.fz O5 (λh n=>(bc (sS 1 n<|xC ["_law_strip"] [none] (jL<|xv 0) (gN 0) f0<|xx (xv 0) xi)<|b1<|sR<|xC ["_law_holder_here","_law_owners"] [none,some 1] (jI<|iR G.Zj<|a2 xi xi) (gN 0) (f1<|ti h (xv 0)<|xv 1)<|xv 0)) (.a ?_)
 ·rintro s R X ⟨f,rfl,p,l⟩;refine⟨rfl,?_⟩;refine XF (xs:=f) (emb:=prD) (λq=>some (.int q.1)) (by lia) (λq hq=>⟨_,rfl,_,rfl,rfl⟩) ?_;rw[E4 (λq:Int×Int=>D.int q.1),show f.map (λq:Int×Int=>D.int q.1)=(f.map (·.1)).map D.int by rw[WY];rfl];refine⟨⟨by decide,by decide,by decide,by decide⟩,NW (n:=10) (λi=>if decide ((1:Int)+(i:Int)∈f.map (·.1))=true then some (.int (1+(i:Int)))else none) (by decide) (λi r=>?_) ?_⟩
  ·exact⟨_,.li _ _,Uq (λg=>⟨_,rfl,Wp g⟩) (λg=>Wl g)⟩
  rw[KI (λi:Nat=>decide ((1:Int)+(i:Int)∈f.map (·.1)))]
  have e:((List.range 10).filter λi:Nat=>decide ((1:Int)+(i:Int)∈f.map (·.1))).map (λi:Nat=>D.int (1+(i:Int)))=(Uw f).map D.int:=by
   unfold Uw;rw[OP,List.filter_map,WY];rfl
  rw[e];exact l
def GS(N:Def K mg "_law_spoiled" Sy ["_law_order","_law_cell"])
  : Fu ζ:=by
 refine N.fz LZ (λv n=>(bc (sS 2 n<|xx (xo XC XD (xv 0)<|xL<|a1 xi)<|xo U5 UD (xo Xt Xy (xv 1) xi)<|xo UQ US (xl G.len<|xv 0) xi)<|bc (sF 2<|sS 3 n<|xx (xL<|ac xi<|ac xi<|ac (xe (TC T1 Xr)<|Bx UN)<|ac (xo GJ Lm xi xi)<|ac (xo UQ US xi<|xo U5 UD (xo Xt Xy (xv 1) xi) xi)<|ac (xv 2)<|ac (xv 2) a0)<|xo U5 UD (xo Xt Xy (xv 1) xi) xi)<|bc (sS 4 n<|xo U5 UD (xo Xt Xy (xv 1) xi)<|xo UQ US (xl G.len<|xv 0) xi)<|bc (sI (tq v (xo U5 UD (xv 1) xi) xi) (b1<|sF 3<|sr<|xo XC XD (xo XC XD (xp (xv 0) o0<|o1<|xv 4)<|xL<|a1<|xv 3)<|xp (xv 0) (o1<|xv 4) o0) b0)<|bc (sI (tq v (xo U5 UD (xv 1) xi) xi) (b1<|sr<|xo XC XD (xp (xv 0) o0<|o1<|xv 4)<|xp (xv 0) (o1<|xo UQ US (xv 4) xi) o0) b0)<|bc (sI (tq v (xo U5 UD (xv 1) xi) xi) (b1<|sF 3<|sr<|xo XC XD (xo XC XD (xp (xv 0) o0<|o1<|xv 4)<|xL<|a1<|xv 3)<|xp (xv 0) (o1<|xo UQ US (xv 4) xi) o0) b0)<|b1<|sF 0<|sV 0)) (.b ?_)
 ·rintro U R X ⟨os,c,rfl,Q,A⟩;refine⟨rfl,?_⟩;have z:((os.map D.int).length:Int)=os.length:=by rw[Wd]
  have T:(os.map D.int++[D.int 1]).length=os.length+1:=by rw[W1,Wd];rfl
  have p:(0:Int)<os.length+1:=by lia
  have b1:0<=c / 40 % ((os.length:Int)+1)/\c / 40 % ((os.length:Int)+1)<os.length+1:=⟨Vn _ (by lia),QO _ p⟩;have C:0<=c / 4 % 7/\c / 4 % 7<7:=by lia
  have M:0<=c / 400 % ((os.length:Int)+1)/\c / 400 % ((os.length:Int)+1)<os.length+1:=⟨Vn _ (by lia),QO _ p⟩;have L:os.map D.int++[D.int 1]=(os++[1]).map D.int:=by rw[W5];rfl
  obtain⟨t,y⟩:=Ap (xs:=os++[1]) b1.1 (by rw[W1];exact b1.2);rw[←L]at y;have r:∀m:Int,KS m 40/\KS m 4/\KS m 400:=λm=>⟨⟨by decide,by decide⟩,⟨by decide,by decide⟩,⟨by decide,by decide⟩⟩;refine⟨by decide,rfl,rfl,by rw[Wd];show os.length+1<=100000;lia,(r c).1,?_⟩;show(0:Int)<((os.map D.int).length:Int)+1/\∃d,atI _ (c / 40 % (((os.map D.int).length:Int)+1))=some d/\_;rw[z];refine⟨p,_,y,?_⟩;obtain⟨o,J⟩:=Ap (xs:=[0,11,-1,10 ^ (30:Int).toNat,1+c / 40 % 10,t,t]) C.1 C.2;refine⟨⟨by decide,by decide,by decide⟩,(r c).1,(show(0:Int)<10 by decide),by simp,(r c).2.1,(show(0:Int)<7 by decide),_,J,?_⟩;refine⟨(r c).2.2,?_⟩;show(0:Int)<((os.map D.int).length:Int)+1/\Ka _ (.sh<|.int (c / 400 % (((os.map D.int).length:Int)+1))) _ _;rw[z];refine⟨p,?_⟩;generalize c / 400 % ((os.length:Int)+1)=s at M ⊢;have f:cutD (os.map D.int) none (some s)=(os.take s.toNat).map D.int:=by rw[KE,An _ (by lia)]
  have B:cutD (os.map D.int) (some s) none=(os.drop s.toNat).map D.int:=by rw[KE,P4 _ (by lia)]
  have q:cutD (os.map D.int) (some (s+1)) none=(os.drop (s+1).toNat).map D.int:=by rw[KE,P4 _ (by lia)]
  have x:(os.take s.toNat).length=s.toNat:=by rw[Qj];lia
  have H:(os.drop s.toNat).length=os.length-s.toNat:=List.length_drop ..;have E:(os.drop (s+1).toNat).length=os.length-(s+1).toNat:=List.length_drop ..
  have l:∀(xs u:Yf),xs.length+u.length<=21->R (.sh<|.lst (xs.map D.int++u.map D.int)):=λxs u h=>by
   rw[←W5];exact A _ (by rw[W1];exact h)
  have ln:∀xs:Yf,(xs.map D.int).length=xs.length:=λxs=>Wd ..;have one:[D.int o]=[o].map D.int:=rfl;refine⟨(show(0:Int)<4 by decide),Uq (λg=>?_) λg=>?_⟩
  ·refine⟨rfl,by simp,rfl,rfl,?_,rfl,rfl,rfl,?_,?_⟩
   ·rw[f,ln];show _+1<=100000;lia
   ·rw[f,B,W1,ln,ln];show _+1+_<=100000;lia
   ·rw[f,B,one,←W5];exact l _ _ (by rw[W1,x,H];show _+1+_<=21;lia)
  refine⟨(show(0:Int)<4 by decide),Uq (λg=>?_) λg=>?_⟩
  ·refine⟨rfl,rfl,rfl,rfl,?_,?_⟩
   ·rw[f,q,ln,ln];lia
   ·rw[f,q];exact l _ _ (by lia)
  refine⟨(show(0:Int)<4 by decide),Uq (λg=>?_) λg=>?_⟩
  ·refine⟨rfl,by simp,rfl,rfl,?_,rfl,rfl,rfl,?_,?_⟩
   ·rw[f,ln];show _+1<=100000;lia
   ·rw[f,q,W1,ln,ln];show _+1+_<=100000;lia
   ·rw[f,q,one,←W5];exact l _ _ (by rw[W1,x,E];show _+1+_<=21;lia)
  exact A os (by lia)
def Zcf(x:Def K mg "check_strips" Bm ["strips"])
  : DP ζ:=by
 refine x.fy O4 (λr n=>(bc (sI (tc Kv K8 (xl G.len<|xv 0)<|xe (ExcR.XY G.Zy) UN) (b1<|sQ G.Zs G.Zm ExcR.T5<|a1<|xe (ExcR.T8<|ExcR.PM<|ExcR.Tq (ExcR.XY G.Zy)<|ExcR.PM ExcR.TB)<|T4<|P7<|P3 UN<|P7 T7) b0)<|b1<|sF 0<|sO [1,2] ExcR.P5 (iL<|xv 0) (gT 2<|gc (gN 1)<|gc (gN 2) g0)<|bc (sE<|xg Y6 r ExcR.X4<|a1<|xv 1)<|b1<|sE<|xg Y7 r ExcR.X4<|a1<|xv 2)) (.a ?_)
 ·rintro B R X ⟨f,rfl,y,l⟩;refine⟨rfl,?_⟩;have A:(f.map prD).length=f.length:=Wd ..;unfold Pr at l;refine Uq (λg=>?_) (λg=>?_)
  ·have u:(40:Int)<((f.map prD).length:Int):=Wx g;rw[Wp (by lia)]at l;exact⟨by decide,by decide,by decide,by decide,by decide,by simp,l⟩
  ·have u:¬(40:Int)<((f.map prD).length:Int):=λz=>g (Wi z);rw[Wl (by lia)]at l;refine⟨rfl,Pe (xs:=f) (emb:=prD) (λi o=>o=[some (.bor<|plD f),none,none]/\Kh (f.drop i)=Kh f) ⟨rfl,rfl⟩ ?_ ?_⟩
   ·rintro i s o ⟨rfl,h⟩;have v:f.drop i=f[i]::f.drop (i+1):=WO s;rw[v,Zb1]at h;generalize f[i]=p at h ⊢;refine⟨rfl,p.1,rfl,?_⟩;unfold Bz;by_cases c:1<=p.1/\p.1<=10
    ·rw[Wl (λz=>z c)]at h;rw[Wp c];refine⟨p.2,rfl,?_⟩;unfold SH;by_cases q:1<=p.2/\p.2<=1000
     ·rw[Wl (λz=>z q)]at h;rw[Wp q];exact⟨rfl,h⟩
     ·rw[Wp q]at h;rw[Wl q];rw[←h]at l;exact l
    ·rw[Wp c]at h;rw[Wl c];rw[←h]at l;exact l
   ·rintro o ⟨rfl,h⟩;rw[V0]at h;rw[←h]at l;exact l
def GO(x:Def K mg "check_order" B0 ["strips","order"])
  : CK ζ:=by
 refine x.fy Zar (λo n=>(b1<|sI (tn o (xe (U0 (Dm (K:=K) (w:=w) rfl) (by rfl) G.Zr boot_sorted<|az<|pv 1)<|Ej<|sz<|Ub 1)<|xf Y8 o<|a1<|xv 0) (b1<|sQ G.Zc G.Zf ExcR.T5<|a1 xs) b0)) (.a ?_)
 ·rintro y R X ⟨ps,os,rfl,s,p,r,f⟩;refine⟨rfl,os,rfl,r,λl v u=>⟨ps,rfl,s,p,_,_,rfl,rfl,?_⟩⟩;have q:=FL (ps:=ps) v u;unfold Uk at f;refine Uq (λg=>?_) (λg=>?_)
  ·have h:¬l=Uw ps:=λz=>by rw[Wp rfl,Wi z]at g;cases g
   rw[Wl (λz=>h (q.mpr z))]at f;exact⟨by simp,f⟩
  ·have h:l=Uw ps:=Classical.byContradiction λz=>g (by rw[Wp rfl,Wq z];rfl);rw[Wp (q.mp h)]at f;exact f
def Zau(r:Def K mg "is_row" Bk ["word","texts"])
  : Ag ζ:=by
 refine r.fz GI (λg n=>(bc (sI (tN<|tt<|xe (U0 (EG (K:=K) rfl) (by rfl) G.ZJ boot_all<|az<|cz ["text"] [none] (Tr (K:=K)<|pv 1) ⟨(gk 0),P2,(fz YF (g ())<|az<|pv 0)⟩)<|EE<|sz<|KM (N0<|Ub 1) (XU 0) TQ<|KC<|sz<|Ub 0) (b1<|sR xb) b0)<|bc (sI (te (To<|Bq G.Z4<|pv 0)<|Ta<|NS<|Ub 0) (b1<|se Xf Xg) b0)<|bc (sI (te (To<|Bq G.ZK<|pv 0)<|Ta<|NS<|Ub 0) (b1<|se Xf Xg) b0)<|b1<|sR<|xe (Lr<|GF G.ZL<|pv 0)<|Lz<|Ub 0)) (.a ?_)
 ·rintro u R X ⟨w,os,rfl,hw,l,s,f⟩;refine⟨rfl,?_⟩;refine XF (xs:=os) (emb:=λn=>D.str (nS n)) (λn=>some (.bl true)) (by lia) (λn o=>?_) ?_
  ·have h:=l n o;have p:=(KQ h.1 h.2).2.1;refine⟨_,rfl,Wu p (by decide),Ia h.1,_,rfl,?_⟩;rw[GV h.1 h.2]
  have em:os.filterMap (λn=>some (D.bl true))=(os.map λ_=>true).map D.bl:=by rw[WU,WY];rfl
  have q:(os.map λ_=>true).all id=true:=by rw[List.all_map,W6];intro _ _;rfl
  rw[em];refine⟨_,rfl,?_⟩;rw[q];refine U2 ?_;rcases hw with rfl|rfl
  ·exact f
  ·exact f
def Rh(H:Def K mg "told_wishes" NM ["wishes"])
  : Fs ζ:=by
 refine H.fz HZ (λA n=>(b1<|sR<|xf YG A<|a1<|xC ["ahead","behind"] [none,none] (jL<|xv 0) (gT 2<|gc (gN 0)<|gc (gN 1) g0) f0<|xe (ExcR.T8<|ExcR.Tq (pv 0)<|ExcR.PM<|ExcR.Tq (pv 1) ExcR.TB)<|T4<|P3 (Ub 0)<|P7<|P3 (Ub 1) T7)) (.a ?_)
 ·rintro M R X ⟨f,rfl,J,hw,C⟩;refine⟨rfl,?_⟩
  have l:∀n:Int,0<=n/\n<=10->n.natAbs.log2<1920/\(nS n).length<=4:=λn h=>⟨by
   by_cases z:n.natAbs=0
   ·rw[z];decide
   ·exact Wv ((Nat.log2_lt z).mpr (QJ (show n.natAbs<=10 by lia)<|show 10<2 ^ 4 by decide)) (by decide),(KQ h.1<|by lia).2.1⟩
  have g:∀a b:Str,(a++b).length=a.length+b.length:=λa b=>by
   show(a.cps++b.cps).size=_;rw[Array.size_append];rfl
  have s:∀q∈f,(wS q).length<=9:=λq hq=>by
   have r:=(l q.1 (hw q hq).1).2;have p:=(l q.2 (hw q hq).2).2;unfold wS;rw[g,g,show(">" : Str).length=1 by decide +kernel];lia
  refine XF (xs:=f) (emb:=prD) (λq=>some (.str<|wS q)) (by lia) (λq hq=>?_) ?_
  ·have r:=l q.1 (hw q hq).1;have p:=l q.2 (hw q hq).2;have L:(1000:Nat)<=sizeLine:=by decide
   have v:(Str.empty++nS q.1).length<=sizeLine:=by rw[QE];lia
   have u:(Str.empty++nS q.1++">").length<=sizeLine:=by rw[QE,g,show(">" : Str).length=1 by decide +kernel];lia
   have o:(Str.empty++nS q.1++">"++nS q.2).length<=sizeLine:=by rw[QE,g,g,show(">" : Str).length=1 by decide +kernel];lia
   refine⟨rfl,r.1,v,u,p.1,o,o,_,rfl,?_⟩;show some (D.str<|wS q)=some (D.str (Str.empty++nS q.1++">"++nS q.2));rw[QE];rfl
  have em:f.filterMap (λq=>some (D.str<|wS q))=(f.map wS).map D.str:=by rw[WU,WY];rfl
  rw[em]
  have E:JoinOk spc (f.map wS)=true:=by
   unfold JoinOk;rw[StrLaws.joinFits (B:=9) (λy x=>by obtain⟨q,hq,rfl⟩:=WC.mp x;exact s q hq) (by rw[Wd,show spc.length=1 from rfl];lia)]
   rfl
  refine⟨_,rfl,E,?_⟩
  have e:(if f.map wS=[]then("none" : Str)else Txt.join spc (f.map wS))=Pb f:=by
   unfold Pb;by_cases z:f=[]
   ·rw[z];rfl
   ·rw[Wl z,Wl (λy=>z (List.map_eq_nil_iff.mp y))]
  rw[e];exact C
def IJ(l:Def K mg "_law_draw" BJ ["_law_script","_law_k"])
  : AC ζ:=by
 refine l.fz Hq (λf n=>(bc (sI (tq f (xo U5 UD (xf Yu f<|a2 (xv 0) xi) xi) xi) (b1<|sR<|xf Yu f<|a2 (xv 0)<|xo UQ US xi<|xv 1) b0)<|b1<|sR<|xf YH f<|a2 (xf Yu f<|a2 (xv 0) xi)<|xv 1)) (.a ?_)
 ·rintro p R X ⟨g,k,rfl,o,h⟩;refine⟨rfl,g,0,rfl,by decide,λv=>⟨(by show(0:Int)<2;decide),Uq (λ_=>?_) (λ_=>?_)⟩⟩
  ·exact⟨g,_,rfl,by omega,λv=>h v⟩
  ·exact⟨g,1,rfl,by decide,λu=>⟨_,_,rfl,λv=>h v⟩⟩
def LY(x:Def K mg "_law_row" Bs ["_law_found","_law_due"])
  : AX ζ:=by
 refine x.fz R7 (λl n=>(bc (sI (tp<|wo (tN<|tt<|xe (U0 (Pa (K:=K)) (by rfl) G.Za W7<|bz (pv 0)<|X1 (v:=.ty "list") rfl G.Zi boot_list rfl)<|Pm<|tz (Ub 0) K7)<|wO<|tn l (xl G.len<|xv 0)<|xl G.len<|xv 1) (b1<|sR xb) b0)<|bc (sO [2] WR (ir G.Zj<|a1<|xl G.len<|xv 1) (gN 2)<|b1<|sI (tp<|wo (tN<|tt<|xf Y0 l<|a1<|xx (xv 0)<|xv 2)<|wO<|tn l (xx (xv 0)<|xv 2)<|xx (xv 1)<|xv 2) (b1<|sR xb) b0)<|b1<|sR xb)) (.a ?_)
 ·rintro z R X ⟨xs,rfl|rfl,y,u⟩;refine⟨rfl,?_⟩
  ·have r:(xs.map D.int).length=xs.length:=Wd ..;refine⟨_,.same _,U2 (Pi rfl ?_)⟩;refine⟨⟨by lia,by lia⟩,Ku (λi f=>f=[some (.bor<|.lst<|xs.map D.int),some (.bor<|.lst<|xs.map D.int),none]) rfl ?_ ?_⟩
   ·rintro i f q rfl;have p:i<(((xs.map D.int).length:Nat):Int).toNat:=q;have ez:(0:Int)+(i:Int)=(i:Int):=by lia
    have h:i<xs.length:=by lia
    have g:atI (xs.map D.int) (0+(i:Int))=some (.int xs[i]):=by rw[ez];exact Be h
    exact⟨_,g,_,rfl,U2 ⟨_,g,_,g,Pi rfl rfl⟩⟩
   ·rintro f rfl;exact u
  ·refine⟨rfl,?_⟩;have r:(xs.map D.int).length=xs.length:=Wd ..;have o:((xs.length:Nat):Int)=(((xs.map D.int).length:Nat):Int):=by rw[r]
   refine⟨_,.same _,U2 (Pi o ?_)⟩;refine⟨⟨by lia,by lia⟩,Ku (λi f=>f=[some (.sh<|.fL xs),some (.bor<|.lst<|xs.map D.int),none]) rfl ?_ ?_⟩
   ·rintro i f q rfl;have p:i<(((xs.map D.int).length:Nat):Int).toNat:=q;have ez:(0:Int)+(i:Int)=(i:Int):=by lia
    have h:i<xs.length:=by lia
    have g:atI (xs.map D.int) (0+(i:Int))=some (.int xs[i]):=by rw[ez];exact Be h
    have s:atI xs (0+(i:Int))=some xs[i]:=by rw[ez];exact P8 (Wc h)
    exact⟨_,s,_,rfl,U2 ⟨_,s,_,g,Pi rfl rfl⟩⟩
   ·rintro f rfl;exact u
def Zci(A:Def K mg "_law_tuples" NN ["_law_found","_law_due"])
  : FH ζ:=by
 refine A.fz Zba (λl n=>(bc (sI (tp<|wo (tN<|tt<|xe (U0 (Pa (K:=K)) (by rfl) G.Za W7<|bz (pv 0)<|X1 (v:=.ty "list") rfl G.Zi boot_list rfl)<|Pm<|tz (Ub 0) K7)<|wO<|tn l (xl G.len<|xv 0)<|xl G.len<|xv 1) (b1<|sR xb) b0)<|bc (sO [2,3] WR (ir G.Zj<|a1<|xl G.len<|xv 1) (gN 2)<|bc (sI (tp<|wo (tN<|tt<|xe (U0 (Pa (K:=K)) (by rfl) G.Za W7<|bz (jx K (pv 0)<|pv 2)<|X1 (v:=.ty "tuple") rfl G.ZM boot_tuple rfl)<|Pm<|tz (KR (Ub 0)<|Ub 2) K7)<|wO<|tn l (xl G.len<|xx (xv 0)<|xv 2)<|xl G.len<|xx (xv 1)<|xv 2) (b1<|sR xb) b0)<|b1<|sO [3] WR (ir G.Zj<|a1<|xl G.len<|xx (xv 1)<|xv 2) (gN 3)<|b1<|sI (tp<|wo (tN<|tt<|xf Y0 l<|a1<|xx (xx (xv 0)<|xv 2)<|xv 3)<|wO<|tn l (xx (xx (xv 0)<|xv 2)<|xv 3)<|xx (xx (xv 1)<|xv 2)<|xv 3) (b1<|sR xb) b0)<|b1<|sR xb)) (.a ?_)
 ·rintro E R X ⟨g,rfl,B,y⟩;refine⟨rfl,?_⟩;have C:(g.map prD).length=g.length:=Wd ..;refine⟨_,.same _,U2 (Pi rfl ?_)⟩;refine⟨⟨by lia,by lia⟩,Ku (λi f=>∃t,f=[some (.bor<|.lst<|g.map prD),some (.bor<|.lst<|g.map prD),none,t]) ⟨_,rfl⟩ ?_ ?_⟩
  ·rintro i f u ⟨t,rfl⟩;have s:i<(((g.map prD).length:Nat):Int).toNat:=u;have ez:(0:Int)+(i:Int)=(i:Int):=by lia
   have x:i<g.length:=by lia
   have h:atI (g.map prD) (0+(i:Int))=some (prD g[i]):=by rw[ez];exact Be x
   generalize g[i]=q at h;refine⟨_,h,_,.same _,U2 ⟨_,h,_,h,?_⟩⟩;refine⟨_,h,⟨(by show -(2 ^ 62)<=(2:Int);decide),(by show(2:Int)<2 ^ 62;decide)⟩,Ku (λj f=>∃t,f=[some (.bor<|.lst<|g.map prD),some (.bor<|.lst<|g.map prD),some (.sh<|.int (0+(i:Int))),t]) ⟨_,rfl⟩ ?_ ?_⟩
   ·rintro j f r ⟨t,rfl⟩;have p:j<2:=r
    obtain⟨z,o⟩:∃z:Int,atI [D.int q.1,D.int q.2] (0+(j:Int))=some (.int z):=by
     have:j=0\/j=1:=by lia
     rcases this with rfl|rfl
     ·exact⟨_,rfl⟩
     ·exact⟨_,rfl⟩
    exact⟨_,h,_,o,z,rfl,U2 ⟨_,h,_,o,_,h,_,o,Pi rfl ⟨_,rfl⟩⟩⟩
   ·rintro f ⟨t,rfl⟩;exact⟨_,rfl⟩
  ·rintro f ⟨t,rfl⟩;exact y
def OT(z:Def K mg "gathered" BN ["strips","order"])
  : Dz ζ:=by
 refine z.fy Od (λr n=>(bc (sE<|xg Yv r ExcR.X4<|a2 (xv 0)<|xv 1)<|bc (sS 2 n<|xL a0)<|bc (sF 1<|sO [3] ExcR.P5 (iL<|xv 1) (gN 3)<|b1<|se (XA<|Tz Qg PySem.F.slot_list_extend PySem.F.type_list_extend GP (pv 2)<|az<|cz ["strip","holder"] [none,some 3] (Tr (K:=K)<|pv 0) ⟨(gk 0),(FE<|cq K (r ()) (jx K (pv 0) Xr)<|pv 1),(pv 0)⟩)<|Hk 2<|KM (N0<|Ub 0) (XU 0) (Xw<|XJ (KR (Ub 0) UN)<|Ub 1)<|Ub 0)<|b1<|sV 2)) (.a ?_)
 ·rintro E R X ⟨f,os,rfl,x,p,u,l⟩;refine⟨rfl,f,os,rfl,x,p,u,?_⟩;cases e:Uk f os with
  |some c=>rw[e]at l;exact l
  |none=>
   rw[e]at l;have o:R (.own ((Kf f os).map prD)):=l;refine⟨by simp,rfl,Pe (xs:=os) (emb:=D.int) (λi h=>h=[some (.bor<|plD f),some (.bor<|.lst<|os.map D.int),some (.own ((Kf f<|os.take i).map prD)),none]) rfl ?_ ?_⟩
   ·rintro i v h rfl;have B:=Rk f (os.take i);have s:(os.take i).length<=64:=by rw[Qj];lia
    have A:=Nat.mul_le_mul s p;have C:=Qq (λq:Int×Int=>decide (q.1=os[i])) f;refine XF (xs:=f) (emb:=prD) (λq=>if decide (q.1=os[i])=true then some (prD q)else none) (by lia) (λq hq=>⟨_,rfl,Uq (λg=>⟨_,rfl,Wp g⟩) (λg=>Wl g)⟩) ?_;rw[KI (λq:Int×Int=>decide (q.1=os[i]))];refine⟨by rw[Wd,Wd];lia,?_⟩
    have y:Kf f (os.take (i+1))=Kf f (os.take i)++f.filter λq=>decide (q.1=os[i]):=by
     unfold Kf;rw[WT v,List.flatMap_append];simp
    rw[y,W5];rfl
   ·rintro h rfl;rw[QC];exact o
def HU(z:Def K mg "order_cost" Fj ["strips","order"])
  : Gs ζ:=by
 refine z.fy Zb2 (λp n=>(bc (sE<|xg Yv p ExcR.X4<|a2 (xv 0)<|xv 1)<|bc (sS 2 n xi)<|bc (sF 1<|sO [3,4,5] ExcR.P5 (ie (DA rfl G.Zq<|az<|pv 1)<|Ax<|sz<|Ub 1) (gT 2<|gc (gN 3)<|gc (gN 4) g0)<|b1<|sO [5] ExcR.P5 (iL<|xp (xv 1) (o1<|xo UQ US (xv 3) xi) o0) (gN 5)<|b1<|sU 2 n B4<|xf Y9 p<|a3 (xv 0) (xv 4)<|xv 5)<|b1<|sV 2)) (.a ?_)
 ·rintro A R X ⟨f,os,rfl,q,r,s,l⟩;refine⟨rfl,f,os,rfl,q,r,s,?_⟩;cases e:Uk f os with
  |some c=>
   rw[e]at l;exact l
  |none=>
   rw[e]at l;refine⟨rfl,Kq _,A7 (xs:=os) (emb:=D.int) (λi g=>∃c:Int,g=[some (.bor<|plD f),some (.bor<|.lst<|os.map D.int),some (.sh<|.int c),none,none,none]/\c+Xm f f.length (os.drop i)=Xm f f.length os) ⟨0,rfl,by simp⟩ ?_ ?_⟩
   ·rintro i v g ⟨c,rfl,o⟩
    have ecut:cutD (os.map D.int) (some ((i:Int)+1)) none=(os.drop (i+1)).map D.int:=by
     rw[KE,P4 os (by omega)];congr 2
    refine⟨rfl,Kq _,rfl,?_⟩;show Tv _ _ _ _ _ (cutD (os.map D.int) (some ((i:Int)+1)) none).length (λk=>S.sub (.own<|cutD (os.map D.int) (some ((i:Int)+1)) none) ((cutD (os.map D.int) (some ((i:Int)+1)) none).getD k .non));rw[ecut];generalize x:os.drop (i+1)=h;refine Pe (xs:=h) (emb:=D.int) (λj g=>g=[some (.bor<|plD f),some (.bor<|.lst<|os.map D.int),some (.sh<|.int (c+((h.take j).map λb=>pcM f os[i] b f.length).sum)),some (.sh<|.int i),some (.sh (.int os[i])),none]) (by simp;rfl) ?_ ?_
    ·rintro j u g rfl;refine⟨f,os[i],h[j],rfl,q,?_⟩
     have y:((h.take (j+1)).map λb=>pcM f os[i] b f.length).sum=((h.take j).map λb=>pcM f os[i] b f.length).sum+pcM f os[i] h[j] f.length:=by
      rw[WT u,W5,List.sum_append];simp
     rw[y,←Int.add_assoc];rfl
    ·rintro g rfl;refine⟨_,rfl,?_⟩;rw[QC,←o,WO v,x];simp only[Xm];omega
   ·rintro g ⟨c,rfl,o⟩;rw[V0]at o;have e:c=Xm f f.length os:=by simp only[Xm]at o;omega
    rw[←e]at l;exact l
def MZ(DD:Def K mg "told_moves" SK ["strips","order"])
  : ER ζ:=by
 refine DD.fy Zbi (λB n=>(bc (sE<|xg Yv B ExcR.X4<|a2 (xv 0)<|xv 1)<|bc (sC 2 ["holder","width","order"] [none,none,some 1] n (jL<|xv 0) (gT 2<|gc (gN 0)<|gc (gN 1) g0) f0<|xe (PU (K:=K) Qg PySem.F.slot_list_index PySem.F.type_list_index (O3 (K:=K)) (pv 2)<|az<|pv 0)<|LB (Ub 2)<|sz<|Ub 0)<|bc (sS 3 n<|xf YA B<|a1<|xv 0)<|bc (sS 4 n<|xL a0)<|bc (sS 5 n<|xf Yy B<|a2 (xv 3)<|xv 2)<|bc (sW [] ExcR.P5 (tc Kv K8 (xv 5) xi)<|bc (sF 5<|sA 4<|xt<|ac (xv 5)<|ac (xx (xv 3)<|xo XG XH (xv 5) xi)<|ac (xx (xv 3)<|xv 5)<|ac (xf YB B<|a3 (xv 0) (xv 3)<|xv 5) a0)<|bc (sS 3 n<|xf YC B<|a2 (xv 3)<|xv 5)<|b1<|sS 5 n<|xf Yy B<|a2 (xv 3)<|xv 2)<|b1<|sV 4)) (.a ?_)
 ·rintro ds R X ⟨l,o,rfl,hF,hz,hl,C⟩;refine⟨rfl,l,o,rfl,hF,by lia,hl,?_⟩;refine(Option.eq_none_or_eq_some<|Uk l o).elim (λe=>?_) (λ⟨c,e⟩=>by rw[e]at C ⊢;exact C);have hp:=SG e;rw[e]at C ⊢;have C:∀y:List Mo,Mv l (rkN l o) (UT 1 l.length) y->R (.own<|y.map mvD):=C;have hh:=Te l;have hol:=hp.length_eq;have U:=Rg hF hp;refine XF (xs:=l) (emb:=prD) (λq=>some (.int (o.idxOf q.1:Nat))) (by lia) (λq hq=>?_) ?_
  ·exact⟨rfl,⟨_,rfl⟩,o,rfl,U q hq,_,rfl,rfl⟩
  rw[E4 (λq:Int×Int=>D.int (o.idxOf q.1:Nat))];have er:l.map (λq:Int×Int=>D.int (o.idxOf q.1:Nat))=(l.map λq:Int×Int=>((o.idxOf q.1:Nat):Int)).map D.int:=by rw[WY];rfl
  rw[er];generalize M:(l.map λq:Int×Int=>((o.idxOf q.1:Nat):Int))=v;have lrs:v.length=l.length:=by rw[←M,Wd]
  have rk:∀m:Int,1<=m/\m<=l.length->v.getD (m-1).toNat 0=rkN l o m:=λm A=>by
   have Y:(m-1).toNat<l.length:=by lia
   rw[←M];unfold rkN hdN;rw[Wj,Wj,Ws,Wc Y];rfl
  have keys:∀r:Yf,r.Perm (UT 1 l.length)->r.map (λm=>v.getD (m-1).toNat 0)=r.map (rkN l o):=λr u=>QH λm A=>rk m (runI_mem.mp<|u.mem_iff.mp A)
  have inr:∀r:Yf,r.Perm (UT 1 l.length)->∀m∈r,1<=m/\m<=v.length:=λr u m A=>by
   have:=runI_mem.mp (u.mem_iff.mp A)
   lia
  refine⟨l,rfl,by lia,by simp,?_⟩;refine⟨_,v,rfl,inr _ (.refl _),by rw[NV];lia,λp0 J=>?_⟩;rw[keys _ (.refl _)]at J
  have e0:∀r:Yf,r.Perm (UT 1 l.length)->Xh (λm=>v.getD (m-1).toNat 0) r=Xh (rkN l o) r:=λr u=>by
   unfold Xh;congr 1;exact QH λm A=>by show(v.getD (m-1).toNat 0,(1:Int))=_;rw[rk m (runI_mem.mp<|u.mem_iff.mp A)]
  have b0:=Nv (rkN l o) (UT 1 l.length)
  have nn:((l.length:Int))*l.length<=1600:=by
   have:=Int.mul_le_mul (a:=(l.length:Int)) (b:=l.length) (c:=40) (d:=40) (by lia) (by lia) (by lia) (by lia)
   lia
  rw[NV]at b0;refine Rc (λH=>∃(r:Yf) (s:List Mo) (p:Nat),FW (r.map<|rkN l o) p/\r.Perm (UT 1 l.length)/\(∀y,Mv l (rkN l o) r y->Mv l (rkN l o) (UT 1 l.length) (s++y))/\(s.length:Int)+Xh (rkN l o) r=Xh (rkN l o) (UT 1 l.length)/\H=[some (.bor<|plD l),some (.bor<|.lst<|o.map D.int),some (.own<|v.map D.int),some (.own<|r.map D.int),some (.own<|s.map mvD),some (.sh<|.int p)]) mvN ⟨UT 1 l.length,[],p0,J,.refl _,λy h=>h,by simp,rfl⟩ ?_;rintro H ⟨r,s,p,hw,u,hM,hc,rfl⟩;have hl:r.length=l.length:=by rw[u.length_eq,NV]
  have b1:=Nv (rkN l o) r;refine Uq (λg=>?_) (λg=>?_)
  ·have g':0<((p:Nat):Int):=Wx g;obtain⟨h1,E,h3⟩:=hw.2.resolve_left (by lia);rw[Wd]at E;rw[Bu E,Bu (by lia)]at h3;have hs:=Lo (rkN l o) h1 E h3;have x:(Xd r p).Perm (UT 1 l.length):=(Aw h1 E).trans u;have b2:=Nv (rkN l o) (Xd r p)
   have ix:∀(i:Nat) (k:Int),i<r.length->k=(i:Int)->atI (r.map D.int) k=some (.int<|r.getD i 0):=λi k Y e=>by
    rw[e];exact XN (f:=D.int) (P8<|by rw[Wj,Wc Y];rfl)
   have lm:(s.map mvD).length=s.length:=Wd ..;have N:∀m∈r,1<=m/\m<=l.length:=λm A=>runI_mem.mp (u.mem_iff.mp A);refine⟨_,ix (p-1) _ (by lia) (by lia),_,ix p _ E rfl,?_⟩;refine⟨l,r,p,rfl,hF,N,by lia,by lia,by simp,by lia,?_⟩;refine⟨r,p,rfl,by lia,by lia,by lia,?_⟩;rw[WD];refine⟨Xd r p,v,rfl,inr _ x,by rw[Om h1 E];lia,λp' L=>?_⟩;rw[keys _ x]at L;refine⟨⟨Xd r p,s++[((p:Int),r.getD (p-1) 0,r.getD p 0,exM l r p)],p',L,x,λy T=>?_,?_,?_⟩,?_⟩
   ·rw[QW];exact hM _ (.step r p y hw (by lia) T)
   ·rw[W1,List.length_singleton];lia
   ·rw[W5];rfl
   ·show(Xh _ (((Xd r p).map D.int).map toI)).toNat<(Xh _ ((r.map D.int).map toI)).toNat;rw[BW,BW,BW,e0 _ x,e0 _ u];lia
  ·have g':¬0<((p:Nat):Int):=λz=>g (Wi z);have Q:p=0:=by lia
   subst Q
   have:=hM [] (.done r hw)
   rw[WE]at this;exact C s this
def OE(r:Uv K (Mk K<|Uy ζ) "__init__" "Village.__init__" Sh ["self","strips"])
  : Ac ζ:=by
 refine r.fy L0 (λl n=>(bc (sE<|xg YM l ExcR.X4<|a1<|xv 1)<|bc (se (Bh (pv 0) (UR UA) rfl)<|Ba 0 G.Zb G.Zn Oe<|Xu Xl)<|bc (se (Bh (pv 0) (UR<|az<|Xp (K5 (K:=K)) (by rfl) G.Zi boot_list<|az<|pv 1) rfl)<|Ba 0 G.Zb G.Zk Ib<|Xu<|sz<|Ks<|sz<|Ub 1)<|b1<|se (Bh (pv 0) (UR<|az<|UR UA) rfl)<|Ba 0 G.Zb G.Zl Ic<|Xu<|sz<|Xu Xl)) (.c ?_)
 ·rintro o s R X ⟨x,g,rfl,rfl,h,f⟩;refine⟨rfl,g,rfl,h,?_⟩;cases e:Pr g with
  |some c=>
   rw[e]at f;exact⟨_,rfl,⟨rfl,by simp⟩,f⟩
  |none=>
   rw[e]at f;refine⟨by simp,rfl,rfl,by decide,λb1=>?_⟩;refine⟨rfl,by simp,rfl,rfl,by decide,λq=>?_⟩;refine⟨by simp,by simp,rfl,rfl,by decide,λp=>?_⟩;exact⟨_,rfl,⟨rfl,by simp⟩,f b1 q p⟩
def MA(u:Uv K (UJ K (Uy ζ) "broken") "broken" "Village.broken" NJ ["self","order"])
  : DR ζ:=by
 refine u.fy IG (λg n=>(bc (sE<|xg Yv g ExcR.X4<|a2 (xe (Pg Yw G.Zb (hq<|g ()) KB<|pv 0)<|Pf SX (Ub 0) Xl)<|xv 1)<|b1<|sR<|xf YD g<|a2 (xv 1)<|xe (Pg Yz G.Zb (hq<|g ()) KB<|pv 0)<|Pf AH (Ub 0) Xl)) (.a ?_)
 ·rintro v R X ⟨bk,fs,o,f,w,os,rfl,s,q,r,hw,l⟩;refine⟨rfl,rfl,rfl,bk,fs,o++[w],f,rfl,f,os,rfl,s,q,r,?_⟩;cases e:Uk f os with
  |some c=>
   rw[e]at l;exact l
  |none=>
   rw[e]at l
   have p:os.Perm (Uw f):=by
    unfold Uk at e;split at e
    ·rename_i z;exact List.isPerm_iff.mp z
    ·cases e
   exact⟨rfl,rfl,bk,fs++[f],o,w,rfl,os,w,rfl,p.symm.nodup ((TR f).imp (λh=>Int.ne_of_lt h)),by have:=p.length_eq;have:=Te f;omega,hw,l⟩
def Za2(E:Def K mg "_law_strips" NP ["_law_script","_law_menu_here","_law_many"])
  : Eu ζ:=by
 refine E.fz Rq (λs n=>(bc (sS 3 n<|xL a0)<|bc (sO [4,5,6] WR (ir G.Zj<|a1<|xv 2) (gN 4)<|bc (sS 5 n<|xf Yx s<|a2 (xv 0)<|xo UQ US xi<|xv 4)<|bc (sS 6 n<|xo UQ US (xx (xv 1) xi)<|xo U5 UD (xo Xt Xy (xv 5)<|xx (xv 1) xi)<|xx (xv 1) xi)<|b1<|sF 6<|sA 3<|xt<|a2 (xf YJ s<|a2 (xv 1)<|xo U5 UD (xv 5)<|xx (xv 1) xi)<|xv 6)<|b1<|sV 3)) (.a ?_)
 ·rintro ds R X ⟨r,m,n,rfl,u,Y,U,C⟩;refine⟨rfl,?_⟩;have o:=u;obtain⟨a,b,c,d,e,rfl,T,Q,N,M,L⟩:=u;refine⟨by simp,⟨by omega,by omega⟩,Ku (λi g=>∃f:Ye,g=[some (.bor<|.scr r),some (.bor<|.lst (([a,b,c,d,e]:Yf).map D.int)),some (.sh<|.int n),some (.own<|f.map prD),none,none,none]/\Field f/\f.length=i) ⟨[],rfl,(λq hq=>by cases hq),rfl⟩ ?_ ?_⟩
  ·rintro i g B ⟨f,rfl,p,l⟩;have z:(f.map prD).length=f.length:=Wd ..;have A:i<n.toNat:=B;refine⟨r,_,rfl,by omega,λv=>?_⟩;have J:=Vn (v / a) (show d≠0 by omega);have H:=QO (v / a) (show 0<d by omega);refine⟨_,rfl,_,rfl,⟨by omega,by omega⟩,_,rfl,(by show 0<d;omega),_,rfl,(by show 0<a;omega),[a,b,c,d,e],_,rfl,o,λh y x _=>⟨by simp,by omega,f++[(h,e+v / a % d)],?_,λq hq=>?_,by rw[W1,l];rfl⟩⟩
   ·rw[W5];rfl
   ·rcases WH.mp hq with hq|hq
    ·exact p q hq
    ·rw[Wf]at hq;subst hq;exact⟨y,x,by show 1<=e+v / a % d;omega,by show e+v / a % d<=1000;omega⟩
  ·rintro g ⟨f,rfl,p,l⟩;exact C f p l
def Ha(r:Uv K (UJ K (Uy ζ) "price") "price" "Village.price" SA ["self","order"])
  : Dk ζ:=by
 refine r.fy IW (λg n=>(b1<|sR<|xg Y3 g ExcR.X4<|a2 (xe (Pg Yw G.Zb (hq<|g ()) KB<|pv 0)<|Pf SX (Ub 0) Xl)<|xv 1)) (.a ?_)
 ·rintro s R X ⟨bk,fs,h,f,os,rfl,q,l,o,p⟩;refine⟨rfl,?_⟩;exact⟨rfl,rfl,bk,fs,h,f,rfl,f,os,rfl,q,l,o,p⟩
def Zbn(v:Def K mg "told_question" Bg ["village","word","numbers"])
  : Dy ζ:=by
 refine v.fy IZ (λg n=>(bc (sI (tq g (xv 1) xs) (b1<|se Xf Xg) b0)<|bc (sI (tq g (xv 1) xs) (b1<|se Xf Xg) b0)<|bc (sI (tq g (xv 1) xs) (b1<|se Xf Xg) b0)<|bc (sI (tq g (xv 1) xs) (b1<|se Xf Xg) b0)<|bc (sI (tq g (xv 1) xs) (b1<|se Xf Xg) b0)<|bc (sI (tq g (xv 1) xs) (b1<|se Xf Xg) b0)<|bc (sI (tq g (xv 1) xs) (b1<|se Xf Xg) b0)<|bc (sI (tq g (xv 1) xs) (b1<|sR<|xe (Xp A5 (by rfl) G.ZA boot_str<|az<|FP Y5 G.Zb (hq<|g ()) ExcR.X4 (pv 0)<|az<|pv 2)<|A6<|sz<|Gm Ay (Ub 0)<|sz<|Ub 2) b0)<|bc (sI (tq g (xv 1) xs) (b1<|sR<|xf YO g<|a1<|xe (FP Y4 G.Zb (hq<|g ()) ExcR.X4 (pv 0)<|az<|pv 2)<|Gm A8 (Ub 0)<|sz<|Ub 2) b0)<|b1<|se Xf Xg)) (.a ?_)
 ·rintro x R X ⟨bk,fs,p,f,w,os,word,rfl,u,o,s,r,l,h⟩;refine⟨rfl,?_⟩;rcases u with rfl|rfl
  ·refine⟨rfl,rfl,bk,fs,p++[w],f,os,rfl,o,by lia,r,?_⟩;cases e:Uk f os with
   |some c=>rw[e]at h;exact h
   |none=>
    rw[e]at h;exact⟨FD (G2 o s<|by rw[(SG e).length_eq];exact Te f),h⟩
  ·refine⟨rfl,rfl,bk,fs,p,f,w,os,rfl,o,by lia,r,by have:=l.1;lia,?_⟩;cases e:Uk f os with
   |some c=>rw[e]at h;exact h
   |none=>
    rw[e]at h;refine⟨_,rfl,by have:=l.1;have:=Qq (K6 os) w;lia,λq hq=>by have:=(l.2.2 q (Qy.mp hq).1).1;lia,h⟩
def Lx(C:Def K mg "_law_door" BA ["_law_which","_law_strips_here","_law_village","_law_order"])
  : Am ζ:=by
 refine C.fz X5 (λo n=>(bc (sS 4 n<|xL a0)<|bj (se (ExcR.O8 (λpins D=>(P9 (KZ (cq K (o ()) (pv 0) Xr) (Uo<|XA<|ExcR.Ny YR (hq<|o ()) (ExcR.Tt (pins:=pins) (D:=D) (i:=5) rfl rfl X5.nd rfl rfl rfl G.Zf (by decide) (λa=>(Uo<|Pu.pz 4 X5.nd<|UR<|bz (U0 (ExcR.X9 (K:=K)) (by rfl) G.Za W7<|bz (pv 5)<|ExcR.PL G.Zg)<|U0 (ExcR.X9 (K:=K)) (by rfl) G.Za W7<|bz (pv 5)<|X1 (v:=.ty "ValueError") rfl G.Zh (by decide +kernel) rfl)))<|bz (pv 1)<|pv 3)
   Pt)<|P9 (KZ (cq K (o ()) (pv 0) Xr) (Uo<|XA<|ExcR.Ny Y3 (hq<|o ()) (ExcR.Tt (pins:=pins) (D:=D) (i:=5) rfl rfl X5.nd rfl rfl rfl G.Zf (by decide) (λa=>(Uo<|Pu.pz 4 X5.nd<|UR<|bz (U0 (ExcR.X9 (K:=K)) (by rfl) G.Za W7<|bz (pv 5)<|ExcR.PL G.Zg)<|U0 (ExcR.X9 (K:=K)) (by rfl) G.Za W7<|bz (pv 5)<|X1 (v:=.ty "ValueError") rfl G.Zh (by decide +kernel) rfl)))<|bz (pv 1)<|pv 3)
   Pt)<|P9 (KZ (cq K (o ()) (pv 0) Xr) (Uo<|XA<|ExcR.Ny YS (hq<|o ()) (ExcR.Tt (pins:=pins) (D:=D) (i:=5) rfl rfl X5.nd rfl rfl rfl G.Zf (by decide) (λa=>(Uo<|Pu.pz 4 X5.nd<|UR<|bz (U0 (ExcR.X9 (K:=K)) (by rfl) G.Za W7<|bz (pv 5)<|ExcR.PL G.Zg)<|U0 (ExcR.X9 (K:=K)) (by rfl) G.Za W7<|bz (pv 5)<|X1 (v:=.ty "ValueError") rfl G.Zh (by decide +kernel) rfl)))<|bz (pv 1)<|pv 3)
   Pt)<|P9 (KZ (cq K (o ()) (pv 0) Xr) (Uo<|XA<|Gw Y5 G.Zb (hq<|o ()) (ExcR.Tt (pins:=pins) (D:=D) (i:=5) rfl rfl X5.nd rfl rfl rfl G.Zf (by decide) (λa=>(Uo<|Pu.pz 4 X5.nd<|UR<|bz (U0 (ExcR.X9 (K:=K)) (by rfl) G.Za W7<|bz (pv 5)<|ExcR.PL G.Zg)<|U0 (ExcR.X9 (K:=K)) (by rfl) G.Za W7<|bz (pv 5)<|X1 (v:=.ty "ValueError") rfl G.Zh (by decide +kernel) rfl))) (pv 2)<|az<|pv 3)
   Pt)<|Uo (KZ (cq K (o ()) (pv 0) Xr) (Uo<|XA<|Gw Y4 G.Zb (hq<|o ()) (ExcR.Tt (pins:=pins) (D:=D) (i:=5) rfl rfl X5.nd rfl rfl rfl G.Zf (by decide) (λa=>(Uo<|Pu.pz 4 X5.nd<|UR<|bz (U0 (ExcR.X9 (K:=K)) (by rfl) G.Za W7<|bz (pv 5)<|ExcR.PL G.Zg)<|U0 (ExcR.X9 (K:=K)) (by rfl) G.Za W7<|bz (pv 5)<|X1 (v:=.ty "ValueError") rfl G.Zh (by decide +kernel) rfl))) (pv 2)<|az<|pv 3)
   Pt)))) (OX (E':=λ_=>E0) ["BadOrder"] (λc y=>by
    simp only[Wo,QA,or_false]at y;rcases y with rfl
    ·exact⟨G.Zc,G.Zp⟩)
    (λD=>(P1 (P0 (Xw<|XJ (Ub 0) UN) (KL<|TJ<|tz (Ub 1)<|Ub 3) Pn)<|P1 (P0 (Xw<|XJ (Ub 0) UN) (KL<|TJ<|tz (Ub 1)<|Ub 3) Pn)<|P1 (P0 (Xw<|XJ (Ub 0) UN) (KL<|TJ<|tz (Ub 1)<|Ub 3) Pn)<|P1 (P0 (Xw<|XJ (Ub 0) UN) (KL<|BQ Ay (Ub 2)<|sz<|Ub 3) Pn)<|P0 (Xw<|XJ (Ub 0) UN) (KL<|BQ A8 (Ub 2)<|sz<|Ub 3) Pn)) (NF (Xu<|tz (Cg<|tz (Ub 5) Hh)<|Cg<|tz (Ub 5) K7)<|XU 4)))<|b1<|sV 4)) (.a ?_)
 ·rintro L R X ⟨i,bk,fs,p,f,w,os,rfl,J,H,u,A,r,hw,B⟩;refine⟨rfl,?_⟩
  have s:Uk f os=none\/Uk f os=some ("BadOrder" : Str):=by
   unfold Uk;split
   ·exact .inl rfl
   ·exact .inr rfl
  have x:Uk f os=none->KO f os=[]:=λe=>Wp e;have l:Uk f os=some ("BadOrder" : Str)->KO f os=[true,true]:=λe=>Wl (by rw[e];exact λz=>by cases z);refine⟨by simp,PV (λh=>∃t:Option S,h=[some (.sh<|.int i),some (.bor<|plD f),some (.bor<|UO (ExcR.Uc mg "Village") bk (fs++[f]) (p++[w])),some (.bor<|.lst<|os.map D.int),some (.own<|.lst ((KO f os).map D.bl)),t]) ?_ ?_⟩
  ·skip
   refine PV (λh=>h=[some (.sh<|.int i),some (.bor<|plD f),some (.bor<|UO (ExcR.Uc mg "Village") bk (fs++[f]) (p++[w])),some (.bor<|.lst<|os.map D.int),some (.own<|.lst []),none]/\(Uk f os=none\/(0:Int)<i)) (Uq (λg=>?_) λg=>?_) ?_
   ·refine⟨f,os,rfl,u,by lia,r,?_⟩;rcases s with e|e
    ·rw[e];exact⟨rfl,.inl rfl⟩
    ·rw[e];exact⟨by simp,_,G.Zc,G.Ze,_,G.Zc,G.Zd,by simp,by rw[l e];exact⟨none,rfl⟩⟩
   ·exact⟨rfl,.inr (by have:¬i=0:=λz=>g (Wi z);lia)⟩
   rintro h ⟨rfl,q⟩;refine PV (λh=>h=[some (.sh<|.int i),some (.bor<|plD f),some (.bor<|UO (ExcR.Uc mg "Village") bk (fs++[f]) (p++[w])),some (.bor<|.lst<|os.map D.int),some (.own<|.lst []),none]/\(Uk f os=none\/(1:Int)<i)) (Uq (λg=>?_) λg=>?_) ?_
   ·refine⟨f,os,rfl,u,by lia,r,?_⟩;rcases s with e|e
    ·rw[e];exact⟨rfl,.inl rfl⟩
    ·rw[e];exact⟨by simp,_,G.Zc,G.Ze,_,G.Zc,G.Zd,by simp,by rw[l e];exact⟨none,rfl⟩⟩
   ·exact⟨rfl,q.imp id λz=>by have:¬i=1:=λz=>g (Wi z);lia⟩
   rintro h ⟨rfl,q⟩;refine PV (λh=>h=[some (.sh<|.int i),some (.bor<|plD f),some (.bor<|UO (ExcR.Uc mg "Village") bk (fs++[f]) (p++[w])),some (.bor<|.lst<|os.map D.int),some (.own<|.lst []),none]/\(Uk f os=none\/(2:Int)<i)) (Uq (λg=>?_) λg=>?_) ?_
   ·refine⟨f,os,rfl,u,A,r,?_⟩;rcases s with e|e
    ·rw[e];exact λE _=>⟨rfl,.inl rfl⟩
    ·rw[e];exact⟨by simp,_,G.Zc,G.Ze,_,G.Zc,G.Zd,by simp,by rw[l e];exact⟨none,rfl⟩⟩
   ·exact⟨rfl,q.imp id λz=>by have:¬i=2:=λz=>g (Wi z);lia⟩
   rintro h ⟨rfl,q⟩;refine PV (λh=>h=[some (.sh<|.int i),some (.bor<|plD f),some (.bor<|UO (ExcR.Uc mg "Village") bk (fs++[f]) (p++[w])),some (.bor<|.lst<|os.map D.int),some (.own<|.lst []),none]/\(Uk f os=none\/(3:Int)<i)) (Uq (λg=>?_) λg=>?_) ?_
   ·refine⟨rfl,rfl,bk,fs,p++[w],f,os,rfl,u,by lia,r,?_⟩;rcases s with e|e
    ·rw[e];exact⟨rfl,.inl rfl⟩
    ·rw[e];exact⟨by simp,_,G.Zc,G.Ze,_,G.Zc,G.Zd,by simp,by rw[l e];exact⟨none,rfl⟩⟩
   ·exact⟨rfl,q.imp id λz=>by have:¬i=3:=λz=>g (Wi z);lia⟩
   rintro h ⟨rfl,q⟩;refine Uq (λg=>?_) λg=>?_
   ·refine⟨rfl,rfl,bk,fs,p,f,w,os,rfl,u,by lia,r,hw,?_⟩;rcases s with e|e
    ·rw[e];exact(by rw[x e];exact⟨none,rfl⟩)
    ·rw[e];exact⟨by simp,_,G.Zc,G.Ze,_,G.Zc,G.Zd,by simp,by rw[l e];exact⟨none,rfl⟩⟩
   ·have e:Uk f os=none:=q.resolve_right λz=>by have:¬i=4:=λz=>g (Wi z);lia
    rw[x e];exact⟨none,rfl⟩
  ·rintro h ⟨t,rfl⟩;exact B
def Zbs(u:Def K mg "told_row" BI ["village","word","numbers"])
  : F1 ζ:=by
 refine u.fy Mh (λl n=>(bc (sI (te (To<|Bq G.Z4<|pv 1)<|Ta<|NS<|Ub 1) (bc (se Xf Xg)<|b1<|se Xf Xg) b0)<|bc (sI (tq l (xv 1) xs) (b1<|se Xf Xg) b0)<|b1<|sR<|xg YV l ExcR.X4<|a3 (xv 0) (xv 1)<|xv 2)) (.a ?_)
 ·rintro v R X ⟨bk,fs,g,f,w,os,word,rfl,s,r,h,o,p,q⟩;refine⟨rfl,?_⟩;rcases s with rfl|rfl
  ·exact⟨bk,fs,g,f,w,os,_,rfl,.inl rfl,r,h,o,p,q⟩
  ·exact⟨bk,fs,g,f,w,os,_,rfl,.inr rfl,r,h,o,p,q⟩
def Lw(v:Def K mg "told_or_refused" BF ["village","word","numbers"])
  : DL ζ:=by
 refine v.fz A0 (λo n=>(b1<|se (ExcR.O7 (λpins D=>(Uo<|U8<|ExcR.Ny YX (hq<|o ()) (ExcR.Me (pins:=pins) (D:=D) rfl rfl<|ExcR.Xe rfl G.Zm (by decide) (λa=>(Uo<|U8 UF))<|ExcR.Xe rfl G.Zo (by decide) (λa=>(Uo<|U8 UF))<|ExcR.Xe rfl G.ZC (by decide) (λa=>(Uo<|U8 UF))<|ExcR.Xe rfl G.Z7 (by decide) (λa=>(Uo<|U8 UF))<|ExcR.Xe rfl G.ZD (by decide) (λa=>(Uo<|U8 UF))<|ExcR.Xe rfl G.Zt (by decide) (λa=>(Uo<|U8 UF))<|ExcR.Xe rfl G.ZE (by decide) (λa=>(Uo<|U8 UF))<|ExcR.Xe rfl G.Zw (by decide) (λa=>(Uo<|U8 UF))<|ExcR.Xe rfl G.Z1 (by decide) (λa=>(Uo<|U8 UF))<|ExcR.Xe rfl G.Zu (by decide) (λa=>(Uo<|U8 UF))<|ExcR.Xe rfl G.ZG (by decide) (λa=>(Uo<|U8 UF))<|ExcR.Xe rfl G.Z8 (by decide) (λa=>(Uo<|U8 UF))<|ExcR.Xe rfl G.Zx (by decide) (λa=>(Uo<|U8 UF))<|ExcR.Xe rfl G.Z2 (by decide) (λa=>(Uo<|U8 UF))<|ExcR.Xe rfl G.Zf (by decide) (λa=>(Uo<|U8 UF))<|ExcR.Zbz (i:=3) A0.nd rfl rfl rfl G.ZH (by decide) (λa=>(Km Xf<|Uo Xf)) ExcR.HS)<|dz (pv 0) (pv 1)<|pv 2)))<|Zcg (E':=λ_=>E0) ["BadOrder"] ["TooManyStrips","BadHolder","NoStrip","OwnStrip","BadPart","UnlikeHolders","TooWide","LikeHolders","WishStands","TooManyWishes","NoWish","BookFull","NothingDone","NoSuchDeed","BadOrder","Ringed"] (G.ex.sub (by decide)<|by decide) (.cons (UU U7)<|.cons (UU U7)<|.cons (UU U7)<|.cons (UU U7)<|.cons (UU U7)<|.cons (UU U7)<|.cons (UU U7)<|.cons (UU U7)<|.cons (UU U7)<|.cons (UU U7)<|.cons (UU U7)<|.cons (UU U7)<|.cons (UU U7)<|.cons (UU U7)<|.cons (UU U7) (.cons (DE Xg
    Xg)
    .nil)) (λD=>(UU<|TJ<|uz (Ub 0) (Ub 1)<|Ub 2)))) (.a ?_)
 ·rintro x R X ⟨bk,fs,h,f,w,os,word,rfl,q,s,l,p,r,g⟩;refine⟨rfl,bk,fs,h,f,w,os,word,rfl,q,s,l,p,r,?_⟩;unfold PN at g;by_cases e:Uk f os=none
  ·rw[e]at g ⊢;exact g
  ·have u:Uk f os=some ("BadOrder" : Str):=by
    unfold Uk at e ⊢;split
    ·rename_i z;rw[Wp z]at e;exact absurd rfl e
    ·rfl
   rw[Wl e]at g;rw[u];exact .inl ⟨by simp,g⟩
def L4(U:Def K mg "answer" NU ["village","row"])
  : EY ζ:=by
 refine U.fz GY (λr n=>(bc (sS 2 n<|xe (PU (K:=K) QY PySem.F.slot_str_split PySem.F.type_str_split Hi (pv 1)<|az UF)<|G6 (Ub 1) U7)<|bc (sI (tN<|tt<|xf YN r<|a2 (xx (xv 2) xi)<|xp (xv 2) (o1 xi) o0) (b1<|sR xs) b0)<|b1<|sR<|xf YY r<|a3 (xv 0) (xx (xv 2) xi)<|xC ["text"] [none] (jL<|xp (xv 2) (o1 xi) o0) (gN 0) f0<|xe (Xp LS (by rfl) G.Z9 boot_int<|az<|pv 0)<|La<|sz<|Ub 0)) (.a ?_)
 ·rintro ds R X ⟨bk,fs,x,f,w,os,word,rfl,q,L,y,A,o,H,J⟩;refine⟨rfl,?_⟩;have p:(" " : Str)=spc:=by decide +kernel
  have hw:word.length<=6/\32∉word.cps.toList:=by rcases q with rfl|rfl<;>exact⟨by decide +kernel,by decide +kernel⟩
  have C:∀v∈word::os.map nS,32∉v.cps.toList:=λv g=>by
   rcases Wo.mp g with rfl|g
   ·exact hw.2
   ·obtain⟨n,l,rfl⟩:=WC.mp g;exact BO (o n l).1
  have E:∀v∈word::os.map nS,v.length<=6:=λv g=>by
   rcases Wo.mp g with rfl|g
   ·exact hw.1
   ·obtain⟨n,l,rfl⟩:=WC.mp g
    have:=(KQ (o n l).1 (o n l).2).2.1
    lia
  have T:Txt.split (Str.join spc (word::os.map nS)) " " = word::os.map nS:=by rw[p];exact FS (by simp) C
  have B:(Str.join spc (word::os.map nS)).length+2<=sizeLine:=by
   have s:=StrLaws.join_length_le spc (word::os.map nS);have Q:=StrLaws.sumLen_le _ E;have N:(word::os.map nS).length=os.length+1:=by rw[WG,Wd]
   have M:spc.length=1:=rfl;have Y:(10000:Nat)<=sizeLine:=by decide
   rw[N]at s Q;rw[M]at s;lia
  have u:cutD ((word::os.map nS).map D.str) (some 1) none=os.map λn=>D.str (nS n):=by
   rw[P4 _ (by decide)];show(os.map nS).map D.str=_;rw[WY];rfl
  refine⟨rfl,B,?_⟩;rw[T];refine⟨_,Fd _ _,rfl,word,os,WJ (λz=>[D.str word,D.lst z]) u,q,o,by lia,U2 ?_⟩;refine⟨_,Fd _ _,rfl,?_⟩;show Tp _ _ _ _ _ (cutD ((word::os.map nS).map D.str) (some 1) none).length (λi=>S.sub (.own<|.lst<|cutD ((word::os.map nS).map D.str) (some 1) none) ((cutD ((word::os.map nS).map D.str) (some 1) none).getD i .non)) _;rw[u];refine XF (xs:=os) (emb:=λn=>D.str (nS n)) (λn=>some (.int n)) (by lia) (λn l=>?_) ?_
  ·have h:=o n l;exact⟨n,M8 h.1 h.2,by have:=(KQ h.1 h.2).2.1;lia,_,rfl,rfl⟩
  have em:os.filterMap (λn=>some (D.int n))=os.map D.int:=by rw[WU]
  rw[em];exact⟨bk,fs,x,f,w,os,word,rfl,q,L,y,A,H,J⟩
def R0(Q:Def K mg "_law_at_desk" SW ["_law_village","_law_order","_law_good"])
  : EF ζ:=by
 refine Q.fz Zab (λs n=>(bc (sF 1<|sO [3] WR (iL<|xv 1) (gN 3)<|b1<|sI (tp<|wo (tc KW KH (xv 3) xi)<|wO<|tc Kv K8 (xv 3) xi) (b1<|sR xb) b0)<|bc (sO [4,5,6] WR (iL<|xL<|a2 xs xs) (gN 4)<|bc (sF 4<|sS 5 n<|xe (PU (K:=K) QY PySem.F.slot_str_join PySem.F.type_str_join (Cs (K:=K)) UF<|az<|PR XC (UR<|az<|pv 4)<|cz ["_law_number"] [none] (Tr (K:=K)<|pv 1) ⟨(gk 0),P2,(Xp A5 (by rfl) G.ZA boot_str<|az<|pv 0)⟩)<|DC U7<|XD (Xu<|sz<|Ub 4)<|KM (N0<|Ub 1) (XU 0) TQ<|A6<|sz<|Ub 0)<|bc (sS 6 n<|xf YZ s<|a2 (xv 0)<|xv 5)<|b1<|sI (tp<|wo (tN<|tt<|xe (U0 (Pa (K:=K)) (by rfl) G.Za W7<|bz (pv 6)<|X1 (v:=.ty "str") rfl G.ZA boot_str rfl)<|Pm<|tz (Ub 6) K7)<|wO<|tq s (xv 2)<|xe (PZ (Bl (K:=K)<|show _<cLine from(s ()).units0) (pv 6) UF<|XT _)<|XJ (Ub 6) U7) (b1<|sR xb) b0)<|b1<|sR xb)) (.a ?_)
 ·rintro Y R X ⟨bk,fs,p,f,w,os,rfl,E,A,J,C,y⟩;refine⟨rfl,?_⟩;have r:(" " : Str)=spc:=by decide +kernel
  refine⟨rfl,Pe (xs:=os) (emb:=D.int) (λi l=>(∀n∈os.take i,0<=n/\n<=9999)/\l=[some (.bor<|UO (ExcR.Uc mg "Village") bk (fs++[f]) (p++[w])),some (.bor<|.lst<|os.map D.int),some (.sh<|.bl<|decide (Uk f os=none)),none,none,none,none]) ⟨by simp,rfl⟩ ?_ ?_⟩
  ·rintro i x l ⟨o,rfl⟩;refine Uq (λg=>y) λg=>Uq (λH=>y) λH=>⟨?_,rfl⟩;rw[WT x];intro n hm;rcases WH.mp hm with hm|hm
   ·exact o n hm
   ·rw[Wf.mp hm];have U:¬os[i]<0:=λz=>g (Wi z);have T:¬9999<os[i]:=λz=>H (Wi z);lia
  rintro l ⟨o,rfl⟩;rw[QC]at o;refine⟨by simp,rfl,Pe (xs:=[("price" : Str), "broken"]) (emb:=D.str) (λi l=>l=[some (.bor<|UO (ExcR.Uc mg "Village") bk (fs++[f]) (p++[w])),some (.bor<|.lst<|os.map D.int),some (.sh<|.bl<|decide (Uk f os=none)),none,none,none,none]) rfl ?_ ?_⟩
  ·rintro i x l rfl
   have u:[("price" : Str), "broken"][i]=("price" : Str)\/[("price" : Str), "broken"][i]=("broken" : Str):=by
    match i,x with
    | 0,_=>exact .inl rfl
    | 1,_=>exact .inr rfl
   generalize [("price" : Str), "broken"][i]=word at u ⊢;have hw:word.length<=6:=by rcases u with rfl|rfl<;>decide +kernel
   have M:∀v∈word::os.map nS,v.length<=6:=λv q=>by
    rcases Wo.mp q with rfl|q
    ·exact hw
    ·obtain⟨n,hm,rfl⟩:=WC.mp q
     have:=(KQ (o n hm).1 (o n hm).2).2.1
     lia
   have N:JoinOk spc (word::os.map nS)=true:=by
    unfold JoinOk;rw[StrLaws.joinFits (B:=6) M (by rw[WG,Wd,show spc.length=1 from rfl];lia)]
    rfl
   have em:os.filterMap (λn=>some (D.str<|nS n))=(os.map nS).map D.str:=by rw[WU,WY];rfl
   refine⟨by simp,XF (xs:=os) (emb:=D.int) (λn=>some (.str<|nS n)) (by lia) (λn hm=>?_) ?_⟩
   ·have h:=o n hm;exact⟨FD ⟨h.1,by lia⟩,_,rfl,rfl⟩
   rw[em];refine⟨rfl,rfl,?_,?_⟩
   ·rw[Wd,Wd];show 1+os.length<=100000;lia
   rw[r];refine⟨word::os.map nS,rfl,N,?_⟩;rw[show Txt.join spc (word::os.map nS)=Str.join spc (word::os.map nS)from StrLaws.glued_eq_join _ _]
   refine⟨bk,fs,p,f,w,os,word,rfl,u,E,A,J,o,C,?_⟩;have L:=Le (os:=os) (word:=word) E A C;refine⟨true,.same _,U2 (Uq (λg=>absurd (Wx g) ?_) λ_=>rfl)⟩;rw[L];cases decide (Uk f os=none)<;>decide
  ·rintro l rfl;exact y
def RY(DD:Def K mg "law" XB ["_law_script"])
  : OD ζ:=by
 refine DD.fz HG (λg n=>(bc (sS 1 n<|xf YI g<|a1<|xf Yx g<|a2 (xv 0) xi)<|bc (sS 2 n<|xf YU g<|a3 (xv 0) (xv 1)<|xo U5 UD (xo Xt Xy (xf Yu g<|a2 (xv 0) xi) xi) xi)<|bc (sS 3 n<|xf Yx g<|a2 (xv 0) xi)<|bc (sF 3<|sS 4 n<|xe (fz YL (g ())<|bz (fz YK (g ())<|bz (fz Y1 (g ())<|az<|pv 2)<|PR Xt (pv 3) Xr)<|pv 3)<|Rw<|tz (KC<|tz (KC<|sz<|Ub 2)<|Xy (Ub 3) UN)<|Ub 3)<|bc (sS 5 n<|xe (PZ (Bl (K:=K)<|show _<cLine from(g ()).units0) (U0 (Dm (K:=K) (w:=w) rfl) (by rfl) G.Zr boot_sorted<|az<|pv 4) (fz Y1 (g ())<|az<|pv 2)<|XT _)<|XJ (Ej<|sz<|Ub 4)<|KC<|sz<|Ub 2)<|bc (sS 6 n<|xe (Za5 YT G.ZF (hq<|g ()) Zak<|az<|Xp (K5 (K:=K)) (by rfl) G.Zi boot_list<|az<|pv 2)<|LX<|sz<|Ks<|sz<|Ub 2)<|bc (sO [7,8,9,10] WR (ir G.Zj<|a1 xi) (gN 7)<|bc (sS 8 n<|xe (Xp (K5 (K:=K)) (by rfl) G.Zi boot_list<|az<|pv 2)<|Ks<|sz<|Ub 2)<|bc (sS 9 n<|xe (Xp (K5 (K:=K)) (by rfl) G.Zi boot_list<|az<|pv 4)<|Ks<|sz<|Ub 4)<|bc (sS 10 n<|xf YW g<|ac (xv 7)<|ac (xv 8)<|ac (xv 6)<|ac (xv 9) a0)<|bc (sI (te (KY (RG (K:=K)<|show _<cLine from(g ()).units0) (pv 10) (jx K (UR<|bz (UR<|bz Bj Bj)<|UR UA)<|Xp Zbg (by rfl) G.Z9 boot_int<|az<|pv 5)<|XT _)<|Xw<|Za6 (Ub 10)<|KR (Xu<|tz (Xu<|tz BB BB)<|Xu Xl)<|Hj<|sz<|Ub 5) (b1<|sR xb) b0)<|b1<|sI (tp<|wo (tN<|tt<|xf Y2 g<|a2 (xv 8)<|xv 2)<|wO<|tN<|tt<|xf YQ g<|a2 (xv 9)<|xv 4) (b1<|sR xb) b0)<|bc (sI (tN<|tt<|xf Wa g<|a3 (xv 6) (xv 4)<|xv 5) (b1<|sR xb) b0)<|b1<|sR<|xe (Bt (fz Y2 (g ())<|bz (Pg Yw G.Zb (hq<|g ()) KB<|pv 6)<|pv 2)<|Bt (PZ (Dh (K:=K)<|show _<cLine from(g ()).units0) (Pg Yz G.Zb (hq<|g ()) KB<|pv 6) (UR UA)<|XT _)<|F8<|PZ (Dh (K:=K)<|show _<cLine from(g ()).units0) (Pg YE G.Zb (hq<|g ()) KB<|pv 6) (UR UA)<|XT _)<|B3 (KC<|tz (Pf SX (Ub 6) Xl)<|Ub 2)<|B3 (FF (Pf AH (Ub 6) Xl)<|Xu Xl)<|FF (Pf Lf (Ub 6) Xl)<|Xu Xl)) (.a ?_)
 ·rintro ds R X ⟨l,rfl,L⟩;refine⟨rfl,l,0,rfl,by decide,λQ=>⟨Q,rfl,λm M=>?_⟩⟩;refine⟨l,0,rfl,by decide,λa0=>⟨⟨by decide,by decide⟩,(by show(0:Int)<41;decide),l,m,_,rfl,M,by lia,by lia,λf r s=>?_⟩⟩;have o:f.length<=40:=by lia
  have J:=Te f;refine⟨l,1,rfl,by decide,λc=>?_⟩;refine⟨f,rfl,by lia,⟨by decide,by decide⟩,Uw f,_,rfl,by lia,λo0 q=>?_⟩;have B:=q.length_eq;refine⟨o0,c,rfl,by lia,λos hz=>?_⟩;refine⟨os,rfl,by lia,λp A y=>⟨f,rfl,by lia,p,Uw f,rfl,rfl,?_⟩⟩
  have N:decide (p=Uw f)=decide (Uk f os=none):=by
   apply decide_eq_decide.mpr;rw[FL A y];unfold Uk;by_cases z:os.isPerm (Uw f)=true<;>simp[z]
  show Ka 5 (S.sh<|D.bl<|decide (p=Uw f)) _ _;rw[N];refine⟨rfl,λx=>⟨x,f,rfl,rfl,by lia,?_⟩⟩;rw[MD r (by lia)];refine λb1 Y U=>⟨rfl,?_⟩
  have C:∀b:Bool,decide (Uk f os=none)=b->KO f os=if b then[]else[true,true]:=λb e=>by
   subst e;unfold KO;by_cases z:Uk f os=none
   ·rw[Wp z,Wi z];rfl
   ·rw[Wl z,Wq z];rfl
  refine⟨by decide,Ku (λi h=>h=[some (.bor<|.scr l),some (.own<|.lst<|m.map D.int),some (.own<|.lst<|f.map prD),some (.sh<|.int c),some (.sh<|.lst<|os.map D.int),some (.sh<|.bl<|decide (Uk f os=none)),some (.own<|vO (ExcR.Uc mg "Village") x b1 Y U [] [f] [[]]),none,none,none,none]) rfl ?_ ?_⟩
  ·rintro i h H rfl;have E:i<5:=H;have u:∀b:Bool,Pv (if b then[]else[D.bl true,D.bl true])=some ((if b then[]else[true,true]).map V.bl):=λb=>by cases b<;>rfl
   refine⟨rfl,rfl,_,[],[],[],f,[],os,rfl,by lia,by lia,r,o,by lia,by decide,?_⟩;generalize u:decide (Uk f os=none)=b;rw[C b u];refine⟨by decide,by decide,by decide,?_⟩;have T:∀b:Bool,(b=true\/b=false):=λb=>by cases b<;>simp
   rcases T b with rfl|rfl
   ·refine⟨_,rfl,[],[],rfl,rfl,rfl,rfl,U2 ⟨f,rfl,by lia,U2 ⟨os,.inl rfl,by lia,U2 ?_⟩⟩⟩;rfl
   ·refine⟨_,rfl,[.bl true,.bl true],[.bl true,.bl true],rfl,rfl,by decide,by decide,U2 ⟨f,rfl,by lia,U2 ⟨os,.inl rfl,by lia,U2 ?_⟩⟩⟩;rfl
  ·rintro h rfl;have v:Kt []:=⟨by decide,by simp,by simp⟩;refine⟨[],[],[],f,[],os,rfl,r,o,by lia,v,U2 ?_⟩;exact⟨rfl,rfl,[],[],[[]],f,rfl,f,rfl,by lia,rfl,rfl,[],[f],[],[],rfl,by decide,rfl,rfl,[],[f],[[]],rfl,by decide,L⟩
end
end T
namespace T
open L2 Own M
def Zb4{l:PySem.W.OpenLaw}{w:World}{K:Yd}{h:Heap}{g:Yh}{fa:Addr}(X:K.In h)(f:h.Ns mainGlobals g)(hfa:g "law"=some (.ref fa)){n:Addr}(VN:PySem.W.nsIn K mainGlobals "Village"=some (some<|.ref n))(VR:PySem.W.plainGet K n Str.empty=true)(VS:PySem.W.hasDictIn K n=true)(VT:PySem.W.plainOver K n=true)(VU:PySem.W.findIn K (.ref n) "__setattr__"=some (some<|.builtin "object.__setattr__"))(VV:PySem.W.makesIn K n=true)(VW:PySem.W.keepIn K (.ref n)=true)(VX:PySem.W.findIn K (.ref n) "book"=some none)(VY:PySem.W.findIn K (.ref n) "fields"=some none)(VZ:PySem.W.findIn K (.ref n) "wished"=some none)(a0:Pu.DI K "check_holder" Br)(a1:Pu.DI K "check_width" Sf)(a2:Pu.DI K "check_strips" Bm)(a3:Pu.DI K "holders_of" B8)(a4:Pu.DI K "check_order" B0)(a5:Pu.DI K "gathered" BN)(a6:Pu.DI K "pair_cost" NQ)(a7:Pu.DI K "order_cost" Fj)(a8:Pu.DI K "own_numbers" SM)(a9:Pu.DI K "exchange_cost" Bp)(a10:Pu.DI K "exchanged" Su)(a11:Pu.DI K "first_wrong_place" SL)(a12:Pu.DI K "told_moves" SK)(a13:Pu.DI K "broken_wishes" SN)(a14:Pu.MI K n "__init__" "Village.__init__" Sh)(a15:Pu.MI K n "strips" "Village.strips" NY)(a16:Pu.MI K n "wishes" "Village.wishes" BY)(a17:Pu.MI K n "deeds" "Village.deeds" Sm)(a18:Pu.MI K n "price" "Village.price" SA)(a19:Pu.MI K n "broken" "Village.broken" NJ)(a20:Pu.DI K "is_number" B7)(a21:Pu.DI K "is_row" Bk)(a22:Pu.DI K "told_texts" Sb)(a23:Pu.DI K "told_wishes" NM)(a24:Pu.DI K "told_question" Bg)(a25:Pu.DI K "told_row" BI)(a26:Pu.DI K "told_or_refused" BF)(a27:Pu.DI K "answer" NU)(a28:Pu.DI K "_law_at" Bo)(a29:Pu.DI K "_law_whole" Fi)(a30:Pu.DI K "_law_mix" Fc)(a31:Pu.DI K "_law_draw" BJ)(a32:Pu.DI K "_law_menu" S8)(a33:Pu.DI K "_law_holder" Sv)(a34:Pu.DI K "_law_strips" NP)(a35:Pu.DI K "_law_row" Bs)(a36:Pu.DI K "_law_tuples" NN)(a37:Pu.DI K "_law_present" BS)(a38:Pu.DI K "_law_shuffled" SO)(a39:Pu.DI K "_law_spoiled" Sy)(a40:Pu.DI K "_law_door" BA)(a41:Pu.DI K "_law_at_desk" SW){A:Addr}{J y:Yq}{H:Array (Yp)}{L r u q o x:Value}(a42:PySem.W.nsIn K mainGlobals "law"=some (some<|.ref A))(l42:K.lookup A=some ⟨L,J,.func (PySem.W.fnOf "law" "law" (Xs XB) (Ut XB) (Ua XB) .none r u q y o x),H⟩)(c42:PySem.W.codeIn K o "law"=true)(k42:PySem.W.keepIn K (.ref A)=true)(Ja:PySem.W.nsIn K mainGlobals "ValueError"=some none)(Jb:PySem.W.nsIn K mainGlobals "all"=some none)(Jc:PySem.W.nsIn K mainGlobals "bool"=some none)(Jd:PySem.W.nsIn K mainGlobals "enumerate"=some none)(Je:PySem.W.nsIn K mainGlobals "int"=some none)(Jf:PySem.W.nsIn K mainGlobals "isinstance"=some none)(Jg:PySem.W.nsIn K mainGlobals "len"=some none)(Jh:PySem.W.nsIn K mainGlobals "list"=some none)(Ji:PySem.W.nsIn K mainGlobals "range"=some none)(Jj:PySem.W.nsIn K mainGlobals "set"=some none)(Jk:PySem.W.nsIn K mainGlobals "sorted"=some none)(Jl:PySem.W.nsIn K mainGlobals "str"=some none)(Jm:PySem.W.nsIn K mainGlobals "tuple"=some none){JE:Tok}(Jn:PySem.W.nsIn K mainGlobals "HOLDERS"=some (some<|.int 10 JE)){JF:Tok}(Jo:PySem.W.nsIn K mainGlobals "STRIPS"=some (some<|.int 40 JF)){JG:Tok}(Jp:PySem.W.nsIn K mainGlobals "WIDEST"=some (some<|.int 1000 JG)){JH:Tok}(Jq:PySem.W.nsIn K mainGlobals "FIGURES"=some (some<|.str "0123456789" JH)){JI:Tok}(Jr:PySem.W.nsIn K mainGlobals "MOST_FIGURES"=some (some<|.int 4 JI)){d_DEEDS:Addr}{es_DEEDS:Array DictEntry}{n_DEEDS:Nat}(Js:PySem.W.nsIn K mainGlobals "DEEDS"=some (some<|.ref d_DEEDS))(zm_DEEDS:(d_DEEDS==sysModules)=false)(zl_DEEDS:K.lookup d_DEEDS=some ⟨.type "dict",none,.dict es_DEEDS n_DEEDS,#[]⟩)(ze_DEEDS:Own.Lits w.params es_DEEDS.toList [("sell",2),("part",2),("unite",1),("wish",2),("drop",2)]){d_OTHERS:Addr}{es_OTHERS:Array DictEntry}{n_OTHERS:Nat}(Jt:PySem.W.nsIn K mainGlobals "OTHERS"=some (some<|.ref d_OTHERS))(zm_OTHERS:(d_OTHERS==sysModules)=false)(zl_OTHERS:K.lookup d_OTHERS=some ⟨.type "dict",none,.dict es_OTHERS n_OTHERS,#[]⟩)(ze_OTHERS:Own.Lits w.params es_OTHERS.toList [("back",0),("field",0),("wishes",0),("stood",1),("ring",0),("order",0),("cost",0),("moves",0),("offer",2)]){d_ORDERS:Addr}{dd_ORDERS:Yq}{sl_ORDERS:Array (Yp)}{es_ORDERS:Yr}{n_ORDERS:Nat}(Ju:PySem.W.nsIn K mainGlobals "ORDERS"=some (some<|.ref d_ORDERS))(zl_ORDERS:K.lookup d_ORDERS=some ⟨.type "tuple",dd_ORDERS,.seq es_ORDERS n_ORDERS,sl_ORDERS⟩)(zm_ORDERS:es_ORDERS.size<=sizeLine)(ze_ORDERS:Vals ((["price","broken"]:Ym).map V.str) es_ORDERS.toList){Jw:Addr}(V5:Pu.EI K "MeldError" Jw){Jx:Addr}(V6:Pu.EI K "TooManyStrips" Jx){Jy:Addr}(V7:Pu.EI K "BadHolder" Jy){JJ:Addr}(VO:Pu.EI K "BadWidth" JJ){Jz:Addr}(V8:Pu.EI K "NoStrip" Jz){B:Addr}(V9:Pu.EI K "BadOrder" B){J0:Addr}(VA:Pu.EI K "OwnStrip" J0){J1:Addr}(VB:Pu.EI K "BadPart" J1){J2:Addr}(VC:Pu.EI K "UnlikeHolders" J2){J6:Addr}(VD:Pu.EI K "TooWide" J6){J7:Addr}(VE:Pu.EI K "LikeHolders" J7){J8:Addr}(VF:Pu.EI K "WishStands" J8){J9:Addr}(VG:Pu.EI K "TooManyWishes" J9){JA:Addr}(VH:Pu.EI K "NoWish" JA){JB:Addr}(VI:Pu.EI K "BookFull" JB){JC:Addr}(VJ:Pu.EI K "NothingDone" JC){JD:Addr}(VL:Pu.EI K "NoSuchDeed" JD){M:Addr}(VP:PySem.W.nsIn K mainGlobals "Ringed"=some (some<|.ref M))(x_Ringed:PySem.W.exmOne K (.ref M) (.ref M)=some true)(x_all:Pu.EL K [("Ringed",M),("BadOrder",B)] [("TooManyStrips",Jx),("BadHolder",Jy),("NoStrip",Jz),("OwnStrip",J0),("BadPart",J1),("UnlikeHolders",J2),("TooWide",J6),("LikeHolders",J7),("WishStands",J8),("TooManyWishes",J9),("NoWish",JA),("BookFull",JB),("NothingDone",JC),("NoSuchDeed",JD),("BadOrder",B),("Ringed",M)]=true)(x_BadOrder_BadOrder:PySem.W.exmOne K (.ref B) (.ref B)=some true)(k_BadOrder_MeldError:PySem.W.kitOne K (.ref B) (.ref Jw)=some true)(k_BadOrder_ValueError:PySem.W.kitOne K (.ref B) (.type "ValueError")=some true)
  : ∃fd:FuncData,(∀(s:Shared) (v:Value),BindsTo s fd ⟨[v],[]⟩ [("_law_script",v)])/\∀base:Heap,K.In base->base.Ns mainGlobals g->UK l.prog w K g base CX0 10 fa fd ["_law_script"] (Pu.BC K):=by
 have e:=hfa.symm.trans (W8 X f a42);cases e
 have JK:=V5.c X f;have JL:=V6.c X f;have JM:=V7.c X f;have JN:=V8.c X f;have VQ:=V9.c X f;have JO:=VA.c X f;have JP:=VB.c X f;have JQ:=VC.c X f;have JR:=VD.c X f;have JS:=VE.c X f;have JT:=VF.c X f;have JU:=VG.c X f;have JV:=VH.c X f;have JW:=VI.c X f;have JX:=VJ.c X f;have JY:=VL.c X f;have Jv:=ExcR.SE (W8 X f VP);have p:=ExcR.SE (W8 X f VN);have G:Glob w K g:=⟨W9 X f Ja,W9 X f Jb,W9 X f Jc,W9 X f Jd,W9 X f Je,W9 X f Jf,W9 X f Jg,W9 X f Jh,W9 X f Ji,W9 X f Jj,W9 X f Jk,W9 X f Jl,W9 X f Jm,⟨_,W8 X f Jn,⟨_,rfl⟩⟩,⟨_,W8 X f Jo,⟨_,rfl⟩⟩,⟨_,W8 X f Jp,⟨_,rfl⟩⟩,⟨_,W8 X f Jq,⟨_,rfl⟩⟩,⟨_,W8 X f Jr,⟨_,rfl⟩⟩,⟨⟨_,_,_,W8 X f Js,zm_DEEDS,zl_DEEDS,ze_DEEDS⟩⟩,⟨⟨_,_,_,W8 X f Jt,zm_OTHERS,zl_OTHERS,ze_OTHERS⟩⟩,⟨⟨_,_,_,_,_,W8 X f Ju,zl_ORDERS,zm_ORDERS,ze_ORDERS⟩⟩,(V5.m X f),(V5.k X f),(V6.m X f),(V6.k X f),(V7.m X f),(V7.k X f),(VO.m X f),(VO.k X f),(V8.m X f),(V8.k X f),(V9.m X f),(V9.k X f),(VA.m X f),(VA.k X f),(VB.m X f),(VB.k X f),(VC.m X f),(VC.k X f),(VD.m X f),(VD.k X f),(VE.m X f),(VE.k X f),(VF.m X f),(VF.k X f),(VG.m X f),(VG.k X f),(VH.m X f),(VH.k X f),(VI.m X f),(VI.k X f),(VJ.m X f),(VJ.k X f),(VL.m X f),(VL.k X f),(by rw[Jv];exact W8 X f VP),(by rw[Jv];exact x_Ringed),(by rw[←Jv,←VQ,←JL,←JM,←JN,←JO,←JP,←JQ,←JR,←JS,←JT,←JU,←JV,←JW,←JX,←JY]at x_all;exact Pu.MB x_all),(by rw[VQ];exact x_BadOrder_BadOrder),(by rw[VQ,JK];exact k_BadOrder_MeldError),(by rw[VQ];exact k_BadOrder_ValueError),(by rw[p];exact W8 X f VN),(by rw[p];exact⟨VR,VS,VT,VU⟩),(by rw[p];exact VX),(by rw[p];exact VY),(by rw[p];exact VZ)⟩;have C:=B5 (st:=XB) l42 c42 k42;have b42:=C.binds (ps:=["_law_script"]) λ_ _ _ _ _ _ us hl=>by obtain⟨_,rfl⟩:=Pu.Tg hl;rfl
 have N:Def K g "law" XB ["_law_script"]:=⟨_,_,C,W8 X f a42,b42⟩;refine⟨PySem.W.fnOf "law" "law" (Xs XB) (Ut XB) (Ua XB) .none r u q y o x,λs v=>.of_eq rfl,λbase _ _=>?_⟩;have C0:=@Im l.prog w K g base ⟨⟩ G (a0.e X f);have C1:=@MR l.prog w K g base ⟨⟩ G (a1.e X f);have C3:=@Ly l.prog w K g base G (a3.e X f);have C6:=@Mu l.prog w K g base ⟨⟩ (a6.e X f);have C8:=@R8 l.prog w K g base ⟨⟩ G (a8.e X f);have C9:=@Zbh l.prog w K g base ⟨⟩ (a9.e X f);have C10:=@LJ l.prog w K g base ⟨⟩ (a10.e X f);have C11:=@RO l.prog w K g base ⟨⟩ G (a11.e X f);have C13:=@Li l.prog w K g base ⟨⟩ G (a13.e X f);have E:=@Iz l.prog w K g base ⟨⟩ G (a15.e p);have C16:=@GC l.prog w K g base ⟨⟩ G (a16.e p);have C17:=@Zbx l.prog w K g base ⟨⟩ G (a17.e p);have C20:=@Mg l.prog w K g base ⟨⟩ G (a20.e X f);have C22:=@OO l.prog w K g base ⟨⟩ (a22.e X f);have U:=@Rl l.prog w K g base ⟨⟩ G (a28.e X f);have T:=@LH l.prog w K g base ⟨⟩ G (a29.e X f);have C30:=@RD l.prog w K g base ⟨⟩ (a30.e X f);have C32:=@Ij l.prog w K g base ⟨⟩ (a32.e X f);have C33:=@Rj l.prog w K g base ⟨⟩ (a33.e X f);have C37:=@OY l.prog w K g base ⟨⟩ G (a37.e X f);have C38:=@RH l.prog w K g base G (a38.e X f);have C39:=@GS l.prog w K g base ⟨⟩ G (a39.e X f);have C2:=Zcf ⟨⟩ G C0 C1 (a2.e X f);have C4:=GO ⟨⟩ G (Rm C3) (a4.e X f);have C21:=Zau ⟨⟩ G C20 (a21.e X f);have C23:=Rh ⟨⟩ C22 (a23.e X f);have Q:=IJ ⟨⟩ U C30 (a31.e X f);have C35:=LY ⟨⟩ G T (a35.e X f);have C36:=Zci ⟨⟩ G T (a36.e X f);have C5:=OT ⟨⟩ C4 (a5.e X f);have C7:=HU ⟨⟩ G C6 C4 (a7.e X f);have C12:=MZ ⟨⟩ C8 C9 C10 C11 C4 (a12.e X f);have C14:=OE ⟨⟩ G C2 (a14.j p VV VW);have Y:=MA ⟨⟩ G C13 E C16 C4 (a19.e p);have C34:=Za2 ⟨⟩ G C33 Q (a34.e X f);have C18:=Ha ⟨⟩ G E C7 (a18.e p);have C24:=Zbn ⟨⟩ G C23 Y C18 (a24.e X f);have C40:=Lx ⟨⟩ G C5 C7 C12 Y C18 (a40.e X f);have C25:=Zbs ⟨⟩ G C24 (a25.e X f);have C26:=Lw ⟨⟩ G C25 (a26.e X f);have C27:=L4 ⟨⟩ G C21 C26 (a27.e X f);have C41:=R0 ⟨⟩ G C27 (a41.e X f);have C42:=RY ⟨⟩ G E C16 C17 U C32 C37 (MV C38) C39 Q C35 C36 C14 C34 C40 C41 N;exact(C42.at (W8 X f a42) C N).imp λ_ _ _ _ z=>Pu.M7 z
end T
namespace PySem.W.Fast
def I:True:=⟨⟩
def tw11824060750230192184:=I
def tw4392485440467980288:=I
def tw7504818167371142336:=I
def tw13005105576499692736:=I
def tw3868137641477753056:=I
def tw469908216948520160:=I
def tw7514968104998802688:=I
def tw15753899672435258624:=I
def tw10337689669463126304:=I
def tw12611997564157705504:=I
def tw6903694509209821504:=I
def tw17318264415844468064:=I
def tw10255797276819402080:=I
def tw6649617986592759136:=I
def tw2412629478189155744:=I
def tw15142745989209803168:=I
def tw6107143479387973056:=I
def tw2747612518042695200:=I
def tw18294220758802628128:=I
def tw12489025374171138624:=I
def tw12690974541537715776:=I
def tw12061662383056978624:=I
def tw16569921853863216832:=I
def tw12013552833203275488:=I
def tw10984460424570902240:=I
def tw9662537781094407936:=I
def tw8859256019883424544:=I
def tw16474404941420475200:=I
def tw6708646620759407424:=I
def tw12959902481745156960:=I
def tw10512089950825829216:=I
def tw2013113721771888512:=I
def tw2059293832473781152:=I
def tw12455413591943012256:=I
def tw14365211983085417408:=I
def tw12396803037032904705:=I
def tw11153707234414695585:=I
def tw15668123927014748321:=I
def tw4019390264247237825:=I
def tw11664515715879105729:=I
def tw2939654230824429825:=I
def tw2767979883688750369:=I
def tw13535201276335989089:=I
def tw5955706635577539969:=I
def tw9200071009781968257:=I
def tw10125327666035043937:=I
def tw2688404100362724993:=I
def tw15096847581542819489:=I
def tw10807879242552815265:=I
def tw6570571540124760737:=I
def tw3188944366203508481:=I
def tw4064737060135245569:=I
def tw7828136903872386913:=I
def tw1902473753619015521:=I
def tw12025832409251079009:=I
def tw17769276769009988481:=I
def tw4341319218505461665:=I
def tw17071798485354271649:=I
def tw4448034153361964993:=I
def tw6457238725939674146:=I
def tw1498355491863743522:=I
def tw14514816491604369442:=I
def tw10279192382280418402:=I
def tw2875502864562767970:=I
def tw1024729835031733378:=I
def tw6879220813732216994:=I
def tw1519111787616090274:=I
def tw3309615449164757154:=I
def tw4688021993772862626:=I
def tw5487603860910417218:=I
def tw15391960780421644706:=I
def tw8903666837027295682:=I
def tw10029354897217728962:=I
def tw11119478608297210338:=I
def tw14639216314104690178:=I
def tw5362988541596337698:=I
def tw2771660436574839362:=I
def tw18296872738075485762:=I
def tw17184482041009025602:=I
def tw16430484438384693826:=I
def tw9164159819249637986:=I
def tw12484028005701746274:=I
def tw1695715059169992322:=I
def tw6563303198320779906:=I
def tw861220674140419778:=I
def tw2223936668377253602:=I
def tw1432145659856270050:=I
def tw3297762398332644098:=I
def tw3033285127622030082:=I
def tw2185744537716682530:=I
def tw3587047876335048514:=I
def tw9513361168301419362:=I
def tw9425644801284590498:=I
def tw14691419736671521730:=I
def tw4877110014550552514:=I
def tw6512697351106018242:=I
def tw5134512851903476674:=I
def tw10824850421543467970:=I
def tw17463162153090979875:=I
def tw3956363816956680227:=I
def tw6004209211646901283:=I
def tw8143082040821497923:=I
def tw4464102377923431523:=I
def tw10242092745143431331:=I
def tw11704551761146144931:=I
def tw6626340760051987683:=I
def tw1755312391648811267:=I
def tw17122500350495603971:=I
def tw7918089740346853667:=I
def tw6001467716251253059:=I
def tw15191048136324243843:=I
def tw8039424439615563171:=I
def tw18401106583535135139:=I
def tw2740601629145155107:=I
def tw15053576864510532131:=I
def tw11750016017986240099:=I
def tw303413507029731971:=I
def tw10506904196442970755:=I
def tw17148245916870791843:=I
def tw7734404945190613667:=I
def tw3180515392316141251:=I
def tw18208188415396342531:=I
def tw10433120821578021667:=I
def tw7005921524917902211:=I
def tw4769839182851196803:=I
def tw11589940526337087492:=I
def tw666999789659477028:=I
def tw12739538314473372708:=I
def tw9432417657384919108:=I
def tw15723858914441292964:=I
def tw14159594855919846628:=I
def tw10804057656933688580:=I
def tw17863667773526098308:=I
def tw5582562024318387588:=I
def tw11309986893472551300:=I
def tw8478057172338966948:=I
def tw14774110788687222180:=I
def tw1324996450502372836:=I
def tw13356681702089267780:=I
def tw17968006694223925828:=I
def tw17967112074386007684:=I
def tw2527564418407099012:=I
def tw17943274901124453028:=I
def tw4883173359518190308:=I
def tw4492902650113343236:=I
def tw6643900055539255076:=I
def tw4959274816545004324:=I
def tw9435046242414965540:=I
def tw1617774376124869444:=I
def tw2151899802506996580:=I
def tw247384515190346660:=I
def tw3581975977433118725:=I
def tw7331844868564813861:=I
def tw6222461777232180261:=I
def tw12780118517842641989:=I
def tw5108099403549480133:=I
def tw6071894990592098725:=I
def tw11072695367848807845:=I
def tw2519287127589726661:=I
def tw2824829883173565893:=I
def tw14413220691237290469:=I
def tw7675485591989457509:=I
def tw17404764130132616837:=I
def tw17020407543005169317:=I
def tw4979487027761330885:=I
def tw718246221413700293:=I
def tw7981551733407013573:=I
def tw4517527451859106533:=I
def tw3972130383441967973:=I
def tw2452060788706579333:=I
def tw11244876650348700549:=I
def tw8009561468060100549:=I
def tw6000684492822010886:=I
def tw13930709054883647526:=I
def tw2011882919562294342:=I
def tw7823308312548606054:=I
def tw13718767691191349350:=I
def tw3059099894271127814:=I
def tw10550498718807619846:=I
def tw3282235220312870182:=I
def tw9116295459805655366:=I
def tw14548679986156500326:=I
def tw12780972000458905990:=I
def tw13932287283602512326:=I
def tw16990510579997615590:=I
def tw16520840243160950246:=I
def tw7023041589858816486:=I
def tw8112432301455156742:=I
def tw8843735317052234310:=I
def tw3136376005475363398:=I
def tw1073842517321862790:=I
def tw17816021077398385318:=I
def tw7468446328737725094:=I
def tw2741111147034480326:=I
def tw11103096336068193030:=I
def tw13462706775022018374:=I
def tw10860139470381961030:=I
def tw1371172632468874086:=I
def tw7460184514617173862:=I
def tw1968193017007105894:=I
def tw10724535621498221446:=I
def tw15780108912600307590:=I
def tw3361946052289586086:=I
def tw2493628182494045191:=I
def tw7852004296049686535:=I
def tw5565303592554987559:=I
def tw4571391569937855527:=I
def tw3973826602769439847:=I
def tw16936411212612971655:=I
def tw3502397580589845639:=I
def tw2752134670244404423:=I
def tw17219590367912945863:=I
def tw14053141759396736231:=I
def tw7687892658359170279:=I
def tw597514619185585415:=I
def tw10426087782519383335:=I
def tw1697450199448846663:=I
def tw15552537552511033671:=I
def tw16874037812101081415:=I
def tw3346940453417036135:=I
def tw16139077440061247879:=I
def tw228821394533767559:=I
def tw7161130781421002183:=I
def tw9487893203191292391:=I
def tw12084677298876679687:=I
def tw3157539586352224807:=I
def tw6714838966947746375:=I
def tw8006965448263023175:=I
def tw10052034703031679687:=I
def tw17637147570411283175:=I
def tw17883211063822657255:=I
def tw16937886640932702983:=I
def tw4236903863234434887:=I
def tw17563163607385168711:=I
def tw7347041523890207623:=I
def tw5549160656265683879:=I
def tw7240126657052889031:=I
def tw3357452905179639783:=I
def tw3091038841082836967:=I
def tw35136387134197768:=I
def tw8613240507464423464:=I
def tw3272647539319921704:=I
def tw11829126132406397000:=I
def tw16986356544588765256:=I
def tw5114292720462153832:=I
def tw5304777121556715624:=I
def tw17307532069351161992:=I
def tw17070870209173315720:=I
def tw3304803156058207368:=I
def tw1381826798577777832:=I
def tw4972393966943011016:=I
def tw16287820824935641416:=I
def tw18426092741537545640:=I
def tw16307456615752205768:=I
def tw3476768990023814600:=I
def tw11334316517347238344:=I
def tw15937513318818838024:=I
def tw3817541891664436808:=I
def tw11984820358274186824:=I
def tw2784289873310409320:=I
def tw8515292306555236968:=I
def tw14657212032574594696:=I
def tw12051926798865879688:=I
def tw9635403714552846024:=I
def tw8967984437756273416:=I
def tw12985690072232972040:=I
def tw12587261263570048808:=I
def tw16454233501221600040:=I
def tw7013776771442335592:=I
def tw10849358221330005896:=I
def tw1270510683428150152:=I
def tw14846541052820078504:=I
def tw15271497763157370824:=I
def tw1483871506026397705:=I
def tw5899752802523510889:=I
def tw6244265104466182281:=I
def tw8485700768669766793:=I
def tw2456731250917816457:=I
def tw1722475356622021769:=I
def tw9166669865848927369:=I
def tw6300295676823563433:=I
def tw14621916693639814345:=I
def tw3487667797181813993:=I
def tw8239838242346569001:=I
def tw8348279680020801833:=I
def tw1568537192723357001:=I
def tw5443649018229935465:=I
def tw503285174881278313:=I
def tw13423379983202474409:=I
def tw8362737172442944969:=I
def tw5466651337005894153:=I
def tw6974855782226781705:=I
def tw9905390063757629993:=I
def tw17470099801515010601:=I
def tw4227539299279189577:=I
def tw14279214573089864265:=I
def tw9534226874029051497:=I
def tw7074706481791103625:=I
def tw6224955376217107113:=I
def tw5059078983493157641:=I
def tw14915629982814191401:=I
def tw16844151836935539497:=I
def tw13368637944674571049:=I
def tw15445619501352396617:=I
def tw698985107072249673:=I
def tw17232055565358796649:=I
def tw14499289423492748137:=I
def tw10520565783120556905:=I
def tw455333376137686921:=I
def tw3711129290592572329:=I
def tw3683507877682119818:=I
def tw7268451519621335178:=I
def tw4014369272359691402:=I
def tw15639504960752108682:=I
def tw6165146255383911562:=I
def tw897732714338097386:=I
def tw10940498945990263114:=I
def tw9081343404376599946:=I
def tw17118508550033174986:=I
def tw9015643938447024618:=I
def tw1065234394552407562:=I
def tw2904977020002511370:=I
def tw13953801234794665482:=I
def tw3741970359888673290:=I
def tw111208107838484010:=I
def tw13101194120699941482:=I
def tw9136900816189603434:=I
def tw3181539537271366314:=I
def tw3800829039308613290:=I
def tw8102152056680176330:=I
def tw15456106299874075338:=I
def tw10787465639453540074:=I
def tw15817780898853994250:=I
def tw2756477863810169642:=I
def tw16907978300339361610:=I
def tw6876878179820597066:=I
def tw16040172229505247082:=I
def tw1481353000840608650:=I
def tw14131478048793003946:=I
def tw5233937200849881002:=I
def tw13190607680164719562:=I
def tw16736841015494413323:=I
def tw17915576661271891979:=I
def tw4795527067641886763:=I
def tw4159238130317892715:=I
def tw11110040430600901771:=I
def tw4784753067570888875:=I
def tw6778479540790160555:=I
def tw8094991132301594923:=I
def tw7319821874127909163:=I
def tw15827749946108818763:=I
def tw11032186063325461867:=I
def tw372116190718014859:=I
def tw15399803700312100235:=I
def tw10871759470931957163:=I
def tw13150774777994419659:=I
def tw5612217118423570891:=I
def tw170865431960552939:=I
def tw6280129715774981611:=I
def tw4947716616476105195:=I
def tw15737915039401653771:=I
def tw6328730930794653195:=I
def tw9158083525921017419:=I
def tw17376940705429795403:=I
def tw11778861658349961835:=I
def tw3928057032502648427:=I
def tw11363056722303491691:=I
def tw17842411964994432619:=I
def tw2959800325674122859:=I
def tw5477851454422495883:=I
def tw16814298618568727339:=I
def tw16418785739735138091:=I
def tw4739299135401273163:=I
def tw5705436507408847691:=I
def tw11926377864348100459:=I
def tw513725523455675275:=I
def tw13687082621600808875:=I
def tw4912339252478581707:=I
def tw6615554534700399563:=I
def tw15218161246258943947:=I
def tw518344648148216779:=I
def tw17844088088591477739:=I
def tw16821987802498681835:=I
def tw15684686861096389644:=I
def tw13344519626706537484:=I
def tw17642698467782905900:=I
def tw10263110195234453644:=I
def tw12188418214280950924:=I
def tw6052831987473354924:=I
def tw9340414386997259436:=I
def tw14066944496532269292:=I
def tw11135469079264431372:=I
def tw10185376429102651660:=I
def tw14028548696145952012:=I
def tw11601078026064087404:=I
def tw17942498664607321484:=I
def tw14023572327253111180:=I
def tw15530634740493602252:=I
def tw7792887215097224684:=I
def tw16201741189873331692:=I
def tw17281134276337825324:=I
def tw5591839501847985708:=I
def tw452634620845168204:=I
def tw13294383066629259852:=I
def tw9693198283567617612:=I
def tw11182881363697365612:=I
def tw10938900956715722380:=I
def tw9844978767378169484:=I
def tw3947982311827607244:=I
def tw5040989126924221132:=I
def tw9750703019808645836:=I
def tw5253240419946111724:=I
def tw13495480010522749740:=I
def tw2573062815293994796:=I
def tw10840510943377934156:=I
def tw4161989621068773324:=I
def tw14558237968018292716:=I
def tw9318423855590418445:=I
def tw11289389812068920365:=I
def tw5816771504711379021:=I
def tw4111838777869639789:=I
def tw6561178869446071405:=I
def tw12780403522073395341:=I
def tw1145129040192499917:=I
def tw14301897763759882477:=I
def tw16388068218461219085:=I
def tw5661995264579531021:=I
def tw12904014926299116845:=I
def tw18423981517162135853:=I
def tw15684553319963575597:=I
def tw3394489653401163085:=I
def tw17978335216119580045:=I
def tw870957011587367341:=I
def tw13589120318783261101:=I
def tw7951790920675517965:=I
def tw8077165966233583213:=I
def tw10745172091894441709:=I
def tw1578900130315682573:=I
def tw7137085277711287053:=I
def tw16566974439079520045:=I
def tw12907869786059690797:=I
def tw18032260160520435597:=I
def tw1297626872465784749:=I
def tw12232835817057395661:=I
def tw11015700261580778477:=I
def tw2764949368993443821:=I
def tw2805513482569975854:=I
def tw15004705474008310830:=I
def tw11283698332623475790:=I
def tw1975976165862746222:=I
def tw17721249204656352398:=I
def tw11251356533781362862:=I
def tw8615080882593983694:=I
def tw13385308421227247822:=I
def tw13051533050563097838:=I
def tw4761706127385168206:=I
def tw36620007903140206:=I
def tw237509290729841102:=I
def tw13814098336018659822:=I
def tw703368642656776718:=I
def tw6707716737199183406:=I
def tw703834514602218030:=I
def tw16253547757701723726:=I
def tw4115793404389931662:=I
def tw9522904134672569006:=I
def tw7473557261063498446:=I
def tw17348690611472981742:=I
def tw11838119925203176206:=I
def tw1236720369857632014:=I
def tw1535897356834192174:=I
def tw8434524836552134446:=I
def tw502798242735541070:=I
def tw2866570831333601134:=I
def tw7773149261225506670:=I
def tw15305877834192986094:=I
def tw1778721106292191214:=I
def tw11468326350798675983:=I
def tw7738933892380322863:=I
def tw2880447308289056847:=I
def tw15261199917233246319:=I
def tw14063741518824581327:=I
def tw9940412236370260175:=I
def tw2301067168994471183:=I
def tw14735689484516248879:=I
def tw4354084035993142639:=I
def tw12817511602920088943:=I
def tw8559278320692738511:=I
def tw3535572078697658863:=I
def tw1947376811418733103:=I
def tw15206377558477069871:=I
def tw5204201429889166927:=I
def tw5803209029722620495:=I
def tw1542295000574405263:=I
def tw15627644027293697711:=I
def tw9186822395254272687:=I
def tw5989286688530240239:=I
def tw17963786124363005679:=I
def tw16250249360333291311:=I
def tw3853042307682208591:=I
def tw9712147987000586095:=I
def tw17288155571742178159:=I
def tw1008274541050243983:=I
def tw14904463935984016303:=I
def tw15336126982684583887:=I
def tw9691189040339951599:=I
def tw18286030239329686576:=I
def tw9977999036723477552:=I
def tw9124197657664044080:=I
def tw3576350524368292016:=I
def tw1568805321669211312:=I
def tw16538358901321400528:=I
def tw7958362130105645264:=I
def tw6933761992311831760:=I
def tw17982402313676492016:=I
def tw4858141100951247088:=I
def tw4863509041122028784:=I
def tw11141748915864995088:=I
def tw9988341338146000240:=I
def tw4698585107819069968:=I
def tw5655330368080867856:=I
def tw10304606443054279216:=I
def tw4176960332748249648:=I
def tw10197633243387858544:=I
def tw8718035748716116592:=I
def tw18321164763086067376:=I
def tw4088188275104610000:=I
def tw9480555126075205360:=I
def tw6099896678647082768:=I
def tw10273532237645996816:=I
def tw8411761676468546320:=I
def tw14768028740319606544:=I
def tw9626270039920923472:=I
def tw8810323634504060880:=I
def tw2745599891127973872:=I
def tw10038914509287884817:=I
def tw16538265645525495825:=I
def tw7571744956829075505:=I
def tw12011974795705228337:=I
def tw15723463673038232625:=I
def tw4969411523123551313:=I
def tw1621535058868614225:=I
def tw13544661658308797521:=I
def tw898687577507262545:=I
def tw16397478144052848753:=I
def tw5222712729478041745:=I
def tw7667450274830419185:=I
def tw2354266644628429041:=I
def tw7197163869860977905:=I
def tw13938841606873868529:=I
def tw10820135689996806417:=I
def tw11606984806807704913:=I
def tw3054105535019725169:=I
def tw4161515450960045425:=I
def tw12099612451275606481:=I
def tw5868290782191125009:=I
def tw8461920893320878609:=I
def tw358400009903016497:=I
def tw3749922616845276753:=I
def tw6018109550432859825:=I
def tw10254715784987079377:=I
def tw13277487756603029201:=I
def tw7277467061698627377:=I
def tw5628617767637361457:=I
def tw14720057966518585137:=I
def tw4395257876712854385:=I
def tw7780383354365922161:=I
def tw2122857389391087537:=I
def tw1182959300906483697:=I
def tw8577040160684205138:=I
def tw14468774054375807090:=I
def tw11575985765250839730:=I
def tw4671784157491362994:=I
def tw6841558071463447762:=I
def tw7289420355355504850:=I
def tw16867792314173728050:=I
def tw13568090165584576818:=I
def tw17214893494398546258:=I
def tw16721424353478445554:=I
def tw9276746626502879762:=I
def tw6286910223874193010:=I
def tw7325588308438034098:=I
def tw10446782513099100850:=I
def tw12581897342967503538:=I
def tw2289483077470539506:=I
def tw11095532987658225426:=I
def tw17846975284721320754:=I
def tw2187532452406824850:=I
def tw5721314435915358130:=I
def tw3686954863745338354:=I
def tw17348185647498534898:=I
def tw13048979598877494291:=I
def tw2344737815355029555:=I
def tw14854468726314795123:=I
def tw9825559634400747731:=I
def tw16021817026940496083:=I
def tw13139580956681833747:=I
def tw7885274165357778227:=I
def tw17810918398614213939:=I
def tw5572318986369530163:=I
def tw1469664371543834995:=I
def tw8924574935613119859:=I
def tw15535600207774769683:=I
def tw2854992385072375347:=I
def tw15976279145395507763:=I
def tw14117620737517941331:=I
def tw2507781111834886771:=I
def tw7240945186267854451:=I
def tw11300817231084296883:=I
def tw6780158942872418099:=I
def tw13329142012384350067:=I
def tw2154470225238731635:=I
def tw15109525091391994771:=I
def tw126710894230610899:=I
def tw17804580647637180371:=I
def tw9257812580350728244:=I
def tw16045933262539986004:=I
def tw3831785641441822836:=I
def tw6330000473967266964:=I
def tw17627553634514108628:=I
def tw7445856835889383636:=I
def tw9776111336986312980:=I
def tw3843580080641115412:=I
def tw288109767328848180:=I
def tw3213227258303361364:=I
def tw3155213622684679508:=I
def tw15599510247411652020:=I
def tw11797693803812131316:=I
def tw11545437987130905076:=I
def tw10927240360781297140:=I
def tw1709728104166855188:=I
def tw10964223220804301364:=I
def tw14049328917316253236:=I
def tw10392467075492853332:=I
def tw2446000186062160468:=I
def tw11728947587998476916:=I
def tw14510775640018843252:=I
def tw18202278469233871508:=I
def tw11477024129282467508:=I
def tw13327688711888057044:=I
def tw17160995090514559700:=I
def tw18149491931510066900:=I
def tw2434207107994016500:=I
def tw12133657817406925556:=I
def tw9761073541204275028:=I
def tw3598117915497079668:=I
def tw1803080898782790548:=I
def tw18081491314467425204:=I
def tw11612288144663153620:=I
def tw18133850349511713780:=I
def tw9610257684552780821:=I
def tw12528431994583760917:=I
def tw15048309637786220597:=I
def tw586144270581272661:=I
def tw4941079880904376437:=I
def tw11146677618789881973:=I
def tw15859411062483571829:=I
def tw6832221604289320085:=I
def tw10768518620939345109:=I
def tw13634342943379237109:=I
def tw560322600073694485:=I
def tw14237224412842217749:=I
def tw18183675664057709877:=I
def tw4240541012925613429:=I
def tw6683333182412491157:=I
def tw566602190957989333:=I
def tw12956855583567305205:=I
def tw15953934735596170805:=I
def tw5184388532729099829:=I
def tw2810346138907754037:=I
def tw6611816193801186901:=I
def tw4815268582439763637:=I
def tw12994967252264892117:=I
def tw6233077396659628885:=I
def tw2346748831547279221:=I
def tw16836017876219317109:=I
def tw17301363234071339893:=I
def tw13447080409003496373:=I
def tw10034566892689706965:=I
def tw6471067816088368085:=I
def tw9254267622849810421:=I
def tw8870507952819708917:=I
def tw15912116080316417078:=I
def tw6698993977942831158:=I
def tw242275467655748694:=I
def tw17432534019187811414:=I
def tw10376277965533401174:=I
def tw5808797198659378294:=I
def tw16290742245049130102:=I
def tw4223819501847798902:=I
def tw1842385309532878966:=I
def tw13324295681434566838:=I
def tw3388212924103280822:=I
def tw2548674611687661782:=I
def tw9474729902004715734:=I
def tw12654695721171506390:=I
def tw6381978751849845974:=I
def tw3643064852882143478:=I
def tw15055784001040240886:=I
def tw10863953808195005782:=I
def tw14650450927426025814:=I
def tw17709394198415597910:=I
def tw12991453037223626102:=I
def tw5112757821353100694:=I
def tw13893427614918329782:=I
def tw14365516449587488182:=I
def tw15133374182202942934:=I
def tw6066582409479405014:=I
def tw2804502872065501686:=I
def tw6258488287846595062:=I
def tw1554307365365657110:=I
def tw4079361018638234166:=I
def tw7604498705490336342:=I
def tw524319307756401270:=I
def tw14192795843255727734:=I
def tw8243231648629960342:=I
def tw17694486817598289558:=I
def tw9997031160966759062:=I
def tw3248246151473685142:=I
def tw11949946370306418358:=I
def tw5245927166788635350:=I
def tw7863530897749959382:=I
def tw1945636955945828086:=I
def tw17798093606879118102:=I
def tw1715942752108401430:=I
def tw3042223286526049046:=I
def tw8173180688807348022:=I
def tw9327172482450362198:=I
def tw16561484625845439318:=I
def tw17410926771282383734:=I
def tw15225955104501263222:=I
def tw2887568417212062646:=I
def tw9836982209127470038:=I
def tw17223408020452700118:=I
def tw8754800768422033431:=I
def tw7699306234544581655:=I
def tw7746522158607472695:=I
def tw1798077244097665079:=I
def tw13359901231956335671:=I
def tw8207023253236529207:=I
def tw17306927970114597943:=I
def tw5628133532793054423:=I
def tw12771169625676477687:=I
def tw49324934870730007:=I
def tw14353109785151718711:=I
def tw14748496669112250711:=I
def tw6360991327484477815:=I
def tw14614551469680751991:=I
def tw7034164833236140439:=I
def tw1409186037813613047:=I
def tw9451722035700559415:=I
def tw13693471094874535479:=I
def tw4994920952021060215:=I
def tw6905429525160585911:=I
def tw11177872126417320663:=I
def tw11588564294978624215:=I
def tw14622994759739376407:=I
def tw10974180188012807959:=I
def tw5816461301717445399:=I
def tw11070126869812351799:=I
def tw9468410736381084471:=I
def tw10758256482287600471:=I
def tw11897608494129924983:=I
def tw8770900466434737047:=I
def tw7902807093721071511:=I
def tw1621729387951782839:=I
def tw15427084503583399895:=I
def tw10049019885855159320:=I
def tw8519638868834547736:=I
def tw1975018891487879224:=I
def tw8856636271772874808:=I
def tw556239922281996344:=I
def tw2295627187307595864:=I
def tw17397343599536008280:=I
def tw16921647393097183384:=I
def tw13858491797000475832:=I
def tw17522754505153660120:=I
def tw1979070140217789688:=I
def tw12378598372262159640:=I
def tw4862713600044385560:=I
def tw8297999988691948856:=I
def tw854117825060385144:=I
def tw5604297346783025592:=I
def tw18337189510267225592:=I
def tw2278371140953559544:=I
def tw11544401740331220472:=I
def tw14012027764280922712:=I
def tw9027608761269139032:=I
def tw17358121735387733592:=I
def tw11811380676870563416:=I
def tw17496779922928120472:=I
def tw13949783192144102040:=I
def tw5281160588537955064:=I
def tw8923969062710845240:=I
def tw3232343916479413048:=I
def tw2849153562425063256:=I
def tw15515633197175797592:=I
def tw7252545464134959992:=I
def tw5784720484340437912:=I
def tw17363837518840569752:=I
def tw6648655766166322104:=I
def tw15974430346569833432:=I
def tw7015656545365650392:=I
def tw2237967408114430936:=I
def tw4830170895298350105:=I
def tw11045276460110771225:=I
def tw6492449344368311321:=I
def tw3977574859286418489:=I
def tw15989929415776782393:=I
def tw2705280208684766265:=I
def tw10672090171673926745:=I
def tw10720118198354765913:=I
def tw7058033299708475481:=I
def tw8815908815070731481:=I
def tw12914062455525473497:=I
def tw13096563339965185273:=I
def tw2257669894126764473:=I
def tw13207479204970595769:=I
def tw9126237274804468153:=I
def tw13851526123078068697:=I
def tw9607504558815131097:=I
def tw1208450280268187097:=I
def tw12927467797919387097:=I
def tw17111637291886275033:=I
def tw7918939686326588921:=I
def tw14859565571215589913:=I
def tw12039649081334908441:=I
def tw2660473983481210425:=I
def tw9975504594475625081:=I
def tw1798385115368556217:=I
def tw8197101257823782585:=I
def tw16028768680469023545:=I
def tw6040848704829280057:=I
def tw10506426887481449273:=I
def tw5107823185867737017:=I
def tw15712109276679401401:=I
def tw18158803988286473177:=I
def tw10332159665100408793:=I
def tw1881205534320408569:=I
def tw3198232983690138617:=I
def tw18143158036649918490:=I
def tw16834596924299974746:=I
def tw9735505041814377594:=I
def tw4651563565647735962:=I
def tw10217155563798756538:=I
def tw8397039466020242650:=I
def tw3265499729824209114:=I
def tw868104090181116186:=I
def tw12914919603499090234:=I
def tw15541479216801185082:=I
def tw9874084087000608090:=I
def tw15162161410540301658:=I
def tw17464626939873264090:=I
def tw7009671173192945114:=I
def tw15552001710948376026:=I
def tw6796488504755888730:=I
def tw6516614174657941146:=I
def tw725530023603670714:=I
def tw1106415729376770810:=I
def tw8378657751909255962:=I
def tw4236925774220113722:=I
def tw12532981678665924635:=I
def tw9727820971396339739:=I
def tw1992836398908417051:=I
def tw15228192931768529947:=I
def tw6371029608349789243:=I
def tw8256523054590810203:=I
def tw13986105994219223163:=I
def tw1464516434811284635:=I
def tw13547337877834096859:=I
def tw10796524807301040411:=I
def tw9861874870511164699:=I
def tw11786470513707659643:=I
def tw8068826648131879291:=I
def tw12859259529345854843:=I
def tw17513935924718135707:=I
def tw9889260193560297915:=I
def tw9730966232895618491:=I
def tw17853433606192299451:=I
def tw15439550205869383163:=I
def tw16262153917277774363:=I
def tw10803705266159644251:=I
def tw8016378694867192443:=I
def tw18287548393475708539:=I
def tw922412046988394107:=I
def tw5097228117104543355:=I
def tw15546561070490350203:=I
def tw9110610054202902235:=I
def tw17479983068195422971:=I
def tw18049771610027391739:=I
def tw885920206275306299:=I
def tw1460564576725550939:=I
def tw5635674530833263451:=I
def tw2571657728865937307:=I
def tw2108886535427718043:=I
def tw2843269593094740987:=I
def tw16450412360300905500:=I
def tw14096806070261342332:=I
def tw16222964626386826428:=I
def tw3304762845158594748:=I
def tw7408738094200252636:=I
def tw10419760827299597564:=I
def tw4317935354943242556:=I
def tw5377097894331710812:=I
def tw16662404702828857724:=I
def tw12475280032624969116:=I
def tw3145947003586827676:=I
def tw16918732218687391164:=I
def tw4545893130031289788:=I
def tw8063161739548264924:=I
def tw17826935459056943612:=I
def tw17693669265072437788:=I
def tw9840391935815928348:=I
def tw5881216360622038652:=I
def tw7610656801965188732:=I
def tw7387682271834133212:=I
def tw1782082328409157436:=I
def tw9033825973329053596:=I
def tw5156318090500017084:=I
def tw277195585568210973:=I
def tw6533009394422319197:=I
def tw16482198013686295645:=I
def tw8287771265093828733:=I
def tw1560160208247850141:=I
def tw4500449896247368893:=I
def tw89503580375822525:=I
def tw12815844948255427773:=I
def tw4629599870886632669:=I
def tw1940532741710474461:=I
def tw10944748384419119421:=I
def tw13699442948351041885:=I
def tw17639189635197432157:=I
def tw6840478957479503229:=I
def tw3696854732878655901:=I
def tw2373536402276124093:=I
def tw6360600361654229437:=I
def tw9538396018564985277:=I
def tw12552590717730361821:=I
def tw14510986950684270045:=I
def tw7168367453050612221:=I
def tw6079543081174185469:=I
def tw17724875138427762173:=I
def tw6767074277409050109:=I
def tw12513848191259183773:=I
def tw2432993089549116093:=I
def tw15589567742998659773:=I
def tw9440383733245843165:=I
def tw16895637017446281981:=I
def tw12163748686182397789:=I
def tw10652912067164519293:=I
def tw6950752638977847229:=I
def tw2605423441402260445:=I
def tw8198782098585679837:=I
def tw16690462145373288445:=I
def tw12845731720426860638:=I
def tw12323811281658636446:=I
def tw9334311184178174142:=I
def tw2171761882141552862:=I
def tw13154162028020143390:=I
def tw11896673108006386974:=I
def tw5029175101586079006:=I
def tw10244766286207798590:=I
def tw9721417606772610366:=I
def tw1478140295618261342:=I
def tw4345184667623029086:=I
def tw12934793177583789438:=I
def tw3117601221070563742:=I
def tw13080483780023861694:=I
def tw17184682475703873022:=I
def tw5682772048574633470:=I
def tw15994397787861577214:=I
def tw2587894126257219102:=I
def tw12063348892770739742:=I
def tw2662834495711627870:=I
def tw14035463186585746014:=I
def tw1347110159556941534:=I
def tw2410192166934238:=I
def tw14360172472902008638:=I
def tw16073710234854993758:=I
def tw6030553185728497534:=I
def tw9252123856595460990:=I
def tw14032147789723613054:=I
def tw3742701857778547646:=I
def tw6546263239201820638:=I
def tw2718053287622545374:=I
def tw12425719086376723454:=I
def tw4084060693952056351:=I
def tw18200990792113545247:=I
def tw17647264126124985471:=I
def tw12146167822235208863:=I
def tw8279088822652438719:=I
def tw7868540253410301215:=I
def tw18429158302206469407:=I
def tw16458106246769145119:=I
def tw8270233644831405375:=I
def tw7634820105330070911:=I
def tw726533449971015039:=I
def tw326954966148134303:=I
def tw18087601071952932287:=I
def tw14361567108440141279:=I
def tw8628394007788134911:=I
def tw13984611144720101887:=I
def tw2542267962298808831:=I
def tw13832950009813706463:=I
def tw14798945142386481919:=I
def tw16828388773804464927:=I
def tw474127068204260159:=I
def tw2066634988785309535:=I
def tw11114320688204926815:=I
def tw2759617847071499103:=I
def tw3739539385986549631:=I
def tw1144540856403463039:=I
def tw558565486777241471:=I
def tw17002351599985469311:=I
def tw7382864170964029407:=I
def tw8650711018779765759:=I
end PySem.W.Fast
open PySem PySem.W PyProof.Rows
set_option maxRecDepth 100000 in
set_option maxHeartbeats 0 in
theorem PySem.Challenge.cw_stripmeld_k07_no_order_holds : PySem.Challenge.rw_stripmeld_k07_no_order.Holds := by
 w_on;o_law;k_head;(case hw=>w_witness2)
 k_fill
 refine L2.M6 (l:=PySem.Challenge.rw_stripmeld_k07_no_order) (n:=63) (k:=10) (x:="_law_script") (CX:=L2.CX0) (sp:=Pu.BC) rfl (by decide) rfl ⟨rfl,by decide,by decide,rfl⟩ (fun w h Y=>PySem.W.kIn_of Y) ?F ?S ?C
 case F=>
  intro w mg fa h KX G hmg
  refine' T.Zb4 KX G hmg ?VN ?VR ?VS ?VT ?VU ?VV ?VW ?VX ?VY ?VZ ?a0 ?a1 ?a2 ?a3 ?a4 ?a5 ?a6 ?a7 ?a8 ?a9 ?a10 ?a11 ?a12 ?a13 ?a14 ?a15 ?a16 ?a17 ?a18 ?a19 ?a20 ?a21 ?a22 ?a23 ?a24 ?a25 ?a26 ?a27 ?a28 ?a29 ?a30 ?a31 ?a32 ?a33 ?a34 ?a35 ?a36 ?a37 ?a38 ?a39 ?a40 ?a41 ?a42 ?l42 ?c42 ?k42 ?Ja ?Jb ?Jc ?Jd ?Je ?Jf ?Jg ?Jh ?Ji ?Jj ?Jk ?Jl ?Jm ?Jn ?Jo ?Jp ?Jq ?Jr ?Js ?zm_DEEDS ?zl_DEEDS ?ze_DEEDS ?Jt ?zm_OTHERS ?zl_OTHERS ?ze_OTHERS ?Ju ?zl_ORDERS ?zm_ORDERS ?ze_ORDERS ?V5 ?V6 ?V7 ?VO ?V8 ?V9 ?VA ?VB ?VC ?VD ?VE ?VF ?VG ?VH ?VI ?VJ ?VL ?VP ?x_Ringed ?x_all ?x_BadOrder_BadOrder ?k_BadOrder_MeldError ?k_BadOrder_ValueError
  (case VN|VR|VS|VT|VU|VV|VW|VX|VY|VZ=>k_is)
  (case a0|a1|a2|a3|a4|a5|a6|a7|a8|a9|a10|a11|a12|a13=>apply Pu.di<;>k_is)
  (case a14|a15|a16|a17|a18|a19=>apply Pu.mi<;>k_is)
  (case a20|a21|a22|a23|a24|a25|a26|a27|a28|a29|a30|a31|a32|a33|a34|a35|a36|a37|a38|a39|a40|a41=>apply Pu.di<;>k_is)
  (case a42|l42|c42|k42|Ja|Jb|Jc|Jd|Je|Jf|Jg|Jh|Ji|Jj|Jk|Jl|Jm|Jn|Jo|Jp|Jq|Jr|Js=>k_is)
  (case zm_DEEDS=>decide)
  (case zl_DEEDS=>k_is)
  (case ze_DEEDS=>exact⟨⟨_,rfl⟩,rfl,⟨_,rfl⟩,⟨⟨_,rfl⟩,rfl,⟨_,rfl⟩,⟨⟨_,rfl⟩,rfl,⟨_,rfl⟩,⟨⟨_,rfl⟩,rfl,⟨_,rfl⟩,⟨⟨_,rfl⟩,rfl,⟨_,rfl⟩,trivial⟩⟩⟩⟩⟩)
  (case Jt=>k_is)
  (case zm_OTHERS=>decide)
  (case zl_OTHERS=>k_is)
  (case ze_OTHERS=>exact⟨⟨_,rfl⟩,rfl,⟨_,rfl⟩,⟨⟨_,rfl⟩,rfl,⟨_,rfl⟩,⟨⟨_,rfl⟩,rfl,⟨_,rfl⟩,⟨⟨_,rfl⟩,rfl,⟨_,rfl⟩,⟨⟨_,rfl⟩,rfl,⟨_,rfl⟩,⟨⟨_,rfl⟩,rfl,⟨_,rfl⟩,⟨⟨_,rfl⟩,rfl,⟨_,rfl⟩,⟨⟨_,rfl⟩,rfl,⟨_,rfl⟩,⟨⟨_,rfl⟩,rfl,⟨_,rfl⟩,trivial⟩⟩⟩⟩⟩⟩⟩⟩⟩)
  (case Ju|zl_ORDERS=>k_is)
  (case zm_ORDERS=>exact Nat.le_of_ble_eq_true rfl)
  (case ze_ORDERS=>exact .cons ⟨_,rfl⟩ (.cons ⟨_,rfl⟩<|.nil))
  (case V5|V6|V7|VO|V8|V9|VA|VB|VC|VD|VE|VF|VG|VH|VI|VJ|VL=>apply Pu.ei<;>first|(k_is;done)|k_exc)
  (case VP=>k_is)
  (case x_Ringed=>kts_exm)
  (case x_all=>kernel_rfl)
  (case x_BadOrder_BadOrder=>kts_exm)
  (case k_BadOrder_MeldError|k_BadOrder_ValueError=>kit_is)
 case S=>exact fun K H a ns hl hO hS=>⟨a,ns,rfl,hS,fun _=>rfl⟩
 case C=>exact fun _ _ _ _ z=>z
