import PyProof.Rows.All
import Wide.All
import OpenK.AllK
import Wide.FinOn
import PyProof.EqAt
import PyProof.EqKinds
import PyProof.TupleCall
import KE.BitLaws
import PyProof.ExcInit
import PyProof.InstStoreFacts
import PyProof.ExcArgsOwn
import KE.KTryMore
import PyProof.EnumMake
import PyProof.Draws
import PyProof.Rows.SortShellAny
import Open.SpecLaws
import KE.OsHead
import KE.OsGo
import PySem.Challenge.RW_kinghalldesk_s01_answers
import PyWqacda
set_option Elab.async false
set_option linter.all false
set_option maxRecDepth 100000
set_option maxHeartbeats 2000000
def OU:=@List.length_map
def OV:=@if_neg
def OW:=@if_pos
abbrev OX:=PySem.W.Frag
def OY:=@List.getElem?_eq_getElem
def OZ:=@Nat.le_refl
def O0:=@decide_eq_true
abbrev O1:=Tafl.Rules
def O2:=@PySem.sizeLine_eq
def O3:=@Bool.false_ne_true
def O4:=@PySem.wpAny_bind
abbrev O5:=PySem.FuncData
def O6:=@List.getElem?_eq_some_iff
def O7:=@of_decide_eq_true
def O8:=@List.mem_cons_self
def O9:=@decide_eq_true_iff
abbrev O_:=Tafl.Bytes
def Pa:=@List.mem_cons_of_mem
def Pb:=@Ne.symm
def Pd:=@List.length_append
def Pe:=@Bool.and_eq_true
def Pf:=@PySem.Heap.lt_size
def Pg:=@List.mem_map
def Ph:=@List.getElem?_map
def Pj:=@List.mem_singleton
def Pk:=@List.mem_append
def Pl:=@List.mem_range
def Pn:=@List.map_append
def Po:=@List.mem_cons
def Pr:=@PySem.Heap.get?_push_of_some
def Pt:=@List.length_cons
def Pu:=@Option.some.inj
def Pw:=@List.mem_of_getElem?
def Px:=@Int.toNat_natCast
def Py:=@List.size_toArray
abbrev Pz:=Tafl.Piece
def PB:=@List.take_of_length_le
def PD:=@Nat.le_trans
def PF:=@decide_eq_false
def PJ:=@Nat.lt_of_lt_of_le
def PK:=@List.length_take
abbrev PL:=Tafl.Pos
def PM:=@PySem.wpAny_pure
abbrev PN:=PySem.Program
def PP:=@List.length_replicate
def PQ:=@PySem.F.plainAttrs_list
def PR:=@List.mem_filter
def PU:=@List.append_nil
def PV:=@PySem.Str.length_append
def PX:=@Nat.ne_of_lt
def PY:=@List.map_cons
def PZ:=@PySem.Heap.get?_push_size
def P0:=@List.length_singleton
def P4:=@Nat.zero_le
def P9:=@List.append_assoc
def P_:=@congrArg
def Qa:=@List.map_map
def Qb:=@PySem.mem_of_lookup
def Qc:=@List.length_range
def Qe:=@List.flatMap_cons
def Qg:=@Bool.eq_iff_iff
def Qh:=@PySem.PassesOwn.leaving
def Qi:=@List.length_eq_zero_iff
def Qj:=@beq_iff_eq
def Qk:=@List.any_eq_true
def Ql:=@PySem.PassesOwn.never
def Qm:=@Option.bind_some
def Qn:=@List.mem_flatMap
def Qo:=@PySem.F.slot_list_append
def Qp:=@PySem.F.type_list_append
def Qq:=@List.mem_append_left
def Qr:=@List.drop_eq_getElem_cons
def Qs:=@List.take_succ
def Qt:=@List.nil_append
def Qu:=@List.mem_append_right
def Qv:=@List.getElem?_replicate
def Qw:=@Nat.lt_irrefl
def Qx:=@List.pairwise_lt_range
def Qy:=@List.drop_of_length_le
def Qz:=@PySem.Heap.size_push
def QA:=@List.of_mem_zip
def QB:=@List.foldl_cons
def QC:=@List.findIdx_lt_length_of_exists
def QD:=@Nat.mul_le_mul_right
def QE:=@PySem.Heap.get?_update_other
def QF:=@PySem.wpAny_truthy_bool
def QG:=@PySem.wpAny_mono
def QH:=@PySem.wpAny_Call_Name_kw
def QI:=@List.all_eq_true
def QJ:=@PySem.F.slot_list_extend
def QK:=@PySem.F.type_list_extend
def QL:=@List.any_eq_false
def QM:=@PyProof.Rows.callWith_type1
def QN:=@List.length_set
def QO:=@Bool.or_eq_true
def QP:=@List.map_congr_left
def QQ:=@List.getElem_of_mem
def QR:=@List.flatMap_map
def QS:=@List.mem_filterMap
def QT:=@List.any_map
def QU:=@Nat.mul_succ
def QV:=@UInt8.toNat_inj
def QW:=@List.pairwise_map
def QX:=@PySem.wpAny_standAt
def QY:=@List.length_drop
def QZ:=@List.lookup_cons
def Q0:=@List.map_flatMap
def Q1:=@List.range_succ_eq_map
def Q2:=@Nat.lt_or_ge
def Q3:=@PySem.wpAny_passesOwn
def Q4:=@PySem.Heap.get?_update_self
def Q5:=@List.length_zip
def Q6:=@List.contains_iff_mem
def Q7:=@List.getElem?_append_right
def Q8:=@List.any_cons
def Q9:=@List.nodup_append
def Q_:=@List.getElem?_append_left
def Ra:=@List.getElem?_zip_eq_some
def Rb:=@List.mem_of_find?_eq_some
def Rc:=@Nat.le_add_right
def Re:=@decide_eq_decide
def Rg:=@Nat.lt_succ_iff_lt_or_eq
def Rh:=@List.getElem_mem
def Ri:=@List.cons_append
def Rj:=@beq_eq_false_iff_ne
def Rk:=@List.toList_toArray
def Rl:=@PySem.plainObj_wpAny_Assign_Attribute
def Rm:=@decide_eq_false_iff_not
def Rn:=@List.sum_cons
def Ro:=@PySem.W.callWith_K
def Rp:=@List.nodup_cons
def Rq:=@Option.map_eq_some_iff
def Rr:=@Nat.le_of_succ_le
def Rs:=@Nat.ne_of_gt
def Rt:=@List.getElem?_eq_none
def Ru:=@Nat.mul_le_mul
def Rv:=@List.length_filter_le
def Rw:=@PySem.W.looks_findIn
def Rx:=@List.mem_of_mem_drop
def Ry:=@List.replicate_succ'
def Rz:=@List.drop_eq_nil_iff
def RB:=@PySem.wpAny_holding
def RC:=@PySem.wpAny_field
def RD:=@PySem.W.looks_clsIn
def RF:=@List.getElem?_range
def RG:=@PySem.wpAny_execs_nil
namespace L2
open PySem PySem.Spec PyProof.Rows
abbrev Key:=Sum Int Str
def JH:Key->Value->Bool
 |.inl k,v=>Value.isInt k v
 |.inr x,v=>Value.isStrOf x v
def Nd(w:World):Key->Int
 |.inl k=>hashInt k
 |.inr x=>hashStr w x
def dX:∀{k:Key}{v:Value},JH k v=true->(∃i t,k=Sum.inl i/\v=Value.int i t)\/(∃x t,k=Sum.inr x/\v=Value.str x t)
 |.inl i,v,h=>by
  obtain⟨t,e⟩:=Value.isInt_shape (k:=i) (v:=v) h;exact .inl ⟨i,t,rfl,e⟩
 |.inr x,v,h=>by
  obtain⟨t,e⟩:=Value.isStrOf_shape (x:=x) (v:=v) h;exact .inr ⟨x,t,rfl,e⟩
def Lq(a b:Int):decide ((Sum.inl a:Key)=Sum.inl b)=(a==b):=by
 by_cases e:a=b
 ·subst e;simp
 ·have h:¬(Sum.inl a:Key)=Sum.inl b:=λq=>e (Sum.inl.inj q)
  rw[PF h];exact(Rj.mpr e).symm
def Kb(a b:Str):decide ((Sum.inr a:Key)=Sum.inr b)=decide (a=b):=by
 by_cases e:a=b
 ·subst e;simp
 ·have h:¬(Sum.inr a:Key)=Sum.inr b:=λq=>e (Sum.inr.inj q)
  rw[PF h,PF e]
def K6(a:Int)(b:Str):decide ((Sum.inl a:Key)=Sum.inr b)=false:=PF (λq=>nomatch q)
def Lh(a:Str)(b:Int):decide ((Sum.inr a:Key)=Sum.inl b)=false:=PF (λq=>nomatch q)
def Dz(prog:PN)(w:World):PySem.KeyKind prog w Key where
 is:=JH
 hash:=Nd w
 inj:=λv a b ha hb=>by
  rcases dX ha with⟨i,t,rfl,rfl⟩|⟨x,t,rfl,rfl⟩
  ·rcases dX hb with⟨j,u,rfl,e⟩|⟨y,u,rfl,e⟩
   ·injection e with e1 _;rw[e1]
   ·exact nomatch e
  ·rcases dX hb with⟨j,u,rfl,e⟩|⟨y,u,rfl,e⟩
   ·exact nomatch e
   ·injection e with e1 _;rw[e1]
 byValue:=λk v h=>by
  rcases dX h with⟨i,t,rfl,rfl⟩|⟨x,t,rfl,rfl⟩<;>rfl
 pyHash:=λhv h=>by
  rcases dX hv with⟨i,t,rfl,rfl⟩|⟨x,t,rfl,rfl⟩
  ·exact wpAny_pyHash_int h
  ·exact wpAny_pyHash_str h
 eqBool:=λhu hv h=>by
  rcases dX hu with⟨i,t,rfl,rfl⟩|⟨x,t,rfl,rfl⟩
  ·rcases dX hv with⟨j,u,rfl,rfl⟩|⟨y,u,rfl,rfl⟩
   ·rw[Lq]at h;exact wpAny_eqBool_int h
   ·rw[K6]at h;exact SeqAt.EqAt.int_str i t y u _ _ _ _ h
  ·rcases dX hv with⟨j,u,rfl,rfl⟩|⟨y,u,rfl,rfl⟩
   ·rw[Lh]at h;exact SeqAt.EqAt.str_int x t j u _ _ _ _ h
   ·rw[Kb]at h;exact wpAny_eqBool_str h
 «strs»:=λk x t v h=>by
  rcases dX h with⟨i,u,rfl,e⟩|⟨y,u,rfl,e⟩
  ·exact nomatch e
  ·injection e with e1 _
   subst e1;cases v<;>rfl
inductive V where
 |eC|bl(b:Bool)|int(i:Int)|str(x:Str)|Bc(b:Array UInt8)|flt(b:UInt64)|ref(a:Addr)|ty(n:String)
 deriving DecidableEq
def RelV:V->Value->Prop
 |.eC,u=>u=Value.none
 |.bl b,u=>u=Value.bool b
 |.int i,u=>∃t,u=Value.int i t
 |.str x,u=>∃t,u=Value.str x t
 |.Bc b,u=>∃t,u=Value.bytes b t
 |.flt b,u=>∃t,u=Value.float b t
 |.ref a,u=>u=Value.ref a
 |.ty n,u=>u=Value.type n
abbrev Vals:List V->List Value->Prop:=Paired RelV
def Vals.length{xs:List V}{us:List Value}(r:Vals xs us):xs.length=us.length:=Paired.length r
def Vals.get:∀{xs:List V}{us:List Value}{i:Nat}{x:V},Vals xs us->xs[i]? =some x->∃u,us[i]? =some u/\RelV x u
 |_,_,_,_,.nil,e=>by simp at e
 |_,_,0,_,.cons r _,e=>by simp at e;subst e;exact⟨_,rfl,r⟩
 |_,_,i+1,x,.cons _ t,e=>by
  obtain⟨u,h1,h2⟩:=Vals.get (i:=i) (x:=x) t (by simpa using e);exact⟨u,by simpa using h1,h2⟩
def Vals.set{x:V}{u:Value}(r:RelV x u):∀{xs:List V}{us:List Value}(i:Nat),Vals xs us->Vals (xs.set i x) (us.set i u)
 |_,_,_,.nil=>.nil
 |_,_,0,.cons _ t=>.cons r t
 |_,_,i+1,.cons q t=>.cons q (Vals.set r i t)
def Vals.append:∀{xs ys:List V}{us ws:List Value},Vals xs us->Vals ys ws->Vals (xs++ys) (us++ws)
 |_,_,_,_,.nil,s=>s
 |_,_,_,_,.cons r t,s=>.cons r (Vals.append t s)
def Vals.take:∀{xs:List V}{us:List Value}(n:Nat),Vals xs us->Vals (xs.take n) (us.take n)
 |_,_,0,_=>.nil
 |_,_,_+1,.nil=>.nil
 |_,_,n+1,.cons r t=>.cons r (Vals.take n t)
def Vals.drop:∀{xs:List V}{us:List Value}(n:Nat),Vals xs us->Vals (xs.drop n) (us.drop n)
 |_,_,0,r=>r
 |_,_,_+1,.nil=>.nil
 |_,_,n+1,.cons _ t=>Vals.drop n t
def qJ:Option V->Option Value->Prop
 |some v,some u=>RelV v u
 |none,none=>True
 |_,_=>False
def KV{κ:Type}:List (κ×V)->List (κ×Value)->Prop:=Paired λ(p:κ×V)(q:κ×Value)=>p.1=q.1/\RelV p.2 q.2
def kV:Key->V
 |.inl i=>.int i
 |.inr x=>.str x
inductive HO where
 |lst(xs:List V)
 |tup(xs:List V)
 |dK(kvs:List (Key×V))|dT(kvs:List (List Key×V))
 |set(S:Int->Bool)(n:Nat)
 |ins(C dx:Addr)(fs:List (Str×V))
 |own(x:Addr)
 |xd(fs:List (Str×V))
 |met(f x:Addr)
 |Na(lo hi:Int)
 |wE(o:Obj)(u:HO)
 |J2(ps:Array Value)
 |ext(φ:Heap->Prop)
abbrev Hp:=Addr->Option HO
def upd(H:Hp)(a:Addr)(o:HO):Hp:=λb=>if b=a then some o else H b
def ai{H:Hp}{a:Addr}{o:HO}:upd H a o a=some o:=by unfold upd;rw[OW rfl]
def ak{H:Hp}{a b:Addr}{o:HO}(h:b≠a):upd H a o b=H b:=by unfold upd;rw[OV h]
def eQ{H:Hp}{a:Addr}{o u:HO}:upd (upd H a o) a u=upd H a u:=by
 funext b;unfold upd;split<;>rfl
def bf{H:Hp}{a b:Addr}{o u:HO}(h:H a=some o)(h':H b=some u)(d:o≠u):a≠b:=by
 intro e;subst e;rw[h]at h';exact d (Pu h')
def au{H:Hp}{a b:Addr}{o:HO}(h:H a=some o)(h':H b=none):a≠b:=by
 intro e;subst e;rw[h]at h';cases h'
section
variable(P:PN)(w:World)
def dI(H:Hp)(h:Heap)(a:Addr):HO->Prop
 |.lst xs=>xs.length<=sizeLine/\∃(its:List Value)(n:Nat),Vals xs its/\h.get? a=some {cls:= .type "list",data:= .seq its.toArray n}
 |.tup xs=>xs.length<=sizeLine/\∃its:List Value,Vals xs its/\IsTup h a its.toArray
 |.dK kvs=>kvs.length<=sizeLine/\(a==sysModules)=false/\∃vs,KV kvs vs/\h.DictOf (Dz P w) a vs
 |.dT kvs=>kvs.length<=sizeLine/\(a==sysModules)=false/\∃xs:List (List Key×Addr×Value),
   Paired (λ(p:List Key×V)(q:List Key×Addr×Value)=>p.1=q.1/\H q.2.1=some (.tup (p.1.map kV))/\RelV p.2 q.2.2) kvs xs/\
   ∃o es ep,h.get? a=some o/\o.ExactDict/\o.data=.dict es ep/\es.toList=xs.map (entryOfKey (tupleKind (Dz P w)))/\(xs.map (·.1)).Nodup
 |.set S n=>h.SetOf (intKind P w) a S n
 |.ins C dx fs=>H dx=some (.own a)/\fs.length<=1000/\dx≠a/\h.get? a=some (PySem.W.instObj C dx)/\
   ∃mA,h.Ns1 dx mA/\(∀f,qJ (fs.lookup f) (mA f))/\PySem.Within mA (fs.map (·.1))
 |.own _=>∃o,h.get? a=some o
 |.xd fs=>∃mA,h.Ns1 a mA/\∀f,qJ (fs.lookup f) (mA f)
 |.Na lo hi=>∃t u v,h.get? a=some {cls:= .type "range",data:= .fields #[.int lo t,.int hi u,.int 1 v]}
 |.wE o u=>h.get? a=some o/\dI H h a u
 |.J2 ps=>h.get? a=some {cls:= .none,data:= .fields ps}
 |.met f x=>h.get? a=some (PySem.W.methodObj (.ref f) (.ref x))
 |.ext φ=>φ h/\(∃o,h.get? a=some o)/\∀h1 h2:Heap,φ h1->(∀o,h1.get? a=some o->h2.get? a=some o)->φ h2
def lW(H:Hp)(h:Heap):Prop:=∀a o,H a=some o->dI P w H h a o
end
section
variable{P:PN}{w:World}{H H':Hp}{h h':Heap}{a:Addr}{o:HO}
def dI.lt(x:dI P w H h a o):a<h.objs.size:=by
 cases o with
 |lst xs=>obtain⟨_,_,_,_,e⟩:=x;exact Pf e
 |tup xs=>obtain⟨_,_,_,p⟩:=x;exact p.lt
 |dK kvs=>obtain⟨_,_,_,_,o,_,_,e,_⟩:=x;exact Pf e
 |dT kvs=>obtain⟨_,_,_,_,o,_,_,e,_⟩:=x;exact Pf e
 |set S n=>obtain⟨o,_,_,_,e,_⟩:=x;exact Pf e
 |ins C dx fs=>obtain⟨_,_,_,e,_⟩:=x;exact Pf e
 |own y=>obtain⟨_,e⟩:=x;exact Pf e
 |xd fs=>obtain⟨_,⟨_,_,_,e,_⟩,_⟩:=x;exact Pf e
 |Na lo hi=>obtain⟨_,_,_,e⟩:=x;exact Pf e
 |wE ob u=>obtain⟨e,_⟩:=x;exact Pf e
 |J2 ps=>exact Pf (show h.get? a=some _ from x)
 |met f y=>exact Pf (show h.get? a=some _ from x)
 |ext φ=>obtain⟨_,⟨_,e⟩,_⟩:=x;exact Pf e
def Paired.MN{α β:Type}{F G:α->β->Prop}:∀{l₁:List α}{l₂:List β},Paired F l₁ l₂->(∀a b,F a b->G a b)->Paired G l₁ l₂
 |_,_,.nil,_=>.nil
 |_,_,.cons r t,f=>.cons (f _ _ r) (Paired.MN t f)
def dI.vH(x:dI P w H h a o)(k:∀b u,(b=a\/H b=some (.own a))->h.get? b=some u->h'.get? b=some u)
  (ho:∀b,H b=some (.own a)->H' b=some (.own a))(ht:∀b xs,H b=some (.tup xs)->H' b=some (.tup xs)):dI P w H' h' a o:=by
 induction o with
 |lst xs=>obtain⟨z,its,n,r,e⟩:=x;exact⟨z,its,n,r,k _ _ (.inl rfl) e⟩
 |tup xs=>obtain⟨z,its,r,ob,e,c⟩:=x;exact⟨z,its,r,ob,k _ _ (.inl rfl) e,c⟩
 |dK kvs=>obtain⟨z,y,vs,r,ob,es,ep,e,c⟩:=x;exact⟨z,y,vs,r,ob,es,ep,k _ _ (.inl rfl) e,c⟩
 |dT kvs=>
  obtain⟨z,y,xs,r,ob,es,ep,e,c⟩:=x;exact⟨z,y,xs,Paired.MN r λp q z=>⟨z.1,ht _ _ z.2.1,z.2.2⟩,ob,es,ep,k _ _ (.inl rfl) e,c⟩
 |set S n=>obtain⟨ob,es,ep,t,e,c⟩:=x;exact⟨ob,es,ep,t,k _ _ (.inl rfl) e,c⟩
 |ins C dx fs=>
  obtain⟨d,z,ne,e,mA,⟨od,es,ep,e2,c⟩,r⟩:=x;exact⟨ho _ d,z,ne,k _ _ (.inl rfl) e,mA,⟨od,es,ep,k _ _ (.inr d) e2,c⟩,r⟩
 |own y=>obtain⟨ob,e⟩:=x;exact⟨ob,k _ _ (.inl rfl) e⟩
 |xd fs=>obtain⟨mA,⟨od,es,ep,e,c⟩,r⟩:=x;exact⟨mA,⟨od,es,ep,k _ _ (.inl rfl) e,c⟩,r⟩
 |Na lo hi=>obtain⟨t,u,v,e⟩:=x;exact⟨t,u,v,k _ _ (.inl rfl) e⟩
 |wE ob u ih=>obtain⟨e,q⟩:=x;exact⟨k _ _ (.inl rfl) e,ih q⟩
 |J2 ps=>
  have e:h.get? a=some {cls:= .none,data:= .fields ps}:=x;show h'.get? a=some {cls:= .none,data:= .fields ps};exact k a _ (.inl rfl) e
 |met f y=>
  have e:h.get? a=some (PySem.W.methodObj (.ref f) (.ref y)):=x;show h'.get? a=some (PySem.W.methodObj (.ref f) (.ref y));exact k a _ (.inl rfl) e
 |ext φ=>obtain⟨p,⟨o,e⟩,st⟩:=x;exact⟨st _ _ p λo q=>k _ _ (.inl rfl) q,⟨o,k _ _ (.inl rfl) e⟩,st⟩
def lW.lt(x:lW P w H h)(e:H a=some o):a<h.objs.size:=(x a o e).lt
def lW.fresh(x:lW P w H h)(e:h.objs.size<=a):H a=none:=by
 cases q:H a with
 |none=>rfl
 |some u=>exact absurd (PJ (x.lt q) e) (Qw _)
def lW.kept(x:lW P w H h)(k:∀b u,h.get? b=some u->h'.get? b=some u):lW P w H h':=λa o e=>
 (x a o e).vH (λb u _ q=>k b u q) (λ_ q=>q) λ_ _ q=>q
def lW.laid(x:lW P w H h)(k:∀b u,h.get? b=some u->h'.get? b=some u)(hp:h.objs.size<=a)(new:dI P w (upd H a o) h' a o):lW P w (upd H a o) h':=λb u e=>by
 have hn:=x.fresh hp
 by_cases hb:b=a
 ·subst hb;rw[ai]at e;cases e;exact new
 ·rw[ak hb]at e
  exact(x b u e).vH (λc v _ q=>k c v q) (λc q=>by rw[ak (au q hn)];exact q) λc xs q=>by rw[ak (au q hn)];exact q
end
def Rd(H:Hp)(a:Addr)(u:HO):Prop:=H a=some u\/∃o,H a=some (.wE o u)
def Rd.ok{P:PN}{w:World}{H:Hp}{h:Heap}{a:Addr}{u:HO}(r:Rd H a u)(x:lW P w H h):dI P w H h a u:=by
 rcases r with r|⟨o,r⟩
 ·exact x a u r
 ·obtain⟨_,q⟩:=x a _ r
  exact q
def M5:Option HO->Prop
 |some (.lst _)=>True
 |some (.dK _)=>True
 |some (.dT _)=>True
 |some (.set _ _)=>True
 |some (.ins _ _ _)=>True
 |some (.ext _)=>True
 |_=>False
section
variable{P:PN}{w:World}{H:Hp}{h h':Heap}{x e:Addr}{o':HO}
def lW.write(ok:lW P w H h)(mu:M5 (H x))(he:e=x\/H e=some (.own x))(k:∀b u,b≠e->h.get? b=some u->h'.get? b=some u)(heo:∃u,h'.get? e=some u)
  (new:dI P w (upd H x o') h' x o'):lW P w (upd H x o') h':=λb u q=>by
 have nown:∀c y,H c=some (.own y)->c≠x:=λc y r z=>by subst z;rw[r]at mu;exact mu
 have ntup:∀c xs,H c=some (.tup xs)->c≠x:=λc xs r z=>by subst z;rw[r]at mu;exact mu
 by_cases hb:b=x
 ·subst hb;rw[ai]at q;cases q;exact new
 ·rw[ak hb]at q
  by_cases hbe:b=e
  ·have q':H b=some (.own x):=by
    rcases he with z|z
    ·exact absurd (hbe.trans z) hb
    ·rw[hbe];exact z
   rw[q]at q';cases q';obtain⟨v,hv⟩:=heo;exact⟨v,by rw[hbe];exact hv⟩
  ·refine(ok b u q).vH (λc v hc r=>k c v ?_ r) (λc r=>by rw[ak (nown c b r)];exact r) λc xs r=>by rw[ak (ntup c xs r)];exact r
   rcases hc with rfl|hc
   ·exact hbe
   ·rintro rfl
    rcases he with z|z
    ·exact nown c b hc z
    ·rw[hc]at z;cases z;exact hb rfl
end
structure Un(fs ex:List Addr)(H H':Hp)(h h':Heap):Prop where
 keep:∀b o,h.get? b=some o->H b=none->b∉fs->b∉ex->h'.get? b=some o
 slot:∀b o,h.get? b=some o->H b=none->b∈fs->b∉ex->∃sl,h'.get? b=some {o with slots:=sl}
 free:∀b o,h.get? b=some o->H b=none->b∉ex->H' b=none
 there:∀b o,h.get? b=some o->b∉ex->∃o',h'.get? b=some o'
 rW:∀b xs,H b=some (.tup xs)->H' b=some (.tup xs)
 qG:∀b o u,H b=some (.wE o u)->H' b=some (.wE o u)
 rM:∀b ps,H b=some (.J2 ps)->∃more,H' b=some (.J2 (ps++more))
section
variable{fs fs' ex ex':List Addr}{H H1 H2:Hp}{h h1 h2 h':Heap}{a x e:Addr}{o:HO}
def Un.any(u:Un fs ex H H1 h h1){b:Addr}{ob:Obj}(q:h.get? b=some ob)(n:H b=none)(hx:b∉ex):∃sl,h1.get? b=some {ob with slots:=sl}:=by
 by_cases hb:b∈fs
 ·exact u.slot b ob q n hb hx
 ·exact⟨ob.slots,u.keep b ob q n hb hx⟩
def Un.trans(a:Un fs ex H H1 h h1)(b:Un fs ex H1 H2 h1 h2):Un fs ex H H2 h h2 where
 keep:=λc ob q n hc hx=>b.keep c ob (a.keep c ob q n hc hx) (a.free c ob q n hx) hc hx
 slot:=λc ob q n hc hx=>by
  obtain⟨sl,e1⟩:=a.slot c ob q n hc hx;obtain⟨sl',e2⟩:=b.slot c _ e1 (a.free c ob q n hx) hc hx;exact⟨sl',e2⟩
 free:=λc ob q n hx=>by
  obtain⟨o',e1⟩:=a.there c ob q hx;exact b.free c o' e1 (a.free c ob q n hx) hx
 there:=λc ob q hx=>by
  obtain⟨o',e1⟩:=a.there c ob q hx;exact b.there c o' e1 hx
 rW:=λc xs q=>b.rW c xs (a.rW c xs q)
 qG:=λc ob xs q=>b.qG c ob xs (a.qG c ob xs q)
 rM:=λc ps q=>by
  obtain⟨m1,e1⟩:=a.rM c ps q;obtain⟨m2,e2⟩:=b.rM c _ e1;exact⟨m1++m2,by rw[e2,Array.append_assoc]⟩
def Un.kept(k:∀b u,h.get? b=some u->h'.get? b=some u):Un fs ex H H h h':=
 ⟨λb ob q _ _ _=>k b ob q,λb ob q _ _ _=>⟨ob.slots,k b ob q⟩,λ_ _ _ n _=>n,λb ob q _=>⟨ob,k b ob q⟩,λ_ _ q=>q,λ_ _ _ q=>q,λ_ ps q=>⟨#[],by rw[q];simp⟩⟩
def Un.refl:Un fs ex H H h h:=Un.kept λ_ _ q=>q
def Un.laid(k:∀b u,h.get? b=some u->h'.get? b=some u)(hp:h.objs.size<=a)(hn:H a=none):Un fs ex H (upd H a o) h h' where
 keep:=λb u q _ _ _=>k b u q
 slot:=λb u q _ _ _=>⟨u.slots,k b u q⟩
 free:=λb u q n _=>by rw[ak (PX (PJ (Pf q) hp))];exact n
 there:=λb u q _=>⟨u,k b u q⟩
 rW:=λb xs q=>by rw[ak (au q hn)];exact q
 qG:=λb u xs q=>by rw[ak (au q hn)];exact q
 rM:=λb ps q=>⟨#[],by rw[ak (au q hn),q];simp⟩
def Un.write(mu:M5 (H x))(he:e=x\/H e=some (.own x))(k:∀b u,b≠e->h.get? b=some u->h'.get? b=some u)(heo:∃u,h'.get? e=some u):Un fs ex H (upd H x o) h h':=by
 have hx:∀b,H b=none->b≠x:=λb n z=>by subst z;rw[n]at mu;exact mu
 have hb:∀b,H b=none->b≠e:=λb n z=>by
  subst z;rcases he with r|r
  ·exact hx b n r
  ·rw[n]at r;cases r
 have hm:∀b u,H b=some u->¬M5 (some u)->b≠x:=λb u q nm z=>by subst z;rw[q]at mu;exact nm mu
 refine⟨λb u q n _ _=>k b u (hb b n) q,λb u q n _ _=>⟨u.slots,k b u (hb b n) q⟩,λb u q n _=>by rw[ak (hx b n)];exact n,λb u q _=>?_,
  λb xs q=>by rw[ak (hm b _ q λz=>z)];exact q,λb u xs q=>by rw[ak (hm b _ q λz=>z)];exact q,λb ps q=>⟨#[],by rw[ak (hm b _ q λz=>z),q];simp⟩⟩
 by_cases hbe:b=e
 ·subst hbe;exact heo
 ·exact⟨u,k b u hbe q⟩
def Un.mono(u:Un fs ex H H1 h h1)(hs:∀b∈fs,b∈fs')(hx:∀b∈ex,b∈ex'):Un fs' ex' H H1 h h1:=
 ⟨λb ob q n hb he=>u.keep b ob q n (λz=>hb (hs b z)) λz=>he (hx b z),λ_ _ q n _ he=>u.any q n λz=>he (hx _ z),λb ob q n he=>u.free b ob q n λz=>he (hx b z),λb ob q he=>u.there b ob q λz=>he (hx b z),u.rW,u.qG,u.rM⟩
end
def M0(h:Heap)(H:Hp):List Addr:=(List.range h.objs.size).filter λa=>(H a).isSome
def Ay(h:Heap)(H:Hp):Heap:=PySem.W.hideAll h (M0 h H)
def EZ(h:Heap)(H:Hp):(Ay h H).objs.size=h.objs.size:=PySem.W.hideAll_size _ _
def F6{h:Heap}{H:Hp}{b:Addr}{o:Obj}(e:h.get? b=some o)(n:H b=none):(Ay h H).get? b=some o:=
 PySem.W.hideAll_get _ e λhm=>by
  have q:(H b).isSome=true:=(PR.mp hm).2;rw[n]at q;simp at q
def Jq{h:Heap}{H:Hp}{b:Addr}{o:Obj}(e:(Ay h H).get? b=some o):h.get? b=some o/\H b=none:=by
 have e':h.get? b=some o:=PySem.W.of_hideAll (M0 h H) e;refine⟨e',?_⟩;cases q:H b with
 |none=>rfl
 |some x=>
  have hm:b∈M0 h H:=PR.mpr ⟨Pl.mpr (Pf e'),by simp[q]⟩;have z:(Ay h H).get? b=none:=PySem.W.hideAll_none (M0 h H) hm;rw[z]at e;cases e
structure Mod(K:OX)(mg:Str->Option Value)(base:Heap):Prop where
 JP:K.In base
 glob:base.Ns mainGlobals mg
 blt:∃mb,base.Ns builtinsNs mb/\∀x:Str,x≠"__name__"->mb x=bootBuiltins x
 nolimit:base.NoLimit
structure Cx where
 prog:PN
 w:World
 K:OX
 mg:Str->Option Value
 base:Heap
 A:Around
 N:List Str
 vI:Shared
 LO:Hp
 env:Env
 outer:List Env
 stack:List Env
 ex:List Addr
 fn:Str->Bool
 calm:Bool
 pn:List (Addr×Obj)
 xe:Value->Shared->Prop
def yK(l:List Env):List Addr:=l.filterMap (·.frame)
abbrev Cx.fs(X:Cx):List Addr:=yK X.outer
def LC(sc:Scope)(x:Str):Prop:=sc.names.lookup x=some .local\/sc.names.lookup x=some .cell\/sc.names.lookup x=some .free
def Loc(sc:Scope)(x:Str):Prop:=sc.names.lookup x=some .local\/sc.names.lookup x=some .cell
def Look(env:Env)(h:Heap)(m:Str->Option Value)(x:Str)(u:Value):Prop:=
 (env.kindOf x=some .local/\m x=some u)\/((env.kindOf x=some .cell\/env.kindOf x=some .free)/\∃c,env.cells.lookup x=some c/\h.IsCell c (some u))
structure Cx.Ok(X:Cx):Prop where
 mod:Mod X.K X.mg X.base
 kind:X.env.scope.kind=.function
 glob:X.env.globals=mainGlobals
 blt:X.env.builtins=builtinsNs
 above:X.vI.heap.objs.size<=X.env.locals
 inj:∀x y c,X.env.cells.lookup x=some c->X.env.cells.lookup y=some c->x=y
 has:∀x,(X.env.kindOf x=some .cell\/X.env.kindOf x=some .free)->∃c,X.env.cells.lookup x=some c
 J6:∀x c,X.fn x=true->X.env.cells.lookup x=some c->X.vI.heap.objs.size<=c
 hd:X.calm=true->X.A.handled=none
 frames:X.A.frames=some X.stack
 LH:X.stack=X.outer\/(X.stack=X.env::X.outer/\X.env.frame=some X.env.locals)
 LG:∀b∈X.ex,b≠X.env.locals/\∀x c,X.env.cells.lookup x=some c->c≠b
 bs:∀b o,X.base.get? b=some o->X.vI.heap.get? b=some o/\X.LO b=none
 Fz:X.base.objs.size<=X.vI.heap.objs.size
 C9:∀b o,X.base.get? b=some o->b∉X.ex
 CK:∀b∈X.ex,b∉X.fs
 rF:X.vI.heap.FunFrames X.base X.outer
 Cy:∀b∈X.fs,X.LO b=none
structure Inv(X:Cx)(pins:List (Addr×Obj))(σ:List (Option V))(H:Hp)(s:Shared):Prop where
 ok:X.Ok
 os:s.os=X.vI.os
 bare:AllBare s.gens
 base:Un X.fs X.ex X.LO H X.vI.heap s.heap
 loc:∃m,s.heap.Ns X.env.locals m/\∀(i:Nat)(x:Str)(v:V),X.N[i]? =some x->σ[i]? =some (some v)->LC X.env.scope x->∃u,RelV v u/\Look X.env s.heap m x u
 cell:∀x c,X.env.cells.lookup x=some c->∃v,s.heap.IsCell c v
 free:H X.env.locals=none
 mn:∀x c,X.env.cells.lookup x=some c->H c=none
 pin:∀p∈X.pn++pins,s.heap.get? p.1=some p.2/\H p.1=none/\p.1≠X.env.locals/\p.1∉X.fs/\∀v,p.2.data≠.cell v
 cH:lW X.prog X.w H s.heap
 len:σ.length=X.N.length
section
variable{X:Cx}{pins:List (Addr×Obj)}{σ:List (Option V)}{H H':Hp}{s:Shared}{h':Heap}
def Cx.Ok.N3(ok:X.Ok){b:Addr}{o:Obj}(e:X.base.get? b=some o):b∉X.fs:=λhb=>by
 have:=(ok.rF.mem hb).1;rw[e]at this;cases this
def Inv.bs(I:Inv X pins σ H s):∀b o,X.base.get? b=some o->s.heap.get? b=some o/\H b=none:=λb o e=>
 ⟨I.base.keep b o (I.ok.bs b o e).1 (I.ok.bs b o e).2 (I.ok.N3 e) (I.ok.C9 b o e),I.base.free b o (I.ok.bs b o e).1 (I.ok.bs b o e).2 (I.ok.C9 b o e)⟩
def Inv.bk(I:Inv X pins σ H s):∀b o,X.base.get? b=some o->s.heap.get? b=some o:=λb o e=>(I.bs b o e).1
def Inv.mod(I:Inv X pins σ H s):Mod X.K X.mg X.base:=I.ok.mod
def Inv.qY(I:Inv X pins σ H s):X.K.In s.heap:=I.ok.mod.JP.keeps I.bk
def Inv.lt(I:Inv X pins σ H s):X.env.locals<s.heap.objs.size:=let⟨_,hn,_⟩:=I.loc;hn.lt
def Inv.sz(I:Inv X pins σ H s):X.vI.heap.objs.size<=s.heap.objs.size:=PD I.ok.above (Nat.le_of_lt I.lt)
def Inv.N5(I:Inv X pins σ H s){a:Addr}(h:s.heap.objs.size<=a):a∉X.fs:=λhb=>by
 obtain⟨_,o,ho,_⟩:=I.ok.rF.mem hb;exact absurd (PJ (Pf ho) (PD I.sz h)) (Qw _)
def Inv.JZ(I:Inv X pins σ H s):∀x c,X.env.cells.lookup x=some c->c≠X.env.locals:=λx c e z=>by
 obtain⟨v,o,ho,hd⟩:=I.cell x c e;obtain⟨m,⟨o',es,ep,ho',hd',_⟩,_⟩:=I.loc;rw[z,ho']at ho;cases ho;rw[hd']at hd;cases hd
def Inv.rF(I:Inv X pins σ H s):s.heap.FunFrames X.base X.outer:=by
 have all:∀(l:List Env),(∀b∈yK l,b∈X.fs)->X.vI.heap.FunFrames X.base l->s.heap.FunFrames X.base l:=by
  intro l
  induction l with
  |nil=>intro _ _;trivial
  |cons env r ih=>
   intro hs hl;obtain⟨hk,⟨L,o,hf,hn,ho,hd⟩,hr⟩:=hl;have hL:L∈X.fs:=hs L (by unfold yK;rw[List.filterMap_cons,hf];exact O8);obtain⟨sl,e⟩:=I.base.slot L o ho (I.ok.Cy L hL) hL λz=>I.ok.CK L z hL;exact⟨hk,⟨L,_,hf,hn,e,hd⟩,ih (λb hb=>hs b (by unfold yK;rw[List.filterMap_cons,hf];exact Pa _ hb)) hr⟩
 exact all X.outer (λ_ hb=>hb) I.ok.rF
def Inv.stack(I:Inv X pins σ H s):s.heap.FunFrames X.base X.stack:=by
 rcases I.ok.LH with e|⟨e,hf⟩
 ·rw[e];exact I.rF
 ·rw[e]
  obtain⟨m,hn,_⟩:=I.loc;refine .cons (by rw[I.ok.kind];decide) hf hn ?_ I.rF;exact Heap.get?_none_of_le (PD I.ok.Fz I.ok.above)
def Inv.C8(I:Inv X pins σ H s):∀b∈yK X.stack,b∈X.env.locals::X.fs:=λb hb=>by
 rcases I.ok.LH with e|⟨e,hf⟩
 ·rw[e]at hb;exact Pa _ hb
 ·rw[e]at hb
  unfold yK at hb;rw[List.filterMap_cons,hf]at hb;exact hb
def Inv.v6(I:Inv X pins σ H s):∀b∈yK X.stack,H b=none:=λb hb=>by
 rcases Po.mp (I.C8 b hb)with e|hb
 ·rw[e];exact I.free
 ·obtain⟨_,o,ho,_⟩:=I.ok.rF.mem hb
  exact I.base.free b o ho (I.ok.Cy b hb) λz=>I.ok.CK b z hb
def Inv.step{g':Array GenState}{t':Nat}{d':Drawn}{ch:List Addr}(I:Inv X pins σ H s)
  (hch:∀b∈ch,(b∈X.ex\/X.vI.heap.objs.size<=b)/\b≠X.env.locals/\(∀x c,X.env.cells.lookup x=some c->c≠b)/\∀p∈X.pn++pins,p.1≠b)
  (keep:∀b o,b≠X.env.locals->b∉X.fs->b∉ch->s.heap.get? b=some o->H b=none->h'.get? b=some o)
  (slot:∀b o,b≠X.env.locals->b∈X.fs->b∉ch->s.heap.get? b=some o->H b=none->∃sl,h'.get? b=some {o with slots:=sl})(free:∀b o,b∉ch->s.heap.get? b=some o->H b=none->H' b=none)
  (there:∀b o,b∉ch->s.heap.get? b=some o->∃o',h'.get? b=some o')
  (rW:∀b xs,H b=some (.tup xs)->H' b=some (.tup xs))(qG:∀b o u,H b=some (.wE o u)->H' b=some (.wE o u))(rM:∀b ps,H b=some (.J2 ps)->∃more,H' b=some (.J2 (ps++more)))
  (ns:∀m,s.heap.Ns X.env.locals m->h'.Ns X.env.locals m)(cH:lW X.prog X.w H' h')(hg:AllBare g'):
  Inv X pins σ H' {s with heap:=h',gens:=g',drawn:=d',toks:=t'}:=by
 have neL:∀b o,X.vI.heap.get? b=some o->b≠X.env.locals:=λb o e=>PX (PJ (Pf e) I.ok.above);have neC:∀b o,X.vI.heap.get? b=some o->b∉X.ex->b∉ch:=λb o e hx hb=>by
  rcases(hch b hb).1 with z|z
  ·exact hx z
  ·exact absurd (PJ (Pf e) z) (Qw _)
 have cellK:∀x c,X.env.cells.lookup x=some c->∀v,s.heap.IsCell c v->h'.IsCell c v:=λx c e v⟨o,ho,hd⟩=>by
  have nch:c∉ch:=λz=>(hch c z).2.2.1 x c e rfl
  by_cases hc:c∈X.fs
  ·obtain⟨sl,q⟩:=slot c o (I.JZ x c e) hc nch ho (I.mn x c e)
   exact⟨_,q,hd⟩
  ·exact⟨o,keep c o (I.JZ x c e) hc nch ho (I.mn x c e),hd⟩
 refine⟨I.ok,I.os,hg,⟨λb o e n hb hx=>?_,λb o e n hb hx=>?_,λb o e n hx=>?_,λb o e hx=>?_,λb xs e=>rW b xs (I.base.rW b xs e),λb o xs e=>qG b o xs (I.base.qG b o xs e),λb ps e=>?_⟩,?_,λx c e=>?_,?_,λx c e=>?_,λp hp=>?_,cH,I.len⟩
 ·exact keep b o (neL b o e) hb (neC b o e hx) (I.base.keep b o e n hb hx) (I.base.free b o e n hx)
 ·obtain⟨sl,e1⟩:=I.base.slot b o e n hb hx
  obtain⟨sl',e2⟩:=slot b _ (neL b o e) hb (neC b o e hx) e1 (I.base.free b o e n hx);exact⟨sl',e2⟩
 ·obtain⟨o',e1⟩:=I.base.there b o e hx
  exact free b o' (neC b o e hx) e1 (I.base.free b o e n hx)
 ·obtain⟨o',e1⟩:=I.base.there b o e hx
  exact there b o' (neC b o e hx) e1
 ·obtain⟨m1,e1⟩:=I.base.rM b ps e
  obtain⟨m2,e2⟩:=rM b _ e1;exact⟨m1++m2,by rw[e2,Array.append_assoc]⟩
 ·obtain⟨m,hn,hl⟩:=I.loc
  refine⟨m,ns m hn,λi x v e1 e2 e3=>?_⟩;obtain⟨u,r,l⟩:=hl i x v e1 e2 e3;refine⟨u,r,?_⟩;rcases l with l|⟨k,c,e,z⟩
  ·exact .inl l
  ·exact .inr ⟨k,c,e,cellK x c e _ z⟩
 ·obtain⟨v,z⟩:=I.cell x c e
  exact⟨v,cellK x c e v z⟩
 ·obtain⟨m,⟨o,_,_,ho,_⟩,_⟩:=I.loc
  exact free _ o (λz=>(hch _ z).2.1 rfl) ho I.free
 ·obtain⟨v,o,ho,hd⟩:=I.cell x c e
  exact free c o (λz=>(hch c z).2.2.1 x c e rfl) ho (I.mn x c e)
 ·obtain⟨e,n,ne,nf,d⟩:=I.pin p hp
  have nch:p.1∉ch:=λz=>(hch p.1 z).2.2.2 p hp rfl;exact⟨keep p.1 p.2 ne nf nch e n,free p.1 p.2 nch e n,ne,nf,d⟩
def Inv.un{t':Nat}(I:Inv X pins σ H s)(u:Un X.fs [] H H' s.heap h')(cH:lW X.prog X.w H' h'):Inv X pins σ H' {s with heap:=h',toks:=t'}:=by
 obtain⟨m,⟨o,es,ep,ho,r⟩,_⟩:=id I.loc;obtain⟨sl,hL⟩:=u.any ho I.free (by simp);exact I.step (g':=s.gens) (d':=s.drawn) (ch:=[]) (λ_ z=>nomatch z) (λb o _ hb _ e n=>u.keep b o e n hb (by simp)) (λb o _ hb _ e n=>u.slot b o e n hb (by simp)) (λb o _ e n=>u.free b o e n (by simp)) (λb o _ e=>u.there b o e (by simp)) u.rW u.qG u.rM (λm' hm=>by
  obtain⟨o',es',ep',ho',r'⟩:=hm;rw[ho]at ho';cases ho';exact⟨_,es',ep',hL,r'⟩) cH I.bare
def Inv.call{g':Array GenState}{t':Nat}{d':Drawn}{ch:List Addr}(I:Inv X pins σ H s)(u:Un (yK X.stack) ch H H' s.heap h')(cH:lW X.prog X.w H' h')(hg:AllBare g')
  (hch:∀b∈ch,(b∈X.ex\/X.vI.heap.objs.size<=b)/\b≠X.env.locals/\(∀x c,X.env.cells.lookup x=some c->c≠b)/\∀p∈X.pn++pins,p.1≠b):
  Inv X pins σ H' {s with heap:=h',gens:=g',drawn:=d',toks:=t'}:=by
 obtain⟨m,⟨o,es,ep,ho,r⟩,_⟩:=id I.loc;obtain⟨sl,hL⟩:=u.any ho I.free λz=>(hch _ z).2.1 rfl;exact I.step (ch:=ch) hch (λb o hL hb hc e n=>u.keep b o e n (λz=>(Po.mp (I.C8 b z)).elim hL hb) hc) (λb o _ _ hc e n=>u.any e n hc) (λb o hc e n=>u.free b o e n hc) (λb o hc e=>u.there b o e hc) u.rW u.qG u.rM (λm' hm=>by
  obtain⟨o',es',ep',ho',r'⟩:=hm;rw[ho]at ho';cases ho';exact⟨_,es',ep',hL,r'⟩) cH hg
def Inv.turned{t':Nat}{it:Addr}(I:Inv X pins σ H s)(k:∀b o,b≠it->s.heap.get? b=some o->h'.get? b=some o)(hn:H it=none)(hL:it≠X.env.locals)
  (h1:it∈X.ex\/X.vI.heap.objs.size<=it)(h2:∀x c,X.env.cells.lookup x=some c->c≠it)(h3:∀p∈X.pn++pins,p.1≠it):Inv X pins σ H {s with heap:=h',toks:=t'}:=by
 have nit:∀b u,H b=some u->b≠it:=λb u e z=>by rw[z,hn]at e;cases e
 refine I.step (g':=s.gens) (d':=s.drawn) (ch:=[it]) (λb hb=>?_) (λb o _ _ hc e _=>k b o (λz=>hc (by simp[z])) e) (λb o _ _ hc e _=>⟨o.slots,k b o (λz=>hc (by simp[z])) e⟩) (λ_ _ _ _ n=>n)
  (λb o hc e=>⟨o,k b o (λz=>hc (by simp[z])) e⟩) (λ_ _ e=>e) (λ_ _ _ e=>e) (λb ps e=>⟨#[],by rw[e];simp⟩) (λm hm=>?_) (λb u e=>?_) I.bare
 ·have e:b=it:=by simpa using hb
  subst e;exact⟨h1,hL,h2,h3⟩
 ·obtain⟨o,es,ep,ho,r⟩:=hm
  exact⟨o,es,ep,k _ o (Pb hL) ho,r⟩
 ·refine(I.cH b u e).vH (λc v hc q=>k c v ?_ q) (λ_ q=>q) λ_ _ q=>q
  rcases hc with z|z
  ·rw[z];exact nit b u e
  ·exact nit c _ z
def Inv.tok(I:Inv X pins σ H s)(t:Nat):Inv X pins σ H {s with toks:=t}:=I.un (h':=s.heap) (t':=t) Un.refl I.cH
def Inv.kept{t':Nat}(I:Inv X pins σ H s)(k:∀b u,s.heap.get? b=some u->h'.get? b=some u):Inv X pins σ H {s with heap:=h',toks:=t'}:=I.un (Un.kept k) (I.cH.kept k)
def Inv.laid{a:Addr}{o:HO}{t':Nat}(I:Inv X pins σ H s)(k:∀b u,s.heap.get? b=some u->h'.get? b=some u)(hp:s.heap.objs.size<=a)(new:dI X.prog X.w (upd H a o) h' a o):
  Inv X pins σ (upd H a o) {s with heap:=h',toks:=t'}:=I.un (Un.laid k hp (I.cH.fresh hp)) (I.cH.laid k hp new)
def Inv.write{x e:Addr}{o:HO}{t':Nat}(I:Inv X pins σ H s)(mu:M5 (H x))(he:e=x\/H e=some (.own x))(k:∀b u,b≠e->s.heap.get? b=some u->h'.get? b=some u)(heo:∃u,h'.get? e=some u)
  (new:dI X.prog X.w (upd H x o) h' x o):Inv X pins σ (upd H x o) {s with heap:=h',toks:=t'}:=I.un (Un.write mu he k heo) (I.cH.write mu he k heo new)
def Inv.weak{σ':List (Option V)}(I:Inv X pins σ H s)(hl:σ'.length=σ.length)(w:∀(i:Nat) v,σ'[i]? =some (some v)->σ[i]? =some (some v)):Inv X pins σ' H s:=
 ⟨I.ok,I.os,I.bare,I.base,let⟨m,hn,hl'⟩:=I.loc;⟨m,hn,λi x v e1 e2 e3=>hl' i x v e1 (w i v e2) e3⟩,I.cell,I.free,I.mn,I.pin,I.cH,hl.trans I.len⟩
def Inv.DC{pins':List (Addr×Obj)}(I:Inv X pins σ H s)(h:∀p∈pins',s.heap.get? p.1=some p.2/\H p.1=none/\p.1≠X.env.locals/\p.1∉X.fs/\∀v,p.2.data≠.cell v):Inv X pins' σ H s:=
 ⟨I.ok,I.os,I.bare,I.base,I.loc,I.cell,I.free,I.mn,λp hp=>(Pk.mp hp).elim (λz=>I.pin p (Qq _ z)) (h p),I.cH,I.len⟩
def yx{N:List Str}(hN:N.Nodup){i j:Nat}{x:Str}(a:N[i]? =some x)(b:N[j]? =some x):i=j:=by
 obtain⟨h1,e1⟩:=O6.mp a;obtain⟨h2,e2⟩:=O6.mp b;exact(List.getElem_inj hN).mp (e1.trans e2.symm)
def zP{M:Model}{A:Around}{E:Value->Shared->Prop}{i:Nat}{x:Str}{v:V}{u:Value}{Q:Unit->Shared->Prop}(I:Inv X pins σ H s)(hN:X.N.Nodup)(hi:X.N[i]? =some x)(hx:Loc X.env.scope x)(r:RelV v u)
  (h:∀s',Inv X pins (σ.set i (some v)) H s'->(∃a,Heap.SameBut a s.heap s'.heap/\(a=X.env.locals\/X.env.cells.lookup x=some a))->Q () s')(hf:X.fn x=true\/X.env.scope.names.lookup x=some .local:=by first|exact .inl rfl|exact .inr rfl|assumption):wpAny M A (storeName X.env x u) Q E s:=by
 obtain⟨m,hn,hl⟩:=id I.loc;have hcls:(X.env.scope.kind== .class||(X.env.scope.kind== .module&&X.env.locals !=X.env.globals))=false:=by rw[I.ok.kind];rfl
 have hiσ:i<σ.length:=by rw[I.len];exact(O6.mp hi).1
 have JZ:=I.JZ;have tracked:∀{a:Addr}{h':Heap},(∃o,s.heap.get? a=some o/\H a=none)->Heap.SameBut a s.heap h'->lW X.prog X.w H h':=λ{a h'} ha hs b ob e=>by
  obtain⟨_,_,hfree⟩:=ha;refine(I.cH b ob e).vH (λc w' hc q=>(hs.2 c ?_).trans q) (λ_ q=>q) λ_ _ q=>q
  rintro rfl
  rcases hc with rfl|hc
  ·rw[hfree]at e;cases e
  ·rw[hfree]at hc;cases hc
 rcases hx with hk|hk
 ·refine wpAny_storeName_local hk hn (λh' hn' hs=>?_) hcls
  obtain⟨oL,_,_,hoL,_⟩:=id hn;refine h _ ⟨I.ok,I.os,I.bare,⟨λb o e n hb hx=>?_,λb o e n hb hx=>?_,I.base.free,λb o e hx=>?_,I.base.rW,I.base.qG,I.base.rM⟩,⟨_,hn',λj y v' e1 e2 e3=>?_⟩,λy c e=>?_,I.free,I.mn,λp hp=>?_,tracked ⟨oL,hoL,I.free⟩ hs,by simpa using I.len⟩ ⟨_,hs,.inl rfl⟩
  ·exact(hs.2 b (PX (PJ (Pf e) I.ok.above))).trans (I.base.keep b o e n hb hx)
  ·obtain⟨sl,e1⟩:=I.base.slot b o e n hb hx
   exact⟨sl,(hs.2 b (PX (PJ (Pf e) I.ok.above))).trans e1⟩
  ·obtain⟨o',e1⟩:=I.base.there b o e hx
   exact⟨o',(hs.2 b (PX (PJ (Pf e) I.ok.above))).trans e1⟩
  ·by_cases hj:j=i
   ·subst hj
    rw[hi]at e1;cases e1;rw[List.getElem?_set_self hiσ]at e2;cases e2;exact⟨u,r,.inl ⟨hk,by simp⟩⟩
   ·rw[List.getElem?_set_ne (Pb hj)]at e2
    obtain⟨u',r',q⟩:=hl j y v' e1 e2 e3;refine⟨u',r',?_⟩;rcases q with⟨k,e⟩|⟨k,c,e,z⟩
    ·refine .inl ⟨k,?_⟩
     have:y≠x:=λe=>hj (yx hN e1 (e▸hi));simp[this,e]
    ·exact .inr ⟨k,c,e,z.sameBut hs (JZ y c e)⟩
  ·obtain⟨w',z⟩:=I.cell y c e
   exact⟨w',z.sameBut hs (JZ y c e)⟩
  ·obtain⟨e,n,ne,nf,d⟩:=I.pin p hp
   exact⟨(hs.2 p.1 ne).trans e,n,ne,nf,d⟩
 ·have hfn:X.fn x=true:=by
   rcases hf with z|z
   ·exact z
   ·rw[z]at hk;cases hk
  obtain⟨c,hc⟩:=I.ok.has x (.inl hk);obtain⟨w',z⟩:=I.cell x c hc;refine wpAny_storeName_cell I.ok.kind hk hc z (λh' hc' hs=>?_);obtain⟨oc,hoc,hocd⟩:=id z;refine h {s with heap:=h'} ⟨I.ok,I.os,I.bare,⟨λb o e n hb hx=>?_,λb o e n hb hx=>?_,I.base.free,λb o e hx=>?_,I.base.rW,I.base.qG,I.base.rM⟩,⟨m,hn.sameBut hs (Pb (JZ x c hc)),λj y v' e1 e2 e3=>?_⟩,λy c' e=>?_,I.free,I.mn,λp hp=>?_,tracked ⟨oc,hoc,I.mn x c hc⟩ hs,by simpa using I.len⟩ ⟨c,hs,.inr hc⟩
  ·exact(hs.2 b (PX (PJ (Pf e) (I.ok.J6 x c hfn hc)))).trans (I.base.keep b o e n hb hx)
  ·obtain⟨sl,e1⟩:=I.base.slot b o e n hb hx
   exact⟨sl,(hs.2 b (PX (PJ (Pf e) (I.ok.J6 x c hfn hc)))).trans e1⟩
  ·obtain⟨o',e1⟩:=I.base.there b o e hx
   exact⟨o',(hs.2 b (PX (PJ (Pf e) (I.ok.J6 x c hfn hc)))).trans e1⟩
  ·by_cases hj:j=i
   ·subst hj
    rw[hi]at e1;cases e1;rw[List.getElem?_set_self hiσ]at e2;cases e2;exact⟨u,r,.inr ⟨.inl hk,c,hc,hc'⟩⟩
   ·rw[List.getElem?_set_ne (Pb hj)]at e2
    obtain⟨u',r',q⟩:=hl j y v' e1 e2 e3;refine⟨u',r',?_⟩;rcases q with q|⟨k,c',e,z'⟩
    ·exact .inl q
    ·refine .inr ⟨k,c',e,z'.sameBut hs ?_⟩
     rintro rfl
     exact hj (yx hN e1 (I.ok.inj _ _ _ e hc▸hi))
  ·by_cases hcc:c'=c
   ·subst hcc;exact⟨_,hc'⟩
   ·obtain⟨w2,z2⟩:=I.cell y c' e
    exact⟨w2,z2.sameBut hs hcc⟩
  ·obtain⟨e,n,ne,nf,d⟩:=I.pin p hp
   refine⟨(hs.2 p.1 ?_).trans e,n,ne,nf,d⟩;intro q;rw[q,hoc]at e;have q':oc=p.2:=Pu e;exact d w' (by rw[<-q'];exact hocd)
def sL{M:Model}{A:Around}{E:Value->Shared->Prop}{i:Nat}{x:Str}{v:V}{u:Value}{Q:Unit->Shared->Prop}(I:Inv X pins σ H s)(hN:X.N.Nodup)(hi:X.N[i]? =some x)(hx:Loc X.env.scope x)(r:RelV v u)
  (h:∀s',Inv X pins (σ.set i (some v)) H s'->Q () s')(hf:X.fn x=true\/X.env.scope.names.lookup x=some .local:=by first|exact .inl rfl|exact .inr rfl|assumption):wpAny M A (storeName X.env x u) Q E s:=
 zP I hN hi hx r (λs' I' _=>h s' I') hf
def Inv.GC{s':Shared}{ch:List Addr}(I:Inv X pins σ H s)(ho:s'.os=s.os)(u:Un (yK X.stack) ch H H' s.heap s'.heap)(cH:lW X.prog X.w H' s'.heap)(hg:AllBare s'.gens)
  (hch:∀b∈ch,(b∈X.ex\/X.vI.heap.objs.size<=b)/\b≠X.env.locals/\(∀x c,X.env.cells.lookup x=some c->c≠b)/\∀p∈X.pn++pins,p.1≠b):Inv X pins σ H' s':=by
 obtain⟨h',g',d',t',o'⟩:=s';have e:o'=s.os:=ho;subst e;exact I.call (g':=g') (t':=t') (d':=d') u cH hg hch
end
abbrev XK:=Value->Option Addr->Hp->Prop
abbrev St:=List (Option V)
abbrev VK:=V->Hp->Prop
abbrev TE:=St->Hp->VK->Prop
abbrev TT:=St->Hp->(Bool->Hp->Prop)->Prop
abbrev TA:=St->Hp->(List V->Hp->Prop)->Prop
structure Ends where
 nx:St->Hp->Prop
 rt:VK
 bk:St->Hp->Prop:=λ_ _=>False
 ct:St->Hp->Prop:=λ_ _=>False
abbrev TS:=Ends->St->Hp->Prop
def EP(X:Cx)(pins:List (Addr×Obj))(σ:St)(Q:VK)(u:Value)(s':Shared):Prop:=∃v H',Inv X pins σ H' s'/\RelV v u/\Q v H'
def TP(X:Cx)(pins:List (Addr×Obj))(σ:St)(Q:Bool->Hp->Prop)(b:Bool)(s':Shared):Prop:=∃H',Inv X pins σ H' s'/\Q b H'
def AP(X:Cx)(pins:List (Addr×Obj))(σ:St)(Q:List V->Hp->Prop)(us:List Value)(s':Shared):Prop:=∃vs H',Inv X pins σ H' s'/\Vals vs us/\Q vs H'
def SP(X:Cx)(pins:List (Addr×Obj))(D:Ends)(f:Flow)(s':Shared):Prop:=
 match f with
 |.next=>∃σ' H',Inv X pins σ' H' s'/\D.nx σ' H'
 |.brk=>∃σ' H',Inv X pins σ' H' s'/\D.bk σ' H'
 |.cont=>∃σ' H',Inv X pins σ' H' s'/\D.ct σ' H'
 |.ret u=>∃v σ' H',Inv X pins σ' H' s'/\RelV v u/\D.rt v H'
def PE(X:Cx)(e:Expr)(t:TE):Prop:=
 ∀(pins:List (Addr×Obj))(s:Shared)(σ:St)(H:Hp)(Q:VK),Inv X pins σ H s->t σ H Q->wpAny (model X.prog X.w) X.A (eval e X.env) (EP X pins σ Q) X.xe s
def PT(X:Cx)(e:Expr)(t:TT):Prop:=
 ∀(pins:List (Addr×Obj))(s:Shared)(σ:St)(H:Hp)(Q:Bool->Hp->Prop),Inv X pins σ H s->t σ H Q->wpAny (model X.prog X.w) X.A (isTrue e X.env (eval e X.env)) (TP X pins σ Q) X.xe s
def PW(X:Cx)(e:Expr)(t:TT):Prop:=
 ∀(whole:Sem Value)(pins:List (Addr×Obj))(s:Shared)(σ:St)(H:Hp)(Q:Bool->Hp->Prop),Inv X pins σ H s->t σ H Q->wpAny (model X.prog X.w) X.A (isTrue e X.env whole) (TP X pins σ Q) X.xe s
def PW.pt{X:Cx}{e:Expr}{t:TT}(h:PW X e t):PT X e t:=h _
def PA(X:Cx)(es:List Expr)(t:TA):Prop:=
 ∀(pos:Pos)(pins:List (Addr×Obj))(s:Shared)(σ:St)(H:Hp)(Q:List V->Hp->Prop),Inv X pins σ H s->t σ H Q->wpAny (model X.prog X.w) X.A (spliced (backTo pos (starEach es X.env))) (AP X pins σ Q) X.xe s
def PS(X:Cx)(st:Stmt)(t:TS):Prop:=
 ∀(pins:List (Addr×Obj))(s:Shared)(σ:St)(H:Hp)(D:Ends),Inv X pins σ H s->t D σ H->wpAny (model X.prog X.w) X.A (exec st X.env) (SP X pins D) X.xe s
def zN(X:Cx)(st:List Stmt)(t:TS):Prop:=
 ∀(pins:List (Addr×Obj))(s:Shared)(σ:St)(H:Hp)(D:Ends),Inv X pins σ H s->t D σ H->wpAny (model X.prog X.w) X.A (execs st X.env) (SP X pins D) X.xe s
def dR{α:Type}{t:Sem α}{Q Q':α->Shared->Prop}{M:Model}{A:Around}{E:Value->Shared->Prop}{s:Shared}(h:wpAny M A t Q E s)(hQ:∀a s,Q a s->Q' a s):wpAny M A t Q' E s:=QG h hQ λ_ _ x=>x
section
variable{X:Cx}
def My(i:Nat):TE:=λσ H Q=>∃v,σ[i]? =some (some v)/\Q v H
def tC(v:V):TE:=λ_ H Q=>Q v H
def KO{i:Nat}{x:Str}{pos:Pos}(hN:X.N[i]? =some x)(hv:LC X.env.scope x)(hd:(x==("__debug__":Str))=false:=by decide)(hcd:(x==("__classdict__":Str))=false:=by decide):PE X (.Name x pos) (My i):=by
 intro pins s σ H Q I h;obtain⟨v,e,h⟩:=h;obtain⟨m,hn,hl⟩:=I.loc;obtain⟨u,r,l⟩:=hl i x v hN e hv;have fin:EP X pins σ Q u s:=⟨v,H,I,r,h⟩;rcases l with⟨hk,hm⟩|⟨hk,c,hc,hcell⟩
 ·exact wpAny_Name (wpAny_loadName_local I.ok.kind hk hn hm fin) hd
 ·rcases hk with hk|hk
  ·exact wpAny_Name (wpAny_loadName_cell I.ok.kind hk hc hcell fin) hd
  ·exact wpAny_Name (wpAny_loadName_free I.ok.kind hk hc hcell fin hcd) hd
def az{i j pos}:PE X (.Constant (.int i) j pos) (tC (.int i)):=λ_ _ _ H _ I h=>wpAny_Constant_int ⟨.int i,H,I.tok _,⟨_,rfl⟩,h⟩
def rm{b j pos}:PE X (.Constant (.bool b) j pos) (tC (.bl b)):=λ_ _ _ H _ I h=>Constant_bool ⟨.bl b,H,I,rfl,h⟩
def Ko{j pos}:PE X (.Constant .none j pos) (tC .eC):=λ_ _ _ H _ I h=>Constant_none ⟨.eC,H,I,rfl,h⟩
def a9{x j pos}:PE X (.Constant (.str x) j pos) (tC (.str x)):=λ_ _ _ H _ I h=>Calls.Constant_str ⟨.str x,H,I.tok _,⟨_,rfl⟩,h⟩
def Gl(X:Cx)(x:Str):Prop:=X.env.kindOf x=some .globalImplicit
def mr{E:Value->Shared->Prop}{pins:List (Addr×Obj)}{s:Shared}{σ:St}{H:Hp}{x:Str}{u:Value}{pos:Pos}{Q:Value->Shared->Prop}(I:Inv X pins σ H s)(hg:Gl X x)(hm:X.mg x=some u)(h:Q u s)
  (hd:(x==("__debug__":Str))=false:=by decide):wpAny (model X.prog X.w) X.A (eval (.Name x pos) X.env) Q E s:=
 Calls.Name_function_global I.ok.kind hg (Calls.loadGlobal_global (by rw[I.ok.glob];exact I.mod.glob.keeps I.bk) hm h) hd
def ud{E:Value->Shared->Prop}{pins:List (Addr×Obj)}{s:Shared}{σ:St}{H:Hp}{x:Str}{u:Value}{pos:Pos}{Q:Value->Shared->Prop}(I:Inv X pins σ H s)(hg:Gl X x)(hm:X.mg x=none)(hv:bootBuiltins x=some u)(h:Q u s)
  (hn:x≠"__name__":=by decide)(hd:(x==("__debug__":Str))=false:=by decide):wpAny (model X.prog X.w) X.A (eval (.Name x pos) X.env) Q E s:=by
 obtain⟨mb,h1,h2⟩:=I.mod.blt;exact Calls.Name_function_global I.ok.kind hg (Calls.loadGlobal_builtin (by rw[I.ok.glob];exact I.mod.glob.keeps I.bk) hm (by rw[I.ok.blt];exact h1.keeps I.bk) ((h2 x hn).trans hv) h) hd
def kn{x:Str}{v:V}{u:Value}{pos:Pos}(hg:Gl X x)(hm:X.mg x=some u)(r:RelV v u)(hd:(x==("__debug__":Str))=false:=by decide):PE X (.Name x pos) (tC v):=
 λ_ _ _ H _ I h=>mr I hg hm ⟨v,H,I,r,h⟩ hd
variable{a b:Expr}{ta tb:TE}{pos:Pos}
def PC(X:Cx)(op:CmpOp)(a b:Expr)(t:TE):Prop:=
 ∀(pins:List (Addr×Obj))(s:Shared)(σ:St)(H:Hp)(Q:VK),Inv X pins σ H s->t σ H Q->
  wpAny (model X.prog X.w) X.A (eval a X.env) (λv s₁=>wpAny (model X.prog X.w) X.A (eval b X.env) (λu s₂=>wpAny (model X.prog X.w) X.A (compareOp op v u) (EP X pins σ Q) X.xe s₂) X.xe s₁) X.xe s
def Hg(b:Expr){op:CmpOp}(h:op≠.In)(h2:op≠.NotIn):behindInMarks op b=false:=by
 have e1:(op==CmpOp.In)=false:=by cases op<;>first|rfl|exact absurd rfl h
 have e2:(op==CmpOp.NotIn)=false:=by cases op<;>first|rfl|exact absurd rfl h2
 cases b<;>simp[behindInMarks,e1,e2]
def Nt(ta:TE):TE:=λσ H Q=>ta σ H λx H1=>Q (.bl (decide (x=.eC))) H1
def RelV.Gs{x:V}{v:Value}(r:RelV x v):(v==Value.none)=decide (x=.eC):=by
 cases x with
 |eC=>cases r;rfl
 |bl _=>cases r;rfl
 |int _=>obtain⟨t,rfl⟩:=r;rfl
 |str _=>obtain⟨t,rfl⟩:=r;rfl
 |Bc _=>obtain⟨t,rfl⟩:=r;rfl
 |flt _=>obtain⟨t,rfl⟩:=r;rfl
 |ref _=>cases r;rfl
 |ty _=>cases r;rfl
def KY{j pos'}(ha:PE X a ta):PC X .Is a (.Constant .none j pos') (Nt ta):=by
 intro pins s σ H Q I h;refine dR (ha pins s σ H _ I h) λv s1⟨x,H1,I1,r1,q1⟩=>?_;exact Constant_none (is_none_gen ⟨.bl _,H1,I1,by rw[r1.Gs];rfl,q1⟩)
def tB(t:TE):TT:=λσ H Q=>t σ H λx H1=>∃c,x=.bl c/\Q c H1
def Lu{op:CmpOp}{t:TE}(h:PC X op a b t)(h1:behindInMarks op b=false:=by first|exact Hg _ (by decide) (by decide)|rfl):PT X (.Compare a [op] [b] pos) (tB t):=by
 intro pins s σ H Q I hw;refine wpAny_isTrue_Compare1 (dR (h pins s σ H _ I hw) λv s1 h1=>dR h1 λu s2 h2=>dR h2 λc s3⟨x,H1,I1,r1,q1⟩=>?_) h1;obtain⟨d,rfl,q⟩:=q1;cases r1;exact QF ⟨H1,I1,q⟩
def dC{e:Expr}{t:TE}(h:PE X e t)(he:∀whole,isTrue e X.env whole=(do let v<-whole;standAt e.pos;holding [v] (truthy v)):=by intro _;rfl):PT X e (tB t):=by
 intro pins s σ H Q I hw;refine isTrue_plain (dR (h pins s σ H _ I hw) λv s1⟨x,H1,I1,r1,q1⟩=>?_) (he _);obtain⟨d,rfl,q⟩:=q1;cases r1;exact QF ⟨H1,I1,q⟩
variable{tA tB':TT}{rest:List Expr}
def Oi(t u:TT):TT:=λσ H Q=>t σ H λc H1=>if c=true then u σ H1 Q else Q false H1
def OK(t u:TT):TT:=λσ H Q=>t σ H λc H1=>if c=true then Q true H1 else u σ H1 Q
def Nz(t:TT):TT:=λσ H Q=>t σ H λc H1=>Q (!c) H1
def fe(ha:PT X a tA):PW X (.BoolOp .And [a] pos) tA:=by
 intro wh pins s σ H Q I h;refine isTrue_and (dR (ha pins s σ H Q I h) λc s1 e=>?_);cases c with
 |true=>exact isTrue_and_nil e
 |false=>exact e
def tV(ha:PT X a tA):PW X (.BoolOp .Or [a] pos) tA:=by
 intro wh pins s σ H Q I h;refine isTrue_or (dR (ha pins s σ H Q I h) λc s1 e=>?_);cases c with
 |false=>exact isTrue_or_nil e
 |true=>exact e
def gR(ha:PT X a tA)(hb:PW X (.BoolOp .And (b::rest) pos) tB'):PW X (.BoolOp .And (a::b::rest) pos) (Oi tA tB'):=by
 intro wh pins s σ H Q I h;refine isTrue_and (dR (ha pins s σ H _ I h) λc s1⟨H1,I1,q1⟩=>?_);cases c with
 |true=>exact hb wh pins s1 σ H1 Q I1 q1
 |false=>exact⟨H1,I1,q1⟩
def zw(ha:PT X a tA)(hb:PW X (.BoolOp .Or (b::rest) pos) tB'):PW X (.BoolOp .Or (a::b::rest) pos) (OK tA tB'):=by
 intro wh pins s σ H Q I h;refine isTrue_or (dR (ha pins s σ H _ I h) λc s1⟨H1,I1,q1⟩=>?_);cases c with
 |true=>exact⟨H1,I1,q1⟩
 |false=>exact hb wh pins s1 σ H1 Q I1 q1
def lH(ha:PT X a tA):PT X (.UnaryOp .Not a pos) (Nz tA):=by
 intro pins s σ H Q I h;exact isTrue_not (ha pins s σ H (λc H1=>Q (!c) H1) I h)
def MC(ta tb:TE):TE:=λσ H Q=>ta σ H λx H1=>∃c,x=.bl c/\if c=true then tb σ H1 Q else Q (.bl false) H1
def Ny(ta tb:TE):TE:=λσ H Q=>ta σ H λx H1=>∃c,x=.bl c/\if c=true then Q (.bl true) H1 else tb σ H1 Q
def MV(ta:TE):TE:=λσ H Q=>ta σ H λx H1=>∃c,x=.bl c/\Q (.bl (!c)) H1
def pE{op}{t:TE}(h:PE X a t):PE X (.BoolOp op [a] pos) t:=λpins s σ H Q I hw=>BoolOp_one (h pins s σ H Q I hw)
def yn(ha:PE X a ta)(hb:PE X (.BoolOp .And (b::rest) pos) tb):PE X (.BoolOp .And (a::b::rest) pos) (MC ta tb):=by
 intro pins s σ H Q I h;refine BoolOp_and (dR (ha pins s σ H _ I h) λv s1⟨x,H1,I1,r1,q1⟩=>?_);obtain⟨c,rfl,q1⟩:=q1;cases r1;refine QF ?_;cases c with
 |true=>exact hb pins s1 σ H1 Q I1 q1
 |false=>exact⟨.bl false,H1,I1,rfl,q1⟩
def G9(ha:PE X a ta)(hb:PE X (.BoolOp .Or (b::rest) pos) tb):PE X (.BoolOp .Or (a::b::rest) pos) (Ny ta tb):=by
 intro pins s σ H Q I h;refine BoolOp_or (dR (ha pins s σ H _ I h) λv s1⟨x,H1,I1,r1,q1⟩=>?_);obtain⟨c,rfl,q1⟩:=q1;cases r1;refine QF ?_;cases c with
 |false=>exact hb pins s1 σ H1 Q I1 q1
 |true=>exact⟨.bl true,H1,I1,rfl,q1⟩
def Gp(ha:PE X a ta):PE X (.UnaryOp .Not a pos) (MV ta):=by
 intro pins s σ H Q I h;refine UnaryOp_ (dR (ha pins s σ H _ I h) λv s1⟨x,H1,I1,r1,q1⟩=>?_);obtain⟨c,rfl,q1⟩:=q1;cases r1;exact not_of (QF ⟨.bl (!c),H1,I1,rfl,q1⟩)
def OQ(t:TT)(ta tb:TE):TE:=λσ H Q=>t σ H λc H1=>if c=true then ta σ H1 Q else tb σ H1 Q
def yy{c:Expr}(hc:PT X c tA)(ha:PE X a ta)(hb:PE X b tb):PE X (.IfExp c a b pos) (OQ tA ta tb):=by
 intro pins s σ H Q I h;refine wpAny_IfExp (dR (hc pins s σ H _ I h) λd s1⟨H1,I1,q1⟩=>?_);cases d with
 |true=>exact ha pins s1 σ H1 Q I1 q1
 |false=>exact hb pins s1 σ H1 Q I1 q1
end
def a0(K:OX)(H:Hp)(a:Addr)(xs:List V):Prop:=
 Rd H a (.lst xs)\/
  ∃(o:Obj)(its:Array Value)(n:Nat),K.lookup a=some o/\o.cls=.type "list"/\o.dict=none/\o.data=.seq its n/\its.size<=sizeLine/\Vals xs its.toList
def iV(K:OX)(H:Hp)(a:Addr)(xs:List V):Prop:=
 Rd H a (.tup xs)\/
  ∃(o:Obj)(its:Array Value)(n:Nat),K.lookup a=some o/\o.cls=.type "tuple"/\o.data=.seq its n/\its.size<=sizeLine/\Vals xs its.toList
def NY:Value->Option V
 |.none=>some .eC
 |.bool b=>some (.bl b)
 |.int i _=>some (.int i)
 |.str x _=>some (.str x)
 |.bytes b _=>some (.Bc b)
 |.float b _=>some (.flt b)
 |.ref a=>some (.ref a)
 |.type n=>some (.ty n)
 |_=>none
def RelV.abs{x:V}{u:Value}(r:RelV x u):NY u=some x:=by
 cases x with
 |eC=>cases r;rfl
 |bl _=>cases r;rfl
 |int _=>obtain⟨t,rfl⟩:=r;rfl
 |str _=>obtain⟨t,rfl⟩:=r;rfl
 |Bc _=>obtain⟨t,rfl⟩:=r;rfl
 |flt _=>obtain⟨t,rfl⟩:=r;rfl
 |ref _=>cases r;rfl
 |ty _=>cases r;rfl
def RelV.inj{x y:V}{u:Value}(r:RelV x u)(q:RelV y u):x=y:=Pu (r.abs.symm.trans q.abs)
def Vals.inj:∀{xs ys:List V}{us:List Value},Vals xs us->Vals ys us->xs=ys
 |_,_,_,.nil,.nil=>rfl
 |_,_,_,.cons r t,.cons r' t'=>by rw[r.inj r',Vals.inj t t']
section
variable{X:Cx}{pins:List (Addr×Obj)}{σ:St}{H:Hp}{s:Shared}{a:Addr}{xs ys:List V}
def a0.of{K:OX}(h:H a=some (.lst xs)):a0 K H a xs:= .inl (.inl h)
def iV.of{K:OX}(h:H a=some (.tup xs)):iV K H a xs:= .inl (.inl h)
def Inv.list(I:Inv X pins σ H s)(h:a0 X.K H a xs):∃its:List Value,Vals xs its/\PlainL s.heap a its.toArray/\xs.length<=sizeLine:=by
 rcases h with h|⟨o,its,n,hk,hc,hd,hs,hz,r⟩
 ·obtain⟨z,its,n,r,e⟩:=h.ok I.cH
  exact⟨its,r,⟨_,n,e,rfl,rfl,rfl⟩,z⟩
 ·refine⟨its.toList,r,⟨o,n,I.qY a o hk,hc,hd,by simpa using hs⟩,?_⟩
  have e:=r.length;simp only[Array.length_toList]at e;omega
def Inv.tuple(I:Inv X pins σ H s)(h:iV X.K H a xs):∃its:List Value,Vals xs its/\IsTup s.heap a its.toArray/\xs.length<=sizeLine:=by
 rcases h with h|⟨o,its,n,hk,hc,hs,hz,r⟩
 ·obtain⟨z,its,r,p⟩:=h.ok I.cH
  exact⟨its,r,p,z⟩
 ·refine⟨its.toList,r,⟨o,I.qY a o hk,hc,n,by simpa using hs⟩,?_⟩
  have e:=r.length;simp only[Array.length_toList]at e;omega
def Inv.tM(I:Inv X pins σ H s)(h:a0 X.K H a xs)(h':a0 X.K H a ys):xs=ys:=by
 obtain⟨its,r,⟨o,n,e,_,_,d⟩,_⟩:=I.list h;obtain⟨its',r',⟨o',n',e',_,_,d'⟩,_⟩:=I.list h';rw[e]at e';cases e';rw[d]at d';injection d' with d1 _;have:its=its':=by simpa using P_ Array.toList d1
 subst this;exact r.inj r'
def Inv.EU(I:Inv X pins σ H s)(h:iV X.K H a xs)(h':iV X.K H a ys):xs=ys:=by
 obtain⟨its,r,⟨o,e,_,n,d⟩,_⟩:=I.tuple h;obtain⟨its',r',⟨o',e',_,n',d'⟩,_⟩:=I.tuple h';rw[e]at e';cases e';rw[d]at d';injection d' with d1 _;have:its=its':=by simpa using P_ Array.toList d1
 subst this;exact r.inj r'
end
abbrev Cx.yF(X:Cx)(E:Value->Shared->Prop):Cx:={X with xe:=E}
abbrev Cx.L9(X:Cx):Cx:=X.yF λ_ _=>False
def Cx.Ok.yF{X:Cx}(ok:X.Ok)(E:Value->Shared->Prop):(X.yF E).Ok:=
 ⟨ok.mod,ok.kind,ok.glob,ok.blt,ok.above,ok.inj,ok.has,ok.J6,ok.hd,ok.frames,ok.LH,ok.LG,ok.bs,ok.Fz,ok.C9,ok.CK,ok.rF,ok.Cy⟩
def Cx.Ok.pV{X:Cx}{E:Value->Shared->Prop}(ok:(X.yF E).Ok):X.Ok:=
 ⟨ok.mod,ok.kind,ok.glob,ok.blt,ok.above,ok.inj,ok.has,ok.J6,ok.hd,ok.frames,ok.LH,ok.LG,ok.bs,ok.Fz,ok.C9,ok.CK,ok.rF,ok.Cy⟩
section
variable{X:Cx}{pins:List (Addr×Obj)}{σ:St}{H:Hp}{s:Shared}{E:Value->Shared->Prop}
def Inv.yF(I:Inv X pins σ H s)(E:Value->Shared->Prop):Inv (X.yF E) pins σ H s:=⟨I.ok.yF E,I.os,I.bare,I.base,I.loc,I.cell,I.free,I.mn,I.pin,I.cH,I.len⟩
def Inv.pV(I:Inv (X.yF E) pins σ H s):Inv X pins σ H s:=⟨I.ok.pV,I.os,I.bare,I.base,I.loc,I.cell,I.free,I.mn,I.pin,I.cH,I.len⟩
def SP.pV{D:Ends}{f:Flow}{s':Shared}(h:SP (X.yF E) pins D f s'):SP X pins D f s':=by
 cases f with
 |next=>obtain⟨σ',H',I,q⟩:=h;exact⟨σ',H',I.pV,q⟩
 |brk=>obtain⟨σ',H',I,q⟩:=h;exact⟨σ',H',I.pV,q⟩
 |cont=>obtain⟨σ',H',I,q⟩:=h;exact⟨σ',H',I.pV,q⟩
 |ret u=>obtain⟨v,σ',H',I,r,q⟩:=h;exact⟨v,σ',H',I.pV,r,q⟩
def zN.L9{st:List Stmt}{t:TS}(h:zN X.L9 st t):zN X st t:=λpins s σ H D I hw=>
 QG (h pins s σ H D (I.yF _) hw) (λ_ _ q=>q.pV) λ_ _ z=>False.elim z
end
section
variable{X:Cx}{st:Stmt}{rest:List Stmt}{t u:TS}{e:Expr}{te:TE}{pos:Pos}
def Mw:TS:=λD σ H=>D.nx σ H
def NE(t u:TS):TS:=λD σ H=>t {D with nx:=u D} σ H
def aW:zN X [] Mw:=λ_ _ σ H _ I h=>RG ⟨σ,H,I,h⟩
def ae(h1:PS X st t)(h2:zN X rest u):zN X (st::rest) (NE t u):=by
 intro pins s σ H D I h;refine wpAny_execs_cons (dR (h1 pins s σ H {D with nx:=u D} I h) λf s1 q=>?_);cases f with
 |next=>
  obtain⟨σ',H',I',q⟩:=q;exact h2 pins s1 σ' H' D I' q
 |ret v=>exact q
 |brk=>exact q
 |cont=>exact q
def aj(h1:PS X st t):zN X [st] t:=by
 intro pins s σ H D I h;refine wpAny_execs_cons (dR (h1 pins s σ H D I h) λf s1 q=>?_);cases f with
 |next=>exact RG q
 |ret v=>exact q
 |brk=>exact q
 |cont=>exact q
def K2:TS:=λD σ H=>D.bk σ H
def Bv:PS X (.Break pos) K2:=λ_ _ σ H _ I h=>wpAny_Break ⟨σ,H,I,h⟩
def Inv.quiet{pins:List (Addr×Obj)}{σ:St}{H:Hp}{s:Shared}(I:Inv X pins σ H s):interactive X.env=false:=by simp[interactive,I.ok.kind]
def L7(te:TE):TS:=λD σ H=>te σ H λ_ H1=>D.nx σ H1
def aZ(he:PE X e te)(hs:swapsWith e none pos.line X.env=pure false:=by rfl):PS X (.Expr e pos) (L7 te):=by
 intro pins s σ H D I h;exact wpAny_Expr_any (dR (he pins s σ H _ I h) λv s1⟨x,H1,I1,r1,q1⟩=>⟨σ,H1,I1,q1⟩) I.quiet hs
def Nu(te:TE):TS:=λD σ H=>te σ H D.rt
def aF(he:PE X e te):PS X (.Return (some e) pos) (Nu te):=by
 intro pins s σ H D I h;exact wpAny_Return_some (dR (he pins s σ H _ I h) λv s1⟨x,H1,I1,r1,q1⟩=>⟨x,σ,H1,I1,r1,q1⟩)
def Nr(c:TT)(t u:TS):TS:=λD σ H=>c σ H λb H1=>if b=true then t D σ H1 else u D σ H1
def bG{c:Expr}{a b:List Stmt}{tc:TT}(hc:PT X c tc)(ha:zN X a t)(hb:zN X b u):PS X (.If c a b pos) (Nr tc t u):=by
 intro pins s σ H D I h;refine wpAny_If (dR (hc pins s σ H _ I h) λd s1⟨H1,I1,q1⟩=>?_);cases d with
 |true=>exact ha pins s1 σ H1 D I1 q1
 |false=>exact hb pins s1 σ H1 D I1 q1
end
abbrev TG:=V->St->Hp->(St->Hp->Prop)->Prop
abbrev KL:=List V->St->Hp->(St->Hp->Prop)->Prop
def PG(X:Cx)(target:Expr)(t:TG):Prop:=
 ∀(pins:List (Addr×Obj))(s:Shared)(σ:St)(H:Hp)(v:V)(u:Value)(Q:St->Hp->Prop),Inv X pins σ H s->RelV v u->t v σ H Q->
  wpAny (model X.prog X.w) X.A (assign target X.env u) (λ_ s'=>∃σ' H',Inv X pins σ' H' s'/\Q σ' H') X.xe s
def M_(X:Cx)(ts:List Expr)(t:KL):Prop:=
 ∀(pins:List (Addr×Obj))(s:Shared)(σ:St)(H:Hp)(vs:List V)(us:List Value)(Q:St->Hp->Prop),Inv X pins σ H s->Vals vs us->t vs σ H Q->
  wpAny (model X.prog X.w) X.A (assignInOrder ((assignEach ts X.env).map (·.2)) us) (λ_ s'=>∃σ' H',Inv X pins σ' H' s'/\Q σ' H') X.xe s
abbrev KM:=V->V->V->Hp->(Hp->Prop)->Prop
def Mg(X:Cx)(t:KM):Prop:=
 ∀(pins:List (Addr×Obj))(s:Shared)(σ:St)(H:Hp)(o i v:V)(ov iv u:Value)(Q:Hp->Prop),Inv X pins σ H s->RelV o ov->RelV i iv->RelV v u->t o i v H Q->
  wpAny (model X.prog X.w) X.A (setItem ov iv u) (λ_ s'=>∃H',Inv X pins σ H' s'/\Q H') X.xe s
abbrev L8:=V->V->Hp->VK->Prop
def Ma(X:Cx)(op:Operator)(t:L8):Prop:=
 ∀(pins:List (Addr×Obj))(s:Shared)(σ:St)(H:Hp)(x y:V)(v u:Value)(Q:VK),Inv X pins σ H s->RelV x v->RelV y u->t x y H Q->
  wpAny (model X.prog X.w) X.A (inplaceOp op v u) (EP X pins σ Q) X.xe s
section
variable{X:Cx}{pos:Pos}
def zG(i:Nat):TG:=λv σ H Q=>Q (σ.set i (some v)) H
def Ii{i:Nat}{x:Str}(hN:X.N.Nodup)(hi:X.N[i]? =some x)(hx:Loc X.env.scope x)(hf:X.fn x=true\/X.env.scope.names.lookup x=some .local:=by first|exact .inl rfl|exact .inr rfl|assumption):PG X (.Name x pos) (zG i):=by
 intro pins s σ H v u Q I r h;exact wpAny_assign_Name (sL I hN hi hx r (λs' I'=>⟨_,H,I',h⟩) hf)
def NA:KL:=λvs σ H Q=>vs=[]/\Q σ H
def MU(t:TG)(u:KL):KL:=λvs σ H Q=>∃v r,vs=v::r/\t v σ H λσ' H'=>u r σ' H' Q
def qB:M_ X [] NA:=by
 intro pins s σ H vs us Q I r h;obtain⟨e,h⟩:=h;subst e;cases r;exact assignInOrder_nil ⟨σ,H,I,h⟩
def fi{e:Expr}{es:List Expr}{t:TG}{u:KL}(h1:PG X e t)(h2:M_ X es u)
  (hs:(assignEach (e::es) X.env).map (·.2)=assign e X.env::(assignEach es X.env).map (·.2):=by rfl):M_ X (e::es) (MU t u):=by
 intro pins s σ H vs us Q I r h;obtain⟨v,vr,e1,h⟩:=h;subst e1;cases r with
 |cons r rr=>
  rw[hs];refine assignInOrder_cons (dR (h1 pins s σ H _ _ _ I r h) λ_ s1⟨σ1,H1,I1,q1⟩=>?_);exact h2 pins s1 σ1 H1 _ _ Q I1 rr q1
def Nc(K:OX)(n:Nat)(t:KL):TG:=λv σ H Q=>∃a xs,v=.ref a/\iV K H a xs/\xs.length=n/\t xs σ H Q
def um{es:List Expr}{k:Nat}{t:KL}{n:Nat}(hc:X.calm=true)(h:M_ X es t)
  (hn:(assignEach es X.env).length=n:=by rfl)(hst:(assignEach es X.env).findIdx? (·.1)=none:=by rfl):PG X (.Tuple es k pos) (Nc X.K n t):=by
 intro pins s σ H v u Q I r hw;obtain⟨a,xs,e1,hq,hl,hw⟩:=hw;subst e1;cases r;obtain⟨its,rv,ht,hz⟩:=I.tuple hq;refine assign_Tuple_tuple (I.ok.hd hc) ht (by simp[hn,<-hl,rv.length]) hst λh' hx=>?_;have I1:Inv X pins σ H {s with heap:=h'}:=I.kept (t':=s.toks) λb o e=>hx b o (PX (Pf e)) e;exact h pins _ σ H xs _ Q I1 (by simpa using rv) hw
def Nm(to ti:TE)(t:KM):TG:=λv σ H Q=>to σ H λo H1=>ti σ H1 λi H2=>t o i v H2 λH3=>Q σ H3
def xz{o i:Expr}{to ti:TE}{t:KM}(ho:PE X o to)(hi:PE X i ti)(hs:Mg X t)
  (ha:∀v,assign (.Subscript o i pos) X.env v=(do
   let ov<-holding [v] (eval o X.env)
   let iv<-holding [v,ov] (eval i X.env)
   standAt pos
   holding [v,ov,iv] (setItem ov iv v)
   release [v,ov,iv] []):=by intro _;rfl):PG X (.Subscript o i pos) (Nm to ti t):=by
 intro pins s σ H v u Q I r h;rw[ha];refine O4 (RB (dR (ho pins s σ H _ I h) λov s1⟨x,H1,I1,r1,q1⟩=>?_));refine O4 (RB (dR (hi pins s1 σ H1 _ I1 q1) λiv s2⟨y,H2,I2,r2,q2⟩=>?_));refine O4 (QX (O4 (RB (dR (hs pins s2 σ H2 x y v ov iv u _ I2 r1 r2 r q2) λ_ s3⟨H3,I3,q3⟩=>?_))));exact wpAny_release ⟨σ,H3,I3,q3⟩
def HL(te:TE)(g:TG):TS:=λD σ H=>te σ H λx H1=>g x σ H1 D.nx
def yh{tg e:Expr}{te:TE}{g:TG}(he:PE X e te)(hg:PG X tg g)(hs:swapsWithSole [tg] e pos.line X.env=pure false:=by rfl)(hw:swappedStores [tg] e X.env=pure none:=by rfl)
  (h1:(assignEach [tg] X.env).map (·.2)=[assign tg X.env]:=by rfl):PS X (.Assign [tg] e pos) (HL te g):=by
 intro pins s σ H D I h;refine wpAny_Assign_stores (dR (he pins s σ H _ I h) λv s1⟨x,H1,I1,r1,q1⟩=>?_) hs hw;rw[h1];exact dR (hg pins s1 σ H1 x v _ I1 r1 q1) λ_ s2 q=>q
def K_{i:Nat}{x:Str}{e:Expr}{te:TE}{pos':Pos}(hN:X.N.Nodup)(hi:X.N[i]? =some x)(hx:Loc X.env.scope x)(he:PE X e te)(hs:swapsWith e (some (.Name x pos')) pos.line X.env=pure false:=by rfl)(hf:X.fn x=true\/X.env.scope.names.lookup x=some .local:=by first|exact .inl rfl|exact .inr rfl|assumption):
  PS X (.Assign [.Name x pos'] e pos) (HL te (zG i)):=by
 intro pins s σ H D I h;refine wpAny_Assign_Name (dR (he pins s σ H _ I h) λv s1⟨y,H1,I1,r1,q1⟩=>?_) hs;exact sL I1 hN hi hx r1 (λs2 I2=>⟨_,H1,I2,q1⟩) hf
def MM(i:Nat)(te:TE)(ti:L8):TS:=λD σ H=>∃x,σ[i]? =some (some x)/\te σ H λy H1=>ti x y H1 λz H2=>D.nx (σ.set i (some z)) H2
def KW{i:Nat}{x:Str}{e:Expr}{te:TE}{op:Operator}{ti:L8}{pos':Pos}(hN:X.N.Nodup)(hi:X.N[i]? =some x)(hx:Loc X.env.scope x)(he:PE X e te)(ho:Ma X op ti)(hf:X.fn x=true\/X.env.scope.names.lookup x=some .local:=by first|exact .inl rfl|exact .inr rfl|assumption):
  PS X (.AugAssign (.Name x pos') op e pos) (MM i te ti):=by
 intro pins s σ H D I h;obtain⟨v,e1,h⟩:=h;obtain⟨m,hn,hl⟩:=I.loc;have vis:LC X.env.scope x:=by rcases hx with k|k;exact .inl k;exact .inr (.inl k)
 obtain⟨u,r,l⟩:=hl i x v hi e1 vis;refine wpAny_AugAssign_Name ?_;have go:wpAny (model X.prog X.w) X.A (eval e X.env) (λw s₂=>wpAny (model X.prog X.w) X.A (inplaceOp op u w) (λr s₃=>wpAny (model X.prog X.w) X.A (storeName X.env x r) (λ_=>SP X pins D .next) X.xe s₃) X.xe s₂) X.xe s:=by
  refine dR (he pins s σ H _ I h) λw s1⟨y,H1,I1,r1,q1⟩=>?_;refine dR (ho pins s1 σ H1 v y u w _ I1 r r1 q1) λz s2⟨zv,H2,I2,r2,q2⟩=>?_;exact sL I2 hN hi hx r2 (λs3 I3=>⟨_,H2,I3,q2⟩) hf
 rcases l with⟨hk,hm⟩|⟨hk,c,hc,hcell⟩
 ·exact wpAny_loadName_local I.ok.kind hk hn hm go
 ·rcases hk with hk|hk
  ·exact wpAny_loadName_cell I.ok.kind hk hc hcell go
  ·rcases hx with k|k
   ·have:X.env.scope.names.lookup x=some .free:=hk
    rw[k]at this;cases this
   ·have:X.env.scope.names.lookup x=some .free:=hk
    rw[k]at this;cases this
def Ot(f:Int->Int->Int):L8:=λx y H Q=>∃i j,x=.int i/\y=.int j/\Q (.int (f i j)) H
def t7:Ma X .Add (Ot λi j=>i+j):=by
 intro pins s σ H x y v u Q I r1 r2 h;obtain⟨i,j,e1,e2,q⟩:=h;subst e1;subst e2;obtain⟨t,rfl⟩:=r1;obtain⟨t',rfl⟩:=r2;exact iadd_int ⟨.int _,H,I.tok _,⟨_,rfl⟩,q⟩
def Gb:Ma X .Sub (Ot λi j=>i-j):=by
 intro pins s σ H x y v u Q I r1 r2 h;obtain⟨i,j,e1,e2,q⟩:=h;subst e1;subst e2;obtain⟨t,rfl⟩:=r1;obtain⟨t',rfl⟩:=r2;exact isub_int ⟨.int _,H,I.tok _,⟨_,rfl⟩,q⟩
end
section
variable{X:Cx}{pos:Pos}
def Ls(c:TT)(tb:TS):TS:=λD σ H=>∃W:Nat->St->Hp->Prop,(∃m,W m σ H)/\∀m σ H,W m σ H->
 c σ H λb H1=>if b=true then∃N:St->Hp->Prop,(∀σ' H',N σ' H'->∃m',m'<m/\W m' σ' H')/\tb {D with nx:=N,ct:=N,bk:=D.nx} σ H1 else D.nx σ H1
def jF{c:Expr}{body:List Stmt}{tc:TT}{tb:TS}(hp:PassesOwn (model X.prog X.w) X.A X.env X.xe)(hc:PT X c tc)(hb:zN X body tb):PS X (.While c body [] pos) (Ls tc tb):=by
 intro pins s σ H D I h;obtain⟨W,⟨m0,w0⟩,turn⟩:=h;refine wpAny_While (codeAny_whileLoop (λn s'=>∃σ' H',Inv X pins σ' H' s'/\W n σ' H') ?_ m0 ⟨σ,H,I,w0⟩)
 rintro n s1 ⟨σ1,H1,I1,w1⟩
 refine Q3 hp (dR (hc pins s1 σ1 H1 _ I1 (turn n σ1 H1 w1)) λb s2⟨H2,I2,q2⟩=>?_);cases b with
 |true=>
  obtain⟨N,hN,q2⟩:=q2;rw[OW rfl];refine Q3 hp (dR (hb pins s2 σ1 H2 _ I2 q2) λf s3 q3=>?_);cases f with
  |next=>
   obtain⟨σ3,H3,I3,n3⟩:=q3;obtain⟨m',hm,w3⟩:=hN σ3 H3 n3;exact⟨m',hm,σ3,H3,I3,w3⟩
  |cont=>
   obtain⟨σ3,H3,I3,n3⟩:=q3;obtain⟨m',hm,w3⟩:=hN σ3 H3 n3;exact⟨m',hm,σ3,H3,I3,w3⟩
  |brk=>exact q3
  |ret v=>exact q3
 |false=>
  rw[OV O3];exact RG ⟨σ1,H2,I2,q2⟩
end
structure It where
 go:Nat->Hp->Prop
 FA:Nat->Hp->V->Hp->Prop
 stop:Nat->Hp->Prop
def vL(X:Cx)(pins:List (Addr×Obj))(H:Hp)(b:Addr):Prop:=
 H b=none/\b≠X.env.locals/\b∉X.fs/\(b∈X.ex\/X.vI.heap.objs.size<=b)/\(∀x c,X.env.cells.lookup x=some c->c≠b)/\∀p∈X.pn++pins,p.1≠b
def Inv.B7{X:Cx}{pins:List (Addr×Obj)}{σ:St}{H H':Hp}{s:Shared}{b:Addr}(I:Inv X pins σ H s)(hb:s.heap.objs.size<=b)(hn:H' b=none):vL X pins H' b:=by
 refine⟨hn,Rs (PJ I.lt hb),I.N5 hb,.inr (PD I.sz hb),λx c e z=>?_,λp hp z=>?_⟩
 ·obtain⟨v,q⟩:=I.cell x c e
  exact absurd (PJ q.lt (by rw[z];exact hb)) (Qw _)
 ·exact absurd (PJ (Pf (I.pin p hp).1) (by rw[z];exact hb)) (Qw _)
structure Turn(P:PN)(w:World)(K:OX)(tg:Expr)(J:It)(fp:List Addr)(it:Addr)(tn:Nat->Heap->Prop):Prop where
 mem:it∈fp
 obj:∀i h,tn i h->∀b∈fp,∃o,h.get? b=some o/\∀v,o.data≠.cell v
 keep:∀i h h',tn i h->(∀b∈fp,∀o,h.get? b=some o->h'.get? b=some o)->tn i h'
 item:∀(X:Cx),X.prog=P->X.w=w->X.K=K->X.calm=true->∀(i:Nat)(pins:List (Addr×Obj))(s:Shared)(σ:St)(H:Hp)(E:Value->Shared->Prop),Inv X pins σ H s->(∀b∈fp,vL X pins H b)->tn i s.heap->J.go i H->
  wpAny (model P w) X.A (pyNext (.ref it)) (λr s1=>∃u,r=some u/\
   wpAny (model P w) X.A (letOwnedTupleGo tg (.ref it) u) (λ_ s2=>∃x H',Inv X pins σ H' s2/\RelV x u/\J.FA i H x H'/\tn (i+1) s2.heap/\∀b∈fp,H' b=none) E s1) E s
 done:∀(X:Cx),X.prog=P->X.w=w->X.K=K->X.calm=true->∀(i:Nat)(pins:List (Addr×Obj))(s:Shared)(σ:St)(H:Hp)(E:Value->Shared->Prop),Inv X pins σ H s->(∀b∈fp,vL X pins H b)->tn i s.heap->J.stop i H->
  wpAny (model P w) X.A (pyNext (.ref it)) (λr s1=>r=none/\Inv X pins σ H s1) E s
 self:∀(A:Around)(i:Nat)(s:Shared)(Q:Value->Shared->Prop)(E:Value->Shared->Prop),tn i s.heap->Q (.ref it) s->wpAny (model P w) A (pyIter (.ref it)) Q E s
abbrev TI:=St->Hp->(It->Hp->Prop)->Prop
def Nh(X:Cx)(pins:List (Addr×Obj))(σ:St)(tg:Expr)(R:It->Hp->Prop)(itv:Value)(s2:Shared):Prop:=
 ∃(it:Addr)(fp:List Addr)(tn:Nat->Heap->Prop)(J:It)(H':Hp),itv=.ref it/\Inv X pins σ H' s2/\Turn X.prog X.w X.K tg J fp it tn/\tn 0 s2.heap/\(∀b∈fp,vL X pins H' b)/\R J H'
def PI(X:Cx)(tg iter:Expr)(wi:TI):Prop:=
 ∀(pins:List (Addr×Obj))(s:Shared)(σ:St)(H:Hp)(R:It->Hp->Prop),Inv X pins σ H s->wi σ H R->
  wpAny (model X.prog X.w) X.A (eval iter X.env) (λv s1=>wpAny (model X.prog X.w) X.A (pyIter v) (Nh X pins σ tg R) X.xe s1) X.xe s
def El{M:Model}{A:Around}{E:Value->Shared->Prop}{s:Shared}{tg:Expr}{it:Addr}{u:Value}{o:Obj}{n:String}{vs:Array Value}{Q:Unit->Shared->Prop}(ho:s.heap.get? it=some o)(hc:o.cls=.type n)(hd:o.data=.fields vs)
  (hn:["enumerate","zip","dict_itemiterator","dict_reverseitemiterator","odict_iterator","itertools.zip_longest","itertools.pairwise"].contains n=false)(hQ:Q () s):wpAny M A (letOwnedTupleGo tg (.ref it) u) Q E s:=by
 unfold letOwnedTupleGo;cases tg<;>first
  |exact PM hQ
  |(cases u<;>first
    |exact PM hQ
    |(refine O4 (wpAny_load ho ?_)
      rw[hc,hd];show wpAny M A (if(["enumerate","zip","dict_itemiterator","dict_reverseitemiterator","odict_iterator","itertools.zip_longest","itertools.pairwise"].contains n&&vs[0]? ==some (rawInt _))=true then _ else _) Q E s;rw[OV (by intro h;rw[hn,Bool.false_and]at h;cases h)];exact PM hQ))
def De(K:OX)(a:Addr):It:=
 ⟨λi H=>∃xs x,a0 K H a xs/\xs[i]? =some x,λi H x H'=>H'=H/\∀xs,a0 K H a xs->xs[i]? =some x,λi H=>∃xs,a0 K H a xs/\xs.length<=i⟩
def LN(K:OX)(a:Addr):It:=
 ⟨λi H=>∃xs x,iV K H a xs/\xs[i]? =some x,λi H x H'=>H'=H/\∀xs,iV K H a xs->xs[i]? =some x,λi H=>∃xs,iV K H a xs/\xs.length<=i⟩
def EN(lo:Int)(n:Nat):It:=⟨λi _=>i<n,λi H x H'=>H'=H/\x=.int (lo+i),λi _=>n<=i⟩
def Fh{P:PN}{w:World}{K:OX}{tg:Expr}(a it:Addr):Turn P w K tg (De K a) [it] it (λi h=>h.IsListIter it a i) where
 mem:=by simp
 obj:=λi h st b hb=>by
  have e:b=it:=by simpa using hb
  subst e;obtain⟨o,e,c,d⟩:=st;exact⟨o,e,λv z=>by rw[d]at z;cases z⟩
 keep:=λi h h' st k=>st.at λo e=>k it (by simp) o e
 item:=by
  intro X hP hw hK hc i pins s σ H E I hf st hg;subst hP hw hK;obtain⟨xs,x,hq,hx⟩:=hg;obtain⟨its,rv,p,hz⟩:=I.list hq;obtain⟨u,hu,ru⟩:=rv.get hx;obtain⟨f0,f1,f2,f3,f4,f5⟩:=hf it (by simp);refine wpAny_pyNext_list_item st p.isList (x:=u) (by simpa using hu) λh' st' sb=>?_;have I1:Inv X pins σ H {s with heap:=h'}:=I.turned (t':=s.toks) (λb o hb e=>(sb.2 b hb).trans e) f0 f1 f3 f4 f5;obtain⟨o,e,c,d⟩:=id st';exact⟨u,rfl,El (s:={s with heap:=h'}) e c d (by decide) ⟨x,H,I1,ru,⟨rfl,λys hy=>by rw[I.tM hy hq];exact hx⟩,st',λb hb=>(hf b hb).1⟩⟩
 done:=by
  intro X hP hw hK hc i pins s σ H E I hf st hg;subst hP hw hK;obtain⟨xs,hq,hx⟩:=hg;obtain⟨its,rv,p,hz⟩:=I.list hq;obtain⟨f0,f1,f2,f3,f4,f5⟩:=hf it (by simp);have hl:=rv.length;exact wpAny_pyNext_list_end (I.ok.hd hc) st p.isList (by simp;omega) λh' eb=>⟨rfl,I.turned (t':=s.toks) (λb o hb e=>eb b o hb e) f0 f1 f3 f4 f5⟩
 self:=λ_ _ _ _ _ st h=>wpAny_pyIter_listiter st h
def C5{P:PN}{w:World}{K:OX}{tg:Expr}(a it:Addr):Turn P w K tg (LN K a) [it] it (λi h=>h.IsTupleIter it a i) where
 mem:=by simp
 obj:=λi h st b hb=>by
  have e:b=it:=by simpa using hb
  subst e;obtain⟨o,e,c,d⟩:=st;exact⟨o,e,λv z=>by rw[d]at z;cases z⟩
 keep:=λi h h' st k=>st.at λo e=>k it (by simp) o e
 item:=by
  intro X hP hw hK hc i pins s σ H E I hf st hg;subst hP hw hK;obtain⟨xs,x,hq,hx⟩:=hg;obtain⟨its,rv,p,hz⟩:=I.tuple hq;obtain⟨u,hu,ru⟩:=rv.get hx;obtain⟨f0,f1,f2,f3,f4,f5⟩:=hf it (by simp);refine wpAny_pyNext_tuple_item st (show s.heap.IsTuple a its.toArray from p) (x:=u) (by simpa using hu) λh' st' sb=>?_;have I1:Inv X pins σ H {s with heap:=h'}:=I.turned (t':=s.toks) (λb o hb e=>(sb.2 b hb).trans e) f0 f1 f3 f4 f5;obtain⟨o,e,c,d⟩:=id st';exact⟨u,rfl,El (s:={s with heap:=h'}) e c d (by decide) ⟨x,H,I1,ru,⟨rfl,λys hy=>by rw[I.EU hy hq];exact hx⟩,st',λb hb=>(hf b hb).1⟩⟩
 done:=by
  intro X hP hw hK hc i pins s σ H E I hf st hg;subst hP hw hK;obtain⟨xs,hq,hx⟩:=hg;obtain⟨its,rv,p,hz⟩:=I.tuple hq;obtain⟨f0,f1,f2,f3,f4,f5⟩:=hf it (by simp);have hl:=rv.length;exact wpAny_pyNext_tuple_end (I.ok.hd hc) st (show s.heap.IsTuple a its.toArray from p) (by simp;omega) λh' eb=>⟨rfl,I.turned (t':=s.toks) (λb o hb e=>eb b o hb e) f0 f1 f3 f4 f5⟩
 self:=λ_ _ _ _ _ st h=>wpAny_pyIter_tupleiter st h
def CI{P:PN}{w:World}{K:OX}{tg:Expr}(it:Addr)(lo:Int)(n:Nat):Turn P w K tg (EN lo n) [it] it (λi h=>IsRangeIter h it (lo+(i:Nat)*1) ((n:Int)-(i:Nat)) 1) where
 mem:=by simp
 obj:=λi h st b hb=>by
  have e:b=it:=by simpa using hb
  subst e;exact⟨_,st,λv z=>by
   have z':Data.fields _=Data.cell v:=z;cases z'⟩
 keep:=λi h h' st k=>k it (by simp) _ st
 item:=by
  intro X hP hw hK hc i pins s σ H E I hf st hg;subst hP hw hK;obtain⟨f0,f1,f2,f3,f4,f5⟩:=hf it (by simp);have W:=Walks.range (prog:=X.prog) (w:=X.w) (I.ok.hd hc) it lo 1 n;refine W.item i s _ _ hg st λv h' tk hv st' kk=>?_;obtain⟨t,rfl⟩:=hv;have I1:Inv X pins σ H {s with heap:=h',toks:=tk}:=I.turned (λb o hb e=>kk b o (by simpa using hb) e) f0 f1 f3 f4 f5;refine⟨_,rfl,El (s:={s with heap:=h',toks:=tk}) (n:="range_iterator") st' rfl rfl (by decide) ⟨.int (lo+i),H,I1,⟨t,?_⟩,⟨rfl,rfl⟩,st',λb hb=>(hf b hb).1⟩⟩;rw[Int.mul_one]
 done:=by
  intro X hP hw hK hc i pins s σ H E I hf st hg;subst hP hw hK;obtain⟨f0,f1,f2,f3,f4,f5⟩:=hf it (by simp);exact wpAny_pyNext_range_end (I.ok.hd hc) st (by have:n<=i:=hg;omega) λh' eb=>⟨rfl,I.turned (t':=s.toks) (λb o hb e=>eb b o hb e) f0 f1 f3 f4 f5⟩
 self:=λ_ _ _ _ _ st h=>wpAny_pyIter_rangeiter st h
section
variable{X:Cx}{tg:Expr}
def Mq(K:OX)(tl:TE):TI:=λσ H R=>tl σ H λx H1=>∃a,x=.ref a/\(∃xs,a0 K H1 a xs)/\R (De K a) H1
def ND(K:OX)(tl:TE):TI:=λσ H R=>tl σ H λx H1=>∃a,x=.ref a/\(∃xs,iV K H1 a xs)/\R (LN K a) H1
def cP{l:Expr}{tl:TE}(hl:PE X l tl):PI X tg l (Mq X.K tl):=by
 intro pins s σ H R I h;refine dR (hl pins s σ H _ I h) λv s1⟨x,H1,I1,r1,q1⟩=>?_;obtain⟨a,e,⟨xs,hq⟩,q⟩:=q1;subst e;cases r1;obtain⟨its,rv,p,hz⟩:=I1.list hq;refine wpAny_pyIter_list p.isList ?_;refine⟨s1.heap.objs.size,[s1.heap.objs.size],_,_,H1,rfl,I1.kept (t':=s1.toks) λb o e=>Pr _ e,Fh a _,⟨_,PZ _ rfl,rfl,rfl⟩,λb hb=>?_,q⟩;have e:b=s1.heap.objs.size:=by simpa using hb
 subst e;exact I1.B7 (OZ _) (I1.cH.fresh (OZ _))
def KH{l:Expr}{tl:TE}(hl:PE X l tl):PI X tg l (ND X.K tl):=by
 intro pins s σ H R I h;refine dR (hl pins s σ H _ I h) λv s1⟨x,H1,I1,r1,q1⟩=>?_;obtain⟨a,e,⟨xs,hq⟩,q⟩:=q1;subst e;cases r1;obtain⟨its,rv,p,hz⟩:=I1.tuple hq;refine wpAny_pyIter_tuple (show s1.heap.IsTuple a its.toArray from p) ?_;refine⟨s1.heap.objs.size,[s1.heap.objs.size],_,_,H1,rfl,I1.kept (t':=s1.toks) λb o e=>Pr _ e,C5 a _,⟨_,PZ _ rfl,rfl,rfl⟩,λb hb=>?_,q⟩;have e:b=s1.heap.objs.size:=by simpa using hb
 subst e;exact I1.B7 (OZ _) (I1.cH.fresh (OZ _))
def GY{pins:List (Addr×Obj)}{σ:St}{H:Hp}{s:Shared}{R:It->Hp->Prop}{E:Value->Shared->Prop}{lo hi:Int}{t u v:Tok}{tk:Nat}(I:Inv X pins σ H s)(h1: -(2^62)<=lo)(h2:lo<2^62)(h3: -(2^62)<=hi)(h4:hi<2^62)
  (q:R (EN lo (hi-lo).toNat) H):wpAny (model X.prog X.w) X.A (pyIter (.ref s.heap.objs.size)) (Nh X pins σ tg R) E {s with heap:=s.heap.push {cls:= .type "range",data:= .fields #[.int lo t,.int hi u,.int 1 v]},toks:=tk}:=by
 refine wpAny_pyIter_range (IsRange.new ..) (small_one h1 h2 h3 h4) ?_;have I1:Inv X pins σ H {s with heap:=s.heap.push {cls:= .type "range",data:= .fields #[.int lo t,.int hi u,.int 1 v]},toks:=tk}:=I.kept λb o e=>Pr _ e;refine⟨(s.heap.push {cls:= .type "range",data:= .fields #[.int lo t,.int hi u,.int 1 v]}).objs.size,[(s.heap.push {cls:= .type "range",data:= .fields #[.int lo t,.int hi u,.int 1 v]}).objs.size],_,_,H,rfl,
  I1.kept (t':=tk) λb o e=>Pr _ e,CI _ lo (hi-lo).toNat,?_,λb hb=>?_,q⟩
 ·have e1:lo+((0:Nat):Int)*1=lo:=by simp
  have e2:(((hi-lo).toNat:Nat):Int)-((0:Nat):Int)=Builtin.Range.rangeSize lo hi 1:=by rw[rangeSize_one];split<;>omega
  show IsRangeIter _ _ (lo+((0:Nat):Int)*1) ((((hi-lo).toNat:Nat):Int)-((0:Nat):Int)) 1;rw[e1,e2];exact PZ _ rfl
 ·have e:b=(s.heap.push {cls:= .type "range",data:= .fields #[.int lo t,.int hi u,.int 1 v]}).objs.size:=by simpa using hb
  subst e;exact I1.B7 (OZ _) (I1.cH.fresh (OZ _))
def MT(ta:TA):TI:=λσ H R=>ta σ H λvs H1=>∃j:Int,vs=[.int j]/\ -(2^62)<=j/\j<2^62/\R (EN 0 j.toNat) H1
def dP{a:Expr}{ta:TA}{p pos:Pos}(hg:Gl X "range")(hm:X.mg "range"=none)(ha:PA X [a] ta)(hs:starEach [a] X.env=[(false,eval a X.env)]:=by rfl):PI X tg (.Call (.Name "range" p) [a] [] pos) (MT ta):=by
 intro pins s σ H R I h;refine Call_ (ud I hg hm boot_range (QM (dR (ha pos pins s σ H _ I h) λus s1⟨vs,H1,I1,r1,q1⟩=>?_) hs rfl));obtain⟨j,e,q1,q2,q⟩:=q1;subst e;cases r1 with
 |cons r rr=>
  cases rr;obtain⟨t,rfl⟩:=r;exact call_range_1 (GY I1 (by omega) (by omega) q1 q2 (by simpa using q))
def Oe(wi:TI)(g:TG)(tb:TS):TS:=λD σ H=>wi σ H λJ H1=>∃W:Nat->Nat->St->Hp->Prop,(∃m,W 0 m σ H1)/\∀i m σ H,W i m σ H->
 (J.stop i H/\D.nx σ H)\/(J.go i H/\∃N:St->Hp->Prop,(∀σ' H',N σ' H'->∃m',m'<m/\W (i+1) m' σ' H')/\∀x H',J.FA i H x H'->g x σ H' λσ2 H2=>tb {D with nx:=N,ct:=N,bk:=D.nx} σ2 H2)
def wp(fp:List Addr)(h:Heap):List (Addr×Obj):=fp.filterMap λb=>(h.get? b).map λo=>(b,o)
def rP{fp:List Addr}{h:Heap}{b:Addr}{o:Obj}(hb:b∈fp)(e:h.get? b=some o):(b,o)∈wp fp h:=QS.mpr ⟨b,hb,by rw[e];rfl⟩
def Fl{fp:List Addr}{h:Heap}{p:Addr×Obj}(hp:p∈wp fp h):p.1∈fp/\h.get? p.1=some p.2:=by
 obtain⟨b,hb,e⟩:=QS.mp hp;cases q:h.get? b with
 |none=>rw[q]at e;cases e
 |some o=>
  rw[q]at e;have e':(b,o)=p:=Pu e;subst e';exact⟨hb,q⟩
def Inv.pinned{pins:List (Addr×Obj)}{σ:St}{H:Hp}{s:Shared}{fp:List Addr}(I:Inv X pins σ H s)(hf:∀b∈fp,vL X pins H b)(ho:∀b∈fp,∃o,s.heap.get? b=some o/\∀v,o.data≠.cell v):Inv X (pins++wp fp s.heap) σ H s:=
 I.DC λp hp=>(Pk.mp hp).elim (λz=>I.pin p (Qu _ z)) λz=>by
  obtain⟨hb,e⟩:=Fl z;obtain⟨f0,f1,f2,_⟩:=hf p.1 hb;obtain⟨o,e',d⟩:=ho p.1 hb;rw[e]at e';cases e';exact⟨e,f0,f1,f2,d⟩
def Inv.sm{pins pl:List (Addr×Obj)}{σ:St}{H:Hp}{s:Shared}(I:Inv X (pins++pl) σ H s):Inv X pins σ H s:=I.DC λp hp=>I.pin p (Qu _ (Qq _ hp))
def dL{iter:Expr}{body:List Stmt}{wi:TI}{g:TG}{tb:TS}{pos:Pos}(hp:PassesOwn (model X.prog X.w) X.A X.env X.xe)(hc:X.calm=true)(hi:PI X tg iter wi)(hg:PG X tg g)(hb:zN X body tb)
  (hs:∀x,foldedSetIterable iter X.env x=pure x:=by intro _;rfl):PS X (.For tg iter body [] pos) (Oe wi g tb):=by
 intro pins s σ H D I h;refine wpAny_For (dR (hi pins s σ H _ I h) λv s1 h1=>dR h1 λitv s2 h2=>?_) hs;obtain⟨it,fp,tn,J,H2,e,I2,T,st2,f2,W,⟨m0,w0⟩,turn⟩:=h2;subst e;have stat:∀{H':Hp},(∀b∈fp,H' b=none)->∀b∈fp,vL X pins H' b:=λhn b hb=>⟨hn b hb,(f2 b hb).2⟩;refine codeAny_forLoop_any (λn s'=>∃i σ' H',Inv X pins σ' H' s'/\tn i s'.heap/\(∀b∈fp,H' b=none)/\W i n σ' H') ?_ m0 ⟨0,σ,H2,I2,st2,λb hb=>(f2 b hb).1,w0⟩
 rintro n s3 ⟨i,σ3,H3,I3,st3,fr3,w3⟩
 rcases turn i n σ3 H3 w3 with⟨stop,qn⟩|⟨go,N,hN,step⟩
 ·refine Q3 hp (dR (T.done X rfl rfl rfl hc i pins s3 σ3 H3 X.xe I3 (stat fr3) st3 stop) λr s4⟨hr,I4⟩=>?_)
  subst hr;exact RG ⟨σ3,H3,I4,qn⟩
 ·refine Q3 hp (dR (T.item X rfl rfl rfl hc i pins s3 σ3 H3 X.xe I3 (stat fr3) st3 go) λr s4⟨u,hr,h4⟩=>?_)
  subst hr;refine Q3 hp (dR h4 λ_ s5⟨x,H5,I5,r5,y5,st5,fr5⟩=>?_);have I5':=I5.pinned (stat fr5) (T.obj _ _ st5);refine Q3 hp (dR (hg _ s5 σ3 H5 x u _ I5' r5 (step x H5 y5)) λ_ s6⟨σ6,H6,I6,q6⟩=>?_);refine Q3 hp (dR (hb _ s6 σ6 H6 _ I6 q6) λf s7 q7=>?_);have again:∀{σ7:St}{H7:Hp},Inv X (pins++wp fp s5.heap) σ7 H7 s7->N σ7 H7->∃m,m<n/\∃i σ' H',Inv X pins σ' H' s7/\tn i s7.heap/\(∀b∈fp,H' b=none)/\W i m σ' H':=λ{σ7 H7} I7 n7=>by
   obtain⟨m',hm,w7⟩:=hN σ7 H7 n7;refine⟨m',hm,i+1,σ7,H7,I7.sm,T.keep _ _ _ st5 λb hb o e=>(I7.pin (b,o) (Qu _ (Qu _ (rP hb e)))).1,λb hb=>?_,w7⟩;obtain⟨o,e,d⟩:=T.obj _ _ st5 b hb;exact(I7.pin (b,o) (Qu _ (Qu _ (rP hb e)))).2.1
  cases f with
  |next=>obtain⟨σ7,H7,I7,n7⟩:=q7;exact again I7 n7
  |cont=>obtain⟨σ7,H7,I7,n7⟩:=q7;exact again I7 n7
  |brk=>obtain⟨σ7,H7,I7,q7⟩:=q7;exact⟨σ7,H7,I7.sm,q7⟩
  |ret v=>obtain⟨x7,σ7,H7,I7,r7,q7⟩:=q7;exact⟨x7,σ7,H7,I7.sm,r7,q7⟩
end
def gm{K:OX}{a:Addr}{xs:List V}{g:TG}{tb:TS}{D:Ends}{σ:St}{H:Hp}(Pv:Nat->St->Hp->Prop)(h0:Pv 0 σ H)(hl:∀i σ H,i<=xs.length->Pv i σ H->a0 K H a xs)
  (hs:∀i x σ H,xs[i]? =some x->Pv i σ H->g x σ H λσ2 H2=>tb {D with nx:=Pv (i+1),ct:=Pv (i+1),bk:=D.nx} σ2 H2)(hd:∀σ H,Pv xs.length σ H->D.nx σ H):
  ∃W:Nat->Nat->St->Hp->Prop,(∃m,W 0 m σ H)/\∀i m σ H,W i m σ H->
   ((De K a).stop i H/\D.nx σ H)\/((De K a).go i H/\∃N:St->Hp->Prop,(∀σ' H',N σ' H'->∃m',m'<m/\W (i+1) m' σ' H')/\∀x H',(De K a).FA i H x H'->g x σ H' λσ2 H2=>tb {D with nx:=N,ct:=N,bk:=D.nx} σ2 H2):=by
 refine⟨λi m σ H=>m=xs.length-i/\i<=xs.length/\Pv i σ H,⟨xs.length,by simp,P4 _,h0⟩,?_⟩
 rintro i m σ H ⟨rfl,hi,p⟩
 have q:=hl i σ H hi p
 by_cases hlt:i<xs.length
 ·refine .inr ⟨⟨xs,xs[i],q,by simp[hlt]⟩,Pv (i+1),λσ' H' p'=>⟨xs.length-(i+1),by omega,rfl,hlt,p'⟩,λx H' y=>?_⟩
  obtain⟨e,y⟩:=y;subst e;exact hs i x σ _ (y xs q) p
 ·have e:i=xs.length:=by omega
  subst e;exact .inl ⟨⟨xs,q,OZ _⟩,hd σ H p⟩
def Iy{K:OX}{a:Addr}{xs:List V}{g:TG}{tb:TS}{D:Ends}{σ:St}{H:Hp}(Pv:Nat->St->Hp->Prop)(h0:Pv 0 σ H)(hl:∀i σ H,i<=xs.length->Pv i σ H->iV K H a xs)
  (hs:∀i x σ H,xs[i]? =some x->Pv i σ H->g x σ H λσ2 H2=>tb {D with nx:=Pv (i+1),ct:=Pv (i+1),bk:=D.nx} σ2 H2)(hd:∀σ H,Pv xs.length σ H->D.nx σ H):
  ∃W:Nat->Nat->St->Hp->Prop,(∃m,W 0 m σ H)/\∀i m σ H,W i m σ H->
   ((LN K a).stop i H/\D.nx σ H)\/((LN K a).go i H/\∃N:St->Hp->Prop,(∀σ' H',N σ' H'->∃m',m'<m/\W (i+1) m' σ' H')/\∀x H',(LN K a).FA i H x H'->g x σ H' λσ2 H2=>tb {D with nx:=N,ct:=N,bk:=D.nx} σ2 H2):=by
 refine⟨λi m σ H=>m=xs.length-i/\i<=xs.length/\Pv i σ H,⟨xs.length,by simp,P4 _,h0⟩,?_⟩
 rintro i m σ H ⟨rfl,hi,p⟩
 have q:=hl i σ H hi p
 by_cases hlt:i<xs.length
 ·refine .inr ⟨⟨xs,xs[i],q,by simp[hlt]⟩,Pv (i+1),λσ' H' p'=>⟨xs.length-(i+1),by omega,rfl,hlt,p'⟩,λx H' y=>?_⟩
  obtain⟨e,y⟩:=y;subst e;exact hs i x σ _ (y xs q) p
 ·have e:i=xs.length:=by omega
  subst e;exact .inl ⟨⟨xs,q,OZ _⟩,hd σ H p⟩
def nj{lo:Int}{n:Nat}{g:TG}{tb:TS}{D:Ends}{σ:St}{H:Hp}(Pv:Nat->St->Hp->Prop)(h0:Pv 0 σ H)
  (hs:∀i σ H,i<n->Pv i σ H->g (.int (lo+i)) σ H λσ2 H2=>tb {D with nx:=Pv (i+1),ct:=Pv (i+1),bk:=D.nx} σ2 H2)(hd:∀σ H,Pv n σ H->D.nx σ H):
  ∃W:Nat->Nat->St->Hp->Prop,(∃m,W 0 m σ H)/\∀i m σ H,W i m σ H->
   ((EN lo n).stop i H/\D.nx σ H)\/((EN lo n).go i H/\∃N:St->Hp->Prop,(∀σ' H',N σ' H'->∃m',m'<m/\W (i+1) m' σ' H')/\∀x H',(EN lo n).FA i H x H'->g x σ H' λσ2 H2=>tb {D with nx:=N,ct:=N,bk:=D.nx} σ2 H2):=by
 refine⟨λi m σ H=>m=n-i/\i<=n/\Pv i σ H,⟨n,by simp,P4 _,h0⟩,?_⟩
 rintro i m σ H ⟨rfl,hi,p⟩
 by_cases hlt:i<n
 ·refine .inr ⟨hlt,Pv (i+1),λσ' H' p'=>⟨n-(i+1),by omega,rfl,hlt,p'⟩,λx H' y=>?_⟩
  obtain⟨e,y⟩:=y;subst e y;exact hs i σ _ hlt p
 ·have e:i=n:=by omega
  subst e;exact .inl ⟨OZ _,hd σ H p⟩
abbrev R2:=V->V->Hp->VK->Prop
def vq(X:Cx)(f:Value->Value->Sem Value)(r:R2):Prop:=
 ∀(pins:List (Addr×Obj))(s:Shared)(σ:St)(H:Hp)(x y:V)(v u:Value)(Q:VK),Inv X pins σ H s->RelV x v->RelV y u->r x y H Q->
  wpAny (model X.prog X.w) X.A (f v u) (EP X pins σ Q) X.xe s
def Og(X:Cx)(f:Value->Sem Value)(r:V->Hp->VK->Prop):Prop:=
 ∀(pins:List (Addr×Obj))(s:Shared)(σ:St)(H:Hp)(x:V)(v:Value)(Q:VK),Inv X pins σ H s->RelV x v->r x H Q->
  wpAny (model X.prog X.w) X.A (f v) (EP X pins σ Q) X.xe s
def nE(X:Cx)(f:Value)(r:List V->Hp->VK->Prop):Prop:=
 ∀(pins:List (Addr×Obj))(s:Shared)(σ:St)(H:Hp)(xs:List V)(us:List Value)(Q:VK),Inv X pins σ H s->Vals xs us->r xs H Q->
  wpAny (model X.prog X.w) X.A (call f us) (EP X pins σ Q) X.xe s
def M8(r:R2)(ta tb:TE):TE:=λσ H Q=>ta σ H λx H1=>tb σ H1 λy H2=>r x y H2 Q
def OG(r:V->Hp->VK->Prop)(ta:TE):TE:=λσ H Q=>ta σ H λx H1=>r x H1 Q
def rI(C:Int->Int->Prop)(g:Int->Int->V):R2:=λx y H Q=>∃i j,x=.int i/\y=.int j/\C i j/\Q (g i j) H
def Jx(g:Int->Int->V):R2:=λx y H Q=>∃i j,x=.int i/\y=.int j/\Q (g i j) H
def rU(g:Int->V):V->Hp->VK->Prop:=λx H Q=>∃i,x=.int i/\Q (g i) H
section
variable{X:Cx}{a b c:Expr}{ta tb tc:TE}{pos:Pos}
def Lo(ha:PE X a ta)(hb:PE X b tb){pins:List (Addr×Obj)}{s:Shared}{σ:St}{H:Hp}{R:V->V->Hp->Prop}(I:Inv X pins σ H s)
  (h:ta σ H λx H1=>tb σ H1 λy H2=>R x y H2){Q:Value->Shared->Prop}{f:Value->Value->Sem Value}
  (hf:∀v u s2 x y H2,Inv X pins σ H2 s2->RelV x v->RelV y u->R x y H2->wpAny (model X.prog X.w) X.A (f v u) Q X.xe s2):
  wpAny (model X.prog X.w) X.A (eval a X.env) (λv s₁=>wpAny (model X.prog X.w) X.A (eval b X.env) (λu s₂=>wpAny (model X.prog X.w) X.A (f v u) Q X.xe s₂) X.xe s₁) X.xe s:=by
 refine dR (ha pins s σ H _ I h) λv s1⟨x,H1,I1,r1,q1⟩=>?_;refine dR (hb pins s1 σ H1 _ I1 q1) λu s2⟨y,H2,I2,r2,q2⟩=>?_;exact hf v u s2 x y H2 I2 r1 r2 q2
def bz{op:Operator}{r:R2}(ho:vq X (binaryOp op) r)(ha:PE X a ta)(hb:PE X b tb):PE X (.BinOp a op b pos) (M8 r ta tb):=by
 intro pins s σ H Q I h;exact wpAny_BinOp (Lo ha hb I h λv u s2 x y H2 I2 rx ry q=>ho pins s2 σ H2 x y v u Q I2 rx ry q)
def oB{op:UnaryOp}{r:V->Hp->VK->Prop}(ho:Og X (unaryOp op) r)(ha:PE X a ta):PE X (.UnaryOp op a pos) (OG r ta):=by
 intro pins s σ H Q I h;exact UnaryOp_ (dR (ha pins s σ H _ I h) λv s1⟨x,H1,I1,r1,q1⟩=>ho pins s1 σ H1 x v Q I1 r1 q1)
def Oj{f:Value->Value->Sem Value}{C:Int->Int->Prop}{g:Int->Int->Int}
  (rule:∀(i j:Int)(t u:Tok)(s:Shared)(Q:Value->Shared->Prop)(E:Value->Shared->Prop),C i j->Q (.int (g i j) s.toks) {s with toks:=s.toks+1}->wpAny (model X.prog X.w) X.A (f (.int i t) (.int j u)) Q E s):
  vq X f (rI C λi j=>.int (g i j)):=by
 intro pins s σ H x y v u Q I rx ry h;obtain⟨i,j,rfl,rfl,hc,q⟩:=h;obtain⟨t,rfl⟩:=rx;obtain⟨t',rfl⟩:=ry;exact rule i j t t' s _ _ hc ⟨.int (g i j),H,I.tok _,⟨_,rfl⟩,q⟩
def J9{f:Value->Value->Sem Value}{g:Int->Int->Int}
  (rule:∀(i j:Int)(t u:Tok)(s:Shared)(Q:Value->Shared->Prop)(E:Value->Shared->Prop),Q (.int (g i j) s.toks) {s with toks:=s.toks+1}->wpAny (model X.prog X.w) X.A (f (.int i t) (.int j u)) Q E s):
  vq X f (Jx λi j=>.int (g i j)):=by
 intro pins s σ H x y v u Q I rx ry h;obtain⟨i,j,rfl,rfl,q⟩:=h;obtain⟨t,rfl⟩:=rx;obtain⟨t',rfl⟩:=ry;exact rule i j t t' s _ _ ⟨.int (g i j),H,I.tok _,⟨_,rfl⟩,q⟩
def Jf{f:Value->Value->Sem Value}{g:Int->Int->Bool}
  (rule:∀(i j:Int)(t u:Tok)(s:Shared)(Q:Value->Shared->Prop)(E:Value->Shared->Prop),Q (.bool (g i j)) s->wpAny (model X.prog X.w) X.A (f (.int i t) (.int j u)) Q E s):
  vq X f (Jx λi j=>.bl (g i j)):=by
 intro pins s σ H x y v u Q I rx ry h;obtain⟨i,j,rfl,rfl,q⟩:=h;obtain⟨t,rfl⟩:=rx;obtain⟨t',rfl⟩:=ry;exact rule i j t t' s _ _ ⟨.bl (g i j),H,I,rfl,q⟩
def Ni(i j:Int):Prop:=0<j/\j<1073741824
def Lg(i j:Int):Prop:=(-(2^64)<i/\i<2^64)\/(-(2^64)<j/\j<2^64)
def Lg.ok{i j:Int}(h:Lg i j):IntMulOk i j:=by
 rcases h with⟨h1,h2⟩|⟨h1,h2⟩
 ·exact .of_left (intBits_le_64 h1 h2)
 ·exact .of_right (intBits_le_64 h1 h2)
def gN:vq X (binaryOp .Add) (Jx λi j=>.int (i+j)):=J9 λ_ _ _ _ _ _ _ q=>add_int q
def nZ:vq X (binaryOp .Sub) (Jx λi j=>.int (i-j)):=J9 λ_ _ _ _ _ _ _ q=>sub_int q
def pR:vq X (binaryOp .Mult) (rI Lg λi j=>.int (i*j)):=Oj λ_ _ _ _ _ _ _ hc q=>mul_int q hc.ok
def Ek:vq X (binaryOp .FloorDiv) (rI Ni λi j=>.int (i/j)):=Oj λi j _ _ _ _ _ hc q=>by
 have h1:(0:Int)<j:=hc.1;have h2:j<1073741824:=hc.2;exact floordiv_int (by omega) (by rw[Int.fdiv_eq_ediv_of_nonneg i (by omega)];exact q) (.inl (PyProof.noPylong_small (by omega)))
def Hu:vq X (binaryOp .Mod) (rI (λ_ j=>0<j) λi j=>.int (i%j)):=Oj λi j _ _ _ _ _ hc q=>by
 have h1:(0:Int)<j:=hc;exact mod_int' (by omega) (by rw[Int.fmod_eq_emod_of_nonneg i (by omega)];exact q)
def Lf:vq X (binaryOp .BitAnd) (Jx λi j=>.int (Builtin.bitAnd i j)):=J9 λ_ _ _ _ _ _ _ q=>and_int q
def OJ{f:Value->Sem Value}{g:Int->Int}
  (rule:∀(i:Int)(t:Tok)(s:Shared)(Q:Value->Shared->Prop)(E:Value->Shared->Prop),Q (.int (g i) s.toks) {s with toks:=s.toks+1}->wpAny (model X.prog X.w) X.A (f (.int i t)) Q E s):
  Og X f (rU λi=>.int (g i)):=by
 intro pins s σ H x v Q I rx h;obtain⟨i,rfl,q⟩:=h;obtain⟨t,rfl⟩:=rx;exact rule i t s _ _ ⟨.int (g i),H,I.tok _,⟨_,rfl⟩,q⟩
def jY:Og X (unaryOp .USub) (rU λi=>.int (-i)):=OJ λ_ _ _ _ _ q=>neg_int q
end
def Me:V->V->Bool
 |.eC,.eC=>true|.eC,.int _=>true|.int _,.eC=>true|.eC,.bl _=>true|.bl _,.eC=>true|.eC,.str _=>true|.str _,.eC=>true
 |.int _,.int _=>true|.bl _,.bl _=>true|.str _,.str _=>true|.Bc _,.Bc _=>true
 |.int _,.str _=>true|.str _,.int _=>true|.bl _,.str _=>true|.str _,.bl _=>true
 |_,_=>false
def OT:R2:=λx y H Q=>Me x y=true/\Q (.bl (decide (x=y))) H
def OL:R2:=λx y H Q=>Me x y=true/\Q (.bl (!decide (x=y))) H
def g9{i j:Int}:decide (V.int i=V.int j)=(i==j):=by
 rw[Qg];simp
def HA{i j:Bool}:decide (V.bl i=V.bl j)=(i==j):=by
 rw[Qg];simp
def Di{i j:Str}:decide (V.str i=V.str j)=(i==j):=by
 rw[Qg];simp
def Dm{i j:Array UInt8}:decide (V.Bc i=V.Bc j)=(i.toList==j.toList):=by
 rw[Qg];cases i;cases j;simp
section
variable{X:Cx}{a b c:Expr}{ta tb tc:TE}{pos:Pos}
def cg{pins:List (Addr×Obj)}{σ:St}{H:Hp}{s:Shared}{Q:VK}{k k':Bool}(I:Inv X pins σ H s)(q:Q (.bl k) H)(e:k=k'):EP X pins σ Q (.bool k') s:=by
 subst e;exact⟨.bl k,H,I,rfl,q⟩
def bQ:vq X (compareOp .Eq) OT:=by
 intro pins s σ H x y v u Q I rx ry h;obtain⟨hs,q⟩:=h;cases x with
 |eC=>
  cases rx;cases y with
  |eC=>cases ry;exact PySem.EqNone.eq_none_none (cg I q (by simp))
  |bl j=>cases ry;exact PySem.EqNone.eq_none_bool (cg I q (by simp))
  |int j=>obtain⟨t',rfl⟩:=ry;exact PySem.EqNone.eq_none_int (cg I q (by simp))
  |str j=>obtain⟨t',rfl⟩:=ry;exact PySem.EqNone.eq_none_str (cg I q (by simp))
  |_=>exact absurd (show false=true from hs) O3
 |bl i=>
  cases rx;cases y with
  |eC=>cases ry;exact PySem.EqNone.eq_bool_none (cg I q (by simp))
  |bl j=>cases ry;exact eq_bool (cg I q HA)
  |str j=>obtain⟨t',rfl⟩:=ry;exact PySem.EqMixed.eq_bool_str (cg I q (by simp))
  |_=>exact absurd (show false=true from hs) O3
 |int i=>
  obtain⟨t,rfl⟩:=rx;cases y with
  |eC=>cases ry;exact PySem.EqNone.eq_int_none (cg I q (by simp))
  |int j=>obtain⟨t',rfl⟩:=ry;exact eq_int (cg I q g9)
  |str j=>obtain⟨t',rfl⟩:=ry;exact PySem.EqMixed.eq_int_str (cg I q (by simp))
  |_=>exact absurd (show false=true from hs) O3
 |str i=>
  obtain⟨t,rfl⟩:=rx;cases y with
  |eC=>cases ry;exact PySem.EqNone.eq_str_none (cg I q (by simp))
  |bl j=>cases ry;exact PySem.EqMixed.eq_str_bool (cg I q (by simp))
  |int j=>obtain⟨t',rfl⟩:=ry;exact PySem.EqMixed.eq_str_int (cg I q (by simp))
  |str j=>obtain⟨t',rfl⟩:=ry;exact eq_str (cg I q Di)
  |_=>exact absurd (show false=true from hs) O3
 |Bc i=>
  obtain⟨t,rfl⟩:=rx;cases y with
  |Bc j=>obtain⟨t',rfl⟩:=ry;exact PySem.W.eq_bytes (cg I q Dm)
  |_=>exact absurd (show false=true from hs) O3
 |_=>cases y<;>exact absurd (show false=true from hs) O3
def Dy:vq X (compareOp .NotEq) OL:=by
 intro pins s σ H x y v u Q I rx ry h;obtain⟨hs,q⟩:=h;cases x with
 |eC=>
  cases rx;cases y with
  |eC=>cases ry;exact PySem.EqNone.ne_none_none (cg I q (by simp))
  |bl j=>cases ry;exact PySem.EqNone.ne_none_bool (cg I q (by simp))
  |int j=>obtain⟨t',rfl⟩:=ry;exact PySem.EqNone.ne_none_int (cg I q (by simp))
  |str j=>obtain⟨t',rfl⟩:=ry;exact PySem.EqNone.ne_none_str (cg I q (by simp))
  |_=>exact absurd (show false=true from hs) O3
 |bl i=>
  cases rx;cases y with
  |eC=>cases ry;exact PySem.EqNone.ne_bool_none (cg I q (by simp))
  |bl j=>cases ry;exact ne_bool (cg I q (P_ not HA))
  |str j=>obtain⟨t',rfl⟩:=ry;exact PySem.EqMixed.ne_bool_str (cg I q (by simp))
  |_=>exact absurd (show false=true from hs) O3
 |int i=>
  obtain⟨t,rfl⟩:=rx;cases y with
  |eC=>cases ry;exact PySem.EqNone.ne_int_none (cg I q (by simp))
  |int j=>obtain⟨t',rfl⟩:=ry;exact ne_int (cg I q (P_ not g9))
  |str j=>obtain⟨t',rfl⟩:=ry;exact PySem.EqMixed.ne_int_str (cg I q (by simp))
  |_=>exact absurd (show false=true from hs) O3
 |str i=>
  obtain⟨t,rfl⟩:=rx;cases y with
  |eC=>cases ry;exact PySem.EqNone.ne_str_none (cg I q (by simp))
  |bl j=>cases ry;exact PySem.EqMixed.ne_str_bool (cg I q (by simp))
  |int j=>obtain⟨t',rfl⟩:=ry;exact PySem.EqMixed.ne_str_int (cg I q (by simp))
  |str j=>obtain⟨t',rfl⟩:=ry;exact ne_str (cg I q (P_ not Di))
  |_=>exact absurd (show false=true from hs) O3
 |Bc i=>
  obtain⟨t,rfl⟩:=rx;cases y with
  |Bc j=>obtain⟨t',rfl⟩:=ry;exact PySem.W.ne_bytes (cg I q (P_ not Dm))
  |_=>exact absurd (show false=true from hs) O3
 |_=>cases y<;>exact absurd (show false=true from hs) O3
def uD:vq X (compareOp .Lt) (Jx λi j=>.bl (decide (i<j))):=Jf λ_ _ _ _ _ _ _ q=>lt_int q
def yp:vq X (compareOp .LtE) (Jx λi j=>.bl (decide (i<=j))):=Jf λ_ _ _ _ _ _ _ q=>le_int q
def oJ:vq X (compareOp .Gt) (Jx λi j=>.bl (decide (j<i))):=Jf λ_ _ _ _ _ _ _ q=>gt_int q
def zV:vq X (compareOp .GtE) (Jx λi j=>.bl (decide (j<=i))):=Jf λ_ _ _ _ _ _ _ q=>ge_int q
def aJ(b:Expr){op:CmpOp}(h:op≠.In:=by decide)(h2:op≠.NotIn:=by decide):behindInMarks op b=false:=by
 have e1:(op==CmpOp.In)=false:=by cases op<;>first|rfl|exact absurd rfl h
 have e2:(op==CmpOp.NotIn)=false:=by cases op<;>first|rfl|exact absurd rfl h2
 cases b<;>simp[behindInMarks,e1,e2]
def dY{op:CmpOp}{r:R2}(ho:vq X (compareOp op) r)(ha:PE X a ta)(hb:PE X b tb)(hm:behindInMarks op b=false):PE X (.Compare a [op] [b] pos) (M8 r ta tb):=by
 intro pins s σ H Q I h;exact wpAny_Compare1 (Lo ha hb I h λv u s2 x y H2 I2 rx ry q=>ho pins s2 σ H2 x y v u Q I2 rx ry q) hm
def J4(t:TE):TT:=λσ H Q=>t σ H λx H'=>∃k,x=.bl k/\Q k H'
def aI{op:CmpOp}{r:R2}(ho:vq X (compareOp op) r)(ha:PE X a ta)(hb:PE X b tb)(hm:behindInMarks op b=false):PT X (.Compare a [op] [b] pos) (J4 (M8 r ta tb)):=by
 intro pins s σ H Q I h;refine wpAny_isTrue_Compare1 (dR (ha pins s σ H _ I h) λv s1⟨x,H1,I1,r1,q1⟩=>dR (hb pins s1 σ H1 _ I1 q1) λu s2⟨y,H2,I2,r2,q2⟩=>
  dR (ho pins s2 σ H2 x y v u _ I2 r1 r2 q2) λc s3⟨z,H3,I3,r3,k,e,q3⟩=>?_) hm
 subst e;cases r3;exact QF ⟨H3,I3,q3⟩
def Lc(r r':R2)(ta tb tc:TE):TE:=λσ H Q=>ta σ H λx H1=>tb σ H1 λy H2=>r x y H2 λz H3=>∃k,z=.bl k/\
 (if k=true then tc σ H3 λw' H4=>r' y w' H4 Q else Q (.bl false) H3)
def tK{op op':CmpOp}{r r':R2}(ho:vq X (compareOp op) r)(ho':vq X (compareOp op') r')(ha:PE X a ta)(hb:PE X b tb)(hc:PE X c tc)
  (hm:lastMarks [op,op'] [b,c]=false:=by with_unfolding_all rfl):PT X (.Compare a [op,op'] [b,c] pos) (J4 (Lc r r' ta tb tc)):=by
 intro pins s σ H Q I h;refine isTrue_chain (dR (ha pins s σ H _ I h) λv s1⟨x,H1,I1,r1,q1⟩=>test_link (dR (hb pins s1 σ H1 _ I1 q1) λu s2⟨y,H2,I2,r2,q2⟩=>
  dR (ho pins s2 σ H2 x y v u _ I2 r1 r2 q2) λd s3⟨z,H3,I3,r3,k,e,q3⟩=>?_)) hm
 subst e;cases r3;refine QF ?_;cases k with
 |false=>
  obtain⟨k',e',q'⟩:=q3;cases e';exact ite_ff ⟨H3,I3,q'⟩
 |true=>
  refine ite_tt (test_last (dR (hc pins s3 σ H3 _ I3 q3) λw' s4⟨z',H4,I4,r4,q4⟩=>dR (ho' pins s4 σ H4 y z' u w' _ I4 r2 r4 q4) λd' s5⟨z2,H5,I5,r5,k2,e2,q5⟩=>?_));subst e2;cases r5;exact QF ⟨H5,I5,q5⟩
def tZ:(sizeLine:Nat)<2^63:=by rw[O2];decide
def dB:vq X (binaryOp .Add) (λx y H Q=>∃i j,x=.str i/\y=.str j/\i.length+j.length<=sizeLine/\Q (.str (i++j)) H):=by
 intro pins s σ H x y v u Q I rx ry h;obtain⟨i,j,rfl,rfl,hz,q⟩:=h;obtain⟨t,rfl⟩:=rx;obtain⟨t',rfl⟩:=ry;exact add_str (λt' tk=>⟨.str (i++j),H,I.tok _,⟨_,rfl⟩,q⟩) hz
def vals1{x:V}{us:List Value}(r:Vals [x] us):∃u,us=[u]/\RelV x u:=by
 cases r with
 |cons r1 r2=>cases r2;exact⟨_,rfl,r1⟩
def vals2{x y:V}{us:List Value}(r:Vals [x,y] us):∃u w',us=[u,w']/\RelV x u/\RelV y w':=by
 cases r with
 |cons r1 r2=>
  cases r2 with
  |cons r3 r4=>cases r4;exact⟨_,_,rfl,r1,r3⟩
def zp(hc:X.calm=true):nE X (.builtin "max") (λxs H Q=>∃i j,xs=[.int i,.int j]/\Q (.int (if j>i then j else i)) H):=by
 intro pins s σ H xs us Q I r h;obtain⟨i,j,rfl,q⟩:=h;obtain⟨u,w',rfl,⟨t,rfl⟩,⟨t',rfl⟩⟩:=vals2 r;refine max_two_ints (I.ok.hd hc) λh' tk k=>⟨_,H,I.kept k,?_,q⟩
 by_cases hj:j>i
 ·rw[OW hj,OW hj];exact⟨_,rfl⟩
 ·rw[OV hj,OV hj];exact⟨_,rfl⟩
def zT(hc:X.calm=true):nE X (.builtin "min") (λxs H Q=>∃i j,xs=[.int i,.int j]/\Q (.int (if j<i then j else i)) H):=by
 intro pins s σ H xs us Q I r h;obtain⟨i,j,rfl,q⟩:=h;obtain⟨u,w',rfl,⟨t,rfl⟩,⟨t',rfl⟩⟩:=vals2 r;refine min_two_ints (I.ok.hd hc) λh' tk k=>⟨_,H,I.kept k,?_,q⟩
 by_cases hj:j<i
 ·rw[OW hj,OW hj];exact⟨_,rfl⟩
 ·rw[OV hj,OV hj];exact⟨_,rfl⟩
def oa:nE X (.type "str") (λxs H Q=>∃i,xs=[.int i]/\i.natAbs.log2<1920/\Q (.str (toString i)) H):=by
 intro pins s σ H xs us Q I r h;obtain⟨i,rfl,hz,q⟩:=h;obtain⟨u,rfl,t,rfl⟩:=vals1 r;exact PySem.P.str_of_int hz ⟨.str _,H,I.tok _,⟨_,rfl⟩,q⟩
def B9:nE X (.builtin "ord") (λxs H Q=>∃x,xs=[.str x]/\x.length=1/\Q (.int (x.cps.getD 0 0:Nat)) H):=by
 intro pins s σ H xs us Q I r h;obtain⟨x,rfl,hz,q⟩:=h;obtain⟨u,rfl,t,rfl⟩:=vals1 r;exact ord_of_one hz ⟨.int _,H,I.tok _,⟨_,rfl⟩,q⟩
end
structure C_(h:Heap)(x dx C:Addr)(mA:Str->Option Value):Prop where
 obj:h.get? x=some (PySem.W.instObj C dx)
 ns:h.Ns1 dx mA
 ne:dx≠x
def tY{h:Heap}{dx:Addr}{mA:Str->Option Value}(n:h.Ns1 dx mA):∃od,h.get? dx=some od/\∀name,PySem.W.lookIn name od=some (mA name):=by
 obtain⟨o,es,ep,ho,hd,hk,_,hm⟩:=n;refine⟨o,ho,λname=>?_⟩;have e:=hm name;unfold nsFind findBy at e;rw[<-Array.find?_toList]at e;unfold PySem.W.lookIn;rw[hd];dsimp only;split
 ·rename_i y q
  rw[q]at e;exact P_ some e
 ·rename_i q
  rw[q]at e;have a:es.toList.any (·.refKey)=false:=by
   rw[QL];intro y hy;obtain⟨z,t,hkey⟩:=hk y (Array.mem_toList_iff.mp hy);simp[DictEntry.refKey,hkey]
  have a':¬es.toList.any (·.refKey)=true:=by rw[a];exact O3
  rw[OV a'];exact P_ some e
def C_.look{h:Heap}{x dx C:Addr}{mA:Str->Option Value}(I:C_ h x dx C mA):∃od,PySem.W.InstAt h x (PySem.W.instObj C dx) C (some od)/\∀name,PySem.W.lookIn name od=some (mA name):=
 let⟨od,ho,hl⟩:=tY I.ns
 ⟨od,⟨I.obj,rfl,rfl,ho⟩,hl⟩
section
variable{prog:PN}{w:World}{A:Around}{E:Value->Shared->Prop}{s:Shared}{K:OX}{x dx C f:Addr}{mA:Str->Option Value}{name:Str}{v:Value}
def get_map{expr:Bool}{Q:Value->Shared->Prop}(X:K.In s.heap)(I:C_ s.heap x dx C mA)(hg:PySem.W.plainGet K C name=true)(hh:PySem.W.hasDictIn K C=true)
  (ha:PySem.W.findIn K (.ref C) name=some none)(hv:mA name=some v)(hv':PySem.W.handedIn v=true)(h:Q v {s with toks:=s.toks+1}):
  wpAny (model prog w) A (getAttr (.ref x) name expr) Q E s:=by
 obtain⟨od,J,hl⟩:=I.look;exact PySem.W.get_value X J (PySem.W.plainGet_of hg).1 (PySem.W.findObj_own hh ha rfl (by rw[hl,hv])) hv' h
def GK{pl:Sem Bool}{Q:Value×List Value->Shared->Prop}(X:K.In s.heap)(I:C_ s.heap x dx C mA)(hg:PySem.W.plainGet K C name=true)
  (hf:PySem.W.findIn K (.ref C) name=some (some (.ref f)))(ht:PySem.W.isFn K (.ref f)=true)(hv:mA name=none)(h:Q (.ref f,[.ref x]) s):
  wpAny (model prog w) A (getMethod (.ref x) name pl) Q E s:=by
 obtain⟨od,J,hl⟩:=I.look;exact PySem.W.method_fn X J (PySem.W.plainGet_of hg).1 (PySem.W.plainGet_of hg).2 hf (Qj.mp ht) (by show(PySem.W.lookIn name od).map (·.isSome)=some false;rw[hl,hv];rfl) h
def IR{ns:List Str}{Q:Unit->Shared->Prop}(X:K.In s.heap)(I:C_ s.heap x dx C mA)
  (hs:PySem.W.findIn K (.ref C) "__setattr__"=some (some (.builtin "object.__setattr__")))(hp:PySem.W.plainOver K C=true)(ht:PySem.W.takerIn K C name=some none)(hh:PySem.W.hasDictIn K C=true)
  (hw:PySem.Within mA ns)(hsz:ns.length<=sizeLine)
  (h:∀h',C_ h' x dx C (λy=>if y=name then some v else mA y)->Heap.SameBut dx s.heap h'->Q () {s with heap:=h',toks:=s.toks+2}):
  wpAny (model prog w) A (setAttr (.ref x) name v) Q E s:=by
 obtain⟨od,J,hl⟩:=I.look;refine PySem.W.set_plain X J hs (PySem.W.osa_open (s:={s with toks:=s.toks+1}) (r:=none) X J hp ht λb=>?_);obtain⟨cd,hc,hd'⟩:=PySem.W.any_some hh;have hx:s.heap.get? x=some ⟨.ref C,some dx,.plain,#[]⟩:=I.obj;refine O4 (PM (O4 (O4 (wpAny_loadPart hx (O4 (PySem.W.Looks.here (s:={s with toks:=s.toks+1}) (RD X hc) ?_))))));rw[hd'];refine PM (a:=some dx) (O4 (PM (O4 ?_)));refine wpAny_nsSet1 (s:={s with toks:=s.toks+1}) I.ns λh' hn2 hs2=>?_;obtain⟨oD,esD,epD,hoD,hdD,hcD⟩:=hn2.count (PySem.Within.cons name v hw);refine O4 (wpAny_lookBehind hoD (by rw[hdD];exact pastItsLine_dict (PD hcD (by rw[Pt];omega))) ?_);exact PM (h _ ⟨(hs2.2 _ (Pb I.ne)).trans I.obj,hn2,I.ne⟩ hs2)
def Hf{R:Result->Shared->Prop}{vs:List Value}{kw:List (Str×Value)}(X:K.In s.heap)(hm:PySem.W.makesIn K C=true)
  (hi:PySem.W.findIn K (.ref C) "__init__"=some (some (.ref f)))(hf:PySem.W.typeIn K (.ref f)=some (.type "function"))
  (h:codeAny (model prog w) (A.under (.builtin "type.__call__" ⟨.ref C::vs,kw⟩)) (.call (.ref f) ⟨.ref (s.heap.objs.size+1)::vs,kw⟩) (PySem.W.InitBack (s.heap.objs.size+1) R)
   {s with heap:=(s.heap.push PySem.W.emptyDict).push (PySem.W.instObj C s.heap.objs.size)}):
  codeAny (model prog w) A (.call (.ref C) ⟨vs,kw⟩) R s:=by
 obtain⟨hh,g,d,t,os⟩:=s;exact PySem.W.make_core (PySem.W.makes_of X hm) (Rw X hi) (λself=>PySem.W.bind_fn X self hf) (.inl rfl) h
end
def cj(f:Str)(v:V):List (Str×V)->List (Str×V)
 |[]=>[(f,v)]
 |(g,x)::r=>if g=f then(g,v)::r else(g,x)::cj f v r
def pO(f g:Str)(v:V):∀fs:List (Str×V),(cj f v fs).lookup g=if g=f then some v else fs.lookup g
 |[]=>by
  show List.lookup g [(f,v)]=_
  by_cases h:g=f
  ·have hb:(g==f)=true:=Qj.mpr h
   simp only[List.lookup,hb,OW h]
  ·have hb:(g==f)=false:=Rj.mpr h
   simp only[List.lookup,hb,OV h]
 |(k,x)::r=>by
  have ih:=pO f g v r;rw[show cj f v ((k,x)::r)=(if k=f then(k,v)::r else(k,x)::cj f v r)from rfl]
  by_cases hk:k=f
  ·rw[OW hk]
   by_cases h:g=k
   ·have hb:(g==k)=true:=Qj.mpr h
    simp only[List.lookup,hb,OW (h.trans hk)]
   ·have hb:(g==k)=false:=Rj.mpr h
    simp only[List.lookup,hb,OV (λe:g=f=>h (e.trans hk.symm))]
  ·rw[OV hk]
   by_cases h:g=k
   ·have hb:(g==k)=true:=Qj.mpr h
    simp only[List.lookup,hb,OV (λe:g=f=>hk (h.symm.trans e))]
   ·have hb:(g==k)=false:=Rj.mpr h
    simp only[List.lookup,hb];exact ih
def nk(f:Str)(v:V):∀fs:List (Str×V),f∈(cj f v fs).map (·.1)/\∀g,g∈fs.map (·.1)->g∈(cj f v fs).map (·.1)
 |[]=>⟨by simp[cj],λg h=>by simp at h⟩
 |(k,x)::r=>by
  obtain⟨i1,i2⟩:=nk f v r;rw[show cj f v ((k,x)::r)=(if k=f then(k,v)::r else(k,x)::cj f v r)from rfl]
  by_cases hk:k=f
  ·rw[OW hk]
   subst hk;exact⟨by simp,λg h=>by simpa using h⟩
  ·rw[OV hk]
   refine⟨?_,λg h=>?_⟩
   ·rw[PY]
    exact Pa _ i1
   ·rw[PY]at h ⊢
    rcases Po.mp h with e|e
    ·exact Po.mpr (.inl e)
    ·exact Pa _ (i2 g e)
def ph(f:Str)(v:V):∀fs:List (Str×V),(cj f v fs).length<=fs.length+1
 |[]=>by simp[cj]
 |(k,x)::r=>by
  have ih:=ph f v r;rw[show cj f v ((k,x)::r)=(if k=f then(k,v)::r else(k,x)::cj f v r)from rfl]
  by_cases hk:k=f
  ·rw[OW hk,Pt,Pt];omega
  ·rw[OV hk,Pt,Pt];omega
def qJ.some_of{v:V}{o:Option Value}(r:qJ (some v) o):∃u,o=some u/\RelV v u:=by
 cases o with
 |none=>exact(show False from r).elim
 |some u=>exact⟨u,rfl,r⟩
def qJ.none_of{o:Option Value}(r:qJ none o):o=none:=by
 cases o with
 |none=>rfl
 |some u=>exact(show False from r).elim
def z5{v:V}{u:Value}(r:RelV v u):PySem.W.handedIn u=true:=by
 cases v with
 |eC=>cases(show u=Value.none from r);rfl
 |bl b=>cases(show u=Value.bool b from r);rfl
 |int i=>obtain⟨t,e⟩:=(show∃t,u=Value.int i t from r);cases e;rfl
 |str x=>obtain⟨t,e⟩:=(show∃t,u=Value.str x t from r);cases e;rfl
 |Bc b=>obtain⟨t,e⟩:=(show∃t,u=Value.bytes b t from r);cases e;rfl
 |flt b=>obtain⟨t,e⟩:=(show∃t,u=Value.float b t from r);cases e;rfl
 |ref a=>cases(show u=Value.ref a from r);rfl
 |ty n=>cases(show u=Value.type n from r);rfl
section
variable{P:PN}{w:World}{H H':Hp}{h h':Heap}{a C dx:Addr}{fs fs':List (Str×V)}
def AW(cH:lW P w H h)(e:H a=some (.ins C dx fs)):∃mA,C_ h a dx C mA/\(∀f,qJ (fs.lookup f) (mA f))/\PySem.Within mA (fs.map (·.1))/\fs.length<=1000/\H dx=some (.own a):=by
 obtain⟨d,z,ne,ob,mA,n,r,q⟩:=(show dI P w H h a (.ins C dx fs)from cH a _ e);exact⟨mA,⟨ob,n,ne⟩,r,q,z,d⟩
end
structure GO(K:OX)(C:Addr):Prop where
 pg:PySem.W.plainGet K C Str.empty=true
 hd:PySem.W.hasDictIn K C=true
 po:PySem.W.plainOver K C=true
 sa:PySem.W.findIn K (.ref C) "__setattr__"=some (some (.builtin "object.__setattr__"))
def GO.get{K:OX}{C:Addr}(c:GO K C)(f:Str):PySem.W.plainGet K C f=true:=c.pg
def aP(K:OX)(C:Addr)(f:Str):Prop:=PySem.W.findIn K (.ref C) f=some none
def aP.LP{K:OX}{C:Addr}{f:Str}(n:aP K C f):PySem.W.takerIn K C f=some none:=by
 unfold PySem.W.takerIn;rw[show PySem.W.findIn K (.ref C) f=some none from n];rfl
structure Meth(K:OX)(C:Addr)(m:Str)(f:Addr):Prop where
 at_:PySem.W.findIn K (.ref C) m=some (some (.ref f))
 fn:PySem.W.isFn K (.ref f)=true
 kp:PySem.W.keepIn K (.ref f)=true
section
variable{X:Cx}{pins:List (Addr×Obj)}{σ:St}{H:Hp}{s:Shared}{a C dx:Addr}{fs:List (Str×V)}{f:Str}{v:V}{A:Around}{E:Value->Shared->Prop}
def wq{b:Bool}{Q:Value->Shared->Prop}(I:Inv X pins σ H s)(e:H a=some (.ins C dx fs))(c:GO X.K C)(n:aP X.K C f)(l:fs.lookup f=some v)
  (h:∀u s',Inv X pins σ H s'->RelV v u->Q u s'):wpAny (model X.prog X.w) A (getAttr (.ref a) f b) Q E s:=by
 obtain⟨mA,O,r,_,_,_⟩:=AW I.cH e;obtain⟨u,hu,ru⟩:=qJ.some_of (v:=v) (o:=mA f) (by rw[<-l];exact r f);exact get_map I.qY O (c.get f) c.hd n hu (z5 ru) (h u _ (I.tok _) ru)
def xf{m:Str}{g:Addr}{pl:Sem Bool}{Q:Value×List Value->Shared->Prop}(I:Inv X pins σ H s)(e:H a=some (.ins C dx fs))(c:GO X.K C)(k:Meth X.K C m g)(l:fs.lookup m=none)
  (h:Q (.ref g,[.ref a]) s):wpAny (model X.prog X.w) A (getMethod (.ref a) m pl) Q E s:=by
 obtain⟨mA,O,r,_,_,_⟩:=AW I.cH e;have hn:mA m=none:=qJ.none_of (by rw[<-l];exact r m);exact GK I.qY O (c.get m) k.at_ k.fn hn h
def yE{y:V}{u:Value}{Q:Unit->Shared->Prop}(I:Inv X pins σ H s)(e:H a=some (.ins C dx fs))(c:GO X.K C)(n:aP X.K C f)(hl:fs.length<1000)(ry:RelV y u)
  (h:∀s',Inv X pins σ (upd H a (.ins C dx (cj f y fs))) s'->Q () s'):wpAny (model X.prog X.w) A (setAttr (.ref a) f u) Q E s:=by
 obtain⟨mA,O,r,wi,_,ho⟩:=AW I.cH e;have hz:(fs.map (·.1)).length<=sizeLine:=by rw[OU,O2];omega
 refine IR I.qY O c.sa c.po n.LP c.hd wi hz λh' O' sb=>h _ ?_;have hd:∃o,h'.get? dx=some o:=let⟨o,_,_,e',_⟩:=O'.ns;⟨o,e'⟩;refine I.write (x:=a) (e:=dx) (by rw[e];exact True.intro) (.inr ho) (λb q hb z=>(sb.2 b hb).trans z) hd ?_;refine⟨by rw[ak O.ne];exact ho,?_,O.ne,O'.obj,_,O'.ns,λg=>?_,λg hg=>?_⟩
 ·have:=ph f y fs;omega
 ·show qJ ((cj f y fs).lookup g) (if g=f then some u else mA g)
  rw[pO]
  by_cases q:g=f
  ·rw[OW q,OW q];exact ry
  ·rw[OV q,OV q];exact r g
 ·by_cases q:g=f
  ·rw[q];exact(nk f y fs).1
  ·refine(nk f y fs).2 g (wi g λz=>hg ?_)
   show(if g=f then some u else mA g)=none;rw[OV q];exact z
def Inv.made(I:Inv X pins σ H s):Inv X pins σ (upd (upd H s.heap.objs.size (.own (s.heap.objs.size+1))) (s.heap.objs.size+1) (.ins C s.heap.objs.size []))
  {s with heap:=(s.heap.push PySem.W.emptyDict).push (PySem.W.instObj C s.heap.objs.size)}:=by
 have e1:(s.heap.push PySem.W.emptyDict).get? s.heap.objs.size=some PySem.W.emptyDict:=PZ s.heap rfl;have e2:((s.heap.push PySem.W.emptyDict).push (PySem.W.instObj C s.heap.objs.size)).get? (s.heap.objs.size+1)=some (PySem.W.instObj C s.heap.objs.size):=by
  have:=PZ (s.heap.push PySem.W.emptyDict) (o:=PySem.W.instObj C s.heap.objs.size) rfl;rwa[Qz]at this
 have e3:(s.heap.push PySem.W.emptyDict).Ns s.heap.objs.size (λ_=>none):=⟨PySem.W.emptyDict,#[],_,e1,rfl,(λe he=>absurd he (by simp)),λ_=>rfl⟩;have I1:=I.laid (a:=s.heap.objs.size) (o:= .own (s.heap.objs.size+1)) (h':=s.heap.push PySem.W.emptyDict) (t':=s.toks) (λb u q=>Pr _ q) (OZ _) ⟨_,e1⟩;refine I1.laid (a:=s.heap.objs.size+1) (o:= .ins C s.heap.objs.size []) (t':=s.toks) (λb u q=>Pr _ q) (Nat.le_of_eq (Qz _ _)) ?_;have ne:s.heap.objs.size≠s.heap.objs.size+1:=PX (Nat.lt_succ_self _);refine⟨by rw[ak ne,ai],P4 _,ne,e2,λ_=>none,(Heap.Ns1.of_empty e3).at λo q=>Pr _ q,λ_=>True.intro,λy hy=>absurd rfl hy⟩
def Dq{prog:PN}{w:World}{env:Env}{e:Expr}{f:Str}{pos:Pos}{s:Shared}{Q:Value->Shared->Prop}(hb:attributeBase e f env (eval e env)=eval e env)
  (h:wpAny (model prog w) A (eval e env) (λo s₁=>wpAny (model prog w) A (getAttr o f true) Q E s₁) E s):wpAny (model prog w) A (eval (.Attribute e f pos) env) Q E s:=
 Attribute_any_ h (by rw[arm_eval_Attribute,hb])
end
def LX(K:OX)(ta:TE)(f:Str):TE:=λσ H Q=>ta σ H λx H1=>∃a C dx fs v,x=.ref a/\H1 a=some (.ins C dx fs)/\GO K C/\aP K C f/\fs.lookup f=some v/\Q v H1
def Nq(K:OX)(ta tv:TE)(f:Str):TS:=λD σ H=>tv σ H λy H1=>ta σ H1 λx H2=>∃a C dx fs,x=.ref a/\H2 a=some (.ins C dx fs)/\GO K C/\aP K C f/\fs.length<1000/\
 D.nx σ (upd H2 a (.ins C dx (cj f y fs)))
def MP(X:Cx)(op:Operator)(rd:V->V->Hp->VK->Prop):Prop:=
 ∀(pins:List (Addr×Obj))(s:Shared)(σ:St)(H:Hp)(x y:V)(u v:Value)(Q:VK),Inv X pins σ H s->RelV x u->RelV y v->rd x y H Q->wpAny (model X.prog X.w) X.A (inplaceOp op u v) (EP X pins σ Q) X.xe s
def IQ(K:OX)(ta tv:TE)(rd:V->V->Hp->VK->Prop)(f:Str):TS:=λD σ H=>ta σ H λx H1=>∃a C dx fs v,x=.ref a/\H1 a=some (.ins C dx fs)/\GO K C/\aP K C f/\fs.lookup f=some v/\
 tv σ H1 λy H2=>rd v y H2 λz H3=>∃dx' fs',H3 a=some (.ins C dx' fs')/\fs'.length<1000/\D.nx σ (upd H3 a (.ins C dx' (cj f z fs')))
section
variable{X:Cx}{o e value:Expr}{f:Str}{pos pos' tpos:Pos}{ta tv:TE}
def ay(he:PE X e ta)(hb:attributeBase e f X.env (eval e X.env)=eval e X.env):PE X (.Attribute e f pos) (LX X.K ta f):=by
 intro pins s σ H Q I h;refine Dq hb (dR (he pins s σ H _ I h) λu s1⟨x,H1,I1,rx,a,C,dx,fs,v,ex,ea,c,n,l,q⟩=>?_);subst ex;obtain rfl:u=Value.ref a:=rx;exact wq I1 ea c n l λu' s2 I2 ru=>⟨v,H1,I2,ru,q⟩
def a5(ha:PE X o ta)(hv:PE X value tv)(hs:swapsWith value (some (.Attribute o f pos')) pos.line X.env=pure false):PS X (.Assign [.Attribute o f pos'] value pos) (Nq X.K ta tv f):=by
 intro pins s σ H D I h;refine Rl (dR (hv pins s σ H _ I h) λu s1⟨y,H1,I1,ry,q⟩=>dR (ha pins s1 σ H1 _ I1 q) λov s2⟨x,H2,I2,rx,a,C,dx,fs,ex,ea,c,n,l,q2⟩=>?_) hs;subst ex;obtain rfl:ov=Value.ref a:=rx;exact yE I2 ea c n l ry λs3 I3=>⟨σ,_,I3,q2⟩
def qu{op:Operator}{rd:V->V->Hp->VK->Prop}(ha:PE X o ta)(hv:PE X value tv)(hop:MP X op rd):PS X (.AugAssign (.Attribute o f tpos) op value pos) (IQ X.K ta tv rd f):=by
 intro pins s σ H D I h;refine wpAny_AugAssign_AttributeAny (dR (ha pins s σ H _ I h) λov s1⟨x,H1,I1,rx,a,C,dx,fs,v,ex,ea,c,n,l,q⟩=>?_);subst ex;obtain rfl:ov=Value.ref a:=rx;refine wq I1 ea c n l λu s2 I2 ru=>dR (hv pins s2 σ H1 _ I2 q) λw3 s3⟨y,H2,I3,ry,q3⟩=>dR (hop pins s3 σ H2 v y u w3 _ I3 ru ry q3) λw4 s4⟨z,H3,I4,rz,dx',fs',ea',l',q4⟩=>?_;exact yE I4 ea' c n l' rz λs5 I5=>⟨σ,_,I5,q4⟩
def Oa:V->V->Hp->VK->Prop:=λx y H Q=>∃i j,x=.int i/\y=.int j/\Q (.int (i+j)) H
def AN:MP X .Add Oa:=by
 rintro pins s σ H x y u v Q I rx ry ⟨i,j,rfl,rfl,q⟩
 obtain⟨t,rfl⟩:=(show∃t,u=Value.int i t from rx);obtain⟨t',rfl⟩:=(show∃t',v=Value.int j t' from ry);exact PyProof.Rows.iadd_int ⟨.int (i+j),H,I.tok _,⟨_,rfl⟩,q⟩
end
structure gf(k:Nat)(A:Around):Prop where
 hd:A.handled=none
 dp:A.depth+3*k+5<recursionLimit
 un:A.units+16*k+200<cLine
def gf.mono{j k:Nat}{A:Around}(r:gf k A)(h:j<=k):gf j A:=⟨r.hd,by have:=r.dp;omega,by have:=r.un;omega⟩
def gf.deeper{k:Nat}{A:Around}(r:gf (k+1) A)(env:Env):gf k (A.deeper env):=
 ⟨r.hd,by have:=r.dp;show A.depth+1+3*k+5<_;omega,by have:=r.un;show A.units+3+16*k+200<_;omega⟩
def ye{A:Around}{C:Addr}{us:List Value}{kw:List (Str×Value)}:(A.under (.builtin "type.__call__" ⟨.ref C::us,kw⟩)).depth=A.depth+1:=by
 first|rfl|simp[Around.under,Code.weight,Code.isCreation,Code.isGuard,Code.isCaller,Code.frames,Code.isFrame,guardIds]
def CP{A:Around}{C:Addr}{us:List Value}{kw:List (Str×Value)}:(A.under (.builtin "type.__call__" ⟨.ref C::us,kw⟩)).units=A.units+1:=by
 first|rfl|simp[Around.under,Code.cUnits,Code.frames,Code.isFrame]
def gf.make{k:Nat}{A:Around}(r:gf (k+1) A)(C:Addr)(us:List Value)(kw:List (Str×Value)):gf k (A.under (.builtin "type.__call__" ⟨.ref C::us,kw⟩)):=
 ⟨r.hd,by have:=r.dp;rw[ye];omega,by have:=r.un;rw[CP];omega⟩
def gf.depth{k:Nat}{A:Around}(r:gf k A):A.depth<recursionLimit:=by have:=r.dp;omega
def gf.units{k:Nat}{A:Around}(r:gf k A):A.units+64<cLine:=by have:=r.un;omega
def rN:TA:=λ_ H Q=>Q [] H
def FN(ta:TE)(tr:TA):TA:=λσ H Q=>ta σ H λx H1=>tr σ H1 λxs H2=>Q (x::xs) H2
section
variable{X:Cx}{e:Expr}{es:List Expr}{te:TE}{t:TA}{pos:Pos}
def ah:PA X [] rN:=λ_ _ _ _ H Q I h=>Calls.spliced_nil ⟨[],H,I,.nil,h⟩
def aa(ha:PE X e te)(hr:PA X es t)(hs:starEach (e::es) X.env=(false,eval e X.env)::starEach es X.env:=by rfl):PA X (e::es) (FN te t):=by
 intro pos pins s σ H Q I h;rw[hs];show wpAny _ _ (spliced ((false,eval e X.env)::backTo pos (starEach es X.env))) _ _ s;refine Calls.spliced_cons (dR (ha pins s σ H _ I h) λu s1⟨x,H1,I1,r1,q1⟩=>?_);exact dR (hr pos pins s1 σ H1 _ I1 q1) λus s2⟨xs,H2,I2,r2,q2⟩=>⟨x::xs,H2,I2,.cons r1 r2,q2⟩
def Nv(t:TA):TE:=λσ H Q=>t σ H λxs H1=>xs.length<=sizeLine/\∀p,H1 p=none->Q (.ref p) (upd H1 p (.tup xs))
def NH(t:TA):TE:=λσ H Q=>t σ H λxs H1=>xs.length<=sizeLine/\∀p,H1 p=none->Q (.ref p) (upd H1 p (.lst xs))
def nS{x1}(h:PA X es t):PE X (.Tuple es x1 pos) (Nv t):=by
 intro pins s σ H Q I hq;refine wpAny_Tuple_spliced (dR (h pos pins s σ H _ I hq) λus s1⟨xs,H1,I1,r,z,q⟩=>⟨by rw[<-r.length];exact z,?_⟩);have hf:H1 s1.heap.objs.size=none:=I1.cH.fresh (OZ _);refine⟨.ref s1.heap.objs.size,upd H1 s1.heap.objs.size (.tup xs),I1.laid (t':=s1.toks) (λb u e=>Pr _ e) (OZ _) ?_,rfl,q _ hf⟩;exact⟨z,us,r,⟨_,PZ _ rfl,rfl,_,rfl⟩⟩
def cf(h:PA X es t):PE X (.List es pos) (NH t):=by
 intro pins s σ H Q I hq;refine wpAny_List_spliced (dR (h pos pins s σ H _ I hq) λus s1⟨xs,H1,I1,r,z,q⟩=>⟨by rw[<-r.length];exact z,?_⟩);have hf:H1 s1.heap.objs.size=none:=I1.cH.fresh (OZ _);refine⟨.ref s1.heap.objs.size,upd H1 s1.heap.objs.size (.lst xs),I1.laid (t':=s1.toks) (λb u e=>Pr _ e) (OZ _) ?_,rfl,q _ hf⟩;exact⟨z,us,0,r,PZ _ rfl⟩
end
abbrev Sp:=List V->Hp->VK->XK->Prop
abbrev Dg:=List Env->Hp->Shared->XK->Value->Shared->Prop
structure B2(P:PN)(w:World)(K:OX)(mg:Str->Option Value)(base:Heap)(A:Around)(outer:List Env)(s:Shared)(H:Hp):Prop where
 frames:A.frames=some outer
 mod:Mod K mg base
 bs:∀b o,base.get? b=some o->s.heap.get? b=some o/\H b=none
 Fz:base.objs.size<=s.heap.objs.size
 rF:s.heap.FunFrames base outer
 Cy:∀b∈yK outer,H b=none
 cH:lW P w H s.heap
 bare:AllBare s.gens
def CE(outer:List Env)(P:PN)(w:World)(H:Hp)(s:Shared)(Q:VK)(u:Value)(s':Shared):Prop:=
 ∃v H',s'.os=s.os/\AllBare s'.gens/\Un (yK outer) [] H H' s.heap s'.heap/\lW P w H' s'.heap/\RelV v u/\Q v H'
def CR(CX:Dg)(outer:List Env)(P:PN)(w:World)(H:Hp)(s:Shared)(Q:VK)(E:XK)(r:Result)(s':Shared):Prop:=
 match r with
 |.ok (.ret u)=>CE outer P w H s Q u s'
 |.ok _=>False
 |.error e=>CX outer H s E e s'
structure a4(P:PN)(w:World)(K:OX)(mg:Str->Option Value)(base:Heap)(CX:Dg)(k:Nat)(f:Addr)(fd:O5)(ps:List Str)(sp:Sp):Prop where
 len:∀vs H Q E,sp vs H Q E->vs.length=ps.length
 run:∀(A:Around)(outer:List Env)(s:Shared)(H:Hp)(args:Args)(us:List Value)(vs:List V)(Q:VK)(E:XK),gf k A->B2 P w K mg base A outer s H->BindsTo s fd args (ps.zip us)->Vals vs us->sp vs H Q E->
  codeAny (model P w) A (.call (.ref f) args) (CR CX outer P w H s Q E) s
def B2.make{P:PN}{w:World}{K:OX}{mg:Str->Option Value}{base:Heap}{A:Around}{outer:List Env}{s:Shared}{H:Hp}(e:B2 P w K mg base A outer s H)(C:Addr)(us:List Value)(kw:List (Str×Value)):
  B2 P w K mg base (A.under (.builtin "type.__call__" ⟨.ref C::us,kw⟩)) outer s H:=⟨by first|exact e.frames|(simpa[Around.under,Code.envs,Code.isFrame,pushEnvs]using e.frames),e.mod,e.bs,e.Fz,e.rF,e.Cy,e.cH,e.bare⟩
section
variable{X:Cx}{pins:List (Addr×Obj)}{σ:St}{H:Hp}{s s':Shared}
def Inv.La(I:Inv X pins σ H s):B2 X.prog X.w X.K X.mg X.base X.A X.stack s H:=
 ⟨I.ok.frames,I.ok.mod,I.bs,PD I.ok.Fz I.sz,I.stack,I.v6,I.cH,I.bare⟩
def Inv.after{Q:VK}{u:Value}(I:Inv X pins σ H s)(h:CE X.stack X.prog X.w H s Q u s'):EP X pins σ Q u s':=by
 obtain⟨v,H',os,bare,un,cH,r,q⟩:=h;obtain⟨hh,g,d,t,os'⟩:=s';obtain rfl:os'=s.os:=os;exact⟨v,H',I.call (h':=hh) (g':=g) (d':=d) (t':=t) (ch:=[]) un cH bare (λb z=>absurd z (by simp)),r,q⟩
end
def JO(sp:Sp)(dvs:List V)(E:XK)(t:TA):TE:=λσ H Q=>t σ H λvs H1=>sp (vs++dvs) H1 Q E
def Ed(C:Addr)(m:Str)(sp:Sp)(dvs:List V)(E:XK)(ta:TE)(t:TA):TE:=λσ H Q=>ta σ H λx H1=>∃a dx fs,x=.ref a/\H1 a=some (.ins C dx fs)/\fs.lookup m=none/\
 t σ H1 λvs H2=>sp (x::(vs++dvs)) H2 Q E
def GZ(C:Addr)(sp:Sp)(dvs:List V)(E:XK)(t:TA):TE:=λσ H Q=>t σ H λvs H1=>∀x dx,H1 x=none->H1 dx=none->dx≠x->
 sp (.ref x::(vs++dvs)) (upd (upd H1 dx (.own x)) x (.ins C dx [])) (λv H2=>v=.eC/\Q (.ref x) H2) E
def Binds(K:OX)(fd:O5)(ps:List Str)(ds:List Value):Prop:=
 ∀(s:Shared)(us:List Value),K.In s.heap->(us++ds).length=ps.length->BindsTo s fd ⟨us,[]⟩ (ps.zip (us++ds))
def Binds.all{K:OX}{fd:O5}{ps:List Str}(h:∀us:List Value,us.length=ps.length->bindArgs fd ⟨us,[]⟩=pure (ps.zip us)):Binds K fd ps []:=λs us _ hl=>by
 rw[PU]at hl ⊢;exact .of_eq (h us hl)
def Passes(CX:Dg)(X:Cx)(E:XK):Prop:=∀(pins:List (Addr×Obj))(σ:St)(H:Hp)(s:Shared)(e:Value)(s':Shared),Inv X pins σ H s->CX X.stack H s E e s'->X.xe e s'
section
variable{X:Cx}{CX:Dg}{k:Nat}{f C:Addr}{fd:O5}{ps:List Str}{sp:Sp}{dvs:List V}{ds:List Value}{E:XK}{x m:Str}{p pos apos:Pos}{e o:Expr}{es:List Expr}{ta:TE}{t:TA}
def Cq{pins:List (Addr×Obj)}{σ:St}{H:Hp}{s:Shared}{Q:VK}{us:List Value}{vs:List V}(F:a4 X.prog X.w X.K X.mg X.base CX k f fd ps sp)(hr:gf k X.A)(hb:Binds X.K fd ps ds)(hd:Vals dvs ds)(hx:Passes CX X E)
  (I:Inv X pins σ H s)(r:Vals vs us)(h:sp (vs++dvs) H Q E):wpAny (model X.prog X.w) X.A (call (.ref f) us) (EP X pins σ Q) X.xe s:=by
 have r2:Vals (vs++dvs) (us++ds):=r.append hd;have hl:(us++ds).length=ps.length:=by rw[<-r2.length];exact F.len _ _ _ _ h
 refine wpAny_call (codeAny_mono (F.run X.A X.stack s H ⟨us,[]⟩ (us++ds) (vs++dvs) Q E hr I.La (hb s us I.qY hl) r2 h) λr s' hq=>?_);cases r with
 |error e=>exact hx pins σ H s e s' I hq
 |ok fl=>
  cases fl with
  |ret u=>exact I.after hq
  |next=>exact False.elim hq
  |brk=>exact False.elim hq
  |cont=>exact False.elim hq
def HP(F:a4 X.prog X.w X.K X.mg X.base CX k f fd ps sp)(hr:gf k X.A)(hg:Gl X x)(hm:X.mg x=some (.ref f))(hk:PySem.W.keepIn X.K (.ref f)=true)(hb:Binds X.K fd ps ds)(hd:Vals dvs ds)(hx:Passes CX X E)
  (ha:PA X (e::es) t)(hdb:(x==("__debug__":Str))=false:=by decide)(he:starEach (e::es) X.env=(false,eval e X.env)::starEach es X.env:=by rfl)(hpl:(backTo pos (starEach es X.env)).any (·.1)=false:=by rfl):
  PE X (.Call (.Name x p) (e::es) [] pos) (JO sp dvs E t):=by
 intro pins s σ H Q I h;refine QH (mr I hg hm ?_ hdb);refine Ro (h₀:=X.base) I.ok.mod.JP hk (dR (ha pos pins s σ H _ I h) λus s1⟨vs,H1,I1,r,q⟩=>⟨I1.qY,?_⟩) he hpl;exact Cq F hr hb hd hx I1 r q
def HS{pl:Sem Bool}(he:PE X o ta)(c:GO X.K C)(hm:Meth X.K C m f)(F:a4 X.prog X.w X.K X.mg X.base CX k f fd ps sp)(hr:gf k X.A)(hb:Binds X.K fd ps ds)(hd:Vals dvs ds)(hx:Passes CX X E)(ha:PA X (e::es) t)
  (hst:starEach (e::es) X.env=(false,eval e X.env)::starEach es X.env:=by rfl)(hpl:(backTo pos (starEach es X.env)).any (·.1)=false:=by rfl)
  (ht:eval (.Call (.Attribute o m apos) (e::es) [] pos) X.env=(do
   let ov<-eval o X.env
   standAt apos.atName
   let(f,first)<-holding [ov] (getMethod ov m pl)
   callWith pos f first (backTo pos (starEach (e::es) X.env)) (backToKw pos (keywordEach [] X.env))):=by rfl):
  PE X (.Call (.Attribute o m apos) (e::es) [] pos) (Ed C m sp dvs E ta t):=by
 intro pins s σ H Q I h;refine PySem.W.methodCall_KW (pl:=pl) (dR (he pins s σ H _ I h) λu s1⟨x,H1,I1,rx,a,dx,fs,ex,ea,l,q⟩=>?_) ht;subst ex;obtain rfl:u=Value.ref a:=rx;refine xf I1 ea c hm l ?_;refine Ro (first:=[.ref a]) (h₀:=X.base) I.ok.mod.JP hm.kp (dR (ha pos pins s1 σ H1 _ I1 q) λus s2⟨vs,H2,I2,r,q2⟩=>⟨I2.qY,?_⟩) hst hpl;exact Cq (us:= .ref a::us) (vs:= .ref a::vs) F hr hb hd hx I2 (.cons rfl r) q2
def Gj{pl:Sem Bool}(he:PE X o ta)(c:GO X.K C)(hm:Meth X.K C m f)(F:a4 X.prog X.w X.K X.mg X.base CX k f fd ps sp)(hr:gf k X.A)(hb:Binds X.K fd ps ds)(hd:Vals dvs ds)(hx:Passes CX X E)
  (ht:eval (.Call (.Attribute o m apos) [] [] pos) X.env=(do
   let ov<-eval o X.env
   standAt apos.atName
   let(f,first)<-holding [ov] (getMethod ov m pl)
   callWith pos f first (backTo pos (starEach [] X.env)) (backToKw pos (keywordEach [] X.env))):=by rfl):
  PE X (.Call (.Attribute o m apos) [] [] pos) (Ed C m sp dvs E ta rN):=by
 intro pins s σ H Q I h;refine PySem.W.methodCall_KW (pl:=pl) (dR (he pins s σ H _ I h) λu s1⟨x,H1,I1,rx,a,dx,fs,ex,ea,l,q⟩=>?_) ht;subst ex;obtain rfl:u=Value.ref a:=rx;refine xf I1 ea c hm l ?_;exact PySem.W.callWith_K0 (first:=[.ref a]) I1.qY hm.kp (Cq (us:=[.ref a]) (vs:=[.ref a]) F hr hb hd hx I1 (.cons rfl .nil) q)
structure Mk(K:OX)(C f:Addr):Prop where
 makes:PySem.W.makesIn K C=true
 init:PySem.W.findIn K (.ref C) "__init__"=some (some (.ref f))
 fn:PySem.W.isFn K (.ref f)=true
 kp:PySem.W.keepIn K (.ref C)=true
def BM{pins:List (Addr×Obj)}{σ:St}{H:Hp}{s:Shared}{Q:VK}{us:List Value}{vs:List V}(M:Mk X.K C f)(F:a4 X.prog X.w X.K X.mg X.base CX k f fd ps sp)(hr:gf (k+1) X.A)(hb:Binds X.K fd ps ds)(hd:Vals dvs ds)
  (hx:Passes CX X E)(I:Inv X pins σ H s)(r:Vals vs us)
  (h:∀x dx,H x=none->H dx=none->dx≠x->sp (.ref x::(vs++dvs)) (upd (upd H dx (.own x)) x (.ins C dx [])) (λv H2=>v=.eC/\Q (.ref x) H2) E):
  wpAny (model X.prog X.w) X.A (call (.ref C) us) (EP X pins σ Q) X.xe s:=by
 have hq:=h (s.heap.objs.size+1) s.heap.objs.size (I.cH.fresh (Nat.le_succ _)) (I.cH.fresh (OZ _)) (PX (Nat.lt_succ_self _));have I2:=Inv.made (C:=C) I;have r2:Vals (V.ref (s.heap.objs.size+1)::(vs++dvs)) (Value.ref (s.heap.objs.size+1)::(us++ds)):= .cons rfl (r.append hd);have hl:(Value.ref (s.heap.objs.size+1)::us++ds).length=ps.length:=by
  have e:=r2.length;rw[F.len _ _ _ _ hq]at e;exact e.symm
 refine wpAny_call (Hf (f:=f) I.qY M.makes M.init (Qj.mp M.fn) (codeAny_mono (F.run _ X.stack _ _ ⟨Value.ref (s.heap.objs.size+1)::us,[]⟩ (Value.ref (s.heap.objs.size+1)::(us++ds)) _ _ E (hr.make C us [])
  (I2.La.make C us []) (hb _ (Value.ref (s.heap.objs.size+1)::us) I2.qY hl) r2 hq) λr s' hq'=>?_))
 cases r with
 |error e=>exact hx pins σ _ _ e s' I2 hq'
 |ok fl=>
  cases fl with
  |ret u=>
   obtain⟨v,H',I3,rv,ev,q3⟩:=I2.after hq';subst ev;exact⟨rv,⟨V.ref (s.heap.objs.size+1),H',I3,rfl,q3⟩⟩
  |next=>exact False.elim hq'
  |brk=>exact False.elim hq'
  |cont=>exact False.elim hq'
def Ib(M:Mk X.K C f)(F:a4 X.prog X.w X.K X.mg X.base CX k f fd ps sp)(hr:gf (k+1) X.A)(hg:Gl X x)(hm:X.mg x=some (.ref C))(hb:Binds X.K fd ps ds)(hd:Vals dvs ds)(hx:Passes CX X E)
  (ha:PA X (e::es) t)(hdb:(x==("__debug__":Str))=false:=by decide)(he:starEach (e::es) X.env=(false,eval e X.env)::starEach es X.env:=by rfl)(hpl:(backTo pos (starEach es X.env)).any (·.1)=false:=by rfl):
  PE X (.Call (.Name x p) (e::es) [] pos) (GZ C sp dvs E t):=by
 intro pins s σ H Q I h;refine QH (mr I hg hm ?_ hdb);refine Ro (h₀:=X.base) I.ok.mod.JP M.kp (dR (ha pos pins s σ H _ I h) λus s1⟨vs,H1,I1,r,q⟩=>⟨I1.qY,?_⟩) he hpl;exact BM M F hr hb hd hx I1 r q
def BN(M:Mk X.K C f)(F:a4 X.prog X.w X.K X.mg X.base CX k f fd ps sp)(hr:gf (k+1) X.A)(hg:Gl X x)(hm:X.mg x=some (.ref C))(hb:Binds X.K fd ps ds)(hd:Vals dvs ds)(hx:Passes CX X E)
  (hdb:(x==("__debug__":Str))=false:=by decide):PE X (.Call (.Name x p) [] [] pos) (GZ C sp dvs E rN):=by
 intro pins s σ H Q I h;refine QH (mr I hg hm ?_ hdb);exact PySem.W.callWith_K0 I.qY M.kp (BM (us:=[]) M F hr hb hd hx I .nil h)
end
structure aB(N P:List Str)(sc:Scope):Prop where
 kind:sc.kind=.function
 co:sc.isCoroutine=false
 gen:sc.isGenerator=false
 nd:N.Nodup
 pre:N.take P.length=P
 par:∀x∈P,sc.names.lookup x=some .local\/sc.names.lookup x=some .cell
 KB:∀y∈sc.names,y.2≠.free
def zJ{kindOf:Str->Option NameKind}{x:Str}:∀{binds:List (Str×Value)}{m:Str->Option Value},(∀v,(x,v)∉binds)->bindL kindOf binds m x=m x
 |[],_,_=>rfl
 |(n,v)::r,m,h=>by
  unfold bindL;rw[zJ λw hw=>h w (Pa _ hw)];split
  ·have:x≠n:=by rintro rfl;exact h v O8
   simp[this]
  ·rfl
def zX{kindOf:Str->Option NameKind}{x:Str}:∀{binds:List (Str×Value)}{m:Str->Option Value},(∀v,(x,v)∉binds)->bindC kindOf binds m x=m x
 |[],_,_=>rfl
 |(n,v)::r,m,h=>by
  unfold bindC;rw[zX λw hw=>h w (Pa _ hw)];split
  ·rfl
  ·have:x≠n:=by rintro rfl;exact h v O8
   simp[this]
def zR{kindOf:Str->Option NameKind}{x:Str}{v:Value}:∀{P:List Str}{vs:List Value}{i:Nat}{m:Str->Option Value},P.Nodup->P[i]? =some x->vs[i]? =some v->kindOf x=some .local->
  bindL kindOf (P.zip vs) m x=some v
 |[],_,_,_,_,h,_,_=>by simp at h
 |_::_,[],_,_,_,_,h,_=>by simp at h
 |p::P,w::vs,0,m,nd,h1,h2,hk=>by
  simp at h1 h2;subst h1;subst h2;show bindL kindOf ((p,w)::P.zip vs) m p=_;unfold bindL;rw[zJ λv hv=>(Rp.mp nd).1 (QA hv).1,OW hk];simp
 |p::P,w::vs,i+1,m,nd,h1,h2,hk=>by
  show bindL kindOf ((p,w)::P.zip vs) m x=_;unfold bindL;exact zR (i:=i) (Rp.mp nd).2 (by simpa using h1) (by simpa using h2) hk
def zO{kindOf:Str->Option NameKind}{x:Str}{v:Value}:∀{P:List Str}{vs:List Value}{i:Nat}{m:Str->Option Value},P.Nodup->P[i]? =some x->vs[i]? =some v->kindOf x≠some .local->
  bindC kindOf (P.zip vs) m x=some v
 |[],_,_,_,_,h,_,_=>by simp at h
 |_::_,[],_,_,_,_,h,_=>by simp at h
 |p::P,w::vs,0,m,nd,h1,h2,hk=>by
  simp at h1 h2;subst h1;subst h2;show bindC kindOf ((p,w)::P.zip vs) m p=_;unfold bindC;rw[zX λv hv=>(Rp.mp nd).1 (QA hv).1,OV hk];simp
 |p::P,w::vs,i+1,m,nd,h1,h2,hk=>by
  show bindC kindOf ((p,w)::P.zip vs) m x=_;unfold bindC;exact zO (i:=i) (Rp.mp nd).2 (by simpa using h1) (by simpa using h2) hk
def start(N:List Str)(vs:List V):St:=vs.map some++List.replicate (N.length-vs.length) none
def ua(CX:Dg)(P:PN)(w:World)(K:OX)(mg:Str->Option Value)(base:Heap)(N:List Str)(qual:Str)(scope:Scope)(f:Addr)(cd:Value)(A:Around)(outer:List Env)(s:Shared)(H:Hp)(E:XK):Cx where
 prog:=P
 w:=w
 K:=K
 mg:=mg
 base:=base
 A:=A.deeper (envOfC qual scope s.heap.objs.size f cd)
 N:=N
 vI:=s
 LO:=H
 env:=envOfC qual scope s.heap.objs.size f cd
 outer:=outer
 stack:=envOfC qual scope s.heap.objs.size f cd::outer
 ex:=[]
 calm:=true
 fn:=λ_=>true
 pn:=[]
 xe:=λe s'=>wpAny (model P w) (A.deeper (envOfC qual scope s.heap.objs.size f cd)) (leaving (envOfC qual scope s.heap.objs.size f cd) e) (λ_ s''=>CX outer H s E e s'') (λe' s''=>CX outer H s E e' s'') s'
def BZ{sc:Scope}{n:Nat}{x:Str}(h:sc.names.lookup x=some .cell):∃c,(cellsFrom n sc.names []).lookup x=some c:=by
 have q:=PySem.W.cellsFrom_some sc.names n [] (.inl h);exact Option.isSome_iff_exists.mp q
def zq{CX:Dg}{P:PN}{w:World}{K:OX}{mg:Str->Option Value}{base:Heap}{N ps:List Str}{qual:Str}{scope:Scope}{f:Addr}{cd:Value}{A:Around}{outer:List Env}{s s1:Shared}{H:Hp}{E:XK}{us:List Value}{vs:List V}
  (S:aB N ps scope)(hd:A.handled=none)(e0:B2 P w K mg base A outer s H)(hl:vs.length=ps.length)(r:Vals vs us)
  (x:InCallC s s.heap.objs.size (bindL (envOfC qual scope s.heap.objs.size f cd).kindOf (ps.zip us) λ_=>none) (cellsFrom (s.heap.objs.size+1) scope.names []) (bindC (envOfC qual scope s.heap.objs.size f cd).kindOf (ps.zip us) λ_=>none) s1):
  Inv (ua CX P w K mg base N qual scope f cd A outer s H E) [] (start N vs) H s1:=by
 have hpl:ps.length<=N.length:=by have:=P_ List.length S.pre;rw[PK]at this;omega
 obtain⟨h1,tk,rfl,hk⟩:=x.done;have noA:∀b:Addr,b∉(ua CX P w K mg base N qual scope f cd A outer s H E).ex:=λb z=>absurd (show b∈([]:List Addr)from z) (by simp);refine⟨⟨e0.mod,S.kind,rfl,rfl,OZ _,λy z c h1 h2=>?_,λy hy=>?_,λy c _ h=>?_,λ_=>hd,Around.frames_deeper e0.frames,.inr ⟨rfl,rfl⟩,λb z=>absurd z (noA b),e0.bs,e0.Fz,λb _ _=>noA b,λb z=>absurd z (noA b),e0.rF,e0.Cy⟩,
  rfl,e0.bare,Un.kept hk,⟨_,x.toInCall.ns,λi y v h1 h2 h3=>?_⟩,λy c h=>⟨_,x.cell y c h⟩,e0.cH.fresh (OZ _),λy c h=>?_,λp hp=>absurd (show p∈([]:List (Addr×Obj))from hp) (by simp),e0.cH.kept hk,?_⟩
 ·exact name_of_addr x.apart (Qb h1) (Qb h2)
 ·have hy:scope.names.lookup y=some .cell\/scope.names.lookup y=some .free:=hy
  rcases hy with hy|hy
  ·exact BZ hy
  ·exact absurd rfl (S.KB _ (Qb hy))
 ·exact Nat.le_of_lt (x.above y c (Qb h))
 ·have hi:i<vs.length:=by
   unfold start at h2
   by_cases hi:i<vs.length
   ·exact hi
   ·rw[Q7 (by simpa using hi)]at h2
    rw[Qv]at h2;split at h2<;>cases h2
  have ha:vs[i]? =some v:=by
   unfold start at h2;rw[Q_ (by simpa using hi),Ph]at h2;cases e:vs[i]? with
   |none=>rw[e]at h2;cases h2
   |some a=>rw[e]at h2;cases h2;rfl
  obtain⟨u,hu,rv⟩:=r.get ha;have hp:ps[i]? =some y:=by
   rw[<-S.pre,List.getElem?_take_of_lt (by omega)];exact h1
  have ndP:ps.Nodup:=by rw[<-S.pre];exact S.nd.sublist (List.take_sublist _ _)
  refine⟨u,rv,?_⟩;rcases S.par y (Pw hp)with k|k
  ·exact .inl ⟨k,zR ndP hp hu k⟩
  ·obtain⟨c,e⟩:=BZ (n:=s.heap.objs.size+1) k
   refine .inr ⟨.inl k,c,e,?_⟩;have q:=x.cell y c e;rw[zO ndP hp hu (by show scope.names.lookup y≠_;rw[k];decide)]at q;exact q
 ·exact e0.cH.fresh (Nat.le_of_lt (x.above y c (Qb h)))
 ·unfold start
  show _=N.length;rw[Pd,OU,PP];omega
def Mx{CX:Dg}{P:PN}{w:World}{K:OX}{mg:Str->Option Value}{base:Heap}{k:Nat}{f:Addr}{name qual:Str}{params:Arguments}{body:List Stmt}{scope:Scope}{dV kV doc pm cdv ct oc:Value}{an od:Option Addr}
  {osl:Array (Option Value)}{N ps:List Str}{sp:Sp}(lk:K.lookup f=some ⟨oc,od,.func (PySem.W.fnOf name qual params body scope dV kV doc pm an cdv ct),osl⟩)(hcd:PySem.W.codeIn K cdv qual=true)(S:aB N ps scope)
  (len:∀vs H Q E,sp vs H Q E->vs.length=ps.length)
  (hbody:∀(A:Around)(outer:List Env)(s:Shared)(H:Hp)(vs:List V)(Q:VK)(E:XK),gf k (A.deeper (envOfC qual scope s.heap.objs.size f cdv))->sp vs H Q E->
   ∃t,zN (ua CX P w K mg base N qual scope f cdv A outer s H E) body t/\t {nx:=λ_ H'=>Q .eC H',rt:=Q} (start N vs) H):
  a4 P w K mg base CX (k+1) f (PySem.W.fnOf name qual params body scope dV kV doc pm an cdv ct) ps sp:=by
 refine⟨len,λA outer s H args us vs Q E hr e0 hb r hsp=>?_⟩;have hl:=len _ _ _ _ hsp;have KX:K.In s.heap:=e0.mod.JP.keeps λb o e=>(e0.bs b o e).1;have lim:s.heap.NoLimit:=e0.mod.nolimit.keeps λb o e=>(e0.bs b o e).1;have hkind:∀y∈ps.zip us,scope.names.lookup y.1=some .local\/(scope.names.lookup y.1=some .cell/\((cellsFrom (s.heap.objs.size+1) scope.names []).lookup y.1).isSome=true):=λ⟨n,v⟩ hy=>by
  rcases S.par n (QA hy).1 with q|q
  ·exact .inl q
  ·exact .inr ⟨q,PySem.W.cellsFrom_some _ _ _ (.inl q)⟩
 refine codeAny_call_function hr.depth (KX _ _ lk) rfl S.co S.gen rfl (PySem.W.codeRec_of KX hcd) (hb _ _ _ _ ?_);refine wpAny_newFunctionEnv_cells S.kind hkind λenv he s1 x=>?_;subst he;refine⟨lim.keeps x.toInCall.keep,codeAny_func ?_⟩;obtain⟨t,ht,hq⟩:=hbody A outer s H vs Q E (hr.deeper _) hsp;have I:Inv (ua CX P w K mg base N qual scope f cdv A outer s H E) [] (start N vs) H s1:=zq S hr.hd e0 hl r x;refine QG (ht [] s1 (start N vs) H _ I hq) (λfl s' hs=>?_) λe s' hs=>hs;have fin:∀{σ':St}{H':Hp}{v:V}{u:Value},Inv (ua CX P w K mg base N qual scope f cdv A outer s H E) [] σ' H' s'->RelV v u->Q v H'->CE outer P w H s Q u s':=
  λ{σ' H' v u} J rv q=>⟨v,H',J.os,J.bare,J.base,J.cH,rv,q⟩
 cases fl with
 |ret u=>
  obtain⟨v,σ',H',J,rv,q⟩:=hs;exact fin J rv q
 |next=>
  obtain⟨σ',H',J,q⟩:=hs;exact fin (v:=V.eC) (u:=Value.none) J rfl q
 |brk=>
  obtain⟨_,_,_,q⟩:=hs;exact False.elim q
 |cont=>
  obtain⟨_,_,_,q⟩:=hs;exact False.elim q
section
variable{X:Cx}{x:Str}{p pos:Pos}{e:Expr}{es:List Expr}{t:TA}{id T:String}{r:List V->Hp->VK->Prop}
def Ou(r:List V->Hp->VK->Prop)(t:TA):TE:=λσ H Q=>t σ H λvs H1=>r vs H1 Q
def bu(hc:nE X (.builtin id) r)(hg:Gl X x)(hm:X.mg x=none)(hv:bootBuiltins x=some (.builtin id))(ha:PA X (e::es) t)(hn:x≠"__name__":=by decide)(hdb:(x==("__debug__":Str))=false:=by decide)
  (he:starEach (e::es) X.env=(false,eval e X.env)::starEach es X.env:=by rfl)(hpl:(backTo pos (starEach es X.env)).any (·.1)=false:=by rfl):PE X (.Call (.Name x p) (e::es) [] pos) (Ou r t):=by
 intro pins s σ H Q I h;refine QH (ud I hg hm hv ?_ hn hdb);exact PyProof.Rows.callWith_builtin1 (dR (ha pos pins s σ H _ I h) λus s1⟨vs,H1,I1,r1,q1⟩=>hc pins s1 σ H1 vs us Q I1 r1 q1) he hpl
def mW(hc:nE X (.type T) r)(hg:Gl X x)(hm:X.mg x=none)(hv:bootBuiltins x=some (.type T))(ha:PA X (e::es) t)(hn:x≠"__name__":=by decide)(hdb:(x==("__debug__":Str))=false:=by decide)
  (he:starEach (e::es) X.env=(false,eval e X.env)::starEach es X.env:=by rfl)(hpl:(backTo pos (starEach es X.env)).any (·.1)=false:=by rfl):PE X (.Call (.Name x p) (e::es) [] pos) (Ou r t):=by
 intro pins s σ H Q I h;refine QH (ud I hg hm hv ?_ hn hdb);exact QM (dR (ha pos pins s σ H _ I h) λus s1⟨vs,H1,I1,r1,q1⟩=>hc pins s1 σ H1 vs us Q I1 r1 q1) he hpl
end
end L2
namespace HT
open PySem PyProof.Rows
section
variable{prog:PN}{w:World}{A:Around}{E:Value->Shared->Prop}{s:Shared}
def jW(n d:Nat):Option Int->Nat
 |none=>d
 |some v=>if v<0 then(v+(n:Int)).toNat else min v.toNat n
def GP(n d:Nat):jW n d none=d:=rfl
def qh(n d k:Nat):jW n d (some (k:Int))=min k n:=by
 show(if(k:Int)<0 then((k:Int)+(n:Int)).toNat else min (k:Int).toNat n)=min k n;rw[OV (by omega),Px]
def Gi(n d:Nat)(hd:d<=n)(o:Option Int):jW n d o<=n:=by
 cases o with
 |none=>exact hd
 |some v=>
  show(if v<0 then(v+(n:Int)).toNat else min v.toNat n)<=n
  by_cases hv:v<0
  ·rw[OW hv];omega
  ·rw[OV hv];exact Nat.min_le_right _ _
end
end HT
namespace L2
open PySem PySem.Spec PyProof.Rows
abbrev TO:=St->Hp->(Option Int->Hp->Prop)->Prop
def PO(X:Cx)(e:Option Expr)(t:TO):Prop:=
 ∀(pins:List (Addr×Obj))(s:Shared)(σ:St)(H:Hp)(Q:Option Int->Hp->Prop),Inv X pins σ H s->t σ H Q->
  wpAny (model X.prog X.w) X.A (evalPart e X.env) (λu s'=>∃o H',Inv X pins σ H' s'/\IsPart u o/\Q o H') X.xe s
def Iu:TO:=λ_ H Q=>Q none H
def MJ(t:TE):TO:=λσ H Q=>t σ H λx H1=>∃i,x=.int i/\Q (some i) H1
section
variable{X:Cx}{e:Expr}{te:TE}{lo hi:Option Expr}{tl th:TO}{pos p2:Pos}
def DG:PO X none Iu:=by
 intro pins s σ H Q I h;rw[evalPart_none];exact PM ⟨none,H,I,.none,h⟩
def mw(h:PE X e te):PO X (some e) (MJ te):=by
 intro pins s σ H Q I hw;rw[evalPart_some];refine dR (h pins s σ H _ I hw) λu s1⟨x,H1,I1,r1,q1⟩=>?_;obtain⟨i,rfl,q⟩:=q1;obtain⟨t,rfl⟩:=r1;exact⟨some i,H1,I1,.int i t,q⟩
def M4(X:Cx)(r:V->Option Int->Option Int->Hp->VK->Prop):Prop:=
 ∀(pins:List (Addr×Obj))(s:Shared)(σ:St)(H:Hp)(x:V)(v vl vu:Value)(lo hi:Option Int)(sl:Addr)(Q:VK),Inv X pins σ H s->RelV x v->s.heap.IsSliceOf sl vl vu .none->IsPart vl lo->IsPart vu hi->r x lo hi H Q->
  ∃T id,typeLookup (.type T) "__getitem__"=pure (some (.builtin id))/\s.TypeIs v T/\wpAny (model X.prog X.w) X.A (getItem v (.ref sl)) (EP X pins σ Q) X.xe s
def OC(r:V->Option Int->Option Int->Hp->VK->Prop)(te:TE)(tl th:TO):TE:=λσ H Q=>te σ H λx H1=>tl σ H1 λl H2=>th σ H2 λu H3=>r x l u H3 Q
def p9{r:V->Option Int->Option Int->Hp->VK->Prop}(hr:M4 X r)(he:PE X e te)(hl:PO X lo tl)(hu:PO X hi th):PE X (.Subscript e (.Slice lo hi none p2) pos) (OC r te tl th):=by
 intro pins s σ H Q I h;refine Subscript_ (dR (he pins s σ H _ I h) λv s1⟨x,H1,I1,r1,q1⟩=>?_);refine wpAny_Slice (dR (hl pins s1 σ H1 _ I1 q1) λvl s2⟨l,H2,I2,pl,q2⟩=>dR (hu pins s2 σ H2 _ I2 q2) λvu s3⟨u,H3,I3,pu,q3⟩=>?_);rw[evalPart_none];refine PM ?_;have I4:Inv X pins σ H3 {s3 with heap:=s3.heap.push {cls:= .type "slice",data:= .fields #[vl,vu,.none]}}:=I3.kept (t':=s3.toks) λb ob q=>Pr _ q;obtain⟨T,id,hT,ht,hg⟩:=hr pins {s3 with heap:=s3.heap.push {cls:= .type "slice",data:= .fields #[vl,vu,.none]}} σ H3 x v vl vu l u s3.heap.objs.size Q I4 r1 (Heap.IsSliceOf.new ..) pl pu q3;show wpAny (model X.prog X.w) X.A (subscriptTail e (.Slice lo hi none p2) v (.ref s3.heap.objs.size)) (EP X pins σ Q) X.xe {s3 with heap:=s3.heap.push {cls:= .type "slice",data:= .fields #[vl,vu,.none]}};exact tail_any (ops:=[.ref s3.heap.objs.size,v]) ht hT hg (by with_unfolding_all rfl)
def Ag(xs:List V)(lo hi:Option Int):List V:=(xs.drop (HT.jW xs.length 0 lo)).take (HT.jW xs.length xs.length hi-HT.jW xs.length 0 lo)
def Cd(xs:List V)(lo hi:Option Int):(Ag xs lo hi).length<=xs.length:=by
 unfold Ag;rw[PK,QY];omega
end
def HF(n:Nat)(i:Int):Option Nat:=if 0<=i then(if i<n then some i.toNat else none)else if-(n:Int)<=i then some (i+n).toNat else none
def Cg{α:Type}(xs:List α)(i:Int):Option α:=(HF xs.length i).bind λj=>xs[j]?
def Do{n:Nat}{i:Int}{j:Nat}(h:HF n i=some j):seqIndex? i n=some j/\j<n/\ -(n:Int)<=i/\i<n:=by
 unfold HF at h
 by_cases h0:0<=i
 ·rw[OW h0]at h
  by_cases h1:i<n
  ·rw[OW h1]at h
   have e:i.toNat=j:=Pu h;exact⟨by rw[seqIndex_of h0 h1,e],by omega,by omega,h1⟩
  ·rw[OV h1]at h;cases h
 ·rw[OV h0]at h
  by_cases h1: -(n:Int)<=i
  ·rw[OW h1]at h
   have e:(i+n).toNat=j:=Pu h;exact⟨by rw[seqIndex_neg (by omega) h1,e],by omega,h1,by omega⟩
  ·rw[OV h1]at h;cases h
def AZ{α:Type}{xs:List α}{i:Int}{v:α}(h:Cg xs i=some v):∃j,seqIndex? i xs.length=some j/\xs[j]? =some v/\j<xs.length/\ -(xs.length:Int)<=i/\i<xs.length:=by
 unfold Cg at h;cases e:HF xs.length i with
 |none=>rw[e]at h;cases h
 |some j=>
  rw[e]at h;obtain⟨h1,h2,h3,h4⟩:=Do e;exact⟨j,h1,h,h2,h3,h4⟩
def HU{α:Type}{xs:List α}{j:Nat}{v:α}(h:xs[j]? =some v):Cg xs (j:Int)=some v:=by
 have hj:j<xs.length:=(O6.mp h).1;have e:HF xs.length (j:Int)=some j:=by
  unfold HF;rw[OW (by omega),OW (by omega)];simp
 unfold Cg;rw[e];exact h
def Jy(b:Expr):Prop:=∀o i,subscripted b false o i=operate [o,i] (getItem o i)
def LB(X:Cx)(r:R2):Prop:=
 ∀(value slice:Expr)(pins:List (Addr×Obj))(s:Shared)(σ:St)(H:Hp)(x y:V)(v u:Value)(Q:VK),Inv X pins σ H s->RelV x v->RelV y u->r x y H Q->
  subscripted slice false v u=operate [v,u] (getItem v u)->wpAny (model X.prog X.w) X.A (subscriptTail value slice v u) (EP X pins σ Q) X.xe s
def MF(X:Cx)(id:String)(r:V->List V->Hp->VK->Prop):Prop:=
 ∀(pins:List (Addr×Obj))(s:Shared)(σ:St)(H:Hp)(x:V)(xs:List V)(v:Value)(us:List Value)(Q:VK),Inv X pins σ H s->RelV x v->Vals xs us->r x xs H Q->
  wpAny (model X.prog X.w) X.A (call (.builtin id) (v::us)) (EP X pins σ Q) X.xe s
section
variable{X:Cx}{a b:Expr}{ta tb:TE}{pos:Pos}
def bj{r:R2}(hr:LB X r)(ha:PE X a ta)(hb:PE X b tb)(hs:Jy b):PE X (.Subscript a b pos) (M8 r ta tb):=by
 intro pins s σ H Q I h;exact Subscript_ (Lo ha hb I h λv u s2 x y H2 I2 rx ry q=>hr a b pins s2 σ H2 x y v u Q I2 rx ry q (hs _ _))
def MO(K:OX):R2:=λx y H Q=>∃p xs i v,x=.ref p/\y=.int i/\a0 K H p xs/\Cg xs i=some v/\Q v H
def Mv(K:OX):R2:=λx y H Q=>∃p xs i v,x=.ref p/\y=.int i/\iV K H p xs/\Cg xs i=some v/\Q v H
def NQ:R2:=λx y H Q=>∃z i c,x=.str z/\y=.int i/\z.length<=sizeLine/\Cg z.cps.toList i=some c/\Q (.str ⟨#[c]⟩) H
def a_:LB X (MO X.K):=by
 intro value slice pins s σ H x y v u Q I rx ry h hs;obtain⟨p,xs,i,z,rfl,rfl,hq,he,q⟩:=h;cases rx;obtain⟨t,rfl⟩:=ry;obtain⟨its,r,pl,hz⟩:=I.list hq;obtain⟨j,h1,h2,h3,h4,h5⟩:=AZ he;obtain⟨w,ew,rw'⟩:=r.get h2;have hl:=r.length;have hn:=tZ;have fin:EP X pins σ Q w s:=⟨z,H,I,rw',q⟩
 by_cases h0:0<=i
 ·have hj:i.toNat=j:=by
   rw[seqIndex_of h0 h5]at h1;exact Pu h1
  exact item_listR pl.isList h0 (by omega) (by rw[hj];simpa using ew) fin hs
 ·have hj:(i+(its.toArray.size:Int)).toNat=j:=by
   rw[seqIndex_neg (by omega) h4]at h1;rw[Py,<-hl];exact Pu h1
  exact subscriptTail_builtinR (x:=w) pl.isList.typeIs slot_list_getitem.lookup
   (wpAny_getItem_list_neg (Q:=λr s'=>r=w/\EP X pins σ Q r s') pl.isList (by omega) (by rw[Py]<;>omega) (by omega) (by rw[hj];simpa using ew) ⟨rfl,fin⟩) hs
def jo:LB X (Mv X.K):=by
 intro value slice pins s σ H x y v u Q I rx ry h hs;obtain⟨p,xs,i,z,rfl,rfl,hq,he,q⟩:=h;cases rx;obtain⟨t,rfl⟩:=ry;obtain⟨its,r,pl,hz⟩:=I.tuple hq;obtain⟨j,h1,h2,h3,h4,h5⟩:=AZ he;obtain⟨w,ew,rw'⟩:=r.get h2;have hl:=r.length;have hn:=tZ;have fin:EP X pins σ Q w s:=⟨z,H,I,rw',q⟩;exact subscriptTail_builtinR (x:=w) pl.typeIs slot_tuple_getitem.lookup
  (getItem_tuple (j:=j) (Q:=λr s'=>r=w/\EP X pins σ Q r s') pl (by omega) (by omega) (by rw[Py,<-hl];exact h1) (by simpa using ew) ⟨rfl,fin⟩) hs
def AU:LB X NQ:=by
 intro value slice pins s σ H x y v u Q I rx ry h hs;obtain⟨z,i,c,rfl,rfl,hz,he,q⟩:=h;obtain⟨t,rfl⟩:=rx;obtain⟨t',rfl⟩:=ry;obtain⟨j,h1,h2,h3,h4,h5⟩:=AZ he;have hl:z.cps.toList.length=z.length:=by simp[Str.length]
 rw[hl]at h1 h4 h5;have hn:=tZ;exact tail_any (typeIs_str s z t) slot_str_getitem.lookup (getItem_str (c:=c) (by
  have e1:decide (i< -(2^63:Int))=false:=PF (by omega);have e2:decide (i≥2^63)=false:=PF (by omega);rw[e1,e2,Bool.or_false]) (by rw[h1];simpa using h2) ⟨.str ⟨#[c]⟩,H,I.tok _,⟨_,rfl⟩,q⟩) hs
def Cu(its:List Value)(n j:Nat)(u:Value):Obj.mapSeq (·.setIfInBounds j u) {cls:= .type "list",data:= .seq its.toArray n}={cls:= .type "list",data:= .seq (its.set j u).toArray n}:=by
 simp[Obj.mapSeq]
def Inv.lst{pins:List (Addr×Obj)}{σ:St}{H:Hp}{s:Shared}{p:Addr}{xs:List V}(I:Inv X pins σ H s)(h:H p=some (.lst xs)):
  ∃(its:List Value)(n:Nat),Vals xs its/\s.heap.get? p=some {cls:= .type "list",data:= .seq its.toArray n}/\xs.length<=sizeLine:=by
 obtain⟨z,its,n,r,e⟩:=I.cH p _ h;exact⟨its,n,r,e,z⟩
def Inv.KF{pins:List (Addr×Obj)}{σ:St}{H:Hp}{s:Shared}{p:Addr}{xs ys:List V}{its its':List Value}{n n':Nat}{f:Obj->Obj}(I:Inv X pins σ H s)(h:H p=some (.lst xs))
  (ho:s.heap.get? p=some {cls:= .type "list",data:= .seq its.toArray n})(hf:f {cls:= .type "list",data:= .seq its.toArray n}={cls:= .type "list",data:= .seq its'.toArray n'})(r:Vals ys its')(hz:ys.length<=sizeLine)(t:Nat):
  Inv X pins σ (upd H p (.lst ys)) {s with heap:=s.heap.update p f,toks:=t}:=by
 have e:(s.heap.update p f).get? p=some {cls:= .type "list",data:= .seq its'.toArray n'}:=by
  rw[Q4 f ho (by rw[hf]<;>rfl),hf]
 refine I.write (x:=p) (e:=p) (by rw[h];trivial) (.inl rfl) (λb u hb q=>(QE _ _ (Pb hb)).trans q) ⟨_,e⟩ ?_;exact⟨hz,its',n',r,e⟩
def Mh:V->V->V->Hp->(Hp->Prop)->Prop:=λo i v H Q=>∃p xs k j,o=.ref p/\i=.int k/\H p=some (.lst xs)/\HF xs.length k=some j/\Q (upd H p (.lst (xs.set j v)))
def set_list:Mg X Mh:=by
 intro pins s σ H o i v ov iv u Q I ro ri rv h;obtain⟨p,xs,k,j,rfl,rfl,hp,hj,q⟩:=h;cases ro;obtain⟨t,rfl⟩:=ri;obtain⟨its,n,r,ho,hz⟩:=I.lst hp;obtain⟨h1,h2,h3,h4⟩:=Do hj;have hl:=r.length;have hn:=tZ;have I':Inv X pins σ (upd H p (.lst (xs.set j v))) {s with heap:=s.heap.update p (Obj.mapSeq (·.setIfInBounds j u))}:=
  I.KF hp ho (Cu its n j u) (r.set rv j) (by rw[QN];exact hz) s.toks
 by_cases h0:0<=k
 ·have hk:k.toNat=j:=by
   rw[seqIndex_of h0 h4]at h1;exact Pu h1
  exact PySem.W.ki_setAt ho h0 (by omega) (by rw[Py,<-hl];exact h4) (by rw[hk];exact⟨_,I',q⟩)
 ·have hk:(k+(its.toArray.size:Int)).toNat=j:=by
   rw[seqIndex_neg (by omega) h3]at h1;rw[Py,<-hl];exact Pu h1
  exact PySem.W.ki_setBack ho (by omega) (by rw[Py,<-hl];exact h3) (by omega) (by rw[hk];exact⟨_,I',q⟩)
def Ai(lo hi:Option Int)(n:Nat):(sliceBounds lo hi none n).1=((HT.jW n 0 lo:Nat):Int)/\(sliceBounds lo hi none n).2.1=((HT.jW n n hi:Nat):Int)/\(sliceBounds lo hi none n).2.2=1:=by
 refine⟨?_,?_,rfl⟩
 ·cases lo with
  |none=>simp[sliceBounds,HT.jW]
  |some i=>
   simp only[sliceBounds,HT.jW,Option.getD_none,show(1:Int)>0 by decide,if_true]
   by_cases h:i<0
   ·simp only[h,if_true]<;>omega
   ·simp only[h,if_false]<;>omega
 ·cases hi with
  |none=>simp[sliceBounds,HT.jW]
  |some i=>
   simp only[sliceBounds,HT.jW,Option.getD_none,show(1:Int)>0 by decide,if_true]
   by_cases h:i<0
   ·simp only[h,if_true]<;>omega
   ·simp only[h,if_false]<;>omega
def yH(its:List Value)(lo hi:Option Int):slicePick its.toArray lo hi none=((its.drop (HT.jW its.length 0 lo)).take (HT.jW its.length its.length hi-HT.jW its.length 0 lo)).toArray:=by
 obtain⟨h1,h2,h3⟩:=Ai lo hi its.toArray.size;unfold slicePick;rw[h1,h2,h3];simp only[sliceRange_one,pick_run,Py]<;>rfl
def Mm(K:OX):V->Option Int->Option Int->Hp->VK->Prop:=λx lo hi H Q=>∃a xs,x=.ref a/\a0 K H a xs/\∀p,H p=none->Q (.ref p) (upd H p (.lst (Ag xs lo hi)))
def DP:M4 X (Mm X.K):=by
 intro pins s σ H x v vl vu lo hi sl Q I rx hs pl pu h;obtain⟨a,xs,rfl,hx,q⟩:=h;cases rx;obtain⟨its,r,ht,hz⟩:=I.list hx;have hlen:=r.length;refine⟨"list",_,slot_list_getitem.lookup,ht.isList.typeIs,?_⟩;refine wpAny_getItem_list_slice ht.isList hs pl pu .none (by simp) ?_ (by rw[Py]<;>omega);rw[yH,<-hlen];refine⟨.ref s.heap.objs.size,_,I.laid (t':=s.toks) (o:= .lst (Ag xs lo hi)) (λb ob q=>Pr _ q) (OZ _) ?_,rfl,q _ (I.cH.fresh (OZ _))⟩;exact⟨PD (Cd xs lo hi) hz,_,0,(r.drop (HT.jW xs.length 0 lo)).take (HT.jW xs.length xs.length hi-HT.jW xs.length 0 lo),PZ _ rfl⟩
def ka:V->Bool
 |.eC=>true
 |.bl _=>true
 |.int _=>true
 |.str _=>true
 |_=>false
def Ef:V->V->Bool
 |.eC,.eC=>true
 |.bl a,.bl b=>a==b
 |.bl a,.int b=>(if a then 1 else 0)==b
 |.int a,.bl b=>a==(if b then 1 else 0)
 |.int a,.int b=>a==b
 |.str a,.str b=>a==b
 |_,_=>false
def Lw{A:Around}{s:Shared}{y x:V}{u v:Value}(ry:RelV y u)(rx:RelV x v)(fy:ka y=true)(fx:ka x=true):SeqAt.EqAt A s u v (Ef y x):=by
 cases y with
 |eC=>
  cases ry;cases x with
  |eC=>cases rx;exact SeqAt.EqAt.same _
  |bl b=>cases rx;exact SeqAt.EqAt.none_bool b
  |int b=>obtain⟨t,rfl⟩:=rx;exact SeqAt.EqAt.none_int b t
  |str b=>obtain⟨t,rfl⟩:=rx;exact SeqAt.EqAt.none_str b t
  |_=>exact absurd (show false=true from fx) O3
 |bl a=>
  cases ry;cases x with
  |eC=>cases rx;exact SeqAt.EqAt.bool_none a
  |bl b=>cases rx;exact SeqAt.EqAt.bool_bool a b
  |int b=>obtain⟨t,rfl⟩:=rx;exact SeqAt.EqAt.bool_int a b t
  |str b=>obtain⟨t,rfl⟩:=rx;exact SeqAt.EqAt.bool_str a b t
  |_=>exact absurd (show false=true from fx) O3
 |int a=>
  obtain⟨t',rfl⟩:=ry;cases x with
  |eC=>cases rx;exact SeqAt.EqAt.int_none a t'
  |bl b=>cases rx;exact SeqAt.EqAt.int_bool a t' b
  |int b=>obtain⟨t,rfl⟩:=rx;exact SeqAt.EqAt.int_int a t' b t
  |str b=>obtain⟨t,rfl⟩:=rx;exact SeqAt.EqAt.int_str a t' b t
  |_=>exact absurd (show false=true from fx) O3
 |str a=>
  obtain⟨t',rfl⟩:=ry;cases x with
  |eC=>cases rx;exact SeqAt.EqAt.str_none a t'
  |bl b=>cases rx;exact SeqAt.EqAt.str_bool a t' b
  |int b=>obtain⟨t,rfl⟩:=rx;exact SeqAt.EqAt.str_int a t' b t
  |str b=>obtain⟨t,rfl⟩:=rx;exact SeqAt.EqAt.str_str a t' b t
  |_=>exact absurd (show false=true from fx) O3
 |_=>exact absurd (show false=true from fy) O3
def GI(x:V)(u:Value):Bool:=match u with
 |.none=>Ef .eC x
 |.bool b=>Ef (.bl b) x
 |.int i _=>Ef (.int i) x
 |.str z _=>Ef (.str z) x
 |_=>false
def ux{x y:V}{u:Value}(r:RelV y u)(f:ka y=true):GI x u=Ef y x:=by
 cases y with
 |eC=>cases r;rfl
 |bl b=>cases r;rfl
 |int i=>obtain⟨t,rfl⟩:=r;rfl
 |str z=>obtain⟨t,rfl⟩:=r;rfl
 |_=>exact absurd (show false=true from f) O3
def AM{x:V}:∀{xs:List V}{us:List Value},Vals xs us->xs.all ka=true->us.any (GI x)=xs.any λy=>Ef y x
 |_,_,.nil,_=>rfl
 |y::xs,u::us,.cons r t,f=>by
  rw[List.all_cons,Pe]at f;rw[Q8,Q8,ux r f.1,AM t f.2]
def o_{A:Around}{s:Shared}{x:V}{v:Value}(rx:RelV x v)(fx:ka x=true):∀{xs:List V}{us:List Value},Vals xs us->xs.all ka=true->∀u∈us,SeqAt.EqAt A s u v (GI x u)
 |_,_,.nil,_=>λu hu=>by cases hu
 |y::xs,u::us,.cons r t,f=>λu' hu=>by
  rw[List.all_cons,Pe]at f;rcases Po.mp hu with rfl|hu
  ·rw[ux r f.1];exact Lw r rx f.1 fx
  ·exact o_ rx fx t f.2 u' hu
def K1(x:V)(xs:List V):Bool:=xs.any λy=>Ef y x
def OR(K:OX)(neg:Bool):R2:=λx y H Q=>∃p xs,y=.ref p/\(a0 K H p xs\/iV K H p xs)/\ka x=true/\xs.all ka=true/\Q (.bl (if neg then !K1 x xs else K1 x xs)) H
def Ff:vq X (compareOp .In) (OR X.K false):=by
 intro pins s σ H x y v u Q I rx ry h;obtain⟨p,xs,rfl,hq,fx,fs,q⟩:=h;cases ry;rcases hq with hq|hq
 ·obtain⟨its,r,pl,hz⟩:=I.list hq
  refine SeqAt.in_listAt (GI x) pl.isList (λw hw=>o_ rx fx r fs w (by simpa using hw)) ⟨.bl _,H,I,rfl,?_⟩;rw[show its.toArray.any (GI x)=its.any (GI x) by simp,AM r fs];exact q
 ·obtain⟨its,r,pl,hz⟩:=I.tuple hq
  refine SeqAt.in_tupleAt (GI x) pl (λw hw=>o_ rx fx r fs w (by simpa using hw)) ⟨.bl _,H,I,rfl,?_⟩;rw[show its.toArray.any (GI x)=its.any (GI x) by simp,AM r fs];exact q
def bP:nE X (.builtin "len") (λxs H Q=>∃p ys,xs=[.ref p]/\(a0 X.K H p ys\/iV X.K H p ys)/\Q (.int ys.length) H):=by
 intro pins s σ H xs us Q I r h;obtain⟨p,ys,rfl,hq,q⟩:=h;obtain⟨u,rfl,rx⟩:=vals1 r;cases rx;have hn:=tZ;rcases hq with hq|hq
 ·obtain⟨its,r',pl,hz⟩:=I.list hq
  have hlen:=r'.length;exact Calls.call_len_list pl.isList (by simp only[Py]<;>omega) ⟨.int ys.length,H,I.tok _,⟨s.toks+1,by rw[Py,hlen]⟩,q⟩
 ·obtain⟨its,r',pl,hz⟩:=I.tuple hq
  have hlen:=r'.length;exact len_tuple pl (by simp only[Py]<;>omega) ⟨.int ys.length,H,I.tok _,⟨s.toks+1,by rw[Py,hlen]⟩,q⟩
def AF:nE X (.builtin "len") (λxs H Q=>∃z,xs=[.str z]/\z.length<=sizeLine/\Q (.int z.length) H):=by
 intro pins s σ H xs us Q I r h;obtain⟨z,rfl,hz,q⟩:=h;obtain⟨u,rfl,t,rfl⟩:=vals1 r;have hn:=tZ;exact len_str (by omega) ⟨.int z.length,H,I.tok _,⟨_,rfl⟩,q⟩
def sB:nE X (.type "list") (λxs H Q=>∃p ys,xs=[.ref p]/\(a0 X.K H p ys\/iV X.K H p ys)/\∀l,H l=none->Q (.ref l) (upd H l (.lst ys))):=by
 intro pins s σ H xs us Q I r h;obtain⟨p,ys,rfl,hq,q⟩:=h;obtain⟨u,rfl,rx⟩:=vals1 r;cases rx;have fin:∀(its:List Value),Vals ys its->ys.length<=sizeLine->∀(h':Heap)(c':Nat),(∀b o',s.heap.get? b=some o'->h'.get? b=some o')->
   h'.get? s.heap.objs.size=some {cls:= .type "list",dict:=none,data:= .seq its.toArray c',slots:=#[]}->EP X pins σ Q (.ref s.heap.objs.size) {s with heap:=h'}:=λits r' hz h' c' kp e=>
  ⟨.ref s.heap.objs.size,_,I.laid (t':=s.toks) kp (OZ _) (show dI X.prog X.w _ h' _ (.lst ys)from⟨hz,its,c',r',e⟩),rfl,q _ (I.cH.fresh (OZ _))⟩
 rcases hq with hq|hq
 ·obtain⟨its,r',pl,hz⟩:=I.list hq
  have hlen:=r'.length;obtain⟨o,ho,hc,n,hd⟩:=pl.isList;exact call_list_seq p (.inl rfl) ho hc hd (λh' c' kp e=>fin its r' hz h' c' kp e) (by simp only[Py]<;>omega)
 ·obtain⟨its,r',pl,hz⟩:=I.tuple hq
  have hlen:=r'.length;obtain⟨o,ho,hc,n,hd⟩:=pl;exact call_list_seq p (.inr rfl) ho hc hd (λh' c' kp e=>fin its r' hz h' c' kp e) (by simp only[Py]<;>omega)
def Ox(K:OX)(T:String)(x:V)(H:Hp):Prop:=match x with
 |.str _=>T="str"
 |.int _=>T="int"
 |.ref p=>(T="list"/\∃xs,a0 K H p xs)\/(T="tuple"/\∃o,K.lookup p=some o/\o.cls=.type "tuple"/\o.dict=none)\/
   (T="dict"/\((∃kvs,H p=some (.dK kvs))\/∃kvs,H p=some (.dT kvs)))\/(T="set"/\∃S n,H p=some (.set S n))
 |_=>False
def Kd{pins:List (Addr×Obj)}{σ:St}{H:Hp}{s:Shared}{T:String}{x:V}{v:Value}(I:Inv X pins σ H s)(r:RelV x v)(ty:Ox X.K T x H):
  s.TypeIs v T/\∀a,v=.ref a->∃ob,s.heap.get? a=some ob/\ob.dict=none:=by
 cases x with
 |str z=>
  obtain⟨t,rfl⟩:=r;cases(show T="str" from ty);exact⟨typeIs_str s z t,λ_ e=>nomatch e⟩
 |int i=>
  obtain⟨t,rfl⟩:=r;cases(show T="int" from ty);exact⟨typeIs_int s i t,λ_ e=>nomatch e⟩
 |ref p=>
  cases r;rcases ty with⟨rfl,xs,hq⟩|⟨rfl,o,hk,hc,hd⟩|⟨rfl,hk⟩|⟨rfl,S,n,hk⟩
  ·obtain⟨its,_,pl,_⟩:=I.list hq
   refine⟨pl.isList.typeIs,λa e=>?_⟩;cases e;obtain⟨o,n,e,c,hd,_⟩:=pl;exact⟨o,e,hd⟩
  ·refine⟨⟨o,I.qY p o hk,hc⟩,λa e=>?_⟩
   cases e;exact⟨o,I.qY _ o hk,hd⟩
  ·have z:∃o,s.heap.get? p=some o/\o.ExactDict:=by
    rcases hk with⟨kvs,hk⟩|⟨kvs,hk⟩
    ·obtain⟨_,_,_,_,o,_,_,e,ex,_⟩:=I.cH p _ hk
     exact⟨o,e,ex⟩
    ·obtain⟨_,_,_,_,o,_,_,e,ex,_⟩:=I.cH p _ hk
     exact⟨o,e,ex⟩
   obtain⟨o,e,ex⟩:=z;refine⟨⟨o,e,ex.1⟩,λa e2=>?_⟩;cases e2;exact⟨o,e,ex.2.1⟩
  ·obtain⟨o,_,_,_,e,ex,_⟩:=I.cH p _ hk
   refine⟨⟨o,e,ex.1⟩,λa e2=>?_⟩;cases e2;exact⟨o,e,ex.2.1⟩
 |_=>exact False.elim ty
def OP(K:OX)(T:String)(r:V->List V->Hp->VK->Prop)(to:TE)(t:TA):TE:=λσ H Q=>to σ H λx H1=>Ox K T x H1/\t σ H1 λxs H2=>r x xs H2 Q
variable{o e:Expr}{es:List Expr}{to:TE}{t:TA}{name:Str}{apos cpos:Pos}{T id:String}{r:V->List V->Hp->VK->Prop}
def jg(pa:PlainAttrs T)(slot:Slot T name id)(hty:typeOf (.builtin id)=pure (.type "method_descriptor"))(hm:MF X id r)(ho:PE X o to)(ha:PA X (e::es) t)
  (hbase:attributeBase o name X.env (eval o X.env)=eval o X.env:=by rfl)
  (hfew:((backTo cpos (starEach (e::es) X.env)).all (λx=> !x.1)&&(backToKw cpos (keywordEach [] X.env)).all (λx=>x.1.isSome)
   &&decide ((e::es).length+([]:List Keyword).length+(if([]:List Keyword).isEmpty then 0 else 1)<30))=true:=by rfl)
  (hline:(apos.endLine==cpos.line)=true:=by rfl)(hs:starEach (e::es) X.env=(false,eval e X.env)::starEach es X.env:=by rfl)(hplain:(backTo cpos (starEach es X.env)).any (·.1)=false:=by rfl):
  PE X (.Call (.Attribute o name apos) (e::es) [] cpos) (OP X.K T r to t):=by
 intro pins s σ H Q I h;refine wpAny_Call_method_late hbase hfew hline rfl (dR (ho pins s σ H _ I h) λv s1⟨x,H1,I1,r1,ty,q1⟩=>?_);obtain⟨h1,h2⟩:=Kd I1 r1 ty;refine⟨T,id,pa,slot,hty,h1,h2,?_⟩;have hA:=ha cpos pins s1 σ H1 _ I1 q1;rw[hs]at hA ⊢;refine Calls.callWith_builtin (by show(false||(backTo cpos (starEach es X.env)).any (·.1))=false;rw[hplain]<;>rfl) (Calls.evalArgs_plain ?_);exact dR hA λus s2⟨vs,H2,I2,r2,q2⟩=>hm pins s2 σ H2 x vs v us Q I2 r1 r2 q2
end
def Os(X:Cx)(id:String)(r:V->List V->Hp->VK->Prop):Prop:=
 ∀(pins:List (Addr×Obj))(s:Shared)(σ:St)(H:Hp)(x:V)(xs:List V)(v:Value)(us:List Value)(Q:VK),Inv X pins σ H s->RelV x v->Vals xs us->r x xs H Q->
  wpAny (model X.prog X.w) X.A (call (.builtin id) (v::us)) (EP X pins σ Q) X.xe s
def Vals.one:∀{x:V}{us:List Value},Vals [x] us->∃u,us=[u]/\RelV x u
 |_,_,.cons r .nil=>⟨_,rfl,r⟩
section
variable{X:Cx}{pins:List (Addr×Obj)}{σ:St}{H:Hp}{s:Shared}{l b:Addr}{xs ys zs:List V}
def Inv.LS{its its':List Value}{n:Nat}{f:Array Value->Array Value}{t':Nat}(I:Inv X pins σ H s)(hH:H l=some (.lst xs))
  (e:s.heap.get? l=some {cls:= .type "list",data:= .seq its.toArray n})(hf:f its.toArray=its'.toArray)(hv:Vals ys its')(hz:ys.length<=sizeLine):
  Inv X pins σ (upd H l (.lst ys)) {s with heap:=s.heap.update l (Obj.mapSeq f),toks:=t'}:=by
 have q:=PySem.IsL.update e f;rw[hf]at q;refine I.write (x:=l) (e:=l) (by rw[hH];exact trivial) (.inl rfl) (λb' u hb hu=>(QE s.heap (Obj.mapSeq f) (Pb hb)).trans hu) ⟨_,q⟩ ?_;exact⟨hz,its',_,hv,q⟩
def Inv.Nb{its:List Value}{t':Nat}(I:Inv X pins σ H s)(hv:Vals ys its)(hz:ys.length<=sizeLine):
  Inv X pins σ (upd H s.heap.objs.size (.lst ys)) {s with heap:=s.heap.push {cls:= .type "list",data:= .seq its.toArray},toks:=t'}:=
 I.laid (λ_ _ q=>Pr _ q) (OZ _) ⟨hz,its,0,hv,PZ _ rfl⟩
def Inv.fresh(I:Inv X pins σ H s):H s.heap.objs.size=none:=I.cH.fresh (OZ _)
def Inv.He(I:Inv X pins σ H s)(hH:H l=some (.lst xs)):xs.length<=sizeLine/\∃(its:List Value)(n:Nat),Vals xs its/\xs.length=its.length/\s.heap.get? l=some {cls:= .type "list",data:= .seq its.toArray n}:=by
 obtain⟨z,its,n,r,e⟩:=I.cH l _ hH;exact⟨z,its,n,r,r.length,e⟩
def GB{n:Nat}(h:n<=sizeLine):Builtin.List.listTooLong n=false:=by
 unfold Builtin.List.listTooLong;exact PF (by omega)
end
section
variable{X:Cx}
def Jw:V->List V->Hp->VK->Prop:=λx vs H Q=>∃l xs y,x=.ref l/\vs=[y]/\H l=some (.lst xs)/\xs.length<sizeLine/\Q .eC (upd H l (.lst (xs++[y])))
def gH:Os X "list.append" Jw:=by
 intro pins s σ H x vs v us Q I rx rv h;obtain⟨l,xs,y,rfl,rfl,hH,hz,q⟩:=h;cases rx;obtain⟨u,rfl,ru⟩:=rv.one;obtain⟨z,its,n,r,hl,e⟩:=I.He hH;refine call_meets F.slot_list_append ⟨_,e,rfl⟩ F.entry_list_append (F.args_list_append_2 _ _) (PySem.list_append l its.toArray n u (by rw[Py];omega)) ⟨e,?_⟩;refine⟨.eC,_,I.LS (its':=its++[u]) hH e (by simp) (r.append (.cons ru .nil)) ?_,rfl,q⟩;rw[Pd,P0];omega
def IT:V->List V->Hp->VK->Prop:=λx vs H Q=>∃l b xs zs,x=.ref l/\vs=[.ref b]/\H l=some (.lst xs)/\H b=some (.lst zs)/\xs.length+zs.length<=sizeLine/\Q .eC (upd H l (.lst (xs++zs)))
def kJ:Os X "list.extend" IT:=by
 intro pins s σ H x vs v us Q I rx rv h;obtain⟨l,b,xs,zs,rfl,rfl,hH,hB,hz,q⟩:=h;cases rx;obtain⟨u,rfl,ru⟩:=rv.one;cases ru;obtain⟨z,its,n,r,hl,e⟩:=I.He hH;obtain⟨z2,its2,n2,r2,hl2,e2⟩:=I.He hB;have hsz:its.toArray.size+its2.toArray.size<=sizeLine:=by rw[Py,Py];omega
 have hlong:¬(!its.toArray.isEmpty&&Builtin.List.listTooLong (its.toArray.size+its2.toArray.size))=true:=by
  rw[GB hsz,Bool.and_false];exact O3
 refine call_meets F.slot_list_extend ⟨_,e,rfl⟩ F.entry_list_extend (F.args_list_extend_2 _ _)
  (AutoSeq1.list_extend_list_list_0 l its.toArray n b its2.toArray n2 hlong (by rw[Py];omega) (by omega)) ⟨e,e2,?_⟩
 refine⟨.eC,_,I.LS (its':=its++its2) hH e (by simp) (r.append r2) ?_,rfl,q⟩;rw[Pd];omega
def Of:R2:=λx y H Q=>∃l b xs zs,x=.ref l/\y=.ref b/\H l=some (.lst xs)/\H b=some (.lst zs)/\xs.length+zs.length<=sizeLine/\∀p,H p=none->Q (.ref p) (upd H p (.lst (xs++zs)))
def pU:vq X (binaryOp .Add) Of:=by
 intro pins s σ H x y v u Q I rx ry h;obtain⟨l,b,xs,zs,rfl,rfl,hH,hB,hz,q⟩:=h;cases rx;cases ry;obtain⟨z,its,n,r,hl,e⟩:=I.He hH;obtain⟨z2,its2,n2,r2,hl2,e2⟩:=I.He hB;refine PySem.P.add_list e e2 ?_ (by rw[Py,Py];omega);have ea:its.toArray++its2.toArray=(its++its2).toArray:=by simp
 rw[ea];exact⟨.ref _,_,I.Nb (t':=s.toks) (r.append r2) (by rw[Pd];omega),rfl,q _ I.fresh⟩
end
def Vals.ints:∀{ns:List Int}{us:List Value},Vals (ns.map V.int) us->IntsAre us ns
 |[],us,h=>by
  rw[List.map_nil]at h;cases h;exact IntsAre.nil
 |n::ns,us,h=>by
  rw[PY]at h;cases h with
  |cons r t=>
   obtain⟨k,rfl⟩:=r;exact IntsAre.cons n k (Vals.ints t)
def sV:∀{us:List Value}{ns:List Int},IntsAre us ns->Vals (ns.map V.int) us
 |_,_,.nil=>by rw[List.map_nil];exact Paired.nil
 |_,_,.cons n t h=>by rw[PY];exact Paired.cons (show RelV (V.int n) (Value.int n t)from⟨t,rfl⟩) (sV h)
def Vals.NO:∀{bs:List Bool}{us:List Value},Vals (bs.map V.bl) us->us=bs.map Value.bool
 |[],us,h=>by
  rw[List.map_nil]at h;cases h;rfl
 |b::bs,us,h=>by
  rw[PY]at h;cases h with
  |cons r t=>
   cases r;rw[Vals.NO t,PY]
def Vals.HQ{a:Addr}{us:List Value}(r:Vals [V.ref a] us):us=[Value.ref a]:=by
 cases r with
 |cons r t=>
  cases t;cases r;rfl
section
variable{prog:PN}{w:World}{A:Around}{E:Value->Shared->Prop}{s:Shared}{l:Addr}{its:List Value}{ns:List Int}{Q:Value->Shared->Prop}
def Ij(hh:A.handled=none)(hl:s.heap.IsList l its.toArray)(hi:IntsAre its ns)
  (h:∀h' tk t',(∀b o,s.heap.get? b=some o->h'.get? b=some o)->Q (.int ns.sum t') {s with heap:=h',toks:=tk}):wpAny (model prog w) A (call (.builtin "sum") [.ref l]) Q E s:=by
 obtain⟨xs,e⟩:=hi.allInts.items;have hn:numsOf (intItems xs).toList=ns:=by rw[<-e];exact hi.numsOf
 rw[nums_intItems]at hn;rw[e]at hl;refine PySem.sum_intListG hh hl λh' tk t' hk=>?_;have:=h h' tk t' hk;rw[preSum_eq,PB (by simp),hn];exact this
end
section
variable{X:Cx}
def NB(K:OX):List V->Hp->VK->Prop:=λvs H Q=>∃(a:Addr)(ns:List Int),vs=[V.ref a]/\a0 K H a (ns.map V.int)/\Q (.int ns.sum) H
def Dd(hc:X.calm=true):nE X (.builtin "sum") (NB X.K):=by
 intro pins s σ H vs us Q I r h;obtain⟨a,ns,rfl,hs,q⟩:=h;obtain⟨its,rv,hl,_⟩:=I.list hs;rw[Vals.HQ r];exact Ij (I.ok.hd hc) hl.isList rv.ints λh' tk t' hk=>⟨.int _,H,I.kept hk,⟨_,rfl⟩,q⟩
end
section
variable{X:Cx}
def Kq(K:OX):V->List V->Hp->VK->Prop:=λx xs H Q=>∃(a:Addr)(ys:List V)(y:V)(j:Nat)(z:V),x=V.ref a/\xs=[y]/\a0 K H a ys/\ka y=true/\ys.all ka=true/\ys[j]? =some z/\Ef z y=true/\
 (∀(m:Nat)(z':V),m<j->ys[m]? =some z'->Ef z' y=false)/\Q (.int (j:Nat)) H
def vU{ys:List V}(f:ys.all ka=true){j:Nat}{z:V}(h:ys[j]? =some z):ka z=true:=QI.mp f z (Pw h)
def FW:MF X "list.index" (Kq X.K):=by
 intro pins s σ H x xs v us Q I rx rxs h;obtain⟨a,ys,y,j,z,rfl,rfl,hs,fy,fys,hz,hzj,hno,q⟩:=h;cases rx;cases rxs with
 |cons ry rt=>
  rename_i uy ut
  cases rt;obtain⟨its,rv,⟨⟨cls,dd,data,sl⟩,n,ho,hc,hdn,hd⟩,hlen⟩:=I.list hs;simp only at hc hd;subst hc hd;obtain⟨u,hu,ru⟩:=rv.get hz;obtain⟨hjl,hje⟩:=O6.mp hu;have hvl:=rv.length;have hj:j<its.toArray.size:=by simpa using hjl
  have hsl:=O2;refine call_meets PySem.F.slot_list_index ⟨_,ho,rfl⟩ PySem.F.entry_list_index (PySem.F.args_list_index_2 _ _)
   (SeqAt.list_indexAt a its.toArray n dd sl uy (GI y) j hj (by omega) ?_ ?_) ⟨ho,λu' hu'=>o_ ry fy rv fys u' (by simpa using hu'),?_⟩
  ·have e1:its.toArray[j]=u:=by simpa using hje
   rw[e1,ux ru (vU fys hz)];exact hzj
  ·intro m hm hmj
   have hml:m<its.length:=by simpa using hm
   have hmy:m<ys.length:=by omega
   have hy':ys[m]? =some ys[m]:=OY hmy;obtain⟨u2,hu2,ru2⟩:=rv.get hy';obtain⟨_,hme⟩:=O6.mp hu2;have e1:its.toArray[m]=u2:=by simpa using hme
   rw[e1,ux ru2 (vU fys hy')];exact hno m _ hmj hy'
  ·exact⟨.int (j:Nat),H,I.tok _,⟨_,rfl⟩,q⟩
end
def BF{prog:PN}{w:World}{A:Around}{E:Value->Shared->Prop}{s:Shared}{l:Addr}{items:Array Value}{Q:Value->Shared->Prop}(hl:s.heap.IsList l items)
  (h:∀s₂:Shared,s₂={s with heap:=s.heap.push {cls:= .type "list_iterator",data:= .fields #[.ref l,.int 0 0]}}->
   (s₂.heap.IsListIter s.heap.objs.size l 0/\s₂.heap.IsList l items)->l≠s.heap.objs.size->Q (.ref s.heap.objs.size) s₂):wpAny (model prog w) A (pyIter (.ref l)) Q E s:=by
 have hlt:l<s.heap.objs.size:=by obtain⟨_,e,_⟩:=hl;exact Pf e
 exact wpAny_pyIter_list hl (h _ rfl ⟨⟨_,PZ _ rfl,rfl,rfl⟩,hl.push _⟩ (PX hlt))
def u_{prog:PN}{w:World}{A:Around}{bs:List Bool}{its:List Value}(e:its=bs.map Value.bool):
  TruthOf prog w A (λi v=>its.toArray[i]? =some v) (λi=>bs.getD i false):=λi v s Q E hv hq=>by
 have hv':its[i]? =some v:=by simpa using hv
 rw[e,Ph]at hv';obtain⟨b,hb,rfl⟩:=Rq.mp hv';have hg:bs.getD i false=b:=by rw[List.getD_eq_getElem?_getD,hb]<;>rfl
 have hq':Q (bs.getD i false) s:=hq;rw[hg]at hq';exact QF hq'
def any_range:∀bs:List Bool,(List.range bs.length).any (λi=>bs.getD i false)=bs.any id
 |[]=>rfl
 |b::bs=>by
  rw[Pt,Q1,Q8,QT,Q8,<-any_range bs]
  all_goals rfl
def all_range:∀bs:List Bool,(List.range bs.length).all (λi=>bs.getD i false)=bs.all id
 |[]=>rfl
 |b::bs=>by
  rw[Pt,Q1,List.all_cons,List.all_map,List.all_cons,<-all_range bs]
  all_goals rfl
section
variable{X:Cx}
def NN(K:OX):List V->Hp->VK->Prop:=λvs H Q=>∃(a:Addr)(bs:List Bool),vs=[V.ref a]/\a0 K H a (bs.map V.bl)/\Q (.bl (bs.any id)) H
def NS(K:OX):List V->Hp->VK->Prop:=λvs H Q=>∃(a:Addr)(bs:List Bool),vs=[V.ref a]/\a0 K H a (bs.map V.bl)/\Q (.bl (bs.all id)) H
def CB(hc:X.calm=true):nE X (.builtin "any") (NN X.K):=by
 intro pins s σ H vs us Q I r h;obtain⟨a,bs,rfl,hs,q⟩:=h;obtain⟨its,rv,hl,_⟩:=I.list hs;rw[Vals.HQ r];have hb:=rv.NO;refine call_any_walk (BF hl.isList λs₂ e2 st hne=>?_);subst e2;refine⟨_,_,_,_,_,_,_,rfl,Walks.list (A:=X.A.in1) (I.ok.hd hc) _ a hne its.toArray,st,u_ hb,λh' tk hk=>?_⟩;refine⟨.bl _,H,I.kept λb o eo=>hk b o (λhmem=>?_) (Pr _ eo),?_,q⟩
 ·rcases Po.mp hmem with e1|hmem
  ·exact absurd (e1▸Pf eo) (Qw _)
  ·cases hmem
 ·show Value.bool _=Value.bool _
  rw[<-any_range,hb,Py,OU]
def J8(hc:X.calm=true):nE X (.builtin "all") (NS X.K):=by
 intro pins s σ H vs us Q I r h;obtain⟨a,bs,rfl,hs,q⟩:=h;obtain⟨its,rv,hl,_⟩:=I.list hs;rw[Vals.HQ r];have hb:=rv.NO;refine call_all_walk (BF hl.isList λs₂ e2 st hne=>?_);subst e2;refine⟨_,_,_,_,_,_,_,rfl,Walks.list (A:=X.A.in1) (I.ok.hd hc) _ a hne its.toArray,st,u_ hb,λh' tk hk=>?_⟩;refine⟨.bl _,H,I.kept λb o eo=>hk b o (λhmem=>?_) (Pr _ eo),?_,q⟩
 ·rcases Po.mp hmem with e1|hmem
  ·exact absurd (e1▸Pf eo) (Qw _)
  ·cases hmem
 ·show Value.bool _=Value.bool _
  rw[<-all_range,hb,Py,OU]
end
mutual
inductive Dp(K:OX)(H:Hp):V->PyData->Prop
 |eC:Dp K H .eC .none
 |bl (b:Bool):Dp K H (.bl b) (.bool b)
 |int (i:Int):Dp K H (.int i) (.int i)
 |str (x:Str):Dp K H (.str x) (.str x)
 |lst {a:Addr} {xs:List V} {ds:List PyData}:a0 K H a xs->wK K H xs ds->Dp K H (.ref a) (.list ds)
 |tup {a:Addr} {xs:List V} {ds:List PyData}:iV K H a xs->wK K H xs ds->Dp K H (.ref a) (.tuple ds)
inductive wK(K:OX)(H:Hp):List V->List PyData->Prop
 |nil:wK K H [] []
 |cons {v:V} {vs:List V} {d:PyData} {ds:List PyData}:Dp K H v d->wK K H vs ds->wK K H (v::vs) (d::ds)
end
section
variable{X:Cx}{pins:List (Addr×Obj)}{σ:St}{H:Hp}{s:Shared}
mutual
def Dp.reads(I:Inv X pins σ H s):∀(d:PyData)(v:V)(u:Value),Dp X.K H v d->RelV v u->∃as,Reads s.heap u d as
 |.none,_,_,h,r=>by
  cases h;cases r;exact⟨_,Reads.none⟩
 |.bool b,_,_,h,r=>by
  cases h;cases r;exact⟨_,Reads.bool b⟩
 |.int i,_,_,h,r=>by
  cases h;obtain⟨t,rfl⟩:=r;exact⟨_,Reads.int i t⟩
 |.str x,_,_,h,r=>by
  cases h;obtain⟨t,rfl⟩:=r;exact⟨_,Reads.str x t⟩
 |.list ds,_,_,h,r=>by
  cases h with
  |lst hs ha=>
   cases r;obtain⟨its,rv,⟨o,n,ho,hc,_,hd⟩,_⟩:=I.list hs;obtain⟨as,hr⟩:=Dp.readsAll I ds _ its ha rv;exact⟨_,Reads.list ho hc hd hr⟩
 |.tuple ds,_,_,h,r=>by
  cases h with
  |tup hs ha=>
   cases r;obtain⟨its,rv,⟨o,ho,hc,n,hd⟩,_⟩:=I.tuple hs;obtain⟨as,hr⟩:=Dp.readsAll I ds _ its ha rv;exact⟨_,Reads.tuple ho hc hd hr⟩
 |.dict _,_,_,h,_=>by cases h
def Dp.readsAll(I:Inv X pins σ H s):∀(ds:List PyData)(vs:List V)(us:List Value),wK X.K H vs ds->Vals vs us->∃as,ReadsAll s.heap us ds as
 |[],_,_,h,r=>by
  cases h;cases r;exact⟨_,ReadsAll.nil⟩
 |d::ds,_,_,h,r=>by
  cases h with
  |cons h1 h2=>
   cases r with
   |cons r1 r2=>
    obtain⟨as,q1⟩:=Dp.reads I d _ _ h1 r1;obtain⟨bs,q2⟩:=Dp.readsAll I ds _ _ h2 r2;exact⟨_,ReadsAll.cons q1 q2⟩
end
end
section
variable{X:Cx}
def Nk(K:OX):R2:=λx y H Q=>∃d e,Dp K H x d/\Dp K H y e/\SeqAt.shaped d=true/\SeqAt.shaped e=true/\Q (.bl (PyData.eqv d e)) H
def Lx(hu:X.A.units+64<cLine):vq X (compareOp .Eq) (Nk X.K):=by
 intro pins s σ H x y v u Q I rx ry h;obtain⟨d,e,hd,he,sd,se,q⟩:=h;obtain⟨as,r1⟩:=Dp.reads I d x v hd rx;obtain⟨bs,r2⟩:=Dp.reads I e y u he ry;exact SeqAt.compareEq_shaped r1 r2 sd se hu ⟨.bl _,H,I,rfl,q⟩
end
abbrev GH(h:Heap)(c:Addr)(v:Option Value):Prop:=h.IsCell c v
def NR(scope sc:Scope):Scope:=
 {scope with names:=scope.names.map λ(n,k)=>if(k== .free&&sc.kind== .function&&sc.names.lookup n==some .cell)then(n,.cell)else(n,k)}
def cS(cells:List (Str×Addr)):List (Str×NameKind)->List (Str×Addr)->List (Str×Addr)
 |[],acc=>acc
 |(n,k)::r,acc=>if k== .free then cS cells r ((n,(cells.lookup n).getD 0)::acc)else cS cells r acc
def sK(env:Env)(f:Str×NameKind->List (Str×Addr)->Sem (ForInStep (List (Str×Addr))))
  (hf:∀n k c,f (n,k) c=if k== .free then(do let a<-cellOf env n;pure (.yield ((n,a)::c)))else pure (.yield c)):
  ∀(names:List (Str×NameKind))(acc:List (Str×Addr)),(∀y∈names,y.2=.free->∃c,env.cells.lookup y.1=some c)->forIn names acc f=pure (cS env.cells names acc)
 |[],acc,_=>by rw[List.forIn_nil];rfl
 |(n,k)::r,acc,h=>by
  rw[List.forIn_cons,hf];have ih:=λacc=>sK env f hf r acc λy hy=>h y (Pa _ hy);unfold cS
  by_cases hk:(k==NameKind.free)=true
  ·rw[OW hk,OW hk]
   obtain⟨c,hc⟩:=h (n,k) O8 (by simpa using hk);have e:cellOf env n=pure c:=by unfold cellOf;rw[hc]
   rw[e];have e2:(env.cells.lookup n).getD 0=c:=by rw[hc];rfl
   rw[e2];exact ih _
  ·rw[OV hk,OV hk]
   exact ih _
def Cr{scope:Scope}{env:Env}(h:∀y∈scope.names,y.2=.free->∃c,env.cells.lookup y.1=some c):closureFor scope env=pure (cS env.cells scope.names []):=by
 simp only[closureFor];rw[sK env _ (λn k c=>rfl) scope.names [] h];rfl
def mem_lookup{α:Type}:∀{l:List (Str×α)}{n:Str}{c:α},(n,c)∈l->∃c',l.lookup n=some c'
 |(k,v)::r,n,c,h=>by
  rw[QZ];cases hb:n==k with
  |true=>exact⟨_,rfl⟩
  |false=>
   rcases Po.mp h with e|h
   ·cases e;simp at hb
   ·exact mem_lookup h
def lX{cells:List (Str×Addr)}:∀{names:List (Str×NameKind)}{acc:List (Str×Addr)}{n:Str}{c:Addr},(n,c)∈cS cells names acc->(n,c)∈acc\/((n,.free)∈names/\c=(cells.lookup n).getD 0)
 |[],_,_,_,h=>.inl h
 |(m,k)::r,acc,n,c,h=>by
  unfold cS at h;split at h
  ·rename_i hk
   have hk:k=.free:=by simpa using hk
   rcases lX h with h|⟨h1,h2⟩
   ·rcases Po.mp h with e|h
    ·cases e;exact .inr ⟨hk▸O8,rfl⟩
    ·exact .inl h
   ·exact .inr ⟨Pa _ h1,h2⟩
  ·rcases lX h with h|⟨h1,h2⟩
   ·exact .inl h
   ·exact .inr ⟨Pa _ h1,h2⟩
def oZ{cells:List (Str×Addr)}:∀{names:List (Str×NameKind)}{acc:List (Str×Addr)}{p:Str×Addr},p∈acc->p∈cS cells names acc
 |[],_,_,h=>h
 |(m,k)::r,acc,p,h=>by
  unfold cS;split
  ·exact oZ (Pa _ h)
  ·exact oZ h
def pQ{cells:List (Str×Addr)}:∀{names:List (Str×NameKind)}{acc:List (Str×Addr)}{n:Str},(n,.free)∈names->(n,(cells.lookup n).getD 0)∈cS cells names acc
 |(m,k)::r,acc,n,h=>by
  unfold cS;rcases Po.mp h with e|h
  ·cases e
   exact oZ O8
  ·split
   ·exact pQ h
   ·exact pQ h
def nH:∀{names:List (Str×NameKind)}{h:Heap}{acc:List (Str×Addr)}{x:Str}{c:Addr},(x,c)∈cellsFrom h.objs.size names acc->
  (x,c)∈acc\/((x,.cell)∈names/\h.objs.size<=c/\GH (pushCells h names) c none)
 |[],_,_,_,_,h=>.inl h
 |(n,k)::r,h,acc,x,c,hm=>by
  unfold cellsFrom at hm;unfold pushCells;split at hm
  ·rename_i hk
   rw[OW hk];have hk:k=.cell:=by simpa using hk
   rw[<-Qz h {cls:= .type "cell",data:= .cell none}]at hm;rcases nH hm with hm|⟨h1,h2,h3⟩
   ·rcases Po.mp hm with e|hm
    ·cases e
     exact .inr ⟨hk▸O8,OZ _,_,pushCells_keeps r _ _ _ (PZ _ rfl),rfl⟩
    ·exact .inl hm
   ·rw[Qz]at h2
    exact .inr ⟨Pa _ h1,Rr h2,h3⟩
  ·rename_i hk
   rw[OV hk];rcases nH hm with hm|⟨h1,h2,h3⟩
   ·exact .inl hm
   ·exact .inr ⟨Pa _ h1,h2,h3⟩
def qj:∀{names:List (Str×NameKind)}{n:Nat}{acc:List (Str×Addr)}{p:Str×Addr},p∈acc->p∈cellsFrom n names acc
 |[],_,_,_,h=>h
 |(m,k)::r,n,acc,p,h=>by
  unfold cellsFrom;split
  ·exact qj (Pa _ h)
  ·exact qj h
def ur:∀{names:List (Str×NameKind)}{n:Nat}{acc:List (Str×Addr)}{x:Str},(x,.cell)∈names->∃c,(x,c)∈cellsFrom n names acc
 |(m,k)::r,n,acc,x,h=>by
  unfold cellsFrom;rcases Po.mp h with e|h
  ·cases e
   exact⟨n,qj O8⟩
  ·split
   ·exact ur h
   ·exact ur h
def uk:∀{names:List (Str×NameKind)}{h:Heap}{acc:List (Str×Addr)}{x y:Str}{c:Addr},(∀p∈acc,p.2<h.objs.size)->(∀x y c,(x,c)∈acc->(y,c)∈acc->x=y)->
  (x,c)∈cellsFrom h.objs.size names acc->(y,c)∈cellsFrom h.objs.size names acc->x=y
 |[],_,_,_,_,_,_,hi,h1,h2=>hi _ _ _ h1 h2
 |(n,k)::r,h,acc,x,y,c,hl,hi,h1,h2=>by
  unfold cellsFrom at h1 h2;split at h1
  ·rename_i hk
   rw[OW hk]at h2;rw[<-Qz h {cls:= .type "cell",data:= .cell none}]at h1 h2;refine uk (h:=h.push _) (λp hp=>?_) (λx y c a b=>?_) h1 h2
   ·rw[Qz]
    rcases Po.mp hp with rfl|hp
    ·exact Nat.lt_succ_self _
    ·exact Nat.lt_succ_of_lt (hl p hp)
   ·rcases Po.mp a with e|a<;>rcases Po.mp b with e'|b
    ·cases e;cases e';rfl
    ·cases e;exact absurd (hl _ b) (Qw _)
    ·cases e';exact absurd (hl _ a) (Qw _)
    ·exact hi _ _ _ a b
  ·rename_i hk
   rw[OV hk]at h2;exact uk hl hi h1 h2
def Ba{M:Model}{A:Around}{E:Value->Shared->Prop}{s:Shared}{scope:Scope}{globals:Addr}{closure:List (Str×Addr)}{qual:Str}{func:Option Addr}{code:Value}{around:Env}{builtins:Addr}{Q:Env->Shared->Prop}
  (h:Q (newEnv scope s.heap.objs.size globals (cellsFrom (s.heap.objs.size+1) scope.names closure) qual func code (some around) builtins)
   {s with heap:=pushCells (s.heap.push {cls:= .type "dict",data:= .dict #[]}) scope.names}):
  wpAny M A (newFunctionEnv scope globals closure [] qual func code (some around) builtins) Q E s:=by
 simp only[newFunctionEnv,Option.isSome_some,if_true];refine O4 (wpAny_alloc ?_);refine O4 (wpAny_layCells _ (λn k c=>rfl) scope.names closure _ _ ?_);rw[show({s with heap:=s.heap.push {cls:= .type "dict",data:= .dict #[]}}:Shared).heap.objs.size=s.heap.objs.size+1 from Qz ..];rw[List.forIn_nil];exact O4 (PM (PM h))
def pd{sc:Scope}:∀{names:List (Str×NameKind)}{x:Str}{k:NameKind},
  (names.map λ(n,k)=>if(k==NameKind.free&&sc.kind== .function&&sc.names.lookup n==some .cell)then(n,NameKind.cell)else(n,k)).lookup x=some k->
  ∃k',names.lookup x=some k'/\(k=k'\/(k'=.free/\k=.cell))
 |[],_,_,h=>by simp at h
 |(n,k₀)::r,x,k,h=>by
  have ih:=@pd sc r x k;have h':List.lookup x ((if(k₀==NameKind.free&&sc.kind== .function&&sc.names.lookup n==some .cell)=true then(n,NameKind.cell)else(n,k₀))::(r.map _))=some k:=h;cases hx:x==n with
  |true=>
   simp only[QZ,hx]
   by_cases hc:(k₀==NameKind.free&&sc.kind== .function&&sc.names.lookup n==some .cell)=true
   ·rw[OW hc]at h'
    simp only[QZ,hx]at h';cases h';simp only[Pe,Qj]at hc;exact⟨k₀,rfl,.inr ⟨hc.1.1,rfl⟩⟩
   ·rw[OV hc]at h'
    simp only[QZ,hx]at h';cases h';exact⟨_,rfl,.inl rfl⟩
  |false=>
   simp only[QZ,hx]
   by_cases hc:(k₀==NameKind.free&&sc.kind== .function&&sc.names.lookup n==some .cell)=true
   ·rw[OW hc]at h'
    simp only[QZ,hx]at h';exact ih h'
   ·rw[OV hc]at h'
    simp only[QZ,hx]at h';exact ih h'
structure B8(N:List Str)(sc scope:Scope)(own:List (Str×Nat)):Prop where
 kind:scope.kind=.function
 uniq:∀y∈scope.names,scope.names.lookup y.1=some y.2
 ix:∀p∈own,N[p.2]? =some p.1
 free:∀y∈scope.names,y.2=.free->sc.names.lookup y.1=some .cell\/sc.names.lookup y.1=some .free
 own:∀y∈scope.names,y.2=.local\/y.2=.cell->y.1∈own.map (·.1)\/y.1∉N
def wipe(σ:St):List Nat->St
 |[]=>σ
 |v::vs=>(wipe σ vs).set v none
def pK(σ:St):∀vs:List Nat,(wipe σ vs).length=σ.length
 |[]=>rfl
 |v::vs=>by unfold wipe;rw[QN,pK σ vs]
def uu{σ:St}{i:Nat}{x:V}:∀{vs:List Nat},(wipe σ vs)[i]? =some (some x)->σ[i]? =some (some x)/\i∉vs
 |[],h=>⟨h,by simp⟩
 |v::vs,h=>by
  unfold wipe at h
  by_cases hi:v=i
  ·subst hi
   by_cases hv:v<(wipe σ vs).length
   ·rw[List.getElem?_set_self hv]at h;cases h
   ·rw[Rt (by simpa using hv)]at h;cases h
  ·rw[List.getElem?_set_ne hi]at h
   obtain⟨h1,h2⟩:=uu h;exact⟨h1,by simp only[Po,not_or];exact⟨λe=>hi e.symm,h2⟩⟩
abbrev Cx.xX(X:Cx)(s:Shared)(H:Hp)(scope:Scope)(cenv:Env)(fp:List Addr):Cx:={X with vI:=s,LO:=H,env:=cenv,outer:=X.stack,ex:=fp,fn:=λx=>scope.names.lookup x==some .cell,pn:=[],xe:=λ_ _=>False}
section
variable{X:Cx}{pins:List (Addr×Obj)}{σ:St}{H:Hp}{s:Shared}
def BJ{scope:Scope}{own:List (Str×Nat)}{fp:List Addr}(I:Inv X pins σ H s)(ok:B8 X.N X.env.scope scope own)(hN:X.N.Nodup)(hfp:∀b∈fp,vL X pins H b/\b<s.heap.objs.size):
  Inv (X.xX s H scope (compEnvC scope (cellsFrom (s.heap.objs.size+1) scope.names (cS X.env.cells scope.names [])) s.heap.objs.size X.env) fp) [] (wipe σ (own.map (·.2))) H {s with heap:=pushCells (s.heap.push {cls:= .type "dict",data:= .dict #[]}) scope.names}:=by
 have hfree:∀y∈scope.names,y.2=.free->∃c,X.env.cells.lookup y.1=some c:=λy hy e=>by
  rcases ok.free y hy e with k|k
  ·exact I.ok.has _ (.inl k)
  ·exact I.ok.has _ (.inr k)
 generalize hcenv:compEnvC scope (cellsFrom (s.heap.objs.size+1) scope.names (cS X.env.cells scope.names [])) s.heap.objs.size X.env=cenv;have kp:∀b o,s.heap.get? b=some o->(pushCells (s.heap.push {cls:= .type "dict",data:= .dict #[]}) scope.names).get? b=some o:=λb o e=>pushCells_keeps _ _ _ _ (Pr _ e);have hL:cenv.locals=s.heap.objs.size:=by rw[<-hcenv];rfl
 have hcl:cenv.cells=cellsFrom (s.heap.objs.size+1) scope.names (cS X.env.cells scope.names []):=by rw[<-hcenv];rfl
 have hsc:cenv.scope=NR scope X.env.scope:=by rw[<-hcenv];rfl
 rw[<-Qz s.heap {cls:= .type "dict",data:= .dict #[]}]at hcl;have cm:∀{y c},(y,c)∈cS X.env.cells scope.names []->X.env.cells.lookup y=some c/\c<s.heap.objs.size:=λ{y c} hm=>by
  rcases lX hm with hm|⟨h1,rfl⟩
  ·cases hm
  ·obtain⟨c,hc⟩:=hfree _ h1 rfl
   rw[hc];obtain⟨w,z⟩:=I.cell _ _ hc;exact⟨rfl,z.lt⟩
 have mem:∀{y c},cenv.cells.lookup y=some c->(X.env.cells.lookup y=some c/\c<s.heap.objs.size)\/(s.heap.objs.size+1<=c/\GH (pushCells (s.heap.push {cls:= .type "dict",data:= .dict #[]}) scope.names) c none):=λ{y c} e=>by
  rw[hcl]at e;rcases nH (Qb e)with hm|⟨_,h2,h3⟩
  ·exact .inl (cm hm)
  ·rw[Qz]at h2;exact .inr ⟨h2,h3⟩
 have look:∀{y},scope.names.lookup y=some .free->∃c,cenv.cells.lookup y=some c/\X.env.cells.lookup y=some c:=λ{y} hl=>by
  have hy:(y,NameKind.free)∈scope.names:=Qb hl;obtain⟨c',e'⟩:=mem_lookup (qj (names:=scope.names) (n:=(s.heap.push {cls:= .type "dict",data:= .dict #[]}).objs.size) (pQ (cells:=X.env.cells) (acc:=[]) hy));rw[<-hcl]at e';refine⟨c',e',?_⟩;rw[hcl]at e';rcases nH (Qb e')with hm|⟨h1,_,_⟩
  ·exact(cm hm).1
  ·have:=ok.uniq _ h1
   rw[hl]at this;cases this
 have okB:(X.xX s H scope cenv fp).Ok:=by
  refine⟨I.ok.mod,by show cenv.scope.kind=_;rw[hsc];exact ok.kind,by show cenv.globals=_;rw[<-hcenv];exact I.ok.glob,by show cenv.builtins=_;rw[<-hcenv];exact I.ok.blt,by show s.heap.objs.size<=cenv.locals;rw[hL];exact OZ _,
   λy z c e1 e2=>?_,λy hy=>?_,λy c z e=>?_,I.ok.hd,I.ok.frames,.inl rfl,λb hb=>⟨?_,λy c e z=>?_⟩,I.bs,PD I.ok.Fz I.sz,λb o e hb=>?_,λb hb z=>?_,I.stack,I.v6⟩
  ·have e1:cenv.cells.lookup y=some c:=e1
   have e2:cenv.cells.lookup z=some c:=e2;rw[hcl]at e1 e2;refine uk (λp hp=>?_) (λy z c a b=>I.ok.inj y z c (cm a).1 (cm b).1) (Qb e1) (Qb e2);rw[Qz];exact Nat.lt_succ_of_lt (cm (y:=p.1) (c:=p.2) hp).2
  ·show∃c,cenv.cells.lookup y=some c
   have key:∀k,cenv.kindOf y=some k->(k=.cell\/k=.free)->∃c,cenv.cells.lookup y=some c:=λk hk hk'=>by
    unfold Env.kindOf at hk;rw[hsc]at hk;obtain⟨k',e,r⟩:=pd hk;have:k'=.cell\/k'=.free:=by
     rcases r with rfl|⟨rfl,_⟩
     ·exact hk'
     ·exact .inr rfl
    rcases this with rfl|rfl
    ·obtain⟨c,hm⟩:=ur (n:=(s.heap.push {cls:= .type "dict",data:= .dict #[]}).objs.size) (acc:=cS X.env.cells scope.names []) (Qb e)
     obtain⟨c',e'⟩:=mem_lookup hm;exact⟨c',by rw[hcl];exact e'⟩
    ·obtain⟨c,h1,_⟩:=look e
     exact⟨c,h1⟩
   rcases hy with hy|hy
   ·exact key _ hy (.inl rfl)
   ·exact key _ hy (.inr rfl)
  ·have z:(scope.names.lookup y==some NameKind.cell)=true:=z
   have z:scope.names.lookup y=some .cell:=by simpa using z
   have e:cenv.cells.lookup y=some c:=e;rw[hcl]at e;rcases nH (Qb e)with hm|⟨_,h2,_⟩
   ·rcases lX hm with hm|⟨h1,_⟩
    ·cases hm
    ·have q:=ok.uniq _ h1
     rw[z]at q;cases q
   ·rw[Qz]at h2
    exact Rr h2
  ·show b≠cenv.locals
   rw[hL];exact PX (hfp b hb).2
  ·have e:cenv.cells.lookup y=some c:=e
   rcases mem e with⟨h1,_⟩|⟨h1,_⟩
   ·exact(hfp b hb).1.2.2.2.2.1 y c h1 z
   ·have h2:s.heap.objs.size+1<=b:=by rw[<-z];exact h1
    exact absurd (PJ (hfp b hb).2 (Rr h2)) (Qw _)
  ·rcases(hfp b hb).1.2.2.2.1 with z|z
   ·exact I.ok.C9 b o e z
   ·exact absurd (PJ (Pf e) (PD I.ok.Fz z)) (Qw _)
  ·rcases Po.mp (I.C8 b z)with z|z
   ·exact(hfp b hb).1.2.1 z
   ·exact(hfp b hb).1.2.2.1 z
 refine⟨okB,rfl,I.bare,Un.kept kp,⟨λ_=>none,?_,λi y av e1 e2 e3=>?_⟩,λy c e=>?_,?_,λy c e=>?_,λp hp=>?_,I.cH.kept kp,by rw[pK];exact I.len⟩
 ·show Heap.Ns _ cenv.locals _
  rw[hL];exact Heap.Ns.keeps (Heap.Ns.new ..) λb o e=>pushCells_keeps _ _ _ _ e
 ·obtain⟨e2,hne⟩:=uu e2
  have hfr:scope.names.lookup y=some .free/\(cenv.kindOf y=some .cell\/cenv.kindOf y=some .free):=by
   have key:∀k,cenv.scope.names.lookup y=some k->k=.local\/k=.cell\/k=.free->scope.names.lookup y=some .free/\(cenv.kindOf y=some .cell\/cenv.kindOf y=some .free):=λk hk hk'=>by
    have hk0:=hk;rw[hsc]at hk;obtain⟨k',e,r⟩:=pd hk;have no:¬(k'=.local\/k'=.cell):=λhh=>by
     rcases ok.own _ (Qb e) hh with e'|e'
     ·obtain⟨p,hp,hpy⟩:=Pg.mp e'
      have e3:=ok.ix p hp;have:p.1=y:=hpy;rw[this]at e3;exact hne (Pg.mpr ⟨p,hp,yx hN e3 e1⟩)
     ·exact e' (Pw e1)
    rcases r with rfl|⟨rfl,rfl⟩
    ·rcases hk' with rfl|rfl|rfl
     ·exact absurd (.inl rfl) no
     ·exact absurd (.inr rfl) no
     ·exact⟨e,.inr hk0⟩
    ·exact⟨e,.inl hk0⟩
   have e3:LC cenv.scope y:=e3;rcases e3 with e3|e3|e3
   ·exact key _ e3 (.inl rfl)
   ·exact key _ e3 (.inr (.inl rfl))
   ·exact key _ e3 (.inr (.inr rfl))
  obtain⟨m,hn,hl⟩:=I.loc;have hvis:LC X.env.scope y:=(ok.free _ (Qb hfr.1) rfl).elim (λk=>.inr (.inl k)) (λk=>.inr (.inr k));obtain⟨w,r,q⟩:=hl i y av e1 e2 hvis;refine⟨w,r,.inr ⟨hfr.2,?_⟩⟩;obtain⟨c,h1,h2⟩:=look hfr.1;rcases q with⟨k,_⟩|⟨_,c',e',z⟩
  ·have k:X.env.scope.names.lookup y=some .local:=k
   rcases ok.free _ (Qb hfr.1) rfl with k'|k'<;>rw[show X.env.scope.names.lookup y=_ from k']at k<;>cases k
  ·rw[h2]at e';cases e'
   exact⟨c,h1,z.keeps kp⟩
 ·have e:cenv.cells.lookup y=some c:=e
  rcases mem e with⟨h1,_⟩|⟨_,z⟩
  ·obtain⟨w,z⟩:=I.cell y c h1
   exact⟨w,z.keeps kp⟩
  ·exact⟨_,z⟩
 ·show H cenv.locals=none
  rw[hL];exact I.cH.fresh (OZ _)
 ·have e:cenv.cells.lookup y=some c:=e
  rcases mem e with⟨h1,_⟩|⟨h1,_⟩
  ·exact I.mn y c h1
  ·exact I.cH.fresh (Rr h1)
 ·exact absurd (show p∈([]:List (Addr×Obj))++[]from hp) (by simp)
def Km{E:Value->Shared->Prop}{D:Addr}{xs:List V}{y:V}{v:Value}{Q:Value->Shared->Prop}(I:Inv X pins σ H s)(hD:H D=some (.lst xs))(hz:xs.length<sizeLine)(r:RelV y v)
  (h:∀s',Inv X pins σ (upd H D (.lst (xs++[y]))) s'->Q .none s'):wpAny (model X.prog X.w) X.A (call (.builtin "list.append") [.ref D,v]) Q E s:=by
 obtain⟨hz',its,n,ri,e⟩:=I.cH D _ hD;have hl:=ri.length;refine append_at (hsz:=by rw[Py];omega) e λh' sb ho'=>?_;refine h {s with heap:=h'} (I.write (t':=s.toks) (by rw[hD];trivial) (.inl rfl) (λb u hb q=>(sb.2 b hb).trans q) ⟨_,ho'⟩ ⟨by rw[Pd];exact hz,its++[v],n+1,ri.append (.cons r .nil),?_⟩);rw[ho'];simp
def Mp(X:Cx)(ifs:List Expr)(t:TT):Prop:=
 ∀(pins:List (Addr×Obj))(s:Shared)(σ:St)(H:Hp)(Q:Bool->Hp->Prop),Inv X pins σ H s->t σ H Q->
  wpAny (model X.prog X.w) X.A (forIn ifs true λc r=>if r=true then do let ok<-isTrue c X.env (eval c X.env);pure (ForInStep.yield ok)else pure (ForInStep.yield r)) (TP X pins σ Q) X.xe s
def NU:TT:=λ_ H Q=>Q true H
def d8:Mp X [] NU:=λ_ _ _ H _ I h=>wpAny_tests_nil ⟨H,I,h⟩
def Eo{c:Expr}{t:TT}(h:PT X c t):Mp X [c] t:=λpins s σ H Q I hw=>wpAny_tests_one (h pins s σ H Q I hw)
end
def E6{α:Type}{t:Sem α}{Q Q':α->Shared->Prop}{M:Model}{A:Around}{E:Value->Shared->Prop}{s:Shared}(h:wpAny M A t Q (λ_ _=>False) s)(hQ:∀a s,Q a s->Q' a s):wpAny M A t Q' E s:=QG h hQ λ_ _ z=>False.elim z
def AR{prog:PN}{w:World}{A:Around}{R:Result->Shared->Prop}{s:Shared}{elt target iter:Expr}{ifs:List Expr}{scope:Scope}{pos:Pos}{it acc:Value}{env:Env}(I:Nat->Shared->Prop)
  (turn:∀n s,I n s->wpAny (model prog w) A (pyNext it) (λr s₁=>match r with
   |none=>R (.ok .next) s₁
   |some v=>wpAny (model prog w) A (letOwnedTupleGo target it v) (λ_ s₁'=>wpAny (model prog w) A (assign target env v) (λ_ s₂=>
     wpAny (model prog w) A (forIn ifs true λc r=>if r=true then do let ok<-isTrue c env (eval c env);pure (ForInStep.yield ok)else pure (ForInStep.yield r)) (λok s₃=>
      if ok=true then wpAny (model prog w) A (eval elt env) (λx s₄=>
       wpAny (model prog w) A (call (.builtin "list.append") [acc,x]) (λ_ s₅=>∃m,m<n/\I m s₅) (notedBy (model prog w) A env λe s'=>R (.error e) s') s₄) (notedBy (model prog w) A env λe s'=>R (.error e) s') s₃
      else∃m,m<n/\I m s₃) (notedBy (model prog w) A env λe s'=>R (.error e) s') s₂) (notedBy (model prog w) A env λe s'=>R (.error e) s') s₁') (notedBy (model prog w) A env λe s'=>R (.error e) s') s₁) (notedBy (model prog w) A env λe s'=>R (.error e) s') s)
  (n:Nat)(h:I n s):
  codeAny (model prog w) A (.compLoop (.ListComp elt [⟨target,iter,ifs,0⟩] scope pos) 0 it acc env) R s:=by
 refine codeAny_loop rfl I (λn s hI=>?_) n h;show wpAny _ A ((compTurn (.ListComp elt [⟨target,iter,ifs,0⟩] scope pos) 0 it acc env).onRaise (λx=>do noteFrame x env;theTreesLotGoes x)) _ _ s;refine wpAny_noted ?_;rw[compTurn_list];refine O4 (QX (O4 (QG (turn n s hI) (λr s₁ h₁=>?_) λ_ _ h'=>h')));cases r with
 |none=>exact PM h₁
 |some v=>
  refine O4 (QG h₁ (λ_ s₁' h₁'=>?_) λ_ _ h'=>h');refine O4 (QG h₁' (λ_ s₂ h₂=>O4 (QG h₂ (λok s₃ h₃=>?_) λ_ _ h'=>h')) λ_ _ h'=>h');cases ok with
  |false=>exact PM ⟨rfl,h₃⟩
  |true=>
   exact O4 (O4 (QG h₃ (λx s₄ h₄=>O4 (QG h₄ (λ_ s₅ h₅=>PM (PM ⟨rfl,h₅⟩)) λ_ _ h'=>h')) λ_ _ h'=>h'))
section
variable{X:Cx}
def MY(wi:TI)(g:TG)(tt:TT)(te:TE)(vs:List Nat):TE:=λσ H Q=>wi σ H λJ H1=>∀D,H1 D=none->∃W:Nat->Nat->Hp->Prop,(∃m,W 0 m (upd H1 D (.lst [])))/\∀i m H,W i m H->
 (J.stop i H/\Q (.ref D) H)\/(J.go i H/\∃Nx:Hp->Prop,(∀H',Nx H'->∃m',m'<m/\W (i+1) m' H')/\∀x H',J.FA i H x H'->g x (wipe σ vs) H' λσ2 H2=>wipe σ2 vs=wipe σ vs/\tt σ2 H2 λb H3=>
  if b=true then te σ2 H3 λy H4=>∃acc,H4 D=some (.lst acc)/\acc.length<sizeLine/\Nx (upd H4 D (.lst (acc++[y])))else Nx H3)
def Eg{pins:List (Addr×Obj)}{s:Shared}{σ:St}{H:Hp}{Q:VK}{elt tg iter:Expr}{ifs:List Expr}{scope:Scope}{own:List (Str×Nat)}{pos pos':Pos}{wi:TI}{g:TG}{tt:TT}{te:TE}{use:Option (Value->Sem Unit)}{Qf:Value->Shared->Prop}
  (hc:X.calm=true)(hN:X.N.Nodup)(I:Inv X pins σ H s)(hi:PI X tg iter wi)(ok:B8 X.N X.env.scope scope own)
  (hg:∀(s:Shared)(H:Hp)(C:Addr)(cl:List (Str×Addr))(fp:List Addr),PG (X.xX s H scope (compEnvC scope cl C X.env) fp) tg g)(ht:∀(s:Shared)(H:Hp)(C:Addr)(cl:List (Str×Addr))(fp:List Addr),Mp (X.xX s H scope (compEnvC scope cl C X.env) fp) ifs tt)
  (he:∀(s:Shared)(H:Hp)(C:Addr)(cl:List (Str×Addr))(fp:List Addr),PE (X.xX s H scope (compEnvC scope cl C X.env) fp) elt te)(hs:∀x,foldedSetIterable iter X.env x=pure x)
  (h:MY wi g tt te (own.map (·.2)) σ H Q)
  (hRR:∀D C s' m H',Inv X pins σ H' s'->Q (.ref D) H'->s'.heap.Ns C m->vL X pins H' C->compPost (model X.prog X.w) X.A X.xe use Qf (.ref D) C (.ok .next) s'):
  wpAny (model X.prog X.w) X.A (comprehension (.ListComp elt [⟨tg,iter,ifs,0⟩] scope pos) scope X.env pos' (newList []) false (eval iter X.env) use) Qf X.xe s:=by
 have hfree:∀y∈scope.names,y.2=.free->∃c,X.env.cells.lookup y.1=some c:=λy hy e=>by
  rcases ok.free y hy e with k|k
  ·exact I.ok.has _ (.inl k)
  ·exact I.ok.has _ (.inr k)
 refine wpAny_comprehension_free (use:=use) rfl hs (Cr hfree) ok.kind (λy hy e=>by rw[ok.uniq y hy,e])
  (dR (hi pins s σ H _ I h) λxv s1 hx=>dR hx λitv s2 h2=>?_)
 obtain⟨it,fp,tn,J,H2,e,I2,T,st2,f2,q⟩:=h2;subst e;refine wpAny_newObj_type (Ba ?_) (by show 0<=sizeLine;decide);generalize hD:s2.heap.objs.size=D;have hDn:H2 D=none:=I2.cH.fresh (Nat.le_of_eq hD);obtain⟨W,⟨m0,w0⟩,turn⟩:=q D hDn;generalize hs3:({s2 with heap:=s2.heap.push {cls:= .type "list",data:= .seq ([]:List Value).toArray}}:Shared)=s3;have I3:Inv X pins σ (upd H2 D (.lst [])) s3:=by
  rw[<-hs3];refine I2.laid (t':=s2.toks) (λb o e=>Pr _ e) (Nat.le_of_eq hD) ⟨P4 _,[],0,.nil,?_⟩;rw[<-hD];exact PZ _ rfl
 have h3:s3.heap=s2.heap.push {cls:= .type "list",data:= .seq ([]:List Value).toArray}:=by rw[<-hs3]
 have sz:∀b∈fp,b<s2.heap.objs.size:=λb hb=>by
  obtain⟨o,e,_⟩:=T.obj _ _ st2 b hb;exact Pf e
 have f3:∀b∈fp,vL X pins (upd H2 D (.lst [])) b/\b<s3.heap.objs.size:=λb hb=>by
  have hlt:=sz b hb;refine⟨⟨?_,(f2 b hb).2⟩,by rw[h3,Qz];exact Nat.lt_succ_of_lt hlt⟩;rw[ak (by rw[<-hD];exact PX hlt)];exact(f2 b hb).1
 have st3:tn 0 s3.heap:=T.keep _ _ _ st2 λb _ o e=>by rw[h3];exact Pr _ e
 have I4:=BJ I3 ok hN f3;have pg:=hg s3 (upd H2 D (.lst [])) s3.heap.objs.size (cellsFrom (s3.heap.objs.size+1) scope.names (cS X.env.cells scope.names [])) fp;have pt:=ht s3 (upd H2 D (.lst [])) s3.heap.objs.size (cellsFrom (s3.heap.objs.size+1) scope.names (cS X.env.cells scope.names [])) fp;have pe:=he s3 (upd H2 D (.lst [])) s3.heap.objs.size (cellsFrom (s3.heap.objs.size+1) scope.names (cS X.env.cells scope.names [])) fp;show codeAny _ _ (.compStart (.ListComp elt [⟨tg,iter,ifs,0⟩] scope pos) 0 (.ref it) (.ref D) (compEnvC scope (cellsFrom (s3.heap.objs.size+1) scope.names (cS X.env.cells scope.names [])) s3.heap.objs.size X.env)) (compPost (model X.prog X.w) X.A X.xe use Qf (.ref D) s3.heap.objs.size) {s3 with heap:=pushCells (s3.heap.push {cls:= .type "dict",data:= .dict #[]}) scope.names};have nfp:∀b∈fp,(upd H2 D (.lst [])) b=none:=λb hb=>(f3 b hb).1.1;generalize hce:compEnvC scope (cellsFrom (s3.heap.objs.size+1) scope.names (cS X.env.cells scope.names [])) s3.heap.objs.size X.env=ce at I4 pg pt pe ⊢;have cL:ce.locals=s3.heap.objs.size:=by subst hce;rfl
 generalize hH3:upd H2 D (.lst [])=H3 at I3 I4 pg pt pe w0 nfp f3;generalize hs4:({s3 with heap:=pushCells (s3.heap.push {cls:= .type "dict",data:= .dict #[]}) scope.names}:Shared)=s4 at I4 ⊢;have st4:tn 0 s4.heap:=T.keep _ _ _ st3 λb _ o e=>by rw[<-hs4];exact pushCells_keeps _ _ _ _ (Pr _ e)
 have stat:∀{σ':St}{H':Hp}{s':Shared},Inv (X.xX s3 H3 scope ce fp) [] σ' H' s'->(∀b∈fp,H' b=none)->∀b∈fp,vL (X.xX s3 H3 scope ce fp) [] H' b:=λ{σ' H' s'} I' hn b hb=>
  ⟨hn b hb,(I'.ok.LG b hb).1,I'.ok.CK b hb,.inl hb,λx c e=>(I'.ok.LG b hb).2 x c e,λp hp=>absurd (show p∈([]:List (Addr×Obj))++[]from hp) (by simp)⟩
 have loop:codeAny (model X.prog X.w) X.A (.compLoop (.ListComp elt [⟨tg,iter,ifs,0⟩] scope pos) 0 (.ref it) (.ref D) ce) (compPost (model X.prog X.w) X.A X.xe use Qf (.ref D) s3.heap.objs.size) s4:=by
  refine AR (λn s'=>∃i H',Inv (X.xX s3 H3 scope ce fp) [] (wipe σ (own.map (·.2))) H' s'/\tn i s'.heap/\(∀b∈fp,H' b=none)/\W i n H') ?_ m0 ⟨0,H3,I4,st4,nfp,w0⟩
  rintro n s5 ⟨i,H5,I5,st5,n5,w5⟩
  rcases turn i n H5 w5 with⟨stop,qq⟩|⟨go,Nx,hNx,step⟩
  ·have td:=T.done (X.xX s3 H3 scope ce fp) rfl rfl rfl hc i [] s5 _ H5 (λ_ _=>False) I5 (stat I5 n5) st5 stop
   refine E6 td λr s6⟨hr,I6⟩=>?_;subst hr;have I7:Inv X pins σ H5 s6:=I3.GC (ch:=fp) I6.os I6.base I6.cH I6.bare λb hb=>⟨(f3 b hb).1.2.2.2.1,(f3 b hb).1.2.1,(f3 b hb).1.2.2.2.2.1,(f3 b hb).1.2.2.2.2.2⟩;have nC:H5 s3.heap.objs.size=none:=by
    have z:H5 ce.locals=none:=I6.free;rw[cL]at z;exact z
   obtain⟨m,hn,_⟩:=I6.loc;have hn:s6.heap.Ns ce.locals m:=hn;rw[cL]at hn;exact hRR D s3.heap.objs.size s6 m H5 I7 qq hn (I3.B7 (OZ _) nC)
  ·have ti:=T.item (X.xX s3 H3 scope ce fp) rfl rfl rfl hc i [] s5 _ H5 (λ_ _=>False) I5 (stat I5 n5) st5 go
   refine E6 ti λr s6⟨u,hr,h6⟩=>?_;subst hr;refine E6 h6 λ_ s7⟨x,H7,I7,r7,y7,st7,n7⟩=>?_;have I7':=I7.pinned (stat I7 n7) (T.obj _ _ st7);refine E6 (pg _ s7 _ H7 x u _ I7' r7 (step x H7 y7)) λ_ s8⟨σ8,H8,I8,hw8,q8⟩=>?_;refine E6 (pt _ s8 σ8 H8 _ I8 q8) λb s9⟨H9,I9,q9⟩=>?_;have fin:∀{s':Shared}{H':Hp},Inv (X.xX s3 H3 scope ce fp) ([]++wp fp s7.heap) σ8 H' s'->Nx H'->∃m,m<n/\∃i H',Inv (X.xX s3 H3 scope ce fp) [] (wipe σ (own.map (·.2))) H' s'/\tn i s'.heap/\(∀b∈fp,H' b=none)/\W i m H':=λ{s' H'} I' nx=>by
    obtain⟨m',hm,w'⟩:=hNx H' nx;have pin':∀b∈fp,∀o,s7.heap.get? b=some o->s'.heap.get? b=some o/\H' b=none:=λb hb o e=>
     let z:=I'.pin (b,o) (Qu _ (Qu _ (rP hb e)))
     ⟨z.1,z.2.1⟩
    have hl:(wipe σ (own.map (·.2))).length=σ8.length:=by rw[<-hw8,pK]
    refine⟨m',hm,i+1,H',(I'.sm (pins:=[])).weak hl (λj v e=>?_),T.keep _ _ _ st7 λb hb o e=>(pin' b hb o e).1,λb hb=>?_,w'⟩
    ·rw[<-hw8]at e
     exact(uu e).1
    ·obtain⟨o,e,_⟩:=T.obj _ _ st7 b hb
     exact(pin' b hb o e).2
   cases b with
   |false=>
    simp only[Bool.false_eq_true,if_false]at q9 ⊢;exact fin I9 q9
   |true=>
    simp only[if_true]at q9 ⊢;refine E6 (pe _ s9 σ8 H9 _ I9 q9) λz s10⟨yv,H10,I10,r10,acc,hD10,hz10,nx⟩=>?_;exact Km (X:=X.xX s3 H3 scope ce fp) I10 hD10 hz10 r10 λs11 I11=>fin I11 nx
 exact codeAny_compStart_list loop (T.self X.A 0 _ _ _ st4 loop)
def lS{elt tg iter:Expr}{ifs:List Expr}{scope:Scope}{own:List (Str×Nat)}{pos:Pos}{wi:TI}{g:TG}{tt:TT}{te:TE}(hc:X.calm=true)(hN:X.N.Nodup)(hi:PI X tg iter wi)(ok:B8 X.N X.env.scope scope own)
  (hg:∀(s:Shared)(H:Hp)(C:Addr)(cl:List (Str×Addr))(fp:List Addr),PG (X.xX s H scope (compEnvC scope cl C X.env) fp) tg g)(ht:∀(s:Shared)(H:Hp)(C:Addr)(cl:List (Str×Addr))(fp:List Addr),Mp (X.xX s H scope (compEnvC scope cl C X.env) fp) ifs tt)
  (he:∀(s:Shared)(H:Hp)(C:Addr)(cl:List (Str×Addr))(fp:List Addr),PE (X.xX s H scope (compEnvC scope cl C X.env) fp) elt te)(hs:∀x,foldedSetIterable iter X.env x=pure x:=by intro _;rfl):
  PE X (.ListComp elt [⟨tg,iter,ifs,0⟩] scope pos) (MY wi g tt te (own.map (·.2))):=by
 intro pins s σ H Q I h;rw[eval_ListComp];refine Eg hc hN I hi ok hg ht he hs h λD C s' m H' I' q hn f=>⟨m,hn,λh'' sb=>?_⟩;obtain⟨f0,f1,f2,f3,f4,f5⟩:=f;exact⟨.ref D,H',I'.turned (t':=s'.toks) (λb o hb e=>(sb.2 b hb).trans e) f0 f1 f3 f4 f5,rfl,q⟩
def sF{i:Nat}{y:Str}{py:Pos}{elt tg iter:Expr}{ifs:List Expr}{scope:Scope}{own:List (Str×Nat)}{pos spos:Pos}{wi:TI}{g:TG}{tt:TT}{te:TE}(hc:X.calm=true)(hN:X.N.Nodup)(hy:X.N[i]? =some y)(hyl:X.env.scope.names.lookup y=some .local)
  (hsw:swapsWith (.ListComp elt [⟨tg,iter,ifs,0⟩] scope pos) (some (.Name y py)) spos.line X.env=pure true)(hi:PI X tg iter wi)(ok:B8 X.N X.env.scope scope own)
  (hg:∀(s:Shared)(H:Hp)(C:Addr)(cl:List (Str×Addr))(fp:List Addr),PG (X.xX s H scope (compEnvC scope cl C X.env) fp) tg g)(ht:∀(s:Shared)(H:Hp)(C:Addr)(cl:List (Str×Addr))(fp:List Addr),Mp (X.xX s H scope (compEnvC scope cl C X.env) fp) ifs tt)
  (he:∀(s:Shared)(H:Hp)(C:Addr)(cl:List (Str×Addr))(fp:List Addr),PE (X.xX s H scope (compEnvC scope cl C X.env) fp) elt te)(hs:∀x,foldedSetIterable iter X.env x=pure x:=by intro _;rfl):
  PS X (.Assign [.Name y py] (.ListComp elt [⟨tg,iter,ifs,0⟩] scope pos) spos) (HL (MY wi g tt te (own.map (·.2))) (zG i)):=by
 intro pins s σ H D I h;rw[exec_Assign_Name_used _ _ _ _ hsw];refine O4 (QX (O4 ?_));show wpAny _ X.A (do let _<-comprehension (.ListComp elt [⟨tg,iter,ifs,0⟩] scope pos) scope X.env (firstIterPos [⟨tg,iter,ifs,0⟩] pos) (newList []) false (eval iter X.env) (some (assign (.Name y py) X.env))) _ _ s;have h:MY wi g tt te (own.map (·.2)) σ H (λx H1=>zG i x σ H1 D.nx):=h;refine O4 (dR (Eg (Qf:=λ_ s'=>SP X pins D .next s') hc hN I hi ok hg ht he hs h λL C s' m H' I' q hn f=>?_) λ_ s' hq=>PM (PM hq));show wpAny _ _ (assign (.Name y py) X.env (.ref L)) _ _ _;refine wpAny_assign_Name (zP (v:=V.ref L) I' hN hy (.inl hyl) rfl (λs2 I2⟨a,sb,ha⟩=>?_) (.inr hyl));obtain⟨f0,f1,f2,f3,f4,f5⟩:=f;have haC:C≠a:=by
  rcases ha with z|z
  ·rw[z];exact f1
  ·exactλe=>f4 y a z e.symm
 refine⟨m,hn.sameBut sb haC,λh3 sb3=>?_⟩;exact⟨_,H',I2.turned (t':=s2.toks) (λb o hb e=>(sb3.2 b hb).trans e) f0 f1 f3 f4 f5,q⟩
end
def Mz(N:List Str)(sc scope:Scope)(own:List (Str×Nat)):Bool:=
 (match scope.kind with|.function=>true|_=>false)&&(scope.names.all λy=>decide (scope.names.lookup y.1=some y.2))&&(own.all λp=>decide (N[p.2]? =some p.1))&&
  (scope.names.all λy=>match y.2 with
   |.free=>(match sc.names.lookup y.1 with|some .cell=>true|some .free=>true|_=>false)
   |.local=>decide (y.1∈own.map (·.1))||decide (y.1∉N)
   |.cell=>decide (y.1∈own.map (·.1))||decide (y.1∉N)
   |_=>true)
def cq{N:List Str}{sc scope:Scope}{own:List (Str×Nat)}(h:Mz N sc scope own=true):B8 N sc scope own:=by
 unfold Mz at h;simp only[Pe,QI,decide_eq_true_eq]at h;obtain⟨⟨⟨h1,h2⟩,h3⟩,h4⟩:=h;refine⟨?_,h2,h3,λy hy e=>?_,λy hy e=>?_⟩
 ·split at h1
  ·assumption
  ·cases h1
 ·have q:=h4 y hy
  simp only[e]at q;split at q<;>first|exact .inl (by assumption)|exact .inr (by assumption)|cases q
 ·have q:=h4 y hy
  rcases e with e|e<;>(simp only[e,QO,decide_eq_true_eq]at q;exact q)
section
variable{X:Cx}{pins:List (Addr×Obj)}{σ:St}{H:Hp}{s:Shared}{h':Heap}
def Inv.IP{t':Nat}{ch:List Addr}(I:Inv X pins σ H s)(k:∀b o,b∉ch->s.heap.get? b=some o->h'.get? b=some o)(hf:∀b∈ch,vL X pins H b):Inv X pins σ H {s with heap:=h',toks:=t'}:=by
 have nit:∀b u,H b=some u->b∉ch:=λb u e z=>by
  have q:=(hf b z).1;rw[q]at e;cases e
 refine I.step (g':=s.gens) (d':=s.drawn) (ch:=ch) (λb hb=>⟨(hf b hb).2.2.2.1,(hf b hb).2.1,(hf b hb).2.2.2.2.1,(hf b hb).2.2.2.2.2⟩) (λb o _ _ hc e _=>k b o hc e) (λb o _ _ hc e _=>⟨o.slots,k b o hc e⟩)
  (λ_ _ _ _ n=>n) (λb o hc e=>⟨o,k b o hc e⟩) (λ_ _ e=>e) (λ_ _ _ e=>e) (λb ps e=>⟨#[],by rw[e];simp⟩) (λm hm=>?_) (λb u e=>?_) I.bare
 ·obtain⟨o,es,ep,ho,r⟩:=hm
  exact⟨o,es,ep,k _ o (λz=>(hf _ z).2.1 rfl) ho,r⟩
 ·refine(I.cH b u e).vH (λc v hc q=>k c v ?_ q) (λ_ q=>q) λ_ _ q=>q
  rcases hc with z|z
  ·rw[z];exact nit b u e
  ·exact nit c _ z
def Inv.t9{t':Nat}{ch:List Addr}{T:Addr}{ob:HO}(I:Inv X pins σ H s)(k:∀b o,b∉ch->s.heap.get? b=some o->h'.get? b=some o)(hf:∀b∈ch,vL X pins H b)(hT:s.heap.objs.size<=T)
  (new:dI X.prog X.w (upd H T ob) h' T ob):Inv X pins σ (upd H T ob) {s with heap:=h',toks:=t'}:=by
 have hn:H T=none:=I.cH.fresh hT;have nit:∀b u,H b=some u->b∉ch:=λb u e z=>by
  have q:=(hf b z).1;rw[q]at e;cases e
 refine I.step (g':=s.gens) (d':=s.drawn) (ch:=ch) (λb hb=>⟨(hf b hb).2.2.2.1,(hf b hb).2.1,(hf b hb).2.2.2.2.1,(hf b hb).2.2.2.2.2⟩) (λb o _ _ hc e _=>k b o hc e) (λb o _ _ hc e _=>⟨o.slots,k b o hc e⟩)
  (λb o _ e n=>?_) (λb o hc e=>⟨o,k b o hc e⟩) (λb xs e=>?_) (λb o u e=>?_) (λb ps e=>⟨#[],?_⟩) (λm hm=>?_) (λb u e=>?_) I.bare
 ·rw[ak (PX (PJ (Pf e) hT))];exact n
 ·rw[ak (au e hn)];exact e
 ·rw[ak (au e hn)];exact e
 ·rw[ak (au e hn),e];simp
 ·obtain⟨o,es,ep,ho,r⟩:=hm
  exact⟨o,es,ep,k _ o (λz=>(hf _ z).2.1 rfl) ho,r⟩
 ·by_cases hb:b=T
  ·subst hb
   rw[ai]at e;cases e;exact new
  ·rw[ak hb]at e
   refine(I.cH b u e).vH (λc v hc q=>k c v ?_ q) (λc q=>by rw[ak (au q hn)];exact q) λc xs q=>by rw[ak (au q hn)];exact q
   rcases hc with z|z
   ·rw[z];exact nit b u e
   ·exact nit c _ z
end
section
variable{X:Cx}
def Hs{tg:Expr}{pins:List (Addr×Obj)}{σ:St}{H:Hp}{s:Shared}{R:It->Hp->Prop}{J:It}{tn:Nat->Heap->Prop}{tk:Nat}(I:Inv X pins σ H s)(o:Obj)
  (T:Turn X.prog X.w X.K tg J [s.heap.objs.size] s.heap.objs.size tn)(st:tn 0 (s.heap.push o))(q:R J H):Nh X pins σ tg R (.ref s.heap.objs.size) {s with heap:=s.heap.push o,toks:=tk}:=by
 refine⟨s.heap.objs.size,[s.heap.objs.size],tn,J,H,rfl,I.kept λb ob e=>Pr _ e,T,st,λb hb=>?_,q⟩;have e:b=s.heap.objs.size:=by simpa using hb
 subst e;exact I.B7 (OZ _) (I.cH.fresh (OZ _))
end
def MR(x:Str):It:=⟨λi _=>i<x.cps.size,λi H v H'=>H'=H/\∃c,x.cps[i]? =some c/\v=.str ⟨#[c]⟩,λi _=>x.cps.size<=i⟩
def A9{P:PN}{w:World}{K:OX}{tg:Expr}(it:Addr)(x:Str)(t:Tok)(ty:String)(hty:ty="str_ascii_iterator"\/ty="str_iterator"):
  Turn P w K tg (MR x) [it] it (λi h=>h.IsStrIter it ty x t i) where
 mem:=by simp
 obj:=λi h st b hb=>by
  have e:b=it:=by simpa using hb
  subst e;obtain⟨o,e,c,d⟩:=st;exact⟨o,e,λv z=>by rw[d]at z;cases z⟩
 keep:=λi h h' st k=>let⟨o,ho,r⟩:=st;⟨o,k it (by simp) o ho,r⟩
 item:=by
  intro X hP hw hK hc i pins s σ H E I hf st hg;subst hP hw hK;obtain⟨f0,f1,f2,f3,f4,f5⟩:=hf it (by simp);have W:Walks X.prog X.w X.A it [it] [it] x.cps.size (SignAt x) (λi h=>h.IsStrIter it ty x t i):=by
   rcases hty with e|e
   ·rw[e];exact Walks.strAscii (I.ok.hd hc) it x t
   ·rw[e];exact Walks.strWide (I.ok.hd hc) it x t
  have hno:["enumerate","zip","dict_itemiterator","dict_reverseitemiterator","odict_iterator","itertools.zip_longest","itertools.pairwise"].contains ty=false:=by
   rcases hty with e|e
   ·rw[e];decide
   ·rw[e];decide
  refine W.item i s _ _ hg st λv h' tk hv st' kk=>?_;obtain⟨c,u,hcx,rfl⟩:=hv;have I1:Inv X pins σ H {s with heap:=h',toks:=tk}:=I.turned (λb o hb e=>kk b o (by simpa using hb) e) f0 f1 f3 f4 f5;obtain⟨oi,e,cc,dd⟩:=id st';exact⟨_,rfl,El (s:={s with heap:=h',toks:=tk}) e cc dd hno ⟨.str ⟨#[c]⟩,H,I1,⟨u,rfl⟩,⟨rfl,c,hcx,rfl⟩,st',λb hb=>(hf b hb).1⟩⟩
 done:=by
  intro X hP hw hK hc i pins s σ H E I hf st hg;subst hP hw hK;obtain⟨f0,f1,f2,f3,f4,f5⟩:=hf it (by simp);have hx:x.cps[i]? =none:=Array.getElem?_eq_none hg;rcases hty with e|e
  ·rw[e]at st
   exact wpAny_pyNext_ascii_end (I.ok.hd hc) st hx λh' eb=>⟨rfl,I.turned (t':=s.toks) (λb o hb e=>eb b o hb e) f0 f1 f3 f4 f5⟩
  ·rw[e]at st
   exact wpAny_pyNext_wide_end (I.ok.hd hc) st hx λh' eb=>⟨rfl,I.turned (t':=s.toks) (λb o hb e=>eb b o hb e) f0 f1 f3 f4 f5⟩
 self:=λA i s Q E st h=>by
  rcases hty with e|e
  ·rw[e]at st;exact wpAny_pyIter_striter_ascii st h
  ·rw[e]at st;exact wpAny_pyIter_striter_wide st h
def Ob(te:TE):TI:=λσ H R=>te σ H λv H1=>∃x,v=.str x/\R (MR x) H1
def Cs{X:Cx}{tg e:Expr}{te:TE}(he:PE X e te):PI X tg e (Ob te):=by
 intro pins s σ H R I h;refine dR (he pins s σ H _ I h) λv s1⟨y,H1,I1,r1,x,ex,q⟩=>?_;subst ex;obtain⟨t,rfl⟩:=r1;cases ha:x.cps.all (·<128)
 ·exact wpAny_pyIter_wide ha (Hs (tk:=s1.toks) I1 _ (A9 _ x t "str_iterator" (.inr rfl)) ⟨_,PZ _ rfl,rfl,rfl⟩ q)
 ·exact wpAny_pyIter_ascii ha (Hs (tk:=s1.toks) I1 _ (A9 _ x t "str_ascii_iterator" (.inl rfl)) ⟨_,PZ _ rfl,rfl,rfl⟩ q)
def Ol(K:OX)(a:Addr):It:=
 ⟨λi H=>∃(xs:List V)(x:V),a0 K H a xs/\xs[i]? =some x,λi H v H'=>∃T x,v=.ref T/\H T=none/\H'=upd H T (.tup [.int (i:Nat),x])/\∀xs,a0 K H a xs->xs[i]? =some x,λi H=>∃xs:List V,a0 K H a xs/\xs.length<=i⟩
def Fe{P:PN}{w:World}{K:OX}{elts:List Expr}{kk:Nat}{tpos:Pos}(a e it:Addr):
  Turn P w K (.Tuple elts kk tpos) (Ol K a) [e,it] e (λi h=>(∃old,IsEnum h e it ((i:Nat):Int) old)/\h.IsListIter it a i/\e≠it) where
 mem:=by simp
 obj:=λi h st b hb=>by
  obtain⟨⟨old,he⟩,⟨o,ho,hc,hd⟩,_⟩:=st;have e':b=e\/b=it:=by simpa using hb
  rcases e' with z|z
  ·rw[z];exact⟨_,he,λv q=>nomatch q⟩
  ·rw[z];exact⟨o,ho,λv q=>by rw[hd]at q;cases q⟩
 keep:=λi h h' st k=>let⟨⟨old,he⟩,hi,hne⟩:=st;⟨⟨old,k e (by simp) _ he⟩,hi.at λo q=>k it (by simp) o q,hne⟩
 item:=by
  intro X hP hw hK hc i pins s σ H E I hf st hg;subst hP hw hK;obtain⟨⟨old,he⟩,hit,hne⟩:=st;obtain⟨xs,x,hq,hx⟩:=hg;obtain⟨its,rv,p,hz⟩:=I.list hq;obtain⟨u,hu,ru⟩:=rv.get hx;have hel:e<s.heap.objs.size:=Pf he;have hil:it<s.heap.objs.size:=by obtain⟨_,q,_⟩:=hit;exact Pf q
  refine wpAny_pyNext_enum_item he hit p.isList (x:=u) (by simpa using hu) hne λh' ho hit' hT hsz hk=>?_;refine⟨_,rfl,wpAny_letOwnedTupleGo_enum (s:={s with heap:=h',toks:=s.toks+1}) ho λh'' he' sb=>?_⟩;have hT2:h''.get? s.heap.objs.size=some {cls:= .type "tuple",data:= .seq #[.int i s.toks,u]}:=(sb.2 _ (Rs hel)).trans hT;have new:dI X.prog X.w (upd H s.heap.objs.size (.tup [.int (i:Nat),x])) h'' s.heap.objs.size (.tup [.int (i:Nat),x]):=
   ⟨by show 2<=sizeLine;decide,[.int i s.toks,u],.cons ⟨_,rfl⟩ (.cons ru .nil),⟨_,hT2,rfl,_,rfl⟩⟩
  have I1:Inv X pins σ (upd H s.heap.objs.size (.tup [.int (i:Nat),x])) {s with heap:=h'',toks:=s.toks+1}:=
   I.t9 (ch:=[e,it]) (λb ob hb q=>(sb.2 b (λz=>hb (by simp[z]))).trans (hk b ob (λz=>hb (by simp[z])) (λz=>hb (by simp[z])) q)) hf (OZ _) new
  refine⟨.ref s.heap.objs.size,_,I1,rfl,⟨_,x,rfl,I.cH.fresh (OZ _),rfl,λys hy=>by rw[I.tM hy hq];exact hx⟩,⟨⟨u,?_⟩,hit'.at λo q=>(sb.2 it (Pb hne)).trans q,hne⟩,λb hb=>?_⟩
  ·have e1:((i+1:Nat):Int)=(i:Int)+1:=by omega
   rw[e1];exact he'
  ·have hb':b<s.heap.objs.size:=by
    have e':b=e\/b=it:=by simpa using hb
    rcases e' with z|z
    ·rw[z];exact hel
    ·rw[z];exact hil
   rw[ak (PX hb')];exact(hf b hb).1
 done:=by
  intro X hP hw hK hc i pins s σ H E I hf st hg;subst hP hw hK;obtain⟨⟨old,he⟩,hit,hne⟩:=st;obtain⟨xs,hq,hx⟩:=hg;obtain⟨its,rv,p,hz⟩:=I.list hq;obtain⟨f0,f1,f2,f3,f4,f5⟩:=hf it (by simp);have hl:=rv.length;exact wpAny_pyNext_enum_end (I.ok.hd hc) he hit p.isList (by simp;omega) λh' eb=>⟨rfl,I.turned (t':=s.toks) (λb o hb q=>eb b o hb q) f0 f1 f3 f4 f5⟩
 self:=λA i s Q E st h=>let⟨⟨_,he⟩,_⟩:=st;wpAny_pyIter_enum he h
def LV(K:OX)(ta:TA):TI:=λσ H R=>ta σ H λvs H1=>∃a xs,vs=[.ref a]/\a0 K H1 a xs/\R (Ol K a) H1
def JE{X:Cx}{e:Expr}{ta:TA}{p pos tpos:Pos}{elts:List Expr}{kk:Nat}(hg:Gl X "enumerate")(hm:X.mg "enumerate"=none)(ha:PA X [e] ta)(hs:starEach [e] X.env=[(false,eval e X.env)]:=by rfl):
  PI X (.Tuple elts kk tpos) (.Call (.Name "enumerate" p) [e] [] pos) (LV X.K ta):=by
 intro pins s σ H R I h;refine Call_ (ud I hg hm boot_enumerate (QM (dR (ha pos pins s σ H _ I h) λus s1⟨vs,H1,I1,r1,q1⟩=>?_) hs rfl));obtain⟨a,xs,ex,hq,q⟩:=q1;subst ex;cases r1 with
 |cons r rr=>
  cases rr;cases r;obtain⟨its,rv,p',hz⟩:=I1.list hq;refine call_enumerate_list p'.isList λh' he hit hsz hk=>wpAny_pyIter_enum he ?_;have I2:Inv X pins σ H1 {s1 with heap:=h'}:=I1.kept (t':=s1.toks) hk;refine⟨s1.heap.objs.size+1,[s1.heap.objs.size+1,s1.heap.objs.size],_,_,H1,rfl,I2,Fe a (s1.heap.objs.size+1) s1.heap.objs.size,⟨⟨.none,he⟩,hit,Nat.succ_ne_self _⟩,λb hb=>?_,q⟩;have e':b=s1.heap.objs.size+1\/b=s1.heap.objs.size:=by simpa using hb
  have hle:s1.heap.objs.size<=b:=by
   rcases e' with z|z
   ·rw[z];exact Rc _ _
   ·rw[z];exact OZ _
  exact I1.B7 hle (I1.cH.fresh hle)
def EG:bootBuiltins "zip"=some (.type "zip"):=by decide+kernel
def M9(K:OX)(a b:Addr):It:=
 ⟨λi H=>∃(xs ys:List V)(x y:V),a0 K H a xs/\a0 K H b ys/\xs[i]? =some x/\ys[i]? =some y,
  λi H v H'=>∃T x y,v=.ref T/\H T=none/\H'=upd H T (.tup [x,y])/\(∀xs,a0 K H a xs->xs[i]? =some x)/\∀ys,a0 K H b ys->ys[i]? =some y,
  λi H=>∃xs ys:List V,a0 K H a xs/\a0 K H b ys/\(xs.length<=i\/ys.length<=i)⟩
def FR{P:PN}{w:World}{K:OX}{elts:List Expr}{kk:Nat}{tpos:Pos}{a b z TI TO i1 i2:Addr}(D:ZipApart z TI TO i1 i2 a b):
  Turn P w K (.Tuple elts kk tpos) (M9 K a b) [z,TI,TO,i1,i2] z (λi h=>IsZip h z TI TO .none/\IsPair h TI (.ref i1) (.ref i2)/\(∃x y,IsPair h TO x y)/\h.IsListIter i1 a i/\h.IsListIter i2 b i) where
 mem:=by simp
 obj:=λi h st c hc=>by
  obtain⟨hz,hTI,⟨x,y,hTO⟩,⟨o1,e1,_,d1⟩,⟨o2,e2,_,d2⟩⟩:=st;have e':c=z\/c=TI\/c=TO\/c=i1\/c=i2:=by simpa using hc
  rcases e' with q|q|q|q|q
  ·rw[q];exact⟨_,hz,λv q=>nomatch q⟩
  ·rw[q];exact⟨_,hTI,λv q=>nomatch q⟩
  ·rw[q];exact⟨_,hTO,λv q=>nomatch q⟩
  ·rw[q];exact⟨o1,e1,λv q=>by rw[d1]at q;cases q⟩
  ·rw[q];exact⟨o2,e2,λv q=>by rw[d2]at q;cases q⟩
 keep:=λi h h' st k=>by
  obtain⟨hz,hTI,⟨x,y,hTO⟩,h1,h2⟩:=st;exact⟨k z (by simp) _ hz,k TI (by simp) _ hTI,⟨x,y,k TO (by simp) _ hTO⟩,h1.at λo q=>k i1 (by simp) o q,h2.at λo q=>k i2 (by simp) o q⟩
 item:=by
  intro X hP hw hK hc i pins s σ H E I hf st hg;subst hP hw hK;obtain⟨hz,hTI,⟨x0,y0,hTO⟩,h1,h2⟩:=st;obtain⟨xs,ys,x,y,hqx,hqy,hx,hy⟩:=hg;obtain⟨its,rv,p,_⟩:=I.list hqx;obtain⟨its2,rv2,p2,_⟩:=I.list hqy;obtain⟨u,hu,ru⟩:=rv.get hx;obtain⟨u2,hu2,ru2⟩:=rv2.get hy;have hzl:z<s.heap.objs.size:=Pf hz;refine wpAny_pyNext_zip_item D hz hTI hTO h1 h2 p.isList p2.isList (x:=u) (y:=u2) (by simpa using hu) (by simpa using hu2) λh' z' TO' h1' h2' hT hsz hk=>?_;refine⟨_,rfl,wpAny_letOwnedTupleGo_zip (s:={s with heap:=h'}) z' λh'' z'' sb=>?_⟩;have hT2:h''.get? s.heap.objs.size=some {cls:= .type "tuple",data:= .seq #[u,u2]}:=(sb.2 _ (Rs hzl)).trans hT;have new:dI X.prog X.w (upd H s.heap.objs.size (.tup [x,y])) h'' s.heap.objs.size (.tup [x,y]):=
   ⟨by show 2<=sizeLine;decide,[u,u2],.cons ru (.cons ru2 .nil),⟨_,hT2,rfl,_,rfl⟩⟩
  have I1:Inv X pins σ (upd H s.heap.objs.size (.tup [x,y])) {s with heap:=h''}:=
   I.t9 (t':=s.toks) (ch:=[z,TI,TO,i1,i2]) (λc o hb q=>(sb.2 c (λq'=>hb (by simp[q']))).trans (hk c o (λq'=>hb (by simp[q'])) (λq'=>hb (by simp[q'])) (λq'=>hb (by simp[q'])) (λq'=>hb (by simp[q'])) q)) hf (OZ _) new
  refine⟨.ref s.heap.objs.size,_,I1,rfl,⟨_,x,y,rfl,I.cH.fresh (OZ _),rfl,λl hl=>by rw[I.tM hl hqx];exact hx,λl hl=>by rw[I.tM hl hqy];exact hy⟩,⟨z'',?_,⟨u,u2,?_⟩,?_,?_⟩,λc hcm=>?_⟩
  ·exact(sb.2 _ D.TIz).trans (hk _ _ D.TIz D.TITO D.TIi1 D.TIi2 hTI)
  ·exact(sb.2 _ D.TOz).trans TO'
  ·exact h1'.at λo q=>(sb.2 _ D.i1z).trans q
  ·exact h2'.at λo q=>(sb.2 _ D.i2z).trans q
  ·have hlt:c<s.heap.objs.size:=by
    have e':c=z\/c=TI\/c=TO\/c=i1\/c=i2:=by simpa using hcm
    rcases e' with q|q|q|q|q
    ·rw[q];exact hzl
    ·rw[q];exact Pf hTI
    ·rw[q];exact Pf hTO
    ·rw[q];obtain⟨_,e1,_⟩:=h1;exact Pf e1
    ·rw[q];obtain⟨_,e2,_⟩:=h2;exact Pf e2
   rw[ak (PX hlt)];exact(hf c hcm).1
 done:=by
  intro X hP hw hK hc i pins s σ H E I hf st hg;subst hP hw hK;obtain⟨hz,hTI,⟨x0,y0,hTO⟩,h1,h2⟩:=st;obtain⟨xs,ys,hqx,hqy,hend⟩:=hg;obtain⟨its,rv,p,_⟩:=I.list hqx;obtain⟨its2,rv2,p2,_⟩:=I.list hqy;have l1:=rv.length;have l2:=rv2.length;have he:its.toArray[i]? =none\/its2.toArray[i]? =none:=by
   rcases hend with q|q
   ·exact .inl (by simp;omega)
   ·exact .inr (by simp;omega)
  exact wpAny_pyNext_zip_end (I.ok.hd hc) D hz hTI hTO h1 h2 p.isList p2.isList he λh' hk=>⟨rfl,I.IP (t':=s.toks) (ch:=[z,TI,TO,i1,i2]) (λc o hb q=>
   hk c o (λq'=>hb (by simp[q'])) (λq'=>hb (by simp[q'])) (λq'=>hb (by simp[q'])) (λq'=>hb (by simp[q'])) q) hf⟩
 self:=λA i s Q E st h=>wpAny_pyIter_zip st.1 h
def Nw(K:OX)(ta:TA):TI:=λσ H R=>ta σ H λvs H1=>∃a b xs ys,vs=[.ref a,.ref b]/\a0 K H1 a xs/\a0 K H1 b ys/\R (M9 K a b) H1
def FQ{X:Cx}{e e2:Expr}{ta:TA}{p pos tpos:Pos}{elts:List Expr}{kk:Nat}(hg:Gl X "zip")(hm:X.mg "zip"=none)(ha:PA X [e,e2] ta)
  (hs:starEach [e,e2] X.env=(false,eval e X.env)::starEach [e2] X.env:=by rfl)(hpl:(backTo pos (starEach [e2] X.env)).any (·.1)=false:=by rfl):
  PI X (.Tuple elts kk tpos) (.Call (.Name "zip" p) [e,e2] [] pos) (Nw X.K ta):=by
 intro pins s σ H R I h;refine Call_ (ud I hg hm EG (QM (dR (ha pos pins s σ H _ I h) λus s1⟨vs,H1,I1,r1,q1⟩=>?_) hs hpl));obtain⟨a,b,xs,ys,ex,hqx,hqy,q⟩:=q1;subst ex;cases r1 with
 |cons r rr=>
  cases rr with
  |cons r' rr=>
   cases rr;cases r;cases r';obtain⟨its,rv,p1,_⟩:=I1.list hqx;obtain⟨its2,rv2,p2,_⟩:=I1.list hqy;have la:a<s1.heap.objs.size:=p1.lt;have lb:b<s1.heap.objs.size:=p2.lt;refine call_zip_2 p1.isList p2.isList λh' hz hTI hTO h1 h2 hsz hk=>wpAny_pyIter_zip hz ?_;have I2:Inv X pins σ H1 {s1 with heap:=h'}:=I1.kept (t':=s1.toks) hk;refine⟨s1.heap.objs.size+4,[s1.heap.objs.size+4,s1.heap.objs.size+2,s1.heap.objs.size+3,s1.heap.objs.size,s1.heap.objs.size+1],_,_,H1,rfl,I2,FR (PySem.W.ktu_apart s1.heap.objs.size a b la lb),⟨hz,hTI,⟨_,_,hTO⟩,h1,h2⟩,λc hcm=>?_,q⟩;have e':c=s1.heap.objs.size+4\/c=s1.heap.objs.size+2\/c=s1.heap.objs.size+3\/c=s1.heap.objs.size\/c=s1.heap.objs.size+1:=by simpa using hcm
   have hle:s1.heap.objs.size<=c:=by
    rcases e' with z|z|z|z|z
    ·rw[z];exact Rc _ _
    ·rw[z];exact Rc _ _
    ·rw[z];exact Rc _ _
    ·rw[z];exact OZ _
    ·rw[z];exact Rc _ _
   exact I1.B7 hle (I1.cH.fresh hle)
end L2
section
namespace TL
open PySem PySem.Builtin PySem.Builtin.Str PySem.StrLaws
abbrev tl(x:Str):List Nat:=x.cps.toList
def tU(x y:Str):tl (x++y)=tl x++tl y:=by
 show(x++y).cps.toList=_;rw[Str.cps_append,Array.toList_append]
def zu(S:List Nat):List (List Nat)->List Nat
 |[]=>[]
 |[p]=>p
 |p::q::r=>p++(S++zu S (q::r))
def Es(y:Str):∀parts:List Str,tl (Str.join y parts)=zu (tl y) (parts.map tl)
 |[]=>rfl
 |[_]=>rfl
 |x::z::r=>by
  show tl (x++y++Str.join y (z::r))=tl x++(tl y++zu (tl y) ((z::r).map tl));rw[tU,tU,Es y (z::r),P9]
def join_eq(y:Str)(parts:List Str):Txt.join y parts=Str.join y parts:=glued_eq_join y parts
end TL
end
namespace L2
open PySem PySem.Spec PyProof.Rows
def oj:∀{ys:List Str}{us:List Value},Vals (ys.map V.str) us->StrsAre us ys
 |[],_,.nil=>.nil
 |y::ys,_,.cons r t=>by
  obtain⟨k,rfl⟩:=r;exact .cons y k (oj t)
section
variable{X:Cx}
def Ec:MF X "str.join" (λx xs H Q=>∃a p,∃ys:List Str,x=.str a/\xs=[.ref p]/\(a0 X.K H p (ys.map V.str)\/iV X.K H p (ys.map V.str))/\
  (ys.map (·.length)).sum+ys.length*a.length<=16777216/\Q (.str (Txt.join a ys)) H):=by
 intro pins s σ H x xs v us Q I rx rs h;obtain⟨a,p,ys,rfl,rfl,hp,hz,h⟩:=h;obtain⟨t,rfl⟩:=rx;cases rs with
 |cons r1 rs=>
  cases rs;cases r1;rcases hp with hp|hp
  ·obtain⟨its,r,⟨o,n,ho,hc,_,hd⟩,_⟩:=I.list hp
   exact PyProof.Rows.join_list (items:=its.toArray) ⟨o,ho,hc,n,hd⟩ (by rw[Rk];exact oj r) hz λt' k=>⟨.str _,H,I.tok k,⟨t',rfl⟩,h⟩
  ·obtain⟨its,r,ht,_⟩:=I.tuple hp
   exact PyProof.Rows.join_tuple (items:=its.toArray) ht (by rw[Rk];exact oj r) hz λt' k=>⟨.str _,H,I.tok k,⟨t',rfl⟩,h⟩
end
def IsPart.raw{v:Value}{o:Option Int}(p:IsPart v o):∃l:Option (Int×Tok),v=partValue l/\l.map (·.1)=o:=by
 cases p with
 |none=>exact⟨none,rfl,rfl⟩
 |int i t=>exact⟨some (i,t),rfl,rfl⟩
def BB(n d:Nat):Option Int->Int
 |none=>(d:Int)
 |some i=>max 0 (min (if i<0 then i+(n:Int)else i) (n:Int))
def Cj(n d:Nat)(o:Option Int):BB n d o=((HT.jW n d o:Nat):Int):=by
 cases o with
 |none=>rfl
 |some v=>
  show max (0:Int) (min (if v<0 then v+(n:Int)else v) (n:Int))=(((if v<0 then(v+(n:Int)).toNat else min v.toNat n):Nat):Int)
  by_cases hv:v<0
  ·simp only[OW hv]
   omega
  ·simp only[OV hv]
   omega
def EJ(a b:Option Int)(n:Nat):Builtin.Str.strSliceIndices a b 1 n=sliceRange (BB n 0 a) (BB n n b) 1:=by
 have h1:((1:Int)>0)=True:=by simp
 cases a<;>cases b<;>first
  |rfl
  |(simp only[Builtin.Str.strSliceIndices,BB,h1,if_true];rfl)
  |simp[Builtin.Str.strSliceIndices,BB]
def NM(a b:Option Int)(n:Nat):Builtin.Str.strSliceIndices a b 1 n=(List.range (HT.jW n n b-HT.jW n 0 a)).map (λk=>HT.jW n 0 a+k):=by
 rw[EJ,Cj,Cj];generalize HT.jW n 0 a=p;generalize HT.jW n n b=q;simp only[sliceRange,show((1:Int)>0)=True from by simp,if_true]
 by_cases hlt:(p:Int)<q
 ·have e3:(((q:Int)-p+1-1)/1).toNat=q-p:=by first|omega|(simp;done)|(simp;omega)
  simp only[hlt,if_true,e3];refine QP λk _=>?_;omega
 ·have:q-p=0:=by omega
  simp[hlt,this]
def gd(z:Str)(lo hi:Option Int):Str:=
 ⟨((z.cps.toList.drop (HT.jW z.length 0 lo)).take (HT.jW z.length z.length hi-HT.jW z.length 0 lo)).toArray⟩
def qQ(z:Str)(lo hi:Option Int):PySem.StrLaws.sliceText z lo hi=gd z lo hi:=by
 have h1:HT.jW z.length 0 lo<=z.length:=HT.Gi _ _ (P4 _) _;have h2:HT.jW z.length z.length hi<=z.length:=HT.Gi _ _ (OZ _) _;have hp:HT.jW z.length 0 lo<=max (HT.jW z.length 0 lo) (HT.jW z.length z.length hi):=Nat.le_max_left _ _;have hq:max (HT.jW z.length 0 lo) (HT.jW z.length z.length hi)<=z.length:=Nat.max_le.mpr ⟨h1,h2⟩;have hd:max (HT.jW z.length 0 lo) (HT.jW z.length z.length hi)-HT.jW z.length 0 lo=HT.jW z.length z.length hi-HT.jW z.length 0 lo:=by omega
 have e:Builtin.Str.strSliceIndices lo hi 1 z.length=
   Builtin.Str.strSliceIndices (some ((HT.jW z.length 0 lo:Nat):Int)) (some ((max (HT.jW z.length 0 lo) (HT.jW z.length z.length hi):Nat):Int)) 1 z.length:=by
  rw[PySem.StrLaws.strSliceIndices_plain hp hq,hd,NM]
 have e2:PySem.StrLaws.sliceText z lo hi=
   PySem.StrLaws.sliceText z (some ((HT.jW z.length 0 lo:Nat):Int)) (some ((max (HT.jW z.length 0 lo) (HT.jW z.length z.length hi):Nat):Int)):=by
  unfold PySem.StrLaws.sliceText;rw[e]
 rw[e2,PySem.StrLaws.sliceText_nat z hp hq,hd];rfl
def Bm(z:Str)(lo hi:Option Int):(gd z lo hi).length<=z.length:=by
 show(((z.cps.toList.drop (HT.jW z.length 0 lo)).take (HT.jW z.length z.length hi-HT.jW z.length 0 lo)).toArray).size<=z.cps.size;rw[Py,PK,QY,Array.length_toList];omega
def No:V->Option Int->Option Int->Hp->VK->Prop:=λx lo hi H Q=>∃z,x=.str z/\z.length<=sizeLine/\Q (.str (gd z lo hi)) H
def CL{X:Cx}:M4 X No:=by
 intro pins s σ H x v vl vu lo hi sl Q I rx hs pl pu h;obtain⟨z,rfl,hz,q⟩:=h;obtain⟨t,rfl⟩:=rx;obtain⟨os,hos,hcs,hds⟩:=hs;obtain⟨l,rfl,rfl⟩:=IsPart.raw pl;obtain⟨u,rfl,rfl⟩:=IsPart.raw pu;refine⟨"str",_,F.slot_str_getitem.lookup,typeIs_str _ _ _,?_⟩;refine wpAny_getItem_str_slice (l:=l) (u:=u) (st:=none) ⟨os,hos,hcs,hds⟩ rfl ?_;have hl:(PySem.StrLaws.sliceText z (l.map (·.1)) (u.map (·.1))).length<=sizeLine:=by
  rw[qQ];exact PD (Bm z _ _) hz
 rw[<-qQ]at q;unfold PySem.StrLaws.sliceText at q hl;show Made.post (if((1:Int)==1&&(Builtin.Str.strSliceIndices (l.map (·.1)) (u.map (·.1)) 1 z.length).length==z.length)=true then Made.val (.str z t)
  else Made.str ⟨((Builtin.Str.strSliceIndices (l.map (·.1)) (u.map (·.1)) 1 z.length).filterMap (z.cps[·]?)).toArray⟩) (EP X pins σ Q) s
 by_cases c:((1:Int)==1&&(Builtin.Str.strSliceIndices (l.map (·.1)) (u.map (·.1)) 1 z.length).length==z.length)=true
 ·rw[OW c]at q ⊢
  exact⟨.str z,H,I,⟨t,rfl⟩,q⟩
 ·rw[OV c]at q hl ⊢
  exact⟨hl,.str _,H,I.tok _,⟨_,rfl⟩,q⟩
def inClass(s:Stmt)(j:Nat):Stmt:=match s with
 |.ClassDef _ _ _ body _ _ _ _ _ _ _=>body.getD j (.Pass ⟨0,0,0,0⟩)
 |_=>.Pass ⟨0,0,0,0⟩
def gL(s:Stmt):Arguments:=match s with
 |.FunctionDef _ a _ _ _ _ _ _ _ _=>a
 |_=>{posonlyargs:=[],args:=[],vararg:=none,kwonlyargs:=[],kw_defaults:=[],kwarg:=none,defaults:=[]}
def dG(s:Stmt):List Stmt:=match s with
 |.FunctionDef _ _ b _ _ _ _ _ _ _=>b
 |_=>[]
def ao(s:Stmt):Scope:=match s with
 |.FunctionDef _ _ _ _ _ _ sc _ _ _=>sc
 |_=>{kind:= .function,names:=[],isGenerator:=false,isCoroutine:=false}
abbrev NC:Dg:=λ_ _ _ _ _ _=>False
abbrev E0:XK:=λ_ _ _=>False
structure Cp(K:OX)(x qual:Str)(st:Stmt)(f:Addr)(fd:O5):Prop where
 ex:∃(oc:Value)(od:Option Addr)(kV doc pm:Value)(an:Option Addr)(cdv ct:Value)(osl:Array (Option Value)),
  fd=PySem.W.fnOf x qual (gL st) (dG st) (ao st) .none kV doc pm an cdv ct/\K.lookup f=some ⟨oc,od,.func fd,osl⟩/\PySem.W.codeIn K cdv qual=true
 kp:PySem.W.keepIn K (.ref f)=true
section
variable{P:PN}{w:World}{K:OX}{mg:Str->Option Value}{base:Heap}
def Cp.binds{x qual:Str}{st:Stmt}{f:Addr}{fd:O5}{ps:List Str}(F:Cp K x qual st f fd)
  (h:∀(kV doc pm:Value)(an:Option Addr)(cdv ct:Value)(us:List Value),us.length=ps.length->bindArgs (PySem.W.fnOf x qual (gL st) (dG st) (ao st) .none kV doc pm an cdv ct) ⟨us,[]⟩=pure (ps.zip us)):Binds K fd ps []:=by
 obtain⟨oc,od,kV,doc,pm,an,cdv,ct,osl,rfl,lk,hcd⟩:=F.ex;exact .all (h kV doc pm an cdv ct)
def KR{x qual:Str}{st:Stmt}{f:Addr}{oc:Value}{od an:Option Addr}{osl:Array (Option Value)}{kV doc pm cdv ct:Value}(l:K.lookup f=some ⟨oc,od,.func (PySem.W.fnOf x qual (gL st) (dG st) (ao st) .none kV doc pm an cdv ct),osl⟩)
  (c:PySem.W.codeIn K cdv qual=true)(k:PySem.W.keepIn K (.ref f)=true):Cp K x qual st f (PySem.W.fnOf x qual (gL st) (dG st) (ao st) .none kV doc pm an cdv ct):=⟨⟨oc,od,kV,doc,pm,an,cdv,ct,osl,rfl,l,c⟩,k⟩
end
section
variable{X:Cx}
def pv(i:Nat){x:Str}{pos:Pos}(hN:X.N[i]? =some x:=by rfl)(hv:LC X.env.scope x:=by first|exact Or.inl rfl|exact Or.inr (Or.inl rfl)|exact Or.inr (Or.inr rfl))(hd:(x==("__debug__":Str))=false:=by decide)
  (hcd:(x==("__classdict__":Str))=false:=by decide):PE X (.Name x pos) (My i):=KO hN hv hd hcd
end
def MA{A B:Prop}(h:B):if false=true then A else B:=by
 rw[OV O3];exact h
def KC{A B:Prop}(h:A):if true=true then A else B:=by
 rw[OW rfl];exact h
def gD{c A B:Prop} [Decidable c] (h1:c->A)(h2:¬c->B):if c then A else B:=by
 by_cases h:c
 ·rw[OW h]
  exact h1 h
 ·rw[OV h]
  exact h2 h
def aE(H H':Hp):Prop:=∀b o,H b=some o->H' b=some o
def aE.refl(H:Hp):aE H H:=λ_ _ h=>h
def aE.trans{H H1 H2:Hp}(a:aE H H1)(b:aE H1 H2):aE H H2:=λc o h=>b c o (a c o h)
def aE.free{H H':Hp}(e:aE H H'){l:Addr}(h:H' l=Option.none):H l=Option.none:=by
 cases q:H l with
 |none=>rfl
 |some o=>
  rw[e l o q]at h;cases h
def at_of{xs:List V}{z:Int}{j:Nat}{v:V}(e:z=(j:Int))(h:xs[j]? =some v):Cg xs z=some v:=by
 rw[e];exact HU h
end L2
namespace L2
open PySem PySem.Spec PyProof.Rows
def jK(C:Addr)(d:Option Addr)(vs:Array Value):Obj:={cls:= .ref C,dict:=d,data:= .fields vs}
def XO(e C:Addr)(d:Option Addr)(cx:Bool):HO:= .ext λh=>∃vs:Array Value,h.get? e=some (jK C d vs)/\vs.size=6/\(cx=true->vs[2]? =some Value.none)
def XD(dx:Addr)(fs:List (Str×V)):HO:= .ext λh=>∃mA,h.Ns1 dx mA/\(∀f,qJ (fs.lookup f) (mA f))/\PySem.Within mA (fs.map (·.1))/\fs.length<=1000
def Op(h:Heap)(H:Hp)(n:Nat)(e:Addr)(vs:Array Value):Option (Addr×Value)->Prop
 |Option.none=>vs[1]? =some Value.none
 |some (T,f)=>vs[1]? =some (.ref T)/\T≠e/\n<=T/\H T=none/\∃oT ts,h.get? T=some oT/\oT.data=Data.fields ts/\ts[3]? =some f
def Rec(h:Heap)(H:Hp)(n:Nat)(e:Addr)(tb:Option (Addr×Value)):Prop:=
 ∃oe vs,h.get? e=some oe/\oe.data=Data.fields vs/\vs.size=6/\Op h H n e vs tb
def yA:Option (Addr×Value)->List Addr
 |none=>[]
 |some p=>[p.1]
section
variable{P:PN}{w:World}{H:Hp}{h h':Heap}{e C:Addr}{d:Option Addr}{cx:Bool}
def BC(ok:lW P w H h)(he:H e=some (XO e C d cx)):∃vs:Array Value,h.get? e=some (jK C d vs)/\vs.size=6/\(cx=true->vs[2]? =some Value.none):=
 (show dI P w H h e (XO e C d cx)from ok e _ he).1
def Gh{vs:Array Value}(g:h.get? e=some (jK C d vs))(z:vs.size=6)(c:cx=true->vs[2]? =some Value.none):dI P w H h e (XO e C d cx):=
 ⟨⟨vs,g,z,c⟩,⟨_,g⟩,λ_ _⟨ws,g1,z1,c1⟩ k=>⟨ws,k _ g1,z1,c1⟩⟩
def JS{dx:Addr}{fs:List (Str×V)}{mA:Str->Option Value}(n:h.Ns1 dx mA)(r:∀f,qJ (fs.lookup f) (mA f))(wi:PySem.Within mA (fs.map (·.1)))(z:fs.length<=1000):dI P w H h dx (XD dx fs):=by
 refine⟨⟨mA,n,r,wi,z⟩,?_,?_⟩
 ·obtain⟨o,_,_,g,_⟩:=n
  exact⟨o,g⟩
 ·rintro h1 h2 ⟨mB,⟨o,es,ep,g,q⟩,r',w',z'⟩ k
  exact⟨mB,⟨o,es,ep,k _ g,q⟩,r',w',z'⟩
def JL{dx:Addr}{fs:List (Str×V)}(ok:lW P w H h)(he:H dx=some (XD dx fs)):∃mA,h.Ns1 dx mA/\(∀f,qJ (fs.lookup f) (mA f))/\PySem.Within mA (fs.map (·.1))/\fs.length<=1000:=
 (show dI P w H h dx (XD dx fs)from ok dx _ he).1
def lW.turn(ok:lW P w H h)(he:H e=some (XO e C d cx))(k:∀b u o,b≠e->H b=some o->h.get? b=some u->h'.get? b=some u)
  (new:∀vs:Array Value,h.get? e=some (jK C d vs)->vs.size=6->(cx=true->vs[2]? =some Value.none)->∃ws:Array Value,h'.get? e=some (jK C d ws)/\ws.size=6/\(cx=true->ws[2]? =some Value.none)):lW P w H h':=λb o q=>by
 by_cases hb:b=e
 ·subst hb
  rw[he]at q;cases q;obtain⟨vs,g,z,c⟩:=BC ok he;obtain⟨ws,g',z',c'⟩:=new vs g z c;exact Gh g' z' c'
 ·refine(ok b o q).vH (λc u hc g=>?_) (λ_ z=>z) λ_ _ z=>z
  rcases hc with rfl|hc
  ·exact k c u o hb q g
  ·refine k c u _ (λz=>?_) hc g
   subst z;rw[he]at hc;cases hc
end
section
variable{P:PN}{w:World}{M:Model}{A:Around}{E:Value->Shared->Prop}{s:Shared}{H:Hp}{base:Heap}{env:Env}{outer:List Env}{L e C:Addr}{d:Option Addr}{cx:Bool}{n:Nat}
structure oO(P:PN)(w:World)(H:Hp)(l:List Env)(ch:List Addr)(h h':Heap):Prop where
 un:Un (yK l) ch H H h h'
 ok:lW P w H h'
def oO.trans{l:List Env}{ch:List Addr}{h h1 h2:Heap}(a:oO P w H l ch h h1)(b:oO P w H l ch h1 h2):oO P w H l ch h h2:=⟨a.un.trans b.un,b.ok⟩
def oO.mono{l:List Env}{ch ch':List Addr}{h h1:Heap}(a:oO P w H l ch h h1)(k:∀b∈ch,b∈ch'):oO P w H l ch' h h1:=⟨a.un.mono (λ_ z=>z) k,a.ok⟩
def Bs{head:Value}{had:Bool}{vs:Array Value}{Q:Unit->Shared->Prop}(hfr:A.frames=some (env::outer))(hl:s.heap.FunFrames base (env::outer))(hf:env.frame=some L)(Cy:∀b∈yK (env::outer),H b=none)
  (ok:lW P w H s.heap)(he:H e=some (XO e C d cx))(ge:s.heap.get? e=some (jK C d vs))(hz:vs.size=6)(hs:n<=s.heap.objs.size)
  (h:∀h' T,oO P w H (env::outer) [] s.heap h'->Rec h' H n e (some (T,rawInt L))->(∀b o,s.heap.get? b=some o->b≠T)->Q () {s with heap:=h'}):
  wpAny M A (do let a<-frameOf env;let pl<-entryPlaceOf L had;let b<-EntryCells.newEntry head a .none (rawInt L) .none pl;setField (.ref e) 1 b) Q E s:=by
 have nfr:∀b o,H b=some o->b∉yK (env::outer):=λb o q hb=>by
  have z:=Cy b hb;rw[q]at z;cases z
 refine O4 (wpAny_frameOf_fun hfr hl hf λh1 hs1=>?_);refine O4 (wpAny_entryPlaceOf λpl hpl=>?_);unfold EntryCells.newEntry newFields;refine O4 (wpAny_newObj_type ?_ (hpl.sizeOk5 _ _ _ _ _));have e1:h1.get? e=some (jK C d vs):=(hs1.2.1 e (nfr e _ he)).trans ge;generalize hob:({cls:=Value.type "traceback",dict:=none,data:=Data.fields ([head,Value.ref L,Value.none,rawInt L,Value.none]++(if pl.isEmpty then List.replicate 6 Value.none else pl)).toArray}:Obj)=ob;have e2:(h1.push ob).get? e=some (jK C d vs):=Pr _ e1;refine wpAny_setField e2 rfl (by omega) ?_;have neT:h1.objs.size≠e:=Rs (Pf e1);have sz:h1.objs.size=s.heap.objs.size:=hs1.1;have fT:H h1.objs.size=none:=ok.fresh (by rw[sz];exact OZ _);have e3:((h1.push ob).update e (Obj.mapFields (·.setIfInBounds 1 (Value.ref h1.objs.size)))).get? e=some (jK C d (vs.setIfInBounds 1 (Value.ref h1.objs.size))):=Q4 _ e2 rfl;have oth:∀b o,b≠e->h1.get? b=some o->((h1.push ob).update e (Obj.mapFields (·.setIfInBounds 1 (Value.ref h1.objs.size)))).get? b=some o:=λb o hb q=>by
  rw[QE _ _ (Pb hb)];exact Pr _ q
 have gT:((h1.push ob).update e (Obj.mapFields (·.setIfInBounds 1 (Value.ref h1.objs.size)))).get? h1.objs.size=some ob:=by
  rw[QE _ _ (Pb neT)];exact PZ h1 (by subst hob;rfl)
 refine h _ h1.objs.size ⟨⟨λb o q z hb _=>?_,λb o q z hb _=>?_,λ_ _ _ z _=>z,λb o q _=>?_,λ_ _ q=>q,λ_ _ _ q=>q,λb ps q=>⟨#[],by rw[q];simp⟩⟩,?_⟩ ?_ (λb o q=>by rw[sz];exact PX (Pf q))
 ·have hbe:b≠e:=λy=>by
   subst y;rw[he]at z;cases z
  exact oth b o hbe ((hs1.2.1 b hb).trans q)
 ·have hbe:b≠e:=λy=>by
   subst y;rw[he]at z;cases z
  obtain⟨sl,q1⟩:=hs1.2.2 b o q;exact⟨sl,oth b _ hbe q1⟩
 ·by_cases hbe:b=e
  ·subst hbe
   exact⟨_,e3⟩
  ·obtain⟨sl,q1⟩:=hs1.2.2 b o q
   exact⟨_,oth b _ hbe q1⟩
 ·refine ok.turn he (λb u o hb q g=>oth b u hb ((hs1.2.1 b (nfr b o q)).trans g)) λws g z c=>⟨ws.setIfInBounds 1 (Value.ref h1.objs.size),?_,by simpa using z,λhc=>?_⟩
  ·rw[ge]at g
   have q:vs=ws:=Data.fields.inj (P_ Obj.data (Pu g));rw[<-q];exact e3
  ·rw[Array.getElem?_setIfInBounds_ne (by decide)]
   exact c hc
 ·refine⟨_,_,e3,rfl,by simpa using hz,?_,neT,by rw[sz];exact hs,fT,ob,_,gT,by subst hob;rfl,?_⟩
  ·simp[hz]
  ·first
   |(simp;done)
   |(rcases hpl with rfl|⟨_,_,_,_,_,_,_,rfl⟩<;>simp)
def Gm{h:Heap}{tb:Option (Addr×Value)}(R:Rec h H n e tb)(ok:lW P w H h)(he:H e=some (XO e C d cx)):∃vs,h.get? e=some (jK C d vs)/\vs.size=6/\Op h H n e vs tb:=by
 obtain⟨oe,vs,g,hd,z,r⟩:=R;obtain⟨ws,g',_⟩:=BC ok he;rw[g]at g';cases g';cases(show vs=ws from(Data.fields.inj hd).symm);exact⟨vs,g,z,r⟩
def xg{T:Addr}{f:Value}{fr:Option Addr}{Q:Unit->Shared->Prop}(R:Rec s.heap H n e (some (T,f)))(ok:lW P w H s.heap)(he:H e=some (XO e C d cx))(l:List Env)
  (h:∀h',oO P w H l [T] s.heap h'->Rec h' H n e (some (T,fr.elim Value.none λa=>rawInt a))->Q () {s with heap:=h'}):wpAny M A (setFlight (.ref e) fr) Q E s:=by
 obtain⟨vs,g,z,h1,hTe,hnT,fT,oT,ts,gT,hdT,h3⟩:=Gm R ok he;have z3:3<ts.size:=(Array.getElem?_eq_some_iff.mp h3).1;unfold setFlight;refine O4 (RC g rfl h1 ?_);rw[OW (show(Value.ref T !=Value.none)=true from by simp)];refine wpAny_setField gT hdT z3 ?_;have oth:∀b,b≠T->(s.heap.update T (Obj.mapFields (·.setIfInBounds 3 (fr.elim Value.none λa=>rawInt a)))).get? b=s.heap.get? b:=λb hb=>QE _ _ (Pb hb);have gT':(s.heap.update T (Obj.mapFields (·.setIfInBounds 3 (fr.elim Value.none λa=>rawInt a)))).get? T=some (oT.mapFields (·.setIfInBounds 3 (fr.elim Value.none λa=>rawInt a))):=Q4 _ gT (Obj.isFreed_of_fields (Obj.data_mapFields hdT _));have ne:∀b o,H b=some o->b≠T:=λb o q y=>by
  subst y;rw[fT]at q;cases q
 refine h _ ⟨⟨λb o q _ _ hb=>?_,λb o q _ _ hb=>⟨o.slots,?_⟩,λ_ _ _ y _=>y,λb o q hb=>⟨o,?_⟩,λ_ _ q=>q,λ_ _ _ q=>q,λb ps q=>⟨#[],by rw[q];simp⟩⟩,?_⟩ ?_
 ·exact(oth b λy=>hb (by simp[y])).trans q
 ·exact(oth b λy=>hb (by simp[y])).trans q
 ·exact(oth b λy=>hb (by simp[y])).trans q
 ·exact ok.turn he (λb u o _ q g'=>(oth b (ne b o q)).trans g') λws g' z' c'=>⟨ws,(oth e (Pb hTe)).trans g',z',c'⟩
 ·exact⟨_,vs,(oth e (Pb hTe)).trans g,rfl,z,h1,hTe,hnT,fT,_,_,gT',Obj.data_mapFields hdT _,by simp[z3]⟩
def Goes(L:Addr):Option (Addr×Value)->Prop
 |none=>True
 |some p=>p.2=Value.none\/p.2=rawInt L
def HH{l:List Env}{h:Heap}{T:Addr}{o:Obj}{ts:Array Value}(hl:h.FunFrames base l)(g:h.get? T=some o)(hd:o.data=Data.fields ts):T∉yK l:=λhm=>by
 obtain⟨_,o',g',q⟩:=hl.mem hm;rw[g]at g';cases g';exact q ts hd
def yz{tb:Option (Addr×Value)}{Q:Unit->Shared->Prop}(hfr:A.frames=some (env::outer))(hl:s.heap.FunFrames base (env::outer))(hf:env.frame=some L)(Cy:∀b∈yK (env::outer),H b=none)
  (ok:lW P w H s.heap)(he:H e=some (XO e C d cx))(R:Rec s.heap H n e tb)(G:Goes L tb)(hs:n<=s.heap.objs.size)
  (h:∀h' T,oO P w H (env::outer) (yA tb) s.heap h'->Rec h' H n e (some (T,rawInt L))->(∀b o,s.heap.get? b=some o->b∉yA tb->b≠T)->Q () {s with heap:=h'}):wpAny M A (noteFrame (.ref e) env) Q E s:=by
 obtain⟨vs,g,z,r⟩:=Gm R ok he;unfold noteFrame;simp only[hf]
 match tb,R,G,r,h with
 |none,_,G,r,h=>
  refine O4 (RC g rfl r ?_);rw[OV (by decide)];exact Bs hfr hl hf Cy ok he g z hs λh' T' N2 R2 k2=>h h' T' N2 R2 λb o q _=>k2 b o q
 |some (T,f),R0,G,r,h=>
  obtain⟨h1,hTe,hnT,fT,oT,ts,gT,hdT,h3⟩:=r;refine O4 (RC g rfl h1 ?_);rw[OW (show(Value.ref T !=Value.none)=true from by simp)];refine O4 (RC gT hdT h3 ?_);rcases(show f=Value.none\/f=rawInt L from G)with rfl|rfl
  ·rw[OV (show¬((Value.none==rawInt L)=true)from by simp[rawInt])]
   have z3:3<ts.size:=(Array.getElem?_eq_some_iff.mp h3).1;refine O4 (wpAny_setField gT hdT z3 ?_);have oth:∀b,b≠T->(s.heap.update T (Obj.mapFields (·.setIfInBounds 3 Value.none))).get? b=s.heap.get? b:=λb hb=>QE _ _ (Pb hb);have nT:=HH hl gT hdT;have ne:∀b o,H b=some o->b≠T:=λb o q y=>by
    subst y;rw[fT]at q;cases q
   have u1:oO P w H (env::outer) [T] s.heap (s.heap.update T (Obj.mapFields (·.setIfInBounds 3 Value.none))):=by
    refine⟨⟨λb o q _ _ hb=>?_,λb o q _ _ hb=>⟨o.slots,?_⟩,λ_ _ _ y _=>y,λb o q hb=>⟨o,?_⟩,λ_ _ q=>q,λ_ _ _ q=>q,λb ps q=>⟨#[],by rw[q];simp⟩⟩,?_⟩
    ·exact(oth b λy=>hb (by simp[y])).trans q
    ·exact(oth b λy=>hb (by simp[y])).trans q
    ·exact(oth b λy=>hb (by simp[y])).trans q
    ·exact ok.turn he (λb u o _ q g'=>(oth b (ne b o q)).trans g') λws g' z' c'=>⟨ws,(oth e (Pb hTe)).trans g',z',c'⟩
   refine Bs (s:={s with heap:=s.heap.update T (Obj.mapFields (·.setIfInBounds 3 Value.none))}) hfr (hl.of_keeps λb o hb nf=>⟨o,(oth b λy=>?_).trans hb,rfl⟩) hf Cy u1.ok he ((oth e (Pb hTe)).trans g) z (by rw[Heap.size_after_update];exact hs) λh' T' N2 R2 k2=>h h' T' (u1.trans (N2.mono (by simp))) R2 λb o q hb=>k2 b o ((oth b λy=>hb (by simp[y,yA])).trans q);subst y;rw[gT]at hb;cases hb;exact nf ts hdT
  ·rw[OW (show(rawInt L==rawInt L)=true from by simp)]
   exact PM (h s.heap T ⟨Un.refl,ok⟩ R0 λb o _ hb y=>hb (by simp[y,yA]))
end
def Un.behind{fs fs' ch:List Addr}{H0 H:Hp}{h0 h h':Heap}(a:Un fs [] H0 H h0 h)(b:Un fs' ch H H h h')(hf:∀x∈fs',x∈fs\/h0.objs.size<=x)(hc:∀x∈ch,h0.objs.size<=x):Un fs [] H0 H h0 h':=by
 have nc:∀x o,h0.get? x=some o->x∉ch:=λx o q m=>absurd (PJ (Pf q) (hc x m)) (Qw _);have nf:∀x o,h0.get? x=some o->x∉fs->x∉fs':=λx o q m m'=>by
  rcases hf x m' with z|z
  ·exact m z
  ·exact absurd (PJ (Pf q) z) (Qw _)
 have no:∀x:Addr,x∉([]:List Addr):=λ_ z=>nomatch z;refine⟨λx o q z m _=>?_,λx o q z m _=>?_,λx o q z _=>a.free x o q z (no x),λx o q _=>?_,a.rW,a.qG,a.rM⟩
 ·exact b.keep x o (a.keep x o q z m (no x)) (a.free x o q z (no x)) (nf x o q m) (nc x o q)
 ·obtain⟨sl,q1⟩:=a.slot x o q z m (no x)
  obtain⟨sl',q2⟩:=b.any q1 (a.free x o q z (no x)) (nc x o q);exact⟨sl',q2⟩
 ·obtain⟨o1,q1⟩:=a.there x o q (no x)
  exact b.there x o1 q1 (nc x o q)
def Rec.LQ{h:Heap}{H:Hp}{n m:Nat}{e:Addr}{tb:Option (Addr×Value)}(R:Rec h H n e tb)(k:m<=n):Rec h H m e tb:=by
 obtain⟨oe,vs,g,hd,z,r⟩:=R;refine⟨oe,vs,g,hd,z,?_⟩
 match tb,r with
 |none,r=>exact r
 |some (T,f),⟨r1,r2,r3,r4⟩=>exact⟨r1,r2,PD k r3,r4⟩
def cX(P:PN)(w:World):Dg:=λouter H s E ev s'=>∃e C d cx T H',ev=.ref e/\s'.os=s.os/\AllBare s'.gens/\Un (yK outer) [] H H' s.heap s'.heap/\lW P w H' s'.heap/\
 H' e=some (XO e C d cx)/\Rec s'.heap H' s.heap.objs.size e (some (T,Value.none))/\E (.ref C) (some e) H'
def Lets(X:Cx)(E:XK):Prop:=∀(pins:List (Addr×Obj))(σ:St)(H:Hp)(s:Shared)(e C:Addr)(d:Option Addr)(cx:Bool)(tb:Option (Addr×Value)),Inv X pins σ H s->H e=some (XO e C d cx)->
 Rec s.heap H X.vI.heap.objs.size e tb->(∀p∈X.pn++pins,∀b∈yA tb,p.1≠b)->Goes X.env.locals tb->E (.ref C) (some e) H->X.xe (.ref e) s
def aK{P:PN}{w:World}{X:Cx}:Passes (cX P w) X E0:=λ_ _ _ _ _ _ _⟨_,_,_,_,_,_,_,_,_,_,_,_,_,h⟩=>h.elim
def Lets.passes{X:Cx}{E:XK}(l:Lets X E):Passes (cX X.prog X.w) X E:=by
 rintro pins σ H s ev s' I ⟨e,C,d,cx,T,H',rfl,os,bare,un,ok,he,R,q⟩
 refine l pins σ H' s' e C d cx _ (I.GC (ch:=[]) os un ok bare (λb z=>nomatch z)) he (R.LQ I.sz) (λp hp b hb=>?_) (.inl rfl) q;obtain⟨_,_,_,_,_,_,_,hT,_⟩:=R;have eb:b=T:=by simpa[yA]using hb
 subst eb;exact PX (PJ (Pf (I.pin p hp).1) hT)
def zi{h:Heap}{H:Hp}{n:Nat}{e:Addr}{tb:Option (Addr×Value)}(R:Rec h H n e tb):∀b∈yA tb,n<=b:=by
 intro b hb;cases tb with
 |none=>exact nomatch hb
 |some p=>
  obtain⟨_,_,_,_,_,_,_,hT,_⟩:=R;have eb:b=p.1:=Pj.mp hb;rw[eb];exact hT
section
variable{P:PN}{w:World}{K:OX}{mg:Str->Option Value}{base:Heap}{N:List Str}{qual:Str}{scope:Scope}{f:Addr}{cd:Value}{A:Around}{outer:List Env}{s:Shared}{H:Hp}{E:XK}
def aA:Lets (ua (cX P w) P w K mg base N qual scope f cd A outer s H E) E:=by
 intro pins σ H' s' e C d cx tb I he R hp G q;show wpAny (model P w) _ (leaving _ (.ref e)) _ _ s';have hst:(envOfC qual scope s.heap.objs.size f cd).frame=some s.heap.objs.size:=rfl;unfold leaving;refine O4 (yz (P:=P) (w:=w) (base:=base) (n:=s.heap.objs.size) I.ok.frames I.stack hst I.v6 I.cH he R G (show s.heap.objs.size<=_ from I.sz) λh1 T N1 R1 _=>?_);refine xg (s:={s' with heap:=h1}) (fr:=none) R1 N1.ok he (envOfC qual scope s.heap.objs.size f cd::outer) λh2 N2 R2=>?_;have u0:Un (yK outer) [] H H' s.heap s'.heap:=I.base;have yT:=zi R1;have hfr:∀x∈yK (envOfC qual scope s.heap.objs.size f cd::outer),x∈yK outer\/s.heap.objs.size<=x:=λx hx=>by
  rcases Po.mp (show x∈s.heap.objs.size::yK outer from hx)with z|z
  ·exact .inr (Nat.le_of_eq z.symm)
  ·exact .inl z
 have u1:=u0.behind N1.un hfr (zi R);have u2:=u1.behind N2.un hfr yT;exact⟨e,C,d,cx,T,H',rfl,I.os,I.bare,u2,N2.ok,he,R2,q⟩
end
section
variable{P:PN}{w:World}{K:OX}{mg:Str->Option Value}{base:Heap}
def Cp.Ov{x qual:Str}{st:Stmt}{f:Addr}{fd:O5}{N ps:List Str}{k:Nat}{sp:Sp}(F:Cp K x qual st f fd)(S:aB N ps (ao st))(len:∀vs H Q E,sp vs H Q E->vs.length=ps.length)
  (hb:∀(cdv:Value)(A:Around)(outer:List Env)(s:Shared)(H:Hp)(vs:List V)(Q:VK)(E:XK),gf k (A.deeper (envOfC qual (ao st) s.heap.objs.size f cdv))->sp vs H Q E->
   ∃t,zN (ua (cX P w) P w K mg base N qual (ao st) f cdv A outer s H E) (dG st) t/\t {nx:=λ_ H'=>Q .eC H',rt:=Q} (start N vs) H):a4 P w K mg base (cX P w) (k+1) f fd ps sp:=by
 obtain⟨oc,od,kV,doc,pm,an,cdv,ct,osl,rfl,lk,hcd⟩:=F.ex;exact Mx lk hcd S len λA outer s H vs Q E hr hsp=>hb cdv A outer s H vs Q E hr hsp
def Cp.M7{x qual:Str}{st:Stmt}{f:Addr}{fd:O5}{N ps:List Str}{k:Nat}{sp:Sp}(F:Cp K x qual st f fd)(S:aB N ps (ao st))(len:∀vs H Q E,sp vs H Q E->vs.length=ps.length)
  (hb:∀(cdv:Value)(A:Around)(outer:List Env)(s:Shared)(H:Hp)(vs:List V)(Q:VK)(E:XK),gf k (A.deeper (envOfC qual (ao st) s.heap.objs.size f cdv))->sp vs H Q E->
   ∃t,zN (ua (cX P w) P w K mg base N qual (ao st) f cdv A outer s H E).L9 (dG st) t/\t {nx:=λ_ H'=>Q .eC H',rt:=Q} (start N vs) H):a4 P w K mg base (cX P w) (k+1) f fd ps sp:=
 F.Ov S len λcdv A outer s H vs Q E hr hsp=>let⟨t,h,q⟩:=hb cdv A outer s H vs Q E hr hsp;⟨t,h.L9,q⟩
end
abbrev Cx.re(X:Cx)(A:Around)(c:Bool)(pn:List (Addr×Obj))(xe:Value->Shared->Prop):Cx:={X with A:=A,calm:=c,pn:=pn,xe:=xe}
section
variable{X:Cx}{pins pins' pn:List (Addr×Obj)}{σ:St}{H:Hp}{s:Shared}{A:Around}{c:Bool}{xe:Value->Shared->Prop}
def Inv.re(I:Inv X pins σ H s)(hA:A.frames=X.A.frames)(hc:c=true->A.handled=none)(hp:∀p∈pn++pins',p∈X.pn++pins):Inv (X.re A c pn xe) pins' σ H s:=
 ⟨⟨I.ok.mod,I.ok.kind,I.ok.glob,I.ok.blt,I.ok.above,I.ok.inj,I.ok.has,I.ok.J6,hc,hA.trans I.ok.frames,I.ok.LH,I.ok.LG,I.ok.bs,I.ok.Fz,I.ok.C9,I.ok.CK,I.ok.rF,I.ok.Cy⟩,
  I.os,I.bare,I.base,I.loc,I.cell,I.free,I.mn,λp q=>I.pin p (hp p q),I.cH,I.len⟩
def Inv.back(I:Inv (X.re A c pn xe) pins σ H s)(hA:A.frames=X.A.frames)(hc:X.calm=true->X.A.handled=none)(hp:∀p∈X.pn++pins',p∈pn++pins):Inv X pins' σ H s:=
 ⟨⟨I.ok.mod,I.ok.kind,I.ok.glob,I.ok.blt,I.ok.above,I.ok.inj,I.ok.has,I.ok.J6,hc,hA.symm.trans I.ok.frames,I.ok.LH,I.ok.LG,I.ok.bs,I.ok.Fz,I.ok.C9,I.ok.CK,I.ok.rF,I.ok.Cy⟩,
  I.os,I.bare,I.base,I.loc,I.cell,I.free,I.mn,λp q=>I.pin p (hp p q),I.cH,I.len⟩
end
abbrev HE:List Value:=[.type "ValueError",.type "Exception",.type "BaseException",.type "object"]
structure nu(K:OX)(C:Addr):Prop where
 mro:∃cd:ClassData,PySem.W.clsIn K C=some cd/\cd.mro=.ref C::HE/\cd.hasDict=true
 sa:PySem.W.findIn K (.ref C) "__setattr__"=some (some (.builtin "object.__setattr__"))
 ga:PySem.W.findIn K (.ref C) "__getattribute__"=some (some (.builtin "BaseException.__getattribute__"))
 gt:PySem.W.findIn K (.ref C) "__getattr__"=some none
def KT(C t:Addr)(d:Option Addr):Obj:=jK C d #[.ref t,.none,.none,.none,.bool false,.none]
def XI(e C t:Addr)(d:Option Addr):HO:= .ext λh=>h.get? e=some (KT C t d)
section
variable{prog:PN}{w:World}{A:Around}{K:OX}{C e t f:Addr}{name:Str}{v:Value}{s:Shared}{ox:Obj}{od:Option Obj}
def nu.has(c:nu K C){b:Value}{r:Bool}(h:(Value.ref C::HE).contains b=r):PySem.W.mroIn K C b=some r:=by
 obtain⟨cd,h1,h2,_⟩:=c.mro;unfold PySem.W.mroIn;rw[h1,Qm,h2,OV (by simp),h]
def nu.obj(c:nu K C):PySem.W.mroIn K C (.type "object")=some true:=c.has (by simp)
def nu.exc(c:nu K C):PySem.W.mroIn K C (.type "BaseException")=some true:=c.has (by simp)
def JM{R:Result->Shared->Prop}{tk:Tok}(c:nu K C)(X:K.In s.heap)(I:PySem.W.InstAt s.heap e ox C od)(n:PySem.W.findIn K (.ref C) name=some none)
  (h:wpAny (model prog w) A.in1 (Builtin.ObjectAttr.storeInOwnDict (.ref e) (.ref C) (.str name tk) name v false)
   (λfin s'=>match fin with|.done f=>R (.ok f) s'|.again c'=>c'.quiet=true/\codeAny (model prog w) A c' R s') (λy s'=>R (.error y) s') s):
  codeAny (model prog w) A (.call (.builtin "object.__setattr__") ⟨[.ref e,.str name tk,v],[]⟩) R s:=by
 have SF:=PySem.F.store_ValueError;obtain⟨cd,h1,h2,h3⟩:=c.mro;have sub:PySem.W.Looks (model prog w) s.heap (isInstance (.ref e) (.type "object")) true:=I.type.andThen (PySem.W.looks_mroIn X c.obj);refine codeAny_call_builtin SF.slot.plain SF.entry (@PySem.W.check_slot (model prog w) _ _ s "object.__setattr__" "object" "__setattr__" (.ref e) [.str name tk,v] [] _ SF.kind SF.split sub (SF.args (.ref e) (.str name tk) v) ?_);have hm:PySem.W.Looks (model prog w) s.heap (mroOf (.ref C)) cd.mro:=(RD X h1).andThen .now;rw[PySem.W.osa_eq,refuse_eq];refine O4 (O4 (I.type.here (O4 (hm.here ?_))));rw[h2,refuseLoop_ref,SF.passes];exact PM (O4 (I.type.here (O4 ((Rw X n).here (O4 (PM h))))))
def F8{E:Value->Shared->Prop}{vs:Array Value}{Q:Unit->Shared->Prop}(c:nu K C)(X:K.In s.heap)(n:PySem.W.findIn K (.ref C) name=some none)(he:s.heap.get? e=some (jK C none vs))
  (h:∀h' tk,h'.get? e=some (jK C (some s.heap.objs.size) vs)->h'.Ns1 s.heap.objs.size (λy=>if y=name then some v else none)->(∀b o,b≠e->s.heap.get? b=some o->h'.get? b=some o)->Q () {s with heap:=h',toks:=tk}):
  wpAny (model prog w) A (setAttr (.ref e) name v) Q E s:=by
 have I:PySem.W.InstAt s.heap e (jK C none vs) C none:=⟨he,rfl,rfl,trivial⟩;obtain⟨cd,h1,h2,h3⟩:=c.mro;refine PySem.W.set_plain X I c.sa (JM (s:={s with toks:=s.toks+1}) c X I n ?_);have hx1:(s.heap.push {cls:= .type "dict",data:= .dict #[]}).get? e=some (jK C none vs):=Pr _ he;have hxs:e≠s.heap.objs.size:=PX (Pf he);refine O4 (PM (O4 (O4 (wpAny_loadPart he (O4 (PySem.W.Looks.here (s:={s with toks:=s.toks+1}) (RD X h1) ?_))))));rw[h3];refine O4 (wpAny_alloc ?_);refine O4 (wpAny_update hx1 ?_);refine PM ?_;have hgd:((s.heap.push {cls:= .type "dict",data:= .dict #[]}).update e λo=>{cls:=o.cls,dict:=some s.heap.objs.size,data:=o.data,slots:=o.slots}).get? s.heap.objs.size=some {cls:= .type "dict",data:= .dict #[]}:=
  (Heap.get?_update_ne _ _ _ _ hxs.symm).trans (Heap.get?_push_at rfl rfl)
 have hge:((s.heap.push {cls:= .type "dict",data:= .dict #[]}).update e λo=>{cls:=o.cls,dict:=some s.heap.objs.size,data:=o.data,slots:=o.slots}).get? e=some (jK C (some s.heap.objs.size) vs):=Q4 _ hx1 rfl;have hnd:((s.heap.push {cls:= .type "dict",data:= .dict #[]}).update e λo=>{cls:=o.cls,dict:=some s.heap.objs.size,data:=o.data,slots:=o.slots}).Ns s.heap.objs.size (λ_=>none):=
  ⟨_,#[],_,hgd,rfl,λy hy=>absurd hy (by simp),λ_=>rfl⟩
 refine O4 (PM (O4 (wpAny_nsSet1 (Heap.Ns1.of_empty hnd) λh' hn' hs=>?_)));obtain⟨oD,esD,epD,hoD,hdD,hcD⟩:=hn'.count (Within.cons name v Within.nil);refine O4 (wpAny_lookBehind hoD (by rw[hdD];exact pastItsLine_dict (PD hcD (by rw[Pt,List.length_nil,O2];omega))) ?_);refine PM (h h' _ ((hs.2 e hxs).trans hge) hn' λb o hb q=>?_);exact(hs.2 b (PX (Pf q))).trans ((Heap.get?_update_ne _ _ _ _ hb).trans (Pr _ q))
def Ho{E:Value->Shared->Prop}{vs:Array Value}{dx:Addr}{mA:Str->Option Value}{ns:List Str}{Q:Unit->Shared->Prop}(c:nu K C)(X:K.In s.heap)(n:PySem.W.findIn K (.ref C) name=some none)
  (he:s.heap.get? e=some (jK C (some dx) vs))(hd:s.heap.Ns1 dx mA)(hw:PySem.Within mA ns)(hsz:ns.length<=sizeLine)
  (h:∀h' tk,h'.Ns1 dx (λy=>if y=name then some v else mA y)->Heap.SameBut dx s.heap h'->Q () {s with heap:=h',toks:=tk}):wpAny (model prog w) A (setAttr (.ref e) name v) Q E s:=by
 obtain⟨o,ho,_⟩:=tY hd;have I:PySem.W.InstAt s.heap e (jK C (some dx) vs) C (some o):=⟨he,rfl,rfl,ho⟩;obtain⟨cd,h1,h2,h3⟩:=c.mro;refine PySem.W.set_plain X I c.sa (JM (s:={s with toks:=s.toks+1}) c X I n ?_);refine O4 (PM (O4 (O4 (wpAny_loadPart he (O4 (PySem.W.Looks.here (s:={s with toks:=s.toks+1}) (RD X h1) ?_))))));rw[h3];refine PM (a:=some dx) (O4 (PM (O4 ?_)));refine wpAny_nsSet1 (s:={s with toks:=s.toks+1}) hd λh' hn2 hs2=>?_;obtain⟨oD,esD,epD,hoD,hdD,hcD⟩:=hn2.count (PySem.Within.cons name v hw);refine O4 (wpAny_lookBehind hoD (by rw[hdD];exact pastItsLine_dict (PD hcD (by rw[Pt];omega))) ?_);exact PM (h _ _ hn2 hs2)
def Md{E:Value->Shared->Prop}{vs:Array Value}{dx:Addr}{mA:Str->Option Value}{expr:Bool}{Q:Value->Shared->Prop}(c:nu K C)(X:K.In s.heap)(n:PySem.W.findIn K (.ref C) name=some none)
  (he:s.heap.get? e=some (jK C (some dx) vs))(hd:s.heap.Ns1 dx mA)(hv:mA name=some v)(hh:PySem.W.handedIn v=true)(h:Q v {s with toks:=s.toks+1}):wpAny (model prog w) A (getAttr (.ref e) name expr) Q E s:=by
 obtain⟨o,ho,hl⟩:=tY hd;have I:PySem.W.InstAt s.heap e (jK C (some dx) vs) C (some o):=⟨he,rfl,rfl,ho⟩;obtain⟨cd,h1,h2,h3⟩:=c.mro;have hf:PySem.W.findObj K C (some o) name=some (.value v):=PySem.W.findObj_own (attr:=none) (by unfold PySem.W.hasDictIn;rw[h1];exact h3) n rfl (by rw[hl,hv]);have hx0:(expr&&onTheHeap (Value.builtin "BaseException.__getattribute__"))=false:=by cases expr<;>rfl
 have hx2:(Value.builtin "BaseException.__getattribute__"==Value.builtin "object.__getattribute__")=false:=by decide+kernel
 have sub:PySem.W.Looks (model prog w) s.heap (isInstance (.ref e) (.type "BaseException")) true:=I.type.andThen (PySem.W.looks_mroIn X c.exc);have sl:Slot "ValueError" "__getattribute__" "BaseException.__getattribute__":= .of (owner:="BaseException") (n:="__getattribute__") (by rw[typeLookup_type,builtinLookup_eq_fast];kernel_rfl) (by decide+kernel) (by decide+kernel) (by decide+kernel)
  (by first|exact .inl (by decide+kernel)|exact .inr (by decide+kernel)) (by rw[isSubtype_type];kernel_rfl)
 have L0:=I.type (M:=model prog w);have L1:=Rw (M:=model prog w) X c.ga;have L2:=Rw (M:=model prog w) X c.gt;have L3:=PySem.W.looks_find (M:=model prog w) X I hf;unfold getAttr getAttrBy;refine O4 (wpAny_mkText (RB (O4 (L0.here (s:={s with toks:=s.toks+1}) (O4 (L1.here (s:={s with toks:=s.toks+1}) ?_))))));dsimp only;rw[hx2,Bool.and_false,OV O3];unfold getAttrByItsOwn hookBefore;rw[OW (show onTheHeap (Value.ref C)=true from rfl)];refine O4 (L2.here (s:={s with toks:=s.toks+1}) (O4 (wpAny_attempt (RB ?_))));unfold callGetattribute boundAndCalled;rw[hx0,OV O3,sl.bind];refine O4 (PM (wpAny_call (codeAny_call_builtin sl.plain F.entry_bexc_ga (@PySem.W.check_slot (model prog w) _ _ {s with toks:=s.toks+1} "BaseException.__getattribute__" "BaseException" "__getattribute__" (.ref e) [.str name s.toks] [] _ (by decide+kernel) (by decide+kernel) sub (F.args_bexc_ga (.ref e) (.str name s.toks)) ?_))));refine O4 (PM (O4 (PM (O4 (L0.here (s:={s with toks:=s.toks+1}) (O4 (L3.here (s:={s with toks:=s.toks+1}) ?_)))))));refine PM ?_;show wpAny _ _ (handedOut v) _ _ _;rw[PySem.W.handedOut_of hh];exact PM h
end
section
variable{P:PN}{w:World}{H:Hp}{h h':Heap}{a:Addr}{o:HO}
def dI.there(x:dI P w H h a o):∃q,h.get? a=some q:=by
 cases o with
 |lst xs=>obtain⟨_,_,_,_,e⟩:=x;exact⟨_,e⟩
 |tup xs=>obtain⟨_,_,_,o,e,_⟩:=x;exact⟨_,e⟩
 |dK kvs=>obtain⟨_,_,_,_,o,_,_,e,_⟩:=x;exact⟨_,e⟩
 |dT kvs=>obtain⟨_,_,_,_,o,_,_,e,_⟩:=x;exact⟨_,e⟩
 |set S n=>obtain⟨o,_,_,_,e,_⟩:=x;exact⟨_,e⟩
 |ins C dx fs=>obtain⟨_,_,_,e,_⟩:=x;exact⟨_,e⟩
 |own y=>exact x
 |xd fs=>obtain⟨_,⟨_,_,_,e,_⟩,_⟩:=x;exact⟨_,e⟩
 |Na lo hi=>obtain⟨_,_,_,e⟩:=x;exact⟨_,e⟩
 |wE ob u=>obtain⟨e,_⟩:=x;exact⟨_,e⟩
 |J2 ps=>exact⟨_,(show h.get? a=some _ from x)⟩
 |met f y=>exact⟨_,(show h.get? a=some _ from x)⟩
 |ext φ=>exact x.2.1
def lW.none_of(x:lW P w H h)(e:h.get? a=none):H a=none:=by
 cases q:H a with
 |none=>rfl
 |some u=>
  obtain⟨z,g⟩:=(x a u q).there;rw[e]at g;cases g
def lW.zC(x:lW P w H h)(k:∀b u,h.get? b=some u->h'.get? b=some u)(hn:h.get? a=none)(new:dI P w (upd H a o) h' a o):lW P w (upd H a o) h':=λb u e=>by
 have hn:=x.none_of hn
 by_cases hb:b=a
 ·subst hb;rw[ai]at e;cases e;exact new
 ·rw[ak hb]at e
  exact(x b u e).vH (λc v _ q=>k c v q) (λc q=>by rw[ak (au q hn)];exact q) λc xs q=>by rw[ak (au q hn)];exact q
def Un.zC{fs ex:List Addr}(k:∀b u,h.get? b=some u->h'.get? b=some u)(hg:h.get? a=none)(hn:H a=none):Un fs ex H (upd H a o) h h' where
 keep:=λb u q _ _ _=>k b u q
 slot:=λb u q _ _ _=>⟨u.slots,k b u q⟩
 free:=λb u q n _=>by
  have hb:b≠a:=λz=>by rw[z,hg]at q;cases q
  rw[ak hb];exact n
 there:=λb u q _=>⟨u,k b u q⟩
 rW:=λb xs q=>by rw[ak (au q hn)];exact q
 qG:=λb u xs q=>by rw[ak (au q hn)];exact q
 rM:=λb ps q=>⟨#[],by rw[ak (au q hn),q];simp⟩
end
section
variable{X:Cx}{pins:List (Addr×Obj)}{σ:St}{H:Hp}{s:Shared}{h':Heap}
def Inv.zC{a:Addr}{o:HO}{t':Nat}(I:Inv X pins σ H s)(k:∀b u,s.heap.get? b=some u->h'.get? b=some u)(hg:s.heap.get? a=none)(new:dI X.prog X.w (upd H a o) h' a o):
  Inv X pins σ (upd H a o) {s with heap:=h',toks:=t'}:=I.un (Un.zC k hg (I.cH.none_of hg)) (I.cH.zC k hg new)
end
section
variable{P:PN}{w:World}{H:Hp}{h:Heap}{e C t:Addr}{d:Option Addr}
def uT(ok:lW P w H h)(he:H e=some (XI e C t d)):h.get? e=some (KT C t d):=(show dI P w H h e (XI e C t d)from ok e _ he).1
def F5(g:h.get? e=some (KT C t d)):dI P w H h e (XI e C t d):=⟨g,⟨_,g⟩,λ_ _ g1 k=>k _ g1⟩
end
def OE(K:OX)(ta tv:TE)(f:Str):TS:=λD σ H=>tv σ H λy H1=>ta σ H1 λx H2=>∃e C t,x=.ref e/\H2 e=some (XI e C t none)/\nu K C/\aP K C f/\
 ∀dx,H2 dx=none->dx≠e->D.nx σ (upd (upd H2 dx (XD dx [(f,y)])) e (XI e C t (some dx)))
def OO(K:OX)(ta tv:TE)(f:Str):TS:=λD σ H=>tv σ H λy H1=>ta σ H1 λx H2=>∃e C t dx fs,x=.ref e/\H2 e=some (XI e C t (some dx))/\H2 dx=some (XD dx fs)/\nu K C/\aP K C f/\fs.length<1000/\
 D.nx σ (upd H2 dx (XD dx (cj f y fs)))
section
variable{X:Cx}{o value:Expr}{f:Str}{pos pos':Pos}{ta tv:TE}
def Du(ha:PE X o ta)(hv:PE X value tv)(hs:swapsWith value (some (.Attribute o f pos')) pos.line X.env=pure false):PS X (.Assign [.Attribute o f pos'] value pos) (OE X.K ta tv f):=by
 intro pins s σ H D I h;refine Rl (dR (hv pins s σ H _ I h) λu s1⟨y,H1,I1,ry,q⟩=>dR (ha pins s1 σ H1 _ I1 q) λov s2⟨x,H2,I2,rx,e,C,t,ex,ee,c,n,q2⟩=>?_) hs;subst ex;obtain rfl:ov=Value.ref e:=rx;have g:=uT I2.cH ee;refine F8 c I2.qY n g λh' tk g1 n1 k1=>⟨σ,_,?_,q2 s2.heap.objs.size (I2.cH.fresh (OZ _)) (Rs (Pf g))⟩;have fz:H2 s2.heap.objs.size=none:=I2.cH.fresh (OZ _);have ne:s2.heap.objs.size≠e:=Rs (Pf g);have ke:∀b u,b≠e->H2 b=some u->upd (upd H2 s2.heap.objs.size (XD s2.heap.objs.size [(f,y)])) e (XI e C t (some s2.heap.objs.size)) b=some u:=λb u hb q=>by
  rw[ak hb,ak (au q fz)];exact q
 have tn:∀b u,H2 b=some u->(∀φ,u≠.ext φ)->b≠e:=λb u q z y=>by
  subst y;rw[ee]at q;cases q;exact z _ rfl
 refine I2.un ⟨λb ob q z _ _=>?_,λb ob q z _ _=>⟨ob.slots,?_⟩,λb ob q z _=>?_,λb ob q _=>?_,λb xs q=>ke b _ (tn b _ q λ_ z=>nomatch z) q,λb ob xs q=>ke b _ (tn b _ q λ_ z=>nomatch z) q,λb ps q=>⟨#[],by rw[ke b _ (tn b _ q λ_ z=>nomatch z) q];simp⟩⟩ ?_
 ·exact k1 b ob (λy=>by subst y;rw[ee]at z;cases z) q
 ·exact k1 b ob (λy=>by subst y;rw[ee]at z;cases z) q
 ·rw[ak (λy=>by subst y;rw[ee]at z;cases z),ak (PX (Pf q))]
  exact z
 ·by_cases hb:b=e
  ·subst hb
   exact⟨_,g1⟩
  ·exact⟨ob,k1 b ob hb q⟩
 ·intro b u q
  by_cases hb:b=e
  ·subst hb
   rw[ai]at q;cases q;exact F5 g1
  ·rw[ak hb]at q
   by_cases hb2:b=s2.heap.objs.size
   ·subst hb2
    rw[ai]at q;cases q;refine JS n1 (λz=>?_) (λz hz=>?_) (by show 1<=1000;decide)
    ·show qJ (List.lookup z [(f,y)]) (if z=f then some _ else none)
     by_cases hz:z=f
     ·subst hz
      rw[OW rfl];simp only[List.lookup,beq_self_eq_true];exact ry
     ·rw[OV hz]
      have hb:(z==f)=false:=Rj.mpr hz;simp only[List.lookup,hb];exact trivial
    ·by_cases hzf:z=f
     ·subst hzf
      simp
     ·exact absurd (OV hzf) hz
   ·rw[ak hb2]at q
    refine(I2.cH b u q).vH (λc v hc z=>?_) (λc z=>ke c _ (tn c _ z λ_ y=>nomatch y) z) λc xs z=>ke c _ (tn c _ z λ_ y=>nomatch y) z;rcases hc with rfl|hc
    ·exact k1 c v hb z
    ·exact k1 c v (tn c _ hc λ_ y=>nomatch y) z
def JQ(ha:PE X o ta)(hv:PE X value tv)(hs:swapsWith value (some (.Attribute o f pos')) pos.line X.env=pure false):PS X (.Assign [.Attribute o f pos'] value pos) (OO X.K ta tv f):=by
 intro pins s σ H D I h;refine Rl (dR (hv pins s σ H _ I h) λu s1⟨y,H1,I1,ry,q⟩=>dR (ha pins s1 σ H1 _ I1 q) λov s2⟨x,H2,I2,rx,e,C,t,dx,fs,ex,ee,ed,c,n,hl,q2⟩=>?_) hs;subst ex;obtain rfl:ov=Value.ref e:=rx;have g:=uT I2.cH ee;obtain⟨mA,na,ra,wa,za⟩:=JL I2.cH ed;have ne:dx≠e:=λz=>by
  subst z;obtain⟨ob,es,ep,g2,hd2,_⟩:=na;rw[g]at g2;cases g2;cases hd2
 refine Ho c I2.qY n g na wa (by rw[OU,O2];omega) λh' tk n1 sb=>⟨σ,_,I2.write (x:=dx) (e:=dx) (by rw[ed];exact True.intro) (.inl rfl) (λb ob hb q=>(sb.2 b hb).trans q) ?_ ?_,q2⟩
 ·obtain⟨ob,_,_,g2,_⟩:=n1
  exact⟨ob,g2⟩
 ·refine JS n1 (λz=>?_) (λz hz=>?_) (by have:=ph f y fs;omega)
  ·show qJ ((cj f y fs).lookup z) (if z=f then some u else mA z)
   rw[pO]
   by_cases q:z=f
   ·rw[OW q,OW q];exact ry
   ·rw[OV q,OV q];exact ra z
  ·by_cases q:z=f
   ·rw[q];exact(nk f y fs).1
   ·refine(nk f y fs).2 z (wa z λy'=>hz ?_)
    show(if z=f then some u else mA z)=none;rw[OV q];exact y'
end
structure uO(P:PN)(w:World)(K:OX)(mg:Str->Option Value)(base:Heap)(f:Addr)(fd:O5)(ps:List Str)(sp:List V->Hp->VK->Prop):Prop where
 len:∀vs H Q,sp vs H Q->vs.length=ps.length
 run:∀(A:Around)(outer:List Env)(s:Shared)(H:Hp)(args:Args)(us:List Value)(vs:List V)(Q:VK),A.depth<recursionLimit->B2 P w K mg base A outer s H->BindsTo s fd args (ps.zip us)->Vals vs us->sp vs H Q->
  codeAny (model P w) A (.call (.ref f) args) (CR NC outer P w H s Q E0) s
abbrev NV(P:PN)(w:World)(K:OX)(mg:Str->Option Value)(base:Heap)(N:List Str)(qual:Str)(scope:Scope)(f:Addr)(cd:Value)(A:Around)(outer:List Env)(s:Shared)(H:Hp):Cx:=
 (ua NC P w K mg base N qual scope f cd {A with handled:=none} outer s H E0).re (A.deeper (envOfC qual scope s.heap.objs.size f cd)) false [] λ_ _=>False
def Cp.okN{P:PN}{w:World}{K:OX}{mg:Str->Option Value}{base:Heap}{x qual:Str}{st:Stmt}{f:Addr}{fd:O5}{N ps:List Str}{sp:List V->Hp->VK->Prop}(F:Cp K x qual st f fd)(S:aB N ps (ao st))
  (len:∀vs H Q,sp vs H Q->vs.length=ps.length)
  (hbody:∀(cdv:Value)(A:Around)(outer:List Env)(s:Shared)(H:Hp)(vs:List V)(Q:VK),sp vs H Q->∃t,zN (NV P w K mg base N qual (ao st) f cdv A outer s H) (dG st) t/\t {nx:=λ_ H'=>Q .eC H',rt:=Q} (start N vs) H):
  uO P w K mg base f fd ps sp:=by
 obtain⟨oc,od,kV,doc,pm,an,cdv,ct,osl,rfl,lk,hcd⟩:=F.ex;refine⟨len,λA outer s H args us vs Q hdp e0 hb r hsp=>?_⟩;have hl:=len _ _ _ hsp;have KX:K.In s.heap:=e0.mod.JP.keeps λb o e=>(e0.bs b o e).1;have lim:s.heap.NoLimit:=e0.mod.nolimit.keeps λb o e=>(e0.bs b o e).1;have hk:∀y∈ps.zip us,(ao st).names.lookup y.1=some .local\/((ao st).names.lookup y.1=some .cell/\((cellsFrom (s.heap.objs.size+1) (ao st).names []).lookup y.1).isSome=true):=λ⟨n,v⟩ hy=>by
  rcases S.par n (QA hy).1 with q|q
  ·exact .inl q
  ·exact .inr ⟨q,PySem.W.cellsFrom_some _ _ _ (.inl q)⟩
 refine codeAny_call_function hdp (KX _ _ lk) rfl S.co S.gen rfl (PySem.W.codeRec_of KX hcd) (hb _ _ _ _ ?_);refine wpAny_newFunctionEnv_cells S.kind hk λenv he s1 z=>?_;subst he;refine⟨lim.keeps z.toInCall.keep,codeAny_func ?_⟩;obtain⟨t,ht,hq⟩:=hbody cdv A outer s H vs Q hsp;have I0:Inv (ua NC P w K mg base N qual (ao st) f cdv {A with handled:=none} outer s H E0) [] (start N vs) H s1:=zq S rfl ⟨e0.frames,e0.mod,e0.bs,e0.Fz,e0.rF,e0.Cy,e0.cH,e0.bare⟩ hl r z;have I:Inv (NV P w K mg base N qual (ao st) f cdv A outer s H) [] (start N vs) H s1:=I0.re rfl (λq=>nomatch q) λp hp=>hp;refine QG (ht [] s1 (start N vs) H _ I hq) (λfl s' hs=>?_) λe s' hs=>False.elim hs;have fin:∀{σ':St}{H':Hp}{v:V}{u:Value},Inv (NV P w K mg base N qual (ao st) f cdv A outer s H) [] σ' H' s'->RelV v u->Q v H'->CE outer P w H s Q u s':=
  λ{σ' H' v u} J rv q=>⟨v,H',J.os,J.bare,J.base,J.cH,rv,q⟩
 cases fl with
 |ret u=>
  obtain⟨v,σ',H',J,rv,q⟩:=hs;exact fin J rv q
 |next=>
  obtain⟨σ',H',J,q⟩:=hs;exact fin (v:=V.eC) (u:=Value.none) J rfl q
 |brk=>
  obtain⟨_,_,_,q⟩:=hs;exact False.elim q
 |cont=>
  obtain⟨_,_,_,q⟩:=hs;exact False.elim q
structure Co(K:OX)(C:Addr)(ini:Option Addr):Prop where
 ex:∃(nm q:Str)(N:Addr)(bs:List Value)(sn:List Str)(sub:List Value)(ab:Bool)(col:Option Bool)(dd:Option Addr)(k0 k1 k2 k3 k5:Option Value)(mN:Str->Option Value),
  K.lookup C=some (excClassObj nm q C N bs HE true sn sub ab col dd k0 k1 k2 k3 k5 "ValueError.__new__")/\(∀h:Heap,K.In h->h.Ns N mN)/\mN "__init__"=ini.map Value.ref
 fn:∀f,ini=some f->∃o,K.lookup f=some o/\o.cls=.type "function"
 kp:PySem.W.keepIn K (.ref C)=true
section
variable{M:Model}{A:Around}{E:Value->Shared->Prop}{env:Env}{s:Shared}
def AK{x:Sem Value}{Q:Flow->Shared->Prop}{nm q:Str}{C N:Addr}{bs:List Value}{sn:List Str}{sub:List Value}{ab:Bool}{col:Option Bool}{dd:Option Addr}{k0 k1 k2 k3 k5:Option Value}
  (h:wpAny M A x (λv s1=>∃(e:Addr)(d:Option Addr)(vs:Array Value),v=.ref e/\s1.heap.get? C=some (excClassObj nm q C N bs HE true sn sub ab col dd k0 k1 k2 k3 k5 "ValueError.__new__")/\s1.heap.get? e=some (jK C d vs)/\vs[1]? =some Value.none/\
   wpAny M A (raiseNew (.ref e)) Q E s1) E s):wpAny M A (raiseStmt env (some x) none) Q E s:=by
 have hcB:(Value.ref C::HE).contains (.type "BaseException")=true:=by simp
 unfold raiseStmt;refine O4 (QG h (λv s1 h1=>?_) λ_ _ x=>x);obtain⟨e,d,vs,rfl,hC,he,hv,hr⟩:=h1;obtain⟨hp,g,dr,tk,os⟩:=s1;have hcl:(jK C d vs).cls=.ref C:=rfl
 repeat(first|(with_reducible refine wpAny_loadPart_at he ?_;try rw[hcl])|with_reducible refine wpAny_loadPart_at hC ?_|(with_reducible refine wpAny_isSubtype_exc hC ?_;rw[hcB])|with_reducible refine RC he rfl hv ?_|wp_step)
 exact hr
end
def yS:entryFor table "proto.unchain"=some Builtin.«proto.unchain»:=entryFor_of_tree (by kernel_rfl)
section
variable{prog:PN}{w:World}{A:Around}{E:Value->Shared->Prop}{s:Shared}
def Ce{α:Type}{e0 e C0 C:Addr}{d0 d:Option Addr}{vs0 vs:Array Value}{Q:α->Shared->Prop}(hh:A.handled=some (.ref e0))(ne:e0≠e)(g0:s.heap.get? e0=some (jK C0 d0 vs0))(c0:vs0[2]? =some Value.none)
  (ge:s.heap.get? e=some (jK C d vs))(z:vs.size=6)(h:∀h':Heap,h'.get? e=some (jK C d (vs.setIfInBounds 2 (.ref e0)))->(∀b,b≠e->h'.get? b=s.heap.get? b)->E (.ref e) {s with heap:=h'}):
  wpAny (model prog w) A (raiseNew (.ref e):Sem α) Q E s:=by
 unfold raiseNew;refine O4 (wpAny_handled ?_);rw[hh];dsimp only;rw[OW (show(Value.ref e0 !=Value.ref e)=true from by simp[ne])];refine O4 (RB (wpAny_runValue (codeAny_builtin yS ?_)));unfold Builtin.«proto.unchain»;refine O4 (RC g0 rfl c0 ?_);rw[OW (by decide)];refine PM ?_;refine O4 ?_;unfold updateField;refine O4 (wpAny_load ge ?_);show wpAny _ _ (if 2<vs.size then _ else _) _ _ _;rw[OW (by omega)];refine wpAny_update ge ?_;refine wpAny_throw (h _ (Q4 _ ge rfl) λb hb=>QE _ _ (Pb hb))
end
def xC{H:Hp}{a b:Addr}{o u:HO}(h:a≠b):upd (upd H a o) b u=upd (upd H b u) a o:=by
 funext c
 unfold upd
 by_cases h1:c=a
 ·subst h1
  rw[OV h,OW rfl,OW rfl]
 ·rw[OV h1,OV h1]
def JJ(K:OX)(C:Addr)(ns:List Str):List V->Hp->VK->Prop:=λvs H Q=>∃e t ws,vs=.ref e::ws/\ws.length=ns.length/\H e=some (XI e C t none)/\
 ∀dx,H dx=none->dx≠e->Q .eC (upd (upd H dx (XD dx (ns.zip ws))) e (XI e C t (some dx)))
section
variable{X:Cx}{pins:List (Addr×Obj)}{σ:St}{H:Hp}{s:Shared}{C f:Addr}{fd:O5}{ps ns:List Str}{us:List Value}{vs:List V}{E:Value->Shared->Prop}
def FY{Q:Value->Shared->Prop}(M:Co X.K C (some f))(F:uO X.prog X.w X.K X.mg X.base f fd ps (JJ X.K C ns))(hb:Binds X.K fd ps [])(hdp:X.A.depth+1<recursionLimit)(I:Inv X pins σ H s)(r:Vals vs us)(hl:vs.length=ns.length)(hz:vs.length<=1000)
  (h:∀e t dx s',H e=none->H dx=none->dx≠e->Inv X pins σ (upd (upd H dx (XD dx (ns.zip vs))) e (XI e C t (some dx))) s'->Q (.ref e) s'):wpAny (model X.prog X.w) X.A (call (.ref C) us) Q E s:=by
 obtain⟨nm,q,N,bs,sn,sub,ab,col,dd,k0,k1,k2,k3,k5,mN,lk,hN,hi⟩:=M.ex;obtain⟨oI,lI,cI⟩:=M.fn f rfl;have hlu:us.length<=sizeLine:=by rw[<-r.length,O2];omega
 obtain⟨hp,g,d,tk,os⟩:=s;refine wpAny_call_exc_init (hrest:=hlu) PySem.F.excBase_ValueError (I.qY _ _ lk) (hN _ I.qY) hi (I.qY _ _ lI) cI λh1 e mk=>?_;obtain⟨t,ge,_,_⟩:=mk.there;have I1:Inv X pins σ (upd H e (XI e C t none)) ⟨h1,g,d,tk,os⟩:=I.zC (t':=tk) mk.keeps mk.new (F5 ge);have ne:=I.cH.none_of mk.new;have hsp:JJ X.K C ns (.ref e::vs) (upd H e (XI e C t none)) (λv H2=>v=.eC/\∃dx,H dx=none/\dx≠e/\H2=upd (upd H dx (XD dx (ns.zip vs))) e (XI e C t (some dx))):=by
  refine⟨e,t,vs,rfl,hl,ai,λdx hd hne=>⟨rfl,dx,by rw[ak hne]at hd;exact hd,hne,?_⟩⟩;rw[<-xC (H:=H) hne,eQ]
 have hlen:=F.len _ _ _ hsp;have r2:Vals (V.ref e::vs) (Value.ref e::us):= .cons rfl r;have hb2:=hb ⟨h1,g,d,tk,os⟩ (Value.ref e::us) I1.qY (by rw[PU,<-r2.length];exact hlen);rw[PU]at hb2;refine wpAny_call (codeAny_mono (F.run _ X.stack _ _ ⟨Value.ref e::us,[]⟩ (Value.ref e::us) (V.ref e::vs) _ (by rw[ye];exact hdp) (I1.La.make C us []) hb2 r2 hsp) λrr s' hq=>?_);cases rr with
 |error y=>exact False.elim hq
 |ok fl=>
  cases fl with
  |ret u=>
   obtain⟨v,H',I3,rv,ev,dx,hd,hne,eH⟩:=I1.after hq;subst ev;subst eH;exact⟨rv,h e t dx s' ne hd hne I3⟩
  |next=>exact False.elim hq
  |brk=>exact False.elim hq
  |cont=>exact False.elim hq
def Jh{Q:Value->Shared->Prop}(M:Co X.K C none)(I:Inv X pins σ H s)
  (h:∀e t s',H e=none->Inv X pins σ (upd H e (XI e C t none)) s'->Q (.ref e) s'):wpAny (model X.prog X.w) X.A (call (.ref C) []) Q E s:=by
 obtain⟨nm,q,N,bs,sn,sub,ab,col,dd,k0,k1,k2,k3,k5,mN,lk,hN,hi⟩:=M.ex;obtain⟨hp,g,d,tk,os⟩:=s;refine wpAny_call_exc_sub (hrest:=by size_fits) PySem.F.excBase_ValueError (I.qY _ _ lk) (hN _ I.qY) hi λh1 e mk=>?_;obtain⟨t,ge,_,_⟩:=mk.there;exact h e t _ (I.cH.none_of mk.new) (I.zC (t':=tk) mk.keeps mk.new (F5 ge))
def Inv.open{e t:Addr}{d:Option Addr}{cx:Bool}(I:Inv X pins σ (upd H e (XI e C t d)) s):Inv X pins σ (upd H e (XO e C d cx)) s:=by
 have g:=uT I.cH (ai (H:=H) (a:=e) (o:=XI e C t d));have eq:∀b,b≠e->upd H e (XO e C d cx) b=upd H e (XI e C t d) b:=λb hb=>by rw[ak hb,ak hb]
 have ki:∀b u,upd H e (XI e C t d) b=some u->(∀φ,u≠.ext φ)->upd H e (XO e C d cx) b=some u:=λb u q z=>by
  rw[eq b λy=>?_]
  ·exact q
  ·subst y
   rw[ai]at q;cases q;exact z _ rfl
 refine I.un (t':=s.toks) ⟨λ_ _ q _ _ _=>q,λb o q _ _ _=>⟨o.slots,q⟩,λb o q z _=>?_,λb o q _=>⟨o,q⟩,λb xs q=>ki b _ q (λ_ z=>nomatch z),λb o xs q=>ki b _ q (λ_ z=>nomatch z),λb ps q=>⟨#[],by rw[ki b _ q λ_ z=>nomatch z];simp⟩⟩ λb u q=>?_
 ·rw[eq b λy=>?_]
  ·exact z
  ·subst y
   rw[ai]at z;cases z
 ·by_cases hb:b=e
  ·subst hb
   rw[ai]at q;cases q;exact Gh g rfl λ_=>rfl
  ·rw[eq b hb]at q
   exact(I.cH b u q).vH (λ_ _ _ z=>z) (λc z=>ki c _ z λ_ y=>nomatch y) λc xs z=>ki c _ z λ_ y=>nomatch y
end
def Ga(C:Addr)(ns:List Str)(cx:Bool)(E:XK)(t:TA):TS:=λ_ σ H=>t σ H λvs H1=>vs.length=ns.length/\vs.length<=1000/\
 ∀e dx,H1 e=none->H1 dx=none->dx≠e->E (.ref C) (some e) (upd (upd H1 dx (XD dx (ns.zip vs))) e (XO e C (some dx) cx))
def H_(C:Addr)(E:XK):TS:=λ_ σ H=>∀e,H e=none->E (.ref C) (some e) (upd H e (XO e C none true))
section
variable{X:Cx}{pins:List (Addr×Obj)}{σ:St}{H:Hp}{s:Shared}{C e t:Addr}{d:Option Addr}{E:XK}
def IF(I:Inv X pins σ (upd H e (XI e C t d)) s)(n:Nat)(H':Hp):Rec s.heap H' n e none:=
 ⟨_,_,uT I.cH ai,rfl,rfl,rfl⟩
def z7{α:Type}{Q:α->Shared->Prop}(L:Lets X E)(hh:X.A.handled=none)(I:Inv X pins σ (upd H e (XI e C t d)) s)(q:E (.ref C) (some e) (upd H e (XO e C d true))):
  wpAny (model X.prog X.w) X.A (raiseNew (.ref e):Sem α) Q X.xe s:=
 wpAny_raiseNew_none hh (L pins σ _ s e C d true none (I.open (cx:=true)) ai (IF I _ _) (λp _ b hb=>nomatch hb) trivial q)
def Gk{α:Type}{Q:α->Shared->Prop}{e0 C0:Addr}{d0:Option Addr}(L:Lets X E)(hh:X.A.handled=some (.ref e0))(I:Inv X pins σ (upd H e (XI e C t d)) s)(h0:H e0=some (XO e0 C0 d0 true))(ne:e0≠e)(q:E (.ref C) (some e) (upd H e (XO e C d false))):
  wpAny (model X.prog X.w) X.A (raiseNew (.ref e):Sem α) Q X.xe s:=by
 obtain⟨vs0,g0,_,c0⟩:=BC I.cH (show upd H e (XI e C t d) e0=some (XO e0 C0 d0 true) by rw[ak ne];exact h0);have ge:s.heap.get? e=some (jK C d #[.ref t,.none,.none,.none,.bool false,.none]):=uT I.cH ai;refine Ce hh ne g0 (c0 rfl) ge rfl λh' g1 k1=>?_;have I2:Inv X pins σ (upd (upd H e (XO e C d false)) e (XO e C d false)) {s with heap:=h',toks:=s.toks}:=(I.open (cx:=false)).write (x:=e) (e:=e) (by rw[ai];exact True.intro) (.inl rfl) (λb u hb z=>(k1 b hb).trans z) ⟨_,g1⟩ (Gh g1 rfl λz=>nomatch z);rw[eQ]at I2;exact L pins σ _ _ e C d false none I2 ai ⟨_,_,g1,rfl,rfl,rfl⟩ (λp _ b hb=>nomatch hb) trivial q
end
section
variable{X:Cx}{C f:Addr}{fd:O5}{ps ns:List Str}{E:XK}{x:Str}{np cpos pos:Pos}{a:Expr}{as:List Expr}{t:TA}
def gb(L:Lets X E)(hh:X.A.handled=none)(M:Co X.K C (some f))(F:uO X.prog X.w X.K X.mg X.base f fd ps (JJ X.K C ns))(hb:Binds X.K fd ps [])(hdp:X.A.depth+1<recursionLimit)(hg:Gl X x)(hm:X.mg x=some (.ref C))(ha:PA X (a::as) t)
  (hdb:(x==("__debug__":Str))=false:=by decide)(he:starEach (a::as) X.env=(false,eval a X.env)::starEach as X.env:=by rfl)(hpl:(backTo cpos (starEach as X.env)).any (·.1)=false:=by rfl):
  PS X (.Raise (some (.Call (.Name x np) (a::as) [] cpos)) none pos) (Ga C ns true E t):=by
 intro pins s σ H D I h;obtain⟨nm,q,N,bs,sn,sub,ab,col,dd,k0,k1,k2,k3,k5,mN,lk,hN,hi⟩:=M.ex;rw[arm_exec_Raise];show wpAny _ _ (do standAt pos;raiseStmt X.env (some (do let v<-eval (.Call (.Name x np) (a::as) [] cpos) X.env;standAt pos;pure v)) none) _ _ s;refine O4 (QX (AK (nm:=nm) (q:=q) (C:=C) (N:=N) (bs:=bs) (sn:=sn) (sub:=sub) (ab:=ab) (col:=col) (dd:=dd) (k0:=k0) (k1:=k1) (k2:=k2) (k3:=k3) (k5:=k5) (O4 ?_)));refine QH (mr I hg hm ?_ hdb);refine Ro (h₀:=X.base) I.ok.mod.JP M.kp (dR (ha cpos pins s σ H _ I h) λus s1⟨vs,H1,I1,r,hl,hz,hE⟩=>⟨I1.qY,?_⟩) he hpl;refine FY M F hb hdp I1 r hl hz λe t' dx s2 n1 n2 n3 I2=>O4 (QX (PM ⟨e,_,_,rfl,I2.qY _ _ lk,uT I2.cH ai,rfl,z7 L hh I2 (hE e dx n1 n2 n3)⟩))
def xU{e0:Addr}(L:Lets X E)(hh:X.A.handled=some (.ref e0))(M:Co X.K C (some f))(F:uO X.prog X.w X.K X.mg X.base f fd ps (JJ X.K C ns))(hb:Binds X.K fd ps [])(hdp:X.A.depth+1<recursionLimit)(hg:Gl X x)(hm:X.mg x=some (.ref C))(ha:PA X (a::as) t)
  (hdb:(x==("__debug__":Str))=false:=by decide)(he:starEach (a::as) X.env=(false,eval a X.env)::starEach as X.env:=by rfl)(hpl:(backTo cpos (starEach as X.env)).any (·.1)=false:=by rfl):
  PS X (.Raise (some (.Call (.Name x np) (a::as) [] cpos)) none pos) (λD σ H=>Ga C ns false E (λσ H Q=>t σ H λvs H1=>(∃C0 d0,H1 e0=some (XO e0 C0 d0 true))/\Q vs H1) D σ H):=by
 intro pins s σ H D I h;obtain⟨nm,q,N,bs,sn,sub,ab,col,dd,k0,k1,k2,k3,k5,mN,lk,hN,hi⟩:=M.ex;rw[arm_exec_Raise];show wpAny _ _ (do standAt pos;raiseStmt X.env (some (do let v<-eval (.Call (.Name x np) (a::as) [] cpos) X.env;standAt pos;pure v)) none) _ _ s;refine O4 (QX (AK (nm:=nm) (q:=q) (C:=C) (N:=N) (bs:=bs) (sn:=sn) (sub:=sub) (ab:=ab) (col:=col) (dd:=dd) (k0:=k0) (k1:=k1) (k2:=k2) (k3:=k3) (k5:=k5) (O4 ?_)));refine QH (mr I hg hm ?_ hdb);refine Ro (h₀:=X.base) I.ok.mod.JP M.kp (dR (ha cpos pins s σ H _ I h) λus s1⟨vs,H1,I1,r,⟨C0,d0,h0⟩,hl,hz,hE⟩=>⟨I1.qY,?_⟩) he hpl;refine FY M F hb hdp I1 r hl hz λe t' dx s2 n1 n2 n3 I2=>O4 (QX (PM ⟨e,_,_,rfl,I2.qY _ _ lk,uT I2.cH ai,rfl,Gk L hh I2 (by rw[ak (au h0 n2)];exact h0) (au h0 n1) (hE e dx n1 n2 n3)⟩))
def qv(L:Lets X E)(hh:X.A.handled=none)(M:Co X.K C none)(hg:Gl X x)(hm:X.mg x=some (.ref C))(hdb:(x==("__debug__":Str))=false:=by decide):
  PS X (.Raise (some (.Call (.Name x np) [] [] cpos)) none pos) (H_ C E):=by
 intro pins s σ H D I h;obtain⟨nm,q,N,bs,sn,sub,ab,col,dd,k0,k1,k2,k3,k5,mN,lk,hN,hi⟩:=M.ex;rw[arm_exec_Raise];show wpAny _ _ (do standAt pos;raiseStmt X.env (some (do let v<-eval (.Call (.Name x np) [] [] cpos) X.env;standAt pos;pure v)) none) _ _ s;refine O4 (QX (AK (nm:=nm) (q:=q) (C:=C) (N:=N) (bs:=bs) (sn:=sn) (sub:=sub) (ab:=ab) (col:=col) (dd:=dd) (k0:=k0) (k1:=k1) (k2:=k2) (k3:=k3) (k5:=k5) (O4 ?_)));refine QH (mr I hg hm ?_ hdb);refine PySem.W.callWith_K0 I.qY M.kp ?_;exact Jh M I λe t' s2 n1 I2=>O4 (QX (PM ⟨e,_,_,rfl,I2.qY _ _ lk,uT I2.cH ai,rfl,z7 L hh I2 (h e n1)⟩))
end
def Oq(K:OX)(ta:TE)(f:Str):TE:=λσ H Q=>ta σ H λx H1=>∃e C dx cx fs v,x=.ref e/\H1 e=some (XO e C (some dx) cx)/\H1 dx=some (XD dx fs)/\nu K C/\aP K C f/\fs.lookup f=some v/\Q v H1
def Ih{X:Cx}{e:Expr}{f:Str}{pos:Pos}{ta:TE}(he:PE X e ta)(hb:attributeBase e f X.env (eval e X.env)=eval e X.env):PE X (.Attribute e f pos) (Oq X.K ta f):=by
 intro pins s σ H Q I h;refine Dq hb (dR (he pins s σ H _ I h) λu s1⟨x,H1,I1,rx,a,C,dx,cx,fs,v,ex,ea,ed,c,n,l,q⟩=>?_);subst ex;obtain rfl:u=Value.ref a:=rx;obtain⟨vs,g,_,_⟩:=BC I1.cH ea;obtain⟨mA,na,ra,_,_⟩:=JL I1.cH ed;obtain⟨u',hu,ru⟩:=qJ.some_of (v:=v) (o:=mA f) (by rw[<-l];exact ra f);exact Md c I1.qY n g na hu (z5 ru) ⟨v,H1,I1.tok _,ru,q⟩
section
variable{X:Cx}{pins:List (Addr×Obj)}{σ:St}{H:Hp}{s:Shared}
def Inv.ID{M:Model}{A:Around}{E:Value->Shared->Prop}{n:Str}{pos:Pos}{Q:Unit->Shared->Prop}(I:Inv X pins σ H s)(hn:X.env.scope.names.lookup n=some .local)
  (h:∀s',Inv X pins (List.replicate X.N.length none) H s'->Heap.SameBut X.env.locals s.heap s'.heap->Q () s'):wpAny M A (do bindName X.env n .none;unbindBehindTheSuite X.env n pos) Q E s:=by
 obtain⟨m,hm,_⟩:=id I.loc;have hcls:(X.env.scope.kind== .class||(X.env.scope.kind== .module&&X.env.locals !=X.env.globals))=false:=by rw[I.ok.kind];rfl
 refine wpAny_nameGoes hn hm hcls λh' m' hn' hs=>h _ ?_ hs;obtain⟨oL,_,_,hoL,_⟩:=id hm;refine⟨I.ok,I.os,I.bare,⟨λb o e z hb hx=>?_,λb o e z hb hx=>?_,I.base.free,λb o e hx=>?_,I.base.rW,I.base.qG,I.base.rM⟩,⟨m',hn',λj y v' e1 e2 e3=>?_⟩,λy c e=>?_,I.free,I.mn,λp hp=>?_,λb ob e=>?_,by simp⟩
 ·exact(hs.2 b (PX (PJ (Pf e) I.ok.above))).trans (I.base.keep b o e z hb hx)
 ·obtain⟨sl,e1⟩:=I.base.slot b o e z hb hx
  exact⟨sl,(hs.2 b (PX (PJ (Pf e) I.ok.above))).trans e1⟩
 ·obtain⟨o',e1⟩:=I.base.there b o e hx
  exact⟨o',(hs.2 b (PX (PJ (Pf e) I.ok.above))).trans e1⟩
 ·exfalso
  rw[Qv]at e2;split at e2<;>cases e2
 ·obtain⟨w',z⟩:=I.cell y c e
  exact⟨w',z.sameBut hs (I.JZ y c e)⟩
 ·obtain⟨e,z,ne,nf,d⟩:=I.pin p hp
  exact⟨(hs.2 p.1 ne).trans e,z,ne,nf,d⟩
 ·refine(I.cH b ob e).vH (λc w' hc q=>(hs.2 c ?_).trans q) (λ_ q=>q) λ_ _ q=>q
  rintro rfl
  rcases hc with y|hc
  ·rw[<-y,I.free]at e;cases e
  ·rw[I.free]at hc;cases hc
end
structure qI(X:Cx)(pins:List (Addr×Obj))(σ:St)(H:Hp)(s:Shared)(e C:Addr)(d:Option Addr)(cx:Bool)(T:Addr)(f:Value):Prop where
 inv:Inv X pins σ H s
 he:H e=some (XO e C d cx)
 rc:Rec s.heap H X.vI.heap.objs.size e (some (T,f))
 pn:∀p∈X.pn++pins,p.1≠T
section
variable{X:Cx}{pins:List (Addr×Obj)}{σ:St}{H:Hp}{s:Shared}{e C T:Addr}{d:Option Addr}{cx:Bool}{f:Value}{tb:Option (Addr×Value)}
def Inv.CO(I:Inv X pins σ H s){b:Addr}{o:Obj}{ts:Array Value}(g:s.heap.get? b=some o)(hd:o.data=Data.fields ts):b≠X.env.locals/\∀x c,X.env.cells.lookup x=some c->c≠b:=by
 refine⟨λz=>?_,λx c q z=>?_⟩
 ·obtain⟨m,⟨o',es,ep,g',hd',_⟩,_⟩:=I.loc
  rw[<-z,g]at g';cases g';rw[hd]at hd';cases hd'
 ·obtain⟨v,o',g',hd'⟩:=I.cell x c q
  rw[z,g]at g';cases g';rw[hd]at hd';cases hd'
def Inv.JI{h':Heap}(I:Inv X pins σ H s)(R:Rec s.heap H X.vI.heap.objs.size e tb)(hp:∀p∈X.pn++pins,∀b∈yA tb,p.1≠b)(N:oO X.prog X.w H X.stack (yA tb) s.heap h'):Inv X pins σ H {s with heap:=h'}:=by
 refine I.GC (s':={s with heap:=h'}) (ch:=yA tb) rfl N.un N.ok I.bare λb hb=>?_;cases tb with
 |none=>exact nomatch hb
 |some p=>
  obtain⟨_,vs,_,_,_,_,_,hT,_,oT,ts,gT,hdT,_⟩:=R;have eb:b=p.1:=Pj.mp hb;obtain⟨n1,n2⟩:=I.CO gT hdT;exact⟨.inr (by rw[eb];exact hT),by rw[eb];exact n1,λx c q=>by rw[eb];exact n2 x c q,λp' hp'=>hp p' hp' b hb⟩
def uh{A:Around}{E:Value->Shared->Prop}{Q:Unit->Shared->Prop}(hst:X.stack=X.env::X.outer)(hf:X.env.frame=some X.env.locals)(hA:A.frames=X.A.frames)(I:Inv X pins σ H s)(he:H e=some (XO e C d cx))(R:Rec s.heap H X.vI.heap.objs.size e tb)
  (hp:∀p∈X.pn++pins,∀b∈yA tb,p.1≠b)(G:Goes X.env.locals tb)(h:∀s' T,qI X pins σ H s' e C d cx T (rawInt X.env.locals)->Q () s'):wpAny (model X.prog X.w) A (noteFrame (.ref e) X.env) Q E s:=by
 have hl:=I.stack;have hfr:=I.v6;rw[hst]at hl hfr;refine yz (P:=X.prog) (w:=X.w) (base:=X.base) (n:=X.vI.heap.objs.size) (by rw[hA,I.ok.frames,hst]) hl hf hfr I.cH he R G I.sz λh' T N R' k=>h _ T ⟨I.JI R hp (by rw[hst];exact N),he,R',λp hp'=>?_⟩;exact k p.1 p.2 (I.pin p hp').1 λz=>hp p hp' p.1 z rfl
def qI.wn{A:Around}{E:Value->Shared->Prop}{Q:Unit->Shared->Prop}{fr:Option Addr}(c:qI X pins σ H s e C d cx T f)(h:∀s',qI X pins σ H s' e C d cx T (fr.elim Value.none λa=>rawInt a)->Q () s'):
  wpAny (model X.prog X.w) A (setFlight (.ref e) fr) Q E s:=
 xg (P:=X.prog) (w:=X.w) c.rc c.inv.cH c.he X.stack λh' N R=>h _ ⟨c.inv.JI c.rc (λp hp b hb=>by rw[Pj.mp hb];exact c.pn p hp) N,c.he,R,c.pn⟩
def qI.field{A:Around}{E:Value->Shared->Prop}{Q:Value->Shared->Prop}(c:qI X pins σ H s e C d cx T f)(h:Q (.ref T) s):wpAny (model X.prog X.w) A (field (.ref e) 1) Q E s:=by
 obtain⟨oe,vs,g,hd,_,h1,_⟩:=c.rc;exact RC g hd h1 h
def qI.ID{A:Around}{E:Value->Shared->Prop}{n:Str}{pos:Pos}{Q:Unit->Shared->Prop}(c:qI X pins σ H s e C d cx T f)(hn:X.env.scope.names.lookup n=some .local)
  (h:∀s',qI X pins (List.replicate X.N.length none) H s' e C d cx T f->Q () s'):wpAny (model X.prog X.w) A (do bindName X.env n .none;unbindBehindTheSuite X.env n pos) Q E s:=by
 refine c.inv.ID hn λs' I' sb=>h s' ⟨I',c.he,?_,c.pn⟩;obtain⟨oe,vs,g,hd,z,h1,hTe,hnT,fT,oT,ts,gT,hdT,h3⟩:=c.rc;exact⟨oe,vs,(sb.2 e (c.inv.CO g hd).1).trans g,hd,z,h1,hTe,hnT,fT,oT,ts,(sb.2 T (c.inv.CO gT hdT).1).trans gT,hdT,h3⟩
end
abbrev NP:=Addr->Addr->Ends->Hp->Prop
def PH(X:Cx)(hs:List ExceptHandler)(th:NP):Prop:=∀(pins:List (Addr×Obj))(σ:St)(H:Hp)(s:Shared)(e C:Addr)(d:Option Addr)(cx:Bool)(T:Addr)(D:Ends),
 qI X pins σ H s e C d cx T Value.none->th C e D H->wpAny (model X.prog X.w) X.A (handleBy (.ref e) X.env hs) (SP X pins D) X.xe s
def C7{X:Cx}:PH X [] λ_ _ _ _=>False:=λ_ _ _ _ _ _ _ _ _ _ _ h=>h.elim
structure Own(X:Cx):Prop where
 st:X.stack=X.env::X.outer
 fr:X.env.frame=some X.env.locals
 kd:X.calm=true->X.A.handled=none
def j_{CX:Dg}{P:PN}{w:World}{K:OX}{mg:Str->Option Value}{base:Heap}{N:List Str}{qual:Str}{scope:Scope}{f:Addr}{cd:Value}{A:Around}{outer:List Env}{s:Shared}{H:Hp}{E:XK}(h:A.handled=none):
  Own (ua CX P w K mg base N qual scope f cd A outer s H E):=⟨rfl,rfl,λ_=>h⟩
abbrev Cx.p6(X:Cx)(e:Addr)(pn:List (Addr×Obj))(xe:Value->Shared->Prop):Cx:=X.re (X.A.mark (some (.ref e))) false pn xe
section
variable{X:Cx}{E:XK}{x n:Str}{np pos:Pos}{C':Addr}{b0:Stmt}{p6:List Stmt}{rest:List ExceptHandler}{th:NP}{ts:Addr->TS}{i:Nat}
structure Gz(K:OX)(C':Addr):Prop where
 one:∀C,nu K C->PySem.W.exmOne K (.ref C) (.ref C')=some (decide (C=C'))
def Ea{nm:Option Str}{pins:List (Addr×Obj)}{σ:St}{H:Hp}{s:Shared}{e C T:Addr}{d:Option Addr}{cx:Bool}{body:List Stmt}{Q:Flow->Shared->Prop}(hg:Gl X x)(hm:X.mg x=some (.ref C'))(a:Gz X.K C')(c:qI X pins σ H s e C d cx T Value.none)(xc:nu X.K C)(hdb:(x==("__debug__":Str))=false)
  (hit:C=C'->codeAny (model X.prog X.w) (X.A.mark (some (.ref e))) (.handlers (.ref e) [.ExceptHandler none nm body pos] X.env) (λr s2=>match r with
     |.ok f=>(match nm with
      |none=>Q f s2
      |some n=>wpAny (model X.prog X.w) X.A (do bindName X.env n .none;unbindBehindTheSuite X.env n pos) (λ_ s3=>Q f s3) X.xe s2)
     |.error x=>cameBackBy (model X.prog X.w) X.A X.env X.xe x s2) s)
  (miss:C≠C'->wpAny (model X.prog X.w) X.A (handleBy (.ref e) X.env rest) Q X.xe s):
  wpAny (model X.prog X.w) X.A (handleBy (.ref e) X.env (.ExceptHandler (some (.Name x np)) nm body pos::rest)) Q X.xe s:=by
 refine wpAny_handleBy_cons (codeAny_handlers_test ?_) (by intro q;cases q);have I1:Inv (X.p6 e (X.pn++pins) λ_ _=>False) [] σ H s:=c.inv.re rfl (λq=>nomatch q) λp hp=>by simpa using hp
 have LT:PySem.W.Looks (model X.prog X.w) s.heap (typeOf (.ref e)) (.ref C):=by
  obtain⟨vs,g,_,_⟩:=BC c.inv.cH c.he;exact(PySem.W.Looks.ld g).andThen .now
 refine mr (X:=X.p6 e (X.pn++pins) λ_ _=>False) I1 hg hm ?_ hdb;refine(PySem.W.exm_one c.inv.qY LT (a.one C xc)).here ?_
 by_cases hC:C=C'
 ·rw[O0 hC]
  exact hit hC
 ·rw[PF hC]
  exact miss hC
def qI.off{pins:List (Addr×Obj)}{σ:St}{H:Hp}{s:Shared}{e C T:Addr}{d:Option Addr}{cx:Bool}(o:Own X)(L:Lets X E)(c:qI X pins σ H s e C d cx T (rawInt X.env.locals))(q:E (.ref C) (some e) H):
  cameBackBy (model X.prog X.w) X.A X.env X.xe (.ref e) s:=by
 unfold cameBackBy;refine O4 (c.field ?_);rw[OV (show¬((Value.ref T==Value.none)=true)from by simp)];rw[o.fr];refine c.wn (fr:=some X.env.locals) λs' c'=>?_;exact L pins σ H s' e C d cx _ c'.inv c'.he c'.rc (λp hp b hb=>by rw[Pj.mp hb];exact c'.pn p hp) (.inr rfl) q
def qI.again{A:Around}{pins:List (Addr×Obj)}{σ:St}{H:Hp}{s:Shared}{e C T:Addr}{d:Option Addr}{cx:Bool}{Q:Unit->Shared->Prop}{Ex:Value->Shared->Prop}(o:Own X)(hA:A.frames=X.A.frames)(c:qI X pins σ H s e C d cx T (rawInt X.env.locals))
  (h:∀s' T',qI X pins σ H s' e C d cx T' (rawInt X.env.locals)->Q () s'):wpAny (model X.prog X.w) A (noteFrame (.ref e) X.env) Q Ex s:=
 uh o.st o.fr hA c.inv c.he c.rc (λp hp b hb=>by rw[Pj.mp hb];exact c.pn p hp) (.inr rfl) h
def BG(o:Own X)(L:Lets X E)(hg:Gl X x)(hm:X.mg x=some (.ref C'))(a:Gz X.K C')(nd:X.N.Nodup)(hi:X.N[i]? =some n)(hn:X.env.scope.names.lookup n=some .local)
  (hs:∀e pn xe,Lets (X.p6 e pn xe) E->zN (X.p6 e pn xe) (b0::p6) (ts e))(hr:PH X rest th)(hdb:(x==("__debug__":Str))=false:=by decide):
  PH X (.ExceptHandler (some (.Name x np)) (some n) (b0::p6) pos::rest) λC e D H=>nu X.K C/\(C=C'->ts e {nx:=λ_ _=>False,rt:=D.rt} ((List.replicate X.N.length none).set i (some (.ref e))) H)/\(C≠C'->th C e D H):=by
 intro pins σ H s e C d cx T D c ⟨xc,q1,q2⟩;refine Ea hg hm a c xc hdb (λhC=>?_) λhC=>hr pins σ H s e C d cx T D c (q2 hC);refine codeAny_handlers_suite_as (c.wn (fr:=none) λs1 c1=>?_);have I1:Inv X pins (List.replicate X.N.length none) H s1:=c1.inv.weak (by rw[PP];exact c1.inv.len.symm) λj v z=>by
  rw[Qv]at z;split at z<;>cases z
 refine sL (v:= .ref e) I1 nd hi (.inl hn) rfl (λs2 I2=>?_) (.inr hn);have back:∀{xe:Value->Shared->Prop}{pins':List (Addr×Obj)}{σ':St}{H':Hp}{s':Shared},Inv (X.p6 e (X.pn++pins) xe) pins' σ' H' s'->Inv X pins σ' H' s':=λJ=>J.back rfl o.kd λp hp=>Qq _ hp;refine QG (hs e (X.pn++pins) _ ?_ [] s2 _ H {nx:=λ_ _=>False,rt:=D.rt} (I2.re rfl (λz=>nomatch z) λp hp=>by simpa using hp) (q1 hC)) (λfl s3 h3=>?_) λy s3 h3=>h3
 ·intro pins' σ' H' s' e2 C2 d2 cx2 tb J he2 R2 hp2 G2 qE
  have J':=back J;refine uh o.st o.fr rfl J' he2 R2 (λp hp=>hp2 p (Qq _ hp)) G2 λs4 T4 c4=>?_;refine c4.ID hn λs5 c5=>?_;unfold PySem.passOn;refine O4 (c5.field ?_);rw[OV (show¬((Value.ref T4==Value.none)=true)from by simp)];rw[o.fr];refine O4 (c5.wn (fr:=some X.env.locals) λs6 c6=>wpAny_throw ?_);exact c6.again o rfl λs7 T7 c7=>c7.off o L qE
 ·cases fl with
  |next=>obtain⟨_,_,_,z⟩:=h3;exact z.elim
  |brk=>obtain⟨_,_,_,z⟩:=h3;exact z.elim
  |cont=>obtain⟨_,_,_,z⟩:=h3;exact z.elim
  |ret u=>
   obtain⟨v,σ',H',J,rv,z⟩:=h3;exact(back J).ID hn λs4 I4 _=>⟨v,_,H',I4,rv,z⟩
def DJ(o:Own X)(hg:Gl X x)(hm:X.mg x=some (.ref C'))(a:Gz X.K C')
  (hs:∀e pn,zN (X.p6 e pn λ_ _=>False) (b0::p6) (ts e))(hr:PH X rest th)(hdb:(x==("__debug__":Str))=false:=by decide):
  PH X (.ExceptHandler (some (.Name x np)) none (b0::p6) pos::rest) λC e D H=>nu X.K C/\(C=C'->ts e {nx:=λ_ _=>False,rt:=D.rt} (List.replicate X.N.length none) H)/\(C≠C'->th C e D H):=by
 intro pins σ H s e C d cx T D c ⟨xc,q1,q2⟩;refine Ea hg hm a c xc hdb (λhC=>?_) λhC=>hr pins σ H s e C d cx T D c (q2 hC);refine codeAny_handlers_suite (c.wn (fr:=none) λs1 c1=>?_);have I1:Inv X pins (List.replicate X.N.length none) H s1:=c1.inv.weak (by rw[PP];exact c1.inv.len.symm) λj v z=>by
  rw[Qv]at z;split at z<;>cases z
 refine QG (hs e (X.pn++pins) [] s1 _ H {nx:=λ_ _=>False,rt:=D.rt} (I1.re rfl (λz=>nomatch z) λp hp=>by simpa using hp) (q1 hC)) (λfl s3 h3=>?_) λy s3 h3=>h3.elim;cases fl with
 |next=>obtain⟨_,_,_,z⟩:=h3;exact z.elim
 |brk=>obtain⟨_,_,_,z⟩:=h3;exact z.elim
 |cont=>obtain⟨_,_,_,z⟩:=h3;exact z.elim
 |ret u=>
  obtain⟨v,σ',H',J,rv,z⟩:=h3;exact⟨v,_,H',J.back rfl o.kd λp hp=>Qq _ hp,rv,z⟩
def N7(tb:TS)(E':XK)(th:NP):TS:=λD σ H=>tb D σ H/\∀C e H',E' (.ref C) (some e) H'->th C e D H'
def C4{body:List Stmt}{h0:ExceptHandler}{hs:List ExceptHandler}{E':XK}{tb:TS}(o:Own X)(hb:∀pn xe,Lets (X.re X.A X.calm pn xe) E'->zN (X.re X.A X.calm pn xe) body tb)(hh:PH X (h0::hs) th):
  PS X (.Try body (h0::hs) [] [] pos) (N7 tb E' th):=by
 intro pins s σ H D I ⟨q,qe⟩;have back:∀{xe:Value->Shared->Prop}{pins':List (Addr×Obj)}{σ':St}{H':Hp}{s':Shared},Inv (X.re X.A X.calm (X.pn++pins) xe) pins' σ' H' s'->Inv X pins σ' H' s':=λJ=>J.back rfl o.kd λp hp=>Qq _ hp;refine wpAny_Try_except (QG (hb (X.pn++pins) (λev s1=>wpAny (model X.prog X.w) X.A (noteFrame ev X.env) (λ_ s2=>wpAny (model X.prog X.w) X.A (setFlight ev none) (λ_ s3=>wpAny (model X.prog X.w) X.A (handleBy ev X.env (h0::hs)) (SP X pins D) X.xe s3) X.xe s2) X.xe s1) ?_ [] s σ H D (I.re rfl o.kd λp hp=>by simpa using hp) q) (λfl s1 h1=>?_) λev s1 h1=>h1)
 ·intro pins' σ' H' s' e C d cx t' J he R hp G qE
  refine uh o.st o.fr rfl (back J) he R (λp hp'=>hp p (Qq _ hp')) G λs4 T4 c4=>?_;refine c4.wn (fr:=none) λs5 c5=>?_;exact hh pins σ' H' s5 e C d cx T4 D c5 (qe C e H' qE)
 ·cases fl with
  |next=>
   obtain⟨σ',H',J,z⟩:=h1;show wpAny _ _ (execs [] X.env) _ _ _;exact RG ⟨σ',H',back J,z⟩
  |brk=>obtain⟨σ',H',J,z⟩:=h1;exact⟨σ',H',back J,z⟩
  |cont=>obtain⟨σ',H',J,z⟩:=h1;exact⟨σ',H',back J,z⟩
  |ret u=>obtain⟨v,σ',H',J,rv,z⟩:=h1;exact⟨v,σ',H',back J,rv,z⟩
end
def Lm(x:Str):It:=⟨λi _=>i<x.cps.size,λi H v H'=>∃T c,v=.ref T/\H T=none/\H'=upd H T (.tup [.int (i:Nat),.str ⟨#[c]⟩])/\x.cps[i]? =some c,λi _=>x.cps.size=i⟩
def z6{P:PN}{w:World}{A:Around}(hh:A.handled=none)(it:Addr)(x:Str)(t:Tok):
  Draws P w A it [it] x.cps.size (λi v=>∃c u,x.cps[i]? =some c/\v=.str ⟨#[c]⟩ u) (λi h=>h.IsStrIter it (strIterType x) x t i):=by
 unfold strIterType;split
 ·exact Draws.strAscii hh it x t
 ·exact Draws.strWide hh it x t
def Cv{P:PN}{w:World}{K:OX}{elts:List Expr}{kk:Nat}{tpos:Pos}(x:Str)(t:Tok)(e it:Addr):
  Turn P w K (.Tuple elts kk tpos) (Lm x) [e,it] e (λi h=>(∃old,IsEnum h e it ((i:Nat):Int) old)/\h.IsStrIter it (strIterType x) x t i/\e≠it) where
 mem:=by simp
 obj:=λi h st b hb=>by
  obtain⟨⟨old,he⟩,⟨o,ho,hc,hd⟩,_⟩:=st;have e':b=e\/b=it:=by simpa using hb
  rcases e' with z|z
  ·rw[z];exact⟨_,he,λv q=>nomatch q⟩
  ·rw[z];exact⟨o,ho,λv q=>by rw[hd]at q;cases q⟩
 keep:=λi h h' st k=>let⟨⟨old,he⟩,⟨o,ho,r⟩,hne⟩:=st;⟨⟨old,k e (by simp) _ he⟩,⟨o,k it (by simp) o ho,r⟩,hne⟩
 item:=by
  intro X hP hw hK hc i pins s σ H E I hf st hg;subst hP hw hK;obtain⟨⟨old,he⟩,hit,hne⟩:=st;have hel:e<s.heap.objs.size:=Pf he;have hil:it<s.heap.objs.size:=by obtain⟨_,q,_⟩:=hit;exact Pf q
  have D:=z6 (P:=X.prog) (w:=X.w) (A:=X.A.in1) (show X.A.in1.handled=none from I.ok.hd hc) it x t;refine wpAny_pyNext_enum_itemD D he hit hg hne (by simpa using hne) λv h' tk hv ho hit' hT hsz hk=>?_;obtain⟨c,u,hcx,rfl⟩:=hv;refine⟨_,rfl,wpAny_letOwnedTupleGo_enum (s:={s with heap:=h',toks:=tk+1}) ho λh'' he' sb=>?_⟩;have hT2:h''.get? s.heap.objs.size=some {cls:= .type "tuple",data:= .seq #[.int i tk,.str ⟨#[c]⟩ u]}:=(sb.2 _ (Rs hel)).trans hT;have new:dI X.prog X.w (upd H s.heap.objs.size (.tup [.int (i:Nat),.str ⟨#[c]⟩])) h'' s.heap.objs.size (.tup [.int (i:Nat),.str ⟨#[c]⟩]):=
   ⟨by show 2<=sizeLine;decide,[.int i tk,.str ⟨#[c]⟩ u],.cons ⟨_,rfl⟩ (.cons ⟨_,rfl⟩ .nil),⟨_,hT2,rfl,_,rfl⟩⟩
  have I1:Inv X pins σ (upd H s.heap.objs.size (.tup [.int (i:Nat),.str ⟨#[c]⟩])) {s with heap:=h'',toks:=tk+1}:=
   I.t9 (ch:=[e,it]) (λb ob hb q=>(sb.2 b (λz=>hb (by simp[z]))).trans (hk b ob (λz=>hb (by simp[z])) (λz=>hb (by simp[z])) q)) hf (OZ _) new
  refine⟨.ref s.heap.objs.size,_,I1,rfl,⟨_,c,rfl,I.cH.fresh (OZ _),rfl,hcx⟩,⟨⟨.str ⟨#[c]⟩ u,?_⟩,?_,hne⟩,λb hb=>?_⟩
  ·have e1:((i+1:Nat):Int)=(i:Int)+1:=by omega
   rw[e1];exact he'
  ·obtain⟨o,q,r⟩:=hit'
   exact⟨o,(sb.2 it (Pb hne)).trans q,r⟩
  ·have hb':b<s.heap.objs.size:=by
    have e':b=e\/b=it:=by simpa using hb
    rcases e' with z|z
    ·rw[z];exact hel
    ·rw[z];exact hil
   rw[ak (PX hb')];exact(hf b hb).1
 done:=by
  intro X hP hw hK hc i pins s σ H E I hf st hg;subst hP hw hK;obtain⟨⟨old,he⟩,hit,hne⟩:=st;obtain⟨f0,f1,f2,f3,f4,f5⟩:=hf it (by simp);have hg:x.cps.size=i:=hg;have D:=z6 (P:=X.prog) (w:=X.w) (A:=X.A.in1) (show X.A.in1.handled=none from I.ok.hd hc) it x t;subst hg;exact wpAny_pyNext_enum_endD D he hit λh' eb=>⟨rfl,I.turned (t':=s.toks) (λb o hb q=>eb b o hb q) f0 f1 f3 f4 f5⟩
 self:=λA i s Q E st h=>let⟨⟨_,he⟩,_⟩:=st;wpAny_pyIter_enum he h
def Ka(ta:TA):TI:=λσ H R=>ta σ H λvs H1=>∃x,vs=[.str x]/\R (Lm x) H1
def Gv{X:Cx}{e:Expr}{ta:TA}{p pos tpos:Pos}{elts:List Expr}{kk:Nat}(hg:Gl X "enumerate")(hm:X.mg "enumerate"=none)(ha:PA X [e] ta)(hs:starEach [e] X.env=[(false,eval e X.env)]:=by rfl):
  PI X (.Tuple elts kk tpos) (.Call (.Name "enumerate" p) [e] [] pos) (Ka ta):=by
 intro pins s σ H R I h;refine Call_ (ud I hg hm boot_enumerate (QM (dR (ha pos pins s σ H _ I h) λus s1⟨vs,H1,I1,r1,q1⟩=>?_) hs rfl));obtain⟨x,ex,q⟩:=q1;subst ex;cases r1 with
 |cons r rr=>
  cases rr;obtain⟨t,rfl⟩:=r;refine call_enumerate_str λh' he hit hsz hk=>wpAny_pyIter_enum he ?_;have I2:Inv X pins σ H1 {s1 with heap:=h'}:=I1.kept (t':=s1.toks) hk;refine⟨s1.heap.objs.size+1,[s1.heap.objs.size+1,s1.heap.objs.size],_,_,H1,rfl,I2,Cv x t (s1.heap.objs.size+1) s1.heap.objs.size,⟨⟨.none,he⟩,hit,Nat.succ_ne_self _⟩,λb hb=>?_,q⟩;have e':b=s1.heap.objs.size+1\/b=s1.heap.objs.size:=by simpa using hb
  have hle:s1.heap.objs.size<=b:=by
   rcases e' with z|z
   ·rw[z];exact Rc _ _
   ·rw[z];exact OZ _
  exact I1.B7 hle (I1.cH.fresh hle)
def tI{J:It}{n:Nat}{g:TG}{tb:TS}{D:Ends}{σ:St}{H:Hp}(Pv:Nat->St->Hp->Prop)(h0:Pv 0 σ H)(go:∀i σ H,i<n->Pv i σ H->J.go i H)(stop:∀σ H,Pv n σ H->J.stop n H)
  (hs:∀i σ H,i<n->Pv i σ H->∀x H',J.FA i H x H'->g x σ H' λσ2 H2=>tb {D with nx:=Pv (i+1),ct:=Pv (i+1),bk:=D.nx} σ2 H2)(hd:∀σ H,Pv n σ H->D.nx σ H):
  ∃W:Nat->Nat->St->Hp->Prop,(∃m,W 0 m σ H)/\∀i m σ H,W i m σ H->
   (J.stop i H/\D.nx σ H)\/(J.go i H/\∃N:St->Hp->Prop,(∀σ' H',N σ' H'->∃m',m'<m/\W (i+1) m' σ' H')/\∀x H',J.FA i H x H'->g x σ H' λσ2 H2=>tb {D with nx:=N,ct:=N,bk:=D.nx} σ2 H2):=by
 refine⟨λi m σ H=>m=n-i/\i<=n/\Pv i σ H,⟨n,by simp,P4 _,h0⟩,?_⟩
 rintro i m σ H ⟨rfl,hi,p⟩
 rcases Q2 i n with hlt|hge
 ·exact .inr ⟨go i σ H hlt p,Pv (i+1),λσ' H' p'=>⟨n-(i+1),by omega,rfl,hlt,p'⟩,λx H' y=>hs i σ H hlt p x H' y⟩
 ·have e:i=n:=by omega
  subst e;exact .inl ⟨stop σ H p,hd σ H p⟩
def Got(H1:Hp)(D:Addr)(ys:List V)(y:V)(H4:Hp):Prop:=∃acc,H4 D=some (.lst acc)/\acc.length<sizeLine/\aE H1 (upd H4 D (.lst (acc++[y])))/\upd H4 D (.lst (acc++[y])) D=some (.lst ys)
def cY{H1 H:Hp}{D:Addr}{o:HO}(hD:H1 D=none)(s:aE H1 H):aE H1 (upd H D o):=λb u q=>by
 rw[ak (au q hD)];exact s b u q
def Got.of{H1 H H4:Hp}{D:Addr}{as ys:List V}{y:V}(hD:H1 D=none)(s:aE H1 H)(e:H D=some (.lst as))(s4:aE H H4)(hz:as.length<=1000000)(ey:ys=as++[y]):Got H1 D ys y H4:=
 ⟨as,s4 _ _ e,by rw[O2];omega,cY hD (s.trans s4),by rw[ai,ey]⟩
def iJ{J:It}{n:Nat}{g:TG}{tt:TT}{te:TE}{vs:List Nat}{σ:St}{H1:Hp}{D:Addr}{Qd:Hp->Prop}(A:Nat->List V)(hD:H1 D=none)(hA0:A 0=[])
  (go:∀i H,i<n->aE H1 H->J.go i H)(stop:∀H,aE H1 H->J.stop n H)
  (hs:∀i H,i<n->aE H1 H->H D=some (.lst (A i))->∀x H',J.FA i H x H'->g x (wipe σ vs) H' λσ2 H2=>wipe σ2 vs=wipe σ vs/\tt σ2 H2 λb H3=>
   if b=true then te σ2 H3 λy H4=>Got H1 D (A (i+1)) y H4 else aE H1 H3/\H3 D=some (.lst (A (i+1))))
  (hd:∀H,aE H1 H->H D=some (.lst (A n))->Qd H):
  ∃W:Nat->Nat->Hp->Prop,(∃m,W 0 m (upd H1 D (.lst [])))/\∀i m H,W i m H->
   (J.stop i H/\Qd H)\/(J.go i H/\∃Nx:Hp->Prop,(∀H',Nx H'->∃m',m'<m/\W (i+1) m' H')/\∀x H',J.FA i H x H'->g x (wipe σ vs) H' λσ2 H2=>wipe σ2 vs=wipe σ vs/\tt σ2 H2 λb H3=>
    if b=true then te σ2 H3 λy H4=>∃acc,H4 D=some (.lst acc)/\acc.length<sizeLine/\Nx (upd H4 D (.lst (acc++[y])))else Nx H3):=by
 refine⟨λi m H=>m=n-i/\i<=n/\aE H1 H/\H D=some (.lst (A i)),⟨n,by simp,P4 _,cY hD (aE.refl _),by rw[ai,hA0]⟩,?_⟩
 rintro i m H ⟨rfl,hi,s,e⟩
 rcases Q2 i n with hlt|hge
 ·exact .inr ⟨go i H hlt s,λH'=>aE H1 H'/\H' D=some (.lst (A (i+1))),λH' p'=>⟨n-(i+1),by omega,rfl,hlt,p'⟩,λx H' y=>hs i H hlt s e x H' y⟩
 ·have ei:i=n:=by omega
  subst ei;exact .inl ⟨stop H s,hd H s e⟩
def JA(K:OX):R2:=λx y H Q=>∃(a p:Addr)(i j:Int)(l:List (Addr×Int×Int)),x=.ref a/\y=.ref p/\iV K H a [.int i,.int j]/\a0 K H p (l.map λq=>V.ref q.1)/\(∀q∈l,iV K H q.1 [.int q.2.1,.int q.2.2]/\q.1≠a)/\
 Q (.bl (!(l.any λq=>q.2.1==i&&q.2.2==j))) H
section
variable{X:Cx}
def zm:∀{l:List (Addr×Int×Int)}{us:List Value},Vals (l.map λq=>V.ref q.1) us->us=l.map λq=>Value.ref q.1
 |[],_,.nil=>rfl
 |q::l,_,.cons r t=>by
  cases r;rw[zm t];rfl
open Classical in
def Fk(hu:X.A.units+64<cLine):vq X (compareOp .NotIn) (JA X.K):=by
 intro pins s σ H x y v u Q I rx ry h;obtain⟨a,p,i,j,l,rfl,rfl,ha,hp,hl,q⟩:=h;cases rx;cases ry;obtain⟨its,r,pl,hz⟩:=I.list hp;have ei:=zm r;subst ei;obtain⟨ia,ra,pa,_⟩:=I.tuple ha;have two:∀{m k:Int}{us:List Value},Vals [.int m,.int k] us->∃t t',us=[.int m t,.int k t']:=λ{m k us} r=>by
  cases r with
  |cons r1 r2=>
   cases r2 with
   |cons r2 r3=>
    cases r3;obtain⟨t,rfl⟩:=r1;obtain⟨t',rfl⟩:=r2;exact⟨t,t',rfl⟩
 obtain⟨ta,ta',rfl⟩:=two ra
 let f:Value->Bool:=λz=>decide (∃q∈l,z=.ref q.1/\q.2.1=i/\q.2.2=j)
 have fq:∀q∈l,f (.ref q.1)=(q.2.1==i&&q.2.2==j):=λq hq=>by
  by_cases hb:q.2.1=i/\q.2.2=j
  ·have e1:f (.ref q.1)=true:=O0 ⟨q,hq,rfl,hb⟩
   rw[e1];simp[hb.1,hb.2]
  ·have e1:f (.ref q.1)=false:=PF λ⟨q',hq',e,e1,e2⟩=>hb (by
    have ee:q.1=q'.1:=by injection e
    have t1:=(hl q hq).1;rw[ee]at t1;obtain⟨_,r1,p1,_⟩:=I.tuple t1;obtain⟨_,r2,p2,_⟩:=I.tuple (hl q' hq').1;obtain⟨_,_,rfl⟩:=two r1;obtain⟨_,_,rfl⟩:=two r2;obtain⟨o1,g1,_,n1,d1⟩:=p1;obtain⟨o2,g2,_,n2,d2⟩:=p2;rw[g1]at g2;cases g2;rw[d1]at d2;simp at d2;exact⟨d2.1.1.1.trans e1,d2.1.2.1.trans e2⟩)
   rw[e1]
   symm
   rw[Bool.and_eq_false_iff]
   by_cases h1:q.2.1=i
   ·right
    simpa usingλh2=>hb ⟨h1,h2⟩
   ·left
    simpa using h1
 refine SeqAt.notIn_listAt f pl.isList (λz hz'=>?_) ⟨.bl _,H,I,rfl,?_⟩
 ·have hm:z∈l.map λq=>Value.ref q.1:=by simpa using hz'
  obtain⟨q,hq,rfl⟩:=Pg.mp hm;obtain⟨iq,rq,pq,_⟩:=I.tuple (hl q hq).1;obtain⟨tq,tq',rfl⟩:=two rq;rw[fq q hq];have e:=SeqAt.RcAt.tuples (A:=X.A.in1) (e:=λk=>if k=0 then q.2.1==i else q.2.2==j) pq pa (by show X.A.units+1<cLine;omega) λk h1 h2=>by
   match k,h1,h2 with
   |0,_,_=>exact SeqAt.EqAt.int_int _ _ _ _
   |1,_,_=>exact SeqAt.EqAt.int_int _ _ _ _
   |k+2,h1,_=>exact absurd h1 (by simp)
  refine SeqAt.EqAt.of_refs (hl q hq).2 ?_;have e2:((List.range (min (#[Value.int q.2.1 tq,Value.int q.2.2 tq']:Array Value).size (#[Value.int i ta,Value.int j ta']:Array Value).size)).all (λk=>if k=0 then q.2.1==i else q.2.2==j)&&(#[Value.int q.2.1 tq,Value.int q.2.2 tq']:Array Value).size==(#[Value.int i ta,Value.int j ta']:Array Value).size)=(q.2.1==i&&q.2.2==j):=by
   simp[List.range_succ]
  rw[<-e2];exact e
 ·have e3:((l.map λq=>Value.ref q.1).toArray.any f)=l.any λq=>q.2.1==i&&q.2.2==j:=by
   rw[List.any_toArray,QT,Qg,Qk,Qk];constructor
   ·rintro⟨q,hq,e⟩
    exact⟨q,hq,by rw[<-fq q hq];exact e⟩
   ·rintro⟨q,hq,e⟩
    exact⟨q,hq,(fq q hq).trans e⟩
  rw[e3];exact q
end
open AutoSeq1 (wpAny_loadPart')
def Ch(l:Addr)(items:Array Value)(n:Nat)(dd:Option Addr)(sl:Array (Option Value))(x:Value)(e:Value->Bool)(j:Nat)(hj:j<items.size)
  (hit:e items[j]=true)(hno:∀m(hm:m<items.size),m<j->e items[m]=false):
  Meets (Builtin.«tuple.index» ⟨[.ref l,x],[]⟩)
   (λA R s=>s.heap.get? l=some {cls:= .type "tuple",dict:=dd,data:= .seq items n,slots:=sl}/\(∀y,y∈items->SeqAt.EqAt A.in1 s y x (e y))/\R (.ok (.ret (.int j s.toks))) {s with toks:=s.toks+1}):=by
 intro prog w A R s h;obtain⟨hp,g,d,tk,os⟩:=s;obtain⟨hl,he,h⟩:=h;unfold Builtin.«tuple.index»;simp only[Std.Legacy.Range.forIn_eq_forIn_range',Std.Legacy.Range.size];have loop:∀(k i:Nat)(Q:(Option Fin×Unit)->Shared->Prop)(E:Value->Shared->Prop),i+k=items.size->i<=j->Q (some (.done (.ret (.int j tk))),()) ⟨hp,g,d,tk+1,os⟩->
   wpAny (model prog w) A.in1 (forIn (List.range' i k) ((none:Option Fin),()) λi __s=>(match items[i]? with
    |some y=>do
     let b<-eqBool y x
     if b=true then do
      let r<-retInt (i:Nat)
      pure (ForInStep.done (some r,()))
     else pure (ForInStep.yield (none,()))
    |_=>pure (ForInStep.yield (none,())):Sem (ForInStep (Option Fin×Unit)))) Q E ⟨hp,g,d,tk,os⟩:=by
  intro k
  induction k with
  |zero=>intro i Q E h1 h2 _;omega
  |succ k ih=>
   intro i Q E h1 h2 q;rw[List.range'_succ,List.forIn_cons];have hi:i<items.size:=by omega
   have ei:items[i]? =some items[i]:=Array.getElem?_eq_getElem hi;rw[ei];refine O4 (O4 ((he items[i] (Array.getElem_mem hi)) prog w E _ ?_))
   by_cases hij:i=j
   ·subst hij
    rw[hit,OW rfl];refine O4 ?_;unfold retInt;refine O4 (wpAny_mkInt (PM (PM (PM q))))
   ·rw[hno i hi (by omega),OV O3]
    exact PM (ih (i+1) Q E (by omega) (by omega) q)
 wp_walk using wpAny_loadPart' hl
 exact loop ((min items.size items.size-0+1-1)/1) 0 _ _ (by rw[Nat.min_self];omega) (P4 _) (PM h)
section
variable{X:Cx}
def IB(K:OX):V->List V->Hp->VK->Prop:=λx xs H Q=>∃(a:Addr)(ys:List V)(y:V)(j:Nat)(z:V),x=V.ref a/\xs=[y]/\iV K H a ys/\ka y=true/\ys.all ka=true/\ys[j]? =some z/\Ef z y=true/\
 (∀(m:Nat)(z':V),m<j->ys[m]? =some z'->Ef z' y=false)/\Q (.int (j:Nat)) H
def EY:MF X "tuple.index" (IB X.K):=by
 intro pins s σ H x xs v us Q I rx rxs h;obtain⟨a,ys,y,j,z,rfl,rfl,hs,fy,fys,hz,hzj,hno,q⟩:=h;cases rx;cases rxs with
 |cons ry rt=>
  rename_i uy ut
  cases rt;obtain⟨its,rv,⟨⟨cls,dd,data,sl⟩,ho,hc,n,hd⟩,hlen⟩:=I.tuple hs;simp only at hc hd;subst hc hd;obtain⟨u,hu,ru⟩:=rv.get hz;obtain⟨hjl,hje⟩:=O6.mp hu;have hvl:=rv.length;have hj:j<its.toArray.size:=by simpa using hjl
  refine call_meets PySem.F.slot_tuple_index ⟨_,ho,rfl⟩ PySem.F.entry_tuple_index (PySem.F.args_tuple_index_2 _ _)
   (Ch a its.toArray n dd sl uy (GI y) j hj ?_ ?_) ⟨ho,λu' hu'=>o_ ry fy rv fys u' (by simpa using hu'),?_⟩
  ·have e1:its.toArray[j]=u:=by simpa using hje
   rw[e1,ux ru (vU fys hz)];exact hzj
  ·intro m hm hmj
   have hml:m<its.length:=by simpa using hm
   have hmy:m<ys.length:=by omega
   have hy':ys[m]? =some ys[m]:=OY hmy;obtain⟨u2,hu2,ru2⟩:=rv.get hy';obtain⟨_,hme⟩:=O6.mp hu2;have e1:its.toArray[m]=u2:=by simpa using hme
   rw[e1,ux ru2 (vU fys hy')];exact hno m _ hmj hy'
  ·exact⟨.int (j:Nat),H,I.tok _,⟨_,rfl⟩,q⟩
end
section
variable{X:Cx}{e:Expr}{f:Str}{pos:Pos}{ta:TE}
def tS(K:OX)(h:X.K=K):LB X (MO K):=by subst h;exact a_
def v_(K:OX)(h:X.K=K):LB X (Mv K):=by subst h;exact jo
def tF(K:OX)(h:X.K=K)(he:PE X e ta)(hb:attributeBase e f X.env (eval e X.env)=eval e X.env):PE X (.Attribute e f pos) (LX K ta f):=by subst h;exact ay he hb
def Hi(K:OX)(h:X.K=K):M4 X (Mm K):=by subst h;exact DP
def Ak:Ma X .Add (λx y H Q=>∃i j,x=.str i/\y=.str j/\i.length+j.length<=sizeLine/\Q (.str (i++j)) H):=by
 intro pins s σ H x y v u Q I rx ry h;obtain⟨i,j,rfl,rfl,hz,q⟩:=h;obtain⟨t,rfl⟩:=rx;obtain⟨t',rfl⟩:=ry;exact PyProof.Rows.iadd_str (λt' tk=>⟨.str _,H,I.tok _,⟨_,rfl⟩,q⟩) hz
end
def gf.d1{k:Nat}{A:Around}(r:gf k A):A.depth+1<recursionLimit:=by have:=r.dp;omega
def lV{X:Cx}{e:Expr}{f:Str}{pos:Pos}{ta:TE}(K:OX)(h:X.K=K)(he:PE X e ta)(hb:attributeBase e f X.env (eval e X.env)=eval e X.env):PE X (.Attribute e f pos) (Oq K ta f):=by subst h;exact Ih he hb
section
variable{X:Cx}
def Hh(K:OX):List V->Hp->VK->Prop:=λvs H Q=>∃(a:Addr)(ns:List Int),vs=[V.ref a]/\a0 K H a (ns.map V.int)/\ns.length<=sizeLine/\
 ∀(ns':List Int)(p:Addr),ns'.Perm ns->ns'.Pairwise (·<=·)->H p=none->Q (.ref p) (upd H p (.lst (ns'.map V.int)))
def rD:nE X (.builtin "sorted") (Hh X.K):=by
 intro pins s σ H vs us Q I r h;obtain⟨a,ns,rfl,hs,h64,q⟩:=h;obtain⟨its,rv,hl,_⟩:=I.list hs;rw[Vals.HQ r];have hi:=rv.ints;refine PyProof.Rows.sorted_intsAny hl.isList hi (by rw[hi.length];exact h64) λout ns' h1 h2 h3=>?_;obtain⟨ep,he'⟩:=PyProof.Rows.sortedAll_at s.heap its out;have hlen:(ns'.map V.int).length<=sizeLine:=by rw[OU,h2.length_eq];exact h64
 exact⟨.ref _,upd H (s.heap.objs.size+1) (.lst (ns'.map V.int)),I.laid (t':=s.toks) (λ_ _=>PyProof.Rows.sortedAll_old) (Nat.le_succ _) ⟨hlen,out.toList,ep,sV h1,he'⟩,rfl,q ns' _ h2 h3 (I.cH.fresh (Nat.le_succ _))⟩
end
def Oo(o:Obj):Prop:=o.cls=.type "tuple"/\o.dict=none
def Ke(K:OX)(p:Addr)(H:Hp):Prop:=(∃o xs,H p=some (.wE o (.tup xs))/\Oo o)\/∃o,K.lookup p=some o/\o.cls=Value.type "tuple"/\o.dict=none
def LR(t:TA):TE:=λσ H Q=>t σ H λxs H1=>xs.length<=sizeLine/\∀p o,H1 p=none->Oo o->Q (.ref p) (upd H1 p (.wE o (.tup xs)))
def NK(K:OX)(r:V->List V->Hp->VK->Prop)(to:TE)(t:TA):TE:=λσ H Q=>to σ H λx H1=>(∃p,x=.ref p/\Ke K p H1)/\t σ H1 λxs H2=>r x xs H2 Q
section
variable{X:Cx}{o e:Expr}{es:List Expr}{to:TE}{t:TA}{name:Str}{apos cpos pos:Pos}{id:String}{r:V->List V->Hp->VK->Prop}
def nV{x1}(h:PA X es t):PE X (.Tuple es x1 pos) (LR t):=by
 intro pins s σ H Q I hq;refine wpAny_Tuple_spliced (dR (h pos pins s σ H _ I hq) λus s1⟨xs,H1,I1,r,z,q⟩=>⟨by rw[<-r.length];exact z,?_⟩);have hf:H1 s1.heap.objs.size=none:=I1.cH.fresh (OZ _);refine⟨.ref s1.heap.objs.size,upd H1 s1.heap.objs.size (.wE {cls:=Value.type "tuple",data:=Data.seq us.toArray} (.tup xs)),I1.laid (t':=s1.toks) (λb u e=>Pr _ e) (OZ _) ?_,rfl,?_⟩
 ·exact⟨PZ _ rfl,z,us,r,⟨_,PZ _ rfl,rfl,_,rfl⟩⟩
 ·exact q _ _ hf ⟨rfl,rfl⟩
def K5(pa:PlainAttrs "tuple")(slot:Slot "tuple" name id)(hty:typeOf (.builtin id)=pure (.type "method_descriptor"))(hm:MF X id r)(ho:PE X o to)(ha:PA X (e::es) t)
  (hbase:attributeBase o name X.env (eval o X.env)=eval o X.env:=by rfl)
  (hfew:((backTo cpos (starEach (e::es) X.env)).all (λx=> !x.1)&&(backToKw cpos (keywordEach [] X.env)).all (λx=>x.1.isSome)
   &&decide ((e::es).length+([]:List Keyword).length+(if([]:List Keyword).isEmpty then 0 else 1)<30))=true:=by rfl)
  (hline:(apos.endLine==cpos.line)=true:=by rfl)(hs:starEach (e::es) X.env=(false,eval e X.env)::starEach es X.env:=by rfl)(hplain:(backTo cpos (starEach es X.env)).any (·.1)=false:=by rfl):
  PE X (.Call (.Attribute o name apos) (e::es) [] cpos) (NK X.K r to t):=by
 intro pins s σ H Q I h;refine wpAny_Call_method_late hbase hfew hline rfl (dR (ho pins s σ H _ I h) λv s1⟨x,H1,I1,r1,⟨p,ex,ty⟩,q1⟩=>?_);subst ex;obtain rfl:v=Value.ref p:=r1;have hh:∃ob,s1.heap.get? p=some ob/\ob.cls=.type "tuple"/\ob.dict=none:=by
  rcases ty with⟨ob,xs,h1,h2,h3⟩|⟨ob,h1,h2,h3⟩
  ·obtain⟨g,_⟩:=I1.cH p _ h1
   exact⟨ob,g,h2,h3⟩
  ·exact⟨ob,I1.qY p ob h1,h2,h3⟩
 obtain⟨ob,g,g2,g3⟩:=hh;refine⟨"tuple",id,pa,slot,hty,⟨ob,g,g2⟩,λa e=>by cases e;exact⟨ob,g,g3⟩,?_⟩;have hA:=ha cpos pins s1 σ H1 _ I1 q1;rw[hs]at hA ⊢;refine Calls.callWith_builtin (by show(false||(backTo cpos (starEach es X.env)).any (·.1))=false;rw[hplain]<;>rfl) (Calls.evalArgs_plain ?_);exact dR hA λus s2⟨vs,H2,I2,r2,q2⟩=>hm pins s2 σ H2 (.ref p) vs _ us Q I2 rfl r2 q2
end
end L2
section
section
set_option maxHeartbeats 2000000
namespace L2
open PySem PySem.Spec PyProof.Rows
open PySem.W (WData Codec OpenSpec Well WellAll ReadsW ReadsAllW)
mutual
inductive Dw(K:OX)(H:Hp):V->WData->Prop
 |eC:Dw K H .eC .none
 |bl (b:Bool):Dw K H (.bl b) (.bool b)
 |int (i:Int):Dw K H (.int i) (.int i)
 |str (x:Str):Dw K H (.str x) (.str x)
 |Bc (b:Array UInt8):Dw K H (.Bc b) (.bytes b.toList)
 |lst {a:Addr} {xs:List V} {ds:List WData}:a0 K H a xs->nG K H xs ds->Dw K H (.ref a) (.list ds)
 |tup {a:Addr} {xs:List V} {ds:List WData}:iV K H a xs->nG K H xs ds->Dw K H (.ref a) (.tuple ds)
inductive nG(K:OX)(H:Hp):List V->List WData->Prop
 |nil:nG K H [] []
 |cons {v:V} {vs:List V} {d:WData} {ds:List WData}:Dw K H v d->nG K H vs ds->nG K H (v::vs) (d::ds)
end
def DQ{K:OX}{H:Hp}:∀ns:List Int,nG K H (ns.map V.int) (ns.map WData.int)
 |[]=>.nil
 |n::r=>.cons (.int n) (DQ r)
def DO{K:OX}{H:Hp}:∀(ns:List Int)(xs:List V),nG K H xs (ns.map WData.int)->xs=ns.map V.int
 |[],xs,h=>by
  cases h;rfl
 |n::r,xs,h=>by
  cases h with
  |cons h1 h2=>
   cases h1;rw[DO r _ h2]<;>rfl
section
variable{P:PN}{w:World}{K:OX}{H:Hp}{h:Heap}{R:PySem.W.WRecords}{cl:Str->Option Addr}
def Lp{a:Addr}{xs:List V}(cH:lW P w H h)(KX:K.In h)(q:a0 K H a xs):∃(its:List Value)(o:Obj)(n:Nat),Vals xs its/\h.get? a=some o/\o.cls=.type "list"/\o.data=.seq its.toArray n:=by
 rcases q with q|⟨o,its,n,e,hc,_,hd,_,hv⟩
 ·obtain⟨_,its,n,hv,e⟩:=(show dI P w H h a (.lst xs)from q.ok cH)
  exact⟨its,_,n,hv,e,rfl,rfl⟩
 ·exact⟨its.toList,o,n,hv,KX _ _ e,hc,by simp[hd]⟩
def Le{a:Addr}{xs:List V}(cH:lW P w H h)(KX:K.In h)(q:iV K H a xs):∃(its:List Value)(o:Obj)(n:Nat),Vals xs its/\h.get? a=some o/\o.cls=.type "tuple"/\o.data=.seq its.toArray n:=by
 rcases q with q|⟨o,its,n,e,hc,hd,_,hv⟩
 ·obtain⟨_,its,hv,o,e,hc,n,hd⟩:=(show dI P w H h a (.tup xs)from q.ok cH)
  exact⟨its,o,n,hv,e,hc,hd⟩
 ·exact⟨its.toList,o,n,hv,KX _ _ e,hc,by simp[hd]⟩
mutual
def Dw.reads(cH:lW P w H h)(KX:K.In h):∀(d:WData)(v:V)(u:Value),Dw K H v d->RelV v u->∃as,ReadsW R cl h u d as
 |.none,_,_,x,r=>by
  cases x;cases r;exact⟨_,ReadsW.none⟩
 |.bool b,_,_,x,r=>by
  cases x;cases r;exact⟨_,ReadsW.bool b⟩
 |.int i,_,_,x,r=>by
  cases x;obtain⟨t,rfl⟩:=r;exact⟨_,ReadsW.int i t⟩
 |.str s,_,_,x,r=>by
  cases x;obtain⟨t,rfl⟩:=r;exact⟨_,ReadsW.str s t⟩
 |.bytes b,_,_,x,r=>by
  cases x;obtain⟨t,rfl⟩:=r;exact⟨_,ReadsW.bytes _ t⟩
 |.list ds,_,_,x,r=>by
  cases x with
  |lst hs ha=>
   cases r;obtain⟨its,o,n,rv,ho,hc,hd⟩:=Lp cH KX hs;obtain⟨as,hr⟩:=Dw.readsAll cH KX ds _ its ha rv;exact⟨_,ReadsW.list ho hc hd hr⟩
 |.tuple ds,_,_,x,r=>by
  cases x with
  |tup hs ha=>
   cases r;obtain⟨its,o,n,rv,ho,hc,hd⟩:=Le cH KX hs;obtain⟨as,hr⟩:=Dw.readsAll cH KX ds _ its ha rv;exact⟨_,ReadsW.tuple ho hc hd hr⟩
 |.float _,_,_,x,_=>by cases x
 |.dict _,_,_,x,_=>by cases x
 |.bytearray _,_,_,x,_=>by cases x
 |.set _,_,_,x,_=>by cases x
 |.frozenset _,_,_,x,_=>by cases x
 |.obj _ _,_,_,x,_=>by cases x
def Dw.readsAll(cH:lW P w H h)(KX:K.In h):∀(ds:List WData)(vs:List V)(us:List Value),nG K H vs ds->Vals vs us->∃as,ReadsAllW R cl h us ds as
 |[],_,_,x,r=>by
  cases x;cases r;exact⟨_,ReadsAllW.nil⟩
 |d::ds,_,_,x,r=>by
  cases x with
  |cons h1 h2=>
   cases r with
   |cons r1 r2=>
    obtain⟨as,q1⟩:=Dw.reads cH KX d _ _ h1 r1;obtain⟨bs,q2⟩:=Dw.readsAll cH KX ds _ _ h2 r2;exact⟨_,ReadsAllW.cons q1 q2⟩
end
end
mutual
def DY:WData->Bool
 |.none=>true
 |.bool _=>true
 |.int _=>true
 |.str _=>true
 |.bytes _=>true
 |.list xs=>vK xs
 |.tuple xs=>vK xs
 |_=>false
def vK:List WData->Bool
 |[]=>true
 |x::r=>DY x&&vK r
end
def B0{α:Type}{f:α->WData}(h:∀a,DY (f a)=true):∀l:List α,vK (l.map f)=true
 |[]=>rfl
 |x::r=>by
  show(DY (f x)&&vK (r.map f))=true;rw[h x,B0 h r]<;>rfl
def p7:∀(c:Codec)(a:c.denote),DY (c.enc a)=true
 |.unit,_=>rfl
 |.bool,_=>rfl
 |.int _ _,_=>rfl
 |.nat _ _,_=>rfl
 |.u8,_=>rfl
 |.bytes _ _,_=>rfl
 |.text _ _ _ _,_=>rfl
 |.list _ _ c,a=>B0 (λx=>p7 c x) a
 |.pair c d,a=>by
  show(DY (c.enc a.1)&&(DY (d.enc a.2)&&true))=true;rw[p7 c a.1,p7 d a.2]<;>rfl
 |.triple c d e,a=>by
  show(DY (c.enc a.1)&&(DY (d.enc a.2.1)&&(DY (e.enc a.2.2)&&true)))=true;rw[p7 c a.1,p7 d a.2.1,p7 e a.2.2]<;>rfl
 |.option c,none=>rfl
 |.option c,some x=>p7 c x
def zn:∀(cs:List Codec)(a:Codec.denoteAll cs),vK (Codec.encAll cs a)=true
 |[],_=>rfl
 |c::cs,a=>by
  show(DY (c.enc a.1)&&vK (Codec.encAll cs a.2))=true;rw[p7 c a.1,zn cs a.2]<;>rfl
def rT:∀{xs:List WData}{d:WData},d∈xs->d.weight<=WData.weightAll xs
 |[],d,h=>absurd h (by simp)
 |x::r,d,h=>by
  show d.weight<=x.weight+1+WData.weightAll r;rcases Po.mp h with e|m
  ·rw[e]
   omega
  ·have z:=rT m
   omega
def toV:Value->V
 |.none=>.eC
 |.bool b=>.bl b
 |.int i _=>.int i
 |.str x _=>.str x
 |.bytes b _=>.Bc b
 |.ref a=>.ref a
 |_=>.eC
def Ft(A:List Addr):Value->Prop
 |.none=>True
 |.bool _=>True
 |.int _ _=>True
 |.str _ _=>True
 |.bytes _ _=>True
 |.ref a=>a∈A
 |_=>False
def Ft.mono{A B:List Addr}(h:∀a∈A,a∈B):∀{u:Value},Ft A u->Ft B u:=λ{u} x=>by
 cases u with
 |ref a=>exact h a x
 |none=>trivial
 |bool b=>trivial
 |int i t=>trivial
 |str s t=>trivial
 |bytes b t=>trivial
 |_=>exact False.elim x
def Hy{A:List Addr}{u:Value}(x:Ft A u):RelV (toV u) u:=by
 cases u with
 |ref a=>rfl
 |none=>rfl
 |bool b=>rfl
 |int i t=>exact⟨t,rfl⟩
 |str s t=>exact⟨t,rfl⟩
 |bytes b t=>exact⟨t,rfl⟩
 |_=>exact False.elim x
def mV{A:List Addr}:∀{vs:List Value},(∀u∈vs,Ft A u)->Vals (vs.map toV) vs
 |[],_=>.nil
 |u::r,h=>.cons (Hy (h u (O8 ..))) (mV λx hx=>h x (Pa _ hx))
def oA(h:Heap)(A:List Addr)(a:Addr):Prop:=∃vs:List Value,vs.length<=sizeLine/\(∀u∈vs,Ft A u)/\
 (h.get? a=some {cls:= .type "list",data:= .seq vs.toArray}\/h.get? a=some {cls:= .type "tuple",data:= .seq vs.toArray})
def oA.mono{h:Heap}{A B:List Addr}{a:Addr}(k:∀a∈A,a∈B)(x:oA h A a):oA h B a:=by
 obtain⟨vs,h1,h2,h3⟩:=x;exact⟨vs,h1,λu hu=>(h2 u hu).mono k,h3⟩
def l9{P:Params}{h:Heap}:∀{vs:List Value}{ds:List WData},WellAll P h vs ds->vs.length=ds.length
 |_,_,.nil=>rfl
 |_,_,.cons _ b=>by
  show _+1=_+1;rw[l9 b]
def zE{P:Params}{h:Heap}{v:Value}{ds:List WData}(x:Well P h v (.list ds)):∃(a:Addr)(vs:List Value),v=.ref a/\h.get? a=some {cls:= .type "list",data:= .seq vs.toArray}/\WellAll P h vs ds:=by
 cases x with
 |list ho hall=>exact⟨_,_,rfl,ho,hall⟩
def xQ{P:Params}{h:Heap}{v:Value}{ds:List WData}(x:Well P h v (.tuple ds)):∃(a:Addr)(vs:List Value),v=.ref a/\h.get? a=some {cls:= .type "tuple",data:= .seq vs.toArray}/\WellAll P h vs ds:=by
 cases x with
 |tuple ho hall=>exact⟨_,_,rfl,ho,hall⟩
def z8{P:Params}{h:Heap}{us:List Value}{d:WData}{ds:List WData}(x:WellAll P h us (d::ds)):∃(v:Value)(vs:List Value),us=v::vs/\Well P h v d/\WellAll P h vs ds:=by
 cases x with
 |cons a b=>exact⟨_,_,rfl,a,b⟩
def DX{n:Nat}(h:n<=1048576):n<=sizeLine:=PD h (by decide)
section
variable{P:Params}{h:Heap}
mutual
def Hk:∀(d:WData)(v:Value),Well P h v d->DY d=true->d.weight<=1048576->∃A:List Addr,Ft A v/\∀a∈A,oA h A a
 |.none,_,x,_,_=>by
  cases x;exact⟨[],trivial,λa m=>absurd m (by simp)⟩
 |.bool b,_,x,_,_=>by
  cases x;exact⟨[],trivial,λa m=>absurd m (by simp)⟩
 |.int i,_,x,_,_=>by
  cases x;exact⟨[],trivial,λa m=>absurd m (by simp)⟩
 |.str s,_,x,_,_=>by
  cases x;exact⟨[],trivial,λa m=>absurd m (by simp)⟩
 |.bytes b,_,x,_,_=>by
  cases x;exact⟨[],trivial,λa m=>absurd m (by simp)⟩
 |.list ds,_,x,p,z=>by
  obtain⟨a,vs,rfl,ho,hall⟩:=zE x;have z2:WData.weightAll ds<=1048576:=z;obtain⟨A,h1,h2⟩:=sZ ds _ hall p λd hd=>PD (rT hd) z2;have k:∀b∈A,b∈a::A:=λb hb=>Pa _ hb;refine⟨a::A,O8 ..,λb hb=>?_⟩;rcases Po.mp hb with e|m
  ·rw[e]
   exact⟨vs,DX (by rw[l9 hall];exact PD (PySem.W.length_le_weightAllW ds) z2),λu hu=>(h1 u hu).mono k,.inl ho⟩
  ·exact(h2 b m).mono k
 |.tuple ds,_,x,p,z=>by
  obtain⟨a,vs,rfl,ho,hall⟩:=xQ x;have z2:WData.weightAll ds<=1048576:=z;obtain⟨A,h1,h2⟩:=sZ ds _ hall p λd hd=>PD (rT hd) z2;have k:∀b∈A,b∈a::A:=λb hb=>Pa _ hb;refine⟨a::A,O8 ..,λb hb=>?_⟩;rcases Po.mp hb with e|m
  ·rw[e]
   exact⟨vs,DX (by rw[l9 hall];exact PD (PySem.W.length_le_weightAllW ds) z2),λu hu=>(h1 u hu).mono k,.inr ho⟩
  ·exact(h2 b m).mono k
 |.float _,_,_,p,_=>Bool.noConfusion (show false=true from p)
 |.dict _,_,_,p,_=>Bool.noConfusion (show false=true from p)
 |.bytearray _,_,_,p,_=>Bool.noConfusion (show false=true from p)
 |.set _,_,_,p,_=>Bool.noConfusion (show false=true from p)
 |.frozenset _,_,_,p,_=>Bool.noConfusion (show false=true from p)
 |.obj _ _,_,_,p,_=>Bool.noConfusion (show false=true from p)
def sZ:∀(ds:List WData)(vs:List Value),WellAll P h vs ds->vK ds=true->(∀d∈ds,d.weight<=1048576)->∃A:List Addr,(∀u∈vs,Ft A u)/\∀a∈A,oA h A a
 |[],_,x,_,_=>by
  cases x;exact⟨[],λu m=>absurd m (by simp),λa m=>absurd m (by simp)⟩
 |d::ds,_,x,p,z=>by
  obtain⟨v,vs,rfl,x1,x2⟩:=z8 x;have q:DY d=true/\vK ds=true:=Bool.and_eq_true_iff.mp p;obtain⟨A,a1,a2⟩:=Hk d v x1 q.1 (z d (O8 ..));obtain⟨B,b1,b2⟩:=sZ ds vs x2 q.2 λe he=>z e (Pa _ he);have kA:∀b∈A,b∈A++B:=λb hb=>Pk.mpr (.inl hb);have kB:∀b∈B,b∈A++B:=λb hb=>Pk.mpr (.inr hb);refine⟨A++B,λu hu=>?_,λb hb=>?_⟩
  ·rcases Po.mp hu with e|m
   ·rw[e]
    exact a1.mono kA
   ·exact(b1 u m).mono kB
  ·rcases Pk.mp hb with m|m
   ·exact(a2 b m).mono kA
   ·exact(b2 b m).mono kB
end
end
def IL(o:Obj):Option HO:=match o.data with
 |.seq vs _=>if(o.cls==Value.type "list")=true then some (.wE o (.lst (vs.toList.map toV)))else some (.wE o (.tup (vs.toList.map toV)))
 |_=>none
def or(K:OX)(h:Heap)(A:List Addr):Hp:=λb=>if b∈A then(if(K.lookup b).isNone=true then(h.get? b).bind IL else none)else none
def Ci(H:Hp):Prop:=∀b,H b=none\/∃o u,H b=some (.wE o u)
def BH(vs:List Value):IL {cls:= .type "list",data:= .seq vs.toArray}=some (.wE {cls:= .type "list",data:= .seq vs.toArray} (.lst (vs.map toV))):=by
 show(if(Value.type "list"==Value.type "list")=true then some (HO.wE {cls:= .type "list",data:= .seq vs.toArray} (.lst (vs.toArray.toList.map toV)))else some (HO.wE {cls:= .type "list",data:= .seq vs.toArray} (.tup (vs.toArray.toList.map toV))))=_;rw[OW (beq_self_eq_true _)]
def Bl(vs:List Value):IL {cls:= .type "tuple",data:= .seq vs.toArray}=some (.wE {cls:= .type "tuple",data:= .seq vs.toArray} (.tup (vs.map toV))):=by
 show(if(Value.type "tuple"==Value.type "list")=true then some (HO.wE {cls:= .type "tuple",data:= .seq vs.toArray} (.lst (vs.toArray.toList.map toV)))else some (HO.wE {cls:= .type "tuple",data:= .seq vs.toArray} (.tup (vs.toArray.toList.map toV))))=_;rw[OV (by decide)]
section
variable{P:PN}{w:World}{K:OX}{h:Heap}{A:List Addr}
def we{b:Addr}{o:Obj}(hb:b∈A)(hk:K.lookup b=none)(e:h.get? b=some o):or K h A b=IL o:=by
 unfold or;rw[OW hb,hk,OW (show(none:Option Obj).isNone=true from rfl),e]<;>rfl
def HR{b:Addr}{u:HO}(q:or K h A b=some u):b∈A/\K.lookup b=none:=by
 unfold or at q
 by_cases hb:b∈A
 ·rw[OW hb]at q
  cases hk:K.lookup b with
  |none=>exact⟨hb,rfl⟩
  |some o=>
   rw[hk,OV (by simp)]at q;cases q
 ·rw[OV hb]at q
  cases q
def v8(ar:∀a∈A,oA h A a){b:Addr}{u:HO}(q:or K h A b=some u):K.lookup b=none/\∃vs:List Value,vs.length<=sizeLine/\(∀u∈vs,Ft A u)/\
  ((h.get? b=some {cls:= .type "list",data:= .seq vs.toArray}/\u=.wE {cls:= .type "list",data:= .seq vs.toArray} (.lst (vs.map toV)))\/
   (h.get? b=some {cls:= .type "tuple",data:= .seq vs.toArray}/\u=.wE {cls:= .type "tuple",data:= .seq vs.toArray} (.tup (vs.map toV)))):=by
 obtain⟨hb,hk⟩:=HR q;obtain⟨vs,h1,h2,h3⟩:=ar b hb;refine⟨hk,vs,h1,h2,?_⟩;rcases h3 with e|e
 ·rw[we hb hk e,BH]at q
  exact .inl ⟨e,(Pu q).symm⟩
 ·rw[we hb hk e,Bl]at q
  exact .inr ⟨e,(Pu q).symm⟩
def Fu(ar:∀a∈A,oA h A a):Ci (or K h A):=λb=>by
 cases q:or K h A b with
 |none=>exact .inl rfl
 |some u=>
  obtain⟨_,vs,_,_,⟨_,e⟩|⟨_,e⟩⟩:=v8 ar q
  ·exact .inr ⟨_,_,by rw[e]⟩
  ·exact .inr ⟨_,_,by rw[e]⟩
def Iw(ar:∀a∈A,oA h A a):lW P w (or K h A) h:=λb u q=>by
 obtain⟨_,vs,h1,h2,⟨e,rfl⟩|⟨e,rfl⟩⟩:=v8 ar q
 ·exact⟨e,by rw[OU];exact h1,vs,_,mV h2,e⟩
 ·exact⟨e,by rw[OU];exact h1,vs,mV h2,_,e,rfl,_,rfl⟩
def vP{c c':Value}{vs us:List Value}(e:(some {cls:=c,data:= .seq vs.toArray}:Option Obj)=some {cls:=c',data:= .seq us.toArray}):c=c'/\vs=us:=by
 have e1:=Pu e;have e2:c=c':=P_ Obj.cls e1;have e3:Data.seq vs.toArray=Data.seq us.toArray:=P_ Obj.data e1;injection e3 with e4;refine⟨e2,?_⟩;have e5:=P_ Array.toList e4;simpa using e5
def NX(KX:K.In h)(ar:∀a∈A,oA h A a){a:Addr}{vs:List Value}(ha:a∈A)(e:h.get? a=some {cls:= .type "list",data:= .seq vs.toArray}):(∀u∈vs,Ft A u)/\a0 K (or K h A) a (vs.map toV):=by
 obtain⟨us,h1,h2,h3⟩:=ar a ha;have hu:us=vs:=by
  rcases h3 with q|q
  ·rw[e]at q
   exact(vP q).2.symm
  ·rw[e]at q
   exact absurd (Value.type.inj (vP q).1) (by decide)
 subst hu;refine⟨h2,?_⟩;cases hk:K.lookup a with
 |none=>exact .inl (.inr ⟨_,by rw[we ha hk e,BH]⟩)
 |some o=>
  have e2:=KX a o hk;rw[e]at e2;obtain rfl:=Pu e2;exact .inr ⟨_,us.toArray,_,hk,rfl,rfl,rfl,by rw[Py];exact h1,by simpa using mV h2⟩
def N6(KX:K.In h)(ar:∀a∈A,oA h A a){a:Addr}{vs:List Value}(ha:a∈A)(e:h.get? a=some {cls:= .type "tuple",data:= .seq vs.toArray}):(∀u∈vs,Ft A u)/\iV K (or K h A) a (vs.map toV):=by
 obtain⟨us,h1,h2,h3⟩:=ar a ha;have hu:us=vs:=by
  rcases h3 with q|q
  ·rw[e]at q
   exact absurd (Value.type.inj (vP q).1) (by decide)
  ·rw[e]at q
   exact(vP q).2.symm
 subst hu;refine⟨h2,?_⟩;cases hk:K.lookup a with
 |none=>exact .inl (.inr ⟨_,by rw[we ha hk e,Bl]⟩)
 |some o=>
  have e2:=KX a o hk;rw[e]at e2;obtain rfl:=Pu e2;exact .inr ⟨_,us.toArray,_,hk,rfl,rfl,by rw[Py];exact h1,by simpa using mV h2⟩
mutual
def Ln{Pm:Params}(KX:K.In h)(ar:∀a∈A,oA h A a):∀(d:WData)(v:Value),Well Pm h v d->DY d=true->Ft A v->Dw K (or K h A) (toV v) d
 |.none,_,x,_,_=>by
  cases x;exact .eC
 |.bool b,_,x,_,_=>by
  cases x;exact .bl b
 |.int i,_,x,_,_=>by
  cases x;exact .int i
 |.str s,_,x,_,_=>by
  cases x;exact .str s
 |.bytes b,_,x,_,_=>by
  cases x;have z:=Dw.Bc (K:=K) (H:=or K h A) b.toArray;exact z
 |.list ds,_,x,p,hu=>by
  obtain⟨a,vs,rfl,ho,hall⟩:=zE x;obtain⟨h2,hs⟩:=NX KX ar hu ho;exact .lst hs (AJ KX ar ds _ hall p h2)
 |.tuple ds,_,x,p,hu=>by
  obtain⟨a,vs,rfl,ho,hall⟩:=xQ x;obtain⟨h2,hs⟩:=N6 KX ar hu ho;exact .tup hs (AJ KX ar ds _ hall p h2)
 |.float _,_,_,p,_=>Bool.noConfusion (show false=true from p)
 |.dict _,_,_,p,_=>Bool.noConfusion (show false=true from p)
 |.bytearray _,_,_,p,_=>Bool.noConfusion (show false=true from p)
 |.set _,_,_,p,_=>Bool.noConfusion (show false=true from p)
 |.frozenset _,_,_,p,_=>Bool.noConfusion (show false=true from p)
 |.obj _ _,_,_,p,_=>Bool.noConfusion (show false=true from p)
def AJ{Pm:Params}(KX:K.In h)(ar:∀a∈A,oA h A a):∀(ds:List WData)(vs:List Value),WellAll Pm h vs ds->vK ds=true->(∀u∈vs,Ft A u)->nG K (or K h A) (vs.map toV) ds
 |[],_,x,_,_=>by
  cases x;exact .nil
 |d::ds,_,x,p,hu=>by
  obtain⟨v,vs,rfl,x1,x2⟩:=z8 x;have q:DY d=true/\vK ds=true:=Bool.and_eq_true_iff.mp p;exact .cons (Ln KX ar d v x1 q.1 (hu _ (O8 ..))) (AJ KX ar ds vs x2 q.2 λu m=>hu u (Pa _ m))
end
end
def Fs{P:PN}{w:World}{K:OX}{mg mb:Str->Option Value}{CX:Dg}{k:Nat}{fa:Addr}{fd:O5}{ps:List Str}{sp:Sp}{s₁:Shared}{vals:List Value}{ds:List WData}{R:PySem.W.WRecords}{cl:Str->Option Addr}{d0:WData}
  (KX:K.In s₁.heap)(hns:s₁.heap.Ns mainGlobals mg)(hb:s₁.heap.Ns builtinsNs mb)(hbb:∀x:Str,x≠"__name__"->mb x=bootBuiltins x)(hlim:s₁.heap.NoLimit)(hg:s₁.gens=#[])
  (hwl:WellAll w.params s₁.heap vals ds)(hpl:vK ds=true)(hwt:∀d∈ds,d.weight<=1048576)(hr:gf k callerA)
  (F:∀base:Heap,K.In base->base.Ns mainGlobals mg->a4 P w K mg base CX k fa fd ps sp)(hbind:∀(s:Shared)(us:List Value),us.length=ps.length->BindsTo s fd ⟨us,[]⟩ (ps.zip us))(hlen:ds.length=ps.length)
  (hsp:∀(H:Hp)(xs:List V),Ci H->nG K H xs ds->sp xs H (λv H'=>Dw K H' v d0) λ_ _ _=>False)
  (hCX:∀H e s',CX [] H s₁ (λ_ _ _=>False) e s'->False):
  codeAny (model P w) callerA (.call (.ref fa) ⟨vals,[]⟩) (λr s'=>∃u as,r=.ok (.ret u)/\ReadsW R cl s'.heap u d0 as/\OldK s₁.heap s'.heap/\s'.os=s₁.os/\AllBare s'.gens) s₁:=by
 obtain⟨A,ho,ar⟩:=sZ ds vals hwl hpl hwt;have hO:Ci (or K s₁.heap A):=Fu ar;have cH:lW P w (or K s₁.heap A) s₁.heap:=Iw ar;have hS:=AJ KX ar ds vals hwl hpl ho;have hV:=mV ho;have hK:∀b u,or K s₁.heap A b=some u->K.lookup b=none:=λb u q=>(v8 ar q).1;have noA:∀{b:Addr}{o:Obj}{es:Array DictEntry}{ep:Nat},s₁.heap.get? b=some o->o.data=.dict es ep->or K s₁.heap A b=none:=λ{b o es ep} e d=>by
  cases q:or K s₁.heap A b with
  |none=>rfl
  |some u=>
   obtain⟨_,vs,_,_,⟨e2,_⟩|⟨e2,_⟩⟩:=v8 ar q
   ·rw[e2]at e
    cases e;have d':Data.seq vs.toArray _=Data.dict es ep:=d;cases d'
   ·rw[e2]at e
    cases e;have d':Data.seq vs.toArray _=Data.dict es ep:=d;cases d'
 generalize or K s₁.heap A=H at hO cH hS hK noA;have base_of:∀{b:Addr}{o:Obj},s₁.heap.get? b=some o->H b=none->(Ay s₁.heap H).get? b=some o:=λe n=>F6 e n;have nsK:∀{b:Addr}{m:Str->Option Value},s₁.heap.Ns b m->(Ay s₁.heap H).Ns b m:=λ{b m}⟨o,es,ep,e,d,r⟩=>⟨o,es,ep,base_of e (noA e d),d,r⟩;have nK:∀b o,K.lookup b=some o->H b=none:=λb o e=>by
  cases q:H b with
  |none=>rfl
  |some u=>
   rw[hK b u q]at e;cases e
 have hKb:K.In (Ay s₁.heap H):=λb o e=>base_of (KX b o e) (nK b o e);have hM:Mod K mg (Ay s₁.heap H):=⟨hKb,nsK hns,⟨mb,nsK hb,hbb⟩,let⟨mc,h1,h2⟩:=hlim;⟨mc,nsK h1,h2⟩⟩;have e0:B2 P w K mg (Ay s₁.heap H) callerA [] s₁ H:=⟨rfl,hM,λb o e=>Jq e,Nat.le_of_eq (EZ _ _),trivial,λb hb=>absurd (show b∈([]:List Addr)from hb) (by simp),cH,.of_eq hg⟩;have hl:vals.length=ps.length:=by rw[l9 hwl];exact hlen
 refine codeAny_mono ((F _ hKb (nsK hns)).run callerA [] s₁ H ⟨vals,[]⟩ vals (vals.map toV) _ _ hr e0 (hbind s₁ vals hl) hV (hsp H _ hO hS)) λr s' x=>?_;cases r with
 |error e=>exact(hCX H e s' x).elim
 |ok fl=>
  cases fl with
  |next=>exact False.elim x
  |brk=>exact False.elim x
  |cont=>exact False.elim x
  |ret u=>
   obtain⟨v,H',os,bare,un,hok',r',q⟩:=x;have kept:∀b o,s₁.heap.get? b=some o->s'.heap.get? b=some o:=λb o e=>by
    cases q2:H b with
    |none=>exact un.keep b o e q2 (by intro z;exact absurd (show b∈([]:List Addr)from z) (by simp)) (by simp)
    |some u2=>
     rcases hO b with z|⟨ob,u3,z⟩
     ·rw[q2]at z
      cases z
     ·have z2:=un.qG b ob _ z
      obtain⟨e1,_⟩:=cH b _ z;obtain⟨e2,_⟩:=hok' b _ z2;rw[e]at e1;cases e1;exact e2
   have KX':K.In s'.heap:=λb o e=>kept b o (KX b o e);obtain⟨as,hrd⟩:=Dw.reads (R:=R) (cl:=cl) hok' KX' d0 v u q r';exact⟨u,as,rfl,hrd,OldK.of_keep kept,os,bare⟩
def xT{ds:List WData}(h:WData.layableAll ds=true):∀d∈ds,d.weight<=1048576:=λd hd=>
 (PySem.W.layableW_iff.mp (QI.mp h d hd)).2.2
def xo:∀(cs:List Codec)(a:Codec.denoteAll cs),(Codec.encAll cs a).length=cs.length
 |[],_=>rfl
 |c::cs,a=>by
  show(Codec.encAll cs a.2).length+1=cs.length+1;rw[xo cs a.2]
def EL{r:OpenSpec}{k:Nat}{q:PN}{loose:List Str}{XP:(Str->Option Value)->Heap->Prop}{YP:World->Heap->Prop}{d:DefRec}{K:Params->OX}{CX:World->Dg}{ps:List Str}{sp:World->Sp}
  (hwell:r.wellSaid=true)(hdf:d.params.defaults=[])(hlen:r.args.length=ps.length)(hr:gf k callerA)
  (hY:∀(w:World)(h:Heap),YP w h->(K w.params).In h)
  (F:∀(w:World)(mg:Str->Option Value)(fa:Addr)(h:Heap),YP w h->(K w.params).In h->h.Ns mainGlobals mg->mg d.name=some (.ref fa)->
   ∃fd:O5,(∀(s:Shared)(us:List Value),us.length=ps.length->BindsTo s fd ⟨us,[]⟩ (ps.zip us))/\
    ∀base:Heap,(K w.params).In base->base.Ns mainGlobals mg->a4 r.prog w (K w.params) mg base (CX w) k fa fd ps (sp w))
  (hsp:∀(w:World)(H:Hp)(xs:List V)(a:Codec.denoteAll r.args),Ci H->Codec.withinAll r.args a=true->Codec.app r.args r.asked a=true->nG (K w.params) H xs (Codec.encAll r.args a)->
   sp w xs H (λv H'=>Dw (K w.params) H' v (r.ret.enc (Codec.app r.args r.f a))) λ_ _ _=>False)
  (hCX:∀(w:World)(H:Hp)(s:Shared)(e:Value)(s':Shared),CX w [] H s (λ_ _ _=>False) e s'->False):
  PySem.W.WalkOS q loose XP YP r d [] (λf vs=>PySem.call f vs):=by
 intro w vI s₁ mg mb G Y fa o pm cd doc dV kV ho hd hcd hD hmg hg args vals as hpre hlay hrd hwl hlo;obtain⟨a,e1,e2⟩:=PySem.W.os_pre_some hpre;obtain⟨e3,hwi⟩:=Codec.encAll_of_decAll r.args args a e1;subst e3;have KX:=hY w _ Y;obtain⟨fd,hb,hF⟩:=F w mg fa _ Y KX G.T.g hmg;refine PySem.W.enter_call (codeAny_mono (Fs (R:=[]) (cl:=classAt vI.heap) (d0:=r.ret.enc (Codec.app r.args r.f a)) KX G.T.g G.T.b G.T.builtins G.T.nolimit hg hwl (zn _ _) (xT hlay) hr hF hb (by rw[xo];exact hlen)
  (λH xs hO hS=>hsp w H xs a hO hwi e2 hS) λH e s'=>hCX w H s₁ e s') λr' s' hq=>?_)
 obtain⟨u,as',rfl,h1,h2,h3,h4⟩:=hq;exact⟨.inl ⟨u,_,as',rfl,λ_=>rfl,h1,(OpenSpec.post_iff hwell hwi _ _).mpr rfl,λz=>Bool.noConfusion (show false=true from z)⟩,h2,h3,h4⟩
end L2
end
end
namespace Kh
open PySem PySem.Spec PyProof.Rows L2
def top(i:Nat):Stmt:=PySem.Challenge.pw_kinghalldesk_s01_answers.main.body.getD i (.Pass ⟨0,0,0,0⟩)
structure Fn(K:OX)(mg:Str->Option Value)(x nm:Str)(st:Stmt)(f:Addr)(fd:O5)(ps:List Str):Prop where
 m:mg x=some (.ref f)
 F:Cp K nm nm st f fd
 b:Binds K fd ps []
structure Mt(K:OX)(C:Addr)(m qual:Str)(st:Stmt)(f:Addr)(fd:O5)(ps:List Str):Prop where
 at_:Meth K C m f
 F:Cp K m qual st f fd
 b:Binds K fd ps []
structure Fi(K:OX)(m qual:Str)(st:Stmt)(f:Addr)(fd:O5)(ps:List Str):Prop where
 F:Cp K m qual st f fd
 b:Binds K fd ps []
structure Kl(K:OX)(mg:Str->Option Value)(x:Str)(C:Addr):Prop where
 cl:GO K C
 m:mg x=some (.ref C)
structure Xl(K:OX)(mg:Str->Option Value)(x:Str)(C:Addr):Prop where
 cl:nu K C
 HI:Gz K C
 m:mg x=some (.ref C)
structure Ad where
 iw:Addr
 uM:O5
 fU:Addr
 uW:O5
 ca:Addr
 m_:O5
 gV:Addr
 rB:O5
 nM:Addr
 zd:O5
 jE:Addr
 ve:O5
 fE:Addr
 q0:O5
 gi:Addr
 pF:O5
 jj:Addr
 w9:O5
 lB:Addr
 xx:O5
 iX:Addr
 sJ:O5
 s_:Addr
 DZ:O5
 kL:Addr
 zI:O5
 ln:Addr
 yc:O5
 kT:Addr
 yb:O5
 i9:Addr
 sQ:O5
 eI:Addr
 pC:O5
 jt:Addr
 wN:O5
 ii:Addr
 x_:O5
 jw:Addr
 yt:O5
 gc:Addr
 pJ:O5
 gI:Addr
 so:O5
 ja:Addr
 tL:O5
 iZ:Addr
 sw:O5
 ju:Addr
 wU:O5
 jI:Addr
 uS:O5
 lA:Addr
 yk:O5
 dE:Addr
 ls:O5
 qa:Addr
 Bt:O5
 jO:Addr
 vc:O5
 ly:Addr
 yr:O5
 iA:Addr
 vj:O5
 gM:Addr
 sT:O5
 gn:Addr
 u9:O5
 gG:Addr
 sA:O5
 fv:Addr
 oK:O5
 jN:Addr
 uC:O5
 jQ:Addr
 uB:O5
 iD:Addr
 va:O5
 iP:Addr
 sR:O5
 ir:Addr
 uA:O5
 js:Addr
 xJ:O5
 gh:Addr
 oW:O5
 gZ:Addr
 qN:O5
 l_:Addr
 DF:O5
 jb:Addr
 r8:O5
 eu:Addr
 lZ:O5
 cr:Addr
 jc:O5
 iU:Addr
 sH:O5
 b7:Addr
 sD:O5
 gj:Addr
 o4:O5
 gk:Addr
 oU:O5
 gU:Addr
 qP:O5
 fW:Addr
 qb:O5
 gy:Addr
 sN:O5
 gW:Addr
 qO:O5
 fR:Addr
 pW:O5
 gX:Addr
 qT:O5
 gY:Addr
 rh:O5
 g7:Addr
 rA:O5
 dv:Addr
 lR:O5
 kD:Addr
 qy:O5
 bM:Addr
 b6:Addr
 j7:O5
 br:Addr
 eN:Addr
 uP:O5
 fC:Addr
 rg:O5
 aY:Addr
 eA:Addr
 rk:O5
 dO:Addr
 oy:O5
 dh:Addr
 rj:O5
 bU:Addr
 mz:O5
 aV:Addr
 my:O5
 aH:Addr
 ou:O5
 a7:Addr
 lY:O5
 cC:Addr
 kj:O5
 bv:Addr
 di:Addr
 nJ:O5
 cz:Addr
 iN:O5
 fj:Addr
 oF:O5
 aO:Addr
 cW:Addr
 mo:O5
 ba:Addr
 gK:Addr
 tR:O5
 dQ:Addr
 oE:O5
 fb:Addr
 iz:Addr
 uU:O5
 cM:Addr
 kZ:O5
 bJ:Addr
 lJ:O5
 aS:Addr
 fF:Addr
 q_:O5
 eG:Addr
 mX:O5
 bO:Addr
 jH:O5
 dZ:Addr
 l6:O5
 bY:Addr
 io:Addr
 uL:O5
 gu:Addr
 fB:Addr
 fH:Addr
 e_:Addr
 d7:Addr
 sO:O5
 bT:Addr
 cK:Addr
 mY:O5
 bK:Addr
 cB:Addr
 kh:O5
 bF:Addr
 bg:Addr
 mF:O5
 kI:Addr
 Mi:Tok
 JC:Tok
 Hw:Tok
 Gr:Tok
 Lr:Tok
 Im:Tok
 Lb:Tok
 KQ:Tok
 Ly:Tok
 qi:Addr
 yL:Tok
 yo:Tok
 FU:Tok
 yO:Tok
 AG:Tok
 Fw:Tok
 EK:Tok
 xN:Tok
 vN:Tok
 rG:Addr
 lG:Addr
 nY:Addr
structure Tx(K:OX)(mg:Str->Option Value)(a:Ad):Prop where
 iw:Fn K mg "king_cell" "king_cell" (top 12) a.iw a.uM ["pieces"]
 fU:Fn K mg "may_stand" "may_stand" (top 13) a.fU a.uW ["kind","piece"]
 ca:Fn K mg "cells_downward" "cells_downward" (top 14) a.ca a.m_ ["wide","high"]
 gV:Fn K mg "cell_beside" "cell_beside" (top 15) a.gV a.rB ["wide","high","cell","right","up"]
 nM:Fn K mg "ways_of" "ways_of" (top 16) a.nM a.zd ["wide","high"]
 jE:Fn K mg "goes_over" "goes_over" (top 20) a.jE a.ve ["rules","pieces","piece","cell"]
 fE:Fn K mg "stops_along" "stops_along" (top 21) a.fE a.q0 ["rules","pieces","start","way"]
 gi:Fn K mg "targets_from" "targets_from" (top 22) a.gi a.pF ["rules","pieces","start"]
 jj:Fn K mg "cells_of" "cells_of" (top 23) a.jj a.w9 ["rules","pieces","turn"]
 lB:Fn K mg "can_move" "can_move" (top 24) a.lB a.xx ["rules","pieces","turn"]
 iX:Fn K mg "is_against" "is_against" (top 25) a.iX a.sJ ["rules","pieces","cell","piece"]
 s_:Fn K mg "helps" "helps" (top 26) a.s_ a.DZ ["rules","piece","side"]
 kL:Fn K mg "is_held" "is_held" (top 27) a.kL a.zI ["rules","pieces","cell","victim","side"]
 ln:Fn K mg "is_taken" "is_taken" (top 28) a.ln a.yc ["rules","pieces","cell","way","side"]
 kT:Fn K mg "taken_by" "taken_by" (top 29) a.kT a.yb ["rules","pieces","target"]
 i9:Fn K mg "is_on_goal" "is_on_goal" (top 30) a.i9 a.sQ ["rules","king"]
 eI:Fn K mg "over_by_king" "over_by_king" (top 31) a.eI a.pC ["rules","position"]
 jt:Fn K mg "how_over" "how_over" (top 32) a.jt a.wN ["rules","position"]
 ii:Fn K mg "steps_of" "steps_of" (top 33) a.ii a.x_ ["rules","position"]
 jw:Fn K mg "moves_of" "moves_of" (top 34) a.jw a.yt ["rules","position"]
 gc:Fn K mg "move_between" "move_between" (top 35) a.gc a.pJ ["rules","position","start","target"]
 gI:Fn K mg "last_steps" "last_steps" (top 41) a.gI a.so ["rules","position"]
 ja:Fn K mg "one_longer" "one_longer" (top 42) a.ja a.tL ["rules","rows","most"]
 iZ:Fn K mg "count_rows" "count_rows" (top 43) a.iZ a.sw ["rules","position","longest","most"]
 ju:Fn K mg "as_bytes" "as_bytes" (top 49) a.ju a.wU ["text"]
 jI:Fn K mg "read_many" "read_many" (top 55) a.jI a.uS ["reader","left"]
 lA:Fn K mg "read_row" "read_row" (top 56) a.lA a.yk ["reader","wide","draft"]
 dE:Fn K mg "read_draft_lines" "read_draft" (top 57) a.dE a.ls ["wide","high","reader"]
 qa:Fn K mg "settle" "settle" (top 59) a.qa a.Bt ["rules","draft"]
 jO:Fn K mg "read_line" "read_line" (top 60) a.jO a.vc ["rules","line"]
 ly:Fn K mg "row_text" "row_text" (top 61) a.ly a.yr ["pieces"]
 iA:Fn K mg "free_text" "free_text" (top 62) a.iA a.vj ["free"]
 gM:Fn K mg "write_line" "write_line" (top 63) a.gM a.sT ["rules","position"]
 gn:Fn K mg "cell_name" "cell_name" (top 67) a.gn a.u9 ["cell"]
 gG:Fn K mg "write_move" "write_move" (top 68) a.gG a.sA ["move"]
 fv:Fn K mg "shared_length" "shared_length" (top 69) a.fv a.oK ["line","other"]
 jN:Fn K mg "read_move" "read_move" (top 70) a.jN a.uC ["rules","position","given"]
 jQ:Fn K mg "skip_name" "skip_name" (top 79) a.jQ a.uB ["reader"]
 iD:Fn K mg "read_size" "read_size" (top 80) a.iD a.va ["reader"]
 iP:Fn K mg "read_limit" "read_limit" (top 81) a.iP a.sR ["reader"]
 ir:Fn K mg "read_rows" "read_rows" (top 82) a.ir a.uA ["reader","wide","high","signs"]
 js:Fn K mg "laid_out" "laid_out" (top 83) a.js a.xJ ["draft","told","elsewhere"]
 gh:Fn K mg "check_ground" "check_ground" (top 84) a.gh a.oW ["draft"]
 gZ:Fn K mg "check_start" "check_start" (top 85) a.gZ a.qN ["draft"]
 l_:Fn K mg "holds" "holds" (top 86) a.l_ a.DF ["told","sought"]
 jb:Fn K mg "check_goal" "check_goal" (top 87) a.jb a.r8 ["draft","rules"]
 eu:Fn K mg "check_all_there" "check_all_there" (top 88) a.eu a.lZ ["draft"]
 cr:Fn K mg "read_draft_rulestext" "read_draft" (top 89) a.cr a.jc ["text"]
 iU:Fn K mg "read_rules" "read_rules" (top 91) a.iU a.sH ["text"]
 b7:Fn K mg "with_count" "with_count" (top 99) a.b7 a.sD ["numbers"]
 gj:Fn K mg "answer_rules" "answer_rules" (top 100) a.gj a.o4 ["desk","call"]
 gk:Fn K mg "answer_begin" "answer_begin" (top 101) a.gk a.oU ["desk"]
 gU:Fn K mg "answer_over" "answer_over" (top 102) a.gU a.qP ["desk","call"]
 fW:Fn K mg "answer_moves" "answer_moves" (top 103) a.fW a.qb ["desk","call"]
 gy:Fn K mg "asked_move" "asked_move" (top 104) a.gy a.sN ["desk","call"]
 gW:Fn K mg "answer_make" "answer_make" (top 105) a.gW a.qO ["desk","call"]
 fR:Fn K mg "answer_write" "answer_write" (top 106) a.fR a.pW ["desk","call"]
 gX:Fn K mg "answer_read" "answer_read" (top 107) a.gX a.qT ["desk","call"]
 gY:Fn K mg "answer_deep" "answer_deep" (top 108) a.gY a.rh ["desk","call"]
 g7:Fn K mg "answer_call" "answer_call" (top 109) a.g7 a.rA ["desk","call"]
 dv:Fn K mg "answer_or_refuse" "answer_or_refuse" (top 110) a.dv a.lR ["desk","call"]
 kD:Fn K mg "answers" "answers" (top 111) a.kD a.qy ["calls"]
 bR:Kl K mg "Position" a.bM
 bV:aP K a.bM "pieces"
 fg:aP K a.bM "turn"
 b6:Mt K a.bM "__init__" "Position.__init__" (inClass (top 11) 0) a.b6 a.j7 ["self","pieces","turn"]
 rS:Mk K a.bM a.b6
 bZ:Kl K mg "Move" a.br
 iG:aP K a.br "start"
 g8:aP K a.br "target"
 gC:aP K a.br "taken"
 kC:aP K a.br "after"
 f9:aP K a.br "over"
 eN:Mt K a.br "__init__" "Move.__init__" (inClass (top 19) 0) a.eN a.uP ["self","rules","position","step"]
 Cz:Mk K a.br a.eN
 fC:Mt K a.br "as_row" "Move.as_row" (inClass (top 19) 1) a.fC a.rg ["self"]
 aD:Kl K mg "Reader" a.aY
 lU:aP K a.aY "given"
 bL:aP K a.aY "place"
 eA:Mt K a.aY "__init__" "Reader.__init__" (inClass (top 46) 0) a.eA a.rk ["self","given"]
 BK:Mk K a.aY a.eA
 dO:Mt K a.aY "at_end" "Reader.at_end" (inClass (top 46) 1) a.dO a.oy ["self"]
 dh:Mt K a.aY "sees" "Reader.sees" (inClass (top 46) 2) a.dh a.rj ["self","sign"]
 bU:Mt K a.aY "sees_any" "Reader.sees_any" (inClass (top 46) 3) a.bU a.mz ["self","signs"]
 aV:Mt K a.aY "one_sign" "Reader.one_sign" (inClass (top 46) 4) a.aV a.my ["self","signs"]
 aH:Mt K a.aY "expect" "Reader.expect" (inClass (top 46) 5) a.aH a.ou ["self","text"]
 a7:Mt K a.aY "one_word" "Reader.one_word" (inClass (top 46) 6) a.a7 a.lY ["self","words"]
 cC:Mt K a.aY "expect_end" "Reader.expect_end" (inClass (top 46) 7) a.cC a.kj ["self"]
 bC:Kl K mg "LineDraft" a.bv
 dA:aP K a.bv "pieces"
 eW:aP K a.bv "places"
 iS:aP K a.bv "signs"
 jq:aP K a.bv "turn"
 di:Mt K a.bv "__init__" "LineDraft.__init__" (inClass (top 54) 0) a.di a.nJ ["self"]
 B5:Mk K a.bv a.di
 cz:Mt K a.bv "leave_free" "LineDraft.leave_free" (inClass (top 54) 1) a.cz a.iN ["self","many"]
 fj:Mt K a.bv "put" "LineDraft.put" (inClass (top 54) 2) a.fj a.oF ["self","reader"]
 aw:Kl K mg "RulesDraft" a.aO
 cy:aP K a.aO "wide"
 cw:aP K a.aO "high"
 bS:aP K a.aO "ground"
 b9:aP K a.aO "start"
 lr:aP K a.aO "first"
 km:aP K a.aO "slides"
 lC:aP K a.aO "armed"
 mC:aP K a.aO "four"
 gQ:aP K a.aO "passed"
 iT:aP K a.aO "seat"
 lM:aP K a.aO "exits"
 eJ:aP K a.aO "goal_place"
 i_:aP K a.aO "goal"
 kb:aP K a.aO "thrice"
 lu:aP K a.aO "limit"
 bI:aP K a.aO "end_place"
 cW:Mt K a.aO "__init__" "RulesDraft.__init__" (inClass (top 77) 0) a.cW a.mo ["self","reader"]
 AD:Mk K a.aO a.cW
 aU:Kl K mg "Rules" a.ba
 gz:aP K a.ba "wide"
 iY:aP K a.ba "high"
 lE:aP K a.ba "slides"
 mJ:aP K a.ba "armed"
 si:aP K a.ba "four"
 oX:aP K a.ba "passed"
 sf:aP K a.ba "seat"
 qU:aP K a.ba "exits"
 tf:aP K a.ba "goal"
 x8:aP K a.ba "thrice"
 yU:aP K a.ba "limit"
 qR:aP K a.ba "cells"
 gA:aP K a.ba "ways"
 dw:aP K a.ba "ground"
 mK:aP K a.ba "start"
 gK:Mt K a.ba "__init__" "Rules.__init__" (inClass (top 78) 0) a.gK a.tR ["self","draft"]
 IN:Mk K a.ba a.gK
 dQ:Mt K a.ba "on_edge" "Rules.on_edge" (inClass (top 78) 1) a.dQ a.oE ["self","cell"]
 fc:Kl K mg "Desk" a.fb
 cA:aP K a.fb "rules"
 iz:Mt K a.fb "__init__" "Desk.__init__" (inClass (top 96) 0) a.iz a.uU ["self"]
 Lk:Mk K a.fb a.iz
 cM:Mt K a.fb "known_rules" "Desk.known_rules" (inClass (top 96) 1) a.cM a.kZ ["self"]
 bJ:Mt K a.fb "position_of" "Desk.position_of" (inClass (top 96) 2) a.bJ a.lJ ["self","line"]
 cT:Kl K mg "Intake" a.aS
 iI:aP K a.aS "calls"
 dD:aP K a.aS "place"
 fF:Mt K a.aS "__init__" "Intake.__init__" (inClass (top 97) 0) a.fF a.q_ ["self","calls"]
 FO:Mk K a.aS a.fF
 eG:Mt K a.aS "is_done" "Intake.is_done" (inClass (top 97) 1) a.eG a.mX ["self"]
 bO:Mt K a.aS "take_number" "Intake.take_number" (inClass (top 97) 2) a.bO a.jH ["self"]
 dZ:Mt K a.aS "take_row" "Intake.take_row" (inClass (top 97) 3) a.dZ a.l6 ["self"]
 c_:Kl K mg "Call" a.bY
 ck:aP K a.bY "number"
 fV:aP K a.bY "numbers"
 dU:aP K a.bY "texts"
 io:Mt K a.bY "__init__" "Call.__init__" (inClass (top 98) 0) a.io a.uL ["self","intake"]
 Li:Mk K a.bY a.io
 eU:Xl K mg "NoSuchMove" a.gu
 Av:Co K a.gu none
 cQ:Xl K mg "OutOfBounds" a.fB
 yG:Co K a.fB none
 cp:Xl K mg "TooManyRows" a.fH
 yI:Co K a.fH none
 hR:Xl K mg "Stuck" a.e_
 mH:aP K a.e_ "place"
 d7:Fi K "__init__" "Stuck.__init__" (inClass (top 45) 0) a.d7 a.sO ["self","place"]
 A2:Co K a.e_ (some a.d7)
 db:Xl K mg "LineFault" a.bT
 nh:aP K a.bT "kind"
 mj:aP K a.bT "place"
 cK:Fi K "__init__" "LineFault.__init__" (inClass (top 53) 0) a.cK a.mY ["self","kind","place"]
 u4:Co K a.bT (some a.cK)
 bX:Xl K mg "NotAMoveLine" a.bK
 jV:aP K a.bK "place"
 cB:Fi K "__init__" "NotAMoveLine.__init__" (inClass (top 66) 0) a.cB a.kh ["self","place"]
 wW:Co K a.bK (some a.cB)
 bE:Xl K mg "RulesFault" a.bF
 ma:aP K a.bF "kind"
 kP:aP K a.bF "place"
 bg:Fi K "__init__" "RulesFault.__init__" (inClass (top 76) 0) a.bg a.mF ["self","kind","place"]
 eY:Co K a.bF (some a.bg)
 qg:Xl K mg "NoRules" a.kI
 EE:Co K a.kI none
 zf:mg "ROW"=some (.int 13 a.Mi)
 Au:mg "CELLS"=some (.int 169 a.JC)
 i7:mg "NOBODY"=some (.int 0 a.Hw)
 BL:mg "HUNTER"=some (.int 1 a.Gr)
 jZ:mg "KING"=some (.int 3 a.Lr)
 DK:mg "PLAIN"=some (.int 0 a.Im)
 Ae:mg "SEAT"=some (.int 1 a.Lb)
 Aw:mg "EXIT"=some (.int 2 a.KQ)
 CN:mg "WALL"=some (.int 3 a.Ly)
 vR:mg "SIDES"=some (.ref a.qi)
 vX:∀H:Hp,iV K H a.qi [.int 2,.int 0,.int 1,.int 1]
 yZ:mg "LONGEST_ROW"=some (.int 6 a.yL)
 wY:mg "HIGHEST_MOST"=some (.int 2000 a.yo)
 jG:mg "DIGITS"=some (.str "0123456789" a.FU)
 yW:mg "PIECE_SIGNS"=some (.str ".hmK" a.yO)
 tp:mg "TURN_SIGNS"=some (.str "hk" a.AG)
 Fm:mg "COLUMNS"=some (.str "abcdefghijklm" a.Fw)
 ug:mg "LETTERS"=some (.str "ABCDEFGHIJKLMNOPQRSTUVWXYZabcdefghijklmnopqrstuvwxyz" a.EK)
 wV:mg "LONGEST_NAME"=some (.int 16 a.xN)
 vB:mg "HIGHEST_LIMIT"=some (.int 60000 a.vN)
 wZ:mg "ENMITIES"=some (.ref a.rG)
 wM:∀H:Hp,iV K H a.rG [.str "quiet",.str "hunters",.str "men",.str "all"]
 xu:∃o,K.lookup a.rG=some o/\o.cls=Value.type "tuple"/\o.dict=none
 xF:mg "NUMBERS_WITH"=some (.ref a.lG)
 wC:∀H:Hp,iV K H a.lG [.int 0,.int 0,.int 0,.int 0,.int 2,.int 2,.int 0,.int 2]
 Aq:mg "TEXTS_WITH"=some (.ref a.nY)
 Ax:∀H:Hp,iV K H a.nY [.int 1,.int 0,.int 1,.int 1,.int 1,.int 1,.int 2,.int 1]
 mE:mg "len"=none
 g_:mg "range"=none
 yB:mg "sorted"=none
 Hj:mg "any"=none
 MK:mg "all"=none
 vd:mg "enumerate"=none
 JR:mg "zip"=none
 JG:mg "max"=none
 JT:mg "min"=none
 Ht:mg "sum"=none
 Gg:mg "str"=none
 JN:mg "ord"=none
 G7:mg "list"=none
variable{P:PN}{w:World}{K:OX}{mg:Str->Option Value}{base:Heap}{a:Ad}
section
variable{X:Cx}{CX:Dg}{k k':Nat}{f C:Addr}{fd:O5}{ps:List Str}{sp:Sp}{E:XK}{x m nm qual:Str}{st:Stmt}{p pos pos' apos:Pos}{e o:Expr}{es:List Expr}{ta te:TE}{t:TA}
def _root_.L2.Cp.oQ{P:PN}{w:World}{K:OX}{mg:Str->Option Value}{base:Heap}{N:List Str}(F:Cp K x qual st f fd)(S:aB N ps (ao st))
  (hb:∀(cdv:Value)(A:Around)(outer:List Env)(s:Shared)(H:Hp)(vs:List V)(Q:VK)(E:XK),gf k (A.deeper (envOfC qual (ao st) s.heap.objs.size f cdv))->sp vs H Q E->
   ∃t,zN (ua (cX P w) P w K mg base N qual (ao st) f cdv A outer s H E) (dG st) t/\t {nx:=λ_ H'=>Q .eC H',rt:=Q} (start N vs) H)
  (len:∀vs H Q E,sp vs H Q E->vs.length=ps.length:=by intro vs H Q E h;repeat first|(obtain⟨rfl,_⟩:=h;rfl;done)|(obtain⟨_,h⟩:=h)):a4 P w K mg base (cX P w) (k+1) f fd ps sp:=F.Ov S len hb
def _root_.L2.Cp.lL{P:PN}{w:World}{K:OX}{mg:Str->Option Value}{base:Heap}{N:List Str}(F:Cp K x qual st f fd)(S:aB N ps (ao st))
  (hb:∀(cdv:Value)(A:Around)(outer:List Env)(s:Shared)(H:Hp)(vs:List V)(Q:VK)(E:XK),gf k (A.deeper (envOfC qual (ao st) s.heap.objs.size f cdv))->sp vs H Q E->
   ∃t,zN (ua (cX P w) P w K mg base N qual (ao st) f cdv A outer s H E).L9 (dG st) t/\t {nx:=λ_ H'=>Q .eC H',rt:=Q} (start N vs) H)
  (len:∀vs H Q E,sp vs H Q E->vs.length=ps.length:=by intro vs H Q E h;repeat first|(obtain⟨rfl,_⟩:=h;rfl;done)|(obtain⟨_,h⟩:=h)):a4 P w K mg base (cX P w) (k+1) f fd ps sp:=F.M7 S len hb
def aR{N P:List Str}{sc:Scope}(a:sc.kind=.function:=by rfl)(b:sc.isCoroutine=false:=by rfl)(c:sc.isGenerator=false:=by rfl)(d:N.Nodup:=by decide+kernel)(e:N.take P.length=P:=by rfl)
  (f:∀x∈P,sc.names.lookup x=some .local\/sc.names.lookup x=some .cell:=by decide+kernel)(g:∀y∈sc.names,y.2≠.free:=by decide+kernel):aB N P sc:=⟨a,b,c,d,e,f,g⟩
def eV(i:Nat)(hN:X.N.Nodup)(he:PE X e te)(hi:X.N[i]? =some x:=by rfl)(hx:Loc X.env.scope x:=by first|exact Or.inl rfl|exact Or.inr rfl)(hs:swapsWith e (some (.Name x pos')) pos.line X.env=pure false:=by rfl)(hf:X.fn x=true\/X.env.scope.names.lookup x=some .local:=by first|exact .inl rfl|exact .inr rfl|assumption):
  PS X (.Assign [.Name x pos'] e pos) (HL te (zG i)):=K_ hN hi hx he hs hf
def kR(i:Nat)(hN:X.N.Nodup)(hi:X.N[i]? =some x:=by rfl)(hx:Loc X.env.scope x:=by first|exact Or.inl rfl|exact Or.inr rfl)(hf:X.fn x=true\/X.env.scope.names.lookup x=some .local:=by first|exact .inl rfl|exact .inr rfl|assumption):PG X (.Name x pos) (zG i):=Ii hN hi hx hf
def GN(i:Nat)(hN:X.N.Nodup){op:Operator}{ti:L8}(he:PE X e te)(ho:Ma X op ti)(hi:X.N[i]? =some x:=by rfl)(hx:Loc X.env.scope x:=by first|exact Or.inl rfl|exact Or.inr rfl)(hf:X.fn x=true\/X.env.scope.names.lookup x=some .local:=by first|exact .inl rfl|exact .inr rfl|assumption):
  PS X (.AugAssign (.Name x pos') op e pos) (MM i te ti):=KW hN hi hx he ho hf
def mT{n:Int}{tk:Tok}(hm:X.mg x=some (.int n tk))(hg:Gl X x:=by rfl)(hd:(x==("__debug__":Str))=false:=by decide):PE X (.Name x pos) (tC (.int n)):=kn hg hm ⟨_,rfl⟩ hd
def CY{n:Str}{tk:Tok}(hm:X.mg x=some (.str n tk))(hg:Gl X x:=by rfl)(hd:(x==("__debug__":Str))=false:=by decide):PE X (.Name x pos) (tC (.str n)):=kn hg hm ⟨_,rfl⟩ hd
def J1(hm:X.mg x=some (.ref f))(hg:Gl X x:=by rfl)(hd:(x==("__debug__":Str))=false:=by decide):PE X (.Name x pos) (tC (.ref f)):=kn hg hm rfl hd
def dn(F:Fn X.K X.mg x nm st f fd ps)(ok:a4 X.prog X.w X.K X.mg X.base CX k f fd ps sp)(hr:gf k' X.A)(hx:Passes CX X E)(ha:PA X (e::es) t)(hk:k<=k':=by decide)(hg:Gl X x:=by rfl)
  (hdb:(x==("__debug__":Str))=false:=by decide)(he:starEach (e::es) X.env=(false,eval e X.env)::starEach es X.env:=by rfl)(hpl:(backTo pos (starEach es X.env)).any (·.1)=false:=by rfl):
  PE X (.Call (.Name x p) (e::es) [] pos) (JO sp [] E t):=HP ok (hr.mono hk) hg F.m F.F.kp F.b .nil hx ha hdb he hpl
def jf{pl:Sem Bool}(hE:PE X o ta){y:Str}(c:Kl X.K X.mg y C)(hm:Mt X.K C m qual st f fd ps)(ok:a4 X.prog X.w X.K X.mg X.base CX k f fd ps sp)(hr:gf k' X.A)(hx:Passes CX X E)(ha:PA X (e::es) t)(hk:k<=k':=by decide)
  (hst:starEach (e::es) X.env=(false,eval e X.env)::starEach es X.env:=by rfl)(hpl:(backTo pos (starEach es X.env)).any (·.1)=false:=by rfl)
  (ht:eval (.Call (.Attribute o m apos) (e::es) [] pos) X.env=(do
   let ov<-eval o X.env
   standAt apos.atName
   let(f,first)<-holding [ov] (getMethod ov m pl)
   callWith pos f first (backTo pos (starEach (e::es) X.env)) (backToKw pos (keywordEach [] X.env))):=by rfl):
  PE X (.Call (.Attribute o m apos) (e::es) [] pos) (Ed C m sp [] E ta t):=HS hE c.cl hm.at_ ok (hr.mono hk) hm.b .nil hx ha hst hpl ht
def Fo{pl:Sem Bool}(hE:PE X o ta){y:Str}(c:Kl X.K X.mg y C)(hm:Mt X.K C m qual st f fd ps)(ok:a4 X.prog X.w X.K X.mg X.base CX k f fd ps sp)(hr:gf k' X.A)(hx:Passes CX X E)(hk:k<=k':=by decide)
  (ht:eval (.Call (.Attribute o m apos) [] [] pos) X.env=(do
   let ov<-eval o X.env
   standAt apos.atName
   let(f,first)<-holding [ov] (getMethod ov m pl)
   callWith pos f first (backTo pos (starEach [] X.env)) (backToKw pos (keywordEach [] X.env))):=by rfl):
  PE X (.Call (.Attribute o m apos) [] [] pos) (Ed C m sp [] E ta rN):=Gj hE c.cl hm.at_ ok (hr.mono hk) hm.b .nil hx ht
def FB(M:Mk X.K C f)(ok:a4 X.prog X.w X.K X.mg X.base CX k f fd ps sp)(hr:gf k' X.A)(c:Kl X.K X.mg x C)(hm:Mt X.K C m qual st f fd ps)(hx:Passes CX X E)
  (ha:PA X (e::es) t)(hk:k+1<=k':=by decide)(hg:Gl X x:=by rfl)(hdb:(x==("__debug__":Str))=false:=by decide)(he:starEach (e::es) X.env=(false,eval e X.env)::starEach es X.env:=by rfl)(hpl:(backTo pos (starEach es X.env)).any (·.1)=false:=by rfl):
  PE X (.Call (.Name x p) (e::es) [] pos) (GZ C sp [] E t):=Ib M ok (hr.mono hk) hg c.m hm.b .nil hx ha hdb he hpl
end
section
variable{K:OX}{H:Hp}
def g9(i j:Int):decide (V.int i=V.int j)=decide (i=j):=by
 by_cases h:i=j
 ·rw[O0 h,O0 (by rw[h])]
 ·rw[PF h,PF (λq=>h (by injection q))]
def dH{i j:Int}{A B:Prop}(h1:i=j->A)(h2:i≠j->B):if decide (V.int i=V.int j)=true then A else B:=by
 rw[g9];exact gD (λh=>h1 (O7 h)) λh=>h2 λq=>h (O0 q)
def LM{i j:Int}{A B:Prop}(h1:i≠j->A)(h2:i=j->B):if(!decide (V.int i=V.int j))=true then A else B:=by
 rw[g9];exact gD (λh=>h1 λq=>by rw[O0 q]at h;cases h) λh=>h2 (by
  by_cases q:i=j
  ·exact q
  ·exact absurd (by rw[PF q];rfl) h)
def fQ{b:Bool}{A B:Prop}(h1:b=true->A)(h2:b=false->B):if b=true then A else B:=by
 cases b with
 |true=>exact KC (h1 rfl)
 |false=>exact MA (h2 rfl)
end
def A4(p:Addr)(t:Int):List (Str×V):=[("pieces",.ref p),("turn",.int t)]
def zH(a:Ad):Sp:=λvs H Q _=>∃(x dx p:Addr)(t:Int),vs=[.ref x,.ref p,.int t]/\H x=some (.ins a.bM dx [])/\Q .eC (upd H x (.ins a.bM dx (A4 p t)))
def Fg:aB ["self","pieces","turn"] ["self","pieces","turn"] (ao (inClass (top 11) 0)):=⟨rfl,rfl,rfl,by decide+kernel,rfl,by decide+kernel,by decide+kernel⟩
def CD(T:Tx K mg a):a4 P w K mg base (cX P w) 1 a.b6 a.j7 ["self","pieces","turn"] (zH a):=by
 refine T.b6.F.M7 Fg (λvs H Q E h=>?_) (λcdv A outer s H vs Q E hr h=>?_)
 ·obtain⟨_,_,_,_,rfl,_⟩:=h
  rfl
 ·obtain⟨x,dx,p,t,rfl,hx,k⟩:=h
  refine⟨_,ae (a5 (pv 0) (pv 1) rfl) (aj (a5 (pv 0) (pv 2) rfl)),?_⟩;refine⟨_,rfl,_,rfl,x,a.bM,dx,[],rfl,hx,T.bR.cl,T.bV,(by show 0<1000;decide),?_⟩;refine⟨_,rfl,_,rfl,x,a.bM,dx,_,rfl,ai,T.bR.cl,T.fg,(by show 1<1000;decide),?_⟩;rw[eQ];exact k
def fZ(ps:List Int):Int:=if 3∈ps then(ps.findIdx (·==3):Nat)else-1
def J_(K:OX):Sp:=λvs H Q _=>∃(p:Addr)(ps:List Int),vs=[.ref p]/\a0 K H p (ps.map V.int)/\Q (.int (fZ ps)) H
def Lv:aB ["pieces"] ["pieces"] (ao (top 12)):=⟨rfl,rfl,rfl,by decide+kernel,rfl,by decide+kernel,by decide+kernel⟩
def DE(x:Int):∀l:List Int,K1 (.int x) (l.map V.int)=decide (x∈l)
 |[]=>by simp[K1]
 |y::l=>by
  have ih:=DE x l;unfold K1 at ih ⊢;rw[PY,Q8,ih];show((y==x)||decide (x∈l))=decide (x∈y::l);rw[Qg,QO,Qj,O9,O9,Po];exact or_congr ⟨Eq.symm,Eq.symm⟩ Iff.rfl
def zW(l:List Int):(l.map V.int).all ka=true:=by
 rw[List.all_map,QI];intro x _;rfl
def sj(T:Tx K mg a):a4 P w K mg base (cX P w) 1 a.iw a.uM ["pieces"] (J_ K):=by
 refine T.iw.F.M7 Lv (λvs H Q E h=>?_) (λcdv A outer s H vs Q E hr h=>?_)
 ·obtain⟨_,_,rfl,_⟩:=h
  rfl
 ·obtain⟨p,ps,rfl,hp,k⟩:=h
  refine⟨_,ae (bG (aI Ff (kn (v:= .int 3) rfl T.jZ ⟨_,rfl⟩) (pv 0) rfl) (aj (aF (jg PQ PySem.F.slot_list_index PySem.F.type_list_index FW (pv 0) (aa (kn (v:= .int 3) rfl T.jZ ⟨_,rfl⟩) ah)))) aW)
   (aj (aF (oB jY az))),?_⟩
  refine⟨_,rfl,_,_,rfl,.inl hp,rfl,zW ps,_,rfl,?_⟩;have e:(if false=true then !K1 (.int 3) (ps.map V.int)else K1 (.int 3) (ps.map V.int))=decide ((3:Int)∈ps):=by rw[OV O3,DE]
  rw[e];refine gD (λh3=>?_) λh3=>?_
  ·have h3:(3:Int)∈ps:=O7 h3
   have lt:ps.findIdx (·==3)<ps.length:=QC ⟨3,h3,rfl⟩;have at3:ps[ps.findIdx (·==3)]? =some 3:=by
    rw[OY lt];have:=List.findIdx_getElem (w:=lt);exact P_ some (eq_of_beq this)
   refine⟨_,rfl,.inl ⟨rfl,_,hp⟩,p,ps.map V.int,.int 3,ps.findIdx (·==3),.int 3,rfl,rfl,hp,rfl,zW ps,by rw[Ph,at3];rfl,rfl,λm z hm hz=>?_,?_⟩
   ·rw[Ph]at hz
    cases hq:ps[m]? with
    |none=>rw[hq]at hz;cases hz
    |some y=>
     rw[hq]at hz;cases hz;have hy:¬(y==3)=true:=by
      have q:=List.not_of_lt_findIdx hm;have lm:m<ps.length:=Nat.lt_trans hm lt;rw[OY lm]at hq;rw[<-Pu hq];simpa using q
     show(y==3)=false;simpa using hy
   ·have ek:fZ ps=((ps.findIdx (·==3):Nat):Int):=OW h3
    rw[<-ek];exact k
  ·have h3:¬(3:Int)∈ps:=λq=>h3 (O0 q)
   refine⟨_,rfl,?_⟩;have ek:fZ ps= -1:=OV h3;rw[ek]at k;exact k
def iF(k p:Int):Bool:=decide (p=0)||decide (k=0)||(decide (p=3)&& !decide (k=3))
def Mj:Sp:=λvs H Q _=>∃(k p:Int),vs=[.int k,.int p]/\Q (.bl (iF k p)) H
def LZ:aB ["kind","piece"] ["kind","piece"] (ao (top 13)):=⟨rfl,rfl,rfl,by decide+kernel,rfl,by decide+kernel,by decide+kernel⟩
def nN(T:Tx K mg a):a4 P w K mg base (cX P w) 1 a.fU a.uW ["kind","piece"] Mj:=by
 refine T.fU.F.M7 LZ (λvs H Q E h=>?_) (λcdv A outer s H vs Q E hr h=>?_)
 ·obtain⟨_,_,rfl,_⟩:=h
  rfl
 ·obtain⟨kd,p,rfl,k⟩:=h
  refine⟨_,ae (bG (PW.pt (zw (aI bQ (pv 1) (kn (v:= .int 0) rfl T.i7 ⟨_,rfl⟩) (aJ _)) (tV (aI bQ (pv 0) (kn (v:= .int 0) rfl T.DK ⟨_,rfl⟩) (aJ _))))) (aj (aF rm)) aW)
   (aj (aF (yn (dY bQ (pv 1) (kn (v:= .int 3) rfl T.jZ ⟨_,rfl⟩) (aJ _)) (pE (dY Dy (pv 0) (kn (v:= .int 3) rfl T.CN ⟨_,rfl⟩) (aJ _)))))),?_⟩
  refine⟨_,rfl,rfl,_,rfl,dH (λh1=>?_) λh1=>⟨_,rfl,rfl,_,rfl,dH (λh2=>?_) λh2=>?_⟩⟩
  ·have e:iF kd p=true:=by unfold iF;rw[O0 h1];rfl
   rw[e]at k;exact k
  ·have e:iF kd p=true:=by unfold iF;rw[O0 h2,Bool.or_true];rfl
   rw[e]at k;exact k
  ·have e:iF kd p=(decide (p=3)&& !decide (kd=3)):=by unfold iF;rw[PF h1,PF h2];rfl
   rw[e]at k;refine⟨_,rfl,rfl,_,rfl,dH (λh3=>⟨_,rfl,rfl,?_⟩) λh3=>?_⟩
   ·rw[O0 h3]at k
    rw[g9];exact k
   ·rw[PF h3]at k
    exact k
def put2(x y:V):cj "place" y [(("kind":Str),x)]=([("kind",x),("place",y)]:List (Str×V)):=by rfl
def yP:aB ["self","place"] ["self","place"] (ao (inClass (top 45) 0)):=aR
def mS(T:Tx K mg a):uO P w K mg base a.d7 a.sO ["self","place"] (JJ K a.e_ ["place"]):=by
 refine T.d7.F.okN yP (λvs H Q h=>?_) (λcdv A outer s H vs Q h=>?_)
 ·obtain⟨_,_,ws,rfl,hl,_⟩:=h
  match ws,hl with
  |[_],_=>rfl
 ·obtain⟨e,t,ws,rfl,hl,he,k⟩:=h
  match ws,hl with
  |[v],_=>
   refine⟨_,(aj (Du (pv 0) (pv 1) rfl)),?_⟩;exact⟨_,rfl,_,rfl,e,a.e_,t,rfl,he,T.hR.cl,T.mH,λdx h1 h2=>k dx h1 h2⟩
def pT:aB ["self","place"] ["self","place"] (ao (inClass (top 66) 0)):=aR
def oS(T:Tx K mg a):uO P w K mg base a.cB a.kh ["self","place"] (JJ K a.bK ["place"]):=by
 refine T.cB.F.okN pT (λvs H Q h=>?_) (λcdv A outer s H vs Q h=>?_)
 ·obtain⟨_,_,ws,rfl,hl,_⟩:=h
  match ws,hl with
  |[_],_=>rfl
 ·obtain⟨e,t,ws,rfl,hl,he,k⟩:=h
  match ws,hl with
  |[v],_=>
   refine⟨_,(aj (Du (pv 0) (pv 1) rfl)),?_⟩;exact⟨_,rfl,_,rfl,e,a.bK,t,rfl,he,T.bX.cl,T.jV,λdx h1 h2=>k dx h1 h2⟩
def tN:aB ["self","kind","place"] ["self","kind","place"] (ao (inClass (top 53) 0)):=aR
def mf(T:Tx K mg a):uO P w K mg base a.cK a.mY ["self","kind","place"] (JJ K a.bT ["kind","place"]):=by
 refine T.cK.F.okN tN (λvs H Q h=>?_) (λcdv A outer s H vs Q h=>?_)
 ·obtain⟨_,_,ws,rfl,hl,_⟩:=h
  match ws,hl with
  |[_,_],_=>rfl
 ·obtain⟨e,t,ws,rfl,hl,he,k⟩:=h
  match ws,hl with
  |[v,y],_=>
   refine⟨_,(ae (Du (pv 0) (pv 1) rfl) (aj (JQ (pv 0) (pv 2) rfl))),?_⟩;refine⟨_,rfl,_,rfl,e,a.bT,t,rfl,he,T.db.cl,T.nh,λdx h1 h2=>?_⟩;refine⟨_,rfl,_,rfl,e,a.bT,t,dx,_,rfl,ai,(by rw[ak h2,ai]),T.db.cl,T.mj,(by show 1<1000;decide),?_⟩;have q:=k dx h1 h2;rw[put2,<-xC (H:=upd H dx (XD dx [("kind",v)])) h2,eQ];exact q
def rQ:aB ["self","kind","place"] ["self","kind","place"] (ao (inClass (top 76) 0)):=aR
def b_(T:Tx K mg a):uO P w K mg base a.bg a.mF ["self","kind","place"] (JJ K a.bF ["kind","place"]):=by
 refine T.bg.F.okN rQ (λvs H Q h=>?_) (λcdv A outer s H vs Q h=>?_)
 ·obtain⟨_,_,ws,rfl,hl,_⟩:=h
  match ws,hl with
  |[_,_],_=>rfl
 ·obtain⟨e,t,ws,rfl,hl,he,k⟩:=h
  match ws,hl with
  |[v,y],_=>
   refine⟨_,(ae (Du (pv 0) (pv 1) rfl) (aj (JQ (pv 0) (pv 2) rfl))),?_⟩;refine⟨_,rfl,_,rfl,e,a.bF,t,rfl,he,T.bE.cl,T.ma,λdx h1 h2=>?_⟩;refine⟨_,rfl,_,rfl,e,a.bF,t,dx,_,rfl,ai,(by rw[ak h2,ai]),T.bE.cl,T.kP,(by show 1<1000;decide),?_⟩;have q:=k dx h1 h2;rw[put2,<-xC (H:=upd H dx (XD dx [("kind",v)])) h2,eQ];exact q
def vM(g:Addr)(n:Nat):List (Str×V):=[("given",.ref g),("place",.int n)]
structure fI(K:OX)(a:Ad)(H:Hp)(x dx g:Addr)(ns:List Int)(n:Nat):Prop where
 ins:H x=some (.ins a.aY dx (vM g n))
 gv:H g=some (.lst (ns.map V.int))
def Ex(x:Addr)(H H':Hp):Prop:=∀b o,H b=some o->b≠x->H' b=some o
def Ex.refl{x:Addr}{H:Hp}:Ex x H H:=λ_ _ h _=>h
def Ex.trans{x:Addr}{H H1 H2:Hp}(p:Ex x H H1)(q:Ex x H1 H2):Ex x H H2:=λb o h n=>q b o (p b o h n) n
def _root_.L2.aE.ex{x:Addr}{H H1:Hp}(p:aE H H1):Ex x H H1:=λb o h _=>p b o h
def Ex.seq{x l:Addr}{H H':Hp}{xs:List V}{C dx:Addr}{fs:List (Str×V)}(p:Ex x H H')(hx:H x=some (.ins C dx fs))(h:a0 K H l xs):a0 K H' l xs:=by
 rcases h with(h|⟨o,h⟩)|h
 ·exact .inl (.inl (p _ _ h (bf h hx λz=>nomatch z)))
 ·exact .inl (.inr ⟨o,p _ _ h (bf h hx λz=>nomatch z)⟩)
 ·exact .inr h
def FL(a:Ad):Sp:=λvs H Q _=>∃(x dx g:Addr),vs=[.ref x,.ref g]/\H x=some (.ins a.aY dx [])/\Q .eC (upd H x (.ins a.aY dx (vM g 0)))
def xa:aB ["self","given"] ["self","given"] (ao (inClass (top 46) 0)):=aR
def o6(T:Tx K mg a):a4 P w K mg base (cX P w) 1 a.eA a.rk ["self","given"] (FL a):=by
 refine T.eA.F.lL xa λcdv A outer s H vs Q E hr h=>?_;obtain⟨x,dx,g,rfl,hx,k⟩:=h;refine⟨_,(ae (a5 (pv 0) (pv 1) rfl) (aj (a5 (pv 0) az rfl))),?_⟩;refine⟨_,rfl,_,rfl,x,a.aY,dx,[],rfl,hx,T.aD.cl,T.lU,(by show 0<1000;decide),?_⟩;refine⟨_,rfl,x,a.aY,dx,_,rfl,ai,T.aD.cl,T.bL,(by show 1<1000;decide),?_⟩;rw[eQ];exact k
def Mc(K:OX)(a:Ad):Sp:=λvs H Q _=>∃(x dx g:Addr)(ns:List Int)(n:Nat),vs=[.ref x]/\fI K a H x dx g ns n/\Q (.bl (decide (ns.length<=n))) H
def ub:aB ["self"] ["self"] (ao (inClass (top 46) 1)):=aR
def nB(T:Tx K mg a):a4 P w K mg base (cX P w) 1 a.dO a.oy ["self"] (Mc K a):=by
 refine T.dO.F.lL ub λcdv A outer s H vs Q E hr h=>?_;obtain⟨x,dx,g,ns,n,rfl,R,k⟩:=h;refine⟨_,(aj (aF (dY zV (ay (pv 0) rfl) (bu bP rfl T.mE (by decide+kernel) (aa (ay (pv 0) rfl) ah)) (aJ _)))),?_⟩;refine⟨_,rfl,x,_,_,_,_,rfl,R.ins,T.aD.cl,T.bL,rfl,_,rfl,x,_,_,_,_,rfl,R.ins,T.aD.cl,T.lU,rfl,g,_,rfl,.inl (a0.of R.gv),_,_,rfl,rfl,?_⟩;have e:decide (((ns.map V.int).length:Int)<=(n:Int))=decide (ns.length<=n):=by rw[OU];exact Re.mpr (by omega)
 rw[<-e]at k;exact k
def KU(K:OX)(a:Ad):Sp:=λvs H Q _=>∃(x dx g:Addr)(ns:List Int)(n c:Nat),vs=[.ref x,.str ⟨#[c]⟩]/\fI K a H x dx g ns n/\Q (.bl (ns[n]? ==some (c:Int))) H
def yj:aB ["self","sign"] ["self","sign"] (ao (inClass (top 46) 2)):=aR
def iW(T:Tx K mg a):a4 P w K mg base (cX P w) 2 a.dh a.rj ["self","sign"] (KU K a):=by
 refine T.dh.F.lL yj λcdv A outer s H vs Q E hr h=>?_;obtain⟨x,dx,g,ns,n,c,rfl,R,k⟩:=h;refine⟨_,(aj (aF (yn (Gp (Fo (pv 0) T.aD T.dO (nB T) hr aK)) (pE (dY bQ (bj a_ (ay (pv 0) rfl) (ay (pv 0) rfl) (λ_ _=>rfl)) (bu B9 rfl T.JN (by decide+kernel) (aa (pv 1) ah)) (aJ _)))))),?_⟩;refine⟨_,rfl,x,dx,_,rfl,R.ins,rfl,x,dx,g,ns,n,rfl,R,_,rfl,_,rfl,fQ (λh1=>?_) λh1=>?_⟩
 ·have hn:n<ns.length:=by
   have q:decide (ns.length<=n)=false:=by simpa using h1
   have:=of_decide_eq_false q;omega
  have at1:ns[n]? =some ns[n]:=OY hn;refine⟨_,rfl,x,_,_,_,_,rfl,R.ins,T.aD.cl,T.lU,rfl,_,rfl,x,_,_,_,_,rfl,R.ins,T.aD.cl,T.bL,rfl,g,_,_,_,rfl,rfl,a0.of R.gv,at_of (j:=n) rfl (by rw[Ph,at1];rfl),_,rfl,_,rfl,rfl,rfl,?_⟩;rw[g9];rw[at1]at k;have e:(some ns[n]==some (c:Int))=decide (ns[n]=(c:Int)):=by
   rw[Qg,Qj,O9];exact⟨λq=>by injection q,λq=>by rw[q]⟩
  rw[e]at k;exact k
 ·have hn:ns.length<=n:=by
   have q:decide (ns.length<=n)=true:=by simpa using h1
   exact O7 q
  rw[Rt hn]at k;exact k
def fI.same{H H':Hp}{x dx g:Addr}{ns:List Int}{n:Nat}(R:fI K a H x dx g ns n)(s:aE H H'):fI K a H' x dx g ns n:=⟨s _ _ R.ins,s _ _ R.gv⟩
def cN(z:Str)(ns:List Int)(n:Nat):Option Nat:=match ns[n]? with
 |none=>none
 |some b=>z.cps.toList.findIdx? λ(c:Nat)=>decide ((c:Int)=b)
def bd(z:Str)(ns:List Int)(n:Nat):Bool:=z.cps.toList.any λ(c:Nat)=>ns[n]? ==some (c:Int)
def A8{α:Type}(f:α->Bool):∀(l:List α),(l.map λc=>f c).any id=l.any f
 |[]=>rfl
 |x::l=>by rw[PY,Q8,Q8,A8 f l];rfl
def LI(K:OX)(a:Ad):Sp:=λvs H Q _=>∃(x dx g:Addr)(ns:List Int)(n:Nat)(z:Str),vs=[.ref x,.str z]/\fI K a H x dx g ns n/\z.cps.size<=1000/\∀H',aE H H'->Q (.bl (bd z ns n)) H'
def hZ:aB ["self","signs","sign"] ["self","signs"] (ao (inClass (top 46) 3)):=aR
def eZ(T:Tx K mg a):a4 P w K mg base (cX P w) 3 a.bU a.mz ["self","signs"] (LI K a):=by
 refine T.bU.F.lL hZ λcdv A outer s H vs Q E hr h=>?_;obtain⟨x,dx,g,ns,n,z,rfl,R,hz,k⟩:=h;refine⟨_,(aj (aF (bu (CB rfl) rfl T.Hj (by decide+kernel) (aa (lS (own:=[("sign",2)]) rfl hZ.nd (Cs (pv 1)) (cq rfl) (λ_ _ _ _ _=>(kR 2 hZ.nd)) (λ_ _ _ _ _=>d8) (λ_ _ _ _ _=>(jf (pv 0) T.aD T.dh (iW T) hr aK (aa (pv 2) ah)))) ah)))),?_⟩;refine⟨_,rfl,z,rfl,λD hD=>iJ (J:=MR z) (n:=z.cps.size) (λi=>((z.cps.toList.take i).map λ(c:Nat)=>V.bl (ns[n]? ==some (c:Int)))) hD rfl (λi H h _=>h) (λH _=>OZ _) (λi H' hi s1 e1 y H2 hy=>?_) λH' s1 e1=>?_⟩
 ·obtain⟨rfl,c,hc,rfl⟩:=hy
  refine⟨rfl,_,rfl,x,dx,_,rfl,s1 _ _ R.ins,rfl,_,rfl,x,dx,g,ns,n,c,rfl,R.same s1,?_⟩;refine Got.of hD s1 e1 (aE.refl _) (by rw[OU,PK];omega) ?_;have hc':z.cps.toList[i]? =some c:=by simpa using hc
  rw[Qs,hc',Pn];rfl
 ·refine⟨D,z.cps.toList.map λ(c:Nat)=>(ns[n]? ==some (c:Int)),rfl,?_,?_⟩
  ·refine .inl (.inl ?_)
   rw[e1,Qa,PB (by simp)];rfl
  ·have q:=k H' s1
   unfold bd at q;rw[<-A8]at q;exact q
def fK(a:Ad)(x:Addr)(H:Hp)(n:Nat)(E:XK):Prop:=∀(H':Hp)(e d:Addr),Ex x H H'->H' e=some (XO e a.e_ (some d) true)->H' d=some (XD d [("place",.int n)])->E (.ref a.e_) (some e) H'
def Bz(a:Ad)(x dx g:Addr)(H:Hp)(r:Except Nat (V×Nat))(Q:VK)(E:XK):Prop:=match r with
 |.ok p=>∀H',Ex x H H'->H' x=some (.ins a.aY dx (vM g p.2))->Q p.1 H'
 |.error m=>fK a x H m E
def fK.mono{x:Addr}{H H1:Hp}{n:Nat}{E:XK}(h:fK a x H n E)(e:Ex x H H1):fK a x H1 n E:=λH' c d q=>h H' c d (e.trans q)
def aX(z:Str)(ns:List Int)(n:Nat):Except Nat (V×Nat):=match cN z ns n with
 |some k=>.ok (.int (k:Nat),n+1)
 |none=>.error n
def Mr(K:OX)(a:Ad):Sp:=λvs H Q E=>∃(x dx g:Addr)(ns:List Int)(n:Nat)(z:Str),vs=[.ref x,.str z]/\fI K a H x dx g ns n/\Bz a x dx g H (aX z ns n) Q E
def uw{a:Ad}{x:Addr}{H H1:Hp}{n:Nat}{E:XK}(h:fK a x H n E)(s1:Ex x H H1)(e d:Addr)(n1:H1 e=none)(n2:H1 d=none)(n3:d≠e)(hx:H1 x≠none):E (.ref a.e_) (some e) (upd (upd H1 d (XD d [("place",.int n)])) e (XO e a.e_ (some d) true)):=by
 refine h _ e d (λb o q nb=>?_) ai (by rw[ak n3,ai]);have q1:=s1 b o q nb;rw[ak (au q1 n1),ak (au q1 n2)];exact q1
def hW:aB ["self","signs","number","sign"] ["self","signs"] (ao (inClass (top 46) 4)):=aR
def a8(T:Tx K mg a):a4 P w K mg base (cX P w) 3 a.aV a.my ["self","signs"] (Mr K a):=by
 refine T.aV.F.oQ hW λcdv A outer s H vs Q E hr h=>?_;obtain⟨x,dx,g,ns,n,z,rfl,R,k⟩:=h;refine⟨_,(ae (dL Qh rfl (Gv rfl T.vd (aa (pv 1) ah)) (um rfl (fi (kR 2 hW.nd) (fi (kR 3 hW.nd) qB))) (aj (bG (dC (jf (pv 0) T.aD T.dh (iW T) hr aK (aa (pv 3) ah))) (ae (qu (pv 0) az AN) (aj (aF (pv 2)))) aW))) (aj (gb aA hr.hd T.A2 (mS T) T.d7.b (hr.d1) rfl T.hR.m (aa (ay (pv 0) rfl) ah)))),?_⟩;refine⟨_,rfl,z,rfl,tI (J:=Lm z) (n:=z.cps.size) (λi σ H'=>aE H H'/\(∃u v,σ=[some (.ref x),some (.str z),u,v])/\∀j c,j<i->z.cps[j]? =some c->ns[n]?≠some (c:Int)) ⟨aE.refl _,⟨_,_,rfl⟩,λ_ _ h=>absurd h (Nat.not_lt_zero _)⟩ (λi _ _ hi _=>hi) (λ_ _ _=>rfl) (λi σ H1 hi⟨s1,⟨u,v,e⟩,hno⟩ y H2 hy=>?_) λσ H1⟨s1,⟨u,v,e⟩,hno⟩=>?_⟩
 ·subst e
  obtain⟨t,c,rfl,ht,rfl,hc⟩:=hy;have s2:aE H (upd H1 t (.tup [.int (i:Nat),.str ⟨#[c]⟩])):=λb o q=>by
   rw[ak (au (s1 b o q) ht)];exact s1 b o q
  refine⟨t,_,rfl,iV.of ai,rfl,_,_,rfl,_,_,rfl,rfl,?_⟩;refine⟨_,rfl,x,dx,_,rfl,s2 _ _ R.ins,rfl,_,rfl,x,dx,g,ns,n,c,rfl,R.same s2,_,rfl,fQ (λh1=>?_) λh1=>?_⟩
  ·have hb:ns[n]? =some (c:Int):=eq_of_beq h1
   refine⟨_,rfl,x,_,_,_,_,rfl,s2 _ _ R.ins,T.aD.cl,T.bL,rfl,_,_,rfl,rfl,dx,_,s2 _ _ R.ins,(by show 2<1000;decide),?_⟩;refine⟨_,rfl,?_⟩;have hk:cN z ns n=some i:=by
    unfold cN;rw[hb];show z.cps.toList.findIdx? _=some i;rw[List.findIdx?_eq_some_iff_getElem];have hil:i<z.cps.toList.length:=by simpa using hi
    have ec:z.cps.toList[i]=c:=by
     have:z.cps.toList[i]? =some c:=by simpa using hc
     rw[OY hil]at this;exact Pu this
    refine⟨hil,by rw[ec];simp,λj hj=>?_⟩;have hjl:j<z.cps.toList.length:=Nat.lt_trans hj hil;have:=hno j z.cps.toList[j] hj (by have q:z.cps.toList[j]? =some z.cps.toList[j]:=OY hjl;simpa using q);rw[hb]at this;intro q;exact this (by rw[O7 q])
   unfold aX at k;rw[hk]at k;refine k _ (λb o q nb=>?_) ?_
   ·rw[ak nb]
    exact s2 b o q
   ·rw[ai]
    rfl
  ·refine⟨s2,⟨_,_,rfl⟩,λj c' hj hc'=>?_⟩
   rcases Rg.mp hj with q|q
   ·exact hno j c' q hc'
   ·subst q
    rw[hc]at hc';cases hc';intro q;rw[q,beq_self_eq_true]at h1;cases h1
 ·subst e
  refine⟨_,rfl,x,_,_,_,_,rfl,s1 _ _ R.ins,T.aD.cl,T.bL,rfl,rfl,(by show 1<=1000;decide),λe d n1 n2 n3=>?_⟩;have hk:cN z ns n=none:=by
   unfold cN;cases hb:ns[n]? with
   |none=>rfl
   |some b=>
    show z.cps.toList.findIdx? _=none;rw[List.findIdx?_eq_none_iff];intro c hc;obtain⟨j,hj,ej⟩:=QQ hc;have:=hno j c (by simpa using hj) (by have q:z.cps.toList[j]? =some c:=(by rw[OY hj,ej]);simpa using q);rw[hb]at this;exact PF λq=>this (by rw[q])
  unfold aX at k;rw[hk]at k;exact uw k s1.ex e d n1 n2 n3 (by rw[s1 _ _ R.ins];exactλq=>nomatch q)
def fI.ex{H H':Hp}{x dx g:Addr}{ns:List Int}{n n':Nat}(R:fI K a H x dx g ns n)(s:Ex x H H')(h:H' x=some (.ins a.aY dx (vM g n'))):fI K a H' x dx g ns n':=⟨h,s _ _ R.gv (bf R.gv R.ins λz=>nomatch z)⟩
def da(ns:List Int):List Nat->Nat->Except Nat Nat
 |[],n=>.ok n
 |c::r,n=>if ns[n]? =some (c:Int)then da ns r (n+1)else .error n
def xH(ns:List Int):∀(l1 l2:List Nat)(n:Nat),da ns (l1++l2) n=(match da ns l1 n with|.ok m=>da ns l2 m|.error e=>.error e)
 |[],_,_=>rfl
 |c::r,l2,n=>by
  show(if ns[n]? =some (c:Int)then da ns (r++l2) (n+1)else .error n)=(match(if ns[n]? =some (c:Int)then da ns r (n+1)else .error n)with|.ok m=>da ns l2 m|.error e=>.error e)
  by_cases h:ns[n]? =some (c:Int)
  ·rw[OW h,OW h]
   exact xH ns r l2 (n+1)
  ·rw[OV h,OV h]
def Hr(c:Nat)(ns:List Int)(n:Nat):aX ⟨#[c]⟩ ns n=if ns[n]? =some (c:Int)then .ok (.int ((0:Nat):Int),n+1)else .error n:=by
 unfold aX cN;cases hb:ns[n]? with
 |none=>rfl
 |some b=>
  show(match([c].findIdx? λ(c:Nat)=>decide ((c:Int)=b))with|some k=>Except.ok (V.int (k:Nat),n+1)|none=>.error n)=_;rw[List.findIdx?_cons]
  by_cases hc:(c:Int)=b
  ·rw[O0 hc,OW rfl,OW (by rw[hc])]
  ·rw[PF hc,OV O3,OV (λq=>hc (Pu q).symm)]
   rfl
def R1(r:Except Nat Nat)(v:V):Except Nat (V×Nat):=match r with
 |.ok m=>.ok (v,m)
 |.error e=>.error e
def JV(K:OX)(a:Ad):Sp:=λvs H Q E=>∃(x dx g:Addr)(ns:List Int)(n:Nat)(z:Str),vs=[.ref x,.str z]/\fI K a H x dx g ns n/\Bz a x dx g H (R1 (da ns z.cps.toList n) .eC) Q E
def ET{α:Type}{l:List α}{i:Nat}{c:α}(h:l[i]? =some c):l=l.take i++c::l.drop (i+1):=by
 obtain⟨hi,e⟩:=O6.mp h;rw[<-e,List.getElem_cons_drop,List.take_append_drop]
def ni:aB ["self","text","sign"] ["self","text"] (ao (inClass (top 46) 5)):=aR
def aL(T:Tx K mg a):a4 P w K mg base (cX P w) 4 a.aH a.ou ["self","text"] (JV K a):=by
 refine T.aH.F.oQ ni λcdv A outer s H vs Q E hr h=>?_;obtain⟨x,dx,g,ns,n,z,rfl,R,k⟩:=h;refine⟨_,(aj (dL Qh rfl (Cs (pv 1)) (kR 2 ni.nd) (aj (aZ (jf (pv 0) T.aD T.aV (a8 T) hr aA.passes (aa (pv 2) ah)))))),?_⟩;refine⟨_,rfl,z,rfl,tI (J:=MR z) (n:=z.cps.size) (λi σ H'=>∃n' u,σ=[some (.ref x),some (.str z),u]/\da ns (z.cps.toList.take i) n=.ok n'/\Ex x H H'/\H' x=some (.ins a.aY dx (vM g n'))) ⟨n,_,rfl,rfl,Ex.refl,R.ins⟩ (λi _ _ hi _=>hi) (λ_ _ _=>OZ _) (λi σ H1 hi⟨n',u,e,hl,s1,h1⟩ y H2 hy=>?_) λσ H1⟨n',u,e,hl,s1,h1⟩=>?_⟩
 ·subst e
  obtain⟨rfl,c,hc,rfl⟩:=hy;have hc':z.cps.toList[i]? =some c:=by simpa using hc
  refine⟨_,rfl,x,dx,_,rfl,h1,rfl,_,rfl,x,dx,g,ns,n',⟨#[c]⟩,rfl,R.ex s1 h1,?_⟩;rw[Hr]
  by_cases hb:ns[n']? =some (c:Int)
  ·rw[OW hb]
   intro H3 s3 h3;refine⟨n'+1,_,rfl,?_,s1.trans s3,h3⟩;rw[Qs,hc',xH,hl];show(if ns[n']? =some (c:Int)then da ns [] (n'+1)else .error n')=_;rw[OW hb];rfl
  ·rw[OV hb]
   have e:da ns z.cps.toList n=.error n':=by
    rw[ET hc',xH,hl];show(if ns[n']? =some (c:Int)then _ else Except.error n')=_;rw[OV hb]
   rw[e]at k;exact k.mono s1
 ·subst e
  rw[PB (by simp)]at hl;rw[hl]at k;exact k H1 s1 h1
def ME(K:OX)(a:Ad):Sp:=λvs H Q E=>∃(x dx g:Addr)(ns:List Int)(n:Nat),vs=[.ref x]/\fI K a H x dx g ns n/\(ns.length<=n->Q .eC H)/\(n<ns.length->fK a x H n E)
def pb:aB ["self"] ["self"] (ao (inClass (top 46) 7)):=aR
def jS(T:Tx K mg a):a4 P w K mg base (cX P w) 2 a.cC a.kj ["self"] (ME K a):=by
 refine T.cC.F.oQ pb λcdv A outer s H vs Q E hr h=>?_;obtain⟨x,dx,g,ns,n,rfl,R,k1,k2⟩:=h;refine⟨_,(aj (bG (lH (dC (Fo (pv 0) T.aD T.dO (nB T) hr aK))) (aj (gb aA hr.hd T.A2 (mS T) T.d7.b (hr.d1) rfl T.hR.m (aa (ay (pv 0) rfl) ah))) aW)),?_⟩;refine⟨_,rfl,x,dx,_,rfl,R.ins,rfl,x,dx,g,ns,n,rfl,R,_,rfl,fQ (λh1=>?_) λh1=>?_⟩
 ·have hn:n<ns.length:=by
   have q:decide (ns.length<=n)=false:=by simpa using h1
   have:=of_decide_eq_false q;omega
  refine⟨_,rfl,x,_,_,_,_,rfl,R.ins,T.aD.cl,T.bL,rfl,rfl,(by show 1<=1000;decide),λe d n1 n2 n3=>?_⟩;exact uw (k2 hn) Ex.refl e d n1 n2 n3 (by rw[R.ins];exactλq=>nomatch q)
 ·have hn:ns.length<=n:=by
   have q:decide (ns.length<=n)=true:=by simpa using h1
   exact O7 q
  exact k1 hn
def wu(K:OX)(a:Ad)(r:List Int->Nat->Except Nat (V×Nat)):Sp:=λvs H Q E=>∃(x dx g:Addr)(ns:List Int)(n:Nat),vs=[.ref x]/\fI K a H x dx g ns n/\Bz a x dx g H (r ns n) Q E
def GL(m:Nat)(r:Except Nat (V×Nat)):Except Nat (V×Nat):=match r with
 |.ok (.int i,n)=>.ok (.int (m+i),n)
 |.ok (_,n)=>.error n
 |.error e=>.error e
def tJ(ns:List Int)(n:Nat):Except Nat (V×Nat):=if ns[n]? =some 49 then GL 10 (aX "0123" ns (n+1))else GL 5 (aX "56789" ns n)
def Bz.plus{x dx g:Addr}{H:Hp}{z:Str}{ns:List Int}{n m:Nat}{Q:VK}{E:XK}(h:Bz a x dx g H (GL m (aX z ns n)) Q E):Bz a x dx g H (aX z ns n) (λv H'=>∃i,v=.int i/\Q (.int (m+i)) H') E:=by
 unfold aX at h ⊢;cases hk:cN z ns n with
 |none=>
  rw[hk]at h;exact h
 |some k=>
  rw[hk]at h;exactλH' e1 e2=>⟨_,rfl,h H' e1 e2⟩
def Bz.after{x dx g:Addr}{H H1:Hp}{r:Except Nat (V×Nat)}{Q:VK}{E:XK}(h:Bz a x dx g H r Q E)(s:Ex x H H1):Bz a x dx g H1 r Q E:=by
 unfold Bz at h ⊢;cases r with
 |ok p=>exactλH' e1 e2=>h H' (s.trans e1) e2
 |error m=>exact h.mono s
def Aj:aB ["reader"] ["reader"] (ao (top 80)):=aR
def tz(T:Tx K mg a):a4 P w K mg base (cX P w) 5 a.iD a.va ["reader"] (wu K a tJ):=by
 refine T.iD.F.oQ Aj λcdv A outer s H vs Q E hr h=>?_;obtain⟨x,dx,g,ns,n,rfl,R,k⟩:=h;refine⟨_,(ae (bG (dC (jf (pv 0) T.aD T.dh (iW T) hr aK (aa a9 ah))) (ae (aZ (jf (pv 0) T.aD T.aH (aL T) hr aA.passes (aa a9 ah))) (aj (aF (bz gN az (jf (pv 0) T.aD T.aV (a8 T) hr aA.passes (aa a9 ah)))))) aW) (aj (aF (bz gN az (jf (pv 0) T.aD T.aV (a8 T) hr aA.passes (aa a9 ah)))))),?_⟩;refine⟨_,rfl,x,dx,_,rfl,R.ins,rfl,x,dx,g,ns,n,49,rfl,R,_,rfl,fQ (λh1=>?_) λh1=>?_⟩
 ·have hb:ns[n]? =some 49:=eq_of_beq h1
  unfold tJ at k;rw[OW hb]at k;refine⟨_,rfl,x,dx,_,rfl,R.ins,rfl,x,dx,g,ns,n,"1",rfl,R,?_⟩;have e:da ns ("1":Str).cps.toList n=.ok (n+1):=by
   show(if ns[n]? =some 49 then da ns [] (n+1)else .error n)=_;rw[OW hb];rfl
  rw[e];intro H1 s1 e1;have R1':=R.ex s1 e1;refine⟨_,rfl,x,dx,_,rfl,e1,rfl,x,dx,g,ns,n+1,"0123",rfl,R1',?_⟩;have q:=(k.after s1).plus;unfold Bz at q ⊢
  revert q
  cases aX "0123" ns (n+1)with
  |ok p=>
   intro q H' e2 e3;obtain⟨i,ei,q⟩:=q H' e2 e3;exact⟨_,_,rfl,ei,q⟩
  |error m=>exactλq=>q
 ·have hb:¬ns[n]? =some 49:=λq=>by rw[q]at h1;cases h1
  unfold tJ at k;rw[OV hb]at k;refine⟨_,rfl,x,dx,_,rfl,R.ins,rfl,x,dx,g,ns,n,"56789",rfl,R,?_⟩;have q:=k.plus;unfold Bz at q ⊢
  revert q
  cases aX "56789" ns n with
  |ok p=>
   intro q H' e2 e3;obtain⟨i,ei,q⟩:=q H' e2 e3;exact⟨_,_,rfl,ei,q⟩
  |error m=>exactλq=>q
def Cm:Str:="ABCDEFGHIJKLMNOPQRSTUVWXYZabcdefghijklmnopqrstuvwxyz"
def fL:Str:="0123456789"
def fS(ns:List Int):Nat->Nat->Nat
 |0,n=>n
 |f+1,n=>if bd (Cm++fL) ns n=true then fS ns f (n+1)else n
def B1(ns:List Int)(n:Nat):Except Nat (V×Nat):=match aX Cm ns n with
 |.error e=>.error e
 |.ok p=>.ok (.eC,fS ns 15 p.2)
def rO{z:Str}{ns:List Int}{n:Nat}(h:bd z ns n=true):∃k,aX z ns n=.ok (.int (k:Nat),n+1):=by
 obtain⟨c,hc,e⟩:=Qk.mp h;have hb:ns[n]? =some (c:Int):=eq_of_beq e;unfold aX;cases hk:cN z ns n with
 |some k=>exact⟨k,rfl⟩
 |none=>
  unfold cN at hk;rw[hb]at hk;have q:=List.findIdx?_eq_none_iff.mp hk c hc;simp at q
def dN{z:Str}{ns:List Int}{n:Nat}{p:V×Nat}(h:aX z ns n=.ok p):∃k:Nat,p=(.int (k:Nat),n+1)/\cN z ns n=some k:=by
 unfold aX at h;cases hk:cN z ns n with
 |some k=>
  rw[hk]at h;cases h;exact⟨k,rfl,rfl⟩
 |none=>
  rw[hk]at h;cases h
def nU:aB ["reader","told"] ["reader"] (ao (top 79)):=aR
def AA(T:Tx K mg a):a4 P w K mg base (cX P w) 4 a.jQ a.uB ["reader"] (wu K a B1):=by
 refine T.jQ.F.oQ nU λcdv A outer s H vs Q E hr h=>?_;obtain⟨x,dx,g,ns,n,rfl,R,k⟩:=h;refine⟨_,(ae (aZ (jf (pv 0) T.aD T.aV (a8 T) hr aA.passes (aa (CY T.ug) ah))) (ae (eV 1 nU.nd az) (aj (jF Qh (PW.pt (gR (aI uD (pv 1) (mT T.wV) (aJ _)) (fe (dC (jf (pv 0) T.aD T.bU (eZ T) hr aK (aa (bz dB (CY T.ug) (CY T.jG)) ah)))))) (ae (aZ (jf (pv 0) T.aD T.aV (a8 T) hr aA.passes (aa (bz dB (CY T.ug) (CY T.jG)) ah))) (aj (GN 1 nU.nd az t7))))))),?_⟩;refine⟨_,rfl,x,dx,_,rfl,R.ins,rfl,x,dx,g,ns,n,Cm,rfl,R,?_⟩;unfold B1 at k;cases h1:aX Cm ns n with
 |error m=>
  rw[h1]at k;exact k
 |ok p=>
  rw[h1]at k;replace k:Bz a x dx g H (.ok (.eC,fS ns 15 p.2)) Q E:=k;intro H1 s1 e1;refine⟨λm σ H'=>∃n':Nat,σ=[some (.ref x),some (.int ((16-m:Nat):Int))]/\m<=15/\Ex x H H'/\H' x=some (.ins a.aY dx (vM g n'))/\fS ns 15 p.2=fS ns m n',⟨15,p.2,rfl,OZ _,s1,e1,rfl⟩,?_⟩
  rintro m σ H2 ⟨n',rfl,hm,s2,e2,hs⟩
  refine⟨_,rfl,_,_,rfl,rfl,_,rfl,gD (λh2=>?_) λh2=>?_⟩
  ·have h2:((16-m:Nat):Int)<16:=O7 h2
   refine⟨_,rfl,x,dx,_,rfl,e2,rfl,_,_,rfl,rfl,(by show(52:Nat)+10<=sizeLine;decide),x,dx,g,ns,n',Cm++fL,rfl,R.ex s2 e2,(by decide+kernel),λH3 s3=>⟨_,rfl,fQ (λh3=>?_) λh3=>?_⟩⟩
   ·obtain⟨kk,hk⟩:=rO h3
    refine⟨_,λ_ _ h=>h,_,rfl,x,dx,_,rfl,s3 _ _ e2,rfl,_,_,rfl,rfl,(by show(52:Nat)+10<=sizeLine;decide),x,dx,g,ns,n',Cm++fL,rfl,(R.ex s2 e2).same s3,?_⟩;rw[hk];intro H4 s4 e4;refine⟨_,rfl,_,_,rfl,rfl,m-1,by omega,n'+1,?_,by omega,(s2.trans s3.ex).trans s4,e4,?_⟩
    ·have e:((16-m:Nat):Int)+1=((16-(m-1):Nat):Int):=by omega
     rw[<-e];rfl
    ·rw[hs]
     obtain⟨m',rfl⟩:∃m',m=m'+1:=⟨m-1,by omega⟩;show(if bd (Cm++fL) ns n'=true then fS ns m' (n'+1)else n')=_;rw[OW h3];rfl
   ·have e:fS ns m n'=n':=by
     cases m with
     |zero=>rfl
     |succ m'=>
      show(if bd (Cm++fL) ns n'=true then fS ns m' (n'+1)else n')=_;rw[OV (by rw[h3];exact O3)]
    rw[hs,e]at k;exact k H3 (s2.trans s3.ex) (s3 _ _ e2)
  ·have h2:¬((16-m:Nat):Int)<16:=λq=>h2 (O0 q)
   have e0:m=0:=by omega
   subst e0;rw[hs]at k;exact k H2 s2 e2
def zb(l:Int):Int:=if(if 60000-10*l+1<10 then 60000-10*l+1 else 10)>0 then(if 60000-10*l+1<10 then 60000-10*l+1 else 10)else 0
def gJ(ns:List Int):Nat->Int->Nat->Except Nat (V×Nat)
 |0,l,n=>.ok (.int l,n)
 |f+1,l,n=>if bd (gd fL none (some (zb l))) ns n=true then(match aX fL ns n with
   |.ok (.int d,m)=>gJ ns f (10*l+d) m
   |.ok (_,m)=>.error m
   |.error e=>.error e)else .ok (.int l,n)
def Af(ns:List Int)(n:Nat):Except Nat (V×Nat):=match aX "123456789" ns n with
 |.ok (.int d,m)=>gJ ns 6 (1+d) m
 |.ok (_,m)=>.error m
 |.error e=>.error e
def En{z:Str}{t:Int}{ns:List Int}{n:Nat}(h:bd (gd z none (some t)) ns n=true):bd z ns n=true:=by
 obtain⟨c,hc,e⟩:=Qk.mp h;refine Qk.mpr ⟨c,?_,e⟩;unfold gd at hc;rw[Rk]at hc;exact Rx (List.mem_of_mem_take hc)
def DH(z:Str)(lo hi:Option Int)(h:z.cps.size<=1000):(gd z lo hi).cps.size<=1000:=by
 unfold gd;simp only[Py,PK,QY];have:z.cps.toList.length=z.cps.size:=by simp
 omega
def G0{l:Int}(h:10000<=l):zb l=0\/l<=6000:=by
 left
 unfold zb;split<;>split<;>omega
def NT(z:Str)(ns:List Int)(n:Nat):bd (gd z none (some 0)) ns n=false:=by
 have e:HT.jW z.length z.length (some 0)=0:=by
  unfold HT.jW;simp
 unfold bd gd;rw[e];simp
def mG:aB ["reader","limit"] ["reader"] (ao (top 81)):=aR
def y6(T:Tx K mg a):a4 P w K mg base (cX P w) 4 a.iP a.sR ["reader"] (wu K a Af):=by
 refine T.iP.F.oQ mG λcdv A outer s H vs Q E hr h=>?_;obtain⟨x,dx,g,ns,n,rfl,R,k⟩:=h;refine⟨_,(ae (eV 1 mG.nd (bz gN az (jf (pv 0) T.aD T.aV (a8 T) hr aA.passes (aa a9 ah)))) (ae (jF Qh (dC (jf (pv 0) T.aD T.bU (eZ T) hr aK (aa (p9 CL (CY T.jG) DG (mw (bu (zp rfl) rfl T.JG (by decide+kernel) (aa az (aa (bu (zT rfl) rfl T.JT (by decide+kernel) (aa az (aa (bz gN (bz nZ (mT T.vB) (bz pR az (pv 1))) az) ah))) ah))))) ah))) (aj (eV 1 mG.nd (bz gN (bz pR az (pv 1)) (jf (pv 0) T.aD T.aV (a8 T) hr aA.passes (aa (CY T.jG) ah)))))) (aj (aF (pv 1))))),?_⟩;refine⟨_,rfl,x,dx,_,rfl,R.ins,rfl,x,dx,g,ns,n,"123456789",rfl,R,?_⟩;unfold Af at k;cases h1:aX "123456789" ns n with
 |error m=>
  rw[h1]at k;exact k
 |ok p=>
  obtain⟨d,rfl,_⟩:=dN h1;rw[h1]at k;replace k:Bz a x dx g H (gJ ns 6 (1+(d:Nat)) (n+1)) Q E:=k;intro H1 s1 e1;refine⟨_,_,rfl,rfl,λm σ H'=>∃(n':Nat)(l:Int),σ=[some (.ref x),some (.int l)]/\m<=6/\1<=l/\(m=5->10<=l)/\(m=4->100<=l)/\(m=3->1000<=l)/\(m<=2->10000<=l)/\Ex x H H'/\H' x=some (.ins a.aY dx (vM g n'))/\gJ ns 6 (1+(d:Nat)) (n+1)=gJ ns m l n',⟨6,n+1,1+(d:Nat),rfl,OZ _,by omega,by omega,by omega,by omega,by omega,s1,e1,rfl⟩,?_⟩
  rintro m σ H2 ⟨n',l,rfl,hm,hl,b5,b4,b3,b2,s2,e2,hs⟩
  refine⟨_,rfl,x,dx,_,rfl,e2,rfl,_,rfl,_,_,rfl,rfl,.inl ⟨by decide,by decide⟩,_,_,rfl,rfl,_,_,rfl,rfl,_,_,rfl,_,_,rfl,_,rfl,_,rfl,(by show(10:Nat)<=sizeLine;decide),x,dx,g,ns,n',gd fL none (some (zb l)),rfl,R.ex s2 e2,DH _ _ _ (by decide+kernel),λH3 s3=>⟨_,rfl,fQ (λh3=>?_) λh3=>?_⟩⟩
  ·obtain⟨kk,hk⟩:=rO (En h3)
   have hm2:2<m:=by
    rcases Q2 2 m with q|q
    ·exact q
    ·exfalso
     rcases G0 (b2 q)with z|z
     ·rw[z,NT]at h3
      cases h3
     ·have:=b2 q
      omega
   refine⟨_,λ_ _ h=>h,_,rfl,_,_,rfl,rfl,.inl ⟨by decide,by decide⟩,_,rfl,x,dx,_,rfl,s3 _ _ e2,rfl,x,dx,g,ns,n',fL,rfl,(R.ex s2 e2).same s3,?_⟩;rw[hk];intro H4 s4 e4;refine⟨_,_,rfl,rfl,m-1,by omega,n'+1,10*l+(kk:Nat),rfl,by omega,by omega,λq=>by omega,λq=>?_,λq=>?_,λq=>?_,(s2.trans s3.ex).trans s4,e4,?_⟩
   ·have:=b5 (by omega);omega
   ·have:=b4 (by omega);omega
   ·have:=b3 (by omega);omega
   ·rw[hs]
    obtain⟨m',rfl⟩:∃m',m=m'+1:=⟨m-1,by omega⟩;show(if bd (gd fL none (some (zb l))) ns n'=true then(match aX fL ns n' with
     |.ok (.int d,m)=>gJ ns m' (10*l+d) m
     |.ok (_,m)=>.error m
     |.error e=>.error e)else .ok (.int l,n'))=_
    rw[OW h3,hk];rfl
  ·have e:gJ ns m l n'=.ok (.int l,n'):=by
    cases m with
    |zero=>rfl
    |succ m'=>
     show(if bd (gd fL none (some (zb l))) ns n'=true then _ else Except.ok (V.int l,n'))=_;rw[OV (by rw[h3];exact O3)]
   rw[hs,e]at k;exact⟨_,rfl,k H3 (s2.trans s3.ex) (s3 _ _ e2)⟩
def manyN(left:Int)(ns:List Int)(n:Nat):Except Nat (V×Nat):=match aX (gd fL (some 1) (some (left+1))) ns n with
 |.error e=>.error e
 |.ok (.int d,m)=>if 0<=left-10*(1+d)/\bd (gd fL none (some (left-10*(1+d)+1))) ns m=true then(match aX fL ns m with
   |.error e=>.error e
   |.ok (.int d2,m2)=>.ok (.int (10*(1+d)+d2),m2)
   |.ok (_,m2)=>.error m2)else .ok (.int (1+d),m)
 |.ok (_,m)=>.error m
def KI(K:OX)(a:Ad):Sp:=λvs H Q E=>∃(x dx g:Addr)(ns:List Int)(n:Nat)(left:Int),vs=[.ref x,.int left]/\fI K a H x dx g ns n/\Bz a x dx g H (manyN left ns n) Q E
def kv:aB ["reader","left","many","more"] ["reader","left"] (ao (top 55)):=aR
def AL(T:Tx K mg a):a4 P w K mg base (cX P w) 4 a.jI a.uS ["reader","left"] (KI K a):=by
 refine T.jI.F.oQ kv λcdv A outer s H vs Q E hr h=>?_;obtain⟨x,dx,g,ns,n,left,rfl,R,k⟩:=h;refine⟨_,(ae (eV 2 kv.nd (bz gN az (jf (pv 0) T.aD T.aV (a8 T) hr aA.passes (aa (p9 CL (CY T.jG) (mw az) (mw (bz gN (pv 1) az))) ah)))) (ae (eV 3 kv.nd (bz nZ (pv 1) (bz pR az (pv 2)))) (ae (bG (PW.pt (gR (aI zV (pv 3) az (aJ _)) (fe (dC (jf (pv 0) T.aD T.bU (eZ T) hr aK (aa (p9 CL (CY T.jG) DG (mw (bz gN (pv 3) az))) ah)))))) (aj (eV 2 kv.nd (bz gN (bz pR az (pv 2)) (jf (pv 0) T.aD T.aV (a8 T) hr aA.passes (aa (CY T.jG) ah))))) aW) (aj (aF (pv 2)))))),?_⟩;refine⟨_,rfl,x,dx,_,rfl,R.ins,rfl,_,rfl,_,rfl,_,_,rfl,rfl,_,rfl,_,rfl,(by show(10:Nat)<=sizeLine;decide),x,dx,g,ns,n,gd fL (some 1) (some (left+1)),rfl,R,?_⟩;unfold manyN at k;cases h1:aX (gd fL (some 1) (some (left+1))) ns n with
 |error m=>
  rw[h1]at k;exact k
 |ok p=>
  obtain⟨d,rfl,_⟩:=dN h1;rw[h1]at k;replace k:Bz a x dx g H (if 0<=left-10*(1+((d:Nat):Int))/\bd (gd fL none (some (left-10*(1+((d:Nat):Int))+1))) ns (n+1)=true then(match aX fL ns (n+1)with
   |.error e=>.error e
   |.ok (.int d2,m2)=>.ok (.int (10*(1+((d:Nat):Int))+d2),m2)
   |.ok (_,m2)=>.error m2)else .ok (.int (1+((d:Nat):Int)),n+1)) Q E:=k
  intro H1 s1 e1;have R1':=R.ex s1 e1;refine⟨_,_,rfl,rfl,_,rfl,_,rfl,_,_,rfl,rfl,.inl ⟨by decide,by decide⟩,_,_,rfl,rfl,?_⟩;refine⟨_,rfl,_,_,rfl,rfl,_,rfl,gD (λh2=>?_) λh2=>?_⟩
  ·have h2:0<=left-10*(1+((d:Nat):Int)):=O7 h2
   refine⟨_,rfl,x,dx,_,rfl,e1,rfl,_,rfl,_,_,rfl,rfl,_,rfl,_,rfl,(by show(10:Nat)<=sizeLine;decide),x,dx,g,ns,n+1,gd fL none (some (left-10*(1+((d:Nat):Int))+1)),rfl,R1',DH _ _ _ (by decide+kernel),λH3 s3=>⟨_,rfl,fQ (λh3=>?_) λh3=>?_⟩⟩
   ·rw[OW ⟨h2,h3⟩]at k
    obtain⟨kk,hk⟩:=rO (En h3);refine⟨_,rfl,_,_,rfl,rfl,.inl ⟨by decide,by decide⟩,_,rfl,x,dx,_,rfl,s3 _ _ e1,rfl,x,dx,g,ns,n+1,fL,rfl,R1'.same s3,?_⟩;rw[hk]at k ⊢;intro H4 s4 e4;exact⟨_,_,rfl,rfl,_,rfl,k H4 ((s1.trans s3.ex).trans s4) e4⟩
   ·rw[OV (λq=>by rw[q.2]at h3;cases h3)]at k
    exact⟨_,rfl,k H3 (s1.trans s3.ex) (s3 _ _ e1)⟩
  ·have h2:¬0<=left-10*(1+((d:Nat):Int)):=λq=>h2 (O0 q)
   rw[OV (λq=>h2 q.1)]at k;exact⟨_,rfl,k H1 s1 e1⟩
def Kp(p q:Addr)(z:Str)(t:Int):List (Str×V):=[("pieces",.ref p),("places",.ref q),("signs",.str z),("turn",.int t)]
structure jd(a:Ad)(H:Hp)(x dx p q:Addr)(ps qs:List Int)(z:Str)(t:Int):Prop where
 ins:H x=some (.ins a.bv dx (Kp p q z t))
 EQ:H p=some (.lst (ps.map V.int))
 Fv:H q=some (.lst (qs.map V.int))
 ne:p≠q
def G_(a:Ad):Sp:=λvs H Q _=>∃(x dx:Addr),vs=[.ref x]/\H x=some (.ins a.bv dx [])/\∀H' p q,Ex x H H'->H p=none->H q=none->jd a H' x dx p q [] [] "hmK" 0->Q .eC H'
def sY:aB ["self"] ["self"] (ao (inClass (top 54) 0)):=aR
def tP(T:Tx K mg a):a4 P w K mg base (cX P w) 1 a.di a.nJ ["self"] (G_ a):=by
 refine T.di.F.lL sY λcdv A outer s H vs Q E hr h=>?_;obtain⟨x,dx,rfl,hx,k⟩:=h;refine⟨_,(ae (a5 (pv 0) (cf ah) rfl) (ae (a5 (pv 0) (cf ah) rfl) (ae (a5 (pv 0) a9 rfl) (aj (a5 (pv 0) az rfl))))),?_⟩;refine⟨P4 _,λp hp=>?_⟩;have px:x≠p:=au hx hp;refine⟨_,rfl,x,_,dx,_,rfl,(by rw[ak px];exact hx),T.bC.cl,T.dA,(by decide),?_⟩;refine⟨P4 _,λq hq=>?_⟩;have qx:q≠x:=λz=>by rw[z,ai]at hq;cases hq
 rw[ak qx]at hq;have qp:q≠p:=λz=>by rw[z,ai]at hq;cases hq
 rw[ak qp]at hq;refine⟨_,rfl,x,_,dx,_,rfl,(by rw[ak (Pb qx),ai]),T.bC.cl,T.eW,(by show 1<1000;decide),?_⟩;refine⟨_,rfl,x,_,dx,_,rfl,ai,T.bC.cl,T.iS,(by show 2<1000;decide),?_⟩;refine⟨_,rfl,x,_,dx,_,rfl,ai,T.bC.cl,T.jq,(by show 3<1000;decide),?_⟩;refine k _ p q (λb o e nb=>?_) hp hq ⟨ai,?_,?_,Pb qp⟩
 ·rw[ak nb,ak nb,ak nb,ak (au e hq),ak nb,ak (au e hp)]
  exact e
 ·rw[ak (Pb px),ak (Pb px),ak (Pb px),ak (Pb qp),ak (Pb px),ai]
  rfl
 ·rw[ak qx,ak qx,ak qx,ai]
  rfl
def Fx(l:List Addr)(H H':Hp):Prop:=∀b o,H b=some o->b∉l->H' b=some o
def Fx.refl{l:List Addr}{H:Hp}:Fx l H H:=λ_ _ h _=>h
def Fx.trans{l:List Addr}{H H1 H2:Hp}(p:Fx l H H1)(q:Fx l H1 H2):Fx l H H2:=λb o h n=>q b o (p b o h n) n
def Fx.mono{l l':List Addr}{H H1:Hp}(p:Fx l H H1)(k:∀b∈l,b∈l'):Fx l' H H1:=λb o h n=>p b o h λz=>n (k b z)
def Ex.fx{x:Addr}{l:List Addr}{H H1:Hp}(p:Ex x H H1)(h:x∈l):Fx l H H1:=λb o q n=>p b o q λz=>n (z▸h)
def _root_.L2.aE.fx{l:List Addr}{H H1:Hp}(p:aE H H1):Fx l H H1:=λb o h _=>p b o h
def Fx.set{l:List Addr}{H:Hp}{b:Addr}{o:HO}(h:b∈l):Fx l H (upd H b o):=λc u q n=>by
 rw[ak (λz=>n (by rw[z];exact h))];exact q
def nF:HO->Nat
 |.ins _ _ fs=>fs.length
 |_=>0
def h_(a:Ad)(l:List Addr)(H:Hp)(n:Nat)(E:XK):Prop:=∀(H':Hp)(e d:Addr),Fx l H H'->H' e=some (XO e a.e_ (some d) true)->H' d=some (XD d [("place",.int n)])->E (.ref a.e_) (some e) H'
def h_.after{l:List Addr}{H H1:Hp}{n:Nat}{E:XK}(h:h_ a l H n E)(e:Fx l H H1):h_ a l H1 n E:=λH' c d q=>h H' c d (e.trans q)
def h_.e{l:List Addr}{x:Addr}{H:Hp}{n:Nat}{E:XK}(h:h_ a l H n E)(m:x∈l):fK a x H n E:=λH' c d q=>h H' c d (q.fx m)
def jd.Jb{H:Hp}{x dx p q:Addr}{ps qs:List Int}{z:Str}{t:Int}(L:jd a H x dx p q ps qs z t):x≠p/\x≠q:=⟨bf L.ins L.EQ (λz=>nomatch z),bf L.ins L.Fv (λz=>nomatch z)⟩
def jd.fx{H H':Hp}{x dx p q:Addr}{ps qs:List Int}{z:Str}{t:Int}{l:List Addr}(L:jd a H x dx p q ps qs z t)(f:Fx l H H')(h1:x∉l)(h2:p∉l)(h3:q∉l):jd a H' x dx p q ps qs z t:=⟨f _ _ L.ins h1,f _ _ L.EQ h2,f _ _ L.Fv h3,L.ne⟩
def KJ(a:Ad):Sp:=λvs H Q _=>∃(x dx p q:Addr)(ps qs:List Int)(z:Str)(t:Int)(m:Nat),vs=[.ref x,.int (m:Nat)]/\jd a H x dx p q ps qs z t/\m<=1000/\ps.length<=1000/\qs.length<=1000/\
 ∀H',Fx [p,q] H H'->jd a H' x dx p q (ps++List.replicate m 0) (qs++List.replicate m 0) z t->Q .eC H'
def Cc(ps:List Int)(i:Nat):(ps++List.replicate i (0:Int)).map V.int++[V.int 0]=(ps++List.replicate (i+1) 0).map V.int:=by
 rw[Ry,<-P9,Pn (l₁:=ps++List.replicate i 0)];rfl
def iE:aB ["self","many","cell"] ["self","many"] (ao (inClass (top 54) 1)):=aR
def nI(T:Tx K mg a):a4 P w K mg base (cX P w) 1 a.cz a.iN ["self","many"] (KJ a):=by
 refine T.cz.F.lL iE λcdv A outer s H vs Q E hr h=>?_;obtain⟨x,dx,p,q,ps,qs,z,t,m,rfl,L,hm,hp,hq,k⟩:=h;obtain⟨xp,xq⟩:=L.Jb;refine⟨_,(aj (dL Ql rfl (dP rfl T.g_ (aa (pv 1) ah)) (kR 2 iE.nd) (ae (aZ (jg PQ Qo Qp gH (ay (pv 0) rfl) (aa (mT T.i7) ah))) (aj (aZ (jg PQ Qo Qp gH (ay (pv 0) rfl) (aa az ah))))))),?_⟩;refine⟨_,rfl,_,rfl,(by omega),(by omega),nj (n:=m) (λi σ H'=>(∃u,σ=[some (.ref x),some (.int (m:Nat)),u])/\Fx [p,q] H H'/\jd a H' x dx p q (ps++List.replicate i 0) (qs++List.replicate i 0) z t) ⟨⟨_,rfl⟩,Fx.refl,by simpa using L⟩ (λi σ H1 hi⟨⟨u,e⟩,f1,L1⟩=>?_) λσ H1⟨⟨u,e⟩,f1,L1⟩=>?_⟩
 ·subst e
  refine⟨_,rfl,x,_,_,_,_,rfl,L1.ins,T.bC.cl,T.dA,rfl,.inl ⟨rfl,_,a0.of L1.EQ⟩,p,_,_,rfl,rfl,L1.EQ,(by rw[OU,Pd,PP,O2];omega),?_⟩;have L2q:upd H1 p (.lst ((ps++List.replicate i 0).map V.int++[V.int 0])) q=some (.lst ((qs++List.replicate i 0).map V.int)):=by rw[ak (Pb L1.ne)];exact L1.Fv
  have L2x:upd H1 p (.lst ((ps++List.replicate i 0).map V.int++[V.int 0])) x=some (.ins a.bv dx (Kp p q z t)):=by rw[ak xp];exact L1.ins
  refine⟨_,rfl,x,_,_,_,_,rfl,L2x,T.bC.cl,T.eW,rfl,.inl ⟨rfl,_,a0.of L2q⟩,q,_,_,rfl,rfl,L2q,(by rw[OU,Pd,PP,O2];omega),?_⟩;refine⟨⟨_,rfl⟩,(f1.trans (Fx.set (by simp))).trans (Fx.set (by simp)),?_,?_,?_,L1.ne⟩
  ·rw[ak xq,ak xp]
   exact L1.ins
  ·rw[ak L1.ne,ai,Cc]
  ·rw[ai,Cc]
 ·exact k H1 f1 L1
def putN(z:Str)(ns:List Int)(n:Nat):Except Nat (Int×Nat):=match cN z ns n with
 |some k=>.ok (1+(k:Nat),n+1)
 |none=>.error n
def JX(K:OX)(a:Ad):Sp:=λvs H Q E=>∃(x dx p q:Addr)(ps qs:List Int)(z:Str)(t:Int)(r rx g:Addr)(ns:List Int)(n:Nat),vs=[.ref x,.ref r]/\jd a H x dx p q ps qs z t/\fI K a H r rx g ns n/\g≠p/\g≠q/\ps.length<=1000/\qs.length<=1000/\
 (match putN z ns n with
  |.ok (v,n')=>∀H',Fx [x,p,q,r] H H'->jd a H' x dx p q (ps++[v]) (qs++[(n:Int)]) (if v=3 then"hm" else z) t->fI K a H' r rx g ns n'->Q .eC H'
  |.error m=>h_ a [x,p,q,r] H m E)
def tX:aB ["self","reader"] ["self","reader"] (ao (inClass (top 54) 2)):=aR
def ue(T:Tx K mg a):a4 P w K mg base (cX P w) 4 a.fj a.oF ["self","reader"] (JX K a):=by
 refine T.fj.F.oQ tX λcdv A outer s H vs Q E hr h=>?_;obtain⟨x,dx,p,q,ps,qs,z,t,r,rx,g,ns,n,rfl,L,R,gp,gq,hp,hq,k⟩:=h;obtain⟨xp,xq⟩:=L.Jb;have rp:r≠p:=bf R.ins L.EQ λz=>nomatch z;have rq:r≠q:=bf R.ins L.Fv λz=>nomatch z;have rx':r≠x:=bf R.ins L.ins λz=>absurd (P_ nF z) (by show¬2=4;decide);refine⟨_,(ae (aZ (jg PQ Qo Qp gH (ay (pv 0) rfl) (aa (ay (pv 1) rfl) ah))) (ae (aZ (jg PQ Qo Qp gH (ay (pv 0) rfl) (aa (bz gN az (jf (pv 1) T.aD T.aV (a8 T) hr aA.passes (aa (ay (pv 0) rfl) ah))) ah))) (aj (bG (aI bQ (bj a_ (ay (pv 0) rfl) (oB jY az) (λ_ _=>rfl)) (mT T.jZ) (aJ _)) (aj (a5 (pv 0) a9 rfl)) aW)))),?_⟩;refine⟨_,rfl,x,_,_,_,_,rfl,L.ins,T.bC.cl,T.eW,rfl,.inl ⟨rfl,_,a0.of L.Fv⟩,_,rfl,r,_,_,_,_,rfl,R.ins,T.aD.cl,T.bL,rfl,q,_,_,rfl,rfl,L.Fv,(by rw[OU,O2];omega),?_⟩;generalize hH1:upd H q (.lst (qs.map V.int++[V.int n]))=H1;have i1:H1 x=some (.ins a.bv dx (Kp p q z t)):=by rw[<-hH1,ak xq];exact L.ins
 have i2:H1 p=some (.lst (ps.map V.int)):=by rw[<-hH1,ak L.ne];exact L.EQ
 have i3:H1 q=some (.lst ((qs++[(n:Int)]).map V.int)):=by rw[<-hH1,ai,Pn];rfl
 have f1:Fx [x,p,q,r] H H1:=by rw[<-hH1];exact Fx.set (by simp)
 have R1':fI K a H1 r rx g ns n:=by
  exact⟨by rw[<-hH1,ak rq];exact R.ins,by rw[<-hH1,ak gq];exact R.gv⟩
 refine⟨_,rfl,x,_,_,_,_,rfl,i1,T.bC.cl,T.dA,rfl,.inl ⟨rfl,_,a0.of i2⟩,_,rfl,r,rx,_,rfl,R1'.ins,rfl,_,rfl,x,_,_,_,_,rfl,i1,T.bC.cl,T.iS,rfl,r,rx,g,ns,n,z,rfl,R1',?_⟩;unfold aX;unfold putN at k;cases hk:cN z ns n with
 |none=>
  rw[hk]at k;exact(h_.after k f1).e (by simp)
 |some j=>
  rw[hk]at k;replace k:∀H',Fx [x,p,q,r] H H'->jd a H' x dx p q (ps++[1+((j:Nat):Int)]) (qs++[(n:Int)]) (if 1+((j:Nat):Int)=3 then"hm" else z) t->fI K a H' r rx g ns (n+1)->Q .eC H':=k;intro H2 s2 e2;have j1:=s2 _ _ i1 (Pb rx');have j2:=s2 _ _ i2 (Pb rp);have j3:=s2 _ _ i3 (Pb rq);have R2:=R1'.ex s2 e2;refine⟨_,_,rfl,rfl,p,_,_,rfl,rfl,j2,(by rw[OU,O2];omega),?_⟩;generalize hH3:upd H2 p (.lst (ps.map V.int++[V.int (1+((j:Nat):Int))]))=H3;have k1:H3 x=some (.ins a.bv dx (Kp p q z t)):=by rw[<-hH3,ak xp];exact j1
  have k2:H3 p=some (.lst ((ps++[1+((j:Nat):Int)]).map V.int)):=by rw[<-hH3,ai,Pn];rfl
  have k3:H3 q=some (.lst ((qs++[(n:Int)]).map V.int)):=by rw[<-hH3,ak (Pb L.ne)];exact j3
  have f3:Fx [x,p,q,r] H H3:=by rw[<-hH3];exact(f1.trans (s2.fx (by simp))).trans (Fx.set (by simp))
  have R3:fI K a H3 r rx g ns (n+1):=by
   exact⟨by rw[<-hH3,ak rp];exact e2,by rw[<-hH3,ak gp];exact R2.gv⟩
  have last:Cg ((ps++[1+((j:Nat):Int)]).map V.int) (-1)=some (V.int (1+((j:Nat):Int))):=by
   unfold Cg HF;rw[OV (by decide),OW (by rw[OU,Pd,P0];omega)];have e:((-1:Int)+(((ps++[1+((j:Nat):Int)]).map V.int).length:Nat)).toNat=ps.length:=by
    rw[OU,Pd,P0];omega
   rw[Qm,e,Pn];simp
  refine⟨_,rfl,x,_,_,_,_,rfl,k1,T.bC.cl,T.dA,rfl,_,rfl,p,_,_,_,rfl,rfl,a0.of k2,last,rfl,_,rfl,dH (λh3=>?_) λh3=>?_⟩
  ·refine⟨_,rfl,x,_,dx,_,rfl,k1,T.bC.cl,T.iS,(by show 4<1000;decide),?_⟩
   refine k _ (f3.trans (Fx.set (by simp))) ⟨?_,?_,?_,L.ne⟩ ⟨?_,?_⟩
   ·rw[ai,OW h3]
    rfl
   ·rw[ak (Pb xp)]
    exact k2
   ·rw[ak (Pb xq)]
    exact k3
   ·rw[ak rx']
    exact R3.ins
   ·rw[ak (bf R3.gv k1 λz=>nomatch z)]
    exact R3.gv
  ·refine k H3 f3 ⟨?_,k2,k3,L.ne⟩ R3
   rw[OV h3];exact k1
def iB{z:Str}{ns:List Int}{n k:Nat}(h:cN z ns n=some k):k<z.cps.toList.length/\∃c,z.cps.toList[k]? =some c/\ns[n]? =some (c:Int):=by
 unfold cN at h;cases hb:ns[n]? with
 |none=>rw[hb]at h;cases h
 |some b=>
  rw[hb]at h;obtain⟨hk,e,_⟩:=List.findIdx?_eq_some_iff_getElem.mp h;exact⟨hk,_,OY hk,by rw[O7 e]⟩
def Hz{d c:Nat}(h:fL.cps.toList[d]? =some c):c=48+d/\d<10:=by
 have hd:d<10:=by
  have:=(O6.mp h).1;exact this
 have all:∀d:Fin 10,fL.cps.toList[(d:Nat)]? =some (48+(d:Nat)):=by decide+kernel
 have q:=all ⟨d,hd⟩;rw[show((⟨d,hd⟩:Fin 10):Nat)=d from rfl,h]at q;exact⟨Pu q,hd⟩
def Gu{t:Nat}{c:Nat}(h:c∈(gd fL none (some (t:Int))).cps.toList):∃d,d<t/\d<10/\c=48+d:=by
 unfold gd at h;rw[Rk,HT.GP,HT.qh,List.drop_zero]at h;obtain⟨d,hd,e⟩:=QQ h;rw[PK]at hd;rw[List.getElem_take]at e;have q:fL.cps.toList[d]? =some c:=by rw[OY (by omega),e]
 obtain⟨q1,q2⟩:=Hz q;exact⟨d,by omega,q2,q1⟩
def kX{left:Nat}{ns:List Int}{n n':Nat}{v:V}(h:manyN (left:Int) ns n=.ok (v,n')):∃m:Nat,v=.int (m:Nat)/\1<=m/\m<=left:=by
 unfold manyN at h;cases h1:aX (gd fL (some 1) (some ((left:Int)+1))) ns n with
 |error e=>rw[h1]at h;cases h
 |ok p=>
  obtain⟨d,rfl,hd⟩:=dN h1;rw[h1]at h;have hd1:1+d<=left:=by
   have:=(iB hd).1;unfold gd at this;rw[Rk,PK,QY]at this;have e1:HT.jW fL.length 0 (some 1)=1:=by decide+kernel
   have e2:HT.jW fL.length fL.length (some ((left:Int)+1))<=left+1:=by
    have e:((left:Int)+1)=((left+1:Nat):Int):=by omega
    rw[e,HT.qh];omega
   omega
  replace h:(if 0<=(left:Int)-10*(1+((d:Nat):Int))/\bd (gd fL none (some ((left:Int)-10*(1+((d:Nat):Int))+1))) ns (n+1)=true then(match aX fL ns (n+1)with
    |.error e=>.error e
    |.ok (.int d2,m2)=>.ok (.int (10*(1+((d:Nat):Int))+d2),m2)
    |.ok (_,m2)=>.error m2)else .ok (.int (1+((d:Nat):Int)),n+1))=Except.ok (v,n'):=h
  by_cases hc:0<=(left:Int)-10*(1+((d:Nat):Int))/\bd (gd fL none (some ((left:Int)-10*(1+((d:Nat):Int))+1))) ns (n+1)=true
  ·rw[OW hc]at h
   cases h2:aX fL ns (n+1)with
   |error e=>rw[h2]at h;cases h
   |ok p2=>
    obtain⟨d2,rfl,hd2⟩:=dN h2;rw[h2]at h;cases h;obtain⟨_,c,hc1,hc2⟩:=iB hd2;obtain⟨e1,e2⟩:=Hz hc1;obtain⟨c',hm,e3⟩:=Qk.mp hc.2;have e3:ns[n+1]? =some (c':Int):=eq_of_beq e3;rw[hc2]at e3;have e4:(c:Int)=(c':Int):=Pu e3;have et:(left:Int)-10*(1+((d:Nat):Int))+1=((left-10*(1+d)+1:Nat):Int):=by have:=hc.1;omega
    rw[et]at hm;obtain⟨d',q1,q2,q3⟩:=Gu hm;refine⟨10*(1+d)+d2,?_,by omega,?_⟩
    ·congr 1
    ·have:=hc.1
     omega
  ·rw[OV hc]at h
   cases h;exact⟨1+d,by congr 1,by omega,hd1⟩
def eF(ns:List Int):Nat->Nat->Bool->List Int->List Int->Str->Nat->Except Nat (List Int×List Int×Str×Nat)
 |0,_,_,_,_,_,n=>.error n
 |f+1,left,beh,ps,qs,z,n=>if left=0 then .ok (ps,qs,z,n)else
  if beh=false/\bd fL ns n=true then(match manyN (left:Int) ns n with
   |.error e=>.error e
   |.ok (.int m,n')=>eF ns f (left-m.toNat) true (ps++List.replicate m.toNat 0) (qs++List.replicate m.toNat 0) z n'
   |.ok (_,n')=>.error n')
  else match putN z ns n with
   |.error e=>.error e
   |.ok (v,n')=>eF ns f (left-1) false (ps++[v]) (qs++[(n:Int)]) (if v=3 then"hm" else z) n'
def qo(ns:List Int):∀(left f f':Nat)(beh:Bool)(ps qs:List Int)(z:Str)(n:Nat),left<f->left<f'->eF ns f left beh ps qs z n=eF ns f' left beh ps qs z n:=by
 intro left
 induction left using Nat.strongRecOn with
 |_ left ih=>
  intro f f' beh ps qs z n h1 h2;obtain⟨f,rfl⟩:∃k,f=k+1:=⟨f-1,by omega⟩;obtain⟨f',rfl⟩:∃k,f'=k+1:=⟨f'-1,by omega⟩;unfold eF
  by_cases h0:left=0
  ·rw[OW h0,OW h0]
  ·rw[OV h0,OV h0]
   by_cases hb:beh=false/\bd fL ns n=true
   ·rw[OW hb,OW hb]
    cases hm:manyN (left:Int) ns n with
    |error e=>rfl
    |ok p=>
     obtain⟨v,n'⟩:=p;obtain⟨m,rfl,m1,m2⟩:=kX hm;exact ih (left-m) (by omega) f f' _ _ _ _ _ (by omega) (by omega)
   ·rw[OV hb,OV hb]
    cases hm:putN z ns n with
    |error e=>rfl
    |ok p=>exact ih (left-1) (by omega) f f' _ _ _ _ _ (by omega) (by omega)
def JW(K:OX)(a:Ad):Sp:=λvs H Q E=>∃(x dx p q:Addr)(ps qs:List Int)(z:Str)(t:Int)(r rx g:Addr)(ns:List Int)(n wide:Nat),vs=[.ref r,.int (wide:Nat),.ref x]/\jd a H x dx p q ps qs z t/\fI K a H r rx g ns n/\g≠p/\g≠q/\wide<=500/\ps.length+wide<=500/\qs.length+wide<=500/\
 (match eF ns (wide+1) wide false ps qs z n with
  |.ok (ps',qs',z',n')=>∀H',Fx [x,p,q,r] H H'->jd a H' x dx p q ps' qs' z' t->fI K a H' r rx g ns n'->Q .eC H'
  |.error m=>h_ a [x,p,q,r] H m E)
def fI.fx{H H':Hp}{r rx g:Addr}{ns:List Int}{n:Nat}{l:List Addr}(R:fI K a H r rx g ns n)(f:Fx l H H')(h1:r∉l)(h2:g∉l):fI K a H' r rx g ns n:=by
 exact⟨f _ _ R.ins h1,f _ _ R.gv h2⟩
def GG{H:Hp}{r rx g x dx p q:Addr}{ns ps qs:List Int}{n:Nat}{z:Str}{t:Int}(R:fI K a H r rx g ns n)(L:jd a H x dx p q ps qs z t):r≠x/\r≠p/\r≠q:=⟨bf R.ins L.ins (λz=>absurd (P_ nF z) (by show¬2=4;decide)),bf R.ins L.EQ (λz=>nomatch z),bf R.ins L.Fv (λz=>nomatch z)⟩
def eO:aB ["reader","wide","draft","left","behind_number","many"] ["reader","wide","draft"] (ao (top 56)):=aR
def A_(T:Tx K mg a):a4 P w K mg base (cX P w) 5 a.lA a.yk ["reader","wide","draft"] (JW K a):=by
 refine T.lA.F.oQ eO λcdv A outer s H vs Q E hr h=>?_;obtain⟨x,dx,p,q,ps,qs,z,t,r,rx,g,ns,n,wide,rfl,L,R,gp,gq,hw,hp,hq,k⟩:=h;refine⟨_,(ae (eV 3 eO.nd (pv 1)) (ae (eV 4 eO.nd rm) (aj (jF Qh (aI oJ (pv 3) az (aJ _)) (aj (bG (PW.pt (gR (lH (dC (pv 4))) (fe (dC (jf (pv 0) T.aD T.bU (eZ T) hr aK (aa (CY T.jG) ah)))))) (ae (eV 5 eO.nd (dn T.jI (AL T) hr aA.passes (aa (pv 0) (aa (pv 3) ah)))) (ae (aZ (jf (pv 2) T.bC T.cz (nI T) hr aK (aa (pv 5) ah))) (ae (GN 3 eO.nd (pv 5) Gb) (aj (eV 4 eO.nd rm))))) (ae (aZ (jf (pv 2) T.bC T.fj (ue T) hr aA.passes (aa (pv 0) ah))) (ae (GN 3 eO.nd az Gb) (aj (eV 4 eO.nd rm)))))))))),?_⟩;refine⟨_,rfl,?_⟩;refine⟨λm σ H'=>∃beh ps' qs' z' n' u,σ=[some (.ref r),some (.int (wide:Nat)),some (.ref x),some (.int (m:Nat)),some (.bl beh),u]/\m<=500/\ps'.length+m<=500/\qs'.length+m<=500/\Fx [x,p,q,r] H H'/\jd a H' x dx p q ps' qs' z' t/\fI K a H' r rx g ns n'/\eF ns (wide+1) wide false ps qs z n=eF ns (m+1) m beh ps' qs' z' n',⟨wide,false,ps,qs,z,n,_,rfl,hw,hp,hq,Fx.refl,L,R,rfl⟩,?_⟩
 rintro m σ H1 ⟨beh,ps',qs',z',n',u,rfl,bm,bp,bq,f1,L1,R1',hs⟩
 obtain⟨n1,n2',n3⟩:=GG R1' L1;obtain⟨xp,xq⟩:=L1.Jb;refine⟨_,rfl,_,_,rfl,rfl,_,rfl,gD (λh2=>?_) λh2=>?_⟩
 ·have hm:m≠0:=by have:=O7 h2;omega
  refine⟨_,λ_ _ h=>h,?_⟩;have step:eF ns (m+1) m beh ps' qs' z' n'=(if beh=false/\bd fL ns n'=true then(match manyN (m:Int) ns n' with
    |.error e=>.error e
    |.ok (.int d,n2)=>eF ns m (m-d.toNat) true (ps'++List.replicate d.toNat 0) (qs'++List.replicate d.toNat 0) z' n2
    |.ok (_,n2)=>.error n2)
   else match putN z' ns n' with
    |.error e=>.error e
    |.ok (v,n2)=>eF ns m (m-1) false (ps'++[v]) (qs'++[(n':Int)]) (if v=3 then"hm" else z') n2):=by
   conv=>lhs;unfold eF
   rw[OV hm]
  rw[hs,step]at k;have put_ok:∀H2,aE H1 H2->¬(beh=false/\bd fL ns n'=true)->∀Q':VK,(∀H3 v n2,Fx [x,p,q,r] H H3->jd a H3 x dx p q (ps'++[v]) (qs'++[(n':Int)]) (if v=3 then"hm" else z') t->fI K a H3 r rx g ns n2->
    eF ns (wide+1) wide false ps qs z n=eF ns (m-1+1) (m-1) false (ps'++[v]) (qs'++[(n':Int)]) (if v=3 then"hm" else z') n2->Q' .eC H3)->JX K a [.ref x,.ref r] H2 Q' E:=by
   intro H2 s2 hc Q' hQ;rw[OV hc]at k step;refine⟨x,dx,p,q,ps',qs',z',t,r,rx,g,ns,n',rfl,L1.fx (l:=[]) s2.fx (by simp) (by simp) (by simp),R1'.same s2,gp,gq,by omega,by omega,?_⟩;cases hp:putN z' ns n' with
   |error e=>
    rw[hp]at k;exact h_.after k (f1.trans s2.fx)
   |ok pr=>
    obtain⟨v,n2⟩:=pr;rw[hp]at step;intro H3 f3 L3 R3;refine hQ H3 v n2 ((f1.trans s2.fx).trans f3) L3 R3 ?_;rw[hs,step];exact qo ns (m-1) m (m-1+1) _ _ _ _ _ (by omega) (by omega)
  have em1:((m:Nat):Int)-1=((m-1:Nat):Int):=by omega
  have lens:∀(l:List Int)(v:Int),l.length+m<=500->(l++[v]).length+(m-1)<=500:=λl v h=>by rw[Pd,P0];omega
  refine⟨_,rfl,_,rfl,fQ (λh3=>?_) λh3=>?_⟩
  ·have hb:beh=false:=by simpa using h3
   subst hb;refine⟨_,rfl,r,rx,_,rfl,R1'.ins,rfl,r,rx,g,ns,n',fL,rfl,R1',(by decide+kernel),λH2 s2=>⟨_,rfl,fQ (λh4=>?_) λh4=>?_⟩⟩
   ·rw[OW ⟨rfl,h4⟩]at k step
    refine⟨_,rfl,_,rfl,r,rx,g,ns,n',(m:Int),rfl,R1'.same s2,?_⟩;cases hmm:manyN (m:Int) ns n' with
    |error e=>
     rw[hmm]at k;exact(h_.after k (f1.trans s2.fx)).e (by simp)
    |ok pr=>
     obtain⟨v,n2⟩:=pr;obtain⟨d,rfl,d1,d2⟩:=kX hmm;rw[hmm]at step;replace step:eF ns (m+1) m false ps' qs' z' n'=eF ns m (m-d) true (ps'++List.replicate d 0) (qs'++List.replicate d 0) z' n2:=step;intro H3 s3 e3;have L2':=L1.fx (l:=[]) s2.fx (by simp) (by simp) (by simp);have L3:jd a H3 x dx p q ps' qs' z' t:=⟨s3 _ _ L2'.ins (Pb n1),s3 _ _ L2'.EQ (Pb n2'),s3 _ _ L2'.Fv (Pb n3),L1.ne⟩;have R3:=(R1'.same s2).ex s3 e3;refine⟨_,rfl,x,dx,_,rfl,L3.ins,rfl,_,rfl,x,dx,p,q,ps',qs',z',t,d,rfl,L3,by omega,by omega,by omega,λH4 f4 L4=>?_⟩;have gx:g∉[p,q]:=by simp[gp,gq]
     have rx2:r∉[p,q]:=by simp[n2',n3]
     refine⟨_,rfl,_,rfl,_,_,rfl,rfl,m-d,by omega,true,_,_,z',n2,some (V.int (d:Nat)),?_,by omega,?_,?_,((f1.trans s2.fx).trans (s3.fx (by simp))).trans (f4.mono (by simp)),L4,R3.fx f4 rx2 gx,?_⟩
     ·have em:((m:Nat):Int)-((d:Nat):Int)=((m-d:Nat):Int):=by omega
      rw[<-em];rfl
     ·rw[Pd,PP];omega
     ·rw[Pd,PP];omega
     ·rw[hs,step]
      exact qo ns (m-d) m (m-d+1) _ _ _ _ _ (by omega) (by omega)
   ·refine⟨_,rfl,x,dx,_,rfl,(L1.fx (l:=[]) s2.fx (by simp) (by simp) (by simp)).ins,rfl,_,rfl,?_⟩
    dsimp only[rN];refine put_ok H2 s2 (λq=>by rw[q.2]at h4;cases h4) _ λH3 v n2 f3 L3 R3 e=>?_;refine⟨_,rfl,_,_,rfl,rfl,m-1,by omega,false,_,_,_,n2,u,?_,by omega,lens _ _ bp,lens _ _ bq,f3,L3,R3,e⟩;rw[<-em1];rfl
  ·have hb:beh=true:=by simpa using h3
   refine⟨_,rfl,x,dx,_,rfl,L1.ins,rfl,_,rfl,?_⟩;dsimp only[rN];refine put_ok H1 (aE.refl _) (λq=>by rw[hb]at q;cases q.1) _ λH3 v n2 f3 L3 R3 e=>?_;refine⟨_,rfl,_,_,rfl,rfl,m-1,by omega,false,_,_,_,n2,u,?_,by omega,lens _ _ bp,lens _ _ bq,f3,L3,R3,e⟩;rw[<-em1];rfl
 ·have hm:m=0:=by
   have:¬(0:Int)<(m:Nat):=λq=>h2 (O0 q);omega
  subst hm;have e:eF ns (0+1) 0 beh ps' qs' z' n'=.ok (ps',qs',z',n'):=by
   unfold eF;rw[OW rfl]
  rw[hs,e]at k;exact k H1 f1 L1 R1'
def Cb(ns:List Int):∀(left f:Nat)(beh:Bool)(ps qs:List Int)(z:Str)(n:Nat)(r:List Int×List Int×Str×Nat),eF ns f left beh ps qs z n=.ok r->r.1.length=ps.length+left/\r.2.1.length=qs.length+left:=by
 intro left
 induction left using Nat.strongRecOn with
 |_ left ih=>
  intro f beh ps qs z n r h;cases f with
  |zero=>cases h
  |succ f=>
   unfold eF at h
   by_cases h0:left=0
   ·rw[OW h0]at h
    cases h;subst h0;exact⟨rfl,rfl⟩
   ·rw[OV h0]at h
    by_cases hb:beh=false/\bd fL ns n=true
    ·rw[OW hb]at h
     cases hm:manyN (left:Int) ns n with
     |error e=>rw[hm]at h;cases h
     |ok p=>
      obtain⟨v,n'⟩:=p;obtain⟨m,rfl,m1,m2⟩:=kX hm;rw[hm]at h;obtain⟨q1,q2⟩:=ih (left-m) (by omega) f _ _ _ _ _ r h;rw[Pd,PP]at q1 q2;have e:((m:Nat):Int).toNat=m:=by omega
      rw[e]at q1 q2;exact⟨by omega,by omega⟩
    ·rw[OV hb]at h
     cases hm:putN z ns n with
     |error e=>rw[hm]at h;cases h
     |ok p=>
      rw[hm]at h;obtain⟨q1,q2⟩:=ih (left-1) (by omega) f _ _ _ _ _ r h;rw[Pd,P0]at q1 q2;exact⟨by omega,by omega⟩
def fO(ns:List Int)(wide:Nat):Nat->Bool->List Int->List Int->Str->Nat->Except Nat (List Int×List Int×Str×Nat)
 |0,_,ps,qs,z,n=>.ok (ps,qs,z,n)
 |k+1,first,ps,qs,z,n=>match(if first=true then Except.ok n else da ns [47] n)with
  |.error e=>.error e
  |.ok n1=>match eF ns (wide+1) wide false ps qs z n1 with
   |.error e=>.error e
   |.ok (ps',qs',z',n2)=>fO ns wide k false ps' qs' z' n2
def jk(wide high:Nat)(ns:List Int):Except Nat (List Int×List Int×Int):=match fO ns wide high true [] [] "hmK" 0 with
 |.error e=>.error e
 |.ok (ps,qs,_,n)=>match da ns [32] n with
  |.error e=>.error e
  |.ok n1=>match aX "hk" ns n1 with
   |.error e=>.error e
   |.ok (.int t,n2)=>if n2<ns.length then .error n2 else .ok (ps,qs,t)
   |.ok (_,n2)=>.error n2
def Jo(K:OX)(a:Ad):Sp:=λvs H Q E=>∃(r rx g:Addr)(ns:List Int)(wide high:Nat),vs=[.int (wide:Nat),.int (high:Nat),.ref r]/\fI K a H r rx g ns 0/\wide<=13/\high<=13/\
 (match jk wide high ns with
  |.ok (ps,qs,t)=>∀H' x dx p q z,Ex r H H'->jd a H' x dx p q ps qs z t->Q (.ref x) H'
  |.error m=>fK a r H m E)
def gP:aB ["wide","high","reader","draft","row"] ["wide","high","reader"] (ao (top 57)):=aR
def qL(T:Tx K mg a):a4 P w K mg base (cX P w) 6 a.dE a.ls ["wide","high","reader"] (Jo K a):=by
 refine T.dE.F.oQ gP λcdv A outer s H vs Q E hr h=>?_;obtain⟨r,rx,g,ns,wide,high,rfl,R,bw,bh,k⟩:=h;refine⟨_,(ae (eV 3 gP.nd (BN T.B5 (tP T) (hr.mono (by decide)) rfl T.bC.m T.di.b .nil aK)) (ae (dL Qh rfl (dP rfl T.g_ (aa (pv 1) ah)) (kR 4 gP.nd) (ae (bG (aI oJ (pv 4) az (aJ _)) (aj (aZ (jf (pv 2) T.aD T.aH (aL T) hr aA.passes (aa a9 ah)))) aW) (aj (aZ (dn T.lA (A_ T) hr aA.passes (aa (pv 2) (aa (pv 0) (aa (pv 3) ah)))))))) (ae (aZ (jf (pv 2) T.aD T.aH (aL T) hr aA.passes (aa a9 ah))) (ae (a5 (pv 3) (jf (pv 2) T.aD T.aV (a8 T) hr aA.passes (aa (CY T.tp) ah)) rfl) (ae (aZ (Fo (pv 2) T.aD T.cC (jS T) hr aA.passes)) (aj (aF (pv 3)))))))),?_⟩;intro x dx nx nd ne;refine⟨x,dx,rfl,ai,λH1 p q s1 np nq L1=>⟨rfl,?_⟩⟩;have xr:r≠x:=au R.ins nx;have up:∀b o,H b=some o->(upd (upd H dx (.own x)) x (.ins a.bv dx [])) b=some o:=λb o q=>by rw[ak (au q nx),ak (au q nd)];exact q
 have fr:∀{b:Addr},(upd (upd H dx (.own x)) x (.ins a.bv dx [])) b=none->H b=none:=λ{b} q=>by
  cases e:H b with
  |none=>rfl
  |some o=>rw[up b o e]at q;cases q
 have np:=fr np;have nq:=fr nq;have S1:aE H H1:=λb o q'=>s1 b o (up b o q') (au q' nx);have R1':=R.same S1;have back:∀{m:Nat},fK a r H m E->h_ a [x,p,q,r] H1 m E:=λ{m} h H' e d f=>h H' e d λb o q' nb=>f b o (S1 b o q') (by
  simp only[Po,List.not_mem_nil,or_false,not_or];exact⟨au q' nx,au q' np,au q' nq,nb⟩)
 have gp:g≠p:=au R.gv np;have gq:g≠q:=au R.gv nq;have kE:∀m,fO ns wide high true [] [] "hmK" 0=.error m->fK a r H m E:=λm e=>by
  unfold jk at k;rw[e]at k;exact k
 have kO:∀v,fO ns wide high true [] [] "hmK" 0=.ok v->(match(match da ns [32] v.2.2.2 with
   |.error e=>.error e
   |.ok n1=>match aX "hk" ns n1 with
    |.error e=>.error e
    |.ok (.int t,n2)=>if n2<ns.length then .error n2 else .ok (v.1,v.2.1,t)
    |.ok (_,n2)=>.error n2:Except Nat (List Int×List Int×Int))with
   |.ok (ps,qs,t)=>∀H' x dx p q z,Ex r H H'->jd a H' x dx p q ps qs z t->Q (.ref x) H'
   |.error m=>fK a r H m E):=λv e=>by
  unfold jk at k;rw[e]at k;exact k
 refine⟨_,rfl,_,rfl,(by omega),(by omega),nj (n:=high) (λi σ H2=>∃ps' qs' z' n' u,σ=[some (V.int (wide:Nat)),some (.int (high:Nat)),some (.ref r),some (.ref x),u]/\ps'.length=wide*i/\qs'.length=wide*i/\Fx [x,p,q,r] H1 H2/\jd a H2 x dx p q ps' qs' z' 0/\fI K a H2 r rx g ns n'/\fO ns wide high true [] [] "hmK" 0=fO ns wide (high-i) (decide (i=0)) ps' qs' z' n') ⟨[],[],"hmK",0,_,rfl,rfl,rfl,Fx.refl,L1,R1',rfl⟩ (λi σ H2 hi⟨ps',qs',z',n',u,e,l1,l2,f2,L2,R2,hs⟩=>?_) λσ H2⟨ps',qs',z',n',u,e,l1,l2,f2,L2,R2,hs⟩=>?_⟩
 ·subst e
  have hwi:wide*i<=13*12:=Ru bw (by omega);have step:fO ns wide (high-i) (decide (i=0)) ps' qs' z' n'=(match(if decide (i=0)=true then Except.ok n' else da ns [47] n')with
    |.error e=>.error e
    |.ok n1=>match eF ns (wide+1) wide false ps' qs' z' n1 with
     |.error e=>.error e
     |.ok (ps2,qs2,z2,n2)=>fO ns wide (high-(i+1)) false ps2 qs2 z2 n2):=by
   have e:high-i=(high-(i+1))+1:=by omega
   rw[e];rfl
  have row_ok:∀H3 n1 u'(Q':VK),(fO ns wide (high-i) (decide (i=0)) ps' qs' z' n'=(match eF ns (wide+1) wide false ps' qs' z' n1 with
     |.error e=>.error e
     |.ok (ps2,qs2,z2,n2)=>fO ns wide (high-(i+1)) false ps2 qs2 z2 n2))->Fx [x,p,q,r] H1 H3->jd a H3 x dx p q ps' qs' z' 0->fI K a H3 r rx g ns n1->(∀H4,(∃ps' qs' z' n' u,[some (V.int (wide:Nat)),some (.int (high:Nat)),some (.ref r),some (.ref x),u']=[some (V.int (wide:Nat)),some (.int (high:Nat)),some (.ref r),some (.ref x),u]/\ps'.length=wide*(i+1)/\qs'.length=wide*(i+1)/\Fx [x,p,q,r] H1 H4/\jd a H4 x dx p q ps' qs' z' 0/\fI K a H4 r rx g ns n'/\fO ns wide high true [] [] "hmK" 0=fO ns wide (high-(i+1)) (decide (i+1=0)) ps' qs' z' n')->Q' .eC H4)->JW K a [.ref r,.int (wide:Nat),.ref x] H3 Q' E:=by
   intro H3 n1 u' Q' hst f3 L3 R3 hQ;refine⟨x,dx,p,q,ps',qs',z',0,r,rx,g,ns,n1,wide,rfl,L3,R3,gp,gq,by omega,by omega,by omega,?_⟩;cases hr2:eF ns (wide+1) wide false ps' qs' z' n1 with
   |error e=>
    rw[hr2]at hst;exact(back (kE e (by rw[hs,hst]))).after f3
   |ok v=>
    obtain⟨ps2,qs2,z2,n2⟩:=v;obtain⟨q1,q2⟩:=Cb _ _ _ _ _ _ _ _ _ hr2;rw[hr2]at hst;replace q1:ps2.length=ps'.length+wide:=q1;replace q2:qs2.length=qs'.length+wide:=q2;intro H4 f4 L4 R4;have em:wide*(i+1)=wide*i+wide:=QU wide i;exact hQ H4 ⟨ps2,qs2,z2,n2,_,rfl,by rw[em];omega,by rw[em];omega,f3.trans f4,L4,R4,by rw[hs,hst];rfl⟩
  refine⟨_,rfl,_,_,rfl,rfl,_,rfl,gD (λh2=>?_) λh2=>?_⟩
  ·have hi0:i≠0:=by have:=O7 h2;omega
   rw[OV (by rw[PF hi0];exact O3)]at step;refine⟨_,rfl,r,rx,_,rfl,R2.ins,rfl,r,rx,g,ns,n',"/",rfl,R2,?_⟩;have e47:("/":Str).cps.toList=[47]:=by decide+kernel
   rw[e47];cases hl:da ns [47] n' with
   |error e=>
    rw[hl]at step;exact((back (kE e (by rw[hs,step]))).after f2).e (by simp)
   |ok n1=>
    rw[hl]at step;intro H3 s3 e3;obtain⟨n1',n2',n3'⟩:=GG R2 L2;refine⟨_,rfl,_,rfl,_,rfl,?_⟩;dsimp only[rN];exact row_ok H3 n1 _ _ step (f2.trans (s3.fx (by simp))) ⟨s3 _ _ L2.ins (Pb n1'),s3 _ _ L2.EQ (Pb n2'),s3 _ _ L2.Fv (Pb n3'),L2.ne⟩ (R2.ex s3 e3) λH4 h=>h
  ·have hi0:i=0:=by
    have:¬(0:Int)<0+(i:Nat):=λq=>h2 (O0 q);omega
   rw[OW (O0 hi0)]at step;refine⟨_,rfl,_,rfl,_,rfl,?_⟩;dsimp only[rN];exact row_ok H2 n' _ _ step f2 L2 R2 λH4 h=>h
 ·subst e
  rw[Nat.sub_self]at hs;have k:=kO _ hs;obtain⟨n1',n2',n3'⟩:=GG R2 L2;obtain⟨xp,xq⟩:=L2.Jb;refine⟨_,rfl,r,rx,_,rfl,R2.ins,rfl,r,rx,g,ns,n'," ",rfl,R2,?_⟩;have e32:(" ":Str).cps.toList=[32]:=by decide+kernel
  rw[e32];cases hl:da ns [32] n' with
  |error e=>
   rw[hl]at k;exact((back k).after f2).e (by simp)
  |ok n1=>
   rw[hl]at k;dsimp only at k;intro H3 s3 e3;have L3:jd a H3 x dx p q ps' qs' z' 0:=⟨s3 _ _ L2.ins (Pb n1'),s3 _ _ L2.EQ (Pb n2'),s3 _ _ L2.Fv (Pb n3'),L2.ne⟩;have R3:=R2.ex s3 e3;have f3:=f2.trans (s3.fx (l:=[x,p,q,r]) (by simp));refine⟨_,rfl,r,rx,_,rfl,R3.ins,rfl,r,rx,g,ns,n1,"hk",rfl,R3,?_⟩;cases ho:aX "hk" ns n1 with
   |error e=>
    rw[ho]at k;exact((back k).after f3).e (by simp)
   |ok v=>
    obtain⟨d,rfl,_⟩:=dN ho;rw[ho]at k;intro H4 s4 e4;have L4:jd a H4 x dx p q ps' qs' z' 0:=⟨s4 _ _ L3.ins (Pb n1'),s4 _ _ L3.EQ (Pb n2'),s4 _ _ L3.Fv (Pb n3'),L2.ne⟩;have R4:=R3.ex s4 e4;have f4:=f3.trans (s4.fx (l:=[x,p,q,r]) (by simp));refine⟨_,rfl,x,_,_,_,rfl,L4.ins,T.bC.cl,T.jq,(by show 4<1000;decide),?_⟩;have L5:jd a (upd H4 x (.ins a.bv dx (Kp p q z' (d:Nat)))) x dx p q ps' qs' z' (d:Nat):=⟨ai,by rw[ak (Pb xp)];exact L4.EQ,by rw[ak (Pb xq)];exact L4.Fv,L2.ne⟩;have R5:fI K a (upd H4 x (.ins a.bv dx (Kp p q z' (d:Nat)))) r rx g ns (n1+1):=⟨by rw[ak n1'];exact R4.ins,by rw[ak (bf R4.gv L4.ins λz=>nomatch z)];exact R4.gv⟩;have f5:Fx [x,p,q,r] H1 (upd H4 x (.ins a.bv dx (Kp p q z' (d:Nat)))):=f4.trans (Fx.set (by simp));refine⟨_,rfl,r,rx,_,rfl,R5.ins,rfl,r,rx,g,ns,n1+1,rfl,R5,λh6=>?_,λh6=>?_⟩
    ·replace k:(match(if n1+1<ns.length then Except.error (n1+1)else Except.ok (ps',qs',((d:Nat):Int)))with
      |.ok (ps,qs,t)=>∀H' x dx p q z,Ex r H H'->jd a H' x dx p q ps qs z t->Q (.ref x) H'
      |.error m=>fK a r H m E):=k
     rw[OV (by omega)]at k;refine⟨_,rfl,k _ x dx p q z' (λb o q' nb=>?_) L5⟩;exact f5 b o (S1 b o q') (by
      simp only[Po,List.not_mem_nil,or_false,not_or];exact⟨au q' nx,au q' np,au q' nq,nb⟩)
    ·replace k:(match(if n1+1<ns.length then Except.error (n1+1)else Except.ok (ps',qs',((d:Nat):Int)))with
      |.ok (ps,qs,t)=>∀H' x dx p q z,Ex r H H'->jd a H' x dx p q ps qs z t->Q (.ref x) H'
      |.error m=>fK a r H m E):=k
     rw[OW h6]at k;exact((back k).after f5).e (by simp)
def jp(T:Tx K mg a):a4 P w K mg base (cX P w) 1 a.b6 a.j7 ["self","pieces","turn"] (zH a):=CD T
def pA{α:Type}(f:Nat->α)(i:Nat):(List.range (i+1)).map f=(List.range i).map f++[f i]:=by rw[List.range_succ,Pn];rfl
def pP{α β:Type}(f:α->β){l:List α}{i:Nat}{x:α}(h:l[i]? =some x):(l.take (i+1)).map f=(l.take i).map f++[f x]:=by rw[Qs,h,Pn];rfl
def qC{α:Type}(p:α->Bool){l:List α}{i:Nat}{x:α}(h:l[i]? =some x):(l.take (i+1)).filter p=(l.take i).filter p++(if p x=true then[x]else[]):=by
 rw[Qs,h,List.filter_append];show _++[x].filter p=_;rw[List.filter_cons];rfl
def aC{H:Hp}{p:Addr}{o:HO}(h:H p=none):aE H (upd H p o):=λb u q=>by
 rw[ak (au q h)];exact q
def bt(wide high:Nat):List Int:=(List.range high).flatMap λ(i:Nat)=>(List.range wide).map λ(x:Nat)=>((13*(high-1-i)+x:Nat):Int)
def kM{α:Type}(f:Nat->List α)(i:Nat):(List.range (i+1)).flatMap f=(List.range i).flatMap f++f i:=by
 rw[List.range_succ,List.flatMap_append];simp
def je{α:Type}(f:Nat->List α)(b:Nat)(h:∀i,(f i).length<=b):∀n,((List.range n).flatMap f).length<=n*b
 |0=>by simp
 |n+1=>by
  rw[kM,Pd];have:=je f b h n;have:=h n;rw[Nat.succ_mul];omega
def Kz:Sp:=λvs H Q _=>∃(wide high:Nat),vs=[.int (wide:Nat),.int (high:Nat)]/\wide<=13/\high<=13/\∀H' p,aE H H'->H p=none->H' p=some (.lst ((bt wide high).map V.int))->Q (.ref p) H'
def cV:aB ["wide","high","cells","row","bottom","x"] ["wide","high"] (ao (top 14)):=aR
def fP(T:Tx K mg a):a4 P w K mg base (cX P w) 1 a.ca a.m_ ["wide","high"] Kz:=by
 refine T.ca.F.lL cV λcdv A outer s H vs Q E hr h=>?_;obtain⟨wide,high,rfl,bw,bh,k⟩:=h;refine⟨_,(ae (eV 2 cV.nd (cf ah)) (ae (dL Ql rfl (dP rfl T.g_ (aa (pv 1) ah)) (kR 3 cV.nd) (ae (eV 4 cV.nd (bz pR (mT T.zf) (bz nZ (bz nZ (pv 1) az) (pv 3)))) (aj (aZ (jg PQ QJ QK kJ (pv 2) (aa (lS (own:=[("x",5)]) rfl cV.nd (dP rfl T.g_ (aa (pv 0) ah)) (cq rfl) (λ_ _ _ _ _=>(kR 5 cV.nd)) (λ_ _ _ _ _=>d8) (λ_ _ _ _ _=>(bz gN (pv 4) (pv 5)))) ah)))))) (aj (aF (pv 2))))),?_⟩;refine⟨P4 _,λp hp=>?_⟩;refine⟨_,rfl,_,rfl,(by omega),(by omega),nj (n:=high) (λi σ H'=>∃u v z,σ=[some (V.int (wide:Nat)),some (.int (high:Nat)),some (.ref p),u,v,z]/\aE H H'/\H' p=some (.lst ((((List.range i).flatMap λ(i:Nat)=>(List.range wide).map λ(x:Nat)=>((13*(high-1-i)+x:Nat):Int))).map V.int))) ⟨_,_,_,rfl,aC hp,by rw[ai];rfl⟩ (λi σ H1 hi⟨u,v,z,e,s1,h1⟩=>?_) λσ H1⟨u,v,z,e,s1,h1⟩=>?_⟩
 ·subst e
  refine⟨_,rfl,_,_,rfl,rfl,_,rfl,_,_,rfl,rfl,_,_,rfl,rfl,.inl ⟨by decide,by decide⟩,?_⟩;refine⟨_,rfl,(by first|exact Or.inl ⟨rfl,_,a0.of h1⟩),_,rfl,_,rfl,(by omega),(by omega),λD hD=>iJ (J:=EN 0 wide) (n:=wide) (λj=>((List.range j).map λ(x:Nat)=>V.int ((13*(high-1-i)+x:Nat):Int))) hD rfl (λj H h _=>h) (λH _=>OZ _) (λj H' hj s2 e2 y H2 hy=>?_) λH' s2 e2=>?_⟩
  ·obtain⟨rfl,rfl⟩:=hy
   refine⟨rfl,_,rfl,_,rfl,_,_,rfl,rfl,?_⟩;refine Got.of hD s2 e2 (aE.refl _) (by rw[OU,Qc];omega) ?_;have ev:(13:Int)*((high:Int)-1-(0+(i:Int)))+(0+(j:Int))=((13*(high-1-i)+j:Nat):Int):=by omega
   dsimp only;rw[ev];exact pA _ j
  ·refine⟨p,D,_,_,rfl,rfl,s2 _ _ h1,e2,?_,?_⟩
   ·rw[OU,OU,Qc,O2]
    have:=je (λ(i:Nat)=>(List.range wide).map λ(x:Nat)=>((13*(high-1-i)+x:Nat):Int)) 13 (λi=>by rw[OU,Qc];exact bw) i;omega
   ·refine⟨_,_,_,rfl,cY hp (s1.trans s2),?_⟩
    rw[ai,kM,Pn,Qa (g:=V.int) (f:=λ(x:Nat)=>((13*(high-1-i)+x:Nat):Int))];rfl
 ·subst e
  exact⟨_,rfl,k H1 p s1 hp h1⟩
def dm(wide high c:Nat)(r u:Int):Int:=if 0<=((c%13:Nat):Int)+r/\((c%13:Nat):Int)+r<wide/\0<=((c/13:Nat):Int)+u/\((c/13:Nat):Int)+u<high then 13*(((c/13:Nat):Int)+u)+(((c%13:Nat):Int)+r)else-1
def Mu:Sp:=λvs H Q _=>∃(wide high c:Nat)(r u:Int),vs=[.int (wide:Nat),.int (high:Nat),.int (c:Nat),.int r,.int u]/\Q (.int (dm wide high c r u)) H
def lK:aB ["wide","high","cell","right","up","x","y"] ["wide","high","cell","right","up"] (ao (top 15)):=aR
def yl(T:Tx K mg a):a4 P w K mg base (cX P w) 1 a.gV a.rB ["wide","high","cell","right","up"] Mu:=by
 refine T.gV.F.lL lK λcdv A outer s H vs Q E hr h=>?_;obtain⟨wide,high,c,r,u,rfl,k⟩:=h;refine⟨_,(ae (eV 5 lK.nd (bz gN (bz Hu (pv 2) (mT T.zf)) (pv 3))) (ae (eV 6 lK.nd (bz gN (bz Ek (pv 2) (mT T.zf)) (pv 4))) (ae (bG (PW.pt (gR (tK yp uD az (pv 5) (pv 0)) (fe (tK yp uD az (pv 6) (pv 1))))) (aj (aF (bz gN (bz pR (mT T.zf) (pv 6)) (pv 5)))) aW) (aj (aF (oB jY az)))))),?_⟩;unfold dm at k;have e1:((c:Nat):Int)%13=((c%13:Nat):Int):=by omega
 have e2:((c:Nat):Int)/13=((c/13:Nat):Int):=by omega
 refine⟨_,rfl,_,_,rfl,rfl,(by show(0:Int)<13;decide),_,rfl,_,_,rfl,rfl,?_⟩;refine⟨_,rfl,_,_,rfl,rfl,⟨by decide,by decide⟩,_,rfl,_,_,rfl,rfl,?_⟩;rw[e1,e2];refine⟨_,rfl,_,_,rfl,rfl,_,rfl,gD (λh1=>⟨_,rfl,_,_,rfl,rfl,_,rfl,gD (λh2=>⟨_,rfl,_,_,rfl,rfl,_,rfl,gD (λh3=>⟨_,rfl,_,_,rfl,rfl,_,rfl,gD (λh4=>?_) λh4=>?_⟩) λh3=>?_⟩) λh2=>?_⟩) λh1=>?_⟩
 ·have h1:=O7 h1
  have h2:=O7 h2;have h3:=O7 h3;have h4:=O7 h4;rw[OW ⟨h1,h2,h3,h4⟩]at k;exact⟨_,rfl,_,_,rfl,rfl,.inl ⟨by decide,by decide⟩,_,rfl,_,_,rfl,rfl,k⟩
 ·rw[OV (λq=>h4 (O0 q.2.2.2))]at k
  exact⟨_,rfl,k⟩
 ·rw[OV (λq=>h3 (O0 q.2.2.1))]at k
  exact⟨_,rfl,_,rfl,k⟩
 ·rw[OV (λq=>h2 (O0 q.2.1))]at k
  exact⟨_,rfl,k⟩
 ·rw[OV (λq=>h1 (O0 q.1))]at k
  exact⟨_,rfl,_,rfl,k⟩
def cF(d:Nat):Int:=if d=1 then 1 else if d=3 then-1 else 0
def cE(d:Nat):Int:=if d=0 then 1 else if d=2 then-1 else 0
def IV(wide high d:Nat):List Int:=(List.range 169).map λ(c:Nat)=>dm wide high c (cF d) (cE d)
def uv(H:Hp)(wide high:Nat)(ws:List Addr):Prop:=∀d x,ws[d]? =some x->H x=some (.lst ((IV wide high d).map V.int))
def uv.same{H H':Hp}{wide high:Nat}{ws:List Addr}(h:uv H wide high ws)(s:aE H H'):uv H' wide high ws:=λd x e=>s _ _ (h d x e)
def J5:Sp:=λvs H Q _=>∃(wide high:Nat),vs=[.int (wide:Nat),.int (high:Nat)]/\∀H' p ws,aE H H'->H p=none->H' p=some (.lst (ws.map V.ref))->ws.length=4->uv H' wide high ws->(∀b∈ws,H b=none)->Q (.ref p) H'
def kQ:aB ["wide","high","ways","step","cell"] ["wide","high"] (ao (top 16)):=aR
def CW(T:Tx K mg a):a4 P w K mg base (cX P w) 2 a.nM a.zd ["wide","high"] J5:=by
 refine T.nM.F.lL kQ λcdv A outer s H vs Q E hr h=>?_;obtain⟨wide,high,rfl,k⟩:=h;refine⟨_,(ae (eV 2 kQ.nd (cf ah)) (ae (dL Ql rfl (KH (nS (aa (nS (aa az (aa az ah))) (aa (nS (aa az (aa az ah))) (aa (nS (aa az (aa (oB jY az) ah))) (aa (nS (aa (oB jY az) (aa az ah))) ah)))))) (kR 3 kQ.nd) (aj (aZ (jg PQ Qo Qp gH (pv 2) (aa (lS (own:=[("cell",4)]) rfl kQ.nd (dP rfl T.g_ (aa (mT T.Au) ah)) (cq rfl) (λ_ _ _ _ _=>(kR 4 kQ.nd)) (λ_ _ _ _ _=>d8) (λ_ _ _ _ _=>(dn T.gV (yl T) hr aK (aa (pv 0) (aa (pv 1) (aa (pv 4) (aa (bj (v_ K rfl) (pv 3) az (λ_ _=>rfl)) (aa (bj (v_ K rfl) (pv 3) az (λ_ _=>rfl)) ah)))))))) ah))))) (aj (aF (pv 2))))),?_⟩;refine⟨P4 _,λp hp=>?_⟩;have z2:∀(x y:V),([x,y]:List V).length<=sizeLine:=λx y=>by rw[O2];show 2<=_;omega
 refine⟨z2 _ _,λt1 n1=>⟨z2 _ _,λt2 n2=>⟨_,rfl,z2 _ _,λt3 n3=>⟨_,rfl,z2 _ _,λt4 n4=>⟨(by rw[O2];show 4<=_;omega),λt nt=>?_⟩⟩⟩⟩⟩;generalize e1:upd H p (.lst [])=G1 at n1 n2 n3 n4 nt ⊢;generalize e2:upd G1 t1 (.tup [.int 0,.int 1])=G2 at n2 n3 n4 nt ⊢;generalize e3:upd G2 t2 (.tup [.int 1,.int 0])=G3 at n3 n4 nt ⊢;have q3:G3 t2=some (.tup [.int 1,.int 0]):=by rw[<-e3,ai]
 have q2:G2 t1=some (.tup [.int 0,.int 1]):=by rw[<-e2,ai]
 have s3:aE G2 G3:=by rw[<-e3];exact aC n2
 have s2:aE G1 G2:=by rw[<-e2];exact aC n1
 have s4:aE G3 (upd G3 t3 (.tup [.int 0,.int (-1)])):=aC n3;have s5:aE (upd G3 t3 (.tup [.int 0,.int (-1)])) (upd (upd G3 t3 (.tup [.int 0,.int (-1)])) t4 (.tup [.int (-1),.int 0])):=aC n4;generalize e5:upd (upd G3 t3 (.tup [.int 0,.int (-1)])) t4 (.tup [.int (-1),.int 0])=G5 at s5;have nt':G5 t=none:=by rw[<-e5];exact nt
 have s6:aE G5 (upd G5 t (.tup [.ref t1,.ref t2,.ref t3,.ref t4])):=aC nt';generalize e6:upd G5 t (.tup [.ref t1,.ref t2,.ref t3,.ref t4])=G6 at s6;have qt:G6 t=some (.tup [.ref t1,.ref t2,.ref t3,.ref t4]):=by rw[<-e6,ai]
 have S:aE G1 G6:=(s2.trans s3).trans ((s4.trans s5).trans s6);have SH:aE H G6:=(by rw[<-e1];exact aC hp:aE H G1).trans S;have qp:G6 p=some (.lst []):=S _ _ (by rw[<-e1,ai]);have tu:∀d x,([t1,t2,t3,t4]:List Addr)[d]? =some x->G6 x=some (.tup [.int (cF d),.int (cE d)]):=λd x e=>by
  match d,e with
  |0,e=>cases e;exact(s3.trans ((s4.trans s5).trans s6)) _ _ q2
  |1,e=>cases e;exact((s4.trans s5).trans s6) _ _ q3
  |2,e=>cases e;exact(s5.trans s6) _ _ (by rw[ai];rfl)
  |3,e=>cases e;exact s6 _ _ (by rw[<-e5,ai];rfl)
  |d+4,e=>simp at e
 refine⟨t,rfl,⟨_,iV.of qt⟩,?_⟩;refine Iy (xs:=[t1,t2,t3,t4].map V.ref) (λi σ H'=>∃ws u v,σ=[some (V.int (wide:Nat)),some (.int (high:Nat)),some (.ref p),u,v]/\ws.length=i/\Ex p G6 H'/\H' p=some (.lst (ws.map V.ref))/\uv H' wide high ws/\p∉ws/\∀b∈ws,H b=none) ⟨[],_,_,rfl,rfl,Ex.refl,qp,λd x e=>by simp at e,by simp,λb hb=>by cases hb⟩ (λi σ H1 hi⟨ws,u,v,e,hl,x1,h1,w1,np,fw⟩=>?_) (λi x σ H1 hx⟨ws,u,v,e,hl,x1,h1,w1,np,fw⟩=>?_) λσ H1⟨ws,u,v,e,hl,x1,h1,w1,np,fw⟩=>?_
 ·exact iV.of (x1 _ _ qt (bf qt qp λz=>nomatch z))
 ·subst e
  rw[Ph]at hx;cases ht:([t1,t2,t3,t4]:List Addr)[i]? with
  |none=>rw[ht]at hx;cases hx
  |some ti=>
   rw[ht]at hx;cases hx;have q1:=tu i ti ht;have q1':=x1 _ _ q1 (bf q1 qp λz=>nomatch z);have hi4:i<4:=(O6.mp ht).1;refine⟨_,rfl,.inl ⟨rfl,_,a0.of h1⟩,_,rfl,(by omega),(by omega),λD hD=>iJ (J:=EN 0 169) (n:=169) (λj=>((List.range j).map λ(c:Nat)=>V.int (dm wide high c (cF i) (cE i)))) hD rfl (λj H h _=>h) (λH _=>OZ _) (λj H' hj s2 e2 y H2 hy=>?_) λH' s2 e2=>?_⟩
   ·obtain⟨rfl,rfl⟩:=hy
    have tt:=s2 _ _ q1';refine⟨rfl,_,rfl,_,rfl,_,rfl,_,rfl,ti,_,_,_,rfl,rfl,iV.of tt,at_of (j:=0) rfl rfl,_,rfl,ti,_,_,_,rfl,rfl,iV.of tt,at_of (j:=1) rfl rfl,wide,high,j,cF i,cE i,?_,?_⟩
    ·rw[show((0:Int)+(j:Nat))=((j:Nat):Int) by omega]
     rfl
    refine Got.of hD s2 e2 (aE.refl _) (by rw[OU,Qc];omega) ?_;exact pA _ j
   ·refine⟨p,_,_,rfl,rfl,s2 _ _ h1,(by rw[OU,hl,O2];omega),ws++[D],_,_,rfl,(by rw[Pd,hl];rfl),?_,?_,?_,?_,?_⟩
    ·intro b o q nb
     rw[ak nb];exact s2 _ _ (x1 b o q nb)
    ·rw[ai,Pn]
     rfl
    ·intro d x e
     have nx:∀y,y∈ws->y≠p:=λy hy z=>np (z▸hy);rcases Q2 d ws.length with hd|hd
     ·rw[Q_ hd]at e
      rw[ak (nx x (Pw e))];exact s2 _ _ (w1 d x e)
     ·rw[Q7 hd]at e
      have d0:d-ws.length=0:=by
       have:=(O6.mp e).1;rw[P0]at this;omega
      rw[d0]at e;cases e;have ed:d=i:=by omega
      subst ed;rw[ak (λz=>by rw[z,h1]at hD;cases hD),e2];unfold IV;rw[Qa];rfl
    ·intro hm
     rcases Pk.mp hm with z|z
     ·exact np z
     ·rw[Pj]at z
      rw[<-z,h1]at hD;cases hD
    ·intro b hb
     rcases Pk.mp hb with z|z
     ·exact fw b z
     ·rw[Pj]at z
      subst z;cases eb:H b with
      |none=>rfl
      |some o=>rw[x1 b o (SH b o eb) (au eb hp)]at hD;cases hD
 ·subst e
  refine⟨_,rfl,k H1 p ws (λb o q=>x1 b o (SH b o q) (au q hp)) hp h1 hl w1 fw⟩
structure R0 where
 wide:Nat
 high:Nat
 slides:Int
 armed:Int
 four:Int
 passed:Int
 seat:Int
 exits:Int
 goal:Int
 thrice:Int
 limit:Int
 ground:List Int
 start:List Int
 first:Int
structure RA where
 x:Addr
 dx:Addr
 cs:Addr
 wz:Addr
 gr:Addr
 st:Addr
 sd:Addr
 sp:Addr
 ws:List Addr
def u7(wide high:Nat):List Int:=(List.range high).flatMap λ(y:Nat)=>(List.range wide).map λ(x:Nat)=>((13*y+x:Nat):Int)
structure rZ(ps:List Int):Prop where
 len:ps.length=169
 val:∀c,0<=ps.getD c 0/\ps.getD c 0<=3
structure zB(r:R0):Prop where
 w:r.wide<=13
 h:r.high<=13
 g:r.ground.length=169
 s:rZ r.start
 f:r.first=0\/r.first=1
def Ky(A:RA)(r:R0):List (Str×V):=[("wide",.int (r.wide:Nat)),("high",.int (r.high:Nat)),("slides",.int r.slides),("armed",.int r.armed),("four",.int r.four),("passed",.int r.passed),("seat",.int r.seat),("exits",.int r.exits),("goal",.int r.goal),("thrice",.int r.thrice),("limit",.int r.limit),("cells",.ref A.cs),("ways",.ref A.wz),("ground",.ref A.gr),("start",.ref A.st)]
structure oN(a:Ad)(H:Hp)(A:RA)(r:R0):Prop where
 ins:H A.x=some (.ins a.ba A.dx (Ky A r))
 cs:H A.cs=some (.lst ((u7 r.wide r.high).map V.int))
 wz:H A.wz=some (.lst (A.ws.map V.ref))
 wl:A.ws.length=4
 wy:uv H r.wide r.high A.ws
 gr:H A.gr=some (.lst (r.ground.map V.int))
 st:H A.st=some (.ins a.bM A.sd (A4 A.sp r.first))
 sp:H A.sp=some (.lst (r.start.map V.int))
 ok:zB r
def oN.same{a:Ad}{H H':Hp}{A:RA}{r:R0}(R:oN a H A r)(s:aE H H'):oN a H' A r:=⟨s _ _ R.ins,s _ _ R.cs,s _ _ R.wz,R.wl,R.wy.same s,s _ _ R.gr,s _ _ R.st,s _ _ R.sp,R.ok⟩
def cR{l:List Int}{c:Nat}(h:c<l.length):(l.map V.int)[c]? =some (.int (l.getD c 0)):=by
 rw[Ph,OY h];simp[List.getD,OY h]
def sk(r:R0)(ps:List Int)(piece:Int)(c:Nat):Bool:=if r.ground.getD c 0=3\/ps.getD c 0≠0 then false else if piece=3\/r.ground.getD c 0=0 then true else decide (r.ground.getD c 0=1)&&decide (r.passed=1)
def Lj(a:Ad):Sp:=λvs H Q _=>∃(A:RA)(r:R0)(p:Addr)(ps:List Int)(piece:Int)(c:Nat),vs=[.ref A.x,.ref p,.int piece,.int (c:Nat)]/\oN a H A r/\H p=some (.lst (ps.map V.int))/\ps.length=169/\c<169/\Q (.bl (sk r ps piece c)) H
def tH:aB ["rules","pieces","piece","cell","kind"] ["rules","pieces","piece","cell"] (ao (top 20)):=aR
def z9(T:Tx K mg a):a4 P w K mg base (cX P w) 1 a.jE a.ve ["rules","pieces","piece","cell"] (Lj a):=by
 refine T.jE.F.lL tH λcdv A outer s H vs Q E hr h=>?_;obtain⟨A',r,p,ps,piece,c,rfl,R,hp,hl,hc,k⟩:=h;refine⟨_,(ae (eV 4 tH.nd (bj a_ (ay (pv 0) rfl) (pv 3) (λ_ _=>rfl))) (ae (bG (PW.pt (zw (aI bQ (pv 4) (mT T.CN) (aJ _)) (tV (aI Dy (bj a_ (pv 1) (pv 3) (λ_ _=>rfl)) (mT T.i7) (aJ _))))) (aj (aF rm)) aW) (ae (bG (PW.pt (zw (aI bQ (pv 2) (mT T.jZ) (aJ _)) (tV (aI bQ (pv 4) (mT T.DK) (aJ _))))) (aj (aF rm)) aW) (aj (aF (yn (dY bQ (pv 4) (mT T.Ae) (aJ _)) (pE (dY bQ (ay (pv 0) rfl) az (aJ _))))))))),?_⟩;have ag:=cR (l:=r.ground) (c:=c) (by rw[R.ok.g];exact hc);have ap:=cR (l:=ps) (c:=c) (by rw[hl];exact hc);unfold sk at k;refine⟨_,rfl,A'.x,_,_,_,_,rfl,R.ins,T.aU.cl,T.dw,rfl,_,rfl,A'.gr,_,_,_,rfl,rfl,a0.of R.gr,at_of (j:=c) rfl ag,?_⟩;refine⟨_,rfl,rfl,_,rfl,dH (λh1=>?_) λh1=>⟨_,rfl,_,rfl,p,_,_,_,rfl,rfl,a0.of hp,at_of (j:=c) rfl ap,rfl,_,rfl,LM (λh2=>?_) λh2=>?_⟩⟩
 ·rw[OW (.inl h1)]at k
  exact k
 ·rw[OW (.inr h2)]at k
  exact k
 ·rw[OV (λq=>q.elim h1 λz=>z h2)]at k
  refine⟨_,rfl,rfl,_,rfl,dH (λh3=>?_) λh3=>⟨_,rfl,rfl,_,rfl,dH (λh4=>?_) λh4=>?_⟩⟩
  ·rw[OW (.inl h3)]at k
   exact k
  ·rw[OW (.inr h4)]at k
   exact k
  ·rw[OV (λq=>q.elim h3 h4)]at k
   refine⟨_,rfl,rfl,_,rfl,dH (λh5=>⟨_,rfl,A'.x,_,_,_,_,rfl,R.ins,T.aU.cl,T.oX,rfl,rfl,?_⟩) λh5=>?_⟩
   ·rw[O0 h5]at k
    rw[g9];exact k
   ·rw[PF h5]at k
    exact k
def lF(wide high d c:Nat):Nat:=if d=0 then high-c/13 else if d=1 then wide-c%13 else if d=2 then c/13+1 else c%13+1
def iC{wide high d c:Nat}(hd:d<4)(hc:c<169)(hw:wide<=13)(hh:high<=13):dm wide high c (cF d) (cE d)= -1\/∃n:Nat,dm wide high c (cF d) (cE d)=(n:Nat)/\n<169/\1<=lF wide high d n/\lF wide high d n<lF wide high d c/\lF wide high d n<=12:=by
 unfold dm
 by_cases h:0<=((c%13:Nat):Int)+cF d/\((c%13:Nat):Int)+cF d<wide/\0<=((c/13:Nat):Int)+cE d/\((c/13:Nat):Int)+cE d<high
 ·rw[OW h]
  obtain⟨h1,h2,h3,h4⟩:=h;right
  refine⟨13*(((c/13:Nat):Int)+cE d).toNat+(((c%13:Nat):Int)+cF d).toNat,by omega,by omega,?_⟩;generalize hy:(((c/13:Nat):Int)+cE d).toNat=y at*;generalize hx:(((c%13:Nat):Int)+cF d).toNat=x at*;have e1:(13*y+x)/13=y:=by omega
  have e2:(13*y+x)%13=x:=by omega
  unfold lF;rw[e1,e2]
  match d,hd with
  |0,_=>simp[cF,cE]at*;omega
  |1,_=>simp[cF,cE]at*;omega
  |2,_=>simp[cF,cE]at*;omega
  |3,_=>simp[cF,cE]at*;omega
 ·rw[OV h]
  exact .inl rfl
def bN(r:R0)(ps:List Int)(d:Nat)(piece:Int):Nat->Int->List Int
 |0,_=>[]
 |f+1,cell=>if cell<0\/sk r ps piece cell.toNat=false then[]else(if iF (r.ground.getD cell.toNat 0) piece=true then[cell]else[])++(if piece=3/\r.slides=0 then[]else bN r ps d piece f (dm r.wide r.high cell.toNat (cF d) (cE d)))
def bn(r:R0)(ps:List Int)(start d:Nat):List Int:=bN r ps d (ps.getD start 0) 13 (dm r.wide r.high start (cF d) (cE d))
def xY(r:R0)(ps:List Int)(d:Nat)(piece:Int):∀f cell,(bN r ps d piece f cell).length<=f
 |0,_=>OZ _
 |f+1,cell=>by
  unfold bN;split
  ·simp
  ·rw[Pd]
   have:=xY r ps d piece f (dm r.wide r.high cell.toNat (cF d) (cE d));have e1:(if iF (r.ground.getD cell.toNat 0) piece=true then[cell]else[]).length<=1:=by split<;>simp
   have e2:(if piece=3/\r.slides=0 then[]else bN r ps d piece f (dm r.wide r.high cell.toNat (cF d) (cE d))).length<=f:=by
    split
    ·simp
    ·exact this
   omega
def Jm(a:Ad):Sp:=λvs H Q _=>∃(A:RA)(r:R0)(p wa:Addr)(ps:List Int)(start d:Nat),vs=[.ref A.x,.ref p,.int (start:Nat),.ref wa]/\oN a H A r/\H p=some (.lst (ps.map V.int))/\ps.length=169/\start<169/\A.ws[d]? =some wa/\
 ∀H' q,aE H H'->H q=none->H' q=some (.lst ((bn r ps start d).map V.int))->Q (.ref q) H'
def mL{wide high d c:Nat}(h:c<169):((IV wide high d).map V.int)[c]? =some (.int (dm wide high c (cF d) (cE d))):=by
 unfold IV;rw[Qa,Ph,RF h];rfl
def f_:aB ["rules","pieces","start","way","piece","stops","cell"] ["rules","pieces","start","way"] (ao (top 21)):=aR
def pZ(T:Tx K mg a):a4 P w K mg base (cX P w) 2 a.fE a.q0 ["rules","pieces","start","way"] (Jm a):=by
 refine T.fE.F.lL f_ λcdv A outer s H vs Q E hr h=>?_;obtain⟨A',r,p,wa,ps,start,d,rfl,R,hp,hl,hs,hw,k⟩:=h;refine⟨_,(ae (eV 4 f_.nd (bj a_ (pv 1) (pv 2) (λ_ _=>rfl))) (ae (eV 5 f_.nd (cf ah)) (ae (eV 6 f_.nd (bj a_ (pv 3) (pv 2) (λ_ _=>rfl))) (ae (jF Ql (PW.pt (gR (aI zV (pv 6) az (aJ _)) (fe (dC (dn T.jE (z9 T) hr aK (aa (pv 0) (aa (pv 1) (aa (pv 4) (aa (pv 6) ah))))))))) (ae (bG (dC (dn T.fU (nN T) hr aK (aa (bj a_ (ay (pv 0) rfl) (pv 6) (λ_ _=>rfl)) (aa (pv 4) ah)))) (aj (aZ (jg PQ Qo Qp gH (pv 5) (aa (pv 6) ah)))) aW) (ae (bG (PW.pt (gR (aI bQ (pv 4) (mT T.jZ) (aJ _)) (fe (aI bQ (ay (pv 0) rfl) az (aJ _))))) (aj Bv) aW) (aj (eV 6 f_.nd (bj a_ (pv 3) (pv 6) (λ_ _=>rfl))))))) (aj (aF (pv 5))))))),?_⟩;have ap:=cR (l:=ps) (c:=start) (by rw[hl];exact hs);have wy:=R.wy d wa hw;have hd:d<4:=by rw[<-R.wl];exact(O6.mp hw).1
 refine⟨_,rfl,_,rfl,p,_,_,_,rfl,rfl,a0.of hp,at_of (j:=start) rfl ap,?_⟩;refine⟨P4 _,λq hq=>?_⟩;have S0:aE H (upd H q (.lst [])):=aC hq;refine⟨_,rfl,_,rfl,wa,_,_,_,rfl,rfl,a0.of (S0 _ _ wy),at_of (j:=start) rfl (mL hs),?_⟩;refine⟨λm σ H'=>∃(acc:List Int)(cell:Int),σ=[some (.ref A'.x),some (.ref p),some (.int (start:Nat)),some (.ref wa),some (.int (ps.getD start 0)),some (.ref q),some (.int cell)]/\aE H H'/\H' q=some (.lst (acc.map V.int))/\acc.length+m<=13/\(cell= -1\/∃c:Nat,cell=(c:Nat)/\c<169/\1<=lF r.wide r.high d c/\lF r.wide r.high d c<=m)/\bn r ps start d=acc++bN r ps d (ps.getD start 0) m cell,⟨13,[],_,rfl,S0,by rw[ai];rfl,by simp,?_,rfl⟩,?_⟩
 ·rcases iC (c:=start) hd hs R.ok.w R.ok.h with h|⟨n,h1,h2,h3,h4,h5⟩
  ·exact .inl h
  ·exact .inr ⟨n,h1,h2,h3,by omega⟩
 rintro m σ H1 ⟨acc,cell,rfl,s1,h1,hm,hc,ht⟩
 have R1:=R.same s1;have hp1:=s1 _ _ hp;refine⟨_,rfl,_,_,rfl,rfl,_,rfl,gD (λg1=>?_) λg1=>?_⟩
 ·have g1:=O7 g1
  rcases hc with hc|⟨c,rfl,c1,c2,c3⟩
  ·omega
  obtain⟨m',rfl⟩:∃m',m=m'+1:=⟨m-1,by omega⟩;have step:bN r ps d (ps.getD start 0) (m'+1) (c:Nat)=if((c:Nat):Int)<0\/sk r ps (ps.getD start 0) c=false then[]else(if iF (r.ground.getD c 0) (ps.getD start 0)=true then[((c:Nat):Int)]else[])++(if ps.getD start 0=3/\r.slides=0 then[]else bN r ps d (ps.getD start 0) m' (dm r.wide r.high c (cF d) (cE d))):=rfl;have ag:=cR (l:=r.ground) (c:=c) (by rw[R.ok.g];exact c1);refine⟨_,rfl,_,rfl,_,rfl,_,rfl,A',r,p,ps,ps.getD start 0,c,rfl,R1,hp1,hl,c1,_,rfl,fQ (λg2=>?_) λg2=>?_⟩
  ·rw[OV (λz=>z.elim (λz=>by omega) λz=>by rw[g2]at z;cases z)]at step
   refine⟨_,λ_ _ h=>h,?_⟩;refine⟨_,rfl,A'.x,_,_,_,_,rfl,R1.ins,T.aU.cl,T.dw,rfl,_,rfl,A'.gr,_,_,_,rfl,rfl,a0.of R1.gr,at_of (j:=c) rfl ag,_,rfl,_,_,rfl,_,rfl,fQ (λg3=>?_) λg3=>?_⟩
   ·rw[OW g3]at step
    refine⟨_,rfl,.inl ⟨rfl,_,a0.of h1⟩,_,rfl,q,_,_,rfl,rfl,h1,(by rw[OU,O2];omega),?_⟩;have s2:aE H (upd H1 q (.lst (acc.map V.int++[V.int (c:Nat)]))):=cY hq s1;have R2:=R.same s2;have q2:upd H1 q (.lst (acc.map V.int++[V.int (c:Nat)])) q=some (.lst ((acc++[((c:Nat):Int)]).map V.int)):=by rw[ai,Pn];rfl
    have l2:(acc++[((c:Nat):Int)]).length+m'<=13:=by rw[Pd,P0];omega
    refine⟨_,rfl,rfl,_,rfl,dH (λg4=>⟨_,rfl,A'.x,_,_,_,_,rfl,R2.ins,T.aU.cl,T.lE,rfl,rfl,_,rfl,dH (λg5=>?_) λg5=>?_⟩) λg4=>?_⟩
    ·rw[OW ⟨g4,g5⟩,PU]at step
     refine⟨_,rfl,k _ q s2 hq ?_⟩;rw[q2,ht,step]
    ·rw[OV (λz=>g5 z.2)]at step
     refine⟨_,rfl,_,rfl,wa,_,_,_,rfl,rfl,a0.of (s2 _ _ wy),at_of (j:=c) rfl (mL c1),m',by omega,_,_,rfl,s2,q2,l2,?_,?_⟩
     ·rcases iC (c:=c) hd c1 R.ok.w R.ok.h with h|⟨n,h1,h2,h3,h4,h5⟩
      ·exact .inl h
      ·exact .inr ⟨n,h1,h2,h3,by omega⟩
     ·rw[ht,step,P9]
    ·rw[OV (λz=>g4 z.1)]at step
     refine⟨_,rfl,_,rfl,wa,_,_,_,rfl,rfl,a0.of (s2 _ _ wy),at_of (j:=c) rfl (mL c1),m',by omega,_,_,rfl,s2,q2,l2,?_,?_⟩
     ·rcases iC (c:=c) hd c1 R.ok.w R.ok.h with h|⟨n,h1,h2,h3,h4,h5⟩
      ·exact .inl h
      ·exact .inr ⟨n,h1,h2,h3,by omega⟩
     ·rw[ht,step,P9]
   ·rw[OV (by rw[g3];exact O3),Qt]at step
    refine⟨_,rfl,rfl,_,rfl,dH (λg4=>⟨_,rfl,A'.x,_,_,_,_,rfl,R1.ins,T.aU.cl,T.lE,rfl,rfl,_,rfl,dH (λg5=>?_) λg5=>?_⟩) λg4=>?_⟩
    ·rw[OW ⟨g4,g5⟩]at step
     refine⟨_,rfl,k _ q s1 hq ?_⟩;rw[h1,ht,step,PU]
    ·rw[OV (λz=>g5 z.2)]at step
     refine⟨_,rfl,_,rfl,wa,_,_,_,rfl,rfl,a0.of (s1 _ _ wy),at_of (j:=c) rfl (mL c1),m',by omega,_,_,rfl,s1,h1,by omega,?_,?_⟩
     ·rcases iC (c:=c) hd c1 R.ok.w R.ok.h with h|⟨n,h1,h2,h3,h4,h5⟩
      ·exact .inl h
      ·exact .inr ⟨n,h1,h2,h3,by omega⟩
     ·rw[ht,step]
    ·rw[OV (λz=>g4 z.1)]at step
     refine⟨_,rfl,_,rfl,wa,_,_,_,rfl,rfl,a0.of (s1 _ _ wy),at_of (j:=c) rfl (mL c1),m',by omega,_,_,rfl,s1,h1,by omega,?_,?_⟩
     ·rcases iC (c:=c) hd c1 R.ok.w R.ok.h with h|⟨n,h1,h2,h3,h4,h5⟩
      ·exact .inl h
      ·exact .inr ⟨n,h1,h2,h3,by omega⟩
     ·rw[ht,step]
  ·rw[OW (.inr g2)]at step
   refine⟨_,rfl,k _ q s1 hq ?_⟩;rw[h1,ht,step,PU]
 ·have g1:cell<0:=by
   have:¬(0:Int)<=cell:=λz=>g1 (O0 z);omega
  have step:bN r ps d (ps.getD start 0) m cell=[]:=by
   cases m with
   |zero=>rfl
   |succ m=>
    unfold bN;rw[OW (.inl g1)]
  refine⟨_,rfl,k _ q s1 hq ?_⟩;rw[h1,ht,step,PU]
def HD(l:List Int):List Int:=l.mergeSort (λa b=>decide (a<=b))
def Db{l l':List Int}(h:l'.Perm l)(s:l'.Pairwise (·<=·)):l'=HD l:=by
 have h1:(HD l).Pairwise (λa b=>decide (a<=b)=true):=List.pairwise_mergeSort (le:=λ(a b:Int)=>decide (a<=b)) (λa b c h1 h2=>O0 (Int.le_trans (O7 h1) (O7 h2))) (λa b=>by rcases Int.le_total a b with h|h<;>simp[h]) l;have h2:(HD l).Pairwise (·<=·):=h1.imp λh=>O7 h;refine List.Perm.eq_of_pairwise (le:=(·<=·)) (λa b _ _ h1 h2=>Int.le_antisymm h1 h2) s h2 (h.trans (List.mergeSort_perm l _).symm)
def sI(l:List Int):(HD l).length=l.length:=(List.mergeSort_perm l _).length_eq
def At{l:List Int}{x:Int}:x∈HD l↔x∈l:=(List.mergeSort_perm l _).mem_iff
def Ab{wide high:Nat}{v:Int}(hw:wide<=13)(hh:high<=13)(h:v∈u7 wide high):∃n:Nat,v=(n:Nat)/\n<169/\n%13<wide/\n/13<high:=by
 unfold u7 at h;obtain⟨y,hy,hv⟩:=Qn.mp h;obtain⟨x,hx,rfl⟩:=Pg.mp hv;have hy:=Pl.mp hy;have hx:=Pl.mp hx;exact⟨13*y+x,rfl,by omega,by omega,by omega⟩
def de(v:Int):Int:=if v=0 then 2 else if v=1 then 0 else 1
def vO{v:Int}(h0:0<=v)(h3:v<=3):Cg ([.int 2,.int 0,.int 1,.int 1]:List V) v=some (.int (de v)):=by
 have:v=0\/v=1\/v=2\/v=3:=by omega
 rcases this with rfl|rfl|rfl|rfl<;>rfl
def reachOf(r:R0)(ps:List Int)(start:Nat):List Int:=(List.range 4).flatMap λ(d:Nat)=>bn r ps start d
def du(r:R0)(ps:List Int)(start:Nat):List Int:=HD (reachOf r ps start)
def E_(a:Ad):Sp:=λvs H Q _=>∃(A:RA)(r:R0)(p:Addr)(ps:List Int)(start:Nat),vs=[.ref A.x,.ref p,.int (start:Nat)]/\oN a H A r/\H p=some (.lst (ps.map V.int))/\ps.length=169/\start<169/\
 ∀H' q,aE H H'->H q=none->H' q=some (.lst ((du r ps start).map V.int))->Q (.ref q) H'
def rL{ws:List Addr}{i:Nat}{x:V}(h:(ws.map V.ref)[i]? =some x):∃w,ws[i]? =some w/\x=.ref w:=by
 rw[Ph]at h;cases e:ws[i]? with
 |none=>rw[e]at h;cases h
 |some w=>rw[e]at h;cases h;exact⟨w,rfl,rfl⟩
def mq(r:R0)(ps:List Int)(start d:Nat):(bn r ps start d).length<=13:=xY _ _ _ _ _ _
def j0:aB ["rules","pieces","start","targets","way"] ["rules","pieces","start"] (ao (top 22)):=aR
def vD(T:Tx K mg a):a4 P w K mg base (cX P w) 3 a.gi a.pF ["rules","pieces","start"] (E_ a):=by
 refine T.gi.F.lL j0 λcdv A outer s H vs Q E hr h=>?_;obtain⟨A',r,p,ps,start,rfl,R,hp,hl,hs,k⟩:=h;refine⟨_,(ae (eV 3 j0.nd (cf ah)) (ae (dL Ql rfl (cP (ay (pv 0) rfl)) (kR 4 j0.nd) (aj (aZ (jg PQ QJ QK kJ (pv 3) (aa (dn T.fE (pZ T) hr aK (aa (pv 0) (aa (pv 1) (aa (pv 2) (aa (pv 4) ah))))) ah))))) (aj (aF (bu rD rfl T.yB (by decide+kernel) (aa (pv 3) ah)))))),?_⟩;refine⟨P4 _,λq hq=>?_⟩;have S0:aE H (upd H q (.lst [])):=aC hq;refine⟨_,rfl,A'.x,_,_,_,_,rfl,S0 _ _ R.ins,T.aU.cl,T.gA,rfl,A'.wz,rfl,⟨_,a0.of (S0 _ _ R.wz)⟩,?_⟩;refine gm (xs:=A'.ws.map V.ref) (λi σ H'=>∃u,σ=[some (.ref A'.x),some (.ref p),some (.int (start:Nat)),some (.ref q),u]/\aE H H'/\H' q=some (.lst (((List.range i).flatMap λ(d:Nat)=>bn r ps start d).map V.int))) ⟨_,rfl,S0,by rw[ai];rfl⟩ (λi σ H1 _⟨u,e,s1,h1⟩=>a0.of (s1 _ _ R.wz)) (λi x σ H1 hx⟨u,e,s1,h1⟩=>?_) λσ H1⟨u,e,s1,h1⟩=>?_
 ·subst e
  obtain⟨wa,hw,rfl⟩:=rL hx;have i4:i<4:=by rw[<-R.wl];exact(O6.mp hw).1
  refine⟨_,rfl,.inl ⟨rfl,_,a0.of h1⟩,_,rfl,_,rfl,_,rfl,_,rfl,A',r,p,wa,ps,start,i,rfl,R.same s1,s1 _ _ hp,hl,hs,hw,λH2 y s2 hy h2=>?_⟩;refine⟨q,y,_,_,rfl,rfl,s2 _ _ h1,h2,?_,_,rfl,cY hq (s1.trans s2),?_⟩
  ·rw[OU,OU,O2]
   have:=je (λ(d:Nat)=>bn r ps start d) 13 (λd=>mq r ps start d) i;have:=mq r ps start i;omega
  ·rw[ai,kM,Pn]
 ·subst e
  rw[OU,R.wl]at h1;refine⟨_,rfl,q,_,rfl,a0.of h1,?_,λns' y hp' hs' hy=>?_⟩
  ·have:=je (λ(d:Nat)=>bn r ps start d) 13 (λd=>mq r ps start d) 4
   rw[O2];omega
  ·refine k _ y (s1.trans (aC hy)) (s1.free hy) ?_
   rw[ai,Db hp' hs'];rfl
def cellsOf(r:R0)(ps:List Int)(turn:Int):List Int:=(u7 r.wide r.high).filter λ(c:Int)=>decide (de (ps.getD c.toNat 0)=turn)
def Jt(a:Ad):Sp:=λvs H Q _=>∃(A:RA)(r:R0)(p:Addr)(ps:List Int)(turn:Int),vs=[.ref A.x,.ref p,.int turn]/\oN a H A r/\H p=some (.lst (ps.map V.int))/\rZ ps/\
 ∀H' q,aE H H'->H q=none->H' q=some (.lst ((cellsOf r ps turn).map V.int))->Q (.ref q) H'
def Ao(wide high:Nat)(hw:wide<=13)(hh:high<=13):(u7 wide high).length<=169:=by
 have:=je (λ(y:Nat)=>(List.range wide).map λ(x:Nat)=>((13*y+x:Nat):Int)) 13 (λi=>by rw[OU,Qc];exact hw) high;unfold u7;omega
def pI:aB ["rules","pieces","turn","cell"] ["rules","pieces","turn"] (ao (top 23)):=aR
def uQ(T:Tx K mg a):a4 P w K mg base (cX P w) 1 a.jj a.w9 ["rules","pieces","turn"] (Jt a):=by
 refine T.jj.F.lL pI λcdv A outer s H vs Q E hr h=>?_;obtain⟨A',r,p,ps,turn,rfl,R,hp,W,k⟩:=h;refine⟨_,(aj (aF (lS (own:=[("cell",3)]) rfl pI.nd (cP (ay (pv 0) rfl)) (cq rfl) (λ_ _ _ _ _=>(kR 3 pI.nd)) (λ_ _ _ _ _=>(Eo (aI bQ (bj (v_ K rfl) (J1 T.vR) (bj (tS K rfl) (pv 1) (pv 3) (λ_ _=>rfl)) (λ_ _=>rfl)) (pv 2) (aJ _)))) (λ_ _ _ _ _=>(pv 3))))),?_⟩;have ul:=Ao r.wide r.high R.ok.w R.ok.h;refine⟨_,rfl,A'.x,_,_,_,_,rfl,R.ins,T.aU.cl,T.qR,rfl,A'.cs,rfl,⟨_,a0.of R.cs⟩,λD hD=>iJ (J:=De K A'.cs) (n:=(u7 r.wide r.high).length) (λi=>((((u7 r.wide r.high).take i).filter λ(c:Int)=>decide (de (ps.getD c.toNat 0)=turn)).map V.int)) hD (by simp) (λi H hi s=>⟨_,V.int ((u7 r.wide r.high)[i]'hi),a0.of (s _ _ R.cs),by simp⟩) (λH s=>⟨_,a0.of (s _ _ R.cs),by rw[OU];exact OZ _⟩) (λi H' hi s1 e1 y H2 hy=>?_) λH' s1 e1=>?_⟩
 ·obtain⟨rfl,hy⟩:=hy
  have hx:(u7 r.wide r.high)[i]? =some ((u7 r.wide r.high)[i]'hi):=OY hi;have hy':=hy _ (a0.of (s1 _ _ R.cs));rw[Ph,hx]at hy';cases hy';obtain⟨n,en,n1,n2,n3⟩:=Ab R.ok.w R.ok.h (Rh hi);generalize(u7 r.wide r.high)[i]'hi=v at*;subst en;have en:((n:Nat):Int).toNat=n:=rfl;have ap:=cR (l:=ps) (c:=n) (by rw[W.len];exact n1);obtain⟨v0,v3⟩:=W.val n;refine⟨rfl,_,rfl,_,rfl,p,_,_,_,rfl,rfl,a0.of (s1 _ _ hp),at_of (j:=n) rfl ap,a.qi,_,_,_,rfl,rfl,T.vX _,vO v0 v3,_,rfl,rfl,_,rfl,dH (λg1=>?_) λg1=>?_⟩
  ·refine⟨_,rfl,?_⟩
   refine Got.of hD s1 e1 (aE.refl _) ?_ ?_
   ·rw[OU]
    have:=Rv (λ(c:Int)=>decide (de (ps.getD c.toNat 0)=turn)) ((u7 r.wide r.high).take i);rw[PK]at this;omega
   ·rw[qC _ hx,Pn,en,OW (O0 g1)]
    rfl
  ·refine⟨s1,?_⟩
   rw[e1,qC _ hx,en,OV (by rw[PF g1];exact O3),PU]
 ·refine k _ D s1 hD ?_
  rw[e1,PB (OZ _)];rfl
def BI(r:R0)(ps:List Int)(turn:Int):Bool:=(cellsOf r ps turn).any λ(c:Int)=>(List.range 4).any λ(d:Nat)=>decide (0<(bn r ps c.toNat d).length)
def LJ(a:Ad):Sp:=λvs H Q _=>∃(A:RA)(r:R0)(p:Addr)(ps:List Int)(turn:Int),vs=[.ref A.x,.ref p,.int turn]/\oN a H A r/\H p=some (.lst (ps.map V.int))/\rZ ps/\
 ∀H',aE H H'->Q (.bl (BI r ps turn)) H'
def any_of_none{α:Type}{l:List α}{f:α->Bool}(h:∀(i:Nat)(x:α),l[i]? =some x->f x=false):l.any f=false:=by
 rw[QL];intro x hx;obtain⟨i,hi,e⟩:=QQ hx;rw[h i x (by rw[OY hi,e])];exact O3
def int_at{l:List Int}{i:Nat}{x:V}(h:(l.map V.int)[i]? =some x):∃v,l[i]? =some v/\x=.int v:=by
 rw[Ph]at h;cases e:l[i]? with
 |none=>rw[e]at h;cases h
 |some w=>rw[e]at h;cases h;exact⟨w,rfl,rfl⟩
def jL{r:R0}{ps:List Int}{turn v:Int}(W:zB r)(h:v∈cellsOf r ps turn):∃n:Nat,v=(n:Nat)/\n<169/\n%13<r.wide/\n/13<r.high:=Ab W.w W.h (PR.mp h).1
def p_:aB ["rules","pieces","turn","start","way"] ["rules","pieces","turn"] (ao (top 24)):=aR
def BV(T:Tx K mg a):a4 P w K mg base (cX P w) 3 a.lB a.xx ["rules","pieces","turn"] (LJ a):=by
 refine T.lB.F.lL p_ λcdv A outer s H vs Q E hr h=>?_;obtain⟨A',r,p,ps,turn,rfl,R,hp,W,k⟩:=h;refine⟨_,(ae (dL Ql rfl (cP (dn T.jj (uQ T) hr aK (aa (pv 0) (aa (pv 1) (aa (pv 2) ah))))) (kR 3 p_.nd) (aj (dL Ql rfl (cP (ay (pv 0) rfl)) (kR 4 p_.nd) (aj (bG (aI oJ (bu bP rfl T.mE (by decide+kernel) (aa (dn T.fE (pZ T) hr aK (aa (pv 0) (aa (pv 1) (aa (pv 3) (aa (pv 4) ah))))) ah)) az (aJ _)) (aj (aF rm)) aW))))) (aj (aF rm))),?_⟩;refine⟨_,rfl,_,rfl,_,rfl,A',r,p,ps,turn,rfl,R,hp,W,λH1 l s1 hl h1=>⟨l,rfl,⟨_,a0.of h1⟩,?_⟩⟩;refine gm (xs:=(cellsOf r ps turn).map V.int) (λi σ H'=>∃u v,σ=[some (.ref A'.x),some (.ref p),some (.int turn),u,v]/\aE H1 H'/\∀j x,j<i->(cellsOf r ps turn)[j]? =some x->((List.range 4).any λ(d:Nat)=>decide (0<(bn r ps x.toNat d).length))=false) ⟨_,_,rfl,aE.refl _,λj x h=>absurd h (Nat.not_lt_zero _)⟩ (λi σ H2 _⟨u,v,e,s2,h2⟩=>a0.of (s2 _ _ h1)) (λi x σ H2 hx⟨u,v,e,s2,h2⟩=>?_) λσ H2⟨u,v,e,s2,h2⟩=>?_
 ·subst e
  obtain⟨cv,hc,rfl⟩:=int_at hx;obtain⟨c,rfl,c1,_,_⟩:=jL R.ok (Pw hc);have R2:=R.same (s1.trans s2);refine⟨_,rfl,A'.x,_,_,_,_,rfl,R2.ins,T.aU.cl,T.gA,rfl,A'.wz,rfl,⟨_,a0.of R2.wz⟩,?_⟩;refine gm (xs:=A'.ws.map V.ref) (λj σ H'=>∃v,σ=[some (.ref A'.x),some (.ref p),some (.int turn),some (.int (c:Nat)),v]/\aE H1 H'/\∀d,d<j->0=(bn r ps c d).length) ⟨_,rfl,s2,λd h=>absurd h (Nat.not_lt_zero _)⟩ (λi σ H2 _⟨v,e,s2,h2⟩=>a0.of ((s1.trans s2) _ _ R.wz)) (λj x σ H3 hx⟨v,e,s3,h3⟩=>?_) λσ H3⟨v,e,s3,h3⟩=>?_
  ·subst e
   obtain⟨wa,hw,rfl⟩:=rL hx;have j4:j<4:=by rw[<-R.wl];exact(O6.mp hw).1
   have s13:=s1.trans s3;refine⟨_,rfl,_,rfl,_,rfl,_,rfl,A',r,p,wa,ps,c,j,rfl,R.same s13,s13 _ _ hp,W.len,c1,hw,λH4 y s4 hy h4=>?_⟩;refine⟨y,_,rfl,.inl (a0.of h4),_,_,rfl,rfl,_,rfl,gD (λg1=>?_) λg1=>?_⟩
   ·have g1:=O7 g1
    rw[OU]at g1;have e:BI r ps turn=true:=Qk.mpr ⟨_,Pw hc,Qk.mpr ⟨j,Pl.mpr j4,O0 (by show 0<(bn r ps c j).length;omega)⟩⟩;rw[e]at k;exact k _ (s13.trans s4)
   ·have g1:¬(0:Int)<(((bn r ps c j).map V.int).length:Nat):=λz=>g1 (O0 z)
    rw[OU]at g1;refine⟨_,rfl,s3.trans s4,λd hd=>?_⟩;rcases Rg.mp hd with q|q
    ·exact h3 d q
    ·subst q
     omega
  ·subst e
   rw[OU,R.wl]at h3;refine⟨_,_,rfl,s3,λj x hj hx'=>?_⟩;rcases Rg.mp hj with q|q
   ·exact h2 j x q hx'
   ·subst q
    rw[hc]at hx';cases hx';rw[QL];intro d hd;have:=h3 d (Pl.mp hd);show¬decide (0<(bn r ps c d).length)=true;rw[<-this];decide
 ·subst e
  rw[OU]at h2;have e:BI r ps turn=false:=any_of_none λi x hx=>h2 i x ((O6.mp hx).1) hx;rw[e]at k;exact k _ (s1.trans s2)
def AI(r:R0)(ps:List Int)(c:Nat):Int:=if r.ground.getD c 0=2 then r.exits else if r.ground.getD c 0=1/\ps.getD c 0=0 then r.seat else 0
def lP(piece:Int):Int:=if piece=1 then 1 else 2
def li(r:R0)(ps:List Int)(c:Nat)(piece:Int):Bool:=decide (0<Builtin.bitAnd (AI r ps c) (lP piece))
def Ev(a:Ad):Sp:=λvs H Q _=>∃(A:RA)(r:R0)(p:Addr)(ps:List Int)(piece:Int)(c:Nat),vs=[.ref A.x,.ref p,.int (c:Nat),.int piece]/\oN a H A r/\H p=some (.lst (ps.map V.int))/\ps.length=169/\c<169/\Q (.bl (li r ps c piece)) H
def g6:aB ["rules","pieces","cell","piece","enmity","share"] ["rules","pieces","cell","piece"] (ao (top 25)):=aR
def yQ(T:Tx K mg a):a4 P w K mg base (cX P w) 1 a.iX a.sJ ["rules","pieces","cell","piece"] (Ev a):=by
 refine T.iX.F.lL g6 λcdv A outer s H vs Q E hr h=>?_;obtain⟨A',r,p,ps,piece,c,rfl,R,hp,hl,hc,k⟩:=h;refine⟨_,(ae (eV 4 g6.nd az) (ae (bG (aI bQ (bj a_ (ay (pv 0) rfl) (pv 2) (λ_ _=>rfl)) (mT T.Aw) (aJ _)) (aj (eV 4 g6.nd (ay (pv 0) rfl))) (aj (bG (PW.pt (gR (aI bQ (bj a_ (ay (pv 0) rfl) (pv 2) (λ_ _=>rfl)) (mT T.Ae) (aJ _)) (fe (aI bQ (bj a_ (pv 1) (pv 2) (λ_ _=>rfl)) (mT T.i7) (aJ _))))) (aj (eV 4 g6.nd (ay (pv 0) rfl))) aW))) (ae (eV 5 g6.nd (yy (aI bQ (pv 3) (mT T.BL) (aJ _)) az az)) (aj (aF (dY oJ (bz Lf (pv 4) (pv 5)) az (aJ _))))))),?_⟩;have ag:=cR (l:=r.ground) (c:=c) (by rw[R.ok.g];exact hc);have ap:=cR (l:=ps) (c:=c) (by rw[hl];exact hc);unfold li at k;refine⟨_,rfl,A'.x,_,_,_,_,rfl,R.ins,T.aU.cl,T.dw,rfl,_,rfl,A'.gr,_,_,_,rfl,rfl,a0.of R.gr,at_of (j:=c) rfl ag,rfl,_,rfl,dH (λh1=>?_) λh1=>⟨_,rfl,A'.x,_,_,_,_,rfl,R.ins,T.aU.cl,T.dw,rfl,_,rfl,A'.gr,_,_,_,rfl,rfl,a0.of R.gr,at_of (j:=c) rfl ag,rfl,_,rfl,dH (λh2=>⟨_,rfl,_,rfl,p,_,_,_,rfl,rfl,a0.of hp,at_of (j:=c) rfl ap,rfl,_,rfl,dH (λh3=>?_) λh3=>?_⟩) λh2=>?_⟩⟩
 ·have e:AI r ps c=r.exits:=OW h1
  rw[e]at k;refine⟨_,rfl,A'.x,_,_,_,_,rfl,R.ins,T.aU.cl,T.qU,rfl,_,rfl,rfl,_,rfl,dH (λh4=>?_) λh4=>?_⟩
  ·rw[show lP piece=1 from OW h4]at k
   exact⟨_,rfl,_,rfl,_,_,rfl,rfl,_,_,rfl,rfl,k⟩
  ·rw[show lP piece=2 from OV h4]at k
   exact⟨_,rfl,_,rfl,_,_,rfl,rfl,_,_,rfl,rfl,k⟩
 ·have e:AI r ps c=r.seat:=by unfold AI;rw[OV h1,OW ⟨h2,h3⟩]
  rw[e]at k;refine⟨_,rfl,A'.x,_,_,_,_,rfl,R.ins,T.aU.cl,T.sf,rfl,_,rfl,rfl,_,rfl,dH (λh4=>?_) λh4=>?_⟩
  ·rw[show lP piece=1 from OW h4]at k
   exact⟨_,rfl,_,rfl,_,_,rfl,rfl,_,_,rfl,rfl,k⟩
  ·rw[show lP piece=2 from OV h4]at k
   exact⟨_,rfl,_,rfl,_,_,rfl,rfl,_,_,rfl,rfl,k⟩
 ·have e:AI r ps c=0:=by unfold AI;rw[OV h1,OV (λz=>h3 z.2)]
  rw[e]at k;refine⟨_,rfl,rfl,_,rfl,dH (λh4=>?_) λh4=>?_⟩
  ·rw[show lP piece=1 from OW h4]at k
   exact⟨_,rfl,_,rfl,_,_,rfl,rfl,_,_,rfl,rfl,k⟩
  ·rw[show lP piece=2 from OV h4]at k
   exact⟨_,rfl,_,rfl,_,_,rfl,rfl,_,_,rfl,rfl,k⟩
 ·have e:AI r ps c=0:=by unfold AI;rw[OV h1,OV (λz=>h2 z.1)]
  rw[e]at k;refine⟨_,rfl,rfl,_,rfl,dH (λh4=>?_) λh4=>?_⟩
  ·rw[show lP piece=1 from OW h4]at k
   exact⟨_,rfl,_,rfl,_,_,rfl,rfl,_,_,rfl,rfl,k⟩
  ·rw[show lP piece=2 from OV h4]at k
   exact⟨_,rfl,_,rfl,_,_,rfl,rfl,_,_,rfl,rfl,k⟩
def rX(r:R0)(piece side:Int):Bool:=decide (de piece=side)&&(!decide (piece=3)||decide (r.armed=1))
def Iq(a:Ad):Sp:=λvs H Q _=>∃(A:RA)(r:R0)(piece side:Int),vs=[.ref A.x,.int piece,.int side]/\oN a H A r/\0<=piece/\piece<=3/\Q (.bl (rX r piece side)) H
def Gf:aB ["rules","piece","side"] ["rules","piece","side"] (ao (top 26)):=aR
def Hc(T:Tx K mg a):a4 P w K mg base (cX P w) 1 a.s_ a.DZ ["rules","piece","side"] (Iq a):=by
 refine T.s_.F.lL Gf λcdv A outer s H vs Q E hr h=>?_;obtain⟨A',r,piece,side,rfl,R,v0,v3,k⟩:=h;refine⟨_,(aj (aF (yn (dY bQ (bj jo (J1 T.vR) (pv 1) (λ_ _=>rfl)) (pv 2) (aJ _)) (pE (G9 (dY Dy (pv 1) (mT T.jZ) (aJ _)) (pE (dY bQ (ay (pv 0) rfl) az (aJ _)))))))),?_⟩;unfold rX at k;refine⟨_,rfl,a.qi,_,_,_,rfl,rfl,T.vX _,vO v0 v3,_,rfl,rfl,_,rfl,dH (λh1=>?_) λh1=>?_⟩
 ·rw[O0 h1,Bool.true_and]at k
  refine⟨_,rfl,rfl,_,rfl,LM (λh2=>?_) λh2=>?_⟩
  ·rw[PF h2]at k
   exact k
  ·rw[O0 h2]at k
   refine⟨_,rfl,A'.x,_,_,_,_,rfl,R.ins,T.aU.cl,T.mJ,rfl,rfl,?_⟩;rw[g9];exact k
 ·rw[PF h1]at k
  exact k
def o8(r:R0)(ps:List Int)(cell victim side:Int):Bool:=if cell<0 then false else rX r (ps.getD cell.toNat 0) side||li r ps cell.toNat victim
def KP(a:Ad):Sp:=λvs H Q _=>∃(A:RA)(r:R0)(p:Addr)(ps:List Int)(cell victim side:Int),vs=[.ref A.x,.ref p,.int cell,.int victim,.int side]/\oN a H A r/\H p=some (.lst (ps.map V.int))/\rZ ps/\(cell= -1\/∃c:Nat,cell=(c:Nat)/\c<169)/\Q (.bl (o8 r ps cell victim side)) H
def CC:aB ["rules","pieces","cell","victim","side"] ["rules","pieces","cell","victim","side"] (ao (top 27)):=aR
def xE(T:Tx K mg a):a4 P w K mg base (cX P w) 2 a.kL a.zI ["rules","pieces","cell","victim","side"] (KP a):=by
 refine T.kL.F.lL CC λcdv A outer s H vs Q E hr h=>?_;obtain⟨A',r,p,ps,cell,victim,side,rfl,R,hp,W,hc,k⟩:=h;refine⟨_,(ae (bG (aI uD (pv 2) az (aJ _)) (aj (aF rm)) aW) (aj (aF (G9 (dn T.s_ (Hc T) hr aK (aa (pv 0) (aa (bj a_ (pv 1) (pv 2) (λ_ _=>rfl)) (aa (pv 4) ah)))) (pE (dn T.iX (yQ T) hr aK (aa (pv 0) (aa (pv 1) (aa (pv 2) (aa (pv 3) ah)))))))))),?_⟩;unfold o8 at k;refine⟨_,rfl,_,_,rfl,rfl,_,rfl,gD (λh1=>?_) λh1=>?_⟩
 ·rw[OW (O7 h1)]at k
  exact k
 ·have h1:¬cell<0:=λz=>h1 (O0 z)
  rw[OV h1]at k;rcases hc with hc|⟨c,rfl,c1⟩
  ·omega
  replace k:Q (.bl (rX r (ps.getD c 0) side||li r ps c victim)) H:=k;have ap:=cR (l:=ps) (c:=c) (by rw[W.len];exact c1);obtain⟨v0,v3⟩:=W.val c;refine⟨_,rfl,_,rfl,_,rfl,p,_,_,_,rfl,rfl,a0.of hp,at_of (j:=c) rfl ap,_,rfl,A',r,_,_,rfl,R,v0,v3,_,rfl,fQ (λh2=>?_) λh2=>?_⟩
  ·rw[h2]at k
   exact k
  ·rw[h2,Bool.false_or]at k
   exact⟨_,rfl,_,rfl,_,rfl,_,rfl,A',r,p,ps,victim,c,rfl,R,hp,W.len,c1,k⟩
def kN(r:R0)(ps:List Int)(c d:Nat)(side:Int):Bool:=if ps.getD c 0=3/\r.four=1 then(List.range 4).all λ(e:Nat)=>o8 r ps (dm r.wide r.high c (cF e) (cE e)) (ps.getD c 0) side else o8 r ps (dm r.wide r.high c (cF d) (cE d)) (ps.getD c 0) side
def Jk(a:Ad):Sp:=λvs H Q _=>∃(A:RA)(r:R0)(p wa:Addr)(ps:List Int)(c d:Nat)(side:Int),vs=[.ref A.x,.ref p,.int (c:Nat),.ref wa,.int side]/\oN a H A r/\H p=some (.lst (ps.map V.int))/\rZ ps/\c<169/\A.ws[d]? =some wa/\∀H',aE H H'->Q (.bl (kN r ps c d side)) H'
def uj{wide high d c:Nat}(hd:d<4)(hc:c<169)(hw:wide<=13)(hh:high<=13):dm wide high c (cF d) (cE d)= -1\/∃n:Nat,dm wide high c (cF d) (cE d)=(n:Nat)/\n<169:=by
 rcases iC hd hc hw hh with h|⟨n,h1,h2,_⟩
 ·exact .inl h
 ·exact .inr ⟨n,h1,h2⟩
def l7:aB ["rules","pieces","cell","way","side","victim","near"] ["rules","pieces","cell","way","side"] (ao (top 28)):=aR
def Cf(T:Tx K mg a):a4 P w K mg base (cX P w) 3 a.ln a.yc ["rules","pieces","cell","way","side"] (Jk a):=by
 refine T.ln.F.lL l7 λcdv A outer s H vs Q E hr h=>?_;obtain⟨A',r,p,wa,ps,c,d,side,rfl,R,hp,W,c1,hw,k⟩:=h;refine⟨_,(ae (eV 5 l7.nd (bj a_ (pv 1) (pv 2) (λ_ _=>rfl))) (ae (bG (PW.pt (gR (aI bQ (pv 5) (mT T.jZ) (aJ _)) (fe (aI bQ (ay (pv 0) rfl) az (aJ _))))) (aj (aF (bu (J8 rfl) rfl T.MK (by decide+kernel) (aa (lS (own:=[("near",6)]) rfl l7.nd (cP (ay (pv 0) rfl)) (cq rfl) (λ_ _ _ _ _=>(kR 6 l7.nd)) (λ_ _ _ _ _=>d8) (λ_ _ _ _ _=>(dn T.kL (xE T) hr aK (aa (pv 0) (aa (pv 1) (aa (bj (tS K rfl) (pv 6) (pv 2) (λ_ _=>rfl)) (aa (pv 5) (aa (pv 4) ah)))))))) ah)))) aW) (aj (aF (dn T.kL (xE T) hr aK (aa (pv 0) (aa (pv 1) (aa (bj a_ (pv 3) (pv 2) (λ_ _=>rfl)) (aa (pv 5) (aa (pv 4) ah)))))))))),?_⟩;have ap:=cR (l:=ps) (c:=c) (by rw[W.len];exact c1);have wy:=R.wy d wa hw;have hd:d<4:=by rw[<-R.wl];exact(O6.mp hw).1
 unfold kN at k;have last:¬(ps.getD c 0=3/\r.four=1)->Q (.bl (o8 r ps (dm r.wide r.high c (cF d) (cE d)) (ps.getD c 0) side)) H:=λz=>by
  have k:=k H (aE.refl _);rw[OV z]at k;exact k
 have bi:=uj (c:=c) hd c1 R.ok.w R.ok.h;refine⟨_,rfl,_,rfl,p,_,_,_,rfl,rfl,a0.of hp,at_of (j:=c) rfl ap,?_⟩;refine⟨_,rfl,rfl,_,rfl,dH (λh1=>⟨_,rfl,A'.x,_,_,_,_,rfl,R.ins,T.aU.cl,T.si,rfl,rfl,_,rfl,dH (λh2=>?_) λh2=>?_⟩) λh1=>?_⟩
 ·rw[OW ⟨h1,h2⟩]at k
  refine⟨_,rfl,A'.x,_,_,_,_,rfl,R.ins,T.aU.cl,T.gA,rfl,A'.wz,rfl,⟨_,a0.of R.wz⟩,λD hD=>iJ (J:=De K A'.wz) (n:=4) (λi=>((List.range i).map λ(e:Nat)=>V.bl (o8 r ps (dm r.wide r.high c (cF e) (cE e)) (ps.getD c 0) side))) hD rfl (λi H hi s=>⟨_,_,a0.of (s _ _ R.wz),by rw[OY (by rw[OU,R.wl];exact hi)]⟩) (λH s=>⟨_,a0.of (s _ _ R.wz),by rw[OU,R.wl];exact OZ _⟩) (λi H' hi s1 e1 y H2 hy=>?_) λH' s1 e1=>?_⟩
  ·obtain⟨rfl,hy⟩:=hy
   obtain⟨wb,hb,rfl⟩:=rL (hy _ (a0.of (s1 _ _ R.wz)));have wyb:=s1 _ _ (R.wy i wb hb);refine⟨rfl,_,rfl,_,rfl,_,rfl,_,rfl,wb,_,_,_,rfl,rfl,a0.of wyb,at_of (j:=c) rfl (mL c1),_,rfl,_,rfl,A',r,p,ps,_,_,_,rfl,R.same s1,s1 _ _ hp,W,uj (c:=c) hi c1 R.ok.w R.ok.h,?_⟩;exact Got.of hD s1 e1 (aE.refl _) (by rw[OU,Qc];omega) (pA _ i)
  ·refine⟨D,(List.range 4).map λ(e:Nat)=>o8 r ps (dm r.wide r.high c (cF e) (cE e)) (ps.getD c 0) side,rfl,?_,?_⟩
   ·refine .inl (.inl ?_)
    rw[e1,Qa];rfl
   ·rw[List.all_map]
    exact k H' s1
 ·exact⟨_,rfl,_,rfl,_,rfl,_,rfl,wa,_,_,_,rfl,rfl,a0.of wy,at_of (j:=c) rfl (mL c1),_,rfl,_,rfl,A',r,p,ps,_,_,_,rfl,R,hp,W,bi,last λz=>h2 z.2⟩
 ·exact⟨_,rfl,_,rfl,_,rfl,_,rfl,wa,_,_,_,rfl,rfl,a0.of wy,at_of (j:=c) rfl (mL c1),_,rfl,_,rfl,A',r,p,ps,_,_,_,rfl,R,hp,W,bi,last λz=>h1 z.1⟩
def jx(r:R0)(ps:List Int)(t d:Nat):List Int:=if 0<=dm r.wide r.high t (cF d) (cE d)/\de (ps.getD (dm r.wide r.high t (cF d) (cE d)).toNat 0)=1-de (ps.getD t 0)/\kN r ps (dm r.wide r.high t (cF d) (cE d)).toNat d (de (ps.getD t 0))=true then[dm r.wide r.high t (cF d) (cE d)]else[]
def yu(r:R0)(ps:List Int)(t d:Nat):(jx r ps t d).length<=1:=by
 unfold jx;split<;>simp
def bW(r:R0)(ps:List Int)(t:Nat):List Int:=if ps.getD t 0=3/\r.armed=0 then[]else HD ((List.range 4).flatMap (jx r ps t))
def Ey(a:Ad):Sp:=λvs H Q _=>∃(A:RA)(r:R0)(p:Addr)(ps:List Int)(t:Nat),vs=[.ref A.x,.ref p,.int (t:Nat)]/\oN a H A r/\H p=some (.lst (ps.map V.int))/\rZ ps/\t<169/\
 ∀H' q,aE H H'->H q=none->H' q=some (.lst ((bW r ps t).map V.int))->Q (.ref q) H'
def fX:aB ["rules","pieces","target","mover","side","foe","taken","way","cell"] ["rules","pieces","target"] (ao (top 29)):=aR
def BX(T:Tx K mg a):a4 P w K mg base (cX P w) 4 a.kT a.yb ["rules","pieces","target"] (Ey a):=by
 refine T.kT.F.lL fX λcdv A outer s H vs Q E hr h=>?_;obtain⟨A',r,p,ps,t,rfl,R,hp,W,t1,k⟩:=h;refine⟨_,(ae (eV 3 fX.nd (bj a_ (pv 1) (pv 2) (λ_ _=>rfl))) (ae (eV 4 fX.nd (bj jo (J1 T.vR) (pv 3) (λ_ _=>rfl))) (ae (bG (PW.pt (gR (aI bQ (pv 3) (mT T.jZ) (aJ _)) (fe (aI bQ (ay (pv 0) rfl) az (aJ _))))) (aj (aF (cf ah))) aW) (ae (eV 5 fX.nd (bz nZ az (pv 4))) (ae (eV 6 fX.nd (cf ah)) (ae (dL Ql rfl (cP (ay (pv 0) rfl)) (kR 7 fX.nd) (ae (eV 8 fX.nd (bj a_ (pv 7) (pv 2) (λ_ _=>rfl))) (aj (bG (PW.pt (gR (aI zV (pv 8) az (aJ _)) (gR (aI bQ (bj jo (J1 T.vR) (bj a_ (pv 1) (pv 8) (λ_ _=>rfl)) (λ_ _=>rfl)) (pv 5) (aJ _)) (fe (dC (dn T.ln (Cf T) hr aK (aa (pv 0) (aa (pv 1) (aa (pv 8) (aa (pv 7) (aa (pv 4) ah))))))))))) (aj (aZ (jg PQ Qo Qp gH (pv 6) (aa (pv 8) ah)))) aW)))) (aj (aF (bu rD rfl T.yB (by decide+kernel) (aa (pv 6) ah)))))))))),?_⟩;have ap:=cR (l:=ps) (c:=t) (by rw[W.len];exact t1);obtain⟨v0,v3⟩:=W.val t;have main:¬(ps.getD t 0=3/\r.armed=0)->∀H' q,aE H H'->H q=none->H' q=some (.lst ((HD ((List.range 4).flatMap (jx r ps t))).map V.int))->Q (.ref q) H':=λz=>by
  unfold bW at k;rw[OV z]at k;exact k
 refine⟨_,rfl,_,rfl,p,_,_,_,rfl,rfl,a0.of hp,at_of (j:=t) rfl ap,?_⟩;refine⟨_,rfl,a.qi,_,_,_,rfl,rfl,T.vX _,vO v0 v3,?_⟩;refine have cont:¬(ps.getD t 0=3/\r.armed=0)->_:= ?c;⟨_,rfl,rfl,_,rfl,dH (λh1=>⟨_,rfl,A'.x,_,_,_,_,rfl,R.ins,T.aU.cl,T.mJ,rfl,rfl,_,rfl,dH (λh2=>?_) λh2=>cont λz=>h2 z.2⟩) λh1=>cont λz=>h1 z.1⟩
 case c=>
  intro hn;have main:=main hn;refine⟨_,rfl,_,_,rfl,rfl,?_⟩;refine⟨P4 _,λq hq=>?_⟩;have S0:aE H (upd H q (.lst [])):=aC hq;refine⟨_,rfl,A'.x,_,_,_,_,rfl,S0 _ _ R.ins,T.aU.cl,T.gA,rfl,A'.wz,rfl,⟨_,a0.of (S0 _ _ R.wz)⟩,?_⟩;refine gm (xs:=A'.ws.map V.ref) (λi σ H'=>∃u v,σ=[some (.ref A'.x),some (.ref p),some (.int (t:Nat)),some (.int (ps.getD t 0)),some (.int (de (ps.getD t 0))),some (.int (1-de (ps.getD t 0))),some (.ref q),u,v]/\aE H H'/\H' q=some (.lst (((List.range i).flatMap (jx r ps t)).map V.int))) ⟨_,_,rfl,S0,by rw[ai];rfl⟩ (λi σ H1 _⟨u,v,e,s1,h1⟩=>a0.of (s1 _ _ R.wz)) (λi x σ H1 hx⟨u,v,e,s1,h1⟩=>?_) λσ H1⟨u,v,e,s1,h1⟩=>?_
  ·subst e
   obtain⟨wa,hw,rfl⟩:=rL hx;have i4:i<4:=by rw[<-R.wl];exact(O6.mp hw).1
   have wy:=s1 _ _ (R.wy i wa hw);have nil:∀H2,aE H1 H2->jx r ps t i=[]->∃u v,[some (.ref A'.x),some (.ref p),some (.int (t:Nat)),some (.int (ps.getD t 0)),some (.int (de (ps.getD t 0))),some (.int (1-de (ps.getD t 0))),some (.ref q),some (.ref wa),some (V.int (dm r.wide r.high t (cF i) (cE i)))]=[some (.ref A'.x),some (.ref p),some (.int (t:Nat)),some (.int (ps.getD t 0)),some (.int (de (ps.getD t 0))),some (.int (1-de (ps.getD t 0))),some (.ref q),u,v]/\aE H H2/\H2 q=some (.lst (((List.range (i+1)).flatMap (jx r ps t)).map V.int)):=λH2 s2 e=>⟨_,_,rfl,s1.trans s2,by rw[s2 _ _ h1,kM,e,PU]⟩;refine⟨_,rfl,_,rfl,wa,_,_,_,rfl,rfl,a0.of wy,at_of (j:=t) rfl (mL t1),?_⟩;have bc:=uj (c:=t) i4 t1 R.ok.w R.ok.h;have tk:jx r ps t i=if 0<=dm r.wide r.high t (cF i) (cE i)/\de (ps.getD (dm r.wide r.high t (cF i) (cE i)).toNat 0)=1-de (ps.getD t 0)/\kN r ps (dm r.wide r.high t (cF i) (cE i)).toNat i (de (ps.getD t 0))=true then[dm r.wide r.high t (cF i) (cE i)]else[]:=rfl;generalize dm r.wide r.high t (cF i) (cE i)=cell at*;refine⟨_,rfl,_,_,rfl,rfl,_,rfl,gD (λg1=>?_) λg1=>?_⟩
   ·have g1:=O7 g1
    rcases bc with bc|⟨c,rfl,c1⟩
    ·omega
    have en:((c:Nat):Int).toNat=c:=rfl;rw[en]at tk;have ac:=cR (l:=ps) (c:=c) (by rw[W.len];exact c1);obtain⟨w0,w3⟩:=W.val c;refine⟨_,rfl,_,rfl,p,_,_,_,rfl,rfl,a0.of (s1 _ _ hp),at_of (j:=c) rfl ac,a.qi,_,_,_,rfl,rfl,T.vX _,vO w0 w3,_,rfl,rfl,_,rfl,dH (λg2=>?_) λg2=>?_⟩
    ·refine⟨_,rfl,_,rfl,_,rfl,_,rfl,_,rfl,A',r,p,wa,ps,c,i,_,rfl,R.same s1,s1 _ _ hp,W,c1,hw,λH2 s2=>⟨_,rfl,fQ (λg3=>?_) λg3=>?_⟩⟩
     ·rw[OW ⟨g1,g2,g3⟩]at tk
      have h2:=s2 _ _ h1;refine⟨_,rfl,.inl ⟨rfl,_,a0.of h2⟩,_,rfl,q,_,_,rfl,rfl,h2,?_,_,_,rfl,cY hq (s1.trans s2),?_⟩
      ·rw[OU,O2]
       have:=je (jx r ps t) 1 (yu r ps t) i;omega
      ·rw[ai,kM,tk,Pn]
       rfl
     ·rw[OV (λz=>by rw[z.2.2]at g3;cases g3)]at tk
      exact nil H2 s2 tk
    ·rw[OV (λz=>g2 z.2.1)]at tk
     exact nil H1 (aE.refl _) tk
   ·rw[OV (λz=>g1 (O0 z.1))]at tk
    exact nil H1 (aE.refl _) tk
  ·subst e
   rw[OU,R.wl]at h1;refine⟨_,rfl,q,_,rfl,a0.of h1,?_,λns' y hp' hs' hy=>?_⟩
   ·have:=je (jx r ps t) 1 (yu r ps t) 4
    rw[O2];omega
   ·refine main _ y (s1.trans (aC hy)) (s1.free hy) ?_
    rw[ai,Db hp' hs']
 ·unfold bW at k
  rw[OW ⟨h1,h2⟩]at k;exact⟨P4 _,λq hq=>k _ q (aC hq) hq (by rw[ai];rfl)⟩
def wD(r:R0)(c:Nat):Bool:=(List.range 4).any λ(d:Nat)=>decide (dm r.wide r.high c (cF d) (cE d)<0)
def Kj(a:Ad):Sp:=λvs H Q _=>∃(A:RA)(r:R0)(c:Nat),vs=[.ref A.x,.int (c:Nat)]/\oN a H A r/\c<169/\∀H',aE H H'->Q (.bl (wD r c)) H'
def jr:aB ["self","cell","way"] ["self","cell"] (ao (inClass (top 78) 1)):=aR
def m4(T:Tx K mg a):a4 P w K mg base (cX P w) 1 a.dQ a.oE ["self","cell"] (Kj a):=by
 refine T.dQ.F.lL jr λcdv A outer s H vs Q E hr h=>?_;obtain⟨A',r,c,rfl,R,c1,k⟩:=h;refine⟨_,(aj (aF (bu (CB rfl) rfl T.Hj (by decide+kernel) (aa (lS (own:=[("way",2)]) rfl jr.nd (cP (ay (pv 0) rfl)) (cq rfl) (λ_ _ _ _ _=>(kR 2 jr.nd)) (λ_ _ _ _ _=>d8) (λ_ _ _ _ _=>(dY uD (bj (tS K rfl) (pv 2) (pv 1) (λ_ _=>rfl)) az (aJ _)))) ah)))),?_⟩;refine⟨_,rfl,A'.x,_,_,_,_,rfl,R.ins,T.aU.cl,T.gA,rfl,A'.wz,rfl,⟨_,a0.of R.wz⟩,λD hD=>iJ (J:=De K A'.wz) (n:=4) (λi=>((List.range i).map λ(e:Nat)=>V.bl (decide (dm r.wide r.high c (cF e) (cE e)<0)))) hD rfl (λi H hi s=>⟨_,_,a0.of (s _ _ R.wz),by rw[OY (by rw[OU,R.wl];exact hi)]⟩) (λH s=>⟨_,a0.of (s _ _ R.wz),by rw[OU,R.wl];exact OZ _⟩) (λi H' hi s1 e1 y H2 hy=>?_) λH' s1 e1=>?_⟩
 ·obtain⟨rfl,hy⟩:=hy
  obtain⟨wb,hb,rfl⟩:=rL (hy _ (a0.of (s1 _ _ R.wz)));have wyb:=s1 _ _ (R.wy i wb hb);refine⟨rfl,_,rfl,_,rfl,wb,_,_,_,rfl,rfl,a0.of wyb,at_of (j:=c) rfl (mL c1),_,_,rfl,rfl,?_⟩;exact Got.of hD s1 e1 (aE.refl _) (by rw[OU,Qc];omega) (pA _ i)
 ·refine⟨D,(List.range 4).map λ(e:Nat)=>decide (dm r.wide r.high c (cF e) (cE e)<0),rfl,?_,?_⟩
  ·refine .inl (.inl ?_)
   rw[e1,Qa];rfl
  ·rw[QT]
   exact k H' s1
def wF(r:R0)(c:Nat):Bool:=if r.goal=1 then decide (r.ground.getD c 0=2)else wD r c
def Kr(a:Ad):Sp:=λvs H Q _=>∃(A:RA)(r:R0)(c:Nat),vs=[.ref A.x,.int (c:Nat)]/\oN a H A r/\c<169/\∀H',aE H H'->Q (.bl (wF r c)) H'
def yJ:aB ["rules","king"] ["rules","king"] (ao (top 30)):=aR
def yY(T:Tx K mg a):a4 P w K mg base (cX P w) 2 a.i9 a.sQ ["rules","king"] (Kr a):=by
 refine T.i9.F.lL yJ λcdv A outer s H vs Q E hr h=>?_;obtain⟨A',r,c,rfl,R,c1,k⟩:=h;refine⟨_,(ae (bG (aI bQ (ay (pv 0) rfl) az (aJ _)) (aj (aF (dY bQ (bj a_ (ay (pv 0) rfl) (pv 1) (λ_ _=>rfl)) (mT T.Aw) (aJ _)))) aW) (aj (aF (jf (pv 0) T.aU T.dQ (m4 T) hr aK (aa (pv 1) ah))))),?_⟩;have ag:=cR (l:=r.ground) (c:=c) (by rw[R.ok.g];exact c1);unfold wF at k;refine⟨_,rfl,A'.x,_,_,_,_,rfl,R.ins,T.aU.cl,T.tf,rfl,rfl,_,rfl,dH (λh1=>?_) λh1=>?_⟩
 ·rw[OW h1]at k
  refine⟨_,rfl,A'.x,_,_,_,_,rfl,R.ins,T.aU.cl,T.dw,rfl,_,rfl,A'.gr,_,_,_,rfl,rfl,a0.of R.gr,at_of (j:=c) rfl ag,rfl,?_⟩;rw[g9];exact k H (aE.refl _)
 ·rw[OV h1]at k
  exact⟨_,rfl,A'.x,_,_,rfl,R.ins,rfl,_,rfl,A',r,c,rfl,R,c1,k⟩
structure v7(a:Ad)(H:Hp)(x dx p:Addr)(ps:List Int)(t:Int):Prop where
 ins:H x=some (.ins a.bM dx (A4 p t))
 pc:H p=some (.lst (ps.map V.int))
 ok:rZ ps
 tn:t=0\/t=1
def v7.same{H H':Hp}{x dx p:Addr}{ps:List Int}{t:Int}(R:v7 a H x dx p ps t)(s:aE H H'):v7 a H' x dx p ps t:=⟨s _ _ R.ins,s _ _ R.pc,R.ok,R.tn⟩
def DB{ps:List Int}(W:rZ ps):fZ ps= -1\/∃c:Nat,fZ ps=(c:Nat)/\c<169:=by
 unfold fZ
 by_cases h:(3:Int)∈ps
 ·rw[OW h]
  exact .inr ⟨_,rfl,by rw[<-W.len];exact QC ⟨3,h,rfl⟩⟩
 ·rw[OV h]
  exact .inl rfl
def fY(r:R0)(ps:List Int):Int:=if fZ ps<0 then 1 else if wF r (fZ ps).toNat=true then 2 else 0
def IM(a:Ad):Sp:=λvs H Q _=>∃(A:RA)(r:R0)(x dx p:Addr)(ps:List Int)(t:Int),vs=[.ref A.x,.ref x]/\oN a H A r/\v7 a H x dx p ps t/\∀H',aE H H'->Q (.int (fY r ps)) H'
def oG:aB ["rules","position","king"] ["rules","position"] (ao (top 31)):=aR
def oM(T:Tx K mg a):a4 P w K mg base (cX P w) 3 a.eI a.pC ["rules","position"] (IM a):=by
 refine T.eI.F.lL oG λcdv A outer s H vs Q E hr h=>?_;obtain⟨A',r,x,dx,p,ps,t,rfl,R,Pp,k⟩:=h;refine⟨_,(ae (eV 2 oG.nd (dn T.iw (sj T) hr aK (aa (ay (pv 1) rfl) ah))) (ae (bG (aI uD (pv 2) az (aJ _)) (aj (aF az)) aW) (aj (aF (yy (dC (dn T.i9 (yY T) hr aK (aa (pv 0) (aa (pv 2) ah)))) az az))))),?_⟩;unfold fY at k;have kl:=DB Pp.ok;refine⟨_,rfl,x,_,_,_,_,rfl,Pp.ins,T.bR.cl,T.bV,rfl,p,ps,rfl,a0.of Pp.pc,?_⟩;generalize fZ ps=kc at*;refine⟨_,rfl,_,_,rfl,rfl,_,rfl,gD (λh1=>?_) λh1=>?_⟩
 ·rw[OW (O7 h1)]at k
  exact k H (aE.refl _)
 ·have h1:¬kc<0:=λz=>h1 (O0 z)
  rw[OV h1]at k;rcases kl with kl|⟨c,rfl,c1⟩
  ·omega
  refine⟨_,rfl,_,rfl,A',r,c,rfl,R,c1,λH1 s1=>⟨_,rfl,fQ (λh2=>?_) λh2=>?_⟩⟩
  ·replace k:∀H',aE H H'->Q (.int (if wF r c=true then 2 else 0)) H':=k
   rw[OW h2]at k;exact k H1 s1
  ·replace k:∀H',aE H H'->Q (.int (if wF r c=true then 2 else 0)) H':=k
   rw[OV (by rw[h2];exact O3)]at k;exact k H1 s1
def overOf(r:R0)(ps:List Int)(t:Int):Int:=if fY r ps=0/\BI r ps t=false then 3 else fY r ps
def MQ(a:Ad):Sp:=λvs H Q _=>∃(A:RA)(r:R0)(x dx p:Addr)(ps:List Int)(t:Int),vs=[.ref A.x,.ref x]/\oN a H A r/\v7 a H x dx p ps t/\∀H',aE H H'->Q (.int (overOf r ps t)) H'
def vi:aB ["rules","position","over"] ["rules","position"] (ao (top 32)):=aR
def vn(T:Tx K mg a):a4 P w K mg base (cX P w) 4 a.jt a.wN ["rules","position"] (MQ a):=by
 refine T.jt.F.lL vi λcdv A outer s H vs Q E hr h=>?_;obtain⟨A',r,x,dx,p,ps,t,rfl,R,Pp,k⟩:=h;refine⟨_,(ae (eV 2 vi.nd (dn T.eI (oM T) hr aK (aa (pv 0) (aa (pv 1) ah)))) (ae (bG (PW.pt (gR (aI bQ (pv 2) az (aJ _)) (fe (lH (dC (dn T.lB (BV T) hr aK (aa (pv 0) (aa (ay (pv 1) rfl) (aa (ay (pv 1) rfl) ah))))))))) (aj (aF az)) aW) (aj (aF (pv 2))))),?_⟩;unfold overOf at k;refine⟨_,rfl,_,rfl,A',r,x,dx,p,ps,t,rfl,R,Pp,λH1 s1=>?_⟩;refine⟨_,rfl,rfl,_,rfl,dH (λh1=>?_) λh1=>?_⟩
 ·have P1:=Pp.same s1
  refine⟨_,rfl,_,rfl,x,_,_,_,_,rfl,P1.ins,T.bR.cl,T.bV,rfl,_,rfl,x,_,_,_,_,rfl,P1.ins,T.bR.cl,T.fg,rfl,A',r,p,ps,t,rfl,R.same s1,P1.pc,Pp.ok,λH2 s2=>⟨_,rfl,fQ (λh2=>?_) λh2=>?_⟩⟩
  ·have h2:BI r ps t=false:=by simpa using h2
   rw[OW ⟨h1,h2⟩]at k;exact k H2 (s1.trans s2)
  ·have h2:BI r ps t=true:=by simpa using h2
   rw[OV (λz=>by rw[z.2]at h2;cases h2)]at k;exact⟨_,rfl,k H2 (s1.trans s2)⟩
 ·rw[OV (λz=>h1 z.1)]at k
  exact⟨_,rfl,k H1 s1⟩
def zY{n c:Nat}(h:c<n):HF n (c:Nat)=some c:=by
 unfold HF;rw[OW (by omega),OW (by omega)];rfl
def k_{l:List Int}{i c:Nat}{v:Int}:(l.set i v).getD c 0=if i=c/\i<l.length then v else l.getD c 0:=by
 simp only[List.getD,List.getElem?_set]
 by_cases h:i=c
 ·by_cases h2:i<l.length
  ·rw[OW h,OW h2,OW ⟨h,h2⟩]
   rfl
  ·rw[OW h,OV h2,OV (λz=>h2 z.2)]
   rw[Rt (by omega)]
 ·rw[OV h,OV (λz=>h z.1)]
def rZ.set{ps:List Int}(W:rZ ps)(c:Nat){v:Int}(h0:0<=v)(h3:v<=3):rZ (ps.set c v):=⟨by rw[QN];exact W.len,λd=>by
 rw[k_];split
 ·exact⟨h0,h3⟩
 ·exact W.val d⟩
def FS(ps:List Int)(c:Nat)(v:Int):(ps.map V.int).set c (.int v)=(ps.set c v).map V.int:=(List.map_set).symm
def Ex.new{x q:Addr}{H H':Hp}{o:HO}(h:Ex x H H')(n:H q=none):Ex x H (upd H' q o):=λb u e nb=>by
 rw[ak (au e n)];exact h b u e nb
def Ex.self{x:Addr}{H H':Hp}{o:HO}(h:Ex x H H'):Ex x H (upd H' x o):=λb u e nb=>by
 rw[ak nb];exact h b u e nb
def Ex.same{x:Addr}{H H' H2:Hp}(h:Ex x H H')(s:aE H' H2):Ex x H H2:=λb u e nb=>s _ _ (h b u e nb)
def Ex.free{x q:Addr}{H H':Hp}(h:Ex x H H')(n:H' q=none)(nx:q≠x):H q=none:=by
 cases e:H q with
 |none=>rfl
 |some o=>rw[h q o e nx]at n;cases n
def bb(ps:List Int)(s t:Nat):List Int:=(ps.set t (ps.getD s 0)).set s 0
def mU(ps:List Int)(l:List Int):List Int:=l.foldl (λ(q:List Int)(c:Int)=>q.set c.toNat 0) ps
def bA(r:R0)(ps:List Int)(s t:Nat):List Int:=mU (bb ps s t) (bW r (bb ps s t) t)
def rZ.moved{ps:List Int}(W:rZ ps)(s t:Nat):rZ (bb ps s t):=(W.set t (W.val s).1 (W.val s).2).set s (by decide) (by decide)
def rZ.clear:∀(l:List Int){ps:List Int}(W:rZ ps),rZ (mU ps l)
 |[],_,W=>W
 |c::l,_,W=>rZ.clear l (W.set c.toNat (by decide) (by decide))
def rZ.after{ps:List Int}(W:rZ ps)(r:R0)(s t:Nat):rZ (bA r ps s t):=(W.moved s t).clear _
def Cw(ps l:List Int)(c:Int):mU ps (l++[c])=(mU ps l).set c.toNat 0:=by
 unfold mU;rw[List.foldl_append];rfl
def jM{r:R0}{ps:List Int}{t:Nat}{v:Int}(W:zB r)(t1:t<169)(h:v∈bW r ps t):∃c:Nat,v=(c:Nat)/\c<169:=by
 unfold bW at h;split at h
 ·cases h
 ·obtain⟨d,hd,hv⟩:=Qn.mp (At.mp h)
  unfold jx at hv;split at hv
  ·rename_i hc
   rw[Pj]at hv;subst hv;rcases uj (c:=t) (Pl.mp hd) t1 W.w W.h with e|⟨n,e,n1⟩
   ·rw[e]at hc
    exact absurd hc.1 (by decide)
   ·exact⟨n,e,n1⟩
  ·cases hv
def im(r:R0)(ps:List Int)(t:Nat):(bW r ps t).length<=4:=by
 unfold bW;split
 ·simp
 ·rw[sI]
  exact je (jx r ps t) 1 (yu r ps t) 4
def LK(s t:Nat)(tk af:Addr)(ov:Int):List (Str×V):=[("start",.int (s:Nat)),("target",.int (t:Nat)),("taken",.ref tk),("after",.ref af),("over",.int ov)]
def A7(a:Ad)(H0 H:Hp)(r:R0)(ps:List Int)(tn:Int)(s t:Nat)(x:Addr):Prop:=∃dx tk af ad ap,H0 tk=none/\H0 ap=none/\H x=some (.ins a.br dx (LK s t tk af (overOf r (bA r ps s t) (1-tn))))/\H tk=some (.lst ((bW r (bb ps s t) t).map V.int))/\v7 a H af ad ap (bA r ps s t) (1-tn)
def A7.same{H0 H H':Hp}{r:R0}{ps:List Int}{tn:Int}{s t:Nat}{x:Addr}(h:A7 a H0 H r ps tn s t x)(S:aE H H'):A7 a H0 H' r ps tn s t x:=by
 obtain⟨dx,tk,af,ad,ap,n1,n2,h1,h2,h3⟩:=h;exact⟨dx,tk,af,ad,ap,n1,n2,S _ _ h1,S _ _ h2,h3.same S⟩
def A7.weak{H0 H0' H:Hp}{r:R0}{ps:List Int}{tn:Int}{s t:Nat}{x:Addr}(h:A7 a H0 H r ps tn s t x)(S:∀b,H0 b=none->H0' b=none):A7 a H0' H r ps tn s t x:=by
 obtain⟨dx,tk,af,ad,ap,n1,n2,h1⟩:=h;exact⟨dx,tk,af,ad,ap,S _ n1,S _ n2,h1⟩
def A7.put{H0 H:Hp}{r:R0}{ps:List Int}{tn:Int}{s t:Nat}{x D:Addr}{xs ys:List V}(h:A7 a H0 H r ps tn s t x)(hD:H D=some (.lst xs))(h0:H0 D≠none):A7 a H0 (upd H D (.lst ys)) r ps tn s t x:=by
 obtain⟨dx,tk,af,ad,ap,n1,n2,h1,h2,h3⟩:=h;have d1:tk≠D:=λz=>h0 (by rw[<-z];exact n1);have d2:ap≠D:=λz=>h0 (by rw[<-z];exact n2);exact⟨dx,tk,af,ad,ap,n1,n2,by rw[ak (bf h1 hD λz=>nomatch z)];exact h1,by rw[ak d1];exact h2,⟨by rw[ak (bf h3.ins hD λz=>nomatch z)];exact h3.ins,by rw[ak d2];exact h3.pc,h3.ok,h3.tn⟩⟩
def oN.ex{H H':Hp}{A:RA}{r:R0}{x C dx:Addr}{fs:List (Str×V)}(R:oN a H A r)(hx:H x=some (.ins C dx fs))(hf:fs.length≠15/\fs.length≠2)(s:Ex x H H'):oN a H' A r:=by
 have nl:∀{b:Addr}{l:List V},H b=some (.lst l)->H' b=some (.lst l):=λ{b l} h=>s _ _ h (bf h hx λz=>nomatch z);exact⟨s _ _ R.ins (bf R.ins hx λz=>hf.1 (by have:=P_ nF z;exact this.symm)),nl R.cs,nl R.wz,R.wl,λd y e=>nl (R.wy d y e),nl R.gr,s _ _ R.st (bf R.st hx λz=>hf.2 (by have:=P_ nF z;exact this.symm)),nl R.sp,R.ok⟩
def v7.ex{H H':Hp}{y dy p:Addr}{ps:List Int}{t:Int}{x C dx:Addr}{fs:List (Str×V)}(R:v7 a H y dy p ps t)(hx:H x=some (.ins C dx fs))(hf:fs.length≠2)(s:Ex x H H'):v7 a H' y dy p ps t:=
 ⟨s _ _ R.ins (bf R.ins hx λz=>hf (by have:=P_ nF z;exact this.symm)),s _ _ R.pc (bf R.pc hx λz=>nomatch z),R.ok,R.tn⟩
def iV.ex{H H':Hp}{b:Addr}{l:List V}{x C dx:Addr}{fs:List (Str×V)}(h:iV K H b l)(hx:H x=some (.ins C dx fs))(s:Ex x H H'):iV K H' b l:=by
 rcases h with(h|⟨o,h⟩)|h
 ·exact .inl (.inl (s _ _ h (bf h hx λz=>nomatch z)))
 ·exact .inl (.inr ⟨o,s _ _ h (bf h hx λz=>nomatch z)⟩)
 ·exact .inr h
def FP(K:OX)(a:Ad):Sp:=λvs H Q _=>∃(x dx:Addr)(A:RA)(r:R0)(y dy p:Addr)(ps:List Int)(tn:Int)(sa:Addr)(s t:Nat),vs=[.ref x,.ref A.x,.ref y,.ref sa]/\H x=some (.ins a.br dx [])/\oN a H A r/\v7 a H y dy p ps tn/\iV K H sa [.int (s:Nat),.int (t:Nat)]/\s<169/\t<169/\
 ∀H',Ex x H H'->A7 a H H' r ps tn s t x->Q .eC H'
def nW:aB ["self","rules","position","step","pieces","cell"] ["self","rules","position","step"] (ao (inClass (top 19) 0)):=aR
def oo(T:Tx K mg a):a4 P w K mg base (cX P w) 5 a.eN a.uP ["self","rules","position","step"] (FP K a):=by
 refine T.eN.F.lL nW λcdv A outer s H vs Q E hr h=>?_;obtain⟨x,dx,A',r,y,dy,p,ps,tn,sa,st,tg,rfl,hx,R,Pp,hs,s1,t1,k⟩:=h;refine⟨_,(ae (a5 (pv 0) (bj jo (pv 3) az (λ_ _=>rfl)) rfl) (ae (a5 (pv 0) (bj jo (pv 3) az (λ_ _=>rfl)) rfl) (ae (eV 4 nW.nd (mW sB rfl T.G7 (by decide+kernel) (aa (ay (pv 2) rfl) ah))) (ae (yh (bj a_ (pv 4) (ay (pv 0) rfl) (λ_ _=>rfl)) (xz (pv 4) (ay (pv 0) rfl) set_list (λ_=>rfl))) (ae (yh (mT T.i7) (xz (pv 4) (ay (pv 0) rfl) set_list (λ_=>rfl))) (ae (a5 (pv 0) (dn T.kT (BX T) hr aK (aa (pv 1) (aa (pv 4) (aa (ay (pv 0) rfl) ah)))) rfl) (ae (dL Ql rfl (cP (ay (pv 0) rfl)) (kR 5 nW.nd) (aj (yh (mT T.i7) (xz (pv 4) (pv 5) set_list (λ_=>rfl))))) (ae (a5 (pv 0) (FB T.rS (jp T) hr T.bR T.b6 aK (aa (pv 4) (aa (bz nZ az (ay (pv 2) rfl)) ah))) rfl) (aj (a5 (pv 0) (dn T.jt (vn T) hr aK (aa (pv 1) (aa (ay (pv 0) rfl) ah))) rfl)))))))))),?_⟩;have e0:Ex x H (upd H x (.ins a.br dx [("start",.int (st:Nat))])):=Ex.refl.self;refine⟨_,rfl,sa,_,_,_,rfl,rfl,hs,at_of (j:=0) rfl rfl,_,rfl,x,_,dx,_,rfl,hx,T.bZ.cl,T.iG,(by show 0<1000;decide),?_⟩;refine⟨_,rfl,sa,_,_,_,rfl,rfl,iV.ex hs hx e0,at_of (j:=1) rfl rfl,_,rfl,x,_,dx,_,rfl,ai,T.bZ.cl,T.g8,(by show 1<1000;decide),?_⟩;have e1:Ex x H (upd (upd H x (.ins a.br dx [("start",.int (st:Nat))])) x (.ins a.br dx [("start",.int (st:Nat)),("target",.int (tg:Nat))])):=e0.self;have x1:(upd (upd H x (.ins a.br dx [("start",.int (st:Nat))])) x (.ins a.br dx [("start",.int (st:Nat)),("target",.int (tg:Nat))])) x=some (.ins a.br dx [("start",.int (st:Nat)),("target",.int (tg:Nat))]):=ai;have P1:=Pp.ex hx (by decide) e1;refine⟨_,rfl,y,_,_,_,_,rfl,P1.ins,T.bR.cl,T.bV,rfl,p,_,rfl,.inl (a0.of P1.pc),λq hq=>?_⟩;have qx:x≠q:=au x1 hq;have hq0:H q=none:=e1.free hq (Pb qx);have at1:=cR (l:=ps) (c:=st) (by rw[Pp.ok.len];exact s1);refine⟨_,rfl,_,rfl,x,_,_,_,_,rfl,(by rw[ak qx];exact x1),T.bZ.cl,T.iG,rfl,q,_,_,_,rfl,rfl,a0.of ai,at_of (j:=st) rfl at1,_,rfl,_,rfl,x,_,_,_,_,rfl,(by rw[ak qx];exact x1),T.bZ.cl,T.g8,rfl,q,_,_,tg,rfl,rfl,ai,zY (by rw[OU,Pp.ok.len];exact t1),?_⟩;refine⟨_,rfl,_,rfl,x,_,_,_,_,rfl,(by rw[ak qx,ak qx];exact x1),T.bZ.cl,T.iG,rfl,q,_,_,st,rfl,rfl,ai,zY (by rw[QN,OU,Pp.ok.len];exact s1),?_⟩;rw[FS,FS,eQ,eQ];have e2:Ex x H (upd (upd (upd H x (.ins a.br dx [("start",.int (st:Nat))])) x (.ins a.br dx [("start",.int (st:Nat)),("target",.int (tg:Nat))])) q (.lst ((bb ps st tg).map V.int))):=e1.new hq0;have q2:(upd (upd (upd H x (.ins a.br dx [("start",.int (st:Nat))])) x (.ins a.br dx [("start",.int (st:Nat)),("target",.int (tg:Nat))])) q (.lst ((bb ps st tg).map V.int))) q=some (.lst ((bb ps st tg).map V.int)):=ai;have x2:(upd (upd (upd H x (.ins a.br dx [("start",.int (st:Nat))])) x (.ins a.br dx [("start",.int (st:Nat)),("target",.int (tg:Nat))])) q (.lst ((bb ps st tg).map V.int))) x=some (.ins a.br dx [("start",.int (st:Nat)),("target",.int (tg:Nat))]):=by rw[ak qx];exact x1
 refine⟨_,rfl,_,rfl,_,rfl,x,_,_,_,_,rfl,x2,T.bZ.cl,T.g8,rfl,A',r,q,_,tg,rfl,R.ex hx (by decide) e2,q2,Pp.ok.moved st tg,t1,λH3 tk s3 ntk h3=>?_⟩;have e3:=e2.same s3;have x3:=s3 _ _ x2;have q3:=s3 _ _ q2;clear e2 x2 q2 e1 x1 e0 P1;refine⟨_,rfl,x,_,dx,_,rfl,x3,T.bZ.cl,T.gC,(by show 2<1000;decide),?_⟩;have xk:tk≠x:=bf h3 x3 λz=>nomatch z;have qk:q≠tk:=au (H:=upd (upd (upd H x (.ins a.br dx [("start",.int (st:Nat))])) x (.ins a.br dx [("start",.int (st:Nat)),("target",.int (tg:Nat))])) q (.lst ((bb ps st tg).map V.int))) ai ntk;have tk0:H tk=none:=by
  refine(Ex.refl.self.self (x:=x) (H:=H)).free (H':=upd (upd H x (.ins a.br dx [("start",.int (st:Nat))])) x (.ins a.br dx [("start",.int (st:Nat)),("target",.int (tg:Nat))])) ?_ xk;rw[ak (Pb qk)]at ntk;exact ntk
 generalize hf4:cj "taken" (.ref tk) _=f4;have ef4:f4=([("start",.int (st:Nat)),("target",.int (tg:Nat)),("taken",.ref tk)]:List (Str×V)):=by rw[<-hf4];rfl
 subst ef4;have e4:Ex x H (upd H3 x (.ins a.br dx [("start",.int (st:Nat)),("target",.int (tg:Nat)),("taken",.ref tk)])):=e3.self;have x4:(upd H3 x (.ins a.br dx [("start",.int (st:Nat)),("target",.int (tg:Nat)),("taken",.ref tk)])) x=some (.ins a.br dx [("start",.int (st:Nat)),("target",.int (tg:Nat)),("taken",.ref tk)]):=ai;have q4:(upd H3 x (.ins a.br dx [("start",.int (st:Nat)),("target",.int (tg:Nat)),("taken",.ref tk)])) q=some (.lst ((bb ps st tg).map V.int)):=by rw[ak (Pb qx)];exact q3
 have k4:(upd H3 x (.ins a.br dx [("start",.int (st:Nat)),("target",.int (tg:Nat)),("taken",.ref tk)])) tk=some (.lst ((bW r (bb ps st tg) tg).map V.int)):=by rw[ak xk];exact h3
 generalize upd H3 x (.ins a.br dx [("start",.int (st:Nat)),("target",.int (tg:Nat)),("taken",.ref tk)])=H4 at*;refine⟨_,rfl,x,_,_,_,_,rfl,x4,T.bZ.cl,T.gC,rfl,tk,rfl,⟨_,a0.of k4⟩,?_⟩;refine gm (xs:=(bW r (bb ps st tg) tg).map V.int) (λi σ H'=>∃u,σ=[some (.ref x),some (.ref A'.x),some (.ref y),some (.ref sa),some (.ref q),u]/\Ex x H H'/\H' x=some (.ins a.br dx [("start",.int (st:Nat)),("target",.int (tg:Nat)),("taken",.ref tk)])/\H' tk=some (.lst ((bW r (bb ps st tg) tg).map V.int))/\H' q=some (.lst ((mU (bb ps st tg) ((bW r (bb ps st tg) tg).take i)).map V.int))) ⟨_,rfl,e4,x4,k4,q4⟩ (λi σ H1 _⟨u,e,e5,x5,k5,q5⟩=>a0.of k5) (λi v σ H1 hv⟨u,e,e5,x5,k5,q5⟩=>?_) λσ H1⟨u,e,e5,x5,k5,q5⟩=>?_
 ·subst e
  obtain⟨cv,hc,rfl⟩:=int_at hv;obtain⟨c,rfl,c1⟩:=jM R.ok t1 (Pw hc);have W5:rZ (mU (bb ps st tg) ((bW r (bb ps st tg) tg).take i)):=(Pp.ok.moved st tg).clear _;refine⟨_,rfl,_,rfl,q,_,_,c,rfl,rfl,q5,zY (by rw[OU,W5.len];exact c1),_,rfl,e5.new hq0,(by rw[ak qx];exact x5),(by rw[ak (Pb qk)];exact k5),?_⟩;rw[ai,FS,Qs,hc];show _=some (HO.lst ((mU (bb ps st tg) (_++[((c:Nat):Int)])).map V.int));rw[Cw];rfl
 ·subst e
  rw[OU,PB (OZ _)]at q5;have P5:=Pp.ex hx (by decide) e5;refine⟨_,rfl,_,rfl,y,_,_,_,_,rfl,P5.ins,T.bR.cl,T.fg,rfl,_,_,rfl,rfl,λz dz nz nd nne=>⟨z,dz,q,_,rfl,ai,rfl,?_⟩⟩;have zx:x≠z:=au x5 nz;have dzx:x≠dz:=au x5 nd;have z0:H z=none:=e5.free nz (Pb zx);have dz0:H dz=none:=e5.free nd (Pb dzx);have qz:q≠z:=au q5 nz;have qdz:q≠dz:=au q5 nd;have kz:tk≠z:=au k5 nz;have kdz:tk≠dz:=au k5 nd;generalize hH6:upd (upd (upd H1 dz (.own z)) z (.ins a.bM dz [])) z (.ins a.bM dz (A4 q (1-tn)))=H6;have e6:Ex x H H6:=by rw[<-hH6];exact((e5.new dz0).new z0).new z0
  have x6:H6 x=some (.ins a.br dx [("start",.int (st:Nat)),("target",.int (tg:Nat)),("taken",.ref tk)]):=by rw[<-hH6,ak zx,ak zx,ak dzx];exact x5
  have k6:H6 tk=some (.lst ((bW r (bb ps st tg) tg).map V.int)):=by rw[<-hH6,ak kz,ak kz,ak kdz];exact k5
  have P6:v7 a H6 z dz q (bA r ps st tg) (1-tn):=⟨by rw[<-hH6,ai],by rw[<-hH6,ak qz,ak qz,ak qdz];exact q5,Pp.ok.after r st tg,by rcases Pp.tn with h|h<;>omega⟩;refine⟨_,rfl,x,_,dx,_,rfl,x6,T.bZ.cl,T.kC,(by show 3<1000;decide),?_⟩;generalize hf7:cj "after" (.ref z) _=f7;have ef7:f7=([("start",.int (st:Nat)),("target",.int (tg:Nat)),("taken",.ref tk),("after",.ref z)]:List (Str×V)):=by rw[<-hf7];rfl
  subst ef7;have e7:Ex x H (upd H6 x (.ins a.br dx [("start",.int (st:Nat)),("target",.int (tg:Nat)),("taken",.ref tk),("after",.ref z)])):=e6.self;have x7:(upd H6 x (.ins a.br dx [("start",.int (st:Nat)),("target",.int (tg:Nat)),("taken",.ref tk),("after",.ref z)])) x=some (.ins a.br dx [("start",.int (st:Nat)),("target",.int (tg:Nat)),("taken",.ref tk),("after",.ref z)]):=ai;have k7:(upd H6 x (.ins a.br dx [("start",.int (st:Nat)),("target",.int (tg:Nat)),("taken",.ref tk),("after",.ref z)])) tk=some (.lst ((bW r (bb ps st tg) tg).map V.int)):=by rw[ak xk];exact k6
  have P7:v7 a (upd H6 x (.ins a.br dx [("start",.int (st:Nat)),("target",.int (tg:Nat)),("taken",.ref tk),("after",.ref z)])) z dz q (bA r ps st tg) (1-tn):=⟨by rw[ak (Pb zx)];exact P6.ins,by rw[ak (Pb qx)];exact P6.pc,P6.ok,P6.tn⟩;generalize upd H6 x (.ins a.br dx [("start",.int (st:Nat)),("target",.int (tg:Nat)),("taken",.ref tk),("after",.ref z)])=H7 at*;refine⟨_,rfl,_,rfl,x,_,_,_,_,rfl,x7,T.bZ.cl,T.kC,rfl,A',r,z,dz,q,_,_,rfl,R.ex hx (by decide) e7,P7,λH8 s8=>?_⟩;refine⟨_,rfl,x,_,dx,_,rfl,s8 _ _ x7,T.bZ.cl,T.f9,(by show 4<1000;decide),?_⟩;refine k _ (e7.same s8).self ⟨dx,tk,z,dz,q,tk0,hq0,?_,?_,?_⟩
  ·rw[ai]
   rfl
  ·rw[ak xk]
   exact s8 _ _ k7
  ·have P8:=P7.same s8
   exact⟨by rw[ak (Pb zx)];exact P8.ins,by rw[ak (Pb qx)];exact P8.pc,P8.ok,P8.tn⟩
def w6{J:It}{n:Nat}{g:TG}{tt:TT}{te:TE}{vs:List Nat}{σ:L2.St}{H1:Hp}{D:Addr}{Qd:Hp->Prop}(Iv:Nat->Hp->Prop)(h0:Iv 0 (upd H1 D (.lst [])))
  (go:∀i H,i<n->Iv i H->J.go i H)(stop:∀H,Iv n H->J.stop n H)
  (hs:∀i H,i<n->Iv i H->∀x H',J.FA i H x H'->g x (wipe σ vs) H' λσ2 H2=>wipe σ2 vs=wipe σ vs/\tt σ2 H2 λb H3=>
   if b=true then te σ2 H3 λy H4=>∃acc,H4 D=some (.lst acc)/\acc.length<sizeLine/\Iv (i+1) (upd H4 D (.lst (acc++[y])))else Iv (i+1) H3)
  (hd:∀H,Iv n H->Qd H):
  ∃W:Nat->Nat->Hp->Prop,(∃m,W 0 m (upd H1 D (.lst [])))/\∀i m H,W i m H->
   (J.stop i H/\Qd H)\/(J.go i H/\∃Nx:Hp->Prop,(∀H',Nx H'->∃m',m'<m/\W (i+1) m' H')/\∀x H',J.FA i H x H'->g x (wipe σ vs) H' λσ2 H2=>wipe σ2 vs=wipe σ vs/\tt σ2 H2 λb H3=>
    if b=true then te σ2 H3 λy H4=>∃acc,H4 D=some (.lst acc)/\acc.length<sizeLine/\Nx (upd H4 D (.lst (acc++[y])))else Nx H3):=by
 refine⟨λi m H=>m=n-i/\i<=n/\Iv i H,⟨n,by simp,P4 _,h0⟩,?_⟩
 rintro i m H ⟨rfl,hi,s⟩
 rcases Q2 i n with hlt|hge
 ·exact .inr ⟨go i H hlt s,Iv (i+1),λH' p'=>⟨n-(i+1),by omega,rfl,hlt,p'⟩,λx H' y=>hs i H hlt s x H' y⟩
 ·have ei:i=n:=by omega
  subst ei;exact .inl ⟨stop H s,hd H s⟩
def x9{r:R0}{ps:List Int}{d:Nat}{piece:Int}(W:zB r)(hd:d<4):∀(f:Nat)(cell v:Int),(cell= -1\/∃c:Nat,cell=(c:Nat)/\c<169)->v∈bN r ps d piece f cell->∃c:Nat,v=(c:Nat)/\c<169
 |0,_,_,_,h=>by cases h
 |f+1,cell,v,hc,h=>by
  unfold bN at h;split at h
  ·cases h
  ·rename_i hn
   rcases hc with rfl|⟨c,rfl,c1⟩
   ·exact absurd (.inl (by decide)) hn
   rcases Pk.mp h with h|h
   ·split at h
    ·rw[Pj]at h
     exact⟨c,h,c1⟩
    ·cases h
   ·split at h
    ·cases h
    ·exact x9 W hd f _ v (uj (c:=c) hd c1 W.w W.h) h
def uF{r:R0}{ps:List Int}{s:Nat}{v:Int}(W:zB r)(s1:s<169)(h:v∈du r ps s):∃c:Nat,v=(c:Nat)/\c<169:=by
 obtain⟨d,hd,hv⟩:=Qn.mp (At.mp h);have hd:=Pl.mp hd;exact x9 W hd _ _ v (uj (c:=s) hd s1 W.w W.h) hv
def o7(r:R0)(ps:List Int)(s:Nat):(du r ps s).length<=52:=by
 unfold du;rw[sI];exact je (λ(d:Nat)=>bn r ps s d) 13 (λd=>mq r ps s d) 4
def cU(r:R0)(ps:List Int)(c:Int):List (Nat×Nat):=(du r ps c.toNat).map λ(t:Int)=>(c.toNat,t.toNat)
def aQ(r:R0)(ps:List Int)(t:Int):List (Nat×Nat):=if 0<fY r ps then[]else(cellsOf r ps t).flatMap (cU r ps)
def qW(r:R0)(ps:List Int)(c:Int):(cU r ps c).length<=52:=by
 unfold cU;rw[OU];exact o7 _ _ _
def m8{α β:Type}(f:α->List β)(b:Nat)(h:∀x,(f x).length<=b):∀l:List α,(l.flatMap f).length<=l.length*b
 |[]=>by simp
 |x::l=>by
  rw[Qe,Pd,Pt,Nat.succ_mul];have:=m8 f b h l;have:=h x;omega
def qd(r:R0)(ps:List Int)(t:Int)(W:zB r):(cellsOf r ps t).length<=169:=PD (Rv _ _) (Ao _ _ W.w W.h)
def rK(r:R0)(ps:List Int)(t:Int)(W:zB r):(aQ r ps t).length<=8788:=by
 unfold aQ;split
 ·simp
 ·have h1:=m8 (cU r ps) 52 (qW r ps) (cellsOf r ps t)
  have h2:=qd r ps t W;have h3:(cellsOf r ps t).length*52<=169*52:=QD 52 h2;omega
def kF{r:R0}{ps:List Int}{t:Int}{e:Nat×Nat}(W:zB r)(h:e∈aQ r ps t):e.1<169/\e.2<169:=by
 unfold aQ at h;split at h
 ·cases h
 ·obtain⟨c,hc,he⟩:=Qn.mp h
  obtain⟨v,hv,rfl⟩:=Pg.mp he;obtain⟨n,rfl,n1,_⟩:=jL W hc;obtain⟨m,rfl,m1⟩:=uF W n1 hv;exact⟨n1,m1⟩
def ER{α β:Type}(f:α->List β){l:List α}{i:Nat}{x:α}(h:l[i]? =some x):(l.take (i+1)).flatMap f=(l.take i).flatMap f++f x:=by
 rw[Qs,h,List.flatMap_append];simp
structure HM(H0 H:Hp)(q:Addr)(L:List (Addr×Nat×Nat)):Prop where
 l:H q=some (.lst (L.map λ(e:Addr×Nat×Nat)=>V.ref e.1))
 t:∀e∈L,H e.1=some (.tup [.int (e.2.1:Nat),.int (e.2.2:Nat)])/\H0 e.1=none
def Je(a:Ad):Sp:=λvs H Q _=>∃(A:RA)(r:R0)(x dx p:Addr)(ps:List Int)(t:Int),vs=[.ref A.x,.ref x]/\oN a H A r/\v7 a H x dx p ps t/\
 ∀H' q L,aE H H'->H q=none->HM H H' q L->L.map (·.2)=aQ r ps t->Q (.ref q) H'
def jJ:aB ["rules","position","steps","start","target"] ["rules","position"] (ao (top 33)):=aR
def pL(T:Tx K mg a):a4 P w K mg base (cX P w) 4 a.ii a.x_ ["rules","position"] (Je a):=by
 refine T.ii.F.lL jJ λcdv A outer s H vs Q E hr h=>?_;obtain⟨A',r,x,dx,p,ps,t,rfl,R,Pp,k⟩:=h;refine⟨_,(ae (eV 2 jJ.nd (cf ah)) (ae (bG (aI oJ (dn T.eI (oM T) hr aK (aa (pv 0) (aa (pv 1) ah))) az (aJ _)) (aj (aF (pv 2))) aW) (ae (dL Ql rfl (cP (dn T.jj (uQ T) hr aK (aa (pv 0) (aa (ay (pv 1) rfl) (aa (ay (pv 1) rfl) ah))))) (kR 3 jJ.nd) (aj (aZ (jg PQ QJ QK kJ (pv 2) (aa (lS (own:=[("target",4)]) rfl jJ.nd (cP (dn T.gi (vD T) hr aK (aa (pv 0) (aa (ay (pv 1) rfl) (aa (pv 3) ah))))) (cq rfl) (λ_ _ _ _ _=>(kR 4 jJ.nd)) (λ_ _ _ _ _=>d8) (λ_ _ _ _ _=>(nS (aa (pv 3) (aa (pv 4) ah))))) ah))))) (aj (aF (pv 2)))))),?_⟩;refine⟨P4 _,λq hq=>?_⟩;have S0:aE H (upd H q (.lst [])):=aC hq;refine⟨_,rfl,_,rfl,A',r,x,dx,p,ps,t,rfl,R.same S0,Pp.same S0,λH1 s1=>⟨_,_,rfl,rfl,_,rfl,gD (λg1=>?_) λg1=>?_⟩⟩
 ·have g1:=O7 g1
  refine⟨_,rfl,k H1 q [] (S0.trans s1) hq ⟨s1 _ _ (by rw[ai];rfl),λe he=>by cases he⟩ ?_⟩;unfold aQ;rw[OW g1];rfl
 ·have g1:¬0<fY r ps:=λz=>g1 (O0 z)
  have k:∀H' q L,aE H H'->H q=none->HM H H' q L->L.map (·.2)=(cellsOf r ps t).flatMap (cU r ps)->Q (.ref q) H':=by
   unfold aQ at k;rw[OV g1]at k;exact k
  have S1:=S0.trans s1;have P1:=Pp.same S1;have q1:H1 q=some (.lst []):=s1 _ _ ai;refine⟨_,rfl,_,rfl,x,_,_,_,_,rfl,P1.ins,T.bR.cl,T.bV,rfl,_,rfl,x,_,_,_,_,rfl,P1.ins,T.bR.cl,T.fg,rfl,A',r,p,ps,t,rfl,R.same S1,P1.pc,Pp.ok,λH2 l s2 hl h2=>⟨l,rfl,⟨_,a0.of h2⟩,?_⟩⟩;have ql:q≠l:=au q1 hl;have S2:=S1.trans s2;refine gm (xs:=(cellsOf r ps t).map V.int) (λi σ H'=>∃L u v,σ=[some (.ref A'.x),some (.ref x),some (.ref q),u,v]/\aE H H'/\HM H H' q L/\H' l=some (.lst ((cellsOf r ps t).map V.int))/\L.map (·.2)=((cellsOf r ps t).take i).flatMap (cU r ps)) ⟨[],_,_,rfl,S2,⟨s2 _ _ q1,λe he=>by cases he⟩,h2,by simp⟩ (λi σ H3 _⟨L,u,v,e,s3,h3,l3,e3⟩=>a0.of l3) (λi cv σ H3 hx⟨L,u,v,e,s3,h3,l3,e3⟩=>?_) λσ H3⟨L,u,v,e,s3,h3,l3,e3⟩=>?_
  ·subst e
   obtain⟨cv',hc,rfl⟩:=int_at hx;obtain⟨c,rfl,c1,_,_⟩:=jL R.ok (Pw hc);have P3:=Pp.same s3;have il:i<(cellsOf r ps t).length:=(O6.mp hc).1;have Ll:L.length<=8788:=by
    have:=P_ List.length e3;rw[OU]at this;have h5:=m8 (cU r ps) 52 (qW r ps) ((cellsOf r ps t).take i);have h6:((cellsOf r ps t).take i).length<=169:=by
     rw[PK];have:=qd r ps t R.ok;omega
    have h7:((cellsOf r ps t).take i).length*52<=169*52:=QD 52 h6;omega
   refine⟨_,rfl,.inl ⟨rfl,_,a0.of h3.l⟩,_,rfl,_,rfl,x,_,_,_,_,rfl,P3.ins,T.bR.cl,T.bV,rfl,_,rfl,A',r,p,ps,c,rfl,R.same s3,P3.pc,Pp.ok.len,c1,λH4 m s4 hm h4=>⟨m,rfl,⟨_,a0.of h4⟩,λD hD=>?_⟩⟩;have md:m≠D:=au h4 hD;refine w6 (J:=De K m) (n:=(du r ps c).length) (λj H'=>∃M:List (Addr×Nat×Nat),aE H4 H'/\HM H4 H' D M/\M.map (·.2)=((du r ps c).take j).map λ(t:Int)=>(c,t.toNat)) ⟨[],aC hD,⟨by rw[ai];rfl,λe he=>by cases he⟩,by simp⟩ (λj H' hj⟨M,sM,aM,eM⟩=>⟨_,V.int ((du r ps c)[j]'hj),a0.of (sM _ _ h4),by simp⟩) (λH'⟨M,sM,aM,eM⟩=>⟨_,a0.of (sM _ _ h4),by rw[OU];exact OZ _⟩) (λj H' hj⟨M,sM,aM,eM⟩ y H5 hy=>?_) λH'⟨M,sM,aM,eM⟩=>?_
   ·obtain⟨rfl,hy⟩:=hy
    obtain⟨tv,ht,rfl⟩:=int_at (hy _ (a0.of (sM _ _ h4)));obtain⟨t',rfl,t1⟩:=uF R.ok c1 (Pw ht);refine⟨rfl,_,rfl,_,rfl,(by rw[O2];show 2<=_;omega),λtt ntt=>?_⟩;have dt:D≠tt:=au aM.l ntt;have Ml:M.length<=52:=by
     have:=P_ List.length eM;rw[OU,OU,PK]at this;have:=o7 r ps c;omega
    refine⟨_,(by rw[ak dt];exact aM.l),(by rw[OU,O2];omega),M++[(tt,c,t')],?_,⟨?_,λe he=>?_⟩,?_⟩
    ·exact cY hD (sM.trans (aC ntt))
    ·rw[ai,Pn]
     rfl
    ·rcases Pk.mp he with z|z
     ·obtain⟨z1,z2⟩:=aM.t e z
      exact⟨by rw[ak (bf z1 aM.l λz=>nomatch z),ak (au z1 ntt)];exact z1,z2⟩
     ·rw[Pj]at z
      subst z;exact⟨by rw[ak (Pb dt),ai],sM.free ntt⟩
    ·rw[Pn,eM,pP _ ht]
     rfl
   ·have h5:=(s4.trans sM) _ _ h3.l
    have Ml:M.length<=52:=by
     have:=P_ List.length eM;rw[OU,OU,PK]at this;have:=o7 r ps c;omega
    have s34:=s3.trans s4;refine⟨q,D,_,_,rfl,rfl,h5,aM.l,(by rw[OU,OU,O2];omega),L++M,_,_,rfl,cY hq (s34.trans sM),⟨?_,λe he=>?_⟩,?_,?_⟩
    ·rw[ai,Pn]
    ·rcases Pk.mp he with z|z
     ·obtain⟨z1,z2⟩:=h3.t e z
      exact⟨by rw[ak (bf z1 h3.l λz=>nomatch z)];exact(s4.trans sM) _ _ z1,z2⟩
     ·obtain⟨z1,z2⟩:=aM.t e z
      refine⟨by rw[ak (bf z1 h5 λz=>nomatch z)];exact z1,s34.free z2⟩
    ·rw[ak (Pb ql)]
     exact(s4.trans sM) _ _ l3
    ·rw[Pn,e3,eM,ER _ hc,PB (OZ _)]
     rfl
  ·subst e
   rw[OU,PB (OZ _)]at e3;exact⟨_,rfl,k H3 q L s3 hq h3 e3⟩
structure LW(a:Ad)(H0 H:Hp)(r:R0)(ps:List Int)(tn:Int)(q:Addr)(Ms:List Addr)(ss:List (Nat×Nat)):Prop where
 l:H q=some (.lst (Ms.map V.ref))
 n:Ms.length=ss.length
 m:∀(i:Nat)(x:Addr)(e:Nat×Nat),Ms[i]? =some x->ss[i]? =some e->A7 a H0 H r ps tn e.1 e.2 x
def Ex.made{H H':Hp}{x dx C:Addr}(nx:H x=none)(nd:H dx=none)(e:Ex x (upd (upd H dx (.own x)) x (.ins C dx [])) H'):aE H H':=λb o q=>e b o (by rw[ak (au q nx),ak (au q nd)];exact q) (au q nx)
def IW(a:Ad):Sp:=λvs H Q _=>∃(A:RA)(r:R0)(x dx p:Addr)(ps:List Int)(t:Int),vs=[.ref A.x,.ref x]/\oN a H A r/\v7 a H x dx p ps t/\
 ∀H' q Ms,aE H H'->H q=none->LW a H H' r ps t q Ms (aQ r ps t)->Q (.ref q) H'
def cb{H:Hp}{x dx C:Addr}(nx:H x=none)(nd:H dx=none)(nne:dx≠x):aE H (upd (upd H dx (.own x)) x (.ins C dx [])):=(aC nd).trans (aC (by rw[ak (Pb nne)];exact nx))
def pX:aB ["rules","position","step"] ["rules","position"] (ao (top 34)):=aR
def uY(T:Tx K mg a):a4 P w K mg base (cX P w) 7 a.jw a.yt ["rules","position"] (IW a):=by
 refine T.jw.F.lL pX λcdv A outer s H vs Q E hr h=>?_;obtain⟨A',r,x,dx,p,ps,t,rfl,R,Pp,k⟩:=h;refine⟨_,(aj (aF (lS (own:=[("step",2)]) rfl pX.nd (cP (dn T.ii (pL T) hr aK (aa (pv 0) (aa (pv 1) ah)))) (cq rfl) (λ_ _ _ _ _=>(kR 2 pX.nd)) (λ_ _ _ _ _=>d8) (λ_ _ _ _ _=>(FB T.Cz (oo T) hr T.bZ T.eN aK (aa (pv 0) (aa (pv 1) (aa (pv 2) ah)))))))),?_⟩;refine⟨_,rfl,_,rfl,A',r,x,dx,p,ps,t,rfl,R,Pp,λH1 l L s1 hl h1 eL=>⟨l,rfl,⟨_,a0.of h1.l⟩,λD hD=>?_⟩⟩;have Ll:L.length=(aQ r ps t).length:=by rw[<-eL,OU]
 have bl:=rK r ps t R.ok;refine w6 (J:=De K l) (n:=L.length) (λj H'=>∃Ms:List Addr,aE H1 H'/\LW a (upd H1 D (.lst [])) H' r ps t D Ms ((aQ r ps t).take j)) ⟨[],aC hD,⟨by rw[ai];rfl,by simp,λi x e h=>by simp at h⟩⟩ (λj H' hj⟨Ms,sM,aM⟩=>⟨_,V.ref (L[j]'hj).1,a0.of (sM _ _ h1.l),by rw[Ph,OY hj];rfl⟩) (λH'⟨Ms,sM,aM⟩=>⟨_,a0.of (sM _ _ h1.l),by rw[OU];exact OZ _⟩) (λj H' hj⟨Ms,sM,aM⟩ y H5 hy=>?_) λH'⟨Ms,sM,aM⟩=>?_
 ·obtain⟨rfl,hy⟩:=hy
  have hy:=hy _ (a0.of (sM _ _ h1.l));rw[Ph,OY hj]at hy;cases hy;have he:L[j]? =some (L[j]'hj):=OY hj;have hm:=h1.t _ (Pw he);generalize hee:L[j]'hj=e at*;obtain⟨ea,es,et⟩:=e;have hst:(aQ r ps t)[j]? =some (es,et):=by rw[<-eL,Ph,he];rfl
  obtain⟨b1,b2⟩:=kF R.ok (Pw hst);have S5:=s1.trans sM;refine⟨rfl,_,rfl,_,rfl,_,rfl,λz dz nz nd nne=>⟨z,dz,A',r,x,dx,p,ps,t,ea,es,et,rfl,ai,(R.same S5).same (cb nz nd nne),(Pp.same S5).same (cb nz nd nne),iV.of ((cb nz nd nne) _ _ (sM _ _ hm.1)),b1,b2,λH6 e6 m6=>⟨rfl,?_⟩⟩⟩;have s6:aE H5 H6:=Ex.made nz nd e6;have Ml:Ms.length<=8788:=by
   rw[aM.n,PK];omega
  have D6:=s6 _ _ aM.l;have nD:(upd H1 D (.lst [])) D≠none:=by rw[ai];exactλz=>nomatch z
  have lj:((aQ r ps t).take j).length=j:=by rw[PK];omega
  refine⟨_,D6,(by rw[OU,O2];omega),Ms++[z],cY hD (sM.trans s6),?_,?_,λi y e' g1 g2=>?_⟩
  ·rw[ai,Pn]
   rfl
  ·rw[Pd,PK,aM.n,lj,P0]
   omega
  ·refine A7.put ?_ D6 nD
   rcases Q2 i Ms.length with hi|hi
   ·rw[Q_ hi]at g1
    refine((aM.m i y e' g1 ?_).same s6);rw[aM.n,lj]at hi;rw[List.getElem?_take,OW hi];rw[List.getElem?_take,OW (by omega)]at g2;exact g2
   ·rw[Q7 hi]at g1
    have i0:i-Ms.length=0:=by
     have:=(O6.mp g1).1;rw[P0]at this;omega
    rw[i0]at g1;cases g1;have ij:i=j:=by have:=aM.n;omega
    subst ij;rw[List.getElem?_take,OW (by omega),hst]at g2;cases g2;refine m6.weak λb hb=>?_;cases eb:(upd H1 D (.lst [])) b with
    |none=>rfl
    |some o=>
     exfalso
     by_cases hbD:b=D
     ·subst hbD
      have:=(cb (C:=a.br) nz nd nne) _ _ aM.l;rw[this]at hb;cases hb
     ·rw[ak hbD]at eb
      have:=(cb (C:=a.br) nz nd nne) _ _ (sM _ _ eb);rw[this]at hb;cases hb
 ·rw[Ll,PB (OZ _)]at aM
  refine k H' D Ms (s1.trans sM) (s1.free hD) ⟨aM.l,aM.n,λi y e' g1 g2=>(aM.m i y e' g1 g2).weak λb hb=>?_⟩;cases eb:H b with
  |none=>rfl
  |some o=>
   have:=s1 _ _ eb;rw[ak (λz=>by rw[z,hD]at this;cases this),this]at hb;cases hb
def d9(C:Addr)(H:Hp)(E:XK):Prop:=∀H' e,aE H H'->H' e=some (XO e C none true)->E (.ref C) (some e) H'
def E5(a:Ad):Sp:=λvs H Q E=>∃(A:RA)(r:R0)(x dx p:Addr)(ps:List Int)(tn i j:Int),vs=[.ref A.x,.ref x,.int i,.int j]/\oN a H A r/\v7 a H x dx p ps tn/\
 ((aQ r ps tn).any (λ(e:Nat×Nat)=>((e.1:Nat):Int)==i&&((e.2:Nat):Int)==j)=false->d9 a.gu H E)/\
 (∀s t:Nat,i=(s:Nat)->j=(t:Nat)->(s,t)∈aQ r ps tn->∀H' m,aE H H'->A7 a H H' r ps tn s t m->Q (.ref m) H')
def oz:aB ["rules","position","start","target","step"] ["rules","position","start","target"] (ao (top 35)):=aR
def vp(T:Tx K mg a):a4 P w K mg base (cX P w) 7 a.gc a.pJ ["rules","position","start","target"] (E5 a):=by
 refine T.gc.F.oQ oz λcdv A outer s H vs Q E hr h=>?_;obtain⟨A',r,x,dx,p,ps,tn,i,j,rfl,R,Pp,k1,k2⟩:=h;refine⟨_,(ae (eV 4 oz.nd (nS (aa (pv 2) (aa (pv 3) ah)))) (ae (bG (aI (Fk hr.units) (pv 4) (dn T.ii (pL T) hr aK (aa (pv 0) (aa (pv 1) ah))) rfl) (aj (qv aA hr.hd T.Av rfl T.eU.m)) aW) (aj (aF (FB T.Cz (oo T) hr T.bZ T.eN aK (aa (pv 0) (aa (pv 1) (aa (pv 4) ah)))))))),?_⟩;refine⟨_,rfl,_,rfl,(by rw[O2];show 2<=_;omega),λt ht=>?_⟩;have S0:aE H (upd H t (.tup [.int i,.int j])):=aC ht;have t0:(upd H t (.tup [.int i,.int j])) t=some (.tup [.int i,.int j]):=ai;refine⟨_,rfl,_,rfl,_,rfl,A',r,x,dx,p,ps,tn,rfl,R.same S0,Pp.same S0,λH1 l L s1 hl h1 eL=>?_⟩;refine⟨t,l,i,j,L.map λ(e:Addr×Nat×Nat)=>(e.1,((e.2.1:Nat):Int),((e.2.2:Nat):Int)),rfl,rfl,iV.of (s1 _ _ t0),?_,λe he=>?_,_,rfl,fQ (λg1=>?_) λg1=>?_⟩
 ·rw[Qa]
  exact a0.of h1.l
 ·obtain⟨e',he',rfl⟩:=Pg.mp he
  obtain⟨q1,q2⟩:=h1.t e' he';exact⟨iV.of q1,λz=>by rw[z,t0]at q2;cases q2⟩
 ·intro e ne
  refine k1 ?_ _ e ((S0.trans s1).trans (aC ne)) ai;rw[<-eL,QT];rw[QT]at g1;simpa using g1
 ·have g2:(aQ r ps tn).any (λ(e:Nat×Nat)=>((e.1:Nat):Int)==i&&((e.2:Nat):Int)==j)=true:=by
   rw[<-eL,QT];rw[QT]at g1;simpa using g1
  obtain⟨⟨es,et⟩,hm,he⟩:=Qk.mp g2;rw[Pe,Qj,Qj]at he;obtain⟨e1,e2⟩:=he;have e1:((es:Nat):Int)=i:=e1;have e2:((et:Nat):Int)=j:=e2;subst e1;subst e2;obtain⟨b1,b2⟩:=kF R.ok hm;have S1:=S0.trans s1;refine⟨_,rfl,_,rfl,_,rfl,λz dz nz nd nne=>⟨z,dz,A',r,x,dx,p,ps,tn,t,es,et,rfl,ai,(R.same S1).same (cb nz nd nne),(Pp.same S1).same (cb nz nd nne),iV.of ((cb nz nd nne) _ _ (s1 _ _ t0)),b1,b2,λH6 e6 m6=>⟨rfl,?_⟩⟩⟩;exact k2 es et rfl rfl hm H6 z (S1.trans (Ex.made nz nd e6)) (m6.weak λb hb=>(S1.trans (cb nz nd nne)).free hb)
def rowOf(r:R0)(ps:List Int)(tn:Int)(s t:Nat):List Int:=((s:Nat):Int)::((t:Nat):Int)::overOf r (bA r ps s t) (1-tn)::bW r (bb ps s t) t
def HY(a:Ad):Sp:=λvs H Q _=>∃(H0:Hp)(r:R0)(ps:List Int)(tn:Int)(s t:Nat)(x:Addr),vs=[.ref x]/\A7 a H0 H r ps tn s t x/\∀H' q,aE H H'->H q=none->H' q=some (.lst ((rowOf r ps tn s t).map V.int))->Q (.ref q) H'
def ww:aB ["self"] ["self"] (ao (inClass (top 19) 1)):=aR
def o5(T:Tx K mg a):a4 P w K mg base (cX P w) 1 a.fC a.rg ["self"] (HY a):=by
 refine T.fC.F.lL ww λcdv A outer s H vs Q E hr h=>?_;obtain⟨H0,r,ps,tn,s',t,x,rfl,⟨dx,tk,af,ad,ap,_,_,h1,h2,h3⟩,k⟩:=h;refine⟨_,(aj (aF (bz pU (cf (aa (ay (pv 0) rfl) (aa (ay (pv 0) rfl) (aa (ay (pv 0) rfl) ah)))) (ay (pv 0) rfl)))),?_⟩;refine⟨_,rfl,x,_,_,_,_,rfl,h1,T.bZ.cl,T.iG,rfl,_,rfl,x,_,_,_,_,rfl,h1,T.bZ.cl,T.g8,rfl,_,rfl,x,_,_,_,_,rfl,h1,T.bZ.cl,T.f9,rfl,(by rw[O2];show 3<=_;omega),λq hq=>?_⟩;have S0:=aC (o:= .lst [.int (s':Nat),.int (t:Nat),.int (overOf r (bA r ps s' t) (1-tn))]) hq;refine⟨_,rfl,x,_,_,_,_,rfl,S0 _ _ h1,T.bZ.cl,T.gC,rfl,q,tk,_,_,rfl,rfl,ai,S0 _ _ h2,?_,λz hz=>?_⟩
 ·rw[OU,O2]
  have:=im r (bb ps s' t) t;show 3+_<=_;omega
 ·exact k _ z (S0.trans (aC hz)) (S0.free hz) (by rw[ai];rfl)
def Kw{α:Type}{xs:List α}{j:Nat}{v:α}(h:xs[j]? =some v):Cg xs (j:Nat)=some v:=by
 have hj:=(O6.mp h).1;unfold Cg;rw[zY hj];exact h
def Ke.ex{H H':Hp}{b x C dx:Addr}{fs:List (Str×V)}(h:Ke K b H)(hx:H x=some (.ins C dx fs))(s:Ex x H H'):Ke K b H':=by
 rcases h with⟨o,xs,h,q⟩|h
 ·exact .inl ⟨o,xs,s _ _ h (bf h hx λz=>nomatch z),q⟩
 ·exact .inr h
def mR(ns:List Int)(n told:Nat)(w:Str):Bool:=ns[n]? ==some ((w.cps.toList.getD told 0:Nat):Int)
def b8(ns:List Int)(ws:List Str):Nat->Nat->List Str->Nat->Except Nat (V×Nat)
 |0,_,_,n=>.error n
 |f+1,told,left,n=>match left.filter (mR ns n told)with
  |[]=>.error n
  |w::l=>if w.length=told+1 then .ok (.int (ws.findIdx (λu=>decide (u=w)):Nat),n+1)else b8 ns ws f (told+1) (w::l) (n+1)
structure Fp(ws:List Str):Prop where
 n:ws.length<=100
 p:∀w∈ws,0<w.cps.toList.length/\w.cps.toList.length<=15
 f:∀u∈ws,∀v∈ws,u.cps.toList<+:v.cps.toList->u=v
def str_len(z:Str):z.length=z.cps.toList.length:=by
 show z.cps.size=_;simp
def Et(l:List Str):(l.map V.str).all ka=true:=by
 rw[List.all_map,QI];intro x _;rfl
def GV(K:OX)(a:Ad):Sp:=λvs H Q E=>∃(x dx g:Addr)(ns:List Int)(n:Nat)(wt:Addr)(ws:List Str),vs=[.ref x,.ref wt]/\fI K a H x dx g ns n/\iV K H wt (ws.map V.str)/\Ke K wt H/\Fp ws/\Bz a x dx g H (b8 ns ws 15 0 ws n) Q E
def xS{told:Nat}{u v:Str}(hu:told<u.cps.toList.length)(hv:told<v.cps.toList.length)(e:u.cps.toList.take told=v.cps.toList.take told)(c:u.cps.toList.getD told 0=v.cps.toList.getD told 0):u.cps.toList.take (told+1)=v.cps.toList.take (told+1):=by
 rw[Qs,Qs,e]
 congr 1
 simp only[List.getD,OY hu,OY hv,Option.getD_some]at c;rw[OY hu,OY hv,c]
def cO:aB ["self","words","left","told","word"] ["self","words"] (ao (inClass (top 46) 6)):=aR
def bH(T:Tx K mg a):a4 P w K mg base (cX P w) 3 a.a7 a.lY ["self","words"] (GV K a):=by
 refine T.a7.F.oQ cO λcdv A outer s H vs Q E hr h=>?_;obtain⟨x,dx,g,ns,n,wt,ws,rfl,R,hw,hty,W,k⟩:=h;refine⟨_,(ae (eV 2 cO.nd (mW sB rfl T.G7 (by decide+kernel) (aa (pv 1) ah))) (ae (eV 3 cO.nd az) (aj (jF Qh (dC rm) (ae (sF (i:=2) (own:=[("word",4)]) rfl cO.nd rfl rfl rfl (cP (pv 2)) (cq rfl) (λ_ _ _ _ _=>(kR 4 cO.nd)) (λ_ _ _ _ _=>(Eo (dC (jf (pv 0) T.aD T.dh (iW T) hr aK (aa (bj AU (pv 4) (pv 3) (λ_ _=>rfl)) ah))))) (λ_ _ _ _ _=>(pv 4))) (ae (bG (aI bQ (bu bP rfl T.mE (by decide+kernel) (aa (pv 2) ah)) az (aJ _)) (aj (gb aA hr.hd T.A2 (mS T) T.d7.b (hr.d1) rfl T.hR.m (aa (ay (pv 0) rfl) ah))) aW) (ae (qu (pv 0) az AN) (ae (GN 3 cO.nd az t7) (aj (bG (aI bQ (bu AF rfl T.mE (by decide+kernel) (aa (bj a_ (pv 2) az (λ_ _=>rfl)) ah)) (pv 3) (aJ _)) (aj (aF (K5 PySem.F.plainAttrs_tuple PySem.F.slot_tuple_index PySem.F.type_tuple_index EY (pv 1) (aa (bj a_ (pv 2) az (λ_ _=>rfl)) ah)))) aW)))))))))),?_⟩;refine⟨_,rfl,wt,_,rfl,.inr hw,λq hq=>?_⟩;have S0:aE H (upd H q (.lst (ws.map V.str))):=aC hq;refine⟨λm σ H'=>∃(told n':Nat)(left:List Str)(lq:Addr)(u:Option V),σ=[some (.ref x),some (.ref wt),some (.ref lq),some (.int (told:Nat)),u]/\m+told=15/\left.length<=100/\Ex x H H'/\H' x=some (.ins a.aY dx (vM g n'))/\H' lq=some (.lst (left.map V.str))/\(∀v∈left,v∈ws/\told<v.cps.toList.length)/\(∀v∈left,∀v'∈left,v.cps.toList.take told=v'.cps.toList.take told)/\b8 ns ws 15 0 ws n=b8 ns ws m told left n',⟨15,0,n,ws,q,_,rfl,rfl,W.n,S0.ex,S0 _ _ R.ins,ai,λv hv=>⟨hv,(W.p v hv).1⟩,λv _ v' _=>by simp,rfl⟩,?_⟩
 rintro m σ H1 ⟨told,n',left,lq,u,rfl,hm,ll,e1,x1,l1,lw,lt,hs⟩
 have R1:=R.ex e1 x1;refine⟨_,rfl,KC ⟨_,λ_ _ h=>h,?_⟩⟩;refine⟨_,rfl,lq,rfl,⟨_,a0.of l1⟩,λD hD=>iJ (J:=De K lq) (n:=left.length) (λi=>(((left.take i).filter (mR ns n' told)).map V.str)) hD (by simp) (λi H hi s=>⟨_,V.str (left[i]'hi),a0.of (s _ _ l1),by simp⟩) (λH s=>⟨_,a0.of (s _ _ l1),by rw[OU];exact OZ _⟩) (λi H' hi s1 e2 y H2 hy=>?_) λH' s1 e2=>?_⟩
 ·obtain⟨rfl,hy⟩:=hy
  have hx:left[i]? =some (left[i]'hi):=OY hi;have hy':=hy _ (a0.of (s1 _ _ l1));rw[Ph,hx]at hy';cases hy';have lv:=(lw _ (Rh hi)).2;generalize left[i]'hi=v at*;have at1:v.cps.toList[told]? =some (v.cps.toList.getD told 0):=by simp[List.getD,OY lv]
  refine⟨rfl,_,rfl,x,dx,_,rfl,s1 _ _ x1,rfl,_,rfl,_,rfl,v,_,_,rfl,rfl,?_,Kw at1,x,dx,g,ns,n',_,rfl,R1.same s1,_,rfl,fQ (λh1=>?_) λh1=>?_⟩
  ·rw[str_len,O2]
   have:=(W.p v (lw v (Pw hx)).1).2;omega
  ·refine⟨_,rfl,?_⟩
   refine Got.of hD s1 e2 (aE.refl _) ?_ ?_
   ·rw[OU]
    have:=Rv (mR ns n' told) (left.take i);rw[PK]at this;omega
   ·rw[qC _ hx,Pn,OW (show mR ns n' told v=true from h1)]
    rfl
  ·refine⟨s1,?_⟩
   rw[e2,qC _ hx,OV (by rw[show mR ns n' told v=false from h1];exact O3),PU]
 ·rw[PB (OZ _)]at e2
  have e3:=e1.same s1;have x3:=s1 _ _ x1;refine⟨_,rfl,D,_,rfl,.inl (a0.of e2),rfl,_,rfl,dH (λh1=>?_) λh1=>?_⟩
  ·have hl:left.filter (mR ns n' told)=[]:=by
    have:(left.filter (mR ns n' told)).length=0:=by rw[OU]at h1;omega
    exact Qi.mp this
   have er:b8 ns ws 15 0 ws n=.error n':=by
    rw[hs];cases m with
    |zero=>rfl
    |succ m=>unfold b8;rw[hl]
   rw[er]at k;refine⟨_,rfl,x,_,_,_,_,rfl,x3,T.aD.cl,T.bL,rfl,rfl,(by show 1<=1000;decide),λe d n1 n2 n3=>?_⟩;exact uw k e3 e d n1 n2 n3 (by rw[x3];exactλq=>nomatch q)
  ·cases hl:left.filter (mR ns n' told)with
   |nil=>rw[hl]at h1;exact absurd rfl h1
   |cons v l=>
    rw[hl]at e2 h1;have fm:∀y∈v::l,y∈left/\mR ns n' told y=true:=λy hy=>by rw[<-hl]at hy;exact PR.mp hy
    have vl:=lw v (fm v (O8)).1;have vb:=W.p v vl.1;obtain⟨m,rfl⟩:∃m',m=m'+1:=⟨m-1,by omega⟩;have step:b8 ns ws (m+1) told left n'=if v.length=told+1 then .ok (.int (ws.findIdx (λu=>decide (u=v)):Nat),n'+1)else b8 ns ws m (told+1) (v::l) (n'+1):=by
     conv=>lhs;unfold b8
     rw[hl]
    refine⟨_,rfl,x,_,_,_,_,rfl,x3,T.aD.cl,T.bL,rfl,_,_,rfl,rfl,dx,_,x3,(by show 2<1000;decide),?_⟩;refine⟨_,rfl,_,_,rfl,rfl,?_⟩;have xD:D≠x:=bf e2 x3 λz=>nomatch z;have e4:Ex x H (upd H' x (.ins a.aY dx (vM g (n'+1)))):=e3.self;have x4:(upd H' x (.ins a.aY dx (vM g (n'+1)))) x=some (.ins a.aY dx (vM g (n'+1))):=ai;have D4:(upd H' x (.ins a.aY dx (vM g (n'+1)))) D=some (.lst ((v::l).map V.str)):=by rw[ak xD];exact e2
    have ll2:(v::l).length<=100:=by
     rw[<-hl];exact PD (Rv _ _) ll
    refine⟨_,rfl,D,_,_,_,rfl,rfl,a0.of D4,at_of (j:=0) rfl rfl,v,rfl,(by rw[str_len,O2];exact PD vb.2 (by decide)),_,rfl,rfl,_,rfl,dH (λh2=>?_) λh2=>?_⟩
    ·have h2:v.length=told+1:=by
      have h2:((v.length:Nat):Int)=((told:Nat):Int)+1:=h2;omega
     rw[hs,step,OW h2]at k;have hv:v∈ws:=vl.1;have lt1:ws.findIdx (λu=>decide (u=v))<ws.length:=QC ⟨v,hv,by simp⟩;have at1:ws[ws.findIdx (λu=>decide (u=v))]? =some v:=by
      rw[OY lt1];have:=List.findIdx_getElem (w:=lt1);exact P_ some (O7 this)
     have hw4:=iV.ex hw R.ins e4;refine⟨_,rfl,⟨wt,rfl,Ke.ex hty R.ins e4⟩,_,rfl,D,_,_,_,rfl,rfl,a0.of D4,at_of (j:=0) rfl rfl,wt,ws.map V.str,.str v,ws.findIdx (λu=>decide (u=v)),.str v,rfl,rfl,hw4,rfl,Et ws,by rw[Ph,at1];rfl,by simp[Ef],λj z hj hz=>?_,?_⟩
     ·rw[Ph]at hz
      have lj:j<ws.length:=Nat.lt_trans hj lt1;rw[OY lj]at hz;cases hz;have q:=List.not_of_lt_findIdx hj;have q:¬ws[j]=v:=by simpa using q
      simp[Ef,q]
     ·exact k _ e4 x4
    ·have h2:¬v.length=told+1:=λz=>h2 (show((v.length:Nat):Int)=((told:Nat):Int)+1 by omega)
     rw[OV h2]at step;rw[str_len]at h2;refine⟨m,by omega,told+1,n'+1,v::l,D,_,rfl,by omega,ll2,e4,x4,D4,λy hy=>?_,λy hy y' hy'=>?_,hs.trans step⟩
     ·obtain⟨y1,y2⟩:=fm y hy
      obtain⟨y3,y4⟩:=lw y y1;refine⟨y3,?_⟩;rcases Q2 (told+1) y.cps.toList.length with z|z
      ·exact z
      ·exfalso
       have zl:y.cps.toList.length=told+1:=by omega
       have v2:=(fm v (O8)).2;have ce:y.cps.toList.getD told 0=v.cps.toList.getD told 0:=by
        have q1:ns[n']? =some _:=eq_of_beq y2;have q2:ns[n']? =some _:=eq_of_beq v2;rw[q1]at q2;have:=Pu q2;omega
       have te:=xS y4 vl.2 (lt y y1 v (fm v (O8)).1) ce;rw[PB (by omega)]at te;have pf:y.cps.toList<+:v.cps.toList:=by rw[te];exact List.take_prefix _ _
       have:=W.f y y3 v vl.1 pf;subst this;omega
     ·obtain⟨y1,y2⟩:=fm y hy
      obtain⟨z1,z2⟩:=fm y' hy';refine xS (lw y y1).2 (lw y' z1).2 (lt y y1 y' z1) ?_;have q1:ns[n']? =some _:=eq_of_beq y2;have q2:ns[n']? =some _:=eq_of_beq z2;rw[q1]at q2;have:=Pu q2;omega
structure fh(H:Hp)(q:Addr)(L:List (Addr×Nat×Nat)):Prop where
 l:H q=some (.lst (L.map λ(e:Addr×Nat×Nat)=>V.ref e.1))
 t:∀e∈L,H e.1=some (.tup [.int (e.2.1:Nat),.int (e.2.2:Nat)])
def fh.same{H H':Hp}{q:Addr}{L:List (Addr×Nat×Nat)}(h:fh H q L)(s:aE H H'):fh H' q L:=⟨s _ _ h.l,λe he=>s _ _ (h.t e he)⟩
def fh.ex{H H':Hp}{q:Addr}{L:List (Addr×Nat×Nat)}{x C dx:Addr}{fs:List (Str×V)}(h:fh H q L)(hx:H x=some (.ins C dx fs))(s:Ex x H H'):fh H' q L:=
 ⟨s _ _ h.l (bf h.l hx λz=>nomatch z),λe he=>s _ _ (h.t e he) (bf (h.t e he) hx λz=>nomatch z)⟩
def fh.snoc{H:Hp}{q t:Addr}{L:List (Addr×Nat×Nat)}{i j:Nat}(h:fh H q L)(ht:H t=some (.tup [.int (i:Nat),.int (j:Nat)])):fh (upd H q (.lst (L.map (λ(e:Addr×Nat×Nat)=>V.ref e.1)++[V.ref t]))) q (L++[(t,i,j)]):=by
 refine⟨by rw[ai,Pn];rfl,λe he=>?_⟩;rcases Pk.mp he with z|z
 ·rw[ak (bf (h.t e z) h.l λz=>nomatch z)]
  exact h.t e z
 ·rw[Pj]at z
  subst z;rw[ak (bf ht h.l λz=>nomatch z)];exact ht
def hU(z:Str)(ns:List Int):Nat->List (Nat×Nat)->Nat->Except Nat (List (Nat×Nat)×Nat)
 |0,acc,n=>.ok (acc,n)
 |k+1,acc,n=>match cN z ns n with
  |none=>.error n
  |some i=>hU z ns k (acc++[(n,i)]) (n+1)
def wr(ns:List Int)(f:List (Nat×Nat)->Nat->Except Nat (List (Nat×Nat)×Nat))(r:Except Nat (List (Nat×Nat)×Nat)):Except Nat (List (Nat×Nat)×Nat):=match r with
 |.error e=>.error e
 |.ok (acc,n)=>match da ns [10] n with
  |.error e=>.error e
  |.ok m=>f acc m
def eB(z:Str)(ns:List Int)(wide:Nat):Nat->List (Nat×Nat)->Nat->Except Nat (List (Nat×Nat)×Nat)
 |0,acc,n=>.ok (acc,n)
 |k+1,acc,n=>wr ns (eB z ns wide k) (hU z ns wide acc n)
def Hl(K:OX)(a:Ad):Sp:=λvs H Q E=>∃(x dx g:Addr)(ns:List Int)(n wide high:Nat)(z:Str),vs=[.ref x,.int (wide:Nat),.int (high:Nat),.str z]/\fI K a H x dx g ns n/\wide<=13/\high<=13/\
 (match eB z ns wide high [] n with
  |.ok (l,n')=>∀H' q L,Ex x H H'->H' x=some (.ins a.aY dx (vM g n'))->fh H' q L->L.map (·.2)=l->Q (.ref q) H'
  |.error m=>fK a x H m E)
def iM:aB ["reader","wide","high","signs","told","row","x","place"] ["reader","wide","high","signs"] (ao (top 82)):=aR
def sX(T:Tx K mg a):a4 P w K mg base (cX P w) 5 a.ir a.uA ["reader","wide","high","signs"] (Hl K a):=by
 refine T.ir.F.oQ iM λcdv A outer s H vs Q E hr h=>?_;obtain⟨x,dx,g,ns,n,wide,high,z,rfl,R,bw,bh,k⟩:=h;refine⟨_,(ae (eV 4 iM.nd (cf ah)) (ae (dL Qh rfl (dP rfl T.g_ (aa (pv 2) ah)) (kR 5 iM.nd) (ae (dL Qh rfl (dP rfl T.g_ (aa (pv 1) ah)) (kR 6 iM.nd) (ae (eV 7 iM.nd (ay (pv 0) rfl)) (aj (aZ (jg PQ Qo Qp gH (pv 4) (aa (nS (aa (pv 7) (aa (jf (pv 0) T.aD T.aV (a8 T) hr aA.passes (aa (pv 3) ah)) ah))) ah)))))) (aj (aZ (jf (pv 0) T.aD T.aH (aL T) hr aA.passes (aa a9 ah)))))) (aj (aF (pv 4))))),?_⟩;refine⟨P4 _,λq hq=>?_⟩;have S0:aE H (upd H q (.lst [])):=aC hq;have kE:∀m,eB z ns wide high [] n=.error m->fK a x H m E:=λm e=>by rw[e]at k;exact k
 have kO:∀l n',eB z ns wide high [] n=.ok (l,n')->∀H' q L,Ex x H H'->H' x=some (.ins a.aY dx (vM g n'))->fh H' q L->L.map (·.2)=l->Q (.ref q) H':=λl n' e=>by rw[e]at k;exact k
 clear k;refine⟨_,rfl,_,rfl,(by omega),(by omega),nj (n:=high) (λi σ H'=>∃L acc n' u v w',σ=[some (.ref x),some (V.int (wide:Nat)),some (.int (high:Nat)),some (.str z),some (.ref q),u,v,w']/\Ex x H H'/\H' x=some (.ins a.aY dx (vM g n'))/\fh H' q L/\L.map (·.2)=acc/\acc.length=wide*i/\eB z ns wide high [] n=eB z ns wide (high-i) acc n') ⟨[],[],n,_,_,_,rfl,S0.ex,S0 _ _ R.ins,⟨by rw[ai];rfl,λe he=>by cases he⟩,rfl,rfl,rfl⟩ (λi σ H1 hi⟨L,acc,n',u,v,w',e,e1,x1,p1,l1,l2,hs⟩=>?_) λσ H1⟨L,acc,n',u,v,w',e,e1,x1,p1,l1,l2,hs⟩=>?_⟩
 ·subst e
  have hwi:wide*i<=13*13:=Ru bw (by omega);have hs:eB z ns wide high [] n=wr ns (eB z ns wide (high-(i+1))) (hU z ns (wide-0) acc n'):=by
   rw[hs];have e:high-i=(high-(i+1))+1:=by omega
   rw[e];rfl
  refine⟨_,rfl,_,rfl,(by omega),(by omega),nj (n:=wide) (λj σ H'=>∃L acc n' v w',σ=[some (.ref x),some (V.int (wide:Nat)),some (.int (high:Nat)),some (.str z),some (.ref q),some (.int (0+(i:Nat))),v,w']/\Ex x H H'/\H' x=some (.ins a.aY dx (vM g n'))/\fh H' q L/\L.map (·.2)=acc/\acc.length=wide*i+j/\eB z ns wide high [] n=wr ns (eB z ns wide (high-(i+1))) (hU z ns (wide-j) acc n')) ⟨L,acc,n',_,_,rfl,e1,x1,p1,l1,l2,hs⟩ (λj σ H2 hj⟨L,acc,n',v,w',e,e1,x1,p1,l1,l2,hs⟩=>?_) λσ H2⟨L,acc,n',v,w',e,e1,x1,p1,l1,l2,hs⟩=>?_⟩
  ·subst e
   refine⟨_,rfl,x,_,_,_,_,rfl,x1,T.aD.cl,T.bL,rfl,?_⟩;refine⟨_,rfl,.inl ⟨rfl,_,a0.of p1.l⟩,_,rfl,_,rfl,x,dx,_,rfl,x1,rfl,_,rfl,x,dx,g,ns,n',z,rfl,R.ex e1 x1,?_⟩;have step:hU z ns (wide-j) acc n'=(match cN z ns n' with
     |none=>.error n'
     |some i=>hU z ns (wide-(j+1)) (acc++[(n',i)]) (n'+1)):=by
    have e:wide-j=(wide-(j+1))+1:=by omega
    rw[e];rfl
   unfold aX;cases hk:cN z ns n' with
   |none=>
    rw[hk]at step;rw[step]at hs;exact fK.mono (kE n' hs) e1
   |some b=>
    rw[hk]at step;rw[step]at hs;intro H3 s3 x3;refine⟨(by rw[O2];show 2<=_;omega),λt ht=>?_⟩;have p3:fh H3 q L:=p1.ex x1 s3;have tx:x≠t:=au x3 ht;have p4:=p3.same (aC (o:= .tup [.int (n':Nat),.int (b:Nat)]) ht);refine⟨q,_,_,rfl,rfl,p4.l,(by rw[OU,O2];have:=P_ List.length l1;rw[OU]at this;omega),L++[(t,n',b)],acc++[(n',b)],n'+1,_,_,rfl,?_,?_,p4.snoc ai,by rw[Pn,l1];rfl,by rw[Pd,l2];rfl,hs⟩
    ·exact(((e1.trans s3).same (aC ht)).new hq)
    ·have xq:x≠q:=bf x3 p3.l λz=>nomatch z
     rw[ak xq,ak tx];exact x3
  ·subst e
   rw[Nat.sub_self]at hs;replace hs:eB z ns wide high [] n=(match da ns [10] n' with
    |.error e=>.error e
    |.ok m=>eB z ns wide (high-(i+1)) acc m):=hs
   refine⟨_,rfl,x,dx,_,rfl,x1,rfl,x,dx,g,ns,n',"\n",rfl,R.ex e1 x1,?_⟩;have e10:("\n":Str).cps.toList=[10]:=by decide+kernel
   rw[e10];cases hl:da ns [10] n' with
   |error e=>
    rw[hl]at hs;exact fK.mono (kE e hs) e1
   |ok m=>
    rw[hl]at hs;intro H3 s3 x3;refine⟨L,acc,m,_,_,_,rfl,e1.trans s3,x3,p1.ex x1 s3,l1,by rw[l2,QU],hs⟩
 ·subst e
  rw[Nat.sub_self]at hs;exact⟨_,rfl,kO acc n' hs H1 q L e1 x1 p1 l1⟩
def kW{β γ:Type}(r:Except Nat (β×Nat))(f:β->Nat->Except Nat γ):Except Nat γ:=match r with
 |.error e=>.error e
 |.ok p=>f p.1 p.2
def CH{β γ:Type}{v:β}{n:Nat}{f:β->Nat->Except Nat γ}:kW (.ok (v,n)) f=f v n:=rfl
def jR(ns:List Int)(z:Str)(n:Nat):Except Nat (Unit×Nat):=match da ns z.cps.toList n with
 |.ok m=>.ok ((),m)
 |.error e=>.error e
def jz(r:Except Nat (V×Nat)):Except Nat (Int×Nat):=match r with
 |.ok (.int i,m)=>.ok (i,m)
 |.ok (_,m)=>.error m
 |.error e=>.error e
def Bd(r:Except Nat (V×Nat)):Except Nat (Unit×Nat):=match r with
 |.ok p=>.ok ((),p.2)
 |.error e=>.error e
def BD(ns:List Int)(n:Nat):Except Nat (Unit×Nat):=if n<ns.length then .error n else .ok ((),n)
structure DR where
 wide:Nat
 high:Nat
 ground:List (Nat×Nat)
 start:List (Nat×Nat)
 first:Int
 slides:Int
 armed:Int
 four:Int
 passed:Int
 seat:Int
 exits:Int
 gw:Nat
 goal:Int
 thrice:Int
 limit:Int
 jP:Nat
def On(gq sq:Addr)(d:DR):List (Str×V):=[("wide",.int (d.wide:Nat)),("high",.int (d.high:Nat)),("ground",.ref gq),("start",.ref sq),("first",.int d.first),("slides",.int d.slides),("armed",.int d.armed),("four",.int d.four),("passed",.int d.passed),("seat",.int d.seat),("exits",.int d.exits),("goal_place",.int (d.gw:Nat)),("goal",.int d.goal),("thrice",.int d.thrice),("limit",.int d.limit),("end_place",.int (d.jP:Nat))]
structure DA(a:Ad)(H:Hp)(x dx gq sq:Addr)(d:DR)(L1 L2:List (Addr×Nat×Nat)):Prop where
 ins:H x=some (.ins a.aO dx (On gq sq d))
 g:fh H gq L1
 ge:L1.map (·.2)=d.ground
 s:fh H sq L2
 se:L2.map (·.2)=d.start
def DA.same{a:Ad}{H H':Hp}{x dx gq sq:Addr}{d:DR}{L1 L2:List (Addr×Nat×Nat)}(h:DA a H x dx gq sq d L1 L2)(s:aE H H'):DA a H' x dx gq sq d L1 L2:=⟨s _ _ h.ins,h.g.same s,h.ge,h.s.same s,h.se⟩
def v9:List Str:=["hunters","king"]
def wQ:Fp v9:=⟨by decide,by decide+kernel,by decide+kernel⟩
def sy:List Str:=["steps","slides"]
def uK:Fp sy:=⟨by decide,by decide+kernel,by decide+kernel⟩
def vW:List Str:=["bare","armed"]
def xA:Fp vW:=⟨by decide,by decide+kernel,by decide+kernel⟩
def Ap:List Str:=["two","four"]
def zZ:Fp Ap:=⟨by decide,by decide+kernel,by decide+kernel⟩
def tE:List Str:=["barred","passed"]
def u5:Fp tE:=⟨by decide,by decide+kernel,by decide+kernel⟩
def wm:List Str:=["quiet","hunters","men","all"]
def r9:Fp wm:=⟨by decide,by decide+kernel,by decide+kernel⟩
def AC:List Str:=["edge","exits"]
def zF:Fp AC:=⟨by decide,by decide+kernel,by decide+kernel⟩
def tj:List Str:=["drawn","hunters","king"]
def uI:Fp tj:=⟨by decide,by decide+kernel,by decide+kernel⟩
def iR(ns:List Int):Except Nat DR:=
 kW (jR ns "tafl " 0) λ_ n=>
 kW (Bd (B1 ns n)) λ_ n=>
 kW (jR ns " " n) λ_ n=>
 kW (jz (tJ ns n)) λwide n=>
 kW (jR ns " " n) λ_ n=>
 kW (jz (tJ ns n)) λhigh n=>
 kW (jR ns "\nground\n" n) λ_ n=>
 kW (eB ".SX#" ns wide.toNat high.toNat [] n) λground n=>
 kW (jR ns "start\n" n) λ_ n=>
 kW (eB ".hmK" ns wide.toNat high.toNat [] n) λstart n=>
 kW (jR ns "first " n) λ_ n=>
 kW (jz (b8 ns v9 15 0 v9 n)) λfirst n=>
 kW (jR ns "\nking " n) λ_ n=>
 kW (jz (b8 ns sy 15 0 sy n)) λslides n=>
 kW (jR ns " " n) λ_ n=>
 kW (jz (b8 ns vW 15 0 vW n)) λarmed n=>
 kW (jR ns " " n) λ_ n=>
 kW (jz (b8 ns Ap 15 0 Ap n)) λfour n=>
 kW (jR ns "\nseat " n) λ_ n=>
 kW (jz (b8 ns tE 15 0 tE n)) λpassed n=>
 kW (jR ns " " n) λ_ n=>
 kW (jz (b8 ns wm 15 0 wm n)) λseat n=>
 kW (jR ns "\nexits " n) λ_ n=>
 kW (jz (b8 ns wm 15 0 wm n)) λexits n=>
 kW (jR ns "\ngoal " n) λ_ n=>
 kW (.ok (n,n)) λgoal_place n=>
 kW (jz (b8 ns AC 15 0 AC n)) λgoal n=>
 kW (jR ns "\nthrice " n) λ_ n=>
 kW (jz (b8 ns tj 15 0 tj n)) λthrice n=>
 kW (jR ns "\nlimit " n) λ_ n=>
 kW (jz (Af ns n)) λlimit n=>
 kW (jR ns "\n" n) λ_ n=>
 kW (BD ns n) λ_ n=>
 .ok {wide:=wide.toNat,high:=high.toNat,ground:=ground,start:=start,first:=first,slides:=slides,armed:=armed,four:=four,passed:=passed,seat:=seat,exits:=exits,gw:=goal_place,goal:=goal,thrice:=thrice,limit:=limit,jP:=n}
def KD(a:Ad)(x dx r:Addr)(H0:Hp)(Q:VK)(E:XK)(res:Except Nat DR):Prop:=match res with
 |.ok d=>∀H' gq sq L1 L2,Fx [x,r] H0 H'->DA a H' x dx gq sq d L1 L2->Q .eC H'
 |.error m=>h_ a [x,r] H0 m E
structure vF(K:OX)(a:Ad)(H0 H:Hp)(x dx r rx g:Addr)(ns:List Int)(fs:List (Str×V))(n:Nat):Prop where
 fx:Fx [x,r] H0 H
 xi:H x=some (.ins a.aO dx fs)
 rd:fI K a H r rx g ns n
 ne:x≠r
section
variable{K:OX}{a:Ad}{H0 H H':Hp}{x dx r rx g:Addr}{ns:List Int}{fs fs':List (Str×V)}{n n':Nat}{Q Q':VK}{E:XK}
def vF.read(D:vF K a H0 H x dx r rx g ns fs n)(s:Ex r H H')(h:H' r=some (.ins a.aY rx (vM g n'))):vF K a H0 H' x dx r rx g ns fs n':=
 ⟨D.fx.trans (s.fx (by simp)),s _ _ D.xi D.ne,D.rd.ex s h,D.ne⟩
def vF.set(D:vF K a H0 H x dx r rx g ns fs n):vF K a H0 (upd H x (.ins a.aO dx fs')) x dx r rx g ns fs' n:=
 ⟨D.fx.trans (Fx.set (by simp)),ai,⟨by rw[ak (Pb D.ne)];exact D.rd.ins,by rw[ak (bf D.rd.gv D.xi λz=>nomatch z)];exact D.rd.gv⟩,D.ne⟩
def vF.new{p:Addr}{o:HO}(D:vF K a H0 H x dx r rx g ns fs n)(hp:H p=none):vF K a H0 (upd H p o) x dx r rx g ns fs n:=
 ⟨D.fx.trans (aC hp).fx,aC hp _ _ D.xi,D.rd.same (aC hp),D.ne⟩
def vF.BQ(D:vF K a H0 H x dx r rx g ns fs n):vF K a H H x dx r rx g ns fs n:=⟨Fx.refl,D.xi,D.rd,D.ne⟩
def KD.err{β:Type}{res:Except Nat (β×Nat)}{m:Nat}{f:β->Nat->Except Nat DR}(D:vF K a H0 H x dx r rx g ns fs n)(k:KD a x dx r H0 Q E (kW res f))(h:res=.error m):fK a r H m E:=by
 subst h;exact(h_.after (show h_ a [x,r] H0 m E from k) D.fx).e (by simp)
def cJ{f:Str}{v:V}:∀{fs:List (Str×V)}{ns:List Str},fs.map (·.1)=ns->ns.contains f=false->cj f v fs=fs++[(f,v)]
 |[],_,_,_=>rfl
 |p::fs,ns,e,h=>by
  subst e;rw[PY,List.contains_cons,Bool.or_eq_false_iff]at h;have q:=cJ (f:=f) (v:=v) (fs:=fs) rfl h.2;unfold cj;rw[OV (λz=>by rw[z]at h;simp at h),q];rfl
def KD.after{res:Except Nat DR}(k:KD a x dx r H0 Q E res)(f:Fx [x,r] H0 H):KD a x dx r H Q E res:=by
 unfold KD at k ⊢;cases res with
 |error m=>exact h_.after k f
 |ok d=>exactλH' gq sq L1 L2 f'=>k H' gq sq L1 L2 (f.trans f')
def fh.NJ{q:Addr}{L:List (Addr×Nat×Nat)}{C1 C2 d1 d2:Addr}{f1 f2:List (Str×V)}(h:fh H q L)(f:Fx [x,r] H H')(hx:H x=some (.ins C1 d1 f1))(hr:H r=some (.ins C2 d2 f2)):fh H' q L:=
 ⟨f _ _ h.l (by simp[bf h.l hx (λz=>nomatch z),bf h.l hr (λz=>nomatch z)]),λe he=>f _ _ (h.t e he) (by simp[bf (h.t e he) hx (λz=>nomatch z),bf (h.t e he) hr (λz=>nomatch z)])⟩
def c8{z:Str}{f:Unit->Nat->Except Nat DR}(D:vF K a H0 H x dx r rx g ns fs n)(k:KD a x dx r H0 Q E (kW (jR ns z n) f))(c:∀H' n',vF K a H0 H' x dx r rx g ns fs n'->KD a x dx r H0 Q E (f () n')->Q' .eC H'):JV K a [.ref r,.str z] H Q' E:=by
 refine⟨r,rx,g,ns,n,z,rfl,D.rd,?_⟩;cases h:da ns z.cps.toList n with
 |error m=>exact k.err D (by unfold jR;rw[h])
 |ok m=>
  intro H1 s1 h1;refine c H1 m (D.read s1 h1) ?_;unfold jR at k;rw[h]at k;exact k
def E4{rf:List Int->Nat->Except Nat (V×Nat)}{f:Unit->Nat->Except Nat DR}(D:vF K a H0 H x dx r rx g ns fs n)(k:KD a x dx r H0 Q E (kW (Bd (rf ns n)) f))(c:∀H' n' v,vF K a H0 H' x dx r rx g ns fs n'->KD a x dx r H0 Q E (f () n')->Q' v H'):wu K a rf [.ref r] H Q' E:=by
 refine⟨r,rx,g,ns,n,rfl,D.rd,?_⟩;cases h:rf ns n with
 |error m=>exact k.err D (by unfold Bd;rw[h])
 |ok p=>
  intro H1 s1 h1;refine c H1 p.2 _ (D.read s1 h1) ?_;unfold Bd at k;rw[h]at k;exact k
def wB{rf:List Int->Nat->Except Nat (V×Nat)}{f:Int->Nat->Except Nat DR}(isI:∀p,rf ns n=.ok p->∃i,p.1=.int i)(D:vF K a H0 H x dx r rx g ns fs n)(k:KD a x dx r H0 Q E (kW (jz (rf ns n)) f))(c:∀H' n' i,rf ns n=.ok (.int i,n')->vF K a H0 H' x dx r rx g ns fs n'->KD a x dx r H0 Q E (f i n')->Q' (.int i) H'):wu K a rf [.ref r] H Q' E:=by
 refine⟨r,rx,g,ns,n,rfl,D.rd,?_⟩;cases h:rf ns n with
 |error m=>exact k.err D (by unfold jz;rw[h])
 |ok p=>
  obtain⟨i,e⟩:=isI p h;obtain⟨v,m⟩:=p;cases e;intro H1 s1 h1;refine c H1 m i h (D.read s1 h1) ?_;rw[h]at k;exact k
def zh(ws:List Str):∀(f told:Nat)(left:List Str)(n:Nat)(p:V×Nat),b8 ns ws f told left n=.ok p->∃i,p.1=.int i
 |0,_,_,_,_,h=>by cases h
 |f+1,told,left,n,p,h=>by
  unfold b8 at h;cases hl:left.filter (mR ns n told)with
  |nil=>rw[hl]at h;cases h
  |cons v l=>
   rw[hl]at h
   by_cases hv:v.length=told+1
   ·replace h:(if v.length=told+1 then Except.ok (V.int (ws.findIdx (λu=>decide (u=v)):Nat),n+1)else b8 ns ws f (told+1) (v::l) (n+1))=.ok p:=h
    rw[OW hv]at h;cases h;exact⟨_,rfl⟩
   ·replace h:(if v.length=told+1 then Except.ok (V.int (ws.findIdx (λu=>decide (u=v)):Nat),n+1)else b8 ns ws f (told+1) (v::l) (n+1))=.ok p:=h
    rw[OV hv]at h;exact zh ws f _ _ _ _ h
def gE{wt:Addr}{ws:List Str}{f:Int->Nat->Except Nat DR}(W:Fp ws)(hw:iV K H wt (ws.map V.str))(ht:Ke K wt H)(D:vF K a H0 H x dx r rx g ns fs n)(k:KD a x dx r H0 Q E (kW (jz (b8 ns ws 15 0 ws n)) f))(c:∀H' n' i,vF K a H0 H' x dx r rx g ns fs n'->KD a x dx r H0 Q E (f i n')->Q' (.int i) H'):GV K a [.ref r,.ref wt] H Q' E:=by
 refine⟨r,rx,g,ns,n,wt,ws,rfl,D.rd,hw,ht,W,?_⟩;cases h:b8 ns ws 15 0 ws n with
 |error m=>exact k.err D (by unfold jz;rw[h])
 |ok p=>
  obtain⟨i,e⟩:=zh ws _ _ _ _ p h;obtain⟨v,m⟩:=p;cases e;intro H1 s1 h1;refine c H1 m i (D.read s1 h1) ?_;rw[h]at k;exact k
def zU{wide high:Nat}{z:Str}{f:List (Nat×Nat)->Nat->Except Nat DR}(bw:wide<=13)(bh:high<=13)(D:vF K a H0 H x dx r rx g ns fs n)(k:KD a x dx r H0 Q E (kW (eB z ns wide high [] n) f))(c:∀H' n' q L,vF K a H0 H' x dx r rx g ns fs n'->fh H' q L->KD a x dx r H0 Q E (f (L.map (·.2)) n')->Q' (.ref q) H'):Hl K a [.ref r,.int (wide:Nat),.int (high:Nat),.str z] H Q' E:=by
 refine⟨r,rx,g,ns,n,wide,high,z,rfl,D.rd,bw,bh,?_⟩;cases h:eB z ns wide high [] n with
 |error m=>exact k.err D h
 |ok p=>
  obtain⟨l,m⟩:=p;intro H1 q L s1 h1 p1 e1;refine c H1 m q L (D.read s1 h1) p1 ?_;rw[h]at k;rw[e1];exact k
def GW{f:Unit->Nat->Except Nat DR}(D:vF K a H0 H x dx r rx g ns fs n)(k:KD a x dx r H0 Q E (kW (BD ns n) f))(c:KD a x dx r H0 Q E (f () n)->Q' .eC H):ME K a [.ref r] H Q' E:=by
 refine⟨r,rx,g,ns,n,rfl,D.rd,λh=>?_,λh=>?_⟩
 ·unfold BD at k
  rw[OV (by omega)]at k;exact c k
 ·exact k.err D (by unfold BD;rw[OW h])
def nA{p:V×Nat}(h:tJ ns n=.ok p):∃wd:Nat,p.1=.int (wd:Nat)/\wd<=13/\5<=wd:=by
 unfold tJ at h;have l4:("0123":Str).cps.toList.length=4:=by decide+kernel
 have l5:("56789":Str).cps.toList.length=5:=by decide+kernel
 split at h
 ·cases h1:aX "0123" ns (n+1)with
  |error e=>rw[h1]at h;cases h
  |ok q=>
   obtain⟨d,rfl,hd⟩:=dN h1;rw[h1]at h;cases h;have:=(iB hd).1;exact⟨10+d,rfl,by omega,by omega⟩
 ·cases h1:aX "56789" ns n with
  |error e=>rw[h1]at h;cases h
  |ok q=>
   obtain⟨d,rfl,hd⟩:=dN h1;rw[h1]at h;cases h;have:=(iB hd).1;exact⟨5+d,rfl,by omega,by omega⟩
def uH:∀(f:Nat)(l:Int)(n:Nat)(p:V×Nat),gJ ns f l n=.ok p->∃i,p.1=.int i
 |0,_,_,_,h=>by cases h;exact⟨_,rfl⟩
 |f+1,l,n,p,h=>by
  unfold gJ at h;split at h
  ·split at h
   ·exact uH f _ _ _ h
   ·cases h
   ·cases h
  ·cases h
   exact⟨_,rfl⟩
def Jv{p:V×Nat}(h:Af ns n=.ok p):∃i,p.1=.int i:=by
 unfold Af at h;split at h
 ·exact uH _ _ _ _ h
 ·cases h
 ·cases h
end
def FH(K:OX)(a:Ad):Sp:=λvs H Q E=>∃(x dx r rx g:Addr)(ns:List Int),vs=[.ref x,.ref r]/\H x=some (.ins a.aO dx [])/\fI K a H r rx g ns 0/\x≠r/\KD a x dx r H Q E (iR ns)
def rV:aB ["self","reader"] ["self","reader"] (ao (inClass (top 77) 0)):=aR
def rJ(T:Tx K mg a):a4 P w K mg base (cX P w) 6 a.cW a.mo ["self","reader"] (FH K a):=by
 refine T.cW.F.oQ rV λcdv A outer s H vs Q E hr h=>?_;obtain⟨x,dx,r,rx,g,ns,rfl,hx,R,xr,k⟩:=h;have D:vF K a H H x dx r rx g ns [] 0:=⟨Fx.refl,hx,R,xr⟩;unfold iR at k;refine⟨_,(ae (aZ (jf (pv 1) T.aD T.aH (aL T) hr aA.passes (aa a9 ah))) (ae (aZ (dn T.jQ (AA T) hr aA.passes (aa (pv 1) ah))) (ae (aZ (jf (pv 1) T.aD T.aH (aL T) hr aA.passes (aa a9 ah))) (ae (a5 (pv 0) (dn T.iD (tz T) hr aA.passes (aa (pv 1) ah)) rfl) (ae (aZ (jf (pv 1) T.aD T.aH (aL T) hr aA.passes (aa a9 ah))) (ae (a5 (pv 0) (dn T.iD (tz T) hr aA.passes (aa (pv 1) ah)) rfl) (ae (aZ (jf (pv 1) T.aD T.aH (aL T) hr aA.passes (aa a9 ah))) (ae (a5 (pv 0) (dn T.ir (sX T) hr aA.passes (aa (pv 1) (aa (ay (pv 0) rfl) (aa (ay (pv 0) rfl) (aa a9 ah))))) rfl) (ae (aZ (jf (pv 1) T.aD T.aH (aL T) hr aA.passes (aa a9 ah))) (ae (a5 (pv 0) (dn T.ir (sX T) hr aA.passes (aa (pv 1) (aa (ay (pv 0) rfl) (aa (ay (pv 0) rfl) (aa a9 ah))))) rfl) (ae (aZ (jf (pv 1) T.aD T.aH (aL T) hr aA.passes (aa a9 ah))) (ae (a5 (pv 0) (jf (pv 1) T.aD T.a7 (bH T) hr aA.passes (aa (nV (aa a9 (aa a9 ah))) ah)) rfl) (ae (aZ (jf (pv 1) T.aD T.aH (aL T) hr aA.passes (aa a9 ah))) (ae (a5 (pv 0) (jf (pv 1) T.aD T.a7 (bH T) hr aA.passes (aa (nV (aa a9 (aa a9 ah))) ah)) rfl) (ae (aZ (jf (pv 1) T.aD T.aH (aL T) hr aA.passes (aa a9 ah))) (ae (a5 (pv 0) (jf (pv 1) T.aD T.a7 (bH T) hr aA.passes (aa (nV (aa a9 (aa a9 ah))) ah)) rfl) (ae (aZ (jf (pv 1) T.aD T.aH (aL T) hr aA.passes (aa a9 ah))) (ae (a5 (pv 0) (jf (pv 1) T.aD T.a7 (bH T) hr aA.passes (aa (nV (aa a9 (aa a9 ah))) ah)) rfl) (ae (aZ (jf (pv 1) T.aD T.aH (aL T) hr aA.passes (aa a9 ah))) (ae (a5 (pv 0) (jf (pv 1) T.aD T.a7 (bH T) hr aA.passes (aa (nV (aa a9 (aa a9 ah))) ah)) rfl) (ae (aZ (jf (pv 1) T.aD T.aH (aL T) hr aA.passes (aa a9 ah))) (ae (a5 (pv 0) (jf (pv 1) T.aD T.a7 (bH T) hr aA.passes (aa (J1 T.wZ) ah)) rfl) (ae (aZ (jf (pv 1) T.aD T.aH (aL T) hr aA.passes (aa a9 ah))) (ae (a5 (pv 0) (jf (pv 1) T.aD T.a7 (bH T) hr aA.passes (aa (J1 T.wZ) ah)) rfl) (ae (aZ (jf (pv 1) T.aD T.aH (aL T) hr aA.passes (aa a9 ah))) (ae (a5 (pv 0) (ay (pv 1) rfl) rfl) (ae (a5 (pv 0) (jf (pv 1) T.aD T.a7 (bH T) hr aA.passes (aa (nV (aa a9 (aa a9 ah))) ah)) rfl) (ae (aZ (jf (pv 1) T.aD T.aH (aL T) hr aA.passes (aa a9 ah))) (ae (a5 (pv 0) (jf (pv 1) T.aD T.a7 (bH T) hr aA.passes (aa (nV (aa a9 (aa a9 (aa a9 ah)))) ah)) rfl) (ae (aZ (jf (pv 1) T.aD T.aH (aL T) hr aA.passes (aa a9 ah))) (ae (a5 (pv 0) (dn T.iP (y6 T) hr aA.passes (aa (pv 1) ah)) rfl) (ae (aZ (jf (pv 1) T.aD T.aH (aL T) hr aA.passes (aa a9 ah))) (ae (aZ (Fo (pv 1) T.aD T.cC (jS T) hr aA.passes)) (aj (a5 (pv 0) (ay (pv 1) rfl) rfl))))))))))))))))))))))))))))))))))),?_⟩;refine⟨_,rfl,r,rx,_,rfl,D.rd.ins,rfl,c8 (z:="tafl ") D k λH1 n1 D1 k1=>?_⟩;clear D k;refine⟨_,rfl,E4 D1 k1 λH1 n2 v D2 k2=>?_⟩;clear D1 k1;refine⟨_,rfl,r,rx,_,rfl,D2.rd.ins,rfl,c8 (z:=" ") D2 k2 λH1 n3 D3 k3=>?_⟩;clear D2 k2;refine⟨_,rfl,wB (λp h=>let⟨i,e,_⟩:=nA h;⟨_,e⟩) D3 k3 λH1 n4 iv h1 D4 k4=>?_⟩;clear D3 k3;obtain⟨wide,e_wide,b_wide,_⟩:=nA h1;cases e_wide;clear h1;refine⟨_,rfl,x,_,dx,_,rfl,D4.xi,T.aw.cl,T.cy,(by show 0<1000;decide),?_⟩;rw[show cj "wide" (V.int (wide:Nat)) ([]:List (Str×V))=([("wide",V.int (wide:Nat))]:List (Str×V))from cJ (ns:=[]) rfl (by decide+kernel)];have D4s:=D4.set (fs':=([("wide",V.int (wide:Nat))]:List (Str×V)));clear D4;refine⟨_,rfl,r,rx,_,rfl,D4s.rd.ins,rfl,c8 (z:=" ") D4s k4 λH1 n5 D5 k5=>?_⟩;clear D4s k4;refine⟨_,rfl,wB (λp h=>let⟨i,e,_⟩:=nA h;⟨_,e⟩) D5 k5 λH1 n6 iv h1 D6 k6=>?_⟩;clear D5 k5;obtain⟨high,e_high,b_high,_⟩:=nA h1;cases e_high;clear h1;refine⟨_,rfl,x,_,dx,_,rfl,D6.xi,T.aw.cl,T.cw,(by show 1<1000;decide),?_⟩;rw[show cj "high" (V.int (high:Nat)) ([("wide",V.int (wide:Nat))]:List (Str×V))=([("wide",V.int (wide:Nat)),("high",V.int (high:Nat))]:List (Str×V))from cJ (ns:=["wide"]) rfl (by decide+kernel)];have D6s:=D6.set (fs':=([("wide",V.int (wide:Nat)),("high",V.int (high:Nat))]:List (Str×V)));clear D6;refine⟨_,rfl,r,rx,_,rfl,D6s.rd.ins,rfl,c8 (z:="\nground\n") D6s k6 λH1 n7 D7 k7=>?_⟩;clear D6s k6;refine⟨_,rfl,_,rfl,x,_,_,_,_,rfl,D7.xi,T.aw.cl,T.cy,rfl,_,rfl,x,_,_,_,_,rfl,D7.xi,T.aw.cl,T.cw,rfl,?_⟩;dsimp only[FN,tC,rN,Ri,Qt];refine zU (wide:=wide) (high:=high) (z:=".SX#") b_wide b_high D7 k7 λH1 n8 q_ground L_ground D8 p_ground k8=>?_;clear D7 k7;have f_ground:=D8.fx;have i_ground:=D8.xi;have r_ground:=D8.rd.ins;have D8b:=D8.BQ;clear D8;have k8b:=KD.after k8 f_ground;clear k8;refine⟨_,rfl,x,_,dx,_,rfl,D8b.xi,T.aw.cl,T.bS,(by show 2<1000;decide),?_⟩;rw[show cj "ground" (V.ref q_ground) ([("wide",V.int (wide:Nat)),("high",V.int (high:Nat))]:List (Str×V))=([("wide",V.int (wide:Nat)),("high",V.int (high:Nat)),("ground",V.ref q_ground)]:List (Str×V))from cJ (ns:=["wide","high"]) rfl (by decide+kernel)];have D8bs:=D8b.set (fs':=([("wide",V.int (wide:Nat)),("high",V.int (high:Nat)),("ground",V.ref q_ground)]:List (Str×V)));clear D8b;refine⟨_,rfl,r,rx,_,rfl,D8bs.rd.ins,rfl,c8 (z:="start\n") D8bs k8b λH1 n9 D9 k9=>?_⟩;clear D8bs k8b;refine⟨_,rfl,_,rfl,x,_,_,_,_,rfl,D9.xi,T.aw.cl,T.cy,rfl,_,rfl,x,_,_,_,_,rfl,D9.xi,T.aw.cl,T.cw,rfl,?_⟩;dsimp only[FN,tC,rN,Ri,Qt];refine zU (wide:=wide) (high:=high) (z:=".hmK") b_wide b_high D9 k9 λH1 n10 q_start L_start D10 p_start k10=>?_;clear D9 k9;have f_start:=D10.fx;have i_start:=D10.xi;have r_start:=D10.rd.ins;have D10b:=D10.BQ;clear D10;have k10b:=KD.after k10 f_start;clear k10;refine⟨_,rfl,x,_,dx,_,rfl,D10b.xi,T.aw.cl,T.b9,(by show 3<1000;decide),?_⟩;rw[show cj "start" (V.ref q_start) ([("wide",V.int (wide:Nat)),("high",V.int (high:Nat)),("ground",V.ref q_ground)]:List (Str×V))=([("wide",V.int (wide:Nat)),("high",V.int (high:Nat)),("ground",V.ref q_ground),("start",V.ref q_start)]:List (Str×V))from cJ (ns:=["wide","high","ground"]) rfl (by decide+kernel)];have D10bs:=D10b.set (fs':=([("wide",V.int (wide:Nat)),("high",V.int (high:Nat)),("ground",V.ref q_ground),("start",V.ref q_start)]:List (Str×V)));clear D10b;refine⟨_,rfl,r,rx,_,rfl,D10bs.rd.ins,rfl,c8 (z:="first ") D10bs k10b λH1 n11 D11 k11=>?_⟩;clear D10bs k10b;refine⟨_,rfl,r,rx,_,rfl,D11.rd.ins,rfl,(by rw[O2];show 2<=_;omega),λwt ow nw tw=>gE (ws:=v9) wQ (.inl (.inr ⟨ow,ai⟩)) (.inl ⟨ow,_,ai,tw⟩) (D11.new nw) k11 λH1 n12 iv12 D12 k12=>?_⟩;clear D11 k11;refine⟨_,rfl,x,_,dx,_,rfl,D12.xi,T.aw.cl,T.lr,(by show 4<1000;decide),?_⟩;rw[show cj "first" (V.int iv12) ([("wide",V.int (wide:Nat)),("high",V.int (high:Nat)),("ground",V.ref q_ground),("start",V.ref q_start)]:List (Str×V))=([("wide",V.int (wide:Nat)),("high",V.int (high:Nat)),("ground",V.ref q_ground),("start",V.ref q_start),("first",V.int iv12)]:List (Str×V))from cJ (ns:=["wide","high","ground","start"]) rfl (by decide+kernel)];have D12s:=D12.set (fs':=([("wide",V.int (wide:Nat)),("high",V.int (high:Nat)),("ground",V.ref q_ground),("start",V.ref q_start),("first",V.int iv12)]:List (Str×V)));clear D12;refine⟨_,rfl,r,rx,_,rfl,D12s.rd.ins,rfl,c8 (z:="\nking ") D12s k12 λH1 n13 D13 k13=>?_⟩;clear D12s k12;refine⟨_,rfl,r,rx,_,rfl,D13.rd.ins,rfl,(by rw[O2];show 2<=_;omega),λwt ow nw tw=>gE (ws:=sy) uK (.inl (.inr ⟨ow,ai⟩)) (.inl ⟨ow,_,ai,tw⟩) (D13.new nw) k13 λH1 n14 iv14 D14 k14=>?_⟩;clear D13 k13;refine⟨_,rfl,x,_,dx,_,rfl,D14.xi,T.aw.cl,T.km,(by show 5<1000;decide),?_⟩;rw[show cj "slides" (V.int iv14) ([("wide",V.int (wide:Nat)),("high",V.int (high:Nat)),("ground",V.ref q_ground),("start",V.ref q_start),("first",V.int iv12)]:List (Str×V))=([("wide",V.int (wide:Nat)),("high",V.int (high:Nat)),("ground",V.ref q_ground),("start",V.ref q_start),("first",V.int iv12),("slides",V.int iv14)]:List (Str×V))from cJ (ns:=["wide","high","ground","start","first"]) rfl (by decide+kernel)];have D14s:=D14.set (fs':=([("wide",V.int (wide:Nat)),("high",V.int (high:Nat)),("ground",V.ref q_ground),("start",V.ref q_start),("first",V.int iv12),("slides",V.int iv14)]:List (Str×V)));clear D14;refine⟨_,rfl,r,rx,_,rfl,D14s.rd.ins,rfl,c8 (z:=" ") D14s k14 λH1 n15 D15 k15=>?_⟩;clear D14s k14;refine⟨_,rfl,r,rx,_,rfl,D15.rd.ins,rfl,(by rw[O2];show 2<=_;omega),λwt ow nw tw=>gE (ws:=vW) xA (.inl (.inr ⟨ow,ai⟩)) (.inl ⟨ow,_,ai,tw⟩) (D15.new nw) k15 λH1 n16 iv16 D16 k16=>?_⟩;clear D15 k15;refine⟨_,rfl,x,_,dx,_,rfl,D16.xi,T.aw.cl,T.lC,(by show 6<1000;decide),?_⟩;rw[show cj "armed" (V.int iv16) ([("wide",V.int (wide:Nat)),("high",V.int (high:Nat)),("ground",V.ref q_ground),("start",V.ref q_start),("first",V.int iv12),("slides",V.int iv14)]:List (Str×V))=([("wide",V.int (wide:Nat)),("high",V.int (high:Nat)),("ground",V.ref q_ground),("start",V.ref q_start),("first",V.int iv12),("slides",V.int iv14),("armed",V.int iv16)]:List (Str×V))from cJ (ns:=["wide","high","ground","start","first","slides"]) rfl (by decide+kernel)];have D16s:=D16.set (fs':=([("wide",V.int (wide:Nat)),("high",V.int (high:Nat)),("ground",V.ref q_ground),("start",V.ref q_start),("first",V.int iv12),("slides",V.int iv14),("armed",V.int iv16)]:List (Str×V)));clear D16;refine⟨_,rfl,r,rx,_,rfl,D16s.rd.ins,rfl,c8 (z:=" ") D16s k16 λH1 n17 D17 k17=>?_⟩;clear D16s k16;refine⟨_,rfl,r,rx,_,rfl,D17.rd.ins,rfl,(by rw[O2];show 2<=_;omega),λwt ow nw tw=>gE (ws:=Ap) zZ (.inl (.inr ⟨ow,ai⟩)) (.inl ⟨ow,_,ai,tw⟩) (D17.new nw) k17 λH1 n18 iv18 D18 k18=>?_⟩;clear D17 k17;refine⟨_,rfl,x,_,dx,_,rfl,D18.xi,T.aw.cl,T.mC,(by show 7<1000;decide),?_⟩;rw[show cj "four" (V.int iv18) ([("wide",V.int (wide:Nat)),("high",V.int (high:Nat)),("ground",V.ref q_ground),("start",V.ref q_start),("first",V.int iv12),("slides",V.int iv14),("armed",V.int iv16)]:List (Str×V))=([("wide",V.int (wide:Nat)),("high",V.int (high:Nat)),("ground",V.ref q_ground),("start",V.ref q_start),("first",V.int iv12),("slides",V.int iv14),("armed",V.int iv16),("four",V.int iv18)]:List (Str×V))from cJ (ns:=["wide","high","ground","start","first","slides","armed"]) rfl (by decide+kernel)];have D18s:=D18.set (fs':=([("wide",V.int (wide:Nat)),("high",V.int (high:Nat)),("ground",V.ref q_ground),("start",V.ref q_start),("first",V.int iv12),("slides",V.int iv14),("armed",V.int iv16),("four",V.int iv18)]:List (Str×V)));clear D18;refine⟨_,rfl,r,rx,_,rfl,D18s.rd.ins,rfl,c8 (z:="\nseat ") D18s k18 λH1 n19 D19 k19=>?_⟩;clear D18s k18;refine⟨_,rfl,r,rx,_,rfl,D19.rd.ins,rfl,(by rw[O2];show 2<=_;omega),λwt ow nw tw=>gE (ws:=tE) u5 (.inl (.inr ⟨ow,ai⟩)) (.inl ⟨ow,_,ai,tw⟩) (D19.new nw) k19 λH1 n20 iv20 D20 k20=>?_⟩;clear D19 k19;refine⟨_,rfl,x,_,dx,_,rfl,D20.xi,T.aw.cl,T.gQ,(by show 8<1000;decide),?_⟩;rw[show cj "passed" (V.int iv20) ([("wide",V.int (wide:Nat)),("high",V.int (high:Nat)),("ground",V.ref q_ground),("start",V.ref q_start),("first",V.int iv12),("slides",V.int iv14),("armed",V.int iv16),("four",V.int iv18)]:List (Str×V))=([("wide",V.int (wide:Nat)),("high",V.int (high:Nat)),("ground",V.ref q_ground),("start",V.ref q_start),("first",V.int iv12),("slides",V.int iv14),("armed",V.int iv16),("four",V.int iv18),("passed",V.int iv20)]:List (Str×V))from cJ (ns:=["wide","high","ground","start","first","slides","armed","four"]) rfl (by decide+kernel)];have D20s:=D20.set (fs':=([("wide",V.int (wide:Nat)),("high",V.int (high:Nat)),("ground",V.ref q_ground),("start",V.ref q_start),("first",V.int iv12),("slides",V.int iv14),("armed",V.int iv16),("four",V.int iv18),("passed",V.int iv20)]:List (Str×V)));clear D20;refine⟨_,rfl,r,rx,_,rfl,D20s.rd.ins,rfl,c8 (z:=" ") D20s k20 λH1 n21 D21 k21=>?_⟩;clear D20s k20;refine⟨_,rfl,r,rx,_,rfl,D21.rd.ins,rfl,gE (ws:=wm) r9 (T.wM _) (.inr T.xu) D21 k21 λH1 n22 iv22 D22 k22=>?_⟩;clear D21 k21;refine⟨_,rfl,x,_,dx,_,rfl,D22.xi,T.aw.cl,T.iT,(by show 9<1000;decide),?_⟩;rw[show cj "seat" (V.int iv22) ([("wide",V.int (wide:Nat)),("high",V.int (high:Nat)),("ground",V.ref q_ground),("start",V.ref q_start),("first",V.int iv12),("slides",V.int iv14),("armed",V.int iv16),("four",V.int iv18),("passed",V.int iv20)]:List (Str×V))=([("wide",V.int (wide:Nat)),("high",V.int (high:Nat)),("ground",V.ref q_ground),("start",V.ref q_start),("first",V.int iv12),("slides",V.int iv14),("armed",V.int iv16),("four",V.int iv18),("passed",V.int iv20),("seat",V.int iv22)]:List (Str×V))from cJ (ns:=["wide","high","ground","start","first","slides","armed","four","passed"]) rfl (by decide+kernel)];have D22s:=D22.set (fs':=([("wide",V.int (wide:Nat)),("high",V.int (high:Nat)),("ground",V.ref q_ground),("start",V.ref q_start),("first",V.int iv12),("slides",V.int iv14),("armed",V.int iv16),("four",V.int iv18),("passed",V.int iv20),("seat",V.int iv22)]:List (Str×V)));clear D22;refine⟨_,rfl,r,rx,_,rfl,D22s.rd.ins,rfl,c8 (z:="\nexits ") D22s k22 λH1 n23 D23 k23=>?_⟩;clear D22s k22;refine⟨_,rfl,r,rx,_,rfl,D23.rd.ins,rfl,gE (ws:=wm) r9 (T.wM _) (.inr T.xu) D23 k23 λH1 n24 iv24 D24 k24=>?_⟩;clear D23 k23;refine⟨_,rfl,x,_,dx,_,rfl,D24.xi,T.aw.cl,T.lM,(by show 10<1000;decide),?_⟩;rw[show cj "exits" (V.int iv24) ([("wide",V.int (wide:Nat)),("high",V.int (high:Nat)),("ground",V.ref q_ground),("start",V.ref q_start),("first",V.int iv12),("slides",V.int iv14),("armed",V.int iv16),("four",V.int iv18),("passed",V.int iv20),("seat",V.int iv22)]:List (Str×V))=([("wide",V.int (wide:Nat)),("high",V.int (high:Nat)),("ground",V.ref q_ground),("start",V.ref q_start),("first",V.int iv12),("slides",V.int iv14),("armed",V.int iv16),("four",V.int iv18),("passed",V.int iv20),("seat",V.int iv22),("exits",V.int iv24)]:List (Str×V))from cJ (ns:=["wide","high","ground","start","first","slides","armed","four","passed","seat"]) rfl (by decide+kernel)];have D24s:=D24.set (fs':=([("wide",V.int (wide:Nat)),("high",V.int (high:Nat)),("ground",V.ref q_ground),("start",V.ref q_start),("first",V.int iv12),("slides",V.int iv14),("armed",V.int iv16),("four",V.int iv18),("passed",V.int iv20),("seat",V.int iv22),("exits",V.int iv24)]:List (Str×V)));clear D24;refine⟨_,rfl,r,rx,_,rfl,D24s.rd.ins,rfl,c8 (z:="\ngoal ") D24s k24 λH1 n25 D25 k25=>?_⟩;clear D24s k24;refine⟨_,rfl,r,_,_,_,_,rfl,D25.rd.ins,T.aD.cl,T.bL,rfl,_,rfl,x,_,dx,_,rfl,D25.xi,T.aw.cl,T.eJ,(by show 11<1000;decide),?_⟩;rw[show cj "goal_place" (V.int (n25:Nat)) ([("wide",V.int (wide:Nat)),("high",V.int (high:Nat)),("ground",V.ref q_ground),("start",V.ref q_start),("first",V.int iv12),("slides",V.int iv14),("armed",V.int iv16),("four",V.int iv18),("passed",V.int iv20),("seat",V.int iv22),("exits",V.int iv24)]:List (Str×V))=([("wide",V.int (wide:Nat)),("high",V.int (high:Nat)),("ground",V.ref q_ground),("start",V.ref q_start),("first",V.int iv12),("slides",V.int iv14),("armed",V.int iv16),("four",V.int iv18),("passed",V.int iv20),("seat",V.int iv22),("exits",V.int iv24),("goal_place",V.int (n25:Nat))]:List (Str×V))from cJ (ns:=["wide","high","ground","start","first","slides","armed","four","passed","seat","exits"]) rfl (by decide+kernel)];have D25s:=D25.set (fs':=([("wide",V.int (wide:Nat)),("high",V.int (high:Nat)),("ground",V.ref q_ground),("start",V.ref q_start),("first",V.int iv12),("slides",V.int iv14),("armed",V.int iv16),("four",V.int iv18),("passed",V.int iv20),("seat",V.int iv22),("exits",V.int iv24),("goal_place",V.int (n25:Nat))]:List (Str×V)));clear D25;rw[CH]at k25;refine⟨_,rfl,r,rx,_,rfl,D25s.rd.ins,rfl,(by rw[O2];show 2<=_;omega),λwt ow nw tw=>gE (ws:=AC) zF (.inl (.inr ⟨ow,ai⟩)) (.inl ⟨ow,_,ai,tw⟩) (D25s.new nw) k25 λH1 n26 iv26 D26 k26=>?_⟩;clear D25s k25;refine⟨_,rfl,x,_,dx,_,rfl,D26.xi,T.aw.cl,T.i_,(by show 12<1000;decide),?_⟩;rw[show cj "goal" (V.int iv26) ([("wide",V.int (wide:Nat)),("high",V.int (high:Nat)),("ground",V.ref q_ground),("start",V.ref q_start),("first",V.int iv12),("slides",V.int iv14),("armed",V.int iv16),("four",V.int iv18),("passed",V.int iv20),("seat",V.int iv22),("exits",V.int iv24),("goal_place",V.int (n25:Nat))]:List (Str×V))=([("wide",V.int (wide:Nat)),("high",V.int (high:Nat)),("ground",V.ref q_ground),("start",V.ref q_start),("first",V.int iv12),("slides",V.int iv14),("armed",V.int iv16),("four",V.int iv18),("passed",V.int iv20),("seat",V.int iv22),("exits",V.int iv24),("goal_place",V.int (n25:Nat)),("goal",V.int iv26)]:List (Str×V))from cJ (ns:=["wide","high","ground","start","first","slides","armed","four","passed","seat","exits","goal_place"]) rfl (by decide+kernel)];have D26s:=D26.set (fs':=([("wide",V.int (wide:Nat)),("high",V.int (high:Nat)),("ground",V.ref q_ground),("start",V.ref q_start),("first",V.int iv12),("slides",V.int iv14),("armed",V.int iv16),("four",V.int iv18),("passed",V.int iv20),("seat",V.int iv22),("exits",V.int iv24),("goal_place",V.int (n25:Nat)),("goal",V.int iv26)]:List (Str×V)));clear D26;refine⟨_,rfl,r,rx,_,rfl,D26s.rd.ins,rfl,c8 (z:="\nthrice ") D26s k26 λH1 n27 D27 k27=>?_⟩;clear D26s k26;refine⟨_,rfl,r,rx,_,rfl,D27.rd.ins,rfl,(by rw[O2];show 3<=_;omega),λwt ow nw tw=>gE (ws:=tj) uI (.inl (.inr ⟨ow,ai⟩)) (.inl ⟨ow,_,ai,tw⟩) (D27.new nw) k27 λH1 n28 iv28 D28 k28=>?_⟩;clear D27 k27;refine⟨_,rfl,x,_,dx,_,rfl,D28.xi,T.aw.cl,T.kb,(by show 13<1000;decide),?_⟩;rw[show cj "thrice" (V.int iv28) ([("wide",V.int (wide:Nat)),("high",V.int (high:Nat)),("ground",V.ref q_ground),("start",V.ref q_start),("first",V.int iv12),("slides",V.int iv14),("armed",V.int iv16),("four",V.int iv18),("passed",V.int iv20),("seat",V.int iv22),("exits",V.int iv24),("goal_place",V.int (n25:Nat)),("goal",V.int iv26)]:List (Str×V))=([("wide",V.int (wide:Nat)),("high",V.int (high:Nat)),("ground",V.ref q_ground),("start",V.ref q_start),("first",V.int iv12),("slides",V.int iv14),("armed",V.int iv16),("four",V.int iv18),("passed",V.int iv20),("seat",V.int iv22),("exits",V.int iv24),("goal_place",V.int (n25:Nat)),("goal",V.int iv26),("thrice",V.int iv28)]:List (Str×V))from cJ (ns:=["wide","high","ground","start","first","slides","armed","four","passed","seat","exits","goal_place","goal"]) rfl (by decide+kernel)];have D28s:=D28.set (fs':=([("wide",V.int (wide:Nat)),("high",V.int (high:Nat)),("ground",V.ref q_ground),("start",V.ref q_start),("first",V.int iv12),("slides",V.int iv14),("armed",V.int iv16),("four",V.int iv18),("passed",V.int iv20),("seat",V.int iv22),("exits",V.int iv24),("goal_place",V.int (n25:Nat)),("goal",V.int iv26),("thrice",V.int iv28)]:List (Str×V)));clear D28;refine⟨_,rfl,r,rx,_,rfl,D28s.rd.ins,rfl,c8 (z:="\nlimit ") D28s k28 λH1 n29 D29 k29=>?_⟩;clear D28s k28;refine⟨_,rfl,wB (λp h=>Jv h) D29 k29 λH1 n30 iv30 h1 D30 k30=>?_⟩;clear D29 k29 h1;refine⟨_,rfl,x,_,dx,_,rfl,D30.xi,T.aw.cl,T.lu,(by show 14<1000;decide),?_⟩;rw[show cj "limit" (V.int iv30) ([("wide",V.int (wide:Nat)),("high",V.int (high:Nat)),("ground",V.ref q_ground),("start",V.ref q_start),("first",V.int iv12),("slides",V.int iv14),("armed",V.int iv16),("four",V.int iv18),("passed",V.int iv20),("seat",V.int iv22),("exits",V.int iv24),("goal_place",V.int (n25:Nat)),("goal",V.int iv26),("thrice",V.int iv28)]:List (Str×V))=([("wide",V.int (wide:Nat)),("high",V.int (high:Nat)),("ground",V.ref q_ground),("start",V.ref q_start),("first",V.int iv12),("slides",V.int iv14),("armed",V.int iv16),("four",V.int iv18),("passed",V.int iv20),("seat",V.int iv22),("exits",V.int iv24),("goal_place",V.int (n25:Nat)),("goal",V.int iv26),("thrice",V.int iv28),("limit",V.int iv30)]:List (Str×V))from cJ (ns:=["wide","high","ground","start","first","slides","armed","four","passed","seat","exits","goal_place","goal","thrice"]) rfl (by decide+kernel)];have D30s:=D30.set (fs':=([("wide",V.int (wide:Nat)),("high",V.int (high:Nat)),("ground",V.ref q_ground),("start",V.ref q_start),("first",V.int iv12),("slides",V.int iv14),("armed",V.int iv16),("four",V.int iv18),("passed",V.int iv20),("seat",V.int iv22),("exits",V.int iv24),("goal_place",V.int (n25:Nat)),("goal",V.int iv26),("thrice",V.int iv28),("limit",V.int iv30)]:List (Str×V)));clear D30;refine⟨_,rfl,r,rx,_,rfl,D30s.rd.ins,rfl,c8 (z:="\n") D30s k30 λH1 n31 D31 k31=>?_⟩;clear D30s k30;refine⟨_,rfl,r,rx,_,rfl,D31.rd.ins,rfl,?_⟩;dsimp only[rN,Qt];refine GW D31 k31 λk32=>?_;clear k31;refine⟨_,rfl,r,_,_,_,_,rfl,D31.rd.ins,T.aD.cl,T.bL,rfl,_,rfl,x,_,dx,_,rfl,D31.xi,T.aw.cl,T.bI,(by show 15<1000;decide),?_⟩;rw[show cj "end_place" (V.int (n31:Nat)) ([("wide",V.int (wide:Nat)),("high",V.int (high:Nat)),("ground",V.ref q_ground),("start",V.ref q_start),("first",V.int iv12),("slides",V.int iv14),("armed",V.int iv16),("four",V.int iv18),("passed",V.int iv20),("seat",V.int iv22),("exits",V.int iv24),("goal_place",V.int (n25:Nat)),("goal",V.int iv26),("thrice",V.int iv28),("limit",V.int iv30)]:List (Str×V))=([("wide",V.int (wide:Nat)),("high",V.int (high:Nat)),("ground",V.ref q_ground),("start",V.ref q_start),("first",V.int iv12),("slides",V.int iv14),("armed",V.int iv16),("four",V.int iv18),("passed",V.int iv20),("seat",V.int iv22),("exits",V.int iv24),("goal_place",V.int (n25:Nat)),("goal",V.int iv26),("thrice",V.int iv28),("limit",V.int iv30),("end_place",V.int (n31:Nat))]:List (Str×V))from cJ (ns:=["wide","high","ground","start","first","slides","armed","four","passed","seat","exits","goal_place","goal","thrice","limit"]) rfl (by decide+kernel)];have D31s:=D31.set (fs':=([("wide",V.int (wide:Nat)),("high",V.int (high:Nat)),("ground",V.ref q_ground),("start",V.ref q_start),("first",V.int iv12),("slides",V.int iv14),("armed",V.int iv16),("four",V.int iv18),("passed",V.int iv20),("seat",V.int iv22),("exits",V.int iv24),("goal_place",V.int (n25:Nat)),("goal",V.int iv26),("thrice",V.int iv28),("limit",V.int iv30),("end_place",V.int (n31:Nat))]:List (Str×V)));clear D31;refine k32 _ q_ground q_start L_ground L_start D31s.fx ⟨D31s.xi,?_,rfl,?_,rfl⟩
 ·exact(p_ground.NJ f_start i_ground r_ground).NJ D31s.fx i_start r_start
 ·exact p_start.NJ D31s.fx i_start r_start
def fh.at_{H:Hp}{q:Addr}{L:List (Addr×Nat×Nat)}{i:Nat}{x:V}(h:fh H q L)(hx:(L.map λ(e:Addr×Nat×Nat)=>V.ref e.1)[i]? =some x):∃b m n,L[i]? =some (b,m,n)/\x=.ref b/\H b=some (.tup [.int (m:Nat),.int (n:Nat)]):=by
 rw[Ph]at hx;cases e:L[i]? with
 |none=>rw[e]at hx;cases hx
 |some p=>
  rw[e]at hx;cases hx;obtain⟨b,m,n⟩:=p;exact⟨b,m,n,rfl,rfl,h.t _ (Pw e)⟩
def Ac{L:List (Addr×Nat×Nat)}{l:List (Nat×Nat)}{i:Nat}{b:Addr}{m n:Nat}(e:L.map (·.2)=l)(h:L[i]? =some (b,m,n)):l[i]? =some (m,n):=by
 rw[<-e,Ph,h];rfl
def oC(wide high:Nat)(l:List (Nat×Nat))(e:Int):List Int:=((bt wide high).zip l).foldl (λ(q:List Int)(p:Int×Nat×Nat)=>q.set p.1.toNat ((p.2.2:Nat):Int)) (List.replicate 169 e)
def EC{wide high:Nat}{v:Int}(hw:wide<=13)(hh:high<=13)(h:v∈bt wide high):∃n:Nat,v=(n:Nat)/\n<169:=by
 unfold bt at h;obtain⟨y,hy,hv⟩:=Qn.mp h;obtain⟨x,hx,rfl⟩:=Pg.mp hv;have hy:=Pl.mp hy;have hx:=Pl.mp hx;exact⟨13*(high-1-y)+x,rfl,by omega⟩
def ot:∀(l:List (Int×Nat×Nat))(q:List Int),(l.foldl (λ(q:List Int)(p:Int×Nat×Nat)=>q.set p.1.toNat ((p.2.2:Nat):Int)) q).length=q.length
 |[],_=>rfl
 |p::l,q=>by
  rw[QB,ot l,QN]
def Ge{α:Type}(e:α)(i:Nat):List.replicate (i+1) e=List.replicate i e++[e]:=Ry
def K0(a:Ad):Sp:=λvs H Q _=>∃(x dx gq sq q:Addr)(d:DR)(L:List (Addr×Nat×Nat))(e:Int),vs=[.ref x,.ref q,.int e]/\H x=some (.ins a.aO dx (On gq sq d))/\fh H q L/\d.wide<=13/\d.high<=13/\∀H' p,aE H H'->H p=none->H' p=some (.lst ((oC d.wide d.high (L.map (·.2)) e).map V.int))->Q (.ref p) H'
def jU:aB ["draft","told","elsewhere","laid","cell","sign"] ["draft","told","elsewhere"] (ao (top 83)):=aR
def uJ(T:Tx K mg a):a4 P w K mg base (cX P w) 2 a.js a.xJ ["draft","told","elsewhere"] (K0 a):=by
 refine T.js.F.lL jU λcdv A outer s H vs Q E hr h=>?_;obtain⟨x,dx,gq,sq,q,d,L,e,rfl,hx,hq,bw,bh,k⟩:=h;refine⟨_,(ae (sF (i:=3) (own:=[("cell",4)]) rfl jU.nd rfl rfl rfl (dP rfl T.g_ (aa (mT T.Au) ah)) (cq rfl) (λ_ _ _ _ _=>(kR 4 jU.nd)) (λ_ _ _ _ _=>d8) (λ_ _ _ _ _=>(pv 2))) (ae (dL Ql rfl (FQ rfl T.JR (aa (dn T.ca (fP T) hr aK (aa (ay (pv 0) rfl) (aa (ay (pv 0) rfl) ah))) (aa (pv 1) ah))) (um rfl (fi (kR 4 jU.nd) (fi (kR 5 jU.nd) qB))) (aj (yh (bj jo (pv 5) az (λ_ _=>rfl)) (xz (pv 3) (pv 4) set_list (λ_=>rfl))))) (aj (aF (pv 3))))),?_⟩;refine⟨_,rfl,(by omega),(by omega),λD hD=>iJ (J:=EN 0 169) (n:=169) (λj=>List.replicate j (V.int e)) hD rfl (λj H h _=>h) (λH _=>OZ _) (λj H' hj s2 e2 y H2 hy=>?_) λH1 s1 h1=>?_⟩
 ·obtain⟨rfl,rfl⟩:=hy
  refine⟨rfl,_,rfl,?_⟩;exact Got.of hD s2 e2 (aE.refl _) (by rw[PP];omega) (Ge _ _)
 ·have x1:=s1 _ _ hx
  have q1:=hq.same s1;refine⟨_,rfl,x,_,_,_,_,rfl,x1,T.aw.cl,T.cy,rfl,_,rfl,x,_,_,_,_,rfl,x1,T.aw.cl,T.cw,rfl,d.wide,d.high,rfl,bw,bh,λH2 p s2 np h2=>⟨_,rfl,p,q,_,_,rfl,a0.of h2,a0.of (q1.same s2).l,?_⟩⟩;have nD:H D=none:=hD;have qD:q≠D:=au hq.l nD;have hlen:((bt d.wide d.high).zip (L.map (·.2))).length=min (bt d.wide d.high).length L.length:=by rw[Q5,OU]
  refine tI (J:=M9 K p q) (n:=min (bt d.wide d.high).length L.length) (λi σ H'=>∃u v,σ=[some (.ref x),some (.ref q),some (.int e),some (.ref D),u,v]/\aE H H'/\fh H' q L/\H' p=some (.lst ((bt d.wide d.high).map V.int))/\H' D=some (.lst (((((bt d.wide d.high).zip (L.map (·.2))).take i).foldl (λ(q:List Int)(p:Int×Nat×Nat)=>q.set p.1.toNat ((p.2.2:Nat):Int)) (List.replicate 169 e)).map V.int))) ⟨_,_,rfl,s1.trans s2,q1.same s2,h2,?_⟩ (λi σ H3 hi⟨u,v,es,s3,q3,p3,d3⟩=>?_) (λσ H3⟨u,v,es,s3,q3,p3,d3⟩=>?_) (λi σ H3 hi⟨u,v,es,s3,q3,p3,d3⟩ y H4 hy=>?_) λσ H3⟨u,v,es,s3,q3,p3,d3⟩=>?_
  ·rw[s2 _ _ h1,List.take_zero,List.foldl_nil,List.map_replicate]
  ·have i1:i<(bt d.wide d.high).length:=by omega
   have i2:i<L.length:=by omega
   exact⟨_,_,V.int ((bt d.wide d.high)[i]'i1),V.ref (L[i]'i2).1,a0.of p3,a0.of q3.l,by simp,by rw[Ph,OY i2];rfl⟩
  ·refine⟨_,_,a0.of p3,a0.of q3.l,?_⟩
   rw[OU,OU];omega
  ·subst es
   obtain⟨t,vx,vy,rfl,nt,rfl,hvx,hvy⟩:=hy;obtain⟨cv,hc,rfl⟩:=int_at (hvx _ (a0.of p3));obtain⟨b,m,n,hb,rfl,tb⟩:=q3.at_ (hvy _ (a0.of q3.l));obtain⟨c,rfl,c1⟩:=EC bw bh (Pw hc);have S4:=aC (o:= .tup [V.int (c:Nat),.ref b]) nt;have tD:D≠t:=au d3 nt;refine⟨t,_,rfl,iV.of ai,rfl,_,_,rfl,_,_,rfl,rfl,?_⟩;have hz:((bt d.wide d.high).zip (L.map (·.2)))[i]? =some (((c:Nat):Int),m,n):=by
    rw[Ra];exact⟨hc,by rw[Ph,hb];rfl⟩
   refine⟨_,rfl,b,_,_,_,rfl,rfl,iV.of (S4 _ _ tb),at_of (j:=1) rfl rfl,_,rfl,_,rfl,D,_,_,c,rfl,rfl,S4 _ _ d3,zY (by rw[OU,ot,PP];exact c1),_,_,rfl,cY nD (s3.trans S4),?_,?_,?_⟩
   ·have q4:=q3.same S4
    exact⟨by rw[ak qD];exact q4.l,λe he=>by rw[ak (bf (q4.t e he) (S4 _ _ d3) λz=>nomatch z)];exact q4.t e he⟩
   ·rw[ak (λz=>?_)]
    ·exact S4 _ _ p3
    ·rw[z]at np
     rw[h1]at np;cases np
   ·rw[ai,FS,Qs,hz,List.foldl_append]
    rfl
  ·subst es
   refine⟨_,rfl,k H3 D s3 nD ?_⟩;rw[d3,<-hlen,PB (OZ _)];rfl
def jy(l:List (Nat×Nat))(v:Int):Bool:=l.any λ(p:Nat×Nat)=>decide (((p.2:Nat):Int)=v)
def IZ(a:Ad):Sp:=λvs H Q _=>∃(q:Addr)(L:List (Addr×Nat×Nat))(v:Int),vs=[.ref q,.int v]/\fh H q L/\L.length<=1000/\∀H',aE H H'->Q (.bl (jy (L.map (·.2)) v)) H'
def wL:aB ["told","sought","sign"] ["told","sought"] (ao (top 86)):=aR
def tQ(T:Tx K mg a):a4 P w K mg base (cX P w) 1 a.l_ a.DF ["told","sought"] (IZ a):=by
 refine T.l_.F.lL wL λcdv A outer s H vs Q E hr h=>?_;obtain⟨q,L,v,rfl,hq,hL,k⟩:=h;refine⟨_,(aj (aF (bu (CB rfl) rfl T.Hj (by decide+kernel) (aa (lS (own:=[("sign",2)]) rfl wL.nd (cP (pv 0)) (cq rfl) (λ_ _ _ _ _=>(kR 2 wL.nd)) (λ_ _ _ _ _=>d8) (λ_ _ _ _ _=>(dY bQ (bj (v_ K rfl) (pv 2) az (λ_ _=>rfl)) (pv 1) (aJ _)))) ah)))),?_⟩;refine⟨_,rfl,q,rfl,⟨_,a0.of hq.l⟩,λD hD=>iJ (J:=De K q) (n:=L.length) (λi=>((L.take i).map λ(e:Addr×Nat×Nat)=>V.bl (decide (((e.2.2:Nat):Int)=v)))) hD rfl (λi H hi s=>⟨_,_,a0.of (s _ _ hq.l),by rw[Ph,OY hi];rfl⟩) (λH s=>⟨_,a0.of (s _ _ hq.l),by rw[OU];exact OZ _⟩) (λi H' hi s1 e1 y H2 hy=>?_) λH' s1 e1=>?_⟩
 ·obtain⟨rfl,hy⟩:=hy
  obtain⟨b,m,n,hb,rfl,tb⟩:=(hq.same s1).at_ (hy _ (a0.of (s1 _ _ hq.l)));refine⟨rfl,_,rfl,b,_,_,_,rfl,rfl,iV.of tb,at_of (j:=1) rfl rfl,_,rfl,rfl,?_⟩;rw[g9];exact Got.of hD s1 e1 (aE.refl _) (by rw[OU,PK];omega) (pP _ hb)
 ·refine⟨D,(L.map λ(e:Addr×Nat×Nat)=>decide (((e.2.2:Nat):Int)=v)),rfl,?_,?_⟩
  ·refine .inl (.inl ?_)
   rw[e1,Qa,PB (OZ _)];rfl
  ·have e:(L.map λ(e:Addr×Nat×Nat)=>decide (((e.2.2:Nat):Int)=v)).any id=jy (L.map (·.2)) v:=by
    unfold jy;rw[QT,QT];rfl
   rw[e];exact k H' s1
def A6(a:Ad)(H:Hp)(kd pl:Nat)(E:XK):Prop:=∀(H':Hp)(e d:Addr)(cx:Bool),aE H H'->H' e=some (XO e a.bF (some d) cx)->H' d=some (XD d [("kind",.int (kd:Nat)),("place",.int (pl:Nat))])->E (.ref a.bF) (some e) H'
def A6.mono{H H1:Hp}{kd pl:Nat}{E:XK}(h:A6 a H kd pl E)(s:aE H H1):A6 a H1 kd pl E:=λH' e d cx q=>h H' e d cx (s.trans q)
def mP{H H1:Hp}{kd pl:Nat}{E:XK}{cx:Bool}(h:A6 a H kd pl E)(s:aE H H1)(e d:Addr)(n1:H1 e=none)(n2:H1 d=none)(n3:d≠e):E (.ref a.bF) (some e) (upd (upd H1 d (XD d [("kind",.int (kd:Nat)),("place",.int (pl:Nat))])) e (XO e a.bF (some d) cx)):=
 h _ e d cx (s.trans ((aC n2).trans (aC (by rw[ak (Pb n3)];exact n1)))) ai (by rw[ak n3,ai])
def xM:List (Nat×Nat)->Nat->Option Nat
 |[],_=>none
 |(p,kd)::l,s=>if 1<(if kd=1 then s+1 else s)then some p else xM l (if kd=1 then s+1 else s)
def NG(a:Ad):Sp:=λvs H Q E=>∃(x dx gq sq:Addr)(d:DR)(L1 L2:List (Addr×Nat×Nat)),vs=[.ref x]/\DA a H x dx gq sq d L1 L2/\(match xM d.ground 0 with
 |none=>Q .eC H
 |some p=>A6 a H 2 p E)
def ft:aB ["draft","seats","place","kind"] ["draft"] (ao (top 84)):=aR
def vC(T:Tx K mg a):a4 P w K mg base (cX P w) 1 a.gh a.oW ["draft"] (NG a):=by
 refine T.gh.F.oQ ft λcdv A outer s H vs Q E hr h=>?_;obtain⟨x,dx,gq,sq,d,L1,L2,rfl,Dt,k⟩:=h;refine⟨_,(ae (eV 1 ft.nd az) (aj (dL Qh rfl (cP (ay (pv 0) rfl)) (um rfl (fi (kR 2 ft.nd) (fi (kR 3 ft.nd) qB))) (ae (bG (aI bQ (pv 3) (mT T.Ae) (aJ _)) (aj (GN 1 ft.nd az t7)) aW) (aj (bG (aI oJ (pv 1) az (aJ _)) (aj (gb aA hr.hd T.eY (b_ T) T.bg.b (hr.d1) rfl T.bE.m (aa az (aa (pv 2) ah)))) aW)))))),?_⟩;refine⟨_,rfl,x,_,_,_,_,rfl,Dt.ins,T.aw.cl,T.bS,rfl,gq,rfl,⟨_,a0.of Dt.g.l⟩,?_⟩;refine gm (xs:=L1.map λ(e:Addr×Nat×Nat)=>V.ref e.1) (λi σ H'=>∃(s:Nat)(u v:Option V),σ=[some (.ref x),some (.int (s:Nat)),u,v]/\H'=H/\xM d.ground 0=xM (d.ground.drop i) s) ⟨0,_,_,rfl,rfl,rfl⟩ (λi σ H1 _⟨s,u,v,e,e1,_⟩=>by rw[e1];exact a0.of Dt.g.l) (λi y σ H1 hy⟨s,u,v,e,e1,hs⟩=>?_) λσ H1⟨s,u,v,e,e1,hs⟩=>?_
 ·subst e e1
  obtain⟨b,m,n,hb,rfl,tb⟩:=Dt.g.at_ hy;have hd:=Ac Dt.ge hb;obtain⟨hi,ei⟩:=O6.mp hd;rw[Qr hi,ei]at hs;refine⟨b,_,rfl,iV.of tb,rfl,_,_,rfl,_,_,rfl,rfl,?_⟩;have fin:∀s':Nat,s'=(if n=1 then s+1 else s)->∀H2,H2=H1->(xM d.ground 0=if 1<s' then some m else xM (d.ground.drop (i+1)) s'):=λs' e H2 _=>by
   rw[hs,e];rfl
  refine⟨_,rfl,rfl,_,rfl,dH (λh1=>⟨_,rfl,_,_,rfl,rfl,?_⟩) λh1=>?_⟩
  ·have f:=fin (s+1) (by rw[OW (by omega)]) H1 rfl
   refine⟨_,rfl,_,_,rfl,rfl,_,rfl,gD (λh2=>?_) λh2=>?_⟩
   ·have h2:(((s+1):Nat):Int)>1:=O7 h2
    rw[OW (by omega)]at f;rw[f]at k;exact⟨_,rfl,rfl,(by show 2<=1000;decide),λe d n1 n2 n3=>mP k (aE.refl _) e d n1 n2 n3⟩
   ·have h2:¬(((s+1):Nat):Int)>1:=λz=>h2 (O0 z)
    rw[OV (by omega)]at f;exact⟨s+1,_,_,rfl,rfl,f⟩
  ·have f:=fin (s) (by rw[OV (by omega)]) H1 rfl
   refine⟨_,rfl,_,_,rfl,rfl,_,rfl,gD (λh2=>?_) λh2=>?_⟩
   ·have h2:(((s):Nat):Int)>1:=O7 h2
    rw[OW (by omega)]at f;rw[f]at k;exact⟨_,rfl,rfl,(by show 2<=1000;decide),λe d n1 n2 n3=>mP k (aE.refl _) e d n1 n2 n3⟩
   ·have h2:¬(((s):Nat):Int)>1:=λz=>h2 (O0 z)
    rw[OV (by omega)]at f;exact⟨s,_,_,rfl,rfl,f⟩
 ·subst e e1
  have:d.ground.drop (L1.map λ(e:Addr×Nat×Nat)=>V.ref e.1).length=[]:=by
   rw[<-Dt.ge];simp
  rw[this]at hs;rw[hs]at k;exact k
structure JU(d:DR):Prop where
 w:d.wide<=13
 h:d.high<=13
 w5:5<=d.wide
 h5:5<=d.high
 gv:∀p∈d.ground,p.2<4
 sv:∀p∈d.start,p.2<4
 gl:d.ground.length=d.wide*d.high
 sl:d.start.length=d.wide*d.high
 f:d.first=0\/d.first=1
def dF(d:DR):R0:={wide:=d.wide,high:=d.high,slides:=d.slides,armed:=d.armed,four:=d.four,passed:=d.passed,seat:=d.seat,exits:=d.exits,goal:=d.goal,thrice:=d.thrice,limit:=d.limit,ground:=oC d.wide d.high d.ground 3,start:=oC d.wide d.high d.start 0,first:=d.first}
def Bn(wide high:Nat)(l:List (Nat×Nat))(e:Int):(oC wide high l e).length=169:=by
 unfold oC;rw[ot,PP]
def sh:∀(l:List (Int×Nat×Nat))(q:List Int),(∀p∈l,p.2.2<4)->(∀c,0<=q.getD c 0/\q.getD c 0<=3)->∀c,0<=(l.foldl (λ(q:List Int)(p:Int×Nat×Nat)=>q.set p.1.toNat ((p.2.2:Nat):Int)) q).getD c 0/\(l.foldl (λ(q:List Int)(p:Int×Nat×Nat)=>q.set p.1.toNat ((p.2.2:Nat):Int)) q).getD c 0<=3
 |[],_,_,h=>h
 |p::l,q,hl,h=>by
  rw[QB];refine sh l _ (λp' hp=>hl p' (Pa _ hp)) λc=>?_;rw[k_];have:=hl p O8;split
  ·exact⟨by omega,by omega⟩
  ·exact h c
def HV{e:Int}(h0:0<=e)(h3:e<=3)(n c:Nat):0<=(List.replicate n e).getD c 0/\(List.replicate n e).getD c 0<=3:=by
 simp only[List.getD,Qv];split
 ·exact⟨h0,h3⟩
 ·exact⟨by decide,by decide⟩
def GJ{wide high:Nat}{l:List (Nat×Nat)}{e:Int}(hl:∀p∈l,p.2<4)(h0:0<=e)(h3:e<=3):rZ (oC wide high l e):=
 ⟨Bn _ _ _ _,sh _ _ (λp hp=>hl p.2 (QA hp).2) (HV h0 h3 169)⟩
def JU.wf{d:DR}(O:JU d):zB (dF d):=⟨O.w,O.h,Bn _ _ _ _,GJ O.sv (by decide) (by decide),O.f⟩
def Jp(n:Nat):(List.range n).map (λi=>n-1-i)=(List.range n).reverse:=by
 rw[List.range_eq_range',List.reverse_range'];refine(QP λi _=>?_).trans (P_ _ List.range_eq_range'.symm);omega
def down_up(wide high:Nat):bt wide high=(List.range high).reverse.flatMap λ(y:Nat)=>(List.range wide).map λ(x:Nat)=>((13*y+x:Nat):Int):=by
 rw[<-Jp,QR];rfl
def vV(wide high:Nat):(u7 wide high).Perm (bt wide high):=by
 rw[down_up];exact List.Perm.flatMap_right _ (List.reverse_perm _).symm
def Fb{wide:Nat}(hw:wide<=13)(high:Nat):(u7 wide high).Pairwise (·<=·):=by
 unfold u7;rw[List.pairwise_flatMap];refine⟨λy _=>?_,?_⟩
 ·rw[QW]
  exact Qx.imp λh=>by omega
 ·refine Qx.imp λh u hu v hv=>?_
  obtain⟨i,hi,rfl⟩:=Pg.mp hu;obtain⟨j,hj,rfl⟩:=Pg.mp hv;have:=Pl.mp hi;omega
def B_{wide high:Nat}{l:List Int}(hw:wide<=13)(hp:l.Perm (bt wide high))(hs:l.Pairwise (·<=·)):l=u7 wide high:=
 List.Perm.eq_of_pairwise (le:=(·<=·)) (λa b _ _ h1 h2=>Int.le_antisymm h1 h2) hs (Fb hw high) (hp.trans (vV wide high).symm)
def ES{wide high:Nat}(hw:wide<=13)(hh:high<=13):(bt wide high).length<=sizeLine:=by
 have:=(vV wide high).length_eq;have:=Ao wide high hw hh;rw[O2];omega
structure EV(a:Ad)(H0 H:Hp)(x dx:Addr)(fs:List (Str×V))(y dy gq sq:Addr)(d:DR)(L1 L2:List (Addr×Nat×Nat)):Prop where
 ex:Ex x H0 H
 xi:H x=some (.ins a.ba dx fs)
 dt:DA a H y dy gq sq d L1 L2
 ne:y≠x
section
variable{a:Ad}{H0 H H':Hp}{x dx:Addr}{fs:List (Str×V)}{y dy gq sq:Addr}{d:DR}{L1 L2:List (Addr×Nat×Nat)}
def DA.ex{C:Addr}(h:DA a H y dy gq sq d L1 L2)(hx:H x=some (.ins C dx fs))(ne:y≠x)(s:Ex x H H'):DA a H' y dy gq sq d L1 L2:=⟨s _ _ h.ins ne,h.g.ex hx s,h.ge,h.s.ex hx s,h.se⟩
def EV.same(S:EV a H0 H x dx fs y dy gq sq d L1 L2)(s:aE H H'):EV a H0 H' x dx fs y dy gq sq d L1 L2:=⟨S.ex.same s,s _ _ S.xi,S.dt.same s,S.ne⟩
def EV.new{q:Addr}{o:HO}(S:EV a H0 H x dx fs y dy gq sq d L1 L2)(n:H q=none):EV a H0 (upd H q o) x dx fs y dy gq sq d L1 L2:=S.same (aC n)
def EV.BQ(S:EV a H0 H x dx fs y dy gq sq d L1 L2):EV a H H x dx fs y dy gq sq d L1 L2:=⟨Ex.refl,S.xi,S.dt,S.ne⟩
def EV.put{f:Str}{v:V}{ns:List Str}(S:EV a H0 H x dx fs y dy gq sq d L1 L2)(e:fs.map (·.1)=ns)(h:ns.contains f=false):EV a H0 (upd H x (.ins a.ba dx (cj f v fs))) x dx (fs++[(f,v)]) y dy gq sq d L1 L2:=
 ⟨S.ex.self,by rw[ai,cJ e h],S.dt.ex S.xi S.ne Ex.refl.self,S.ne⟩
end
structure Jz(H:Hp)(A:RA):Prop where
 cs:H A.cs=none
 wz:H A.wz=none
 gr:H A.gr=none
 sp:H A.sp=none
 ws:∀b∈A.ws,H b=none
def Jz.back{H H':Hp}{A:RA}(h:Jz H' A)(s:aE H H'):Jz H A:=⟨s.free h.cs,s.free h.wz,s.free h.gr,s.free h.sp,λb hb=>s.free (h.ws b hb)⟩
def Ix(a:Ad):Sp:=λvs H Q _=>∃(x dx y dy gq sq:Addr)(d:DR)(L1 L2:List (Addr×Nat×Nat)),vs=[.ref x,.ref y]/\H x=some (.ins a.ba dx [])/\DA a H y dy gq sq d L1 L2/\y≠x/\JU d/\∀H'(A:RA),Ex x H H'->A.x=x->oN a H' A (dF d)->Jz H A->Q .eC H'
def y9:aB ["self","draft"] ["self","draft"] (ao (inClass (top 78) 0)):=aR
def yV(T:Tx K mg a):a4 P w K mg base (cX P w) 3 a.gK a.tR ["self","draft"] (Ix a):=by
 refine T.gK.F.lL y9 λcdv A outer s H vs Q E hr h=>?_;obtain⟨x,dx,y,dy,gq,sq,d,L1,L2,rfl,hx,Dt,ne,O,k⟩:=h;have S0:EV a H H x dx [] y dy gq sq d L1 L2:=⟨Ex.refl,hx,Dt,ne⟩;refine⟨_,(ae (a5 (pv 0) (ay (pv 1) rfl) rfl) (ae (a5 (pv 0) (ay (pv 1) rfl) rfl) (ae (a5 (pv 0) (ay (pv 1) rfl) rfl) (ae (a5 (pv 0) (ay (pv 1) rfl) rfl) (ae (a5 (pv 0) (ay (pv 1) rfl) rfl) (ae (a5 (pv 0) (ay (pv 1) rfl) rfl) (ae (a5 (pv 0) (ay (pv 1) rfl) rfl) (ae (a5 (pv 0) (ay (pv 1) rfl) rfl) (ae (a5 (pv 0) (ay (pv 1) rfl) rfl) (ae (a5 (pv 0) (ay (pv 1) rfl) rfl) (ae (a5 (pv 0) (ay (pv 1) rfl) rfl) (ae (a5 (pv 0) (bu rD rfl T.yB (by decide+kernel) (aa (dn T.ca (fP T) hr aK (aa (ay (pv 1) rfl) (aa (ay (pv 1) rfl) ah))) ah)) rfl) (ae (a5 (pv 0) (dn T.nM (CW T) hr aK (aa (ay (pv 1) rfl) (aa (ay (pv 1) rfl) ah))) rfl) (ae (a5 (pv 0) (dn T.js (uJ T) hr aK (aa (pv 1) (aa (ay (pv 1) rfl) (aa (mT T.CN) ah)))) rfl) (aj (a5 (pv 0) (FB T.rS (jp T) hr T.bR T.b6 aK (aa (dn T.js (uJ T) hr aK (aa (pv 1) (aa (ay (pv 1) rfl) (aa (mT T.i7) ah)))) (aa (ay (pv 1) rfl) ah))) rfl)))))))))))))))),?_⟩;refine⟨_,rfl,y,_,_,_,_,rfl,S0.dt.ins,T.aw.cl,T.cy,rfl,_,rfl,x,_,dx,_,rfl,S0.xi,T.aU.cl,T.gz,(by show 0<1000;decide),?_⟩;have S1:=S0.put (f:="wide") (v:= .int (d.wide:Nat)) (ns:=[]) rfl (by decide+kernel);clear S0;generalize upd _ x (HO.ins a.ba dx (cj "wide" _ _))=H_wide at S1 ⊢;refine⟨_,rfl,y,_,_,_,_,rfl,S1.dt.ins,T.aw.cl,T.cw,rfl,_,rfl,x,_,dx,_,rfl,S1.xi,T.aU.cl,T.iY,(by show 1<1000;decide),?_⟩;have S2:=S1.put (f:="high") (v:= .int (d.high:Nat)) (ns:=["wide"]) rfl (by decide+kernel);clear S1;generalize upd _ x (HO.ins a.ba dx (cj "high" _ _))=H_high at S2 ⊢;refine⟨_,rfl,y,_,_,_,_,rfl,S2.dt.ins,T.aw.cl,T.km,rfl,_,rfl,x,_,dx,_,rfl,S2.xi,T.aU.cl,T.lE,(by show 2<1000;decide),?_⟩;have S3:=S2.put (f:="slides") (v:= .int d.slides) (ns:=["wide","high"]) rfl (by decide+kernel);clear S2;generalize upd _ x (HO.ins a.ba dx (cj "slides" _ _))=H_slides at S3 ⊢;refine⟨_,rfl,y,_,_,_,_,rfl,S3.dt.ins,T.aw.cl,T.lC,rfl,_,rfl,x,_,dx,_,rfl,S3.xi,T.aU.cl,T.mJ,(by show 3<1000;decide),?_⟩;have S4:=S3.put (f:="armed") (v:= .int d.armed) (ns:=["wide","high","slides"]) rfl (by decide+kernel);clear S3;generalize upd _ x (HO.ins a.ba dx (cj "armed" _ _))=H_armed at S4 ⊢;refine⟨_,rfl,y,_,_,_,_,rfl,S4.dt.ins,T.aw.cl,T.mC,rfl,_,rfl,x,_,dx,_,rfl,S4.xi,T.aU.cl,T.si,(by show 4<1000;decide),?_⟩;have S5:=S4.put (f:="four") (v:= .int d.four) (ns:=["wide","high","slides","armed"]) rfl (by decide+kernel);clear S4;generalize upd _ x (HO.ins a.ba dx (cj "four" _ _))=H_four at S5 ⊢;refine⟨_,rfl,y,_,_,_,_,rfl,S5.dt.ins,T.aw.cl,T.gQ,rfl,_,rfl,x,_,dx,_,rfl,S5.xi,T.aU.cl,T.oX,(by show 5<1000;decide),?_⟩;have S6:=S5.put (f:="passed") (v:= .int d.passed) (ns:=["wide","high","slides","armed","four"]) rfl (by decide+kernel);clear S5;generalize upd _ x (HO.ins a.ba dx (cj "passed" _ _))=H_passed at S6 ⊢;refine⟨_,rfl,y,_,_,_,_,rfl,S6.dt.ins,T.aw.cl,T.iT,rfl,_,rfl,x,_,dx,_,rfl,S6.xi,T.aU.cl,T.sf,(by show 6<1000;decide),?_⟩;have S7:=S6.put (f:="seat") (v:= .int d.seat) (ns:=["wide","high","slides","armed","four","passed"]) rfl (by decide+kernel);clear S6;generalize upd _ x (HO.ins a.ba dx (cj "seat" _ _))=H_seat at S7 ⊢;refine⟨_,rfl,y,_,_,_,_,rfl,S7.dt.ins,T.aw.cl,T.lM,rfl,_,rfl,x,_,dx,_,rfl,S7.xi,T.aU.cl,T.qU,(by show 7<1000;decide),?_⟩;have S8:=S7.put (f:="exits") (v:= .int d.exits) (ns:=["wide","high","slides","armed","four","passed","seat"]) rfl (by decide+kernel);clear S7;generalize upd _ x (HO.ins a.ba dx (cj "exits" _ _))=H_exits at S8 ⊢;refine⟨_,rfl,y,_,_,_,_,rfl,S8.dt.ins,T.aw.cl,T.i_,rfl,_,rfl,x,_,dx,_,rfl,S8.xi,T.aU.cl,T.tf,(by show 8<1000;decide),?_⟩;have S9:=S8.put (f:="goal") (v:= .int d.goal) (ns:=["wide","high","slides","armed","four","passed","seat","exits"]) rfl (by decide+kernel);clear S8;generalize upd _ x (HO.ins a.ba dx (cj "goal" _ _))=H_goal at S9 ⊢;refine⟨_,rfl,y,_,_,_,_,rfl,S9.dt.ins,T.aw.cl,T.kb,rfl,_,rfl,x,_,dx,_,rfl,S9.xi,T.aU.cl,T.x8,(by show 9<1000;decide),?_⟩;have S10:=S9.put (f:="thrice") (v:= .int d.thrice) (ns:=["wide","high","slides","armed","four","passed","seat","exits","goal"]) rfl (by decide+kernel);clear S9;generalize upd _ x (HO.ins a.ba dx (cj "thrice" _ _))=H_thrice at S10 ⊢;refine⟨_,rfl,y,_,_,_,_,rfl,S10.dt.ins,T.aw.cl,T.lu,rfl,_,rfl,x,_,dx,_,rfl,S10.xi,T.aU.cl,T.yU,(by show 10<1000;decide),?_⟩;have S11:=S10.put (f:="limit") (v:= .int d.limit) (ns:=["wide","high","slides","armed","four","passed","seat","exits","goal","thrice"]) rfl (by decide+kernel);clear S10;generalize upd _ x (HO.ins a.ba dx (cj "limit" _ _))=H_limit at S11 ⊢;refine⟨_,rfl,y,_,_,_,_,rfl,S11.dt.ins,T.aw.cl,T.cy,rfl,_,rfl,y,_,_,_,_,rfl,S11.dt.ins,T.aw.cl,T.cw,rfl,d.wide,d.high,rfl,O.w,O.h,λG1 p1 s1 n1 h1=>⟨p1,bt d.wide d.high,rfl,a0.of h1,ES O.w O.h,λns' cs hp hs ncs=>?_⟩⟩;have fcs:H cs=none:=(S11.same s1).ex.free ncs (λz=>by rw[z]at ncs;rw[(S11.same s1).xi]at ncs;cases ncs);rw[B_ O.w hp hs];have SA:=(S11.same s1).new (o:= .lst ((u7 d.wide d.high).map V.int)) ncs;have j2:(upd G1 cs (.lst ((u7 d.wide d.high).map V.int))) cs=some (.lst ((u7 d.wide d.high).map V.int)):=ai;clear S11;generalize upd G1 cs (.lst ((u7 d.wide d.high).map V.int))=H2 at*;have e2:=SA.ex;have x2:=SA.xi;have SA:=SA.BQ;refine⟨_,rfl,x,_,dx,_,rfl,SA.xi,T.aU.cl,T.qR,(by show 11<1000;decide),?_⟩;have S12:=SA.put (f:="cells") (v:= .ref cs) (ns:=["wide","high","slides","armed","four","passed","seat","exits","goal","thrice","limit"]) rfl (by decide+kernel);clear SA;generalize upd _ x (HO.ins a.ba dx (cj "cells" _ _))=H_cells at S12 ⊢;refine⟨_,rfl,y,_,_,_,_,rfl,S12.dt.ins,T.aw.cl,T.cy,rfl,_,rfl,y,_,_,_,_,rfl,S12.dt.ins,T.aw.cl,T.cw,rfl,d.wide,d.high,rfl,λH3 wz ws s3 n3 h3 hl hw fw=>?_⟩;have fr3:∀b,_=none->H b=none:=λb nb=>(e2.trans S12.ex).free (q:=b) nb (λz=>by rw[z]at nb;rw[S12.xi]at nb;cases nb);have SB:=S12.same s3;clear S12;have e3:=SB.ex;have x3:=SB.xi;have SB:=SB.BQ;refine⟨_,rfl,x,_,dx,_,rfl,SB.xi,T.aU.cl,T.gA,(by show 12<1000;decide),?_⟩;have S13:=SB.put (f:="ways") (v:= .ref wz) (ns:=["wide","high","slides","armed","four","passed","seat","exits","goal","thrice","limit","cells"]) rfl (by decide+kernel);clear SB;generalize upd _ x (HO.ins a.ba dx (cj "ways" _ _))=H_ways at S13 ⊢;refine⟨_,rfl,_,rfl,y,_,_,_,_,rfl,S13.dt.ins,T.aw.cl,T.bS,rfl,y,dy,gq,sq,gq,d,L1,3,rfl,S13.dt.ins,S13.dt.g,O.w,O.h,λH4 gr s4 n4 h4=>?_⟩;have fr4:H gr=none:=(e2.trans (e3.trans S13.ex)).free n4 (λz=>by rw[z]at n4;rw[S13.xi]at n4;cases n4);have SC:=S13.same s4;clear S13;have e4:=SC.ex;have x4:=SC.xi;have SC:=SC.BQ;refine⟨_,rfl,x,_,dx,_,rfl,SC.xi,T.aU.cl,T.dw,(by show 13<1000;decide),?_⟩;have S14:=SC.put (f:="ground") (v:= .ref gr) (ns:=["wide","high","slides","armed","four","passed","seat","exits","goal","thrice","limit","cells","ways"]) rfl (by decide+kernel);clear SC;generalize upd _ x (HO.ins a.ba dx (cj "ground" _ _))=H_ground at S14 ⊢;refine⟨_,rfl,_,rfl,y,_,_,_,_,rfl,S14.dt.ins,T.aw.cl,T.b9,rfl,y,dy,gq,sq,sq,d,L2,0,rfl,S14.dt.ins,S14.dt.s,O.w,O.h,λH5 sp s5 n5 h5=>?_⟩;have fr5:H sp=none:=(e2.trans (e3.trans (e4.trans S14.ex))).free n5 (λz=>by rw[z]at n5;rw[S14.xi]at n5;cases n5);have SD:=S14.same s5;clear S14;have e5:=SD.ex;have x5:=SD.xi;have SD:=SD.BQ;refine⟨_,rfl,y,_,_,_,_,rfl,SD.dt.ins,T.aw.cl,T.lr,rfl,λst sd nst nsd nne=>⟨st,sd,sp,d.first,rfl,ai,rfl,?_⟩⟩;rw[eQ];have SE:=SD.same ((aC (o:= .own st) nsd).trans (aC (o:= .ins a.bM sd (A4 sp d.first)) (by rw[ak (Pb nne)];exact nst)));have j6:(upd (upd H5 sd (.own st)) st (.ins a.bM sd (A4 sp d.first))) st=some (.ins a.bM sd (A4 sp d.first)):=ai;clear SD;generalize upd (upd H5 sd (.own st)) st (.ins a.bM sd (A4 sp d.first))=H6 at*;have e6:=SE.ex;have x6:=SE.xi;have stx:st≠x:=Pb (au x5 nst);have SE:=SE.BQ;refine⟨_,rfl,x,_,dx,_,rfl,SE.xi,T.aU.cl,T.mK,(by show 14<1000;decide),?_⟩;have S15:=SE.put (f:="start") (v:= .ref st) (ns:=["wide","high","slides","armed","four","passed","seat","exits","goal","thrice","limit","cells","ways","ground"]) rfl (by decide+kernel);clear SE;generalize upd _ x (HO.ins a.ba dx (cj "start" _ _))=H_start at S15 ⊢;have e7:=S15.ex;have c6:=e6.trans e7;have c5:=e5.trans c6;have c4:=e4.trans c5;have c3:=e3.trans c4;refine k _ ⟨x,dx,cs,wz,gr,st,sd,sp,ws⟩ (e2.trans c3) rfl ⟨S15.xi,c3 _ _ j2 (bf j2 x2 λz=>nomatch z),c4 _ _ h3 (bf h3 x3 λz=>nomatch z),hl,λi z e=>c4 _ _ (hw i z e) (bf (hw i z e) x3 λz=>nomatch z),?_,e7 _ _ j6 stx,?_,O.wf⟩ ⟨fcs,fr3 wz n3,fr4,fr5,λb hb=>fr3 b (fw b hb)⟩
 ·show _=some (HO.lst ((oC d.wide d.high d.ground 3).map V.int))
  rw[<-Dt.ge];exact c5 _ _ h4 (bf h4 x4 λz=>nomatch z)
 ·show _=some (HO.lst ((oC d.wide d.high d.start 0).map V.int))
  rw[<-Dt.se];exact c6 _ _ h5 (bf h5 x5 λz=>nomatch z)
def vo:List ((Nat×Nat)×Nat×Nat)->Nat->Option (Nat×Nat)
 |[],_=>none
 |(g,p)::l,s=>if iF ((g.2:Nat):Int) ((p.2:Nat):Int)=false\/(p.2=3/\g.2=2)then some (3,p.1)else if 1<(if p.2=3 then s+1 else s)then some (4,p.1)else vo l (if p.2=3 then s+1 else s)
def Nn(a:Ad):Sp:=λvs H Q E=>∃(x dx gq sq:Addr)(d:DR)(L1 L2:List (Addr×Nat×Nat)),vs=[.ref x]/\DA a H x dx gq sq d L1 L2/\(match vo (d.ground.zip d.start) 0 with
 |none=>∀H',aE H H'->Q .eC H'
 |some p=>A6 a H p.1 p.2 E)
def dq:aB ["draft","kings","spot","sign","kind","piece"] ["draft"] (ao (top 85)):=aR
def wo(T:Tx K mg a):a4 P w K mg base (cX P w) 2 a.gZ a.qN ["draft"] (Nn a):=by
 refine T.gZ.F.oQ dq λcdv A outer s H vs Q E hr h=>?_;obtain⟨x,dx,gq,sq,d,L1,L2,rfl,Dt,k⟩:=h;refine⟨_,(ae (eV 1 dq.nd az) (aj (dL Qh rfl (FQ rfl T.JR (aa (ay (pv 0) rfl) (aa (ay (pv 0) rfl) ah))) (um rfl (fi (kR 2 dq.nd) (fi (kR 3 dq.nd) qB))) (ae (eV 4 dq.nd (bj jo (pv 2) az (λ_ _=>rfl))) (ae (eV 5 dq.nd (bj jo (pv 3) az (λ_ _=>rfl))) (ae (bG (PW.pt (zw (lH (dC (dn T.fU (nN T) hr aK (aa (pv 4) (aa (pv 5) ah))))) (tV (PW.pt (gR (aI bQ (pv 5) (mT T.jZ) (aJ _)) (fe (aI bQ (pv 4) (mT T.Aw) (aJ _)))))))) (aj (gb aA hr.hd T.eY (b_ T) T.bg.b (hr.d1) rfl T.bE.m (aa az (aa (bj jo (pv 3) az (λ_ _=>rfl)) ah)))) aW) (ae (bG (aI bQ (pv 5) (mT T.jZ) (aJ _)) (aj (GN 1 dq.nd az t7)) aW) (aj (bG (aI oJ (pv 1) az (aJ _)) (aj (gb aA hr.hd T.eY (b_ T) T.bg.b (hr.d1) rfl T.bE.m (aa az (aa (bj jo (pv 3) az (λ_ _=>rfl)) ah)))) aW))))))))),?_⟩;refine⟨_,rfl,x,_,_,_,_,rfl,Dt.ins,T.aw.cl,T.bS,rfl,_,rfl,x,_,_,_,_,rfl,Dt.ins,T.aw.cl,T.b9,rfl,gq,sq,_,_,rfl,a0.of Dt.g.l,a0.of Dt.s.l,?_⟩;refine tI (J:=M9 K gq sq) (n:=min L1.length L2.length) (λi σ H'=>∃(s:Nat)(u v z y:Option V),σ=[some (.ref x),some (.int (s:Nat)),u,v,z,y]/\aE H H'/\vo (d.ground.zip d.start) 0=vo ((d.ground.zip d.start).drop i) s) ⟨0,_,_,_,_,rfl,aE.refl _,rfl⟩ (λi σ H3 hi⟨s,u,v,z,y,es,s3,hs⟩=>?_) (λσ H3⟨s,u,v,z,y,es,s3,hs⟩=>?_) (λi σ H3 hi⟨s,u,v,z,y,es,s3,hs⟩ vv H4 hy=>?_) λσ H3⟨s,u,v,z,y,es,s3,hs⟩=>?_
 ·have D3:=Dt.same s3
  have i1:i<L1.length:=by omega
  have i2:i<L2.length:=by omega
  exact⟨_,_,V.ref (L1[i]'i1).1,V.ref (L2[i]'i2).1,a0.of D3.g.l,a0.of D3.s.l,by rw[Ph,OY i1];rfl,by rw[Ph,OY i2];rfl⟩
 ·have D3:=Dt.same s3
  refine⟨_,_,a0.of D3.g.l,a0.of D3.s.l,?_⟩;rw[OU,OU];omega
 ·subst es
  have D3:=Dt.same s3;obtain⟨t,vx,vy,rfl,nt,rfl,hvx,hvy⟩:=hy;obtain⟨b1,m1,g1,hb1,rfl,tb1⟩:=D3.g.at_ (hvx _ (a0.of D3.g.l));obtain⟨b2,m2,g2,hb2,rfl,tb2⟩:=D3.s.at_ (hvy _ (a0.of D3.s.l));have S4:=aC (o:= .tup [V.ref b1,.ref b2]) nt;have s4:=s3.trans S4;have hz:(d.ground.zip d.start)[i]? =some ((m1,g1),m2,g2):=by
   rw[Ra];exact⟨Ac Dt.ge hb1,Ac Dt.se hb2⟩
  obtain⟨hi',ei⟩:=O6.mp hz;rw[Qr hi',ei]at hs;replace hs:vo (d.ground.zip d.start) 0=if iF ((g1:Nat):Int) ((g2:Nat):Int)=false\/(g2=3/\g1=2)then some (3,m2)else if 1<(if g2=3 then s+1 else s)then some (4,m2)else vo ((d.ground.zip d.start).drop (i+1)) (if g2=3 then s+1 else s):=hs;refine⟨t,_,rfl,iV.of ai,rfl,_,_,rfl,_,_,rfl,rfl,?_⟩;have T1:=S4 _ _ tb1;have T2:=S4 _ _ tb2;generalize upd H3 t (.tup [V.ref b1,.ref b2])=H4 at*;refine⟨_,rfl,b1,_,_,_,rfl,rfl,iV.of T1,at_of (j:=1) rfl rfl,?_⟩;refine⟨_,rfl,b2,_,_,_,rfl,rfl,iV.of T2,at_of (j:=1) rfl rfl,?_⟩;have bad:iF ((g1:Nat):Int) ((g2:Nat):Int)=false\/(g2=3/\g1=2)->A6 a H 3 m2 E:=λz=>by
   rw[hs,OW z]at k;exact k
  refine⟨_,rfl,_,rfl,_,_,rfl,_,rfl,fQ (λh1=>?_) λh1=>⟨_,rfl,rfl,_,rfl,dH (λh2=>⟨_,rfl,rfl,_,rfl,dH (λh3=>?_) λh3=>?_⟩) λh2=>?_⟩⟩
  ·exact⟨_,rfl,b2,_,_,_,rfl,rfl,iV.of T2,at_of (j:=0) rfl rfl,rfl,(by show 2<=1000;decide),λe d n1 n2 n3=>mP (bad (.inl (by simpa using h1))) s4 e d n1 n2 n3⟩
  ·exact⟨_,rfl,b2,_,_,_,rfl,rfl,iV.of T2,at_of (j:=0) rfl rfl,rfl,(by show 2<=1000;decide),λe d n1 n2 n3=>mP (bad (.inr ⟨by omega,by omega⟩)) s4 e d n1 n2 n3⟩
  ·rw[OV (λz=>z.elim (λz=>by rw[z]at h1;cases h1) λz=>h3 (by omega)),OW (show g2=3 by omega)]at hs
   refine⟨_,rfl,rfl,_,rfl,dH (λh4=>⟨_,rfl,_,_,rfl,rfl,?_⟩) λh4=>absurd h2 h4⟩;refine⟨_,rfl,_,_,rfl,rfl,_,rfl,gD (λh5=>?_) λh5=>?_⟩
   ·have h5:((s+1:Nat):Int)>1:=O7 h5
    rw[OW (by omega)]at hs;rw[hs]at k;exact⟨_,rfl,b2,_,_,_,rfl,rfl,iV.of T2,at_of (j:=0) rfl rfl,rfl,(by show 2<=1000;decide),λe d n1 n2 n3=>mP k s4 e d n1 n2 n3⟩
   ·have h5:¬((s+1:Nat):Int)>1:=λz=>h5 (O0 z)
    rw[OV (by omega)]at hs;exact⟨s+1,_,_,_,_,rfl,s4,hs⟩
  ·rw[OV (λz=>z.elim (λz=>by rw[z]at h1;cases h1) λz=>h2 (by omega)),OV (show¬g2=3 by omega)]at hs
   refine⟨_,rfl,rfl,_,rfl,dH (λh4=>absurd h4 h2) λh4=>?_⟩;refine⟨_,rfl,_,_,rfl,rfl,_,rfl,gD (λh5=>?_) λh5=>?_⟩
   ·have h5:((s:Nat):Int)>1:=O7 h5
    rw[OW (by omega)]at hs;rw[hs]at k;exact⟨_,rfl,b2,_,_,_,rfl,rfl,iV.of T2,at_of (j:=0) rfl rfl,rfl,(by show 2<=1000;decide),λe d n1 n2 n3=>mP k s4 e d n1 n2 n3⟩
   ·have h5:¬((s:Nat):Int)>1:=λz=>h5 (O0 z)
    rw[OV (by omega)]at hs;exact⟨s,_,_,_,_,rfl,s4,hs⟩
 ·subst es
  have:(d.ground.zip d.start).drop (min L1.length L2.length)=[]:=by
   rw[<-Dt.ge,<-Dt.se];simp
  rw[this]at hs;rw[hs]at k;exact k H3 s3
def mO(d:DR)(r:R0):Bool:=if d.goal=1 then !jy d.ground 2 else decide (0<=fZ r.start)&&wD r (fZ r.start).toNat
def LU(a:Ad):Sp:=λvs H Q E=>∃(x dx gq sq:Addr)(d:DR)(L1 L2:List (Addr×Nat×Nat))(A:RA)(r:R0),vs=[.ref x,.ref A.x]/\DA a H x dx gq sq d L1 L2/\L1.length<=1000/\oN a H A r/\(mO d r=false->∀H',aE H H'->Q .eC H')/\(mO d r=true->A6 a H 5 d.gw E)
def jD:aB ["draft","rules","wrong","king"] ["draft","rules"] (ao (top 87)):=aR
def yR(T:Tx K mg a):a4 P w K mg base (cX P w) 2 a.jb a.r8 ["draft","rules"] (LU a):=by
 refine T.jb.F.oQ jD λcdv A outer s H vs Q E hr h=>?_;obtain⟨x,dx,gq,sq,d,L1,L2,A',r,rfl,Dt,hL,R,k1,k2⟩:=h;refine⟨_,(ae (bG (aI bQ (ay (pv 0) rfl) az (aJ _)) (aj (eV 2 jD.nd (Gp (dn T.l_ (tQ T) hr aK (aa (ay (pv 0) rfl) (aa (mT T.Aw) ah)))))) (ae (eV 3 jD.nd (dn T.iw (sj T) hr aK (aa (ay (ay (pv 1) rfl) rfl) ah))) (aj (eV 2 jD.nd (yn (dY zV (pv 3) az (aJ _)) (pE (jf (pv 1) T.aU T.dQ (m4 T) hr aK (aa (pv 3) ah)))))))) (aj (bG (dC (pv 2)) (aj (gb aA hr.hd T.eY (b_ T) T.bg.b (hr.d1) rfl T.bE.m (aa az (aa (ay (pv 0) rfl) ah)))) aW))),?_⟩;refine⟨_,rfl,x,_,_,_,_,rfl,Dt.ins,T.aw.cl,T.i_,rfl,rfl,_,rfl,dH (λh1=>?_) λh1=>?_⟩
 ·refine⟨_,rfl,x,_,_,_,_,rfl,Dt.ins,T.aw.cl,T.bS,rfl,gq,L1,2,rfl,Dt.g,hL,λH1 s1=>⟨_,rfl,?_⟩⟩
  have wg:mO d r= !jy (L1.map (·.2)) 2:=by rw[Dt.ge];exact OW h1
  refine⟨_,rfl,_,rfl,fQ (λh9=>?_) λh9=>?_⟩
  ·exact⟨_,rfl,x,_,_,_,_,rfl,(Dt.same s1).ins,T.aw.cl,T.eJ,rfl,rfl,(by show 2<=1000;decide),λe d n1 n2 n3=>mP (k2 (wg.trans h9)) s1 e d n1 n2 n3⟩
  ·exact k1 (wg.trans h9) _ s1
 ·refine⟨_,rfl,A'.x,_,_,_,_,rfl,R.ins,T.aU.cl,T.mK,rfl,A'.st,_,_,_,_,rfl,R.st,T.bR.cl,T.bV,rfl,A'.sp,r.start,rfl,a0.of R.sp,?_⟩
  have wg:mO d r=(decide (0<=fZ r.start)&&wD r (fZ r.start).toNat):=OV h1;have kl:=DB R.ok.s;generalize fZ r.start=kc at*;refine⟨_,rfl,_,_,rfl,rfl,_,rfl,gD (λh2=>?_) λh2=>?_⟩
  ·have h2:kc≥0:=O7 h2
   rcases kl with kl|⟨c,rfl,c1⟩
   ·omega
   rw[O0 h2,Bool.true_and]at wg;refine⟨_,rfl,A'.x,_,_,rfl,R.ins,rfl,_,rfl,A',r,c,rfl,R,c1,λH1 s1=>?_⟩;replace wg:mO d r=wD r c:=wg;refine⟨_,rfl,_,rfl,fQ (λh9=>?_) λh9=>?_⟩
   ·exact⟨_,rfl,x,_,_,_,_,rfl,(Dt.same s1).ins,T.aw.cl,T.eJ,rfl,rfl,(by show 2<=1000;decide),λe d n1 n2 n3=>mP (k2 (wg.trans h9)) s1 e d n1 n2 n3⟩
   ·exact k1 (wg.trans h9) _ s1
  ·have h2:¬kc≥0:=λz=>h2 (O0 z)
   rw[PF h2,Bool.false_and]at wg;refine⟨_,rfl,_,rfl,fQ (λh9=>by cases h9) λh9=>?_⟩;exact k1 wg _ (aE.refl _)
def jT(d:DR):Bool:=(!jy d.start 3|| !jy d.start 1)||((decide (d.passed=0)|| !decide (d.seat=0))&& !jy d.ground 1)
def N9(a:Ad):Sp:=λvs H Q E=>∃(x dx gq sq:Addr)(d:DR)(L1 L2:List (Addr×Nat×Nat)),vs=[.ref x]/\DA a H x dx gq sq d L1 L2/\L1.length<=1000/\L2.length<=1000/\(jT d=false->∀H',aE H H'->Q .eC H')/\(jT d=true->A6 a H 6 d.jP E)
def lT:aB ["draft","needs_seat"] ["draft"] (ao (top 88)):=aR
def rE(T:Tx K mg a):a4 P w K mg base (cX P w) 2 a.eu a.lZ ["draft"] (N9 a):=by
 refine T.eu.F.oQ lT λcdv A outer s H vs Q E hr h=>?_;obtain⟨x,dx,gq,sq,d,L1,L2,rfl,Dt,hL1,hL2,k1,k2⟩:=h;refine⟨_,(ae (eV 1 lT.nd (G9 (dY bQ (ay (pv 0) rfl) az (aJ _)) (pE (dY Dy (ay (pv 0) rfl) az (aJ _))))) (ae (bG (PW.pt (zw (lH (dC (dn T.l_ (tQ T) hr aK (aa (ay (pv 0) rfl) (aa (mT T.jZ) ah))))) (tV (lH (dC (dn T.l_ (tQ T) hr aK (aa (ay (pv 0) rfl) (aa (mT T.BL) ah)))))))) (aj (gb aA hr.hd T.eY (b_ T) T.bg.b (hr.d1) rfl T.bE.m (aa az (aa (ay (pv 0) rfl) ah)))) aW) (aj (bG (PW.pt (gR (dC (pv 1)) (fe (lH (dC (dn T.l_ (tQ T) hr aK (aa (ay (pv 0) rfl) (aa (mT T.Ae) ah)))))))) (aj (gb aA hr.hd T.eY (b_ T) T.bg.b (hr.d1) rfl T.bE.m (aa az (aa (ay (pv 0) rfl) ah)))) aW)))),?_⟩;have bad:∀H1,aE H H1->jT d=true->∀e d',H1 e=none->H1 d'=none->d'≠e->E (.ref a.bF) (some e) (upd (upd H1 d' (XD d' [("kind",.int 6),("place",.int (d.jP:Nat))])) e (XO e a.bF (some d') true)):=λH1 s1 h e d' n1 n2 n3=>mP (k2 h) s1 e d' n1 n2 n3;refine⟨_,rfl,x,_,_,_,_,rfl,Dt.ins,T.aw.cl,T.gQ,rfl,rfl,_,rfl,dH (λh1=>?_) λh1=>⟨_,rfl,x,_,_,_,_,rfl,Dt.ins,T.aw.cl,T.iT,rfl,rfl,?_⟩⟩
 ·have nd:(decide (d.passed=0)|| !decide (d.seat=0))=true:=by rw[O0 h1];rfl
  refine⟨_,rfl,x,_,_,_,_,rfl,Dt.ins,T.aw.cl,T.b9,rfl,sq,L2,3,rfl,Dt.s,hL2,λH1 s1=>⟨_,rfl,fQ (λg1=>?_) λg1=>⟨_,rfl,x,_,_,_,_,rfl,(Dt.same s1).ins,T.aw.cl,T.b9,rfl,sq,L2,1,rfl,Dt.s.same s1,hL2,λH2 s2=>⟨_,rfl,fQ (λg2=>?_) λg2=>?_⟩⟩⟩⟩
  ·exact⟨_,rfl,x,_,_,_,_,rfl,(Dt.same s1).ins,T.aw.cl,T.bI,rfl,rfl,(by show 2<=1000;decide),bad _ s1 (by unfold jT;rw[<-Dt.se,g1];rfl)⟩
  ·exact⟨_,rfl,x,_,_,_,_,rfl,(Dt.same (s1.trans s2)).ins,T.aw.cl,T.bI,rfl,rfl,(by show 2<=1000;decide),bad _ (s1.trans s2) (by unfold jT;rw[<-Dt.se,g1,g2];rfl)⟩
  ·have s12:=s1.trans s2
   refine⟨_,rfl,_,rfl,fQ (λg3=>⟨_,rfl,x,_,_,_,_,rfl,(Dt.same s12).ins,T.aw.cl,T.bS,rfl,gq,L1,1,rfl,Dt.g.same s12,hL1,λH3 s3=>⟨_,rfl,fQ (λg4=>?_) λg4=>?_⟩⟩) λg3=>?_⟩
   ·exact⟨_,rfl,x,_,_,_,_,rfl,(Dt.same (s12.trans s3)).ins,T.aw.cl,T.bI,rfl,rfl,(by show 2<=1000;decide),bad _ (s12.trans s3) (by unfold jT;rw[<-Dt.se,<-Dt.ge,g1,g2,g4,nd];rfl)⟩
   ·exact k1 (by unfold jT;rw[<-Dt.se,<-Dt.ge,g1,g2,g4,Bool.and_false];rfl) _ (s12.trans s3)
   ·cases g3
 ·have nd:(decide (d.passed=0)|| !decide (d.seat=0))= !decide (d.seat=0):=by rw[PF h1];rfl
  rw[g9];refine⟨_,rfl,x,_,_,_,_,rfl,Dt.ins,T.aw.cl,T.b9,rfl,sq,L2,3,rfl,Dt.s,hL2,λH1 s1=>⟨_,rfl,fQ (λg1=>?_) λg1=>⟨_,rfl,x,_,_,_,_,rfl,(Dt.same s1).ins,T.aw.cl,T.b9,rfl,sq,L2,1,rfl,Dt.s.same s1,hL2,λH2 s2=>⟨_,rfl,fQ (λg2=>?_) λg2=>?_⟩⟩⟩⟩
  ·exact⟨_,rfl,x,_,_,_,_,rfl,(Dt.same s1).ins,T.aw.cl,T.bI,rfl,rfl,(by show 2<=1000;decide),bad _ s1 (by unfold jT;rw[<-Dt.se,g1];rfl)⟩
  ·exact⟨_,rfl,x,_,_,_,_,rfl,(Dt.same (s1.trans s2)).ins,T.aw.cl,T.bI,rfl,rfl,(by show 2<=1000;decide),bad _ (s1.trans s2) (by unfold jT;rw[<-Dt.se,g1,g2];rfl)⟩
  ·have s12:=s1.trans s2
   refine⟨_,rfl,_,rfl,fQ (λg3=>⟨_,rfl,x,_,_,_,_,rfl,(Dt.same s12).ins,T.aw.cl,T.bS,rfl,gq,L1,1,rfl,Dt.g.same s12,hL1,λH3 s3=>⟨_,rfl,fQ (λg4=>?_) λg4=>?_⟩⟩) λg3=>?_⟩
   ·exact⟨_,rfl,x,_,_,_,_,rfl,(Dt.same (s12.trans s3)).ins,T.aw.cl,T.bI,rfl,rfl,(by show 2<=1000;decide),bad _ (s12.trans s3) (by unfold jT;rw[<-Dt.se,<-Dt.ge,g1,g2,g4,nd,g3];rfl)⟩
   ·exact k1 (by unfold jT;rw[<-Dt.se,<-Dt.ge,g1,g2,g4,Bool.and_false];rfl) _ (s12.trans s3)
   ·exact k1 (by unfold jT;rw[<-Dt.se,g1,g2,nd,g3];rfl) _ s12
def aG{β γ:Type}{r:Except Nat (β×Nat)}{f:β->Nat->Except Nat γ}{d:γ}(h:kW r f=.ok d):∃v n,r=.ok (v,n)/\f v n=.ok d:=by
 cases r with
 |error e=>cases h
 |ok p=>exact⟨p.1,p.2,rfl,h⟩
def mZ{r:Except Nat (V×Nat)}{i:Int}{n:Nat}(h:jz r=.ok (i,n)):r=.ok (.int i,n):=by
 unfold jz at h;split at h
 ·cases h;rfl
 ·cases h
 ·cases h
def wG{ns:List Int}(ws:List Str):∀(f told:Nat)(left:List Str)(n:Nat)(p:V×Nat),(∀v∈left,v∈ws)->b8 ns ws f told left n=.ok p->∃k:Nat,p.1=.int (k:Nat)/\k<ws.length
 |0,_,_,_,_,_,h=>by cases h
 |f+1,told,left,n,p,hl0,h=>by
  unfold b8 at h;cases hl:left.filter (mR ns n told)with
  |nil=>rw[hl]at h;cases h
  |cons v l=>
   rw[hl]at h;have sub:∀u∈v::l,u∈ws:=λu hu=>hl0 u (PR.mp (by rw[hl];exact hu)).1;replace h:(if v.length=told+1 then Except.ok (V.int (ws.findIdx (λu=>decide (u=v)):Nat),n+1)else b8 ns ws f (told+1) (v::l) (n+1))=.ok p:=h
   by_cases hv:v.length=told+1
   ·rw[OW hv]at h
    cases h;exact⟨_,rfl,QC ⟨v,sub v O8,by simp⟩⟩
   ·rw[OV hv]at h
    exact wG ws f _ _ _ _ sub h
def zr{z:Str}{ns:List Int}(hz:z.cps.toList.length=4):∀(k:Nat)(acc:List (Nat×Nat))(n:Nat)(p:List (Nat×Nat)×Nat),hU z ns k acc n=.ok p->(∀q∈acc,q.2<4)->p.1.length=acc.length+k/\∀q∈p.1,q.2<4
 |0,acc,n,p,h,ha=>by cases h;exact⟨rfl,ha⟩
 |k+1,acc,n,p,h,ha=>by
  unfold hU at h;cases hk:cN z ns n with
  |none=>rw[hk]at h;cases h
  |some i=>
   rw[hk]at h;have hi:=(iB hk).1;obtain⟨h1,h2⟩:=zr hz k _ _ p h (λq hq=>by
    rcases Pk.mp hq with z|z
    ·exact ha q z
    ·rw[Pj]at z
     subst z;show i<4;omega)
   rw[Pd,P0]at h1;exact⟨by omega,h2⟩
def yd{z:Str}{ns:List Int}{wide:Nat}(hz:z.cps.toList.length=4):∀(k:Nat)(acc:List (Nat×Nat))(n:Nat)(p:List (Nat×Nat)×Nat),eB z ns wide k acc n=.ok p->(∀q∈acc,q.2<4)->p.1.length=acc.length+wide*k/\∀q∈p.1,q.2<4
 |0,acc,n,p,h,ha=>by cases h;exact⟨rfl,ha⟩
 |k+1,acc,n,p,h,ha=>by
  unfold eB wr at h;cases hc:hU z ns wide acc n with
  |error e=>rw[hc]at h;cases h
  |ok q=>
   obtain⟨h1,h2⟩:=zr hz wide acc n q hc ha;rw[hc]at h;obtain⟨q1,q2⟩:=q;replace h:(match da ns [10] q2 with|.error e=>Except.error e|.ok m=>eB z ns wide k q1 m)=.ok p:=h;cases hl:da ns [10] q2 with
   |error e=>rw[hl]at h;cases h
   |ok m=>
    rw[hl]at h;obtain⟨h3,h4⟩:=yd hz k q1 m p h h2;exact⟨by rw[h3,h1,QU];omega,h4⟩
def BY{ns:List Int}{d:DR}(h:iR ns=.ok d):JU d:=by
 unfold iR at h;obtain⟨_,_,_,h⟩:=aG h;obtain⟨_,_,_,h⟩:=aG h;obtain⟨_,_,_,h⟩:=aG h;obtain⟨vw,_,ew,h⟩:=aG h;obtain⟨_,_,_,h⟩:=aG h;obtain⟨vh,_,eh,h⟩:=aG h;obtain⟨_,_,_,h⟩:=aG h;obtain⟨vg,_,eg,h⟩:=aG h;obtain⟨_,_,_,h⟩:=aG h;obtain⟨vs,_,es,h⟩:=aG h;obtain⟨_,_,_,h⟩:=aG h;obtain⟨vf,_,ef,h⟩:=aG h;obtain⟨_,_,_,h⟩:=aG h;obtain⟨_,_,_,h⟩:=aG h;obtain⟨_,_,_,h⟩:=aG h;obtain⟨_,_,_,h⟩:=aG h;obtain⟨_,_,_,h⟩:=aG h;obtain⟨_,_,_,h⟩:=aG h;obtain⟨_,_,_,h⟩:=aG h;obtain⟨_,_,_,h⟩:=aG h;obtain⟨_,_,_,h⟩:=aG h;obtain⟨_,_,_,h⟩:=aG h;obtain⟨_,_,_,h⟩:=aG h;obtain⟨_,_,_,h⟩:=aG h;obtain⟨_,_,_,h⟩:=aG h;obtain⟨_,_,_,h⟩:=aG h;obtain⟨_,_,_,h⟩:=aG h;obtain⟨_,_,_,h⟩:=aG h;obtain⟨_,_,_,h⟩:=aG h;obtain⟨_,_,_,h⟩:=aG h;obtain⟨_,_,_,h⟩:=aG h;obtain⟨_,_,_,h⟩:=aG h;obtain⟨_,_,_,h⟩:=aG h;cases h;obtain⟨wd,e1,b1,b2⟩:=nA (mZ ew);obtain⟨hg,e2,b3,b4⟩:=nA (mZ eh);cases e1;cases e2;obtain⟨g1,g2⟩:=yd (by decide+kernel) _ _ _ _ eg (λq hq=>by cases hq);obtain⟨s1,s2⟩:=yd (by decide+kernel) _ _ _ _ es (λq hq=>by cases hq);obtain⟨k,e3,hk⟩:=wG _ _ _ _ _ _ (λv hv=>hv) (mZ ef);cases e3;have hk:k<2:=hk;exact⟨b1,b3,b2,b4,g2,s2,by rw[g1];simp,by rw[s1];simp,by show((k:Nat):Int)=0\/((k:Nat):Int)=1;omega⟩
def Od(a:Ad)(H:Hp)(ns:List Int):XK:=λc eo H'=>c=.ref a.e_/\∃e d m,eo=some e/\aE H H'/\H' e=some (XO e a.e_ (some d) true)/\H' d=some (XD d [("place",.int ((m:Nat):Int))])/\iR ns=.error m
def Np(a:Ad):Sp:=λvs H Q E=>∃(g:Addr)(ns:List Int),vs=[.ref g]/\H g=some (.lst (ns.map V.int))/\(match iR ns with
 |.ok d=>∀H' y dy gq sq L1 L2,aE H H'->DA a H' y dy gq sq d L1 L2->Q (.ref y) H'
 |.error m=>A6 a H 1 m E)
def iu:aB ["text","stuck"] ["text"] (ao (top 89)):=aR
def nn(T:Tx K mg a):a4 P w K mg base (cX P w) 8 a.cr a.jc ["text"] (Np a):=by
 refine T.cr.F.oQ iu λcdv A outer s H vs Q E hr h=>?_;obtain⟨g,ns,rfl,hg,k⟩:=h;refine⟨_,(aj (C4 (E':=(Od a H ns)) (j_ hr.hd) (λpn xe LL=>(aj (aF (FB T.AD (rJ T) hr T.aw T.cW LL.passes (aa (FB T.BK (o6 T) hr T.aD T.eA aK (aa (pv 0) ah)) ah))))) (BG (i:=1) (j_ hr.hd) aA rfl T.hR.m T.hR.HI iu.nd rfl rfl (λe0 pn xe L2L=>(aj (xU L2L rfl T.eY (b_ T) T.bg.b (hr.d1) rfl T.bE.m (aa az (aa (lV K rfl (pv 1) rfl) ah))))) C7))),?_,λC e H' hx=>?_⟩
 ·refine⟨_,rfl,λr rx nr nrx nne=>⟨r,rx,g,rfl,ai,rfl,?_⟩⟩
  rw[eQ];have S1:aE H (upd (upd H rx (.own r)) r (.ins a.aY rx (vM g 0))):=(aC nrx).trans (aC (by rw[ak (Pb nne)];exact nr));have r1:(upd (upd H rx (.own r)) r (.ins a.aY rx (vM g 0))) r=some (.ins a.aY rx (vM g 0)):=ai;generalize upd (upd H rx (.own r)) r (.ins a.aY rx (vM g 0))=H1 at*;intro x dx nx ndx nne2;have S2:=cb (C:=a.aO) nx ndx nne2;have x2:(upd (upd H1 dx (.own x)) x (.ins a.aO dx [])) x=some (.ins a.aO dx []):=ai;have xr:x≠r:=Pb (au r1 nx);generalize upd (upd H1 dx (.own x)) x (.ins a.aO dx [])=H2 at*;have S:=S1.trans S2;have R2:fI K a H2 r rx g ns 0:=⟨S2 _ _ r1,S _ _ hg⟩;have hx0:H x=none:=S1.free nx;refine⟨x,dx,r,rx,g,ns,rfl,x2,R2,xr,?_⟩;have fs:∀{H3:Hp},Fx [x,r] H2 H3->aE H H3:=λ{H3} f b o q=>f b o (S b o q) (by simp[au q hx0,au q nr]);unfold KD;cases hd:iR ns with
  |error m=>exactλH3 e d f h1 h2=>⟨rfl,e,d,m,rfl,fs f,h1,h2,hd⟩
  |ok d=>
   rw[hd]at k;exactλH3 gq sq L1 L2 f D=>⟨rfl,k H3 x dx gq sq L1 L2 (fs f) D⟩
 ·obtain⟨hC,e',d,m,he',s1,h1,h2,hd⟩:=hx
  cases hC;cases he';rw[hd]at k;refine⟨T.hR.cl,λ_=>?_,λz=>absurd rfl z⟩;refine⟨_,rfl,e,_,d,_,_,_,rfl,h1,h2,T.hR.cl,T.mH,rfl,⟨_,_,h1⟩,rfl,(by show 2<=1000;decide),λe3 d3 n1 n2 n3=>mP k s1 e3 d3 n1 n2 n3⟩
def lg(ns:List Int):Except (Nat×Nat) R0:=match iR ns with
 |.error p=>.error (1,p)
 |.ok d=>match xM d.ground 0 with
  |some p=>.error (2,p)
  |none=>match vo (d.ground.zip d.start) 0 with
   |some p=>.error p
   |none=>if mO d (dF d)=true then .error (5,d.gw)else if jT d=true then .error (6,d.jP)else .ok (dF d)
def NI(a:Ad):Sp:=λvs H Q E=>∃(g:Addr)(ns:List Int),vs=[.ref g]/\H g=some (.lst (ns.map V.int))/\(match lg ns with
 |.ok r=>∀H' A,aE H H'->oN a H' A r->Jz H A->Q (.ref A.x) H'
 |.error p=>A6 a H p.1 p.2 E)
def mM:aB ["text","draft","rules"] ["text"] (ao (top 91)):=aR
def yN(T:Tx K mg a):a4 P w K mg base (cX P w) 9 a.iU a.sH ["text"] (NI a):=by
 refine T.iU.F.oQ mM λcdv A outer s H vs Q E hr h=>?_;obtain⟨g,ns,rfl,hg,k⟩:=h;refine⟨_,(ae (eV 1 mM.nd (dn T.cr (nn T) hr aA.passes (aa (pv 0) ah))) (ae (eV 2 mM.nd (FB T.IN (yV T) hr T.aU T.gK aK (aa (pv 1) ah))) (ae (aZ (dn T.gh (vC T) hr aA.passes (aa (pv 1) ah))) (ae (aZ (dn T.gZ (wo T) hr aA.passes (aa (pv 1) ah))) (ae (aZ (dn T.jb (yR T) hr aA.passes (aa (pv 1) (aa (pv 2) ah)))) (ae (aZ (dn T.eu (rE T) hr aA.passes (aa (pv 1) ah))) (aj (aF (pv 2))))))))),?_⟩;refine⟨_,rfl,g,ns,rfl,hg,?_⟩;unfold lg at k;cases hd:iR ns with
 |error m=>
  rw[hd]at k;exact k
 |ok d=>
  rw[hd]at k;dsimp only at k;have O:=BY hd;intro H1 y dy gq sq L1 L2 s1 D1;have l1:L1.length<=1000:=by
   have:=P_ List.length D1.ge;have h2:d.wide*d.high<=13*13:=Ru O.w O.h;rw[OU,O.gl]at this;omega
  have l2:L2.length<=1000:=by
   have:=P_ List.length D1.se;have h2:d.wide*d.high<=13*13:=Ru O.w O.h;rw[OU,O.sl]at this;omega
  refine⟨_,rfl,λx dx nx ndx nne=>?_⟩;have S2:=cb (C:=a.ba) nx ndx nne;refine⟨x,dx,y,dy,gq,sq,d,L1,L2,rfl,ai,D1.same S2,au D1.ins nx,O,λH3 A3 e3 ax R3 F3=>⟨rfl,?_⟩⟩;have F4:Jz H A3:=F3.back (s1.trans S2);have s3:aE H1 H3:=Ex.made nx ndx e3;have D3:=D1.same s3;have S3:=s1.trans s3;subst ax;clear S2 e3 s3;refine⟨_,rfl,y,dy,gq,sq,d,L1,L2,rfl,D3,?_⟩;cases hcg:xM d.ground 0 with
  |some p=>
   rw[hcg]at k;exact A6.mono k S3
  |none=>
   rw[hcg]at k;dsimp only at k;refine⟨_,rfl,y,dy,gq,sq,d,L1,L2,rfl,D3,?_⟩;cases hcs:vo (d.ground.zip d.start) 0 with
   |some p=>
    rw[hcs]at k;exact A6.mono k S3
   |none=>
    rw[hcs]at k;dsimp only at k;intro H4 s4;refine⟨_,rfl,_,rfl,y,dy,gq,sq,d,L1,L2,A3,dF d,rfl,D3.same s4,l1,R3.same s4,λhw=>?_,λhw=>?_⟩
    ·rw[OV (by rw[hw];exact O3)]at k
     intro H5 s5;have s45:=s4.trans s5;refine⟨_,rfl,y,dy,gq,sq,d,L1,L2,rfl,D3.same s45,l1,l2,λhm=>?_,λhm=>?_⟩
     ·rw[OV (by rw[hm];exact O3)]at k
      intro H6 s6;exact⟨_,rfl,k H6 A3 ((S3.trans s45).trans s6) (R3.same (s45.trans s6)) F4⟩
     ·rw[OW hm]at k
      exact A6.mono k (S3.trans s45)
    ·rw[OW hw]at k
     exact A6.mono k (S3.trans s4)
def codes(z:Str):List Int:=z.cps.toList.map λ(c:Nat)=>(c:Int)
def IA:Sp:=λvs H Q _=>∃(z:Str),vs=[.str z]/\z.cps.size<=100000/\∀H' q,aE H H'->H q=none->H' q=some (.lst ((codes z).map V.int))->Q (.ref q) H'
def pY:aB ["text","sign"] ["text"] (ao (top 49)):=aR
def uV(T:Tx K mg a):a4 P w K mg base (cX P w) 1 a.ju a.wU ["text"] IA:=by
 refine T.ju.F.lL pY λcdv A outer s H vs Q E hr h=>?_;obtain⟨z,rfl,hz,k⟩:=h;refine⟨_,(aj (aF (lS (own:=[("sign",1)]) rfl pY.nd (Cs (pv 0)) (cq rfl) (λ_ _ _ _ _=>(kR 1 pY.nd)) (λ_ _ _ _ _=>d8) (λ_ _ _ _ _=>(bu B9 rfl T.JN (by decide+kernel) (aa (pv 1) ah)))))),?_⟩;refine⟨_,rfl,z,rfl,λD hD=>iJ (J:=MR z) (n:=z.cps.size) (λi=>((z.cps.toList.take i).map λ(c:Nat)=>V.int (c:Int))) hD rfl (λi H h _=>h) (λH _=>OZ _) (λi H' hi s1 e1 y H2 hy=>?_) λH' s1 e1=>?_⟩
 ·obtain⟨rfl,c,hc,rfl⟩:=hy
  refine⟨rfl,_,rfl,_,rfl,rfl,?_⟩;refine Got.of hD s1 e1 (aE.refl _) (by rw[OU,PK];omega) ?_;have hc':z.cps.toList[i]? =some c:=by simpa using hc
  rw[Qs,hc',Pn];rfl
 ·refine k H' D s1 hD ?_
  rw[e1,PB (by simp)];unfold codes;rw[Qa];rfl
def kY(n:Nat):Str:=if 0<n then(toString ((n:Nat):Int):String)else""
def qr{n:Nat}(h:n<=13):(kY n).length<=2:=by
 have all:∀m:Fin 14,(kY (m:Nat)).length<=2:=by decide+kernel
 exact all ⟨n,by omega⟩
def HW:Sp:=λvs H Q _=>∃(n:Nat),vs=[.int (n:Nat)]/\n<=13/\Q (.str (kY n)) H
def qw{i:Int}(h:i.natAbs<=1000):i.natAbs.log2<1920:=Nat.lt_of_le_of_lt (Nat.log2_le_self _) (by omega)
def Az:aB ["free"] ["free"] (ao (top 62)):=aR
def su(T:Tx K mg a):a4 P w K mg base (cX P w) 1 a.iA a.vj ["free"] HW:=by
 refine T.iA.F.lL Az λcdv A outer s H vs Q E hr h=>?_;obtain⟨n,rfl,hn,k⟩:=h;refine⟨_,(aj (aF (yy (aI oJ (pv 0) az (aJ _)) (mW oa rfl T.Gg (by decide+kernel) (aa (pv 0) ah)) a9))),?_⟩;unfold kY at k;refine⟨_,rfl,_,_,rfl,rfl,_,rfl,gD (λh1=>?_) λh1=>?_⟩
 ·have h1:((n:Nat):Int)>0:=O7 h1
  rw[OW (by omega)]at k;exact⟨_,rfl,_,rfl,qw (by omega),k⟩
 ·have h1:¬((n:Nat):Int)>0:=λz=>h1 (O0 z)
  rw[OV (by omega)]at k;exact k
def D_(v:Int):Str:=⟨#[(".hmK":Str).cps.toList.getD v.toNat 0]⟩
def cG(p:Str×Nat)(v:Int):Str×Nat:=if v=0 then(p.1,p.2+1)else(p.1++(kY p.2++D_ v),0)
def fJ(ps:List Int):Str:=let p:=ps.foldl cG ("",0);p.1++kY p.2
def sS:∀(ps:List Int)(p:Str×Nat),p.2+ps.length<=13->(ps.foldl cG p).1.length<=p.1.length+3*ps.length/\(ps.foldl cG p).2<=p.2+ps.length
 |[],p,_=>⟨OZ _,OZ _⟩
 |v::ps,p,h=>by
  rw[Pt]at h ⊢;rw[QB];have f:=qr (n:=p.2) (by omega);have e:(cG p v).1.length<=p.1.length+3/\(cG p v).2<=p.2+1:=by
   unfold cG;split
   ·exact⟨by simp,OZ _⟩
   ·rw[PV,PV]
    have:(D_ v).length=1:=rfl;exact⟨by omega,P4 _⟩
  have:=sS ps (cG p v) (by omega);omega
def LA(K:OX):Sp:=λvs H Q _=>∃(p:Addr)(ps:List Int),vs=[.ref p]/\a0 K H p (ps.map V.int)/\ps.length<=13/\(∀v∈ps,0<=v/\v<=3)/\Q (.str (fJ ps)) H
def Jl{l:List Int}{i:Nat}{x:V}(h:(l.map V.int)[i]? =some x):∃v,l[i]? =some v/\x=.int v:=by
 rw[Ph]at h;cases e:l[i]? with
 |none=>rw[e]at h;cases h
 |some w=>rw[e]at h;cases h;exact⟨w,rfl,rfl⟩
def f8:aB ["pieces","text","free","piece"] ["pieces"] (ao (top 61)):=aR
def Bi(T:Tx K mg a):a4 P w K mg base (cX P w) 2 a.ly a.yr ["pieces"] (LA K):=by
 refine T.ly.F.lL f8 λcdv A outer s H vs Q E hr h=>?_;obtain⟨p,ps,rfl,hp,hl,hv,k⟩:=h;refine⟨_,(ae (eV 1 f8.nd a9) (ae (eV 2 f8.nd az) (ae (dL Ql rfl (cP (pv 0)) (kR 3 f8.nd) (aj (bG (aI bQ (pv 3) (mT T.i7) (aJ _)) (aj (GN 2 f8.nd az t7)) (ae (GN 1 f8.nd (bz dB (dn T.iA (su T) hr aK (aa (pv 2) ah)) (bj AU (CY T.yW) (pv 3) (λ_ _=>rfl))) Ak) (aj (eV 2 f8.nd az)))))) (aj (aF (bz dB (pv 1) (dn T.iA (su T) hr aK (aa (pv 2) ah)))))))),?_⟩;refine⟨_,rfl,p,rfl,⟨_,hp⟩,?_⟩;refine gm (xs:=ps.map V.int) (λi σ H'=>∃u,σ=[some (.ref p),some (.str ((ps.take i).foldl cG ("",0)).1),some (.int (((ps.take i).foldl cG ("",0)).2:Nat)),u]/\H'=H) ⟨_,rfl,rfl⟩ (λi σ H1 _⟨u,e,e1⟩=>by rw[e1];exact hp) (λi x σ H1 hx⟨u,e,e1⟩=>?_) λσ H1⟨u,e,e1⟩=>?_
 ·subst e e1
  obtain⟨v,hx',rfl⟩:=Jl hx;have il:i<ps.length:=(O6.mp hx').1;obtain⟨v0,v3⟩:=hv v (Pw hx');have st:(ps.take (i+1)).foldl cG ("",0)=cG ((ps.take i).foldl cG ("",0)) v:=by
   rw[Qs,hx',List.foldl_append];rfl
  obtain⟨b1,b2⟩:=sS (ps.take i) ("",0) (by rw[PK];show 0+_<=_;omega);rw[PK]at b1 b2;have b0:("":Str).length=0:=by decide+kernel
  rw[st];generalize(ps.take i).foldl cG ("",0)=pr at*;obtain⟨tx,fr⟩:=pr;have b1:tx.length<=("":Str).length+3*min i ps.length:=b1;have b2:fr<=0+min i ps.length:=b2;refine⟨_,rfl,rfl,_,rfl,dH (λh1=>?_) λh1=>?_⟩
  ·refine⟨_,rfl,_,_,rfl,rfl,some (V.int v),?_,rfl⟩
   unfold cG;rw[OW h1];rfl
  ·have at1:Cg (".hmK":Str).cps.toList v=some ((".hmK":Str).cps.toList.getD v.toNat 0):=by
    have:v=1\/v=2\/v=3:=by omega
    rcases this with rfl|rfl|rfl<;>decide+kernel
   have fl:=qr (n:=fr) (by omega);refine⟨_,rfl,_,rfl,fr,rfl,(by omega),_,rfl,_,_,_,rfl,rfl,(by decide+kernel),at1,_,_,rfl,rfl,?_,_,_,rfl,rfl,?_,?_⟩
   ·rw[O2]
    show(kY fr).length+1<=_;omega
   ·rw[O2,PV]
    show tx.length+((kY fr).length+1)<=_;omega
   ·refine⟨some (V.int v),?_,rfl⟩
    unfold cG;rw[OV h1];rfl
 ·subst e e1
  rw[OU,PB (OZ _)];obtain⟨b1,b2⟩:=sS ps ("",0) (by show 0+_<=_;omega);have b0:("":Str).length=0:=by decide+kernel
  unfold fJ at k;generalize ps.foldl cG ("",0)=pr at*;obtain⟨tx,fr⟩:=pr;have b1:tx.length<=("":Str).length+3*ps.length:=b1;have b2:fr<=0+ps.length:=b2;have fl:=qr (n:=fr) (by omega);exact⟨_,rfl,_,rfl,fr,rfl,(by omega),_,_,rfl,rfl,(by rw[O2];show tx.length+(kY fr).length<=_;omega),k⟩
def jh(c:Nat):Str:=⟨#[97+c%13]⟩++((toString (((c/13+1:Nat)):Int):String):Str)
def KA:Sp:=λvs H Q _=>∃(c:Nat),vs=[.int (c:Nat)]/\c<169/\Q (.str (jh c)) H
def kK{c:Nat}(h:c<169):(jh c).length<=3:=by
 have all:∀m:Fin 13,((toString (((m.val+1:Nat)):Int):String):Str).length<=2:=by decide+kernel
 have:=show((toString (((c/13+1:Nat)):Int):String):Str).length<=2 from all ⟨c/13,by omega⟩
 unfold jh;rw[PV];show 1+_<=3;omega
def Am:aB ["cell"] ["cell"] (ao (top 67)):=aR
def n_(T:Tx K mg a):a4 P w K mg base (cX P w) 1 a.gn a.u9 ["cell"] KA:=by
 refine T.gn.F.lL Am λcdv A outer s H vs Q E hr h=>?_;obtain⟨c,rfl,hc,k⟩:=h;refine⟨_,(aj (aF (bz dB (bj AU (CY T.Fm) (bz Hu (pv 0) (mT T.zf)) (λ_ _=>rfl)) (mW oa rfl T.Gg (by decide+kernel) (aa (bz gN (bz Ek (pv 0) (mT T.zf)) az) ah))))),?_⟩;have e1:((c:Nat):Int)%13=((c%13:Nat):Int):=by omega
 have e2:((c:Nat):Int)/13+1=((c/13+1:Nat):Int):=by omega
 have at1:Cg ("abcdefghijklm":Str).cps.toList (((c:Nat):Int)%13)=some (97+c%13):=by
  rw[e1];have all:∀m:Fin 13,Cg ("abcdefghijklm":Str).cps.toList ((m.val:Nat):Int)=some (97+m.val):=by decide+kernel
  exact all ⟨c%13,by omega⟩
 have nl:=kK hc;unfold jh at k nl;rw[PV]at nl;refine⟨_,rfl,_,_,rfl,rfl,(by show(0:Int)<13;decide),_,_,_,rfl,rfl,(by decide+kernel),at1,_,rfl,_,_,rfl,rfl,⟨by decide,by decide⟩,_,_,rfl,rfl,_,rfl,qw (by omega),?_⟩;rw[e2];refine⟨_,_,rfl,rfl,?_,k⟩;rw[O2];omega
def vk{α:Type}(f:Nat->List α)(b:Nat)(h:∀i,(f i).length=b):∀n,((List.range n).flatMap f).length=b*n
 |0=>rfl
 |n+1=>by rw[kM,Pd,vk f b h n,h n,QU]
def kU(wide high:Nat):(bt wide high).length=wide*high:=vk _ _ (λi=>by rw[OU,Qc]) _
def wH{wide high:Nat}{v:Int}(hw:wide<=13)(hh:high<=13)(h:v∈bt wide high):∃n:Nat,v=(n:Nat)/\n<169:=by
 unfold bt at h;obtain⟨y,hy,hv⟩:=Qn.mp h;obtain⟨x,hx,rfl⟩:=Pg.mp hv;have hy:=Pl.mp hy;have hx:=Pl.mp hx;exact⟨13*(high-1-y)+x,rfl,by omega⟩
def GD(ns:List Int):∀(left f:Nat)(beh:Bool)(ps qs:List Int)(z:Str)(n:Nat)(r:List Int×List Int×Str×Nat),eF ns f left beh ps qs z n=.ok r->z.cps.toList.length<=3->(∀v∈ps,0<=v/\v<=3)->(∀v∈r.1,0<=v/\v<=3)/\r.2.2.1.cps.toList.length<=3:=by
 intro left
 induction left using Nat.strongRecOn with
 |_ left ih=>
  intro f beh ps qs z n r h hz hv;cases f with
  |zero=>cases h
  |succ f=>
   unfold eF at h
   by_cases h0:left=0
   ·rw[OW h0]at h
    cases h;exact⟨hv,hz⟩
   ·rw[OV h0]at h
    by_cases hb:beh=false/\bd fL ns n=true
    ·rw[OW hb]at h
     cases hm:manyN (left:Int) ns n with
     |error e=>rw[hm]at h;cases h
     |ok p=>
      obtain⟨v,n'⟩:=p;obtain⟨m,rfl,m1,m2⟩:=kX hm;rw[hm]at h;refine ih (left-m) (by omega) f _ _ _ _ _ r h hz λv hv'=>?_;rcases Pk.mp hv' with z|z
      ·exact hv v z
      ·rw[(List.mem_replicate.mp z).2]
       exact⟨by decide,by decide⟩
    ·rw[OV hb]at h
     cases hm:putN z ns n with
     |error e=>rw[hm]at h;cases h
     |ok p=>
      rw[hm]at h;unfold putN at hm;cases hk:cN z ns n with
      |none=>rw[hk]at hm;cases hm
      |some k=>
       rw[hk]at hm;cases hm;have:=(iB hk).1;refine ih (left-1) (by omega) f _ _ _ _ _ r h ?_ λv hv'=>?_
       ·split
        ·decide+kernel
        ·exact hz
       ·rcases Pk.mp hv' with z|z
        ·exact hv v z
        ·rw[Pj]at z
         subst z;exact⟨by omega,by omega⟩
def BA(ns:List Int)(wide:Nat):∀(k:Nat)(first:Bool)(ps qs:List Int)(z:Str)(n:Nat)(r:List Int×List Int×Str×Nat),fO ns wide k first ps qs z n=.ok r->z.cps.toList.length<=3->(∀v∈ps,0<=v/\v<=3)->(∀v∈r.1,0<=v/\v<=3)/\r.1.length=ps.length+wide*k/\r.2.1.length=qs.length+wide*k
 |0,_,_,_,_,_,_,h,_,hv=>by cases h;exact⟨hv,rfl,rfl⟩
 |k+1,first,ps,qs,z,n,r,h,hz,hv=>by
  unfold fO at h;cases h1:(if first=true then Except.ok n else da ns [47] n)with
  |error e=>rw[h1]at h;cases h
  |ok n1=>
   rw[h1]at h;dsimp only at h;cases h2:eF ns (wide+1) wide false ps qs z n1 with
   |error e=>rw[h2]at h;cases h
   |ok p=>
    obtain⟨ps',qs',z',n2⟩:=p;rw[h2]at h;obtain⟨v1,z1⟩:=GD _ _ _ _ _ _ _ _ _ h2 hz hv;obtain⟨q1,q2⟩:=Cb _ _ _ _ _ _ _ _ _ h2;obtain⟨v2,l1,l2⟩:=BA ns wide k false ps' qs' z' n2 r h z1 v1;replace q1:ps'.length=ps.length+wide:=q1;replace q2:qs'.length=qs.length+wide:=q2;exact⟨v2,by rw[l1,q1,QU];omega,by rw[l2,q2,QU];omega⟩
def zQ{wide high:Nat}{ns ps qs:List Int}{t:Int}(h:jk wide high ns=.ok (ps,qs,t)):(∀v∈ps,0<=v/\v<=3)/\ps.length=wide*high/\qs.length=wide*high/\(t=0\/t=1):=by
 unfold jk at h;cases h1:fO ns wide high true [] [] "hmK" 0 with
 |error e=>rw[h1]at h;cases h
 |ok r=>
  obtain⟨v1,l1,l2⟩:=BA ns wide high true [] [] "hmK" 0 r h1 (by decide+kernel) (λv hv=>by cases hv);obtain⟨ps',qs',z',n⟩:=r;rw[h1]at h;dsimp only at h;cases h2:da ns [32] n with
  |error e=>rw[h2]at h;cases h
  |ok n1=>
   rw[h2]at h;dsimp only at h;cases h3:aX "hk" ns n1 with
   |error e=>rw[h3]at h;cases h
   |ok p=>
    obtain⟨d,rfl,hd⟩:=dN h3;have hd:=(iB hd).1;have l2':("hk":Str).cps.toList.length=2:=by decide+kernel
    rw[h3]at h;replace h:(if n1+1<ns.length then Except.error (n1+1)else Except.ok (ps',qs',((d:Nat):Int)))=Except.ok (ps,qs,t):=h;split at h
    ·cases h
    ·cases h
     exact⟨v1,by simpa using l1,by simpa using l2,by omega⟩
def wx(r:R0):List (Int×Int×Int)->List Int->Except Int (List Int)
 |[],acc=>.ok acc
 |p::l,acc=>if iF (r.ground.getD p.1.toNat 0) p.2.1=true then wx r l (acc.set p.1.toNat p.2.1)else .error p.2.2
def Jn(a:Ad)(H:Hp)(kd pl:Int)(E:XK):Prop:=∀(H':Hp)(e d:Addr)(cx:Bool),aE H H'->H' e=some (XO e a.bT (some d) cx)->H' d=some (XD d [("kind",.int kd),("place",.int pl)])->E (.ref a.bT) (some e) H'
def Jn.mono{H H1:Hp}{kd pl:Int}{E:XK}(h:Jn a H kd pl E)(s:aE H H1):Jn a H1 kd pl E:=λH' e d cx q=>h H' e d cx (s.trans q)
def GQ{H H1:Hp}{kd pl:Int}{E:XK}{cx:Bool}(h:Jn a H kd pl E)(s:aE H H1)(e d:Addr)(n1:H1 e=none)(n2:H1 d=none)(n3:d≠e):E (.ref a.bT) (some e) (upd (upd H1 d (XD d [("kind",.int kd),("place",.int pl)])) e (XO e a.bT (some d) cx)):=
 h _ e d cx (s.trans ((aC n2).trans (aC (by rw[ak (Pb n3)];exact n1)))) ai (by rw[ak n3,ai])
def FC(a:Ad):Sp:=λvs H Q E=>∃(A:RA)(r:R0)(x dx p q:Addr)(ps qs:List Int)(z:Str)(t:Int),vs=[.ref A.x,.ref x]/\oN a H A r/\jd a H x dx p q ps qs z t/\(∀v∈ps,0<=v/\v<=3)/\ps.length=r.wide*r.high/\qs.length=r.wide*r.high/\(t=0\/t=1)/\
 (match wx r ((bt r.wide r.high).zip (ps.zip qs)) (List.replicate 169 0)with
  |.ok l=>∀H' y dy pp,aE H H'->v7 a H' y dy pp l t->Q (.ref y) H'
  |.error pl=>Jn a H 2 pl E)
def m5:aB ["rules","draft","pieces","told","cell"] ["rules","draft"] (ao (top 59)):=aR
def E9(T:Tx K mg a):a4 P w K mg base (cX P w) 3 a.qa a.Bt ["rules","draft"] (FC a):=by
 refine T.qa.F.oQ m5 λcdv A outer s H vs Q E hr h=>?_;obtain⟨A',r,x,dx,p,q,ps,qs,z,t,rfl,R,Ld,hv,lp,lq,ht,k⟩:=h;refine⟨_,(ae (sF (i:=2) (own:=[("cell",4)]) rfl m5.nd rfl rfl rfl (dP rfl T.g_ (aa (mT T.Au) ah)) (cq rfl) (λ_ _ _ _ _=>(kR 4 m5.nd)) (λ_ _ _ _ _=>d8) (λ_ _ _ _ _=>(mT T.i7))) (ae (dL Qh rfl (JE rfl T.vd (aa (dn T.ca (fP T) hr aK (aa (ay (pv 0) rfl) (aa (ay (pv 0) rfl) ah))) ah)) (um rfl (fi (kR 3 m5.nd) (fi (kR 4 m5.nd) qB))) (ae (yh (bj a_ (ay (pv 1) rfl) (pv 3) (λ_ _=>rfl)) (xz (pv 2) (pv 4) set_list (λ_=>rfl))) (aj (bG (lH (dC (dn T.fU (nN T) hr aK (aa (bj a_ (ay (pv 0) rfl) (pv 4) (λ_ _=>rfl)) (aa (bj a_ (pv 2) (pv 4) (λ_ _=>rfl)) ah))))) (aj (gb aA hr.hd T.u4 (mf T) T.cK.b (hr.d1) rfl T.db.m (aa az (aa (bj a_ (ay (pv 1) rfl) (pv 3) (λ_ _=>rfl)) ah)))) aW)))) (aj (aF (FB T.rS (jp T) hr T.bR T.b6 aK (aa (pv 2) (aa (ay (pv 1) rfl) ah))))))),?_⟩;have bw:=R.ok.w;have bh:=R.ok.h;refine⟨_,rfl,(by omega),(by omega),λD hD=>iJ (J:=EN 0 169) (n:=169) (λj=>List.replicate j (V.int 0)) hD rfl (λj H h _=>h) (λH _=>OZ _) (λj H' hj s2 e2 y H2 hy=>?_) λH1 s1 h1=>?_⟩
 ·obtain⟨rfl,rfl⟩:=hy
  refine⟨rfl,?_⟩;exact Got.of hD s2 e2 (aE.refl _) (by rw[PP];omega) Ry
 ·have R1:=R.same s1
  refine⟨_,rfl,A'.x,_,_,_,_,rfl,R1.ins,T.aU.cl,T.gz,rfl,_,rfl,A'.x,_,_,_,_,rfl,R1.ins,T.aU.cl,T.iY,rfl,r.wide,r.high,rfl,bw,bh,λH2 c s2 nc h2=>⟨c,_,rfl,a0.of h2,?_⟩⟩;have S2:=s1.trans s2;have nc0:H c=none:=s1.free nc;have cD:c≠D:=Pb (au h1 nc);generalize hl:(bt r.wide r.high).zip (ps.zip qs)=l at*;refine tI (J:=Ol K c) (n:=(bt r.wide r.high).length) (λi σ H'=>∃(u v:Option V)(acc:List Int),σ=[some (.ref A'.x),some (.ref x),some (.ref D),u,v]/\aE H H'/\H' c=some (.lst ((bt r.wide r.high).map V.int))/\H' D=some (.lst (acc.map V.int))/\rZ acc/\wx r l (List.replicate 169 0)=wx r (l.drop i) acc) ⟨_,_,List.replicate 169 0,rfl,S2,h2,by rw[List.map_replicate];exact s2 _ _ h1,⟨PP,λc=>by simp only[List.getD,Qv];split<;>exact⟨by decide,by decide⟩⟩,rfl⟩ (λi σ H3 hi⟨u,v,acc,es,s3,c3,d3,w3,hs⟩=>?_) (λσ H3⟨u,v,acc,es,s3,c3,d3,w3,hs⟩=>?_) (λi σ H3 hi⟨u,v,acc,es,s3,c3,d3,w3,hs⟩ y H4 hy=>?_) λσ H3⟨u,v,acc,es,s3,c3,d3,w3,hs⟩=>?_
  ·exact⟨_,V.int ((bt r.wide r.high)[i]'hi),a0.of c3,by simp⟩
  ·exact⟨_,a0.of c3,by rw[OU];exact OZ _⟩
  ·subst es
   obtain⟨t',vx,rfl,nt,rfl,hvx⟩:=hy;obtain⟨cv,hc,rfl⟩:=int_at (hvx _ (a0.of c3));obtain⟨n,rfl,n1⟩:=wH bw bh (Pw hc);have S4:=aC (o:= .tup [V.int (i:Nat),.int (n:Nat)]) nt;have s4:=s3.trans S4;have ip:i<ps.length:=by rw[lp,<-kU];exact hi
   have iq:i<qs.length:=by rw[lq,<-kU];exact hi
   have ap:=cR ip;have aq:=cR iq;obtain⟨v0,v3⟩:=hv (ps.getD i 0) (by rw[show ps.getD i 0=ps[i] by simp[List.getD,OY ip]];exact Rh ip);have hz:l[i]? =some (((n:Nat):Int),ps.getD i 0,qs.getD i 0):=by
    rw[<-hl,Ra];refine⟨hc,?_⟩;show(ps.zip qs)[i]? =some (ps.getD i 0,qs.getD i 0);rw[Ra];simp[List.getD,OY ip,OY iq]
   obtain⟨hi',ei⟩:=O6.mp hz;rw[Qr hi',ei]at hs;replace hs:wx r l (List.replicate 169 0)=if iF (r.ground.getD n 0) (ps.getD i 0)=true then wx r (l.drop (i+1)) (acc.set n (ps.getD i 0))else .error (qs.getD i 0):=hs;have Dt:D≠t':=au d3 nt;have L4:=Ld.fx (l:=[]) s4.fx (by simp) (by simp) (by simp);have R4:=R.same s4;have d4:=S4 _ _ d3;have c4:=S4 _ _ c3;refine⟨t',_,rfl,iV.of ai,rfl,_,_,rfl,_,_,rfl,rfl,?_⟩;generalize upd H3 t' (.tup [V.int (i:Nat),.int (n:Nat)])=H4 at*;refine⟨_,rfl,x,_,_,_,_,rfl,L4.ins,T.bC.cl,T.dA,rfl,_,rfl,p,_,_,_,rfl,rfl,a0.of L4.EQ,at_of (j:=i) rfl ap,_,rfl,_,rfl,D,_,_,n,rfl,rfl,d4,zY (by rw[OU,w3.len];exact n1),?_⟩;rw[FS];have w5:=w3.set n v0 v3;have s5:aE H (upd H4 D (.lst ((acc.set n (ps.getD i 0)).map V.int))):=cY hD s4;have d5:(upd H4 D (.lst ((acc.set n (ps.getD i 0)).map V.int))) D=some (.lst ((acc.set n (ps.getD i 0)).map V.int)):=ai;have c5:(upd H4 D (.lst ((acc.set n (ps.getD i 0)).map V.int))) c=some (.lst ((bt r.wide r.high).map V.int)):=by rw[ak cD];exact c4
   generalize upd H4 D (.lst ((acc.set n (ps.getD i 0)).map V.int))=H5 at*;have R5:=R.same s5;have L5:=Ld.fx (l:=[]) s5.fx (by simp) (by simp) (by simp);have ag:=cR (l:=r.ground) (c:=n) (by rw[R.ok.g];exact n1);have ad:=cR (l:=acc.set n (ps.getD i 0)) (c:=n) (by rw[w5.len];exact n1);have eg:(acc.set n (ps.getD i 0)).getD n 0=ps.getD i 0:=by rw[k_,OW ⟨rfl,by rw[w3.len];exact n1⟩]
   rw[eg]at ad;refine⟨_,rfl,A'.x,_,_,_,_,rfl,R5.ins,T.aU.cl,T.dw,rfl,_,rfl,A'.gr,_,_,_,rfl,rfl,a0.of R5.gr,at_of (j:=n) rfl ag,_,rfl,_,rfl,D,_,_,_,rfl,rfl,a0.of d5,at_of (j:=n) rfl ad,_,_,rfl,_,rfl,fQ (λg1=>?_) λg1=>?_⟩
   ·rw[OV (λz=>by rw[z]at g1;cases g1)]at hs
    rw[hs]at k;exact⟨_,rfl,x,_,_,_,_,rfl,L5.ins,T.bC.cl,T.eW,rfl,_,rfl,q,_,_,_,rfl,rfl,a0.of L5.Fv,at_of (j:=i) rfl aq,rfl,(by show 2<=1000;decide),λe d n1 n2 n3=>GQ k s5 e d n1 n2 n3⟩
   ·rw[OW (by simpa using g1)]at hs
    exact⟨_,_,_,rfl,s5,c5,d5,w5,hs⟩
  ·subst es
   have ll:l.length=(bt r.wide r.high).length:=by
    rw[<-hl,Q5,Q5,lp,lq,kU];simp
   rw[Qy (by omega)]at hs;replace hs:wx r l (List.replicate 169 0)=.ok acc:=hs;rw[hs]at k;have L3:=Ld.fx (l:=[]) s3.fx (by simp) (by simp) (by simp);refine⟨_,rfl,_,rfl,x,_,_,_,_,rfl,L3.ins,T.bC.cl,T.jq,rfl,λy dy ny ndy nne=>⟨y,dy,D,t,rfl,ai,rfl,?_⟩⟩;rw[eQ];have S6:aE H3 (upd (upd H3 dy (.own y)) y (.ins a.bM dy (A4 D t))):=(aC ndy).trans (aC (by rw[ak (Pb nne)];exact ny));exact k _ y dy D (s3.trans S6) ⟨ai,S6 _ _ d3,w3,ht⟩
def uG(r:R0)(ns:List Int):Except (Int×Int) (List Int×Int):=match jk r.wide r.high ns with
 |.error m=>.error (1,(m:Nat))
 |.ok (ps,qs,t)=>match wx r ((bt r.wide r.high).zip (ps.zip qs)) (List.replicate 169 0)with
  |.error q=>.error (2,q)
  |.ok l=>.ok (l,t)
def Nf(a:Ad)(H:Hp)(r:R0)(ns:List Int):XK:=λc eo H'=>c=.ref a.e_/\∃e d m,eo=some e/\aE H H'/\H' e=some (XO e a.e_ (some d) true)/\H' d=some (XD d [("place",.int ((m:Nat):Int))])/\jk r.wide r.high ns=.error m
def NL(a:Ad):Sp:=λvs H Q E=>∃(A:RA)(r:R0)(g:Addr)(ns:List Int),vs=[.ref A.x,.ref g]/\oN a H A r/\H g=some (.lst (ns.map V.int))/\(match uG r ns with
 |.ok (l,t)=>∀H' y dy pp,aE H H'->v7 a H' y dy pp l t->Q (.ref y) H'
 |.error p=>Jn a H p.1 p.2 E)
def nP:aB ["rules","line","draft","stuck"] ["rules","line"] (ao (top 60)):=aR
def AV(T:Tx K mg a):a4 P w K mg base (cX P w) 7 a.jO a.vc ["rules","line"] (NL a):=by
 refine T.jO.F.oQ nP λcdv A outer s H vs Q E hr h=>?_;obtain⟨A',r,g,ns,rfl,R,hg,k⟩:=h;unfold uG at k;refine⟨_,(ae (C4 (E':=(Nf a H r ns)) (j_ hr.hd) (λpn xe LL=>(aj (eV 2 nP.nd (dn T.dE (qL T) hr LL.passes (aa (tF K rfl (pv 0) rfl) (aa (tF K rfl (pv 0) rfl) (aa (FB T.BK (o6 T) hr T.aD T.eA aK (aa (pv 1) ah)) ah))))))) (BG (i:=3) (j_ hr.hd) aA rfl T.hR.m T.hR.HI nP.nd rfl rfl (λe0 pn xe L2L=>(aj (xU L2L rfl T.u4 (mf T) T.cK.b (hr.d1) rfl T.db.m (aa az (aa (lV K rfl (pv 3) rfl) ah))))) C7)) (aj (aF (dn T.qa (E9 T) hr aA.passes (aa (pv 0) (aa (pv 2) ah)))))),?_,λC e H' hx=>?_⟩
 ·refine⟨_,rfl,A'.x,_,_,_,_,rfl,R.ins,T.aU.cl,T.gz,rfl,_,rfl,A'.x,_,_,_,_,rfl,R.ins,T.aU.cl,T.iY,rfl,_,rfl,λx rx nr nrx nne=>⟨x,rx,g,rfl,ai,rfl,?_⟩⟩
  rw[eQ];have S1:aE H (upd (upd H rx (.own x)) x (.ins a.aY rx (vM g 0))):=(aC nrx).trans (aC (by rw[ak (Pb nne)];exact nr));have r1:(upd (upd H rx (.own x)) x (.ins a.aY rx (vM g 0))) x=some (.ins a.aY rx (vM g 0)):=ai;generalize upd (upd H rx (.own x)) x (.ins a.aY rx (vM g 0))=H1 at*;have es:∀{H3:Hp},Ex x H1 H3->aE H H3:=λ{H3} f b o q=>f b o (S1 b o q) (au q nr);refine⟨x,rx,g,ns,r.wide,r.high,rfl,⟨r1,S1 _ _ hg⟩,R.ok.w,R.ok.h,?_⟩;cases hd:jk r.wide r.high ns with
  |error m=>exactλH3 e d f h1 h2=>⟨rfl,e,d,m,rfl,es f,h1,h2,hd⟩
  |ok v=>
   obtain⟨ps,qs,t⟩:=v;rw[hd]at k;dsimp only at k;obtain⟨v1,v2,v3,v4⟩:=zQ hd;intro H3 y dy p q z e3 L3;have s3:=es e3;refine⟨_,rfl,_,rfl,A',r,y,dy,p,q,ps,qs,z,t,rfl,R.same s3,L3,v1,v2,v3,v4,?_⟩;cases hs:wx r ((bt r.wide r.high).zip (ps.zip qs)) (List.replicate 169 0)with
   |error m=>
    rw[hs]at k;exact Jn.mono k s3
   |ok l=>
    rw[hs]at k;exactλH4 y dy pp s4=>k H4 y dy pp (s3.trans s4)
 ·obtain⟨hC,e',d,m,he',s1,h1,h2,hd⟩:=hx
  cases hC;cases he';rw[hd]at k;refine⟨T.hR.cl,λ_=>?_,λz=>absurd rfl z⟩;exact⟨_,rfl,e,_,d,_,_,_,rfl,h1,h2,T.hR.cl,T.mH,rfl,⟨_,_,h1⟩,rfl,(by show 2<=1000;decide),λe3 d3 n1 n2 n3=>GQ k s1 e3 d3 n1 n2 n3⟩
def zg(z:Str):(codes z).length=z.length:=by
 unfold codes;rw[OU];show _=z.cps.size;simp
def xW{ps:List Int}(h:ps.length<=13):(fJ ps).length<=41:=by
 obtain⟨b1,b2⟩:=sS ps ("",0) (by show 0+_<=_;omega);have b0:("":Str).length=0:=by decide+kernel
 unfold fJ;generalize ps.foldl cG ("",0)=pr at*;obtain⟨tx,fr⟩:=pr;have b1:tx.length<=("":Str).length+3*ps.length:=b1;have b2:fr<=0+ps.length:=b2;have fl:=qr (n:=fr) (by omega);show(tx++kY fr).length<=41;rw[PV];omega
def CZ(l:List Nat)(b:Nat)(h:∀x∈l,x<=b):l.sum<=l.length*b:=by
 induction l with
 |nil=>simp
 |cons x l ih=>
  rw[Rn,Pt,Nat.succ_mul];have:=h x O8;have:=ih λy hy=>h y (Pa _ hy);omega
def uX(r:R0)(ps:List Int):List Int:=(bt r.wide r.high).map λ(c:Int)=>ps.getD c.toNat 0
def rowAt(r:R0)(ps:List Int)(i:Nat):List Int:=((uX r ps).drop (r.wide*i)).take r.wide
def fN(r:R0)(ps:List Int)(t:Int):Str:=Txt.join "/" ((List.range r.high).map λ(i:Nat)=>fJ (rowAt r ps i))++" "++⟨#[("hk":Str).cps.toList.getD t.toNat 0]⟩
def JD{l:List Int}{w i:Nat}(h:w*(i+1)<=l.length):Ag (l.map V.int) (some (((w*i:Nat)):Int)) (some (((w*(i+1):Nat)):Int))=((l.drop (w*i)).take w).map V.int:=by
 unfold Ag;have e:w*(i+1)=w*i+w:=QU w i;rw[HT.qh,HT.qh,OU,Nat.min_eq_left h,Nat.min_eq_left (by omega),e,Nat.add_sub_cancel_left,<-List.map_drop,<-List.map_take]
def G8(r:R0)(ps:List Int):(uX r ps).length=r.wide*r.high:=by
 unfold uX;rw[OU,kU]
def t_(r:R0)(ps:List Int)(i:Nat):(rowAt r ps i).length<=r.wide:=by
 unfold rowAt;rw[PK];omega
def Eu{r:R0}{ps:List Int}(W:rZ ps){i:Nat}{v:Int}(h:v∈rowAt r ps i):0<=v/\v<=3:=by
 have h:=Rx (List.mem_of_mem_take h);unfold uX at h;obtain⟨c,_,rfl⟩:=Pg.mp h;exact W.val _
def Nl(a:Ad):Sp:=λvs H Q _=>∃(A:RA)(r:R0)(x dx p:Addr)(ps:List Int)(t:Int),vs=[.ref A.x,.ref x]/\oN a H A r/\v7 a H x dx p ps t/\∀H' q,aE H H'->H q=none->H' q=some (.lst ((codes (fN r ps t)).map V.int))->Q (.ref q) H'
def fG:aB ["rules","position","told","cell","rows","row"] ["rules","position"] (ao (top 63)):=aR
def qS(T:Tx K mg a):a4 P w K mg base (cX P w) 3 a.gM a.sT ["rules","position"] (Nl a):=by
 refine T.gM.F.lL fG λcdv A outer s H vs Q E hr h=>?_;obtain⟨A',r,x,dx,p,ps,t,rfl,R,Pp,k⟩:=h;refine⟨_,(ae (eV 2 fG.nd (lS (own:=[("cell",3)]) rfl fG.nd (cP (dn T.ca (fP T) hr aK (aa (ay (pv 0) rfl) (aa (ay (pv 0) rfl) ah)))) (cq rfl) (λ_ _ _ _ _=>(kR 3 fG.nd)) (λ_ _ _ _ _=>d8) (λ_ _ _ _ _=>(bj (tS K rfl) (tF K rfl (pv 1) rfl) (pv 3) (λ_ _=>rfl))))) (ae (sF (i:=4) (own:=[("row",5)]) rfl fG.nd rfl rfl rfl (dP rfl T.g_ (aa (ay (pv 0) rfl) ah)) (cq rfl) (λ_ _ _ _ _=>(kR 5 fG.nd)) (λ_ _ _ _ _=>d8) (λ_ _ _ _ _=>(dn T.ly (Bi T) hr aK (aa (p9 (Hi K rfl) (pv 2) (mw (bz pR (tF K rfl (pv 0) rfl) (pv 5))) (mw (bz pR (tF K rfl (pv 0) rfl) (bz gN (pv 5) az)))) ah)))) (aj (aF (dn T.ju (uV T) hr aK (aa (bz dB (bz dB (jg PySem.F.plainAttrs_str PySem.F.slot_str_join PySem.F.type_str_join Ec a9 (aa (pv 4) ah)) a9) (bj AU (CY T.tp) (ay (pv 1) rfl) (λ_ _=>rfl))) ah)))))),?_⟩;have bw:=R.ok.w;have bh:=R.ok.h;refine⟨_,rfl,A'.x,_,_,_,_,rfl,R.ins,T.aU.cl,T.gz,rfl,_,rfl,A'.x,_,_,_,_,rfl,R.ins,T.aU.cl,T.iY,rfl,r.wide,r.high,rfl,bw,bh,λH1 c s1 nc h1=>⟨c,rfl,⟨_,a0.of h1⟩,λD hD=>iJ (J:=De K c) (n:=(bt r.wide r.high).length) (λi=>((((bt r.wide r.high).take i).map λ(c:Int)=>V.int (ps.getD c.toNat 0)))) hD (by simp) (λi H hi s=>⟨_,V.int ((bt r.wide r.high)[i]'hi),a0.of (s _ _ h1),by simp⟩) (λH s=>⟨_,a0.of (s _ _ h1),by rw[OU];exact OZ _⟩) (λi H' hi s2 e2 y H2 hy=>?_) λH2 s2 e2=>?_⟩⟩
 ·obtain⟨rfl,hy⟩:=hy
  obtain⟨cv,hc,rfl⟩:=int_at (hy _ (a0.of (s2 _ _ h1)));obtain⟨n,rfl,n1⟩:=wH bw bh (Pw hc);have P2:=Pp.same (s1.trans s2);have ap:=cR (l:=ps) (c:=n) (by rw[Pp.ok.len];exact n1);refine⟨rfl,_,rfl,x,_,_,_,_,rfl,P2.ins,T.bR.cl,T.bV,rfl,_,rfl,p,_,_,_,rfl,rfl,a0.of P2.pc,at_of (j:=n) rfl ap,?_⟩;refine Got.of hD s2 e2 (aE.refl _) ?_ (pP (λ(c:Int)=>V.int (ps.getD c.toNat 0)) hc);rw[OU,PK];have:=kU r.wide r.high;have:r.wide*r.high<=13*13:=Ru bw bh;omega
 ·have e2:H2 D=some (.lst ((uX r ps).map V.int)):=by
   rw[e2,PB (OZ _)];unfold uX;rw[Qa];rfl
  have S2:=s1.trans s2;have R2:=R.same S2;refine⟨_,rfl,A'.x,_,_,_,_,rfl,R2.ins,T.aU.cl,T.iY,rfl,_,rfl,(by omega),(by omega),λD2 hD2=>iJ (J:=EN 0 r.high) (n:=r.high) (λj=>((List.range j).map λ(i:Nat)=>V.str (fJ (rowAt r ps i)))) hD2 rfl (λj H h _=>h) (λH _=>OZ _) (λj H' hj s3 e3 y H3 hy=>?_) λH3 s3 e3=>?_⟩
  ·obtain⟨rfl,rfl⟩:=hy
   have R3:=R2.same s3;have D3:=s3 _ _ e2;have em1:((r.wide:Nat):Int)*(0+((j:Nat):Int))=((r.wide*j:Nat):Int):=by rw[Int.zero_add];rfl
   have em2:((r.wide:Nat):Int)*(0+((j:Nat):Int)+1)=((r.wide*(j+1):Nat):Int):=by rw[Int.zero_add];rfl
   refine⟨rfl,_,rfl,_,rfl,A'.x,_,_,_,_,rfl,R3.ins,T.aU.cl,T.gz,rfl,_,rfl,_,_,rfl,rfl,.inl ⟨by omega,by omega⟩,_,rfl,_,rfl,A'.x,_,_,_,_,rfl,R3.ins,T.aU.cl,T.gz,rfl,_,rfl,_,_,rfl,rfl,_,_,rfl,rfl,.inl ⟨by omega,by omega⟩,_,rfl,D,_,rfl,a0.of D3,λp5 np5=>?_⟩;rw[em1,em2,JD (by rw[G8];exact Nat.mul_le_mul_left _ hj)];have S5:=aC (o:= .lst ((((uX r ps).drop (r.wide*j)).take r.wide).map V.int)) np5;refine⟨p5,rowAt r ps j,rfl,a0.of ai,PD (t_ r ps j) bw,λv hv=>Eu Pp.ok hv,?_⟩;exact Got.of hD2 s3 e3 S5 (by rw[OU,Qc];omega) (pA (λ(i:Nat)=>V.str (fJ (rowAt r ps i))) j)
  ·have S3:=S2.trans s3
   have P3:=Pp.same S3;have e3:H3 D2=some (.lst (((List.range r.high).map λ(i:Nat)=>fJ (rowAt r ps i)).map V.str)):=by
    rw[e3,Qa];rfl
   have hsum:(((List.range r.high).map λ(i:Nat)=>fJ (rowAt r ps i)).map (·.length)).sum<=13*41:=by
    refine PD (CZ _ 41 λy hy=>?_) ?_
    ·obtain⟨z,hz,rfl⟩:=Pg.mp hy
     obtain⟨i,_,rfl⟩:=Pg.mp hz;exact xW (PD (t_ r ps i) bw)
    ·rw[OU,OU,Qc]
     exact QD _ bh
   have hl1:("/":Str).length=1:=by decide+kernel
   have hl2:(" ":Str).length=1:=by decide+kernel
   have hlen:((List.range r.high).map λ(i:Nat)=>fJ (rowAt r ps i)).length<=13:=by rw[OU,Qc];exact bh
   have hj:(Txt.join "/" ((List.range r.high).map λ(i:Nat)=>fJ (rowAt r ps i))).length<=13*41+13:=by
    rw[TL.join_eq];refine PD (StrLaws.join_length_le _ _) ?_;rw[hl1];omega
   have at1:Cg ("hk":Str).cps.toList t=some (("hk":Str).cps.toList.getD t.toNat 0):=by
    rcases Pp.tn with rfl|rfl<;>decide+kernel
   refine⟨rfl,_,rfl,"/",D2,_,rfl,rfl,.inl (a0.of e3),?_,_,_,rfl,rfl,?_,_,rfl,x,_,_,_,_,rfl,P3.ins,T.bR.cl,T.fg,rfl,_,_,_,rfl,rfl,(by decide+kernel),at1,_,_,rfl,rfl,?_,_,rfl,?_,λH4 q s4 nq h4=>?_⟩
   ·rw[hl1]
    omega
   ·rw[O2,hl2]
    omega
   ·rw[O2,PV,hl2]
    show _+1<=_;omega
   ·show(Txt.join "/" ((List.range r.high).map λ(i:Nat)=>fJ (rowAt r ps i))++" "++(⟨#[("hk":Str).cps.toList.getD t.toNat 0]⟩:Str)).length<=100000
    rw[PV,PV,hl2];show _+1<=_;omega
   ·exact k H4 q (S3.trans s4) (S3.free nq) h4
def Bj(r:R0)(ps:List Int):0<=fY r ps/\fY r ps<=3:=by
 unfold fY;split
 ·exact⟨by decide,by decide⟩
 ·split<;>exact⟨by decide,by decide⟩
def AY(r:R0)(ps:List Int)(t:Int):0<=overOf r ps t/\overOf r ps t<=3:=by
 unfold overOf;split
 ·exact⟨by decide,by decide⟩
 ·exact Bj r ps
def oq(l:List Int):Str:=Txt.join "," (l.map λ(c:Int)=>jh c.toNat)
def j9(s t:Nat):Str:=jh s++"-"++jh t
def jn(s t:Nat)(l:List Int):Str:=if 0<l.length then j9 s t++("x"++oq l)else j9 s t
def p8(s t:Nat)(l:List Int)(o:Int):Str:=if 0<o then jn s t l++("#"++((toString o:String):Str))else jn s t l
def sW(r:R0)(ps:List Int)(tn:Int)(s t:Nat):Str:=p8 s t (bW r (bb ps s t) t) (overOf r (bA r ps s t) (1-tn))
def Eb{s t:Nat}(hs:s<169)(ht:t<169):(j9 s t).length<=7:=by
 unfold j9;rw[PV,PV];have:=kK hs;have:=kK ht;have:("-":Str).length=1:=by decide+kernel
 omega
def xB{l:List Int}(h4:l.length<=4)(hl:∀v∈l,v.toNat<169):((l.map λ(c:Int)=>jh c.toNat).map (·.length)).sum<=12/\(oq l).length<=16:=by
 have e1:((l.map λ(c:Int)=>jh c.toNat).map (·.length)).sum<=12:=by
  refine PD (CZ _ 3 λy hy=>?_) ?_
  ·obtain⟨z,hz,rfl⟩:=Pg.mp hy
   obtain⟨c,hc,rfl⟩:=Pg.mp hz;exact kK (hl c hc)
  ·rw[OU,OU]
   omega
 refine⟨e1,?_⟩;unfold oq;rw[TL.join_eq];refine PD (StrLaws.join_length_le _ _) ?_;have:(",":Str).length=1:=by decide+kernel
 rw[this,OU];omega
def Ei{s t:Nat}{l:List Int}(hs:s<169)(ht:t<169)(h4:l.length<=4)(hl:∀v∈l,v.toNat<169):(jn s t l).length<=24:=by
 unfold jn;have:=Eb hs ht;split
 ·rw[PV,PV]
  have:=(xB h4 hl).2;have:("x":Str).length=1:=by decide+kernel
  omega
 ·omega
def tW{o:Int}(h0:0<=o)(h3:o<=3):((toString o:String):Str).length<=1:=by
 have:o=0\/o=1\/o=2\/o=3:=by omega
 rcases this with rfl|rfl|rfl|rfl<;>decide+kernel
def Dn{s t:Nat}{l:List Int}{o:Int}(hs:s<169)(ht:t<169)(h4:l.length<=4)(hl:∀v∈l,v.toNat<169)(h0:0<=o)(h3:o<=3):(p8 s t l o).length<=26:=by
 unfold p8;have:=Ei hs ht h4 hl;split
 ·rw[PV,PV]
  have:=tW h0 h3;have:("#":Str).length=1:=by decide+kernel
  omega
 ·omega
def Ng(a:Ad):Sp:=λvs H Q _=>∃(H0:Hp)(r:R0)(ps:List Int)(tn:Int)(s t:Nat)(x:Addr),vs=[.ref x]/\A7 a H0 H r ps tn s t x/\zB r/\s<169/\t<169/\∀H' q,aE H H'->H q=none->H' q=some (.lst ((codes (sW r ps tn s t)).map V.int))->Q (.ref q) H'
def fD:aB ["move","text","cell"] ["move"] (ao (top 68)):=aR
def rb(T:Tx K mg a):a4 P w K mg base (cX P w) 2 a.gG a.sA ["move"] (Ng a):=by
 refine T.gG.F.lL fD λcdv A outer s H vs Q E hr h=>?_;obtain⟨H0,r,ps,tn,s',t,x,rfl,⟨dx,tk,af,ad,ap,_,_,h1,h2,h3⟩,Wr,hs,ht,k⟩:=h;refine⟨_,(ae (eV 1 fD.nd (bz dB (bz dB (dn T.gn (n_ T) hr aK (aa (ay (pv 0) rfl) ah)) a9) (dn T.gn (n_ T) hr aK (aa (ay (pv 0) rfl) ah)))) (ae (bG (aI oJ (bu bP rfl T.mE (by decide+kernel) (aa (ay (pv 0) rfl) ah)) az (aJ _)) (aj (GN 1 fD.nd (bz dB a9 (jg PySem.F.plainAttrs_str PySem.F.slot_str_join PySem.F.type_str_join Ec a9 (aa (lS (own:=[("cell",2)]) rfl fD.nd (cP (ay (pv 0) rfl)) (cq rfl) (λ_ _ _ _ _=>(kR 2 fD.nd)) (λ_ _ _ _ _=>d8) (λ_ _ _ _ _=>(dn T.gn (n_ T) hr aK (aa (pv 2) ah)))) ah))) Ak)) aW) (ae (bG (aI oJ (ay (pv 0) rfl) az (aJ _)) (aj (GN 1 fD.nd (bz dB a9 (mW oa rfl T.Gg (by decide+kernel) (aa (ay (pv 0) rfl) ah))) Ak)) aW) (aj (aF (dn T.ju (uV T) hr aK (aa (pv 1) ah))))))),?_⟩;have l1:("-":Str).length=1:=by decide+kernel
 have lx:("x":Str).length=1:=by decide+kernel
 have lc:(",":Str).length=1:=by decide+kernel
 have lh:("#":Str).length=1:=by decide+kernel
 have n1:=kK hs;have n2:=kK ht;have tv:∀v∈bW r (bb ps s' t) t,v.toNat<169:=λv hv=>by
  obtain⟨c,rfl,c1⟩:=jM Wr ht hv;exact c1
 have t4:=im r (bb ps s' t) t;obtain⟨o0,o3⟩:=AY r (bA r ps s' t) (1-tn);unfold sW at k;have mt:∀v∈bW r (bb ps s' t) t,∃c:Nat,v=(c:Nat)/\c<169:=λv hv=>jM Wr ht hv;generalize bW r (bb ps s' t) t=tl at*;generalize overOf r (bA r ps s' t) (1-tn)=ov at*;have b1:=Eb hs ht;have b2:=Ei hs ht t4 tv;have b3:=Dn hs ht t4 tv o0 o3;obtain⟨tt1,tt2⟩:=xB t4 tv;refine⟨_,rfl,x,_,_,_,_,rfl,h1,T.bZ.cl,T.iG,rfl,s',rfl,hs,_,_,rfl,rfl,(by rw[O2];omega),_,rfl,x,_,_,_,_,rfl,h1,T.bZ.cl,T.g8,rfl,t,rfl,ht,_,_,rfl,rfl,(by rw[O2,PV];omega),?_⟩;refine⟨_,rfl,x,_,_,_,_,rfl,h1,T.bZ.cl,T.gC,rfl,tk,_,rfl,.inl (a0.of h2),_,_,rfl,rfl,_,rfl,gD (λg1=>?_) λg1=>?_⟩
 ·have g1:(((tl.map V.int).length:Nat):Int)>0:=O7 g1
  rw[OU]at g1;have e2:jn s' t tl=j9 s' t++("x"++oq tl):=OW (by omega);refine⟨_,rfl,rfl,_,rfl,x,_,_,_,_,rfl,h1,T.bZ.cl,T.gC,rfl,tk,rfl,⟨_,a0.of h2⟩,λD hD=>iJ (J:=De K tk) (n:=tl.length) (λi=>(((tl.take i).map λ(c:Int)=>V.str (jh c.toNat)))) hD (by simp) (λi H hi s=>⟨_,V.int (tl[i]'hi),a0.of (s _ _ h2),by simp⟩) (λH s=>⟨_,a0.of (s _ _ h2),by rw[OU];exact OZ _⟩) (λi H' hi s2 e2 y H2 hy=>?_) λH2 s2 e3=>?_⟩
  ·obtain⟨rfl,hy⟩:=hy
   obtain⟨cv,hc,rfl⟩:=int_at (hy _ (a0.of (s2 _ _ h2)));obtain⟨c,rfl,c1⟩:=mt _ (Pw hc);have tm:=pP (λ(c:Int)=>V.str (jh c.toNat)) hc;rw[show(((c:Nat):Int)).toNat=c from Px c]at tm;refine⟨rfl,_,rfl,c,rfl,c1,?_⟩;exact Got.of hD s2 e2 (aE.refl _) (by rw[OU,PK];omega) tm
  ·rw[PB (OZ _)]at e3
   have e3:H2 D=some (.lst ((tl.map λ(c:Int)=>jh c.toNat).map V.str)):=by
    rw[e3,Qa];rfl
   refine⟨",",D,_,rfl,rfl,.inl (a0.of e3),(by rw[lc,OU];omega),_,_,rfl,rfl,(by rw[O2,lx];show 1+(oq tl).length<=_;omega),_,_,rfl,rfl,?_,?_⟩
   ·rw[O2]
    show(j9 s' t).length+("x"++oq tl).length<=_;rw[PV,lx];omega
   ·have e2:jn s' t tl=j9 s' t++("x"++oq tl):=OW (by omega)
    refine⟨_,rfl,x,_,_,_,_,rfl,s2 _ _ h1,T.bZ.cl,T.f9,rfl,_,_,rfl,rfl,_,rfl,gD (λg2=>?_) λg2=>?_⟩
    ·have g2:ov>0:=O7 g2
     have e3:p8 s' t tl ov=jn s' t tl++("#"++((toString ov:String):Str)):=OW g2;rw[e3]at b3 k;rw[e2]at b3 k b2;have b4:=tW o0 o3;have k':=λH4 q s4 nq h4=>k H4 q (s2.trans s4) (s2.free nq) h4;refine⟨_,rfl,_,rfl,x,_,_,_,_,rfl,s2 _ _ h1,T.bZ.cl,T.f9,rfl,_,rfl,qw (by omega),_,_,rfl,rfl,(by rw[O2,lh];omega),_,_,rfl,rfl,?_,_,rfl,_,rfl,?_,k'⟩
     ·rw[O2]
      show(j9 s' t++("x"++oq tl)).length+(("#":Str)++((toString ov:String):Str)).length<=_;rw[PV (b:=((toString ov:String):Str)),lh];omega
     ·exact PD b3 (by decide)
    ·have g2:¬ov>0:=λz=>g2 (O0 z)
     have e3:p8 s' t tl ov=jn s' t tl:=OV g2;rw[e3]at b3 k;rw[e2]at b3 k;have k':=λH4 q s4 nq h4=>k H4 q (s2.trans s4) (s2.free nq) h4;exact⟨_,rfl,_,rfl,PD b3 (by decide),k'⟩
 ·have g1:¬(((tl.map V.int).length:Nat):Int)>0:=λz=>g1 (O0 z)
  rw[OU]at g1;have e2:jn s' t tl=j9 s' t:=OV (by omega);have s2:=aE.refl H;refine⟨_,rfl,x,_,_,_,_,rfl,s2 _ _ h1,T.bZ.cl,T.f9,rfl,_,_,rfl,rfl,_,rfl,gD (λg2=>?_) λg2=>?_⟩
  ·have g2:ov>0:=O7 g2
   have e3:p8 s' t tl ov=jn s' t tl++("#"++((toString ov:String):Str)):=OW g2;rw[e3]at b3 k;rw[e2]at b3 k b2;have b4:=tW o0 o3;have k':=λH4 q s4 nq h4=>k H4 q (s2.trans s4) (s2.free nq) h4;refine⟨_,rfl,_,rfl,x,_,_,_,_,rfl,s2 _ _ h1,T.bZ.cl,T.f9,rfl,_,rfl,qw (by omega),_,_,rfl,rfl,(by rw[O2,lh];omega),_,_,rfl,rfl,?_,_,rfl,_,rfl,?_,k'⟩
   ·rw[O2]
    show(j9 s' t).length+(("#":Str)++((toString ov:String):Str)).length<=_;rw[PV (b:=((toString ov:String):Str)),lh];omega
   ·exact PD b3 (by decide)
  ·have g2:¬ov>0:=λz=>g2 (O0 z)
   have e3:p8 s' t tl ov=jn s' t tl:=OV g2;rw[e3]at b3 k;rw[e2]at b3 k;have k':=λH4 q s4 nq h4=>k H4 q (s2.trans s4) (s2.free nq) h4;exact⟨_,rfl,_,rfl,PD b3 (by decide),k'⟩
def d_:List Int->List Int->Nat
 |x::l,y::m=>if x=y then d_ l m+1 else 0
 |_,_=>0
def Bq(l:List Int):d_ l []=0:=by cases l<;>rfl
def GM:Sp:=λvs H Q _=>∃(p q:Addr)(l m:List Int),vs=[.ref p,.ref q]/\H p=some (.lst (l.map V.int))/\H q=some (.lst (m.map V.int))/\Q (.int (d_ l m:Nat)) H
def jv:aB ["line","other","many"] ["line","other"] (ao (top 69)):=aR
def uq(T:Tx K mg a):a4 P w K mg base (cX P w) 1 a.fv a.oK ["line","other"] GM:=by
 refine T.fv.F.lL jv λcdv A outer s H vs Q E hr h=>?_;obtain⟨p,q,l,m,rfl,hp,hq,k⟩:=h;refine⟨_,(ae (eV 2 jv.nd az) (ae (jF Ql (PW.pt (gR (aI uD (pv 2) (bu (zT rfl) rfl T.JT (by decide+kernel) (aa (bu bP rfl T.mE (by decide+kernel) (aa (pv 0) ah)) (aa (bu bP rfl T.mE (by decide+kernel) (aa (pv 1) ah)) ah))) (aJ _)) (fe (aI bQ (bj a_ (pv 0) (pv 2) (λ_ _=>rfl)) (bj a_ (pv 1) (pv 2) (λ_ _=>rfl)) (aJ _))))) (aj (GN 2 jv.nd az t7))) (aj (aF (pv 2))))),?_⟩;refine⟨λb σ H'=>∃i:Nat,σ=[some (.ref p),some (.ref q),some (.int (i:Nat))]/\H'=H/\i+b=min l.length m.length/\d_ l m=i+d_ (l.drop i) (m.drop i),⟨min l.length m.length,0,rfl,rfl,by omega,by simp⟩,?_⟩
 rintro b σ H1 ⟨i,rfl,rfl,hi,hc⟩
 refine⟨_,rfl,_,rfl,p,_,rfl,.inl (a0.of hp),_,rfl,q,_,rfl,.inl (a0.of hq),_,_,rfl,_,_,rfl,rfl,_,rfl,gD (λg1=>?_) λg1=>?_⟩
 ·have g1:=O7 g1
  rw[OU,OU]at g1;have il:i<l.length/\i<m.length:=by
   by_cases hlm:((m.length:Nat):Int)<((l.length:Nat):Int)
   ·rw[OW hlm]at g1
    omega
   ·rw[OV hlm]at g1
    omega
  have al:=cR il.1;have am:=cR il.2;have el:l.drop i=l.getD i 0::l.drop (i+1):=by rw[Qr il.1];simp[List.getD,OY il.1]
  have em:m.drop i=m.getD i 0::m.drop (i+1):=by rw[Qr il.2];simp[List.getD,OY il.2]
  rw[el,em]at hc;replace hc:d_ l m=i+if l.getD i 0=m.getD i 0 then d_ (l.drop (i+1)) (m.drop (i+1))+1 else 0:=hc;refine⟨_,rfl,_,rfl,p,_,_,_,rfl,rfl,a0.of hp,at_of (j:=i) rfl al,_,rfl,_,rfl,q,_,_,_,rfl,rfl,a0.of hq,at_of (j:=i) rfl am,rfl,_,rfl,dH (λg2=>?_) λg2=>?_⟩
  ·rw[OW g2]at hc
   exact⟨_,λ_ _ h=>h,_,rfl,_,_,rfl,rfl,b-1,by omega,i+1,rfl,rfl,by omega,by omega⟩
  ·rw[OV g2]at hc
   rw[show d_ l m=i by omega]at k;exact⟨_,rfl,k⟩
 ·have g1:¬_:=λz=>g1 (O0 z)
  rw[OU,OU]at g1;have il:l.length<=i\/m.length<=i:=by
   by_cases hlm:((m.length:Nat):Int)<((l.length:Nat):Int)
   ·rw[OW hlm]at g1
    omega
   ·rw[OV hlm]at g1
    omega
  have e0:d_ (l.drop i) (m.drop i)=0:=by
   rcases il with z|z
   ·rw[Qy z]
    rfl
   ·rw[Qy z]
    exact Bq _
  rw[e0]at hc;rw[show d_ l m=i by omega]at k;exact⟨_,rfl,k⟩
def An{H:Hp}:∀(l:List Int),wK K H (l.map V.int) (l.map PyData.int)
 |[]=>.nil
 |x::l=>.cons (.int x) (An l)
def lay_ints:∀(l:List Int),PyData.canLayAll0 (l.map PyData.int)=true
 |[]=>rfl
 |x::l=>by
  show(PyData.canLay0 (.int x)&&PyData.canLayAll0 (l.map PyData.int))=true;rw[lay_ints l];rfl
def wA:∀(l:List Int),PyData.depthAll (l.map PyData.int)=0
 |[]=>rfl
 |x::l=>by
  show max (PyData.depth (.int x)) (PyData.depthAll (l.map PyData.int))=0;rw[wA l];rfl
def shaped_ints(l:List Int):SeqAt.shaped (.list (l.map PyData.int))=true:=by
 unfold SeqAt.shaped;have e1:PyData.canLay0 (.list (l.map PyData.int))=PyData.canLayAll0 (l.map PyData.int):=rfl;have e2:PyData.depth (.list (l.map PyData.int))=PyData.depthAll (l.map PyData.int)+1:=rfl;rw[e1,e2,lay_ints,wA];rfl
def Bw:∀(l m:List Int),PyData.eqvAll (l.map PyData.int) (m.map PyData.int)=(l==m)
 |[],[]=>rfl
 |[],_::_=>rfl
 |_::_,[]=>rfl
 |x::l,y::m=>by
  show(PyData.eqv (.int x) (.int y)&&PyData.eqvAll (l.map PyData.int) (m.map PyData.int))=_;rw[Bw l m];rfl
def eR(r:R0)(ps:List Int)(t:Int)(e:Nat×Nat):List Int:=codes (sW r ps t e.1 e.2)
def KE(a:Ad)(H:Hp)(pl:Nat)(E:XK):Prop:=∀(H':Hp)(e d:Addr)(cx:Bool),aE H H'->H' e=some (XO e a.bK (some d) cx)->H' d=some (XD d [("place",.int (pl:Nat))])->E (.ref a.bK) (some e) H'
def Ks{H H1:Hp}{pl:Nat}{E:XK}{cx:Bool}(h:KE a H pl E)(s:aE H H1)(e d:Addr)(n1:H1 e=none)(n2:H1 d=none)(n3:d≠e):E (.ref a.bK) (some e) (upd (upd H1 d (XD d [("place",.int (pl:Nat))])) e (XO e a.bK (some d) cx)):=
 h _ e d cx (s.trans ((aC n2).trans (aC (by rw[ak (Pb n3)];exact n1)))) ai (by rw[ak n3,ai])
def wX(r:R0)(ps:List Int)(t:Int)(ns:List Int)(l:List (Nat×Nat)):Nat:=l.foldl (λ(b:Nat)(e:Nat×Nat)=>max b (d_ (eR r ps t e) ns)) 0
def NZ(a:Ad):Sp:=λvs H Q E=>∃(A:RA)(r:R0)(x dx p:Addr)(ps:List Int)(t:Int)(g:Addr)(ns:List Int),vs=[.ref A.x,.ref x,.ref g]/\oN a H A r/\v7 a H x dx p ps t/\H g=some (.lst (ns.map V.int))/\(match(aQ r ps t).find? λ(e:Nat×Nat)=>eR r ps t e==ns with
 |some e=>∀H' m,aE H H'->A7 a H H' r ps t e.1 e.2 m->Q (.ref m) H'
 |none=>KE a H (wX r ps t ns (aQ r ps t)) E)
def iK:aB ["rules","position","given","furthest","move","line"] ["rules","position","given"] (ao (top 70)):=aR
def z_(T:Tx K mg a):a4 P w K mg base (cX P w) 8 a.jN a.uC ["rules","position","given"] (NZ a):=by
 refine T.jN.F.oQ iK λcdv A outer s H vs Q E hr h=>?_;obtain⟨A',r,x,dx,p,ps,t,g,ns,rfl,R,Pp,hg,k⟩:=h;refine⟨_,(ae (eV 3 iK.nd az) (ae (dL Qh rfl (cP (dn T.jw (uY T) hr aK (aa (pv 0) (aa (pv 1) ah)))) (kR 4 iK.nd) (ae (eV 5 iK.nd (dn T.gG (rb T) hr aK (aa (pv 4) ah))) (ae (bG (aI (Lx hr.units) (pv 5) (pv 2) (aJ _)) (aj (aF (pv 4))) aW) (aj (eV 3 iK.nd (bu (zp rfl) rfl T.JG (by decide+kernel) (aa (pv 3) (aa (dn T.fv (uq T) hr aK (aa (pv 5) (aa (pv 2) ah))) ah)))))))) (aj (gb aA hr.hd T.wW (oS T) T.cB.b (hr.d1) rfl T.bX.m (aa (pv 3) ah))))),?_⟩;refine⟨_,rfl,_,rfl,A',r,x,dx,p,ps,t,rfl,R,Pp,λH1 q Ms s1 nq M1=>⟨q,rfl,⟨_,a0.of M1.l⟩,?_⟩⟩;refine gm (xs:=Ms.map V.ref) (λi σ H'=>∃u v,σ=[some (.ref A'.x),some (.ref x),some (.ref g),some (.int (wX r ps t ns ((aQ r ps t).take i):Nat)),u,v]/\aE H1 H'/\∀j e,j<i->(aQ r ps t)[j]? =some e->(eR r ps t e==ns)=false) ⟨_,_,rfl,aE.refl _,λj e h=>absurd h (Nat.not_lt_zero _)⟩ (λi σ H2 _⟨u,v,e,s2,h2⟩=>a0.of (s2 _ _ M1.l)) (λi y σ H2 hy⟨u,v,e,s2,h2⟩=>?_) λσ H2⟨u,v,e,s2,h2⟩=>?_
 ·subst e
  obtain⟨b,hb,rfl⟩:=rL hy;have il:i<(aQ r ps t).length:=by rw[<-M1.n];exact(O6.mp hb).1
  obtain⟨e,he⟩:∃e,(aQ r ps t)[i]? =some e:=⟨_,OY il⟩;have mm:=(M1.m i b e hb he).same s2;obtain⟨b1,b2⟩:=kF R.ok (Pw he);refine⟨_,rfl,H,r,ps,t,e.1,e.2,b,rfl,mm,R.ok,b1,b2,λH3 c s3 nc h3=>?_⟩;have S3:=(s1.trans s2).trans s3;have g3:=S3 _ _ hg;refine⟨_,rfl,_,rfl,.list ((eR r ps t e).map PyData.int),.list (ns.map PyData.int),.lst (a0.of h3) (An _),.lst (a0.of g3) (An _),shaped_ints _,shaped_ints _,_,rfl,?_⟩;have eb:PyData.eqv (.list ((eR r ps t e).map PyData.int)) (.list (ns.map PyData.int))=(eR r ps t e==ns):=Bw _ _;rw[eb];refine fQ (λg1=>?_) λg1=>?_
  ·have ef:(aQ r ps t).find? (λ(e:Nat×Nat)=>eR r ps t e==ns)=some e:=by
    rw[List.find?_eq_some_iff_getElem];refine⟨g1,i,il,?_,λj hj=>?_⟩
    ·rw[OY il]at he
     exact Pu he
    ·have hjl:j<(aQ r ps t).length:=by omega
     rw[h2 j _ hj (OY hjl)];rfl
   rw[ef]at k;exact⟨_,rfl,k H3 b S3 (mm.same s3)⟩
  ·refine⟨_,rfl,_,rfl,_,rfl,c,g,eR r ps t e,ns,rfl,h3,g3,_,_,rfl,some (.ref b),some (.ref c),?_,s2.trans s3,λj e' hj he'=>?_⟩
   ·have ef:wX r ps t ns ((aQ r ps t).take (i+1))=max (wX r ps t ns ((aQ r ps t).take i)) (d_ (eR r ps t e) ns):=by
     unfold wX;rw[Qs,he,List.foldl_append];rfl
    rw[ef];have em:(if((d_ (eR r ps t e) ns:Nat):Int)>((wX r ps t ns ((aQ r ps t).take i):Nat):Int)then((d_ (eR r ps t e) ns:Nat):Int)else((wX r ps t ns ((aQ r ps t).take i):Nat):Int))=((max (wX r ps t ns ((aQ r ps t).take i)) (d_ (eR r ps t e) ns):Nat):Int):=by
     split<;>omega
    rw[em];rfl
   ·rcases Rg.mp hj with z|z
    ·exact h2 j e' z he'
    ·subst z
     rw[he]at he';cases he';exact g1
 ·subst e
  rw[OU,M1.n,PB (OZ _)];rw[OU,M1.n]at h2;have ef:(aQ r ps t).find? (λ(e:Nat×Nat)=>eR r ps t e==ns)=none:=by
   rw[List.find?_eq_none];intro e he;obtain⟨j,hj,ej⟩:=QQ he;rw[h2 j e hj (by rw[OY hj,ej])];exact O3
  rw[ef]at k;exact⟨_,rfl,rfl,(by show 1<=1000;decide),λe d n1 n2 n3=>Ks k (s1.trans s2) e d n1 n2 n3⟩
abbrev RE:=List Int×Int×Nat×Nat
def ji(r:R0)(ps:List Int)(t:Int):List RE:=(aQ r ps t).map λ(e:Nat×Nat)=>(ps,t,e.1,e.2)
def eD(r:R0)(most:Nat):List RE->List RE->List RE
 |[],acc=>acc
 |e::l,acc=>if most<acc.length then acc else eD r most l (acc++ji r (bA r e.1 e.2.2.1 e.2.2.2) (1-e.2.1))
structure r0 where
 tu:Addr
 x:Addr
 dx:Addr
 p:Addr
 st:Addr
 ps:List Int
 t:Int
 s:Nat
 d:Nat
def r0.re(e:r0):RE:=(e.ps,e.t,e.s,e.d)
structure BO(a:Ad)(H:Hp)(e:r0):Prop where
 tu:H e.tu=some (.tup [.ref e.x,.ref e.st])
 st:H e.st=some (.tup [.int (e.s:Nat),.int (e.d:Nat)])
 pa:v7 a H e.x e.dx e.p e.ps e.t
 s1:e.s<169
 d1:e.d<169
structure AB(a:Ad)(H:Hp)(q:Addr)(L:List r0):Prop where
 l:H q=some (.lst (L.map λ(e:r0)=>V.ref e.tu))
 e:∀e∈L,BO a H e
def BO.same{a:Ad}{H H':Hp}{e:r0}(h:BO a H e)(s:aE H H'):BO a H' e:=⟨s _ _ h.tu,s _ _ h.st,h.pa.same s,h.s1,h.d1⟩
def AB.same{a:Ad}{H H':Hp}{q:Addr}{L:List r0}(h:AB a H q L)(s:aE H H'):AB a H' q L:=⟨s _ _ h.l,λe he=>(h.e e he).same s⟩
def BO.put{a:Ad}{H:Hp}{e:r0}{q:Addr}{xs ys:List V}(h:BO a H e)(hq:H q=some (.lst xs))(np:e.p≠q):BO a (upd H q (.lst ys)) e:=
 ⟨by rw[ak (bf h.tu hq λz=>nomatch z)];exact h.tu,by rw[ak (bf h.st hq λz=>nomatch z)];exact h.st,⟨by rw[ak (bf h.pa.ins hq λz=>nomatch z)];exact h.pa.ins,by rw[ak np];exact h.pa.pc,h.pa.ok,h.pa.tn⟩,h.s1,h.d1⟩
def KZ(a:Ad):Sp:=λvs H Q _=>∃(A:RA)(r:R0)(x dx p:Addr)(ps:List Int)(t:Int),vs=[.ref A.x,.ref x]/\oN a H A r/\v7 a H x dx p ps t/\
 ∀H' q L,aE H H'->H q=none->AB a H' q L->L.map r0.re=ji r ps t->(∀e∈L,e.p=p)->Q (.ref q) H'
def mQ:aB ["rules","position","step"] ["rules","position"] (ao (top 41)):=aR
def qX(T:Tx K mg a):a4 P w K mg base (cX P w) 5 a.gI a.so ["rules","position"] (KZ a):=by
 refine T.gI.F.lL mQ λcdv A outer s H vs Q E hr h=>?_;obtain⟨A',r,x,dx,p,ps,t,rfl,R,Pp,k⟩:=h;refine⟨_,(aj (aF (lS (own:=[("step",2)]) rfl mQ.nd (cP (dn T.ii (pL T) hr aK (aa (pv 0) (aa (pv 1) ah)))) (cq rfl) (λ_ _ _ _ _=>(kR 2 mQ.nd)) (λ_ _ _ _ _=>d8) (λ_ _ _ _ _=>(nS (aa (pv 1) (aa (pv 2) ah))))))),?_⟩;refine⟨_,rfl,_,rfl,A',r,x,dx,p,ps,t,rfl,R,Pp,λH1 l L s1 hl h1 eL=>⟨l,rfl,⟨_,a0.of h1.l⟩,λD hD=>?_⟩⟩;have Ll:L.length=(aQ r ps t).length:=by rw[<-eL,OU]
 have bl:=rK r ps t R.ok;have pD:p≠D:=au (s1 _ _ Pp.pc) hD;refine w6 (J:=De K l) (n:=L.length) (λj H'=>∃M:List r0,aE H1 H'/\AB a H' D M/\M.map r0.re=((aQ r ps t).take j).map (λ(e:Nat×Nat)=>(ps,t,e.1,e.2))/\∀e∈M,e.p=p) ⟨[],aC hD,⟨by rw[ai];rfl,λe he=>by cases he⟩,by simp,λe he=>by cases he⟩ (λj H' hj⟨M,sM,aM,eM,pM⟩=>⟨_,V.ref (L[j]'hj).1,a0.of (sM _ _ h1.l),by rw[Ph,OY hj];rfl⟩) (λH'⟨M,sM,aM,eM,pM⟩=>⟨_,a0.of (sM _ _ h1.l),by rw[OU];exact OZ _⟩) (λj H' hj⟨M,sM,aM,eM,pM⟩ y H5 hy=>?_) λH'⟨M,sM,aM,eM,pM⟩=>?_
 ·obtain⟨rfl,hy⟩:=hy
  have hy:=hy _ (a0.of (sM _ _ h1.l));rw[Ph,OY hj]at hy;cases hy;have he:L[j]? =some (L[j]'hj):=OY hj;have hm:=h1.t _ (Pw he);generalize L[j]'hj=e at*;obtain⟨ea,es,et⟩:=e;have hst:(aQ r ps t)[j]? =some (es,et):=by rw[<-eL,Ph,he];rfl
  obtain⟨b1,b2⟩:=kF R.ok (Pw hst);have Ml:M.length<=8788:=by
   have:=P_ List.length eM;rw[OU,OU,PK]at this;omega
  refine⟨rfl,_,rfl,_,rfl,(by rw[O2];show 2<=_;omega),λtt ntt=>?_⟩;have dt:D≠tt:=au aM.l ntt;have S6:=aC (o:= .tup [.ref x,.ref ea]) ntt;have t6:(upd H5 tt (.tup [.ref x,.ref ea])) tt=some (.tup [.ref x,.ref ea]):=ai;have a6:=aM.same S6;have P6:=Pp.same ((s1.trans sM).trans S6);have m6:=(sM.trans S6) _ _ hm.1;generalize upd H5 tt (.tup [.ref x,.ref ea])=H6 at*;have new:BO a H6 ⟨tt,x,dx,p,ea,ps,t,es,et⟩:=⟨t6,m6,P6,b1,b2⟩;refine⟨_,a6.l,(by rw[OU,O2];omega),M++[⟨tt,x,dx,p,ea,ps,t,es,et⟩],?_,⟨?_,λe he=>?_⟩,?_,λe he=>?_⟩
  ·exact cY hD (sM.trans S6)
  ·rw[ai,Pn]
   rfl
  ·rcases Pk.mp he with z|z
   ·exact(a6.e e z).put a6.l (by rw[pM e z];exact pD)
   ·rw[Pj]at z
    subst z;exact new.put a6.l pD
  ·rw[Pn,eM,pP _ hst]
   rfl
  ·rcases Pk.mp he with z|z
   ·exact pM e z
   ·rw[Pj]at z
    subst z;rfl
 ·rw[Ll,PB (OZ _)]at eM
  exact k H' D M (s1.trans sM) (s1.free hD) aM eM pM
def F_(a:Ad):Sp:=λvs H Q _=>∃(A:RA)(r:R0)(rq:Addr)(L:List r0)(most:Nat),vs=[.ref A.x,.ref rq,.int (most:Nat)]/\oN a H A r/\AB a H rq L/\most<=2000/\
 ∀H' q L',aE H H'->H q=none->AB a H' q L'->L'.map r0.re=eD r most (L.map r0.re) []->L'.length<=10788->(∀e∈L',H e.p=none)->Q (.ref q) H'
def MS{L:List r0}{i:Nat}{x:V}(h:(L.map λ(e:r0)=>V.ref e.tu)[i]? =some x):∃e,L[i]? =some e/\x=.ref e.tu:=by
 rw[Ph]at h;cases e:L[i]? with
 |none=>rw[e]at h;cases h
 |some w=>rw[e]at h;cases h;exact⟨w,rfl,rfl⟩
def jA:aB ["rules","rows","most","longer","position","step"] ["rules","rows","most"] (ao (top 42)):=aR
def y8(T:Tx K mg a):a4 P w K mg base (cX P w) 7 a.ja a.tL ["rules","rows","most"] (F_ a):=by
 refine T.ja.F.lL jA λcdv A outer s H vs Q E hr h=>?_;obtain⟨A',r,rq,L,most,rfl,R,W,hm,k⟩:=h;refine⟨_,(ae (eV 3 jA.nd (cf ah)) (ae (dL Ql rfl (cP (pv 1)) (um rfl (fi (kR 4 jA.nd) (fi (kR 5 jA.nd) qB))) (ae (bG (aI oJ (bu bP rfl T.mE (by decide+kernel) (aa (pv 3) ah)) (pv 2) (aJ _)) (aj Bv) aW) (aj (aZ (jg PQ QJ QK kJ (pv 3) (aa (dn T.gI (qX T) hr aK (aa (pv 0) (aa (ay (FB T.Cz (oo T) hr T.bZ T.eN aK (aa (pv 0) (aa (pv 4) (aa (pv 5) ah)))) rfl) ah))) ah)))))) (aj (aF (pv 3))))),?_⟩;refine⟨P4 _,λq hq=>?_⟩;have S0:aE H (upd H q (.lst [])):=aC hq;refine⟨_,rfl,rq,rfl,⟨_,a0.of (S0 _ _ W.l)⟩,?_⟩;refine gm (xs:=L.map λ(e:r0)=>V.ref e.tu) (λi σ H'=>∃(M:List r0)(u v:Option V),σ=[some (.ref A'.x),some (.ref rq),some (.int (most:Nat)),some (.ref q),u,v]/\aE H H'/\AB a H' q M/\(∀e∈M,e.p≠q/\H e.p=none)/\M.length<=10788/\eD r most (L.map r0.re) []=eD r most ((L.map r0.re).drop i) (M.map r0.re)) ⟨[],_,_,rfl,S0,⟨by rw[ai];rfl,λe he=>by cases he⟩,λe he=>(by cases he),by simp,rfl⟩ (λi σ H1 _⟨M,u,v,e,s1,m1,p1,l1,hs⟩=>a0.of (s1 _ _ W.l)) (λi y σ H1 hy⟨M,u,v,e,s1,m1,p1,l1,hs⟩=>?_) λσ H1⟨M,u,v,e,s1,m1,p1,l1,hs⟩=>?_
 ·subst e
  obtain⟨e,he,rfl⟩:=MS hy;have oe:=(W.e e (Pw he)).same s1;have hr1:(L.map r0.re)[i]? =some e.re:=by rw[Ph,he];rfl
  obtain⟨hi,ei⟩:=O6.mp hr1;rw[Qr hi,ei]at hs;replace hs:eD r most (L.map r0.re) []=if most<(M.map r0.re).length then M.map r0.re else eD r most ((L.map r0.re).drop (i+1)) (M.map r0.re++ji r (bA r e.ps e.s e.d) (1-e.t)):=hs;refine⟨e.tu,_,rfl,iV.of oe.tu,rfl,_,_,rfl,_,_,rfl,rfl,?_⟩;refine⟨_,rfl,q,_,rfl,.inl (a0.of m1.l),_,rfl,_,_,rfl,rfl,_,rfl,gD (λg1=>?_) λg1=>?_⟩
  ·have g1:=O7 g1
   rw[OU]at g1;rw[OW (by rw[OU];omega)]at hs;exact⟨_,rfl,k H1 q M s1 hq m1 hs.symm l1 λe he=>(p1 e he).2⟩
  ·have g1:¬_:=λz=>g1 (O0 z)
   rw[OU]at g1;rw[OV (by rw[OU];omega)]at hs;have R1:=R.same s1;refine⟨_,rfl,.inl ⟨rfl,_,a0.of m1.l⟩,_,rfl,_,rfl,_,rfl,_,rfl,λz dz nz nd nne=>⟨z,dz,A',r,e.x,e.dx,e.p,e.ps,e.t,e.st,e.s,e.d,rfl,ai,R1.same (cb nz nd nne),oe.pa.same (cb nz nd nne),iV.of ((cb nz nd nne) _ _ oe.st),oe.s1,oe.d1,λH2 e2 m2=>⟨rfl,?_⟩⟩⟩;have s2:aE H1 H2:=Ex.made nz nd e2;obtain⟨mx,tk,af,ad,ap,_,nap,i2,tk2,P2⟩:=m2;have apq:ap≠q:=λzz=>by
    have:=(cb (C:=a.br) nz nd nne) _ _ m1.l;rw[<-zz,nap]at this;cases this
   refine⟨z,_,_,_,_,rfl,i2,T.bZ.cl,T.kC,rfl,A',r,af,ad,ap,_,_,rfl,R1.same s2,P2,λH3 q3 L3 s3 n3 w3 e3 p3=>?_⟩;have s23:=s2.trans s3;have m3:=m1.same s23;have ll3:L3.length<=8788:=by
    have:=P_ List.length e3;unfold ji at this;rw[OU,OU]at this;have:=rK r (bA r e.ps e.s e.d) (1-e.t) R.ok;omega
   refine⟨q,q3,_,_,rfl,rfl,m3.l,w3.l,(by rw[OU,OU,O2];omega),M++L3,_,_,rfl,cY hq (s1.trans s23),⟨?_,λe' he'=>?_⟩,λe' he'=>?_,?_,?_⟩
   ·rw[ai,Pn]
   ·rcases Pk.mp he' with zz|zz
    ·exact(m3.e e' zz).put m3.l (p1 e' zz).1
    ·exact(w3.e e' zz).put m3.l (by rw[p3 e' zz];exact apq)
   ·rcases Pk.mp he' with zz|zz
    ·exact p1 e' zz
    ·rw[p3 e' zz]
     exact⟨apq,(s1.trans (cb (C:=a.br) nz nd nne)).free nap⟩
   ·rw[Pd]
    omega
   ·rw[Pn,e3]
    exact hs
 ·subst e
  rw[Qy (by rw[OU,OU];exact OZ _)]at hs;exact⟨_,rfl,k H1 q M s1 hq m1 hs.symm l1 λe he=>(p1 e he).2⟩
def jX(r:R0)(most:Nat):Nat->List RE->List Int->List Int
 |0,_,cs=>cs
 |f+1,rows,cs=>if cs.sum<=(most:Int)then jX r most f (eD r (most-cs.sum.toNat) rows []) (cs++[((eD r (most-cs.sum.toNat) rows []).length:Int)])else cs
def countOf(r:R0)(ps:List Int)(t:Int)(n most:Nat):List Int:=jX r most (n-1) (ji r ps t) [((ji r ps t).length:Int)]
def Mn(n most:Nat):Prop:=(1<=n/\n<=6)/\1<=most/\most<=2000
def IS(a:Ad):Sp:=λvs H Q E=>∃(A:RA)(r:R0)(x dx p:Addr)(ps:List Int)(t:Int)(n most:Nat),vs=[.ref A.x,.ref x,.int (n:Nat),.int (most:Nat)]/\oN a H A r/\v7 a H x dx p ps t/\
 (¬Mn n most->d9 a.fB H E)/\(Mn n most->(((most:Nat):Int)<(countOf r ps t n most).sum->d9 a.fH H E)/\
  ((countOf r ps t n most).sum<=((most:Nat):Int)->∀H' q,aE H H'->H q=none->H' q=some (.lst ((countOf r ps t n most).map V.int))->Q (.ref q) H'))
def ic{C:Addr}{H H1:Hp}{E:XK}(h:d9 C H E)(s:aE H H1)(e:Addr)(n1:H1 e=none):E (.ref C) (some e) (upd H1 e (XO e C none true)):=h _ e (s.trans (aC n1)) ai
def jB:aB ["rules","position","longest","most","rows","counts"] ["rules","position","longest","most"] (ao (top 43)):=aR
def zc(T:Tx K mg a):a4 P w K mg base (cX P w) 8 a.iZ a.sw ["rules","position","longest","most"] (IS a):=by
 refine T.iZ.F.oQ jB λcdv A outer s H vs Q E hr h=>?_;obtain⟨A',r,x,dx,p,ps,t,n,most,rfl,R,Pp,k1,k2⟩:=h;refine⟨_,(ae (bG (PW.pt (zw (lH (tK yp yp az (pv 2) (mT T.yZ))) (tV (lH (tK yp yp az (pv 3) (mT T.wY)))))) (aj (qv aA hr.hd T.yG rfl T.cQ.m)) aW) (ae (eV 4 jB.nd (dn T.gI (qX T) hr aK (aa (pv 0) (aa (pv 1) ah)))) (ae (eV 5 jB.nd (cf (aa (bu bP rfl T.mE (by decide+kernel) (aa (pv 4) ah)) ah))) (ae (jF Qh (PW.pt (gR (aI uD (bu bP rfl T.mE (by decide+kernel) (aa (pv 5) ah)) (pv 2) (aJ _)) (fe (aI yp (bu (Dd rfl) rfl T.Ht (by decide+kernel) (aa (pv 5) ah)) (pv 3) (aJ _))))) (ae (eV 4 jB.nd (dn T.ja (y8 T) hr aK (aa (pv 0) (aa (pv 4) (aa (bz nZ (pv 3) (bu (Dd rfl) rfl T.Ht (by decide+kernel) (aa (pv 5) ah))) ah))))) (aj (aZ (jg PQ Qo Qp gH (pv 5) (aa (bu bP rfl T.mE (by decide+kernel) (aa (pv 4) ah)) ah)))))) (ae (bG (aI oJ (bu (Dd rfl) rfl T.Ht (by decide+kernel) (aa (pv 5) ah)) (pv 3) (aJ _)) (aj (qv aA hr.hd T.yI rfl T.cp.m)) aW) (aj (aF (pv 5)))))))),?_⟩;refine⟨_,rfl,_,_,rfl,rfl,_,rfl,gD (λh1=>⟨_,_,rfl,rfl,_,rfl,fQ (λh2=>?_) λh2=>⟨_,rfl,_,_,rfl,rfl,_,rfl,gD (λh3=>⟨_,_,rfl,rfl,_,rfl,fQ (λh4=>?_) λh4=>?_⟩) λh3=>⟨_,rfl,fQ (λ_=>?_) λz=>by cases z⟩⟩⟩) λh1=>⟨_,rfl,fQ (λ_=>?_) λz=>by cases z⟩⟩
 ·have h2:¬((n:Nat):Int)<=6:=by simpa using h2
  exactλe ne=>ic (k1 λz=>h2 (by have:=z.1.2;omega)) (aE.refl _) e ne
 ·have h4:¬((most:Nat):Int)<=2000:=by simpa using h4
  exactλe ne=>ic (k1 λz=>h4 (by have:=z.2.2;omega)) (aE.refl _) e ne
 ·have h1:(1:Int)<=((n:Nat):Int):=O7 h1
  have h2:((n:Nat):Int)<=6:=by simpa using h2
  have h3:(1:Int)<=((most:Nat):Int):=O7 h3;have h4:((most:Nat):Int)<=2000:=by simpa using h4
  obtain⟨k3,k4⟩:=k2 ⟨⟨by omega,by omega⟩,by omega,by omega⟩;clear k1 k2;refine⟨_,rfl,_,rfl,A',r,x,dx,p,ps,t,rfl,R,Pp,λH1 q1 L1 s1 n1 w1 e1 _=>?_⟩;have ll1:L1.length=(ji r ps t).length:=by rw[<-e1,OU]
  refine⟨_,rfl,q1,_,rfl,.inl (a0.of w1.l),(by rw[O2];show 1<=_;omega),λc nc=>?_⟩;have nc0:H c=none:=s1.free nc;have S1:=s1.trans (aC (o:= .lst [V.int (((L1.map λ(e:r0)=>V.ref e.tu).length:Nat))]) nc);refine⟨λb σ H'=>∃(L:List r0)(q:Addr)(cs:List Int),σ=[some (.ref A'.x),some (.ref x),some (.int (n:Nat)),some (.int (most:Nat)),some (.ref q),some (.ref c)]/\aE H H'/\AB a H' q L/\(∀e∈L,e.p≠c)/\q≠c/\H' c=some (.lst (cs.map V.int))/\cs.length+b=n/\0<=cs.sum/\countOf r ps t n most=jX r most b (L.map r0.re) cs,⟨n-1,L1,q1,[((ji r ps t).length:Int)],rfl,S1,w1.same (aC nc),λe he z=>?_,au w1.l nc,?_,?_,?_,?_⟩,?_⟩
  ·have:=(w1.e e he).pa.pc
   rw[z,nc]at this;cases this
  ·rw[ai,OU,ll1]
   rfl
  ·show 1+(n-1)=n
   omega
  ·simp only[Rn,List.sum_nil]
   omega
  ·rw[e1]
   rfl
  rintro b σ H2 ⟨L,q,cs,rfl,s2,w2,p2,qc,c2,hb,c0,hs⟩
  refine⟨_,rfl,c,_,rfl,.inl (a0.of c2),_,rfl,_,_,rfl,rfl,_,rfl,gD (λg1=>⟨_,rfl,c,cs,rfl,a0.of c2,_,rfl,_,_,rfl,rfl,_,rfl,gD (λg2=>?_) λg2=>?_⟩) λg1=>?_⟩
  ·have g1:=O7 g1
   rw[OU]at g1;have g2:cs.sum<=((most:Nat):Int):=O7 g2;obtain⟨b,rfl⟩:∃b',b=b'+1:=⟨b-1,by omega⟩;have em:((most:Nat):Int)-cs.sum=((most-cs.sum.toNat:Nat):Int):=by omega
   have R2:=R.same s2;unfold jX at hs;rw[OW g2]at hs;refine⟨_,λ_ _ h=>h,_,rfl,_,rfl,_,rfl,_,rfl,c,cs,rfl,a0.of c2,_,_,rfl,rfl,A',r,q,L,most-cs.sum.toNat,(by show[V.ref A'.x,V.ref q,V.int (((most:Nat):Int)-cs.sum)]=_;rw[em]),R2,w2,by omega,λH3 q3 L3 s3 n3 w3 e3 l3 p3=>?_⟩;have c3:=s3 _ _ c2;have q3c:q3≠c:=Pb (au c2 n3);refine⟨_,rfl,.inl ⟨rfl,_,a0.of c3⟩,_,rfl,q3,_,rfl,.inl (a0.of w3.l),c,_,_,rfl,rfl,c3,(by rw[OU,O2];omega),b,by omega,L3,q3,cs++[((L3.length:Nat):Int)],rfl,cY nc0 (s2.trans s3),⟨by rw[ak q3c];exact w3.l,λe he=>?_⟩,λe he=>?_,q3c,?_,?_,?_,?_⟩
   ·exact(w3.e e he).put c3 (Pb (au c2 (p3 e he)))
   ·exact Pb (au c2 (p3 e he))
   ·rw[ai,Pn,OU]
    rfl
   ·rw[Pd,P0]
    omega
   ·rw[List.sum_append]
    simp only[Rn,List.sum_nil];omega
   ·rw[hs,<-e3,OU]
  ·have g2:¬cs.sum<=((most:Nat):Int):=λz=>g2 (O0 z)
   have ec:countOf r ps t n most=cs:=by
    rw[hs];cases b with
    |zero=>rfl
    |succ b=>unfold jX;rw[OV g2]
   rw[ec]at k3 k4;refine⟨_,rfl,c,cs,rfl,a0.of c2,_,rfl,_,_,rfl,rfl,_,rfl,gD (λg3=>?_) λg3=>?_⟩
   ·exactλe ne=>ic (k3 (by omega)) s2 e ne
   ·exact absurd (O0 (show cs.sum>((most:Nat):Int) by omega)) g3
  ·have g1:¬_:=λz=>g1 (O0 z)
   rw[OU]at g1;have b0:b=0:=by omega
   subst b0;have ec:countOf r ps t n most=cs:=hs;rw[ec]at k3 k4;refine⟨_,rfl,c,cs,rfl,a0.of c2,_,rfl,_,_,rfl,rfl,_,rfl,gD (λg3=>?_) λg3=>?_⟩
   ·have g3:cs.sum>((most:Nat):Int):=O7 g3
    exactλe ne=>ic (k3 (by omega)) s2 e ne
   ·have g3:¬cs.sum>((most:Nat):Int):=λz=>g3 (O0 z)
    exact⟨_,rfl,k4 (by omega) H2 c s2 nc0 c2⟩
 ·have h3:¬(1:Int)<=((most:Nat):Int):=λz=>h3 (O0 z)
  exactλe ne=>ic (k1 λz=>h3 (by have:=z.2.1;omega)) (aE.refl _) e ne
 ·have h1:¬(1:Int)<=((n:Nat):Int):=λz=>h1 (O0 z)
  exactλe ne=>ic (k1 λz=>h1 (by have:=z.1.1;omega)) (aE.refl _) e ne
def wc(l:List Int):List Int:=((l.length:Nat):Int)::l
def NF:Sp:=λvs H Q _=>∃(p:Addr)(l:List Int),vs=[.ref p]/\H p=some (.lst (l.map V.int))/\l.length<=1000000/\∀H' q,aE H H'->H q=none->H' q=some (.lst ((wc l).map V.int))->Q (.ref q) H'
def yX:aB ["numbers"] ["numbers"] (ao (top 99)):=aR
def df(T:Tx K mg a):a4 P w K mg base (cX P w) 1 a.b7 a.sD ["numbers"] NF:=by
 refine T.b7.F.lL yX λcdv A outer s H vs Q E hr h=>?_;obtain⟨p,l,rfl,hp,hl,k⟩:=h;refine⟨_,(aj (aF (bz pU (cf (aa (bu bP rfl T.mE (by decide+kernel) (aa (pv 0) ah)) ah)) (pv 0)))),?_⟩;refine⟨_,rfl,p,_,rfl,.inl (a0.of hp),(by rw[O2];show 1<=_;omega),λq hq=>?_⟩;have S0:=aC (o:= .lst [V.int (((l.map V.int).length:Nat))]) hq;refine⟨_,rfl,q,p,_,_,rfl,rfl,ai,S0 _ _ hp,(by rw[OU,O2];show 1+_<=_;omega),λz hz=>k _ z (S0.trans (aC hz)) (S0.free hz) ?_⟩;rw[ai,OU];rfl
def Ew:Option (RA×R0)->List (Str×V)
 |none=>[("rules",.eC)]
 |some p=>[("rules",.ref p.1.x)]
structure kx(a:Ad)(H:Hp)(x dx:Addr)(s:Option (RA×R0)):Prop where
 ins:H x=some (.ins a.fb dx (Ew s))
 ra:∀A r,s=some (A,r)->oN a H A r
def kx.same{H H':Hp}{x dx:Addr}{s:Option (RA×R0)}(D:kx a H x dx s)(S:aE H H'):kx a H' x dx s:=⟨S _ _ D.ins,λA r e=>(D.ra A r e).same S⟩
def F0(a:Ad):Sp:=λvs H Q _=>∃(x dx:Addr),vs=[.ref x]/\H x=some (.ins a.fb dx [])/\Q .eC (upd H x (.ins a.fb dx (Ew none)))
def AX:aB ["self"] ["self"] (ao (inClass (top 96) 0)):=aR
def As(T:Tx K mg a):a4 P w K mg base (cX P w) 1 a.iz a.uU ["self"] (F0 a):=by
 refine T.iz.F.lL AX λcdv A outer s H vs Q E hr h=>?_;obtain⟨x,dx,rfl,hx,k⟩:=h;refine⟨_,(aj (a5 (pv 0) Ko rfl)),?_⟩;exact⟨_,rfl,x,a.fb,dx,[],rfl,hx,T.fc.cl,T.cA,(by show 0<1000;decide),k⟩
def Ic(a:Ad):Sp:=λvs H Q E=>∃(x dx:Addr)(s:Option (RA×R0)),vs=[.ref x]/\kx a H x dx s/\(s=none->d9 a.kI H E)/\(∀A r,s=some (A,r)->Q (.ref A.x) H)
def qK:aB ["self"] ["self"] (ao (inClass (top 96) 1)):=aR
def kf(T:Tx K mg a):a4 P w K mg base (cX P w) 1 a.cM a.kZ ["self"] (Ic a):=by
 refine T.cM.F.oQ qK λcdv A outer s H vs Q E hr h=>?_;obtain⟨x,dx,sv,rfl,D,k1,k2⟩:=h;refine⟨_,(ae (bG (Lu (KY (ay (pv 0) rfl))) (aj (qv aA hr.hd T.EE rfl T.qg.m)) aW) (aj (aF (ay (pv 0) rfl)))),?_⟩;cases sv with
 |none=>exact⟨_,rfl,x,_,_,_,_,rfl,D.ins,T.fc.cl,T.cA,rfl,_,rfl,KC λe ne=>ic (k1 rfl) (aE.refl _) e ne⟩
 |some p=>
  obtain⟨A',r⟩:=p;exact⟨_,rfl,x,_,_,_,_,rfl,D.ins,T.fc.cl,T.cA,rfl,_,rfl,MA ⟨_,rfl,x,_,_,_,_,rfl,D.ins,T.fc.cl,T.cA,rfl,k2 A' r rfl⟩⟩
inductive Rf where
 |ku|line(k p:Int)|rules(k p:Nat)|noMove|noLine(p:Nat)|out|many
def Gd(a:Ad)(H:Hp)(E:XK):Rf->Prop
 |.ku=>d9 a.kI H E
 |.line k p=>Jn a H k p E
 |.rules k p=>A6 a H k p E
 |.noMove=>d9 a.gu H E
 |.noLine p=>KE a H p E
 |.out=>d9 a.fB H E
 |.many=>d9 a.fH H E
def d9.mono{C:Addr}{H H1:Hp}{E:XK}(h:d9 C H E)(s:aE H H1):d9 C H1 E:=λH' e q=>h H' e (s.trans q)
def KE.mono{H H1:Hp}{pl:Nat}{E:XK}(h:KE a H pl E)(s:aE H H1):KE a H1 pl E:=λH' e d cx q=>h H' e d cx (s.trans q)
def Gd.mono{H H1:Hp}{E:XK}{f:Rf}(h:Gd a H E f)(s:aE H H1):Gd a H1 E f:=by
 cases f with
 |ku=>exact d9.mono h s
 |line k p=>exact Jn.mono h s
 |rules k p=>exact A6.mono h s
 |noMove=>exact d9.mono h s
 |noLine p=>exact KE.mono h s
 |out=>exact d9.mono h s
 |many=>exact d9.mono h s
def om(s:Option R0)(ns:List Int):Except Rf (R0×List Int×Int):=match s with
 |none=>.error .ku
 |some r=>match uG r ns with
  |.error p=>.error (.line p.1 p.2)
  |.ok p=>.ok (r,p.1,p.2)
def J3(a:Ad):Sp:=λvs H Q E=>∃(x dx:Addr)(s:Option (RA×R0))(g:Addr)(ns:List Int),vs=[.ref x,.ref g]/\kx a H x dx s/\H g=some (.lst (ns.map V.int))/\(match om (s.map (·.2)) ns with
 |.ok p=>∀A,s=some (A,p.1)->∀H' y dy pp,aE H H'->v7 a H' y dy pp p.2.1 p.2.2->Q (.ref y) H'
 |.error f=>Gd a H E f)
def qF:aB ["self","line"] ["self","line"] (ao (inClass (top 96) 2)):=aR
def c9(T:Tx K mg a):a4 P w K mg base (cX P w) 8 a.bJ a.lJ ["self","line"] (J3 a):=by
 refine T.bJ.F.oQ qF λcdv A outer s H vs Q E hr h=>?_;obtain⟨x,dx,sv,g,ns,rfl,D,hg,k⟩:=h;refine⟨_,(aj (aF (dn T.jO (AV T) hr aA.passes (aa (Fo (pv 0) T.fc T.cM (kf T) hr aA.passes) (aa (pv 1) ah))))),?_⟩;refine⟨_,rfl,x,dx,_,rfl,D.ins,(by cases sv<;>rfl),x,dx,sv,rfl,D,λe=>?_,λA' r e=>?_⟩
 ·subst e
  exact k
 ·subst e
  refine⟨_,rfl,A',r,g,ns,rfl,D.ra A' r rfl,hg,?_⟩;unfold om at k;dsimp only[Option.map]at k;cases hl:uG r ns with
  |error p=>
   rw[hl]at k;exact k
  |ok p=>
   rw[hl]at k;obtain⟨l,t⟩:=p;exactλH' y dy pp S Pp=>k A' rfl H' y dy pp S Pp
def rR(g:Addr)(n:Nat):List (Str×V):=[("calls",.ref g),("place",.int (n:Nat))]
structure Ar(K:OX)(a:Ad)(H:Hp)(x dx g:Addr)(ns:List Int)(n:Nat):Prop where
 ins:H x=some (.ins a.aS dx (rR g n))
 gv:a0 K H g (ns.map V.int)
def Ar.ex{H H':Hp}{x dx g:Addr}{ns:List Int}{n n':Nat}(R:Ar K a H x dx g ns n)(s:Ex x H H')(h:H' x=some (.ins a.aS dx (rR g n'))):Ar K a H' x dx g ns n':=⟨h,s.seq R.ins R.gv⟩
def Gy(a:Ad):Sp:=λvs H Q _=>∃(x dx g:Addr),vs=[.ref x,.ref g]/\H x=some (.ins a.aS dx [])/\Q .eC (upd H x (.ins a.aS dx (rR g 0)))
def w_:aB ["self","calls"] ["self","calls"] (ao (inClass (top 97) 0)):=aR
def xO(T:Tx K mg a):a4 P w K mg base (cX P w) 1 a.fF a.q_ ["self","calls"] (Gy a):=by
 refine T.fF.F.lL w_ λcdv A outer s H vs Q E hr h=>?_;obtain⟨x,dx,g,rfl,hx,k⟩:=h;refine⟨_,(ae (a5 (pv 0) (pv 1) rfl) (aj (a5 (pv 0) az rfl))),?_⟩;refine⟨_,rfl,_,rfl,x,a.aS,dx,[],rfl,hx,T.cT.cl,T.iI,(by show 0<1000;decide),?_⟩;refine⟨_,rfl,x,a.aS,dx,_,rfl,ai,T.cT.cl,T.dD,(by show 1<1000;decide),?_⟩;rw[eQ];exact k
def J7(K:OX)(a:Ad):Sp:=λvs H Q _=>∃(x dx g:Addr)(ns:List Int)(n:Nat),vs=[.ref x]/\Ar K a H x dx g ns n/\Q (.bl (decide (ns.length<=n))) H
def r6:aB ["self"] ["self"] (ao (inClass (top 97) 1)):=aR
def tG(T:Tx K mg a):a4 P w K mg base (cX P w) 1 a.eG a.mX ["self"] (J7 K a):=by
 refine T.eG.F.lL r6 λcdv A outer s H vs Q E hr h=>?_;obtain⟨x,dx,g,ns,n,rfl,R,k⟩:=h;refine⟨_,(aj (aF (dY zV (ay (pv 0) rfl) (bu bP rfl T.mE (by decide+kernel) (aa (ay (pv 0) rfl) ah)) (aJ _)))),?_⟩;refine⟨_,rfl,x,_,_,_,_,rfl,R.ins,T.cT.cl,T.dD,rfl,_,rfl,x,_,_,_,_,rfl,R.ins,T.cT.cl,T.iI,rfl,g,_,rfl,.inl R.gv,_,_,rfl,rfl,?_⟩;have e:decide (((ns.map V.int).length:Int)<=(n:Int))=decide (ns.length<=n):=by rw[OU];exact Re.mpr (by omega)
 rw[<-e]at k;exact k
def Kt(K:OX)(a:Ad):Sp:=λvs H Q _=>∃(x dx g:Addr)(ns:List Int)(n:Nat),vs=[.ref x]/\Ar K a H x dx g ns n/\n<ns.length/\Q (.int (ns.getD n 0)) (upd H x (.ins a.aS dx (rR g (n+1))))
def oP:aB ["self"] ["self"] (ao (inClass (top 97) 2)):=aR
def fM(T:Tx K mg a):a4 P w K mg base (cX P w) 1 a.bO a.jH ["self"] (Kt K a):=by
 refine T.bO.F.lL oP λcdv A outer s H vs Q E hr h=>?_;obtain⟨x,dx,g,ns,n,rfl,R,hn,k⟩:=h;refine⟨_,(ae (qu (pv 0) az AN) (aj (aF (bj a_ (ay (pv 0) rfl) (bz nZ (ay (pv 0) rfl) az) (λ_ _=>rfl))))),?_⟩;refine⟨_,rfl,x,_,_,_,_,rfl,R.ins,T.cT.cl,T.dD,rfl,_,_,rfl,rfl,dx,_,R.ins,(by show 2<1000;decide),?_⟩;have ie:upd H x (.ins a.aS dx (cj "place" (V.int (((n:Nat):Int)+1)) (rR g n)))=upd H x (.ins a.aS dx (rR g (n+1))):=rfl;have i1:(upd H x (.ins a.aS dx (rR g (n+1)))) x=some (.ins a.aS dx (rR g (n+1))):=ai;have g1:=(Ex.refl.self:Ex x H (upd H x (.ins a.aS dx (rR g (n+1))))).seq R.ins R.gv;refine⟨_,rfl,x,_,_,_,_,rfl,i1,T.cT.cl,T.iI,rfl,_,rfl,x,_,_,_,_,rfl,i1,T.cT.cl,T.dD,rfl,_,_,rfl,rfl,g,_,_,_,rfl,rfl,g1,at_of (j:=n) ?_ (cR hn),k⟩;show((n+1:Nat):Int)-1=_;omega
def K3(K:OX)(a:Ad):Sp:=λvs H Q _=>∃(x dx g:Addr)(ns:List Int)(n m:Nat),vs=[.ref x]/\Ar K a H x dx g ns n/\ns[n]? =some (m:Nat)/\n+1+m<=ns.length/\
 ∀H' q,Ex x H H'->H' x=some (.ins a.aS dx (rR g (n+1+m)))->H q=none->H' q=some (.lst (((ns.drop (n+1)).take m).map V.int))->Q (.ref q) H'
def Jd{l:List Int}{i m:Nat}(h:i+m<=l.length):Ag (l.map V.int) (some ((i:Nat):Int)) (some (((i+m:Nat)):Int))=((l.drop i).take m).map V.int:=by
 unfold Ag;rw[HT.qh,HT.qh,OU,Nat.min_eq_left h,Nat.min_eq_left (by omega),Nat.add_sub_cancel_left,<-List.map_drop,<-List.map_take]
def kS:aB ["self","many"] ["self"] (ao (inClass (top 97) 3)):=aR
def rC(T:Tx K mg a):a4 P w K mg base (cX P w) 2 a.dZ a.l6 ["self"] (K3 K a):=by
 refine T.dZ.F.lL kS λcdv A outer s H vs Q E hr h=>?_;obtain⟨x,dx,g,ns,n,m,rfl,R,hm,hn,k⟩:=h;refine⟨_,(ae (eV 1 kS.nd (Fo (pv 0) T.cT T.bO (fM T) hr aK)) (ae (qu (pv 0) (pv 1) AN) (aj (aF (p9 DP (ay (pv 0) rfl) (mw (bz nZ (ay (pv 0) rfl) (pv 1))) (mw (ay (pv 0) rfl))))))),?_⟩;have em:ns.getD n 0=((m:Nat):Int):=by simp[List.getD,hm]
 refine⟨_,rfl,x,dx,_,rfl,R.ins,rfl,x,dx,g,ns,n,rfl,R,by omega,?_⟩;rw[em];have e1:Ex x H (upd H x (.ins a.aS dx (rR g (n+1)))):=Ex.refl.self;have i1:(upd H x (.ins a.aS dx (rR g (n+1)))) x=some (.ins a.aS dx (rR g (n+1))):=ai;generalize upd H x (.ins a.aS dx (rR g (n+1)))=H1 at*;have R1:=R.ex e1 i1;refine⟨_,rfl,x,_,_,_,_,rfl,i1,T.cT.cl,T.dD,rfl,_,rfl,_,_,rfl,rfl,dx,_,i1,(by show 2<1000;decide),?_⟩;have e2:Ex x H (upd H1 x (.ins a.aS dx (rR g (n+1+m)))):=e1.self;have i2:(upd H1 x (.ins a.aS dx (rR g (n+1+m)))) x=some (.ins a.aS dx (rR g (n+1+m))):=ai;have g2:=R.ex e2 i2;refine⟨_,rfl,x,_,_,_,_,rfl,i2,T.cT.cl,T.iI,rfl,_,rfl,x,_,_,_,_,rfl,i2,T.cT.cl,T.dD,rfl,_,rfl,_,_,rfl,rfl,_,rfl,_,rfl,x,_,_,_,_,rfl,i2,T.cT.cl,T.dD,rfl,_,rfl,g,_,rfl,g2.gv,λq nq=>?_⟩;have ec:Ag (ns.map V.int) (some (((n+1+m:Nat):Int)-((m:Nat):Int))) (some (((n+1+m:Nat)):Int))=((ns.drop (n+1)).take m).map V.int:=by
  rw[show((n+1+m:Nat):Int)-((m:Nat):Int)=((n+1:Nat):Int) by omega,Jd (by omega)]
 have nq:(upd H1 x (.ins a.aS dx (rR g (n+1+m)))) q=none:=nq;have qx:q≠x:=λz=>by rw[z,i2]at nq;cases nq
 refine k _ q (e2.same (aC nq)) (by rw[ak (Pb qx)];exact i2) (e2.free nq qx) ?_;rw[ai];exact P_ (λz=>some (HO.lst z)) ec
def Fx.new{l:List Addr}{H H':Hp}{q:Addr}{o:HO}(h:Fx l H H')(n:H q=none):Fx l H (upd H' q o):=λb u e nb=>by
 rw[ak (au e n)];exact h b u e nb
def MG{K:OX}{H H':Hp}{c ik g C1 d1 C2 d2:Addr}{f1 f2:List (Str×V)}{xs:List V}(h:a0 K H g xs)(hc:H c=some (.ins C1 d1 f1))(hi:H ik=some (.ins C2 d2 f2))(f:Fx [c,ik] H H'):a0 K H' g xs:=by
 rcases h with(h|⟨o,h⟩)|h
 ·exact .inl (.inl (f _ _ h (by simp[bf h hc (λz=>nomatch z),bf h hi (λz=>nomatch z)])))
 ·exact .inl (.inr ⟨o,f _ _ h (by simp[bf h hc (λz=>nomatch z),bf h hi (λz=>nomatch z)])⟩)
 ·exact .inr h
def NW:List Nat:=[0,0,0,0,2,2,0,2]
def TW:List Nat:=[1,0,1,1,1,1,2,1]
def B3(ns:List Int):Nat->List (List Int)->Nat->Prop
 |m,[],n'=>n'=m
 |m,t::ts,n'=>ns[m]? =some ((t.length:Nat):Int)/\t=(ns.drop (m+1)).take t.length/\m+1+t.length<=ns.length/\B3 ns (m+1+t.length) ts n'
structure Kx(ns:List Int)(n kd:Nat)(xs:List Int)(ts:List (List Int))(n':Nat):Prop where
 k:ns[n]? =some ((kd:Nat):Int)
 kl:kd<8
 xl:NW.getD kd 0=xs.length
 xv:xs=(ns.drop (n+1)).take xs.length
 xb:n+1+xs.length<=ns.length
 tl:TW.getD kd 0=ts.length
 tv:B3 ns (n+1+xs.length) ts n'
def N0(kd:Nat)(nq tq:Addr):List (Str×V):=[("number",.int (kd:Nat)),("numbers",.ref nq),("texts",.ref tq)]
structure qM(a:Ad)(H:Hp)(c dc nq tq:Addr)(ta:List Addr)(kd:Nat)(xs:List Int)(ts:List (List Int)):Prop where
 ins:H c=some (.ins a.bY dc (N0 kd nq tq))
 nm:H nq=some (.lst (xs.map V.int))
 tx:H tq=some (.lst (ta.map V.ref))
 n:ta.length=ts.length
 t:∀(i:Nat)(b:Addr)(l:List Int),ta[i]? =some b->ts[i]? =some l->H b=some (.lst (l.map V.int))
def qM.same{a:Ad}{H H':Hp}{c dc nq tq:Addr}{ta:List Addr}{kd:Nat}{xs:List Int}{ts:List (List Int)}(C:qM a H c dc nq tq ta kd xs ts)(s:aE H H'):qM a H' c dc nq tq ta kd xs ts:=⟨s _ _ C.ins,s _ _ C.nm,s _ _ C.tx,C.n,λi b l h1 h2=>s _ _ (C.t i b l h1 h2)⟩
def FF{l:List Nat}{kd:Nat}(h:kd<l.length):(l.map λ(n:Nat)=>V.int ((n:Nat):Int))[kd]? =some (.int ((l.getD kd 0:Nat):Int)):=by
 rw[Ph,OY h];simp[List.getD,OY h]
def Kn(K:OX)(a:Ad):Sp:=λvs H Q _=>∃(c dc ik dk g:Addr)(ns:List Int)(n kd:Nat)(xs:List Int)(ts:List (List Int))(n':Nat),vs=[.ref c,.ref ik]/\H c=some (.ins a.bY dc [])/\c≠ik/\Ar K a H ik dk g ns n/\Kx ns n kd xs ts n'/\
 ∀H' nq tq ta,Fx [c,ik] H H'->qM a H' c dc nq tq ta kd xs ts->Ar K a H' ik dk g ns n'->Q .eC H'
def iQ:aB ["self","intake","told"] ["self","intake"] (ao (inClass (top 98) 0)):=aR
def AH(T:Tx K mg a):a4 P w K mg base (cX P w) 3 a.io a.uL ["self","intake"] (Kn K a):=by
 refine T.io.F.lL iQ λcdv A outer s H vs Q E hr h=>?_;obtain⟨c,dc,ik,dk,g,ns,n,kd,xs,ts,n',rfl,hc,ci,R,Pc,k⟩:=h;refine⟨_,(ae (a5 (pv 0) (Fo (pv 1) T.cT T.bO (fM T) hr aK) rfl) (ae (a5 (pv 0) (lS (own:=[("told",2)]) rfl iQ.nd (dP rfl T.g_ (aa (bj jo (J1 T.xF) (ay (pv 0) rfl) (λ_ _=>rfl)) ah)) (cq rfl) (λ_ _ _ _ _=>(kR 2 iQ.nd)) (λ_ _ _ _ _=>d8) (λ_ _ _ _ _=>(Fo (pv 1) T.cT T.bO (fM T) hr aK))) rfl) (aj (a5 (pv 0) (lS (own:=[("told",2)]) rfl iQ.nd (dP rfl T.g_ (aa (bj jo (J1 T.Aq) (ay (pv 0) rfl) (λ_ _=>rfl)) ah)) (cq rfl) (λ_ _ _ _ _=>(kR 2 iQ.nd)) (λ_ _ _ _ _=>d8) (λ_ _ _ _ _=>(Fo (pv 1) T.cT T.dZ (rC T) hr aK))) rfl)))),?_⟩;have k8:=Pc.kl;have n1:n<ns.length:=(O6.mp Pc.k).1;have ek:ns.getD n 0=((kd:Nat):Int):=by simp[List.getD,Pc.k]
 refine⟨_,rfl,ik,dk,_,rfl,R.ins,rfl,ik,dk,g,ns,n,rfl,R,n1,?_⟩;rw[ek];have f1:Fx [c,ik] H (upd H ik (.ins a.aS dk (rR g (n+1)))):=Fx.set (by simp);have i1:(upd H ik (.ins a.aS dk (rR g (n+1)))) ik=some (.ins a.aS dk (rR g (n+1))):=ai;have R1:=R.ex (Ex.refl.self:Ex ik H _) i1;have c1:(upd H ik (.ins a.aS dk (rR g (n+1)))) c=some (.ins a.bY dc []):=by rw[ak ci];exact hc
 generalize upd H ik (.ins a.aS dk (rR g (n+1)))=H1 at*;refine⟨_,rfl,c,_,dc,_,rfl,c1,T.c_.cl,T.ck,(by show 0<1000;decide),?_⟩;have f2:Fx [c,ik] H (upd H1 c (.ins a.bY dc [("number",.int (kd:Nat))])):=f1.trans (Fx.set (by simp));have c2:(upd H1 c (.ins a.bY dc [("number",.int (kd:Nat))])) c=some (.ins a.bY dc [("number",.int (kd:Nat))]):=ai;have R2:Ar K a (upd H1 c (.ins a.bY dc [("number",.int (kd:Nat))])) ik dk g ns (n+1):=⟨by rw[ak (Pb ci)];exact R1.ins,(Ex.refl.self:Ex c H1 _).seq c1 R1.gv⟩;have gen:upd H1 c (.ins a.bY dc (cj "number" (V.int (kd:Nat)) []))=upd H1 c (.ins a.bY dc [("number",.int (kd:Nat))]):=rfl;rw[gen];clear gen;generalize upd H1 c (.ins a.bY dc [("number",.int (kd:Nat))])=H2 at*;have xl:xs.length<=2:=by
  have all:∀m:Fin 8,NW.getD m.val 0<=2:=by decide
  rw[<-Pc.xl];exact all ⟨kd,k8⟩
 have tl:ts.length<=2:=by
  have all:∀m:Fin 8,TW.getD m.val 0<=2:=by decide
  rw[<-Pc.tl];exact all ⟨kd,k8⟩
 have aN:([.int 0,.int 0,.int 0,.int 0,.int 2,.int 2,.int 0,.int 2]:List V)[kd]? =some (.int ((xs.length:Nat):Int)):=by
  rw[<-Pc.xl];exact FF (l:=NW) k8
 have aT:([.int 1,.int 0,.int 1,.int 1,.int 1,.int 1,.int 2,.int 1]:List V)[kd]? =some (.int ((ts.length:Nat):Int)):=by
  rw[<-Pc.tl];exact FF (l:=TW) k8
 have gv:∀{H':Hp},Fx [c,ik] H H'->a0 K H' g (ns.map V.int):=λ{H'} f=>MG R.gv hc R.ins f;have fresh:∀{H':Hp}{D:Addr},Fx [c,ik] H H'->H' D=none->D≠c->D≠ik->H D=none:=λ{H' D} f n1 n2 n3=>by
  cases e:H D with
  |none=>rfl
  |some o=>rw[f D o e (by simp[n2,n3])]at n1;cases n1
 refine⟨_,rfl,c,_,_,_,_,rfl,c2,T.c_.cl,T.ck,rfl,a.lG,_,_,_,rfl,rfl,T.wC _,at_of (j:=kd) rfl aN,_,rfl,(by omega),(by omega),λD hD=>?_⟩;have Dc:D≠c:=Pb (au c2 hD);have Dk:D≠ik:=Pb (au R2.ins hD);have nD:=fresh f2 hD Dc Dk;refine w6 (J:=EN 0 xs.length) (n:=xs.length) (λj H'=>Fx [c,ik] H H'/\H' c=some (.ins a.bY dc [("number",.int (kd:Nat))])/\H' ik=some (.ins a.aS dk (rR g (n+1+j)))/\H' D=some (.lst (((ns.drop (n+1)).take j).map V.int))) ⟨f2.new nD,by rw[ak (Pb Dc)];exact c2,by rw[ak (Pb Dk)];exact R2.ins,by rw[ai];rfl⟩ (λj H h _=>h) (λH _=>OZ _) (λj H' hj⟨f3,c3,i3,d3⟩ y H3 hy=>?_) λH3⟨f3,c3,i3,d3⟩=>?_
 ·obtain⟨rfl,rfl⟩:=hy
  have jl:n+1+j<ns.length:=by have:=Pc.xb;omega
  refine⟨rfl,_,rfl,ik,dk,_,rfl,i3,rfl,ik,dk,g,ns,n+1+j,rfl,⟨i3,gv f3⟩,jl,?_⟩;refine⟨_,by rw[ak Dk];exact d3,(by rw[OU,PK,O2];omega),(f3.trans (Fx.set (by simp))).new nD,?_,?_,?_⟩
  ·rw[ak (Pb Dc),ak ci]
   exact c3
  ·rw[ak (Pb Dk),ai]
   rfl
  ·rw[ai,Qs,Pn,List.getElem?_drop,OY jl]
   have eg:ns.getD (n+1+j) 0=ns[n+1+j]:=by simp[List.getD,OY jl]
   rw[eg];rfl
 ·rw[<-Pc.xv]at d3
  refine⟨_,rfl,c,_,dc,_,rfl,c3,T.c_.cl,T.fV,(by show 1<1000;decide),?_⟩;have gen:upd H3 c (.ins a.bY dc (cj "numbers" (V.ref D) [("number",.int (kd:Nat))]))=upd H3 c (.ins a.bY dc [("number",.int (kd:Nat)),("numbers",.ref D)]):=rfl;rw[gen];clear gen;have f4:Fx [c,ik] H (upd H3 c (.ins a.bY dc [("number",.int (kd:Nat)),("numbers",.ref D)])):=f3.trans (Fx.set (by simp));have c4:(upd H3 c (.ins a.bY dc [("number",.int (kd:Nat)),("numbers",.ref D)])) c=some (.ins a.bY dc [("number",.int (kd:Nat)),("numbers",.ref D)]):=ai;have i4:(upd H3 c (.ins a.bY dc [("number",.int (kd:Nat)),("numbers",.ref D)])) ik=some (.ins a.aS dk (rR g (n+1+xs.length))):=by rw[ak (Pb ci)];exact i3
  have d4:(upd H3 c (.ins a.bY dc [("number",.int (kd:Nat)),("numbers",.ref D)])) D=some (.lst (xs.map V.int)):=by rw[ak Dc];exact d3
  generalize upd H3 c (.ins a.bY dc [("number",.int (kd:Nat)),("numbers",.ref D)])=H4 at*;refine⟨_,rfl,c,_,_,_,_,rfl,c4,T.c_.cl,T.ck,rfl,a.nY,_,_,_,rfl,rfl,T.Ax _,at_of (j:=kd) rfl aT,_,rfl,(by omega),(by omega),λD2 hD2=>?_⟩;have D2c:D2≠c:=Pb (au c4 hD2);have D2k:D2≠ik:=Pb (au i4 hD2);have D2D:D≠D2:=au d4 hD2;have nD2:=fresh f4 hD2 D2c D2k;refine w6 (J:=EN 0 ts.length) (n:=ts.length) (λj H'=>∃(ta:List Addr)(m:Nat),Fx [c,ik] H H'/\H' c=some (.ins a.bY dc [("number",.int (kd:Nat)),("numbers",.ref D)])/\H' ik=some (.ins a.aS dk (rR g m))/\H' D=some (.lst (xs.map V.int))/\H' D2=some (.lst (ta.map V.ref))/\ta.length=j/\(∀b∈ta,b≠D2)/\(∀(i:Nat)(b:Addr)(l:List Int),ta[i]? =some b->ts[i]? =some l->H' b=some (.lst (l.map V.int)))/\B3 ns m (ts.drop j) n') ⟨[],n+1+xs.length,f4.new nD2,by rw[ak (Pb D2c)];exact c4,by rw[ak (Pb D2k)];exact i4,by rw[ak D2D];exact d4,by rw[ai];rfl,rfl,λb hb=>(by cases hb),λi b l h=>by simp at h,Pc.tv⟩ (λj H h _=>h) (λH _=>OZ _) (λj H' hj⟨ta,m,f5,c5,i5,d5,t5,l5,n5,v5,w5⟩ y H5 hy=>?_) λH5⟨ta,m,f5,c5,i5,d5,t5,l5,n5,v5,w5⟩=>?_
  ·obtain⟨rfl,rfl⟩:=hy
   rw[Qr hj]at w5;obtain⟨w1,w2,w3,w4⟩:=w5;refine⟨rfl,_,rfl,ik,dk,_,rfl,i5,rfl,ik,dk,g,ns,m,(ts[j]).length,rfl,⟨i5,gv f5⟩,w1,w3,λH6 q e6 i6 nq h6=>?_⟩;rw[<-w2]at h6;have c6:=e6 _ _ c5 ci;have d6:=e6 _ _ d5 Dk;have t6:=e6 _ _ t5 D2k;have qD2:q≠D2:=Pb (au t5 nq);have bk:∀b(l:List V),H5 b=some (.lst l)->b≠ik:=λb l h=>bf h i5 λz=>nomatch z;refine⟨_,t6,(by rw[OU,O2];omega),ta++[q],m+1+(ts[j]).length,((f5.trans (e6.fx (by simp))).new nD2),?_,?_,?_,?_,by rw[Pd,l5];rfl,λb hb=>?_,λi b l h1 h2=>?_,w4⟩
   ·rw[ak (Pb D2c)]
    exact c6
   ·rw[ak (Pb D2k)]
    exact i6
   ·rw[ak D2D]
    exact d6
   ·rw[ai,Pn]
    rfl
   ·rcases Pk.mp hb with z|z
    ·exact n5 b z
    ·rw[Pj]at z
     rw[z];exact qD2
   ·rcases Q2 i ta.length with hi|hi
    ·rw[Q_ hi]at h1
     rw[ak (n5 b (Pw h1))];have:=v5 i b l h1 h2;exact e6 _ _ this (bk _ _ this)
    ·rw[Q7 hi]at h1
     have i0:i-ta.length=0:=by
      have:=(O6.mp h1).1;rw[P0]at this;omega
     rw[i0]at h1;cases h1;have ij:i=j:=by omega
     subst ij;rw[OY hj]at h2;cases h2;rw[ak qD2];exact h6
  ·refine⟨_,rfl,c,_,dc,_,rfl,c5,T.c_.cl,T.dU,(by show 2<1000;decide),?_⟩
   have lc:∀b(l:List V),H5 b=some (.lst l)->b≠c:=λb l h=>bf h c5 λz=>nomatch z;rw[Qy (OZ _)]at w5;have w5:n'=m:=w5;subst w5;have f6:Fx [c,ik] H (upd H5 c (.ins a.bY dc (N0 kd D D2))):=f5.trans (Fx.set (by simp));refine k (upd H5 c (.ins a.bY dc (N0 kd D D2))) D D2 ta f6 ⟨ai,by rw[ak (lc _ _ d5)];exact d5,by rw[ak (lc _ _ t5)];exact t5,l5,λi b l h1 h2=>?_⟩ ⟨by rw[ak (Pb ci)];exact i5,gv f6⟩;have:=v5 i b l h1 h2;rw[ak (lc _ _ this)];exact this
def lQ(r:R0)(ps:List Int)(d:Nat)(piece:Int)(f:Nat):bN r ps d piece f (-1)=[]:=by
 cases f with
 |zero=>rfl
 |succ f=>
  unfold bN;rw[OW (.inl (by decide))]
def uN{r:R0}(W:zB r)(ps:List Int){d:Nat}(hd:d<4)(piece:Int):∀(f c:Nat),c<169->1<=lF r.wide r.high d c->(bN r ps d piece f (c:Nat)).length<=lF r.wide r.high d c
 |0,_,_,_=>P4 _
 |f+1,c,hc,h1=>by
  unfold bN;split
  ·exact P4 _
  ·rw[Pd]
   have e1:(if iF (r.ground.getD ((c:Nat):Int).toNat 0) piece=true then[((c:Nat):Int)]else[]).length<=1:=by split<;>simp
   have en:((c:Nat):Int).toNat=c:=Px c;rw[en]at e1 ⊢;have e2:(if piece=3/\r.slides=0 then[]else bN r ps d piece f (dm r.wide r.high c (cF d) (cE d))).length<=lF r.wide r.high d c-1:=by
    split
    ·exact P4 _
    ·rcases iC (c:=c) hd hc W.w W.h with h|⟨n,h2,h3,h4,h5,h6⟩
     ·rw[h,lQ]
      exact P4 _
     ·rw[h2]
      have:=uN W ps hd piece f n h3 h4;omega
   omega
def kr{r:R0}(W:zB r)(ps:List Int){d c:Nat}(hd:d<4)(hc:c<169):(bn r ps c d).length<=lF r.wide r.high d c-1:=by
 unfold bn;rcases iC (c:=c) hd hc W.w W.h with h|⟨n,h2,h3,h4,h5,h6⟩
 ·rw[h,lQ]
  exact P4 _
 ·rw[h2]
  have:=uN W ps hd (ps.getD c 0) 13 n h3 h4;omega
def CU{r:R0}(W:zB r)(ps:List Int){c:Nat}(hc:c<169)(h1:c%13<r.wide)(h2:c/13<r.high):(du r ps c).length<=24:=by
 unfold du;rw[sI];have e:reachOf r ps c=bn r ps c 0++(bn r ps c 1++(bn r ps c 2++(bn r ps c 3++[]))):=rfl;rw[e];simp only[Pd,List.length_nil];have d0:=kr W ps (d:=0) (by decide) hc;have d1:=kr W ps (d:=1) (by decide) hc;have d2:=kr W ps (d:=2) (by decide) hc;have d3:=kr W ps (d:=3) (by decide) hc;have e0:lF r.wide r.high 0 c=r.high-c/13:=rfl;have e1:lF r.wide r.high 1 c=r.wide-c%13:=rfl;have e2:lF r.wide r.high 2 c=c/13+1:=rfl;have e3:lF r.wide r.high 3 c=c%13+1:=rfl;have:=W.w;have:=W.h;omega
def zA{α β:Type}(f:α->List β)(b:Nat):∀l:List α,(∀x∈l,(f x).length<=b)->(l.flatMap f).length<=l.length*b
 |[],_=>by simp
 |x::l,h=>by
  rw[Qe,Pd,Pt,Nat.succ_mul];have:=zA f b l λy hy=>h y (Pa _ hy);have:=h x O8;omega
def yf(r:R0)(ps:List Int)(t:Int)(W:zB r):(aQ r ps t).length<=4056:=by
 unfold aQ;split
 ·simp
 ·have h1:=zA (cU r ps) 24 (cellsOf r ps t) λc hc=>by
   obtain⟨n,rfl,n1,n2,n3⟩:=jL W hc;unfold cU;rw[OU];exact CU W ps n1 n2 n3
  have h2:=qd r ps t W;have h3:(cellsOf r ps t).length*24<=169*24:=QD 24 h2;omega
def kH(r:R0)(ps:List Int)(tn:Int)(s t:Nat):(rowOf r ps tn s t).length<=7:=by
 unfold rowOf;simp only[Pt];have:=im r (bb ps s t) t;omega
def pj{r:R0}(W:zB r)(ps:List Int)(t:Int):(codes (fN r ps t)).length<=600:=by
 rw[zg];unfold fN;have hl1:("/":Str).length=1:=by decide+kernel
 have hl2:(" ":Str).length=1:=by decide+kernel
 rw[PV,PV,hl2,TL.join_eq];have hj:=StrLaws.join_length_le "/" ((List.range r.high).map λ(i:Nat)=>fJ (rowAt r ps i));have hsum:(((List.range r.high).map λ(i:Nat)=>fJ (rowAt r ps i)).map (·.length)).sum<=13*41:=by
  refine PD (CZ _ 41 λy hy=>?_) ?_
  ·obtain⟨z,hz,rfl⟩:=Pg.mp hy
   obtain⟨i,_,rfl⟩:=Pg.mp hz;exact xW (PD (t_ r ps i) W.w)
  ·rw[OU,OU,Qc]
   exact QD _ W.h
 rw[hl1,OU,Qc]at hj;have:=W.h;show _+1+1<=_;omega
def gO(l:List Int):(wc l).length=l.length+1:=rfl
def mI{α β:Type}(r:Except Rf α)(f:α->Except Rf β):Except Rf β:=match r with
 |.error e=>.error e
 |.ok x=>f x
def nO(a:Ad)(H:Hp)(Q:VK)(E:XK)(res:Except Rf (List Int)):Prop:=match res with
 |.ok l=>∀H' q,aE H H'->H q=none->H' q=some (.lst (l.map V.int))->Q (.ref q) H'
 |.error f=>Gd a H E f
def xI(s:Option R0):Except Rf (List Int):=match s with
 |none=>.error .ku
 |some r=>.ok (0::wc (codes (fN r r.start r.first)))
def Em(s:Option R0)(t0:List Int):Except Rf (List Int):=mI (om s t0) λp=>.ok [overOf p.1 p.2.1 p.2.2]
def Aa(s:Option R0)(t0:List Int):Except Rf (List Int):=mI (om s t0) λp=>.ok (0::(((aQ p.1 p.2.1 p.2.2).length:Nat):Int)::(aQ p.1 p.2.1 p.2.2).flatMap λ(e:Nat×Nat)=>wc (rowOf p.1 p.2.1 p.2.2 e.1 e.2))
def uc(p:R0×List Int×Int)(i j:Int):Bool:=(aQ p.1 p.2.1 p.2.2).any λ(e:Nat×Nat)=>((e.1:Nat):Int)==i&&((e.2:Nat):Int)==j
def Eh(s:Option R0)(t0:List Int)(i j:Nat):Except Rf (List Int):=mI (om s t0) λp=>if uc p i j=true then .ok (overOf p.1 (bA p.1 p.2.1 i j) (1-p.2.2)::(wc (codes (fN p.1 (bA p.1 p.2.1 i j) (1-p.2.2)))++wc (bW p.1 (bb p.2.1 i j) j)))else .error .noMove
def xt(s:Option R0)(t0:List Int)(i j:Nat):Except Rf (List Int):=mI (om s t0) λp=>if uc p i j=true then .ok (0::wc (codes (sW p.1 p.2.1 p.2.2 i j)))else .error .noMove
def Dv(s:Option R0)(t0 t1:List Int):Except Rf (List Int):=mI (om s t0) λp=>match(aQ p.1 p.2.1 p.2.2).find? λ(e:Nat×Nat)=>eR p.1 p.2.1 p.2.2 e==t1 with
 |some e=>.ok (0::wc (rowOf p.1 p.2.1 p.2.2 e.1 e.2))
 |none=>.error (.noLine (wX p.1 p.2.1 p.2.2 t1 (aQ p.1 p.2.1 p.2.2)))
def DV(s:Option R0)(t0:List Int)(n most:Nat):Except Rf (List Int):=mI (om s t0) λp=>if(1<=n/\n<=6)/\1<=most/\most<=2000 then(if(countOf p.1 p.2.1 p.2.2 n most).sum<=((most:Nat):Int)then .ok (0::wc (countOf p.1 p.2.1 p.2.2 n most))else .error .many)else .error .out
def nO.err{a:Ad}{H H1:Hp}{Q:VK}{E:XK}{f:Rf}(k:nO a H Q E (.error f))(s:aE H H1):Gd a H1 E f:=Gd.mono k s
def qM.text{a:Ad}{H:Hp}{c dc nq tq:Addr}{ta:List Addr}{kd:Nat}{xs:List Int}{ts:List (List Int)}(C:qM a H c dc nq tq ta kd xs ts){i:Nat}{l:List Int}(h:ts[i]? =some l):∃b,(ta.map V.ref)[i]? =some (.ref b)/\H b=some (.lst (l.map V.int)):=by
 have hi:i<ta.length:=by rw[C.n];exact(O6.mp h).1
 have hb:ta[i]? =some ta[i]:=OY hi;exact⟨ta[i],by rw[Ph,hb];rfl,C.t i _ l hb h⟩
def r_{x dx g:Addr}{sv:Option (RA×R0)}{H:Hp}{ns:List Int}{Q Q':VK}{E:XK}{f:R0×List Int×Int->Except Rf (List Int)}(D:kx a H x dx sv)(hg:H g=some (.lst (ns.map V.int)))(k:nO a H Q E (mI (om (sv.map (·.2)) ns) f))
  (c:∀A r l t,sv=some (A,r)->∀H' y dy pp,aE H H'->v7 a H' y dy pp l t->nO a H Q E (f (r,l,t))->Q' (.ref y) H'):J3 a [.ref x,.ref g] H Q' E:=by
 refine⟨x,dx,sv,g,ns,rfl,D,hg,?_⟩;cases hp:om (sv.map (·.2)) ns with
 |error e=>
  rw[hp]at k;exact k
 |ok p=>
  rw[hp]at k;exactλA e H' y dy pp s Pp=>c A p.1 p.2.1 p.2.2 e H' y dy pp s Pp k
def IK(a:Ad):Sp:=λvs H Q E=>∃(x dx:Addr)(sv:Option (RA×R0)),vs=[.ref x]/\kx a H x dx sv/\nO a H Q E (xI (sv.map (·.2)))
def oH:aB ["desk","rules"] ["desk"] (ao (top 101)):=aR
def vE(T:Tx K mg a):a4 P w K mg base (cX P w) 4 a.gk a.oU ["desk"] (IK a):=by
 refine T.gk.F.oQ oH λcdv A outer s H vs Q E hr h=>?_;obtain⟨x,dx,sv,rfl,D,k⟩:=h;refine⟨_,(ae (eV 1 oH.nd (Fo (pv 0) T.fc T.cM (kf T) hr aA.passes)) (aj (aF (bz pU (cf (aa az ah)) (dn T.b7 (df T) hr aK (aa (dn T.gM (qS T) hr aK (aa (pv 1) (aa (ay (pv 1) rfl) ah))) ah)))))),?_⟩;refine⟨_,rfl,x,dx,_,rfl,D.ins,(by cases sv<;>rfl),x,dx,sv,rfl,D,λe=>?_,λA' r e=>?_⟩
 ·subst e
  exact k
 ·subst e
  have R:=D.ra A' r rfl;replace k:∀H' q,aE H H'->H q=none->H' q=some (.lst ((0::wc (codes (fN r r.start r.first))).map V.int))->Q (.ref q) H':=k;refine⟨(by rw[O2];show 1<=_;omega),λz nz=>?_⟩;have S1:=aC (o:= .lst [V.int 0]) nz;have R1:=R.same S1;refine⟨_,rfl,_,rfl,A'.x,_,_,_,_,rfl,R1.ins,T.aU.cl,T.mK,rfl,A',r,A'.st,A'.sd,A'.sp,r.start,r.first,rfl,R1,⟨R1.st,R1.sp,R.ok.s,R.ok.f⟩,λH2 q2 s2 n2 h2=>⟨q2,_,rfl,h2,?_,λH3 q3 s3 n3 h3=>⟨z,q3,_,_,rfl,rfl,(s2.trans s3) _ _ ai,h3,?_,λy ny=>?_⟩⟩⟩
  ·have:=pj R.ok r.start r.first
   omega
  ·have:=pj R.ok r.start r.first
   rw[OU,O2,gO];show 1+_<=_;omega
  ·have S3:=S1.trans (s2.trans s3)
   exact k _ y (S3.trans (aC ny)) (S3.free ny) (by rw[ai];rfl)
def IU(a:Ad):Sp:=λvs H Q E=>∃(x dx:Addr)(sv:Option (RA×R0))(c dc nq tq:Addr)(ta:List Addr)(kd:Nat)(xs t0:List Int),vs=[.ref x,.ref c]/\kx a H x dx sv/\qM a H c dc nq tq ta kd xs [t0]/\nO a H Q E (Em (sv.map (·.2)) t0)
def pN:aB ["desk","call","position"] ["desk","call"] (ao (top 102)):=aR
def wP(T:Tx K mg a):a4 P w K mg base (cX P w) 9 a.gU a.qP ["desk","call"] (IU a):=by
 refine T.gU.F.oQ pN λcdv A outer s H vs Q E hr h=>?_;obtain⟨x,dx,sv,c,dc,nq,tq,ta,kd,xs,t0,rfl,D,C,k⟩:=h;refine⟨_,(ae (eV 2 pN.nd (jf (pv 0) T.fc T.bJ (c9 T) hr aA.passes (aa (bj a_ (ay (pv 1) rfl) az (λ_ _=>rfl)) ah))) (aj (aF (cf (aa (dn T.jt (vn T) hr aK (aa (ay (pv 0) rfl) (aa (pv 2) ah))) ah))))),?_⟩;obtain⟨b0,hb,h0⟩:=C.text (i:=0) rfl;refine⟨_,rfl,x,dx,_,rfl,D.ins,(by cases sv<;>rfl),_,rfl,c,_,_,_,_,rfl,C.ins,T.c_.cl,T.dU,rfl,tq,_,_,_,rfl,rfl,a0.of C.tx,at_of (j:=0) rfl hb,?_⟩;dsimp only[rN,Ri,Qt];refine r_ D h0 k λA' r l t e H1 y dy pp s1 P1 kk=>?_;clear k;subst e;have D1:=D.same s1;refine⟨_,rfl,x,_,_,_,_,rfl,D1.ins,T.fc.cl,T.cA,rfl,_,rfl,A',r,y,dy,pp,l,t,rfl,D1.ra A' r rfl,P1,λH2 s2=>⟨(by rw[O2];show 1<=_;omega),λz nz=>?_⟩⟩;have S2:=s1.trans s2;exact kk _ z (S2.trans (aC nz)) (S2.free nz) (by rw[ai];rfl)
def FG(a:Ad):Sp:=λvs H Q E=>∃(x dx:Addr)(sv:Option (RA×R0))(c dc nq tq:Addr)(ta:List Addr)(kd:Nat)(xs t0:List Int),vs=[.ref x,.ref c]/\kx a H x dx sv/\qM a H c dc nq tq ta kd xs [t0]/\nO a H Q E (Aa (sv.map (·.2)) t0)
def fA:aB ["desk","call","position","moves","told","move"] ["desk","call"] (ao (top 103)):=aR
def vz(T:Tx K mg a):a4 P w K mg base (cX P w) 9 a.fW a.qb ["desk","call"] (FG a):=by
 refine T.fW.F.oQ fA λcdv A outer s H vs Q E hr h=>?_;obtain⟨x,dx,sv,c,dc,nq,tq,ta,kd,xs,t0,rfl,D,C,k⟩:=h;refine⟨_,(ae (eV 2 fA.nd (jf (pv 0) T.fc T.bJ (c9 T) hr aA.passes (aa (bj a_ (ay (pv 1) rfl) az (λ_ _=>rfl)) ah))) (ae (eV 3 fA.nd (dn T.jw (uY T) hr aK (aa (ay (pv 0) rfl) (aa (pv 2) ah)))) (ae (eV 4 fA.nd (cf (aa az (aa (bu bP rfl T.mE (by decide+kernel) (aa (pv 3) ah)) ah)))) (ae (dL Qh rfl (cP (pv 3)) (kR 5 fA.nd) (aj (aZ (jg PQ QJ QK kJ (pv 4) (aa (dn T.b7 (df T) hr aK (aa (Fo (pv 5) T.bZ T.fC (o5 T) hr aK) ah)) ah))))) (aj (aF (pv 4))))))),?_⟩;obtain⟨b0,hb,h0⟩:=C.text (i:=0) rfl;refine⟨_,rfl,x,dx,_,rfl,D.ins,(by cases sv<;>rfl),_,rfl,c,_,_,_,_,rfl,C.ins,T.c_.cl,T.dU,rfl,tq,_,_,_,rfl,rfl,a0.of C.tx,at_of (j:=0) rfl hb,?_⟩;dsimp only[rN,Ri,Qt];refine r_ D h0 k λA' r l t e H1 y dy pp s1 P1 kk=>?_;clear k;subst e;have D1:=D.same s1;have R1:=D1.ra A' r rfl;have sl:=yf r l t R1.ok;refine⟨_,rfl,x,_,_,_,_,rfl,D1.ins,T.fc.cl,T.cA,rfl,_,rfl,A',r,y,dy,pp,l,t,rfl,R1,P1,λH2 q Ms s2 nq2 M2=>?_⟩;refine⟨_,rfl,q,_,rfl,.inl (a0.of M2.l),(by rw[O2];show 2<=_;omega),λz nz=>?_⟩;have S2:=s1.trans s2;have nz0:H z=none:=S2.free nz;have S3:=aC (o:= .lst [V.int 0,.int (((Ms.map V.ref).length:Nat))]) nz;refine⟨_,rfl,q,rfl,⟨_,a0.of (S3 _ _ M2.l)⟩,?_⟩;have k:∀H' q,aE H H'->H q=none->H' q=some (.lst ((0::(((aQ r l t).length:Nat):Int)::(aQ r l t).flatMap λ(e:Nat×Nat)=>wc (rowOf r l t e.1 e.2)).map V.int))->Q (.ref q) H':=kk;have rl:∀e:Nat×Nat,(wc (rowOf r l t e.1 e.2)).length<=8:=λe=>by
  unfold wc;rw[Pt];have:=kH r l t e.1 e.2;omega
 refine gm (xs:=Ms.map V.ref) (λi σ H'=>∃u,σ=[some (.ref x),some (.ref c),some (.ref y),some (.ref q),some (.ref z),u]/\aE H2 H'/\H' z=some (.lst ((0::(((aQ r l t).length:Nat):Int)::((aQ r l t).take i).flatMap λ(e:Nat×Nat)=>wc (rowOf r l t e.1 e.2)).map V.int))) ⟨_,rfl,S3,by rw[ai,OU,M2.n];rfl⟩ (λi σ H4 _⟨u,e,s4,h4⟩=>a0.of (s4 _ _ M2.l)) (λi v σ H4 hv⟨u,e,s4,h4⟩=>?_) λσ H4⟨u,e,s4,h4⟩=>?_
 ·subst e
  obtain⟨b,hb',rfl⟩:=rL hv;have il:i<(aQ r l t).length:=by rw[<-M2.n];exact(O6.mp hb').1
  obtain⟨e,he⟩:∃e,(aQ r l t)[i]? =some e:=⟨_,OY il⟩;have mm:=(M2.m i b e hb' he).same s4;obtain⟨mdx,mtk,maf,mad,map',mn1,mn2,mi,mt,mp⟩:=id mm;refine⟨_,rfl,.inl ⟨rfl,_,a0.of h4⟩,_,rfl,b,mdx,_,rfl,mi,rfl,H1,r,l,t,e.1,e.2,b,rfl,mm,λH5 q5 s5 n5 h5=>⟨q5,rowOf r l t e.1 e.2,rfl,h5,?_,λH6 q6 s6 n6 h6=>?_⟩⟩
  ·have:=kH r l t e.1 e.2
   omega
  ·have s56:=s5.trans s6
   have fl:=m8 (λ(e:Nat×Nat)=>wc (rowOf r l t e.1 e.2)) 8 rl ((aQ r l t).take i);have tl:((aQ r l t).take i).length<=4056:=by rw[PK];omega
   have r1:=rl e;refine⟨z,q6,_,_,rfl,rfl,s56 _ _ h4,h6,?_,_,rfl,cY nz (s4.trans s56),?_⟩
   ·rw[OU,OU,O2,Pt,Pt]
    omega
   ·rw[ai,<-Pn,Qs,he,List.flatMap_append]
    simp
 ·subst e
  rw[OU,M2.n,PB (OZ _)]at h4;exact⟨_,rfl,k H4 z (S2.trans s4) nz0 h4⟩
def lO{p:R0×List Int×Int}{i j:Nat}:uc p (i:Nat) (j:Nat)=true↔(i,j)∈aQ p.1 p.2.1 p.2.2:=by
 unfold uc;rw[Qk];constructor
 ·rintro⟨⟨s,t⟩,h,e⟩
  rw[Pe,Qj,Qj]at e;have e1:s=i:=by have:=e.1;omega
  have e2:t=j:=by have:=e.2;omega
  subst e1 e2;exact h
 ·intro h
  exact⟨(i,j),h,by simp⟩
def L6(a:Ad)(H:Hp)(sv:Option (RA×R0))(t0:List Int)(i j:Nat)(Q:VK)(E:XK):Prop:=match om (sv.map (·.2)) t0 with
 |.error f=>Gd a H E f
 |.ok p=>if uc p i j=true then∀A,sv=some (A,p.1)->∀H' H0 m,aE H H'->aE H H0->rZ p.2.1->(p.2.2=0\/p.2.2=1)->A7 a H0 H' p.1 p.2.1 p.2.2 i j m->Q (.ref m) H' else Gd a H E .noMove
def Ie(a:Ad):Sp:=λvs H Q E=>∃(x dx:Addr)(sv:Option (RA×R0))(c dc nq tq:Addr)(ta:List Addr)(kd:Nat)(i j:Nat)(t0:List Int),vs=[.ref x,.ref c]/\kx a H x dx sv/\qM a H c dc nq tq ta kd [(i:Nat),(j:Nat)] [t0]/\L6 a H sv t0 i j Q E
def qZ:aB ["desk","call","position"] ["desk","call"] (ao (top 104)):=aR
def qV(T:Tx K mg a):a4 P w K mg base (cX P w) 9 a.gy a.sN ["desk","call"] (Ie a):=by
 refine T.gy.F.oQ qZ λcdv A outer s H vs Q E hr h=>?_;obtain⟨x,dx,sv,c,dc,nq,tq,ta,kd,i,j,t0,rfl,D,C,k⟩:=h;refine⟨_,(ae (eV 2 qZ.nd (jf (pv 0) T.fc T.bJ (c9 T) hr aA.passes (aa (bj a_ (ay (pv 1) rfl) az (λ_ _=>rfl)) ah))) (aj (aF (dn T.gc (vp T) hr aA.passes (aa (ay (pv 0) rfl) (aa (pv 2) (aa (bj a_ (ay (pv 1) rfl) az (λ_ _=>rfl)) (aa (bj a_ (ay (pv 1) rfl) az (λ_ _=>rfl)) ah)))))))),?_⟩;obtain⟨b0,hb,h0⟩:=C.text (i:=0) rfl;refine⟨_,rfl,x,dx,_,rfl,D.ins,(by cases sv<;>rfl),_,rfl,c,_,_,_,_,rfl,C.ins,T.c_.cl,T.dU,rfl,tq,_,_,_,rfl,rfl,a0.of C.tx,at_of (j:=0) rfl hb,x,dx,sv,b0,t0,rfl,D,h0,?_⟩;unfold L6 at k;cases hp:om (sv.map (·.2)) t0 with
 |error f=>
  rw[hp]at k;exact k
 |ok p=>
  rw[hp]at k;dsimp only at k;intro A' e H1 y dy pp s1 P1;subst e;have D1:=D.same s1;have C1:=C.same s1;have R1:=D1.ra A' p.1 rfl;refine⟨_,rfl,x,_,_,_,_,rfl,D1.ins,T.fc.cl,T.cA,rfl,_,rfl,_,rfl,c,_,_,_,_,rfl,C1.ins,T.c_.cl,T.fV,rfl,nq,_,_,_,rfl,rfl,a0.of C1.nm,at_of (j:=0) rfl rfl,_,rfl,c,_,_,_,_,rfl,C1.ins,T.c_.cl,T.fV,rfl,nq,_,_,_,rfl,rfl,a0.of C1.nm,at_of (j:=1) rfl rfl,A',p.1,y,dy,pp,p.2.1,p.2.2,(i:Nat),(j:Nat),rfl,R1,P1,λhno=>?_,λs' t' es et hm H2 m s2 M2=>?_⟩
  ·rw[OV (by rw[show uc p (i:Nat) (j:Nat)=false from hno];exact O3)]at k
   exact d9.mono k s1
  ·have es:i=s':=by omega
   have et:j=t':=by omega
   subst es et;rw[OW (lO.mpr hm)]at k;exact k A' rfl H2 H1 m (s1.trans s2) s1 P1.ok P1.tn M2
def Ip(a:Ad):Sp:=λvs H Q E=>∃(x dx:Addr)(sv:Option (RA×R0))(c dc nq tq:Addr)(ta:List Addr)(kd:Nat)(i j:Nat)(t0:List Int),vs=[.ref x,.ref c]/\kx a H x dx sv/\qM a H c dc nq tq ta kd [(i:Nat),(j:Nat)] [t0]/\nO a H Q E (Eh (sv.map (·.2)) t0 i j)
def CT{x dx:Addr}{sv:Option (RA×R0)}{H:Hp}{t0:List Int}{i j:Nat}{Q Q':VK}{E:XK}{f:R0×List Int×Int->List Int}(k:nO a H Q E (mI (om (sv.map (·.2)) t0) λp=>if uc p i j=true then .ok (f p)else .error .noMove))
  (c:∀A r l t,sv=some (A,r)->(i,j)∈aQ r l t->∀H' H0 m,aE H H'->rZ l->(t=0\/t=1)->A7 a H0 H' r l t i j m->(∀H' q,aE H H'->H q=none->H' q=some (.lst ((f (r,l,t)).map V.int))->Q (.ref q) H')->Q' (.ref m) H'):L6 a H sv t0 i j Q' E:=by
 unfold L6;cases hp:om (sv.map (·.2)) t0 with
 |error e=>
  rw[hp]at k;exact k
 |ok p=>
  rw[hp]at k;dsimp only;replace k:nO a H Q E (if uc p i j=true then .ok (f p)else .error .noMove):=k
  by_cases hm:uc p i j=true
  ·rw[OW hm]at k ⊢
   exactλA e H' H0 m s _ W ht M=>c A p.1 p.2.1 p.2.2 e (lO.mp hm) H' H0 m s W ht M k
  ·rw[OV hm]at k ⊢
   exact k
def pH:aB ["desk","call","move"] ["desk","call"] (ao (top 105)):=aR
def wJ(T:Tx K mg a):a4 P w K mg base (cX P w) 10 a.gW a.qO ["desk","call"] (Ip a):=by
 refine T.gW.F.oQ pH λcdv A outer s H vs Q E hr h=>?_;obtain⟨x,dx,sv,c,dc,nq,tq,ta,kd,i,j,t0,rfl,D,C,k⟩:=h;refine⟨_,(ae (eV 2 pH.nd (dn T.gy (qV T) hr aA.passes (aa (pv 0) (aa (pv 1) ah)))) (aj (aF (bz pU (bz pU (cf (aa (ay (pv 2) rfl) ah)) (dn T.b7 (df T) hr aK (aa (dn T.gM (qS T) hr aK (aa (ay (pv 0) rfl) (aa (ay (pv 2) rfl) ah))) ah))) (dn T.b7 (df T) hr aK (aa (ay (pv 2) rfl) ah)))))),?_⟩;refine⟨_,rfl,_,rfl,x,dx,sv,c,dc,nq,tq,ta,kd,i,j,t0,rfl,D,C,CT (x:=x) (dx:=dx) k λA' r l t e hm H1 H0 m s1 W ht M1 kk=>?_⟩;clear k;subst e;have D1:=D.same s1;have R1:=D1.ra A' r rfl;obtain⟨mdx,mtk,maf,mad,map',mn1,mn2,mi,mt,mp⟩:=M1;have t4:=im r (bb l i j) j;have ll:=pj R1.ok (bA r l i j) (1-t);refine⟨_,rfl,m,_,_,_,_,rfl,mi,T.bZ.cl,T.f9,rfl,(by rw[O2];show 1<=_;omega),λz nz=>?_⟩;have S2:=aC (o:= .lst [V.int (overOf r (bA r l i j) (1-t))]) nz;have z2:(upd H1 z (.lst [V.int (overOf r (bA r l i j) (1-t))])) z=some (.lst [V.int (overOf r (bA r l i j) (1-t))]):=ai;generalize upd H1 z (.lst [V.int (overOf r (bA r l i j) (1-t))])=H2 at*;have D2:=D1.same S2;refine⟨_,rfl,x,_,_,_,_,rfl,D2.ins,T.fc.cl,T.cA,rfl,_,rfl,m,_,_,_,_,rfl,S2 _ _ mi,T.bZ.cl,T.kC,rfl,A',r,maf,mad,map',_,_,rfl,R1.same S2,mp.same S2,λH3 q3 s3 n3 h3=>⟨q3,_,rfl,h3,by omega,λH4 q4 s4 n4 h4=>?_⟩⟩;have s34:=s3.trans s4;have s24:=S2.trans s34;refine⟨z,q4,_,_,rfl,rfl,s34 _ _ z2,h4,(by rw[OU,O2,gO];show 1+_<=_;omega),λy ny=>?_⟩;have S5:=aC (o:= .lst ([V.int (overOf r (bA r l i j) (1-t))]++(wc (codes (fN r (bA r l i j) (1-t)))).map V.int)) ny;have y5:(upd H4 y (.lst ([V.int (overOf r (bA r l i j) (1-t))]++(wc (codes (fN r (bA r l i j) (1-t)))).map V.int))) y=some (.lst ([V.int (overOf r (bA r l i j) (1-t))]++(wc (codes (fN r (bA r l i j) (1-t)))).map V.int)):=ai;generalize upd H4 y (.lst ([V.int (overOf r (bA r l i j) (1-t))]++(wc (codes (fN r (bA r l i j) (1-t)))).map V.int))=H5 at*;have s25:=s24.trans S5;refine⟨_,rfl,m,_,_,_,_,rfl,s25 _ _ mi,T.bZ.cl,T.gC,rfl,mtk,_,rfl,s25 _ _ mt,by omega,λH6 q6 s6 n6 h6=>⟨y,q6,_,_,rfl,rfl,s6 _ _ y5,h6,?_,λv nv=>?_⟩⟩
 ·rw[Pd,OU,OU,O2,gO,gO]
  show 1+_+_<=_;omega
 ·have S6:=(s1.trans s25).trans s6
  refine kk _ v (S6.trans (aC nv)) (S6.free nv) ?_;rw[ai];show _=some (HO.lst (V.int (overOf r (bA r l i j) (1-t))::(wc (codes (fN r (bA r l i j) (1-t)))++wc (bW r (bb l i j) j)).map V.int));rw[Pn];rfl
def FE(a:Ad):Sp:=λvs H Q E=>∃(x dx:Addr)(sv:Option (RA×R0))(c dc nq tq:Addr)(ta:List Addr)(kd:Nat)(i j:Nat)(t0:List Int),vs=[.ref x,.ref c]/\kx a H x dx sv/\qM a H c dc nq tq ta kd [(i:Nat),(j:Nat)] [t0]/\nO a H Q E (xt (sv.map (·.2)) t0 i j)
def zS{r:R0}{ps:List Int}{tn:Int}{s t:Nat}(W:zB r)(hs:s<169)(ht:t<169):(codes (sW r ps tn s t)).length<=26:=by
 rw[zg];obtain⟨o0,o3⟩:=AY r (bA r ps s t) (1-tn);exact Dn hs ht (im _ _ _) (λv hv=>by obtain⟨c,rfl,c1⟩:=jM W ht hv;exact c1) o0 o3
def vG:aB ["desk","call"] ["desk","call"] (ao (top 106)):=aR
def vA(T:Tx K mg a):a4 P w K mg base (cX P w) 10 a.fR a.pW ["desk","call"] (FE a):=by
 refine T.fR.F.oQ vG λcdv A outer s H vs Q E hr h=>?_;obtain⟨x,dx,sv,c,dc,nq,tq,ta,kd,i,j,t0,rfl,D,C,k⟩:=h;refine⟨_,(aj (aF (bz pU (cf (aa az ah)) (dn T.b7 (df T) hr aK (aa (dn T.gG (rb T) hr aK (aa (dn T.gy (qV T) hr aA.passes (aa (pv 0) (aa (pv 1) ah))) ah)) ah))))),?_⟩;refine⟨(by rw[O2];show 1<=_;omega),λz nz=>?_⟩;have S1:=aC (o:= .lst [V.int 0]) nz;have z1:(upd H z (.lst [V.int 0])) z=some (.lst [V.int 0]):=ai;generalize upd H z (.lst [V.int 0])=H1 at*;have D1:=D.same S1;have C1:=C.same S1;refine⟨_,rfl,_,rfl,x,dx,sv,c,dc,nq,tq,ta,kd,i,j,t0,rfl,D1,C1,?_⟩;unfold L6;unfold xt mI at k;cases hp:om (sv.map (·.2)) t0 with
 |error e=>
  rw[hp]at k;exact nO.err k S1
 |ok p=>
  rw[hp]at k;dsimp only at k ⊢
  by_cases hm:uc p i j=true
  ·rw[OW hm]at k ⊢
   intro A' e H2 H0 m s2 _ W ht M2;subst e;obtain⟨b1,b2⟩:=kF (D.ra A' p.1 rfl).ok (lO.mp hm);have Wr:=(D.ra A' p.1 rfl).ok;have ml:(codes (sW p.1 p.2.1 p.2.2 i j)).length<=26:=zS (ps:=p.2.1) (tn:=p.2.2) Wr b1 b2;refine⟨H0,p.1,p.2.1,p.2.2,i,j,m,rfl,M2,Wr,b1,b2,λH3 q3 s3 n3 h3=>⟨q3,_,rfl,h3,PD ml (by decide),λH4 q4 s4 n4 h4=>⟨z,q4,_,_,rfl,rfl,(s2.trans (s3.trans s4)) _ _ z1,h4,(by rw[OU,O2,gO];show 1+_<=_;omega),λv nv=>?_⟩⟩⟩;have S4:=S1.trans (s2.trans (s3.trans s4));exact k _ v (S4.trans (aC nv)) (S4.free nv) (by rw[ai];rfl)
  ·rw[OV hm]at k ⊢
   exact nO.err k S1
def Jj(a:Ad):Sp:=λvs H Q E=>∃(x dx:Addr)(sv:Option (RA×R0))(c dc nq tq:Addr)(ta:List Addr)(kd:Nat)(xs t0 t1:List Int),vs=[.ref x,.ref c]/\kx a H x dx sv/\qM a H c dc nq tq ta kd xs [t0,t1]/\nO a H Q E (Dv (sv.map (·.2)) t0 t1)
def oY:aB ["desk","call","position"] ["desk","call"] (ao (top 107)):=aR
def xw(T:Tx K mg a):a4 P w K mg base (cX P w) 9 a.gX a.qT ["desk","call"] (Jj a):=by
 refine T.gX.F.oQ oY λcdv A outer s H vs Q E hr h=>?_;obtain⟨x,dx,sv,c,dc,nq,tq,ta,kd,xs,t0,t1,rfl,D,C,k⟩:=h;refine⟨_,(ae (eV 2 oY.nd (jf (pv 0) T.fc T.bJ (c9 T) hr aA.passes (aa (bj a_ (ay (pv 1) rfl) az (λ_ _=>rfl)) ah))) (aj (aF (bz pU (cf (aa az ah)) (dn T.b7 (df T) hr aK (aa (Fo (dn T.jN (z_ T) hr aA.passes (aa (ay (pv 0) rfl) (aa (pv 2) (aa (bj a_ (ay (pv 1) rfl) az (λ_ _=>rfl)) ah)))) T.bZ T.fC (o5 T) hr aK) ah)))))),?_⟩;obtain⟨b0,hb,h0⟩:=C.text (i:=0) rfl;obtain⟨b1,hb1,h1⟩:=C.text (i:=1) rfl;refine⟨_,rfl,x,dx,_,rfl,D.ins,(by cases sv<;>rfl),_,rfl,c,_,_,_,_,rfl,C.ins,T.c_.cl,T.dU,rfl,tq,_,_,_,rfl,rfl,a0.of C.tx,at_of (j:=0) rfl hb,?_⟩;dsimp only[rN,Ri,Qt];refine r_ D h0 k λA' r l t e H1 y dy pp s1 P1 kk=>?_;clear k;subst e;refine⟨(by rw[O2];show 1<=_;omega),λz nz=>?_⟩;have S2:=aC (o:= .lst [V.int 0]) nz;have z2:(upd H1 z (.lst [V.int 0])) z=some (.lst [V.int 0]):=ai;generalize upd H1 z (.lst [V.int 0])=H2 at*;have S:=s1.trans S2;have D2:=D.same S;have C2:=C.same S;have R2:=D2.ra A' r rfl;refine⟨_,rfl,x,_,_,_,_,rfl,D2.ins,T.fc.cl,T.cA,rfl,_,rfl,_,rfl,c,_,_,_,_,rfl,C2.ins,T.c_.cl,T.dU,rfl,tq,_,_,_,rfl,rfl,a0.of C2.tx,at_of (j:=1) rfl hb1,A',r,y,dy,pp,l,t,b1,t1,rfl,R2,P1.same S2,S _ _ h1,?_⟩;dsimp only at kk;cases hf:(aQ r l t).find? λ(e:Nat×Nat)=>eR r l t e==t1 with
 |none=>
  rw[hf]at kk;exact nO.err kk S
 |some e=>
  rw[hf]at kk;intro H3 m s3 M3;obtain⟨mdx,mtk,maf,mad,map',mn1,mn2,mi,mt,mp⟩:=id M3;refine⟨m,mdx,_,rfl,mi,rfl,H2,r,l,t,e.1,e.2,m,rfl,M3,λH4 q4 s4 n4 h4=>⟨q4,_,rfl,h4,PD (kH _ _ _ _ _) (by decide),λH5 q5 s5 n5 h5=>⟨z,q5,_,_,rfl,rfl,(s3.trans (s4.trans s5)) _ _ z2,h5,?_,λv nv=>?_⟩⟩⟩
  ·have:=kH r l t e.1 e.2
   rw[OU,O2,gO];show 1+_<=_;omega
  ·have S5:=S.trans (s3.trans (s4.trans s5))
   exact kk _ v (S5.trans (aC nv)) (S5.free nv) (by rw[ai];rfl)
def yq(r:R0)(most:Nat):∀(f:Nat)(rows:List RE)(cs:List Int),(jX r most f rows cs).length<=cs.length+f
 |0,_,_=>OZ _
 |f+1,rows,cs=>by
  unfold jX;split
  ·have:=yq r most f (eD r (most-cs.sum.toNat) rows []) (cs++[((eD r (most-cs.sum.toNat) rows []).length:Int)])
   rw[Pd,P0]at this;omega
  ·omega
def uZ(r:R0)(ps:List Int)(t:Int)(n most:Nat):(countOf r ps t n most).length<=n+1:=by
 unfold countOf;have:=yq r most (n-1) (ji r ps t) [((ji r ps t).length:Int)];rw[P0]at this;omega
def Jg(a:Ad):Sp:=λvs H Q E=>∃(x dx:Addr)(sv:Option (RA×R0))(c dc nq tq:Addr)(ta:List Addr)(kd:Nat)(n most:Nat)(t0:List Int),vs=[.ref x,.ref c]/\kx a H x dx sv/\qM a H c dc nq tq ta kd [(n:Nat),(most:Nat)] [t0]/\nO a H Q E (DV (sv.map (·.2)) t0 n most)
def pB:aB ["desk","call","position"] ["desk","call"] (ao (top 108)):=aR
def wv(T:Tx K mg a):a4 P w K mg base (cX P w) 9 a.gY a.rh ["desk","call"] (Jg a):=by
 refine T.gY.F.oQ pB λcdv A outer s H vs Q E hr h=>?_;obtain⟨x,dx,sv,c,dc,nq,tq,ta,kd,n,most,t0,rfl,D,C,k⟩:=h;refine⟨_,(ae (eV 2 pB.nd (jf (pv 0) T.fc T.bJ (c9 T) hr aA.passes (aa (bj a_ (ay (pv 1) rfl) az (λ_ _=>rfl)) ah))) (aj (aF (bz pU (cf (aa az ah)) (dn T.b7 (df T) hr aK (aa (dn T.iZ (zc T) hr aA.passes (aa (ay (pv 0) rfl) (aa (pv 2) (aa (bj a_ (ay (pv 1) rfl) az (λ_ _=>rfl)) (aa (bj a_ (ay (pv 1) rfl) az (λ_ _=>rfl)) ah))))) ah)))))),?_⟩;obtain⟨b0,hb,h0⟩:=C.text (i:=0) rfl;refine⟨_,rfl,x,dx,_,rfl,D.ins,(by cases sv<;>rfl),_,rfl,c,_,_,_,_,rfl,C.ins,T.c_.cl,T.dU,rfl,tq,_,_,_,rfl,rfl,a0.of C.tx,at_of (j:=0) rfl hb,?_⟩;dsimp only[rN,Ri,Qt];refine r_ D h0 k λA' r l t e H1 y dy pp s1 P1 kk=>?_;clear k;subst e;refine⟨(by rw[O2];show 1<=_;omega),λz nz=>?_⟩;have S2:=aC (o:= .lst [V.int 0]) nz;have z2:(upd H1 z (.lst [V.int 0])) z=some (.lst [V.int 0]):=ai;generalize upd H1 z (.lst [V.int 0])=H2 at*;have S:=s1.trans S2;have D2:=D.same S;have C2:=C.same S;have R2:=D2.ra A' r rfl;dsimp only at kk;refine⟨_,rfl,x,_,_,_,_,rfl,D2.ins,T.fc.cl,T.cA,rfl,_,rfl,_,rfl,c,_,_,_,_,rfl,C2.ins,T.c_.cl,T.fV,rfl,nq,_,_,_,rfl,rfl,a0.of C2.nm,at_of (j:=0) rfl rfl,_,rfl,c,_,_,_,_,rfl,C2.ins,T.c_.cl,T.fV,rfl,nq,_,_,_,rfl,rfl,a0.of C2.nm,at_of (j:=1) rfl rfl,A',r,y,dy,pp,l,t,n,most,rfl,R2,P1.same S2,λhb=>?_,λhb=>⟨λhs=>?_,λhs H3 q3 s3 n3 h3=>?_⟩⟩
 ·unfold Mn at hb
  rw[OV hb]at kk;exact nO.err kk S
 ·unfold Mn at hb
  rw[OW hb,OV (by omega)]at kk;exact nO.err kk S
 ·unfold Mn at hb
  rw[OW hb,OW hs]at kk;have cl:=uZ r l t n most;have n6:=hb.1.2;refine⟨q3,_,rfl,h3,by omega,λH5 q5 s5 n5 h5=>⟨z,q5,_,_,rfl,rfl,(s3.trans s5) _ _ z2,h5,?_,λv nv=>?_⟩⟩
  ·rw[OU,O2,gO]
   show 1+_<=_;omega
  ·have S5:=S.trans (s3.trans s5)
   exact kk _ v (S5.trans (aC nv)) (S5.free nv) (by rw[ai];rfl)
def FM(a:Ad):Sp:=λvs H Q E=>∃(x dx:Addr)(sv:Option (RA×R0))(c dc nq tq:Addr)(ta:List Addr)(kd:Nat)(xs t0:List Int),vs=[.ref x,.ref c]/\kx a H x dx sv/\qM a H c dc nq tq ta kd xs [t0]/\(match lg t0 with
 |.ok r=>∀H' q A,Ex x H H'->kx a H' x dx (some (A,r))->Jz H A->H q=none->H' q=some (.lst [.int 0])->Q (.ref q) H'
 |.error p=>A6 a H p.1 p.2 E)
def vt:aB ["desk","call"] ["desk","call"] (ao (top 100)):=aR
def vJ(T:Tx K mg a):a4 P w K mg base (cX P w) 10 a.gj a.o4 ["desk","call"] (FM a):=by
 refine T.gj.F.oQ vt λcdv A outer s H vs Q E hr h=>?_;obtain⟨x,dx,sv,c,dc,nq,tq,ta,kd,xs,t0,rfl,D,C,k⟩:=h;refine⟨_,(ae (a5 (pv 0) (dn T.iU (yN T) hr aA.passes (aa (bj a_ (ay (pv 1) rfl) az (λ_ _=>rfl)) ah)) rfl) (aj (aF (cf (aa az ah))))),?_⟩;obtain⟨b0,hb,h0⟩:=C.text (i:=0) rfl;refine⟨_,rfl,c,_,_,_,_,rfl,C.ins,T.c_.cl,T.dU,rfl,tq,_,_,_,rfl,rfl,a0.of C.tx,at_of (j:=0) rfl hb,b0,t0,rfl,h0,?_⟩;cases hr':lg t0 with
 |error p=>
  rw[hr']at k;exact k
 |ok r=>
  rw[hr']at k;dsimp only at k;intro H1 A1 s1 R1 F1;have x1:=s1 _ _ D.ins;refine⟨_,rfl,x,_,dx,_,rfl,x1,T.fc.cl,T.cA,(by cases sv<;>(show 1<1000;decide)),?_⟩;have ep:cj "rules" (V.ref A1.x) (Ew sv)=Ew (some (A1,r)):=by cases sv<;>rfl
  rw[ep];have e2:Ex x H1 (upd H1 x (.ins a.fb dx (Ew (some (A1,r))))):=Ex.refl.self;have x2:(upd H1 x (.ins a.fb dx (Ew (some (A1,r))))) x=some (.ins a.fb dx (Ew (some (A1,r)))):=ai;have R2:=R1.ex x1 (by cases sv<;>(show 1≠15/\1≠2;decide)) e2;have eH:Ex x H (upd H1 x (.ins a.fb dx (Ew (some (A1,r))))):=s1.ex.trans e2;generalize upd H1 x (.ins a.fb dx (Ew (some (A1,r))))=H2 at*;refine⟨(by rw[O2];show 1<=_;omega),λz nz=>?_⟩;have zx:z≠x:=λe=>by rw[e,x2]at nz;cases nz
  have S3:=aC (o:= .lst [V.int 0]) nz;exact k _ z A1 (eH.same S3) ⟨S3 _ _ x2,λA r' e=>by cases e;exact R2.same S3⟩ F1 (eH.free nz zx) ai
def tO(s:Option R0)(kd:Nat)(xs:List Int)(ts:List (List Int)):Except Rf (Option R0×List Int):=match kd,xs,ts with
 |0,_,[t]=>(match lg t with
  |.ok r=>.ok (some r,[0])
  |.error p=>.error (.rules p.1 p.2))
 |1,_,_=>mI (xI s) λl=>.ok (s,l)
 |2,_,[t]=>mI (Em s t) λl=>.ok (s,l)
 |3,_,[t]=>mI (Aa s t) λl=>.ok (s,l)
 |4,[i,j],[t]=>mI (Eh s t i.toNat j.toNat) λl=>.ok (s,l)
 |5,[i,j],[t]=>mI (xt s t i.toNat j.toNat) λl=>.ok (s,l)
 |6,_,[t,u]=>mI (Dv s t u) λl=>.ok (s,l)
 |7,[i,j],[t]=>mI (DV s t i.toNat j.toNat) λl=>.ok (s,l)
 |_,_,_=>.error .ku
def xP(a:Ad)(H:Hp)(x dx:Addr)(sv:Option (RA×R0))(Q:VK)(E:XK)(res:Except Rf (Option R0×List Int)):Prop:=match res with
 |.ok p=>∀H' q(S':Option (RA×R0)),Ex x H H'->kx a H' x dx S'->(S'=sv\/∀A r,S'=some (A,r)->Jz H A)->S'.map (·.2)=p.1->H q=none->H' q=some (.lst (p.2.map V.int))->Q (.ref q) H'
 |.error f=>Gd a H E f
def xP.p{H:Hp}{x dx:Addr}{sv:Option (RA×R0)}{Q:VK}{E:XK}{res:Except Rf (List Int)}(D:kx a H x dx sv)(k:xP a H x dx sv Q E (mI res λl=>.ok (sv.map (·.2),l))):nO a H Q E res:=by
 cases res with
 |error f=>exact k
 |ok l=>exactλH' q s n h=>k H' q sv s.ex (D.same s) (.inl rfl) rfl n h
structure Mo(kd:Nat)(xs:List Int)(ts:List (List Int)):Prop where
 k:kd<8
 x:NW.getD kd 0=xs.length
 v:∀v∈xs,0<=v
 t:TW.getD kd 0=ts.length
def Jr(a:Ad):Sp:=λvs H Q E=>∃(x dx:Addr)(sv:Option (RA×R0))(c dc nq tq:Addr)(ta:List Addr)(kd:Nat)(xs:List Int)(ts:List (List Int)),vs=[.ref x,.ref c]/\kx a H x dx sv/\qM a H c dc nq tq ta kd xs ts/\Mo kd xs ts/\xP a H x dx sv Q E (tO (sv.map (·.2)) kd xs ts)
def CJ{xs:List Int}(h:2=xs.length)(v:∀v∈xs,0<=v):∃i j:Nat,xs=[((i:Nat):Int),((j:Nat):Int)]:=by
 match xs,h with
 |[i,j],_=>
  have h1:=v i (by simp);have h2:=v j (by simp);exact⟨i.toNat,j.toNat,by rw[Int.toNat_of_nonneg h1,Int.toNat_of_nonneg h2]⟩
def jm{ts:List (List Int)}(h:1=ts.length):∃t,ts=[t]:=by
 match ts,h with
 |[t],_=>exact⟨t,rfl⟩
def J0{ts:List (List Int)}(h:2=ts.length):∃t u,ts=[t,u]:=by
 match ts,h with
 |[t,u],_=>exact⟨t,u,rfl⟩
def yi:aB ["desk","call"] ["desk","call"] (ao (top 109)):=aR
def xj(T:Tx K mg a):a4 P w K mg base (cX P w) 11 a.g7 a.rA ["desk","call"] (Jr a):=by
 refine T.g7.F.oQ yi λcdv A outer s H vs Q E hr h=>?_;obtain⟨x,dx,sv,c,dc,nq,tq,ta,kd,xs,ts,rfl,D,C,S,k⟩:=h;refine⟨_,(ae (bG (aI bQ (ay (pv 1) rfl) az (aJ _)) (aj (aF (dn T.gj (vJ T) hr aA.passes (aa (pv 0) (aa (pv 1) ah))))) aW) (ae (bG (aI bQ (ay (pv 1) rfl) az (aJ _)) (aj (aF (dn T.gk (vE T) hr aA.passes (aa (pv 0) ah)))) aW) (ae (bG (aI bQ (ay (pv 1) rfl) az (aJ _)) (aj (aF (dn T.gU (wP T) hr aA.passes (aa (pv 0) (aa (pv 1) ah))))) aW) (ae (bG (aI bQ (ay (pv 1) rfl) az (aJ _)) (aj (aF (dn T.fW (vz T) hr aA.passes (aa (pv 0) (aa (pv 1) ah))))) aW) (ae (bG (aI bQ (ay (pv 1) rfl) az (aJ _)) (aj (aF (dn T.gW (wJ T) hr aA.passes (aa (pv 0) (aa (pv 1) ah))))) aW) (ae (bG (aI bQ (ay (pv 1) rfl) az (aJ _)) (aj (aF (dn T.fR (vA T) hr aA.passes (aa (pv 0) (aa (pv 1) ah))))) aW) (ae (bG (aI bQ (ay (pv 1) rfl) az (aJ _)) (aj (aF (dn T.gX (xw T) hr aA.passes (aa (pv 0) (aa (pv 1) ah))))) aW) (aj (aF (dn T.gY (wv T) hr aA.passes (aa (pv 0) (aa (pv 1) ah)))))))))))),?_⟩;have k8:=S.k;refine⟨_,rfl,c,_,_,_,_,rfl,C.ins,T.c_.cl,T.ck,rfl,rfl,_,rfl,dH (λh0=>?_) λh0=>?_⟩
 ·have e:kd=0:=by omega
  subst e;obtain⟨t,rfl⟩:=jm S.t;refine⟨_,rfl,_,rfl,x,dx,sv,c,dc,nq,tq,ta,0,xs,t,rfl,D,C,?_⟩;replace k:xP a H x dx sv Q E (match lg t with|.ok r=>.ok (some r,[0])|.error p=>.error (.rules p.1 p.2)):=k;cases hr':lg t with
  |error p=>
   rw[hr']at k;exact k
  |ok r=>
   rw[hr']at k;exactλH' q A e D' F n h=>k H' q (some (A,r)) e D' (.inr λA' r' z=>by cases z;exact F) rfl n h
 refine⟨_,rfl,c,_,_,_,_,rfl,C.ins,T.c_.cl,T.ck,rfl,rfl,_,rfl,dH (λh1=>?_) λh1=>?_⟩
 ·have e:kd=1:=by omega
  subst e;exact⟨_,rfl,x,dx,sv,rfl,D,xP.p D k⟩
 refine⟨_,rfl,c,_,_,_,_,rfl,C.ins,T.c_.cl,T.ck,rfl,rfl,_,rfl,dH (λh2=>?_) λh2=>?_⟩
 ·have e:kd=2:=by omega
  subst e;obtain⟨t,rfl⟩:=jm S.t;exact⟨_,rfl,_,rfl,x,dx,sv,c,dc,nq,tq,ta,2,xs,t,rfl,D,C,xP.p D k⟩
 refine⟨_,rfl,c,_,_,_,_,rfl,C.ins,T.c_.cl,T.ck,rfl,rfl,_,rfl,dH (λh3=>?_) λh3=>?_⟩
 ·have e:kd=3:=by omega
  subst e;obtain⟨t,rfl⟩:=jm S.t;exact⟨_,rfl,_,rfl,x,dx,sv,c,dc,nq,tq,ta,3,xs,t,rfl,D,C,xP.p D k⟩
 refine⟨_,rfl,c,_,_,_,_,rfl,C.ins,T.c_.cl,T.ck,rfl,rfl,_,rfl,dH (λh4=>?_) λh4=>?_⟩
 ·have e:kd=4:=by omega
  subst e;obtain⟨t,rfl⟩:=jm S.t;obtain⟨i,j,rfl⟩:=CJ S.x S.v;exact⟨_,rfl,_,rfl,x,dx,sv,c,dc,nq,tq,ta,4,i,j,t,rfl,D,C,xP.p D k⟩
 refine⟨_,rfl,c,_,_,_,_,rfl,C.ins,T.c_.cl,T.ck,rfl,rfl,_,rfl,dH (λh5=>?_) λh5=>?_⟩
 ·have e:kd=5:=by omega
  subst e;obtain⟨t,rfl⟩:=jm S.t;obtain⟨i,j,rfl⟩:=CJ S.x S.v;exact⟨_,rfl,_,rfl,x,dx,sv,c,dc,nq,tq,ta,5,i,j,t,rfl,D,C,xP.p D k⟩
 refine⟨_,rfl,c,_,_,_,_,rfl,C.ins,T.c_.cl,T.ck,rfl,rfl,_,rfl,dH (λh6=>?_) λh6=>?_⟩
 ·have e:kd=6:=by omega
  subst e;obtain⟨t,u,rfl⟩:=J0 S.t;exact⟨_,rfl,_,rfl,x,dx,sv,c,dc,nq,tq,ta,6,xs,t,u,rfl,D,C,xP.p D k⟩
 ·have e:kd=7:=by omega
  subst e;obtain⟨t,rfl⟩:=jm S.t;obtain⟨i,j,rfl⟩:=CJ S.x S.v;exact⟨_,rfl,_,rfl,x,dx,sv,c,dc,nq,tq,ta,7,i,j,t,rfl,D,C,xP.p D k⟩
def FZ(K:OX)(C:Addr)(x:Str):Prop:=∃o cd,K.lookup C=some o/\o.data=Data.cls cd/\cd.name=x
def FZ.ne{K:OX}{C D:Addr}{x y:Str}(h1:FZ K C x)(h2:FZ K D y)(h:x≠y):C≠D:=λe=>by
 subst e;obtain⟨o,cd,l,d,n⟩:=h1;obtain⟨o',cd',l',d',n'⟩:=h2;rw[l]at l';cases l';rw[d]at d';cases d';exact h (n.symm.trans n')
structure Oh(K:OX)(a:Ad):Prop where
 nr:FZ K a.kI "NoRules"
 lf:FZ K a.bT "LineFault"
 rf:FZ K a.bF "RulesFault"
 nm:FZ K a.gu "NoSuchMove"
 nl:FZ K a.bK "NotAMoveLine"
 ob:FZ K a.fB "OutOfBounds"
 tm:FZ K a.fH "TooManyRows"
def numsOf:Rf->List Int
 |.ku=>[-3]
 |.line k p=>[-5,k,p]
 |.rules k p=>[-6,(k:Nat),(p:Nat)]
 |.noMove=>[-2]
 |.noLine p=>[-4,(p:Nat)]
 |.out=>[-1]
 |.many=>[-9]
def doneA(s:Option R0)(kd:Nat)(xs:List Int)(ts:List (List Int)):Option R0×List Int:=match tO s kd xs ts with
 |.ok p=>p
 |.error f=>(s,numsOf f)
def OB(a:Ad)(H:Hp)(c:Value)(e:Addr):Rf->Prop
 |.ku=>c=.ref a.kI
 |.line k p=>c=.ref a.bT/\∃d cx,H e=some (XO e a.bT (some d) cx)/\H d=some (XD d [("kind",.int k),("place",.int p)])
 |.rules k p=>c=.ref a.bF/\∃d cx,H e=some (XO e a.bF (some d) cx)/\H d=some (XD d [("kind",.int (k:Nat)),("place",.int (p:Nat))])
 |.noMove=>c=.ref a.gu
 |.noLine p=>c=.ref a.bK/\∃d cx,H e=some (XO e a.bK (some d) cx)/\H d=some (XD d [("place",.int (p:Nat))])
 |.out=>c=.ref a.fB
 |.many=>c=.ref a.fH
def MB(a:Ad)(H:Hp)(res:Except Rf (Option R0×List Int)):XK:=λc eo H'=>∃f e,res=.error f/\eo=some e/\aE H H'/\OB a H' c e f
def KN{H:Hp}{res:Except Rf (Option R0×List Int)}{f:Rf}(h:res=.error f):Gd a H (MB a H res) f:=by
 cases f with
 |ku=>exactλH' e s he=>⟨_,e,h,rfl,s,rfl⟩
 |line k p=>exactλH' e d cx s he hd=>⟨_,e,h,rfl,s,rfl,d,cx,he,hd⟩
 |rules k p=>exactλH' e d cx s he hd=>⟨_,e,h,rfl,s,rfl,d,cx,he,hd⟩
 |noMove=>exactλH' e s he=>⟨_,e,h,rfl,s,rfl⟩
 |noLine p=>exactλH' e d cx s he hd=>⟨_,e,h,rfl,s,rfl,d,cx,he,hd⟩
 |out=>exactλH' e s he=>⟨_,e,h,rfl,s,rfl⟩
 |many=>exactλH' e s he=>⟨_,e,h,rfl,s,rfl⟩
def Om(a:Ad):Sp:=λvs H Q _=>∃(x dx:Addr)(sv:Option (RA×R0))(c dc nq tq:Addr)(ta:List Addr)(kd:Nat)(xs:List Int)(ts:List (List Int)),vs=[.ref x,.ref c]/\kx a H x dx sv/\qM a H c dc nq tq ta kd xs ts/\Mo kd xs ts/\
 ∀H' q(S':Option (RA×R0)),Ex x H H'->kx a H' x dx S'->(S'=sv\/∀A r,S'=some (A,r)->Jz H A)->S'.map (·.2)=(doneA (sv.map (·.2)) kd xs ts).1->H q=none->H' q=some (.lst ((doneA (sv.map (·.2)) kd xs ts).2.map V.int))->Q (.ref q) H'
def eE:aB ["desk","call","fault"] ["desk","call"] (ao (top 110)):=aR
def qH(T:Tx K mg a)(Y:Oh K a):a4 P w K mg base (cX P w) 12 a.dv a.lR ["desk","call"] (Om a):=by
 refine T.dv.F.oQ eE λcdv A outer s H vs Q E hr h=>?_;obtain⟨x,dx,sv,c,dc,nq,tq,ta,kd,xs,ts,rfl,D,C,S,k⟩:=h;unfold doneA at k;refine⟨_,(aj (C4 (E':=(MB a H (tO (sv.map (·.2)) kd xs ts))) (j_ hr.hd) (λpn xe LL=>(aj (aF (dn T.g7 (xj T) hr LL.passes (aa (pv 0) (aa (pv 1) ah)))))) (DJ (j_ hr.hd) rfl T.qg.m T.qg.HI (λe0 pn=>(aj (aF (cf (aa (oB jY az) ah))))) (BG (i:=2) (j_ hr.hd) aA rfl T.db.m T.db.HI eE.nd rfl rfl (λe0 pn xe L2L=>(aj (aF (cf (aa (oB jY az) (aa (lV K rfl (pv 2) rfl) (aa (lV K rfl (pv 2) rfl) ah))))))) (BG (i:=2) (j_ hr.hd) aA rfl T.bE.m T.bE.HI eE.nd rfl rfl (λe0 pn xe L2L=>(aj (aF (cf (aa (oB jY az) (aa (lV K rfl (pv 2) rfl) (aa (lV K rfl (pv 2) rfl) ah))))))) (DJ (j_ hr.hd) rfl T.eU.m T.eU.HI (λe0 pn=>(aj (aF (cf (aa (oB jY az) ah))))) (BG (i:=2) (j_ hr.hd) aA rfl T.bX.m T.bX.HI eE.nd rfl rfl (λe0 pn xe L2L=>(aj (aF (cf (aa (oB jY az) (aa (lV K rfl (pv 2) rfl) ah)))))) (DJ (j_ hr.hd) rfl T.cQ.m T.cQ.HI (λe0 pn=>(aj (aF (cf (aa (oB jY az) ah))))) (DJ (j_ hr.hd) rfl T.cp.m T.cp.HI (λe0 pn=>(aj (aF (cf (aa (oB jY az) ah))))) C7))))))))),?_,λC' e H' hx=>?_⟩
 ·refine⟨_,rfl,_,rfl,x,dx,sv,c,dc,nq,tq,ta,kd,xs,ts,rfl,D,C,S,?_⟩
  cases hc:tO (sv.map (·.2)) kd xs ts with
  |error f=>exact KN rfl
  |ok p=>
   rw[hc]at k;exactλH' q S' e D' F m n h=>k H' q S' e D' F m n h
 ·obtain⟨f,e',hf,he',s1,hX⟩:=hx
  cases he';rw[hf]at k;dsimp only at k;have D1:=D.same s1;have fin:∀q,H' q=none->Q (.ref q) (upd H' q (.lst ((numsOf f).map V.int))):=λq nq=>k _ q sv (s1.trans (aC nq)).ex (D1.same (aC nq)) (.inl rfl) rfl (s1.free nq) ai;clear k;cases f with
  |ku=>
   cases hX;exact⟨T.qg.cl,λ_=>⟨_,rfl,(by rw[O2];show 1<=_;omega),fin⟩,λz=>absurd rfl z⟩
  |line kk p=>
   obtain⟨hC,d,cx,he,hd⟩:=hX;cases hC;refine⟨T.db.cl,λz=>absurd z (Y.lf.ne Y.nr (by decide+kernel)),λ_=>⟨T.db.cl,λ_=>?_,λz=>absurd rfl z⟩⟩;exact⟨_,rfl,_,rfl,e,_,d,_,_,_,rfl,he,hd,T.db.cl,T.nh,rfl,_,rfl,e,_,d,_,_,_,rfl,he,hd,T.db.cl,T.mj,rfl,(by rw[O2];show 3<=_;omega),fin⟩
  |rules kk p=>
   obtain⟨hC,d,cx,he,hd⟩:=hX;cases hC;refine⟨T.bE.cl,λz=>absurd z (Y.rf.ne Y.nr (by decide+kernel)),λ_=>⟨T.bE.cl,λz=>absurd z (Y.rf.ne Y.lf (by decide+kernel)),λ_=>⟨T.bE.cl,λ_=>?_,λz=>absurd rfl z⟩⟩⟩;exact⟨_,rfl,_,rfl,e,_,d,_,_,_,rfl,he,hd,T.bE.cl,T.ma,rfl,_,rfl,e,_,d,_,_,_,rfl,he,hd,T.bE.cl,T.kP,rfl,(by rw[O2];show 3<=_;omega),fin⟩
  |noMove=>
   cases hX;exact⟨T.eU.cl,λz=>absurd z (Y.nm.ne Y.nr (by decide+kernel)),λ_=>⟨T.eU.cl,λz=>absurd z (Y.nm.ne Y.lf (by decide+kernel)),λ_=>⟨T.eU.cl,λz=>absurd z (Y.nm.ne Y.rf (by decide+kernel)),λ_=>⟨T.eU.cl,λ_=>⟨_,rfl,(by rw[O2];show 1<=_;omega),fin⟩,λz=>absurd rfl z⟩⟩⟩⟩
  |noLine p=>
   obtain⟨hC,d,cx,he,hd⟩:=hX;cases hC;refine⟨T.bX.cl,λz=>absurd z (Y.nl.ne Y.nr (by decide+kernel)),λ_=>⟨T.bX.cl,λz=>absurd z (Y.nl.ne Y.lf (by decide+kernel)),λ_=>⟨T.bX.cl,λz=>absurd z (Y.nl.ne Y.rf (by decide+kernel)),λ_=>⟨T.bX.cl,λz=>absurd z (Y.nl.ne Y.nm (by decide+kernel)),λ_=>⟨T.bX.cl,λ_=>?_,λz=>absurd rfl z⟩⟩⟩⟩⟩;exact⟨_,rfl,_,rfl,e,_,d,_,_,_,rfl,he,hd,T.bX.cl,T.jV,rfl,(by rw[O2];show 2<=_;omega),fin⟩
  |out=>
   cases hX;exact⟨T.cQ.cl,λz=>absurd z (Y.ob.ne Y.nr (by decide+kernel)),λ_=>⟨T.cQ.cl,λz=>absurd z (Y.ob.ne Y.lf (by decide+kernel)),λ_=>⟨T.cQ.cl,λz=>absurd z (Y.ob.ne Y.rf (by decide+kernel)),λ_=>⟨T.cQ.cl,λz=>absurd z (Y.ob.ne Y.nm (by decide+kernel)),λ_=>⟨T.cQ.cl,λz=>absurd z (Y.ob.ne Y.nl (by decide+kernel)),λ_=>⟨T.cQ.cl,λ_=>⟨_,rfl,(by rw[O2];show 1<=_;omega),fin⟩,λz=>absurd rfl z⟩⟩⟩⟩⟩⟩
  |many=>
   cases hX;exact⟨T.cp.cl,λz=>absurd z (Y.tm.ne Y.nr (by decide+kernel)),λ_=>⟨T.cp.cl,λz=>absurd z (Y.tm.ne Y.lf (by decide+kernel)),λ_=>⟨T.cp.cl,λz=>absurd z (Y.tm.ne Y.rf (by decide+kernel)),λ_=>⟨T.cp.cl,λz=>absurd z (Y.tm.ne Y.nm (by decide+kernel)),λ_=>⟨T.cp.cl,λz=>absurd z (Y.tm.ne Y.nl (by decide+kernel)),λ_=>⟨T.cp.cl,λz=>absurd z (Y.tm.ne Y.ob (by decide+kernel)),λ_=>⟨T.cp.cl,λ_=>⟨_,rfl,(by rw[O2];show 1<=_;omega),fin⟩,λz=>absurd rfl z⟩⟩⟩⟩⟩⟩⟩
abbrev Cl:=Nat×List Int×List (List Int)
def MH(ns:List Int):Nat->List Cl->Prop
 |n,[]=>ns.length<=n
 |n,c::l=>∃n',Kx ns n c.1 c.2.1 c.2.2 n'/\(∀v∈c.2.1,0<=v)/\MH ns n' l
def ym:Option R0->List Cl->List Int
 |_,[]=>[]
 |s,c::l=>wc (doneA s c.1 c.2.1 c.2.2).2++ym (doneA s c.1 c.2.1 c.2.2).1 l
def gF{α β:Type}{r:Except Rf α}{f:α->Except Rf β}{b:β}(h:mI r f=.ok b):∃x,r=.ok x/\f x=.ok b:=by
 cases r with
 |error e=>cases h
 |ok x=>exact⟨x,rfl,h⟩
def vZ{s:Option R0}{ns:List Int}{p:R0×List Int×Int}(h:om s ns=.ok p):s=some p.1:=by
 unfold om at h;cases s with
 |none=>cases h
 |some r=>
  dsimp only at h;cases hl:uG r ns with
  |error e=>rw[hl]at h;cases h
  |ok q=>rw[hl]at h;cases h;rfl
def IG{s:Option R0}(W:∀r,s=some r->zB r){kd:Nat}{xs:List Int}{ts:List (List Int)}{p:Option R0×List Int}(h:tO s kd xs ts=.ok p):p.2.length<=40000:=by
 unfold tO at h;split at h
 ·split at h
  ·cases h
   exact PD (by decide:[(0:Int)].length<=1) (by decide)
  ·cases h
 ·obtain⟨l,h1,h2⟩:=gF h
  cases h2;unfold xI at h1;cases s with
  |none=>cases h1
  |some r=>
   cases h1;have:=pj (W r rfl) r.start r.first;show(0::wc _).length<=_;rw[Pt,gO];omega
 ·obtain⟨l,h1,h2⟩:=gF h
  cases h2;obtain⟨q,h3,h4⟩:=gF h1;cases h4;exact PD (OZ 1) (by decide)
 ·obtain⟨l,h1,h2⟩:=gF h
  cases h2;obtain⟨q,h3,h4⟩:=gF h1;cases h4;have:=yf q.1 q.2.1 q.2.2 (W _ (vZ h3));have fl:=m8 (λ(e:Nat×Nat)=>wc (rowOf q.1 q.2.1 q.2.2 e.1 e.2)) 8 (λe=>by rw[gO];have:=kH q.1 q.2.1 q.2.2 e.1 e.2;omega) (aQ q.1 q.2.1 q.2.2);show(0::_::_).length<=_;rw[Pt,Pt];omega
 ·obtain⟨l,h1,h2⟩:=gF h
  cases h2;obtain⟨q,h3,h4⟩:=gF h1;split at h4
  ·cases h4
   rename_i i j t _
   have:=pj (W _ (vZ h3)) (bA q.1 q.2.1 i.toNat j.toNat) (1-q.2.2);have:=im q.1 (bb q.2.1 i.toNat j.toNat) j.toNat;show(_::(_++_)).length<=_;rw[Pt,Pd,gO,gO];omega
  ·cases h4
 ·obtain⟨l,h1,h2⟩:=gF h
  cases h2;obtain⟨q,h3,h4⟩:=gF h1;split at h4
  ·cases h4
   rename_i i j t hm
   obtain⟨b1,b2⟩:=kF (W _ (vZ h3)) (lO.mp hm);have b3:(codes (sW q.1 q.2.1 q.2.2 i.toNat j.toNat)).length<=26:=zS (ps:=q.2.1) (tn:=q.2.2) (W _ (vZ h3)) b1 b2;show(0::wc _).length<=_;rw[Pt,gO];omega
  ·cases h4
 ·obtain⟨l,h1,h2⟩:=gF h
  cases h2;obtain⟨q,h3,h4⟩:=gF h1;split at h4
  ·cases h4
   rename_i e _
   have:=kH q.1 q.2.1 q.2.2 e.1 e.2;show(0::wc _).length<=_;rw[Pt,gO];omega
  ·cases h4
 ·obtain⟨l,h1,h2⟩:=gF h
  cases h2;obtain⟨q,h3,h4⟩:=gF h1;split at h4
  ·split at h4
   ·cases h4
    rename_i i j t hb _
    have:=uZ q.1 q.2.1 q.2.2 i.toNat j.toNat;show(0::wc _).length<=_;rw[Pt,gO];omega
   ·cases h4
  ·cases h4
 ·cases h
def Hd{s:Option R0}(W:∀r,s=some r->zB r)(kd:Nat)(xs:List Int)(ts:List (List Int)):(doneA s kd xs ts).2.length<=40000:=by
 unfold doneA;cases h:tO s kd xs ts with
 |ok p=>exact IG W h
 |error f=>cases f<;>exact PD (Nat.le_of_lt_succ (by simp[numsOf]:_<4)) (by decide)
def OS:HO->List Str
 |.ins _ _ fs=>fs.map (·.1)
 |_=>[]
structure N_(td:Addr)(A:RA):Prop where
 cs:A.cs≠td
 wz:A.wz≠td
 gr:A.gr≠td
 sp:A.sp≠td
 ws:∀b∈A.ws,b≠td
def oN.put{a:Ad}{H:Hp}{A:RA}{r:R0}{td:Addr}{xs ys:List V}(R:oN a H A r)(ht:H td=some (.lst xs))(N:N_ td A):oN a (upd H td (.lst ys)) A r:=
 ⟨by rw[ak (bf R.ins ht λz=>nomatch z)];exact R.ins,by rw[ak N.cs];exact R.cs,by rw[ak N.wz];exact R.wz,R.wl,λd y e=>by rw[ak (N.ws y (Pw e))];exact R.wy d y e,by rw[ak N.gr];exact R.gr,by rw[ak (bf R.st ht λz=>nomatch z)];exact R.st,by rw[ak N.sp];exact R.sp,R.ok⟩
def DS(K:OX):Sp:=λvs H Q _=>∃(g:Addr)(ns:List Int)(l:List Cl),vs=[.ref g]/\a0 K H g (ns.map V.int)/\MH ns 0 l/\l.length<=300/\∀H' q,aE H H'->H' q=some (.lst ((ym none l).map V.int))->Q (.ref q) H'
def Iz{H H':Hp}{g:Addr}{xs:List V}(h:a0 K H g xs)(s:aE H H'):a0 K H' g xs:=by
 rcases h with(h|⟨o,h⟩)|h
 ·exact .inl (.inl (s _ _ h))
 ·exact .inl (.inr ⟨o,s _ _ h⟩)
 ·exact .inr h
def nR:aB ["calls","desk","intake","told"] ["calls"] (ao (top 111)):=aR
def CG(T:Tx K mg a)(Y:Oh K a):a4 P w K mg base (cX P w) 13 a.kD a.qy ["calls"] (DS K):=by
 refine T.kD.F.lL nR λcdv A outer s H vs Q E hr h=>?_;obtain⟨g,ns,l,rfl,hg,hp,hl,k⟩:=h;refine⟨_,(ae (eV 1 nR.nd (BN T.Lk (As T) (hr.mono (by decide)) rfl T.fc.m T.iz.b .nil aK)) (ae (eV 2 nR.nd (FB T.FO (xO T) hr T.cT T.fF aK (aa (pv 0) ah))) (ae (eV 3 nR.nd (cf ah)) (ae (jF Ql (lH (dC (Fo (pv 2) T.cT T.eG (tG T) hr aK))) (aj (aZ (jg PQ QJ QK kJ (pv 3) (aa (dn T.b7 (df T) hr aK (aa (dn T.dv (qH T Y) hr aK (aa (pv 1) (aa (FB T.Li (AH T) hr T.c_ T.io aK (aa (pv 2) ah)) ah))) ah)) ah))))) (aj (aF (pv 3))))))),?_⟩;intro x dx nx ndx nne;refine⟨x,dx,rfl,ai,rfl,?_⟩;rw[eQ];have S1:aE H (upd (upd H dx (.own x)) x (.ins a.fb dx (Ew none))):=(aC ndx).trans (aC (by rw[ak (Pb nne)];exact nx));have x1:(upd (upd H dx (.own x)) x (.ins a.fb dx (Ew none))) x=some (.ins a.fb dx (Ew none)):=ai;generalize upd (upd H dx (.own x)) x (.ins a.fb dx (Ew none))=H1 at*;refine⟨_,rfl,λik dk nik ndk nne2=>⟨ik,dk,g,rfl,ai,rfl,?_⟩⟩;rw[eQ];have S2:aE H1 (upd (upd H1 dk (.own ik)) ik (.ins a.aS dk (rR g 0))):=(aC ndk).trans (aC (by rw[ak (Pb nne2)];exact nik));have i2:(upd (upd H1 dk (.own ik)) ik (.ins a.aS dk (rR g 0))) ik=some (.ins a.aS dk (rR g 0)):=ai;have xik:x≠ik:=au x1 nik;generalize upd (upd H1 dk (.own ik)) ik (.ins a.aS dk (rR g 0))=H2 at*;refine⟨P4 _,λtd ntd=>?_⟩;have S3:=aC (o:= .lst []) ntd;have nx0:H x=none:=nx;have nik0:H ik=none:=S1.free nik;have ntd0:H td=none:=(S1.trans S2).free ntd;have D3:kx a (upd H2 td (.lst [])) x dx none:=⟨(S2.trans S3) _ _ x1,λA r e=>nomatch e⟩;have hns:∀{H':Hp},aE H H'->a0 K H' g (ns.map V.int):=λ{H'} s=>Iz hg s;refine⟨λm σ H'=>∃(n:Nat)(lc:List Cl)(sv:Option (RA×R0))(acc:List Int),σ=[some (.ref g),some (.ref x),some (.ref ik),some (.ref td)]/\aE H H'/\kx a H' x dx sv/\H' ik=some (.ins a.aS dk (rR g n))/\H' td=some (.lst (acc.map V.int))/\MH ns n lc/\lc.length=m/\m<=300/\acc.length<=(300-m)*40001/\(∀A r,sv=some (A,r)->N_ td A)/\ym none l=acc++ym (sv.map (·.2)) lc,⟨l.length,0,l,none,[],rfl,(S1.trans S2).trans S3,D3,S3 _ _ i2,by rw[ai];rfl,hp,rfl,hl,by simp,λA r e=>(nomatch e),rfl⟩,?_⟩
 rintro m σ H4 ⟨n,lc,sv,acc,rfl,s4,D4,i4,t4,p4,rfl,hm,ha,N4,hs⟩
 refine⟨_,rfl,ik,dk,_,rfl,i4,rfl,ik,dk,g,ns,n,rfl,⟨i4,hns s4⟩,_,rfl,fQ (λg1=>?_) λg1=>?_⟩
 ·have g1:n<ns.length:=by
   have q:decide (ns.length<=n)=false:=by simpa using g1
   have:=of_decide_eq_false q;omega
  cases lc with
  |nil=>exact absurd g1 (Nat.not_lt.mpr p4)
  |cons c lc=>
   obtain⟨n',pc,pv',p5⟩:=p4;obtain⟨kd,xs,ts⟩:=c;rw[Pt]at hm ha;refine⟨_,λ_ _ h=>h,?_⟩;refine⟨_,rfl,.inl ⟨rfl,_,a0.of t4⟩,_,rfl,_,rfl,λcc dc nc ndc nne3=>?_⟩;have S5:=cb (C:=a.bY) nc ndc nne3;have c5:(upd (upd H4 dc (.own cc)) cc (.ins a.bY dc [])) cc=some (.ins a.bY dc []):=ai;have ncik:cc≠ik:=Pb (au i4 nc);have ncx:x≠cc:=au D4.ins nc;generalize upd (upd H4 dc (.own cc)) cc (.ins a.bY dc [])=H5 at*;have s5:=s4.trans S5;have D5:=D4.same S5;refine⟨cc,dc,ik,dk,g,ns,n,kd,xs,ts,n',rfl,c5,ncik,⟨S5 _ _ i4,hns s5⟩,pc,λH6 nq tq ta f6 C6 I6=>⟨rfl,?_⟩⟩;have ncc0:H cc=none:=s4.free nc;have s6:aE H H6:=λb o q=>f6 b o (s5 b o q) (by simp[au q ncc0,au q nik0]);have kl:∀b(v:List V),H5 b=some (.lst v)->H6 b=some (.lst v):=λb v h=>f6 b _ h (by simp[bf h c5 (λz=>nomatch z),bf h (S5 _ _ i4) (λz=>nomatch z)]);have D6:kx a H6 x dx sv:=by
    refine⟨f6 _ _ D5.ins (by simp[ncx,xik]),λA' r e=>?_⟩;have R5:=D5.ra A' r e;exact⟨f6 _ _ R5.ins (by simp[bf R5.ins c5 (λz=>absurd (P_ nF z) (by show¬15=0;decide)),bf R5.ins (S5 _ _ i4) (λz=>absurd (P_ nF z) (by show¬15=2;decide))]),kl _ _ R5.cs,kl _ _ R5.wz,R5.wl,λd y e=>kl _ _ (R5.wy d y e),kl _ _ R5.gr,f6 _ _ R5.st (by
     have q1:A'.st≠cc:=bf R5.st c5 (λz=>absurd (P_ nF z) (by show¬2=0;decide));have q2:A'.st≠ik:=bf R5.st (S5 _ _ i4) (λz=>absurd (P_ OS z) (by show¬((["pieces","turn"]:List Str)=(["calls","place"]:List Str));decide+kernel));simp[q1,q2]),kl _ _ R5.sp,R5.ok⟩
   have t6:=kl _ _ (S5 _ _ t4);have W6:∀r,sv.map (·.2)=some r->zB r:=λr e=>by
    cases sv with
    |none=>cases e
    |some p=>
     cases e;exact(D4.ra p.1 p.2 rfl).ok
   have dl:=Hd W6 kd xs ts;refine⟨x,dx,sv,cc,dc,nq,tq,ta,kd,xs,ts,rfl,D6,C6,⟨pc.kl,pc.xl,pv',pc.tl⟩,λH7 q S' e7 D7 F7 m7 n7 h7=>⟨q,_,rfl,h7,by omega,λH8 q8 s8 n8 h8=>?_⟩⟩;have tx:td≠x:=bf t6 D6.ins λz=>nomatch z;have t8:=s8 _ _ (e7 _ _ t6 tx);have i8:=s8 _ _ (e7 _ _ I6.ins (Pb xik));have D8:=D7.same s8;have sH8:aE H H8:=λb o q=>s8 _ _ (e7 b o (s6 b o q) (au q nx0));have N8:∀A r,S'=some (A,r)->N_ td A:=λA r e=>by
    rcases F7 with z|z
    ·exact N4 A r (z▸e)
    ·have F:=z A r e
     exact⟨Pb (au t6 F.cs),Pb (au t6 F.wz),Pb (au t6 F.gr),Pb (au t6 F.sp),λb hb=>Pb (au t6 (F.ws b hb))⟩
   have e300:300-lc.length=(300-(lc.length+1))+1:=by omega
   have hmul:(300-lc.length)*40001=(300-(lc.length+1))*40001+40001:=by rw[e300,Nat.succ_mul]
   have hb:(300-(lc.length+1))*40001<=299*40001:=QD _ (by omega);refine⟨td,q8,_,_,rfl,rfl,t8,h8,(by rw[OU,OU,O2,gO];omega),lc.length,by rw[Pt];omega,n',lc,S',acc++wc (doneA (sv.map (·.2)) kd xs ts).2,rfl,cY ntd0 sH8,⟨by rw[ak (Pb tx)];exact D8.ins,λA r e=>(D8.ra A r e).put t8 (N8 A r e)⟩,by rw[ak (bf i8 t8 λz=>nomatch z)];exact i8,by rw[ai,Pn],p5,rfl,by omega,?_,N8,?_⟩
   ·rw[Pd,gO,hmul]
    omega
   ·rw[hs,m7,P9]
    rfl
 ·have g1:ns.length<=n:=by
   have q:decide (ns.length<=n)=true:=by simpa using g1
   exact O7 q
  cases lc with
  |cons c lc=>
   obtain⟨n',pc,_⟩:=p4;have:=(O6.mp pc.k).1;omega
  |nil=>
   refine⟨_,rfl,k H4 td s4 ?_⟩;rw[t4,hs];show _=some (HO.lst ((acc++[]).map V.int));rw[PU]
def bD(b:O_):List Int:=b.map λ(c:UInt8)=>((c.toNat:Nat):Int)
def BE:Tafl.Kind->Int
 |.plain=>0
 |.seat=>1
 |.exit=>2
 |.wall=>3
def dM:Pz->Int
 |.none=>0
 |.hunter=>1
 |.man=>2
 |.king=>3
def b2i(b:Bool):Int:=if b=true then 1 else 0
def E7{x y:Tafl.Kind}(h:BE x=BE y):x=y:=by cases x<;>cases y<;>first|rfl|cases h
def eX{x y:Pz}(h:dM x=dM y):x=y:=by cases x<;>cases y<;>first|rfl|cases h
structure cZ(r:R0)(R:O1):Prop where
 w:r.wide=R.wide
 h:r.high=R.high
 tT:R.wide<=13
 uE:R.high<=13
 w5:5<=R.wide
 h5:5<=R.high
 sl:r.slides=b2i R.slides
 ar:r.armed=b2i R.armed
 fo:r.four=b2i R.four
 pa:r.passed=b2i R.passed
 se:r.seat=(R.seat:Nat)
 OI:R.seat<=3
 ex:r.exits=(R.exits:Nat)
 OH:R.exits<=3
 go:r.goal=(R.goal:Nat)
 wf:zB r
 gr:∀c,c<169->r.ground.getD c 0=BE (R.kindAt c)
structure dJ(R:O1)(p:PL)(ps:List Int)(t:Int):Prop where
 wf:rZ ps
 sd:t=((p.side:Nat):Int)
 HG:p.side=0\/p.side=1
 h:∀c,p.hunters.testBit c=true↔c<169/\ps.getD c 0=1
 m:∀c,p.men.testBit c=true↔c<169/\ps.getD c 0=2
 k:(p.king=255/\∀c,c<169->ps.getD c 0≠3)\/(p.king<169/\ps.getD p.king 0=3/\∀c,c<169->ps.getD c 0=3->c=p.king)
 g:∀c,c<169->ps.getD c 0≠0->c%13<R.wide/\c/13<R.high
def Bp{n c:Nat}{P:Prop}(h:n.testBit c=true↔P)(hn:¬P):n.testBit c=false:=by
 cases e:n.testBit c with
 |false=>rfl
 |true=>exact absurd (h.mp e) hn
def dJ.on{R:O1}{p:PL}{ps:List Int}{t:Int}(P:dJ R p ps t){c:Nat}(hc:c<169):dM (p.on c)=ps.getD c 0:=by
 unfold Tafl.Pos.on;obtain⟨v0,v3⟩:=P.wf.val c;have cs:ps.getD c 0=0\/ps.getD c 0=1\/ps.getD c 0=2\/ps.getD c 0=3:=by omega
 have hk:p.king=c↔ps.getD c 0=3:=by
  rcases P.k with⟨h1,h2⟩|⟨h1,h2,h3⟩
  ·exact⟨λe=>by omega,λe=>absurd e (h2 c hc)⟩
  ·exact⟨λe=>by rw[<-e];exact h2,λe=>(h3 c hc e).symm⟩
 rcases cs with e|e|e|e
 ·rw[OV (λz=>by have:=hk.mp z;omega),OV (by rw[Bp (P.h c) (λz=>by omega)];exact O3),OV (by rw[Bp (P.m c) (λz=>by omega)];exact O3),e]
  rfl
 ·rw[OV (λz=>by have:=hk.mp z;omega),OW ((P.h c).mpr ⟨hc,e⟩),e]
  rfl
 ·rw[OV (λz=>by have:=hk.mp z;omega),OV (by rw[Bp (P.h c) (λz=>by omega)];exact O3),OW ((P.m c).mpr ⟨hc,e⟩),e]
  rfl
 ·rw[OW (hk.mpr e),e]
  rfl
def dJ.is{R:O1}{p:PL}{ps:List Int}{t:Int}(P:dJ R p ps t){c:Nat}(hc:c<169)(x:Pz):(p.on c==x)=decide (ps.getD c 0=dM x):=by
 rw[<-P.on hc,Qg,Qj,O9];exact⟨λe=>by rw[e],λe=>eX e⟩
def cZ.kind{r:R0}{R:O1}(Q:cZ r R){c:Nat}(hc:c<169)(x:Tafl.Kind):(R.kindAt c==x)=decide (r.ground.getD c 0=BE x):=by
 rw[Q.gr c hc,Qg,Qj,O9];exact⟨λe=>by rw[e],λe=>E7 e⟩
def Jc{l:List Nat}{N:Nat}(s:l.Pairwise (·<·))(b:∀x∈l,x<N)(p:Nat->Bool)(hp:∀x,x<N->(p x=true↔x∈l)):l=(List.range N).filter p:=by
 have n1:l.Nodup:=s.imp λh=>PX h;have s2:((List.range N).filter p).Pairwise (·<·):=Qx.filter _;have n2:((List.range N).filter p).Nodup:=s2.imp λh=>PX h;refine List.Perm.eq_of_pairwise (le:=(·<·)) (λa b _ _ h1 h2=>absurd (Nat.lt_trans h1 h2) (Qw _)) s s2 ((List.perm_ext_iff_of_nodup n1 n2).mpr λx=>?_);rw[PR,Pl];exact⟨λh=>⟨b x h,(hp x (b x h)).mpr h⟩,λh=>(hp x h.1).mp h.2⟩
def Be{l:List Int}{N:Nat}(n:l.Nodup)(b:∀v∈l,∃x:Nat,v=(x:Nat)/\x<N)(p:Nat->Bool)(hp:∀x,x<N->(p x=true↔((x:Nat):Int)∈l)):HD l=((List.range N).filter p).map λ(x:Nat)=>((x:Nat):Int):=by
 have s2:((List.range N).filter p).Pairwise (·<·):=Qx.filter _;have s3:(((List.range N).filter p).map λ(x:Nat)=>((x:Nat):Int)).Pairwise (·<=·):=by
  rw[QW];exact s2.imp λh=>by omega
 have n3:(((List.range N).filter p).map λ(x:Nat)=>((x:Nat):Int)).Nodup:=by
  unfold List.Nodup;rw[QW];exact s2.imp λh=>by omega
 refine(Db ((List.perm_ext_iff_of_nodup n3 n).mpr λv=>?_) s3).symm;constructor
 ·intro h
  obtain⟨x,hx,rfl⟩:=Pg.mp h;obtain⟨h1,h2⟩:=PR.mp hx;exact(hp x (Pl.mp h1)).mp h2
 ·intro h
  obtain⟨x,rfl,hx⟩:=b v h;exact Pg.mpr ⟨x,PR.mpr ⟨Pl.mpr hx,(hp x hx).mpr h⟩,rfl⟩
def up_eq{wide high:Nat}(hw:wide<=13)(hh:high<=13):u7 wide high=((List.range 192).filter λ(c:Nat)=>decide (c%13<wide)&&decide (c/13<high)).map λ(x:Nat)=>((x:Nat):Int):=by
 have e:u7 wide high=((List.range high).flatMap λ(y:Nat)=>(List.range wide).map λ(x:Nat)=>13*y+x).map λ(x:Nat)=>((x:Nat):Int):=by
  unfold u7;rw[Q0];simp only[Qa];rfl
 rw[e]
 congr 1
 refine Jc ?_ (λv hv=>?_) _ λv hv=>?_
 ·rw[List.pairwise_flatMap]
  refine⟨λy _=>?_,?_⟩
  ·rw[QW]
   exact Qx.imp λh=>by omega
  ·refine Qx.imp λh u hu v hv=>?_
   obtain⟨i,hi,rfl⟩:=Pg.mp hu;obtain⟨j,hj,rfl⟩:=Pg.mp hv;have:=Pl.mp hi;omega
 ·obtain⟨y,hy,hv⟩:=Qn.mp hv
  obtain⟨x,hx,rfl⟩:=Pg.mp hv;have hy:=Pl.mp hy;have hx:=Pl.mp hx;omega
 ·rw[Pe,O9,O9]
  constructor
  ·rintro⟨h1,h2⟩
   exact Qn.mpr ⟨v/13,Pl.mpr h2,Pg.mpr ⟨v%13,Pl.mpr h1,by omega⟩⟩
  ·intro h
   obtain⟨y,hy,h⟩:=Qn.mp h;obtain⟨x,hx,rfl⟩:=Pg.mp h;have hy:=Pl.mp hy;have hx:=Pl.mp hx;exact⟨by omega,by omega⟩
def DI:Option Nat->Int
 |none=> -1
 |some n=>((n:Nat):Int)
def ms{r:R0}{R:O1}(Q:cZ r R){c d:Nat}(hd:d<4)(h1:c%13<R.wide)(h2:c/13<R.high):dm r.wide r.high c (cF d) (cE d)=DI (R.next d c):=by
 rw[Q.w,Q.h];unfold dm Tafl.Rules.next Tafl.cellOf Tafl.STRIDE
 match d,hd with
 |0,_=>
  simp only[cF,cE]
  by_cases h:c/13+1<R.high
  ·simp[h,DI]
   intro hx;have:=hx (by omega) (by omega) (by omega);omega
  ·simp[h,DI]
   omega
 |1,_=>
  simp only[cF,cE]
  by_cases h:c%13+1<R.wide
  ·simp[h,DI]
   intro hx;have:=hx (by omega) (by omega) (by omega);omega
  ·simp[h,DI]
   omega
 |2,_=>
  simp only[cF,cE]
  by_cases h:0<c/13
  ·simp[h,DI]
   rw[OW (by omega)];omega
  ·simp[h,DI]
   omega
 |3,_=>
  simp only[cF,cE]
  by_cases h:0<c%13
  ·simp[h,DI]
   rw[OW (by omega)];omega
  ·simp[h,DI]
   omega
def jC{R:O1}{c d n:Nat}(hd:d<4)(hw:R.wide<=13)(hh:R.high<=13)(h1:c%13<R.wide)(h2:c/13<R.high)(e:R.next d c=some n):n<169/\n%13<R.wide/\n/13<R.high:=by
 unfold Tafl.Rules.next Tafl.cellOf Tafl.STRIDE at e
 match d,hd with
 |0,_=>simp at e;omega
 |1,_=>simp at e;omega
 |2,_=>simp at e;omega
 |3,_=>simp at e;omega
def iL(l:List Nat):List Int:=l.map λ(x:Nat)=>((x:Nat):Int)
def free_eq{r:R0}{R:O1}{p:PL}{ps:List Int}{t:Int}(Q:cZ r R)(P:dJ R p ps t){c:Nat}(hc:c<169):R.free p c=(!decide (r.ground.getD c 0=3)&&decide (ps.getD c 0=0)):=by
 unfold Tafl.Rules.free;rw[P.is hc];have e:(R.kindAt c != .wall)= !decide (r.ground.getD c 0=3):=by
  unfold bne;rw[Q.kind hc];rfl
 rw[e];rfl
def nQ{r:R0}{R:O1}(Q:cZ r R){c:Nat}(hc:c<169):(R.kindAt c=.plain/\r.ground.getD c 0=0)\/(R.kindAt c=.seat/\r.ground.getD c 0=1)\/(R.kindAt c=.exit/\r.ground.getD c 0=2)\/(R.kindAt c=.wall/\r.ground.getD c 0=3):=by
 have g:=Q.gr c hc;cases h:R.kindAt c with
 |plain=>rw[h]at g;exact .inl ⟨rfl,g⟩
 |seat=>rw[h]at g;exact .inr (.inl ⟨rfl,g⟩)
 |exit=>rw[h]at g;exact .inr (.inr (.inl ⟨rfl,g⟩))
 |wall=>rw[h]at g;exact .inr (.inr (.inr ⟨rfl,g⟩))
def BR{r:R0}{R:O1}{p:PL}{ps:List Int}{t:Int}(Q:cZ r R)(P:dJ R p ps t){d:Nat}(hd:d<4):∀(f c:Nat),c<169->c%13<R.wide->c/13<R.high->bN r ps d 3 f (dm r.wide r.high c (cF d) (cE d))=iL (R.kingWay p d f c)
 |0,_,_,_,_=>rfl
 |f+1,c,hc,h1,h2=>by
  rw[ms Q hd h1 h2];unfold Tafl.Rules.kingWay;cases hn:R.next d c with
  |none=>exact lQ _ _ _ _ _
  |some n=>
   obtain⟨n1,n2,n3⟩:=jC hd Q.tT Q.uE h1 h2 hn;have ih:=BR Q P hd f n n1 n2 n3;show bN r ps d 3 (f+1) ((n:Nat):Int)=_;unfold bN;dsimp only;rw[Px,free_eq Q P n1];unfold sk iF;have hn0:¬((n:Nat):Int)<0:=by omega
   rw[ih,Q.sl];rcases nQ Q n1 with⟨_,e⟩|⟨_,e⟩|⟨_,e⟩|⟨_,e⟩<;>rw[e]
   all_goals generalize ps.getD n 0=v
   all_goals by_cases hz:v=0
   all_goals cases R.slides
   all_goals simp[hz,hn0,b2i,iL]
def Dr{r:R0}{R:O1}{p:PL}{ps:List Int}{t:Int}(Q:cZ r R)(P:dJ R p ps t){d:Nat}(hd:d<4){pc:Int}(hp:pc=1\/pc=2):∀(f c:Nat),c<169->c%13<R.wide->c/13<R.high->bN r ps d pc f (dm r.wide r.high c (cF d) (cE d))=iL (R.manWay p d f c)
 |0,_,_,_,_=>rfl
 |f+1,c,hc,h1,h2=>by
  rw[ms Q hd h1 h2];unfold Tafl.Rules.manWay;cases hn:R.next d c with
  |none=>exact lQ _ _ _ _ _
  |some n=>
   obtain⟨n1,n2,n3⟩:=jC hd Q.tT Q.uE h1 h2 hn;have ih:=Dr Q P hd hp f n n1 n2 n3;have p3:¬pc=3:=by omega
   have p0:¬pc=0:=by omega
   show bN r ps d pc (f+1) ((n:Nat):Int)=_;unfold bN;dsimp only;rw[Px,free_eq Q P n1];unfold sk iF;have hn0:¬((n:Nat):Int)<0:=by omega
   rw[ih,Q.pa];rcases nQ Q n1 with⟨k,e⟩|⟨k,e⟩|⟨k,e⟩|⟨k,e⟩<;>rw[e,k]
   all_goals generalize ps.getD n 0=v
   all_goals by_cases hz:v=0
   all_goals cases R.passed
   all_goals simp[hz,hn0,p3,p0,b2i,iL]
def Fy(d c n:Nat):Prop:=(d=0/\n%13=c%13/\c/13<n/13)\/(d=1/\n/13=c/13/\c%13<n%13)\/(d=2/\n%13=c%13/\n/13<c/13)\/(d=3/\n/13=c/13/\n%13<c%13)
def Fc{d c n m:Nat}(h1:Fy d c n)(h2:Fy d n m):Fy d c m:=by
 unfold Fy at*;omega
def Kk{d c n:Nat}(h:Fy d c n):n≠c:=by
 unfold Fy at h
 rintro rfl
 omega
def DU{d d' c n:Nat}(h1:Fy d c n)(h2:Fy d' c n):d=d':=by
 unfold Fy at*;omega
def xm{R:O1}{c d n:Nat}(hd:d<4)(hw:R.wide<=13)(hh:R.high<=13)(h1:c%13<R.wide)(h2:c/13<R.high)(e:R.next d c=some n):Fy d c n:=by
 unfold Tafl.Rules.next Tafl.cellOf Tafl.STRIDE at e;unfold Fy
 match d,hd with
 |0,_=>simp at e;omega
 |1,_=>simp at e;omega
 |2,_=>simp at e;omega
 |3,_=>simp at e;omega
structure MZ(R:O1)(d c:Nat)(v:Int)(n:Nat):Prop where
 e:v=((n:Nat):Int)
 b:n<169
 w:n%13<R.wide
 h:n/13<R.high
 r:Fy d c n
def zt{r:R0}{R:O1}(Q:cZ r R)(ps:List Int){d:Nat}(hd:d<4)(pc:Int):∀(f c:Nat),c%13<R.wide->c/13<R.high->(∀v∈bN r ps d pc f (dm r.wide r.high c (cF d) (cE d)),∃n,MZ R d c v n)/\(bN r ps d pc f (dm r.wide r.high c (cF d) (cE d))).Nodup
 |0,_,_,_=>⟨λv hv=>(by cases hv),List.nodup_nil⟩
 |f+1,c,h1,h2=>by
  rw[ms Q hd h1 h2];cases hn:R.next d c with
  |none=>
   show(∀v∈bN r ps d pc (f+1) (-1),_)/\(bN r ps d pc (f+1) (-1)).Nodup;rw[lQ];exact⟨λv hv=>(by cases hv),List.nodup_nil⟩
  |some n=>
   obtain⟨n1,n2,n3⟩:=jC hd Q.tT Q.uE h1 h2 hn;have rn:=xm hd Q.tT Q.uE h1 h2 hn;obtain⟨i1,i2⟩:=zt Q ps hd pc f n n2 n3;show(∀v∈bN r ps d pc (f+1) ((n:Nat):Int),_)/\(bN r ps d pc (f+1) ((n:Nat):Int)).Nodup;unfold bN;rw[Px];split
   ·exact⟨λv hv=>(by cases hv),List.nodup_nil⟩
   ·have tl:(∀v∈(if pc=3/\r.slides=0 then[]else bN r ps d pc f (dm r.wide r.high n (cF d) (cE d))),∃m,MZ R d n v m)/\(if pc=3/\r.slides=0 then[]else bN r ps d pc f (dm r.wide r.high n (cF d) (cE d))).Nodup:=by
     split
     ·exact⟨λv hv=>(by cases hv),List.nodup_nil⟩
     ·exact⟨i1,i2⟩
    generalize(if pc=3/\r.slides=0 then[]else bN r ps d pc f (dm r.wide r.high n (cF d) (cE d)))=T at*;obtain⟨t1,t2⟩:=tl;have up:∀v∈T,∃m,MZ R d c v m:=λv hv=>by
     obtain⟨m,M⟩:=t1 v hv;exact⟨m,M.e,M.b,M.w,M.h,Fc rn M.r⟩
    split
    ·refine⟨λv hv=>?_,?_⟩
     ·rcases Po.mp hv with z|z
      ·exact⟨n,z,n1,n2,n3,rn⟩
      ·exact up v z
     ·refine Rp.mpr ⟨λhm=>?_,t2⟩
      obtain⟨m,M⟩:=t1 _ hm;exact Kk M.r (by have:=M.e;omega)
    ·exact⟨up,t2⟩
def uR{r:R0}{R:O1}(Q:cZ r R)(ps:List Int){c:Nat}(h1:c%13<R.wide)(h2:c/13<R.high):(reachOf r ps c).Nodup/\∀v∈reachOf r ps c,∃n:Nat,v=((n:Nat):Int)/\n<169/\n%13<R.wide/\n/13<R.high:=by
 have st:∀d,d<4->(∀v∈bn r ps c d,∃n,MZ R d c v n)/\(bn r ps c d).Nodup:=λd hd=>zt Q ps hd (ps.getD c 0) 13 c h1 h2;have dj:∀d d',d<4->d'<4->d≠d'->∀v∈bn r ps c d,∀u∈bn r ps c d',v≠u:=λd d' hd hd' ne v hv u hu e=>by
  obtain⟨n,N⟩:=(st d hd).1 v hv;obtain⟨m,M⟩:=(st d' hd').1 u hu;have:n=m:=by have:=N.e;have:=M.e;omega
  subst this;exact ne (DU N.r M.r)
 have e:reachOf r ps c=bn r ps c 0++(bn r ps c 1++(bn r ps c 2++(bn r ps c 3++[]))):=rfl;rw[e];refine⟨?_,λv hv=>?_⟩
 ·rw[PU]
  refine Q9.mpr ⟨(st 0 (by decide)).2,Q9.mpr ⟨(st 1 (by decide)).2,Q9.mpr ⟨(st 2 (by decide)).2,(st 3 (by decide)).2,dj 2 3 (by decide) (by decide) (by decide)⟩,λv hv u hu=>?_⟩,λv hv u hu=>?_⟩
  ·rcases Pk.mp hu with z|z
   ·exact dj 1 2 (by decide) (by decide) (by decide) v hv u z
   ·exact dj 1 3 (by decide) (by decide) (by decide) v hv u z
  ·rcases Pk.mp hu with z|z
   ·exact dj 0 1 (by decide) (by decide) (by decide) v hv u z
   ·rcases Pk.mp z with z|z
    ·exact dj 0 2 (by decide) (by decide) (by decide) v hv u z
    ·exact dj 0 3 (by decide) (by decide) (by decide) v hv u z
 ·have:∃d,d<4/\v∈bn r ps c d:=by
   simp only[Pk,List.not_mem_nil,or_false]at hv;rcases hv with z|z|z|z
   ·exact⟨0,by decide,z⟩
   ·exact⟨1,by decide,z⟩
   ·exact⟨2,by decide,z⟩
   ·exact⟨3,by decide,z⟩
  obtain⟨d,hd,hv⟩:=this;obtain⟨n,N⟩:=(st d hd).1 v hv;exact⟨n,N.e,N.b,N.w,N.h⟩
def FV{r:R0}{R:O1}{p:PL}{ps:List Int}{t:Int}(Q:cZ r R)(P:dJ R p ps t){c:Nat}(hc:c<169)(h1:c%13<R.wide)(h2:c/13<R.high)(hz:ps.getD c 0≠0):reachOf r ps c=iL (R.reach p c):=by
 have hk:p.king=c↔ps.getD c 0=3:=by
  rcases P.k with⟨k1,k2⟩|⟨k1,k2,k3⟩
  ·exact⟨λe=>by omega,λe=>absurd e (k2 c hc)⟩
  ·exact⟨λe=>by rw[<-e];exact k2,λe=>(k3 c hc e).symm⟩
 have st:∀d,d<4->bn r ps c d=iL (if p.king=c then R.kingWay p d 13 c else R.manWay p d 13 c):=λd hd=>by
  unfold bn
  by_cases e:ps.getD c 0=3
  ·rw[e,OW (hk.mpr e)]
   exact BR Q P hd 13 c hc h1 h2
  ·rw[OV (λz=>e (hk.mp z))]
   obtain⟨v0,v3⟩:=P.wf.val c;exact Dr Q P hd (by omega) 13 c hc h1 h2
 have e:reachOf r ps c=bn r ps c 0++(bn r ps c 1++(bn r ps c 2++(bn r ps c 3++[]))):=rfl;rw[e,st 0 (by decide),st 1 (by decide),st 2 (by decide),st 3 (by decide)];unfold Tafl.Rules.reach Tafl.WAYS iL;simp only[Qe,List.flatMap_nil,Pn,List.map_nil];rfl
def C3{r:R0}{R:O1}{p:PL}{ps:List Int}{t:Int}(Q:cZ r R)(P:dJ R p ps t){c:Nat}(hc:c<169)(h1:c%13<R.wide)(h2:c/13<R.high)(hz:ps.getD c 0≠0):du r ps c=iL ((List.range 192).filter λ(x:Nat)=>(R.reach p c).contains x):=by
 obtain⟨n1,n2⟩:=uR Q ps h1 h2;unfold du;refine Be n1 (λv hv=>?_) _ λx hx=>?_
 ·obtain⟨n,e,b,_⟩:=n2 v hv
  exact⟨n,e,by omega⟩
 ·rw[FV Q P hc h1 h2 hz,Q6]
  unfold iL;constructor
  ·exactλh=>Pg.mpr ⟨x,h,rfl⟩
  ·intro h
   obtain⟨y,hy,e⟩:=Pg.mp h;have:y=x:=by omega
   rw[<-this];exact hy
def Bx{ps:List Int}(W:rZ ps){c:Nat}(h:169<=c):ps.getD c 0=0:=by
 simp only[List.getD];rw[Rt (by rw[W.len];exact h)];rfl
def CA{r:R0}{R:O1}{p:PL}{ps:List Int}{t:Int}(Q:cZ r R)(P:dJ R p ps t):cellsOf r ps t=iL p.own:=by
 unfold cellsOf;rw[Q.w,Q.h,up_eq Q.tT Q.uE,List.filter_map];show iL (((List.range 192).filter _).filter _)=_;rw[List.filter_filter];unfold Tafl.Pos.own Tafl.cellsIn Tafl.GONE;have key:∀c,c<192->(de (ps.getD c 0)=t↔if p.side=0 then p.hunters.testBit c=true else(p.men.testBit c=true\/c=p.king)):=λc hc=>by
  rw[P.sd]
  by_cases hb:c<169
  ·obtain⟨v0,v3⟩:=P.wf.val c
   have hk:c=p.king↔ps.getD c 0=3:=by
    rcases P.k with⟨k1,k2⟩|⟨k1,k2,k3⟩
    ·exact⟨λe=>by omega,λe=>absurd e (k2 c hb)⟩
    ·exact⟨λe=>by rw[e];exact k2,λe=>k3 c hb e⟩
   have hh:=P.h c;have hm:=P.m c;rcases P.HG with s|s
   ·rw[OW s,s,hh]
    unfold de;split
    ·constructor
     ·intro z;cases z
     ·omega
    ·split
     ·constructor
      ·intro _;exact⟨hb,by assumption⟩
      ·intro _;rfl
     ·constructor
      ·intro z;cases z
      ·omega
   ·rw[OV (by omega),s,hm,hk]
    unfold de;split
    ·constructor
     ·intro z;cases z
     ·omega
    ·split
     ·constructor
      ·intro z;cases z
      ·omega
     ·constructor
      ·intro _;omega
      ·intro _;rfl
  ·rw[Bx P.wf (by omega)]
   have hh:=Bp (P.h c) (λz=>hb z.1);have hm:=Bp (P.m c) (λz=>hb z.1);have hk:c≠p.king:=by
    rcases P.k with⟨k1,_⟩|⟨k1,_⟩<;>omega
   rcases P.HG with s|s
   ·rw[OW s,s,hh]
    decide
   ·rw[OV (by omega),s,hm]
    unfold de;simp[hk]
 have grd:∀c,c<192->de (ps.getD c 0)=t->c%13<R.wide/\c/13<R.high:=λc hc e=>by
  by_cases hb:c<169
  ·refine P.g c hb λz=>?_
   rw[z,P.sd]at e;rcases P.HG with s|s<;>rw[s]at e<;>cases e
  ·rw[Bx P.wf (by omega),P.sd]at e
   rcases P.HG with s|s<;>rw[s]at e<;>cases e
 congr 1
 by_cases s:p.side=0
 ·rw[OW s]
  refine List.filter_congr λc hc=>?_;have hc:=Pl.mp hc;have k:=key c hc;rw[OW s]at k;rw[Qg];simp only[Function.comp,Pe,O9,Px];exact⟨λh=>k.mp h.1,λh=>⟨k.mpr h,grd c hc (k.mpr h)⟩⟩
 ·rw[OV s]
  refine List.filter_congr λc hc=>?_;have hc:=Pl.mp hc;have k:=key c hc;rw[OV s]at k;rw[Qg];simp only[Function.comp,Pe,O9,Px,QO,Qj];exact⟨λh=>k.mp h.1,λh=>⟨k.mpr h,grd c hc (k.mpr h)⟩⟩
def AQ{R:O1}{p:PL}{ps:List Int}{t:Int}(P:dJ R p ps t):(p.king=255/\fZ ps= -1)\/(p.king<169/\fZ ps=((p.king:Nat):Int)):=by
 unfold fZ;rcases P.k with⟨k1,k2⟩|⟨k1,k2,k3⟩
 ·left
  refine⟨k1,OV λhm=>?_⟩;obtain⟨i,hi,e⟩:=QQ hm;rw[P.wf.len]at hi;exact k2 i hi (by simp[List.getD,OY (show i<ps.length by rw[P.wf.len];exact hi),e])
 ·right
  have hm:(3:Int)∈ps:=by
   have hl:p.king<ps.length:=by rw[P.wf.len];exact k1
   have:ps.getD p.king 0=ps[p.king]:=by simp[List.getD,OY hl]
   rw[<-k2,this];exact Rh hl
  refine⟨k1,?_⟩;rw[OW hm];have lt:ps.findIdx (·==3)<ps.length:=QC ⟨3,hm,rfl⟩;have e3:=List.findIdx_getElem (w:=lt);have e3:ps[ps.findIdx (·==3)]=3:=eq_of_beq e3;have:=k3 (ps.findIdx (·==3)) (by rw[<-P.wf.len];exact lt) (by simp[List.getD,OY lt,e3]);rw[this]
def ED{R:O1}{c:Nat}(d:Nat):R.next d c=none↔(if d=0 then R.high<=c/13+1 else if d=1 then R.wide<=c%13+1 else if d=2 then c/13=0 else c%13=0):=by
 unfold Tafl.Rules.next Tafl.STRIDE;dsimp only;split
 ·split<;>simp<;>omega
 ·split
  ·split<;>simp<;>omega
  ·split
   ·split<;>simp<;>omega
   ·split<;>simp<;>omega
def Ia{o:Option Nat}:DI o<0↔o=none:=by
 cases o with
 |none=>simp[DI]
 |some n=>simp[DI]
def A5{r:R0}{R:O1}(Q:cZ r R){c:Nat}(h1:c%13<R.wide)(h2:c/13<R.high):wD r c=R.onEdge (c%13,c/13):=by
 unfold wD Tafl.Rules.onEdge;have st:∀d,d<4->decide (dm r.wide r.high c (cF d) (cE d)<0)=decide (R.next d c=none):=λd hd=>by
  rw[ms Q hd h1 h2,Re];exact Ia
 have e:(List.range 4).any (λ(d:Nat)=>decide (dm r.wide r.high c (cF d) (cE d)<0))=(decide (R.next 0 c=none)||(decide (R.next 1 c=none)||(decide (R.next 2 c=none)||(decide (R.next 3 c=none)||false)))):=by
  rw[<-st 0 (by decide),<-st 1 (by decide),<-st 2 (by decide),<-st 3 (by decide)];rfl
 rw[e,Qg];simp only[QO,O9,ED,Qj,Bool.false_eq_true,or_false];simp;omega
def IX{r:R0}{R:O1}(Q:cZ r R){c:Nat}(hc:c<169)(h1:c%13<R.wide)(h2:c/13<R.high):wF r c=R.onGoal c:=by
 unfold wF Tafl.Rules.onGoal Tafl.STRIDE;rw[Q.go,Q.kind hc,A5 Q h1 h2]
 by_cases h:R.goal=1
 ·rw[OW (by omega),OW h]
  rfl
 ·rw[OV (by omega),OV h]
def xV{r:R0}{R:O1}{p:PL}{ps:List Int}{t:Int}(Q:cZ r R)(P:dJ R p ps t):fY r ps=((R.ended p:Nat):Int):=by
 unfold fY Tafl.Rules.ended Tafl.TAKEN;rcases AQ P with⟨k,e⟩|⟨k,e⟩
 ·rw[e,k]
  rfl
 ·rw[e,OV (show¬((p.king:Nat):Int)<0 by omega),Px,OV (show¬p.king=255 by omega)]
  have hz:ps.getD p.king 0=3:=by
   rcases P.k with⟨k1,_⟩|⟨_,k2,_⟩
   ·omega
   ·exact k2
  obtain⟨g1,g2⟩:=P.g p.king k (by omega);rw[IX Q k g1 g2];cases R.onGoal p.king<;>rfl
def FI{r:R0}{R:O1}{p:PL}{ps:List Int}{t:Int}(Q:cZ r R)(P:dJ R p ps t){c:Nat}(h:c∈p.own):c<169/\ps.getD c 0≠0/\c%13<R.wide/\c/13<R.high/\de (ps.getD c 0)=t:=by
 have hm:((c:Nat):Int)∈cellsOf r ps t:=by
  rw[CA Q P];exact Pg.mpr ⟨c,h,rfl⟩
 obtain⟨n,e,n1,n2,n3⟩:=jL Q.wf hm;have e:n=c:=by omega
 subst e;have hs:=O7 (PR.mp hm).2;rw[Px]at hs;have hz:ps.getD n 0≠0:=λz=>by
  rw[z,P.sd]at hs;rcases P.HG with s|s<;>rw[s]at hs<;>cases hs
 obtain⟨g1,g2⟩:=P.g n n1 hz;exact⟨n1,hz,g1,g2,hs⟩
def Ji{α:Type}(l:List Nat)(f:Int->List α)(g:Nat->List α)(h:∀c∈l,f ((c:Nat):Int)=g c):(iL l).flatMap f=l.flatMap g:=by
 unfold iL;rw[QR]
 induction l with
 |nil=>rfl
 |cons c l ih=>
  rw[Qe,Qe,h c O8,ih λx hx=>h x (Pa _ hx)]
def IY{r:R0}{R:O1}{p:PL}{ps:List Int}{t:Int}(Q:cZ r R)(P:dJ R p ps t){c:Nat}(h:c∈p.own):cU r ps ((c:Nat):Int)=((List.range 192).filter λ(x:Nat)=>(R.reach p c).contains x).map λ(x:Nat)=>(c,x):=by
 obtain⟨c1,c2,c3,c4,_⟩:=FI Q P h;unfold cU;rw[Px,C3 Q P c1 c3 c4 c2];unfold iL;rw[Qa];rfl
def nL{r:R0}{R:O1}{p:PL}{ps:List Int}{t:Int}(Q:cZ r R)(P:dJ R p ps t):aQ r ps t=R.moves p:=by
 unfold aQ Tafl.Rules.moves Tafl.GONE;rw[xV Q P]
 by_cases h:R.ended p=0
 ·rw[OV (by omega),OV (by omega),CA Q P]
  exact Ji _ _ _ λc hc=>IY Q P hc
 ·rw[OW (by omega),OW h]
def GU{r:R0}{R:O1}{p:PL}{ps:List Int}{t:Int}(Q:cZ r R)(P:dJ R p ps t)(he:R.ended p=0):BI r ps t=false↔R.moves p=[]:=by
 rw[<-nL Q P];unfold aQ;rw[xV Q P,OV (by omega)];unfold BI;rw[List.flatMap_eq_nil_iff,QL];constructor
 ·intro h c hc
  have q:=h c hc;unfold cU du;have e:reachOf r ps c.toNat=[]:=by
   unfold reachOf;rw[List.flatMap_eq_nil_iff];intro d hd;rw[Bool.not_eq_true,QL]at q;have:=q d hd;have z:¬0<(bn r ps c.toNat d).length:=λz=>this (O0 z);exact Qi.mp (by omega)
  rw[e];have e0:HD []=[]:=Qi.mp (by rw[sI];rfl);rw[e0];rfl
 ·intro h c hc
  have q:=h c hc;rw[Bool.not_eq_true,QL];intro d hd z;have z:0<(bn r ps c.toNat d).length:=O7 z;unfold cU at q;have e:du r ps c.toNat=[]:=List.map_eq_nil_iff.mp q;have l0:(reachOf r ps c.toNat).length=0:=by
   rw[<-sI];unfold du at e;rw[e];rfl
  have e2:reachOf r ps c.toNat=[]:=Qi.mp l0;unfold reachOf at e2;rw[List.flatMap_eq_nil_iff]at e2;have:=e2 d hd;rw[this]at z;exact absurd z (by decide)
def sP{r:R0}{R:O1}{p:PL}{ps:List Int}{t:Int}(Q:cZ r R)(P:dJ R p ps t):overOf r ps t=((R.over p:Nat):Int):=by
 unfold overOf Tafl.Rules.over;rw[xV Q P]
 by_cases h:R.ended p=0
 ·rw[OV (show¬R.ended p≠0 by omega)]
  by_cases hm:R.moves p=[]
  ·rw[OW ⟨by omega,(GU Q P h).mpr hm⟩,OW hm]
   rfl
  ·rw[OV (λz=>hm ((GU Q P h).mp z.2)),OV hm,h]
 ·rw[OW h,OV (λz=>h (by have:=z.1;omega))]
def BP(c:Nat):∀(l:List Nat)(n0:Nat),(l.foldl (λ(n c:Nat)=>n|||2^c) n0).testBit c=true↔n0.testBit c=true\/c∈l
 |[],n0=>by simp
 |x::l,n0=>by
  rw[QB,BP c l,Nat.testBit_or,Nat.testBit_two_pow,Po,QO,O9];constructor
  ·rintro((h|h)|h)
   ·exact .inl h
   ·exact .inr (.inl h.symm)
   ·exact .inr (.inr h)
  ·rintro(h|h|h)
   ·exact .inl (.inl h)
   ·exact .inl (.inr h.symm)
   ·exact .inr h
def qm(c:Nat)(l:List Nat):(Tafl.setFrom l).testBit c=true↔c∈l:=by
 unfold Tafl.setFrom;rw[BP];simp
def mh{n c:Nat}:c∈Tafl.cellsIn n↔c<192/\n.testBit c=true:=by
 unfold Tafl.cellsIn Tafl.GONE;rw[PR,Pl]
def ya{r:R0}{ps:List Int}{d:Nat}{pc:Int}:∀(f:Nat)(cell v:Int),v∈bN r ps d pc f cell->sk r ps pc v.toNat=true
 |0,_,_,h=>by cases h
 |f+1,cell,v,h=>by
  unfold bN at h;split at h
  ·cases h
  ·rename_i hc
   rcases Pk.mp h with z|z
   ·split at z
    ·rw[Pj]at z
     subst z;cases e:sk r ps pc v.toNat with
     |true=>rfl
     |false=>exact absurd (.inr e) hc
    ·cases z
   ·split at z
    ·cases z
    ·exact ya f _ _ z
structure Df(R:O1)(ps:List Int)(tn:Int)(s t:Nat):Prop where
 s1:s<169
 t1:t<169
 ne:s≠t
 sv:ps.getD s 0≠0
 sd:de (ps.getD s 0)=tn
 tv:ps.getD t 0=0
 w:t%13<R.wide
 h:t/13<R.high
def zj{r:R0}{R:O1}{p:PL}{ps:List Int}{tn:Int}(Q:cZ r R)(P:dJ R p ps tn){s t:Nat}(h:(s,t)∈aQ r ps tn):Df R ps tn s t:=by
 have h0:True:=trivial;unfold aQ at h;split at h
 ·cases h
 ·obtain⟨c,hc,hv⟩:=Qn.mp h
  rw[CA Q P]at hc;obtain⟨c',hc',rfl⟩:=Pg.mp hc;obtain⟨c1,c2,c3,c4,c5⟩:=FI Q P hc';unfold cU at hv;obtain⟨v,hv2,e⟩:=Pg.mp hv;clear hv h h0;rw[Px]at hv2 e;have e1:c'=s:=(Prod.mk.inj e).1;have e2:v.toNat=t:=(Prod.mk.inj e).2;subst e1;have hv:=At.mp hv2;obtain⟨n,en,n1,n2,n3⟩:=(uR Q ps c3 c4).2 v hv;have e3:n=t:=by omega
  subst e3;unfold reachOf at hv;obtain⟨d,hd,hv⟩:=Qn.mp hv;have ov:=ya _ _ _ hv;rw[e2]at ov;unfold sk at ov;split at ov
  ·cases ov
  ·rename_i hn
   have tv:ps.getD n 0=0:=by
    by_cases z:ps.getD n 0=0
    ·exact z
    ·exact absurd (.inr z) hn
   exact⟨c1,n1,λz=>c2 (by rw[z];exact tv),c2,c5,tv,n2,n3⟩
def BS{ps:List Int}(W:rZ ps){s t:Nat}(hs:s<169)(ht:t<169)(c:Nat):(bb ps s t).getD c 0=if c=s then 0 else if c=t then ps.getD s 0 else ps.getD c 0:=by
 unfold bb;rw[k_,k_,QN,W.len]
 by_cases h1:s=c
 ·rw[OW (show s=c/\s<169 from⟨h1,hs⟩),OW (show c=s from h1.symm)]
 ·rw[OV (show¬(s=c/\s<169)fromλz=>h1 z.1),OV (show¬c=s fromλz=>h1 z.symm)]
  by_cases h2:t=c
  ·rw[OW (show t=c/\t<169 from⟨h2,ht⟩),OW (show c=t from h2.symm)]
  ·rw[OV (show¬(t=c/\t<169)fromλz=>h2 z.1),OV (show¬c=t fromλz=>h2 z.symm)]
def shift_pos{r:R0}{R:O1}{p:PL}{ps:List Int}{tn:Int}(Q:cZ r R)(P:dJ R p ps tn){s t:Nat}(M:Df R ps tn s t):dJ R (p.shifted (s,t)) (bb ps s t) (1-tn):=by
 have at_:=BS P.wf M.s1 M.t1;have W:=P.wf.moved s t;have hs0:=M.sv;have ht0:=M.tv;have ne:=M.ne;have gr:∀c,c<169->(bb ps s t).getD c 0≠0->c%13<R.wide/\c/13<R.high:=λc hc hz=>by
  rw[at_]at hz
  by_cases h1:c=s
  ·rw[OW h1]at hz
   exact absurd rfl hz
  ·rw[OV h1]at hz
   by_cases h2:c=t
   ·subst h2
    exact⟨M.w,M.h⟩
   ·rw[OV h2]at hz
    exact P.g c hc hz
 obtain⟨v0,v3⟩:=P.wf.val s;have sd:=M.sd;rw[P.sd]at sd;have ks:p.king=s↔ps.getD s 0=3:=by
  rcases P.k with⟨k1,k2⟩|⟨k1,k2,k3⟩
  ·exact⟨λe=>by have:=M.s1;omega,λe=>absurd e (k2 s M.s1)⟩
  ·exact⟨λe=>by rw[<-e];exact k2,λe=>(k3 s M.s1 e).symm⟩
 unfold Tafl.Pos.shifted
 by_cases hk:p.king=s
 ·have e3:=ks.mp hk
  rw[OW hk];have s1:p.side=1:=by
   rw[e3]at sd;have:((p.side:Nat):Int)=1:=sd.symm;omega
  refine⟨W,by rw[P.sd,s1];rfl,by show 1-p.side=0\/_;omega,λc=>?_,λc=>?_,.inr ⟨M.t1,?_,λc hc e=>?_⟩,gr⟩
  ·show p.hunters.testBit c=true↔_
   rw[P.h c,at_]
   by_cases h1:c=s
   ·rw[OW h1,h1,e3]
    constructor<;>(intro z;omega)
   ·rw[OV h1]
    by_cases h2:c=t
    ·rw[OW h2,h2,e3,ht0]
     constructor<;>(intro z;omega)
    ·rw[OV h2]
  ·show p.men.testBit c=true↔_
   rw[P.m c,at_]
   by_cases h1:c=s
   ·rw[OW h1,h1,e3]
    constructor<;>(intro z;omega)
   ·rw[OV h1]
    by_cases h2:c=t
    ·rw[OW h2,h2,e3,ht0]
     constructor<;>(intro z;omega)
    ·rw[OV h2]
  ·show(bb ps s t).getD t 0=3
   rw[at_,OV (Pb ne),OW rfl];exact e3
  ·show c=t
   rw[at_]at e
   by_cases h1:c=s
   ·rw[OW h1]at e
    cases e
   ·rw[OV h1]at e
    by_cases h2:c=t
    ·exact h2
    ·rw[OV h2]at e
     rcases P.k with⟨k1,k2⟩|⟨k1,k2,k3⟩
     ·exact absurd e (k2 c hc)
     ·exact absurd ((k3 c hc e).trans hk) h1
 ·rw[OV hk]
  have n3:ps.getD s 0≠3:=λz=>hk (ks.mpr z);have kk:(p.king=255/\∀c,c<169->(bb ps s t).getD c 0≠3)\/(p.king<169/\(bb ps s t).getD p.king 0=3/\∀c,c<169->(bb ps s t).getD c 0=3->c=p.king):=by
   have sub:∀c,c<169->(bb ps s t).getD c 0=3->ps.getD c 0=3:=λc hc e=>by
    rw[at_]at e
    by_cases h1:c=s
    ·rw[OW h1]at e
     cases e
    ·rw[OV h1]at e
     by_cases h2:c=t
     ·rw[OW h2]at e
      exact absurd e n3
     ·rw[OV h2]at e
      exact e
   rcases P.k with⟨k1,k2⟩|⟨k1,k2,k3⟩
   ·exact .inl ⟨k1,λc hc e=>k2 c hc (sub c hc e)⟩
   ·refine .inr ⟨k1,?_,λc hc e=>k3 c hc (sub c hc e)⟩
    rw[at_,OV (λz=>hk z),OV (λz=>by rw[z,ht0]at k2;cases k2)];exact k2
  rcases P.HG with s0|s1
  ·have e1:ps.getD s 0=1:=by
    rw[s0]at sd;unfold de at sd;split at sd
    ·cases sd
    ·split at sd
     ·assumption
     ·cases sd
   rw[OW s0];refine⟨W,by rw[P.sd,s0];rfl,.inr rfl,λc=>?_,λc=>?_,kk,gr⟩
   ·show(Tafl.setFrom (t::(Tafl.cellsIn p.hunters).filter λ(c:Nat)=>c !=s)).testBit c=true↔_
    rw[qm,Po,PR,mh,P.h c,at_,bne_iff_ne]
    by_cases h1:c=s
    ·rw[OW h1,h1]
     constructor
     ·rintro(z|z)
      ·exact absurd z ne
      ·exact absurd rfl z.2
     ·intro z;omega
    ·rw[OV h1]
     by_cases h2:c=t
     ·rw[OW h2,h2,e1]
      exact⟨λ_=>⟨M.t1,rfl⟩,λ_=>.inl rfl⟩
     ·rw[OV h2]
      constructor
      ·rintro(z|z)
       ·exact absurd z h2
       ·exact z.1.2
      ·intro z
       exact .inr ⟨⟨by omega,z⟩,h1⟩
   ·show p.men.testBit c=true↔_
    rw[P.m c,at_]
    by_cases h1:c=s
    ·rw[OW h1,h1,e1]
     constructor<;>(intro z;omega)
    ·rw[OV h1]
     by_cases h2:c=t
     ·rw[OW h2,h2,e1,ht0]
      constructor<;>(intro z;omega)
     ·rw[OV h2]
  ·have e2:ps.getD s 0=2:=by
    rw[s1]at sd;unfold de at sd;split at sd
    ·cases sd
    ·split at sd
     ·cases sd
     ·omega
   rw[OV (show¬p.side=0 by omega)];refine⟨W,by rw[P.sd,s1];rfl,.inl rfl,λc=>?_,λc=>?_,kk,gr⟩
   ·show p.hunters.testBit c=true↔_
    rw[P.h c,at_]
    by_cases h1:c=s
    ·rw[OW h1,h1,e2]
     constructor<;>(intro z;omega)
    ·rw[OV h1]
     by_cases h2:c=t
     ·rw[OW h2,h2,e2,ht0]
      constructor<;>(intro z;omega)
     ·rw[OV h2]
   ·show(Tafl.setFrom (t::(Tafl.cellsIn p.men).filter λ(c:Nat)=>c !=s)).testBit c=true↔_
    rw[qm,Po,PR,mh,P.m c,at_,bne_iff_ne]
    by_cases h1:c=s
    ·rw[OW h1,h1]
     constructor
     ·rintro(z|z)
      ·exact absurd z ne
      ·exact absurd rfl z.2
     ·intro z;omega
    ·rw[OV h1]
     by_cases h2:c=t
     ·rw[OW h2,h2,e2]
      exact⟨λ_=>⟨M.t1,rfl⟩,λ_=>.inl rfl⟩
     ·rw[OV h2]
      constructor
      ·rintro(z|z)
       ·exact absurd z h2
       ·exact z.1.2
      ·intro z
       exact .inr ⟨⟨by omega,z⟩,h1⟩
def Ca{e:Nat}(h:e<=3)(m:Bool):decide (0<Builtin.bitAnd ((e:Nat):Int) (if m=true then 2 else 1))=Tafl.hates e m:=by
 have:e=0\/e=1\/e=2\/e=3:=by omega
 rcases this with rfl|rfl|rfl|rfl<;>cases m<;>decide+kernel
def CQ{r:R0}{R:O1}{q:PL}{ps:List Int}{tn:Int}(Q:cZ r R)(P:dJ R q ps tn){b:Nat}(hb:b<169){pc:Int}{m:Bool}(hm:lP pc=if m=true then 2 else 1):li r ps b pc=R.against q m b:=by
 unfold li Tafl.Rules.against AI;rw[hm,P.is hb];have z0:decide (0<Builtin.bitAnd (0:Int) (if m=true then 2 else 1))=false:=by cases m<;>decide+kernel
 rcases nQ Q hb with⟨k,e⟩|⟨k,e⟩|⟨k,e⟩|⟨k,e⟩<;>rw[k,e]
 ·rw[OV (by decide),OV (λz=>by have:=z.1;omega)]
  exact z0
 ·rw[OV (by decide)]
  show _=(decide (ps.getD b 0=0)&&Tafl.hates R.seat m)
  by_cases h0:ps.getD b 0=0
  ·rw[OW ⟨rfl,h0⟩,O0 h0,Bool.true_and,Q.se]
   exact Ca Q.OI m
  ·rw[OV (λz=>h0 z.2),PF h0,Bool.false_and]
   exact z0
 ·rw[OW rfl,Q.ex]
  exact Ca Q.OH m
 ·rw[OV (by decide),OV (λz=>by have:=z.1;omega)]
  exact z0
def Al{R:O1}{t d n:Nat}:(d,n)∈R.neighbours t↔d<4/\R.next d t=some n:=by
 unfold Tafl.Rules.neighbours Tafl.WAYS;rw[QS];constructor
 ·rintro⟨e,he,h⟩
  rw[Rq]at h;obtain⟨m,h1,h2⟩:=h;cases h2;simp at he;exact⟨by omega,h1⟩
 ·rintro⟨h1,h2⟩
  exact⟨d,by simp;omega,by rw[h2];rfl⟩
def mD(R:O1)(q:PL)(hunters:Bool)(o:Option Nat):Bool:=match o with
 |some b=>R.helps hunters (q.on b)||R.against q hunters b
 |none=>false
def GX{R:O1}{q:PL}{ps:List Int}{t:Int}(P:dJ R q ps t){c:Nat}(hc:c<169):(q.on c=.none/\ps.getD c 0=0)\/(q.on c=.hunter/\ps.getD c 0=1)\/(q.on c=.man/\ps.getD c 0=2)\/(q.on c=.king/\ps.getD c 0=3):=by
 have g:=P.on hc;cases h:q.on c with
 |none=>rw[h]at g;exact .inl ⟨rfl,g.symm⟩
 |hunter=>rw[h]at g;exact .inr (.inl ⟨rfl,g.symm⟩)
 |man=>rw[h]at g;exact .inr (.inr (.inl ⟨rfl,g.symm⟩))
 |king=>rw[h]at g;exact .inr (.inr (.inr ⟨rfl,g.symm⟩))
def FK{r:R0}{R:O1}{q:PL}{ps:List Int}{t:Int}(Q:cZ r R)(P:dJ R q ps t){c:Nat}(hc:c<169)(hu:Bool):rX r (ps.getD c 0) (if hu=true then 0 else 1)=R.helps hu (q.on c):=by
 unfold rX Tafl.Rules.helps;rw[Q.ar];rcases GX P hc with⟨k,e⟩|⟨k,e⟩|⟨k,e⟩|⟨k,e⟩<;>rw[k,e]<;>cases hu<;>cases R.armed<;>decide
def held_eq{r:R0}{R:O1}{q:PL}{ps:List Int}{t:Int}(Q:cZ r R)(P:dJ R q ps t){x d:Nat}(hd:d<4)(h1:x%13<R.wide)(h2:x/13<R.high){pc:Int}{hu:Bool}(hm:lP pc=if hu=true then 2 else 1):o8 r ps (dm r.wide r.high x (cF d) (cE d)) pc (if hu=true then 0 else 1)=mD R q hu (R.next d x):=by
 rw[ms Q hd h1 h2];unfold o8 mD;cases hn:R.next d x with
 |none=>rfl
 |some b=>
  obtain⟨b1,b2,b3⟩:=jC hd Q.tT Q.uE h1 h2 hn;show(if((b:Nat):Int)<0 then false else rX r (ps.getD ((b:Nat):Int).toNat 0) _||li r ps ((b:Nat):Int).toNat pc)=_;rw[OV (by omega),Px,FK Q P b1,CQ Q P b1 hm]
def Ir{R:O1}{q:PL}{hu:Bool}{t x:Nat}(hg:¬(hu=false/\q.king=t/\R.armed=false)):x∈R.menTaken q hu t↔∃d,d<4/\R.next d t=some x/\q.on x=(if hu=true then Tafl.Piece.man else .hunter)/\mD R q hu (R.next d x)=true:=by
 unfold Tafl.Rules.menTaken;rw[OV hg,QS];constructor
 ·rintro⟨⟨d,n⟩,hn,h⟩
  obtain⟨d1,d2⟩:=Al.mp hn;dsimp only at h
  by_cases ho:(q.on n==(if hu=true then Tafl.Piece.man else .hunter))=true
  ·rw[OW ho]at h
   have ho:=eq_of_beq ho;cases hb:R.next d n with
   |none=>rw[hb]at h;cases h
   |some b=>
    rw[hb]at h;dsimp only at h;split at h
    ·rename_i hh
     cases h;refine⟨d,d1,d2,ho,?_⟩;rw[hb];show(R.helps hu (q.on b)||R.against q hu b)=true;rw[QO];exact hh
    ·cases h
  ·rw[OV ho]at h
   cases h
 ·rintro⟨d,d1,d2,ho,hh⟩
  refine⟨(d,x),Al.mpr ⟨d1,d2⟩,?_⟩;dsimp only;rw[OW (by rw[ho];simp)];cases hb:R.next d x with
  |none=>rw[hb]at hh;cases hh
  |some b=>
   rw[hb]at hh;dsimp only;rw[OW (by rw[<-QO];exact hh)]
def Ej{R:O1}{q:PL}{c:Nat}:((R.neighbours c).length==4&&(R.neighbours c).all λ(m:Nat×Nat)=>q.on m.2== .hunter||R.against q true m.2)=(List.range 4).all λ(e:Nat)=>mD R q true (R.next e c):=by
 have e4:(List.range 4).all (λ(e:Nat)=>mD R q true (R.next e c))=(mD R q true (R.next 0 c)&&(mD R q true (R.next 1 c)&&(mD R q true (R.next 2 c)&&(mD R q true (R.next 3 c)&&true)))):=rfl;rw[e4];unfold Tafl.Rules.neighbours Tafl.WAYS;cases h0:R.next 0 c<;>cases h1:R.next 1 c<;>cases h2:R.next 2 c<;>cases h3:R.next 3 c<;>simp[h0,h1,h2,h3,mD,Tafl.Rules.helps]
def JB{R:O1}{q:PL}{t:Nat}:R.kingTaken q t=true↔∃d,d<4/\R.next d t=some q.king/\(if R.four=true then(List.range 4).all λ(e:Nat)=>mD R q true (R.next e q.king)else mD R q true (R.next d q.king))=true:=by
 unfold Tafl.Rules.kingTaken;rw[Qk];constructor
 ·rintro⟨⟨d,n⟩,hn,h⟩
  obtain⟨d1,d2⟩:=Al.mp hn;rw[Pe,Qj]at h;obtain⟨hk,h⟩:=h;have hk:n=q.king:=hk;subst hk;refine⟨d,d1,d2,?_⟩
  by_cases hf:R.four=true
  ·rw[OW hf]at h ⊢
   rw[<-Ej];exact h
  ·rw[OV hf]at h ⊢
   dsimp only at h;cases hb:R.next d q.king with
   |none=>rw[hb]at h;exact h
   |some b=>rw[hb]at h;exact h
 ·rintro⟨d,d1,d2,h⟩
  refine⟨(d,q.king),Al.mpr ⟨d1,d2⟩,?_⟩;rw[Pe,Qj];refine⟨rfl,?_⟩
  by_cases hf:R.four=true
  ·rw[OW hf]at h ⊢
   rw[<-Ej]at h;exact h
  ·rw[OV hf]at h ⊢
   dsimp only;cases hb:R.next d q.king with
   |none=>rw[hb]at h;exact h
   |some b=>rw[hb]at h;exact h
def F9{r:R0}{R:O1}(Q:cZ r R)(mv:List Int){t:Nat}(h1:t%13<R.wide)(h2:t/13<R.high)(v:Int):v∈(List.range 4).flatMap (jx r mv t)↔∃d x:Nat,d<4/\R.next d t=some x/\v=((x:Nat):Int)/\de (mv.getD x 0)=1-de (mv.getD t 0)/\kN r mv x d (de (mv.getD t 0))=true:=by
 rw[Qn];constructor
 ·rintro⟨d,hd,h⟩
  have hd:=Pl.mp hd;unfold jx at h;split at h
  ·rename_i hc
   rw[Pj]at h;rw[ms Q hd h1 h2]at hc h;cases hn:R.next d t with
   |none=>
    rw[hn]at hc;exact absurd hc.1 (by decide)
   |some x=>
    rw[hn]at hc h;have ex:(DI (some x)).toNat=x:=Px x;rw[ex]at hc;exact⟨d,x,hd,hn,h,hc.2.1,hc.2.2⟩
  ·cases h
 ·rintro⟨d,x,hd,hn,rfl,e1,e2⟩
  refine⟨d,Pl.mpr hd,?_⟩;unfold jx;rw[ms Q hd h1 h2,hn];have ex:(DI (some x)).toNat=x:=Px x;rw[ex,OW ⟨by show(0:Int)<=((x:Nat):Int);omega,e1,e2⟩];exact Pj.mpr rfl
def Hm{r:R0}{R:O1}(Q:cZ r R)(mv:List Int){t:Nat}(h1:t%13<R.wide)(h2:t/13<R.high):((List.range 4).flatMap (jx r mv t)).Nodup:=by
 have el:∀d v,d<4->v∈jx r mv t d->∃x,R.next d t=some x/\v=((x:Nat):Int):=λd v hd h=>by
  unfold jx at h;split at h
  ·rename_i hc
   rw[Pj]at h;rw[ms Q hd h1 h2]at hc h;cases hn:R.next d t with
   |none=>
    rw[hn]at hc;exact absurd hc.1 (by decide)
   |some x=>
    rw[hn]at h;exact⟨x,rfl,h⟩
  ·cases h
 have nd:∀d,(jx r mv t d).Nodup:=λd=>by
  unfold jx;split
  ·simp
  ·simp
 have dj:∀d d',d<4->d'<4->d≠d'->∀v∈jx r mv t d,∀u∈jx r mv t d',v≠u:=λd d' hd hd' ne v hv u hu e=>by
  obtain⟨x,n1,e1⟩:=el d v hd hv;obtain⟨y,n2,e2⟩:=el d' u hd' hu;have:x=y:=by omega
  subst this;exact ne (DU (xm hd Q.tT Q.uE h1 h2 n1) (xm hd' Q.tT Q.uE h1 h2 n2))
 have e:(List.range 4).flatMap (jx r mv t)=jx r mv t 0++(jx r mv t 1++(jx r mv t 2++(jx r mv t 3++[]))):=rfl;rw[e,PU];refine Q9.mpr ⟨nd 0,Q9.mpr ⟨nd 1,Q9.mpr ⟨nd 2,nd 3,dj 2 3 (by decide) (by decide) (by decide)⟩,λv hv u hu=>?_⟩,λv hv u hu=>?_⟩
 ·rcases Pk.mp hu with z|z
  ·exact dj 1 2 (by decide) (by decide) (by decide) v hv u z
  ·exact dj 1 3 (by decide) (by decide) (by decide) v hv u z
 ·rcases Pk.mp hu with z|z
  ·exact dj 0 1 (by decide) (by decide) (by decide) v hv u z
  ·rcases Pk.mp z with z|z
   ·exact dj 0 2 (by decide) (by decide) (by decide) v hv u z
   ·exact dj 0 3 (by decide) (by decide) (by decide) v hv u z
def pG{r:R0}{R:O1}{p:PL}{ps:List Int}{tn:Int}(Q:cZ r R)(P:dJ R p ps tn){s t:Nat}(M:Df R ps tn s t):bW r (bb ps s t) t=iL (R.takes p (s,t)):=by
 have Pq:=shift_pos Q P M;have mt:(bb ps s t).getD t 0=ps.getD s 0:=by rw[BS P.wf M.s1 M.t1,OV (Pb M.ne),OW rfl]
 have kq:∀x,x<169->((p.shifted (s,t)).king=x↔(bb ps s t).getD x 0=3):=λx hx=>by
  rcases Pq.k with⟨k1,k2⟩|⟨k1,k2,k3⟩
  ·exact⟨λe=>by omega,λe=>absurd e (k2 x hx)⟩
  ·exact⟨λe=>by rw[<-e];exact k2,λe=>(k3 x hx e).symm⟩
 have sd:de ((bb ps s t).getD t 0)=tn:=by rw[mt];exact M.sd
 unfold bW Tafl.Rules.takes Tafl.GONE;dsimp only;rw[Q.ar];generalize hq:p.shifted (s,t)=q at*;generalize hmv:bb ps s t=mv at*
 by_cases hgd:mv.getD t 0=3/\b2i R.armed=0
 ·rw[OW hgd]
  have ha:R.armed=false:=by
   cases h:R.armed with
   |false=>rfl
   |true=>have:=hgd.2;rw[h]at this;cases this
  have s1:p.side=1:=by
   rw[hgd.1,P.sd]at sd;have:((p.side:Nat):Int)=1:=sd.symm;omega
  have hs:(p.side==0)=false:=by rw[s1];rfl
  have em:R.menTaken q false t=[]:=by
   unfold Tafl.Rules.menTaken;rw[OW ⟨rfl,(kq t M.t1).mpr hgd.1,ha⟩]
  rw[hs,em];simp[iL]
 ·rw[OV hgd]
  refine Be (Hm Q mv M.w M.h) (λv hv=>?_) _ λx hx=>?_
  ·obtain⟨d,x,hd,hn,e,_⟩:=(F9 Q mv M.w M.h v).mp hv
   have:=jC hd Q.tT Q.uE M.w M.h hn;exact⟨x,e,by omega⟩
  ·rw[F9 Q mv M.w M.h,QO,Q6,Pe,Qj,sd]
   have hg:¬((p.side==0)=false/\q.king=t/\R.armed=false):=λz=>hgd ⟨(kq t M.t1).mp z.2.1,by rw[z.2.2];rfl⟩;rw[Ir hg];rcases P.HG with s0|s1
   ·have hs:(p.side==0)=true:=by rw[s0];rfl
    have tn0:tn=0:=by rw[P.sd,s0];rfl
    rw[hs,tn0,Pe,JB];constructor
    ·rintro(⟨d,d1,d2,ho,hh⟩|⟨⟨_,d,d1,d2,hh⟩,rfl⟩)
     ·obtain⟨x1,x2,x3⟩:=jC d1 Q.tT Q.uE M.w M.h d2
      have e2:mv.getD x 0=2:=by rw[<-Pq.on x1,ho];rfl
      refine⟨d,x,d1,d2,rfl,by rw[e2];rfl,?_⟩;unfold kN;rw[e2,OV (λz=>by cases z.1)];exact(held_eq Q Pq d1 x2 x3 (pc:=2) (hu:=true) rfl).trans hh
     ·obtain⟨x1,x2,x3⟩:=jC d1 Q.tT Q.uE M.w M.h d2
      have e3:mv.getD q.king 0=3:=(kq _ x1).mp rfl;refine⟨d,q.king,d1,d2,rfl,by rw[e3];rfl,?_⟩;unfold kN;rw[e3,Q.fo];have he:∀e,e<4->o8 r mv (dm r.wide r.high q.king (cF e) (cE e)) 3 0=mD R q true (R.next e q.king):=λe he=>held_eq Q Pq he x2 x3 (pc:=3) (hu:=true) rfl;cases hf:R.four with
      |true=>
       rw[hf,OW rfl]at hh;rw[OW ⟨rfl,rfl⟩];rw[QI]at hh ⊢;exactλe hm=>by rw[he e (Pl.mp hm)];exact hh e hm
      |false=>
       rw[hf,OV O3]at hh;rw[OV (λz=>by cases z.2),he d d1];exact hh
    ·rintro⟨d,y,d1,d2,e,hs2,hk⟩
     have e:y=x:=by omega
     subst e;obtain⟨x1,x2,x3⟩:=jC d1 Q.tT Q.uE M.w M.h d2;obtain⟨v0,v3⟩:=Pq.wf.val y;have cs:mv.getD y 0=2\/mv.getD y 0=3:=by
      unfold de at hs2;split at hs2
      ·cases hs2
      ·split at hs2
       ·cases hs2
       ·omega
     rcases cs with e2|e3
     ·left
      refine⟨d,d1,d2,?_,?_⟩
      ·rw[OW rfl]
       exact eX ((Pq.on x1).trans e2)
      ·unfold kN at hk
       rw[e2,OV (λz=>by cases z.1)]at hk;exact(held_eq Q Pq d1 x2 x3 (pc:=2) (hu:=true) rfl).symm.trans hk
     ·right
      have ky:=(kq y x1).mpr e3;subst ky;refine⟨⟨rfl,d,d1,d2,?_⟩,rfl⟩;unfold kN at hk;rw[e3,Q.fo]at hk;have he:∀e,e<4->o8 r mv (dm r.wide r.high q.king (cF e) (cE e)) 3 0=mD R q true (R.next e q.king):=λe he=>held_eq Q Pq he x2 x3 (pc:=3) (hu:=true) rfl;cases hf:R.four with
      |true=>
       rw[OW rfl];rw[hf,OW ⟨rfl,rfl⟩]at hk;rw[QI]at hk ⊢;exactλe hm=>by rw[<-he e (Pl.mp hm)];exact hk e hm
      |false=>
       rw[OV O3,<-he d d1];rw[hf,OV (λz=>by cases z.2)]at hk;exact hk
   ·have hs:(p.side==0)=false:=by rw[s1];rfl
    have tn1:tn=1:=by rw[P.sd,s1];rfl
    rw[hs,tn1];constructor
    ·rintro(⟨d,d1,d2,ho,hh⟩|⟨z,_⟩)
     ·obtain⟨x1,x2,x3⟩:=jC d1 Q.tT Q.uE M.w M.h d2
      have e1:mv.getD x 0=1:=by rw[<-Pq.on x1,ho];rfl
      refine⟨d,x,d1,d2,rfl,by rw[e1];rfl,?_⟩;unfold kN;rw[e1,OV (λz=>by cases z.1)];exact(held_eq Q Pq d1 x2 x3 (pc:=1) (hu:=false) rfl).trans hh
     ·cases z
    ·rintro⟨d,y,d1,d2,e,hs2,hk⟩
     have e:y=x:=by omega
     subst e;obtain⟨x1,x2,x3⟩:=jC d1 Q.tT Q.uE M.w M.h d2;have e1:mv.getD y 0=1:=by
      unfold de at hs2;split at hs2
      ·cases hs2
      ·split at hs2
       ·assumption
       ·cases hs2
     left
     refine⟨d,d1,d2,?_,?_⟩
     ·exact eX ((Pq.on x1).trans e1)
     ·unfold kN at hk
      rw[e1,OV (λz=>by cases z.1)]at hk;exact(held_eq Q Pq d1 x2 x3 (pc:=1) (hu:=false) rfl).symm.trans hk
def Bh:∀(l:List Nat)(mv:List Int)(c:Nat),(∀x∈l,x<mv.length)->(mU mv (iL l)).getD c 0=if c∈l then 0 else mv.getD c 0
 |[],_,_,_=>rfl
 |x::l,mv,c,h=>by
  have hx:=h x O8;show(mU (mv.set ((x:Nat):Int).toNat 0) (iL l)).getD c 0=_;rw[Bh l _ c (λy hy=>by rw[QN];exact h y (Pa _ hy)),Px,k_]
  by_cases h1:c∈l
  ·rw[OW h1,OW (Pa _ h1)]
  ·rw[OV h1]
   by_cases h2:x=c
   ·rw[OW (show x=c/\x<mv.length from⟨h2,hx⟩),OW (by rw[h2];exact O8)]
   ·rw[OV (show¬(x=c/\x<mv.length)fromλz=>h2 z.1),OV (λz=>by
     rcases Po.mp z with z|z
     ·exact h2 z.symm
     ·exact h1 z)]
def Bb{r:R0}{R:O1}{p:PL}{ps:List Int}{tn:Int}(Q:cZ r R)(P:dJ R p ps tn){s t:Nat}(M:Df R ps tn s t){x:Nat}(h:x∈R.takes p (s,t)):x<169:=by
 have hm:((x:Nat):Int)∈bW r (bb ps s t) t:=by
  rw[pG Q P M];exact Pg.mpr ⟨x,h,rfl⟩
 obtain⟨c,e,c1⟩:=jM Q.wf M.t1 hm;omega
def kG{r:R0}{R:O1}{p:PL}{ps:List Int}{tn:Int}(Q:cZ r R)(P:dJ R p ps tn){s t:Nat}(M:Df R ps tn s t):dJ R (R.comes p (s,t)) (bA r ps s t) (1-tn):=by
 have Pq:=shift_pos Q P M;have tl:=λ{x}=>Bb Q P M (x:=x);have W:=P.wf.after r s t;have at_:∀c,(bA r ps s t).getD c 0=if c∈R.takes p (s,t)then 0 else(bb ps s t).getD c 0:=λc=>by
  unfold bA;rw[pG Q P M];exact Bh _ _ c λx hx=>by rw[Pq.wf.len];exact tl hx
 unfold Tafl.Rules.comes;dsimp only;generalize hq:p.shifted (s,t)=q at*;generalize bb ps s t=mv at*;generalize R.takes p (s,t)=l at*;have cn:∀c,(!l.contains c)=true↔c∉l:=λc=>by simp
 refine⟨W,Pq.sd,Pq.HG,λc=>?_,λc=>?_,?_,λc hc hz=>?_⟩
 ·show(Tafl.setFrom ((Tafl.cellsIn q.hunters).filter λ(c:Nat)=> !l.contains c)).testBit c=true↔_
  rw[qm,PR,mh,Pq.h c,cn,at_]
  by_cases h:c∈l
  ·rw[OW h]
   exact⟨λz=>absurd h z.2,λz=>by cases z.2⟩
  ·rw[OV h]
   exact⟨λz=>z.1.2,λz=>⟨⟨by omega,z⟩,h⟩⟩
 ·show(Tafl.setFrom ((Tafl.cellsIn q.men).filter λ(c:Nat)=> !l.contains c)).testBit c=true↔_
  rw[qm,PR,mh,Pq.m c,cn,at_]
  by_cases h:c∈l
  ·rw[OW h]
   exact⟨λz=>absurd h z.2,λz=>by cases z.2⟩
  ·rw[OV h]
   exact⟨λz=>z.1.2,λz=>⟨⟨by omega,z⟩,h⟩⟩
 ·show((if l.contains q.king=true then Tafl.TAKEN else q.king)=255/\_)\/((if l.contains q.king=true then Tafl.TAKEN else q.king)<169/\_)
  have sub:∀c,c<169->(bA r ps s t).getD c 0=3->c∉l/\mv.getD c 0=3:=λc hc e=>by
   rw[at_]at e
   by_cases h:c∈l
   ·rw[OW h]at e
    cases e
   ·rw[OV h]at e
    exact⟨h,e⟩
  by_cases hk:q.king∈l
  ·rw[OW (Q6.mpr hk)]
   refine .inl ⟨rfl,λc hc e=>?_⟩;obtain⟨n1,n2⟩:=sub c hc e;rcases Pq.k with⟨k1,k2⟩|⟨k1,k2,k3⟩
   ·exact k2 c hc n2
   ·exact n1 (by rw[k3 c hc n2];exact hk)
  ·rw[OV (λz=>hk (Q6.mp z))]
   rcases Pq.k with⟨k1,k2⟩|⟨k1,k2,k3⟩
   ·exact .inl ⟨k1,λc hc e=>k2 c hc (sub c hc e).2⟩
   ·exact .inr ⟨k1,by rw[at_,OV hk];exact k2,λc hc e=>k3 c hc (sub c hc e).2⟩
 ·rw[at_]at hz
  by_cases h:c∈l
  ·rw[OW h]at hz
   exact absurd rfl hz
  ·rw[OV h]at hz
   exact Pq.g c hc hz
def Gn{r:R0}{R:O1}{p:PL}{ps:List Int}{tn:Int}(Q:cZ r R)(P:dJ R p ps tn){s t:Nat}(M:Df R ps tn s t):rowOf r ps tn s t=Tafl.asInts (TaflMoves.toldMove R p (s,t)):=by
 unfold rowOf TaflMoves.toldMove Tafl.asInts;rw[sP Q (kG Q P M),pG Q P M];rfl
inductive RP(r:R0)(R:O1):List RE->List PL->Prop
 |nil:RP r R [] []
 |cons {e:RE} {q:PL} {l:List RE} {m:List PL}:dJ R q (bA r e.1 e.2.2.1 e.2.2.2) (1-e.2.1)->RP r R l m->RP r R (e::l) (q::m)
def RP.append{r:R0}{R:O1}{l l':List RE}{m m':List PL}(h:RP r R l m)(h':RP r R l' m'):RP r R (l++l') (m++m'):=by
 induction h with
 |nil=>exact h'
 |cons a _ ih=>exact .cons a ih
def RP.ofMap{r:R0}{R:O1}{p:PL}{ps:List Int}{t:Int}:∀(l:List (Nat×Nat)),(∀e∈l,dJ R (R.comes p e) (bA r ps e.1 e.2) (1-t))->RP r R (l.map λ(e:Nat×Nat)=>(ps,t,e.1,e.2)) (l.map λ(e:Nat×Nat)=>R.comes p e)
 |[],_=>.nil
 |e::l,h=>.cons (h e O8) (RP.ofMap l λx hx=>h x (Pa _ hx))
def Dj{r:R0}{R:O1}{p:PL}{ps:List Int}{t:Int}(Q:cZ r R)(P:dJ R p ps t):RP r R (ji r ps t) ((R.moves p).map λ(m:Nat×Nat)=>R.comes p m):=by
 unfold ji;rw[<-nL Q P];exact RP.ofMap _ λe he=>kG Q P (zj Q P (s:=e.1) (t:=e.2) he)
def Bo{r:R0}{R:O1}{p:PL}{ps:List Int}{t:Int}(Q:cZ r R)(P:dJ R p ps t):(ji r ps t).length=(R.moves p).length:=by
 unfold ji;rw[OU,nL Q P]
def iH(r:R0)(rows:List RE):List RE:=rows.flatMap λ(e:RE)=>ji r (bA r e.1 e.2.2.1 e.2.2.2) (1-e.2.1)
def Js{r:R0}{R:O1}(Q:cZ r R){rows:List RE}{Ps:List PL}(h:RP r R rows Ps):RP r R (iH r rows) (Ps.flatMap λ(p:PL)=>(R.moves p).map λ(m:Nat×Nat)=>R.comes p m):=by
 induction h with
 |nil=>exact .nil
 |cons a _ ih=>
  unfold iH at ih ⊢;rw[Qe,Qe];exact(Dj Q a).append ih
def foldl_add(l:List Nat):∀a,l.foldl (λ(a b:Nat)=>a+b) a=a+l.sum:=by
 induction l with
 |nil=>simp
 |cons x l ih=>
  intro a;rw[QB,ih,Rn];omega
def Gq{r:R0}{R:O1}(Q:cZ r R){rows:List RE}{Ps:List PL}(h:RP r R rows Ps):(iH r rows).length=(Ps.map λ(p:PL)=>(R.moves p).length).foldl (λ(a b:Nat)=>a+b) 0:=by
 rw[foldl_add,Nat.zero_add]
 induction h with
 |nil=>rfl
 |cons a _ ih=>
  unfold iH at ih ⊢;rw[Qe,Pd,PY,Rn,ih,Bo Q a]
def vm(r:R0)(m:Nat):∀(rows acc:List RE),(acc.length+(iH r rows).length<=m->eD r m rows acc=acc++iH r rows)/\(m<acc.length+(iH r rows).length->m<(eD r m rows acc).length)
 |[],acc=>⟨λ_=>by simp[eD,iH],λh=>by simpa[eD,iH]using h⟩
 |e::rows,acc=>by
  obtain⟨i1,i2⟩:=vm r m rows (acc++ji r (bA r e.1 e.2.2.1 e.2.2.2) (1-e.2.1));have ef:iH r (e::rows)=ji r (bA r e.1 e.2.2.1 e.2.2.2) (1-e.2.1)++iH r rows:=by
   unfold iH;rw[Qe]
  rw[Pd]at i1 i2;rw[ef,Pd];unfold eD
  by_cases h:m<acc.length
  ·rw[OW h]
   exact⟨λz=>by omega,λ_=>h⟩
  ·rw[OV h]
   refine⟨λz=>?_,λz=>i2 (by omega)⟩;rw[i1 (by omega),P9]
def wI{r:R0}{R:O1}(Q:cZ r R)(most:Nat):∀(f:Nat)(rows:List RE)(Ps:List PL)(cs:List Int),RP r R rows Ps->0<=cs.sum->cs.sum<=((most:Nat):Int)->
  (∀l,TaflMoves.counts R f (most-cs.sum.toNat) Ps=some l->jX r most f rows cs=cs++iL l/\(cs++iL l).sum<=((most:Nat):Int))/\(TaflMoves.counts R f (most-cs.sum.toNat) Ps=none->((most:Nat):Int)<(jX r most f rows cs).sum)
 |0,rows,Ps,cs,h,h0,h1=>by
  refine⟨λl e=>?_,λe=>by cases e⟩;cases e;exact⟨(PU cs).symm,by show(cs++[]).sum<=_;rw[PU];exact h1⟩
 |f+1,rows,Ps,cs,h,h0,h1=>by
  obtain⟨g1,g2⟩:=vm r (most-cs.sum.toNat) rows [];rw[List.length_nil,Nat.zero_add]at g1 g2;have fl:=Gq Q h;unfold TaflMoves.counts;dsimp only;rw[<-fl];unfold jX;rw[OW h1]
  by_cases hc:most-cs.sum.toNat<(iH r rows).length
  ·rw[OW hc]
   refine⟨λl e=>(by cases e),λ_=>?_⟩;have g2:=g2 hc;generalize eD r (most-cs.sum.toNat) rows []=L at*;have es:((most:Nat):Int)<(cs++[((L.length:Nat):Int)]).sum:=by
    rw[List.sum_append,Rn,List.sum_nil];omega
   cases f with
   |zero=>exact es
   |succ f=>
    unfold jX;rw[OV (by omega)];exact es
  ·rw[OV hc,g1 (by omega),Qt]
   have es:(cs++[(((iH r rows).length:Nat):Int)]).sum=cs.sum+(((iH r rows).length:Nat):Int):=by
    rw[List.sum_append,Rn,List.sum_nil];omega
   obtain⟨i1,i2⟩:=wI Q most f (iH r rows) _ (cs++[(((iH r rows).length:Nat):Int)]) (Js Q h) (by omega) (by omega);have er:most-cs.sum.toNat-(iH r rows).length=most-(cs++[(((iH r rows).length:Nat):Int)]).sum.toNat:=by omega
   rw[er];refine⟨λl e=>?_,λe=>?_⟩
   ·rw[Rq]at e
    obtain⟨l',e1,rfl⟩:=e;obtain⟨j1,j2⟩:=i1 l' e1;rw[P9]at j1 j2;exact⟨j1,j2⟩
   ·rw[Option.map_eq_none_iff]at e
    exact i2 e
def count_eq{r:R0}{R:O1}{p:PL}{ps:List Int}{t:Int}(Q:cZ r R)(P:dJ R p ps t){n most:Nat}(hn:1<=n):(∀l,TaflMoves.counts R n most [p]=some l->countOf r ps t n most=iL l/\(countOf r ps t n most).sum<=((most:Nat):Int))/\(TaflMoves.counts R n most [p]=none->((most:Nat):Int)<(countOf r ps t n most).sum):=by
 obtain⟨n,rfl⟩:∃m,n=m+1:=⟨n-1,by omega⟩;unfold countOf;rw[Nat.add_sub_cancel,Bo Q P];unfold TaflMoves.counts;have ec:(([p]:List PL).map λ(p:PL)=>(R.moves p).length).foldl (λ(a b:Nat)=>a+b) 0=(R.moves p).length:=by simp
 have ef:([p]:List PL).flatMap (λ(p:PL)=>(R.moves p).map λ(m:Nat×Nat)=>R.comes p m)=(R.moves p).map λ(m:Nat×Nat)=>R.comes p m:=by simp
 dsimp only;rw[ec,ef];have es:([(((R.moves p).length:Nat):Int)]:List Int).sum=(((R.moves p).length:Nat):Int):=by simp
 by_cases hc:most<(R.moves p).length
 ·rw[OW hc]
  refine⟨λl e=>(by cases e),λ_=>?_⟩;cases n with
  |zero=>
   show _<([(((R.moves p).length:Nat):Int)]:List Int).sum;omega
  |succ n=>
   unfold jX;rw[OV (by omega),es];omega
 ·rw[OV hc]
  obtain⟨i1,i2⟩:=wI Q most n (ji r ps t) _ [(((R.moves p).length:Nat):Int)] (Dj Q P) (by omega) (by omega);have er:most-(R.moves p).length=most-([(((R.moves p).length:Nat):Int)]:List Int).sum.toNat:=by omega
  rw[er];refine⟨λl e=>?_,λe=>?_⟩
  ·rw[Rq]at e
   obtain⟨l',e1,rfl⟩:=e;obtain⟨j1,j2⟩:=i1 l' e1;rw[j1];exact⟨rfl,j2⟩
  ·rw[Option.map_eq_none_iff]at e
   exact i2 e
def lD{α β:Type}{l:List α}{f g:α->List β}(h:∀x∈l,f x=g x):l.flatMap f=l.flatMap g:=by
 induction l with
 |nil=>rfl
 |cons x l ih=>rw[Qe,Qe,h x O8,ih λy hy=>h y (Pa _ hy)]
def dS(x y:Str):codes (x++y)=codes x++codes y:=by
 unfold codes;have:=TL.tU x y;unfold TL.tl at this;rw[this,Pn]
def vS(x y:O_):bD (x++y)=bD x++bD y:=by
 unfold bD;rw[Pn]
def Il{x y:O_}(h:bD x=bD y):x=y:=by
 unfold bD at h
 induction x generalizing y with
 |nil=>cases y with
  |nil=>rfl
  |cons _ _=>cases h
 |cons a x ih=>cases y with
  |nil=>cases h
  |cons b y=>
   injection h with h1 h2;have h1:((a.toNat:Nat):Int)=((b.toNat:Nat):Int):=h1;have hab:a=b:=QV.mp (by omega);rw[ih h2,hab]
def F2{n:Nat}(h1:0<n)(h:n<=13):codes ((toString ((n:Nat):Int):String):Str)=bD (Tafl.digitsOf n):=by
 have all:∀m:Fin 14,0<m.val->codes ((toString ((m.val:Nat):Int):String):Str)=bD (Tafl.digitsOf m.val):=by decide+kernel
 exact all ⟨n,by omega⟩ h1
def zy:codes ""=[]:=by decide+kernel
def w8{n:Nat}(h:n<=13):codes (kY n)=bD (if n=0 then[]else Tafl.digitsOf n):=by
 unfold kY
 by_cases h0:n=0
 ·rw[OV (by omega),OW h0]
  exact zy
 ·rw[OW (by omega),OV h0]
  exact F2 (by omega) h
def CM(x:Pz):codes (D_ (dM x))=[((Tafl.pieceByte x).toNat:Int)]:=by cases x<;>decide+kernel
def xR:∀(L:List Pz)(tx:Str)(n:Nat),n+L.length<=13->codes (((L.map dM).foldl cG (tx,n)).1++kY ((L.map dM).foldl cG (tx,n)).2)=codes tx++bD (Tafl.rowLine n L)
 |[],tx,n,h=>by
  show codes (tx++kY n)=_;rw[dS,w8 (by simpa using h)];rfl
 |x::L,tx,n,h=>by
  rw[Pt]at h;rw[PY,QB];unfold Tafl.rowLine
  by_cases hx:x=.none
  ·subst hx
   have e:cG (tx,n) (dM .none)=(tx,n+1):=rfl;rw[e,xR L tx (n+1) (by omega),OW rfl]
  ·have e:cG (tx,n) (dM x)=(tx++(kY n++D_ (dM x)),0):=by
    unfold cG;rw[OV (show¬dM x=0 fromλz=>hx (eX (y:= .none) z))]
   rw[e,xR L _ 0 (by omega),OV hx,dS,dS,w8 (by omega),CM,vS,P9,P9];rfl
def EA{L:List Pz}(h:L.length<=13):codes (fJ (L.map dM))=bD (Tafl.rowLine 0 L):=by
 have:=xR L "" 0 (by omega);unfold fJ;rw[zy,Qt]at this;exact this
def xX{α β:Type}(f:α->List β){w:Nat}(hf:∀y,(f y).length=w):∀(L:List α)(i:Nat)(x:α),L[i]? =some x->((L.flatMap f).drop (w*i)).take w=f x
 |[],_,_,h=>by simp at h
 |y::L,0,x,h=>by
  cases h;rw[Nat.mul_zero,List.drop_zero,Qe,List.take_append_of_le_length (by rw[hf];exact OZ _),PB (by rw[hf];exact OZ _)]
 |y::L,i+1,x,h=>by
  have e:w*(i+1)=(f y).length+w*i:=by rw[hf,QU,Nat.add_comm]
  rw[Qe,e,List.drop_length_add_append];exact xX f hf L i x (by simpa using h)
def Ez{r:R0}{R:O1}{p:PL}{ps:List Int}{t:Int}(Q:cZ r R)(P:dJ R p ps t){i:Nat}(hi:i<R.high):rowAt r ps i=(R.rowOf p (R.high-1-i)).map dM:=by
 unfold rowAt uX bt;rw[Q.w,Q.h,Q0];rw[xX (λ(j:Nat)=>((List.range R.wide).map λ(x:Nat)=>((13*(R.high-1-j)+x:Nat):Int)).map λ(c:Int)=>ps.getD c.toNat 0) (w:=R.wide) (λj=>by rw[OU,OU,Qc]) (List.range R.high) i i (RF hi)];unfold Tafl.Rules.rowOf;rw[Qa,Qa];refine QP λx hx=>?_;have hx:=Pl.mp hx;have:=Q.tT;have:=Q.uE;show ps.getD ((13*(R.high-1-i)+x:Nat):Int).toNat 0=dM (p.on (Tafl.cellOf x (R.high-1-i)));rw[Px];exact(P.on (c:=13*(R.high-1-i)+x) (by omega)).symm
def xG(S:List Nat)(x:List Nat):∀l,TL.zu S (x::l)=x++l.flatMap λ(y:List Nat)=>S++y
 |[]=>by simp[TL.zu]
 |y::l=>by
  show x++(S++TL.zu S (y::l))=_;rw[xG S y l,Qe,P9]
def yC(S:Str)(x:Str)(l:List Str):codes (Txt.join S (x::l))=codes x++l.flatMap λ(y:Str)=>codes S++codes y:=by
 rw[TL.join_eq];unfold codes;have:=TL.Es S (x::l);unfold TL.tl at this;rw[this,PY,xG,Pn,Q0,QR];simp only[Pn]
def Ee{r:R0}{R:O1}{p:PL}{ps:List Int}{t:Int}(Q:cZ r R)(P:dJ R p ps t):codes (fN r ps t)=bD (R.line p):=by
 unfold fN Tafl.Rules.line;rw[dS,dS,vS,Q.h,P9]
 congr 1
 ·have h5:=Q.h5
  obtain⟨n,hn⟩:∃n,R.high=n+1:=⟨R.high-1,by omega⟩;have rw1:∀i,i<R.high->codes (fJ (rowAt r ps i))=bD (Tafl.rowLine 0 (R.rowOf p (R.high-1-i))):=λi hi=>by
   rw[Ez Q P hi];exact EA (by unfold Tafl.Rules.rowOf;rw[OU,Qc];exact Q.tT)
  have es:List.range R.high=0::(List.range n).map (·+1):=by rw[hn,Q1]
  rw[es,PY,yC,Qe,vS,OW rfl,Qt,rw1 0 (by omega),Qa,QR,QR]
  congr 1
  unfold bD;rw[Q0];refine lD λi hi=>?_;have hi:=Pl.mp hi;have e47:codes "/"=[47]:=by decide+kernel
  show codes "/"++codes (fJ (rowAt r ps (i+1)))=_;rw[rw1 (i+1) (by omega),e47,OV (by omega),Pn];rfl
 ·rcases P.HG with s|s
  ·rw[P.sd,s]
   decide+kernel
  ·rw[P.sd,s]
   decide+kernel
def vY{c:Nat}(h:c<169):codes (jh c)=bD (Tafl.cellName c):=by
 unfold jh Tafl.cellName Tafl.STRIDE;rw[dS,F2 (by omega) (by omega)];unfold bD;rw[PY];have e:(UInt8.ofNat (97+c%13)).toNat=97+c%13:=by
  rw[UInt8.toNat_ofNat'];omega
 rw[e];rfl
def xL(f:Nat->O_):∀(l:List Nat)(b:O_),l.foldl (λ(b:O_)(c:Nat)=>b++f c) b=b++l.flatMap f
 |[],b=>by simp
 |c::l,b=>by rw[QB,xL f l,Qe,P9]
def JK{r:R0}{R:O1}{p:PL}{ps:List Int}{tn:Int}(Q:cZ r R)(P:dJ R p ps tn){s t:Nat}(M:Df R ps tn s t):codes (sW r ps tn s t)=bD (R.moveLine p (s,t)):=by
 unfold sW Tafl.Rules.moveLine;rw[pG Q P M,sP Q (kG Q P M)];have tl:=λ{x}=>Bb Q P M (x:=x);have ob:=AY r (bA r ps s t) (1-tn);rw[sP Q (kG Q P M)]at ob;dsimp only;generalize R.takes p (s,t)=l at*;generalize R.over (R.comes p (s,t))=o at*;have e1:codes (j9 s t)=bD (Tafl.cellName s++(45::Tafl.cellName t)):=by
  unfold j9;have e:codes "-"=[45]:=by decide+kernel
  rw[dS,dS,vY M.s1,vY M.t1,e,vS,P9];rfl
 have e2:codes (jn s t (iL l))=bD (Tafl.cellName s++(45::(Tafl.cellName t++(if l=[]then[]else 120::((l.drop 1).foldl (λ(b:O_)(c:Nat)=>b++(44::Tafl.cellName c)) (Tafl.cellName (l.headD 0))))))):=by
  unfold jn;cases l with
  |nil=>
   rw[OV (by decide),OW rfl,e1,PU]
  |cons x l=>
   rw[OW (by show 0<(iL (x::l)).length;unfold iL;simp),OV (by simp)];have ex:codes "x"=[120]:=by decide+kernel
   have ek:codes ","=[44]:=by decide+kernel
   rw[dS,dS,e1,ex];unfold oq iL;rw[Qa,PY,yC,ek];show bD _++([120]++(codes (jh ((x:Nat):Int).toNat)++_))=_;rw[Px,vY (tl O8),QR];show _=bD (Tafl.cellName s++(45::(Tafl.cellName t++(120::(l.foldl (λ(b:O_)(c:Nat)=>b++(44::Tafl.cellName c)) (Tafl.cellName x))))));rw[xL (λc=>44::Tafl.cellName c)];have ef:l.flatMap (λ(c:Nat)=>[(44:Int)]++codes (jh ((c:Nat):Int).toNat))=bD (l.flatMap λ(c:Nat)=>(44:UInt8)::Tafl.cellName c):=by
    unfold bD;rw[Q0];refine lD λc hc=>?_;rw[Px,vY (tl (Pa _ hc))];rfl
   have ef2:(l.flatMap (λa=>[(44:Int)]++codes (((λ(c:Int)=>jh c.toNat)∘λ(x:Nat)=>((x:Nat):Int)) a)))=l.flatMap (λ(c:Nat)=>[(44:Int)]++codes (jh ((c:Nat):Int).toNat)):=rfl;rw[ef2,ef];unfold bD;simp
 unfold p8
 by_cases h0:o=0
 ·rw[OV (by omega),e2,OW h0,PU]
 ·rw[OW (by omega),dS,dS,e2,OV h0]
  have eh:codes "#"=[35]:=by decide+kernel
  have eo:codes ((toString ((o:Nat):Int):String):Str)=[((48+o:Nat):Int)]/\(UInt8.ofNat (48+o)).toNat=48+o:=by
   have:o=1\/o=2\/o=3:=by omega
   rcases this with rfl|rfl|rfl<;>exact⟨by decide+kernel,by decide⟩
  rw[eh,eo.1];unfold bD;simp;omega
def z4:∀(x y:O_),d_ (bD x) (bD y)=Tafl.common y x
 |[],[]=>rfl
 |[],_::_=>rfl
 |_::_,[]=>rfl
 |a::x,b::y=>by
  show(if((a.toNat:Nat):Int)=((b.toNat:Nat):Int)then d_ (bD x) (bD y)+1 else 0)=if b=a then Tafl.common y x+1 else 0;rw[z4 x y]
  by_cases h:b=a
  ·rw[OW (by rw[h]),OW h]
  ·rw[OV (λz=>h (QV.mp (by omega))),OV h]
def FX{α:Type}(f:α->Nat):∀(l:List α)(b:Nat),l.foldl (λ(b:Nat)(e:α)=>max b (f e)) b=max b ((l.map f).foldr (λ(a b:Nat)=>max a b) 0)
 |[],b=>by simp
 |e::l,b=>by
  rw[QB,FX f l,PY,List.foldr_cons];omega
def yD{α:Type}{l:List α}{p q:α->Bool}(h:∀x∈l,p x=q x):l.find? p=l.find? q:=by
 induction l with
 |nil=>rfl
 |cons x l ih=>
  rw[List.find?_cons,List.find?_cons,h x O8,ih λy hy=>h y (Pa _ hy)]
def HZ{r:R0}{R:O1}{p:PL}{ps:List Int}{tn:Int}(Q:cZ r R)(P:dJ R p ps tn)(b:O_):(match(aQ r ps tn).find? λ(e:Nat×Nat)=>eR r ps tn e==bD b with
  |some e=>Except.ok e
  |none=>Except.error (wX r ps tn (bD b) (aQ r ps tn)))=R.readMove p b:=by
 have lo:∀e∈aQ r ps tn,eR r ps tn e=bD (R.moveLine p e):=λe he=>JK Q P (zj Q P (s:=e.1) (t:=e.2) he);unfold Tafl.Rules.readMove;rw[<-nL Q P];have ef:(aQ r ps tn).find? (λ(e:Nat×Nat)=>eR r ps tn e==bD b)=(aQ r ps tn).find? (λ(m:Nat×Nat)=>R.moveLine p m==b):=yD λe he=>by
  rw[lo e he,Qg,Qj,Qj];exact⟨Il,λz=>by rw[z]⟩
 rw[ef];cases(aQ r ps tn).find? (λ(m:Nat×Nat)=>R.moveLine p m==b)with
 |some e=>rfl
 |none=>
  dsimp only
  congr 1
  unfold wX;rw[FX,Nat.zero_max]
  congr 1
  refine QP λe he=>?_;rw[lo e he,z4]
def cu(b:O_)(n:Nat):Tafl.Cur:=⟨b.drop n,n⟩
def hJ(b:O_)(n:Nat):(cu b n).next=b[n]? :=by
 unfold cu Tafl.Cur.next;rw[List.head?_drop]
def oV(b:O_)(n:Nat):(cu b n).on=cu b (n+1):=by
 unfold cu Tafl.Cur.on;rw[List.drop_drop]
def ui(b:O_)(n:Nat):(bD b)[n]? =(b[n]?).map λ(c:UInt8)=>((c.toNat:Nat):Int):=by
 unfold bD;rw[Ph]
def sx(z:Str)(x:Int):Option Nat:=z.cps.toList.findIdx? λ(c:Nat)=>decide ((c:Int)=x)
def iO(z:Str)(b:O_)(n:Nat):cN z (bD b) n=(b[n]?).bind λ(c:UInt8)=>sx z ((c.toNat:Nat):Int):=by
 unfold cN;rw[ui];cases b[n]? <;>rfl
def xn(z:Str)(b:O_)(n:Nat):bd z (bD b) n=((b[n]?).bind λ(c:UInt8)=>sx z ((c.toNat:Nat):Int)).isSome:=by
 unfold bd;rw[ui];cases h:b[n]? with
 |none=>
  show(z.cps.toList.any λ(c:Nat)=>(none:Option Int)==some (c:Int))=false;rw[QL];intro c _;exact O3
 |some x=>
  show(z.cps.toList.any λ(c:Nat)=>some ((x.toNat:Nat):Int)==some (c:Int))=(sx z ((x.toNat:Nat):Int)).isSome;unfold sx;rw[List.findIdx?_isSome]
  congr 1
  funext c
  rw[Qg,Qj,O9];exact⟨λe=>by injection e with e;exact e.symm,λe=>by rw[e]⟩
def xh(b:O_):∀(l:O_)(n:Nat),(match da (bD b) (l.map λ(c:UInt8)=>c.toNat) n with|.ok m=>Except.ok (cu b m)|.error e=>Except.error e)=Tafl.lit l (cu b n)
 |[],n=>rfl
 |x::l,n=>by
  unfold Tafl.lit;have el:da (bD b) ((x::l).map λ(c:UInt8)=>c.toNat) n=if(bD b)[n]? =some ((x.toNat:Nat):Int)then da (bD b) (l.map λ(c:UInt8)=>c.toNat) (n+1)else .error n:=rfl;rw[hJ,oV,<-xh b l (n+1),el,ui];cases h:b[n]? with
  |none=>
   rw[OV (λz=>nomatch z),OV (λz=>nomatch z)];rfl
  |some y=>
   by_cases hy:y=x
   ·subst hy
    rw[OW (show Option.map (λ(c:UInt8)=>((c.toNat:Nat):Int)) (some y)=some ((y.toNat:Nat):Int)from rfl),OW rfl]
   ·have ne:¬Option.map (λ(c:UInt8)=>((c.toNat:Nat):Int)) (some y)=some ((x.toNat:Nat):Int):=λz=>by
     have:((y.toNat:Nat):Int)=((x.toNat:Nat):Int):=Pu z;exact hy (QV.mp (by omega))
    rw[OV ne,OV (λz=>hy (Pu z))];rfl
def eK{P:Nat->Prop}(h:∀m:Fin 256,P m.val)(x:UInt8):P x.toNat:=h ⟨x.toNat,x.toNat_lt⟩
def Ki(x:UInt8):(sx fL ((x.toNat:Nat):Int)).isSome=Tafl.isDigit x:=by
 have all:∀m:Fin 256,(sx fL ((m.val:Nat):Int)).isSome=(decide (48<=m.val)&&decide (m.val<=57)):=by decide+kernel
 exact eK (P:=λm=>(sx fL ((m:Nat):Int)).isSome=(decide (48<=m)&&decide (m<=57))) all x
def Ep(x:UInt8)(h:48<=x.toNat/\x.toNat<=57):sx fL ((x.toNat:Nat):Int)=some (x.toNat-48):=by
 have all:∀m:Fin 256,(48<=m.val/\m.val<=57)->sx fL ((m.val:Nat):Int)=some (m.val-48):=by decide+kernel
 exact eK (P:=λm=>(48<=m/\m<=57)->sx fL ((m:Nat):Int)=some (m-48)) all x h
def Kc(x:UInt8):sx "hmK" ((x.toNat:Nat):Int)=if x.toNat=104 then some 0 else if x.toNat=109 then some 1 else if x.toNat=75 then some 2 else none:=by
 have all:∀m:Fin 256,sx "hmK" ((m.val:Nat):Int)=if m.val=104 then some 0 else if m.val=109 then some 1 else if m.val=75 then some 2 else none:=by decide+kernel
 exact eK (P:=λm=>sx "hmK" ((m:Nat):Int)=if m=104 then some 0 else if m=109 then some 1 else if m=75 then some 2 else none) all x
def LY(x:UInt8):sx "hm" ((x.toNat:Nat):Int)=if x.toNat=104 then some 0 else if x.toNat=109 then some 1 else none:=by
 have all:∀m:Fin 256,sx "hm" ((m.val:Nat):Int)=if m.val=104 then some 0 else if m.val=109 then some 1 else none:=by decide+kernel
 exact eK (P:=λm=>sx "hm" ((m:Nat):Int)=if m=104 then some 0 else if m=109 then some 1 else none) all x
def Mf(x:UInt8):sx "hk" ((x.toNat:Nat):Int)=if x.toNat=104 then some 0 else if x.toNat=107 then some 1 else none:=by
 have all:∀m:Fin 256,sx "hk" ((m.val:Nat):Int)=if m.val=104 then some 0 else if m.val=107 then some 1 else none:=by decide+kernel
 exact eK (P:=λm=>sx "hk" ((m:Nat):Int)=if m=104 then some 0 else if m=107 then some 1 else none) all x
def JF{left:Nat}(hl:left<=13)(x:UInt8):sx (gd fL (some 1) (some (((left:Nat):Int)+1))) ((x.toNat:Nat):Int)=if 49<=x.toNat/\x.toNat<=57/\x.toNat-48<=left then some (x.toNat-49)else none:=by
 have all:∀(k:Fin 14)(m:Fin 256),sx (gd fL (some 1) (some (((k.val:Nat):Int)+1))) ((m.val:Nat):Int)=if 49<=m.val/\m.val<=57/\m.val-48<=k.val then some (m.val-49)else none:=by decide+kernel
 exact all ⟨left,by omega⟩ ⟨x.toNat,x.toNat_lt⟩
def IH{k:Nat}(hk:k<=3)(x:UInt8):(sx (gd fL none (some (((k:Nat):Int)+1))) ((x.toNat:Nat):Int)).isSome=(decide (48<=x.toNat)&&decide (x.toNat<=48+k)):=by
 have all:∀(k:Fin 4)(m:Fin 256),(sx (gd fL none (some (((k.val:Nat):Int)+1))) ((m.val:Nat):Int)).isSome=(decide (48<=m.val)&&decide (m.val<=48+k.val)):=by decide+kernel
 exact all ⟨k,by omega⟩ ⟨x.toNat,x.toNat_lt⟩
def IC{left:Nat}(h1:1<=left)(hl:left<=13)(b:O_)(n:Nat):(match manyN ((left:Nat):Int) (bD b) n with|.ok (v,m)=>Except.ok (v,cu b m)|.error e=>Except.error e)=(match Tafl.runIn left (cu b n)with|.ok (m,c)=>Except.ok (V.int ((m:Nat):Int),c)|.error e=>.error e):=by
 unfold manyN Tafl.runIn aX;rw[hJ,iO];cases hb:b[n]? with
 |none=>rfl
 |some x=>
  show(match(match(match sx (gd fL (some 1) (some (((left:Nat):Int)+1))) ((x.toNat:Nat):Int)with|some k=>Except.ok (V.int ((k:Nat):Int),n+1)|none=>Except.error n)with
   |Except.error e=>Except.error e
   |Except.ok (V.int d,m)=>if 0<=((left:Nat):Int)-10*(1+d)/\bd (gd fL none (some (((left:Nat):Int)-10*(1+d)+1))) (bD b) m=true then(match(match cN fL (bD b) m with|some k=>Except.ok (V.int ((k:Nat):Int),m+1)|none=>Except.error m)with
     |Except.error e=>Except.error e
     |Except.ok (V.int d2,m2)=>Except.ok (V.int (10*(1+d)+d2),m2)
     |Except.ok (_,m2)=>Except.error m2)else Except.ok (V.int (1+d),m)
   |Except.ok (_,m)=>Except.error m)with|.ok (v,m)=>Except.ok (v,cu b m)|.error e=>Except.error e)=_
  rw[JF hl];dsimp only;have dg:Tafl.isDigit x=(decide (48<=x.toNat)&&decide (x.toNat<=57)):=rfl
  by_cases hx:49<=x.toNat/\x.toNat<=57/\x.toNat-48<=left
  ·rw[OW hx,OW (show Tafl.isDigit x=true/\1<=x.toNat-48/\x.toNat-48<=left from⟨by rw[dg,O0 (by omega),O0 (by omega)];rfl,by omega,hx.2.2⟩)]
   dsimp only;rw[oV,hJ,iO,xn];have e1:(1:Int)+(((x.toNat-49:Nat)):Int)=((x.toNat-48:Nat):Int):=by omega
   rw[e1];cases hc:b[n+1]? with
   |none=>
    rw[OV (λz=>by cases z.2)]
   |some y=>
    have dy:Tafl.isDigit y=(decide (48<=y.toNat)&&decide (y.toNat<=57)):=rfl
    by_cases h10:x.toNat=49/\10<=left
    ·have ek:((left:Nat):Int)-10*((x.toNat-48:Nat):Int)+1=(((left-10:Nat)):Int)+1:=by omega
     rw[ek,Qm,Qm,IH (by omega)]
     by_cases hy:48<=y.toNat/\y.toNat<=48+(left-10)
     ·rw[OW ⟨by omega,by rw[O0 hy.1,O0 hy.2];rfl⟩]
      rw[Ep y (by omega)];dsimp only;rw[OW (show Tafl.isDigit y=true/\x.toNat-48=1/\10+(y.toNat-48)<=left from⟨by rw[dy,O0 hy.1,O0 (by omega)];rfl,by omega,by omega⟩),oV];have:10*((x.toNat-48:Nat):Int)+((y.toNat-48:Nat):Int)=((10+(y.toNat-48):Nat):Int):=by omega
      rw[this]
     ·rw[OV (λz=>hy (by have:=z.2;rw[Pe,O9,O9]at this;exact this))]
      dsimp only;rw[OV (λz=>hy (by have:=z.1;rw[dy,Pe,O9,O9]at this;omega))]
    ·rw[OV (λz=>h10 (by have:=z.1;omega))]
     dsimp only;rw[OV (λz=>h10 (by have:=z.2;omega))]
  ·rw[OV hx,OV (λz=>hx (by have:=z.1;rw[dg,Pe,O9,O9]at this;omega))]
   rfl
def pieceOf(v:Int):Pz:=if v=1 then .hunter else if v=2 then .man else if v=3 then .king else .none
def nX(e:Int×Int×Int):Option (Pz×Nat×Nat):=if e.2.1=0 then none else some (pieceOf e.2.1,e.1.toNat,e.2.2.toNat)
def Cn(wide high:Nat)(ps qs:List Int):List (Pz×Nat×Nat):=((bt wide high).zip (ps.zip qs)).filterMap nX
def Br{α β:Type}:∀(l:List α)(m:List β)(x:α)(y:β),l[m.length]? =some x->l.zip (m++[y])=l.zip m++[(x,y)]
 |[],_,_,_,h=>by simp at h
 |a::l,[],x,y,h=>by
  have e:a=x:=by simpa using h
  subst e;cases l<;>rfl
 |a::l,b::m,x,y,h=>by
  show(a,b)::l.zip (m++[y])=(a,b)::(l.zip m++[(x,y)]);rw[Br l m x y (by simpa using h)]
def BU{wide high:Nat}{ps qs:List Int}{c v q:Int}(hl:ps.length=qs.length)(hc:(bt wide high)[ps.length]? =some c):Cn wide high (ps++[v]) (qs++[q])=Cn wide high ps qs++(if v=0 then[]else[(pieceOf v,c.toNat,q.toNat)]):=by
 unfold Cn;have e1:(ps++[v]).zip (qs++[q])=ps.zip qs++[(v,q)]:=by
  rw[List.zip_append hl];rfl
 rw[e1,Br _ _ c (v,q) (by rw[Q5,<-hl,Nat.min_self];exact hc),List.filterMap_append]
 congr 1
 show[(c,v,q)].filterMap nX=_
 by_cases h:v=0
 ·rw[OW h]
  simp[nX,h]
 ·rw[OV h]
  simp[nX,h]
def Ds{wide high:Nat}{ps qs:List Int}(hl:ps.length=qs.length):∀m,ps.length+m<=wide*high->Cn wide high (ps++List.replicate m 0) (qs++List.replicate m 0)=Cn wide high ps qs
 |0,_=>by simp
 |m+1,h=>by
  have hi:ps.length+m<(bt wide high).length:=by rw[kU];omega
  rw[Ry,<-P9,<-P9,BU (c:=(bt wide high)[ps.length+m]) (by simp[hl]) (by rw[Pd,PP];exact OY hi),OW rfl,PU];exact Ds hl m (by omega)
def II{wide high i x:Nat}(hx:x<wide)(hi:i<high):(bt wide high)[wide*i+x]? =some (((13*(high-1-i)+x:Nat)):Int):=by
 have hb:=xX (λ(j:Nat)=>(List.range wide).map λ(x:Nat)=>((13*(high-1-j)+x:Nat):Int)) (w:=wide) (λj=>by rw[OU,Qc]) (List.range high) i i (RF hi);have h2:_[x]? =_[x]? :=P_ (λ(l:List Int)=>l[x]?) hb;rw[List.getElem?_take,OW hx,List.getElem?_drop,Ph,RF hx]at h2;exact h2
def GA(king:Bool):Str:=if king=true then"hm" else"hmK"
def Dx(ns:List Int)(ps qs:List Int)(n:Nat):Except Nat (List Int×List Int×Int×Nat):=match da ns [32] n with
 |.error e=>.error e
 |.ok n1=>match aX "hk" ns n1 with
  |.error e=>.error e
  |.ok (.int t,n2)=>.ok (ps,qs,t,n2)
  |.ok (_,n2)=>.error n2
def ng(ns:List Int)(wide rows left:Nat)(was:Bool)(ps qs:List Int)(z:Str)(n:Nat):Except Nat (List Int×List Int×Int×Nat):=match eF ns (left+1) left was ps qs z n with
 |.error e=>.error e
 |.ok (ps',qs',z',n')=>match fO ns wide rows false ps' qs' z' n' with
  |.error e=>.error e
  |.ok (ps2,qs2,_,n2)=>Dx ns ps2 qs2 n2
def xK(wide high:Nat)(ns:List Int)(h:1<=high):jk wide high ns=(match ng ns wide (high-1) wide false [] [] "hmK" 0 with
  |.error e=>.error e
  |.ok (ps,qs,t,n)=>if n<ns.length then .error n else .ok (ps,qs,t)):=by
 obtain⟨k,rfl⟩:∃k,high=k+1:=⟨high-1,by omega⟩;unfold jk ng;rw[Nat.add_sub_cancel];have e:fO ns wide (k+1) true [] [] "hmK" 0=(match eF ns (wide+1) wide false [] [] "hmK" 0 with
   |.error e=>.error e
   |.ok (ps',qs',z',n2)=>fO ns wide k false ps' qs' z' n2):=rfl
 rw[e];cases eF ns (wide+1) wide false [] [] "hmK" 0 with
 |error e=>rfl
 |ok p=>
  obtain⟨ps',qs',z',n'⟩:=p;dsimp only;cases fO ns wide k false ps' qs' z' n' with
  |error e=>rfl
  |ok p2=>
   obtain⟨ps2,qs2,z2,n2⟩:=p2;dsimp only;unfold Dx;cases da ns [32] n2 with
   |error e=>rfl
   |ok n3=>
    dsimp only;cases ho:aX "hk" ns n3 with
    |error e=>rfl
    |ok q=>
     obtain⟨d,rfl,_⟩:=dN ho;rfl
def L_(wide high:Nat)(b:O_)(r:Except Nat (List Int×List Int×Int×Nat)):Except Nat (List (Pz×Nat×Nat)×Nat×Tafl.Cur):=match r with
 |.error e=>.error e
 |.ok (ps,qs,t,n)=>.ok (Cn wide high ps qs,t.toNat,cu b n)
def EB(ns:List Int)(wide rows:Nat)(was:Bool)(ps qs:List Int)(z:Str)(n:Nat):ng ns wide rows 0 was ps qs z n=(match rows with
  |0=>Dx ns ps qs n
  |k+1=>match da ns [47] n with
   |.error e=>.error e
   |.ok m=>ng ns wide k wide false ps qs z m):=by
 unfold ng;have e:eF ns (0+1) 0 was ps qs z n=.ok (ps,qs,z,n):=by
  unfold eF;rw[OW rfl]
 rw[e];cases rows with
 |zero=>rfl
 |succ k=>
  dsimp only;have e2:fO ns wide (k+1) false ps qs z n=(match da ns [47] n with
    |.error e=>.error e
    |.ok n1=>match eF ns (wide+1) wide false ps qs z n1 with
     |.error e=>.error e
     |.ok (ps',qs',z',n2)=>fO ns wide k false ps' qs' z' n2):=rfl
  rw[e2];cases da ns [47] n with
  |error e=>rfl
  |ok m=>
   dsimp only;cases eF ns (wide+1) wide false ps qs z m with
   |error e=>rfl
   |ok p=>rfl
def Fj(ns:List Int)(wide rows left:Nat)(was:Bool)(ps qs:List Int)(z:Str)(n:Nat)(h:left≠0):ng ns wide rows left was ps qs z n=(if was=false/\bd fL ns n=true then(match manyN (left:Int) ns n with
   |.error e=>.error e
   |.ok (.int d,n2)=>ng ns wide rows (left-d.toNat) true (ps++List.replicate d.toNat 0) (qs++List.replicate d.toNat 0) z n2
   |.ok (_,n2)=>.error n2)
  else match putN z ns n with
   |.error e=>.error e
   |.ok (v,n2)=>ng ns wide rows (left-1) false (ps++[v]) (qs++[(n:Int)]) (if v=3 then"hm" else z) n2):=by
 have e:eF ns (left+1) left was ps qs z n=(if was=false/\bd fL ns n=true then(match manyN (left:Int) ns n with
   |.error e=>.error e
   |.ok (.int d,n2)=>eF ns left (left-d.toNat) true (ps++List.replicate d.toNat 0) (qs++List.replicate d.toNat 0) z n2
   |.ok (_,n2)=>.error n2)
  else match putN z ns n with
   |.error e=>.error e
   |.ok (v,n2)=>eF ns left (left-1) false (ps++[v]) (qs++[(n:Int)]) (if v=3 then"hm" else z) n2):=by
  conv=>lhs;unfold eF
  rw[OV h]<;>rfl
 unfold ng;rw[e]
 by_cases hc:was=false/\bd fL ns n=true
 ·rw[OW hc,OW hc]
  cases hm:manyN (left:Int) ns n with
  |error e=>rfl
  |ok p=>
   obtain⟨v,n2⟩:=p;obtain⟨m,rfl,m1,m2⟩:=kX hm;dsimp only;rw[Px,qo ns (left-m) left (left-m+1) _ _ _ _ _ (by omega) (by omega)]
 ·rw[OV hc,OV hc]
  cases hp:putN z ns n with
  |error e=>rfl
  |ok p=>
   obtain⟨v,n2⟩:=p;dsimp only;rw[qo ns (left-1) left (left-1+1) _ _ _ _ _ (by omega) (by omega)]
def vT(b:O_){wide high:Nat}(w1:1<=wide)(tT:wide<=13):∀(M fuel rows left:Nat)(was king:Bool)(ps qs:List Int)(n:Nat),left+rows*(wide+1)+1<=M->M<=fuel->left<=wide->rows<high->ps.length=qs.length->ps.length+left=wide*(high-rows)->
  L_ wide high b (ng (bD b) wide rows left was ps qs (GA king) n)=Tafl.readRows wide fuel left rows was king (Cn wide high ps qs) (cu b n)
 |0,_,_,_,_,_,_,_,_,h,_,_,_,_,_=>absurd h (by omega)
 |M+1,0,_,_,_,_,_,_,_,_,h,_,_,_,_=>absurd h (by omega)
 |M+1,fuel+1,rows,left,was,king,ps,qs,n,hM,hF,hl,hr,hlen,hpos=>by
  unfold Tafl.readRows
  by_cases h0:left=0
  ·subst h0
   rw[OW rfl,EB];cases rows with
   |zero=>
    rw[OW rfl];dsimp only;unfold Dx;have hl:=xh b [32] n;have e32:([32]:List UInt8).map (λ(c:UInt8)=>c.toNat)=[32]:=rfl;rw[e32]at hl;rw[<-hl];cases da (bD b) [32] n with
    |error e=>rfl
    |ok n1=>
     dsimp only;show _=(if(cu b n1).next=some 104 then(pure _:Except Nat _)else if(cu b n1).next=some 107 then pure _ else Except.error (cu b n1).at_);unfold aX;rw[iO,hJ];cases hb:b[n1]? with
     |none=>
      rw[OV (λz=>nomatch z),OV (λz=>nomatch z)];rfl
     |some x=>
      rw[Qm,Mf]
      by_cases h1:x=104
      ·subst h1
       rw[OW (show(104:UInt8).toNat=104 from rfl),OW rfl,oV];rfl
      ·have n1':¬x.toNat=104:=λz=>h1 (QV.mp z)
       rw[OV n1',OV (λz=>h1 (Pu z))]
       by_cases h2:x=107
       ·subst h2
        rw[OW (show(107:UInt8).toNat=107 from rfl),OW rfl,oV];rfl
       ·have n2':¬x.toNat=107:=λz=>h2 (QV.mp z)
        rw[OV n2',OV (λz=>h2 (Pu z))];rfl
   |succ k=>
    rw[OV (by omega)];dsimp only;have hl:=xh b [47] n;have e47:([47]:List UInt8).map (λ(c:UInt8)=>c.toNat)=[47]:=rfl;rw[e47]at hl;rw[<-hl];cases da (bD b) [47] n with
    |error e=>rfl
    |ok n1=>
     dsimp only;have e1:(k+1)*(wide+1)=k*(wide+1)+(wide+1):=Nat.succ_mul k (wide+1);have e2:wide*(high-k)=wide*(high-(k+1))+wide:=by
      have:high-k=(high-(k+1))+1:=by omega
      rw[this,QU]
     exact vT b w1 tT M fuel k wide false king ps qs n1 (by omega) (by omega) (OZ _) (by omega) hlen (by omega)
  ·rw[OV h0,Fj _ _ _ _ _ _ _ _ _ h0,hJ]
   have hcell:(bt wide high)[ps.length]? =some (((13*rows+(wide-left):Nat)):Int):=by
    have e:ps.length=wide*(high-1-rows)+(wide-left):=by
     have:high-rows=(high-1-rows)+1:=by omega
     rw[this,QU]at hpos;omega
    rw[e,II (by omega) (by omega)]
    congr 2
    omega
   cases hb:b[n]? with
   |none=>
    have s1:bd fL (bD b) n=false:=by rw[xn,hb];rfl
    rw[OV (λz=>by rw[s1]at z;cases z.2)];unfold putN;rw[iO,hb];rfl
   |some x=>
    dsimp only;have pz:putN (GA king) (bD b) n=(match sx (GA king) ((x.toNat:Nat):Int)with|some k=>.ok (1+((k:Nat):Int),n+1)|none=>.error n):=by
     unfold putN;rw[iO,hb];rfl
    have sd:bd fL (bD b) n=Tafl.isDigit x:=by rw[xn,hb];exact Ki x
    have dg:Tafl.isDigit x=(decide (48<=x.toNat)&&decide (x.toNat<=57)):=rfl;have put:∀(v:Nat)(king':Bool)(pc:Pz),(v=1\/v=2\/v=3)->pieceOf ((v:Nat):Int)=pc->(if((v:Nat):Int)=3 then("hm":Str)else GA king)=GA king'->L_ wide high b (ng (bD b) wide rows (left-1) false (ps++[((v:Nat):Int)]) (qs++[(n:Int)]) (if((v:Nat):Int)=3 then("hm":Str)else GA king) (n+1))=Tafl.readRows wide fuel (left-1) rows false king' (Cn wide high ps qs++[(pc,Tafl.cellOf (wide-left) rows,(cu b n).at_)]) (cu b n).on:=λv king' pc hv hp hz=>by
     rw[hz,oV];have:=vT b w1 tT M fuel rows (left-1) false king' (ps++[((v:Nat):Int)]) (qs++[(n:Int)]) (n+1) (by omega) (by omega) (by omega) hr (by simp[hlen]) (by rw[Pd,P0];omega);rw[this,BU hlen hcell,OV (by omega),hp];rfl
    have c104:Tafl.isDigit 104=false:=rfl;have c109:Tafl.isDigit 109=false:=rfl;have c75:Tafl.isDigit 75=false:=rfl
    by_cases h1:x=104
    ·subst h1
     rw[OW (show(104:UInt8)=104 from rfl),OV (show¬(was=false/\bd fL (bD b) n=true)fromλz=>by rw[sd,c104]at z;cases z.2),pz];have es:sx (GA king) (((104:UInt8).toNat:Nat):Int)=some 0:=by cases king<;>decide+kernel
     rw[es];exact put 1 king .hunter (by omega) rfl (by rw[OV (by decide)])
    ·rw[OV h1]
     have n1':¬x.toNat=104:=λz=>h1 (QV.mp z)
     by_cases h2:x=109
     ·subst h2
      rw[OW (show(109:UInt8)=109 from rfl),OV (show¬(was=false/\bd fL (bD b) n=true)fromλz=>by rw[sd,c109]at z;cases z.2),pz];have es:sx (GA king) (((109:UInt8).toNat:Nat):Int)=some 1:=by cases king<;>decide+kernel
      rw[es];exact put 2 king .man (by omega) rfl (by rw[OV (by decide)])
     ·rw[OV h2]
      have n2':¬x.toNat=109:=λz=>h2 (QV.mp z)
      by_cases h3:x=75/\king=false
      ·obtain⟨rfl,rfl⟩:=h3
       rw[OW (show(75:UInt8)=75/\false=false from⟨rfl,rfl⟩),OV (show¬(was=false/\bd fL (bD b) n=true)fromλz=>by rw[sd,c75]at z;cases z.2),pz];have es:sx (GA false) (((75:UInt8).toNat:Nat):Int)=some 2:=by decide+kernel
       rw[es];exact put 3 true .king (by omega) rfl rfl
      ·rw[OV h3]
       have none_:sx (GA king) ((x.toNat:Nat):Int)=none:=by
        cases king with
        |true=>
         show sx "hm" _=none;rw[LY,OV n1',OV n2']
        |false=>
         show sx "hmK" _=none;rw[Kc,OV n1',OV n2',OV (show¬x.toNat=75 fromλz=>h3 ⟨QV.mp z,rfl⟩)]
       cases was with
       |true=>
        rw[OW (show true=true from rfl),OV (show¬(true=false/\bd fL (bD b) n=true)fromλz=>by cases z.1),pz,none_];rfl
       |false=>
        rw[OV (show¬false=true from O3)];have me:=IC (left:=left) (by omega) (by omega) b n
        by_cases hd:Tafl.isDigit x=true
        ·rw[OW (show false=false/\bd fL (bD b) n=true from⟨rfl,by rw[sd];exact hd⟩)]
         cases hm:manyN ((left:Nat):Int) (bD b) n with
         |error e=>
          rw[hm]at me;cases hr':Tafl.runIn left (cu b n)with
          |error e'=>rw[hr']at me;cases me;rfl
          |ok p=>rw[hr']at me;cases me
         |ok p=>
          obtain⟨v,n2⟩:=p;obtain⟨m,rfl,m1,m2⟩:=kX hm;rw[hm]at me;cases hr':Tafl.runIn left (cu b n)with
          |error e'=>rw[hr']at me;cases me
          |ok p=>
           obtain⟨m',c'⟩:=p;rw[hr']at me;injection me with me;injection me with me1 me2;injection me1 with me1;have em:m'=m:=by omega
           subst em;dsimp only;rw[Px,<-me2];have hmul:wide*(high-rows)<=wide*high:=Nat.mul_le_mul_left _ (by omega);have:=vT b w1 tT M fuel rows (left-m') true king (ps++List.replicate m' 0) (qs++List.replicate m' 0) n2 (by omega) (by omega) (by omega) hr (by simp[hlen]) (by rw[Pd,PP];omega);rw[this,Ds hlen m' (by omega)]
        ·rw[OV (show¬(false=false/\bd fL (bD b) n=true)fromλz=>hd (by rw[<-sd];exact z.2)),pz,none_]
         have er:Tafl.runIn left (cu b n)=.error n:=by
          unfold Tafl.runIn;rw[hJ,hb];dsimp only;rw[OV (λz=>hd z.1)];rfl
         rw[er];rfl
structure y_(ps qs:List Int)(z:Str):Prop where
 q:∀v∈qs,0<=v
 o:ps.Pairwise λa b=>¬(a=3/\b=3)
 z:(z="hmK"/\(3:Int)∉ps)\/z="hm"
def y_.rep{ps qs:List Int}{z:Str}(I:y_ ps qs z)(m:Nat):y_ (ps++List.replicate m 0) (qs++List.replicate m 0) z:=by
 refine⟨λv hv=>?_,?_,?_⟩
 ·rcases Pk.mp hv with h|h
  ·exact I.q v h
  ·rw[(List.mem_replicate.mp h).2]
   decide
 ·rw[List.pairwise_append]
  refine⟨I.o,?_,λa _ b hb=>?_⟩
  ·rw[List.pairwise_replicate]
   exact .inr (by decide)
  ·rw[(List.mem_replicate.mp hb).2]
   rintro⟨_,h⟩
   cases h
 ·rcases I.z with⟨h1,h2⟩|h
  ·refine .inl ⟨h1,λhm=>?_⟩
   rcases Pk.mp hm with h|h
   ·exact h2 h
   ·have:=(List.mem_replicate.mp h).2
    cases this
  ·exact .inr h
def y_.put{ps qs:List Int}{z:Str}(I:y_ ps qs z){ns:List Int}{n:Nat}{v:Int}{n':Nat}(h:putN z ns n=.ok (v,n')):y_ (ps++[v]) (qs++[(n:Int)]) (if v=3 then"hm" else z):=by
 have hv:v=3->z="hmK"/\(3:Int)∉ps:=λe=>by
  rcases I.z with h'|h'
  ·exact h'
  ·subst h'
   unfold putN at h;cases hk:cN "hm" ns n with
   |none=>rw[hk]at h;cases h
   |some k=>
    rw[hk]at h;cases h;have:=(iB hk).1;have l2:("hm":Str).cps.toList.length=2:=by decide+kernel
    omega
 refine⟨λw hw=>?_,?_,?_⟩
 ·rcases Pk.mp hw with h|h
  ·exact I.q w h
  ·rw[Pj]at h
   omega
 ·rw[List.pairwise_append]
  refine⟨I.o,List.pairwise_singleton _ _,λa ha b hb=>?_⟩;rw[Pj]at hb
  rintro⟨h1,h2⟩
  subst h1;exact(hv (by rw[<-hb];exact h2)).2 ha
 ·by_cases h3:v=3
  ·rw[OW h3]
   exact .inr rfl
  ·rw[OV h3]
   rcases I.z with⟨h1,h2⟩|h'
   ·refine .inl ⟨h1,λhm=>?_⟩
    rcases Pk.mp hm with h|h
    ·exact h2 h
    ·rw[Pj]at h
     exact h3 h.symm
   ·exact .inr h'
def FT(ns:List Int):∀(left f:Nat)(beh:Bool)(ps qs:List Int)(z:Str)(n:Nat)(r:List Int×List Int×Str×Nat),eF ns f left beh ps qs z n=.ok r->y_ ps qs z->y_ r.1 r.2.1 r.2.2.1:=by
 intro left
 induction left using Nat.strongRecOn with
 |_ left ih=>
  intro f beh ps qs z n r h I;cases f with
  |zero=>cases h
  |succ f=>
   unfold eF at h
   by_cases h0:left=0
   ·rw[OW h0]at h
    cases h;exact I
   ·rw[OV h0]at h
    by_cases hb:beh=false/\bd fL ns n=true
    ·rw[OW hb]at h
     cases hm:manyN (left:Int) ns n with
     |error e=>rw[hm]at h;cases h
     |ok p=>
      obtain⟨v,n'⟩:=p;obtain⟨m,rfl,m1,m2⟩:=kX hm;rw[hm]at h;exact ih (left-m) (by omega) f _ _ _ _ _ r h (I.rep _)
    ·rw[OV hb]at h
     cases hm:putN z ns n with
     |error e=>rw[hm]at h;cases h
     |ok p=>
      obtain⟨v,n'⟩:=p;rw[hm]at h;exact ih (left-1) (by omega) f _ _ _ _ _ r h (I.put hm)
def zo(ns:List Int)(wide:Nat):∀(k:Nat)(first:Bool)(ps qs:List Int)(z:Str)(n:Nat)(r:List Int×List Int×Str×Nat),fO ns wide k first ps qs z n=.ok r->y_ ps qs z->y_ r.1 r.2.1 r.2.2.1
 |0,_,_,_,_,_,_,h,I=>by cases h;exact I
 |k+1,first,ps,qs,z,n,r,h,I=>by
  unfold fO at h;cases h1:(if first=true then Except.ok n else da ns [47] n)with
  |error e=>rw[h1]at h;cases h
  |ok n1=>
   rw[h1]at h;dsimp only at h;cases h2:eF ns (wide+1) wide false ps qs z n1 with
   |error e=>rw[h2]at h;cases h
   |ok p=>
    obtain⟨ps',qs',z',n2⟩:=p;rw[h2]at h;exact zo ns wide k false ps' qs' z' n2 r h (FT _ _ _ _ _ _ _ _ _ h2 I)
def EH{wide high:Nat}{ns ps qs:List Int}{t:Int}(h:jk wide high ns=.ok (ps,qs,t)):(∀v∈qs,0<=v)/\ps.Pairwise λa b=>¬(a=3/\b=3):=by
 unfold jk at h;cases h1:fO ns wide high true [] [] "hmK" 0 with
 |error e=>rw[h1]at h;cases h
 |ok r=>
  have I:=zo ns wide high true [] [] "hmK" 0 r h1 ⟨λv hv=>(by cases hv),List.Pairwise.nil,.inl ⟨rfl,λh=>by cases h⟩⟩;obtain⟨ps',qs',z',n⟩:=r;rw[h1]at h;dsimp only at h;cases h2:da ns [32] n with
  |error e=>rw[h2]at h;cases h
  |ok n1=>
   rw[h2]at h;dsimp only at h;cases h3:aX "hk" ns n1 with
   |error e=>rw[h3]at h;cases h
   |ok p=>
    obtain⟨d,rfl,hd⟩:=dN h3;rw[h3]at h;replace h:(if n1+1<ns.length then Except.error (n1+1)else Except.ok (ps',qs',((d:Nat):Int)))=Except.ok (ps,qs,t):=h;split at h
    ·cases h
    ·cases h
     exact⟨I.q,I.o⟩
def uz(acc:List Int)(e:Int×Int×Int):List Int:=acc.set e.1.toNat e.2.1
def zk(r:R0):∀(T:List (Int×Int×Int))(acc:List Int),wx r T acc=(match T.find? λ(e:Int×Int×Int)=> !iF (r.ground.getD e.1.toNat 0) e.2.1 with
  |some e=>.error e.2.2
  |none=>.ok (T.foldl uz acc))
 |[],acc=>rfl
 |e::T,acc=>by
  unfold wx;rw[List.find?_cons];cases h:iF (r.ground.getD e.1.toNat 0) e.2.1 with
  |true=>
   rw[OW rfl,zk r T];rfl
  |false=>
   rw[OV O3];rfl
def KG{r:R0}{R:O1}(Q:cZ r R){c:Nat}(hc:c<169){v:Int}(h:v=1\/v=2\/v=3):iF (r.ground.getD c 0) v=Tafl.mayStand (pieceOf v) (R.kindAt c):=by
 rcases nQ Q hc with⟨k,e⟩|⟨k,e⟩|⟨k,e⟩|⟨k,e⟩<;>rw[k,e]<;>rcases h with rfl|rfl|rfl<;>decide
def HX(T:List (Int×Int×Int))(acc:List Int):(T.foldl uz acc).length=acc.length:=by
 induction T generalizing acc with
 |nil=>rfl
 |cons e T ih=>
  rw[QB,ih];unfold uz;rw[QN]
def CS:∀(T:List (Int×Int×Int))(acc:List Int),(T.map (·.1)).Nodup->(∀e∈T,∃c:Nat,e.1=((c:Nat):Int)/\c<acc.length)->∀c:Nat,((∀e∈T,e.1≠((c:Nat):Int))->(T.foldl uz acc).getD c 0=acc.getD c 0)/\∀e∈T,e.1=((c:Nat):Int)->(T.foldl uz acc).getD c 0=e.2.1
 |[],acc,_,_,c=>⟨λ_=>rfl,λe he=>by cases he⟩
 |x::T,acc,nd,hb,c=>by
  rw[PY,Rp]at nd;obtain⟨cx,ex,bx⟩:=hb x O8;obtain⟨i1,i2⟩:=CS T (uz acc x) nd.2 (λe he=>by
   obtain⟨ce,ee,be⟩:=hb e (Pa _ he);exact⟨ce,ee,by unfold uz;rw[QN];exact be⟩) c
  rw[QB];have sa:(uz acc x).getD c 0=if cx=c then x.2.1 else acc.getD c 0:=by
   unfold uz;rw[k_,ex,Px]
   by_cases h:cx=c
   ·rw[OW ⟨h,bx⟩,OW h]
   ·rw[OV (λz=>h z.1),OV h]
  refine⟨λh=>?_,λe he hc=>?_⟩
  ·rw[i1 λe he=>h e (Pa _ he),sa,OV (λz=>h x O8 (by rw[ex,z]))]
  ·rcases Po.mp he with z|z
   ·subst z
    rw[i1 λe' he' z=>nd.1 (Pg.mpr ⟨e',he',by rw[z,hc]⟩),sa,OW (by omega)]
   ·exact i2 e z hc
def E8(v:Int)(h0:0<=v)(h3:v<=3):dM (pieceOf v)=v:=by
 have:v=0\/v=1\/v=2\/v=3:=by omega
 rcases this with rfl|rfl|rfl|rfl<;>rfl
def yw(wide high:Nat)(hw:wide<=13):(bt wide high).Nodup:=by
 have s:(u7 wide high).Nodup:=by
  unfold List.Nodup u7;rw[List.pairwise_flatMap];refine⟨λy _=>?_,?_⟩
  ·rw[QW]
   exact Qx.imp λh=>by omega
  ·refine Qx.imp λh u hu v hv=>?_
   obtain⟨i,hi,rfl⟩:=Pg.mp hu;obtain⟨j,hj,rfl⟩:=Pg.mp hv;have:=Pl.mp hi;omega
 exact(vV wide high).nodup_iff.mp s
def wT{wide high:Nat}(hw:wide<=13)(hh:high<=13){v:Int}(h:v∈bt wide high):∃n:Nat,v=((n:Nat):Int)/\n<169/\n%13<wide/\n/13<high:=Ab hw hh ((vV wide high).mem_iff.mpr h)
def Ik{α β:Type}{l:List α}{m:List β}(h:l.length<=m.length):(l.zip m).map (·.1)=l:=by
 rw[List.map_fst_zip h]
def B4{r:R0}{R:O1}(Q:cZ r R){ps qs:List Int}{t:Nat}(hv:∀v∈ps,0<=v/\v<=3)(hl:ps.length=R.wide*R.high)(hq:qs.length=R.wide*R.high)(ho:ps.Pairwise λa b=>¬(a=3/\b=3))(ht:t=0\/t=1):
  dJ R ⟨Tafl.setFrom ((Cn R.wide R.high ps qs).filterMap λ(x:Pz×Nat×Nat)=>if x.1=.hunter then some x.2.1 else none),Tafl.setFrom ((Cn R.wide R.high ps qs).filterMap λ(x:Pz×Nat×Nat)=>if x.1=.man then some x.2.1 else none),(((Cn R.wide R.high ps qs).find? λ(x:Pz×Nat×Nat)=>x.1== .king).map λ(x:Pz×Nat×Nat)=>x.2.1).getD Tafl.TAKEN,t⟩
   (((bt R.wide R.high).zip (ps.zip qs)).foldl uz (List.replicate 169 0)) ((t:Nat):Int):=by
 have hT:((bt R.wide R.high).zip (ps.zip qs)).map (·.1)=bt R.wide R.high:=Ik (by rw[kU,Q5,hl,hq];omega);have eT:∀e∈(bt R.wide R.high).zip (ps.zip qs),e.1∈bt R.wide R.high/\e.2.1∈ps:=λe he=>by
  have:=QA he;exact⟨this.1,(QA this.2).1⟩
 have uniq:∀e∈(bt R.wide R.high).zip (ps.zip qs),∀e'∈(bt R.wide R.high).zip (ps.zip qs),e.2.1=3->e'.2.1=3->e=e':=λe he e' he' h1 h2=>by
  obtain⟨i,hi,ei⟩:=QQ he;obtain⟨j,hj,ej⟩:=QQ he';have pi:∀(k:Nat)(hk:k<((bt R.wide R.high).zip (ps.zip qs)).length),∃hk':k<ps.length,(((bt R.wide R.high).zip (ps.zip qs))[k]).2.1=ps[k]:=λk hk=>by
   have hk2:k<ps.length:=by
    rw[Q5,Q5]at hk;omega
   exact⟨hk2,by rw[List.getElem_zip,List.getElem_zip]⟩
  have ij:i=j:=by
   obtain⟨hi2,pi1⟩:=pi i hi;obtain⟨hj2,pj1⟩:=pi j hj;rw[ei,h1]at pi1;rw[ej,h2]at pj1;rw[List.pairwise_iff_getElem]at ho;rcases Nat.lt_trichotomy i j with z|z|z
   ·exact absurd ⟨pi1.symm,pj1.symm⟩ (ho i j hi2 hj2 z)
   ·exact z
   ·exact absurd ⟨pj1.symm,pi1.symm⟩ (ho j i hj2 hi2 z)
  subst ij;rw[<-ei,<-ej]
 have sat:=CS ((bt R.wide R.high).zip (ps.zip qs)) (List.replicate 169 0) (by rw[hT];exact yw _ _ Q.tT) (λe he=>by
  obtain⟨n,e1,n1,_⟩:=wT Q.tT Q.uE (eT e he).1;exact⟨n,e1,by rw[PP];exact n1⟩)
 have lz:(((bt R.wide R.high).zip (ps.zip qs)).foldl uz (List.replicate 169 0)).length=169:=by rw[HX,PP]
 have z0:∀c,(List.replicate 169 (0:Int)).getD c 0=0:=λc=>by
  simp only[List.getD,Qv];split<;>rfl
 unfold Cn;generalize hTT:(bt R.wide R.high).zip (ps.zip qs)=T at*;generalize hL:T.foldl uz (List.replicate 169 0)=L at*;have cell:∀e∈T,∃n:Nat,e.1=((n:Nat):Int)/\n<169/\n%13<R.wide/\n/13<R.high:=λe he=>wT Q.tT Q.uE (eT e he).1;have at_:∀c:Nat,L.getD c 0=0\/∃e∈T,e.1=((c:Nat):Int)/\L.getD c 0=e.2.1:=λc=>by
  by_cases h:∃e∈T,e.1=((c:Nat):Int)
  ·obtain⟨e,he,hc⟩:=h
   exact .inr ⟨e,he,hc,(sat c).2 e he hc⟩
  ·refine .inl ?_
   rw[(sat c).1 λe he z=>h ⟨e,he,z⟩,z0]
 have at2:∀e∈T,∀c:Nat,e.1=((c:Nat):Int)->L.getD c 0=e.2.1:=λe he c hc=>(sat c).2 e he hc;have vals:∀c,0<=L.getD c 0/\L.getD c 0<=3:=λc=>by
  rcases at_ c with h|⟨e,he,_,h⟩
  ·rw[h]
   exact⟨by decide,by decide⟩
  ·rw[h]
   exact hv _ (eT e he).2
 have memL:∀(pc:Pz)(c q:Nat),pc≠.none->((pc,c,q)∈T.filterMap nX↔∃e∈T,e.2.1=dM pc/\e.1.toNat=c/\e.2.2.toNat=q):=λpc c q hp=>by
  rw[QS];constructor
  ·rintro⟨e,he,h⟩
   unfold nX at h;split at h
   ·cases h
   ·injection h with h
    injection h with h1 h2;injection h2 with h2 h3;refine⟨e,he,?_,h2,h3⟩;obtain⟨v0,v3⟩:=hv _ (eT e he).2;rw[<-h1,E8 _ v0 v3]
  ·rintro⟨e,he,h1,h2,h3⟩
   refine⟨e,he,?_⟩;unfold nX;rw[OV (by rw[h1];exactλz=>hp (eX (y:= .none) z)),h1,h2,h3];have:pieceOf (dM pc)=pc:=by cases pc<;>rfl
   rw[this]
 have bit:∀(pc:Pz),pc≠.none->∀c,(Tafl.setFrom ((T.filterMap nX).filterMap λ(x:Pz×Nat×Nat)=>if x.1=pc then some x.2.1 else none)).testBit c=true↔c<169/\L.getD c 0=dM pc:=λpc hp c=>by
  rw[qm,QS];constructor
  ·rintro⟨⟨pc',c',q⟩,hm,h⟩
   dsimp only at h;split at h
   ·rename_i hpc
    subst hpc;cases h;obtain⟨e,he,h1,h2,_⟩:=(memL pc' c q hp).mp hm;obtain⟨n,en,n1,_⟩:=cell e he;have ec:e.1=((c:Nat):Int):=by omega
    exact⟨by omega,(at2 e he c ec).trans h1⟩
   ·cases h
  ·rintro⟨h1,h2⟩
   rcases at_ c with h|⟨e,he,hc,h⟩
   ·exact absurd (eX (y:= .none) (h2.symm.trans h)) hp
   ·exact⟨(pc,c,e.2.2.toNat),(memL pc c _ hp).mpr ⟨e,he,h.symm.trans h2,by omega,rfl⟩,by simp⟩
 refine⟨⟨lz,vals⟩,rfl,ht,λc=>bit .hunter (by decide) c,λc=>bit .man (by decide) c,?_,λc hc hz=>?_⟩
 ·show((((T.filterMap nX).find? λ(x:Pz×Nat×Nat)=>x.1== .king).map λ(x:Pz×Nat×Nat)=>x.2.1).getD Tafl.TAKEN=255/\_)\/((((T.filterMap nX).find? λ(x:Pz×Nat×Nat)=>x.1== .king).map λ(x:Pz×Nat×Nat)=>x.2.1).getD Tafl.TAKEN<169/\L.getD ((((T.filterMap nX).find? λ(x:Pz×Nat×Nat)=>x.1== .king).map λ(x:Pz×Nat×Nat)=>x.2.1).getD Tafl.TAKEN) 0=3/\∀c,c<169->L.getD c 0=3->c=(((T.filterMap nX).find? λ(x:Pz×Nat×Nat)=>x.1== .king).map λ(x:Pz×Nat×Nat)=>x.2.1).getD Tafl.TAKEN)
  cases hf:(T.filterMap nX).find? λ(x:Pz×Nat×Nat)=>x.1== .king with
  |none=>
   refine .inl ⟨rfl,λc hc e3=>?_⟩;rcases at_ c with h|⟨e,he,hce,h⟩
   ·rw[h]at e3
    cases e3
   ·have hm:=(memL .king c e.2.2.toNat (by decide)).mpr ⟨e,he,h.symm.trans e3,by omega,rfl⟩
    exact absurd (by rfl) (List.find?_eq_none.mp hf _ hm)
  |some x=>
   obtain⟨pc,c,q⟩:=x;have hk:=List.find?_some hf;have hk:pc=.king:=eq_of_beq (show(pc==Tafl.Piece.king)=true from hk);subst hk;obtain⟨e,he,h1,h2,_⟩:=(memL .king c q (by decide)).mp (Rb hf);obtain⟨n,en,n1,_⟩:=cell e he;have ec:e.1=((c:Nat):Int):=by omega
   refine .inr ⟨by show c<169;omega,(at2 e he c ec).trans h1,λc' hc' e3=>?_⟩;show c'=c;rcases at_ c' with h|⟨e',he',hce',h⟩
   ·rw[h]at e3
    cases e3
   ·have:=uniq e he e' he' h1 (h.symm.trans e3)
    subst this;omega
 ·rcases at_ c with h|⟨e,he,hce,h⟩
  ·exact absurd h hz
  ·obtain⟨n,en,n1,n2,n3⟩:=cell e he
   have:n=c:=by omega
   subst this;exact⟨n2,n3⟩
def Oc(R:O1)(x:Except (Int×Int) (List Int×Int))(y:Except (Nat×Nat) PL):Prop:=match x,y with
 |.error p,.error q=>p.1=((q.1:Nat):Int)/\p.2=((q.2:Nat):Int)
 |.ok p,.ok q=>dJ R q p.1 p.2
 |_,_=>False
def Fa{r:R0}{R:O1}(Q:cZ r R)(b:O_):Oc R (uG r (bD b)) (R.readLine b):=by
 unfold uG Tafl.Rules.readLine;have w5:=Q.w5;have h5:=Q.h5;have hh:=Q.uE;have hw:=Q.tT;have hmul:(R.high-1)*(R.wide+1)<=12*14:=Ru (by omega) (by omega);have re:=vT b (wide:=R.wide) (high:=R.high) (by omega) Q.tT 1024 (2*Tafl.LINE) (R.high-1) R.wide false false [] [] 0 (by omega) (OZ _) (OZ _) (by omega) rfl (by
  show 0+R.wide=R.wide*(R.high-(R.high-1));have:R.high-(R.high-1)=1:=by omega
  rw[this];omega)
 have el:Cn R.wide R.high [] []=[]:=by unfold Cn;simp
 have ez:GA false="hmK":=rfl;rw[el,ez]at re;have ec:(⟨b,0⟩:Tafl.Cur)=cu b 0:=rfl;rw[ec,<-re,Q.w,Q.h];cases hd:jk R.wide R.high (bD b)with
 |error m=>
  rw[xK _ _ _ (by omega)]at hd;cases hr:ng (bD b) R.wide (R.high-1) R.wide false [] [] "hmK" 0 with
  |error e=>
   rw[hr]at hd;cases hd;exact⟨rfl,rfl⟩
  |ok p=>
   obtain⟨ps,qs,t,n⟩:=p;rw[hr]at hd;replace hd:(if n<(bD b).length then Except.error n else Except.ok (ps,qs,t))=Except.error m:=hd;have lb:(bD b).length=b.length:=by unfold bD;rw[OU]
   split at hd
   ·have hm:n=m:=Except.error.inj hd
    subst hm
    rename_i hn
    show Oc R _ (if(cu b n).rest≠[]then .error (1,(cu b n).at_)else _);rw[OW (by show b.drop n≠[];intro z;have:=Rz.mp z;omega)];exact⟨rfl,rfl⟩
   ·cases hd
 |ok p=>
  obtain⟨ps,qs,t⟩:=p;obtain⟨v1,v2,v3,v4⟩:=zQ hd;obtain⟨i1,i2⟩:=EH hd;rw[xK _ _ _ (by omega)]at hd;cases hr:ng (bD b) R.wide (R.high-1) R.wide false [] [] "hmK" 0 with
  |error e=>rw[hr]at hd;cases hd
  |ok p=>
   obtain⟨ps',qs',t',n⟩:=p;rw[hr]at hd;replace hd:(if n<(bD b).length then Except.error n else Except.ok (ps',qs',t'))=Except.ok (ps,qs,t):=hd;have lb:(bD b).length=b.length:=by unfold bD;rw[OU]
   split at hd
   ·cases hd
   ·cases hd
    rename_i hn
    show Oc R _ (if(cu b n).rest≠[]then .error (1,(cu b n).at_)else _);rw[OV (by show¬b.drop n≠[];intro z;exact z (Qy (by omega)))];dsimp only;rw[zk];have hq:∀e∈(bt R.wide R.high).zip (ps.zip qs),(Option.any (λ(x:Pz×Nat×Nat)=> !Tafl.mayStand x.1 (R.kindAt x.2.1)) (nX e))= !iF (r.ground.getD e.1.toNat 0) e.2.1:=λe he=>by
     obtain⟨ec,ev,eq'⟩:=e;have h1:=QA he;have h2:=QA h1.2;obtain⟨n,en,n1,_⟩:=wT Q.tT Q.uE h1.1;obtain⟨w0,w3⟩:=v1 _ h2.1;unfold nX;dsimp only
     by_cases z:ev=0
     ·rw[OW z,z]
      have:iF (r.ground.getD ec.toNat 0) 0=true:=rfl;rw[this];rfl
     ·rw[OV z]
      show(!Tafl.mayStand (pieceOf ev) (R.kindAt ec.toNat))=_;rw[en,Px,KG Q n1 (by omega)]
    have ef:((bt R.wide R.high).zip (ps.zip qs)).find? (λ(e:Int×Int×Int)=>Option.any (λ(x:Pz×Nat×Nat)=> !Tafl.mayStand x.1 (R.kindAt x.2.1)) (nX e))=((bt R.wide R.high).zip (ps.zip qs)).find? (λ(e:Int×Int×Int)=> !iF (r.ground.getD e.1.toNat 0) e.2.1):=yD hq;have ll:(Cn R.wide R.high ps qs).find? (λ(x:Pz×Nat×Nat)=> !Tafl.mayStand x.1 (R.kindAt x.2.1))=(((bt R.wide R.high).zip (ps.zip qs)).find? λ(e:Int×Int×Int)=> !iF (r.ground.getD e.1.toNat 0) e.2.1).bind nX:=by
     unfold Cn;rw[List.find?_filterMap,<-ef]
    rw[ll];cases hf:((bt R.wide R.high).zip (ps.zip qs)).find? λ(e:Int×Int×Int)=> !iF (r.ground.getD e.1.toNat 0) e.2.1 with
    |none=>
     dsimp only[Option.bind];obtain⟨tt,et⟩:∃tt:Nat,t=((tt:Nat):Int):=⟨t.toNat,by omega⟩;subst et;rw[Px];exact B4 Q v1 v2 v3 i2 (by omega)
    |some e=>
     obtain⟨ec,ev,eq'⟩:=e;have he:=Rb hf;have hp:=List.find?_some hf;have h1:=QA he;have h2:=QA h1.2;have z:ev≠0:=λz=>by
      rw[z]at hp;cases hp
     have et:nX (ec,ev,eq')=some (pieceOf ev,ec.toNat,eq'.toNat):=by unfold nX;rw[OV z]
     dsimp only[Option.bind];rw[et];have:=i1 _ h2.2;exact⟨rfl,by show eq'=((eq'.toNat:Nat):Int);omega⟩
def JY{α β:Type}(b:O_)(rel:β->α->Prop)(m:Except Nat (β×Nat))(s:Except Nat (α×Tafl.Cur)):Prop:=match m,s with
 |.error e,.error e'=>e=e'
 |.ok p,.ok q=>rel p.1 q.1/\q.2=cu b p.2
 |_,_=>False
def Oz(b:O_)(m:Except Nat (Unit×Nat))(s:Except Nat Tafl.Cur):Prop:=match m,s with
 |.error e,.error e'=>e=e'
 |.ok p,.ok q=>q=cu b p.2
 |_,_=>False
def gS(b:O_){z:Str}{l:O_}(h:z.cps.toList=l.map λ(c:UInt8)=>c.toNat)(n:Nat):Oz b (jR (bD b) z n) (Tafl.lit l (cu b n)):=by
 have:=xh b l n;unfold jR;rw[h,<-this];cases da (bD b) (l.map λ(c:UInt8)=>c.toNat) n<;>rfl
def Kv(x:UInt8):(sx Cm ((x.toNat:Nat):Int)).isSome=Tafl.isLetter x:=by
 have all:∀m:Fin 256,(sx Cm ((m.val:Nat):Int)).isSome=((decide (65<=m.val)&&decide (m.val<=90))||(decide (97<=m.val)&&decide (m.val<=122))):=by decide+kernel
 exact eK (P:=λm=>(sx Cm ((m:Nat):Int)).isSome=((decide (65<=m)&&decide (m<=90))||(decide (97<=m)&&decide (m<=122)))) all x
def MI(x:UInt8):(sx (Cm++fL) ((x.toNat:Nat):Int)).isSome=(Tafl.isLetter x||Tafl.isDigit x):=by
 have all:∀m:Fin 256,(sx (Cm++fL) ((m.val:Nat):Int)).isSome=(((decide (65<=m.val)&&decide (m.val<=90))||(decide (97<=m.val)&&decide (m.val<=122)))||(decide (48<=m.val)&&decide (m.val<=57))):=by decide+kernel
 exact eK (P:=λm=>(sx (Cm++fL) ((m:Nat):Int)).isSome=(((decide (65<=m)&&decide (m<=90))||(decide (97<=m)&&decide (m<=122)))||(decide (48<=m)&&decide (m<=57)))) all x
def Er(b:O_):∀(k n:Nat),(Tafl.some_ (λ(y:UInt8)=>Tafl.isLetter y||Tafl.isDigit y) k (cu b n)).2=cu b (fS (bD b) k n)
 |0,n=>rfl
 |k+1,n=>by
  have es:fS (bD b) (k+1) n=if bd (Cm++fL) (bD b) n=true then fS (bD b) k (n+1)else n:=rfl;unfold Tafl.some_;rw[hJ,es,xn];cases hb:b[n]? with
  |none=>rfl
  |some x=>
   rw[Qm,MI];dsimp only
   by_cases h:(Tafl.isLetter x||Tafl.isDigit x)=true
   ·rw[OW h,OW h,oV]
    exact Er b k (n+1)
   ·rw[OV h,OV h]
def HN(b:O_)(n:Nat):JY b (λ(_:Unit)(_:O_)=>True) (Bd (B1 (bD b) n)) (Tafl.nameIn (cu b n)):=by
 unfold B1 Tafl.nameIn aX;rw[iO,hJ];cases hb:b[n]? with
 |none=>rfl
 |some x=>
  rw[Qm];dsimp only;have hl:=Kv x;cases hs:sx Cm ((x.toNat:Nat):Int)with
  |none=>
   rw[hs]at hl;rw[OV (by rw[<-hl];exact O3)];rfl
  |some k=>
   rw[hs]at hl;rw[OW (by rw[<-hl];rfl)];refine⟨trivial,?_⟩;have e:Tafl.some_ (λ(y:UInt8)=>Tafl.isLetter y||Tafl.isDigit y) 16 (cu b n)=(x::(Tafl.some_ (λ(y:UInt8)=>Tafl.isLetter y||Tafl.isDigit y) 15 (cu b n).on).1,(Tafl.some_ (λ(y:UInt8)=>Tafl.isLetter y||Tafl.isDigit y) 15 (cu b n).on).2):=by
    conv=>lhs;unfold Tafl.some_
    rw[hJ,hb];dsimp only;rw[OW (by rw[<-hl];rfl)]
   rw[e,oV];exact Er b 15 (n+1)
def ff(lo hi d x:Nat):Bool:=(decide (48<=x)&&decide (x<=57))&&(decide (0<10*d+(x-48))&&Tafl.begins lo hi (10*d+(x-48)))
def Bu(lo hi f d:Nat)(b:O_)(n:Nat):Tafl.numberFrom lo hi (f+1) d (cu b n)=(match b[n]? with
  |some x=>if ff lo hi d x.toNat=true then Tafl.numberFrom lo hi f (10*d+(x.toNat-48)) (cu b (n+1))else if lo<=d/\d<=hi then .ok (d,cu b n)else .error n
  |none=>if lo<=d/\d<=hi then .ok (d,cu b n)else .error n):=by
 conv=>lhs;unfold Tafl.numberFrom
 rw[hJ];cases b[n]? with
 |none=>rfl
 |some x=>
  dsimp only;have e:(Tafl.isDigit x=true/\0<10*d+(x.toNat-48)/\Tafl.begins lo hi (10*d+(x.toNat-48))=true)↔ff lo hi d x.toNat=true:=by
   unfold ff Tafl.isDigit;simp only[Pe,O9]
  by_cases h:ff lo hi d x.toNat=true
  ·rw[OW (e.mpr h),OW h,oV]
  ·rw[OV (λz=>h (e.mp z)),OV h]
   rfl
def OM(x:UInt8):ff 5 13 0 x.toNat=(decide (x.toNat=49)||(decide (53<=x.toNat)&&decide (x.toNat<=57))):=by
 have all:∀m:Fin 256,ff 5 13 0 m.val=(decide (m.val=49)||(decide (53<=m.val)&&decide (m.val<=57))):=by decide+kernel
 exact eK (P:=λm=>ff 5 13 0 m=(decide (m=49)||(decide (53<=m)&&decide (m<=57)))) all x
def ON(x:UInt8):ff 5 13 1 x.toNat=(decide (48<=x.toNat)&&decide (x.toNat<=51)):=by
 have all:∀m:Fin 256,ff 5 13 1 m.val=(decide (48<=m.val)&&decide (m.val<=51)):=by decide+kernel
 exact eK (P:=λm=>ff 5 13 1 m=(decide (48<=m)&&decide (m<=51))) all x
def go2{d:Nat}(h5:5<=d)(uE:d<=13)(x:UInt8):ff 5 13 d x.toNat=false:=by
 have all:∀(k:Fin 14)(m:Fin 256),5<=k.val->ff 5 13 k.val m.val=false:=by decide+kernel
 exact all ⟨d,by omega⟩ ⟨x.toNat,x.toNat_lt⟩ h5
def Hb{f d:Nat}(h5:5<=d)(uE:d<=13)(b:O_)(n:Nat):Tafl.numberFrom 5 13 (f+1) d (cu b n)=.ok (d,cu b n):=by
 rw[Bu];cases b[n]? with
 |none=>
  dsimp only;rw[OW ⟨h5,uE⟩]
 |some x=>
  dsimp only;rw[go2 h5 uE,OV O3,OW ⟨h5,uE⟩]
def Ju(x:UInt8):sx "0123" ((x.toNat:Nat):Int)=if 48<=x.toNat/\x.toNat<=51 then some (x.toNat-48)else none:=by
 have all:∀m:Fin 256,sx "0123" ((m.val:Nat):Int)=if 48<=m.val/\m.val<=51 then some (m.val-48)else none:=by decide+kernel
 exact eK (P:=λm=>sx "0123" ((m:Nat):Int)=if 48<=m/\m<=51 then some (m-48)else none) all x
def Hq(x:UInt8):sx "56789" ((x.toNat:Nat):Int)=if 53<=x.toNat/\x.toNat<=57 then some (x.toNat-53)else none:=by
 have all:∀m:Fin 256,sx "56789" ((m.val:Nat):Int)=if 53<=m.val/\m.val<=57 then some (m.val-53)else none:=by decide+kernel
 exact eK (P:=λm=>sx "56789" ((m:Nat):Int)=if 53<=m/\m<=57 then some (m-53)else none) all x
def DN(b:O_)(n:Nat):JY b (λ(i:Int)(w:Nat)=>i=((w:Nat):Int)) (jz (tJ (bD b) n)) (Tafl.number 5 13 (cu b n)):=by
 unfold Tafl.number tJ aX;rw[Bu,iO,iO,ui];cases hb:b[n]? with
 |none=>
  rw[OV (λz=>nomatch z)];dsimp only;rw[OV (by decide)];rfl
 |some x=>
  dsimp only;rw[OM]
  by_cases h1:x.toNat=49
  ·rw[OW (show Option.map (λ(c:UInt8)=>((c.toNat:Nat):Int)) (some x)=some 49 from by show some ((x.toNat:Nat):Int)=some 49;rw[h1];rfl),O0 h1,Bool.true_or,OW rfl,h1,Bu]
   cases hc:b[n+1]? with
   |none=>
    dsimp only;rw[OV (by decide)];rfl
   |some y=>
    dsimp only;rw[Qm,Ju,show 10*0+(49-48)=1 from rfl,ON]
    by_cases hy:48<=y.toNat/\y.toNat<=51
    ·rw[OW hy,OW (by rw[O0 hy.1,O0 hy.2];rfl),Hb (by omega) (by omega)]
     exact⟨by show(10:Int)+((y.toNat-48:Nat):Int)=((10*1+(y.toNat-48):Nat):Int);omega,rfl⟩
    ·rw[OV hy,OV (λz=>hy (by rw[Pe,O9,O9]at z;exact z)),OV (by decide)]
     rfl
  ·rw[OV (show¬Option.map (λ(c:UInt8)=>((c.toNat:Nat):Int)) (some x)=some 49 fromλz=>h1 (by have:((x.toNat:Nat):Int)=49:=Pu z;omega)),PF h1,Bool.false_or,Qm,Hq]
   by_cases hx:53<=x.toNat/\x.toNat<=57
   ·rw[OW hx,OW (by rw[O0 hx.1,O0 hx.2];rfl),Hb (by omega) (by omega)]
    exact⟨by show(5:Int)+((x.toNat-53:Nat):Int)=((10*0+(x.toNat-48):Nat):Int);omega,rfl⟩
   ·rw[OV hx,OV (λz=>hx (by rw[Pe,O9,O9]at z;exact z)),OV (by decide)]
    rfl
def yg{v:Nat}(h:0<v):Tafl.begins 1 60000 v=decide (v<=60000):=by
 unfold Tafl.begins;rw[Qg,Qk,O9];constructor
 ·rintro⟨k,hk,e⟩
  rw[Pe,O9,O9]at e;have:1<=10^k:=Nat.pow_pos (by decide);have:v*1<=v*10^k:=Nat.mul_le_mul_left _ this;omega
 ·intro h2
  exact⟨0,by decide,by rw[Pe,O9,O9];simp;omega⟩
def K8{k:Nat}(hk:k<=10)(x:UInt8):(sx (gd fL none (some ((k:Nat):Int))) ((x.toNat:Nat):Int)).isSome=(decide (48<=x.toNat)&&decide (x.toNat<48+k)):=by
 have all:∀(k:Fin 11)(m:Fin 256),(sx (gd fL none (some ((k.val:Nat):Int))) ((m.val:Nat):Int)).isSome=(decide (48<=m.val)&&decide (m.val<48+k.val)):=by decide+kernel
 exact all ⟨k,by omega⟩ ⟨x.toNat,x.toNat_lt⟩
def Io{d:Nat}:zb ((d:Nat):Int)=((min 10 (60001-10*d):Nat):Int):=by
 unfold zb;split<;>split<;>omega
def Kg{d:Nat}(hd:1<=d)(x:UInt8):ff 1 60000 d x.toNat=(sx (gd fL none (some (zb ((d:Nat):Int)))) ((x.toNat:Nat):Int)).isSome:=by
 rw[Io,K8 (by omega)];unfold ff
 by_cases h:48<=x.toNat/\x.toNat<=57
 ·rw[O0 h.1,O0 h.2,yg (by omega),O0 (show 0<10*d+(x.toNat-48) by omega)]
  simp only[Bool.true_and];rw[Re];omega
 ·have e1:(decide (48<=x.toNat)&&decide (x.toNat<=57))=false:=by
   rw[Bool.and_eq_false_iff,Rm,Rm];omega
  rw[e1,Bool.false_and]
  symm
  rw[Bool.and_eq_false_iff,Rm,Rm];omega
def By(b:O_):∀(f f' d n:Nat),1<=d->d<=60000->60000<d*10^f->60000<d*10^f'->JY b (λ(i:Int)(w:Nat)=>i=((w:Nat):Int)) (jz (gJ (bD b) f' ((d:Nat):Int) n)) (Tafl.numberFrom 1 60000 f d (cu b n))
 |0,_,d,_,_,h2,h3,_=>absurd h3 (by simp;omega)
 |f+1,0,d,_,_,h2,_,h4=>absurd h4 (by simp;omega)
 |f+1,f'+1,d,n,h1,h2,h3,h4=>by
  rw[Bu];unfold gJ;rw[xn];cases hb:b[n]? with
  |none=>
   dsimp only;rw[OV (show¬((none:Option UInt8).bind λ(c:UInt8)=>sx (gd fL none (some (zb ((d:Nat):Int)))) ((c.toNat:Nat):Int)).isSome=true from O3),OW ⟨h1,h2⟩];exact⟨rfl,rfl⟩
  |some x=>
   dsimp only;rw[Qm,<-Kg h1]
   by_cases h:ff 1 60000 d x.toNat=true
   ·rw[OW h,OW h]
    have hg:=h;unfold ff at hg;rw[Pe,Pe,Pe,O9,O9,O9]at hg;rw[yg (by omega),O9]at hg;have eo:aX fL (bD b) n=.ok (V.int ((x.toNat-48:Nat):Int),n+1):=by
     unfold aX;rw[iO,hb,Qm,Ep x hg.1]
    rw[eo];dsimp only;have e:10*((d:Nat):Int)+((x.toNat-48:Nat):Int)=((10*d+(x.toNat-48):Nat):Int):=by omega
    rw[e];have m1:d*10^(f+1)<=(10*d+(x.toNat-48))*10^f:=by
     rw[Nat.pow_succ,Nat.mul_comm (10^f) 10,<-Nat.mul_assoc];exact QD _ (by omega)
    have m2:d*10^(f'+1)<=(10*d+(x.toNat-48))*10^f':=by
     rw[Nat.pow_succ,Nat.mul_comm (10^f') 10,<-Nat.mul_assoc];exact QD _ (by omega)
    exact By b f f' _ (n+1) (by omega) (by omega) (by omega) (by omega)
   ·rw[OV h,OV h,OW ⟨h1,h2⟩]
    exact⟨rfl,rfl⟩
def MD(x:UInt8):ff 1 60000 0 x.toNat=(decide (49<=x.toNat)&&decide (x.toNat<=57)):=by
 have all:∀m:Fin 256,ff 1 60000 0 m.val=(decide (49<=m.val)&&decide (m.val<=57)):=by decide+kernel
 exact eK (P:=λm=>ff 1 60000 0 m=(decide (49<=m)&&decide (m<=57))) all x
def MW(x:UInt8):sx "123456789" ((x.toNat:Nat):Int)=if 49<=x.toNat/\x.toNat<=57 then some (x.toNat-49)else none:=by
 have all:∀m:Fin 256,sx "123456789" ((m.val:Nat):Int)=if 49<=m.val/\m.val<=57 then some (m.val-49)else none:=by decide+kernel
 exact eK (P:=λm=>sx "123456789" ((m:Nat):Int)=if 49<=m/\m<=57 then some (m-49)else none) all x
def Ku(b:O_)(n:Nat):JY b (λ(i:Int)(w:Nat)=>i=((w:Nat):Int)) (jz (Af (bD b) n)) (Tafl.number 1 60000 (cu b n)):=by
 unfold Tafl.number Af aX;rw[Bu,iO];cases hb:b[n]? with
 |none=>
  dsimp only;rw[OV (by decide)];rfl
 |some x=>
  dsimp only;rw[MD,Qm,MW]
  by_cases hx:49<=x.toNat/\x.toNat<=57
  ·rw[OW hx,OW (by rw[O0 hx.1,O0 hx.2];rfl)]
   dsimp only;have e:(1:Int)+((x.toNat-49:Nat):Int)=((10*0+(x.toNat-48):Nat):Int):=by omega
   rw[e];exact By b 5 6 _ (n+1) (by omega) (by omega) (by omega) (by omega)
  ·rw[OV hx,OV (λz=>hx (by rw[Pe,O9,O9]at z;exact z)),OV (by decide)]
   rfl
def bytesOf(w:Str):O_:=w.cps.toList.map UInt8.ofNat
structure OD(ws:List Str)(told:Nat)(left:List Str):Prop where
 ne:left≠[]
 s:∀v∈left,v∈ws/\told<v.cps.toList.length
 t:∀v∈left,∀v'∈left,v.cps.toList.take told=v'.cps.toList.take told
def EX{w:Str}{told:Nat}(h:told<w.cps.toList.length)(hb:∀c∈w.cps.toList,c<256):((bytesOf w).drop told).head? =some (UInt8.ofNat (w.cps.toList.getD told 0))/\w.cps.toList.getD told 0<256:=by
 have e:w.cps.toList.getD told 0=w.cps.toList[told]:=by simp[List.getD,OY h]
 refine⟨?_,by rw[e];exact hb _ (Rh h)⟩;unfold bytesOf;rw[List.head?_drop,Ph,OY h,e];rfl
def zD(b:O_){ws:List Str}(W:Fp ws)(hb:∀w∈ws,∀c∈w.cps.toList,c<256)(ix:Str->Nat)(hix:∀w∈ws,ws.findIdx (λu=>decide (u=w))=ix w):∀(m told:Nat)(left:List Str)(n:Nat),m+told=15->OD ws told left->JY b (λ(i:Int)(w:Nat)=>i=((w:Nat):Int)) (jz (b8 (bD b) ws m told left n)) (Tafl.oneOf (m+1) (left.map λ(w:Str)=>(ix w,(bytesOf w).drop told)) (cu b n))
 |0,told,left,n,hm,S=>by
  obtain⟨v,hv⟩:=List.exists_mem_of_ne_nil _ S.ne;obtain⟨h1,h2⟩:=S.s v hv;have:=(W.p v h1).2;omega
 |m+1,told,left,n,hm,S=>by
  have lenB:∀w:Str,(bytesOf w).length=w.cps.toList.length:=λw=>by unfold bytesOf;rw[OU]
  have e0:(left.map λ(w:Str)=>(ix w,(bytesOf w).drop told)).find? (λ(w:Nat×O_)=>w.2.isEmpty)=none:=by
   rw[List.find?_eq_none];intro x hx;obtain⟨w,hw,rfl⟩:=Pg.mp hx;have:=(S.s w hw).2;intro z;have z:(bytesOf w).drop told=[]:=by simpa using z
   have:=P_ List.length z;rw[QY,lenB,List.length_nil]at this;omega
  have eo:Tafl.oneOf (m+1+1) (left.map λ(w:Str)=>(ix w,(bytesOf w).drop told)) (cu b n)=(match(cu b n).next with
    |none=>.error (cu b n).at_
    |some x=>if((left.map λ(w:Str)=>(ix w,(bytesOf w).drop told)).filterMap λ(w:Nat×O_)=>if w.2.head? =some x then some (w.1,w.2.drop 1)else none).isEmpty=true then .error (cu b n).at_ else Tafl.oneOf (m+1) ((left.map λ(w:Str)=>(ix w,(bytesOf w).drop told)).filterMap λ(w:Nat×O_)=>if w.2.head? =some x then some (w.1,w.2.drop 1)else none) (cu b n).on):=by
   conv=>lhs;unfold Tafl.oneOf
   rw[e0];rfl
  rw[eo,hJ];have hit:∀w∈left,∀x:UInt8,b[n]? =some x->(mR (bD b) n told w=true↔((bytesOf w).drop told).head? =some x):=λw hw x hx=>by
   obtain⟨h1,h2⟩:=S.s w hw;obtain⟨d1,d2⟩:=EX h2 (hb w h1);unfold mR;rw[d1,ui,hx,Qj];constructor
   ·intro e
    have e:((x.toNat:Nat):Int)=((w.cps.toList.getD told 0:Nat):Int):=Pu e;have e:w.cps.toList.getD told 0=x.toNat:=by omega
    rw[e,UInt8.ofNat_toNat]
   ·intro e
    have e:UInt8.ofNat (w.cps.toList.getD told 0)=x:=Pu e;rw[<-e,Option.map_some,UInt8.toNat_ofNat',Nat.mod_eq_of_lt d2]
  cases hx:b[n]? with
  |none=>
   have ef:left.filter (mR (bD b) n told)=[]:=by
    rw[List.filter_eq_nil_iff];intro w _;unfold mR;rw[ui,hx];exact O3
   have ew:b8 (bD b) ws (m+1) told left n=.error n:=by unfold b8;rw[ef]
   rw[ew];rfl
  |some x=>
   dsimp only;have ef:(left.map λ(w:Str)=>(ix w,(bytesOf w).drop told)).filterMap (λ(w:Nat×O_)=>if w.2.head? =some x then some (w.1,w.2.drop 1)else none)=(left.filter (mR (bD b) n told)).map λ(w:Str)=>(ix w,(bytesOf w).drop (told+1)):=by
    rw[List.filterMap_map];have:∀l:List Str,(∀w∈l,w∈left)->l.filterMap ((λ(w:Nat×O_)=>if w.2.head? =some x then some (w.1,w.2.drop 1)else none)∘λ(w:Str)=>(ix w,(bytesOf w).drop told))=(l.filter (mR (bD b) n told)).map λ(w:Str)=>(ix w,(bytesOf w).drop (told+1)):=λl=>by
     induction l with
     |nil=>intro _;rfl
     |cons w l ih=>
      intro hl;have hw:=hit w (hl w O8) x hx;rw[List.filter_cons]
      by_cases h:mR (bD b) n told w=true
      ·have hf:((λ(w:Nat×O_)=>if w.2.head? =some x then some (w.1,w.2.drop 1)else none)∘λ(w:Str)=>(ix w,(bytesOf w).drop told)) w=some (ix w,(bytesOf w).drop (told+1)):=by
        show(if((bytesOf w).drop told).head? =some x then some (ix w,((bytesOf w).drop told).drop 1)else none)=_;rw[OW (hw.mp h),List.drop_drop]
       rw[OW h,PY,List.filterMap_cons_some hf,ih λu hu=>hl u (Pa _ hu)]
      ·have hf:((λ(w:Nat×O_)=>if w.2.head? =some x then some (w.1,w.2.drop 1)else none)∘λ(w:Str)=>(ix w,(bytesOf w).drop told)) w=none:=by
        show(if((bytesOf w).drop told).head? =some x then some (ix w,((bytesOf w).drop told).drop 1)else none)=_;rw[OV (λz=>h (hw.mpr z))]
       rw[OV h,List.filterMap_cons_none hf];exact ih λu hu=>hl u (Pa _ hu)
    exact this left λw hw=>hw
   rw[ef,oV];cases hl:left.filter (mR (bD b) n told)with
   |nil=>
    have ew:b8 (bD b) ws (m+1) told left n=.error n:=by unfold b8;rw[hl]
    rw[ew];rfl
   |cons v l=>
    have fm:∀y∈v::l,y∈left/\mR (bD b) n told y=true:=λy hy=>by rw[<-hl]at hy;exact PR.mp hy
    have vl:=S.s v (fm v O8).1;have pre:∀y∈v::l,∀y'∈v::l,y.cps.toList.take (told+1)=y'.cps.toList.take (told+1):=λy hy y' hy'=>by
     obtain⟨y1,y2⟩:=fm y hy;obtain⟨z1,z2⟩:=fm y' hy';refine xS (S.s y y1).2 (S.s y' z1).2 (S.t y y1 y' z1) ?_;have q1:(bD b)[n]? =some _:=eq_of_beq y2;have q2:(bD b)[n]? =some _:=eq_of_beq z2;rw[q1]at q2;have:=Pu q2;omega
    have short:∀y∈v::l,∀y'∈v::l,y.cps.toList.length=told+1->y'=y:=λy hy y' hy' hlen=>by
     have te:=pre y hy y' hy';rw[PB (by omega)]at te;have pf:y.cps.toList<+:y'.cps.toList:=by rw[te];exact List.take_prefix _ _
     exact(W.f y (S.s y (fm y hy).1).1 y' (S.s y' (fm y' hy').1).1 pf).symm
    have step:b8 (bD b) ws (m+1) told left n=if v.length=told+1 then .ok (.int (ws.findIdx (λu=>decide (u=v)):Nat),n+1)else b8 (bD b) ws m (told+1) (v::l) (n+1):=by
     conv=>lhs;unfold b8
     rw[hl]
    rw[step,OV (show¬(List.map (λ(w:Str)=>(ix w,(bytesOf w).drop (told+1))) (v::l)).isEmpty=true from by simp)]
    by_cases hv:v.length=told+1
    ·rw[OW hv]
     rw[str_len]at hv;have e1:((v::l).map λ(w:Str)=>(ix w,(bytesOf w).drop (told+1))).find? (λ(w:Nat×O_)=>w.2.isEmpty)=some (ix v,[]):=by
      have ed:(bytesOf v).drop (told+1)=[]:=Qy (by rw[lenB];omega);rw[PY,List.find?_cons,ed];rfl
     have eo2:Tafl.oneOf (m+1) ((v::l).map λ(w:Str)=>(ix w,(bytesOf w).drop (told+1))) (cu b (n+1))=.ok (ix v,cu b (n+1)):=by
      unfold Tafl.oneOf;rw[e1]
     rw[eo2];exact⟨by show((ws.findIdx (λu=>decide (u=v)):Nat):Int)=_;rw[hix v vl.1],rfl⟩
    ·rw[OV hv]
     rw[str_len]at hv;refine zD b W hb ix hix m (told+1) (v::l) (n+1) (by omega) ⟨by simp,λy hy=>⟨(S.s y (fm y hy).1).1,?_⟩,pre⟩;have h2:=(S.s y (fm y hy).1).2;rcases Q2 (told+1) y.cps.toList.length with z|z
     ·exact z
     ·exfalso
      have hy2:y.cps.toList.length=told+1:=by omega
      have:=short y hy v O8 hy2;rw[this]at hv;exact hv hy2
def Ja(b:O_){ws:List Str}{l:List String}(W:Fp ws)(hb:∀w∈ws,∀c∈w.cps.toList,c<256)(h0:ws≠[])(hl:(List.range l.length).map (λ(i:Nat)=>(i,Tafl.ascii (l.getD i "")))=ws.map λ(w:Str)=>(ws.findIdx (λu=>decide (u=w)),bytesOf w))(n:Nat):JY b (λ(i:Int)(w:Nat)=>i=((w:Nat):Int)) (jz (b8 (bD b) ws 15 0 ws n)) (Tafl.word l (cu b n)):=by
 unfold Tafl.word;rw[hl];exact zD b W hb (λw=>ws.findIdx (λu=>decide (u=w))) (λw _=>rfl) 15 0 ws n rfl ⟨h0,λv hv=>⟨hv,(W.p v hv).1⟩,λv _ v' _=>by simp⟩
def LD{α:Type}(code:α->Nat):Nat->List α->List (Nat×Nat)
 |_,[]=>[]
 |n,k::l=>(n,code k)::LD code (n+1) l
def sU{α:Type}(code:α->Nat)(rows:List (List α))(at_:List Nat):List (Nat×Nat):=(rows.zip at_).flatMap λ(p:List α×Nat)=>LD code p.2 p.1
def ib:Tafl.Kind->Nat
 |.plain=>0
 |.seat=>1
 |.exit=>2
 |.wall=>3
def e8:Pz->Nat
 |.none=>0
 |.hunter=>1
 |.man=>2
 |.king=>3
def I_(x:UInt8):sx ".SX#" ((x.toNat:Nat):Int)=(Tafl.kindSign x).map ib:=by
 have all:∀m:Fin 256,sx ".SX#" ((m.val:Nat):Int)=(Tafl.kindSign (UInt8.ofNat m.val)).map ib:=by decide+kernel
 have:=all ⟨x.toNat,x.toNat_lt⟩;rw[show UInt8.ofNat (⟨x.toNat,x.toNat_lt⟩:Fin 256).val=x from UInt8.ofNat_toNat]at this;exact this
def Ha(x:UInt8):sx ".hmK" ((x.toNat:Nat):Int)=(Tafl.pieceSign x).map e8:=by
 have all:∀m:Fin 256,sx ".hmK" ((m.val:Nat):Int)=(Tafl.pieceSign (UInt8.ofNat m.val)).map e8:=by decide+kernel
 have:=all ⟨x.toNat,x.toNat_lt⟩;rw[show UInt8.ofNat (⟨x.toNat,x.toNat_lt⟩:Fin 256).val=x from UInt8.ofNat_toNat]at this;exact this
def oh(z:Str)(ns:List Int)(k:Nat)(acc:List (Nat×Nat))(n:Nat):Except Nat (List (Nat×Nat)×Nat):=wr ns (λacc m=>.ok (acc,m)) (hU z ns k acc n)
def G4{α:Type}(b:O_){z:Str}{sign:UInt8->Option α}{code:α->Nat}(hs:∀x:UInt8,sx z ((x.toNat:Nat):Int)=(sign x).map code):∀(k:Nat)(acc:List (Nat×Nat))(n:Nat),(∀e,oh z (bD b) k acc n=.error e->Tafl.rowIn sign k (cu b n)=.error e)/\(∀acc' m,oh z (bD b) k acc n=.ok (acc',m)->∃row,Tafl.rowIn sign k (cu b n)=.ok (row,cu b m)/\acc'=acc++LD code n row/\row.length=k)
 |0,acc,n=>by
  have hl:=xh b [Tafl.LF] n;have e10:([Tafl.LF]:List UInt8).map (λ(c:UInt8)=>c.toNat)=[10]:=rfl;rw[e10]at hl;have er:Tafl.rowIn sign 0 (cu b n)=(Tafl.lit [Tafl.LF] (cu b n)).map λ(d:Tafl.Cur)=>([],d):=rfl;have ec:oh z (bD b) 0 acc n=(match da (bD b) [10] n with|.error e=>.error e|.ok m=>.ok (acc,m)):=rfl;rw[er,ec,<-hl];cases da (bD b) [10] n with
  |error e=>exact⟨λe' h=>by cases h;rfl,λacc' m h=>by cases h⟩
  |ok m'=>
   refine⟨λe' h=>(by cases h),λacc' m h=>?_⟩;cases h;exact⟨[],rfl,by simp[LD],rfl⟩
 |k+1,acc,n=>by
  have ec:oh z (bD b) (k+1) acc n=(match cN z (bD b) n with|none=>.error n|some i=>oh z (bD b) k (acc++[(n,i)]) (n+1)):=by
   unfold oh
   conv=>lhs;unfold hU
   cases cN z (bD b) n<;>rfl
  rw[ec,iO];unfold Tafl.rowIn;rw[hJ];cases hb:b[n]? with
  |none=>exact⟨λe' h=>by cases h;rfl,λacc' m h=>by cases h⟩
  |some x=>
   rw[Qm,Qm,hs];cases hx:sign x with
   |none=>exact⟨λe' h=>by cases h;rfl,λacc' m h=>by cases h⟩
   |some kd=>
    rw[Option.map_some];dsimp only;obtain⟨i1,i2⟩:=G4 b hs k (acc++[(n,code kd)]) (n+1);rw[oV];refine⟨λe h=>by rw[i1 e h];rfl,λacc' m h=>?_⟩;obtain⟨row,r1,r2,r3⟩:=i2 acc' m h;refine⟨kd::row,by rw[r1];rfl,?_,by rw[Pt,r3]⟩;rw[r2,P9];rfl
def MX{α:Type}(b:O_)(rel:List (Nat×Nat)->List (List α)->List Nat->Prop)(m:Except Nat (List (Nat×Nat)×Nat))(s:Except Nat (List (List α)×List Nat×Tafl.Cur)):Prop:=match m,s with
 |.error e,.error e'=>e=e'
 |.ok p,.ok q=>rel p.1 q.1 q.2.1/\q.2.2=cu b p.2
 |_,_=>False
def Bf{α:Type}(b:O_){z:Str}{sign:UInt8->Option α}{code:α->Nat}(hs:∀x:UInt8,sx z ((x.toNat:Nat):Int)=(sign x).map code)(wide:Nat):∀(h:Nat)(acc:List (Nat×Nat))(n:Nat),MX b (λl rows at_=>l=acc++sU code rows at_/\rows.length=h/\(∀row∈rows,row.length=wide)/\at_.length=h) (eB z (bD b) wide h acc n) (Tafl.rowsIn sign wide h (cu b n))
 |0,acc,n=>⟨⟨by simp[sU],rfl,λrow hr=>(by cases hr),rfl⟩,rfl⟩
 |h+1,acc,n=>by
  have ec:eB z (bD b) wide (h+1) acc n=(match oh z (bD b) wide acc n with|.error e=>.error e|.ok p=>eB z (bD b) wide h p.1 p.2):=by
   conv=>lhs;unfold eB
   unfold oh wr;cases hU z (bD b) wide acc n with
   |error e=>rfl
   |ok p=>
    obtain⟨q1,q2⟩:=p;dsimp only;cases da (bD b) [10] q2<;>rfl
  obtain⟨i1,i2⟩:=G4 b hs wide acc n;rw[ec];unfold Tafl.rowsIn;cases hc:oh z (bD b) wide acc n with
  |error e=>
   rw[i1 e hc];rfl
  |ok p=>
   obtain⟨acc',m⟩:=p;obtain⟨row,r1,r2,r3⟩:=i2 acc' m hc;rw[r1];dsimp only;have ih:=Bf b hs wide h acc' m;show MX b _ _ ((Tafl.rowsIn sign wide h (cu b m))>>=λ(x:List (List α)×List Nat×Tafl.Cur)=>_);cases hr:eB z (bD b) wide h acc' m with
   |error e=>
    rw[hr]at ih;cases hr2:Tafl.rowsIn sign wide h (cu b m)with
    |error e'=>rw[hr2]at ih;exact ih
    |ok q=>rw[hr2]at ih;exact ih.elim
   |ok q=>
    rw[hr]at ih;cases hr2:Tafl.rowsIn sign wide h (cu b m)with
    |error e'=>rw[hr2]at ih;exact ih.elim
    |ok q'=>
     rw[hr2]at ih;obtain⟨⟨j1,j2,j3,j4⟩,j5⟩:=ih;obtain⟨rows,at_,c⟩:=q';refine⟨⟨?_,by show rows.length+1=_;rw[show rows.length=h from j2],λr' hr'=>?_,by show at_.length+1=_;rw[show at_.length=h from j4]⟩,j5⟩
     ·show q.1=acc++sU code (row::rows) (n::at_)
      rw[show q.1=acc'++sU code rows at_ from j1,r2,P9];rfl
     ·rcases Po.mp hr' with e|e
      ·rw[e]
       exact r3
      ·exact j3 r' e
def D0{α:Type}(b:O_){z:Str}{sign:UInt8->Option α}{code:α->Nat}(hs:∀x:UInt8,sx z ((x.toNat:Nat):Int)=(sign x).map code)(wide h n:Nat):MX b (λl rows at_=>l=sU code rows at_/\rows.length=h/\(∀row∈rows,row.length=wide)/\at_.length=h) (eB z (bD b) wide h [] n) (Tafl.rowsIn sign wide h (cu b n)):=by
 have:=Bf b hs wide h [] n;simpa using this
structure HC(b:O_)(d:DR)(R:O1):Prop where
 w:d.wide=R.wide
 h:d.high=R.high
 g:d.ground=sU ib R.ground R.groundAt
 gl:R.ground.length=R.high
 gr:∀row∈R.ground,row.length=R.wide
 ga:R.groundAt.length=R.high
 s:d.start=sU e8 R.start R.startAt
 sl:R.start.length=R.high
 sr:∀row∈R.start,row.length=R.wide
 sa:R.startAt.length=R.high
 f:d.first=((R.first:Nat):Int)
 f2:R.first<2
 sd:d.slides=b2i R.slides
 ar:d.armed=b2i R.armed
 fo:d.four=b2i R.four
 pa:d.passed=b2i R.passed
 se:d.seat=((R.seat:Nat):Int)
 OA:R.seat<4
 ex:d.exits=((R.exits:Nat):Int)
 OF:R.exits<4
 go:d.goal=((R.goal:Nat):Int)
 go2:R.goal<2
 gp:d.gw=R.goalAt
 en:d.jP=b.length
def yM(b:O_)(m:Except Nat DR)(s:Except Nat O1):Prop:=match m,s with
 |.error e,.error e'=>e=e'
 |.ok d,.ok R=>HC b d R
 |_,_=>False
def eS{b:O_}{m:Except Nat (Unit×Nat)}{s:Except Nat Tafl.Cur}{f:Unit->Nat->Except Nat DR}{g:Tafl.Cur->Except Nat O1}(h:Oz b m s)(k:∀n,yM b (f () n) (g (cu b n))):yM b (kW m f) (s>>=g):=by
 cases m with
 |error e=>cases s with
  |error e'=>exact h
  |ok c=>exact h.elim
 |ok p=>cases s with
  |error e'=>exact h.elim
  |ok c=>
   have h:c=cu b p.2:=h;subst h;exact k p.2
def gB{α β:Type}{b:O_}{rel:β->α->Prop}{m:Except Nat (β×Nat)}{s:Except Nat (α×Tafl.Cur)}{f:β->Nat->Except Nat DR}{g:α×Tafl.Cur->Except Nat O1}(h:JY b rel m s)(k:∀v w n,rel v w->yM b (f v n) (g (w,cu b n))):yM b (kW m f) (s>>=g):=by
 cases m with
 |error e=>cases s with
  |error e'=>exact h
  |ok c=>exact h.elim
 |ok p=>cases s with
  |error e'=>exact h.elim
  |ok c=>
   obtain⟨w,c⟩:=c;obtain⟨h1,h2⟩:=h;have h2:c=cu b p.2:=h2;subst h2;exact k p.1 w p.2 h1
def Bk{α:Type}{b:O_}{rel:List (Nat×Nat)->List (List α)->List Nat->Prop}{m:Except Nat (List (Nat×Nat)×Nat)}{s:Except Nat (List (List α)×List Nat×Tafl.Cur)}{f:List (Nat×Nat)->Nat->Except Nat DR}{g:List (List α)×List Nat×Tafl.Cur->Except Nat O1}(h:MX b rel m s)(k:∀l rows at_ n,rel l rows at_->yM b (f l n) (g (rows,at_,cu b n))):yM b (kW m f) (s>>=g):=by
 cases m with
 |error e=>cases s with
  |error e'=>exact h
  |ok c=>exact h.elim
 |ok p=>cases s with
  |error e'=>exact h.elim
  |ok c=>
   obtain⟨rows,at_,c⟩:=c;obtain⟨h1,h2⟩:=h;have h2:c=cu b p.2:=h2;subst h2;exact k p.1 rows at_ p.2 h1
def Gx(b:O_){n0:Nat}{f:Unit->Nat->Except Nat DR}{g:Tafl.Cur->Except Nat O1}(k:∀n,n<=b.length->yM b (f () n) (g (cu b n))):yM b (kW (jR (bD b) "\n" n0) f) (Tafl.lit [Tafl.LF] (cu b n0)>>=g):=by
 have h:=gS b (z:="\n") (l:=[Tafl.LF]) (by decide+kernel) n0;have e:jR (bD b) "\n" n0=if(bD b)[n0]? =some 10 then .ok ((),n0+1)else .error n0:=by
  unfold jR;have e10:("\n":Str).cps.toList=[10]:=by decide+kernel
  rw[e10];show(match(if(bD b)[n0]? =some (10:Int)then da (bD b) [] (n0+1)else .error n0)with|.ok m=>Except.ok ((),m)|.error e=>Except.error e)=_
  by_cases h:(bD b)[n0]? =some 10
  ·rw[OW h,OW h]
   rfl
  ·rw[OV h,OV h]
 by_cases hc:(bD b)[n0]? =some 10
 ·rw[e,OW hc]at h ⊢
  have lt:=(O6.mp hc).1;have hl:(bD b).length=b.length:=by unfold bD;rw[OU]
  cases hs:Tafl.lit [Tafl.LF] (cu b n0)with
  |error e'=>rw[hs]at h;exact h.elim
  |ok c=>
   rw[hs]at h;have h:c=cu b (n0+1):=h;subst h;exact k (n0+1) (by omega)
 ·rw[e,OV hc]at h ⊢
  cases hs:Tafl.lit [Tafl.LF] (cu b n0)with
  |error e'=>rw[hs]at h;exact h
  |ok c=>rw[hs]at h;exact h.elim
def kt(b:O_){ws:List Str}{l:List String}(W:Fp ws)(hb:∀w∈ws,∀c∈w.cps.toList,c<256)(h0:ws≠[])(hl:(List.range l.length).map (λ(i:Nat)=>(i,Tafl.ascii (l.getD i "")))=ws.map λ(w:Str)=>(ws.findIdx (λu=>decide (u=w)),bytesOf w))(n:Nat):JY b (λ(i:Int)(w:Nat)=>i=((w:Nat):Int)/\w<ws.length) (jz (b8 (bD b) ws 15 0 ws n)) (Tafl.word l (cu b n)):=by
 have h:=Ja b W hb h0 hl n;cases hm:jz (b8 (bD b) ws 15 0 ws n)with
 |error e=>
  rw[hm]at h;cases hs:Tafl.word l (cu b n)with
  |error e'=>rw[hs]at h;exact h
  |ok q=>rw[hs]at h;exact h.elim
 |ok p=>
  obtain⟨i,m⟩:=p;rw[hm]at h;obtain⟨k,e,hk⟩:=wG ws 15 0 ws n _ (λv hv=>hv) (mZ hm);have e:V.int i=V.int ((k:Nat):Int):=e;injection e with e;cases hs:Tafl.word l (cu b n)with
  |error e=>rw[hs]at h;exact h.elim
  |ok q=>
   rw[hs]at h;obtain⟨h1,h2⟩:=h;have h1:i=((q.1:Nat):Int):=h1;exact⟨⟨h1,by show q.1<ws.length;omega⟩,h2⟩
def M6{i:Int}{w:Nat}(h:i=((w:Nat):Int)/\w<2):i=b2i (w==1):=by
 obtain⟨rfl,h⟩:=h;have:w=0\/w=1:=by omega
 rcases this with rfl|rfl<;>rfl
def CV(b:O_):yM b (iR (bD b)) (Tafl.grammar b):=by
 unfold iR Tafl.grammar;have ec:(⟨b,0⟩:Tafl.Cur)=cu b 0:=rfl;rw[ec];refine eS (gS b (by decide+kernel) _) λn=>?_;refine gB (HN b _) λ_ nm n _=>?_;dsimp only;refine eS (gS b (by decide+kernel) _) λn=>?_;refine gB (DN b _) λi_wide wide n e_wide=>?_;dsimp only;subst e_wide;rw[Px];have e_wide:wide=wide:=rfl;refine eS (gS b (by decide+kernel) _) λn=>?_;refine gB (DN b _) λi_high high n e_high=>?_;dsimp only;subst e_high;rw[Px];have e_high:high=high:=rfl;refine eS (gS b (by decide+kernel) _) λn=>?_;refine Bk (D0 b I_ _ _ _) λl_ground g_r g_p n g_e=>?_;dsimp only;refine eS (gS b (by decide+kernel) _) λn=>?_;refine Bk (D0 b Ha _ _ _) λl_start s_r s_p n s_e=>?_;dsimp only;refine eS (gS b (by decide+kernel) _) λn=>?_;refine gB (kt b wQ (by decide+kernel) (by decide) (by decide+kernel) _) λi_first w_first n e_first=>?_;dsimp only;refine eS (gS b (by decide+kernel) _) λn=>?_;refine gB (kt b uK (by decide+kernel) (by decide) (by decide+kernel) _) λi_slides w_slides n e_slides=>?_;dsimp only;refine eS (gS b (by decide+kernel) _) λn=>?_;refine gB (kt b xA (by decide+kernel) (by decide) (by decide+kernel) _) λi_armed w_armed n e_armed=>?_;dsimp only;refine eS (gS b (by decide+kernel) _) λn=>?_;refine gB (kt b zZ (by decide+kernel) (by decide) (by decide+kernel) _) λi_four w_four n e_four=>?_;dsimp only;refine eS (gS b (by decide+kernel) _) λn=>?_;refine gB (kt b u5 (by decide+kernel) (by decide) (by decide+kernel) _) λi_passed w_passed n e_passed=>?_;dsimp only;refine eS (gS b (by decide+kernel) _) λn=>?_;refine gB (kt b r9 (by decide+kernel) (by decide) (by decide+kernel) _) λi_seat w_seat n e_seat=>?_;dsimp only;refine eS (gS b (by decide+kernel) _) λn=>?_;refine gB (kt b r9 (by decide+kernel) (by decide) (by decide+kernel) _) λi_exits w_exits n e_exits=>?_;dsimp only;refine eS (gS b (by decide+kernel) _) λn=>?_;rw[CH];refine gB (kt b zF (by decide+kernel) (by decide) (by decide+kernel) _) λi_goal w_goal n e_goal=>?_;dsimp only;refine eS (gS b (by decide+kernel) _) λn=>?_;refine gB (kt b uI (by decide+kernel) (by decide) (by decide+kernel) _) λi_thrice w_thrice n e_thrice=>?_;dsimp only;refine eS (gS b (by decide+kernel) _) λn=>?_;refine gB (Ku b _) λi_limit w_limit n e_limit=>?_;dsimp only;refine Gx b λn hn=>?_;have hl:(bD b).length=b.length:=by unfold bD;rw[OU]
 show yM b (kW (BD (bD b) n) _) (if b.drop n=[]then _ else _);unfold BD
 by_cases he:n<(bD b).length
 ·rw[OW he,OV (λz=>by have:=Rz.mp z;omega)]
  rfl
 ·rw[OV he,OW (Qy (by omega)),CH]
  have en:n=b.length:=by omega
  exact⟨e_wide,e_high,g_e.1,g_e.2.1,g_e.2.2.1,g_e.2.2.2,s_e.1,s_e.2.1,s_e.2.2.1,s_e.2.2.2,e_first.1,e_first.2,M6 e_slides,M6 e_armed,M6 e_four,M6 e_passed,e_seat.1,e_seat.2,e_exits.1,e_exits.2,e_goal.1,e_goal.2,rfl,en⟩
def DT{α:Type}(code:α->Nat)(dflt:α):∀(row:List α)(n:Nat),LD code n row=(List.range row.length).map λ(x:Nat)=>(n+x,code (row.getD x dflt))
 |[],_=>rfl
 |k::row,n=>by
  rw[Pt,Q1,PY,Qa];show(n,code k)::LD code (n+1) row=_;rw[DT code dflt row (n+1)]
  congr 1
  refine QP λx _=>?_;show(n+1+x,code (row.getD x dflt))=(n+(x+1),code ((k::row).getD (x+1) dflt))
  congr 1
  omega
def ze{α:Type}(dflt:α):∀(rows:List α)(at_:List Nat),rows.length=at_.length->rows.zip at_=(List.range rows.length).map λ(i:Nat)=>(rows.getD i dflt,at_.getD i 0)
 |[],[],_=>rfl
 |r::rows,a::at_,h=>by
  rw[Pt,Q1,PY,Qa];show(r,a)::rows.zip at_=_;rw[ze dflt rows at_ (by simpa using h)];rfl
 |[],_::_,h=>by cases h
 |_::_,[],h=>by cases h
def sG{α:Type}(code:α->Nat)(dflt:α){R:O1}{rows:List (List α)}{at_:List Nat}(h1:rows.length=R.high)(h2:∀row∈rows,row.length=R.wide)(h3:at_.length=R.high):sU code rows at_=R.asWritten.map λ(p:Nat×Nat)=>(at_.getD (R.high-1-p.2) 0+p.1,code (Tafl.at_ dflt rows R.high p.1 p.2)):=by
 unfold sU Tafl.Rules.asWritten;rw[ze [] rows at_ (by omega),QR,Q0,h1];refine lD λi hi=>?_;have hi:=Pl.mp hi;have hlen:(rows.getD i []).length=R.wide:=by
  have hr:i<rows.length:=by omega
  have:rows.getD i []=rows[i]:=by simp[List.getD,OY hr]
  rw[this];exact h2 _ (Rh hr)
 dsimp only;rw[DT code dflt,hlen,Qa];refine QP λx _=>?_;have e:R.high-1-(R.high-1-i)=i:=by omega
 show(at_.getD i 0+x,code ((rows.getD i []).getD x dflt))=(at_.getD (R.high-1-(R.high-1-i)) 0+x,code (Tafl.at_ dflt rows R.high x (R.high-1-i)));unfold Tafl.at_;rw[e]
def HC.ground{b:O_}{d:DR}{R:O1}(G:HC b d R):d.ground=R.asWritten.map λ(p:Nat×Nat)=>(R.groundPlace p,ib (R.kind p.1 p.2)):=by
 rw[G.g];exact sG ib .wall G.gl G.gr G.ga
def HC.start{b:O_}{d:DR}{R:O1}(G:HC b d R):d.start=R.asWritten.map λ(p:Nat×Nat)=>(R.startPlace p,e8 (R.piece p.1 p.2)):=by
 rw[G.s];exact sG e8 .none G.sl G.sr G.sa
def sE(R:O1):bt R.wide R.high=R.asWritten.map λ(p:Nat×Nat)=>((Tafl.cellOf p.1 p.2:Nat):Int):=by
 unfold bt Tafl.Rules.asWritten;rw[Q0];refine lD λi _=>?_;rw[Qa];rfl
def dW{R:O1}{p:Nat×Nat}:p∈R.asWritten↔p.1<R.wide/\p.2<R.high:=by
 unfold Tafl.Rules.asWritten;rw[Qn];constructor
 ·rintro⟨i,hi,h⟩
  obtain⟨x,hx,rfl⟩:=Pg.mp h;have:=Pl.mp hi;have:=Pl.mp hx;exact⟨by assumption,by show R.high-1-i<R.high;omega⟩
 ·rintro⟨h1,h2⟩
  exact⟨R.high-1-p.2,Pl.mpr (by omega),Pg.mpr ⟨p.1,Pl.mpr h1,by show(p.1,R.high-1-(R.high-1-p.2))=p;have:R.high-1-(R.high-1-p.2)=p.2:=(by omega);rw[this]⟩⟩
def B6{α β γ:Type}(l:List α)(f:α->β)(g:α->γ):(l.map f).zip (l.map g)=l.map λx=>(f x,g x):=by
 induction l with
 |nil=>rfl
 |cons x l ih=>rw[PY,PY,List.zip_cons_cons,ih,PY]
def EI(A:List (Nat×Nat))(pl ix:Nat×Nat->Nat)(acc:List Int):(A.map λ(p:Nat×Nat)=>(((Tafl.cellOf p.1 p.2:Nat):Int),pl p,ix p)).foldl (λ(q:List Int)(p:Int×Nat×Nat)=>q.set p.1.toNat ((p.2.2:Nat):Int)) acc=(A.map λ(p:Nat×Nat)=>(((Tafl.cellOf p.1 p.2:Nat):Int),((ix p:Nat):Int),(0:Int))).foldl uz acc:=by
 rw[List.foldl_map,List.foldl_map];rfl
def DD{R:O1}(hw:R.wide<=13)(hh:R.high<=13)(pl ix:Nat×Nat->Nat)(e:Int){c:Nat}(hc:c<169):(oC R.wide R.high (R.asWritten.map λ(p:Nat×Nat)=>(pl p,ix p)) e).getD c 0=if c%13<R.wide/\c/13<R.high then((ix (c%13,c/13):Nat):Int)else e:=by
 unfold oC;rw[sE,B6,EI];have nd:((R.asWritten.map λ(p:Nat×Nat)=>(((Tafl.cellOf p.1 p.2:Nat):Int),((ix p:Nat):Int),(0:Int))).map (·.1)).Nodup:=by
  rw[Qa];show(R.asWritten.map λ(p:Nat×Nat)=>((Tafl.cellOf p.1 p.2:Nat):Int)).Nodup;rw[<-sE];exact yw _ _ hw
 obtain⟨s1,s2⟩:=CS (R.asWritten.map λ(p:Nat×Nat)=>(((Tafl.cellOf p.1 p.2:Nat):Int),((ix p:Nat):Int),(0:Int))) (List.replicate 169 e) nd (λx hx=>by
  obtain⟨p,hp,rfl⟩:=Pg.mp hx;obtain⟨h1,h2⟩:=dW.mp hp;refine⟨Tafl.cellOf p.1 p.2,rfl,?_⟩;rw[PP];unfold Tafl.cellOf Tafl.STRIDE;omega) c
 by_cases h:c%13<R.wide/\c/13<R.high
 ·rw[OW h]
  refine s2 (((Tafl.cellOf (c%13) (c/13):Nat):Int),((ix (c%13,c/13):Nat):Int),0) (Pg.mpr ⟨(c%13,c/13),dW.mpr h,rfl⟩) ?_;show((Tafl.cellOf (c%13) (c/13):Nat):Int)=_;unfold Tafl.cellOf Tafl.STRIDE;omega
 ·rw[OV h,s1 λx hx z=>h ?_]
  ·simp only[List.getD,Qv]
   rw[OW hc];rfl
  ·obtain⟨p,hp,rfl⟩:=Pg.mp hx
   obtain⟨h1,h2⟩:=dW.mp hp;have z:((Tafl.cellOf p.1 p.2:Nat):Int)=((c:Nat):Int):=z;unfold Tafl.cellOf Tafl.STRIDE at z;have z:13*p.2+p.1=c:=by omega
   exact⟨by omega,by omega⟩
def Hv(k:Tafl.Kind):((ib k:Nat):Int)=BE k:=by cases k<;>rfl
def Fq(k:Pz):((e8 k:Nat):Int)=dM k:=by cases k<;>rfl
def Hn{b:O_}{d:DR}{R:O1}(G:HC b d R)(O:JU d):cZ (dF d) R:=by
 have hw:R.wide<=13:=by rw[<-G.w];exact O.w
 have hh:R.high<=13:=by rw[<-G.h];exact O.h
 refine⟨G.w,G.h,hw,hh,by rw[<-G.w];exact O.w5,by rw[<-G.h];exact O.h5,G.sd,G.ar,G.fo,G.pa,G.se,by have:=G.OA;omega,G.ex,by have:=G.OF;omega,G.go,O.wf,λc hc=>?_⟩;show(oC d.wide d.high d.ground 3).getD c 0=_;rw[G.w,G.h,G.ground,DD hw hh R.groundPlace (λp=>ib (R.kind p.1 p.2)) 3 hc];unfold Tafl.Rules.kindAt Tafl.Rules.isCell Tafl.STRIDE
 by_cases h:c%13<R.wide/\c/13<R.high
 ·rw[OW h,OW (by rw[O0 h.1,O0 h.2];rfl),Hv]
 ·rw[OV h,OV (λz=>h (by rw[Pe,O9,O9]at z;exact z))]
  rfl
def Ck{b:O_}{d:DR}{R:O1}(G:HC b d R)(O:JU d){c:Nat}(hc:c<169):(dF d).start.getD c 0=if c%13<R.wide/\c/13<R.high then dM (R.piece (c%13) (c/13))else 0:=by
 have hw:R.wide<=13:=by rw[<-G.w];exact O.w
 have hh:R.high<=13:=by rw[<-G.h];exact O.h
 show(oC d.wide d.high d.start 0).getD c 0=_;rw[G.w,G.h,G.start,DD hw hh R.startPlace (λp=>e8 (R.piece p.1 p.2)) 0 hc,Fq]
def qf{R:O1}{p:Nat×Nat}:p∈R.cells↔p.1<R.wide/\p.2<R.high:=by
 unfold Tafl.Rules.cells Tafl.cellsOf;rw[Qn];constructor
 ·rintro⟨y,hy,h⟩
  obtain⟨x,hx,rfl⟩:=Pg.mp h;exact⟨Pl.mp hx,Pl.mp hy⟩
 ·rintro⟨h1,h2⟩
  exact⟨p.2,Pl.mpr h2,Pg.mpr ⟨p.1,Pl.mpr h1,rfl⟩⟩
def xy{b:O_}{d:DR}{R:O1}(G:HC b d R)(O:JU d)(hk:∀p∈R.asWritten,∀q∈R.asWritten,R.piece p.1 p.2=.king->R.piece q.1 q.2=.king->p=q):dJ R R.begins (dF d).start (dF d).first:=by
 have hw:R.wide<=13:=by rw[<-G.w];exact O.w
 have hh:R.high<=13:=by rw[<-G.h];exact O.h
 have sa:=λ{c}(hc:c<169)=>Ck G O hc;have val:∀(pc:Pz),pc≠.none->∀c,c<169->((dF d).start.getD c 0=dM pc↔(c%13<R.wide/\c/13<R.high)/\R.piece (c%13) (c/13)=pc):=λpc hp c hc=>by
  rw[sa hc]
  by_cases h:c%13<R.wide/\c/13<R.high
  ·rw[OW h]
   exact⟨λe=>⟨h,eX e⟩,λe=>by rw[e.2]⟩
  ·rw[OV h]
   exact⟨λe=>absurd (eX (x:= .none) e) (Pb hp),λe=>absurd e.1 h⟩
 have memL:∀(pc:Pz)(c:Nat),(pc,c)∈(R.cells.map λ(q:Nat×Nat)=>(R.piece q.1 q.2,Tafl.cellOf q.1 q.2))↔c<169/\(c%13<R.wide/\c/13<R.high)/\R.piece (c%13) (c/13)=pc:=λpc c=>by
  rw[Pg];constructor
  ·rintro⟨p,hp,e⟩
   obtain⟨h1,h2⟩:=qf.mp hp;injection e with e1 e2;unfold Tafl.cellOf Tafl.STRIDE at e2;have x1:c%13=p.1:=by omega
   have x2:c/13=p.2:=by omega
   rw[x1,x2];exact⟨by omega,⟨h1,h2⟩,e1⟩
  ·rintro⟨h0,h1,h2⟩
   refine⟨(c%13,c/13),qf.mpr h1,?_⟩;show(R.piece (c%13) (c/13),Tafl.cellOf (c%13) (c/13))=_;rw[h2]
   congr 1
   unfold Tafl.cellOf Tafl.STRIDE;omega
 have bit:∀(pc:Pz),pc≠.none->∀c,(Tafl.setFrom ((R.cells.map λ(q:Nat×Nat)=>(R.piece q.1 q.2,Tafl.cellOf q.1 q.2)).filterMap λ(x:Pz×Nat)=>if x.1=pc then some x.2 else none)).testBit c=true↔c<169/\(dF d).start.getD c 0=dM pc:=λpc hp c=>by
  rw[qm,QS];constructor
  ·rintro⟨⟨pc',c'⟩,hm,h⟩
   dsimp only at h;split at h
   ·rename_i e
    subst e;cases h;obtain⟨h0,h1⟩:=(memL pc' c).mp hm;exact⟨h0,(val pc' hp c h0).mpr h1⟩
   ·cases h
  ·rintro⟨h0,h1⟩
   exact⟨(pc,c),(memL pc c).mpr ⟨h0,(val pc hp c h0).mp h1⟩,by simp⟩
 unfold Tafl.Rules.begins;dsimp only;refine⟨O.wf.s,G.f,by have:=G.f2;show R.first=0\/R.first=1;omega,λc=>bit .hunter (by decide) c,λc=>bit .man (by decide) c,?_,λc hc hz=>?_⟩
 ·show((((R.cells.map λ(q:Nat×Nat)=>(R.piece q.1 q.2,Tafl.cellOf q.1 q.2)).find? λ(x:Pz×Nat)=>x.1== .king).map λ(x:Pz×Nat)=>x.2).getD Tafl.TAKEN=255/\_)\/((((R.cells.map λ(q:Nat×Nat)=>(R.piece q.1 q.2,Tafl.cellOf q.1 q.2)).find? λ(x:Pz×Nat)=>x.1== .king).map λ(x:Pz×Nat)=>x.2).getD Tafl.TAKEN<169/\(dF d).start.getD ((((R.cells.map λ(q:Nat×Nat)=>(R.piece q.1 q.2,Tafl.cellOf q.1 q.2)).find? λ(x:Pz×Nat)=>x.1== .king).map λ(x:Pz×Nat)=>x.2).getD Tafl.TAKEN) 0=3/\∀c,c<169->(dF d).start.getD c 0=3->c=(((R.cells.map λ(q:Nat×Nat)=>(R.piece q.1 q.2,Tafl.cellOf q.1 q.2)).find? λ(x:Pz×Nat)=>x.1== .king).map λ(x:Pz×Nat)=>x.2).getD Tafl.TAKEN)
  cases hf:(R.cells.map λ(q:Nat×Nat)=>(R.piece q.1 q.2,Tafl.cellOf q.1 q.2)).find? λ(x:Pz×Nat)=>x.1== .king with
  |none=>
   refine .inl ⟨rfl,λc hc e3=>?_⟩;have hm:=(memL .king c).mpr ⟨hc,(val .king (by decide) c hc).mp e3⟩;exact absurd (by rfl) (List.find?_eq_none.mp hf _ hm)
  |some x=>
   obtain⟨pc,c⟩:=x;have hp:=List.find?_some hf;have hp:pc=.king:=eq_of_beq (show(pc==Tafl.Piece.king)=true from hp);subst hp;obtain⟨h0,h1,h2⟩:=(memL .king c).mp (Rb hf);refine .inr ⟨h0,(val .king (by decide) c h0).mpr ⟨h1,h2⟩,λc' hc' e3=>?_⟩;show c'=c;obtain⟨g1,g2⟩:=(val .king (by decide) c' hc').mp e3;have:=hk (c%13,c/13) (dW.mpr h1) (c'%13,c'/13) (dW.mpr g1) h2 g2;injection this with e1 e2;omega
 ·rw[sa hc]at hz
  by_cases h:c%13<R.wide/\c/13<R.high
  ·exact h
  ·rw[OV h]at hz
   exact absurd rfl hz
def AS{ns:List Int}:∀(l:List Nat)(n m:Nat),da ns l n=.ok m->n<=m
 |[],n,m,h=>by cases h;exact OZ _
 |c::r,n,m,h=>by
  unfold da at h;split at h
  ·have:=AS r (n+1) m h
   omega
  ·cases h
def j8{ns:List Int}{z:Str}{n m:Nat}{v:Unit}(h:jR ns z n=.ok (v,m)):n<=m:=by
 unfold jR at h;split at h
 ·rename_i e
  cases h;exact AS _ _ _ e
 ·cases h
def Bg{ns:List Int}(ws:List Str):∀(f told:Nat)(left:List Str)(n:Nat)(p:V×Nat),b8 ns ws f told left n=.ok p->n<=p.2
 |0,_,_,_,_,h=>by cases h
 |f+1,told,left,n,p,h=>by
  unfold b8 at h;cases hl:left.filter (mR ns n told)with
  |nil=>rw[hl]at h;cases h
  |cons v l=>
   rw[hl]at h;replace h:(if v.length=told+1 then Except.ok (V.int (ws.findIdx (λu=>decide (u=v)):Nat),n+1)else b8 ns ws f (told+1) (v::l) (n+1))=.ok p:=h;split at h
   ·cases h
    exact Nat.le_succ _
   ·have:=Bg ws f _ _ _ _ h
    omega
def ko{ns:List Int}{ws:List Str}{f t:Nat}{l:List Str}{n m:Nat}{v:Int}(h:jz (b8 ns ws f t l n)=.ok (v,m)):n<=m:=Bg ws _ _ _ _ _ (mZ h)
def wR{ns:List Int}:∀(f:Nat)(l:Int)(n:Nat)(p:V×Nat),gJ ns f l n=.ok p->n<=p.2
 |0,_,_,_,h=>by cases h;exact OZ _
 |f+1,l,n,p,h=>by
  unfold gJ at h;split at h
  ·cases ho:aX fL ns n with
   |error e=>rw[ho]at h;cases h
   |ok q=>
    obtain⟨k,rfl,_⟩:=dN ho;rw[ho]at h;have:=wR f _ _ _ h;omega
  ·cases h
   exact OZ _
def Kf{ns:List Int}{n m:Nat}{v:Int}(h:jz (Af ns n)=.ok (v,m)):n<=m:=by
 have h:=mZ h;unfold Af at h;cases ho:aX "123456789" ns n with
 |error e=>rw[ho]at h;cases h
 |ok q=>
  obtain⟨k,rfl,_⟩:=dN ho;rw[ho]at h;have:=wR _ _ _ _ h;exact Rr this
def Lz{ns:List Int}{n m:Nat}{v:Unit}(h:BD ns n=.ok (v,m)):n<=m:=by
 unfold BD at h;split at h
 ·cases h
 ·cases h
  exact OZ _
structure Ord(acc:List (Nat×Nat))(n:Nat)(l:List (Nat×Nat))(m:Nat):Prop where
 pw:l.Pairwise λ(p q:Nat×Nat)=>p.1<q.1
 lt:∀q∈l,q.1<m
 le:n<=m
 ge:∀q∈l,q∈acc\/n<=q.1
def wO{z:Str}{ns:List Int}:∀(k:Nat)(acc:List (Nat×Nat))(n:Nat)(p:List (Nat×Nat)×Nat),hU z ns k acc n=.ok p->(acc.Pairwise λ(p q:Nat×Nat)=>p.1<q.1)->(∀q∈acc,q.1<n)->Ord acc n p.1 p.2
 |0,acc,n,p,h,h1,h2=>by cases h;exact⟨h1,h2,OZ _,λq hq=>.inl hq⟩
 |k+1,acc,n,p,h,h1,h2=>by
  unfold hU at h;cases hs:cN z ns n with
  |none=>rw[hs]at h;cases h
  |some i=>
   rw[hs]at h;have o:=wO k (acc++[(n,i)]) (n+1) p h (by
    rw[List.pairwise_append];refine⟨h1,List.pairwise_singleton _ _,λx hx y hy=>?_⟩;rw[Pj]at hy;subst hy;exact h2 x hx) (λq hq=>by
    rcases Pk.mp hq with hq|hq
    ·have:=h2 q hq
     omega
    ·rw[Pj]at hq
     subst hq;exact Nat.lt_succ_self _)
   have:=o.le;refine⟨o.pw,o.lt,by omega,λq hq=>?_⟩;rcases o.ge q hq with hq|hq
   ·rcases Pk.mp hq with hq|hq
    ·exact .inl hq
    ·rw[Pj]at hq
     subst hq;exact .inr (OZ _)
   ·exact .inr (by omega)
def uo{z:Str}{ns:List Int}{wide:Nat}:∀(k:Nat)(acc:List (Nat×Nat))(n:Nat)(p:List (Nat×Nat)×Nat),eB z ns wide k acc n=.ok p->(acc.Pairwise λ(p q:Nat×Nat)=>p.1<q.1)->(∀q∈acc,q.1<n)->Ord acc n p.1 p.2
 |0,acc,n,p,h,h1,h2=>by cases h;exact⟨h1,h2,OZ _,λq hq=>.inl hq⟩
 |k+1,acc,n,p,h,h1,h2=>by
  unfold eB wr at h;cases hc:hU z ns wide acc n with
  |error e=>rw[hc]at h;cases h
  |ok q=>
   have o:=wO wide acc n q hc h1 h2;rw[hc]at h;obtain⟨q1,q2⟩:=q;replace h:(match da ns [10] q2 with|.error e=>Except.error e|.ok m=>eB z ns wide k q1 m)=.ok p:=h;cases hl:da ns [10] q2 with
   |error e=>rw[hl]at h;cases h
   |ok m=>
    rw[hl]at h;have hm:=AS _ _ _ hl;have o2:=uo k q1 m p h o.pw (λx hx=>PJ (o.lt x hx) hm);have a1:=o.le;have a2:=o2.le;dsimp only at a1;refine⟨o2.pw,o2.lt,by omega,λx hx=>?_⟩;rcases o2.ge x hx with hx|hx
    ·exact o.ge x hx
    ·exact .inr (by omega)
structure Nj(d:DR):Prop where
 g:d.ground.Pairwise λ(p q:Nat×Nat)=>p.1<q.1
 s:d.start.Pairwise λ(p q:Nat×Nat)=>p.1<q.1
 gs:∀p∈d.ground,∀q∈d.start,p.1<=q.1
 sg:∀q∈d.start,q.1<=d.gw
 gg:∀q∈d.ground,q.1<=d.gw
 ge:d.gw<=d.jP
def E3{ns:List Int}{d:DR}(h:iR ns=.ok d):Nj d:=by
 unfold iR at h;obtain⟨_,n1,e1,h⟩:=aG h;obtain⟨_,n2,e2,h⟩:=aG h;obtain⟨_,n3,e3,h⟩:=aG h;obtain⟨_,n4,e4,h⟩:=aG h;obtain⟨_,n5,e5,h⟩:=aG h;obtain⟨_,n6,e6,h⟩:=aG h;obtain⟨_,n7,e7,h⟩:=aG h;obtain⟨vg,n8,eg,h⟩:=aG h;obtain⟨_,n9,e9,h⟩:=aG h;obtain⟨vs,n10,es,h⟩:=aG h;obtain⟨_,n11,e11,h⟩:=aG h;obtain⟨_,n12,e12,h⟩:=aG h;obtain⟨_,n13,e13,h⟩:=aG h;obtain⟨_,n14,e14,h⟩:=aG h;obtain⟨_,n15,e15,h⟩:=aG h;obtain⟨_,n16,e16,h⟩:=aG h;obtain⟨_,n17,e17,h⟩:=aG h;obtain⟨_,n18,e18,h⟩:=aG h;obtain⟨_,n19,e19,h⟩:=aG h;obtain⟨_,n20,e20,h⟩:=aG h;obtain⟨_,n21,e21,h⟩:=aG h;obtain⟨_,n22,e22,h⟩:=aG h;obtain⟨_,n23,e23,h⟩:=aG h;obtain⟨_,n24,e24,h⟩:=aG h;obtain⟨_,n25,e25,h⟩:=aG h;obtain⟨gp,n26,e26,h⟩:=aG h;obtain⟨_,n27,e27,h⟩:=aG h;obtain⟨_,n28,e28,h⟩:=aG h;obtain⟨_,n29,e29,h⟩:=aG h;obtain⟨_,n30,e30,h⟩:=aG h;obtain⟨_,n31,e31,h⟩:=aG h;obtain⟨_,n32,e32,h⟩:=aG h;obtain⟨_,n33,e33,h⟩:=aG h;cases h;have og:=uo _ _ _ _ eg List.Pairwise.nil (λq hq=>by cases hq);have os:=uo _ _ _ _ es List.Pairwise.nil (λq hq=>by cases hq);have ol:=os.le;dsimp only at ol;have m9:=j8 e9;have m11:=j8 e11;have m12:=ko e12;have m13:=j8 e13;have m14:=ko e14;have m15:=j8 e15;have m16:=ko e16;have m17:=j8 e17;have m18:=ko e18;have m19:=j8 e19;have m20:=ko e20;have m21:=j8 e21;have m22:=ko e22;have m23:=j8 e23;have m24:=ko e24;have m25:=j8 e25;cases e26;have m27:=ko e27;have m28:=j8 e28;have m29:=ko e29;have m30:=j8 e30;have m31:=Kf e31;have m32:=j8 e32;have m33:=Lz e33;refine⟨og.pw,os.pw,λp hp q hq=>?_,λq hq=>?_,λq hq=>?_,?_⟩
 ·have a1:=og.lt p hp
  dsimp only at a1;rcases os.ge q hq with hq|hq
  ·cases hq
  ·omega
 ·have a1:=os.lt q hq
  dsimp only at a1;show q.1<=n25;omega
 ·have a1:=og.lt q hq
  dsimp only at a1;show q.1<=n25;omega
 ·show n25<=n33
  omega
def eP(x y:Nat×Nat):Tafl.sooner x y=true↔x.2<y.2\/(x.2=y.2/\x.1<=y.1):=by
 unfold Tafl.sooner;rw[QO,Pe,O9,O9,Qj]
def AE(m:Option (Nat×Nat))(x:Nat×Nat):Option (Nat×Nat):=match m with
 |some y=>if Tafl.sooner y x=true then some y else some x
 |none=>some x
def pS:∀(l:List (Nat×Nat))(y:Nat×Nat),∃z,l.foldl AE (some y)=some z/\z∈y::l/\∀q∈y::l,Tafl.sooner z q=true
 |[],y=>⟨y,rfl,O8,λq hq=>by
   rw[Pj]at hq;subst hq;rw[eP];omega⟩
 |x::l,y=>by
  rw[QB];unfold AE;dsimp only
  by_cases h:Tafl.sooner y x=true
  ·rw[OW h]
   obtain⟨z,h1,h2,h3⟩:=pS l y;refine⟨z,h1,?_,λq hq=>?_⟩
   ·rcases Po.mp h2 with h2|h2
    ·exact Po.mpr (.inl h2)
    ·exact Pa _ (Pa _ h2)
   ·rcases Po.mp hq with hq|hq
    ·exact h3 q (Po.mpr (.inl hq))
    ·rcases Po.mp hq with hq|hq
     ·have:=h3 y O8
      subst hq;rw[eP]at this h ⊢;omega
     ·exact h3 q (Pa _ hq)
  ·rw[OV h]
   obtain⟨z,h1,h2,h3⟩:=pS l x;refine⟨z,h1,Pa _ h2,λq hq=>?_⟩;rcases Po.mp hq with hq|hq
   ·have:=h3 x O8
    subst hq;rw[eP]at this h ⊢;omega
   ·exact h3 q hq
def first_is{l:List (Nat×Nat)}{x:Nat×Nat}(h:x∈l)(h2:∀y∈l,Tafl.sooner x y=true):Tafl.firstOf l=some x:=by
 show l.foldl AE none=some x;cases l with
 |nil=>cases h
 |cons y l=>
  obtain⟨z,e,h3,h4⟩:=pS l y;show l.foldl AE (some y)=some x;rw[e];have a1:=h2 z h3;have a2:=h4 x h;rw[eP]at a1 a2
  congr 1
  exact Prod.ext (by omega) (by omega)
def AO(f:Nat×Nat->Bool)(pl ix:Nat×Nat->Nat)(hf:∀p,ix p=1↔f p=true):∀(l:List (Nat×Nat))(s:Nat),s<=1->xM (l.map λ(p:Nat×Nat)=>(pl p,ix p)) s=((l.filter f).drop (1-s)).head?.map pl
 |[],s,_=>by
  rw[List.filter_nil,List.drop_nil];rfl
 |p::l,s,hs=>by
  show(if 1<(if ix p=1 then s+1 else s)then some (pl p)else xM (l.map λ(p:Nat×Nat)=>(pl p,ix p)) (if ix p=1 then s+1 else s))=_
  by_cases h:ix p=1
  ·rw[OW h,List.filter_cons_of_pos ((hf p).mp h)]
   by_cases h1:s=1
   ·subst h1
    rw[OW (by decide)];rfl
   ·have h1:s=0:=by omega
    subst h1;rw[OV (by decide),AO f pl ix hf l 1 (by decide)];rfl
  ·rw[OV h,List.filter_cons_of_neg (λz=>h ((hf p).mpr z)),OV (by omega),AO f pl ix hf l s hs]
def wS(mis kg:Nat×Nat->Bool)(pl:Nat×Nat->Nat)(l:List (Nat×Nat))(s:Nat):List (Nat×Nat):=(l.filter mis).map (λ(p:Nat×Nat)=>(3,pl p))++((l.filter kg).drop (1-s)).map (λ(p:Nat×Nat)=>(4,pl p))
def GF{mis kg:Nat×Nat->Bool}{pl:Nat×Nat->Nat}{l:List (Nat×Nat)}{s:Nat}{x:Nat×Nat}(h:x∈wS mis kg pl l s):∃p∈l,x.2=pl p/\(x.1=3\/x.1=4):=by
 rcases Pk.mp h with h|h
 ·obtain⟨p,hp,rfl⟩:=Pg.mp h
  exact⟨p,(PR.mp hp).1,rfl,.inl rfl⟩
 ·obtain⟨p,hp,rfl⟩:=Pg.mp h
  exact⟨p,(PR.mp (Rx hp)).1,rfl,.inr rfl⟩
def KS(w:List (Nat×Nat))(r:Option (Nat×Nat)):Prop:=match r with
 |none=>w=[]
 |some x=>x∈w/\∀y∈w,Tafl.sooner x y=true
def A0(mis kg:Nat×Nat->Bool)(pg ig pl ix:Nat×Nat->Nat)(hm:∀p,(iF ((ig p:Nat):Int) ((ix p:Nat):Int)=false\/(ix p=3/\ig p=2))↔mis p=true)(hk:∀p,ix p=3↔kg p=true):∀(l:List (Nat×Nat))(s:Nat),s<=1->(l.Pairwise λ(p q:Nat×Nat)=>pl p<pl q)->KS (wS mis kg pl l s) (vo (l.map λ(p:Nat×Nat)=>((pg p,ig p),(pl p,ix p))) s)
 |[],s,_,_=>by
  show wS mis kg pl [] s=[];unfold wS;rw[List.filter_nil,List.filter_nil,List.drop_nil];rfl
 |p::l,s,hs,pw=>by
  obtain⟨p1,p2⟩:=List.pairwise_cons.mp pw;show KS _ (if iF ((ig p:Nat):Int) ((ix p:Nat):Int)=false\/(ix p=3/\ig p=2)then some (3,pl p)else if 1<(if ix p=3 then s+1 else s)then some (4,pl p)else vo (l.map λ(p:Nat×Nat)=>((pg p,ig p),(pl p,ix p))) (if ix p=3 then s+1 else s))
  by_cases h:iF ((ig p:Nat):Int) ((ix p:Nat):Int)=false\/(ix p=3/\ig p=2)
  ·rw[OW h]
   refine⟨?_,λy hy=>?_⟩
   ·unfold wS
    rw[List.filter_cons_of_pos ((hm p).mp h)];exact Qq _ O8
   ·obtain⟨q,hq,e,e2⟩:=GF hy
    rw[eP];dsimp only;rcases Po.mp hq with hq|hq
    ·subst hq
     omega
    ·have:=p1 q hq
     omega
  ·rw[OV h]
   have fm:(p::l).filter mis=l.filter mis:=List.filter_cons_of_neg (λz=>h ((hm p).mpr z))
   by_cases h3:ix p=3
   ·rw[OW h3]
    have fk:(p::l).filter kg=p::l.filter kg:=List.filter_cons_of_pos ((hk p).mp h3)
    by_cases h1:s=1
    ·subst h1
     rw[OW (by decide)];unfold wS;rw[fm,fk];refine⟨Qu _ O8,λy hy=>?_⟩;rw[eP];dsimp only;rcases Pk.mp hy with hy|hy
     ·obtain⟨q,hq,rfl⟩:=Pg.mp hy
      have:=p1 q (PR.mp hq).1;dsimp only;omega
     ·obtain⟨q,hq,rfl⟩:=Pg.mp hy
      dsimp only;rcases Po.mp hq with hq|hq
      ·subst hq
       omega
      ·have:=p1 q (PR.mp hq).1
       omega
    ·have h1:s=0:=by omega
     subst h1;rw[OV (by decide)];have ih:=A0 mis kg pg ig pl ix hm hk l 1 (by decide) p2;unfold wS at ih ⊢;rw[fm,fk];exact ih
   ·rw[OV h3,OV (by omega)]
    have ih:=A0 mis kg pg ig pl ix hm hk l s hs p2;unfold wS at ih ⊢;rw[fm,List.filter_cons_of_neg (λz=>h3 ((hk p).mpr z))];exact ih
def IJ(k:Tafl.Kind)(c:Pz):(iF ((ib k:Nat):Int) ((e8 c:Nat):Int)=false\/(e8 c=3/\ib k=2))↔(match c,k with
 |.none,_=>false
 |_,.wall=>true
 |.king,.exit=>true
 |.king,_=>false
 |_,.seat=>true
 |_,.exit=>true
 |_,.plain=>false)=true:=by
 cases k<;>cases c<;>decide
def rH(k:Tafl.Kind):(ib k=1↔(k==Tafl.Kind.seat)=true)/\(ib k=2↔(k==Tafl.Kind.exit)=true):=by cases k<;>decide
def o9(k:Pz):(e8 k=3↔(k==Tafl.Piece.king)=true)/\(e8 k=1↔(k==Tafl.Piece.hunter)=true):=by cases k<;>decide
def zM(R:O1)(f:Nat×Nat->Bool):R.cells.any f=R.asWritten.any f:=by
 rw[Qg,Qk,Qk];exact⟨λ⟨p,h1,h2⟩=>⟨p,dW.mpr (qf.mp h1),h2⟩,λ⟨p,h1,h2⟩=>⟨p,qf.mpr (dW.mp h1),h2⟩⟩
def qA(l:List (Nat×Nat))(pl ix:Nat×Nat->Nat)(f:Nat×Nat->Bool)(v:Nat)(hf:∀p,ix p=v↔f p=true):jy (l.map λ(p:Nat×Nat)=>(pl p,ix p)) ((v:Nat):Int)=l.any f:=by
 unfold jy;rw[QT]
 congr 1
 funext p
 show decide (((ix p:Nat):Int)=((v:Nat):Int))=f p;rw[Qg,O9,<-hf p];omega
def oR{α:Type}(l:List α)(f:α->Bool):l.any f=false↔l.filter f=[]:=by
 rw[List.filter_eq_nil_iff,QL]
def BW{R:O1}(h:R.kings.drop 1=[]):∀p∈R.asWritten,∀q∈R.asWritten,R.piece p.1 p.2=.king->R.piece q.1 q.2=.king->p=q:=λp hp q hq e1 e2=>by
 have m1:p∈R.kings:=PR.mpr ⟨hp,by rw[e1];rfl⟩;have m2:q∈R.kings:=PR.mpr ⟨hq,by rw[e2];rfl⟩;cases hk:R.kings with
 |nil=>rw[hk]at m1;cases m1
 |cons k l=>
  rw[hk]at h m1 m2;have h:l=[]:=h;subst h;rw[Pj]at m1 m2;rw[m1,m2]
def xZ{b:O_}{d:DR}{R:O1}(G:HC b d R)(O:JU d)(hk:R.kings.drop 1=[]):mO d (dF d)=true↔(R.goal=1/\(R.cells.any λ(p:Nat×Nat)=>R.kind p.1 p.2== .exit)=false)\/(R.goal=0/\(R.kings.take 1).any R.onEdge=true):=by
 unfold mO;have g2:=G.go2;have go:=G.go
 by_cases h1:d.goal=1
 ·rw[OW h1]
  have e1:R.goal=1:=by omega
  rw[G.ground,zM,show(2:Int)=((2:Nat):Int)from rfl,qA _ _ _ (λ(p:Nat×Nat)=>R.kind p.1 p.2== .exit) 2 (λp=>(rH _).2)];constructor
  ·intro h
   refine .inl ⟨e1,?_⟩;cases e:(R.asWritten.any λ(p:Nat×Nat)=>R.kind p.1 p.2== .exit)with
   |false=>rfl
   |true=>rw[e]at h;cases h
  ·rintro(⟨_,h⟩|⟨h,_⟩)
   ·rw[h];rfl
   ·omega
 ·rw[OV h1]
  have e0:R.goal=0:=by omega
  have P:=xy G O (BW hk);have Q:=Hn G O;have sa:=λ{c}(hc:c<169)=>Ck G O hc;have tT:=Q.tT;have uE:=Q.uE;constructor
  ·intro h
   refine .inr ⟨e0,?_⟩;rw[Pe,O9]at h;obtain⟨h2,h3⟩:=h;rcases AQ P with⟨_,e⟩|⟨k1,e⟩
   ·rw[e]at h2
    omega
   ·rw[e,Px]at h3
    rcases P.k with⟨k2,_⟩|⟨_,k2,_⟩
    ·omega
    ·rw[sa k1]at k2
     split at k2
     ·rename_i hin
      rw[A5 Q hin.1 hin.2]at h3;have pk:R.piece (R.begins.king%13) (R.begins.king/13)=.king:=eX (y:= .king) k2;have m:(R.begins.king%13,R.begins.king/13)∈R.kings:=PR.mpr ⟨dW.mpr hin,by show(R.piece (R.begins.king%13) (R.begins.king/13)==Tafl.Piece.king)=true;rw[pk];rfl⟩;cases hkk:R.kings with
      |nil=>rw[hkk]at m;cases m
      |cons k l=>
       rw[hkk]at hk m;have hk:l=[]:=hk;subst hk;rw[Pj]at m;show(List.any [k] R.onEdge)=true;rw[Q8,<-m,h3];rfl
     ·cases k2
  ·rintro(⟨h,_⟩|⟨_,h⟩)
   ·omega
   ·obtain⟨p,hp,he⟩:=Qk.mp h
    have hp:=PR.mp (List.mem_of_mem_take hp);obtain⟨p1,p2⟩:=dW.mp hp.1;have pk:R.piece p.1 p.2=.king:=eq_of_beq (show(R.piece p.1 p.2==Tafl.Piece.king)=true from hp.2);have hc:13*p.2+p.1<169:=by omega
    have x1:(13*p.2+p.1)%13=p.1:=by omega
    have x2:(13*p.2+p.1)/13=p.2:=by omega
    have e3:(dF d).start.getD (13*p.2+p.1) 0=3:=by
     rw[sa hc,x1,x2,OW ⟨p1,p2⟩,pk];rfl
    rcases P.k with⟨_,k2⟩|⟨k1,_,k3⟩
    ·exact absurd e3 (k2 _ hc)
    ·have ek:=k3 _ hc e3
     rcases AQ P with⟨e,_⟩|⟨_,e⟩
     ·omega
     ·rw[e,Px,<-ek,A5 Q (by rw[x1];exact p1) (by rw[x2];exact p2),x1,x2,he,Bool.and_true]
      exact O0 (by omega)
def zL{b:O_}{d:DR}{R:O1}(G:HC b d R):jT d=true↔R.kings=[]\/(R.cells.any λ(p:Nat×Nat)=>R.piece p.1 p.2== .hunter)=false\/(R.seats=[]/\¬(R.passed=true/\R.seat=0)):=by
 unfold jT;have a1:jy d.start 3=R.asWritten.any λ(p:Nat×Nat)=>R.piece p.1 p.2== .king:=by
  rw[G.start,show(3:Int)=((3:Nat):Int)from rfl,qA _ _ _ (λ(p:Nat×Nat)=>R.piece p.1 p.2== .king) 3 (λp=>(o9 _).1)]
 have a2:jy d.start 1=R.asWritten.any λ(p:Nat×Nat)=>R.piece p.1 p.2== .hunter:=by
  rw[G.start,show(1:Int)=((1:Nat):Int)from rfl,qA _ _ _ (λ(p:Nat×Nat)=>R.piece p.1 p.2== .hunter) 1 (λp=>(o9 _).2)]
 have a3:jy d.ground 1=R.asWritten.any λ(p:Nat×Nat)=>R.kind p.1 p.2== .seat:=by
  rw[G.ground,show(1:Int)=((1:Nat):Int)from rfl,qA _ _ _ (λ(p:Nat×Nat)=>R.kind p.1 p.2== .seat) 1 (λp=>(rH _).1)]
 rw[a1,a2,a3,zM];have b1:R.kings=[]↔(R.asWritten.any λ(p:Nat×Nat)=>R.piece p.1 p.2== .king)=false:=(oR _ _).symm;have b3:R.seats=[]↔(R.asWritten.any λ(p:Nat×Nat)=>R.kind p.1 p.2== .seat)=false:=(oR _ _).symm;rw[b1,b3];have c1:d.passed=0↔¬R.passed=true:=by
  rw[G.pa];cases R.passed<;>decide
 have c2:d.seat=0↔R.seat=0:=by
  rw[G.se];omega
 generalize(R.asWritten.any λ(p:Nat×Nat)=>R.piece p.1 p.2== .king)=x1;generalize(R.asWritten.any λ(p:Nat×Nat)=>R.piece p.1 p.2== .hunter)=x2;generalize(R.asWritten.any λ(p:Nat×Nat)=>R.kind p.1 p.2== .seat)=x3;rw[show decide (d.passed=0)=decide (¬R.passed=true)from Re.mpr c1,show decide (d.seat=0)=decide (R.seat=0)from Re.mpr c2]
 by_cases s0:R.seat=0
 ·rw[O0 s0]
  cases x1<;>cases x2<;>cases x3<;>cases R.passed<;>simp[s0]
 ·rw[PF s0]
  cases x1<;>cases x2<;>cases x3<;>cases R.passed<;>simp[s0]
def Oy(m:Except (Nat×Nat) R0)(s:Except (Nat×Nat) O1):Prop:=match m,s with
 |.error e,.error e'=>e=e'
 |.ok r,.ok R=>cZ r R/\dJ R R.begins r.start r.first
 |_,_=>False
def GS(b:O_):Oy (lg (bD b)) (Tafl.judge b):=by
 unfold lg Tafl.judge;have g:=CV b;cases hd:iR (bD b)with
 |error e=>
  rw[hd]at g;cases hg:Tafl.grammar b with
  |error e'=>
   rw[hg]at g;have g:e=e':=g;show(1,e)=(1,e');rw[g]
  |ok R=>rw[hg]at g;exact g.elim
 |ok d=>
  rw[hd]at g;cases hg:Tafl.grammar b with
  |error e'=>rw[hg]at g;exact g.elim
  |ok R=>
   rw[hg]at g;have G:HC b d R:=g;have O:=BY hd;have D:=E3 hd;have eg:xM d.ground 0=(R.seats.drop 1).head?.map R.groundPlace:=by
    rw[G.ground];exact AO (λ(p:Nat×Nat)=>R.kind p.1 p.2== .seat) _ _ (λp=>(rH _).1) R.asWritten 0 (by decide)
   have zs:d.ground.zip d.start=R.asWritten.map λ(p:Nat×Nat)=>((R.groundPlace p,ib (R.kind p.1 p.2)),(R.startPlace p,e8 (R.piece p.1 p.2))):=by
    rw[G.ground,G.start,B6]
   have pwS:R.asWritten.Pairwise λ(p q:Nat×Nat)=>R.startPlace p<R.startPlace q:=by
    have:=D.s;rw[G.start,QW]at this;exact this
   have pwG:R.asWritten.Pairwise λ(p q:Nat×Nat)=>R.groundPlace p<R.groundPlace q:=by
    have:=D.g;rw[G.ground,QW]at this;exact this
   have gs:∀p∈R.asWritten,∀q∈R.asWritten,R.groundPlace p<=R.startPlace q:=λp hp q hq=>D.gs (R.groundPlace p,ib (R.kind p.1 p.2)) (by rw[G.ground];exact Pg.mpr ⟨p,hp,rfl⟩) (R.startPlace q,e8 (R.piece q.1 q.2)) (by rw[G.start];exact Pg.mpr ⟨q,hq,rfl⟩);have sg:∀q∈R.asWritten,R.startPlace q<=R.goalAt:=λq hq=>by
    rw[<-G.gp];exact D.sg (R.startPlace q,e8 (R.piece q.1 q.2)) (by rw[G.start];exact Pg.mpr ⟨q,hq,rfl⟩)
   have gg:∀q∈R.asWritten,R.groundPlace q<=R.goalAt:=λq hq=>by
    rw[<-G.gp];exact D.gg (R.groundPlace q,ib (R.kind q.1 q.2)) (by rw[G.ground];exact Pg.mpr ⟨q,hq,rfl⟩)
   have ge:R.goalAt<=b.length:=by rw[<-G.gp,<-G.en];exact D.ge
   have ks:=A0 R.misplaced (λ(p:Nat×Nat)=>R.piece p.1 p.2== .king) R.groundPlace (λ(p:Nat×Nat)=>ib (R.kind p.1 p.2)) R.startPlace (λ(p:Nat×Nat)=>e8 (R.piece p.1 p.2)) (λp=>IJ _ _) (λp=>(o9 _).1) R.asWritten 0 (by decide) pwS;rw[<-zs]at ks;have ew:Tafl.wrongs b.length R=(R.seats.drop 1).map (λ(p:Nat×Nat)=>(2,R.groundPlace p))++(wS R.misplaced (λ(p:Nat×Nat)=>R.piece p.1 p.2== .king) R.startPlace R.asWritten 0++
     ((if(R.goal=1/\(R.cells.any λ(p:Nat×Nat)=>R.kind p.1 p.2== .exit)=false)\/(R.goal=0/\(R.kings.take 1).any R.onEdge=true)then[(5,R.goalAt)]else[])++
     (if R.kings=[]\/(R.cells.any λ(p:Nat×Nat)=>R.piece p.1 p.2== .hunter)=false\/(R.seats=[]/\¬(R.passed=true/\R.seat=0))then[(6,b.length)]else[]))):=by
    unfold Tafl.wrongs wS;rw[P9];rfl
   have tl:∀y∈((if(R.goal=1/\(R.cells.any λ(p:Nat×Nat)=>R.kind p.1 p.2== .exit)=false)\/(R.goal=0/\(R.kings.take 1).any R.onEdge=true)then[(5,R.goalAt)]else[])++
     (if R.kings=[]\/(R.cells.any λ(p:Nat×Nat)=>R.piece p.1 p.2== .hunter)=false\/(R.seats=[]/\¬(R.passed=true/\R.seat=0))then[(6,b.length)]else[]):List (Nat×Nat)),5<=y.1/\R.goalAt<=y.2:=λy hy=>by
    rcases Pk.mp hy with hy|hy
    ·split at hy
     ·rw[Pj]at hy
      subst hy;exact⟨OZ _,OZ _⟩
     ·cases hy
    ·split at hy
     ·rw[Pj]at hy
      subst hy;exact⟨by show 5<=6;decide,ge⟩
     ·cases hy
   dsimp only;rw[eg];cases hG:R.seats.drop 1 with
   |cons p l=>
    have pm:∀q∈p::l,q∈R.asWritten:=λq hq=>(PR.mp (Rx (by rw[<-hG]at hq;exact hq))).1;have f:Tafl.firstOf (Tafl.wrongs b.length R)=some (2,R.groundPlace p):=by
     rw[ew,hG];refine first_is (Qq _ O8) λy hy=>?_;rw[eP];dsimp only;rcases Pk.mp hy with hy|hy
     ·obtain⟨q,hq,rfl⟩:=Pg.mp hy
      dsimp only;have pw2:(p::l).Pairwise λ(p q:Nat×Nat)=>R.groundPlace p<R.groundPlace q:=by
       rw[<-hG];exact(List.Pairwise.filter _ pwG).sublist (List.drop_sublist _ _)
      rcases Po.mp hq with hq|hq
      ·subst hq
       omega
      ·have:=(List.pairwise_cons.mp pw2).1 q hq
       omega
     ·rcases Pk.mp hy with hy|hy
      ·obtain⟨q,hq,e,e2⟩:=GF hy
       have:=gs p (pm p O8) q hq;omega
      ·have a1:=tl y hy
       have a2:=gg p (pm p O8);omega
    rw[f];rfl
   |nil=>
    rw[hG,List.map_nil,Qt]at ew;show Oy (match vo (d.ground.zip d.start) 0 with
     |some p=>.error p
     |none=>if mO d (dF d)=true then .error (5,d.gw)else if jT d=true then .error (6,d.jP)else .ok (dF d)) _
    cases hS:vo (d.ground.zip d.start) 0 with
    |some x=>
     rw[hS]at ks;obtain⟨k1,k2⟩:=ks;have f:Tafl.firstOf (Tafl.wrongs b.length R)=some x:=by
      rw[ew];refine first_is (Qq _ k1) λy hy=>?_;rcases Pk.mp hy with hy|hy
      ·exact k2 y hy
      ·obtain⟨q,hq,e,e2⟩:=GF k1
       have a1:=tl y hy;have a2:=sg q hq;rw[eP];omega
     rw[f];rfl
    |none=>
     rw[hS]at ks;have ks:wS R.misplaced (λ(p:Nat×Nat)=>R.piece p.1 p.2== .king) R.startPlace R.asWritten 0=[]:=ks;rw[ks,Qt]at ew;have hk:R.kings.drop 1=[]:=by
      unfold wS at ks;exact List.map_eq_nil_iff.mp (List.append_eq_nil_iff.mp ks).2
     dsimp only;rw[ew]
     by_cases hw:mO d (dF d)=true
     ·rw[OW hw,OW ((xZ G O hk).mp hw),G.gp]
      by_cases hm:R.kings=[]\/(R.cells.any λ(p:Nat×Nat)=>R.piece p.1 p.2== .hunter)=false\/(R.seats=[]/\¬(R.passed=true/\R.seat=0))
      ·rw[OW hm]
       have f:Tafl.firstOf ([(5,R.goalAt)]++[(6,b.length)])=some (5,R.goalAt):=first_is O8 λy hy=>by
        rw[eP];dsimp only;rcases Po.mp hy with hy|hy
        ·subst hy
         omega
        ·have hy:y∈[((6:Nat),b.length)]:=hy
         rw[Pj]at hy;subst hy;dsimp only;omega
       rw[f];rfl
      ·rw[OV hm]
       rfl
     ·rw[OV hw,OV (λz=>hw ((xZ G O hk).mpr z))]
      by_cases hm:jT d=true
      ·rw[OW hm,OW ((zL G).mp hm),G.en]
       rfl
      ·rw[OV hm,OV (λz=>hm ((zL G).mpr z))]
       exact⟨Hn G O,xy G O (BW hk)⟩
def SR(s:Option R0)(S:Option O1):Prop:=match s,S with
 |none,none=>True
 |some r,some R=>cZ r R/\dJ R R.begins r.start r.first
 |_,_=>False
def wj(m:Except Rf (List Int)):List Int:=match m with
 |.ok l=>l
 |.error f=>numsOf f
def pos_eq{s:Option R0}{S:Option O1}(h:SR s S)(b:O_){f:R0×List Int×Int->Except Rf (List Int)}{g:O1->PL->Tafl.Answer}(k:∀r R p ps t,cZ r R->dJ R p ps t->wj (f (r,ps,t))=(g R p).nums):wj (mI (om s (bD b)) f)=(TaflMoves.ofRules S λ(R:O1)=>TaflMoves.ofLine R b (g R)).2.nums:=by
 cases s with
 |none=>cases S with
  |none=>rfl
  |some R=>exact h.elim
 |some r=>cases S with
  |none=>exact h.elim
  |some R=>
   have Q:cZ r R:=h.1;have l:=Fa Q b;unfold om TaflMoves.ofRules TaflMoves.ofLine;dsimp only;cases hl:uG r (bD b)with
   |error e=>
    rw[hl]at l;cases hr:R.readLine b with
    |error q=>
     rw[hr]at l;obtain⟨l1,l2⟩:=l;obtain⟨q1,q2⟩:=q;show[-5,e.1,e.2]=[-5,((q1:Nat):Int),((q2:Nat):Int)];rw[l1,l2]
    |ok q=>rw[hr]at l;exact l.elim
   |ok e=>
    rw[hl]at l;cases hr:R.readLine b with
    |error q=>rw[hr]at l;exact l.elim
    |ok q=>
     rw[hr]at l;exact k r R q e.1 e.2 Q l
def Go{s:Option R0}{S:Option O1}(h:SR s S):wj (xI s)=(TaflMoves.step S .begin_).2.nums:=by
 cases s with
 |none=>cases S with
  |none=>rfl
  |some R=>exact h.elim
 |some r=>cases S with
  |none=>exact h.elim
  |some R=>
   show 0::wc (codes (fN r r.start r.first))=0::((((R.line R.begins).length:Nat):Int)::bD (R.line R.begins)++[]);rw[Ee h.1 h.2,PU];unfold wc
   congr 2
   unfold bD;rw[OU]
def DM(b:O_):(bD b).length=b.length:=OU _
def E2{s:Option R0}{S:Option O1}(h:SR s S)(b:O_):wj (Em s (bD b))=(TaflMoves.step S (.over b)).2.nums:=
 pos_eq h b (g:=λR p=>Tafl.says (R.over p:Nat)) λr R p ps t Q P=>by
  show[overOf r ps t]=[((R.over p:Nat):Int)];rw[sP Q P]
def CF{s:Option R0}{S:Option O1}(h:SR s S)(b:O_):wj (Aa s (bD b))=(TaflMoves.step S (.moves b)).2.nums:=
 pos_eq h b (g:=λR p=>Tafl.tells 0 [.rows ((R.moves p).map (TaflMoves.toldMove R p))]) λr R p ps t Q P=>by
  show 0::(((aQ r ps t).length:Nat):Int)::((aQ r ps t).flatMap λ(e:Nat×Nat)=>wc (rowOf r ps t e.1 e.2))=0::(((((((R.moves p).map (TaflMoves.toldMove R p)).length:Nat):Int))::(((R.moves p).map (TaflMoves.toldMove R p)).flatMap λ(q:List Nat)=>((q.length:Nat):Int)::Tafl.asInts q))++[]);rw[PU,OU,QR,<-nL Q P];have key:∀e∈aQ r ps t,wc (rowOf r ps t e.1 e.2)=(((TaflMoves.toldMove R p e).length:Nat):Int)::Tafl.asInts (TaflMoves.toldMove R p e):=λe he=>by
   rw[Gn Q P (zj Q P (s:=e.1) (t:=e.2) he)];unfold wc
   congr 2
   unfold Tafl.asInts;rw[OU]
  rw[lD key]
def vQ{r:R0}{R:O1}{p:PL}{ps:List Int}{t:Int}(Q:cZ r R)(P:dJ R p ps t)(i j:Nat):uc (r,ps,t) ((i:Nat):Int) ((j:Nat):Int)=true↔(R.moves p).contains (i,j)=true:=by
 rw[lO,Q6,<-nL Q P]
def FJ(l:List Nat):(iL l).length=l.length:=OU _
def EO(z:Int)(b:O_)(l:List Nat):(Tafl.tells z [.text b,.list l]).nums=z::(wc (bD b)++wc (iL l)):=by
 unfold wc;rw[DM,FJ];show z::((((b.length:Nat):Int)::bD b)++((((l.length:Nat):Int)::iL l)++[]))=_;rw[PU]
def EW(z:Int)(b:O_):(Tafl.tells z [.text b]).nums=z::wc (bD b):=by
 unfold wc;rw[DM];show z::((((b.length:Nat):Int)::bD b)++[])=_;rw[PU]
def EM{s:Option R0}{S:Option O1}(h:SR s S)(b:O_)(i j:Nat):wj (Eh s (bD b) i j)=(TaflMoves.step S (.make b i j)).2.nums:=
 pos_eq h b (g:=λR p=>if(R.moves p).contains (i,j)=true then Tafl.tells (R.over (R.comes p (i,j)):Nat) [.text (R.line (R.comes p (i,j))),.list (R.takes p (i,j))]else Tafl.says (-2)) λr R p ps t Q P=>by
  dsimp only;rcases Classical.em (uc (r,ps,t) ((i:Nat):Int) ((j:Nat):Int)=true)with hm|hm
  ·have M:=zj Q P ((lO (p:=(r,ps,t))).mp hm)
   rw[OW hm,OW ((vQ Q P i j).mp hm),sP Q (kG Q P M),Ee Q (kG Q P M),pG Q P M];rw[EO];rfl
  ·rw[OV hm,OV (λz=>hm ((vQ Q P i j).mpr z))]
   rfl
def Da{s:Option R0}{S:Option O1}(h:SR s S)(b:O_)(i j:Nat):wj (xt s (bD b) i j)=(TaflMoves.step S (.write b i j)).2.nums:=
 pos_eq h b (g:=λR p=>if(R.moves p).contains (i,j)=true then Tafl.tells 0 [.text (R.moveLine p (i,j))]else Tafl.says (-2)) λr R p ps t Q P=>by
  dsimp only;rcases Classical.em (uc (r,ps,t) ((i:Nat):Int) ((j:Nat):Int)=true)with hm|hm
  ·have M:=zj Q P ((lO (p:=(r,ps,t))).mp hm)
   rw[OW hm,OW ((vQ Q P i j).mp hm),JK Q P M];rw[EW];rfl
  ·rw[OV hm,OV (λz=>hm ((vQ Q P i j).mpr z))]
   rfl
def EF{s:Option R0}{S:Option O1}(h:SR s S)(b u:O_):wj (Dv s (bD b) (bD u))=(TaflMoves.step S (.read b u)).2.nums:=
 pos_eq h b (g:=λR p=>match R.readMove p u with
  |.ok m=>Tafl.tells 0 [.list (TaflMoves.toldMove R p m)]
  |.error k=>Tafl.tells (-4) [.num k]) λr R p ps t Q P=>by
  dsimp only;rw[<-HZ Q P u];cases hf:(aQ r ps t).find? λ(e:Nat×Nat)=>eR r ps t e==bD u with
  |none=>rfl
  |some e=>
   have M:=zj Q P (s:=e.1) (t:=e.2) (Rb hf);show 0::wc (rowOf r ps t e.1 e.2)=0::((((((TaflMoves.toldMove R p e).length:Nat)):Int)::Tafl.asInts (TaflMoves.toldMove R p e))++[]);rw[Gn Q P M,PU];unfold wc
   congr 2
   unfold Tafl.asInts;rw[OU]
def E1{s:Option R0}{S:Option O1}(h:SR s S)(b:O_)(n most:Nat):wj (DV s (bD b) n most)=(TaflMoves.step S (.deep b n most)).2.nums:=
 pos_eq h b (g:=λR p=>if n=0\/TaflMoves.DEEP<n\/most=0\/TaflMoves.MOST<most then Tafl.says (-1)else match TaflMoves.counts R n most [p]with
  |some l=>Tafl.tells 0 [.list l]
  |none=>Tafl.says (-9)) λr R p ps t Q P=>by
  dsimp only
  by_cases hb:(1<=n/\n<=6)/\1<=most/\most<=2000
  ·rw[OW hb,OV (show¬(n=0\/TaflMoves.DEEP<n\/most=0\/TaflMoves.MOST<most) by unfold TaflMoves.DEEP TaflMoves.MOST;omega)]
   obtain⟨c1,c2⟩:=count_eq Q P (n:=n) (most:=most) hb.1.1;cases hc:TaflMoves.counts R n most [p]with
   |none=>
    have:=c2 hc;rw[OV (by omega)];rfl
   |some l=>
    obtain⟨e1,e2⟩:=c1 l hc;rw[OW e2,e1];show 0::wc (iL l)=0::((((l.length:Nat):Int)::iL l)++[]);unfold wc;rw[PU,FJ]
  ·rw[OV hb,OW (show n=0\/TaflMoves.DEEP<n\/most=0\/TaflMoves.MOST<most by unfold TaflMoves.DEEP TaflMoves.MOST;omega)]
   rfl
def l8{t:List Int}(h:(t.all λ(z:Int)=>decide (0<=z)&&decide (z<=255))=true):∃b,Tafl.text? t=some b/\bD b=t:=by
 refine⟨t.map λ(n:Int)=>UInt8.ofNat n.toNat,?_,?_⟩
 ·unfold Tafl.text? NeutralIO.bytes
  rw[OW h]
 ·unfold bD
  rw[Qa];rw[QI]at h;have key:∀z∈t,(((UInt8.ofNat z.toNat).toNat:Nat):Int)=z:=λz hz=>by
   have:=h z hz;rw[Pe,O9,O9]at this;rw[UInt8.toNat_ofNat'];omega
  clear h
  induction t with
  |nil=>rfl
  |cons z t ih=>
   rw[PY,ih λy hy=>key y (Pa _ hy)]
   congr 1
   exact key z O8
def uf{z:Int}(h:decide (0<=z)=true):Tafl.nat? z=some z.toNat:=OW (O7 h)
def IE{s:Option R0}{kd:Nat}{xs:List Int}{ts:List (List Int)}{m:Except Rf (List Int)}(h:tO s kd xs ts=mI m λl=>.ok (s,l)):doneA s kd xs ts=(s,wj m):=by
 unfold doneA;rw[h];cases m<;>rfl
def DL{S:Option O1}{c:TaflMovesNeutral.Call}{x:TaflMoves.Call}(h:TaflMovesNeutral.callOf c=some x):TaflMovesNeutral.step S c=((TaflMoves.step S x).1,(TaflMoves.step S x).2.nums):=by
 unfold TaflMovesNeutral.step;rw[h]
def Ow(p:Option R0×List Int)(q:Option O1×List Int):Prop:=SR p.1 q.1/\p.2=q.2
def rY{s:Option R0}{S:Option O1}{kd:Nat}{xs:List Int}{ts:List (List Int)}{m:Except Rf (List Int)}{c:TaflMovesNeutral.Call}{x:TaflMoves.Call}(h:SR s S)(h1:tO s kd xs ts=mI m λl=>.ok (s,l))(h2:TaflMovesNeutral.callOf c=some x)(h3:(TaflMoves.step S x).1=S)(h4:wj m=(TaflMoves.step S x).2.nums):Ow (doneA s kd xs ts) (TaflMovesNeutral.step S c):=by
 rw[IE h1,DL h2];refine⟨?_,h4⟩;show SR s (TaflMoves.step S x).1;rw[h3];exact h
def Ig{s:Option R0}{S:Option O1}(h:SR s S){kd:Nat}{xs:List Int}{ts:List (List Int)}(kl:kd<8)(xl:NW.getD kd 0=xs.length)(tl:TW.getD kd 0=ts.length)(ha:TaflMovesNeutral.asked1 ((((kd:Nat):Int)::xs)::ts)=true):Ow (doneA s kd xs ts) (TaflMovesNeutral.step S ((((kd:Nat):Int)::xs)::ts)):=by
 match kd,kl with
 |0,_=>
  have:xs=[]:=Qi.mp xl.symm;subst this;obtain⟨t,rfl⟩:=jm tl;obtain⟨b,e1,e2⟩:=l8 ha;subst e2;have hc:TaflMovesNeutral.callOf [[((0:Nat):Int)],bD b]=some (.rules b):=by
   show(Tafl.text? (bD b)).map TaflMoves.Call.rules=_;rw[e1];rfl
  rw[DL hc];have j:=GS b;have ed:doneA s 0 [] [bD b]=match(match lg (bD b)with
   |.ok r=>Except.ok (some r,[(0:Int)])
   |.error p=>Except.error (Rf.rules p.1 p.2))with
   |.ok p=>p
   |.error f=>(s,numsOf f):=rfl
  have es:TaflMoves.step S (.rules b)=match Tafl.judge b with
   |.error (k,p)=>(S,Tafl.fault (-6) k p)
   |.ok r=>(some r,Tafl.says 0):=rfl
  rw[ed,es];cases hr:lg (bD b)with
  |error p=>
   rw[hr]at j;cases hj:Tafl.judge b with
   |error q=>
    rw[hj]at j;have j:p=q:=j;subst j;exact⟨h,rfl⟩
   |ok R=>rw[hj]at j;exact j.elim
  |ok r=>
   rw[hr]at j;cases hj:Tafl.judge b with
   |error q=>rw[hj]at j;exact j.elim
   |ok R=>
    rw[hj]at j;exact⟨j,rfl⟩
 |1,_=>
  have:xs=[]:=Qi.mp xl.symm;subst this;have:ts=[]:=Qi.mp tl.symm;subst this;exact rY h (m:=xI s) rfl (x:= .begin_) rfl rfl (Go h)
 |2,_=>
  have:xs=[]:=Qi.mp xl.symm;subst this;obtain⟨t,rfl⟩:=jm tl;obtain⟨b,e1,e2⟩:=l8 ha;subst e2;exact rY h (m:=Em s (bD b)) rfl (x:= .over b) (by
   show(Tafl.text? (bD b)).map TaflMoves.Call.over=_;rw[e1];rfl) rfl (E2 h b)
 |3,_=>
  have:xs=[]:=Qi.mp xl.symm;subst this;obtain⟨t,rfl⟩:=jm tl;obtain⟨b,e1,e2⟩:=l8 ha;subst e2;exact rY h (m:=Aa s (bD b)) rfl (x:= .moves b) (by
   show(Tafl.text? (bD b)).map TaflMoves.Call.moves=_;rw[e1];rfl) rfl (CF h b)
 |4,_=>
  obtain⟨t,rfl⟩:=jm tl
  match xs,xl with
  |[x,y],_=>
   have ha:(decide (0<=x)&&(decide (0<=y)&&t.all (λ(z:Int)=>decide (0<=z)&&decide (z<=255))))=true:=ha;rw[Pe,Pe]at ha;obtain⟨h1,h2,h3⟩:=ha;obtain⟨b,e1,e2⟩:=l8 h3;subst e2;exact rY h (m:=Eh s (bD b) x.toNat y.toNat) rfl (x:= .make b x.toNat y.toNat) (by
    show(do return TaflMoves.Call.make (<-Tafl.text? (bD b)) (<-Tafl.nat? x) (<-Tafl.nat? y))=_;rw[e1,uf h1,uf h2];rfl) rfl (EM h b x.toNat y.toNat)
 |5,_=>
  obtain⟨t,rfl⟩:=jm tl
  match xs,xl with
  |[x,y],_=>
   have ha:(decide (0<=x)&&(decide (0<=y)&&t.all (λ(z:Int)=>decide (0<=z)&&decide (z<=255))))=true:=ha;rw[Pe,Pe]at ha;obtain⟨h1,h2,h3⟩:=ha;obtain⟨b,e1,e2⟩:=l8 h3;subst e2;exact rY h (m:=xt s (bD b) x.toNat y.toNat) rfl (x:= .write b x.toNat y.toNat) (by
    show(do return TaflMoves.Call.write (<-Tafl.text? (bD b)) (<-Tafl.nat? x) (<-Tafl.nat? y))=_;rw[e1,uf h1,uf h2];rfl) rfl (Da h b x.toNat y.toNat)
 |6,_=>
  have:xs=[]:=Qi.mp xl.symm;subst this;obtain⟨t,u,rfl⟩:=J0 tl;have ha:(t.all (λ(z:Int)=>decide (0<=z)&&decide (z<=255))&&u.all (λ(z:Int)=>decide (0<=z)&&decide (z<=255)))=true:=ha;rw[Pe]at ha;obtain⟨b,e1,e2⟩:=l8 ha.1;obtain⟨c,e3,e4⟩:=l8 ha.2;subst e2;subst e4;exact rY h (m:=Dv s (bD b) (bD c)) rfl (x:= .read b c) (by
   show(do return TaflMoves.Call.read (<-Tafl.text? (bD b)) (<-Tafl.text? (bD c)))=_;rw[e1,e3];rfl) rfl (EF h b c)
 |7,_=>
  obtain⟨t,rfl⟩:=jm tl
  match xs,xl with
  |[x,y],_=>
   have ha:(decide (0<=x)&&(decide (0<=y)&&t.all (λ(z:Int)=>decide (0<=z)&&decide (z<=255))))=true:=ha;rw[Pe,Pe]at ha;obtain⟨h1,h2,h3⟩:=ha;obtain⟨b,e1,e2⟩:=l8 h3;subst e2;exact rY h (m:=DV s (bD b) x.toNat y.toNat) rfl (x:= .deep b x.toNat y.toNat) (by
    show(do return TaflMoves.Call.deep (<-Tafl.text? (bD b)) (<-Tafl.nat? x) (<-Tafl.nat? y))=_;rw[e1,uf h1,uf h2];rfl) rfl (E1 h b x.toNat y.toNat)
def drop_cons{ns r:List Int}{m:Nat}{z:Int}(h:ns.drop m=z::r):ns[m]? =some z/\r=ns.drop (m+1)/\m<ns.length:=by
 have hl:m<ns.length:=by
  by_cases e:m<ns.length
  ·exact e
  ·rw[List.drop_eq_nil_of_le (by omega)]at h
   cases h
 rw[Qr hl]at h;injection h with h1 h2;exact⟨by rw[OY hl,h1],h2.symm,hl⟩
def DW{ns:List Int}:∀(k m:Nat)(xs:List (List Int))(t:List Int),PyFlat.rows k (ns.drop m)=some (xs,t)->xs.length=k/\∃n',t=ns.drop n'/\B3 ns m xs n'
 |0,m,xs,t,h=>by
  cases h;exact⟨rfl,m,rfl,rfl⟩
 |k+1,m,xs,t,h=>by
  unfold PyFlat.rows at h;cases hr:PyFlat.row (ns.drop m)with
  |none=>rw[hr]at h;cases h
  |some q=>
   obtain⟨x,s⟩:=q;rw[hr]at h;replace h:(match PyFlat.rows k s with|none=>none|some (xs,t)=>some (x::xs,t))=some (xs,t):=h;cases hd:ns.drop m with
   |nil=>rw[hd]at hr;cases hr
   |cons z r=>
    rw[hd]at hr;obtain⟨h1,h2,h3⟩:=drop_cons hd;replace hr:(if 0<=z/\z.toNat<=r.length then some (r.take z.toNat,r.drop z.toNat)else none)=some (x,s):=hr
    by_cases hz:0<=z/\z.toNat<=r.length
    ·rw[OW hz]at hr
     injection hr with hr;injection hr with hx hs;subst hx;subst hs;subst h2;rw[List.drop_drop]at h;have len:((ns.drop (m+1)).take z.toNat).length=z.toNat:=by
      rw[PK];omega
     have rl:(ns.drop (m+1)).length=ns.length-(m+1):=QY;cases hrs:PyFlat.rows k (ns.drop (m+1+z.toNat))with
     |none=>rw[hrs]at h;cases h
     |some q=>
      obtain⟨ys,u⟩:=q;rw[hrs]at h;injection h with h;injection h with e1 e2;subst e1;subst e2;obtain⟨l1,n',l2,l3⟩:=DW k (m+1+z.toNat) ys u hrs;refine⟨by rw[Pt,l1],n',l2,?_,?_,?_,?_⟩
      ·rw[len,h1]
       congr 1
       omega
      ·rw[len]
      ·rw[len]
       omega
      ·rw[len]
       exact l3
    ·rw[OV hz]at hr
     cases hr
def Gw{p:Int}{n k:Nat}(h:PyWqacda.shape p=some (n,k)):∃kd:Nat,kd<8/\p=((kd:Nat):Int)/\NW.getD kd 0=n/\TW.getD kd 0=k:=by
 unfold PyWqacda.shape at h
 by_cases h0:p=0
 ·rw[OW h0]at h;cases h;exact⟨0,by decide,h0,rfl,rfl⟩
 rw[OV h0]at h
 by_cases h1:p=1
 ·rw[OW h1]at h;cases h;exact⟨1,by decide,h1,rfl,rfl⟩
 rw[OV h1]at h
 by_cases h2:p=2
 ·rw[OW h2]at h;cases h;exact⟨2,by decide,h2,rfl,rfl⟩
 rw[OV h2]at h
 by_cases h3:p=3
 ·rw[OW h3]at h;cases h;exact⟨3,by decide,h3,rfl,rfl⟩
 rw[OV h3]at h
 by_cases h4:p=4
 ·rw[OW h4]at h;cases h;exact⟨4,by decide,h4,rfl,rfl⟩
 rw[OV h4]at h
 by_cases h5:p=5
 ·rw[OW h5]at h;cases h;exact⟨5,by decide,h5,rfl,rfl⟩
 rw[OV h5]at h
 by_cases h6:p=6
 ·rw[OW h6]at h;cases h;exact⟨6,by decide,h6,rfl,rfl⟩
 rw[OV h6]at h
 by_cases h7:p=7
 ·rw[OW h7]at h;cases h;exact⟨7,by decide,h7,rfl,rfl⟩
 rw[OV h7]at h;cases h
def Mb(c:Cl):List (List Int):=(((c.1:Nat):Int)::c.2.1)::c.2.2
def HJ{ns:List Int}{m:Nat}{c:List (List Int)}{t:List Int}(h:PyFlat.call PyWqacda.shape (ns.drop m)=some (c,t)):∃(q:Cl)(n':Nat),c=Mb q/\t=ns.drop n'/\Kx ns m q.1 q.2.1 q.2.2 n':=by
 cases hd:ns.drop m with
 |nil=>rw[hd]at h;cases h
 |cons p r=>
  rw[hd]at h;obtain⟨h1,h2,h3⟩:=drop_cons hd;unfold PyFlat.call at h;dsimp only at h;cases hs:PyWqacda.shape p with
  |none=>rw[hs]at h;cases h
  |some q=>
   obtain⟨n,k⟩:=q;rw[hs]at h;obtain⟨kd,k1,k2,k3,k4⟩:=Gw hs;dsimp only at h
   by_cases hn:r.length<n
   ·rw[OW hn]at h;cases h
   ·rw[OV hn,h2,List.drop_drop]at h
    have rl:r.length=ns.length-(m+1):=by rw[h2];exact QY
    cases hr:PyFlat.rows k (ns.drop (m+1+n))with
    |none=>rw[hr]at h;cases h
    |some q=>
     obtain⟨ys,u⟩:=q;rw[hr]at h;injection h with h;injection h with e1 e2;subst e2;obtain⟨l1,n',l2,l3⟩:=DW k (m+1+n) ys u hr;have len:((ns.drop (m+1)).take n).length=n:=by
      rw[PK,<-h2];omega
     refine⟨(kd,(ns.drop (m+1)).take n,ys),n',?_,l2,?_⟩
     ·rw[<-e1,k2]
      rfl
     ·exact⟨by rw[h1,k2],k1,by rw[k3];exact len.symm,by show _=_;rw[len],by show m+1+((ns.drop (m+1)).take n).length<=_;rw[len];omega,by rw[k4];exact l1.symm,by show B3 ns (m+1+((ns.drop (m+1)).take n).length) _ _;rw[len];exact l3⟩
def HB{q:Cl}(kl:q.1<8)(xl:NW.getD q.1 0=q.2.1.length)(tl:TW.getD q.1 0=q.2.2.length)(ha:TaflMovesNeutral.asked1 (Mb q)=true):∀v∈q.2.1,0<=v:=by
 obtain⟨kd,xs,ts⟩:=q;dsimp only at kl xl tl ⊢;have two:∀(k:Int)(x y:Int)(t:List Int),(TaflMovesNeutral.asked1 [[k,x,y],t]=(decide (0<=x)&&(decide (0<=y)&&t.all (λ(z:Int)=>decide (0<=z)&&decide (z<=255)))))->TaflMovesNeutral.asked1 [[k,x,y],t]=true->∀v∈[x,y],0<=v:=λk x y t e h v hv=>by
  rw[e,Pe,Pe]at h;have h1:=O7 h.1;have h2:=O7 h.2.1;rcases Po.mp hv with rfl|hv
  ·exact h1
  ·rw[Pj]at hv
   subst hv;exact h2
 match kd,kl with
 |0,_|1,_|2,_|3,_|6,_=>
  have:xs=[]:=Qi.mp xl.symm;subst this;exactλv hv=>by cases hv
 |4,_|5,_|7,_=>
  obtain⟨t,rfl⟩:=jm tl
  match xs,xl with
  |[x,y],_=>exact two _ x y t rfl ha
def Hx{ns:List Int}:∀(f m:Nat)(cs:List (List (List Int))),PyFlat.calls PyWqacda.shape f (ns.drop m)=some cs->cs.all TaflMovesNeutral.asked1=true->∃l:List Cl,l.length=cs.length/\MH ns m l/\∀s S,SR s S->ym s l=PyFlat.told (PyFlat.played TaflMovesNeutral.step S cs):=by
 intro f
 induction f with
 |zero=>
  intro m cs h ha;cases hd:ns.drop m with
  |nil=>
   rw[hd]at h;cases h;exact⟨[],rfl,Rz.mp hd,λs S _=>rfl⟩
  |cons p r=>rw[hd]at h;cases h
 |succ f ih=>
  intro m cs h ha;cases hd:ns.drop m with
  |nil=>
   rw[hd]at h;cases h;exact⟨[],rfl,Rz.mp hd,λs S _=>rfl⟩
  |cons p r=>
   rw[hd]at h;replace h:(match PyFlat.call PyWqacda.shape (p::r)with
    |none=>none
    |some (c,t)=>match PyFlat.calls PyWqacda.shape f t with
     |none=>none
     |some cs=>some (c::cs))=some cs:=h
   rw[<-hd]at h;cases hc:PyFlat.call PyWqacda.shape (ns.drop m)with
   |none=>rw[hc]at h;cases h
   |some q=>
    obtain⟨c,t⟩:=q;rw[hc]at h;obtain⟨q,n',rfl,rfl,Pq⟩:=HJ hc;dsimp only at h;cases hcs:PyFlat.calls PyWqacda.shape f (ns.drop n')with
    |none=>rw[hcs]at h;cases h
    |some ds=>
     rw[hcs]at h;injection h with h;subst h;rw[List.all_cons,Pe]at ha;obtain⟨l,l1,l2,l3⟩:=ih n' ds hcs ha.2;refine⟨q::l,by rw[Pt,Pt,l1],⟨n',Pq,HB Pq.kl Pq.xl Pq.tl ha.1,l2⟩,λs S h=>?_⟩;obtain⟨d1,d2⟩:=Ig h Pq.kl Pq.xl Pq.tl ha.1;show wc (doneA s q.1 q.2.1 q.2.2).2++ym (doneA s q.1 q.2.1 q.2.2).1 l=((((TaflMovesNeutral.step S (Mb q)).2.length:Nat):Int)::(TaflMovesNeutral.step S (Mb q)).2)++PyFlat.told (PyFlat.played TaflMovesNeutral.step (TaflMovesNeutral.step S (Mb q)).1 ds);rw[l3 _ _ d1,d2];rfl
def FD(c:List (List Int)):PyWqacda.whole c=c:=by
 unfold PyWqacda.whole;split<;>rfl
def Ct{ns:List Int}(h:PyWqacda.answers_asked ns=true):∃l:List Cl,MH ns 0 l/\l.length<=300/\ym none l=PyWqacda.answers ns:=by
 unfold PyWqacda.answers_asked at h;unfold PyWqacda.answers;cases hc:PyWqacda.calls ns with
 |none=>rw[hc]at h;cases h
 |some cs=>
  rw[hc]at h;dsimp only at h ⊢;rw[Pe]at h;obtain⟨h1,h2⟩:=h;unfold PyWqacda.calls at hc;cases hp:PyFlat.calls PyWqacda.shape ns.length ns with
  |none=>rw[hp]at hc;cases hc
  |some ds=>
   rw[hp]at hc;injection hc with hc;have e:ds.map PyWqacda.whole=ds:=by
    conv=>rhs;rw[<-List.map_id ds]
    exact QP λc _=>FD c
   rw[e]at hc;subst hc;unfold TaflMovesNeutral.asked at h2;rw[Pe]at h2;obtain⟨l,l1,l2,l3⟩:=Hx (ns:=ns) ns.length 0 ds (by rw[List.drop_zero];exact hp) h2.2;refine⟨l,l2,?_,l3 none none trivial⟩;rw[l1];exact O7 h1
def Fd{K:OX}{mg:Str->Option Value}{a:Ad}(T:Tx K mg a):∀(s:Shared)(us:List Value),us.length=(["calls"]:List Str).length->BindsTo s a.qy ⟨us,[]⟩ ((["calls"]:List Str).zip us):=by
 obtain⟨oc,od,kV,doc,pm,an,cdv,ct,osl,e,_,_⟩:=T.kD.F.ex;rw[e];intro s us hu
 match us,hu with
 |[_],_=>exact .of_eq rfl
def K9{P:PN}{w:World}{K:OX}{mg:Str->Option Value}{a:Ad}{fa:Addr}(T:Tx K mg a)(Y:Oh K a)(hmg:mg "answers"=some (.ref fa)):
  ∃fd:O5,(∀(s:Shared)(us:List Value),us.length=(["calls"]:List Str).length->BindsTo s fd ⟨us,[]⟩ ((["calls"]:List Str).zip us))/\∀base:Heap,K.In base->base.Ns mainGlobals mg->a4 P w K mg base (cX P w) 13 fa fd ["calls"] (DS K):=by
 have e:=hmg.symm.trans T.kD.m;cases e;exact⟨a.qy,Fd T,λbase _ _=>CG T Y⟩
def K4{K:OX}{H:Hp}{xs:List V}{ns:List Int}(ha:PyWqacda.answers_asked ns=true)(hx:nG K H xs [.list (ns.map PySem.W.WData.int)]):DS K xs H (λv H'=>Dw K H' v (.list ((PyWqacda.answers ns).map PySem.W.WData.int))) λ_ _ _=>False:=by
 cases hx with
 |cons h1 h2=>
  cases h2;cases h1 with
  |lst hs hd=>
   have e:=DO ns _ hd;subst e;obtain⟨l,l1,l2,l3⟩:=Ct ha;refine⟨_,ns,l,rfl,hs,l1,l2,λH' q _ hq=>?_⟩;rw[l3]at hq;exact .lst (a0.of hq) (DQ _)
def K7{P:PN}{w:World}{H:Hp}{s:Shared}{e:Value}{s':Shared}:cX P w [] H s (λ_ _ _=>False) e s'->False:=λ⟨_,_,_,_,_,_,_,_,_,_,_,_,_,h⟩=>h
def GR{r:PySem.W.OpenSpec}{k:Nat}{q:PN}{loose:List Str}{XP:(Str->Option Value)->Heap->Prop}{YP:World->Heap->Prop}{d:PySem.DefRec}{K:Params->OX}{CX:World->Dg}{ps:List Str}{sp:OX->Sp}
  (hwell:r.wellSaid=true)(hdf:d.params.defaults=[])(hlen:r.args.length=ps.length)(hr:gf k callerA)
  (hY:∀(w:World)(h:Heap),YP w h->(K w.params).In h)
  (F:∀(w:World)(mg:Str->Option Value)(fa:Addr)(h:Heap),YP w h->(K w.params).In h->h.Ns mainGlobals mg->mg d.name=some (.ref fa)->
   ∃fd:O5,(∀(s:Shared)(us:List Value),us.length=ps.length->BindsTo s fd ⟨us,[]⟩ (ps.zip us))/\
    ∀base:Heap,(K w.params).In base->base.Ns mainGlobals mg->a4 r.prog w (K w.params) mg base (CX w) k fa fd ps (sp (K w.params)))
  (hsp:∀(K:OX)(H:Hp)(xs:List V)(a:PySem.W.Codec.denoteAll r.args),Ci H->PySem.W.Codec.withinAll r.args a=true->PySem.W.Codec.app r.args r.asked a=true->nG K H xs (PySem.W.Codec.encAll r.args a)->
   sp K xs H (λv H'=>Dw K H' v (r.ret.enc (PySem.W.Codec.app r.args r.f a))) λ_ _ _=>False)
  (hCX:∀(w:World)(H:Hp)(s:Shared)(e:Value)(s':Shared),CX w [] H s (λ_ _ _=>False) e s'->False):
  PySem.W.WalkOS q loose XP YP r d [] (λf vs=>PySem.call f vs):=
 EL (K:=K) (CX:=CX) (sp:=λw=>sp (K w.params)) hwell hdf hlen hr hY F (λw H xs a h1 h2 h3 h4=>hsp (K w.params) H xs a h1 h2 h3 h4) hCX
section
variable{K:OX}{mg:Str->Option Value}{h:Heap}{st:Stmt}{x m qual:Str}{C N f:Addr}{ps:List Str}{oc kV doc pm cdv ct:Value}{od an:Option Addr}{osl:Array (Option Value)}{q:Str}{bs:List Value}{sn:List Str}{sub:List Value}{ab:Bool}{col:Option Bool}{dd:Option Addr}{k0 k1 k2 k3 k5:Option Value}
def zK(hb:∀(kV doc pm:Value)(an:Option Addr)(cdv ct:Value)(us:List Value),us.length=ps.length->bindArgs (PySem.W.fnOf m qual (gL st) (dG st) (ao st) .none kV doc pm an cdv ct) ⟨us,[]⟩=pure (ps.zip us))
  (l:K.lookup f=some ⟨oc,od,.func (PySem.W.fnOf m qual (gL st) (dG st) (ao st) .none kV doc pm an cdv ct),osl⟩)(c:PySem.W.codeIn K cdv qual=true)(k:PySem.W.keepIn K (.ref f)=true):Fi K m qual st f (PySem.W.fnOf m qual (gL st) (dG st) (ao st) .none kV doc pm an cdv ct) ps:=
 have F:=KR (st:=st) l c k
 ⟨F,F.binds hb⟩
def bo(X:K.In h)(G:h.Ns mainGlobals mg)(hb:∀(kV doc pm:Value)(an:Option Addr)(cdv ct:Value)(us:List Value),us.length=ps.length->bindArgs (PySem.W.fnOf qual qual (gL st) (dG st) (ao st) .none kV doc pm an cdv ct) ⟨us,[]⟩=pure (ps.zip us))(ha:PySem.W.nsIn K mainGlobals x=some (some (.ref f)))
  (l:K.lookup f=some ⟨oc,od,.func (PySem.W.fnOf qual qual (gL st) (dG st) (ao st) .none kV doc pm an cdv ct),osl⟩)(c:PySem.W.codeIn K cdv qual=true)(k:PySem.W.keepIn K (.ref f)=true):Fn K mg x qual st f (PySem.W.fnOf qual qual (gL st) (dG st) (ao st) .none kV doc pm an cdv ct) ps:=
 have F:=zK hb l c k
 ⟨PySem.W.mg_of X G ha,F.F,F.b⟩
def fu(hb:∀(kV doc pm:Value)(an:Option Addr)(cdv ct:Value)(us:List Value),us.length=ps.length->bindArgs (PySem.W.fnOf m qual (gL st) (dG st) (ao st) .none kV doc pm an cdv ct) ⟨us,[]⟩=pure (ps.zip us))(ha:PySem.W.findIn K (.ref C) m=some (some (.ref f)))(i:PySem.W.isFn K (.ref f)=true)
  (l:K.lookup f=some ⟨oc,od,.func (PySem.W.fnOf m qual (gL st) (dG st) (ao st) .none kV doc pm an cdv ct),osl⟩)(c:PySem.W.codeIn K cdv qual=true)(k:PySem.W.keepIn K (.ref f)=true):Mt K C m qual st f (PySem.W.fnOf m qual (gL st) (dG st) (ao st) .none kV doc pm an cdv ct) ps:=
 have F:=zK hb l c k
 ⟨⟨ha,i,k⟩,F.F,F.b⟩
def sC(X:K.In h)(G:h.Ns mainGlobals mg)(ha:PySem.W.nsIn K mainGlobals x=some (some (.ref C)))(pg:PySem.W.plainGet K C Str.empty=true)(hd:PySem.W.hasDictIn K C=true)(po:PySem.W.plainOver K C=true)
  (sa:PySem.W.findIn K (.ref C) "__setattr__"=some (some (.builtin "object.__setattr__"))):Kl K mg x C:=⟨⟨pg,hd,po,sa⟩,PySem.W.mg_of X G ha⟩
def bB(e:PySem.W.findIn K (.ref C) x=some none):aP K C x:=e
def Dh{b:Addr}{its:List Value}{vs:List V}{n:Nat}(l:K.lookup b=some {cls:= .type "tuple",data:= .seq its.toArray n})(r:Vals vs its)(hz:vs.length<=100)(H:Hp):iV K H b vs:=by
 refine .inr ⟨_,its.toArray,n,l,rfl,rfl,?_,r⟩;rw[Py,<-r.length,O2];omega
def ML{b:Addr}{its:Array Value}{n:Nat}(l:K.lookup b=some {cls:= .type "tuple",data:= .seq its n}):∃o,K.lookup b=some o/\o.cls=Value.type "tuple"/\o.dict=none:=⟨_,l,rfl,rfl⟩
def iy{i:Int}{t:Tok}:RelV (.int i) (.int i t):=⟨_,rfl⟩
def Dl{i:Str}{t:Tok}:RelV (.str i) (.str i t):=⟨_,rfl⟩
def wk(l:K.lookup C=some (excClassObj x q C N bs HE true sn sub ab col dd k0 k1 k2 k3 k5 "ValueError.__new__")):FZ K C x:=⟨_,_,l,rfl,rfl⟩
def HK(c:nu K C)(t:PySem.W.typeIn K (.ref C)=some (.type "type")):Gz K C:=⟨λD d=>by
 have z:PySem.W.subIn K (.ref C) (.type "BaseException")=some true:=c.exc;unfold PySem.W.exmOne;rw[z,OW (by decide)];show(if((PySem.W.clsIn K C).isSome&&PySem.W.typeIn K (.ref C)==some (.type "type"))=true then PySem.W.subIn K (.ref D) (.ref C)else none)=_;obtain⟨cd,h1,_,_⟩:=c.mro;rw[h1,t];simp only[Option.isSome_some,beq_self_eq_true,Bool.and_self,if_true];refine d.has ?_
 by_cases hD:D=C
 ·rw[O0 hD,hD]
  simp
 ·rw[PF hD]
  simp[Pb hD]⟩
def u6{x nm q:Str}{C N:Addr}{bs:List Value}{sn:List Str}{sub:List Value}{ab:Bool}{col:Option Bool}{dd:Option Addr}{k0 k1 k2 k3 k5:Option Value}(X:K.In h)(G:h.Ns mainGlobals mg)
  (ha:PySem.W.nsIn K mainGlobals x=some (some (.ref C)))(l:K.lookup C=some (excClassObj nm q C N bs HE true sn sub ab col dd k0 k1 k2 k3 k5 "ValueError.__new__"))
  (sa:PySem.W.findIn K (.ref C) "__setattr__"=some (some (.builtin "object.__setattr__")))(ga:PySem.W.findIn K (.ref C) "__getattribute__"=some (some (.builtin "BaseException.__getattribute__")))
  (gt:PySem.W.findIn K (.ref C) "__getattr__"=some none):Xl K mg x C:=by
 have c:nu K C:=⟨⟨_,by unfold PySem.W.clsIn;rw[l],rfl,rfl⟩,sa,ga,gt⟩;exact⟨c,HK c (by show(K.lookup C).map (·.cls)=_;rw[l];rfl),PySem.W.mg_of X G ha⟩
def Gc{nm q:Str}{C N:Addr}{ini:Option Addr}{bs:List Value}{sn:List Str}{sub:List Value}{ab:Bool}{col:Option Bool}{dd:Option Addr}{k0 k1 k2 k3 k5:Option Value}{oc:Value}{od:Option Addr}{es:Array DictEntry}{ep:Nat}{sl:Array (Option Value)}
  (l:K.lookup C=some (excClassObj nm q C N bs HE true sn sub ab col dd k0 k1 k2 k3 k5 "ValueError.__new__"))(lN:K.lookup N=some ⟨oc,od,.dict es ep,sl⟩)(hk:(es.toList.all λe=>match e.key with|.str _ _=>true|_=>false)=true)
  (hi:PySem.W.nsIn K N "__init__"=some (ini.map Value.ref))(fn:∀f,ini=some f->PySem.W.isFn K (.ref f)=true)(kp:PySem.W.keepIn K (.ref C)=true):Co K C ini:=by
 have hs:StrKeys es:=λe he=>by
  have z:=QI.mp hk e (Array.mem_toList_iff.mpr he);cases hq:e.key with
  |str x t=>exact⟨x,t,rfl⟩
  |_=>rw[hq]at z;cases z
 refine⟨⟨nm,q,N,bs,sn,sub,ab,col,dd,k0,k1,k2,k3,k5,nsFind es,l,λh X=>⟨_,es,ep,X _ _ lN,rfl,hs,λ_=>rfl⟩,?_⟩,λf e=>?_,kp⟩
 ·unfold PySem.W.nsIn at hi
  rw[lN]at hi;dsimp only at hi;unfold nsFind findBy;rw[<-Array.find?_toList];split at hi
  ·rename_i y hy
   rw[hy];exact Pu hi
  ·rename_i hy
   rw[hy];split at hi
   ·cases hi
   ·exact Pu hi
 ·have z:=fn f e
  have z:((K.lookup f).map (·.cls)==some (.type "function"))=true:=z;cases hq:K.lookup f with
  |none=>rw[hq]at z;simp at z
  |some o=>
   rw[hq]at z;exact⟨o,rfl,by simpa using z⟩
def AT{es:Array DictEntry}{ep:Nat}{sl:Array (Option Value)}(l:K.lookup C=some (excClassObj x q C N bs HE true sn sub ab col dd k0 k1 k2 k3 k5 "ValueError.__new__"))(lN:K.lookup N=some ⟨oc,od,.dict es ep,sl⟩)(hk:(es.toList.all λe=>match e.key with|.str _ _=>true|_=>false)=true)
  (hi:PySem.W.nsIn K N "__init__"=some (some (.ref f)))(i:PySem.W.isFn K (.ref f)=true)(kp:PySem.W.keepIn K (.ref C)=true):Co K C (some f):=Gc l lN hk (ini:=some f) hi (λ_ e=>by cases e;exact i) kp
def Ah{es:Array DictEntry}{ep:Nat}{sl:Array (Option Value)}(l:K.lookup C=some (excClassObj x q C N bs HE true sn sub ab col dd k0 k1 k2 k3 k5 "ValueError.__new__"))(lN:K.lookup N=some ⟨oc,od,.dict es ep,sl⟩)(hk:(es.toList.all λe=>match e.key with|.str _ _=>true|_=>false)=true)
  (hi:PySem.W.nsIn K N "__init__"=some none)(kp:PySem.W.keepIn K (.ref C)=true):Co K C none:=Gc l lN hk (ini:=none) hi (λ_ e=>nomatch e) kp
end
end Kh
open PySem PySem.W PyProof.Rows
set_option maxRecDepth 100000 in
set_option maxHeartbeats 0 in
theorem PySem.Challenge.cw_kinghalldesk_s01_answers_holds : PySem.Challenge.rw_kinghalldesk_s01_answers.Holds := by
 w_on;k_headS;(case hw=>exact⟨[.list [.int 1]],by decide+kernel,by decide+kernel⟩)
 k_fillS
 refine Kh.GR (r:=PySem.Challenge.rw_kinghalldesk_s01_answers) (k:=13) (CX:=λw=>L2.cX PySem.Challenge.rw_kinghalldesk_s01_answers.prog w) (ps:=["calls"]) (sp:=Kh.DS) (by decide+kernel) rfl rfl ⟨rfl,by decide,by decide⟩ (λw h Y=>PySem.W.kIn_of Y) ?F (λK H xs a hO hwi hask hx=>Kh.K4 (ns:=a.1) hask hx) (λw H s e s'=>Kh.K7);intro w mg fa h Y KX G hmg;apply Kh.K9 (a:=⟨_,_,_,_,_,_,_,_,_,_,_,_,_,_,_,_,_,_,_,_,_,_,_,_,_,_,_,_,_,_,_,_,_,_,_,_,_,_,_,_,_,_,_,_,_,_,_,_,_,_,_,_,_,_,_,_,_,_,_,_,_,_,_,_,_,_,_,_,_,_,_,_,_,_,_,_,_,_,_,_,_,_,_,_,_,_,_,_,_,_,_,_,_,_,_,_,_,_,_,_,_,_,_,_,_,_,_,_,_,_,_,_,_,_,_,_,_,_,_,_,_,_,_,_,_,_,_,_,_,_,_,_,_,_,_,_,_,_,_,_,_,_,_,_,_,_,_,_,_,_,_,_,_,_,_,_,_,_,_,_,_,_,_,_,_,_,_,_,_,_,_,_,_,_,_,_,_,_,_,_,_,_,_,_,_,_,_,_,_,_,_,_,_,_,_,_,_,_,_,_,_,_,_,_,_,_,_,_,_,_,_,_,_,_,_,_,_,_,_,_,_⟩) ⟨Kh.bo KX G (λ_ _ _ _ _ _ us hl=>match us,hl with|[_],_=>rfl) ?_ ?_ ?_ ?_,Kh.bo KX G (λ_ _ _ _ _ _ us hl=>match us,hl with|[_,_],_=>rfl) ?_ ?_ ?_ ?_,Kh.bo KX G (λ_ _ _ _ _ _ us hl=>match us,hl with|[_,_],_=>rfl) ?_ ?_ ?_ ?_,Kh.bo KX G (λ_ _ _ _ _ _ us hl=>match us,hl with|[_,_,_,_,_],_=>rfl) ?_ ?_ ?_ ?_,Kh.bo KX G (λ_ _ _ _ _ _ us hl=>match us,hl with|[_,_],_=>rfl) ?_ ?_ ?_ ?_,Kh.bo KX G (λ_ _ _ _ _ _ us hl=>match us,hl with|[_,_,_,_],_=>rfl) ?_ ?_ ?_ ?_,Kh.bo KX G (λ_ _ _ _ _ _ us hl=>match us,hl with|[_,_,_,_],_=>rfl) ?_ ?_ ?_ ?_,Kh.bo KX G (λ_ _ _ _ _ _ us hl=>match us,hl with|[_,_,_],_=>rfl) ?_ ?_ ?_ ?_,Kh.bo KX G (λ_ _ _ _ _ _ us hl=>match us,hl with|[_,_,_],_=>rfl) ?_ ?_ ?_ ?_,Kh.bo KX G (λ_ _ _ _ _ _ us hl=>match us,hl with|[_,_,_],_=>rfl) ?_ ?_ ?_ ?_,Kh.bo KX G (λ_ _ _ _ _ _ us hl=>match us,hl with|[_,_,_,_],_=>rfl) ?_ ?_ ?_ ?_,Kh.bo KX G (λ_ _ _ _ _ _ us hl=>match us,hl with|[_,_,_],_=>rfl) ?_ ?_ ?_ ?_,Kh.bo KX G (λ_ _ _ _ _ _ us hl=>match us,hl with|[_,_,_,_,_],_=>rfl) ?_ ?_ ?_ ?_,Kh.bo KX G (λ_ _ _ _ _ _ us hl=>match us,hl with|[_,_,_,_,_],_=>rfl) ?_ ?_ ?_ ?_,Kh.bo KX G (λ_ _ _ _ _ _ us hl=>match us,hl with|[_,_,_],_=>rfl) ?_ ?_ ?_ ?_,Kh.bo KX G (λ_ _ _ _ _ _ us hl=>match us,hl with|[_,_],_=>rfl) ?_ ?_ ?_ ?_,Kh.bo KX G (λ_ _ _ _ _ _ us hl=>match us,hl with|[_,_],_=>rfl) ?_ ?_ ?_ ?_,Kh.bo KX G (λ_ _ _ _ _ _ us hl=>match us,hl with|[_,_],_=>rfl) ?_ ?_ ?_ ?_,Kh.bo KX G (λ_ _ _ _ _ _ us hl=>match us,hl with|[_,_],_=>rfl) ?_ ?_ ?_ ?_,Kh.bo KX G (λ_ _ _ _ _ _ us hl=>match us,hl with|[_,_],_=>rfl) ?_ ?_ ?_ ?_,Kh.bo KX G (λ_ _ _ _ _ _ us hl=>match us,hl with|[_,_,_,_],_=>rfl) ?_ ?_ ?_ ?_,Kh.bo KX G (λ_ _ _ _ _ _ us hl=>match us,hl with|[_,_],_=>rfl) ?_ ?_ ?_ ?_,Kh.bo KX G (λ_ _ _ _ _ _ us hl=>match us,hl with|[_,_,_],_=>rfl) ?_ ?_ ?_ ?_,Kh.bo KX G (λ_ _ _ _ _ _ us hl=>match us,hl with|[_,_,_,_],_=>rfl) ?_ ?_ ?_ ?_,Kh.bo KX G (λ_ _ _ _ _ _ us hl=>match us,hl with|[_],_=>rfl) ?_ ?_ ?_ ?_,Kh.bo KX G (λ_ _ _ _ _ _ us hl=>match us,hl with|[_,_],_=>rfl) ?_ ?_ ?_ ?_,Kh.bo KX G (λ_ _ _ _ _ _ us hl=>match us,hl with|[_,_,_],_=>rfl) ?_ ?_ ?_ ?_,Kh.bo KX G (λ_ _ _ _ _ _ us hl=>match us,hl with|[_,_,_],_=>rfl) ?_ ?_ ?_ ?_,Kh.bo KX G (λ_ _ _ _ _ _ us hl=>match us,hl with|[_,_],_=>rfl) ?_ ?_ ?_ ?_,Kh.bo KX G (λ_ _ _ _ _ _ us hl=>match us,hl with|[_,_],_=>rfl) ?_ ?_ ?_ ?_,Kh.bo KX G (λ_ _ _ _ _ _ us hl=>match us,hl with|[_],_=>rfl) ?_ ?_ ?_ ?_,Kh.bo KX G (λ_ _ _ _ _ _ us hl=>match us,hl with|[_],_=>rfl) ?_ ?_ ?_ ?_,Kh.bo KX G (λ_ _ _ _ _ _ us hl=>match us,hl with|[_,_],_=>rfl) ?_ ?_ ?_ ?_,Kh.bo KX G (λ_ _ _ _ _ _ us hl=>match us,hl with|[_],_=>rfl) ?_ ?_ ?_ ?_,Kh.bo KX G (λ_ _ _ _ _ _ us hl=>match us,hl with|[_],_=>rfl) ?_ ?_ ?_ ?_,Kh.bo KX G (λ_ _ _ _ _ _ us hl=>match us,hl with|[_,_],_=>rfl) ?_ ?_ ?_ ?_,Kh.bo KX G (λ_ _ _ _ _ _ us hl=>match us,hl with|[_,_,_],_=>rfl) ?_ ?_ ?_ ?_,Kh.bo KX G (λ_ _ _ _ _ _ us hl=>match us,hl with|[_],_=>rfl) ?_ ?_ ?_ ?_,Kh.bo KX G (λ_ _ _ _ _ _ us hl=>match us,hl with|[_],_=>rfl) ?_ ?_ ?_ ?_,Kh.bo KX G (λ_ _ _ _ _ _ us hl=>match us,hl with|[_],_=>rfl) ?_ ?_ ?_ ?_,Kh.bo KX G (λ_ _ _ _ _ _ us hl=>match us,hl with|[_,_,_,_],_=>rfl) ?_ ?_ ?_ ?_,Kh.bo KX G (λ_ _ _ _ _ _ us hl=>match us,hl with|[_,_,_],_=>rfl) ?_ ?_ ?_ ?_,Kh.bo KX G (λ_ _ _ _ _ _ us hl=>match us,hl with|[_],_=>rfl) ?_ ?_ ?_ ?_,Kh.bo KX G (λ_ _ _ _ _ _ us hl=>match us,hl with|[_],_=>rfl) ?_ ?_ ?_ ?_,Kh.bo KX G (λ_ _ _ _ _ _ us hl=>match us,hl with|[_,_],_=>rfl) ?_ ?_ ?_ ?_,Kh.bo KX G (λ_ _ _ _ _ _ us hl=>match us,hl with|[_,_],_=>rfl) ?_ ?_ ?_ ?_,Kh.bo KX G (λ_ _ _ _ _ _ us hl=>match us,hl with|[_],_=>rfl) ?_ ?_ ?_ ?_,Kh.bo KX G (λ_ _ _ _ _ _ us hl=>match us,hl with|[_],_=>rfl) ?_ ?_ ?_ ?_,Kh.bo KX G (λ_ _ _ _ _ _ us hl=>match us,hl with|[_],_=>rfl) ?_ ?_ ?_ ?_,Kh.bo KX G (λ_ _ _ _ _ _ us hl=>match us,hl with|[_],_=>rfl) ?_ ?_ ?_ ?_,Kh.bo KX G (λ_ _ _ _ _ _ us hl=>match us,hl with|[_,_],_=>rfl) ?_ ?_ ?_ ?_,Kh.bo KX G (λ_ _ _ _ _ _ us hl=>match us,hl with|[_],_=>rfl) ?_ ?_ ?_ ?_,Kh.bo KX G (λ_ _ _ _ _ _ us hl=>match us,hl with|[_,_],_=>rfl) ?_ ?_ ?_ ?_,Kh.bo KX G (λ_ _ _ _ _ _ us hl=>match us,hl with|[_,_],_=>rfl) ?_ ?_ ?_ ?_,Kh.bo KX G (λ_ _ _ _ _ _ us hl=>match us,hl with|[_,_],_=>rfl) ?_ ?_ ?_ ?_,Kh.bo KX G (λ_ _ _ _ _ _ us hl=>match us,hl with|[_,_],_=>rfl) ?_ ?_ ?_ ?_,Kh.bo KX G (λ_ _ _ _ _ _ us hl=>match us,hl with|[_,_],_=>rfl) ?_ ?_ ?_ ?_,Kh.bo KX G (λ_ _ _ _ _ _ us hl=>match us,hl with|[_,_],_=>rfl) ?_ ?_ ?_ ?_,Kh.bo KX G (λ_ _ _ _ _ _ us hl=>match us,hl with|[_,_],_=>rfl) ?_ ?_ ?_ ?_,Kh.bo KX G (λ_ _ _ _ _ _ us hl=>match us,hl with|[_,_],_=>rfl) ?_ ?_ ?_ ?_,Kh.bo KX G (λ_ _ _ _ _ _ us hl=>match us,hl with|[_,_],_=>rfl) ?_ ?_ ?_ ?_,Kh.bo KX G (λ_ _ _ _ _ _ us hl=>match us,hl with|[_],_=>rfl) ?_ ?_ ?_ ?_,Kh.sC KX G ?_ ?_ ?_ ?_ ?_,Kh.bB ?_,Kh.bB ?_,Kh.fu (λ_ _ _ _ _ _ us hl=>match us,hl with|[_,_,_],_=>rfl) ?_ ?_ ?_ ?_ ?_,⟨?_,?_,?_,?_⟩,Kh.sC KX G ?_ ?_ ?_ ?_ ?_,Kh.bB ?_,Kh.bB ?_,Kh.bB ?_,Kh.bB ?_,Kh.bB ?_,Kh.fu (λ_ _ _ _ _ _ us hl=>match us,hl with|[_,_,_,_],_=>rfl) ?_ ?_ ?_ ?_ ?_,⟨?_,?_,?_,?_⟩,Kh.fu (λ_ _ _ _ _ _ us hl=>match us,hl with|[_],_=>rfl) ?_ ?_ ?_ ?_ ?_,Kh.sC KX G ?_ ?_ ?_ ?_ ?_,Kh.bB ?_,Kh.bB ?_,Kh.fu (λ_ _ _ _ _ _ us hl=>match us,hl with|[_,_],_=>rfl) ?_ ?_ ?_ ?_ ?_,⟨?_,?_,?_,?_⟩,Kh.fu (λ_ _ _ _ _ _ us hl=>match us,hl with|[_],_=>rfl) ?_ ?_ ?_ ?_ ?_,Kh.fu (λ_ _ _ _ _ _ us hl=>match us,hl with|[_,_],_=>rfl) ?_ ?_ ?_ ?_ ?_,Kh.fu (λ_ _ _ _ _ _ us hl=>match us,hl with|[_,_],_=>rfl) ?_ ?_ ?_ ?_ ?_,Kh.fu (λ_ _ _ _ _ _ us hl=>match us,hl with|[_,_],_=>rfl) ?_ ?_ ?_ ?_ ?_,Kh.fu (λ_ _ _ _ _ _ us hl=>match us,hl with|[_,_],_=>rfl) ?_ ?_ ?_ ?_ ?_,Kh.fu (λ_ _ _ _ _ _ us hl=>match us,hl with|[_,_],_=>rfl) ?_ ?_ ?_ ?_ ?_,Kh.fu (λ_ _ _ _ _ _ us hl=>match us,hl with|[_],_=>rfl) ?_ ?_ ?_ ?_ ?_,Kh.sC KX G ?_ ?_ ?_ ?_ ?_,Kh.bB ?_,Kh.bB ?_,Kh.bB ?_,Kh.bB ?_,Kh.fu (λ_ _ _ _ _ _ us hl=>match us,hl with|[_],_=>rfl) ?_ ?_ ?_ ?_ ?_,⟨?_,?_,?_,?_⟩,Kh.fu (λ_ _ _ _ _ _ us hl=>match us,hl with|[_,_],_=>rfl) ?_ ?_ ?_ ?_ ?_,Kh.fu (λ_ _ _ _ _ _ us hl=>match us,hl with|[_,_],_=>rfl) ?_ ?_ ?_ ?_ ?_,Kh.sC KX G ?_ ?_ ?_ ?_ ?_,Kh.bB ?_,Kh.bB ?_,Kh.bB ?_,Kh.bB ?_,Kh.bB ?_,Kh.bB ?_,Kh.bB ?_,Kh.bB ?_,Kh.bB ?_,Kh.bB ?_,Kh.bB ?_,Kh.bB ?_,Kh.bB ?_,Kh.bB ?_,Kh.bB ?_,Kh.bB ?_,Kh.fu (λ_ _ _ _ _ _ us hl=>match us,hl with|[_,_],_=>rfl) ?_ ?_ ?_ ?_ ?_,⟨?_,?_,?_,?_⟩,Kh.sC KX G ?_ ?_ ?_ ?_ ?_,Kh.bB ?_,Kh.bB ?_,Kh.bB ?_,Kh.bB ?_,Kh.bB ?_,Kh.bB ?_,Kh.bB ?_,Kh.bB ?_,Kh.bB ?_,Kh.bB ?_,Kh.bB ?_,Kh.bB ?_,Kh.bB ?_,Kh.bB ?_,Kh.bB ?_,Kh.fu (λ_ _ _ _ _ _ us hl=>match us,hl with|[_,_],_=>rfl) ?_ ?_ ?_ ?_ ?_,⟨?_,?_,?_,?_⟩,Kh.fu (λ_ _ _ _ _ _ us hl=>match us,hl with|[_,_],_=>rfl) ?_ ?_ ?_ ?_ ?_,Kh.sC KX G ?_ ?_ ?_ ?_ ?_,Kh.bB ?_,Kh.fu (λ_ _ _ _ _ _ us hl=>match us,hl with|[_],_=>rfl) ?_ ?_ ?_ ?_ ?_,⟨?_,?_,?_,?_⟩,Kh.fu (λ_ _ _ _ _ _ us hl=>match us,hl with|[_],_=>rfl) ?_ ?_ ?_ ?_ ?_,Kh.fu (λ_ _ _ _ _ _ us hl=>match us,hl with|[_,_],_=>rfl) ?_ ?_ ?_ ?_ ?_,Kh.sC KX G ?_ ?_ ?_ ?_ ?_,Kh.bB ?_,Kh.bB ?_,Kh.fu (λ_ _ _ _ _ _ us hl=>match us,hl with|[_,_],_=>rfl) ?_ ?_ ?_ ?_ ?_,⟨?_,?_,?_,?_⟩,Kh.fu (λ_ _ _ _ _ _ us hl=>match us,hl with|[_],_=>rfl) ?_ ?_ ?_ ?_ ?_,Kh.fu (λ_ _ _ _ _ _ us hl=>match us,hl with|[_],_=>rfl) ?_ ?_ ?_ ?_ ?_,Kh.fu (λ_ _ _ _ _ _ us hl=>match us,hl with|[_],_=>rfl) ?_ ?_ ?_ ?_ ?_,Kh.sC KX G ?_ ?_ ?_ ?_ ?_,Kh.bB ?_,Kh.bB ?_,Kh.bB ?_,Kh.fu (λ_ _ _ _ _ _ us hl=>match us,hl with|[_,_],_=>rfl) ?_ ?_ ?_ ?_ ?_,⟨?_,?_,?_,?_⟩,Kh.u6 KX G ?_ ?_ ?_ ?_ ?_,Kh.Ah ?_ ?_ ?_ ?_ ?_,Kh.u6 KX G ?_ ?_ ?_ ?_ ?_,Kh.Ah ?_ ?_ ?_ ?_ ?_,Kh.u6 KX G ?_ ?_ ?_ ?_ ?_,Kh.Ah ?_ ?_ ?_ ?_ ?_,Kh.u6 KX G ?_ ?_ ?_ ?_ ?_,Kh.bB ?_,Kh.zK (λ_ _ _ _ _ _ us hl=>match us,hl with|[_,_],_=>rfl) ?_ ?_ ?_,Kh.AT ?_ ?_ ?_ ?_ ?_ ?_,Kh.u6 KX G ?_ ?_ ?_ ?_ ?_,Kh.bB ?_,Kh.bB ?_,Kh.zK (λ_ _ _ _ _ _ us hl=>match us,hl with|[_,_,_],_=>rfl) ?_ ?_ ?_,Kh.AT ?_ ?_ ?_ ?_ ?_ ?_,Kh.u6 KX G ?_ ?_ ?_ ?_ ?_,Kh.bB ?_,Kh.zK (λ_ _ _ _ _ _ us hl=>match us,hl with|[_,_],_=>rfl) ?_ ?_ ?_,Kh.AT ?_ ?_ ?_ ?_ ?_ ?_,Kh.u6 KX G ?_ ?_ ?_ ?_ ?_,Kh.bB ?_,Kh.bB ?_,Kh.zK (λ_ _ _ _ _ _ us hl=>match us,hl with|[_,_,_],_=>rfl) ?_ ?_ ?_,Kh.AT ?_ ?_ ?_ ?_ ?_ ?_,Kh.u6 KX G ?_ ?_ ?_ ?_ ?_,Kh.Ah ?_ ?_ ?_ ?_ ?_,mg_of KX G ?_,mg_of KX G ?_,mg_of KX G ?_,mg_of KX G ?_,mg_of KX G ?_,mg_of KX G ?_,mg_of KX G ?_,mg_of KX G ?_,mg_of KX G ?_,mg_of KX G ?_,Kh.Dh (its:=[.int _ _,.int _ _,.int _ _,.int _ _]) ?_ (.cons Kh.iy (.cons Kh.iy (.cons Kh.iy (.cons Kh.iy .nil)))) (by decide),mg_of KX G ?_,mg_of KX G ?_,mg_of KX G ?_,mg_of KX G ?_,mg_of KX G ?_,mg_of KX G ?_,mg_of KX G ?_,mg_of KX G ?_,mg_of KX G ?_,mg_of KX G ?_,Kh.Dh (its:=[.str _ _,.str _ _,.str _ _,.str _ _]) ?_ (.cons Kh.Dl (.cons Kh.Dl (.cons Kh.Dl (.cons Kh.Dl .nil)))) (by decide),Kh.ML ?_,mg_of KX G ?_,Kh.Dh (its:=[.int _ _,.int _ _,.int _ _,.int _ _,.int _ _,.int _ _,.int _ _,.int _ _]) ?_ (.cons Kh.iy (.cons Kh.iy (.cons Kh.iy (.cons Kh.iy (.cons Kh.iy (.cons Kh.iy (.cons Kh.iy (.cons Kh.iy .nil)))))))) (by decide),mg_of KX G ?_,Kh.Dh (its:=[.int _ _,.int _ _,.int _ _,.int _ _,.int _ _,.int _ _,.int _ _,.int _ _]) ?_ (.cons Kh.iy (.cons Kh.iy (.cons Kh.iy (.cons Kh.iy (.cons Kh.iy (.cons Kh.iy (.cons Kh.iy (.cons Kh.iy .nil)))))))) (by decide),mg_none_of KX G ?_,mg_none_of KX G ?_,mg_none_of KX G ?_,mg_none_of KX G ?_,mg_none_of KX G ?_,mg_none_of KX G ?_,mg_none_of KX G ?_,mg_none_of KX G ?_,mg_none_of KX G ?_,mg_none_of KX G ?_,mg_none_of KX G ?_,mg_none_of KX G ?_,mg_none_of KX G ?_⟩ ⟨Kh.wk ?_,Kh.wk ?_,Kh.wk ?_,Kh.wk ?_,Kh.wk ?_,Kh.wk ?_,Kh.wk ?_⟩ hmg
 all_goals try first|k_is|(dsimp only;k_is)
 all_goals try first|k_is|(dsimp only;k_is)
 all_goals rfl
