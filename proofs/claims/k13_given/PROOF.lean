import PyProof.Rows.All
import Wide.All
import OpenK.AllK
import Wide.FinOn
import Lean
import PyProof.EqAt
import PyProof.EqKinds
import PyProof.TupleCall
import KE.KIntText
import PyProof.Rows.SortShell
import PyProof.Rows.CallKwBuiltin
import KE.KSortKey
import KE.KDictSum
import KE.KDictOf
import PyProof.AttrMissHeap
import PyProof.EnumStmt
import PyProof.EnumMake
import KE.KRevIter
import PySem.Challenge.RW_manyhands_k13_given
set_option linter.all false
set_option genSizeOf false
set_option Elab.async false
set_option maxRecDepth 100000
set_option maxHeartbeats 4000000
def HR:=@PySem.wpAny_bind
def HS:=@Option.bind_eq_some_iff
def HU:=@PySem.wpAny_pure
def HX:=@PySem.Heap.get?_push_of_some
def HY:=@List.mem_cons
def HZ:=@List.mem_cons_of_mem
def IA:=@if_neg
def IB:=@Ne.symm
def IE:=@List.mem_append_right
def IF:=@List.size_toArray
def IG:=@Option.map_eq_some_iff
def IH:=@List.mem_cons_self
def II:=@List.map_cons
def IJ:=@List.mem_map_of_mem
def IK:=@List.mem_append
def IL:=@if_pos
def IM:=@List.getElem?_eq_getElem
def IN:=@decide_eq_false
def IP:=@List.length_map
def IQ:=@List.length_cons
def IR:=@List.mem_singleton
def IS:=@List.mem_map
def IT:=@List.length_append
def IU:=@List.getElem?_eq_some_iff
def IV:=@List.nodup_cons
def IW:=@Nat.le_refl
def IY:=@PySem.Heap.get?_push_size
def IZ:=@Bool.false_ne_true
def JA:=@List.append_nil
def JB:=@PySem.Heap.lt_size
def JC:=@decide_eq_true
def JD:=@Nat.lt_of_lt_of_le
def JE:=@List.mem_append_left
def JF:=@List.map_append
def JG:=@Bool.and_eq_true
def JH:=@Bool.false_eq_true
def JI:=@decide_eq_true_eq
def JJ:=@List.nodup_append
def JK:=@List.not_mem_nil
def JL:=@Nat.le_trans
def JM:=@List.getElem?_map
def JN:=@List.getElem?_set_ne
def JO:=@PySem.PassesOwn.never
def JP:=@Nat.ne_of_lt
def JQ:=@Array.getElem?_eq_getElem
def JR:=@PySem.wpAny_call_entry
def JS:=@List.nil_append
def JT:=@if_false
def JU:=@List.filter_eq_self
def JV:=@List.map_map
def JW:=@List.getElem?_append_right
def JX:=@PySem.wpAny_holding
def JY:=@Option.some.inj
def JZ:=@List.getElem?_eq_none
def KA:=@List.lookup_cons
def KB:=@PySem.wpAny_callSpecial?_slot
def KC:=@Nat.zero_le
def KD:=@List.mem_filter
def KF:=@PySem.wpAny_truthy_bool
def KG:=@if_true
def KH:=@Array.length_toList
def KI:=@List.append_assoc
def KJ:=@PySem.sizeLine_eq
def KL:=@PySem.wpAny_field
def KM:=@List.getElem?_set_self
def KN:=@PySem.Heap.get?_update_other
def KO:=@beq_eq_false_iff_ne
def KP:=@PyProof.Rows.callWith_type1
def KQ:=@List.getElem_mem
def KR:=@PyProof.Rows.wpS_bind
def KS:=@of_decide_eq_true
def KU:=@List.filter_cons_of_pos
def KW:=@List.filter_cons_of_neg
def KY:=@List.filter_congr
def KZ:=@List.pairwise_cons
def LA:=@List.length_zip
def LB:=@List.getElem?_append_left
def LC:=@or_false
def LD:=@List.map_congr_left
def LF:=@PySem.wpAny_mono
def LG:=@List.take_append_drop
def LH:=@PySem.F.slot_dict_keyiterator_next
def LI:=@PySem.wpAny_newObj_type
def LJ:=@List.length_take
def LK:=@List.getD_eq_getElem?_getD
def LL:=@PySem.wpAny_setField_rec
def LM:=@List.take_of_length_le
def LN:=@List.filter_eq_nil_iff
def LO:=@Prod.mk.injEq
def LP:=@Nat.lt_irrefl
def LQ:=@List.length_singleton
def LS:=@Int.emod_nonneg
def LU:=@Bool.eq_iff_iff
def LV:=@PySem.wpAny_rule
def LW:=@PySem.Heap.SameBut.update
def LX:=@List.filter_filter
def LY:=@Int.emod_lt_of_pos
def LZ:=@beq_self_eq_true
def MB:=@List.all_eq_true
def MC:=@List.mem_of_getElem?
def MD:=@List.mem_iff_getElem
def MF:=@Bool.not_true
def MH:=@Nat.lt_or_ge
def MJ:=@PySem.Calls.spliced_cons
def ML:=@PySem.mem_of_lookup
def MM:=@List.replicate_succ
def MN:=@List.length_set
def MO:=@List.length_nil
def MQ:=@List.find?_cons
def MU:=@PyProof.Rows.wpS_pure
def MV:=@PySem.wpAny_dictEntries
def MX:=@PySem.wpAny_dictEpoch
def MY:=@Nat.lt_of_le_of_lt
def MZ:=@List.getElem?_toArray
def NA:=@List.any_cons
def NB:=@List.drop_eq_getElem_cons
def NC:=@Int.le_refl
def ND:=@List.take_succ_eq_append_getElem
def NE:=@PySem.wpAny_Call_Name_kw
def NG:=@List.length_range
def NH:=@List.filter_map
def NI:=@Int.toNat_natCast
def NJ:=@PySem.wpAny_seqItems
def NK:=@decide_eq_false_iff_not
def NM:=@Bool.and_self
def NN:=@Option.bind_some
def NO:=@List.nodup_nil
def NP:=@List.mem_filterMap
def NQ:=@List.filter_append
def NR:=@PySem.Paired.length
def NS:=@PySem.wpAny_typeNameOfWhole_keyiter
def NT:=@Nat.le_of_lt
def NU:=@List.mem_iff_getElem?
def NV:=@List.map_nil
def NW:=@List.length_replicate
def NX:=@List.length_filter_le
def NY:=@List.forIn_cons
def NZ:=@Array.getElem?_toList
def OA:=@PySem.Heap.size_push
def OB:=@beq_iff_eq
def OC:=@List.flatten_cons
def OD:=@List.all_cons
def OE:=@PySem.Calls.callWith_builtin
def OF:=@PySem.F.slot_NoneType_hash
def OG:=@List.nodup_iff_pairwise_ne
def OH:=@PySem.wpAny_passesOwn
def OI:=@PySem.wpAny_notOrdered_dict
def OJ:=@List.mem_range
def OK:=@PySem.Heap.get?_update_self
def OL:=@List.cons_append
def OM:=@PySem.wpAny_attempt
def ON:=@PySem.Calls.spliced_nil
def OO:=@Nat.ne_of_gt
def OP:=@List.getElem?_take_of_lt
def OQ:=@PySem.F.slot_tuple_iterator_next
def OT:=@PySem.Calls.evalArgs_plain
def OU:=@PySem.F.plainAttrs_list
def OV:=@PySem.F.plainAttrs_dict
def OX:=@List.getElem?_replicate
def OY:=@PySem.wpAny_typeNameOf_keyiter
def OZ:=@PyProof.Rows.slot_tuple_getitem
def PB:=@List.Perm.refl
def PD:=@not_or
def PF:=@PySem.F.slot_dict_get
def PH:=@Bool.not_eq_eq_eq_not
def PJ:=@Option.map_some
def PK:=@List.filter_sublist
def PL:=@List.cons.injEq
def PM:=@PySem.F.slot_enumerate_next
def PN:=@PyProof.Rows.listUpdate_at
def PP:=@PySem.F.slot_enumerate_getattribute
def PQ:=@Array.getElem?_eq_some_iff
def PR:=@of_decide_eq_false
def PU:=@Nat.le_of_eq
def PV:=@List.zip_cons_cons
def PX:=@List.getElem_range
def PY:=@List.pairwise_iff_getElem
def PZ:=@List.forIn_nil
def QA:=@Bool.not_false
def QB:=@PySem.wpAny_specialOf
def QC:=@PySem.slot_dict_contains
def QD:=@PySem.F.args_tuple_add_2
def QE:=@Option.isSome_iff_exists
def QF:=@List.pairwise_map
def QG:=@List.ext_getElem?
def QH:=@decide_true
def QI:=@PySem.F.entry_tuple_add
def QJ:=@Nat.le_succ
def QK:=@List.map_id
def QL:=@List.length_eq_zero_iff
def QM:=@List.getElem?_cons_succ
def QN:=@List.filter_append_perm
def QO:=@PySem.SeqAt.EqAt.int_int
def QP:=@PySem.Obj.data_mapFields
def QQ:=@Nat.lt_succ_self
def QR:=@List.zipIdx_cons
def QS:=@List.drop_length
def QT:=@PySem.F.slot_tuple_add
def QU:=@PySem.wpAny_Call_method
def QV:=@decide_false
def QW:=@Nat.zero_add
def QX:=@Nat.min_eq_left
def QY:=@List.zipIdx_nil
def QZ:=@true_and
def RA:=@PyProof.Rows.get?_update_seq
def RB:=@PySem.wpAny_standAt
def RC:=@PySem.wpAny_letGo
def RD:=@PySem.wpAny_forIn_list
def RE:=@PySem.F.args_dict_keyiterator_next_1
def RF:=@Bool.and_false
def RG:=@PyProof.Rows.wpS_forRange
def RH:=@PyProof.Rows.listItems_at
def RI:=@PySem.F.entry_dict_keyiterator_next
def RJ:=@List.filterMap_cons
def RK:=@PySem.wpAny_typeOf
def RL:=@PySem.wpAny_loadPart'
def RM:=@PySem.wpAny_isTrue_Compare1
def RN:=@PySem.wpAny_isOneOf_keyiter
def RO:=@PySem.wpAny_execs_nil
def RP:=@PySem.codeAny_mono
def RQ:=@List.length_zipIdx
def RS:=@PySem.F.slot_zip_next
def RT:=@PySem.call_meets
def RU:=@PySem.wpAny_updateSeq_pair
def RW:=@PySem.wpAny_updateDictKeys
def RX:=@bne_self_eq_false
def RY:=@PySem.wpAny_setField
def RZ:=@PySem.wpAny_newTuple
def SA:=@PySem.wpAny_fieldsOf
def SC:=@Nat.min_eq_right
def SD:=@List.length_drop
def SE:=@List.filter_cons
def SF:=@PySem.F.slot_dict_setdefault
def SG:=@PySem.wpAny_onRaise
def SH:=@PySem.wpAny_newList
def SI:=@PySem.W.kia_one
def SJ:=@List.of_mem_zip
set_option hygiene false
section open Lean
def z'E:Nat->Syntax->String
|0,_=>""
|n+1,s=>match s with
 |.node _ k a=>a.foldl (λr x=>r++z'E n x) s!"n{a.size} {(toString k).replace "Lean.Parser." "~"}\n"
 |.atom _ v=>s!"a{v}\n"
 |.ident _ _ v _=>s!"i{v}\n"
 |_=>"m\n"
def z'D(f:SourceInfo):Nat->List String->Syntax×List String
|n+1,x::l=>let r:=(x.drop 1).toString;match x.front with
 |'n'=>let c:=(r.takeWhile Char.isDigit).toString;let (a,l):=c.toNat!.fold (λ_ _ (a,l)=>let (y,l):=z'D f n l;(a.push y,l)) (#[],l);(.node f ((r.drop (c.length+1)).toString.replace "~" "Lean.Parser.").toName a,l)
 |'a'=>(.atom f r,l)
 |'i'=>(.ident f r.toRawSubstring r.toName [],l)
 |_=>(.missing,l)
|_,l=>(.missing,l)
def z'K:List (String×String):=[("P","n3 ~Term.paren\nn2 ~Term.hygienicLParen\na(\nn1 hygieneInfo\ni[anonymous]"),("D","n1 ~Tactic.tacticSeq\nn1 ~Tactic.tacticSeq1Indented"),("E","n2 ~Term.dotIdent\na."),("A","n2 ~Term.app"),("B","n1 null"),("C","n0 null"),("F","n2 null"),("G","n3 null"),("H","n1 ~Tactic.rcasesPatMed"),("I","n1 ~Tactic.rcasesPat.one"),("J","n2 ~Tactic.rcasesPatLo"),("K","n1 ~Tactic.optConfig"),("L","n4 ~Term.basicFun"),("M","n1 ~Term.hole\na_"),("N","n2 ~Term.byTactic\naby")]
def z'Z(r:SourceInfo)(f:String):Syntax:=(z'D r 999 (((f.takeWhile (·≠'\r')).toString.splitOn "\n").flatMap λs=>match z'K.lookup s with|some x=>x.splitOn "\n"|_=>[s])).1
local macro_rules|`(z [$x,*])=>do let a:=x.getElems;let mut r:="";for i in [0:a.size/2] do {r:=s!"{r}\r{match a[2*i]!.raw.isStrLit? with|some s=>s|_=>a[2*i]!.raw.getId.toString}\r{z'E 999 a[2*i+1]!}"};return (Syntax.mkStrLit (z'K.foldl (λr p=>r.replace (p.2++"\n") (p.1++"\n")) r)).raw
def z't't:String:=z ["pc!",(by simp[Cg,Bl,sSeq,Gg,Co,Ct,Cu,Ev,Dt,Db,Mg,Cy,fT,Dy,Aa,Fq,f2,Jx,Jm,Kl,Oc,Lr,Cf,Dr,f1,Ac,Ag,Fy,fC,Gj,Cb,An,Do,Eh,Bv,Cj,Bk,Ah,Dd,Eg,Ba,Dw,Ea,Bm,As,Ar,Bx,Ap,Cm,Mi,Cr,HT.sIx,List.getElem?_cons_zero,QM]),"!6",(by split at e),"!D",(by constructor),"!$",(by refine' DL.aT KX G ?a ?l ?c ?k ?b;(case a=>k_is);(case l=>k_is);(case c=>k_is);(case k=>k_is);(case b=>exact λ_ _ _ _ _ _=>DL.kG λ_ _=>rfl)),"!#",(by refine' DL.aT KX G ?a ?l ?c ?k ?b;(case a=>k_is);(case l=>k_is);(case c=>k_is);(case k=>k_is);(case b=>exact λ_ _ _ _ _ _=>DL.oH λ_=>rfl)),"#7",(by dsimp only),"#H",(by exact this),"!*",(by refine' DL.dD KX G ?a;(case a=>k_is)),"!1",(by obtain⟨ka,bm⟩:=cO ha),"!/",(by intro x y dx dy d G H Q sub rx ry e k),"!.",(by dsimp only;(show W.findIn _ _ _=_);k_is),"#:",(by unfold Dd Eg),"!%",(by dsimp only;refine' DL.dJ ?a ?i ?l ?c ?k ?b;(case a=>k_is);(case i=>k_is);(case l=>k_is);(case c=>k_is);(case k=>k_is);(case b=>exact λ_ _ _ _ _ _=>DL.kG λ_ _=>rfl)),"!c",(by intro z;cases z),"!d",(by by_cases hk:k=d),"!,",(by dsimp only;refine' DL.fB KX G ?a;(case a=>k_is)),"!5",(by rename_i h;cases e;subst h),"!=",(by unfold fT;rw[this];rfl),"!A",(by obtain⟨t,rfl⟩:=rx),"!G",(by rename_i hl;cases e),"!0",(by intro X hP hw hK L i B s Z H E I hf st hg;subst hP hw hK),"!7",(by obtain⟨v,rfl,rv⟩:=eE r),"!O",(by simp only[IK,HY,LO]),"!P",(by intro B s Z H Q I h),"!2",(by obtain⟨f0,f1,f2,f3,f4,f5⟩:=hf it d!),"!;",(by obtain⟨x,e1,e⟩:=HS.mp e),"#$",(by simp only[JH,JT]),"#&",(by by_cases z:o.h=h),"#8",(by by_cases hb:b=a),"!(",(by refine' DL.aT KX G ?a ?l ?c ?k ?b;(case a=>k_is);(case l=>k_is);(case c=>k_is);(case k=>k_is);(case b=>exact λ_ _ _ _ _ _=>DL.us3 λ_ _ _=>rfl)),"!:",(by obtain⟨q0,h0,rfl⟩:=IS.mp hq),"!?",(by obtain⟨q,hq,rfl⟩:=IS.mp hd),"!@",(by intro vs ds d G H Q sub r e k),"#-",(by exact O.live b hb),"!+",(by refine' DL.qR KX G ?a;(case a=>k_is)),"!p",(by exact k _ G H aY_ Av.bl),"#;",(by rw[f1_];exact NC _),"#@",(by funext b;unfold Az),"!'",(by dsimp only;refine' DL.dJ ?a ?i ?l ?c ?k ?b;(case a=>k_is);(case i=>k_is);(case l=>k_is);(case c=>k_is);(case k=>k_is);(case b=>exact λ_ _ _ _ _ _=>DL.us4 λ_ _ _ _=>rfl)),"!3",(by obtain⟨a1,a2,a3,a4,a5,a6,k1,k2,k3,k4,k5,k6,O⟩:=h';refine j_),"!C",(by obtain⟨o',e1⟩:=I.base.there b o e Y),"!H",(by obtain⟨ds,e1,e⟩:=HS.mp e;show"!6"),"!N",(by obtain⟨its,r,pl,hz⟩:=I.list hq),"!R",(by obtain⟨a,vs,rfl,qa,ra⟩:=bQ rx),"!S",(by intro vs ds d M G H Q sub m r e k),"!X",(by obtain⟨p,vs,rfl,q,rr⟩:=bQ r),"!Y",(by cases aY rx;cases aY ry;cases e),"!m",(by subst e;exact I1.fpOk x_ (I1.hok.fresh x_)),"!r",(by rename_i h;rw[JG,JG,JI]at h),"!w",(by subst hb;rw[bW]at e;cases e),"!|",(by obtain⟨wt,wn,qa,O⟩:=h),"##",(by subst q1;rw[dL];show"!D"),"#,",(by obtain⟨ep,ht⟩:=O.tk),"#5",(by obtain⟨a,rfl,q⟩:=Y),"#C",(by rintro(z|⟨z,_⟩|z)),"#D",(by rintro(z|⟨_,z⟩|z)),"!&",(by dsimp only;refine' DL.dJ ?a ?i ?l ?c ?k ?b;(case a=>k_is);(case i=>k_is);(case l=>k_is);(case c=>k_is);(case k=>k_is);(case b=>exact λ_ _ _ _ _ _=>DL.us3 λ_ _ _=>rfl)),"!)",(by refine' DL.aT KX G ?a ?l ?c ?k ?b;(case a=>k_is);(case l=>k_is);(case c=>k_is);(case k=>k_is);(case b=>exact λ_ _ _ _ _ _=>DL.us4 λ_ _ _ _=>rfl)),"!-",(by dsimp only;refine'⟨?pg,?hd,?po,?sa⟩;(case pg=>k_is);(case hd=>k_is);(case po=>k_is);(case sa=>k_is)),"!4",(by obtain⟨v1,t1,rfl,r1,rr⟩:=bR rr;obtain⟨v2,t2,rfl,r2,rr⟩:=bR rr;cases cX rr),"!L",(by unfold Am at h;obtain⟨u,r,e1,q,t⟩:=h;subst e1),"!T",(by unfold Av at h ⊢;obtain⟨a,vs,e,q,r⟩:=h),"!V",(by obtain⟨⟨o,z1,z2,z3⟩,z4⟩:=z;exact k0_),"!W",(by obtain⟨sl,e1⟩:=I.base.slot b o e n hb Y),"![",(by obtain⟨a',b',c',e',hm⟩:=w.sgs x Y q hq),"!_",(by show"!7";obtain⟨a,ws,rfl,q,rr⟩:=bP rv),"!`",(by intro x y dx dy d M G H Q sub m rx ry e k),"!e",(by refine iC h cn ?_;by_cases c1:i∈W.its),"!i",(by cases zN I n r ru<;>cases zN I n' r' au),"!q",(by obtain⟨_,vs,h1,h2⟩:=m.cell a _ hM),"!s",(by simp only[ne_eq,decide_not,PH,MF,NK]),"!x",(by obtain⟨its,r,pl,hz⟩:=I.tuple hq),"!y",(by obtain⟨e,n,ne,nf,d⟩:=I.pin p hp),"!}",(by rw[IA c];exact keep rfl rfl w.inv),"!~",(by obtain⟨o,e,c,d⟩:=st;exact ⟨o,e,λv z=>by rw[d]at z;cases z⟩),"#!",(by obtain⟨a,vs,rfl,qa,ra⟩:=bP rx),"#(",(by subst hb;rw[mup_same]at e;cases e),"#*",(by obtain⟨h1,h2,_⟩:=kO wi q hq),"#0",(by obtain⟨ds,e1,e'⟩:=HS.mp e'),"#4",(by simp only[JH,JT,KA,Y]at h ⊢),"#6",(by exact hR M rl _ _ st hL .refl),"#=",(by obtain⟨od,ab,hl⟩:=I.look),"#>",(by have c':=PR c;rw[IA c']at st),"#?",(by have c':=KS c;rw[IL c']at st),"#F",(by obtain⟨hp,g,d,tk,os⟩:=s),"!!",(by dsimp only;refine' DL.c0j (DL.fB KX G ?g) ?a ?i ?l ?c ?k ?mm ?kc ?b;(case g=>k_is);(case a=>k_is);(case i=>k_is);(case l=>k_is);(case c=>k_is);(case k=>k_is);(case mm=>k_is);(case kc=>k_is);(case b=>exact λ_ _ _ _ _ _=>DL.oH λ_=>rfl)),"!8",(by obtain⟨ob,eo,ec,ed⟩:=id g1;obtain⟨ot,y6,_,nt,y7⟩:=g2;unfold Builtin.SmallTypes.nextOf;refine HR (KB (name:=fB!) g1.typeIs OQ (JR OQ g1.typeIs F.entry_tuple_iterator_next ?_ (F.args_tuple_iterator_next_1 _)));show wpAny _ _ (field (.ref jt) 0>>=_) _ _ s),"!9",(by refine dH b5_ λv s1 ⟨x,H1,I1,r1,q1⟩=>?_;refine dH gh! λu s2 ⟨y,H2,I2,r2,q2⟩=>?_;exact hf v u s2 x y H2 I2 r1 r2 q2),"!<",(by intro B s Z H Q I h;refine W.methodCall_KW (pl:=pl) (dH c5_ λu s1 ⟨x,H1,I1,rx,a,dx,fs,ex,ea,l,q⟩=>?_) ht;subst ex;obtain rfl:u=Value.ref a:=rx;refine pC I1 ea c hm l ?_),"!>",(by obtain⟨v,rfl,r1⟩:=eE r;obtain⟨rfl,rfl,hM⟩:=cP r1 e1;obtain⟨es,h1,h2⟩:=((m.cell q.1 _ hM)).2;obtain⟨ys,g1,g2⟩:=a0k h2),"!B",(by obtain⟨us,rv,p1,_⟩:=I.list qa;obtain⟨us',ak,p2,_⟩:=I.list qb;have h1:=aI rd;have h2:=aI re;have h3:=eX_),"!E",(by unfold Builtin.SmallTypes.ownedTupleIsFree;refine HR (KL gz rfl (x:=.none) rfl ab_);simp only[KG];refine HR fB_;refine HR (KL gz rfl (x:=.ref TO) rfl ?_)),"!F",(by rintro⟨⟨⟩,hx⟩ s' ⟨rfl,a1,a2,a3⟩;dsimp only;obtain⟨L',b1,b2,b3⟩:=tI jz hk f8 a1 a3),"!I",(by obtain⟨i,hi,q⟩:=nO hb;obtain⟨p,ds,vs,h1,h2,h3,h4,h5⟩:=er.own_ i hi;rw[q]at h2;cases h2),"!J",(by intro B s Z H x y v u Q I rx ry h;obtain⟨i,j,rfl,rfl,q⟩:=h;show"!A";obtain⟨t',rfl⟩:=ry),"!K",(by show"!1";obtain⟨kb,lf⟩:=cO hb;obtain⟨kc,SM⟩:=vQ bq;refine jE (bA.trans (congrArg some jG)) ?_;refine ifT (bA.trans (congrArg some a4a)) ?_),"!M",(by have l1:=congrArg List.length e;have l2:=congrArg List.length e';simp[Ke]at l1 l2;omega),"!Q",(by obtain⟨cl,b7⟩:=b4f (X:=X) (scope:=scope) λp hp hf=>I.ok.has p.1 (ij p hp hf)),"!U",(by simp only[(show Builtin.Dict_items.ownsTuple "dict_keyiterator"=false by decide),JH,JT];show wpAny L_ A.in1 (if(Value.ref d==dI!)=true then _ else _) _ _ s;rw[(IA (λz:(Value.ref d==Value.none)=true=>IZ z))];refine HR (HU (HR (MV t3 t6 ?_)));rw[ak_]),"!Z",(by refine HR (KL eo ed (x:=.ref tt) rfl ?_);rw[(IA (show¬((Value.ref tt==Value.none)=true)from IZ))];refine HR (KL eo ed (x:=.int n 0) rfl ?_);refine HR (NJ y6 y7 ?_);simp only[NI,g3]),"!]",(by have hT:=al.typeIs;obtain⟨o,ho,L,hd⟩:=id al;obtain⟨od,t3,_,t6⟩:=id D),"!^",(by have I1:Inv X B Z H {s with heap:=h',toks:=tk}:=I.turned mC_ f0 f1 f3 f4 f5),"!a",(by obtain⟨o,es,ep,ho,r⟩:=hm;refine ⟨o,es,ep,kp _ o ?_ ho,r⟩;simp only[HY,JK,LC,PD];exact ⟨IB fz.2.1,IB fO.2.1,IB f1.2.1,IB f2.2.1⟩),"!b",(by obtain⟨gn,H3,I3,n3⟩:=q3;obtain⟨m',hm,w3⟩:=hN gn H3 n3;exact ⟨m',hm,gn,H3,I3,w3⟩),"!f",(by obtain⟨i,hi⟩:=NU.mp hv;obtain⟨d,_,p⟩:=gM z hi;exact⟨_,_,p⟩),"!g",(by have:X.env.scope.names.lookup x=some .free:=hk;rw[k]at this;cases this),"!h",(by have hf:=a7z x k;have hl:∀i∈plc es dx!,i<es.size:=λi hi=>b8x hi),"!j",(by obtain⟨v,rfl,r1⟩:=eE r;obtain⟨p,ys,rfl,q,rr⟩:=a2a sub m r1 e1),"!k",(by obtain⟨hi,r1⟩:=r1;obtain⟨p,dx,vs,rfl,rfl,hH,hl⟩:=a7n m1 q1 hi),"!l",(by obtain⟨e1,e2⟩:=h1 b hb J;obtain⟨e3,e4⟩:=h2 b od! e2;exact ⟨e3.trans e1,e4⟩),"!n",(by simp only[sliceBounds,HT.sIx,Option.getD_none,(show(1:Int)>0 by decide),KG];by_cases h:i<0),"!o",(by show"!;";obtain⟨q,e2,e⟩:=HS.mp e;obtain⟨ks',e3,rfl⟩:=IG.mp e),"!t",(by obtain⟨_,_,_,_,o,_,_,e,ex,_⟩:=I.hok p _ hk;exact⟨o,e,ex⟩),"!u",(by intro x Y;obtain⟨r,f,p',g1,g2,g3,g4,g5⟩:=O.row x Y;exact ol!),"!v",(by show (wpAny _ _ (field hD! 2>>=_) _ _ _);refine HR (KL gz rfl (x:=.bool false) rfl ?_);refine HR (KL gz rfl (x:=.ref TI) rfl ?_);refine HR (NJ gI rfl ?_);refine HR ?_),"!z",(by obtain⟨e,he,hv⟩:=hi.2 i acc[i] (by rw[JQ h1]);rw[he,NZ,JQ h1,hv];rfl),"!{",(by show"!1";refine jE (bA.trans (congrArg some jH)) ?_;refine jE (bA.trans (congrArg some iQ)) ?_;refine ifT (bA.trans (congrArg some a4b)) ?_),"#%",(by show pN_=_;rw[IA h0,IA h1,IA h2,IA x3,IA x4,IA x5,IA x6]),"#'",(by have rs:∀j∈rest,j<es.size:=λj hj=>h2 j (HZ _ hj)),"#)",(by obtain⟨oc,od,kV,bo,pm,an,af,ct,dw,rfl,lk,bx⟩:=F.ex),"#+",(by subst hj;rw[hi]at e1;cases e1;rw[KM UJ]at e2;cases e2),"#.",(by rw[IF,IF,<-h3,<-h4,<-h1,<-h2];by_cases hl:f_=ag!),"#/",(by obtain⟨its,rv,⟨o,h1,h2,n,h3⟩,_⟩:=I.tuple hq!),"#1",(by unfold pyNext;refine HR (OM (KB (name:=fB!) hT LH (JR LH hT RI ?_ (RE _))));refine HR (HU (HR gF_))),"#2",(by obtain⟨h1,h2⟩:=O.mq i hi;rw[aw _ p9!];exact p1!),"#3",(by have ne:∀{b u},H b=some u->b≠p:=λe=>cL e hp),"#9",(by show"!7";obtain⟨a,ws,rfl,q,rr⟩:=bQ rv;cases e),"#<",(by rename_i kvs ep hM;obtain⟨kk,e1,e2⟩:=HS.mp e),"#A",(by simp only[Op.nm,D.tup.injEq,PL,D.int.injEq]at e),"#B",(by rw[qM lA_,qM lB!];exact b2n (mm p hp) (mm q a7)),"#E",(by have hi:i=fz_:=Nat.le_antisymm st.1 hg;subst hi),"#G",(by obtain⟨ad,kvs,vs,j5,VI,yx,yz,hn,hs⟩:=hd.ex),"#I",(by cases eH ry;cases e;refine j_;rw[zO rx];show"!p"),"#J",(by cases e;refine ⟨G,ρ,_,er,?_,k⟩;show((Option.some ds)).bind _=_;simp[hl])]
def z'0:String:=z [a!,(by omega),b!,Or.inl rfl,c!,(·.1),d!,(by simp),e!,Ae->Option D,g!,⟨rfl,rfl,rfl,gh_,rfl,gh_,gh_⟩,h!,wl q!,i!,xs.length,j!,List Value,k!,List Nat,l!,(by decide+kernel),n!,aP _,o!,Fl->Mh->Prop,p!,Value->Shared->Prop,q!,Aa 0,r!,D->Mh->Prop,u!,aB ab!,v!,(by omega),w!,List Int,x!,fC a5!,y!,Aa 2,z!,s1.heap.objs.size,A!,Str->Option Value,B!,arrOf st,C!,(·.2),D!,Bd 0,E!,aA 0,F!,(x==("__debug__":Str))=false,G!,fC H_,H!,⟨_,rfl⟩,I!,Aa 5,J!,some (scr ns),K!,some x0,L!,.lst xs,M!,some i,N!,s2.heap.objs.size,O!,Array Value,P!,.ref a,Q!,Cs 3,R!,some x1,S!,Gl X x,T!,k+1,U!,(by decide),V!,.str k,W!,[V_,a3!],X!,i+1,Y!,.fn o,Z!,l.length,Aa!,[D_,M!,cM!,dt_,none,none,none],Ab!,!decide (q.1=i),Ac!,.write m3 x3.sub hM,Ad!,(rs.take a++bU!::rs.drop a),Ae!,λd M' v G' H' r x m q=>?_,Af!,Vj X own own body q1,Ag!,⟨wt,wn,qa,g1⟩,Ah!,(Ah eE_ H_).bind zY!=_,Ai!,Zl X.prog X.w X.K [] ft,Aj!,∀cl C am a8 fp,ME ch_ [] dz fe,Ak!,⟨j7.or.cap NL.length ix m9,m1,aq!⟩,Al!,Cv (knd "put"),Am!,⟨G,ρ,M,_,st,e',Al_⟩,An!,Cv (knd "drop"),Ao!,Au (Gx (Cv (knd "write")) Ug) Tb (Au (Gx (Cv (knd "cut")) Ug) Xx Bo),Ap!,b=true->q1 ρ M R,Aq!,Wr X.prog X.w X.K X.mg X.base k x C ps g,Ar!,(d==sysModules)=false,As!,s.heap.IsKeyIter it d i es.length ep,Aw!,h2 _ _ _ _ _ _,Ax!,HU (HR (RN hT ?_)),Ay!,Obj.mapFields (·.setIfInBounds 1 qj!),Az!,(λd=>match d with|.int k=>D.tup Ax_|_=>.non)∘λi=>D.int bt!,AA!,wi.sg a ha q hq,AB!,some (.tup [kx_,a0,b,tx]),AC!,decide ((l[k]).1=b),AD!,(λi v=>∃c u,x.cps[i]?=some c/\v=.str ap_ u),AE!,Ac g (Ac k Ag),AF!,[D_,K!,fZ!,bp!,y4,h5!,some H_,none,none,none],AG!,(.tup yy_,.str ⟨#[s.cps.toList.getD k.toNat 0]⟩,true),AH!,starEach [a] X.env=dW!::starEach [] X.env,AI!,[aN_,aM_,.int aQ!],AJ!,Nat.succ_ne_self _,AK!,.lst ((eG_).drop at_),AL!,.lst ((wrT b nw as_).map Bg),AM!,D.tup U_∉W.its,AN!,IntsAre jy.toList ms,AO!,.dct (cU_++[(.tup U_,.lst [])]) (Gb cU_ af! e1),AP!,.bl (if neg then !(b==c)else b==c),AQ!,W.its++[D.tup U_],AR!,.Call (.Attribute bp_ "insert" aj) [ek,e] [] ag,AS!,⟨by show _<=_;simp only;omega,same.its,same.txt⟩,AT!,0<=k/\k<=1000/\f_*k.toNat<=1000,AU!,.BinOp (.List es p2) .Mult b pos,AV!,b3a b9p (rX ha.ok) hb.ok,AW!,⟨G1,ρ,M1,_,(fT!).grow (.ext xj) qr!,r1.2,λy M2 v G2 H2 r2 x2 m2 q2=>?_⟩,AX!,x1.trans (.ext xj) m1,AY!,iI ns (k:=k),AZ!,getElem?_pos _ k cr,A0!,∀K:Bool->Mh->Prop,K b M->ft ρ M K,A1!,∀x,(kget wd x=none/\kget kb x=none)\/∃k:Str,kget wd x=some V!/\kget kb x=some fK!,A2!,(show x - 1<a0.size by omega),A3!,(by simpa using c'),A4!,Az qu_ wt C_,A5!,.dct (k3 cS_ fU! eE!) 3,A6!,λi j h5 h6=>?_,A7!,⟨rfl,lo,lo,rfl,g2,g4,g5⟩,A8!,.str "numbers",A9!,pendingOf hx,Ba!,s.cps.toList.map λ_=>.bl true,Bb!,zV (HU (HU (HU h))),Bc!,λv hv R hR=>?_,Bd!,jI [(t.B2,a)] (one ⟨_,i9,sU h1⟩) d!,Be!,(λo ho=>by cases ho),Bf!,((hs os 5).length:Nat),Bg!,⟨_,gz,rfl⟩,Bh!,l.filter λx=>Kw x q,Bi!,(by show¬((0:Int)=15);decide),Bj!,(by show¬((5:Int)=0);decide),Bk!,(by show¬((5:Int)=15);decide),Bl!,(by show¬((15:Int)=0);decide),Bm!,fx ρ=some dq!,Bn!,cs.set k (.int (c+1)),Bo!,ts.set k Bn_,Bp!,gG rfl (gG rfl rfl c0g) rfl,Bq!,∀H':Hp,H' c=none->Ga X B H' c,Br!,ksk_tail a false e1 (.ref c) st,Bs!,Obj.mapSeq λ_=>(#[]:Array Value),Bt!,List.map_fst_zip qK!,Bu!,λv hv=>?_,Bv!,os.filter λo=>decide ia_&&!p o.h,Bw!,hp.mem_iff.mp ho,Bx!,λx y F Q Y hy hq=>?_,By!,(by rw[hsz];omega),Bz!,⟨a1,a2,a3⟩,BA!,Jl if_ (Lu s.heap p.1.1)<Jl if_ (Lu s.heap q.1.1),BB!,s.heap.get? a=some (seqObj "list" us.toArray n),BC!,RH ha rfl ?_,BD!,PN ha rfl ?_ lx! bZ_,BE!,KN _ _ (λz=>hb (by rw[z];exact IR.mpr rfl)),BF!,Str.ofString "ours",BG!,Str.ofString "waiting",BH!,checkCount "sorted" 1 1 _,BI!,⟨_,lh,rfl⟩,BJ!,(s1.heap.push ct_).update s1.heap.objs.size (Obj.mapSeq (·++be!)),BK!,(BJ!).push BJ_]
def z'00:String:=z [a_,J.mono b_,b_,(by decide),c_,List D,d_,Inv X B Z H s,e_,model X.prog X.w,f_,ds.length,g_,Txt P w K mg t,h_,List Op,i_,List aC!,j_,⟨rfl,?_⟩,k_,s.heap.objs.size,l_,IL rfl,m_,List V,n_,aB E!,o_,List eO!,p_,["thing"],q_,model prog w,r_,List Str,s_,wl u_,t_,λ_ _=>rfl,u_,Aa 1,v_,some cI_,w_,Al.units J,x_,IW _,y_,arrOf hx,z_,wl y!,A_,.fn p,B_,.bl true,C_,.dct [] 0,D_,some bs_,E_,aB az!,F_,some Y!,G_,(by simp),H_,.int 0,I_,Bj G H,J_,some o.v,K_,[an_,ao!],L_,model P w,M_,Aa 3,N_,(by rw[O.ro];simp),O_,List α,P_,Aa 4,Q_,bH w_,R_,cG 0,S_,.bl false,T_,ps.length,U_,[aN_,aM_],V_,"hand",W_,fC bz!,X_,oF a1 a2 a3 a4 a5 a6,Y_,DE X own a fa,Z_,(a,b),Aa_,.Subscript o i p2,Ab_,[D_,M!,cM!,dt_,h0_,ov!,none],Ac_,.inl ⟨rfl,λj hj=>by omega⟩,Ad_,.lst ((eF!).drop a),Ae_,.lst ((eF!).take a++[Bi bU!]),Af_,some (.inl (.inr "rows")),Ag_,λq=>decide h2!,Ah_,⟨mz,cg.mr,aq!⟩,Ai_,∀cl C am a8 fp,Py ch_ db Ai!,Aj_,Bf NL.length ix fi bnd ft fe,Ak_,Dq X.prog X.w X.K X.mg X.base k C m ps g,Al_,λd M1 v G1 H1 r1 x1 m1 q1=>?_,Am_,Cv (knd "move"),An_,Gx (Cv (knd "set")) Ug,Ao_,Aa 2 ρ=some pp_,Ap_,b=false->q2 ρ M R,Aq_,∀K:D->Mh->Prop,fo ρ M K=K x M,Ar_,l.any λd=>Ed d x,At_,(as_).length<5000,Av_,HU (HR (MX t3 t6 ?_)),Aw_,(show¬((i:Int)<0)from by omega),Ax_,[fs_,ft!,.int (z+k)],Ay_,∀h',Heap.ExtBut it s.heap h'->Q none {s with heap:=h'},Az_,(s,c,b&&!decide (s∈cu)),AA_,l[j]?.map c!,AB_,[D_,K!,AB!,fY!,y4,some lk_,h1!,y,none,none],AC_,s0.heap.objs.size,AD_,(∃ac,IsEnum h e it i ac),AE_,D X.A.in1 hh,AF_,[.int qm_,.str ⟨#[q.1]⟩],AG_,Gl X "enumerate",AH_,X.mg "enumerate"=none,AI_,(nl!).any c!=false,AJ_,I1.hok.fresh qn!,AK_,.lst ((eG_).take at_++nw.map Bg),AL_,λi h ⟨o,ho,_,hd⟩=>⟨o,ho,λv z=>by rw[hd]at z;cases z⟩,AM_,IntsAre items.toList ns,AN_,decide (a=root),AO_,.dct (h8!++[(.tup U_,.fn q)]) (Gb h8! af! e2),AP_,Value.bool b==Value.bool c,AQ_,IA (λz:i=.tup [.int h,.int n]=>hn (z▸hi)),AR_,.Call (.Attribute bp_ "extend" aj) [e] [] ag,AS_,⟨same.rows,same.its,jW_⟩,AT_,.lst (List.replicate k.toNat ds).flatten,AU_,Tc w x0 d nm,AV_,upd H1 p cJ_,AW_,⟨p,n,vs,rfl,rfl,zi,v!,v!,by rw[<-aI q1];exact eZ hl,kI_⟩,AX_,mirror xs i j ((j - i) / 2),AY_,[D_,J_,none,none,none,none,none,none,none,none],AZ_,[D_,J_,some o.d,none,none,none,none,none,none,none],A0_,λi j h3 h4=>?_,A1_,Hi x.d=none/\¬kget wd x.nm=some ca!,A2_,(λi h4 h5=>by rw[show i=x+1 - 1 by omega]),A3_,(by rw[zz_];exact g4),A4_,Az A4! wn C_,A5_,h m st b h3 h4 u,A6_,(∀i,i<lo->rk r y_ i<=rk r y_ k),A7_,IV.mpr ⟨JK,NO⟩,A8_,(aG!).length<5000,A9_,(none,a0.size),Ba_,λ_ _ z=>z,Bb_,(∀x∈xs,∀(R:β->Shared->Prop),(∀y,F x y->R y s)->wpAny q_ A (f x) R E s),Bc_,ys.toArray.filterMap id,Bd_,(Value.type "int"::r),Be_,((hs os 0).length:Nat),Bf_,((hs os 15).length:Nat),Bg_,l.filter λx=>Kw x p,Bh_,(by show¬((0:Int)=5);decide),Bi_,λp=>Jl qC! (Lu h p.1),Bj_,h1.mem_iff.mp (KQ cr),Bk_,⟨[a],[(Str.ofString "key",v)]⟩,Bl_,(by show¬((15:Int)=5);decide),Bm_,Fm X.prog X.w X.K X.mg X.base Pz k f fd ps wA_,Bn_,.int (t+1+m / 3%3),Bo_,(c,seqObj "list" ku.toArray n),Bp_,(c,seqObj "list" ku.toArray e),Bq_,Inv X (B++[ly!,Bp_]) Z H s,Br_,[J!,as!,id!,eK!,some (.lst [.int c0,.int c1,.int c2]),some (.lst [.int t0,.int t1,.int t2]),x6,x7,x8,x9],Bs_,[J!,as!,id!,none,none,none,none,none,none,none],Bt_,Array.toList_inj.mp,Bu_,λa b e=>?_,Bv_,os.filter λo=>decide ia_&&p o.h,Bw_,Lu s.heap p.1,Bx_,⟨Array.Perm.refl _,rfl,rfl,rfl⟩,By_,(by rw[hsz];exact nz),Bz_,g M x y=some d,BA_,(by rw[b3,hd]),BB_,⟨_,RA ha λ_=>#[]⟩,BC_,seqEpoch_at ud rfl ?_,BD_,RZ ?_ (by show au_<=_;rw[KJ];omega),BE_,HX _ ((BE!).trans q),BF_,Str.ofString "taken",BG_,(Str.ofString "taken",.fn ta),BH_,(by rw[KJ];omega),BI_,(by rw[he];rfl),BJ_,seqObj "list" its.toArray 0]
def z'a:String:=z [aa!,Bt M w rl W,ab!,aA 1,ac!,ys.length,ad!,List D->Option D,ae!,k_+1,af!,.tup U_,ag!,es.length,ah!,λ_=>True,ai!,.ref f,aj!,f2 Ah q! G!,ak!,aB aC,al!,f ρ,am!,(by rw[u3];simp),an!,X.N[i]?=some x,ao!,"name",ap!,aM aH aK E! aC t_,aq!,λi hi=>(by cases hi),ar!,A.units<cLine,as!,some kH_,at!,os.map Op.v,au!,rs.length,av!,List Addr,aw!,[V_,b6_],ax!,Ab s_ Af,ay!,aL aE_,az!,aA 2,aA!,(by rw[O.r2];simp),aB!,s.length,aC!,D×D,aD!,[bN_],aE!,IA hk,aF!,eP w_,aG!,W.txt x,aH!,(by rw[u5];simp),aI!,os.length,aJ!,"_law_k",aK!,wl G!,aL!,Ke xs,aM!,Or.inr rfl,aN!,(by rw[O.r5];simp),aO!,.str s,aP!,List cl_,aQ!,((k:Nat):Int),aR!,[V_,bM_],aS!,λb hb=>?_,aT!,Aa 7,aU!,IL hk,aV!,aB a8!,aW!,[an_],aX!,(by rw[O.r3];simp),aY!,⟨trivial,?_⟩,aZ!,.ref e,a0!,Gf ops,a1!,IL a!,a2!,I.tok _,a3!,"item",a4!,I.ok.hd L,a5!,.int 1,a6!,wl P_,a7!,Option Addr,a8!,aA 3,a9!,.lst ys]
def z'aa:String:=z [aa_,.fn a,ab_,HU ?_,ac_,Ae->Option Bool,ad_,List DictEntry,ae_,List ee_,af_,D->Ae->Option Ae,ag_,some A_,ah_,Bu t M yy a ta wa out S kl ca,ai_,.inl rfl,aj_,[a,b],ak_,IA d!,al_,Option D,am_,ME X own a fa,an_,"self",ao_,starEach aJ_ X.env=e8_::starEach es X.env,ap_,⟨#[c]⟩,aq_,Ae->Option aL_,ar_,X.A.units+64<cLine,as_,W.txt a,au_,us.length,av_,List Env,aw_,fC bh!,ax_,.ref C,ay_,cB w_,az_,Cc t M o rl W hc,aA_,(by rw[O.r6];simp),aB_,some (.lst ops),aC_,kvs.length,aD_,X.calm=true,aE_,aL (λ_ _ h=>aX h),aF_,aD u! aJ,aG_,(by rw[u4];simp),aH_,.nx ρ,aI_,EP X B Z Q,aJ_,(e::es),aK_,aA 5,aL_,List D,aM_,.int n,aN_,.int h,aO_,Ae->Option Fl,aP_,De x=some k,aQ_,[an_,a3!],aR_,r.length,aS_,wl M_,aT_,Ab h! Af,aU_,(rD_).any c!=false,aV_,x∈W.its,aW_,D->D->Option D,aX_,(by rw[O.r4];simp),aY_,Ce.refl sub,aZ_,λd hd=>?_,a0_,l.map Op.v,a1_,PE X a ta,a2_,[eQ_],a3_,"_law_item",a4_,Ac q! Ag,a5_,λ_=>some true,a6_,f2 Ah y! aw_,a7_,aM aH aK az! aC t_,a8_,Option Int,a9_,.type "list"]
def z'b:String:=z [ba!,λx Y=>?_,bb!,(x,p),bc!,.fn o,bd!,(λ_ _ e=>by cases e),be!,its.toArray,bf!,Hist S,bg!,"_law_script",bh!,.int 3,bi!,Aa 6,bj!,.Call (.Name x p) aJ_ [] pos,bk!,aB aS,bl!,aA 4,bm!,List fk_,bn!,λb h=>?_,bo!,W.txt i,bp!,some af!,bq!,some (.int most),br!,some bW!,bs!,mup_ne hb,bt!,((i:Nat):Int),bu!,mixKind P w,bv!,Ol P w H h,bw!,Wy X.env.scope x,bx!,aV (d:=aa_) rfl,by!,[b6_],bz!,.int 2,bA!,.ref k_,bB!,g i j,bC!,vs.length,bD!,aB a7_,bE!,Ad st,bF!,some x,bG!,.type "bool",bH!,.type "tuple",bI!,(by rw[v3];simp),bJ!,MR X.prog X.w X.K M G H,bK!,[e,it],bL!,.dct (xs.zipIdx.map λq=>gf_) i!,bM!,.bl b,bN!,[V_,mk!],bO!,Aa 8,bP!,Cs 2,bQ!,its.toArray.size,bR!,aG (bD fd_),bS!,Array DictEntry,bT!,Df st,bU!,(i,p),bV!,⟨rfl,h⟩,bW!,.fn q,bX!,(by rw[O.r1];simp),bY!,.ref hA,bZ!,some (.int m0),b0!,Cz X.K G d u,b1!,ME X own e f,b2!,u.length,b3!,some aQ!,b4!,[D_,K!,some ev_,bp!,some (.bl g),none,none,none,none,none],b5!,List Stmt,b6!,.int i,b7!,[V_,a3!,"place"],b8!,fC (.int 16),b9!,fC (.int 4)]
def z'bb:String:=z [ba_,.fn r,bb_,Gi W n rows',bc_,.rt d,bd_,List MK,be_,.tup xs,bf_,OS t M a o rl W,bg_,aV (d:=x) rfl,bh_,(by simp;omega),bi_,[dc!],bj_,bZ Q_ bG n_ bk! t_,bk_,Aa 9,bl_,w2 Bs h! nC!,bm_,u++v,bn_,i∉own,bo_,hc+20,bp_,.Name x cb,bq_,De d=some k,br_,Mh->D->D->Option D,bs_,.fn w,bt_,aV rfl,bu_,fs.length,bv_,X.N.Nodup,bw_,Bq v u,bx_,.int i,by_,[V_],bz_,⟨rfl,rfl⟩,bA_,Il false,bB_,.fn p2.a,bC_,f2 Ah y! G!,bD_,aB bl!,bE_,⟨_,_,rfl⟩,bF_,.type "int",bG_,.type "str",bH_,.int 0,bI_,ep+1,bJ_,Mh->Prop,bK_,k _ _ ai_ e,bL_,List Expr,bM_,"other",bN_,"_law_ops",bO_,eR I q d!,bP_,aA 6,bQ_,Aw nB_,bR_,aD n_ aJ,bS_,K w.params,bT_,[D.non],bU_,W.num x,bV_,Addr->Pd,bW_,ρ.set i ei!,bX_,.int m,bY_,M p=some hT_,bZ_,KC _,b0_,[R!,ag_,J_],b1_,q1.mono x2.g,b2_,Jq P w K own M0 G0 F0 M G H Z ρ,b3_,[K!,M!,cM!,dt_,h0_,hW!,y],b4_,IR.mp z,b5_,ha B s Z H _ I h,b6_,"operation",b7_,[cx!,a3_],b8_,.ref it,b9_,Gr X (compareOp op) r]
def z'c:String:=z [ca!,.str "undo",cb!,wl e4_,cc!,Al k X.A,cd!,aA 7,ce!,ns.map V.int,cf!,iG w_,cg!,(by rw[q];simp),ch!,scope.names,ci!,.lst ds,cj!,some oc!,ck!,mup_ne h1,cl!,.tup kg_,cm!,HZ _ Y,cn!,[aN_,en_],co!,De y=some k,cp!,x1.trans x2 m1,cq!,M a=some hT_,cr!,.int o.h,cs!,Array Keyed,ct!,(s.heap.update a Bs!).push (seqObj "tuple" us.toArray 0),cu!,((cY!).length:Nat),cv!,X.mg x=none,cw!,"_law_one",cx!,"_law_world_here",cy!,Hist U,cz!,Aw s_,cA!,rst v.S v2.S,cB!,y.length,cC!,.ref p,cD!,⟨rfl,rfl,rfl,rfl⟩,cE!,vs.toArray,cF!,backToKw ag tv!,cG!,λx=>x.1.isSome,cH!,us.toArray,cI!,Am K H ds vs,cJ!,H p=none,cK!,Fs W x,cL!,f ρ=some d,cM!,some p,cN!,cs.length,cO!,n+1,cP!,(by rw[v4];simp),cQ!,Option Value->Shared->Prop,cR!,.type "tuple",cS!,ME X own o fo,cT!,acc.length,cU!,[some eE_,bF!],cV!,[some h4!,lm_],cW!,lo+hi,cX!,Cz X.K G,cY!,hs S o.h,cZ!,α->β->Prop,c0!,JB e,c1!,Unit->Shared->Prop,c2!,List V->Hp->Prop,c3!,(x==("__classdict__":Str))=false,c4!,[an_,a3!,"parent","sibling"],c5!,"_law_number_here",c6!,[cx!,a3_,r8!,r9!],c7!,Bl (fC S_),c8!,Ay t.B5 "following" h!,c9!,∀x,foldedSetIterable iter X.env x=pure x]
def z'cc:String:=z [ca_,Ac y! Ag,cb_,aE E! aN,cc_,Array sZ!,cd_,aA 8,ce_,λ_ _ _ _ _=>n_,cf_,eQ (bM ay_ cC a7_ aS n!),cg_,absurd z.symm q1,ch_,Nl X scope cl C g6! am a8 fp,ci_,W.rows.length,cj_,OR K own G H Z ρ,ck_,fC .non,cl_,Str×D,cm_,some o2_,cn_,[hM!],co_,MR P w K M G H,cp_,ME X own b fb,cq_,l[j],cr_,.fn w,cs_,SB kd a0 st,ct_,seqObj "list" #[] 0,cu_,PE X b tb,cv_,x≠"__name__",cw_,PE X e te,cx_,f2 Ah q! x!,cy_,wl ck_,cz_,Ay t.B4 "rows" h!,cA_,.fn p.a,cB_,Ab h! ax!,cC_,A.handled=none,cD_,aB dM,cE_,aA 9,cF_,λx=>!x.1,cG_,.inl z,cH_,im x,cI_,.fn a,cJ_,.lst vs,cK_,Av K G d v,cL_,mup_ne h2,cM_,DE X own b fb,cN_,.Name x p2,cO_,Bh d=true,cP_,(by rw[v5];simp),cQ_,some item,cR_,λz=>?_,cS_,.lst [],cT_,.nx ρ',cU_,W.its.map λi=>(i,D.lst lc!),cV_,Sj W hc,cW_,λx Y hh=>?_,cX_,(by simpa using e),cY_,h.objs.size,cZ_,upd H a o,c0_,ms.map Op.v,c1_,.inl rfl,c2_,Xz X.env.scope x,c3_,.Name x pos,c4_,[bg!,aJ!],c5_,he B s Z H _ I h,c6_,[v_,R!,D_,bF!],c7_,Ar W_,c8_,Ab z_ Af,c9_,List V->Hp->VK->Prop]
def z'd:String:=z [da!,Tw t M U p v p2 v2,db!,v2.S++rst v.S v2.S,dc!,.ref a,dd!,ps.zip us,de!,⟨us,[]⟩,df!,.ref k_,dg!,bI T.V3 T.V4 n_,dh!,dF _ _ fl_,di!,(by rfl),dj!,scope.kind=.function,dk!,X.pn++B,dl!,aD n_ aF_,dm!,.tup ds,dn!,λ_ h=>.inl h,do!,DE X own e f,dp!,s1.trans s2,dq!,.int j,dr!,.Name x p2,ds!,if Fs W a then a else binn,dt!,λb h=>.inl h,du!,Ed d d',dv!,(.str k::r),dw!,Str.ofString "",dx!,mkHash P w k,dy!,⟨by simp[big];omega,?_⟩,dz!,λ_ K hK=>?_,dA!,some hO_,dB!,[R!,ag_,br!,J_,kU!],dC!,kget kvs d,dD!,Addr->LR,dE!,[D_,M!,bF!,dt_],dF!,[D_,K!,AB!,fY!,y4,some lk_,h1!,hW!,none,none],dG!,Uo prog w A s a0 kd r,dH!,hF yy ta wa out,dI!,Value.none,dJ!,a==sysModules,dK!,LP _,dL!,X.s₀.heap.objs.size,dM!,λp hp=>?_,dN!,fr b hb,dO!,Bool->Hp->Prop,dP!,.str x,dQ!,.Compare a [op] [b] pos,dR!,eval o X.env,dS!,f2 Ah q! W_,dT!,Gz t,dU!,Ac u_ Ag,dV!,IY _ rfl,dW!,(false,eval a X.env),dX!,hv.map D.int,dY!,rst S S2,dZ!,λρ M R=>R true M,d0!,.dK kvs,d1!,Sem Bool,d2!,Ay t.B3 "taken" h!,d3!,Ab h! mL_,d4!,Fm X.prog X.w X.K X.mg X.base CX k f fd ps sp,d5!,Be dvs ds,d6!,dU aC,d7!,.ref b,d8!,.str "rows",d9!,([]:List Keyword)]
def z'dd:String:=z [da_,wl I!,db_,ns.length,dc_,Hf (Ei u_),dd_,vs++dvs,de_,items.size,df_,dR 3,dg_,dF _ _ dk_,dh_,aB aK_,di_,Ck X scope NF ix,dj_,∀y∈ch!,y.2≠.cell,dk_,.inl z,dl_,(s,p),dm_,Str.ofString "rows",dn_,er.grow s1,do_,(by rw[g3];simp),dp_,"_law_op",dq_,k _ G H aY_ Av.int,dr_,wl fo,ds_,De a=some ka,dt_,some s,du_,[none],dv_,IL hA_,dw_,Ho ks k,dx_,Wh W x,dy_,λ_=>true,dz_,kz!<64,dA_,(d,x),dB_,λx Y=>fN!,dC_,aC_<big,dD_,upd H s.heap.objs.size zP!,dE_,dE d es ep,dF_,λc=>?_,dG_,Int×Int,dH_,.int i t,dI_,Str×V,dJ_,List β,dK_,rawInt T,dL_,some v,dM_,.int k,dN_,.int (i:Nat),dO_,["sign"],dP_,behindInMarks op b=false,dQ_,[aa_,x],dR_,f1 Bk a4_,dS_,Nat->Heap->Prop,dT_,.fn t.A0,dU_,.str "cut",dV_,.int j,dW_,f2 b hb,dX_,f2 Ah y! W_,dY_,p2.yy=3\/p2.yy=4,dZ_,xs.isEmpty,d0_,.int n,d1_,List (Str×Value),d2_,lE ns os a x3 x4 b x6 l (some eD!),d3_,Us X.K C,d4_,Ez X.K fd ps ds,d5_,Mb CX X E,d6_,aB ap!,d7_,aE az! aN,d8_,.inr rfl,d9_,λ_ _ _ _ _=>wQ]
def z'e:String:=z [ea!,nM!=true,eb!,aG (bD u!),ec!,Aj N ps bE!,ed!,El t M r f p xs,ee!,aG iA,ef!,wo rows i,eg!,a∈W.its,eh!,Str.ofString "parents",ei!,some d,ej!,i∈own,ek!,Ia X.K r g,el!,(by rw[g4];simp),em!,λq hq=>?_,en!,List.range m.toNat,eo!,sgn h n,ep!,s.cps.toList.zipIdx.map eo!,eq!,.lst wU_,er!,.dct (At k4 n bW!) e4,es!,λd hd=>?_,et!,wl f1,eu!,Av X.K H d v,ev!,(by simp;omega),ew!,.tup [.str "cut",a,.tup ka_,en_],ex!,Bool->Shared->Prop,ey!,.tup dv!,ez!,{s with toks:=tk},eA!,ops.map Op.v,eB!,some o.v,eC!,A.units+1<cLine,eD!,.int (k:Nat),eE!,.fn wn,eF!,rs.map Bi,eG!,[cw!],eH!,ms.length,eI!,j - 1,eJ!,(a,oa),eK!,some f6!,eL!,xs++ys,eM!,List dI_,eN!,[a,b,c],eO!,Addr×Obj,eP!,Z.set i dL_,eQ!,eval e X.env,eR!,.BoolOp .And (b::rest) pos,eS!,.BoolOp .Or (b::rest) pos,eT!,"outline",eU!,Gf S,eV!,"_law_deed_here",eW!,Og i,eX!,aV (d:=cr_) rfl,eY!,⟨_,dV!,rfl,rfl⟩,eZ!,hs S k,e0!,Ay t.B4 "texts" h!,e1!,binaryOp .Add,e2!,(show false=true from hs),e3!,Aw z_,e4!,.str "put",e5!,some ai!,e6!,v.S.Perm os,e7!,s.heap.push i9_,e8!,backToKw pos tv!,e9!,us++ds]
def z'ee:String:=z [ea_,⟨_,e,rfl⟩,eb_,aD E_ aJ,ec_,HZ _ hy,ed_,kput_len _ _ _,ee_,D×D×Bool,ef_,Nl X scope cl G2.objs.size g6! s2 H2 fp,eg_,(d::ds),eh_,Str.ofString "texts",ei_,[bc!,x],ej_,i∈W.its/\Fs W x/\¬Wn W.rows i x,ek_,(by rw[J];simp),el_,(by rw[g5];simp),em_,.tup ka_,en_,.int m,eo_,some b,ep_,.str s,eq_,Az (Az M5 a3 oC!) q eq!,er_,k _ G H aY_ Av.bl,es_,f1 ρ=some a,et_,some n,eu_,Sum.inr y,ev_,.tup [kx!,a,b],ew_,LW ..,ex_,q2 ρ M R,ey_,Kk P w s.heap k u,ez_,λK hK=>hK,eA_,(py_).Nodup,eB_,l.map c!,eC_,[R!,F_,br!,some x.v,some x.nm],eD_,Az M p C_,eE_,Bi q,eF_,[K!,M!,cM!,dt_,h0_,h1!,hW!],eG_,(as_).map Bg,eH_,hc<3800,eI_,arrOf bg,eJ_,Ix g,eK_,es.map kP_,eL_,(ga!).zip ds,eM_,.int h,eN_,ih!<64,eO_,(by simp[z]),eP_,Be vs us,eQ_,"operations",eR_,.BoolOp .And (a::b::rest) pos,eS_,.BoolOp .Or (a::b::rest) pos,eT_,.UnaryOp .Not a pos,eU_,"numbers",eV_,[v_,bF!,gq!],eW_,[v,ov,iv],eX_,rv.length,eY_,((0:Nat):Int),eZ_,Value->Value->Sem Value,e0_,hv.length=16,e1_,wl bO!,e2_,Ei q!,e3_,x.length,e4_,f2 Ah y! x!,e5_,Tw t M os p v p2 v2,e6_,∀M',R (.rt B_) M',e7_,.ins C dx fs,e8_,(false,eval e X.env),e9_,bF (bV eG)]
def z'f:String:=z [fa!,PA X aJ_ t,fb!,bI T.V1 T.W6 n_,fc!,.builtin id,fd!,Ar I!,fe!,aM aH aK ab! aC t_,ff!,Ar bi!,fg!,bI T.V2 T.V7 n_,fh!,.ref fa,fi!,Jw aL!,fj!,At kf a0 n,fk!,Bj H H',fl!,List zt!,fm!,aD n_ nF_,fn!,V.ref a,fo!,upd H p o,fp!,.lst bU_,fq!,⟨1,?_⟩,fr!,fa ρ,fs!,fs ρ,ft!,.int y,fu!,sub.free hp,fv!,(λz=>nomatch z),fw!,SR K own G0 F0 G H Z ρ,fx!,[F_,et_,some a,eo_,some pl],fy!,Bh d'=true,fz!,scr ns,fA!,.tup xF_,fB!,Str.ofString "__next__",fC!,Dp N,fD!,some 1,fE!,.Tuple jr n1 tp,fF!,K.In h,fG!,List Uj,fH!,Uw W pre,fI!,IN d!,fJ!,(none,()),fK!,.bl hL_,fL!,Hx P w K G kvs es,fM!,wl fb,fN!,(by simp[W0]at Y),fO!,MA X own es fs,fP!,Bn eh! fO_ [],fQ!,h3.typeIs,fR!,De y,fS!,.lst a0_,fT!,st.grow x1 m1,fU!,.fn wt,fV!,ci_<5000,fW!,[D_,M!,cM!,dt_,h0_,h1!,y],fX!,W.its.length,fY!,some nm,fZ!,some fA!,f0!,Keyed->Int,f1!,n<=a0.size,f2!,(by unfold Yi;omega),f3!,⟨_,i1,pF h1⟩,f4!,Hist os,f5!,L'.length,f6!,.lst at!,f7!,(Str.ofString "ours",.int yy),f8!,Addr->Prop,f9!,gK bt_ O.ob hF2]
def z'ff:String:=z [fa_,I.hok.fresh x_,fb_,JW gO_,fc_,.type T,fd_,aB eG,fe_,⟨.bl _,H,I,rfl,?_⟩,ff_,if(d9!).isEmpty then 0 else 1,fg_,.bool true,fh_,At l d v,fi_,λa b=>?_,fj_,At kp n a0,fk_,Str×Addr,fl_,.inr z,fm_,D×D×Bool,fn_,Str.ofString "numbers",fo_,Bj.refl G,fp_,La own Z G H,fq_,De i=some ki,fr_,hc+1,fs_,.int x,ft_,bK (sc:=Ad Kg) rfl l!,fu_,(by rw[q3];simp),fv_,⟨G,ρ,_,er,e1,ws!⟩,fw_,if x=n then _ else _,fx_,V.ref p,fy_,(by show A.units+1+Dj xs<cLine;omega),fz_,x.cps.size,fA_,.int 9,fB_,LV ?_,fC_,some (.lst kinds),fD_,⟨hp,g,d,tk,os⟩,fE_,[z,TO,i1,i2],fF_,h.Ns mainGlobals mg,fG_,(kM!).Nodup,fH_,JC rfl,fI_,λi hi=>?_,fJ_,JU.mpr t_,fK_,kvs.map c!,fL_,Iy kvs,fM_,(∀b,M b≠none->M' b=M b),fN_,Bool->Mh->Prop,fO_,.fn a1,fP_,cS h5,fQ_,Uv X.K H dx,fR_,Mh->List D->Option D,fS_,.int o.tm,fT_,W.rows.map Bi,fU_,qa i,fV_,rs[k],fW_,[D_,bF!,M!,y],fX_,(by rw[IP];unfold big;omega),fY_,(i:Int)+1,fZ_,[some h4!,fZ!,bp!],f0_,wpS_get ?_,f1_,(show i=j by omega),f2_,(t.A0,a),f3_,eS h1,f4_,List ib_,f5_,IE _ (IE _ d!),f6_,Cz K G,f7_,hs S h,f8_,a==b,f9_,us.toArray.zip cH!]
def z'g:String:=z [ga!,us.zip us,gb!,tupleKind bu!,gc!,.ref x,gd!,.frz o u,ge!,List α->Prop,gf!,hp.objs.size,gg!,ms.map Op.nm,gh!,hb B s1 Z H1 _ I1 q1,gi!,["thing","limit"],gj!,[an_,ao!,a3!],gk!,"many",gl!,[an_,a3!,"place","number"],gm!,[an_,"ours"],gn!,.bl false,go!,X.wish E,gp!,"_law_most",gq!,some l7_,gr!,PassesOwn e_ X.A X.env X.xe,gs!,fC gr_,gt!,It->Hp->Prop,gu!,(by simpa using hb),gv!,2 ^ 62,gw!,Gf U,gx!,Cv (Db (fT iQ_) iV!),gy!,Cn t,gz!,Ac bi! Ag,gA!,Il true,gB!,List (κ×V),gC!,Ao 4 (wl (Ea M_ As c7_)),gD!,λ_=>Ax,gE!,some (.lst dX!),gF!,.str "write",gG!,Ek t,gH!,(by rw[eb];rfl),gI!,wl tl!,gJ!,aj.atName,gK!,Al k A,gL!,bT cD dY rfl T.S8 dN cb_,gM!,Al T! X.A,gN!,envOfC qual scope s.heap.objs.size f cd,gO!,Ms N vs,gP!,aE ab! aN,gQ!,fC (.int 5),gR!,kA T,gS!,bM ay_ cC cE_ aS n!,gT!,Ui xs lo hi,gU!,f1 Bk gz_,gV!,.str ap_,gW!,aB nu_,gX!,aB fe!,gY!,[.ref p],gZ!,f2 Ah u_ W_,g0!,its.length,g1!,jZ w_,g2!,Sz ai.heap H,g3!,aG (bD E_),g4!,W.keepIn K ai!=true,g5!,NameKind.free,g6!,NL++NF,g7!,.ListComp dz vR! scope pos,g8!,Rm rows i p s rows',g9!,(λv z=>by cases z)]
def z'gg:String:=z [ga_,((eL_).map C!).map Nn,gb_,.own a,gc_,aW (cL q hn),gd_,Az M q cS_,ge_,Z.length,gf_,(D.int qm_,q.1),gg_,ms.map λo=>l5!,gh_,(by decide+kernel),gi_,["parts","checks"],gj_,[an_,a3!,"parent"],gk_,PT X a tA,gl_,[eT!,ao!,"deed"],gm_,[an_,bM_],gn_,.bl true,go_,[V_,bM_,"most"],gp_,[mp!,c5!],gq_,some x,gr_,.str "root",gs_,aV (d:=q1) rfl,gt_,hf b hb,gu_,Ik t,gv_,l.take k,gw_,(∀b∈fp,H' b=none),gx_,Ao 1 iV_,gy_,i.natAbs,gz_,Ac P_ Ag,gA_,i != 0,gB_,f2 Ah a6_ G!,gC_,Ac M_ Ag,gD_,wl dX_,gE_,Ab cb! (Ab gD_ (Ab (wl a6_) Af)),gF_,HR ?_,gG_,(by rw[ea];rfl),gH_,Ay t.B3 "waiting" h!,gI_,λ_=>rfl,gJ_,getMethod ov m pl,gK_,PA X es t,gL_,Km t,gM_,Ac aj! (Ac cx_ Ag),gN_,λ_ _ _ _ _=>a6h,gO_,(by simpa using hi),gP_,.int a t,gQ_,fJ T,gR_,aE uc! aN,gS_,Cs 6,gT_,wl (fC d8!),gU_,.str ap_,gV_,aB jw!,gW_,w2 bA_ cb! bl_,gX_,Zd x,gY_,aD bD! (aD bD! jz_),gZ_,Ck.cons (j:=3) Ck.nil,g0_,⟨e,?_⟩,g1_,Jg t,g2_,Ia.m cC,g3_,Gp l d,g4_,absurd z.symm q2,g5_,b7.sub x c h,g6_,K.f _ _,g7_,G2.objs.size,g8_,i∈W.its,g9_,∀y∈ch!,y.2=.free->vY!]
def z'h:String:=z [ha!,∀cl C am a8 fp,PG ch_ tg g,hb!,Av K H d v,hc!,chl W.rows x,hd!,Ru t M o rl W hc a1 a2 a3 a4 a5 a6 k1 k2 k3 k4 k5 k6,he!,.lst hc!,hf!,Ce.refl er.sub,hg!,λ_ _ _ h=>h,hh!,s2.trans s3,hi!,DT X own a ft,hj!,DA X own aJ_ fs,hk!,.tup ka!,hl!,[fs_,ft!,.int (z+(k:Nat))],hm!,(by simp[e]),hn!,(by rw[q4];simp),ho!,.type "NoneType",hp!,.tup U_,hq!,bY sub q,hr!,λx g9 hy=>?_,hs!,er.grow x,ht!,if x=x then _ else _,hu!,.obj C fs,hv!,(backTo ag nk_).any c!=false,hw!,ds.map some++List.replicate (ji! - f_) none,hx!,Am X.K H es ws,hy!,Bq v' u',hz!,.tup [o1!,a,b,c],hA!,.tup [.str "drop",a],hB!,(by size_fits),hC!,s.heap.IsTuple l2 ys,hD!,.ref z,hE!,BE s.heap l1 l2,hF!,λc L=>?_,hG!,bL uy,hH!,(show v=.none from hy),hI!,Cv ft,hJ!,Mo ks k,hK!,λK hK=>?_,hL!,.int o.h,hM!,.lst eA!,hN!,λx Y=>hd x cm!,hO!,Pg .str a0! [],hP!,Tf P w K own G H Z ρ M,hQ!,wl fa,hR!,Yg X.prog X.w X.K r gm,hS!,Bn dm_ hS_ fP!,hT!,"texts",hU!,rS I sub r hk,hV!,(x::os),hW!,some eD!,hX!,KQ _,hY!,some cS_,hZ!,k3 (.lst fT_) fU! eE!,h0!,.tup aj_,h1!,some (.int (a:Nat)),h2!,q.1=x,h3!,kget kvs y,h4!,.int aQ!,h5!,some (.lst eG_),h6!,[h5_,some h4_],h7!,e≠it,h8!,W.its.map λi=>(i,D.fn fU_),h9!,m - 1]
def z'hh:String:=z [ha_,fq _ I2.lt,hb_,bI T.V1 T.W7 n_,hc_,ρ.length,hd_,x∈W.its,he_,MC e,hf_,(λr M'=>match r with|.rt d=>R d M'|.nx _=>R .non M'),hg_,r1.mono s2.g,hh_,ft ρ,hi_,pU T,hj_,w.nm i hi,hk_,hc<3900,hl_,U++v,hm_,Ce.laid sub hp,hn_,(by rw[q5];simp),ho_,s.cps.toList.length,hp_,.dct oB! e2,hq_,mup_ne h6,hr_,Ce.laid x.sub hp,hs_,Gi W x rows',ht_,IU.mp h1,hu_,f2 ρ=some b,hv_,Rj F0 G1,hw_,Am X.K H ds vs,hx_,Av X.K H d' v',hy_,(aR_:Int),hz_,.Name y py,hA_,(by unfold big;omega),hB_,s.heap.IsTuple l1 xs,hC_,cs.map λc=>(ap_:Str),hD_,(if _<=big then _ else none)=_,hE_,fs ρ=some ds,hF_,λc o e=>?_,hG_,s.cps.toList.zipIdx.map kK_,hH_,(show u=.none from Y),hI_,ks.Nodup,hJ_,.inl fl_,hK_,Oo s.heap a es ep,hL_,k=="undo",hM_,(a0!).map Op.v,hN_,∀o∈ops,DG o.d,hO_,.lst eA!,hP_,f ρ M R,hQ_,[root,binn],hR_,MT X own a ft,hS_,.fn a2,hT_,.dct kvs ep,hU_,(o::os),hV_,MA X own aJ_ fs,hW_,Ee M1 d,hX_,some (.lst zO!),hY_,k3 a b c,hZ_,Az M s.heap.objs.size C_,h0_,some (.lst eF!),h1_,Az M p (.dct (At kvs y v) (Gb kvs y ep)),h2_,Gh own Z H1,h3_,Aa 0 ρ=some bs_,h4_,.lst cu,h5_,some (Bg q),h6_,q.2.1.map c!,h7_,[D_,K!,some ev_,bp!,none,none,none,none,none,none],h8_,a0.toList,h9_,x - 1]
def z'i:String:=z [ia!,mup_ne a1,ib!,(by simpa using c),ic!,ku.zip us,id!,some (.int N),ie!,.done (.ret .none),if!,h.ch k,ig!,Int->Addr,ih!,S.length,ii!,acc.toList,ij!,[aa_,o.v],ik!,Int->Bool,il!,aV (d:=bH_) rfl,im!,IB vd,in!,Be xs us,io!,Ow a ta wa kl ca,ip!,.ListComp dz vR! scope ag,iq!,H a=none,ir!,I.ok.bs b o e,is!,b∈X.ex\/dL!<=b,it!,λb o e n hb Y=>?_,iu!,λb hb=>?_,iv!,λ_ _ _ _ n=>n,iw!,λ_ _ _ e=>e,ix!,(xs.take i).zipIdx.map λq=>gf_,iy!,aV (d:=.fn p) rfl,iz!,Jk Oy ms,iA!,some l7!,iB!,(eH!:Nat),iC!,∀dr,isTrue e X.env dr=(do let v <-dr;standAt e.pos;holding [v] mg_),iD!,its.toList,iE!,PS X st t,iF!,"_law_base",iG!,some e,iH!,St->Hp->Prop,iI!,"_law_hand",iJ!,some eM_,iK!,Bt M w ak W,iL!,⟨.int _,H,a2!,H!,q⟩,iM!,fC iL_,iN!,f1 Ha a4_,iO!,Pa (Lf t) 0 dU!,iP!,KD.mp ho,iQ!,X.mg "range"=none,iR!,l.drop k,iS!,Ay t.B5 "preceding" h!,iT!,wl iM!,iU!,I7.unpinned,iV!,fT zx!,iW!,BF r ta tb,iX!,List.range 16,iY!,(cA!).map Op.v,iZ!,Gr X (compareOp fh) r',i0!,.Compare a [op,fh] [b,c] pos,i1!,fC ca!,i2!,f1 Dl a4_,i3!,fC dM_,i4!,if i<0 then -i else i,i5!,r'.length,i6!,[J_,gE!],i7!,K.In s.heap,i8!,Gf os,i9!,some x4]
def z'ii:String:=z [ia_,o.h=h,ib_,Int×Int,ic_,l.map f,id_,seqObj "list" us'.toArray n',ie_,(ic!).zip ds,if_,((ie_).map C!).map eJ_,ig_,kl.map λh=>(D.int h,D.fn (ca h)),ih_,.fn (ca h),ii_,aV (d:=aN_) rfl,ij_,List (List Key×V),ik_,o.ExactDict,il_,seqObj "list" (eK_).toArray 0,im_,∀b u,h.get? b=some u->h'.get? b=some u,in_,.own x,io_,Ow a ta wa cz c7,ip_,some (.inl (.inl o.h)),iq_,Sz h H,ir_,JB ho,is_,(∀x c,X.env.cells.lookup x=some c->c≠b),it_,vh b o e Y,iu_,λz=>L eO_,iv_,λ_ _ e=>e,iw_,λm hm=>?_,ix_,[aa_,.lst c0_],iy_,Hist (S++ms),iz_,TP X B Z Q,iA_,[K!,iA!],iB_,PE X e t,iC_,.obj t.B3 (hF yy ta wa Y!),iD_,.inl h,iE_,aV (d:=bc!) rfl,iF_,"_law_other",iG_,"_law_at",iH_,aV (d:=dN_) rfl,iI_,"_law_have",iJ_,.Name x ik,iK_,Cy (fT (Dy "tuple" q!)),iL_,.str "bin",iM_,pyNext b8_,iN_,Rk 0 1,iP_,Gl X "range",iQ_,f2 Ap u_ ck_,iR_,(false,eval b X.env),iS_,Ww (Ml 1 Ag),iT_,Hh t.B5 1 (Hs t) Af,iU_,Int->Int->V,iV_,w2 Bs mJ_ s_,iW_,2 ^ 64,iX_,Ab z_ ax!,iY_,wl (fC B_),iZ_,lastMarks [op,fh] [b,c]=false,i0_,f2 Ah mD_ G!,i1_,p.yy=3\/p.yy=4,i2_,(by simp only[IF];omega),i3_,o.h==k,i4_,Ai gC! (Au (Gx (Cv (Cy sS!)) (wT (w2 gD! (Oq s_ a6!) (wl i1!)))) (Cd z_ a6! iY_) Bo),i5_,.str "move",i6_,o.n<=Uu hv o.h,i7_,.lst at!,i8_,.str "set",i9_,W.emptyDict]
def z'j:String:=z [ja!,W.instObj C k_,jb!,(show False from r),jc!,True.intro,jd!,wl cx_,je!,.List es pos,jf!,.Call tF_ aJ_ [] pos,jg!,Str->Option NameKind,jh!,IV.mp nd,ji!,N.length,jj!,[.non,.non],jk!,W.codeIn K af qual=true,jl!,Ac aT! Ag,jm!,fD E!,jn!,⟨_,ho,rfl⟩,jo!,(by simpa using hv),jp!,aM aH aK a7_ aC t_,jq!,((sIx n 0 lo:Nat):Int),jr!,Ac G! (Ac G! (Ac G! Ag)),js!,HU ⟨_,rfl,HU h⟩,jt!,V->Option Int->Option Int->Hp->VK->Prop,ju!,(i!:Int),jv!,f2 Ax aj! u_,jw!,aM aH aK a8! aC t_,jx!,wl (fC nG_),jy!,aD ak! aJ,jz!,Ao 5 (w2 Bs bl_ cb!),jA!,upd H l a9!,jB!,.dT kvs,jC!,aB jp!,jD!,backTo ag vh!,jE!,l.most=some n,jF!,mH (nK T) a_ rfl,jG!,List.Pairwise.nil,jH!,λv _=>v=.bl true,jI!,bI T.V2 T.V8 n_,jJ!,Fo st,jK!,u++[a0],jL!,z▸ha,jM!,aD dh_ aJ,jN!,aB cd_,jO!,ForInStep.yield r,jP!,Gp kf n,jQ!,z▸this,jR!,flt b hb,jS!,mup_ne om,jT!,mup_ne uh,jU!,(D.non::u),jV!,bZ Q_ bG E_ bk! t_,jW!,z▸IJ (f:=c!) hq,jX!,λa b hm=>?_,jY!,aE aC aN,jZ!,∀a vs,Fz K H a vs->Fz K H' a vs,j0!,[(Str.ofString "following",D.fn f),(Str.ofString "preceding",D.fn p)],j1!,upd H p cJ_,j2!,Ce G H G' H',j3!,∀j∈ix,j∉own,j4!,(∀v G' H',Ce G H G' H'->Av K G' d v->Q v H'),j5!,W.num i,j6!,O.lt x Y,j7!,⟨_,mup_same⟩,j8!,⟨x,rfl,?_⟩,j9!,⟨B6,B7,B8,B9,C0,C1,C2,C3,C4,C5,C6,C7⟩]
def z'jj:String:=z [ja_,Ld f v fs,jb_,H a=some e7_,jc_,A.under (.builtin "type.__call__" ⟨.ref C::us,kw⟩),jd_,wl aj!,je_,Ak 2 (Cq t) cB_,jf_,.Call tF_ [] [] pos,jg_,((p,w)::P.zip vs),jh_,.int 9,ji_,.str "",jj_,Ck.cons (j:=1) Ck.nil,jk_,λ_ _ _ _ _=>aZ (i:=0) (show([cw!,a3_]:List Str).Nodup by decide+kernel) rfl b!,jl_,bootBuiltins x=some fc_,jm_,.ref t,jn_,⟨_,il,rfl⟩,jo_,Aa 10,jp_,aE a8! aN,jq_,.ref sl,jr_,Builtin.Tuple.tupleExact _,js_,aA 10,jt_,f2 Do M_ x!,ju_,z.length,jv_,.str "texts",jw_,ac!<=sizeLine,jx_,(show false=true from fx),jy_,compareOp .In,jz_,aD bD! aJ,jA_,.ref l,jB_,"_law_row",jC_,HR fin,jD_,f2 Ah u_ aj!,jE_,ns.map .int,jF_,Ar bO!,jG_,⟨[u],[]⟩,jH_,bI T.V3 T.V5 n_,jI_,Px kf kp xs,jJ_,[(.non,.non)],jK_,(b0::v),jL_,z▸w,jM_,.inr (.inr fl_),jN_,.inr fl_,jO_,HZ _ hp,jP_,Gp kp n,jQ_,names.map λ(n,k)=>if n1_ then(n,NameKind.cell)else(n,k),jR_,mup_ne j0,jS_,mup_ne ui,jT_,aB!<=16,jU_,Ck.cons (j:=0) Ck.nil,jV_,(N!,Ue us n),jW_,λx=>?_,jX_,λx Y y hy=>?_,jY_,fq _ (sh p hp),jZ_,.str i,j0_,(by kernel_rfl),j1_,λb u e=>?_,j2_,bb!∈W.rows,j3_,oQ hN hv hd bx,j4_,fb ρ,j5_,f2 g fa fb,j6_,lR (fD ab!),j7_,if x=i then cutT [s] bo! else W.txt x,j8_,⟨G1,ρ,d,dn_,e,ws_⟩,j9_,DA X own es fs]
def z'k:String:=z [ka!,[fs_,ft!,dV_],kb!,rX h.ok,kc!,f1 g fs,kd!,bY sub qa,ke!,(by rw[hl];exact JE _ q0),kf!,mup_ne z,kg!,Ae->Option ou_,kh!,(by show 3<=1000;decide),ki!,s3 c L,kj!,List Bool,kk!,Ce.refl s2,kl!,bnd d ρ,km!,z▸Y,kn!,λj hj=>?_,ko!,eval bp_ X.env,kp!,wo W.rows i,kq!,Fz X.K H a vs,kr!,Ed oU_ oV!,ks!,∀(us us':j!),Be vs us->Be ws us'->∀(j:Nat) u u',us[j]?=some u->us'[j]?=some u'->SeqAt.EqAt A.in1 s u u' kr!,kt!,qN rd re rv ak (h us us' rv ak),ku!,mX ds es hl,kv!,cs.map λ_=>.bl true,kw!,xs.map D.str,kx!,.str "put",ky!,.str "set",kz!,ops.length,kA!,ys.map (·.length),kB!,[.str "bin",kA_],kC!,(aB!:Int),kD!,IsZip s.heap z TI TO .none,kE!,IsPair s.heap TO p q,kF!,s.heap.IsTupleIter i2 l2 k2,kG!,cs.map Ox,kH!,h5.objs.size,kI!,some je,kJ!,b6k (qT rfl (LZ _)),kK!,pE l c k,kL!,.tup [ky!,a,.int p,.int v],kM!,rows.map c!,kN!,k==k',kO!,On P w h es ks,kP!,O.noOb oM6,kQ!,[F_,bF!],kR!,On P w s.heap es.toArray ks,kS!,[hL!,.int o.n,kR_,o.d],kT!,Bj G G',kU!,some o.nm,kV!,XM M G H M' G' H',kW!,mup_ne c2,kX!,[(root,.non),(binn,.non)],kY!,mup_ne (IB j4),kZ!,[(root,.fn r1),(binn,.fn r2)],k0!,.fn a3,k1!,Cz X.K G x v,k2!,dictGet a u>>=_,k3!,upd H a (dE a ar bI_),k4!,λw hw=>qA I r1 rx n1 r2 r n2 (by have:=iR X.A;omega) w ns_,k5!,rA I r2 r n2,k6!,.ext x2,k7!,(by rw[hp.length_eq];omega),k8!,[K!,pV!,J_,some pV_],k9!,⟨t1,t2,?_⟩]
def z'kk:String:=z [ka_,[fs_,ft!,.int z],kb_,.tup [fs_,ft!],kc_,Ez X.K fd ps [],kd_,Int->Int->D,ke_,(by rw[hl];exact IE _ q0),kf_,this.2.1,kg_,[aN_,aM_,.int (k0:Nat)],kh_,(by rw[z]),ki_,mup_ne h5,kj_,bs.map Value.bool,kk_,starEach (a::[]) X.env=dW!::starEach [] X.env,kl_,λv H2 hy=>?_,km_,Am K G ds vs,kn_,starEach (e::[]) X.env=e8_::starEach [] X.env,ko_,[.Subscript bp_ ix p2],kp_,Yo K ps.length g,kq_,(by simpa using h),kr_,us.toArray.size,ks_,λj=>Ed oU_ oV!,kt_,ak.length,ku_,mU ds es hl,kv_,⟨.bl _,H,I,rfl,q⟩,kw_,.ref ad,kx_,.str "write",ky_,∀o∈ops,Vh o,kz_,kz!<=100,kA_,.tup [fA_,fA_],kB_,⟨_,dV!,rfl⟩,kC_,ZipApart z TI TO i1 i2 l1 l2,kD_,IsPair s.heap TI (.ref i1) (.ref i2),kE_,s.heap.IsTupleIter i1 l1 k1,kF_,(∀c ob,c≠z->c≠TO->c≠i1->c≠i2->s.heap.get? c=some ob->h'.get? c=some ob),kG_,HR (SG ?_),kH_,.int base,kI_,λc L=>?_,kJ_,Kz xs ys,kK_,sgn h m,kL_,(pl_).set p.toNat (.int v),kM_,λx Y q hq=>?_,kN_,ks.length,kO_,plc es dx!,kP_,(·.key),kQ_,(·.2.1),kR_,.int o.tm,kS_,(by simpa using hl),kT_,(∀b,b≠p->M' b=M b),kU_,dE a es ep,kV_,List D->Mh->Prop,kW_,λq hq=>?_,kX_,w2 gm fa fb,kY_,st.grow x1 m1,kZ_,⟨G1,ρ,M1,R,kY_,r1,zm!⟩,k0_,⟨⟨o,q o z1,z2,z3⟩,z4⟩,k1_,upd H a (dE a ar (Gb kvs d ep)),k2_,a4r (A:=A.in1) hu I m sub e r hk λo s' I' ho=>?_,k3_,!Ed d d',k4_,(show its.toArray.any fQ_=its.any fQ_ by simp),k5_,hp x IH,k6_,hp.map _,k7_,(p,kvs,ep),k8_,ho.run I st e λd M1 v G1 H1 u s1 r1 x1 m1 q1 I1 rx=>?_,k9_,(u++o::v)]
def z'l:String:=z [la!,s.heap.push {cls:=.type "dict",data:=.dict #[]},lb!,if _ then _ else _,lc!,(bo!).map Bg,ld!,Gh own Z H,le!,.int (au!:Nat),lf!,[.Subscript o i p2],lg!,(by simpa using vb),lh!,W.rows.filter λq=>decide h2!,li!,wl fx,lj!,Aa 2 ρ,lk!,l.map Bg,ll!,Bw N ps.length q,lm!,HU (HR (SA ho hd ?_)),ln!,p1 rfl,lo!,f ρ=some a,lp!,.lst (nw.map Bg),lq!,.Constant (.str s0) n0 p0,lr!,mirror_perm _ _ _ _,ls!,setPending hx ((A9!).push lr_),lt!,HZ _ hz,lu!,hs os h,lv!,λk=>?_,lw!,HW i os c0 c1 c2 t0 t1 t2,lx!,(by rw[IF,KJ];omega),ly!,(a,seqObj "list" #[] e1),lz!,IR.mp hb,lA!,(os.filter λo=>p o.h)++os.filter λo=>!p o.h,lB!,hk q a7,lC!,⟨rfl,hg _ hK⟩,lD!,Uk ft ρ M false,lE!,[f7!,BG_],lF!,(s.heap.push ct_).update s.heap.objs.size (Obj.mapSeq (·++cH!)),lG!,(by rw[O.ob];simp),lH!,(by rw[O.wt];simp),lI!,O.cl h hh,lJ!,.int qP!,lK!,(Sum.inr a:Key),lL!,ds.all λd=>(Mp d).isSome,lM!,(by simpa using h1),lN!,O.nob hM1,lO!,List Key×Addr×Value,lP!,W.instObj C dx,lQ!,(nomatch e),lR!,vD F S λaf A outer s H E J=>hb J,lS!,λh hh=>(by cases hh),lT!,e=x\/H e=some in_,lU!,[.lst jE_],lV!,λh hh=>?_,lW!,aW (hm b _ q λz=>z),lX!,s.heap.IsListIter it l i,lY!,⟨h₁,g,d,tk,os⟩,lZ!,if h=o.h then q else ca h,l0!,IR.mp y,l1!,.type "enumerate",l2!,Ol X.prog X.w H' h',l3!,(by kernel_rfl),l4!,I.base.keep b o e n hb Y,l5!,(o.nm,o.v),l6!,ds.map Nn,l7!,.lst c0_,l8!,hs.2 b (JP rf!),l9!,h.ch y.h]
def z'll:String:=z [la_,IA (IB h.1),lb_,its.map λi=>(i,g i),lc_,[D_,bF!],ld_,s.root hb,le_,Bi rs[k],lf_,.lst ((Ad!).map Bi),lg_,IL (by simp[big];omega),lh_,decide h2!,li_,Dh C m M d,lj_,.obj C [],lk_,.lst lk!,ll_,fb ρ=some y,lm_,some ew!,ln_,⟨#[s.cps.toList.getD k 0]⟩,lo_,g ρ=some b,lp_,.lst [],lq_,fo ρ=some A_,lr_,(0,a0.size,0),ls_,Kz qy_ qz!,lt_,Value.int a t,lu_,λz hz=>?_,lv_,α->β,lw_,List (Keyed×D),lx_,PySem.Fin->Shared->Prop,ly_,[J!,as!,id!,hY!,qH!,qH!,none,none,none,none],lz_,ku.toArray.zip cH!,lA_,hk p hp,lB_,Pu f1 ρ M a,lC_,Pu f ρ M d,lD_,.builtin "sorted",lE_,[f7!,BG_,(Str.ofString "waiting",.fn wa)],lF_,seqObj "list" us.toArray 0,lG_,(by rw[ht];simp),lH_,(by rw[O.cl h hh];simp),lI_,(Sum.inl a:Key),lJ_,.str x t,lK_,some (.inl iD_),lL_,⟨_,rfl,r⟩,lM_,aV (oS o),lN_,κ×Value,lO_,aV (f:=Aa 0) rfl,lP_,fs.map c!,lQ_,h'.objs.size,lR_,dA (f:=fC .non) (d:=.non) rfl,lS_,λ_ q=>q,lT_,∃u,h'.get? e=some u,lU_,(by show 4<100;decide),lV_,upd H x o,lW_,aU hb hq,lX_,s.heap.IsList l items,lY_,X.env.scope.kind,lZ_,IK.mp hh,l0_,.inr dk_,l1_,[v_,J_,none],l2_,I.freeC x c e,l3_,λx c e=>?_,l4_,I.base.free b o e n Y,l5_,[v_,R!,ag_,J_,kU!,y5],l6_,Jk Nn ds,l7_,.int (i:Nat),l8_,hs.2 b (JP (JD c0! (I.ok.cab x c xw L))),l9_,Inv X B Z H' s']
def z'm:String:=z [ma!,starEach es X.env,mb!,⟨v,H,I,r,h⟩,mc!,⟨ho,rfl⟩,md!,.bool b,me!,Bu t M yy a ta wa .non S kl ca,mf!,kl.flatMap (hs S),mg!,[an_,rP!,a3!,"behind","text"],mh!,[an_,a3!,"first",gk!],mi!,.BoolOp .Or [a] pos,mj!,.BoolOp op [a] pos,mk!,"message",ml!,[V_,"fresh"],mm!,[V_,ao!],mn!,⟨hr,H',I.unwish,q⟩,mo!,"_law_found",mp!,"_law_rows",mq!,[bg!,iF!,bN_,gp!],mr!,Hp->Prop,ms!,"_law_name",mt!,"_law_gone",mu!,[iI!,bN_],mv!,setItem ov iv v,mw!,.int 60,mx!,Int->Int->Int,my!,[D.tup [x,p]],mz!,(∀b∈fp,Ga X B H b),mB!,f1 Bk dU!,mC!,⟨rfl,I.turned (t':=s.toks) (λb o hb e=>eb b o hb e) f0 f1 f3 f4 f5⟩,mD!,I1.kept (t':=s1.toks) λb o e=>HX _ e,mE!,hi - lo,mF!,∀o∈S,o∈U,mG!,ha pos B s Z H _ I h,mH!,PI X tg iter wi,mI!,Int->Int->Prop,mJ!,.BinOp a op b pos,mK!,f dH_ (.int j u),mL!,Int->Int->Bool,mM!,Ab s_ mL_,mN!,Bc t.B4 "has_item" 2 (Ch t) h! ax!,mO!,rI BD λi j=>.int (i / j),mP!,i ^ j.toNat,mQ!,[cA_,bB_],mR!,.fn p2.a,mS!,Ab da_ Af,mT!,Sq λi j=>.bl mU!,mU!,decide (i<j),mV!,Sq λi j=>.bl mV_,mW!,decide (j<=i),mX!,ho B s2 Z H2 x y v u _ I2 r1 r2 q2,mY!,kvs.isEmpty,mZ!,its.toArray.isEmpty,m0!,Ao 2 Gs,m1!,.lst sV!,m2!,Vi s.heap x dx C mA,m3!,W.plainGet_of hg,m4!,.lst ((i8!).map Op.v),m5!,S.Perm os,m6!,some (.fn b),m7!,w2 Bs d2! z_,m8!,aV (d:=i7_) rfl,m9!,show Ld f v ((k,x)::r)=(if k=f then(k,v)::r else(k,x)::Ld f v r)from rfl]
def z'mm:String:=z [ma_,eval a X.env,mb_,∀o∈ms,o.h≠yy,mc_,IE _ ho,md_,O.keep fr,me_,[an_,ao!,bM_],mf_,h B s Z H _ I hw,mg_,truthy v,mh_,.BoolOp .And [a] pos,mi_,(eU!).map Op.v,mj_,dH b5_ λv s1 ⟨x,H1,I1,r1,q1⟩=>?_,mk_,.IfExp c a b pos,ml_,[V_,"have"],mm_,["one",bM_],mn_,fY bx! (uT h),mo_,"_law_letters",mp_,.Return iG! pos,mq_,[bg!,iF!,"_law_many"],mr_,[cx!,a3_,iF_],ms_,assignEach es X.env,mt_,[cx!,cw!],mu_,"_law_had",mv_,.int 10,mw_,PG X tg g,mx_,.lst [.tup [x,p]],my_,⟨by simp[big],?_⟩,mz_,.fn (qa q1),mA_,{s with heap:=h'},mB_,λb hb=>(gt_).1,mC_,λb o hb e=>kk b o gu! e,mD_,f2 Ah q! aw_,mE_,s.heap.push {cls:=.type "range",data:=.fields #[.int lo t,.int hi u,.int 1 v]},mF_,o.n - 1,mG_,dH mG! λus s1 ⟨vs,H1,I1,r1,q1⟩=>?_,mH_,V->Hp->VK->Prop,mI_,Gr X (binaryOp op) r,mJ_,Ay t.B4 "parents" h!,mK_,pm.mem_iff.mp ho,mL_,Ab aS_ Af,mM_,Ab aK! Af,mN_,rI Yd λi j=>.int (i*j),mO_,rI (λ_ j=>0<j) λi j=>.int (i%j),mP_,rI BC λi j=>.int mP!,mQ_,.fn p.a,mR_,Ao 8 (wl (f2 An u_ (Ba gz!))),mS_,((cA!).length:Nat),mT_,compareOp .LtE,mU_,decide (i<=j),mV_,decide (j<i),mW_,Sq λi j=>.bl mW!,mX_,h.s2.2 o ho,mY_,.str "redo",mZ_,⟨H,I,q⟩,m0_,30+(i:Nat),m1_,Uu hv o.h<o.n,m2_,.str "drop",m3_,W.isFn K ai!=true,m4_,{s with toks:=s.toks+1},m5_,f2 Ah M_ aw_,m6_,wl (Dw Ag),m7_,Ay t.B3 "outline" h!,m8_,Ak 1 (Ew t) aT_,m9_,a9y hW.h a!]
def z'n:String:=z [na!,f2 Ah u_ x!,nb!,Option Value,nc!,lE ns os a x3 x4 b x6 l none,nd!,hadL os hv,ne!,(nd!).map Op.v,nf!,[J!,eK!,v_,none,none,none,none,none,none],ng!,Ak 1 (Dk t) aT_,nh!,.ins C dx [],ni!,iD (xU (a0z tD! (sV (bM zU zW gL! aC n!)))) e9_ eB,nj!,kZ I hg hm ?_ be,nk!,gF T.T8 rfl,nl!,backTo pos nk_,nm!,f2 Ax i0_ (fC e4!),nn!,f2 An x! (f2 Bv q! u_),no!,Pb CX P w K mg base N qual scope f af A outer s H E,np!,λ_ _ _ _ _=>d6_,nq!,bootBuiltins x=some fc!,nr!,.int c u,ns!,ws.length,nt!,v+(n:Int),nu!,(i:Int)+(m:Int)*1,nv!,(items.toList.drop (sIx items.size 0 lo)).take ud!,nw!,Option Expr,nx!,.Slice lo hi none p2,ny!,HT.sIx xs.length xs.length hi - HT.sIx xs.length 0 lo,nz!,Ao 3 (wl jt_),nA!,Ci (w2 Bs h! gT_),nB!,.Subscript a b pos,nC!,wl (fC jv_),nD!,f2 Ah u_ aw_,nE!,sliceBounds lo hi none n,nF!,Ao 3 (wl (Ba uG_)),nG!,Cd bl_ aS_ m6_,nH!,aD E_ nF_,nI!,Cd nH_ aS_ (Qe (Ab aK! (Ab aK! (Ab aK! mM_)))),nJ!,Bz (Ak 4 Ji (Ab h! gE_)),nK!,Hf (Eo uL_),nL!,Ac (f2 An uV! q!) Ag,nM!,aj.endLine==ag.line,nN!,acc++its,nO!,w2 Bs z_ nC!,nP!,Bf 1 [0] (Hf (Eo b8!)) D! dZ! (wl (f2 Bv vg! b9!)),nQ!,Ak 1 Cp ax!,nR!,World->Heap->Prop,nS!,.call fh! nS_,nT!,λr s'=>r=.ok (.ret fg_)/\OldK ai.heap s'.heap/\s'.os=ai.os/\AllBare s'.gens,nU!,.bool true,nV!,Al k callerA,nW!,λ_ _ _=>False,nX!,W.fnOf x qual jJ! bT! bE! .none kV bo pm an af ct,nY!,bU (dC T) a_ n_ aF_,nZ!,λm hm=>hm,n0!,λ_ _ _ q=>q,n1!,h.p _ _,n2!,Zk X scope cl,n3!,∀b∈fp,Ga X B H2 b,n4!,Pp NL.length ix Z,n5!,aO (jO T) a_ rfl bR_,n6!,W.its.Nodup,n7!,kY.mp hq,n8!,if x=n then[]else W.txt x,n9!,(cH_).mp Y]
def z'nn:String:=z [na_,f2 Ah u_ G!,nb_,if false=true then _ else _,nc_,I.tok _,nd_,Hv 1 [] (Ei u_) D! a5_ tp_,ne_,PE X o ta,nf_,[J!,none,none,none,none,none,none,none,none],ng_,Rn P w K mg base A outer s H,nh_,upd tC! x nh!,ni_,Ab sj! Af,nj_,aE ap! aN,nk_,starEach [] X.env,nl_,Mk X.K C f,nm_,aB (sX aN),nn_,Ac (f1 Bp (Ac q! (Ac tM_ Ag))) Ag,no_,λ_ _ _ _ _=>jF (eQ (bM ay_ cC ap! ab! n!)),np_,Jd X fc! r,nq_,Jd X fc_ r,nr_,aM aH aK ap! aC t_,ns_,(by simpa using hw),nt_,Ck.cons (j:=2) Ck.nil,nu_,gP (n:=9) rfl,nv_,aE bP_ aN,nw_,.int 15,nx_,HT.sIx xs.length 0 lo,ny_,λb ob q=>HX _ q,nz_,Ci (Ak 1 Cp aT_),nA_,V->List V->Hp->VK->Prop,nB_,wl (fC S_),nC_,Ab z_ mL_,nD_,Ao 2 (wl nD!),nE_,aD E_ aF_,nF_,aD aV! aJ,nG_,.str "numbers",nH_,w2 Bs h! jx!,nI_,Bz (Ak 4 Go uJ!),nJ_,Bz (Ak 4 Ji (Ab h! s1_)),nK_,sK (oW cf_ (kX (cN cf! eX bD! bj_ rfl))),nL_,bK (sc:=Ad Qr) rfl l!,nM_,λx1 x2=>x1++x2,nN_,n<=sizeLine,nO_,ks.map kV,nP_,aD u! nF_,nQ_,(Str->Option Value)->Heap->Prop,nR_,d.params.defaults=[],nS_,⟨bi_,[]⟩,nT_,λf vs=>PySem.call f vs,nU_,⟨t,rfl⟩,nV_,aB (cZ a8! dW d6!),nW_,bI T.V2 T.V6 n_,nX_,bZ Q_ bG nW_ u! t_,nY_,aW (ne b _ e),nZ_,aW (by simpa using L),n0_,h.f _ _,n1_,k==g5!&&env.scope.kind==.function&&env.kindOf n==some .cell,n2_,Inv X B Z H2 s2,n3_,∀x∈xs,∃k,De x=some k,n4_,K.p _ _,n5_,aO (eY T) a_ rfl dl!,n6_,(aG!).map c!,n7_,n∉W.its,n8_,(n9!).resolve_right q,n9_,List (L2.Key×V)]
def z'o:String:=z [oa!,setT W a l,ob!,ds.drop n,oc!,V.ref p,od!,(by rw[e1];exact hb),oe!,λi d q _=>?_,of!,aM aH aK bl! aC t_,og!,mup_ne p1,oh!,mup_ne h3,oi!,[F_,bF!,M!],oj!,O.noOb oM2,ok!,aO (kS T) a_ rfl dl!,ol!,⟨r,f,p',g1,g2.keep (av _ do_) (av _ el!) (av _ el_),g3,g4,g5⟩,om!,⟨G,ρ,x,er,e1,λG1 H1 s1=>?_⟩,on!,λq hq y hy q' a7 e=>?_,oo!,.dct on_ e6,op!,setT W i wq_,oq!,g++[.tup ka!],or!,aO (hX T) a_ rfl aF_,os!,bY sub qb,ot!,(by rw[qq];simp),ou!,cs.zipIdx k0,ov!,some wP!,ow!,[F_,bp!,M!,eo_,some tx,some cv,ov!,some gU_,qr],ox!,(.tup kg_,.str ap_,true),oy!,.builtin "isinstance",oz!,(by show 1<=1000;decide),oA!,hO.mono a!,oB!,At k2 n (.fn r1),oC!,.dct oB_ e3,oD!,K3 c (jd c L).1 (jd c L).2.1 (jd c L).2.2,oE!,sub.seq q,oF!,gi c ki!,oG!,w1 _ v1,oH!,w1 _ v3,oI!,(by rw[z,O.r1]),oJ!,(by rw[z,g5]),oK!,w1 a2 h3,oL!,x.sub.free hp,oM!,[c5!,gp!],oN!,na d hd,oO!,IA (λz:x=n=>hn km!),oP!,.dct oA_ (Gb k1 n e1),oQ!,.inl ⟨rfl,vs,Fj.of h3⟩,oR!,h5.mono x.g,oS!,[F_,M!,bF!,dt_],oT!,A.deeper (envOfC qual bE! s.heap.objs.size hA af),oU!,.dct (At k1 i x) (Gb k1 i e1),oV!,es.getD j .non,oW!,us'.toArray,oX!,ad==sysModules,oY!,.tup [.str a,.str b],oZ!,[fz!,.int k],o0!,Sum.inr z,o1!,.str "move",o2!,.str "undo",o3!,backTo ag (starEach [a] X.env),o4!,some (.lst cx),o5!,letters.length,o6!,λ_=>some true,o7!,⟨_,rfl,?_⟩,o8!,[J!,as!,aB_,bq!,bZ!,cm_,cQ_,kI!,fC_,some V!,none,none],o9!,.type "zip"]
def z'oo:String:=z [oa_,if x=a then l else W.txt x,ob_,Str.ofString "written",oc_,k1.length,od_,some ci!,oe_,.inr (.inr ⟨aj_,rfl⟩),of_,Xy nl ix ρ,og_,hw Z G H Q ρ d er e k,oh_,if b∈Ju own Z then none else G' b,oi_,De x=some kx,oj_,(j5!).set p.toNat d0_,ok_,k G' H' s',ol_,(q.1,q.2.1,q.2.2&&!decide (q.1∈cu)),om_,setT W i (cutT g bo!),on_,At k6 s B_,oo_,fT fa ρ,op_,⟨G,ρ,.bl x,er,lG e1,ws!⟩,oq_,(by rw[IF,IF];omega),or_,.dct (At k5 s c) e5,os_,setT W i wG_,ot_,λ_ j=>decide (0<j),ou_,Option Int,ov_,[F_,bp!,M!,eo_,some tx,some cv,ov!,some gU_,some cl!],ow_,wD rr l h,ox_,sub.seq q,oy_,⟨o,h1,h2⟩,oz_,(st::rest),oA_,At k1 n pl,oB_,At k3 n (.fn r2),oC_,mup_ne c3,oD_,Fj K H p ys\/Fz K H p ys,oE_,bs.all id,oF_,mup_ne h4,oG_,w1 _ v2,oH_,List.range n,oI_,(by rw[z,g4]),oJ_,ak.mono x2.g,oK_,GD X.K g bnd,oL_,h1.ok G0 F0,oM_,(by rw[dQ xn];exact u1),oN_,ρ.set i od_,oO_,⟨ho,rfl,k⟩,oP_,Az M a1 oP!,oQ_,gS.mp z,oR_,Eg ds.length j,oS_,⟨m8 iw,?_⟩,oT_,Pb Pz P w K mg base N qual bE! hA af A outer s H E,oU_,ds.getD j .non,oV_,us'.toArray.size,oW_,Fj X.K H a vs,oX_,bn.lookup y,oY_,(a==k||b==k),oZ_,Sum.inr z,o0_,Addr->Option xC!,o1_,A'.handled,o2_,.lst its,o3_,[a].length+(d9!).length+ff_<30,o4_,cx.length,o5_,⟨cs.toArray⟩,o6_,IY _ rfl,o7_,"StopIteration",o8_,DC s.heap l1 l2,o9_,HX _ o6_]
def z'p:String:=z [pa!,some (Rc oth),pb!,λc o _ _ L e _=>kp c o L e,pc!,λc o L e=>⟨o,kp c o L e⟩,pd!,[J!,as!,aB_,bq!,bZ!,cm_,cQ_,kI!,fC_,some V!,some sg,none],pe!,I.hok c o e,pf!,λ_ e'=>e',pg!,[.tup [bH_,.int (1+m0%5)]],ph!,⟨_,_,rfl,rfl,er_⟩,pi!,Pb Pz P w K mg base N x bE! hA af A outer s H E,pj!,(pE l c k).binds b,pk!,ns.map D.int,pl!,Vu rows,pm!,[aN_,aM_,qp_],pn!,⟨a',b',c',e',JE _ hm⟩,po!,Kk P w s.heap x u,pp!,Dd (D.str k::r) 0=_,pq!,IL (by simp only[IQ];omega),pr!,.tup (.str k::a::b::c::r),ps!,some (.inl (.inr "bin")),pt!,Option Nat,pu!,⟨ff,?_⟩,pv!,Nc ji_ yS!=some v,pw!,KD.mp hq,px!,ag!<=sizeLine,py!,Str.ofString "redo"==Str.ofString "redo",pz!,.bl (Hi o.d).isSome,pA!,λk=>.bl hL_,pB!,(∀o∈os,DG o.d),pC!,h2 b hb,pD!,[dA!,ag_,none],pE!,λx=>?_,pF!,hH.trans h1,pG!,Pg .str a0! [],pH!,hw Z G H Q ρ M R st e k,pI!,st.mr.ext x,pJ!,[(root,D.non),(binn,D.non)],pK!,(by rw[mup_same];simp),pL!,MT X own c ft,pM!,Bn eh_ k0! hS!,pN!,⟨o,h⟩,pO!,HR (OI hT ab_),pP!,os.map Op.nm,pQ!,some x.v,pR!,λy hy=>hp y ec_,pS!,.dct q.2.1 q.2.2,pT!,((j:Nat):Int),pU!,[K!,some fS!,J_,some pT_],pV!,some (.lst pU_),pW!,kget q.2.1 y,pX!,((b2!+m:Nat):Int),pY!,(cp!).trans x3 m2,pZ!,⟨_,dV!,yA_,rfl⟩,p0!,⟨[],bW,.nil,NO⟩,p1!,⟨h1,h2⟩,p2!,D.str.inj z,p3!,⟨cU!,rfl,hK!,dz!⟩,p4!,rs.take k,p5!,.int z3_,p6!,IU.mp e,p7!,.obj C (Bn x y fs),p8!,(by rw[O.rt];simp),p9!,(by rw[h2];simp)]
def z'pp:String:=z [pa_,(λv y=>by cases y),pb_,λc o _ _ L e _=>⟨o.slots,kp c o L e⟩,pc_,λc ps e=>ro_,pd_,dG rfl rfl,pe_,λd o' hd e'=>kp d o' (λhm=>?_) e',pf_,aW (ne c _ e),pg_,aW (ne d _ q),ph_,A.deeper (envOfC x bE! s.heap.objs.size hA af),pi_,Vc n es,pj_,W.mg_of X G a,pk_,Tq rows,pl_,W.num a,pm_,.tup cn!,pn_,List L2.Key,po_,.str k',pp_,.tup (.str k::a::r),pq_,.tup (.str k::a::b::r),pr_,f3 ρ=some c,ps_,MX ho hd (HR (c0k hu q2 hk (HR (MX ho hd ?_)))),pt_,[.str k,a],pu_,(dx_).map c!,pv_,HR (uW hu hk λtk=>HR yS_),pw_,(k=="undo"||k=="redo"),px_,Str.ofString "undo"==Str.ofString "undo",py_,ops.map Op.key,pz_,(Ah o.v bh!).bind λx=>Ah x H_,pA_,[R!,ag_,y],pB_,.dct acc ep,pC_,mup_ne hb,pD_,At kvs d x,pE_,kget wd o.nm,pF_,h2.mono e,pG_,(by rw[e];simp),pH_,(∀b,M b≠none->M' b=M b/\rl b=.oth),pI_,.refl st.or.sub,pJ_,.obj t.B4 fP!,pK_,[(root,D.fn r1),(binn,D.fn r2)],pL_,Ce.laid x1.sub hp,pM_,Op->Bool,pN_,if c=o then _ else _,pO_,compareOp .NotIn,pP_,Ro wd os,pQ_,λy hy=>hd y ec_,pR_,α->Prop,pS_,q.2.length,pT_,.int zJ_,pU_,(bm_).map Op.v,pV_,.int pW_,pW_,(b2!:Nat),pX_,((b2!+(m+1):Nat):Int),pY_,[K!,hX_,J_,z],pZ_,I.laid (t':=s.toks) u1_ x_ ⟨⟨D0,KO.mpr (IB (JP I.big)),KC _⟩,let⟨o,h,_⟩:=D0;pN!,zp_⟩,p0_,Value×Value,p1_,(Str.ofString "undo"==k||Str.ofString "redo"==k),p2_,Bf 1 [1] _ _ _ _,p3_,.inr (s.noF z),p4_,h1.ok M0 G0 F0,p5_,An eD! a5!=_,p6_,sr.grow x m,p7_,.dct (k3 (.lst (rows'.map Bi)) fU! eE!) e,p8_,aw wn z9_,p9_,[some eE_,M!]]
def z'q:String:=z [qa!,Lc M3 d y v,qb!,.lst ((eF!).take a),qc!,!decide (x=i),qd!,Jq P w K own M0 G0 F0 M1 G1 H1 Z ρ,qe!,Ye P w K ps.length g,qf!,.dct (At cU_ a lk_) e,qg!,.fn (qa a),qh!,Oo s.heap d es ep,qi!,((n:Nat):Int),qj!,rawInt fY_,qk!,λK hK=>?_,ql!,(by simpa using qc),qm!,some (.int (at_:Nat)),qn!,ju b hb,qo!,.lst ((eG_).take at_),qp!,HT.lexLt ms ns,qq!,Te W n d W',qr!,m1.ext xj,qs!,fa ρ=some y,qt!,∀k hx,SB kd a0 hx->1<=k->k<=n->Up r y_ k->Q (some k) hx,qu!,Hi x.d=none,qv!,Az qu_ wt C_,qw!,cW! / 2,qx!,⟨by rw[IP];unfold big;omega,?_⟩,qy!,List (Addr×D),qz!,cs.map C!,qA!,.str letters,qB!,(by rw[IT,hw.len];rfl),qC!,(qB_).map kf,qD!,(by have:=hw.b1;omega),qE!,ρ[i]?=some od_,qF!,Al k X.A.in1.in1,qG!,λd q=>Mp d=some q,qH!,some (.lst [bH_,bH_,bH_]),qI!,b7b em ed nd z rfl rfl rfl rfl rfl rfl rfl hb,qJ!,Paired cX! ds us,qK!,(by rw[LA];omega),qL!,Ab f Af,qM!,Str.ofString "outline",qN!,∀b,M b≠none->M' b=M b,qO!,D.int.inj z,qP!,((f7_).length:Nat),qR!,Paired.mapP ok.1 λ_ _ z=>z.1,qS!,λv d=>Hw h3 v (Nn d).1 (Nn d).2,qT!,eU bt_ lN! (aV (jN o)) (uZ O),qU!,aV (d:=.int 1) rfl,qV!,Jl ga_ (Lu h3 p.1.1)<Jl ga_ (Lu h3 q.1.1),qW!,(Xh λys Q H=>∀l,H l=none->Q jA_ jA!),qX!,(∀f,Oj (fs.lookup f) (mA f)),qY!,(λq=>nomatch q),qZ!,(show h.get? a=some _ from x),q0!,Fd P w H h a o,q1!,.obj t.B3 [f7!],q2!,mixKind prog w,q3!,.obj t.B3 lE_,q4!,mup_ne (IB xr),q5!,W.fnOf "__init__" qual jJ! bT! bE! .none kV bo pm an af ct,q6!,(by rw[hp];simp),q7!,.lst ((cY!).map Op.v++[o.v]),q8!,mup_ne (IB at_),q9!,mup_ne λz=>ho dk_]
def z'qq:String:=z [qa_,((au!:Nat):Int),qb_,.lst [Bi bU!],qc_,.lst [p],qd_,MI X own tg iter fi,qe_,Aa 2 ρ=some ey!,qf_,(by rw[O.rw_];simp),qg_,.bl q.2.2,qh_,uQ o ho,qi_,[D_,K!,lm_,fY!,o4,o5,o6,o7,o8,o9],qj_,(λi v=>∃e,es[i]?=some e/\v=e.key),qk_,List.range aB!,ql_,[D_,K!,fZ!,bp!,y4,none,none,none,none,none],qm_,(q.2:Nat),qn_,[D_,K!,fZ!,bp!,y4,h5!,qm!,y,some lp!,none],qo_,.bool (lexLt ms ns),qp_,.int (k:Nat),qq_,⟨rfl,k⟩,qr_,a4k hL dv0 oG bm,qs_,Option Nat->SortSt->Prop,qt_,[R!,D_,ag_,some x.v],qu_,Az N w C_,qv_,⟨0,?_⟩,qw_,IR.mp z,qx_,[none,none],qy_,cs.map λc=>.fn c.1,qz_,Addr×D->Prop,qA_,λx h=>(by cases h),qB_,ay.map C!,qC_,(by have:=hw.b0;omega),qD_,(by have:=hw.b2;omega),qE_,B++[eJ!],qF_,ku.length,qG_,∀H':Hp,H' a=none->Ga X B H' a,qH_,seqObj "list" #[] e1,qI_,(by rw[JF];rfl),qJ_,Jk eJ_ ds,qK_,Ix g q.2,qL_,(ct!).push ct_,qM_,kl.length,qN_,λb hb ho=>?_,qO_,(by rw[(bJ _).length_eq,KJ];omega),qP_,ItemsOf qj_ acc ag!,qQ_,λq e=>Cz K G q.1 e.key,qR_,(λb hb=>by rw[lz!];exact gf),qS_,⟨u,lM!,h2⟩,qT_,L'.map (·.1.2),qU_,seqEpoch_at me rfl ?_,qV_,.tup (p.1.map kV),qW_,(show Fd X.prog X.w H s.heap d dE_ from I.hok d _ e2),qX_,gD (k:=lK_) ht rfl,qY_,aV (d:=.int 2) rfl,q0_,∀b xs,H b=some be_->H' b=some be_,q1_,.obj t.B3 lE!,q2_,(by show _<100;simp),q3_,W.methodObj ai! (.ref y),q4_,∀{hA:Addr} {af:Value} {A:Around} {outer:av_} {s:Shared} {H:Hp} {E:XK},Al k oT!->Vj (oT_).nox [] σ bT! q,q5_,∀b u,b≠e->h.get? b=some u->h'.get? b=some u,q6_,.tbl (ps++ph),q7_,hF yy ta wa out,q8_,mup_ne (IB aw),q9_,List.range cY_]
def z'r:String:=z [ra!,h.get? b=some o,rb!,items[i]?=some x,rc!,.dct (ig_++ra_) bI_,rd!,KL he rfl (x:=.ref it) rfl ?_,re!,I.ok.noex b o e,rf!,JD c0! I.ok.above,rg!,λi x v e1 e2 e3=>?_,rh!,λ_=>hz.1 rfl,ri!,BI X B H s.heap e it i,rj!,(by rw[show(((i+1:Nat):Nat):Int)=(i:Int)+1 by omega];exact a),rk!,(∀b,M0 b≠none->M b=M0 b),rl!,⟨_,ar,bd,hL,r'⟩,rm!,⟨_,he,rfl⟩,rn!,F.args_enumerate_next_1 _,ro!,∀b∈bK!,Ga X B H b,rp!,⟨_,he,g9!⟩,rq!,[v_,R!,ag_,J_,kU!,J_],rr!,∀b u,s.heap.get? b=some u->h'.get? b=some u,rs!,(xs.take X!).zipIdx.map λq=>gf_,rt!,Am X.K G xs vs,ru!,storeName X.env x u,rv!,λj y v' e1 e2 e3=>?_,rw!,[v_,ag_,br!,kU!,some fS_],rx!,upd H c (dE c ar X!),ry!,plainId_quiet a1a _,rz!,λx Y=>hk x cm!,rA!,s4.trans (Ce.laid s4.sub hp),rB!,∀M',fM_->R .non M',rC!,.Name "enumerate" p2,rD!,vf.mem_iff.mp ho,rE!,ys.map λ_=>true,rF!,ta Z H λx H1=>tb Z H1 λy H2=>R x y H2,rG!,∀v u s2 x y H2,Inv X B Z H2 s2->Bq x v->Bq y u->R x y H2->wpAny e_ X.A (f v u) Q X.xe s2,rH!,eval b X.env,rI!,.Pass ⟨0,0,0,0⟩,rJ!,.Constant .none j pos,rK!,(by rw[I.ok.glob];exact I.mod.glob.keeps I.bk),rL!,[v_,iA!,some H_,none],rM!,[an_,ao!,"ahead","follower"],rN!,(l.filter λx=>p x||q x),rO!,op==CmpOp.NotIn,rP!,"operation_name",rQ!,[an_,a3!,"first",gk!,"k",ao!],rR!,dH b5_ λc s1 ⟨H1,I1,q1⟩=>?_,rS!,[eQ_,"words","names",b6_,ao!],rT!,([]++kl.flatMap (hs S)).map Op.v,rU!,(by rw[hp.length_eq];exact hS),rV!,(∀b,M b≠none->b≠a->M' b=M b),rW!,dH (L B s Z H _ I h) λd s1 ⟨H1,I1,q1⟩=>?_,rX!,aV (d:=.non) rfl,rY!,[V_,b6_,"known"],rZ!,[V_,"have",eU_],r0!,⟨ok.mod,ok.kind,ok.glob,ok.blt,ok.above,ok.inj,ok.has,ok.cab,ok.hd,ok.frames,ok.stk,ok.exf,ok.bs,ok.bsz,ok.noex,ok.exfs,ok.funs,ok.frf⟩,r1!,["one",bM_,gk!],r2!,.bl (decide (Fs W x)),r3!,[bN_,mo!,cw!,aJ!],r4!,[bg!,iF!,bN_,gp!,c5!,"_law_items_here",a3_,iF_,"_law_kinds","_law_kind","_law_sign","_law_names"],r5!,.Return none pos,r6!,(λ_ s'=>∃hr H',Inv X B hr H' s'/\Q hr H'),r7!,[bN_,mo!,cw!,iG_],r8!,"_law_parent_here",r9!,"_law_sibling"]
def z'rr:String:=z [ra_,[(.int o.h,.fn q)],rb_,(∀b o,b≠e->b≠it->s.heap.get? b=some o->h'.get? b=some o),rc_,field aZ! 2>>=_,rd_,X.env.kindOf x=some .cell\/X.env.kindOf x=some .free,re_,Array GenState,rf_,λb o e Y=>?_,rg_,(by rw[<-e];exact hl),rh_,JZ (by rw[KH,hi.1];omega),ri_,λz=>hb eO_,rj_,Bu t M0 yy a ta wa out S kl ca,rk_,(λ_ z=>nomatch z),rl_,dn.map λo=>l5!,rm_,(∀b,M0 b≠none->M' b=M0 b),rn_,⟨_,_,_,he⟩,ro_,⟨#[],by rw[e];simp⟩,rp_,some (.inr [.inl o.h,.inl o.n]),rq_,λb u e=>?_,rr_,λb hb=>(mup_ne (aU hb h0)).trans dN!,rs_,∀o∈ms,Nx yy S o,rt_,e1.trans e2.symm,ru_,⟨it!,it!,I.base.free,rf_,I.base.tups,I.base.frzs,I.base.tbls⟩,rv_,Az M c (.dct rs! X!),rx_,(by simpa using I.len),ry_,⟨u',r',?_⟩,rz_,z.sameBut hs (cne y c e),rA_,.type "dict",rB_,Bool->Hp->Prop,rC_,[.Call rC! [a] [] ug],rD_,backTo pos ma!,rE_,α->Shared->Prop,rF_,V->V->Hp->Prop,rG_,.lst (List.replicate n.toNat vs).flatten,rH_,λv ai=>wpAny e_ X.A rH! (λu am=>wpAny e_ X.A (f v u) Q X.xe am) X.xe ai,rI_,.Constant bx_ j pos,rJ_,aV (d:=lp_) rfl,rK_,[an_,ao!,bM_,"ahead","follower"],rL_,bootBuiltins x=some u,rM_,[an_,"names",ao!],rN_,op==CmpOp.In,rO_,[an_,a3!,"parent","sibling","place"],rP_,[an_,rP!,a3!,"behind","text","ahead","k","sign",ao!],rQ_,dH (ha B s Z H Q I h) λc s1 e=>?_,rR_,[eQ_,"words",b6_],rS_,[eQ_,eT!,"left_out",b6_,ao!],rT_,h B s Z H Q I hw,rU_,[V_,mk!,"fresh",b6_,ao!,"same"],rV_,[V_,"fresh","times",ao!,"time"],rW_,Ro (Pg .str eU! []) eU!,rX_,[V_,gk!,"found"],rY_,[V_,mk!,gk!,b6_],rZ_,(by simpa using hs),r0_,gK bt_ hob hF4,r1_,∀K:D->Mh->Prop,(∀M' o rl,OS t M' a o rl W->Q M'->K Y! M')->Dk t [aa_] M K,r2_,(by rw[JC Y];exact hK),r3_,swapsWith e none pos.line X.env=pure false,r4_,eF bx! bg_ (vI h hk Y),r5_,[bg!,iF!,"_law_many",bN_,"_law_counts","_law_times",aJ!,c5!,iG_,eV!],r6_,[bN_,"_law_last",cw!],r7_,[cx!,a3_,r8!,r9!,mp!,iG_,aJ!],r8_,[cx!,a3_,iF_,"_law_above"],r9_,[cx!,cw!,eV!,ms!,"_law_good",mp!,iG_,aJ!,"_law_new",mt!]]
def z's:String:=z [sa!,[bN_,cx!,"_law_undone_here",cw!],sb!,[bg!,bN_,cw!,iI_,mo!,iF_,mu_,"_law_wanted",gp!],sc!,eval i X.env,sd!,if false=true then(if true=true then q1 ρ M R else q2 ρ M R)else ft ρ M λb M1=>if b then q1 ρ M1 R else q2 ρ M1 R,se!,(∀y',R (.nx [v_,R!,D_,y']) M),sf!,f1 Ec (Ac (Ea q! As c7_) Ag),sg!,(List.range 4).map λi=>D.int bt!,sh!,f2 Bx q! ck_,si!,JB (I.pin p hp).1,sj!,Ak 2 (Fa t) cB_,sk!,["enumerate","zip","dict_itemiterator","dict_reverseitemiterator","odict_iterator","itertools.zip_longest","itertools.pairwise"],sl!,[dT_,.fn t.A8,.fn t.A9],sm!,λb o hb e=>(sb.2 b hb).trans e,sn!,hl B s Z H _ I h,so!,.Name "range" p,sp!,.Call so! [a] [] pos,sq!,starEach [b] X.env=[iR_],sr!,.For tg iter body [] pos,ss!,λb hb=>(dW_).1,st!,T.obj _ _ mj,su!,IE _ (IE _ (jC hb e)),sv!,Value->Sem Value,sw!,(dX!).zipIdx.map λq=>gf_,sx!,.int bB! s.toks,sy!,Ao 4 (BJ (wT sw_) z_ iT!),sz!,Bz (Bc t.B5 "put_behind" 3 (Cw t) (w2 Bs cz_ a6!) mM!),sA!,Ay t.B4 "numbers" h!,sB!,Cd sA! s_ (Xa mM_ (wl b9!)),sC!,Sq λi j=>.int (i - j),sD!,(iX!).map λi=>D.int bt!,sE!,(iX!).map λi=>(((hs v2.S bt!).length:Nat):Int),sF!,Ay t.B4 "written" h!,sG!,Cd sF! e1_ (wl aT!),sH!,f2 An dX_ M_,sI!,compareOp .Is,sJ!,Ao 5 (wl (f2 An (Ea y! As c7_) (Ba gz_))),sK!,w2 Bs e0! s_,sL!,Au (wT (Bc t.B5 "holds" 2 (Ht t) sK! mS!)) (Cd (Ay t.B4 "hidden" h!) da_ iY_) Bo,sM!,w2 Bs sA! s_,sN!,L B s3 Z H3 _ I3 q3,sO!,[cA_,bB_,qp_],sP!,⟨H,a2!,by rw[xK r];exact q⟩,sQ!,wl (f2 Ah a6_ x!),sR!,nG (h o ho).dg,sS!,fT (f1 Bb gC_),sT!,Classical.choose_spec AY!,sU!,.int (if j>i then j else i),sV!,(Zb ns).map D.int,sW!,.int (x.cps.getD 0 0:Nat),sX!,.builtin "len",sY!,⟨.int i!,H,a2!,⟨_,by simp only[IF];rw[ao]⟩,q⟩,sZ!,Option Value,s0!,W.plainGet K C name=true,s1!,Cv (fT (f2 Ax bC_ (fC m2_))),s2!,Value×List Value->Shared->Prop,s3!,Cv (fT (f2 Ax bC_ (fC dU_))),s4!,Cv (fT (f2 Ax bC_ (fC i8_))),s5!,nG (hU.op x (h x Y)).dg,s6!,wT (w2 gA! a6! z_),s7!,Au s6! (Bz (Ak 3 (Nk t) s6_)) Bo,s8!,W.makesIn K C=true,s9!,Fv t.B3 "outline" h! cy_]
def z'ss:String:=z [sa_,[iI!,bN_,cx!,a3_],sb_,.Subscript o i pos,sc_,ho B s Z H _ I h,sd_,dH c5_ λv s1 ⟨x,H1,I1,r1,q1⟩=>?_,se_,λz hz=>Y z lt!,sf_,.While c body [] pos,sh_,(by rw[z];exact hb),si_,letOwnedTupleGo tg b8_ u,sj_,DX X B Z tg R,sk_,some (.inl (.inr "texts")),sl_,(by simpa using hu),sm_,aV (d:=.str "texts") rfl,sn_,(((mE!).toNat:Nat):Int),so_,starEach [a] X.env=[dW!],sp_,starEach aj_ X.env=[dW!,iR_],sq_,.Call so! aj_ [] pos,sr_,Cv (fT (f2 Ap y! ck_)),ss_,Ai (Ww (Pr 1 y!)) (Ao 2 (w2 Bs c8! z_)),st_,step x H5 y5,su_,I7.pin (b,o) su!,sv_,d1c ha hb I h λv u s2 x y H2 I2 rx ry q=>ho B s2 Z H2 x y v u Q I2 rx ry q,sw_,Bc t.B4 "has" 2 gy! h! c8_,sx_,⟨.int bB!,H,a2!,H!,q⟩,sy_,(λ_ K hK=>by rw[dA (f:=Aa 0) (d:=o.v) rfl];exact hK),sz_,hv.getD o.h.toNat 0,sA_,intBits_le_64 h1 h2,sB_,Cd e0! s_ iT_,sC_,binaryOp .Mult,sD_,[some mQ_,some mR!],sE_,Bz (Bc t.B5 "put_behind" 3 (Cw t) (w2 Bs e0! z_) (Ab e1_ mS!)),sF_,compareOp .NotEq,sG_,compareOp .Gt,sH_,S2++(dY!).take k,sI_,λx y H Q=>y=.non/\Q (.bl (decide (x=.non))) H,sJ_,compareOp .IsNot,sK_,λx y H Q=>y=.non/\Q (.bl (!decide (x=.non))) H,sL_,λx y H Q=>r x y H Q\/r' x y H Q,sM_,[some mQ_,some mR!,hW!],sN_,Xc r r' ta tb tc,sO_,Ci (Bc t.B4 "signs_of" 2 (Dm t) h! ax!),sP_,(show False from e),sQ_,Au (Cv (fT (f1 Bb ca_))) (Cd s_ sQ! (wl gB_)) Bo,sR_,.builtin "abs",sS_,(λxs H Q=>∃i,xs=[b6!]/\Q (.int i4!) H),sT_,.builtin "max",sU_,(λxs H Q=>∃i j,xs=[b6!,dV_]/\Q sU! H),sV_,.builtin "ord",sW_,(λxs H Q=>∃x,xs=[.str x]/\e3_=1/\Q sW! H),sX_,Cv (fT (f2 Ax bC_ (fC e4!))),sY_,Cv (fT (f2 Ax bC_ (fC i5_))),sZ_,xQ (oS o) ((xQ rfl (jN o)).trans (c7o hl ho.hb.1 ho.hb.2)),s0_,W.hasDictIn K C=true,s1_,Ab cb! (Ab iT! (Ab cy_ Af)),s2_,Cv (fT (f2 Ax bC_ (fC gF!))),s3_,some (.builtin "object.__setattr__"),s4_,db_<=sizeLine,s5_,Ao 1 (Hh t.B4 1 (Ii t) Af),s6_,Ab s_ (Ab a6! (Ab (wl m5_) Af)),s7_,Result->Shared->Prop,s8_,W.findIn K ax_ "__init__"=some e5!,s9_,if true=true then _ else _]
def z't:String:=z [ta!,λb=>b=p.a,tb!,List.replicate 16 0,tc!,Au (wT (w2 (λ_=>Bx) m7_ cy_)) (Fv t.B3 "outline" h! (Ak 1 (Jz t) (Ab m8_ Af))) Bo,td!,Bc t.B3 "have" 2 gG! h! (Ab (wl na_) Af),te!,Au (wT (w2 gD! (Bc t.B3 "have" 2 gG! h! ax!) aK!)) (Aw aK!) Bo,tf!,(show∃t,u=Value.str x t from r),tg!,wT (Ak 2 (Fw t) d3!),th!,wl (f2 Ah P_ G!),ti!,Au tg! (Ao 5 (w2 Bs (w2 Bs d2! th!) (wl (f2 Do (f2 Ah P_ x!) x!)))) (Au th_ Gc (Ao 5 (Kf z_ a6! aS_))),tj!,Au (Cv (fT ti_)) Gc Bo,tk!,(by rw[e];exact jc!),tl!,f2 Ah M_ G!,tm!,if g=f then some u else mA g,tn!,Bu t M 3 a ta wa .non S kl ca,to!,⟨3,a,ta,wa⟩,tp!,⟨4,b,tb,wb⟩,tq!,fT (f1 Rl (Ac nd_ Ag)),tr!,λb u q=>HX _ q,ts!,.Attribute e f pos,tt!,(by rw[pm.length_eq];omega),tu!,((i8!).filter λo=>decide tt_).map Op.v,tv!,keywordEach [] X.env,tw!,.Call (.Attribute e m aj) args [] pos,tx!,Bz (Ak 2 (Fn t) cB_),ty!,Ak 2 (Jy t) d3!,tz!,dH (h pos B s Z H _ I hq) λus s1 ⟨xs,H1,I1,r,z,q⟩=>⟨by rw[<-r.length];exact z,?_⟩,tA!,fT (f1 Du ca_),tB!,Bc t.B4 "has" 2 gy! ng! ax!,tC!,upd H1 dx in_,tD!,gE (fF (jU nQ rfl T.S7 rfl T.T5 cQ qZ E!)),tE!,aR (jB T) a_ rfl nj_ aE_,tF!,f1 Ud (Ac y! (Ac G! Ag)),tG!,starEach aJ_ X.env,tI!,backTo pos tG!,tJ!,.cons rfl .nil,tK!,Bl (f2 Ah q! (f2 Bv u_ dR_)),tL!,I.hok.fresh (QJ _),tM!,fQ a9z b0h E! dM n!,tN!,X.mg x=some ax_,tO!,(∀v,(x,v)∉binds),tP!,(by simpa using h2),tQ!,cellsFrom ae! scope.names [],tR!,Pb CX P w K mg base N qual scope f cd A outer s H E,tS!,(show b∈tR_ from z),tT!,Rp (Eo (f1 Bk (Ac (f2 Ah a6_ aw_) Ag))) Q! (Pr 1 tS_),tU!,f2 Bv (f2 Cj u_ (f2 An x! (f2 Eh aw_ q!))) (fC (.int 41)),tV!,aG (gC T.V1 T.W8 n_ cD_),tW!,List.take_sublist _ _,tX!,Co 5 (f1 Lz ca_),tY!,Co 6 (f1 Ds (Ac (f2 An (Ea I! (Ar x!) As) (Ea I! As (Ar x!))) nn_)),tZ!,∀vs H Q E,sp vs H Q E->bC!=T_,t0!,Gg (fT (Dy "str" aT!)) (Co 7 ck_) Ct,t1!,fC (.int 12),t2!,bE aQ bS ab! aC,t3!,jQ I hg hm hv ?_ hn be,t4!,Gg (fT (f2 Ax bk_ (fC i5_))) (Bl (Ba (Ac bk_ (Ac bi! (Ac (f1 Ds (Ac I! (Ac (f1 Bp (Ac q! (Ac (f2 An u_ aw_) Ag))) Ag))) jl!))))) Ct,t5!,Gg (fT (f2 Ax bk_ (fC m2_))) (Bl (Ba (Ac bk_ gz!))) Ct,t6!,λ_ _ _ _ _=>t5_,t7!,gP (n:=10) rfl,t8!,Gg (fT (f2 Ax bk_ (fC gF!))) (Bl (Ba (Ac bk_ (Ac bi! (Ac jo_ (Ac (f1 Oe (Ac (f1 Bp (Ac q! (Ac (f2 An u_ gQ!) Ag))) gC_)) Ag)))))) Ct,t9!,f2 Cj P_ t1!]
def z'tt:String:=z [ta_,Aw (wl (f1 Dl dU!)),tb_,(bJ os).mem_iff.mp ho,tc_,(iR!).map Op.v,td_,(gv_).map Op.v,te_,(show∃t,u=Value.int i t from r),tf_,Aw (w2 Bs (w2 Bs (w2 Bs d2! s_) (wl (AX x!))) (wl W_)),tg_,rst v.S v2.S=l,th_,wT (w2 gD! th! (Ay t.B3 "ours" h!)),ti_,f2 Ep I! M_,tj_,.ins C dx (Ld f y fs),tk_,Ao 4 (w2 Bs (w2 Bs s_ aS_) (wl W_)),tl_,(λr M1=>match r with|.nx ah=>q ah M1 R|.rt d=>R bc_ M1),tm_,wT (w2 (λ_=>Jm) a6! (Ip z_ gI! (Ak 2 (Hq t) (Ab h! (Ab gI! Af))))),tn_,Cd z_ gI! a6!,to_,Au tm_ Gc Bo,tp_,f1 (Ca t) a4_,tq_,[J!,eK!,v_,gE!,i9!,m6!,none,none,none],tr_,some (.lst ne!),ts_,Ao 2 (Bf 1 [0] (Ci gH_) D! (wT (Ak 2 (Hb t) (Ab s_ aT_))) h!),tt_,Uu (Zb ns) o.h<o.n,tu_,backTo pos (starEach args X.env),tv_,wT (Ak 2 (Hb t) cB_),tw_,Au tv_ (Ai (Bz (Ak 2 (Lx t) cB_)) (Aw (w2 Nm (wl x!) (Ak 1 (Fc t) aT_)))) Bo,tx_,os.filter λo=>o.h==15,ty_,.Tuple es x1 pos,tz_,I1.laid (t':=s1.toks) (λb u e=>HX _ e) x_ ?_,tA_,Au (Cv (Cy tA!)) Gc Bo,tB_,aR (lZ T) a_ rfl cb_ aE_,tC_,λv H2=>v=.non/\Q gc! H2,tD_,Bf 1 [1] (Hf (Eo b8!)) D! dZ! (Bc t.B3 "have" 2 gG! s_ aT_),tE_,dH mG! λus s1 ⟨vs,H1,I1,r,q⟩=>⟨I1.kIn,?_⟩,tF_,.Attribute o m aj,tG_,Ak 2 dT! (Ab s_ (Ab (EE sj! As (Ar tF!)) Af)),tH_,aR (jA T) a_ rfl (aE (cZ E! dW d6!) aN) aE_,tI_,⟨I2.kIn,?_⟩,tJ_,aR (jA T) a_ rfl cb_ aE_,tK_,fQ ay_ cC E! aS n!,tL_,(Value.ref ae!::e9!),tM_,f2 An u_ x!,tN_,.Call (.Name x p) [] [] pos,tO_,(by simpa using h1),tP_,.tup [jh_,jh_],tQ_,fT (f2 Ax gB_ (fC gF!)),tR_,([]:List Addr),tS_,Ba (Ac bC_ (Ac e4_ gC_)),tT_,λb z=>absurd z (r9 b),tU_,x.above y c (ML h),tV_,f2 Ah y! tU!,tW_,Co 4 (f1 Bp (Ac q! dU!)),tX_,bF (bV (aM aH aK E! (bE eV eW ab! gL!) t_)),tY_,W.fnOf name qual params body scope dV kV bo pm an af ct,tZ_,Co 7 (f1 Ds (Ac (f2 An I! (fC (.lst jj!))) (Ac (f1 Bp (Ac q! (Ac (f2 An u_ W_) Ag))) Ag))),t0_,Co 8 (fC (.lst [e4!,e4!,e4!,i5_,i5_,gF!,gF!,dU_,i8_,ca!,mY_,m2_])),t1_,Co 9 (f2 Ah bO! (f2 Bv P_ t1!)),t2_,Gg (fT (f2 Ax bk_ (fC e4!))) (Bl (Ba (Ac bk_ (Ac (f1 Ds (Ac I! nn_)) jl!)))) Ct,t3_,dH mG! λus s1 ⟨vs,H1,I1,r1,q1⟩=>L B s1 Z H1 vs us Q I1 r1 q1,t4_,λ_ _ _ _ _=>aZ (i:=0) (show(eG!:List Str).Nodup by decide+kernel) rfl b!,t5_,dB (aE ap! nj_),t6_,Co 10 (f1 Ds (Ac (f1 Ly ca_) (Ac (f1 Bp (Ac q! (Ac (f2 An u_ b9!) Ag))) Ag))),t7_,if v<0 then(nt!).toNat else min v.toNat n,t8_,if v<0 then max nt! 0 else min v (n:Int),t9_,((sIx n n hi:Nat):Int)]
def z'u:String:=z [ua!,Gg (Db (fT (f2 Ax bk_ (fC dU_))) (fT (f2 Ap jo_ ck_))) (Bl (Ba (Ac bk_ (Ac bi! (Ac jo_ (Ac (f2 An x! (f2 Bv t9! (f2 Do b8! (f2 Ah jo_ W_)))) Ag)))))) Ct,ub!,Gg (fT (f2 (Ve false) bk_ (fC (.tup [dU_,i8_])))) (Bl (Ba (Ac (fC i8_) (Ac bi! (Ac (f2 Bv t9! b9!) (Ac (f2 Do (f2 Bv (f2 Cj P_ (fC (.int 48))) (fC (.int 2000))) (fC (.int 1000))) Ag)))))) Ct,uc!,aR gQ_ a_ rfl (aE E! (aE t2! aN)) ay!,ud!,sIx items.size items.size hi - sIx items.size 0 lo,ue!,bE eV eW bl! aC,uf!,ue_==0&&(1:Int)==1&&ud!==de_,ug!,f2 An u_ (f2 Eh (fC (.int 7)) bi!),uh!,Co 8 (f2 Bv aT! aw_),ui!,Uy 5 bO! (f2 An (f2 An (Ma 5 bO!) x!) (f2 Bv (f2 Cj aT! aw_) aw_)),uj!,Co 9 (Oh (f1 Kn (Ac q! (Ac (f2 An ug! x!) (Ac M_ (Ac gQ! Ag)))))),uk!,bE nH nI bl! aC,ul!,Ao 3 (wl (Oh mB!)),um!,fT (f2 Kl M_ G!),un!,Ww (Xf 1 M_ y!),uo!,(r.drop nx_).take ny!,up!,wl (fC uo_),uq!,Cd s_ sQ! (wl (f2 Ax gB_ i1!)),ur!,fT (f2 Jx I! gU!),us!,bT cD dY rfl T.S8 dN (aE bl! aN),ut!,Ao 5 (wl (f2 An I! x!)),uu!,f2 Ah P_ bi!,uv!,call fc! (v::us),uw!,Cv (Db ut_ uv_),ux!,⟨z,H,I,ak,q⟩,uy!,(by rw[hj];simpa using ew),uz!,Ea P_ fd! As,uA!,λr s'=>r=w/\EP X B Z Q r s',uB!,Ao 3 (Bf 1 [1] nA! D! (Cv (fT jv!)) jd!),uC!,bM aF! sH ab! az! n!,uD!,KN _ _ (IB hb),uE!,upd H p (.lst (xs.set j v)),uF!,Ab h! (Ab s_ nC_),uG!,(by rw[hk];exact⟨_,I',q⟩),uI!,if a then 1 else 0,uJ!,Ab h! (Ab aS_ (Ab (wl (Mi (fT P_) e4_ iM!)) (Ab gD_ Af))),uK!,λw hw=>wU rx fx r fs w ns_,uL!,(show its.toArray.any gX_=its.any gX_ by simp),uM!,f2 Ah (f2 Ah I! aT!) G!,uN!,Au (Cv (fT uM_)) (Ao 6 (wl (f2 An aT! x!))) Bo,uO!,(by simp only[IF]<;>omega),uP!,aD bD! (aD bk! (aD cD_ aJ)),uQ!,bZ Q_ bG bj_ bD! t_,uR!,bC (i:=5) iX.nd rfl b! uQ!,uS!,(λ_ e=>nomatch e),uT!,Cd bl_ cb! (wl (f2 An uR_ uS_)),uU!,⟨o,e,ex.2.1⟩,uV!,f2 Ah gZ! W_,uW!,Cd bl_ cb! (Bf 1 [9] (Hf (Ei I!)) D! dZ! (Ux (Ab jd_ (Ab jd! (Ab (Iq (wl dS!) (w2 gA! jd_ s_)) Af))))),uX!,List.replicate k xs,uY!,List.replicate k its,uZ!,Ao 2 (Ak 1 Me aT_),u0!,Obj.mapSeq f,u1!,Mj (wT (Ip z_ (wl (Ba u0_)) nB_)),u2!,Bz (Ak 2 Wa mM!),u3!,(by rw[IF];omega),u4!,.cons ru .nil,u5!,.lst (xs++zs),u6!,Ci (w2 Nm (wl (fC (.lst [gr_,iL_]))) (w1 Rf (Ab nO! Af))),u7!,Ut (wT (w2 (λ_=>BG true) (Ak 2 g1_ d3!) iY_)) u6_,u8!,bT cD dY rfl T.S8 dN gP!,u9!,aM aH aK (sY (i:=1) b_ u8_ t_) aC t_]
def z'uu:String:=z [ua_,s.heap.IsSliceOf sl vl vu .none,ub_,Co 11 (f2 An (Hv 1 [] (Ei y!) D! a5_ (Ba gM_)) (Dw (Ac (Ba (Ac G! (Ac (f2 An x! (f2 Bv P_ gQ!)) Ag))) Ag))),uc_,Bl (Ba (Ac bk_ (Ac (f1 Ds (Ac (Aa 11) nn_)) Ag))),ud_,Str.ofString "__getitem__",ue_,((sIx items.size 0 lo:Nat):Int),uf_,aE (aR gR! a_ rfl (aE aK_ gR_) ay!) (aE cd! aN),ug_,Co 7 (f1 Bp (Ac q! (Ac ug! Ag))),uh_,Uy 4 bO! (f2 An (Ma 4 bO!) x!),ui_,Option Int->Hp->Prop,uj_,Pr 3 (Ba (Ac (f2 Ah (fC (.lst [H_,(.int 5),nw_])) bO!) (Ac (Ma 4 bO!) (Ac (Ma 5 bO!) (Ac bk_ Ag))))),uk_,s3.heap.objs.size,ul_,bE eV eW uk! aC,um_,fT (f2 BH (Ba (Ac (f2 Ah (Ma 1 jt_) W_) (Ac (f2 Ah (Ma 1 jt_) G!) Ag))) (Ba (Ac dX_ (Ac bC_ Ag)))),un_,JL (uC xs lo hi) hz,uo_,.tup [ca!,mY_],up_,wT (w2 bA_ (wl gB_) up!),uq_,f2 Ep aj! u_,ur_,f2 Ah (f2 Ah P_ I!) x!,us_,fT (f2 Ep ur_ y!),ut_,fT (f2 Ap M_ ck_),uu_,Ba (Ac M_ ca_),uv_,fT (f2 Ax uu! uu_),uw_,Ao 5 (wl (f2 An bi! x!)),ux_,Ac (Ba (Ac u_ ca_)) Ag,uy_,f2 An (Ea P_ As fd!) (Dw ux_),uz_,slot_list_getitem.lookup,uA_,(by rw[IF]<;>omega),uB_,Au (Cv (Cy (λρ=>((M_) ρ).bind Wg))) bQ_ Bo,uC_,(·.setIfInBounds j u),uD_,wl (fC (.tup [gr_,iL_])),uE_,Mj (wT (Ak 3 Mf (Ab h! iX_))),uF_,Bz (Ak 4 Go uF!),uG_,Ac na_ (Ac na! Ag),uH_,Ao 4 (Wf gW_ (wl (f2 Ax e4_ gs!))),uI_,if b then 1 else 0,uJ_,w2 Bs nH_ cb!,uK_,Cd uJ_ gD_ (wl a6_),uL_,f1 Bk (Ac I! Ag),uM_,f2 Ax uM! dX_,uN_,λh' c' kp e=>fin its r' hz h' c' kp e,uO_,f1 Bk (Ac a6_ Ag),uP_,Ac (f2 An y! (Ba a4_)) (Ac (f2 Ah nD! q!) (Ac (fC B_) Ag)),uQ_,Ao 8 (Bf 1 [2,3] (Hf (Eo uO_)) D! dZ! (wl (Ba uP_))),uR_,f2 An (Ea I! As ff!) bO!,uS_,Ea I! ff! As,uT_,⟨⟨o,e,ex.1⟩,λa e2=>?_⟩,uU_,Ea gZ! As c7_,uV_,Ao 9 (Bf 1 [2] (Hf (Eo a6_)) D! dZ! (wl (f2 An uU_ (Ba nL!)))),uW_,backTo ag ma!,uX_,Em gT_ m6_ (Em nC! Gs (Em jx! Gs No)),uY_,Ao 1 (Ph uX_),uZ_,wT (w2 gA! (wl (f2 Ah m5_ G!)) up!),u0_,Ac tl! (Ac (f2 Ah M_ x!) Ag),u1_,λ_ _ q=>HX _ q,u2_,f2 Ax cx_ u_,u3_,Ci (w2 Bs bl_ s_),u4_,Ao 2 (Ak 1 Qb ax!),u5_,gr.toArray.size,u6_,wT (w2 Ob (Ak 2 (Ja t) d3!) (Ak 2 Hu nC_)),u7_,Au (wT (w2 Ob (Ak 2 (Ta t) d3!) (Ak 2 Hg nC_))) bQ_ Bo,u8_,bE rY sF a8! aC,u9_,Bf 1 [3] (Ci (w2 Bs z_ gT_)) D! (Cv (fT jv!)) h!]
def z'v:String:=z [va!,Au (wT (w2 Ob (Yk (Ab (Ux (Ab aS_ (Ab (Ak 2 (Od t) d3!) Af))) Af)) u9_)) bQ_ Bo,vb!,Au (wT (w2 Ob va_ (w2 Bs (w2 Bs z_ jx!) aS_))) bQ_ Bo,vc!,eA (aO (hX T) a_ rfl bR_),vd!,Ac q! (Ac G! (Ac (f2 Bv (f1 Bp vc_) (fC mv_)) Ag)),ve!,Heap.SameBut a s.heap h',vf!,Bz (Ak 2 dT! (Ab z_ (Ab (w2 Nm (Bf 1 [] dc_ D! (Cv (fT (f2 Ax aj! (fC nw_)))) h!) (Bf 1 [] dc_ D! (Cv (fT (f2 Ep aj! (fC nw_)))) h!)) Af))),vg!,f1 Bp (Ac u_ (Ac (f2 An vf_ q!) Ag)),vh!,starEach [e] X.env,vi!,starEach [e,f] X.env,vj!,ns.map WData.int,vk!,Ao 5 (Hh t.B3 2 (Io t) (Ab (wl b9!) Af)),vl!,Ao 6 (Bf 1 [3] dc_ D! (Cv (fT vk_)) h!),vm!,Au (wT (w2 Ob (Ak 2 dT! (Ab da_ (Ab (wl bi!) Af))) (wl (f1 Bk gz!)))) bQ_ Bo,vn!,qB w_ (iP cD_ cD_ wP),vo!,Ak 2 (Jh t) vn_,vp!,f1 Bp (Ac q! (Ac (fC (.int 61)) Ag)),vq!,Ab z_ (Ab da_ (Ab e1_ Af)),vr!,fQ ay_ cC nr_ aS n!,vs!,wl (f1 Bk vr_),vt!,Au (Ut (wT (w2 Ob (Ak 3 (Oz t) vq!) (wl (f1 Bk vq_)))) (wT (w2 Ob vo! vs!))) bQ_ Bo,vu!,Iq (Ak 2 (Kc t) iX_) (Iq (Ak 2 (Kc t) (Ab da_ ax!)) (w2 gD! (Ak 2 gL_ (Ab da_ (Ab (Wz mM_ (wl b8!)) Af))) nQ!)),vv!,bU (gB T) a_ n_ eb_,vw!,Params->W.Frag,vx!,∀(w:World) (h:Heap),YP w h->(bS_).In h,vy!,IJ (f:=c!) w,vz!,Yb K x qual st f fd,vA!,K.lookup f=some ⟨oc,od,.func nX!,dw⟩,vB!,.inl (.inl (e _ _ h)),vC!,.inl (.inr ⟨o,e _ _ h⟩),vD!,λa ha b hb=>?_,vE!,λz=>f8.2.2 _ z _ d! rfl,vF!,ForInStep.yield ((name,a)::r),vG!,(by simpa using hk),vH!,At jP! a0 b0,vI!,λp hp=>hn p jO_,vJ!,gg.2.2 _ this _ d!,vK!,bZ Q_ bG vw_ u! t_,vL!,X.N[j]?=some x,vM!,(∀b,b≠f->b≠p->M' b=M b),vN!,(by rw[k8];simp),vO!,⟨?_,⟨_,_,_,_,(mup_ne h.ne).trans mup_same,mup_same,K'⟩,h.ne⟩,vP!,(u++n::v++bT_),vQ!,[.int a,.int b],vR!,[⟨tg,iter,db,0⟩],vS!,([]:List (Str×Value)),vT!,u'++[dl_]++v,vU!,λ_ _=>False,vV!,aZ (i:=3) nA.nd rfl aM!,vW!,⟨_,h.mem.mpr ai_,rfl⟩,vX!,eval c3_ X.env,vY!,X.env.kindOf y.1=some .cell\/X.env.kindOf y.1=some .free,vZ!,∀cl C am a8 fp,PE ch_ dz te,v0!,dH (al B s Z H _ I h) λv s1 h1=>dH h1 λvm s2 h2=>?_,v1!,⟨JP (JD hb hC),JP (JD hb hD)⟩,v2!,λb o hb e=>(bu.2 b hb).trans e,v3!,sY (i:=4) b_ cd_ t_,v4!,sY (i:=5) b_ cd_ t_,v5!,λx c h=>(v3_).2,v6!,∀a vs,Fj K H a vs->Fj K H' a vs,v7!,Am.map ht hl hd xs vs r,v8!,λ_ _ q=>e.seq q,v9!,bU (iO T) a_ n_ (aD gX! aJ)]
def z'vv:String:=z [va_,Bf 1 [0,3] (Hf (Eo b9!)) D! dZ! (Ak 3 (Lw t) (Ab s_ (Ab z_ aT_))),vb_,Aw (w2 (λ_=>BG false) (Ak 2 g1_ (Ab h! (Ab (wl (fC tP_)) Af))) nB_),vc_,Ac q! (Ac (fC mw!) Ag),vd_,Ao 1 (wl (f1 Kb vd!)),ve_,Ao 2 (Hh t.B3 2 (Io t) (Ab (wl aw_) Af)),vf_,fC (.int 30),vg_,Ao 4 (Ak 2 gL_ (Ab z_ (Ab (wl (f1 Vz gC_)) Af))),vh_,fT (Dy "list" P_),vi_,f2 Kl cx_ jD_,vj_,Au (Ut (Cv (Cy vh_)) (wT (w2 Ob a6! (Bf 1 [3] (Ci nQ!) D! (Cv (fT vi_)) h!)))) bQ_ Bo,vk_,f2 Jm cx_ jD_,vl_,pre_splitW vt,vm_,Ao 7 (Bf 1 [6] (Ci nQ!) D! (wT (w2 gA! h! s_)) h!),vn_,Ab z_ mS!,vo_,Au (Ut (wT (w2 Ob vo! (wl (f1 Bk jl!)))) (wT (w2 Ob (Ak 2 (Jh t) (Ab da_ c8_)) aK!))) bQ_ Bo,vp_,Ao 8 (wl (f2 Bv vp! gQ!)),vq_,Ac (Ea aT! As jF_) Ag,vr_,Ac (Ea aT! jF_ As) Ag,vs_,lR (fD (aR (mD T) a_ rfl cb_ aE_)),vt_,Au (Ut (wT (w2 Ob (Ak 2 (Si t) (Ab da_ c8_)) vs!)) (wT (w2 Ob (Ak 2 (Si t) vn_) aK!))) bQ_ Bo,vu_,aB (fQ nF nL ab! dM n!),vv_,(by rw[IP];exact hl),vw_,bI T.V2 T.V9 n_,vx_,(∀(s:Shared) (u:Value),BindsTo s fd jG_ [(x,u)]),vy_,IJ (f:=c!) z,vz_,∀(kV bo pm:Value) (an:a7!) (af ct:Value) (us:j!),au_=T_->bindArgs nX! de!=pure dd!,vA_,⟨h.no,h.nd⟩,vB_,⟨h.nd,G_,λa ha b hb=>by simp at hb;subst hb;exact λz=>h.no jL!⟩,vC_,⟨o.slots,e⟩,vD_,(by rw[P];simp[hm]),vE_,a9.2.2 a ha b hb,vF_,ForInStep (List fk_),vG_,(if(k==g5!)=true then _ else _)=_,vH_,bZ Q_ bG jI! u! t_,vI_,At jP_ b0 a0,vJ_,a9.2.2 _ this _ d!,vK_,pJ cells r _ x h,vL_,∀b∈fp,b<N!,vM_,bI T.V1 T.W8 n_,vN_,aO (pV T) a_ rfl bR_,vO_,ForInStep.yield ok,vP_,λ_ _ _ _ _=>aZ (i:=0) (show([ao!,an_]:List Str).Nodup by decide+kernel) rfl b!,vQ_,[.int a,.int b,.int c],vR_,([]:List Value),vS_,(λv z=>by cases z),vT_,IJ (f:=c!) this,vU_,(by rw[<-z];exact hq),vV_,I8.pin (b,o) su!,vW_,bK (sc:=Ad Mc) rfl l!,vX_,lR (fI rfl T.T2 aC),vY_,∀cl C am a8 fp,Py ch_ db tt,vZ_,Zq NL.length ix wi g tt te,v0_,aE aC (aE aC jY!),v1_,bE aQ bS ab! (bE rZ sA aC bP_),v2_,.inr (JL I2.sz hC),v3_,fq c (px x c h),v4_,λx c h=>(v3_).1,v5_,if x=n then[.int 0,.int 0,.int 0,.int 0]else W.num x,v6_,∀a kvs,Rd H a d0!->Rd H' a d0!,v7_,λ_ _ q=>bY e q,v8_,λ_ _ q=>b2h e q,v9_,⟨a,vs,rfl,h,r⟩]
def z'w:String:=z [wa!,nN (i:=2) (NL:=by!) (NF:=by_) (ix:=[0]) dZ.nd rfl b! rfl b_ l! (bK (sc:=Ad Eu) rfl l!) jU_ b_ rfl (eA hb_) (λ_ _ _ _ _=>aZ (i:=0) (show([b6_,V_]:List Str).Nodup by decide+kernel) rfl b!) R_ (λ_ _ _ _ _=>jF (fL (aO (oU T) a_ rfl (aD u! bR_)))) ce_,wb!,["check","part"],wc!,(show(wb!:List Str).Nodup by decide+kernel),wd!,T.W9 _ rfl rfl rfl rfl,we!,⟨v,h1,h2.mono x.g⟩,wf!,Z[i]?=some cj!,wg!,AA X.K own f,wh!,⟨H1,I1,q1⟩,wi!,∀Z G H Q ρ d,OR X.K own G H Z ρ->ft ρ=some d->(∀G' H',Ce G H G' H'->Q d H')->t Z H Q,wj!,(∀p,bb!∉W.rows),wk!,b3a ho ha.ok hb.ok,wl!,b9k J ha.ok hb.ok hs,wm!,b2s ho ha.ok hb.ok hm,wn!,⟨av b ek_,J⟩,wo!,⟨b2q h.ok⟩,wp!,b8j ha.ok hb.ok,wq!,c7d ha.ok hb.ok,wr!,⟨b9g h.ok⟩,ws!,λv G1 H1 s1 r1=>?_,wt!,k _ G1 H1 s1 Av.bl,wu!,c7f ha.ok hb.ok,wv!,a6j L.ok ha.ok hb.ok,ww!,bE eV eW (aR gQ_ a_ rfl (aE E! jY!) ay!) aC,wx!,s1.trans (Ce.laid s1.sub hp),wy!,b3o (wL T) a_ rfl jy!,wz!,wE L hg hm hv ha.ok hn be he ax,wA!,zR L hg hm hv ha.ok hn be he ax,wB!,⟨_,_,_,_,_,_,_,_,_,_,_,_,q1⟩,wC!,(by rw[show hc+(js.length+1)=hc+1+js.length by omega];simpa using h'),wD!,∀ρ ds,fs ρ=some ds->f_=n,wE!,(by rw[IT];omega),wF!,(en!).map λk=>z+aQ!,wG!,(by rw[KJ];decide),wH!,k _ G H aY_ Av.str,wI!,Az M1 a5 or_,wJ!,av _ fu_ fu_ fu_,wK!,⟨r,f,p,g1,?_,g3,g4,g5⟩,wL!,aB (bT cD dY rfl T.S8 dN (aE (cZ cd! (dU cd_) dW) aN)),wM!,λi j=>decide (0<=j)&&decide (j<=1000000)&&decide (gy_<2 ^ 64),wN!,[aN_,aM_,.int (k':Nat)],wO!,setT W i (U++(ou!).map eo!++v),wP!,.int (k0:Nat),wQ!,PO X hi (AB X.K own oh),wR!,a6i (Zh.or b7n b2d) ha.ok hl hh,wS!,(D.tup kg_,D.str ap_,true),wT!,setT W i (U++ox!::v),wU!,if i∈W.its then setT W i (wrT b ep! bo!)else W,wV!,λa z=>(by subst z;cases e2),wW!,(λxs H Q=>∃x n,xs=[x]/\BA K x H n/\Q d0_ H),wX!,K5 c (gi c L).1 (gi c L).2.1 (gi c L).2.2,wY!,mup_ne (nq c (f9 c ki!)),wZ!,mup_ne (nq c L),w0!,.builtin "all",w1!,i=f_->ab.stop i H',w2!,⟨es!,λhi=>by rw[IP,NG]at hi;exact PU hi.symm⟩,w3!,AV K 2 (Uh eW! (Uh (Og j) AW)),w4!,[bg!,aJ!,c5!],w5!,AA X.K [] ft,w6!,λx0 x1 x2 x3 x4=>(he x0 x1 x2 x3 x4).ok,w7!,λab G1 H1 x1 fw=>?_,w8!,DK X.K G0 F0 own σ f,w9!,DS X own bj st q1]
def z'ww:String:=z [wa_,Str.ofString "hidden",wb_,r.mono (iY h),wc_,.obj t.B4 X_,we_,w.sg x Y q hq,wf_,.inr (.inr ⟨eN!,rfl⟩),wg_,⟨λB s Z H Q I ⟨G,ρ,d,er,e,k⟩=>h B s Z H Q I og_⟩,wh_,mup_ne (IB p2),wi_,∀a p,(a,p)∈W.rows->rk p<rk a,wj_,λz=>r1 (q.mpr z),wk_,b3c ho ha.ok hb.ok hm,wl_,(by rw[z];exact j2),wm_,λx H'=>∃k,x=.bl k/\Q k H',wn_,⟨d,rfl,ok_⟩,wo_,⟨b8i h.ok⟩,wp_,⟨G1,ρ,d,dn_,e,λG2 H2 s2=>k G2 H2 dp!⟩,wq_,cutT [s] bo!,wr_,b9m ha.ok hb.ok,ws_,λv G2 H2 s2 r2=>k v G2 H2 dp! r2,wt_,((j7_).map c!)=_,wu_,k _ G1 H1 s1 Av.bl,wv_,dS h.ok hs.ok bz,ww_,(by rw[<-aI r1];exact eZ hl),wx_,s1.sub.free hp,wy_,λ_ _ _ _ _=>aZ (i:=0) (show([dp_]:List Str).Nodup by decide+kernel) rfl b!,wz_,⟨G,ρ,ds,er,e1,λvs G1 H1 s1 r1=>hd s1.sub r1 e' λv G2 H2 s2 r2=>k v G2 H2 dp! r2⟩,wA_,Yo X.K ps.length g,wB_,∀ρ ds,fs ρ=some ds->f_=T_,wC_,(aJ_).length=T_,wD_,(en!).map λk=>.tup hl!,wE_,λ_ _ _ _ _=>aZ (i:=0) (show([dp_,iI_]:List Str).Nodup by decide+kernel) rfl b!,wF_,aM aH aK ab! ap! t_,wG_,(U++(s,c,true)::v),wH_,(by rw[z];exact O.r5),wI_,aO (wG T) a_ rfl (aD E_ jM!),wJ_,∀i j H,Av K H bB! (gv i j),wK_,k _ G H aY_ (hg _ _ G),wL_,λ_ j=>decide (0<j)&&decide (j<1073741824),wM_,.bl (Rv i j),wN_,k v G H aY_ h2,wO_,⟨_,_,_,rfl⟩,wP_,PO X lo (AB X.K own ol),wQ_,.Subscript a nx! pos,wR_,λG3 H3 s3=>?_,wS_,s4.trans hm_,wT_,(by rw[hl,JF];exact JE _ z),wU_,[bH_,bH_,bH_,bH_],wV_,Az eq_ a4 er!,wW_,(λxs H Q=>∃p ys,xs=gY!/\oD_/\∀l,H l=none->Q jA_ jA!),wX_,λp hp=>k _ _ _ hm_ (cM fu! rr),wY_,K5 c (oF!).1 (oF!).2.1 (oF!).2.2,wZ_,if c=r1 then _ else _,w0_,(∀d,ds[i]?=some d->ab.go i H'/\∀x g9,ab.yld i H' x g9->∃sk,Ce G' H' sk g9/\Av K sk d x),w1_,St->Hp->Prop,w2_,c≠r1/\c≠f1/\c≠p1,w3_,⟨cS (by rw[<-aI ak];omega),?_⟩,w4_,((oJ_).mono x3.g).mono x4.g,w5_,(by rw[y];exact z),w6_,b3b cj cf j8 ij cap calm al.ok hg hi w6! hs,w7_,hg.chl_same w.rnd,w8_,[c5!,gp!,mo_],w9_,c1 r' am! am! am! am! am! am! am!]
def z'x:String:=z [xY!,Addr,xa!,swapsWith e (some dr!) pos.line X.env=pure false,xb!,a9w hN hi Y h.ok hs hf,xc!,⟨G',ρ,r,er.grow x',e2,k⟩,xd!,λj d q n=>?_,xe!,λz=>absurd z.symm cp,xf!,.nx (ρ.set i (some (.lst (ds++[d])))),xg!,(λ(r:Fl) (M':Mh)=>match r with|.rt d=>R d M'|.nx _=>R .non M'),xh!,Ab et! (Ab (wl f2) Af),xi!,ρ.set i (some (.lst (ds.set k d))),xj!,.Subscript bp_ ix p2,xk!,λiv G2 H2 x2 r2=>?_,xl!,Az M5 a3 (.dct oB_ (Gb k3 n e3)),xm!,[F_,et_,some a,eo_,none],xn!,kE w.rnd eh z,xo!,Yb K x qual st hA fd,xp!,hb af A outer s H E J,xq!,wC I xs ys vs n n' rr bv,xr!,aw r' bI! bI! bI! bI! bI!,xs!,(by rw[IF,IF,<-h3,<-h4,<-h1,<-h2];simpa using hl),xt!,A.units+Hy d<cLine,xu!,cs.map λ_=>true,xv!,(kw!).any λd=>Ed d aO!,xw!,⟨G,ρ,x,er,e1,λv G1 H1 s1 r1=>⟨G1,ρ,y,dn_,e2,λw G2 H2 s2 r2=>hg s2.sub hg_ r2 e3 λt G3 H3 s3 r3=>?_⟩⟩,xx!,(r2.mono s3.g).mono s4.g,xy!,.bl (if neg then !(ds.any λd=>Ed d x)else ds.any λd=>Ed d x),xz!,λB s Z H Q I h=>?_,xA!,mixKind X.prog X.w,xB!,c1d (k:=o0!) r1,xC!,List D->Option D,xD!,λi _=>fz_<=i,xE!,⟨(PQ.mp L).1,λv g9 hy=>?_⟩,xF!,λi h=>i<=fz_/\St' i h,xG!,λi h st=>VJ _ i h st,xH!,λy=>NameG y,xI!,⟨_,_,rfl,b1,b2,b3,b4⟩,xJ!,.lst (.str "root"::ys),xK!,λw G2 H2 s2 r2=>?_,xL!,s.heap.IsTuple tt xs,xP!,some (.tup [.int h',aM_,.int tm,.tup xF_]),xQ!,(by first|rfl|(simp only[firstArgMember];rfl)),xR!,wpAny_handled ?_,xS!,HU (wpAny_throw ?_),xT!,xs[k1]?=some x,xU!,⟨[],rfl,rfl⟩,xV!,(λfin s'=>∃v,fin=.done (.ret v)/\Q v s'),xZ!,cH g1 b8.extBut D.i1z,x0!,ip.extBut b8.extBut D.l1z,x1!,RU s9 λh3 v7 de=>?_,x2!,[none,some d0_,some qA!],x3!,cH (cH (cH g2 b8.extBut D.i2z) bi.extBut D.i12.symm) de.extBut D.TOi2.symm,x4!,de.extBut _ _ D.TOz.symm (bi.extBut _ _ D.i1z.symm lu),x5!,sSeq Ze (sSeq dq14 dq15),x6!,xs[k1]?=none\/ys[k2]?=none,x7!,[J!,as!,aB_,bq!,none,none,none,none,none,none,none,none],x8!,F.entry_zip_next,x9!,Cr its fD! none]
def z'xx:String:=z [xa_,.Assign [cN_] e pos,xb_,.If c b1 b2 pos,xc_,s.or.sub.trans yr,xd_,mup_ne (IB (nq a4 (f9 a4 (s3 a4 A4)))),xe_,(λb u e=>by rw[aW (hG e)];exact s.or.sub b u e),xf_,[e].length+(d9!).length+ff_<30,xg_,.Call (.Attribute bp_ "append" aj) [e] [] ag,xh_,dS h.ok fZ bz,xi_,DE X own ix fx,xj_,oQ hN yt hd bx,xk_,(x.trans x2).h _ _ h3,xl_,λi hi p e=>?_,xm_,Ce G0 F0 G1 H1,xn_,kH (rows:=W.rows) (i:=i),xo_,F.ok S (λvs H Q E h=>h.1) (λaf A outer s H vs Q E J h=>?_),xp_,⟨er,Ce.refl sub,aq!⟩,xq_,(by unfold Bh at h;exact h),xr_,(List.range (min us.toArray.size oV_)).all (λj=>Ed oU_ oV!)&&kr_==oV_,xs_,a5x I _ _ _ n n' r r',xt_,cs.map λ_=>D.bl true,xu_,⟨dx,dy,rx.mono sub,ry.mono sub,h.1.1,h.1.2,h.2,er_⟩,xv_,Cb g g' fa fb fc,xw_,⟨bb,rfl,?_⟩,xx_,nj.trans (s4.trans s5),xy_,L2.Key×Value,xz_,ha.ok B s Z H _ I h,xA_,(n::r).map D.int,xB_,Ok X.prog X.w X.K X.mg X.base k x ps g,xC_,λi _=>i<fz_,xD_,x.cps.toList.map λc=>.str ap_,xE_,∀i h,St' i h->∃o,h.get? it=some o/\∀v,o.data≠.cell v,xF_,[kx_,a,b,ep_],xG_,ys.map V.str,xH_,.str (Txt.join z ys),xI_,(if kz!<=big then Option.map D.lst (Fk _ _ _ du_ ops)else none)=_,xJ_,dS ha.ok fZ hs,xK_,s.heap.IsTupleIter jt tt n,xL_,Builtin.SmallTypes.nextOf (.ref jt),xO_,Obj.cls_mapFields ..,xP_,firstArgMember _ _,xQ_,[aB_,o4!,xP!,y],xR_,show A.in1.handled=none from hh,xS_,((ew_).extBut.push _).push _,xT_,ys[k2]?=some y,xU_,Builtin.«zip.__next__» ⟨[.ref z],[]⟩,xY_,LL gz d! λh1 lu b8=>?_,xZ_,a2v xZ! x0! gx λh2 VL bi=>HU ?_,x0_,b8.extBut _ _ D.TOz gO,x1_,letters.cps.toList.length,x2_,NJ s9 rfl ?_,x3_,((iy.extBut b8.extBut D.l2z).extBut bi.extBut D.l2i1).extBut de.extBut D.l2TO,x4_,[some d0_,bq!,some qA!],x5_,sSeq CS (sSeq AY x5!),x6_,b8.extBut _ _ c1 x,x7_,F.args_zip_next_1 _,x8_,Cr its fD! none++Cr its none fD!,x9_,Cr its none fD!]
def z'y:String:=z [yg!,Around,yh!,Value,ys!,World,yJ!,Program,yM!,Shared,yN!,W.Frag,ya!,DH s.heap l1,yb!,DD s.heap l1 l2,yc!,if f_<=1000 then _ else _,yd!,[fz!,.int base,.lst ops,.int most],ye!,⟨fO.2.2.2.1,fO.2.1,fO.2.2.2.2.1,fO.2.2.2.2.2⟩,yf!,⟨f2.2.2.2.1,f2.2.1,f2.2.2.2.2.1,f2.2.2.2.2.2⟩,yi!,λc o _ _ _ e _=>e,yj!,λc o L e n=>?_,yk!,(λc xs e=>by rw[pf_];exact e),yl!,λc ps e=>⟨#[],by rw[pf_,e];simp⟩,ym!,I1.hok c o e,yn!,X.mg "zip"=none,yo!,starEach aj_ X.env=dW!::starEach [b] X.env,yp!,.Call (.Name "zip" p) aj_ [] pos,yq!,⟨G,ρ,_,er,e1,λv G1 H1 s1 r1=>⟨G1,ρ,_,dn_,e2,xK!⟩⟩,yr!,(by unfold Db;rw[qT rfl (LZ _)];rfl),yt!,W.nsIn K mainGlobals x=some e5!,yu!,K.lookup f=some ⟨oc,od,.func yt_,dw⟩,yv!,∀(kV bo pm:Value) (an:a7!) (af ct:Value) (us:j!),au_=T_->bindArgs yt_ de!=pure dd!,yw!,a∈W.its/\Fs W binn/\¬Wn W.rows a binn,yx!,rows.map (AH w),yy!,(λz=>by simp at z),yz!,Sum.inr.inj z,yA!,D.tup cn!∉pre,yB!,pre++[.tup cn!],yC!,(n9!).resolve_right e,yD!,fs.map V.ref,yE!,fs.map Value.ref,yF!,(List.range m'.toNat).map λk=>.tup hl!,yG!,ft ρ=some true,yH!,QB hT OF.lookup ?_,yI!,[F_,et_,some d],yK!,Option Nat->Shared->Prop,yL!,s.heap.get? d=some o,yO!,(by simpa using bf),yP!,ks[i]?=some k',yQ!,k="undo"\/k="redo",yR!,λx Y=>h x cm!,yS!,.lst ((dx_).map kQ_),yT!,k="undo"\/k="redo",yU!,vE ho L hd (by simp[Yz]),yV!,∀a,k' (f a)=k a,yW!,(a.map Op.key).Nodup,yX!,Builtin.Dict.takeOut a u,yY!,λx=>Ax x aO!,yZ!,(show py!=true by decide+kernel),y0!,Pg .str os A,y1!,Pg .str os acc,y2!,⟨trivial,hR M ep y hp λb _=>rfl⟩,y3!,Az M p (.dct (At acc a V!) (Gb acc a ep)),y4!,λM' bd y' h1 h2=>hR M' bd y' y3_ h2,y5!,(by rw[br.length_eq];simp;omega),y6!,(by rw[cr,i1];rfl),y7!,(λx=>by simp),y8!,.ins C dx vs,y9!,He P w K G H a c]
def z'yy:String:=z [ya_,DF s.heap l1 l2,yb_,Nat.ble ds.length 1000=true,yc_,IL (Nat.le_of_ble_eq_true hl),yd_,⟨fz.2.2.2.1,fz.2.1,fz.2.2.2.2.1,fz.2.2.2.2.2⟩,ye_,⟨f1.2.2.2.1,f1.2.1,f1.2.2.2.2.1,f1.2.2.2.2.2⟩,yf_,("cut"==k||"set"==k),yg_,.tup [ky!,item,.int (m0 / 12%4),.int (m0 / 48%2000 - 1000)],yh_,gG (g:=Ve false) (x:=.str k) rfl rfl (in2 k "cut" "set"),yi_,λc o _ _ _ e _=>vC_,yj_,λc o _ e=>⟨o,e⟩,yk_,(λc o u e=>by rw[pf_];exact e),yl_,a6t rfl rfl e1,ym_,(λd q=>by rw[pg_];exact q),yn_,bootBuiltins "zip"=some o9!,yo_,(backTo pos (starEach [b] X.env)).any c!=false,yp_,(by simpa using h2),yq_,(λx y H Q=>Sq (λi j=>.bl mU_) x y H Q\/∃i j,x=.str i/\y=.str j/\Q wM_ H),yr_,Fe K mg x st ps,yt_,W.fnOf x x jJ! bT! bE! .none kV bo pm an af ct,yu_,W.codeIn K af x=true,yv_,a∈W.its/\Fs W b/\¬Wn W.rows a b,yw_,wrT b hG_ as_,yx_,(Sum.inr r.1:L2.Key)=Sum.inr y,yy_,[aN_,aM_,.int k],yz_,(ou!).map eo!,yA_,⟨rfl,rfl,rfl⟩,yB_,Gi W pm_ rows',yC_,hg.winv w.inv L.1 L.2.1 L.2.2,yD_,setT W a yw_,yE_,(show v=.none from Y),yF_,λv hv q hq=>?_,yG_,ft ρ=some false,yH_,Mo ks k=some j,yI_,Ab et! (Ab (wl f2) (Ab (wl f3) (Ab (wl f4) Af))),yK_,On P w s.heap es ks,yL_,o.data=.dict es ep,yM_,dictWalkPlain d u dx! es kO_,yO_,λe=>hh (by rw[q3,e];simp),yP_,al=none/\rest.find? dw_=Mo ks k,yQ_,(by rw[<-e];exact q1),yR_,λ_ K hK=>hK,yS_,qS (s:=ez!) hu x hk ho hd ?_,yT_,dictSet a u v,yU_,.tup [kR_,hL!],yV_,MV (s:=ez!) ho hd ?_,yW_,es.eraseIdx j,yX_,(by simpa using ap),yY_,(show px_=true by decide+kernel),yZ_,Ph (Em cy_ cy_ No),y0_,Pg pA! os hc,y1_,.nx [R!,ag_,y'],y2_,((Ah o.v bh!).bind λx=>Ah x a5!)=_,y3_,(by unfold Pg;rw[hu];exact h1),y4_,λo ho=>hd o (br.mem_iff.mp ho),y5_,λM' ep y h1 h2=>hR p M' ep hp h1 λb hb=>(pC!).trans pC_,y6_,(∀b,b≠q->M' b=M b),y7_,[R!,ag_,br!,J_,z],y8_,(pE_).getD .non,y9_,MR P w K M1 G1 H1]
def z'z:String:=z [za!,[dA!,none,none,none,none],zb!,⟨?_,h2.mono x.g ?_⟩,zc!,MR P w K M' G' H',zd!,D->Mh->Prop,ze!,Zl X.prog X.w X.K own f,zf!,∀Z G H Q ρ M R,Tf X.prog X.w X.K own G H Z ρ M->ft ρ M R->(∀d M' G' H',R d M'->XM M G H M' G' H'->MR X.prog X.w X.K M' G' H'->Q d H')->t Z H Q,zg!,.obj t.B4 [],zh!,⟨by rw[IR];exact b2p,G_⟩,zi!,Tf X.prog X.w X.K own G H Z ρ M,zj!,mup_ne (IB j3),zk!,(by rw[SO,qz];simp),zl!,k _ M1 G1 H1 r1 x1 m1,zm!,λd M2 v G2 H2 r2 x2 m2 q2=>k d M2 v G2 H2 r2 cp! m2 q2,zn!,.obj t.B4 hS!,zo!,x1.sub.free hp,zp!,⟨h1,h2.mono (Bj.refl G) (aW hb)⟩,zq!,.dct pD_ (Gb kvs d ep),zr!,kget kvs d=some x,zs!,.builtin "dict.get",zt!,Str×NameKind,zu!,a4p I h1 D' bu h4 ?_,zv!,RC (HU ⟨_,rfl,q3⟩),zw!,(if root=binn then _ else(if binn=binn then _ else _))=_,zx!,f2 Ep u_ y!,zy!,(∃TV,Uw W' TV),zz!,h5 q (by rw[ow];simp) j2,zA!,λy hy z=>?_,zB!,∀c,rl c≠.oth->M' c=M c,zC!,⟨r',f',p',v1,v2.keep (k _ bI!) (k _ cP!) (k _ cP_),v3,v4,v5⟩,zD!,(ops.map Op.nm).Nodup,zE!,⟨ys,z,rfl⟩,zF!,Ce.laid sub hl,zG!,hp.mem_iff.mp Y,zH!,(k6_).nodup_iff.mpr nn,zI!,Addr×List aC!×Nat,zJ!,Cd cz_ s_ iT_,zK!,.Attribute o "get" aj,zL!,⟨yv,q2,ry⟩,zM!,hb.run I2 zL_ r2 λz M3 zv G3 H3 jv s3 r3 x3 m3 q3 I3 rz=>ON ?_,zN!,⟨yv,q2.mono x3.g,ry⟩,zO!,acc.map Op.v,zP!,dE s.heap.objs.size [] 0,zQ!,[dA!,none,none,none],zR!,MP X own pos keys jw fp,zS!,BEq.comm (a:=Str.ofString "undo"),zT!,Az M c (.dct (acc++kvs) (n+aC_)),zU!,Gb acc u.2 ep,zV!,[aa_,.lst dX!],zW!,(by rw[IT,LQ];omega),zX!,λj hj p e=>?_,zY!,λz=>Ax z x,zZ!,∀q∈rs,Sd q.1/\Sd q.2,z0!,(match rs[k]? with|some q=>!decide (q.2=p)|none=>false),z1!,Bk [.lst eF!]=_,z2!,(f1 Bk gz_ b3_).bind (λz=>Jx eD! z)=_,z3!,h2.ok M0 G0 F0,z4!,[K!,M!,cM!,dt_,h0_,h1!,y],z5!,⟨G',ρ,M',R,sr.grow x m,r,k1,k2⟩,z6!,(by rw[cond,IN z]),z7!,Vk M w rl W wt wn qa,z8!,sr.grow x1 m1,z9!,λb _ J=>z8_]
def z'zz:String:=z [za_,(by rw[hM];simp),zb_,(by simp[W0]at h),zc_,λi p h=>zb_,zd_,List D->Mh->Prop,ze_,⟨λB s Z H Q I ⟨G,ρ,M,R,st,e,k⟩=>h B s Z H Q I pH!⟩,zf_,⟨_,by assumption,h⟩,zg_,Az M o zg!,zh_,Az zg_ a1 C_,zi_,.dct kX! (pJ!).length,zj_,⟨_,rfl,k _ M' G' H' r' x' m'⟩,zk_,⟨G1,ρ,M1,R,kY_,r1,λd M2 G2 H2 r2 x2 m2=>k d M2 G2 H2 r2 cp! m2⟩,zl_,.dct kZ! (pK_).length,zm_,k _ M1 _ G1 H1 r1 x1 m1 Av.bl,zn_,x1.trans (.ext pL_) m1,zo_,Bn fn_ (.fn a4) pM!,zp_,λh1 h2 z q=>?_,zq_,∀ar s',Inv X B Z k1_ s'->He X.prog X.w X.K G k1_ a zq!->Q () s',zr_,⟨_,rfl,KF h⟩,zs_,⟨o,rfl,h ho⟩,zt_,Builtin.Dict.keyAndDefault,zu_,LF fin (λac s' ⟨e1,o,q1,q2,q3⟩=>?_) λ_ _ z=>z,zv_,if root=root then _ else _,zw_,uB (A:=X.A) a! I m sub e ⟨_,r,rx⟩ hk λs' I'=>HU ⟨.bl _,H,I',rfl,q⟩,zx_,(∀x∈os,x.nm∉pre),zy_,[R!,F_,br!,some x.v,z],zz_,(show hc+20*(os.length+1)=hc+20+20*os.length by omega),zA_,(by rw[show Op.nm x=Op.nm y from z.symm];exact IJ hy),zB_,Sk X.prog X.w X.K r g,zC_,x1.trans k6! m1,zD_,(∃pre,Uw W' pre),zE_,Cd mJ_ s_ a6!,zF_,[dA!,F_,br!,none,none],zG_,(λx _=>by simp),zH_,(by rw[e3,e1];exact hb),zI_,Az M2 q.1 (.lst (q.2++[v])),zJ_,((j+1:Nat):Int),zK_,OT (MJ (ha.run I1 fT! r1 λy M2 yv G2 H2 iv s2 r2 x2 m2 q2 I2 ry=>ON ?_)),zL_,(fT!).grow x2 m2,zM_,(b1_).mono x3.g,zN_,⟨zv,q3,rz⟩,zO_,.int (cT!:Nat),zP_,List aC!->Mh->Prop,zQ_,[dA!,hY!,none,none],zR_,PUnit->Shared->Prop,zS_,BEq.comm (a:=Str.ofString "redo"),zT_,At acc u.2 fK!,zU_,ForInStep PUnit,zV_,if _ then _ else lb!,zW_,DN X.prog X.w X.K M0 G0 F0 own σ f,zX_,decide (q.2=x),zY_,Ce G ld! G' H',zZ_,λb o e hb=>?_,z0_,IA (λJ=>by rw[(s.root J).2]at e;cases e),z1_,.bl (!decide ((fV_).2=p)),z2_,MS X own bj st q1,z3_,((k+1:Nat):Int),z4_,((List.range' k m)).map λj=>D.int pT!,z5_,ifT (by rw[cond,JC z]) ?_,z6_,.inr ⟨j,v!,h2,h3⟩,z7_,(z8!).grow x2 m2,z8_,⟨aw b ek_,J⟩,z9_,(by rw[O.rn];simp)]
end
open Lean in
local macro_rules|`($s:ident)=>match s.getId with|.str .anonymous t=>let c:=t.back;if c=='!'||c=='_' then match (let b:=c=='!';if t.length<3 then if b then z'0 else z'00 else match t.front with|'a'=>if b then z'a else z'aa|'b'=>if b then z'b else z'bb|'c'=>if b then z'c else z'cc|'d'=>if b then z'd else z'dd|'e'=>if b then z'e else z'ee|'f'=>if b then z'f else z'ff|'g'=>if b then z'g else z'gg|'h'=>if b then z'h else z'hh|'i'=>if b then z'i else z'ii|'j'=>if b then z'j else z'jj|'k'=>if b then z'k else z'kk|'l'=>if b then z'l else z'll|'m'=>if b then z'm else z'mm|'n'=>if b then z'n else z'nn|'o'=>if b then z'o else z'oo|'p'=>if b then z'p else z'pp|'q'=>if b then z'q else z'qq|'r'=>if b then z'r else z'rr|'s'=>if b then z's else z'ss|'t'=>if b then z't else z'tt|'u'=>if b then z'u else z'uu|'v'=>if b then z'v else z'vv|'w'=>if b then z'w else z'ww|'x'=>if b then z'x else z'xx|'y'=>if b then z'y else z'yy|'z'=>if b then z'z else z'zz|_=>if b then z'0 else z'00).splitOn ("\r"++t++"\r") with|[_,f]=>do return z'Z (.fromRef (<-getRef)) f|_=>Macro.throwUnsupported else Macro.throwUnsupported|_=>Macro.throwUnsupported
open Lean in
local macro_rules|`(tactic|push_cast)=>`(tactic|show"pc!")|`(tactic|push_cast[$x,*])=>match z't't.splitOn "\rpc!\r" with|[_,f]=>do let s:=(z'Z (.fromRef (<-getRef)) f)[1][1][0][0][0];return s.setArg 4 (s[4].setArg 1 (mkNullNode (s[4][1].getArgs.push (mkAtom ",")++x.elemsAndSeps)))|_=>Macro.throwUnsupported
open Lean in
local macro_rules|`(tactic|show$s:str)=>match z't't.splitOn ("\r"++s.getString++"\r") with|[_,f]=>do let q:=z'Z (.fromRef (<-getRef)) f;let q:TSyntax ``Lean.Parser.Tactic.tacticSeq:=⟨q[1][1]⟩;`(tactic|($q))|_=>Macro.throwUnsupported
set_option hygiene true
open Lean in
def z'N:Nat->Syntax->Syntax
|n+1,.node _ k a=>.node .none k (a.map (z'N n))
|_,.atom _ v=>.atom .none v
|_,.ident _ r n p=>.ident .none r n p
|_,x=>x
open Lean in
local macro_rules(kind:=Lean.Parser.Command.declaration)|x=>if x.getPos?.isNone||x[1].isOfKind ``Parser.Command.theorem then Macro.throwUnsupported else let k:=z'N 9999 x[1];let u:=match k[1][0].getId with|.str _ s=>s.front.isUpper|_=>false;match k.isOfKind ``Parser.Command.definition,(x[0].reprint.getD "").trimAscii.toString,u with|true,"",false=>do return z'N 9999 (<-`(theorem $(⟨k[1]⟩):declId $(⟨.node .none ``Parser.Command.declSig #[k[2][0],k[2][1][0]]⟩):declSig $(⟨k[3]⟩):declVal))|true,"nonrec",_|true,"",_=>do return z'N 9999 (<-`(noncomputable def $(⟨k[1]⟩):declId $(⟨k[2]⟩):optDeclSig $(⟨k[3]⟩):declVal))|_,_,_=>return z'N 9999 x
open Lean in
local macro_rules|`(universe $x*)=>do let p:=`PySem.Challenge;let c:=p.str "cw_manyhands_k13_given_holds";return mkNullNode (<-(p.str "pw_manyhands_k13_given"::x.toList.map (λi=>c.str i.getId.toString)++(List.range 824).map λn=>c.str s!"o_{n+43}").toArray.mapM λn=>do return z'N 99 (<-`(noncomputable def $(mkIdent (PySem.W.Fast.stemOf n).1):ident:=0)))
universe env_41 heap_39 heap_46 heap_867 sts_109 sts_152 sts_217 sts_247 sts_298 sts_49 sts_500 sts_537 sts_595 sts_64 sts_682 sts_769 sts_79 sts_850 sts_94 tree_108 tree_151 tree_214 tree_246 tree_297 tree_414 tree_47 tree_496 tree_536 tree_594 tree_63 tree_681 tree_768 tree_78 tree_849 tree_866 tree_93 view_39
local macro_rules|`(tactic|omega)=>`(tactic|first|lia|omega +splitDisjunctions)
theorem z'Hd{G:Prop}(h:∀g:Prop,(G->g)->g):G:=h G λx=>x
local macro_rules|`(tactic|obtain $p:rcasesPatMed:=$e:term)=>do let s:=p.raw.reprint.getD "";if (s.splitOn ",").length>2+(s.splitOn "rfl").length then `(tactic|first|(refine z'Hd λg k=>?_;rcases $e:term with $p:rcasesPatMed<;>refine k ?_<;>clear g k)|rcases $e:term with $p:rcasesPatMed) else `(tactic|rcases $e:term with $p:rcasesPatMed)
noncomputable section
namespace L2
open PySem PySem.Spec PyProof.Rows
abbrev Key:=Sum Int Str
def Rg:Key->Value->Bool
 |.inl k,v=>Value.isInt k v
 |.inr x,v=>Value.isStrOf x v
def CN(w:ys!):Key->Int
 |.inl k=>hashInt k
 |.inr x=>hashStr w x
def bO:∀{k:Key} {v:yh!},Rg k v=true->(∃i t,k=Sum.inl i/\v=Value.int i t)\/(∃x t,k=Sum.inr x/\v=Value.str x t)
 |.inl i,v,h=>by
  obtain⟨t,e⟩:=Value.isInt_shape (k:=i) (v:=v) h;exact .inl ⟨i,t,rfl,e⟩
 |.inr x,v,h=>by
  obtain⟨t,e⟩:=Value.isStrOf_shape (x:=x) (v:=v) h;exact .inr ⟨x,t,rfl,e⟩
def a0o(i:Int)(t:Tok):Rg (.inl i) dH_=true:=by simp[Rg,Value.isInt]
def sP(x:Str)(t:Tok):Rg (.inr x) lJ_=true:=by simp[Rg,Value.isStrOf]
def c9t(a b:Int):decide (lI_=Sum.inl b)=f8_:=by
 by_cases e:a=b
 .subst e;simp
 .have h:¬lI_=Sum.inl b:=λq=>e (Sum.inl.inj q);rw[IN h];exact(KO.mpr e).symm
def c9q(a b:Str):decide (lK!=Sum.inr b)=decide (a=b):=by
 by_cases e:a=b
 .subst e;simp
 .have h:¬lK!=Sum.inr b:=λq=>e (Sum.inr.inj q);rw[IN h,IN e]
def c9s(a:Int)(b:Str):decide (lI_=Sum.inr b)=false:=IN qY!
def c9r(a:Str)(b:Int):decide (lK!=Sum.inl b)=false:=IN qY!
nonrec def mixKind(prog:yJ!)(w:ys!):PySem.KeyKind prog w Key where
 is:=Rg
 hash:=CN w
 inj:=λv a b ha hb=>by
  obtain⟨i,t,rfl,rfl⟩|⟨x,t,rfl,rfl⟩:=bO ha
  .obtain⟨j,u,rfl,e⟩|⟨y,u,rfl,e⟩:=bO hb
   .injection e with e1 _;rw[e1]
   .exact lQ!
  .obtain⟨j,u,rfl,e⟩|⟨y,u,rfl,e⟩:=bO hb
   .exact lQ!
   .injection e with e1 _;rw[e1]
 byValue:=λk v h=>by
  obtain⟨i,t,rfl,rfl⟩|⟨x,t,rfl,rfl⟩:=bO h<;>rfl
 pyHash:=λhv h=>by
  obtain⟨i,t,rfl,rfl⟩|⟨x,t,rfl,rfl⟩:=bO hv
  .exact wpAny_pyHash_int h
  .exact wpAny_pyHash_str h
 eqBool:=λhu hv h=>by
  obtain⟨i,t,rfl,rfl⟩|⟨x,t,rfl,rfl⟩:=bO hu
  .obtain⟨j,u,rfl,rfl⟩|⟨y,u,rfl,rfl⟩:=bO hv
   .rw[c9t]at h;exact wpAny_eqBool_int h
   .rw[c9s]at h;exact SeqAt.EqAt.int_str i t y u _ _ _ _ h
  .obtain⟨j,u,rfl,rfl⟩|⟨y,u,rfl,rfl⟩:=bO hv
   .rw[c9r]at h;exact SeqAt.EqAt.str_int x t j u _ _ _ _ h
   .rw[c9q]at h;exact wpAny_eqBool_str h
 «strs»:=λk x t v h=>by
  obtain⟨i,u,rfl,e⟩|⟨y,u,rfl,e⟩:=bO h
  .exact lQ!
  .injection e with e1 _
   subst e1;cases v<;>rfl
def a6w(prog:yJ!)(w:ys!)(i:Int)(t:Tok):(q2!).is (.inl i) dH_=true:=a0o i t
def mG(prog:yJ!)(w:ys!)(x:Str)(t:Tok):(q2!).is (.inr x) lJ_=true:=sP x t
end L2
namespace L2
open PySem PySem.Spec PyProof.Rows
inductive V where
 |non|bl (b:Bool)|int (i:Int)|str (x:Str)|byt (b:Array UInt8)|flt (b:UInt64)|ref (a:xY!)|ty (n:String)
 deriving DecidableEq
def Bq:V->Value->Prop
 |.non,u=>u=dI!
 |.bl b,u=>u=Value.bool b
 |.int i,u=>∃t,u=Value.int i t
 |.str x,u=>∃t,u=Value.str x t
 |.byt b,u=>∃t,u=Value.bytes b t
 |.flt b,u=>∃t,u=Value.float b t
 |.ref a,u=>u=Value.ref a
 |.ty n,u=>u=Value.type n
abbrev Be:List V->List Value->Prop:=Paired Bq
def Be.length{xs:m_}{us:j!}(r:in!):i!=au_:=NR r
def Be.get:∀{xs:m_} {us:j!} {i:Nat} {x:V},Be xs us->xs[i]?=some x->∃u,us[i]?=some u/\Bq x u
 |_,_,_,_,.nil,e=>by simp at e
 |_,_,0,_,.cons r _,e=>by simp at e;subst e;exact lL_
 |_,_,i+1,x,.cons _ t,e=>by
  obtain⟨u,h1,h2⟩:=Be.get (i:=i) (x:=x) t cX_;exact qS_
def Be.set{x:V}{u:yh!}(r:Bq x u):∀{xs:m_} {us:j!} (i:Nat),Be xs us->Be (xs.set i x) (us.set i u)
 |_,_,_,.nil=>.nil
 |_,_,0,.cons _ t=>.cons r t
 |_,_,i+1,.cons q t=>.cons q (Be.set r i t)
def Be.append:∀{xs ys:m_} {us ws:j!},Be xs us->Be ys ws->Be eL! (us++ws)
 |_,_,_,_,.nil,s=>s
 |_,_,_,_,.cons r t,s=>.cons r (Be.append t s)
def Be.take:∀{xs:m_} {us:j!} (n:Nat),Be xs us->Be (xs.take n) (us.take n)
 |_,_,0,_=>.nil
 |_,_,_+1,.nil=>.nil
 |_,_,n+1,.cons r t=>.cons r (Be.take n t)
def Be.drop:∀{xs:m_} {us:j!} (n:Nat),Be xs us->Be (xs.drop n) (us.drop n)
 |_,_,0,r=>r
 |_,_,_+1,.nil=>.nil
 |_,_,n+1,.cons _ t=>Be.drop n t
def Oj:Option V->Option Value->Prop
 |some v,some u=>Bq v u
 |none,none=>True
 |_,_=>False
def KV{κ:Type}:List (κ×V)->List lN_->Prop:=Paired λ(p:κ×V) (q:κ×Value)=>p.1=q.1/\Bq p.2 q.2
nonrec def kV:Key->V
 |.inl i=>.int i
 |.inr x=>.str x
inductive HO where
 |lst (xs:m_)
 |tup (xs:m_)
 |dK (kvs:List (Key×V))|dT (kvs:ij_)
 |set (S:ik!) (n:Nat)
 |ins (C dx:xY!) (fs:eM!)
 |own (x:xY!)
 |xd (fs:eM!)
 |met (f x:xY!)
 |rng (lo hi:Int)
 |frz (o:Obj) (u:HO)
 |tbl (ps:O!)
 |ext (φ:Heap->Prop)
abbrev Hp:=Addr->Option HO
nonrec def upd(H:Hp)(a:xY!)(o:HO):Hp:=λb=>if b=a then some o else H b
def bW{H:Hp}{a:xY!}{o:HO}:upd H a o a=some o:=by unfold upd;rw[l_]
def aW{H:Hp}{a b:xY!}{o:HO}(h:b≠a):upd H a o b=H b:=by unfold upd;rw[IA h]
def cL{H:Hp}{a b:xY!}{o:HO}(h:H a=some o)(h':H b=none):a≠b:=by intro e;subst e;rw[h]at h';cases h'
section
variable(P:yJ!)(w:ys!)
def Fd(H:Hp)(h:Heap)(a:xY!):HO->Prop
 |.lst xs=>i!<=sizeLine/\∃(its:j!) (n:Nat),Be xs its/\h.get? a=some {cls:=.type "list",data:=.seq its.toArray n}
 |.tup xs=>i!<=sizeLine/\∃its:List Value,Be xs its/\IsTup h a be!
 |.dK kvs=>aC_<=sizeLine/\dJ!=false/\∃vs,KV kvs vs/\h.DictOf bu! a vs
 |.dT kvs=>aC_<=sizeLine/\dJ!=false/\∃xs:List lO!,
   Paired (λ(p:List Key×V) (q:List Key×Addr×Value)=>p.1=q.1/\H q.2.1=some qV_/\Bq p.2 q.2.2) kvs xs/\
   ∃o es ep,h.get? a=some o/\ik_/\o.data=.dict es ep/\es.toList=xs.map (entryOfKey gb!)/\(xs.map c!).Nodup
 |.set S n=>h.SetOf (intKind P w) a S n
 |.ins C dx fs=>H dx=some gb_/\bu_<=1000/\dx≠a/\h.get? a=some lP!/\
   ∃mA,h.Ns1 dx mA/\qX!/\PySem.Within mA lP_
 |.own _=>∃o,h.get? a=some o
 |.xd fs=>∃mA,h.Ns1 a mA/\∀f,Oj (fs.lookup f) (mA f)
 |.rng lo hi=>∃t u v,h.get? a=some {cls:=.type "range",data:=.fields #[.int lo t,.int hi u,.int 1 v]}
 |.frz o u=>h.get? a=some o/\Fd H h a u
 |.tbl ps=>h.get? a=some {cls:=.none,data:=.fields ps}
 |.met f x=>h.get? a=some (W.methodObj ai! gc!)
 |.ext φ=>φ h/\(∃o,h.get? a=some o)/\∀h1 h2:Heap,φ h1->(∀o,h1.get? a=some o->h2.get? a=some o)->φ h2
def Ol(H:Hp)(h:Heap):Prop:=∀a o,H a=some o->Fd P w H h a o
end
section
variable{P:yJ!}{w:ys!}{H H':Hp}{h h':Heap}{a:xY!}{o:HO}
def Fd.lt(x:q0!):a<cY_:=by
 cases o with
 |lst xs=>obtain⟨_,_,_,_,e⟩:=x;exact JB e
 |tup xs=>obtain⟨_,_,_,p⟩:=x;exact p.lt
 |dK kvs=>obtain⟨_,_,_,_,o,_,_,e,_⟩:=x;exact JB e
 |dT kvs=>obtain⟨_,_,_,_,o,_,_,e,_⟩:=x;exact JB e
 |set S n=>obtain⟨o,_,_,_,e,_⟩:=x;exact JB e
 |ins C dx fs=>obtain⟨_,_,_,e,_⟩:=x;exact JB e
 |own y=>obtain⟨_,e⟩:=x;exact JB e
 |xd fs=>obtain⟨_,⟨_,_,_,e,_⟩,_⟩:=x;exact JB e
 |rng lo hi=>obtain⟨_,_,_,e⟩:=x;exact JB e
 |frz ob u=>obtain⟨e,_⟩:=x;exact JB e
 |tbl ps=>exact JB qZ!
 |met f y=>exact JB qZ!
 |ext φ=>obtain⟨_,⟨_,e⟩,_⟩:=x;exact JB e
def Paired.mapP{α β:Type}{F G:cZ!}:∀{l₁:O_} {l₂:dJ_},Paired F l₁ l₂->(∀a b,F a b->G a b)->Paired G l₁ l₂
 |_,_,.nil,_=>.nil
 |_,_,.cons r t,f=>.cons (f _ _ r) (Paired.mapP t f)
def Fd.stay(x:q0!)(k:∀b u,(b=a\/H b=some gb_)->h.get? b=some u->h'.get? b=some u)
  (ho:∀b,H b=some gb_->H' b=some gb_)(ht:q0_):Fd P w H' h' a o:=by
 induction o with
 |lst xs=>obtain⟨z,its,n,r,e⟩:=x;exact⟨z,its,n,r,bK_⟩
 |tup xs=>obtain⟨z,its,r,ob,e,c⟩:=x;exact⟨z,its,r,ob,bK_,c⟩
 |dK kvs=>obtain⟨z,y,vs,r,ob,es,ep,e,c⟩:=x;exact⟨z,y,vs,r,ob,es,ep,bK_,c⟩
 |dT kvs=>
  obtain⟨z,y,xs,r,ob,es,ep,e,c⟩:=x;exact⟨z,y,xs,Paired.mapP r λp q z=>⟨z.1,ht _ _ z.2.1,z.2.2⟩,ob,es,ep,bK_,c⟩
 |set S n=>obtain⟨ob,es,ep,t,e,c⟩:=x;exact⟨ob,es,ep,t,bK_,c⟩
 |ins C dx fs=>
  obtain⟨d,z,ne,e,mA,⟨od,es,ep,e2,c⟩,r⟩:=x;exact⟨ho _ d,z,ne,bK_,mA,⟨od,es,ep,k _ _ (.inr d) e2,c⟩,r⟩
 |own y=>obtain⟨ob,e⟩:=x;exact⟨ob,bK_⟩
 |xd fs=>obtain⟨mA,⟨od,es,ep,e,c⟩,r⟩:=x;exact⟨mA,⟨od,es,ep,bK_,c⟩,r⟩
 |rng lo hi=>obtain⟨t,u,v,e⟩:=x;exact⟨t,u,v,bK_⟩
 |frz ob u ih=>obtain⟨e,q⟩:=x;exact⟨bK_,ih q⟩
 |tbl ps=>
  have e:h.get? a=some {cls:=.none,data:=.fields ps}:=x;show h'.get? a=some {cls:=.none,data:=.fields ps};exact k a _ ai_ e
 |met f y=>
  have e:h.get? a=some q3_:=x;show h'.get? a=some q3_;exact k a _ ai_ e
 |ext φ=>obtain⟨p,⟨o,e⟩,st⟩:=x;exact⟨st _ _ p λo q=>k _ _ ai_ q,⟨o,bK_⟩,st⟩
def Ol.lt(x:bv!)(e:H a=some o):a<cY_:=(x a o e).lt
def Ol.fresh(x:bv!)(e:cY_<=a):H a=none:=by
 cases q:H a with
 |none=>rfl
 |some u=>exact absurd (JD (x.lt q) e) dK!
def Ol.kept(x:bv!)(k:im_):Ol P w H h':=λa o e=>
 (x a o e).stay (λb u _ q=>k b u q) lS_ λ_ _ q=>q
def Ol.laid(x:bv!)(k:im_)(hp:cY_<=a)(new:Fd P w cZ_ h' a o):Ol P w cZ_ h':=λb u e=>by
 have hn:=x.fresh hp;show"#8"
 .show"!w";exact new
 .rw[aW hb]at e;exact(x b u e).stay (λc v _ q=>k c v q) (λc q=>by rw[gc_];exact q) λc xs q=>by rw[gc_];exact q
end
def Rd(H:Hp)(a:xY!)(u:HO):Prop:=H a=some u\/∃o,H a=some gd!
def Rd.ok{P:yJ!}{w:ys!}{H:Hp}{h:Heap}{a:xY!}{u:HO}(r:Rd H a u)(x:bv!):Fd P w H h a u:=by
 obtain r|⟨o,r⟩:=r
 .exact x a u r
 .obtain⟨_,q⟩:=x a _ r;exact q
def CY:Option HO->Prop
 |some (.lst _)=>True
 |some (.dK _)=>True
 |some (.dT _)=>True
 |some (.set _ _)=>True
 |some (.ins _ _ _)=>True
 |some (.ext _)=>True
 |_=>False
section
variable{P:yJ!}{w:ys!}{H:Hp}{h h':Heap}{x e:xY!}{o':HO}
def Ol.write(ok:bv!)(mu:CY (H x))(he:lT!)(k:q5_)(pe:lT_)
  (new:Fd P w (upd H x o') h' x o'):Ol P w (upd H x o') h':=λb u q=>by
 have UF:∀c y,H c=some (.own y)->c≠x:=λc y r z=>by subst z;rw[r]at mu;exact mu
 have YM:∀c xs,H c=some be_->c≠x:=λc xs r z=>by subst z;rw[r]at mu;exact mu
 by_cases hb:b=x
 .subst hb;rw[bW]at q;cases q;exact new
 .rw[aW hb]at q;by_cases gj:b=e
  .have q':H b=some in_:=by
    obtain z|z:=he
    .exact absurd (gj.trans z) hb
    .rw[gj];exact z
   rw[q]at q';cases q';obtain⟨v,hv⟩:=pe;exact⟨v,by rw[gj];exact hv⟩
  .refine(ok b u q).stay (λc v L r=>k c v ?_ r) (λc r=>by rw[aW (UF c b r)];exact r) λc xs r=>by rw[aW (YM c xs r)];exact r
   obtain rfl|L:=L
   .exact gj
   .rintro rfl;obtain z|z:=he
    .exact UF c b L z
    .rw[L]at z;cases z;exact hb rfl
end
structure Un(fs ex:av!)(H H':Hp)(h h':Heap):Prop where
 keep:∀b o,h.get? b=some o->H b=none->b∉fs->b∉ex->h'.get? b=some o
 slot:∀b o,h.get? b=some o->H b=none->b∈fs->b∉ex->∃sl,h'.get? b=some {o with slots:=sl}
 free:∀b o,h.get? b=some o->H b=none->b∉ex->H' b=none
 there:∀b o,h.get? b=some o->b∉ex->∃o',h'.get? b=some o'
 tups:∀b xs,H b=some be_->H' b=some be_
 frzs:∀b o u,H b=some gd!->H' b=some gd!
 tbls:∀b ps,H b=some (.tbl ps)->∃ph,H' b=some q6_
section
variable{fs vg ex ex':List Addr}{H H1 H2:Hp}{h h1 h2 h':Heap}{a x e:xY!}{o:HO}
def Un.any(u:Un fs ex H H1 h h1){b:xY!}(q:h.get? b=some ob)(n:H b=none)(Y:b∉ex):∃sl,h1.get? b=some {ob with slots:=sl}:=by
 by_cases hb:b∈fs
 .exact u.slot b ob q n hb Y
 .exact⟨ob.slots,u.keep b ob q n hb Y⟩
def Un.kept(k:im_):Un fs ex H H h h':=
 ⟨λb ob q _ _ _=>k b ob q,λb ob q _ _ _=>⟨ob.slots,k b ob q⟩,λ_ _ _ n _=>n,λb ob q _=>⟨ob,k b ob q⟩,λ_ _ q=>q,λ_ _ _ q=>q,λ_ ps q=>⟨#[],by rw[q];simp⟩⟩
def Un.refl:Un fs ex H H h h:=Un.kept λ_ _ q=>q
def Un.laid(k:im_)(hp:cY_<=a)(hn:iq!):Un fs ex H cZ_ h h' where
 keep:=λb u q _ _ _=>k b u q
 slot:=λb u q _ _ _=>⟨u.slots,k b u q⟩
 free:=λb u q n _=>by rw[aW (JP (JD (JB q) hp))];exact n
 there:=λb u q _=>⟨u,k b u q⟩
 tups:=λb xs q=>by rw[gc_];exact q
 frzs:=λb u xs q=>by rw[gc_];exact q
 tbls:=λb ps q=>⟨#[],by rw[gc_,q];simp⟩
def Un.write(mu:CY (H x))(he:lT!)(k:q5_)(pe:lT_):Un fs ex H lV_ h h':=by
 have Y:∀b,H b=none->b≠x:=λb n z=>by subst z;rw[n]at mu;exact mu
 have hb:∀b,H b=none->b≠e:=λb n z=>by
  subst z;obtain r|r:=he
  .exact Y b n r
  .rw[n]at r;cases r
 have hm:∀b u,H b=some u->¬CY (some u)->b≠x:=λb u q nm z=>by subst z;rw[q]at mu;exact nm mu
 refine⟨λb u q n _ _=>k b u (hb b n) q,λb u q n _ _=>⟨u.slots,k b u (hb b n) q⟩,λb u q n _=>by rw[aW (Y b n)];exact n,λb u q _=>?_,
  λb xs q=>by rw[lW!];exact q,λb u xs q=>by rw[lW!];exact q,λb ps q=>⟨#[],by rw[lW!,q];simp⟩⟩
 by_cases gj:b=e
 .subst gj;exact pe
 .exact⟨u,k b u gj q⟩
end
def DM(h:Heap)(H:Hp):List Addr:=(q9_).filter λa=>(H a).isSome
def Sz(h:Heap)(H:Hp):Heap:=W.hideAll h (DM h H)
def b6l(h:Heap)(H:Hp):(iq_).objs.size=cY_:=W.hideAll_size _ _
def c1o{h:Heap}{H:Hp}{b:xY!}{o:Obj}(e:ra!)(n:H b=none):(iq_).get? b=some o:=
 W.hideAll_get _ e λhm=>by
  have q:(H b).isSome=true:=(KD.mp hm).2;rw[n]at q;simp at q
def c4x{h:Heap}{H:Hp}{b:xY!}{o:Obj}(e:(iq_).get? b=some o):h.get? b=some o/\H b=none:=by
 have e':h.get? b=some o:=W.of_hideAll (DM h H) e;refine⟨e',?_⟩;cases q:H b with
 |none=>rfl
 |some x=>
  have hm:b∈DM h H:=KD.mpr ⟨OJ.mpr (JB e'),by simp[q]⟩;have z:(iq_).get? b=none:=W.hideAll_none (DM h H) hm;rw[z]at e;cases e
def Zf(g h:Heap)(ay:xY!):List eO!:=(q9_).filterMap λa=>if a=ay\/(g.get? a).isSome=true then none else(h.get? a).map λo=>(a,o)
nonrec def rest(g h:Heap)(ay d:xY!):List eO!:=(Zf g h ay).filter λp=>decide (p.1≠d)
end L2
namespace L2
open PySem PySem.Spec PyProof.Rows
structure Mod(K:yN!)(mg:A!)(base:Heap):Prop where
 kin:K.In base
 glob:base.Ns mainGlobals mg
 blt:∃mb,base.Ns builtinsNs mb/\∀x:Str,x≠"__name__"->mb x=bootBuiltins x
 nolimit:base.NoLimit
structure Cx where
 prog:Program
 w:World
 K:W.Frag
 mg:Str->Option Value
 base:Heap
 A:Around
 N:List Str
 s₀:Shared
 H₀:Hp
 env:Env
 outer:List Env
 stack:List Env
 ex:List Addr
 fn:Str->Bool
 calm:Bool
 pn:List eO!
 xe:Value->Shared->Prop
nonrec def frs(l:av_):List Addr:=l.filterMap (·.frame)
abbrev Cx.fs(X:Cx):List Addr:=frs X.outer
def Xz(sc:Scope)(x:Str):Prop:=sc.names.lookup x=some .local\/sc.names.lookup x=some .cell\/sc.names.lookup x=some .free
def Wy(sc:Scope)(x:Str):Prop:=sc.names.lookup x=some .local\/sc.names.lookup x=some .cell
def FO(env:Env)(h:Heap)(m:A!)(x:Str)(u:yh!):Prop:=
 (env.kindOf x=some .local/\m x=some u)\/((env.kindOf x=some .cell\/env.kindOf x=some .free)/\∃c,env.cells.lookup x=some c/\h.IsCell c (some u))
structure Cx.Ok(X:Cx):Prop where
 mod:Mod X.K X.mg X.base
 kind:lY_=.function
 glob:X.env.globals=mainGlobals
 blt:X.env.builtins=builtinsNs
 above:dL!<=X.env.locals
 inj:∀x y c,X.env.cells.lookup x=some c->X.env.cells.lookup y=some c->x=y
 has:∀x,rd_->∃c,X.env.cells.lookup x=some c
 cab:∀x c,X.fn x=true->X.env.cells.lookup x=some c->dL!<=c
 hd:X.calm=true->X.A.handled=none
 frames:X.A.frames=some X.stack
 stk:X.stack=X.outer\/(X.stack=X.env::X.outer/\X.env.frame=some X.env.locals)
 exf:∀b∈X.ex,b≠X.env.locals/\∀x c,X.env.cells.lookup x=some c->c≠b
 bs:∀b o,X.base.get? b=some o->X.s₀.heap.get? b=some o/\X.H₀ b=none
 bsz:X.base.objs.size<=dL!
 noex:∀b o,X.base.get? b=some o->b∉X.ex
 exfs:∀b∈X.ex,b∉X.fs
 funs:X.s₀.heap.FunFrames X.base X.outer
 frf:∀b∈X.fs,X.H₀ b=none
structure Inv(X:Cx)(B:o_)(Z:List (Option V))(H:Hp)(s:yM!):Prop where
 ok:X.Ok
 os:s.os=X.s₀.os
 bare:AllBare s.gens
 base:Un X.fs X.ex X.H₀ H X.s₀.heap s.heap
 loc:∃m,s.heap.Ns X.env.locals m/\∀(i:Nat) (x:Str) (v:V),X.N[i]?=some x->Z[i]?=some dL_->Xz X.env.scope x->∃u,Bq v u/\FO X.env s.heap m x u
 cell:∀x c,X.env.cells.lookup x=some c->∃v,s.heap.IsCell c v
 free:H X.env.locals=none
 freeC:∀x c,X.env.cells.lookup x=some c->H c=none
 pin:∀p∈X.pn++B,s.heap.get? p.1=some p.2/\H p.1=none/\p.1≠X.env.locals/\p.1∉X.fs/\∀v,p.2.data≠.cell v
 hok:Ol X.prog X.w H s.heap
 len:ge_=X.N.length
section
variable{X:Cx}{B:List (Addr×Obj)}{Z:List (Option V)}{H H':Hp}{s:yM!}{h':Heap}
def Cx.Ok.nofr(ok:X.Ok){b:xY!}{o:Obj}(e:X.base.get? b=some o):b∉X.fs:=λhb=>by
 have:=(ok.funs.mem hb).1;rw[e]at this;cases this
def Inv.bs(I:d_):∀b o,X.base.get? b=some o->s.heap.get? b=some o/\H b=none:=λb o e=>
 ⟨I.base.keep b o (ir!).1 (ir!).2 (I.ok.nofr e) re!,I.base.free b o (ir!).1 (ir!).2 re!⟩
def Inv.bk(I:d_):∀b o,X.base.get? b=some o->s.heap.get? b=some o:=λb o e=>(I.bs b o e).1
def Inv.mod(I:d_):Mod X.K X.mg X.base:=I.ok.mod
def Inv.kIn(I:d_):X.K.In s.heap:=I.ok.mod.kin.keeps I.bk
def Inv.lt(I:d_):X.env.locals<k_:=let⟨_,hn,_⟩:=I.loc;hn.lt
def Inv.sz(I:d_):dL!<=k_:=JL I.ok.above (NT I.lt)
def Inv.nofs(I:d_){a:xY!}(h:k_<=a):a∉X.fs:=λhb=>by
 obtain⟨_,o,ho,_⟩:=I.ok.funs.mem hb;exact absurd (JD ir_ (JL I.sz h)) dK!
def Inv.cne(I:d_):∀x c,X.env.cells.lookup x=some c->c≠X.env.locals:=λx c e z=>by
 obtain⟨v,o,ho,hd⟩:=I.cell x c e;obtain⟨m,⟨o',es,ep,dh,xv,_⟩,_⟩:=I.loc;rw[z,dh]at ho;cases ho;rw[xv]at hd;cases hd
def Inv.funs(I:d_):s.heap.FunFrames X.base X.outer:=by
 have all:∀(l:av_),(∀b∈frs l,b∈X.fs)->X.s₀.heap.FunFrames X.base l->s.heap.FunFrames X.base l:=by
  intro l
  induction l with
  |nil=>intro _ _;trivial
  |cons env r ih=>
   intro hs hl;obtain⟨hk,⟨ay,o,hf,hn,ho,hd⟩,J⟩:=hl;have hL:ay∈X.fs:=hs ay (by unfold frs;rw[RJ,hf];exact IH);obtain⟨sl,e⟩:=I.base.slot ay o ho (I.ok.frf ay hL) hL λz=>I.ok.exfs ay z hL
   exact⟨hk,⟨ay,_,hf,hn,e,hd⟩,ih (λb hb=>hs b (by unfold frs;rw[RJ,hf];exact HZ _ hb)) J⟩
 exact all X.outer (λ_ hb=>hb) I.ok.funs
def Inv.stack(I:d_):s.heap.FunFrames X.base X.stack:=by
 obtain e|⟨e,hf⟩:=I.ok.stk
 .rw[e];exact I.funs
 .rw[e];obtain⟨m,hn,_⟩:=I.loc;refine .cons (by rw[I.ok.kind];decide) hf hn ?_ I.funs;exact Heap.get?_none_of_le (JL I.ok.bsz I.ok.above)
def Inv.stkSub(I:d_):∀b∈frs X.stack,b∈X.env.locals::X.fs:=λb hb=>by
 obtain e|⟨e,hf⟩:=I.ok.stk
 .rw[e]at hb;exact HZ _ hb
 .rw[e]at hb;unfold frs at hb;rw[RJ,hf]at hb;exact hb
def Inv.stkFree(I:d_):∀b∈frs X.stack,H b=none:=λb hb=>by
 obtain e|hb:=HY.mp (I.stkSub b hb)
 .rw[e];exact I.free
 .obtain⟨_,o,ho,_⟩:=I.ok.funs.mem hb;exact I.base.free b o ho (I.ok.frf b hb) λz=>I.ok.exfs b z hb
def Inv.step{g':re_}{t':Nat}{d':Drawn}{ch:av!}(I:d_)
  (jg:∀b∈ch,is!/\b≠X.env.locals/\is_/\∀p∈X.pn++B,p.1≠b)
  (keep:∀b o,b≠X.env.locals->b∉X.fs->b∉ch->s.heap.get? b=some o->H b=none->h'.get? b=some o)
  (slot:∀b o,b≠X.env.locals->b∈X.fs->b∉ch->s.heap.get? b=some o->H b=none->∃sl,h'.get? b=some {o with slots:=sl})(free:∀b o,b∉ch->s.heap.get? b=some o->H b=none->H' b=none)
  (there:∀b o,b∉ch->s.heap.get? b=some o->∃o',h'.get? b=some o')
  (tups:q0_)(frzs:∀b o u,H b=some gd!->H' b=some gd!)(tbls:∀b ps,H b=some (.tbl ps)->∃ph,H' b=some q6_)
  (ns:∀m,s.heap.Ns X.env.locals m->h'.Ns X.env.locals m)(hok:l2!)(hg:AllBare g'):
  Inv X B Z H' {s with heap:=h',gens:=g',drawn:=d',toks:=t'}:=by
 have UG:∀b o,X.s₀.heap.get? b=some o->b≠X.env.locals:=λb o e=>JP rf!;have vh:∀b o,X.s₀.heap.get? b=some o->b∉X.ex->b∉ch:=λb o e Y hb=>by
  obtain z|z:=(jg b hb).1
  .exact Y z
  .exact absurd (JD c0! z) dK!
 have UH:∀x c,X.env.cells.lookup x=some c->∀v,s.heap.IsCell c v->h'.IsCell c v:=λx c e v ⟨o,ho,hd⟩=>by
  have rq:c∉ch:=λz=>(jg c z).2.2.1 x c e rfl;by_cases L:c∈X.fs
  .obtain⟨sl,q⟩:=slot c o (I.cne x c e) L rq ho l2_;exact⟨_,q,hd⟩
  .exact⟨o,keep c o (I.cne x c e) L rq ho l2_,hd⟩
 refine⟨I.ok,I.os,hg,⟨it!,it!,λb o e n Y=>?_,rf_,λb xs e=>tups b xs (I.base.tups b xs e),λb o xs e=>frzs b o xs (I.base.frzs b o xs e),λb ps e=>?_⟩,?_,l3_,?_,l3_,dM!,hok,I.len⟩
 .exact keep b o (UG b o e) hb it_ l4! l4_
 .show"!W";obtain⟨YN,e2⟩:=slot b _ (UG b o e) hb it_ e1 l4_;exact⟨YN,e2⟩
 .show"!C";exact free b o' it_ e1 l4_
 .show"!C";exact there b o' it_ e1
 .obtain⟨m1,e1⟩:=I.base.tbls b ps e;obtain⟨m2,e2⟩:=tbls b _ e1;exact⟨m1++m2,by rw[e2,Array.append_assoc]⟩
 .obtain⟨m,hn,hl⟩:=I.loc;refine⟨m,ns m hn,rg!⟩;obtain⟨u,r,l⟩:=hl i x v e1 e2 e3;refine⟨u,r,?_⟩;obtain l|⟨k,c,e,z⟩:=l
  .exact .inl l
  .exact .inr ⟨k,c,e,UH x c e _ z⟩
 .obtain⟨v,z⟩:=I.cell x c e;exact⟨v,UH x c e v z⟩
 .obtain⟨m,⟨o,_,_,ho,_⟩,_⟩:=I.loc;exact free _ o (λz=>(jg _ z).2.1 rfl) ho I.free
 .obtain⟨v,o,ho,hd⟩:=I.cell x c e;exact free c o (λz=>(jg c z).2.2.1 x c e rfl) ho l2_
 .show"!y";have rq:p.1∉ch:=λz=>(jg p.1 z).2.2.2 p hp rfl;exact⟨keep p.1 p.2 ne nf rq e n,free p.1 p.2 rq e n,ne,nf,d⟩
def Inv.un{t':Nat}(I:d_)(u:Un X.fs [] H H' s.heap h')(hok:l2!):Inv X B Z H' {s with heap:=h',toks:=t'}:=by
 obtain⟨m,⟨o,es,ep,ho,r⟩,_⟩:=id I.loc;obtain⟨sl,hL⟩:=u.any ho I.free d!;exact I.step (g':=s.gens) (d':=s.drawn) (ch:=[]) rk_ (λb o _ hb _ e n=>u.keep b o e n hb d!) (λb o _ hb _ e n=>u.slot b o e n hb d!) (λb o _ e n=>u.free b o e n d!) (λb o _ e=>u.there b o e d!) u.tups u.frzs u.tbls (λm' hm=>by
  obtain⟨o',ar,bd,dh,r'⟩:=hm;rw[ho]at dh;cases dh;exact rl!) hok I.bare
def Inv.call{g':re_}{t':Nat}{d':Drawn}{ch:av!}(I:d_)(u:Un (frs X.stack) ch H H' s.heap h')(hok:l2!)(hg:AllBare g')
  (jg:∀b∈ch,is!/\b≠X.env.locals/\is_/\∀p∈X.pn++B,p.1≠b):
  Inv X B Z H' {s with heap:=h',gens:=g',drawn:=d',toks:=t'}:=by
 obtain⟨m,⟨o,es,ep,ho,r⟩,_⟩:=id I.loc;obtain⟨sl,hL⟩:=u.any ho I.free λz=>(jg _ z).2.1 rfl
 exact I.step (ch:=ch) jg (λb o hL hb L e n=>u.keep b o e n (λz=>(HY.mp (I.stkSub b z)).elim hL hb) L) (λb o _ _ L e n=>u.any e n L) (λb o L e n=>u.free b o e n L) (λb o L e=>u.there b o e L) u.tups u.frzs u.tbls (λm' hm=>by
  obtain⟨o',ar,bd,dh,r'⟩:=hm;rw[ho]at dh;cases dh;exact rl!) hok hg
def Inv.turned{t':Nat}(I:d_)(k:∀b o,b≠it->s.heap.get? b=some o->h'.get? b=some o)(hn:H it=none)(hL:it≠X.env.locals)
  (h1:it∈X.ex\/dL!<=it)(h2:∀x c,X.env.cells.lookup x=some c->c≠it)(h3:∀p∈X.pn++B,p.1≠it):Inv X B Z H {s with heap:=h',toks:=t'}:=by
 have pi:∀b u,H b=some u->b≠it:=λb u e z=>by rw[z,hn]at e;cases e
 refine I.step (g':=s.gens) (d':=s.drawn) (ch:=[it]) iu! (λb o _ _ L e _=>k b o iu_ e) (λb o _ _ L e _=>⟨o.slots,k b o iu_ e⟩) iv!
  (λb o L e=>⟨o,k b o iu_ e⟩) iv_ iw! (λb ps e=>ro_) iw_ rq_ I.bare
 .have e:b=it:=by simpa using hb
  subst e;exact⟨h1,hL,h2,h3⟩
 .obtain⟨o,es,ep,ho,r⟩:=hm;exact⟨o,es,ep,k _ o (IB hL) ho,r⟩
 .refine(I.hok b u e).stay (λc v L q=>k c v ?_ q) lS_ λ_ _ q=>q;obtain z|z:=L
  .rw[z];exact pi b u e
  .exact pi c _ z
def Inv.tok(I:d_)(t:Nat):Inv X B Z H {s with toks:=t}:=I.un (h':=s.heap) (t':=t) Un.refl I.hok
def Inv.kept{t':Nat}(I:d_)(k:rr!):Inv X B Z H {s with heap:=h',toks:=t'}:=I.un (Un.kept k) (I.hok.kept k)
def Inv.laid{a:xY!}{o:HO}{t':Nat}(I:d_)(k:rr!)(hp:k_<=a)(new:Fd X.prog X.w cZ_ h' a o):
  Inv X B Z cZ_ {s with heap:=h',toks:=t'}:=I.un (Un.laid k hp (I.hok.fresh hp)) (I.hok.laid k hp new)
def Inv.write{x e:xY!}{o:HO}{t':Nat}(I:d_)(mu:CY (H x))(he:lT!)(k:∀b u,b≠e->s.heap.get? b=some u->h'.get? b=some u)(pe:lT_)
  (new:Fd X.prog X.w lV_ h' x o):Inv X B Z lV_ {s with heap:=h',toks:=t'}:=I.un (Un.write mu he k pe) (I.hok.write mu he k pe new)
def Inv.pins_of{UI:o_}(I:d_)(h:∀p∈UI,s.heap.get? p.1=some p.2/\H p.1=none/\p.1≠X.env.locals/\p.1∉X.fs/\∀v,p.2.data≠.cell v):Inv X UI Z H s:=
 ⟨I.ok,I.os,I.bare,I.base,I.loc,I.cell,I.free,I.freeC,λp hp=>(IK.mp hp).elim (λz=>I.pin p (JE _ z)) (h p),I.hok,I.len⟩
def a6r{N:r_}(hN:N.Nodup){i j:Nat}{x:Str}(a:N[i]?=some x)(b:N[j]?=some x):i=j:=by obtain⟨h1,e1⟩:=IU.mp a;obtain⟨h2,e2⟩:=IU.mp b;exact(List.getElem_inj hN).mp rt_
def zK{M:Model}{A:yg!}{E:p!}{i:Nat}{x:Str}{v:V}{u:yh!}{Q:c1!}(I:d_)(hN:bv_)(hi:an!)(Y:bw!)(r:bw_)
  (h:∀s',Inv X B eP! H s'->(∃a,Heap.SameBut a s.heap s'.heap/\(a=X.env.locals\/X.env.cells.lookup x=some a))->Q () s')(hf:X.fn x=true\/X.env.scope.names.lookup x=some .local:=by first|exact .inl rfl|exact .inr rfl|assumption):wpAny M A ru! Q E s:=by
 obtain⟨m,hn,hl⟩:=id I.loc;have YO:(lY_==.class||(lY_==.module&&X.env.locals != X.env.globals))=false:=by rw[I.ok.kind];rfl
 have UJ:i<ge_:=by rw[I.len];exact(IU.mp hi).1
 have cne:=I.cne;have UK:∀{a:xY!} {h':Heap},(∃o,s.heap.get? a=some o/\H a=none)->Heap.SameBut a s.heap h'->Ol X.prog X.w H h':=λ{a h'} ha hs b ob e=>by
  obtain⟨_,_,ij⟩:=ha;refine(I.hok b ob e).stay (λc w' L q=>(hs.2 c ?_).trans q) lS_ λ_ _ q=>q;rintro rfl;obtain rfl|L:=L
  .rw[ij]at e;cases e
  .rw[ij]at L;cases L
 obtain hk|hk:=Y
 .refine wpAny_storeName_local hk hn (λh' vi hs=>?_) YO;obtain⟨oL,_,_,lh,_⟩:=id hn;refine h _ ⟨I.ok,I.os,I.bare,ru_,⟨_,vi,rv!⟩,λy c e=>?_,I.free,I.freeC,dM!,UK ⟨oL,lh,I.free⟩ hs,rx_⟩ ⟨_,hs,c1_⟩
  .exact(l8!).trans l4!
  .show"!W";exact⟨sl,(l8!).trans e1⟩
  .show"!C";exact⟨o',(l8!).trans e1⟩
  .by_cases hj:j=i
   .show"#+";exact⟨u,r,.inl ⟨hk,G_⟩⟩
   .rw[JN (IB hj)]at e2;obtain⟨u',r',q⟩:=hl j y v' e1 e2 e3;refine ry_;obtain⟨k,e⟩|⟨k,c,e,z⟩:=q
    .refine .inl ⟨k,?_⟩;have:y≠x:=λe=>hj (a6r hN e1 (e▸hi));simp[this,e]
    .exact .inr ⟨k,c,e,rz_⟩
  .obtain⟨w',z⟩:=I.cell y c e;exact⟨w',rz_⟩
  .show"!y";exact⟨(hs.2 p.1 ne).trans e,n,ne,nf,d⟩
 .have xw:X.fn x=true:=by
   obtain z|z:=hf
   .exact z
   .rw[z]at hk;cases hk
  obtain⟨c,L⟩:=I.ok.has x (.inl hk);obtain⟨w',z⟩:=I.cell x c L;refine wpAny_storeName_cell I.ok.kind hk L z (λh' bq hs=>?_);obtain⟨oc,UL,YQ⟩:=id z;refine h {s with heap:=h'} ⟨I.ok,I.os,I.bare,ru_,⟨m,hn.sameBut hs (IB (cne x c L)),rv!⟩,λy c' e=>?_,I.free,I.freeC,dM!,UK ⟨oc,UL,I.freeC x c L⟩ hs,rx_⟩ ⟨c,hs,.inr L⟩
  .exact(l8_).trans l4!
  .show"!W";exact⟨sl,(l8_).trans e1⟩
  .show"!C";exact⟨o',(l8_).trans e1⟩
  .by_cases hj:j=i
   .show"#+";exact⟨u,r,.inr ⟨.inl hk,c,L,bq⟩⟩
   .rw[JN (IB hj)]at e2;obtain⟨u',r',q⟩:=hl j y v' e1 e2 e3;refine ry_;obtain q|⟨k,c',e,z'⟩:=q
    .exact .inl q
    .refine .inr ⟨k,c',e,z'.sameBut hs ?_⟩;rintro rfl;exact hj (a6r hN e1 (I.ok.inj _ _ _ e L▸hi))
  .by_cases gk:c'=c
   .subst gk;exact⟨_,bq⟩
   .obtain⟨w2,z2⟩:=I.cell y c' e;exact⟨w2,z2.sameBut hs gk⟩
  .show"!y";refine⟨(hs.2 p.1 ?_).trans e,n,ne,nf,d⟩;intro q;rw[q,UL]at e;have q':oc=p.2:=JY e;exact d w' (by rw[<-q'];exact YQ)
def vM{M:Model}{A:yg!}{E:p!}{i:Nat}{x:Str}{v:V}{u:yh!}{Q:c1!}(I:d_)(hN:bv_)(hi:an!)(Y:bw!)(r:bw_)
  (h:∀s',Inv X B eP! H s'->Q () s')(hf:X.fn x=true\/X.env.scope.names.lookup x=some .local:=by first|exact .inl rfl|exact .inr rfl|assumption):wpAny M A ru! Q E s:=
 zK I hN hi Y r (λs' I' _=>h s' I') hf
def Inv.call'{s':yM!}{ch:av!}(I:d_)(ho:s'.os=s.os)(u:Un (frs X.stack) ch H H' s.heap s'.heap)(hok:Ol X.prog X.w H' s'.heap)(hg:AllBare s'.gens)
  (jg:∀b∈ch,is!/\b≠X.env.locals/\is_/\∀p∈X.pn++B,p.1≠b):Inv X B Z H' s':=by
 obtain⟨h',g',d',t',o'⟩:=s';have e:o'=s.os:=ho;subst e;exact I.call (g':=g') (t':=t') (d':=d') u hok hg jg
end
abbrev XK:=Value->Option Addr->Hp->Prop
abbrev St:=List (Option V)
abbrev VK:=V->Hp->Prop
abbrev TE:=St->Hp->VK->Prop
abbrev TT:=St->Hp->rB_->Prop
abbrev TA:=St->Hp->(List V->Hp->Prop)->Prop
structure Vl where
 nx:St->Hp->Prop
 rt:VK
 bk:St->Hp->Prop:=λ_ _=>False
 ct:St->Hp->Prop:=λ_ _=>False
abbrev TS:=Vl->St->Hp->Prop
inductive EP(X:Cx)(B:o_)(Z:St)(Q:VK)(u:yh!)(s':yM!):Prop
 |mk (v:V) (H':Hp) (I:l9_) (r:bw_) (q:Q v H'):EP X B Z Q u s'
inductive TP(X:Cx)(B:o_)(Z:St)(Q:dO!)(b:Bool)(s':yM!):Prop
 |mk (H':Hp) (I:l9_) (q:Q b H'):TP X B Z Q b s'
inductive AP(X:Cx)(B:o_)(Z:St)(Q:c2!)(us:j!)(s':yM!):Prop
 |mk (vs:m_) (H':Hp) (I:l9_) (r:eP_) (q:Q vs H'):AP X B Z Q us s'
def SP(X:Cx)(B:o_)(D:Vl)(f:Flow)(s':yM!):Prop:=
 match f with
 |.next=>∃hr H',Inv X B hr H' s'/\D.nx hr H'
 |.brk=>∃hr H',Inv X B hr H' s'/\D.bk hr H'
 |.cont=>∃hr H',Inv X B hr H' s'/\D.ct hr H'
 |.ret u=>∃v hr H',Inv X B hr H' s'/\Bq v u/\D.rt v H'
def PE(X:Cx)(e:Expr)(t:TE):Prop:=
 ∀(B:o_) (s:yM!) (Z:St) (H:Hp) (Q:VK),Inv X B Z H s->t Z H Q->wpAny e_ X.A eQ! aI_ X.xe s
def PT(X:Cx)(e:Expr)(t:TT):Prop:=
 ∀(B:o_) (s:yM!) (Z:St) (H:Hp) (Q:dO!),Inv X B Z H s->t Z H Q->wpAny e_ X.A (isTrue e X.env eQ!) iz_ X.xe s
def PW(X:Cx)(e:Expr)(t:TT):Prop:=
 ∀(dr:Sem Value) (B:o_) (s:yM!) (Z:St) (H:Hp) (Q:dO!),Inv X B Z H s->t Z H Q->wpAny e_ X.A (isTrue e X.env dr) iz_ X.xe s
def PW.pt{X:Cx}{e:Expr}{t:TT}(h:PW X e t):PT X e t:=h _
def PA(X:Cx)(es:bL_)(t:TA):Prop:=
 ∀(pos:Pos) (B:o_) (s:yM!) (Z:St) (H:Hp) (Q:c2!),Inv X B Z H s->t Z H Q->wpAny e_ X.A (spliced rD_) (AP X B Z Q) X.xe s
def PS(X:Cx)(st:Stmt)(t:TS):Prop:=
 ∀(B:o_) (s:yM!) (Z:St) (H:Hp) (D:Vl),Inv X B Z H s->t D Z H->wpAny e_ X.A (exec st X.env) (SP X B D) X.xe s
def Ul(X:Cx)(st:b5!)(t:TS):Prop:=
 ∀(B:o_) (s:yM!) (Z:St) (H:Hp) (D:Vl),Inv X B Z H s->t D Z H->wpAny e_ X.A (execs st X.env) (SP X B D) X.xe s
def dH{α:Type}{t:Sem α}{Q Q':rE_}{M:Model}{A:yg!}{E:p!}{s:yM!}(h:wpAny M A t Q E s)(hQ:∀a s,Q a s->Q' a s):wpAny M A t Q' E s:=LF h hQ λ_ _ x=>x
end L2
namespace L2
open PySem PySem.Spec PyProof.Rows
section
variable{X:Cx}
def bin{a b:Expr}{ta tb:TE}(ha:a1_)(hb:cu_){B:o_}{s:yM!}{Z:St}{H:Hp}{R:rF_}(I:d_)(h:rF!)
  {α:Type}{Q:rE_}{f:Value->Value->Sem α}
  (hf:rG!):
  wpAny e_ X.A ma_ rH_ X.xe s:=by
 show"!9"
def EH(i:Nat):TE:=λZ H Q=>∃v,Z[i]?=some dL_/\Q v H
nonrec def tC(v:V):TE:=λ_ H Q=>Q v H
def oQ{i:Nat}{x:Str}{pos:Pos}(hN:an!)(hv:c2_)(hd:F!:=by decide)(bx:c3!:=by decide):PE X c3_ (EH i):=by
 intro B s Z H Q I h;obtain⟨v,e,h⟩:=h;obtain⟨m,hn,hl⟩:=I.loc;obtain⟨u,r,l⟩:=hl i x v hN e hv;have fin:EP X B Z Q u s:=mb!;obtain⟨hk,hm⟩|⟨hk,c,L,cf⟩:=l
 .exact wpAny_Name (wpAny_loadName_local I.ok.kind hk hn hm fin) hd
 .obtain hk|hk:=hk
  .exact wpAny_Name (wpAny_loadName_cell I.ok.kind hk L cf fin) hd
  .exact wpAny_Name (wpAny_loadName_free I.ok.kind hk L cf fin bx) hd
def c8p {i j pos}:PE X rI_ (tC bx_):=λ_ _ _ H _ I h=>wpAny_Constant_int ⟨b6!,H,a2!,H!,h⟩
def d2g {b j pos}:PE X (.Constant md! j pos) (tC bM!):=λ_ _ _ H _ I h=>Constant_bool ⟨.bl b,H,I,rfl,h⟩
def c8o {j pos}:PE X rJ! (tC .non):=λ_ _ _ H _ I h=>Constant_none ⟨.non,H,I,rfl,h⟩
def b9f {x j pos}:PE X (.Constant dP! j pos) (tC dP!):=λ_ _ _ H _ I h=>Calls.Constant_str ⟨.str x,H,a2!,H!,h⟩
def Gl(X:Cx)(x:Str):Prop:=X.env.kindOf x=some .globalImplicit
def kZ{E:p!}{B:o_}{s:yM!}{Z:St}{H:Hp}{x:Str}{u:yh!}{pos:Pos}{Q:p!}(I:d_)(hg:S!)(hm:X.mg x=some u)(h:Q u s)
  (hd:F!:=by decide):wpAny e_ X.A vX! Q E s:=
 Calls.Name_function_global I.ok.kind hg (Calls.loadGlobal_global rK! hm h) hd
def jQ{E:p!}{B:o_}{s:yM!}{Z:St}{H:Hp}{x:Str}{u:yh!}{pos:Pos}{Q:p!}(I:d_)(hg:S!)(hm:cv!)(hv:rL_)(h:Q u s)
  (hn:cv_:=by decide)(hd:F!:=by decide):wpAny e_ X.A vX! Q E s:=by
 obtain⟨mb,h1,h2⟩:=I.mod.blt;exact Calls.Name_function_global I.ok.kind hg (Calls.loadGlobal_builtin rK! hm (by rw[I.ok.blt];exact h1.keeps I.bk) ((h2 x hn).trans hv) h) hd
def c4m{x:Str}{v:V}{u:yh!}{pos:Pos}(hg:S!)(hm:X.mg x=some u)(r:bw_)(hd:F!:=by decide):PE X c3_ (tC v):=
 λ_ _ _ H _ I h=>kZ I hg hm mb! hd
def c4n{x:Str}{v:V}{u:yh!}{pos:Pos}(hg:S!)(hm:cv!)(hv:rL_)(r:bw_)(hn:cv_:=by decide)(hd:F!:=by decide):PE X c3_ (tC v):=
 λ_ _ _ H _ I h=>jQ I hg hm hv mb! hn hd
variable{a b:Expr}{ta tb:TE}{pos:Pos}
def PC(X:Cx)(op:CmpOp)(a b:Expr)(t:TE):Prop:=
 ∀(B:o_) (s:yM!) (Z:St) (H:Hp) (Q:VK),Inv X B Z H s->t Z H Q->
  wpAny e_ X.A ma_ (λv ai=>wpAny e_ X.A rH! (λu am=>wpAny e_ X.A (compareOp op v u) aI_ X.xe am) X.xe ai) X.xe s
def c0c(b:Expr){op:CmpOp}(h:op≠.In)(h2:op≠.NotIn):behindInMarks op b=false:=by
 have e1:rN_=false:=by cases op<;>first|rfl|exact absurd rfl h
 have e2:rO!=false:=by cases op<;>first|rfl|exact absurd rfl h2
 cases b<;>simp[behindInMarks,e1,e2]
nonrec def tB(t:TE):TT:=λZ H Q=>t Z H λx H1=>∃c,x=.bl c/\Q c H1
def d4a{op:CmpOp}{t:TE}(h:PC X op a b t)(h1:dP_:=by first|exact c0c _ b_ b_|rfl):PT X dQ! (tB t):=by intro B s Z H Q I hw;refine RM (dH mf_ λv s1 h1=>dH h1 λu s2 h2=>dH h2 λc s3 ⟨x,H1,I1,r1,q1⟩=>?_) h1;obtain⟨d,rfl,q⟩:=q1;cases r1;exact KF ⟨H1,I1,q⟩
def b8p{e:Expr}{t:TE}(h:iB_)(he:iC!:=by intro _;rfl):PT X e (tB t):=by intro B s Z H Q I hw;refine isTrue_plain (dH mf_ λv s1 ⟨x,H1,I1,r1,q1⟩=>?_) (he _);obtain⟨d,rfl,q⟩:=q1;cases r1;exact KF ⟨H1,I1,q⟩
variable{tA vj:TT}{rest:List Expr}
def ET(t u:TT):TT:=λZ H Q=>t Z H λc H1=>if c=true then u Z H1 Q else Q false H1
def GZ(t u:TT):TT:=λZ H Q=>t Z H λc H1=>if c=true then Q true H1 else u Z H1 Q
def EM(t:TT):TT:=λZ H Q=>t Z H λc H1=>Q (!c) H1
def b2q(ha:gk_):PW X mh_ tA:=by
 intro wh B s Z H Q I h;refine isTrue_and rQ_;cases c with
 |true=>exact isTrue_and_nil e
 |false=>exact e
def b8i(ha:gk_):PW X mi! tA:=by
 intro wh B s Z H Q I h;refine isTrue_or rQ_;cases c with
 |false=>exact isTrue_or_nil e
 |true=>exact e
def b8j(ha:gk_)(hb:PW X eR! vj):PW X eR_ (ET tA vj):=by
 intro wh B s Z H Q I h;refine isTrue_and rR!;cases c with
 |true=>exact hb wh B s1 Z H1 Q I1 q1
 |false=>exact wh!
def c7d(ha:gk_)(hb:PW X eS! vj):PW X eS_ (GZ tA vj):=by
 intro wh B s Z H Q I h;refine isTrue_or rR!;cases c with
 |true=>exact wh!
 |false=>exact hb wh B s1 Z H1 Q I1 q1
def b8r(ha:gk_):PT X eT_ (EM tA):=by intro B s Z H Q I h;exact isTrue_not (dH (ha B s Z H (λc H1=>Q (!c) H1) I h) λ_ _ ⟨H2,I2,q⟩=>⟨H2,I2,q⟩)
def BU(ta tb:TE):TE:=λZ H Q=>ta Z H λx H1=>∃c,x=.bl c/\if c=true then tb Z H1 Q else Q S_ H1
def EL(ta tb:TE):TE:=λZ H Q=>ta Z H λx H1=>∃c,x=.bl c/\if c=true then Q B_ H1 else tb Z H1 Q
def BO(ta:TE):TE:=λZ H Q=>ta Z H λx H1=>∃c,x=.bl c/\Q (.bl (!c)) H1
def b9g {op}{t:TE}(h:PE X a t):PE X mj! t:=λB s Z H Q I hw=>BoolOp_one rT_
def b9m(ha:a1_)(hb:PE X eR! tb):PE X eR_ (BU ta tb):=by
 intro B s Z H Q I h;refine BoolOp_and mj_;obtain⟨c,rfl,q1⟩:=q1;cases r1;refine KF ?_;cases c with
 |true=>exact hb B s1 Z H1 Q I1 q1
 |false=>exact⟨gn!,H1,I1,rfl,q1⟩
def c7f(ha:a1_)(hb:PE X eS! tb):PE X eS_ (EL ta tb):=by
 intro B s Z H Q I h;refine BoolOp_or mj_;obtain⟨c,rfl,q1⟩:=q1;cases r1;refine KF ?_;cases c with
 |false=>exact hb B s1 Z H1 Q I1 q1
 |true=>exact⟨gn_,H1,I1,rfl,q1⟩
def b9h(ha:a1_):PE X eT_ (BO ta):=by intro B s Z H Q I h;refine UnaryOp_ mj_;obtain⟨c,rfl,q1⟩:=q1;cases r1;exact not_of (KF ⟨.bl (!c),H1,I1,rfl,q1⟩)
def HA(t:TT)(ta tb:TE):TE:=λZ H Q=>t Z H λc H1=>if c=true then ta Z H1 Q else tb Z H1 Q
def a6j{c:Expr}(L:PT X c tA)(ha:a1_)(hb:cu_):PE X mk_ (HA tA ta tb):=by
 intro B s Z H Q I h;refine wpAny_IfExp rW!;cases d with
 |true=>exact ha B s1 Z H1 Q I1 q1
 |false=>exact hb B s1 Z H1 Q I1 q1
end
end L2
namespace L2
open PySem PySem.Spec PyProof.Rows
def Fj(K:yN!)(H:Hp)(a:xY!)(xs:m_):Prop:=
 Rd H a L!\/
  ∃(o:Obj) (its:O!) (n:Nat),K.lookup a=some o/\o.cls=.type "list"/\o.dict=none/\o.data=.seq its n/\its.size<=sizeLine/\Be xs iD!
def Fz(K:yN!)(H:Hp)(a:xY!)(xs:m_):Prop:=
 Rd H a be_\/
  ∃(o:Obj) (its:O!) (n:Nat),K.lookup a=some o/\o.cls=.type "tuple"/\o.data=.seq its n/\its.size<=sizeLine/\Be xs iD!
def FI:Value->Option V
 |.none=>some .non
 |.bool b=>some bM!
 |.int i _=>some bx_
 |.str x _=>some dP!
 |.bytes b _=>some (.byt b)
 |.float b _=>some (.flt b)
 |.ref a=>some P!
 |.type n=>some (.ty n)
 |_=>none
def Bq.abs{x:V}{u:yh!}(r:Bq x u):FI u=some x:=by
 cases x with
 |non=>cases r;rfl
 |bl _=>cases r;rfl
 |int _=>obtain⟨t,rfl⟩:=r;rfl
 |str _=>obtain⟨t,rfl⟩:=r;rfl
 |byt _=>obtain⟨t,rfl⟩:=r;rfl
 |flt _=>obtain⟨t,rfl⟩:=r;rfl
 |ref _=>cases r;rfl
 |ty _=>cases r;rfl
def Bq.inj{x y:V}{u:yh!}(r:Bq x u)(q:Bq y u):x=y:=JY (r.abs.symm.trans q.abs)
def Be.inj:∀{xs ys:m_} {us:j!},Be xs us->Be ys us->xs=ys
 |_,_,_,.nil,.nil=>rfl
 |_,_,_,.cons r t,.cons r' t'=>by rw[r.inj r',Be.inj t t']
section
variable{X:Cx}{B:List (Addr×Obj)}{Z:St}{H:Hp}{s:yM!}{a:xY!}{xs ys:List V}
def Fj.of{K:yN!}(h:H a=some L!):Fj K H a xs:=.inl iD_
def Fz.of{K:yN!}(h:H a=some be_):Fz K H a xs:=.inl iD_
def Inv.list(I:d_)(h:Fj X.K H a xs):∃its:List Value,Be xs its/\PlainL s.heap a be!/\i!<=sizeLine:=by
 obtain h|⟨o,its,n,hk,L,hd,hs,hz,r⟩:=h
 .obtain⟨z,its,n,r,e⟩:=h.ok I.hok;exact⟨its,r,⟨_,n,e,rfl,rfl,rfl⟩,z⟩
 .refine⟨iD!,r,⟨o,n,I.kIn a o hk,L,hd,rZ_⟩,?_⟩;have e:=aR_;simp only[KH]at e;omega
def Inv.tuple(I:d_)(h:Fz X.K H a xs):∃its:List Value,Be xs its/\IsTup s.heap a be!/\i!<=sizeLine:=by
 obtain h|⟨o,its,n,hk,L,hs,hz,r⟩:=h
 .obtain⟨z,its,r,p⟩:=h.ok I.hok;exact⟨its,r,p,z⟩
 .refine⟨iD!,r,⟨o,I.kIn a o hk,L,n,rZ_⟩,?_⟩;have e:=aR_;simp only[KH]at e;omega
def Inv.list_inj(I:d_)(h:Fj X.K H a xs)(h':Fj X.K H a ys):xs=ys:=by
 obtain⟨its,r,⟨o,n,e,_,_,d⟩,_⟩:=I.list h;obtain⟨its',r',⟨o',n',e',_,_,d'⟩,_⟩:=I.list h';rw[e]at e';cases e';rw[d]at d';injection d' with d1 _
 have:its=its':=by simpa using congrArg Array.toList d1
 subst this;exact r.inj r'
def Inv.tuple_inj(I:d_)(h:Fz X.K H a xs)(h':Fz X.K H a ys):xs=ys:=by
 obtain⟨its,r,⟨o,e,_,n,d⟩,_⟩:=I.tuple h;obtain⟨its',r',⟨o',e',_,n',d'⟩,_⟩:=I.tuple h';rw[e]at e';cases e';rw[d]at d';injection d' with d1 _
 have:its=its':=by simpa using congrArg Array.toList d1
 subst this;exact r.inj r'
end
abbrev Cx.wish(X:Cx)(E:p!):Cx:={X with xe:=E}
abbrev Cx.nox(X:Cx):Cx:=X.wish λ_ _=>False
def Cx.Ok.wish{X:Cx}(ok:X.Ok)(E:p!):(go!).Ok:=
 r0!
def Cx.Ok.unwish{X:Cx}{E:p!}(ok:(go!).Ok):X.Ok:=
 r0!
section
variable{X:Cx}{B:List (Addr×Obj)}{Z:St}{H:Hp}{s:yM!}{E:Value->Shared->Prop}
def Inv.wish(I:d_)(E:p!):Inv go! B Z H s:=⟨I.ok.wish E,I.os,I.bare,I.base,I.loc,I.cell,I.free,I.freeC,I.pin,I.hok,I.len⟩
def Inv.unwish(I:Inv go! B Z H s):Inv X B Z H s:=⟨I.ok.unwish,I.os,I.bare,I.base,I.loc,I.cell,I.free,I.freeC,I.pin,I.hok,I.len⟩
def SP.unwish{D:Vl}{f:Flow}{s':yM!}(h:SP go! B D f s'):SP X B D f s':=by
 cases f with
 |next=>obtain⟨hr,H',I,q⟩:=h;exact mn!
 |brk=>obtain⟨hr,H',I,q⟩:=h;exact mn!
 |cont=>obtain⟨hr,H',I,q⟩:=h;exact mn!
 |ret u=>obtain⟨v,hr,H',I,r,q⟩:=h;exact⟨v,hr,H',I.unwish,r,q⟩
def Ul.nox{st:b5!}{t:TS}(h:Ul X.nox st t):Ul X st t:=λB s Z H D I hw=>
 LF (h B s Z H D (I.wish _) hw) (λ_ _ q=>q.unwish) λ_ _ z=>False.elim z
end
section
variable{X:Cx}{st:Stmt}{rest:List Stmt}{t u:TS}{e:Expr}{te:TE}{pos:Pos}
def BP:TS:=λD Z H=>D.nx Z H
def EJ(t u:TS):TS:=λD Z H=>t {D with nx:=u D} Z H
def b2u:Ul X [] BP:=λ_ _ Z H _ I h=>RO ⟨Z,H,I,h⟩
def a6e(h1:iE!)(h2:Ul X rest u):Ul X oz_ (EJ t u):=by
 intro B s Z H D I h;refine wpAny_execs_cons (dH (h1 B s Z H {D with nx:=u D} I h) λf s1 q=>?_);cases f with
 |next=>
  obtain⟨hr,H',I',q⟩:=q;exact h2 B s1 hr H' D I' q
 |ret v=>exact q
 |brk=>exact q
 |cont=>exact q
def b2t(h1:iE!):Ul X [st] t:=by
 intro B s Z H D I h;refine wpAny_execs_cons (dH (h1 B s Z H D I h) λf s1 q=>?_);cases f with
 |next=>exact RO q
 |ret v=>exact q
 |brk=>exact q
 |cont=>exact q
def Inv.quiet{B:o_}{Z:St}{H:Hp}{s:yM!}(I:d_):interactive X.env=false:=by simp[interactive,I.ok.kind]
def BQ(te:TE):TS:=λD Z H=>te Z H λ_ H1=>D.nx Z H1
def uR(he:cw_)(hs:r3_:=by rfl):PS X (.Expr e pos) (BQ te):=by intro B s Z H D I h;exact wpAny_Expr_any (dH c5_ λv s1 ⟨x,H1,I1,r1,q1⟩=>⟨Z,H1,I1,q1⟩) I.quiet hs
def EK(te:TE):TS:=λD Z H=>te Z H D.rt
def b8u(he:cw_):PS X mp_ (EK te):=by intro B s Z H D I h;exact wpAny_Return_some (dH c5_ λv s1 ⟨x,H1,I1,r1,q1⟩=>⟨x,Z,H1,I1,r1,q1⟩)
def BM:TS:=λD _ H=>D.rt .non H
def c4e:PS X r5! BM:=λ_ _ Z H _ I h=>wpAny_Return_none ⟨.non,Z,H,I,rfl,h⟩
def EO(c:TT)(t u:TS):TS:=λD Z H=>c Z H λb H1=>if b=true then t D Z H1 else u D Z H1
def c7e{c:Expr}{a b:b5!}{tc:TT}(L:PT X c tc)(ha:Ul X a t)(hb:Ul X b u):PS X (.If c a b pos) (EO tc t u):=by
 intro B s Z H D I h;refine wpAny_If rW!;cases d with
 |true=>exact ha B s1 Z H1 D I1 q1
 |false=>exact hb B s1 Z H1 D I1 q1
end
abbrev TG:=V->St->Hp->w1_->Prop
abbrev AZ:=List V->St->Hp->w1_->Prop
def PG(X:Cx)(vk:Expr)(t:TG):Prop:=
 ∀(B:o_) (s:yM!) (Z:St) (H:Hp) (v:V) (u:yh!) (Q:iH!),Inv X B Z H s->Bq v u->t v Z H Q->
  wpAny e_ X.A (assign vk X.env u) r6! X.xe s
def DY(X:Cx)(ts:bL_)(t:AZ):Prop:=
 ∀(B:o_) (s:yM!) (Z:St) (H:Hp) (vs:m_) (us:j!) (Q:iH!),Inv X B Z H s->Be vs us->t vs Z H Q->
  wpAny e_ X.A (assignInOrder ((assignEach ts X.env).map C!) us) r6! X.xe s
abbrev Zg:=V->V->V->Hp->mr!->Prop
def Wp(X:Cx)(t:Zg):Prop:=
 ∀(B:o_) (s:yM!) (Z:St) (H:Hp) (o i v:V) (ov iv u:yh!) (Q:Hp->Prop),Inv X B Z H s->Bq o ov->Bq i iv->Bq v u->t o i v H Q->
  wpAny e_ X.A (setItem ov iv u) (λ_ s'=>∃H',Inv X B Z H' s'/\Q H') X.xe s
abbrev DU:=V->V->Hp->VK->Prop
def GN(X:Cx)(op:Operator)(t:DU):Prop:=
 ∀(B:o_) (s:yM!) (Z:St) (H:Hp) (x y:V) (v u:yh!) (Q:VK),Inv X B Z H s->Bq x v->Bq y u->t x y H Q->
  wpAny e_ X.A (inplaceOp op v u) aI_ X.xe s
section
variable{X:Cx}{pos:Pos}
def Og(i:Nat):TG:=λv Z H Q=>Q eP! H
def aZ{i:Nat}{x:Str}(hN:bv_)(hi:an!)(Y:bw!)(hf:X.fn x=true\/X.env.scope.names.lookup x=some .local:=by first|exact .inl rfl|exact .inr rfl|assumption):PG X c3_ eW!:=by intro B s Z H v u Q I r h;exact wpAny_assign_Name (vM I hN hi Y r (λs' I'=>⟨_,H,I',h⟩) hf)
def AW:AZ:=λvs Z H Q=>vs=[]/\Q Z H
def Uh(t:TG)(u:AZ):AZ:=λvs Z H Q=>∃v r,vs=v::r/\t v Z H λhr H'=>u r hr H' Q
def b2z:DY X [] AW:=by intro B s Z H vs us Q I r h;obtain⟨e,h⟩:=h;subst e;cases r;exact assignInOrder_nil ⟨Z,H,I,h⟩
def pR{e:Expr}{es:bL_}{t:TG}{u:AZ}(h1:PG X e t)(h2:DY X es u)
  (hs:(assignEach aJ_ X.env).map C!=assign e X.env::(ms_).map C!:=by rfl):DY X aJ_ (Uh t u):=by
 intro B s Z H vs us Q I r h;obtain⟨v,vr,e1,h⟩:=h;subst e1;cases r with
 |cons r rr=>
  rw[hs];refine assignInOrder_cons (dH (h1 B s Z H _ _ _ I r h) λ_ s1 ⟨dt,H1,I1,q1⟩=>?_);exact h2 B s1 dt H1 _ _ Q I1 rr q1
def AV(K:yN!)(n:Nat)(t:AZ):TG:=λv Z H Q=>∃a xs,v=.ref a/\Fz K H a xs/\i!=n/\t xs Z H Q
def b9b{es:bL_}{k:Nat}{t:AZ}{n:Nat}(L:aD_)(h:DY X es t)
  (hn:(ms_).length=n:=by rfl)(bz:(ms_).findIdx? c!=none:=by rfl):PG X (.Tuple es k pos) (AV X.K n t):=by
 intro B s Z H v u Q I r hw;obtain⟨a,xs,e1,hq,hl,hw⟩:=hw;subst e1;cases r;obtain⟨its,rv,ht,hz⟩:=I.tuple hq;refine assign_Tuple_tuple a4! ht (by simp[hn,<-hl,rv.length]) bz λh' Y=>?_;have I1:Inv X B Z H {s with heap:=h'}:=I.kept (t':=s.toks) λb o e=>Y b o (JP c0!) e;exact h B _ Z H xs _ Q I1 (by simpa using rv) hw
def FG(to ti:TE)(t:Zg):TG:=λv Z H Q=>to Z H λo H1=>ti Z H1 λi H2=>t o i v H2 λH3=>Q Z H3
def b9c{o:Expr}{to ti:TE}{t:Zg}(ho:PE X o to)(hi:PE X i ti)(hs:Wp X t)
  (ha:∀v,assign sb_ X.env v=(do
   let ov <-holding [v] dR!
   let iv <-holding [v,ov] sc!
   standAt pos
   holding eW_ mv!
   release eW_ []):=by intro _;rfl):PG X sb_ (FG to ti t):=by
 intro B s Z H v u Q I r h;rw[ha];refine HR (JX (dH sc_ λov s1 ⟨x,H1,I1,r1,q1⟩=>?_));refine HR (JX (dH (hi B s1 Z H1 _ I1 q1) λiv s2 ⟨y,H2,I2,r2,q2⟩=>?_));refine HR (RB (HR (JX (dH (hs B s2 Z H2 x y v ov iv u _ I2 r1 r2 r q2) λ_ s3 ⟨H3,I3,q3⟩=>?_))));exact wpAny_release ⟨Z,H3,I3,q3⟩
def AE(te:TE)(g:TG):TS:=λD Z H=>te Z H λx H1=>g x Z H1 D.nx
def b8w{tg e:Expr}{te:TE}{g:TG}(he:cw_)(hg:mw_)(hs:swapsWithSole [tg] e pos.line X.env=pure false:=by rfl)(hw:swappedStores [tg] e X.env=pure none:=by rfl)
  (h1:(assignEach [tg] X.env).map C!=[assign tg X.env]:=by rfl):PS X (.Assign [tg] e pos) (AE te g):=by
 intro B s Z H D I h;refine wpAny_Assign_stores sd_ hs hw;rw[h1];exact dH (hg B s1 Z H1 x v _ I1 r1 q1) λ_ s2 q=>q
def a9w{i:Nat}{x:Str}{e:Expr}{te:TE}{ik:Pos}(hN:bv_)(hi:an!)(Y:bw!)(he:cw_)(hs:swapsWith e (some iJ_) pos.line X.env=pure false:=by rfl)(hf:X.fn x=true\/X.env.scope.names.lookup x=some .local:=by first|exact .inl rfl|exact .inr rfl|assumption):
  PS X (.Assign [.Name x ik] e pos) (AE te eW!):=by
 intro B s Z H D I h;refine wpAny_Assign_Name (dH c5_ λv s1 ⟨y,H1,I1,r1,q1⟩=>?_) hs;exact vM I1 hN hi Y r1 (λs2 I2=>⟨_,H1,I2,q1⟩) hf
def ES(i:Nat)(te:TE)(ti:DU):TS:=λD Z H=>∃x,Z[i]?=some gq_/\te Z H λy H1=>ti x y H1 λz H2=>D.nx (Z.set i (some z)) H2
def c8l{i:Nat}{x:Str}{e:Expr}{te:TE}{op:Operator}{ti:DU}{ik:Pos}(hN:bv_)(hi:an!)(Y:bw!)(he:cw_)(ho:GN X op ti)(hf:X.fn x=true\/X.env.scope.names.lookup x=some .local:=by first|exact .inl rfl|exact .inr rfl|assumption):
  PS X (.AugAssign iJ_ op e pos) (ES i te ti):=by
 intro B s Z H D I h;obtain⟨v,e1,h⟩:=h;obtain⟨m,hn,hl⟩:=I.loc;have YR:Xz X.env.scope x:=by obtain k|k:=Y;exact .inl k;exact .inr (.inl k)
 obtain⟨u,r,l⟩:=hl i x v hi e1 YR;refine wpAny_AugAssign_Name ?_;have go:wpAny e_ X.A eQ! (λw am=>wpAny e_ X.A (inplaceOp op u w) (λr du=>wpAny e_ X.A (storeName X.env x r) (λ_=>SP X B D .next) X.xe du) X.xe am) X.xe s:=by
  refine dH c5_ λw s1 ⟨y,H1,I1,r1,q1⟩=>?_;refine dH (ho B s1 Z H1 v y u w _ I1 r r1 q1) λz s2 ⟨zv,H2,I2,r2,q2⟩=>?_;exact vM I2 hN hi Y r2 (λs3 I3=>⟨_,H2,I3,q2⟩) hf
 obtain⟨hk,hm⟩|⟨hk,c,L,cf⟩:=l
 .exact wpAny_loadName_local I.ok.kind hk hn hm go
 .obtain hk|hk:=hk
  .exact wpAny_loadName_cell I.ok.kind hk L cf go
  .obtain k|k:=Y
   .show"!g"
   .show"!g"
def HD(f:mx!):DU:=λx y H Q=>∃i j,x=.int i/\y=.int j/\Q (.int (f i j)) H
def c9y:GN X .Add (HD λi j=>i+j):=by intro B s Z H x y v u Q I r1 r2 h;obtain⟨i,j,e1,e2,q⟩:=h;subst e1;subst e2;obtain⟨t,rfl⟩:=r1;obtain⟨t',rfl⟩:=r2;exact iadd_int iL!
def AC(c:TT)(tb:TS):TS:=λD Z H=>∃W:Nat->St->Hp->Prop,(∃m,W m Z H)/\∀m Z H,W m Z H->
 c Z H λb H1=>if b=true then∃N:St->Hp->Prop,(∀hr H',N hr H'->∃m',m'<m/\W m' hr H')/\tb {D with nx:=N,ct:=N,bk:=D.nx} Z H1 else D.nx Z H1
def b8t{c:Expr}{body:b5!}{tc:TT}{tb:TS}(hp:gr!)(L:PT X c tc)(hb:Ul X body tb):PS X sf_ (AC tc tb):=by
 intro B s Z H D I h;obtain⟨W,⟨m0,w0⟩,turn⟩:=h;refine wpAny_While (codeAny_whileLoop (λn s'=>∃hr H',Inv X B hr H' s'/\W n hr H') ?_ m0 ⟨Z,H,I,w0⟩);rintro n s1 ⟨dt,H1,I1,w1⟩;refine OH hp (dH (L B s1 dt H1 _ I1 (turn n dt H1 w1)) λb s2 ⟨H2,I2,q2⟩=>?_);cases b with
 |true=>
  obtain⟨N,hN,q2⟩:=q2;rw[l_];refine OH hp (dH (hb B s2 dt H2 _ I2 q2) λf s3 q3=>?_);cases f with
  |next=>
   show"!b"
  |cont=>
   show"!b"
  |brk=>exact q3
  |ret v=>exact q3
 |false=>
  rw[IA IZ];exact RO ⟨dt,H2,I2,q2⟩
end
structure It where
 go:Nat->Hp->Prop
 yld:Nat->Hp->V->Hp->Prop
 stop:Nat->Hp->Prop
def Ga(X:Cx)(B:o_)(H:Hp)(b:xY!):Prop:=
 H b=none/\b≠X.env.locals/\b∉X.fs/\is!/\is_/\∀p∈X.pn++B,p.1≠b
def Inv.fpOk{X:Cx}{B:o_}{Z:St}{H H':Hp}{s:yM!}{b:xY!}(I:d_)(hb:k_<=b)(hn:H' b=none):Ga X B H' b:=by
 refine⟨hn,OO (JD I.lt hb),I.nofs hb,.inr (JL I.sz hb),λx c e z=>?_,λp hp z=>?_⟩
 .obtain⟨v,q⟩:=I.cell x c e;exact absurd (JD q.lt sh_) dK!
 .exact absurd (JD si! sh_) dK!
structure Td(P:yJ!)(w:ys!)(K:yN!)(tg:Expr)(ab:It)(fp:av!)(it:xY!)(tn:dS_):Prop where
 mem:it∈fp
 obj:∀i h,tn i h->∀b∈fp,∃o,h.get? b=some o/\∀v,o.data≠.cell v
 keep:∀i h h',tn i h->(∀b∈fp,∀o,h.get? b=some o->h'.get? b=some o)->tn i h'
 item:∀(X:Cx),X.prog=P->X.w=w->X.K=K->X.calm=true->∀(i:Nat) (B:o_) (s:yM!) (Z:St) (H:Hp) (E:p!),Inv X B Z H s->mz!->tn i s.heap->ab.go i H->
  wpAny L_ X.A iM_ (λr s1=>∃u,r=some u/\
   wpAny L_ X.A si_ (λ_ s2=>∃x H',Inv X B Z H' s2/\Bq x u/\ab.yld i H x H'/\tn X! s2.heap/\∀b∈fp,H' b=none) E s1) E s
 done:∀(X:Cx),X.prog=P->X.w=w->X.K=K->X.calm=true->∀(i:Nat) (B:o_) (s:yM!) (Z:St) (H:Hp) (E:p!),Inv X B Z H s->mz!->tn i s.heap->ab.stop i H->
  wpAny L_ X.A iM_ (λr s1=>r=none/\Inv X B Z H s1) E s
 self:∀(A:yg!) (i:Nat) (s:yM!) (Q:p!) (E:p!),tn i s.heap->Q b8_ s->wpAny L_ A (pyIter b8_) Q E s
abbrev TI:=St->Hp->(It->Hp->Prop)->Prop
def DX(X:Cx)(B:o_)(Z:St)(tg:Expr)(R:gt!)(vm:yh!)(s2:yM!):Prop:=
 ∃(it:xY!) (fp:av!) (tn:dS_) (ab:It) (H':Hp),vm=.ref it/\Inv X B Z H' s2/\Td X.prog X.w X.K tg ab fp it tn/\tn 0 s2.heap/\(∀b∈fp,Ga X B H' b)/\R ab H'
def PI(X:Cx)(tg iter:Expr)(wi:TI):Prop:=
 ∀(B:o_) (s:yM!) (Z:St) (H:Hp) (R:gt!),Inv X B Z H s->wi Z H R->
  wpAny e_ X.A (eval iter X.env) (λv s1=>wpAny e_ X.A (pyIter v) sj_ X.xe s1) X.xe s
def c1p{M:Model}{A:yg!}{E:p!}{s:yM!}{tg:Expr}{u:yh!}{o:Obj}{n:String}{vs:O!}{Q:c1!}(ho:s.heap.get? it=some o)(L:o.cls=.type n)(hd:o.data=.fields vs)
  (hn:(sk!).contains n=false)(hQ:Q () s):wpAny M A si_ Q E s:=by
 unfold letOwnedTupleGo;cases tg<;>first
  |exact HU hQ
  |(cases u<;>first
    |exact HU hQ
    |(refine HR (wpAny_load ho ?_);rw[L,hd];show wpAny M A (if((sk!).contains n&&vs[0]?==some (rawInt _))=true then _ else _) Q E s;rw[IA (by intro h;rw[hn,Bool.false_and]at h;cases h)];exact HU hQ))
def FP(K:yN!)(a:xY!):It:=
 ⟨λi H=>∃xs x,Fj K H a xs/\xs[i]?=some x,λi H x H'=>H'=H/\∀xs,Fj K H a xs->xs[i]?=some x,λi H=>∃xs,Fj K H a xs/\i!<=i⟩
def HQ(K:yN!)(a:xY!):It:=
 ⟨λi H=>∃xs x,Fz K H a xs/\xs[i]?=some x,λi H x H'=>H'=H/\∀xs,Fz K H a xs->xs[i]?=some x,λi H=>∃xs,Fz K H a xs/\i!<=i⟩
def CZ(lo:Int)(n:Nat):It:=⟨λi _=>i<n,λi H x H'=>H'=H/\x=.int (lo+i),λi _=>n<=i⟩
def b4r{P:yJ!}{w:ys!}{K:yN!}{tg:Expr}(a it:xY!):Td P w K tg (FP K a) [it] it (λi h=>h.IsListIter it a i) where
 mem:=by simp
 obj:=λi h st b hb=>by
  have e:b=it:=by simpa using hb
  subst e;show"!~"
 keep:=λi h h' st k=>st.at λo e=>k it d! o e
 item:=by
  show"!0";obtain⟨xs,x,hq,Y⟩:=hg;obtain⟨its,rv,p,hz⟩:=I.list hq;obtain⟨u,hu,ru⟩:=rv.get Y;show"!2";refine wpAny_pyNext_list_item st p.isList (x:=u) sl_ λh' hx sb=>?_;have I1:Inv X B Z H {s with heap:=h'}:=I.turned (t':=s.toks) sm! f0 f1 f3 f4 f5;obtain⟨o,e,c,d⟩:=id hx;exact⟨u,rfl,c1p (s:=mA_) e c d b_ ⟨x,H,I1,ru,⟨rfl,λys hy=>by rw[I.list_inj hy hq];exact Y⟩,hx,mB_⟩⟩
 done:=by
  show"!0";obtain⟨xs,hq,Y⟩:=hg;obtain⟨its,rv,p,hz⟩:=I.list hq;show"!2";have hl:=eX_;exact wpAny_pyNext_list_end a4! st p.isList bh_ λh' eb=>mC!
 self:=λ_ _ _ _ _ st h=>wpAny_pyIter_listiter st h
def a9a{P:yJ!}{w:ys!}{K:yN!}{tg:Expr}(it:xY!)(lo:Int)(n:Nat):Td P w K tg (CZ lo n) [it] it (λi h=>IsRangeIter h it (lo+(i:Nat)*1) ((n:Int) - (i:Nat)) 1) where
 mem:=by simp
 obj:=λi h st b hb=>by
  have e:b=it:=by simpa using hb
  subst e;exact⟨_,st,λv z=>by
   have z':Data.fields _=Data.cell v:=z;cases z'⟩
 keep:=λi h h' st k=>k it d! _ st
 item:=by
  show"!0";show"!2";have W:=Walks.range (prog:=X.prog) (w:=X.w) a4! it lo 1 n;refine W.item i s _ _ hg st λv h' tk hv hx kk=>?_;obtain⟨t,rfl⟩:=hv;show"!^";refine⟨_,rfl,c1p (s:={s with heap:=h',toks:=tk}) (n:="range_iterator") hx rfl rfl b_ ⟨.int (lo+i),H,I1,⟨t,?_⟩,bz_,hx,mB_⟩⟩;rw[Int.mul_one]
 done:=by
  show"!0";show"!2";exact wpAny_pyNext_range_end a4! st (by have:n<=i:=hg;omega) λh' eb=>mC!
 self:=λ_ _ _ _ _ st h=>wpAny_pyIter_rangeiter st h
end L2
namespace L2
open PySem PySem.Spec PyProof.Rows
section
variable{X:Cx}{tg:Expr}
def CQ(K:yN!)(tl:TE):TI:=λZ H R=>tl Z H λx H1=>∃a,x=.ref a/\(∃xs,Fj K H1 a xs)/\R (FP K a) H1
def FF(K:yN!)(tl:TE):TI:=λZ H R=>tl Z H λx H1=>∃a,x=.ref a/\(∃xs,Fz K H1 a xs)/\R (HQ K a) H1
def b2y{l:Expr}{tl:TE}(hl:PE X l tl):PI X tg l (CQ X.K tl):=by
 intro B s Z H R I h;refine dH sn! λv s1 ⟨x,H1,I1,r1,q1⟩=>?_;obtain⟨a,e,⟨xs,hq⟩,q⟩:=q1;subst e;cases r1;obtain⟨its,rv,p,hz⟩:=I1.list hq;refine wpAny_pyIter_list p.isList ?_;refine⟨z!,[z!],_,_,H1,rfl,mD!,b4r a _,eY!,aS!,q⟩;have e:b=z!:=by simpa using hb
 show"!m"
def a6c{B:o_}{Z:St}{H:Hp}{s:yM!}{R:gt!}{E:p!}{lo hi:Int}{t u v:Tok}{tk:Nat}(I:d_)(h1:-gv!<=lo)(h2:lo<2 ^ 62)(h3:-gv!<=hi)(h4:hi<2 ^ 62)
  (q:R (CZ lo (mE!).toNat) H):wpAny e_ X.A (pyIter bA!) sj_ E {s with heap:=s.heap.push {cls:=.type "range",data:=.fields #[.int lo t,.int hi u,.int 1 v]},toks:=tk}:=by
 refine wpAny_pyIter_range (IsRange.new ..) (small_one h1 h2 h3 h4) ?_;have I1:Inv X B Z H {s with heap:=s.heap.push {cls:=.type "range",data:=.fields #[.int lo t,.int hi u,.int 1 v]},toks:=tk}:=I.kept λb o e=>HX _ e;refine⟨(mE_).objs.size,[(mE_).objs.size],_,_,H,rfl,
  I1.kept (t':=tk) λb o e=>HX _ e,a9a _ lo (mE!).toNat,?_,λb hb=>?_,q⟩
 .have e1:lo+eY_*1=lo:=by simp
  have e2:sn_ - eY_=Builtin.Range.rangeSize lo hi 1:=by rw[rangeSize_one];split<;>omega
  show IsRangeIter _ _ (lo+eY_*1) (sn_ - eY_) 1;rw[e1,e2];exact IY _ rfl
 .have e:b=(mE_).objs.size:=by simpa using hb
  show"!m"
def CP(ta:TA):TI:=λZ H R=>ta Z H λvs H1=>∃j:Int,vs=[dV_]/\-gv!<=j/\j<2 ^ 62/\R (CZ 0 j.toNat) H1
def CO(ta:TA):TI:=λZ H R=>ta Z H λvs H1=>∃i j:Int,vs=[b6!,dV_]/\(-gv!<=i/\i<2 ^ 62/\-gv!<=j/\j<2 ^ 62)/\R (CZ i (j - i).toNat) H1
def b5k{a:Expr}{ta:TA}{p pos:Pos}(hg:iP_)(hm:iQ!)(ha:PA X [a] ta)(hs:so_:=by rfl):PI X tg sp! (CP ta):=by
 intro B s Z H R I h;refine Call_ (jQ I hg hm boot_range (KP mG_ hs rfl));obtain⟨j,e,q1,q2,q⟩:=q1;subst e;cases r1 with
 |cons r rr=>
  cases rr;obtain⟨t,rfl⟩:=r;exact call_range_1 (a6c I1 a! a! q1 q2 (by simpa using q))
def b5j{a b:Expr}{ta:TA}{p pos:Pos}(hg:iP_)(hm:iQ!)(ha:PA X aj_ ta)(hs:sp_:=by rfl)(bi:sq!:=by rfl):
  PI X tg sq_ (CO ta):=by
 intro B s Z H R I h;refine Call_ (jQ I hg hm boot_range (KP mG_ (by rw[hs,bi]) (by rw[bi];rfl)));obtain⟨i,j,e,⟨q1,q2,q3,q4⟩,q⟩:=q1;subst e;cases r1 with
 |cons r rr=>
  cases rr with
  |cons r' rr=>
   cases rr;obtain⟨t,rfl⟩:=r;obtain⟨t',rfl⟩:=r';exact call_range_2 (a6c I1 q1 q2 q3 q4 q)
def EQ(wi:TI)(g:TG)(tb:TS):TS:=λD Z H=>wi Z H λab H1=>∃W:Nat->Nat->St->Hp->Prop,(∃m,W 0 m Z H1)/\∀i m Z H,W i m Z H->
 (ab.stop i H/\D.nx Z H)\/(ab.go i H/\∃N:St->Hp->Prop,(∀hr H',N hr H'->∃m',m'<m/\W X! m' hr H')/\∀x H',ab.yld i H x H'->g x Z H' λc9 H2=>tb {D with nx:=N,ct:=N,bk:=D.nx} c9 H2)
def Rb(fp:av!)(h:Heap):List eO!:=fp.filterMap λb=>(h.get? b).map λo=>(b,o)
def jC{fp:av!}{h:Heap}{b:xY!}{o:Obj}(hb:b∈fp)(e:ra!):(b,o)∈Rb fp h:=NP.mpr ⟨b,hb,by rw[e];rfl⟩
def b5z{fp:av!}{h:Heap}{p:Addr×Obj}(hp:p∈Rb fp h):p.1∈fp/\h.get? p.1=some p.2:=by
 obtain⟨b,hb,e⟩:=NP.mp hp;cases q:h.get? b with
 |none=>rw[q]at e;cases e
 |some o=>
  rw[q]at e;have e':(b,o)=p:=JY e;subst e';exact⟨hb,q⟩
def Inv.pinned{B:o_}{Z:St}{H:Hp}{s:yM!}{fp:av!}(I:d_)(hf:∀b∈fp,Ga X B H b)(ho:∀b∈fp,∃o,s.heap.get? b=some o/\∀v,o.data≠.cell v):Inv X (B++Rb fp s.heap) Z H s:=
 I.pins_of λp hp=>(IK.mp hp).elim (λz=>I.pin p (IE _ z)) λz=>by
  obtain⟨hb,e⟩:=b5z z;obtain⟨f0,f1,f2,_⟩:=hf p.1 hb;obtain⟨o,e',d⟩:=ho p.1 hb;rw[e]at e';cases e';exact⟨e,f0,f1,f2,d⟩
def Inv.unpinned{B pl:o_}{Z:St}{H:Hp}{s:yM!}(I:Inv X (B++pl) Z H s):Inv X B Z H s:=I.pins_of λp hp=>I.pin p (IE _ (JE _ hp))
def b8v{body:b5!}{wi:TI}{g:TG}{tb:TS}{pos:Pos}(hp:gr!)(L:aD_)(hi:mH!)(hg:mw_)(hb:Ul X body tb)
  (hs:c9!:=by intro _;rfl):PS X sr! (EQ wi g tb):=by
 intro B s Z H D I h;refine wpAny_For (dH (hi B s Z H _ I h) λv s1 h1=>dH h1 λvm s2 h2=>?_) hs;obtain⟨it,fp,tn,ab,H2,e,I2,T,bg,f2,W,⟨m0,w0⟩,turn⟩:=h2;subst e;have mi:∀{H':Hp},gw_->∀b∈fp,Ga X B H' b:=λhn b hb=>⟨hn b hb,(dW_).2⟩;refine codeAny_forLoop_any (λn s'=>∃i hr H',Inv X B hr H' s'/\tn i s'.heap/\gw_/\W i n hr H') ?_ m0 ⟨0,Z,H2,I2,bg,ss!,w0⟩;rintro n s3 ⟨i,gn,H3,I3,vn,UM,w3⟩;obtain⟨stop,qn⟩|⟨go,N,hN,step⟩:=turn i n gn H3 w3
 .refine OH hp (dH (T.done X rfl rfl rfl L i B s3 gn H3 X.xe I3 (mi UM) vn stop) λr s4 ⟨J,I4⟩=>?_);subst J;exact RO ⟨gn,H3,I4,qn⟩
 .refine OH hp (dH (T.item X rfl rfl rfl L i B s3 gn H3 X.xe I3 (mi UM) vn go) λr s4 ⟨u,J,h4⟩=>?_);subst J;refine OH hp (dH h4 λ_ s5 ⟨x,H5,I5,r5,y5,mj,xx⟩=>?_);have xy:=I5.pinned (mi xx) st!;refine OH hp (dH (hg _ s5 gn H5 x u _ xy r5 st_) λ_ s6 ⟨li,H6,I6,q6⟩=>?_);refine OH hp (dH (hb _ s6 li H6 _ I6 q6) λf s7 q7=>?_);have again:∀{ir:St} {H7:Hp},Inv X (B++Rb fp s5.heap) ir H7 s7->N ir H7->∃m,m<n/\∃i hr H',Inv X B hr H' s7/\tn i s7.heap/\gw_/\W i m hr H':=λ{ir H7} I7 n7=>by
   obtain⟨m',hm,w7⟩:=hN ir H7 n7;refine⟨m',hm,i+1,ir,H7,iU!,T.keep _ _ _ mj λb hb o e=>(su_).1,aS!,w7⟩;obtain⟨o,e,d⟩:=T.obj _ _ mj b hb;exact(su_).2.1
  cases f with
  |next=>obtain⟨ir,H7,I7,n7⟩:=q7;exact again I7 n7
  |cont=>obtain⟨ir,H7,I7,n7⟩:=q7;exact again I7 n7
  |brk=>obtain⟨ir,H7,I7,q7⟩:=q7;exact⟨ir,H7,iU!,q7⟩
  |ret v=>obtain⟨x7,ir,H7,I7,r7,q7⟩:=q7;exact⟨x7,ir,H7,iU!,r7,q7⟩
end
end L2
namespace L2
open PySem PySem.Spec PyProof.Rows
abbrev R2:=V->V->Hp->VK->Prop
def Gr(X:Cx)(f:eZ_)(r:R2):Prop:=
 ∀(B:o_) (s:yM!) (Z:St) (H:Hp) (x y:V) (v u:yh!) (Q:VK),Inv X B Z H s->Bq x v->Bq y u->r x y H Q->
  wpAny e_ X.A (f v u) aI_ X.xe s
def FK(X:Cx)(f:sv!)(r:mH_):Prop:=
 ∀(B:o_) (s:yM!) (Z:St) (H:Hp) (x:V) (v:yh!) (Q:VK),Inv X B Z H s->Bq x v->r x H Q->
  wpAny e_ X.A (f v) aI_ X.xe s
def Jd(X:Cx)(f:yh!)(r:c9_):Prop:=
 ∀(B:o_) (s:yM!) (Z:St) (H:Hp) (xs:m_) (us:j!) (Q:VK),Inv X B Z H s->Be xs us->r xs H Q->
  wpAny e_ X.A (call f us) aI_ X.xe s
def FL(X:Cx)(r:V->Hp->rB_->Prop):Prop:=
 ∀(B:o_) (s:yM!) (Z:St) (H:Hp) (x:V) (v:yh!) (Q:dO!),Inv X B Z H s->Bq x v->r x H Q->
  wpAny e_ X.A mg_ iz_ X.xe s
def BF(r:R2)(ta tb:TE):TE:=λZ H Q=>ta Z H λx H1=>tb Z H1 λy H2=>r x y H2 Q
def GX(r:mH_)(ta:TE):TE:=λZ H Q=>ta Z H λx H1=>r x H1 Q
nonrec def rI(C:mI!)(g:iU_):R2:=λx y H Q=>∃i j,x=.int i/\y=.int j/\C i j/\Q bB! H
def Sq(g:iU_):R2:=λx y H Q=>∃i j,x=.int i/\y=.int j/\Q bB! H
nonrec def rU(g:Int->V):V->Hp->VK->Prop:=λx H Q=>∃i,x=.int i/\Q (g i) H
section
variable{X:Cx}{a b c:Expr}{ta tb tc:TE}{pos:Pos}
def d1c(ha:a1_)(hb:cu_){B:o_}{s:yM!}{Z:St}{H:Hp}{R:rF_}(I:d_)
  (h:rF!){Q:p!}{f:eZ_}
  (hf:rG!):
  wpAny e_ X.A ma_ rH_ X.xe s:=by
 show"!9"
def b3a{op:Operator}{r:R2}(ho:mI_)(ha:a1_)(hb:cu_):PE X mJ! iW!:=by intro B s Z H Q I h;exact wpAny_BinOp sv_
def d2f{op:UnaryOp}{r:mH_}(ho:FK X (unaryOp op) r)(ha:a1_):PE X (.UnaryOp op a pos) (GX r ta):=by intro B s Z H Q I h;exact UnaryOp_ (dH b5_ λv s1 ⟨x,H1,I1,r1,q1⟩=>ho B s1 Z H1 x v Q I1 r1 q1)
def opI{f:eZ_}{C:mI!}{g:mx!}
  (rule:∀(i j:Int) (t u:Tok) (s:yM!) (Q:p!) (E:p!),C i j->Q sx! {s with toks:=s.toks+1}->wpAny e_ X.A mK! Q E s):
  Gr X f (rI C λi j=>.int bB!):=by
 intro B s Z H x y v u Q I rx ry h;obtain⟨i,j,rfl,rfl,L,q⟩:=h;show"!A";obtain⟨t',rfl⟩:=ry;exact rule i j t t' s _ _ L sx_
def d2l{f:eZ_}{g:mx!}
  (rule:∀(i j:Int) (t u:Tok) (s:yM!) (Q:p!) (E:p!),Q sx! {s with toks:=s.toks+1}->wpAny e_ X.A mK! Q E s):
  Gr X f (Sq λi j=>.int bB!):=by
 show"!J";exact rule i j t t' s _ _ sx_
def c4t{f:eZ_}{g:mL!}
  (rule:∀(i j:Int) (t u:Tok) (s:yM!) (Q:p!) (E:p!),Q (.bool bB!) s->wpAny e_ X.A mK! Q E s):
  Gr X f (Sq λi j=>.bl bB!):=by
 show"!J";exact rule i j t t' s _ _ ⟨.bl bB!,H,I,rfl,q⟩
def BD(i j:Int):Prop:=0<j/\j<1073741824
def BC(i j:Int):Prop:=0<=j/\j<=1000000/\gy_<2 ^ 64
def Yd(i j:Int):Prop:=(-iW_<i/\i<2 ^ 64)\/(-iW_<j/\j<2 ^ 64)
def Yd.ok{i j:Int}(h:Yd i j):IntMulOk i j:=by
 obtain⟨h1,h2⟩|⟨h1,h2⟩:=h
 .exact .of_left sA_
 .exact .of_right sA_
def c8x:Gr X e1! (Sq λi j=>.int (i+j)):=d2l λ_ _ _ _ _ _ _ q=>add_int q
def rY:Gr X (binaryOp .Sub) sC!:=d2l λ_ _ _ _ _ _ _ q=>sub_int q
def rZ:Gr X sC_ mN_:=opI λ_ _ _ _ _ _ _ L q=>mul_int q L.ok
def nH:Gr X (binaryOp .FloorDiv) mO!:=opI λi j _ _ _ _ _ L q=>by
 have h1:(0:Int)<j:=L.1;have h2:j<1073741824:=L.2;exact floordiv_int a! (by rw[Int.fdiv_eq_ediv_of_nonneg i a!];exact q) (.inl (PyProof.noPylong_small a!))
def eV:Gr X (binaryOp .Mod) mO_:=opI λi j _ _ _ _ _ L q=>by
 have h1:(0:Int)<j:=L;exact mod_int' a! (by rw[Int.fmod_eq_emod_of_nonneg i a!];exact q)
def c8r:Gr X (binaryOp .Pow) mP_:=opI λ_ _ _ _ _ _ _ L q=>pow_int_small L.1 L.2.1 L.2.2 q
def unI{f:sv!}{g:Int->Int}
  (rule:∀(i:Int) (t:Tok) (s:yM!) (Q:p!) (E:p!),Q (.int (g i) s.toks) {s with toks:=s.toks+1}->wpAny e_ X.A (f dH_) Q E s):
  FK X f (rU λi=>.int (g i)):=by
 intro B s Z H x v Q I rx h;obtain⟨i,rfl,q⟩:=h;show"!A";exact rule i t s _ _ ⟨.int (g i),H,a2!,H!,q⟩
def c7x:FK X (unaryOp .USub) (rU λi=>.int (-i)):=unI λ_ _ _ _ _ q=>neg_int q
end
def EU:V->V->Bool
 |.non,.non=>true|.non,.int _=>true|.int _,.non=>true|.non,.bl _=>true|.bl _,.non=>true|.non,.str _=>true|.str _,.non=>true
 |.int _,.int _=>true|.bl _,.bl _=>true|.str _,.str _=>true|.byt _,.byt _=>true
 |.int _,.str _=>true|.str _,.int _=>true|.bl _,.str _=>true|.str _,.bl _=>true
 |_,_=>false
def FZ:R2:=λx y H Q=>EU x y=true/\Q (.bl (!decide (x=y))) H
def b4b{i j:Int}:decide (V.int i=V.int j)=(i==j):=by rw[LU];simp
def d0o{i j:Bool}:decide (V.bl i=V.bl j)=(i==j):=by rw[LU];simp
def b4a:decide (V.str i=V.str j)=(i==j):=by rw[LU];simp
def c6g{i j:Array UInt8}:decide (V.byt i=V.byt j)=(i.toList==j.toList):=by rw[LU];cases i;cases j;simp
section
variable{X:Cx}{a b c:Expr}{ta tb tc:TE}{pos:Pos}
def eR{B:o_}{Z:St}{H:Hp}{s:yM!}{Q:VK}{k k':Bool}(I:d_)(q:Q (.bl k) H)(e:k=k'):EP X B Z Q (.bool k') s:=by subst e;exact⟨.bl k,H,I,rfl,q⟩
def zU:Gr X sF_ FZ:=by
 intro B s Z H x y v u Q I rx ry h;obtain⟨hs,q⟩:=h;cases x with
 |non=>
  cases rx;cases y with
  |non=>cases ry;exact PySem.EqNone.ne_none_none bO_
  |bl j=>cases ry;exact PySem.EqNone.ne_none_bool bO_
  |int j=>obtain⟨t',rfl⟩:=ry;exact PySem.EqNone.ne_none_int bO_
  |str j=>obtain⟨t',rfl⟩:=ry;exact PySem.EqNone.ne_none_str bO_
  |_=>exact absurd e2! IZ
 |bl i=>
  cases rx;cases y with
  |non=>cases ry;exact PySem.EqNone.ne_bool_none bO_
  |bl j=>cases ry;exact ne_bool (eR I q (congrArg not d0o))
  |str j=>obtain⟨t',rfl⟩:=ry;exact PySem.EqMixed.ne_bool_str bO_
  |_=>exact absurd e2! IZ
 |int i=>
  obtain⟨t,rfl⟩:=rx;cases y with
  |non=>cases ry;exact PySem.EqNone.ne_int_none bO_
  |int j=>obtain⟨t',rfl⟩:=ry;exact ne_int (eR I q (congrArg not b4b))
  |str j=>obtain⟨t',rfl⟩:=ry;exact PySem.EqMixed.ne_int_str bO_
  |_=>exact absurd e2! IZ
 |str i=>
  obtain⟨t,rfl⟩:=rx;cases y with
  |non=>cases ry;exact PySem.EqNone.ne_str_none bO_
  |bl j=>cases ry;exact PySem.EqMixed.ne_str_bool bO_
  |int j=>obtain⟨t',rfl⟩:=ry;exact PySem.EqMixed.ne_str_int bO_
  |str j=>obtain⟨t',rfl⟩:=ry;exact ne_str (eR I q (congrArg not b4a))
  |_=>exact absurd e2! IZ
 |byt i=>
  obtain⟨t,rfl⟩:=rx;cases y with
  |byt j=>obtain⟨t',rfl⟩:=ry;exact W.ne_bytes (eR I q (congrArg not c6g))
  |_=>exact absurd e2! IZ
 |_=>cases y<;>exact absurd e2! IZ
def b3g:Gr X (compareOp .Lt) mT!:=c4t λ_ _ _ _ _ _ _ q=>lt_int q
def d2i:Gr X mT_ (Sq λi j=>.bl mU_):=c4t λ_ _ _ _ _ _ _ q=>le_int q
def b3h:Gr X sG_ mV!:=c4t λ_ _ _ _ _ _ _ q=>gt_int q
def d2k:Gr X (compareOp .GtE) mW_:=c4t λ_ _ _ _ _ _ _ q=>ge_int q
def a9z:Gr X sI! sI_:=by
 intro B s Z H x y v u Q I rx ry h;obtain⟨rfl,q⟩:=h;cases ry;refine is_none_gen (eR I q ?_);cases x<;>first
  |(cases rx;rfl)
  |(obtain⟨t,rfl⟩:=rx;rfl)
def nF:Gr X sJ_ sK_:=by
 intro B s Z H x y v u Q I rx ry h;obtain⟨rfl,q⟩:=h;cases ry;refine isnot_none_gen (eR I q ?_);cases x<;>first
  |(cases rx;rfl)
  |(obtain⟨t,rfl⟩:=rx;rfl)
def Gr.or{f:eZ_}{r r':R2}(h:Gr X f r)(h':Gr X f r'):Gr X f sL_:=by
 intro B s Z H x y v u Q I rx ry q;obtain q|q:=q
 .exact h B s Z H x y v u Q I rx ry q
 .exact h' B s Z H x y v u Q I rx ry q
def aP(b:Expr){op:CmpOp}(h:op≠.In:=by decide)(h2:op≠.NotIn:=by decide):behindInMarks op b=false:=by
 have e1:rN_=false:=by cases op<;>first|rfl|exact absurd rfl h
 have e2:rO!=false:=by cases op<;>first|rfl|exact absurd rfl h2
 cases b<;>simp[behindInMarks,e1,e2]
def b3c{op:CmpOp}{r:R2}(ho:b9_)(ha:a1_)(hb:cu_)(hm:dP_):PE X dQ! iW!:=by intro B s Z H Q I h;exact wpAny_Compare1 sv_ hm
def Zn(t:TE):TT:=λZ H Q=>t Z H λx H'=>∃k,x=.bl k/\Q k H'
def b2s{op:CmpOp}{r:R2}(ho:b9_)(ha:a1_)(hb:cu_)(hm:dP_):PT X dQ! (Zn iW!):=by
 intro B s Z H Q I h;refine RM (dH b5_ λv s1 ⟨x,H1,I1,r1,q1⟩=>dH gh! λu s2 ⟨y,H2,I2,r2,q2⟩=>
  dH mX! λc s3 ⟨z,H3,I3,r3,k,e,q3⟩=>?_) hm
 subst e;cases r3;exact KF ⟨H3,I3,q3⟩
def Xc(r r':R2)(ta tb tc:TE):TE:=λZ H Q=>ta Z H λx H1=>tb Z H1 λy H2=>r x y H2 λz H3=>∃k,z=.bl k/\
 (if k=true then tc Z H3 λw' H4=>r' y w' H4 Q else Q S_ H3)
def b9l{op fh:CmpOp}{r r':R2}(ho:b9_)(dh:iZ!)(ha:a1_)(hb:cu_)(L:PE X c tc)
  (hm:iZ_:=by with_unfolding_all rfl):PE X i0! sN_:=by
 intro B s Z H Q I h;refine Compare_chain (dH b5_ λv s1 ⟨x,H1,I1,r1,q1⟩=>chain_link (dH gh! λu s2 ⟨y,H2,I2,r2,q2⟩=>
  dH mX! λd s3 ⟨z,H3,I3,r3,k,e,q3⟩=>?_)) hm
 subst e;cases r3;refine KF ?_;cases k with
 |false=>exact ite_ff ⟨gn!,H3,I3,rfl,q3⟩
 |true=>exact ite_tt (chain_last (dH sN! λw' s4 ⟨z',H4,I4,r4,q4⟩=>dh B s4 Z H4 y z' u w' Q I4 r2 r4 q4))
def b8s{op fh:CmpOp}{r r':R2}(ho:b9_)(dh:iZ!)(ha:a1_)(hb:cu_)(L:PE X c tc)
  (hm:iZ_:=by with_unfolding_all rfl):PT X i0! (Zn sN_):=by
 intro B s Z H Q I h;refine isTrue_chain (dH b5_ λv s1 ⟨x,H1,I1,r1,q1⟩=>test_link (dH gh! λu s2 ⟨y,H2,I2,r2,q2⟩=>
  dH mX! λd s3 ⟨z,H3,I3,r3,k,e,q3⟩=>?_)) hm
 subst e;cases r3;refine KF ?_;cases k with
 |false=>
  obtain⟨k',e',q'⟩:=q3;cases e';exact ite_ff ⟨H3,I3,q'⟩
 |true=>
  refine ite_tt (test_last (dH sN! λw' s4 ⟨z',H4,I4,r4,q4⟩=>dH (dh B s4 Z H4 y z' u w' _ I4 r2 r4 q4) λd' s5 ⟨z2,H5,I5,r5,k2,e2,q5⟩=>?_));subst e2;cases r5;exact KF ⟨H5,I5,q5⟩
def CV(K:yN!)(x:V)(H:Hp)(k:Bool):Prop:=
 match x with
 |.non=>k=false
 |.bl b=>k=b
 |.int i=>k=gA_
 |.str y=>cB!<=sizeLine/\k=((cB!:Int) != 0)
 |.byt y=>y.size<=sizeLine/\k=((y.size:Int) != 0)
 |.ref p=>(∃xs,Fj K H p xs/\k=! dZ_)\/(∃xs,Fz K H p xs/\k=! dZ_)\/∃kvs,H p=some d0!/\k=! mY!
 |_=>False
def b0v{κ:Type}{kvs:gB!}{vs:List lN_}(r:KV kvs vs):(!vs.isEmpty)=! mY!:=by cases r<;>rfl
def xK{xs:m_}{its:j!}(r:Be xs its):(! mZ!)=! dZ_:=by cases r<;>simp
def sN:(sizeLine:Nat)<2 ^ 63:=by rw[KJ];decide
def c8a:FL X (λx H Q=>∃k,CV X.K x H k/\Q k H):=by
 intro B s Z H x v Q I rx h;obtain⟨k,e,q⟩:=h;have hl:=sN;have hs:sizeLine=16777216:=KJ;cases x with
 |non=>
  cases rx;have e':k=false:=e;subst e';exact truthy_none mZ_
 |bl b=>
  cases rx;have e':k=b:=e;subst e';exact KF mZ_
 |int i=>
  show"!A";have e':k=gA_:=e;subst e';exact PySem.P.truthy_int mZ_
 |str y=>
  show"!A";obtain⟨hy,e'⟩:cB!<=sizeLine/\k=((cB!:Int) != 0):=e;subst e';exact PySem.P.truthy_str a! ⟨H,a2!,q⟩
 |byt y=>
  show"!A";obtain⟨hy,e'⟩:y.size<=sizeLine/\k=((y.size:Int) != 0):=e;subst e';exact W.truthy_bytes a! ⟨H,a2!,q⟩
 |ref p=>
  cases rx;have e':(∃xs,Fj X.K H p xs/\k=! dZ_)\/(∃xs,Fz X.K H p xs/\k=! dZ_)\/∃kvs,H p=some d0!/\k=! mY!:=e;obtain⟨xs,Y,e'⟩|⟨xs,Y,e'⟩|⟨kvs,Y,e'⟩:=e'
  .subst e';obtain⟨its,r,pl,hz⟩:=I.list Y;have ao:=aR_;exact wpAny_truthy_list pl.isList i2_ sP!
  .subst e';obtain⟨its,r,pl,hz⟩:=I.tuple Y;have ao:=aR_;exact truthy_tuple pl i2_ sP!
  .subst e';obtain⟨hz,hS,vs,r,m⟩:aC_<=sizeLine/\(p==sysModules)=false/\∃vs,KV kvs vs/\s.heap.DictOf (mixKind X.prog X.w) p vs:=I.hok p _ Y;have ao:aC_=bC!:=NR r;exact wpAny_truthy_dict hS m a! ⟨H,a2!,by rw[b0v r];exact q⟩
 |_=>exact(sP_).elim
def b8q(ha:a1_)(he:∀dr,isTrue a X.env dr=(do let v <-dr;standAt a.pos;holding [v] mg_)):
  PT X a (λZ H Q=>ta Z H λx H'=>∃k,CV X.K x H' k/\Q k H'):=by
 show"!P";exact isTrue_plain (dH b5_ λv s1 ⟨x,H1,I1,r1,q1⟩=>c8a B s1 Z H1 x v Q I1 r1 q1) (he _)
def b0a:Gr X e1! (λx y H Q=>∃i j,x=.str i/\y=.str j/\i.length+j.length<=sizeLine/\Q (.str (i++j)) H):=by intro B s Z H x y v u Q I rx ry h;obtain⟨i,j,rfl,rfl,hz,q⟩:=h;obtain⟨t,rfl⟩:=rx;obtain⟨t',rfl⟩:=ry;exact add_str (λt' tk=>⟨.str (i++j),H,a2!,H!,q⟩) hz
def tH{x:V}(r:Be [x] us):∃u,us=[u]/\Bq x u:=by
 cases r with
 |cons r1 r2=>cases r2;exact⟨_,rfl,r1⟩
def a5g{x y:V}(r:Be [x,y] us):∃u w',us=[u,w']/\Bq x u/\Bq y w':=by
 cases r with
 |cons r1 r2=>
  cases r2 with
  |cons r3 r4=>cases r4;exact⟨_,_,rfl,r1,r3⟩
def c2x:Jd X sR_ sS_:=by intro B s Z H xs us Q I r h;obtain⟨i,rfl,q⟩:=h;obtain⟨u,rfl,t,rfl⟩:=tH r;exact call_abs_int λu tk=>⟨.int i4!,H,a2!,H!,q⟩
def b6w(L:aD_):Jd X sT_ sU_:=by
 intro B s Z H xs us Q I r h;obtain⟨i,j,rfl,q⟩:=h;obtain⟨u,w',rfl,⟨t,rfl⟩,⟨t',rfl⟩⟩:=a5g r;refine max_two_ints a4! λh' tk k=>⟨_,H,I.kept k,?_,q⟩;by_cases hj:j>i
 .rw[IL hj,IL hj];exact H!
 .rw[IA hj,IA hj];exact H!
def c2v:Jd X sV_ sW_:=by intro B s Z H xs us Q I r h;obtain⟨x,rfl,hz,q⟩:=h;obtain⟨u,rfl,t,rfl⟩:=tH r;exact ord_of_one hz iL!
def BA(K:yN!)(x:V)(H:Hp)(n:Nat):Prop:=
 match x with
 |.str y=>cB!<=sizeLine/\n=cB!
 |.byt y=>y.size<=sizeLine/\n=y.size
 |.ref p=>(∃xs,Fj K H p xs/\n=i!)\/∃xs,Fz K H p xs/\n=i!
 |_=>False
def cD:Jd X sX! (λxs H Q=>∃x n,xs=[x]/\BA X.K x H n/\Q d0_ H):=by
 intro B s Z H xs us Q I r h;obtain⟨x,n,rfl,e,q⟩:=h;obtain⟨u,rfl,rx⟩:=tH r;have hl:=sN;have hs:sizeLine=16777216:=KJ;cases x with
 |str y=>
  show"!A";obtain⟨hy,e'⟩:cB!<=sizeLine/\n=cB!:=e;subst e';exact len_str a! iL!
 |byt y=>
  show"!A";obtain⟨hy,e'⟩:y.size<=sizeLine/\n=y.size:=e;subst e';exact W.len_bytes a! iL!
 |ref p=>
  cases rx;have e':(∃xs,Fj X.K H p xs/\n=i!)\/∃xs,Fz X.K H p xs/\n=i!:=e;obtain⟨xs,Y,e'⟩|⟨xs,Y,e'⟩:=e'
  .subst e';obtain⟨its,r',pl,hz⟩:=I.list Y;have ao:=i5!;exact Calls.call_len_list pl.isList i2_ sY!
  .subst e';obtain⟨its,r',pl,hz⟩:=I.tuple Y;have ao:=i5!;exact len_tuple pl i2_ sY!
 |_=>exact(sP_).elim
end
end L2
namespace L2
open PySem PySem.Spec PyProof.Rows
structure Vi(h:Heap)(x dx C:xY!)(mA:A!):Prop where
 obj:h.get? x=some lP!
 ns:h.Ns1 dx mA
 ne:dx≠x
def b6g{h:Heap}{dx:xY!}{mA:A!}(n:h.Ns1 dx mA):∃od,h.get? dx=some od/\∀name,W.lookIn name od=some (mA name):=by
 obtain⟨o,es,ep,ho,hd,hk,_,hm⟩:=n;refine⟨o,ho,λname=>?_⟩;have e:=hm name;unfold nsFind findBy at e;rw[<-Array.find?_toList]at e;unfold W.lookIn;rw[hd];show"#7";split
 .rename_i y q;rw[q]at e;exact congrArg some e
 .rename_i q;rw[q]at e;have a:es.toList.any (·.refKey)=false:=by
   rw[List.any_eq_false];intro y hy;obtain⟨z,t,YS⟩:=hk y (Array.mem_toList_iff.mp hy);simp[DictEntry.refKey,YS]
  have a':¬es.toList.any (·.refKey)=true:=by rw[a];exact IZ
  rw[IA a'];exact congrArg some e
def Vi.look{h:Heap}{x dx C:xY!}{mA:A!}(I:Vi h x dx C mA):∃od,W.InstAt h x lP! C (some od)/\∀name,W.lookIn name od=some (mA name):=
 let⟨od,ho,hl⟩:=b6g I.ns
 ⟨od,⟨I.obj,rfl,rfl,ho⟩,hl⟩
section
variable{prog:yJ!}{w:ys!}{A:yg!}{E:Value->Shared->Prop}{s:yM!}{K:yN!}{x dx C f:xY!}{mA:Str->Option Value}{name:Str}{v:yh!}
def c5u{expr:Bool}{Q:p!}(X:i7!)(I:m2!)(hg:s0!)(hh:s0_)
  (ha:W.findIn K ax_ name=some none)(hv:mA name=some v)(YT:W.handedIn v=true)(h:Q v {s with toks:=s.toks+1}):
  wpAny q_ A (getAttr gc! name expr) Q E s:=by
 show"#=";exact W.get_value X ab (m3!).1 (W.findObj_own hh ha rfl (by rw[hl,hv])) YT h
def c1q{pl:d1!}{Q:s2!}(X:i7!)(I:m2!)(hg:s0!)
  (hf:W.findIn K ax_ name=some e5!)(ht:m3_)(hv:mA name=none)(h:Q (.ref f,[.ref x]) s):
  wpAny q_ A (getMethod gc! name pl) Q E s:=by
 show"#=";exact W.method_fn X ab (m3!).1 (m3!).2 hf (OB.mp ht) (by show(W.lookIn name od).map (·.isSome)=some false;rw[hl,hv];rfl) h
def c3p{ns:r_}{Q:c1!}(X:i7!)(I:m2!)
  (hs:W.findIn K ax_ "__setattr__"=some s3_)(hp:W.plainOver K C=true)(ht:W.takerIn K C name=some none)(hh:s0_)
  (hw:PySem.Within mA ns)(hsz:s4_)
  (h:∀h',Vi h' x dx C (λy=>if y=name then some v else mA y)->Heap.SameBut dx s.heap h'->Q () {s with heap:=h',toks:=s.toks+2}):
  wpAny q_ A (setAttr gc! name v) Q E s:=by
 show"#=";refine W.set_plain X ab hs (W.osa_open (s:=m4_) (r:=none) X ab hp ht λb=>?_);obtain⟨cd,L,xv⟩:=W.any_some hh;have Y:s.heap.get? x=some ⟨.ref C,some dx,.plain,#[]⟩:=I.obj;refine HR (HU (HR (HR (wpAny_loadPart Y (HR (W.Looks.here (s:=m4_) (W.looks_clsIn X L) ?_))))));rw[xv];refine HU (a:=some dx) (HR (HU gF_));refine wpAny_nsSet1 (s:=m4_) I.ns λh' jh bi=>?_;obtain⟨oD,esD,epD,xz,ya,YU⟩:=jh.count (PySem.Within.cons name v hw);refine HR (wpAny_lookBehind xz (by rw[ya];exact pastItsLine_dict (JL YU (by rw[IQ];omega))) ?_);exact HU (h _ ⟨(bi.2 _ (IB I.ne)).trans I.obj,jh,I.ne⟩ bi)
def c0s{R:s7_}{kw:d1_}(X:i7!)(hm:s8!)
  (hi:s8_)(hf:W.typeIn K ai!=some (.type "function"))
  (h:codeAny q_ (A.under (.builtin "type.__call__" ⟨.ref C::vs,kw⟩)) (.call ai! ⟨.ref ae!::vs,kw⟩) (W.InitBack ae! R)
   {s with heap:=(e7!).push ja!}):
  codeAny q_ A (.call ax_ ⟨vs,kw⟩) R s:=by
 obtain⟨hh,g,d,t,os⟩:=s;exact W.make_core (W.makes_of X hm) (W.looks_findIn X hi) (λself=>W.bind_fn X self hf) ai_ h
end
def Ld(f:Str)(v:V):List dI_->List dI_
 |[]=>[(f,v)]
 |(g,x)::r=>if g=f then(g,v)::r else(g,x)::Ld f v r
def tM(f g:Str)(v:V):∀fs:List dI_,(ja_).lookup g=if g=f then some v else fs.lookup g
 |[]=>by
  show List.lookup g [(f,v)]=_;by_cases h:g=f
  .have hb:(g==f)=true:=OB.mpr h;simp only[List.lookup,hb,IL h]
  .have hb:(g==f)=false:=KO.mpr h;simp only[List.lookup,hb,IA h]
 |(k,x)::r=>by
  have ih:=tM f g v r;rw[m9!];by_cases hk:k=f
  .rw[aU!];by_cases h:g=k
   .have hb:(g==k)=true:=OB.mpr h;simp only[List.lookup,hb,IL (h.trans hk)]
   .have hb:(g==k)=false:=KO.mpr h;simp only[List.lookup,hb,IA (λe:g=f=>h (e.trans hk.symm))]
  .rw[aE!];by_cases h:g=k
   .have hb:(g==k)=true:=OB.mpr h;simp only[List.lookup,hb,IA (λe:g=f=>hk (h.symm.trans e))]
   .have hb:(g==k)=false:=KO.mpr h;simp only[List.lookup,hb];exact ih
def sO(f:Str)(v:V):∀fs:List dI_,f∈(ja_).map c!/\∀g,g∈fs.map c!->g∈(ja_).map c!
 |[]=>⟨by simp[Ld],λg h=>by simp at h⟩
 |(k,x)::r=>by
  obtain⟨i1,i2⟩:=sO f v r;rw[m9!];by_cases hk:k=f
  .rw[aU!];subst hk;exact⟨G_,λg h=>by simpa using h⟩
  .rw[aE!];refine⟨?_,λg h=>?_⟩
   .rw[II];exact HZ _ i1
   .rw[II]at h ⊢;obtain e|e:=HY.mp h
    .exact HY.mpr (.inl e)
    .exact HZ _ (i2 g e)
def tQ(f:Str)(v:V):∀fs:List dI_,(ja_).length<=bu_+1
 |[]=>by simp[Ld]
 |(k,x)::r=>by
  have ih:=tQ f v r;rw[m9!];by_cases hk:k=f
  .rw[aU!,IQ,IQ];omega
  .rw[aE!,IQ,IQ];omega
def Oj.some_of{v:V}{o:nb!}(r:Oj dL_ o):∃u,o=some u/\Bq v u:=by
 cases o with
 |none=>exact(jb!).elim
 |some u=>exact⟨u,rfl,r⟩
def Oj.none_of{o:nb!}(r:Oj none o):o=none:=by
 cases o with
 |none=>rfl
 |some u=>exact(jb!).elim
def b6n{v:V}{u:yh!}(r:bw_):W.handedIn u=true:=by
 cases v with
 |non=>cases (show u=dI! from r);rfl
 |bl b=>cases (show u=Value.bool b from r);rfl
 |int i=>obtain⟨t,e⟩:=te_;cases e;rfl
 |str x=>obtain⟨t,e⟩:=tf!;cases e;rfl
 |byt b=>obtain⟨t,e⟩:=(show∃t,u=Value.bytes b t from r);cases e;rfl
 |flt b=>obtain⟨t,e⟩:=(show∃t,u=Value.float b t from r);cases e;rfl
 |ref a=>cases (show u=Value.ref a from r);rfl
 |ty n=>cases (show u=Value.type n from r);rfl
section
variable{P:yJ!}{w:ys!}{H H':Hp}{h h':Heap}{a C dx:xY!}{fs vg:List (Str×V)}
def a4j(hok:bv!)(e:jb_):∃mA,Vi h a dx C mA/\qX!/\PySem.Within mA lP_/\bu_<=1000/\H dx=some gb_:=by obtain⟨d,z,ne,ob,mA,n,r,q⟩:=(show Fd P w H h a e7_ from hok a _ e);exact⟨mA,⟨ob,n,ne⟩,r,q,z,d⟩
end
structure Us(K:yN!)(C:xY!):Prop where
 pg:W.plainGet K C Str.empty=true
 hd:W.hasDictIn K C=true
 po:W.plainOver K C=true
 sa:W.findIn K ax_ "__setattr__"=some s3_
def Us.get{K:yN!}{C:xY!}(c:Us K C)(f:Str):W.plainGet K C f=true:=c.pg
def Ef(K:yN!)(C:xY!)(f:Str):Prop:=W.findIn K ax_ f=some none
def Ef.taker{K:yN!}{C:xY!}{f:Str}(n:Ef K C f):W.takerIn K C f=some none:=by unfold W.takerIn;rw[show W.findIn K ax_ f=some none from n];rfl
structure Ws(K:yN!)(C:xY!)(m:Str)(f:xY!):Prop where
 at_:W.findIn K ax_ m=some e5!
 fn:W.isFn K ai!=true
 kp:W.keepIn K ai!=true
section
variable{X:Cx}{B:List (Addr×Obj)}{Z:St}{H:Hp}{s:yM!}{a C dx:xY!}{fs:List (Str×V)}{f:Str}{v:V}{A:yg!}{E:Value->Shared->Prop}
def b0y{b:Bool}{Q:p!}(I:d_)(e:jb_)(c:d3_)(n:Ef X.K C f)(l:fs.lookup f=some v)
  (h:∀u s',Inv X B Z H s'->Bq v u->Q u s'):wpAny e_ A (getAttr P! f b) Q E s:=by
 obtain⟨mA,b6,r,_,_,_⟩:=a4j I.hok e;obtain⟨u,hu,ru⟩:=Oj.some_of (v:=v) (o:=mA f) (by rw[<-l];exact r f);exact c5u I.kIn b6 (c.get f) c.hd n hu (b6n ru) (h u _ nc_ ru)
def pC{m:Str}{pl:d1!}{Q:s2!}(I:d_)(e:jb_)(c:d3_)(k:Ws X.K C m g)(l:fs.lookup m=none)
  (h:Q (.ref g,bi_) s):wpAny e_ A (getMethod P! m pl) Q E s:=by
 obtain⟨mA,b6,r,_,_,_⟩:=a4j I.hok e;have hn:mA m=none:=Oj.none_of (by rw[<-l];exact r m);exact c1q I.kIn b6 (c.get m) k.at_ k.fn hn h
def a9g{y:V}{u:yh!}{Q:c1!}(I:d_)(e:jb_)(c:d3_)(n:Ef X.K C f)(hl:bu_<1000)(ry:Bq y u)
  (h:∀s',Inv X B Z (upd H a tj_) s'->Q () s'):wpAny e_ A (setAttr P! f u) Q E s:=by
 obtain⟨mA,b6,r,wi,_,ho⟩:=a4j I.hok e;have hz:(lP_).length<=sizeLine:=by rw[IP,KJ];omega
 refine c3p I.kIn b6 c.sa c.po n.taker c.hd wi hz λh' O' sb=>h _ ?_;have hd:∃o,h'.get? dx=some o:=let⟨o,_,_,e',_⟩:=O'.ns;⟨o,e'⟩;refine I.write (x:=a) (e:=dx) tk! (.inr ho) (λb q hb z=>(sb.2 b hb).trans z) hd ?_;refine⟨by rw[aW b6.ne];exact ho,?_,b6.ne,O'.obj,_,O'.ns,λg=>?_,λg hg=>?_⟩
 .have:=tQ f y fs;omega
 .show Oj ((Ld f y fs).lookup g) tm!;rw[tM];by_cases q:g=f
  .rw[IL q,IL q];exact ry
  .rw[IA q,IA q];exact r g
 .by_cases q:g=f
  .rw[q];exact(sO f y fs).1
  .refine(sO f y fs).2 g (wi g λz=>hg ?_);show tm!=none;rw[IA q];exact z
def Inv.made(I:d_):Inv X B Z (upd (upd H s.heap.objs.size (.own ae!)) ae! (.ins C s.heap.objs.size []))
  {s with heap:=(e7!).push ja!}:=by
 have e1:(e7!).get? k_=some i9_:=IY s.heap rfl;have e2:((e7!).push ja!).get? ae!=some ja!:=by
  have:=IY e7! (o:=W.instObj C k_) rfl;rwa[OA]at this
 have e3:(e7!).Ns s.heap.objs.size (λ_=>none):=⟨i9_,#[],_,e1,rfl,(λe he=>absurd he d!),gI_⟩;have I1:=I.laid (a:=k_) (o:=.own ae!) (h':=s.heap.push i9_) (t':=s.toks) tr! x_ ⟨_,e1⟩;refine I1.laid (a:=k_+1) (o:=.ins C s.heap.objs.size []) (t':=s.toks) tr! (PU (OA _ _)) ?_;have ne:k_≠k_+1:=JP (QQ _);refine⟨by rw[aW ne,bW],KC _,ne,e2,λ_=>none,(Heap.Ns1.of_empty e3).at λo q=>HX _ q,λ_=>jc!,λy hy=>absurd rfl hy⟩
def c6w{prog:yJ!}{w:ys!}{e:Expr}{f:Str}{pos:Pos}{s:yM!}{Q:p!}(hb:attributeBase e f env (eval e env)=eval e env)
  (h:wpAny q_ A (eval e env) (λo ai=>wpAny q_ A (getAttr o f true) Q E ai) E s):wpAny q_ A (eval ts! env) Q E s:=
 Attribute_any_ h (by rw[arm_eval_Attribute,hb])
end
def ER(K:yN!)(ta:TE)(f:Str):TE:=λZ H Q=>ta Z H λx H1=>∃a C dx fs v,x=.ref a/\H1 a=some e7_/\Us K C/\Ef K C f/\fs.lookup f=some v/\Q v H1
def EV(K:yN!)(ta tv:TE)(f:Str):TS:=λD Z H=>tv Z H λy H1=>ta Z H1 λx H2=>∃a C dx fs,x=.ref a/\H2 a=some e7_/\Us K C/\Ef K C f/\bu_<1000/\
 D.nx Z (upd H2 a tj_)
section
variable{X:Cx}{o e value:Expr}{f:Str}{pos ik tpos:Pos}{ta tv:TE}
def c8q(he:PE X e ta)(hb:attributeBase e f X.env eQ!=eval e X.env):PE X ts! (ER X.K ta f):=by intro B s Z H Q I h;refine c6w hb (dH c5_ λu s1 ⟨x,H1,I1,rx,a,C,dx,fs,v,ex,ea,c,n,l,q⟩=>?_);subst ex;obtain rfl:u=Value.ref a:=rx;exact b0y I1 ea c n l λu' s2 I2 ru=>⟨v,H1,I2,ru,q⟩
def c8k(ha:ne_)(hv:PE X value tv)(hs:swapsWith value (some (.Attribute o f ik)) pos.line X.env=pure false):PS X (.Assign [.Attribute o f ik] value pos) (EV X.K ta tv f):=by intro B s Z H D I h;refine plainObj_wpAny_Assign_Attribute (dH (hv B s Z H _ I h) λu s1 ⟨y,H1,I1,ry,q⟩=>dH (ha B s1 Z H1 _ I1 q) λov s2 ⟨x,H2,I2,rx,a,C,dx,fs,ex,ea,c,n,l,q2⟩=>?_) hs;subst ex;obtain rfl:ov=Value.ref a:=rx;exact a9g I2 ea c n l ry λs3 I3=>⟨Z,_,I3,q2⟩
def c7j{pl:d1!}{m:Str}{aj:Pos}{B:o_}{s:yM!}{Z:St}{H:Hp}{Q:p!}{te:TE}(he:cw_)(I:d_)
  (h:te Z H λx H1=>∃a C dx fs g,x=.ref a/\H1 a=some e7_/\Us X.K C/\Ws X.K C m g/\fs.lookup m=none/\
   ∀s1,Inv X B Z H1 s1->wpAny e_ X.A (callWith pos (.ref g) bi_ tu_ e8!) Q X.xe s1)
  (ht:eval tw! X.env=(do
   let ov <-eval e X.env
   standAt gJ!
   let(f,first) <-holding [ov] gJ_
   callWith pos f first tu_ e8!)):
  wpAny e_ X.A (eval tw! X.env) Q X.xe s:=by
 refine W.methodCall_KW (pl:=pl) (dH c5_ λu s1 ⟨x,H1,I1,rx,a,C,dx,fs,g,ex,ea,c,k,l,q⟩=>?_) ht;subst ex;obtain rfl:u=Value.ref a:=rx;exact pC I1 ea c k l (q s1 I1)
end
end L2
namespace L2
open PySem PySem.Spec PyProof.Rows
structure Al(k:Nat)(A:yg!):Prop where
 hd:A.handled=none
 dp:A.depth+3*k+5<recursionLimit
 un:A.units+16*k+200<cLine
def Al.mono{j k:Nat}{A:yg!}(r:gK!)(h:j<=k):Al j A:=⟨r.hd,by have:=r.dp;omega,by have:=r.un;omega⟩
def Al.deeper{k:Nat}{A:yg!}(r:Al T! A)(env:Env):Al k (A.deeper env):=
 ⟨r.hd,by have:=r.dp;show A.depth+1+3*k+5<_;omega,by have:=r.un;show A.units+3+16*k+200<_;omega⟩
def Al.in1{k:Nat}{A:yg!}(r:Al T! A):Al k A.in1:=
 ⟨r.hd,by have:=r.dp;show A.depth+3*k+5<_;omega,by have:=r.un;show A.units+1+16*k+200<_;omega⟩
def b0q{A:yg!}{C:xY!}{kw:d1_}:(jc_).depth=A.depth+1:=by first|rfl|simp[Around.under,Code.weight,Code.isCreation,Code.isGuard,Code.isCaller,Code.frames,Code.isFrame,guardIds]
def b0p{A:yg!}{C:xY!}{kw:d1_}:(jc_).units=A.units+1:=by first|rfl|simp[Around.under,Code.cUnits,Code.frames,Code.isFrame]
def Al.make{k:Nat}{A:yg!}(r:Al T! A)(C:xY!)(us:j!)(kw:d1_):Al k jc_:=
 ⟨r.hd,by have:=r.dp;rw[b0q];omega,by have:=r.un;rw[b0p];omega⟩
def Al.depth{k:Nat}{A:yg!}(r:gK!):A.depth<recursionLimit:=by have:=r.dp;omega
def Al.units{k:Nat}{A:yg!}(r:gK!):A.units+64<cLine:=by have:=r.un;omega
def Al.units0{k:Nat}{A:yg!}(r:gK!):A.units<cLine:=by have:=r.un;omega
def AD:TA:=λ_ H Q=>Q [] H
def BR(ta:TE)(tr:TA):TA:=λZ H Q=>ta Z H λx H1=>tr Z H1 λxs H2=>Q (x::xs) H2
section
variable{X:Cx}{e:Expr}{es:List Expr}{te:TE}{t:TA}{pos:Pos}
def fZ:PA X [] AD:=λ_ _ _ _ H Q I h=>ON ⟨[],H,I,.nil,h⟩
def dS(ha:cw_)(J:gK_)(hs:ao_:=by rfl):PA X aJ_ (BR te t):=by intro pos B s Z H Q I h;rw[hs];show wpAny _ _ (spliced (e8_::backTo pos ma!)) _ _ s;refine MJ (dH b5_ λu s1 ⟨x,H1,I1,r1,q1⟩=>?_);exact dH (J pos B s1 Z H1 _ I1 q1) λus s2 ⟨xs,H2,I2,r2,q2⟩=>⟨x::xs,H2,I2,.cons r1 r2,q2⟩
def EI(t:TA):TE:=λZ H Q=>t Z H λxs H1=>i!<=sizeLine/\∀p,H1 p=none->Q cC! (upd H1 p be_)
def EN(t:TA):TE:=λZ H Q=>t Z H λxs H1=>i!<=sizeLine/\∀p,H1 p=none->Q cC! (upd H1 p L!)
def b9e {x1}(h:gK_):PE X ty_ (EI t):=by intro B s Z H Q I hq;refine wpAny_Tuple_spliced tz!;have hf:H1 z!=none:=I1.hok.fresh x_;refine⟨.ref z!,upd H1 s1.heap.objs.size be_,tz_,rfl,q _ hf⟩;exact⟨z,us,r,⟨_,dV!,rfl,_,rfl⟩⟩
def rX(h:gK_):PE X je! (EN t):=by intro B s Z H Q I hq;refine wpAny_List_spliced tz!;have hf:H1 z!=none:=I1.hok.fresh x_;refine⟨.ref z!,upd H1 s1.heap.objs.size L!,tz_,rfl,q _ hf⟩;exact⟨z,us,0,r,dV!⟩
end
abbrev Sp:=List V->Hp->VK->XK->Prop
abbrev Wv:=List Env->Hp->Shared->XK->Value->Shared->Prop
structure Rn(P:yJ!)(w:ys!)(K:yN!)(mg:A!)(base:Heap)(A:yg!)(outer:av_)(s:yM!)(H:Hp):Prop where
 frames:A.frames=some outer
 mod:Mod K mg base
 bs:∀b o,base.get? b=some o->s.heap.get? b=some o/\H b=none
 bsz:base.objs.size<=k_
 funs:s.heap.FunFrames base outer
 frf:∀b∈frs outer,H b=none
 hok:Ol P w H s.heap
 bare:AllBare s.gens
def CE(outer:av_)(P:yJ!)(w:ys!)(H:Hp)(s:yM!)(Q:VK)(u:yh!)(s':yM!):Prop:=
 ∃v H',s'.os=s.os/\AllBare s'.gens/\Un (frs outer) [] H H' s.heap s'.heap/\Ol P w H' s'.heap/\Bq v u/\Q v H'
def CR(CX:Wv)(outer:av_)(P:yJ!)(w:ys!)(H:Hp)(s:yM!)(Q:VK)(E:XK)(r:Result)(s':yM!):Prop:=
 match r with
 |.ok (.ret u)=>CE outer P w H s Q u s'
 |.ok _=>False
 |.error e=>CX outer H s E e s'
structure Fm(P:yJ!)(w:ys!)(K:yN!)(mg:A!)(base:Heap)(CX:Wv)(k:Nat)(f:xY!)(fd:FuncData)(ps:r_)(sp:Sp):Prop where
 len:∀vs H Q E,sp vs H Q E->bC!=T_
 run:∀(A:yg!) (outer:av_) (s:yM!) (H:Hp) (args:Args) (us:j!) (vs:m_) (Q:VK) (E:XK),Al k A->Rn P w K mg base A outer s H->BindsTo s fd args dd!->Be vs us->sp vs H Q E->
  codeAny L_ A (.call ai! args) (CR CX outer P w H s Q E) s
def Fm.mono{P:yJ!}{w:ys!}{K:yN!}{mg:A!}{base:Heap}{CX:Wv}{j k:Nat}{f:xY!}{fd:FuncData}{ps:r_}{sp:Sp}(F:Fm P w K mg base CX j f fd ps sp)(h:j<=k):
  Fm P w K mg base CX k f fd ps sp:=⟨F.len,λA outer s H args us vs Q E J=>F.run A outer s H args us vs Q E (J.mono h)⟩
def Fm.imp{P:yJ!}{w:ys!}{K:yN!}{mg:A!}{base:Heap}{CX:Wv}{k:Nat}{f:xY!}{fd:FuncData}{ps:r_}{sp UN:Sp}(F:Fm P w K mg base CX k f fd ps sp)
  (h:∀vs H Q E,UN vs H Q E->sp vs H Q E):Fm P w K mg base CX k f fd ps UN:=
 ⟨λvs H Q E q=>F.len vs H Q E (h _ _ _ _ q),λA outer s H args us vs Q E J he hb hv hs=>F.run A outer s H args us vs Q E J he hb hv (h _ _ _ _ hs)⟩
def Rn.make{P:yJ!}{w:ys!}{K:yN!}{mg:A!}{base:Heap}{A:yg!}{outer:av_}{s:yM!}{H:Hp}(e:ng_)(C:xY!)(us:j!)(kw:d1_):
  Rn P w K mg base jc_ outer s H:=⟨by first|exact e.frames|(simpa[Around.under,Code.envs,Code.isFrame,pushEnvs]using e.frames),e.mod,e.bs,e.bsz,e.funs,e.frf,e.hok,e.bare⟩
def Rn.in1{P:yJ!}{w:ys!}{K:yN!}{mg:A!}{base:Heap}{A:yg!}{outer:av_}{s:yM!}{H:Hp}(e:ng_):
  Rn P w K mg base A.in1 outer s H:=⟨e.frames,e.mod,e.bs,e.bsz,e.funs,e.frf,e.hok,e.bare⟩
section
variable{X:Cx}{B:List (Addr×Obj)}{Z:St}{H:Hp}{s s':yM!}
def Inv.env0(I:d_):Rn X.prog X.w X.K X.mg X.base X.A X.stack s H:=
 ⟨I.ok.frames,I.ok.mod,I.bs,JL I.ok.bsz I.sz,I.stack,I.stkFree,I.hok,I.bare⟩
def Inv.after{Q:VK}{u:yh!}(I:d_)(h:CE X.stack X.prog X.w H s Q u s'):EP X B Z Q u s':=by obtain⟨v,H',os,bare,un,hok,r,q⟩:=h;obtain⟨hh,g,d,t,YV⟩:=s';obtain rfl:YV=s.os:=os;exact⟨v,H',I.call (h':=hh) (g':=g) (d':=d) (t':=t) (ch:=[]) un hok bare (λb z=>absurd z d!),r,q⟩
end
def BS(sp:Sp)(dvs:m_)(E:XK)(t:TA):TE:=λZ H Q=>t Z H λvs H1=>sp dd_ H1 Q E
def Zo(C:xY!)(m:Str)(sp:Sp)(dvs:m_)(E:XK)(ta:TE)(t:TA):TE:=λZ H Q=>ta Z H λx H1=>∃a dx fs,x=.ref a/\H1 a=some e7_/\fs.lookup m=none/\
 t Z H1 λvs H2=>sp (x::dd_) H2 Q E
def Zp(C:xY!)(sp:Sp)(dvs:m_)(E:XK)(t:TA):TE:=λZ H Q=>t Z H λvs H1=>∀x dx,H1 x=none->H1 dx=none->dx≠x->
 sp (.ref x::dd_) nh_ tC_ E
def Ez(K:yN!)(fd:FuncData)(ps:r_)(ds:j!):Prop:=
 ∀(s:yM!) (us:j!),K.In s.heap->(e9!).length=T_->BindsTo s fd de! (ps.zip e9!)
def Ez.all{K:yN!}{fd:FuncData}{ps:r_}(h:∀us:List Value,au_=T_->bindArgs fd de!=pure dd!):Ez K fd ps []:=λs us _ hl=>by
 rw[JA]at hl ⊢;exact .of_eq (h us hl)
def Mb(CX:Wv)(X:Cx)(E:XK):Prop:=∀(B:o_) (Z:St) (H:Hp) (s:yM!) (e:yh!) (s':yM!),Inv X B Z H s->CX X.stack H s E e s'->X.xe e s'
section
variable{X:Cx}{CX:Wv}{k:Nat}{f C:xY!}{fd:FuncData}{ps:List Str}{sp:Sp}{dvs:List V}{ds:List Value}{E:XK}{x m:Str}{p pos aj:Pos}{e o:Expr}{es:List Expr}{ta:TE}{t:TA}
def a2j{B:o_}{Z:St}{H:Hp}{s:yM!}{Q:VK}(F:d4!)(J:cc!)(hb:d4_)(hd:d5!)(Y:d5_)
  (I:d_)(r:eP_)(h:sp dd_ H Q E):wpAny e_ X.A (call ai! us) aI_ X.xe s:=by
 have r2:Be dd_ e9!:=r.append hd;have hl:(e9!).length=T_:=by rw[<-r2.length];exact F.len _ _ _ _ h
 refine wpAny_call (RP (F.run X.A X.stack s H de! e9! dd_ Q E J I.env0 (hb s us I.kIn hl) r2 h) λr s' hq=>?_);cases r with
 |error e=>exact Y B Z H s e s' I hq
 |ok fl=>
  cases fl with
  |ret u=>exact I.after hq
  |next=>exact False.elim hq
  |brk=>exact False.elim hq
  |cont=>exact False.elim hq
def b3d(F:d4!)(J:cc!)(hg:S!)(hm:X.mg x=some ai!)(hk:W.keepIn X.K ai!=true)(hb:d4_)(hd:d5!)(Y:d5_)
  (ha:fa!)(be:F!:=by decide)(he:ao_:=by rfl)(ax:aU_:=by rfl):
  PE X bj! (BS sp dvs E t):=by
 show"!P";refine NE nj!;refine W.callWith_K (h₀:=X.base) I.ok.mod.kin hk tE_ he ax;exact a2j F J hb hd Y I1 r q
def c4k{pl:d1!}(he:ne_)(c:d3_)(hm:Ws X.K C m f)(F:d4!)(J:cc!)(hb:d4_)(hd:d5!)(Y:d5_)(ha:fa!)
  (bz:ao_:=by rfl)(ax:aU_:=by rfl)
  (ht:eval jf! X.env=(do
   let ov <-eval o X.env
   standAt gJ!
   let(f,first) <-holding [ov] gJ_
   callWith pos f first tI! e8!):=by rfl):
  PE X jf! (Zo C m sp dvs E ta t):=by
 show"!<";refine W.callWith_K (first:=bi_) (h₀:=X.base) I.ok.mod.kin hm.kp (dH (ha pos B s1 Z H1 _ I1 q) λus s2 ⟨vs,H2,I2,r,q2⟩=>tI_) bz ax;exact a2j (us:=.ref a::us) (vs:=.ref a::vs) F J hb hd Y I2 (.cons rfl r) q2
def b9i{pl:d1!}(he:ne_)(c:d3_)(hm:Ws X.K C m f)(F:d4!)(J:cc!)(hb:d4_)(hd:d5!)(Y:d5_)
  (ht:eval jf_ X.env=(do
   let ov <-eval o X.env
   standAt gJ!
   let(f,first) <-holding [ov] gJ_
   callWith pos f first nl! e8!):=by rfl):
  PE X jf_ (Zo C m sp dvs E ta AD):=by
 show"!<";exact W.callWith_K0 (first:=bi_) I1.kIn hm.kp (a2j (us:=bi_) (vs:=bi_) F J hb hd Y I1 tJ! q)
structure Mk(K:yN!)(C f:xY!):Prop where
 makes:W.makesIn K C=true
 init:W.findIn K ax_ "__init__"=some e5!
 fn:W.isFn K ai!=true
 kp:W.keepIn K ax_=true
def a5v{B:o_}{Z:St}{H:Hp}{s:yM!}{Q:VK}(M:nl_)(F:d4!)(J:gM!)(hb:d4_)(hd:d5!)
  (Y:d5_)(I:d_)(r:eP_)
  (h:∀x dx,H x=none->H dx=none->dx≠x->sp (.ref x::dd_) (upd (upd H dx in_) x nh!) tC_ E):
  wpAny e_ X.A (call ax_ us) aI_ X.xe s:=by
 have hq:=h ae! s.heap.objs.size tL! fa_ (JP (QQ _));have I2:=Inv.made (C:=C) I;have r2:Be (V.ref ae!::dd_) tL_:=.cons rfl (r.append hd);have hl:(Value.ref ae!::us++ds).length=T_:=by
  have e:=r2.length;rw[F.len _ _ _ _ hq]at e;exact e.symm
 refine wpAny_call (c0s (f:=f) I.kIn M.makes M.init (OB.mp M.fn) (RP (F.run _ X.stack _ _ ⟨Value.ref ae!::us,[]⟩ tL_ _ _ E (J.make C us [])
  (I2.env0.make C us []) (hb _ (Value.ref ae!::us) I2.kIn hl) r2 hq) λr s' a7=>?_))
 cases r with
 |error e=>exact Y B Z _ _ e s' I2 a7
 |ok fl=>
  cases fl with
  |ret u=>
   obtain⟨v,H',I3,rv,ev,q3⟩:=I2.after a7;subst ev;exact⟨rv,⟨V.ref ae!,H',I3,rfl,q3⟩⟩
  |next=>exact False.elim a7
  |brk=>exact False.elim a7
  |cont=>exact False.elim a7
def c4l(M:nl_)(F:d4!)(J:gM!)(hg:S!)(hm:tN!)(hb:d4_)(hd:d5!)(Y:d5_)
  (ha:fa!)(be:F!:=by decide)(he:ao_:=by rfl)(ax:aU_:=by rfl):
  PE X bj! (Zp C sp dvs E t):=by
 show"!P";refine NE nj!;refine W.callWith_K (h₀:=X.base) I.ok.mod.kin M.kp tE_ he ax;exact a5v M F J hb hd Y I1 r q
def b9j(M:nl_)(F:d4!)(J:gM!)(hg:S!)(hm:tN!)(hb:d4_)(hd:d5!)(Y:d5_)
  (be:F!:=by decide):PE X tN_ (Zp C sp dvs E AD):=by
 show"!P";refine NE nj!;exact W.callWith_K0 I.kIn M.kp (a5v (us:=[]) M F J hb hd Y I .nil h)
end
structure Aj(N P:r_)(sc:Scope):Prop where
 kind:sc.kind=.function
 co:sc.isCoroutine=false
 gen:sc.isGenerator=false
 nd:N.Nodup
 pre:N.take P.length=P
 par:∀x∈P,sc.names.lookup x=some .local\/sc.names.lookup x=some .cell
 nofree:∀y∈sc.names,y.2≠.free
def a1k{kindOf:jg!}{x:Str}:∀{binds:d1_} {m:A!},tO!->bindL kindOf binds m x=m x
 |[],_,_=>rfl
 |(n,v)::r,m,h=>by
  unfold bindL;rw[a1k λw hw=>h w (HZ _ hw)];split
  .have:x≠n:=by rintro rfl;exact h v IH
   simp[this]
  .rfl
def a1m{kindOf:jg!}{x:Str}:∀{binds:d1_} {m:A!},tO!->bindC kindOf binds m x=m x
 |[],_,_=>rfl
 |(n,v)::r,m,h=>by
  unfold bindC;rw[a1m λw hw=>h w (HZ _ hw)];split
  .rfl
  .have:x≠n:=by rintro rfl;exact h v IH
   simp[this]
def a1l{kindOf:jg!}{x:Str}{v:yh!}:∀{P:r_} {vs:j!} {i:Nat} {m:A!},P.Nodup->P[i]?=some x->vs[i]?=some v->kindOf x=some .local->
  bindL kindOf (P.zip vs) m x=some v
 |[],_,_,_,_,h,_,_=>by simp at h
 |_::_,[],_,_,_,_,h,_=>by simp at h
 |p::P,w::vs,0,m,nd,h1,h2,hk=>by
  simp at h1 h2;subst h1;subst h2;show bindL kindOf jg_ m p=_;unfold bindL;rw[a1k λv hv=>(jh!).1 (SJ hv).1,aU!];simp
 |p::P,w::vs,i+1,m,nd,h1,h2,hk=>by
  show bindL kindOf jg_ m x=_;unfold bindL;exact a1l (i:=i) (jh!).2 tO_ tP! hk
def a1n{kindOf:jg!}{x:Str}{v:yh!}:∀{P:r_} {vs:j!} {i:Nat} {m:A!},P.Nodup->P[i]?=some x->vs[i]?=some v->kindOf x≠some .local->
  bindC kindOf (P.zip vs) m x=some v
 |[],_,_,_,_,h,_,_=>by simp at h
 |_::_,[],_,_,_,_,h,_=>by simp at h
 |p::P,w::vs,0,m,nd,h1,h2,hk=>by
  simp at h1 h2;subst h1;subst h2;show bindC kindOf jg_ m p=_;unfold bindC;rw[a1m λv hv=>(jh!).1 (SJ hv).1,aE!];simp
 |p::P,w::vs,i+1,m,nd,h1,h2,hk=>by
  show bindC kindOf jg_ m x=_;unfold bindC;exact a1n (i:=i) (jh!).2 tO_ tP! hk
def Ms(N:r_)(vs:m_):St:=vs.map some++List.replicate (ji! - bC!) none
def Pb(CX:Wv)(P:yJ!)(w:ys!)(K:yN!)(mg:A!)(base:Heap)(N:r_)(qual:Str)(scope:Scope)(f:xY!)(cd:yh!)(A:yg!)(outer:av_)(s:yM!)(H:Hp)(E:XK):Cx where
 prog:=P
 w:=w
 K:=K
 mg:=mg
 base:=base
 A:=A.deeper gN!
 N:=N
 s₀:=s
 H₀:=H
 env:=envOfC qual scope s.heap.objs.size f cd
 outer:=outer
 stack:=envOfC qual scope s.heap.objs.size f cd::outer
 ex:=[]
 calm:=true
 fn:=λ_=>true
 pn:=[]
 xe:=λe s'=>wpAny L_ (A.deeper gN!) (leaving gN! e) (λ_ yb=>CX outer H s E e yb) (λe' yb=>CX outer H s E e' yb) s'
def a8n{sc:Scope}{n:Nat}{x:Str}(h:sc.names.lookup x=some .cell):∃c,(cellsFrom n sc.names []).lookup x=some c:=by have q:=W.cellsFrom_some sc.names n [] iD_;exact QE.mp q
def b6j{CX:Wv}{P:yJ!}{w:ys!}{K:yN!}{mg:A!}{base:Heap}{ps:r_}{scope:Scope}{f:xY!}{A:yg!}{outer:av_}{s:yM!}{H:Hp}{E:XK}{vs:m_}
  (S:Aj N ps scope)(hd:cC_)(e0:ng_)(hl:bC!=T_)(r:eP_)
  (x:InCallC s s.heap.objs.size (bindL (gN!).kindOf dd! λ_=>none) tQ! (bindC (gN!).kindOf dd! λ_=>none) s1):
  Inv tR! [] gO! H s1:=by
 have ax:T_<=ji!:=by have:=congrArg List.length S.pre;rw[LJ]at this;omega
 obtain⟨h1,tk,rfl,hk⟩:=x.done;have r9:∀b:Addr,b∉(tR!).ex:=λb z=>absurd tS! d!;refine⟨⟨e0.mod,S.kind,rfl,rfl,IW _,λy z c h1 h2=>?_,λy hy=>?_,λy c _ h=>?_,λ_=>hd,Around.frames_deeper e0.frames,.inr bz_,tT_,e0.bs,e0.bsz,λb _ _=>r9 b,tT_,e0.funs,e0.frf⟩,
  rfl,e0.bare,Un.kept hk,⟨_,x.toInCall.ns,λi y v h1 h2 h3=>?_⟩,λy c h=>⟨_,x.cell y c h⟩,e0.hok.fresh x_,λy c h=>?_,λp hp=>absurd (show p∈([]:List eO!)from hp) d!,e0.hok.kept hk,?_⟩
 .exact name_of_addr x.apart (ML h1) (ML h2)
 .have hy:scope.names.lookup y=some .cell\/scope.names.lookup y=some .free:=hy;obtain hy|hy:=hy
  .exact a8n hy
  .exact absurd rfl (S.nofree _ (ML hy))
 .exact NT tU_
 .have hi:i<bC!:=by
   unfold Ms at h2;by_cases hi:i<bC!
   .exact hi
   .rw[fb_]at h2;rw[OX]at h2;split at h2<;>cases h2
  have ha:vs[i]?=some v:=by
   unfold Ms at h2;rw[LB gO_,JM]at h2;cases e:vs[i]? with
   |none=>rw[e]at h2;cases h2
   |some a=>rw[e]at h2;cases h2;rfl
  obtain⟨u,hu,rv⟩:=r.get ha;have hp:ps[i]?=some y:=by
   rw[<-S.pre,OP a!];exact h1
  have UO:ps.Nodup:=by rw[<-S.pre];exact S.nd.sublist tW!
  refine⟨u,rv,?_⟩;obtain k|k:=S.par y (MC hp)
  .exact .inl ⟨k,a1l UO hp hu k⟩
  .obtain⟨c,e⟩:=a8n (n:=k_+1) k;refine .inr ⟨.inl k,c,e,?_⟩;have q:=x.cell y c e;rw[a1n UO hp hu (by show scope.names.lookup y≠_;rw[k];decide)]at q;exact q
 .exact e0.hok.fresh (NT tU_)
 .unfold Ms;show _=ji!;rw[IT,IP,NW];omega
def d3d{CX:Wv}{P:yJ!}{w:ys!}{K:yN!}{mg:A!}{base:Heap}{k:Nat}{f:xY!}{name:Str}{params:Arguments}{body:b5!}{kV:yh!}{an od:a7!}
  {dw:cc_}{ps:r_}{sp:Sp}(lk:K.lookup f=some ⟨oc,od,.func tY_,dw⟩)(bx:jk!)(S:Aj N ps scope)
  (len:tZ!)
  (pj:∀(A:yg!) (outer:av_) (s:yM!) (H:Hp) (vs:m_) (Q:VK) (E:XK),Al k (A.deeper (envOfC qual scope s.heap.objs.size f af))->sp vs H Q E->
   ∃t,Ul no! body t/\t {nx:=λ_ H'=>Q .non H',rt:=Q} gO! H):
  Fm P w K mg base CX T! f tY_ ps sp:=by
 refine⟨len,λA outer s H args us vs Q E J e0 hb r ji=>?_⟩;have hl:=len _ _ _ _ ji;have KX:K.In s.heap:=e0.mod.kin.keeps λb o e=>(e0.bs b o e).1;have az:s.heap.NoLimit:=e0.mod.nolimit.keeps λb o e=>(e0.bs b o e).1;have cj:∀y∈ps.zip us,scope.names.lookup y.1=some .local\/(scope.names.lookup y.1=some .cell/\((tQ!).lookup y.1).isSome=true):=λ⟨n,v⟩ hy=>by
  obtain q|q:=S.par n (SJ hy).1
  .exact .inl q
  .exact .inr ⟨q,W.cellsFrom_some _ _ _ (.inl q)⟩
 refine codeAny_call_function J.depth (KX _ _ lk) rfl S.co S.gen rfl (W.codeRec_of KX bx) (hb _ _ _ _ ?_);refine wpAny_newFunctionEnv_cells S.kind cj λenv he s1 x=>?_;subst he;refine⟨az.keeps x.toInCall.keep,codeAny_func ?_⟩;obtain⟨t,ht,hq⟩:=pj A outer s H vs Q E (J.deeper _) ji;have I:Inv no! [] gO! H s1:=b6j S J.hd e0 hl r x;refine LF (ht [] s1 gO! H _ I hq) (λfl s' hs=>?_) λe s' hs=>hs;have fin:∀{hr:St} {H':Hp} {v:V} {u:yh!},Inv no! [] hr H' s'->Bq v u->Q v H'->CE outer P w H s Q u s':=
  λ{hr H' v u} ab rv q=>⟨v,H',ab.os,ab.bare,ab.base,ab.hok,rv,q⟩
 cases fl with
 |ret u=>
  obtain⟨v,hr,H',ab,rv,q⟩:=hs;exact fin ab rv q
 |next=>
  obtain⟨hr,H',ab,q⟩:=hs;exact fin (v:=V.non) (u:=dI!) ab rfl q
 |brk=>
  obtain⟨_,_,_,q⟩:=hs;exact False.elim q
 |cont=>
  obtain⟨_,_,_,q⟩:=hs;exact False.elim q
end L2
namespace L2
open PySem PySem.Spec PyProof.Rows
section
variable{X:Cx}{x:Str}{p pos:Pos}{e:Expr}{es:List Expr}{t:TA}{id T:String}{r:List V->Hp->VK->Prop}
def FY(r:c9_)(t:TA):TE:=λZ H Q=>t Z H λvs H1=>r vs H1 Q
def wE(L:np_)(hg:S!)(hm:cv!)(hv:nq!)(ha:fa!)(hn:cv_:=by decide)(be:F!:=by decide)
  (he:ao_:=by rfl)(ax:aU_:=by rfl):PE X bj! (FY r t):=by
 show"!P";refine NE t3!;exact PyProof.Rows.callWith_builtin1 t3_ he ax
def zR(L:nq_)(hg:S!)(hm:cv!)(hv:jl_)(ha:fa!)(hn:cv_:=by decide)(be:F!:=by decide)
  (he:ao_:=by rfl)(ax:aU_:=by rfl):PE X bj! (FY r t):=by
 show"!P";refine NE t3!;exact KP t3_ he ax
end
end L2
namespace HT
open PySem PyProof.Rows
nonrec def lexLt:List Int->List Int->Bool
 |[],[]=>false
 |[],_::_=>true
 |_::_,[]=>false
 |x::xs,y::ys=>if x=y then lexLt xs ys else decide (x<y)
def lexLt_cons(x y:Int)(xs ys:w!):lexLt (x::xs) (y::ys)=if x=y then lexLt xs ys else decide (x<y):=rfl
def lexLt_nil_nil:lexLt [] []=false:=rfl
def wV(y:Int)(ys:w!):lexLt [] (y::ys)=true:=rfl
def wW(x:Int)(xs:w!):lexLt (x::xs) []=false:=rfl
def c1x(A:yg!)(s:yM!)(a:Int)(t:Tok)(c:Int)(u:Tok):∃e,SeqAt.EqAt A s gP_ nr! e/\(e=true↔a=c):=
 ⟨(a==c),QO a t c u,G_⟩
section
open PySem.SeqAt
open PySem.AutoSeq1 (wpAny_loadPart')
open PySem.MeetsSeq PySem.MeetsSeq2 PySem.MeetsSeq3
end
section
variable{prog:yJ!}{w:ys!}{A:yg!}{E:Value->Shared->Prop}{s:yM!}
def cat_tup{t b:xY!}{vs ws:j!}{Q:p!}(ht:IsTup s.heap t cE!)(hb:IsTup s.heap b ws.toArray)(hv:vs≠[])
  (h1:ws=[]->Q jm_ s)(h2:ws≠[]->Q bA! {s with heap:=s.heap.push {cls:=.type "tuple",data:=.seq (vs++ws).toArray}})
  (hsz:bC!+ns!<=sizeLine):wpAny q_ A (binaryOp .Add jm_ d7!) Q E s:=by
 obtain⟨⟨cls,dd,data,sl⟩,ho,L,n,hd⟩:=id ht;obtain⟨⟨UP,lj,data2,jj⟩,il,jk,n2,jl⟩:=id hb;simp only at L hd jk jl;subst L hd jk jl;have e:cE!++ws.toArray=(vs++ws).toArray:=by simp
 by_cases hw:ws=[]
 .exact concat_meets jn! jn_ noFill_tuple_add seq_tuple_add QT QI (QD _ _)
   (tuple_addW1 t b vs.toArray ws.toArray n n2 dd lj sl jj jo! (by simp[hw])) ⟨ho,il,h1 hw⟩
 .refine concat_meets jn! jn_ noFill_tuple_add seq_tuple_add QT QI (QD _ _)
   (tuple_addW2 t b vs.toArray ws.toArray n n2 dd lj sl jj jo! ns_ (by rw[IF,IF];exact hsz)) ⟨ho,il,?_⟩
  rw[e];exact h2 hw
nonrec def sIx(n d:Nat):Option Int->Nat
 |none=>d
 |some v=>if v<0 then(nt!).toNat else min v.toNat n
def sIx_none(n d:Nat):sIx n d none=d:=rfl
def sIx_nat(n d k:Nat):sIx n d (some (k:Int))=min k n:=by show(if(k:Int)<0 then((k:Int)+(n:Int)).toNat else min (k:Int).toNat n)=min k n;rw[IA a!,NI]
def c8e(n d:Nat)(hd:d<=n)(o:a8_):sIx n d o<=n:=by
 cases o with
 |none=>exact hd
 |some v=>
  show t7_<=n;by_cases hv:v<0
  .rw[IL hv];omega
  .rw[IA hv];exact Nat.min_le_right _ _
def b4g(v:Int)(n d:Nat):t8_=((sIx n d dL_:Nat):Int):=by
 show t8_=((t7_:Nat):Int);by_cases hv:v<0
 .simp only[IL hv];omega
 .simp only[IA hv];omega
def b1q(lo hi:a8_)(n:Nat):Builtin.Slice.sliceAdjust lo hi 1 (n:Int)=(jq!,t9_):=by
 have h1:¬((1:Int)<0):=by omega
 unfold Builtin.Slice.sliceAdjust;simp only[h1,JT];refine Prod.ext ?_ ?_
 .cases lo with
  |none=>rfl
  |some v=>exact b4g v n 0
 .cases hi with
  |none=>rfl
  |some v=>exact b4g v n n
def a9x(i j:Nat):Builtin.Slice.slicePlaces (i:Int) (j:Int) 1=j - i:=by
 unfold Builtin.Slice.slicePlaces;have h1:(1:Int)>0:=by omega
 simp only[h1,KG,Int.ediv_one];split<;>omega
def vP{v:yh!}{o:a8_}{Q:Option Int->Shared->Prop}(p:IsPart v o)(h:Q o s):wpAny q_ A (Builtin.Slice.slicePartIndex v) Q E s:=by
 cases p with
 |none=>exact slicePart_none h
 |int i t=>exact slicePart_int h
def rG{lo hi:a8_}{n:Nat}{Q:Int×Int×Nat->Shared->Prop}(hs:ua_)(pl:IsPart vl lo)(pu:IsPart vu hi)
  (h:Q (jq!,1,sIx n n hi - sIx n 0 lo) s):wpAny q_ A (Builtin.Slice.sliceApplied jq_ (pure (n:Int))) Q E s:=by
 obtain⟨os,gq,pp,vo⟩:=id hs;unfold Builtin.Slice.sliceApplied Builtin.Slice.sliceFields;refine HR (HR (KL gq vo (x:=vl) rfl (HR (KL gq vo (x:=vu) rfl (HR (KL gq vo (x:=.none) rfl ab_))))));refine HR (slicePart_none ?_);show wpAny _ _ (if((1:Int)==0)=true then _ else _) _ _ s;rw[IA b_];refine HR (vP pl (HR (vP pu (HR ab_))));show wpAny _ _ (match Builtin.Slice.sliceAdjust lo hi 1 (n:Int)with|(lo,hi)=>pure (lo,(1:Int),Builtin.Slice.slicePlaces lo hi 1)) _ _ s;rw[b1q lo hi n];show wpAny _ _ (pure (jq!,(1:Int),Builtin.Slice.slicePlaces jq! t9_ 1)) _ _ s;rw[a9x];exact HU h
def b9a(xs:O!)(i k:Nat):((List.range k).filterMap λ(m:Nat)=>xs[(nu!).toNat]?).toArray=((xs.toList.drop i).take k).toArray:=by
 have e:(λ(m:Nat)=>xs[(nu!).toNat]?)=λm=>xs[i+m]?:=by
  funext m;have:(nu!).toNat=i+m:=by omega
  rw[this]
 rw[e];have:=pick_run xs i k;rw[List.filterMap_map]at this;have e2:((λx=>xs[x]?)∘λx=>i+x)=λm=>xs[i+m]?:=rfl;rw[e2]at this;rw[this]
def getItem_tuple_cut{t:xY!}{items:O!}{lo hi:a8_}{Q:p!}(ht:IsTup s.heap t items)(hs:ua_)(pl:IsPart vl lo)(pu:IsPart vu hi)
  (hw:¬(sIx items.size 0 lo=0/\sIx items.size items.size hi=de_))
  (h:Q bA! {s with heap:=s.heap.push {cls:=.type "tuple",data:=.seq (nv!).toArray}})
  (hsz:de_<=sizeLine):wpAny q_ A (getItem jm_ jq_) Q E s:=by
 have vp:sizeOk (.seq (nv!).toArray):=by
  show(nv!).toArray.size<=sizeLine;rw[IF,LJ,SD,KH];omega
 have hj:sIx items.size items.size hi<=de_:=c8e _ _ x_ hi;obtain⟨os,gq,pp,vo⟩:=id hs;have YW:s.TypeIs jq_ "slice":=⟨os,gq,pp⟩;unfold getItem
 try with_reducible refine JX ?_
 first|refine HR ab_|skip
 refine HR (wpAny_sequenceKey ht.typeIs b_ ?_);refine HR (KB (name:=ud_) ht.typeIs OZ
  (JR OZ ht.typeIs entry_tuple_getitem ?_ (args_tuple_getitem _ _)))
 show wpAny _ _ (Builtin.Tuple.tupleItemsOf jm_>>=_) _ _ s;refine HR (tupleItemsOf_ ht ?_);refine HR (RK YW ?_);rw[IL b_];refine HR (rG hs pl pu ?_);have YX:¬(uf!=true):=by
  intro q;rw[JG,JG]at q;have q1:ue_=0:=eq_of_beq q.1.1;have q2:sIx items.size items.size hi - sIx items.size 0 lo=de_:=eq_of_beq q.2;exact hw ⟨v!,v!⟩
 show wpAny _ _ (if uf!=true then _ else _) _ _ s;rw[IA YX,b9a]
 first
  |exact HR (m:=jr_) (LI js! vp)
  |exact HR (m:=jr_) (LI (HR (HU js!)) vp)
  |exact HR (HR (m:=jr_) (LI (HU js!) vp))
  |exact HR (HR (m:=jr_) (LI js! vp))
end
end HT
namespace L2
open PySem PySem.Spec PyProof.Rows
abbrev TO:=St->Hp->(Option Int->Hp->Prop)->Prop
def PO(X:Cx)(e:nw!)(t:TO):Prop:=
 ∀(B:o_) (s:yM!) (Z:St) (H:Hp) (Q:ui_),Inv X B Z H s->t Z H Q->
  wpAny e_ X.A (evalPart e X.env) (λu s'=>∃o H',Inv X B Z H' s'/\IsPart u o/\Q o H') X.xe s
def Yn:TO:=λ_ H Q=>Q none H
def BN(t:TE):TO:=λZ H Q=>t Z H λx H1=>∃i,x=.int i/\Q (some i) H1
def xL{ns:w!}:∀{us:j!},Be ce! us->IntsAre us ns:=by
 induction ns with
 |nil=>intro us r;rw[NV]at r;cases r;exact .nil
 |cons n ns ih=>
  intro us r;rw[II]at r;cases r with
  |cons r1 r2=>
   obtain⟨t,e⟩:=r1;subst e;exact .cons n t (ih r2)
section
variable{X:Cx}{e:Expr}{te:TE}{lo hi:Option Expr}{tl th:TO}{pos p2:Pos}
def c4g:PO X none Yn:=by intro B s Z H Q I h;rw[evalPart_none];exact HU ⟨none,H,I,.none,h⟩
def c4f(h:cw_):PO X iG! (BN te):=by intro B s Z H Q I hw;rw[evalPart_some];refine dH mf_ λu s1 ⟨x,H1,I1,r1,q1⟩=>?_;obtain⟨i,rfl,q⟩:=q1;obtain⟨t,rfl⟩:=r1;exact⟨M!,H1,I1,.int i t,q⟩
def Zh(X:Cx)(r:jt!):Prop:=
 ∀(B:o_) (s:yM!) (Z:St) (H:Hp) (x:V) (v vl vu:yh!) (lo hi:a8_) (sl:xY!) (Q:VK),Inv X B Z H s->Bq x v->s.heap.IsSliceOf sl vl vu .none->IsPart vl lo->IsPart vu hi->r x lo hi H Q->
  ∃T id,typeLookup fc_ "__getitem__"=pure (some fc!)/\s.TypeIs v T/\wpAny e_ X.A (getItem v jq_) aI_ X.xe s
def Zh.or{r r':jt!}(h:Zh X r)(h':Zh X r'):Zh X (λx lo hi H Q=>r x lo hi H Q\/r' x lo hi H Q):=by
 intro B s Z H x v vl vu lo hi sl Q I rx hs pl pu q;obtain q|q:=q
 .exact h B s Z H x v vl vu lo hi sl Q I rx hs pl pu q
 .exact h' B s Z H x v vl vu lo hi sl Q I rx hs pl pu q
def GY(r:jt!)(te:TE)(tl th:TO):TE:=λZ H Q=>te Z H λx H1=>tl Z H1 λl H2=>th Z H2 λu H3=>r x l u H3 Q
def a6i{r:jt!}(J:Zh X r)(he:cw_)(hl:PO X lo tl)(hu:PO X hi th):PE X (.Subscript e nx! pos) (GY r te tl th):=by intro B s Z H Q I h;refine Subscript_ sd_;refine wpAny_Slice (dH (hl B s1 Z H1 _ I1 q1) λvl s2 ⟨l,H2,I2,pl,q2⟩=>dH (hu B s2 Z H2 _ I2 q2) λvu s3 ⟨u,H3,I3,pu,q3⟩=>?_);rw[evalPart_none];refine HU ?_;have I4:Inv X B Z H3 {s3 with heap:=s3.heap.push {cls:=.type "slice",data:=.fields #[vl,vu,.none]}}:=I3.kept (t':=s3.toks) λb ob q=>HX _ q;obtain⟨T,id,hT,ht,hg⟩:=J B {s3 with heap:=s3.heap.push {cls:=.type "slice",data:=.fields #[vl,vu,.none]}} Z H3 x v vl vu l u s3.heap.objs.size Q I4 r1 (Heap.IsSliceOf.new ..) pl pu q3;show wpAny e_ X.A (subscriptTail e nx! v (.ref uk_)) aI_ X.xe {s3 with heap:=s3.heap.push {cls:=.type "slice",data:=.fields #[vl,vu,.none]}};exact tail_any (ops:=[.ref uk_,v]) ht hT hg (by with_unfolding_all rfl)
def Ui(xs:m_)(lo hi:a8_):List V:=(xs.drop nx_).take ny!
def uC(xs:m_)(lo hi:a8_):(gT!).length<=i!:=by unfold Ui;rw[LJ,SD];omega
def EX(K:yN!):V->Option Int->Option Int->Hp->VK->Prop:=λx lo hi H Q=>∃a xs,x=.ref a/\Fz K H a xs/\
 ¬(HT.sIx xs.length 0 lo=0/\HT.sIx xs.length xs.length hi=i!)/\∀p,H p=none->Q cC! (upd H p (.tup gT!))
def b7n:Zh X (EX X.K):=by
 intro B s Z H x v vl vu lo hi sl Q I rx hs pl pu h;obtain⟨a,xs,rfl,Y,hw,q⟩:=h;cases rx;obtain⟨its,r,ht,hz⟩:=I.tuple Y;have ao:bQ!=i!:=by rw[IF];exact r.length.symm
 refine⟨"tuple",_,OZ.lookup,ht.typeIs,?_⟩;refine HT.getItem_tuple_cut ht hs pl pu (by rw[ao];exact hw) ?_ (by rw[ao];exact hz);rw[ao];refine⟨df!,_,I.laid (t':=s.toks) (o:=.tup gT!) ny_ x_ ?_,rfl,q _ fa_⟩;exact⟨un_,_,uo!,IsTup.new _ _⟩
def Zs(K:yN!):R2:=λx y H Q=>∃a b xs ys,x=.ref a/\y=.ref b/\Fz K H a xs/\Fz K H b ys/\xs≠[]/\i!+ac!<=sizeLine/\
 (ys=[]->Q P! H)/\(ys≠[]->∀p,H p=none->Q cC! (upd H p (.tup eL!)))
def Be.nil_iff{xs:m_}(r:in!):us=[]↔xs=[]:=by
 cases r with
 |nil=>simp
 |cons _ _=>simp
def c4r:Gr X e1! (Zs X.K):=by intro B s Z H x y v u Q I rx ry h;obtain⟨a,b,xs,ys,rfl,rfl,ha,hb,Y,hz,q1,q2⟩:=h;cases rx;cases ry;obtain⟨its,r1,p1,_⟩:=I.tuple ha;obtain⟨gr,r2,p2,_⟩:=I.tuple hb;refine HT.cat_tup p1 p2 (λz=>Y (r1.nil_iff.mp z)) (λz=>⟨dc!,H,I,rfl,q1 (r2.nil_iff.mp z)⟩) (λz=>?_) (by rw[<-r1.length,<-r2.length];exact hz);refine⟨df!,_,I.laid (t':=s.toks) (o:=.tup eL!) ny_ x_ ?_,rfl,q2 (λw=>z (r2.nil_iff.mpr w)) _ fa_⟩;exact⟨by rw[IT];exact hz,_,r1.append r2,IsTup.new _ _⟩
end
end L2
namespace L2
open PySem PySem.Spec PyProof.Rows
def Eg(n:Nat)(i:Int):Option Nat:=if 0<=i then(if i<n then some i.toNat else none)else if -(n:Int)<=i then some (i+n).toNat else none
def Dd{α:Type}(xs:O_)(i:Int):Option α:=(Eg xs.length i).bind λj=>xs[j]?
def b3v{n:Nat}{i:Int}{j:Nat}(h:Eg n i=some j):seqIndex? i n=some j/\j<n/\-(n:Int)<=i/\i<n:=by
 unfold Eg at h;by_cases h0:0<=i
 .rw[IL h0]at h;by_cases h1:i<n
  .rw[IL h1]at h;have e:i.toNat=j:=JY h;exact⟨by rw[seqIndex_of h0 h1,e],v!,v!,h1⟩
  .rw[IA h1]at h;cases h
 .rw[IA h0]at h;by_cases h1:-(n:Int)<=i
  .rw[IL h1]at h;have e:(i+n).toNat=j:=JY h;exact⟨by rw[seqIndex_neg a! h1,e],v!,h1,v!⟩
  .rw[IA h1]at h;cases h
def a4x{α:Type}{xs:O_}{i:Int}{v:α}(h:Dd xs i=some v):∃j,seqIndex? i i!=some j/\xs[j]?=some v/\j<i!/\-ju!<=i/\i<i!:=by
 unfold Dd at h;cases e:Eg xs.length i with
 |none=>rw[e]at h;cases h
 |some j=>
  rw[e]at h;obtain⟨h1,h2,h3,h4⟩:=b3v e;exact⟨j,h1,h,h2,h3,h4⟩
def Qc(b:Expr):Prop:=∀o i,subscripted b false o i=operate [o,i] (getItem o i)
def Wt(X:Cx)(r:R2):Prop:=
 ∀(value gc:Expr) (B:o_) (s:yM!) (Z:St) (H:Hp) (x y:V) (v u:yh!) (Q:VK),Inv X B Z H s->Bq x v->Bq y u->r x y H Q->
  subscripted gc false v u=operate [v,u] (getItem v u)->wpAny e_ X.A (subscriptTail value gc v u) aI_ X.xe s
def GQ(X:Cx)(id:String)(r:nA_):Prop:=
 ∀(B:o_) (s:yM!) (Z:St) (H:Hp) (x:V) (xs:m_) (v:yh!) (us:j!) (Q:VK),Inv X B Z H s->Bq x v->Be xs us->r x xs H Q->
  wpAny e_ X.A uv! aI_ X.xe s
section
variable{X:Cx}{a b:Expr}{ta tb:TE}{pos:Pos}
def Wt.or{r r':R2}(h:Wt X r)(h':Wt X r'):Wt X sL_:=by
 intro value gc B s Z H x y v u Q I rx ry q hs;obtain q|q:=q
 .exact h value gc B s Z H x y v u Q I rx ry q hs
 .exact h' value gc B s Z H x y v u Q I rx ry q hs
def b9k{r:R2}(J:Wt X r)(ha:a1_)(hb:cu_)(hs:Qc b):PE X nB! iW!:=by intro B s Z H Q I h;exact Subscript_ (d1c ha hb I h λv u s2 x y H2 I2 rx ry q=>J a b B s2 Z H2 x y v u Q I2 rx ry q (hs _ _))
def CA(K:yN!):R2:=λx y H Q=>∃p xs i v,x=.ref p/\y=.int i/\Fj K H p xs/\Dd xs i=some v/\Q v H
def BY(K:yN!):R2:=λx y H Q=>∃p xs i v,x=.ref p/\y=.int i/\Fz K H p xs/\Dd xs i=some v/\Q v H
def BZ:R2:=λx y H Q=>∃z i c,x=.str z/\y=.int i/\ju_<=sizeLine/\Dd z.cps.toList i=some c/\Q gU_ H
def b3u:Wt X (CA X.K):=by
 intro value gc B s Z H x y v u Q I rx ry h hs;obtain⟨p,xs,i,z,rfl,rfl,hq,he,q⟩:=h;cases rx;obtain⟨t,rfl⟩:=ry;show"!N";obtain⟨j,h1,h2,h3,h4,h5⟩:=a4x he;obtain⟨w,ew,ak⟩:=r.get h2;have hl:=aR_;have hn:=sN;have fin:EP X B Z Q w s:=ux!;by_cases h0:0<=i
 .have hj:i.toNat=j:=by
   rw[seqIndex_of h0 h5]at h1;exact JY h1
  exact item_listR pl.isList h0 a! uy! fin hs
 .have hj:(i+(bQ!:Int)).toNat=j:=by
   rw[seqIndex_neg a! h4]at h1;rw[IF,<-hl];exact JY h1
  exact subscriptTail_builtinR (x:=w) pl.isList.typeIs uz_
   (wpAny_getItem_list_neg (Q:=uA!) pl.isList a! uA_ a! uy! ⟨rfl,fin⟩) hs
def c9u:Wt X (BY X.K):=by
 intro value gc B s Z H x y v u Q I rx ry h hs;obtain⟨p,xs,i,z,rfl,rfl,hq,he,q⟩:=h;cases rx;obtain⟨t,rfl⟩:=ry;obtain⟨its,r,pl,hz⟩:=I.tuple hq;obtain⟨j,h1,h2,h3,h4,h5⟩:=a4x he;obtain⟨w,ew,ak⟩:=r.get h2;have hl:=aR_;have hn:=sN;have fin:EP X B Z Q w s:=ux!;exact subscriptTail_builtinR (x:=w) pl.typeIs slot_tuple_getitem.lookup
  (getItem_tuple (j:=j) (Q:=uA!) pl a! a! (by rw[IF,<-hl];exact h1) (by simpa using ew) ⟨rfl,fin⟩) hs
def c9v:Wt X BZ:=by
 intro value gc B s Z H x y v u Q I rx ry h hs;obtain⟨z,i,c,rfl,rfl,hz,he,q⟩:=h;obtain⟨t,rfl⟩:=rx;obtain⟨t',rfl⟩:=ry;obtain⟨j,h1,h2,h3,h4,h5⟩:=a4x he;have hl:z.cps.toList.length=ju_:=by simp[Str.length]
 rw[hl]at h1 h4 h5;have hn:=sN;exact tail_any (typeIs_str s z t) slot_str_getitem.lookup (getItem_str (c:=c) (by
  have e1:decide (i< -(2 ^ 63:Int))=false:=IN a!;have e2:decide (i>=2 ^ 63)=false:=IN a!;rw[e1,e2,Bool.or_false]) (by rw[h1];simpa using h2) ⟨gV!,H,a2!,H!,q⟩) hs
def FA(K:yN!):R2:=λx y H Q=>CA K x y H Q\/BY K x y H Q\/BZ x y H Q
def aH:Wt X (FA X.K):=b3u.or (c9u.or c9v)
def b0o(its:j!)(n j:Nat)(u:yh!):Obj.mapSeq uC_ {cls:=.type "list",data:=.seq its.toArray n}={cls:=.type "list",data:=.seq (its.set j u).toArray n}:=by simp[Obj.mapSeq]
def Inv.lst{B:o_}{Z:St}{H:Hp}{s:yM!}{p:xY!}{xs:m_}(I:d_)(h:H p=some L!):
  ∃(its:j!) (n:Nat),Be xs its/\s.heap.get? p=some {cls:=.type "list",data:=.seq its.toArray n}/\i!<=sizeLine:=by
 obtain⟨z,its,n,r,e⟩:=I.hok p _ h;exact⟨its,n,r,e,z⟩
def Inv.lstUpd{B:o_}{Z:St}{H:Hp}{s:yM!}{p:xY!}{xs ys:m_}{its its':j!}{n n':Nat}{f:Obj->Obj}(I:d_)(h:H p=some L!)
  (ho:s.heap.get? p=some {cls:=.type "list",data:=.seq its.toArray n})(hf:f {cls:=.type "list",data:=.seq its.toArray n}={cls:=.type "list",data:=.seq its'.toArray n'})(r:Be ys its')(hz:jw_)(t:Nat):
  Inv X B Z (upd H p a9!) {s with heap:=s.heap.update p f,toks:=t}:=by
 have e:(s.heap.update p f).get? p=some {cls:=.type "list",data:=.seq its'.toArray n'}:=by
  rw[OK f ho (by rw[hf]<;>rfl),hf]
 refine I.write (x:=p) (e:=p) (by rw[h];trivial) ai_ (λb u hb q=>(uD!).trans q) ⟨_,e⟩ ?_;exact⟨hz,its',n',r,e⟩
def BV:V->V->V->Hp->mr!->Prop:=λo i v H Q=>∃p xs k j,o=.ref p/\i=.int k/\H p=some L!/\Eg xs.length k=some j/\Q uE!
def a5o:Wp X BV:=by
 intro B s Z H o i v ov iv u Q I ro ri rv h;obtain⟨p,xs,k,j,rfl,rfl,hp,hj,q⟩:=h;cases ro;obtain⟨t,rfl⟩:=ri;obtain⟨its,n,r,ho,hz⟩:=I.lst hp;obtain⟨h1,h2,h3,h4⟩:=b3v hj;have hl:=aR_;have hn:=sN;have I':Inv X B Z uE! {s with heap:=s.heap.update p (Obj.mapSeq uC_)}:=
  I.lstUpd hp ho (b0o its n j u) (r.set rv j) (by rw[MN];exact hz) s.toks
 by_cases h0:0<=k
 .have hk:k.toNat=j:=by
   rw[seqIndex_of h0 h4]at h1;exact JY h1
  exact W.ki_setAt ho h0 a! (by rw[IF,<-hl];exact h4) uG!
 .have hk:(k+(bQ!:Int)).toNat=j:=by
   rw[seqIndex_neg a! h3]at h1;rw[IF,<-hl];exact JY h1
  exact W.ki_setBack ho a! (by rw[IF,<-hl];exact h3) a! uG!
def a1w(lo hi:a8_)(n:Nat):(nE!).1=((HT.sIx n 0 lo:Nat):Int)/\(nE!).2.1=((HT.sIx n n hi:Nat):Int)/\(nE!).2.2=1:=by
 refine⟨?_,?_,rfl⟩
 .cases lo with
  |none=>simp[sliceBounds,HT.sIx]
  |some i=>
   show"!n"
   .simp only[h,KG]<;>omega
   .simp only[h,JT]<;>omega
 .cases hi with
  |none=>simp[sliceBounds,HT.sIx]
  |some i=>
   show"!n"
   .simp only[h,KG]<;>omega
   .simp only[h,JT]<;>omega
def yF(its:j!)(lo hi:a8_):slicePick its.toArray lo hi none=((its.drop (HT.sIx its.length 0 lo)).take (HT.sIx its.length its.length hi - HT.sIx its.length 0 lo)).toArray:=by obtain⟨h1,h2,h3⟩:=a1w lo hi bQ!;unfold slicePick;rw[h1,h2,h3];simp only[sliceRange_one,pick_run,IF]<;>rfl
def EY(K:yN!):V->Option Int->Option Int->Hp->VK->Prop:=λx lo hi H Q=>∃a xs,x=.ref a/\Fj K H a xs/\∀p,H p=none->Q cC! (upd H p (.lst gT!))
def b2d:Zh X (EY X.K):=by intro B s Z H x v vl vu lo hi sl Q I rx hs pl pu h;obtain⟨a,xs,rfl,Y,q⟩:=h;cases rx;obtain⟨its,r,ht,hz⟩:=I.list Y;have ao:=aR_;refine⟨"list",_,uz_,ht.isList.typeIs,?_⟩;refine wpAny_getItem_list_slice ht.isList hs pl pu .none d! ?_ uA_;rw[yF,<-ao];refine⟨df!,_,I.laid (t':=s.toks) (o:=.lst gT!) ny_ x_ ?_,rfl,q _ fa_⟩;exact⟨un_,_,0,uo!,dV!⟩
def Nd:V->Bool
 |.non=>true
 |.bl _=>true
 |.int _=>true
 |.str _=>true
 |_=>false
def Yf:V->V->Bool
 |.non,.non=>true
 |.bl a,.bl b=>a==b
 |.bl a,.int b=>uI!==b
 |.int a,.bl b=>a==uI_
 |.int a,.int b=>a==b
 |.str a,.str b=>a==b
 |_,_=>false
def d0c{A:yg!}{s:yM!}{y x:V}{u v:yh!}(ry:Bq y u)(rx:Bq x v)(fy:Nd y=true)(fx:Nd x=true):SeqAt.EqAt A s u v (Yf y x):=by
 cases y with
 |non=>
  cases ry;cases x with
  |non=>cases rx;exact SeqAt.EqAt.same _
  |bl b=>cases rx;exact SeqAt.EqAt.none_bool b
  |int b=>obtain⟨t,rfl⟩:=rx;exact SeqAt.EqAt.none_int b t
  |str b=>obtain⟨t,rfl⟩:=rx;exact SeqAt.EqAt.none_str b t
  |_=>exact absurd jx_ IZ
 |bl a=>
  cases ry;cases x with
  |non=>cases rx;exact SeqAt.EqAt.bool_none a
  |bl b=>cases rx;exact SeqAt.EqAt.bool_bool a b
  |int b=>obtain⟨t,rfl⟩:=rx;exact SeqAt.EqAt.bool_int a b t
  |str b=>obtain⟨t,rfl⟩:=rx;exact SeqAt.EqAt.bool_str a b t
  |_=>exact absurd jx_ IZ
 |int a=>
  obtain⟨t',rfl⟩:=ry;cases x with
  |non=>cases rx;exact SeqAt.EqAt.int_none a t'
  |bl b=>cases rx;exact SeqAt.EqAt.int_bool a t' b
  |int b=>obtain⟨t,rfl⟩:=rx;exact QO a t' b t
  |str b=>obtain⟨t,rfl⟩:=rx;exact SeqAt.EqAt.int_str a t' b t
  |_=>exact absurd jx_ IZ
 |str a=>
  obtain⟨t',rfl⟩:=ry;cases x with
  |non=>cases rx;exact SeqAt.EqAt.str_none a t'
  |bl b=>cases rx;exact SeqAt.EqAt.str_bool a t' b
  |int b=>obtain⟨t,rfl⟩:=rx;exact SeqAt.EqAt.str_int a t' b t
  |str b=>obtain⟨t,rfl⟩:=rx;exact SeqAt.EqAt.str_str a t' b t
  |_=>exact absurd jx_ IZ
 |_=>exact absurd (show false=true from fy) IZ
def Zd(x:V)(u:yh!):Bool:=match u with
 |.none=>Yf .non x
 |.bool b=>Yf bM! x
 |.int i _=>Yf bx_ x
 |.str z _=>Yf (.str z) x
 |_=>false
def c1w{x y:V}{u:yh!}(r:Bq y u)(f:Nd y=true):Zd x u=Yf y x:=by
 cases y with
 |non=>cases r;rfl
 |bl b=>cases r;rfl
 |int i=>obtain⟨t,rfl⟩:=r;rfl
 |str z=>obtain⟨t,rfl⟩:=r;rfl
 |_=>exact absurd (show false=true from f) IZ
def a4z{x:V}:∀{xs:m_} {us:j!},Be xs us->xs.all Nd=true->us.any gX_=xs.any λy=>Yf y x
 |_,_,.nil,_=>rfl
 |y::xs,u::us,.cons r t,f=>by
  rw[OD,JG]at f;rw[NA,NA,c1w r f.1,a4z t f.2]
def wU{A:yg!}{s:yM!}{x:V}{v:yh!}(rx:Bq x v)(fx:Nd x=true):∀{xs:m_} {us:j!},Be xs us->xs.all Nd=true->∀u∈us,SeqAt.EqAt A s u v (Zd x u)
 |_,_,.nil,_=>λu hu=>by cases hu
 |y::xs,u::us,.cons r t,f=>λu' hu=>by
  rw[OD,JG]at f;obtain rfl|hu:=HY.mp hu
  .rw[c1w r f.1];exact d0c r rx f.1 fx
  .exact wU rx fx t f.2 u' hu
def DP(x:V)(xs:m_):Bool:=xs.any λy=>Yf y x
def FB(K:yN!)(neg:Bool):R2:=λx y H Q=>∃p xs,y=.ref p/\(Fj K H p xs\/Fz K H p xs)/\Nd x=true/\xs.all Nd=true/\Q (.bl (if neg then !DP x xs else DP x xs)) H
def b5p:Gr X jy_ (FB X.K false):=by
 intro B s Z H x y v u Q I rx ry h;obtain⟨p,xs,rfl,hq,fx,fs,q⟩:=h;cases ry;obtain hq|hq:=hq
 .show"!N";refine SeqAt.in_listAt gX_ pl.isList uK! fe_;rw[uL!,a4z r fs];exact q
 .show"!x";refine SeqAt.in_tupleAt gX_ pl uK! fe_;rw[uL!,a4z r fs];exact q
def qY:Jd X a9_ (λxs H Q=>∃p ys,xs=gY!/\(Fj X.K H p ys\/Fz X.K H p ys)/\∀l,H l=none->Q jA_ jA!):=by
 intro B s Z H xs us Q I r h;obtain⟨p,ys,rfl,hq,q⟩:=h;obtain⟨u,rfl,rx⟩:=tH r;cases rx;have fin:∀(its:j!),Be ys its->ac!<=sizeLine->∀(h':Heap) (c':Nat),(∀b o',s.heap.get? b=some o'->h'.get? b=some o')->
   h'.get? k_=some {cls:=.type "list",dict:=none,data:=.seq its.toArray c',slots:=#[]}->EP X B Z Q bA! {s with heap:=h'}:=λits r' hz h' c' kp e=>
  ⟨df!,_,I.laid (t':=s.toks) kp x_ (show Fd X.prog X.w _ h' _ a9! from⟨hz,its,c',r',e⟩),rfl,q _ fa_⟩
 obtain hq|hq:=hq
 .obtain⟨its,r',pl,hz⟩:=I.list hq;have ao:=i5!;obtain⟨o,ho,L,n,hd⟩:=pl.isList;exact call_list_seq p ai_ ho L hd uN_ uO!
 .obtain⟨its,r',pl,hz⟩:=I.tuple hq;have ao:=i5!;obtain⟨o,ho,L,n,hd⟩:=pl;exact call_list_seq p d8_ ho L hd uN_ uO!
def FS(K:yN!)(T:String)(x:V)(H:Hp):Prop:=match x with
 |.str _=>T="str"
 |.int _=>T="int"
 |.ref p=>(T="list"/\∃xs,Fj K H p xs)\/(T="tuple"/\∃o,K.lookup p=some o/\o.cls=.type "tuple"/\o.dict=none)\/
   (T="dict"/\((∃kvs,H p=some d0!)\/∃kvs,H p=some jB!))\/(T="set"/\∃S n,H p=some (.set S n))
 |_=>False
def c7y{B:o_}{Z:St}{H:Hp}{s:yM!}{T:String}{x:V}{v:yh!}(I:d_)(r:Bq x v)(ty:FS X.K T x H):
  s.TypeIs v T/\∀a,v=.ref a->∃ob,s.heap.get? a=some ob/\ob.dict=none:=by
 cases x with
 |str z=>
  obtain⟨t,rfl⟩:=r;cases (show T="str" from ty);exact⟨typeIs_str s z t,uS!⟩
 |int i=>
  obtain⟨t,rfl⟩:=r;cases (show T="int" from ty);exact⟨typeIs_int s i t,uS!⟩
 |ref p=>
  cases r;obtain⟨rfl,xs,hq⟩|⟨rfl,o,hk,L,hd⟩|⟨rfl,hk⟩|⟨rfl,S,n,hk⟩:=ty
  .obtain⟨its,_,pl,_⟩:=I.list hq;refine⟨pl.isList.typeIs,λa e=>?_⟩;cases e;obtain⟨o,n,e,c,hd,_⟩:=pl;exact⟨o,e,hd⟩
  .refine⟨⟨o,I.kIn p o hk,L⟩,λa e=>?_⟩;cases e;exact⟨o,I.kIn _ o hk,hd⟩
  .have z:∃o,s.heap.get? p=some o/\ik_:=by
    obtain⟨kvs,hk⟩|⟨kvs,hk⟩:=hk
    .show"!t"
    .show"!t"
   obtain⟨o,e,ex⟩:=z;refine uT_;cases e2;exact uU!
  .obtain⟨o,_,_,_,e,ex,_⟩:=I.hok p _ hk;refine uT_;cases e2;exact uU!
 |_=>exact False.elim ty
def HB(K:yN!)(T:String)(r:nA_)(to:TE)(t:TA):TE:=λZ H Q=>to Z H λx H1=>FS K T x H1/\t Z H1 λxs H2=>r x xs H2 Q
variable{o e:Expr}{es:List Expr}{to:TE}{t:TA}{name:Str}{aj ag:Pos}{T id:String}{r:V->List V->Hp->VK->Prop}
def zS(pa:PlainAttrs T)(slot:Slot T name id)(vq:typeOf fc!=pure (.type "method_descriptor"))(hm:GQ X id r)(ho:PE X o to)(ha:fa!)
  (gu:attributeBase o name X.env dR!=eval o X.env:=by rfl)
  (gw:((backTo ag tG!).all cF_&&(cF!).all cG!
   &&decide ((aJ_).length+(d9!).length+ff_<30))=true:=by rfl)
  (g7:ea!:=by rfl) (hs:ao_:=by rfl) (g8:(uW_).any c!=false:=by rfl):
  PE X (.Call (.Attribute o name aj) aJ_ [] ag) (HB X.K T r to t):=by
 show"!P";refine wpAny_Call_method_late gu gw g7 rfl (dH sc_ λv s1 ⟨x,H1,I1,r1,ty,q1⟩=>?_);obtain⟨h1,h2⟩:=c7y I1 r1 ty;refine⟨T,id,pa,slot,vq,h1,h2,?_⟩;have O:=ha ag B s1 Z H1 _ I1 q1;rw[hs]at O ⊢;refine OE (by show(false||(uW_).any c!)=false;rw[g8]<;>rfl) (OT ?_);exact dH O λus s2 ⟨vs,H2,I2,r2,q2⟩=>hm B s2 Z H2 x vs v us Q I2 r1 r2 q2
end
end L2
namespace L2
open PySem PySem.Spec PyProof.Rows
def FN(X:Cx)(id:String)(r:nA_):Prop:=
 ∀(B:o_) (s:yM!) (Z:St) (H:Hp) (x:V) (xs:m_) (v:yh!) (us:j!) (Q:VK),Inv X B Z H s->Bq x v->Be xs us->r x xs H Q->
  wpAny e_ X.A uv! aI_ X.xe s
def Be.one:∀{x:V} {us:j!},Be [x] us->∃u,us=[u]/\Bq x u
 |_,_,.cons r .nil=>lL_
def Be.rep{xs:m_}(h:in!):∀k:Nat,Be (uX!).flatten (List.replicate k us).flatten
 |0=>.nil
 |k+1=>by
  rw[MM,MM,OC,OC];exact Be.append h (Be.rep h k)
def a0t(its:j!):∀(k:Nat) (acc:j!),
  List.foldl nM_ acc.toArray (List.replicate k be!)=(acc++(uY!).flatten).toArray
 |0,acc=>by simp
 |k+1,acc=>by
  have e:acc.toArray++be!=(nN!).toArray:=by simp
  have e2:nN!++(uY!).flatten=acc++(List.replicate T! its).flatten:=by
   rw[MM,OC,KI]
  rw[<-e2,<-a0t its k nN!,<-e,MM,List.foldl_cons]
section
variable{X:Cx}{B:List (Addr×Obj)}{Z:St}{H:Hp}{s:yM!}{l b:xY!}{xs ys zs:List V}
def Inv.lset{its its':j!}{n:Nat}{f:Array Value->Array Value}{t':Nat}(I:d_)(hH:H l=some L!)
  (e:s.heap.get? l=some {cls:=.type "list",data:=.seq its.toArray n})(hf:f be!=its'.toArray)(hv:Be ys its')(hz:jw_):
  Inv X B Z jA! {s with heap:=s.heap.update l u0!,toks:=t'}:=by
 have q:=PySem.IsL.update e f;rw[hf]at q;refine I.write (x:=l) (e:=l) (by rw[hH];exact trivial) ai_ (λb' u hb hu=>(KN s.heap u0! (IB hb)).trans hu) ⟨_,q⟩ ?_;exact⟨hz,its',_,hv,q⟩
def Inv.lnew{its:j!}{t':Nat}(I:d_)(hv:Be ys its)(hz:jw_):
  Inv X B Z (upd H s.heap.objs.size a9!) {s with heap:=s.heap.push {cls:=.type "list",data:=.seq be!},toks:=t'}:=
 I.laid u1_ x_ ⟨hz,its,0,hv,dV!⟩
def Inv.fresh(I:d_):H k_=none:=I.hok.fresh x_
def Inv.lstM(I:d_)(hH:H l=some L!):i!<=sizeLine/\∃(its:j!) (n:Nat),Be xs its/\i!=g0!/\s.heap.get? l=some {cls:=.type "list",data:=.seq its.toArray n}:=by obtain⟨z,its,n,r,e⟩:=I.hok l _ hH;exact⟨z,its,n,r,aR_,e⟩
def a6q{n:Nat}(h:nN_):Builtin.List.listTooLong n=false:=by unfold Builtin.List.listTooLong;exact IN a!
end
section
variable{X:Cx}
def Ys:V->List V->Hp->VK->Prop:=λx vs H Q=>∃l xs y,x=.ref l/\vs=[y]/\H l=some L!/\i!<sizeLine/\Q .non (upd H l (.lst (xs++[y])))
def a0c:FN X "list.append" Ys:=by intro B s Z H x vs v us Q I rx rv h;obtain⟨l,xs,y,rfl,rfl,hH,hz,q⟩:=h;cases rx;obtain⟨u,rfl,ru⟩:=rv.one;obtain⟨z,its,n,r,hl,e⟩:=I.lstM hH;refine RT F.slot_list_append ea_ F.entry_list_append (F.args_list_append_2 _ _) (PySem.list_append l its.toArray n u u3!) g0_;refine⟨.non,_,I.lset (its':=its++[u]) hH e d! (r.append u4!) ?_,rfl,q⟩;rw[IT,LQ];omega
def Yr:V->List V->Hp->VK->Prop:=λx vs H Q=>∃l b xs zs,x=.ref l/\vs=[.ref b]/\H l=some L!/\H b=some (.lst zs)/\i!+zs.length<=sizeLine/\Q .non (upd H l u5!)
def b6d:FN X "list.extend" Yr:=by
 intro B s Z H x vs v us Q I rx rv h;obtain⟨l,b,xs,zs,rfl,rfl,hH,hB,hz,q⟩:=h;cases rx;obtain⟨u,rfl,ru⟩:=rv.one;cases ru;obtain⟨z,its,n,r,hl,e⟩:=I.lstM hH;obtain⟨z2,gr,n2,r2,hl2,e2⟩:=I.lstM hB;have hsz:bQ!+u5_<=sizeLine:=by rw[IF,IF];omega
 have yc:¬(! mZ!&&Builtin.List.listTooLong (bQ!+u5_))=true:=by
  rw[a6q hsz,RF];exact IZ
 refine RT F.slot_list_extend ea_ F.entry_list_extend (F.args_list_extend_2 _ _)
  (AutoSeq1.list_extend_list_list_0 l its.toArray n b gr.toArray n2 yc u3! a!) ⟨e,e2,?_⟩
 refine⟨.non,_,I.lset (its':=its++gr) hH e d! (r.append r2) ?_,rfl,q⟩;rw[IT];omega
def EZ:R2:=λx y H Q=>∃l k xs,x=.ref l/\y=.int k/\H l=some L!/\-(2 ^ 63)<=k/\k<2 ^ 63/\i!*k.toNat<=sizeLine/\
 ∀p,H p=none->Q cC! (upd H p (.lst (List.replicate k.toNat xs).flatten))
def c5c{α:Type}(xs:O_)(k:Nat):(uX!).flatten.length=k*i!:=by
 induction k with
 |zero=>simp
 |succ k ih=>rw[MM,OC,IT,ih,Nat.succ_mul,Nat.add_comm]
def b9p:Gr X sC_ EZ:=by
 intro B s Z H x y v u Q I rx ry h;obtain⟨l,k,xs,rfl,rfl,hH,h1,h2,hz,q⟩:=h;cases rx;obtain⟨t,rfl⟩:=ry;obtain⟨z,its,n,r,hl,e⟩:=I.lstM hH;have ao:bQ!*k.toNat<=sizeLine:=by rw[IF,<-hl];exact hz
 have YY:¬bQ!*k.toNat>(2 ^ 63 - 1) / 8:=by
  have:(sizeLine:Nat)<=(2 ^ 63 - 1) / 8:=by decide
  omega
 have yd:¬(!Builtin.List.listFitsIndex k)=true:=by
  rw[fitsIndex_both h1 h2];exact IZ
 have yc:¬Builtin.List.listTooLong (bQ!*k.toNat)=true:=by
  rw[a6q ao];exact IZ
 have pv:List.foldl nM_ #[] (List.replicate (if mZ!=true then 0 else k.toNat) be!)=(List.replicate k.toNat its).flatten.toArray:=by
  have f0:∀m:Nat,List.foldl nM_ #[] (List.replicate m be!)=(List.replicate m its).flatten.toArray:=λm=>by
   have:=a0t its m [];rw[JS]at this;show"#H"
  rw[f0];cases its with
  |nil=>simp
  |cons a r'=>rw[ak_]
 refine wpAny_binaryOp_repeat_ref (T:="list") (U:="int") b_ ea_ (λs'=>typeIs_int s' k t) noFill_list_mul F.fills_int_mul F.slot_int_rmul repeat_list F.slot_int_index.lookup
  (RT F.slot_int_rmul (typeIs_int s k t) F.entry_int_rmul (F.args_int_rmul_2 _ _) (int___rmul___int_list k t l its.toArray n)
   ⟨e,rfl,ea_,RT F.slot_list_mul ea_ F.entry_list_mul (F.args_list_mul_2 _ _) (AutoListH.list___mul___list_int_3 l its.toArray n k t yd YY yc) g0_⟩)
 rw[pv];exact⟨.ref _,_,I.lnew (t':=s.toks) (r.rep k.toNat) (by rw[c5c,Nat.mul_comm];exact hz),rfl,q _ I.fresh⟩
end
end L2
namespace L2
open PySem PySem.Spec PyProof.Rows
section
variable{κ:Type} [DecidableEq κ]
def Np(kvs:gB!)(k:κ):Option V:=(kvs.find? λkv=>decide (kv.1=k)).map C!
def b7g{p:κ×V}{r:gB!}{k:κ}(e:p.1=k):Np (p::r) k=some p.2:=by simp[Np,MQ,e]
def b7h{p:κ×V}{r:gB!}{k:κ}(e:¬p.1=k):Np (p::r) k=Np r k:=by simp[Np,MQ,e]
def Oj.isSome_eq{o:Option V}{u:nb!}(r:Oj o u):o.isSome=u.isSome:=by
 cases o with
 |none=>cases u with
  |none=>rfl
  |some _=>exact(jb!).elim
 |some _=>cases u with
  |none=>exact(jb!).elim
  |some _=>rfl
def KV.val{kvs:gB!}{vs:List lN_}(r:KV kvs vs)(k:κ):Oj (Np kvs k) (valueAt vs k):=by
 unfold KV at r
 induction r with
 |nil=>exact jc!
 |@cons p q ps qs h t ih=>
  obtain⟨h1,h2⟩:=h;by_cases e:p.1=k
  .have e':q.1=k:=h1.symm.trans e;have b:valueAt (q::qs) k=some q.2:=by simp[valueAt,MQ,e']
   rw[b7g e,b];exact h2
  .have e':¬q.1=k:=λz=>e (h1.trans z);have b:valueAt (q::qs) k=valueAt qs k:=by simp[valueAt,MQ,e']
   rw[b7h e,b];exact ih
end
def c1d{P:yJ!}{w:ys!}{k:Key}{u:yh!}(r:Bq (kV k) u):(bu!).is k u=true:=by
 cases k with
 |inl i=>obtain⟨t,e⟩:=te_;subst e;exact a6w P w i t
 |inr x=>obtain⟨t,e⟩:=tf!;subst e;exact mG P w x t
def sQ{P:yJ!}{w:ys!}:∀{ks:List Key} {us:j!},Be nO_ us->ItemsAre bu! ks us
 |[],_,r=>by rw[NV]at r;cases r;exact .nil
 |k::ks,_,r=>by
  rw[II]at r;cases r with
  |cons h t=>exact .cons (c1d h) (sQ t)
abbrev KT(H:Hp):List (List Key×V)->List lO!->Prop:=Paired λp q=>p.1=q.1/\H q.2.1=some qV_/\Bq p.2 q.2.2
section
variable{P:yJ!}{w:ys!}{H:Hp}{h:Heap}{a:xY!}
def d2a{u:HO}(ok:bv!)(e:Rd H a u):Fd P w H h a u:=e.ok ok
def a4d{ks:List Key}(ok:bv!)(e:H a=some (.tup nO_)):(gb!).is h ks a:=by obtain⟨_,its,r,o,h1,h2,n,h3⟩:=(show Fd P w H h a (.tup nO_)from ok a _ e);exact⟨o,be!,n,h1,h2,h3,by simpa using sQ r⟩
def d3h{kvs:ij_}(ok:bv!)(e:Rd H a jB!):aC_<=sizeLine/\dJ!=false/\
  ∃xs,KT H kvs xs/\h.DictOfH gb! a xs:=by
 obtain⟨z,y,xs,r,o,es,ep,h1,h2,h3,h4,h5⟩:=(show Fd P w H h a jB! from d2a ok e);refine⟨z,y,xs,r,o,es,ep,h1,h2,h3,h4,ba!,h5⟩;have all:∀{l:ij_} {m:List lO!},KT H l m->∀x∈m,(gb!).is h x.1 x.2.1:=by
  intro l m q
  induction q with
  |nil=>intro x Y;exact nomatch Y
  |@cons p q ps qs hq t ih=>
   intro x Y;obtain e|Y:=HY.mp Y
   .subst e;exact a4d ok (by rw[<-hq.1];exact hq.2.1)
   .exact ih x Y
 exact all r x Y
def xV{kvs:ij_}(ok:bv!)(e:H a=some jB!):aC_<=sizeLine/\dJ!=false/\
  ∃xs,KT H kvs xs/\h.DictOfH gb! a xs:=d3h ok (.inl e)
end
section
variable{X:Cx}{B:List (Addr×Obj)}{Z:St}{H:Hp}{s:yM!}{a:xY!}{y v:V}{u r:yh!}{o:Option V}{A:yg!}{E:Value->Shared->Prop}
def Inv.big(I:d_):sysModules<k_:=by have h:mainGlobals<k_:=(I.mod.glob.keeps I.bk).lt;exact Nat.lt_trans b_ h
def c6l{h':Heap}{t':Nat}{ob:HO}(I:d_)(mu:CY (H a))(hs:ve!)(he:∃q,h'.get? a=some q)(new:Fd X.prog X.w (upd H a ob) h' a ob):
  Inv X B Z (upd H a ob) {s with heap:=h',toks:=t'}:=
 I.write (x:=a) (e:=a) mu ai_ (λb q hb z=>(hs.2 b hb).trans z) he new
end
def CW(i:Expr):Prop:=∀ov iv,subscripted i false ov iv=operate [ov,iv] (getItem ov iv)
def c3m{prog:yJ!}{w:ys!}{A:yg!}{E:p!}{s:yM!}{value:Expr}{pos:Pos}{T id:String}{Q:p!}
  (hl:typeLookup fc_ "__getitem__"=pure (some fc!))(hs:CW gc)
  (h:wpAny q_ A (eval value env) (λo ai=>wpAny q_ A (eval gc env) (λi am=>am.TypeIs o T/\wpAny q_ A (getItem o i) Q E am) E ai) E s):
  wpAny q_ A (eval (.Subscript value gc pos) env) Q E s:=by
 refine Subscript_ (LF h (λo ai h₁=>LF h₁ (λi am iu=>?_) λ_ _ x=>x) λ_ _ x=>x);obtain⟨hT,iu⟩:=iu;unfold subscriptTail;refine HR ?_;rw[getitemInPython_of_ne hT.not_modules];refine HR (QB hT hl ?_);have fin:wpAny q_ A (subscripted gc false o i) (λr du=>wpAny q_ A (letTemporaryGo value o r>>=λ_=>pure r) Q E du) E am:=by
  rw[hs o i];exact wpAny_operating (LF iu (λr du io=>HR (wpAny_letTemporaryGo (HU io))) λ_ _ x=>x)
 first
  |exact HU jC_
  |exact HR (HU jC_)
  |exact HR fin
structure M1(X:Cx)(o:Expr)(m:Str)(aj:Pos)(e:Expr)(ag:Pos):Prop where
 base:attributeBase o m X.env dR!=eval o X.env
 few:((jD!).all cF_&&(cF!).all cG!
  &&decide (([e]:List Expr).length+(d9!).length+ff_<30))=true
 line:nM!=true
 trees:backTo ag vh!=[e8_]
structure M2(X:Cx)(o:Expr)(m:Str)(aj:Pos)(e f:Expr)(ag:Pos):Prop where
 base:attributeBase o m X.env dR!=eval o X.env
 few:((backTo ag vi!).all cF_&&(cF!).all cG!
  &&decide (([e,f]:List Expr).length+(d9!).length+ff_<30))=true
 line:nM!=true
 trees:backTo ag vi!=[e8_,(false,eval f X.env)]
end L2
namespace Att
open PySem PySem.W PySem.Calls PyProof.Rows
def uM{P:Params}{h:Heap}:∀(ns:w!) (vs:j!),WellAll P h vs vj!->IntsAre vs ns:=by
 intro ns
 induction ns with
 |nil=>
  intro vs w;rw[NV]at w;cases w;exact .nil
 |cons n ns ih=>
  intro vs w;rw[II]at w;cases w with
  |cons a b=>
   cases a;exact .cons _ _ (ih _ b)
def b4x{l:OpenLaw}{n:Nat}(hn:jE!){P:Params}{h:Heap}{args:List WData}
  (vt:l.row.toRowW.claim.pre args=true)(ye:WellAll P h yf args):
  ∃a vs ns,yf=[Value.ref a]/\args=[WData.list vj!]/\h.get? a=some {cls:=.type "list",data:=.seq cE!}/\IntsAre vs ns/\db_<=n:=by
 have YZ:WShape.hasAll [] args [.list .int]=true:=(vl_).1;have L:l.pre.holds [] {args:=args}=true:=(vl_).2;obtain⟨d,r,rfl,h1,h2⟩:=hasAllW_cons YZ;obtain rfl:=hasAllW_nil h2;obtain⟨xs,rfl,h3⟩:=hasW_list h1;obtain⟨ns,rfl⟩:=items_int h3;have ao:db_<=n:=by
  unfold OpenLaw.pre at L;have h4:(WTm.not (.lt (.lit (.int (n:Int))) (.len (.arg 0)))).holds [] {args:=[.list jE_]}=true:=by
   have h4:=(holds_andW L).1;rw[hn]at h4;exact h4
  have h5:=condW_of h4 (w_not (w_lt w_lit (w_len_list (w_arg rfl))));rw[IP]at h5;refine Nat.le_of_not_lt λq=>?_;have q':(n:Int)<((db_:Nat):Int):=by omega
  first
   |(rw[JC q']at h5;exact absurd h5 b_)
   |(simp at h5;omega)
 cases ye with
 |cons w1 w2=>
  cases w2;cases w1 with
  |list ho fm=>exact⟨_,_,ns,rfl,rfl,ho,uM ns _ fm,ao⟩
def b5h(l:OpenLaw)(args:List WData):l.row.toRowW.claim.post args fg_ args=true:=
 postW_of (r:=l.row.toRowW) (X:=(true==true))
  (show WShape.has [] fg_ .bool=true by first|rfl|decide|simp[WShape.has,WShape.arms,WShape.armsAll])
  (show(WTm.eq .res (.lit fg_)).value [] {args:=args,res:=some fg_,after:=args}=some (.bool (true==true))from w_eq_bool (w_res rfl) w_lit) rfl
def a8r{l:OpenLaw}{n:Nat}{XP:nQ_}{YP:nR!}{d:DefRec}
  (hn:jE!)(se:nR_)
  (call:∀(w:ys!) (s₀ ai:yM!) (mg mb:A!) (fa:xY!) (o:Obj) (pm cd bo:yh!) (a:xY!) (vs:j!) (ns:w!),
   Ground q yg [] XP w s₀ mg mb ai.heap->YP w ai.heap->
   ai.heap.get? fa=some o->o.data=.func (docDef d.name d.params d.body d.scope pm cd bo)->ai.heap.CodeRec cd d.name->mg d.name=some fh!->
   ai.heap.get? a=some {cls:=.type "list",data:=.seq cE!}->IntsAre vs ns->db_<=n->ai.gens=#[]->
   codeAny (model l.prog w) callerA nS! nT! ai):
  WalkO q yg XP YP l.row.toRowW d [] nT_:=by
 intro w s₀ ai mg mb G vw fa o pm cd bo dV kV ho hd bx hD j5 hg args yf as vt hlay hrd ye hlo;obtain rfl:dV=.none:=Dflts.none hD se;obtain rfl:kV=.none:=Dflts.noKw hD;obtain⟨a,vs,ns,rfl,rfl,yh,hints,ao⟩:=b4x hn vt ye;refine enter_call (RP (call w s₀ ai mg mb fa o pm cd bo a vs ns G vw ho (fd_plain hd) bx j5 yh hints ao hg) λr s' hq=>?_);obtain⟨rfl,h2,h3,h4⟩:=hq;exact⟨.inl ⟨nU!,nU!,[],rfl,gI_,nU!,b5h l _,λ_=>⟨jG!,λ_ hm=>(nomatch hm)⟩⟩,h2,h3,h4⟩
section
variable{prog:yJ!}{w:ys!}{A:yg!}{E:Value->Shared->Prop}{s:yM!}{K:Frag}
end
end Att
namespace L2
open PySem PySem.Spec PyProof.Rows
def zI:∀{vs:j!} {ns:w!},IntsAre vs ns->Be ce! vs
 |_,_,.nil=>.nil
 |_,_,.cons n t h=>.cons nU_ (zI h)
def Zi(H:Hp):Prop:=∀b,H b=none\/∃o xs,H b=some (.frz o L!)
def c0w{P:yJ!}{w:ys!}{K:yN!}{mg mb:A!}{CX:Wv}{k:Nat}{a:xY!}{fd:FuncData}{x:Str}{sp:Sp}{ai:yM!}{vs:j!}{ns:w!}
  (KX:K.In ai.heap)(UQ:ai.heap.Ns mainGlobals mg)(hb:ai.heap.Ns builtinsNs mb)(Y0:∀x:Str,x≠"__name__"->mb x=bootBuiltins x)(Y1:ai.heap.NoLimit)(hg:ai.gens=#[])
  (ha:ai.heap.get? a=some {cls:=.type "list",data:=.seq cE!})(hi:IntsAre vs ns)(hl:s4_)(J:nV!)
  (F:∀base:Heap,K.In base->base.Ns mainGlobals mg->Fm P w K mg base CX k fa fd [x] sp)(Y2:∀(s:yM!) (u:yh!),BindsTo s fd jG_ [(x,u)])
  (ji:∀H:Hp,Zi H->Fj K H a ce!->sp bi_ H jH! λ_ _ _=>False)
  (sf:∀H e s',CX [] H ai nW! e s'->False):
  codeAny L_ callerA nS! nT! ai:=by
 have rv:=zI hi;have Y3:=hi.length;have UR:∀H:Hp,Zi H->Fj K H a ce!->Ol P w H ai.heap->(∀b,H b≠none->b=a)->(H a≠none->K.lookup a=none)->
   codeAny L_ callerA nS! nT! ai:=by
  intro H hO hS hok O hK;have US:∀{b:xY!} {o:Obj},ai.heap.get? b=some o->H b=none->(g2!).get? b=some o:=λe n=>c1o e n;have r9:∀{b:xY!} {o:Obj} {es:bS!} {ep:Nat},ai.heap.get? b=some o->o.data=.dict es ep->H b=none:=λ{b o es ep} e d=>by
   cases q:H b with
   |none=>rfl
   |some u=>
    have e':b=a:=O b cg!;subst e';rw[ha]at e;cases e;have d':Data.seq vs.toArray _=Data.dict es ep:=d;cases d'
  have vx:∀{b:xY!} {m:A!},ai.heap.Ns b m->(g2!).Ns b m:=λ{b m} ⟨o,es,ep,e,d,r⟩=>⟨o,es,ep,US e (r9 e d),d,r⟩;have UT:K.In g2!:=λb o e=>US (KX b o e) (by
   cases q:H b with
   |none=>rfl
   |some u=>
    have e':b=a:=O b cg!;subst e';rw[hK cg!]at e;cases e)
  have hM:Mod K mg g2!:=⟨UT,vx UQ,⟨mb,vx hb,Y0⟩,let⟨mc,h1,h2⟩:=Y1;⟨mc,vx h1,h2⟩⟩;have e0:Rn P w K mg g2! callerA [] ai H:=⟨rfl,hM,λb o e=>c4x e,PU (b6l _ _),trivial,λb hb=>absurd (show b∈tR_ from hb) d!,hok,.of_eq hg⟩;refine RP ((F _ UT (vx UQ)).run callerA [] ai H nS_ bi_ bi_ _ _ J e0 (Y2 ai P!) tJ! (ji H hO hS)) λr s' h=>?_;cases r with
  |error e=>exact(sf H e s' h).elim
  |ok fl=>
   cases fl with
   |next=>exact False.elim h
   |brk=>exact False.elim h
   |cont=>exact False.elim h
   |ret u=>
    obtain⟨v,H',os,bare,un,Y4,r',q⟩:=h;have q':v=.bl true:=q;subst q';obtain rfl:u=Value.bool true:=r';refine⟨rfl,OldK.of_keep λb o e=>?_,os,bare⟩;cases q:H b with
    |none=>exact un.keep b o e q (by intro z;exact absurd tS! d!) d!
    |some u=>
     obtain z|⟨ob,xs,z⟩:=hO b
     .rw[q]at z;cases z
     .have z2:=un.frzs b ob _ z;obtain⟨e1,_⟩:=hok b _ z;obtain⟨e2,_⟩:=Y4 b _ z2;rw[e]at e1;cases e1;exact e2
 cases hk:K.lookup a with
 |some o=>
  have e:=KX a o hk;rw[ha]at e;cases e;refine UR (λ_=>none) (λ_=>.inl rfl) (.inr ⟨_,cE!,_,hk,rfl,rfl,rfl,by rw[IF,Y3];exact hl,by simpa using rv⟩) (λb u z=>by have z':(none:Option HO)=some u:=z;cases z') (λb z=>absurd rfl z) λz=>absurd rfl z
 |none=>
  refine UR (λb=>if b=a then some (.frz {cls:=.type "list",data:=.seq cE!} (.lst ce!))else none) (λb=>?_) (.inl (.inr ⟨{cls:=.type "list",data:=.seq cE!},l_⟩)) (λb u z=>?_) (λb z=>?_) λ_=>hk
  .show"#8"
   .exact .inr ⟨_,_,IL hb⟩
   .exact .inl (IA hb)
  .show"#8"
   .have z':=(IL hb).symm.trans z;cases z';subst hb;exact⟨ha,vv_,vs,_,rv,ha⟩
   .have z':=(IA hb).symm.trans z;cases z'
  .show"#8"
   .exact hb
   .exact absurd (IA hb) z
end L2
namespace L2
open PySem PySem.Spec PyProof.Rows
def c3f{l:W.OpenLaw}{n k:Nat}{XP:nQ_}{YP:nR!}{d:DefRec}{K:vw!}{CX:World->Wv}{sp:World->Sp}{x:Str}
  (hn:jE!)(jh:nN_)(se:nR_)(J:nV!)
  (hY:vx!)
  (F:∀(w:ys!) (mg:A!) (fa:xY!) (h:Heap),(bS_).In h->h.Ns mainGlobals mg->mg d.name=some fh!->
   ∃fd:FuncData,vx_/\
    ∀base:Heap,(bS_).In base->base.Ns mainGlobals mg->Fm l.prog w bS_ mg base (CX w) k fa fd [x] (sp w))
  (ji:∀(w:ys!) (H:Hp) (a:xY!) (ns:w!),db_<=n->Zi H->Fj bS_ H a ce!->sp w bi_ H jH! λ_ _ _=>False)
  (sf:∀(w:ys!) (H:Hp) (s:yM!) (e:yh!) (s':yM!),CX w [] H s nW! e s'->False):
  W.WalkO q yg XP YP l.row.toRowW d [] nT_:=by
 refine Att.a8r hn se λw s₀ ai mg mb fa o pm cd bo a vs ns G vw ho hd bx j5 yh hints ao hg=>?_;have KX:=hY w _ vw;obtain⟨fd,hb,hF⟩:=F w mg fa _ KX G.T.g j5;exact c0w KX G.T.g G.T.b G.T.builtins G.T.nolimit hg yh hints (JL ao jh) J hF hb (λH hO hS=>ji w H a ns ao hO hS) λH e s'=>sf w H ai e s'
def b7f{l:W.OpenLaw}{n k:Nat}{XP:nQ_}{YP:nR!}{d:DefRec}{K:vw!}{CX:Wv}{sp:W.Frag->Sp}{x:Str}
  (hn:jE!)(jh:nN_)(se:nR_)(J:nV!)
  (hY:vx!)
  (F:∀(w:ys!) (mg:A!) (fa:xY!) (h:Heap),(bS_).In h->h.Ns mainGlobals mg->mg d.name=some fh!->
   ∃fd:FuncData,vx_/\
    ∀base:Heap,(bS_).In base->base.Ns mainGlobals mg->Fm l.prog w bS_ mg base CX k fa fd [x] (sp bS_))
  (ji:∀(K:yN!) (H:Hp) (a:xY!) (ns:w!),db_<=n->Zi H->Fj K H a ce!->sp K bi_ H jH! λ_ _ _=>False)
  (sf:∀(H:Hp) (s:yM!) (e:yh!) (s':yM!),CX [] H s nW! e s'->False):
  W.WalkO q yg XP YP l.row.toRowW d [] nT_:=
 c3f (K:=K) (CX:=λ_=>CX) (sp:=λw=>sp bS_) hn jh se J hY F (λw H a ns h1 h2 h3=>ji bS_ H a ns h1 h2 h3) λ_ H s e s'=>sf H s e s'
end L2
namespace L2
open PySem PySem.Spec PyProof.Rows
def Fo(s:Stmt):Arguments:=match s with
 |.FunctionDef _ a _ _ _ _ _ _ _ _=>a
 |_=>{posonlyargs:=[],args:=[],vararg:=none,kwonlyargs:=[],kw_defaults:=[],kwarg:=none,defaults:=[]}
def Df(s:Stmt):List Stmt:=match s with
 |.FunctionDef _ _ b _ _ _ _ _ _ _=>b
 |_=>[]
def Ad(s:Stmt):Scope:=match s with
 |.FunctionDef _ _ _ _ _ _ sc _ _ _=>sc
 |_=>{kind:=.function,names:=[],isGenerator:=false,isCoroutine:=false}
abbrev Pz:Wv:=λ_ _ _ _ _ _=>False
abbrev E0:XK:=λ_ _ _=>False
def wF{X:Cx}:Mb Pz X E0:=λ_ _ _ _ _ _ _ h=>h.elim
structure Yb(K:yN!)(x qual:Str)(st:Stmt)(f:xY!)(fd:FuncData):Prop where
 ex:∃(oc:yh!) (od:a7!) (kV bo pm:yh!) (an:a7!) (af ct:yh!) (dw:cc_),
  fd=W.fnOf x qual jJ! bT! bE! .none kV bo pm an af ct/\K.lookup f=some ⟨oc,od,.func fd,dw⟩/\W.codeIn K af qual=true
 kp:W.keepIn K ai!=true
section
variable{P:yJ!}{w:ys!}{K:yN!}{mg:Str->Option Value}{base:Heap}
def Yb.ok{x:Str}{st:Stmt}{f:xY!}{fd:FuncData}{ps:r_}{k:Nat}{sp:Sp}(F:vz!)(S:ec!)(len:tZ!)
  (pj:∀(af:yh!) (A:yg!) (outer:av_) (s:yM!) (H:Hp) (vs:m_) (Q:VK) (E:XK),Al k (A.deeper (envOfC qual bE! s.heap.objs.size f af))->sp vs H Q E->
   ∃t,Ul (Pb Pz P w K mg base N qual bE! f af A outer s H E).nox bT! t/\t {nx:=λ_ H'=>Q .non H',rt:=Q} gO! H):Fm P w K mg base Pz T! f fd ps sp:=by
 show"#)";refine d3d lk bx S len λA outer s H vs Q E J ji=>?_;obtain⟨t,h,q⟩:=pj af A outer s H vs Q E J ji;exact⟨t,h.nox,q⟩
def Yb.binds{x:Str}{st:Stmt}{f:xY!}{fd:FuncData}{ps:r_}(F:vz!)
  (h:vz_):Ez K fd ps []:=by
 show"#)";exact .all (h kV bo pm an af ct)
def pE{x:Str}{st:Stmt}{f:xY!}{od an:a7!}{dw:cc_}{kV:yh!}(l:vA!)
  (c:jk!)(k:g4!):Yb K x qual st f nX!:=⟨⟨oc,od,kV,bo,pm,an,af,ct,dw,rfl,l,c⟩,k⟩
end
def b4t{n:Nat}(h:n<=1000):n<sizeLine:=MY h b_
def mQ{A hc:Prop}(h:hc):if false=true then A else hc:=by rw[IA IZ];exact h
def mP{A hc:Prop}(h:A):if true=true then A else hc:=by rw[l_];exact h
def Bj(H H':Hp):Prop:=∀b o,H b=some o->H' b=some o
def Bj.refl(H:Hp):Bj H H:=λ_ _ h=>h
def Bj.trans{H H1 H2:Hp}(a:Bj H H1)(b:Bj H1 H2):Bj H H2:=λc o h=>b c o (a c o h)
def Bj.free{H H':Hp}(e:fk!){l:xY!}(h:H' l=Option.none):H l=Option.none:=by
 cases q:H l with
 |none=>rfl
 |some o=>
  rw[e l o q]at h;cases h
def Bj.seq{K:yN!}{H H':Hp}{a:xY!}{xs:m_}(e:fk!)(h:Fj K H a xs):Fj K H' a xs:=by
 rcases h with(h|⟨o,h⟩)|h
 .exact vB!
 .exact vC!
 .exact .inr h
end L2
namespace L2
open PySem PySem.Spec PyProof.Rows
def Inv.track{X:Cx}{B:o_}{Z:St}{H:Hp}{s:yM!}{D:xY!}{ys:m_}{us:j!}{n:Nat}(I:d_)
  (hD:s.heap.get? D=some {cls:=.type "list",data:=.seq us.toArray n})(r:Be ys us)(hz:jw_)(hn:H D=none)(hs:dL!<=D)(hL:D≠X.env.locals)
  (L:∀x c,X.env.cells.lookup x=some c->c≠D)(hp:∀p∈X.pn++B,p.1≠D):Inv X B Z (upd H D a9!) s:=by
 have ne:∀b u,H b=some u->b≠D:=λb u e=>cL e hn;refine I.step (g':=s.gens) (d':=s.drawn) (t':=s.toks) (h':=s.heap) (ch:=[D]) iu! (λb o _ _ _ e _=>e) (λb o _ _ _ e _=>vC_) (λb o L e n=>?_) (λb o _ e=>⟨o,e⟩)
  (λb xs e=>by rw[nY_];exact e) (λb o u e=>by rw[nY_];exact e) (λb ps e=>⟨#[],by rw[nY_,e];simp⟩) nZ! rq_ I.bare
 .have e:b=D:=by simpa using hb
  subst e;exact⟨.inr hs,hL,L,hp⟩
 .rw[nZ_];exact n
 .by_cases hb:b=D
  .show"!w";exact⟨hz,us,n,r,hD⟩
  .rw[aW hb]at e;exact(I.hok b u e).stay n0! (λc q=>by rw[aW (ne c _ q)];exact q) λc xs q=>by rw[aW (ne c _ q)];exact q
nonrec def closOf(cells:bm!):List zt!->List fk_->List fk_
 |[],acc=>acc
 |(n,k)::r,acc=>if k==.free then closOf cells r ((n,(cells.lookup n).getD 0)::acc)else closOf cells r acc
structure Zk(X:Cx)(scope:Scope)(cl:bm!):Prop where
 eq:closureFor scope X.env=pure cl
 sub:∀x c,cl.lookup x=some c->X.env.cells.lookup x=some c
 all:∀x,scope.names.lookup x=some .free->∃c,cl.lookup x=some c
def sZ{env:Env}:∀(names:fl!) (acc:bm!),(∀p∈names,p.2=.free->∃c,env.cells.lookup p.1=some c)->
  (forIn names acc λx r=>(match x with|(name,kind)=>if(kind==g5!)=true then(do let a <-cellOf env name;pure vF!)else pure jO!:Sem vF_))=(pure (closOf env.cells names acc):Sem (List fk_))
 |[],acc,_=>rfl
 |(n,k)::r,acc,h=>by
  rw[NY];cases hk:(k==g5!)with
  |true=>
   obtain⟨c,L⟩:=h (n,k) IH vG!;have bq:env.cells.lookup n=some c:=L;have e:cellOf env n=pure c:=by unfold cellOf;rw[bq]
   have ih:=sZ r ((n,c)::acc) λp hp=>h p jO_;have e2:closOf env.cells ((n,k)::r) acc=closOf env.cells r ((n,c)::acc):=by
    show vG_;rw[aU!,bq];rfl
   rw[e2,<-ih];simp only[hk,KG,e];rfl
  |false=>
   have ih:=sZ r acc λp hp=>h p jO_;have e2:closOf env.cells ((n,k)::r) acc=closOf env.cells r acc:=by
    show vG_;rw[IA (by rw[hk];exact IZ)]
   rw[e2,<-ih];simp only[hk];rfl
def pI(cells:bm!):∀(names:fl!) (acc:bm!),(∀p∈names,p.2=.free->∃c,cells.lookup p.1=some c)->(∀p∈acc,cells.lookup p.1=some p.2)->∀p∈closOf cells names acc,cells.lookup p.1=some p.2
 |[],_,_,h=>h
 |(n,k)::r,acc,hn,h=>by
  unfold closOf;split
  .rename_i hk;obtain⟨c,L⟩:=hn (n,k) IH vG!;refine pI cells r _ vI! λp hp=>?_;obtain rfl|hp:=HY.mp hp
   .have bq:cells.lookup n=some c:=L;rw[bq];rfl
   .exact h p hp
  .exact pI cells r _ vI! h
def pK(cells:bm!):∀(names:fl!) (acc:bm!) (x:Str),(∃c,(x,c)∈acc)->∃c,(x,c)∈closOf cells names acc
 |[],_,_,h=>h
 |(n,k)::r,acc,x,h=>by
  unfold closOf;split
  .exact pK cells r _ x (let⟨c,L⟩:=h;⟨c,HZ _ L⟩)
  .exact pK cells r _ x h
def pJ(cells:bm!):∀(names:fl!) (acc:bm!) (x:Str),(x,g5!)∈names->∃c,(x,c)∈closOf cells names acc
 |[],_,_,h=>nomatch h
 |(n,k)::r,acc,x,h=>by
  unfold closOf;obtain h|h:=HY.mp h
  .cases h;rw[IL di!];exact pK cells r _ _ ⟨_,IH⟩
  .split
   .exact vK_
   .exact vK_
def oB{β:Type}:∀{l:List (Str×β)} {x:Str} {c:β},(x,c)∈l->∃d,l.lookup x=some d
 |[],_,_,h=>nomatch h
 |(n,k)::r,x,c,h=>by
  cases Y:(x==n)with
  |true=>exact⟨k,by simp[KA,Y]⟩
  |false=>
   obtain h|h:=HY.mp h
   .cases h;simp at Y
   .obtain⟨d,hd⟩:=oB h;exact⟨d,by simp[KA,Y,hd]⟩
def b4f{X:Cx}{scope:Scope}(h:∀p∈ch!,p.2=.free->∃c,X.env.cells.lookup p.1=some c):∃cl,Zk X scope cl:=by
 refine⟨closOf X.env.cells scope.names [],?_,l3_,λx e=>?_⟩
 .have e:=sZ (env:=X.env) scope.names [] h;simp only[closureFor];rw[show(forIn scope.names ([]:List fk_) λx r=>(match x with|(name,kind)=>if(kind==NameKind.free)=true then(do let a <-cellOf X.env name;pure vF!)else pure jO!:Sem vF_))=pure (closOf X.env.cells scope.names [])from e];rfl
 .exact pI X.env.cells scope.names [] h rk_ (x,c) (ML e)
 .obtain⟨c,L⟩:=pJ X.env.cells scope.names [] x (ML e);exact oB L
def Nl(X:Cx)(scope:Scope)(cl:bm!)(C:xY!)(N:r_)(am:yM!)(a8:Hp)(fp:av!):Cx:=
 {X with N:=N,s₀:=am,H₀:=a8,env:=compEnvC scope cl C X.env,outer:=X.stack,stack:=X.stack,ex:=fp,fn:=λ_=>false,pn:=[],xe:=λ_ _=>False}
def mI{env:Env}:∀{names:fl!} {x:Str},(∀y∈names,y.2≠.cell)->
  ((jQ_).lookup x=some .cell\/
     (jQ_).lookup x=some .free)->names.lookup x=some .free
 |[],_,_,h=>by simp at h
 |(n,k)::r,x,L,h=>by
  have ih:=@mI env r x λy hy=>L y ec_;have hk:k≠.cell:=L (n,k) IH;rw[II]at h;by_cases hf:n1_=true
  .simp only[hf,KG]at h;cases Y:x==n with
   |true=>
    simp only[KA,Y];simp only[JG,OB]at hf;rw[hf.1.1]
   |false=>
    simp only[KA,Y]at h ⊢;exact ih h
  .simp only[hf]at h;cases Y:x==n with
   |true=>
    simp only[JH,JT,KA,Y]at h ⊢;obtain h|h:=h
    .cases h;exact absurd rfl hk
    .exact h
   |false=>
    show"#4";exact ih h
def mJ{env:Env}:∀{names:fl!} {x:Str},names.lookup x=some .free->
  ((jQ_).lookup x=some .cell\/
     (jQ_).lookup x=some .free)
 |[],_,h=>by simp at h
 |(n,k)::r,x,h=>by
  have ih:=@mJ env r x;rw[II];by_cases hf:n1_=true
  .simp only[hf,KG];cases Y:x==n with
   |true=>exact .inl (by simp[KA,Y])
   |false=>
    simp only[KA,Y]at h ⊢;exact ih h
  .simp only[hf];cases Y:x==n with
   |true=>
    show"#4";exact .inr h
   |false=>
    show"#4";exact ih h
structure Ck(X:Cx)(scope:Scope)(NF:r_)(ix:k!):Prop where
 len:NF.length=ix.length
 at_:∀(k:Nat) (x:Str),NF[k]?=some x->∃j,ix[k]?=some j/\X.N[j]?=some x/\scope.names.lookup x=some .free/\rd_
def Ck.nil{X:Cx}:Ck X scope [] []:=⟨rfl,λk x e=>by simp at e⟩
def Ck.cons{X:Cx}{scope:Scope}{j:Nat}{ix:k!}(h:di_)(h1:vL!:=by rfl)(h2:scope.names.lookup x=some .free:=by rfl)
  (h3:X.env.kindOf x=some .cell\/X.env.kindOf x=some .free:=by first|exact Or.inl rfl|exact Or.inr rfl):Ck X scope (x::NF) (j::ix):=
 ⟨by simp[h.len],λk y e=>by
  cases k with
  |zero=>simp at e;subst e;exact⟨j,rfl,h1,h2,h3⟩
  |succ k=>simpa using h.at_ k y cX_⟩
def Pp(nl:Nat)(ix:k!)(Z:St):St:=List.replicate nl none++ix.map λj=>(Z[j]?).join
def d0t{X:Cx}{B:o_}{Z:St}{H2:Hp}{s2:yM!}{scope:Scope}{cl:bm!}{fp:av!}
  (cj:dj!)(cf:dj_)(b7:n2!)(I2:n2_)(f2:n3!)(flt:vL_)(hC:N!<=C):
  (Nl X scope cl C N s2 H2 fp).Ok where
 mod:=I2.ok.mod
 kind:=cj
 glob:=I2.ok.glob
 blt:=I2.ok.blt
 above:=hC
 inj:=λx y c h1 h2=>I2.ok.inj x y c (b7.sub x c h1) (b7.sub y c h2)
 has:=λx h=>b7.all x (mI cf h)
 cab:=λ_ _ h=>nomatch h
 hd:=I2.ok.hd
 frames:=I2.ok.frames
 stk:=.inl rfl
 exf:=λb hb=>⟨JP (JD jR! hC),λx c h=>(dW_).2.2.2.2.1 x c g5_⟩
 bs:=I2.bs
 bsz:=JL I2.ok.bsz I2.sz
 noex:=λb o e hb=>by
  obtain z|z:=(dW_).2.2.2.1
  .exact I2.ok.noex b o e z
  .exact absurd (JD c0! (JL I2.ok.bsz z)) dK!
 exfs:=λb hb hf=>by
  obtain⟨_,f1,f3,_⟩:=f2 b hb;obtain z|z:=HY.mp (I2.stkSub b hf)
  .exact f1 z
  .exact f3 z
 funs:=I2.stack
 frf:=I2.stkFree
def c1m{X:Cx}{B:o_}{Z:St}{H2:Hp}{s2:yM!}{scope:Scope}{cl:bm!}{D:xY!}{oD:Obj}{NL:r_}{ix:k!}{fp:av!}{h₁:Heap}{t:Nat}{m:A!}
  (cj:dj!)(cf:dj_)(b7:n2!)(cap:di_)(I2:n2_)(f2:n3!)(flt:vL_)
  (hC:N!<=C)(hD:N!<=D)(jm:D≠C)(ac:∀b u,s2.heap.get? b=some u->h₁.get? b=some u)(hn:h₁.Ns C m)(xz:h₁.get? D=some oD)(ya:∀v,oD.data≠.cell v):
  Inv (Nl X scope cl C g6! s2 H2 fp) (dk!++[(D,oD)]) n4! H2 {s2 with heap:=h₁,toks:=t}:=by
 refine⟨d0t cj cf b7 I2 f2 flt hC,rfl,I2.bare,Un.kept ac,⟨m,hn,rg!⟩,λx c h=>?_,I2.hok.fresh hC,λx c h=>I2.freeC x c g5_,dM!,I2.hok.kept ac,?_⟩
 .have UU:g6![i]?=some x:=e1;unfold Pp at e2;by_cases hi:i<NL.length
  .rw[LB gO_,OX]at e2;rw[IL hi]at e2;cases e2
  .rw[fb_,JM,NW]at e2;rw[fb_]at UU;obtain⟨j,hj,hN,hf,hk⟩:=cap.at_ _ _ UU;rw[hj]at e2;have vy:(Z[j]?).join=some v:=JY e2;have e4:Z[j]?=some dL_:=by
    cases q:Z[j]? with
    |none=>rw[q]at vy;cases vy
    |some o=>rw[q]at vy;exact congrArg some vy
   obtain⟨m2,_,hl⟩:=I2.loc;have hv:Xz X.env.scope x:=hk.elim (λz=>.inr dk_) λz=>.inr fl_;obtain⟨u,r,l⟩:=hl j x v hN e4 hv;refine⟨u,r,.inr ?_⟩;obtain⟨k,_⟩|⟨_,c,L,z⟩:=l
   .obtain z|z:=hk
    .rw[z]at k;cases k
    .rw[z]at k;cases k
   .obtain⟨c',bq⟩:=b7.all x hf;have e5:=b7.sub x c' bq;rw[L]at e5;cases e5;obtain⟨o,ho,hd⟩:=z;exact⟨mJ hf,c,bq,⟨o,ac _ _ ho,hd⟩⟩
 .obtain⟨v,o,ho,hd⟩:=I2.cell x c g5_;exact⟨v,o,ac _ _ ho,hd⟩
 .have UV:∀b,b≠X.env.locals->b∉X.fs->b∉frs X.stack:=λb h1 h2 h3=>(HY.mp (I2.stkSub b h3)).elim h1 h2;have br:p∈dk!++[(D,oD)]:=by simpa[Nl]using hp
  obtain br|br:=IK.mp br
  .obtain⟨e,n,ne,nf,d⟩:=I2.pin p br;exact⟨ac _ _ e,n,JP (JD c0! hC),UV _ ne nf,d⟩
  .have e:p=(D,oD):=by simpa using br
   subst e;exact⟨xz,I2.hok.fresh hD,jm,UV _ (OO (JD I2.lt hD)) (I2.nofs hD),ya⟩
 .show(n4!).length=(g6!).length;unfold Pp;rw[IT,IT,IP,NW,cap.len]
def a4s{R:s7_}{E:p!}(I:Nat->Shared->Prop)
  (hE:∀e s',E e s'->notedBy q_ A env (λe s'=>R (.error e) s') e s')
  (turn:∀n s,I n s->wpAny q_ A (pyNext it) (λr ai=>match r with
   |none=>R (.ok .next) ai
   |some v=>wpAny q_ A (letOwnedTupleGo vk it v) (λ_ UW=>wpAny q_ A (assign vk env v) (λ_ am=>
     wpAny q_ A (forIn db true λc r=>if r=true then do let ok <-isTrue c env (eval c env);pure vO_ else pure jO!) (λok du=>
      if ok=true then wpAny q_ A (eval dz env) (λx vz=>
       wpAny q_ A (call (.builtin "list.append") [acc,x]) (λ_ UX=>∃m,m<n/\I m UX) E vz) E du
      else∃m,m<n/\I m du) E am) E UW) E ai) E s)
  (n:Nat) (h:I n s):codeAny q_ A (.compLoop (.ListComp dz [⟨vk,iter,db,0⟩] scope pos) 0 it acc env) R s:=by
 refine codeAny_loop rfl I (λn s hI=>?_) n h;refine wpAny_noted ?_;rw[compTurn_list];refine HR (RB (HR (LF (turn n s hI) (λr ai h₁=>?_) hE)));cases r with
 |none=>exact HU h₁
 |some v=>
  refine HR (LF h₁ (λ_ UW Y5=>?_) hE);refine HR (LF Y5 (λ_ am iu=>HR (LF iu (λok du io=>?_) hE)) hE);cases ok with
  |false=>exact HU ⟨rfl,io⟩
  |true=>
   exact HR (HR (LF io (λx vz jn=>HR (LF jn (λ_ UX j6=>HU (HU ⟨rfl,j6⟩)) hE)) hE))
def Py(X:Cx)(db:bL_)(t:TT):Prop:=
 ∀(B:o_) (s:yM!) (Z:St) (H:Hp) (Q:dO!),Inv X B Z H s->t Z H Q->
  wpAny e_ X.A (forIn db true λc r=>if r=true then do let ok <-isTrue c X.env (eval c X.env);pure vO_ else pure jO!) iz_ X.xe s
def BL:TT:=λ_ H Q=>Q true H
def a6g{X:Cx}:Py X [] BL:=λB s Z H Q I h=>wpAny_tests_nil ⟨H,I,h⟩
def a6f{X:Cx}{t:TT}(h:PT X c t):Py X [c] t:=λB s Z H Q I hw=>wpAny_tests_one rT_
def We(ab:It)(g:TG)(tt:TT)(te:TE)(Fin:c2!)(Z:St)(H:Hp):Prop:=∃W:Nat->Nat->List V->St->Hp->Prop,(∃m,W 0 m [] Z H)/\∀i m ys Z H,W i m ys Z H->ac!<=sizeLine/\
 ((ab.stop i H/\Fin ys H)\/(ab.go i H/\∀x H',ab.yld i H x H'->g x Z H' λc9 H2=>tt c9 H2 λb H3=>if b=true then te c9 H3 λy H4=>∃m',m'<m/\W X! m' (ys++[y]) c9 H4 else∃m',m'<m/\W X! m' ys c9 H3))
abbrev Ue(us:j!)(n:Nat):Obj:={cls:=.type "list",data:=.seq us.toArray n}
def a1e{X:Cx}{scope:Scope}{NL:r_}{ix:k!}{cl:bm!}{g:TG}{tt:TT}{te:TE}{E:p!}
  {B:o_}{Z:St}{H2:Hp}{s2:yM!}{fp:av!}{tn:dS_}{ab:It}{Fin:c2!}{RR:Value->Addr->Result->Shared->Prop}
  (cj:dj!)(cf:dj_)(b7:n2!)(cap:di_)(calm:aD_)
  (hg:∀C am a8 fp,PG ch_ tg g)(hi:∀C am a8 fp,Py ch_ db tt)(he:∀C am a8 fp,PE ch_ dz te)
  (I2:n2_)(T:Td X.prog X.w X.K tg ab fp it tn)(bg:tn 0 s2.heap)(f2:n3!)(hw:We ab g tt te Fin n4! H2)
  (Y6:∀(D C:xY!) (us:j!) (n:Nat) (ys:m_) (H':Hp) (s':yM!),Inv X B Z H' s'->s'.heap.get? D=some (Ue us n)->Be ys us->ac!<=sizeLine->H' D=none->N!<=D->N!<=C->D≠C->H' C=none->
   (∃m,s'.heap.Ns C m)->Fin ys H'->RR (.ref D) C (.ok .next) s'):
  wpAny e_ X.A (newList []) (λacc du=>wpAny e_ X.A (newFunctionEnv scope X.env.globals cl [] X.env.qual none .none (some X.env)) (λUY vz=>
   codeAny e_ X.A (.compStart g7! 0 b8_ acc {UY with scope:=relabel scope X.env}) (RR acc UY.locals) vz) E du) E s2:=by
 obtain⟨W,⟨m0,w0⟩,turn⟩:=hw;have flt:∀b∈fp,b<N!:=λb hb=>let⟨o,e,_⟩:=T.obj _ _ bg b hb;JB e;refine LI (wpAny_newFunctionEnv cf (by intro y hy;simp at hy) (λh₁ yi v0=>?_) cj);dsimp only at yi v0 ⊢;generalize yj:s2.heap.push {cls:=.type "list",dict:=none,data:=.seq (vR_).toArray}=G2 at yi v0 ⊢;have hC:g7_=N!+1:=by rw[<-yj,OA]
 have jm:N!≠g7_:=by rw[hC];exact JP (QQ _)
 have UZ:N!<=g7_:=by rw[hC];exact QJ _
 have U':∀b,b<N!->b≠g7_:=λb hb=>by rw[hC];exact JP (Nat.lt_succ_of_lt hb)
 have ac:∀b o,s2.heap.get? b=some o->h₁.get? b=some o:=λb o e=>v0.extBut b o (U' b c0!) (HX _ (yj▸HX _ e));have Y7:h₁.get? N!=some (Ue [] 0):=v0.extBut _ _ jm (HX _ (yj▸IY _ rfl));have j7:tn 0 h₁:=T.keep _ _ _ bg λb _ o e=>ac b o e;have I1:=c1m (NL:=NL) (t:=s2.toks+(vS!).length) cj cf b7 cap I2 f2 flt UZ x_ jm ac yi Y7 vS_;have mi:∀{H':Hp} {oD:Obj},gw_->∀b∈fp,Ga ef_ (dk!++[(N!,oD)]) H' b:=λ{H' oD} hn b hb=>by
  obtain⟨_,f1,f3,f4,f5,f6⟩:=f2 b hb;refine⟨hn b hb,U' b jR!,λz=>(HY.mp (I2.stkSub b z)).elim f1 f3,.inl hb,λx c h=>f5 x c g5_,dM!⟩;have br:p∈dk!++[(N!,oD)]:=by simpa[Nl]using hp
  obtain br|br:=IK.mp br
  .exact f6 p br
  .have e:p=(N!,oD):=by simpa using br
   subst e;exact OO jR!
 have VA:∀du:Shared,du={s2 with heap:=h₁,toks:=s2.toks+(vS!).length}->
   codeAny e_ X.A (.compLoop g7! 0 b8_ (.ref N!) (compEnvC scope cl G2.objs.size X.env)) (RR (.ref N!) g7_) du:=by
  rintro du rfl;refine a4s (E:=vU!) (λk s'=>∃i ys us n hr H',Inv ef_ (dk!++[jV_]) hr H' s'/\tn i s'.heap/\gw_/\Be ys us/\W i k ys hr H')
   (λ_ _ z=>z.elim) ?_ m0 ⟨0,[],[],0,_,H2,I1,j7,ss!,.nil,w0⟩
  rintro k s' ⟨i,ys,us,n,hr,H',I',hx,VB,rv,w'⟩;obtain⟨ao,yk⟩:=turn i k ys hr H' w';obtain⟨stop,fin⟩|⟨go,step⟩:=yk
  .refine dH (T.done ef_ rfl rfl rfl calm i _ s' hr H' _ I' (mi VB) hx stop) λr s4 ⟨J,I4⟩=>?_;subst J;have VC:=I4.pin jV_ (by simp[Nl]);have IX:Inv X B Z H' s4:=I2.call' (ch:=fp) I4.os I4.base I4.hok I4.bare λb hb=>by
    obtain⟨_,f1,f3,f4,f5,f6⟩:=f2 b hb;exact⟨f4,f1,f5,f6⟩
   obtain⟨mC,Y8,_⟩:=I4.loc;exact Y6 _ _ us n ys H' s4 IX VC.1 rv ao VC.2.1 x_ UZ jm I4.free ⟨mC,Y8⟩ fin
  .refine dH (T.item ef_ rfl rfl rfl calm i _ s' hr H' _ I' (mi VB) hx go) λr s4 ⟨u,J,h4⟩=>?_;subst J;refine dH h4 λ_ s5 ⟨x,H5,I5,r5,y5,mj,xx⟩=>?_;have xy:=I5.pinned (mi xx) st!;refine dH (hg _ _ _ _ _ s5 hr H5 x u _ xy r5 st_) λ_ s6 ⟨li,H6,I6,q6⟩=>?_;refine dH (hi _ _ _ _ _ s6 li H6 _ I6 q6) λok s7 ⟨H7,I7,q7⟩=>?_;have VD:∀{VE:St} {H8:Hp} {s8:yM!},Inv ef_ ((dk!++[jV_])++Rb fp s5.heap) VE H8 s8->tn X! s8.heap/\∀b∈fp,H8 b=none:=λ{VE H8 s8} I8=>by
    refine⟨T.keep _ _ _ mj λb hb o e=>(vV_).1,aS!⟩;obtain⟨o,e,d⟩:=T.obj _ _ mj b hb;exact(vV_).2.1
   cases ok with
   |false=>
    simp only[JH,JT]at q7 ⊢;obtain⟨m',hm,w7⟩:=q7;obtain⟨t7,n7⟩:=VD I7;exact⟨m',hm,i+1,ys,us,n,li,H7,iU!,t7,n7,rv,w7⟩
   |true=>
    simp only[KG]at q7 ⊢;refine dH (he _ _ _ _ _ s7 li H7 _ I7 q7) λyv s8 ⟨y,H8,I8,r8,m',hm,w8⟩=>?_;obtain⟨t8,n8⟩:=VD I8;have pD:=I8.pin jV_ (IE _ (JE _ d!));have Y9:au_=ac!:=rv.length.symm;refine wpAny_list_append_plain (items:=cH!) (hsz:=by simpa[Y9]using ao) ⟨n,pD.1⟩ λh9 Y' VF=>?_;obtain⟨n9,e9⟩:=Y';have ZA:Inv ef_ dk! li H8 s8:=I8.pins_of λp hp=>I8.pin p (IE _ (JE _ (JE _ hp)));have I9:Inv ef_ dk! li H8 {s8 with heap:=h9,toks:=s8.toks}:=by
     refine ZA.turned (it:=N!) (λb o hb e=>(VF.2 b hb).trans e) pD.2.1 jm (.inr x_) (λx c h=>?_) λp hp=>?_
     .obtain⟨v,o,ho,_⟩:=I2.cell x c g5_;exact JP ir_
     .have br:p∈X.pn++B:=by simpa[Nl]using hp
      exact JP (JB (I2.pin p br).1)
    have ZB:h9.get? N!=some (Ue (us++[yv]) n9):=by
     rw[e9,List.push_toArray]
    refine⟨m',hm,i+1,ys++[y],us++[yv],n9,li,H8,I9.pins_of λp hp=>?_,T.keep _ _ _ t8 λb hb o e=>(VF.2 b (JP jR!)).trans e,n8,rv.append (.cons r8 .nil),w8⟩;obtain hp|hp:=IK.mp hp
    .exact I9.pin p (IE _ hp)
    .have e:p=(N!,Ue (us++[yv]) n9):=by simpa using hp
     subst e;exact⟨ZB,pD.2.1,pD.2.2.1,pD.2.2.2.1,g9!⟩
 exact codeAny_compStart_list (VA _ rfl) (T.self _ 0 _ _ _ j7 (VA _ rfl))
def Zq(nl:Nat)(ix:k!)(wi:TI)(g:TG)(tt:TT)(te:TE):TE:=λZ H Q=>wi Z H λab H1=>We ab g tt te (λys H'=>∀p,H' p=none->Q cC! (upd H' p a9!)) (Pp nl ix Z) H1
def b3b{X:Cx}{scope:Scope}{NL:r_}{ix:k!}{wi:TI}{g:TG}{tt:TT}{te:TE}
  (cj:dj!)(cf:dj_)(j8:∀y∈ch!,y.2=.local->scope.names.lookup y.1=some .local)
  (ij:g9_)(cap:di_)(calm:aD_)(al:mH!)
  (hg:ha!)(hi:vY_)(he:vZ!)
  (hs:c9!:=by intro _;rfl):
  PE X g7! vZ_:=by
 show"!P";show"!Q"
 rw[eval_ListComp];refine wpAny_comprehension_free (use:=none) rfl hs b7.eq cj j8 v0!;obtain⟨it,fp,tn,ab,H2,e,I2,T,bg,f2,hw⟩:=h2;subst e;refine a1e (RR:=λacc C=>compPost e_ X.A X.xe none aI_ acc C) cj cf b7 cap calm (hg cl) (hi cl) (he cl) I2 T bg f2 hw λD C us n ys H' s' I' eD rv ao nD hD hC jm nC ⟨m,hn⟩ fin=>?_;refine⟨m,hn,λh' bu=>?_⟩;have fq:∀b,b<N!->b≠C/\b≠D:=λb hb=>v1!;have px:∀x c,X.env.cells.lookup x=some c->c<N!:=λx c h=>let⟨_,_,ho,_⟩:=I2.cell x c h;JB ho;have sh:∀p∈X.pn++B,p.1<N!:=λp hp=>JB (I2.pin p hp).1;have IC:Inv X B Z H' {s' with heap:=h',toks:=s'.toks}:=I'.turned (it:=C) v2! nC (IB (ha_).1) v2_ v4_ λp hp=>(jY_).1;have ID:=IC.track (D:=D) (us:=us) (n:=n) ((bu.2 D jm).trans eD) rv ao nD (JL I2.sz hD) (IB (ha_).2) v5! λp hp=>(jY_).2;exact⟨.ref D,_,ID,rfl,fin D nD⟩
end L2
namespace DL
open PySem PySem.Spec PyProof.Rows L2
abbrev St:=L2.St
inductive D where
 |non|bl (b:Bool)|int (i:Int)|str (x:Str)|tup (xs:c_)|lst (xs:c_)|fn (a:xY!)|dk (kvs:n9_)
mutual
noncomputable def Av(K:yN!)(H:Hp):D->V->Prop
 |.non,v=>v=V.non
 |.bl b,v=>v=V.bl b
 |.int i,v=>v=V.int i
 |.str x,v=>v=V.str x
 |.tup xs,v=>∃a vs,v=V.ref a/\Fz K H a vs/\Am K H xs vs
 |.lst xs,v=>∃a vs,v=V.ref a/\Fj K H a vs/\Am K H xs vs
 |.fn a,v=>v=V.ref a
 |.dk kvs,v=>∃a,v=V.ref a/\Rd H a d0!
noncomputable def Am(K:yN!)(H:Hp):List D->List V->Prop
 |[],vs=>vs=[]
 |d::ds,vs=>∃v r,vs=v::r/\Av K H d v/\Am K H ds r
end
mutual
noncomputable def Ej:D->Bool
 |.lst _=>false
 |.dk _=>false
 |.tup xs=>Fg xs
 |_=>true
noncomputable def Fg:List D->Bool
 |[]=>true
 |d::ds=>Ej d&&Fg ds
end
mutual
noncomputable def Hy:D->Nat
 |.lst xs=>Dj xs+1
 |.tup xs=>Dj xs+1
 |_=>0
noncomputable def Dj:List D->Nat
 |[]=>0
 |d::ds=>max (Hy d) (Dj ds)
end
section
variable{K:yN!}{H H':Hp}
mutual
theorem Av.map(ht:jZ!)(hl:v6!)(hd:v6_):∀(d:D) (v:V),Av K H d v->Av K H' d v
 |.non,_,h=>h
 |.bl _,_,h=>h
 |.int _,_,h=>h
 |.str _,_,h=>h
 |.tup xs,_,h=>by
  show"!T";exact⟨a,vs,e,ht a vs q,v7!⟩
 |.lst xs,_,h=>by
  show"!T";exact⟨a,vs,e,hl a vs q,v7!⟩
 |.fn _,_,h=>h
 |.dk kvs,_,h=>by
  unfold Av at h ⊢;obtain⟨a,e,q⟩:=h;exact⟨a,e,hd a kvs q⟩
theorem Am.map(ht:jZ!)(hl:v6!)(hd:v6_):∀(ds:c_) (vs:m_),Am K H ds vs->Am K H' ds vs
 |[],_,h=>h
 |d::ds,_,h=>by
  unfold Am at h ⊢;obtain⟨v,r,e,q,t⟩:=h;exact⟨v,r,e,Av.map ht hl hd d v q,Am.map ht hl hd ds r t⟩
end
mutual
theorem Av.mapT(ht:jZ!):∀(d:D) (v:V),Ej d=true->Av K H d v->Av K H' d v
 |.non,_,_,h=>h
 |.bl _,_,_,h=>h
 |.int _,_,_,h=>h
 |.str _,_,_,h=>h
 |.tup xs,_,n,h=>by
  unfold Ej at n;show"!T";exact⟨a,vs,e,ht a vs q,Am.mapT ht xs vs n r⟩
 |.lst xs,_,n,_=>by
  unfold Ej at n;cases n
 |.fn _,_,_,h=>h
 |.dk _,_,n,_=>by
  unfold Ej at n;cases n
theorem Am.mapT(ht:jZ!):∀(ds:c_) (vs:m_),Fg ds=true->Am K H ds vs->Am K H' ds vs
 |[],_,_,h=>h
 |d::ds,_,n,h=>by
  unfold Fg at n;rw[JG]at n;unfold Am at h ⊢;obtain⟨v,r,e,q,t⟩:=h;exact⟨v,r,e,Av.mapT ht d v n.1 q,Am.mapT ht ds r n.2 t⟩
end
def bY(e:fk!){a:xY!}(h:Fz K H a xs):Fz K H' a xs:=by
 rcases h with(h|⟨o,h⟩)|h
 .exact vB!
 .exact vC!
 .exact .inr h
def b2h(e:fk!){a:xY!}{o:HO}(h:Rd H a o):Rd H' a o:=by
 obtain h|⟨u,h⟩:=h
 .exact .inl (e _ _ h)
 .exact .inr ⟨u,e _ _ h⟩
def Av.mono(e:fk!)(h:hb!):Av K H' d v:=Av.map v7_ v8! v8_ d v h
def Am.mono(e:fk!)(h:cI!):Am K H' ds vs:=Am.map v7_ v8! v8_ ds vs h
def Av.non:Av K H .non V.non:=by unfold Av;rfl
def Av.bl{b:Bool}:Av K H bM! (V.bl b):=by unfold Av;rfl
def Av.int{i:Int}:Av K H bx_ (V.int i):=by unfold Av;rfl
def Av.str:Av K H dP! (V.str x):=by unfold Av;rfl
def Av.fn{a:xY!}:Av K H cI_ fn!:=by unfold Av;rfl
def Av.tup{a:xY!}(h:Fz K H a vs)(r:cI!):Av K H dm! fn!:=by unfold Av;exact v9_
def Av.lst{a:xY!}(h:Fj K H a vs)(r:cI!):Av K H ci! fn!:=by unfold Av;exact v9_
def Am.nil:Am K H [] []:=by unfold Am;rfl
def Am.cons(h:hb!)(t:cI!):Am K H eg_ (v::vs):=by unfold Am;exact⟨v,vs,rfl,h,t⟩
def aI:∀{ds:c_} {vs:m_},Am K H ds vs->f_=bC!
 |[],vs,h=>by unfold Am at h;subst h;rfl
 |d::ds,vs,h=>by
  unfold Am at h;obtain⟨v,r,e,_,t⟩:=h;rw[e,IQ,IQ,aI t]
def hJ:∀{ds:c_} {vs:m_} {i:Nat} {d:D},Am K H ds vs->ds[i]?=some d->∃v,vs[i]?=some v/\Av K H d v
 |[],_,_,_,_,e=>by simp at e
 |c::ds,vs,i,d,h,e=>by
  unfold Am at h;obtain⟨v,r,e1,q,t⟩:=h;subst e1;cases i with
  |zero=>simp at e;subst e;exact⟨v,rfl,q⟩
  |succ i=>
   obtain⟨u,h1,h2⟩:=hJ (i:=i) (d:=d) t cX_;exact qS_
def cY:∀{ds es:c_} {vs ws:m_},Am K H ds vs->Am K H es ws->Am K H (ds++es) (vs++ws)
 |[],_,_,_,h,k=>by unfold Am at h;subst h;exact k
 |c::ds,_,vs,_,h,k=>by
  show"!L";exact Am.cons q (cY t k)
def rV:∀{ds:c_} {vs:m_} (n:Nat),Am K H ds vs->Am K H (ds.take n) (vs.take n)
 |_,_,0,_=>Am.nil
 |[],_,n+1,h=>by unfold Am at h;subst h;exact Am.nil
 |c::ds,vs,n+1,h=>by
  show"!L";exact Am.cons q (rV n t)
def rW:∀{ds:c_} {vs:m_} (n:Nat),Am K H ds vs->Am K H ob! (vs.drop n)
 |_,_,0,h=>h
 |[],_,n+1,h=>by unfold Am at h;subst h;exact Am.nil
 |c::ds,vs,n+1,h=>by
  show"!L";exact rW n t
def wA(hd:hb!):∀{ds:c_} {vs:m_} (n:Nat),Am K H ds vs->Am K H (ds.set n d) (vs.set n v)
 |[],_,_,h=>by unfold Am at h;subst h;exact Am.nil
 |c::ds,vs,n,h=>by
  unfold Am at h;obtain⟨u,r,e1,q,t⟩:=h;subst e1;cases n with
  |zero=>exact Am.cons hd t
  |succ n=>exact Am.cons q (wA hd n t)
def cX(h:Am K H [] vs):vs=[]:=by unfold Am at h;exact h
def bR(h:Am K H eg_ vs):∃v r,vs=v::r/\Av K H d v/\Am K H ds r:=by unfold Am at h;exact h
def bQ(h:Av K H dm! v):∃a vs,v=V.ref a/\Fz K H a vs/\Am K H ds vs:=by unfold Av at h;exact h
def bP(h:Av K H ci! v):∃a vs,v=V.ref a/\Fj K H a vs/\Am K H ds vs:=by unfold Av at h;exact h
def aY{i:Int}(h:Av K H bx_ v):v=V.int i:=by unfold Av at h;exact h
def cV{i:Bool}(h:Av K H (.bl i) v):v=V.bl i:=by unfold Av at h;exact h
def cJ(h:Av K H jZ_ v):v=V.str i:=by unfold Av at h;exact h
def eH(h:Av K H .non v):v=V.non:=by unfold Av at h;exact h
def fX{a:xY!}(h:Av K H cI_ v):v=V.ref a:=by unfold Av at h;exact h
def c8g{kvs:n9_}(h:Av K H (.dk kvs) v):∃a,v=V.ref a/\Rd H a d0!:=by unfold Av at h;exact h
def iY{o:HO}(h:cJ!):Bj H fo!:=λb u e=>by rw[aW (cL e h)];exact e
def fS(h:cJ!)(r:cI!):Av K (upd H p (.tup vs)) dm! oc!:=Av.tup (Fz.of bW) wb_
def cM(h:cJ!)(r:cI!):Av K j1! ci! oc!:=Av.lst (Fj.of bW) wb_
end
structure Ce(G H G' H':Hp):Prop where
 g:Bj G G'
 h:Bj H H'
 sub:Bj G' H'
 new:∀b,G' b≠none->G b≠none\/H b=none
def Ce.refl{G H:Hp}(s:I_):Ce G H G H:=⟨fo_,Bj.refl H,s,dn!⟩
def Ce.trans{G H G1 H1 G2 H2:Hp}(a:Ce G H G1 H1)(b:Ce G1 H1 G2 H2):Ce G H G2 H2:=
 ⟨a.g.trans b.g,a.h.trans b.h,b.sub,λc h=>(b.new c h).elim (λz=>a.new c z) λz=>.inr (a.h.free z)⟩
def Ce.laid{G H:Hp}{o:HO}(s:I_)(hp:cJ!):Ce G H (upd G p o) fo!:=by
 refine⟨iY (s.free hp),iY hp,j1_,bn!⟩
 .by_cases hb:b=p
  .subst hb;rw[bW]at e ⊢;exact e
  .rw[aW hb]at e ⊢;exact s b u e
 .by_cases hb:b=p
  .subst hb;exact .inr hp
  .rw[aW hb]at h;exact .inl h
abbrev Ae:=List (Option D)
structure OR(K:yN!)(own:k!)(G H:Hp)(Z:St)(ρ:Ae):Prop where
 sub:Bj G H
 len:hc_=ge_
 at_:∀(i:Nat) (d:D),ρ[i]?=some ei!->i∉own->∃v,Z[i]?=some dL_/\Av K G d v
 own_:∀i∈own,∃p ds vs,ρ[i]?=some od_/\Z[i]?=some cj!/\H p=some cJ_/\G p=none/\Am K G ds vs
 dis:∀i∈own,∀j∈own,i≠j->∀p q,Z[i]?=some cj!->Z[j]?=some (some (V.ref q))->p≠q
def OR.grow{K:yN!}{own:k!}{G H G' H':Hp}{Z:St}{ρ:Ae}(h:cj_)(x:j2!):OR K own G' H' Z ρ where
 sub:=x.sub
 len:=h.len
 at_:=λi d q n=>let⟨v,h1,h2⟩:=h.at_ i d q n;we!
 own_:=λi hi=>by
  obtain⟨p,ds,vs,h1,h2,h3,h4,h5⟩:=h.own_ i hi;refine⟨p,ds,vs,h1,h2,x.h _ _ h3,?_,h5.mono x.g⟩;cases q:G' p with
  |none=>rfl
  |some o=>
   rcases x.new p cg! with z|z
   .exact absurd h4 z
   .rw[h3]at z;cases z
 dis:=h.dis
def OR.set{K:yN!}{own:k!}{G H:Hp}{Z:St}{ρ:Ae}{i:Nat}(h:cj_)(hi:bn_)(r:cK_):OR K own G H eP! bW_ where
 sub:=h.sub
 len:=by rw[MN,MN,h.len]
 at_:=λj c q n=>by
  by_cases hj:i=j
  .subst hj;by_cases hi:i<hc_
   .rw[KM hi]at q;cases q;exact⟨v,by rw[KM (by rw[<-h.len];exact hi)],r⟩
   .rw[JZ (by rw[MN];omega)]at q;cases q
  .rw[JN hj]at q;rw[JN hj];exact h.at_ j c q n
 own_:=λj hj=>by
  have ne:i≠j:=λe=>hi (e▸hj);rw[JN ne,JN ne];exact h.own_ j hj
 dis:=λj hj k hk bf p q e1 e2=>by
  have ne:i≠j:=λe=>hi (e▸hj);have ym:i≠k:=λe=>hi (e▸hk);rw[JN ne]at e1;rw[JN ym]at e2;exact h.dis j hj k hk bf p q e1 e2
def Ju(own:k!)(Z:St):List Addr:=own.filterMap λi=>match Z[i]? with|some (some (V.ref p))=>some p|_=>none
def nO{own:k!}{Z:St}(h:p∈Ju own Z):∃i∈own,Z[i]?=some cj!:=by
 obtain⟨i,hi,e⟩:=NP.mp h;refine⟨i,hi,?_⟩;show"!6"
 .rename_i q he;cases e;exact he
 .cases e
def a5w{own:k!}{Z:St}{i:Nat}(hi:ej!)(h:wf!):p∈Ju own Z:=NP.mpr ⟨i,hi,by rw[h]⟩
def La(own:k!)(Z:St)(G H:Hp):Hp:=λb=>if b∈Ju own Z then H b else G b
def OR.full{K:yN!}{own:k!}{G H:Hp}{Z:St}{ρ:Ae}(h:cj_):OR K [] fp_ H Z ρ:=by
 have s1:Bj G fp_:=λb o e=>by
  unfold La;split
  .exact h.sub b o e
  .exact e
 have s2:Bj fp_ H:=λb o e=>by
  unfold La at e;show"!6"
  .exact e
  .exact h.sub b o e
 refine⟨s2,h.len,oe!,aq!,aq!⟩;by_cases hi:i∈own
 .obtain⟨p,ds,vs,h1,h2,h3,h4,h5⟩:=h.own_ i hi;rw[h1]at q;cases q;refine⟨_,h2,Av.lst (Fj.of (xs:=vs) ?_) (h5.mono s1)⟩;unfold La;rw[IL (a5w hi h2)];exact h3
 .obtain⟨v,h1,h2⟩:=h.at_ i d q hi;exact⟨v,h1,h2.mono s1⟩
def Le(ρ ρ':Ae):Prop:=hc_=ρ'.length/\∀(i:Nat) (d:D),ρ[i]?=some ei!->ρ'[i]?=some ei!
def OR.le{K:yN!}{G H:Hp}{Z:St}{ρ ρ':Ae}(h:OR K [] G H Z ρ')(l:Le ρ ρ'):OR K [] G H Z ρ:=⟨h.sub,l.1.trans h.len,λi d q n=>h.at_ i d (l.2 i d q) n,aq!,aq!⟩
def Le.set{ρ ρ':Ae}{i:Nat}(h:Le ρ ρ')(hi:ρ[i]?=some none):Le ρ (ρ'.set i ei!):=by
 refine⟨by rw[MN];exact h.1,λj c q=>?_⟩;have:i≠j:=λe=>by subst e;rw[hi]at q;cases q
 rw[JN this];exact h.2 j c q
def Le.refl(ρ:Ae):Le ρ ρ:=⟨rfl,λ_ _ h=>h⟩
def Xy(nl:Nat)(ix:k!)(ρ:Ae):Ae:=List.replicate nl none++ix.map λj=>(ρ[j]?).join
def OR.cap{K:yN!}{own:k!}{G H:Hp}{Z:St}{ρ:Ae}(h:cj_)(nl:Nat)(ix:k!)(Y:j3!):OR K [] G H (Pp nl ix Z) of_:=by
 unfold Pp Xy;refine⟨h.sub,G_,oe!,aq!,aq!⟩;by_cases hi:i<nl
 .rw[LB gO_,OX,IL hi]at q;cases q
 .rw[fb_,JM,NW]at q;rw[fb_,JM,NW];cases e:ix[i - nl]? with
  |none=>rw[e]at q;cases q
  |some j=>
   rw[e]at q;have q':(ρ[j]?).join=some d:=JY q;have q2:ρ[j]?=some ei!:=by
    cases z:ρ[j]? with
    |none=>rw[z]at q';cases q'
    |some o=>rw[z]at q';exact congrArg some q'
   obtain⟨v,h1,h2⟩:=h.at_ j d q2 (Y j he_);exact⟨v,by simp[h1],h2⟩
inductive tD(K:yN!)(own:k!)(f:e!)(Z:St)(H:Hp)(Q:VK):Prop
 |mk (G:Hp) (ρ:Ae) (d:D) (o:cj_) (e:cL!) (k:∀v G' H',Ce G H G' H'->Av K G' d v->Q v H'):tD K own f Z H Q
inductive FX(K:yN!)(own:k!)(f:aq_)(Z:St)(H:Hp)(Q:c2!):Prop
 |mk (G:Hp) (ρ:Ae) (ds:c_) (o:cj_) (e:f ρ=some ds) (k:∀vs G' H',Ce G H G' H'->Am K G' ds vs->Q vs H'):FX K own f Z H Q
inductive AA(K:yN!)(own:k!)(f:ac_)(Z:St)(H:Hp)(Q:dO!):Prop
 |mk (G:Hp) (ρ:Ae) (b:Bool) (o:cj_) (e:f ρ=some b) (k:∀G' H',Ce G H G' H'->Q b H'):AA K own f Z H Q
structure DE(X:Cx)(own:k!)(e:Expr)(f:e!):Prop where
 ok:PE X e (tD X.K own f)
structure DA(X:Cx)(own:k!)(es:bL_)(f:aq_):Prop where
 ok:PA X es (FX X.K own f)
structure DT(X:Cx)(own:k!)(e:Expr)(f:ac_):Prop where
 ok:PT X e wg!
structure DW(X:Cx)(own:k!)(e:Expr)(f:ac_):Prop where
 ok:PW X e wg!
section
variable{X:Cx}{own:List Nat}{e a b c:Expr}{es:List Expr}{pos:Pos}{f fa fb fc:Ae->Option D}{fs:Ae->Option (List D)}{ft fu:Ae->Option Bool}
def eM{t:TE}(h:iB_)(hw:∀Z G H Q ρ d,OR X.K own G H Z ρ->f ρ=some d->(∀v G' H',Ce G H G' H'->Av X.K G' d v->Q v H')->t Z H Q):DE X own e f:=wg_
def c2o{t:TA}(h:gK_)(hw:∀Z G H Q ρ d,OR X.K own G H Z ρ->fs ρ=some d->(∀v G' H',Ce G H G' H'->Am X.K G' d v->Q v H')->t Z H Q):DA X own es fs:=⟨λp B s Z H Q I ⟨G,ρ,d,er,e,k⟩=>h p B s Z H Q I og_⟩
def xV{t:TT}(h:PT X e t)(hw:wi!):DT X own e ft:=wg_
def c7q{t:TT}(h:PW X e t)(hw:wi!):DW X own e ft:=⟨λwh B s Z H Q I ⟨G,ρ,d,er,e,k⟩=>h wh B s Z H Q I og_⟩
def Oh(f:e!):Ae->Option D:=λρ=>(al!).bind λd=>if Ej d then some d else none
def b4c(h:DE X [] e f):DE X own e (Oh f):=eM h.ok λZ G H Q ρ d er e k=>by
 obtain⟨d',e1,e2⟩:=HS.mp e;split at e2
 .rename_i hn;cases e2;refine⟨La own Z G H,ρ,d,er.full,e1,λv G' H' x r=>?_⟩;have ZC:∀b,b∈Ju own Z->∃vs,G' b=some cJ_:=λb hb=>by
   show"!I";refine⟨vs,x.g _ _ ?_⟩;unfold La;rw[IL hb];exact h3
  have hG:∀b,b∈Ju own Z->G b=none:=λb hb=>by
   show"!I";exact h4
  refine k v (λb=>if b∈Ju own Z then none else G' b) H' ⟨λb o z=>?_,x.h,λb o z=>?_,λb z=>?_⟩ (Av.mapT (λa vs q=>?_) d v hn r)
  .have hb:b∉Ju own Z:=λhb=>by rw[hG b hb]at z;cases z
   show oh_=some o;rw[IA hb];refine x.g _ _ ?_;unfold La;rw[IA hb];exact z
  .have z':oh_=some o:=z;split at z'
   .cases z'
   .exact x.sub _ _ z'
  .have z':oh_≠none:=z;split at z'
   .exact absurd rfl z'
   .rename_i hb;obtain y|y:=x.new b z'
    .unfold La at y;rw[IA hb]at y;exact .inl y
    .exact .inr y
  .have ne:∀u,G' a=some u->(∀ws,u≠.lst ws)->(if a∈Ju own Z then none else G' a)=some u:=λu e1 hu=>by
    rw[IA (λhb=>by obtain⟨ws,e2⟩:=ZC a hb;rw[e1]at e2;exact hu ws (JY e2))];exact e1
   rcases q with(q|⟨o,q⟩)|q
   .exact .inl (.inl (ne _ q λ_ z=>nomatch z))
   .exact .inl (.inr ⟨o,ne _ q λ_ z=>nomatch z⟩)
   .exact .inr q
 .cases e2
def Aa(i:Nat):Ae->Option D:=λρ=>(ρ[i]?).join
nonrec def fC(d:D):Ae->Option D:=λ_=>some d
def join_some{ρ:Ae}{i:Nat}(h:(ρ[i]?).join=some d):ρ[i]?=some ei!:=by
 cases z:ρ[i]? with
 |none=>rw[z]at h;cases h
 |some o=>rw[z]at h;exact congrArg some h
def aA(i:Nat){x:Str}(hi:bn_:=by decide)(hN:an!:=by rfl)(hv:c2_:=by first|exact Or.inl rfl|exact Or.inr b!|exact Or.inr aM!)(hd:F!:=by decide)
  (bx:c3!:=by decide):DE X own c3_ (Aa i):=
 eM j3_ λZ G H Q ρ d er e k=>let⟨v,h1,h2⟩:=er.at_ i d (join_some e) hi;⟨v,h1,k v G H hf! h2⟩
def c2n{t:TE}(h:iB_)(ht:∀Z H Q,Q v H->t Z H Q)(r:∀H,Av X.K H d v):DE X own e (fC d):=
 eM h λZ G H Q ρ d' er e' k=>by
  cases e';exact ht Z H Q (k v G H hf! (r G))
def aC{i:Int}{j:Nat}:DE X own rI_ (fC bx_):=c2n c8p hg! λ_=>Av.int
def aS{j:Nat}:DE X own (.Constant jZ_ j pos) (fC jZ_):=c2n b9f hg! λ_=>Av.str
def eG{i:Bool}{j:Nat}:DE X own (.Constant (.bool i) j pos) (fC (.bl i)):=c2n d2g hg! λ_=>Av.bl
def dM{j:Nat}:DE X own rJ! ck_:=c2n c8o hg! λ_=>Av.non
def c6i{x:Str}{i:Int}(hg:S!)(hm:X.mg x=some dH_)(hd:F!:=by decide):DE X own c3_ (fC bx_):=
 c2n (c4m (v:=V.int i) hg hm nU_ hd) hg! λ_=>Av.int
nonrec def f2(g:aW_)(fa fb:e!):Ae->Option D:=λρ=>(fr!).bind λx=>(j4_).bind λy=>g x y
def Ia(K:yN!)(r:R2)(g:aW_):Prop:=∀{x y:V} {dx dy d:D} {G H:Hp} {Q:VK},Bj G H->Av K G dx x->Av K G dy y->g dx dy=some d->j4!->r x y H Q
def two{g:aW_}{r:R2}(hg:ek!){Z:St}{G H:Hp}{Q:VK}{ρ:Ae}(er:OR X.K own G H Z ρ)(e:f2 g fa fb ρ=some d)(k:∀v G' H',Ce G H G' H'->Av X.K G' d v->Q v H'):
  BF r (tD X.K own fa) (tD X.K own fb) Z H Q:=by
 unfold f2 at e;show"!;";obtain⟨y,e2,e⟩:=HS.mp e;exact⟨G,ρ,x,er,e1,λu G1 H1 s1 r1=>⟨G1,ρ,y,dn_,e2,λw G2 H2 s2 r2=>hg s2.sub hg_ r2 e λv G' H' s3 r3=>k v G' H' (s1.trans hh!) r3⟩⟩
def bE{op:Operator}{r:R2}{g:aW_}(ho:mI_)(hg:ek!)(ha:Y_)(hb:cM_):DE X own mJ! j5_:=
 eM wk! λZ G H Q ρ d er e k=>two hg er e k
def fQ{op:CmpOp}{r:R2}{g:aW_}(ho:b9_)(hg:ek!)(ha:Y_)(hb:cM_)(hm:dP_):DE X own dQ! j5_:=
 eM wk_ λZ G H Q ρ d er e k=>two hg er e k
def aM{r:R2}{g:aW_}(J:Wt X r)(hg:ek!)(ha:Y_)(hb:cM_)(hs:Qc b):DE X own nB! j5_:=
 eM wl! λZ G H Q ρ d er e k=>two hg er e k
nonrec def fT(f:e!):Ae->Option Bool:=λρ=>(al!).bind λd=>match d with|.bl b=>some b|_=>none
def lG{ρ:Ae}{b:Bool}(h:fT f ρ=some b):f ρ=some bM!:=by unfold fT at h;obtain⟨d,e,h⟩:=HS.mp h;cases d<;>first|(cases h;exact e)|cases h
def bM{op:CmpOp}{r:R2}{g:aW_}(ho:b9_)(hg:ek!)(ha:Y_)(hb:cM_)(hm:dP_):DT X own dQ! (fT j5_):=
 xV wm! λZ G H Q ρ d er e k=>two (own:=own) (Q:=wm_) hg er (lG e) λv G' H' s' r'=>by
  cases cV r';exact wn_
def fF(h:do!)(he:iC!:=by intro _;rfl):DT X own e (fT f):=
 xV (b8p h.ok he) λZ G H Q ρ d er e k=>⟨G,ρ,.bl d,er,lG e,λv G' H' s' r'=>by
  cases cV r';exact wn_⟩
def Wg:D->Option Bool
 |.lst xs=>some (! dZ_)
 |.tup xs=>some (! dZ_)
 |.bl b=>some b
 |.int i=>some gA_
 |.non=>some false
 |_=>none
def tY{K:yN!}{H:Hp}{ds:c_}{vs:m_}(h:cI!):(!ds.isEmpty)=!vs.isEmpty:=by have:=aI h;cases ds<;>cases vs<;>simp_all
def a8c(h:do!)(he:iC!:=by intro _;rfl):DT X own e (λρ=>(al!).bind Wg):=
 xV (b8q h.ok he) λZ G H Q ρ b er e k=>by
  obtain⟨d,e1,e2⟩:=HS.mp e;refine⟨G,ρ,d,er,e1,λv G' H' s' r'=>⟨b,?_,ok_⟩⟩;cases d with
  |non=>cases eH r';cases e2;exact(rfl:false=false)
  |bl x=>cases cV r';cases e2;exact rfl
  |int i=>cases aY r';cases e2;exact(rfl:gA_=gA_)
  |str x=>cases e2
  |fn a=>cases e2
  |dk a=>cases e2
  |tup xs=>
   obtain⟨a,vs,e3,q,r3⟩:=bQ r';subst e3;cases e2;exact .inr (.inl ⟨vs,bY s'.sub q,tY r3⟩)
  |lst xs=>
   obtain⟨a,vs,e3,q,r3⟩:=bP r';subst e3;cases e2;exact .inl ⟨vs,s'.sub.seq q,tY r3⟩
def Db(ft fu:ac_):Ae->Option Bool:=λρ=>(hh_).bind λb=>if b then fu ρ else some false
def Mg(ft fu:ac_):Ae->Option Bool:=λρ=>(hh_).bind λb=>if b then some true else fu ρ
def Cy(ft:ac_):Ae->Option Bool:=λρ=>(hh_).map (!·)
variable{rest:List Expr}
def qV(h:hi!):DW X own mh_ ft:=wo!
def sV(h:hi!):DW X own mi! ft:=wo_
def xT(ha:hi!)(hb:DW X own eR! fu):DW X own eR_ (Db ft fu):=
 c7q wp! λZ G H Q ρ d er e k=>by
  obtain⟨x,e1,e⟩:=HS.mp e;refine om!;cases x with
  |true=>exact mP wp_
  |false=>cases e;exact mQ (k G1 H1 s1)
def a0z(ha:hi!)(hb:DW X own eS! fu):DW X own eS_ (Mg ft fu):=
 c7q wq! λZ G H Q ρ d er e k=>by
  obtain⟨x,e1,e⟩:=HS.mp e;refine om!;cases x with
  |false=>exact mQ wp_
  |true=>cases e;exact mP (k G1 H1 s1)
def xU(h:DW X own e ft):DT X own e ft:=⟨h.ok.pt⟩
def gE(h:hi!):DT X own eT_ (Cy ft):=
 xV (b8r h.ok) λZ G H Q ρ d er e k=>by
  obtain⟨x,e1,rfl⟩:=IG.mp e;exact⟨G,ρ,x,er,e1,λG1 H1 s1=>k G1 H1 s1⟩
def Cu(fa fb:e!):Ae->Option D:=λρ=>(oo_).bind λb=>if b then fb ρ else some S_
def Ev(fa fb:e!):Ae->Option D:=λρ=>(oo_).bind λb=>if b then some B_ else fb ρ
def Dt(fa:e!):Ae->Option D:=λρ=>(oo_).map λb=>.bl (!b)
def iL{op:BoolOp}(h:Y_):DE X own mj! fa:=wr!
def lI(ha:Y_)(hb:DE X own eR! fb):DE X own eR_ (Cu fa fb):=
 eM wr_ λZ G H Q ρ d er e k=>by
  obtain⟨x,e1,e⟩:=HS.mp e;refine op_;cases cV r1;refine j8!;cases x with
  |true=>exact mP j8_
  |false=>cases e;exact mQ wt!
def a1c(ha:Y_)(hb:DE X own eS! fb):DE X own eS_ (Ev fa fb):=
 eM wu! λZ G H Q ρ d er e k=>by
  obtain⟨x,e1,e⟩:=HS.mp e;refine op_;cases cV r1;refine j8!;cases x with
  |false=>exact mQ j8_
  |true=>cases e;exact mP wt!
def d0p(ha:Y_):DE X own eT_ (Dt fa):=
 eM (b9h ha.ok) λZ G H Q ρ d er e k=>by
  obtain⟨x,e1,rfl⟩:=IG.mp e;refine op_;cases cV r1;exact⟨x,rfl,wu_⟩
def Mi(ft:ac_)(fa fb:e!):Ae->Option D:=λρ=>(hh_).bind λb=>if b then fa ρ else fb ρ
def d3k(L:DT X own c ft)(ha:Y_)(hb:cM_):DE X own mk_ (Mi ft fa fb):=
 eM wv! λZ G H Q ρ d er e k=>by
  obtain⟨x,e1,e⟩:=HS.mp e;refine om!;cases x with
  |true=>exact mP j8_
  |false=>exact mQ j8_
nonrec def f3(g h:aW_)(fa fb fc:e!):Ae->Option D:=λρ=>(fr!).bind λx=>(j4_).bind λy=>(g x y).bind λz=>match z with
 |.bl true=>(fc ρ).bind λw=>h y w
 |.bl false=>some S_
 |_=>none
def Ag:Ae->Option aL_:=λ_=>some []
def Ac(f:e!)(fs:aq_):Ae->Option aL_:=λρ=>(al!).bind λd=>(fs!).bind λds=>some eg_
def aN:DA X own [] Ag:=c2o fZ λZ G H Q ρ d er e k=>by
 cases e;exact k [] G H hf! Am.nil
def aE(h:do!)(hs:j9_)(bz:ao_:=by rfl):DA X own aJ_ (Ac f fs):=
 c2o wv_ λZ G H Q ρ d er e' k=>by
  obtain⟨x,e1,e'⟩:=HS.mp e';obtain⟨xs,e2,e'⟩:=HS.mp e';cases e';exact⟨G,ρ,x,er,e1,λv G1 H1 s1 r1=>⟨G1,ρ,xs,dn_,e2,λvs G2 H2 s2 r2=>k _ G2 H2 dp! (Am.cons hg_ r2)⟩⟩
def Ba(fs:aq_):Ae->Option D:=λρ=>(fs!).bind λds=>if f_<=1000 then some dm! else none
def Dw(fs:aq_):Ae->Option D:=λρ=>(fs!).bind λds=>if f_<=1000 then some ci! else none
def eZ{n:Nat}(h:n<=1000):n<=sizeLine:=NT (b4t h)
def dB{x1:Nat}(h:j9_):DE X own ty_ (Ba fs):=
 eM (b9e h.ok) λZ G H Q ρ d er e k=>by
  show"!H"
  .show"!G";refine⟨G,ρ,ds,er,e1,λvs G1 H1 s1 r1=>⟨ww_,λp hp=>k _ _ _ wx! (fS wx_ r1)⟩⟩
  .cases e
def sX(h:j9_):DE X own je! (Dw fs):=
 eM kb! λZ G H Q ρ d er e k=>by
  show"!H"
  .show"!G";refine⟨G,ρ,ds,er,e1,λvs G1 H1 s1 r1=>⟨ww_,λp hp=>k _ _ _ wx! (cM wx_ r1)⟩⟩
  .cases e
def Pq(K:yN!)(r:c9_)(g:ad!):Prop:=∀{vs:m_} {ds:c_} {d:D} {G H:Hp} {Q:VK},Bj G H->Am K G ds vs->g ds=some d->j4!->r vs H Q
nonrec def f1(g:ad!)(fs:aq_):Ae->Option D:=λρ=>(fs!).bind g
def bT{id:String}{x:Str}{r:c9_}{g:ad!}(L:np_)(hd:Pq X.K r g)(hg:S!)(hm:cv!)(hv:nq!)(ha:hj!)(hn:cv_:=by decide)
  (be:F!:=by decide)(he:ao_:=by rfl)(ax:aU_:=by rfl):DE X own bj! kc!:=
 eM wz! λZ G H Q ρ d er e' k=>by
  show"#0";exact wz_
def b6u{T:String}{x:Str}{r:c9_}{g:ad!}(L:nq_)(hd:Pq X.K r g)(hg:S!)(hm:cv!)(hv:jl_)(ha:hj!)(hn:cv_:=by decide)
  (be:F!:=by decide)(he:ao_:=by rfl)(ax:aU_:=by rfl):DE X own bj! kc!:=
 eM wA! λZ G H Q ρ d er e' k=>by
  show"#0";exact wz_
def Yo(K:yN!)(n:Nat)(g:ad!):Sp:=λvs H Q _=>bC!=n/\∃G ds d,Bj G H/\Am K G ds vs/\g ds=some d/\∀v G' H',Ce G H G' H'->Av K G' d v->Q v H'
def c6k{k:Nat}{ps:r_}{g:ad!}{x:Str}(F:Fm X.prog X.w X.K X.mg X.base Pz k hA fd ps wA_)(J:cc!)(hg:S!)(hm:X.mg x=some bY!)(hk:W.keepIn X.K bY!=true)
  (hb:kc_)(ha:hj!)(hn:wC_:=by rfl)(ao:wB_)
  (be:F!:=by decide)(he:ao_:=by rfl)(ax:aU_:=by rfl):
  DE X own bj! kc!:=
 eM (b3d F J hg hm hk hb .nil wF ha.ok be he ax) λZ G H Q ρ d er e' k=>by
  show"#0";refine⟨G,ρ,ds,er,e1,λvs G1 H1 s1 r1=>?_⟩;show Yo X.K ps.length g (vs++[]) H1 Q E0;rw[JA];exact⟨by rw[<-aI r1];exact ao ρ ds e1,G1,ds,d,s1.sub,r1,e',ws_⟩
end
def aX{ρ:Ae}{ds:c_}(h:Ag ρ=some ds):f_=0:=by cases h;rfl
def aL{f:e!}{fs:aq_}{n:Nat}(hf:wD!):∀(ρ:Ae) (ds:c_),Ac f fs ρ=some ds->f_=n+1:=λρ ds e=>by
 show"!;";obtain⟨xs,e2,e⟩:=HS.mp e;cases e;rw[IQ,hf ρ xs e2]
def oP{h:Heap}{its:O!}(p:PlainL h a its):∃n sl,h.get? a=some {cls:=.type "list",dict:=none,data:=.seq its n,slots:=sl}:=by obtain⟨⟨cls,dd,data,sl⟩,n,e,h1,h2,h3⟩:=p;simp only at h1 h2 h3;subst h1 h2 h3;exact⟨n,sl,e⟩
section
variable{X:Cx}
def Zt(K:yN!):R2:=λx y H Q=>∃l b xs zs,x=.ref l/\y=.ref b/\Fj K H l xs/\Fj K H b zs/\i!+zs.length<=sizeLine/\∀p,H p=none->Q cC! (upd H p u5!)
def c4s:Gr X e1! (Zt X.K):=by
 intro B s Z H x y v u Q I rx ry h;obtain⟨l,b,xs,zs,rfl,rfl,hH,hB,hz,q⟩:=h;cases rx;cases ry;obtain⟨its,r,pl,z⟩:=I.list hH;obtain⟨gr,r2,ZD,z2⟩:=I.list hB;obtain⟨n,sl,e⟩:=oP pl;obtain⟨n2,jj,e2⟩:=oP ZD;have h1:=aR_;have h2:=r2.length;refine concat_meets ea_ ⟨_,e2,rfl⟩ PySem.noFill_list_add PySem.seq_list_add PySem.F.slot_list_add PySem.F.entry_list_add (PySem.F.args_list_add_2 _ _)
  (list_addW l b its.toArray gr.toArray n n2 none none sl jj oq_) ⟨e,e2,?_⟩
 have ea:be!++gr.toArray=(its++gr).toArray:=by simp
 rw[ea];exact⟨.ref _,_,I.lnew (t':=s.toks) (r.append r2) wE!,rfl,q _ I.fresh⟩
def Xi(K:yN!):R2:=λx y H Q=>∃a b ys,x=.ref a/\y=.ref b/\Fz K H a []/\Fz K H b ys/\Q d7! H
def b9r:Gr X e1! (Xi X.K):=by
 intro B s Z H x y v u Q I rx ry h;obtain⟨a,b,ys,rfl,rfl,ha,hb,q⟩:=h;cases rx;cases ry;obtain⟨its,r1,p1,_⟩:=I.tuple ha;obtain⟨gr,r2,p2,_⟩:=I.tuple hb;obtain⟨⟨cls,dd,data,sl⟩,ho,L,n,hd⟩:=id p1;obtain⟨⟨UP,lj,data2,jj⟩,il,jk,n2,jl⟩:=id p2;simp only at L hd jk jl;subst L hd jk jl;have e0:its=[]:=r1.nil_iff.mpr rfl;exact concat_meets jn! jn_ noFill_tuple_add seq_tuple_add QT QI (QD _ _)
  (tuple_addW0 a b its.toArray gr.toArray n n2 dd lj sl jj (by simp[e0])) ⟨ho,il,⟨.ref b,H,I,rfl,q⟩⟩
abbrev big:Nat:=100000
def cS{n:Nat}(h:n<=big):n<=sizeLine:=JL h wG!
def An:D->D->Option D
 |.int i,.int j=>some (.int (i+j))
 |.str x,.str y=>if e3_+cB!<=big then some (.str (x++y))else none
 |.tup xs,.tup ys=>if i!+ac!<=big then some (.tup eL!)else none
 |.lst xs,.lst ys=>if i!+ac!<=big then some (.lst eL!)else none
 |_,_=>none
def Sr(K:yN!):R2:=λx y H Q=>Sq (λi j=>.int (i+j)) x y H Q\/((∃i j,x=.str i/\y=.str j/\i.length+j.length<=sizeLine/\Q (.str (i++j)) H)\/(Zs K x y H Q\/(Xi K x y H Q\/Zt K x y H Q)))
def aQ:Gr X e1! (Sr X.K):=c8x.or (b0a.or (c4r.or (b9r.or c4s)))
def bS{K:yN!}:Ia K (Sr K) An:=by
 show"!/";unfold An at e;show"!6"
 .show"!Y";exact .inl ⟨_,_,rfl,rfl,dq_⟩
 .cases cJ rx;cases cJ ry;show"!6"
  .show"!G";exact .inr (.inl ⟨_,_,rfl,rfl,cS hl,wH!⟩)
  .cases e
 .show"!R";obtain⟨b,ws,rfl,qb,rb⟩:=bQ ry;show"!6"
  .show"!G";have l1:=aI ra;have l2:=aI rb;by_cases hv:vs=[]
   .subst hv;refine .inr (.inr (.inr (.inl ⟨a,b,ws,rfl,rfl,kd!,os!,k _ G H aY_ ?_⟩)));have:(_:c_)=[]:=QL.mp l1;rw[this,JS];exact Av.tup qb rb
   .refine .inr (.inr (.inl ⟨a,b,vs,ws,rfl,rfl,kd!,os!,hv,by rw[<-l1,<-l2];exact cS hl,λhw=>?_,λhw p hp=>?_⟩))
    .subst hw;have:(_:c_)=[]:=QL.mp l2;refine k _ G H aY_ ?_;rw[this,JA];exact Av.tup qa ra
    .exact k _ _ _ hm_ (fS fu! (cY ra rb))
  .cases e
 .show"#!";obtain⟨b,ws,rfl,qb,rb⟩:=bP ry;show"!6"
  .show"!G";exact .inr (.inr (.inr (.inr ⟨a,b,vs,ws,rfl,rfl,sub.seq qa,sub.seq qb,by rw[<-aI ra,<-aI rb];exact cS hl,λp hp=>k _ _ _ hm_ (cM fu! (cY ra rb))⟩)))
  .cases e
 .cases e
def Dr(c:mL!)(g:kd_):D->D->Option D
 |.int i,.int j=>if c i j=true then some bB! else none
 |_,_=>none
def a2u{K:yN!}{C:mI!}{c:mL!}{g:kd_}{gv:iU_}(L:∀i j,c i j=true->C i j)(hg:wJ_):Ia K (rI C gv) (Dr c g):=by
 show"!/";unfold Dr at e;show"!6"
 .cases aY rx;cases aY ry;show"!6"
  .rename_i h;cases e;exact⟨_,_,rfl,rfl,L _ _ h,wK_⟩
  .cases e
 .cases e
def Cf(g:kd_):D->D->Option D
 |.int i,.int j=>some bB!
 |_,_=>none
def uU{K:yN!}{g:kd_}{gv:iU_}(hg:wJ_):Ia K (Sq gv) (Cf g):=by
 show"!/";unfold Cf at e;show"!6"
 .show"!Y";exact⟨_,_,rfl,rfl,wK_⟩
 .cases e
def Do:D->D->Option D:=Cf λi j=>.int (i - j)
def sF{K:yN!}:Ia K sC! Do:=uU λ_ _ _=>Av.int
def Uc(i j:Int):Bool:=(decide (-iW_<i)&&decide (i<2 ^ 64))||(decide (-iW_<j)&&decide (j<2 ^ 64))
def c9b{K:yN!}:Ia K mN_ (Dr Uc λi j=>.int (i*j)):=a2u (λi j h=>by
 unfold Uc at h;simp only[Bool.or_eq_true,JG,JI]at h;exact h) λ_ _ _=>Av.int
def c9c{K:yN!}:Ia K mO_ (Dr ot_ λi j=>.int (i%j)):=a2u (λi j h=>by simpa using h) λ_ _ _=>Av.int
def c4y{K:yN!}:Ia K mO! (Dr wL_ λi j=>.int (i / j)):=a2u (λi j h=>by
 simp only[JG,JI]at h;exact h) λ_ _ _=>Av.int
def c9a{K:yN!}:Ia K mP_ (Dr wM! λi j=>.int mP!):=a2u (λi j h=>by
 simp only[JG,JI]at h;exact⟨h.1.1,h.1.2,h.2⟩) λ_ _ _=>Av.int
def d2n{K:yN!}:Ia K mT! (Cf λi j=>.bl mU!):=uU λ_ _ _=>Av.bl
def d2p{K:yN!}:Ia K mV! (Cf λi j=>.bl mV_):=uU λ_ _ _=>Av.bl
def d2q{K:yN!}:Ia K mW_ (Cf λi j=>.bl mW!):=uU λ_ _ _=>Av.bl
def Rv(x y:Str):Bool:=!decide (y.cps.toList<x.cps.toList)
def b5n:Gr X mT_ (λx y H Q=>∃i j,x=.str i/\y=.str j/\Q wM_ H):=by intro B s Z H x y v u Q I rx ry h;obtain⟨i,j,rfl,rfl,q⟩:=h;obtain⟨t,rfl⟩:=rx;obtain⟨t',rfl⟩:=ry;exact PySem.P.le_str (eR I q rfl)
def Cm:D->Bool
 |.non=>true
 |_=>false
def Bx:D->D->Option D
 |x,.non=>some (.bl (Cm x))
 |_,_=>none
def zO{K:yN!}{H:Hp}(r:Av K H d x):decide (x=V.non)=Cm d:=by
 cases d with
 |non=>cases eH r;rfl
 |bl b=>cases cV r;rfl
 |int b=>cases aY r;rfl
 |str b=>cases cJ r;rfl
 |tup b=>obtain⟨a,vs,rfl,_⟩:=bQ r;rfl
 |lst b=>obtain⟨a,vs,rfl,_⟩:=bP r;rfl
 |fn b=>cases fX r;rfl
 |dk b=>obtain⟨a,rfl,_⟩:=c8g r;rfl
def b0h{K:yN!}:Ia K sI_ Bx:=by
 show"!/";unfold Bx at e;show"!6"
 .show"#I"
 .cases e
def Ap:D->D->Option D
 |x,.non=>some (.bl (!Cm x))
 |_,_=>none
def nL{K:yN!}:Ia K sK_ Ap:=by
 show"!/";unfold Ap at e;show"!6"
 .show"#I"
 .cases e
def Ah:D->D->Option D
 |.tup xs,.int i=>Dd xs i
 |.lst xs,.int i=>Dd xs i
 |.str x,.int i=>if e3_<=big then(Dd x.cps.toList i).map λc=>.str ap_ else none
 |_,_=>none
def pO{K:yN!}{H:Hp}{i:Int}(r:cI!)(h:Dd ds i=some d):∃v,Dd vs i=some v/\Av K H d v:=by unfold Dd at h ⊢;obtain⟨j,h1,h2⟩:=HS.mp h;obtain⟨v,h3,h4⟩:=hJ r h2;exact⟨v,HS.mpr ⟨j,by rw[<-aI r];exact h1,h3⟩,h4⟩
def aK{K:yN!}:Ia K (FA K) Ah:=by
 show"!/";unfold Ah at e;show"!6"
 .show"!R";cases aY ry;obtain⟨v,h1,h2⟩:=pO ra e;exact .inr (.inl ⟨a,vs,_,v,rfl,rfl,kd!,h1,wN_⟩)
 .show"#!";cases aY ry;obtain⟨v,h1,h2⟩:=pO ra e;exact .inl ⟨a,vs,_,v,rfl,rfl,sub.seq qa,h1,wN_⟩
 .cases cJ rx;cases aY ry;show"!6"
  .rename_i hl;obtain⟨c,h1,rfl⟩:=IG.mp e;exact .inr (.inr ⟨_,_,c,rfl,rfl,cS hl,h1,wH!⟩)
  .cases e
 .cases e
def Cr{α:Type}(xs:O_)(lo hi:a8_):List α:=(xs.drop nx_).take ny!
def wD{K:yN!}{H:Hp}(r:cI!)(lo hi:a8_):Am K H (Cr ds lo hi) (Ui vs lo hi):=by unfold Cr Ui;rw[aI r];exact rV _ (rW _ r)
end
section
variable{X:Cx}{own:List Nat}{e a b c:Expr}{es:List Expr}{pos p2:Pos}{f fa fb fc:Ae->Option D}{fs:Ae->Option (List D)}{ft fu:Ae->Option Bool}{ol oh:Ae->Option (Option Int)}
inductive AB(K:yN!)(own:k!)(o:kg!)(Z:St)(H:Hp)(Q:ui_):Prop
 |mk (G:Hp) (ρ:Ae) (i:a8_) (r:cj_) (e:o ρ=some i) (k:∀G' H',Ce G H G' H'->Q i H'):AB K own o Z H Q
def As:Ae->Option ou_:=λ_=>some none
def Ar(f:e!):Ae->Option ou_:=λρ=>(al!).bind λd=>match d with|.int i=>some (some i)|_=>none
def dW:PO X none (AB X.K own As):=λB s Z H Q I ⟨G,ρ,i,er,e,k⟩=>by
 cases e;exact c4g B s Z H Q I (k G H hf!)
def dU(h:do!):PO X iG! (AB X.K own (Ar f)):=λB s Z H Q I ⟨G,ρ,i,er,e',k⟩=>by
 obtain⟨d,e1,e2⟩:=HS.mp e';refine c4f h.ok B s Z H Q I ⟨G,ρ,d,er,e1,λv G' H' s' r'=>?_⟩;cases d<;>first
  |cases e2
  |skip
 cases aY r';exact⟨_,rfl,ok_⟩
def Bm:D->Option Int->Option Int->Option D
 |.tup xs,lo,hi=>if HT.sIx xs.length 0 lo=0/\HT.sIx xs.length xs.length hi=i! then none else some (.tup (Cr xs lo hi))
 |.lst xs,lo,hi=>some (.lst (Cr xs lo hi))
 |_,_,_=>none
def Ea(f:e!)(ol oh:kg!):Ae->Option D:=λρ=>(al!).bind λd=>(ol ρ).bind λl=>(oh ρ).bind λh=>Bm d l h
def cZ{lo hi:nw!}(ha:Y_)(hl:wP_)(hh:wQ!):DE X own wQ_ (Ea fa ol oh):=
 eM wR! λZ G H Q ρ d er e k=>by
  show"!;";obtain⟨l,e2,e⟩:=HS.mp e;obtain⟨h,e3,e⟩:=HS.mp e;refine⟨G,ρ,x,er,e1,λv G1 H1 s1 r1=>⟨G1,ρ,l,dn_,e2,λG2 H2 s2=>⟨G2,ρ,h,er.grow dp!,e3,wR_⟩⟩⟩;have r3:Av X.K G3 x v:=(hg_).mono s3.g;have s4:Ce G H G3 H3:=s1.trans hh!;have sub:=s4.sub;unfold Bm at e;show"!6"
  .show"!6"
   .cases e
   .rename_i hw;cases e;obtain⟨p,vs,rfl,q,rr⟩:=bQ r3;refine .inl ⟨p,vs,rfl,bY sub q,?_,λp hp=>k _ _ _ wS_ (fS fu! ow_)⟩;rw[<-aI rr];exact hw
  .cases e;obtain⟨p,vs,rfl,q,rr⟩:=bP r3;exact .inr ⟨p,vs,rfl,ox_,λp hp=>k _ _ _ wS_ (cM fu! ow_)⟩
  .cases e
def FT:D->Value
 |.non=>.type "NoneType"
 |.bl _=>.type "bool"
 |.int _=>.type "int"
 |.str _=>.type "str"
 |.tup _=>.type "tuple"
 |.lst _=>.type "list"
 |.fn _=>.none
 |.dk _=>.none
def CD(K:yN!)(T:String):List V->Hp->VK->Prop:=λxs H Q=>∃x d b,xs=[x,.ty T]/\Av K H d x/\W.kitOne K (FT d) fc_=some b/\(∀a,d≠.fn a)/\(∀a,d≠.dk a)/\Q bM! H
def c2w{T:String}:Jd X oy! (CD X.K T):=by
 intro B s Z H xs us Q I r h;obtain⟨x,d,b,rfl,rx,e,hf,yn,q⟩:=h;obtain⟨u,w',rfl,r1,r2⟩:=a5g r;cases r2;have fin:∀tk,EP X B Z Q md! {s with toks:=tk}:=λtk=>⟨.bl b,H,I.tok tk,rfl,q⟩;cases d with
 |non=>cases eH rx;cases r1;exact SI W.kitx_none I.kIn True.intro e fv! fin
 |bl y=>cases cV rx;cases r1;exact SI W.kitx_bool I.kIn True.intro e fv! fin
 |int y=>cases aY rx;obtain⟨t,rfl⟩:=r1;exact SI W.kitx_int I.kIn True.intro e fv! fin
 |str y=>cases cJ rx;obtain⟨t,rfl⟩:=r1;exact SI W.kitx_str I.kIn True.intro e fv! fin
 |tup ys=>
  show"!R";cases r1;obtain⟨its,_,⟨o,h1,h2,_⟩,_⟩:=I.tuple qa;exact SI W.kitx_tuple I.kIn oy_ e fv! fin
 |lst ys=>
  show"#!";cases r1;obtain⟨its,_,pl,_⟩:=I.list qa;obtain⟨o,n,h1,h2,_⟩:=pl;exact SI W.kitx_list I.kIn oy_ e fv! fin
 |fn a=>exact absurd rfl (hf a)
 |dk a=>exact absurd rfl (yn a)
def Fq(T:String):D->Option Bool
 |.non=>some (T=="NoneType")
 |.bl _=>some (T=="bool"||T=="int")
 |.int _=>some (T=="int")
 |.str _=>some (T=="str")
 |.tup _=>some (T=="tuple")
 |.lst _=>some (T=="list")
 |.fn _=>none
 |.dk _=>none
structure Wu(K:yN!)(T:String):Prop where
 ok:∀d b,Fq T d=some b->W.kitOne K (FT d) fc_=some b
def a3m:W.kitOne [] ho! bF_=some ("int"=="NoneType"):=by decide+kernel
def a7a:W.kitOne [] bG! bF_=some ("int"=="bool"||"int"=="int"):=by decide+kernel
def a3q:W.kitOne [] bF_ bF_=some ("int"=="int"):=by decide+kernel
def a3k:W.kitOne [] bG_ bF_=some ("int"=="str"):=by decide+kernel
def a3i:W.kitOne [] bH! bF_=some ("int"=="tuple"):=by decide+kernel
def a3o:W.kitOne [] a9_ bF_=some ("int"=="list"):=by decide+kernel
def c5m{K:yN!}:Wu K "int":=⟨λd b h=>match d,b,h with
 |.non,b,h=>by cases h;exact a3m
 |.bl _,b,h=>by cases h;exact a7a
 |.int _,b,h=>by cases h;exact a3q
 |.str _,b,h=>by cases h;exact a3k
 |.tup _,b,h=>by cases h;exact a3i
 |.lst _,b,h=>by cases h;exact a3o
 |.fn _,b,h=>by cases h
 |.dk _,b,h=>by cases h⟩
def yV:W.kitOne [] ho! bG!=some ("bool"=="NoneType"):=by decide+kernel
def a3s:W.kitOne [] bG! bG!=some ("bool"=="bool"||"bool"=="int"):=by decide+kernel
def yZ:W.kitOne [] bF_ bG!=some ("bool"=="int"):=by decide+kernel
def yT:W.kitOne [] bG_ bG!=some ("bool"=="str"):=by decide+kernel
def yR:W.kitOne [] bH! bG!=some ("bool"=="tuple"):=by decide+kernel
def yX:W.kitOne [] a9_ bG!=some ("bool"=="list"):=by decide+kernel
def c1k{K:yN!}:Wu K "bool":=⟨λd b h=>match d,b,h with
 |.non,b,h=>by cases h;exact yV
 |.bl _,b,h=>by cases h;exact a3s
 |.int _,b,h=>by cases h;exact yZ
 |.str _,b,h=>by cases h;exact yT
 |.tup _,b,h=>by cases h;exact yR
 |.lst _,b,h=>by cases h;exact yX
 |.fn _,b,h=>by cases h
 |.dk _,b,h=>by cases h⟩
def a3l:W.kitOne [] ho! bG_=some ("str"=="NoneType"):=by decide+kernel
def a6z:W.kitOne [] bG! bG_=some ("str"=="bool"||"str"=="int"):=by decide+kernel
def a3p:W.kitOne [] bF_ bG_=some ("str"=="int"):=by decide+kernel
def a3j:W.kitOne [] bG_ bG_=some ("str"=="str"):=by decide+kernel
def a3h:W.kitOne [] bH! bG_=some ("str"=="tuple"):=by decide+kernel
def a3n:W.kitOne [] a9_ bG_=some ("str"=="list"):=by decide+kernel
def a4g{K:yN!}:Wu K "str":=⟨λd b h=>match d,b,h with
 |.non,b,h=>by cases h;exact a3l
 |.bl _,b,h=>by cases h;exact a6z
 |.int _,b,h=>by cases h;exact a3p
 |.str _,b,h=>by cases h;exact a3j
 |.tup _,b,h=>by cases h;exact a3h
 |.lst _,b,h=>by cases h;exact a3n
 |.fn _,b,h=>by cases h
 |.dk _,b,h=>by cases h⟩
def xB:W.kitOne [] ho! bH!=some ("tuple"=="NoneType"):=by decide+kernel
def zA:W.kitOne [] bG! bH!=some ("tuple"=="bool"||"tuple"=="int"):=by decide+kernel
def xD:W.kitOne [] bF_ bH!=some ("tuple"=="int"):=by decide+kernel
def xA:W.kitOne [] bG_ bH!=some ("tuple"=="str"):=by decide+kernel
def wZ:W.kitOne [] bH! bH!=some ("tuple"=="tuple"):=by decide+kernel
def xC:W.kitOne [] a9_ bH!=some ("tuple"=="list"):=by decide+kernel
def nQ{K:yN!}:Wu K "tuple":=⟨λd b h=>match d,b,h with
 |.non,b,h=>by cases h;exact xB
 |.bl _,b,h=>by cases h;exact zA
 |.int _,b,h=>by cases h;exact xD
 |.str _,b,h=>by cases h;exact xA
 |.tup _,b,h=>by cases h;exact wZ
 |.lst _,b,h=>by cases h;exact xC
 |.fn _,b,h=>by cases h
 |.dk _,b,h=>by cases h⟩
def yU:W.kitOne [] ho! a9_=some ("list"=="NoneType"):=by decide+kernel
def a3r:W.kitOne [] bG! a9_=some ("list"=="bool"||"list"=="int"):=by decide+kernel
def yY:W.kitOne [] bF_ a9_=some ("list"=="int"):=by decide+kernel
def yS:W.kitOne [] bG_ a9_=some ("list"=="str"):=by decide+kernel
def yQ:W.kitOne [] bH! a9_=some ("list"=="tuple"):=by decide+kernel
def yW:W.kitOne [] a9_ a9_=some ("list"=="list"):=by decide+kernel
def c1j{K:yN!}:Wu K "list":=⟨λd b h=>match d,b,h with
 |.non,b,h=>by cases h;exact yU
 |.bl _,b,h=>by cases h;exact a3r
 |.int _,b,h=>by cases h;exact yY
 |.str _,b,h=>by cases h;exact yS
 |.tup _,b,h=>by cases h;exact yQ
 |.lst _,b,h=>by cases h;exact yW
 |.fn _,b,h=>by cases h
 |.dk _,b,h=>by cases h⟩
def Dy(T:String)(f:e!):Ae->Option D:=λρ=>(al!).bind λd=>(Fq T d).map D.bl
def jU{T:String}{x:Str}(ht:Wu X.K T)(hg:Gl X "isinstance")(hm:X.mg "isinstance"=none)(yo:S!)(sj:cv!)(hv:bootBuiltins "isinstance"=some oy!)(ZE:jl_)(ha:Y_)
  (jh:cv_:=by decide)(jl:F!:=by decide)
  (he:starEach [a,cN_] X.env=dW!::starEach [cN_] X.env:=by rfl)(ml:starEach [cN_] X.env=(false,eval dr! X.env)::starEach [] X.env:=by rfl)
  (ax:(backTo pos (starEach [cN_] X.env)).any c!=false:=by rfl):DE X own (.Call (.Name "isinstance" p) [a,cN_] [] pos) (Dy T fa):=
 eM (wE (r:=CD X.K T) c2w hg hm hv (dS ha.ok (dS (c4n (v:=V.ty T) yo sj ZE rfl jh jl) fZ ml) he) b_ b_ he ax) λZ G H Q ρ d er e k=>by
  show"!;";obtain⟨b,e2,rfl⟩:=IG.mp e;exact⟨G,ρ,x,er,e1,λv G1 H1 s1 r1=>⟨v,x,b,rfl,r1.mono s1.sub,ht.ok x b e2,wV!,wV!,wu_⟩⟩
def eE{K:yN!}{H:Hp}(h:Am K H [d] vs):∃v,vs=[v]/\Av K H d v:=by obtain⟨v,r,rfl,h1,h2⟩:=bR h;cases cX h2;exact⟨v,rfl,h1⟩
def Bk:List D->Option D
 |[.tup xs]=>some (.int i!)
 |[.lst xs]=>some (.int i!)
 |[.str x]=>if e3_<=big then some (.int e3_)else none
 |_=>none
def dY{K:yN!}:Pq K wW! Bk:=by
 show"!@";unfold Bk at e;show"!6"
 .show"#9";exact⟨_,_,rfl,.inr ⟨ws,bY sub q,aI rr⟩,dq_⟩
 .show"!_";cases e;exact⟨_,_,rfl,.inl ⟨ws,ox_,aI rr⟩,dq_⟩
 .show"!7";cases cJ rv;show"!6"
  .show"!G";exact⟨_,_,rfl,⟨cS hl,rfl⟩,dq_⟩
  .cases e
 .cases e
def Fy:List D->Option D
 |[.int i]=>some (.int i4!)
 |_=>none
def d0x{K:yN!}:Pq K sS_ Fy:=by
 show"!@";unfold Fy at e;show"!6"
 .show"!7";cases aY rv;cases e;exact⟨_,rfl,dq_⟩
 .cases e
def Za:List D->Option D
 |[.str x]=>if e3_=1 then some sW! else none
 |_=>none
def d0w{K:yN!}:Pq K sW_ Za:=by
 show"!@";unfold Za at e;show"!6"
 .show"!7";cases cJ rv;show"!6"
  .show"!G";exact⟨_,rfl,hl,dq_⟩
  .cases e
 .cases e
def EF:List D->Option D
 |[.lst xs]=>some be_
 |[.tup xs]=>some be_
 |_=>none
def Vz:List D->Option D
 |[.lst xs]=>some L!
 |[.tup xs]=>some L!
 |_=>none
def c6s{K:yN!}:Pq K wW_ Vz:=by
 show"!@";unfold Vz at e;show"!6"
 .show"!_";cases e;exact⟨a,ws,rfl,.inl oE!,wX_⟩
 .show"#9";exact⟨a,ws,rfl,.inr hq!,wX_⟩
 .cases e
def vK:∀{bs:kj!} {us:j!},Be (bs.map V.bl) us->us=bs.map Value.bool
 |[],_,.nil=>rfl
 |b::bs,_,.cons r t=>by cases r;rw[vK t];rfl
def CH(K:yN!):List V->Hp->VK->Prop:=λxs H Q=>∃(p:xY!) (bs:kj!),xs=gY!/\Fj K H p (bs.map V.bl)/\Q (.bl oE_) H
def b6x:∀(bs:kj!),((List.range bs.length).all λi=>(bs[i]?).getD true)=bs.all id:=λbs=>by
 rw[LU,MB,MB];show"!D"
 .intro h x Y;obtain⟨i,hi,rfl⟩:=MD.mp Y;have:=h i (OJ.mpr hi);simpa[hi]using this
 .intro h i hi;have b9:=OJ.mp hi;simpa[b9]using h bs[i] (KQ b9)
def yB(L:aD_):Jd X w0! (CH X.K):=by
 intro B s Z H xs us Q I r h;obtain⟨p,bs,rfl,hq,q⟩:=h;obtain⟨u,rfl,r1⟩:=tH r;cases r1;obtain⟨its,rv,pl,hz⟩:=I.list hq;have e:=vK rv;subst e;have hl:=pl.isList;have ap:p<k_:=by obtain⟨_,e,_⟩:=hl;exact JB e
 refine call_all_walk (wpAny_pyIter_list hl ?_);refine⟨k_,[k_,p],[k_],(kj_).toArray.size,_,_,λi=>(bs[i]?).getD true,rfl,Walks.list (A:=X.A.in1) a4! _ p (JP ap) (kj_).toArray,
  ⟨eY!,hl.push _⟩,λi v s' Q' E' hP hQ=>?_,λh' tk hk=>?_⟩
 .have VG:kj_[i]?=some v:=by simpa using hP
  rw[JM]at VG;obtain⟨b,hb,rfl⟩:=IG.mp VG;simp only[hb,Option.getD_some]at hQ;exact KF hQ
 .have e:((List.range (kj_).toArray.size).all λi=>(bs[i]?).getD true)=bs.all id:=by
   rw[IF,IP];exact b6x bs
  rw[e];exact⟨.bl _,H,I.kept (t':=tk) λb x ex=>hk b x (λhm=>by rw[IR.mp hm]at ex;exact LP _ (JB ex)) (HX _ ex),rfl,q⟩
def Nf:List D->Option (List Bool)
 |[]=>some []
 |.bl b::r=>(Nf r).map (b::·)
 |_=>none
def Rl:List D->Option D
 |[.lst xs]=>(Nf xs).map λbs=>.bl oE_
 |_=>none
def zP{K:yN!}{H:Hp}:∀{ds:c_} {vs:m_} {bs:kj!},Am K H ds vs->Nf ds=some bs->vs=bs.map V.bl
 |[],vs,bs,r,e=>by cases cX r;cases e;rfl
 |d::ds,vs,bs,r,e=>by
  obtain⟨v,t,rfl,r1,r2⟩:=bR r;cases d<;>first|cases e|skip
  obtain⟨bs',e1,rfl⟩:=IG.mp e;cases cV r1;rw[zP r2 e1];rfl
def b1m{K:yN!}:Pq K (CH K) Rl:=by
 show"!@";unfold Rl at e;show"!6"
 .show"!_";obtain⟨bs,e1,rfl⟩:=IG.mp e;have:=zP rr e1;subst this;exact⟨a,bs,rfl,ox_,er_⟩
 .cases e
end
def Zj(K:yN!)(ab:It)(ds:c_)(G1:Hp):Prop:=∀(i:Nat) (G' H':Hp),Bj G1 G'->Bj G' H'->
 w0_/\w1!
inductive FW(K:yN!)(own:k!)(fi:aq_)(Z:St)(H:Hp)(R:gt!):Prop
 |mk (G:Hp) (ρ:Ae) (ds:c_) (o:cj_) (e:fi ρ=some ds) (k:∀ab G1 H1,Ce G H G1 H1->Zj K ab ds G1->R ab H1):FW K own fi Z H R
structure DI(X:Cx)(own:k!)(tg iter:Expr)(fi:aq_):Prop where
 ok:PI X tg iter (FW X.K own fi)
section
variable{X:Cx}{own:List Nat}{e a b c tg:Expr}{es:List Expr}{pos p2:Pos}{f fa fb fc:Ae->Option D}{fs fi:Ae->Option (List D)}{ft fu:Ae->Option Bool}
def a8e{wi:TI}(h:PI X tg e wi)(hw:∀Z G H R ρ ds,OR X.K own G H Z ρ->fi ρ=some ds->(∀ab G1 H1,Ce G H G1 H1->Zj X.K ab ds G1->R ab H1)->wi Z H R):DI X own tg e fi:=⟨λB s Z H R I ⟨G,ρ,ds,er,e,k⟩=>h B s Z H R I (hw Z G H R ρ ds er e k)⟩
def Ei(f:e!):Ae->Option aL_:=λρ=>(al!).bind λd=>match d with|.lst xs=>some xs|_=>none
def FF(f:e!):Ae->Option aL_:=λρ=>(al!).bind λd=>match d with|.tup xs=>some xs|_=>none
def a7m{K:yN!}{G1:Hp}{ad:xY!}(q:Fj K G1 ad vs)(r:Am K G1 ds vs):Zj K (FP K ad) ds G1:=by intro i G' H' s1 s2;have q':Fj K H' ad vs:=s2.seq (s1.seq q);refine⟨es!,λhi=>⟨vs,q',by rw[<-aI r,hi];exact IW _⟩⟩;obtain⟨v,h1,h2⟩:=hJ r hd;refine⟨⟨vs,v,q',h1⟩,hr!⟩;obtain⟨e1,e2⟩:=hy;subst e1;have:=e2 vs q';rw[h1]at this;cases this;exact⟨G',kk!,h2.mono s1⟩
def fD(h:Y_):DI X own tg a (Ei fa):=a8e (b2y h.ok) λZ G H R ρ ds er e k=>by
 obtain⟨d,e1,e2⟩:=HS.mp e;cases d<;>first|cases e2|skip
 refine fv_;obtain⟨p,vs,rfl,q,rr⟩:=bP r1;exact⟨p,rfl,⟨vs,s1.sub.seq q⟩,k _ G1 H1 s1 (a7m q rr)⟩
def Dp(n:Nat):List D:=(oH_).map λi=>.int (i:Nat)
def Eo(f:e!):Ae->Option aL_:=λρ=>(al!).bind λd=>match d with|.int j=>if -1000<=j/\j<=100000 then some (Dp j.toNat)else none|_=>none
def b6h{K:yN!}{G1:Hp}{n:Nat}:Zj K (CZ 0 n) (Dp n) G1:=by intro i G' H' s1 s2;unfold Dp;refine w2!;rw[JM]at hd;obtain⟨j,hj,rfl⟩:=IG.mp hd;obtain⟨hl,he⟩:=IU.mp hj;rw[PX]at he;subst he;rw[NG]at hl;refine⟨hl,hr!⟩;obtain⟨e1,e2⟩:=hy;subst e1 e2;refine⟨G',kk!,?_⟩;rw[Int.zero_add];exact Av.int
def fI{pos:Pos}(hg:iP_)(hm:iQ!)(h:Y_)(hs:so_:=by rfl)(b8:kk_:=by rfl):
  DI X own tg sp! (Eo fa):=a8e (b5k hg hm (dS h.ok fZ b8) hs) λZ G H R ρ ds er e k=>by
 obtain⟨d,e1,e2⟩:=HS.mp e;cases d<;>first|cases e2|skip
 rename_i j;have e3:(if -1000<=j/\j<=100000 then some (Dp j.toNat)else none)=some ds:=e2;split at e3
 .rename_i hj;cases e3;refine fv_;cases aY r1;exact⟨j,rfl,v!,v!,k _ G1 H1 s1 b6h⟩
 .cases e3
def Fk(bnd:af_)(ft:ac_)(fe:e!)(ρ:Ae):List D->Option aL_
 |[]=>some []
 |d::ds=>(kl!).bind λah=>(ft ah).bind λb=>if b then(fe ah).bind λy=>(Fk bnd ft fe ρ ds).map (y::·)else Fk bnd ft fe ρ ds
def GD(K:yN!)(g:TG)(bnd:af_):Prop:=∀{x:V} {d:D} {Z:St} {G H:Hp} {ρ ah:Ae} {Q:iH!},OR K [] G H Z ρ->Av K G d x->bnd d ρ=some ah->(∀dt,OR K [] G H dt ah->Le ρ ah->Q dt H)->g x Z H Q
def Bd(i:Nat):D->Ae->Option Ae:=λd ρ=>match ρ[i]? with|some none=>some bW_|_=>none
def cG{K:yN!}(i:Nat):GD K eW! (Bd i):=by
 intro x d Z G H ρ ah Q er r e k;unfold Bd at e;show"!6"
 .rename_i h;cases e;exact k _ (er.set d! r) ((Le.refl ρ).set h)
 .cases e
def Rk(i j:Nat):D->Ae->Option Ae:=λd ρ=>match d with
 |.tup [x,y]=>(Bd i x ρ).bind λah=>Bd j y ah
 |_=>none
def Le.trans{ρ ah bh:Ae}(a:Le ρ ah)(b:Le ah bh):Le ρ bh:=⟨a.1.trans b.1,λi d h=>b.2 i d (a.2 i d h)⟩
def c5v{K:yN!}(i j:Nat):GD K w3! (Rk i j):=by
 intro x d Z G H ρ ah Q er r e k;unfold Rk at e;show"!6"
 .obtain⟨bh,e1,e2⟩:=HS.mp e;show"!X";show"!4";refine⟨p,[v1,v2],rfl,bY er.sub q,rfl,v1,[v2],rfl,?_⟩;refine cG i er r1 e1 λdt mz l1=>⟨v2,[],rfl,?_⟩;exact cG j mz r2 e2 λc9 cg l2=>⟨rfl,k c9 cg (l1.trans l2)⟩
 .cases e
def Hv(nl:Nat)(ix:k!)(fi:aq_)(bnd:af_)(ft:ac_)(fe:e!):Ae->Option D:=λρ=>(fi ρ).bind λds=>if f_<=big then(Fk bnd ft fe of_ ds).map D.lst else none
def d0v{K:yN!}{ab:It}{ds:c_}{G1 H1:Hp}{g:TG}{bnd:af_}{ft:ac_}{fe:e!}{j9:Ae}{sn:St}{Fin:c2!}
  (hb:f_<=big)(fw:Zj K ab ds G1)(hg:GD K g bnd)(er:OR K [] G1 H1 sn j9)(e:Fk bnd ft fe j9 ds=some jo)(k:∀ys G' H',Ce G1 H1 G' H'->Am K G' jo ys->Fin ys H'):
  We ab g (AA K [] ft) (tD K [] fe) Fin sn H1:=by
 refine⟨λi m ys hr H'=>i<=f_/\m=f_ - i/\∃G' ws r,Ce G1 H1 G' H'/\OR K [] G' H' hr j9/\Am K G' ws ys/\ns!<=i/\Fk bnd ft fe j9 (ds.drop i)=some r/\ws++r=jo,
  ⟨f_,KC _,rfl,G1,[],jo,Ce.refl er.sub,er,Am.nil,KC _,e,rfl⟩,?_⟩
 rintro i m ys hr H' ⟨hi,rfl,G',ws,r,x,cm,ak,hw,cg,et⟩;refine w3_;obtain⟨m7,m8⟩:=fw i G' H' x.g cm.sub;by_cases ap:i<f_
 .right;have hd:ds[i]?=some ds[i]:=by simp[ap]
  have yp:ds.drop i=ds[i]::ds.drop X!:=NB ap;rw[yp]at cg;unfold Fk at cg;obtain⟨ah,e1,cg⟩:=HS.mp cg;obtain⟨b,e2,cg⟩:=HS.mp cg;obtain⟨go,yl⟩:=m7 _ hd;refine⟨go,kl_⟩;obtain⟨G2,x2,r2⟩:=yl v H2 hy;refine hg (cm.grow x2) r2 e1 λdt mz sv=>⟨G2,ah,b,mz,e2,λG3 H3 x3=>?_⟩;have ke:=mz.grow x3;have ll:Ce G1 H1 G3 H3:=x.trans (x2.trans x3);cases b with
  |true=>
   obtain⟨y,e3,cg⟩:=HS.mp cg;obtain⟨zs,e4,rfl⟩:=IG.mp cg;refine mP ⟨G3,ah,y,ke,e3,λu G4 H4 x4 r4=>⟨_,?_,ap,rfl,G4,ws++[y],zs,ll.trans x4,(ke.grow x4).le sv,?_,?_,e4,?_⟩⟩
   .omega
   .exact cY w4_ (Am.cons r4 Am.nil)
   .rw[IT,LQ];omega
   .rw[KI];exact et
  |false=>
   refine mQ ⟨_,?_,ap,rfl,G3,ws,r,ll,ke.le sv,(oJ_).mono x3.g,v!,cg,et⟩;omega
 .left;have iw:i=f_:=by omega
  refine⟨m8 iw,k ys G' H' x ?_⟩;rw[iw,QS]at cg;cases cg;rw[JA]at et;subst et;exact ak
def nS{scope:Scope}{NL:r_}{ix:k!}{g:TG}{bnd:af_}{fe:e!}
  (cj:dj!)(cf:dj_)(j8:∀y∈ch!,y.2=.local->scope.names.lookup y.1=some .local)
  (ij:g9_)(cap:di_)(m9:j3!)(calm:aD_)(al:DI X own tg iter fi)
  (hg:ha!)(ng:oK_)(hi:∀cl C am a8 fp,Py ch_ db w5!)(he:∀cl C am a8 fp,DE ch_ [] dz fe)
  (hs:c9!:=by intro _;rfl):
  DE X own g7! (Hv NL.length ix fi bnd ft fe):=
 eM w6_ λZ G H Q ρ d er e k=>by
  show"!H"
  .rename_i hb;obtain⟨jo,e2,rfl⟩:=IG.mp e;refine⟨G,ρ,ds,er,e1,w7!⟩;refine d0v hb fw ng ((er.grow x1).cap NL.length ix m9) e2 λys G' H' x r p hp=>?_;exact k _ _ _ (x1.trans (x.trans hr_)) (cM oL! r)
  .cases e
def a6h:Py X [] (AA X.K [] λ_=>some true):=λB s Z H Q I ⟨G,ρ,b,er,e,k⟩=>by
 cases e;exact a6g B s Z H Q I (k G H hf!)
def d2d(h:DT X [] c ft):Py X [c] w5!:=a6f h.ok
end
inductive Fl where
 |nx (ρ:Ae)|rt (d:D)
structure SR(K:yN!)(own:k!)(G0 F0 G H:Hp)(Z:St)(ρ:Ae):Prop where
 or:OR K own G H Z ρ
 ext:Ce G0 F0 G H
 fr:∀i∈own,∀p,Z[i]?=some cj!->F0 p=none
inductive DK(K:yN!)(G0 F0:Hp)(own σ:k!)(f:aO_)(E:Vl)(Z:St)(H:Hp):Prop
 |mk (G:Hp) (ρ:Ae) (r:Fl) (o:fw!) (e:f ρ=some r) (k:match(generalizing:=false) r with
  |.nx ρ'=>∀G' hr H',SR K σ G0 F0 G' H' hr ρ'->E.nx hr H'
  |.rt d=>∀v G' H',Ce G0 F0 G' H'->Av K G' d v->E.rt v H'):DK K G0 F0 own σ f E Z H
structure DS(X:Cx)(own σ:k!)(st:Stmt)(f:aO_):Prop where
 ok:∀G0 F0,PS X st w8!
structure Yc(X:Cx)(own σ:k!)(st:b5!)(f:aO_):Prop where
 ok:∀G0 F0,Ul X st w8!
section
variable{X:Cx}{own bj jp:List Nat}{st:Stmt}{rest body:List Stmt}{e a b c tg:Expr}{es:List Expr}{pos p2:Pos}{f fa fb fc:Ae->Option D}{fs fi:Ae->Option (List D)}{ft fu:Ae->Option Bool}{q1 q2 q3:Ae->Option Fl}
def c7r{t:TS}(h:iE!)(hw:∀G0 F0 E Z G H ρ r,SR X.K own G0 F0 G H Z ρ->q1 ρ=some r->(match r with
  |.nx ρ'=>∀G' hr H',SR X.K bj G0 F0 G' H' hr ρ'->E.nx hr H'
  |.rt d=>∀v G' H',Ce G0 F0 G' H'->Av X.K G' d v->E.rt v H')->t E Z H):DS X own bj st q1:=⟨λG0 F0 B s Z H E I ⟨G,ρ,r,er,e,k⟩=>h B s Z H E I (hw G0 F0 E Z G H ρ r er e k)⟩
def SR.grow{K:yN!}{G0 F0 G H G' H':Hp}{Z:St}{ρ:Ae}(s:fw!)(x:j2!):SR K own G0 F0 G' H' Z ρ:=⟨s.or.grow x,s.ext.trans x,s.fr⟩
def SR.set{K:yN!}{G0 F0 G H:Hp}{Z:St}{ρ:Ae}{i:Nat}(s:fw!)(hi:bn_)(r:cK_):SR K own G0 F0 G H eP! bW_:=
 ⟨s.or.set hi r,s.ext,λj hj p e=>by
  have ne:i≠j:=λz=>hi (z▸hj);rw[JN ne]at e;exact s.fr j hj p e⟩
def Ct:Ae->Option Fl:=λρ=>some aH_
nonrec def sSeq(q1 q2:aO_):Ae->Option Fl:=λρ=>(q1 ρ).bind λr=>match r with|.nx ρ'=>q2 ρ'|.rt d=>some bc_
def eB:Yc X own own [] Ct:=⟨λG0 F0 B s Z H E I ⟨G,ρ,r,er,e,k⟩=>by
 cases e;exact b2u B s Z H E I (k G Z H er)⟩
def bB(h1:w9!)(h2:Yc X bj jp rest q2):Yc X own jp oz_ (sSeq q1 q2):=⟨λG0 F0 B s Z H E I ⟨G,ρ,r,er,e,k⟩=>by
 refine a6e oL_ (h2.ok G0 F0) B s Z H E I ?_;obtain⟨r1,e1,e2⟩:=HS.mp e;refine⟨G,ρ,r1,er,e1,?_⟩;cases r1 with
 |nx ρ'=>exact λG' hr H' cm=>⟨G',ρ',r,cm,e2,k⟩
 |rt d=>
  cases e2;exact k⟩
def bF(h1:w9!):Yc X own bj [st] q1:=⟨λG0 F0=>b2t oL_⟩
def SR.free{K:yN!}{G0 F0 G H:Hp}{Z:St}{ρ:Ae}(s:fw!):SR K [] G0 F0 fp_ H Z ρ:=by
 have o:=s.or.full;refine⟨o,⟨j1_,s.ext.h,o.sub,bn!⟩,aq!⟩
 .have z:=s.ext.g b u e;unfold La;split
  .exact s.or.sub b u z
  .exact z
 .unfold La at h;split at h
  .rename_i hb;obtain⟨i,hi,q⟩:=nO hb;exact .inr (s.fr i hi b q)
  .exact s.ext.new b h
def a8d(h:Yc X [] jp rest q1):Yc X own jp rest q1:=⟨λG0 F0 B s Z H E I ⟨G,ρ,r,er,e,k⟩=>h.ok G0 F0 B s Z H E I ⟨_,ρ,r,er.free,e,k⟩⟩
def Bl(f:e!):Ae->Option Fl:=λρ=>(al!).map Fl.rt
def bV(h:do!):DS X own bj mp_ (Bl f):=c7r (b8u h.ok) λG0 F0 E Z G H ρ r er e' k=>by
 obtain⟨d,e1,rfl⟩:=IG.mp e';exact⟨G,ρ,d,er.or,e1,λv G' H' x r=>k v G' H' (er.ext.trans x) r⟩
def Co(i:Nat)(f:e!):Ae->Option Fl:=λρ=>(al!).map λd=>.nx bW_
def fP{i:Nat}(hN:bv_)(hi:an!)(Y:bw!)(h:do!)(bp:bn_:=by decide)(hs:xa!:=by rfl)
  (hf:X.fn x=true\/X.env.scope.names.lookup x=some .local:=by first|exact .inl rfl|exact .inr rfl|assumption):DS X own own xa_ (Co i f):=
 c7r xb! λG0 F0 E Z G H ρ r er e' k=>by
  obtain⟨d,e1,rfl⟩:=IG.mp e';exact⟨G,ρ,d,er.or,e1,λv G' H' x r=>k G' _ H' ((hs!).set bp r)⟩
def Gg(ft:ac_)(q1 q2:aO_):Ae->Option Fl:=λρ=>(hh_).bind λb=>if b then q1 ρ else q2 ρ
def iD{b1 b2:b5!}(L:DT X own c ft)(h1:Yc X own bj b1 q1)(h2:Yc X own bj b2 q2):DS X own bj xb_ (Gg ft q1 q2):=⟨λG0 F0 B s Z H E I ⟨G,ρ,r,er,e',k⟩=>by
 refine c7e L.ok oL_ (h2.ok G0 F0) B s Z H E I ?_;obtain⟨x,e1,e2⟩:=HS.mp e';refine⟨G,ρ,x,er.or,e1,λG' H' x'=>?_⟩;cases x with
 |true=>exact mP xc!
 |false=>exact mQ xc!⟩
def Ml(i:Nat)(fs:aq_):Ae->Option Fl:=λρ=>(fs!).bind λds=>if f_<=1000 then some (.nx oN_)else none
def SR.ownNew{K:yN!}{G0 F0 G H:Hp}{Z:St}{ρ:Ae}{i:Nat}(s:fw!)(hi:bn_)(hl:i<ge_)(r:km_)(hp:cJ!):
  SR K (i::own) G0 F0 G j1! (Z.set i cj!) oN_:=by
 have yq:i<hc_:=by rw[s.or.len];exact hl
 have yr:Bj H j1!:=iY hp;show"#3";refine⟨⟨xc_,by rw[MN,MN,s.or.len],xd!,kn!,λj hj k hk bf a b e1 e2=>?_⟩,⟨s.ext.g,s.ext.h.trans yr,xc_,s.ext.new⟩,λj hj a e=>?_⟩
 .have cp:i≠j:=λz=>n (by rw[z];exact IH);rw[JN cp]at q ⊢;exact s.or.at_ j d q λz=>n (HZ _ z)
 .obtain z|z:=HY.mp hj
  .subst z;exact⟨p,ds,vs,by rw[KM yq],by rw[KM hl],bW,s.or.sub.free hp,r⟩
  .have cp:i≠j:=λy=>hi (y▸z);obtain⟨a,sw,gd,h1,h2,h3,h4,h5⟩:=s.or.own_ j z;exact⟨a,sw,gd,by rw[JN cp];exact h1,by rw[JN cp];exact h2,by rw[aW (ne h3)];exact h3,h4,h5⟩
 .have look:∀{j:Nat} {a:xY!},j∈i::own->(Z.set i cj!)[j]?=some (some fn!)->(j=i/\a=p)\/(j≠i/\j∈own/\Z[j]?=some (some fn!)/\a≠p):=λ{j a} hj e=>by
   by_cases cp:i=j
   .subst cp;rw[KM hl]at e;cases e;exact .inl bz_
   .rw[JN cp]at e;have hm:j∈own:=(HY.mp hj).elim xe! id;obtain⟨a',sw,gd,h1,h2,h3,h4,h5⟩:=s.or.own_ j hm;rw[e]at h2;cases h2;exact .inr ⟨IB cp,hm,e,ne h3⟩
  obtain⟨z1,z2⟩|⟨z1,z2,z3,z4⟩:=look hj e1
  .obtain⟨y1,y2⟩|⟨y1,y2,y3,y4⟩:=look hk e2
   .exact absurd (z1.trans y1.symm) bf
   .rw[z2];exact IB y4
  .obtain⟨y1,y2⟩|⟨y1,y2,y3,y4⟩:=look hk e2
   .rw[y2];exact z4
   .exact s.or.dis j z2 k y2 bf a b z3 y3
 .by_cases cp:i=j
  .subst cp;rw[KM hl]at e;cases e;exact s.ext.h.free hp
  .rw[JN cp]at e;exact s.fr j ((HY.mp hj).elim xe! id) a e
def pG{i:Nat}{p3 p4:Pos}(hN:bv_)(hi:an!)(Y:bw!)(h:j9_)(bp:bn_:=by decide)
  (hf:X.fn x=true\/X.env.scope.names.lookup x=some .local:=by first|exact .inl rfl|exact .inr rfl|assumption)(bu:swapsWith (.List es p2) (some (.Name x p3)) p4.line X.env=pure false:=by rfl):DS X own (i::own) (.Assign [.Name x p3] (.List es p2) p4) (Ml i fs):=⟨λG0 F0 B s Z H E I ⟨G,ρ,r,er,e',k⟩=>by
  refine a9w hN hi Y kb! bu hf B s Z H E I ?_;have hl:i<ge_:=by rw[I.len];exact(IU.mp hi).1
  obtain⟨ds,e1,e2⟩:=HS.mp e';split at e2
  .rename_i hsz;cases e2;exact⟨G,ρ,ds,er.or,e1,λvs G' H' x r=>⟨by rw[<-aI r];exact eZ hsz,λp hp=>k G' _ _ ((hs!).ownNew bp hl r hp)⟩⟩
  .cases e2⟩
def SR.upd{K:yN!}{G0 F0 G H:Hp}{Z:St}{ρ:Ae}{i:Nat}(s:fw!)(hi:ej!)(hp:wf!)(r:km_):
  SR K own G0 F0 G j1! Z oN_:=by
 obtain⟨p',sw,gd,h1,h2,h3,h4,h5⟩:=s.or.own_ i hi;rw[hp]at h2;cases h2;have hG:∀{b u},G b=some u->b≠p:=λe=>cL e h4;have hF:∀{b u},F0 b=some u->b≠p:=λe=>cL e (s.fr i hi p hp);have yq:i<hc_:=(ht_).1;refine⟨⟨xe_,by rw[MN,s.or.len],xd!,kn!,s.or.dis⟩,⟨s.ext.g,λb u e=>by rw[aW (hF e)];exact s.ext.h b u e,xe_,s.ext.new⟩,s.fr⟩
 .have cp:i≠j:=λz=>n (z▸hi);rw[JN cp]at q;exact s.or.at_ j d q n
 .by_cases cp:i=j
  .subst cp;exact⟨p,ds,vs,by rw[KM yq],hp,bW,h4,r⟩
  .obtain⟨a,ZF,ZG,g1,g2,g3,g4,g5⟩:=s.or.own_ j hj;have ne:a≠p:=IB (s.or.dis i hi j hj cp p a hp g2);exact⟨a,ZF,ZG,by rw[JN cp];exact g1,g2,by rw[aW ne];exact g3,g4,g5⟩
def Pr(i:Nat)(f:e!):Ae->Option Fl:=λρ=>(al!).bind λd=>match ρ[i]? with|some (some (.lst ds))=>if f_<big then some xf! else none|_=>none
def sW{i:Nat}{x:Str}{aj ag:Pos}(bp:ej!:=by decide)(h:do!)(hN:an!:=by rfl)(hv:c2_:=by first|exact Or.inl rfl|exact Or.inr b!|exact Or.inr aM!)
  (hd:F!:=by decide)(bx:c3!:=by decide)
  (bz:kn_:=by rfl)(gw:((jD!).all cF_&&(cF!).all cG!
   &&decide xf_)=true:=by rfl) (g7:ea!:=by rfl)
  (gu:attributeBase bp_ "append" X.env ko!=eval bp_ X.env:=by rfl) (g8:hv!:=by rfl) (kg:swapsWith xg_ none pos.line X.env=pure false:=by rfl):
  DS X own own (.Expr xg_ pos) (Pr i f):=⟨λG0 F0 B s Z H E I ⟨G,ρ,r,er,e',k⟩=>by
  refine uR (zS OU PySem.F.slot_list_append PySem.F.type_list_append a0c j3_ xh_ gu gw g7 bz g8) kg B s Z H E I ?_;obtain⟨d,e1,e2⟩:=HS.mp e';obtain⟨p,ds,vs,h1,h2,h3,h4,h5⟩:=er.or.own_ i bp;rw[h1]at e2;simp only at e2;split at e2
  .rename_i hl;cases e2;refine⟨fx_,h2,oQ!,G,ρ,d,er.or,e1,λv G' H' x r=>⟨p,vs,v,rfl,rfl,x.h _ _ h3,?_,?_⟩⟩
   .rw[<-aI h5];exact JD hl (cS x_)
   .exact k G' Z _ ((hs!).upd bp h2 (cY oR! (Am.cons r Am.nil)))
  .cases e2⟩
def Uy(i:Nat)(fx fv:e!):Ae->Option Fl:=λρ=>(fv ρ).bind λd=>(fx ρ).bind λx=>match x,ρ[i]? with|.int j,some (some (.lst ds))=>(oR_).map λk=>.nx xi!|_,_=>none
def c2f{i:Nat}{x:Str}{fx fv:e!}(bp:ej!:=by decide)(Y:xi_)(hv:DE X own e fv)(hN:an!:=by rfl)(yt:c2_:=by first|exact Or.inl rfl|exact Or.inr b!|exact Or.inr aM!)
  (hd:F!:=by decide)(bx:c3!:=by decide)
  (ha:∀v,assign xj! X.env v=(do
   let ov <-holding [v] ko!
   let iv <-holding [v,ov] (eval ix X.env)
   standAt p2
   holding eW_ mv!
   release eW_ []):=by intro _;rfl)
  (hs:swapsWithSole ko_ e pos.line X.env=pure false:=by rfl) (hw:swappedStores ko_ e X.env=pure none:=by rfl)
  (h1:(assignEach ko_ X.env).map C!=[assign xj! X.env]:=by rfl):
  DS X own own (.Assign ko_ e pos) (Uy i fx fv):=⟨λG0 F0 B s Z H E I ⟨G,ρ,r,er,e',k⟩=>by
  refine b8w hv.ok (b9c xj_ Y.ok a5o ha) hs hw h1 B s Z H E I ?_;obtain⟨d,e1,e2⟩:=HS.mp e';obtain⟨z,e3,e4⟩:=HS.mp e2;obtain⟨p,ds,vs,h1,h2,h3,h4,h5⟩:=er.or.own_ i bp;rw[h1]at e4;cases z<;>first|cases e4|skip
  rename_i j;obtain⟨n,e5,rfl⟩:=IG.mp (show(oR_).map _=some r from e4);refine⟨G,ρ,d,er.or,e1,λv G' H' x r=>⟨fx_,h2,G',ρ,dV_,er.or.grow x,e3,xk!⟩⟩;cases aY r2;refine⟨p,vs,j,n,rfl,rfl,xk_,by rw[<-aI h5];exact e5,?_⟩;exact k G2 Z _ (((hs!).grow x2).upd bp h2 (wA (r.mono x2.g) n ((oR!).mono x2.g)))⟩
def Ma(i:Nat)(fx:e!):Ae->Option D:=λρ=>(fx ρ).bind λx=>match x,ρ[i]? with|.int j,some (some (.lst ds))=>Dd ds j|_,_=>none
def sY{i:Nat}{x:Str}{fx:e!}(bp:ej!:=by decide)(Y:xi_)(hs:Qc ix)(hN:an!:=by rfl)(yt:c2_:=by first|exact Or.inl rfl|exact Or.inr b!|exact Or.inr aM!)
  (hd:F!:=by decide)(bx:c3!:=by decide):DE X own (.Subscript bp_ ix pos) (Ma i fx):=
 eM (b9k b3u xj_ Y.ok hs) λZ G H Q ρ d er e k=>by
  obtain⟨z,e3,e4⟩:=HS.mp e;obtain⟨p,ds,vs,h1,h2,h3,h4,h5⟩:=er.own_ i bp;rw[h1]at e4;cases z<;>first|cases e4|skip
  rename_i j;have e5:Dd ds j=some d:=e4;obtain⟨v,e6,r6⟩:=pO h5 e5;refine⟨fx_,h2,G,ρ,dV_,er,e3,xk!⟩;cases aY r2;exact⟨p,vs,j,v,rfl,rfl,Fj.of (x2.h _ _ h3),e6,k v G2 H2 x2 (r6.mono x2.g)⟩
def Re(bnd:af_)(q:aO_):List D->Ae->Option Fl
 |[],ρ=>some aH_
 |d::ds,ρ=>(kl!).bind λah=>(q ah).bind λr=>match r with|.nx bh=>Re bnd q ds bh|.rt d=>some bc_
def Rp(fi:aq_)(bnd:af_)(q:aO_):Ae->Option Fl:=λρ=>(fi ρ).bind λds=>Re bnd q ds ρ
def Rj(F0 G1:Hp):Hp:=λb=>match F0 b with|some o=>some o|none=>G1 b
def SR.base{K:yN!}{G0 F0 G1 H1:Hp}{Z:St}{ρ:Ae}(s:SR K own G0 F0 G1 H1 Z ρ):SR K own G1 hv_ G1 H1 Z ρ:=by
 refine⟨s.or,⟨Bj.refl _,j1_,s.or.sub,dt!⟩,xl_⟩
 .unfold Rj at e;show"!6"
  .rename_i o ho;cases e;exact s.ext.h b _ ho
  .exact s.or.sub b u e
 .obtain⟨p',ds,vs,h1,h2,h3,h4,h5⟩:=s.or.own_ i hi;rw[e]at h2;cases h2;unfold Rj;rw[s.fr i hi p e];exact h4
def xS{G0 F0 G1 H1 G' H':Hp}(x:xm_)(y:Ce G1 hv_ G' H'):Ce G0 F0 G' H':=by
 refine⟨x.g.trans y.g,λb u e=>y.h b u ?_,y.sub,bn!⟩
 .unfold Rj;rw[e]
 .obtain z|z:=y.new b h
  .exact x.new b z
  .right;unfold Rj at z;split at z
   .cases z
   .assumption
def SR.unbase{K:yN!}{G0 F0 G1 H1 G' H':Hp}{Z:St}{ρ:Ae}(x:xm_)(s:SR K own G1 hv_ G' H' Z ρ):SR K own G0 F0 G' H' Z ρ:=
 ⟨s.or,xS x s.ext,λi hi p e=>by
  have z:=s.fr i hi p e;unfold Rj at z;split at z
  .cases z
  .assumption⟩
def Cs(i:Nat):D->Ae->Option Ae:=λd ρ=>some bW_
def b1c{i:Nat}(hp:gr!)(L:aD_)(al:DI X own dr! iter fi)(hN:bv_)(hi:an!)(Y:bw!)(hb:Yc X own own body q1)(bp:bn_:=by decide)
  (hf:X.fn x=true\/X.env.scope.names.lookup x=some .local:=by first|exact .inl rfl|exact .inr rfl|assumption)(hs:c9!:=by intro _;rfl):
  DS X own own (.For dr! iter body [] pos) (Rp fi (Cs i) q1):=⟨λG0 F0 B s Z H E I ⟨G,ρ,r,er,e',k⟩=>by
 obtain⟨ds,e1,e2⟩:=HS.mp e';have dm:Ul X body (λE Z H=>∃A hc,DK X.K A hc own own q1 E Z H):=λB s Z H E I ⟨A,hc,h⟩=>hb.ok A hc B s Z H E I h;refine b8v hp L al.ok (aZ hN hi Y hf) dm hs B s Z H E I ⟨G,ρ,ds,er.or,e1,w7!⟩;have VH:Ce G0 F0 G1 H1:=er.ext.trans x1;refine⟨λn m hr H'=>n<=f_/\m=f_ - n/\∃G' ρ',SR X.K own G1 hv_ G' H' hr ρ'/\Re (Cs i) q1 ob! ρ'=some r,
  ⟨f_,KC _,rfl,G1,ρ,(er.grow x1).base,e2⟩,?_⟩
 rintro n m hr H' ⟨hn,rfl,G',ρ',cm,e3⟩;obtain⟨m7,m8⟩:=fw n G' H' cm.ext.g cm.or.sub;by_cases ap:n<f_
 .right;have hd:ds[n]?=some ds[n]:=by simp[ap]
  have yp:ds.drop n=ds[n]::ds.drop cO!:=NB ap;rw[yp]at e3;unfold Re at e3;obtain⟨ah,e4,e3⟩:=HS.mp e3;obtain⟨r1,e5,e3⟩:=HS.mp e3;cases e4;obtain⟨go,yl⟩:=m7 _ hd;refine⟨go,λc9 H2=>∃G2 bh,SR X.K own G1 hv_ G2 H2 c9 bh/\Re (Cs i) q1 (ds.drop cO!) bh=some r,λc9 H2 ⟨G2,bh,h1,h2⟩=>⟨f_ - cO!,v!,ap,rfl,G2,bh,h1,h2⟩,kl_⟩;obtain⟨G2,x2,r2⟩:=yl v H2 hy;refine⟨G1,Rj F0 G1,G2,_,r1,(cm.grow x2).set bp r2,e5,?_⟩;cases r1 with
  |nx bh=>exact λG3 gn H3 ke=>⟨G3,bh,ke,e3⟩
  |rt d=>
   cases e3;exact λw G3 H3 x3 r3=>k w G3 H3 (xS VH x3) r3
 .left;have iw:n=f_:=by omega
  refine oS_;rw[iw,QS]at e3;cases e3;exact k G' hr H' (SR.unbase VH cm)⟩
def a5l{K:yN!}{G H:Hp}{N:r_}{ds:c_}(s:I_)(r:km_):OR K [] G H (L2.Ms N vs) hw!:=by
 have hl:=aI r;unfold L2.Ms;refine⟨s,by simp[hl],oe!,aq!,aq!⟩;by_cases hi:i<f_
 .rw[LB gO_,JM]at q;obtain⟨d',h1,h2⟩:=IG.mp q;cases h2;obtain⟨v,h3,h4⟩:=hJ r h1;exact⟨v,by rw[LB (by simpa[<-hl]using hi),JM,h3];rfl,h4⟩
 .rw[fb_,OX]at q;split at q<;>cases q
end
def d0m{K:yN!}{mg:A!}{st:Stmt}{N ps:r_}{k:Nat}{σ:k!}{q:aO_}{g:ad!}
  (F:xo!)(S:ec!)
  (hb:∀(af:yh!) (A:yg!) (outer:av_) (s:yM!) (H:Hp) (E:XK),Al k oT!->Yc (oT_).nox [] σ bT! q)
  (hg:∀ds d,f_=T_->g ds=some d->q hw!=some bc_\/∃ρ,q hw!=some aH_/\d=.non):
  Fm P w K mg base Pz T! hA fd ps kp_:=by
 refine xo_;obtain⟨hl,G,ds,d,sub,r,e,kk⟩:=h;refine⟨_,(xp!).ok G H,?_⟩;have er:=a5l (N:=N) sub r;rcases hg ds d (by rw[aI r];exact hl) e with z|⟨ρ,z,rfl⟩
 .exact⟨G,_,_,xp_,z,λv G' H' x r=>kk v G' H' x r⟩
 .exact⟨G,_,_,xp_,z,λG' hr H' cm=>kk _ G' H' cm.ext Av.non⟩
mutual
noncomputable def Ed:D->D->Bool
 |.non,.non=>true
 |.bl a,.bl b=>a==b
 |.bl a,.int b=>uI!==b
 |.int a,.bl b=>a==uI_
 |.int a,.int b=>a==b
 |.str a,.str b=>a==b
 |.tup xs,.tup ys=>Ij xs ys
 |.lst xs,.lst ys=>Ij xs ys
 |_,_=>false
noncomputable def Ij:List D->List D->Bool
 |[],[]=>true
 |x::xs,y::ys=>Ed x y&&Ij xs ys
 |_,_=>false
end
mutual
noncomputable def Bh:D->Bool
 |.fn _=>false
 |.dk _=>false
 |.tup xs=>Br xs
 |.lst xs=>Br xs
 |_=>true
noncomputable def Br:List D->Bool
 |[]=>true
 |d::ds=>Bh d&&Br ds
end
section
variable{X:Cx}{B:List (Addr×Obj)}{Z:St}{H:Hp}{s:yM!}
def vL(I:d_)(h:kq!)(h':Fj X.K H a ws):False:=by obtain⟨_,_,⟨o,e,c,_⟩,_⟩:=I.tuple h;obtain⟨_,_,⟨o',n,e',c',_⟩,_⟩:=I.list h';rw[e]at e';cases e';rw[c]at c';exact absurd c' d!
mutual
theorem a2k(I:d_):∀(d d':D) (v:V),Bh d=true->Bh d'=true->Av X.K H d v->Av X.K H d' v->d=d'
 |.non,d',v,n,n',r,r'=>by
  cases eH r;cases d'<;>first
   |rfl
   |(unfold Av at r';cases r';done)
   |(obtain⟨a,vs,e,_⟩:=bQ r';cases e)
   |(obtain⟨a,vs,e,_⟩:=bP r';cases e)
   |(unfold Bh at n';cases n')
 |.bl b,d',v,n,n',r,r'=>by
  cases cV r;cases d'<;>first
   |(cases cV r';rfl;done)
   |(unfold Av at r';cases r';done)
   |(obtain⟨a,vs,e,_⟩:=bQ r';cases e)
   |(obtain⟨a,vs,e,_⟩:=bP r';cases e)
   |(unfold Bh at n';cases n')
 |.int b,d',v,n,n',r,r'=>by
  cases aY r;cases d'<;>first
   |(cases aY r';rfl;done)
   |(unfold Av at r';cases r';done)
   |(obtain⟨a,vs,e,_⟩:=bQ r';cases e)
   |(obtain⟨a,vs,e,_⟩:=bP r';cases e)
   |(unfold Bh at n';cases n')
 |.str b,d',v,n,n',r,r'=>by
  cases cJ r;cases d'<;>first
   |(cases cJ r';rfl;done)
   |(unfold Av at r';cases r';done)
   |(obtain⟨a,vs,e,_⟩:=bQ r';cases e)
   |(obtain⟨a,vs,e,_⟩:=bP r';cases e)
   |(unfold Bh at n';cases n')
 |.tup xs,d',v,n,n',r,r'=>by
  obtain⟨a,vs,rfl,q,rr⟩:=bQ r;cases d' with
  |tup ys=>
   obtain⟨a',gd,e,q',bv⟩:=bQ r';cases e;have:=I.tuple_inj q q';subst this;unfold Bh at n n';rw[xq!]
  |lst ys=>
   obtain⟨a',gd,e,q',bv⟩:=bP r';cases e;exact(vL I q q').elim
  |fn b=>unfold Bh at n';cases n'
  |dk b=>unfold Bh at n';cases n'
  |non=>cases eH r'
  |bl b=>cases cV r'
  |int b=>cases aY r'
  |str b=>cases cJ r'
 |.lst xs,d',v,n,n',r,r'=>by
  obtain⟨a,vs,rfl,q,rr⟩:=bP r;cases d' with
  |lst ys=>
   obtain⟨a',gd,e,q',bv⟩:=bP r';cases e;have:=I.list_inj q q';subst this;unfold Bh at n n';rw[xq!]
  |tup ys=>
   obtain⟨a',gd,e,q',bv⟩:=bQ r';cases e;exact(vL I q' q).elim
  |fn b=>unfold Bh at n';cases n'
  |dk b=>unfold Bh at n';cases n'
  |non=>cases eH r'
  |bl b=>cases cV r'
  |int b=>cases aY r'
  |str b=>cases cJ r'
 |.fn a,d',v,n,n',r,r'=>by unfold Bh at n;cases n
 |.dk a,d',v,n,n',r,r'=>by unfold Bh at n;cases n
theorem wC(I:d_):∀(ds es:c_) (vs:m_),Br ds=true->Br es=true->Am X.K H ds vs->Am X.K H es vs->ds=es
 |[],es,vs,n,n',r,r'=>by
  cases cX r;cases es with
  |nil=>rfl
  |cons e es=>obtain⟨v,t,z,_⟩:=bR r';cases z
 |d::ds,es,vs,n,n',r,r'=>by
  obtain⟨v,t,rfl,r1,r2⟩:=bR r;cases es with
  |nil=>cases cX r'
  |cons e es=>
   obtain⟨v',t',z,yu,yw⟩:=bR r';cases z;unfold Br at n n';rw[JG]at n n';rw[a2k I d e v n.1 n'.1 r1 yu,wC I ds es t n.2 n'.2 r2 yw]
end
mutual
theorem mT:∀d:D,Bh d=true->Ed d d=true
 |.non,_=>by simp[Ed]
 |.bl b,_=>by simp[Ed]
 |.int i,_=>by simp[Ed]
 |.str s,_=>by simp[Ed]
 |.tup xs,h=>by unfold Ed;exact sT xs xq_
 |.lst xs,h=>by unfold Ed;exact sT xs xq_
 |.fn a,h=>by simp[Bh]at h
 |.dk k,h=>by simp[Bh]at h
theorem sT:∀ds:List D,Br ds=true->Ij ds ds=true
 |[],_=>by simp[Ij]
 |d::ds,h=>by
  unfold Br at h;rw[JG]at h;unfold Ij;rw[mT d h.1,sT ds h.2];rfl
end
def a5x(I:d_)(d d':D)(v:V)(n:cO_)(n':fy!)(r:eu!)(r':Av X.K H d' v):Ed d d'=true:=by rw[<-a2k I d d' v n n' r r'];exact mT d n
def iR(A:yg!):A.in1.units=A.units+1:=rfl
def mX:∀(xs ys:c_),i!=ac!->((List.range i!).all λj=>Ed (xs.getD j .non) (ys.getD j .non))=Ij xs ys
 |[],[],_=>rfl
 |x::xs,y::ys,h=>by
  have ih:=mX xs ys kq_;unfold Ij;rw[IQ,List.range_succ_eq_map,OD,<-ih,List.all_map];rfl
 |[],_::_,h=>by simp at h
 |_::_,[],h=>by simp at h
def mU:∀(xs ys:c_),i!≠ac!->Ij xs ys=false
 |[],[],h=>absurd rfl h
 |x::xs,y::ys,h=>by
  unfold Ij;rw[mU xs ys kq_,RF]
 |[],_::_,_=>rfl
 |_::_,[],_=>rfl
def qN{ds es:c_}{us us':j!}(rd:hw_)(re:hx!)(rv:eP_)(ak:Be ws us')
  (h:∀(j:Nat) u u',us[j]?=some u->us'[j]?=some u'->SeqAt.EqAt A s u u' kr!):
  ∀j (h1:j<kr_) (h2:j<oV_),SeqAt.EqAt A s cH![j] oW![j] kr!:=λj h1 h2=>by
 have l1:j<au_:=by simpa using h1
 have l2:j<us'.length:=by simpa using h2
 exact h j _ _ (by simp[l1]) (by simp[l2])
def zQ{ds es:c_}{A:yg!}(I:d_)(qa:kq!)(qb:Fz X.K H b ws)(rd:hw_)(re:hx!)(hu:ar!)
  (h:ks!):SeqAt.RcAt A s P! d7! (Ij ds es):=by
 obtain⟨us,rv,p1,_⟩:=I.tuple qa;obtain⟨us',ak,p2,_⟩:=I.tuple qb;have h1:=aI rd;have h2:=aI re;have h3:=eX_;have h4:=kt_;have z:=SeqAt.RcAt.tuples (A:=A) (e:=ks_) p1 p2 hu kt!;have e:xr_=Ij ds es:=by
  show"#."
  .rw[hl,Nat.min_self,<-hl,ku!,hl];simp
  .rw[ku_];have:(f_==ag!)=false:=by simpa using hl
   rw[this,RF]
 rw[e]at z;exact z
def a6b{ds es:c_}{A:yg!}(I:d_)(qa:oW_)(qb:Fj X.K H b ws)(rd:hw_)(re:hx!)(hu:ar!)
  (h:ks!):SeqAt.RcAt A s P! d7! (Ij ds es):=by
 show"!B";have h4:=kt_;by_cases hl:f_=ag!
 .have z:=SeqAt.RcAt.lists (A:=A) (e:=ks_) p1.isList p2.isList oq_ hu kt!;rw[IF,<-h3,<-h1,ku!]at z;exact z
 .rw[ku_];exact SeqAt.RcAt.lists_lengths p1.isList p2.isList xs! hu
def c1l(I:d_)(q:kq!):∃items,s.heap.IsTuple a items:=let⟨its,_,p,_⟩:=I.tuple q;⟨_,p⟩
def b6i(I:d_)(q:oW_):∃items,s.heap.IsList a items:=let⟨its,_,p,_⟩:=I.list q;⟨_,p.isList⟩
inductive RV(X:Cx)(H:Hp)(s:yM!):D->Value->Prop
 |non:RV X H s .non .none
 |bl (b:Bool):RV X H s bM! md!
 |int (i:Int) (t:Tok):RV X H s bx_ dH_
 |str (x:Str) (t:Tok):RV X H s dP! lJ_
 |tup {xs:c_} {a:xY!} {its:O!}:s.heap.IsTuple a its->RV X H s be_ P!
 |lst {xs:c_} {a:xY!} {its:O!}:s.heap.IsList a its->RV X H s L! P!
def zN(I:d_)(n:cO_)(r:eu!)(ru:bw_):RV X H s d u:=by
 cases d with
 |non=>cases eH r;cases ru;exact .non
 |bl b=>cases cV r;cases ru;exact .bl b
 |int b=>cases aY r;obtain⟨t,rfl⟩:=ru;exact .int b t
 |str b=>cases cJ r;obtain⟨t,rfl⟩:=ru;exact .str b t
 |tup ys=>obtain⟨a,ws,rfl,q,_⟩:=bQ r;cases ru;obtain⟨its,p⟩:=c1l I q;exact .tup p
 |lst ys=>obtain⟨a,ws,rfl,q,_⟩:=bP r;cases ru;obtain⟨its,p⟩:=b6i I q;exact .lst p
 |fn a=>unfold Bh at n;cases n
 |dk a=>unfold Bh at n;cases n
def mV(I:d_){A:yg!}(n:cO_)(n':fy!)(hu:ar!)(r:eu!)(r':hx_)(ru:bw_)(au:hy!)(hT:∀xs ys,d=.tup xs->d'=.tup ys->SeqAt.EqAt A s u u' du!)(hL:∀xs ys,d=.lst xs->d'=.lst ys->SeqAt.EqAt A s u u' du!):SeqAt.EqAt A s u u' du!:=by
 show"!i"
 all_goals first|exact hT _ _ rfl rfl|exact hL _ _ rfl rfl|(unfold Ed;with_reducible first|exact .none_none|exact .same _|exact .none_bool _|exact .none_int _ _|exact .none_str _ _|exact .none_tuple ‹_› hu|exact .none_list ‹_› hu|exact .bool_none _|exact .bool_bool _ _|exact .bool_int _ _ _|exact .bool_str _ _ _|exact .bool_tuple _ ‹_› hu|exact .bool_list _ ‹_› hu|exact .int_none _ _|exact .int_bool _ _ _|exact .int_int _ _ _ _|exact .int_str _ _ _ _|exact .int_tuple _ _ ‹_› hu|exact .int_list _ _ ‹_› hu|exact .str_none _ _|exact .str_bool _ _ _|exact .str_int _ _ _ _|exact .str_str _ _ _ _|exact .str_tuple _ _ ‹_› hu|exact .str_list _ _ ‹_› hu|exact .tuple_none ‹_› hu|exact .tuple_bool _ ‹_› hu|exact .tuple_int _ _ ‹_› hu|exact .tuple_str _ _ ‹_› hu|exact .tuple_list ‹_› ‹_› hu|exact .list_none ‹_› hu|exact .list_bool _ ‹_› hu|exact .list_int _ _ ‹_› hu|exact .list_str _ _ ‹_› hu|exact .list_tuple ‹_› ‹_› hu)
def c8h(I:d_){A:yg!}(n:cO_)(n':fy!)(hu:ar!)(r:eu!)(r':hx_)(ru:bw_)(au:hy!)(hT:∀xs ys,d=.tup xs->d'=.tup ys->SeqAt.RcAt A s u u' du!)(hL:∀xs ys,d=.lst xs->d'=.lst ys->SeqAt.RcAt A s u u' du!):SeqAt.RcAt A s u u' du!:=by
 show"!i"
 all_goals first|exact hT _ _ rfl rfl|exact hL _ _ rfl rfl|(unfold Ed;with_reducible first|exact .none_none|exact .same _|exact .none_bool _|exact .none_int _ _|exact .none_str _ _|exact .none_tuple ‹_› hu|exact .none_list ‹_› hu|exact .bool_none _|exact .bool_bool _ _|exact .bool_int _ _ _|exact .bool_str _ _ _|exact .bool_tuple _ ‹_› hu|exact .bool_list _ ‹_› hu|exact .int_none _ _|exact .int_bool _ _ _|exact .int_int _ _ _ _|exact .int_str _ _ _ _|exact .int_tuple _ _ ‹_› hu|exact .int_list _ _ ‹_› hu|exact .str_none _ _|exact .str_bool _ _ _|exact .str_int _ _ _ _|exact .str_str _ _ _ _|exact .str_tuple _ _ ‹_› hu|exact .str_list _ _ ‹_› hu|exact .tuple_none ‹_› hu|exact .tuple_bool _ ‹_› hu|exact .tuple_int _ _ ‹_› hu|exact .tuple_str _ _ ‹_› hu|exact .tuple_list ‹_› ‹_› hu|exact .list_none ‹_› hu|exact .list_bool _ ‹_› hu|exact .list_int _ _ ‹_› hu|exact .list_str _ _ ‹_› hu|exact .list_tuple ‹_› ‹_› hu)
mutual
theorem c1y(I:d_):∀(d d':D) (A:yg!) (v v':V) (u u':yh!),Bh d=true->Bh d'=true->A.units+Hy d<cLine->Av X.K H d v->Av X.K H d' v'->Bq v u->Bq v' u'->SeqAt.EqAt A s u u' du!
 |.non,d',A,v,v',u,u',n,n',hu,r,r',ru,au=>mV I n n' a! r r' ru au bd! bd!
 |.bl _,d',A,v,v',u,u',n,n',hu,r,r',ru,au=>mV I n n' a! r r' ru au bd! bd!
 |.int _,d',A,v,v',u,u',n,n',hu,r,r',ru,au=>mV I n n' a! r r' ru au bd! bd!
 |.str _,d',A,v,v',u,u',n,n',hu,r,r',ru,au=>mV I n n' a! r r' ru au bd! bd!
 |.fn _,d',A,v,v',u,u',n,n',hu,r,r',ru,au=>mV I n n' a! r r' ru au bd! bd!
 |.dk _,d',A,v,v',u,u',n,n',hu,r,r',ru,au=>mV I n n' a! r r' ru au bd! bd!
 |.tup xs,d',A,v,v',u,u',n,n',hu,r,r',ru,au=>mV I n n' a! r r' ru au (λ_ ys e e'=>by
  cases e;subst e';obtain⟨a,vs,rfl,q,rr⟩:=bQ r;obtain⟨b,ws,rfl,q',bv⟩:=bQ r';cases ru;cases au;by_cases lm:a=b
  .subst lm;rw[xs_];exact .same _
  .unfold Bh at n n';unfold Hy at hu;unfold Ed;exact .of_refs lm (zQ I q q' rr bv a! λus us' rv ak=>lH I xs ys A.in1 vs ws us us' n n' fy_ rr bv rv ak)) bd!
 |.lst xs,d',A,v,v',u,u',n,n',hu,r,r',ru,au=>mV I n n' a! r r' ru au bd! (λ_ ys e e'=>by
  cases e;subst e';obtain⟨a,vs,rfl,q,rr⟩:=bP r;obtain⟨b,ws,rfl,q',bv⟩:=bP r';cases ru;cases au;by_cases lm:a=b
  .subst lm;rw[xs_];exact .same _
  .unfold Bh at n n';unfold Hy at hu;unfold Ed;exact .of_refs lm (a6b I q q' rr bv a! λus us' rv ak=>lH I xs ys A.in1 vs ws us us' n n' fy_ rr bv rv ak))
theorem lH(I:d_):∀(ds es:c_) (A:yg!) (vs ws:m_) (us us':j!),Br ds=true->Br es=true->A.units+Dj ds<cLine->Am X.K H ds vs->Am X.K H es ws->Be vs us->Be ws us'->
  ∀(j:Nat) u u',us[j]?=some u->us'[j]?=some u'->SeqAt.EqAt A s u u' kr!
 |[],es,A,vs,ws,us,us',n,n',hu,r,r',rv,ak,j,u,u',e,e'=>by
  cases cX r;cases rv;simp at e
 |d::ds,es,A,vs,ws,us,us',n,n',hu,r,r',rv,ak,j,u,u',e,e'=>by
  obtain⟨v,t,rfl,r1,r2⟩:=bR r;cases es with
  |nil=>
   cases cX r';cases ak;simp at e'
  |cons c es=>
   obtain⟨w,t',rfl,yu,yw⟩:=bR r';unfold Br at n n';rw[JG]at n n';unfold Dj at hu;cases rv with
   |cons pz nh=>
    cases ak with
    |cons ZH ZI=>
     cases j with
     |zero=>
      simp at e e';subst e e';exact c1y I d c A v w _ _ n.1 n'.1 a! r1 yu pz ZH
     |succ j=>
      exact lH I ds es A t t' _ _ n.2 n'.2 a! r2 yw nh ZI j u u' cX_ (by simpa using e')
end
def c8i(I:d_)(d d':D){A:yg!}(n:cO_)(n':fy!)(hu:xt!)(r:eu!)(r':hx_)(ru:bw_)(au:hy!):SeqAt.RcAt A s u u' du!:=
 c8h I n n' a! r r' ru au (λxs ys e e'=>by
  subst e e';obtain⟨a,vs,rfl,q,rr⟩:=bQ r;obtain⟨b,ws,rfl,q',bv⟩:=bQ r';cases ru;cases au;unfold Bh at n n';unfold Hy at hu;unfold Ed;exact zQ I q q' rr bv a! λus us' rv ak=>lH I xs ys A.in1 vs ws us us' n n' fy_ rr bv rv ak) (λxs ys e e'=>by
  subst e e';obtain⟨a,vs,rfl,q,rr⟩:=bP r;obtain⟨b,ws,rfl,q',bv⟩:=bP r';cases ru;cases au;unfold Bh at n n';unfold Hy at hu;unfold Ed;exact a6b I q q' rr bv a! λus us' rv ak=>lH I xs ys A.in1 vs ws us us' n n' fy_ rr bv rv ak)
def CG(K:yN!):R2:=λx y H Q=>∃dx dy,Av K H dx x/\Av K H dy y/\Bh dx=true/\Bh dy=true/\Hy dx<=40/\Q (.bl (Ed dx dy)) H
def cB(hu:ar_):Gr X (compareOp .Eq) (CG X.K):=by intro B s Z H x y v u Q I rx ry h;obtain⟨dx,dy,r1,r2,n1,n2,hd,q⟩:=h;exact c8i I dx dy n1 n2 a! r1 r2 rx ry X.prog X.w X.xe _ kv_
def Ax:D->D->Option D:=λx y=>if Bh x&&Bh y&&decide (Hy x<=40)then some (.bl (Ed x y))else none
def cC{K:yN!}:Ia K (CG K) Ax:=by
 show"!/";unfold Ax at e;show"!6"
 .show"!r";cases e;exact xu_
 .cases e
end
section
variable{X:Cx}{own:List Nat}{e a b c o i tg:Expr}{es:List Expr}{pos p2:Pos}{f fa fb fc fe:Ae->Option D}{fs fi:Ae->Option (List D)}{ft fu:Ae->Option Bool}
def Cb(g g':aW_)(fa fb fc:e!):Ae->Option D:=λρ=>(fr!).bind λx=>(j4_).bind λy=>(g x y).bind λz=>match z with
 |.bl true=>(fc ρ).bind λu=>g' y u
 |.bl false=>some S_
 |_=>none
def a8h{op fh:CmpOp}{r r':R2}{g g':aW_}(ho:b9_)(hg:ek!)(dh:iZ!)(sy:Ia X.K r' g')(ha:Y_)(hb:cM_)(L:DE X own c fc)
  (hm:iZ_:=by with_unfolding_all rfl):DE X own i0! xv_:=
 eM (b9l ho dh ha.ok hb.ok L.ok hm) λZ G H Q ρ d er e k=>by
  obtain⟨x,e1,e⟩:=HS.mp e;obtain⟨y,e2,e⟩:=HS.mp e;obtain⟨z,e3,e⟩:=HS.mp e;refine xw!;have nj:=s1.trans hh!;cases z<;>first|cases e|skip
  rename_i bb;cases cV r3;refine xw_;cases bb with
  |true=>
   obtain⟨u,e4,e⟩:=HS.mp e;exact mP ⟨G3,ρ,u,er.grow nj,e4,λq G4 H4 s4 r4=>sy s4.sub xx! r4 e λv G5 H5 s5 r5=>k v G5 H5 xx_ r5⟩
  |false=>
   cases e;exact mQ (k _ G3 H3 nj Av.bl)
def AX(f:e!):Ae->Option D:=λρ=>(al!).bind λd=>match d with|.int i=>some (.int (-i))|_=>none
def d0q(h:Y_):DE X own (.UnaryOp .USub a pos) (AX fa):=
 eM (d2f c7x h.ok) λZ G H Q ρ d er e k=>by
  obtain⟨x,e1,e⟩:=HS.mp e;cases x<;>first|cases e|skip
  refine fv_;cases aY r1;exact⟨_,rfl,k _ G1 H1 s1 Av.int⟩
def Kx:D->Bool
 |.non=>true
 |.bl _=>true
 |.int _=>true
 |.str _=>true
 |_=>false
def a7w{K:yN!}{H:Hp}(h:Kx d=true)(r:hb!):Nd v=true:=by
 cases d<;>first
  |(cases h;done)
  |(cases eH r;rfl)
  |(cases cV r;rfl)
  |(cases aY r;rfl)
  |(cases cJ r;rfl)
def c5y{K:yN!}{H:Hp}(h:Kx d=true)(h':Kx d'=true)(r:hb!)(r':Av K H d' v'):Yf v v'=Ed d d':=by
 cases d<;>first
  |(cases h;done)
  |skip
 all_goals (cases d'<;>first
  |(cases h';done)
  |skip)
 all_goals first
  |(cases eH r)
  |(cases cV r)
  |(cases aY r)
  |(cases cJ r)
 all_goals first
  |(cases eH r')
  |(cases cV r')
  |(cases aY r')
  |(cases cJ r')
 all_goals simp[Yf,Ed]
def a7y{K:yN!}{H:Hp}:∀{ds:c_} {vs:m_},ds.all Kx=true->Am K H ds vs->vs.all Nd=true
 |[],vs,_,r=>by cases cX r;rfl
 |d::ds,vs,h,r=>by
  obtain⟨v,t,rfl,r1,r2⟩:=bR r;rw[OD,JG]at h;rw[OD,JG];exact⟨a7w h.1 r1,a7y h.2 r2⟩
def a7x{K:yN!}{H:Hp}(Y:Kx x=true)(rx:Av K H x v):∀{ds:c_} {vs:m_},ds.all Kx=true->Am K H ds vs->DP v vs=ds.any λd=>Ed d x
 |[],vs,_,r=>by cases cX r;rfl
 |d::ds,vs,h,r=>by
  obtain⟨w,t,rfl,r1,r2⟩:=bR r;rw[OD,JG]at h;have ih:=a7x Y rx h.2 r2;unfold DP at ih ⊢;rw[NA,NA,ih,c5y h.1 Y r1 rx]
def AS:D->Option aL_
 |.tup xs=>some xs
 |.lst xs=>some xs
 |_=>none
def Ve(neg:Bool):D->D->Option D:=λx y=>(AS y).bind λds=>if Kx x&&ds.all Kx then some xy! else none
def d2o{K:yN!}{neg:Bool}:Ia K (FB K neg) (Ve neg):=by
 show"!/";show"!H"
 .rename_i h;rw[JG]at h;cases e;have fin:∀{p:xY!} {vs:m_},(Fj K H p vs\/Fz K H p vs)->Am K G ds vs->y=V.ref p->FB K neg x y H Q:=λ{p vs} q r ey=>by
   refine⟨p,vs,ey,q,a7w h.1 rx,a7y h.2 r,?_⟩;rw[a7x h.1 rx h.2 r];show"!p"
  cases dy<;>first|(cases e1;done)|skip
  .cases e1;obtain⟨p,vs,ey,q,r⟩:=bQ ry;exact fin (.inr hq!) r ey
  .cases e1;obtain⟨p,vs,ey,q,r⟩:=bP ry;exact fin (.inl oE!) r ey
 .cases e
structure Uq(X:Cx)(x:Str)(bn:aP!):Prop where
 ex:∃(ad:xY!) (kvs:n9_) (vs:List xy_),X.mg x=some kw_/\oX!=false/\(∀h:Heap,X.K.In h->h.DictOf (mixKind X.prog X.w) ad vs)/\KV kvs vs/\
  (∀y,Np kvs eu_=none↔bn.lookup y=none)/\∀y d,bn.lookup y=some d->∃v,Np kvs eu_=some v/\∀H,Av X.K H d v
def Zc(bn:aP!)(neg:Bool)(f:e!):Ae->Option D:=λρ=>(al!).bind λd=>match d with|.str y=>some (.bl (if neg then !(oX_).isSome else(oX_).isSome))|_=>none
def Wb(bn:aP!)(f:e!):Ae->Option D:=λρ=>(al!).bind λd=>match d with|.str y=>bn.lookup y|_=>none
def c6j{x:Str}{bn:aP!}(hd:Uq X x bn)(hg:S!)(ha:Y_)(bu:CW a)(be:F!:=by decide):DE X own (.Subscript dr! a pos) (Wb bn fa):=by
 show"#G";refine eM (t:=λZ H Q=>tD X.K own fa Z H λv H1=>∃y u,v=.str y/\Np kvs eu_=some u/\Q u H1) xz! λZ G H Q ρ d er e k=>?_
 .refine c3m PySem.F.slot_dict_getitem.lookup bu (kZ I hg j5 (dH xz_ λv s1 ⟨y,H1,I1,r1,z,u,hz,hu,q1⟩=>?_) be);subst hz;have dd:=yx _ I1.kIn;obtain⟨w',hw,ak⟩:=Oj.some_of (v:=u) (o:=valueAt vs oZ_) (by rw[<-hu];exact yz.val oZ_);have ty:s1.TypeIs kw_ "dict":=by
   obtain⟨o,es,ep,h1,h2,_⟩:=dd;exact⟨o,h1,h2.1⟩
  exact⟨ty,wpAny_getItem_of (knd:=xA!) (k:=o0!) xB! dd.mapOf hw ⟨u,H1,I1.tok _,ak,q1⟩⟩
 .obtain⟨x,e1,e⟩:=HS.mp e;cases x<;>first|(cases e;done)|skip
  rename_i y;obtain⟨v,hv,J⟩:=hs y d e;refine⟨G,ρ,_,er,e1,λw G1 H1 s1 r1=>?_⟩;cases cJ r1;exact⟨y,v,rfl,hv,k _ G1 H1 s1 (J G1)⟩
def Ok(P:yJ!)(w:ys!)(K:yN!)(mg:A!)(base:Heap)(k:Nat)(x:Str)(ps:r_)(g:ad!):Prop:=
 ∃hA fd,Fm P w K mg base Pz k hA fd ps kp_/\Ez K fd ps []/\mg x=some bY!/\W.keepIn K bY!=true
def aR{k:Nat}{ps:r_}{g:ad!}{x:Str}(F:xB_)(J:cc!)(hg:S!)(ha:hj!)(ao:wB_)
  (hn:wC_:=by rfl)(be:F!:=by decide)(he:ao_:=by rfl)(ax:aU_:=by rfl):
  DE X own bj! kc!:=by
 obtain⟨hA,fd,h1,h2,h3,h4⟩:=F;exact c6k h1 J hg h3 h4 h2 ha hn ao be he ax
def Zy(P:yJ!)(w:ys!)(K:yN!)(mg:A!)(base:Heap)(k n:Nat)(bn:o0_):Prop:=
 ∀hA g,bn hA=some g->∃fd ps,T_=n/\Fm P w K mg base Pz k hA fd ps kp_/\Ez K fd ps []/\W.keepIn K bY!=true
def Pa(bn:o0_)(i:Nat)(fs:aq_):Ae->Option D:=λρ=>(Aa i ρ).bind λd=>match d with|.fn hA=>(bn hA).bind λg=>(fs!).bind g|_=>none
def c2m{k n j:Nat}{bn:o0_}{x:Str}(F:Zy X.prog X.w X.K X.mg X.base k n bn)(J:cc!)(ha:hj!)(ao:wD!)
  (hj:j∉own:=by decide)(hN:vL!:=by rfl)(hv:c2_:=by first|exact Or.inl rfl|exact Or.inr b!|exact Or.inr aM!)(be:F!:=by decide)(bx:c3!:=by decide)
  (he:ao_:=by rfl)(ax:aU_:=by rfl):
  DE X own bj! (Pa bn j fs):=⟨by
 intro B s Z H Q I h;obtain⟨G,ρ,d,er,e1,kk⟩:=h;obtain⟨z,e2,e1⟩:=HS.mp e1;cases z<;>first|(cases e1;done)|skip
 rename_i hA;obtain⟨g,e3,e1⟩:=HS.mp e1;obtain⟨ds,e4,e1⟩:=HS.mp e1;obtain⟨fd,ps,lp,F1,F2,F3⟩:=F hA g e3;obtain⟨v,h1,h2⟩:=er.at_ j _ (join_some e2) hj;cases fX h2;refine NE (dH (oQ hN hv be bx B s Z H (λu H'=>u=.ref hA/\H'=H) I ⟨_,h1,rfl,rfl⟩) λu s1 ⟨y,H1,I1,r1,hy,hH⟩=>?_);subst hy hH;cases r1;refine W.callWith_K (h₀:=X.base) I1.ok.mod.kin F3 (dH (ha.ok pos B s1 Z H1 _ I1 ⟨G,ρ,ds,er,e4,λvs G2 H2 s2 r2=>(?_:(λvs H2=>Yo X.K ps.length g vs H2 Q E0) vs H2)⟩) λus s2 ⟨vs,H2,I2,r2,q2⟩=>tI_) he ax
 .exact⟨by rw[<-aI r2,ao ρ ds e4,lp],G2,ds,d,s2.sub,r2,e1,λv G3 H3 s3 r3=>kk v G3 H3 hh! r3⟩
 .exact a2j (dvs:=[]) (ds:=[]) F1 J F2 .nil wF I2 r2 (by rw[JA];exact q2)⟩
def EA(x:Str):It:=⟨xC_,λi H v H'=>H'=H/\∃c,x.cps[i]?=some c/\v=.str ap_,xD!⟩
def AU(f:e!):Ae->Option aL_:=λρ=>(al!).bind λd=>match d with|.str x=>some xD_|_=>none
def c5l{K:yN!}{G1:Hp}{x:Str}:Zj K (EA x) xD_ G1:=by intro i G' H' s1 s2;refine⟨es!,λhi=>by rw[IP,KH]at hi;exact PU hi.symm⟩;rw[JM]at hd;obtain⟨c,L,rfl⟩:=IG.mp hd;rw[NZ]at L;refine xE!;obtain⟨e1,c',bq,e2⟩:=hy;subst e1;rw[L]at bq;cases bq;subst e2;exact⟨G',kk!,Av.str⟩
def a5h{K:yN!}{x:Str}{St':dS_}(hd:xE_)
  (W:∀A':Around,o1_=none->Walks P w A' it [it] [it] x.cps.size (SignAt x) St')(ZJ:∀(A:yg!) (i:Nat) (s:yM!) (Q:p!) (E:p!),St' i s.heap->Q b8_ s->wpAny L_ A (pyIter b8_) Q E s):
  Td P w K hz_ (EA x) [it] it xF! where
 mem:=by simp
 obj:=λi h st b hb=>by
  have e:b=it:=by simpa using hb
  subst e;exact hd i h st.2
 keep:=λi h h' st k=>⟨st.1,by
  have Wd:=W callerA rfl;exact Wd.frame i h h' st.2 λb hb o e=>k b hb o e⟩
 item:=by
  show"!0";show"!2";refine(W X.A a4!).item i s _ _ hg st.2 λv h' tk hv hx kk=>?_;obtain⟨cc,u,gk,rfl⟩:=hv;show"!^";exact⟨_,rfl,HU ⟨.str ⟨#[cc]⟩,H,I1,⟨u,rfl⟩,⟨rfl,cc,gk,rfl⟩,⟨hg,hx⟩,mB_⟩⟩
 done:=by
  show"!0";show"!2";show"#E";exact(W X.A a4!).done s _ _ st.2 λh' tk kk=>⟨rfl,I.turned mC_ f0 f1 f3 f4 f5⟩
 self:=λA i s Q E st h=>ZJ A i s Q E st.2 h
def c8n{tl:TE}(hl:PE X a tl):PI X hz_ a (λZ H R=>tl Z H λv H1=>∃x,v=.str x/\R (EA x) H1):=by
 intro B s Z H R I h;refine dH sn! λv s1 ⟨u,H1,I1,r1,x,Y,q⟩=>?_;subst Y;obtain⟨t,rfl⟩:=r1;have VJ:∀(ty:String) (i:Nat) (h:Heap),h.IsStrIter s1.heap.objs.size ty x t i->∃o,h.get? z!=some o/\∀v,o.data≠.cell v:=λty i h st=>by
  show"!~"
 have fin:∀(ob:Obj) (St':dS_),Td X.prog X.w X.K hz_ (EA x) [z!] s1.heap.objs.size xF!->St' 0 (s1.heap.push ob)->
   DX X B Z hz_ R (.ref z!) {s1 with heap:=s1.heap.push ob}:=λob St' T st=>by
  refine⟨z!,[z!],_,_,H1,rfl,mD!,T,⟨KC _,st⟩,aS!,q⟩;have e:b=z!:=by simpa using hb
  show"!m"
 cases ha:x.cps.all (·<128)with
 |false=>
  exact wpAny_pyIter_wide ha (fin _ _ (a5h xG! (λA' O=>Walks.strWide O _ x t) λA i s Q E st h=>wpAny_pyIter_striter_wide st h) eY!)
 |true=>
  exact wpAny_pyIter_ascii ha (fin _ _ (a5h xG! (λA' O=>Walks.strAscii O _ x t) λA i s Q E st h=>wpAny_pyIter_striter_ascii st h) eY!)
def d0l(h:Y_):DI X own hz_ a (AU fa):=a8e (c8n h.ok) λZ G H R ρ ds er e k=>by
 obtain⟨d,e1,e2⟩:=HS.mp e;cases d with
 |str x=>
  cases e2;refine fv_;cases cJ r1;exact⟨x,rfl,k _ G1 H1 s1 c5l⟩
 |_=>cases e2
def zG:∀{ys:r_} {us:j!},Be xG_ us->StrsAre us ys
 |[],_,.nil=>.nil
 |y::ys,_,.cons r t=>by
  obtain⟨k,rfl⟩:=r;exact .cons y k (zG t)
def BX(K:yN!):V->List V->Hp->VK->Prop:=λx vs H Q=>∃(z:Str) (p:xY!) (ys:r_),x=.str z/\vs=gY!/\Fj K H p xG_/\(kA!).sum+ac!*ju_<=16777216/\Q xH_ H
def b3m:GQ X "str.join" (BX X.K):=by intro B s Z H x xs v us Q I rx r h;obtain⟨z,p,ys,rfl,rfl,hq,hz,q⟩:=h;obtain⟨t,rfl⟩:=rx;obtain⟨u,rfl,r1⟩:=tH r;cases r1;obtain⟨its,rv,pl,_⟩:=I.list hq;exact join_list pl.isList (by simpa using zG rv) hz λt' k=>⟨.str _,H,a2!,H!,q⟩
def Qg:List D->Option (List Str)
 |[]=>some []
 |.str x::r=>(Qg r).map (x::·)
 |_=>none
def vZ{K:yN!}{H:Hp}:∀{ds:c_} {vs:m_} {ys:r_},Am K H ds vs->Qg ds=some ys->vs=ys.map V.str
 |[],vs,ys,r,e=>by cases cX r;cases e;rfl
 |d::ds,vs,ys,r,e=>by
  obtain⟨v,t,rfl,r1,r2⟩:=bR r;cases d<;>first|(cases e;done)|skip
  obtain⟨ZK,e1,rfl⟩:=IG.mp e;cases cJ r1;rw[vZ r2 e1];rfl
def Nc:D->D->Option D
 |.str z,.lst xs=>(Qg xs).bind λys=>if(kA!).sum+ac!*ju_<=big then some xH_ else none
 |_,_=>none
def Xu(fo fa:e!):Ae->Option D:=λρ=>(fo ρ).bind λx=>(fr!).bind λy=>Nc x y
def c6h{fo:e!}{aj ag:Pos}(ho:DE X own o fo)(ha:Y_)
  (gu:attributeBase o "join" X.env dR!=eval o X.env:=by rfl)
  (gw:((o3!).all cF_&&(cF!).all cG!
   &&decide o3_)=true:=by rfl)
  (g7:ea!:=by rfl) (hs:kk_:=by rfl) (g8:hv!:=by rfl):
  DE X own (.Call (.Attribute o "join" aj) [a] [] ag) (Xu fo fa):=
 eM (zS PySem.F.plainAttrs_str PySem.F.slot_str_join PySem.F.type_str_join b3m ho.ok xJ_ gu gw g7 hs g8) λZ G H Q ρ d er e k=>by
  show"!;";obtain⟨y,e2,e⟩:=HS.mp e;unfold Nc at e;show"!6"
  .obtain⟨ys,e3,e⟩:=HS.mp e;show"!6"
   .show"!G";refine fv_;cases cJ r1;refine⟨rfl,G1,ρ,_,dn_,e2,xK!⟩;obtain⟨p,vs,rfl,q,rr⟩:=bP r2;have:=vZ rr e3;subst this;exact⟨_,p,ys,rfl,rfl,s2.sub.seq q,JL hl b_,k _ G2 H2 dp! Av.str⟩
   .cases e
  .cases e
end
section
variable{prog:yJ!}{w:ys!}{A:yg!}{E:Value->Shared->Prop}{s:yM!}
def a2v{n:Nat}{xs:O!}{Q:p!}(g1:xK_)(g2:xL!)(g3:xs[n]?=some v)
  (k:∀h',h'.IsTupleIter jt tt cO!->Heap.SameBut jt s.heap h'->Q v {s with heap:=h'}):wpAny q_ A xL_ Q E s:=by
 show"!8";show"!Z";refine HR (RY eo ed d! (HU ⟨v,rfl,HU (k _ ?_ ew_)⟩));exact⟨_,OK _ eo (Obj.isFreed_of_fields (QP ed _)),(xO_).trans ec,by rw[QP ed];simp[rawInt]⟩
def wM{n:Nat}{xs:O!}{Q:p!}(hh:cC_)(g1:xK_)(g2:xL!)(g3:xs[n]?=none)
  (k:∀h' e,Heap.ExtBut jt s.heap h'->(∃o,h'.get? e=some o/\o.cls=.type "StopIteration")->E aZ! {s with heap:=h'}):wpAny q_ A xL_ Q E s:=by
 show"!8";show"!Z";refine HR (LV (HR (RY eo ed d! ?_)));refine HR ?_;simp only[newExc,newTuple];refine HR (LI ?_ hB!);refine HR (m:=xP_) (wpAny_of_eq (a:=dI!) xQ! ?_);refine LI ?_ hB!;simp only[raiseNew];refine HR xR!
 first|rw[xR_]|rw[hh]
 refine HR xS!;exact k _ _ xS_ kB_
def cH{h h':Heap}{n:Nat}(x:h.IsTupleIter aa tt n)(hs:Heap.ExtBut bb h h')(ne:aa≠bb):h'.IsTupleIter aa tt n:=let⟨ob,eo,r⟩:=x;⟨ob,hs _ _ ne eo,r⟩
def a8w{TI TO:xY!}{k1 k2:Nat}{xs ys:O!}{Q:p!}(D:kC_)
  (gz:kD!)(gI:kD_)(gO:kE!)
  (g1:kE_)(g2:kF!)(ip:hB_)(iy:hC!)(gx:xT!)(gy:xT_)
  (kk:∀h',IsZip h' z TI TO (rawInt k_)->IsPair h' TO x y->h'.IsTupleIter i1 l1 (k1+1)->h'.IsTupleIter i2 l2 (k2+1)->IsPair h' s.heap.objs.size x y->
   kF_->Q bA! {s with heap:=h'}):
  wpAny q_ A xU_ xV! E s:=by
 show"!v";show"!E";refine HR xY_
 replace lu:IsZip h1 z TI TO .ellipsis:=lu
 refine HR ?_;simp only[QR,QY,NY,PZ];refine HR kG_;refine HR xZ_;have s9:IsPair h2 TO p q:=bi.extBut _ _ D.TOi1 x0_;refine HR x2_;refine HR x1!
 replace v7:IsPair h3 TO x q:=v7
 refine HR (RC ab_);refine HR kG_;refine HR (a2v x3! x3_ gy λh4 ZL jq=>HU ?_);have VM:IsPair h4 TO x q:=jq.extBut _ _ D.TOi2 v7;refine HR (NJ VM rfl ?_);refine HR (RU VM λh5 v8 l8=>?_)
 replace v8:IsPair h5 TO x y:=v8
 refine HR (RC (HU ab_));refine HR (NJ v8 rfl ?_);refine HR (RZ ?_);have sz:kH!=k_:=by rw[l8.1,jq.1,de.1,bi.1,b8.1]
 have VN:IsZip h5 z TI TO .ellipsis:=l8.extBut _ _ D.TOz.symm (jq.extBut _ _ D.i2z.symm x4!);have ZM:∀c ob,c≠z->c≠TO->c≠i1->c≠i2->s.heap.get? c=some ob->h5.get? c=some ob:=λc ob c1 c2 c3 c4 e=>l8.extBut _ _ c2 (jq.extBut _ _ c4 (de.extBut _ _ c2 (bi.extBut _ _ c3 (b8.extBut _ _ c1 e))));have ZN:h5.IsTupleIter i1 l1 (k1+1):=cH (cH (cH VL de.extBut D.TOi1.symm) jq.extBut D.i12) l8.extBut D.TOi1.symm;have ZO:h5.IsTupleIter i2 l2 (k2+1):=cH ZL l8.extBut D.TOi2.symm;have VO:z<kH!:=JB VN;refine HR ?_;unfold Builtin.SmallTypes.ownedTupleHandOut;have ZP:IsZip (h5.push {cls:=.type "tuple",data:=.seq #[x,y]}) z TI TO .ellipsis:=HX _ VN;refine HR (LL ZP d! λh7 y8 VP=>?_)
 replace y8:IsZip h7 z TI TO (rawInt kH!):=y8
 refine LL y8 d! λh8 v9 VQ=>?_
 replace v9:IsZip h8 z TI TO (rawInt kH!):=v9
 have up:∀c ob,c≠z->h5.get? c=some ob->h8.get? c=some ob:=λc ob c1 e=>VQ.extBut _ _ c1 (VP.extBut _ _ c1 (HX _ e));have VR:IsPair h8 h5.objs.size x y:=VQ.extBut _ _ (OO VO) (VP.extBut _ _ (OO VO) o6_);rw[sz]at v9 VR;refine HU o7!;rw[sz];obtain⟨wc,ZQ,r1⟩:=ZN;obtain⟨p5,ZR,r2⟩:=ZO;exact kk h8 v9 (up _ _ D.TOz v8) ⟨wc,up _ _ D.i1z ZQ,r1⟩ ⟨p5,up _ _ D.i2z ZR,r2⟩ VR λc ob c1 c2 c3 c4 e=>up c ob c1 (ZM c ob c1 c2 c3 c4 e)
def b4l{TI TO:xY!}{k1 k2:Nat}{xs ys:O!}{Q:Fin->Shared->Prop}(hh:cC_)(D:kC_)
  (gz:kD!)(gI:kD_)(gO:kE!)
  (g1:kE_)(g2:kF!)(ip:hB_)(iy:hC!)(ge:x6!)
  (kk:∀h' e,kF_->(∃ob,h'.get? e=some ob/\ob.cls=.type "StopIteration")->E aZ! {s with heap:=h'}):
  wpAny q_ A xU_ Q E s:=by
 show"!v";show"!E";refine HR xY_
 replace lu:IsZip h1 z TI TO .ellipsis:=lu
 refine HR ?_;simp only[QR,QY,NY,PZ];refine HR kG_;cases gx:xs[k1]? with
 |none=>
  refine HR (wM hh xZ! x0! gx λh2 e bi he=>?_);obtain⟨oe,nu,td⟩:=he;have VS:IsZip h2 z TI TO .ellipsis:=bi _ _ D.i1z.symm lu;have y9:e≠z:=λx=>by subst x;rw[VS]at nu;cases nu;simp at td
  refine LL VS d! λh3 _ de=>kk h3 e (λc ob c1 _ c3 _ x=>de.extBut _ _ c1 (bi _ _ c3 x6_)) ⟨oe,de.extBut _ _ y9 nu,td⟩
 |some x=>
  have gy:ys[k2]?=none:=by
   obtain h|h:=ge
   .rw[gx]at h;cases h
   .exact h
  refine HR xZ_;have s9:IsPair h2 TO p q:=bi.extBut _ _ D.TOi1 x0_;refine HR x2_;refine HR x1!;refine HR (RC ab_);refine HR kG_;refine HR (wM hh x3! x3_ gy λh4 e jq he=>?_);obtain⟨oe,nu,td⟩:=he;have VT:IsZip h4 z TI TO .ellipsis:=jq _ _ D.i2z.symm x4!;have y9:e≠z:=λx=>by subst x;rw[VT]at nu;cases nu;simp at td
  refine LL VT d! λh5 _ l8=>kk h5 e (λc ob c1 c2 c3 c4 x=>l8.extBut _ _ c1 (jq _ _ c4 (de.extBut _ _ c2 (bi.extBut _ _ c3 x6_)))) ⟨oe,l8.extBut _ _ y9 nu,td⟩
def a9u{TI TO:xY!}{k1 k2:Nat}{xs ys:O!}{p:yh!}{Q:cQ!}(D:kC_)
  (gz:kD!)(gI:kD_)(gO:kE!)
  (g1:kE_)(g2:kF!)(ip:hB_)(iy:hC!)(gx:xT!)(gy:xT_)
  (kk:∀h',IsZip h' z TI TO (rawInt k_)->IsPair h' TO x y->h'.IsTupleIter i1 l1 (k1+1)->h'.IsTupleIter i2 l2 (k2+1)->IsPair h' s.heap.objs.size x y->
   kF_->Q (some bA!) {s with heap:=h'}):
  wpAny q_ A (pyNext hD!) Q E s:=by
 have gT:s.TypeIs hD! "zip":=Bg!;unfold pyNext;exact HR (OM (KB (name:=fB!) gT RS (JR RS gT x8!
  (a8w D gz gI gO g1 g2 ip iy gx gy λh' a1 a2 a3 a4 a5 a6=>HU (kk h' a1 a2 a3 a4 a5 a6)) x7_)))
def yK{TI TO:xY!}{k1 k2:Nat}{xs ys:O!}{p:yh!}{Q:cQ!}(hh:cC_)(D:kC_)
  (gz:kD!)(gI:kD_)(gO:kE!)
  (g1:kE_)(g2:kF!)(ip:hB_)(iy:hC!)(ge:x6!)
  (kk:∀h',kF_->Q none {s with heap:=h'}):wpAny q_ A (pyNext hD!) Q E s:=by
 have gT:s.TypeIs hD! "zip":=Bg!;unfold pyNext;refine HR (OM (KB (name:=fB!) gT RS (JR RS gT x8!
  (b4l hh D gz gI gO g1 g2 ip iy ge λh' e hk he=>?_) x7_)))
 obtain⟨ob,ho,L⟩:=he;exact HR (wpAny_isInstance (T:=o7_) (b:=true) ⟨ob,ho,L⟩ isSubtype_stop (HU (kk _ hk)))
abbrev DH(h:Heap)(l1:xY!):Heap:=h.push {cls:=.type "tuple_iterator",data:=.fields #[.ref l1,.int 0 0]}
abbrev DF(h:Heap)(l1 l2:xY!):Heap:=(DH h l1).push {cls:=.type "tuple_iterator",data:=.fields #[.ref l2,.int 0 0]}
abbrev DD(h:Heap)(l1 l2:xY!):Heap:=(DF h l1 l2).push {cls:=.type "tuple",data:=.seq #[.ref cY_,.ref (DH h l1).objs.size]}
abbrev DC(h:Heap)(l1 l2:xY!):Heap:=(DD h l1 l2).push {cls:=.type "tuple",data:=.seq #[.none,.none]}
abbrev BE(h:Heap)(l1 l2:xY!):Heap:=(DC h l1 l2).push {cls:=.type "zip",data:=.fields #[.none,.bool false,.bool false,.ref (DF h l1 l2).objs.size,.ref (DD h l1 l2).objs.size]}
def b0m(l1 l2:xY!)(xs ys:O!):
  Meets (Builtin.«zip.__new__» ⟨[.type "zip",.ref l1,.ref l2],[]⟩) (λ_ R s=>s.heap.IsTuple l1 xs/\s.heap.IsTuple l2 ys/\R (.ok (.ret (.ref (o8_).objs.size))) {s with heap:=BE s.heap l1 l2}):=
 .of_wp λprog w A R s h=>by
  obtain⟨hp,g,d,tk,os⟩:=s;obtain⟨ip,iy,h⟩:=h;have hsub:=sub_zip;have ZS:Heap.IsTuple (Shared.heap fD_) l1 xs:=ip;have ZT:Heap.IsTuple (Shared.heap ⟨hp.push {cls:=.type "tuple_iterator",data:=.fields #[.ref l1,.int 0 0]},g,d,tk,os⟩) l2 ys:=let⟨ob,eo,r⟩:=iy;⟨ob,HX _ eo,r⟩
  wp_walk using wpAny_pyIter_tuple ZS,wpAny_pyIter_tuple ZT
  exact⟨_,rfl,h⟩
def c2y{xs ys:O!}{Q:p!}(ip:hB_)(iy:hC!)
  (kk:∀h',IsZip h' (k_+4) (k_+2) (k_+3) .none->IsPair h' (k_+2) bA! (.ref ae!)->
   IsPair h' (k_+3) .none .none->h'.IsTupleIter s.heap.objs.size l1 0->h'.IsTupleIter ae! l2 0->(∀c ob,s.heap.get? c=some ob->h'.get? c=some ob)->Q (.ref (k_+4)) {s with heap:=h'}):
  wpAny q_ A (call o9! [.ref l1,.ref l2]) Q E s:=by
 refine callType_new F.called_zip b_ (F.typeCall_zip_2 _ _) (F.newCall_zip_2 _ _) (λobj=>F.args_object_init_3 obj _ _) F.entry_zip_new (b0m l1 l2 xs ys) ⟨ip,iy,?_⟩;have z1:(ya!).objs.size=k_+1:=OA ..;have z2:(ya_).objs.size=k_+2:=by rw[OA,z1]
 have z3:(yb!).objs.size=k_+3:=by rw[OA,z2]
 have z4:(o8_).objs.size=k_+4:=by rw[OA,z3]
 have y5:(hE!).get? (o8_).objs.size=some _:=IY _ rfl;have y4:(hE!).get? (yb!).objs.size=some _:=HX _ o6_;have y3:(hE!).get? (ya_).objs.size=some _:=HX _ o9_;have y2:(hE!).get? (ya!).objs.size=some _:=HX _ (HX _ o9_);have y1:(hE!).get? k_=some _:=HX _ (HX _ (HX _ o9_));show _/\_;rw[z2,z3,z4]at y5;rw[z1,z2]at y3;rw[z3]at y4;rw[z1]at y2;rw[z4];exact⟨⟨_,y5,rfl⟩,kk _ y5 y3 y4 ⟨_,y1,rfl,rfl⟩ ⟨_,y2,rfl,rfl⟩ λc ob x=>HX _ (HX _ (HX _ (HX _ (HX _ x))))⟩
end
def DZ(K:yN!)(a b:xY!):It:=
 ⟨λi H=>∃xs ys x y,Fz K H a xs/\Fz K H b ys/\xs[i]?=some x/\ys[i]?=some y,
   λi H v H'=>∃T,v=.ref T/\H T=none/\∀xs ys,Fz K H a xs->Fz K H b ys->∃x y,xs[i]?=some x/\ys[i]?=some y/\H'=upd H T (.tup [x,y]),
   λi H=>∃xs ys,Fz K H a xs/\Fz K H b ys/\(i!<=i\/ac!<=i)⟩
def b4q{w:ys!}{K:yN!}{jr:bL_}{n1:Nat}{tp:Pos}{a b TI TO:xY!}(D:ZipApart z TI TO i1 i2 a b):
  Td P w K fE! (DZ K a b) [z,TI,TO,i1,i2] z (λi h=>IsZip h z TI TO .none/\IsPair h TI (.ref i1) (.ref i2)/\(∃p q,IsPair h TO p q)/\h.IsTupleIter i1 a i/\h.IsTupleIter i2 b i) where
 mem:=by simp
 obj:=λi h st c L=>by
  obtain⟨s1,s2,⟨p,q,s3⟩,⟨o4,s4,c4,d4⟩,⟨o5,s5,c5,d5⟩⟩:=st;simp only[HY,JK,LC]at L;obtain rfl|rfl|rfl|rfl|rfl:=L
  .exact⟨_,s1,pa_⟩
  .exact⟨_,s2,pa_⟩
  .exact⟨_,s3,pa_⟩
  .exact⟨o4,s4,λv y=>by rw[d4]at y;cases y⟩
  .exact⟨o5,s5,λv y=>by rw[d5]at y;cases y⟩
 keep:=λi h h' st k=>by
  obtain⟨s1,s2,⟨p,q,s3⟩,⟨o4,s4,r4⟩,⟨o5,s5,r5⟩⟩:=st;exact⟨k z d! _ s1,k TI d! _ s2,⟨p,q,k TO d! _ s3⟩,⟨o4,k i1 d! _ s4,r4⟩,⟨o5,k i2 d! _ s5,r5⟩⟩
 item:=by
  intro X hP hw hK L i B s Z H E I hf st hg;subst hP hw hK;obtain⟨xs,ys,x,y,qa,qb,Y,hy⟩:=hg;obtain⟨s1,s2,⟨p,q,s3⟩,s4,s5⟩:=st;obtain⟨ia,ra,ta,za⟩:=I.tuple qa;obtain⟨ib,rb,tb,zb⟩:=I.tuple qb;obtain⟨u,hu,ru⟩:=ra.get Y;obtain⟨v,hv,rv⟩:=rb.get hy;refine a9u D s1 s2 s3 s4 s5 ta tb (x:=u) (y:=v) sl_ jo! λh' a1 a2 a3 a4 a5 a6=>?_;refine⟨_,rfl,wpAny_letOwnedTupleGo_zip (s:=mA_) a1 λh2 b1 bi=>?_⟩;have p6:Heap.SameBut z h' h2:=bi;have neT:∀c o,s.heap.get? c=some o->k_≠c:=λc o e=>OO c0!;have fz:=hf z d!;have fO:=hf TO d!;have f1:=hf i1 d!;have f2:=hf i2 d!;have I1:Inv X B Z H {s with heap:=h2,toks:=s.toks}:=by
   have pi:∀(c:xY!),c∈fE_->H c=none:=λc L=>by
    simp only[HY,JK,LC]at L;obtain rfl|rfl|rfl|rfl:=L
    .exact fz.1
    .exact fO.1
    .exact f1.1
    .exact f2.1
   have kp:∀c o,c∉fE_->s.heap.get? c=some o->h2.get? c=some o:=λc o L e=>by
    simp only[HY,JK,LC,PD]at L;exact p6.extBut _ _ L.1 (a6 c o L.1 L.2.1 L.2.2.1 L.2.2.2 e)
   refine I.step (g':=s.gens) (d':=s.drawn) (ch:=fE_) hF! pb! pb_ iv! pc! iv_ iw! pc_ iw_ hF_ I.bare
   .simp only[HY,JK,LC]at L;obtain rfl|rfl|rfl|rfl:=L
    .exact yd_
    .exact ye!
    .exact ye_
    .exact yf!
   .show"!a"
   .refine(pe!).stay pe_ pf! λ_ _ e'=>e';have hn:=pi d hm;obtain rfl|hd:=hd
    .rw[hn]at e;cases e
    .rw[hn]at hd;cases hd
  have tf:H k_=none:=I.hok.fresh x_;have eT:h2.get? k_=some {cls:=.type "tuple",data:=.seq #[u,v]}:=p6.extBut _ _ (neT z _ s1) a5;have I2:Inv X B Z (upd H s.heap.objs.size (.tup [x,y])) {s with heap:=h2,toks:=s.toks}:=by
   have ne:∀c o,H c=some o->c≠k_:=λc o e=>cL e tf;have ZU:∀p∈X.pn++B,p.1≠k_:=λp hp=>JP si!;refine Inv.step (s:={s with heap:=h2,toks:=s.toks}) (g':=s.gens) (d':=s.drawn) (t':=s.toks) (h':=h2) (ch:=[k_]) I1 hF! yi! yi_ yj! yj_
    (yk!) yk_ yl! nZ! hF_ I1.bare
   .have e:c=k_:=by simpa using L
    subst e;exact⟨.inr I.sz,OO I.lt,λx c h=>(λz=>by obtain⟨v,o,ho,_⟩:=I.cell x c h;rw[z]at ho;exact absurd ir_ dK!),ZU⟩
   .rw[nZ_];exact n
   .by_cases hb:c=k_
    .show"!w";exact⟨by show 2<=sizeLine;rw[KJ];decide,[u,v],.cons ru (.cons rv .nil),⟨_,eT,rfl,_,rfl⟩⟩
    .rw[aW hb]at e;exact(ym!).stay n0! ym_ λd xs q=>by rw[pg_];exact q
  refine⟨df!,_,I2,rfl,⟨_,rfl,tf,λiz ZK kh tj=>⟨x,y,?_,?_,rfl⟩⟩,⟨b1,p6.extBut _ _ D.TIz (a6 TI _ D.TIz D.TITO D.TIi1 D.TIi2 s2),⟨u,v,p6.extBut _ _ D.TOz a2⟩,cH a3 p6.extBut D.i1z,cH a4 p6.extBut D.i2z⟩,kI_⟩
  .rw[I.tuple_inj kh qa];exact Y
  .rw[I.tuple_inj tj qb];exact hy
  .have zc:=(hf c L).1;have bq:∃o,s.heap.get? c=some o:=by
    obtain⟨o4,t4,_⟩:=s4;obtain⟨o5,t5,_⟩:=s5;simp only[HY,JK,LC]at L;obtain rfl|rfl|rfl|rfl|rfl:=L
    .exact⟨_,s1⟩
    .exact⟨_,s2⟩
    .exact⟨_,s3⟩
    .exact⟨_,t4⟩
    .exact⟨_,t5⟩
   obtain⟨o,ho⟩:=bq;rw[aW (IB (neT c o ho))];exact zc
 done:=by
  intro X hP hw hK L i B s Z H E I hf st hg;subst hP hw hK;obtain⟨xs,ys,qa,qb,ZV⟩:=hg;obtain⟨s1,s2,⟨p,q,s3⟩,s4,s5⟩:=st;obtain⟨ia,ra,ta,za⟩:=I.tuple qa;obtain⟨ib,rb,tb,zb⟩:=I.tuple qb;have l1:=ra.length;have l2:=rb.length;refine yK a4! D s1 s2 s3 s4 s5 ta tb (by
   obtain h|h:=ZV
   .left;simp;omega
   .right;simp;omega) λh2 a6=>j_
  have fz:=hf z d!;have fO:=hf TO d!;have f1:=hf i1 d!;have f2:=hf i2 d!;have pi:∀(c:xY!),c∈fE_->H c=none:=λc L=>by
   simp only[HY,JK,LC]at L;obtain rfl|rfl|rfl|rfl:=L
   .exact fz.1
   .exact fO.1
   .exact f1.1
   .exact f2.1
  have kp:∀c o,c∉fE_->s.heap.get? c=some o->h2.get? c=some o:=λc o L e=>by
   simp only[HY,JK,LC,PD]at L;exact a6 c o L.1 L.2.1 L.2.2.1 L.2.2.2 e
  refine I.step (g':=s.gens) (d':=s.drawn) (t':=s.toks) (ch:=fE_) hF! pb! pb_ iv! pc! iv_ iw! pc_ iw_ hF_ I.bare
  .simp only[HY,JK,LC]at L;obtain rfl|rfl|rfl|rfl:=L
   .exact yd_
   .exact ye!
   .exact ye_
   .exact yf!
  .show"!a"
  .refine(pe!).stay pe_ pf! λ_ _ e'=>e';have hn:=pi d hm;obtain rfl|hd:=hd
   .rw[hn]at e;cases e
   .rw[hn]at hd;cases hd
 self:=λA i s Q E st h=>wpAny_pyIter_zip st.1 h
section
variable{X:Cx}{own:List Nat}{e a b c o i tg:Expr}{es jr:List Expr}{pos p2 p tp:Pos}{f fa fb fc fe:Ae->Option D}{n1:Nat}
def c4j{ta:TA}(hg:Gl X "zip")(hm:yn!)(hv:yn_)(ha:PA X aj_ ta)(hs:yo!:=by rfl)(ax:yo_:=by rfl):
  PI X fE! yp! (λZ H R=>ta Z H λvs H1=>∃x y xs ys,vs=[.ref x,.ref y]/\Fz X.K H1 x xs/\Fz X.K H1 y ys/\R (DZ X.K x y) H1):=by
 intro B s Z H R I h;refine Call_ (jQ I hg hm hv (KP mG_ hs ax));obtain⟨x,y,xs,ys,rfl,qx,qy,q⟩:=q1;obtain⟨u,u',rfl,ru,au⟩:=a5g r1;cases ru;cases au;obtain⟨ia,ra,VU,za⟩:=I1.tuple qx;obtain⟨ib,rb,VV,zb⟩:=I1.tuple qy;have lx:x<z!:=by obtain⟨ob,eo,_⟩:=VU;exact JB eo
 have ly:y<z!:=by obtain⟨ob,eo,_⟩:=VV;exact JB eo
 refine c2y VU VV λh' a1 a2 a3 a4 a5 a6=>?_;refine wpAny_pyIter_zip a1 ?_;have I2:Inv X B Z H1 {s1 with heap:=h',toks:=s1.toks}:=I1.kept (t':=s1.toks) a6;have D:ZipApart (z!+4) (z!+2) (z!+3) s1.heap.objs.size (z!+1) x y:=by
  constructor<;>(intro z;have z':@Eq Nat _ _:=z;have l1:@LT.lt Nat _ x _:=lx;have l2:@LT.lt Nat _ y _:=ly;omega)
 refine⟨_,_,_,DZ X.K x y,H1,rfl,I2,b4q D,⟨a1,a2,⟨_,_,a3⟩,a4,a5⟩,kI_,q⟩;have ju:z!<=c:=by
  simp only[HY,JK,LC]at L;obtain rfl|rfl|rfl|rfl|rfl:=L<;>omega
 exact I1.fpOk ju (I1.hok.fresh ju)
def Kz:List D->List D->List D
 |x::xs,y::ys=>.tup [x,y]::Kz xs ys
 |_,_=>[]
def AT(fa fb:e!):Ae->Option aL_:=λρ=>(fr!).bind λx=>(j4_).bind λy=>match x,y with|.tup xs,.tup ys=>some kJ_|_,_=>none
def a5d:∀(xs ys:c_) (n:Nat) (d:D),kJ_[n]?=some d->∃x y,xs[n]?=some x/\ys[n]?=some y/\d=.tup [x,y]
 |[],_,n,d,h=>by simp[Kz]at h
 |_::_,[],n,d,h=>by simp[Kz]at h
 |x::xs,y::ys,0,d,h=>by
  simp[Kz]at h;exact⟨x,y,rfl,rfl,h.symm⟩
 |x::xs,y::ys,n+1,d,h=>by
  obtain⟨u,v,h1,h2,h3⟩:=a5d xs ys n d (by simpa[Kz]using h);exact⟨u,v,lM!,yp_,h3⟩
def a5c:∀(xs ys:c_),i!<=(kJ_).length\/ac!<=(kJ_).length
 |[],ys=>.inl bZ_
 |_::_,[]=>.inr bZ_
 |x::xs,y::ys=>by
  obtain h|h:=a5c xs ys
  .left;simp[Kz];exact h
  .right;simp[Kz];exact h
def c5k{K:yN!}{G1:Hp}{es:c_}(qa:Fz K G1 x vs)(qb:Fz K G1 y ws)(ra:Am K G1 ds vs)(rb:Am K G1 es ws):Zj K (DZ K x y) (Kz ds es) G1:=by
 intro n G' H' s1 s2;have kh:Fz K H' x vs:=bY s2 (bY s1 qa);have tj:Fz K H' y ws:=bY s2 (bY s1 qb);refine⟨es!,λhn=>⟨vs,ws,kh,tj,?_⟩⟩
 .obtain⟨u,v,h1,h2,rfl⟩:=a5d ds es n d hd;obtain⟨v1,g1,r1⟩:=hJ ra h1;obtain⟨v2,g2,r2⟩:=hJ rb h2;refine⟨⟨vs,ws,v1,v2,kh,tj,g1,g2⟩,λx' g9 hy=>?_⟩;obtain⟨T,rfl,hT,hh⟩:=hy;obtain⟨x1,y1,e1,e2,rfl⟩:=hh vs ws kh tj;rw[g1]at e1;rw[g2]at e2;cases e1;cases e2;exact⟨_,Ce.laid s2 hT,fS (s2.free hT) (Am.cons (r1.mono s1) (Am.cons (r2.mono s1) Am.nil))⟩
 .rw[hn,<-aI ra,<-aI rb];exact a5c ds es
def d0k(hg:Gl X "zip")(hm:yn!)(hv:yn_)(ha:Y_)(hb:cM_)(hs:yo!:=by rfl)
  (bi:starEach [b] X.env=iR_::starEach [] X.env:=by rfl)(ax:yo_:=by rfl):DI X own fE! yp! (AT fa fb):=
 a8e (c4j hg hm hv (dS ha.ok (dS hb.ok fZ bi) hs) hs ax) λZ G H R ρ ds er e k=>by
  obtain⟨x,e1,e⟩:=HS.mp e;obtain⟨y,e2,e⟩:=HS.mp e;cases x with
  |tup xs=>
   cases y with
   |tup ys=>
    cases e;refine yq!;obtain⟨p,vs,rfl,q,rr⟩:=bQ hg_;obtain⟨p',ws,rfl,q',bv⟩:=bQ r2;exact⟨p,p',vs,ws,rfl,bY s2.sub q,bY s2.sub q',k _ G2 H2 dp! (c5k q q' rr bv)⟩
   |_=>cases e
  |_=>cases e
end
def Eh:D->D->Option D:=Dr Uc λi j=>.int (i*j)
def sA{K:yN!}:Ia K mN_ Eh:=c9b
def Bv:D->D->Option D:=Dr ot_ λi j=>.int (i%j)
def eW{K:yN!}:Ia K mO_ Bv:=c9c
def Cj:D->D->Option D:=Dr wL_ λi j=>.int (i / j)
def nI{K:yN!}:Ia K mO! Cj:=c4y
def Gj:D->D->Option D:=Dr wM! λi j=>.int mP!
def c8y{K:yN!}:Ia K mP_ Gj:=c9a
def Jx:D->D->Option D:=Cf λi j=>.bl mU!
def b3i{K:yN!}:Ia K mT! Jx:=d2n
def Kl:D->D->Option D:=Cf λi j=>.bl mV_
def b3j{K:yN!}:Ia K mV! Kl:=d2p
def Oc:D->D->Option D:=Cf λi j=>.bl mW!
def d2m{K:yN!}:Ia K mW_ Oc:=d2q
section
variable{X:Cx}{own:List Nat}{pos p2:Pos}
def kP:Gr X mT_ yq_:=d2i.or b5n
def Jm:D->D->Option D
 |.int i,.int j=>some (.bl mU_)
 |.str x,.str y=>some (.bl (Rv x y))
 |_,_=>none
def kQ{K:yN!}:Ia K yq_ Jm:=by
 show"!/";unfold Jm at e;show"!6"
 .show"!Y";exact .inl ph!
 .cases cJ rx;cases cJ ry;cases e;exact .inr ph!
 .cases e
def Lr:D->D->Option D
 |.int i,.int j=>some (.bl (!(i==j)))
 |.str x,.str y=>some (.bl (!(x==y)))
 |_,_=>none
def zW{K:yN!}:Ia K FZ Lr:=by
 show"!/";unfold Lr at e;show"!6"
 .show"!Y";refine j_;rw[b4b];show"!p"
 .cases cJ rx;cases cJ ry;cases e;refine j_;rw[b4a];show"!p"
 .cases e
def gF{x:Str}{i:Int}(hm:∃t,X.mg x=some dH_)(hg:S!)(hd:F!:=by decide):DE X own c3_ (fC bx_):=by obtain⟨t,ht⟩:=hm;exact c6i hg ht hd
end
def bK{X:Cx}{scope sc:Scope}(h:X.env.scope=sc)(hd:∀y∈ch!,y.2=.free->(sc.names.lookup y.1=some .cell\/sc.names.lookup y.1=some .free)):
  ∀y∈ch!,y.2=.free->vY!:=λy hy hf=>by
 unfold Env.kindOf;rw[h];exact hd y hy hf
section
variable{X:Cx}{own:List Nat}{a b c:Expr}{pos p2:Pos}{fa fb fc:Ae->Option D}
def c2e{op fh:CmpOp}{r r':R2}{g g':aW_}(ho:b9_)(hg:ek!)(dh:iZ!)(sy:Ia X.K r' g')(ha:Y_)(hb:cM_)(L:DE X own c fc)
  (hm:iZ_:=by with_unfolding_all rfl):DT X own i0! (fT xv_):=
 xV (b8s ho dh ha.ok hb.ok L.ok hm) λZ G H Q ρ d er e k=>by
  have e:=lG e;obtain⟨x,e1,e⟩:=HS.mp e;obtain⟨y,e2,e⟩:=HS.mp e;obtain⟨z,e3,e⟩:=HS.mp e;refine xw!;have nj:=s1.trans hh!;cases z with
  |bl bb=>
   cases cV r3;refine xw_;cases bb with
   |true=>
    obtain⟨u,e4,e⟩:=HS.mp e;refine mP ⟨G3,ρ,u,er.grow nj,e4,λq G4 H4 s4 r4=>sy s4.sub xx! r4 e λv G5 H5 s5 r5=>?_⟩;cases cV r5;exact⟨d,rfl,k G5 H5 xx_⟩
   |false=>
    cases e;exact mQ ⟨false,rfl,k G3 H3 nj⟩
  |_=>cases e
def b6r{x:Str}{bn:aP!}(hd:Uq X x bn)(hg:S!)(ha:Y_)(hm:behindInMarks .NotIn dr!=false:=by rfl)(be:F!:=by decide):DT X own (.Compare a [.NotIn] [cN_] pos) (fT (Zc bn true fa)):=by
 show"#G";refine xV (t:=λZ H Q=>tD X.K own fa Z H λv H1=>∃y,v=.str y/\Q (!(Np kvs eu_).isSome) H1) xz! λZ G H Q ρ d er e k=>?_
 .refine RM (dH xz_ λv s1 ⟨y,H1,I1,r1,z,hz,q1⟩=>kZ I1 hg j5 ?_ be) hm;subst hz;refine wpAny_notIn_of (knd:=xA!) (k:=o0!) xB! VI (yx _ I1.kIn).mapOf ?_;rw[<-(yz.val oZ_).isSome_eq];exact KF ⟨H1,I1.tok _,q1⟩
 .have e:=lG e;obtain⟨x,e1,e⟩:=HS.mp e;cases x with
  |str y=>
   cases e;refine fv_;cases cJ r1;refine⟨y,rfl,?_⟩;have hb:(Np kvs eu_).isSome=(oX_).isSome:=by
    cases ht:bn.lookup y with
    |none=>rw[(hn y).mpr ht];rfl
    |some d=>obtain⟨v,hv,_⟩:=hs y d ht;rw[hv];rfl
   rw[hb];exact k G1 H1 s1
  |_=>cases e
end
def dN:bootBuiltins "len"=some sX!:=by decide+kernel
def d1b:bootBuiltins "abs"=some sR_:=by decide+kernel
def d0z:bootBuiltins "ord"=some sV_:=by decide+kernel
def b1o:bootBuiltins "all"=some w0!:=by decide+kernel
def cQ:bootBuiltins "isinstance"=some oy!:=by decide+kernel
def d1a:bootBuiltins "int"=some bF_:=by decide+kernel
def c6v:bootBuiltins "bool"=some bG!:=by decide+kernel
def b1n:bootBuiltins "str"=some bG_:=by decide+kernel
def qZ:bootBuiltins "tuple"=some bH!:=by decide+kernel
def vG:bootBuiltins "list"=some a9_:=by decide+kernel
def d0y:bootBuiltins "zip"=some o9!:=by decide+kernel
def Fe(K:yN!)(mg:A!)(x:Str)(st:Stmt)(ps:r_):Prop:=∃hA fd,Yb K x x st hA fd/\Ez K fd ps []/\mg x=some bY!
def Cg(N:r_)(n:Nat)(q:aO_)(ds:c_):Option D:=if f_=n then(match q hw! with|some (.rt d)=>some d|some (.nx _)=>some .non|none=>none)else none
def eK{K:yN!}{mg:A!}{st:Stmt}{ps:r_}{k:Nat}{σ:k!}{q:aO_}(h:yr_)(S:ec!)
  (hb:∀{hA:xY!} {af:yh!} {A:yg!} {outer:av_} {s:yM!} {H:Hp} {E:XK},Al k ph_->Yc (pi!).nox [] σ bT! q):
  Ok P w K mg base T! x ps (Cg N ps.length q):=by
 obtain⟨hA,fd,F,hc,m⟩:=h;refine⟨hA,fd,d0m F S (λaf A outer s H E J=>hb J) (λds d hl e=>?_),hc,m,F.kp⟩;unfold Cg at e;rw[IL hl]at e;show"!6"
 .cases e;left;assumption
 .cases e;right;exact⟨_,by assumption,rfl⟩
 .cases e
def CM:Const->Option D
 |.int i=>some bx_
 |.str i=>some jZ_
 |.bool i=>some (.bl i)
 |.none=>some .non
 |_=>none
mutual
noncomputable def Vd:Nat->Expr->Option D
 |0,_=>none
 |n+1,e=>match e with
  |.Constant c _ _=>CM c
  |.Tuple es _ _=>(pi_).bind λds=>if f_<=1000 then some dm! else none
  |.List es _=>(pi_).bind λds=>if f_<=1000 then some ci! else none
  |_=>none
noncomputable def Vc:Nat->List Expr->Option aL_
 |0,_=>none
 |n+1,[]=>some []
 |n+1,e::es=>(Vd n e).bind λd=>(pi_).bind λds=>some eg_
end
section
variable{X:Cx}{own:List Nat}
def c0u{n:Nat}(h:Vd n e=some d):starEach aJ_ X.env=e8_::starEach es X.env:=by
 cases n with
 |zero=>unfold Vd at h;cases h
 |succ n=>
  cases e<;>first|rfl|(simp[Vd]at h;done)
mutual
theorem gP:∀{n:Nat} {e:Expr} {d:D},Vd n e=some d->DE X own e (fC d)
 |0,e,d,h=>by unfold Vd at h;cases h
 |n+1,e,d,h=>by
  unfold Vd at h;split at h
  .unfold CM at h;split at h
   .cases h;exact aC
   .cases h;exact aS
   .cases h;exact eG
   .cases h;exact dM
   .cases h
  .obtain⟨ds,e1,e2⟩:=HS.mp h;split at e2
   .rename_i hl;cases e2;refine eM (dB (b1f e1)).ok λZ G H Q ρ d er e k=>?_;show"#J"
   .cases e2
  .obtain⟨ds,e1,e2⟩:=HS.mp h;split at e2
   .rename_i hl;cases e2;refine eM (sX (b1f e1)).ok λZ G H Q ρ d er e k=>?_;show"#J"
   .cases e2
  .cases h
theorem b1f:∀{n:Nat} {es:bL_} {ds:c_},Vc n es=some ds->DA X own es (λ_=>some ds)
 |0,e,d,h=>by unfold Vc at h;cases h
 |n+1,[],d,h=>by
  unfold Vc at h;cases h;exact aN
 |n+1,e::es,d,h=>by
  unfold Vc at h;obtain⟨d1,e1,h⟩:=HS.mp h;obtain⟨ds,e2,h⟩:=HS.mp h;cases h;exact c2o (aE (gP e1) (b1f e2) (c0u e1)).ok λZ G H Q ρ d er e k=>⟨G,ρ,_,er,e,k⟩
end
end
section
variable{P:yJ!}{w:ys!}{K:yN!}{mg:Str->Option Value}{h:Heap}
def aT{st:Stmt}{ps:r_}{od an:a7!}{dw:cc_}{kV:yh!}(X:fF!)(G:fF_)
  (a:yt!)(l:yu!)
  (c:yu_)(k:g4!)
  (b:yv!):Fe K mg x st ps:=
 ⟨f,_,kK!,pj!,pj_⟩
def BB(K:yN!)(mg:A!)(x:Str)(st:Stmt)(ps:r_):Prop:=∃hA fd,Yb K x x st hA fd/\(∀us:List Value,au_=T_->bindArgs fd de!=pure dd!)/\mg x=some bY!
def c6e{st:Stmt}{ps:r_}{od an:a7!}{dw:cc_}{kV:yh!}(X:fF!)(G:fF_)
  (a:yt!)(l:yu!)
  (c:yu_)(k:g4!)
  (b:yv!):BB K mg x st ps:=
 ⟨f,_,kK!,b _ _ _ _ _ _,pj_⟩
def qR{i:Int}(X:fF!)(G:fF_)(a:W.nsIn K mainGlobals x=some (some (.int i tk))):∃tk,mg x=some (.int i tk):=⟨tk,pj_⟩
def fB(X:fF!)(G:fF_)(e:W.nsIn K mainGlobals x=some (some P!)):mg x=some P!:=W.mg_of X G e
def dD(X:fF!)(G:fF_)(e:W.nsIn K mainGlobals x=some none):mg x=none:=W.mg_none_of X G e
def a0q{K:yN!}{H:Hp}:∀(ns:w!),Am K H pk! ce!
 |[]=>Am.nil
 |n::r=>Am.cons Av.int (a0q r)
abbrev Uj:=Str×Tok×Addr
def AH(w:ys!)(r:Uj):DictEntry:=⟨PyData.keyHash w.params r.1,.str r.1 r.2.1,.ref r.2.2⟩
def Vg(K:yN!):List Uj->List cl_->Prop
 |[],[]=>True
 |r::rs,t::ts=>r.1=t.1/\(∀H,Av K H t.2 (V.ref r.2.2))/\Vg K rs ts
 |_,_=>False
abbrev Vu(rows:fG!):List (L2.Key×V):=rows.map λr=>(Sum.inr r.1,V.ref r.2.2)
abbrev Tq(rows:fG!):List xy_:=rows.map λr=>(Sum.inr r.1,Value.ref r.2.2)
def vY{P:yJ!}:∀(rows:fG!),Pairs bu! yx! pk_
 |[]=>.nil
 |r::rs=>.cons (mG P w r.1 r.2.1) rfl (vY rs)
def rQ:∀{rows:fG!} {bn:aP!},Vg K rows bn->(Np pl! eu_=none↔bn.lookup y=none)/\∀d,bn.lookup y=some d->∃v,Np pl! eu_=some v/\∀H,Av K H d v
 |[],[],_=>⟨⟨gI_,gI_⟩,λd e=>by cases e⟩
 |[],t::ts,h=>h.elim
 |r::rs,[],h=>h.elim
 |r::rs,(x,d0)::ts,h=>by
  obtain⟨h1,h2,h3⟩:=h;have ih:=rQ (y:=y) h3;have kj:r.1=x:=h1;unfold Np at ih ⊢;simp only[II,MQ,KA];by_cases e:y=x
  .subst e;have:decide yx_=true:=by simp[kj]
   simp only[this,LZ];refine⟨⟨yy!,yy!⟩,λd z=>?_⟩;cases z;exact⟨_,rfl,h2⟩
  .have e1:decide yx_=false:=by
    rw[kj];exact IN λz=>e (yz!).symm
   have e2:(y==x)=false:=by simp[e]
   simp only[e1,e2];exact ih
def b3s:∀(rows:fG!),KV pl! pk_
 |[]=>.nil
 |r::rs=>.cons bz_ (b3s rs)
def c1s{X:Cx}{x:Str}{ad:xY!}{rows:fG!}{bn:aP!}{ep:Nat}(hw:X.w=w)(hK:X.K=K)(j5:X.mg=mg)(hm:mg x=some kw_)(hs:oX!=false)(hl:K.lookup ad=some {cls:=.type "dict",data:=.dict (yx!).toArray ep})
  (nd:fG_)(ht:Vg K rows bn):Uq X x bn:=by
 subst hw hK j5;refine⟨ad,Vu rows,Tq rows,hm,hs,λh hK=>⟨_,_,_,hK _ _ hl,yA_,rfl,?_,?_,?_⟩,b3s rows,λy=>(rQ ht).1,λy d=>(rQ ht).2 d⟩
 .intro e he;have ce:e∈rows.map (AH X.w):=by simpa using he
  obtain⟨r,J,rfl⟩:=IS.mp ce;exact⟨Sum.inr r.1,mG _ _ r.1 r.2.1,rfl⟩
 .simpa using vY (w:=X.w) (P:=X.prog) rows
 .have e:(pk_).map c!=(kM!).map (Sum.inr:Str->L2.Key):=by simp[Tq]
  rw[e];exact List.Pairwise.map _ (λa b lm z=>lm yz!) nd
def a5z{H:Hp}:∀(fs:av!),Am K H (fs.map D.fn) yD!
 |[]=>Am.nil
 |n::r=>Am.cons (by unfold Av;rfl) (a5z r)
def zH:∀(fs:av!),Be yD! yE!
 |[]=>.nil
 |n::r=>.cons rfl (zH r)
def gZ{fs:av!}{od:a7!}{n:Nat}{sl:cc_}(l:K.lookup a=some ⟨cR!,od,.seq (yE!).toArray n,sl⟩)(hz:bu_<=1000)(H:Hp):Av K H (.tup (fs.map D.fn)) fn!:=
 Av.tup (.inr ⟨_,_,n,l,rfl,rfl,by simpa using eZ hz,by simpa using zH fs⟩) (a5z fs)
end
abbrev MK:=Option (Sum L2.Key (List L2.Key))
abbrev CK:Int:=0xFCA86420
section
variable{P:yJ!}{w:ys!}{A:yg!}{E:Value->Shared->Prop}{s:yM!}
variable (P w)in
def Kk(h:Heap):MK->Value->Prop
 |none,v=>v=.none
 |some (.inl k),v=>Rg k v=true
 |some (.inr ks),v=>∃a,v=.ref a/\IsTupleKey bu! h ks a
variable (P w)in
nonrec def mkHash:MK->Int
 |none=>CK
 |some (.inl k)=>CN w k
 |some (.inr ks)=>tupleKeyHash bu! ks
def a6v(Y:Kk P w h x v)(hy:Kk P w h y v):x=y:=by
 obtain _|x|x:=x<;>obtain _|y|y:=y
 .rfl
 .cases yE_;obtain⟨i,t,_,e⟩|⟨i,t,_,e⟩:=bO hy<;>exact nomatch e
 .cases yE_;obtain⟨a,e,_⟩:=hy;exact nomatch e
 .cases hH!;obtain⟨i,t,_,e⟩|⟨i,t,_,e⟩:=bO Y<;>exact nomatch e
 .rw[(bu!).inj v x y Y hy]
 .obtain⟨a,rfl,_⟩:=hy;obtain⟨i,t,_,e⟩|⟨i,t,_,e⟩:=bO Y<;>exact nomatch e
 .cases hH!;obtain⟨a,e,_⟩:=Y;exact nomatch e
 .obtain⟨a,rfl,_⟩:=Y;obtain⟨i,t,_,e⟩|⟨i,t,_,e⟩:=bO hy<;>exact nomatch e
 .obtain⟨a,rfl,Y⟩:=Y;obtain⟨b,e,hy⟩:=hy;cases e;rw[Y.inj hy]
def kI{h:Heap}{ks:pn_}(x:IsTupleKey bu! h ks a):∃its,h.IsTuple a its:=by obtain⟨o,its,n,h1,h2,h3,_⟩:=x;exact⟨its,o,h1,h2,n,h3⟩
def c0k{Q:ex!}(hu:ar!)(Y:po!)(hy:Kk P w s.heap y v)(h:Q (decide (x=y)) s):wpAny L_ A (eqBool u v) Q E s:=by
 obtain _|x|x:=x<;>obtain _|y|y:=y
 .cases hH_;cases hH!;rw[fH_]at h;exact SeqAt.EqAt.same _ _ _ _ _ h
 .cases hH_;rw[fI!]at h;obtain⟨i,t,rfl,rfl⟩|⟨i,t,rfl,rfl⟩:=bO hy
  .exact SeqAt.EqAt.none_int i t _ _ _ _ h
  .exact SeqAt.EqAt.none_str i t _ _ _ _ h
 .cases hH_;rw[fI!]at h;obtain⟨a,rfl,q⟩:=hy;obtain⟨its,q⟩:=kI q;exact SeqAt.EqAt.none_tuple q hu _ _ _ _ h
 .cases hH!;rw[fI!]at h;obtain⟨i,t,rfl,rfl⟩|⟨i,t,rfl,rfl⟩:=bO Y
  .exact SeqAt.EqAt.int_none i t _ _ _ _ h
  .exact SeqAt.EqAt.str_none i t _ _ _ _ h
 .refine(bu!).eqBool Y hy ?_;by_cases e:x=y
  .subst e;rw[fH_]at h ⊢;exact h
  .rw[IN cX_]at h;rw[IN e];exact h
 .rw[fI!]at h;obtain⟨a,rfl,q⟩:=hy;obtain⟨its,q⟩:=kI q;obtain⟨i,t,rfl,rfl⟩|⟨i,t,rfl,rfl⟩:=bO Y
  .exact SeqAt.EqAt.int_tuple i t q hu _ _ _ _ h
  .exact SeqAt.EqAt.str_tuple i t q hu _ _ _ _ h
 .cases hH!;rw[fI!]at h;show"#5";obtain⟨its,q⟩:=kI q;exact SeqAt.EqAt.tuple_none q hu _ _ _ _ h
 .rw[fI!]at h;obtain⟨a,rfl,q⟩:=Y;obtain⟨its,q⟩:=kI q;obtain⟨i,t,rfl,rfl⟩|⟨i,t,rfl,rfl⟩:=bO hy
  .exact SeqAt.EqAt.tuple_int i t q hu _ _ _ _ h
  .exact SeqAt.EqAt.tuple_str i t q hu _ _ _ _ h
 .show"#5";obtain⟨b,rfl,q2⟩:=hy;refine wpAny_eqBool_tuple hu q q2 ?_;by_cases e:x=y
  .subst e;rw[fH_]at h ⊢;exact h
  .rw[IN cX_]at h;rw[IN e];exact h
def a6u{Q:ex!}(Y:po!)(h:Q true s):wpAny L_ A (eqIsQuiet 8 u) Q E s:=by
 obtain _|x|x:=x
 .cases hH_;rw[eqIsQuiet_byValue _ rfl];exact HU h
 .rw[eqIsQuiet_byValue _ ((bu!).byValue x u Y)];exact HU h
 .show"#5";exact wpAny_eqIsQuiet_tuple q h
def uW{Q:Int->Shared->Prop}(hu:ar!)(Y:po!)(h:∀tk,Q (mkHash P w x) {s with toks:=tk}):wpAny L_ A (pyHash u) Q E s:=by
 obtain _|x|x:=x
 .cases hH_;unfold pyHash;have hv:[dI!].any Value.onHeap=false:=rfl;refine HR ?_;rw[cRoomFor,IA (by rw[hv];exact IZ)];refine HU ?_;have hT:s.TypeIs .none "NoneType":=rfl;refine HR yH!;rw[IA (show¬(some (Value.builtin "NoneType.__hash__")==some Value.none)=true by rw[beq_builtin_none];exact IZ)];refine HR yH!;show wpAny _ _ (callSpecialIfBoundUnlessNone? Value.none (Str.ofString "__hash__") _>>=_) _ _ _;refine HR (wpAny_callSpecialIfBoundUnlessNone?_slot hT OF (JR OF hT PySem.F.entry_NoneType_hash ?_ (PySem.F.args_NoneType_hash_1 _)));refine wpAny_ret_mkInt ?_;exact HU (h _)
 .exact(bu!).pyHash Y (h _)
 .show"#5";exact wpAny_pyHash_tuple hu q (h _)
end
def Mo(ks:bd_)(k:MK):Option Nat:=ks.findIdx? λx=>decide (x=k)
def Ho(ks:bd_)(k:MK)(i:Nat):Bool:=decide (ks[i]?=some k)
def qK{ks:bd_}{j:Nat}(h:yH_):ks[j]?=some k/\∀i,i<j->ks[i]?≠some k:=by obtain⟨h1,h2,h3⟩:=List.findIdx?_eq_some_iff_getElem.mp h;refine⟨by rw[IM h1];exact congrArg some (KS h2),λi hi e=>?_⟩;have:=h3 i hi;obtain⟨q1,q2⟩:=IU.mp e;rw[q2]at this;simp at this
def a7j{ks:bd_}(h:Mo ks k=none)(i:Nat):ks[i]?≠some k:=λe=>by
 have:=List.findIdx?_eq_none_iff.mp h k he_;simp at this
def b1a(ks:bd_)(k:MK):(List.range kN_).find? dw_=Mo ks k:=by
 cases h:Mo ks k with
 |none=>
  rw[List.find?_eq_none];intro i hi z;exact a7j h i (KS z)
 |some j=>
  obtain⟨h1,h2⟩:=qK h;rw[List.find?_range_eq_some];refine⟨by unfold Ho;exact JC h1,OJ.mpr (ht_).1,fI_⟩;unfold Ho;rw[IN (h2 i hi)];rfl
section
variable{P:yJ!}{w:ys!}{A:yg!}{E:Value->Shared->Prop}{s:yM!}
variable (P w)in
structure On(h:Heap)(es:bS!)(ks:bd_):Prop where
 len:es.size=kN_
 at_:∀(i:Nat) (e:DictEntry) (k:MK),es[i]?=some e->ks[i]?=some k->Kk P w h k e.key/\e.hash=mkHash P w k
 nd:hI_
def On.get{es:bS!}{ks:bd_}(x:kO!){i:Nat}{e:DictEntry}(q:es[i]?=some e):∃k,ks[i]?=some k/\Kk P w h k e.key/\e.hash=mkHash P w k:=by
 have hl:i<kN_:=by rw[<-x.len];exact(PQ.mp q).1
 exact⟨ks[i],IM hl,x.at_ i e _ q (IM hl)⟩
def On.one{es:bS!}{ks:bd_}(x:kO!){i j:Nat}(h1:Ho ks k i=true)(h2:Ho ks k j=true):i=j:=by have e1:=KS h1;have e2:=KS h2;exact(List.getElem?_inj (IU.mp e1).1 x.nd).mp rt_
abbrev plc(es:bS!)(h:Int):List Nat:=placesWithHash es.size (λi=>es[i]?.map (·.hash)) h
def a7z{es:bS!}{ks:bd_}(x:kO!)(k:MK):(kO_).find? dw_=Mo ks k:=by
 unfold plc placesWithHash;rw[List.find?_filter,<-b1a,x.len];congr 1;funext i;cases hp:Ho ks k i with
 |false=>simp
 |true=>
  have e1:=KS hp;have hl:i<es.size:=by rw[x.len];exact(IU.mp e1).1
  obtain⟨k',q1,q2,q3⟩:=x.get (JQ hl);rw[e1]at q1;cases q1;simp[JQ hl,q3]
def b8x{es:bS!}{h:Int}{i:Nat}(hi:i∈plc es h):i<es.size:=by have:=(KD.mp hi).1;simpa using this
def c8m{es:bS!}{h:Int}:(plc es h).Nodup:=List.nodup_range.sublist PK
def a8z{o:Obj}{es:bS!}{ep:Nat}{ks:bd_}{Q:yK!}(hu:ar!)(x:yK_)(hk:ey_)
  (ho:yL!)(hd:yL_)(h:Q hJ! s):wpAny L_ A yM_ Q E s:=by
 show"!h";generalize plc es dx!=ay at hf hl ⊢;rw[<-hf]at h;unfold dictWalkPlain;refine HR (RD _ (λrest b s'=>s'=s/\b=fJ!/\rest.find? dw_=ay.find? dw_/\∀i∈rest,i<es.size) _ ?_ ?_ _ _ ⟨rfl,rfl,rfl,hl⟩)
 .rintro i rest b s' ⟨rfl,rfl,h1,h2⟩;have ap:=h2 i IH;have he:es[i]?=some es[i]:=JQ ap;obtain⟨k',q1,q2,q3⟩:=x.get he;have no:k'≠k->rest.find? dw_=ay.find? dw_:=λbf=>by
   rw[<-h1,MQ];have:Ho ks k i=false:=by unfold Ho;rw[q1];exact IN yO!
   rw[this]
  show"#'";rw[he];show"#7";split
  .refine HR ps_;rw[ak_];by_cases l9:k'=k
   .subst l9;rw[fH_];have hi:Ho ks k' i=true:=by unfold Ho;exact JC q1
    have:ay.find? (Ho ks k')=some i:=by rw[<-h1,MQ,hi]
    rw[this]at h;exact HR (LV (HU (HU h)))
   .rw[IN l9];exact HR (LV (HU ⟨rfl,rfl,no l9,rs⟩))
  .rename_i hh;exact HU ⟨rfl,rfl,no yO_,rs⟩
 .rintro b s' ⟨rfl,rfl,h1,_⟩;rw[<-h1]at h;exact HU h
def a5i{Q:ex!}(hk:ey_)(hl:∀v∈ay,∃k',Kk P w s.heap k' v)(h:Q false s):wpAny L_ A (tableMayTell u ay) Q E s:=by
 unfold tableMayTell;split
 .exact HU h
 .refine HR (a6u hk ?_);rw[ak_];refine HR (RD _ (λrest r s'=>s'=s/\r=fJ!/\∀v∈rest,v∈ay) _ ?_ ?_ _ _ ⟨rfl,rfl,λ_ z=>z⟩)
  .rintro v rest r s' ⟨rfl,rfl,J⟩;obtain⟨k',q⟩:=hl v (J v IH);refine HR (a6u q ?_);rw[ak_];exact HU ⟨rfl,rfl,λy hy=>J y ec_⟩
  .rintro r s' ⟨rfl,rfl,_⟩;exact HU h
def c3g{ks:bd_}{i:Nat}(q1:yP!)(e:k'=k):Ho ks k i=true:=by unfold Ho;rw[<-e];exact JC q1
def b4o{ks:bd_}{i:Nat}{rest:k!}{al:pt!}(L:(al=none/\(i::rest).find? dw_=Mo ks k)\/∃j,al=some j/\Mo ks k=some j/\Ho ks k j=true/\j∉i::rest)(q1:yP!)(bf:¬k'=k):
  yP_\/∃j,al=some j/\Mo ks k=some j/\Ho ks k j=true/\j∉rest:=by
 obtain⟨e,h1⟩|⟨j,e,h1,h4,h5⟩:=L
 .refine .inl g0_;rw[<-h1,MQ];have:Ho ks k i=false:=by unfold Ho;rw[q1];exact IN yO!
  rw[this]
 .exact .inr ⟨j,e,h1,h4,λz=>h5 (HZ _ z)⟩
def sR{v:yh!}(q:Kk P w h k v):v.isStr z=decide (k=some hJ_):=by
 by_cases e:k=some hJ_
 .subst e;rw[fH_];obtain⟨i,t,e,_⟩|⟨i,t,e,rfl⟩:=bO q
  .cases e
  .cases e;simp[Value.isStr]
 .rw[IN e];cases v<;>first|rfl|skip
  rename_i y t;simp only[Value.isStr,KO,ne_eq];rintro rfl;exact e (a6v q (sP y t))
def c1t{es:bS!}{ks:bd_}(x:kO!)(z:Str):(es.findIdx? λe=>e.key.isStr z)=Mo ks (some hJ_):=by
 cases hk:Mo ks (some hJ_)with
 |none=>
  rw[Array.findIdx?_eq_none_iff];intro e he;obtain⟨i,hi⟩:=Array.mem_iff_getElem?.mp he;obtain⟨k',q1,q2,_⟩:=x.get hi;rw[sR q2];exact IN λ(e:k'=_)=>a7j hk i yQ_
 |some j=>
  obtain⟨h1,h2⟩:=qK hk;have hj:j<es.size:=by rw[x.len];exact(ht_).1
  rw[Array.findIdx?_eq_some_iff_getElem];refine⟨hj,?_,fI_⟩
  .obtain⟨k',q1,q2,_⟩:=x.get (JQ hj);rw[sR q2];rw[h1]at q1;cases q1;exact JC rfl
  .obtain⟨k',q1,q2,_⟩:=x.get (JQ (Nat.lt_trans hi hj));rw[sR q2,IN (λ(e:k'=_)=>h2 i hi yQ_)];simp
def d1w{g:Prop}(h:∃T:Prop,(T->g)/\T):g:=let⟨_,f,k⟩:=h;f k
def qS{o:Obj}{es:bS!}{ep:Nat}{ks:bd_}{Q:yK!}(hu:ar!)(x:yK_)(hk:ey_)
  (ho:yL!)(hd:yL_)(h:Q hJ! s):wpAny L_ A (dictFind d u dx!) Q E s:=by
 have bz:∀v∈(kO_).filterMap (λi=>es[i]?.map kP_),∃k',Kk P w s.heap k' v:=λv hv=>by
  obtain⟨i,_,e⟩:=NP.mp hv;obtain⟨e',e1,rfl⟩:=IG.mp e;obtain⟨k',_,q,_⟩:=x.get e1;exact⟨k',q⟩
 have ZW:¬(es.any λe=>e.key==u&&e.hash != mkHash P w k)=true:=λz=>by
  obtain⟨i,hi,z⟩:=Array.any_eq_true.mp z;rw[JG,OB,bne_iff_ne]at z;obtain⟨k',_,q,q3⟩:=x.get (JQ hi);rw[z.1]at q;exact z.2 (by rw[q3,a6v q hk])
 show"!h";have p7:(kO_).Nodup:=c8m;have ax:wpAny L_ A yM_ Q E s:=a8z hu x hk ho hd h;unfold dictFind;refine JX (HR (MV ho hd ?_));refine d1w ?_;apply Exists.intro;apply And.intro
 .intro tl;have yk:(∃a,u=.ref a)\/(∃z t,u=.str z t/\k=some hJ_)\/(u=.none\/∃i t,u=.int i t):=by
   clear tl;obtain _|k|k:=k
   .exact .inr (.inr (.inl hk))
   .obtain⟨i,t,rfl,rfl⟩|⟨i,t,rfl,rfl⟩:=bO hk
    .exact .inr (.inr (.inr ⟨i,t,rfl⟩))
    .exact .inr (.inl ⟨i,t,rfl,rfl⟩)
   .obtain⟨a,rfl,_⟩:=hk;exact .inl ⟨a,rfl⟩
  obtain⟨a,ea⟩|⟨z,t,ea,VW⟩|ea|⟨i,t,ea⟩:=yk
  all_goals rw[ea]
  all_goals dsimp only
  rotate_left
  refine wpAny_ite_split (λfm=>?_) λ_=>?_
  .clear tl;unfold foundByValue;rw[c1t x z,<-VW];cases hj:Mo ks k with
   |none=>rw[hj]at h;exact HU h
   |some j=>
    obtain⟨h1,_⟩:=qK hj;have ap:j<es.size:=by rw[x.len];exact(ht_).1
    obtain⟨k',q1,q2,_⟩:=x.get (JQ ap);rw[h1]at q1;cases q1;show"#7";rw[JQ ap,<-ea];refine HR ps_;rw[ak_,fH_];rw[hj]at h;exact HR (LV (HU h))
  all_goals rw[<-ea]
  all_goals refine wpAny_ite_split (λ_=>ax) λ_=>?_
  rotate_right
  rw[IA ZW]
  all_goals refine wpAny_ite_split (λ_=>HR ab_) λ_=>HR (a5i hk bz ?_)
  all_goals rw[ak_]
  all_goals exact tl
 refine HR (RD _ (λrest b s'=>s'=s/\∃al,b=(none,al)/\(∀i∈rest,i<es.size)/\rest.Nodup/\
  (yP_\/∃j,al=some j/\Mo ks k=some j/\Ho ks k j=true/\j∉rest)) _ ?_ ?_ _ _ ⟨rfl,none,rfl,hl,p7,.inl ⟨rfl,hf⟩⟩)
 rotate_left
 .rintro b s' ⟨rfl,al,rfl,_,_,L⟩;obtain⟨rfl,h1⟩|⟨j,rfl,h1,_⟩:=L
  .rw[<-h1]at h;exact HU h
  .rw[h1]at h;exact HU h
 .rintro i rest b s' ⟨rfl,al,rfl,h2,h3,L⟩;have ap:=h2 i IH;have he:es[i]?=some es[i]:=JQ ap;obtain⟨k',q1,q2,q3⟩:=x.get he;obtain⟨n1,n2⟩:=IV.mp h3;show"#'";have stay:=λbf=>b4o L q1 bf;rw[he];show"#7";split
  .refine HR ps_;rw[ak_];by_cases l9:k'=k
   rotate_left
   .rw[IN l9];simp only[JH,JT,Bool.false_and];exact HR (LV (HU ⟨rfl,al,rfl,rs,n2,stay l9⟩))
   .have hi:=c3g q1 l9;rw[JC l9];obtain⟨rfl,h1⟩|⟨j,e,h1,h4,h5⟩:=L
    .have hL:=h1;rw[MQ,hi]at hL;simp only[KG,Option.isSome_none,JH,JT];refine HR fB_;split
     .rw[<-hL]at h;exact HU (HU h)
     .exact HU ⟨rfl,M!,rfl,rs,n2,.inr ⟨i,rfl,hL.symm,hi,n1⟩⟩
    .exact absurd (x.one hi h4) λz=>h5 (z▸IH)
  .rename_i hh;exact HU ⟨rfl,al,rfl,rs,n2,stay yO_⟩
end
def Oo(h:Heap)(a:xY!)(es:ad_)(ep:Nat):Prop:=∃o,h.get? a=some o/\ik_/\o.data=.dict es.toArray ep
def Oo.typeIs{s:yM!}{a:xY!}{es:ad_}{ep:Nat}(D:hK_):s.TypeIs P! "dict":=let⟨o,ho,L,_⟩:=D;⟨o,ho,L.1⟩
def Yz(es:ad_)(j:pt!)(h:Int)(u v:yh!):List DictEntry:=match j with
 |some j=>es.modify j λe=>{e with val:=v}
 |none=>es++[⟨h,u,v⟩]
def Yy(j:pt!)(ep:Nat):Nat:=match j with
 |some _=>ep
 |none=>ep+1
section
variable{P:yJ!}{w:ys!}{A:yg!}{E:Value->Shared->Prop}{s:yM!}{a:xY!}{es:List DictEntry}{ep:Nat}{ks:List MK}{k:MK}{u v:yh!}
def d3g{Q:cQ!}(hu:ar!)(D:hK_)(x:kR!)(hk:ey_)(h:∀tk,Q ((hJ!).bind λj=>es[j]?.map (·.val)) {s with toks:=tk}):
  wpAny L_ A (dictGet a u) Q E s:=by
 obtain⟨o,ho,_,hd⟩:=D;unfold dictGet;refine JX pv_;have h:=h tk;cases hj:Mo ks k with
 |none=>rw[hj]at h;exact HU h
 |some j=>
  rw[hj]at h;refine HR (MV (s:=ez!) ho hd ab_);rw[MZ];exact h
def vE{h:Heap}{f:Array DictEntry->Array DictEntry}{ar:ad_}{o:Obj}(ho:h.get? a=some o)(L:ik_)(hd:o.data=.dict es.toArray ep)(he:f es.toArray=ar.toArray):
  Oo (h.update a (Obj.mapDict f)) a ar ep/\Oo (h.update a (Obj.mapDictKeys f)) a ar bI_:=
 ⟨⟨_,OK _ ho (Obj.isFreed_of_dict (Obj.data_mapDict hd _)),L.mapDict _,by rw[Obj.data_mapDict hd,he]⟩,⟨_,OK _ ho (Obj.isFreed_of_dict (Obj.data_mapDictKeys hd _)),L.mapDictKeys _,by rw[Obj.data_mapDictKeys hd,he]⟩⟩
def d3f{Q:c1!}(hu:ar!)(D:hK_)(x:kR!)(hk:ey_)(hl:px!)
  (h:∀h' tk,Oo h' a (Yz es hJ! dx! u v) (Yy hJ! ep)->Heap.SameBut a s.heap h'->Q () {s with heap:=h',toks:=tk}):wpAny L_ A yT_ Q E s:=by
 obtain⟨o,ho,L,hd⟩:=D;unfold dictSet;refine JX (HR (uW hu hk λtk=>?_));unfold dictSetHashed;refine JX (HR yS_);cases hj:Mo ks k with
 |none=>
  rw[hj]at h;exact HR (LV (RW (s:=ez!) ho hd (h _ tk (yU!).2 ew_) (hz:=kS_)))
 |some j=>
  rw[hj]at h;exact HR (LV (HR (wpAny_updateDict (s:=ez!) ho hd (wpAny_point (h _ tk (yU!).1 ew_)))))
def qU{Q:p!}(hu:ar!)(D:hK_)(x:kR!)(hk:ey_)(hl:px!)
  (h1:∀j e tk,Mo ks k=some j->es[j]?=some e->Q e.val {s with toks:=tk})
  (h2:∀h' tk,Mo ks k=none->Oo h' a (es++[⟨mkHash P w k,u,v⟩]) bI_->Heap.SameBut a s.heap h'->Q v {s with heap:=h',toks:=tk}):wpAny L_ A (dictSetDefault a u v) Q E s:=by
 obtain⟨o,ho,L,hd⟩:=D;unfold dictSetDefault;refine JX pv_;cases hj:Mo ks k with
 |none=>
  exact HR (LV (HR (RW (s:=ez!) ho hd (HU (h2 _ tk hj (vE ho L hd d!).2 ew_)) (hz:=kS_))))
 |some j=>
  have ap:j<ag!:=by
   have:=(IU.mp (qK hj).1).1;rw[<-x.len]at this;simpa using this
  refine HR yV_;rw[MZ,IM ap];exact HR (LV (HU (h1 j _ tk hj (IM ap))))
def d0e{j:Nat}{e:DictEntry}{Q:Option DictEntry->Shared->Prop}(hu:ar!)(D:hK_)(x:kR!)(hk:ey_)(hl:px!)(hj:yH_)(he:es[j]?=some e)
  (h:∀h' tk,Oo h' a yW_ bI_->Heap.SameBut a s.heap h'->Q iG! {s with heap:=h',toks:=tk}):wpAny L_ A yX! Q E s:=by
 obtain⟨o,ho,L,hd⟩:=D;unfold Builtin.Dict.takeOut;refine JX pv_;rw[hj];refine HR yV_;rw[MZ,he];have ap:j<ag!:=(IU.mp he).1;refine HR (RW (s:=ez!) ho hd (HU (h _ tk (vE ho L hd ?_).2 ew_)) (hz:=kS_) (hf:=?_))
 .rw[Array.eraseIdxIfInBounds,dif_pos yX_];simp
 .rw[Array.eraseIdxIfInBounds];split
  .rw[Array.size_eraseIdx];omega
  .omega
end
def Ls:List D->Option (List L2.Key)
 |[]=>some []
 |.int i::r=>(Ls r).map (Sum.inl i::·)
 |.str x::r=>(Ls r).map (Sum.inr x::·)
 |_::_=>none
def De:D->Option MK
 |.non=>some none
 |.int i=>some (some (.inl (.inl i)))
 |.str x=>some (some (.inl (.inr x)))
 |.tup xs=>(Ls xs).map λks=>some (.inr ks)
 |_=>none
def a0m:∀{xs ys:c_} {ks:pn_},Ls xs=some ks->Ls ys=some ks->xs=ys
 |[],ys,ks,h,h'=>by
  cases h;cases ys with
  |nil=>rfl
  |cons y r=>cases y<;>simp[Ls]at h'
 |x::xs,[],ks,h,h'=>by
  cases h';cases x<;>simp[Ls]at h
 |x::xs,y::ys,ks,h,h'=>by
  cases x<;>simp only[Ls]at h<;>first|(cases h;done)|skip
  all_goals (obtain⟨l,e1,rfl⟩:=IG.mp h)
  all_goals (cases y<;>simp only[Ls]at h'<;>first|(cases h';done)|skip)
  all_goals (obtain⟨l',e2,e3⟩:=IG.mp h')
  all_goals (injection e3 with e4 e5)
  all_goals first|(injection e4;done)|skip
  all_goals (injection e4 with e4;subst e4 e5;rw[a0m e1 e2])
def b3n(h:aP_)(h':co!):x=y:=by
 cases x<;>simp only[De]at h<;>first|(cases h;done)|skip
 all_goals (cases y<;>simp only[De]at h'<;>first|(cases h';done)|skip)
 all_goals first
  |rfl
  |(cases h;cases h';rfl)
  |(cases h;cases h')
  |(cases h;obtain⟨l,e1,e2⟩:=IG.mp h';cases e2)
  |(cases h';obtain⟨l,e1,e2⟩:=IG.mp h;cases e2)
  |(obtain⟨l,e1,e2⟩:=IG.mp h;obtain⟨l',e3,e4⟩:=IG.mp h';cases e2;cases e4;rw[a0m e1 e3])
def Cz(K:yN!)(G:Hp)(d:D)(u:yh!):Prop:=∃v,Av K G d v/\Bq v u
def Cz.mono{K:yN!}{G G':Hp}(e:kT!)(h:Cz K G d u):Cz K G' d u:=let⟨v,h1,h2⟩:=h;⟨v,h1.mono e,h2⟩
def a5y{K:yN!}{G:Hp}:∀{ds:c_} {vs:m_} {ks:pn_},Am K G ds vs->Ls ds=some ks->vs=ks.map kV
 |[],vs,ks,r,e=>by cases cX r;cases e;rfl
 |d::ds,vs,ks,r,e=>by
  obtain⟨v,t,rfl,r1,r2⟩:=bR r;cases d<;>simp only[Ls]at e<;>first|(cases e;done)|skip
  all_goals (obtain⟨l,e1,rfl⟩:=IG.mp e;rw[a5y r2 e1])
  .cases aY r1;rfl
  .cases cJ r1;rfl
def rS{X:Cx}{B:o_}{Z:St}{G H:Hp}{s:yM!}(I:d_)(sub:I_)(r:b0!)(e:bq_):Kk X.prog X.w s.heap k u:=by
 obtain⟨v,r,ru⟩:=r;cases d<;>simp only[De]at e<;>first|(cases e;done)|skip
 .cases e;cases eH r;exact ru
 .cases e;cases aY r;obtain⟨t,rfl⟩:=ru;exact a0o _ _
 .cases e;cases cJ r;obtain⟨t,rfl⟩:=ru;exact sP _ _
 .obtain⟨ks,e1,rfl⟩:=IG.mp e;obtain⟨a,vs,rfl,q,rr⟩:=bQ r;cases ru;show"#/";rw[a5y rr e1]at rv;exact⟨a,rfl,o,be!,n,h1,h2,h3,by simpa using sQ rv⟩
open Classical in
nonrec def kget:List aC!->D->Option D
 |[],_=>none
 |(k,v)::r,d=>if k=d then some v else kget r d
open Classical in
def At:List aC!->D->D->List aC!
 |[],d,v=>[(d,v)]
 |(k,x)::r,d,v=>if k=d then(k,v)::r else(k,x)::At r d v
open Classical in
def Gp:List aC!->D->List aC!
 |[],_=>[]
 |(k,x)::r,d=>if k=d then r else(k,x)::Gp r d
section
variable{P:yJ!}{w:ys!}{K:yN!}{G G':Hp}
variable (P w K G)in
def DB(p:D×D)(e:DictEntry):Prop:=Cz K G p.1 e.key/\Cz K G p.2 e.val/\∃k,De p.1=some k/\e.hash=mkHash P w k
variable (P w K G)in
def Hx(kvs:i_)(es:ad_):Prop:=Paired (DB P w K G) kvs es/\(fK_).Nodup
def Hx.mono{es:ad_}(e:kT!)(h:fL!):Hx P w K G' kvs es:=
 ⟨Paired.mapP h.1 λp q z=>⟨z.1.mono e,z.2.1.mono e,z.2.2⟩,h.2⟩
def Iy(kvs:i_):List MK:=kvs.map λp=>(De p.1).getD none
def gM{α β:Type}{F:cZ!}:∀{l:O_} {m:dJ_} {i:Nat} {a:α},Paired F l m->l[i]?=some a->∃b,m[i]?=some b/\F a b
 |_,_,_,_,.nil,e=>by simp at e
 |_,_,0,_,.cons r _,e=>by simp at e;subst e;exact lL_
 |_,_,i+1,a,.cons _ t,e=>by
  obtain⟨b,h1,h2⟩:=gM (i:=i) (a:=a) t cX_;exact⟨b,lM!,h2⟩
def jM{α β:Type}{F:cZ!}:∀{l l':O_} {m m':dJ_},Paired F l m->Paired F l' m'->Paired F (l++l') (m++m')
 |_,_,_,_,.nil,h=>h
 |_,_,_,_,.cons r t,h=>.cons r (jM t h)
def nZ{α β:Type}{F:cZ!}{f:α->α}{g:β->β}:∀{l:O_} {m:dJ_} (j:Nat),Paired F l m->(∀a b,l[j]?=some a->m[j]?=some b->F a b->F (f a) (g b))->Paired F (l.modify j f) (m.modify j g)
 |_,_,j,.nil,_=>by simpa using Paired.nil
 |_,_,0,.cons r t,h=>.cons (h _ _ rfl rfl r) t
 |_,_,j+1,.cons r t,h=>.cons r (nZ j t λa b e1 e2=>h a b (by simpa using e1) (by simpa using e2))
def pS{α β:Type}{F:cZ!}:∀{l:O_} {m:dJ_} (j:Nat),Paired F l m->Paired F (l.eraseIdx j) (m.eraseIdx j)
 |_,_,_,.nil=>.nil
 |_,_,0,.cons _ t=>t
 |_,_,j+1,.cons r t=>.cons r (pS j t)
def Hx.ents{X:Cx}{B:o_}{Z:St}{H:Hp}{s:yM!}{es:ad_}(I:d_)(sub:I_)(h:Hx X.prog X.w X.K G kvs es):On X.prog X.w s.heap es.toArray fL_:=by
 obtain⟨h1,h2⟩:=h;refine⟨by simp[Iy,NR h1],λi e k he hk=>?_,?_⟩
 .rw[MZ]at he;unfold Iy at hk;rw[JM]at hk;obtain⟨p,hp,rfl⟩:=IG.mp hk;obtain⟨e',ce,q1,_,k',q2,q3⟩:=gM h1 hp;rw[he]at ce;cases ce;rw[q2];exact⟨rS I sub q1 q2,q3⟩
 .have km:∀{l:i_} {m:ad_},Paired (DB X.prog X.w X.K G) l m->(eB_).Nodup->(Iy l).Nodup:=by
   intro l m hp
   induction hp with
   |nil=>intro _;exact NO
   |@cons p e l m q t ih=>
    intro nd;rw[II,IV]at nd;show(_::Iy l).Nodup;rw[IV];refine⟨cR_,ih nd.2⟩;obtain⟨p',br,e'⟩:=IS.mp z;obtain⟨_,_,k,hk,_⟩:=q;obtain⟨i,hi⟩:=NU.mp br;obtain⟨_,_,_,_,k',cr,_⟩:=gM t hi;dsimp only at e';rw[hk,cr]at e';have:k'=k:=e';subst this;exact nd.1 (IS.mpr ⟨p',br,b3n cr hk⟩)
  exact km h1 h2
def Hx.look{kvs:i_}{es:ad_}(h:fL!)(hd:bq_):
  (Mo fL_ k=none/\kget kvs d=none/\(∀v,At kvs d v=kvs++[(d,v)])/\d∉kvs.map c!)\/∃j x e,Mo fL_ k=some j/\kvs[j]?=some dA_/\es[j]?=some e/\kget kvs d=some x/\Cz K G x e.val/\(∀v,At kvs d v=kvs.modify j λp=>(p.1,v))/\Gp kvs d=kvs.eraseIdx j:=by
 obtain⟨h1,h2⟩:=h
 induction h1 with
 |nil=>exact .inl ⟨rfl,rfl,gI_,G_⟩
 |@cons p e l m q t ih=>
  obtain⟨y,z⟩:=p;rw[II,IV]at h2;obtain⟨_,q2,k',q3,_⟩:=q;have q3:De y=some k':=q3;have nv:Iy ((y,z)::l)=k'::Iy l:=by unfold Iy;rw[II,q3];rfl
  by_cases hy:y=d
  .subst hy;rw[hd]at q3;cases q3;refine .inr ⟨0,z,e,?_,rfl,rfl,by simp[kget],q2,λv=>by simp[At,List.modify],by simp[Gp]⟩;rw[nv];unfold Mo;rw[List.findIdx?_cons];simp
  .have bf:k'≠k:=λe=>hy (b3n q3 (e▸hd));have cr:Mo (Iy ((y,z)::l)) k=(Mo (Iy l) k).map (·+1):=by
    rw[nv];unfold Mo;rw[List.findIdx?_cons];simp[bf]
   obtain⟨i1,i2,i3,i4⟩|⟨j,x,e',i1,i2,i3,i4,i5,i6,i7⟩:=ih h2.2
   .refine .inl ⟨y6!,by simp[kget,hy,i2],λv=>by simp[At,hy,i3 v],?_⟩;rw[II,HY,PD];exact⟨λe=>hy e.symm,i4⟩
   .exact .inr ⟨j+1,x,e',y6!,by simpa using i2,by simpa using i3,by simp[kget,hy,i4],i5,λv=>by simp[At,hy,i6 v],by simp[Gp,hy,i7]⟩
def Hx.put{es:ad_}(h:fL!)(hd:bq_)(ru:Cz K G d u)(rv:Cz K G x v):Hx P w K G pD_ (Yz es (Mo fL_ k) dx! u v):=by
 obtain⟨i1,i2,i3,i4⟩|⟨j,y,e',i1,i2,i3,i4,i5,i6,i7⟩:=h.look hd
 .rw[i1,i3];refine⟨jM h.1 (.cons ⟨ru,rv,k,hd,rfl⟩ .nil),?_⟩;rw[JF,JJ];refine⟨h.2,G_,λa ha b hb e=>?_⟩;simp at hb;subst hb e;exact i4 ha
 .rw[i1,i6];refine⟨nZ j h.1 λa b _ _ q=>⟨q.1,rv,q.2.2⟩,?_⟩;have:∀(l:i_) (j:Nat),(l.modify j λp=>(p.1,x)).map c!=l.map c!:=by
   intro l
   induction l with
   |nil=>intro j;simp
   |cons p l ih=>
    intro j;cases j with
    |zero=>simp
    |succ j=>simp[ih j]
  rw[this];exact h.2
def Hx.del{kvs:i_}{es:ad_}{j:Nat}(h:fL!):Hx P w K G (kvs.eraseIdx j) yW_:=by refine⟨pS j h.1,?_⟩;exact h.2.sublist ((List.eraseIdx_sublist kvs j).map _)
end
inductive Pe where
 |lst (xs:c_)|dct (kvs:i_) (ep:Nat)|obj (C:xY!) (fs:aP!)
abbrev Mh:=Addr->Option Pe
def Az(M:Mh)(a:xY!)(c:Pe):Mh:=λb=>if b=a then some c else M b
def mup_same{M:Mh}{a:xY!}{c:Pe}:Az M a c a=some c:=by unfold Az;rw[l_]
def mup_ne{M:Mh}{a b:xY!}{c:Pe}(h:b≠a):Az M a c b=M b:=by unfold Az;rw[IA h]
nonrec def dE(a:xY!)(es:ad_)(ep:Nat):HO:=.ext λh=>Oo h a es ep/\dJ!=false/\ag!<=big
def Om(K:yN!)(G:Hp):List cl_->List dI_->Prop:=Paired λp q=>p.1=q.1/\Av K G p.2 q.2
section
variable(P:yJ!)(w:ys!)(K:yN!)
def He(G H:Hp)(a:xY!):Pe->Prop
 |.lst xs=>∃vs,H a=some cJ_/\Am K G xs vs
 |.dct kvs ep=>∃es,H a=some kU_/\Hx P w K G kvs es
 |.obj C fs=>∃dx vs,H a=some y8!/\Om K G fs vs
structure MR(M:Mh)(G H:Hp):Prop where
 cell:∀a c,M a=some c->G a=none/\He P w K G H a c
end
structure XM(M:Mh)(G H:Hp)(M':Mh)(G' H':Hp):Prop where
 g:Bj G G'
 sub:Bj G' H'
 new:∀b,G' b≠none->G b≠none\/H b=none
 keep:∀b o,H b=some o->M b=none->H' b=some o
 dom:∀b,M' b≠none->M b≠none\/H b=none
 cells:∀b,M b≠none->M' b≠none
def XM.refl{M:Mh}{G H:Hp}(s:I_):XM M G H M G H:=⟨fo_,s,dn!,λ_ _ h _=>h,dn!,λ_ h=>h⟩
def XM.free{M M':Mh}{G H G' H':Hp}{b:xY!}(x:kV!)(hM:M b=none)(h:H' b=none):H b=none:=by
 cases e:H b with
 |none=>rfl
 |some o=>rw[x.keep b o e hM]at h;cases h
section
variable{P:yJ!}{w:ys!}{K:yN!}{M M1 M2:Mh}{G H G' H' G1 H1 G2 H2:Hp}
def Om.mono{fs:aP!}{vs:eM!}(e:kT!)(h:Om K G fs vs):Om K G' fs vs:=Paired.mapP h λ_ _ z=>⟨z.1,z.2.mono e⟩
def He.mono{a:xY!}{c:Pe}(e:kT!)(h:y9!)(hH:H' a=H a):He P w K G' H' a c:=by
 cases c with
 |lst xs=>obtain⟨vs,h1,h2⟩:=h;exact⟨vs,pF!,pF_⟩
 |dct kvs ep=>obtain⟨es,h1,h2⟩:=h;exact⟨es,pF!,pF_⟩
 |obj C fs=>obtain⟨dx,vs,h1,h2⟩:=h;exact⟨dx,vs,pF!,pF_⟩
def He.has{a:xY!}{c:Pe}(h:y9!):H a≠none:=by
 cases c with
 |lst xs=>obtain⟨vs,h1,h2⟩:=h;rw[h1];simp
 |dct kvs ep=>obtain⟨es,h1,h2⟩:=h;rw[h1];simp
 |obj C fs=>obtain⟨dx,vs,h1,h2⟩:=h;rw[h1];simp
def MR.has(m:co_){c:xY!}(h:M c≠none):H c≠none:=by
 cases e:M c with
 |none=>exact absurd e h
 |some q=>exact(m.cell c q e).2.has
def XM.trans(a:XM M G H M1 G1 H1)(b:XM M1 G1 H1 M2 G2 H2)(m:y9_):XM M G H M2 G2 H2 where
 g:=a.g.trans b.g
 sub:=b.sub
 new:=λc h=>by
  obtain z|z:=b.new c h
  .exact a.new c z
  .cases hM:M c with
   |none=>exact .inr (a.free hM z)
   |some q=>exact absurd z (m.has (a.cells c za_))
 keep:=λc o h hM=>by
  refine b.keep c o (a.keep c o h hM) ?_;cases e:M1 c with
  |none=>rfl
  |some q=>
   rcases a.dom c pG_ with z|z
   .exact absurd hM z
   .rw[h]at z;cases z
 dom:=λc h=>by
  obtain z|z:=b.dom c h
  .exact a.dom c z
  .cases hM:M c with
   |none=>exact .inr (a.free hM z)
   |some q=>exact .inl d!
 cells:=λc h=>b.cells c (a.cells c h)
def XM.ext(x:j2!):XM M G H M G' H':=⟨x.g,x.sub,x.new,λb o h _=>x.h b o h,dn!,λ_ h=>h⟩
def MR.ext(m:co_)(x:j2!):MR P w K M G' H':=⟨λa c e=>by
 obtain⟨h1,h2⟩:=m.cell a c e;have hn:H a≠none:=h2.has;refine zb!
 .cases q:G' a with
  |none=>rfl
  |some o=>
   rcases x.new a cg! with z|z
   .exact absurd h1 z
   .exact absurd z hn
 .cases q:H a with
  |none=>exact absurd q hn
  |some o=>exact x.h a o q⟩
end
structure Tf(P:yJ!)(w:ys!)(K:yN!)(own:k!)(G H:Hp)(Z:St)(ρ:Ae)(M:Mh):Prop where
 or:OR K own G H Z ρ
 mr:MR P w K M G H
 dj:∀i∈own,∀p,Z[i]?=some cj!->M p=none
section
variable{P:yJ!}{w:ys!}{K:yN!}{own:List Nat}{M M' M1 M2:Mh}{G H G' H' G1 H1 G2 H2:Hp}{Z:St}{ρ:Ae}
def OR.growM(h:cj_)(x:kV!)(dj:∀i∈own,∀p,Z[i]?=some cj!->M p=none):OR K own G' H' Z ρ where
 sub:=x.sub
 len:=h.len
 at_:=λi d q n=>let⟨v,h1,h2⟩:=h.at_ i d q n;we!
 own_:=λi hi=>by
  obtain⟨p,ds,vs,h1,h2,h3,h4,h5⟩:=h.own_ i hi;refine⟨p,ds,vs,h1,h2,x.keep _ _ h3 (dj i hi p h2),?_,h5.mono x.g⟩;cases q:G' p with
  |none=>rfl
  |some o=>
   rcases x.new p cg! with z|z
   .exact absurd h4 z
   .rw[h3]at z;cases z
 dis:=h.dis
def Tf.grow(s:hP!)(x:kV!)(m:zc!):Tf P w K own G' H' Z ρ M':=
 ⟨s.or.growM x s.dj,m,λi hi p e=>by
  cases q:M' p with
  |none=>rfl
  |some c=>
   obtain⟨p',ds,vs,h1,h2,h3,h4,h5⟩:=s.or.own_ i hi;rw[e]at h2;cases h2;rcases x.dom p cg! with z|z
   .exact absurd (s.dj i hi p e) z
   .rw[h3]at z;cases z⟩
end
abbrev WE:=Ae->Mh->zd!->Prop
abbrev WA:=Ae->Mh->zd_->Prop
abbrev WT:=Ae->Mh->(Bool->Mh->Prop)->Prop
section
variable(P:yJ!)(w:ys!)(K:yN!)(own:List Nat)
inductive BK(f:WE)(Z:St)(H:Hp)(Q:VK):Prop
 |mk (G:Hp) (ρ:Ae) (M:Mh) (R:r!) (st:hP!) (e:hP_) (k:∀d M' v G' H',R d M'->XM M G H M' G' H'->MR P w K M' G' H'->Av K G' d v->Q v H'):BK f Z H Q
inductive FV(f:WA)(Z:St)(H:Hp)(Q:c2!):Prop
 |mk (G:Hp) (ρ:Ae) (M:Mh) (R:kV_) (st:hP!) (e:hP_) (k:∀d M' v G' H',R d M'->XM M G H M' G' H'->MR P w K M' G' H'->Am K G' d v->Q v H'):FV f Z H Q
inductive Zl(f:WT)(Z:St)(H:Hp)(Q:dO!):Prop
 |mk (G:Hp) (ρ:Ae) (M:Mh) (R:fN_) (st:hP!) (e:hP_) (k:∀d M' G' H',R d M'->XM M G H M' G' H'->MR P w K M' G' H'->Q d H'):Zl f Z H Q
end
structure ME(X:Cx)(own:k!)(e:Expr)(f:WE):Prop where
 ok:PE X e (BK X.prog X.w X.K own f)
structure MA(X:Cx)(own:k!)(es:bL_)(f:WA):Prop where
 ok:PA X es (FV X.prog X.w X.K own f)
structure MT(X:Cx)(own:k!)(e:Expr)(f:WT):Prop where
 ok:PT X e ze!
structure MW(X:Cx)(own:k!)(e:Expr)(f:WT):Prop where
 ok:PW X e ze!
nonrec def wl(f:e!):WE:=λρ M R=>match f ρ with|some d=>R d M|none=>False
def Cv(f:ac_):WT:=λρ M R=>match f ρ with|some d=>R d M|none=>False
section
variable{X:Cx}{own:List Nat}{e a b c:Expr}{es rest:List Expr}{pos:Pos}{f fa fb fc:WE}{fs:WA}{ft fu:WT}{g:Ae->Option D}{gs:Ae->Option (List D)}{gt:Ae->Option Bool}
def eL{t:TE}(h:iB_)(hw:∀Z G H Q ρ M R,Tf X.prog X.w X.K own G H Z ρ M->f ρ M R->(∀d M' v G' H',R d M'->XM M G H M' G' H'->MR X.prog X.w X.K M' G' H'->Av X.K G' d v->Q v H')->t Z H Q):ME X own e f:=
 ze_
def c7m{t:TA}(h:gK_)(hw:∀Z G H Q ρ M R,Tf X.prog X.w X.K own G H Z ρ M->fs ρ M R->(∀d M' v G' H',R d M'->XM M G H M' G' H'->MR X.prog X.w X.K M' G' H'->Am X.K G' d v->Q v H')->t Z H Q):MA X own es fs:=
 ⟨λp B s Z H Q I ⟨G,ρ,M,R,st,e,k⟩=>h p B s Z H Q I pH!⟩
def b3l{t:TT}(h:PT X e t)(hw:zf!):MT X own e ft:=
 ze_
def c7h{t:TT}(h:PW X e t)(hw:zf!):MW X own e ft:=
 ⟨λwh B s Z H Q I ⟨G,ρ,M,R,st,e,k⟩=>h wh B s Z H Q I pH!⟩
def c3c{ρ:Ae}{M:Mh}{R:r!}(h:wl g ρ M R):∃d,g ρ=some d/\R d M:=by
 unfold wl at h;split at h
 .exact zf_
 .exact h.elim
def b7e{ρ:Ae}{M:Mh}{R:fN_}(h:Cv gt ρ M R):∃d,gt ρ=some d/\R d M:=by
 unfold Cv at h;split at h
 .exact zf_
 .exact h.elim
def aB(h:DE X own e g):ME X own e (wl g):=eL h.ok λZ G H Q ρ M R st e' k=>by
 obtain⟨d,e1,e2⟩:=c3c e';exact⟨G,ρ,d,st.or,e1,λv G' H' x r=>k d M v G' H' e2 (.ext x) pI! r⟩
def eQ(h:DT X own e gt):MT X own e (Cv gt):=b3l h.ok λZ G H Q ρ M R st e' k=>by
 obtain⟨d,e1,e2⟩:=b7e e';exact⟨G,ρ,d,st.or,e1,λG' H' x=>k d M G' H' e2 (.ext x) pI!⟩
def Af:WA:=λ_ M R=>R [] M
def Ab(f:WE)(fs:WA):WA:=λρ M R=>f ρ M λd M1=>fs ρ M1 λds M2=>R eg_ M2
def aJ:MA X own [] Af:=c7m fZ λZ G H Q ρ M R st e k=>k [] M [] G H e pI_ st.mr Am.nil
def aD(h:b1!)(hs:fO!)(bz:ao_:=by rfl):MA X own aJ_ (Ab f fs):=
 c7m wv_ λZ G H Q ρ M R st e' k=>⟨G,ρ,M,_,st,e',λd M1 v G1 H1 r1 x1 m1 q1=>⟨G1,ρ,M1,_,st.grow x1 m1,r1,λds M2 vs G2 H2 r2 x2 m2 q2=>
  k _ M2 _ G2 H2 r2 cp! m2 (Am.cons b1_ q2)⟩⟩
def Yg(P:yJ!)(w:ys!)(K:yN!)(r:R2)(g:br_):Prop:=∀{x y:V} {dx dy d:D} {M:Mh} {G H:Hp} {Q:VK},Bj G H->MR P w K M G H->Av K G dx x->Av K G dy y->g M dx dy=some d->j4!->r x y H Q
def Ia.m{P:yJ!}{w:ys!}{K:yN!}{r:R2}{g:aW_}(h:Ia K r g):Yg P w K r (λ_=>g):=λs _ rx ry e k=>h s rx ry e k
nonrec def w2(g:br_)(fa fb:WE):WE:=λρ M R=>fa ρ M λx M1=>fb ρ M1 λy M2=>match g M2 x y with|some d=>R d M2|none=>False
def c3h{r:R2}{gm:br_}(hg:hR!){Z:St}{G H:Hp}{Q:VK}{ρ:Ae}{M:Mh}{R:r!}(st:zi!)(e:w2 gm fa fb ρ M R)
  (k:∀d M' v G' H',R d M'->XM M G H M' G' H'->MR X.prog X.w X.K M' G' H'->Av X.K G' d v->Q v H'):BF r (BK X.prog X.w X.K own fa) (BK X.prog X.w X.K own fb) Z H Q:=
 ⟨G,ρ,M,_,st,e,λx M1 u G1 H1 r1 x1 m1 q1=>⟨G1,ρ,M1,_,st.grow x1 m1,r1,λy M2 v G2 H2 r2 x2 m2 q2=>by
  have r2:(match gm M2 x y with|some d=>R d M2|none=>False):=r2;split at r2
  .rename_i d hd;exact hg x2.sub m2 b1_ q2 hd λz G3 H3 x3 q3=>k d M2 z G3 H3 r2 ((cp!).trans (.ext x3) m2) (m2.ext x3) q3
  .exact r2.elim⟩⟩
def a0f{op:Operator}{r:R2}{gm:br_}(ho:mI_)(hg:hR!)(ha:am_)(hb:cp_):ME X own mJ! kX_:=
 eL wk! λZ G H Q ρ M R st e k=>c3h hg st e k
def jP{op:CmpOp}{r:R2}{gm:br_}(ho:b9_)(hg:hR!)(ha:am_)(hb:cp_)(hm:dP_):ME X own dQ! kX_:=
 eL wk_ λZ G H Q ρ M R st e k=>c3h hg st e k
def bZ{r:R2}{gm:br_}(J:Wt X r)(hg:hR!)(ha:am_)(hb:cp_)(hs:Qc b):ME X own nB! kX_:=
 eL wl! λZ G H Q ρ M R st e k=>c3h hg st e k
nonrec def wT(f:WE):WT:=λρ M R=>f ρ M λd M1=>match d with|.bl b=>R b M1|_=>False
def cN{op:CmpOp}{r:R2}{gm:br_}(ho:b9_)(hg:hR!)(ha:am_)(hb:cp_)(hm:dP_):MT X own dQ! (wT kX_):=
 b3l wm! λZ G H Q ρ M R st e k=>c3h (own:=own) (Q:=wm_) hg st e λd M' v G' H' r' x' m' q'=>by
  cases d<;>first|exact r'.elim|skip
  cases cV q';exact zj_
def fL(h:b1!)(he:iC!:=by intro _;rfl):MT X own e (wT f):=
 b3l (b8p h.ok he) λZ G H Q ρ M R st e k=>⟨G,ρ,M,_,st,e,λd M' v G' H' r' x' m' q'=>by
  cases d<;>first|exact r'.elim|skip
  cases cV q';exact zj_⟩
def Gx(ft fu:WT):WT:=λρ M R=>ft ρ M λb M1=>if b then fu ρ M1 R else R false M1
def Ut(ft fu:WT):WT:=λρ M R=>ft ρ M λb M1=>if b then R true M1 else fu ρ M1 R
def Mj(ft:WT):WT:=λρ M R=>ft ρ M λb M1=>R (!b) M1
def kX(h:hR_):MW X own mh_ ft:=wo!
def sJ(h:hR_):MW X own mi! ft:=wo_
def oW(ha:hR_)(hb:MW X own eR! fu):MW X own eR_ (Gx ft fu):=
 c7h wp! λZ G H Q ρ M R st e k=>⟨G,ρ,M,_,st,e,λx M1 G1 H1 r1 x1 m1=>by
  cases x with
  |true=>exact mP zk_
  |false=>exact mQ zl!⟩
def a0b(ha:hR_)(hb:MW X own eS! fu):MW X own eS_ (Ut ft fu):=
 c7h wq! λZ G H Q ρ M R st e k=>⟨G,ρ,M,_,st,e,λx M1 G1 H1 r1 x1 m1=>by
  cases x with
  |false=>exact mQ zk_
  |true=>exact mP zl!⟩
def sK(h:MW X own e ft):MT X own e ft:=⟨h.ok.pt⟩
def oX(h:hR_):MT X own eT_ (Mj ft):=
 b3l (b8r h.ok) λZ G H Q ρ M R st e k=>⟨G,ρ,M,_,st,e,λx M1 G1 H1 r1 x1 m1=>k _ M1 G1 H1 r1 x1 m1⟩
def Iq(fa fb:WE):WE:=λρ M R=>wT fa ρ M λb M1=>if b then fb ρ M1 R else R S_ M1
def Wf(fa fb:WE):WE:=λρ M R=>wT fa ρ M λb M1=>if b then R B_ M1 else fb ρ M1 R
def Xb(fa:WE):WE:=λρ M R=>wT fa ρ M λb M1=>R (.bl (!b)) M1
def sL{op:BoolOp}(h:am_):ME X own mj! fa:=wr!
def sM(ha:am_)(hb:ME X own eR! fb):ME X own eR_ (Iq fa fb):=
 eL wr_ λZ G H Q ρ M R st e k=>⟨G,ρ,M,_,st,e,λd M1 v G1 H1 r1 x1 m1 q1=>by
  cases d<;>first|exact r1.elim|skip
  rename_i x;cases cV q1;refine j8!;cases x with
  |true=>exact mP kZ_
  |false=>exact mQ zm_⟩
def c7k(ha:am_)(hb:ME X own eS! fb):ME X own eS_ (Wf fa fb):=
 eL wu! λZ G H Q ρ M R st e k=>⟨G,ρ,M,_,st,e,λd M1 v G1 H1 r1 x1 m1 q1=>by
  cases d<;>first|exact r1.elim|skip
  rename_i x;cases cV q1;refine j8!;cases x with
  |false=>exact mQ kZ_
  |true=>exact mP zm_⟩
def c9g(ha:am_):ME X own eT_ (Xb fa):=
 eL (b9h ha.ok) λZ G H Q ρ M R st e k=>⟨G,ρ,M,_,st,e,λd M1 v G1 H1 r1 x1 m1 q1=>by
  cases d<;>first|exact r1.elim|skip
  cases cV q1;exact⟨_,rfl,k _ M1 _ G1 H1 r1 x1 m1 Av.bl⟩⟩
def BJ(ft:WT)(fa fb:WE):WE:=λρ M R=>ft ρ M λb M1=>if b then fa ρ M1 R else fb ρ M1 R
def c7l(L:pL!)(ha:am_)(hb:cp_):ME X own mk_ (BJ ft fa fb):=
 eL wv! λZ G H Q ρ M R st e k=>⟨G,ρ,M,_,st,e,λx M1 G1 H1 r1 x1 m1=>by
  cases x with
  |true=>exact mP kZ_
  |false=>exact mQ kZ_⟩
def Ux(fs:WA):WE:=λρ M R=>fs ρ M λds M1=>f_<=1000/\R dm! M1
def Yk(fs:WA):WE:=λρ M R=>fs ρ M λds M1=>f_<=1000/\R ci! M1
def c0n{n:Nat}(h:fO!):ME X own (.Tuple es n pos) (Ux fs):=
 eL (b9e h.ok) λZ G H Q ρ M R st e k=>⟨G,ρ,M,_,st,e,λds M1 vs G1 H1 r1 x1 m1 q1=>⟨by rw[<-aI q1];exact eZ r1.1,λp hp=>
  k _ M1 _ _ _ r1.2 zn_ (m1.ext pL_) (fS zo! q1)⟩⟩
def c9h(h:fO!):ME X own je! (Yk fs):=
 eL kb! λZ G H Q ρ M R st e k=>⟨G,ρ,M,_,st,e,λds M1 vs G1 H1 r1 x1 m1 q1=>⟨by rw[<-aI q1];exact eZ r1.1,λp hp=>
  k _ M1 _ _ _ r1.2 zn_ (m1.ext pL_) (cM zo! q1)⟩⟩
end
section
variable{P:yJ!}{w:ys!}{K:yN!}{M:Mh}{G H:Hp}{p a:xY!}{o:HO}{c c0:Pe}
def MR.nocell(m:co_)(h:cJ!):M p=none:=by
 cases e:M p with
 |none=>rfl
 |some q=>exact absurd h (m.has pG_)
def XM.laid(s:I_)(hp:cJ!):XM M G H (Az M p c) G fo!:=by
 show"#3";refine⟨fo_,λb u e=>by rw[aW (ne (s b u e))];exact s b u e,dt!,λb u e _=>by rw[aW (ne e)];exact e,bn!,bn!⟩
 .by_cases hb:b=p
  .subst hb;exact .inr hp
  .rw[bs!]at h;exact .inl h
 .by_cases hb:b=p
  .subst hb;rw[mup_same];simp
  .rw[bs!];exact h
def MR.laid(m:co_)(hp:cJ!)(s:I_)(h:He P w K G fo! p c):MR P w K (Az M p c) G fo!:=⟨λb q e=>by
 by_cases hb:b=p
 .show"#(";exact⟨s.free hp,h⟩
 .rw[bs!]at e;obtain⟨h1,h2⟩:=m.cell b q e;exact zp!⟩
def XM.write(m:co_)(s:I_)(ha:M a=some c0):XM M G H (Az M a c) G cZ_:=by
 have hG:=(m.cell a c0 ha).1;refine⟨fo_,λb u e=>by rw[aW (cL e hG)];exact s b u e,dt!,λb u e hb=>?_,bn!,bn!⟩
 .have:b≠a:=λz=>by subst z;rw[ha]at hb;cases hb
  rw[aW this];exact e
 .show"#8"
  .subst hb;exact .inl (by rw[ha];simp)
  .rw[bs!]at h;exact .inl h
 .show"#8"
  .subst hb;rw[mup_same];simp
  .rw[bs!];exact h
def MR.write(m:co_)(ha:M a=some c0)(h:He P w K G cZ_ a c):MR P w K (Az M a c) G cZ_:=⟨λb q e=>by
 show"#8"
 .show"#(";exact⟨(m.cell _ c0 ha).1,h⟩
 .rw[bs!]at e;obtain⟨h1,h2⟩:=m.cell b q e;exact zp!⟩
end
open Classical in
def Gb(kvs:i_)(d:D)(ep:Nat):Nat:=if(dC!).isSome then ep else ep+1
def GP(K:yN!)(G:Hp):Option D->Option Value->Prop
 |some d,some u=>Cz K G d u
 |none,none=>True
 |_,_=>False
section
variable{X:Cx}{B:List (Addr×Obj)}{Z:St}{G H:Hp}{s:yM!}{M:Mh}{a:xY!}{kvs:List (D×D)}{ep:Nat}{A:yg!}{E:Value->Shared->Prop}{d x:D}{k:MK}{u v:yh!}
def eO(I:d_)(m:bJ!)(sub:I_)(e:cq!):∃es,H a=some kU_/\Hx X.prog X.w X.K G kvs es/\Oo s.heap a es ep/\dJ!=false/\ag!<=big/\On X.prog X.w s.heap es.toArray fL_:=by obtain⟨es,h1,h2⟩:=(m.cell a _ e).2;obtain⟨⟨h3,h4,h5⟩,_⟩:=(show Fd X.prog X.w H s.heap a kU_ from I.hok a _ h1);exact⟨es,h1,h2,h3,h4,h5,h2.ents I sub⟩
def a4p{t':Nat}{es ar:ad_}{bd:Nat}(I:d_)(e:H a=some kU_)(D':Oo h' a ar bd)(hs:ve!)(hn:dJ!=false)(hl:ar.length<=big):Inv X B Z (upd H a (dE a ar bd)) {s with heap:=h',toks:=t'}:=by refine c6l I tk! hs (let⟨o,h,_⟩:=D';pN!) ⟨⟨D',hn,hl⟩,let⟨o,h,_⟩:=D';pN!,zp_⟩;obtain⟨⟨o,z1,z2,z3⟩,z4⟩:=z;exact k0_
def a4r{Q:cQ!}(hu:ar!)(I:d_)(m:bJ!)(sub:I_)(e:cq!)(r:b0!)(hk:bq_)
  (h:∀o s',Inv X B Z H s'->GP X.K G dC! o->Q o s'):wpAny e_ A (dictGet a u) Q E s:=by
 obtain⟨es,h1,h2,h3,h4,h5,h6⟩:=eO I m sub e;refine d3g hu h3 h6 hU! λtk=>h _ _ nc_ ?_;obtain⟨i1,i2,i3,i4⟩|⟨j,y,e',i1,i2,i3,i4,i5,i6,i7⟩:=h2.look hk
 .rw[i1,i2];exact jc!
 .rw[i1,i4];show GP X.K G (some y) (es[j]?.map (·.val));rw[i3];exact i5
def kput_len:∀(l:i_) (d x:D),(At l d x).length<=Z!+1
 |[],_,_=>by simp[At]
 |(y,z)::l,d,x=>by
  unfold At;split
  .simp
  .have:=kput_len l d x;simp only[IQ];omega
def b1h{Q:c1!}(hu:ar!)(I:d_)(m:bJ!)(sub:I_)(e:cq!)(r:b0!)(hk:bq_)(rv:k1!)(hl:dC_)
  (h:zq_):wpAny e_ A yT_ Q E s:=by
 obtain⟨es,h1,h2,h3,h4,h5,h6⟩:=eO I m sub e;have ao:=NR h2.1;refine d3f hu h3 h6 hU! fP_ λh' tk D' hs=>?_;have md:=h2.put (x:=x) hk r rv;have p8:Yy (Mo fL_ k) ep=Gb kvs d ep:=by
  unfold Gb;obtain⟨i1,i2,i3,i4⟩|⟨j,y,e',i1,i2,i3,i4,i5,i6,i7⟩:=h2.look hk
  .rw[i1,i2];simp[Yy]
  .rw[i1,i4];simp[Yy]
 rw[p8]at D';have p9:=NR md.1;have:=kput_len kvs d x;exact h _ _ (a4p I h1 D' hs h4 a!) ⟨_,bW,md⟩
def b1i{Q:p!}(hu:eC!)(I:d_)(m:bJ!)(sub:I_)(e:cq!)(r:b0!)(hk:bq_)(Y:zr!)
  (h:∀o s',Inv X B Z H s'->Cz X.K G x o->Q o s'):wpAny e_ A (getItem P! u) Q E s:=by
 obtain⟨es,h1,h2,h3,h4,h5,h6⟩:=eO I m sub e;have hT:=fQ!;unfold getItem;refine JX (HR (wpAny_sequenceKey hT b_ (HR (KB (name:=ud_) hT PySem.slot_dict_getitem (JR PySem.slot_dict_getitem hT PySem.entry_dict_getitem ?_ (PySem.args_dict_getitem _ _))))));show wpAny e_ A.in1 k2! _ _ s;refine HR k2_;rw[Y]at ho;cases o with
 |none=>exact ho.elim
 |some o=>exact HU ⟨o,rfl,HU (h o s' I' ho)⟩
def uB{Q:ex!}(hu:eC!)(I:d_)(m:bJ!)(sub:I_)(e:cq!)(r:b0!)(hk:bq_)
  (h:∀s',Inv X B Z H s'->Q (dC!).isSome s'):wpAny e_ A (contains P! u) Q E s:=by
 obtain⟨es,h1,h2,h3,h4,h5,h6⟩:=eO I m sub e;have hT:=fQ!;unfold contains;refine JX (HR (QB hT QC.lookup ?_));rw[IA (by rw[beq_builtin_none];exact IZ)];refine HR (wpAny_callSpecialUnlessNone?_slot (name:=Str.ofString "__contains__") hT QC (JR QC hT PySem.entry_dict_contains ?_ (PySem.args_dict_contains _ _)));show wpAny e_ A.in1 k2! _ _ s;refine HR k2_;cases o with
 |none=>
  have hn:kget kvs d=none:=by
   cases q:kget kvs d with
   |none=>rfl
   |some y=>rw[q]at ho;exact ho.elim
  have h:=h s' I';rw[hn]at h;exact HR (wpAny_pendingKey_other h4 (HU zr_))
 |some o=>
  have hn:(dC!).isSome=true:=by
   cases q:kget kvs d with
   |none=>rw[q]at ho;exact ho.elim
   |some y=>rfl
  have h:=h s' I';rw[hn]at h;exact HU zr_
def b1g{Q:c1!}(hu:eC!)(I:d_)(m:bJ!)(sub:I_)(e:cq!)(r:b0!)(hk:bq_)(rv:k1!)(hl:dC_)
  (h:zq_):wpAny e_ A (setItem P! u v) Q E s:=by
 obtain⟨es,h1,h2,h3,h4,h5,h6⟩:=eO I m sub e;have hT:=fQ!;unfold setItem;refine JX (HR (wpAny_sequenceKey hT b_ (HR (KB (name:=Str.ofString "__setitem__") hT PySem.slot_dict_setitem (JR PySem.slot_dict_setitem hT PySem.entry_dict_setitem ?_ (PySem.args_dict_setitem _ _ _))))));refine HR (OI hT ?_);show wpAny e_ A.in1 (dictSet a u v>>=_) _ _ s;exact HR (b1h (A:=A.in1) hu I m sub e r hk rv hl λar s' I' c'=>HU ⟨.none,rfl,HU (h ar s' I' c')⟩)
def c6n{Q:p!}(hu:eC!)(I:d_)(m:bJ!)(sub:I_)(e:cq!)(r:b0!)(hk:bq_)
  (h:∀o s',Inv X B Z H s'->Cz X.K G ((dC!).getD .non) o->Q o s'):wpAny e_ A (call zs! [dc!,u]) Q E s:=by
 obtain⟨es,h1,h2,h3,h4,h5,h6⟩:=eO I m sub e;refine JR PF h3.typeIs PySem.F.entry_dict_get ?_ (PySem.F.args_dict_get_2 _ _);show wpAny e_ A.in1 k2! _ _ s;refine HR k2_;cases q:kget kvs d with
 |none=>
  rw[q]at ho;cases o with
  |none=>
   have h:=h .none s' I';rw[q]at h;exact HR (wpAny_missed_other h4 (HU ⟨.none,rfl,h ⟨V.non,Av.non,rfl⟩⟩))
  |some o=>exact ho.elim
 |some y=>
  rw[q]at ho;cases o with
  |none=>exact ho.elim
  |some o=>
   have h:=h o s' I';rw[q]at h;exact HU zs_
def c6m{Q:p!}(hu:eC!)(I:d_)(m:bJ!)(sub:I_)(e:cq!)(r:b0!)(hk:bq_)(rv:k1!)
  (h:∀o s',Inv X B Z H s'->Cz X.K G ((dC!).getD x) o->Q o s'):wpAny e_ A (call zs! [dc!,u,v]) Q E s:=by
 obtain⟨es,h1,h2,h3,h4,h5,h6⟩:=eO I m sub e;refine JR PF h3.typeIs PySem.F.entry_dict_get ?_ (PySem.F.args_dict_get_3 _ _ _);show wpAny e_ A.in1 k2! _ _ s;refine HR k2_;cases q:kget kvs d with
 |none=>
  rw[q]at ho;cases o with
  |none=>
   have h:=h v s' I';rw[q]at h;exact HR (wpAny_missed_other h4 (HU ⟨v,rfl,h rv⟩))
  |some o=>exact ho.elim
 |some y=>
  rw[q]at ho;cases o with
  |none=>exact ho.elim
  |some o=>
   have h:=h o s' I';rw[q]at h;exact HU zs_
def zD{Q:p!}(hu:eC!)(I:d_)(m:bJ!)(sub:I_)(e:cq!)(r:b0!)(hk:bq_)(rv:k1!)(hl:dC_)
  (hs:∀y o s',kget kvs d=some y->Inv X B Z H s'->Cz X.K G y o->Q o s')
  (hn:kget kvs d=none->∀ar s',Inv X B Z k3! s'->He X.prog X.w X.K G k3! a (.dct pD_ bI_)->Q v s'):wpAny e_ A (call (.builtin "dict.setdefault") [dc!,u,v]) Q E s:=by
 obtain⟨es,h1,h2,h3,h4,h5,h6⟩:=eO I m sub e;have ao:=NR h2.1;have hT:=fQ!;refine JR SF hT PySem.F.entry_dict_setdefault ?_ (PySem.F.args_dict_setdefault_3 _ _ _);unfold Builtin.«dict.setdefault» zt_;refine HR pO!;dsimp only;rw[IA (by rw[h4];exact IZ)];obtain⟨i1,i2,i3,i4⟩|⟨j,y,e',i1,i2,i3,i4,i5,i6,i7⟩:=h2.look hk
 .refine HR (qU (A:=A.in1) hu h3 h6 hU! fP_ (λj e tk q=>by rw[i1]at q;cases q) λh' tk _ D' bu=>HU ⟨_,rfl,hn i2 _ _ zu! ⟨_,bW,?_⟩⟩)
  .rw[IT,LQ];omega
  .have:=h2.put (x:=x) hk r rv;rw[i1]at this;show"#H"
 .exact HR (qU (A:=A.in1) hu h3 h6 hU! fP_ (λj' e tk q q2=>by
   rw[i1]at q;cases q;rw[i3]at q2;cases q2;exact HU ⟨_,rfl,hs y _ _ i4 nc_ i5⟩) λh' tk q=>by rw[i1]at q;cases q)
def d0r{Q:p!}(hu:eC!)(I:d_)(m:bJ!)(sub:I_)(e:cq!)(r:b0!)(hk:bq_)(Y:zr!)
  (h:∀ar o s',Inv X B Z k3! s'->He X.prog X.w X.K G k3! a (.dct (Gp kvs d) bI_)->Cz X.K G x o->Q o s'):wpAny e_ A (call (.builtin "dict.pop") [dc!,u]) Q E s:=by
 obtain⟨es,h1,h2,h3,h4,h5,h6⟩:=eO I m sub e;have hT:=fQ!;obtain⟨i1,i2,i3,i4⟩|⟨j,y,e',i1,i2,i3,i4,i5,i6,i7⟩:=h2.look hk
 .rw[i2]at Y;cases Y
 .rw[i4]at Y;cases Y;refine JR PySem.F.slot_dict_pop hT PySem.F.entry_dict_pop ?_ (PySem.F.args_dict_pop_2 _ _);unfold Builtin.«dict.pop» zt_;refine HR pO!;dsimp only;have fin:wpAny e_ A.in1 yX! (λac s'=>∃e o,ac=some e/\e.val=o/\Q o s') E s:=by
   refine d0e (A:=A.in1) hu h3 h6 hU! fP_ i1 i3 λh' tk D' bu=>⟨e',_,rfl,rfl,h _ _ _ zu! ⟨_,bW,?_⟩ i5⟩
   .exact JL (List.length_eraseIdx_le _ _) h5
   .rw[i7];exact h2.del
  obtain⟨o,ho,_,hd⟩:=id h3;have bf:es.toArray.isEmpty=false:=by
   cases es with
   |nil=>simp at i3
   |cons _ _=>rfl
  by_cases hp:(keyPart u).isSome=true
  .rw[IL hp];refine HR ab_;rw[IA IZ];refine HR zu_;subst q1 q2;exact HR zv!
  .rw[IA hp];refine HR (MV ho hd (HR ab_));rw[bf,IA IZ];refine HR zu_;subst q1 q2;exact HR zv!
end
section
variable{X:Cx}{B:List (Addr×Obj)}{Z:St}{H:Hp}{s:yM!}
def a6a{ds es:c_}{A:yg!}(I:d_)(qa:kq!)(qb:Fz X.K H b ws)(rd:hw_)(re:hx!)(hu:ar!)
  (h:ks!):SeqAt.RcNeAt A s P! d7! (!Ij ds es):=by
 obtain⟨us,rv,p1,_⟩:=I.tuple qa;obtain⟨us',ak,p2,_⟩:=I.tuple qb;have h1:=aI rd;have h2:=aI re;have h3:=eX_;have h4:=kt_;have z:=SeqAt.RcNeAt.tuples (A:=A) (e:=ks_) p1 p2 hu kt!;have e:xr_=Ij ds es:=by
  show"#."
  .rw[hl,Nat.min_self,<-hl,ku!,hl];simp
  .rw[ku_];have:(f_==ag!)=false:=by simpa using hl
   rw[this,RF]
 rw[e]at z;exact z
def a9s{ds es:c_}{A:yg!}(I:d_)(qa:oW_)(qb:Fj X.K H b ws)(rd:hw_)(re:hx!)(hu:ar!)
  (h:ks!):SeqAt.RcNeAt A s P! d7! (!Ij ds es):=by
 show"!B";have h4:=kt_;by_cases hl:f_=ag!
 .have z:=SeqAt.RcNeAt.lists (A:=A) (e:=ks_) p1.isList p2.isList oq_ hu kt!;rw[IF,<-h3,<-h1,ku!]at z;exact z
 .rw[ku_];exact SeqAt.RcNeAt.lists_lengths p1.isList p2.isList xs! hu
def b8e(I:d_){A:yg!}(n:cO_)(n':fy!)(hu:ar!)(r:eu!)(r':hx_)(ru:bw_)(au:hy!)(hT:∀xs ys,d=.tup xs->d'=.tup ys->SeqAt.RcNeAt A s u u' k3_)(hL:∀xs ys,d=.lst xs->d'=.lst ys->SeqAt.RcNeAt A s u u' k3_):SeqAt.RcNeAt A s u u' k3_:=by
 show"!i"
 all_goals first|exact hT _ _ rfl rfl|exact hL _ _ rfl rfl|(unfold Ed;(try simp only[QA,MF]);with_reducible first|exact .none_none|exact .same _|exact .none_bool _|exact .none_int _ _|exact .none_str _ _|exact .none_tuple ‹_› hu|exact .none_list ‹_› hu|exact .bool_none _|exact .bool_bool _ _|exact .bool_int _ _ _|exact .bool_str _ _ _|exact .bool_tuple _ ‹_› hu|exact .bool_list _ ‹_› hu|exact .int_none _ _|exact .int_bool _ _ _|exact .int_int _ _ _ _|exact .int_str _ _ _ _|exact .int_tuple _ _ ‹_› hu|exact .int_list _ _ ‹_› hu|exact .str_none _ _|exact .str_bool _ _ _|exact .str_int _ _ _ _|exact .str_str _ _ _ _|exact .str_tuple _ _ ‹_› hu|exact .str_list _ _ ‹_› hu|exact .tuple_none ‹_› hu|exact .tuple_bool _ ‹_› hu|exact .tuple_int _ _ ‹_› hu|exact .tuple_str _ _ ‹_› hu|exact .tuple_list ‹_› ‹_› hu|exact .list_none ‹_› hu|exact .list_bool _ ‹_› hu|exact .list_int _ _ ‹_› hu|exact .list_str _ _ ‹_› hu|exact .list_tuple ‹_› ‹_› hu)
def b8f(I:d_)(d d':D){A:yg!}(n:cO_)(n':fy!)(hu:xt!)(r:eu!)(r':hx_)(ru:bw_)(au:hy!):SeqAt.RcNeAt A s u u' k3_:=
 b8e I n n' a! r r' ru au (λxs ys e e'=>by
  subst e e';obtain⟨a,vs,rfl,q,rr⟩:=bQ r;obtain⟨b,ws,rfl,q',bv⟩:=bQ r';cases ru;cases au;unfold Bh at n n';unfold Hy at hu;unfold Ed;exact a6a I q q' rr bv a! λus us' rv ak=>lH I xs ys A.in1 vs ws us us' n n' fy_ rr bv rv ak) (λxs ys e e'=>by
  subst e e';obtain⟨a,vs,rfl,q,rr⟩:=bP r;obtain⟨b,ws,rfl,q',bv⟩:=bP r';cases ru;cases au;unfold Bh at n n';unfold Hy at hu;unfold Ed;exact a9s I q q' rr bv a! λus us' rv ak=>lH I xs ys A.in1 vs ws us us' n n' fy_ rr bv rv ak)
def AI(K:yN!):R2:=λx y H Q=>∃dx dy,Av K H dx x/\Av K H dy y/\Bh dx=true/\Bh dy=true/\Hy dx<=40/\Q (.bl (!Ed dx dy)) H
def eP(hu:ar_):Gr X sF_ (AI X.K):=by intro B s Z H x y v u Q I rx ry h;obtain⟨dx,dy,r1,r2,n1,n2,hd,q⟩:=h;exact b8f I dx dy n1 n2 a! r1 r2 rx ry X.prog X.w X.xe _ kv_
def Ep:D->D->Option D:=λx y=>if Bh x&&Bh y&&decide (Hy x<=40)then some (.bl (!Ed x y))else none
def sH{K:yN!}:Ia K (AI K) Ep:=by
 show"!/";unfold Ep at e;show"!6"
 .show"!r";cases e;exact xu_
 .cases e
open Classical in
def Uv(K:yN!)(H:Hp)(x:D)(u:yh!):Bool:=decide (∃d,Cz K H d u/\Bh d=true/\Ed d x=true)
open Classical in
def c1v(I:d_)(r:Cz X.K H d u)(n:cO_):Uv X.K H x u=Ed d x:=by
 unfold Uv;cases h:Ed d x with
 |true=>exact JC ⟨d,r,n,h⟩
 |false=>
  refine IN ?_;rintro⟨d',⟨v',r',au⟩,n',h'⟩;obtain⟨v,r,ru⟩:=r;have:=ru.inj au;subst this;rw[a2k I d d' v n n' r r']at h;rw[h]at h';cases h'
def rA(I:d_):∀{ds:c_} {vs:m_} {us:j!},Am X.K H ds vs->Be vs us->Br ds=true->us.any (Uv X.K H x)=ds.any λd=>Ed d x
 |[],vs,us,r,rv,_=>by cases cX r;cases rv;rfl
 |d::ds,vs,us,r,rv,n=>by
  obtain⟨v,t,rfl,r1,r2⟩:=bR r;unfold Br at n;rw[JG]at n;cases rv with
  |cons pz nh=>rw[NA,NA,c1v I ⟨v,r1,pz⟩ n.1,rA I r2 nh n.2]
def qA(I:d_){A:yg!}(rx:Av X.K H x y)(ry:Bq y v)(nx:Bh x=true):∀{ds:c_} {vs:m_} {us:j!},Am X.K H ds vs->Be vs us->Br ds=true->A.units+Dj ds<cLine->∀u∈us,SeqAt.EqAt A s u v (Uv X.K H x u)
 |[],vs,us,r,rv,_,_=>λu hu=>by cases cX r;cases rv;cases hu
 |d::ds,vs,us,r,rv,n,hd=>λu hu=>by
  obtain⟨z,t,rfl,r1,r2⟩:=bR r;unfold Br at n;rw[JG]at n;unfold Dj at hd;cases rv with
  |cons pz nh=>
   obtain rfl|hu:=HY.mp hu
   .rw[c1v I ⟨z,r1,pz⟩ n.1];exact c1y I d x A z y _ _ n.1 nx a! r1 rx pz ry
   .exact qA I rx ry nx r2 nh n.2 a! u hu
def AK(K:yN!)(neg:Bool):R2:=λx y H Q=>∃p ys dx ds,y=.ref p/\oD_/\Av K H dx x/\Am K H ds ys/\Bh dx=true/\Br ds=true/\Dj ds<=40/\Q (.bl (if neg then !(ds.any λd=>Ed d dx)else ds.any λd=>Ed d dx)) H
def c8u(hu:ar_):Gr X jy_ (AK X.K false):=by
 intro B s Z H x y v u Q I rx ry h;obtain⟨p,ys,dx,ds,rfl,hq,r1,r2,n1,n2,hd,q⟩:=h;cases ry;obtain hq|hq:=hq
 .show"!N";refine SeqAt.in_listAt fQ_ pl.isList k4! fe_;rw[k4_,k5!];exact q
 .show"!x";refine SeqAt.in_tupleAt fQ_ pl k4! fe_;rw[k4_,k5!];exact q
def b5l(hu:ar_):Gr X pO_ (AK X.K true):=by
 intro B s Z H x y v u Q I rx ry h;obtain⟨p,ys,dx,ds,rfl,hq,r1,r2,n1,n2,hd,q⟩:=h;cases ry;obtain hq|hq:=hq
 .show"!N";refine SeqAt.notIn_listAt fQ_ pl.isList k4! fe_;rw[k4_,k5!];exact q
 .show"!x";refine SeqAt.notIn_tupleAt fQ_ pl k4! fe_;rw[k4_,k5!];exact q
def AL(P:yJ!)(w:ys!)(K:yN!)(neg:Bool):R2:=λx y H Q=>∃(M:Mh) (G:Hp) (a:xY!) (kvs:i_) (ep:Nat) (d:D) (k:MK),y=.ref a/\Bj G H/\MR P w K M G H/\M a=some hT_/\Av K G d x/\De d=some k/\Q (.bl (if neg then !(dC!).isSome else(dC!).isSome)) H
def c8v(hu:ar_):Gr X jy_ (AL X.prog X.w X.K false):=by intro B s Z H x y v u Q I rx ry h;obtain⟨M,G,a,kvs,ep,d,k,rfl,sub,m,e,r,hk,q⟩:=h;cases ry;exact HR zw_
def b5m(hu:ar_):Gr X pO_ (AL X.prog X.w X.K true):=by intro B s Z H x y v u Q I rx ry h;obtain⟨M,G,a,kvs,ep,d,k,rfl,sub,m,e,r,hk,q⟩:=h;cases ry;exact HR zw_
def Yq(P:yJ!)(w:ys!)(K:yN!)(neg:Bool):R2:=λx y H Q=>AK K neg x y H Q\/AL P w K neg x y H Q
def iG(hu:ar_):Gr X jy_ (Yq X.prog X.w X.K false):=(c8u hu).or (c8v hu)
def jZ(hu:ar_):Gr X pO_ (Yq X.prog X.w X.K true):=(b5l hu).or (b5m hu)
def Sn(M:Mh):D->Option aL_
 |.lst xs=>some xs
 |.tup xs=>some xs
 |.fn a=>match M a with|some (.lst xs)=>some xs|_=>none
 |_=>none
def a2a{K:yN!}{M:Mh}{G H:Hp}(sub:I_)(m:co_)(r:cK_)(e:Sn M d=some xs):∃p ys,v=.ref p/\oD_/\Am K G xs ys:=by
 cases d<;>first|(cases e;done)|skip
 .cases e;show"!X";exact⟨p,vs,rfl,.inr hq!,rr⟩
 .cases e;obtain⟨p,vs,rfl,q,rr⟩:=bP r;exact⟨p,vs,rfl,.inl oE!,rr⟩
 .rename_i a;cases fX r;simp only[Sn]at e;show"!6"
  .rename_i ys hy;cases e;obtain⟨_,vs,h1,h2⟩:=m.cell a _ hy;exact⟨a,vs,rfl,.inl (Fj.of h1),h2⟩
  .cases e
def Il(neg:Bool)(M:Mh)(x y:D):Option D:=match y with
 |.fn a=>match M a with
  |some (.dct kvs _)=>(De x).bind λ_=>some (.bl (if neg then !(kget kvs x).isSome else(kget kvs x).isSome))
  |_=>inS M x y
 |_=>inS M x y
where inS (M:Mh) (x y:D):Option D:=(Sn M y).bind λds=>if Bh x&&Br ds&&decide (Dj ds<=40)then some xy! else none
def eX{K:yN!}{neg:Bool}:Yg P w K (Yq P w K neg) (Il neg):=by
 intro x y dx dy d M G H Q sub m rx ry e k;have seq:Il.inS neg M dx dy=some d->Yq P w K neg x y H Q:=λe=>by
  obtain⟨ds,e1,e2⟩:=HS.mp e;split at e2
  .show"!r";cases e2;obtain⟨p,ys,rfl,q,rr⟩:=a2a sub m ry e1;exact .inl ⟨p,ys,dx,ds,rfl,q,rx.mono sub,rr.mono sub,h.1.1,h.1.2,h.2,er_⟩
  .cases e2
 unfold Il at e;show"!6"
 .rename_i a;show"!6"
  .show"#<";cases e2;cases fX ry;exact .inr ⟨M,G,a,kvs,ep,dx,kk,rfl,sub,m,hM,rx,e1,er_⟩
  .exact seq e
 .exact seq e
def CB(P:yJ!)(w:ys!)(K:yN!):R2:=λx y H Q=>∃(M:Mh) (G:Hp) (a:xY!) (kvs:i_) (ep:Nat) (d z:D) (k:MK),x=.ref a/\Bj G H/\MR P w K M G H/\M a=some hT_/\Av K G d y/\De d=some k/\kget kvs d=some z/\∀v,Av K G z v->Q v H
def c9w(hu:ar_):Wt X (CB X.prog X.w X.K):=by
 intro value gc B s Z H x y v u Q I rx ry h hs;obtain⟨M,G,a,kvs,ep,d,z,k,rfl,sub,m,e,r,hk,hz,q⟩:=h;cases rx;obtain⟨es,h1,h2,h3,h4,h5,h6⟩:=eO I m sub e;unfold subscriptTail;refine HR ?_;rw[getitemInPython_of_ne h3.typeIs.not_modules];refine HR (QB h3.typeIs PySem.F.slot_dict_getitem.lookup ?_);have fin:wpAny e_ X.A (subscripted gc false P! u) (λr du=>wpAny e_ X.A (letTemporaryGo value P! r>>=λ_=>pure r) aI_ X.xe du) X.xe s:=by
  rw[hs];exact wpAny_operating (b1i (A:=X.A) a! I m sub e ⟨_,r,ry⟩ hk hz λo s' I' ⟨v',r',au⟩=>HR (wpAny_letTemporaryGo (HU ⟨v',H,I',au,q v' r'⟩)))
 first
  |exact HU jC_
  |exact HR (HU jC_)
  |exact HR fin
def CC(P:yJ!)(w:ys!)(K:yN!):R2:=λx y H Q=>FA K x y H Q\/CB P w K x y H Q
def bH(hu:ar_):Wt X (CC X.prog X.w X.K):=aH.or (c9w hu)
def Bs(M:Mh)(x y:D):Option D:=match x with
 |.fn a=>match M a with
  |some (.dct kvs _)=>(fR!).bind λ_=>kget kvs y
  |some (.lst xs)=>match y with|.int i=>Dd xs i|_=>none
  |_=>none
 |_=>Ah x y
def bG{K:yN!}:Yg P w K (CC P w K) Bs:=by
 show"!`";unfold Bs at e;show"!6"
 .rename_i a;cases fX rx;show"!6"
  .show"#<";exact .inr ⟨M,G,a,kvs,ep,dy,d,kk,rfl,sub,m,hM,ry,e1,e2,λv r=>k v G H aY_ r⟩
  .rename_i xs hM;show"!6"
   .rename_i i;cases aY ry;show"!q";obtain⟨v,e6,r6⟩:=pO h2 e;exact .inl (.inl ⟨a,vs,i,v,rfl,rfl,Fj.of h1,e6,k v G H aY_ r6⟩)
   .cases e
  .cases e
 .exact .inl (aK sub rx ry e k)
def Nm(M:Mh)(x y:D):Option D:=match x with
 |.fn a=>match M a,y with
  |some (.lst xs),.lst ys=>if i!+ac!<=big then some (.lst eL!)else none
  |_,_=>none
 |_=>An x y
def nJ{K:yN!}:Yg P w K (Sr K) Nm:=by
 show"!`";unfold Nm at e;show"!6"
 .rename_i a;cases fX rx;show"!6"
  .rename_i xs ys hM;show"!6"
   .show"!G";show"!q";obtain⟨b,ws,rfl,qb,rb⟩:=bP ry;exact .inr (.inr (.inr (.inr ⟨a,b,vs,ws,rfl,rfl,Fj.of h1,sub.seq qb,by rw[<-aI h2,<-aI rb];exact cS hl,λp hp=>k _ _ _ hm_ (cM fu! (cY h2 rb))⟩)))
   .cases e
  .cases e
 .exact bS sub rx ry e k
end
def Dz{α:Type}(o:Option α)(R:pR_):Prop:=match o with|some a=>R a|none=>False
def cW{α:Type}{o:Option α}{R:pR_}(h:Dz o R):∃a,o=some a/\R a:=by
 cases o with
 |none=>exact h.elim
 |some a=>exact⟨a,rfl,h⟩
def Gq(C:xY!)(x:Str)(M:Mh)(d:D):Option D:=match d with
 |.fn a=>match M a with
  |some (.obj C' fs)=>if C'=C then fs.lookup x else none
  |_=>none
 |_=>none
def Bn(f:Str)(v:D):List cl_->List cl_
 |[]=>[(f,v)]
 |(g,x)::r=>if g=f then(g,v)::r else(g,x)::Bn f v r
def a7v{K:yN!}{G:Hp}{x:Str}:∀{fs:aP!} {vs:eM!},Om K G fs vs->fs.lookup x=some d->∃v,vs.lookup x=some v/\Av K G d v
 |_,_,.nil,e=>by simp at e
 |(a,b)::r,(a',b')::r',.cons ⟨h1,h2⟩ t,e=>by
  have h1:a=a':=h1;subst h1;cases Y:(x==a)with
  |true=>
   simp only[KA,Y]at e ⊢;cases e;exact⟨b',rfl,h2⟩
  |false=>
   simp only[KA,Y]at e ⊢;exact a7v t e
def a7u{K:yN!}{G:Hp}{x:Str}:∀{fs:aP!} {vs:eM!},Om K G fs vs->fs.lookup x=none->vs.lookup x=none
 |_,_,.nil,_=>rfl
 |(a,b)::r,(a',b')::r',.cons ⟨h1,h2⟩ t,e=>by
  have h1:a=a':=h1;subst h1;cases Y:(x==a)with
  |true=>simp only[KA,Y]at e;cases e
  |false=>
   simp only[KA,Y]at e ⊢;exact a7u t e
def b3x{K:yN!}{G:Hp}{x:Str}(r:cK_):∀{fs:aP!} {vs:eM!},Om K G fs vs->Om K G (Bn x d fs) (Ld x v vs)
 |_,_,.nil=>.cons ⟨rfl,r⟩ .nil
 |(a,b)::fs,(a',b')::vs,.cons ⟨h1,h2⟩ t=>by
  have h1:a=a':=h1;subst h1;show Om K G (if a=x then(a,d)::fs else Z_::Bn x d fs) (if a=x then(a,v)::vs else(a,b')::Ld x v vs);by_cases e:a=x
  .rw[IL e,IL e];exact .cons ⟨rfl,r⟩ t
  .rw[IA e,IA e];exact .cons ⟨rfl,h2⟩ (b3x r t)
section
variable{X:Cx}{own:List Nat}{e o a b:Expr}{es:List Expr}{pos aj ag p:Pos}{f fa fb fo:WE}{fs:WA}{x m:Str}{C:xY!}
def Ay(C:xY!)(x:Str)(f:WE):WE:=λρ M R=>f ρ M λd M1=>Dz (Gq C x M1 d) λv=>R v M1
def bI(c:d3_)(n:Ef X.K C x)(h:b1!)(hb:attributeBase e x X.env eQ!=eval e X.env:=by rfl):ME X own (.Attribute e x pos) (Ay C x f):=
 eL (c8q h.ok hb) λZ G H Q ρ M R st e k=>⟨G,ρ,M,_,st,e,λd M1 v G1 H1 r1 x1 m1 q1=>by
  obtain⟨z,h1,h2⟩:=cW r1;cases d<;>first|(cases h1;done)|skip
  rename_i ad;cases fX q1;simp only[Gq]at h1;split at h1
  .rename_i C' fs hM;split at h1
   .rename_i hC;subst hC;obtain⟨_,dx,vs,h3,h4⟩:=m1.cell ad _ hM;obtain⟨u,h5,h6⟩:=a7v h4 h1;exact⟨ad,_,dx,vs,u,rfl,h3,c,n,h5,k z M1 u G1 H1 h2 x1 m1 h6⟩
   .cases h1
  .cases h1⟩
def Sk(P:yJ!)(w:ys!)(K:yN!)(r:c9_)(g:fR_):Prop:=∀{vs:m_} {ds:c_} {d:D} {M:Mh} {G H:Hp} {Q:VK},Bj G H->MR P w K M G H->Am K G ds vs->g M ds=some d->j4!->r vs H Q
nonrec def w1(g:fR_)(fs:WA):WE:=λρ M R=>fs ρ M λds M1=>Dz (g M1 ds) λd=>R d M1
def qD{id:String}{r:c9_}{g:fR_}(L:np_)(hd:zB_)(hg:S!)(hm:cv!)(hv:nq!)(ha:hV_)(hn:cv_:=by decide)
  (be:F!:=by decide)(he:ao_:=by rfl)(ax:aU_:=by rfl):ME X own bj! (w1 g fs):=
 eL wz! λZ G H Q ρ M R st e' k=>⟨G,ρ,M,_,st,e',λds M1 vs G1 H1 r1 x1 m1 q1=>by
  obtain⟨d,h1,h2⟩:=cW r1;exact hd x1.sub m1 q1 h1 λv G2 H2 x2 q2=>k d M1 v G2 H2 h2 zC_ (m1.ext x2) q2⟩
def a0g{T:String}{r:c9_}{g:fR_}(L:nq_)(hd:zB_)(hg:S!)(hm:cv!)(hv:jl_)(ha:hV_)(hn:cv_:=by decide)
  (be:F!:=by decide)(he:ao_:=by rfl)(ax:aU_:=by rfl):ME X own bj! (w1 g fs):=
 eL wA! λZ G H Q ρ M R st e' k=>⟨G,ρ,M,_,st,e',λds M1 vs G1 H1 r1 x1 m1 q1=>by
  obtain⟨d,h1,h2⟩:=cW r1;exact hd x1.sub m1 q1 h1 λv G2 H2 x2 q2=>k d M1 v G2 H2 h2 zC_ (m1.ext x2) q2⟩
def Uf(M:Mh):List D->Option D
 |[.str x]=>Bk [.str x]
 |[d]=>(Sn M d).map λxs=>.int i!
 |_=>none
def b1j{K:yN!}:Sk P w K wW! Uf:=by
 show"!S";unfold Uf at e;show"!6"
 .exact dY sub r e k
 .obtain⟨xs,e1,rfl⟩:=IG.mp e;show"!j";refine⟨fx_,i!,rfl,?_,dq_⟩;rw[aI rr];exact q.elim (λz=>.inl zE!) λz=>.inr zE!
 .cases e
def Vy(M:Mh):List D->Option D
 |[d]=>(Sn M d).bind λxs=>if i!<=big then some L! else none
 |_=>none
def c6p{K:yN!}:Sk P w K wW_ Vy:=by
 show"!S";unfold Vy at e;show"!6"
 .obtain⟨xs,e1,e2⟩:=HS.mp e;split at e2
  .cases e2;show"!j";exact⟨p,ys,rfl,q,λl hl=>k _ _ _ zF! (cM (sub.free hl) rr)⟩
  .cases e2
 .cases e
def Qe(fs:WA):WE:=λρ M R=>fs ρ M λds M1=>f_<=1000/\∀p,M1 p=none->R A_ (Az M1 p ci!)
def a3a(h:fO!):ME X own je! (Qe fs):=
 eL kb! λZ G H Q ρ M R st e k=>⟨G,ρ,M,_,st,e,λds M1 vs G1 H1 r1 x1 m1 q1=>⟨by rw[<-aI q1];exact eZ r1.1,λp hp=>
  k _ _ _ _ _ (r1.2 p (m1.nocell hp)) (x1.trans (.laid x1.sub hp) m1) (m1.laid hp x1.sub ⟨vs,bW,q1⟩) Av.fn⟩⟩
def Oi(M:Mh)(d:D):Option (Addr×List D):=match d with
 |.fn p=>match M p with|some (.lst xs)=>some (p,xs)|_=>none
 |_=>none
def yA{K:yN!}{M:Mh}{G H:Hp}{q:Addr×List D}(m:co_)(r:cK_)(e:Oi M d=some q):d=.fn q.1/\v=.ref q.1/\M q.1=some (.lst q.2)/\∃vs,H q.1=some cJ_/\Am K G q.2 vs:=by
 cases d<;>first|(cases e;done)|skip
 rename_i p;cases fX r;simp only[Oi]at e;show"!6"
 .rename_i xs hM;cases e;exact⟨rfl,rfl,hM,(m.cell p _ hM).2⟩
 .cases e
def Ee(M:Mh)(d:D):Option (Addr×List aC!×Nat):=match d with
 |.fn p=>match M p with|some (.dct kvs ep)=>some k7_|_=>none
 |_=>none
def cP{K:yN!}{M:Mh}{G:Hp}{q:zI!}(r:cK_)(e:Ee M d=some q):d=.fn q.1/\v=.ref q.1/\M q.1=some pS!:=by
 cases d<;>first|(cases e;done)|skip
 rename_i p;cases fX r;simp only[Ee]at e;show"!6"
 .rename_i xs ep hM;cases e;exact⟨rfl,rfl,hM⟩
 .cases e
def Vo(fo fa:WE):WE:=λρ M R=>fo ρ M λd M1=>Dz (Oi M1 d) λ_=>fa ρ M1 λv M2=>Dz (Oi M2 d) λq=>pS_<big/\R .non zI_
def b3q(ho:cS!)(ha:am_)(bz:kk_:=by rfl)(gw:((o3!).all cF_&&(cF!).all cG!
   &&decide o3_)=true:=by rfl) (g7:ea!:=by rfl)
  (gu:attributeBase o "append" X.env dR!=eval o X.env:=by rfl) (g8:hv!:=by rfl):ME X own (.Call (.Attribute o "append" aj) [a] [] ag) (Vo fo fa):=
 eL (zS OU PySem.F.slot_list_append PySem.F.type_list_append a0c ho.ok (dS ha.ok fZ bz) gu gw g7 bz g8) λZ G H Q ρ M R st e k=>
  ⟨G,ρ,M,_,st,e,λd M1 v G1 H1 r1 x1 m1 q1=>by
   obtain⟨c1,e1,r1⟩:=cW r1;obtain⟨rfl,rfl,_,ZX,hH,_⟩:=yA m1 q1 e1;refine⟨.inl ⟨rfl,ZX,Fj.of hH⟩,G1,ρ,M1,_,kY_,r1,λz M2 u G2 H2 r2 x2 m2 q2=>?_⟩;obtain⟨⟨p2,xs2⟩,e2,r2⟩:=cW r2;obtain⟨z1,z2,z3,vs,h1,h2⟩:=yA m2 b1_ e2;cases z2;refine⟨_,vs,u,rfl,rfl,h1,by rw[<-aI h2];exact JD r2.1 (cS x_),?_⟩;exact k _ _ _ _ _ r2.2 ((cp!).trans (.write m2 x2.sub z3) m2) (m2.write z3 ⟨_,bW,cY h2 (Am.cons q2 Am.nil)⟩) Av.non⟩
def lJ{B:o_}{Z:St}{G H:Hp}{s:yM!}{M:Mh}{q:zI!}(I:d_)(m:bJ!)(sub:I_)(e:M q.1=some pS!):
  s.TypeIs (.ref q.1) "dict"/\∀b,Value.ref q.1=.ref b->∃ob,s.heap.get? b=some ob/\ob.dict=none:=by
 obtain⟨es,_,_,h3,_⟩:=eO I m sub e;refine⟨fQ!,λb z=>?_⟩;cases z;obtain⟨o,h,L,_⟩:=h3;exact⟨o,h,L.2.1⟩
def ME.run{B:o_}{Z:St}{G H:Hp}{ρ:Ae}{M:Mh}{R:r!}{Q:p!}(h:b1!)(I:d_)(st:zi!)(hf:hP_)
  (k:∀d M' v G' H' u s',R d M'->XM M G H M' G' H'->MR X.prog X.w X.K M' G' H'->Av X.K G' d v->Inv X B Z H' s'->Bq v u->Q u s'):wpAny e_ X.A eQ! Q X.xe s:=
 dH (h.ok B s Z H (λv H'=>∃d M' G',R d M'/\XM M G H M' G' H'/\MR X.prog X.w X.K M' G' H'/\Av X.K G' d v) I ⟨G,ρ,M,R,st,hf,λd M' v G' H' r x m q=>⟨d,M',G',r,x,m,q⟩⟩) λu s' ⟨v,H',I',rv,d,M',G',r,x,m,q⟩=>k d M' v G' H' u s' r x m q I' rv
def Oq(fo fa:WE):WE:=λρ M R=>fo ρ M λd M1=>Dz hW_ λ_=>fa ρ M1 λy M2=>Dz (Ee M2 d) λq=>Dz fR! λ_=>R ((pW!).getD .non) M2
def c0q(hu:ar_)(ho:cS!)(ha:am_)(m:M1 X o "get" aj a ag):ME X own (.Call zK! [a] [] ag) (Oq fo fa):=⟨by
 intro B s Z H Q I ⟨G,ρ,M,R,st,e,k⟩;refine QU m.base m.few m.line OV PF PySem.F.type_dict_get k8_;obtain⟨c1,e1,r1⟩:=cW r1;obtain⟨rfl,rfl,hM⟩:=cP q1 e1;cases rx;obtain⟨t1,t2⟩:=lJ I1 m1 x1.sub hM;refine k9!;rw[m.trees];refine OE rfl zK_;obtain⟨⟨p2,zd,tu⟩,e2,r2⟩:=cW r2;obtain⟨kk,e3,r2⟩:=cW r2;obtain⟨z1,z2,f7⟩:=cP b1_ e2;cases z1;exact c6n (A:=X.A) a! I2 m2 x2.sub f7 zL! e3 λov s' I' ⟨v',r',au⟩=>⟨v',H2,I',au,k _ M2 v' G2 H2 r2 cp! m2 r'⟩⟩
def Ip(fo fa fb:WE):WE:=λρ M R=>fo ρ M λd M1=>Dz hW_ λ_=>fa ρ M1 λy M2=>fb ρ M2 λz M3=>Dz (Ee M3 d) λq=>Dz fR! λ_=>R ((pW!).getD z) M3
def qC(hu:ar_)(ho:cS!)(ha:am_)(hb:cp_)(m:M2 X o "get" aj a b ag):ME X own (.Call zK! aj_ [] ag) (Ip fo fa fb):=⟨by
 intro B s Z H Q I ⟨G,ρ,M,R,st,e,k⟩;refine QU m.base m.few m.line OV PF PySem.F.type_dict_get k8_;obtain⟨c1,e1,r1⟩:=cW r1;obtain⟨rfl,rfl,hM⟩:=cP q1 e1;cases rx;obtain⟨t1,t2⟩:=lJ I1 m1 x1.sub hM;refine k9!;rw[m.trees];refine OE rfl (OT (MJ (ha.run I1 fT! r1 λy M2 yv G2 H2 iv s2 r2 x2 m2 q2 I2 ry=>
  MJ zM!)))
 obtain⟨⟨p2,zd,tu⟩,e2,r3⟩:=cW r3;obtain⟨kk,e3,r3⟩:=cW r3;obtain⟨z1,z2,f7⟩:=cP zM_ e2;cases z1;exact c6m (A:=X.A) a! I3 m3 x3.sub f7 zN! e3 zN_ λov s' I' ⟨v',r',au⟩=>⟨v',H3,I',au,k _ M3 v' G3 H3 r3 pY! m3 r'⟩⟩
def Kf(fo fa fb:WE):WE:=λρ M R=>fo ρ M λd M1=>Dz hW_ λ_=>fa ρ M1 λy M2=>fb ρ M2 λz M3=>Dz (Ee M3 d) λq=>Dz fR! λ_=>q.2.1.length<big/\
 match kget q.2.1 y with
 |some v=>R v M3
 |none=>R z (Az M3 q.1 (.dct (At q.2.1 y z) (q.2.2+1)))
def a0e(hu:ar_)(ho:cS!)(ha:am_)(hb:cp_)(m:M2 X o "setdefault" aj a b ag):ME X own (.Call (.Attribute o "setdefault" aj) aj_ [] ag) (Kf fo fa fb):=⟨by
 intro B s Z H Q I ⟨G,ρ,M,R,st,e,k⟩;refine QU m.base m.few m.line OV SF PySem.F.type_dict_setdefault k8_;obtain⟨c1,e1,r1⟩:=cW r1;obtain⟨rfl,rfl,hM⟩:=cP q1 e1;cases rx;obtain⟨t1,t2⟩:=lJ I1 m1 x1.sub hM;refine k9!;rw[m.trees];refine OE rfl (OT (MJ (ha.run I1 fT! r1 λy M2 yv G2 H2 iv s2 r2 x2 m2 q2 I2 ry=>
  MJ zM!)))
 obtain⟨⟨p2,zd,tu⟩,e2,r3⟩:=cW r3;obtain⟨kk,e3,hl,r3⟩:=cW r3;obtain⟨z1,z2,f7⟩:=cP zM_ e2;cases z1;have ll:=(cp!).trans x3 m2;refine zD (A:=X.A) a! I3 m3 x3.sub f7 zN! e3 zN_ hl (λw ov s' hw I' ⟨v',r',au⟩=>?_) λhn ar s' I' c'=>?_
 .dsimp only at r3;rw[hw]at r3;exact⟨v',H3,I',au,k _ M3 v' G3 H3 r3 ll m3 r'⟩
 .dsimp only at r3;rw[hn]at r3;exact⟨zv,_,I',rz,k _ _ zv G3 _ r3 (ll.trans (.write m3 x3.sub f7) m3) (m3.write f7 c') q3⟩⟩
def Yj(fo fa:WE):WE:=λρ M R=>fo ρ M λd M1=>Dz hW_ λ_=>fa ρ M1 λy M2=>Dz (Ee M2 d) λq=>Dz fR! λ_=>Dz pW! λv=>R v (Az M2 q.1 (.dct (Gp q.2.1 y) (q.2.2+1)))
def c0p(hu:ar_)(ho:cS!)(ha:am_)(m:M1 X o "pop" aj a ag):ME X own (.Call (.Attribute o "pop" aj) [a] [] ag) (Yj fo fa):=⟨by
 intro B s Z H Q I ⟨G,ρ,M,R,st,e,k⟩;refine QU m.base m.few m.line OV PySem.F.slot_dict_pop PySem.F.type_dict_pop k8_;obtain⟨c1,e1,r1⟩:=cW r1;obtain⟨rfl,rfl,hM⟩:=cP q1 e1;cases rx;obtain⟨t1,t2⟩:=lJ I1 m1 x1.sub hM;refine k9!;rw[m.trees];refine OE rfl zK_;obtain⟨⟨p2,zd,tu⟩,e2,r2⟩:=cW r2;obtain⟨kk,e3,r2⟩:=cW r2;obtain⟨w,e4,r2⟩:=cW r2;obtain⟨z1,z2,f7⟩:=cP b1_ e2;cases z1;exact d0r (A:=X.A) a! I2 m2 x2.sub f7 zL! e3 e4 λar ov s' I' c' ⟨v',r',au⟩=>⟨v',_,I',au,k _ _ v' G2 _ r2 ((cp!).trans (.write m2 x2.sub f7) m2) (m2.write f7 c') r'⟩⟩
def Gs:WE:=λρ M R=>∀p,M p=none->R A_ eD_
def fK:ME X own (.Dict [] [] pos) Gs:=⟨by
 intro B s Z H Q I ⟨G,ρ,M,R,st,e,k⟩;have hp:H k_=none:=I.fresh;have D0:Oo la! s.heap.objs.size [] 0:=pZ!;refine wpAny_Dict_empty ⟨df!,upd H s.heap.objs.size zP!,pZ_,rfl,?_⟩
 .show"!V"
 .exact k _ _ _ G _ (e _ (st.mr.nocell hp)) (.laid st.or.sub hp) (st.mr.laid hp st.or.sub p0!) Av.fn⟩
end
abbrev WP:=Ae->Mh->(List aC!->Mh->Prop)->Prop
def Zx(K:yN!)(G:Hp):List aC!->List p0_->Prop:=Paired λp q=>Cz K G p.1 q.1/\Cz K G p.2 q.2
structure MP(X:Cx)(own:k!)(pos:Pos)(keys:List (Option Expr))(jw:bL_)(f:WP):Prop where
 ok:∀(B:o_) (s:yM!) (Z:St) (G H:Hp) (ρ:Ae) (M:Mh) (R:zP_) (Q:List p0_->Shared->Prop),Inv X B Z H s->Tf X.prog X.w X.K own G H Z ρ M->f ρ M R->
  (∀kvs M' G' H' us s',R kvs M'->XM M G H M' G' H'->MR X.prog X.w X.K M' G' H'->Zx X.K G' kvs us->Inv X B Z H' s'->Q us s')->wpAny e_ X.A (evalPairs (pairTrees keys jw X.env pos)) Q X.xe s
section
variable{X:Cx}{own:List Nat}{e o a b:Expr}{es:List Expr}{pos aj ag p:Pos}{f fa fb fo:WE}{fs:WA}{fp:WP}{keys:List (Option Expr)}{jw:List Expr}
def No:WP:=λ_ M R=>R [] M
def Em(fa fb:WE)(fp:WP):WP:=λρ M R=>fa ρ M λx M1=>fb ρ M1 λy M2=>fp ρ M2 λkvs M3=>R ((x,y)::kvs) M3
def wP:MP X own pos [] [] No:=⟨λB s Z G H ρ M R Q I st e k=>pairTrees_nil_walk (k [] M G H [] s e pI_ st.mr .nil I)⟩
def iP(ha:am_)(hb:cp_)(hp:zR!):MP X own pos (some a::keys) (b::jw) (Em fa fb fp):=⟨λB s Z G H ρ M R Q I st e k=>
 pairTrees_cons_walk (ha.run I st e λx M1 v G1 H1 u s1 r1 x1 m1 q1 I1 ru=>hb.run I1 fT! r1 λy M2 v2 G2 H2 u2 s2 r2 x2 m2 q2 I2 ZY=>
  hp.ok B s2 Z G2 H2 ρ M2 _ _ I2 zL_ r2 λkvs M3 G3 H3 us s3 r3 x3 m3 q3 I3=>
   k _ M3 G3 H3 _ s3 r3 pY! m3 (.cons ⟨⟨v,(b1_).mono x3.g,ru⟩,⟨v2,q2.mono x3.g,ZY⟩⟩ q3) I3)⟩
def iB:∀{l:i_} {d x:D},d∉l.map c!->At l d x=l++[dA_]
 |[],_,_,_=>rfl
 |(y,z)::l,d,x,h=>by
  rw[II,HY,PD]at h;unfold At;rw[la_,iB h.2];rfl
def qL:∀{l:i_} {d:D},d∉l.map c!->kget l d=none
 |[],_,_=>rfl
 |(y,z)::l,d,h=>by
  rw[II,HY,PD]at h;unfold kget;rw[la_,qL h.2]
def zL{B:o_}{Z:St}{G:Hp}{A:yg!}{E:p!}(hu:ar!):∀{kvs:i_} {us:List p0_} {acc:i_} {H:Hp} {s:yM!} {M:Mh} {n:Nat} {Q:zR_},Zx X.K G kvs us->Inv X B Z H s->MR X.prog X.w X.K M G H->Bj G H->
  M c=some (.dct acc n)->cT!+aC_<=1000->(∀p∈kvs,(De p.1).isSome=true)->((acc++kvs).map c!).Nodup->
  (∀H' s',Inv X B Z H' s'->XM M G H zT! G H'->MR X.prog X.w X.K zT! G H'->Q PUnit.unit s')->
  wpAny e_ A (forIn us PUnit.unit λ(x:Value×Value) (_:PUnit)=>(do dictSet c x.1 x.2;pure (ForInStep.yield PUnit.unit):Sem zU_)) Q E s
 |_,_,acc,H,s,M,n,Q,.nil,I,m,sub,hM,hl,hk,nd,k=>by
  rw[PZ];have L:Az M c (.dct (acc++[]) (n+0))=M:=by
   show"#@";split
   .rename_i e;rw[e,JA,hM];rfl
   .rfl
  have k:=k H s I;rw[MO,L]at k;exact HU (k (.refl sub) m)
 |(d,x)::kvs,(u,v)::us,acc,H,s,M,n,Q,.cons r t,I,m,sub,hM,hl,hk,nd,k=>by
  rw[NY];obtain⟨kk,hd⟩:=QE.mp (hk _ IH);have pv:d∉acc.map c!:=λz=>by
   rw[JF,JJ]at nd;exact nd.2.2 d z d d! rfl
  simp only[IQ]at hl;refine HR (HR (b1h hu I m sub hM r.1 hd r.2 (JD a! (show 1001<=big by decide)) λar s' I' c'=>HU ?_));have p8:Gb acc d n=n+1:=by unfold Gb;rw[qL pv];simp
  rw[p8,iB pv]at c';rw[p8]at I';have m':=m.write hM c';have ZZ:Bj G (upd H c (dE c ar cO!)):=(XM.write (c:=.dct (acc++[dA_]) cO!) m sub hM).sub;refine zL hu t I' m' ZZ mup_same zW! (λp hp=>hk p jO_) (by rw[KI];exact nd) λH2 s2 I2 x2 m2=>?_;have L:Az (Az M c (.dct (acc++[dA_]) cO!)) c (.dct (acc++[dA_]++kvs) (n+1+aC_))=Az M c (.dct (acc++dA_::kvs) (n+(dA_::kvs).length)):=by
   show"#@";split
   .rw[KI,IQ];simp only[List.singleton_append];rw[show n+1+kvs.length=n+(kvs.length+1)by omega]
   .rfl
  rw[L]at x2 m2;exact k H2 s2 I2 ((XM.write m sub hM).trans x2 m') m2
def Ph(fp:WP):WE:=λρ M R=>∀p,M p=none->fp ρ eD_ λkvs M1=>M1 p=some C_/\aC_<=1000/\(∀q∈kvs,(De q.1).isSome=true)/\(fK_).Nodup/\R A_ (Az M1 p (.dct kvs aC_))
def qB(hu:ar_)(hp:zR!)(fm:keys.all (·.isSome)=true:=by rfl)(hl:keys.length=jw.length:=by rfl)(h0:keys≠[]:=by simp)(ze:keys.length<=15:=by decide):ME X own (.Dict keys jw pos) (Ph fp):=⟨by
 intro B s Z H Q I ⟨G,ρ,M,R,st,e,k⟩;have hn:=pairTrees_length keys jw X.env pos fm hl;have eh:pairTrees keys jw X.env pos≠[]:=λz=>by rw[z]at hn;exact h0 (QL.mp hn.symm)
 rw[arm_eval_Dict,zip_pairTrees keys jw X.env pos fm hl,dictDisplay_pairs _ eh a!];unfold subDict;have hf:H k_=none:=I.fresh;have D0:Oo la! s.heap.objs.size [] 0:=pZ!;have I1:Inv X B Z dD_ {s with heap:=s.heap.push {cls:=.type "dict",data:=.dict #[]}}:=by
  refine pZ_;show"!V"
 have x0:XM M G H hZ_ G dD_:=.laid st.or.sub hf;have m0:MR X.prog X.w X.K hZ_ G dD_:=st.mr.laid hf st.or.sub p0!;refine HR (RB (HR (HR (wpAny_alloc (HR (JX ?_))))));rw[a1!];refine HR (hp.ok B _ Z G _ ρ _ _ _ I1 (st.grow x0 m0) (e _ (st.mr.nocell hf)) λkvs M1 G1 H1 us s1 r1 x1 m1 q1 I2=>?_);obtain⟨hM1,ao,hk,nd,r1⟩:=r1;refine JX (HR (zL (A:=X.A) (acc:=[]) a! q1 I2 m1 x1.sub hM1 (by simpa using ao) hk nd λH2 s2 I3 x2 m2=>HU (HU (HU ⟨df!,H2,I3,rfl,?_⟩))));have VX:=(x0.trans x1 m0).trans x2 m1;simp only[JS,QW]at VX m2;exact k _ _ _ G1 H2 r1 VX m2 Av.fn⟩
end
abbrev WS:=Ae->Mh->(Fl->Mh->Prop)->Prop
structure Jq(P:yJ!)(w:ys!)(K:yN!)(own:k!)(M0:Mh)(G0 F0:Hp)(M:Mh)(G H:Hp)(Z:St)(ρ:Ae):Prop where
 st:Tf P w K own G H Z ρ M
 x:XM M0 G0 F0 M G H
 fr:∀i∈own,∀p,Z[i]?=some cj!->F0 p=none
inductive DN(P:yJ!)(w:ys!)(K:yN!)(M0:Mh)(G0 F0:Hp)(own σ:k!)(f:WS)(E:Vl)(Z:St)(H:Hp):Prop
 |mk (G:Hp) (ρ:Ae) (M:Mh) (R:o!) (st:b2_) (e:hP_) (a:∀ρ' M' G' hr H',R cT_ M'->Jq P w K σ M0 G0 F0 M' G' H' hr ρ'->E.nx hr H') (b:∀d M' v G' H',R bc_ M'->XM M0 G0 F0 M' G' H'->MR P w K M' G' H'->Av K G' d v->E.rt v H'):DN P w K M0 G0 F0 own σ f E Z H
structure MS(X:Cx)(own σ:k!)(st:Stmt)(f:WS):Prop where
 ok:∀M0 G0 F0,PS X st zW_
structure Vj(X:Cx)(own σ:k!)(st:b5!)(f:WS):Prop where
 ok:∀M0 G0 F0,Ul X st zW_
section
variable{P:yJ!}{w:ys!}{K:yN!}{own σ:List Nat}{M0 M M':Mh}{G0 F0 G H G' H':Hp}{Z hr:St}{ρ ρ':Ae}
def Jq.grow(s:b2_)(x:kV!)(m:zc!):Jq P w K own M0 G0 F0 M' G' H' Z ρ:=⟨s.st.grow x m,s.x.trans x s.st.mr,s.fr⟩
def Jq.set{i:Nat}(s:b2_)(hi:bn_)(r:cK_):Jq P w K own M0 G0 F0 M G H eP! bW_:=by
 have ne:∀j∈own,i≠j:=λj hj z=>hi (z▸hj);refine⟨⟨s.st.or.set hi r,s.st.mr,zX!⟩,s.x,zX!⟩
 .rw[JN (ne j hj)]at e;exact s.st.dj j hj p e
 .rw[JN (ne j hj)]at e;exact s.fr j hj p e
def Gh(own:k!)(Z:St)(H:Hp):Hp:=λb=>if b∈Ju own Z then none else H b
def Jq.sr(s:b2_):SR K own G ld! G H Z ρ:=by
 refine⟨s.st.or,⟨fo_,j1_,s.st.or.sub,dt!⟩,xl_⟩
 .unfold Gh at e;show"!6"
  .cases e
  .exact e
 .unfold Gh;rw[IL (a5w hi e)]
def Jq.root(s:b2_){b:xY!}(h:b∈Ju own Z):M b=none/\F0 b=none:=by obtain⟨i,hi,q⟩:=nO h;exact⟨s.st.dj i hi b q,s.fr i hi b q⟩
def Jq.noF(s:b2_){b:xY!}(h:Gh own Z H b=none):F0 b=none:=by
 unfold Gh at h;split at h
 .rename_i hb;exact(ld_).2
 .cases hM:M0 b with
  |none=>exact s.x.free hM h
  |some c=>exact absurd h (s.st.mr.has (s.x.cells b za_))
def Jq.cellF(s:b2_){b:xY!}{c:Pe}(h:M b=some c):Gh own Z H b=H b/\H b≠none:=by refine⟨?_,s.st.mr.has (by rw[h];simp)⟩;unfold Gh;rw[IA (λhb=>by rw[(ld_).1]at h;cases h)]
def Jq.mr'(s:b2_)(x:zY_):MR P w K M G' H':=⟨λa c e=>by
 obtain⟨h1,h2⟩:=s.st.mr.cell a c e;obtain⟨e1,e2⟩:=s.cellF e;refine zb!
 .cases q:G' a with
  |none=>rfl
  |some o=>
   rcases x.new a cg! with z|z
   .exact absurd h1 z
   .rw[e1]at z;exact absurd z e2
 .cases q:H a with
  |none=>exact absurd q e2
  |some o=>exact x.h a o (e1.trans q)⟩
def Jq.x'(s:b2_)(x:zY_):XM M0 G0 F0 M G' H':=by
 refine⟨s.x.g.trans x.g,x.sub,bn!,zZ_,s.x.dom,s.x.cells⟩
 .obtain z|z:=x.new b h
  .exact s.x.new b z
  .exact p3_
 .have h1:=s.x.keep b o e hb;refine x.h b o ?_;unfold Gh;rw[z0_];exact h1
def Jq.after(s:b2_)(r:SR K σ G ld! G' H' hr ρ'):Jq P w K σ M0 G0 F0 M G' H' hr ρ':=
 ⟨⟨r.or,s.mr' r.ext,λi hi p e=>by
  cases q:M p with
  |none=>rfl
  |some c=>
   obtain⟨e1,e2⟩:=s.cellF q;have:=r.fr i hi p e;rw[e1]at this;exact absurd this e2⟩,s.x' r.ext,λi hi p e=>s.noF (r.fr i hi p e)⟩
end
section
variable{X:Cx}{own bj jp:List Nat}{st:Stmt}{rest body:List Stmt}{e a b c tg o:Expr}{es:List Expr}{pos p2:Pos}{f fa fb fc fo:WE}{fs:WA}{ft fu:WT}{q1 q2 q3:WS}{q:Ae->Option Fl}
def pY{t:TS}(h:iE!)(hw:∀M0 G0 F0 E Z G H ρ M R,Jq X.prog X.w X.K own M0 G0 F0 M G H Z ρ->q1 ρ M R->
  (∀ρ' M' G' hr H',R cT_ M'->Jq X.prog X.w X.K bj M0 G0 F0 M' G' H' hr ρ'->E.nx hr H')->(∀d M' v G' H',R bc_ M'->XM M0 G0 F0 M' G' H'->MR X.prog X.w X.K M' G' H'->Av X.K G' d v->E.rt v H')->t E Z H):MS X own bj st q1:=
 ⟨λM0 G0 F0 B s Z H E I ⟨G,ρ,M,R,sr,e,k1,k2⟩=>h B s Z H E I (hw M0 G0 F0 E Z G H ρ M R sr e k1 k2)⟩
def Ww(q:aO_):WS:=λρ M R=>Dz (q ρ) λr=>R r M
def c0h(h:DS X own bj st q):MS X own bj st (Ww q):=⟨λM0 G0 F0 B s Z H E I ⟨G,ρ,M,R,sr,e,k1,k2⟩=>by
 obtain⟨r,e1,e2⟩:=cW e;refine h.ok G ld! B s Z H E I ⟨G,ρ,r,sr.sr,e1,?_⟩;cases r with
 |nx ρ'=>exact λG' hr H' cm=>k1 ρ' M G' hr H' e2 (sr.after cm)
 |rt d=>exact λv G' H' x r=>k2 d M v G' H' e2 (sr.x' x) (sr.mr' x) r⟩
def Bo:WS:=λρ M R=>R aH_ M
def Ai(q1 q2:WS):WS:=λρ M R=>q1 ρ M λr M1=>match r with|.nx ah=>q2 ah M1 R|.rt d=>R bc_ M1
def bN:Vj X own own [] Bo:=⟨λM0 G0 F0 B s Z H E I ⟨G,ρ,M,R,sr,e,k1,k2⟩=>b2u B s Z H E I (k1 ρ M G Z H e sr)⟩
def aF(h1:z2_)(h2:Vj X bj jp rest q2):Vj X own jp oz_ (Ai q1 q2):=⟨λM0 G0 F0 B s Z H E I ⟨G,ρ,M,R,sr,e,k1,k2⟩=>
 a6e p4_ z3! B s Z H E I ⟨G,ρ,M,_,sr,e,λρ' M' G' hr H' r ez=>⟨G',ρ',M',R,ez,r,k1,k2⟩,λd M' v G' H' r x m q=>k2 d M' v G' H' r x m q⟩⟩
def aG(h1:z2_):Vj X own bj [st] q1:=⟨λM0 G0 F0=>b2t p4_⟩
def Jq.free{P:yJ!}{w:ys!}{K:yN!}{M0 M:Mh}{G0 F0 G H:Hp}{Z:St}{ρ:Ae}(s:b2_):Jq P w K [] M0 G0 F0 M fp_ H Z ρ:=by
 have o:=s.st.or.full;have sG:Bj G fp_:=λb u e=>by
  unfold La;split
  .exact s.st.or.sub b u e
  .exact e
 refine⟨⟨o,⟨λa c e=>?_⟩,aq!⟩,⟨s.x.g.trans sG,o.sub,bn!,s.x.keep,s.x.dom,s.x.cells⟩,aq!⟩
 .obtain⟨h1,h2⟩:=s.st.mr.cell a c e;refine⟨?_,h2.mono sG rfl⟩;unfold La;rw[IA (λhb=>by rw[(ld_).1]at e;cases e)];exact h1
 .unfold La at h;split at h
  .rename_i hb;exact .inr (ld_).2
  .exact s.x.new b h
def wO(h:Vj X [] jp rest q1):Vj X own jp rest q1:=⟨λM0 G0 F0 B s Z H E I ⟨G,ρ,M,R,sr,e,k1,k2⟩=>h.ok M0 G0 F0 B s Z H E I ⟨_,ρ,M,R,sr.free,e,k1,k2⟩⟩
def Aw(f:WE):WS:=λρ M R=>f ρ M λd M1=>R bc_ M1
def bD(h:b1!):MS X own bj mp_ (Aw f):=pY (b8u h.ok) λM0 G0 F0 E Z G H ρ M R sr e k1 k2=>
 ⟨G,ρ,M,_,sr.st,e,λd M' v G' H' r x m q=>k2 d M' v G' H' r (sr.x.trans x sr.st.mr) m q⟩
def Qd:WS:=λ_ M R=>R (.rt .non) M
def a2x:MS X own bj r5! Qd:=pY c4e λM0 G0 F0 E Z G H ρ M R sr e k1 k2=>k2 _ M _ G H e sr.x sr.st.mr Av.non
def Ao(i:Nat)(f:WE):WS:=λρ M R=>f ρ M λd M1=>R (.nx bW_) M1
def bC{i:Nat}(hN:bv_)(hi:an!)(Y:bw!)(h:b1!)(bp:bn_:=by decide)(hs:xa!:=by rfl)
  (hf:X.fn x=true\/X.env.scope.names.lookup x=some .local:=by first|exact .inl rfl|exact .inr rfl|assumption):MS X own own xa_ (Ao i f):=
 pY xb! λM0 G0 F0 E Z G H ρ M R sr e k1 k2=>⟨G,ρ,M,_,sr.st,e,λd M' v G' H' r x m q=>k1 _ M' G' _ H' r ((p6_).set bp q)⟩
def Au(ft:WT)(q1 q2:WS):WS:=λρ M R=>ft ρ M λb M1=>if b then q1 ρ M1 R else q2 ρ M1 R
def cE{b1 b2:b5!}(L:pL!)(h1:Vj X own bj b1 q1)(h2:Vj X own bj b2 q2):MS X own bj xb_ (Au ft q1 q2):=⟨λM0 G0 F0 B s Z H E I ⟨G,ρ,M,R,sr,e,k1,k2⟩=>by
 refine c7e L.ok p4_ z3! B s Z H E I ⟨G,ρ,M,_,sr.st,e,λb M' G' H' r x m=>?_⟩;cases b with
 |true=>exact mP z5!
 |false=>exact mQ z5!⟩
def Bz(f:WE):WS:=λρ M R=>f ρ M λ_ M1=>R aH_ M1
def cR(h:b1!)(hs:r3_:=by rfl):MS X own own (.Expr e pos) (Bz f):=
 pY (uR h.ok hs) λM0 G0 F0 E Z G H ρ M R sr e k1 k2=>⟨G,ρ,M,_,sr.st,e,λd M' v G' H' r x m q=>k1 ρ M' G' Z H' r p6_⟩
def Gc:WS:=λ_ _ _=>False
def iA:MS X own bj st Gc:=⟨λM0 G0 F0 B s Z H E I ⟨G,ρ,M,R,sr,e,k1,k2⟩=>e.elim⟩
def Fv(C:xY!)(x:Str)(fo f:WE):WS:=λρ M R=>f ρ M λy M1=>fo ρ M1 λd M2=>match d with
 |.fn p=>(match M2 p with|some (.obj C' fs)=>C'=C/\bu_<100/\R aH_ (Az M2 p p7!)|_=>False)
 |_=>False
def gC(c:d3_)(n:Ef X.K C x)(ho:cS!)(h:b1!)(hs:swapsWith e (some (.Attribute o x p2)) pos.line X.env=pure false:=by rfl):MS X own own (.Assign [.Attribute o x p2] e pos) (Fv C x fo f):=
 pY (c8k ho.ok h.ok hs) λM0 G0 F0 E Z G H ρ M R sr e k1 k2=>⟨G,ρ,M,_,sr.st,e,λy M1 v G1 H1 r1 x1 m1 q1=>⟨G1,ρ,M1,_,sr.st.grow x1 m1,r1,λd M2 u G2 H2 r2 x2 m2 q2=>by
  cases d<;>first|exact r2.elim|skip
  rename_i p;cases fX q2;dsimp only at r2;split at r2
  .rename_i C' fs hM;obtain⟨hC,hl,r2⟩:=r2;subst hC;obtain⟨_,dx,vs,h3,h4⟩:=m2.cell p _ hM;have ao:bu_=bC!:=NR h4;exact⟨p,_,dx,vs,rfl,h3,c,n,v!,k1 ρ _ G2 Z _ r2 ((z7_).grow (.write m2 x2.sub hM) (m2.write hM ⟨dx,_,bW,b3x b1_ h4⟩))⟩
  .exact r2.elim⟩⟩
def Lc(M:Mh)(d y v:D):Option Mh:=match d with
 |.fn p=>match M p with
  |some (.dct kvs ep)=>if(fR!).isSome&&decide (aC_<big)then some h1_ else none
  |some (.lst xs)=>match y with
   |.int j=>(Eg xs.length j).map λk=>Az M p (.lst (xs.set k v))
   |_=>none
  |_=>none
 |_=>none
def BW(P:yJ!)(w:ys!)(K:yN!):V->V->V->Hp->mr!->Prop:=λo i v H Q=>∃(M:Mh) (G:Hp) (a:xY!) (kvs:i_) (ep:Nat) (d x:D) (k:MK),o=.ref a/\Bj G H/\MR P w K M G H/\M a=some hT_/\Av K G d i/\De d=some k/\Av K G x v/\aC_<big/\
 ∀ar,He P w K G k1_ a zq!->Q k1_
def c3q(hu:ar_):Wp X (BW X.prog X.w X.K):=by intro B s Z H o i v ov iv u Q I ro ri rv h;obtain⟨M,G,a,kvs,ep,d,x,k,rfl,sub,m,e,r,hk,rx,hl,q⟩:=h;cases ro;exact b1g (A:=X.A) a! I m sub e ⟨_,r,ri⟩ hk ⟨_,rx,rv⟩ hl λar s' I' c'=>⟨_,I',q ar c'⟩
def c4c{r r':Zg}(h:Wp X r)(h':Wp X r'):Wp X (λo i v H Q=>r o i v H Q\/r' o i v H Q):=by
 intro B s Z H o i v ov iv u Q I ro ri rv q;obtain q|q:=q
 .exact h B s Z H o i v ov iv u Q I ro ri rv q
 .exact h' B s Z H o i v ov iv u Q I ro ri rv q
def Cd(fo fi f:WE):WS:=λρ M R=>f ρ M λv M1=>fo ρ M1 λd M2=>fi ρ M2 λy M3=>Dz qa! λM4=>R aH_ M4
def dI{fi:WE}(hu:ar_)(ho:cS!)(hi:ME X own i fi)(h:b1!)
  (ha:∀v,assign Aa_ X.env v=(do
   let ov <-holding [v] dR!
   let iv <-holding [v,ov] sc!
   standAt p2
   holding eW_ mv!
   release eW_ []):=by intro _;rfl)
  (hs:swapsWithSole lf! e pos.line X.env=pure false:=by rfl) (hw:swappedStores lf! e X.env=pure none:=by rfl)
  (h1:(assignEach lf! X.env).map C!=[assign Aa_ X.env]:=by rfl):MS X own own (.Assign lf! e pos) (Cd fo fi f):=
 pY (b8w h.ok (b9c ho.ok hi.ok (c4c a5o (c3q hu)) ha) hs hw h1) λM0 G0 F0 E Z G H ρ M R sr e k1 k2=>⟨G,ρ,M,_,sr.st,e,λv M1 vv G1 H1 r1 x1 m1 q1=>⟨G1,ρ,M1,_,sr.st.grow x1 m1,r1,λd M2 dv G2 H2 r2 x2 m2 q2=>
  ⟨G2,ρ,M2,_,(sr.st.grow x1 m1).grow x2 m2,r2,λy M3 yv G3 H3 r3 x3 m3 q3=>by
   obtain⟨M4,e4,r4⟩:=cW r3;have we:=(z7_).grow x3 m3;have qd:=q2.mono x3.g;have qv:=(b1_).mono x3.g;unfold Lc at e4;split at e4
   .rename_i p;cases fX qd;split at e4
    .rename_i kvs ep hM;split at e4
     .rename_i L;rw[JG,JI]at L;cases e4;obtain⟨kk,hk⟩:=QE.mp L.1;exact .inr ⟨M3,G3,p,kvs,ep,y,v,kk,rfl,x3.sub,m3,hM,q3,hk,qv,L.2,λar c'=>k1 ρ _ G3 Z _ r4 (we.grow Ac! (m3.write hM c'))⟩
     .cases e4
    .rename_i xs hM;split at e4
     .rename_i j;cases aY q3;obtain⟨n,e5,rfl⟩:=IG.mp e4;obtain⟨_,vs,h3,h4⟩:=m3.cell p _ hM;exact .inl ⟨p,vs,j,n,rfl,rfl,h3,by rw[<-aI h4];exact e5,k1 ρ _ G3 Z _ r4 (we.grow Ac! (m3.write hM ⟨_,bW,wA qv n h4⟩))⟩
     .cases e4
    .cases e4
   .cases e4⟩⟩⟩
def Th(i:Nat)(f:WE):WS:=λρ M R=>match ρ[i]? with
 |some (some (.int a))=>f ρ M λd M1=>(match d with|.int b=>R (.nx (ρ.set i (some (.int (a+b))))) M1|_=>False)
 |_=>False
def c0i{i:Nat}(hN:bv_)(hi:an!)(Y:bw!)(h:b1!)(bp:bn_:=by decide)
  (hf:X.fn x=true\/X.env.scope.names.lookup x=some .local:=by first|exact .inl rfl|exact .inr rfl|assumption):MS X own own (.AugAssign dr! .Add e pos) (Th i f):=
 pY (c8l hN hi Y h.ok c9y hf) λM0 G0 F0 E Z G H ρ M R sr e k1 k2=>by
  unfold Th at e;show"!6"
  .rename_i a ny;obtain⟨v,h1,h2⟩:=sr.st.or.at_ i _ ny bp;cases aY h2;refine⟨_,h1,G,ρ,M,_,sr.st,e,Ae!⟩;cases d<;>first|exact r.elim|skip
   cases aY q;exact⟨a,_,rfl,rfl,k1 _ M' G' _ H' r ((p6_).set bp Av.int)⟩
  .exact e.elim
def Dg(ft:WT)(q:WS):Nat->WS
 |0=>λ_ _ _=>False
 |n+1=>λρ M R=>ft ρ M λb M1=>if b then q ρ M1 (λr M2=>match r with|.nx bh=>Dg ft q n bh M2 R|.rt d=>R bc_ M2)else R aH_ M1
def Jj(ft:WT)(q:WS):WS:=λρ M R=>∃n,Dg ft q n ρ M R
def kB(hp:gr!)(L:pL!)(hb:Af!):MS X own own sf_ (Jj ft q1):=⟨λM0 G0 F0 B s Z H E I ⟨G,ρ,M,R,sr,⟨n,e⟩,k1,k2⟩=>by
 refine b8t hp L.ok (hb.ok M0 G0 F0) B s Z H E I ⟨λm hr H'=>∃G' ρ' M',Jq X.prog X.w X.K own M0 G0 F0 M' G' H' hr ρ'/\Dg ft q1 m ρ' M' R,⟨n,G,ρ,M,sr,e⟩,?_⟩;rintro m hr H' ⟨G',ρ',M',ez,e'⟩;cases m with
 |zero=>exact e'.elim
 |succ m=>
  refine⟨G',ρ',M',_,ez.st,e',λb M1 G1 H1 r1 x1 m1=>?_⟩;cases b with
  |true=>exact mP ⟨λc9 H2=>∃G2 bh M2,Jq X.prog X.w X.K own M0 G0 F0 M2 G2 H2 c9 bh/\Dg ft q1 m bh M2 R,λc9 H2 h=>⟨m,QQ m,h⟩,G1,ρ',M1,_,ez.grow x1 m1,r1,λbh M2 G2 c9 H2 r2 zf=>⟨G2,bh,M2,zf,r2⟩,λd M2 v G2 H2 r2 x2 m2 q2=>k2 d M2 v G2 H2 r2 x2 m2 q2⟩
  |false=>exact mQ (k1 ρ' M1 G1 hr H1 r1 (ez.grow x1 m1))⟩
end
def EB(P:yJ!)(w:ys!)(K:yN!)(ab:It)(ds:c_)(ck:bJ_)(G1:Hp):Prop:=∀(i:Nat) (M':Mh) (G' H':Hp),Bj G1 G'->Bj G' H'->MR P w K M' G' H'->ck M'->
 w0_/\w1!
abbrev WI:=Ae->Mh->(List D->(Mh->Prop)->Mh->Prop)->Prop
inductive FU(P:yJ!)(w:ys!)(K:yN!)(own:k!)(fi:WI)(Z:St)(H:Hp)(R:gt!):Prop
 |mk (G:Hp) (ρ:Ae) (M:Mh) (T:List D->(Mh->Prop)->Mh->Prop) (st:hP!) (e:fi ρ M T) (k:∀ds ck M1 ab G1 H1,T ds ck M1->XM M G H M1 G1 H1->MR P w K M1 G1 H1->EB P w K ab ds ck G1->R ab H1):FU P w K own fi Z H R
structure MI(X:Cx)(own:k!)(tg iter:Expr)(fi:WI):Prop where
 ok:PI X tg iter (FU X.prog X.w X.K own fi)
section
variable{X:Cx}{own bj jp:List Nat}{st:Stmt}{rest body:List Stmt}{e a b c tg o:Expr}{es:List Expr}{pos p2:Pos}{f fa fb fc fo:WE}{fs:WA}{fi:WI}{ft fu:WT}{q1 q2 q3:WS}{di:Ae->Option (List D)}
def c7i{wi:TI}(h:PI X tg e wi)(hw:∀Z G H R ρ M T,Tf X.prog X.w X.K own G H Z ρ M->fi ρ M T->(∀ds ck M1 ab G1 H1,T ds ck M1->XM M G H M1 G1 H1->MR X.prog X.w X.K M1 G1 H1->EB X.prog X.w X.K ab ds ck G1->R ab H1)->wi Z H R):MI X own tg e fi:=
 ⟨λB s Z H R I ⟨G,ρ,M,T,st,e,k⟩=>h B s Z H R I (hw Z G H R ρ M T st e k)⟩
def Hf(di:aq_):WI:=λρ M T=>Dz (di ρ) λds=>T ds ah! M
def Zj.m{K:yN!}{ab:It}{G1:Hp}(h:Zj K ab ds G1):EB P w K ab ds ah! G1:=λi M' G' H' s1 s2 _ _=>h i G' H' s1 s2
def lR(h:DI X own tg e di):MI X own tg e (Hf di):=c7i h.ok λZ G H R ρ M T st e k=>by
 obtain⟨ds,e1,e2⟩:=cW e;exact⟨G,ρ,ds,st.or,e1,λab G1 H1 x fw=>k ds _ M ab G1 H1 e2 (.ext x) pI! fw.m⟩
def Ci(f:WE):WI:=λρ M T=>f ρ M λd M1=>match d with
 |.lst xs=>T xs ah! M1
 |.fn p=>(match M1 p with|some (.lst xs)=>T xs (λM=>M p=some L!) M1|_=>False)
 |_=>False
def eA(h:am_):MI X own tg a (Ci fa):=c7i (b2y h.ok) λZ G H R ρ M T st e k=>⟨G,ρ,M,_,st,e,λd M1 v G1 H1 r1 x1 m1 q1=>by
 cases d<;>first|exact r1.elim|skip
 .obtain⟨p,vs,rfl,q,rr⟩:=bP q1;exact⟨p,rfl,⟨vs,x1.sub.seq q⟩,k _ _ M1 _ G1 H1 r1 x1 m1 (a7m q rr).m⟩
 .rename_i p;cases fX q1;dsimp only at r1;split at r1
  .rename_i xs hM;obtain⟨_,vs,h1,h2⟩:=m1.cell p _ hM;refine⟨p,rfl,⟨vs,Fj.of h1⟩,k _ _ M1 _ G1 H1 r1 x1 m1 λi M' G' H' s1 s2 m' ck=>?_⟩;obtain⟨_,gd,h3,h4⟩:=m'.cell p _ ck;have q':Fj X.K H' p gd:=Fj.of h3;refine⟨es!,λhi=>⟨gd,q',by rw[<-aI h4,hi];exact IW _⟩⟩;obtain⟨v,g1,g2⟩:=hJ h4 hd;refine⟨⟨gd,v,q',g1⟩,hr!⟩;obtain⟨e1,e2⟩:=hy;subst e1;have:=e2 gd q';rw[g1]at this;cases this;exact⟨G',kk!,g2⟩
  .exact r1.elim⟩
def Jc(bnd:af_)(ck:bJ_)(q:WS):List D->WS
 |[]=>λρ M R=>ck M/\R aH_ M
 |d::ds=>λρ M R=>ck M/\Dz kl! λah=>q ah M λr M1=>match r with|.nx bh=>Jc bnd ck q ds bh M1 R|.rt d=>R bc_ M1
def Dx(fi:WI)(bnd:af_)(q:WS):WS:=λρ M R=>fi ρ M λds ck M1=>Jc bnd ck q ds ρ M1 R
def FQ(K:yN!)(own:k!)(g:TG)(bnd:af_):Prop:=∀{P:yJ!} {w:ys!} {x:V} {d:D} {Z:St} {M0 M:Mh} {G0 F0 G H:Hp} {ρ ah:Ae} {Q:iH!},Jq P w K own M0 G0 F0 M G H Z ρ->Av K G d x->bnd d ρ=some ah->(∀dt,Jq P w K own M0 G0 F0 M G H dt ah->Q dt H)->g x Z H Q
def dR{K:yN!}(i:Nat)(hi:bn_:=by decide):FQ K own eW! (Cs i):=by intro P w x d Z M0 M G0 F0 G H ρ ah Q sr r e k;cases e;exact k _ (sr.set hi r)
def Wc(i j:Nat):D->Ae->Option Ae:=λd ρ=>match d with|.tup [x,y]=>some ((ρ.set i gq_).set j (some y))|_=>none
def c1r{K:yN!}(i j:Nat)(hi:bn_:=by decide)(hj:j∉own:=by decide):FQ K own w3! (Wc i j):=by
 intro P w x d Z M0 M G0 F0 G H ρ ah Q sr r e k;unfold Wc at e;show"!6"
 .cases e;show"!X";show"!4";exact⟨p,[v1,v2],rfl,bY sr.st.or.sub q,rfl,v1,[v2],rfl,v2,[],rfl,rfl,k _ ((sr.set hi r1).set hj r2)⟩
 .cases e
def Jq.base{K:yN!}{M0 M1:Mh}{G0 F0 G1 H1:Hp}{Z:St}{ρ:Ae}(s:qd!):Jq P w K own M1 G1 h2_ M1 G1 H1 Z ρ:=
 ⟨s.st,⟨Bj.refl _,s.st.or.sub,dt!,λb o e _=>s.sr.ext.h b o e,dt!,λb h=>h⟩,λi hi p e=>s.sr.fr i hi p e⟩
def Jq.unx{K:yN!}{M0 M1 M':Mh}{G0 F0 G1 H1 G' H':Hp}{Z:St}{ρ:Ae}(s:qd!)(y:XM M1 G1 h2_ M' G' H'):XM M0 G0 F0 M' G' H':=by
 refine⟨s.x.g.trans y.g,y.sub,bn!,zZ_,bn!,λb h=>y.cells b (s.x.cells b h)⟩
 .obtain z|z:=y.new b h
  .exact s.x.new b z
  .exact p3_
 .refine y.keep b o ?_ ?_
  .unfold Gh;rw[z0_];exact s.x.keep b o e hb
  .cases q:M1 b with
   |none=>rfl
   |some c=>
    rcases s.x.dom b cg! with z|z
    .exact absurd hb z
    .rw[e]at z;cases z
 .obtain z|z:=y.dom b h
  .exact s.x.dom b z
  .exact p3_
def Jq.unbase{K:yN!}{M0 M1 M':Mh}{G0 F0 G1 H1 G' H':Hp}{Z hr:St}{ρ ρ':Ae}(s:qd!)(s':Jq P w K bj M1 G1 h2_ M' G' H' hr ρ'):Jq P w K bj M0 G0 F0 M' G' H' hr ρ':=
 ⟨s'.st,s.unx s'.x,λi hi p e=>s.noF (s'.fr i hi p e)⟩
def fE{g:TG}{bnd:af_}(hp:gr!)(L:aD_)(al:qd_)(hg:mw_)(ng:FQ X.K own g bnd)(hb:Af!)
  (hs:c9!:=by intro _;rfl):MS X own own sr! (Dx fi bnd q1):=⟨λM0 G0 F0 B s Z H E I ⟨G,ρ,M,R,sr,e,k1,k2⟩=>by
 have dm:Ul X body (λE Z H=>∃A hc C,DN X.prog X.w X.K A hc C own own q1 E Z H):=λB s Z H E I ⟨A,hc,C,h⟩=>hb.ok A hc C B s Z H E I h;refine b8v hp L al.ok hg dm hs B s Z H E I ⟨G,ρ,M,_,sr.st,e,λds ck M1 ab G1 H1 r1 x1 m1 fw=>?_⟩;have zg:=sr.grow x1 m1;refine⟨λn m hr H'=>n<=f_/\m=f_ - n/\∃G' ρ' M',Jq X.prog X.w X.K own M1 G1 h2_ M' G' H' hr ρ'/\Jc bnd ck q1 ob! ρ' M' R,
  ⟨f_,KC _,rfl,G1,ρ,M1,zg.base,r1⟩,?_⟩
 rintro n m hr H' ⟨hn,rfl,G',ρ',M',ez,e3⟩;have ff:ck M':=by
  cases hd:ds.drop n with
  |nil=>rw[hd]at e3;exact e3.1
  |cons _ _=>rw[hd]at e3;exact e3.1
 obtain⟨m7,m8⟩:=fw n M' G' H' ez.x.g ez.st.or.sub ez.st.mr ff;by_cases ap:n<f_
 .right;have hd:ds[n]?=some ds[n]:=by simp[ap]
  rw[NB ap]at e3;obtain⟨_,e3⟩:=e3;obtain⟨ah,e4,e3⟩:=cW e3;obtain⟨go,yl⟩:=m7 _ hd;refine⟨go,λc9 H2=>∃G2 bh M2,Jq X.prog X.w X.K own M1 G1 h2_ M2 G2 H2 c9 bh/\Jc bnd ck q1 (ds.drop cO!) bh M2 R,λc9 H2 ⟨G2,bh,M2,h1,h3⟩=>⟨f_ - cO!,v!,ap,rfl,G2,bh,M2,h1,h3⟩,kl_⟩;obtain⟨G2,x2,r2⟩:=yl v H2 hy;have zf:=ez.grow k6! (ez.st.mr.ext x2);exact ng zf r2 e4 λgn we=>⟨M1,G1,Gh own Z H1,G2,ah,M',_,we,e3,λtz M4 G4 σ4 H4 r4 Z0=>⟨G4,tz,M4,Z0,r4⟩,λd M4 v G4 H4 r4 x4 m4 q4=>k2 d M4 v G4 H4 r4 (zg.unx x4) m4 q4⟩
 .left;have iw:n=f_:=by omega
  refine oS_;rw[iw,QS]at e3;exact k1 ρ' M' G' hr H' e3.2 (zg.unbase ez)⟩
def Ri(bnd:af_)(ck:bJ_)(ft:WT)(fe:WE)(ρ:Ae):List D->Mh->zd_->Prop
 |[],M,R=>ck M/\R [] M
 |d::ds,M,R=>ck M/\Dz kl! λah=>ft ah M λb M1=>if b then fe ah M1 λy M2=>Ri bnd ck ft fe ρ ds M2 λys M3=>R (y::ys) M3 else Ri bnd ck ft fe ρ ds M1 R
def Bf(nl:Nat)(ix:k!)(fi:WI)(bnd:af_)(ft:WT)(fe:WE):WE:=λρ M R=>fi ρ M λds ck M1=>f_<=big/\Ri bnd ck ft fe of_ ds M1 λys M2=>R a9! M2
def b4e{K:yN!}{ab:It}{ds:c_}{ck:bJ_}{M1:Mh}{G1 H1:Hp}{g:TG}{bnd:af_}{fe:WE}{j9:Ae}{sn:St}{Fin:c2!}{R:kV_}
  (hb:f_<=big)(fw:EB P w K ab ds ck G1)(hg:GD K g bnd)(er:Tf P w K [] G1 H1 sn j9 M1)(e:Ri bnd ck ft fe j9 ds M1 R)(k:∀jo ys M' G' H',R jo M'->XM M1 G1 H1 M' G' H'->MR P w K M' G' H'->Am K G' jo ys->jo.length<=f_->Fin ys H'):
  We ab g (Zl P w K [] ft) (BK P w K [] fe) Fin sn H1:=by
 refine⟨λi m ys hr H'=>i<=f_/\m=f_ - i/\∃G' M' ws,XM M1 G1 H1 M' G' H'/\Tf P w K [] G' H' hr j9 M'/\Am K G' ws ys/\ns!<=i/\Ri bnd ck ft fe j9 (ds.drop i) M' λr M2=>R (ws++r) M2,
  ⟨f_,KC _,rfl,G1,M1,[],.refl er.or.sub,er,Am.nil,KC _,e⟩,?_⟩
 rintro i m ys hr H' ⟨hi,rfl,G',M',ws,x,cm,ak,hw,e2⟩;refine w3_;have ff:ck M':=by
  cases hd:ds.drop i with
  |nil=>rw[hd]at e2;exact e2.1
  |cons _ _=>rw[hd]at e2;exact e2.1
 obtain⟨m7,m8⟩:=fw i M' G' H' x.g cm.or.sub cm.mr ff;by_cases ap:i<f_
 .right;have hd:ds[i]?=some ds[i]:=by simp[ap]
  rw[NB ap]at e2;obtain⟨_,e2⟩:=e2;obtain⟨ah,e1,e2⟩:=cW e2;obtain⟨go,yl⟩:=m7 _ hd;refine⟨go,kl_⟩;obtain⟨G2,x2,r2⟩:=yl v H2 hy;have cg:=cm.grow k6! (cm.mr.ext x2);have Z1:XM M1 G1 H1 M' G2 H2:=x.trans k6! cm.mr;refine hg cg.or r2 e1 λdt mz sv=>⟨G2,ah,M',_,Ah_,e2,λb M3 G3 H3 r3 x3 m3=>?_⟩;have ke:=(show Tf P w K [] G2 H2 dt ah M' from Ah_).grow x3 m3;have ll:=Z1.trans x3 cg.mr;cases b with
  |true=>
   refine mP ⟨G3,ah,M3,_,ke,r3,λy M4 u G4 H4 r4 x4 m4 q4=>⟨f_ - X!,v!,ap,rfl,G4,M4,ws++[y],ll.trans x4 m3,⟨(ke.grow x4 m4).or.le sv,m4,aq!⟩,?_,?_,?_⟩⟩
   .exact cY w4_ (Am.cons q4 Am.nil)
   .rw[IT,LQ];omega
   .have e5:(λr M2=>R (ws++[y]++r) M2)=λr M2=>R (ws++y::r) M2:=by
     funext r M2;rw[KI];rfl
    rw[e5];exact r4
  |false=>
   exact mQ ⟨f_ - X!,v!,ap,rfl,G3,M3,ws,ll,⟨ke.or.le sv,m3,aq!⟩,(oJ_).mono x3.g,v!,r3⟩
 .left;have iw:i=f_:=by omega
  refine oS_;rw[iw,QS]at e2;have this:R (ws++[]) M':=e2.2;rw[JA]at this;exact k ws ys M' G' H' this x cm.mr ak a!
def eI{scope:Scope}{NL:r_}{ix:k!}{g:TG}{bnd:af_}{fe:WE}
  (cj:dj!)(cf:dj_)(j8:∀y∈ch!,y.2=.local->scope.names.lookup y.1=some .local)
  (ij:g9_)(cap:di_)(m9:j3!)(calm:aD_)(al:qd_)
  (hg:ha!)(ng:oK_)(hi:Ai_)(he:Aj!)
  (hs:c9!:=by intro _;rfl):
  ME X own g7! Aj_:=
 eL w6_ λZ G H Q ρ M R st e k=>⟨G,ρ,M,_,st,e,λds ck M1 ab G1 H1 r1 x1 m1 fw=>by
  obtain⟨hb,r1⟩:=r1;have j7:=st.grow x1 m1;refine b4e hb fw ng Ak! r1 λjo ys M' G' H' r x m q _ p hp=>?_;exact k _ M' _ _ _ r ((x1.trans x m1).trans (.ext hr_) m) (m.ext hr_) (cM oL! q)⟩
def wQ:Py X [] (Zl X.prog X.w X.K [] λρ M R=>R true M):=λB s Z H Q I ⟨G,ρ,M,R,st,e,k⟩=>a6g B s Z H Q I (k true M G H e pI_ st.mr)
def jF(h:MT X [] c ft):Py X [c] Ai!:=a6f h.ok
abbrev WF:=List D->Mh->zd!->Prop
def Ye(P:yJ!)(w:ys!)(K:yN!)(n:Nat)(g:WF):Sp:=λvs H Q _=>bC!=n/\∃G ds M R,Bj G H/\MR P w K M G H/\Am K G ds vs/\g ds M R/\∀d M' v G' H',R d M'->XM M G H M' G' H'->MR P w K M' G' H'->Av K G' d v->Q v H'
def Kd(P:yJ!)(w:ys!)(K:yN!)(mg:A!)(base:Heap)(k:Nat)(x:Str)(ps:r_)(g:WF):Prop:=
 ∃hA fd,Fm P w K mg base Pz k hA fd ps qe!/\Ez K fd ps []/\mg x=some bY!/\W.keepIn K bY!=true
nonrec def gl(g:ad!):WF:=λds M R=>Dz (g ds) λd=>R d M
def Ak(n:Nat)(g:WF)(fs:WA):WE:=λρ M R=>fs ρ M λds M1=>f_=n/\g ds M1 R
def aO{k:Nat}{ps:r_}{g:WF}{x:Str}(F:Kd X.prog X.w X.K X.mg X.base k x ps g)(J:cc!)(hg:S!)(ha:hV_)
  (be:F!:=by decide)(he:ao_:=by rfl)(ax:aU_:=by rfl):
  ME X own bj! (Ak ps.length g fs):=by
 obtain⟨hA,fd,h1,h2,h3,h4⟩:=F;refine eL (b3d h1 J hg h3 h4 h2 .nil wF ha.ok be he ax) λZ G H Q ρ M R st e' k=>⟨G,ρ,M,_,st,e',λds M1 vs G1 H1 r1 x1 m1 q1=>?_⟩;show Ye X.prog X.w X.K ps.length g (vs++[]) H1 Q E0;rw[JA];exact⟨by rw[<-aI q1];exact r1.1,G1,ds,M1,R,x1.sub,m1,q1,r1.2,zm!⟩
def Dq(P:yJ!)(w:ys!)(K:yN!)(mg:A!)(base:Heap)(k:Nat)(C:xY!)(m:Str)(ps:r_)(g:WF):Prop:=
 Us K C/\∃hA fd,Ws K C m hA/\Fm P w K mg base Pz k hA fd ps qe!/\Ez K fd ps []
def Dh(C:xY!)(m:Str)(M:Mh)(d:D):Prop:=match d with
 |.fn p=>(match M p with|some (.obj C' fs)=>C'=C/\fs.lookup m=none|_=>False)
 |_=>False
def a7n{K:yN!}{M:Mh}{G H:Hp}(mr:co_)(r:cK_)(h:li_):∃p dx vs,d=.fn p/\v=.ref p/\H p=some y8!/\vs.lookup m=none:=by
 unfold Dh at h;split at h
 .rename_i p;cases fX r;split at h
  .rename_i C' fs hM;obtain⟨rfl,hl⟩:=h;obtain⟨_,dx,vs,h1,h2⟩:=mr.cell p _ hM;exact⟨p,dx,vs,rfl,rfl,h1,a7u h2 hl⟩
  .exact h.elim
 .exact h.elim
def Bc(C:xY!)(m:Str)(n:Nat)(g:WF)(fo:WE)(fs:WA):WE:=λρ M R=>fo ρ M λd M1=>Dh C m M1 d/\fs ρ M1 λds M2=>f_+1=n/\g eg_ M2 R
def bU{k:Nat}{ps:r_}{g:WF}{aj:Pos}{pl:d1!}(F:Ak_)(J:cc!)(ho:cS!)(ha:hV_)
  (bz:ao_:=by rfl)(ax:aU_:=by rfl)
  (ht:eval jf! X.env=(do
   let ov <-eval o X.env
   standAt gJ!
   let(f,first) <-holding [ov] gJ_
   callWith pos f first tI! e8!):=by rfl):ME X own jf! (Bc C m ps.length g fo fs):=by
 obtain⟨cl,hA,fd,h1,h2,h3⟩:=F;refine eL (c4k (pl:=pl) ho.ok cl h1 h2 J h3 .nil wF ha.ok bz ax ht) λZ G H Q ρ M R st e' k=>Am!;show"!k";refine⟨p,dx,vs,rfl,hH,hl,G1,ρ,M1,_,kY_,r1,λds M2 us G2 H2 r2 x2 m2 q2=>?_⟩;show Ye X.prog X.w X.K ps.length g (.ref p::(us++[])) H2 Q E0;rw[JA];exact⟨by rw[IQ,<-aI q2];exact r2.1,G2,.fn p::ds,M2,R,x2.sub,m2,Am.cons Av.fn q2,r2.2,λd M3 v G3 H3 r3 x3 m3 q3=>k d M3 v G3 H3 r3 pY! m3 q3⟩
def a6x{k:Nat}{ps:r_}{g:WF}{aj:Pos}{pl:d1!}(F:Ak_)(J:cc!)(ho:cS!)
  (ht:eval jf_ X.env=(do
   let ov <-eval o X.env
   standAt gJ!
   let(f,first) <-holding [ov] gJ_
   callWith pos f first nl! e8!):=by rfl):ME X own jf_ (Bc C m ps.length g fo Af):=by
 obtain⟨cl,hA,fd,h1,h2,h3⟩:=F;refine eL (b9i (pl:=pl) ho.ok cl h1 h2 J h3 .nil wF ht) λZ G H Q ρ M R st e' k=>Am!;show"!k";refine⟨p,dx,vs,rfl,hH,hl,?_⟩;show Ye X.prog X.w X.K ps.length g gY! H1 Q E0;have r2:[].length+1=T_/\g (D.fn p::[]) M1 R:=r1;exact⟨r2.1,G1,[.fn p],M1,R,x1.sub,m1,Am.cons Av.fn Am.nil,r2.2,λd M3 v G3 H3 r3 x3 m3 q3=>k d M3 v G3 H3 r3 (x1.trans x3 m1) m3 q3⟩
def Wr(P:yJ!)(w:ys!)(K:yN!)(mg:A!)(base:Heap)(k:Nat)(x:Str)(C:xY!)(ps:r_)(g:WF):Prop:=
 mg x=some ax_/\∃hA fd,Mk K C hA/\Fm P w K mg base Pz k hA fd ps qe!/\Ez K fd ps []
def Hh(C:xY!)(n:Nat)(g:WF)(fs:WA):WE:=λρ M R=>fs ρ M λds M1=>f_+1=n/\∀p,M1 p=none->g (.fn p::ds) (Az M1 p lj_) λd M2=>d=.non/\R A_ M2
def c0r{K:yN!}{M1:Mh}{G1 H1:Hp}(sub:Bj G1 H1)(m1:y9_)(Y:H1 x=none)(jx:H1 dx=none)(ne:dx≠x):
  XM M1 G1 H1 (Az M1 x lj_) G1 nh_/\MR P w K (Az M1 x lj_) G1 nh_:=by
 have ac:∀b o,H1 b=some o->upd tC! x nh! b=some o:=λb o e=>by rw[aW (cL e Y),aW (cL e jx)];exact e
 refine⟨⟨Bj.refl G1,λb o e=>ac b o (sub b o e),dt!,λb o e _=>ac b o e,bn!,bn!⟩,⟨λb q e=>?_⟩⟩
 .by_cases hb:b=x
  .subst hb;exact .inr Y
  .rw[bs!]at h;exact .inl h
 .by_cases hb:b=x
  .subst hb;rw[mup_same];simp
  .rw[bs!];exact h
 .by_cases hb:b=x
  .show"#(";exact⟨sub.free Y,dx,[],bW,.nil⟩
  .rw[bs!]at e;obtain⟨h1,h2⟩:=m1.cell b q e;refine⟨h1,h2.mono (Bj.refl G1) ?_⟩;cases hq:H1 b with
   |none=>exact absurd hq h2.has
   |some o=>exact ac b o hq
def b3o{k:Nat}{x:Str}{ps:r_}{g:WF}(F:Aq!)(J:gM!)(hg:S!)(ha:hV_)
  (be:F!:=by decide)(he:ao_:=by rfl)(ax:aU_:=by rfl):ME X own bj! (Hh C ps.length g fs):=by
 obtain⟨hm,hA,fd,h1,h2,h3⟩:=F;refine eL (c4l h1 h2 J hg hm h3 .nil wF ha.ok be he ax) λZ G H Q ρ M R st e' k=>⟨G,ρ,M,_,st,e',λds M1 vs G1 H1 r1 x1 m1 q1=>λy dx hy jx ne=>?_⟩;obtain⟨z1,z2⟩:=c0r (C:=C) x1.sub m1 hy jx ne;rw[JA];exact⟨by rw[IQ,<-aI q1];exact r1.1,G1,.fn y::ds,_,_,z1.sub,z2,Am.cons Av.fn q1,r1.2 y (m1.nocell hy),λd M2 v G2 H2 r2 x2 m2 q2=>by
  obtain⟨rfl,r2⟩:=r2;exact⟨eH q2,k _ M2 _ G2 H2 r2 ((x1.trans z1 m1).trans x2 z2) m2 Av.fn⟩⟩
def mH{k:Nat}{x:Str}{ps:r_}{g:WF}(F:Aq!)(J:gM!)(hg:S!)
  (be:F!:=by decide):ME X own tN_ (Hh C ps.length g Af):=by
 obtain⟨hm,hA,fd,h1,h2,h3⟩:=F;refine eL (b9j h1 h2 J hg hm h3 .nil wF be) λZ G H Q ρ M R st e' k=>λy dx hy jx ne=>?_;obtain⟨z1,z2⟩:=c0r (C:=C) st.or.sub st.mr hy jx ne;have r1:[].length+1=T_/\∀p,M p=none->g (D.fn p::[]) (Az M p lj_) λd M2=>d=.non/\R A_ M2:=e';exact⟨r1.1,G,[.fn y],_,_,z1.sub,z2,Am.cons Av.fn Am.nil,r1.2 y (st.mr.nocell hy),λd M2 v G2 H2 r2 x2 m2 q2=>by
  obtain⟨rfl,r2⟩:=r2;exact⟨eH q2,k _ M2 _ G2 H2 r2 (z1.trans x2 z2) m2 Av.fn⟩⟩
def Bw(N:r_)(n:Nat)(q:WS):WF:=λds M R=>f_=n/\q hw! M λr M'=>match r with|.rt d=>R d M'|.nx _=>R .non M'
end
def vD{K:yN!}{mg:A!}{st:Stmt}{ps:r_}{k:Nat}{σ:k!}{q:WS}
  (F:xo!)(S:ec!)
  (hb:∀(af:yh!) (A:yg!) (outer:av_) (s:yM!) (H:Hp) (E:XK),Al k oT!->Vj (oT_).nox [] σ bT! q):
  Fm P w K mg base Pz T! hA fd ps (Ye P w K ps.length ll!):=by
 refine xo_;obtain⟨hl,G,ds,M,R,sub,m,r,e,kk⟩:=h;refine⟨_,(xp!).ok M G H,?_⟩;have er:=a5l (N:=N) sub r;exact⟨G,_,M,_,⟨⟨er,m,aq!⟩,.refl sub,aq!⟩,e.2,λρ' M' G' hr H' r sr=>kk _ M' _ G' H' r sr.x sr.st.mr Av.non,λd M' v G' H' r x m q=>kk d M' v G' H' r x m q⟩
section
variable{P:yJ!}{w:ys!}{A:yg!}{E:Value->Shared->Prop}{s:yM!}{d it:xY!}{es:List DictEntry}{ep i:Nat}
def Oo.at{h h':Heap}(D:Oo h d es ep)(e:∀o,h.get? d=some o->h'.get? d=some o):Oo h' d es ep:=let⟨o,ho,r⟩:=D;⟨o,e o ho,r⟩
def c1i{Q:p!}(hd:Ar!)(D:qh!)
  (h:Q bA! {s with heap:=s.heap.push {cls:=.type "dict_keyiterator",data:=.fields #[.ref d,.int 0 0,.int es.length 0,.int ep 0]}}):wpAny L_ A (pyIter (.ref d)) Q E s:=by
 have hT:=D.typeIs;obtain⟨o,ho,L,VY⟩:=id D;refine wpAny_pyIter_slot hT PySem.F.slot_dict_iter (JR PySem.F.slot_dict_iter hT PySem.F.entry_dict_iter ?_ (PySem.F.args_dict_iter_1 _));unfold Builtin.«dict.__iter__» Builtin.Dict.dictSlotNone;refine HR pO!;show wpAny L_ A.in1 (Builtin.Dict.showsAll d>>=_) _ _ s;unfold Builtin.Dict.showsAll;rw[IA (by rw[hd];exact IZ)];refine HR (HU (HR (MV ho VY (HR (MX ho VY (HR (LI (HU ⟨_,rfl,"dict_keyiterator",_,kB_,LH.lookup,?_⟩))))))));simpa[rawInt]using h
def a6s{Q:cQ!}{e:DictEntry}(al:As!)(D:qh!)(Y:es[i]?=some e)
  (h:∀h',h'.IsKeyIter it d X! es.length ep->Heap.SameBut it s.heap h'->Q (some e.key) {s with heap:=h'}):wpAny L_ A iM_ Q E s:=by
 show"!]";obtain⟨ap,ic⟩:=IU.mp Y;show"#1"
 first|refine HR (NS hT lm!)|refine HR (OY hT lm!)
 show"!U";refine HR Av_;rw[ak_];refine HU ?_;simp only[Aw_,JT,NI,MZ,Y];refine HR ?_
 first|refine HR (NS hT Ax!)|refine HR (OY hT Ax!)
 show wpAny L_ A.in1 (setField b8_ 1 qj!>>=_) _ _ s;have ja:(s.heap.update it Ay!).IsKeyIter it d X! es.length ep:=
  ⟨_,OK _ ho (Obj.isFreed_of_fields (QP hd _)),(xO_).trans L,by rw[QP hd];simp[rawInt]⟩
 refine HR (RY ho hd d! (HR (JX (HR (RN (s:={s with heap:=s.heap.update it Ay!}) ja.typeIs ?_)))));exact HU (HU ⟨_,rfl,HU (h _ ja ew_)⟩)
def b3y{Q:cQ!}(hh:cC_)(al:As!)(D:qh!)(Y:ag!<=i)
  (h:Ay_):wpAny L_ A iM_ Q E s:=by
 show"!]";show"#1"
 first|refine HR (NS hT lm!)|refine HR (OY hT lm!)
 show"!U";refine HR Av_;rw[ak_];refine HU ?_;simp only[Aw_,JT,NI,MZ,JZ Y];refine HR ?_
 first|refine HR (NS hT ab_)|refine HR (OY hT ab_)
 show wpAny L_ A.in1 (setField b8_ 0 .none>>=_) _ _ s;refine HR (RY ho hd d! ?_);refine HR ?_;simp only[newExc,newTuple];refine HR (LI (HR (m:=xP_) (wpAny_of_eq (a:=dI!) xQ! (LI ?_ hB!))) hB!);simp only[raiseNew];refine HR xR!;rw[xR_];refine HR xS!;refine HR (wpAny_isInstance (T:=o7_) (b:=true) (show Shared.TypeIs _ _ _ from kB_) isSubtype_stop ?_);exact HU (h _ xS_)
def b4n(hh:cC_)(I d:xY!)(bf:d≠I)(es:ad_)(ep:Nat):Walks P w A I [I,d] [I] es.length qj_ (λi h=>h.IsKeyIter I d i es.length ep/\Oo h d es ep) where
 sub:=λb hb=>by simp at hb;simp[hb]
 frame:=λ_ _ _ st hk=>⟨st.1.at λo e=>hk I d! o e,st.2.at λo e=>hk d d! o e⟩
 item:=λi s Q E hi st hQ=>by
  refine a6s st.1 st.2 (IM hi) λh' ja bu=>?_;exact hQ _ h' s.toks ⟨_,IM hi,rfl⟩ ⟨ja,st.2.at λo e=>(bu.2 d bf).trans e⟩ λb o hb e=>(bu.2 b gu!).trans e
 done:=λs Q E st hQ=>b3y hh st.1 st.2 x_ λh' ce=>hQ h' s.toks λb o hb e=>ce b o gu! e
 self:=λ_ _ _ _ st hQ=>wpAny_pyIter_keyiter st.1 hQ
def d0s{es ar:ad_}{bd:Nat}(D:Oo h d es ep)(D':Oo h d ar bd):es=ar/\ep=bd:=by
 obtain⟨o,h1,_,h2⟩:=D;obtain⟨o',h3,_,h4⟩:=D';rw[h1]at h3;cases h3;rw[h2]at h4;injection h4 with h5 h6
 exact⟨by simpa using congrArg Array.toList h5,h6⟩
def GS(d:xY!)(ep n:Nat):It:=⟨λi H=>∃es e x,H d=some dE_/\ag!=n/\es[i]?=some e/\Bq x e.key,λi H x H'=>H'=H/\∀es,H d=some dE_->∃e,es[i]?=some e/\Bq x e.key,λi H=>∃es,H d=some dE_/\ag!=n/\n<=i⟩
def a4q{P:yJ!}{w:ys!}{H:Hp}{es:ad_}(hok:bv!)(e:H d=some dE_):Oo h d es ep:=by obtain⟨⟨h3,_⟩,_⟩:=(show Fd P w H h d dE_ from hok d _ e);exact h3
def b7j{P:yJ!}{w:ys!}{K:yN!}{tg:Expr}{n:Nat}(d it:xY!):Td P w K tg (GS d ep n) [it] it (λi h=>h.IsKeyIter it d i n ep) where
 mem:=by simp
 obj:=λi h st b hb=>by
  have e:b=it:=by simpa using hb
  subst e;show"!~"
 keep:=λi h h' st k=>st.at λo e=>k it d! o e
 item:=by
  intro X hP hw hK L i B s Z H E I hf st hg;subst hP hw hK;obtain⟨es,e,x,hH,hl,Y,rx⟩:=hg;have D:=a4q I.hok hH;obtain⟨f0,f1,f2,f3,f4,f5⟩:=hf it d!;subst hl;refine a6s st D Y λh' hx sb=>?_;have I1:Inv X B Z H {s with heap:=h'}:=I.turned (t':=s.toks) sm! f0 f1 f3 f4 f5;obtain⟨o,eo,c,dd⟩:=id hx;exact⟨_,rfl,c1p (s:=mA_) eo c dd b_ ⟨x,H,I1,rx,⟨rfl,λar hy=>by
   obtain⟨rfl,_⟩:=d0s D (a4q I.hok hy);exact⟨e,Y,rx⟩⟩,hx,λb hb=>(gt_).1⟩⟩
 done:=by
  show"!0";obtain⟨es,hH,hl,Y⟩:=hg;show"!2";subst hl;exact b3y a4! st (a4q I.hok hH) Y λh' eb=>mC!
 self:=λ_ _ _ _ _ st h=>wpAny_pyIter_keyiter st h
end
section
variable{X:Cx}{own:List Nat}{a tg:Expr}{fa:WE}
def Pf(f:WE):WI:=λρ M T=>f ρ M λd M1=>Dz hW_ λq=>T h6_ (λM=>M q.1=some pS!) M1
def c0l(h:am_):MI X own tg a (Pf fa):=⟨by
 intro B s Z H R I ⟨G,ρ,M,T,st,e,k⟩;refine h.run I st e λd M1 v G1 H1 u s1 r1 x1 m1 q1 I1 rx=>?_;obtain⟨⟨p,kvs,ep⟩,e1,r2⟩:=cW r1;obtain⟨rfl,rfl,hM⟩:=cP q1 e1;cases rx;obtain⟨es,h1,h2,h3,h4,h5,h6⟩:=eO I1 m1 x1.sub hM;have ao:aC_=ag!:=NR h2.1;refine c1i h4 h3 ⟨z!,[z!],_,GS p ep ag!,H1,rfl,mD!,b7j p _,eY!,aS!,k _ _ M1 _ G1 H1 r2 x1 m1 λi M' G' H' s2 s3 m' ck=>?_⟩
 .have e:b=z!:=by simpa using hb
  show"!m"
 .obtain⟨_,ar,g1,g2⟩:=m'.cell p _ ck;have hlen':aC_=ar.length:=NR g2.1;refine⟨es!,λhi=>⟨ar,g1,v!,by rw[hi,IP];show ag!<=aC_;omega⟩⟩;rw[JM]at hd;obtain⟨q,hq,rfl⟩:=IG.mp hd;obtain⟨e',ce,⟨v,r1,rv⟩,_,_⟩:=gM g2.1 hq;refine⟨⟨ar,e',v,g1,v!,ce,rv⟩,hr!⟩;obtain⟨z1,z2⟩:=hy;subst z1;obtain⟨e2,ml,rx⟩:=z2 ar g1;rw[ce]at ml;cases ml;rw[rx.inj rv];exact⟨G',Ce.refl s3,r1⟩⟩
end
section
variable{X:Cx}{B:List (Addr×Obj)}{Z:St}{H:Hp}{s:yM!}
def iM{h2:Heap}{t':Nat}{wr:av!}(I:d_)(hf:∀b∈wr,Ga X B H b)(kp:∀c o,c∉wr->s.heap.get? c=some o->h2.get? c=some o):Inv X B Z H {s with heap:=h2,toks:=t'}:=by
 refine I.step (g':=s.gens) (d':=s.drawn) (t':=t') (ch:=wr) hF! pb! pb_ iv! pc! iv_ iw! pc_ iw_ hF_ I.bare
 .obtain⟨f0,f1,f2,f3,f4,f5⟩:=hf c L;exact⟨f3,f1,f4,f5⟩
 .obtain⟨o,es,ep,ho,r⟩:=hm;exact⟨o,es,ep,kp _ o (λz=>(hf _ z).2.1 rfl) ho,r⟩
 .refine(pe!).stay pe_ pf! λ_ _ e'=>e';have hn:=(hf d hm).1;obtain rfl|hd:=hd
  .rw[hn]at e;cases e
  .rw[hn]at hd;cases hd
def c8b{s0:yM!}{xs:m_}{us:j!}(I:Inv X B Z H s0)(I1:d_)(hT:AC_<=T)(eT:s.heap.IsTuple T cH!)(rv:in!)(hz:i!<=sizeLine):Inv X B Z (upd H T be_) s:=by
 have tf:H T=none:=I.hok.fresh hT;have ne:∀c o,H c=some o->c≠T:=λc o e=>cL e tf;refine Inv.step (g':=s.gens) (d':=s.drawn) (t':=s.toks) (h':=s.heap) (ch:=[T]) I1 hF! yi! yi_ yj! yj_
  (yk!) yk_ yl! nZ! hF_ I1.bare
 .have e:c=T:=by simpa using L
  subst e;obtain⟨_,g1,_,g3,g4,g5⟩:=I.fpOk hT tf;exact⟨g3,g1,g4,g5⟩
 .rw[nZ_];exact n
 .by_cases hb:c=T
  .show"!w";exact⟨hz,us,rv,eT⟩
  .rw[aW hb]at e;exact(ym!).stay n0! ym_ λd xs q=>by rw[pg_];exact q
end
def GR(x:Str):It:=⟨xC_,λi H v H'=>∃T c,v=.ref T/\H T=none/\x.cps[i]?=some c/\H'=upd H T (.tup [b6!,gV!]),xD!⟩
def a9b{K:yN!}{jr:bL_}{n1:Nat}{tp:Pos}{x:Str}{St':dS_}(qc:h7!)(hd:xE_)
  (D:∀A':Around,o1_=none->Draws P w A' it [it] x.cps.size AD! St'):
  Td P w K fE! (GR x) bK! e (λi h=>i<=fz_/\AD_/\St' i h) where
 mem:=by simp
 obj:=λi h st b hb=>by
  simp only[HY,JK,LC]at hb;obtain⟨_,⟨ac,s1⟩,s2⟩:=st;obtain rfl|rfl:=hb
  .exact⟨_,s1,g9!⟩
  .exact hd i h s2
 keep:=λi h h' st k=>by
  have W:=WalksT.enumerateD (A:=callerA) (D callerA.in1 rfl) e qc ql! d!;exact⟨st.1,W.frame i h h' st.2 λb hb o q=>k b gu! o q⟩
 item:=by
  intro X hP hw hK L i B s Z H E I hf st hg;subst hP hw hK;have hh:=I.ok.hd L;have W:=WalksT.enumerateD (A:=X.A) AE_ e qc ql! d!;refine W.item i s _ _ hg st.2 λT yf h' tk hP hT Z2 hm kp=>⟨_,rfl,W.go jr n1 tp i T _ _ _ hm λh2 bg VZ=>?_⟩;obtain⟨t,y,⟨c,u,gk,rfl⟩,rfl⟩:=hP;have Z3:∀b∈bK!,Ga X B H b:=hf;have I1:Inv X B Z H {s with heap:=h2,toks:=tk}:=iM I Z3 λc o L eo=>VZ c o L (kp c o L eo);have V':T∉bK!:=W.apart i T _ hm;have eT:h2.IsTuple T #[.int i t,.str ap_ u]:=by
   obtain⟨o,eo,r⟩:=Z2;exact⟨o,VZ T o V' eo,r⟩
  have I2:=c8b (us:=[.int i t,.str ap_ u]) (xs:=[b6!,gV!]) I I1 hT eT (.cons nU_ (.cons ⟨u,rfl⟩ .nil)) (by show 2<=sizeLine;rw[KJ];decide);refine⟨.ref T,_,I2,rfl,⟨T,c,rfl,I.hok.fresh hT,gk,rfl⟩,⟨hg,bg⟩,aS!⟩;rw[aW (λz:b=T=>V' (by rw[<-z];exact hb))];exact(gt_).1
 done:=by
  show"!0";have hh:=I.ok.hd L;have W:=WalksT.enumerateD (A:=X.A) AE_ e qc ql! d!;show"#E";exact W.done s _ _ st.2 λh' tk kp=>⟨rfl,iM I hf kp⟩
 self:=λA i s Q E st h=>by
  obtain⟨_,⟨ac,s1⟩,_⟩:=st;exact wpAny_pyIter_enum s1 h
section
variable{X:Cx}{own:List Nat}{a:Expr}{jr:List Expr}{n1:Nat}{tp p pos:Pos}{fa:Ae->Option D}
def Sy(f:e!):Ae->Option aL_:=λρ=>(al!).bind λd=>match d with|.str x=>some (x.cps.toList.zipIdx.map λq=>.tup AF_)|_=>none
def c2k(hg:AG_)(hm:AH_)(h:Y_)(hs:AH!:=by rfl)(ax:AI_:=by rfl):
  DI X own fE! (.Call (.Name "enumerate" p) [a] [] pos) (Sy fa):=⟨by
 intro B s Z H R I ⟨G,ρ,ds,er,e,k⟩;obtain⟨d,e1,e2⟩:=HS.mp e;cases d<;>first|(cases e2;done)|skip
 rename_i x;cases e2;refine Call_ (jQ I hg hm boot_enumerate (KP (dH (dS h.ok fZ hs pos B s Z H (λvs H1=>∃v G1,vs=[v]/\Ce G H G1 H1/\Av X.K G1 dP! v) I ⟨G,ρ,_,er,e1,λv G1 H1 x1 r1=>⟨v,G1,rfl,x1,r1⟩⟩) λus s1 ⟨vs,H1,I1,r1,v,G1,q1,x1,rr⟩=>?_) hs ax));subst q1;cases cJ rr;obtain⟨u,rfl,t,rfl⟩:=tH r1;refine call_enumerate_str λh' he al hsz hk=>?_;refine wpAny_pyIter_enum he ?_;have I2:Inv X B Z H1 {s1 with heap:=h',toks:=s1.toks}:=I1.kept (t':=s1.toks) hk;have ju:∀b∈[z!+1,z!],z!<=b:=λb hb=>by
  simp only[HY,JK,LC]at hb;obtain rfl|rfl:=hb<;>omega
 have fin:∀{St':dS_},St' 0 h'->(∀i h,St' i h->∃o,h.get? z!=some o/\∀v,o.data≠.cell v)->(∀A':Around,o1_=none->Draws X.prog X.w A' s1.heap.objs.size [z!] x.cps.size AD! St')->
   DX X B Z fE! R (.ref (z!+1)) {s1 with heap:=h'}:=λ{St'} h0 hd D=>by
  refine⟨_,_,_,GR x,H1,rfl,I2,a9b AJ! hd D,⟨KC _,⟨_,he⟩,h0⟩,λb hb=>I1.fpOk qn! AJ_,k _ G1 H1 x1 ?_⟩;intro i G' H' g1 g2;refine⟨es!,λhi=>by rw[IP,RQ,KH]at hi;exact PU hi.symm⟩;rw[JM,List.getElem?_zipIdx]at hd;obtain⟨q,hq,rfl⟩:=IG.mp hd;obtain⟨c,L,rfl⟩:=IG.mp hq;rw[NZ]at L;refine xE!;obtain⟨T,c',rfl,hT,bq,rfl⟩:=hy;rw[L]at bq;cases bq;refine⟨_,Ce.laid g2 hT,fS (g2.free hT) (Am.cons ?_ (Am.cons Av.str Am.nil))⟩;rw[QW];exact Av.int
 cases ha:x.cps.all (·<128)
 .have ja:h'.IsStrIter s1.heap.objs.size "str_iterator" x t 0:=by simpa[strIterType,ha]using al
  exact fin (St':=λi h=>h.IsStrIter s1.heap.objs.size "str_iterator" x t i) ja AL_ λA' hh=>Draws.strWide hh _ x t
 .have ja:h'.IsStrIter s1.heap.objs.size "str_ascii_iterator" x t 0:=by simpa[strIterType,ha]using al
  exact fin (St':=λi h=>h.IsStrIter s1.heap.objs.size "str_ascii_iterator" x t i) ja AL_ λA' hh=>Draws.strAscii hh _ x t⟩
def So(a:Int)(n:Nat):List D:=(oH_).map λi=>.int (a+(i:Nat))
def Sx(f g:e!):Ae->Option aL_:=λρ=>(al!).bind λx=>(g ρ).bind λy=>match x,y with|.int i,.int j=>if -1000<=i/\i<=100000/\-1000<=j/\j<=100000 then some (So i (j - i).toNat)else none|_,_=>none
end
end DL
namespace HT
open PySem PySem.Spec PyProof.Rows
def b8g(A:yg!)(s:yM!)(a:Int)(t:Tok)(c:Int)(u:Tok)(prog:yJ!)(w:ys!)(E:p!)(Q:p!)(h:Q (.bool (decide (c<a))) s):
  wpAny q_ A (richCompare .Gt gP_ nr!) Q E s:=
 (PyProof.Rows.gt_int h:wpAny q_ A (compareOp .Gt gP_ nr!) Q E s)
section
open PySem.SeqAt
open PySem.AutoSeq1 (wpAny_loadPart')
open PySem.MeetsSeq PySem.MeetsSeq2 PySem.MeetsSeq3
def yE(l b:xY!)(items jy:O!)(n n2:Nat)(dd lj:a7!)(sl jj:cc_)(ns ms:w!)(hi:AM_)(hj:AN!):
  Meets (Builtin.«tuple.__gt__» ⟨[.ref l,.ref b],[]⟩)
   (λ_ R s=>s.heap.get? l=some {cls:=.type "tuple",dict:=dd,data:=.seq items n,slots:=sl}/\s.heap.get? b=some {cls:=.type "tuple",dict:=lj,data:=.seq jy n2,slots:=jj}/\
    R (.ok (.ret qo_)) s):=
 .of_wp λprog w A R s h=>by
  obtain⟨hp,g,d,tk,os⟩:=s;obtain⟨hl,hb,h⟩:=h;have f2:=AutoSeq1.sub_tuple_tuple;have z1:de_=db_:=by rw[<-hi.length];simp
  have z2:jy.size=eH!:=by rw[<-hj.length];simp
  wp_walk using RL hl,RL hb,RD _ (λrest b s'=>b.1=none/\s'=fD_/\∃(vs ws:j!) (qe qf:w!),rest=vs.zip ws/\
   IntsAre vs qe/\IntsAre ws qf/\qe.length+jy.size=qf.length+de_/\R (.ok (.ret (.bool (lexLt qf qe)))) fD_) _
  case turn=>
   rintro⟨y,x⟩ rest b s' ⟨dm,rfl,vs,ws,qe,qf,hz,zh,wf,ao,hR⟩;cases zh with
   |nil=>rw[List.zip_nil_left]at hz;cases hz
   |cons a t Z4=>
    cases wf with
    |nil=>rw[List.zip_nil_right]at hz;cases hz
    |cons c u Z5=>
     rw[PV]at hz;injection hz with Z6 Z7
     injection Z6 with hy Y
     subst hy Y;rw[lexLt_cons]at hR;simp only[IQ]at ao;obtain⟨e,he,WB⟩:=c1x A.in1 fD_ a t c u;refine HR (he prog w _ _ ?_);cases e with
     |true=>
      rw[IL (WB.mp rfl).symm]at hR
      wp_walk
      exact⟨rfl,rfl,_,_,_,_,Z7,Z4,Z5,v!,hR⟩
     |false=>
      rw[IA (λq=>absurd (WB.mpr q.symm) IZ)]at hR;have Z8:=b8g A.in1 fD_ a t c u prog w
      wp_walk using Z8
      exact⟨_,rfl,by simpa using hR⟩
  case fin=>
   rintro⟨b1,b2⟩ s' ⟨dm,rfl,vs,ws,qe,qf,hz,zh,wf,ao,hR⟩;simp only at dm;subst dm;have hv:lexLt qf qe=decide (jy.size<de_):=by
    cases zh with
    |nil=>
     cases wf with
     |nil=>
      simp only[MO]at ao;rw[lexLt_nil_nil];exact(IN a!).symm
     |cons c u hw=>
      simp only[MO,IQ]at ao;rw[wW];exact(IN a!).symm
    |cons a t hv=>
     cases wf with
     |nil=>
      simp only[MO,IQ]at ao;rw[wV];exact(JC a!).symm
     |cons c u hw=>
      rw[PV]at hz;cases hz
   rw[hv]at hR
   wp_walk
   exact⟨_,rfl,by simpa[Builtin.Tuple.tupleCompareSizes]using hR⟩
  case h=>
   exact⟨rfl,rfl,items.toList,jy.toList,ns,ms,rfl,hi,hj,v!,h⟩
end
section
variable{prog:yJ!}{w:ys!}{A:yg!}{E:Value->Shared->Prop}{s:yM!}
def gt_tupInts{b:xY!}{items jy:O!}{ns ms:w!}{Q:p!}(hl:IsTup s.heap l items)(hb:IsTup s.heap b jy)(hi:AM_)(hj:AN!)
  (hu:ar!)(h:Q qo_ s):wpAny q_ A (compareOp .Gt jA_ d7!) Q E s:=by
 obtain⟨⟨cls,dd,data,sl⟩,ho,L,n,hd⟩:=id hl;obtain⟨⟨UP,lj,data2,jj⟩,il,jk,n2,jl⟩:=id hb;simp only at L hd jk jl;subst L hd jk jl;exact richCompare_meets_room (op:=.Gt) jn! jn_ PySem.F.slot_tuple_gt PySem.F.entry_tuple_gt (PySem.F.args_tuple_gt_2 _ _) (yE l b items jy n n2 dd lj sl jj ns ms hi hj)
  ⟨ho,il,show Value.bool (lexLt ms ns)≠Value.notImplemented/\Q qo_ s from⟨(λx=>nomatch x),h⟩⟩ hu
end
end HT
namespace DL
open PySem PySem.Spec PyProof.Rows L2
section
variable{X:Cx}{own bj:List Nat}{a b e tg o:Expr}{es:List Expr}{p pos:Pos}{fa fb f:Ae->Option D}
def CF(K:yN!):R2:=λx y H Q=>∃a b ns ms,x=.ref a/\y=.ref b/\Fz K H a ce!/\Fz K H b (ms.map V.int)/\Q (.bl qp!) H
def c8w(hu:X.A.units<cLine):Gr X sG_ (CF X.K):=by intro B s Z H x y v u Q I rx ry h;obtain⟨a,b,ns,ms,rfl,rfl,ha,hb,q⟩:=h;cases rx;cases ry;obtain⟨its,r1,p1,_⟩:=I.tuple ha;obtain⟨gr,r2,p2,_⟩:=I.tuple hb;have i1:IntsAre its.toArray.toList ns:=xL r1;have i2:IntsAre gr.toArray.toList ms:=xL r2;exact HT.gt_tupInts p1 p2 i1 i2 hu ⟨.bl qp!,H,I,rfl,q⟩
def Sh:List D->Option (List Int)
 |[]=>some []
 |.int i::r=>(Sh r).map (i::·)
 |_=>none
def rT{K:yN!}{G:Hp}:∀{ds:c_} {vs:m_} {ns:w!},Am K G ds vs->Sh ds=some ns->vs=ns.map V.int
 |[],vs,ns,r,e=>by cases cX r;cases e;rfl
 |d::ds,vs,ns,r,e=>by
  obtain⟨v,t,rfl,r1,r2⟩:=bR r;cases d<;>simp only[Sh]at e<;>first|(cases e;done)|skip
  obtain⟨l,e1,rfl⟩:=IG.mp e;rw[rT r2 e1];cases aY r1;rfl
def BH:D->D->Option D
 |.tup xs,.tup ys=>(Sh xs).bind λns=>(Sh ys).map λms=>.bl qp!
 |_,_=>none
def c9d{K:yN!}:Ia K (CF K) BH:=by
 show"!/";unfold BH at e;show"!6"
 .obtain⟨ns,e1,e⟩:=HS.mp e;obtain⟨ms,e2,rfl⟩:=IG.mp e;show"!R";obtain⟨b,ws,rfl,qb,rb⟩:=bQ ry;rw[rT ra e1]at qa;rw[rT rb e2]at qb;exact⟨a,b,ns,ms,rfl,rfl,kd!,os!,er_⟩
 .cases e
def AJ(neg:Bool):R2:=λx y H Q=>∃b c,x=.bl b/\y=.bl c/\Q AP! H
def c8t:Gr X sI! (AJ false):=by
 intro B s Z H x y v u Q I rx ry h;obtain⟨b,c,rfl,rfl,q⟩:=h;cases rx;cases ry;refine wpAny_is_plain rfl ?_;have e:AP_=(b==c):=by cases b<;>cases c<;>rfl
 rw[e];exact kv_
def b5o:Gr X sJ_ (AJ true):=by
 intro B s Z H x y v u Q I rx ry h;obtain⟨b,c,rfl,rfl,q⟩:=h;cases rx;cases ry;refine wpAny_isNot_plain rfl ?_;have e:AP_=(b==c):=by cases b<;>cases c<;>rfl
 rw[e];exact kv_
def BG(neg:Bool):D->D->Option D
 |.bl b,.bl c=>some AP!
 |_,_=>none
def b9y{K:yN!}{neg:Bool}:Ia K (AJ neg) (BG neg):=by
 show"!/";unfold BG at e;show"!6"
 .cases e;cases cV rx;cases cV ry;exact ph!
 .cases e
def b6t(hg:iP_)(hm:iQ!)(ha:Y_)(hb:cM_)(hs:sp_:=by rfl)(bi:sq!:=by rfl)
  (de:starEach (a::[b]) X.env=dW!::starEach [b] X.env:=by rfl)(jq:starEach (b::[]) X.env=iR_::starEach [] X.env:=by rfl):DI X own tg sq_ (Sx fa fb):=
 a8e (b5j hg hm (dS ha.ok (dS hb.ok fZ jq) de) hs bi) λZ G H R ρ ds er e k=>by
  obtain⟨x,e1,e3⟩:=HS.mp e;obtain⟨y,e2,e4⟩:=HS.mp e3;clear e e3;split at e4
  .rename_i i j;split at e4
   .rename_i h;cases e4;refine yq!;cases aY r1;cases aY r2;refine⟨i,j,rfl,v!,k _ G2 H2 dp! ?_⟩;intro n G' H' g1 g2;unfold So;refine w2!;rw[JM]at hd;obtain⟨m,hj,rfl⟩:=IG.mp hd;obtain⟨hl,he⟩:=IU.mp hj;rw[PX]at he;subst he;rw[NG]at hl;refine⟨hl,hr!⟩;obtain⟨z1,z2⟩:=hy;subst z1 z2;exact⟨G',Ce.refl g2,Av.int⟩
   .cases e4
  .cases e4
def Yp:V->List V->Hp->VK->Prop:=λx vs H Q=>∃l xs k y,x=.ref l/\vs=[qp_,y]/\H l=some L!/\k<=i!/\i!<sizeLine/\Q .non (upd H l (.lst (xs.take k++y::xs.drop k)))
def b6c:FN X "list.insert" Yp:=by
 intro B s Z H x vs v us Q I rx rv h;obtain⟨l,xs,k,y,rfl,rfl,hH,hk,hz,q⟩:=h;cases rx;obtain⟨u,u2,rfl,⟨t,rfl⟩,ru⟩:=a5g rv;obtain⟨z,its,n,r,hl,e⟩:=I.lstM hH;have yd:¬(!Builtin.List.listFitsIndex (k:Int))=true:=by
  rw[fitsIndex_both (Int.le_trans b_ (Int.natCast_nonneg k)) (Int.lt_of_le_of_lt (Int.ofNat_le.mpr (JL hk (NT hz))) wG!)];exact IZ
 have hsz:bQ!<=sizeLine:=by rw[IF];omega
 refine RT (S:=?S) PySem.F.slot_list_insert ea_ PySem.F.entry_list_insert (PySem.F.args_list_insert_3 _ _ _) ?g ?h
 case g=>exact @PySem.AutoSeq1.list_insert_list_int_val_1 l its.toArray n (k:Int) t u2 yd hsz
 refine g0_;refine⟨.non,_,I.lset (its':=its.take k++u2::its.drop k) hH e ?_ ((r.take k).append (.cons ru (r.drop k))) ?_,rfl,q⟩
 .have h1:¬aQ!<0:=by omega
  have h2:min (aQ!).toNat bQ!=k:=by simp;omega
  simp only[h1,JT,h2];simp[List.extract_eq_drop_take];rw[LM d!]
 .simp only[IT,IQ,LJ,SD];omega
def Xf(i:Nat)(fk f:e!):Ae->Option Fl:=λρ=>(fk ρ).bind λx=>(al!).bind λd=>match x,ρ[i]? with
 |.int j,some (some (.lst ds))=>if 0<=j/\j.toNat<=f_/\f_<big then some (.nx (ρ.set i (some (.lst (ds.take j.toNat++d::ds.drop j.toNat)))))else none
 |_,_=>none
def b6s{i:Nat}{x:Str}{aj ag:Pos}{fk:e!}(bp:ej!:=by decide)(hk:DE X own ek fk)(h:do!)(hN:an!:=by rfl)(hv:c2_:=by first|exact Or.inl rfl|exact Or.inr b!|exact Or.inr aM!)
  (hd:F!:=by decide)(bx:c3!:=by decide)
  (bz:starEach (ek::[e]) X.env=(false,eval ek X.env)::starEach [e] X.env:=by rfl)(Z9:kn_:=by rfl)(gw:((backTo ag (starEach [ek,e] X.env)).all cF_&&(cF!).all cG!
   &&decide ([ek,e].length+(d9!).length+ff_<30))=true:=by rfl) (g7:ea!:=by rfl)
  (gu:attributeBase bp_ "insert" X.env ko!=eval bp_ X.env:=by rfl) (g8:(jD!).any c!=false:=by rfl) (kg:swapsWith AR! none pos.line X.env=pure false:=by rfl):
  DS X own own (.Expr AR! pos) (Xf i fk f):=⟨λG0 F0 B s Z H E I ⟨G,ρ,r,er,e',k⟩=>by
  refine uR (zS OU PySem.F.slot_list_insert PySem.F.type_list_insert b6c j3_ (dS hk.ok (dS h.ok fZ Z9) bz) gu gw g7 bz g8) kg B s Z H E I ?_;obtain⟨z,e1,e4⟩:=HS.mp e';obtain⟨d,e3,e2⟩:=HS.mp e4;clear e' e4;obtain⟨p,ds,vs,h1,h2,h3,h4,h5⟩:=er.or.own_ i bp;rw[h1]at e2;cases z<;>first|(cases e2;done)|skip
  rename_i j;simp only at e2;split at e2
  .rename_i hj;cases e2;refine⟨fx_,h2,oQ!,G,ρ,_,er.or,e1,λv G' H' x r=>⟨G',ρ,d,er.or.grow x,e3,λv2 G2 H2 x2 r2=>?_⟩⟩;cases aY r;have hl:=aI h5;refine⟨p,vs,j.toNat,v2,rfl,?_,xk_,v!,by rw[<-hl];exact JD hj.2.2 (cS x_),?_⟩
   .rw[Int.toNat_of_nonneg hj.1]
   .have h6:=(oR!).mono x2.g;exact k G2 Z _ (((hs!).grow x2).upd bp h2 (cY (rV _ h6) (Am.cons r2 (rW _ h6))))
  .cases e2⟩
end
end DL
namespace DL
open PySem PySem.Spec PyProof.Rows L2
section
variable{X:Cx}{own bj:List Nat}{a b e tg o:Expr}{es:List Expr}{p p2 pos:Pos}{fa fb fo f:WE}{fs:WA}
def Yl(i:Nat)(f:WE):WS:=λρ M R=>f ρ M λd M1=>Dz (Oi M1 d) λq=>match ρ[i]? with
 |some (some (.lst ds))=>f_+pS_<=big/\R (.nx (ρ.set i (some (.lst (ds++q.2))))) M1
 |_=>False
def b6e{i:Nat}{x:Str}{aj ag:Pos}(bp:ej!:=by decide)(h:b1!)(hN:an!:=by rfl)(hv:c2_:=by first|exact Or.inl rfl|exact Or.inr b!|exact Or.inr aM!)
  (hd:F!:=by decide)(bx:c3!:=by decide)
  (bz:kn_:=by rfl)(gw:((jD!).all cF_&&(cF!).all cG!
   &&decide xf_)=true:=by rfl) (g7:ea!:=by rfl)
  (gu:attributeBase bp_ "extend" X.env ko!=eval bp_ X.env:=by rfl) (g8:hv!:=by rfl) (kg:swapsWith AR_ none pos.line X.env=pure false:=by rfl):
  MS X own own (.Expr AR_ pos) (Yl i f):=
 pY (uR (zS OU PySem.F.slot_list_extend PySem.F.type_list_extend b6d j3_ xh_ gu gw g7 bz g8) kg) λM0 G0 F0 E Z G H ρ M R sr e' k1 k2=>by
  obtain⟨p,ds,vs,h1,h2,h3,h4,h5⟩:=sr.st.or.own_ i bp;refine⟨fx_,h2,oQ!,G,ρ,M,_,sr.st,e',Ae!⟩;obtain⟨⟨c,zs⟩,e1,r⟩:=cW r;obtain⟨z1,z2,z3,us,h6,h7⟩:=yA m q e1;cases z2;rw[h1]at r;have ez:=sr.grow x m;obtain⟨p',sw,gd,g1,g2,g3,g4,g5⟩:=ez.st.or.own_ i bp;rw[h2]at g2;cases g2;rw[h1]at g1;cases g1;refine⟨p,c,gd,us,rfl,rfl,g3,h6,?_,k1 _ M' G' Z _ r.2 (ez.after (ez.sr.upd bp h2 (cY g5 h7)))⟩;have:=r.1;rw[<-aI g5,<-aI h7];exact cS this
def Qf(s0:Str)(fa:WE):WE:=λρ M R=>fa ρ M λy M2=>Dz (Nc (.str s0) y) λd=>R d M2
def b3p{s0:Str}{n0:Nat}{aj ag:Pos}(ha:am_)
  (gu:attributeBase lq! "join" X.env (eval lq! X.env)=eval lq! X.env:=by rfl)
  (gw:((o3!).all cF_&&(cF!).all cG!
   &&decide o3_)=true:=by rfl)
  (g7:ea!:=by rfl) (hs:kk_:=by rfl) (g8:hv!:=by rfl):
  ME X own (.Call (.Attribute lq! "join" aj) [a] [] ag) (Qf s0 fa):=
 eL (zS PySem.F.plainAttrs_str PySem.F.slot_str_join PySem.F.type_str_join b3m b9f xJ_ gu gw g7 hs g8) λZ G H Q ρ M R st e k=>⟨rfl,G,ρ,M,_,st,e,λy M2 w G2 H2 r2 x2 m2 q2=>by
  obtain⟨d,e3,r3⟩:=cW r2;cases y<;>first|(cases e3;done)|skip
  rename_i xs;obtain⟨ys,e4,e5⟩:=HS.mp (show((Qg xs).bind λys=>if(kA!).sum+ac!*s0.length<=big then some (.str (Txt.join s0 ys))else none)=some d from e3);split at e5
  .rename_i hl;cases e5;obtain⟨p,vs,rfl,q,rr⟩:=bP q2;have:=vZ rr e4;subst this;exact⟨_,p,ys,rfl,rfl,x2.sub.seq q,JL hl b_,k _ M2 _ G2 H2 r3 x2 m2 Av.str⟩
  .cases e5⟩
def Xa(fs:WA)(fb:WE):WE:=λρ M R=>fs ρ M λds M1=>f_<=1000/\fb ρ M1 λy M2=>match y with
 |.int k=>AT!/\∀p,M2 p=none->R A_ (Az M2 p AT_)
 |_=>False
def a8a{G H:Hp}{p:xY!}{o:HO}(s:I_)(hp:cJ!):Ce G H G fo!:=⟨fo_,iY hp,s.trans (iY hp),dt!⟩
def wB{K:yN!}{G:Hp}(r:km_):∀k:Nat,Am K G (List.replicate k ds).flatten (List.replicate k vs).flatten
 |0=>Am.nil
 |k+1=>by
  rw[MM,MM,OC,OC];exact cY r (wB r k)
def c5a(ha:fO!)(hb:cp_):ME X own AU! (Xa fs fb):=
 eL AV! λZ G H Q ρ M R st e k=>⟨G,ρ,M,_,st,e,λds M1 vs G1 H1 r1 x1 m1 q1=>⟨by rw[<-aI q1];exact eZ r1.1,λp hp=>by
  have xj:Ce G1 H1 G1 AV_:=a8a x1.sub hp;have hM:M1 p=none:=m1.nocell hp;refine AW!;cases y<;>first|exact r2.elim|skip
  rename_i n;cases aY q2;obtain⟨⟨hn,jh,hl⟩,r2⟩:=r2;have zi:H2 p=some cJ_:=x2.keep p _ bW hM;refine AW_;have zj:=(AX!).trans x2 qr!;exact k _ _ _ G2 _ (r2 c (m2.nocell L)) (zj.trans (.laid x2.sub L) m2) (m2.laid L x2.sub ⟨_,bW,wB b1_ _⟩) Av.fn⟩⟩
end
nonrec def rk(r:f0!)(xs:cs!)(i:Nat):Int:=(xs[i]?.map r).getD 0
def b8d{r:f0!}{xs:cs!}{c d:Nat}(hs:c<xs.size)(hd:d<=c)(k:Nat):rk r (bubble xs c d) k=if k=c - d then rk r xs c else if c - d<k/\k<=c then rk r xs (k - 1)else rk r xs k:=by
 unfold rk;rw[getElem?_bubble hs d hd k];split
 .rfl
 .split<;>rfl
def a9q{r:f0!}{xs:cs!}{i j:Nat}(hj:j<=xs.size)(k:Nat):rk r AX_ k=if i<=k/\k<j then rk r xs (i+j - 1 - k)else rk r xs k:=by unfold rk;rw[getElem?_mirror_all hj k];split<;>rfl
def pN{r:f0!}{xs:cs!}{i j:Nat}(hj:j<=xs.size)(he:∀k,i<=k->k<j->rk r xs k=rk r xs eI!)(k:Nat):rk r AX_ k=rk r xs k:=by
 rw[a9q hj];by_cases h:i<=k/\k<j
 .rw[IL h,he _ a! a!,he k h.1 h.2]
 .rw[IA h]
def Up(r:f0!)(xs:cs!)(n:Nat):Prop:=∀i j,i<=j->j<n->rk r xs i<=rk r xs j
def Dn(r:f0!)(xs:cs!)(n:Nat):Prop:=∀i j,i<=j->j<n->rk r xs j<=rk r xs i
structure SB(kd:SortKind)(a0:cs!)(st:SortSt):Prop where
 pm:(B!).Perm a0
 kn:kindOf st=kd
 fl:failedOf st=none
 pd:pendingOf st=#[]
def SB.sz{kd:SortKind}{a0:cs!}{st:SortSt}(h:cs_):(B!).size=a0.size:=h.pm.size_eq
def SB.put{kd:SortKind}{a0 xs:cs!}{st:SortSt}(h:cs_)(hp:xs.Perm B!):SB kd a0 (setArr st xs):=⟨hp.trans h.pm,h.kn,h.fl,h.pd⟩
section
variable{prog:yJ!}{w:ys!}{A:yg!}{E:Value->Shared->Prop}{s:yM!}{a0:Array Keyed}{kd:SortKind}{r:Keyed->Int}
variable (prog w A s a0 kd r)in
def Uo:Prop:=∀(x y:Keyed) (F:p!) (Q:ex!),x∈h8_->y∈h8_->Q (decide (r x<r y)) s->wpAny q_ A (keyLt' kd x.1 y.1) Q F s
def b8a{st:SortSt}{i j:Nat}{Q:Option Bool->SortSt->Prop}(hl:dG!)(b:cs_)(hi:i<a0.size)(hj:j<a0.size)(h:Q (some (decide (rk r B! i<rk r B! j))) st):wpS q_ A E s (ltAt' i j) Q st:=by
 have at_:∀k,k<a0.size->∃p,B![k]?=some p/\p∈h8_/\rk r B! k=r p:=λk hk=>by
  have cr:k<(B!).size:=by rw[b.sz];exact hk
  refine⟨B![k],AZ!,(Array.perm_iff_toList_perm.mp b.pm).mem_iff.mp d!,?_⟩;unfold rk;rw[AZ!];rfl
 obtain⟨x,ex,mx,rx⟩:=at_ i hi;obtain⟨y,ey,my,ry⟩:=at_ j hj;rw[rx,ry]at h;rw[ltAt'_eq];refine KR f0_;show wpS q_ A E s (elem' B! i>>=λx=>elem' B! j>>=λy=>lt' x y) Q st;rw[elem'_eq,elem'_eq,ex,ey];refine KR (MU (KR (MU ?_)));rw[lt'_eq];refine KR f0_;rw[b.kn];exact KR (wpS_lift (OM (hl x y _ _ mx my ⟨rfl,MU h⟩)))
def c7a{st:SortSt}{a n:Nat}{Q:AscSt->SortSt->Prop}(hl:dG!)(hn:f1!)(ha:1<=a)(Z':a<=n)(b:cs_)(hu:Up r B! a)
  (h:∀m,a<=m->m<=n->Up r B! m->(m=n\/rk r B! m<rk r B! h9!)->Q (none,m) st):wpS q_ A E s (ascLoop a n) Q st:=by
 unfold ascLoop;refine RG (I:=λx c hx=>hx=st/\c=(none,x)/\Up r B! x) ?_ ?_ ⟨rfl,rfl,hu⟩
 .rintro x c hx h1 h2 ⟨rfl,rfl,u⟩;refine KR (b8a hl b (JD h2 hn) a! ?_);by_cases q:rk r y_ x<rk r y_ h9_
  .rw[JC q];exact MU (h x h1 (NT h2) u (.inr q))
  .rw[IN q];refine MU ⟨rfl,rfl,A0_⟩;obtain h5|h5:=MH j x
   .exact u i j h3 h5
   .have:j=x:=by omega
    subst this;obtain h6|h6:=MH i j
    .have:=u i eI! a! a!;omega
    .have:i=j:=by omega
     rw[this];exact NC _
 .rintro c hx ⟨rfl,rfl,u⟩;rw[show max a n=n by omega]at u ⊢;exact h n Z' x_ u ai_
def b7x{st:SortSt}{m n:Nat}{Q:qs_}(hl:dG!)(hn:f1!)(h1:1<=m)(hm:m<=n)(b:cs_)(hd:Dn r B! m)
  (h:qt!):wpS q_ A E s (tail3 m n) Q st:=by
 unfold tail3;have b':SB kd a0 (setArr st (mirror B! 0 m ((m - 0) / 2))):=b.put lr!;have hz:m<=(B!).size:=by rw[b.sz];omega
 refine KR (wpS_reverse (KR (c7a hl hn h1 hm b' (λi j h3 h4=>?_) λk h3 h4 u _=>MU (h k _ b' a! h4 u))));rw[a9q hz,a9q hz,a1!,a1!];exact hd _ _ a! a!
def c8d{st:SortSt}{m n:Nat}{Q:DescSt->SortSt->Prop}(hl:dG!)(hn:f1!)(h1:1<=m)(hm:m<=n)(b:cs_)(hd:Dn r B! m)
  (h:∀k q hx,SB kd a0 hx->m<=k->k<=n->Dn r y_ k->q+1<=k->(∀i,k - (q+1)<=i->i<k->rk r y_ i=rk r y_ (k - 1))->Q (none,k,q) hx):wpS q_ A E s (descLoop m n) Q st:=by
 unfold descLoop;refine RG (I:=λx c hx=>∃q,c=(none,x,q)/\SB kd a0 hx/\Dn r y_ x/\q+1<=x/\∀i,x - (q+1)<=i->i<x->rk r y_ i=rk r y_ h9_) ?_ ?_ ⟨0,rfl,b,hd,v!,λi h2 h3=>by rw[show i=m - 1 by omega]⟩
 .rintro x c hx h2 h3 ⟨q,rfl,b',d,hq,he⟩;have hz:x<=(y_).size:=by rw[b'.sz];omega
  refine KR (b8a hl b' (JD h3 hn) A2! ?_);by_cases p:rk r y_ x<rk r y_ h9_
  .rw[JC p];have ph:∀xs:Array Keyed,(∀k,rk r xs k=rk r y_ k)->Dn r xs (x+1):=λxs hk i j h4 h5=>by
    rw[hk,hk];obtain h6|h6:=MH j x
    .exact d i j h4 h6
    .have:j=x:=by omega
     subst this;obtain h7|h7:=MH i j
     .have:=d i eI! a! a!;omega
     .show"#;"
   by_cases t9:q>0
   .simp only[KG,t9];exact KR (wpS_reverse (MU ⟨0,rfl,b'.put lr!,ph _ (pN hz he),v!,A2_⟩))
   .simp only[KG,t9,JT];exact MU ⟨0,rfl,b',ph _ λ_=>rfl,v!,A2_⟩
  .rw[IN p];show"#$";refine KR (b8a hl b' A2! (JD h3 hn) ?_);by_cases p2:rk r y_ h9_<rk r y_ x
   .rw[JC p2];exact MU (h x q hx b' h2 (NT h3) d hq he)
   .rw[IN p2];have ex:rk r y_ x=rk r y_ h9_:=by omega
    refine MU ⟨q+1,rfl,b',λi j h4 h5=>?_,v!,λi h4 h5=>?_⟩
    .obtain h6|h6:=MH j x
     .exact d i j h4 h6
     .have:j=x:=by omega
      subst this;obtain h7|h7:=MH i j
      .rw[ex];exact d i eI! a! a!
      .show"#;"
    .rw[show x+1 - 1=x by omega];obtain h6|h6:=MH i x
     .rw[ex];exact he i a! h6
     .rw[show i=x by omega]
 .rintro c hx ⟨q,rfl,b',d,hq,he⟩;rw[show max m n=n by omega]at d hq he ⊢;exact h n q hx b' hm x_ d hq he
def b7z{st:SortSt}{m n:Nat}{Q:qs_}(hl:dG!)(hn:f1!)(hm:m+1<=n)(b:cs_)(hd:Dn r B! (m+1))
  (h:qt!):wpS q_ A E s (descPart m n) Q st:=by
 unfold descPart;refine KR (wpS_lift (LV ⟨rfl,KR (c8d hl hn a! hm b hd λk q hx b' h1 h2 d hq he=>?_)⟩));by_cases t9:q>0
 .simp only[KG,t9];refine KR (wpS_reverse (b7x hl hn a! h2 (b'.put lr!) (λi j h4 h5=>?_) h));have hz:k<=(y_).size:=by rw[b'.sz];omega
  rw[pN hz he,pN hz he];exact d i j h4 h5
 .simp only[t9,JT];exact b7x hl hn a! h2 b' d h
def c3v{st:SortSt}{n:Nat}{Q:qs_}(hl:dG!)(hn:f1!)(h1:1<=n)(b:cs_)(h:qt!):
  wpS q_ A E s (countRun' 0 n) Q st:=by
 rw[countRun0_eq];refine KR (c7a hl hn (IW 1) h1 b (λi j h3 h4=>by rw[f1_];exact NC _) λm h3 h4 u hor=>?_);by_cases e:m=n
 .simp only[OB,e,KG];rw[<-e];exact MU A5_
 .have ap:rk r B! m<rk r B! h9!:=hor.resolve_left e;simp only[OB,e,JT];by_cases hg:m>1
  .simp only[hg,KG];refine KR (b8a hl b a! a! ?_);by_cases p:rk r B! 0<rk r B! h9!
   .rw[JC p];exact MU A5_
   .rw[IN p];have ua:∀k,0<=k->k<m->rk r B! k=rk r B! h9!:=λk _ hk=>by
     have a1:=u 0 k a! hk;have a2:=u k h9! a! a!;omega
    have hz:m<=(B!).size:=by rw[b.sz];omega
    refine KR (wpS_reverse (b7z hl hn a! (b.put lr!) A6! h));rw[pN hz ua,pN hz ua];obtain h7|h7:=MH j m
    .rw[ua i a! a!,ua j a! h7];exact NC _
    .have:j=m:=by omega
     subst this;obtain h8|h8:=MH i j
     .rw[ua i a! h8];omega
     .show"#;"
  .simp only[hg,JT];have:m=1:=by omega
   subst this;refine b7z hl hn a! b A6! h;obtain h8|h8:=MH i j
   .rw[show i=0 by omega,show j=1 by omega];exact Int.le_of_lt ap
   .show"#;"
def c9f{lo hi k x n:Nat}(h:¬lo>=hi)(g2:hi<=k)(g3:hi - lo<=k - x)(hk:k<n):lo<=cW! / 2/\cW! / 2<hi/\cW! / 2<k/\cW! / 2<n/\cW! / 2 - lo<=k - (x+1)/\hi - (cW! / 2+1)<=k - (x+1):=by omega
def d1y{st:SortSt}{n k0:Nat}{Q:Bool->SortSt->Prop}(hl:dG!)(hn:f1!)(hk:k0<=n)(b:cs_)(hu:Up r B! k0)(h:∀hx,SB kd a0 hx->Up r y_ n->Q true hx):
  wpS q_ A E s (binarySort' 0 n k0) Q st:=by
 rw[binarySort'_eq];simp only[QW];refine KR (wpS_mono (RG (I:=λk c hx=>c=fJ!/\SB kd a0 hx/\Up r y_ (min k n)) (Q:=λc hx=>c=fJ!/\SB kd a0 hx/\Up r y_ n) ?_ ?_ ⟨rfl,b,A0_⟩) ?_)
 .rintro k c hx h2 h3 ⟨rfl,b',u⟩;rw[show min k n=k by omega]at u;have ky:k<a0.size:=by omega
  refine KR (wpS_mono (RG (I:=λx c bg=>bg=hx/\∃lo hi,c=(none,lo,hi)/\lo<=hi/\hi<=k/\hi - lo<=k - x/\A6_/\∀i,hi<=i->i<k->rk r y_ k<rk r y_ i)
   (Q:=λc bg=>bg=hx/\∃lo hi,c=(none,lo,hi)/\lo<=k/\A6_/\∀i,lo<=i->i<k->rk r y_ k<rk r y_ i) ?_ ?_ ⟨rfl,0,k,rfl,v!,v!,v!,λi hi=>by omega,λi h4 h5=>by omega⟩) ?_)
  .rintro x c bg h4 h5 ⟨rfl,lo,hi,rfl,g1,g2,g3,g4,g5⟩;show"#7";by_cases zk:lo>=hi
   .rw[IL zk];have:lo=hi:=by omega
    subst this;exact MU A7!
   .rw[IA zk];obtain⟨m1,m2,m3,m4,m5,m6⟩:=c9f zk g2 g3 ky;refine KR (b8a hl b' ky m4 ?_);by_cases p:rk r eI_ k<rk r eI_ qw!
    .rw[JC p];exact MU ⟨rfl,lo,cW! / 2,rfl,m1,NT m3,m5,g4,λi h6 h7=>Int.lt_of_lt_of_le p (u qw! i h6 h7)⟩
    .rw[IN p];exact MU ⟨rfl,cW! / 2+1,hi,rfl,m2,g2,m6,λi h6=>Int.le_trans (u i qw! (Nat.le_of_lt_succ h6) m3) (Int.not_lt.mp p),g5⟩
  .rintro c bg ⟨rfl,lo,hi,rfl,g1,g2,g3,g4,g5⟩;have:lo=hi:=by omega
   subst this;exact A7!
  .rintro c bg ⟨rfl,lo,hi,rfl,g1,g4,g5⟩;rw[moveDown'_eq];refine KR (wpS_modify (MU ⟨rfl,b'.put (bubble_perm _ _ _),λi j h6 h7=>?_⟩));rw[show min T! n=k+1 by omega]at h7;have nv:k<(eI_).size:=by rw[b'.sz];exact ky
   rw[b8d nv a!,b8d nv a!,show k - (k - lo)=lo by omega];have n1:∀m,m<lo->rk r eI_ m<=rk r eI_ k:=g4;have n2:∀m,lo<=m->m<k->rk r eI_ k<rk r eI_ m:=g5;by_cases ei:i=lo
   .rw[IL ei];by_cases ej:j=lo
    .rw[IL ej];exact NC _
    .rw[IA ej];by_cases fj:lo<j/\j<=k
     .rw[IL fj];exact Int.le_of_lt (n2 eI! a! a!)
     .omega
   .rw[IA ei];by_cases fi:lo<i/\i<=k
    .rw[IL fi,IA a!,a1!];exact u (i - 1) eI! a! a!
    .rw[IA fi];by_cases ej:j=lo
     .rw[IL ej];exact n1 i a!
     .rw[IA ej];by_cases fj:lo<j/\j<=k
      .rw[IL fj];exact u i eI! a! a!
      .rw[IA fj];exact u i j h6 a!
 .rintro c hx ⟨e,b',u⟩;rw[show min (max (max k0 1) n) n=n by omega]at u;exact⟨e,b',u⟩
 .by_cases h0:k0=0
  .show"#;"
  .exact hu i j h3 a!
 .rintro c hx ⟨rfl,b',u⟩;exact MU (h hx b' u)
def b7y{st:SortSt}{Q:Unit->SortSt->Prop}(hl:dG!)(b:cs_)(h2:2<=a0.size)(nz:a0.size<64)
  (h:∀hx,(y_).Perm a0->failedOf hx=none->Up r y_ a0.size->Q () hx):wpS q_ A E s sortRuns' Q st:=by
 rw[sortRuns'_eq];refine KR f0_;have hmr:minRun' a0.size a0.size 0=a0.size:=by
  have:∀f,minRun' (f+1) a0.size 0=a0.size:=λf=>by rw[minRun'_succ,IL nz];rfl
  have q:=this (a0.size - 1);rwa[show a0.size - 1+1=a0.size by omega]at q
 dsimp only;simp only[b.sz,hmr];have fin:∀{hx:SortSt},SB kd a0 hx->Up r y_ a0.size->(arrOf ls!).Perm a0/\failedOf ls!=none/\pendingOf ls!=#[lr_]/\Up r (arrOf ls!) a0.size:=
  λ{hx} b' u=>⟨b'.pm,b'.fl,by show(A9!).push _=_;rw[b'.pd];rfl,u⟩
 refine KR (wpS_mono (RG (I:=λx c hx=>(x=0/\c=(none,0)/\SB kd a0 hx)\/(1<=x/\c=A9_/\(y_).Perm a0/\failedOf hx=none/\pendingOf hx=#[lr_]/\Up r y_ a0.size))
  (Q:=λc hx=>c=A9_/\(y_).Perm a0/\failedOf hx=none/\pendingOf hx=#[lr_]/\Up r y_ a0.size) ?_ ?_ (.inl ⟨rfl,rfl,b⟩)) ?_)
 .rintro x c hx _ Y (⟨rfl,rfl,b'⟩|⟨_,rfl,d⟩)
  .show"#7";rw[IA a!];simp only[Nat.sub_zero,Nat.min_self,QW];refine KR (c3v hl x_ a! b' λm bg b2 g1 g2 u2=>?_);by_cases ap:m<a0.size
   .simp only[ap,KG];refine KR (wpS_lift (LV ⟨rfl,KR (d1y hl x_ g2 b2 u2 λvn b3 u3=>?_)⟩));simp only[MF,JH,JT];refine KR f0_;rw[show(pendingOf vn).back?=none by rw[b3.pd];rfl];exact KR (wpS_modify (MU (.inr ⟨IW 1,rfl,fin b3 u3⟩)))
   .simp only[ap,JT];have:m=a0.size:=by omega
    subst this;refine KR f0_;rw[show(pendingOf bg).back?=none by rw[b2.pd];rfl];exact KR (wpS_modify (MU (.inr ⟨IW 1,rfl,fin b2 u2⟩)))
  .show"#7";rw[IL x_];exact MU ⟨rfl,d⟩
 .rintro c hx (⟨Y,_⟩|⟨_,e,d⟩)
  .omega
  .exact⟨e,d⟩
 .rintro c hx ⟨rfl,d1,d2,d3,d4⟩;refine KR (wpS_mono (RG (I:=λ_ c bg=>bg=hx/\c=fJ!) (Q:=λc bg=>bg=hx/\c=fJ!) ?_ Ba_ bz_) ?_)
  .rintro x c bg _ _ ⟨rfl,rfl⟩;refine KR f0_;rw[IL (by rw[d3];exact IW 1)];exact MU bz_
  .rintro c bg ⟨rfl,rfl⟩;exact MU (h _ d1 d2 d4)
end
abbrev Ym:Bool->SortKind:=sortPriv%PySem.Builtin.KeyKind.tuples
section
variable{prog:yJ!}{w:ys!}{A:yg!}{E:Value->Shared->Prop}{s:yM!}
def Hw(h:Heap)(v:yh!)(a b:Int):Prop:=∃(p:xY!) (o:Obj) (n:Nat) (t u:Tok),v=.ref p/\h.get? p=some o/\o.cls=.type "tuple"/\o.data=.seq #[.int a t,.int b u] n
def CL(a b c d:Int):Bool:=if a=c then decide (b<d)else decide (a<c)
def zV{f:Bool}{a b:Int}{Q:ex!}(h:Q (decide (a<b)) s):wpAny q_ A (oneLt' f gP_ (.int b u)) Q E s:=by
 cases f with
 |true=>exact oneLt_int h
 |false=>
  rw[oneLt'_eq];rw[IA IZ];refine HR (show wpAny q_ A (compareOp .Lt gP_ (.int b u)) _ E s from PyProof.Rows.lt_int ?_);exact KF h
def xI{f:Bool}{a b c d:Int}{Q:ex!}(Y:Hw s.heap x a b)(hy:Hw s.heap y c d)(h:Q (CL a b c d) s):wpAny q_ A (keyLt' (Ym f) x y) Q E s:=by
 obtain⟨p,o,n,t,u,rfl,h1,_,h2⟩:=Y;obtain⟨p',o',n',t',u',rfl,kj,_,md⟩:=hy;refine HR (RH h1 h2 (HR (RH kj md gF_)));show wpAny q_ A (forIn [((Value.int a t,Value.int c t'),0),((Value.int b u,Value.int d u'),1)] _ _) _ E s;rw[NY];refine HR (HR (QO a t c t' _ _ _ _ ?_));unfold CL at h;by_cases e:a=c
 .rw[IL e]at h;have e1:(a==c)=true:=by simpa using e
  rw[e1];simp only[MF,JH,JT];refine HU ?_;show"#7";rw[NY];refine HR (HR (QO b u d u' _ _ _ _ ?_));by_cases e2:b=d
  .have e3:(b==d)=true:=by simpa using e2
   rw[e3];simp only[MF,JH,JT];refine HU ?_;dsimp only;rw[PZ];refine HU ab_;have e4:decide (b<d)=false:=by rw[e2];simp
   rw[e4]at h;simpa using h
  .have e3:(b==d)=false:=by simpa using e2
   rw[e3];simp only[QA,KG];exact HR Bb!
 .rw[IA e]at h;have e1:(a==c)=false:=by simpa using e
  rw[e1];simp only[QA,KG];exact HR Bb!
def b1t{α β:Type}{f:α->Sem β}{F:cZ!}{Q:Array β->Shared->Prop}:∀(xs:O_),Bb_->(∀ys,Paired F xs ys->Q ys.toArray s)->wpAny q_ A (xs.toArray.mapM f) Q E s:=by
 intro xs hf hq;rw[Array.mapM_eq_mapM_toList];have km:∀(xs:O_) (R:List β->Shared->Prop),Bb_->(∀ys,Paired F xs ys->R ys s)->wpAny q_ A (xs.mapM f) R E s:=by
  intro xs
  induction xs with
  |nil=>
   intro R _ h;rw[List.mapM_nil];exact HU (h [] .nil)
  |cons x xs ih=>
   intro R h1 h2;rw[List.mapM_cons];refine HR (h1 x IH _ λy hy=>HR (ih _ (λz hz=>h1 z lt!) λys qg=>HU (h2 _ (.cons hy qg))))
 have:(List.toArray<$>xs.toArray.toList.mapM f:Sem (Array β))=(xs.toArray.toList.mapM f>>=λl=>pure l.toArray):=by rw[map_eq_pure_bind]
 rw[this];exact HR (km _ _ (by simpa using hf) λys qg=>HU (hq ys (by simpa using qg)))
def a7i{vs:j!}{Q:SortKind->Shared->Prop}(h:∀v∈vs,∃a b,Hw s.heap v a b)(h0:vs≠[])(hq:Q (Ym true) s):wpAny q_ A (keyKind' cE!) Q E s:=by
 refine HR (b1t (F:=λ_ y=>∃a t,y=some lt_) vs Bc! λys qg=>?_)
 .obtain⟨a,b,p,o,n,t,u,rfl,h1,h2,h3⟩:=h v hv;refine HR (RK (T:="tuple") oy_ ?_);rw[IA b_];exact HR (RH h1 h3 (HU (hR _ ⟨a,t,rfl⟩)))
 .have fm:∀y∈ys,∃a t,y=some lt_:=by
   have km:∀{l:j!} {m:List sZ!},Paired (λ_ y=>∃a t,y=some lt_) l m->∀y∈m,∃a t,y=some lt_:=by
    intro l m hp
    induction hp with
    |nil=>intro y hy;cases hy
    |cons q _ ih=>
     intro y hy;obtain rfl|hy:=HY.mp hy
     .exact q
     .exact ih y hy
   exact km qg
  have bf:ys≠[]:=λz=>by subst z;cases qg;exact h0 rfl
  rw[IL (by rw[List.all_toArray,MB];intro y hy;obtain⟨a,t,rfl⟩:=fm y hy;rfl)];refine HR fB_;have hints:∀v∈(Bc_).toList,∃a t,v=Value.int a t:=λv hv=>by
   simp only[List.filterMap_toArray,NP,id]at hv;obtain⟨y,hy,e⟩:=hv;obtain⟨a,t,e2⟩:=fm y hy;rw[e2]at e;exact⟨a,t,(JY e).symm⟩
  have hz:(Bc_).toList≠[]:=λz=>by
   cases ys with
   |nil=>exact bf rfl
   |cons y r=>
    obtain⟨a,t,rfl⟩:=fm y IH;simp at z
  generalize hZ:ys.toArray.filterMap id=Z at hints hz ⊢;obtain⟨zs⟩:=Z;refine HR ?_;refine HR (b1t (F:=λ_ y=>y=Value.type "int") zs Bc! λts WC=>?_)
  .obtain⟨a,t,rfl⟩:=hints v jo!;exact RK (typeIs_int s a t) (hR _ rfl)
  .have WD:∀t∈ts,t=Value.type "int":=by
    have km:∀{l m:j!},Paired (λ_ y=>y=Value.type "int") l m->∀y∈m,y=Value.type "int":=by
     intro l m hp
     induction hp with
     |nil=>intro y hy;cases hy
     |cons q _ ih=>
      intro y hy;obtain rfl|hy:=HY.mp hy
      .exact q
      .exact ih y hy
    exact km WC
   cases ts with
   |nil=>cases WC;exact absurd rfl hz
   |cons t r=>
    have ht:=WD t IH;subst ht;have e1:((Bd_).toArray)[0]?=some (Value.type "int"):=rfl;rw[e1];have e2:((Bd_).toArray.all λx=>x==Value.type "int")=true:=by
     rw[List.all_toArray,MB];intro y hy;rw[WD y hy];rfl
    show"#7";rw[IL e2];exact HU (HU hq)
end
def Kw(p q:dG_):Bool:=CL p.1 p.2 q.1 q.2
def qE{p q:dG_}:Kw p q=true↔(p.1<q.1\/(p.1=q.1/\p.2<q.2)):=by
 unfold Kw CL;split
 .rename_i h;rw[JI];omega
 .rename_i h;rw[JI];omega
def b3r(p:dG_):Kw p p=false:=by
 cases h:Kw p p with
 |false=>rfl
 |true=>have:=qE.mp h;omega
def kC{p q r:dG_}(h1:Kw p q=true)(h2:Kw q r=true):Kw p r=true:=by rw[qE]at h1 h2 ⊢;omega
def a3d{p q:dG_}(h:p≠q)(h1:Kw p q=false):Kw q p=true:=by
 have kj:¬Kw p q=true:=by rw[h1];simp
 rw[qE]at kj ⊢;have:¬(p.1=q.1/\p.2=q.2):=λz=>h (Prod.ext z.1 z.2);omega
section
variable{α:Type}(kf:α->Int×Int)
def Rh(x:α):List α->List α
 |[]=>[x]
 |y::r=>if Kw (kf x) (kf y)then x::y::r else y::Rh x r
def Jk:List α->List α
 |[]=>[]
 |x::r=>Rh kf x (Jk r)
def Pc(l:O_):Prop:=l.Pairwise λx y=>Kw (kf x) (kf y)=true
variable {kf}
def sS(x:α):∀l:List α,(Rh kf x l).Perm (x::l)
 |[]=>PB _
 |y::r=>by
  unfold Rh;split
  .exact PB _
  .exact((sS x r).cons y).trans (List.Perm.swap x y r)
def bJ:∀l:List α,(Jk kf l).Perm l
 |[]=>PB _
 |x::r=>(sS x _).trans ((bJ r).cons x)
def xN{x:α}:∀{l:O_},Pc kf l->(∀y∈l,kf x≠kf y)->Pc kf (Rh kf x l)
 |[],_,_=>List.pairwise_singleton _ _
 |y::r,h,hn=>by
  unfold Rh;unfold Pc at h;rw[KZ]at h;split
  .rename_i ap;refine KZ.mpr ⟨lu_,KZ.mpr h⟩;obtain rfl|hz:=HY.mp hz
   .exact ap
   .exact kC ap (h.1 z hz)
  .rename_i ap;refine KZ.mpr ⟨lu_,xN h.2 λz hz=>hn z lt!⟩;obtain rfl|hz:=HY.mp ((sS x r).mem_iff.mp hz)
   .exact a3d (hn y IH) yX_
   .exact h.1 z hz
def iS:∀{l:O_},(l.map kf).Nodup->Pc kf (Jk kf l)
 |[],_=>jG!
 |x::r,h=>by
  rw[II,IV]at h;refine xN (iS h.2) λy hy e=>h.1 ?_;rw[e];exact IJ ((bJ r).mem_iff.mp hy)
def lT:∀{l m:O_},Pc kf l->Pc kf m->l.Perm m->l=m
 |[],m,_,_,h=>(List.Perm.nil_eq h)
 |x::l,m,h1,h2,h=>by
  cases m with
  |nil=>exact absurd h.length_eq d!
  |cons y m=>
   have e:x=y:=by
    obtain e|Y:=HY.mp (h.mem_iff.mp IH)
    .exact e
    .obtain e|hy:=HY.mp (h.symm.mem_iff.mp IH)
     .exact e.symm
     .have a1:=(KZ.mp h1).1 y hy;have a2:=(KZ.mp h2).1 x Y;have:=kC a1 a2;rw[b3r]at this;cases this
   subst e;rw[lT (KZ.mp h1).2 (KZ.mp h2).2 ((List.perm_cons x).mp h)]
def b9d{β:Type}{f:lv_}{l m:dJ_}(h:l.Perm m):∀{ay:O_},m=ay.map f->∃L':List α,L'.Perm ay/\L'.map f=l:=by
 induction h with
 |nil=>intro ay e;exact⟨[],by rw[List.map_eq_nil_iff.mp e.symm],rfl⟩
 |cons x _ ih=>
  intro ay e;cases ay with
  |nil=>cases e
  |cons y ay=>
   injection e with e1 e2
   obtain⟨L',h1,h2⟩:=ih e2;exact⟨y::L',h1.cons y,by rw[II,h2,e1]⟩
 |swap x y l=>
  intro ay e
  match ay,e with
  |a::b::ay,e=>
   injection e with e1 e2
   injection e2 with e3 e4
   exact⟨b::a::ay,List.Perm.swap a b ay,by rw[II,II,<-e1,<-e3,<-e4]⟩
 |trans _ _ ih1 ih2=>
  intro ay e;obtain⟨L2,h1,h2⟩:=ih2 e;obtain⟨L1,h3,h4⟩:=ih1 h2.symm;exact⟨L1,h3.trans h1,h4⟩
def Jl(ks:f4_)(k:dG_):Int:=((ks.filter λx=>Kw x k).length:Nat)
def rR{ks:f4_}{p q:dG_}(hp:p∈ks)(h:Kw p q=true):Jl ks p<Jl ks q:=by
 unfold Jl;have km:∀l:List ib_,(Bg_).length<=(Bh!).length:=by
  intro l
  induction l with
  |nil=>simp
  |cons x l ih=>
   simp only[SE];by_cases Y:Kw x p=true
   .simp only[Y,kC Y h,KG,IQ];omega
   .by_cases hy:Kw x q=true
    .simp only[Y,hy,KG,IQ];show"#$";omega
    .simp only[Y,hy];show"#$";exact ih
 have aux2:∀l:List ib_,p∈l->(Bg_).length<(Bh!).length:=by
  intro l hl
  induction l with
  |nil=>cases hl
  |cons x l ih=>
   obtain e|hl:=HY.mp hl
   .subst e;have:=km l;simp only[SE,b3r,h,KG,IQ,JH,JT];omega
   .have:=ih hl;simp only[SE];by_cases Y:Kw x p=true
    .simp only[Y,kC Y h,KG,IQ];omega
    .by_cases hy:Kw x q=true
     .simp only[Y,hy,KG,IQ];show"#$";omega
     .simp only[Y,hy];show"#$";show"#H"
 have:=aux2 ks hp;omega
def b2n{ks:f4_}{p q:dG_}(hp:p∈ks)(hq:q∈ks):decide (Jl ks p<Jl ks q)=Kw p q:=by
 cases h:Kw p q with
 |true=>exact JC (rR hp h)
 |false=>
  refine IN λz=>?_;by_cases e:p=q
  .subst e;omega
  .have:=rR hq (a3d e h);omega
end
section
open Classical
variable{h:Heap}
def Hw.inj{a b c d:Int}(x:Hw h v a b)(y:Hw h v c d):Z_=(c,d):=by
 obtain⟨p,o,n,t,u,rfl,h1,_,h2⟩:=x;obtain⟨p',o',n',t',u',e,kj,_,md⟩:=y;cases e;rw[h1]at kj;cases kj;rw[h2]at md;injection md with h3 _
 have:=congrArg Array.toList h3;simp at this;rw[this.1.1,this.2.1]
def Lu(h:Heap)(v:yh!):Int×Int:=if x:∃a b,Hw h v a b then(x.choose,x.choose_spec.choose)else(0,0)
def qM{a b:Int}(x:Hw h v a b):Lu h v=Z_:=by have z:∃a b,Hw h v a b:=⟨a,b,x⟩;unfold Lu;rw[dif_pos z];exact z.choose_spec.choose_spec.inj x
def tI{kf:D->Int×Int}{ay:lw_}{og a0:cs!}(ha:h8_=ay.map c!)(hk:∀q∈ay,Hw h q.1.1 (kf q.2).1 (kf q.2).2)(nd:(qC!).Nodup)(hp:og.Perm a0)
  (hu:Up Bi_ og a0.size):∃L':List (Keyed×D),L'.Perm ay/\og.toList=L'.map c!/\L'.map C!=Jk kf qB_:=by
 have br:og.toList.Perm h8_:=Array.perm_iff_toList_perm.mp hp;obtain⟨L',h1,h2⟩:=b9d br ha;refine⟨L',h1,h2.symm,lT ?_ (iS nd) ((h1.map _).trans (bJ _).symm)⟩;have f8:((L'.map C!).map kf).Nodup:=(((h1.map _).map _).nodup_iff).mpr nd;unfold Pc;rw[PY];intro i j hi hj WG;have b9:i<f5!:=by simpa using hi
 have zl:j<f5!:=by simpa using hj
 have hsz:og.size=f5!:=by rw[<-KH,<-h2,IP]
 have bi:a0.size=f5!:=by rw[<-KH,ha,IP,h1.length_eq]
 have WH:∀k (cr:k<f5!),rk Bi_ og k=Jl qC! (kf L'[k].2):=λk cr=>by
  unfold rk;have e:og[k]?=some L'[k].1:=by
   rw[<-NZ,<-h2,JM,IM cr];rfl
  rw[e];show Jl _ (Lu h L'[k].1.1)=_;rw[qM (hk L'[k] Bj_)]
 have ju:=hu i j (NT WG) a!;rw[WH i b9,WH j zl]at ju;simp only[List.getElem_map];have mem:∀k (cr:k<f5!),kf L'[k].2∈(qB_).map kf:=λk cr=>IJ (IJ Bj_);have ne:kf L'[i].2≠kf L'[j].2:=λe=>by
  have q:=(List.getElem_inj (i:=i) (j:=j) (h₀:=by simpa using b9) (h₁:=by simpa using zl) f8).mp cX_;omega
 cases ap:Kw (kf L'[i].2) (kf L'[j].2)with
 |true=>rfl
 |false=>
  have:=rR (mem j zl) (a3d ne ap);omega
end
def b1p(a v:yh!):argsOk "list.sort" Bk_:=by unfold argsOk;kernel_rfl
def a4y(a v:yh!):argsOk "sorted" Bk_:=by unfold argsOk;kernel_rfl
section
variable{X:Cx}{B:List (Addr×Obj)}{Z:St}{G H:Hp}{s:yM!}{A:yg!}{E:Value->Shared->Prop}
def c3x{k:Nat}{sp:Sp}{Q:VK}(F:Fm X.prog X.w X.K X.mg X.base Pz k f fd ps sp)(J:gK!)(hb:kc_)(e0:Rn X.prog X.w X.K X.mg X.base A X.stack s H)
  (I:d_)(r:eP_)(h:sp vs H Q E0):wpAny e_ A (call ai! us) aI_ E s:=by
 have hl:(us++[]).length=T_:=by rw[JA,<-r.length];exact F.len _ _ _ _ h
 have dm:=hb s us I.kIn hl;rw[JA]at dm;refine wpAny_call (RP (F.run A X.stack s H de! us vs Q E0 J e0 dm r h) λr s' hq=>?_);cases r with
 |error e=>exact hq.elim
 |ok fl=>
  cases fl with
  |ret u=>exact I.after hq
  |next=>exact False.elim hq
  |brk=>exact False.elim hq
  |cont=>exact False.elim hq
def Mp:D->Option ib_
 |.tup [.int a,.int b]=>some Z_
 |_=>none
def a6k{a b:Int}(I:d_)(sub:I_)(r:b0!)(e:Mp d=some Z_):Hw s.heap u a b:=by
 unfold Mp at e;show"!6"
 .cases e;obtain⟨v,r,ru⟩:=r;show"!X";cases ru;show"!4";cases aY r1;cases aY r2;show"#/";obtain⟨x,y,rfl,⟨t,rfl⟩,⟨u,rfl⟩⟩:=a5g rv;exact⟨p,o,n,t,u,rfl,h1,h2,h3⟩
 .cases e
def Nj(g:ad!):List D->Option (List ib_)
 |[]=>some []
 |d::r=>(g [d]).bind λx=>(Mp x).bind λk=>(Nj g r).map (k::·)
def d1z{oc':Obj}{h':Heap}{t':Nat}(I:Inv X (B++[eJ!,(c,oc)]) Z H s)(L:Ga X B H c)(jb:a≠c)(kp:∀b o,b≠c->s.heap.get? b=some o->h'.get? b=some o)(ho:h'.get? c=some oc')(hd:∀v,oc'.data≠.cell v):
  Inv X (B++[eJ!,(c,oc')]) Z H {s with heap:=h',toks:=t'}:=by
 have pa:=I.pin eJ! (IE _ d!);have I1:Inv X qE_ Z H s:=I.pins_of λp hp=>I.pin p (IE _ (by
  obtain z|z:=IK.mp hp
  .exact JE _ z
  .exact IE _ (by simp at z;simp[z])))
 have kz:∀b∈[c],Ga X qE_ H b:=λb hb=>by
  have e:b=c:=by simpa using hb
  subst e;obtain⟨f0,f1,f2,f3,f4,f5⟩:=L;refine⟨f0,f1,f2,f3,f4,dM!⟩;obtain z|z:=IK.mp hp
  .exact f5 p (JE _ z)
  .obtain z|z:=IK.mp z
   .exact f5 p (IE _ z)
   .have:p=eJ!:=by simpa using z
    rw[this];exact jb
 have I2:Inv X qE_ Z H {s with heap:=h',toks:=t'}:=iM I1 kz λb o hb e=>kp b o gu! e;refine I2.pins_of λp hp=>?_;obtain z|z:=IK.mp hp
 .exact I2.pin p (IE _ (JE _ z))
 .obtain z|z:=HY.mp z
  .subst z;exact I2.pin _ f5_
  .have:p=(c,oc'):=by simpa using z
   subst this;exact⟨ho,L.1,L.2.1,L.2.2.1,hd⟩
def a0l{k:Nat}{ps:r_}{g:ad!}{body:Value->PUnit->Sem zU_}{Q:zR_}(F:Bm_)(J:qF!)(hb:kc_)(lp:T_=1)(jb:a≠c)
  (pj:∀x (R:ForInStep PUnit->Shared->Prop) s,wpAny e_ X.A.in1.in1 (call ai! [x]) (λk s'=>wpAny e_ X.A.in1.in1 (Builtin.List.listUpdate (.ref c) (·.push k)) (λ_ s2=>R (.yield ⟨⟩) s2) E s') E s->wpAny e_ X.A.in1.in1 (body x ⟨⟩) R E s):
  ∀{ds:c_} {us:j!} {kd:c_} {ku:j!} {n:Nat} {ks:f4_} {s:yM!} {G H:Hp},Inv X (B++[eJ!,Bo_]) Z H s->Bj G H->Paired cX! ds us->Paired cX! kd ku->Nj g ds=some ks->
   (∀H':Hp,H' c=none->Ga X B H' c)->qF_+f_<=1000->
   (∀s' H' G' qh ub n',Inv X (B++[eJ!,(c,seqObj "list" (ku++qh).toArray n')]) Z H' s'->Ce G H G' H'->Paired (Cz X.K G') (kd++ub) (ku++qh)->Paired qG! ub ks->Q ⟨⟩ s')->
   wpAny e_ X.A.in1.in1 (forIn us ⟨⟩ body) Q E s
 |_,_,kd,ku,n,ks,s,G,H,I,sub,.nil,pk,e,st,hl,hq=>by
  rw[PZ];cases e;refine HU (hq s H G [] [] n ?_ aY_ ?_ .nil)
  .rw[JA];exact I
  .rw[JA,JA];exact pk
 |d::ds,u::us,kd,ku,n,ks,s,G,H,I,sub,.cons r t,pk,e,st,hl,hq=>by
  show"!o";obtain⟨v,rv,ru⟩:=r;rw[NY];simp only[IQ]at hl;refine HR (pj u _ s (dH (c3x (vs:=[v]) (Q:=λv' H'=>∃G',Ce G H G' H'/\Av X.K G' x v') F J hb I.env0.in1.in1 I u4! ⟨lp.symm,G,[d],x,sub,Am.cons rv Am.nil,e1,λv' G' H' x' r'=>⟨G',x',r'⟩⟩) λkv s1 ⟨v1,H1,I1,rk1,G1,x1,r1⟩=>?_));have pc:=I1.pin Bo_ f5_;refine PN pc.1 rfl ?_ lx! (by simp only[Array.size_push,IF];rw[KJ];omega);have e4:=RA pc.1 (·.push kv);have I2:=d1z (oc':=seqObj "list" (ku++[kv]).toArray (if(ku.toArray.push kv).size==ku.toArray.size then n else n+1)) (t':=s1.toks) I1 (st H1 pc.2.1) jb (λb o hb e=>(uD!).trans e) (by rw[e4,List.push_toArray]) vS_;refine a0l F J hb lp jb pj I2 x1.sub (Paired.mapP t λ_ _ z=>z.mono x1.g) (jM (Paired.mapP pk λ_ _ z=>z.mono x1.g) (.cons ⟨v1,r1,rk1⟩ .nil)) e3 st zW! λs' H' G' qh ub n' I' x' p' k'=>?_;refine hq s' H' G' (kv::qh) (x::ub) n' ?_ (x1.trans x') ?_ (.cons e2 k')
  .rw[KI]at I';exact I'
  .rw[KI,KI]at p';exact p'
end
def Ix(g:ad!)(d:D):Int×Int:=((g [d]).bind Mp).getD (0,0)
def xH{g:ad!}:∀{ds:c_} {ks:f4_},Nj g ds=some ks->ks=ds.map eJ_
 |[],_,e=>by cases e;rfl
 |d::r,ks,e=>by
  show"!o";rw[II,<-xH e3];congr 1;unfold Ix;rw[e1];show q=(Mp x).getD _;rw[e2];rfl
section
variable{X:Cx}{B:List (Addr×Obj)}{Z:St}{G H:Hp}{s:yM!}{A:yg!}{E:Value->Shared->Prop}
def wS{P:Value->D->Prop}{R:D->Value->Prop}:∀{ku us:j!} {ds:c_},Paired P ku ds->Paired R ds us->∀q∈(ic!).zip ds,P q.1.1 q.2/\R q.2 q.1.2
 |_,_,_,.nil,.nil,q,h=>by simp at h
 |_,_,_,.cons p t,.cons r u,q,h=>by
  rw[PV,PV]at h;obtain rfl|h:=HY.mp h
  .exact⟨p,r⟩
  .exact wS t u q h
def jL{α β γ:Type}{R:cZ!}{f:γ->α}{h:γ->β}:∀{l:List γ},(∀q∈l,R (f q) (h q))->Paired R ic_ (l.map h)
 |[],_=>.nil
 |q::r,hh=>.cons (hh q (IH ..)) (jL λz hz=>hh z lt!)
def gL{α β:Type}{R:cZ!}:∀{l:O_} {m:dJ_},Paired R l m->Z!=m.length
 |_,_,.nil=>rfl
 |_,_,.cons _ t=>by rw[IQ,IQ,gL t]
def tK{G:Hp}{kf:D->Int×Int}(hp:∀d u a b,Cz X.K G d u->Mp d=some Z_->Hw h u a b):∀{kd:c_} {ku:j!} {ds:c_},Paired cX! kd ku->Paired qG! kd (ds.map kf)->Paired (λv d=>Hw h v (kf d).1 (kf d).2) ku ds
 |_,_,[],.nil,_=>.nil
 |_,_,_::_,.nil,h=>by cases h
 |_,_,[],.cons _ _,h=>by cases h
 |_,_,_::_,.cons r t,.cons k u=>.cons (hp _ _ _ _ r k) (tK hp t u)
def d1r{st:SortSt}{us':j!}{ku:j!}{e e1:Nat}{P:lx_}(zm:(B!).map C!=oW!)(hz:us'.length<64)(VW:qF_<64)(hf:failedOf st=none)(jb:a≠c)
  (gf:qG_)(kz:Bq!)(I:Bq_)
  (hP:∀s' n',Inv X B Z H s'->s'.heap.get? a=some id_->P ie! s'):wpAny e_ A Br! P E s:=by
 have pa:=I.pin ly! f5_;have pc:=I.pin Bp_ f5_;unfold ksk_tail;show"#7";rw[zm];refine HR (PN pc.1 rfl ?_ lx! bZ_);refine HR (RC ?_);have ea:(s.heap.update c Bs!).get? a=some qH_:=(KN _ _ (IB jb)).trans pa.1;refine HR (seqEpoch_at ea rfl ?_);show"#$";refine HR (PN ea rfl ?_ bZ_ lx!);rw[hf];simp only[RX,JH,JT];have I1:Inv X B Z H s:=I.unpinned;refine HU (hP _ _ (iM (wr:=[a,c]) (t':=s.toks) I1 iu! λb o hb q=>?_) (RA ea λ_=>oW!))
 .obtain rfl|hb:=HY.mp hb
  .exact gf H pa.2.1
  .rw[lz!];exact kz H pc.2.1
 .have h1:b≠a:=λz=>hb (by rw[z];exact IH ..);have h2:b≠c:=λz=>hb (by rw[z];exact HZ _ (IH ..));exact(KN _ _ (IB h1)).trans ((KN _ _ (IB h2)).trans q)
def d4q{g:ad!}{ds:c_}{us ku:j!}{e e1:Nat}{P:lx_}(nz:f_<64)(nd:(ds.map eJ_).Nodup)(jb:a≠c)
  (gf:qG_)(kz:Bq!)(I:Bq_)(sub:I_)
  (pu:qJ!)(pk:Paired cX! kd ku)(kk:Paired qG! kd (ds.map eJ_))
  (hP:∀s' us' n',Inv X B Z H s'->Paired cX! qJ_ us'->s'.heap.get? a=some id_->P ie! s'):wpAny e_ A (ksk_end a false us.toArray e1 (.ref c) ku.toArray) P E s:=by
 have z:=tK (X:=X) (h:=s.heap) (λd u a b r q=>a6k I sub r q) pk kk;have l1:au_=f_:=(gL pu).symm;have l2:qF_=f_:=gL z;have mem:=wS z pu;have jz:(lz_).toList=(ie_).map c!:=by
  rw[ksk_zip,Bt!]
 have hd:(ie_).map C!=ds:=List.map_snd_zip qK!;have fin:∀{L':lw_} {st:SortSt},L'.Perm ie_->(B!).toList=L'.map c!->L'.map C!=Jk eJ_ ds->failedOf st=none->wpAny e_ A Br! P E s:=λ{L' st} h1 h2 h3 h4=>by
  refine d1r (us':=L'.map (·.1.2)) ?_ (by rw[IP,h1.length_eq,LA,LA];omega) a! h4 jb gf kz I λs' n' I' e'=>hP s' _ n' I' ?_ e'
  .apply Bt_;rw[Array.toList_map,h2,JV];rfl
  .rw[<-h3];exact jL λq hq=>(mem q (h1.mem_iff.mp hq)).2
 unfold ksk_end;show"#7";show"#$";by_cases h2:kr_<2
 .rw[IL h2,IL h2];refine HR ab_;rw[StateT.run_pure];refine HR ab_;show"#7";refine fin (L':=(ic!).zip ds) (PB _) jz ?_ rfl;rw[hd];rw[IF,l1]at h2
  match ds,h2 with
  |[],_=>rfl
  |[x],_=>rfl
  |_::_::r,h2=>simp at h2;omega
 .rw[IA h2,IA h2];rw[IF]at h2;refine HR (a7i (vs:=ku) Bu! (λz=>by rw[z]at l2;simp at l2;omega) ?_)
  .show"!f"
  .have hsz:(lz_).size=f_:=by rw[<-KH,jz,IP,LA,LA];omega
   have hk:∀q∈(ic!).zip ds,Hw s.heap q.1.1 (qK_).1 (qK_).2:=λq hq=>(mem q hq).1;have f8:(if_).Nodup:=by rw[hd];exact nd
   refine HR (LF (b7y (kd:=Ym true) (a0:=ku.toArray.zip cH!) (r:=λp=>Jl if_ Bw_) (Q:=λ_ hx=>(y_).Perm lz_/\failedOf hx=none/\Up (λp=>Jl if_ Bw_) y_ (lz_).size)
    (Bx!) Bx_ By! By_ λhx a1 a2 a3=>Bz!) ?_ λ_ _ e=>e)
   .rw[jz]at Y hy;obtain⟨p,hp,rfl⟩:=IS.mp Y;obtain⟨q,a7,rfl⟩:=IS.mp hy;refine xI lA_ lB! ?_;have mm:∀p∈(ic!).zip ds,Ix g p.2∈((ie_).map C!).map eJ_:=λp hp=>IJ (IJ hp);have hh:decide BA!=Kw (Ix g p.2) qK_:=by
     show"#B"
    have uc:Q (decide BA!) s:=hq;rw[hh]at uc;exact uc
   .show"!F";exact fin b1 b2 BA_ a2
def d1q{k:Nat}{ps:r_}{g:ad!}(F:Bm_)(J:qF!)(hb:kc_)(lp:T_=1)
  {us:j!}{ds:c_}{n:Nat}{ks:f4_}{P:lx_}(I:d_)(sub:I_)(pu:qJ!)(ha:BB!)(jc:iq!)
  (gf:qG_)(ek:Nj g ds=some ks)(nd:hI_)(nz:f_<64)
  (hP:∀s' H' G' us' n',Inv X B Z H' s'->Ce G H G' H'->Paired (Cz X.K G') qJ_ us'->H' a=none->s'.heap.get? a=some id_->P ie! s'):
  wpAny e_ X.A.in1.in1 (ksk_tree a ai! false) P E s:=by
 have l1:au_=f_:=(gL pu).symm;have ekm:=xH ek;obtain⟨e1,ud⟩:∃e1,(s.heap.update a (Obj.mapSeq λ_=>(#[]:Array Value))).get? a=some (seqObj "list" #[] e1):=BB_;unfold ksk_tree;refine HR BC!;refine HR BD!;refine HR BC_;refine HR BD_;refine HR (SH ?_ bZ_);refine JX ?_;have hsz:(ct!).objs.size=k_+1:=by rw[size_push',Heap.size_update]
 show wpAny _ _ (ksk_rest a ai! false us.toArray e1 (.ref (ct!).objs.size)) P E {s with heap:=(ct!).push ct_};have gk:(qL_).get? (ct!).objs.size=some ct_:=IY _ rfl;rw[hsz]at gk ⊢;have jb:a≠k_+1:=JP (Nat.lt_succ_of_lt (JB ha));have kz:∀H':Hp,H' ae!=none->Ga X B H' ae!:=λH' q=>I.fpOk (QJ _) q;have me:(qL_).get? a=some qH_:=HX _ (HX _ ud);have I1:Inv X B Z H {s with heap:=(ct!).push ct_}:=
  iM (wr:=[a]) (t':=s.toks) I (λb hb=>by rw[lz!];exact gf H jc) λb o hb q=>HX _ BE_
 have fa:=gf H jc;have fc:=kz H tL!;have I2:Inv X (B++[ly!,(k_+1,seqObj "list" (vR_).toArray 0)]) Z H {s with heap:=(ct!).push ct_}:=I1.pins_of λp hp=>by
  obtain z|z:=IK.mp hp
  .exact I1.pin p (IE _ z)
  .obtain rfl|z:=HY.mp z
   .exact⟨me,jc,fa.2.1,fa.2.2.1,g9!⟩
   .rw[b4_];exact⟨gk,fc.1,fc.2.1,fc.2.2.1,g9!⟩
 generalize k_+1=c at *;unfold ksk_rest;refine HR fB_
 first
  |rw[List.forIn_toArray]
  |(rw[<-Array.forIn_toList];simp only[List.toList_toArray])
  |rw[<-Array.forIn_toList]
 refine HR (LF (a0l (E:=vU!) (Q:=λ_ s'=>wpAny e_ X.A.in1.in1 _ P E s') F J hb lp jb (λx R s' Y=>?_) I2 sub pu .nil ek kz (by rw[MO];omega) λs' H' G' qh ub n' I' x' p' k'=>?_) Ba_ λ_ _ z=>z.elim)
 .refine HR (OM (LF Y (λkv s2 hk=>?_) λ_ _ z=>z.elim));show"#7";exact HR (LF hk (λ_ s3 z=>HU z) λ_ _ z=>z)
 .rw[JS]at I';rw[JS,JS]at p';have pc:=I'.pin (c,seqObj "list" qh.toArray n') f5_;have pa:=I'.pin ly! f5_;refine HR (RH pc.1 rfl ?_);rw[ekm]at k' nd;exact d4q nz nd jb gf kz I' x'.sub (Paired.mapP pu λ_ _ z=>z.mono x'.g) p' k' λs3 us' n3 I3 p3 e3=>hP s3 H' G' us' n3 I3 x' p3 pa.2.1 e3
def AG(g:ad!)(ds:c_):Option aL_:=(Nj g ds).bind λks=>if hI_/\f_<64 then some qJ_ else none
def Vf(g:ad!)(fa:e!):Ae->Option D:=λρ=>(fr!).bind λd=>match d with
 |.lst ds=>(AG g ds).map D.lst
 |_=>none
def lW{K:yN!}:∀{ds:c_} {vs:m_} {us:j!},Am K G ds vs->Be vs us->Paired f6_ ds us
 |[],vs,us,r,p=>by cases cX r;cases p;exact .nil
 |d::ds,vs,us,r,p=>by
  obtain⟨v,t,rfl,r1,r2⟩:=bR r;cases p with
  |cons a b=>exact .cons ⟨v,r1,a⟩ (lW r2 b)
def lX{K:yN!}:∀{ds:c_} {us:j!},Paired f6_ ds us->∃vs,Am K G ds vs/\Be vs us
 |_,_,.nil=>⟨[],Am.nil,.nil⟩
 |_,_,.cons ⟨v,r,p⟩ t=>let⟨vs,r2,p2⟩:=lX t;⟨v::vs,Am.cons r r2,.cons p p2⟩
def b2c{us':j!}{n':Nat}{s0:yM!}{H0:Hp}{ds:c_}{Q:VK}(I0:Inv X B Z H0 s0)(I:d_)(sub:I_)(hs:AC_<=a)(pu:Paired cX! ds us')(hz:f_<=sizeLine)(ho:s.heap.get? a=some id_)(hn:iq!)
  (hQ:∀v G' H',Ce G H G' H'->Av X.K G' ci! v->Q v H'):EP X B Z Q P! s:=by
 obtain⟨vs,r,p⟩:=lX pu;have f:=I0.fpOk hs hn;refine⟨dc!,upd H a cJ_,I.track ho p (by rw[<-aI r];exact hz) hn ?_ f.2.1 f.2.2.2.2.1 f.2.2.2.2.2,rfl,hQ _ _ _ (Ce.laid sub hn) ?_⟩
 .exact JL I0.sz hs
 .exact Av.lst (Fj.of bW) (r.mono (λb u e=>by rw[aW (λz=>by rw[z]at e;rw[sub _ _ e]at hn;cases hn)];exact e))
def a1j:bootBuiltins "sorted"=some lD_:=by decide+kernel
def a1v{us:j!}{Q:p!}(hl:s.heap.IsList l cH!)(hz:au_<64)
  (h:wpAny e_ X.A.in1.in1 (ksk_tree ae! ai! false) (λfin s'=>∃v,fin=.done (.ret v)/\Q (.ref ae!) s') E {s with heap:=(lF!).push lF_}):
  wpAny e_ X.A (call lD_ [.ref l] [(Str.ofString "key",.ref f)]) Q E s:=by
 refine call_function_entry_kw kind_sorted plain_sorted entry_sorted (a4y _ _) ?_;unfold Builtin.«sorted»;refine HR (m:=BH!) ab_;refine HR (collect_list hl ?_ BH_);refine HR (SH ?_ BH_);have hsz:(lF!).objs.size=k_+1:=by
  rw[Heap.size_update,size_push']
 have lh:((lF!).push lF_).get? ae!=some lF_:=by
  rw[<-hsz];exact IY _ rfl
 show wpAny _ _ _ _ _ {s with heap:=(lF!).push lF_};rw[hsz];refine HR (JX (wpAny_call_entry_kw slot_list_sort BI! entry_list_sort ?body (b1p _ _)))
 case body=>
  rw[ksk_t1];refine LF h (λfin s' hq=>?_) λ_ _ z=>z;obtain⟨v,rfl,hq⟩:=hq;exact⟨v,rfl,HU ⟨_,rfl,hq⟩⟩
variable{own:List Nat}{fa:Ae->Option D}{e:Expr}{pos p p2 kp:Pos}{x:Str}
def c2l{k:Nat}{ps:r_}{g:ad!}(F:xB_)(J:qF!)(hgx:S!)(zn:Gl X "sorted")(hms:X.mg "sorted"=none)(ha:DE X own e fa)(lp:T_=1:=by rfl)(be:F!:=by decide)
  (he:kn_:=by rfl):
  DE X own (.Call (.Name "sorted" p) [e] [⟨some "key",cN_,kp⟩] pos) (Vf g fa):=⟨by
 obtain⟨hA,fd,h1,h2,h3,h4⟩:=F;intro B s Z H Q I ⟨G,ρ,d,er,e1,kq⟩;obtain⟨d0,e2,e1⟩:=HS.mp e1;cases d0 with
 |lst ds=>
  obtain⟨sw,e3,rfl⟩:=IG.mp e1;obtain⟨ks,e4,e5⟩:=HS.mp e3;have p7:hI_/\f_<64:=by
   by_cases z:hI_/\f_<64
   .exact z
   .rw[IA z]at e5;cases e5
  rw[IL p7]at e5;cases e5;have da:=(aE ha aN he).ok;refine NE (jQ I zn hms a1j ?_ b_ b_);refine callWith_kw (dH (da pos B s Z H _ I ⟨G,ρ,[.lst ds],er,by unfold Ac Ag;rw[e2];rfl,λvs G1 H1 x1 r1=>(⟨G1,x1,r1⟩:∃G1,Ce G H G1 H1/\Am X.K G1 [.lst ds] vs)⟩) λus s1 ⟨vs,H1,I1,r,G1,x1,r1⟩=>?_) BI_ BI_ rfl rfl;refine kws_cons (kZ I1 hgx h3 (kws_nil ?_) be);obtain⟨v,t,rfl,rv,rr⟩:=bR r1;cases cX rr;obtain⟨l,xs,rfl,sq,rx⟩:=bP rv;obtain⟨its,hv,pl,hz⟩:=I1.list (x1.sub.seq sq);cases r with
  |cons ra rb=>
   cases rb;cases ra;show wpAny e_ X.A (call lD_ [.ref l] [(Str.ofString "key",.ref hA)]) _ _ s1;have lz:g0!=f_:=by rw[<-hv.length,<-aI rx]
   obtain⟨nn,sl,ho⟩:=oP pl;refine a1v (us:=its) ⟨_,ho,rfl,nn,rfl⟩ (by rw[lz];exact p7.2) ?_;have keep:∀b o,s1.heap.get? b=some o->(BK!).get? b=some o:=λb o q=>by
    have ap:b<z!:=JB q;exact HX _ ((Heap.get?_update_ne _ _ _ _ (JP ap)).trans ((Heap.get?_push_ne _ _ _ (JP ap)).trans q))
   have hsz:(BJ!).objs.size=z!+1:=by
    rw[Heap.size_update,size_push']
   have lh:(BK!).get? (z!+1)=some BJ_:=by
    rw[<-hsz];exact IY _ rfl
   have I2:=I1.kept (t':=s1.toks) keep;have b8:z!<=z!+1:=QJ _;refine d1q h1 J h2 lp I2 x1.sub (lW rx hv) lh (I1.hok.fresh b8) (λH' q=>I1.fpOk b8 q) e4 p7.1 p7.2 λs3 H3 G3 us3 n3 I3 x3 p3 hn3 zo=>o7!;exact b2c I1 I3 x3.sub b8 p3 qO_ zo hn3 λv G4 H4 x4 r4=>kq v G4 H4 (x1.trans (x3.trans x4)) r4
 |_=>cases e1⟩
end
def b2b{es:ad_}{ep:Nat}(hd:Ar!):W.KdlSrc P w "dict" d d es.length qj_ (λh=>Oo h d es ep) where
 type:=λ_ hm=>hm.typeIs
 there:=λ_ hm=>let⟨_,ho,_⟩:=hm;⟨JB ho,JB ho⟩
 keep:=λ_ _ hm hk=>hm.at λo e=>hk d ai_ o e
 notList:=by decide
 notTuple:=by decide
 hint:=λ_ _ _ _ hm hq=>W.kdl_hint_dict hm.typeIs hq
 iter:=λ_ _ hh hm=>⟨_,_,(λ_ _ hq=>c1i hd hm hq),b4n hh _ d (let⟨_,ho,_⟩:=hm;JP ir_) es ep,⟨eY!,hm.at λo e=>HX _ e⟩⟩
section
variable{X:Cx}{B:List (Addr×Obj)}{Z:St}{G H:Hp}{s:yM!}{A:yg!}{E:Value->Shared->Prop}
def c9p{K:yN!}{kvs:i_}{es:ad_}{acc:O!}(ok:fL!)(hi:qP_):Paired f6_ fK_ ii!:=by
 have ea:ii!=es.map kP_:=by
  apply QG;intro i;rw[JM];by_cases h:i<ag!
  .have h1:i<acc.size:=by rw[hi.1];exact h
   show"!z"
  .rw[rh_,JZ a!];rfl
 rw[ea];have:∀{kvs:i_} {es:ad_},Paired qQ_ kvs es->Paired f6_ fK_ eK_:=λ{kvs es} h=>by
  induction h with
  |nil=>exact .nil
  |cons a _ ih=>exact .cons a ih
 exact this qR!
def Nn(d:D):Int×Int:=(Mp d).getD (0,0)
def Xe(ds:c_):Option aL_:=if lL!=true/\(l6!).Nodup/\f_<64 then some l6_ else none
def d1p{us:j!}{ds:c_}{n:Nat}{P:lx_}(I:d_)(sub:I_)(pu:qJ!)(ha:BB!)(jc:iq!)
  (gf:Ga X B H a)(ek:lL!=true)(nd:(l6!).Nodup)(nz:f_<64)
  (hP:∀s' us' n',Inv X B Z H s'->Paired cX! l6_ us'->s'.heap.get? a=some id_->P ie! s'):
  wpAny e_ A (Builtin.«list.sort» nS_) P E s:=by
 have l1:au_=f_:=(gL pu).symm;obtain⟨e1,ud⟩:∃e1,(s.heap.update a (Obj.mapSeq λ_=>(#[]:Array Value))).get? a=some (seqObj "list" #[] e1):=BB_;rw[list_sort_plain];refine HR BC!;refine HR BD!;refine HR BC_;refine HR BD_;refine HR (SH ?_ bZ_);refine JX ?_;show wpAny _ _ _ P E {s with heap:=(ct!).push ct_};have I1:Inv X B Z H {s with heap:=(ct!).push ct_}:=
  iM (wr:=[a]) (t':=s.toks) I qR_ λb o hb q=>HX _ BE_
 have me:(qL_).get? a=some qH_:=HX _ (HX _ ud);generalize (ct!).push ct_=h3 at I1 me ⊢;have pk:∀d∈ds,Mp d=some (Nn d):=λd hd=>by
  have:=MB.mp ek d hd;unfold Nn;cases q:Mp d with
  |none=>rw[q]at this;cases this
  |some z=>rfl
 have z:Paired qS! us ds:=by
  have gen:∀{ds:c_} {us:j!},Paired cX! ds us->(∀d∈ds,Mp d=some (Nn d))->Paired qS! us ds:=λ{ds us} h=>by
   induction h with
   |nil=>exact λ_=>.nil
   |cons r _ ih=>exact λhk=>.cons (a6k I1 sub r (hk _ (IH ..))) (ih λd hd=>hk d (HZ _ hd))
  exact gen pu pk
 have mem:=wS z pu;have jz:(f9_).toList=(eL_).map c!:=by
  rw[ksk_zip,Bt!]
 have hd:(eL_).map C!=ds:=List.map_snd_zip qK!;have fin:∀{L':lw_} {st:SortSt},L'.Perm eL_->(B!).toList=L'.map c!->L'.map C!=Jk Nn ds->failedOf st=none->
   P ie! {s with heap:=h3.update a (Obj.mapSeq λ_=>(B!).map C!)}:=λ{L' st} b1 b2 b3 b4=>by
  have zm:(B!).map C!=(qT_).toArray:=by
   apply Bt_;rw[Array.toList_map,b2,JV];rfl
  rw[zm];refine hP _ _ _ (iM (s:={s with heap:=h3}) (wr:=[a]) (t':=s.toks) I1 qR_ λb o hb q=>(BE!).trans q) ?_ (RA me λ_=>(qT_).toArray);rw[<-b3];exact jL λq hq=>(mem q (b1.mem_iff.mp hq)).2
 have WJ:∀{L':lw_} {st:SortSt},L'.Perm eL_->(B!).toList=L'.map c!->((B!).map C!).size<=sizeLine+1:=λ{L' st} b1 b2=>by
  rw[Array.size_map,<-KH,b2,IP,b1.length_eq,LA,LA,KJ];omega
 by_cases h2:kr_<2
 .rw[IL h2,IL h2];refine HR ab_;show"#7";rw[StateT.run_pure];refine HR ab_;show"#7";refine HR qU_;refine HR (PN me rfl ?_ bZ_ (WJ (L':=(ga!).zip ds) (PB _) jz));simp only[failedOf,RX,JH,JT];refine HU (fin (L':=(ga!).zip ds) (st:=SortSt.mk' general' f9_ #[] 7 none) (PB _) jz ?_ rfl);rw[hd];rw[IF,l1]at h2
  match ds,h2 with
  |[],_=>rfl
  |[x],_=>rfl
  |_::_::r,h2=>simp at h2;omega
 .rw[IA h2,IA h2];rw[IF]at h2;refine HR (a7i (vs:=us) Bu! (λz=>by rw[z]at h2;simp at h2) ?_)
  .show"!f"
  .have hsz:(f9_).size=f_:=by rw[<-KH,jz,IP,LA,LA];omega
   have hk:∀q∈(ga!).zip ds,Hw h3 q.1.1 (Nn q.2).1 (Nn q.2).2:=λq hq=>(mem q hq).1;have f8:(ga_).Nodup:=by rw[hd];exact nd
   refine HR (LF (b7y (kd:=Ym true) (a0:=us.toArray.zip cH!) (r:=λp=>Jl ga_ (Lu h3 p.1)) (Q:=λ_ hx=>(y_).Perm f9_/\failedOf hx=none/\Up (λp=>Jl ga_ (Lu h3 p.1)) y_ (f9_).size)
    (Bx!) Bx_ By! By_ λhx a1 a2 a3=>Bz!) ?_ λ_ _ e=>e)
   .rw[jz]at Y hy;obtain⟨p,hp,rfl⟩:=IS.mp Y;obtain⟨q,a7,rfl⟩:=IS.mp hy;refine xI lA_ lB! ?_;have mm:∀p∈(ga!).zip ds,Nn p.2∈((eL_).map C!).map Nn:=λp hp=>IJ (IJ hp);have hh:decide qV!=Kw (Nn p.2) (Nn q.2):=by
     show"#B"
    have uc:Q (decide qV!) {s with heap:=h3}:=hq;rw[hh]at uc;exact uc
   .show"!F";refine HR qU_;refine HR (PN me rfl ?_ bZ_ (WJ b1 b2));rw[a2];simp only[RX,JH,JT];exact HU (fin b1 b2 BA_ a2)
def Xh(f:List V->VK->Hp->Prop):List V->Hp->VK->Prop:=λxs H Q=>∃d es ep ys,xs=[.ref d]/\H d=some dE_/\Be ys eK_/\f ys Q H
def tX{es:ad_}{acc:O!}(hi:qP_):ii!=es.map kP_:=by
 apply QG;intro i;rw[JM];by_cases h:i<ag!
 .have h1:i<acc.size:=by rw[hi.1];exact h
  show"!z"
 .rw[rh_,JZ a!];rfl
def zF(L:aD_):Jd X a9_ qW!:=by
 intro B s Z H xs us Q I r ⟨d,es,ep,ys,e1,e2,hv,k⟩;subst e1;cases r with
 |cons ra rb=>
  cases rb;cases ra;obtain⟨⟨h3,h4,h5⟩,_⟩:=qW_;refine W.kdl_call (b2b h4) a4! h3 fP_ λh' tk acc c hk hs hi=>?_;have hn:H k_=none:=I.hok.fresh x_;have f:=I.fpOk (H':=H) x_ hn;refine⟨df!,upd H s.heap.objs.size a9!,?_,rfl,k _ hn⟩;have ia:=tX hi;refine(I.kept (t':=tk) hk).track (us:=ii!) (n:=c) (by rw[Array.toArray_toList];exact hs) (by rw[ia];exact hv) ?_ hn I.sz f.2.1 f.2.2.2.2.1 f.2.2.2.2.2;rw[hv.length,IP];exact cS h5
def Rf(M:Mh):List D->Option D
 |[d]=>(Ee M d).map λq=>.lst h6_
 |_=>none
def a0k{K:yN!}{kvs:i_}{es:ad_}(ok:fL!):∃ys,Am K G fK_ ys/\Be ys eK_:=by
 have:∀{kvs:i_} {es:ad_},Paired qQ_ kvs es->Paired f6_ fK_ eK_:=λ{kvs es} h=>by
  induction h with
  |nil=>exact .nil
  |cons a _ ih=>exact .cons a ih
 exact lX (this qR!)
def c2s{K:yN!}:Sk P w K qW! Rf:=by
 show"!S";unfold Rf at e;show"!6"
 .obtain⟨q,e1,rfl⟩:=IG.mp e;show"!>";exact⟨q.1,es,q.2.2,ys,rfl,h1,g2,λl hl=>k _ _ _ zF! (cM (sub.free hl) g1)⟩
 .cases e
def Xg(K:yN!):List V->Hp->VK->Prop:=λxs H Q=>∃G ds,Bj G H/\(∃d es ep,xs=[.ref d]/\H d=some dE_/\Paired f6_ ds eK_)/\lL!=true/\(l6!).Nodup/\f_<64/\∀v G' H',Ce G H G' H'->Av K G' (.lst l6_) v->Q v H'
def zE(L:aD_):Jd X lD_ (Xg X.K):=by
 intro B s Z H xs us Q I r ⟨G,ds,sub,⟨d,es,ep,e1,e2,hv⟩,q1,q2,q3,k⟩;subst e1;cases r with
 |cons ra rb=>
  cases rb;cases ra;obtain⟨⟨h3,h4,h5⟩,_⟩:=qW_;have lz:ag!=f_:=by rw[gL hv,IP]
  refine Calls.call_function_entry kind_sorted plain_sorted entry_sorted (args_sorted1 _) ?_;unfold Builtin.«sorted»;refine HR (m:=BH!) ab_;refine HR (W.kdu_collect (b2b h4) a4! h3 fP_ λh' tk acc hk hi=>?_);have ia:=tX hi;refine HR (SH ?_ (by rw[ia,IP,KJ];omega));rw[ia];have I1:=I.kept (t':=tk) hk;have lh:(h'.push il_).get? lQ_=some il_:=IY _ rfl;have I2:Inv X B Z H {s with heap:=h'.push il_,toks:=tk}:=I1.kept (t':=tk) λb u q=>HX _ q;have hn:H lQ_=none:=I1.hok.fresh x_;refine HR (JX (JR slot_list_sort BI! entry_list_sort ?body (args_list_sort _)))
  case body=>
   refine d1p (s:={s with heap:=h'.push il_,toks:=tk}) I2 sub hv lh hn (I1.fpOk x_ hn) q1 q2 q3 λs3 us3 n3 I3 p3 zo=>⟨_,rfl,HU o7!⟩;exact b2c I1 I3 sub x_ p3 qO_ zo hn k
def Sm(M:Mh):List D->Option D
 |[d]=>(Ee M d).bind λq=>(Xe h6_).map D.lst
 |_=>none
def c2r{K:yN!}:Sk P w K (Xg K) Sm:=by
 show"!S";unfold Sm at e;show"!6"
 .obtain⟨q,e1,e⟩:=HS.mp e;obtain⟨l,e2,rfl⟩:=IG.mp e;unfold Xe at e2;split at e2
  .rename_i hz;cases e2;show"!>";exact⟨G,_,sub,⟨q.1,es,q.2.2,rfl,h1,lW g1 g2⟩,hz.1,hz.2.1,hz.2.2,k⟩
  .cases e2
 .cases e
end
def Uz(M:Mh):D->D
 |.fn a=>match M a with|some (.lst xs)=>.lst xs|_=>.fn a
 |d=>d
def Ob(M:Mh)(x y:D):Option D:=Ep (Uz M x) (Uz M y)
def b2o{P:yJ!}{w:ys!}{K:yN!}{M:Mh}{G H:Hp}(sub:I_)(m:co_)(r:cK_):Av K H (Uz M d) v:=by
 cases d<;>first|exact r.mono sub|skip
 rename_i a;simp only[Uz];split
 .rename_i xs hM;show"!q";cases fX r;exact Av.lst (Fj.of h1) (h2.mono sub)
 .exact r.mono sub
def iH{P:yJ!}{w:ys!}{K:yN!}:Yg P w K (AI K) Ob:=by
 show"!`";unfold Ob Ep at e;show"!6"
 .show"!r";cases e;exact⟨_,_,b2o sub m rx,b2o sub m ry,h.1.1,h.1.2,h.2,er_⟩
 .cases e
def Dc(K:yN!)(C:xY!)(m qual:Str)(st:Stmt)(ps:r_):Prop:=∃hA fd,Yb K m qual st hA fd/\Ez K fd ps []/\Ws K C m hA
def Ur(K:yN!)(mg:A!)(x:Str)(C:xY!)(qual:Str)(st:Stmt)(ps:r_):Prop:=mg x=some ax_/\∃hA fd,Yb K "__init__" qual st hA fd/\Ez K fd ps []/\Mk K C hA
section
variable{P:yJ!}{w:ys!}{K:yN!}{mg:Str->Option Value}{base h:Heap}{x qual:Str}{st:Stmt}{N ps:List Str}{k:Nat}{σ:List Nat}{q:WS}{C:xY!}
def bX(d:yr_)(S:ec!)
  (hb:∀{hA:xY!} {af:yh!} {A:yg!} {outer:av_} {s:yM!} {H:Hp} {E:XK},Al k ph_->Vj (pi!).nox [] σ bT! q):
  Kd P w K mg base T! x ps ll!:=by
 obtain⟨hA,fd,F,hc,m⟩:=d;exact⟨hA,fd,lR!,hc,m,F.kp⟩
def cK(c:Us K C)(d:Dc K C x qual st ps)(S:ec!)
  (hb:q4_):
  Dq P w K mg base T! C x ps ll!:=by
 obtain⟨hA,fd,F,hc,m⟩:=d;exact⟨c,hA,fd,m,lR!,hc⟩
def a2t(d:Ur K mg x C qual st ps)(S:ec!)
  (hb:q4_):
  Wr P w K mg base T! x C ps ll!:=by
 obtain⟨m,hA,fd,F,hc,mk⟩:=d;exact⟨m,hA,fd,mk,lR!,hc⟩
def dJ{od an:a7!}{dw:cc_}{kV:yh!}
  (a:W.findIn K ax_ x=some e5!)(i:m3_)(l:vA!)
  (c:jk!)(k:g4!)
  (b:vz_):Dc K C x qual st ps:=
 ⟨f,_,kK!,pj!,⟨a,i,k⟩⟩
def c0j{od an:a7!}{dw:cc_}{kV:yh!}(m:mg x=some ax_)
  (a:s8_)(i:m3_)(l:K.lookup f=some ⟨oc,od,.func q5!,dw⟩)
  (c:jk!)(k:g4!)(mm:s8!)(kc:W.keepIn K ax_=true)
  (b:∀(kV bo pm:yh!) (an:a7!) (af ct:yh!) (us:j!),au_=T_->bindArgs q5! de!=pure dd!):Ur K mg x C qual st ps:=
 ⟨m,f,_,kK!,pj!,⟨mm,a,i,kc⟩⟩
def c5e(hd:BB K mg x st [y])(S:Aj N [y] bE!)(gf:mg x=some fh!)
  (hb:∀(base:Heap) (hA:xY!) (af:yh!) (A:yg!) (outer:av_) (s:yM!) (H:Hp) (E:XK),Al k ph_->Vj (pi!).nox [] σ bT! q):
  ∃fd:FuncData,(∀(s:yM!) (u:yh!),BindsTo s fd jG_ [(y,u)])/\∀base:Heap,K.In base->base.Ns mainGlobals mg->Fm P w K mg base Pz T! fa fd [y] (Ye P w K 1 (Bw N 1 q)):=by
 obtain⟨f,fd,F,hc,m⟩:=hd;rw[gf]at m;cases m;exact⟨fd,λs u=>.of_eq (hc [u] rfl),λbase _ _=>vD F S λaf A outer s H E J=>hb base _ af A outer s H E J⟩
def oH{α:Type}{p:ge!}(h:∀a,p [a]):∀us:List α,au_=1->p us
 |[a],_=>h a
def kG{α:Type}{p:ge!}(h:∀a b,p aj_):∀us:List α,au_=2->p us
 |[a,b],_=>h a b
def us3{α:Type}{p:ge!}(h:∀a b c,p eN!):∀us:List α,au_=3->p us
 |[a,b,c],_=>h a b c
def us4{α:Type}{p:ge!}(h:∀a b c d,p [a,b,c,d]):∀us:List α,au_=4->p us
 |[a,b,c,d],_=>h a b c d
def us5{α:Type}{p:ge!}(h:∀a b c d e,p [a,b,c,d,e]):∀us:List α,au_=5->p us
 |[a,b,c,d,e],_=>h a b c d e
def M0:Mh:=λ_=>none
def c5d{g:WF}{H:Hp}{ns:w!}(hS:Fj K H a ce!)(hg:g lU! M0 λd _=>d=.bl true):Ye P w K 1 g bi_ H jH! λ_ _ _=>False:=
 ⟨rfl,H,lU!,M0,_,Bj.refl H,⟨λa c e=>by cases e⟩,Am.cons (Av.lst hS (a0q ns)) Am.nil,hg,λd M' v G' H' r _ _ q=>by subst r;exact cV q⟩
end
end DL
namespace L2
open PySem PySem.Spec PyProof.Rows
def c4d{X:Cx}{i:Nat}{tg:Expr}{scope:Scope}{pos:Pos}{NL:r_}{ix:k!}{wi:TI}{g:TG}{tt:TT}{te:TE}
  (hN:bv_)(b9:an!)(Y:bw!)
  (cj:dj!)(cf:dj_)(j8:∀y∈ch!,y.2=.local->scope.names.lookup y.1=some .local)
  (ij:g9_)(cap:di_)(calm:aD_)(al:mH!)
  (hg:ha!)(hi:vY_)(he:vZ!)
  (hs:c9!:=by intro _;rfl)
  (kg:swapsWith ip! (some iJ_) pos.line X.env=pure true:=by rfl)
  (hf:X.fn x=true\/X.env.scope.names.lookup x=some .local:=by first|exact .inl rfl|exact .inr rfl|assumption):
  PS X (.Assign [.Name x ik] ip! pos) (AE vZ_ eW!):=by
 intro B s Z H D I h;show"!Q"
 rw[exec_Assign_Name_used x ik _ pos kg];refine HR (RB gF_);unfold evalThenUse;refine HR (wpAny_comprehension_free (use:=some _) rfl hs b7.eq cj j8 v0!);obtain⟨it,fp,tn,ab,H2,e,I2,T,bg,f2,hw⟩:=h2;subst e;refine a1e (RR:=λacc C=>compPost e_ X.A X.xe (some _) _ acc C) cj cf b7 cap calm (hg cl) (hi cl) (he cl) I2 T bg f2 hw λD' C us n ys H' s' I' eD rv ao nD hD hC jm nC ⟨m,hn⟩ fin=>?_;have fq:∀b,b<N!->b≠C/\b≠D':=λb hb=>v1!;have px:∀x c,X.env.cells.lookup x=some c->c<N!:=λx c h=>let⟨_,_,ho,_⟩:=I2.cell x c h;JB ho;have sh:∀p∈X.pn++B,p.1<N!:=λp hp=>JB (I2.pin p hp).1;have ID:=I'.track (D:=D') (us:=us) (n:=n) eD rv ao nD (JL I2.sz hD) (IB (ha_).2) v5! λp hp=>(jY_).2;show wpAny e_ X.A (assign iJ_ X.env (.ref D')) _ _ s';refine HR (m:=standAt ik) (RB ?_);refine wpAny_bindName (zK ID hN b9 Y (v:=.ref D') rfl (λs3 I3 ⟨a,sb,ha⟩=>?_) hf);have haC:a≠C:=by
  obtain rfl|ha:=ha
  .exact(ha_).1
  .exact(fq _ (px _ _ ha)).1
 refine⟨m,hn.sameBut sb (IB haC),λh' bu=>?_⟩;have nC':upd H' D' a9! C=none:=by rw[aW (IB jm)];exact nC
 have IC:Inv X B (Z.set i (some (.ref D'))) (upd H' D' a9!) {s3 with heap:=h',toks:=s3.toks}:=I3.turned (it:=C) v2! nC' (IB (ha_).1) v2_ v4_ λp hp=>(jY_).1;exact HU (HU ⟨_,_,IC,fin D' nD⟩)
end L2
namespace DL
open PySem PySem.Spec PyProof.Rows L2
section
variable{X:Cx}{own:List Nat}{tg:Expr}{fi:WI}{ft:WT}
def nN{i:Nat}{scope:Scope}{pos p2:Pos}{NL:r_}{ix:k!}{g:TG}{bnd:af_}{fe:WE}
  (hN:bv_)(b9:an!)(Y:bw!)
  (cj:dj!)(cf:dj_)(j8:∀y∈ch!,y.2=.local->scope.names.lookup y.1=some .local)
  (ij:g9_)(cap:di_)(m9:j3!)(calm:aD_)(al:qd_)
  (hg:ha!)(ng:oK_)(hi:Ai_)(he:Aj!)
  (bp:bn_:=by decide)(hs:c9!:=by intro _;rfl)
  (kg:swapsWith ip! (some dr!) pos.line X.env=pure true:=by rfl)
  (hf:X.fn x=true\/X.env.scope.names.lookup x=some .local:=by first|exact .inl rfl|exact .inr rfl|assumption):
  MS X own own (.Assign [cN_] ip! pos) (Ao i Aj_):=
 pY (c4d hN b9 Y cj cf j8 ij cap calm al.ok hg hi w6! hs kg hf) λM0 G0 F0 E Z G H ρ M R sr e k1 k2=>⟨G,ρ,M,_,sr.st,e,λds ck M1 ab G1 H1 r1 x1 m1 fw=>by
  obtain⟨hb,r1⟩:=r1;have j7:=sr.st.grow x1 m1;refine b4e hb fw ng Ak! r1 λjo ys M' G' H' r x m q _ p hp=>?_;exact k1 _ M' _ _ _ r ((((z8!).grow x m).grow (.ext hr_) (m.ext hr_)).set bp (cM oL! q))⟩
end
end DL
namespace DL
open PySem PySem.Spec PyProof.Rows L2
abbrev En(h:Heap)(e it:xY!)(f:yh!)(b:Bool)(i:Int)(ac:yh!):Prop:=
 h.get? e=some {cls:=.type "enumerate",dict:=none,data:=.fields #[f,.bool b,.ref it,rawInt i,.none,ac],slots:=#[]}
section
variable{prog:yJ!}{w:ys!}{A:yg!}{E:Value->Shared->Prop}{s:yM!}
def a5e{Q:Option Obj->Shared->Prop}(h:Q (s.heap.get? a) s):wpAny q_ A (loadIfAlive a) Q E s:=λΓ p hG=>h
def a8b{i T:Nat}{b:Bool}{items:O!}{Q:p!}
  (he:En s.heap e it dK_ b i ac)(hT:s.heap.get? T=some oT)(hTi:T≠it)(hTe:T≠e)(al:lX!)(hl:lX_)(Y:rb!)(bf:h7!)
  (hQ:∀h',En h' e it dK_ true fY_ ac->h'.IsListIter it l X!->
   h'.get? k_=some {cls:=.type "tuple",data:=.seq #[.int i s.toks,x]}->lQ_=k_+1->
   rb_->Q bA! {s with heap:=h',toks:=s.toks+1}):
  wpAny q_ A (Builtin.«enumerate.__next__» ⟨[.ref e],[]⟩) xV! E s:=by
 show"#F";show wpAny _ _ rc_ _ _ _;refine HR rd!;refine HR (wpAny_nextOf_list_item al hl Y λh₁ WK qi=>?_)
 replace qi:Heap.SameBut it hp h₁:=qi
 have wg:En h₁ e it dK_ b i ac:=(qi.2 e bf).trans he;show wpAny _ _ (field aZ! 3>>=_) _ _ lY!;refine HR (KL wg rfl (x:=rawInt i) rfl ?_);show wpAny _ _ (field aZ! 4>>=_) _ _ lY!;refine HR (KL wg rfl (x:=.none) rfl ?_);show wpAny _ _ (mkInt i>>=_) _ _ lY!;refine HR (wpAny_mkInt ?_);show wpAny _ _ (setField aZ! 3 qj!>>=_) _ _ ⟨h₁,g,d,tk+1,os⟩;refine HR (LL wg d! λiu wj qj=>?_)
 replace qj:Heap.SameBut e h₁ iu:=qj
 replace wj:En iu e it dK_ b fY_ ac:=wj
 show wpAny _ _ (setField aZ! 4 .none>>=_) _ _ ⟨iu,g,d,tk+1,os⟩;refine HR (LL wj d! λio wk qk=>?_)
 replace qk:Heap.SameBut e iu io:=qk
 replace wk:En io e it dK_ b fY_ ac:=wk
 show wpAny _ _ (newTuple [.int i tk,x]>>=_) _ _ ⟨io,g,d,tk+1,os⟩;refine HR (RZ ?_);have ue:En (io.push {cls:=.type "tuple",data:=.seq #[.int i tk,x]}) e it dK_ b fY_ ac:=HX _ wk;generalize uf:io.push {cls:=.type "tuple",data:=.seq #[.int i tk,x]}=jn at ue;have hsz:io.objs.size=gf!:=by rw[qk.1,qj.1,qi.1]
 have hel:e<gf!:=JB he;have ht₄:jn.get? gf!=some {cls:=.type "tuple",data:=.seq #[.int i tk,x]}:=by rw[<-uf,<-hsz];exact IY _ rfl
 have hz₄:jn.objs.size=gf!+1:=by rw[<-uf,OA,hsz]
 have WL:∀b o,b≠e->b≠it->hp.get? b=some o->jn.get? b=some o:=λb o gj zp hb=>by
  rw[<-uf];exact HX _ (qk.extBut b o gj (qj.extBut b o gj (qi.extBut b o zp hb)))
 have hit₄:jn.IsListIter it l X!:=by
  rw[<-uf];obtain⟨o,ho,r⟩:=(WK.extBut qj.extBut (IB bf)).extBut qk.extBut (IB bf);exact⟨o,HX _ ho,r⟩
 have hT₄:=WL T oT hTe hTi hT;show wpAny _ _ (Builtin.SmallTypes.ownedTupleIsFree aZ!>>=_) _ _ ⟨jn,g,d,tk+1,os⟩;rw[hsz];clear uf wk qk wj qj wg qi WK hsz io iu h₁;refine HR ?_;unfold Builtin.SmallTypes.ownedTupleIsFree;refine HR (KL ue rfl (x:=rawInt T) rfl ?_);show wpAny _ _ (loadIfAlive (((T:Nat):Int).toNat)>>=_) _ _ _;rw[NI];refine HR (a5e ?_);show wpAny _ _ (if(jn.get? T).isNone=true then _ else _) _ _ _;rw[hT₄];show wpAny _ _ (field aZ! 1>>=_) _ _ _;refine HR (KL ue rfl (x:=.bool b) rfl ?_);have fin:∀j6,En j6 e it dK_ true fY_ ac->Heap.SameBut e jn j6->Q (.ref gf!) ⟨j6,g,d,tk+1,os⟩:=λj6 zq ql=>
  hQ j6 zq (hit₄.extBut ql.extBut (IB bf)) (ql.extBut _ _ (OO hel) ht₄) (by rw[ql.1,hz₄]) λb o gj zp hb=>ql.extBut b o gj (WL b o gj zp hb)
 cases b with
 |true=>exact HU (HU ⟨_,rfl,fin jn ue ⟨rfl,λ_ _=>rfl⟩⟩)
 |false=>
  show wpAny _ _ (setField aZ! 1 fg_>>=_) _ _ _;exact HR (LL ue d! λj6 zq ql=>HU (HU ⟨_,rfl,fin j6 zq ql⟩))
def c6a(a:xY!)(xs:O!)(name:Str)(u:Tok)(WM:typeLookup l1! name=pure none)(hname:(["__module__","__name__","__qualname__","__doc__","__annotations__"]:List Str).contains name=false)(hsz:name.length+100<=sizeLine):
  Meets (Builtin.«object.__getattribute__» ⟨[dc!,.str name u],[]⟩) (λA R s=>s.heap.get? a=some {cls:=.type "enumerate",dict:=none,data:=.fields xs,slots:=#[]}/\raisesAttr P! name A R s):=
 Meets.of_wp λprog w A R s hs=>by
  show"#F";obtain⟨Y,hs⟩:=hs;have hT:(fD_:yM!).TypeIs P! "enumerate":=⟨_,Y,rfl⟩;unfold Builtin.«object.__getattribute__»
  repeat (any_goals (first|assumption|wp_step))
  simp only[hname,JH,JT]
  repeat (any_goals (first|assumption|wp_step))
  exact wpAny_raiseAttrError hs.1 hs.2 (attrMsg_fits l! hsz)
def c2b:entryFor table "enumerate.__getattribute__"=some Builtin.«object.__getattribute__»:=
 entryFor_alias (id':="object.__getattribute__") l3! l! l! l3!
def b1b{xs:O!}{Q:cQ!}(Y:s.heap.get? a=some {cls:=.type "enumerate",dict:=none,data:=.fields xs,slots:=#[]})(O:cC_)
  (h:∀h' tk,(∀b o,s.heap.get? b=some o->h'.get? b=some o)->Q none {s with heap:=h',toks:=tk}):wpAny q_ A (getAttr? P! "keys") Q E s:=by
 show"#F";have hT:∀WN,(⟨hp,g,d,WN,os⟩:yM!).TypeIs P! "enumerate":=λ_=>⟨_,Y,rfl⟩;have WM:typeLookup l1! "keys"=pure none:=am_miss_of_fast l!;have f1:=sub_AttributeError;have f3:=PP.lookup;have f4:=PP.bind P!;have f5:typeLookup l1! "__getattr__"=pure none:=F.plainAttrs_enumerate.noGetattr;unfold getAttr? getAttrBy? getAttrBy
 repeat (any_goals (first|assumption|exact hT _|((with_reducible show wpAny _ _ (call (Value.builtin "enumerate.__getattribute__") _ _) _ _ _);refine RT PP (hT _) c2b (F.args_enumerate_getattribute_2 _ _) (c6a a xs _ _ WM l! hB!) ⟨Y,O,λh' WN e ic=>?_⟩)|wp_step))
 obtain⟨t',u',he⟩:=ic.there;show wpAny _ _ (getattributeRaised _ _ _ _ _ _ _) _ _ _;unfold getattributeRaised
 repeat (any_goals (first|assumption|wp_step))
 exact h _ _ ic.keeps
end
def a1b:entryFor table "dict.update.loop"=some Builtin.«dict.update.loop»:=entryFor_of_tree l3!
def a1a:plainId "dict.update.loop"=true:=by decide+kernel
section
variable{X:Cx}{B:List (Addr×Obj)}{Z:St}{G H:Hp}{M:Mh}{s:yM!}{A:yg!}{R:Result->Shared->Prop}{e it c l:xY!}{vs:List V}{xs:List D}
def BI(X:Cx)(B:o_)(H:Hp)(h:Heap)(e it:xY!)(i:Nat):Prop:=
 AD_\/∃T b ac o,En h e it (rawInt (T:Nat)) b i ac/\h.get? T=some o/\(∀v,o.data≠.cell v)/\T≠it/\T≠e/\Ga X B H T
def c1z{i:Nat}{items:O!}{E:p!}{Q:cQ!}(I:d_)(st:ri!)(al:lX!)(hl:lX_)(Y:rb!)(bf:h7!)
  (hQ:∀h',BI X B H h' e it X!->h'.IsListIter it l X!->h'.get? k_=some {cls:=.type "tuple",data:=.seq #[.int i s.toks,x]}->
   (∀b o,b∉bK!->s.heap.get? b=some o->h'.get? b=some o)->Q (some bA!) {s with heap:=h',toks:=s.toks+1}):
  wpAny e_ A (pyNext aZ!) Q E s:=by
 have kp:∀{h':Heap},rb_->∀b o,b∉bK!->s.heap.get? b=some o->h'.get? b=some o:=λk b o hb eo=>k b o ri_ ri_ eo;obtain⟨ac,he⟩|⟨T,b,ac,o,he,hT,hd,h1,h2,hf⟩:=st
 .have ne1:k_≠e:=λz=>LP _ (z▸JB he);have ym:k_≠it:=λz=>by
   obtain⟨o,q,_⟩:=al;exact LP _ (z▸JB q)
  exact wpAny_pyNext_enum_item he al hl Y bf λh' a b c d k=>hQ h' (.inr ⟨_,_,_,_,rj!,c,λv z=>(by cases z),ym,ne1,I.fpOk x_ fa_⟩) b c (kp k)
 .have WO:s.TypeIs aZ! "enumerate":=rm!;exact HR (OM (KB (name:=fB!) WO PM
   (JR PM WO F.entry_enumerate_next
    (a8b he hT h1 h2 al hl Y bf λh' a b c d k=>HU (hQ h' (.inr ⟨T,_,_,o,rj!,k T o h2 h1 hT,hd,h1,h2,hf⟩) b c (kp k))) rn!)))
def c5z{i:Nat}{items:O!}{E:p!}{Q:cQ!}(hh:cC_)(st:ri!)(al:lX!)(hl:lX_)(Y:items[i]?=none)
  (hQ:Ay_):wpAny e_ A (pyNext aZ!) Q E s:=by
 have hg:∃f b ac,En s.heap e it f b i ac:=by
  obtain⟨ac,he⟩|⟨T,b,ac,o,he,_⟩:=st
  .exact rn_
  .exact rn_
 obtain⟨f,b,ac,he⟩:=hg;have hT:s.TypeIs aZ! "enumerate":=rm!;refine HR (OM (KB (name:=fB!) hT PM
  (JR PM hT F.entry_enumerate_next ?_ rn!)))
 show wpAny _ _ rc_ _ _ _;refine HR rd!;refine HR (wpAny_nextOf_list_end hh al hl Y λh' x ce ic=>?_);obtain⟨o,ho,L⟩:=ic;refine HR (wpAny_isInstance (T:=o7_) (b:=true) ⟨o,ho,L⟩ isSubtype_stop ?_);exact HU (hQ _ ce)
def c2a{i:Nat}{h:Heap}(st:BI X B H h e it i)(al:h.IsListIter it l i)(hf:ro!):
  ∃fp:List Addr,(∀b∈bK!,b∈fp)/\mz!/\(∀b∈fp,∃o,h.get? b=some o/\∀v,o.data≠.cell v)/\∀(h2:Heap) (H2:Hp),(∀b∈fp,∀o,h.get? b=some o->h2.get? b=some o)->(∀b∈fp,Ga X B H2 b)->BI X B H2 h2 e it i:=by
 obtain⟨oi,q1,_,q2⟩:=al;have hi:∃o,h.get? it=some o/\∀v,o.data≠.cell v:=⟨oi,q1,λv z=>by rw[q2]at z;cases z⟩;obtain⟨ac,he⟩|⟨T,b,ac,o,he,hT,hd,h1,h2,hfT⟩:=st
 .refine⟨bK!,λb hb=>hb,hf,aS!,λh2 H2 k _=>.inl ⟨ac,k e d! _ he⟩⟩;simp only[HY,JK,LC]at hb;obtain rfl|rfl:=hb
  .exact rp!
  .exact hi
 .refine⟨[T,e,it],λb hb=>HZ _ hb,aS!,aS!,λmd H2 k k2=>.inr ⟨T,b,ac,o,k e d! _ he,k T d! _ hT,hd,h1,h2,k2 T d!⟩⟩
  .obtain rfl|hb:=HY.mp hb
   .exact hfT
   .exact hf b hb
  .simp only[HY,JK,LC]at hb;obtain rfl|rfl|rfl:=hb
   .exact⟨o,hT,hd⟩
   .exact rp!
   .exact hi
def b6z{i:Nat}(hi:i<i!):rs!=ix!++[(D.int (i:Nat),xs[i])]:=by rw[ND hi,List.zipIdx_append,JF,LJ,QX a!];simp
def b1s{i:Nat}:D.int (i:Nat)∉(ix!).map c!:=λz=>by
 rw[JV]at z;obtain⟨q,hq,e⟩:=IS.mp z;have:=List.snd_lt_of_mem_zipIdx hq;have h2:=D.int.inj e;rw[LJ]at this;omega
def c2d(L:aD_)(O:cC_)(hu:A.in1.units<cLine)(bf:h7!)(hq:∀{H:Hp},Bj G H->Fj X.K H l vs)(rl:rt!)(hl:i!<=1000):∀(n i:Nat) (j:Int) (s:yM!) (H:Hp) (M:Mh),i! - i=n->i<=i!->Inv X B Z H s->MR X.prog X.w X.K M G H->Bj G H->M c=some (.dct ix! i)->
  (∀b∈bK!,Ga X B H b)->BI X B H s.heap e it i->s.heap.IsListIter it l i->
  (∀H' s',Inv X B Z H' s'->XM M G H (Az M c bL!) G H'->MR X.prog X.w X.K (Az M c bL!) G H'->R (.ok (.ret .none)) s')->
  codeAny e_ A (.builtin "dict.update.loop" ⟨[.ref c,.ref e,rawInt j,.none],[]⟩) R s:=by
 intro n
 induction n with
 |zero=>
  intro i j s H M hn hi I m sub hM hf st al hR;obtain⟨its,rv,pl,hz⟩:=I.list (hq sub);have h1:=aI rl;have h2:=eX_;refine codeAny_builtin a1b ?_;refine HR (c5z O st al pl.isList bh_ λh' eb=>?_);have I':Inv X B Z H {s with heap:=h',toks:=s.toks}:=iM (wr:=bK!) I hf λc o L eo=>eb c o iu_ eo;have Y:Az M c bL!=M:=by
   have ei:i=i!:=by omega
   subst ei;rw[List.take_length]at hM;show"#@";split
   .rename_i z;rw[z,hM]
   .rfl
  have:=hR H _ I';rw[Y]at this;exact HR (HU (HU (this (.refl sub) m)))
 |succ n ih=>
  intro i j s H M hn hi I m sub hM hf st al hR;obtain⟨its,rv,pl,hz⟩:=I.list (hq sub);have b9:i<i!:=by omega
  obtain⟨v,gv,rvx⟩:=hJ rl (IM b9);obtain⟨u,oj,ru⟩:=rv.get gv;refine codeAny_builtin a1b ?_;refine HR (c1z I st al pl.isList (x:=u) (by simpa using oj) bf λh' hx ja hT kp=>?_);have I':Inv X B Z H {s with heap:=h',toks:=s.toks+1}:=iM (wr:=bK!) I hf kp;obtain⟨fp,f1,f2,f3,f4⟩:=c2a hx ja hf;have I2:=I'.pinned f2 f3;have hT':({s with heap:=h',toks:=s.toks+1}:yM!).TypeIs bA! "tuple":=⟨_,hT,rfl⟩;refine HR (JX ?_);refine HR (wpAny_tryCatch ?_);refine HR (RK hT' ?_);refine HR (NJ hT rfl ab_);refine JX (b1h hu I2 m sub hM (u:=.int i s.toks) (d:=dN_) ⟨_,Av.int,H!⟩ (k:=some (.inl (.inl (i:Nat)))) rfl ⟨v,rvx,ru⟩ (by rw[IP,RQ,LJ];exact JD (show min i i!<1001 by omega) b_) λar s' I3 c'=>?_);have p8:Gb ix! l7_ i=i+1:=by unfold Gb;rw[qL b1s];simp
  rw[p8]at I3 c';rw[iB b1s,<-b6z b9]at c';have m':=m.write hM c';have x':XM M G H rv_ G rx!:=XM.write m sub hM;have zc:∀b∈fp,b≠c:=λb hb z=>m.has (by rw[hM];simp:M c≠none) (z▸(dW_).1);have fk:∀b∈fp,Ga X B rx! b:=λb hb=>⟨by rw[aW (zc b hb)];exact(dW_).1,(dW_).2⟩;have pk:∀b∈fp,∀o,h'.get? b=some o->s'.heap.get? b=some o:=λb hb o eo=>(I3.pin (b,o) (IE _ (IE _ (jC hb eo)))).1;have hit3:s'.heap.IsListIter it l X!:=by
   obtain⟨o,q1,q2⟩:=ja;exact⟨o,pk it (f1 it d!) o q1,q2⟩
  refine HU ⟨ry!,ih X! (j+1) s' _ _ a! b9 I3.unpinned m' x'.sub mup_same (λb hb=>fk b (f1 b hb)) (f4 _ _ pk fk) hit3 λH4 s4 I4 x4 m4=>?_⟩;have gk:Az rv_ c bL!=Az M c bL!:=by
   show"#@";split<;>rfl
  rw[gk]at x4 m4;exact hR H4 s4 I4 (x'.trans x4 m') m4
end
section
end
section
variable{X:Cx}{own:List Nat}{e a b o tg:Expr}{pos p2 p aj ag:Pos}{f fa fb fo:WE}
def EE(fa:WE)(ol oh:kg!):WE:=λρ M R=>fa ρ M λx M1=>Dz (ol ρ) λl=>Dz (oh ρ) λh=>match x with|.lst xs=>R (.lst (Cr xs l h)) M1|_=>False
def c0o{lo hi:nw!}{ol oh:kg!}(ha:am_)(hl:wP_)(hh:wQ!):ME X own wQ_ (EE fa ol oh):=
 eL wR! λZ G H Q ρ M R st e k=>⟨G,ρ,M,_,st,e,λx M1 v G1 H1 r1 x1 m1 q1=>by
  obtain⟨l,e2,r1⟩:=cW r1;obtain⟨h,e3,r1⟩:=cW r1;have j7:=st.grow x1 m1;refine⟨G1,ρ,l,j7.or,e2,λG2 H2 s2=>⟨G2,ρ,h,j7.or.grow s2,e3,wR_⟩⟩;have s4:=s2.trans s3;cases x<;>first|exact r1.elim|skip
  obtain⟨p,vs,rfl,q,rr⟩:=bP ((q1.mono s2.g).mono s3.g);exact .inr ⟨p,vs,rfl,s4.sub.seq q,λp hp=>k _ _ _ _ _ r1 (x1.trans (.ext rA!) m1) (m1.ext rA!) (cM (s4.sub.free hp) ow_)⟩⟩
end
end DL
namespace DL
open PySem PySem.Spec PyProof.Rows L2
def c6u:bootBuiltins "dict"=some rA_:=by decide+kernel
section
variable{X:Cx}{B:List (Addr×Obj)}{Z:St}{G H:Hp}{M:Mh}{s:yM!}{e it l:xY!}{vs:List V}{xs:List D}{E:Value->Shared->Prop}{Q:Value->Shared->Prop}
def a8p(L:aD_)(hu:ar_)(I:d_)(m:bJ!)(sub:I_)(q:Fj X.K G l vs)(rl:rt!)(hl:i!<=1000)(he:IsEnum s.heap e it 0 .none)(al:s.heap.IsListIter it l 0)(hf:ro!)(bf:h7!)
  (k:∀p H' s',M p=none->Inv X B Z H' s'->XM M G H (Az M p bL!) G H'->MR X.prog X.w X.K (Az M p bL!) G H'->Q cC! s'):wpAny e_ X.A (call rA_ [.ref e]) Q E s:=by
 have zr:H k_=none:=I.fresh;refine callType_codes (Q₁:=λobj ai=>obj=.ref k_/\ai={s with heap:=s.heap.push {cls:=.type "dict",data:=.dict #[]}}) F.kt_called_dict (F.kt_typeCall_dict_1 _) F.entry_dict_init (kt_code_dict_new _ bz_) ?_;rintro obj ai ⟨rfl,rfl⟩;have D0:Oo la! s.heap.objs.size [] 0:=pZ!;have I1:Inv X B Z dD_ {s with heap:=s.heap.push {cls:=.type "dict",data:=.dict #[]}}:=by
  refine pZ_;show"!V"
 have x0:XM M G H hZ_ G dD_:=.laid sub zr;have m0:MR X.prog X.w X.K hZ_ G dD_:=m.laid zr sub p0!;have vq:({s with heap:=s.heap.push {cls:=.type "dict",data:=.dict #[]}}:yM!).TypeIs bA! "dict":=kB_;have zt:IsEnum la! e it 0 .none:=HX _ he;refine⟨vq,F.args_dict_init_2 _ _,?_⟩;refine HR ?_;refine HR (OI vq ?_);refine HU ?_;show wpAny _ _ (Builtin.Dict.updateFrom "dict.__init__" s.heap.objs.size aZ! [] .none) _ _ _;refine HR (RK (T:="enumerate") ⟨_,zt,rfl⟩ ?_);refine HR (b1b zt a4! λh' tk kp=>?_);refine HR fB_;have I2:Inv X B Z dD_ {s with heap:=h',toks:=tk}:=I1.kept (t':=tk) kp;have ml:IsEnum h' e it eY_ .none:=kp _ _ zt;refine HR (wpAny_pyIter_enum ml (HU ⟨ry!,?_⟩));have fk:∀b∈bK!,Ga X B dD_ b:=λb hb=>by
  refine⟨?_,(gt_).2⟩;have:b≠k_:=λz=>by
   subst z;simp only[HY,JK,LC]at hb;obtain z|z:=hb
   .exact LP _ (z▸JB he)
   .obtain⟨o,q1,_⟩:=al;exact LP _ (z▸JB q1)
  rw[aW this];exact(gt_).1
 have hit2:h'.IsListIter it l 0:=by
  obtain⟨o,q1,q2⟩:=al;exact⟨o,kp _ _ (HX _ q1),q2⟩
 refine c2d (A:=X.A.in1) (c:=k_) L a4! (by have:=iR X.A;have:=iR X.A.in1;omega) bf (λsb=>sb.seq q) rl hl xs.length 0 0 _ _ _ a! bZ_ I2 m0 x0.sub mup_same fk (.inl ⟨_,ml⟩) hit2 λH4 s4 I4 x4 m4=>?_;have gk:Az hZ_ s.heap.objs.size bL!=Az M s.heap.objs.size bL!:=by
  show"#@";split<;>rfl
 rw[gk]at x4 m4;exact⟨rfl,k _ H4 s4 (m.nocell zr) I4 (x0.trans x4 m0) m4⟩
variable{own:List Nat}{a:Expr}{pos ug p p2:Pos}{fa:WE}
def Vm(f:WE):WE:=λρ M R=>f ρ M λd M1=>match d with
 |.lst xs=>i!<=1000/\∀p,M1 p=none->R A_ (Az M1 p bL!)
 |_=>False
def b6f(hu:ar_)(hg:Gl X "dict")(hm:X.mg "dict"=none)(yo:AG_)(sj:AH_)(L:aD_)(h:am_)(hs:AH!:=by rfl)(ax:(backTo ug nk_).any c!=false:=by rfl)
  (bi:starEach rC_ X.env=(false,eval (.Call rC! [a] [] ug) X.env)::starEach [] X.env:=by rfl)(hpl2:AI_:=by rfl):
  ME X own (.Call (.Name "dict" p) rC_ [] pos) (Vm fa):=⟨by
 intro B s Z H Q I ⟨G,ρ,M,R,st,e,k⟩;refine Call_ (jQ I hg hm c6u (KP ?_ bi hpl2));refine MJ ?_;refine Call_ (jQ I yo sj boot_enumerate (KP (dH (dS h.ok fZ hs ug B s Z H (λvs H1=>∃v xs M1 G1,vs=[v]/\(i!<=1000/\∀p,M1 p=none->R A_ (Az M1 p bL!))/\XM M G H M1 G1 H1/\MR X.prog X.w X.K M1 G1 H1/\Av X.K G1 L! v) I ⟨G,ρ,M,_,st,e,Al_⟩) λus s1 ⟨vs,H1,I1,r1,v,xs,M1,G1,q1,t1,x1,m1,rr⟩=>?_) hs ax))
 .cases d<;>first|exact r1.elim|skip
  exact⟨v,_,M1,G1,rfl,r1,x1,m1,q1⟩
 subst q1;obtain⟨l,ys,rfl,q,rl⟩:=bP rr;obtain⟨u,rfl,ru⟩:=tH r1;cases ru;obtain⟨its,rv,pl,hz⟩:=I1.list (x1.sub.seq q);refine call_enumerate_list pl.isList λh' he al hsz hk=>?_;have ju:∀b∈[z!+1,z!],z!<=b:=λb hb=>by
  simp only[HY,JK,LC]at hb;obtain rfl|rfl:=hb<;>omega
 refine ON ?_;exact a8p L hu (I1.kept (t':=s1.toks) hk) m1 x1.sub q rl t1.1 he al (λb hb=>I1.fpOk qn! AJ_) AJ! λp H' s' hp I2 x2 m2=>⟨.ref p,H',I2,rfl,k _ _ _ G1 H' (t1.2 p hp) cp! m2 Av.fn⟩⟩
end
end DL
namespace DL
open PySem PySem.Spec PyProof.Rows L2
def Ud:List D->Option D
 |[.int i,.int j]=>some sU!
 |_=>none
def c6r{K:yN!}:Pq K sU_ Ud:=by
 show"!@";unfold Ud at e;show"!6"
 .obtain⟨v,t,rfl,rv,rr⟩:=bR r;obtain⟨v2,rfl,nh⟩:=eE rr;cases aY rv;cases aY nh;cases e;exact⟨_,_,rfl,dq_⟩
 .cases e
def c6t:bootBuiltins "max"=some sT_:=by decide+kernel
section
variable{X:Cx}{own:List Nat}{b:Expr}{es:List Expr}{pos p2:Pos}{fs:WA}{fb:WE}
def Wz(fs:WA)(fb:WE):WE:=λρ M R=>fs ρ M λds M1=>f_<=1000/\fb ρ M1 λy M2=>match y with
 |.int k=>AT!/\R AT_ M2
 |_=>False
def c4z(ha:fO!)(hb:cp_):ME X own AU! (Wz fs fb):=
 eL AV! λZ G H Q ρ M R st e k=>⟨G,ρ,M,_,st,e,λds M1 vs G1 H1 r1 x1 m1 q1=>⟨by rw[<-aI q1];exact eZ r1.1,λp hp=>by
  have xj:Ce G1 H1 G1 AV_:=a8a x1.sub hp;have hM:M1 p=none:=m1.nocell hp;refine AW!;cases y<;>first|exact r2.elim|skip
  rename_i n;cases aY q2;obtain⟨⟨hn,jh,hl⟩,r2⟩:=r2;have zi:H2 p=some cJ_:=x2.keep p _ bW hM;refine AW_;have zj:=(AX!).trans x2 qr!;have xl:Ce G2 H2 (upd G2 c rG_) (upd H2 c rG_):=Ce.laid x2.sub L;exact k _ _ _ _ _ r2 (zj.trans (.ext xl) m2) (m2.ext xl) (cM (x2.sub.free L) (wB b1_ _))⟩⟩
end
end DL
namespace K13
open PySem L2 DL
nonrec def top(i:Nat):Stmt:=PySem.Challenge.pw_manyhands_k13_given.main.body.getD i rI!
def Je(i j:Nat):Stmt:=match top i with
 |.ClassDef _ _ _ b _ _ _ _ _ _ _=>b.getD j rI!
 |s=>s
structure Aq where
 mk::
 A0:Addr
 A5:Addr
 A6:Addr
 A7:Addr
 A8:Addr
 A9:Addr
 B0:Addr
 B1:Addr
 B2:Addr
 B3:Addr
 B4:Addr
 B5:Addr
abbrev Pi:Stmt:=top 11
def a5p:Aj p_ p_ (Ad Pi):=g!
abbrev Pk:Stmt:=top 12
def a5r:Aj gi! gi! (Ad Pk):=g!
abbrev Lg:Stmt:=top 13
def vT:Aj p_ p_ (Ad Lg):=g!
abbrev Qk:Stmt:=top 14
def a9l:Aj p_ p_ (Ad Qk):=g!
abbrev Kq:Stmt:=top 15
def uG:Aj p_ p_ (Ad Kq):=g!
abbrev Ql:Stmt:=top 16
def a9m:Aj p_ p_ (Ad Ql):=g!
abbrev Mw:Stmt:=top 17
def yI:Aj p_ p_ (Ad Mw):=g!
abbrev Nt:Stmt:=top 18
def a2d:Aj p_ p_ (Ad Nt):=g!
abbrev Qi:Stmt:=top 19
def a9j:Aj dO_ dO_ (Ad Qi):=g!
abbrev Nh:Stmt:=top 20
def a9i:Aj p_ p_ (Ad Nh):=g!
abbrev Pj:Stmt:=top 21
def a5q:Aj p_ p_ (Ad Pj):=g!
abbrev Kh:Stmt:=top 23
def a2e:Aj gi_ gi_ (Ad Kh):=g!
abbrev Qm:Stmt:=top 24
def a9n:Aj p_ p_ (Ad Qm):=g!
abbrev Kr:Stmt:=top 25
def uH:Aj p_ p_ (Ad Kr):=g!
abbrev Jr:Stmt:=top 26
def rL:Aj by! by! (Ad Jr):=g!
abbrev Pl:Stmt:=top 27
def a5s:Aj a2_ a2_ (Ad Pl):=g!
abbrev Sb:Stmt:=Je 29 0
def b5b:Aj aW! aW! (Ad Sb):=g!
abbrev Nv:Stmt:=Je 29 1
def a2f:Aj K_ K_ (Ad Nv):=g!
abbrev Jf:Stmt:=Je 29 2
def fW:Aj rK_ me_ (Ad Jf):=g!
abbrev Ks:Stmt:=Je 29 3
def iF:Aj rM! K_ (Ad Ks):=g!
abbrev Mx:Stmt:=Je 29 4
def gR:Aj rM_ aW! (Ad Mx):=g!
abbrev My:Stmt:=Je 30 0
def yJ:Aj aW! aW! (Ad My):=g!
abbrev Lj:Stmt:=Je 30 1
def vU:Aj K_ K_ (Ad Lj):=g!
abbrev Ib:Stmt:=Je 30 2
def nU:Aj K_ K_ (Ad Ib):=g!
abbrev Hl:Stmt:=Je 30 3
def gX:Aj gj! gj! (Ad Hl):=g!
abbrev Li:Stmt:=Je 30 4
def lU:Aj rO_ c4! (Ad Li):=g!
abbrev Ic:Stmt:=Je 30 5
def nV:Aj gj_ gj_ (Ad Ic):=g!
abbrev Kt:Stmt:=Je 30 6
def uI:Aj c4! c4! (Ad Kt):=g!
abbrev Jt:Stmt:=Je 30 7
def dP:Aj rP_ mg! (Ad Jt):=g!
abbrev Lk:Stmt:=Je 30 8
def iW:Aj rQ! mh! (Ad Lk):=g!
abbrev Gu:Stmt:=Je 30 9
def lN:Aj gl! gl! (Ad Gu):=g!
abbrev Hk:Stmt:=Je 30 10
def lV:Aj K_ K_ (Ad Hk):=g!
abbrev Ge:Stmt:=Je 30 11
def kN:Aj K_ K_ (Ad Ge):=g!
abbrev Ff:Stmt:=Je 30 12
def nT:Aj aQ_ aQ_ (Ad Ff):=g!
abbrev Fp:Stmt:=Je 30 13
def oM:Aj aQ_ aQ_ (Ad Fp):=g!
abbrev Gv:Stmt:=Je 30 14
def lO:Aj aQ_ aQ_ (Ad Gv):=g!
abbrev Ir:Stmt:=top 32
def oK:Aj by! by! (Ad Ir):=g!
abbrev Mu:Stmt:=top 33
def jJ:Aj rR_ a2_ (Ad Mu):=g!
abbrev Rw:Stmt:=top 34
def jW:Aj rS! a2_ (Ad Rw):=g!
abbrev Vs:Stmt:=top 35
def c3u:Aj gl_ gl_ (Ad Vs):=g!
abbrev Rx:Stmt:=top 36
def jX:Aj rS_ a2_ (Ad Rx):=g!
abbrev Qt:Stmt:=Je 39 0
def a9o:Aj gm! gm! (Ad Qt):=g!
abbrev Nw:Stmt:=Je 39 1
def a2i:Aj gm_ gm_ (Ad Nw):=g!
abbrev Nu:Stmt:=top 40
def kM:Aj [V_,eQ_,bM_] by_ (Ad Nu):=g!
abbrev Mt:Stmt:=top 41
def yH:Aj by_ by_ (Ad Mt):=g!
abbrev Nq:Stmt:=top 42
def a2b:Aj aw! aw! (Ad Nq):=g!
abbrev Qj:Stmt:=top 43
def a9k:Aj aw! aw! (Ad Qj):=g!
abbrev Nr:Stmt:=top 44
def a2c:Aj aR! aR! (Ad Nr):=g!
abbrev Js:Stmt:=top 45
def dO:Aj rU_ bN! (Ad Js):=g!
abbrev Lh:Stmt:=top 46
def fV:Aj rV_ ml! (Ad Lh):=g!
abbrev Gy:Stmt:=top 47
def rN:Aj bN! bN! (Ad Gy):=g!
abbrev Sa:Stmt:=top 48
def b5a:Aj aw! aw! (Ad Sa):=g!
abbrev Eu:Stmt:=top 49
def dZ:Aj rX_ by_ (Ad Eu):=g!
abbrev Qh:Stmt:=top 50
def vS:Aj rY! aw! (Ad Qh):=g!
abbrev Vr:Stmt:=top 51
def uP:Aj rY_ bN! (Ad Vr):=g!
abbrev Sl:Stmt:=top 52
def b2g:Aj rZ! ml_ (Ad Sl):=g!
abbrev Ko:Stmt:=top 54
def lK:Aj [V_,ao!,eT!] mm! (Ad Ko):=g!
abbrev Hj:Stmt:=top 55
def gW:Aj [V_,a3!,eT!] W! (Ad Hj):=g!
abbrev Gd:Stmt:=top 56
def kK:Aj b7! b7! (Ad Gd):=g!
abbrev Ti:Stmt:=top 57
def b7r:Aj W! W! (Ad Ti):=g!
abbrev Ry:Stmt:=top 58
def b4y:Aj W! W! (Ad Ry):=g!
abbrev Pm:Stmt:=top 59
def a5t:Aj W! W! (Ad Pm):=g!
abbrev Vq:Stmt:=top 60
def c3t:Aj W! W! (Ad Vq):=g!
abbrev Rz:Stmt:=top 61
def b4z:Aj b7! b7! (Ad Rz):=g!
abbrev Ng:Stmt:=top 63
def a9h:Aj aR! aR! (Ad Ng):=g!
abbrev Tj:Stmt:=top 64
def b7t:Aj aR! aR! (Ad Tj):=g!
abbrev Vp:Stmt:=top 65
def c3s:Aj go_ go_ (Ad Vp):=g!
abbrev Xd:Stmt:=top 66
def b7s:Aj r1! mm_ (Ad Xd):=g!
abbrev To:Stmt:=top 68
def b7w:Aj c4_ c4_ (Ad To):=g!
abbrev Vt:Stmt:=top 69
def a2g:Aj w4! c4_ (Ad Vt):=g!
abbrev Os:Stmt:=top 72
def b5c:Aj aD! aD! (Ad Os):=g!
abbrev Se:Stmt:=top 73
def mZ:Aj r3! aD! (Ad Se):=g!
abbrev Qo:Stmt:=top 74
def a5u:Aj w8_ oM! (Ad Qo):=g!
abbrev Tl:Stmt:=top 75
def b7u:Aj gp_ gp_ (Ad Tl):=g!
abbrev Qs:Stmt:=top 76
def fG:Aj r4! mq! (Ad Qs):=g!
abbrev Sc:Stmt:=top 77
def fR:Aj r5_ mq_ (Ad Sc):=g!
abbrev Pn:Stmt:=top 78
def gY:Aj r7! aD! (Ad Pn):=g!
abbrev Qn:Stmt:=top 79
def oN:Aj r6_ aD! (Ad Qn):=g!
abbrev Qq:Stmt:=top 80
def jY:Aj r7_ c6! (Ad Qq):=g!
abbrev Qp:Stmt:=top 81
def vW:Aj r8_ mr_ (Ad Qp):=g!
abbrev Tn:Stmt:=top 82
def b7v:Aj c6! c6! (Ad Tn):=g!
abbrev Qr:Stmt:=top 83
def iX:Aj r9_ mt_ (Ad Qr):=g!
abbrev Tk:Stmt:=top 84
def pM:Aj sa! aD! (Ad Tk):=g!
abbrev Ki:Stmt:=top 85
def a2h:Aj b7_ b7_ (Ad Ki):=g!
abbrev Iu:Stmt:=top 86
def vV:Aj b7_ b7_ (Ad Iu):=g!
abbrev Mc:Stmt:=top 87
def nA:Aj sa_ mu! (Ad Mc):=g!
abbrev Kg:Stmt:=top 88
def kL:Aj sb! [bg!] (Ad Kg):=g!
def Qv:Ae->Option Fl:= (Bl (Cu (Dy "int" q!) (Cu (Dt (Dy "bool" q!)) (f2 Jx (f1 Fy a4_) (f2 Gj (fC mv_) (fC mw!))))))
def Ft:List D->Option D:=Cg p_ 1 (Qv)
def Qx:Ae->Option Fl:= (Bl (Cu (f1 Ft a4_) (Cb Jm Jx G! q! u_)))
def Hd:List D->Option D:=Cg gi! 2 (Qx)
def Mz:Ae->Option Fl:= (Bl (Cu (f1 Ft a4_) (f2 Oc q! x!)))
def Dv:List D->Option D:=Cg p_ 1 (Mz)
def Ot:Ae->Option Fl:= (sSeq (Gg (Mg iK_ (fT (f2 Lr dR_ W_))) c7! Ct) (Bl (Cu (f1 Hd (Ac aj! (Ac b8! Ag))) (f1 Dv (Ac cx_ Ag)))))
def Ec:List D->Option D:=Cg p_ 1 (Ot)
def Ll:Ae->Option Fl:= (sSeq (Gg (Mg iK_ (fT (f2 Lr dR_ aw_))) c7! Ct) (Bl (Cu sf! (f1 Hd (Ac dS! (Ac b8! Ag))))))
def Eb:List D->Option D:=Cg p_ 1 (Ll)
def Md:Ae->Option Fl:= (Bl (Ev (f1 Ec a4_) (Ev (f2 Ax q! gs!) (f2 Ax q! iM!))))
def Hc:List D->Option D:=Cg p_ 1 (Md)
def Kj:Ae->Option Fl:= (Bl (Ev sh! (f1 Ec a4_)))
def Fb:List D->Option D:=Cg p_ 1 (Kj)
def Ln:Ae->Option Fl:= (Bl (Ev sh! (f1 Eb a4_)))
def Fx:List D->Option D:=Cg p_ 1 (Ln)
def Sg:Ae->Option Fl:= (Bl (Cu (Cb Jm Jm (fC (.str " ")) q! (fC (.str "~"))) (f2 Lr (f1 Za a4_) (fC (.int 37)))))
def Ha:List D->Option D:=Cg dO_ 1 (Sg)
def Sf:Ae->Option Fl:= (sSeq (Gg (Mg (Cy (fT (Dy "str" q!))) (Cy (fT (Cb Jm Jm x! dR_ b8!)))) c7! Ct) (Bl (f1 Rl (Ac (Hv 1 [] (AU q!) D! a5_ iN!) Ag))))
def Ka:List D->Option D:=Cg p_ 1 (Sf)
def Qw:Ae->Option Fl:= (Bl (f1 Hd (Ac q! (Ac b9! Ag))))
def Du:List D->Option D:=Cg p_ 1 (Qw)
def Ik(t:Aq):List cl_:=[("put",.tup [dT_,.fn t.A5]),("move",.tup [dT_,dT_,.fn t.A5]),("drop",.tup [dT_]),("write",.tup [dT_,.fn t.A6,.fn t.A7]),("cut",.tup sl!),("set",.tup [dT_,.fn t.B0,.fn t.B1]),("undo",.tup [.fn t.B2]),("redo",.tup [.fn t.B2])]
def Lf(t:Aq):Addr->Option xC!:=λa=>if a=t.A0 then some Hc else if a=t.A5 then some Fb else if a=t.A6 then some Fx else if a=t.A7 then some Ka else if a=t.A8 then some Eb else if a=t.A9 then some Dv else if a=t.B0 then some Du else if a=t.B1 then some Ft else if a=t.B2 then some Ec else none
def Po(t:Aq):Ae->Option Fl:= (sSeq (Gg (fT (f2 Lr dR_ mB!)) c7! Ct) (Bl (f1 Rl (Ac (Hv 2 [] (AT u_ q!) iN_ a5_ iO!) Ag))))
def Hr(t:Aq):List D->Option D:=Cg gi_ 2 (Po t)
def Ou(t:Aq):Ae->Option Fl:= (sSeq (Gg (Mg iK_ (fT (f2 Ax dR_ G!))) c7! Ct) (sSeq (Gg (Mg (Cy (fT (Dy "str" aj!))) (fT (Zc gu_ true aj!))) c7! Ct) (sSeq (Gg (Cy (fT (f1 (Hr t) (Ac (Ea q! (Ar x!) As) (Ac (Wb gu_ aj!) Ag))))) c7! Ct) (Bl (Ev (f2 Lr aj! (fC dU_)) (f2 Jm (f2 An (f2 Ah dS! W_) mD_) b8!))))))
def Im(t:Aq):List D->Option D:=Cg p_ 1 (Ou t)
def Lm(t:Aq):Ae->Option Fl:= (sSeq (Gg (Mg iK_ (fT (f2 Lr dR_ b9!))) c7! Ct) (Bl (Cu sf! (Cu (f1 Dv (Ac dS! Ag)) (f1 (Im t) (Ac mD_ Ag))))))
def Ca(t:Aq):List D->Option D:=Cg p_ 1 (Lm t)
def Ku:Ae->Option Fl:= (Bl (Ba (Ac dS! (Ac aj! Ag))))
def Di:List D->Option D:=Cg by! 1 (Ku)
def Qy:Ae->Option Fl:= (Bl (Vf Di q!))
def Dl:List D->Option D:=Cg a2_ 1 (Qy)
def Xp(t:Aq):WS:= (Ai (Fv t.B5 "following" h! yZ_) (Fv t.B5 "preceding" h! yZ_))
def Hs(t:Aq):WF:=Bw aW! 1 (Xp t)
def Lp(t:Aq):WS:= (Aw (Iq (wl iQ_) (w2 bA_ s_ c8!)))
def Ht(t:Aq):WF:=Bw K_ 2 (Lp t)
def Jv(t:Aq):WS:= (Ai (Ao 3 (BJ (wT (Bc t.B5 "holds" 2 (Ht t) h! c8_)) z_ cy_)) (Ai (Ao 4 (w2 Bs c8! aS_)) (Ai (Cd c8! aS_ s_) (Ai (Cd iS! s_ aS_) (Ai (Cd c8! s_ a6!) (Cd iS! a6! s_))))))
def Cw(t:Aq):WF:=Bw rK_ 3 (Jv t)
def Lo(t:Aq):WS:= (Ai (Ao 2 (Yj iS! s_)) (Ai (Ao 3 (Yj c8! s_)) (Ai (Cd c8! z_ aS_) (Cd iS! aS_ z_))))
def Jb(t:Aq):WF:=Bw rM! 2 (Lo t)
def Nz(t:Aq):WS:= (Ai iS_ (Ai (Ao 2 (w2 Bs c8! cy_)) (Ai (Jj sr_ ss_) cz!)))
def Ih(t:Aq):WF:=Bw rM_ 1 (Nz t)
def Sv(t:Aq):WS:= (Ai (Fv t.B4 "parents" h! (Ph (Em (wl gs!) cy_ (Em iT! cy_ No)))) (Ai (Fv t.B4 "rows" h! (Ph (Em (wl gs!) iT_ (Em iT! iT_ No)))) (Ai (Fv t.B4 "texts" h! Gs) (Ai (Fv t.B4 "numbers" h! Gs) (Ai (Fv t.B4 "written" h! Gs) (Fv t.B4 "hidden" h! Gs))))))
def Ii(t:Aq):WF:=Bw aW! 1 (Sv t)
def Na(t:Aq):WS:= (Aw (w2 bA_ s_ cz_))
def Cn(t:Aq):WF:=Bw K_ 2 (Na t)
def Iv(t:Aq):WS:= (Aw (w2 bA_ s_ e0!))
def Ch(t:Aq):WF:=Bw K_ 2 (Iv t)
def Mn(t:Aq):WS:= (Ai (Jj gx! gx_) (Aw (wl iQ_)))
def Fi(t:Aq):WF:=Bw gj! 3 (Mn t)
def Rr(t:Aq):WS:= (Ai sy! (Ai zE_ (Ai sz! (Ai zJ! (Ai sB_ sB!)))))
def Jo(t:Aq):WF:=Bw rO_ 4 (Rr t)
def Iw(t:Aq):WS:= (Aw (Iq mN! (Iq sw_ (Xb (Bc t.B4 "is_within" 3 (Fi t) h! iX_)))))
def Fu(t:Aq):WF:=Bw gj_ 3 (Iw t)
def Qz(t:Aq):WS:= (Ai (Au (Mj (wT (Bc t.B4 "can_move" 3 (Fu t) h! (Ab s_ c8_)))) Qd Bo) (Ai (Bz (Bc t.B5 "take_out" 2 (Jb t) (w2 Bs cz_ iV_) ax!)) (Ai (Bz (Bc t.B5 "put_behind" 3 (Cw t) (w2 Bs cz_ z_) mM!)) (Cd mJ_ s_ z_))))
def Gn(t:Aq):WF:=Bw c4! 4 (Qz t)
def Kv(t:Aq):WS:= (Ai (Au (Mj (wT (Bc t.B4 "has_item" 2 (Ch t) h! c8_))) Qd Bo) (Ai (Ao 5 aS_) (Dx (Hf (Sy P_)) (Wc 6 7) (Ai mR_ (Ai sE_ (Ai sG! (Ao 5 e1_)))))))
def Hz(t:Aq):WF:=Bw rP_ 5 (Kv t)
def Nb(t:Aq):WS:= (Ai (Au (Mj (wT mN!)) Qd Bo) (Dx (Hf (Sx dX_ sH!)) (Cs 4) (Ai sJ! sL!)))
def Jp(t:Aq):WF:=Bw rQ! 4 (Nb t)
def Hm(t:Aq):WS:= (Au (wT mN!) (Cd sM! z_ aS_) Bo)
def Ex(t:Aq):WF:=Bw gl! 4 (Hm t)
def Ie(t:Aq):WS:= (Aw iV_)
def Fh(t:Aq):WF:=Bw K_ 2 (Ie t)
def Gw(t:Aq):WS:= (Aw (Bc t.B5 "listed" 1 (Ih t) (w2 Bs cz_ s_) Af))
def Et(t:Aq):WF:=Bw K_ 2 (Gw t)
def Ni(t:Aq):WS:= (Aw (Bf 1 [0] (Ci (Bc t.B5 "listed" 1 (Ih t) sK! Af)) D! (wT (w2 gA! h! (Ay t.B4 "hidden" s_))) h!))
def Dm(t:Aq):WF:=Bw aQ_ 2 (Ni t)
def Oa(t:Aq):WS:= (Aw (Qf "" (Bf 1 [0] sO_ D! dZ! (w2 Bs (Ay t.B4 "written" s_) h!))))
def Gm(t:Aq):WF:=Bw aQ_ 2 (Oa t)
def Hn(t:Aq):WS:= (Aw (w1 Vy (Ab sM! Af)))
def Ey(t:Aq):WF:=Bw aQ_ 2 (Hn t)
def Ny:Ae->Option Fl:= (Bl (Ev (f2 Ax i0_ i1!) (f2 Ax i0_ (fC mY_))))
def Bb:List D->Option D:=Cg by! 1 (Ny)
def Su:WS:= (Ai (Ao 1 Gs) (Ai (Dx (Hf (Ei i2!)) bP! sQ_) cz!))
def Gk:WF:=Bw rR_ 1 (Su)
def Xj:WS:= (Ai (Ao 1 (Ak 1 Gk aT_)) (Ai m0! (Ai (Dx (Hf e2_) Q! i4_) e3!)))
def Lv:WF:=Bw rS! 1 (Xj)
def AQ(t:Aq):WS:= (Au sX_ (Bz (Bc t.B4 "put" 4 (Jo t) h! (Ab s_ (Ab cb! (Ab gD_ Af))))) (Au sY_ (Bz (Bc t.B4 "move" 4 (Gn t) h! gE_)) (Au s1! (Bz (Bc t.B4 "move" 4 (Gn t) h! s1_)) (Au s2_ (Bz (Bc t.B4 "write" 5 (Hz t) h! (Ab s_ gE_))) (Au s3! (Bz (Bc t.B4 "cut" 4 (Jp t) h! gE_)) (Au s4! (Bz (Bc t.B4 "set_number" 4 (Ex t) h! gE_)) Bo))))))
def Nk(t:Aq):WF:=Bw gl_ 3 (AQ t)
def Xk(t:Aq):WS:= (Ai s5_ (Ai (Ao 2 (Ak 1 Lv aT_)) (Ai (Dx (Hf (Ei i2!)) Q! (Ai gC! s7!)) cz!)))
def Jz(t:Aq):WF:=Bw rS_ 1 (Xk t)
def Wm(t:Aq):WS:= (Ai (Fv t.B3 "ours" h! s_) (Ai (Fv t.B3 "taken" h! Gs) (Ai (Fv t.B3 "waiting" h! (Qe Af)) s9!)))
def Io(t:Aq):WF:=Bw gm! 2 (Wm t)
def Ua(t:Aq):WS:= (Aw (w1 Uf (Ab (Ip d2! s_ m6_) Af)))
def Ek(t:Aq):WF:=Bw gm_ 2 (Ua t)
def Tt(t:Aq):WS:= (Ai iS_ (Ai (Dx (Pf d2!) bP! (Yl 1 m7!)) ta_))
def Ew(t:Aq):WF:=Bw [V_,eQ_,bM_] 1 (Tt t)
def Ss(t:Aq):WS:= (Ai tc! (Aw m7_))
def Dk(t:Aq):WF:=Bw by_ 1 (Ss t)
def Tr(t:Aq):WS:= (Aw (w2 (λ_=>Jm) (wl na!) td!))
def Fw(t:Aq):WF:=Bw aw! 2 (Tr t)
def Wk(t:Aq):WS:= (Aw (w2 gD! (wl na!) (w2 Nm td! (wl x!))))
def Hb(t:Aq):WF:=Bw aw! 2 (Wk t)
def Ts(t:Aq):WS:= (Ai te! tf_)
def Hq(t:Aq):WF:=Bw aR! 2 (Ts t)
def Ps(t:Aq):WS:= (Ai m0! (Ai (Dx (Ci (w2 Nm gH_ s_)) Q! (Ai gC! (Ai ti! tj!))) e3!))
def Er(t:Aq):WF:=Bw rU_ 2 (Ps t)
def Rq(t:Aq):WS:= (Ai m0! (Dx (Ci (w1 Sm ax!)) Q! (Ai tk_ (Ai to_ tn_))))
def Jn(t:Aq):WF:=Bw rV_ 2 (Rq t)
def Pt(t:Aq):WS:= (Ai (Au (Cv (Cy tq!)) Gc Bo) (Bz (Ak 2 (Jn t) (Ab h! (Ab (Ak 2 (Er t) cB_) Af)))))
def Fn(t:Aq):WF:=Bw bN! 2 (Pt t)
def Xo(t:Aq):WS:= (Ai (Bz (Vo (Kf d2! (wl na_) (Qe Af)) s_)) s9!)
def Lx(t:Aq):WF:=Bw aw! 2 (Xo t)
def Ov(t:Aq):WS:= (Ai (Ao 1 aK!) (Ai ts_ (Ai (Jj (Cv (fT (f2 Kl (f1 Bk ca_) G!))) (Ai Gc (Ai (Bz (Ak 2 (Lx t) (Ab h! (Ab (wl bC_) Af)))) (Ai (Th 1 (wl x!)) ts_)))) cz!)))
def Fc(t:Aq):WF:=Bw rX_ 1 (Ov t)
def Wi(t:Aq):WS:= (Ai tw_ (Ai (Ao 2 (Wf (Ak 2 (Fw t) cB_) (w2 bA_ s_ gH_))) (Ai (Au (Gx (Cv (Cy (fT y!))) (wT (w2 (λ_=>Jx) (w1 Uf (Ab gH_ Af)) (wl (fC (.int 8)))))) (Bz (Vo gH_ s_)) Bo) (Aw aK!))))
def Jy(t:Aq):WF:=Bw rY! 2 (Wi t)
def AO(t:Aq):WS:= (Ai tx! (Ai (Ao 2 aK!) (Ai (Dx dc_ Q! (Th 2 ty!)) e3!)))
def Gz(t:Aq):WF:=Bw rY_ 2 (AO t)
def AR(t:Aq):WS:= (Ai (Ao 2 (Vm s_)) (Aw (Bf 1 [2] (Ci m8_) D! (wT (w2 (λ_=>Kl) jd! (Ip s_ jd_ aK!))) h!)))
def Km(t:Aq):WF:=Bw rZ! 2 (AR t)
def Qu(t:Aq):WS:= (Ai (Ao 2 ng!) (Ai (Au (Mj (wT (Bc t.B4 "has" 2 gy! z_ ax!))) Gc Bo) e3!))
def Iz(t:Aq):WF:=Bw [V_,ao!,eT!] 2 (Qu t)
def Mm(t:Aq):WS:= (Ai (Ao 2 ng!) (Ai (Au (Mj (wT (Bc t.B4 "has_item" 2 (Ch t) z_ ax!))) Gc Bo) e3!))
def Cq(t:Aq):WF:=Bw [V_,a3!,eT!] 2 (Mm t)
def Lb(t:Aq):WS:= (Ai tA_ (Aw je_))
def Es(t:Aq):WF:=Bw b7! 3 (Lb t)
def Yt(t:Aq):WS:= (Aw tB!)
def Jg(t:Aq):WF:=Bw W! 2 (Yt t)
def Xl(t:Aq):WS:= (Aw (Bc t.B4 "parent_of" 2 (Fh t) je_ ax!))
def Od(t:Aq):WF:=Bw W! 2 (Xl t)
def Va(t:Aq):WS:= (Aw (Bc t.B4 "children_of" 2 (Et t) (Ak 2 (Iz t) cB_) ax!))
def Ja(t:Aq):WF:=Bw W! 2 (Va t)
def AN(t:Aq):WS:= (Aw (Bc t.B4 "text_of" 2 (Gm t) je_ ax!))
def Ta(t:Aq):WF:=Bw W! 2 (AN t)
def Xm(t:Aq):WS:= (Aw (w2 Bs (Bc t.B4 "numbers_of" 2 (Ey t) (Ak 3 (Es t) (Ab h! (Ab s_ c8_))) ax!) z_))
def Lw(t:Aq):WF:=Bw b7! 3 (Xm t)
def Wj(t:Aq):WS:= (Aw (Ak 2 gL_ (Ab h! (Ab tD_ Af))))
def Fa(t:Aq):WF:=Bw aR! 2 (Wj t)
def Yu(t:Aq):WS:= (Aw (w1 Uf ni_))
def Jh(t:Aq):WF:=Bw aR! 2 (Yu t)
def AM(t:Aq):WS:= (Aw tG_)
def Oz(t:Aq):WF:=Bw go_ 3 (AM t)
def CI(t:Aq):WS:= (Ai (Ao 2 (Ak 2 dT! (Ab s_ ni_))) (Aw (w2 Nm z_ (Ak 2 dT! (Ab h! (Ab (Ak 2 (Fa t) (Ab s_ aT_)) Af))))))
def Si(t:Aq):WF:=Bw r1! 2 (CI t)
def Sw:Ae->Option Fl:= (sSeq (Gg (λρ=>((q!) ρ).bind Wg) tK! Ct) (Bl G!))
def Of:List D->Option D:=Cg c4_ 2 (Sw)
def Xq:Ae->Option Fl:= (sSeq (Co 2 (f2 Bv (f2 An (f1 Of (Ac q! dU!)) (f2 Eh (fC (.int 104729)) tM_)) (fC (.int 4294967291)))) (sSeq (Co 2 (f2 Bv (f2 Eh y! (fC (.int 48271))) (fC (.int 4294967279)))) (Bl (f2 Bv (f2 An (f2 Eh (f2 Cj y! (fC (.int 64))) (fC (.int 69621))) y!) (fC (.int 4294967231))))))
def Bp:List D->Option D:=Cg w4! 2 (Xq)
def Tx:Ae->Option Fl:= (Bl (f2 An (f2 An (fC (.lst [gr_])) (Hv 1 [] e2_ D! (fT nm!) (Ba gM_))) (fC (.lst [iL_,tP_]))))
def Lz:List D->Option D:=Cg aD! 1 (Tx)
def Tu:Ae->Option Fl:= (sSeq (Ml 1 (Ac ck_ (Ac (fC (.tup [jh_,jh_,bh!])) Ag))) (sSeq (Rp e2_ bP! (Gg tQ_ tT! Ct)) (Bl u_)))
def Ly:List D->Option D:=Cg r3! 1 (Tu)
def Vv:Ae->Option Fl:= (sSeq (Co 2 (fC (.str " abcXYZ.,;!019~[]\\\"'|{}<>@#$&*()-+/=_^:?`"))) (Bl (Xu (fC ji_) (Hv 1 [0,2] (Eo nn!) D! a5_ tV_))))
def Oe:List D->Option D:=Cg w8_ 2 (Vv)
def Vx:Ae->Option Fl:= tK!
def Ds:List D->Option D:=Cg gp_ 2 (Vx)
def Qa:Ae->Option Fl:= (sSeq tW_ (sSeq tX! (sSeq tY! (sSeq tZ_ (sSeq t0! (sSeq t0_ (sSeq t1_ (sSeq t2_ (sSeq t4! (sSeq t5! (sSeq t6_ (sSeq t8! (sSeq ua! (sSeq ub! (sSeq ub_ uc_)))))))))))))))
def Kn:List D->Option D:=Cg r4! 4 (Qa)
def Ra:Ae->Option Fl:= (sSeq (Ml 3 Ag) (sSeq (Ml 4 jr!) (sSeq (Ml 5 jr!) (sSeq (Rp (Eo y!) gS_ (sSeq ug_ (sSeq uh! (sSeq uh_ (sSeq ui! (sSeq uj! uj_)))))) (Bl M_)))))
def Kb:List D->Option D:=Cg r5_ 3 (Ra)
def Vb:WS:= (Ai iS_ (Ai (Dx (Hf e2_) bP! (Ai ul! (Ai (Jj (Cv (Db um! um_)) nz!) un!))) cz!))
def Cp:WF:=Bw r7! 1 (Vb)
def Wl:WS:= (Ai (Ao 1 Gs) (Ai (Dx nz_ bP! (Au up_ uq! Bo)) cz!))
def Me:WF:=Bw r6_ 1 (Wl)
def Yx:WS:= (Ai (Ao 4 (Bf 1 [1] nA! D! (Cv (fT uq_)) h!)) (Ai (Ao 5 aK!) (Ai (Jj (Cv (Db ur! us_)) ut!) (Ai (Dx (Hf (Eo gU!)) gS_ (Au uw! uw_ Bo)) (Cd h! gT_ (wl (f2 An uy_ uz!)))))))
def Go:WF:=Bw r7_ 4 (Yx)
def Yw:WS:= (Ai (Jj (Cv iV!) (Ai uB! (Ai uB_ (Ao 1 gI!)))) (Aw iY_))
def Mf:WF:=Bw r8_ 3 (Yw)
def Yv:WS:= (Au (Gx (wT (w2 bA_ s_ bl_)) (Ut (wT (w2 bA_ z_ bl_)) (wT (w2 bA_ z_ uD_)))) (Au uE_ uF_ Bo) Bo)
def Ji:WF:=Bw c6! 4 (Yv)
def Xr:WS:= (Ai nD_ (Ai nF! (Au sX_ (Ai uH_ (Ai nG! (Ai nI! nI_))) (Au sY_ nJ! (Au s1! nJ_ (Au (Gx s4! (wT gW_)) uK_ (Au (Gx s2_ (wT gW_)) (Ai jz! (Ai (Ao 6 aK!) (Ai (Dx nK! (Cs 7) uN!) (Ai uQ_ uT!)))) (Au (Gx s3! (wT gW_)) (Ai uV_ (Ai jz! uW!)) Bo))))))))
def Wa:WF:=Bw r9_ 2 (Xr)
def Vw:WS:= (Ai uY_ (Ai uZ! (Ai (Dx nz_ Q! (Au (Gx uZ_ u1!) u2! Bo)) cz!)))
def Qb:WF:=Bw sa! 1 (Vw)
def Tz:WS:= (Aw (Bf 1 [1] nA! D! (Cv (fT u2_)) jd_))
def Hu:WF:=Bw b7_ 2 (Tz)
def Rs:WS:= (Aw (Qf "" (Bf 1 [] u3_ D! (Cv (fT dS!)) jd!)))
def Hg:WF:=Bw b7_ 2 (Rs)
def Tv(t:Aq):WS:= (Ai u4_ (Ai (Dx u6! Q! (Au u7! bQ_ Bo)) (Ai (Dx (Pf nO!) Q! (Ai u7_ (Ai va! vb!))) vb_)))
def Kc(t:Aq):WF:=Bw sa_ 2 (Tv t)
def Xn(t:Aq):WS:= (Ai vd_ (Ai ve_ (Ai vf! (Ai (Ao 3 nP!) (Ai vg_ (Ai vj_ (Ai vk! (Ai vl! (Ai vm! (Ai vm_ (Ai vo_ (Ai vp_ (Ai vt! (Ai vt_ (Aw vu!)))))))))))))))
def Zw(t:Aq):WF:=Bw sb! 1 (Xn t)
structure Txt(P:yJ!)(w:ys!)(K:yN!)(mg:A!)(t:Aq):Prop where
 C8:Fe K mg "is_whole" Pi p_
 C9:Fe K mg "is_below" Pk gi!
 D1:Fe K mg "is_from_one" Lg p_
 D2:Fe K mg "is_name" Qk p_
 D3:Fe K mg "is_sign_name" Kq p_
 D4:Fe K mg "is_item" Ql p_
 D5:Fe K mg "is_sibling" Mw p_
 D6:Fe K mg "is_behind" Nt p_
 D7:Fe K mg "is_sign" Qi dO_
 D8:Fe K mg "is_text" Nh p_
 D9:Fe K mg "is_place" Pj p_
 E1:Fe K mg "are_parts" Kh gi_
 E2:Fe K mg "is_deed" Qm p_
 E3:Fe K mg "is_operation" Kr p_
 E4:Fe K mg "time_and_hand" Jr by!
 E5:Fe K mg "in_order" Pl a2_
 E6:Ur K mg "Row" t.B5 "Row.__init__" Sb aW!
 E7:Dc K t.B5 "holds" "Row.holds" Nv K_
 E8:Dc K t.B5 "put_behind" "Row.put_behind" Jf me_
 E9:Dc K t.B5 "take_out" "Row.take_out" Ks K_
 F7:Dc K t.B5 "listed" "Row.listed" Mx aW!
 F8:Ur K mg "Outline" t.B4 "Outline.__init__" My aW!
 F9:Dc K t.B4 "has" "Outline.has" Lj K_
 G6:Dc K t.B4 "has_item" "Outline.has_item" Ib K_
 G7:Dc K t.B4 "is_within" "Outline.is_within" Hl gj!
 G8:Dc K t.B4 "put" "Outline.put" Li c4!
 G9:Dc K t.B4 "can_move" "Outline.can_move" Ic gj_
 H9:Dc K t.B4 "move" "Outline.move" Kt c4!
 J0:Dc K t.B4 "write" "Outline.write" Jt mg!
 J1:Dc K t.B4 "cut" "Outline.cut" Lk mh!
 J2:Dc K t.B4 "set_number" "Outline.set_number" Gu gl!
 J3:Dc K t.B4 "parent_of" "Outline.parent_of" Hk K_
 J4:Dc K t.B4 "children_of" "Outline.children_of" Ge K_
 J5:Dc K t.B4 "signs_of" "Outline.signs_of" Ff aQ_
 J6:Dc K t.B4 "text_of" "Outline.text_of" Fp aQ_
 J7:Dc K t.B4 "numbers_of" "Outline.numbers_of" Gv aQ_
 J8:Fe K mg "is_undo_or_redo" Ir by!
 J9:Fe K mg "last_words" Mu a2_
 K0:Fe K mg "undone" Rw a2_
 K4:Fe K mg "play" Vs gl_
 K6:Fe K mg "played" Rx a2_
 K7:Ur K mg "Hand" t.B3 "Hand.__init__" Qt gm!
 K8:Dc K t.B3 "have" "Hand.have" Nw gm_
 K9:Fe K mg "all_taken" Nu by_
 L0:Fe K mg "outline_of" Mt by_
 L5:Fe K mg "was_taken" Nq aw!
 L6:Fe K mg "is_next" Qj aw!
 L7:Fe K mg "last_time" Nr aR!
 L8:Fe K mg "not_yet_taken" Js bN!
 L9:Fe K mg "check_times" Lh ml!
 M6:Fe K mg "check_message" Gy bN!
 M7:Fe K mg "accept" Sa aw!
 M9:Fe K mg "accept_waiting" Eu by_
 N0:Fe K mg "receive" Qh aw!
 N3:Fe K mg "take" Vr bN!
 N4:Fe K mg "give" Sl ml_
 N5:Fe K mg "outline_with" Ko mm!
 N6:Fe K mg "outline_with_item" Hj W!
 N7:Fe K mg "outline_with_number" Gd b7!
 N8:Fe K mg "there" Ti W!
 N9:Fe K mg "parent" Ry W!
 O0:Fe K mg "children" Pm W!
 O3:Fe K mg "text" Vq W!
 O4:Fe K mg "number" Rz b7!
 O5:Fe K mg "lacking" Ng aR!
 O6:Fe K mg "lacks" Tj aR!
 O7:Fe K mg "told" Vp go_
 O8:Fe K mg "met" Xd mm_
 O9:Fe K mg "_law_cell" To c4_
 P0:Fe K mg "_law_mix" Vt c4_
 P1:Fe K mg "_law_items" Os aD!
 P3:Fe K mg "_law_signs" Se aD!
 P4:Fe K mg "_law_text" Qo oM!
 P5:Fe K mg "_law_pick" Tl gp_
 P6:Fe K mg "_law_deed" Qs mq!
 P7:Fe K mg "_law_world" Sc mq_
 P8:Fe K mg "_law_ordered" Pn aD!
 P9:Fe K mg "_law_undone" Qn aD!
 Q0:Fe K mg "_law_hang" Qq c6!
 Q3:Fe K mg "_law_lies" Qp mr_
 Q4:Fe K mg "_law_move" Tn c6!
 Q5:Fe K mg "_law_do" Qr mt_
 Q6:Fe K mg "_law_play" Tk aD!
 Q7:Fe K mg "_law_children" Ki b7_
 Q8:Fe K mg "_law_shown_text" Iu b7_
 Q9:Fe K mg "_law_shows" Mc mu!
 R0:Fe K mg "law" Kg [bg!]
 R4:mg "abs"=none
 R6:mg "all"=none
 R7:mg "bool"=none
 R8:mg "dict"=none
 R9:mg "enumerate"=none
 S0:mg "int"=none
 S7:mg "isinstance"=none
 S8:mg "len"=none
 S9:mg "list"=none
 T0:mg "max"=none
 T1:mg "ord"=none
 T2:mg "range"=none
 T3:mg "sorted"=none
 T4:mg "str"=none
 T5:mg "tuple"=none
 T6:mg "zip"=none
 T7:∃tk,mg "HANDS"=some (.int 16 tk)
 T8:∃tk,mg "SIGNS"=some (.int 16 tk)
 T9:∃tk,mg "PLACES"=some (.int 4 tk)
 U0:∃tk,mg "LEFT_OUT"=some (.int 37 tk)
 U1:∃tk,mg "MOST_WAITING"=some (.int 8 tk)
 U2:mg "is_item"=some (.ref t.A0)
 U3:mg "is_sibling"=some (.ref t.A5)
 U4:mg "is_behind"=some (.ref t.A6)
 U5:mg "is_text"=some (.ref t.A7)
 U6:mg "is_sign_name"=some (.ref t.A8)
 U7:mg "is_from_one"=some (.ref t.A9)
 U8:mg "is_place"=some (.ref t.B0)
 U9:mg "is_whole"=some (.ref t.B1)
 V0:mg "is_name"=some (.ref t.B2)
 V1:Us K t.B3
 V2:Us K t.B4
 V3:Us K t.B5
 V4:Ef K t.B5 "following"
 V5:Ef K t.B5 "preceding"
 V6:Ef K t.B4 "parents"
 V7:Ef K t.B4 "rows"
 V8:Ef K t.B4 "texts"
 V9:Ef K t.B4 "numbers"
 W3:Ef K t.B4 "written"
 W4:Ef K t.B4 "hidden"
 W5:Ef K t.B3 "ours"
 W6:Ef K t.B3 "taken"
 W7:Ef K t.B3 "waiting"
 W8:Ef K t.B3 "outline"
 W9:∀X:Cx,X.prog=P->X.w=w->X.K=K->X.mg=mg->Uq X "PARTS" gu_
def dL:∀(l:i_) (d v:D),kget fh_ d=some v
 |[],d,v=>by simp[At,kget]
 |(k,x)::r,d,v=>by
  unfold At;by_cases h:k=d
  .rw[IL h];simp[kget,h]
  .rw[IA h];simp[kget,h,dL r d v]
def dQ(h:d≠e):∀(l:i_) (v:D),kget fh_ e=kget l e
 |[],v=>by simp[At,kget,h]
 |(k,x)::r,v=>by
  unfold At;show"!d"
  .rw[aU!];subst hk;simp[kget,h]
  .rw[aE!];simp only[kget];rw[dQ h r v]
def xF(h:d≠e):∀(l:i_),kget g3_ e=kget l e
 |[]=>rfl
 |(k,x)::r=>by
  unfold Gp;show"!d"
  .rw[aU!];subst hk;simp[kget,h]
  .rw[aE!];simp only[kget];rw[xF h r]
def a4c:∀{l:i_} {d:D},kget l d≠none↔d∈l.map c!
 |[],d=>by simp[kget]
 |(k,x)::r,d=>by
  unfold kget;show"!d"
  .subst hk;simp
  .rw[aE!,a4c];simp[IB hk]
def xE:∀{l:i_} {d:D},(eB_).Nodup->kget g3_ d=none
 |[],d,_=>rfl
 |(k,x)::r,d,h=>by
  rw[II,IV]at h;unfold Gp;show"!d"
  .rw[aU!];subst hk;cases e:kget r k with
   |none=>rfl
   |some v=>exact absurd (a4c.mp pG_) h.1
  .rw[aE!];unfold kget;rw[aE!];exact xE h.2
def a3g:∀{l:i_} {d v:D} {e:D},e∈(fh_).map c!↔e=d\/e∈l.map c!
 |[],d,v,e=>by simp[At]
 |(k,x)::r,d,v,e=>by
  unfold At;show"!d"
  .rw[aU!];subst hk;simp
  .rw[aE!];simp only[II,HY];rw[a3g];constructor<;>(rintro(h|h|h)<;>simp[h])
def lA:∀{l:i_} {d v:D},(eB_).Nodup->((fh_).map c!).Nodup
 |[],d,v,_=>by simp[At]
 |(k,x)::r,d,v,h=>by
  rw[II,IV]at h;unfold At;show"!d"
  .rw[aU!];simp only[II,IV];exact h
  .rw[aE!];simp only[II,IV];refine⟨cR_,lA h.2⟩;obtain z|z:=a3g.mp z
   .exact hk z
   .exact h.1 z
def c1b:∀{l:i_} {d e:D},e∈(g3_).map c!->e∈l.map c!
 |[],d,e,h=>by simp[Gp]at h
 |(k,x)::r,d,e,h=>by
  unfold Gp at h;show"!d"
  .rw[aU!]at h;simp only[II,HY];exact .inr h
  .rw[aE!]at h;simp only[II,HY]at h ⊢;obtain h|h:=h
   .exact .inl h
   .exact .inr (c1b h)
def c1c:∀{l:i_} {d:D},(eB_).Nodup->((g3_).map c!).Nodup
 |[],d,_=>by simp[Gp]
 |(k,x)::r,d,h=>by
  rw[II,IV]at h;unfold Gp;show"!d"
  .rw[aU!];exact h.2
  .rw[aE!];simp only[II,IV];exact⟨λz=>h.1 (c1b z),c1c h.2⟩
def wY:∀{l:i_} {d v:D},kget l d≠none->(fh_).length=Z!
 |[],d,v,h=>by simp[kget]at h
 |(k,x)::r,d,v,h=>by
  unfold At;show"!d"
  .rw[aU!];rfl
  .rw[aE!];unfold kget at h;rw[aE!]at h;simp[wY h]
def xJ:∀{l:i_} {d:D},kget l d≠none->(g3_).length+1=Z!
 |[],d,h=>by simp[kget]at h
 |(k,x)::r,d,h=>by
  unfold Gp;show"!d"
  .rw[aU!];rfl
  .rw[aE!];unfold kget at h;rw[aE!]at h;simp[xJ h]
def Jw{α:Type}:List α->List (α×α)
 |a::b::r=>Z_::Jw (b::r)
 |_=>[]
def fA{α:Type}:∀(u:O_) (a b:α) (v:O_),Jw (u++a::b::v)=Jw (u++[a])++Z_::Jw (b::v)
 |[],a,b,v=>rfl
 |[x],a,b,v=>rfl
 |x::y::u,a,b,v=>by
  have:=fA (y::u) a b v;simp only[OL]at this ⊢;simp only[Jw,OL];rw[this]
def b2w{α:Type}:∀(a:α) (l:O_),(Jw (a::l)).map c!=(a::l).dropLast
 |a,[]=>rfl
 |a,b::r=>by simp only[Jw,II,b2w b r,List.dropLast]
def b2v{α:Type}:∀(a:α) (l:O_),(Jw (a::l)).map C!=l
 |a,[]=>rfl
 |a,b::r=>by simp only[Jw,II,b2v b r]
def Ke(xs:c_):List D:=.non::(xs++[.non])
def a4t(xs:c_):(fi!).map c!=.non::xs:=by unfold Ke;rw[b2w,show(D.non::(xs++[.non]))=(.non::xs)++[.non]from rfl,List.dropLast_concat]
def qX(xs:c_):(fi!).map C!=xs++[.non]:=b2v _ _
structure Px(kf kp:i_)(xs:c_):Prop where
 f:∀a b,kget kf a=some b↔Z_∈Jw aL!
 p:∀a b,kget kp b=some a↔Z_∈Jw aL!
 nd:xs.Nodup
 no:D.non∉xs
 kf_nd:(kf.map c!).Nodup
 kp_nd:(kp.map c!).Nodup
 fl:kf.length=i!+1
 pl:kp.length=i!+1
def kE{α β:Type}:∀{l:List (α×β)} {a:α} {b c:β},(eB_).Nodup->Z_∈l->(a,c)∈l->b=c
 |[],_,_,_,_,h,_=>by cases h
 |(x,y)::r,a,b,c,nd,h1,h2=>by
  rw[II,IV]at nd;obtain z|z:=HY.mp h1<;>obtain w|w:=HY.mp h2
  .cases z;cases w;rfl
  .cases z;exact absurd vy! nd.1
  .cases w;exact absurd vy_ nd.1
  .exact kE nd.2 z w
def Px.hasF(h:jI_)(a:D):kget kf a≠none↔a=.non\/a∈xs:=by
 have e:=a4t xs;show"!D"
 .intro z;cases q:kget kf a with
  |none=>exact absurd q z
  |some b=>
   have:=IJ (f:=c!) ((h.f a b).mp q);rw[e]at this;simpa using this
 .intro z;have:a∈(fi!).map c!:=by rw[e];simpa using z
  obtain⟨⟨x,b⟩,hm,rfl⟩:=IS.mp this;rw[(h.f x b).mpr hm];simp
def Px.hasP(h:jI_)(b:D):kget kp b≠none↔b=.non\/b∈xs:=by
 have e:=qX xs;show"!D"
 .intro z;cases q:kget kp b with
  |none=>exact absurd q z
  |some a=>
   have:=IJ (f:=C!) ((h.p a b).mp q);rw[e]at this;obtain w|w:=IK.mp this
   .exact .inr w
   .exact .inl (by simpa using w)
 .intro z;have:b∈(fi!).map C!:=by rw[e];obtain rfl|z:=z<;>simp[*]
  obtain⟨⟨a,y⟩,hm,rfl⟩:=IS.mp this;rw[(h.p a y).mpr hm];simp
def b8c:Px jJ_ jJ_ []:=by
 refine⟨fi_,fi_,G_,G_,G_,G_,rfl,rfl⟩<;>
 .simp only[Ke,Jw,kget,JS,HY,JK,LC,LO];show"!D"
  .intro z;split at z
   .rename_i q;cases z;exact⟨by first|exact q.symm|rfl,by first|rfl|exact q.symm⟩
   .cases z
  .rintro⟨rfl,rfl⟩;simp
def Xt(n a:D):List D->List D
 |[]=>[]
 |x::r=>open Classical in if x=a then x::n::r else x::Xt n a r
def Pv(n a:D)(xs:c_):List D:=open Classical in if a∈xs then Xt n a xs else n::xs
def lF:∀{u v:c_},a∉u->Xt n a (u++a::v)=u++a::n::v
 |[],v,_=>by simp[Xt]
 |x::u,v,h=>by
  rw[HY,PD]at h;simp only[OL,Xt];rw[la_,lF h.2]
def Px.ins(h:jI_)(e:Ke xs=u++a0::b0::v)(e':Ke iz=u++a0::n::b0::v)(hn:n∉xs)(h0:n≠.non):
  Px (At fj! n b0) (At fj_ b0 n) iz:=by
 have P:=fA u a0 b0 v;have P':Jw (Ke iz)=Jw jK!++(a0,n)::(n,b0)::Jw jK_:=by rw[e',fA];rfl
 rw[<-e]at P;have F:=a4t xs;have S:=qX xs;have zu:(D.non::xs).Nodup:=IV.mpr vA_;have wm:(xs++bT_).Nodup:=by
  rw[JJ];exact vB_
 have nf:∀a b,Z_∈Jw aL!->a≠n:=λa b hm z=>by
  have:=IJ (f:=c!) hm;rw[F]at this;obtain w|w:=HY.mp this
  .exact h0 jL_
  .exact hn jL_
 have ns:∀a b,Z_∈Jw aL!->b≠n:=λa b hm z=>by
  have:=IJ (f:=C!) hm;rw[S]at this;obtain w|w:=IK.mp this
  .exact hn jL_
  .simp at w;exact h0 jL_
 have m0:(a0,b0)∈Jw aL!:=by rw[P];simp
 have wp:a0≠n:=nf _ _ m0;have qm:b0≠n:=ns _ _ m0;have dF:∀a b,Z_∈Jw jK!\/Z_∈Jw jK_->Z_∈Jw aL!/\a≠a0/\b≠b0:=λa b hm=>by
  have q:Z_∈Jw aL!:=by rw[P];obtain z|z:=hm<;>simp[z]
  have gg:=F▸zu;have a9:=S▸wm;rw[P]at gg a9;simp only[JF,II]at gg a9;rw[JJ,IV]at gg a9;refine⟨q,cR_,cR_⟩
  .obtain w|w:=hm
   .exact gg.2.2 _ vy! _ d! z
   .exact gg.2.1.1 (z▸IJ (f:=c!) w)
  .obtain w|w:=hm
   .exact a9.2.2 _ (IJ (f:=C!) w) _ d! z
   .have:=IJ (f:=C!) w;rw[show(Z_).2=b0 from z]at this;exact a9.2.1.1 this
 have len:iz.length=i!+1:=by
  show"!M"
 have f8:(iz++bT_).Nodup:=by
  rw[<-qX iz,P'];have a9:=S▸wm;rw[P]at a9;simp only[JF,II]at a9 ⊢;rw[JJ,IV]at a9;rw[JJ,IV,IV];refine⟨a9.1,⟨cR_,a9.2.1.1,a9.2.1.2⟩,vD!⟩
  .obtain z|z:=HY.mp z
   .exact qm z.symm
   .obtain⟨⟨c,d⟩,hm,rfl⟩:=IS.mp z;exact ns c d vD_ rfl
  .obtain rfl|hb:=HY.mp hb
   .obtain⟨⟨c,d⟩,hm,rfl⟩:=IS.mp ha;exact ns c d vD_
   .exact vE_
 rw[JJ]at f8;refine⟨fi_,fi_,f8.1,vE!,lA (lA h.kf_nd),lA (lA h.kp_nd),?_,?_⟩
 .rw[P'];show"!O";by_cases q1:n=a
  .show"##"
   .show"!c";simp
   .rintro(z|⟨z,_⟩|⟨_,z⟩|z)
    .exact absurd rfl (nf _ _ (dg_).1)
    .exact absurd z.symm wp
    .rw[z]
    .exact absurd rfl (nf _ _ (dh!).1)
  .rw[dQ q1];by_cases q2:a0=a
   .subst q2;rw[dL];show"!D"
    .show"!c";simp
    .rintro(z|⟨_,z⟩|⟨z,_⟩|z)
     .exact absurd rfl (dg_).2.1
     .rw[z]
     .exact cg_
     .exact absurd rfl (dh!).2.1
   .rw[dQ q2,h.f,P];show"!O";show"!D"
    .show"#C"
     .exact cG_
     .exact g4_
     .exact jM_
    .rintro(z|⟨z,_⟩|⟨z,_⟩|z)
     .exact cG_
     .exact g4_
     .exact cg_
     .exact jN_
 .rw[P'];show"!O";by_cases q1:b0=b
  .show"##"
   .show"!c";simp
   .rintro(z|⟨_,z⟩|⟨z,_⟩|z)
    .exact absurd rfl (dg_).2.2
    .exact absurd z qm
    .rw[z]
    .exact absurd rfl (dh!).2.2
  .rw[dQ q1];by_cases q2:n=b
   .subst q2;rw[dL];show"!D"
    .show"!c";simp
    .rintro(z|⟨z,_⟩|⟨_,z⟩|z)
     .exact absurd rfl (ns _ _ (dg_).1)
     .rw[z]
     .exact absurd z.symm qm
     .exact absurd rfl (ns _ _ (dh!).1)
   .rw[dQ q2,h.p,P];show"!O";show"!D"
    .show"#D"
     .exact cG_
     .exact cg_
     .exact jM_
    .rintro(z|⟨_,z⟩|⟨_,z⟩|z)
     .exact cG_
     .exact g4_
     .exact cg_
     .exact jN_
 .have f0:kget kf a0≠none:=by rw[(n0_).mpr m0];simp
  have f1:n∉(fj!).map c!:=λz=>by
   obtain z|z:=a3g.mp z
   .exact wp z.symm
   .obtain w|w:=(h.hasF n).mp (a4c.mpr z)
    .exact h0 w
    .exact hn w
  rw[iB f1,IT,wY f0,h.fl,len];rfl
 .have f1:n∉kp.map c!:=λz=>by
   obtain w|w:=(h.hasP n).mp (a4c.mpr z)
   .exact h0 w
   .exact hn w
  have f0:kget fj_ b0≠none:=by rw[dQ (IB qm),(n1!).mpr m0];simp
  rw[wY f0,iB f1,IT,h.pl,len];rfl
def Px.out(h:jI_)(e:Ke xs=u++a0::n::b0::v)(e':Ke iz=u++a0::b0::v)(h0:n≠.non):
  Px vH! vI_ iz:=by
 have P':=fA u a0 b0 v;have P:Jw aL!=Jw jK!++(a0,n)::(n,b0)::Jw jK_:=by rw[e,fA];rfl
 rw[<-e']at P';have F:=a4t xs;have S:=qX xs;have zu:((fi!).map c!).Nodup:=by rw[F];exact IV.mpr vA_
 have wm:((fi!).map C!).Nodup:=by
  rw[S,JJ];exact vB_
 have gg:=zu;have a9:=wm;rw[P]at gg a9;simp only[JF,II]at gg a9;rw[JJ,IV,IV]at gg a9;have wp:a0≠n:=λz=>gg.2.1.1 eO_;have qm:b0≠n:=λz=>a9.2.1.1 eO_;have m1:(a0,n)∈Jw aL!:=by rw[P];simp
 have m2:(n,b0)∈Jw aL!:=by rw[P];simp
 have len:i!=iz.length+1:=by
  show"!M"
 have dF:∀a b,Z_∈Jw jK!\/Z_∈Jw jK_->Z_∈Jw aL!/\(a≠a0/\a≠n)/\(b≠b0/\b≠n):=λa b hm=>by
  have q:Z_∈Jw aL!:=by rw[P];obtain z|z:=hm<;>simp[z]
  have g1:a≠a0/\a≠n:=by
   obtain w|w:=hm
   .have:=IJ (f:=c!) w;exact⟨vJ!,vJ!⟩
   .have:=IJ (f:=c!) w;exact⟨λz=>gg.2.1.1 (HZ _ jQ!),λz=>gg.2.1.2.1 jQ!⟩
  have g2:b≠b0/\b≠n:=by
   obtain w|w:=hm
   .have:=IJ (f:=C!) w;exact⟨vJ_,vJ_⟩
   .have:=IJ (f:=C!) w;exact⟨λz=>a9.2.1.2.1 jQ!,λz=>a9.2.1.1 (HZ _ jQ!)⟩
  exact⟨q,g1,g2⟩
 have f8:(iz++bT_).Nodup:=by
  rw[<-qX iz,P'];simp only[JF,II];rw[JJ,IV];exact⟨a9.1,a9.2.1.2,λa ha b hb=>a9.2.2 a ha b (HZ _ hb)⟩
 rw[JJ]at f8;have hf0:kget kf a0≠none:=by rw[(n0_).mpr m1];simp
 have eh:kget kp b0≠none:=by rw[(n1!).mpr m2];simp
 refine⟨fi_,fi_,f8.1,vE!,lA (c1c h.kf_nd),lA (c1c h.kp_nd),?_,?_⟩
 .rw[P'];show"!O";by_cases q1:a0=a
  .show"##"
   .show"!c";simp
   .show"#D"
    .exact absurd rfl (dg_).2.1.1
    .rw[z]
    .exact absurd rfl (dh!).2.1.1
  .rw[dQ q1];by_cases q2:n=a
   .subst q2;rw[xE h.kf_nd];show"!D"
    .show"!c"
    .show"#C"
     .exact absurd rfl (dg_).2.1.2
     .exact cg_
     .exact absurd rfl (dh!).2.1.2
   .rw[xF q2,h.f,P];show"!O";show"!D"
    .rintro(z|⟨z,_⟩|⟨z,_⟩|z)
     .exact cG_
     .exact cg_
     .exact g4_
     .exact jN_
    .show"#C"
     .exact cG_
     .exact cg_
     .exact jM_
 .rw[P'];show"!O";by_cases q1:b0=b
  .show"##"
   .show"!c";simp
   .show"#C"
    .exact absurd rfl (dg_).2.2.1
    .rw[z]
    .exact absurd rfl (dh!).2.2.1
  .rw[dQ q1];by_cases q2:n=b
   .subst q2;rw[xE h.kp_nd];show"!D"
    .show"!c"
    .show"#D"
     .exact absurd rfl (dg_).2.2.2
     .exact cg_
     .exact absurd rfl (dh!).2.2.2
   .rw[xF q2,h.p,P];show"!O";show"!D"
    .rintro(z|⟨_,z⟩|⟨_,z⟩|z)
     .exact cG_
     .exact g4_
     .exact cg_
     .exact jN_
    .show"#D"
     .exact cG_
     .exact cg_
     .exact jM_
 .have:=xJ (l:=kf) (d:=n) (by rw[(n0_).mpr m2];simp);rw[wY (by rw[xF (IB wp)];exact hf0)];have:=h.fl;omega
 .have:=xJ (l:=kp) (d:=n) (by rw[(n1!).mpr m1];simp);rw[wY (by rw[xF (IB qm)];exact eh)];have:=h.pl;omega
def d3c:(Str.ofString "following"==Str.ofString "preceding")=false:=by decide+kernel
def d2e:(Str.ofString "preceding"==Str.ofString "following")=false:=by decide+kernel
def a0v:(Str.ofString "following"==Str.ofString "following")=true:=by decide+kernel
def lkP:List.lookup (Str.ofString "preceding") [(Str.ofString "following",a),(Str.ofString "preceding",b)]=some b:=by simp[KA,d2e]
structure El(t:Aq)(M:Mh)(r f p:xY!)(xs:c_):Prop where
 ob:M r=some (.obj t.B5 [("following",.fn f),("preceding",.fn p)])
 dc:∃kf ef kp ep,M f=some (.dct kf ef)/\M p=some (.dct kp ep)/\Px kf kp xs
 ne:f≠p
def a0p:Cm d=true↔d=.non:=by cases d<;>simp[Cm]
def kD(hd:d≠.non):Cm d=false:=by cases q:Cm d with|false=>rfl|true=>exact absurd (a0p.mp q) hd
def a7r{t:Aq}{M:Mh}{R:r!}(h:ed!)(hk:bq_)(hR:R (.bl (open Classical in decide (d∈xs))) M):Ht t [.fn r,d] M R:=by
 obtain⟨kf,ef,kp,ep,hf,hp,K⟩:=h.dc;refine j_;by_cases hd:d=.non
 .subst hd;have:(D.non∈xs)=False:=by simp[K.no]
  simp only[this,QV]at hR;simpa[Lp,Aw,Iq,wT,wl,f2,Aa,fC,Ap,Cm]using hR
 .have e3:(kget kf d).isSome=(open Classical in decide (d∈xs)):=by
   have:=K.hasF d;cases q:kget kf d with
   |none=>rw[q]at this;simp[hd]at this;simp[this]
   |some v=>rw[q]at this;simp[hd]at this;simp[this]
  rw[<-e3]at hR;simpa[Lp,Aw,Iq,wT,wl,f2,Aa,fC,Ap,kD hd,w2,Ay,Gq,h.ob,Dz,Il,hf,hk,a0v]using hR
def mY{α:Type}{a:α}:∀{l:O_},a∈l->∃u v,l=u++a::v/\a∉u
 |x::r,h=>open Classical in by
  by_cases e:a=x
  .exact⟨[],r,by rw[e];rfl,G_⟩
  .obtain⟨u,v,rfl,hu⟩:=mY ((HY.mp h).resolve_left e);exact⟨x::u,v,rfl,by simp[e,hu]⟩
def b8n(h0:D.non∉xs):∃u b0 v,Ke xs=u++(open Classical in if o∈xs then o else .non)::b0::v/\Ke (Pv n o xs)=u++(open Classical in if o∈xs then o else .non)::n::b0::v:=by
 by_cases h:o∈xs
 .obtain⟨u,v,rfl,hu⟩:=mY h;obtain⟨b0,v',e⟩:∃b0 v',v++[D.non]=b0::v':=by cases v with|nil=>exact bE_|cons a r=>exact bE_
  refine⟨.non::u,b0,v',?_,?_⟩
  .rw[IL h];simp[Ke,e]
  .unfold Pv;rw[IL h,IL h,lF hu];simp[Ke,e]
 .obtain⟨b0,v',e⟩:∃b0 v',xs++[D.non]=b0::v':=by cases xs with|nil=>exact bE_|cons a r=>exact bE_
  refine⟨[],b0,v',?_,?_⟩
  .rw[IA h];simp[Ke,e]
  .unfold Pv;rw[IA h,IA h];simp[Ke,e]
def jK{t:Aq}{M:Mh}{xs:c_}{R:r!}(h:ed!)(hn:De n=some kn)(ho:De o=some ko)(n0:n≠.non)(nx:n∉xs)(hl:i!<5000)(gh:n3_)
  (hR:∀M',El t M' r f p (Pv n o xs)->vM!->R .non M'):Cw t [.fn r,n,o] M R:=by
 obtain⟨kf,ef,kp,ep,hf,hp,K⟩:=h.dc;have om:r≠f:=λz=>by have:=h.ob;rw[z,hf]at this;cases this
 have j0:r≠p:=λz=>by have:=h.ob;rw[z,hp]at this;cases this
 obtain⟨u,b0,v,c1,c2⟩:=b8n (n:=n) (o:=o) K.no;generalize ea:(open Classical in if o∈xs then o else D.non)=a0 at c1 c2;have m0:(a0,b0)∈Jw aL!:=by rw[c1,fA];simp
 have k8:kget kf a0=some b0:=(g6_).mpr m0;have K':=K.ins c1 c2 nx n0;have ka:∃k,De a0=some k:=by
  have:=(K.hasF a0).mp vN!;obtain rfl|z:=this
  .exact H!
  .exact gh _ z
 have kb:∃k,De b0=some k:=by
  have:=(K.hasP b0).mp (by rw[(n4_).mpr m0];simp);obtain rfl|z:=this
  .exact H!
  .exact gh _ z
 obtain⟨ka,zw⟩:=ka;obtain⟨kb,zx⟩:=kb;have l1:kf.length<big:=by have:=K.fl;unfold big;omega
 have l2:kp.length<big:=by have:=K.pl;unfold big;omega
 have l3:(fj!).length<big:=MY ed_ (by have:=K.fl;unfold big;omega);have l4:(fj_).length<big:=MY ed_ (by have:=K.pl;unfold big;omega);refine j_;simp only[Jv,Ai,Ao,BJ,wT,Bc,wl,Ab,Af,Aa];simp[Dh,h.ob,d3c,a0v];refine⟨⟨gh_,gh_⟩,?_⟩;refine a7r h ho ?_;have key:∀(b:Bool),b=(open Classical in decide (o∈xs))->((b=true/\o=a0)\/(b=false/\D.non=a0)):=λb hb=>by
  subst hb;rw[<-ea];by_cases z:o∈xs<;>simp[z]
 generalize hb:(open Classical in decide (o∈xs))=b;have fin:R .non (Az (Az (Az (Az M f (.dct fj! (Gb kf a0 ef))) p (.dct fj_ (Gb kp n ep))) f (.dct (At fj! n b0) (Gb fj! n (Gb kf a0 ef)))) p (.dct (At fj_ b0 n) (Gb fj_ b0 (Gb kp n ep)))):=by
  refine hR _ vO! λb uh ui=>?_
  .rw[jR_,jS!,jR_,jS!];exact h.ob
  .rw[jS_,jT!,jS_,jT!]
 obtain⟨rfl,rfl⟩|⟨rfl,rfl⟩:=key b hb.symm<;>
 simpa[Ai,Ao,w2,wl,Ay,Cd,Dz,Gq,Aa,fC,f2,h.ob,a0v,lkP,Bs,hf,hp,zw,zx,hn,k8,Lc,l1,l2,l3,l4,mup_ne,mup_same,om,j0,h.ne,IB h.ne]using fin
def a5j{t:Aq}{M:Mh}{xs:c_}{R:r!}(h:ed!)(Y:xs=u++n::v)(hn:De n=some kn)(hl:i!<5000)(gh:n3_)
  (hR:∀M',El t M' r f p bm_->vM!->R .non M'):Jb t [.fn r,n] M R:=by
 obtain⟨kf,ef,kp,ep,hf,hp,K⟩:=h.dc;have om:r≠f:=λz=>by have:=h.ob;rw[z,hf]at this;cases this
 have j0:r≠p:=λz=>by have:=h.ob;rw[z,hp]at this;cases this
 have n0:n≠.non:=λz=>K.no (by rw[Y,<-z];simp);obtain⟨b0,v',ev⟩:∃b0 v',v++[D.non]=b0::v':=by cases v with|nil=>exact bE_|cons a r=>exact bE_
 obtain⟨u',a0,eu⟩:∃u' a0,D.non::u=u'++[a0]:=⟨(jU!).dropLast,(jU!).getLast d!,(List.dropLast_concat_getLast d!).symm⟩;have c1:Ke xs=u'++a0::n::b0::v':=by
  rw[Y];show D.non::vP!=_;rw[show D.non::vP!=jU!++n::(v++bT_)by simp,eu,ev];simp
 have c2:Ke bm_=u'++a0::b0::v':=by
  show D.non::(u++v++bT_)=_;rw[show D.non::(u++v++bT_)=jU!++(v++bT_)by simp,eu,ev];simp
 have m1:(a0,n)∈Jw aL!:=by rw[c1,fA];simp
 have m2:(n,b0)∈Jw aL!:=by rw[c1,show u'++a0::n::b0::v'=(u'++[a0])++n::b0::v' by simp,fA];simp
 have zy:kget kp n=some a0:=(n4_).mpr m1;have k8:kget kf n=some b0:=(g6_).mpr m2;have K':=K.out c1 c2 n0;have ka:∃k,De a0=some k:=by
  have:=(K.hasF a0).mp (by rw[(g6_).mpr m1];simp);obtain rfl|z:=this
  .exact H!
  .exact gh _ z
 have kb:∃k,De b0=some k:=by
  have:=(K.hasP b0).mp (by rw[(n4_).mpr m2];simp);obtain rfl|z:=this
  .exact H!
  .exact gh _ z
 obtain⟨ka,zw⟩:=ka;obtain⟨kb,zx⟩:=kb;have l1:(jP!).length<big:=by have:=xJ (l:=kf) (d:=n) vN!;have:=K.fl;unfold big;omega
 have l2:(jP_).length<big:=by have:=xJ (l:=kp) (d:=n) (by rw[zy];simp);have:=K.pl;unfold big;omega
 refine j_;have fin:R .non (Az (Az (Az (Az M p (.dct jP_ bI_)) f (.dct jP! (ef+1))) f (.dct vH! (Gb jP! a0 (ef+1)))) p (.dct vI_ (Gb jP_ b0 bI_))):=by
  refine hR _ vO! λb uh ui=>?_
  .rw[jR_,jS!,jS!,jR_];exact h.ob
  .rw[jS_,jT!,jT!,jS_]
 simpa[Lo,Ai,Ao,w2,wl,Ay,Cd,Yj,Ee,Dz,Gq,Aa,fC,f2,h.ob,a0v,lkP,hf,hp,zw,zx,hn,k8,zy,Lc,l1,l2,mup_ne,mup_same,om,j0,h.ne,IB h.ne]using fin
def a0h{t:Aq}{M:Mh}{xs:c_}{R:r!}(h:ed!)(hl:i!<5000)(gh:n3_)(hR:R L! M):Ih t [.fn r] M R:=by
 obtain⟨kf,ef,kp,ep,hf,hp,K⟩:=h.dc;have step:∀(done rest:c_) (on:D) (tl:c_),xs=done++rest->rest++bT_=on::tl->∀R',R' (.nx [some ba_,some L!,some .non]) M->
   Dg sr_ ss_ (rest.length+1) [some ba_,some (.lst done),some on] M R':=by
  intro done rest
  induction rest generalizing done with
  |nil=>
   intro on tl e1 e2 R' ie;simp at e1 e2;obtain⟨rfl,_⟩:=e2;subst e1;simpa[Dg,Cv,fT,f2,Aa,fC,Ap,Cm]using ie
  |cons y rest ih=>
   intro on tl e1 e2 R' ie;obtain⟨rfl,rfl⟩:=e2;have hy:y∈xs:=by rw[e1];simp
   have y0:y≠.non:=λz=>K.no (z▸hy);obtain⟨k,ek⟩:=gh y hy;obtain⟨nx,tl,ev⟩:∃b0 v',rest++[D.non]=b0::v':=by cases rest with|nil=>exact bE_|cons a r=>exact bE_
   have k8:kget kf y=some nx:=(g6_).mpr (by
    rw[e1,Ke,show D.non::(done++y::rest++bT_)=(D.non::done)++y::(rest++bT_)by simp,ev,fA];simp)
   have hb:done.length<big:=by have:=congrArg List.length e1;simp at this;unfold big;omega
   have:=ih (done++[y]) nx tl (by simp[e1]) ev R' ie;rw[IQ,Dg];simpa[Cv,fT,f2,Aa,fC,Ap,kD y0,Ai,Ww,Dz,Pr,hb,Ao,w2,wl,Ay,Gq,h.ob,a0v,Bs,hf,ek,k8]using this
 obtain⟨on,tl,ev⟩:∃b0 v',xs++[D.non]=b0::v':=by cases xs with|nil=>exact bE_|cons a r=>exact bE_
 have k8:kget kf .non=some on:=(g6_).mpr (by rw[Ke,ev];simp[Jw]);refine j_;simp only[Nz,Ai,Ww];simp[Dz,Ml,Ag,Ao,w2,wl,Ay,Gq,Aa,fC,h.ob,a0v,Bs,hf,k8,De,Jj];refine⟨i!+1,step [] xs on tl rfl ev _ ?_⟩;simpa[Aw,wl,Aa]using hR
abbrev root:D:=.str "root"
abbrev binn:D:=.str "bin"
def b2p:root≠binn:=by intro z;simp only[D.str.injEq]at z;exact absurd z l!
def Ig(x:D):Prop:=∃a b,x=.tup vQ!
def Pw(x:D):Prop:=∃a b c,x=.tup vQ_
def Ig.key(h:Ig x):∃k,De x=some k:=by obtain⟨a,b,rfl⟩:=h;exact H!
def Pw.key(h:Pw x):∃k,De x=some k:=by obtain⟨a,b,c,rfl⟩:=h;exact H!
def Ig.nn(h:Ig x):x≠.non/\x≠root/\x≠binn:=by obtain⟨a,b,rfl⟩:=h;refine⟨?_,?_,?_⟩<;>(intro z;cases z)
def Pw.nn(h:Pw x):x≠.non:=by obtain⟨a,b,c,rfl⟩:=h;intro z;cases z
structure OW where
 rows:List aC!
 its:List D
 txt:D->List ee_
 num:D->List D
open Classical in
nonrec def chl(rows:i_)(x:D):List D:=(rows.filter λq=>q.2=x).map c!
open Classical in
nonrec def wo(rows:i_)(i:D):List aC!:=rows.filter λq=>q.1≠i
inductive Wn(rows:i_)(i:D):D->Prop
 |here:Wn rows i i
 |up {x p:D}:bb!∈rows->Wn rows i p->Wn rows i x
def Rm(rows:i_)(i p s:D)(rows':i_):Prop:=∃u v,wo rows i=u++v/\rows'=u++bU!::v/\((s∉chl ef! p/\chl u p=[])\/∃u',u=u'++[dl_])
def Fs(W:OW)(x:D):Prop:=x∈W.its\/x=root\/x=binn
structure By(W:OW):Prop where
 nd:n6!
 nm:∀x∈W.its,Ig x
 rnd:(W.rows.map c!).Nodup
 ri:∀x,x∈W.rows.map c!↔x∈W.its
 rp:∀i p,bU!∈W.rows->Fs W p
 rk:∃rk:D->Nat,∀i p,bU!∈W.rows->rk p<rk i
 snd:∀x∈W.its,(n6_).Nodup
 sg:∀x∈W.its,∀q∈W.txt x,Pw q.1
 su:∀x∈W.its,∀y∈W.its,∀q∈W.txt x,∀q'∈W.txt y,q.1=q'.1->x=y
 nl:∀x∈W.its,(bU_).length=4
section
open Classical
def kY{q:D×D}:q∈wo rows i↔q∈rows/\q.1≠i:=by unfold wo;rw[KD];simp
def gS:c∈chl rows x↔(c,x)∈rows:=by
 unfold chl;rw[IS];show"!D"
 .rintro⟨⟨a,b⟩,h,rfl⟩;rw[KD]at h;have:=h.2;simp at this;rw[<-this];exact h.1
 .intro h;exact⟨(c,x),KD.mpr ⟨h,G_⟩,rfl⟩
def eJ:chl bm_ x=chl u x++chl v x:=by unfold chl;rw[NQ,JF]
def jV:chl (bU!::v) p=i::chl v p:=by unfold chl;rw[KU d!];rfl
def uF(h:p≠x):chl (bU!::v) x=chl v x:=by unfold chl;rw[KW kq_]
def b4h{rows:i_}:(chl rows x).Sublist kM!:=by unfold chl;exact(PK).map _
def kH{rows:i_}:((ef!).map c!).Sublist kM!:=by unfold wo;exact(PK).map _
def Rm.chl_same{rows:i_}(h:g8!)(nd:fG_):chl rows' p=Pv i s (chl ef! p):=by
 obtain⟨u,v,e,rfl,L⟩:=h;rw[eJ,jV];have a9:((bm_).map c!).Nodup:=by rw[<-e];exact nd.sublist kH
 obtain⟨h1,h2⟩|⟨u',rfl⟩:=L
 .unfold Pv;rw[IA h1,e,eJ,h2];rfl
 .rw[e];have hs:s∈chl vT! p:=gS.mpr d!;unfold Pv;have h2:chl (u'++[dl_]) p=chl u' p++[s]:=by rw[eJ,jV];rfl
  have h3:chl vT! p=chl u' p++s::chl v p:=by rw[eJ,h2];simp
  rw[IL hs,h2,h3];have hu:s∉chl u' p:=λz=>by
   have:=gS.mp z;simp only[JF,II,NV,KI]at a9;rw[JJ]at a9;exact a9.2.2 _ vT_ s d! rfl
  rw[lF hu];simp
def Rm.chl_ne(h:g8!)(Y:p≠x):chl rows' x=chl ef! x:=by obtain⟨u,v,e,rfl,L⟩:=h;rw[eJ,uF Y,e,eJ]
def Rm.mem(h:g8!){q:D×D}:q∈rows'↔q=bU!\/q∈wo rows i:=by
 obtain⟨u,v,e,rfl,L⟩:=h;rw[e];simp only[IK,HY];show"!D"
 .rintro(z|z|z)<;>simp[z]
 .rintro(z|z|z)<;>simp[z]
def Rm.nd{rows rows':i_}(h:g8!)(nd:fG_):(rows'.map c!).Nodup:=by
 obtain⟨u,v,e,rfl,L⟩:=h;have a9:((bm_).map c!).Nodup:=by rw[<-e];exact nd.sublist kH
 have ni:i∉(bm_).map c!:=λz=>by
  obtain⟨q,hq,hi⟩:=IS.mp z;rw[<-e]at hq;exact(n7!).2 hi
 simp only[JF,II]at a9 ni ⊢;rw[JJ]at a9 ⊢;rw[IK,PD]at ni;refine⟨a9.1,IV.mpr ⟨ni.2,a9.2.1⟩,vD!⟩;obtain rfl|hb:=HY.mp hb
 .exact λz=>ni.1 jL!
 .exact vE_
def a1g(h:(i,x)∉rows):chl ef! x=chl rows x:=by unfold chl wo;rw[LX];congr 1;apply KY;intro q hq;simp only[ne_eq,decide_not,Bool.and_eq_left_iff_imp,JI,PH,MF,NK];rintro rfl z;exact h vU_
def b1k{rows:i_}(nd:fG_)(h:(i,x)∈rows):∃u v,chl rows x=u++i::v/\chl ef! x=u++v:=by
 obtain⟨a,b,e,_⟩:=mY h;have n1:i∉(a++b).map c!:=by
  rw[e]at nd;simp only[JF,II]at nd ⊢;rw[JJ,IV]at nd;rw[IK,PD];exact⟨λz=>nd.2.2 _ z i d! rfl,nd.2.1.1⟩
 have e2:wo rows i=a++b:=by
  unfold wo;rw[e,NQ,KW d!];have keep:∀l:List aC!,i∉l.map c!->l.filter (λq=>decide (q.1≠i))=l:=λl hl=>JU.mpr λq hq=>by
   show"!s";exact λz=>hl jW!
  rw[JF,IK,PD]at n1;rw[keep a n1.1,keep b n1.2]
 refine⟨chl a x,chl b x,?_,?_⟩
 .rw[e,eJ,jV]
 .rw[e2,eJ]
def a8y{rows:i_}(nd:fG_)(h:bb!∈rows)(Y:x≠i):Wn rows i x↔Wn rows i p:=by
 show"!D"
 .intro z;cases z with
  |here=>exact absurd rfl Y
  |up h2 z=>rw[kE nd h h2];exact z
 .exact λz=>.up h z
def b7d(h:∀p,bb!∉rows)(Y:x≠i):¬Wn rows i x:=λz=>by
 cases z with
 |here=>exact Y rfl
 |up h2 _=>exact h _ h2
def Rm.winv{W:OW}(h:Rm W.rows i p s rows')(w:By W)(hi:g8_)(hp:Fs W p)(hw:¬Wn W.rows i p):By {W with rows:=rows'}:=by
 refine⟨w.nd,w.nm,h.nd w.rnd,jW_,jX!,?_,w.snd,w.sg,w.su,w.nl⟩
 .show x∈rows'.map c!↔x∈W.its;rw[<-w.ri x];show"!D"
  .intro z;obtain⟨q,hq,rfl⟩:=IS.mp z;obtain rfl|hq:=h.mem.mp hq
   .exact(w.ri i).mpr hi
   .exact IJ (n7!).1
  .intro z;by_cases Y:x=i
   .subst Y;exact IS.mpr vW!
   .obtain⟨q,hq,rfl⟩:=IS.mp z;exact IJ (h.mem.mpr (.inr (kY.mpr ⟨hq,Y⟩)))
 .show Fs W b;obtain z|z:=h.mem.mp hm
  .cases z;exact hp
  .exact w.rp _ _ (kY.mp z).1
 .obtain⟨rk,ig⟩:=w.rk;refine⟨λx=>if Wn W.rows i x then rk x+rk p+1 else rk x,jX!⟩;obtain z|z:=h.mem.mp hm
  .cases z;show"#7";rw[IA hw,IL .here];omega
  .obtain⟨z1,z2⟩:=kY.mp z;have:=ig _ _ z1;have q:=a8y w.rnd z1 z2;show"#7";by_cases c:Wn W.rows i a
   .rw[IL c,IL (q.mp c)];omega
   .rw[IA c,IA (λz=>c (q.mpr z))];show"#H"
def Gi(W:OW)(n:D)(rows':i_):OW:=⟨rows',W.its++[n],λx=>if x=n then[]else W.txt x,λx=>if x=n then[.int 0,.int 0,.int 0,.int 0]else W.num x⟩
def Rm.winv_put{W:OW}(h:Rm W.rows n p s rows')(w:By W)(hn:n7_)(ht:Ig n)(hp:Fs W p):By bb_:=by
 have nn:n∉W.rows.map c!:=λz=>hn ((w.ri n).mp z);have j1:wo W.rows n=W.rows:=by
  refine JU.mpr λq hq=>?_;show"!s";exact λz=>nn jW!
 have pn:p≠n:=λz=>by
  obtain q|q|q:=hp
  .exact hn (z▸q)
  .exact ht.nn.2.1 (z▸q)
  .exact ht.nn.2.2 (z▸q)
 have im:∀x,x∈(bb_).its↔x∈W.its\/x=n:=λx=>by simp[Gi]
 refine⟨?_,ba!,h.nd w.rnd,jW_,jX!,?_,ba!,ba!,jX_,ba!⟩
 .show(W.its++[n]).Nodup;rw[JJ];exact⟨w.nd,G_,λa ha b hb=>by simp at hb;subst hb;exact λz=>hn jL!⟩
 .obtain z|rfl:=(cH_).mp Y
  .exact w.nm x z
  .exact ht
 .rw[im,<-w.ri x];show"!D"
  .intro z;obtain⟨q,hq,rfl⟩:=IS.mp z;obtain rfl|hq:=h.mem.mp hq
   .exact .inr rfl
   .rw[j1]at hq;exact .inl (IJ hq)
  .rintro(z|rfl)
   .obtain⟨q,hq,rfl⟩:=IS.mp z;exact IJ (h.mem.mpr (.inr (by rw[j1];exact hq)))
   .exact IS.mpr vW!
 .have up:∀y,Fs W y->Fs bb_ y:=λy hy=>by
   obtain q|q:=hy
   .exact .inl ((im y).mpr (.inl q))
   .exact .inr q
  obtain z|z:=h.mem.mp hm
  .cases z;exact up _ hp
  .rw[j1]at z;exact up _ (w.rp _ _ z)
 .obtain⟨rk,ig⟩:=w.rk;refine⟨λx=>if x=n then rk p+1 else rk x,jX!⟩;obtain z|z:=h.mem.mp hm
  .cases z;show"#7";rw[IA pn,l_];omega
  .rw[j1]at z;have ha:a≠n:=λq=>nn (q▸IJ (f:=c!) z);have hb:b≠n:=λq=>by
    obtain y|y|y:=w.rp _ _ z
    .exact hn (q▸y)
    .exact ht.nn.2.1 (q▸y)
    .exact ht.nn.2.2 (q▸y)
   show"#7";rw[IA ha,IA hb];exact ig _ _ z
 .show((n8!).map c!).Nodup;split
  .simp
  .rename_i q;exact w.snd x n8_
 .show∀q∈n8!,Pw q.1;split
  .intro q hq;cases hq
  .rename_i q;exact w.sg x n8_
 .show∀q∈n8!,∀q'∈(if y=n then[]else W.txt y),q.1=q'.1->x=y;split
  .intro q hq;cases hq
  .rename_i q1;split
   .intro q hq q' a7;cases a7
   .rename_i q2;exact w.su x ((n9!).resolve_right q1) y (((im y).mp hy).resolve_right q2)
 .show(v5_).length=4;split
  .rfl
  .rename_i q;exact w.nl x n8_
def Xs(b:D)(nw:ae_):List ee_->List ee_
 |[]=>[]
 |x::r=>if x.1=b then x::(nw++r)else x::Xs b nw r
nonrec def wrT(b:D)(nw l:ae_):List ee_:=if b∈l.map c! then Xs b nw l else nw++l
def xM{u:ae_}{q:fm_}(hq:q.1=b):b∉u.map c!->Xs b nw (u++q::v)=u++q::(nw++v):=by
 induction u with
 |nil=>intro _;simp[Xs,hq]
 |cons x u ih=>
  intro h;rw[II,HY,PD]at h;simp only[OL,Xs];rw[la_,ih h.2]
def rD(b:D)(nw l:ae_):∃u v,l=u++v/\wrT b nw l=u++nw++v/\((u=[]/\b∉l.map c!)\/∃u' q,u=u'++[q]/\q.1=b/\b∉u'.map c!):=by
 by_cases h:b∈l.map c!
 .obtain⟨u,v,e,hu⟩:=mY h;obtain⟨u',r,e1,e2,e3⟩:=List.map_eq_append_iff.mp e;obtain⟨q,v',e4,e5,e6⟩:=List.map_eq_cons_iff.mp e3;subst e4;refine⟨u'++[q],v',by simp[e1],?_,.inr ⟨u',q,rfl,e5,by rw[e2];exact hu⟩⟩;unfold wrT;rw[IL h,e1,xM e5 (by rw[e2];exact hu)];simp
 .exact⟨[],l,rfl,by unfold wrT;rw[IA h];rfl,.inl bV!⟩
nonrec def setT(W:OW)(a:D)(l:ae_):OW:={W with txt:=λx=>if x=a then l else W.txt x}
def rH{W:OW}{l:ae_}(w:By W)(ha:eg!)(h1:(eB_).Nodup)(h2:∀q∈l,Pw q.1)(h3:∀q∈l,∀y∈W.its,∀q'∈W.txt y,q.1=q'.1->y=a):By oa!:=by
 refine⟨w.nd,w.nm,w.rnd,w.ri,w.rp,w.rk,ba!,ba!,jX_,w.nl⟩
 .show((oa_).map c!).Nodup;split
  .exact h1
  .exact w.snd x Y
 .show∀q∈oa_,Pw q.1;split
  .exact h2
  .exact w.sg x Y
 .show∀q∈oa_,∀q'∈(if y=a then l else W.txt y),q.1=q'.1->x=y;split
  .rename_i e1;subst e1;split
   .rename_i e2;intro _ _ _ _ _;exact e2.symm
   .intro q hq q' a7 e;exact(h3 q hq y hy q' a7 e).symm
  .split
   .rename_i e2;subst e2;intro q hq q' a7 e;exact h3 q' a7 x Y q hq e.symm
   .exact w.su x Y y hy
def Tp(W:OW)(a:D)(l:c_):OW:={W with num:=λx=>if x=a then l else W.num x}
def b4w{l:c_}(w:By W)(hl:Z!=4):By (Tp W a l):=by
 refine⟨w.nd,w.nm,w.rnd,w.ri,w.rp,w.rk,w.snd,w.sg,w.su,ba!⟩;show(if x=a then l else W.num x).length=4;split
 .exact hl
 .exact w.nl x Y
end
nonrec def oF(a1 a2 a3 a4 a5 a6:xY!):List cl_:=[("parents",.fn a1),("rows",.fn a2),("texts",.fn a3),("numbers",.fn a4),("written",.fn a5),("hidden",.fn a6)]
section
variable{a1 a2 a3 a4 a5 a6:xY!}
def oF1:List.lookup eh! X_=some (D.fn a1):=by kernel_rfl
def oF2:List.lookup dm_ X_=some (D.fn a2):=by kernel_rfl
def oF3:List.lookup eh_ X_=some (D.fn a3):=by kernel_rfl
def oF4:List.lookup fn_ X_=some (D.fn a4):=by kernel_rfl
def oF5:List.lookup ob_ X_=some (D.fn a5):=by kernel_rfl
def oF6:List.lookup wa_ X_=some (D.fn a6):=by kernel_rfl
def oM1:List.lookup (Str.ofString "has") X_=none:=by kernel_rfl
def oM2:List.lookup (Str.ofString "has_item") X_=none:=by kernel_rfl
def oM3:List.lookup (Str.ofString "is_within") X_=none:=by kernel_rfl
def oM4:List.lookup (Str.ofString "put") X_=none:=by kernel_rfl
def oM5:List.lookup (Str.ofString "can_move") X_=none:=by kernel_rfl
def oM6:List.lookup (Str.ofString "move") X_=none:=by kernel_rfl
def oM7:List.lookup (Str.ofString "write") X_=none:=by kernel_rfl
def oM8:List.lookup (Str.ofString "cut") X_=none:=by kernel_rfl
def oM9:List.lookup (Str.ofString "set_number") X_=none:=by kernel_rfl
def d4f:List.lookup (Str.ofString "parent_of") X_=none:=by kernel_rfl
def d4e:List.lookup (Str.ofString "children_of") X_=none:=by kernel_rfl
def d4d:List.lookup (Str.ofString "signs_of") X_=none:=by kernel_rfl
def d4c:List.lookup (Str.ofString "text_of") X_=none:=by kernel_rfl
def d4b:List.lookup (Str.ofString "numbers_of") X_=none:=by kernel_rfl
end
def rM:List.lookup (Str.ofString "put_behind") j0!=none/\List.lookup (Str.ofString "take_out") j0!=none/\List.lookup (Str.ofString "listed") j0!=none/\List.lookup (Str.ofString "holds") j0!=none:=⟨j0_,j0_,j0_,j0_⟩
inductive Pd
 |ob|par|rows|texts|nums|writ|hid|rO (x:D)|rF (x:D)|rP (x:D)|tO (x:D)|tF (x:D)|tP (x:D)|nm (x:D)|oth
structure Ru(t:Aq)(M:Mh)(o:xY!)(rl:bV_)(W:OW)(hc:Nat)(a1 a2 a3 a4 a5 a6:xY!)(k1 k2 k3 k4 k5 k6:i_):Prop where
 ob:M o=some wc_
 d1:∃e,M a1=some (.dct k1 e)
 d2:∃e,M a2=some (.dct k2 e)
 d3:∃e,M a3=some (.dct k3 e)
 d4:∃e,M a4=some (.dct k4 e)
 d5:∃e,M a5=some (.dct k5 e)
 d6:∃e,M a6=some (.dct k6 e)
 ro:rl o=.ob
 r1:rl a1=.par
 r2:rl a2=.rows
 r3:rl a3=.texts
 r4:rl a4=.nums
 r5:rl a5=.writ
 r6:rl a6=.hid
 p0:kget k1 root=some .non/\kget k1 binn=some .non
 pr:∀i p,bU!∈W.rows->kget k1 i=some p
 row:∀x,Fs W x->∃r f p,kget k2 x=some ba_/\El t M r f p hc!/\rl r=.rO x/\rl f=.rF x/\rl p=.rP x
 rown:∀x,¬Fs W x->kget k2 x=none
 txt:∀x,x∈W.its->∃r f p,kget k3 x=some ba_/\El t M r f p n6_/\rl r=.tO x/\rl f=.tF x/\rl p=.tP x
 txtn:∀x,x∉W.its->kget k3 x=none
 num:∀x,x∈W.its->∃q,kget k4 x=some bW!/\M q=some fp!/\rl q=.nm x
 wr:∀x∈W.its,∀q∈W.txt x,kget k5 q.1=some q.2.1
 hi:∀x∈W.its,∀q∈W.txt x,(kget k6 q.1).isSome=!q.2.2
 hk:∀s,kget k6 s≠none->∃x,x∈W.its/\s∈(aG!).map c!
 l1:oc_<=hc
 l2:k2.length<=hc
 l3:k3.length<=hc
 l4:k4.length<=hc
 l5:k5.length<=hc
 l6:k6.length<=hc
 lr:ci_<=hc
 lt:∀x∈W.its,(aG!).length<=hc
 live:∀b,rl b≠.oth->M b≠none
def Cc(t:Aq)(M:Mh)(o:xY!)(rl:bV_)(W:OW)(hc:Nat):Prop:=∃a1 a2 a3 a4 a5 a6 k1 k2 k3 k4 k5 k6,Ru t M o rl W hc a1 a2 a3 a4 a5 a6 k1 k2 k3 k4 k5 k6
def Fr(M:Mh)(rl:bV_)(M':Mh)(ae:bV_):Prop:=∀b,M b≠none->rl b=.oth->M' b=M b/\ae b=.oth
def Fr.refl{M:Mh}{rl:bV_}:Fr M rl M rl:=λb _ h=>bV!
def Fr.trans{M M1 M2:Mh}{rl dq qo:bV_}(h1:Fr M rl M1 dq)(h2:Fr M1 dq M2 qo):Fr M rl M2 qo:=λb hb J=>by
 show"!l"
section
variable{t:Aq}{M:Mh}{o:xY!}{rl:Addr->Pd}{W:OW}{hc:Nat}{R:D->Mh->Prop}
def qO{W:OW}(w:By W)(h:cK!):∃k,De x=some k:=by
 obtain h|rfl|rfl:=h
 .exact(w.nm x h).key
 .exact H!
 .exact H!
def vF{W:OW}(w:By W):∀c∈chl W.rows x,∃k,De c=some k:=λc L=>by
 have:=gS.mp L;exact(w.nm c ((w.ri c).mp vT_)).key
def a4u{W:OW}:(hc!).length<=ci_:=by have:=(b4h (rows:=W.rows) (x:=x)).length_le;simpa using this
def b1w{W:OW}(w:By W)(Y:aV_):∀c∈(aG!).map c!,∃k,De c=some k:=λc L=>by
 obtain⟨q,hq,rfl⟩:=IS.mp L;exact(we_).key
def Ru.noOb{a1 a2 a3 a4 a5 a6:xY!}{k3:i_}(h:hd!)(hm:(X_).lookup m=none):Dh t.B4 m M Y!:=by simp[Dh,h.ob,hm]
def xP(h:az_)(hk:aP_)(hR:R (.bl (open Classical in decide (Fs W x))) M):Cn t ei_ M R:=by
 obtain⟨a1,a2,a3,a4,a5,a6,k1,k2,k3,k4,k5,k6,h⟩:=h;obtain⟨e2,h2⟩:=h.d2;refine j_;have e3:(kget k2 x).isSome=(open Classical in decide (Fs W x)):=by
  by_cases z:Fs W x
  .obtain⟨r,f,p,e,_⟩:=h.row x z;rw[e];simp[z]
  .rw[h.rown x z];simp[z]
 rw[<-e3]at hR;simpa[Na,Aw,w2,wl,Ay,Gq,Dz,Aa,h.ob,oF2,Il,h2,hk]using hR
def iC(h:az_)(hk:aP_)(hR:R (.bl (open Classical in decide hd_)) M):Ch t ei_ M R:=by
 obtain⟨a1,a2,a3,a4,a5,a6,k1,k2,k3,k4,k5,k6,h⟩:=h;obtain⟨e2,h2⟩:=h.d3;refine j_;have e3:(kget k3 x).isSome=(open Classical in decide hd_):=by
  by_cases z:x∈W.its
  .obtain⟨r,f,p,e,_⟩:=h.txt x z;rw[e];simp[z]
  .rw[h.txtn x z];simp[z]
 rw[<-e3]at hR;simpa[Iv,Aw,w2,wl,Ay,Gq,Dz,Aa,h.ob,oF3,Il,h2,hk]using hR
def a2l(h:az_)(hk:aP_)(Y:j2_)(hR:R p M):Fh t ei_ M R:=by obtain⟨a1,a2,a3,a4,a5,a6,k1,k2,k3,k4,k5,k6,h⟩:=h;obtain⟨e1,h1⟩:=h.d1;refine j_;simpa[Ie,Aw,w2,wl,Ay,Gq,Dz,Aa,h.ob,oF1,Bs,h1,hk,h.pr x p Y]using hR
def xY(h:az_)(w:By W)(hB:hc<4000)(Y:cK!)(hR:R he! M):Et t ei_ M R:=by obtain⟨a1,a2,a3,a4,a5,a6,k1,k2,k3,k4,k5,k6,h⟩:=h;obtain⟨e2,h2⟩:=h.d2;obtain⟨k,hk⟩:=qO w Y;obtain⟨r,f,p,e,J,_⟩:=h.row x Y;refine j_;simp[Gw,Aw,w2,wl,Ay,Gq,Dz,Aa,h.ob,oF2,Bs,h2,hk,e,Bc,Af,Dh,J.ob,rM];exact a0h J (by have:=a4u (W:=W) (x:=x);have:=h.lr;omega) (vF w) hR
def yO(h:az_)(w:By W)(Y:aV_)(hR:R fp! M):Ey t ei_ M R:=by
 obtain⟨a1,a2,a3,a4,a5,a6,k1,k2,k3,k4,k5,k6,h⟩:=h;obtain⟨e4,h4⟩:=h.d4;obtain⟨k,hk⟩:=(w.nm x Y).key;obtain⟨q,e,hq,_⟩:=h.num x Y;have hl:(bU_).length<=big:=by rw[w.nl x Y];decide
 refine j_;simpa[Hn,Aw,w1,Ab,Af,w2,wl,Ay,Gq,Dz,Aa,h.ob,oF4,Bs,h4,hk,e,Vy,Sn,hq,hl]using hR
end
def a0w:∀(xs ys:w!),Ij (xs.map D.int) (ys.map D.int)=(xs==ys)
 |[],[]=>by simp[Ij]
 |[],y::ys=>by simp[Ij]
 |x::xs,[]=>by simp[Ij]
 |x::xs,y::ys=>by simp[Ij,Ed,a0w xs ys]
def Sd(d:D):Prop:=d=.non\/(∃x,d=.str x)\/(∃i,d=.int i)\/∃ns:List Int,d=.tup jE_
def a7o:∀{xs ys:w!},xs.map D.int=ys.map D.int->xs=ys
 |[],[],_=>rfl
 |[],_::_,h=>by simp at h
 |_::_,[],h=>by simp at h
 |x::xs,y::ys,h=>by
  simp only[II,PL,D.int.injEq]at h;rw[h.1,a7o h.2]
def mS(Y:Sd x)(hy:Sd y):Ed x y=(open Classical in decide (x=y)):=by
 obtain rfl|⟨a,rfl⟩|⟨i,rfl⟩|⟨ns,rfl⟩:=Y<;>obtain rfl|⟨b,rfl⟩|⟨j,rfl⟩|⟨ms,rfl⟩:=hy<;>simp[Ed,a0w]
 all_goals
  rw[LU]
  first
   |(simp only[OB,JI,D.tup.injEq];exact⟨λz=>by rw[z],a7o⟩)
   |(simp only[OB,JI])
   |simp
def zZ:∀(ns:w!),Br pk!=true
 |[]=>by simp[Br]
 |n::ns=>by simp[Br,Bh,zZ ns]
def eC(h:Sd x):Bh x=true:=by obtain rfl|⟨a,rfl⟩|⟨i,rfl⟩|⟨ns,rfl⟩:=h<;>simp[Bh,zZ]
def a8g:∀(ns:w!),Dj pk!<=1
 |[]=>by simp[Dj]
 |n::ns=>by have:=a8g ns;simp[Dj,Hy];omega
def jT(h:Sd x):Hy x<=5:=by
 obtain rfl|⟨a,rfl⟩|⟨i,rfl⟩|⟨ns,rfl⟩:=h<;>simp[Hy]
 have:=a8g ns;omega
def Ig.sd(h:Ig x):Sd x:=by obtain⟨a,b,rfl⟩:=h;exact .inr oe_
def Pw.sd(h:Pw x):Sd x:=by obtain⟨a,b,c,rfl⟩:=h;exact .inr wf_
def iV(x:Str):Sd dP!:=.inr (.inl ⟨x,rfl⟩)
def a4i{W:OW}(w:By W)(h:cK!):Sd x:=by
 obtain h|rfl|rfl:=h
 .exact(w.nm x h).sd
 .exact iV _
 .exact iV _
def a2w(Y:Sd x)(hy:Sd y):Ep x y=some (.bl (!(open Classical in decide (x=y)))):=by unfold Ep;have:=jT Y;rw[eC Y,eC hy,mS Y hy];rw[IL bh_]
def nR(Y:Sd x)(hy:Sd y):Ax x y=some (.bl (open Classical in decide (x=y))):=by unfold Ax;have:=jT Y;rw[eC Y,eC hy,mS Y hy];rw[IL bh_]
section
variable{t:Aq}{M:Mh}{o:xY!}{rl:Addr->Pd}{W:OW}{hc:Nat}{R:D->Mh->Prop}
def El.keep{M':Mh}(h:ed!)(e1:M' r=M r)(e2:M' f=M f)(e3:M' p=M p):El t M' r f p xs:=by obtain⟨kf,ef,kp,ep,hf,hp,K⟩:=h.dc;exact⟨e1.trans h.ob,⟨kf,ef,kp,ep,e2.trans hf,e3.trans hp,K⟩,h.ne⟩
def El.live(h:ed!):M r≠none/\M f≠none/\M p≠none:=by obtain⟨kf,ef,kp,ep,hf,hp,K⟩:=h.dc;exact⟨by rw[h.ob];simp,by rw[hf];simp,by rw[hp];simp⟩
def pZ{ρ:Ae}(hR:∀r f p M',M r=none->M f=none->M p=none->r≠f->r≠p->El t M' r f p []->(∀b,b≠r->b≠f->b≠p->M' b=M b)->R ba_ M'):Hh t.B5 1 (Hs t) Af ρ M R:=by
 refine⟨rfl,λr J=>j_⟩;have nf:∀{f:xY!},Az M r (.obj t.B5 []) f=none->f≠r/\M f=none:=λ{f} z=>by
  by_cases e:f=r
  .rw[e,mup_same]at z;cases z
  .rw[mup_ne e]at z;exact⟨e,z⟩
 intro f hf;obtain⟨f1,f2⟩:=nf hf;refine⟨mup_same,U!,by simp[De],G_,?_⟩;simp[wl,Aa,mup_ne,mup_same,IB f1,Bn];intro p hp;have p1:p≠r:=λe=>by rw[e,mup_same]at hp;cases hp
 rw[og!]at hp;have p2:p≠f:=λe=>by rw[e,mup_same]at hp;cases hp
 rw[mup_ne p2,mup_ne p2,og!]at hp;simp[Em,No,wl,fC,Aa,mup_ne,mup_same,IB f1,IB p1,Bn,De];have bf:¬(Str.ofString "following"=Str.ofString "preceding"):=by decide+kernel
 refine hR r f p _ J f2 hp (IB f1) (IB p1) ⟨mup_same,⟨jJ_,1,jJ_,1,?_,?_,b8c⟩,IB p2⟩ λb h1 h2 h3=>?_
 .rw[mup_ne f1,wh_,wh_,mup_ne f1,mup_same]
 .rw[og!,mup_same]
 .rw[ck!,oh!,oh!,ck!,cL_,cL_,ck!]
def a9p{W:OW}(w:By W)(h:aV_):∃p,bb!∈W.rows:=by obtain⟨⟨a,p⟩,hq,rfl⟩:=IS.mp ((w.ri x).mpr h);exact⟨p,hq⟩
def sI{W:OW}(w:By W)(h:x∉W.its):∀p,bb!∉W.rows:=λp z=>h ((w.ri x).mp vy_)
def b2m{W:OW}(w:By W):root∉W.its:=λz=>(w.nm _ z).nn.2.1 rfl
def c2z{W:OW}(w:By W):binn∉W.its:=λz=>(w.nm _ z).nn.2.2 rfl
def d1x(h:Ig x\/x=root\/x=binn):x≠.non:=by
 obtain h|rfl|rfl:=h
 .exact h.nn.1
 .show"!c"
 .show"!c"
def c9x{W:OW}(w:By W)(h:cK!):x≠.non:=d1x (h.imp_left (w.nm x))
def tG{k3:i_}(h:hd!)(w:By W)(hi:Ig i){rk:D->Nat}(ig:wi_):
  ∀(n:Nat) (x:D),rk x<n->Fs W x->∀(R':o!),(Wn W.rows i x->R' (.nx [F_,M!,M!]) M)->(¬Wn W.rows i x->R' (.nx [F_,some .non,M!]) M)->
   ∃m,Dg gx! gx_ m oi! M R'
 |0,x,hn,_,_,_,_=>by omega
 |n+1,x,hn,Y,R',r1,r2=>by
  obtain⟨e1,h1⟩:=h.d1;have x0:=c9x w Y;have ne:=a2w (a4i w Y) hi.sd;by_cases e:x=i
  .subst e;have:=r1 .here;refine fq!;simpa[Dg,Cv,Db,fT,f2,Aa,fC,Ap,kD x0,ne]using this
  .have st:∀(p:D) (m:Nat),kget k1 x=some p->Dg gx! gx_ m [F_,cM!,M!] M R'->
     Dg gx! gx_ (m+1) oi! M R':=λp m hp hw=>by
    obtain⟨k,hk⟩:=qO w Y;rw[Dg];simpa[Cv,Db,fT,f2,Aa,fC,Ap,kD x0,ne,e,Ao,w2,wl,Ay,Gq,Dz,h.ob,oF1,Bs,h1,hk,hp]using hw
   have top:kget k1 x=some .non->wj!->∃m,Dg gx! gx_ m oi! M R':=λhp J=>by
    have:=r2 (b7d J e);refine⟨1+1,st .non 1 hp ?_⟩;simpa[Dg,Cv,Db,fT,f2,Aa,fC,Ap,Cm]using this
   obtain Y|rfl|rfl:=Y
   .obtain⟨p,hp⟩:=a9p w Y;have q:=a8y w.rnd hp e;have:=ig _ _ hp;obtain⟨m,hm⟩:=tG h w hi ig n p a! (w.rp _ _ hp) R' wj_ (λz=>r2 λy=>z (q.mp y));exact⟨m+1,st p m (h.pr _ _ hp) hm⟩
   .exact top h.p0.1 (sI w (b2m w))
   .exact top h.p0.2 (sI w (c2z w))
def a4h(h:az_)(w:By W)(Y:cK!)(hi:Ig i)(hR:R (.bl (open Classical in decide (Wn W.rows i x))) M):Fi t [bc!,x,i] M R:=by
 obtain⟨a1,a2,a3,a4,a5,a6,k1,k2,k3,k4,k5,k6,h⟩:=h;obtain⟨rk,ig⟩:=w.rk;obtain⟨m,hm⟩:=tG h w hi ig (rk x+1) x a! Y (λr M1=>match r with|.nx ah=>Aw (wl iQ_) ah M1 hf_|.rt d=>R d M1)
  (λz=>by simp only[z,QH]at hR;simpa[Aw,wl,f2,Aa,fC,Ap,kD hi.nn.1]using hR)
  (λz=>by simp only[z,QV]at hR;simpa[Aw,wl,f2,Aa,fC,Ap,Cm]using hR)
 refine j_;exact⟨m,hm⟩
def a8o(h:az_)(w:By W)(cn:fq_)(gh:oi_)(hR:∀b:Bool,(b=true↔ej_)->R bM! M):Fu t [bc!,i,x] M R:=by
 have h':=h;show"!3";simp only[Iw,Aw,Iq,wT,Bc,wl,Ab,Af,Aa];simp[oj!];show"!e"
 .simp only[c1,QH,KG];refine⟨O.noOb oM1,?_⟩;refine xP h gh ?_;by_cases c2:Fs W x
  .simp only[c2,QH,KG,Xb,wT,Bc,wl,Ab,Af,Aa];refine⟨O.noOb oM3,rfl,?_⟩;refine a4h h w c2 (w.nm i c1) ?_;exact hR _ (by simp[c1,c2])
  .simp only[c2,QV];exact hR _ (by simp[c2])
 .simp only[c1,QV];exact hR _ (by simp[c1])
def yG{p n:Int}(h:az_)(w:By W)(cn:fq_)(p0:0<=p)(p3:p<=3)
  (hR:∀M',Cc t M' o rl (open Classical in if i∈W.its then Tp W i oj_ else W) hc->Fr M rl M' rl->R .non M'):Ex t [bc!,i,.int p,aM_] M R:=by
 have h':=h;show"!3";simp only[Hm,Au,wT,Bc,wl,Ab,Af,Aa];simp[Dh,O.ob,oM2];show"!e"
 .simp only[c1,KG]at hR;obtain⟨e4,h4⟩:=O.d4;obtain⟨q,e,hq,j2⟩:=O.num i c1;have Y:Eg (j5!).length p=some p.toNat:=by
   rw[w.nl i c1];unfold Eg;rw[IL p0,a1!]
  have av:∀b,rl b≠.nm i->Az M q (.lst oj_) b=M b:=λb hb=>mup_ne λz=>hb wl_;have fin:R .non (Az M q (.lst oj_)):=by
   refine hR _ ⟨a1,a2,a3,a4,a5,a6,k1,k2,k3,k4,k5,k6,?_⟩ λb hb J=>wn!;refine{O with ob:=?_,d1:=?_,d2:=?_,d3:=?_,d4:=?_,d5:=?_,d6:=?_,row:=?_,txt:=?_,num:=?_,live:=?_}
   .rw[av o N_];exact O.ob
   .rw[av a1 bX!];exact O.d1
   .rw[av a2 aA!];exact O.d2
   .rw[av a3 aX!];exact O.d3
   .rw[av a4 aX_];exact O.d4
   .rw[av a5 aN!];exact O.d5
   .rw[av a6 aA_];exact O.d6
   .show"!u"
   .intro x Y;obtain⟨r,f,p',g1,g2,g3,g4,g5⟩:=O.txt x Y;exact ol!
   .intro x Y;by_cases c:x=i
    .subst c;refine⟨q,e,?_,j2⟩;rw[mup_same];simp[Tp]
    .obtain⟨q',g1,g2,g3⟩:=O.num x Y;refine⟨q',g1,?_,g3⟩;rw[av q' (by rw[g3];simpa using c),g2];simp[Tp,c]
   .intro b hb;by_cases c:b=q
    .rw[c,mup_same];simp
    .rw[mup_ne c];show"#-"
  simpa[c1,Cd,w2,wl,Ay,Gq,Dz,Aa,O.ob,oF4,Bs,h4,cn,e,Lc,hq,Y]using fin
 .simp only[c1,JT]at hR;have:=hR M h .refl;simpa[c1,Bo]using this
end
end K13
namespace K13
open PySem L2 DL
open Classical
section
variable{t:Aq}{M:Mh}{o:xY!}{rl:Addr->Pd}{W:OW}{hc:Nat}{R:D->Mh->Prop}
def Cc.mono{B':Nat}(h:az_)(hb:hc<=B'):Cc t M o rl W B':=by obtain⟨a1,a2,a3,a4,a5,a6,k1,k2,k3,k4,k5,k6,O⟩:=h;exact⟨a1,a2,a3,a4,a5,a6,k1,k2,k3,k4,k5,k6,{O with l1:=JL O.l1 hb,l2:=JL O.l2 hb,l3:=JL O.l3 hb,l4:=JL O.l4 hb,l5:=JL O.l5 hb,l6:=JL O.l6 hb,lr:=JL O.lr hb,lt:=λx Y=>JL j6! hb}⟩
def rK(i:D):setT W i bo!=W:=by
 unfold setT;cases W with
 |mk a b c d=>
  congr 1;funext x;split
  .rename_i e;rw[e]
  .rfl
open Classical in
nonrec def cutT(cu:c_)(l:ae_):List ee_:=l.map λq=>ol_
def c2q(l:ae_):cutT [] l=l:=by unfold cutT;simp
def pH(g:c_)(l:ae_):(cutT g l).map c!=l.map c!:=by unfold cutT;simp
def a8k(g:c_)(s:D)(l:ae_):cutT [s] (cutT g l)=cutT (g++[s]) l:=by unfold cutT;rw[JV];apply LD;intro q _;simp only[Function.comp,IK];congr 2;rw[Bool.and_assoc];congr 1;by_cases h1:q.1∈g<;>by_cases h2:q.1∈[s]<;>simp[h1,h2]
def c6o{l:ae_}(h:s∉l.map c!):cutT [s] l=l:=by
 conv=>rhs;rw[<-QK l]
 apply LD;intro q hq;have:q.1≠s:=λz=>h jW!;simp[this]
def a1d(w:By W)(hi:g8_)(g:c_):By om_:=by
 refine rH w hi (by rw[pH];exact w.snd i hi) em! on!
 .show"!:";exact w.sg i hi q0 h0
 .show"!:";exact(w.su i hi y hy q0 h0 q' a7 e).symm
def rJ(i:D)(l l':ae_):setT (setT W i l) i l'=setT W i l':=by unfold setT;congr 1;funext x;dsimp only;split<;>rfl
def a1y(i:D)(l:ae_):(setT W i l).txt i=l:=by simp[setT]
def c5s{ks:MK}{k3:i_}{e6:Nat}(O:hd!)(w:By W)(hi:g8_)(hs:s∈(bo!).map c!):
  Ru t (Az M a6 oo!) o rl op! fr_ a1 a2 a3 a4 a5 a6 k1 k2 k3 k4 k5 on_/\Fr M rl (Az M a6 oo!) rl:=by
 have av:∀b,rl b≠.hid->Az M a6 oo! b=M b:=λb hb=>mup_ne λz=>hb (by rw[z];exact O.r6);refine⟨?_,λb hb J=>wn!⟩;have up:∀{x:Nat},x<=hc->x<=hc+1:=λh=>Nat.le_succ_of_le h;refine{O with ob:=?_,d1:=?_,d2:=?_,d3:=?_,d4:=?_,d5:=?_,d6:=j7!,row:=?_,txt:=?_,num:=?_,live:=?_,wr:=?_,hi:=?_,l1:=up O.l1,l2:=up O.l2,l3:=up O.l3,l4:=up O.l4,l5:=up O.l5,l6:=JL ed_ (Nat.succ_le_succ O.l6),lr:=up O.lr,lt:=?_,hk:=?_}
 .rw[av o N_];exact O.ob
 .rw[av a1 bX!];exact O.d1
 .rw[av a2 aA!];exact O.d2
 .rw[av a3 aX!];exact O.d3
 .rw[av a4 aX_];exact O.d4
 .rw[av a5 aN!];exact O.d5
 .show"!u"
 .intro x Y;obtain⟨r,f,p',g1,g2,g3,g4,g5⟩:=O.txt x Y;refine⟨r,f,p',g1,?_,g3,g4,g5⟩;have e:((op!).txt x).map c!=(aG!).map c!:=by
   show wt_;split
   .rename_i z;rw[z,pH]
   .rfl
  rw[e];exact g2.keep (av _ do_) (av _ el!) (av _ el_)
 .intro x Y;obtain⟨q,g1,g2,g3⟩:=O.num x Y;exact⟨q,g1,(av q do_).trans g2,g3⟩
 .show∀x∈W.its,∀q∈j7_,kget k5 q.1=some q.2.1;intro x Y;split
  .intro q hq;show"!:";exact O.wr i hi q0 h0
  .exact O.wr x Y
 .show∀x∈W.its,∀q∈j7_,(kget on_ q.1).isSome=!q.2.2;intro x Y;split
  .intro q hq;show"!:";by_cases c:q0.1=s
   .rw[c,dL];simp
   .rw[dQ (IB c),O.hi i hi q0 h0];simp[c]
  .rename_i c;intro q hq;have:s≠q.1:=λz=>by
    obtain⟨q0,h0,e0⟩:=IS.mp hs;exact c (w.su x Y i hi q hq q0 h0 (by rw[<-z,e0]))
   rw[dQ this];exact O.hi x Y q hq
 .intro s' bu;have nm:∀x,((op!).txt x).map c!=(aG!).map c!:=λx=>by
   show wt_;split
   .rename_i z;rw[z,pH]
   .rfl
  by_cases c:s=s'
  .subst c;exact⟨i,hi,by rw[nm];exact hs⟩
  .rw[dQ c]at bu;obtain⟨x,h1,h2⟩:=O.hk s' bu;exact⟨x,h1,by rw[nm];exact h2⟩
 .show∀x∈W.its,(j7_).length<=hc+1;intro x Y;split
  .rw[show(wq_).length=(bo!).length by unfold cutT;simp];exact up (O.lt i hi)
  .exact up j6!
 .intro b hb;by_cases c:b=a6
  .rw[c,mup_same];simp
  .rw[mup_ne c];show"#-"
abbrev CU(t:Aq):WS:=(Ai sJ!
 sL!)
def xW{x y z m:Int}(hi:g8_)(w:By W):∀(js:w!) (M:Mh) (g:c_) (hc:Nat) (tz zz:al_) (R:o!),hc+js.length<4000->Cc t M o rl om_ hc->
  (∀M' ρ,Cc t M' o rl (setT W i (cutT (g++js.map λj=>.tup ka!) bo!)) (hc+js.length)->Fr M rl M' rl->R aH_ M')->
  Jc (Cs 4) ah! (CU t) (js.map .int) [F_,M!,some em_,some bX_,tz,zz] M R
 |[],M,g,hc,tz,zz,R,hB,h,hR=>⟨trivial,hR M _ kq_ .refl⟩
 |j::js,M,g,hc,tz,zz,R,hB,h,hR=>by
  refine aY!;have w2:=a1d w hi g;obtain⟨ki,cn⟩:=(hj_).key;have fg:=h;obtain⟨a1,a2,a3,a4,a5,a6,k1,k2,k3,k4,k5,k6,O⟩:=fg;obtain⟨r,f,p,g1,g2,g3,g4,g5⟩:=O.txt i hi;obtain⟨e3,h3⟩:=O.d3;obtain⟨e6,h6⟩:=O.d6;have l6:k6.length<big:=by have:=O.l6;unfold big;simp at hB;omega
  simp only[IQ]at hB hR;have uj:An kb_ (.tup [dV_])=some hk!:=by simp[An,big]
  have uk:Bm em_ none (some 2)=some kb_:=by simp[Bm,Cr,HT.sIx]
  simp[Dz,Cs,Ai,Ao,wl,f2,Ea,Aa,As,Ar,fC,Ba,Ac,Ag,uk,uj,Au,wT,Bc,DL.w2,Ay,Gq,O.ob,oF3,Bs,h3,cn,g1,Dh,g2.ob,Ab,Af,rM,-List.lookup_eq_none_iff];refine a7r g2 di! ?_;by_cases c:D.tup ka!∈((om_).txt i).map c!
  .simp only[c,QH,KG];obtain⟨q1,q2⟩:=c5s (ks:=none) (e6:=Gb k6 hk! e6) O w2 hi c;rw[rJ,a1y,a8k]at q1;have:=xW (z:=z) (m:=m) hi w js _ oq! fr_ (some dq!) (some hk!) R a! wB! (λM' ρ h' f'=>hR M' ρ wC! (q2.trans f'));simpa[Cd,wl,Ay,Gq,Dz,Aa,fC,O.ob,oF6,Lc,h6,show De hk!=some _ from rfl,l6]using this
  .simp only[c,QV];have q1:Cc t M o rl (setT W i (cutT oq! bo!)) fr_:=by
    rw[<-a8k,c6o (by rw[a1y]at c;exact c)];exact h.mono (QJ hc)
   have:=xW (z:=z) (m:=m) hi w js M oq! fr_ (some dq!) (some hk!) R a! q1 (λM' ρ h' f'=>hR M' ρ wC! f');simpa[Bo]using this
def d0u{x y z m:Int}(h:az_)(w:By W)(cn:fq_)(hB:hk_)(z0:0<=z)(m1:1<=m)(m16:z+m<=16)
  (hR:∀M',Cc t M' o rl (open Classical in if i∈W.its then setT W i (cutT wD_ bo!)else W) bo_->Fr M rl M' rl->R .non M'):
  Jp t [bc!,i,.tup ka_,en_] M R:=by
 have h':=h;show"!3";simp only[Nb,Ai,Au,Mj,wT,Bc,wl,Ab,Af,Aa];simp[oj!];show"!e"
 .simp only[c1,KG]at hR;have J:Sx dX_ sH! [F_,M!,some em_,some bX_,none,none]=some ((wF!).map D.int):=by
   have e1:Ah em_ bz!=some (.int z):=rfl;have e2:(z+m - z).toNat=m.toNat:=by congr 1;omega
   have b:-1000<=z/\z<=100000/\-1000<=z+m/\z+m<=100000:=by omega
   simp[Sx,f2,Aa,fC,e1,An,b,e2,So,Function.comp]
  have:=xW (t:=t) (o:=o) (rl:=rl) (x:=x) (y:=y) (z:=z) (m:=m) c1 w wF! M [] hc none none hf_ bh_ (by rw[c2q,rK];exact h) (λM' ρ h2 f2=>hR M' (by
   simp only[JS,JV,IP,NG]at h2;exact h2.mono a!) f2)
  simp only[c1,QH,MF,JH,JT,Bo,Dx,Hf,Dz,J];show"#H"
 .simp only[c1,JT]at hR;have:=hR M (h.mono a!) .refl;simpa[c1,Qd]using this
def EC(cv:D)(U l:ae_):Prop:=(U=[]/\cv∉l.map c!)\/∃u' q,U=u'++[q]/\q.1=cv/\cv∉u'.map c!
def EC.names(h:EC cv U hl_):Pv s cv ((hl_).map c!)=(wG_).map c!:=by
 obtain⟨rfl,h⟩|⟨u',q,rfl,e,h⟩:=h
 .unfold Pv;rw[IA h];simp
 .unfold Pv;rw[IL hm!];simp only[JF,II,NV,KI,OL,JS];rw[e,lF h]
def b7a{M1:Mh}{e5:Nat}{k3:i_}(O:hd!)(w:By W)(hi:g8_)
  (hl:W.txt i=U++v)(hb:EC cv U hl_)(hs:Pw s)(hf:∀x∈W.its,s∉(aG!).map c!)(g3:rl r=.tO i)(g4:rl f=.tF i)(g5:rl p=.tP i)(g1:kget k3 i=some ba_)
  (J:El t M1 r f p (Pv s cv ((bo!).map c!)))(fr:∀b,b≠f->b≠p->M1 b=M b):
  Ru t wI! o rl os_ fr_ a1 a2 a3 a4 a5 a6 k1 k2 k3 k4 (At k5 s c) k6/\Fr M rl wI! rl/\By os_:=by
 have av:∀b,rl b≠.writ->rl b≠.tF i->rl b≠.tP i->Az M1 a5 or_ b=M b:=λb h1 h2 h3=>by
  rw[mup_ne λz=>h1 wH_];exact fr b (λz=>h2 (by rw[z];exact g4)) (λz=>h3 (by rw[z];exact g5))
 have up:∀{x:Nat},x<=hc->x<=hc+1:=λh=>Nat.le_succ_of_le h;have n5:∀b,rl b≠.writ->Az M1 a5 or_ b=M1 b:=λb h1=>mup_ne λz=>h1 wH_;have tx:∀x,(os_).txt x=if x=i then U++(s,c,true)::v else W.txt x:=λx=>rfl
 have si:s∉(hl_).map c!:=by rw[<-hl];exact hf i hi
 refine⟨?_,λb dm qq=>⟨av b ot! ot! ot!,qq⟩,?_⟩
 .refine{O with ob:=?_,d1:=?_,d2:=?_,d3:=?_,d4:=?_,d5:=j7!,d6:=?_,row:=?_,txt:=?_,num:=?_,live:=?_,wr:=?_,hi:=?_,hk:=?_,l1:=up O.l1,l2:=up O.l2,l3:=up O.l3,l4:=up O.l4,l5:=JL ed_ (Nat.succ_le_succ O.l5),l6:=up O.l6,lr:=up O.lr,lt:=?_}
  .rw[av o N_ N_ N_];exact O.ob
  .rw[av a1 bX! bX! bX!];exact O.d1
  .rw[av a2 aA! aA! aA!];exact O.d2
  .rw[av a3 aX! aX! aX!];exact O.d3
  .rw[av a4 aX_ aX_ aX_];exact O.d4
  .rw[av a6 aA_ aA_ aA_];exact O.d6
  .intro x Y;obtain⟨r',f',p',q1,q2,q3,q4,q5⟩:=O.row x Y;exact⟨r',f',p',q1,q2.keep wJ! (av _ hn! hn! hn!) (av _ hn_ hn_ hn_),q3,q4,q5⟩
  .intro x Y;by_cases z:x=i
   .subst z;refine wK!;rw[tx,l_,<-hb.names,<-hl];exact J.keep (n5 _ do_) (n5 _ el!) (n5 _ el_)
   .obtain⟨r',f',p',q1,q2,q3,q4,q5⟩:=O.txt x Y;refine⟨r',f',p',q1,?_,q3,q4,q5⟩;rw[tx,IA z];exact q2.keep wJ! (av _ hn! (by rw[q4];simpa using z) hn!) (av _ hn_ hn_ (by rw[q5];simpa using z))
  .intro x Y;obtain⟨q,q1,q2,q3⟩:=O.num x Y;exact⟨q,q1,(av q fu_ fu_ fu_).trans q2,q3⟩
  .intro x Y q hq;rw[tx]at hq;by_cases z:x=i
   .subst z;rw[l_]at hq;obtain q0|q0:=IK.mp hq
    .rw[dQ λy=>si (by rw[y];exact IJ (JE _ q0))];exact O.wr x hi q ke!
    .obtain rfl|q0:=HY.mp q0
     .rw[dL]
     .rw[dQ λy=>si (by rw[y];exact IJ (IE _ q0))];exact O.wr x hi q ke_
   .rw[IA z]at hq;rw[dQ λy=>hf x Y (by rw[y];exact IJ hq)];exact O.wr x Y q hq
  .intro x Y q hq;rw[tx]at hq;by_cases z:x=i
   .subst z;rw[l_]at hq;obtain q0|q0:=IK.mp hq
    .exact O.hi x hi q ke!
    .obtain rfl|q0:=HY.mp q0
     .cases q:kget k6 s with
      |none=>simp[q]
      |some y=>
       obtain⟨x',h1,h2⟩:=O.hk s cg!;exact absurd h2 (hf x' h1)
     .exact O.hi x hi q ke_
   .rw[IA z]at hq;exact O.hi x Y q hq
  .intro s' bu;obtain⟨x,h1,h2⟩:=O.hk s' bu;refine⟨x,h1,?_⟩;rw[tx];by_cases z:x=i
   .subst z;rw[l_];rw[hl]at h2;simp only[JF,II,IK,HY]at h2 ⊢;obtain h2|h2:=h2
    .exact .inl h2
    .exact .inr (.inr h2)
   .rw[IA z];exact h2
  .intro x Y;rw[tx];by_cases z:x=i
   .subst z;have:=O.lt x hi;rw[hl]at this;simp at this ⊢;omega
   .rw[IA z];exact up j6!
  .intro b dm;by_cases z:b=a5
   .rw[z,mup_same];simp
   .rw[kf!];by_cases z1:b=f
    .rw[z1];exact J.live.2.1
    .by_cases z2:b=p
     .rw[z2];exact J.live.2.2
     .rw[fr b z1 z2];exact O.live b dm
 .refine rH w hi ?_ em! on!
  .have:=w.snd i hi;rw[hl]at this;simp only[JF,II]at this si ⊢;rw[JJ]at this ⊢;rw[IK,PD]at si;refine⟨this.1,IV.mpr ⟨si.2,kf_⟩,λa ha b dm=>?_⟩;obtain rfl|dm:=HY.mp dm
   .exact λz=>si.1 jL!
   .exact this.2.2 a ha b dm
  .obtain q0|q0:=IK.mp hq
   .exact w.sg i hi q ke!
   .obtain rfl|q0:=HY.mp q0
    .exact hs
    .exact w.sg i hi q ke_
  .obtain q0|q0:=IK.mp hq
   .exact(w.su i hi y hy q ke! q' a7 e).symm
   .obtain rfl|q0:=HY.mp q0
    .have e':s=q'.1:=e;exact absurd (by rw[e'];exact IJ a7) (hf y hy)
    .exact(w.su i hi y hy q ke_ q' a7 e).symm
def FR(t:Aq):WS:=(Ai mR_
 (Ai sE_
 (Ai sG!
 (Ao 5 e1_))))
nonrec def sgn(h n:Int)(q:Nat×Nat):D×D×Bool:=(.tup [aN_,aM_,.int qm_],.str ⟨#[q.1]⟩,true)
nonrec def eN(q:Nat×Nat):D:=.tup AF_
def vH{h n:Int}:∀(cs:k!) (k0:Nat) (M:Mh) (W:OW) (hc:Nat) (U v:ae_) (cv:D) (ka:MK) (z6 z7 qr:al_) (R:o!),hc+cN!<4000->Cc t M o rl W hc->By W->i∈W.its->W.txt i=U++v->EC cv U hl_->De cv=some ka->
  (∀x∈W.its,∀k':Nat,k0<=k'->D.tup wN!∉(aG!).map c!)->
  (∀M' ρ,Cc t M' o rl wO! (hc+cN!)->By wO!->Fr M rl M' rl->R aH_ M')->
  Jc (Wc 6 7) ah! (FR t) ((ou!).map eN) [F_,bp!,M!,eo_,some tx,some cv,z6,z7,qr] M R
 |[],k0,M,W,hc,U,v,cv,ka,z6,z7,qr,R,hB,hO,w,hi,hl,hb,hk,hf,hR=>by
  refine⟨trivial,hR M _ ?_ ?_ .refl⟩
  .simp only[QY,NV,JA,MO,Nat.add_zero];rw[<-hl,rK];exact hO
  .simp only[QY,NV,JA];rw[<-hl,rK];exact w
 |c::cs,k0,M,W,hc,U,v,cv,ka,z6,z7,qr,R,hB,hO,w,hi,hl,hb,hk,hf,hR=>by
  refine aY!;obtain⟨ki,cn⟩:=(hj_).key;obtain⟨a1,a2,a3,a4,a5,a6,k1,k2,k3,k4,k5,k6,O⟩:=hO;obtain⟨r,f,p,g1,g2,g3,g4,g5⟩:=O.txt i hi;obtain⟨e3,h3⟩:=O.d3;obtain⟨e5,h5⟩:=O.d5;simp only[IQ]at hB hR;have l5:k5.length<big:=by have:=O.l5;unfold big;omega
  have hs:Pw cl!:=wO_;have z8:∀x∈W.its,D.tup kg_∉(aG!).map c!:=λx Y=>hf x Y k0 x_;have uj:An af! (.tup [.int (k0:Nat)])=some cl!:=by simp[An,big]
  have hm:Dh t.B5 "put_behind" M ba_:=by simp only[Dh,g2.ob,rM.1,and_self]
  have Y:∀R',w2 Bs e0! z_ ov_ M R'=R' ba_ M:=by
   intro R';simp[w2,wl,Ay,Gq,O.ob,oF3,Bs,h3,cn,g1,Dz,Aa]
  show FR t ow! M _;show Ai mR_ _ ow! M _;have e8:f2 An u_ (Ba gz!) ow!=some cl!:=by
   simp[f2,Aa,Ba,Ac,Ag,uj]
  simp only[Ai,Ao,wl,e8,List.set_cons_succ,List.set_cons_zero,Bz,Bc,Y];refine⟨hm,rfl,?_⟩;refine jK g2 di! hk hs.nn (z8 i hi) (by have:=O.lt i hi;simp;omega) (b1w w hi) λM1 J fr=>?_;have h5':M1 a5=some (.dct k5 e5):=by
   rw[fr a5 (λz=>by have:=O.r5;rw[z,g4]at this;cases this) (λz=>by have:=O.r5;rw[z,g5]at this;cases this)];exact h5
  have ob':M1 o=some wc_:=by
   rw[fr o (λz=>by have:=O.ro;rw[z,g4]at this;cases this) (λz=>by have:=O.ro;rw[z,g5]at this;cases this)];exact O.ob
  obtain⟨q1,q2,q3⟩:=b7a (c:=gV!) (e5:=Gb k5 cl! e5) O w hi hl hb hs z8 g3 g4 g5 g1 J fr;have hU:U++wS!::v=(U++[wS!])++v:=by simp
  have:=vH (b:=b) (tx:=tx) (h:=h) (n:=n) cs (k0+1) _ wT! fr_ (U++[ox!]) v cl! _ (some wP!) (some gU_) (some cl!) R
   (a!) wB! q3 hi (by rw[a1y,hU]) (.inr ⟨U,_,rfl,rfl,λz=>z8 i hi wT_⟩) di!
   (λx Y k' cr z=>by
    have tx:(wT!).txt x=if x=i then U++ox!::v else W.txt x:=rfl
    rw[tx]at z;by_cases y:x=i
    .subst y;rw[l_]at z;simp only[JF,II,IK,HY]at z;obtain z|z|z:=z
     .exact hf x hi k' a! wT_
     .simp at z;omega
     .exact hf x hi k' a! (by rw[hl,JF];exact IE _ z)
    .rw[IA y]at z;exact hf x Y k' a! z)
   (λM' ρ h1 h2 f'=>hR M' ρ (by
    rw[rJ]at h1;rw[show hc+(cs.length+1)=hc+1+cs.length by omega,QR];simpa[sgn]using h1) (by
    rw[rJ]at h2;simpa[sgn]using h2) (q2.trans f'))
  have hp:∀R',Cd sF! e1_ (wl aT!) ov_ M1 R'=R' (.nx ov_) (Az M1 a5 (.dct (At k5 cl! gU_) (Gb k5 cl! e5))):=by
   intro R';simp[Cd,wl,Ay,Gq,Dz,Aa,fC,ob',oF5,Lc,h5',show De cl!=some _ from rfl,l5]
  simp only[hp];show"#H"
def b7c{h n:Int}{s:Str}(hO:az_)(w:By W)(cn:fq_)(z9:De b=some kb)(hB:hk_)(hs:jT_)
  (hf:∀x∈W.its,∀k':Nat,D.tup wN!∉(aG!).map c!)
  (hR:∀M',Cc t M' o rl wU! bo_->By wU!->Fr M rl M' rl->R .non M'):
  Hz t [bc!,hp!,i,b,ep_] M R:=by
 have h':=hO;show"!3";simp only[Kv,Ai,Au,Mj,wT,Bc,wl,Ab,Af,Aa];simp[oj!];refine iC hO cn ?_;by_cases c1:i∈W.its
 .simp only[c1,KG]at hR;obtain⟨U,v,e1,e2,e3⟩:=rD b ep! bo!;have hl:ho_<=16:=by simpa[Str.length]using hs
  have hi:Sy P_ [F_,bp!,M!,eo_,some aO!,eo_,none,none,none]=some (s.cps.toList.zipIdx.map eN):=by
   simp[Sy,Aa,eN]
  have:=vH (t:=t) (o:=o) (rl:=rl) (b:=b) (tx:=ep_) (h:=h) (n:=n) s.cps.toList 0 M W hc U v b kb none none none hf_ a! hO w c1 e1 (by rw[<-e1];exact e3) z9 (λx Y k' _=>hf x Y k')
   (λM' ρ h1 h2 f'=>hR M' (by rw[<-e2]at h1;exact h1.mono a!) (by rw[<-e2]at h2;exact h2) f')
  simp only[c1,QH,MF,JH,JT,Bo,Ao,wl,Dx,Hf,Dz];simp only[Aa,List.getElem?_cons_zero,QM,Option.join_some,List.set_cons_succ,List.set_cons_zero];show"#H"
 .simp only[c1,JT]at hR;have:=hR M oA! w .refl;simpa[c1,Qd]using this
def aU{N:Mh}(hb:N b≠none)(L:N c=none):b≠c:=λz=>hb (by rw[z];exact L)
def c2u(h:∀i,(i,x)∉rows):chl rows x=[]:=by
 cases e:chl rows x with
 |nil=>rfl
 |cons a l=>exact absurd (gS.mp (by rw[e];simp:a∈chl rows x)) (h a)
def El.rne(h:ed!):r≠f/\r≠p:=by
 obtain⟨kf,ef,kp,ep,hf,hp,K⟩:=h.dc;refine⟨cR_,cR_⟩
 .have:=h.ob;rw[z,hf]at this;cases this
 .have:=h.ob;rw[z,hp]at this;cases this
def b8m{f1 p1 f2 p2:xY!}{k3:i_}{M2 M3 M5:Mh}{e1 e2 e3 e4:Nat}(O:hd!)(w:By W)(hn:n7_)(ht:Ig n)(hp:Fs W pl)
  (hg:Rm W.rows n pl b rows')(g1:kget k2 pl=some ba_)(g3:rl r=.rO pl)(g4:rl f=.rF pl)(g5:rl p=.rP pl)
  (R2:El t M2 r f p (Pv n b (chl W.rows pl)))(K2:∀c,c≠f->c≠p->M2 c=Az M a1 (.dct oA_ e1) c)
  (z1:M2 r1=none)(z2:M2 f1=none)(z3:M2 p1=none)(R3:El t M3 r1 f1 p1 [])(K3:∀c,c≠r1->c≠f1->c≠p1->M3 c=M2 c)
  (y1:Az M3 a2 hp_ r2=none)(y2:Az M3 a2 hp_ f2=none)(y3:Az M3 a2 hp_ p2=none)(R5:El t M5 r2 f2 p2 [])(K5:∀c,c≠r2->c≠f2->c≠p2->M5 c=Az M3 a2 hp_ c)
  (x1:Az M5 a3 oC! q=none):
  ∃ae,Ru t wV_ o ae bb_ bo_ a1 a2 a3 a4 a5 a6 oA_ oB! oB_ (At k4 n bW!) k5 k6/\
   Fr M rl wV_ ae:=by
 have bc:∀{c d:xY!},rl c≠rl d->c≠d:=λh z=>h kh_;have lv:∀c,rl c≠.oth->M c≠none:=O.live;have A1:M a1≠none:=lv _ bX!;have A2:M a2≠none:=lv _ aA!;have A3:M a3≠none:=lv _ aX!;have A4:M a4≠none:=lv _ aX_;have AF:M f≠none:=lv _ el!;have AP:M p≠none:=lv _ el_;have s2:∀c,M c≠none->M2 c≠none:=λc L=>by
  by_cases c1:c=f
  .rw[c1];exact R2.live.2.1
  .by_cases c2:c=p
   .rw[c2];exact R2.live.2.2
   .rw[K2 c c1 c2];by_cases c3:c=a1
    .rw[c3,mup_same];simp
    .rw[oC_];exact L
 have jd:∀c,M c≠none->c≠r1/\c≠f1/\c≠p1:=λc L=>⟨aU (s2 c L) z1,aU (s2 c L) z2,aU (s2 c L) z3⟩;have s3:∀c,M c≠none->M3 c≠none:=λc L=>by rw[oD!];exact s2 c L
 have wu:∀c,M3 c≠none->Az M3 a2 hp_ c≠none:=λc L=>by
  by_cases c3:c=a2
  .rw[c3,mup_same];simp
  .rw[oC_];exact L
 have gi:∀c,M3 c≠none->c≠r2/\c≠f2/\c≠p2:=λc L=>⟨aU (wu c L) y1,aU (wu c L) y2,aU (wu c L) y3⟩;have f9:∀c,M3 c≠none->M5 c≠none:=λc L=>by rw[wX!];exact wu c L
 have WQ:∀c,M5 c≠none->Az M5 a3 oC! c≠none:=λc L=>by
  by_cases c3:c=a3
  .rw[c3,mup_same];simp
  .rw[oC_];exact L
 have nq:∀c,M5 c≠none->c≠q:=λc L=>aU (WQ c L) x1;have a1f:a1≠f:=bc (by rw[O.r1,g4];simp);have a1p:a1≠p:=bc (by rw[O.r1,g5];simp);have fin:∀c,M c≠none->c≠a1->c≠f->c≠p->c≠a2->c≠a3->c≠a4->Az eq_ a4 er! c=M c:=λc L h1 h2 h3 h4 h5 h6=>by
  rw[hq_,wY!,ki_,wY_,oF_,oD!,K2 c h2 h3,ck!]
 have ul:∀c,M c≠none->c≠a2->c≠a3->c≠a4->Az eq_ a4 er! c=M2 c:=λc L h4 h5 h6=>by
  rw[hq_,wY!,ki_,wY_,oF_,oD!]
 have WR:∀c,M3 c≠none->c≠a2->c≠a3->c≠a4->Az eq_ a4 er! c=M3 c:=λc L h4 h5 h6=>by
  rw[hq_,mup_ne (nq c (f9 c L)),ki_,wX!,oF_]
 have wv:∀c,M5 c≠none->c≠a3->c≠a4->Az eq_ a4 er! c=M5 c:=λc L h5 h6=>by
  rw[hq_,wZ!,ki_]
 generalize hM8:Az eq_ a4 er!=M8 at fin ul WR wv;have WU:=R3.rne;have WV:=R5.rne;obtain⟨v1,v2,v3⟩:=R3.live;obtain⟨v4,v5,v6⟩:=R5.live
 let ae:Addr->Pd:=λc=>if c=r1 then .rO n else if c=f1 then .rF n else if c=p1 then .rP n else if c=r2 then .tO n else if c=f2 then .tF n else if c=p2 then .tP n else if c=q then .nm n else rl c
 have ac:∀c,M c≠none->ae c=rl c:=λc L=>by
  have h1:=jd c L;have h2:=gi c ki!;have h3:=nq c (f9 c ki!);show wZ_=_;rw[IA h1.1,IA h1.2.1,IA h1.2.2,IA h2.1,IA h2.2.1,IA h2.2.2,IA h3]
 have q1:ae r1=.rO n:=IL rfl;have q2:ae f1=.rF n:=by show(if f1=r1 then _ else _)=_;rw[IA (IB WU.1),l_]
 have q3:ae p1=.rP n:=by show(if p1=r1 then _ else _)=_;rw[IA (IB WU.2),IA (IB R3.ne),l_]
 have w1:∀c,M3 c≠none->c≠r2/\c≠f2/\c≠p2:=gi;have q4:ae r2=.tO n:=by show(if r2=r1 then _ else _)=_;rw[IA (IB (oG!).1),IA (IB (oG_).1),IA (IB (oH!).1),l_]
 have q5:ae f2=.tF n:=by show(if f2=r1 then _ else _)=_;rw[IA (IB (oG!).2.1),IA (IB (oG_).2.1),IA (IB (oH!).2.1),IA (IB WV.1),l_]
 have q6:ae p2=.tP n:=by show(if p2=r1 then _ else _)=_;rw[IA (IB (oG!).2.2),IA (IB (oG_).2.2),IA (IB (oH!).2.2),IA (IB WV.2),IA (IB R5.ne),l_]
 have q7:ae q=.nm n:=by
  show(if q=r1 then _ else _)=_;rw[IA (IB (nq _ (f9 _ v1))),IA (IB (nq _ (f9 _ v2))),IA (IB (nq _ (f9 _ v3))),IA (IB (nq _ v4)),IA (IB (nq _ v5)),IA (IB (nq _ v6)),l_]
 have na:∀c,M c≠none->w2_:=jd;have im:∀x,x∈(bb_).its↔x∈W.its\/x=n:=λx=>by simp[Gi]
 have j1:wo W.rows n=W.rows:=by
  refine JU.mpr λq hq=>?_;show"!s";exact λz=>hn ((w.ri n).mp jW!)
 have nP:¬Fs W n:=λz=>z.elim hn λz=>z.elim ht.nn.2.1 ht.nn.2.2;have WW:∀x,Fs bb_ x↔Fs W x\/x=n:=λx=>by unfold Fs;rw[im];constructor<;>(intro z;rcases z with(z|z)|z<;>simp[z])
 have up:∀{x:Nat},x<=hc->x<=hc+20:=λh=>by omega
 have up1:∀{l:i_} {d v:D},Z!<=hc->(fh_).length<=hc+20:=λh=>JL ed_ a!;have c1:∀c,rl c≠.oth->rl c≠.par->rl c≠.rows->rl c≠.texts->rl c≠.nums->rl c≠.rF pl->rl c≠.rP pl->M8 c=M c:=λc h0 h1 h2 h3 h4 h5 h6=>
  fin c (lv c h0) (λz=>h1 oI!) (λz=>h5 oI_) (λz=>h6 oJ!) (λz=>h2 (by rw[z,O.r2])) (λz=>h3 (by rw[z,O.r3])) (λz=>h4 (by rw[z,O.r4]))
 refine⟨ae,?_,λc L J=>⟨fin c L (bc (by rw[J,O.r1];simp)) (bc (by rw[J,g4];simp)) (bc (by rw[J,g5];simp)) (bc (by rw[J,O.r2];simp)) (bc (by rw[J,O.r3];simp)) (bc (by rw[J,O.r4];simp)),by rw[ac c L];exact J⟩⟩;have e8:∀c,M8 c=Az eq_ a4 er! c:=λc=>by rw[hM8]
 refine
  {ob:=(c1 o N_ N_ N_ N_ N_ N_ N_).trans O.ob
   d1:=⟨e1,?d1⟩,d2:=⟨e2,?d2⟩,d3:=⟨e3,?d3⟩,d4:=⟨e4,?d4⟩,d5:=?d5,d6:=?d6
   ro:=(ac o (lv o N_)).trans O.ro,r1:=(ac a1 A1).trans O.r1,r2:=(ac a2 A2).trans O.r2,r3:=(ac a3 A3).trans O.r3,r4:=(ac a4 A4).trans O.r4
   r5:=(ac a5 (lv _ aN!)).trans O.r5,r6:=(ac a6 (lv _ aA_)).trans O.r6
   p0:=⟨by rw[dQ ht.nn.2.1];exact O.p0.1,by rw[dQ ht.nn.2.2];exact O.p0.2⟩
   pr:=?pr,row:=?row,rown:=?rown,txt:=?txt,txtn:=?txtn,num:=?num,wr:=?wr,hi:=?hi,hk:=?hk
   l1:=up1 O.l1,l2:=up1 O.l2,l3:=up1 O.l3,l4:=up1 O.l4,l5:=up O.l5,l6:=up O.l6,lr:=?lr,lt:=?lt,live:=?live}
 case d1=>rw[ul a1 A1 (bc (by rw[O.r1,O.r2];simp)) (bc (by rw[O.r1,O.r3];simp)) (bc (by rw[O.r1,O.r4];simp)),K2 a1 a1f a1p,mup_same]
 case d2=>
  have h3:=s3 a2 A2;rw[e8,mup_ne (bc (by rw[O.r2,O.r4];simp)),mup_ne (nq a2 (f9 a2 h3)),mup_ne (bc (by rw[O.r2,O.r3];simp)),K5 a2 (oK!).1 (oK!).2.1 (oK!).2.2,mup_same]
 case d3=>rw[e8,mup_ne (bc (by rw[O.r3,O.r4];simp)),mup_ne (nq a3 (f9 a3 (s3 a3 A3))),mup_same]
 case d4=>rw[e8,mup_same]
 case d5=>rw[c1 a5 aN! aN! aN! aN! aN! aN! aN!];exact O.d5
 case d6=>rw[c1 a6 aA_ aA_ aA_ aA_ aA_ aA_ aA_];exact O.d6
 case pr=>
  intro i p' hm;obtain z|z:=hg.mem.mp hm
  .cases z;rw[dL]
  .rw[j1]at z;rw[dQ λy=>sI w hn p' w5_];exact O.pr i p' z
 case row=>
  intro x Y;obtain Y|rfl:=(WW x).mp Y
  .obtain⟨r',f',p',u1,u2,u3,u4,u5⟩:=O.row x Y;have xn:n≠x:=λz=>nP km!;have L1:=lv r' am!;have L2:=lv f' aG_;have L3:=lv p' aH!;by_cases ww:pl=x
   .subst ww;rw[g1]at u1;cases u1;refine⟨r,f,p,by rw[dQ xn];exact g1,?_,(ac r L1).trans g3,(ac f AF).trans g4,(ac p AP).trans g5⟩;show El t M8 r f p (chl rows' pl);rw[w7_,j1];exact R2.keep (ul r L1 (bc (by rw[g3,O.r2];simp)) (bc (by rw[g3,O.r3];simp)) (bc (by rw[g3,O.r4];simp))) (ul f AF (bc (by rw[g4,O.r2];simp)) (bc (by rw[g4,O.r3];simp)) (bc (by rw[g4,O.r4];simp))) (ul p AP (bc (by rw[g5,O.r2];simp)) (bc (by rw[g5,O.r3];simp)) (bc (by rw[g5,O.r4];simp)))
   .refine⟨r',f',p',oM_,?_,(ac r' L1).trans u3,(ac f' L2).trans u4,(ac p' L3).trans u5⟩;show El t M8 r' f' p' (chl rows' x);rw[hg.chl_ne ww,j1];exact u2.keep w9_ (c1 f' aG_ aG_ aG_ aG_ aG_ (by rw[u4];simpa using IB ww) aG_) (c1 p' aH! aH! aH! aH! aH! aH! (by rw[u5];simpa using IB ww))
  .refine⟨r1,f1,p1,dL _ _ _,?_,q1,q2,q3⟩;have np:pl≠x:=λz=>nP (z▸hp);show El t M8 r1 f1 p1 (chl rows' x);rw[hg.chl_ne np,j1,c2u λi z=>nP (w.rp _ _ z)];have e:∀c,M3 c≠none->(∀d,M d≠none->d≠c)->M8 c=M3 c:=λc h1 h2=>WR c h1 (IB (h2 a2 A2)) (IB (h2 a3 A3)) (IB (h2 a4 A4));exact R3.keep (e r1 v1 λd hd=>(oN!).1) (e f1 v2 λd hd=>(oN!).2.1) (e p1 v3 λd hd=>(oN!).2.2)
 case rown=>
  intro x Y;rw[WW,PD]at Y;rw[dQ (IB Y.2)];exact O.rown x Y.1
 case txt=>
  intro x Y;obtain Y|rfl:=(cH_).mp Y
  .obtain⟨r',f',p',u1,u2,u3,u4,u5⟩:=O.txt x Y;have xn:n≠x:=λz=>hn km!;refine⟨r',f',p',oM_,?_,(ac r' (lv r' am!)).trans u3,(ac f' (lv f' aG_)).trans u4,(ac p' (lv p' aH!)).trans u5⟩;have e:(bb_).txt x=W.txt x:=by show fw_=_;rw[IA (IB xn)]
   rw[e];exact u2.keep w9_ (c1 f' aG_ aG_ aG_ aG_ aG_ aG_ aG_) (c1 p' aH! aH! aH! aH! aH! aH! aH!)
  .refine⟨r2,f2,p2,dL _ _ _,?_,q4,q5,q6⟩;have e:(hs_).txt x=[]:=by show ht!=_;rw[l_]
   rw[e];have o3:=w1 a3 (s3 a3 A3);have o4:=w1 a4 (s3 a4 A4);exact R5.keep (wv r2 v4 (IB o3.1) (IB o4.1)) (wv f2 v5 (IB o3.2.1) (IB o4.2.1)) (wv p2 v6 (IB o3.2.2) (IB o4.2.2))
 case txtn=>
  intro x Y;rw[im,PD]at Y;rw[dQ (IB Y.2)];exact O.txtn x Y.1
 case num=>
  intro x Y;obtain Y|rfl:=(cH_).mp Y
  .obtain⟨q',u1,u2,u3⟩:=O.num x Y;have xn:n≠x:=λz=>hn km!;refine⟨q',oM_,?_,(ac q' (lv q' am!)).trans u3⟩;have e:(bb_).num x=W.num x:=by show fw_=_;rw[IA (IB xn)]
   rw[e,c1 q' am! am! am! am! am! am! am!];exact u2
  .refine⟨q,dL _ _ _,?_,q7⟩;have e:(hs_).num x=wU_:=by show ht!=_;rw[l_]
   rw[e,e8,xd_,mup_same]
 case wr=>
  intro x Y q0 hq;obtain Y|rfl:=(cH_).mp Y
  .have e:(bb_).txt x=W.txt x:=by show fw_=_;rw[oO!]
   rw[e]at hq;exact O.wr x Y q0 hq
  .have e:(hs_).txt x=[]:=by show ht!=_;rw[l_]
   rw[e]at hq;cases hq
 case hi=>
  intro x Y q0 hq;obtain Y|rfl:=(cH_).mp Y
  .have e:(bb_).txt x=W.txt x:=by show fw_=_;rw[oO!]
   rw[e]at hq;exact O.hi x Y q0 hq
  .have e:(hs_).txt x=[]:=by show ht!=_;rw[l_]
   rw[e]at hq;cases hq
 case hk=>
  intro s hs;obtain⟨x,h1,h2⟩:=O.hk s hs;refine⟨x,(cH_).mpr (.inl h1),?_⟩;have e:(bb_).txt x=W.txt x:=by show fw_=_;rw[IA (λz:x=n=>hn (z▸h1))]
  rw[e];exact h2
 case lr=>
  obtain⟨u,v,e,rfl,_⟩:=hg;rw[j1]at e;show(u++(n,pl)::v).length<=_;have:=O.lr;rw[e]at this;simp at this ⊢;omega
 case lt=>
  intro x Y;obtain Y|rfl:=(cH_).mp Y
  .have e:(bb_).txt x=W.txt x:=by show fw_=_;rw[oO!]
   rw[e];exact up j6!
  .have e:(hs_).txt x=[]:=by show ht!=_;rw[l_]
   rw[e];simp
 case live=>
  intro c L;have s8:∀c,M5 c≠none->M8 c≠none:=λc L=>by
   rw[e8];by_cases h6:c=a4
   .rw[h6,mup_same];simp
   .rw[hq_,wZ!];exact WQ c L
  by_cases hM:M c=none
  .by_cases um:c=r1
   .rw[um];exact s8 _ (f9 _ v1)
   .by_cases uo:c=f1
    .rw[uo];exact s8 _ (f9 _ v2)
    .by_cases k9:c=p1
     .rw[k9];exact s8 _ (f9 _ v3)
     .by_cases lb:c=r2
      .rw[lb];exact s8 _ v4
      .by_cases oo:c=f2
       .rw[oo];exact s8 _ v5
       .by_cases uq:c=p2
        .rw[uq];exact s8 _ v6
        .by_cases ur:c=q
         .rw[ur,e8,xd_,mup_same];simp
         .have:ae c=rl c:=by show wZ_=_;rw[IA um,IA uo,IA k9,IA lb,IA oo,IA uq,IA ur]
          rw[this]at L;exact absurd hM (lv c L)
  .exact s8 _ (f9 _ (s3 c hM))
end
section
variable{t:Aq}{M:Mh}{ρ:Ae}{R:Fl->Mh->Prop}
def a1z{fo fi f:WE}{q:WS}(h:f ρ M λv M1=>fo ρ M1 λd M2=>fi ρ M2 λy M3=>Dz qa! λM4=>q ρ M4 R):Ai (Cd fo fi f) q ρ M R:=by exact h
def b7q{f:WE}{q:WS}(h:f ρ M λ_ M1=>q ρ M1 R):Ai (Bz f) q ρ M R:=h
def pP{o:xY!}{fs:aP!}{kvs:i_}{ep:Nat}{fo fi:e!}{Q:bJ_}(h0:fo ρ=some Y!)(h1:fi ρ=some y)(hM:M o=some hu!)(Y:fs.lookup x=some A_)(hp:bY_)(hk:co!)(hl:dC_)
  (hQ:Q h1_):Ay C x dr_ ρ M (λd M2=>wl fi ρ M2 λy M3=>Dz qa! λM4=>Q M4):=by
 have e:Lc M A_ y v=some h1_:=by simp[Lc,hp,hk,hl]
 simp only[Ay,wl,h0,Gq,hM,KG,Y,Dz,h1,e];exact hQ
def d2w{g:WF}{fo:WE}{f1 f2:e!}{K:r!}(h0:∀K,fo ρ M K=K d M)(ho:li_)(h1:es_)(h2:hu_)(k:g [d,a,b] M K):Bc C m 3 g fo xh! ρ M K:=by unfold Bc Ab Af;rw[h0];simp only[wl,h1,h2];exact oO_
def Zu(t:Aq):WS:=Ai zE_
 (Ai sz!
 (Ai zJ!
 (Ai sB_
 sB!)))
end
section
variable{t:Aq}{M:Mh}{o:xY!}{rl:Addr->Pd}{W:OW}{hc:Nat}{R:D->Mh->Prop}
def c8j(hO:az_)(w:By W)(hn:n7_)(ht:Ig n)(ky:ds_)(z9:De b=some kb)(hB:hk_)(hg:Rm W.rows n ds! b rows')
  (hR:∀M' ae,Cc t M' o ae bb_ bo_->Fr M rl M' ae->R .non M'):Jo t [bc!,n,a,b] M R:=by
 have h':=hO;obtain⟨a1,a2,a3,a4,a5,a6,k1,k2,k3,k4,k5,k6,O⟩:=h';obtain⟨e1,h1⟩:=O.d1;obtain⟨e2,h2⟩:=O.d2;obtain⟨e3,h3⟩:=O.d3;obtain⟨e4,h4⟩:=O.d4;obtain⟨kn,gb⟩:=ht.key;have bc:∀{c d:xY!},rl c≠rl d->c≠d:=λh z=>h kh_;have L1:oc_<big:=by have:=O.l1;unfold big;omega
 have L2:k2.length<big:=by have:=O.l2;unfold big;omega
 have L3:k3.length<big:=by have:=O.l3;unfold big;omega
 have L4:k4.length<big:=by have:=O.l4;unfold big;omega
 have hp:Fs W ds!:=by split;assumption;exact .inr d8_
 refine j_;have hm:Dh t.B4 "has" M Y!:=O.noOb oM1;generalize hK:xg!=KK;have ie:∀ρ' M',R .non M'->KK cT_ M':=λρ' M' z=>by rw[<-hK];exact z
 have key:∀pl,pl=ds!->Zu t fx! M KK:=by
  intro pl epl;rw[<-epl]at hg hp;obtain⟨r,f,p,g1,g2,g3,g4,g5⟩:=O.row pl hp;obtain⟨kpl,hkpl⟩:=qO w hp;refine a1z ?_;have f4:Aa 4 fx!=some pl:=rfl;have mf:Aa 1 fx!=some n:=rfl;have f3:Aa 3 fx!=some b:=rfl;have f0:Aa 0 fx!=some Y!:=rfl;refine pP f0 mf O.ob oF1 h1 gb L1 ?_;refine b7q ?_;have n1:∀c,rl c≠.par->Az M a1 oP! c=M c:=λc L=>mup_ne λz=>L oI!;have ut:∀R',w2 Bs cz_ a6! fx! oP_ R'=R' ba_ oP_:=by
   intro R';simp[w2,wl,Ay,Gq,n1 o N_,n1 a2 aA!,O.ob,oF2,Bs,h2,hkpl,g1,Dz,Aa]
  have uv:=g2.keep (M':=Az M a1 oP!) (n1 r do_) (n1 f el!) (n1 p el_);have sj:Dh t.B5 "put_behind" oP_ ba_:=by simp only[Dh,uv.ob,rM.1,and_self]
  refine d2w ut sj mf f3 ?_;refine jK uv gb z9 ht.nn.1 (λz=>sI w hn pl oQ_) (by have:=a4u (W:=W) (x:=pl);have:=O.lr;omega) (vF w) λM2 R2 K2=>?_;have m2:∀c,rl c≠.par->rl c≠.rF pl->rl c≠.rP pl->M2 c=M c:=λc h1 h2 h3=>(K2 c (λz=>h2 oI_) (λz=>h3 oJ!)).trans (n1 c h1);have p5:M2 o=_:=(m2 o N_ N_ N_).trans O.ob;have WX:M2 a2=_:=(m2 a2 aA! aA! aA!).trans h2;have WY:M2 a3=_:=(m2 a3 aX! aX! aX!).trans h3;have WZ:M2 a4=_:=(m2 a4 aX_ aX_ aX_).trans h4;refine a1z ?_;refine pZ λr1 f1 p1 M3 z1 z2 z3 _ _ R3 K3=>?_;have m3:∀c,M2 c≠none->M3 c=M2 c:=λc L=>K3 c (aU L z1) (aU L z2) (aU L z3);have F':=(m3 o (by rw[p5];simp)).trans p5;have d32:=(m3 a2 (by rw[WX];simp)).trans WX;have XA:=(m3 a3 (by rw[WY];simp)).trans WY;have XB:=(m3 a4 (by rw[WZ];simp)).trans WZ;have oa2:o≠a2:=bc (by rw[O.ro,O.r2];simp);have XC:o≠a3:=bc (by rw[O.ro,O.r3];simp);have J':a3≠a2:=bc (by rw[O.r3,O.r2];simp);have a42:a4≠a2:=bc (by rw[O.r4,O.r2];simp);have XD:a4≠a3:=bc (by rw[O.r4,O.r3];simp);refine pP f0 mf F' oF2 d32 gb L2 ?_;refine a1z ?_;refine pZ λr2 f2 p2 M5 y1 y2 y3 _ _ R5 K5=>?_;have m5:∀c,c≠a2->M3 c≠none->M5 c=M3 c:=λc h0 L=>by
   have q:Az M3 a2 (.dct oB! (Gb k2 n e2)) c≠none:=by rw[mup_ne h0];exact L
   rw[K5 c (aU q y1) (aU q y2) (aU q y3),mup_ne h0]
  have N':=(m5 o oa2 (by rw[F'];simp)).trans F';have d53:=(m5 a3 J' (by rw[XA];simp)).trans XA;have XE:=(m5 a4 a42 (by rw[XB];simp)).trans XB;refine pP f0 mf N' oF3 d53 gb L3 ?_;refine⟨U!,⟨U!,U!,U!⟩,λq x1=>?_⟩;have q0:o≠q:=aU (N:=xl!) (by rw[mup_ne XC,N'];simp) x1;have q4:a4≠q:=aU (N:=xl!) (by rw[mup_ne XD,XE];simp) x1;obtain⟨ae,F1,F2⟩:=b8m (e1:=Gb k1 n e1) (e2:=Gb k2 n e2) (e3:=Gb k3 n e3) (e4:=Gb k4 n e4) O w hn ht hp hg g1 g3 g4 g5 R2 K2 z1 z2 z3 R3 K3 y1 y2 y3 R5 K5 x1;have:=hR _ ae ⟨_,_,_,_,_,_,_,_,_,_,_,_,F1⟩ F2;exact pP (kvs:=k4) (ep:=e4) f0 mf ((mup_ne q0).trans ((mup_ne XC).trans N')) oF4 ((mup_ne q4).trans ((mup_ne XD).trans XE)) gb L4 (ie _ _ this)
 show Ai sy! (Zu t) xm! M KK;have hh:∀K:D->Mh->Prop,Cn t [bc!,a] M K->Bc t.B4 "has" 2 gy! h! c8_ xm! M K:=λK uw=>⟨hm,rfl,uw⟩;refine hh _ (xP hO ky ?_);by_cases c:Fs W a
 .rw[JC c];exact key a (by rw[IL c])
 .rw[IN c];exact key binn (by rw[IA c])
def uV(hO:az_)(w:By W)(cn:fq_)(gh:oi_)(nv:De s=some ks)(hB:hk_)
  (hR:∀M',(ej_->∀rows',Rm W.rows i x s rows'->Cc t M' o rl {W with rows:=rows'} bo_)->(¬ej_->Cc t M' o rl W bo_)->Fr M rl M' rl->R .non M'):
  Gn t [bc!,i,x,s] M R:=by
 have h':=hO;obtain⟨a1,a2,a3,a4,a5,a6,k1,k2,k3,k4,k5,k6,O⟩:=h';obtain⟨e1,h1⟩:=O.d1;obtain⟨e2,h2⟩:=O.d2;refine j_;show Ai (Au _ _ _) _ oS! M _;simp only[Ai,Au,Mj,wT,Bc,wl,Ab,Af,Aa,List.getElem?_cons_zero,List.getElem?_cons_succ,Option.join_some];refine⟨O.noOb oM5,rfl,?_⟩;refine a8o hO w cn gh λb hb=>?_;cases b with
 |false=>
  have L:¬ej_:=λz=>by have:=hb.mpr z;cases this
  have:=hR M (λz=>absurd z L) (λ_=>hO.mono a!) .refl;simpa[Qd]using this
 |true=>
  have L:=hb.mp rfl;obtain⟨hi,Y,hw⟩:=L;obtain⟨p0,eh⟩:=a9p w hi;have XF:Fs W p0:=w.rp _ _ eh;obtain⟨r0,f0,q0,u1,u2,u3,u4,u5⟩:=O.row p0 XF;obtain⟨r,f,p,g1,g2,g3,g4,g5⟩:=O.row x Y;obtain⟨zy,hkp0⟩:=qO w XF;obtain⟨uu,vv,c1,c2⟩:=b1k w.rnd eh;have lr:=O.lr;have hx0:∀R',w2 Bs cz_ iV_ oS! M R'=R' (.fn r0) M:=by
   intro R';simp[w2,wl,Ay,Gq,O.ob,oF1,oF2,Bs,h1,h2,cn,O.pr i p0 eh,hkp0,u1,Dz,Aa]
  have XG:Dh t.B5 "take_out" M (.fn r0):=by simp only[Dh,u2.ob,rM.2.1,and_self]
  simp only[Bool.not_true,Bool.false_eq_true,if_false,Bo,Bz,Bc,hx0];refine⟨XG,rfl,?_⟩;refine a5j u2 c1 cn (by have:=a4u (W:=W) (x:=p0);omega) (vF w) λM1 R1 K1=>?_;rw[<-c2]at R1;have m1:∀c,rl c≠.rF p0->rl c≠.rP p0->M1 c=M c:=λc h1 h2=>K1 c (λz=>h1 (by rw[z,u4])) (λz=>h2 (by rw[z,u5]));have wc:=(m1 o N_ N_).trans O.ob;have d11:=(m1 a1 bX! bX!).trans h1;have d12:=(m1 a2 aA! aA!).trans h2;have uv:El t M1 r f p (chl kp! x):=by
   by_cases e:p0=x
   .subst e;rw[u1]at g1;cases g1;obtain⟨z1,z2⟩:f=f0/\p=q0:=by
     have:=u2.ob;rw[g2.ob]at this;simp at this;show"#H"
    rw[z1,z2];exact R1
   .rw[a1g λz=>e xn!];exact g2.keep (m1 r do_ do_) (m1 f (by rw[g4];simpa using Ne.symm e) el!) (m1 p el_ (by rw[g5];simpa using Ne.symm e))
  have ut:∀R',w2 Bs cz_ z_ oS! M1 R'=R' ba_ M1:=by
   intro R';simp[w2,wl,Ay,Gq,wc,oF2,Bs,d12,gh,g1,Dz,Aa]
  have wx:Dh t.B5 "put_behind" M1 ba_:=by simp only[Dh,uv.ob,rM.1,and_self]
  simp only[ut];refine⟨wx,rfl,?_⟩;have lw:(chl kp! x).length<=ci_:=by
   have a:=(b4h (rows:=wo W.rows i) (x:=x)).length_le;have b:=(xn_).length_le;simp at a b;omega
  refine jK uv cn nv (hj_).nn.1 (λz=>(kY.mp oQ_).2 rfl) a! (λc L=>vF w c (gS.mpr (kY.mp (gS.mp L)).1)) λM2 R2 K2=>?_;have m2:∀c,rl c≠.rF x->rl c≠.rP x->M2 c=M1 c:=λc h1 h2=>K2 c (λz=>h1 oI_) (λz=>h2 oJ!);have p5:=(m2 o N_ N_).trans wc;have d21:=(m2 a1 bX! bX!).trans d11;have L1:oc_<big:=by have:=O.l1;unfold big;omega
  have fin:R .non (Az M2 a1 oU!):=by
   have n3:∀c,rl c≠.par->Az M2 a1 oU! c=M2 c:=λc L=>mup_ne λz=>L oI!;have aw:∀c,rl c≠.par->rl c≠.rF x->rl c≠.rP x->rl c≠.rF p0->rl c≠.rP p0->Az M2 a1 oU! c=M c:=λc h1 h2 h3 h4 h5=>(n3 c h1).trans ((m2 c h2 h3).trans (m1 c h4 h5));refine hR _ (λ_ rows' hg=>⟨a1,a2,a3,a4,a5,a6,At k1 i x,k2,k3,k4,k5,k6,?_⟩) (λz=>absurd ⟨hi,Y,hw⟩ z) λc L J=>⟨aw c ek_ ek_ ek_ ek_ ek_,J⟩;have up:∀{x:Nat},x<=hc->x<=hc+20:=λh=>by omega
   have xi:i≠root/\i≠binn:=⟨(hj_).nn.2.1,(hj_).nn.2.2⟩;refine{O with ob:=?_,d1:=j7!,d2:=?_,d3:=?_,d4:=?_,d5:=?_,d6:=?_,p0:=⟨by rw[dQ xi.1];exact O.p0.1,by rw[dQ xi.2];exact O.p0.2⟩,pr:=?_,row:=?_,txt:=?_,num:=?_,l1:=Nat.le_trans ed_ (by have:=O.l1;omega),l2:=up O.l2,l3:=up O.l3,l4:=up O.l4,l5:=up O.l5,l6:=up O.l6,lr:=?_,lt:=λy hy=>up (O.lt y hy),live:=?_}
   .rw[aw o N_ N_ N_ N_ N_];exact O.ob
   .rw[aw a2 aA! aA! aA! aA! aA!];exact O.d2
   .rw[aw a3 aX! aX! aX! aX! aX!];exact O.d3
   .rw[aw a4 aX_ aX_ aX_ aX_ aX_];exact O.d4
   .rw[aw a5 aN! aN! aN! aN! aN!];exact O.d5
   .rw[aw a6 aA_ aA_ aA_ aA_ aA_];exact O.d6
   .intro a b hm;obtain z|z:=hg.mem.mp hm
    .cases z;rw[dL]
    .obtain⟨z1,z2⟩:=kY.mp z;rw[dQ (Ne.symm z2)];exact O.pr a b z1
   .intro y hy;by_cases e:x=y
    .subst e;refine wK!;rw[w7_];exact R2.keep (n3 r do_) (n3 f el!) (n3 p el_)
    .rw[hg.chl_ne e];by_cases e':p0=y
     .subst e';refine⟨r0,f0,q0,u1,?_,u3,u4,u5⟩;exact R1.keep ((n3 r0 am!).trans (m2 r0 am! am!)) ((n3 f0 aG_).trans (m2 f0 (by rw[u4];simpa using Ne.symm e) aG_)) ((n3 q0 aH!).trans (m2 q0 aH! (by rw[u5];simpa using Ne.symm e)))
     .obtain⟨r',f',p',v1,v2,v3,v4,v5⟩:=O.row y hy;refine⟨r',f',p',v1,?_,v3,v4,v5⟩;rw[a1g λz=>e' xn!];exact v2.keep xr! (aw f' cP! (by rw[v4];simpa using Ne.symm e) cP! (by rw[v4];simpa using Ne.symm e') cP!) (aw p' cP_ cP_ (by rw[v5];simpa using Ne.symm e) cP_ (by rw[v5];simpa using Ne.symm e'))
   .intro y hy;obtain⟨r',f',p',v1,v2,v3,v4,v5⟩:=O.txt y hy;exact⟨r',f',p',v1,v2.keep xr! (aw f' cP! cP! cP! cP! cP!) (aw p' cP_ cP_ cP_ cP_ cP_),v3,v4,v5⟩
   .intro y hy;obtain⟨q,v1,v2,v3⟩:=O.num y hy;exact⟨q,v1,(aw q bI! bI! bI! bI! bI!).trans v2,v3⟩
   .obtain⟨u,v,e,rfl,_⟩:=hg;have b:=(xn_).length_le;rw[e]at b;simp at b ⊢;omega
   .intro c L;by_cases y0:c=a1
    .rw[y0,mup_same];simp
    .rw[mup_ne y0];by_cases y1:c=f
     .rw[y1];exact R2.live.2.1
     .by_cases y2:c=p
      .rw[y2];exact R2.live.2.2
      .rw[K2 c y1 y2];by_cases y3:c=f0
       .rw[y3];exact R1.live.2.1
       .by_cases y4:c=q0
        .rw[y4];exact R1.live.2.2
        .rw[K1 c y3 y4];exact O.live c L
  simpa[Cd,wl,Ay,Gq,Dz,Aa,p5,oF1,Lc,d21,cn,L1]using fin
end
end K13
namespace K13
open PySem L2 DL
nonrec def Aq.nd(t:Aq):Prop:=[t.A0,t.A5,t.A6,t.A7,t.A8,t.A9,t.B0,t.B1,t.B2].Nodup
def Lq(c:Nat):Bool:=decide (32<=c)&&decide (c<=126)&&!(c==37)
def Ub(s:Str):Bool:=decide (aB!<=1000)&&s.cps.toList.all Lq
def c9o(a c:Nat):Rv ⟨#[a]⟩ ap_=decide (a<=c):=by
 unfold Rv;simp only[List.cons_lt_cons_iff,List.not_lt_nil,and_false,LC];by_cases h:c<a
 .simp[h]
 .simp[h];omega
def b5y:(" ":Str)=⟨#[32]⟩:=by decide+kernel
def b5x:("~":Str)=⟨#[126]⟩:=by decide+kernel
def d0f(c:Nat):Ha [gV!]=some (.bl (Lq c)):=by
 push_cast[Ha,Sg,Za,b5y,b5x,c9o,Str.length,Lq]
 by_cases h1:32<=c<;>by_cases h2:c<=126<;>simp[h1,h2];rw[LU];simp;omega
def xX(ρ:Ae)(ny:ρ=du_):∀(cs:k!),cs.all Lq=true->
  Fk D! a5_ iN! ρ (cs.map λc=>.str ap_)=some kv!
 |[],_=>rfl
 |c::cs,h=>by
  rw[OD,JG]at h;have ih:=xX ρ ny cs h.2;subst ny;simp only[II,Fk,ih];simp[Bd,f1,Ac,Aa,Ag,d0f,h.1]
def yC:∀(cs:k!),Nf xt_=some xu!
 |[]=>rfl
 |c::cs=>by simp only[II,Nf,yC cs,PJ]
def a4l(a b:Str):Ed (.str a) (.str b)=f8_:=by unfold Ed;rfl
def vB(a b:Int):Ed (.int a) (.int b)=f8_:=by unfold Ed;rfl
def a8t(s:Str):∀xs:List Str,xv!=xs.any (·==s)
 |[]=>rfl
 |x::xs=>by rw[II,NA,NA,a8t s xs,a4l]
def c5n(s:Str)(xs:r_):Ve false aO! (.tup kw!)=some (.bl (xs.any (·==s))):=by
 have h:(kw!).all Kx=true:=by simp[MB,Kx]
 show(if Kx aO!&&(kw!).all Kx then some (D.bl xv!)else none)=_;rw[h,a8t];rfl
def tV:(Str.ofString "put"==Str.ofString "undo")=false:=by decide+kernel
def tW:(Str.ofString "put"==Str.ofString "redo")=false:=by decide+kernel
def jG:(Str.ofString "move"==Str.ofString "put")=false:=by decide+kernel
def a3w:(Str.ofString "move"==Str.ofString "undo")=false:=by decide+kernel
def a3x:(Str.ofString "move"==Str.ofString "redo")=false:=by decide+kernel
def jH:(Str.ofString "drop"==Str.ofString "put")=false:=by decide+kernel
def iQ:(Str.ofString "drop"==Str.ofString "move")=false:=by decide+kernel
def a3y:(Str.ofString "drop"==Str.ofString "undo")=false:=by decide+kernel
def a3z:(Str.ofString "drop"==Str.ofString "redo")=false:=by decide+kernel
def lB:(Str.ofString "write"==Str.ofString "put")=false:=by decide+kernel
def jR:(Str.ofString "write"==Str.ofString "move")=false:=by decide+kernel
def jS:(Str.ofString "write"==Str.ofString "drop")=false:=by decide+kernel
def a3u:(Str.ofString "write"==Str.ofString "cut")=false:=by decide+kernel
def a3t:(Str.ofString "write"==Str.ofString "set")=false:=by decide+kernel
def zB:(Str.ofString "write"==Str.ofString "undo")=false:=by decide+kernel
def zC:(Str.ofString "write"==Str.ofString "redo")=false:=by decide+kernel
def pB:(Str.ofString "cut"==Str.ofString "put")=false:=by decide+kernel
def mM:(Str.ofString "cut"==Str.ofString "move")=false:=by decide+kernel
def mN:(Str.ofString "cut"==Str.ofString "drop")=false:=by decide+kernel
def lD:(Str.ofString "cut"==Str.ofString "write")=false:=by decide+kernel
def b0t:(Str.ofString "cut"==Str.ofString "set")=false:=by decide+kernel
def a7f:(Str.ofString "cut"==Str.ofString "undo")=false:=by decide+kernel
def a7g:(Str.ofString "cut"==Str.ofString "redo")=false:=by decide+kernel
def oZ:(Str.ofString "set"==Str.ofString "put")=false:=by decide+kernel
def mK:(Str.ofString "set"==Str.ofString "move")=false:=by decide+kernel
def mL:(Str.ofString "set"==Str.ofString "drop")=false:=by decide+kernel
def lC:(Str.ofString "set"==Str.ofString "write")=false:=by decide+kernel
def pA:(Str.ofString "set"==Str.ofString "cut")=false:=by decide+kernel
def a7c:(Str.ofString "set"==Str.ofString "undo")=false:=by decide+kernel
def a7d:(Str.ofString "set"==Str.ofString "redo")=false:=by decide+kernel
def tR:(Str.ofString "undo"==Str.ofString "put")=false:=by decide+kernel
def qG:(Str.ofString "undo"==Str.ofString "move")=false:=by decide+kernel
def qH:(Str.ofString "undo"==Str.ofString "drop")=false:=by decide+kernel
def oC:(Str.ofString "undo"==Str.ofString "write")=false:=by decide+kernel
def tS:(Str.ofString "undo"==Str.ofString "cut")=false:=by decide+kernel
def a7b:(Str.ofString "undo"==Str.ofString "set")=false:=by decide+kernel
def tT:(Str.ofString "redo"==Str.ofString "put")=false:=by decide+kernel
def qI:(Str.ofString "redo"==Str.ofString "move")=false:=by decide+kernel
def qJ:(Str.ofString "redo"==Str.ofString "drop")=false:=by decide+kernel
def oE:(Str.ofString "redo"==Str.ofString "write")=false:=by decide+kernel
def tU:(Str.ofString "redo"==Str.ofString "cut")=false:=by decide+kernel
def a7e:(Str.ofString "redo"==Str.ofString "set")=false:=by decide+kernel
def a3v:(Str.ofString "redo"==Str.ofString "undo")=false:=by decide+kernel
def gU(a b:Str):Ax (.str a) (.str b)=some (.bl f8_):=by simp[Ax,Bh,Hy,a4l]
def in2(k a b:Str):Ve false V! oY!=some (.bl oY_):=by have:=c5n k aj_;simpa only[II,NV,NA,List.any_nil,Bool.or_false]using this
def vA(a b:Int):Ax (.int a) (.int b)=some (.bl f8_):=by simp[Ax,Bh,Hy,vB]
abbrev scr(ns:w!):D:=.lst jE_
def a4w{α:Type}{xs:O_}{i:Int}(h0:0<=i)(h1:i<i!):∃x,Dd xs i=some x/\x∈xs:=by refine⟨xs[i.toNat]' a!,?_,KQ _⟩;unfold Dd Eg;rw[IL h0,IL h1];simp
def c6q(ns:w!)(k:Int):∃c,Of oZ!=some (.int c):=by
 cases ns with
 |nil=>exact⟨0,by push_cast[Of,Sw,scr,Wg]⟩
 |cons n r=>
  have hp:(0:Int)<hy_+1:=by omega
  obtain⟨x,e,Y⟩:=a4w (xs:=xA_) (i:=k%(hy_+1)) (LS _ a!) (by simpa using LY k hp);obtain⟨c,_,rfl⟩:=IS.mp Y;refine⟨c,?_⟩;have e':Ah (.lst xA_) (.int (k%(hy_+1)))=some (.int c):=e;simp only[II]at e';simp[Of,Sw,scr,Cg,Bl,sSeq,Gg,Ct,Aa,Wg,f2,f1,Ac,Ag,Bk,Bv,Dr,hp,e']
def iI(ns:w!){k:Int}:∃m,Bp oZ!=some bX_/\0<=m/\m<4294967231:=by obtain⟨c,L⟩:=c6q ns k;refine⟨_,by push_cast[Bp,Xq,L,Uc];rfl,LS _ b_,LY _ b_⟩
def nE{n:Int}(h:xs≠[]):∃x,Ds [.lst xs,aM_]=some x/\x∈xs:=by
 have hl:0<i!:=List.length_pos_iff.mpr h;have hp:(0:Int)<ju!:=by omega
 obtain⟨x,e,Y⟩:=a4w (xs:=xs) (i:=n%ju!) (LS _ a!) (LY n hp);refine⟨x,?_,Y⟩;have e':Ah L! (.int (n%ju!))=some x:=e;simp[Ds,Vx,Cg,Bl,Aa,f2,f1,Ac,Ag,Bk,Bv,Dr,hp,e',hl]
def qF{bnd:af_}{q:aO_}(P:Nat->Ae->Prop):∀(ds:c_) (i:Nat) (ρ:Ae),P i ρ->
  (∀(j:Nat) (d:D) (ρ:Ae),ds[j]?=some d->P (i+j) ρ->∃ah bh,bnd d ρ=some ah/\q ah=some (.nx bh)/\P (i+j+1) bh)->
  ∃ρ',Re bnd q ds ρ=some cT_/\P (i+f_) ρ'
 |[],i,ρ,h,_=>⟨ρ,rfl,h⟩
 |d::ds,i,ρ,h,hs=>by
  obtain⟨ah,bh,e1,e2,h2⟩:=hs 0 d ρ rfl h;obtain⟨ρ',e3,h3⟩:=qF P ds X! bh h2 λj d ρ hd hp=>by
   have:=hs (j+1) d ρ (by simpa using hd) (by rw[show i+(j+1)=i+1+j by omega];exact hp);rw[show i+(j+1)+1=i+1+j+1 by omega]at this;show"#H"
  refine⟨ρ',?_,by rw[IQ,show i+(ds.length+1)=i+1+ds.length by omega];exact h3⟩;simp[Re,e1,e2,e3]
def mW{bnd:af_}{ft:ac_}{fe:e!}{ρ:Ae}(R:D->Prop):∀(ds:c_),(∀d∈ds,∃ah b,bnd d ρ=some ah/\ft ah=some b/\(b=true->∃y,fe ah=some y/\R y))->
  ∃ys,Fk bnd ft fe ρ ds=some ys/\ac!<=f_/\∀y∈ys,R y
 |[],_=>⟨[],rfl,IW _,λy hy=>by cases hy⟩
 |d::ds,h=>by
  obtain⟨ah,b,e1,e2,hy⟩:=h d IH;obtain⟨ys,e3,hl,J⟩:=mW R ds λx Y=>h x cm!
  cases b with
  |false=>exact⟨ys,by simp[Fk,e1,e2,e3],ev!,J⟩
  |true=>
   obtain⟨y,e4,r4⟩:=hy rfl;refine⟨y::ys,by simp[Fk,e1,e2,e3,e4],ev!,lu_⟩;obtain rfl|hz:=HY.mp hz
   .exact r4
   .exact J z hz
def uD{bnd:af_}{fe:e!}{ρ:Ae}:∀{ds ys:c_},Fk bnd a5_ fe ρ ds=some ys->ac!=f_
 |[],ys,e=>by cases e;rfl
 |d::ds,ys,e=>by
  unfold Fk at e;obtain⟨ah,e1,e⟩:=HS.mp e;simp only[NN,KG]at e;obtain⟨y,e3,e⟩:=HS.mp e;obtain⟨zs,e4,rfl⟩:=IG.mp e;simp[uD e4]
def NameG(x:D):Prop:=∃a b,x=.tup vQ!/\0<=a/\a<16/\1<=b/\b<=2000
def Da(x:D):Prop:=x=.str "root"\/x=.str "bin"\/NameG x
def Mr(x:D):Prop:=x=.non\/NameG x
def Ya(x:D):Prop:=∃a b c,x=.tup vQ_/\0<=a/\a<16/\1<=b/\b<=2000/\0<=c/\c<=15
def Ky(x:D):Prop:=x=.non\/Ya x
inductive DG:D->Prop
 |put {a b:D}:Da a->Mr b->DG ev_
 |move {a b c:D}:Da a->Da b->Mr c->DG hz!
 |drop {a:D}:Da a->DG hA!
 |write {a b:D} {s:Str}:Da a->Ky b->Ub s=true->1<=aB!->aB!<=16->DG fA!
 |cut {a:D} {x y z m:Int}:Da a->Ya em_->1<=m->z+m<=16->DG ew!
 |set {a:D} {p n:Int}:Da a->0<=p->p<=3->n.natAbs<10 ^ 60->DG (.tup [ky!,a,.int p,aM_])
 |undo {a:D}:NameG a->DG (.tup [o2!,a])
 |redo {a:D}:NameG a->DG (.tup [.str "redo",a])
def Vh(o:D):Prop:=∃h n tm d,o=.tup [aN_,aM_,.int tm,d]/\0<=h/\h<16/\1<=n/\n<=2000/\DG d
def a8f(h:DG d):∃k r,d=.tup dv!/\(k="write"->∃a b s,r=[a,b,ep_]/\aB!<=16):=by
 cases h with
 |write _ _ _ _ h5=>exact⟨_,_,rfl,λ_=>⟨_,_,_,rfl,h5⟩⟩
 |_=>exact⟨_,_,rfl,λz=>absurd z l!⟩
def c1h{ops:c_}(h:ky_)(hl:kz_):∃its,Lz [.lst ops]=some o2_/\3<=g0!/\g0!<=200/\∀x∈its,Da x:=by
 obtain⟨ys,e,l,J⟩:=mW (ρ:=du_) (bnd:=Bd 0) (ft:=fT nm!) (fe:=Ba gM_)
  (xH!) ops (by
   intro o ho;obtain⟨h',n,tm,d,rfl,b1,b2,b3,b4,hd⟩:=h o ho;obtain⟨k,r,rfl,_⟩:=a8f hd;refine⟨_,_,rfl,by push_cast[gU];rfl,λ_=>⟨_,by push_cast,xI!⟩⟩)
 have L:Hv 1 [] e2_ D! (fT nm!) (Ba gM_) [aB_]=some a9!:=by
  show xI_;rw[dv_,e];rfl
 have a1:An (.lst [.str "root"]) a9!=some xJ!:=by
  show(if 1+ac!<=big then some (D.lst ([.str "root"]++ys))else none)=_;rw[dv_];rfl
 have a2:An xJ! (.lst kB!)=some (.lst (.str "root"::(ys++kB!))):=by
  show(if ac!+1+2<=big then some (D.lst (.str "root"::ys++kB!))else none)=_;rw[dv_];rfl
 refine⟨.str "root"::(ys++kB!),by simp[Lz,Tx,Cg,Bl,f2,fC,L,a1,a2],G_,ev!,ba!⟩;simp at Y;obtain rfl|Y|rfl|rfl:=Y
 .exact c1_
 .exact .inr (.inr (J x Y))
 .exact .inr ai_
 .exact .inr (.inr ⟨9,9,rfl,U!,U!,U!,U!⟩)
def b7p{ops:c_}(h:ky_)(hl:kz_):∃ss,Ly [.lst ops]=some (.lst ss)/\ss≠[]/\∀x∈ss,Ky x:=by
 let P:Nat->Ae->Prop:=λi ρ=>∃cx x y,ρ=[aB_,o4!,x,y]/\cx≠[]/\o4_<=2+16*i/\∀z∈cx,Ky z
 obtain⟨ρ',e,cx,x,y,rfl,f0,_,hf⟩:=qF (bnd:=Cs 2) (q:=Gg tQ_ tT! Ct)
  P ops 0 [aB_,some (.lst [.non,.tup [fA_,fA_,.int 3]]),none,none] ⟨_,_,_,rfl,by simp,by simp,by
   intro z hz;simp at hz;obtain rfl|rfl:=hz
   .exact c1_
   .exact .inr ⟨9,9,3,rfl,U!,U!,U!,U!,U!,U!⟩⟩ (by
  rintro j d ρ hd ⟨cx,x,y,rfl,f0,fl,hf⟩;have hj:j<kz!:=(IU.mp hd).1;obtain⟨h',n,tm,d',rfl,b1,b2,b3,b4,hdg⟩:=h d (MC hd);obtain⟨k,r,rfl,hw⟩:=a8f hdg;by_cases hk:k="write"
  .subst hk;obtain⟨a,b,s,rfl,s16⟩:=hw rfl;have uk:aB!<=big:=by unfold big;omega
   let P2:Nat->Ae->Prop:=λi ρ=>∃cx y,ρ=xQ_/\cx≠[]/\o4_<=2+16*(0+j)+i/\∀z∈cx,Ky z
   obtain⟨bh,e2,XH,y2,rfl,f20,f2l,yn⟩:=qF (bnd:=Cs 3) (q:=Pr 1 tS_) P2 (Dp aB!) 0
    (xQ_) ⟨cx,y,rfl,f0,fl,hf⟩ (by
     rintro i d ρ hd ⟨cx,y,rfl,f0,fl,hf⟩;unfold Dp at hd;rw[JM]at hd;obtain⟨i',b9,rfl⟩:=IG.mp hd;obtain⟨ap,he⟩:=IU.mp b9;rw[PX]at he;subst he;rw[NG]at ap;have hb:o4_<big:=by unfold big;omega
     refine⟨_,_,rfl,by push_cast[Pr,hb];rfl,cx++[.tup [.int h',aM_,dN_]],_,rfl,G_,ev!,lu_⟩;obtain hz|hz:=IK.mp hz
     .exact hf z hz
     .simp at hz;subst hz;exact .inr ⟨_,_,_,rfl,b1,b2,b3,b4,v!,v!⟩)
   have J:-1000<=kC!/\kC!<=100000:=by omega
   refine⟨_,[aB_,some (.lst XH),xP!,y2],rfl,by push_cast[gU,Rp,Eo,uk,J,e2],XH,_,_,rfl,f20,?_,yn⟩;simp[Dp]at f2l;omega
  .refine⟨_,[aB_,o4!,some (.tup [.int h',aM_,.int tm,.tup dv!]),y],rfl,by push_cast[gU,hk],cx,_,_,rfl,f0,v!,hf⟩)
 refine⟨cx,?_,f0,hf⟩;simp[Ly,Tu,Ml,Cg,sSeq,Ac,Ag,fC,Rp,Ei,Aa,Bl,e]
abbrev letters:Str:=" abcXYZ.,;!019~[]\\\"'|{}<>@#$&*()-+/=_^:?`"
def tN:o5!=41:=by decide+kernel
def b0s:letters.cps.toList.all Lq=true:=by decide+kernel
def b6q:(dw!).cps=#[]:=by decide+kernel
def a0x:(dw!).length=0:=by decide+kernel
def Ox(c:Nat):D:=.str ap_
def a5k:∀(xs:c_),(∀x∈xs,∃c,x=Ox c/\Lq c=true)->∃cs:List Nat,xs=cs.map Ox/\cs.all Lq=true
 |[],_=>xU!
 |x::xs,h=>by
  obtain⟨c,rfl,L⟩:=h x IH;obtain⟨cs,rfl,pp⟩:=a5k xs λy hy=>h y ec_
  exact⟨c::cs,rfl,by simp only[OD,L,pp,NM]⟩
def rE:∀(cs:k!),Qg kG!=some hC_
 |[]=>rfl
 |c::cs=>by simp only[II,Ox,Qg];rw[show List.map Ox cs=List.map Ox cs from rfl,rE cs];rfl
def a7t:∀(cs:k!) (acc:Array Nat),(hC_).foldl (λacc p=>acc++(dw!).cps++p.cps) acc=acc++cs.toArray
 |[],acc=>by simp
 |c::cs,acc=>by
  rw[II,List.foldl_cons,a7t cs,b6q];simp
def c1e(cs:k!):Txt.join dw! hC_=o5_:=by
 unfold Txt.join Builtin.Str.glued;cases cs with
 |nil=>rfl
 |cons c cs=>
  simp only[II,List.drop_succ_cons,List.drop_zero,List.headD_cons];rw[a7t];simp
def a1u:∀(cs:k!),((hC_).map (·.length)).sum=cN!
 |[]=>rfl
 |c::cs=>by
  have ih:=a1u cs;simp only[II,List.sum_cons,IQ];rw[ih];show 1+cN!=_;omega
def c3l{n most:Int}(h1:1<=most)(h16:most<=16):∃s,Oe [aM_,.int most]=some aO!/\Ub s=true/\1<=aB!/\aB!<=16:=by
 have XG:0<=n%most:=LS _ a!;have wx:n%most<most:=LY _ a!;obtain⟨N,hN⟩:∃N:Nat,(N:Int)=1+n%most:=⟨(1+n%most).toNat,v!⟩;have hN1:1<=N:=by omega
 have hN2:N<=16:=by omega
 obtain⟨ys,e,l,J⟩:=mW (ρ:=x2!) (bnd:=Bd 0) (ft:=o6!) (fe:=f2 Ah y! tU!)
  (λy=>∃c,y=Ox c/\Lq c=true) fC! (by
   intro d hd;unfold Dp at hd;obtain⟨i,hi,rfl⟩:=IS.mp hd;have b9:=OJ.mp hi;have z1:(0:Int)<1+3*(i:Int):=by omega
   have z2:1+3*(i:Int)<1073741824:=by omega
   have ao:o5!<=big:=by rw[tN];decide
   have hsz:((x1_:Nat):Int)=41:=by
    have:x1_=41:=by rw[<-tN];simp[Str.length]
    omega
   obtain⟨c,ec,L⟩:=a4w (xs:=letters.cps.toList) (i:=n / (1+3*(i:Int))%41) (LS _ b_) (by rw[hsz];exact LY _ b_);have m9:Ah qA! (.int (n / (1+3*(i:Int))%41))=some (Ox c):=by
    show(if o5!<=big then(Dd letters.cps.toList _).map _ else none)=_;rw[IL ao,ec];rfl
   refine⟨_,true,rfl,rfl,λ_=>⟨Ox c,?_,c,rfl,MB.mp b0s c L⟩⟩;simp[Bd,f2,Aa,fC,An,Eh,Dr,Uc,Cj,Bv,z1,z2,m9])
 have l2:=uD e;obtain⟨cs,rfl,pp⟩:=a5k ys J;have b7:cN!=N:=by simpa[Dp]using l2
 have hrng:-1000<=(N:Int)/\(N:Int)<=100000:=by omega
 have L:Hv 1 [0,2] (Eo nn!) D! a5_ tV_ x4_=some (.lst kG!):=by
  have hi:Eo nn! x4_=some fC!:=by
   simp[Eo,f2,fC,Aa,Bv,Dr,show 0<most by omega,An,<-hN,hrng]
  unfold Hv;rw[hi];show(if(fC!).length<=big then Option.map D.lst (Fk _ _ _ x2! fC!)else none)=_;rw[IL (by simp[Dp,big];omega),e];rfl
 have hj:Nc ji_ (.lst kG!)=some (.str o5_):=by
  unfold Nc;simp only[rE,NN,a1u,IP,a0x,Nat.mul_zero,Nat.add_zero,c1e];rw[dv_]
 refine⟨o5_,?_,?_,?_,?_⟩
 .simp[Oe,Vv,Cg,sSeq,Co,fC,Bl,Xu,L,hj]
 .simp only[Ub,Str.length,IF,pp,Bool.and_true,JI];omega
 .simp only[Str.length,IF];omega
 .simp only[Str.length,IF];omega
def HM:Ae->Option Fl:=tW_
def HL:Ae->Option Fl:=tX!
def HK:Ae->Option Fl:=tY!
def HJ:Ae->Option Fl:=tZ_
def GL:Ae->Option Fl:=t0!
def HI:Ae->Option Fl:=t0_
def HH:Ae->Option Fl:=t1_
def HG:Ae->Option Fl:=t2_
def HF:Ae->Option Fl:=t4!
def HE:Ae->Option Fl:=t5!
def CT:Ae->Option Fl:=t6_
def CS:Ae->Option Fl:=t8!
def AY:Ae->Option Fl:=ua!
def Ze:Ae->Option Fl:=ub!
nonrec def dq14:Ae->Option Fl:=ub_
nonrec def dq15:Ae->Option Fl:=uc_
def DR:Ae->Option Fl:=(sSeq HG (sSeq HF (sSeq HE (sSeq CT x5_))))
def b5g:Qa=(sSeq HM (sSeq HL (sSeq HK (sSeq HJ (sSeq GL (sSeq HI (sSeq HH DR))))))):=rfl
def bL{q1 q2:aO_}{ρ ρ':Ae}(h:q1 ρ=some cT_):sSeq q1 q2 ρ=q2 ρ':=by simp[sSeq,h]
def oJ{q1 q2:aO_}{ρ:Ae}(h:q1 ρ=some bc_):sSeq q1 q2 ρ=some bc_:=by simp[sSeq,h]
def iT{f:e!}{ρ:Ae}{i:Nat}(h:cL!):Co i f ρ=some (.nx bW_):=by simp[Co,h]
abbrev kinds:List D:=[kx!,kx!,kx!,o1!,o1!,kx_,kx_,.str "cut",ky!,o2!,.str "redo",.str "drop"]
def KindOk(k:Str):Prop:=k="put"\/k="move"\/k="write"\/k="cut"\/k="set"\/k="undo"\/k="redo"\/k="drop"
def a8l{α:Type}{xs:O_}{lo hi:a8_}{x:α}(h:x∈Cr xs lo hi):x∈xs:=List.mem_of_mem_drop (List.mem_of_mem_take h)
def Rc:D->D
 |.str _=>.non
 |d=>d
def a7l(h:Da d\/d=.non):(Fq "str" d=some true/\Rc d=.non)\/(Fq "str" d=some false/\Rc d=d/\Mr d):=by
 rcases h with(rfl|rfl|⟨a,b,rfl,h⟩)|rfl
 .exact .inl bz_
 .exact .inl bz_
 .exact .inr ⟨rfl,rfl,.inr ⟨a,b,rfl,h⟩⟩
 .exact .inr ⟨rfl,rfl,c1_⟩
def d0n(ns:w!){base most:Int}{ops:c_}(h:ky_)(hl:kz_):∃m0 its item je k,0<=m0/\its≠[]/\(∀x∈its,Da x)/\Da item/\Mr je/\KindOk k/\
  Qa x7!=DR o8!:=by
 obtain⟨m0,e0,p0,_⟩:=iI ns (k:=base);obtain⟨m1,e1,_,_⟩:=iI ns (k:=base+1);obtain⟨m2,e2,_,_⟩:=iI ns (k:=base+2);obtain⟨its,ei,i3,i200,oq⟩:=c1h h hl;have wy:its≠[]:=by intro z;subst z;simp at i3
 have rl:x8_≠[]:=by
  intro z;have z2:=congrArg List.length z;simp[Cr,HT.sIx]at z2;omega
 have b7:(x9!).length+(x9_).length<=big:=by
  simp[Cr,HT.sIx,big];omega
 obtain⟨item,ep,mp⟩:=nE (n:=m1) rl;have ou:Da item:=by
  obtain z|z:=IK.mp mp
  .exact oq _ (a8l z)
  .exact oq _ (a8l z)
 have a1:An (.lst x9!) (.lst x9_)=some (.lst x8_):=by
  show hD_;rw[IL b7]
 have a2:An o2_ (.lst jj!)=some (.lst (its++jj!)):=by
  show(if g0!+2<=big then _ else none)=_;rw[dv_]
 obtain⟨oth,eo,mo⟩:=nE (n:=m2) (xs:=its++jj!) d!;have ux:Da oth\/oth=.non:=by
  obtain z|z:=IK.mp mo
  .exact .inl (oq _ z)
  .simp at z;exact .inr z
 have gq:Mr (Rc oth):=by
  obtain⟨_,z⟩|⟨_,z,y⟩:=a7l ux
  .rw[z];exact .inl rfl
  .rw[z];exact y
 obtain⟨kd,ek,mk⟩:=a4w (xs:=kinds) (i:=m0%12) (LS _ b_) (by show _<(12:Int);exact LY _ b_);obtain⟨k,rfl,hk⟩:∃k,kd=.str k/\KindOk k:=by
  simp[kinds]at mk;unfold KindOk;obtain rfl|rfl|rfl|rfl|rfl|rfl|rfl|rfl:=mk<;>exact⟨_,rfl,G_⟩
 have ek':Ah (.lst kinds) (.int (m0%12))=some V!:=ek;refine⟨m0,its,item,Rc oth,k,p0,wy,oq,ou,gq,hk,?_⟩;rw[b5g];rw[bL (ρ':=[J!,as!,aB_,bq!,bZ!,none,none,none,none,none,none,none]) (iT (by simp[f1,Ac,Aa,Ag,e0]))];rw[bL (ρ':=[J!,as!,aB_,bq!,bZ!,cm_,none,none,none,none,none,none]) (iT (by simp[f1,Ac,Aa,Ag,ei]))];rw[bL (ρ':=[J!,as!,aB_,bq!,bZ!,cm_,cQ_,none,none,none,none,none]) (iT (by
  have b1:An kH_ a5!=some (.int (base+1)):=rfl;simp[f1,Ac,Aa,Ag,f2,Ea,Bm,Ar,As,fC,a1,b1,e1,ep]))]
 rw[bL (ρ':=[J!,as!,aB_,bq!,bZ!,cm_,cQ_,some oth,none,none,none,none]) (iT (by
  have b1:An kH_ bz!=some (.int (base+2)):=rfl;simp[f1,Ac,Aa,Ag,f2,fC,a2,b1,e2,eo]))]
 rw[bL (ρ':=[J!,as!,aB_,bq!,bZ!,cm_,cQ_,pa!,none,none,none,none]) (by
  obtain⟨z1,z2⟩|⟨z1,z2,_⟩:=a7l ux<;>simp[GL,Gg,fT,Dy,Aa,z1,z2,Ct,Co,fC])]
 rw[bL (ρ':=[J!,as!,aB_,bq!,bZ!,cm_,cQ_,pa!,fC_,none,none,none]) (iT di!)];rw[bL (ρ':=[J!,as!,aB_,bq!,bZ!,cm_,cQ_,pa!,fC_,some V!,none,none]) (iT (by simp[f2,Aa,fC,Bv,Dr,ek']))]
section
variable{ρ:Ae}
def b6k{c:ac_}{a b:aO_}(h:c ρ=some true):Gg c a b ρ=a ρ:=by unfold Gg;rw[h];rfl
def iK{c:ac_}{a:aO_}(h:c ρ=some false):Gg c a Ct ρ=some aH_:=by unfold Gg;rw[h];rfl
def qT{i:Nat}{b:Bool}(h:Aa i ρ=some V!)(e:(k==s)=b):fT (f2 Ax (Aa i) (fC aO!)) ρ=some b:=by unfold fT f2 fC;rw[h];show(Ax V! aO!).bind _=_;rw[gU,e];rfl
def dG{f:e!}{fs:aq_}(h:cL!)(g:hE_):Ac f fs ρ=some eg_:=by unfold Ac;rw[h,g];rfl
def oO{fs:aq_}{ds:c_}(h:hE_)(hl:yb_):Bl (Ba fs) ρ=some (.rt dm!):=by unfold Bl Ba;rw[h];show Option.map _ yc!=_;rw[yc_];rfl
def xR{g:ad!}{fs:aq_}(h:hE_)(e:g ds=some d):f1 g fs ρ=some d:=by unfold f1;rw[h];exact e
def gG{g:aW_}{f1 f3:e!}(h:f1 ρ=some x)(k:f3 ρ=some y)(e:g x y=some d):f2 g f1 f3 ρ=some d:=by unfold f2;rw[h,k];exact e
def a6t{ns:w!}{base j m:Int}(h:Aa 0 ρ=some (scr ns))(g:Aa 1 ρ=some kH_)(e:Bp [fz!,.int (base+j)]=some bX_):f1 Bp (Ac q! (Ac (f2 An u_ (fC dq!)) Ag)) ρ=some bX_:=
 xR (dG h (dG (gG g rfl rfl) rfl)) e
def b8z{m:Int}{f h:e!}(a:f ρ=some L!)(b:h ρ=some bX_)(e:Ds [.lst xs,en_]=some p):f1 Ds (Ac f (Ac h Ag)) ρ=some p:=
 xR (dG a (dG b rfl)) e
end
def b0l{i j:Int}(h:0<j):Bv bx_ dq!=some (.int (i%j)):=by show(if decide (0<j)=true then _ else _)=_;rw[IL (JC h)]
def c6f(ns:w!){base most:Int}{ops:c_}(h:ky_)(hl:kz_)(wx:1<=most)(hm16:most<=16):∃d,Kn yd!=some d/\DG d:=by
 obtain⟨m0,its,item,je,k,p0,wy,oq,ou,ux,hk,O⟩:=d0n ns (base:=base) (most:=most) h hl;have fin:∀d,DR o8!=some bc_->Kn yd!=some d:=λd e=>by
  unfold Kn Cg;rw[IL di!];show(match Qa x7! with|some (.rt d)=>some d|some (.nx _)=>some .non|none=>none)=_;rw[O,e]
 clear O;obtain⟨m1,e1,_,_⟩:=iI ns (k:=base+1);obtain⟨m3,e3,_,_⟩:=iI ns (k:=base+3);obtain⟨m4,e4,_,_⟩:=iI ns (k:=base+4);obtain⟨m5,e5,_,_⟩:=iI ns (k:=base+5);obtain⟨p1,ep1,mp1⟩:=nE (n:=m1) wy;obtain⟨p3,ep3,mp3⟩:=nE (n:=m3) wy;obtain⟨ss,es,SK,hss⟩:=b7p h hl;obtain⟨sg,eg,mg⟩:=nE (n:=m4) SK;have XI:=hss _ mg;obtain⟨tx,et,ht1,ht0,wz⟩:=c3l (n:=m5) wx hm16;have uy:∀{k:Str},CT o8!=some (.nx pd!):=
  iT (xR (dG (xR pd_ es) (dG (a6t rfl rfl e4) rfl)) eg)
 have XJ:∀{k:Str},yf_=true->Ze pd!=some (.rt yg_):=λ{k} e=>
  (b6k (by unfold fT;rw[yh_,e];rfl)).trans (oO rfl rfl)
 have XN:DG yg_:=.set ou a! a! a!;obtain⟨nm,nn,hun⟩:∃nm,NameG nm/\∀{k:Str},("put"==k)=false->sSeq dq14 dq15 [some (scr ns),some (.int base),some (.lst ops),some (.int most),some (.int m0),some (.lst its),some item,some je,some (.lst kinds),some (.str k),some sg,none]=some (.rt (.tup [.str k,nm])):=by
  obtain⟨ys,e,l,J⟩:=mW (ρ:=du_) (bnd:=Bd 0) (ft:=o6!) (fe:=Ba gM_)
   (xH!) ops (by
    intro o ho;obtain⟨h',n,tm,d,rfl,b1,b2,b3,b4,_⟩:=h o ho;exact⟨_,true,rfl,rfl,λ_=>⟨_,rfl,xI!⟩⟩)
  have a1:An a9! (.lst pg!)=some (.lst (ys++pg!)):=by
   show(if ac!+1<=big then _ else none)=_;rw[dv_]
  obtain⟨nm,en,mn⟩:=nE (n:=m1) (xs:=ys++pg!) d!;refine⟨nm,?_,λ{k} _=>(bL (iT (gG ?_ rfl a1))).trans (oO (dG rfl (dG (b8z rfl yl_ en) rfl)) rfl)⟩
  .obtain z|z:=IK.mp mn
   .exact J _ z
   .simp at z;subst z;exact⟨_,_,rfl,U!,U!,v!,v!⟩
  .show xI_;rw[dv_,e];rfl
 have w9:∀{k:Str},("put"==k)=false->(k=="write")=false->(k=="cut")=false->yf_=false->(x5_) pd!=some (.rt (.tup [.str k,nm])):=λ{k} e0 w c s=>
  (bL (iK (qT rfl w))).trans ((bL (iK (by unfold Db;rw[qT rfl c];rfl))).trans ((bL (iK (by unfold fT;rw[yh_,s];rfl))).trans (hun e0)))
 unfold KindOk at hk;obtain rfl|rfl|rfl|rfl|rfl|rfl|rfl|rfl:=hk
 .exact⟨_,fin _ (oJ ((kJ!).trans (oO (dG rfl (dG (b8z rfl yl_ ep1) rfl)) rfl))),.put (oq _ mp1) ux⟩
 .exact⟨_,fin _ ((bL (iK (qT rfl jG))).trans (oJ ((kJ!).trans (oO (dG rfl (dG rfl (dG (b8z rfl (a6t rfl rfl e3) ep3) rfl))) rfl)))),.move ou (oq _ mp3) ux⟩
 all_goals first|(refine⟨_,fin _ ((bL (iK (qT rfl jH))).trans ((bL (iK (qT rfl iQ))).trans (oJ ((kJ!).trans (oO rfl rfl))))),.drop ou⟩;done)|skip
 .exact⟨_,fin _ ((bL (iK (qT rfl lB))).trans ((bL (iK (qT rfl jR))).trans ((bL (iK (qT rfl jS))).trans ((hG!).trans
   (oJ ((kJ!).trans (oO (dG rfl (dG rfl (dG rfl (dG (xR (dG (a6t rfl rfl e5) rfl) et) rfl)))) rfl))))))),.write ou XI ht1 ht0 wz⟩
 .have go:DR [J!,as!,aB_,bq!,bZ!,cm_,cQ_,kI!,fC_,some dU_,none,none]=sSeq AY x5! [J!,as!,aB_,bq!,bZ!,cm_,cQ_,kI!,fC_,some dU_,some sg,none]:=(bL (iK (qT rfl pB))).trans ((bL (iK (qT rfl mM))).trans ((bL (iK (qT rfl mN))).trans ((hG!).trans (bL (iK (qT rfl lD))))));obtain rfl|⟨a,b,c,rfl,h1,h2,h3,h4,c0,c15⟩:=XI
  .exact⟨_,fin _ (go.trans ((bL (iK yr!)).trans (oJ (XJ rfl)))),XN⟩
  .have L:0<16 - c:=by omega
   have q1:0<=m0 / 12%(16 - c):=LS _ a!;have q2:m0 / 12%(16 - c)<16 - c:=LY _ L;exact⟨_,fin _ (go.trans (oJ ((b6k yr!).trans (oO (dG rfl (dG rfl (dG rfl (dG (gG rfl (gG rfl rfl (b0l L)) rfl) rfl)))) rfl)))),.cut ou ⟨a,b,c,rfl,h1,h2,h3,h4,c0,c15⟩ a! a!⟩
 .exact⟨_,fin _ ((bL (iK (qT rfl oZ))).trans ((bL (iK (qT rfl mK))).trans ((bL (iK (qT rfl mL))).trans ((hG!).trans ((bL (iK (qT rfl lC))).trans ((bL (iK (by unfold Db;rw[qT rfl pA];rfl))).trans (oJ (XJ l!)))))))),XN⟩
 .exact⟨_,fin _ ((bL (iK (qT rfl tR))).trans ((bL (iK (qT rfl qG))).trans ((bL (iK (qT rfl qH))).trans ((hG!).trans (w9 tV oC tS l!))))),.undo nn⟩
 .exact⟨_,fin _ ((bL (iK (qT rfl tT))).trans ((bL (iK (qT rfl qI))).trans ((bL (iK (qT rfl qJ))).trans ((hG!).trans (w9 tW oE tU l!))))),.redo nn⟩
def fM(h:Da d):Ej d=true:=by obtain rfl|rfl|⟨a,b,rfl,_⟩:=h<;>simp[Ej,Fg]
def zM(h:Mr d):Ej d=true:=by obtain rfl|⟨a,b,rfl,_⟩:=h<;>simp[Ej,Fg]
def wN(h:NameG d):Ej d=true:=by obtain⟨a,b,rfl,_⟩:=h;simp[Ej,Fg]
def a9e(h:Ky d):Ej d=true:=by obtain rfl|⟨a,b,c,rfl,_⟩:=h<;>simp[Ej,Fg]
def b1e(h:DG d):Ej d=true:=by
 cases h with
 |put h1 h2=>simp[Ej,Fg,fM h1,zM h2]
 |move h1 h2 h3=>simp[Ej,Fg,fM h1,fM h2,zM h3]
 |drop h1=>simp[Ej,Fg,fM h1]
 |write h1 h2=>simp[Ej,Fg,fM h1,a9e h2]
 |cut h1=>simp[Ej,Fg,fM h1]
 |set h1=>simp[Ej,Fg,fM h1]
 |undo h1=>simp[Ej,Fg,wN h1]
 |redo h1=>simp[Ej,Fg,wN h1]
abbrev Vn:Ae->Option Fl:=(sSeq ug_
 (sSeq uh!
 (sSeq uh_
 (sSeq ui!
 (sSeq uj!
 uj_)))))
end K13
namespace K13
open PySem L2 DL
open Classical
inductive Te(W:OW)(n:D):D->OW->Prop
 |put {a b:D} {rows':i_}:Da a->Mr b->Rm W.rows n ds! b rows'->Te W n ev_ bb_
 |mvY {a b c:D} {rows':i_}:Da a->Da b->Mr c->yv_->Rm W.rows a b c rows'->Te W n hz! {W with rows:=rows'}
 |mvN {a b c:D}:Da a->Da b->Mr c->¬yv_->Te W n hz! W
 |drY {a:D} {rows':i_}:Da a->yw!->Rm W.rows a binn .non rows'->Te W n hA! {W with rows:=rows'}
 |drN {a:D}:Da a->¬yw!->Te W n hA! W
 |wrt {a b:D} {s:Str} {h m:Int}:Da a->Ky b->aB!<=16->n=.tup cn!->Te W n fA! (if a∈W.its then setT W a yw_ else W)
 |cut {a:D} {x y z m:Int}:Da a->0<=z->1<=m->z+m<=16->Te W n (.tup [.str "cut",a,.tup [.int x,.int y,.int z],.int m]) (if a∈W.its then setT W a (cutT ((List.range m.toNat).map λk=>.tup hl!) as_)else W)
 |set {a:D} {p v:Int}:Da a->0<=p->p<=3->Te W n kL! (if a∈W.its then Tp W a kL_ else W)
def cO(h:Da x):∃k,De x=some k:=by
 obtain rfl|rfl|⟨a,b,rfl,_⟩:=h
 .exact H!
 .exact H!
 .exact H!
def vQ(h:Mr x):∃k,De x=some k:=by
 obtain rfl|⟨a,b,rfl,_⟩:=h
 .exact H!
 .exact H!
def b4u(h:Ky x):∃k,De x=some k:=by
 obtain rfl|⟨a,b,c,rfl,_⟩:=h
 .exact H!
 .exact H!
structure Uw(W:OW)(pre:c_):Prop where
 inv:By W
 its:∀x∈W.its,x∈pre
 sgs:∀x∈W.its,∀q∈W.txt x,∃h n k,q.1=.tup yy_/\D.tup U_∈pre
 chr:∀x∈W.its,∀q∈W.txt x,∃c:Nat,q.2.1=.str ap_
section
variable{t:Aq}{M:Mh}{o:xY!}{rl:Addr->Pd}{W W':OW}{hc:Nat}{R:D->Mh->Prop}{pre:List D}
def pL{h n:Int}{s:Str}{q:fm_}(hq:q∈s.cps.toList.zipIdx.map eo!):∃c k:Nat,q=(.tup pm!,.str ap_,true):=by obtain⟨⟨c,k⟩,_,rfl⟩:=IS.mp hq;exact⟨c,k,rfl⟩
def b2f(h n:Int):∀(cs:k!) (k0:Nat),(((yz_).map c!)).Nodup/\∀k:Nat,k<k0->D.tup pm!∉(yz_).map c!
 |[],k0=>by simp
 |c::cs,k0=>by
  obtain⟨h1,h2⟩:=b2f h n cs (k0+1);refine⟨IV.mpr ⟨h2 k0 a!,h1⟩,λk hk z=>?_⟩;obtain z|z:=HY.mp z
  .simp[sgn]at z;omega
  .exact h2 k a! z
def b7l{h m:Int}(hs:Te W pm_ d W')(w:fH!)(hn:yA!):Uw W' yB!:=by
 have keep:∀{V:OW},V.its=W.its->V.txt=W.txt->By V->Uw V yB!:=λ{V} e1 e2 wi=>by
  refine⟨wi,ba!,kM_,kM_⟩
  .rw[e1]at Y;exact JE _ (w.its x Y)
  .rw[e1]at Y;rw[e2]at hq;obtain⟨a,b,c,e,hm⟩:=w.sgs x Y q hq;exact⟨a,b,c,e,JE _ hm⟩
  .rw[e1]at Y;rw[e2]at hq;exact w.chr x Y q hq
 cases hs with
 |put y1 y2 hg=>
  rename_i a b rows';have ni:D.tup cn!∉W.its:=λz=>hn (w.its _ z);have hp:Fs W ds!:=by split;assumption;exact .inr d8_
  have im:∀x,x∈(yB_).its↔x∈W.its\/x=.tup cn!:=λx=>by simp[Gi]
  have tx:∀x,(yB_).txt x=if x=.tup cn! then[]else W.txt x:=λx=>rfl
  refine⟨hg.winv_put w.inv ni bE_ hp,ba!,kM_,kM_⟩
  .obtain z|rfl:=(cH_).mp Y
   .exact JE _ (w.its x z)
   .simp
  .rw[tx]at hq;by_cases e:x=.tup cn!
   .rw[IL e]at hq;cases hq
   .rw[IA e]at hq;obtain⟨a,b,c,e',hm⟩:=w.sgs x yC! q hq;exact⟨a,b,c,e',JE _ hm⟩
  .rw[tx]at hq;by_cases e:x=.tup cn!
   .rw[IL e]at hq;cases hq
   .rw[IA e]at hq;exact w.chr x yC! q hq
 |mvY _ _ _ L hg=>exact keep rfl rfl yC_
 |mvN _ _ _ L=>exact keep rfl rfl w.inv
 |drY _ L hg=>exact keep rfl rfl yC_
 |drN _ L=>exact keep rfl rfl w.inv
 |wrt y1 y2 y3 e=>
  rename_i a b s h' m';cases e;by_cases c:a∈W.its
  .rw[IL c];obtain⟨U,v,e1,e2,e3⟩:=rD b hG_ as_;have mem:∀q,q∈wrT b hG_ as_↔q∈W.txt a\/q∈s.cps.toList.zipIdx.map kK_:=λq=>by
    rw[e2,e1];simp only[IK];constructor<;>(intro z;rcases z with(z|z)|z<;>simp[z])
   have fresh:∀x∈W.its,∀q∈W.txt x,∀k:Int,q.1≠.tup [aN_,en_,.int k]:=λx Y q hq k z=>by
    show"![";rw[e']at z;cases z;exact hn hm
   have tx:∀x,(yD_).txt x=if x=a then wrT b hG_ as_ else W.txt x:=λx=>rfl
   have all:∀(P:D×D×Bool->Prop),(∀x∈W.its,∀q∈W.txt x,P q)->(∀q∈s.cps.toList.zipIdx.map kK_,P q)->∀x∈W.its,∀q∈(yD_).txt x,P q:=λP h1 h2 x Y q hq=>by
    rw[tx]at hq;by_cases e:x=a
    .rw[IL e]at hq;obtain z|z:=(mem q).mp hq
     .exact h1 a c q z
     .exact h2 q z
    .rw[IA e]at hq;exact h1 x Y q hq
   refine⟨rH w.inv c ?_ em! on!,λx Y=>JE _ (w.its x Y),all _ (λx Y q hq=>?_) em!,all _ w.chr em!⟩
   .rw[e2];have nd:=w.inv.snd a c;rw[e1]at nd;obtain⟨n1,_⟩:=b2f h m s.cps.toList 0;have dj:∀q∈W.txt a,∀q'∈s.cps.toList.zipIdx.map kK_,q.1≠q'.1:=λq hq q' a7=>by
     obtain⟨c',k',rfl⟩:=pL a7;exact fresh a c q hq _
    simp only[JF]at nd ⊢;rw[JJ]at nd;rw[JJ,JJ];refine⟨⟨nd.1,n1,jX_⟩,nd.2.1,jX_⟩
    .obtain⟨q,hq,rfl⟩:=IS.mp Y;obtain⟨q',a7,rfl⟩:=IS.mp hy;exact dj q (by rw[e1];exact JE _ hq) q' a7
    .obtain Y|Y:=IK.mp Y
     .exact nd.2.2 x Y y hy
     .obtain⟨q',a7,rfl⟩:=IS.mp Y;obtain⟨q,hq,rfl⟩:=IS.mp hy;exact IB (dj q (by rw[e1];exact IE _ hq) q' a7)
   .obtain z|z:=(mem q).mp hq
    .exact w.inv.sg a c q z
    .obtain⟨c',k',rfl⟩:=pL z;exact wO_
   .obtain z|z:=(mem q).mp hq
    .exact(w.inv.su a c y hy q z q' a7 e).symm
    .obtain⟨c',k',rfl⟩:=pL z;exact absurd e.symm (fresh y hy q' a7 _)
   .show"![";exact pn!
   .obtain⟨c',k',rfl⟩:=pL hq;exact⟨_,_,_,rfl,G_⟩
   .obtain⟨c',k',rfl⟩:=pL hq;exact H!
  .show"!}"
 |cut y1 y2 y3 y4=>
  rename_i a x y z m';by_cases c:a∈W.its
  .rw[IL c];have tx:∀v,(setT W a (cutT yF! as_)).txt v=if v=a then cutT yF! as_ else W.txt v:=λx=>rfl
   refine⟨a1d w.inv c _,λv hv=>JE _ (w.its v hv),yF_,yF_⟩
   .rw[tx]at hq;split at hq
    .show"!:";obtain⟨a',b',c',e',hm⟩:=w.sgs a c q0 h0;exact pn!
    .obtain⟨a',b',c',e',hm⟩:=w.sgs v hv q hq;exact pn!
   .rw[tx]at hq;split at hq
    .show"!:";exact w.chr a c q0 h0
    .exact w.chr v hv q hq
  .show"!}"
 |set y1 y2 y3=>
  rename_i a p v;by_cases c:a∈W.its
  .rw[IL c];exact keep rfl rfl (b4w w.inv (by rw[MN];exact w.inv.nl a c))
  .show"!}"
end
def c0z:(Str.ofString "put"==Str.ofString "put")=true:=by decide+kernel
def a4a:(Str.ofString "move"==Str.ofString "move")=true:=by decide+kernel
def a4b:(Str.ofString "drop"==Str.ofString "drop")=true:=by decide+kernel
def a7h:(Str.ofString "write"==Str.ofString "write")=true:=by decide+kernel
def c1a:(Str.ofString "cut"==Str.ofString "cut")=true:=by decide+kernel
def c0y:(Str.ofString "set"==Str.ofString "set")=true:=by decide+kernel
section
variable{t:Aq}{M:Mh}{o:xY!}{rl:Addr->Pd}{W W':OW}{hc:Nat}{R:D->Mh->Prop}{pre:List D}
def ifT{ft:ac_}{q1 q2:WS}{ρ:Ae}{R:o!}(h:yG!)(k:q1 ρ M R):Au hI! q1 q2 ρ M R:=by simp only[Au,Cv,h];exact k
def jE{ft:ac_}{q1 q2:WS}{ρ:Ae}{R:o!}(h:yG_)(k:ex_):Au hI! q1 q2 ρ M R:=by simp only[Au,Cv,h];exact k
def bA:(fT (f2 Ax bC_ (fC po_))) [F_,et_,some ey!]=some kN!:=by
 have e:Ah ey! H_=some V!:=by
  show pp!;show"#:";simp
 simp[fT,f2,Aa,fC,e,gU]
def ix1:Ah pp_ a5!=some a:=by show Dd (D.str k::a::r) 1=_;unfold Dd Eg;rw[a1!,pq!];simp
def ix2:Ah pq_ bz!=some b:=by show Dd (D.str k::a::b::r) 2=_;unfold Dd Eg;rw[a1!,pq!];simp
def ix3:Ah pr! bh!=some c:=by show Dd (D.str k::a::b::c::r) 3=_;unfold Dd Eg;rw[a1!,pq!];simp
def ax1:f2 Ah y! x! [F_,et_,some pp_]=some a:=ix1
def ax2:f2 Ah y! W_ [F_,et_,some pq_]=some b:=ix2
def ax3:f2 Ah y! aw_ [F_,et_,some pr!]=some c:=ix3
def av0:Aa 0 yI!=some Y!:=rfl
def av1:Aa 1 yI!=some n:=rfl
def gH{f:WE}{ρ:Ae}{R:o!}(k:f ρ M λ_ M1=>R aH_ M1):Bz f ρ M R:=k
def wR{g:WF}{fo f1 f2 f3:e!}{ρ:Ae}(h0:fo ρ=some d)(h1:es_)(h2:hu_)(h3:pr_)(ho:li_)(k:g [d,a,b,c] M R):Bc C m 4 g dr_ (Ab et! (Ab (wl f2) (Ab (wl f3) Af))) ρ M R:=by simp only[Bc,wl,Ab,Af,h0,h1,h2,h3];exact oO_
def d2v{g:WF}{fo f1 f2 f3 f4:e!}{ρ:Ae}(h0:fo ρ=some d)(h1:es_)(h2:hu_)(h3:pr_)(h4:f4 ρ=some e)(ho:li_)(k:g [d,a,b,c,e] M R):Bc C m 5 g dr_ yI_ ρ M R:=by simp only[Bc,wl,Ab,Af,h0,h1,h2,h3,h4];exact oO_
def c4h{h m:Int}(hO:az_)(w:fH!)(hn:yA!)(hs:Te W pm_ d W')(hB:hk_)
  (hR:∀M' ae,Cc t M' o ae W' bo_->Fr M rl M' ae->R .non M'):Nk t [bc!,.tup cn!,d] M R:=by
 have SL:=hO;obtain⟨a1,a2,a3,a4,a5,a6,k1,k2,k3,k4,k5,k6,O⟩:=SL;have fresh:∀x∈W.its,∀k':Nat,D.tup [aN_,en_,.int (k':Nat)]∉(aG!).map c!:=λx Y k' z=>by
  obtain⟨q,hq,e⟩:=IS.mp z;show"![";rw[e']at e;cases e;exact hn hm
 refine j_;cases hs with
 |put ha hb hg=>
  show"!1";obtain⟨kb,lf⟩:=vQ hb;refine ifT (bA.trans (congrArg some c0z)) ?_;exact gH (wR av0 av1 ax1 ax2 (O.noOb oM4) (c8j hO w.inv (λz=>hn (w.its _ z)) bE_ bm lf hB hg hR))
 |mvY ha hb bq L hg=>
  show"!K";exact gH (wR av0 ax1 ax2 ax3 kP! (uV hO w.inv bm lf SM hB λM' f1 _ fr=>hR M' rl (f1 L _ hg) fr))
 |mvN ha hb bq L=>
  show"!K";exact gH (wR av0 ax1 ax2 ax3 kP! (uV hO w.inv bm lf SM hB λM' _ f1 fr=>hR M' rl (f1 L) fr))
 |drY ha L hg=>
  show"!{";exact gH (wR av0 ax1 rfl rfl kP! (uV hO w.inv bm (kx:=ps!) rfl (ks:=none) rfl hB λM' f1 _ fr=>hR M' rl (f1 L _ hg) fr))
 |drN ha L=>
  show"!{";exact gH (wR av0 ax1 rfl rfl kP! (uV hO w.inv bm (kx:=ps!) rfl (ks:=none) rfl hB λM' _ f1 fr=>hR M' rl (f1 L) fr))
 |wrt ha hb de e=>
  cases e;show"!1";obtain⟨kb,lf⟩:=b4u hb;refine jE (bA.trans (congrArg some lB)) ?_;refine jE (bA.trans (congrArg some jR)) ?_;refine jE (bA.trans (congrArg some jS)) ?_;refine ifT (bA.trans (congrArg some a7h)) ?_;exact gH (d2v av0 av1 ax1 ax2 ax3 (O.noOb oM7) (b7c hO w.inv bm lf hB de fresh λM' f1 _ fr=>hR M' rl f1 fr))
 |cut ha b5 h1 h2=>
  show"!1";refine jE (bA.trans (congrArg some pB)) ?_;refine jE (bA.trans (congrArg some mM)) ?_;refine jE (bA.trans (congrArg some mN)) ?_;refine jE (bA.trans (congrArg some lD)) ?_;refine ifT (bA.trans (congrArg some c1a)) ?_;exact gH (wR av0 ax1 ax2 ax3 (O.noOb oM8) (d0u hO w.inv bm hB b5 h1 h2 λM' f1 fr=>hR M' rl f1 fr))
 |set ha h1 h2=>
  show"!1";refine jE (bA.trans (congrArg some oZ)) ?_;refine jE (bA.trans (congrArg some mK)) ?_;refine jE (bA.trans (congrArg some mL)) ?_;refine jE (bA.trans (congrArg some lC)) ?_;refine jE (bA.trans (congrArg some pA)) ?_;refine ifT (bA.trans (congrArg some c0y)) ?_;exact gH (wR av0 ax1 ax2 ax3 (O.noOb oM9) (yG hO w.inv bm h1 h2 λM' f1 fr=>hR M' rl (f1.mono a!) fr))
def c4i{k:Str}(hk:yQ!)(hR:R .non M):Nk t [bc!,n,.tup pt_] M R:=by
 refine j_;obtain rfl|rfl:=hk
 .refine jE (bA.trans (congrArg some tR)) ?_;refine jE (bA.trans (congrArg some qG)) ?_;refine jE (bA.trans (congrArg some qH)) ?_;refine jE (bA.trans (congrArg some oC)) ?_;refine jE (bA.trans (congrArg some tS)) ?_;refine jE (bA.trans (congrArg some a7b)) ?_;exact hR
 .refine jE (bA.trans (congrArg some tT)) ?_;refine jE (bA.trans (congrArg some qI)) ?_;refine jE (bA.trans (congrArg some qJ)) ?_;refine jE (bA.trans (congrArg some oE)) ?_;refine jE (bA.trans (congrArg some tU)) ?_;refine jE (bA.trans (congrArg some a7e)) ?_;exact hR
def cI{bnd:af_}{ck:bJ_}{ft:WT}{fe:WE}{ρ:Ae}(b:D->Bool)(y:D->D)(ff:ck M):∀(ds:c_) (R:kV_),
  (∀d∈ds,∃ah,bnd d ρ=some ah/\(∀K:Bool->Mh->Prop,K (b d) M->ft ah M K)/\(b d=true->∀K:D->Mh->Prop,K (y d) M->fe ah M K))->R ((ds.filter b).map y) M->Ri bnd ck ft fe ρ ds M R
 |[],R,_,hR=>⟨ff,hR⟩
 |d::ds,R,h,hR=>by
  obtain⟨ah,e1,e2,e3⟩:=h d IH;refine pu!;rw[e1];refine e2 _ ?_;cases hb:b d with
  |true=>
   refine e3 hb _ (cI b y ff ds _ yR! ?_);rw[KU hb]at hR;exact hR
  |false=>
   refine cI b y ff ds _ yR! ?_;rw[KW (by simp[hb])]at hR;exact hR
def Wh(W:OW)(x:D):List ee_:=(aG!).filter (·.2.2)
def a5n(hO:az_)(w:By W)(Y:aV_)(hB:hc<4000)(hR:R (.lst pu_) M):Dm t ei_ M R:=by
 obtain⟨a1,a2,a3,a4,a5,a6,k1,k2,k3,k4,k5,k6,O⟩:=hO;obtain⟨e3,h3⟩:=O.d3;obtain⟨e6,h6⟩:=O.d6;obtain⟨k,hk⟩:=(w.nm x Y).key;obtain⟨r,f,p,g1,g2,g3,g4,g5⟩:=O.txt x Y;have lt:=O.lt x Y;refine j_;have ut:∀R',w2 Bs e0! s_ kQ! M R'=R' ba_ M:=by
  intro R';simp[w2,wl,Ay,Gq,O.ob,oF3,Bs,h3,hk,g1,Dz,Aa]
 show Aw (Bf 1 [0] _ _ _ _) kQ! M _;simp only[Aw,Bf,Ci,Bc,ut,Af];refine⟨by simp only[Dh,g2.ob,rM.2.2.1,and_self],rfl,?_⟩;refine a0h g2 bh_ (b1w w Y) ?_;refine dy!;refine cI (λd=>!(kget k6 d).isSome) id trivial _ _ aZ_ ?_
 .show"!?";obtain⟨kq,uz⟩:=(we_).key;refine⟨[some q.1,F_],rfl,hK!,yR_⟩;simpa[wT,w2,wl,Ay,Gq,Aa,Dz,O.ob,oF6,Il,h6,uz]using hK
 .have e:((n6_).filter λd=>!(kget k6 d).isSome).map id=(dx_).map c!:=by
   rw[QK];rw[NH];congr 1;apply KY;intro q hq;simp only[Function.comp];rw[O.hi x Y q hq];simp
  rw[e];exact hR
def a9c(hO:az_)(w:By W)(Y:aV_)(hB:hc<4000)(hj:pv!)(hR:R v M):Gm t ei_ M R:=by
 have SL:=hO;obtain⟨a1,a2,a3,a4,a5,a6,k1,k2,k3,k4,k5,k6,O⟩:=SL;obtain⟨e5,h5⟩:=O.d5;have lt:=O.lt x Y;refine j_;show Aw (Qf _ (Bf 1 [0] sO_ _ _ _)) kQ! M _;simp only[Aw,Qf,Bf,Ci];have hm:∀(K:r!),K (.lst pu_) M->Bc t.B4 "signs_of" 2 (Dm t) h! ax! kQ! M K:=λK hK=>⟨O.noOb d4d,rfl,a5n hO w Y hB hK⟩;refine hm _ ?_;have ls:(dx_).length<=(aG!).length:=NX _ _;refine dy!;refine cI dy_ (λd=>(kget k5 d).getD .non) trivial _ _ aZ_ ?_
 .show"!?";have a7:=(pw!).1;obtain⟨kq,uz⟩:=(w.sg x Y q a7).key;refine⟨[some q.1,F_],rfl,ez_,dz!⟩;simpa[w2,wl,Ay,Gq,Aa,Dz,O.ob,oF5,Bs,h5,uz,O.wr x Y q a7]using hK
 .have e:(((pu_).filter λ_=>true).map λd=>(kget k5 d).getD .non)=(dx_).map kQ_:=by
   rw[fJ_,JV];apply LD;intro q hq;simp only[Function.comp];rw[O.wr x Y q (pw!).1];rfl
  rw[e];rw[hj];exact hR
end
structure Op where
 h:Int
 n:Int
 tm:Int
 d:D
nonrec def Op.v(o:Op):D:=.tup kS!
nonrec def Op.nm(o:Op):D:=.tup [hL!,.int o.n]
nonrec def Op.key(o:Op):Int×Int:=(o.tm,o.h)
def Hi:D->Option cl_
 |.tup [.str k,a]=>if pw_ then some (k,a)else none
 |_=>none
def zJ(k:Str)(a:D):Hi (.tup pt_)=if pw_ then some (k,a)else none:=rfl
def vC(h:DG d):(∃k a,d=.tup pt_/\yT!/\NameG a/\Hi d=some (k,a))\/(∃k r,d=.tup dv!/\hL_=false/\(k=="redo")=false/\Hi d=none):=by
 have uu:px_=true:=by decide+kernel
 have rr:py!=true:=by decide+kernel
 cases h with
 |put h1 h2=>exact .inr ⟨_,_,rfl,tV,tW,rfl⟩
 |move h1 h2 h3=>exact .inr ⟨_,_,rfl,a3w,a3x,rfl⟩
 |drop h1=>
  refine .inr ⟨_,_,rfl,a3y,a3z,?_⟩;rfl
 |write h1 h2 h3 h4 h5=>exact .inr ⟨_,_,rfl,zB,zC,rfl⟩
 |cut h1 h2 h3 h4=>exact .inr ⟨_,_,rfl,a7f,a7g,rfl⟩
 |set h1 h2 h3 h4=>exact .inr ⟨_,_,rfl,a7c,a7d,rfl⟩
 |undo h1=>
  refine .inl ⟨_,_,rfl,c1_,h1,?_⟩;rfl
 |redo h1=>
  refine .inl ⟨_,_,rfl,.inr rfl,h1,?_⟩;rfl
def a4d(o:Op):Di [o.v]=some yU_:=by simp[Di,Ku,Op.v,Cg,Bl,Ba,Ac,Ag,f2,Aa,fC,Ah,Dd,Eg]
def xG:∀ops:List Op,Nj Di eA!=some py_
 |[]=>rfl
 |o::r=>by
  rw[II];unfold Nj;rw[a4d,xG r];rfl
def d2y(o:Op):Ix Di o.v=o.key:=by unfold Ix;rw[a4d];rfl
def a7p{α β:Type}{f:lv_}{k:α->Int×Int}{k':β->Int×Int}(h:yV!)(x:α):∀l:List α,Rh k' (f x) ic_=(Rh k x l).map f
 |[]=>rfl
 |y::r=>by
  simp only[II,Rh,h];split
  .rfl
  .rw[a7p h x r];rfl
def vO{α β:Type}{f:lv_}{k:α->Int×Int}{k':β->Int×Int}(h:yV!):∀l:List α,Jk k' ic_=(Jk k l).map f
 |[]=>rfl
 |x::r=>by rw[II];unfold Jk;rw[vO h r,a7p h]
abbrev Gf(ops:h_):List Op:=Jk Op.key ops
def mR{ops:h_}(nd:eA_)(hl:dz_):Dl cn_=some (.lst hM_):=by
 have e:AG Di eA!=some hM_:=by
  unfold AG;rw[xG];show(if(py_).Nodup/\(eA!).length<64 then some _ else none)=_;rw[IL ⟨nd,kS_⟩,vO d2y]
 simp[Dl,Qy,Cg,Bl,Vf,Aa,e]
def gV{a b:h_}(h:a.Perm b)(nd:yW!):Gf a=Gf b:=
 lT (iS nd) (iS ((h.map _).nodup_iff.mp nd)) ((bJ a).trans (h.trans (bJ b).symm))
def b7m{a:h_}(nd:yW!):Gf (Gf a)=Gf a:=gV (bJ a) (((bJ a).map _).nodup_iff.mpr nd)
def c6y{o:Op}(h:DG o.d):Bb [o.v]=some pz!:=by
 have e3:Ah o.v bh!=some o.d:=by
  simp[Op.v,Ah,Dd,Eg]
 have main:∀(k:Str) (r:c_),o.d=.tup dv!->Bb [o.v]=some (.bl pw_):=λk r e=>by
  have e0:Ah ey! H_=some V!:=by
   show pp!;show"#:";simp
  have e1:∀s:Str,f2 Ax i0_ (fC aO!) [J_]=some (.bl (k==s)):=λs=>by
   show(pz_).bind yY!=_;rw[e3,e];show((Ah ey! H_)).bind yY!=_;rw[e0];exact gU k s
  show(match Bl (Ev _ _) [J_]with|some (.rt d)=>some d|some (.nx _)=>some .non|none=>none)=_;unfold Bl Ev fT;rw[e1,e1];cases (k==Str.ofString "undo")<;>rfl
 obtain⟨k,a,e,hk,_,hu⟩|⟨k,r,e,h1,h2,hu⟩:=vC h
 .rw[main k [a] e,hu];obtain rfl|rfl:=hk
  .rw[yY_];rfl
  .rw[yZ!,a3v];rfl
 .rw[main k r e,hu,h1,h2];rfl
def Pg(f:Str->D):List Op->List aC!->List aC!
 |[],acc=>acc
 |o::os,acc=>match Hi o.d with
  |some (k,a)=>Pg f os (At acc a (f k))
  |none=>Pg f os acc
def vJ:∀(os:h_) (A hc:i_),(∀x,(kget A x=none/\kget hc x=none)\/∃k:Str,kget A x=some V!/\kget hc x=some fK!)->
  ∀x,(kget y0! x=none/\kget y0_ x=none)\/∃k:Str,kget y0! x=some V!/\kget y0_ x=some fK!
 |[],A,hc,h=>h
 |o::os,A,hc,h=>by
  unfold Pg;cases e:Hi o.d with
  |none=>exact vJ os A hc h
  |some q=>
   obtain⟨k,a⟩:=q;refine vJ os _ _ λx=>?_;by_cases c:a=x
   .subst c;rw[dL,dL];exact .inr ⟨k,rfl,rfl⟩
   .rw[dQ c,dQ c];exact h x
section
variable{t:Aq}{M:Mh}{R:D->Mh->Prop}
def hV{kvs:i_}{ep:Nat}(h:bY_)(hk:co!)(hl:dC_):Lc M A_ y v=some h1_:=by simp[Lc,h,hk,hl]
def a0a(h:NameG x):∃k,De x=some k:=by obtain⟨a,b,rfl,_⟩:=h;exact H!
def d3p:Aa 1 pA_=some A_:=rfl
def a3b:∀(os:h_) (x1:D) (y:al_) (acc:i_) (ep:Nat) (M:Mh) (R:o!),pB!->cT!+aI!<1000->M p=some pB_->
  (∀M' bd y',M' p=some (.dct y1! bd)->kT_->R y1_ M')->
  Jc bP! ah! sQ_ at! pA_ M R
 |[],x1,y,acc,ep,M,R,_,_,hp,hR=>y2!
 |o::os,x1,y,acc,ep,M,R,hd,hl,hp,hR=>by
  refine aY!;show Au (Cv _) _ _ b0_ M _;have ho:=hd o IH;have et:fT (f1 Bb ca_) b0_=some (Hi o.d).isSome:=by
   have e:f1 Bb ca_ b0_=some pz!:=c6y ho;unfold fT;rw[e];rfl
  simp only[IQ]at hl;have e3:Ah o.v bh!=some o.d:=by simp[Op.v,Ah,Dd,Eg]
  obtain⟨k,a,e,hk,jc,hu⟩|⟨k,r,e,h1,h2,hu⟩:=vC ho
  .rw[hu]at et;refine ifT et ?_;obtain⟨ka,ky⟩:=a0a jc;have i0:f2 Ah a6_ G! b0_=some V!:=by
    show pz_=_;rw[e3,e];show Dd [D.str k,a] 0=_;simp[Dd,Eg]
   have i1:f2 Ah a6_ x! b0_=some a:=by
    show y2_;rw[e3,e];show Dd [D.str k,a] 1=_;simp[Dd,Eg]
   have ii:Lc M A_ a V!=some y3!:=by
    exact hV hp ky hA_
   have:=a3b (p:=p) os x1 eB! (At acc a V!) (Gb acc a ep) y3! R hN! (by have:=kput_len acc a V!;omega) mup_same (λM' bd y' h1 h2=>hR M' bd y' y3_ λb hb=>(pC!).trans pC_);simp only[Cd,wl,i0,i1,d3p,ii,Dz];show"#H"
  .rw[hu]at et;refine jE et ?_;exact a3b (p:=p) os x1 eB! acc ep M R hN! a! hp y4!
def qQ{f:e!}{ρ:Ae}(h:f ρ=some ci!):Ei f ρ=some ds:=by unfold Ei;rw[h];rfl
def yP{ops:h_}(nd:eA_)(hl:dz_)(hd:hN_)
  (hR:∀p M' ep,M p=none->M' p=some (.dct hO! ep)->kT_->R A_ M'):Gk cn_ M R:=by
 refine j_;intro p hp;have hi:Ei i2! pD!=some hM_:=qQ (mR nd hl);have br:(a0!).Perm ops:=bJ ops;have:=a3b (p:=p) a0! hO_ none [] 0 eD_ (λr M1=>match r with|.nx ah=>Aw s_ ah M1 hf_|.rt d=>R d M1) y4_ y5! mup_same y5_;show Ai (Dx (Hf _) _ _) _ pD! _ _;simp only[Ai,Dx,Hf,hi,Dz];show"#H"
def t2{g:aW_}{fa:WE}{fb:e!}{ρ:Ae}{K:fN_}{b:Bool}(ha:∀K':D->Mh->Prop,K' d M->fa ρ M K')(hb:fb ρ=some v)(hg:g d v=some bM!)(k:K b M):wT (w2 (λ_=>g) fa fM!) ρ M K:=by refine ha _ ?_;simp only[wl,hb,hg];exact k
def Undn(wd:i_)(o:Op):Prop:=Hi o.d=none/\kget wd o.nm=some ca!
def b7o(o:Op):Bm o.v none (some 2)=some o.nm:=by simp[Op.v,Op.nm,Bm,Cr,HT.sIx]
def b0j(o:Op):∃k,De o.nm=some k:=H!
def b1v{e0:Nat}(qu:p≠q):∀(os:h_) (x1:D) (y z:al_) (acc:i_) (ep:Nat) (M:Mh) (R:o!),pB!->cT!+aI!<1000->M p=some (.dct wd e0)->M q=some pB_->(∀x v,kget wd x=some v->∃k:Str,v=.str k)->
  (∀M' bd y' z' df,M' q=some (.dct df bd)->(∀x,kget df x≠none↔(kget acc x≠none\/∃o∈os,o.nm=x/\Undn wd o))->y6_->R (.nx [R!,ag_,br!,y',z']) M')->
  Jc Q! ah! i4_ at! [R!,ag_,br!,y,z] M R
 |[],x1,y,z,acc,ep,M,R,_,_,hp,hq,lg,hR=>⟨trivial,hR M ep y z acc hq y7! λb _=>rfl⟩
 |o::os,x1,y,z,acc,ep,M,R,hd,hl,hp,hq,lg,hR=>by
  refine aY!;show Ai (Ao 4 _) _ y7_ M _;have ho:=hd o IH;simp only[IQ]at hl;have es:Ea M_ As c7_ y7_=some o.nm:=b7o o;simp only[Ai,Ao,wl,es];show Au _ _ _ dB! M _;have et:Cy sS! dB!=some (!(Hi o.d).isSome):=by
   have e:f1 Bb gC_ dB!=some pz!:=c6y ho;unfold Cy fT;rw[e];rfl
  obtain⟨kn,gb⟩:=b0j o;have next:∀(c:Prop),(c↔Undn wd o)->∀df bd M',M' q=some (.dct df bd)->(∀x,kget df x≠none↔(kget acc x≠none\/(x=o.nm/\c)))->df.length<=cT!+1->y6_->
    Jc Q! ah! i4_ at! dB! M' R:=λc L df bd M' h1 h2 h3 h4=>by
   refine b1v (p:=p) (q:=q) (wd:=wd) (e0:=e0) qu os x1 _ _ df bd M' R hN! a! ((h4 p qu).trans hp) h1 lg λM2 tu y2 z2 acc2 g1 g2 g3=>hR M2 tu y2 z2 acc2 g1 pE! λb hb=>(g3 b hb).trans (h4 b hb);rw[g2,h2];show"!D"
   .rintro((u|⟨u1,u2⟩)|⟨o',u1,u2,u3⟩)
    .exact .inl u
    .exact .inr ⟨o,IH,u1.symm,L.mp u2⟩
    .exact .inr ⟨o',HZ _ u1,u2,u3⟩
   .rintro(u|⟨o',u1,u2,u3⟩)
    .exact .inl (.inl u)
    .obtain rfl|u1:=HY.mp u1
     .exact .inl (.inr ⟨u2.symm,L.mpr u3⟩)
     .exact .inr ⟨o',u1,u2,u3⟩
  have no:(¬Undn wd o)->Jc Q! ah! i4_ at! dB! M R:=λh=>next False (by simp[h]) acc ep M hq y7! a! λb _=>rfl;cases hu:Hi o.d with
  |some u=>
   rw[hu]at et;simp only[Au,Gx,Cv,et];exact no λz=>by rw[z.1]at hu;cases hu
  |none=>
   rw[hu]at et;simp only[Au,Gx,Cv,et];have hg:∀(K:r!),K y8_ M->Oq s_ a6! dB! M K:=λK hK=>by
    have c1:Ee M A_=some (p,wd,e0):=by simp[Ee,hp]
    show Dz (Ee M A_) λ_=>Dz (Ee M A_) λq=>Dz (De o.nm) λ_=>K ((kget q.2.1 o.nm).getD .non) M;rw[c1,gb];exact hK
   have hsd:Sd y8_:=by
    cases e:kget wd o.nm with
    |none=>exact .inl rfl
    |some v=>obtain⟨k,rfl⟩:=lg _ _ e;exact iV k
   have XO:(pE_).getD .non=.str "undo"↔Undn wd o:=by
    unfold Undn;rw[hu];cases e:kget wd o.nm with
    |none=>simp
    |some v=>simp
   refine t2 hg (v:=o2!) rfl (nR hsd (iV _)) ?_;by_cases c:(pE_).getD .non=.str "undo"
   .rw[JC c];have ii:=hV (y:=o.nm) (v:=gn_) hq gb hA_;have f2:Aa 2 dB!=some bW!:=rfl;have f4:Aa 4 dB!=some o.nm:=rfl;simp only[Cd,wl,fC,f2,f4,ii,Dz];refine next True (by simp[<-XO,c]) _ _ _ mup_same pE! ed_ λb hb=>mup_ne hb;by_cases e:o.nm=x
    .subst e;rw[dL];simp
    .rw[dQ e];simp[IB e]
   .rw[IN c];exact no λz=>c (XO.mpr z)
def a1r:∀(os:h_) (acc:i_),(∀x v,kget acc x=some v->∃k:Str,v=.str k)->∀x v,kget y1! x=some v->∃k:Str,v=.str k
 |[],acc,h=>h
 |o::os,acc,h=>by
  unfold Pg;cases e:Hi o.d with
  |none=>exact a1r os acc h
  |some q=>
   obtain⟨k,a⟩:=q;refine a1r os _ λx v Y=>?_;by_cases c:a=x
   .subst c;rw[dL]at Y;cases Y;exact⟨k,rfl⟩
   .rw[dQ c]at Y;exact h x v Y
def b4p{ops:h_}(nd:eA_)(hl:dz_)(hd:hN_)
  (hR:∀q M' ep kq,M q=none->M' q=some (.dct kq ep)->(∀x,kget kq x≠none↔∃o∈ops,o.nm=x/\Undn hO! o)->fM_->R bW! M'):Lv cn_ M R:=by
 refine j_;have L:∀(K:r!),Gk cn_ M K->Ak 1 Gk aT_ za! M K:=λK h=>bV!;refine L _ (yP nd hl hd λp M1 ep hp hM1 fr=>?_);intro q hq;have qu:p≠q:=λz=>by rw[<-z,hM1]at hq;cases hq
 have ow:M q=none:=by rw[<-fr q (IB qu)];exact hq
 have hi:Ei q! [dA!,ag_,br!,none,none]=some eA!:=rfl;refine b1v (wd:=pG!) (e0:=ep) qu ops hO_ none none [] 0 _ _ hd bh_ ((mup_ne qu).trans hM1) mup_same (a1r _ [] λx v h=>by simp[kget]at h) λM' bd y' z' df h1 h2 h3=>?_;refine hR q M' bd df ow h1 pE! λb hb=>?_
 .rw[h2];simp[kget]
 .have b1:b≠q:=λz=>hb (by rw[z];exact ow);have b2:b≠p:=λz=>hb (by rw[z];exact hp);rw[h3 b b1,mup_ne b1,fr b b2]
end
def W0:OW:=⟨[],[],λ_=>[],λ_=>[]⟩
def c7v:Uw W0 []:=by refine⟨⟨by simp[W0],dB_,by simp[W0],λx=>by simp[W0],zc_,⟨λ_=>0,zc_⟩,dB_,dB_,dB_,dB_⟩,dB_,dB_,dB_⟩
section
variable{t:Aq}{M:Mh}{R:D->Mh->Prop}
def cU(f:Str)(v:D):∀l:List cl_,(Bn f v l).length<=Z!+1
 |[]=>by simp[Bn]
 |(g,x)::r=>by
  unfold Bn;split
  .simp
  .have:=cU f v r;simp;omega
def Kp(o:xY!)(M M':Mh):Prop:=∀c,M c≠none->c≠o->M' c=M c
def Kp.trans{M M1 M2:Mh}(a:Kp o M M1)(b:Kp o M1 M2):Kp o M M2:=λc h1 h2=>by
 have e:=a c h1 h2;rw[b c (by rw[e];exact h1) h2,e]
def qW{fs:aP!}{R:o!}(ho:M o=some hu!)(hl:bu_<100)
  (hR:∀a M',M a=none->M' a=some C_->M' o=some (.obj C (Bn x cI_ fs))->Kp o M M'->(∀c,M' c≠none->M c≠none\/c=a)->R (.nx [F_]) M'):Fv C x h! Gs [F_] M R:=by
 intro a ha;have oa:o≠a:=λz=>by rw[<-z,ho]at ha;cases ha
 have e:Az M a C_ o=some hu!:=(mup_ne oa).trans ho;have f0:Aa 0 [F_]=some Y!:=rfl;simp only[wl,f0,e];refine⟨trivial,hl,hR a _ ha ((mup_ne (IB oa)).trans mup_same) mup_same (λc h1 h2=>?_) λc L=>?_⟩
 .rw[cL_,mup_ne λz=>h1 (by rw[z];exact ha)]
 .by_cases c1:c=a
  .exact .inr c1
  .by_cases c2:c=o
   .rw[c2,ho];exact .inl d!
   .rw[kW!,mup_ne c1]at L;exact .inl L
def pc{fa:e!}{fb:WE}{fp:WP}{ρ:Ae}{R:zP_}(h:fa ρ=some x)(k:fb ρ M λy M2=>fp ρ M2 λkvs M3=>R ((x,y)::kvs) M3):Em hQ! fb fp ρ M R:=by simp only[Em,wl,h];exact k
def a2z{ρ:Ae}(hR:∀o rl M',M o=none->Cc t M' o rl W0 2->pH_->R Y! M'):Hh t.B4 1 (Ii t) Af ρ M R:=by
 refine⟨rfl,λo ho=>j_⟩;have f0:Aa 0 [F_]=some Y!:=rfl;show Ai (Fv t.B4 "parents" _ _) _ [F_] zg_ _;intro a1 xa;have j3:a1≠o:=λz=>by rw[z,mup_same]at xa;cases xa
 rw[mup_ne j3]at xa;refine⟨mup_same,U!,kW_,?_,?_⟩
 .obtain rfl|hq:=HY.mp hq
  .rfl
  .rw[IR.mp hq];rfl
 .show(hQ_).Nodup;rw[IV];exact zh!
 have e1:Az zh_ a1 zi_ o=some zg!:=by rw[zj!,zj!,mup_same]
 simp only[wl,f0];rw[e1];refine⟨rfl,U!,?_⟩;generalize xb:Az (Az zh_ a1 zi_) o pJ_=S1;have qz:S1 o=some pJ_:=by rw[<-xb,mup_same]
 have q8:S1 a1=some (.dct kX! 2):=by rw[<-xb,mup_ne j3,mup_same];rfl
 have S1m:∀c,c≠o->c≠a1->S1 c=M c:=λc h1 h2=>by rw[<-xb,ck!,cL_,cL_,ck!]
 clear xb e1;intro a2 q9;have j4:a2≠o:=λz=>by rw[z,qz]at q9;cases q9
 refine pc rfl ?_;refine pZ λr1 f1 p1 N1 z1 z2 z3 _ _ R1 K1=>?_;refine pc rfl ?_;refine pZ λr2 f2 p2 N2 y1 y2 y3 _ _ R2 K2=>?_;have l1:∀c,Az S1 a2 C_ c≠none->N1 c=Az S1 a2 C_ c:=λc L=>K1 c (aU L z1) (aU L z2) (aU L z3);have l2:∀c,N1 c≠none->N2 c=N1 c:=λc L=>K2 c (aU L y1) (aU L y2) (aU L y3);have SN:N1 a2=some C_:=by rw[l1 a2 pK!,mup_same]
 have n2a:N2 a2=some C_:=by rw[l2 a2 (by rw[SN];simp),SN]
 have SO:N1 o=S1 o:=by rw[l1 o (by rw[kY!,qz];simp),kY!]
 have n2o:N2 o=S1 o:=by rw[l2 o zk!,SO]
 refine⟨n2a,G_,kW_,?_,?_⟩
 .obtain rfl|hq:=HY.mp hq
  .rfl
  .rw[IR.mp hq];rfl
 .show(hQ_).Nodup;rw[IV];exact zh!
 have e2:Az N2 a2 zl_ o=some pJ_:=by rw[kY!,n2o,qz]
 simp only[wl,f0];rw[e2];refine⟨rfl,by have:=cU eh! fO_ [];simp at this;omega,?_⟩;generalize xc:Az (Az N2 a2 zl_) o zn!=S2;have XQ:S2 o=some zn!:=by rw[<-xc,mup_same]
 have SQ:S2 a2=some (.dct kZ! 2):=by rw[<-xc,mup_ne j4,mup_same];rfl
 have u6:∀c,c≠o->c≠a2->S2 c=N2 c:=λc h1 h2=>by rw[<-xc,ck!,cL_]
 clear xc e2;have ox:∀c,N1 c≠none->c≠r2/\c≠f2/\c≠p2:=λc L=>⟨aU L y1,aU L y2,aU L y3⟩;have v1:=R1.live;have v2:=R2.live;have nr:∀c,Az S1 a2 C_ c≠none->c≠r1/\c≠f1/\c≠p1:=λc L=>⟨aU L z1,aU L z2,aU L z3⟩;have so:Az S1 a2 C_ o≠none:=by rw[kY!,qz];simp
 have sa:Az S1 a2 C_ a2≠none:=by rw[mup_same];simp
 have SS:Kp o S1 S2:=λc L h=>by
  have c2:c≠a2:=λz=>L (by rw[z];exact q9);have s:Az S1 a2 C_ c≠none:=by rw[kW!];exact L
  have e:=l1 c s;rw[u6 c h c2,l2 c (by rw[e];exact s),e,kW!]
 refine qW (x:=hT!) XQ (by have:=cU dm_ hS_ fP!;have:=cU eh! fO_ [];simp at this;omega) λa3 S3 q3 SU XR u7 w3=>?_;refine qW (x:=eU_) XR (by have:=cU eh_ k0! hS!;have:=cU dm_ hS_ fP!;have:=cU eh! fO_ [];simp at this;omega) λa4 S4 q4 SV XS rc w4=>?_;refine qW (x:="written") XS (by have:=cU fn_ (.fn a4) pM!;have:=cU eh_ k0! hS!;have:=cU dm_ hS_ fP!;have:=cU eh! fO_ [];simp at this;omega) λa5 S5 q5 SW XT oy w5=>?_;refine qW (x:="hidden") XT (by have:=cU ob_ (.fn a5) zo_;have:=cU fn_ (.fn a4) pM!;have:=cU eh_ k0! hS!;have:=cU dm_ hS_ fP!;have:=cU eh! fO_ [];simp at this;omega) λa6 S6 q6 S6a XU XV w6=>?_;have hob:Bn wa_ (.fn a6) (Bn ob_ (.fn a5) zo_)=oF a1 a2 a3 a4 a5 a6:=by kernel_rfl
 have XW:=oy.trans XV;have XX:=rc.trans XW;have xf:=u7.trans XX;have XY:=SS.trans xf;have lo:∀{N:Mh} {c:xY!} {x:Pe},N c=some x->N c≠none:=λh=>by rw[h];simp
 have o3:a3≠o:=λz=>by rw[z,XQ]at q3;cases q3
 have o4:a4≠o:=λz=>by rw[z,XR]at q4;cases q4
 have o5:a5≠o:=λz=>by rw[z,XS]at q5;cases q5
 have o6:a6≠o:=λz=>by rw[z,XT]at q6;cases q6
 have F1:S6 a1=some (.dct kX! 2):=(XY a1 (lo q8) j3).trans q8;have F2:S6 a2=some (.dct kZ! 2):=(xf a2 (lo SQ) j4).trans SQ;have F3:S6 a3=some C_:=(XX a3 (lo SU) o3).trans SU;have F4:S6 a4=some C_:=(XW a4 (lo SV) o4).trans SV;have F5:S6 a5=some C_:=(XV a5 (lo SW) o5).trans SW;have F6:=S6a;have SX:∀c,N1 c≠none->c≠o->c≠a2->S6 c=N1 c:=λc L h1 h2=>by
  have e:=l2 c L;have e':=u6 c h1 h2;rw[xf c (by rw[e',e];exact L) h1,e',e]
 have SY:∀c,N2 c≠none->c≠o->c≠a2->S6 c=N2 c:=λc L h1 h2=>by
  have e':=u6 c h1 h2;rw[xf c (by rw[e'];exact L) h1,e']
 have rf:=nr o so;have rg:=nr a2 sa;have Q1:El t S6 r1 f1 p1 []:=R1.keep (SX _ v1.1 (IB rf.1) (IB rg.1)) (SX _ v1.2.1 (IB rf.2.1) (IB rg.2.1)) (SX _ v1.2.2 (IB rf.2.2) (IB rg.2.2));have mo:=ox o zk!;have ma:=ox a2 (lo SN);have Q2:El t S6 r2 f2 p2 []:=R2.keep (SY _ v2.1 (IB mo.1) (IB ma.1)) (SY _ v2.2.1 (IB mo.2.1) (IB ma.2.1)) (SY _ v2.2.2 (IB mo.2.2) (IB ma.2.2))
 let rl:Addr->Pd:=λc=>if c=o then .ob else if c=a1 then .par else if c=a2 then .rows else if c=a3 then .texts else if c=a4 then .nums else if c=a5 then .writ else if c=a6 then .hid else if c=r1 then .rO root else if c=f1 then .rF root else if c=p1 then .rP root else if c=r2 then .rO binn else if c=f2 then .rF binn else if c=p2 then .rP binn else .oth
 have dead:∀c,M c≠none->S6 c=M c/\c≠o/\c≠a1/\c≠a2/\c≠a3/\c≠a4/\c≠a5/\c≠a6/\w2_/\(c≠r2/\c≠f2/\c≠p2):=λc L=>by
  have c0:c≠o:=aU L ho;have c1:c≠a1:=aU L xa;have s1:S1 c=M c:=S1m c c0 c1;have u8:S1 c≠none:=by rw[s1];exact L
  have c2:c≠a2:=aU u8 q9;have s2:S2 c≠none:=by rw[SS c u8 c0];exact u8
  have c3:c≠a3:=aU s2 q3;have s3:S3 c≠none:=by rw[u7 c s2 c0];exact s2
  have c4:c≠a4:=aU s3 q4;have s4:S4 c≠none:=by rw[rc c s3 c0];exact s3
  have c5:c≠a5:=aU s4 q5;have s5:S5 c≠none:=by rw[oy c s4 c0];exact s4
  have c6:c≠a6:=aU s5 q6;have sm:Az S1 a2 C_ c≠none:=by rw[kW!];exact u8
  have n1:N1 c≠none:=by rw[l1 c sm];exact sm
  exact⟨(XY c u8 c0).trans s1,c0,c1,c2,c3,c4,c5,c6,nr c sm,ox c n1⟩
 refine⟨trivial,hR o rl S6 ho ⟨a1,a2,a3,a4,a5,a6,kX!,kZ!,[],[],[],[],?_⟩ λb hb=>?_⟩
 .have g0:rl o=.ob:=IL rfl;have g1:rl a1=.par:=by show(if a1=o then _ else _)=_;rw[IA j3,l_]
  have XZ:a2≠a1:=λz=>by rw[z,q8]at q9;cases q9
  have g2:rl a2=.rows:=by show(if a2=o then _ else _)=_;rw[IA j4,IA XZ,l_]
  have SZ:S2 a1≠none:=by rw[SS a1 (lo q8) j3];exact lo q8
  have S':S2 a2≠none:=lo SQ;have a31:=IB (aU SZ q3);have J':=IB (aU S' q3);have g3:rl a3=.texts:=by show(if a3=o then _ else _)=_;rw[IA o3,IA a31,IA J',l_]
  have TB:S3 a1≠none:=by rw[u7 a1 SZ j3];exact SZ
  have TC:S3 a2≠none:=by rw[u7 a2 S' j4];exact S'
  have TD:S3 a3≠none:=lo SU;have g4:rl a4=.nums:=by show(if a4=o then _ else _)=_;rw[IA o4,IA (IB (aU TB q4)),IA (IB (aU TC q4)),IA (IB (aU TD q4)),l_]
  have TF:S4 a1≠none:=by rw[rc a1 TB j3];exact TB
  have TH:S4 a2≠none:=by rw[rc a2 TC j4];exact TC
  have TJ:S4 a3≠none:=by rw[rc a3 TD o3];exact TD
  have TK:S4 a4≠none:=lo SV;have g5:rl a5=.writ:=by show(if a5=o then _ else _)=_;rw[IA o5,IA (IB (aU TF q5)),IA (IB (aU TH q5)),IA (IB (aU TJ q5)),IA (IB (aU TK q5)),l_]
  have t51:S5 a1≠none:=by rw[oy a1 TF j3];exact TF
  have t52:S5 a2≠none:=by rw[oy a2 TH j4];exact TH
  have t53:S5 a3≠none:=by rw[oy a3 TJ o3];exact TJ
  have t54:S5 a4≠none:=by rw[oy a4 TK o4];exact TK
  have t55:S5 a5≠none:=lo SW;have g6:rl a6=.hid:=by show(if a6=o then _ else _)=_;rw[IA o6,IA (IB (aU t51 q6)),IA (IB (aU t52 q6)),IA (IB (aU t53 q6)),IA (IB (aU t54 q6)),IA (IB (aU t55 q6)),l_]
  have X0:∀c,S2 c≠none->c≠o->c≠a3/\c≠a4/\c≠a5/\c≠a6:=λc h2 co=>by
   have s3:S3 c≠none:=by rw[u7 c h2 co];exact h2
   have s4:S4 c≠none:=by rw[rc c s3 co];exact s3
   have s5:S5 c≠none:=by rw[oy c s4 co];exact s4
   exact⟨aU h2 q3,aU s3 q4,aU s4 q5,aU s5 q6⟩
  have u1:∀c,N1 c≠none->c≠o->c≠a2->S2 c≠none:=λc L h1 h2=>by rw[u6 c h1 h2,l2 c L];exact L
  have u2:∀c,N2 c≠none->c≠o->c≠a2->S2 c≠none:=λc L h1 h2=>by rw[u6 c h1 h2];exact L
  have TL:Az S1 a2 C_ a1≠none:=by rw[mup_ne (IB XZ)];exact lo q8
  have TM:=nr a1 TL;have TN:=ox a1 (by rw[l1 a1 TL];exact TL);have TQ:∀c,N1 c≠none->c≠o->c≠a1->c≠a2->rl c=if c=r1 then .rO root else if c=f1 then .rF root else if c=p1 then .rP root else if c=r2 then .rO binn else if c=f2 then .rF binn else if c=p2 then .rP binn else .oth:=λc L h0 h1 h2=>by
   obtain⟨x3,x4,x5,x6⟩:=X0 c (u1 c L h0 h2) h0;show"#%"
  have TR:∀c,N2 c≠none->c≠o->c≠a1->c≠a2->rl c=if c=r1 then .rO root else if c=f1 then .rF root else if c=p1 then .rP root else if c=r2 then .rO binn else if c=f2 then .rF binn else if c=p2 then .rP binn else .oth:=λc L h0 h1 h2=>by
   obtain⟨x3,x4,x5,x6⟩:=X0 c (u2 c L h0 h2) h0;show"#%"
  have h7:rl r1=.rO root:=by rw[TQ r1 v1.1 (IB rf.1) (IB TM.1) (IB rg.1),l_]
  have h8:rl f1=.rF root:=by rw[TQ f1 v1.2.1 (IB rf.2.1) (IB TM.2.1) (IB rg.2.1),IA (IB R1.rne.1),l_]
  have h9:rl p1=.rP root:=by rw[TQ p1 v1.2.2 (IB rf.2.2) (IB TM.2.2) (IB rg.2.2),IA (IB R1.rne.2),IA (IB R1.ne),l_]
  have b1:=ox r1 v1.1;have b2:=ox f1 v1.2.1;have b3:=ox p1 v1.2.2;have h10:rl r2=.rO binn:=by rw[TR r2 v2.1 (IB mo.1) (IB TN.1) (IB ma.1),IA (IB b1.1),IA (IB b2.1),IA (IB b3.1),l_]
  have h11:rl f2=.rF binn:=by rw[TR f2 v2.2.1 (IB mo.2.1) (IB TN.2.1) (IB ma.2.1),IA (IB b1.2.1),IA (IB b2.2.1),IA (IB b3.2.1),IA (IB R2.rne.1),l_]
  have h12:rl p2=.rP binn:=by rw[TR p2 v2.2.2 (IB mo.2.2) (IB TN.2.2) (IB ma.2.2),IA (IB b1.2.2),IA (IB b2.2.2),IA (IB b3.2.2),IA (IB R2.rne.2),IA (IB R2.ne),l_]
  have kr:kget pK_ root=some (.fn r1):=by show zv_=_;rw[l_]
  have kb:kget pK_ binn=some (.fn r2):=by
   show zw!;rw[IA b2p,l_]
  have kr':kget pJ! root=some .non:=by show zv_=_;rw[l_]
  have kb':kget pJ! binn=some .non:=by
   show zw!;rw[IA b2p,l_]
  exact{
      ob:=XU,d1:=⟨_,F1⟩,d2:=⟨_,F2⟩,d3:=⟨_,F3⟩,d4:=⟨_,F4⟩,d5:=⟨_,F5⟩,d6:=⟨_,F6⟩
      ro:=g0,r1:=g1,r2:=g2,r3:=g3,r4:=g4,r5:=g5,r6:=g6
      p0:=⟨kr',kb'⟩
      pr:=λi p h=>zb_
      row:=λx Y=>by
       obtain Y|rfl|rfl:=Y
       .simp[W0]at Y
       .exact⟨r1,f1,p1,kr,Q1,h7,h8,h9⟩
       .exact⟨r2,f2,p2,kb,Q2,h10,h11,h12⟩
      rown:=λx Y=>by
       unfold Fs at Y;rw[PD,PD]at Y;show(if root=x then _ else(if binn=x then _ else _))=_;rw[IA (IB Y.2.1),IA (IB Y.2.2)];rfl
      txt:=λx Y=>fN!
      txtn:=λx _=>rfl
      num:=λx Y=>fN!
      wr:=λx Y=>fN!
      hi:=λx Y=>fN!
      hk:=λs hs=>(by simp[kget]at hs)
      l1:=by simp,l2:=by simp,l3:=by simp,l4:=by simp,l5:=by simp,l6:=by simp,lr:=by simp[W0],lt:=λx Y=>fN!
      live:=λc L=>by
       by_cases y0:c=o
       .rw[y0];exact lo XU
       by_cases um:c=a1
       .rw[um];exact lo F1
       by_cases uo:c=a2
       .rw[uo];exact lo F2
       by_cases k9:c=a3
       .rw[k9];exact lo F3
       by_cases lb:c=a4
       .rw[lb];exact lo F4
       by_cases oo:c=a5
       .rw[oo];exact lo F5
       by_cases uq:c=a6
       .rw[uq];exact lo F6
       by_cases ur:c=r1
       .rw[ur];exact Q1.live.1
       by_cases X1:c=f1
       .rw[X1];exact Q1.live.2.1
       by_cases X2:c=p1
       .rw[X2];exact Q1.live.2.2
       by_cases X3:c=r2
       .rw[X3];exact Q2.live.1
       by_cases X4:c=f2
       .rw[X4];exact Q2.live.2.1
       by_cases X5:c=p2
       .rw[X5];exact Q2.live.2.2
       exfalso;apply L;show pN_=_;rw[IA y0,IA um,IA uo,IA k9,IA lb,IA oo,IA uq,IA ur,IA X1,IA X2,IA X3,IA X4,IA X5]}
 .obtain⟨d1,d2,d3,d4,d5,d6,d7,d8,d9,TU⟩:=dead b hb;refine⟨d1,?_⟩;show(if b=o then _ else _)=_;rw[IA d2,IA d3,IA d4,IA d5,IA d6,IA d7,IA d8,IA d9.1,IA d9.2.1,IA d9.2.2,IA TU.1,IA TU.2.1,IA TU.2.2]
end
def c0e{α β:Type}{f:lv_}:∀{l:O_},(ic_).Nodup->∀{x y:α},x∈l->y∈l->f x=f y->x=y
 |[],_,_,_,h,_,_=>by cases h
 |a::l,nd,x,y,Y,hy,e=>by
  rw[II,IV]at nd;obtain h1|h1:=HY.mp Y<;>obtain h2|h2:=HY.mp hy
  .rw[h1,h2]
  .exact absurd (by rw[<-h1,e];exact IJ h2) nd.1
  .exact absurd (by rw[<-h2,<-e];exact IJ h1) nd.1
  .exact c0e nd.2 h1 h2 e
inductive Wx:OW->List Op->OW->Prop
 |nil {W:OW}:Wx W [] W
 |cons {W W1 W2:OW} {o:Op} {os:h_}:Te W o.nm o.d W1->Wx W1 os W2->Wx W hU_ W2
def Ro(wd:i_)(os:h_):List Op:=os.filter λo=>decide (Hi o.d=none/\¬kget wd o.nm=some ca!)
section
variable{t:Aq}{M:Mh}{R:D->Mh->Prop}
def FC(t:Aq):WS:=Ai gC! s7!
def b2x{e0:Nat}{ops:h_}(hq:∀x∈ops,kget kq x.nm≠none↔Undn wd x):∀(os:h_) (x1:D) (y z:al_) (M:Mh) (rl:bV_) (W W':OW) (pre:c_) (hc:Nat) (R:o!),
  (∀x∈os,x∈ops/\DG x.d)->zx_->(pP!).Nodup->Cc t M o rl W hc->Uw W pre->Wx W pP_ W'->hc+20*aI!<3900->M q=some (.dct kq e0)->rl q=.oth->
  (∀M' ae y' z',Cc t M' o ae W' (hc+20*aI!)->zy!->Fr M rl M' ae->R (.nx [R!,F_,br!,y',z']) M')->
  Jc Q! ah! (FC t) at! [R!,F_,br!,y,z] M R
 |[],x1,y,z,M,rl,W,W',pre,hc,R,_,_,_,hO,w,J,_,_,_,hR=>by
  cases J;exact⟨trivial,hR M rl y z hO ⟨pre,w⟩ .refl⟩
 |x::os,x1,y,z,M,rl,W,W',pre,hc,R,hd,hp,nd,hO,w,J,hB,ow,j2,hR=>by
  refine aY!;show Ai (Ao 4 _) _ zy_ M _;obtain⟨Y,jx⟩:=hd x IH;simp only[IQ]at hB hR;rw[II,IV]at nd;have es:Ea M_ As c7_ zy_=some x.nm:=b7o x;obtain⟨kn,gb⟩:=b0j x;have u9:Il true M x.nm bW!=some (.bl (!(kget kq x.nm).isSome)):=by simp[Il,ow,gb]
  have f4:Aa 4 eC_=some x.nm:=rfl;have va:Aa 2 eC_=some bW!:=rfl;have f1':Aa 1 eC_=some Y!:=rfl;have f3':f2 Ah M_ aw_ eC_=some x.d:=by
   show Ah x.v bh!=_;simp[Op.v,Ah,Dd,Eg]
  show Au s6! _ _ eC_ M _;simp only[Au,wT,w2,wl,f4,va,u9];have hu:=hq x Y;have rest:∀(M1:Mh) (dq:bV_) (W1:OW) (xg:c_),Cc t M1 o dq W1 bo_->Uw W1 xg->(∀y∈os,y.nm∉xg)->Wx W1 pP_ W'->Fr M rl M1 dq->Jc Q! ah! (FC t) at! eC_ M1 R:=λM1 dq W1 xg h1 h2 h3 h4 h5=>
   b2x (o:=o) (q:=q) (kq:=kq) (wd:=wd) (e0:=e0) hq os x1 pQ! (some x.nm) M1 dq W1 W' xg bo_ R pQ_ h3 nd.2 h1 h2 h4 a! ((zz!).1.trans ow) (zz!).2 (λM' ae y' z' g1 g2 g3=>hR M' ae y' z' (by rw[zz_];exact g1) g2 (h5.trans g3))
  by_cases c:kget kq x.nm=none
  .rw[c,IL di!];have L:∀(K:r!),Nk t [bc!,x.nm,x.d] M K->Ak 3 (Nk t) s6_ eC_ M K:=λK h=>by
    exact bV!
   refine gH (L _ ?_);obtain⟨k,a,e,hk,_,xh⟩|⟨k,r,e,_,_,xh⟩:=vC jx
   .have:Ro wd hV!=Ro wd os:=by unfold Ro;rw[KW (by simp[xh])]
    rw[this]at J;rw[e];exact c4i hk (rest M rl W pre oA! w pR! J .refl)
   .have bf:¬kget wd x.nm=some ca!:=λz=>absurd c (hu.mpr ⟨xh,z⟩);have:Ro wd hV!=x::Ro wd os:=by unfold Ro;rw[KU (by simp[xh,bf])]
    rw[this]at J;cases J with
    |cons hs J=>
     have w1:=b7l hs w k5_;refine c4h hO w k5_ hs a! λM1 dq h1 h2=>rest M1 dq _ _ h1 w1 zA! J h2;obtain z|z:=IK.mp z
     .exact hp y ec_ z
     .rw[IR]at z;exact nd.1 zA_
  .have hU:=hu.mp c;obtain⟨v,hv⟩:=Option.ne_none_iff_exists'.mp c;rw[hv,ak_];have:Ro wd hV!=Ro wd os:=by unfold Ro;rw[KW (by simp[hU.1,hU.2])]
   rw[this]at J;exact rest M rl W pre oA! w pR! J .refl
def Cc.live{rl:bV_}{hc:Nat}(h:az_)(hb:rl b≠.oth):M b≠none:=by obtain⟨_,_,_,_,_,_,_,_,_,_,_,_,O⟩:=h;exact O.live b hb
def Cc.keep{M':Mh}{rl:bV_}{hc:Nat}(hO:az_)(k:zB!):Cc t M' o rl W hc:=by
 obtain⟨a1,a2,a3,a4,a5,a6,k1,k2,k3,k4,k5,k6,O⟩:=hO;refine⟨a1,a2,a3,a4,a5,a6,k1,k2,k3,k4,k5,k6,{O with ob:=?_,d1:=?_,d2:=?_,d3:=?_,d4:=?_,d5:=?_,d6:=?_,row:=?_,txt:=?_,num:=?_,live:=?_}⟩
 .rw[k o N_];exact O.ob
 .rw[k a1 bX!];exact O.d1
 .rw[k a2 aA!];exact O.d2
 .rw[k a3 aX!];exact O.d3
 .rw[k a4 aX_];exact O.d4
 .rw[k a5 aN!];exact O.d5
 .rw[k a6 aA_];exact O.d6
 .intro x Y;obtain⟨r',f',p',v1,v2,v3,v4,v5⟩:=O.row x Y;exact zC!
 .intro x Y;obtain⟨r',f',p',v1,v2,v3,v4,v5⟩:=O.txt x Y;exact zC!
 .intro x Y;obtain⟨q',v1,v2,v3⟩:=O.num x Y;exact⟨q',v1,(k _ bI!).trans v2,v3⟩
 .intro b hb;rw[k b hb];show"#-"
def b5i{ops:h_}(nd:eA_)(nn:zD!)(hl:dz_)(hd:hN_)(J:Wx W0 (Ro hO! a0!) W')
  (hR:∀o M' ae,M o=none->Cc t M' o ae W' 1500->zD_->(∀b,M b≠none->M' b=M b/\ae b=.oth)->R Y! M'):Jz t cn_ M R:=by
 refine j_;show Ai s5_ _ za! M _;simp only[Ai,Ao];refine a2z λo rl M1 ho hO fr=>?_;have L:∀(K:r!),Lv cn_ M1 K->Ak 1 Lv aT_ [dA!,F_,none,none,none] M1 K:=λK h=>bV!;refine L _ (b4p nd hl hd λq M2 ep kq hq f7 uz iq=>?_);have hi:Ei i2! zF_=some hM_:=qQ (mR nd hl);show Dx (Hf _) _ (FC t) zF_ M2 _;simp only[Dx,Hf,hi,Dz];have hp:(a0!).Perm ops:=bJ ops;have j2:rl q=.oth:=by
  by_cases z:rl q=.oth
  .exact z
  .obtain⟨_,_,_,_,_,_,_,_,_,_,_,_,O⟩:=hO;exact absurd hq (O.live q z)
 have hO2:Cc t M2 o rl W0 2:=hO.keep λc L=>iq c (hO.live L);have w9:∀x∈ops,kget kq x.nm≠none↔Undn hO! x:=λx Y=>by
  rw[uz];show"!D"
  .rintro⟨y,hy,e,hu⟩;have:y=x:=c0e nn hy Y e;rw[<-this];exact hu
  .exact λh=>⟨x,Y,rfl,h⟩
 refine b2x (t:=t) (wd:=pG!) (e0:=ep) (ops:=ops) w9 a0! hO_ none none M2 rl W0 W' [] 2 _ (λx Y=>⟨hp.mem_iff.mp Y,hd x zG!⟩) zG_ zH! hO2 c7v J k7! f7 j2 λM' ae y' z' g1 g2 g3=>?_;refine hR o M' ae ho (g1.mono k7!) g2 λb hb=>?_;obtain⟨e1,e2⟩:=fr b hb;have e3:=iq b od!;have g4:=g3 b zH_ e2;exact⟨by rw[g4.1,e3,e1],g4.2⟩
def c1n(o:Op):∀{l:h_},Pc Op.key l->∃u v,l=u++v/\Rh Op.key o l=u++o::v/\(∀x∈u,Kw o.key x.key=false)/\∀x∈v,Kw o.key x.key=true
 |[],_=>⟨[],[],rfl,rfl,G_,G_⟩
 |y::l,h=>by
  unfold Pc at h;rw[KZ]at h;unfold Rh;cases e:Kw o.key y.key with
  |true=>
   refine⟨[],y::l,rfl,rfl,G_,ba!⟩;obtain rfl|Y:=HY.mp Y
   .exact e
   .exact kC e (h.1 x Y)
  |false=>
   obtain⟨u,v,e1,e2,e3,e4⟩:=c1n o h.2;refine⟨y::u,v,by rw[e1];rfl,by rw[e2];rfl,ba!,e4⟩;obtain rfl|Y:=HY.mp Y
   .exact e
   .exact e3 x Y
def d4j(a b c d:Int):HT.lexLt aj_ [c,d]=Kw Z_ (c,d):=by
 rw[LU,qE,HT.lexLt_cons];by_cases h:a=c
 .rw[IL h,HT.lexLt_cons];by_cases h':b=d
  .rw[IL h'];simp[HT.lexLt_nil_nil];omega
  .rw[IA h',JI];show"#7";omega
 .rw[IA h,JI];show"#7";omega
def Zv(l:h_)(o:Op):Nat->Bool
 |0=>false
 |j+1=>match l[j]? with|some f=>Kw o.key f.key|none=>false
def CJ:Ae->Option Bool:=Db um! um_
def b3e{l:h_}{o:Op}{k:Nat}(hk:k<=Z!):CJ [K!,some fS!,J_,hW!]=some (Zv l o k):=by
 cases k with
 |zero=>simp[CJ,Db,fT,f2,Aa,fC,Kl,Cf,Zv]
 |succ j=>
  have hj:j<Z!:=hk;have e1:l[j]?=some l[j]:=IM hj;have e2:Dd a0_ pT!=some (cq_).v:=by
   show"#:";simp[hj]
  have e3:Ma 1 jt_ pU!=some (cq_).v:=by
   have:zJ_ - 1=(j:Nat):=by omega
   simp[Ma,f2,Aa,fC,Do,Cf,this,e2]
  have e4:Ah (cq_).v bz!=some (.int (cq_).tm):=by simp[Op.v,Ah,Dd,Eg]
  have e5:Ah (cq_).v H_=some (.int (cq_).h):=by simp[Op.v,Ah,Dd,Eg]
  have e6:Ah o.v bz!=some fS_:=by simp[Op.v,Ah,Dd,Eg]
  have e7:Ah o.v H_=some cr!:=by simp[Op.v,Ah,Dd,Eg]
  have e8:BH (.tup [.int (cq_).tm,.int (cq_).h]) yU_=some (.bl (Kw o.key (cq_).key)):=by
   simp[BH,Sh,d4j,Op.key]
  have e9:Kl pT_ H_=some B_:=by simp[Kl,Cf]
  have f3:Aa 3 pU!=some pT_:=rfl;have va:Aa 2 pU!=some o.v:=rfl;simp only[CJ,Db,fT,f2,f3,fC,NN,e9,Ba,Ac,Ag,e3,e4,e5,va,e6,e7,KG,IQ,MO,show(0+1+1:Nat)<=1000 by omega,e8,Zv,e1]
def a6l{o:Op}{u v:h_}(h1:∀x∈u,Kw o.key x.key=false)(h2:∀x∈v,Kw o.key x.key=true)(R:o!)(hR:R (.nx k8!) M):
  ∀(m:Nat),m<=v.length->∃n,Dg (Cv CJ) nz! n [K!,pV!,J_,some (.int pX!)] M R
 |0,hm=>by
  refine fq!;have et:=b3e (x0:=x0) (o:=o) (l:=u++v) (k:=b2!) d!;have ef:Zv bm_ o b2!=false:=by
   cases hu:b2! with
   |zero=>rfl
   |succ j=>
    have:bm_[j]?=some (u[j]' a!):=by rw[LB a!,IM a!]
    simp only[Zv,this];exact h1 _ hX!
  rw[ef]at et;simp only[Dg,Cv,Nat.add_zero,et];exact hR
 |m+1,hm=>by
  obtain⟨n,hn⟩:=a6l h1 h2 R hR m a!;refine⟨n+1,?_⟩;have et:=b3e (x0:=x0) (o:=o) (l:=u++v) (k:=b2!+(m+1)) bh_;have ef:Zv bm_ o (b2!+(m+1))=true:=by
   show Zv bm_ o (b2!+m+1)=true;have:bm_[b2!+m]?=some (v[m]' a!):=by rw[JW a!,show u.length+m - u.length=m by omega,IM a!]
   simp only[Zv,this];exact h2 _ hX!
  rw[ef]at et;have es:f2 Do M_ x! [K!,pV!,J_,some (.int pX_)]=some (.int pX!):=by
   have:pX_ - 1=pX!:=by omega
   show Do (.int pX_) a5!=_;simp only[Do,Cf,this]
  simp only[Dg,Cv,et,KG,Ao,wl,es];exact hn
def GA:WS:=Ai ul! (Ai (Jj (Cv CJ) nz!) un!)
def b3f:∀(os:h_) (x0:D) (y z:al_) (acc:h_) (R:o!),Pc Op.key acc->((acc++os).map Op.key).Nodup->cT!+aI!<1000->
  (∀df y' z',Pc Op.key df->df.Perm (acc++os)->R (.nx [K!,some (.lst (df.map Op.v)),y',z']) M)->Jc bP! ah! GA at! [K!,hX_,y,z] M R
 |[],x0,y,z,acc,R,hs,nd,hl,hR=>⟨trivial,hR acc y z hs d!⟩
 |o::os,x0,y,z,acc,R,hs,nd,hl,hR=>by
  refine aY!;show Ai (Ao 3 _) _ pY_ M _;obtain⟨u,v,e1,e2,e3,e4⟩:=c1n o hs;simp only[IQ]at hl;have el:Oh mB! pY_=some zO_:=by
   have:f1 Bk dU! pY_=some zO_:=by
    show Bk [.lst zO!]=_;simp[Bk]
   unfold Oh;rw[this];rfl
  simp only[Ai,Ao,wl,el];have ao:cT!=b2!+v.length:=by rw[e1,IT]
  rw[ao,e1];refine a6l e3 e4 _ ?_ v.length x_;have ei:Xf 1 M_ y! k8!=some (.nx [K!,some (.lst ((k9_).map Op.v)),J_,some pV_]):=by
   have:(bm_).length<big:=by unfold big;rw[IT];omega
   have e3:Aa 3 k8!=some pV_:=rfl;have e2:Aa 2 k8!=some o.v:=rfl;unfold Xf;show(if 0<=(pW_:Int)/\(pW_:Int).toNat<=(pU_).length/\(pU_).length<big then _ else none)=_;rw[IL ⟨v!,G_,by rw[IP];exact this⟩];simp
  simp only[Ww,ei,Dz];have hp:(k9_).Perm (acc++[o]):=by rw[e1];simpa using(List.perm_middle (a:=o) (l₁:=u) (l₂:=v)).trans (List.perm_append_comm (l₁:=[o]) (l₂:=u++v))
  have bu:Pc Op.key k9_:=by
   rw[<-e2];refine xN hs λy hy=>?_;rw[JF,JJ]at nd;exact λz=>nd.2.2 _ (IJ hy) o.key d! z.symm
  have f8:((u++o::v++os).map Op.key).Nodup:=by
   have:(u++o::v++os).Perm (acc++o::os):=by
    have:=hp.append_right os;simpa using this
   exact(this.map _).nodup_iff.mpr nd
  exact b3f os x0 _ _ k9_ R bu f8 (by have:=hp.length_eq;simp at this;simp;omega) λdf y' z' h1 h2=>hR df y' z' h1 (h2.trans (by have:=hp.append_right os;simpa using this))
def oR{ops:h_}(nd:eA_)(hl:dz_)(hR:R (.lst hM_) M):Cp cn_ M R:=by
 refine j_;show Ai iS_ (Ai (Dx (Hf e2_) bP! GA) cz!) zQ! M _;have e1:Ml 1 Ag zQ!=some (.nx zQ_):=by simp[Ml,Ag]
 have e2:Ei q! zQ_=some eA!:=rfl;refine b3f ops _ none none [] _ (jG!) (by simpa using nd) bh_ λdf y' z' h1 h2=>?_;have:df=Gf ops:=lT h1 (iS nd) (by simpa using h2.trans (by simpa using(bJ ops).symm));rw[this];exact hR
def a7q{neg:Bool}:Il neg M V! oY!=some (.bl (if neg then ! oY_ else oY_)):=by show Il.inS neg M V! oY!=_;simp[Il.inS,Sn,Bh,Br,Hy,Dj,a4l]
def GH:WS:=Au up_ uq! Bo
def d3l{o:Op}(ho:DG o.d):∃k r,o.d=.tup dv!/\(Hi o.d=none->hL_=false/\(k=="redo")=false)/\(∀u,Hi o.d=some u->r=[u.2]/\k=u.1/\yT!/\NameG u.2):=by
 obtain⟨k,a,e,hk,jc,hu⟩|⟨k,r,e,h1,h2,hu⟩:=vC ho
 .exact⟨k,[a],e,(λz=>by rw[z]at hu;cases hu),(λu oj=>by rw[hu]at oj;cases oj;exact⟨rfl,rfl,hk,jc⟩)⟩
 .exact⟨k,r,e,(λ_=>p1!),(λu oj=>by rw[hu]at oj;cases oj)⟩
def c1g{o:Op}(e:o.d=.tup dv!):pz_=some V!:=by
 have e3:Ah o.v bh!=some o.d:=by simp[Op.v,Ah,Dd,Eg]
 rw[e3,e];show Dd (D.str k::r) 0=_;show"#:";simp
def b1u{k:Str}(hk:yQ!):p1_=true:=by
 obtain rfl|rfl:=hk
 .rw[yY_];rfl
 .rw[yZ!];simp
def a3c:∀(os:h_) (x1:D) (y:al_) (acc:i_) (ep:Nat) (M:Mh) (R:o!),pB!->cT!+aI!<1000->M p=some pB_->
  (∀M' bd y',M' p=some (.dct (Pg pA! os acc) bd)->kT_->R y1_ M')->
  Jc bP! ah! GH at! pA_ M R
 |[],x1,y,acc,ep,M,R,_,_,hp,hR=>y2!
 |o::os,x1,y,acc,ep,M,R,hd,hl,hp,hR=>by
  refine aY!;show GH b0_ M _;show Au _ _ _ b0_ M _;have ho:=hd o IH;simp only[IQ]at hl;obtain⟨k,r,e,hn,hs⟩:=d3l ho;have i0:f2 Ah a6_ G! b0_=some V!:=c1g e;simp only[Au,wT,w2,wl,i0,fC,a7q];cases hu:Hi o.d with
  |none=>
   obtain⟨h1,h2⟩:=hn hu;have:p1_=false:=by rw[zS!,zS_,h1,h2];rfl
   rw[this];exact a3c (p:=p) os x1 eB! acc ep M R hN! a! hp y4!
  |some u=>
   obtain⟨g1,g2,hk,jc⟩:=hs u hu;rw[b1u hk];obtain⟨ka,ky⟩:=a0a jc;have i1:f2 Ah a6_ x! b0_=some u.2:=by
    have e3:Ah o.v bh!=some o.d:=by simp[Op.v,Ah,Dd,Eg]
    show y2_;rw[e3,e,g1];show Dd [D.str k,u.2] 1=_;simp[Dd,Eg]
   have i2:f2 Ax gB_ i1! b0_=some fK!:=by
    show(f2 Ah a6_ G! b0_).bind (λx=>Ax x ca!)=_;rw[i0];exact gU k _
   have ii:=hV (y:=u.2) (v:=.bl hL_) hp ky hA_;have:=a3c (p:=p) os x1 eB! zT_ zU! (Az M p (.dct zT_ zU!)) R hN! (by have:=kput_len acc u.2 fK!;omega) mup_same (λM' bd y' h1 h2=>hR M' bd y' (by
    unfold Pg;rw[hu];obtain⟨u1,u2⟩:=u;dsimp only at g2 h1 ⊢;rw[<-g2];exact h1) λb hb=>(pC!).trans pC_)
   simp only[Cd,wl,i1,i2,d3p,ii,Dz];show"#H"
def b0r{ops:h_}(nd:eA_)(hl:dz_)(hd:hN_)
  (hR:∀p M' ep,M p=none->M' p=some (.dct (Pg pA! a0! []) ep)->kT_->R A_ M'):Me cn_ M R:=by
 refine j_;intro p hp;have br:(a0!).Perm ops:=bJ ops;have L:∀(K:r!),Cp cn_ eD_ K->Ak 1 Cp aT_ pD! eD_ K:=λK h=>bV!;refine L _ (oR nd hl ?_);exact a3c (p:=p) a0! hO_ none [] 0 eD_ _ y4_ y5! mup_same y5_
end
def Bi(q:D×D):D:=.tup [q.1,q.2]
def Bg(q:fm_):D:=.tup [q.1,q.2.1,.bl q.2.2]
inductive LR
 |w|wt|wn|q (x:D)|oth
nonrec def k3(rows wt wn:D):List aC!:=[(.str "rows",rows),(.str "texts",wt),(.str "numbers",wn)]
section
variable{a b c v:D}
def c7b:¬(D.str dm_=D.str eh_):=λz=>absurd p2! l!
def c7c:¬(D.str dm_=D.str fn_):=λz=>absurd p2! l!
def c6z:¬(D.str eh_=D.str fn_):=λz=>absurd p2! l!
def k3r:kget hY_ d8!=some a:=by show lb!=_;rw[l_]
def k3t:kget hY_ jv_=some b:=by show zV_=_;rw[IA c7b,l_]
def k3n:kget hY_ nG_=some c:=by show(if _ then _ else zV_)=_;rw[IA c7c,IA c6z,l_]
def k3p:At hY_ d8! v=k3 v b c:=by show lb!=_;rw[l_];rfl
end
def mO{g:D->D}:∀{its:c_} {x:D},kget lb_ x=if x∈its then some (g x)else none
 |[],x=>by simp[kget]
 |i::its,x=>by
  rw[II];unfold kget;by_cases e:i=x
  .subst e;simp
  .rw[IA e,mO];simp[IB e]
def a6y{g:D->D}{v:D}:∀{its:c_},its.Nodup->x∈its->At lb_ x v=its.map λi=>(i,if i=x then v else g i)
 |[],_,h=>by cases h
 |i::its,nd,h=>by
  rw[IV]at nd;rw[II,II];unfold At;by_cases e:i=x
  .subst e;simp only[KG];congr 1;apply LD;intro j hj;rw[IA λz:j=i=>nd.1 (z▸hj)]
  .rw[IA e];simp only[e,JT];rw[a6y nd.2 ((HY.mp h).resolve_left (IB e))]
def a0j{g:D->D}{v:D}{its:c_}(h:x∉its):At lb_ x v=lb_++[(x,v)]:=iB (by rw[JV];simpa using h)
structure Vk(M:Mh)(w:xY!)(rl:dD!)(W:OW)(wt wn:xY!)(qa:D->Addr):Prop where
 mw:∃e,M w=some (.dct hZ! e)
 mt:∃e,M wt=some (.dct (W.its.map λi=>(i,.lst lc!)) e)
 mn:∃e,M wn=some (.dct (W.its.map λi=>(i,.fn fU_)) e)
 mq:∀i∈W.its,M fU_=some (.lst j5!)/\rl fU_=.q i
 rw_:rl w=.w
 rt:rl wt=.wt
 rn:rl wn=.wn
 live:∀b,rl b≠.oth->M b≠none
def Bt(M:Mh)(w:xY!)(rl:dD!)(W:OW):Prop:=∃wt wn qa,Vk M w rl W wt wn qa
def Tg(M:Mh)(rl:dD!)(M':Mh)(ae:dD!):Prop:=∀b,M b≠none->rl b=.oth->M' b=M b/\ae b=.oth
def Tg.refl{M:Mh}{rl:dD!}:Tg M rl M rl:=λb _ h=>bV!
def Tg.trans{M M1 M2:Mh}{rl dq qo:dD!}(h1:Tg M rl M1 dq)(h2:Tg M1 dq M2 qo):Tg M rl M2 qo:=λb hb J=>by
 show"!l"
section
variable{M:Mh}{R:D->Mh->Prop}{w:xY!}{rl:Addr->LR}{W:OW}{ρ:Ae}
def gD{ep:Nat}(h:bY_)(hk:co!):Bs M A_ y=kget kvs y:=by simp[Bs,h,hk]
def ixw{ep:Nat}{v:D}(h0:Aa 0 ρ=some A_)(h:bY_)(hv:kget kvs aO!=some v)(K:r!):w2 Bs h! (wl (fC aO!)) ρ M K=K v M:=by have:Bs M A_ aO!=some v:=(gD (k:=some (.inl (.inr s))) h rfl).trans hv;simp only[w2,wl,h0,fC,this]
def uX{q:D×D}:Ah eE_ H_=some q.1:=by simp[Bi,Ah,Dd,Eg]
def a4e{q:D×D}:Ah eE_ a5!=some q.2:=by simp[Bi,Ah,Dd,Eg]
def kO{W:OW}(w:By W):∀q∈W.rows,Ig q.1/\Sd q.2/\Fs W q.2:=λq hq=>⟨w.nm _ ((w.ri q.1).mp (IJ hq)),a4i w (w.rp q.1 q.2 hq),w.rp q.1 q.2 hq⟩
def a5b(h:aa!)(wi:By W)(Y:Sd x)(hl:fV!)(hR:R he! M):Hu [cr_,x] M R:=by
 show"!|";obtain⟨e,hw⟩:=O.mw;refine j_;show Aw p2_ lc_ M _;simp only[Aw,Bf,Ci,ixw (ρ:=lc_) rfl hw k3r];refine dy!;refine cI (λd=>match d with|.tup [_,p]=>decide (p=x)|_=>false) (λd=>match d with|.tup [i,_]=>i|_=>.non) trivial _ _ aZ_ ?_
 .show"!?";show"#*";refine p3!
  .have e1:fT u2_ cU!=some zX_:=by
    have:f2 Ax cx_ u_ cU!=some (.bl zX_):=by
     show(Ah eE_ a5!).bind zY!=_;rw[a4e];exact nR h2 Y
    show"!="
   simp only[Cv,e1];exact hK
  .have e1:f2 Ah q! G! cU!=some q.1:=uX;exact hK
 .have e2:(((fT_).filter λd=>match d with|.tup [_,p]=>decide (p=x)|_=>false).map λd=>match d with|.tup [i,_]=>i|_=>.non)=chl W.rows x:=by
   rw[NH,JV];rfl
  rw[e2];exact hR
end
def b6p(ha:Sd a)(hb:Sd b)(L:Sd c)(hd:Sd d):Ax h0! (.tup [c,d])=some (.bl (decide (a=c/\b=d))):=by
 unfold Ax;have d1:=jT ha;have d2:=jT hb;have e:Ed h0! (.tup [c,d])=decide (a=c/\b=d):=by
  simp only[Ed,Ij,mS ha L,mS hb hd,Bool.and_true];by_cases h1:a=c<;>by_cases h2:b=d<;>simp[h1,h2]
 rw[e];simp only[Bh,Br,eC ha,eC hb,eC L,eC hd,Hy,Dj,Bool.and_true,Bool.true_and];rw[IL bh_]
def c2p{xs:c_}{k:Nat}(h:k<=i!):Bm L! none b3!=some (.lst (xs.take k)):=by
 have e:HT.sIx xs.length xs.length b3!=k:=by rw[HT.sIx_nat];omega
 simp only[Bm];congr 2;unfold Cr;rw[e,HT.sIx_none];simp
def a8j{xs:c_}{k:Nat}(h:k<=i!):Bm L! b3! none=some (.lst (xs.drop k)):=by
 simp only[Bm];congr 2;have e:HT.sIx xs.length 0 b3!=k:=by rw[HT.sIx_nat];omega
 have e2:HT.sIx xs.length xs.length none=i!:=rfl;unfold Cr;rw[e,e2,LM d!]
section
variable{M:Mh}{R:D->Mh->Prop}{w:xY!}{rl:Addr->LR}{W:OW}{ρ:Ae}
def DQ:Ae->Option Bool:=Db ur! us_
def c5t{rs:i_}{k:Nat}(hk:k<=au!)(hl:au!<5000)(jf:zZ!)(hp:Sd p):DQ b3_=some z0!:=by
 have el:f1 Bk gz_ b3_=some le!:=by
  show z1!;simp[Bk]
 by_cases c:k<au!
 .have e1:rs[k]?=some rs[k]:=IM c;have ea:Dd eF! aQ!=some le_:=by
   show"#:";simp[c]
  have e3:f2 Ah P_ I! b3_=some le_:=ea;have e4:Jx eD! le!=some B_:=by simp[Jx,Cf];exact c
  have e6:Ep (fV_).2 p=some z1_:=a2w (jf _ hX!).2 hp;have e7:f2 Ep ur_ y! b3_=some z1_:=by
   show((f2 Ah P_ I! b3_).bind λx=>Ah x a5!).bind (λz=>Ep z p)=_;rw[e3];show(Ah le_ a5!).bind _=_;rw[a4e];exact e6
  have e8:f2 Jx I! gU! b3_=some B_:=by
   show z2!;rw[el];exact e4
  simp only[DQ,Db,fT,e8,e7,NN,KG,e1]
 .have e1:rs[k]?=none:=JZ a!;have e4:Jx eD! le!=some S_:=by simp[Jx,Cf];omega
  have e8:f2 Jx I! gU! b3_=some S_:=by
   show z2!;rw[el];exact e4
  simp only[DQ,Db,fT,e8,NN,e1];rfl
def c2t{rs:i_}{k:Nat}(hk:k<au!)(h:chl p4! p=[])(hp:(fV_).2≠p):chl (rs.take T!) p=[]:=by rw[ND hk,eJ,h];rw[uF hp];rfl
def a7s{rs:i_}(hl:au!<5000)(jf:zZ!)(hp:Sd p)(R:o!)(hR:∀k:Nat,k<=au!->chl p4! p=[]->R (.nx b3_) M):
  ∀(m k:Nat),au! - k=m->k<=au!->chl p4! p=[]->∃n,Dg (Cv DQ) ut! n b3_ M R
 |m,k,hm,hk,L=>by
  have et:=c5t (x0:=x0) (i:=i) (s:=s) (y:=y) hk hl jf hp;by_cases c:k<au!/\(rs[k]?.map C!)≠some p
  .obtain⟨c1,c2⟩:=c;have e1:rs[k]?=some rs[k]:=IM c1;rw[e1]at et c2;have c3:(fV_).2≠p:=λz=>c2 (by rw[<-z];rfl);rw[show(match(some rs[k]:Option aC!)with|some q=>!decide (q.2=p)|none=>false)=true by simp[c3]]at et;cases m with
   |zero=>omega
   |succ m=>
    obtain⟨n,hn⟩:=a7s hl jf hp R hR m T! a! a! (c2t c1 L c3);refine⟨n+1,?_⟩;have es:f2 An I! x! b3_=some p5!:=by
     show p5_;simp[An]
    simp only[Dg,Cv,et,KG,Ao,wl,es];exact hn
  .refine fq!;have ef:z0!=false:=by
    cases e:rs[k]? with
    |none=>rfl
    |some q=>
     have c1:k<au!:=(p6!).1;have:q.2=p:=by
      by_cases z:q.2=p
      .exact z
      .exact absurd ⟨c1,by rw[e];simp[z]⟩ c
     simp[this]
   rw[ef]at et;simp only[Dg,Cv,et];exact hR k hk L
def GK:WS:=Au uw! uw_ Bo
def GT(rs:i_)(s p:D)(k0 k at_:Nat):Prop:=(at_=k0/\∀j<k,rs[j]?≠some dl_)\/∃j<k,rs[j]?=some dl_/\at_=j+1
def b0x{rs:i_}{k0:Nat}(hl:au!<5000)(jf:∀q∈rs,Sd q.1/\Sd q.2/\q.1≠.non)(hp:Sd p)(hs:Sd s)(R:o!)(hR:∀(a:Nat) y,GT rs s p k0 rs.length a->R (.nx z4!) M):
  ∀(m k a:Nat) (y:al_),au! - k=m->k<=au!->GT rs s p k0 k a->Jc gS_ ah! GK z4_ z4! M R
 |0,k,a,y,hm,hk,ha=>⟨trivial,hR a y (by rw[show rs.length=k by omega];exact ha)⟩
 |m+1,k,a,y,hm,hk,ha=>by
  have c1:k<au!:=by omega
  refine aY!;show GK eF_ M _;have e1:rs[k]?=some rs[k]:=IM c1;obtain⟨q1,q2,q3⟩:=jf rs[k] hX!;have ea:f2 Ah P_ bi! eF_=some le_:=by
   show Dd eF! aQ!=_;show"#:";simp[c1]
  have et:f2 Ax uu! uu_ eF_=some (.bl (decide ((fV_).1=s/\(fV_).2=p))):=by
   show(f2 Ah P_ bi! eF_).bind (λz=>Ax z (.tup [s,p]))=_;rw[ea];exact b6p q1 q2 hs hp
  have en:f2 Ap M_ ck_ eF_=some (.bl (!Cm s)):=rfl;have cond:Db ut_ uv_ eF_=some (decide (rs[k]=dl_)):=by
   simp only[Db,fT,en,et,NN];by_cases z:s=.non
   .rw[show Cm s=true from a0p.mpr z];have:¬rs[k]=dl_:=λy=>q3 w5_;simp[this]
   .rw[kD z];simp only[QA,KG];congr 1;rw[decide_eq_decide];exact⟨λy=>Prod.ext y.1 y.2,λy=>by rw[y];exact bz_⟩
  have es:f2 An bi! x! eF_=some p5!:=by
   show p5_;simp[An]
  by_cases z:rs[k]=dl_
  .refine z5_;exact b0x hl jf hp hs R hR m T! T! _ a! a! (.inr ⟨k,v!,by rw[e1,z],rfl⟩)
  .refine jE z6! ?_;refine b0x hl jf hp hs R hR m T! a _ a! a! ?_;obtain⟨h1,h2⟩|⟨j,h1,h2,h3⟩:=ha
   .refine .inl ⟨h1,kn!⟩;by_cases y:j=k
    .rw[y,e1];exact λx=>z (JY x)
    .exact h2 j a!
   .exact z6_
def Vk.setRows{qa:D->Addr}{rows':i_}{e:Nat}(O:z7!):Vk (Az M w p7_) w rl {W with rows:=rows'} wt wn qa/\Tg M rl (Az M w p7_) rl:=by
 have aw:∀b,rl b≠.w->Az M w p7_ b=M b:=λb hb=>mup_ne λz=>hb (by rw[z];exact O.rw_);refine⟨⟨j7!,?_,?_,fI_,O.rw_,O.rt,O.rn,aS!⟩,z9!⟩
 .rw[aw wt p8!];exact O.mt
 .rw[p8_];exact O.mn
 .show"#2"
 .by_cases z:b=w
  .rw[z,mup_same];simp
  .rw[kf!];show"#-"
def a8v(h:aa!)(jf:∀q∈W.rows,Sd q.1/\Sd q.2/\q.1≠.non)(hi:Sd i)(hp:Sd p)(hs:Sd s)(hl:ci_<4000)
  (hR:∀M' rows',Rm W.rows i p s rows'->Bt M' w rl {W with rows:=rows'}->Tg M rl M' rl->R .non M'):Go [cr_,i,p,s] M R:=by
 show"!|";obtain⟨e,hw⟩:=O.mw;refine j_;show Ai (Ao 4 p2_) _ Aa! M _;simp only[Ai,Ao,Bf,Ci,ixw (ρ:=Aa!) rfl hw k3r];refine dy!;have sub:∀q∈wo W.rows i,q∈W.rows:=λq hq=>(n7!).1;have lw:(kp!).length<=ci_:=NX _ _;refine cI (λd=>match d with|.tup [a,_]=>!decide (a=i)|_=>false) id trivial _ _ aZ_ ?_
 .obtain⟨q,hq,rfl⟩:=IS.mp hd;obtain⟨h1,_,_⟩:=jf q hq;refine⟨p9_,rfl,hK!,yR_⟩;have e1:fT uq_ p9_=some Ab!:=by
   have:f2 Ep aj! u_ p9_=some (.bl Ab!):=by
    show(Ah eE_ H_).bind (λz=>Ep z i)=_;rw[uX];exact a2w h1 hi
   show"!="
  simp only[Cv,e1];exact hK
 have e2:((fT_).filter λd=>match d with|.tup [a,_]=>!decide (a=i)|_=>false).map id=(kp!).map Bi:=by
  rw[QK,NH];congr 1;apply KY;intro q _;simp[Bi]
 rw[e2];generalize X6:wo W.rows i=rs at *;have TW:∀q∈rs,Sd q.1/\Sd q.2/\q.1≠.non:=λq hq=>jf q (sub q hq);refine a7s (M:=M) a! (λq hq=>⟨(TW q hq).1,(TW q hq).2.1⟩) hp _ (λk0 hk0 hc0=>?_) rs.length 0 a! a! (by rw[List.take_zero];rfl);have J:Eo gU! Ab_=some ((List.range' 0 au!).map λj=>D.int pT!):=by
  have:f1 Bk gz_ Ab_=some le!:=by
   show z1!;simp[Bk]
  unfold Eo;rw[this];show(if -1000<=qa_/\qa_<=100000 then some (Dp (qa_).toNat)else none)=_;rw[a1!];simp[Dp,List.range_eq_range']
 simp only[Dx,Hf,J,Dz];refine b0x (M:=M) a! TW hp hs _ (λa y ha=>?_) rs.length 0 k0 none a! a! Ac_;have vb:a<=au!:=by
  obtain⟨h1,_⟩|⟨j,h1,_,h3⟩:=ha<;>omega
 have ev:f2 An uy_ uz! fW!=some lf_:=by
  have s1:Ea P_ As fd! fW!=some qb!:=c2p lg!;have s2:Ea P_ fd! As fW!=some Ad_:=a8j lg!;have s3:Dw ux_ fW!=some qb_:=rfl;have a1:An qb! qb_=some Ae_:=by
   show hD_;rw[lg_]
  have a2:An Ae_ Ad_=some lf_:=by
   show hD_;rw[lg_];simp
  show((Ea P_ As fd! _).bind λx=>(Dw _ _).bind λz=>An x z).bind (λx=>(Ea P_ fd! As _).bind λz=>An x z)=_;rw[s1,s3,s2];show(An qb! qb_).bind (λx=>An x _)=_;rw[a1];exact a2
 have ii:Lc M bs_ d8! lf_=some (Az M w (.dct (k3 lf_ fU! eE!) (Gb hZ! d8! e))):=by
  rw[hV (k:=Af_) hw rfl (by show 3<big;decide),k3p]
 have f0:Aa 0 fW!=some bs_:=rfl;obtain⟨g1,g2⟩:=O.setRows (rows':=rs.take a++bU!::rs.drop a) (e:=Gb hZ! d8! e);have fin:=hR _ Ad! ⟨rs.take a,rs.drop a,by rw[X6,LG],rfl,?_⟩ Ag! g2
 .show Cd h! gT_ (wl _) fW! M _;simp only[Cd,wl,ev,f0,fC,ii,Dz];exact fin
 .rw[X6];obtain⟨h1,h2⟩|⟨j,h1,h2,h3⟩:=ha
  .refine .inl ⟨cR_,by rw[h1];exact hc0⟩;obtain⟨j,hj⟩:=NU.mp oQ_;exact h2 j (IU.mp hj).1 hj
  .refine .inr ⟨rs.take j,?_⟩;have hj:j<au!:=(IU.mp h2).1;rw[h3,ND hj,(IU.mp h2).2]
def b0z{rows:i_}(nd:fG_):(rows.filter λq=>decide h2!)=match rows.find? Ag_ with|some q=>[q]|none=>[]:=by
 induction rows with
 |nil=>rfl
 |cons a r ih=>
  rw[II,IV]at nd;by_cases e:a.1=x
  .rw[KU hm!,List.find?_cons_of_pos hm!];have:r.filter Ag_=[]:=by
    rw[LN];intro q hq;simp only[JI];exact λz=>nd.1 (by rw[e,<-z];exact IJ hq)
   rw[this]
  .rw[KW hm!,List.find?_cons_of_neg hm!,ih nd.2]
def b4k{W:OW}(wi:By W)(h:j2_):lh!=[bb!]:=by
 rw[b0z wi.rnd];cases e:W.rows.find? λq=>decide h2! with
 |none=>have:=List.find?_eq_none.mp e bb! h;simp at this
 |some q=>
  have h1:=List.find?_some e;have h2:=List.mem_of_find?_eq_some e;simp at h1;have:q.2=p:=kE wi.rnd (by rw[<-h1];exact h2) h;obtain⟨a,b⟩:=q;dsimp only at h1 this ⊢;rw[h1,this]
def d1g{W:OW}(wi:By W)(h:∀p,bb!∉W.rows):lh!=[]:=by rw[LN];rintro⟨a,b⟩ hq;simp only[JI];exact λz=>h b vU_
def FE:WS:=Ai uB!
 (Ai uB_
 (Ao 1 gI!))
def a0i(h:aa!)(wi:By W)(hl:fV!)(hi:Ig i){rk:D->Nat}(ig:wi_):∀(n:Nat) (x:D) (y:al_),rk x<n->Fs W x->∀(R':o!),(Wn W.rows i x->∀y',R' (.nx [D_,M!,M!,y']) M)->(¬Wn W.rows i x->R' (.rt S_) M)->
   ∃m,Dg (Cv iV!) FE m fW_ M R'
 |0,x,y,hn,_,_,_,_=>by omega
 |n+1,x,y,hn,Y,R',r1,r2=>by
  obtain⟨wt,wn,qa,O⟩:=id h;obtain⟨e0,hw⟩:=O.mw;have sx:=a4i wi Y;have et:fT zx! fW_=some qc!:=by
   have:f2 Ep u_ y! fW_=some (.bl qc!):=a2w sx hi.sd;show"!="
  by_cases e:x=i
  .subst e;refine fq!;simp only[Dg,Cv,et];exact r1 .here y
  .rw[show qc!=true by simp[e]]at et;have body:∀(K:o!),(wj!->K (.rt S_) M)->(∀p,bb!∈W.rows->K (.nx [D_,cM!,M!,some qc_]) M)->FE fW_ M K:=λK g1 g2=>by
    show Ai (Ao 3 p2_) _ fW_ M _;simp only[Ai,Ao,Bf,Ci,ixw (ρ:=fW_) rfl hw k3r];refine dy!;refine cI (λd=>match d with|.tup [a,_]=>decide (a=x)|_=>false) (λd=>match d with|.tup [_,p]=>p|_=>.non) trivial _ _ aZ_ ?_
    .show"!?";obtain⟨h1,_,_⟩:=kO wi q hq;refine p3!
     .have e1:fT jv! cU!=some lh_:=by
       have:f2 Ax aj! u_ cU!=some (.bl lh_):=by
        show Ah!;rw[uX];exact nR h1.sd sx
       show"!="
      simp only[Cv,e1];exact hK
     .have e1:f2 Ah q! x! cU!=some q.2:=a4e;exact hK
    .have e2:(((fT_).filter λd=>match d with|.tup [a,_]=>decide (a=x)|_=>false).map λd=>match d with|.tup [_,p]=>p|_=>.non)=(lh!).map C!:=by
      rw[NH,JV];rfl
     rw[e2];by_cases c:∃p,bb!∈W.rows
     .obtain⟨p,hp⟩:=c;rw[b4k wi hp];refine jE rfl ?_;have e3:f2 Ah M_ G! [D_,bF!,M!,some qc_]=some p:=rfl;exact g2 p hp
     .have c':∀p,bb!∉W.rows:=λp z=>c ⟨p,z⟩;rw[d1g wi c'];refine ifT rfl ?_;exact g1 c'
   obtain Y|Y:=Y
   .obtain⟨p,hp⟩:=a9p wi Y;have q:=a8y wi.rnd hp e;have:=ig _ _ hp;have key:∀y',∃m,Dg (Cv iV!) FE m [D_,cM!,M!,y'] M R':=λy'=>a0i h wi hl hi ig n p y' a! (wi.rp _ _ hp) R' wj_ (λz=>r2 λv=>z (q.mp v));obtain⟨m,hm⟩:=key (some qc_);refine⟨m+1,?_⟩;simp only[Dg,Cv,et,KG];exact body _ (λnt=>absurd hp (nt p)) λp' br=>by rw[kE wi.rnd br hp];exact hm
   .have nt:∀p,bb!∉W.rows:=by
     obtain rfl|rfl:=Y
     .exact sI wi (b2m wi)
     .exact sI wi (c2z wi)
    refine fq!;simp only[Dg,Cv,et,KG];exact body _ (λ_=>r2 (b7d nt e)) (λp hp=>absurd hp (nt p))
def c3b(h:aa!)(wi:By W)(hl:fV!)(Y:cK!)(hi:Ig i)(hR:∀b:Bool,(b=true↔Wn W.rows i x)->R bM! M):Mf [cr_,x,i] M R:=by obtain⟨rk,ig⟩:=wi.rk;refine j_;exact a0i h wi hl hi ig (rk x+1) x none a! Y _ (λz y'=>hR true eO_) (λz=>hR false eO_)
def c5q{neg:Bool}{ep:Nat}(h:bY_)(hk:co!):Il neg M y A_=some (.bl (if neg then !(h3!).isSome else(h3!).isSome)):=by simp[Il,h,hk]
def c5o(Y:Sd x)(ha:Sd a)(hb:Sd b):Il false M x h0!=some (.bl (decide (x=a\/x=b))):=by
 have d1:=jT ha;have d2:=jT hb;have e:((aj_).any λd=>Ed d x)=decide (x=a\/x=b):=by
  simp only[NA,List.any_nil,Bool.or_false,mS ha Y,mS hb Y];by_cases h1:a=x<;>by_cases h2:b=x<;>simp[h1,h2,IB]<;>first|exact .inl h1.symm|exact .inr h2.symm|exact⟨λz=>h1 z.symm,λz=>h2 z.symm⟩|skip
 show Il.inS false M x h0!=_;show(if Bh x&&Br aj_&&decide (Dj aj_<=40)then some (D.bl (if false=true then _ else[a,b].any λd=>Ed d x))else none)=_;rw[IL (by simp[eC Y,Br,eC ha,eC hb,Dj];omega),e];rfl
def d3u{g:br_}{fx:e!}{fb:WE}(Y:fx ρ=some x)(K:r!):w2 g li! fb ρ M K=fb ρ M λy M2=>match g M2 x y with|some d=>K d M2|none=>False:=by simp only[w2,wl,Y]<;>rfl
def b7k{W:OW}:(kget cU_ x).isSome=decide hd_:=by rw[mO];by_cases h:x∈W.its<;>simp[h]
def qP{fx:e!}(h:aa!)(h0:h3_)(Y:fx ρ=some x)(hk:aP_)(K:r!):w2 bA_ li! bl_ ρ M K=K (.bl (decide hd_)) M:=by obtain⟨wt,wn,qa,O⟩:=h;obtain⟨e0,hw⟩:=O.mw;obtain⟨e1,ht⟩:=O.mt;have hi:=ixw (M:=M) (ρ:=ρ) (s:=hT!) h0 hw k3t;have e:=c5q (neg:=false) ht hk;rw[show(if false=true then _ else(kget cU_ x).isSome)=decide hd_ from b7k]at e;rw[d3u Y,hi,e]
def a8u(h:aa!)(wi:By W)(hl:ci_<4000)(hi:Sd i)(Y:Sd x)(hs:Sd s)(cn:fq_)(gh:oi_)
  (hR:∀M' W',(ej_->∃rows',Rm W.rows i x s rows'/\W'={W with rows:=rows'})->(¬ej_->W'=W)->Bt M' w rl W'->Tg M rl M' rl->R .non M'):Ji [cr_,i,x,s] M R:=by
 refine j_;show Au (Gx (wT _) (Ut (wT _) (wT _))) _ Bo dE! M _;have g1:=qP (ρ:=dE!) (fx:=Aa 1) h rfl rfl cn;have g2:=qP (ρ:=dE!) (fx:=Aa 2) h rfl rfl gh;have g3:∀K:D->Mh->Prop,w2 bA_ z_ uD_ dE! M K=K (.bl (decide (x=root\/x=binn))) M:=λK=>by
  have va:Aa 2 dE!=some x:=rfl;have:=c5o (M:=M) Y (iV "root") (iV "bin");simp only[w2,wl,va,fC,this]
 have no:(¬ej_)->R .non M:=λc=>hR M W (λz=>absurd z c) (λ_=>rfl) h .refl;have X7:i∈W.its->Fs W x->Au uE_ uF_ Bo dE! M hf_:=λc1 c2=>by
  have L:∀(K:r!),Mf [cr_,x,i] M K->Ak 3 Mf (Ab h! iX_) dE! M K:=λK h=>bV!;refine L _ (c3b h wi a! c2 (wi.nm i c1) λb hb=>?_);cases b with
  |true=>exact no λz=>z.2.2 (hb.mp rfl)
  |false=>
   have nw:¬Wn W.rows i x:=λz=>by have:=hb.mpr z;cases this
   have jk:∀(K:r!),Go [cr_,i,x,s] M K->Ak 4 Go uF! dE! M K:=λK h=>bV!;simp only[QA,KG];refine gH (jk _ (a8v h em! hi Y hs hl λM' rows' hg hL hF=>?_))
   .show"#*";exact⟨h1.sd,h2,h1.nn.1⟩
   .exact hR M' _ (λ_=>⟨rows',hg,rfl⟩) (λz=>absurd ⟨c1,c2,nw⟩ z) hL hF
 simp only[Au,Gx,Ut,wT,g1];by_cases c1:i∈W.its
 .rw[JC c1];simp only[KG,g2];by_cases c2:x∈W.its
  .rw[JC c2];exact X7 c1 (.inl c2)
  .rw[IN c2];simp only[JH,JT,g3];by_cases c3:x=root\/x=binn
   .rw[JC c3];exact X7 c1 (.inr c3)
   .rw[IN c3];exact no λz=>z.2.1.elim c2 c3
 .rw[IN c1];exact no λz=>c1 z.1
end
def Xw:WS:=(Ai uH_
 (Ai nG!
 (Ai nI!
 nI_)))
def Xv:WS:=uK_
def DJ:WS:=uN!
def Tb:WS:=(Ai jz!
 (Ai (Ao 6 aK!)
 (Ai (Dx nK! (Cs 7) DJ)
 (Ai uQ_
 uT!))))
def Xx:WS:=(Ai uV_
 (Ai jz!
 uW!))
abbrev knd(k:Str):Ae->Option Bool:=fT (f2 Ax bC_ (fC V!))
abbrev Ug:WT:=wT gW_
def c3z:Xr=Ai nD_ (Ai nF!
 (Au Al! Xw (Au Am_ nJ! (Au An! nJ_
  (Au An_ Xv Ao!))))):=rfl
section
variable{M:Mh}{R:D->Mh->Prop}{w:xY!}{rl:Addr->LR}{W:OW}{ρ:Ae}{pre:List D}
def c0x(h:qe_):knd k' ρ=some kN!:=by
 have e:Ah ey! H_=some V!:=by
  show pp!;show"#:";simp
 have:f2 Ax bC_ (fC po_) ρ=some (.bl kN!):=by
  show((lj!).bind λx=>Ah x H_).bind (λx=>Ax x po_)=_;rw[h];show(Ah ey! H_).bind _=_;rw[e];exact gU k k'
 unfold knd fT;rw[this];rfl
def p1(h:Ao_):f2 Ah y! x! ρ=some a:=by show(lj!).bind (λx=>Ah x a5!)=_;rw[h];exact ix1
def p2(h:Aa 2 ρ=some pq_):f2 Ah y! W_ ρ=some b:=by show(lj!).bind (λx=>Ah x bz!)=_;rw[h];exact ix2
def p3(h:Aa 2 ρ=some pr!):f2 Ah y! aw_ ρ=some c:=by show(lj!).bind (λx=>Ah x bh!)=_;rw[h];exact ix3
def anF{ft:ac_}{fu:WT}{q1 q2:WS}{R:o!}(h:yG_)(k:ex_):Au (Gx hI! fu) q1 q2 ρ M R:=by simp only[Au,Gx,Cv,h];exact k
def anT{ft:ac_}{fu:WT}{q1 q2:WS}{R:o!}{b:Bool}(h:yG!)(hu:∀K:Bool->Mh->Prop,K b M->fu ρ M K)(k1:Ap!)(k2:Ap_):Au (Gx hI! fu) q1 q2 ρ M R:=by
 simp only[Au,Gx,Cv,h,KG];refine hu _ ?_;cases b with
 |true=>rw[l_];exact k1 rfl
 |false=>rw[ak_];exact k2 rfl
def a4k(h:aa!)(h0:h3_)(h2:Ao_)(hk:ds_)(K:fN_)(hK:K (decide (a∈W.its)) M):Ug ρ M K:=by unfold Ug wT;rw[qP h h0 (p1 h2) hk];exact hK
def Da.sd(h:Da x):Sd x:=by
 obtain rfl|rfl|⟨a,b,rfl,_⟩:=h
 .exact iV _
 .exact iV _
 .exact .inr oe_
def Mr.sd(h:Mr x):Sd x:=by
 obtain rfl|⟨a,b,rfl,_⟩:=h
 .exact c1_
 .exact .inr oe_
def Ky.sd(h:Ky x):Sd x:=by
 obtain rfl|⟨a,b,c,rfl,_⟩:=h
 .exact c1_
 .exact .inr wf_
def Vk.setTx{qa:D->Addr}{l:ae_}{e:Nat}(O:z7!)(nd:n6!)(ha:eg!):Vk (Az M wt qf!) w rl oa! wt wn qa/\Tg M rl (Az M wt qf!) rl:=by
 have aw:∀b,rl b≠.wt->Az M wt qf! b=M b:=λb hb=>mup_ne λz=>hb (by rw[z];exact O.rt);refine⟨⟨?_,g0_,?_,fI_,O.rw_,O.rt,O.rn,aS!⟩,z9!⟩
 .rw[aw w qf_];exact O.mw
 .rw[mup_same,a6y nd ha];congr 2;apply LD;intro i _;show(i,if i=a then D.lst lk! else D.lst lc!)=(i,D.lst ((if i=a then l else W.txt i).map Bg));split<;>rfl
 .rw[p8_];exact O.mn
 .show"#2"
 .by_cases z:b=wt
  .rw[z,mup_same];simp
  .rw[kf!];show"#-"
def c2h{p v:Int}{R:o!}(h:aa!)(wi:By W)(ha:eg!)(hk:ds_)(h0:h3_)(h2:Aa 2 ρ=some kL!)(p0:0<=p)(p3':p<=3)
  (hR:∀M',Bt M' w rl (Tp W a kL_)->Tg M rl M' rl->R aH_ M'):Xv ρ M R:=by
 obtain⟨wt,wn,qa,O⟩:=h;obtain⟨e0,hw⟩:=O.mw;obtain⟨e2,hn⟩:=O.mn;obtain⟨hq,j2⟩:=O.mq a ha;have hi:=ixw (M:=M) (ρ:=ρ) (s:=eU_) h0 hw k3n;have hg:Bs M eE! a=some qg!:=by rw[gD hn hk,mO,IL ha]
 have Y:Eg (pl_).length p=some p.toNat:=by
  rw[wi.nl a ha];unfold Eg;rw[IL p0,a1!]
 have ii:Lc M qg! (.int p) (.int v)=some (Az M (qa a) (.lst kL_)):=by simp[Lc,hq,Y]
 have aw:∀b,rl b≠.q a->Az M (qa a) (.lst kL_) b=M b:=λb hb=>mup_ne λz=>hb wl_;have fin:=hR _ ⟨wt,wn,qa,⟨by rw[aw w qf_];exact O.mw,by rw[aw wt p8!];exact O.mt,by rw[p8_];exact O.mn,λi hi=>by
   by_cases c:i=a
   .subst c;refine⟨?_,j2⟩;rw[mup_same];simp[Tp]
   .obtain⟨g1,g2⟩:=O.mq i hi;refine⟨?_,g2⟩;rw[aw _ (by rw[g2];simpa using c),g1];simp[Tp,c],O.rw_,O.rt,O.rn,λb hb=>by
   by_cases z:b=qa a
   .rw[z,mup_same];simp
   .rw[kf!];exact O.live b hb⟩⟩ (λb _ J=>z8_)
 show Cd uJ_ gD_ (wl a6_) ρ M R;have e3:=p3 h2;have e2':=p2 h2;have e1:=p1 h2;have u9:∀K:D->Mh->Prop,w2 Bs nH_ cb! ρ M K=K qg! M:=λK=>by
  have st:∀{fo:WE} {fb:e!} {x y:D} (_:Aq_) (_:ll_) (K:r!),w2 Bs fo fM! ρ M K=(match Bs M x y with|some d=>K d M|none=>False):=λh1 h2 K=>by
   unfold w2;rw[h1];simp only[wl,h2]<;>rfl
  rw[st hi e1,hg]
 unfold Cd;simp only[wl,e3];rw[u9];simp only[wl,e2',ii,Dz];exact fin
def d3v{g:br_}{fo:WE}{fb:e!}(h1:Aq_)(h2:ll_)(K:r!):w2 g fo fM! ρ M K=(match g M x y with|some d=>K d M|none=>False):=by unfold w2;rw[h1];simp only[wl,h2]<;>rfl
def b7i{fx:e!}(h:aa!)(h0:h3_)(Y:fx ρ=some a)(hk:ds_)(ha:eg!)(K:r!):w2 Bs bl_ li! ρ M K=K (.lst eG_) M:=by obtain⟨wt,wn,qa,O⟩:=h;obtain⟨e0,hw⟩:=O.mw;obtain⟨e1,ht⟩:=O.mt;rw[d3v (ixw (M:=M) (ρ:=ρ) (s:=hT!) h0 hw k3t) Y,gD ht hk,mO,IL ha]
def d3z{q:fm_}:Ah (Bg q) H_=some q.1:=by simp[Bg,Ah,Dd,Eg]
def d1v{q:fm_}:Ah (Bg q) a5!=some q.2.1:=by simp[Bg,Ah,Dd,Eg]
def d1u{q:fm_}:Ah (Bg q) bz!=some qg_:=by simp[Bg,Ah,Dd,Eg]
def c5p{neg:Bool}(Y:Sd x)(hl:∀d∈l,Sd d):Il neg M x (.lst l)=some (.bl (if neg then !decide (x∈l)else decide (x∈l))):=by
 have e:Ar_=decide (x∈l):=by
  rw[LU,List.any_eq_true,JI];show"!D"
  .rintro⟨d,hd,he⟩;rw[mS (hl d hd) Y,JI]at he;rw[<-he];exact hd
  .intro h;exact⟨x,h,by rw[mS Y Y];simp⟩
 have n:∀l:List D,(∀d∈l,Sd d)->Br l=true/\Dj l<=5:=λl=>by
  induction l with
  |nil=>intro _;simp[Br,Dj]
  |cons a r ih=>
   intro h;obtain⟨i1,i2⟩:=ih λd hd=>h d (HZ _ hd)
   have h1:=eC (h a IH);have h2:=jT (h a IH);refine⟨by simp[Br,h1,i1],by simp[Dj];omega⟩
 obtain⟨n1,n2⟩:=n l hl;show Il.inS neg M x (.lst l)=_;show(if Bh x&&Br l&&decide (Dj l<=40)then some (D.bl (if neg=true then ! Ar_ else l.any λd=>Ed d x))else none)=_;rw[IL (by rw[eC Y,n1];simp;omega),e]
def b8k{fx:e!}{fv:WE}{l:ae_}{R:o!}(h:aa!)(nd:n6!)(hB:fX!<5000)(h0:h3_)(Y:fx ρ=some a)(hk:ds_)(ha:eg!)(hv:∀K:D->Mh->Prop,K lk_ M->fv ρ M K)
  (hR:∀M',Bt M' w rl oa!->Tg M rl M' rl->R aH_ M'):Cd bl_ li! fv ρ M R:=by
 show"!|";obtain⟨e0,hw⟩:=O.mw;obtain⟨e1,ht⟩:=O.mt;refine hv _ ?_;rw[ixw (M:=M) (ρ:=ρ) (s:=hT!) h0 hw k3t];have ii:=hV (y:=a) (v:=.lst lk!) ht hk fX_;simp only[wl,Y,ii,Dz];obtain⟨g1,g2⟩:=O.setTx (a:=a) (l:=l) (e:=Gb cU_ a e1) nd ha;exact hR _ Ag! g2
def nB{f:e!}{n:Nat}(h:f ρ=some (.int (n:Nat)))(hn:n<=100000):Eo f ρ=some ((oH_).map λi=>D.int bt!):=by unfold Eo;rw[h];show(if -1000<=qi!/\qi!<=100000 then some (Dp (qi!).toNat)else none)=_;rw[a1!];simp[Dp]
def c2j{g4 r5 r6 r7 r8:D}{x y z m:Int}{R:o!}(h:aa!)(wi:By W)(hB:fX!<5000)(ht:At_)(ha:eg!)(hk:ds_)(m1:1<=m)(m16:m<=16)
  (hR:∀M' ρ',Bt M' w rl (setT W a (cutT wD_ as_))->Tg M rl M' rl->R cT_ M'):
  Xx qi_ M R:=by
 have h2:∀o4 o5 o6 o7 o8 o9,Aa 2 qi_=some ew!:=λ_ _ _ _ _ _=>rfl;have hm:((m.toNat:Nat):Int)=m:=by omega
 have er:Eo a6_ qi_=some ((en!).map λi=>D.int bt!):=nB (by rw[p3 Aw!,hm]) a!;show Ai (Ao 9 (Bf 1 [2] (Hf _) _ _ _)) _ _ M R;simp only[Ai,Ao,Bf,Hf,er,Dz];refine dy!;refine cI dy_ (λd=>match d with|.int k=>.tup Ax_|_=>.non) trivial _ _ aZ_ ?_
 .obtain⟨k,cr,rfl⟩:=IS.mp hd;refine⟨cV!,rfl,ez_,dz!⟩;have e1:f2 Ah u_ W_ cV!=some em_:=by
   show Ah ew! bz!=_;exact ix2
  have uk:Bm em_ none (some 2)=some kb_:=by simp[Bm,Cr,HT.sIx]
  have e2:Ea gZ! As c7_ cV!=some kb_:=by
   unfold Ea;exact uk
  have e3:f2 Ah gZ! W_ cV!=some (.int z):=by
   show(f2 Ah u_ W_ cV!).bind (λv=>Ah v bz!)=_;rw[e1];rfl
  have e4:f2 An uU_ (Ba nL!) cV!=some (.tup [fs_,ft!,.int (z+aQ!)]):=by
   have e5:Ba nL! cV!=some (.tup [.int (z+aQ!)]):=by
    have:f2 An uV! q! cV!=some (.int (z+aQ!)):=by
     show(f2 Ah gZ! W_ cV!).bind (λv=>An v h4!)=_;rw[e3];rfl
    unfold Ba Ac;rw[this];rfl
   show(Ea _ _ _ _).bind (λu=>(Ba _ _).bind λv=>An u v)=_;rw[e2,e5];rfl
  exact hK
 rw[fJ_,JV];show w2 Bs bl_ cb! [some bs_,some x0,some ew!,some nm,o4,o5,o6,o7,o8,some (.lst ((en!).map Az!))] M _;have eg:(en!).map Az!=(en!).map λk=>D.tup hl!:=rfl;rw[eg];generalize hg:(en!).map (λk=>D.tup hl!)=cu at hR;have zn:∀d∈cu,Sd d:=λd hd=>by
  rw[<-hg]at hd;obtain⟨k,_,rfl⟩:=IS.mp hd;exact .inr (.inr (.inr ⟨[x,y,z+(k:Nat)],rfl⟩))
 rw[b7i (ρ:=[D_,K!,lm_,fY!,o4,o5,o6,o7,o8,some h4_]) h rfl (p1 Aw!) hk ha];refine b8k (l:=cutT cu as_) h wi.nd hB rfl ln! hk ha qk! λM' g1 g2=>hR M' _ g1 g2;have ei:Ei I! [D_,K!,lm_,fY!,o4,h5!,o6,o7,o8,some h4_]=some eG_:=rfl;refine dy!;refine cI dy_ (λd=>match d with|.tup [s,c,.bl b]=>Bg Az_|_=>.non) trivial _ _ aZ_ ?_
 .obtain⟨q,hq,rfl⟩:=IS.mp hd;have sq:Sd q.1:=(AA!).sd;refine⟨h6!,rfl,ez_,dz!⟩;have e0:f2 Ah q! G! h6!=some q.1:=d3z;have e1:f2 Ah q! x! h6!=some q.2.1:=d1v;have e2:f2 Ah q! W_ h6!=some qg_:=d1u;have e3:Aa 1 h6!=some h4_:=rfl;have e4:Il true M q.1 h4_=some (.bl (!decide (q.1∈cu))):=c5p sq zn;simp only[Ux,Ab,Af,wl,e0,e1,Iq,wT,e2];cases hb:q.2.2 with
  |true=>
   simp only[w2,wl,e0,e3,e4];refine⟨G_,?_⟩;have:K (Bg ol_) M:=by
    have:=hK;show"#H"
   rw[hb]at this;simpa[Bg]using this
  |false=>
   refine⟨G_,?_⟩;have:K (Bg ol_) M:=by
    have:=hK;show"#H"
   rw[hb]at this;simpa[Bg]using this
 .rw[fJ_,JV];have:(as_).map ((λd=>match d with|.tup [s,c,.bl b]=>Bg Az_|_=>D.non)∘Bg)=(cutT cu as_).map Bg:=by
   unfold cutT;rw[JV];rfl
  rw[this];exact hK
def ED(l:ae_)(b:D)(k a:Nat):Prop:=(a=0/\∀j<k,AA_≠some b)\/∃j<k,AA_=some b/\a=j+1
def a8x{o4:D}{l:ae_}(hl:Z!<5000)(hs:∀q∈l,Sd q.1)(hb:Sd b)(R:o!)(hR:∀(a:Nat) y,ED l b l.length a->R (.nx AB_) M):
  ∀(m k a:Nat) (y:al_),Z! - k=m->k<=Z!->ED l b k a->Jc (Cs 7) ah! DJ z4_ AB_ M R
 |0,k,a,y,hm,hk,ha=>⟨trivial,hR a y (by rw[show l.length=k by omega];exact ha)⟩
 |m+1,k,a,y,hm,hk,ha=>by
  have c1:k<Z!:=by omega
  refine aY!;show DJ dF! M _;have e1:l[k]?=some l[k]:=IM c1;have ea:f2 Ah I! aT! dF!=some (Bg l[k]):=by
   show Dd lk! aQ!=_;show"#:";simp[c1]
  have eb:f2 Ah y! W_ dF!=some b:=p2 rfl;have et:f2 Ax uM! dX_ dF!=some (.bl AC!):=by
   show((f2 Ah I! aT! dF!).bind λv=>Ah v H_).bind (λu=>(f2 Ah y! W_ dF!).bind λv=>Ax u v)=_;rw[ea,eb];show(Ah (Bg l[k]) H_).bind (λu=>Ax u b)=_;exact nR (hs _ hX!) hb
  have cond:fT uM_ dF!=some AC!:=by
   unfold fT;rw[et];rfl
  have es:f2 An aT! x! dF!=some p5!:=by
   show p5_;simp[An]
  by_cases z:(l[k]).1=b
  .refine z5_;exact a8x (o4:=o4) hl hs hb R hR m T! T! _ a! a! (.inr ⟨k,v!,by rw[e1];exact congrArg some z,rfl⟩)
  .refine jE z6! ?_;refine a8x (o4:=o4) hl hs hb R hR m T! a _ a! a! ?_;obtain⟨h1,h2⟩|⟨j,h1,h2,h3⟩:=ha
   .refine .inl ⟨h1,kn!⟩;by_cases y:j=k
    .rw[y,e1];exact λx=>z (JY x)
    .exact h2 j a!
   .exact z6_
def ED.wr{l:ae_}{a:Nat}(h:ED l b l.length a)(nd:(eB_).Nodup):wrT b nw l=l.take a++nw++l.drop a/\a<=Z!:=by
 obtain⟨rfl,h2⟩|⟨j,h1,h2,rfl⟩:=h
 .have nb:b∉l.map c!:=λz=>by
   obtain⟨j,hj⟩:=NU.mp z;rw[JM]at hj;have:j<Z!:=by
    cases e:l[j]? with
    |none=>rw[e]at hj;cases hj
    |some q=>exact(p6!).1
   exact h2 j this hj
  unfold wrT;rw[IA nb];simp
 .have hj:l[j]?=some l[j]:=IM h1;rw[hj]at h2;have hb:(cq_).1=b:=JY h2;have e:l=l.take j++l[j]::l.drop (j+1):=by rw[<-NB h1,LG]
  have nb:b∉(l.take j).map c!:=λz=>by
   rw[e]at nd;simp only[JF,II]at nd;rw[JJ]at nd;exact nd.2.2 _ z _ d! hb.symm
  have u9:b∈l.map c!:=by rw[<-hb];exact IJ (KQ h1)
  refine⟨?_,v!⟩;unfold wrT;rw[IL u9]
  conv=>lhs;rw[e]
  rw[xM hb nb,ND h1];simp only[KI,OL,JS]
def b4v(h n:Int)(s:Str):s.cps.toList.zipIdx.map eo!=(qk_).map λk=>(D.tup pm!,D.str ln_,true):=by
 apply QG;intro i;rw[JM,JM,List.getElem?_zipIdx];by_cases c:i<ho_
 .have c':i<aB!:=by simpa[Str.length]using c
  rw[IM c,List.getElem?_range c'];simp[sgn,List.getD,IM c];simp at c;simp[c]
 .have c':¬i<aB!:=by simpa[Str.length]using c
  rw[JZ a!,JZ bh_];rfl
def d3e{f g k:e!}(h1:lo!)(h2:lo_)(h3:k ρ=some c):Ba (Ac f AE!) ρ=some (.tup eN!):=by simp[Ba,Ac,Ag,h1,h2,h3]
def b1d{h n:Int}{s:Str}{R:o!}(hL:aa!)(wi:By W)(hB:fX!<5000)(ht:At_)(ha:eg!)(hk:ds_)(hb:Sd b)(s16:jT_)
  (hR:∀M' ρ',Bt M' w rl (setT W a (wrT b ep! as_))->Tg M rl M' rl->R cT_ M'):
  Tb ql_ M R:=by
 show Ai (Ao 5 (w2 Bs _ _)) _ ql_ M R;unfold Ai Ao;rw[b7i (ρ:=ql_) hL rfl ln! hk ha];show Dx nK! (Cs 7) DJ AF! M _;have er:Eo uL_ AF!=some ((List.range (as_).length).map λi=>D.int bt!):=nB (by
  show Bk [.lst eG_]=_;simp[Bk]) a!
 simp only[Dx,Hf,er,Dz,List.range_eq_range'];refine a8x (M:=M) (o4:=.non) ht (λq hq=>(AA!).sd) hb _ (λat_ y TX=>?_) (as_).length 0 0 none a! a! Ac_;obtain⟨ew,vb⟩:=TX.wr (nw:=s.cps.toList.zipIdx.map eo!) (wi.snd a ha);have cg:Eo uO_ [D_,K!,fZ!,bp!,y4,h5!,qm!,y,none,none]=some ((qk_).map λi=>D.int bt!):=nB (by
  show Bk [ep_]=_;simp[Bk,big];omega) a!
 simp only[Bf,Hf,cg,Dz];refine dy!;refine cI dy_ (λd=>match d with|.int k=>Bg AG!|_=>.non) trivial _ _ aZ_ ?_
 .obtain⟨k,cr,rfl⟩:=IS.mp hd;have hk2:=OJ.mp cr;refine⟨fZ_,rfl,ez_,dz!⟩;have e1:f2 An y! (Ba a4_) fZ_=some (.tup AI!):=rfl;have e2:f2 Ah u_ aw_ fZ_=some aO!:=by
   show Ah fA! bh!=_;exact ix3
  have L:k<ho_:=by simpa[Str.length]using hk2
  have e3:Ah aO! h4!=some (.str ln_):=by
   show(if aB!<=big then(Dd s.cps.toList aQ!).map _ else none)=_;rw[dv_];have:Dd s.cps.toList aQ!=some (s.cps.toList.getD k 0):=by
    show"#:";rw[a1!,a1!];simp only[NN,NI];rw[IM L,LK,IM L];rfl
   rw[this];rfl
  have e4:f2 Ah nD! q! fZ_=some (.str ln_):=by
   show(f2 Ah u_ aw_ fZ_).bind (λv=>Ah v h4!)=_;rw[e2];exact e3
  have e5:Ba uP_ fZ_=some (Bg (.tup AI!,.str ln_,true)):=by
   exact d3e e1 e4 rfl
  simp only[wl,e5];exact hK
 rw[fJ_,JV];have en:(qk_).map ((λd=>match d with|.int k=>Bg AG!|_=>D.non)∘λi=>D.int bt!)=(ep!).map Bg:=by
  rw[b4v,JV];apply LD;intro k _;simp
 rw[en];show Cd bl_ _ _ [D_,K!,fZ!,bp!,y4,h5!,qm!,y,some (.lst ((ep!).map Bg)),none] M _;have hnl:(ep!).length=aB!:=by simp[Str.length]
 refine b8k (l:=wrT b ep! as_) hL wi.nd hB rfl ln! hk ha qk! λM' g1 g2=>hR M' _ g1 g2;generalize hnw:s.cps.toList.zipIdx.map eo!=nw at *;have s1:Ea I! As ff! qn_=some qo!:=c2p lg!;have s2:Ea I! ff! As qn_=some AK!:=a8j lg!;have b1:An qo! lp!=some AK_:=by
  show hD_;rw[lg_]
 have b2:An AK_ AK!=some AL!:=by
  show hD_;rw[lg_,ew];simp
 have ev:f2 An uR_ uS_ qn_=some AL!:=by
  show((Ea I! As ff! _).bind λu=>An u lp!).bind (λu=>(Ea I! ff! As _).bind λv=>An u v)=_;rw[s1,s2];show(An qo! lp!).bind (λu=>An u _)=_;rw[b1];exact b2
 simp only[wl,ev];exact hK
def dA{f:e!}(h:cL!)(K:r!):wl f ρ M K=K d M:=by simp only[wl,h]
def c2i{h n:Int}{R:o!}(hL:aa!)(wi:By W)(hB:fX!<4000)(hl:ci_<3900)(hn:AM!)(ha:Sd a)(hk:ds_)(hb:Sd b)
  (hR:∀M' ρ' ae rows',Rm W.rows af! ds! b rows'->Bt M' w ae (Gi W af! rows')->Tg M rl M' ae->R cT_ M'):
  Xw h7_ M R:=by
 obtain⟨wt,wn,qa,O⟩:=id hL;obtain⟨e0,hw⟩:=O.mw;obtain⟨e1,ht⟩:=O.mt;obtain⟨e2,xk⟩:=O.mn;have bc:∀{c d:xY!},rl c≠rl d->c≠d:=λh z=>h kh_;have X8:w≠wt:=bc (by rw[O.rw_,O.rt];simp);have wwn:w≠wn:=bc (by rw[O.rw_,O.rn];simp);have tn:wt≠wn:=bc (by rw[O.rt,O.rn];simp);show Ai (Ao 4 (Wf (w2 bA_ _ _) _)) _ h7_ M R;unfold Ai Ao Wf wT;rw[qP (ρ:=h7_) hL rfl ln! hk];have er:f2 Ax e4_ gs! h7_=some (.bl AN_):=by
  show(f2 Ah y! x! h7_).bind (λu=>Ax u gr_)=_;exact nR ha (iV _)
 have key:∀g:Bool,(g=true↔(a∈W.its\/a=root))->
   Ai nG! (Ai nI! nI_)
    (b4!) M R:=by
  intro g hg;have gb:De af!=some (some (.inr [.inl h,.inl n])):=rfl;unfold Ai Cd;have f3:∀g',Aa 3 [D_,K!,some ev_,bp!,some (.bl g'),none,none,none,none,none]=some af!:=λ_=>rfl;have fl:Dw Ag b4!=some cS_:=rfl;rw[dA fl];rw[ixw (M:=M) (ρ:=b4!) (s:=hT!) rfl hw k3t];have ii:=hV (y:=hp!) (v:=lp_) ht gb fX_;simp only[wl,f3,ii,Dz];rw[a0j hn];generalize hM1:Az M wt AO!=M1;have X9:M1 w=some (.dct hZ! e0):=by rw[<-hM1,mup_ne X8];exact hw
  have X':M1 wn=some (.dct h8! e2):=by rw[<-hM1,mup_ne (IB tn)];exact xk
  have TY:M1 wt=some AO!:=by rw[<-hM1];exact mup_same
  have m1:∀c,c≠wt->M1 c=M c:=λc L=>by rw[<-hM1];exact mup_ne L
  refine⟨U!,kW_⟩;have qw:w≠q:=aU (by rw[X9];simp) hq;have qt:wt≠q:=aU (by rw[TY];simp) hq;have qn:wn≠q:=aU (by rw[X'];simp) hq;have m2w:Az M1 q eq! w=some (.dct hZ! e0):=(mup_ne qw).trans X9;have m2n:Az M1 q eq! wn=some (.dct h8! e2):=(mup_ne qn).trans X';show w2 Bs h! jx! b4! (Az M1 q eq!) _;rw[ixw (M:=Az M1 q eq!) (ρ:=b4!) (s:=eU_) rfl m2w k3n];have hpm2:=hV (y:=hp!) (v:=.fn q) m2n gb fX_;simp only[wl,f3,hpm2,Dz];rw[a0j hn];generalize xm:Az (Az M1 q eq!) wn AO_=M3;have Mq:∀c,M c≠none->c≠q:=λc L=>by
   by_cases z:c=wt
   .rw[z];exact qt
   .exact aU (N:=M1) (by rw[m1 c z];exact L) hq
  have m3:∀c,c≠wt->c≠q->c≠wn->M3 c=M c:=λc h1 h2 h3=>by rw[<-xm,oh!,cL_,m1 c h1]
  have YA:M3 wt=M1 wt:=by rw[<-xm,mup_ne tn,mup_ne qt]
  have YB:M3 wn=some AO_:=by rw[<-xm];exact mup_same
  have YC:M3 q=some eq!:=by rw[<-xm,mup_ne (IB qn),mup_same]
  have m3w:M3 w=M w:=m3 w X8 qw wwn
  let kh:D->Addr:=λi=>if i=.tup U_ then q else qa i
  let ae:Addr->LR:=λc=>if c=q then .q af! else rl c
  have ac:∀c,M c≠none->ae c=rl c:=λc L=>IA (Mq c L);have lw:M w≠none:=by rw[hw];simp
  have lt:M wt≠none:=by rw[ht];simp
  have ln:M wn≠none:=by rw[xk];simp
  have TZ:Bt M3 w ae (Gi W af! W.rows):=by
   refine⟨wt,wn,kh,⟨⟨e0,by rw[m3w];exact hw⟩,⟨Gb cU_ af! e1,?_⟩,⟨Gb h8! af! e2,?_⟩,fI_,(ac w lw).trans O.rw_,(ac wt lt).trans O.rt,(ac wn ln).trans O.rn,kI_⟩⟩
   .rw[YA,TY];congr 2;show _=(AQ!).map _;rw[JF];congr 1
    .apply LD;intro i hi;show(i,D.lst lc!)=(i,D.lst ((if i=.tup U_ then[]else W.txt i).map Bg));rw[AQ_]
    .show[(D.tup U_,D.lst [])]=[(D.tup U_,D.lst ((if D.tup U_=.tup U_ then[]else W.txt af!).map Bg))];rw[l_];rfl
   .rw[YB];congr 2;show _=(AQ!).map _;rw[JF];congr 1
    .apply LD;intro i hi;show(i,D.fn fU_)=(i,D.fn (if i=.tup U_ then q else qa i));rw[AQ_]
    .show[(D.tup U_,D.fn q)]=[(D.tup U_,D.fn (if D.tup U_=.tup U_ then q else qa af!))];rw[l_]
   .have b9:i∈W.its++[D.tup U_]:=hi;obtain z|z:=IK.mp b9
    .obtain⟨g1,g2⟩:=O.mq i z;have ni:i≠.tup U_:=λy=>hn (y▸z);have eq:kh i=qa i:=IA ni;have lq:M fU_≠none:=by rw[g1];simp
     rw[eq];refine⟨?_,(ac _ lq).trans g2⟩;rw[m3 _ (bc (by rw[g2,O.rt];simp)) (Mq _ lq) (bc (by rw[g2,O.rn];simp)),g1];show some (Pe.lst j5!)=some (Pe.lst (if i=.tup U_ then _ else W.num i));rw[IA ni]
    .rw[IR]at z;subst z;have eq:kh af!=q:=IL rfl;rw[eq];refine⟨?_,l_⟩;rw[YC];show _=some (Pe.lst (if D.tup U_=.tup U_ then[.int 0,.int 0,.int 0,.int 0]else _));rw[l_]
   .by_cases z:c=q
    .rw[z,YC];simp
    .have bq:rl c≠.oth:=by rw[<-(IA z:ae c=rl c)];exact L
     have lc:=O.live c bq;by_cases z1:c=wt
     .rw[z1,YA,TY];simp
     .by_cases z2:c=wn
      .rw[z2,YB];simp
      .rw[m3 c z1 z z2];exact lc
  have F1:Tg M rl M3 ae:=λc L J=>⟨m3 c (bc (by rw[J,O.rt];simp)) (Mq c L) (bc (by rw[J,O.rn];simp)),(ac c L).trans J⟩;have ep:Mi (fT P_) e4_ iM! b4!=some ds!:=by
   have e4:fT P_ b4!=some g:=rfl;unfold Mi;show(if g=true then f2 Ah y! x! b4! else some binn)=_;rw[p1 (k:="put") (a:=a) (r:=[b]) rfl];by_cases c:a∈W.its\/a=root
   .rw[IL (hg.mpr c),IL (c.elim .inl λz=>.inr dk_)]
   .rw[IA λz=>c (hg.mp z)];by_cases c2:Fs W a
    .rw[IL c2];obtain z|z|z:=c2
     .exact absurd dk_ c
     .exact absurd fl_ c
     .rw[z]
    .rw[IA c2]
  have eb:f2 Ah y! W_ b4!=some b:=p2 rfl;have f0:Aa 0 b4!=some bs_:=rfl;have L:∀(K:r!),Go [cr_,hp!,ds!,b] M3 K->Ak 4 Go uJ! b4! M3 K:=λK hK=>by
   simp only[Ak,Ab,Af,wl,f0,f3,ep,eb];exact⟨rfl,hK⟩
  refine gH (L _ (a8v TZ em! (.inr (.inr (.inr ⟨[h,n],rfl⟩))) (by split;exact ha;exact iV _) hb (by show ci_<_;omega) λM' rows' sy cy hF'=>?_))
  .obtain⟨z1,z2,_⟩:=kO wi q hq;exact⟨z1.sd,z2,z1.nn.1⟩
  .exact hR M' _ ae rows' sy cy (F1.trans hF')
 by_cases c:a∈W.its
 .rw[JC c];exact key true (by simp[c])
 .rw[IN c];simp only[wl,er];exact key AN_ (by simp[c])
end
structure Sj(W:OW)(hc:Nat):Prop where
 rows:ci_<=hc
 its:fX!<=hc
 txt:∀x,(aG!).length<=hc
def Rm.len{rows rows':i_}(h:g8!):rows'.length<=rows.length+1:=by
 obtain⟨u,v,e1,e2,_⟩:=h;have h1:(ef!).length<=rows.length:=by unfold wo;exact NX _ _
 rw[e1,IT]at h1;rw[e2,IT,IQ];omega
def Sj.stp{W:OW}{hc:Nat}(l:cV_)(h:qq!):Sj W' bo_:=by
 have l1:=l.rows;have l2:=l.its;have l3:=l.txt;have same:Sj W bo_:=⟨v!,v!,λx=>by have:=l3 x;omega⟩;cases h with
 |put _ _ hg=>
  have:=hg.len;refine⟨by show _<=_;unfold Gi;simp only;omega,by unfold Gi;simp only[IT,LQ];omega,jW_⟩;unfold Gi;simp only;split
  .simp
  .have:=l3 x;omega
 |mvY _ _ _ _ hg=>
  have:=hg.len;exact AS!
 |mvN=>exact same
 |drY _ _ hg=>
  have:=hg.len;exact AS!
 |drN=>exact same
 |@wrt a b s h m _ _ hs e=>
  split
  .refine AS_;unfold setT;simp only;split
   .obtain⟨u,v,e1,e2,_⟩:=rD b hG_ as_;have:=l3 a;rw[e1,IT]at this;rw[e2];have bu:ho_<=16:=hs;simp only[IT,IP,RQ];omega
   .have:=l3 x;omega
  .exact same
 |cut=>
  split
  .refine AS_;unfold setT;simp only;split
   .unfold cutT;rw[IP];exact same.txt _
   .exact same.txt x
  .exact same
 |set=>
  split
  .exact⟨same.rows,same.its,same.txt⟩
  .exact same
section
variable{M:Mh}{R:D->Mh->Prop}{w:xY!}{rl:Addr->LR}{W:OW}{ρ:Ae}{pre:List D}
def uO{i:Nat}{f:e!}{q:WS}{R:o!}(h:cL!)(k:q bW_ M R):Ai (Ao i (wl f)) q ρ M R:=by unfold Ai Ao;rw[dA h];exact k
def c7s{g:WF}{f1 f2 f3 f4:e!}{K:r!}(h1:es_)(h2:hu_)(h3:pr_)(h4:f4 ρ=some d)(k:g [a,b,c,d] M K):Ak 4 g yI_ ρ M K:=by unfold Ak Ab Af;rw[dA h1,dA h2,dA h3,dA h4];exact qq_
def kT(h:qe_)(e:(k==k)=true):knd k ρ=some true:=by rw[c0x h,e]
def kF(h:qe_)(e:kN!=false):knd k' ρ=some false:=by rw[c0x h,e]
def GV:WS:=Au An_ Xv Ao!
def GW:WS:=Au Am_ nJ! (Au An! nJ_ GV)
def Zm:WS:=Au Al! Xw GW
def c3y:Xr=Ai nD_ (Ai nF! Zm):=c3z
def Tc(w:xY!)(x0 d nm:D):Ae:=[D_,K!,some d,fY!,none,none,none,none,none,none]
def dv0:Aa 0 AU_=some bs_:=rfl
def oG:Aa 2 AU_=some d:=rfl
def Zz(W:OW)(M:Mh)(w:xY!)(rl:dD!)(n d:D)(R:o!):Prop:=∀M' ae W' ρ',Te W n d W'->Bt M' w ae W'->Tg M rl M' ae->R cT_ M'
def d0i{h n:Int}{hc:Nat}{R:o!}(hL:aa!)(wi:By W)(az:cV_)(hB:eH_)(hn:AM!)(ha:Da a)(hb:Mr b)
  (hR:Zz W M w rl af! ev_ R):Zm (Tc w x0 ev_ af!) M R:=by
 show"!1";have l1:=az.rows;have l2:=az.its;refine ifT (kT oG c0z) ?_;exact c2i hL wi a! a! hn ha.sd bm hb.sd λM' ρ' ae rows' hg cy hF=>hR M' ae _ ρ' (.put ha hb hg) cy hF
def c6b{hc:Nat}{R:o!}(hL:aa!)(wi:By W)(az:cV_)(hB:eH_)(ha:Da a)(hb:Da b)(L:Mr c)
  (hR:Zz W M w rl nm hz! R):Zm (Tc w x0 hz! nm) M R:=by
 show"!1";obtain⟨kb,lf⟩:=cO hb;have l1:=az.rows;refine jE (kF oG jG) ?_;refine ifT (kT oG a4a) ?_;refine gH (c7s dv0 (p1 oG) (p2 oG) (p3 oG) ?_);refine a8u hL wi a! ha.sd hb.sd L.sd bm lf λM' W' h1 h2 cy hF=>?_;by_cases g:a∈W.its/\Fs W b/\¬Wn W.rows a b
 .obtain⟨rows',hg,e⟩:=h1 g;rw[e]at cy;exact hR M' rl _ _ (.mvY ha hb L g hg) cy hF
 .rw[h2 g]at cy;exact hR M' rl _ _ (.mvN ha hb L g) cy hF
def c6c{hc:Nat}{R:o!}(hL:aa!)(wi:By W)(az:cV_)(hB:eH_)(ha:Da a)
  (hR:Zz W M w rl nm hA! R):Zm (Tc w x0 hA! nm) M R:=by
 show"!1";have l1:=az.rows;refine jE (kF oG jH) ?_;refine jE (kF oG iQ) ?_;refine ifT (kT oG a4b) ?_;refine gH (c7s (c:=binn) (d:=.non) dv0 (p1 oG) rfl rfl ?_);refine a8u (kx:=ps!) hL wi a! ha.sd (iV _) ai_ bm rfl λM' W' h1 h2 cy hF=>?_;by_cases g:a∈W.its/\Fs W binn/\¬Wn W.rows a binn
 .obtain⟨rows',hg,e⟩:=h1 g;rw[e]at cy;exact hR M' rl _ _ (.drY ha g hg) cy hF
 .rw[h2 g]at cy;exact hR M' rl _ _ (.drN ha g) cy hF
def d0h{p v:Int}{hc:Nat}{R:o!}(hL:aa!)(wi:By W)(az:cV_)(hB:eH_)(ha:Da a)(h0:0<=p)(h3:p<=3)
  (hR:Zz W M w rl nm kL! R):Zm (Tc w x0 kL! nm) M R:=by
 show"!1";have st:=Te.set (W:=W) (n:=nm) (v:=v) ha h0 h3;refine jE (kF oG oZ) ?_;refine jE (kF oG mK) ?_;refine jE (kF oG mL) ?_;refine anT (kT oG c0y) qr_ dF_ dF_
 .show"#?";exact c2h hL wi c' bm dv0 oG h0 h3 λM' cy hF=>hR M' rl _ _ st cy hF
 .show"#>";refine anF (kF oG lC) ?_;refine anF (kF oG pA) ?_;show"#6"
def c2g{h n:Int}{s:Str}{hc:Nat}{R:o!}(hL:aa!)(wi:By W)(az:cV_)(hB:eH_)(ha:Da a)(hb:Ky b)(hs:jT_)
  (hR:Zz W M w rl af! fA! R):Zm (Tc w x0 fA! af!) M R:=by
 show"!1";have l2:=az.its;have l3:=az.txt a;have st:=Te.wrt (W:=W) (n:=hp!) ha hb hs rfl;refine jE (kF oG lB) ?_;refine jE (kF oG jR) ?_;refine jE (kF oG jS) ?_;refine anF (kF oG a3t) ?_;refine anT (kT oG a7h) qr_ dF_ dF_
 .show"#?";exact b1d hL wi a! a! c' bm hb.sd hs λM' ρ' cy hF=>hR M' rl _ _ st cy hF
 .show"#>";refine anF (kF oG a3u) ?_;show"#6"
def d0j{x y z m:Int}{hc:Nat}{R:o!}(hL:aa!)(wi:By W)(az:cV_)(hB:eH_)(ha:Da a)(h0:0<=z)(h1:1<=m)(h2:z+m<=16)
  (hR:Zz W M w rl nm ew! R):Zm (Tc w x0 ew! nm) M R:=by
 show"!1";have l2:=az.its;have l3:=az.txt a;have st:=Te.cut (W:=W) (n:=nm) (x:=x) (y:=y) ha h0 h1 h2;refine jE (kF oG pB) ?_;refine jE (kF oG mM) ?_;refine jE (kF oG mN) ?_;refine anF (kF oG b0t) ?_;refine anF (kF oG lD) ?_;refine anT (kT oG c1a) qr_ dF_ dF_
 .show"#?";exact c2j (g4:=nm) (r5:=nm) (r6:=nm) (r7:=nm) (r8:=nm) hL wi a! a! c' bm h1 a! λM' ρ' cy hF=>hR M' rl _ _ st cy hF
 .show"#>";show"#6"
def c8s(o:Op):Ah o.v bh!=some o.d:=by simp[Op.v,Ah,Dd,Eg]
def jN(o:Op):Ah o.v H_=some cr!:=by simp[Op.v,Ah,Dd,Eg]
def oS(o:Op):Ah o.v a5!=some (.int o.n):=by simp[Op.v,Ah,Dd,Eg]
def c7p{f g:e!}(h1:lo!)(h2:lo_):Ba (Ac f (Ac g Ag)) ρ=some h0!:=by simp[Ba,Ac,Ag,h1,h2]
def d1i{o:Op}{hc:Nat}(hL:aa!)(hw:fH!)(hn:o.nm∉pre)(hd:DG o.d)(hu:Hi o.d=none)(az:cV_)(hB:eH_)
  (hR:∀M' ae W',Te W o.nm o.d W'->Bt M' w ae W'->Tg M rl M' ae->R .non M'):Wa [cr_,o.v] M R:=by
 refine j_;rw[c3y];have e3:f2 Ah u_ aw_ AY_=some o.d:=c8s o;refine uO (ρ:=AY_) e3 ?_;have e0:Ba uG_ AZ_=some o.nm:=c7p (jN o) (oS o);refine uO (ρ:=AZ_) e0 ?_;generalize hK:xg!=K;have ie:Zz W M w rl o.nm o.d K:=λM' ae W' ρ' h1 h2 h3=>by rw[<-hK];exact hR M' ae W' h1 h2 h3
 have vi:o.nm∉W.its:=λz=>hn (hw.its _ z);clear hR hK e3 e0 hn;obtain⟨h,n,tm,d⟩:=o;generalize Op.v ⟨h,n,tm,d⟩=v;change Zm (Tc w v d af!) M K;change Zz W M w rl af! d K at ie;change D.tup U_∉W.its at vi;change DG d at hd;change Hi d=none at hu;cases hd with
 |put ha hb=>exact d0i hL hw.inv az hB vi ha hb ie
 |move ha hb L=>exact c6b hL hw.inv az hB ha hb L ie
 |drop ha=>exact c6c hL hw.inv az hB ha ie
 |write ha hb _ _ hs=>exact c2g hL hw.inv az hB ha hb hs ie
 |cut ha hs h1 h2=>
  obtain⟨_,_,_,e,_,_,_,_,z0,_⟩:=hs;cases e;exact d0j hL hw.inv az hB ha z0 h1 h2 ie
 |set ha h1 h2 _=>exact d0h hL hw.inv az hB ha h1 h2 ie
 |undo _=>rw[zJ]at hu;exact absurd hu (by simp[show px_=true from by decide+kernel])
 |redo _=>rw[zJ]at hu;exact absurd hu (by simp[show py!=true from by decide+kernel])
end
def Sj.mono{W:OW}{hc B':Nat}(l:cV_)(h:hc<=B'):Sj W B':=⟨JL l.rows h,JL l.its h,λx=>JL (l.txt x) h⟩
section
variable{M:Mh}{R:D->Mh->Prop}{w:xY!}{rl:Addr->LR}{W:OW}{ρ:Ae}{pre:List D}
def Bt.keep{M':Mh}(h:aa!)(k:zB!):Bt M' w rl W:=by
 show"!|";refine⟨wt,wn,qa,⟨?_,?_,?_,fI_,O.rw_,O.rt,O.rn,aS!⟩⟩
 .rw[k w qf_];exact O.mw
 .rw[k wt p8!];exact O.mt
 .rw[k wn z9_];exact O.mn
 .obtain⟨h1,h2⟩:=O.mq i hi;exact⟨(k _ p9!).trans h1,h2⟩
 .rw[k b hb];show"#-"
def Bt.live(h:aa!)(hb:rl b≠.oth):M b≠none:=by obtain⟨wt,wn,qa,O⟩:=h;exact O.live b hb
def d3i{ep:Nat}{fo fa fb:e!}(hp:bY_)(h0:lq_)(h1:qs!)(h2:fb ρ=some z)(hk:co!)(K:r!)(hK:K ((h3!).getD z) M):Ip dr_ hQ! fM! ρ M K:=by
 have c:Ee M A_=some k7_:=by simp[Ee,hp]
 simp only[Ip,wl,h0,h1,h2,c,Dz,hk];exact hK
def gJ{g:WF}{f1 f2:e!}{K:r!}(h1:es_)(h2:hu_)(k:g aj_ M K):Ak 2 g xh! ρ M K:=by unfold Ak Ab Af;rw[dA h1,dA h2];exact qq_
def b4i{g:WF}{f1:e!}{K:r!}(h1:es_)(k:g [a] M K):Ak 1 g (Ab et! Af) ρ M K:=by unfold Ak Ab Af;rw[dA h1];exact qq_
def GI:WT:=Gx uZ_ u1!
def GJ:WS:=Au GI u2! Bo
def d3a{ft:WT}{q1 q2:WS}{b:Bool}{R:o!}(h:A0!)(k1:Ap!)(k2:Ap_):Au ft q1 q2 ρ M R:=by
 refine h _ ?_;cases b with
 |true=>rw[l_];exact k1 rfl
 |false=>rw[ak_];exact k2 rfl
def c3e{ft fu:WT}{b:Bool}{c:Bool}(h:A0!)(h2:b=true->∀K:Bool->Mh->Prop,K c M->fu ρ M K)(K:fN_)(hK:K (b&&c) M):Gx ft fu ρ M K:=by
 refine h _ ?_;cases b with
 |true=>rw[l_];exact h2 rfl K (by simpa using hK)
 |false=>rw[ak_];simpa using hK
def c5b{e0:Nat}{x:Op}(lg:A1!)(hd:DG x.d)(hp:M p=some (.dct kb e0))(K:fN_)
  (hK:K (decide A1_) M):GI qt_ M K:=by
 obtain⟨k,r,e,hn,hs⟩:=d3l hd;have i0:f2 Ah m5_ G! qt_=some V!:=c1g e;have hu:(! p1_)=decide qu!:=by
  cases hu:Hi x.d with
  |none=>
   obtain⟨h1,h2⟩:=hn hu;rw[zS!,zS_,h1,h2];rfl
  |some u=>
   obtain⟨g1,g2,hk,jc⟩:=hs u hu;rw[b1u hk];rfl
 obtain⟨kn,gb⟩:=b0j x;have hz:(∃b:Bool,(kget kb x.nm).getD S_=.bl b/\(b=true↔kget wd x.nm=some ca!)):=by
  obtain⟨h1,h2⟩|⟨k',h1,h2⟩:=lg x.nm
  .exact⟨false,by rw[h2];rfl,by rw[h1];simp⟩
  .refine⟨k'=="undo",by rw[h2];rfl,?_⟩;rw[h1];show"!D"
   .intro z;rw[eq_of_beq z]
   .intro z;rw[D.str.inj (JY z)];exact LZ _
 obtain⟨b,hb1,YD⟩:=hz;have e2:Ba u0_ qt_=some x.nm:=c7p (jN x) (oS x);refine c3e (b:=decide qu!) (c:=!b) (λK' uw=>?_) (λ_ K' uw=>?_) K ?_
 .unfold wT w2;rw[dA i0,dA (f:=fC uo_) rfl,a7q];rw[hu];exact uw
 .unfold Mj wT;refine d3i hp rfl e2 rfl gb _ ?_;rw[hb1];exact uw
 .have:(decide qu!&&!b)=decide A1_:=by
   by_cases c1:Hi x.d=none
   .by_cases c2:kget wd x.nm=some ca!
    .rw[YD.mpr c2];simp[c2]
    .have:b=false:=by
      cases b with
      |true=>exact absurd (YD.mp rfl) c2
      |false=>rfl
     rw[this,JC c1,JC (⟨c1,c2⟩:_/\_)];rfl
   .rw[IN c1,IN λz:_/\_=>c1 z.1];rfl
  rw[this];exact hK
def a3e{e0:Nat}(lg:A1!):
  ∀(os:h_) (x1:D) (y:al_) (M:Mh) (rl:dD!) (W:OW) (pre:c_) (hc:Nat) (R:o!),(∀x∈os,DG x.d)->zx_->(pP!).Nodup->Bt M w rl W->Uw W pre->Sj W hc->hc+20*aI!<3800->M p=some (.dct kb e0)->rl p=.oth->
   (∀M' ae W' y',Wx W pP_ W'->Bt M' w ae W'->zy!->Sj W' (hc+20*aI!)->Tg M rl M' ae->R (.nx [R!,D_,ag_,y']) M')->
   Jc Q! ah! GJ at! [R!,D_,ag_,y] M R
 |[],x1,y,M,rl,W,pre,hc,R,_,_,_,hL,hw,az,_,_,_,hR=>⟨trivial,hR M rl W y .nil hL ⟨pre,hw⟩ (az.mono a!) .refl⟩
 |x::os,x1,y,M,rl,W,pre,hc,R,hd,hp,nd,hL,hw,az,hB,xo,j0,hR=>by
  refine aY!;simp only[IQ]at hB hR;rw[II,IV]at nd;have jx:=hd x IH;refine d3a (c5b lg jx xo) dF_ dF_
  .have c':=KS c;have ee:Ro wd hV!=x::Ro wd os:=by unfold Ro;rw[KU A3!]
   refine gH (gJ rfl rfl (d1i hL hw k5_ jx c'.1 az a! λM1 dq W1 hs TZ hF=>?_));have hq:=hF p (by rw[xo];simp) j0;refine a3e lg os x1 pQ! M1 dq W1 (pre++[x.nm]) bo_ R pQ_ zA! nd.2 TZ (b7l hs hw k5_) (az.stp hs) a! (hq.1.trans xo) hq.2 (λM' ae W' y' g1 g2 g3 g4 g5=>hR M' ae W' y' (by rw[ee];exact .cons hs g1) g2 g3 A3_ (hF.trans g5));obtain z|z:=IK.mp z
   .exact hp y ec_ z
   .rw[IR]at z;exact nd.1 zA_
  .have c':=PR c;have ee:Ro wd hV!=Ro wd os:=by unfold Ro;rw[KW A3!]
   exact a3e lg os x1 pQ! M rl W pre bo_ R pQ_ pR! nd.2 hL hw (az.mono a!) a! xo j0 (λM' ae W' y' g1 g2 g3 g4 g5=>hR M' ae W' y' (by rw[ee];exact g1) g2 g3 A3_ g5)
def d4h{N:Mh}(h1:N w=none)(h2:Az N w C_ wt=none)(h3:Az qu_ wt C_ wn=none):
  ∃rl,Bt (Az A4_ w A5!) w rl W0/\(∀b,N b≠none->Az A4_ w A5! b=N b/\rl b=.oth)/\Az A4! wn C_ w=some C_:=by
 have e1:w≠wt:=aU (N:=Az N w C_) pK! h2;have e2:w≠wn:=aU (N:=qv!) (by rw[mup_ne e1,mup_same];simp) h3;have e3:wt≠wn:=aU (N:=qv!) pK! h3;have ac:∀b,N b≠none->b≠w/\b≠wt/\b≠wn:=λb hb=>by
  have a1:b≠w:=aU hb h1;have a2:b≠wt:=aU (N:=Az N w C_) (by rw[ia!];exact hb) h2;exact⟨a1,a2,aU (N:=qv!) (by rw[mup_ne a2,ia!];exact hb) h3⟩
 refine⟨λc=>if c=w then .w else if c=wt then .wt else if c=wn then .wn else .oth,⟨wt,wn,λ_=>w,⟨⟨3,mup_same⟩,qv_,qv_,aq!,l_,?_,?_,aS!⟩⟩,aS!,?_⟩
 .rw[mup_ne (IB e1),mup_ne e3,mup_same];rfl
 .rw[mup_ne (IB e2),mup_same];rfl
 .show(if wt=w then _ else _)=_;rw[IA (IB e1),l_]
 .show(if wn=w then _ else _)=_;rw[IA (IB e2),IA (IB e3),l_]
 .by_cases a1:b=w
  .rw[a1,mup_same];simp
  .rw[ia!];by_cases a3:b=wn
   .rw[a3,mup_same];simp
   .rw[mup_ne a3];by_cases a2:b=wt
    .rw[a2,mup_same];simp
    .exact absurd (by simp[a1,a2,a3]) hb
 .obtain⟨a1,a2,a3⟩:=ac b hb;exact⟨by rw[ia!,mup_ne a3,mup_ne a2,ia!],by simp[a1,a2,a3]⟩
 .rw[mup_ne e2,mup_ne e1,mup_same]
def d1h:Sj W0 0:=⟨IW _,IW _,λ_=>IW _⟩
def d2z:((hY_).map c!).Nodup:=by
 refine IV.mpr ⟨?_,IV.mpr ⟨?_,A7_⟩⟩
 .intro z;obtain z|z:=HY.mp z
  .exact c7b z
  .exact c7c qw_
 .intro z;exact c6z qw_
def c5f:∀q∈k3 a b c,(De q.1).isSome=true:=λq hq=>by
 obtain rfl|hq:=HY.mp hq
 .rfl
 .obtain rfl|hq:=HY.mp hq
  .rfl
  .rw[IR.mp hq];rfl
def b5f:Vw=Ai uY_
 (Ai uZ!
 (Ai (Dx nz_ Q! GJ)
 cz!)):=rfl
def c6d{f:WE->WS}{ρ:Ae}{K:r!}(hK:∀w M' rl,M w=none->Bt M' w rl W0->pH_->K bs_ M'):
  Ph uX_ ρ M K:=by
 intro w hw;refine pc (x:=.str "rows") rfl ?_;rw[dA (f:=Dw Ag) (d:=lp_) rfl];refine pc (x:=.str "texts") rfl ?_;intro wt ht;refine pc (x:=A8!) rfl ?_;intro wn hn;obtain⟨rl,h1,h2,h3⟩:=d4h hw ht hn;exact⟨h3,by show 3<=1000;decide,c5f,d2z,hK w _ rl hw h1 h2⟩
def c3a{ops:h_}(nd:eA_)(nn:zD!)(hl:dz_)(hd:hN_)
  (hR:∀w M' rl W',M w=none->Wx W0 (Ro hO! a0!) W'->Bt M' w rl W'->zD_->Sj W' 1500->pH_->R bs_ M'):Qb cn_ M R:=by
 refine j_;rw[b5f];have hp:(a0!).Perm ops:=bJ ops;unfold Ai Ao;refine c6d (f:=λ_=>Bo) λw M1 rl hw hL fr=>?_;refine b4i (a:=hM!) rfl (b0r nd hl hd λp M2 ep eh f7 iq=>?_);have rp:rl p=.oth:=Classical.byContradiction λz=>hL.live z eh;have vc:Bt M2 w rl W0:=hL.keep λc L=>iq c λz=>L (by rw[z];exact rp);unfold Dx Ci;refine b4i (a:=hM!) rfl (oR nd hl ?_);refine a3e (wd:=pG!) (vJ a0! [] [] λx=>.inl bz_) a0! _ none M2 rl W0 [] 0 _ (λx Y=>hd x zG!) zG_ zH! vc c7v d1h k7! f7 rp λM' ae W' y' g1 g2 g3 g4 g5=>?_;refine hR w M' ae W' hw g1 g2 g3 (g4.mono k7!) λb hb=>?_;obtain⟨e1,e2⟩:=fr b hb;have e3:M2 b=M1 b:=iq b λz=>by rw[<-e1,z,eh]at hb;exact hb rfl
 obtain⟨e4,e5⟩:=g5 b zH_ e2;exact⟨e4.trans (e3.trans e1),e5⟩
def yD(h:aa!)(Y:aV_)(hk:aP_)(hl:A8_)(hj:pv!)(hR:R v M):Hg [cr_,x] M R:=by
 refine j_;show Aw (Qf _ (Bf 1 [] u3_ _ _ _)) lc_ M _;unfold Aw Qf Bf Ci;rw[b7i (ρ:=lc_) h rfl (fx:=Aa 1) rfl hk Y];refine qx!;refine cI (λd=>match d with|.tup [_,_,.bl b]=>b|_=>false) (λd=>match d with|.tup [_,c,_]=>c|_=>.non) trivial _ _ aZ_ ?_
 .show"!?";refine⟨[h5_],rfl,hK!,dz!⟩
  .have e1:fT dS! [h5_]=some q.2.2:=by
    have:f2 Ah q! W_ [h5_]=some qg_:=d1u;show"!="
   unfold Cv;exact hK
  .have e1:f2 Ah q! x! [h5_]=some q.2.1:=d1v;exact hK
 .have e2:((((aG!).map Bg).filter λd=>match d with|.tup [_,_,.bl b]=>b|_=>false).map λd=>match d with|.tup [_,c,_]=>c|_=>.non)=(dx_).map kQ_:=by
   rw[NH,JV];rfl
  rw[e2];show Dz (Nc (.str dw!) _) _;rw[hj];exact hR
def a8m:∀(l:ae_),(∀q∈l,∃c:Nat,q.2.1=.str ap_)->∃cs:List Nat,l.map kQ_=cs.map Ox/\cN!=Z!
 |[],_=>xU!
 |q::l,h=>by
  obtain⟨cs,e1,e2⟩:=a8m l λx Y=>h x cm!
  obtain⟨c,e⟩:=h q IH;exact⟨c::cs,by rw[II,II,e1,e];rfl,by rw[IQ,IQ,e2]⟩
def c1f(hw:fH!)(Y:aV_)(hl:A8_):∃s,Nc ji_ yS!=some aO!:=by
 obtain⟨cs,e1,e2⟩:=a8m dx_ λq hq=>hw.chr x Y q (pw!).1
 have ls:(dx_).length<=(aG!).length:=NX _ _;rw[e1];refine⟨Txt.join dw! hC_,?_⟩;show((Qg kG!).bind λys=>if(kA!).sum+ac!*(dw!).length<=big then some (D.str (Txt.join dw! ys))else none)=_;rw[rE];show lb!=_;rw[IL (by rw[a1u,a0x];unfold big;omega)]
end
end K13
namespace K13
open PySem L2 DL
variable{t:Aq}
abbrev Yi:Nat:=1000000000000000000000000000000000000000000000000000000000000
def a4m{i:Int}(h:gy_<Yi):Ft [b6!]=some B_:=by
 have:i4!<1000000000000000000000000000000000000000000000000000000000000:=by unfold Yi at h;split<;>omega
 push_cast[Ft,Qv,this]
def a4o{i k:Int}(h:gy_<Yi)(h0:0<=i)(h1:i<k):Hd [b6!,.int k]=some B_:=by push_cast[Hd,Qx,a4m h,h0,h1]
def a4n{i:Int}(h:gy_<Yi)(h1:1<=i):Dv [b6!]=some B_:=by push_cast[Dv,Mz,a4m h,h1]
def sU(h:NameG x):Ec [x]=some B_:=by
 obtain⟨a,b,rfl,h1,h2,h3,h4⟩:=h
 push_cast[Ec,Ot,a4o (i:=a) (k:=16) f2! h1 h2,a4n (i:=b) f2! h3]
def uA(h:Ya x):Eb [x]=some B_:=by
 obtain⟨a,b,c,rfl,h1,h2,h3,h4,h5,h6⟩:=h
 push_cast[Eb,Ll,sU ⟨a,b,rfl,h1,h2,h3,h4⟩,a4o (i:=c) (k:=16) f2! h5 a!]
def pF(h:Da x):Hc [x]=some B_:=by
 have n:∀s,Ec [ep_]=some S_:=λs=>by push_cast[Ec,Ot]
 obtain rfl|rfl|h:=h
 .push_cast[Hc,Md,n,gU]
 .push_cast[Hc,Md,n,gU]
 .push_cast[Hc,Md,sU h]
def a0y(h:Mr x):Fb [x]=some B_:=by
 obtain rfl|h:=h
 .push_cast[Fb,Kj]
 .obtain⟨a,b,rfl,_⟩:=id h
  push_cast[Fb,Kj,sU h]
def c2c(h:Ky x):Fx [x]=some B_:=by
 obtain rfl|h:=h
 .push_cast[Fx,Ln]
 .obtain⟨a,b,c,rfl,_⟩:=id h
  push_cast[Fx,Ln,uA h]
def b3z{i:Int}(h0:0<=i)(h1:i<=3):Du [b6!]=some B_:=by push_cast[Du,Qw,a4o (i:=i) (k:=4) f2! h0 a!]
def d0d{s:Str}(h:Ub s=true)(h1:1<=aB!)(h2:jT_):Ka [ep_]=some B_:=by
 unfold Ub at h;rw[JG,JI]at h;have hl:aB!<=big:=by unfold big;omega
 have L:=xX du_ rfl s.cps.toList h.2;have fm:(List.map dy_ s.cps.toList).all id=true:=by simp
 have z1:1<=kC!:=by omega
 have z2:kC!<=16:=by omega
 have hz:ho_<=big:=by simpa[Str.length]using hl
 have T':Hv 1 [] (AU q!) D! a5_ iN! [some aO!]=some (.lst Ba!):=by
  show(if(s.cps.toList.map λc=>D.str ap_).length<=big then Option.map D.lst (Fk D! a5_ iN! du_ (s.cps.toList.map λc=>.str ap_))else none)=_;rw[IP,IL hz,L];rfl
 have hall2:Rl [.lst Ba!]=some B_:=by
  simp only[Rl,yC,PJ,fm]
 push_cast[Ka,Sf,T',hl,z1,z2,hall2]
def d0b(nd:t.nd):Lf t t.A0=some Hc/\Lf t t.A5=some Fb/\Lf t t.A6=some Fx/\Lf t t.A7=some Ka/\Lf t t.A8=some Eb/\
  Lf t t.A9=some Dv/\Lf t t.B0=some Du/\Lf t t.B1=some Ft/\Lf t t.B2=some Ec:=by
 unfold Aq.nd at nd;simp only[IV,HY,JK,LC,PD]at nd;unfold Lf;refine⟨?_,?_,?_,?_,?_,?_,?_,?_,?_⟩<;>grind
def uE(ρ:Ae)(ny:ρ=qx_):∀(cs:qy!),(∀c∈cs,∃g,Lf t c.1=some g/\g [c.2]=some B_)->
  Fk iN_ a5_ iO! ρ ls_=some kv!/\(ls_).length=cN!
 |[],_=>bz_
 |c::cs,h=>by
  have ih:=uE ρ ny cs λx Y=>h x cm!;obtain⟨g,h1,h2⟩:=h c IH;subst ny;refine⟨?_,by simp only[II,Kz,IQ,ih.2]⟩;simp only[II,Kz,Fk,ih.1];simp[Rk,Bd,Pa,Ac,Aa,Ag,h1,h2]
def a1i:∀(cs:qy!),Nf xt_=some xu!
 |[]=>rfl
 |c::cs=>by simp only[II,Nf,a1i cs,PJ]
def jI(cs:qy!)(h:∀c∈cs,∃g,Lf t c.1=some g/\g [c.2]=some B_)(hl:cN!<=1000):
  Hr t [.tup qz!,.tup qy_]=some B_:=by
 have L:=uE qx_ rfl cs h;have hz:cN!<=big:=by unfold big;omega
 have T':Hv 2 [] (AT u_ q!) iN_ a5_ iO! [some (.tup qz!),some (.tup qy_)]=some (.lst kv!):=by
  show(if(ls_).length<=big then Option.map D.lst (Fk iN_ a5_ iO! qx_ ls_)else none)=_;rw[L.2,IL hz,L.1];rfl
 have fm:Rl [.lst kv!]=some B_:=by
  simp only[Rl,a1i,PJ];simp
 push_cast[Hr,Po,T',fm]
def a8i(x:D)(r:c_):Bm (.tup (x::r)) fD! none=some (.tup r):=by
 have h1:HT.sIx (aR_+1) 0 fD!=1:=by
  simp[HT.sIx]
 have h2:HT.sIx (aR_+1) (aR_+1) none=aR_+1:=by simp[HT.sIx]
 simp[Bm,Cr,h1,h2]
def jD{k:Str}(hk:(gu_).lookup k=some (.tup fs))(hp:Hr t [.tup r,.tup fs]=some B_)(L:k≠"cut"):Im t [.tup dv!]=some B_:=by
 have h0:¬(hy_+1=0):=by omega
 have he:Ax (.int (hy_+1)) H_=some S_:=by simp[Ax,Bh,Hy,Ed,h0]
 push_cast[Im,Ou,he,Zc,hk,Wb,hp,a8i,L]
def d0g(nd:t.nd)(h:DG d):Im t [d]=some B_:=by
 obtain⟨i1,i2,i3,i4,i5,i6,i7,i8,i9⟩:=d0b nd;have two:∀{a b:Addr×D} {P:qz_},P a->P b->∀c∈aj_,P c:=λh1 h2 c L=>by
  simp only[HY,JK,LC]at L;obtain rfl|rfl:=L
  .exact h1
  .exact h2
 have xp:∀{a b c:Addr×D} {P:qz_},P a->P b->P c->∀x∈eN!,P x:=λh1 h2 h3 c L=>by
  simp only[HY,JK,LC]at L;obtain rfl|rfl|rfl:=L
  .exact h1
  .exact h2
  .exact h3
 have one:∀{a:Addr×D} {P:qz_},P a->∀x∈[a],P x:=λh1 c L=>by rw[IR.mp L];exact h1
 cases h with
 |@put a b h1 h2=>exact jD rfl (jI [f2_,(t.A5,b)] (two f3! ⟨_,i2,a0y h2⟩) d!) l!
 |@move a b c h1 h2 h3=>exact jD rfl (jI [f2_,(t.A0,b),(t.A5,c)] (xp f3! ⟨_,i1,pF h2⟩ ⟨_,i2,a0y h3⟩) d!) l!
 |@drop a h1=>exact jD rfl (jI [f2_] (one f3!) d!) l!
 |@write a b s h1 h2 h3 h4 h5=>exact jD rfl (jI [f2_,(t.A6,b),(t.A7,.str s)] (xp f3! ⟨_,i3,c2c h2⟩ ⟨_,i4,d0d h3 h4 h5⟩) d!) l!
 |@cut a x y z m h1 h2 h3 h4=>
  have hz:0<=z:=by obtain⟨_,_,_,e,_,_,_,_,q,_⟩:=h2;cases e;exact q
  have hp:=jI (t:=t) [f2_,(t.A8,.tup ka_),(t.A9,.int m)] (xp f3! ⟨_,i5,uA h2⟩ ⟨_,i6,a4n f2! h3⟩) d!;have he:Ax (.int 4) H_=some S_:=by simp[Ax,Bh,Hy,Ed]
  have hk:(gu_).lookup ("cut":Str)=some (.tup sl!):=rfl;simp only[II,NV]at hp
  push_cast[Im,Ou,he,Zc,hk,Wb,hp,a8i,h4]
 |@set a p n h1 h2 h3 h4=>exact jD rfl (jI [f2_,(t.B0,.int p),(t.B1,.int n)] (xp f3! ⟨_,i7,b3z h2 h3⟩ ⟨_,i8,a4m h4⟩) d!) l!
 |@undo a h1=>exact jD rfl Bd! l!
 |@redo a h1=>exact jD rfl Bd! l!
def d4r{h n m:Int}(nd:t.nd)(h1:0<=h)(h2:h<16)(h3:1<=n)(h4:n<=2000)(h5:1<=m)(h6:m<=1000)(hd:DG d):Ca t [.tup [aN_,aM_,en_,d]]=some B_:=by push_cast[Ca,Lm,sU ⟨h,n,rfl,h1,h2,h3,h4⟩,a4n (i:=m) f2! h5,d0g nd hd]
def nM(h:NameG x):Bh x=true/\Hy x<=1:=by obtain⟨a,b,rfl,_⟩:=h;simp[Bh,Br,Hy,Dj]
def eS(h:Da x):Bh x=true/\Hy x<=1:=by
 obtain rfl|rfl|h:=h
 .simp[Bh,Hy]
 .simp[Bh,Hy]
 .exact nM h
def a1x(h:Mr x):Bh x=true/\Hy x<=1:=by
 obtain rfl|h:=h
 .simp[Bh,Hy]
 .exact nM h
def b2e(h:Ky x):Bh x=true/\Hy x<=1:=by obtain rfl|⟨a,b,c,rfl,_⟩:=h<;>simp[Bh,Br,Hy,Dj]
def d3j(h:DG d):Bh d=true/\Hy d<=2:=by
 cases h with
 |put h1 h2=>simp only[Bh,Br,Hy,Dj,eS h1,a1x h2,NM,QZ];have:=(f3_).2;have:=(a1x h2).2;omega
 |move h1 h2 h3=>simp only[Bh,Br,Hy,Dj,eS h1,eS h2,a1x h3,NM,QZ];have:=(f3_).2;have:=(eS h2).2;have:=(a1x h3).2;omega
 |drop h1=>simp only[Bh,Br,Hy,Dj,eS h1,NM,QZ];have:=(f3_).2;omega
 |write h1 h2=>simp only[Bh,Br,Hy,Dj,eS h1,b2e h2,NM,QZ];have:=(f3_).2;have:=(b2e h2).2;omega
 |cut h1=>simp only[Bh,Br,Hy,Dj,eS h1,NM,QZ];have:=(f3_).2;omega
 |set h1=>simp only[Bh,Br,Hy,Dj,eS h1,NM,QZ];have:=(f3_).2;omega
 |undo h1=>simp only[Bh,Br,Hy,Dj,nM h1,NM,QZ];have:=(nM h1).2;omega
 |redo h1=>simp only[Bh,Br,Hy,Dj,nM h1,NM,QZ];have:=(nM h1).2;omega
variable{t:Aq}
nonrec def hs(os:h_)(h:Int):List Op:=os.filter λo=>decide ia_
structure Yh(l:h_):Prop where
 num:∀(i:Nat) (o:Op),l[i]?=some o->o.n=bt!+1
 tim:l.Pairwise λa b=>a.tm<b.tm
structure Wq(o:Op):Prop where
 hh:o.h=0\/o.h=5\/o.h=15
 t1:1<=o.tm
 t2:o.tm<=1000
 n1:1<=o.n
 n2:o.n<=2000
 dg:DG o.d
structure Hist(os:h_):Prop where
 ch:∀h,Yh lu!
 op:∀o∈os,Wq o
def Yh.nil:Yh []:=⟨λi o e=>by simp at e,jG!⟩
def Yh.snoc{l:h_}{o:Op}(h:Yh l)(e:o.n=(Z!:Nat)+1)(ht:∀x∈l,x.tm<o.tm):Yh (l++[o]):=by
 refine⟨λi x Y=>?_,?_⟩
 .obtain c|c:=MH i Z!
  .rw[LB c]at Y;exact h.num i x Y
  .rw[JW c]at Y;obtain z|z:=Nat.eq_zero_or_pos (i - Z!)
   .rw[z]at Y;simp at Y;subst Y;rw[e];omega
   .rw[JZ bh_]at Y;cases Y
 .rw[List.pairwise_append];exact⟨h.tim,List.pairwise_singleton _ _,λa ha b hb=>by rw[lz!];exact ht a ha⟩
def cF{a b:h_}{h:Int}:hs (a++b) h=hs a h++hs b h:=by unfold hs;rw[NQ]
def fN{o:Op}{h:Int}:hs [o] h=if o.h=h then[o]else[]:=by
 unfold hs;by_cases c:o.h=h
 .rw[IL c,KU ib!];rfl
 .rw[IA c,KW ib!];rfl
def iJ{os:h_}{h:Int}{o:Op}:o∈hs os h↔o∈os/\o.h=h:=by unfold hs;rw[KD];simp
def Hist.nil:Hist []:=⟨λh=>Yh.nil,Be!⟩
def Hist.snoc{os:h_}{o:Op}(h:f4!)(hf:Wq o)(e:o.n=((hs os o.h).length:Nat)+1)(ht:∀x∈os,x.h=o.h->x.tm<o.tm):Hist (os++[o]):=by
 refine⟨lv!,ba!⟩
 .rw[cF,fN];by_cases c:o.h=k
  .rw[IL c];subst c;exact(h.ch _).snoc e λx Y=>ht x (iJ.mp Y).1 (iJ.mp Y).2
  .rw[IA c,JA];exact h.ch k
 .obtain z|z:=IK.mp Y
  .exact h.op x z
  .rw[b4_];exact hf
structure HW(i:Nat)(os:h_)(c0 c1 c2 t0 t1 t2:Int):Prop where
 hist:Hist os
 len:aI!=i
 q0:c0=Be_
 q1:c1=Bf!
 q2:c2=Bf_
 u0:∀x∈os,x.h=0->x.tm<=t0
 u1:∀x∈os,x.h=5->x.tm<=t1
 u2:∀x∈os,x.h=15->x.tm<=t2
 b0:0<=t0/\t0<=3*i
 b1:0<=t1/\t1<=3*i
 b2:0<=t2/\t2<=3*i
def HW.nil:HW 0 [] 0 0 0 0 0 0:=⟨.nil,rfl,rfl,rfl,rfl,qA_,qA_,qA_,G_,G_,G_⟩
def Wq.ok{o:Op}(h:Wq o):Vh o.v:=⟨o.h,o.n,o.tm,o.d,rfl,by obtain z|z|z:=h.hh<;>omega,by obtain z|z|z:=h.hh<;>omega,h.n1,h.n2,h.dg⟩
section
variable{i:Nat}{os:List Op}{c0 c1 c2 t0 t1 t2:Int}{m:Int}{dd:D}
def xO(os:h_)(h:Int):(lu!).length<=aI!:=NX _ _
def HW.opok(hw:lw!):∀o∈os.map Op.v,Vh o:=λo ho=>by
 obtain⟨x,Y,rfl⟩:=IS.mp ho;exact(hw.hist.op x Y).ok
def c9e(m:Int):0<=m / 3%3/\m / 3%3<3:=⟨LS _ b_,LY _ b_⟩
def HW.step0(hw:lw!)(h0:0<=m)(hi:i<100)(hd:DG dd):HW X! (os++[⟨0,c0+1,t0+1+m / 3%3,dd⟩]) (c0+1) (c1) (c2) (t0+1+m / 3%3) t1 t2:=by
 obtain⟨m1,m2⟩:=c9e m;have L:=hw.q0;have hb:=hw.b0;have hl:=xO os 0;rw[hw.len]at hl;refine⟨hw.hist.snoc ⟨c1_,by show 1<=t0+1+m / 3%3;omega,by show t0+1+m / 3%3<=1000;omega,by show 1<=c0+1;omega,by show c0+1<=2000;omega,hd⟩ (by show c0+1=Be_+1;omega) (λx Y hh=>by have:=hw.u0 x Y hh;show x.tm<t0+1+m / 3%3;omega),qB!,by rw[cF,fN,l_,IT];have:=hw.q0;simp;omega,by rw[cF,fN,IA Bh_,JA];exact hw.q1,by rw[cF,fN,IA Bi!,JA];exact hw.q2,cW_,cW_,cW_,qC_,qD!,qD_⟩
 .obtain z|z:=IK.mp Y
  .have:=hw.u0 x z hh;omega
  .rw[b4_];exact NC _
 .obtain z|z:=IK.mp Y
  .exact hw.u1 x z hh
  .rw[b4_]at hh;exact absurd hh Bh_
 .obtain z|z:=IK.mp Y
  .exact hw.u2 x z hh
  .rw[b4_]at hh;exact absurd hh Bi!
def HW.step1(hw:lw!)(h0:0<=m)(hi:i<100)(hd:DG dd):HW X! (os++[⟨5,c1+1,t1+1+m / 3%3,dd⟩]) (c0) (c1+1) (c2) t0 (t1+1+m / 3%3) t2:=by
 obtain⟨m1,m2⟩:=c9e m;have L:=hw.q1;have hb:=hw.b1;have hl:=xO os 5;rw[hw.len]at hl;refine⟨hw.hist.snoc ⟨.inr ai_,by show 1<=t1+1+m / 3%3;omega,by show t1+1+m / 3%3<=1000;omega,by show 1<=c1+1;omega,by show c1+1<=2000;omega,hd⟩ (by show c1+1=Bf!+1;omega) (λx Y hh=>by have:=hw.u1 x Y hh;show x.tm<t1+1+m / 3%3;omega),qB!,by rw[cF,fN,IA Bj!,JA];exact hw.q0,by rw[cF,fN,l_,IT];have:=hw.q1;simp;omega,by rw[cF,fN,IA Bk!,JA];exact hw.q2,cW_,cW_,cW_,qC_,qD!,qD_⟩
 .obtain z|z:=IK.mp Y
  .exact hw.u0 x z hh
  .rw[b4_]at hh;exact absurd hh Bj!
 .obtain z|z:=IK.mp Y
  .have:=hw.u1 x z hh;omega
  .rw[b4_];exact NC _
 .obtain z|z:=IK.mp Y
  .exact hw.u2 x z hh
  .rw[b4_]at hh;exact absurd hh Bk!
def HW.step2(hw:lw!)(h0:0<=m)(hi:i<100)(hd:DG dd):HW X! (os++[⟨15,c2+1,t2+1+m / 3%3,dd⟩]) (c0) (c1) (c2+1) t0 t1 (t2+1+m / 3%3):=by
 obtain⟨m1,m2⟩:=c9e m;have L:=hw.q2;have hb:=hw.b2;have hl:=xO os 15;rw[hw.len]at hl;refine⟨hw.hist.snoc ⟨.inr d8_,by show 1<=t2+1+m / 3%3;omega,by show t2+1+m / 3%3<=1000;omega,by show 1<=c2+1;omega,by show c2+1<=2000;omega,hd⟩ (by show c2+1=Bf_+1;omega) (λx Y hh=>by have:=hw.u2 x Y hh;show x.tm<t2+1+m / 3%3;omega),qB!,by rw[cF,fN,IA Bl!,JA];exact hw.q0,by rw[cF,fN,IA Bl_,JA];exact hw.q1,by rw[cF,fN,l_,IT];have:=hw.q2;simp;omega,cW_,cW_,cW_,qC_,qD!,qD_⟩
 .obtain z|z:=IK.mp Y
  .exact hw.u0 x z hh
  .rw[b4_]at hh;exact absurd hh Bl!
 .obtain z|z:=IK.mp Y
  .exact hw.u1 x z hh
  .rw[b4_]at hh;exact absurd hh Bl_
 .obtain z|z:=IK.mp Y
  .have:=hw.u2 x z hh;omega
  .rw[b4_];exact NC _
end
section
variable{ρ:Ae}
def b8l{i:Nat}{fx fv:e!}{j:Int}{ds:c_}{k:Nat}(hv:fv ρ=some d)(Y:Bm!)(hl:qE!)(hk:Eg ds.length j=some k):Uy i fx fv ρ=some (.nx xi!):=by unfold Uy;rw[hv,Y,hl];show(oR_).map _=_;rw[hk];rfl
def a4f{i:Nat}{fx:e!}{j:Int}(Y:Bm!)(hl:qE!)(h:Dd ds j=some d):Ma i fx ρ=some d:=by unfold Ma;rw[Y,hl];exact h
def d1d{i:Nat}{f:e!}{ds:c_}(hf:cL!)(hl:qE!)(hb:f_<big):Pr i f ρ=some xf!:=by unfold Pr;rw[hf,hl];show(if f_<big then _ else _)=_;rw[IL hb]
def c7z{fs:aq_}{ds:c_}(h:hE_)(hl:yb_):Ba fs ρ=some dm!:=by unfold Ba;rw[h];show yc!=_;rw[yc_]
def c5w{f:e!}(h:cL!)(n:Ej d=true):Oh f ρ=some d:=by unfold Oh;rw[h];show(if Ej d=true then _ else _)=_;rw[IL n]
end
def c0g{j:Int}:Eh (.int 7) dq!=some (.int (7*j)):=rfl
def b7b{ns:w!}{base j m kk a c t:Int}{os cs ts:c_}{dd:D}{k:Nat}(em:Bp [fz!,.int (base+7*j)]=some bX_)(ed:Kn [fz!,.int (base+7*j+1),.lst os,.int 5]=some dd)(nd:Ej dd=true)(z:m%3=kk)
  (L:Dd cs kk=some (.int c))(ht:Dd ts kk=some (.int t))(kc:Eg cs.length kk=some k)(kt:Eg ts.length kk=some k)(bq:Dd Bn! kk=some (.int (c+1)))(ht':Dd Bo! kk=some Bn_)
  (ha:Dd [D.int 0,.int 5,.int 15] kk=some (.int a))(hb:aI!<big):
  Vn [J!,as!,some N,some (.lst os),some (.lst cs),some (.lst ts),some dq!,x7,x8,x9]=some (.nx [J!,as!,some N,some (.lst (os++[.tup [.int a,.int (c+1),.int (t+1+m / 3%3),dd]])),some (.lst Bn!),some (.lst Bo!),some dq!,some bX_,some (.int kk),some dd]):=by
 refine(bL (iT (xR (dG rfl (dG Bp! rfl)) em))).trans ?_;refine(bL (iT (gG rfl rfl ((b0l b_).trans kh_)))).trans ?_;refine(bL (b8l (gG (a4f rfl rfl L) rfl rfl) rfl rfl kc)).trans ?_;refine(bL (b8l (gG (gG (a4f rfl rfl ht) rfl rfl) (gG (gG rfl rfl rfl) rfl (b0l b_)) rfl) rfl rfl kt)).trans ?_;refine(bL (iT (c5w (xR (dG rfl (dG (gG Bp! rfl rfl) (dG rfl pd_))) ed) nd))).trans ?_;exact d1d (c7z (dG (gG rfl rfl ha) (dG (a4f rfl rfl bq) (dG (a4f rfl rfl ht') pd_))) rfl) rfl hb
def b4m(ns:w!)(base:Int)(N:Nat)(hN:N<=100):∃os:List Op,Kb [fz!,.int base,.int N]=some f6!/\aI!=N/\Hist os:=by
 let P:Nat->Ae->Prop:=λi ρ=>∃(os:h_) (c0 c1 c2 t0 t1 t2:Int) (x6 x7 x8 x9:al_),ρ=Br_/\aI!=i/\HW i os c0 c1 c2 t0 t1 t2
 obtain⟨ρ',e,os,c0,c1,c2,t0,t1,t2,x6,x7,x8,x9,rfl,hl,hw⟩:=qF (bnd:=Cs 6) (q:=Vn) P fC! 0
  ly_
  ⟨[],0,0,0,0,0,0,none,none,none,none,rfl,rfl,HW.nil⟩ (by
   rintro j d ρ hd ⟨os,c0,c1,c2,t0,t1,t2,x6,x7,x8,x9,rfl,hl,hw⟩;unfold Dp at hd;rw[JM]at hd;obtain⟨i',b9,rfl⟩:=IG.mp hd;obtain⟨ap,he⟩:=IU.mp b9;rw[PX]at he;subst he;rw[NG]at ap;have ho:∀o∈os.map Op.v,Vh o:=hw.opok;have p9:(at!).length<=100:=by rw[IP];omega
   obtain⟨m,em,m0,_⟩:=iI ns (k:=base+7*(j:Nat));obtain⟨dd,ed,hd⟩:=c6f ns (base:=base+7*(j:Nat)+1) (most:=5) ho p9 b_ b_;have nd:=b1e hd;have hb:(at!).length<big:=by unfold big;omega
   have TX:m%3=0\/m%3=1\/m%3=2:=by omega
   obtain z|z|z:=TX
   .exact⟨_,_,rfl,qI!,_,_,_,_,_,_,_,_,_,_,_,qI_,ev!,hw.step0 a! a! hd⟩
   .exact⟨_,_,rfl,qI!,_,_,_,_,_,_,_,_,_,_,_,qI_,ev!,hw.step1 a! a! hd⟩
   .exact⟨_,_,rfl,qI!,_,_,_,_,_,_,_,_,_,_,_,qI_,ev!,hw.step2 a! a! hd⟩)
 refine⟨os,?_,by simpa[Dp]using hl,hw.hist⟩;have J:-1000<=(N:Int)/\(N:Int)<=100000:=by omega
 have hf:Rp (Eo y!) gS_ Vn ly_=some (.nx Br_):=by
  have hi:Eo y! ly_=some fC!:=by
   simp[Eo,Aa,J]
  unfold Rp;rw[hi];exact e
 have hq:Ra Bs_=some (.rt f6!):=by
  show sSeq (Ml 3 Ag) (sSeq (Ml 4 jr!) (sSeq (Ml 5 jr!) (sSeq (Rp (Eo y!) gS_ Vn) (Bl M_)))) _=_;rw[bL (ρ':=[J!,as!,id!,hY!,none,none,none,none,none,none]) rfl];rw[bL (ρ':=[J!,as!,id!,hY!,qH!,none,none,none,none,none]) rfl];rw[bL (ρ':=ly_) rfl];rw[bL hf];rfl
 unfold Kb Cg;rw[IL di!];show(match Ra Bs_ with|some (.rt d)=>some d|some (.nx _)=>some .non|none=>none)=_;rw[hq]
def d2j{o:Op}(nd:t.nd)(h:Wq o):Ca t [o.v]=some B_:=by
 have a1:0<=o.h/\o.h<16:=by obtain z|z|z:=h.hh<;>omega
 exact d4r nd a1.1 a1.2 h.n1 h.n2 h.t1 h.t2 h.dg
def c0f{β:Type}{f:Op->β}(hf:∀a b,f a=f b->a.h=b.h):∀(os:h_),(∀h,((lu!).map f).Nodup)->(os.map f).Nodup
 |[],_=>NO
 |o::os,H=>by
  have sub:∀h,(lu!).Sublist (hs hU_ h):=λh=>by unfold hs;exact(List.sublist_cons_self o os).filter _
  rw[II,IV];refine⟨cR_,c0f hf os λh=>((sub h).map f).nodup (H h)⟩;obtain⟨x,Y,e⟩:=IS.mp z;have hh:=hf _ _ e;have H1:=H o.h;have:hs hU_ o.h=o::hs os o.h:=by unfold hs;rw[KU d!]
  rw[this,II,IV]at H1;exact H1.1 (IS.mpr ⟨x,iJ.mpr ⟨Y,hh⟩,e⟩)
def Hist.names{os:h_}(h:f4!):(pP!).Nodup:=by
 refine c0f Bu_ os λk=>?_
 .show"#A";exact e.1
 .have hn:=(if!).num;rw[OG,QF,PY];intro i j hi hj WG e;have e1:=hn i _ (IM hi);have e2:=hn j _ (IM hj);show"#A";omega
def Hist.keys{os:h_}(h:f4!):(os.map Op.key).Nodup:=by
 refine c0f Bu_ os λk=>?_
 .simp only[Op.key,LO]at e;exact e.2
 .rw[OG,QF];refine(if!).tim.imp λ{a b} lm e=>?_;simp only[Op.key,LO]at e;omega
def c5r{p:ik!}{os:h_}{h:Int}:hs lA! h=hs os h:=by
 rw[cF];unfold hs;rw[LX,LX];cases c:p h with
 |true=>
  have e1:Bv_=os.filter λo=>decide ia_:=KY λo _=>by
   show"#&"
   .rw[z,c];simp
   .simp[z]
  have e2:Bv!=[]:=LN.mpr λo _=>by
   show"#&"
   .rw[z,c];simp
   .simp[z]
  rw[e1,e2,JA]
 |false=>
  have e1:Bv!=os.filter λo=>decide ia_:=KY λo _=>by
   show"#&"
   .rw[z,c];simp
   .simp[z]
  have e2:Bv_=[]:=LN.mpr λo _=>by
   show"#&"
   .rw[z,c];simp
   .simp[z]
  rw[e1,e2,JS]
def Hist.part{os:h_}(h:f4!)(p:ik!):Hist lA!/\(lA!).Perm os:=by have hp:(lA!).Perm os:=QN _ os;exact⟨⟨λk=>by rw[c5r];exact h.ch k,λo ho=>h.op o Bw!⟩,hp⟩
end K13
namespace K13
open PySem L2 DL
open Classical
def Pu(f:WE)(ρ:Ae)(M:Mh)(d:D):Prop:=∀K:D->Mh->Prop,K d M->f ρ M K
def Uk(f:WT)(ρ:Ae)(M:Mh)(b:Bool):Prop:=∀K:Bool->Mh->Prop,K b M->f ρ M K
def Rt(g:WF)(ds:c_)(M:Mh)(d:D):Prop:=∀K:D->Mh->Prop,K d M->g ds M K
section
variable{M:Mh}{ρ:Ae}
def lY{α:Type}{x:α}{R:pR_}(h:R x):Dz gq_ R:=h
def aV{f:e!}(h:cL!):Pu (wl f) ρ M d:=λK hK=>by rw[dA h];exact hK
def gK{a:xY!}{fs:aP!}{fo:WE}(h:Pu fo ρ M cI_)(hM:M a=some hu!)(hv:fs.lookup x=some v):Pu (Ay C x fo) ρ M v:=λK hK=>by
 refine h _ ?_;have:Gq C x M cI_=some v:=by simp only[Gq,hM,KG,hv]
 rw[this];exact hK
def fH{g:br_}{fa fb:WE}(ha:Pu fa ρ M x)(hb:Pu fb ρ M y)(hg:Bz_):Pu (w2 g fa fb) ρ M d:=λK hK=>by
 refine ha _ (hb _ ?_);rw[hg];exact hK
def pQ{ep:Nat}{fo fa fb:WE}(ho:Pu fo ρ M A_)(ha:Pu fa ρ M y)(hb:Pu fb ρ M z)(hp:bY_)(hk:co!)(hd:(h3!).getD z=d):Pu (Ip fo fa fb) ρ M d:=λK hK=>by
 have c:Ee M A_=some k7_:=by simp[Ee,hp]
 refine ho _ ?_;rw[c];refine ha _ (hb _ ?_);rw[c,hk];show K ((h3!).getD z) M;rw[hd];exact hK
def b2r{g:fR_}{f:WE}(h:Pu f ρ M x)(hg:g M [x]=some d):Pu (w1 g qL!) ρ M d:=λK hK=>by
 refine h _ ?_;show Dz (g M [x]) λd=>K d M;rw[hg];exact hK
def fY{g:WF}{f1:WE}{a:D}(h1:lB_)(hg:Rt g [a] M d):Pu (Ak 1 g (Ab f1 Af)) ρ M d:=λK hK=>by
 exact h1 _ lC!
def eF{g:WF}{f1 f2:WE}{a:D}(h1:lB_)(h2:Pu f2 ρ M b)(hg:Rt g aj_ M d):Pu (Ak 2 g (Ab f1 (Ab f2 Af))) ρ M d:=λK hK=>by
 exact h1 _ (h2 _ lC!)
def a6d{g:WF}{f1 f2 f3:WE}{a:D}(h1:lB_)(h2:Pu f2 ρ M b)(h3:Pu f3 ρ M c)(hg:Rt g eN! M d):Pu (Ak 3 g (Ab f1 (Ab f2 (Ab f3 Af)))) ρ M d:=λK hK=>by
 exact h1 _ (h2 _ (h3 _ lC!))
def eU{g:WF}{fo f1:WE}{a:D}(h0:Pu fo ρ M Y!)(ho:Dh C m M Y!)(h1:lB_)(hg:Rt g [bc!,a] M d):Pu (Bc C m 2 g fo (Ab f1 Af)) ρ M d:=λK hK=>by
 exact h0 _ ⟨ho,h1 _ lC!⟩
def nW{f:WE}{b:Bool}(h:Pu f ρ M bM!):Uk (wT f) ρ M b:=λK hK=>by unfold wT;exact h _ hK
def tJ{f:ac_}{b:Bool}(h:f ρ=some b):Uk (Cv f) ρ M b:=λK hK=>by unfold Cv;rw[h];exact hK
def b8o{f:WT}{b:Bool}(h:Uk f ρ M b):Uk (Mj f) ρ M (!b):=λK hK=>by unfold Mj;exact h _ hK
def d2c{f g:WT}{b c:Bool}(h:Uk f ρ M b)(h2:b=false->Uk g ρ M c)(e:b=true->c=true):Uk (Ut f g) ρ M c:=λK hK=>by
 refine h _ ?_;cases b with
 |true=>rw[l_,<-e rfl];exact hK
 |false=>rw[ak_];exact h2 rfl K hK
def oI{i:Nat}{f:WE}{q:WS}{R:o!}(h:lC_)(k:q bW_ M R):Ai (Ao i f) q ρ M R:=by exact h _ k
def dX{f:WE}{R:o!}(h:lC_)(k:R bc_ M):Aw f ρ M R:=by unfold Aw;exact h _ k
def a9d{ft:WT}{q1 q2:WS}{R:o!}(h:Uk ft ρ M true)(k:q1 ρ M R):Au ft q1 q2 ρ M R:=by refine h _ ?_;rw[l_];exact k
def vN{ft:WT}{q1 q2:WS}{R:o!}(h:lD!)(k:ex_):Au ft q1 q2 ρ M R:=by refine h _ ?_;rw[ak_];exact k
def gQ{ft:WT}{q1 q2:WS}{R:o!}(h:lD!)(k:ex_):Ai (Au ft q1 Bo) q2 ρ M R:=by exact vN h k
def DV(C:xY!)(x:Str)(fo:e!)(ρ:Ae)(y:D)(M:Mh)(Q:bJ_):Prop:=wl fo ρ M λd M2=>match d with
 |.fn p=>(match M2 p with|some (.obj C' fs)=>C'=C/\bu_<100/\Q (Az M2 p p7!)|_=>False)
 |_=>False
def uN{fo:e!}{f:WE}{R:o!}(h:f ρ M λy M1=>DV C x fo ρ y M1 λM2=>R aH_ M2):Fv C x dr_ f ρ M R:=h
def vR{fo:e!}{f:WE}{q:WS}{R:o!}(h:f ρ M λy M1=>DV C x fo ρ y M1 λM2=>q ρ M2 R):Ai (Fv C x dr_ f) q ρ M R:=h
def kJ{fs vg:aP!}{fo:e!}{Q:bJ_}(h0:lq_)(hM:M p=some hu!)(hl:bu_<100)(hf:Bn x y fs=vg)(k:Q (Az M p (.obj C vg))):DV C x fo ρ y M Q:=by unfold DV;rw[dA h0];show(match M p with|some (.obj C' fs)=>C'=C/\bu_<100/\Q (Az M p p7!)|_=>False);rw[hM];subst hf;exact⟨rfl,hl,k⟩
end
def kW(h:cO_)(hd:Hy d<=40):Ep d d=some S_:=by unfold Ep;rw[h,mT d h,JC hd];rfl
def b9q(o:Op):Ah o.v bz!=some fS_:=by simp[Op.v,Ah,Dd,Eg]
def fU:∀{ds:c_},(∀d∈ds,Bh d=true)->Br ds=true
 |[],_=>by simp[Br]
 |d::ds,h=>by
  unfold Br;rw[h d IH,fU λx Y=>h x cm!];rfl
def iE{n:Nat}:∀{ds:c_},(∀d∈ds,Hy d<=n)->Dj ds<=n
 |[],_=>by simp[Dj]
 |d::ds,h=>by
  unfold Dj;have h1:=h d IH;have h2:=iE λx Y=>h x (HZ d Y);omega
def nG{o:Op}(h:DG o.d):Bh o.v=true/\Hy o.v<=5:=by
 obtain⟨h1,h2⟩:=d3j h;show"!D"
 .show Br kS!=true;refine fU λd hd=>?_;simp only[HY,JK,LC]at hd;obtain rfl|rfl|rfl|rfl:=hd
  .rfl
  .rfl
  .rfl
  .exact h1
 .show Dj kS!+1<=5;have:Dj kS!<=2:=iE λd hd=>by
   simp only[HY,JK,LC]at hd;obtain rfl|rfl|rfl|rfl:=hd
   .simp[Hy]
   .simp[Hy]
   .simp[Hy]
   .exact h2
  omega
nonrec def hF(yy:Int)(ta wa:xY!)(out:D):List cl_:=[("ours",.int yy),("taken",.fn ta),("waiting",.fn wa),("outline",out)]
section
variable{yy:Int}{ta wa:xY!}{out:D}
def hF1:List.lookup BF! dH!=some (D.int yy):=by kernel_rfl
def hF2:List.lookup BF_ dH!=some (D.fn ta):=by kernel_rfl
def hF3:List.lookup BG! dH!=some (D.fn wa):=by kernel_rfl
def hF4:List.lookup qM! dH!=some out:=by kernel_rfl
def hM1:List.lookup (Str.ofString "have") dH!=none:=by kernel_rfl
def hP1:Bn BF! (.int yy) []=[f7!]:=by kernel_rfl
def hP2:Bn BF_ (.fn ta) [f7!]=lE!:=by kernel_rfl
def hP3:Bn BG! (.fn wa) lE!=lE_:=by kernel_rfl
def hP4:Bn qM! .non lE_=hF yy ta wa .non:=by kernel_rfl
def hP5:Bn qM! o2 dH!=hF yy ta wa o2:=by kernel_rfl
end
structure Bu(t:Aq)(M:Mh)(yy:Int)(a ta wa:xY!)(out:D)(S:h_)(kl:w!)(ca:ig!):Prop where
 ob:M a=some (.obj t.B3 dH!)
 tk:∃ep,M ta=some (.dct ig_ ep)
 wt:M wa=some cS_
 cl:∀h∈kl,M (ca h)=some (.lst ((f7_).map Op.v))
 nk:kl.Nodup
 mem:∀h,h∈kl↔hs S h≠[]
 cw:∀h∈kl,ca h≠wa
 ci:∀h∈kl,∀h'∈kl,ca h=ca h'->h=h'
 len:qM_<=ih!
def Ow(a ta wa:xY!)(kl:w!)(ca:ig!)(b:xY!):Prop:=b=a\/b=ta\/b=wa\/∃h∈kl,b=ca h
structure Mv(M:Mh)(b6:f8!)(M':Mh)(O':f8!):Prop where
 k:∀b,M b≠none->¬b6 b->M' b=M b
 n:∀b,O' b->b6 b\/M b=none
def Mv.refl{M:Mh}{b6:f8!}:Mv M b6 M b6:=⟨λ_ _ _=>rfl,dn!⟩
def Mv.of{M M':Mh}{b6:f8!}(h:qN!):Mv M b6 M' b6:=⟨λb hb _=>h b hb,dn!⟩
def Mv.trans{M M1 M2:Mh}{b6 O1 O2:f8!}(h:Mv M b6 M1 O1)(g:Mv M1 O1 M2 O2):Mv M b6 M2 O2:=by
 refine⟨qN_,λb ho=>?_⟩
 .have e:=h.k b hb ho;exact(g.k b (by rw[e];exact hb) λz=>(h.n b z).elim ho hb).trans e
 .obtain z|z:=g.n b ho
  .exact h.n b z
  .by_cases c:M b=none
   .exact .inr c
   .by_cases d:b6 b
    .exact .inl d
    .rw[h.k b c d]at z;exact .inr z
def gN{g:Int->D}:∀{kl:w!} {x:Int},kget (kl.map λh=>(D.int h,g h)) (.int x)=if x∈kl then some (g x)else none
 |[],x=>by simp[kget]
 |k::kl,x=>by
  rw[II];unfold kget;by_cases e:k=x
  .subst e;simp
  .rw[IA λz=>e qO!,gN];simp[IB e]
section
variable{t:Aq}{M:Mh}{yy:Int}{a ta wa:xY!}{out:D}{S:List Op}{kl:List Int}{ca:Int->Addr}
def Bu.nob(O:ah_)(hm:(dH!).lookup m=none):Dh t.B3 m M cI_:=by show(match M a with|some (.obj C' fs)=>C'=t.B3/\fs.lookup m=none|_=>False);rw[O.ob];exact⟨rfl,hm⟩
def Bu.nol(O:ah_){h:Int}(hh:h∉kl):hs S h=[]:=Classical.byContradiction λz=>hh ((O.mem h).mpr z)
def Bu.keep{M':Mh}(O:ah_)(k:qN!):Bu t M' yy a ta wa out S kl ca:=by obtain⟨ep,ht⟩:=O.tk;exact{O with ob:=(k a lG!).trans O.ob,tk:=⟨ep,(k ta lG_).trans ht⟩,wt:=(k wa lH!).trans O.wt,cl:=λh hh=>(k _ lH_).trans lI!}
def Bu.lv(O:ah_)(h:Ow a ta wa kl ca b):M b≠none:=by
 obtain⟨ep,ht⟩:=O.tk;obtain rfl|rfl|rfl|⟨h,hh,rfl⟩:=h
 .rw[O.ob];simp
 .rw[ht];simp
 .rw[O.wt];simp
 .rw[O.cl h hh];simp
def Bu.mv{M':Mh}{b6 O':f8!}(O:ah_)(m:Mv M b6 M' O')(d:∀b,Ow a ta wa kl ca b->¬b6 b):Bu t M' yy a ta wa out S kl ca/\∀b,Ow a ta wa kl ca b->¬O' b:=by have k:∀b,Ow a ta wa kl ca b->M' b=M b:=λb hb=>m.k b (O.lv hb) (d b hb);obtain⟨ep,ht⟩:=O.tk;exact⟨{O with ob:=(k a ai_).trans O.ob,tk:=⟨ep,(k ta (.inr ai_)).trans ht⟩,wt:=(k wa (.inr (.inr ai_))).trans O.wt,cl:=λh hh=>(k _ (.inr (.inr (.inr ⟨h,hh,rfl⟩)))).trans lI!},λb hb z=>(m.n b z).elim (d b hb) (O.lv hb)⟩
def uZ{h:Int}(O:ah_):Rt gG! [aa_,aN_] M lJ!:=λK hK=>by
 show"#,";refine j_;by_cases c:h∈kl
 .have hl:Uf M [.fn (ca h)]=some lJ!:=by
   show((Sn M ih_).map λxs=>D.int i!)=_;simp only[Sn,O.cl h c,PJ,IP]
  exact dX (b2r (pQ f9! ii_ rJ_ ht (k:=lK_) rfl (by rw[gN,IL c];rfl)) hl) hK
 .have hl:Uf M [lp_]=some lJ!:=by rw[O.nol c];rfl
  exact dX (b2r (pQ f9! ii_ rJ_ ht (k:=lK_) rfl (by rw[gN,IA c];rfl)) hl) hK
def a1s{o:Op}(O:ah_):Rt (Fw t) ij! M (.bl (decide (o.n<=cu!))):=λK hK=>by
 refine j_;exact dX (fH lM_ qT! rfl) hK
def b0u{o:Op}(O:ah_):Rt (Hb t) ij! M (.bl (o.n==cu!+1)):=λK hK=>by
 refine j_;exact dX (fH lM_ (fH qT! qU! (d:=.int (cu!+1)) rfl) (vA _ _)) hK
nonrec def lt(S:h_)(h:Int):Int:=((f7_).getLast?.map Op.tm).getD 0
def c5h{xs:c_}(h:xs.getLast?=some v):Dd xs (-1)=some v:=by
 have hl:0<i!:=by cases xs with|nil=>cases h|cons a l=>simp
 show"#:";rw[IA a!,a1!];show xs[((-1:Int)+i!).toNat]?=_;rw[show((-1:Int)+xs.length).toNat=xs.length - 1 by omega,<-List.getLast?_eq_getElem?];exact h
def a3f{h:Int}(O:ah_):Rt (Hq t) [aa_,aN_] M (.int (lt S h)):=λK hK=>by
 show"#,";refine j_;show Ai te! tf_ [v_,iJ!] M _;have hv:=nW (fH (g:=λ_=>Ax) (ρ:=[v_,iJ!]) (eU lO_ lN! (aV (f:=Aa 1) (d:=aN_) rfl) (uZ O)) (aV (f:=fC H_) rfl) (vA _ _));by_cases c:hs S h=[]
 .rw[c]at hv;refine a9d hv (dX il! ?_);unfold lt at hK;rw[c]at hK;exact hK
 .have hl:0<(f7_).length:=List.length_pos_iff.mpr c;rw[show((qP!:Int)==0)=false from by rw[KO];omega]at hv;refine gQ hv ?_;have hk:=(O.mem h).mpr c;obtain⟨o,ho⟩:∃o,(hs S h).getLast?=some o:=by cases e:(f7_).getLast? with|some o=>exact⟨o,rfl⟩|none=>exact absurd (List.getLast?_eq_none_iff.mp e) c
  have i1:Bs M (.fn ta) eM_=some ih_:=(qX_).trans (by rw[gN,aU!]);have i2:Bs M ih_ (.int (-1))=some o.v:=by
   simp only[Bs,O.cl h hk];exact c5h (by rw[List.getLast?_map,ho];rfl)
  have e:lt S h=o.tm:=by unfold lt;rw[ho];rfl
  rw[e]at hK;exact dX (fH (fH (fH f9! ii_ i1) (aV (d:=.int (-1)) rfl) i2) qY_ (b9q o)) hK
def a0d{ρ:Ae}{R:r!}(hR:∀a ta wa M',M a=none->Bu t M' yy a ta wa .non [] [] (λ_=>a)->fM_->(∀b,Ow a ta wa [] (λ_=>a) b->M b=none)->R cI_ M'):Hh t.B3 2 (Io t) (Ab (wl (fC (.int yy))) Af) ρ M R:=by
 refine⟨rfl,λa ha=>j_⟩;refine vR ?_;rw[dA (f:=Aa 1) (d:=.int yy) rfl];refine kJ (fs:=[]) rfl mup_same b_ hP1 ?_;generalize e1:Az (Az M a (.obj t.B3 [])) a q1!=M1;have a1:M1 a=some q1!:=by rw[<-e1];exact mup_same
 have o1:∀b,b≠a->M1 b=M b:=λb hb=>by rw[<-e1,bs!,bs!]
 refine vR ?_;intro ta UA;have vd:a≠ta:=aU (by rw[a1];simp) UA;refine kJ (fs:=[f7!]) rfl ((mup_ne vd).trans a1) (by show 1<100;decide) hP2 ?_;generalize e2:Az (Az M1 ta C_) a q1_=M2;have a2:M2 a=some q1_:=by rw[<-e2];exact mup_same
 have YE:M2 ta=some C_:=by rw[<-e2,mup_ne im!];exact mup_same
 have o2:∀b,b≠a->b≠ta->M2 b=M b:=λb hb L=>by rw[<-e2,bs!,mup_ne L];exact o1 b hb
 refine vR ?_;refine⟨U!,λwa xq=>?_⟩;have xr:a≠wa:=aU (by rw[a2];simp) xq;have YF:ta≠wa:=aU (by rw[YE];simp) xq;refine kJ (fs:=lE!) rfl ((mup_ne xr).trans a2) q2_ hP3 ?_;generalize e3:Az (Az M2 wa cS_) a q3!=M3;have a3:M3 a=some q3!:=by rw[<-e3];exact mup_same
 have o3:∀b,b≠a->b≠wa->M3 b=M2 b:=λb hb L=>by rw[<-e3,bs!,mup_ne L]
 have w3:M3 wa=some cS_:=by rw[<-e3,q4!];exact mup_same
 refine uN ?_;rw[lR_];refine kJ (fs:=lE_) rfl a3 q2_ hP4 ?_;refine⟨rfl,hR a ta wa _ ha ⟨mup_same,qv_,?_,lS!,NO,λh=>by simp[hs],lS!,lS!,IW _⟩ iu! λb hb=>?_⟩
 .rw[mup_ne im!,o3 ta im! YF];exact YE
 .rw[q4!];exact w3
 .have ba:b≠a:=aU hb ha;have bt:b≠ta:=aU (N:=M1) (by rw[o1 b ba];exact hb) UA;have bw:b≠wa:=aU (N:=M2) (by rw[o2 b ba bt];exact hb) xq;rw[mup_ne ba,o3 b ba bw,o2 b ba bt]
 .obtain rfl|rfl|rfl|⟨_,h,_⟩:=hb
  .exact ha
  .rw[<-o1 _ im!];exact UA
  .rw[<-o2 _ (IB xr) (IB YF)];exact xq
  .cases h
end
section
variable{t:Aq}{M:Mh}{ρ:Ae}{yy:Int}{a ta wa:xY!}{out:D}{S:List Op}{kl:List Int}{ca:Int->Addr}
def cP{ep:Nat}(hp:bY_):Ee M A_=some k7_:=by simp[Ee,hp]
def a1h(hp:M p=some L!):Oi M A_=some (p,xs):=by simp[Oi,hp]
def GU(fa:e!)(ρ:Ae)(d:D)(M:Mh)(R:r!):Prop:=Dz (Oi M d) λ_=>wl fa ρ M λv M2=>Dz (Oi M2 d) λq=>pS_<big/\R .non zI_
def c3r{fo:WE}{fa:e!}{q:WS}{R:o!}(h:fo ρ M λd M1=>GU fa ρ d M1 λ_ M2=>q ρ M2 R):Ai (Bz (Vo fo hQ!)) q ρ M R:=h
def a8s{xs:c_}{f:e!}{R:r!}(hp:M p=some L!)(hf:f ρ=some v)(hl:i!<big)(k:R .non (Az M p (.lst (xs++[v])))):GU f ρ A_ M R:=by refine lY ?_;rw[dA hf,a1h hp];exact lY ⟨hl,k⟩
def c3o{kvs:i_}{ep:Nat}{fo:WE}{fa:e!}{K:r!}(ho:Pu fo ρ M A_)(h1:qs!)(hp:bY_)(hk:co!)(hl:dC_)
  (ac:∀q v,M q=none->kget kvs y=some v->K v gd_)(new:∀q,M q=none->kget kvs y=none->K bW! (Az gd_ p (.dct (At kvs y bW!) bI_))):Kf fo hQ! (Qe Af) ρ M K:=by
 refine ho _ ?_;rw[cP hp];refine lY ?_;rw[dA h1];refine⟨U!,kW_⟩;have pq:p≠q:=aU q6! hq;show Dz (Ee gd_ A_) _;rw[cP ((mup_ne pq).trans hp)];refine lY ?_;rw[hk];refine lY ⟨hl,?_⟩;cases e:kget kvs y with
 |some v=>exact ac q v hq e
 |none=>exact new q hq e
def b6y{o:Op}{R:r!}(O:ah_)(hS:eN_)(hR:∀M' cz c7,Bu t M' yy a ta wa .non (S++[o]) cz c7->Mv M io! M' io_->R .non M'):Lx t ij! M R:=by
 obtain⟨ep,ht⟩:=O.tk;refine j_;refine c3r ?_;have i0:f2 Ah u_ G! [v_,J_]=some cr!:=jN o;have hkl:qM_<64:=MY O.len hS;have UB:(cY!).length<64:=MY (xO S o.h) hS;have at_:a≠ta:=λz=>by have:=O.ob;rw[z,ht]at this;cases this
 have aw:a≠wa:=λz=>by have:=O.ob;rw[z,O.wt]at this;cases this
 have tw:ta≠wa:=λz=>by rw[z,O.wt]at ht;cases ht
 have cA:∀h∈kl,ca h≠a:=λh hh z=>by have:=O.cl h hh;rw[z,O.ob]at this;cases this
 have cT:∀h∈kl,ca h≠ta:=λh hh z=>by have:=O.cl h hh;rw[z,ht]at this;cases this
 refine c3o (k:=ip_) f9! i0 ht rfl fX_ (λq v hq e=>?_) (λq hq e=>?_)
 .have aq:a≠q:=aU lG! hq;have tq:ta≠q:=aU lG_ hq;have wq:wa≠q:=aU lH! hq;have cq:∀h∈kl,ca h≠q:=λh hh=>aU lH_ hq;rw[gN]at e;have c:o.h∈kl:=by
   by_cases c:o.h∈kl
   .exact c
   .rw[IA c]at e;cases e
  rw[IL c]at e;cases e;refine a8s (p:=ca o.h) (v:=o.v) ((mup_ne (cq _ c)).trans (O.cl _ c)) rfl fX_ ?_;generalize e2:Az gd_ (ca o.h) q7!=M2;have m2:∀b,b≠q->b≠ca o.h->M2 b=M b:=λb h1 h2=>by rw[<-e2,cL_,ck!]
  have m2c:M2 (ca o.h)=some q7!:=by rw[<-e2];exact mup_same
  refine uN ?_;rw[lR_];refine kJ (fs:=q7_) rfl ((m2 a aq (IB (cA _ c))).trans O.ob) lU_ hP5 ?_;refine hR _ kl ca ⟨mup_same,⟨ep,?_⟩,?_,lV!,O.nk,λh=>?_,O.cw,O.ci,?_⟩ ⟨qN_,dn!⟩
  .rw[q8!,m2 ta tq (IB (cT _ c))];exact ht
  .rw[q8_,m2 wa wq (IB (O.cw _ c))];exact O.wt
  .rw[mup_ne (cA h hh),cF,fN];show"#&"
   .rw[IL z,<-z,m2c,JF];rfl
   .rw[IA z,JA,m2 _ (cq h hh) λy=>z (O.ci _ hh _ c y).symm];exact O.cl h hh
  .rw[cF,fN];show"#&"
   .rw[IL z];subst z;simp[c]
   .rw[IA z,JA];exact O.mem h
  .rw[IT];have:=O.len;omega
  .rw[q9!,m2 b lW_ λz=>ho (.inr (.inr (.inr ⟨_,c,z⟩)))]
 .have aq:a≠q:=aU lG! hq;have tq:ta≠q:=aU lG_ hq;have wq:wa≠q:=aU lH! hq;have cq:∀h∈kl,ca h≠q:=λh hh=>aU lH_ hq;rw[gN]at e;have c:o.h∉kl:=by
   by_cases c:o.h∈kl
   .rw[IL c]at e;cases e
   .exact c
  have pv:At ig_ cr! bW!=ig_++ra_:=iB (λz=>by
   rw[JV]at z;obtain⟨x,Y,ex⟩:=IS.mp z;exact c (by rw[<-D.int.inj ex];exact Y))
  rw[pv];refine a8s (p:=q) (v:=o.v) (xs:=[]) ((mup_ne (IB tq)).trans mup_same) rfl b_ ?_;generalize e2:Az (Az gd_ ta rc!) q (.lst ([]++[o.v]))=M2;have m2:∀b,b≠q->b≠ta->M2 b=M b:=λb h1 h2=>by rw[<-e2,ck!,cL_,ck!]
  have m2q:M2 q=some (.lst [o.v]):=by rw[<-e2];exact mup_same
  have m2t:M2 ta=some rc!:=by rw[<-e2,mup_ne tq];exact mup_same
  refine uN ?_;rw[lR_];refine kJ (fs:=q7_) rfl ((m2 a aq at_).trans O.ob) lU_ hP5 ?_;have nc:∀h∈kl,h≠o.h:=λh hh z=>c (z▸hh);have SK:hs S o.h=[]:=O.nol c;refine hR _ (kl++[o.h]) (λh=>if h=o.h then q else ca h) ⟨mup_same,⟨ep+1,?_⟩,?_,lV!,?_,λh=>?_,lV!,λh hh h' oz ee=>?_,?_⟩ ⟨qN_,aS!⟩
  .rw[q8!,m2t,JF];congr 3
   .apply LD;intro h hh;rw[IA (nc h hh)]
   .show _=[(D.int o.h,D.fn (if o.h=o.h then q else ca o.h))];rw[l_]
  .rw[q8_,m2 wa wq (IB tw)];exact O.wt
  .show Az M2 a _ lZ!=_;by_cases z:h=o.h
   .rw[IL z,mup_ne (IB aq),m2q,z,cF,fN,l_,SK];rfl
   .have oz:h∈kl:=(lZ_).resolve_right λy=>z l0!;rw[IA z,mup_ne (cA h oz),m2 _ (cq h oz) (cT h oz),cF,fN,IA (IB z),JA];exact O.cl h oz
  .rw[JJ];exact⟨O.nk,A7_,λx Y y hy=>by rw[IR.mp hy];exact nc x Y⟩
  .rw[cF,fN,IK,IR];show"#&"
   .rw[IL z];simp[z]
   .rw[IA z,JA,<-O.mem h];simp[IB z]
  .show lZ!≠wa;by_cases z:h=o.h
   .rw[IL z];exact IB wq
   .rw[IA z];exact O.cw h ((lZ_).resolve_right λy=>z l0!)
  .have g:∀x,x∈kl++[o.h]->x≠o.h->x∈kl:=λx Y z=>(IK.mp Y).resolve_right λy=>z l0!;have rh:lZ!=(if h'=o.h then q else ca h'):=ee;by_cases z:h=o.h
   .by_cases z':h'=o.h
    .rw[z,z']
    .rw[IL z,IA z']at rh;exact absurd rh.symm (cq h' (g h' oz z'))
   .by_cases z':h'=o.h
    .rw[IA z,IL z']at rh;exact absurd rh (cq h (g h hh z))
    .rw[IA z,IA z']at rh;exact O.ci h (g h hh z) h' (g h' oz z') rh
  .rw[IT,IT];have:=O.len;simp;omega
  .rw[q9!,m2 b lW_ λz=>ho l0_]
  .obtain z|z|z|⟨h,hh,z⟩:=hb
   .exact .inl dk_
   .exact .inl l0_
   .exact .inl (.inr l0_)
   .have z':b=if h=o.h then q else ca h:=z
    by_cases e:h=o.h
    .rw[IL e]at z';rw[z'];exact .inr hq
    .rw[IA e]at z';exact .inl (.inr (.inr (.inr ⟨h,(lZ_).resolve_right λx=>e (IR.mp x),z'⟩)))
def a9v{f:WE}{nl:Nat}{ix:k!}{bnd:af_}{ft:WT}{fe:WE}(h:Pu f ρ M A_)(hp:M p=some cS_):Pu (Bf nl ix (Ci f) bnd ft fe) ρ M cS_:=λK hK=>by
 refine h _ ?_;show(match M p with|some (.lst xs)=>_|_=>False);rw[hp];exact⟨KC _,hp,hK⟩
def b4s{ft:WT}{q q2:WS}{R:o!}(h:lD!)(k:ex_):Ai (Jj ft q) q2 ρ M R:=by refine fq!;refine h _ ?_;rw[ak_];exact k
def rC(O:ah_):Rt (Fc t) [aa_] M H_:=λK hK=>by
 refine j_;refine oI il! ?_;refine oI (a9v (gK bt_ O.ob hF3) O.wt) ?_;refine b4s (tJ rfl) ?_;exact dX il! hK
def a9r{o:Op}{R:r!}(O:ah_)(hS:eN_)(hn:o.n=cu!+1)(hR:∀M' cz c7,Bu t M' yy a ta wa .non (S++[o]) cz c7->Mv M io! M' io_->R a5! M'):Jy t ij! M R:=by
 refine j_;show Ai tw_ _ l1_ M _;have Y:Uk tv_ l1_ M true:=by
  have e:(o.n==cu!+1)=true:=by rw[hn];exact LZ _
  have:=nW (eF (ρ:=l1_) lO_ (aV (f:=Aa 1) rfl) (b0u (o:=o) O));rw[e]at this;show"#H"
 refine a9d Y ?_;refine gH (gJ rfl rfl (b6y O hS λM' cz c7 fg mv=>?_));exact dX (fH qU! (fY (aV (f:=Aa 0) (d:=aa_) rfl) (rC fg)) (d:=.int 1) rfl) (hR M' cz c7 fg mv)
def Hist.next{os:h_}{o:Op}(h:Hist (S++o::os)):o.n=cu!+1:=by
 have:=(h.ch o.h).num (cY!).length o;rw[cF]at this;have e:hs hU_ o.h=o::hs os o.h:=by unfold hs;rw[KU d!]
 rw[e]at this;exact this (by rw[JW x_];simp)
def EG(t:Aq):WS:=Th 2 ty!
def b1x:∀(os:h_) (x1:D) (k:Int) (y:al_) (M:Mh) (out:D) (S:h_) (kl:w!) (ca:ig!) (R:o!),Bu t M yy a ta wa out S kl ca->Hist (S++os)->(S++os).length<64->
  (∀M' cz c7 xt y',Bu t M' yy a ta wa xt (S++os) cz c7->((out=.non->xt=.non)/\(os≠[]->xt=.non))->Mv M io! M' io_->R (.nx [v_,R!,some (.int (k+(aI!:Nat))),y']) M')->
  Jc Q! ah! (EG t) at! [v_,R!,some dM_,y] M R
 |[],x1,k,y,M,out,S,kl,ca,R,O,_,_,hR=>⟨trivial,by
  have:=hR M kl ca out y (by rw[JA];exact O) ⟨id,λz=>absurd rfl z⟩ .refl;simpa using this⟩
 |o::os,x1,k,y,M,out,S,kl,ca,R,O,hH,hl,hR=>by
  refine aY!;show Ak 2 (Jy t) d3! [v_,R!,some dM_,J_] M _;have p9:ih!<64:=by rw[IT]at hl;omega
  refine gJ rfl rfl (a9r O p9 hH.next λM' cz c7 fg mv=>?_);have e:S++o::os=S++[o]++os:=by simp
  refine b1x os x1 T! eB! M' .non (S++[o]) cz c7 R fg (by rw[<-e];exact hH) rg_ λM2 YG YH out2 y2 h2 hz mv2=>?_;have h3:=hR M2 YG YH out2 y2 (by rw[e];exact h2) ⟨rh!,rh!⟩ (mv.trans mv2);have ek:k+((hU_).length:Nat)=k+1+(aI!:Nat):=by rw[IQ];omega
  rw[ek]at h3;exact h3
def a9f{kvs:i_}{ep:Nat}{fo fa fb:e!}{K:r!}(h0:lq_)(h1:qs!)(h2:fb ρ=some z)(hp:bY_)(hk:co!)(hl:dC_)(hn:y∉kvs.map c!)(hK:K z (Az M p (.dct (kvs++[(y,z)]) bI_))):Kf dr_ hQ! fM! ρ M K:=by unfold Kf;rw[dA h0,cP hp];refine lY ?_;rw[dA h1,dA h2,cP hp,hk];refine lY (lY ⟨hl,?_⟩);rw[qL hn,iB hn];exact hK
def c0d(o:Op):Ah o.nm H_=some cr!:=by simp[Op.nm,Ah,Dd,Eg]
def HC(t:Aq):WS:=Ai gC!
 (Ai ti!
 tj!)
structure Nx(yy:Int)(S:h_)(o:Op):Prop where
 f:Wq o
 y:o.h≠yy
 n:cu!<o.n
 t:lt S o.h<o.tm
def b3k{M0:Mh}(O:rj_)(h0:M0 p=none):∀(os dn:h_) (x1:D) (y3 y4 y5:al_) (ep:Nat) (M:Mh) (R:o!),rk!->(∀o∈os,Nx yy S o)->((dn++os).map Op.nm).Nodup->(dn++os).length<64->M p=some (.dct rl_ ep)->
  (∀M' bd k9 lb oo,M' p=some (.dct ((dn++os).map λo=>l5!) bd)->rm_->R (.nx [v_,R!,ag_,k9,lb,oo]) M')->
  Jc Q! ah! (HC t) at! [v_,R!,ag_,y3,y4,y5] M R
 |[],dn,x1,y3,y4,y5,ep,M,R,fr,_,_,_,hp,hR=>⟨trivial,hR M ep y3 y4 y5 (by rw[JA];exact hp) fr⟩
 |o::os,dn,x1,y3,y4,y5,ep,M,R,fr,hf,nd,hl,hp,hR=>by
  refine aY!;have ho:=hf o IH;have fg:=O.keep fr;have e:dn++o::os=dn++[o]++os:=by simp
  have es:Ea M_ As c7_ [v_,R!,ag_,J_,y4,y5]=some o.nm:=b7o o;refine oI (aV es) ?_;have h1:Uk tg! l5_ M false:=by
   have:=nW (eF (ρ:=l5_) lO_ (aV (f:=Aa 3) rfl) (a1s (o:=o) fg));rw[IN (by have:=ho.n;omega)]at this;show"#H"
  have h2:Uk th_ l5_ M false:=by
   refine nW (fH (aV (d:=hL!) (c0d o)) (gK bt_ fg.ob hF1) ?_);have:(o.h==yy)=false:=KO.mpr ho.y;rw[vA,this]
  refine vN h1 (vN h2 ?_);have xk:o.nm∉(rl_).map c!:=λz=>by
   rw[JV]at z;rw[JF,JJ]at nd;exact nd.2.2 o.nm z o.nm d! rfl
  refine a9f (p:=p) (y:=o.nm) (z:=o.v) (k:=rp_) rfl rfl rfl hp rfl (by rw[IP];rw[IT]at hl;unfold big;omega) xk ?_;have h3:fT ti_ rq!=some false:=by
   obtain⟨n1,n2⟩:=nG ho.f.dg;have:f2 Ep I! M_ rq!=some S_:=kW n1 a!;show"!="
  refine vN (tJ h3) ?_;refine b3k O h0 os (dn++[o]) x1 eB! (some o.nm) eB! bI_ _ R rr_ (λx Y=>hf x cm!) (by rw[<-e];exact nd) rg_ (by rw[mup_same,JF];rfl) λM' bd z3 z4 z5 g1 g2=>?_;exact hR M' bd z3 z4 z5 (by rw[e];exact g1) g2
def b0i{ms:h_}{R:r!}(O:ah_)(hN:rs_)(nn:(gg!).Nodup)(hl:eH!<64)
  (hR:∀M' p ep,M p=none->M' p=some (.dct gg_ ep)->fM_->R A_ M'):Er t ix_ M R:=by
 refine j_;intro p hp;have fr:∀b,M b≠none->Az M p C_ b=M b:=λb hb=>mup_ne (aU hb hp);have rj:=O.keep fr;unfold Ai Dx Ci;have uj:Nm eD_ (.fn wa) l7!=some l7!:=by
  simp only[Nm,rj.wt];rw[IL (by rw[IP];unfold big;simp;omega)];rfl
 refine fH (gK bt_ rj.ob hF3) (aV (d:=.lst c0_) rfl) uj _ ?_;exact b3k (p:=p) O hp ms [] _ none none none 0 _ _ fr hN (by simpa using nn) (by simpa using hl) mup_same λM' bd y3 y4 y5 g1 g2=>dX iy! (hR M' p bd hp g1 g2)
def HN(t:Aq):WS:=Ai tk_
 (Ai to_
 tn_)
def d2b{kvs:i_}{ep:Nat}{fo fi f:e!}{R:o!}(h0:lq_)(h1:fi ρ=some y)(h2:f ρ=some v)(hp:bY_)(hk:co!)(hl:dC_)(k':R aH_ h1_):Cd dr_ (wl fi) (wl f) ρ M R:=by unfold Cd;rw[dA h2,dA h0,dA h1,hV hp hk hl];exact k'
def b4d{M0:Mh}{e0:Nat}(O:rj_)(eh:M0 p=some (.dct kvs e0))(h0:M0 q=none):∀(qs:h_) (mh:i_) (ep:Nat) (y3 y4:al_) (M:Mh) (R:o!),rk!->(∀o∈qs,kget kvs o.nm=some o.v/\Nx yy S o)->M q=some (.dct mh ep)->
  qs.Pairwise (λx y=>x.h=y.h->x.tm<y.tm)->(∀o∈qs,∀v,kget mh cr!=some v->∃m,v=.int m/\m<o.tm)->mh.length+qs.length<1000->
  (∀M' k9 lb,rm_->R (.nx [v_,ag_,br!,k9,lb]) M')->
  Jc Q! ah! (HN t) (qs.map Op.nm) [v_,ag_,br!,y3,y4] M R
 |[],mh,ep,y3,y4,M,R,fr,_,_,_,_,_,hR=>⟨trivial,hR M y3 y4 fr⟩
 |o::qs,mh,ep,y3,y4,M,R,fr,hk,hq,pw,ht,hl,hR=>by
  refine aY!;have fg:=O.keep fr;have hp:=(fr p (by rw[eh];simp)).trans eh;obtain⟨hko,ho⟩:=hk o IH;rw[KZ]at pw;simp only[IQ]at hl;have i1:Bs M A_ o.nm=some o.v:=(gD (k:=rp_) hp rfl).trans hko;have i2:Bs M o.v bz!=some fS_:=b9q o;refine oI (fH (fH iy! (aV (d:=o.nm) rfl) i1) qY_ i2) ?_;have ix:f2 Ah M_ G! rw!=some cr!:=c0d o;obtain⟨m,em,hm⟩:∃m:Int,(kget mh (.int o.h)).getD (.int (lt S o.h))=.int m/\m<o.tm:=by
   cases e:kget mh cr! with
   |none=>exact⟨_,rfl,ho.t⟩
   |some v=>
    obtain⟨m,e1,e2⟩:=ht o IH v e;exact⟨m,e1,e2⟩
  have L:Uk tm_ rw! M false:=by
   refine nW (fH (aV (d:=kR_) rfl) (pQ (aV (d:=.fn q) rfl) (aV ix) (eF bx! (aV ix) (a3f fg)) hq (k:=ip_) rfl em) ?_);show some (D.bl (decide (o.tm<=m)))=_;rw[IN a!]
  refine gQ L ?_;refine d2b (p:=q) (y:=hL!) (v:=kR_) (k:=ip_) rfl ix rfl hq rfl hA_ ?_;refine b4d O eh h0 qs _ _ (some o.nm) (some fS_) _ R rr_ rz! mup_same pw.2 (λx Y v hv=>?_) (by have:=kput_len mh cr! fS_;omega) hR;by_cases c:o.h=x.h
  .rw[<-c,dL]at hv;cases hv;exact⟨_,rfl,pw.1 x Y c⟩
  .rw[dQ λz=>c qO!]at hv;exact ht x cm! v hv
def b3t{f:Op->D}{g:Op->D}:∀{l:h_},(ic_).Nodup->∀{o:Op},o∈l->kget (l.map λo=>(f o,g o)) (f o)=some (g o)
 |[],_,o,h=>by cases h
 |x::l,nd,o,h=>by
  rw[II,IV]at nd;rw[II];unfold kget;obtain rfl|h:=HY.mp h
  .rw[l_]
  .rw[IA λz=>nd.1 (by rw[z];exact IJ h),b3t nd.2 h]
def Oy(o:Op):Int×Int:=(o.h,o.n)
def Hist.nkeys{ms:h_}(h:Hist ms):(ms.map Oy).Nodup:=by have:=h.names;rw[OG,QF]at this ⊢;refine this.imp λ{x y} ve e=>ve ?_;simp only[Oy,LO]at e;show D.tup [.int x.h,.int x.n]=D.tup [.int y.h,.int y.n];rw[e.1,e.2]
def Hist.rise{ms:h_}(h:Hist ms){x y:Op}(Y:x∈ms)(hy:y∈ms)(e:x.h=y.h)(hn:x.n<y.n):x.tm<y.tm:=by have ic:x∈hs ms y.h:=iJ.mpr ⟨Y,e⟩;have hy':y∈hs ms y.h:=iJ.mpr ⟨hy,rfl⟩;obtain⟨i,hi,ei⟩:=MD.mp ic;obtain⟨j,hj,ej⟩:=MD.mp hy';have h1:=(l9!).num i x (by rw[IM hi,ei]);have h2:=(l9!).num j y (by rw[IM hj,ej]);have:=PY.mp (l9!).tim i j hi hj a!;rw[ei,ej]at this;exact this
def c0t{x y:Op}(h:Kw (Oy x) (Oy y)=true)(e:x.h=y.h):x.n<y.n:=by simp only[Kw,CL,Oy,e,KG,JI]at h;exact h
def xZ{e0:Nat}{ms:h_}{R:r!}(O:ah_)(hH:iy_)(hN:rs_)(hl:eH!<64)(hp:M p=some (.dct gg_ e0))
  (hR:rB!):Jn t [aa_,.fn p] M R:=by
 refine j_;intro q hq;have qp:q≠p:=IB (aU q6! hq);have hp1:Az M q C_ p=some (.dct gg_ e0):=(mup_ne (IB qp)).trans hp;have nn:(gg!).Nodup:=by have:=hH.names;rw[JF,JJ]at this;exact kf_
 have nk:(ms.map Oy).Nodup:=by have:=hH.nkeys;rw[JF,JJ]at this;exact kf_
 unfold Dx Ci;have vf:(iz!).Perm ms:=bJ ms;have hsort:Sm (Az M q C_) [.fn p]=some (.lst ((iz!).map Op.nm)):=by
  show((Ee (Az M q C_) A_).bind λq=>(Xe h6_).map D.lst)=_;rw[cP hp1];show(Xe ((gg_).map c!)).map D.lst=_;have e1:(gg_).map c!=ms.map Op.nm:=by rw[JV];rfl
  have e2:(gg!).map Nn=ms.map Oy:=by rw[JV];rfl
  rw[e1];unfold Xe;rw[IL ⟨MB.mpr λd hd=>by obtain⟨o,_,rfl⟩:=IS.mp hd;rfl,by rw[e2];exact nk,vv_⟩];show some (D.lst (Jk Nn gg!))=_;rw[vO (f:=Op.nm) (k:=Oy) (k':=Nn) λo=>rfl]
 refine b2r iy! hsort _ ?_;refine b4d O hp hq iz! [] 0 none none _ _ (λb hb=>mup_ne lW_) (λo ho=>⟨b3t nn rD!,hN o rD!⟩) mup_same ?_ (λo _ v hv=>by cases hv) (by rw[vf.length_eq];simp;omega) λM' y3 y4 h=>hR M' h;have bu:Pc Oy iz!:=iS nk;have:=List.Pairwise.and_mem.mp bu;exact this.imp λ{x y} h e=>hH.rise (IE _ (vf.mem_iff.mp h.1)) (IE _ (vf.mem_iff.mp h.2.1)) e (c0t (x:=x) (y:=y) h.2.2 e)
def a8q:∀{ys:c_},(∀y∈ys,y=D.bl true)->Nf ys=some rE!
 |[],_=>rfl
 |y::ys,h=>by
  rw[h y IH];show(Nf ys).map (true::·)=_;rw[a8q λx Y=>h x cm!];rfl
def a5a{f:e!}(h:cL!):Ac f Ag ρ=some [d]:=by unfold Ac;rw[h];rfl
def d1f{f g k:e!}{a:D}(h1:lo!)(h2:lo_)(h3:k ρ=some c):Ac f AE! ρ=some eN!:=by unfold Ac;rw[h1,h2,h3];rfl
def tZ{g:ad!}{fs:aq_}(h:hE_):f1 g fs ρ=g ds:=by unfold f1;rw[h];rfl
def c6x{ms:h_}(nd:t.nd)(hH:∀o∈ms,Wq o)(hl:eH!<64):Cy tq! iA_=some false:=by
 obtain⟨ys,e,_,J⟩:=mW (ρ:=du_) (bnd:=Bd 0) (ft:=o6!) (fe:=f1 (Ca t) a4_) (λy=>y=D.bl true) c0_ (by
  intro d hd;obtain⟨o,ho,rfl⟩:=IS.mp hd;exact⟨[J_],true,rfl,rfl,λ_=>⟨gn_,d2j nd (hH o ho),rfl⟩⟩)
 have L:Hv 1 [] (Ei u_) D! a5_ tp_ iA_=some a9!:=by
  show(if(c0_).length<=big then Option.map D.lst (Fk _ _ _ du_ c0_)else none)=_;rw[IL fX_,e];rfl
 have ha:f1 Rl (Ac nd_ Ag) iA_=some B_:=by
  have h1:Ac nd_ Ag iA_=some [.lst ys]:=by
   exact a5a L
  rw[tZ h1];show(Nf ys).map (λbs=>D.bl oE_)=_;rw[a8q J];show some (D.bl ((rE!).all id))=_;rw[MB.mpr λx Y=>by obtain⟨_,_,rfl⟩:=IS.mp Y;rfl]
 unfold Cy fT;rw[ha];rfl
def Hist.nx{ms:h_}(h:iy_)(hy:mb_):∀o∈ms,Nx yy S o:=λo ho=>by
 have L:=h.ch o.h;rw[cF]at L;have hm:o∈hs ms o.h:=iJ.mpr mc!;refine⟨h.op o mc_,hy o ho,?_,?_⟩
 .obtain⟨i,hi,e⟩:=MD.mp hm;have:=L.num ((cY!).length+i) o (by rw[JW a!,Nat.add_sub_cancel_left,IM hi,e]);omega
 .unfold lt;cases e:(cY!).getLast? with
  |none=>show(0:Int)<o.tm;have:=(h.op o mc_).t1;omega
  |some x=>exact(List.pairwise_append.mp L.tim).2.2 x (List.mem_of_getLast? e) o hm
def tE{ms:h_}{R:r!}(nd:t.nd)(O:ah_)(hH:iy_)(hy:mb_)(hl:eH!<64)(hR:rB!):Fn t ix_ M R:=by
 refine j_;refine gQ (tJ (c6x nd (λo ho=>hH.op o mc_) hl)) ?_;refine gH ?_;have hn:∀K:D->Mh->Prop,Er t ix_ M K->Ak 2 (Er t) cB_ [v_,iA!] M K:=λK h=>gJ rfl rfl h;have hN:=hH.nx hy;have nn:(gg!).Nodup:=by have:=hH.names;rw[JF,JJ]at this;exact kf_
 refine hn _ (b0i O hN nn hl λM1 p ep h0 hp fr=>j_);exact xZ md_ hH hN hl hp λM' iq=>hR M' λb hb=>(iq b (by rw[fr b hb];exact hb)).trans dN!
def b1z{ms:h_}{R:r!}(nd:t.nd)(O:me!)(hH:iy_)(hy:mb_)(hl:(S++ms).length<64)(hR:∀M' cz c7,Bu t M' yy a ta wa .non (S++ms) cz c7->Mv M io! M' io_->R (.int iB!) M'):Gz t ix_ M R:=by
 refine j_;show Ai tx! (Ai (Ao 2 aK!) (Ai (Dx dc_ Q! (EG t)) e3!)) [v_,iA!,none,none] M _;have p9:eH!<64:=by rw[IT]at hl;omega
 unfold Ai;refine gH (gJ rfl rfl (tE nd O hH hy p9 λM1 fr=>?_));refine aV (f:=fC H_) (d:=bH_) rfl _ ?_;show Dx dc_ Q! (EG t) rL! M1 _;have hi:Ei u_ rL!=some c0_:=qQ rfl;unfold Dx Hf;refine b1x ms _ 0 none M1 .non S kl ca _ md_ hH hl λM' cz c7 xt y' fg hz mv=>?_;rw[hz.1 rfl]at fg;refine dX (aV (d:=.int iB!) (by show some (D.int (0+iB!))=_;rw[Int.zero_add])) (hR M' cz c7 fg ((Mv.of fr).trans mv))
end
def c4p{α:Type}(p q:α->Bool)(l:O_)(h:∀x∈l,¬(p x=true/\q x=true)):(l.filter p++l.filter q).Perm rN!:=by
 have h1:=QN p rN!;rw[LX,LX]at h1;have e1:(l.filter λx=>p x&&(p x||q x))=l.filter p:=KY λx _=>by cases p x<;>simp
 have e2:(l.filter λx=>(!p x)&&(p x||q x))=l.filter q:=KY λx Y=>by
  cases c:p x<;>cases d:q x<;>simp_all
 rw[e1,e2]at h1;exact h1
def a0u{S:h_}:∀{kl:w!},kl.Nodup->(mf!).Perm (S.filter λo=>decide (o.h∈kl))
 |[],_=>by simp
 |k::kl,nd=>by
  rw[IV]at nd;refine((a0u nd.2).append_left _).trans ?_;refine(c4p (λo:Op=>decide (o.h=k)) (λo=>decide (o.h∈kl)) S λx _ z=>?_).trans (List.Perm.of_eq (KY λx _=>by simp[HY]));simp only[JI]at z;exact nd.1 (z.1▸z.2)
section
variable{t:Aq}{M:Mh}{ρ:Ae}{yy:Int}{a ta wa:xY!}{out:D}{S:List Op}{kl:List Int}{ca:Int->Addr}
def Bu.perm(O:ah_):(mf!).Perm S:=by refine(a0u O.nk).trans (List.Perm.of_eq (JU.mpr λo ho=>?_));rw[JI,O.mem];intro z;have:o∈hs S o.h:=iJ.mpr mc!;rw[z]at this;cases this
def FH(t:Aq):WS:=Yl 1 m7!
def b4j{ck:bJ_}(O:ah_)(ff:ck M)(hS:eN_):∀(ks:w!) (acc:h_) (y:al_) (R:o!),(∀h∈ks,h∈kl)->cT!+64*kN_<100000->
  (∀y',R (.nx [v_,some (.lst ((acc++ks.flatMap (hs S)).map Op.v)),y']) M)->
  Jc bP! ck (FH t) (ks.map D.int) [v_,hX_,y] M R
 |[],acc,y,R,_,_,hR=>⟨ff,by have:=hR y;simpa using this⟩
 |h::ks,acc,y,R,hk,hl,hR=>by
  refine pu!;show"#,";have hh:=hk h IH;show FH t [v_,hX_,iJ!] M _;show Yl 1 m7! [v_,hX_,iJ!] M _;have i1:Bs M (.fn ta) eM_=some ih_:=(qX_).trans (by rw[gN,IL hh]);refine fH f9! ii_ i1 _ ?_;rw[a1h lI!];refine lY ?_;have UB:(f7_).length<64:=MY (xO S h) hS;simp only[IQ]at hl;refine⟨by simp only[IP];unfold big;omega,?_⟩;rw[<-JF];refine b4j O ff hS ks (acc++hs S h) (some eM_) R rz! wE! λy'=>?_;have:=hR y';rw[List.flatMap_cons,<-KI]at this;show"#H"
def rB(O:ah_)(hH:bf!)(hS:eN_):Rt (Ew t) [aa_] M (.lst mi_):=λK hK=>by
 obtain⟨ep,ht⟩:=O.tk;refine j_;show Ai (Dx (Pf d2!) bP! (FH t)) ta_ [v_,hY!,none] M _;unfold Ai Dx Pf;refine gK bt_ O.ob hF2 _ ?_;rw[cP ht];refine lY ?_;have hkl:qM_<64:=MY O.len hS;have ek:(ig_).map c!=kl.map D.int:=by rw[JV];rfl
 rw[ek];refine b4j O ht hS kl [] none _ (λh hh=>hh) bh_ λy'=>?_;have hp:=O.perm;have nd:((mf!).map Op.key).Nodup:=(k6_).nodup_iff.mpr hH.keys;have he:f1 Dl dU! [v_,some (.lst rT!),y']=some (.lst mi_):=by
  show Dl [.lst rT!]=_;rw[JS,mR nd rU!,gV hp nd]
 exact dX (aV he) hK
structure OS(t:Aq)(M:Mh)(a o:xY!)(rl:bV_)(W:OW):Prop where
 hob:∃yy ta wa,M a=some iC_
 out:Cc t M o rl W 1500
def c4o{R:r!}(O:me!)(hH:bf!)(hS:eN_)(J:Wx W0 rW_ W')
  (hR:∀M' o ae,OS t M' a o ae W'->Bu t M' yy a ta wa Y! S kl ca->rV!->(∀b,M b≠none->ae b=.oth)->R Y! M'):Dk t [aa_] M R:=by
 refine j_;show Ai tc! (Aw m7_) [v_] M _;refine a9d (nW (fH (gK bt_ O.ob hF4) rX! rfl)) ?_;refine uN ?_;have hp:(eU!).Perm S:=bJ S;have L:∀K:D->Mh->Prop,Jz t [.lst mi_] M K->Ak 1 (Jz t) (Ab m8_ Af) [v_] M K:=λK h=>by
  show Ak 1 (Ew t) aT_ [v_] M _;exact fY bx! (rB O hH hS) _ bV!
 refine L _ (b5i (W':=W') ((k6_).nodup_iff.mpr hH.keys) ((k6_).nodup_iff.mpr hH.names) rU! (λo ho=>(hH.op o Bw!).dg) (by rw[b7m hH.keys];exact J) λo M1 ae ho hO hw fr=>?_);have fa:=fr a lG!;refine kJ (fs:=hF yy ta wa .non) rfl (fa.1.trans O.ob) lU_ hP5 ?_;have h2:Cc t (Az M1 a iC_) o ae W' 1500:=hO.keep λc L=>mup_ne λz=>L (by rw[z];exact fa.2);have k:∀b,M b≠none->b≠a->Az M1 a iC_ b=M b:=λb hb hn=>(mup_ne hn).trans (dN!).1;show"#,";have rm:Bu t (Az M1 a iC_) yy a ta wa Y! S kl ca:={O with ob:=mup_same,tk:=⟨ep,(k ta lG_ λz=>by rw[z,O.ob]at ht;cases ht).trans ht⟩,wt:=(k wa lH! λz=>by have:=O.wt;rw[z,O.ob]at this;cases this).trans O.wt,cl:=λh hh=>(k _ lH_ λz=>by have:=O.cl h hh;rw[z,O.ob]at this;cases this).trans lI!};exact dX (gK bt_ mup_same hF4) (hR _ o ae ⟨⟨yy,ta,wa,mup_same⟩,h2⟩ rm k λb hb=>(dN!).2)
variable{o:xY!}{rl:Addr->Pd}{W:OW}{x:D}
def uT(h:bf_):Rt (Dk t) [aa_] M Y!:=λK hK=>by
 obtain⟨yy,ta,wa,hob⟩:=h.hob;refine j_;refine gQ (nW (fH r0_ rX! rfl)) ?_;exact dX r0_ hK
def OS.nob(h:bf_)(hm:∀{a1 a2 a3 a4 a5 a6:xY!},(X_).lookup m=none):Dh t.B4 m M Y!:=by obtain⟨_,_,_,_,_,_,_,_,_,_,_,_,O⟩:=h.out;exact O.noOb hm
def c3j(h:bf_)(hk:aP_):Rt g1_ dQ_ M r2!:=λK hK=>by
 refine j_;exact dX (eU mn_ (h.nob oM1) bg_ λK hK=>xP h.out hk hK) hK
def c3k{R:r!}{Q:bJ_}(UC:r1_)(hk:aP_)(hR:∀M' o rl,OS t M' a o rl W->Q M'->R r2! M'):Jg t dQ_ M R:=by refine j_;show Aw tB! [v_,bF!] M _;unfold Aw Bc;refine b4i (a:=aa_) rfl (UC _ λM' o rl h hQ=>⟨h.nob oM1,?_⟩);exact⟨rfl,xP h.out hk (hR M' o rl h hQ)⟩
def c3d(h:bf_)(hk:aP_)(Y:cK!):Rt (Iz t) dQ_ M Y!:=λK hK=>by
 refine j_;refine oI mn_ ?_;refine gQ (b8o (nW (b:=true) (eU iE_ (h.nob oM1) bg_ λK hK=>xP h.out hk r2_))) ?_;exact dX iE_ hK
def vI(h:bf_)(hk:aP_)(Y:aV_):Rt (Cq t) dQ_ M Y!:=λK hK=>by
 refine j_;refine oI mn_ ?_;refine gQ (b8o (nW (b:=true) (eU iE_ (h.nob oM2) bg_ λK hK=>iC h.out hk r2_))) ?_;exact dX iE_ hK
def b1l(h:bf_)(wi:By W)(hk:aP_)(Y:cK!):Rt (Ja t) dQ_ M he!:=λK hK=>by
 refine j_;exact dX (eU (eF bx! bg_ (c3d h hk Y)) (h.nob d4e) bg_ λK hK=>xY h.out wi b_ Y hK) hK
def b9n(h:bf_)(hk:aP_)(Y:aV_)(hp:j2_):Rt (Od t) dQ_ M p:=λK hK=>by
 refine j_;exact dX (eU r4_ (h.nob d4f) bg_ λK hK=>a2l h.out hk hp hK) hK
def c8c(h:bf_)(wi:By W)(hk:aP_)(Y:aV_)(hj:pv!):Rt (Ta t) dQ_ M v:=λK hK=>by
 refine j_;exact dX (eU r4_ (h.nob d4c) bg_ λK hK=>a9c h.out wi Y b_ hj hK) hK
def c3n{f:ac_}{q2:WS}{R:o!}(h:f ρ=some false)(k:ex_):Ai (Au (Cv f) Gc Bo) q2 ρ M R:=gQ (tJ h) k
def b8y{i:Nat}(hi:i<4):Du [dN_]=some B_:=b3z a! a!
def b9z{i:Nat}(h:bf_)(wi:By W)(hk:aP_)(Y:aV_)(hi:i<4)(hv:bU_[i]?=some v):Rt (Lw t) [aa_,x,dN_] M v:=λK hK=>by
 refine j_;have hn:Rt (Es t) [aa_,x,dN_] M Y!:=λK hK=>by
  refine j_;show Ai tA_ (Aw je_) eV_ M _;have hp:Cy tA! eV_=some false:=by
   have:f1 Du ca_ eV_=some B_:=(tZ (a5a (f:=Aa 2) (d:=dN_) rfl)).trans (b8y hi);unfold Cy fT;rw[this];rfl
  have f0:Aa 0 eV_=some cI_:=rfl;have mf:Aa 1 eV_=some x:=rfl;generalize eV_=env at hp f0 mf ⊢;exact c3n hp (dX (eF (aV f0) (aV mf) (vI h hk Y)) hK)
 have ic:Bs M fp! l7_=some v:=by
  show Dd bU_ bt!=_;show"#:";rw[a1!,IL (by rw[wi.nl x Y];omega)];simpa using hv
 exact dX (fH (eU (a6d bx! bg_ iH_ hn) (h.nob d4b) bg_ λK hK=>yO h.out wi Y hK) iH_ ic) hK
end
def Um(W:OW):Prop:=∀x∈W.its,∀d∈W.num x,∃i:Int,d=.int i
def c0a{W:OW}(h:Um W)(hs:qq!):Um W':=by
 cases hs with
 |put _ _ _=>
  intro x Y e he;have ce:e∈v5_:=he;by_cases c:x=n
  .rw[IL c]at ce;simp only[HY,JK,LC]at ce;exact⟨0,by obtain z|z|z|z:=ce<;>exact z⟩
  .rw[IA c]at ce;have ic:x∈W.its++[n]:=Y;exact h x ((IK.mp ic).resolve_right λz=>c qw_) e ce
 |mvY _ _ _ _ _=>exact h
 |mvN _ _ _ _=>exact h
 |drY _ _ _=>exact h
 |drN _ _=>exact h
 |wrt _ _ _ _=>split;exact h;exact h
 |cut _ _ _ _=>split;exact h;exact h
 |@set a p v _ _ _=>
  split
  .intro x Y e he;have ce:e∈(if x=a then(pl_).set p.toNat (.int v)else W.num x):=he;by_cases c:x=a
   .rw[IL c]at ce;obtain z|z:=List.mem_or_eq_of_mem_set ce
    .exact h a (c▸Y) e z
    .exact⟨v,z⟩
   .rw[IA c]at ce;exact h x Y e ce
  .exact h
def c0b{W:OW}{os:h_}(J:Wx W os W'):Um W->Um W':=by
 induction J with
 |nil=>exact id
 |cons hs _ ih=>exact λh=>ih (c0a h hs)
def c5i{W W':OW}(hs:qq!):∀x∈W'.its,x∈W.its\/x=n:=by
 cases hs with
 |put _ _ _=>
  intro x Y;have ic:x∈W.its++[n]:=Y;exact(IK.mp ic).imp id IR.mp
 |mvY _ _ _ _ _=>exact λx Y=>.inl Y
 |mvN _ _ _ _=>exact λx Y=>.inl Y
 |drY _ _ _=>exact λx Y=>.inl Y
 |drN _ _=>exact λx Y=>.inl Y
 |wrt _ _ _ _=>split;exact λx Y=>.inl Y;exact λx Y=>.inl Y
 |cut _ _ _ _=>split;exact λx Y=>.inl Y;exact λx Y=>.inl Y
 |set _ _ _=>split;exact λx Y=>.inl Y;exact λx Y=>.inl Y
def c5j{W W':OW}{os:h_}(J:Wx W os W'):∀x∈W'.its,x∈W.its\/∃o∈os,x=o.nm:=by
 induction J with
 |nil=>exact λx Y=>.inl Y
 |cons hs _ ih=>
  intro x Y;obtain z|⟨o,ho,z⟩:=ih x Y
  .obtain z|z:=c5i hs x z
   .exact cG_
   .exact .inr ⟨_,IH,z⟩
  .exact .inr ⟨o,HZ _ ho,z⟩
section
variable{t:Aq}{M:Mh}{ρ:Ae}{a w:xY!}{W:OW}{o:xY!}{rl:Addr->Pd}{ak:Addr->LR}{x:D}
def b6v(wi:By W){x:D}:Bh he!=true/\Hy he!<=40:=by
 have h:∀d∈chl W.rows x,Sd d:=λd hd=>(kO wi dA_ (gS.mp hd)).1.sd;show"!D"
 .show Br hc!=true;exact fU λd hd=>eC (h d hd)
 .show Dj hc!+1<=40;have:=iE (n:=5) λd hd=>jT (h d hd);omega
def FM(ft:WT)(q1 q2:WS)(ρ:Ae)(R:o!)(d:D)(M:Mh):Prop:=match d with
 |.bl b=>(if b then(if true then q1 ρ M R else q2 ρ M R)else ft ρ M λb M1=>if b then q1 ρ M1 R else q2 ρ M1 R)
 |_=>False
def uY{fa:WE}{ft:WT}{q1 q2:WS}{R:o!}(h:fa ρ M (FM ft q1 q2 ρ R)):Au (Ut (wT fa) ft) q1 q2 ρ M R:=h
def d2h{ft:WT}{q1 q2:WS}{R:o!}(h:lD!)(k:ex_):FM ft q1 q2 ρ R S_ M:=by show sd!;refine h _ ?_;rw[ak_];exact k
def FJ(g:br_)(fb:e!)(ρ:Ae)(K:r!)(x:D)(M:Mh):Prop:=wl fb ρ M λy M2=>match g M2 x y with|some d=>K d M2|none=>False
def a5f{g:br_}{fo:WE}{fb:e!}{K:r!}(h:fo ρ M (FJ g fb ρ K)):w2 g fo fM! ρ M K:=h
def lS{g:br_}{fb:e!}{K:r!}{x:D}(hb:ll_)(hg:Bz_)(k:K d M):FJ g fb ρ K x M:=by unfold FJ;rw[dA hb,hg];exact k
def EW(t:Aq):WS:=Au u7! bQ_ Bo
def b2k{Q:bJ_}{R:o!}(UC:r1_)(hQ:∀M',Q M'->Bt M' w ak W)(wi:By W)(hl:fV!)(hk:aP_)(Y:cK!)
  (hR:∀M' o rl,OS t M' a o rl W->Q M'->R (.nx c6_) M'):EW t c6_ M R:=by
 refine uY (a5f (gJ (a:=aa_) (b:=x) rfl rfl (c3k UC hk λM' o rl h q=>?_)));have hL:=hQ M' q;have h2:Uk u6_ c6_ M' false:=by
  refine nW (fH (eF bx! bg_ (b1l h wi hk Y)) (eF eX! bg_ λK hK=>a5b hL wi (a4i wi Y) hl hK) ?_);obtain⟨n1,n2⟩:=b6v wi (x:=x);exact kW n1 n2
 refine lS (y:=gn_) (d:=gn!) rfl ?_ (d2h h2 (hR M' o rl h q));rw[JC Y];rfl
def b2l(h:bf_)(hL:iK!)(wi:By W)(hl:fV!):∀(xs:c_) (y:al_) (R:o!),(∀x∈xs,Fs W x)->se!->Jc Q! ah! (EW t) xs [v_,R!,D_,y] M R
 |[],y,R,_,hR=>⟨trivial,hR y⟩
 |x::xs,y,R,Y,hR=>by
  refine aY!;obtain⟨k,hk⟩:=qO wi (Y x IH);refine b2k (Q:=λM'=>M'=M) (λK hK=>uT h _ (hK M o rl h rfl)) (λM' e=>by rw[e];exact hL) wi hl hk (Y x IH) λM' o' ae h' e=>?_;have e':M'=M:=e;rw[e'];exact b2l h hL wi hl xs gq_ R se_ hR
def c4b{f:WE}(h:lC_):Pu (Yk qL!) ρ M (.lst [d]):=λK hK=>by
 exact h _ ⟨by show 1<=1000;decide,hK⟩
def c4a{f g:WE}(h:lC_)(h2:Pu g ρ M e):Pu (Ux (Ab f (Ab g Af))) ρ M (.tup [d,e]):=λK hK=>by
 exact h _ (h2 _ ⟨by show 2<=1000;decide,hK⟩)
def b5e(Y:Sd x)(hp:Sd p):Bh mx_=true/\Hy mx_<=40:=by
 have d1:=jT Y;have d2:=jT hp;show"!D"
 .show Br my!=true;refine fU λd hd=>?_;rw[IR.mp hd];refine fU λd hd=>?_;simp only[HY,JK,LC]at hd;obtain rfl|rfl:=hd
  .exact eC Y
  .exact eC hp
 .have h1:Dj [x,p]<=5:=iE λd hd=>by
   simp only[HY,JK,LC]at hd;obtain rfl|rfl:=hd
   .exact d1
   .exact d2
  have h2:Dj my!<=6:=iE λd hd=>by
   rw[IR.mp hd];show Dj [x,p]+1<=6;omega
  show Dj my!+1<=40;omega
def b5d(hL:iK!)(wi:By W)(hl:fV!)(Y:aV_)(hp:j2_):
  Pu u9_ c6_ M mx_:=λK hK=>by
 obtain⟨wt,wn,qa,O⟩:=hL;obtain⟨e,hw⟩:=O.mw;unfold Bf Ci;have i1:Bs M bs_ d8!=some (.lst fT_):=(gD (k:=Af_) hw rfl).trans k3r;refine fH eX! (aV (d:=.str "rows") rfl) i1 _ ?_;refine qx!;refine cI (λd=>match d with|.tup [i,_]=>decide (i=x)|_=>false) id trivial _ _ aZ_ ?_
 .show"!?";show"#*";refine p3!
  .have e1:fT jv! cU!=some lh_:=by
    have:f2 Ax aj! u_ cU!=some (.bl lh_):=by
     show Ah!;rw[uX];exact nR h1.sd (wi.nm x Y).sd
    show"!="
   unfold Cv;rw[e1];exact hK
  .rw[dA (f:=Aa 0) (d:=Bi q) rfl];exact hK
 .have e2:(((fT_).filter λd=>match d with|.tup [i,_]=>decide (i=x)|_=>false).map id)=[.tup [x,p]]:=by
   rw[QK,NH];show(lh!).map Bi=_;rw[b4k wi hp];rfl
  rw[e2];exact hK
def b6a(h:bf_)(wi:By W)(hk:aP_)(Y:aV_):
  Pu va_ c6_ M fp!:=λK hK=>by
 have hi:Eo b9! c6_=some sg!:=nB (n:=4) rfl b_;unfold Bf Hf;rw[hi];refine my_;have hl:=wi.nl x Y;refine cI dy_ (λd=>match d with|.int i=>(bU_).getD i.toNat .non|_=>.non) trivial _ _ aZ_ ?_
 .obtain⟨i,hi,rfl⟩:=IS.mp hd;have b9:=OJ.mp hi;refine⟨[gq!,v_,bF!],rfl,ez_,dz!⟩;have hv:bU_[i]?=some ((bU_).getD i .non):=by
   rw[LK,IM a!];rfl
  exact a6d bx! bg_ iH_ (b9z h wi hk Y b9 hv) _ hK
 .have e2:(((sg!).filter λ_=>true).map λd=>match d with|.int i=>(bU_).getD i.toNat .non|_=>.non)=W.num x:=by
   match hh:W.num x,hl with
   |[a,b,c,d],_=>rfl
  rw[e2];exact hK
def b6b(hn:Um W)(Y:aV_):Bh fp!=true/\Hy fp!<=40:=by
 have h:=hn x Y;show"!D"
 .show Br bU_=true;exact fU λd hd=>by obtain⟨i,rfl⟩:=h d hd;rfl
 .show Dj bU_+1<=40;have:=iE (n:=0) (ds:=W.num x) λd hd=>by obtain⟨i,rfl⟩:=h d hd;exact IW _
  omega
def DO(t:Aq):WS:=(Ai u7_
 (Ai va!
 vb!))
def c3w{R:o!}(h:bf_)(hL:iK!)(hw:fH!)(az:Sj W 1500)(hn:Um W)(Y:aV_)(hR:R (.nx c6_) M):DO t c6_ M R:=by
 have wi:=hw.inv;obtain⟨k,hk⟩:=(wi.nm x Y).key;have l1:=az.rows;have l2:=az.txt x;obtain⟨s,hj⟩:=c1f hw Y a!;obtain⟨q,hq,e⟩:=IS.mp ((wi.ri x).mpr Y);obtain⟨q1,p⟩:=q;have e':q1=x:=e;subst e';obtain⟨_,sp,_⟩:=kO wi _ hq;refine gQ ?_ ?_
 .refine nW (fH (eF bx! gs_ (c8c h wi hk Y hj)) (eF eX! gs_ λK hK=>yD hL Y hk a! hj hK) ?_);exact kW rfl (by show 0<=40;decide)
 refine gQ ?_ ?_
 .refine nW (fH (c4b (c4a gs_ (eF bx! gs_ (b9n h hk Y hq)))) (b5d hL wi a! Y hq) ?_);obtain⟨n1,n2⟩:=b5e (wi.nm q1 Y).sd sp;exact kW n1 n2
 refine vN ?_ hR;obtain⟨wt,wn,qa,O⟩:=id hL;obtain⟨e0,YI⟩:=O.mw;obtain⟨e1,hn1⟩:=O.mn;obtain⟨hq1,_⟩:=O.mq q1 Y;have i1:Bs M bs_ nG_=some eE!:=(gD (k:=some (.inl (.inr "numbers"))) YI rfl).trans k3n;have i2:Bs M eE! q1=some mz_:=(gD hn1 hk).trans (by rw[mO,IL Y]);refine nW (fH (b6a h wi hk Y) (fH (fH eX! (aV (d:=A8!) rfl) i1) gs_ i2) ?_);have:Uz M mz_=.lst (W.num q1):=by simp only[Uz,hq1]
 show Ep (.lst (W.num q1)) (Uz M mz_)=_;rw[this];obtain⟨n1,n2⟩:=b6b hn Y;exact kW n1 n2
def b2j{ck:bJ_}(ff:ck M)(h:bf_)(hL:iK!)(hw:fH!)(az:Sj W 1500)(hn:Um W):∀(xs:c_) (y:al_) (R:o!),(∀x∈xs,x∈W.its)->se!->Jc Q! ck (DO t) xs [v_,R!,D_,y] M R
 |[],y,R,_,hR=>⟨ff,hR y⟩
 |x::xs,y,R,Y,hR=>by
  refine pu!;refine c3w h hL hw az hn (Y x IH) ?_;exact b2j ff h hL hw az hn xs gq_ R se_ hR
def a9t:Tv t=Ai u4_
 (Ai (Dx u6! Q! (EW t))
 (Ai (Dx (Pf nO!) Q! (DO t))
 vb_)):=rfl
def a1q{yy:Int}{S ops:h_}{kl:w!}{ca:ig!}{R:r!}(O:me!)(hS:bf!)(hO:Hist ops)(hp:S.Perm ops)(hl:dz_)(hR:∀M' out,Bu t M' yy a ta wa out S kl ca->rV!->R B_ M'):Kc t [aa_,hM!] M R:=by
 have UB:ih!<64:=by rw[hp.length_eq];exact hl
 have es:Gf S=Gf ops:=gV hp hS.keys;have la:M a≠none:=by rw[O.ob];simp
 refine j_;rw[a9t];unfold Ai Ao;refine b4i (a:=hM!) rfl (c3a hO.keys hO.names hl (λo ho=>(hO.op o ho).dg) λw M1 dq W YI J hL hw az fr=>?_);obtain⟨pre,hw⟩:=hw;have wi:=hw.inv;have l1:=az.rows;have l2:=az.its;have ra:dq a=.oth:=(fr a la).2;have rj:=O.keep λb hb=>(dN!).1;have qq:Wx W0 rW_ W:=by rw[es];exact J
 have hn:Um W:=c0b J λx Y=>by cases Y
 obtain⟨wt,wn,qa,YJ⟩:=id hL;obtain⟨e0,hw0'⟩:=YJ.mw;obtain⟨e1,ht⟩:=YJ.mt;have i1:Bs M1 bs_ jv_=some fU!:=(gD (k:=sk_) hw0' rfl).trans k3t;have kd:Rf M1 [.fn wt]=some (.lst W.its):=by
  show((Ee M1 fU!).map λq=>D.lst h6_)=_;rw[cP ht];show some (D.lst ((cU_).map c!))=_;rw[JV];show some (D.lst (W.its.map λi=>i))=_;rw[List.map_id']
 have ad:Nm M1 (.lst hQ_) (.lst W.its)=some (.lst (hQ_++W.its)):=by
  show(if[root,binn].length+fX!<=big then _ else none)=_;rw[IL (by simp only[IQ,MO];unfold big;omega)]
 unfold Dx Ci;refine fH (aV (d:=.lst hQ_) rfl) (b2r (fH eX! sm_ i1) kd) ad _ ?_;have r1:Fs W root:=.inr ai_;have fm:∀x∈binn::W.its,Fs W x:=λx Y=>by
  obtain rfl|Y:=HY.mp Y
  .exact .inr d8_
  .exact .inl Y
 refine aY!;refine b2k (W:=W) (Q:=λM'=>Bt M' w dq W/\(∃o,Bu t M' yy a ta wa o S kl ca)/\∀b,M b≠none->b≠a->M' b=M b) (λK hK=>c4o rj hS UB qq λM' o ae gq rm iq _=>hK M' o ae gq ⟨hL.keep λc L=>iq c (hL.live L) λz=>L (by rw[z];exact ra),⟨_,rm⟩,λb hb hn=>(iq b (by rw[(dN!).1];exact hb) hn).trans (dN!).1⟩) (λ_ q=>q.1) wi a! (k:=some (.inl (.inr "root"))) rfl r1 λM2 o qo gq ⟨vc,⟨o3,hA3⟩,iq⟩=>?_;refine b2l gq vc wi a! (binn::W.its) (some root) _ fm λy'=>?_;show Dx (Pf _) Q! (DO t) [v_,dA!,D_,y'] M2 _;obtain⟨wt2,wn2,qa2,YK⟩:=id vc;obtain⟨e02,hw02⟩:=YK.mw;obtain⟨e12,wz⟩:=YK.mt;have i2:Bs M2 bs_ jv_=some (.fn wt2):=(gD (k:=sk_) hw02 rfl).trans k3t;unfold Dx Pf;refine fH eX! sm_ i2 _ ?_;rw[cP wz];refine lY ?_;have ek:(cU_).map c!=W.its:=by
  rw[JV];show W.its.map (λi=>i)=_;rw[List.map_id']
 rw[ek];refine b2j (pre:=pre) wz gq vc hw az hn W.its y' _ (λx Y=>Y) λy2=>?_;have h99:¬Fs W (.tup [fA_,fA_]):=λz=>by
  obtain z|z|z:=z
  .obtain z|⟨o,ho,z⟩:=c5j J _ z
   .cases z
   .have dh:o∈Gf ops:=(iP!).1;have il:o∈ops:=(bJ ops).mem_iff.mp dh;simp only[Op.nm,D.tup.injEq,PL,D.int.injEq]at z;have:=(hO.op o il).hh;omega
  .cases z
  .cases z
 have hth:Rt g1_ [aa_,kA_] M2 S_:=by
  have:=c3j (k:=some (.inr [.inl 9,.inl 9])) gq (x:=kA_) rfl;rw[IN h99]at this;show"#H"
 exact dX (fH (eF bx! (aV (d:=kA_) rfl) hth) (aV (d:=gn!) rfl) (d:=gn_) rfl) (hR M2 o3 hA3 iq)
end
section
variable{U S:List Op}{o x y:Op}
def Hist.ix(h:cy!)(ho:o∈U):∃i:Nat,(hs U o.h)[i]?=some o/\o.n=bt!+1:=by
 obtain⟨i,hi,e⟩:=MD.mp (iJ.mpr mc!);have z:(hs U o.h)[i]?=some o:=by rw[IM hi,e]
 exact⟨i,z,(h.ch _).num i o z⟩
def Hist.uniq(h:cy!)(Y:x∈U)(hy:y∈U)(e:x.h=y.h)(n:x.n=y.n):x=y:=by
 obtain⟨i,h1,h2⟩:=h.ix Y;obtain⟨j,h3,h4⟩:=h.ix hy;have z:i=j:=by omega
 subst z;rw[e,h3]at h1;exact(JY h1).symm
def Hist.nodup(h:cy!):U.Nodup:=by have:=h.names;rw[OG,QF]at this;exact this.imp λve e=>ve (by rw[e])
def Hist.le(h:bf!)(ho:o∈S):o.n<=(cu!:Int):=by obtain⟨i,h1,h2⟩:=h.ix ho;have:=(ht_).1;omega
def Hist.has(hU:cy!)(hS:bf!)(sub:mF!)(ho:o∈U):o∈S↔o.n<=(cu!:Int):=by refine⟨hS.le,λhn=>?_⟩;have n1:=(hU.op o ho).n1;have z:cY![(mF_).toNat]?=some cY![(mF_).toNat]:=IM a!;have m:=iJ.mp (KQ (l:=hs S o.h) (n:=(mF_).toNat) a!);have e:=(hS.ch _).num _ _ z;rw[<-hU.uniq (sub _ m.1) ho m.2 a!];exact m.1
def a5m{l:h_}{p:pM_}{k:Nat}(h:∀(i:Nat) (o:Op),l[i]?=some o->(p o=true↔i<k)):l.filter p=l.take k/\(l.filter λo=>!p o)=l.drop k:=by
 have e1:∀o∈l.take k,p o=true:=λo ho=>by
  obtain⟨i,hi,e⟩:=MD.mp ho;have:gv_[i]?=some o:=by rw[IM hi,e]
  rw[LJ]at hi;rw[OP a!]at this;exact(h i o this).mpr a!
 have e2:∀o∈l.drop k,p o=false:=λo ho=>by
  obtain⟨i,hi,e⟩:=MD.mp ho;have:iR![i]?=some o:=by rw[IM hi,e]
  rw[List.getElem?_drop]at this;cases c:p o with
  |false=>rfl
  |true=>have:=(h _ o this).mp c;omega
 show"!D"
 .conv=>lhs;rw[<-LG k l]
  rw[NQ,JU.mpr e1,LN.mpr λo ho=>by rw[e2 o ho];simp,JA]
 .conv=>lhs;rw[<-LG k l]
  rw[NQ,LN.mpr λo ho=>by rw[e1 o ho];simp,JU.mpr λo ho=>by rw[e2 o ho];rfl,JS]
def Yh.take{l:h_}(h:Yh l)(k:Nat):Yh gv_:=⟨λi o e=>by
 have hl:=(p6!).1;rw[LJ]at hl;rw[OP a!]at e;exact h.num i o e,h.tim.sublist tW!⟩
def a0r{p:pM_}{h:Int}:hs (U.filter p) h=(hs U h).filter p:=by unfold hs;rw[LX,LX];congr 1;funext o;rw[Bool.and_comm]
def Hist.upto(h:cy!)(t:Int->Int):Hist (U.filter λo=>decide (o.n<=t o.h)):=by
 refine⟨lv!,λo ho=>h.op o (iP!).1⟩;rw[a0r,(a5m (k:=(t k).toNat) λi o e=>?_).1]
 .exact(if!).take _
 .have n:=(if!).num i o e;have:=(iJ.mp he_).2;rw[JI,this];omega
def Hist.left{hc:h_}(h:Hist (S++hc)):Hist S:=by refine⟨lv!,λo ho=>h.op o (JE _ ho)⟩;have c:=h.ch k;rw[cF]at c;have:=c.take (eZ!).length;rw[List.take_left' rfl]at this;exact this
def d0a(h:cy!)(k:Int):hs gw! k=hs U k:=by
 have p:(hs gw! k).Perm (hs U k):=(bJ U).filter _;refine lT (kf:=Op.key) ?_ ?_ p
 .exact List.Pairwise.sublist PK (iS h.keys)
 .show(hs U k).Pairwise λx y=>Kw (Op.key x) (Op.key y)=true;refine(List.Pairwise.and_mem.mp (if!).tim).imp λ{x y} ve=>?_;exact qE.mpr (.inl ve.2.2)
nonrec def rst(U S:h_):List Op:=(gw!).filter λo=>!decide (o∈S)
def Hist.fill(hU:cy!)(hS:bf!)(sub:mF!):Hist (S++rst U S)/\(S++rst U S).Perm U:=by
 have nd:=hU.nodup;have pf:(gw!).Perm U:=bJ U;show"!D"
 .refine⟨lv!,λo ho=>?_⟩
  .have sp:=a5m (l:=hs U k) (p:=λo=>decide (o∈S)) (k:=(eZ!).length) λi o e=>by
    have m:=iJ.mp he_;have n:=(hU.ch k).num i o e;rw[JI,hU.has hS sub m.1,m.2];omega
   have e1:hs S k=(hs U k).take (eZ!).length:=by
    refine QG λi=>?_;obtain c|c:=MH i (eZ!).length
    .have a1:eZ![i]?=some eZ![i]:=IM c;have m:=iJ.mp (KQ (l:=hs S k) c);have n1:=(hS.ch k).num i _ a1;obtain⟨j,b1,b2⟩:=hU.ix (sub _ m.1);have:j=i:=by omega
     subst this;rw[a1,OP c];rw[m.2]at b1;exact b1.symm
    .rw[JZ c,JZ (by rw[LJ];omega)]
   unfold rst;rw[cF,a0r,d0a hU,sp.2]
   conv=>arg 1;lhs;rw[e1]
   rw[LG];exact hU.ch k
  .obtain z|z:=IK.mp ho
   .exact hU.op o (sub o z)
   .exact hU.op o (pf.mem_iff.mp (KD.mp z).1)
 .have h1:S.Perm ((gw!).filter λo=>decide (o∈S)):=(List.perm_ext_iff_of_nodup hS.nodup ((pf.nodup_iff.mpr nd).filter _)).mpr λo=>by
   rw[KD,JI];exact⟨λh=>⟨pf.mem_iff.mpr (sub o h),h⟩,λh=>h.2⟩
  exact(h1.append_right _).trans ((QN _ _).trans pf)
end
section
variable{t:Aq}{M:Mh}{ρ:Ae}{yy:Int}{a ta wa:xY!}{out:D}{S S2 U:List Op}{kl:List Int}{ca:Int->Addr}
def iU{i:Nat}{f:WE}{q:WS}{R:o!}(h:f ρ M λd M1=>q bW_ M1 R):Ai (Ao i f) q ρ M R:=h
def d3w{g:fR_}{f:WE}{K:r!}(h:f ρ M λd M1=>Dz (g M1 [d]) λr=>K r M1):w1 g qL! ρ M K:=h
def a4v{g:WF}{f1:e!}{f2:WE}{a:D}{K:r!}(h1:es_)(h:f2 ρ M λd M1=>[a,d].length=2/\g [a,d] M1 K):Ak 2 g (Ab et! (Ab f2 Af)) ρ M K:=by unfold Ak Ab Af;rw[dA h1];exact h
def Wq.hb{o:Op}(h:Wq o):0<=o.h/\o.h<16:=by have:=h.hh;omega
def a7k:∀{xs:c_} {k:Nat} {h:Int} {x:D},(k:Int)<=h->xs[(h - k).toNat]?=some x->kget ((xs.zipIdx k).map λq=>gf_) eM_=some x
 |[],k,h,x,_,e=>by simp at e
 |y::xs,k,h,x,hk,e=>by
  rw[QR,II];unfold kget;by_cases c:(k:Int)=h
  .rw[IL (by rw[c])];rw[<-c,Int.sub_self]at e;exact e
  .rw[IA λz=>c qO!];refine a7k a! ?_;rw[show(h - (k:Int)).toNat=(h - z3_).toNat+1 by omega,QM]at e;exact e
def b3w{hv:w!}{R:r!}(O:ah_)(hH:bf!)(hS:eN_)(hl:e0_)
  (hR:∀M',fM_->R (.lst (((eU!).filter λo=>decide (hv.getD o.h.toNat 0<o.n)).map Op.v)) M'):Km t zV! M R:=by
 refine j_;refine iU ?_;refine⟨by rw[IP,hl];decide,dM!⟩;have fr:∀b,M b≠none->Az M p (.dct sw! (dX!).length) b=M b:=λb hb=>mup_ne (aU hb hp);have rj:=O.keep fr;unfold Aw Bf Ci;refine fY bx! (rB rj hH hS) _ ?_;have pm:(eU!).Perm S:=bJ S;refine⟨by rw[IP,pm.length_eq];unfold big;omega,?_⟩;refine cI (λd=>match d with|.tup (.int h::.int n::_)=>decide (hv.getD h.toNat 0<n)|_=>false) id trivial _ _ aZ_ ?_
 .obtain⟨o,ho,rfl⟩:=IS.mp hd;have hb:=(hH.op o mK_).hb;refine⟨[J_,ag_],rfl,hK!,sy_⟩;have hg:(kget sw! cr!).getD H_=.int sz_:=by
   rw[a7k (k:=0) (x:=.int sz_) hb.1 (by
    rw[show(o.h - eY_).toNat=o.h.toNat by omega,JM,LK,IM a!];rfl)];rfl
  exact nW (fH lM_ (pQ iy! (aV (jN o)) il! mup_same (k:=ip_) rfl hg) rfl) K hK
 .rw[QK,NH];exact hR _ fr
structure HP where
 yy:Int
 a:Addr
 ta:Addr
 wa:Addr
structure HV where
 S:List Op
 kl:List Int
 ca:Int->Addr
def GO(p:HP)(v:HV)(b:xY!):Prop:=Ow p.a p.ta p.wa v.kl v.ca b
structure Tw(t:Aq)(M:Mh)(U:h_)(p:HP)(v:HV)(p2:HP)(v2:HV):Prop where
 h1:Bu t M p.yy p.a p.ta p.wa .non v.S v.kl v.ca
 h2:Bu t M p2.yy p2.a p2.ta p2.wa .non v2.S v2.kl v2.ca
 dj:∀b,GO p v b->¬GO p2 v2 b
 s1:Hist v.S/\∀o∈v.S,o∈U
 s2:Hist v2.S/\∀o∈v2.S,o∈U
structure Wo(U:h_):Prop where
 h:Hist U
 y:∀o∈U,o.h≠3/\o.h≠4
 l:U.length<32
variable{p p2:HP}{v v2:HV}
def Tw.symm(h:da!):Tw t M U p2 v2 p v:=⟨h.h2,h.h1,λb h2 h1=>h.dj b h1 h2,h.s2,h.s1⟩
def Tw.keep{M':Mh}(h:da!)(k:qN!):Tw t M' U p v p2 v2:=⟨h.h1.keep k,h.h2.keep k,h.dj,h.s1,h.s2⟩
def b2a(hU:cy!)(hS:bf!)(sub:mF!):ih!<=U.length:=by have:=(hU.fill hS sub).2.length_eq;rw[IT]at this;omega
def b6m(O:ah_):Pu tD_ [K!,v_] M (.lst (((iX!).map λi=>(((hs S bt!).length:Nat):Int)).map D.int)):=λK hK=>by
 have hi:Eo b8! [K!,v_]=some sD!:=nB (n:=16) rfl b_;unfold Bf Hf;rw[hi];refine my_;refine cI dy_ (λd=>match d with|.int i=>.int ((hs S i).length:Nat)|_=>.non) trivial _ _ aZ_ ?_
 .obtain⟨i,hi,rfl⟩:=IS.mp hd;exact⟨[gq!,v_],rfl,ez_,λ_ K hK=>eU bt_ lN! iH_ (uZ O) K hK⟩
 .rw[fJ_,JV];exact hK
def oY{R:r!}(hW:Wo U)(h:da!)(hR:∀M',Tw t M' U p v p2 v2->R (.lst iY!) M'):Fa t mQ! M R:=by
 have l1:=b2a hW.h h.s1.1 h.s1.2;have:=hW.l;refine j_;show Aw (Ak 2 gL_ (Ab h! (Ab _ Af))) sD_ M _;unfold Aw Ak Ab Af;rw[dA (f:=Aa 0) (d:=cA_) rfl];refine b6m h.h2 _ j_;refine b3w h.h1 h.s1.1 a! d! λM' fr=>?_;have e:((Gf v.S).filter λo=>decide ((sE!).getD o.h.toNat 0<o.n))=rst v.S v2.S:=by
  refine KY λo ho=>?_;have hm:=(bJ v.S).mem_iff.mp ho;have hb:=(h.s1.1.op o hm).hb;have g:(sE!).getD o.h.toNat 0=(((hs v2.S o.h).length:Nat):Int):=by
   rw[LK,JM,List.getElem?_range a!];show(((hs v2.S ((o.h.toNat:Nat):Int)).length:Nat):Int)=_;rw[show((o.h.toNat:Nat):Int)=o.h by omega]
  rw[g];have:=hW.h.has h.s2.1 h.s2.2 (h.s1.2 o hm);by_cases c:o∈v2.S
  .rw[JC c,IN (by have:=this.mp c;omega)];rfl
  .rw[IN c,JC (Int.not_le.mp λz=>c (this.mpr z))];rfl
 rw[e];exact hR M' (h.keep fr)
def wX{R:r!}(hW:Wo U)(h:da!)(hR:∀M',Tw t M' U p v p2 v2->R (.int mS_) M'):Jh t mQ! M R:=by refine j_;show Aw (w1 Uf ni_) sD_ M _;refine d3w (gJ rfl rfl (oY hW h λM' h'=>?_));have:=hR M' h';show Dz (some (D.int ((iY!).length:Nat))) _;rw[IP];exact this
def uQ:∀o∈rst S S2,o∈S/\o∉S2:=λo ho=>by
 obtain⟨h1,h2⟩:=KD.mp ho;exact⟨(bJ S).mem_iff.mp h1,yp_⟩
def vX(h:∀o∈S,o∈S2):rst S S2=[]:=List.eq_nil_iff_forall_not_mem.mpr λo ho=>(qh_).2 (h o (qh_).1)
def c8f(h:bf!):(dY!).Nodup:=((bJ S).nodup_iff.mpr h.nodup).filter _
def b8b(h:bf!)(k:Nat):rst S sH_=(dY!).drop k:=by
 have e:rst S sH_=(dY!).filter λo=>!decide (o∈(dY!).take k):=by
  conv=>rhs;arg 2;unfold rst
  rw[LX];refine KY λo _=>?_;rw[LU];simp only[IK,Bool.not_eq_true',NK,JG,PD];exact And.comm
 rw[e];have nd:=c8f (S2:=S2) h;rw[<-LG k dY!]at nd;have a9:=JJ.mp nd
 conv=>lhs;arg 2;rw[<-LG k dY!]
 rw[NQ,LN.mpr λo ho=>by simp[ho],JS];refine JU.mpr λo ho=>?_;rw[IN λz=>a9.2.2 o z o ho rfl];rfl
def a1t{ms:h_}{R:r!}(nd:t.nd)(hW:Wo U)(h:da!)(hy:dY_)(hH:Hist (v2.S++ms))(hm:∀o∈ms,o∈U)
  (hR:∀M' c8,c8.S=v2.S++ms->Tw t M' U p v p2 c8->R (.int iB!) M'):Gz t [bB_,.lst c0_] M R:=by
 have sub:∀o∈v2.S++ms,o∈U:=λo ho=>(IK.mp ho).elim (h.s2.2 o) (hm o);have l:=b2a hW.h hH sub;have:=hW.l;refine b1z nd h.h2 hH (λo ho=>by have:=hW.y o (hm o ho);obtain z|z:=hy<;>rw[z]<;>omega) (by omega) λM' cz c7 fg mv=>?_;obtain⟨g1,g2⟩:=h.h1.mv mv h.dj;exact hR M' ⟨v2.S++ms,cz,c7⟩ rfl ⟨g1,fg,g2,h.s1,hH,sub⟩
def c3i{k:Nat}{R:r!}(nd:t.nd)(hW:Wo U)(h:da!)(hy:dY_)(pm:v.S.Perm U)
  (hR:∀M' c8,c8.S=v2.S++(cA!).take k->Tw t M' U p v p2 c8->R (.int (((cA!).take k).length:Nat)) M'):Oz t sO! M R:=by
 have hf:Hist db!:=(h.s1.1.fill h.s2.1 λo ho=>pm.mem_iff.mpr mX_).1;refine j_;show Aw tG_ sM_ M _;refine a4v (a:=bB_) rfl ?_;refine gJ rfl rfl (oY hW h λM1 h1=>?_);have em:Ar tF! sM_=some b3!:=by
  show some (some (if(0:Int)>aQ! then(0:Int)else aQ!))=_;rw[IA a!]
 have ec:Cr iY! none b3!=((cA!).take k).map Op.v:=by
  unfold Cr;rw[HT.sIx_none,HT.sIx_nat,IP,List.drop_zero,Nat.sub_zero,List.map_take];obtain c|c:=Nat.le_total k (cA!).length
  .rw[QX c]
  .rw[SC c,LM d!,LM ib!]
 show([D.fn p2.a,_].length=2/\Gz t [bB_,.lst (Cr iY! none b3!)] M1 _);rw[ec];refine⟨rfl,a1t nd hW h1 hy ?_ (λo ho=>h.s1.2 o (uQ o (List.mem_of_mem_take ho)).1) hR⟩;have:v2.S++rst v.S v2.S=v2.S++(cA!).take k++(cA!).drop k:=by rw[KI,LG]
 rw[this]at hf;exact hf.left
def b1y{R:r!}{f0 f1:e!}(e0:f0 ρ=some mQ_)(e1:f1 ρ=some mR!)(nd:t.nd)(hW:Wo U)(h:da!)(hy:dY_)(hf:Hist db!)
  (hR:∀M' c8,c8.S=v2.S++rst v.S v2.S->Tw t M' U p v p2 c8->R (.int mS_) M'):Ak 2 dT! (Ab et! (Ab (Ak 2 (Fa t) (Ab (wl f0) (Ab et! Af))) Af)) ρ M R:=by
 refine a4v e1 (gJ e0 e1 (oY hW h λM1 h1=>j_));exact a1t nd hW h1 hy hf (λo ho=>h.s1.2 o (qh_).1) hR
def c0m{R:r!}(nd:t.nd)(hW:Wo U)(h:da!)(hy:i1_)(hy2:dY_)(hf:Hist db!)(hg:Hist (v.S++rst db! v.S))
  (hR:∀M' v' c8,c8.S=v2.S++rst v.S v2.S->v'.S=v.S++rst db! v.S->Tw t M' U p v' p2 c8->R (.int ((cA!).length+(rst db! v.S).length:Nat)) M'):Si t mQ! M R:=by
 refine j_;refine iU (b1y rfl rfl nd hW h hy2 hf λM1 c8 e1 h1=>?_);unfold Aw w2;rw[dA (f:=Aa 2) (d:=.int mS_) rfl];refine b1y (p:=p2) (p2:=p) (v:=c8) (v2:=v) rfl rfl nd hW h1.symm hy (by rw[e1];exact hg) λM2 v' e2 h2=>?_;rw[e1]at e2 ⊢;have:=hR M2 v' c8 e1 e2 h2.symm;show"#H"
end
section
variable{t:Aq}{M:Mh}{ρ:Ae}
def d3y{o:Op}{k:Int}:fT (f2 Ax aj! i3!) [J_]=some i3_:=by
 have:f2 Ax aj! i3! [J_]=some (.bl i3_):=by
  show(Ah o.v H_).bind (λz=>Ax z dM_)=_;rw[jN];exact vA _ _
 show"!="
def d3x{o:Op}{k:Int}:fT (f2 Ep aj! i3!) [J_]=some (! i3_):=by
 have:f2 Ep aj! i3! [J_]=some (.bl (! i3_)):=by
  show(Ah o.v H_).bind (λz=>Ep z dM_)=_;rw[jN];simp[Ep,Bh,Hy,vB]
 show"!="
def xQ{g:aW_}{fa fb:e!}(h1:fa ρ=some x)(h2:ll_):f2 g fa fb ρ=g x y:=by unfold f2;rw[h1,h2];rfl
def b1r{f g:e!}(h1:lo!)(h2:lo_):Ac f (Ac g Ag) ρ=some aj_:=by unfold Ac;rw[h1,h2];rfl
def zT{os:h_}(h:∀o∈os,Wq o):Bh f6!=true/\Hy f6!<=40:=by
 show"!D"
 .show Br at!=true;exact fU λd hd=>by obtain⟨o,ho,rfl⟩:=IS.mp hd;exact(sR!).1
 .show Dj at!+1<=40;have:=iE (n:=5) (ds:=os.map Op.v) λd hd=>by obtain⟨o,ho,rfl⟩:=IS.mp hd;exact(sR!).2
  omega
variable{ns:List Int}{os:List Op}{hv:List Int}{x2 x3 x4 x5 x6 x7 x8:Option D}
def a2y{m k:Int}(hk:0<k):Bv bX_ dM_=some (.int (m%k)):=by show Dr ot_ (λi j=>.int (i%j)) bX_ dM_=_;simp[Dr,hk]
def b0k{n:Int}:Ob M d0_ d0_=some S_:=kW rfl bZ_
def d4i{l:h_}(h:∀o∈l,Wq o):Ob M fS! fS!=some S_:=by obtain⟨n1,n2⟩:=zT h;exact kW n1 n2
def b9o{ft:WT}{q1 q2:WS}{R:o!}(h:ft ρ M λb M1=>if b=true then q1 ρ M1 R else q2 ρ M1 R):FM ft q1 q2 ρ R S_ M:=by show sd!;exact h
nonrec def mxI(ns:w!)(k:Int):Int:=Classical.choose AY!
def c7g(ns:w!)(k:Int):Bp oZ!=some (.int (mxI ns k))/\0<=mxI ns k:=⟨(sT!).1,(sT!).2.1⟩
def Zb(ns:w!):List Int:=(iX!).map λi=>mxI ns m0_%4
def d3b(L:Xy 1 [0] ρ=[none,J!]):Pu nP! ρ M m1!:=λK hK=>by
 have hi:Eo b8! ρ=some sD!:=nB (n:=16) rfl b_;unfold Bf Hf;rw[hi,L];refine my_;refine cI dy_ (λd=>match d with|.int i=>.int (mxI ns (30+i)%4)|_=>.non) trivial _ _ aZ_ ?_
 .obtain⟨i,hi,rfl⟩:=IS.mp hd;refine⟨[gq!,J!],rfl,ez_,dz!⟩;have e:f2 Bv vg! b9! [gq!,J!]=some (.int (mxI ns m0_%4)):=(xQ ((tZ (b1r (f:=Aa 1) (g:=f2 An vf_ q!) (b:=.int m0_) rfl rfl)).trans (c7g ns _).1) rfl).trans (a2y b_);rw[dA e];exact hK
 .rw[fJ_,JV];exact hK
def Uu(hv:w!)(h:Int):Int:=hv.getD h.toNat 0
def c7o{h:Int}(hl:e0_)(h0:0<=h)(h1:h<16):Ah (.lst dX!) eM_=some (.int (Uu hv h)):=by show Dd dX! h=_;unfold Dd Eg Uu;rw[IL h0,IL (by rw[IP];omega)];show dX![h.toNat]?=_;rw[JM,LK,IM a!];rfl
def d4p{o:Op}(hl:e0_)(ho:Wq o):fT vi_ i6!=some (decide m1_):=by have:f2 Kl cx_ jD_ i6!=some (.bl (decide m1_)):=(sZ_).trans rfl;unfold fT;rw[this];rfl
def d4k{o:Op}(hl:e0_)(ho:Wq o):fT vk_ i6!=some (decide i6_):=by have:f2 Jm cx_ jD_ i6!=some (.bl (decide i6_)):=(sZ_).trans rfl;unfold fT;rw[this];rfl
def c4q{o o':Op}(e:o.v=o'.v):o=o':=by cases o;cases o';simp only[Op.v,D.tup.injEq,PL,D.int.injEq]at e;obtain⟨a1,a2,a3,a4,_⟩:=e;subst a1;subst a2;subst a3;subst a4;rfl
def uS{l:h_}{w:Ae}{ft:WT}{r:pM_}(hl:Z!<64)(h:∀o∈l,∀K:Bool->Mh->Prop,K (r o) M->ft (some o.v::w) M K){K:kV_}(hK:K ((l.filter r).map Op.v) M):(a0_).length<=big/\Ri D! ah! ft h! (none::w) a0_ M K:=by
 have key:∀o∈l,decide (∃o'∈l,o.v=o'.v/\r o'=true)=r o:=λo ho=>by
  cases c:r o with
  |true=>exact JC ⟨o,ho,rfl,c⟩
  |false=>
   refine IN ?_;rintro⟨o',_,e1,e2⟩;rw[<-c4q e1,c]at e2;cases e2
 refine qx!;refine cI (λd=>decide (∃o∈l,d=o.v/\r o=true)) id trivial _ _ aZ_ ?_
 .obtain⟨o,ho,rfl⟩:=IS.mp hd;exact⟨some o.v::w,rfl,λK hK=>h o ho K (by rw[key o ho]at hK;exact hK),sy_⟩
 .rw[QK,NH];rw[<-KY key]at hK;exact hK
def a9y(hO:f4!)(hl:aI!<64):Rt Cp [i7_] M m4!:=λK hK=>oR hO.keys hl hK
def c1u{x o:Op}(h:Ed x.v o.v=true):x.h=o.h/\x.n=o.n:=by unfold Op.v Ed Ij at h;rw[JG,vB]at h;unfold Ij at h;rw[JG,vB]at h;exact⟨KS h.1,KS h.2.1⟩
def c9z{l U:h_}{o:Op}(hU:cy!)(h:∀x∈l,x∈U)(ho:o∈U):Il true M o.v fS!=some (.bl (!decide (o∈l))):=by
 have n1:Br a0_=true:=fU λd hd=>by obtain⟨x,Y,rfl⟩:=IS.mp hd;exact(s5!).1
 have n2:Dj a0_<=40:=JL (iE (n:=5) λd hd=>by obtain⟨x,Y,rfl⟩:=IS.mp hd;exact(s5!).2) b_;show(if Bh o.v&&Br a0_&&decide (Dj a0_<=40)then some (D.bl (if true=true then !((a0_).any λd=>Ed d o.v)else(a0_).any λd=>Ed d o.v))else none)=_;have nf:=(nG (hU.op o ho).dg).1;rw[nf,n1,JC n2,Bool.true_and,Bool.true_and,l_,l_];congr 3;by_cases c:o∈l
 .rw[JC c];exact List.any_eq_true.mpr ⟨o.v,IJ c,mT _ nf⟩
 .rw[IN c];refine List.any_eq_false.mpr λd hd z=>?_;obtain⟨x,Y,rfl⟩:=IS.mp hd;exact c (hU.uniq (h x Y) ho (c1u z).1 (c1u z).2▸Y)
def a0s{S:h_}{kl:w!}{ca:ig!}{R:r!}{yy:Int}(O:ah_)(hH:bf!)(hO:f4!)(pm:m5!)(hl:aI!<64)(pb:e0_)
  (hR:∀M',fM_->R (.lst (((i8!).filter λo=>decide m1_).map Op.v)) M'):Km t zV! M R:=
 b3w O hH (by rw[pm.length_eq];exact hl) pb λM' fr=>by
  have:=hR M' fr;rw[<-gV pm hH.keys]at this;show"#H"
end
section
variable{t:Aq}{M:Mh}{ρ:Ae}{ns:List Int}{os:List Op}{p p2:HP}{v v2:HV}{R:Fl->Mh->Prop}{k:Nat}{x3 x4 x6 x7 x8:D}
def FD(t:Aq):WS:=Aw vu!
def GB(t:Aq):WS:=Ai vt_ (FD t)
def GC(t:Aq):WS:=Ai vt! (GB t)
def GE(t:Aq):WS:=Ai vo_
 (Ai vp_ (GC t))
def GF(t:Aq):WS:=Ai vk!
 (Ai vl!
 (Ai vm!
 (Ai vm_ (GE t))))
def GG(t:Aq):WS:=Ai (Ao 3 nP!)
 (Ai vg_
 (Ai vj_ (GF t)))
def b8h:Xn t=Ai vd_
 (Ai ve_
 (Ai vf! (GG t))):=rfl
nonrec def lE(ns:w!)(os:h_)(a:xY!)(x3 x4:D)(b:xY!)(x6:D)(l:h_)(x8:al_):Ae:=[J!,eK!,v_,some x3,i9!,m6!,some x6,some fS!,x8]
def c9i{a b:xY!}{l:h_}{x8:al_}(ea:p.a=a)(eb:p2.a=b)(hW:Wo os)(h:e5_)(p1:e6!)(YL:v2.S.Perm os)(hR:e6_):FD t (lE ns os a x3 x4 b x6 l x8) M R:=by
 subst ea;subst eb;have hl:=hW.l;unfold FD Aw Iq wT;refine gJ (a:=cA_) (b:=i7_) rfl rfl (a1q h.h1 h.s1.1 hW.h p1 a! λM1 _ _ fr=>?_);show s9_;have mv:Mv M ta! M1 ta!:=⟨λb hb h=>fr b hb h,dn!⟩;have hB:=(h.h2.mv mv λb hb z=>h.dj b dk_ hb).1;refine gJ (a:=bB_) (b:=i7_) rfl rfl (a1q hB h.s2.1 hW.h YL a! λM2 o2 hB2 _=>?_);show s9_;unfold w2;refine a4v (a:=bB_) rfl ?_;refine⟨U!,?_⟩;refine⟨U!,rfl,?_⟩;refine a0s (hv:=List.replicate 16 0) hB2 h.s2.1 hW.h YL a! rfl λM3 _=>?_;have ef:((i8!).filter λo=>decide (Uu tb! o.h<o.n))=Gf os:=JU.mpr λo ho=>by
  have f:=hW.h.op o tb_;have z:Uu tb! o.h=0:=by
   unfold Uu;rw[LK];cases e:(List.replicate 16 (0:Int))[o.h.toNat]? with
   |none=>rfl
   |some y=>exact List.eq_of_mem_replicate he_
  exact JC (by have:=f.n1;omega)
 rw[ef];refine fY m8! m9_ _ ?_;obtain⟨n1,n2⟩:=zT (os:=Gf os) λo ho=>hW.h.op o tb_
 have ee:Ax m4! m4!=some B_:=by
  unfold Ax;rw[n1,mT _ n1,JC n2];rfl
 show"#7";rw[ee];exact hR M3
def d3m{l:h_}:Cr a0_ b3! none=(iR!).map Op.v:=by
 unfold Cr;rw[HT.sIx_none,HT.sIx_nat,IP,List.map_drop];obtain c|c:=Nat.le_total k Z!
 .rw[QX c,LM d!]
 .rw[SC c,List.drop_of_length_le d!,List.drop_of_length_le ib!,List.take_nil]
def d3n{l:h_}:Cr a0_ none b3!=(gv_).map Op.v:=by
 unfold Cr;rw[HT.sIx_none,HT.sIx_nat,IP,List.drop_zero,Nat.sub_zero,List.map_take];obtain c|c:=Nat.le_total k Z!
 .rw[QX c]
 .rw[SC c,LM d!,LM ib!]
section
variable{a b:xY!}{l:List Op}
def c7n:f1 Bk vr_ d2_=some (.int ((iR!).length:Nat)):=by
 have e:Ea aT! jF_ As d2_=some (.lst tc_):=by
  show some (D.lst (Cr a0_ b3! none))=_;rw[d3m]
 rw[tZ (a5a e)];show some (D.int ((tc_).length:Nat))=_;rw[IP]
def d2x:f1 Bk vq_ d2_=some (.int ((gv_).length:Nat)):=by
 have e:Ea aT! As jF_ d2_=some (.lst td_):=by
  show some (D.lst (Cr a0_ none b3!))=_;rw[d3n]
 rw[tZ (a5a e)];show some (D.int ((td_).length:Nat))=_;rw[IP]
def Tw.no(h:e5_)(p1:e6!):rst v2.S v.S=[]:=vX λo ho=>p1.mem_iff.mpr mX_
def Tw.fl(h:e5_)(p1:e6!):Hist db!/\(db!).Perm v.S:=h.s1.1.fill h.s2.1 λo ho=>p1.mem_iff.mpr mX_
def c9j(ea:p.a=a)(eb:p2.a=b)(y1:i1_)(y2:dY_)(nd:t.nd)(hW:Wo os)(h:e5_)(p1:e6!)(e:rst v.S v2.S=l.drop k)(hR:e6_):GB t d2_ M R:=by
 have f:=h.fl p1;have n0:=h.no p1;refine uY (a5f (gJ (a:=bB_) (b:=cA_) gH! gG_ (c0m nd hW h.symm y2 y1 (by rw[n0,JA];exact h.s1.1) (by rw[n0,JA];exact f.1) λM1 c8 v' q1 q2 h1=>?_)));rw[n0,JA]at q1 q2 ⊢;rw[e,MO,QW];refine lS c7n b0k (b9o ?_);have UD:v'.S.Perm os:=by rw[q1];exact p1
 have UE:c8.S.Perm os:=by rw[q2];exact f.2.trans p1
 have m0:rst v'.S c8.S=[]:=vX λo ho=>UE.mem_iff.mpr (UD.mem_iff.mp ho);have m1:rst c8.S v'.S=[]:=vX λo ho=>UD.mem_iff.mpr (UE.mem_iff.mp ho);refine a5f (gJ (a:=cA_) (b:=bB_) gG_ gH! (c0m nd hW h1.symm y1 y2 (by rw[m0,JA];exact h1.s1.1) (by rw[m0,JA,m1,JA];exact h1.s2.1) λM2 w w2 q3 q4 h2=>?_));rw[m0,JA]at q3 q4 ⊢;rw[m1,JA]at q4;rw[m1];refine lS (y:=bH_) rfl b0k ?_;show nb_;exact c9i ea eb hW h2 (by rw[q4];exact UD) (by rw[q3];exact UE) hR
def c9k(ea:p.a=a)(eb:p2.a=b)(y1:i1_)(y2:dY_)(nd:t.nd)(hW:Wo os)(h:e5_)(p1:e6!)(e:tg_)(hR:e6_):GC t d2_ M R:=by
 have c3:∀K:D->Mh->Prop,Oz t sO! M K->Ak 3 (Oz t) vq! d2_ M K:=λK h=>by rw[ea,eb]at h;exact bV!
 refine uY (a5f (c3 _ (c3i nd hW h y2 p1 λM1 c8 q1 h1=>?_)));rw[e]at q1 ⊢;refine lS d2x b0k (b9o ?_);have st:=b8b (S2:=v2.S) h.s1.1 k;rw[e,<-q1]at st;refine a5f (gJ (a:=cA_) (b:=bB_) gG_ gH! (wX hW h1 λM2 h2=>?_));rw[st];refine lS c7n b0k ?_;show nb_;exact c9j ea eb y1 y2 nd hW h2 p1 st hR
def c9l(ea:p.a=a)(eb:p2.a=b)(y1:i1_)(y2:dY_)(nd:t.nd)(hW:Wo os)(h:e5_)(p1:e6!)(e:tg_)(hR:e6_):GE t nc! M R:=by
 have el:f1 Bk jl! nc!=some (.int (Z!:Nat)):=by
  show some (D.int ((a0_).length:Nat))=_;rw[IP]
 refine uY (a5f (gJ (a:=cA_) (b:=bB_) gG_ gH! (wX hW h λM1 h1=>?_)));rw[e];refine lS el b0k (b9o ?_);refine a5f (gJ (a:=bB_) (b:=cA_) gH! gG_ (wX hW h1.symm λM2 h2=>?_));rw[h1.no p1];refine lS (y:=bH_) rfl b0k ?_;show nb_;obtain⟨m1,m2⟩:=c7g ns 61;obtain⟨k,hk⟩:∃k:Nat,(k:Int)=mxI ns 61%5:=⟨(mxI ns 61%5).toNat,by have:=LS (mxI ns 61) (show(5:Int)≠0 by decide);omega⟩;have e8:f2 Bv vp! gQ! nc!=some eD!:=by
  rw[hk];exact(xQ ((tZ (b1r (f:=Aa 0) (g:=fC (.int 61)) rfl rfl)).trans m1) rfl).trans (a2y b_)
 refine uO e8 ?_;exact c9k ea eb y1 y2 nd hW h2.symm p1 e hR
end
end
section
variable{t:Aq}{M:Mh}{ns:List Int}{os S:List Op}{R:Fl->Mh->Prop}{a ta wa:xY!}{kl:List Int}{ca:Int->Addr}{hv:List Int}{x4:D}
def GM(q1 q:WS)(ρ:Ae)(R:o!)(d:D)(M:Mh):Prop:=match d with
 |.bl b=>(if b=true then q1 ρ M tl_ else q ρ M R)
 |_=>False
def d1s{fa:WE}{q1 q:WS}{ρ:Ae}(h:fa ρ M (GM q1 q ρ R)):Ai (Au (wT fa) q1 Bo) q ρ M R:=h
def d1t{q1 q:WS}{ρ:Ae}(k:q ρ M R):GM q1 q ρ R S_ M:=by show(if false=true then q1 ρ M tl_ else q ρ M R);rw[ak_];exact k
nonrec def hadL(os:h_)(hv:w!):List Op:=os.filter λo=>decide i6_
def c9m(nd:t.nd)(hW:Wo os)(O:tn!)(hS:bf!)(p1:m5!)(pb:e0_)(hR:e6_):
  GF t [J!,eK!,v_,gE!,i9!,none,none,none,none] M R:=by
 have hl:=hW.l;have hu:Hist nd!:=hW.h.upto (Uu hv);have sub:∀o∈hadL os hv,o∈os:=λo ho=>(iP!).1;refine iU (a0d (yy:=4) λb tb wb M1 hb hB fr fb=>?_);have tw:Tw t M1 os to! ⟨S,kl,ca⟩ tp! ⟨[],[],λ_=>b⟩:=⟨O.keep fr,hB,λc h1 h2=>O.lv h1 (fb c h2),⟨hS,λo ho=>p1.mem_iff.mp ho⟩,.nil,Be!⟩;refine iU ?_;show Bf 1 [3] dc_ D! (Cv _) h! tq_ M1 _;have hi:Ei u_ tq_=some at!:=qQ rfl;unfold Bf Hf;refine uS (w:=[gE!]) (r:=λo=>decide i6_) a! (λo ho K hK=>tJ (d4k pb (hW.h.op o ho)) K hK) ?_;have el:f1 Bk gz! [J!,eK!,v_,gE!,i9!,m6!,tr_,none,none]=some (.int ((nd!).length:Nat)):=by
  show some (D.int ((ne!).length:Nat))=_;rw[IP]
 refine d1s (a5f (gJ (a:=.fn b) (b:=.lst ne!) rfl rfl (a1t nd hW tw d8_ (by rw[JS];exact hu) sub λM2 v2 q1 h2=>?_)));refine lS el b0k (d1t ?_);rw[JS]at q1;have pm:=bJ (kf:=Op.key) os;refine iU ?_;refine fY m8! m9_ _ ?_;refine uS (w:=[tr_]) (r:=λo=>!decide (o∈hadL os hv)) tt! (λo ho K hK=>nW (fH bt_ bt_ (c9z hW.h sub mK_)) K hK) ?_;refine c9l (p:=to!) (p2:=tp!) (v:=⟨S,kl,ca⟩) rfl rfl ai_ d8_ nd hW h2 p1 ?_ hR;unfold rst;rw[q1,gV p1 hS.keys]
def c9n(nd:t.nd)(hW:Wo os)(O:tn!)(hS:bf!)(p1:m5!)(hR:e6_):
  GG t nf! M R:=by
 have hl:=hW.l;have pb:(Zb ns).length=16:=by unfold Zb;simp
 have pm:=bJ (kf:=Op.key) os;refine oI (d3b rfl) ?_;refine iU (gJ (a:=aa_) (b:=.lst sV!) rfl rfl (a0s O hS hW.h p1 a! pb λM1 fr=>?_));refine gQ (ρ:=[J!,eK!,v_,some m1!,some (.lst tu!),none,none,none,none]) (d2c (b:=false) (tJ (f:=Cy vh_) rfl) (λ_=>nW (fH (aV (f:=Aa 4) rfl) (d:=gn!) (y:=.lst tu!) qk! (d4i λo ho=>hW.h.op o (pm.mem_iff.mp (iP!).1)))) (λz=>by cases z)) ?_
 .unfold Bf Ci;refine fY m8! m9_ _ ?_;exact uS (w:=[some m1!]) (r:=λo=>decide tt_) tt! (λo ho K hK=>tJ (d4p pb (hW.h.op o mK_)) K hK) hK
 .exact c9m nd hW md_ hS p1 pb hR
def c0v(nd:t.nd):Zw t lU! M0 (λd _=>d=.bl true):=by
 obtain⟨m,em,m0,_⟩:=iI ns (k:=60);have hN0:0<=m%10:=LS _ b_;obtain⟨N,hN⟩:∃N:Nat,(N:Int)=m%10:=⟨(m%10).toNat,v!⟩;obtain⟨os,ew,hl,hO⟩:=b4m ns 0 N a!;have hW:Wo os:=⟨hO,λo ho=>by have:=(hO.op o ho).hh;omega,v!⟩;refine j_;rw[b8h];have e1:f1 Kb vd! nf_=some f6!:=by
  have h1:f1 Bp vc_ nf_=some bX_:=(tZ (b1r (f:=Aa 0) (g:=fC mw!) rfl rfl)).trans em;have h2:=(xQ (ρ:=nf_) h1 (fb:=fC mv_) (y:=.int 10) rfl).trans (a2y b_);rw[<-hN]at h2;exact(tZ (d1f rfl rfl h2)).trans ew
 refine uO e1 (iU (a0d (yy:=3) λa ta wa M1 ha O _ _=>?_));obtain⟨ze,xu⟩:=hO.part λh=>h==15
 have hi:Ei u_ nf!=some at!:=qQ rfl;have c1:∀{q:ik!} {ft:ac_},(∀o:Op,ft [J_]=some (q o.h))->Pu (Bf 1 [] dc_ D! hI! h!) nf! M1 (.lst ((os.filter λo=>q o.h).map Op.v)):=λhf K hK=>by
  unfold Bf Hf;rw[hi];exact uS (w:=[]) a! (λo ho K hK=>tJ (hf o) K hK) hK
 have ad:Nm M1 (.lst ((tx_).map Op.v)) (.lst ((os.filter λo=>!(o.h==15)).map Op.v))=some (.lst ((tx_++os.filter λo=>!(o.h==15)).map Op.v)):=by
  have:=xu.length_eq;rw[IT]at this;show(if _<=big then some (D.lst _)else none)=_;rw[IL (by simp only[IP];unfold big;omega),JF]
 refine gH (a4v (a:=aa_) rfl (fH (c1 (q:=λh=>h==15) λo=>d3y) (c1 (q:=λh=>!(h==15)) λo=>d3x) ad _ ⟨rfl,b1z nd O (by rw[JS];exact ze) (λo ho=>?_) (by rw[JS,xu.length_eq];omega) λM2 YG YH rm _=>?_⟩))
 .have:=hW.y o (xu.mem_iff.mp ho);omega
 .rw[JS]at rm;exact c9n nd hW rm ze xu λ_=>rfl
end
end K13
namespace K13
open PySem L2 DL
section
variable{P:yJ!}{w:ys!}{K:yN!}{mg:Str->Option Value}{base:Heap}{t:Aq}
def lZ(T:g_):Ok P w K mg base 1 "is_whole" p_ (Ft):=
 eK (σ:=[]) (k:=0) T.C8 a5p (λJ=>(bF (bV (lI (jU c5m rfl T.S7 rfl T.S0 cQ d1a E!) (lI (d0p (jU c1k rfl T.S7 rfl T.R7 cQ c6v E!)) (iL (fQ b3g b3i (bT c2x d0x rfl T.R4 d1b cb_) (bE c8r c8y aC aC) n!)))))))
def jB(T:g_):Ok P w K mg base 2 "is_from_one" p_ (Dv):=
 eK (σ:=[]) (k:=1) T.D1 vT (λJ=>(bF (bV (lI tB_ (iL (fQ d2k d2m E! aC n!))))))
def mB(T:g_):Ok P w K mg base 2 "is_below" gi! (Hd):=
 eK (σ:=[]) (k:=1) T.C9 a5r (λJ=>(bF (bV (lI tB_ (iL (a8h kP kQ b3g b3i aC E! ab!))))))
def jA(T:g_):Ok P w K mg base 3 "is_name" p_ (Ec):=
 eK (σ:=[]) (k:=2) T.D2 a9l (λJ=>(bB ni! (bF (bV (lI (aR (mB T) a_ rfl (aE ap! (aE (gF T.T7 rfl) aN)) ay!) (iL tE!))))))
def lL(T:g_):Ok P w K mg base 4 "is_sign_name" p_ (Eb):=
 eK (σ:=[]) (k:=3) T.D3 uG (λJ=>(bB ni! (bF (bV (lI tH_ (iL (aR (mB T) a_ rfl (aE ap! (aE nk! aN)) ay!)))))))
def b0e(T:g_):Ok P w K mg base 4 "is_item" p_ (Hc):=
 eK (σ:=[]) (k:=3) T.D4 a9m (λJ=>(bF (bV (a1c tJ_ (a1c tK_ (iL tK_))))))
def yM(T:g_):Ok P w K mg base 4 "is_sibling" p_ (Fb):=
 eK (σ:=[]) (k:=3) T.D5 yI (λJ=>(bF (bV (a1c tM! (iL tJ_)))))
def a2p(T:g_):Ok P w K mg base 5 "is_behind" p_ (Fx):=
 eK (σ:=[]) (k:=4) T.D6 a2d (λJ=>(bF (bV (a1c tM! (iL (aR (lL T) a_ rfl cb_ aE_))))))
def b0d(T:g_):Ok P w K mg base 1 "is_sign" dO_ (Ha):=
 eK (σ:=[]) (k:=0) T.D7 a9j (λJ=>(bF (bV (lI (a8h kP kQ kP kQ aS E! aS) (iL (fQ zU zW (bT c2v d0w rfl T.T1 d0z cb_) (gF T.U0 rfl) n!))))))
def b0c(T:g_):Ok P w K mg base 2 "is_text" p_ (Ka):=
 eK (σ:=[]) (k:=1) T.D8 a9i (λJ=>(bB (iD (xU (a0z (gE (fF (jU a4g rfl T.S7 rfl T.T4 cQ b1n E!))) (sV (gE (c2e kP kQ kP kQ aC gL! nk!))))) e9_ eB) (bF (bV (bT (yB rfl) b1m rfl T.R6 b1o (aE (nS (NL:=dO_) (NF:=[]) (ix:=[]) rfl b_ l! (bK (sc:=Ad Nh) rfl l!) Ck.nil b_ rfl (d0l E!) (λ_ _ _ _ _=>aZ (i:=0) (show(dO_:List Str).Nodup by decide+kernel) rfl b!) R_ gN_ (λ_ _ _ _ _=>(aR (b0d T) a_ rfl cb_ aE_))) aN))))))
def tL(T:g_):Ok P w K mg base 3 "is_place" p_ (Du):=
 eK (σ:=[]) (k:=2) T.D9 a5q (λJ=>(bF (bV (aR (mB T) a_ rfl (aE E! (aE (gF T.T9 rfl) aN)) ay!))))
def iN{g:ad!}{ps:r_}{k:Nat}(h:Ok P w K mg base k x ps g)(hm:mg x=some bY!)(hp:T_=1)(hk:k<=5):∃fd ps,T_=1/\Fm P w K mg base Pz 5 hA fd ps kp_/\Ez K fd ps []/\W.keepIn K bY!=true:=by obtain⟨f',fd,h1,h2,h3,h4⟩:=h;rw[hm]at h3;cases h3;exact⟨fd,ps,hp,h1.mono hk,h2,h4⟩
def c5x(T:g_):Zy P w K mg base 5 1 (Lf t):=by
 intro hA g e;unfold Lf at e;show"!6"
 .show"!5";exact iN (b0e T) T.U2 rfl b_
 show"!6"
 .show"!5";exact iN (yM T) T.U3 rfl b_
 show"!6"
 .show"!5";exact iN (a2p T) T.U4 rfl b_
 show"!6"
 .show"!5";exact iN (b0c T) T.U5 rfl b_
 show"!6"
 .show"!5";exact iN (lL T) T.U6 rfl b_
 show"!6"
 .show"!5";exact iN (jB T) T.U7 rfl b_
 show"!6"
 .show"!5";exact iN (tL T) T.U8 rfl b_
 show"!6"
 .show"!5";exact iN (lZ T) T.U9 rfl b_
 show"!6"
 .show"!5";exact iN (jA T) T.V0 rfl b_
 cases e
def iO(T:g_):Dq P w K mg base 1 t.B3 "have" gm_ gG!:=
 cK (σ:=[]) (k:=0) T.V1 T.K8 a2i (λJ=>(aG (bD (qD cD b1j rfl T.S8 dN (aD (qC w_ fb! u! nm_ cD!) aJ)))))
def wL(T:g_):Wr P w K mg base 1 "Hand" t.B3 gm! (Io t):=
 a2t (σ:=[]) (k:=0) T.K7 a9o (λJ=>(aF (gC T.V1 T.W5 n_ u!) (aF (gC T.V1 T.W6 n_ fK) (aF (gC T.V1 T.W7 n_ (a3a aJ)) tV!))))
def b9x(T:g_):Ok P w K mg base 1 "_law_cell" c4_ (Of):=
 eK (σ:=[]) (k:=0) T.O9 b7w (λJ=>(bB (iD (a8c E!) tX_ eB) (bF (bV aC))))
def a2s(T:g_):Kd P w K mg base 1 "_law_children" b7_ (Hu):=
 bX (σ:=[]) (k:=0) T.Q7 a2h (λJ=>(aG (bD (eI (NL:=eG!) (NF:=[a3_]) (ix:=[1]) rfl b_ l! (bK (sc:=Ad Ki) rfl l!) jj_ b_ rfl (eA bj_) jk_ R_ no_ np!))))
def fJ(T:g_):Ok P w K mg base 2 "_law_mix" c4_ (Bp):=
 eK (σ:=[]) (k:=1) T.P0 a2g (λJ=>(bB (fP (i:=2) a2g.nd rfl b! (bE eV eW (bE aQ bS (aR (b9x T) a_ rfl (aE E! gP!) ay!) (bE rZ sA aC t2!)) aC)) (bB (fP (i:=2) a2g.nd rfl b! (bE eV eW (bE rZ sA az! aC) aC)) (bF (bV (bE eV eW (bE aQ bS (bE rZ sA (bE nH nI az! aC) aC) az!) aC))))))
def b5w(T:g_):Ok P w K mg base 1 "_law_items" aD! (Lz):=
 eK (σ:=[]) (k:=0) T.P1 b5c (λJ=>(bF (bV (bE aQ bS (bE aQ bS (gP (n:=8) rfl) (nS (NL:=eG!) (NF:=[]) (ix:=[]) rfl b_ l! (bK (sc:=Ad Os) rfl l!) Ck.nil b_ rfl jm! t4_ R_ (λ_ _ _ _ _=>d2d (bM ay_ cC nr_ aS n!)) t6!)) (gP (n:=12) rfl)))))
def b5v(T:g_):Ok P w K mg base 1 "_law_signs" aD! (Ly):=
 eK (σ:=[]) (k:=0) T.P3 mZ (λJ=>(bB (pG (i:=1) mZ.nd rfl b! (aE dM (aE t7! aN))) (bB (b1c JO rfl jm! mZ.nd rfl b! (bF (iD (bM ay_ cC jp! aS n!) (bF (b1c JO rfl (fI rfl T.T2 (bT cD dY rfl T.S8 dN (aE jp! aN))) mZ.nd rfl b! (bF (sW (i:=1) b_ (dB (aE a7_ (aE a7_ jp_))))))) eB))) (a8d (bF (bV ab!))))))
def b9t(T:g_):Ok P w K mg base 1 "_law_text" oM! (Oe):=
 eK (σ:=[]) (k:=0) T.P4 a5u (λJ=>(bB (fP (i:=2) a5u.nd rfl aM! aS) (bF (bV (c6h aS (nS (NL:=[aJ!]) (NF:=[c5!,mo_]) (ix:=[0,2]) rfl b_ l! (bK (sc:=Ad Qo) rfl l!) (Ck.cons (j:=0) nt_) b_ rfl (fI rfl T.T2 (bE aQ bS aC (bE eV eW E! ab!))) (λ_ _ _ _ _=>aZ (i:=0) (show([aJ!,c5!,mo_]:List Str).Nodup by decide+kernel) rfl b!) R_ gN_ (λ_ _ _ _ _=>(aM aH aK az! (bE eV eW (bE nH nI ab! (bE aQ bS aC (bE rZ sA aC E!))) aC) t_))))))))
def kA(T:g_):Ok P w K mg base 1 "_law_pick" gp_ (Ds):=
 eK (σ:=[]) (k:=0) T.P5 b7u (λJ=>tX_)
def b9w(T:g_):Ok P w K mg base 3 "_law_deed" mq! (Kn):=
 eK (σ:=[]) (k:=2) T.P6 fG (λJ=>(bB (fP (i:=4) fG.nd rfl b! (aR gQ_ a_ rfl (aE E! gP!) ay!)) (bB (fP (i:=5) fG.nd rfl b! (aR (b5w T) a_ rfl d7_ aE_)) (bB (fP (i:=6) fG.nd rfl b! (aR gR! a_ rfl (aE (bE aQ bS (cZ aK_ d6! dW) (cZ aK_ dW d6!)) gR_) ay!)) (bB (fP (i:=7) fG.nd rfl b! (aR gR! a_ rfl (aE (bE aQ bS aK_ nu_) gR_) ay!)) (bB (iD (fF (jU a4g rfl T.S7 rfl T.T4 cQ b1n cd!)) (bF (fP (i:=7) fG.nd rfl b! dM)) eB) (bB (fP (i:=8) fG.nd rfl b! (gP (n:=19) rfl)) (bB (fP (i:=9) fG.nd rfl b! (aM aH aK cd_ ue! t_)) (bB (iD gS! (bF (bV (dB (aE cE_ uf_)))) eB) (bB (iD gS! (bF (bV (dB (aE cE_ (aE bP_ uf_))))) eB) (bB (iD gS! (bF (bV (dB (aE cE_ nv_)))) eB) (bB (fP (i:=10) fG.nd rfl b! (aR gR! a_ rfl (aE (aR (b5v T) a_ rfl d7_ aE_) gR_) ay!)) (bB (iD gS! (bF (bV (dB (aE cE_ (aE bP_ (aE js_ (aE (aR (b9t T) a_ rfl (aE uc! jp_) ay!) aN))))))) eB) (bB (iD (xU (xT gS! (qV (bM nF nL js_ dM n!)))) (bF (bV (dB (aE cE_ (aE bP_ (aE js_ (aE (bE aQ bS aC (bE eV eW uk! (bE rY sF aC (aM aH aK js_ aC t_)))) aN))))))) eB) (bB (iD (bM b5p d2o cE_ nu_ rfl) (bF (bV (dB (aE aS (aE bP_ (aE ul_ (aE (bE rY sF ul_ aC) aN))))))) eB) (bB (fP (i:=11) fG.nd rfl b! (bE aQ bS (nS (NL:=eG!) (NF:=[]) (ix:=[]) rfl b_ l! (bK (sc:=Ad Qs) rfl l!) Ck.nil b_ rfl (fD az!) t4_ R_ gN_ t6!) (sX (aE (dB (aE aC (aE (bE aQ bS aC ue!) aN))) aN)))) (bF (bV (dB (aE cE_ (aE (aR gR! a_ rfl (aE (aA 11) gR_) ay!) aN)))))))))))))))))))))
def a6p(T:g_):Kd P w K mg base 1 "_law_hang" c6! (Go):=
 bX (σ:=[]) (k:=0) T.Q0 jY (λJ=>(aF (nN (i:=4) (NL:=eG!) (NF:=[a3_]) (ix:=[1]) jY.nd rfl b! rfl b_ l! (bK (sc:=Ad Qq) rfl l!) jj_ b_ rfl (eA bj_) jk_ R_ (λ_ _ _ _ _=>jF (eQ (bM aF! sH ap! ab! n!))) ce_) (aF (bC (i:=5) jY.nd rfl b! ak!) (aF (kB JO (eQ (xU (xT (bM b3g b3i aK_ us! n!) (qV (bM aF! sH (aM aH aK (aM aH aK bl! aK_ t_) aC t_) az! n!))))) (aG (bC (i:=5) jY.nd rfl b! (aB (bE aQ bS aK_ aC))))) (aF (fE JO rfl (lR (fI rfl T.T2 us!)) (aZ (i:=6) jY.nd rfl b!) (dR 6) (aG (cE (eQ (xU (xT (bM nF nL a8! dM n!) (qV (bM ay_ cC (aM aH aK bl! bP_ t_) (dB (aE a8! d7_)) n!))))) (aG (bC (i:=5) jY.nd rfl b! (aB (bE aQ bS bP_ aC)))) bN))) (aG (dI w_ n_ bk! (aB (bE aQ bS (bE aQ bS (cZ bl! dW (dU aK_)) (sX (aE (dB (aE ab! d7_)) aN))) (cZ bl! (dU aK_) dW))))))))))
def b9v(T:g_):Kd P w K mg base 1 "_law_lies" mr_ (Mf):=
 bX (σ:=[]) (k:=0) T.Q3 vW (λJ=>(aF (kB JO (eQ uC!) (aF (nN (i:=3) (NL:=eG!) (NF:=[a3_]) (ix:=[1]) vW.nd rfl b! rfl b_ l! (bK (sc:=Ad Qp) rfl l!) jj_ b_ rfl (eA bj_) jk_ R_ no_ np!) (aF (cE (eQ (gE (a8c a8!))) bR! bN) (aG (bC (i:=1) vW.nd rfl aM! gV_))))) bR!))
def a6o(T:g_):Kd P w K mg base 2 "_law_move" c6! (Ji):=
 bX (σ:=[]) (k:=1) T.Q4 b7v (λJ=>(aG (cE (sK (oW (cN cf! eX u! bj_ rfl) (kX (sK (a0b (cN cf! eX E_ bj_ rfl) (sJ (cN cf! eX E_ gW! rfl))))))) (aG (cE (oX (fL (aO (b9v T) a_ rfl (aD n_ nE_)))) (aG (cR (aO (a6p T) a_ rfl (aD n_ (aD u! nH!))))) bN)) bN)))
def c8z(T:g_):Kd P w K mg base 3 "_law_do" mt_ (Wa):=
 bX (σ:=[]) (k:=2) T.Q5 iX (λJ=>(aF (bC (i:=2) iX.nd rfl aM! gX!) (aF (bC (i:=3) iX.nd rfl aM! (aB (dB (aE fe! (aE fe! aN))))) (aG (cE cf_ (aF (bC (i:=4) iX.nd rfl b! (c7k (jP cf! eX bD! bj_ rfl) (sL (aB (fQ ay_ cC a7_ aS n!))))) (aF (dI w_ bj_ aV! nm_) (aF (dI w_ bj_ aV! (a3a (aD ak! (aD ak! (aD ak! jy!))))) (aG (cR (aO (a6p T) a_ rfl (aD n_ (aD aV! (aD (aB (d3k (fF bl!) a7_ aS)) jz_))))))))) (aG (cE cf_ (aG (cR (aO (a6o T) a_ rfl (aD n_ gY_)))) (aG (cE cf_ (aG (cR (aO (a6o T) a_ rfl (aD n_ uP!)))) (aG (cE nK_ (aG (dI w_ uQ! bD! bD!)) (aG (cE nK_ (aF uR! (aF (bC (i:=6) iX.nd rfl b! ak!) (aF (fE JO rfl (lR (fI rfl T.T2 (bT cD dY rfl T.S8 dN (aE aK_ aN)))) (aZ (i:=7) iX.nd rfl b!) (dR 7) (aG (cE (eQ (bM ay_ cC (aM aH aK (aM aH aK aK_ cd! t_) aC t_) a7_ n!)) (aG (bC (i:=6) iX.nd rfl b! (aB (bE aQ bS cd! aC)))) bN))) (aF (nN (i:=8) (NL:=[aJ!]) (NF:=[eV!,ms!]) (ix:=[2,3]) iX.nd rfl b! rfl b_ l! nL_ (Ck.cons (j:=2) gZ_) b_ rfl (lR (fI rfl T.T2 (bT cD dY rfl T.S8 dN (aE a7_ aN)))) (λ_ _ _ _ _=>aZ (i:=0) (show([aJ!,eV!,ms!]:List Str).Nodup by decide+kernel) rfl b!) R_ d9_ (λ_ _ _ _ _=>(aB (dB (aE (bE aQ bS az! (dB cb_)) (aE (aM aH aK fe! E! t_) (aE eG aN))))))) (aG (dI w_ bj_ bD! (aB (bE aQ bS (bE aQ bS (cZ aK_ dW (dU bP_)) cd_) (cZ aK_ (dU bP_) dW))))))))) (aG (cE nK_ (aF (bC (i:=9) iX.nd rfl aM! (eI (NL:=[aJ!]) (NF:=[eV!]) (ix:=[2]) rfl b_ l! nL_ nt_ b_ rfl (lR (fI rfl T.T2 a7_)) (λ_ _ _ _ _=>aZ (i:=0) (show([aJ!,eV!]:List Str).Nodup by decide+kernel) rfl b!) R_ d9_ (λ_ _ _ _ _=>(aB (bE aQ bS (cZ fe! dW d6!) (dB (aE (bE aQ bS (aM aH aK fe! aC t_) E!) aN))))))) (aF uR! (aG (dI w_ bj_ bD! (eI (NL:=[jB_]) (NF:=[mt!]) (ix:=[9]) rfl b_ l! nL_ (Ck.cons (j:=9) Ck.nil) b_ rfl (lR (fD aK_)) (λ_ _ _ _ _=>aZ (i:=0) (show([jB_,mt!]:List Str).Nodup by decide+kernel) rfl b!) R_ d9_ (λ_ _ _ _ _=>(c0n (aD d6_ (aD d6_ (aD (sM d6_ (sL (jP g1! eX d6_ u! rfl))) aJ)))))))))) bN)))))))))))))))
def hX(T:g_):Kd P w K mg base 1 "_law_ordered" aD! (Cp):=
 bX (σ:=[]) (k:=0) T.P8 gY (λJ=>(aF (c0h (pG (i:=1) gY.nd rfl b! aN)) (aF (fE JO rfl (lR jm!) (aZ (i:=2) gY.nd rfl b!) (dR 2) (aF (bC (i:=3) gY.nd rfl b! (aB (b4c u8!))) (aF (kB JO (eQ (xU (xT (bM b3h b3j a8! aC n!) (qV (bM (c8w (Al.units0 J)) c9d (dB (aE u9! (aE u9! aN))) (dB (aE a7_ (aE a7_ aN))) n!))))) (aG (bC (i:=3) gY.nd rfl b! (aB u8_)))) (aG (c0h (b6s (i:=1) b_ a8! az!)))))) (wO eb!))))
def b0g(T:g_):Kd P w K mg base 2 "_law_undone" aD! (Me):=
 bX (σ:=[]) (k:=1) T.P9 oN (λJ=>(aF (bC (i:=1) oN.nd rfl b! fK) (aF (fE JO rfl vc! (aZ (i:=2) oN.nd rfl b!) (dR 2) (aG (cE (cN cf! eX jC! gW! rfl) (aG (dI w_ u! jC! (aB (fQ ay_ cC jp! aS n!)))) bN))) eb!)))
def b9u(T:g_):Kd P w K mg base 4 "_law_play" aD! (Qb):=
 bX (σ:=[]) (k:=3) T.Q6 pM (λJ=>(aF (bC (i:=1) pM.nd rfl b! (qB w_ (iP bk! nm_ (iP bk! fK (iP bk! fK wP))))) (aF (bC (i:=2) pM.nd rfl b! (aO (b0g T) a_ rfl bR_)) (aF (fE JO rfl vc! (aZ (i:=3) pM.nd rfl b!) df_ (aG (cE (sK (oW (cN g1! eX (aB (aM aH aK jw! aC t_)) gW! rfl) (kX (oX (fL (qC w_ E_ (aB (dB (aE jw! (aE jw! aN)))) fd_ cD!)))))) (aG (cR (aO (c8z T) a_ rfl nP_))) bN))) eb!))))
def wK(T:g_):Kd P w K mg base 1 "_law_shown_text" b7_ (Hg):=
 bX (σ:=[]) (k:=0) T.Q8 vV (λJ=>(aG (bD (b3p (eI (NL:=[jB_]) (NF:=[]) (ix:=[]) rfl b_ l! (bK (sc:=Ad Iu) rfl l!) Ck.nil b_ rfl (eA (bZ Q_ bG bj_ u! t_)) (λ_ _ _ _ _=>aZ (i:=0) (show([jB_]:List Str).Nodup by decide+kernel) rfl b!) R_ (λ_ _ _ _ _=>jF (eQ (fF ap!))) np!)))))
def gB(T:g_):Dq P w K mg base 1 t.B4 "has" K_ gy!:=
 cK (σ:=[]) (k:=0) T.V2 T.F9 vU (λJ=>(aG (bD (jP cf! eX u! fg! rfl))))
def sB(T:g_):Ok P w K mg base 1 "time_and_hand" by! (Di):=
 eK (σ:=[]) (k:=0) T.E4 rL (λJ=>(bF (bV t5_)))
def mD(T:g_):Ok P w K mg base 4 "in_order" a2_ (Dl):=
 eK (σ:=[]) (k:=3) T.E5 a5s (λJ=>(bF (bV (c2l (sB T) (Al.in1 (Al.in1 a_)) rfl rfl T.T3 E!))))
def nK(T:g_):Wr P w K mg base 1 "Row" t.B5 aW! (Hs t):=
 a2t (σ:=[]) (k:=0) T.E6 b5b (λJ=>(aF (gC T.V3 T.V4 n_ vn!) (aG (gC T.V3 T.V5 n_ vn!))))
def yN(T:g_):Wr P w K mg base 3 "Outline" t.B4 aW! (Ii t):=
 a2t (σ:=[]) (k:=2) T.F8 yJ (λJ=>(aF (gC T.V2 T.V6 n_ (qB w_ (iP bk! cD_ (iP bk! cD_ wP)))) (aF (gC T.V2 T.V7 n_ (qB w_ (iP bk! jF! (iP bk! jF! wP)))) (aF (gC T.V2 T.V8 n_ fK) (aF (gC T.V2 T.V9 n_ fK) (aF (gC T.V2 T.W3 n_ fK) (aG (gC T.V2 T.W4 n_ fK))))))))
def iZ(T:g_):Ok P w K mg base 1 "is_undo_or_redo" by! (Bb):=
 eK (σ:=[]) (k:=0) T.J8 oK (λJ=>(bF (bV (a1c vr! (iL vr!)))))
def yL(T:g_):Kd P w K mg base 5 "last_words" a2_ (Gk):=
 bX (σ:=[]) (k:=4) T.J9 jJ (λJ=>(aF (bC (i:=1) jJ.nd rfl b! fK) (aF (fE JO rfl vs_ (aZ (i:=2) jJ.nd rfl b!) (dR 2) (aG (cE (eQ (fF (aR (iZ T) a_ rfl d7_ aE_))) (aG (dI w_ u! jC! jC!)) bN))) eb!)))
def b5q(T:g_):Kd P w K mg base 6 "undone" a2_ (Lv):=
 bX (σ:=[]) (k:=5) T.K0 jW (λJ=>(aF (bC (i:=1) jW.nd rfl b! (aO (yL T) a_ rfl bR_)) (aF (bC (i:=2) jW.nd rfl b! fK) (aF (fE JO rfl (lR jm!) (aZ (i:=3) jW.nd rfl b!) df_ (aF (bC (i:=4) jW.nd rfl b! nV_) (aG (cE (sK (oW (eQ (gE (fF (aR (iZ T) a_ rfl jp_ aE_)))) (kX (cN ay_ g2_ (c0q w_ u! bD_ cD!) bk! n!)))) (aG (dI w_ E_ bD_ fd_)) bN)))) g3!))))
def pX(T:g_):Dq P w K mg base 1 t.B5 "holds" K_ (Ht t):=
 cK (σ:=[]) (k:=0) T.V3 T.E7 a2f (λJ=>(aG (bD (sM vu_ (sL (jP cf! eX u! dg! rfl))))))
def gA(T:g_):Dq P w K mg base 2 t.B5 "put_behind" me_ (Cw t):=
 cK (σ:=[]) (k:=1) T.V3 T.E8 fW (λJ=>(aF (bC (i:=3) fW.nd rfl b! (c7l (fL (bU (pX T) a_ n_ eb_)) E_ cD_)) (aF (bC (i:=4) fW.nd rfl b! (bZ Q_ bG dg! aV! t_)) (aF (dI w_ dg! aV! u!) (aF (dI w_ jH_ u! aV!) (aF (dI w_ dg! u! bD_) (aG (dI w_ jH_ bD_ u!))))))))
def wI(T:g_):Dq P w K mg base 3 t.B4 "put" c4! (Jo t):=
 cK (σ:=[]) (k:=2) T.V2 T.G8 lU (λJ=>(aF (bC (i:=4) lU.nd rfl b! (c7l (fL vv!) E_ bk!)) (aF (dI w_ nW_ u! bD_) (aF (cR (bU (gA T) a_ (bZ Q_ bG fg! bD_ t_) nP_)) (aF (dI w_ fg! u! jF!) (aF (dI w_ jI! u! jF!) (aG (dI w_ vw_ u! (c5a jy! (aB (gF T.T9 rfl)))))))))))
def uL(T:g_):Dq P w K mg base 1 t.B5 "take_out" K_ (Jb t):=
 cK (σ:=[]) (k:=0) T.V3 T.E9 iF (λJ=>(aF (bC (i:=2) iF.nd rfl b! (c0p w_ jH_ u! cD!)) (aF (bC (i:=3) iF.nd rfl b! (c0p w_ dg! u! cD!)) (aF (dI w_ dg! E_ aV!) (aG (dI w_ jH_ aV! E_))))))
def dC(T:g_):Dq P w K mg base 1 t.B4 "has_item" K_ (Ch t):=
 cK (σ:=[]) (k:=0) T.V2 T.G6 nU (λJ=>(aG (bD (jP cf! eX u! jI! rfl))))
def mF(T:g_):Dq P w K mg base 1 t.B4 "is_within" gj! (Fi t):=
 cK (σ:=[]) (k:=0) T.V2 T.G7 gX (λJ=>(aF (kB JO (eQ (xU (xT (bM nF nL ab! dM n!) (qV uC!)))) (aG (bC (i:=1) gX.nd rfl b! nX_))) (aG (bD vu_))))
def nY(T:g_):Dq P w K mg base 2 t.B4 "can_move" gj_ (Fu t):=
 cK (σ:=[]) (k:=1) T.V2 T.G9 nV (λJ=>(aG (bD (sM nY! (sM vv! (sL (c9g (bU (mF T) a_ n_ nE_))))))))
def lM(T:g_):Dq P w K mg base 3 t.B4 "move" c4! (Gn t):=
 cK (σ:=[]) (k:=2) T.V2 T.H9 uI (λJ=>(aF (cE (oX (fL (bU (nY T) a_ n_ (aD u! eb_)))) (aG a2x) bN) (aF (cR (bU (uL T) a_ (bZ Q_ bG fg! nX_ t_) aF_)) (aF (cR (bU (gA T) a_ (bZ Q_ bG fg! E_ t_) nP_)) (aG (dI w_ nW_ u! E_))))))
def sE(T:g_):Dq P w K mg base 3 t.B4 "write" mg! (Hz t):=
 cK (σ:=[]) (k:=2) T.V2 T.J0 dP (λJ=>(aF (cE (oX (fL (bU (dC T) a_ n_ eb_))) (aG a2x) bN) (aF (bC (i:=5) dP.nd rfl b! aV!) (aG (fE JO rfl (lR (c2k rfl T.R9 bl!)) (b9b rfl (pR (aZ (i:=6) dP.nd rfl b!) (pR (aZ (i:=7) dP.nd rfl b!) b2z))) (c1r 6 7) (aF (bC (i:=8) dP.nd rfl b! (aB (bE aQ bS ab! (dB nv_)))) (aF (cR (bU (gA T) a_ (bZ Q_ bG jI! E_ t_) (aD jN! jM!))) (aF (dI w_ (bI T.V2 T.W3 n_) jN! (aB cd!)) (aG (bC (i:=5) dP.nd rfl b! jN!))))))))))
def wJ(T:g_):Dq P w K mg base 2 t.B4 "cut" mh! (Jp t):=
 cK (σ:=[]) (k:=1) T.V2 T.J1 iW (λJ=>(aF (cE (oX (fL nY!)) (aG a2x) bN) (aG (fE JO rfl (lR (b6t rfl T.T2 a7_ (bE aQ bS a7_ a8!))) (aZ (i:=4) iW.nd rfl b!) (dR 4) (aF (bC (i:=5) iW.nd rfl b! (aB (bE aQ bS (cZ az! dW d6!) (dB (aE bl! aN))))) (aG (cE (fL (bU (pX T) a_ vH_ jM!)) (aG (dI w_ (bI T.V2 T.W4 n_) dh_ fd_)) bN)))))))
def lP(T:g_):Dq P w K mg base 2 t.B4 "set_number" gl! (Ex t):=
 cK (σ:=[]) (k:=1) T.V2 T.J2 lN (λJ=>(aG (cE (fL nY!) (aG (dI w_ vK! E_ aV!)) bN)))
def c4w(T:g_):Kd P w K mg base 4 "play" gl_ (Nk t):=
 bX (σ:=[]) (k:=3) T.K4 c3u (λJ=>(aG (cE cf_ (aG (cR (bU (wI T) a_ n_ (aD u! (aD bD! jz_))))) (aG (cE cf_ (aG (cR (bU (lM T) a_ n_ gY_))) (aG (cE cf_ (aG (cR (bU (lM T) a_ n_ uP!))) (aG (cE cf_ (aG (cR (bU (sE T) a_ n_ (aD u! gY_)))) (aG (cE cf_ (aG (cR (bU (wJ T) a_ n_ gY_))) (aG (cE cf_ (aG (cR (bU (lP T) a_ n_ gY_))) bN)))))))))))))
def b5r(T:g_):Kd P w K mg base 7 "played" a2_ (Jz t):=
 bX (σ:=[]) (k:=6) T.K6 jX (λJ=>(aF (bC (i:=1) jX.nd rfl b! (mH (yN T) a_ rfl)) (aF (bC (i:=2) jX.nd rfl b! (aO (b5q T) a_ rfl bR_)) (aF (fE JO rfl vs_ (aZ (i:=3) jX.nd rfl b!) df_ (aF (bC (i:=4) jX.nd rfl b! nV_) (aG (cE (cN g1! eX bD_ E_ rfl) (aG (cR (aO (c4w T) a_ rfl (aD u! (aD bD_ (aD gV_ aJ)))))) bN)))) eb!))))
def pV(T:g_):Kd P w K mg base 5 "all_taken" by_ (Ew t):=
 bX (σ:=[]) (k:=4) T.K9 kM (λJ=>(aF (c0h (pG (i:=1) kM.nd rfl b! aN)) (aF (fE JO rfl (c0l fb!) (aZ (i:=2) kM.nd rfl b!) (dR 2) (aG (b6e (i:=1) b_ (bZ Q_ bG fb! E_ t_)))) (wO (aG (bD (aB (aR (mD T) a_ rfl gP! aE_))))))))
def jO(T:g_):Kd P w K mg base 8 "outline_of" by_ (Dk t):=
 bX (σ:=[]) (k:=7) T.L0 yH (λJ=>(aF (cE (cN a9z (Ia.m b0h) vM_ cD_ n!) (aG (gC T.V1 T.W8 n_ (aO (b5r T) a_ rfl (aD vN_ aJ)))) bN) (aG (bD vM_))))
def a6m(T:g_):Kd P w K mg base 9 "there" W! g1_:=
 bX (σ:=[]) (k:=8) T.N8 b7r (λJ=>(aG (bD (bU (gB T) a_ n5! aF_))))
def mE(T:g_):Dq P w K mg base 1 t.B4 "parent_of" K_ (Fh t):=
 cK (σ:=[]) (k:=0) T.V2 T.J3 lV (λJ=>(aG (bD nX_)))
def eY(T:g_):Kd P w K mg base 9 "outline_with_item" W! (Cq t):=
 bX (σ:=[]) (k:=8) T.N6 gW (λJ=>(aF (bC (i:=2) gW.nd rfl b! n5!) (aF (cE (oX (fL (bU (dC T) a_ E_ aF_))) ee! bN) g3!)))
def b5s(T:g_):Kd P w K mg base 10 "parent" W! (Od t):=
 bX (σ:=[]) (k:=9) T.N9 b4y (λJ=>(aG (bD (bU (mE T) a_ n5_ aF_))))
def oA(T:g_):Dq P w K mg base 1 t.B5 "listed" aW! (Ih t):=
 cK (σ:=[]) (k:=0) T.V3 T.F7 gR (λJ=>(aF (c0h (pG (i:=1) gR.nd rfl b! aN)) (aF (bC (i:=2) gR.nd rfl b! (bZ Q_ bG dg! cD_ t_)) (aF (kB JO (eQ (bM nF nL az! dM n!)) (aF (c0h (sW (i:=1) b_ az!)) (aG (bC (i:=2) gR.nd rfl b! (bZ Q_ bG dg! E_ t_))))) (wO eb!)))))
def kU(T:g_):Dq P w K mg base 2 t.B4 "children_of" K_ (Et t):=
 cK (σ:=[]) (k:=1) T.V2 T.J4 kN (λJ=>(aG (bD (a6x (oA T) a_ (bZ Q_ bG fg! u! t_)))))
def uJ(T:g_):Kd P w K mg base 9 "outline_with" mm! (Iz t):=
 bX (σ:=[]) (k:=8) T.N5 lK (λJ=>(aF (bC (i:=2) lK.nd rfl b! n5!) (aF (cE (oX (fL (bU (gB T) a_ E_ aF_))) ee! bN) g3!)))
def a6n(T:g_):Kd P w K mg base 10 "children" W! (Ja t):=
 bX (σ:=[]) (k:=9) T.O0 a5t (λJ=>(aG (bD (bU (kU T) a_ (aO (uJ T) a_ rfl dl!) aF_))))
def nX(T:g_):Dq P w K mg base 2 t.B4 "signs_of" aQ_ (Dm t):=
 cK (σ:=[]) (k:=1) T.V2 T.J5 nT (λJ=>(aG (bD (eI (NL:=[ao!]) (NF:=aW!) (ix:=[0]) rfl b_ l! (bK (sc:=Ad Ff) rfl l!) jU_ b_ rfl (eA (a6x (oA T) a_ vH_)) vP_ R_ (λ_ _ _ _ _=>jF (cN g1! eX n_ (bI T.V2 T.W4 u!) rfl)) ce_))))
def oV(T:g_):Dq P w K mg base 3 t.B4 "text_of" aQ_ (Gm t):=
 cK (σ:=[]) (k:=2) T.V2 T.J6 oM (λJ=>(aG (bD (b3p (eI (NL:=[ao!]) (NF:=aW!) (ix:=[0]) rfl b_ l! (bK (sc:=Ad Fp) rfl l!) jU_ b_ rfl (eA (bU (nX T) a_ n_ aF_)) vP_ R_ d9_ (λ_ _ _ _ _=>(bZ Q_ bG (bI T.V2 T.W3 u!) n_ t_)))))))
def c4v(T:g_):Kd P w K mg base 10 "text" W! (Ta t):=
 bX (σ:=[]) (k:=9) T.O3 c3t (λJ=>(aG (bD (bU (oV T) a_ n5_ aF_))))
def lQ(T:g_):Dq P w K mg base 1 t.B4 "numbers_of" aQ_ (Ey t):=
 cK (σ:=[]) (k:=0) T.V2 T.J7 lO (λJ=>(aG (bD (a0g qY c6p rfl T.S9 vG (aD vK! aJ)))))
def kR(T:g_):Kd P w K mg base 10 "outline_with_number" b7! (Es t):=
 bX (σ:=[]) (k:=9) T.N7 kK (λJ=>(aF (cE (eQ (gE (fF (aR (tL T) a_ rfl d7_ aE_)))) ee! bN) (aG (bD n5_))))
def b5t(T:g_):Kd P w K mg base 11 "number" b7! (Lw t):=
 bX (σ:=[]) (k:=10) T.O4 b4z (λJ=>(aG (bD (bZ Q_ bG (bU (lQ T) a_ (aO (kR T) a_ rfl (aD n_ (aD u! eb_))) aF_) E_ t_))))
def zY(T:g_):Kd P w K mg base 12 "_law_shows" mu! (Kc t):=
 bX (σ:=[]) (k:=11) T.Q9 nA (λJ=>(aF (bC (i:=2) nA.nd rfl b! (aO (b9u T) a_ rfl aF_)) (aF (fE JO rfl (eA (a0f aQ nJ gW! (a0g (zF rfl) c2s rfl T.S9 vG (aD jV! aJ)))) vV! df_ (aG (cE (sK (a0b (cN b5o (Ia.m b9y) (aO (a6m T) a_ rfl fm!) fd_ n!) (sJ (cN aF! iH (aO (a6n T) a_ rfl fm!) (aO (a2s T) a_ rfl nH!) n!)))) bR! bN))) (aF (fE JO rfl (c0l jV!) vV! df_ (aF (cE (cN aF! iH (aO (c4v T) a_ rfl fm!) (aO (wK T) a_ rfl nH!) n!) bR! bN) (aF (cE (cN aF! iH (c9h (aD (c0n (aD aV! (aD (aO (b5s T) a_ rfl fm!) aJ))) aJ)) (eI (NL:=eG!) (NF:=[a3_]) (ix:=[3]) rfl b_ l! vW_ gZ_ b_ rfl (eA jV!) jk_ R_ no_ ce_) n!) bR! bN) (aG (cE (cN aF! iH (eI (NL:=[aJ!]) (NF:=[iI!,a3_]) (ix:=[0,3]) rfl b_ l! vW_ (Ck.cons (j:=0) gZ_) b_ rfl vX_ (λ_ _ _ _ _=>aZ (i:=0) (show([aJ!,iI!,a3_]:List Str).Nodup by decide+kernel) rfl b!) R_ d9_ (λ_ _ _ _ _=>(aO (b5t T) a_ rfl (aD u! (aD E_ bR_))))) (bZ Q_ bG jV! aV! t_) n!) bR! bN))))) (aG (bD (jP c8t (Ia.m b9y) (aO (a6m T) a_ rfl (aD n_ (aD gW! aJ))) fd_ n!)))))))
def b5u(T:g_):Ok P w K mg base 4 "_law_world" mq_ (Kb):=
 eK (σ:=[]) (k:=3) T.P7 fR (λJ=>(bB (pG (i:=3) fR.nd rfl b! aN) (bB (pG (i:=4) fR.nd rfl b! v0_) (bB (pG (i:=5) fR.nd rfl b! v0_) (bB (b1c JO rfl (fI rfl T.T2 az!) fR.nd rfl b! (bB (fP (i:=7) fR.nd rfl b! (aR gQ_ a_ rfl (aE E! (aE v1_ aN)) ay!)) (bB (fP (i:=8) fR.nd rfl b! (bE eV eW cd! aC)) (bB (c2f (i:=4) b_ cd_ (bE aQ bS v3! aC)) (bB (c2f (i:=5) b_ cd_ (bE aQ bS (bE aQ bS v4! aC) (bE eV eW (bE nH nI cd! aC) aC))) (bB (fP (i:=9) fR.nd rfl b! (b4c (aR (b9w T) a_ rfl (aE E! (aE (bE aQ bS v1_ aC) (aE a8! jY!))) (aL (aL ay!))))) (bF (sW (i:=3) b_ (dB (aE (aM aH aK t7! cd_ t_) (aE v3! (aE v4! (aE cE_ aN))))))))))))) (a8d (bF (bV a8!))))))))
def zX(T:g_):Kd P w K mg base 1 "accept" aw! (Lx t):=
 bX (σ:=[]) (k:=0) T.M7 b5a (λJ=>(aF (cR (b3q (a0e w_ fb! gX! (a3a aJ) cD!) u!)) tV!))
def oU(T:g_):Kd P w K mg base 2 "is_next" aw! (Hb t):=
 bX (σ:=[]) (k:=1) T.L6 a9k (λJ=>(aG (bD (jP ay_ g2_ gX! (a0f aQ nJ v9! ak!) n!))))
def pW(T:g_):Kd P w K mg base 3 "accept_waiting" by_ (Fc t):=
 bX (σ:=[]) (k:=2) T.M9 dZ (λJ=>(aF (bC (i:=1) dZ.nd rfl b! ak!) (aF wa! (aF (kB JO (eQ (bM b3h b3j (bT cD dY rfl T.S8 dN d7_) aC n!)) (aF iA (aF (cR (aO (zX T) a_ rfl (aD n_ jz_))) (aF (c0i (i:=1) dZ.nd rfl b! ak!) (aG wa!))))) eb!))))
def a2r(T:g_):Ok P w K mg base 6 "are_parts" gi_ (Hr t):=
 eK (σ:=[]) (k:=5) T.E1 a2e (λJ=>(bB (iD (bM zU zW gL! u8! n!) e9_ eB) (bF (bV (bT (yB rfl) b1m rfl T.R6 b1o (aE (nS (NL:=wb!) (NF:=[]) (ix:=[]) rfl b_ l! (bK (sc:=Ad Kh) rfl l!) Ck.nil b_ rfl (d0k rfl T.T6 d0y ab! E!) (λ_ _ _ _ _=>b9b rfl (pR (aZ (i:=0) wc! rfl b!) (pR (aZ (i:=1) wc! rfl b!) b2z))) (c5v 0 1) gN_ (λ_ _ _ _ _=>(c2m (j:=0) (n:=1) (c5x T) a_ gP! aE_))) aN))))))
def b0f(T:g_):Ok P w K mg base 7 "is_deed" p_ (Im t):=
 eK (σ:=[]) (k:=6) T.E2 a9n (λJ=>(bB (iD (xU (a0z tD! (sV (bM ay_ cC gL! aC n!)))) e9_ eB) (bB (iD (xU (a0z (gE (fF (jU a4g rfl T.S7 rfl T.T4 cQ b1n ap!))) (sV (b6r wd! rfl ap!)))) e9_ eB) (bB (iD (gE (fF (aR (a2r T) a_ rfl (aE (cZ E! d6! dW) (aE (c6j wd! rfl ap! t_) aN)) ay!))) e9_ eB) (bF (bV (a1c (fQ zU zW ap! aS n!) (iL (fQ kP kQ (bE aQ bS nr_ ap!) nk! n!)))))))))
def uK(T:g_):Ok P w K mg base 8 "is_operation" p_ (Ca t):=
 eK (σ:=[]) (k:=7) T.E3 uH (λJ=>(bB ni! (bF (bV (lI tH_ (lI tE! (iL (aR (b0f T) a_ rfl nj_ aE_))))))))
def pT(T:g_):Kd P w K mg base 2 "was_taken" aw! (Fw t):=
 bX (σ:=[]) (k:=1) T.L5 a2b (λJ=>(aG (bD (jP kP (Ia.m kQ) gX! v9! n!))))
def sC(T:g_):Kd P w K mg base 3 "not_yet_taken" bN! (Er t):=
 bX (σ:=[]) (k:=2) T.L8 dO (λJ=>(aF (bC (i:=2) dO.nd rfl b! fK) (aF (fE JO rfl (eA (a0f aQ nJ hb_ u!)) (aZ (i:=3) dO.nd rfl b!) df_ (aF (bC (i:=4) dO.nd rfl b! nV_) (aF (cE (fL (aO (pT T) a_ rfl fm!)) (aG (bC (i:=5) dO.nd rfl b! (bZ Q_ bG (bZ Q_ bG fb! (aB of!) t_) (aB (bE rY sF of! aC)) t_))) (aG (cE (cN ay_ g2_ (aB of!) (bI T.V1 T.W5 n_) n!) ee! (aG (bC (i:=5) dO.nd rfl b! (a0e w_ E_ bD_ aV! cD!)))))) (aG (cE (eQ (bM aF! sH aK_ a8! n!)) ee! bN))))) g3!)))
def a2m(T:g_):Kd P w K mg base 2 "last_time" aR! (Hq t):=
 bX (σ:=[]) (k:=1) T.L7 a2c (λJ=>(aF (cE (cN ay_ g2_ (bU (iO T) a_ n_ aF_) ak! n!) (aG (bD ak!)) bN) (aG (bD (bZ Q_ bG (bZ Q_ bG (bZ Q_ bG fb! u! t_) (aB (d0q aC)) t_) ak! t_)))))
def wH(T:g_):Kd P w K mg base 3 "check_times" ml! (Jn t):=
 bX (σ:=[]) (k:=2) T.L9 fV (λJ=>(aF (bC (i:=2) fV.nd rfl b! fK) (aG (fE JO rfl (eA (qD (zE rfl) c2r rfl T.T3 a1j aF_)) (aZ (i:=3) fV.nd rfl b!) df_ (aF (bC (i:=4) fV.nd rfl b! (bZ Q_ bG (bZ Q_ bG u! aV! t_) ak! t_)) (aF (cE (cN kP (Ia.m kQ) bD_ (qC w_ E_ gV_ (aO (a2m T) a_ rfl (aD n_ (aD gV_ aJ))) cD!) n!) ee! bN) (aG (dI w_ E_ gV_ bD_))))))))
def sD(T:g_):Kd P w K mg base 9 "check_message" bN! (Fn t):=
 bX (σ:=[]) (k:=8) T.M6 rN (λJ=>(aF (cE (eQ (gE (fF (bT (yB rfl) b1m rfl T.R6 b1o (aE (nS (NL:=p_) (NF:=[]) (ix:=[]) rfl b_ l! (bK (sc:=Ad Gy) rfl l!) Ck.nil b_ rfl (fD ab!) (λ_ _ _ _ _=>aZ (i:=0) (show(p_:List Str).Nodup by decide+kernel) rfl b!) R_ gN_ (λ_ _ _ _ _=>(aR (uK T) a_ rfl cb_ aE_))) aN))))) ee! bN) (aG (cR (aO (wH T) a_ rfl (aD n_ (aD (aO (sC T) a_ rfl dl!) aJ)))))))
def a2q(T:g_):Kd P w K mg base 6 "give" ml_ gL_:=
 bX (σ:=[]) (k:=5) T.N4 b2g (λJ=>(aF (bC (i:=2) b2g.nd rfl aM! (b6f w_ rfl T.R8 rfl T.R9 rfl u!)) (aG (bD (eI (NL:=by!) (NF:=[eU_]) (ix:=[2]) rfl b_ l! (bK (sc:=Ad Sl) rfl l!) nt_ b_ rfl (eA vN_) (λ_ _ _ _ _=>aZ (i:=0) (show([b6_,eU_]:List Str).Nodup by decide+kernel) rfl b!) R_ (λ_ _ _ _ _=>jF (cN b3h (Ia.m b3j) d6_ (qC w_ u! d6_ ak! cD!) n!)) ce_)))))
def kS(T:g_):Kd P w K mg base 7 "lacking" aR! (Fa t):=
 bX (σ:=[]) (k:=6) T.O5 a9h (λJ=>(aG (bD (aO (a2q T) a_ rfl (aD n_ (aD (eI (NL:=["number"]) (NF:=[bM_]) (ix:=[1]) rfl b_ l! (bK (sc:=Ad Ng) rfl l!) jj_ b_ rfl (lR (fI rfl T.T2 (gF T.T7 rfl))) (λ_ _ _ _ _=>aZ (i:=0) (show(["number",bM_]:List Str).Nodup by decide+kernel) rfl b!) R_ d9_ (λ_ _ _ _ _=>(bU (iO T) a_ u! bR_))) aJ))))))
def wG(T:g_):Kd P w K mg base 8 "lacks" aR! (Jh t):=
 bX (σ:=[]) (k:=7) T.O6 b7t (λJ=>(aG (bD (qD cD b1j rfl T.S8 dN (aD ok! aJ)))))
def b0b(T:g_):Kd P w K mg base 4 "receive" aw! (Jy t):=
 bX (σ:=[]) (k:=3) T.N0 vS (λJ=>(aF (cE (fL (aO (oU T) a_ rfl dl!)) (aF (cR (aO (zX T) a_ rfl dl!)) (aG (bD (a0f aQ nJ ak! (aO (pW T) a_ rfl bR_))))) bN) (aF (bC (i:=2) vS.nd rfl b! (c7k (aO (pT T) a_ rfl dl!) (sL (jP cf! eX u! hb_ rfl)))) (aF (cE (sK (oW (eQ (gE (fF az!))) (kX (cN b3g (Ia.m b3i) (qD cD b1j rfl T.S8 dN (aD hb_ aJ)) (aB (gF T.U1 rfl)) n!)))) (aG (cR (b3q hb_ u!))) bN) (aG (bD ak!))))))
def pU(T:g_):Kd P w K mg base 10 "take" bN! dT!:=
 bX (σ:=[]) (k:=9) T.N3 uP (λJ=>(aF (cR (aO (sD T) a_ rfl dl!)) (aF (bC (i:=2) uP.nd rfl b! ak!) (aF (fE JO rfl j6_ (aZ (i:=3) uP.nd rfl b!) df_ (aG (c0i (i:=2) uP.nd rfl b! (aO (b0b T) a_ rfl fm!)))) g3!))))
def b9s(T:g_):Kd P w K mg base 11 "met" mm_ (Si t):=
 bX (σ:=[]) (k:=10) T.O8 b7s (λJ=>(aF (bC (i:=2) b7s.nd rfl b! (aO hi_ a_ rfl (aD u! (aD ok! aJ)))) (aG (bD (a0f aQ nJ E_ (aO hi_ a_ rfl (aD n_ (aD (aO (kS T) a_ rfl (aD u! bR_)) aJ))))))))
def c4u(T:g_):Kd P w K mg base 11 "told" go_ (Oz t):=
 bX (σ:=[]) (k:=10) T.O7 c3s (λJ=>(aG (bD (aO hi_ a_ rfl (aD u! (aD (c0o ok! dW (dU (bT (b6w rfl) c6r rfl T.T0 c6t (aE az! jY!)))) aJ))))))
end
def Zr(K:yN!):Sp:=λvs H Q E=>∀(P:yJ!) (w:ys!) (t:Aq),t.nd->Ye P w K 1 (Zw t) vs H Q E
section
variable{P:yJ!}{w:ys!}{K:yN!}{mg:Str->Option Value}{h:Heap}
def d1e(gf:mg "law"=some fh!)(dl:BB K mg "law" Kg [bg!])(T:Txt P w K mg j9!)(nd:Aq.nd j9!):
  ∃fd:FuncData,(∀(s:yM!) (u:yh!),BindsTo s fd jG_ [("_law_script",u)])/\∀base:Heap,K.In base->base.Ns mainGlobals mg->Fm P w K mg base Pz 13 fa fd [bg!] (Zr K):=by
 obtain⟨fd,h1,h2⟩:=c5e (σ:=[]) (k:=12) (P:=P) (w:=w) (q:=Xn j9!) dl kL gf (λbase hA af A outer s H E J=>(aF (bC (i:=1) kL.nd rfl b! (aB (aR (b5u T) a_ rfl (aE E! (aE aC (aE ww! aN))) (aL ay!))))
   (aF (bC (i:=2) kL.nd rfl b! wy!)
   (aF (cR (aO hi_ a_ rfl (aD E_ (aD (a0f aQ nJ (eI (NL:=[dp_]) (NF:=[]) (ix:=[]) rfl b_ l! ft_ Ck.nil b_ rfl j6_ wy_ R_ (λ_ _ _ _ _=>jF (eQ (bM ay_ cC ap! aC n!))) ce_) (eI (NL:=[dp_]) (NF:=[]) (ix:=[]) rfl b_ l! ft_ Ck.nil b_ rfl j6_ wy_ R_ (λ_ _ _ _ _=>jF (eQ (bM aF! sH ap! aC n!))) ce_)) aJ))))
   (aF (bC (i:=3) kL.nd rfl aM! (eI (NL:=[aJ!]) (NF:=[bg!]) (ix:=[0]) rfl b_ l! ft_ jU_ b_ rfl vX_ (λ_ _ _ _ _=>aZ (i:=0) (show([aJ!,bg!]:List Str).Nodup by decide+kernel) rfl b!) R_ d9_ (λ_ _ _ _ _=>(aB (bE eV eW (aR gQ_ a_ rfl (aE ab! (aE (bE aQ bS aC E!) aN)) ay!) aC)))))
   (aF (bC (i:=4) kL.nd rfl b! (aO (a2q T) a_ rfl (aD E_ (aD (aB (b6u qY c6s rfl T.S9 vG jp_)) aJ))))
   (aF (cE (sK (a0b (eQ (gE (fF (jU c1j rfl T.S7 rfl T.S9 cQ vG bl!)))) (sJ (cN aF! iH bD_ (eI (NL:=[dp_]) (NF:=[iI_]) (ix:=[3]) rfl b_ l! ft_ gZ_ b_ rfl (eA or!) wE_ R_ (λ_ _ _ _ _=>jF (eQ (bM b3h b3j ap! wF_ n!))) ce_) n!)))) bR! bN)
   (aF (bC (i:=5) kL.nd rfl b! wy!)
   (aF (bC (i:=6) kL.nd rfl aM! (eI (NL:=[dp_]) (NF:=[iI_]) (ix:=[3]) rfl b_ l! ft_ gZ_ b_ rfl j6_ wE_ R_ (λ_ _ _ _ _=>jF (eQ (bM kP kQ ap! wF_ n!))) ce_))
   (aF (cE (cN aF! iH (aO hi_ a_ rfl (aD dh_ (aD (aB bP_) aJ))) (aB (bT cD dY rfl T.S8 dN nv_)) n!) bR! bN)
   (aF (nN (i:=7) (NL:=[dp_]) (NF:=[mu_]) (ix:=[6]) kL.nd rfl b! rfl b_ l! ft_ (Ck.cons (j:=6) Ck.nil) b_ rfl (eA or!) (λ_ _ _ _ _=>aZ (i:=0) (show([dp_,mu_]:List Str).Nodup by decide+kernel) rfl b!) R_ (λ_ _ _ _ _=>jF (cN g1! eX n_ u! rfl)) ce_)
   (aF (cE (sK (a0b (cN aF! iH wI_ (aB (bT cD dY rfl T.S8 dN (aE cd! aN))) n!) (sJ (cN aF! iH (aO (wG T) a_ rfl (aD dh_ eb_)) ak! n!)))) bR! bN)
   (aF (bC (i:=8) kL.nd rfl b! (aB ww!))
   (aF (cE (sK (a0b (cN aF! iH (aO (c4u T) a_ rfl (aD E_ (aD dh_ (aD jN! aJ)))) (aB (bT cD dY rfl T.S8 dN (aE (cZ cd! dW (dU cd_)) aN))) n!) (sJ (cN aF! iH wI_ wL! n!)))) bR! bN)
   (aF (cE (sK (a0b (cN aF! iH (aO (b9s T) a_ rfl (aD dh_ eb_)) wL! n!) (sJ (cN aF! iH (aO (b9s T) a_ rfl (aD E_ jM!)) ak! n!)))) bR! bN)
   (aG (bD (sM (aO (zY T) a_ rfl nE_) (sM (aO (zY T) a_ rfl (aD dh_ aF_)) (sL (jP ay_ g2_ (aO (a2q T) a_ rfl (aD dh_ (aD (c4z jy! ak!) aJ))) or! n!)))))))))))))))))))))
 exact⟨fd,h1,λbase i g=>(h2 base i g).imp λvs H Q E z=>z P w _ nd⟩
def b6o{ad:xY!}{k3:Tok}{o0 o1 o2 o3 o4 o5 o6 o7:a7!}{n0 n1 n2 n3 n4 n5 n6 n7 ep:Nat}{s0 s1 s2 s3 s4 s5 s6 s7:cc_}(X:fF!)(G:fF_)
  (ga:W.nsIn K mainGlobals "PARTS"=some (some kw_))(gl:K.lookup ad=some {cls:=.type "dict",data:=.dict #[⟨PyData.keyHash w.params "put",.str "put" k0,.ref r0⟩,⟨PyData.keyHash w.params "move",.str "move" k1,.ref r1⟩,⟨PyData.keyHash w.params "drop",.str "drop" k2,.ref r2⟩,⟨PyData.keyHash w.params "write",.str "write" k3,.ref r3⟩,⟨PyData.keyHash w.params "cut",.str "cut" k4,.ref r4⟩,⟨PyData.keyHash w.params "set",.str "set" k5,.ref r5⟩,⟨PyData.keyHash w.params "undo",.str "undo" k6,.ref r6⟩,⟨PyData.keyHash w.params "redo",.str "redo" k7,.ref r7⟩] ep})(gs:oX!=false)
  (l0:K.lookup r0=some ⟨cR!,o0,.seq #[.ref B6,.ref B7] n0,s0⟩)
  (l1:K.lookup r1=some ⟨cR!,o1,.seq #[.ref B6,.ref B6,.ref B7] n1,s1⟩)
  (l2:K.lookup r2=some ⟨cR!,o2,.seq #[.ref B6] n2,s2⟩)
  (l3:K.lookup r3=some ⟨cR!,o3,.seq #[.ref B6,.ref B8,.ref B9] n3,s3⟩)
  (l4:K.lookup r4=some ⟨cR!,o4,.seq #[.ref B6,.ref C0,.ref C1] n4,s4⟩)
  (l5:K.lookup r5=some ⟨cR!,o5,.seq #[.ref B6,.ref C2,.ref C3] n5,s5⟩)
  (l6:K.lookup r6=some ⟨cR!,o6,.seq #[.ref C4] n6,s6⟩)
  (l7:K.lookup r7=some ⟨cR!,o7,.seq #[.ref C4] n7,s7⟩)
  :∀X:Cx,X.prog=P->X.w=w->X.K=K->X.mg=mg->Uq X "PARTS" (Ik j9!):=λvw e1 e2 e3 e4=>
 c1s (rows:=[("put",k0,r0),("move",k1,r1),("drop",k2,r2),("write",k3,r3),("cut",k4,r4),("set",k5,r5),("undo",k6,r6),("redo",k7,r7)]) (w:=w) e2 e3 e4 (fB X G ga) gs gl (show(["put","move","drop","write","cut","set","undo","redo"]:List Str).Nodup by decide+kernel) ⟨rfl,gZ (fs:=[B6,B7]) l0 (by show 2<=1000;decide),rfl,gZ (fs:=[B6,B6,B7]) l1 kh!,rfl,gZ (fs:=[B6]) l2 oz!,rfl,gZ (fs:=[B6,B8,B9]) l3 kh!,rfl,gZ (fs:=[B6,C0,C1]) l4 kh!,rfl,gZ (fs:=[B6,C2,C3]) l5 kh!,rfl,gZ (fs:=[C4]) l6 oz!,rfl,gZ (fs:=[C4]) l7 oz!,trivial⟩
end
end K13
open PySem PySem.W PyProof.Rows
set_option maxRecDepth 100000 in
set_option maxHeartbeats 0 in
theorem PySem.Challenge.cw_manyhands_k13_given_holds : PySem.Challenge.rw_manyhands_k13_given.Holds := by
 w_on;o_law;k_head;(case hw=>w_witness2)
 k_fill
 refine L2.b7f (l:=PySem.Challenge.rw_manyhands_k13_given) (n:=63) (k:=13) (x:="_law_script") (CX:=L2.Pz) (sp:=K13.Zr) rfl (by decide) rfl ⟨rfl,by decide,by decide⟩ (λw h Y=>W.kIn_of Y) ?F (λK H a ns hl _ hS P w t nd=>DL.c5d hS (K13.c0v nd)) (λ_ _ _ _ z=>z)
 case F=>
  intro w mg fa h KX G hmg;refine' K13.d1e hmg ?dl ⟨?C8,?C9,?D1,?D2,?D3,?D4,?D5,?D6,?D7,?D8,?D9,?E1,?E2,?E3,?E4,?E5,?E6,?E7,?E8,?E9,?F7,?F8,?F9,?G6,?G7,?G8,?G9,?H9,?J0,?J1,?J2,?J3,?J4,?J5,?J6,?J7,?J8,?J9,?K0,?K4,?K6,?K7,?K8,?K9,?L0,?L5,?L6,?L7,?L8,?L9,?M6,?M7,?M9,?N0,?N3,?N4,?N5,?N6,?N7,?N8,?N9,?O0,?O3,?O4,?O5,?O6,?O7,?O8,?O9,?P0,?P1,?P3,?P4,?P5,?P6,?P7,?P8,?P9,?Q0,?Q3,?Q4,?Q5,?Q6,?Q7,?Q8,?Q9,?R0,?R4,?R6,?R7,?R8,?R9,?S0,?S7,?S8,?S9,?T0,?T1,?T2,?T3,?T4,?T5,?T6,?T7,?T8,?T9,?U0,?U1,?U2,?U3,?U4,?U5,?U6,?U7,?U8,?U9,?V0,?V1,?V2,?V3,?V4,?V5,?V6,?V7,?V8,?V9,?W3,?W4,?W5,?W6,?W7,?W8,?gp⟩ ?nd
  (case E6=>show"!!")
  (case F8=>show"!!")
  (case K7=>(dsimp only;refine' DL.c0j (DL.fB KX G ?g) ?a ?i ?l ?c ?k ?mm ?kc ?b;(case g=>k_is);(case a=>k_is);(case i=>k_is);(case l=>k_is);(case c=>k_is);(case k=>k_is);(case mm=>k_is);(case kc=>k_is);(case b=>exact λ_ _ _ _ _ _=>DL.kG λ_ _=>rfl)))
  (case C8=>show"!#")
  (case C9=>show"!$")
  (case D1=>show"!#")
  (case D2=>show"!#")
  (case D3=>show"!#")
  (case D4=>show"!#")
  (case D5=>show"!#")
  (case D6=>show"!#")
  (case D7=>show"!#")
  (case D8=>show"!#")
  (case D9=>show"!#")
  (case E1=>show"!$")
  (case E2=>show"!#")
  (case E3=>show"!#")
  (case E4=>show"!#")
  (case E5=>show"!#")
  (case E7=>show"!%")
  (case E8=>show"!&")
  (case E9=>show"!%")
  (case F7=>(dsimp only;refine' DL.dJ ?a ?i ?l ?c ?k ?b;(case a=>k_is);(case i=>k_is);(case l=>k_is);(case c=>k_is);(case k=>k_is);(case b=>exact λ_ _ _ _ _ _=>DL.oH λ_=>rfl)))
  (case F9=>show"!%")
  (case G6=>show"!%")
  (case G7=>show"!&")
  (case G8=>show"!'")
  (case G9=>show"!&")
  (case H9=>show"!'")
  (case J0=>(dsimp only;refine' DL.dJ ?a ?i ?l ?c ?k ?b;(case a=>k_is);(case i=>k_is);(case l=>k_is);(case c=>k_is);(case k=>k_is);(case b=>exact λ_ _ _ _ _ _=>DL.us5 λ_ _ _ _ _=>rfl)))
  (case J1=>show"!'")
  (case J2=>show"!'")
  (case J3=>show"!%")
  (case J4=>show"!%")
  (case J5=>show"!%")
  (case J6=>show"!%")
  (case J7=>show"!%")
  (case J8=>show"!#")
  (case J9=>show"!#")
  (case K0=>show"!#")
  (case K4=>show"!(")
  (case K6=>show"!#")
  (case K8=>show"!%")
  (case K9=>show"!#")
  (case L0=>show"!#")
  (case L5=>show"!$")
  (case L6=>show"!$")
  (case L7=>show"!$")
  (case L8=>show"!$")
  (case L9=>show"!$")
  (case M6=>show"!$")
  (case M7=>show"!$")
  (case M9=>show"!#")
  (case N0=>show"!$")
  (case N3=>show"!$")
  (case N4=>show"!$")
  (case N5=>show"!$")
  (case N6=>show"!$")
  (case N7=>show"!(")
  (case N8=>show"!$")
  (case N9=>show"!$")
  (case O0=>show"!$")
  (case O3=>show"!$")
  (case O4=>show"!(")
  (case O5=>show"!$")
  (case O6=>show"!$")
  (case O7=>show"!(")
  (case O8=>show"!$")
  (case O9=>show"!$")
  (case P0=>show"!$")
  (case P1=>show"!#")
  (case P3=>show"!#")
  (case P4=>show"!$")
  (case P5=>show"!$")
  (case P6=>show"!)")
  (case P7=>show"!(")
  (case P8=>show"!#")
  (case P9=>show"!#")
  (case Q0=>show"!)")
  (case Q3=>show"!(")
  (case Q4=>show"!)")
  (case Q5=>show"!$")
  (case Q6=>show"!#")
  (case Q7=>show"!$")
  (case Q8=>show"!$")
  (case Q9=>show"!$")
  (case R0=>show"!#")
  (case dl=>(refine' DL.c6e KX G ?a ?l ?c ?k ?b;(case a=>k_is);(case l=>k_is);(case c=>k_is);(case k=>k_is);(case b=>exact λ_ _ _ _ _ _=>DL.oH λ_=>rfl)))
  (case R4=>show"!*")
  (case R6=>show"!*")
  (case R7=>show"!*")
  (case R8=>show"!*")
  (case R9=>show"!*")
  (case S0=>show"!*")
  (case S7=>show"!*")
  (case S8=>show"!*")
  (case S9=>show"!*")
  (case T0=>show"!*")
  (case T1=>show"!*")
  (case T2=>show"!*")
  (case T3=>show"!*")
  (case T4=>show"!*")
  (case T5=>show"!*")
  (case T6=>show"!*")
  (case T7=>show"!+")
  (case T8=>show"!+")
  (case T9=>show"!+")
  (case U0=>show"!+")
  (case U1=>show"!+")
  (case U2=>show"!,")
  (case U3=>show"!,")
  (case U4=>show"!,")
  (case U5=>show"!,")
  (case U6=>show"!,")
  (case U7=>show"!,")
  (case U8=>show"!,")
  (case U9=>show"!,")
  (case V0=>show"!,")
  (case V1=>show"!-")
  (case V2=>show"!-")
  (case V3=>show"!-")
  (case V4=>show"!.")
  (case V5=>show"!.")
  (case V6=>show"!.")
  (case V7=>show"!.")
  (case V8=>show"!.")
  (case V9=>show"!.")
  (case W3=>show"!.")
  (case W4=>show"!.")
  (case W5=>show"!.")
  (case W6=>show"!.")
  (case W7=>show"!.")
  (case W8=>show"!.")
  (case gp=>(refine' K13.b6o KX G ?ga ?gl ?gs ?l0 ?l1 ?l2 ?l3 ?l4 ?l5 ?l6 ?l7;(case ga=>k_is);(case gl=>k_is);(case gs=>decide);(case l0=>k_is);(case l1=>k_is);(case l2=>k_is);(case l3=>k_is);(case l4=>k_is);(case l5=>k_is);(case l6=>k_is);(case l7=>k_is)))
  (case nd=>(unfold K13.Aq.nd;decide))
