import PyProof.Rows.All
import Wide.All
import OpenK.AllK
import Wide.FinOn
import Lean
import PyProof.EqAt
import PyProof.EqKinds
import PyProof.TupleCall
import KE.KIntText
import PyProof.Rows.SortShell
import PyProof.Rows.CallKwBuiltin
import KE.KSortKey
import KE.KDictSum
import KE.KMinBuiltin
import PySem.Challenge.RW_manyhands_k24_whole_back
set_option linter.all false
set_option genSizeOf false
set_option Elab.async false
set_option maxRecDepth 100000
set_option maxHeartbeats 4000000
def HI:=@PySem.wpAny_bind
def HJ:=@Option.bind_eq_some_iff
def HK:=@PySem.wpAny_pure
def HL:=@List.mem_cons_of_mem
def HM:=@PySem.Heap.get?_push_of_some
def HN:=@List.mem_cons
def HP:=@List.mem_cons_self
def HQ:=@if_neg
def HR:=@Ne.symm
def HS:=@List.size_toArray
def HU:=@Option.map_eq_some_iff
def HV:=@List.mem_append
def HX:=@List.mem_singleton
def HY:=@List.mem_append_right
def HZ:=@List.mem_map_of_mem
def IA:=@List.map_cons
def IB:=@if_pos
def IE:=@List.length_cons
def IF:=@decide_eq_false
def IG:=@List.length_append
def IH:=@List.mem_map
def II:=@List.getElem?_eq_getElem
def IJ:=@List.nodup_cons
def IK:=@List.length_map
def IL:=@List.getElem?_eq_some_iff
def IM:=@Nat.le_refl
def IN:=@Bool.false_ne_true
def IP:=@PySem.Heap.get?_push_size
def IQ:=@PySem.Heap.lt_size
def IR:=@List.append_nil
def IS:=@List.mem_append_left
def IT:=@Nat.lt_of_lt_of_le
def IU:=@List.map_append
def IV:=@decide_eq_true
def IW:=@Bool.false_eq_true
def IY:=@List.nodup_append
def IZ:=@Bool.and_eq_true
def JA:=@decide_eq_true_eq
def JB:=@Nat.le_trans
def JC:=@List.getElem?_map
def JD:=@PySem.PassesOwn.never
def JE:=@List.getElem?_set_ne
def JF:=@List.not_mem_nil
def JG:=@Nat.ne_of_lt
def JH:=@Array.getElem?_eq_getElem
def JI:=@PySem.Heap.get?_update_other
def JJ:=@Option.some.inj
def JK:=@List.getElem?_append_right
def JL:=@if_false
def JM:=@PySem.wpAny_truthy_bool
def JN:=@PySem.wpAny_holding
def JO:=@PySem.wpAny_call_entry
def JP:=@List.filter_cons_of_neg
def JQ:=@List.map_map
def JR:=@List.lookup_cons
def JS:=@Nat.zero_le
def JT:=@if_true
def JU:=@Array.length_toList
def JV:=@PySem.sizeLine_eq
def JW:=@List.getElem?_eq_none
def JX:=@List.filter_cons_of_pos
def JY:=@PySem.wpAny_callSpecial?_slot
def JZ:=@List.getElem?_append_left
def KA:=@List.append_assoc
def KB:=@List.getElem?_set_self
def KC:=@List.filter_eq_self
def KD:=@PyProof.Rows.wpS_bind
def KF:=@List.pairwise_cons
def KG:=@List.length_zip
def KH:=@beq_eq_false_iff_ne
def KI:=@List.map_congr_left
def KJ:=@PySem.wpAny_mono
def KL:=@of_decide_eq_true
def KM:=@PySem.F.slot_dict_keyiterator_next
def KN:=@PySem.wpAny_newObj_type
def KO:=@List.nil_append
def KP:=@List.mem_filter
def KQ:=@Int.emod_lt_of_pos
def KR:=@List.getElem_mem
def KS:=@List.filter_congr
def KU:=@Int.le_refl
def KW:=@or_false
def KY:=@Prod.mk.injEq
def KZ:=@List.length_singleton
def LA:=@Int.emod_nonneg
def LB:=@PySem.wpAny_field
def LC:=@PySem.Heap.SameBut.update
def LD:=@Nat.lt_of_le_of_lt
def LF:=@beq_self_eq_true
def LG:=@List.all_eq_true
def LH:=@Bool.not_true
def LI:=@PySem.wpAny_rule
def LJ:=@PySem.wpAny_Call_Name_kw
def LK:=@Nat.lt_or_ge
def LL:=@PySem.mem_of_lookup
def LM:=@PyProof.Rows.callWith_type1
def LN:=@List.replicate_succ
def LO:=@List.length_set
def LP:=@List.length_nil
def LQ:=@List.find?_cons
def LS:=@Bool.eq_iff_iff
def LU:=@PySem.F.plain_max_loop
def LV:=@PySem.wpAny_seqItems
def LW:=@PyProof.Rows.wpS_pure
def LX:=@PySem.wpAny_dictEntries
def LY:=@PySem.wpAny_dictEpoch
def LZ:=@List.getElem?_toArray
def MB:=@List.any_cons
def MC:=@List.drop_eq_getElem_cons
def MD:=@List.length_range
def MF:=@List.filter_map
def MH:=@PySem.Calls.spliced_cons
def MJ:=@Bool.and_self
def ML:=@Option.bind_some
def MM:=@List.cons_append
def MN:=@List.mem_filterMap
def MO:=@PySem.Paired.length
def MQ:=@PySem.wpAny_typeNameOfWhole_keyiter
def MU:=@Nat.ne_of_gt
def MV:=@Nat.le_of_lt
def MX:=@List.mem_iff_getElem?
def MY:=@List.map_nil
def MZ:=@List.length_replicate
def NA:=@List.length_filter_le
def NB:=@List.forIn_cons
def NC:=@List.cons.injEq
def ND:=@Array.getElem?_toList
def NE:=@beq_iff_eq
def NG:=@Nat.lt_irrefl
def NH:=@List.flatten_cons
def NI:=@List.all_cons
def NJ:=@Int.toNat_natCast
def NK:=@PySem.Calls.callWith_builtin
def NM:=@PySem.wpAny_setField_rec
def NN:=@PySem.F.slot_NoneType_hash
def NO:=@List.pairwise_append
def NP:=@List.mem_of_getElem?
def NQ:=@PySem.wpAny_passesOwn
def NR:=@PySem.wpAny_letGo
def NS:=@List.nodup_nil
def NT:=@List.mem_range
def NU:=@PySem.Heap.get?_update_self
def NV:=@PySem.F.slot_tuple_iterator_next
def NW:=@PySem.Calls.evalArgs_plain
def NX:=@decide_eq_false_iff_not
def NY:=@PySem.F.plainAttrs_list
def NZ:=@PySem.F.plainAttrs_dict
def OA:=@List.getElem?_replicate
def OB:=@List.filter_filter
def OC:=@PySem.Heap.size_push
def OD:=@PyProof.Rows.get?_update_seq
def OE:=@List.take_succ_eq_append_getElem
def OF:=@PySem.wpAny_typeNameOf_keyiter
def OG:=@PyProof.Rows.slot_tuple_getitem
def OH:=@List.Perm.refl
def OI:=@PySem.F.slot_dict_get
def OJ:=@Bool.not_eq_eq_eq_not
def OK:=@Nat.lt_succ_self
def OL:=@not_or
def OM:=@List.mem_iff_getElem
def ON:=@PySem.Calls.spliced_nil
def OO:=@PySem.wpAny_notOrdered_dict
def OP:=@Option.map_some
def OQ:=@List.foldl_cons
def OT:=@List.filter_sublist
def OU:=@PyProof.Rows.listUpdate_at
def OV:=@List.nodup_iff_pairwise_ne
def OX:=@List.exists_cons_of_ne_nil
def OY:=@Array.getElem?_eq_some_iff
def OZ:=@of_decide_eq_false
def PB:=@Nat.le_of_eq
def PD:=@List.zip_cons_cons
def PF:=@List.filter_append
def PH:=@PySem.wpAny_attempt
def PJ:=@List.pairwise_iff_getElem
def PK:=@List.forIn_nil
def PL:=@Classical.byContradiction
def PM:=@Bool.not_false
def PN:=@PySem.wpAny_specialOf
def PP:=@PySem.slot_dict_contains
def PQ:=@PySem.F.args_tuple_add_2
def PR:=@Option.isSome_iff_exists
def PU:=@Nat.lt_succ_of_lt
def PV:=@List.pairwise_map
def PX:=@decide_true
def PY:=@PySem.F.entry_tuple_add
def PZ:=@Nat.le_succ
def QA:=@List.pairwise_singleton
def QB:=@List.length_eq_zero_iff
def QC:=@PySem.SeqAt.EqAt.int_int
def QD:=@PySem.Obj.data_mapFields
def QE:=@List.length_take
def QF:=@List.drop_length
def QG:=@PySem.F.slot_tuple_add
def QH:=@List.filter_eq_nil_iff
def QI:=@PySem.wpAny_Call_method
def QJ:=@decide_false
def QK:=@List.zipIdx_nil
def QL:=@true_and
def QM:=@PySem.wpAny_standAt
def QN:=@PySem.wpAny_newList
def QO:=@PySem.wpAny_forIn_list
def QP:=@PySem.F.args_dict_keyiterator_next_1
def QQ:=@Bool.and_false
def QR:=@PyProof.Rows.wpS_forRange
def QS:=@PyProof.Rows.listItems_at
def QT:=@PySem.F.entry_dict_keyiterator_next
def QU:=@List.filterMap_cons
def QV:=@PySem.wpAny_loadPart'
def QW:=@PySem.wpAny_isTrue_Compare1
def QX:=@PySem.wpAny_isOneOf_keyiter
def QY:=@PySem.wpAny_execs_nil
def QZ:=@PySem.codeAny_mono
def RA:=@List.getElem_range
def RB:=@PySem.F.slot_zip_next
def RC:=@PySem.wpAny_updateSeq_pair
def RD:=@PySem.wpAny_updateDictKeys
def RE:=@bne_self_eq_false
def RF:=@List.ext_getElem?
def RG:=@PySem.wpAny_setField
def RH:=@PySem.wpAny_fieldsOf
def RI:=@Nat.zero_add
def RJ:=@Nat.lt_trans
def RK:=@List.zipIdx_cons
def RL:=@List.length_drop
def RM:=@List.filter_cons
def RN:=@PySem.F.slot_dict_setdefault
def RO:=@BEq.comm
def RP:=@PySem.wpAny_onRaise
def RQ:=@PySem.plainId_quiet
def RS:=@PySem.W.kia_one
def RT:=@List.of_mem_zip
def RU:=@List.map_id
set_option hygiene false
section open Lean
def z'E:Nat->Syntax->String
|0,_=>""
|n+1,s=>match s with
 |.node _ k a=>a.foldl (λr x=>r++z'E n x) s!"n{a.size} {(toString k).replace "Lean.Parser." "~"}\n"
 |.atom _ v=>s!"a{v}\n"
 |.ident _ _ v _=>s!"i{v}\n"
 |_=>"m\n"
def z'D(f:SourceInfo):Nat->List String->Syntax×List String
|n+1,x::l=>let r:=(x.drop 1).toString;match x.front with
 |'n'=>let c:=(r.takeWhile Char.isDigit).toString;let (a,l):=c.toNat!.fold (λ_ _ (a,l)=>let (y,l):=z'D f n l;(a.push y,l)) (#[],l);(.node f ((r.drop (c.length+1)).toString.replace "~" "Lean.Parser.").toName a,l)
 |'a'=>(.atom f r,l)
 |'i'=>(.ident f r.toRawSubstring r.toName [],l)
 |_=>(.missing,l)
|_,l=>(.missing,l)
def z'K:List (String×String):=[("P","n3 ~Term.paren\nn2 ~Term.hygienicLParen\na(\nn1 hygieneInfo\ni[anonymous]"),("D","n1 ~Tactic.tacticSeq\nn1 ~Tactic.tacticSeq1Indented"),("E","n2 ~Term.dotIdent\na."),("A","n2 ~Term.app"),("B","n1 null"),("C","n0 null"),("F","n2 null"),("G","n3 null"),("H","n1 ~Tactic.rcasesPatMed"),("I","n1 ~Tactic.rcasesPat.one"),("J","n2 ~Tactic.rcasesPatLo"),("K","n1 ~Tactic.optConfig"),("L","n4 ~Term.basicFun"),("M","n1 ~Term.hole\na_"),("N","n2 ~Term.byTactic\naby")]
def z'Z(r:SourceInfo)(f:String):Syntax:=(z'D r 999 (((f.takeWhile (·≠'\r')).toString.splitOn "\n").flatMap λs=>match z'K.lookup s with|some x=>x.splitOn "\n"|_=>[s])).1
local macro_rules|`(z [$x,*])=>do let a:=x.getElems;let mut r:="";for i in [0:a.size/2] do {r:=s!"{r}\r{match a[2*i]!.raw.isStrLit? with|some s=>s|_=>a[2*i]!.raw.getId.toString}\r{z'E 999 a[2*i+1]!}"};return (Syntax.mkStrLit (z'K.foldl (λr p=>r.replace (p.2++"\n") (p.1++"\n")) r)).raw
def z't't:String:=z ["pc!",(by simp[Cj,Bl,sSeq,Gi,Cp,Cs,Cu,Ev,Dv,Cz,Ms,Ct,fT,Em,Aa,Ft,f2,Ka,Ko,Mm,Oj,Lx,Ch,Dy,f1,Ac,Ag,Gd,fC,Gk,Cd,An,Dr,Eh,By,Ck,Bp,Ak,Dc,Dz,Aw,Di,Do,Bj,Aq,Ap,Bz,Ar,Cn,Kz,Dk,HT.sIx,List.getElem?_cons_zero,List.getElem?_cons_succ]),"!6",(by split at e),"!#",(by refine' DL.aU KX G ?a ?l ?c ?k ?b;(case a=>k_is);(case l=>k_is);(case c=>k_is);(case k=>k_is);(case b=>exact λ_ _ _ _ _ _=>DL.oG λ_=>rfl)),"!L",(by constructor),"!$",(by refine' DL.aU KX G ?a ?l ?c ?k ?b;(case a=>k_is);(case l=>k_is);(case c=>k_is);(case k=>k_is);(case b=>exact λ_ _ _ _ _ _=>DL.lL λ_ _=>rfl)),"#?",(by dsimp only),"!*",(by refine' DL.dU KX G ?a;(case a=>k_is)),"!1",(by obtain⟨ka,bm⟩:=cQ ha),"!0",(by intro x y dx dy d G H Q sub rx ry e k),"!.",(by dsimp only;(show W.findIn _ _ _=_);k_is),"#8",(by unfold Dc Dz),"!%",(by dsimp only;refine' DL.dN ?a ?i ?l ?c ?k ?b;(case a=>k_is);(case i=>k_is);(case l=>k_is);(case c=>k_is);(case k=>k_is);(case b=>exact λ_ _ _ _ _ _=>DL.lL λ_ _=>rfl)),"!d",(by intro z;cases z),"!f",(by by_cases hk:k=d),"!,",(by dsimp only;refine' DL.fH KX G ?a;(case a=>k_is)),"!5",(by rename_i h;cases e;subst h),"!@",(by obtain⟨t,rfl⟩:=rx),"!F",(by rename_i hl;cases e),"!/",(by intro X hP hw hK hc i h1 s Z H E I hf st hg;subst hP hw hK),"!K",(by intro h1 s Z H Q I h),"!Q",(by simp only[HV,HN,KY]),"!(",(by refine' DL.aU KX G ?a ?l ?c ?k ?b;(case a=>k_is);(case l=>k_is);(case c=>k_is);(case k=>k_is);(case b=>exact λ_ _ _ _ _ _=>DL.us3 λ_ _ _=>rfl)),"!2",(by obtain⟨f0,f1,f2,f3,f4,f5⟩:=hf it d!),"!<",(by obtain⟨x,e1,e⟩:=HJ.mp e),"!J",(by unfold fT;rw[this];rfl),"#&",(by simp only[IW,JL]),"#6",(by by_cases hb:b=a),"!:",(by obtain⟨q0,h0,rfl⟩:=IH.mp hq),"!=",(by obtain⟨q,hq,rfl⟩:=IH.mp hd),"!D",(by obtain⟨v,rfl,rv⟩:=fL r),"#$",(by exact hA.live b hb),"!+",(by refine' DL.rE KX G ?a;(case a=>k_is)),"!b",(by obtain⟨ep,ht⟩:=hA.tk),"!r",(by exact k _ G H aS_ Ax.bl),"#:",(by rw[fU_];exact KU _),"#F",(by rw[aL!];exact KU _),"!'",(by dsimp only;refine' DL.dN ?a ?i ?l ?c ?k ?b;(case a=>k_is);(case i=>k_is);(case l=>k_is);(case c=>k_is);(case k=>k_is);(case b=>exact λ_ _ _ _ _ _=>DL.us4 λ_ _ _ _=>rfl)),"!3",(by obtain⟨a1,a2,a3,a4,a5,a6,k1,k2,k3,k4,k5,k6,hA⟩:=h';refine j_),"!9",(by simp only[Op.nm,D.tup.injEq,NC,D.int.injEq]at z),"!B",(by obtain⟨o',e1⟩:=I.base.there b o e J),"!G",(by obtain⟨ds,e1,e⟩:=HJ.mp e;show"!6"),"!P",(by obtain⟨its,r,pl,hz⟩:=I.list hq),"!S",(by obtain⟨a,vs,rfl,qa,ra⟩:=bS rx),"!T",(by intro vs ds d M G H Q sub m r e k),"!X",(by obtain⟨p,vs,rfl,q,rr⟩:=bS r),"!^",(by cases bG rx;cases bG ry;cases e),"!e",(by intro vs ds d G H Q sub r e k),"!n",(by subst e;exact I1.fpOk y! (I1.hok.fresh y!)),"!s",(by rename_i h;rw[IZ,IZ,JA]at h),"!x",(by subst hb;rw[cC]at e;cases e),"!y",(by obtain⟨wt,wn,qa,hA⟩:=h),"#%",(by subst q1;rw[cV];show"!L"),"#2",(by obtain⟨a,rfl,q⟩:=J),"#B",(by rintro(z|⟨z,_⟩|z)),"#C",(by rintro(z|⟨_,z⟩|z)),"!&",(by dsimp only;refine' DL.dN ?a ?i ?l ?c ?k ?b;(case a=>k_is);(case i=>k_is);(case l=>k_is);(case c=>k_is);(case k=>k_is);(case b=>exact λ_ _ _ _ _ _=>DL.us3 λ_ _ _=>rfl)),"!)",(by refine' DL.aU KX G ?a ?l ?c ?k ?b;(case a=>k_is);(case l=>k_is);(case c=>k_is);(case k=>k_is);(case b=>exact λ_ _ _ _ _ _=>DL.us4 λ_ _ _ _=>rfl)),"!-",(by dsimp only;refine'⟨?pg,?hd,?po,?sa⟩;(case pg=>k_is);(case hd=>k_is);(case po=>k_is);(case sa=>k_is)),"!4",(by obtain⟨v1,t1,rfl,r1,rr⟩:=bR rr;obtain⟨v2,t2,rfl,r2,rr⟩:=bR rr;cases cS rr),"!M",(by unfold Am at h;obtain⟨u,r,e1,q,t⟩:=h;subst e1),"!U",(by unfold Ax at h ⊢;obtain⟨a,vs,e,q,r⟩:=h),"!W",(by obtain⟨sl,e1⟩:=I.base.slot b o e n hb J),"![",(by obtain⟨a',b',c',e',hm⟩:=w.sgs x J q hq),"!_",(by intro x y dx dy d M G H Q sub m rx ry e k),"!`",(by cases a0b I n r ru<;>cases a0b I n' r' av),"!g",(by refine hJ h cu ?_;by_cases c1:i∈W.its),"!u",(by simp only[ne_eq,decide_not,OJ,LH,NX]),"!z",(by obtain⟨its,r,pl,hz⟩:=I.tuple hq),"!{",(by obtain⟨e,n,ne,nf,d⟩:=I.pin p hp),"!|",(by obtain⟨_,vs,Y,L⟩:=m.cell a _ hM),"!~",(by rw[HQ c];exact keep rfl rfl w.inv),"#!",(by obtain⟨o,e,c,d⟩:=st;exact ⟨o,e,λv z=>by rw[d]at z;cases z⟩),"##",(by obtain⟨a,vs,rfl,qa,ra⟩:=bT rx),"#'",(by subst hb;rw[mup_same]at e;cases e),"#.",(by simp only[IW,JL,JR,J]at h ⊢),"#0",(by obtain⟨x,J,rfl⟩:=IH.mp ho),"#4",(by obtain⟨Y,L,_⟩:=jC wi q hq),"#5",(by exact hR M rl _ _ st hL .refl),"#<",(by obtain⟨od,af,hl⟩:=I.look),"#=",(by have c':=OZ c;rw[HQ c']at st),"#>",(by have c':=KL c;rw[IB c']at st),"!!",(by dsimp only;refine' DL.c0x (DL.fH KX G ?g) ?a ?i ?l ?c ?k ?mm ?kc ?b;(case g=>k_is);(case a=>k_is);(case i=>k_is);(case l=>k_is);(case c=>k_is);(case k=>k_is);(case mm=>k_is);(case kc=>k_is);(case b=>exact λ_ _ _ _ _ _=>DL.oG λ_=>rfl)),"!7",(by obtain⟨ob,eo,ec,ed⟩:=id g1;obtain⟨ot,zj,_,nt,zk⟩:=g2;unfold Builtin.SmallTypes.nextOf;refine HI (JY (name:=kt_) g1.typeIs NV (JO NV g1.typeIs F.entry_tuple_iterator_next ?_ (F.args_tuple_iterator_next_1 _)));show wpAny _ _ (field (.ref jt) 0>>=_) _ _ s),"!8",(by refine dL b2_ λv s1 ⟨x,H1,I1,r1,q1⟩=>?_;refine dL gf_ λu s2 ⟨y,H2,I2,r2,q2⟩=>?_;exact hf v u s2 x y H2 I2 r1 r2 q2),"!;",(by intro h1 s Z H Q I h;refine W.methodCall_KW (pl:=pl) (dL c5_ λu s1 ⟨x,H1,I1,rx,a,dx,fs,ex,ea,l,q⟩=>?_) ht;subst ex;obtain rfl:u=Value.ref a:=rx;refine pL I1 ea c hm l ?_),"!>",(by obtain⟨v,rfl,r1⟩:=fL r;obtain⟨rfl,rfl,hM⟩:=cM r1 e1;obtain⟨es,Y,L⟩:=((m.cell q.1 _ hM)).2;obtain⟨ys,g1,g2⟩:=a0w L),"!?",(by have l2:=au.txt x;obtain⟨s,hj⟩:=a8h hw J a!;obtain⟨q,hq,e⟩:=IH.mp ((wi.ri x).mpr J);obtain⟨q1,p⟩:=q;have e':q1=x:=e),"!A",(by obtain⟨us,rv,p1,_⟩:=I.list qa;obtain⟨us',ak,p2,_⟩:=I.list qb;have Y:=aL rd;have L:=aL re;have h3:=gp!),"!C",(by unfold Builtin.SmallTypes.ownedTupleIsFree;refine HI (LB gz rfl (x:=.none) rfl ac!);simp only[JT];refine HI h3_;refine HI (LB gz rfl (x:=.ref TO) rfl ?_)),"!E",(by rintro⟨⟨⟩,h2⟩ s' ⟨rfl,a1,a2,a3⟩;dsimp only;obtain⟨L',b1,b2,b3⟩:=uG jw hk f9 a1 a3),"!H",(by intro h1 s Z H x y v u Q I rx ry h;obtain⟨i,j,rfl,rfl,q⟩:=h;show"!@";obtain⟨t',rfl⟩:=ry),"!I",(by show"!1";obtain⟨kb,lf⟩:=cQ hb;obtain⟨kc,SE⟩:=wL bv;refine iX (bB.trans (congrArg some jG)) ?_;refine ifT (bB.trans (congrArg some a4q)) ?_),"!N",(by obtain⟨i,hi,q⟩:=nZ hb;obtain⟨p,ds,vs,Y,L,h3,h4,h5⟩:=er.own_ i hi;rw[q]at L;cases L),"!O",(by have l1:=congrArg List.length e;have l2:=congrArg List.length e';simp[Kh]at l1 l2;omega),"!R",(by obtain⟨cl,b9⟩:=b5d (X:=X) (scope:=scope) λp hp hf=>I.ok.has p.1 (ik p hp hf)),"!V",(by simp only[(show Builtin.Dict_items.ownsTuple "dict_keyiterator"=false by decide),IW,JL];show wpAny G_ A.in1 (if(Value.ref d==dE_)=true then _ else _) _ _ s;rw[(HQ (λz:(Value.ref d==Value.none)=true=>IN z))];refine HI (HK (HI (LX ui uj ?_)));rw[am_]),"!Y",(by have hT:=be.typeIs;obtain⟨o,ho,hc,hd⟩:=id be;obtain⟨od,ui,_,uj⟩:=id D),"!Z",(by refine HI (LB eo ed (x:=.ref tt) rfl ?_);rw[(HQ (show¬((Value.ref tt==Value.none)=true)from IN))];refine HI (LB eo ed (x:=.int n 0) rfl ?_);refine HI (LV zj zk ?_);simp only[NJ,g3]),"!]",(by have I1:Inv X h1 Z H {s with heap:=h',toks:=tk}:=I.turned mE! f0 f1 f3 f4 f5),"!a",(by obtain⟨o,es,ep,ho,r⟩:=hm;refine ⟨o,es,ep,kp _ o ?_ ho,r⟩;simp only[HN,JF,KW,OL];exact ⟨HR fz.2.1,HR fO.2.1,HR f1.2.1,HR f2.2.1⟩),"!c",(by obtain⟨gq,H3,I3,n3⟩:=q3;obtain⟨m',hm,w3⟩:=hN gq H3 n3;exact ⟨m',hm,gq,H3,I3,w3⟩),"!h",(by obtain⟨i,hi⟩:=MX.mp hv;obtain⟨d,_,p⟩:=gN z hi;exact⟨_,_,p⟩),"!i",(by obtain⟨e,he,hv⟩:=hi.2 i acc[i] (by rw[JH Y]);rw[he,ND,JH Y,hv];rfl),"!j",(by have:X.env.scope.names.lookup x=some .free:=hk;rw[k]at this;cases this),"!k",(by have hf:=a8x x k;have hl:∀i∈plc es du_,i<es.size:=λi hi=>b9m hi),"!l",(by obtain⟨v,rfl,r1⟩:=fL r;obtain⟨p,ys,rfl,q,rr⟩:=a2j sub m r1 e1),"!m",(by obtain⟨hi,r1⟩:=r1;obtain⟨p,dx,vs,rfl,rfl,hH,hl⟩:=a8k m1 q1 hi),"!o",(by simp only[sliceBounds,HT.sIx,Option.getD_none,(show(1:Int)>0 by decide),JT];by_cases h:i<0),"!p",(by show"!<";obtain⟨q,e2,e⟩:=HJ.mp e;obtain⟨ks',e3,rfl⟩:=HU.mp e),"!q",(by obtain⟨e1,e2⟩:=Y b hb hr;obtain⟨e3,e4⟩:=L b oh_ e2;exact ⟨e3.trans e1,e4⟩),"!t",(by intro x J;obtain⟨r,f,p',g1,g2,g3,g4,g5⟩:=hA.row x J;exact oq!),"!v",(by obtain⟨_,_,_,_,o,_,_,e,ex,_⟩:=I.hok p _ hk;exact⟨o,e,ex⟩),"!w",(by show (wpAny _ _ (field h3! 2>>=_) _ _ _);refine HI (LB gz rfl (x:=.bool false) rfl ?_);refine HI (LB gz rfl (x:=.ref TI) rfl ?_);refine HI (LV gI rfl ?_);refine HI ?_),"!}",(by show"!1";refine iX (bB.trans (congrArg some jH)) ?_;refine iX (bB.trans (congrArg some iK)) ?_;refine ifT (bB.trans (congrArg some a4r)) ?_),"#(",(by show pR!=_;rw[HQ h0,HQ Y,HQ L,HQ x3,HQ x4,HQ x5,HQ x6]),"#)",(by obtain⟨oc,od,kV,br,pm,an,ag,ct,eh,rfl,lk,bz⟩:=F.ex),"#*",(by have rs:∀j∈rest,j<es.size:=λj hj=>L j (HL _ hj)),"#+",(by subst hj;rw[hi]at e1;cases e1;rw[KB UG]at e2;cases e2),"#,",(by unfold pyNext;refine HI (PH (JY (name:=kt_) hT KM (JO KM hT QT ?_ (QP _))));refine HI (HK (HI gB_))),"#-",(by have ne:∀{b u},H b=some u->b≠p:=λe=>cN e hp),"#/",(by rw[HS,HS,<-h3,<-h4,<-Y,<-L];by_cases hl:h!=ai_),"#1",(by obtain⟨its,rv,⟨o,Y,L,n,h3⟩,_⟩:=I.tuple km_),"#3",(by obtain⟨Y,L⟩:=hA.mq i hi;rw[aw _ qc!];exact p4!),"#7",(by cases eH ry;cases e;refine j_;rw[a0c rx];show"!r"),"#9",(by show"!?";subst e';obtain⟨_,sp,_⟩:=jC wi _ hq),"#;",(by rename_i kvs ep hM;obtain⟨kk,e1,e2⟩:=HJ.mp e),"#@",(by simp only[Op.nm,D.tup.injEq,NC,D.int.injEq]at e),"#A",(by rw[qZ ly_,qZ lz!];exact b3j (mm p hp) (mm q a8)),"#D",(by have hi:i=fx!:=Nat.le_antisymm st.1 hg;subst hi),"#E",(by obtain⟨ad,kvs,vs,j6,VE,zh,zi,hn,hs⟩:=hd.ex),"#G",(by cases e;refine ⟨G,ρ,_,er,?_,k⟩;show((Option.some ds)).bind _=_;simp[hl])]
def z'0:String:=z [a!,(by omega),b!,Or.inl rfl,c!,List D,d!,(by simp),e!,Ae->Option D,g!,⟨rfl,rfl,rfl,f9_,rfl,f9_,f9_⟩,h!,ds.length,i!,List aD!,j!,Fl->Mh->Prop,k!,(by decide+kernel),l!,aB E_,n!,List V,o!,List eK_,p!,["thing"],q!,List Str,r!,λ_ _=>rfl,u!,wl v_,v!,(by omega),w!,fC aN!,x!,Aa 2,y!,IM _,z!,Str->Option Value,A!,arrOf st,B!,.dct [] 0,C!,fC L_,D!,s1.heap.objs.size,E!,Bd 0,F!,some N_,G!,.inl rfl,H!,(by simp),I!,Aa 5,J!,[aj_,S!],K!,some i,L!,⟨_,rfl⟩,M!,Aa 3,N!,s2.heap.objs.size,O!,(by rw[hA.ro];simp),P!,.fn a,Q!,.bl false,R!,(by decide),S!,"name",T!,.lst xs,U!,.str k,V!,k+1,W!,cK 0,X!,Bm t M yy a ta wa out S kl ca,Y!,Gl X x,Z!,oF a1 a2 a3 a4 a5 a6,Aa!,Vl M w rl W wt wn qa,Ab!,⟨aw b eh!,hr⟩,Ac!,(by rw[hA.rn];simp),Ad!,MS X own bj st q1,Ae!,!decide (q.1=i),Af!,.inl ⟨rfl,λj hj=>by omega⟩,Ag!,.lst ((eB_).drop a),Ah!,⟨G',ρ,M',R,sr.grow x m,r,k1,k2⟩,Ai!,sr.grow x1 m1,Aj!,⟨wt,wn,qa,g1⟩,Ak!,.Subscript o i p2,Al!,(Ak eB! L_).bind z0_=_,Am!,Vk X own own body q1,An!,Dd (knd "move"),Ao!,Hb (Dd (knd "set")) Uj,Ap!,Aa 2 ρ=some pu_,Aq!,b=true->q1 ρ M R,Ar!,⟨ng,cj.mr,ar_⟩,As!,∀cl C ao a9 fp,Qd cb_ de Ar_,At!,Bg NL.length ix fi bnd ft fe,Au!,∀K:D->Mh->Prop,fo ρ M K=K x M,Av!,Dt X.prog X.w X.K X.mg X.base k C m ps g,Aw!,(au!).length<5000,Ax!,Wo X.prog X.w X.K X.mg X.base k x C ps g,Ay!,(λd=>match d with|.int k=>D.tup Ax_|_=>.non)∘λi=>D.int cS_,Az!,λK hK=>?_,AA!,wi.sg a ha q hq,AB!,l[j]?.map c_,AG!,(show¬((i:Int)<0)from by omega),AH!,rawInt ((i:Int)+1),AI!,[B_,O_,fR_,bq_,y4,h0!,some L_,none,none,none],AJ!,[aS!,aQ_,.int bg!],AK!,.lst ((eD!).take at_++nw.map Bf),AL!,s0.heap.objs.size,AM!,(λi v=>∃c u,x.cps[i]?=some c/\v=.str aq_ u),AN!,D X.A.in1 hh,AO!,.int (q.2:Nat),AP!,.dct (h2_++[(.tup W_,.fn q)]) (Gs h2_ ad! e2),AQ!,W.its++[D.tup W_],AR!,IntsAre items.toList ns,AS!,.bl (if neg then !(b==c)else b==c),AT!,⟨by show _<=_;simp only;omega,same.its,same.txt⟩,AU!,Ti w x0 d nm,AV!,.Call (.Attribute br! "insert" aj) [ek,e] [] ah,AW!,.Call (.Attribute br! "extend" aj) [e] [] ah,AX!,[B_,U_,some o.d,none,none,none,none,none,none,none],AY!,(show pC_=true from by decide+kernel),AZ!,∀x,(kget wd x=none/\kget kb x=none)\/∃k:Str,kget wd x=some U!/\kget kb x=some fG!,A0!,mirror xs i j ((j - i) / 2),A1!,getElem?_pos _ k cx,A2!,Be qv! wt B!,A3!,.dct (k3 cQ_ fO! eA_) 3,A4!,IJ.mpr ⟨JF,NS⟩,A5!,.str "numbers",A6!,(aH!).length<5000,A7!,λi j h5 h6=>?_,A8!,(∀i,i<lo->rk r y_ i<=rk r y_ k),A9!,pendingOf h2,Ba!,jI [(t.B2,a)] (one ⟨_,i9,tX Y⟩) d!,Bb!,(by simpa using c),Bc!,(∀x∈xs,∀(R:β->Shared->Prop),(∀y,F x y->R y s)->wpAny r_ A (f x) R E s),Bd!,((hs os 5).length:Nat),Be!,λv hv R hR=>?_,Bf!,(by show¬((0:Int)=5);decide),Bg!,(Value.type "int"::r),Bh!,(by show¬((5:Int)=15);decide),Bi!,(by show¬((15:Int)=5);decide),Bj!,l.filter λx=>Lh x p,Bk!,cs.set k (.int (c+1)),Bl!,ts.set k Bk_,Bm!,Y.mem_iff.mp (KR cx),Bn!,⟨[a],[(Str.ofString "key",v)]⟩,Bo!,[aa!,at!,h8_,fY_,some (.lst [.int c0,.int c1,.int c2]),some (.lst [.int t0,.int t1,.int t2]),x6,x7,x8,x9],Bp!,[aa!,at!,h8_,none,none,none,none,none,none,none],Bq!,(c,seqObj "list" ku.toArray e),Br!,Ab f1 (Ab f2 Af),Bs!,ksk_tail a false e1 (.ref c) st,Bt!,Obj.mapSeq λ_=>(#[]:Array Value),Bu!,Array.toList_inj.mp,Bv!,Str.ofString "ours",Bw!,Str.ofString "waiting",Bx!,λx y F Q J hy hq=>?_,By!,⟨Array.Perm.refl _,rfl,rfl,rfl⟩,Bz!,(by rw[hsz];omega),BA!,⟨a1,a2,a3⟩,BB!,s.heap.get? a=some (seqObj "list" us.toArray n),BC!,⟨_,OD ha λ_=>#[]⟩,BD!,seqEpoch_at uq rfl ?_,BE!,wpAny_newTuple ?_ (by show av_<=_;rw[JV];omega),BF!,JI _ _ (λz=>hb (by rw[z];exact HX.mpr rfl)),BG!,((eH!).length:Nat),BH!,eK bt! qR_ (aP (sP o)) (vW hA),BI!,(by rw[JV];omega),BJ!,x1.sub.seq sq,BK!,(s1.heap.push cq!).update s1.heap.objs.size (Obj.mapSeq (·++bg_)),BL!,aP (d:=.int 2) rfl,BM!,(by rw[(bP _).length_eq,JV];omega),BN!,ItemsOf qo_ acc ai_]
def z'00:String:=z [a_,hr.mono b_,b_,(by decide),c_,(·.1),d_,Inv X h1 Z H s,e_,model X.prog X.w,f_,List Op,g_,Txt P w K mg t,h_,wl m_,i_,List Value,j_,⟨rfl,?_⟩,k_,List Nat,l_,xs.length,m_,Aa 0,n_,IB rfl,o_,s.heap.objs.size,p_,aR _,q_,Value->Shared->Prop,r_,model prog w,s_,D->Mh->Prop,t_,some cE!,u_,aB Y_,v_,Aa 1,w_,List Int,x_,Al.units hr,y_,arrOf h2,z_,.bl true,A_,(·.2),B_,some bH!,C_,wl x!,D_,.fn p,E_,aA 0,F_,(x==("__debug__":Str))=false,G_,model P w,H_,aP (d:=P!) rfl,I_,aB aq!,J_,"hand",K_,Bk G H,L_,.int 0,M_,bI x_,N_,.fn o,O_,some x0,P_,List α,Q_,Cg 3,R_,some x1,S_,fC bx!,T_,Aa 4,U_,some o.v,V_,ps.length,W_,[aS!,aQ_],X_,[J_,a2!],Y_,aA 1,Z_,DE X own a fa,Aa_,HQ (λhr=>by rw[(s.root hr).2]at e;cases e),Ab_,λb _ hr=>Ab!,Ac_,[B_,K!,cG!,ci!,none,none,none],Ad_,L.ok M0 G0 F0,Ae_,[B_,K!,cG!,ci!,hV!,oA_,none],Af_,(rs.take a++bQ_::rs.drop a),Ag_,.lst ((eB_).take a++[Bh bQ_]),Ah_,some (.inl (.inr "rows")),Ai_,(Ai!).grow x2 m2,Aj_,λq=>decide hW_,Ak_,.write m3 x3.sub hM,Al_,λd M' v G' H' r x m q=>?_,Am_,Dd (knd "put"),An_,Dd (knd "drop"),Ao_,Av (Hb (Dd (knd "write")) Uj) Th (Av (Hb (Dd (knd "cut")) Uj) Xs Bn),Ap_,Hb (Dd ft) fu,Aq_,b=false->q2 ρ M R,Ar_,Zh X.prog X.w X.K [] ft,As_,∀cl C ao a9 fp,ME cb_ [] ez fe,At_,⟨p9.or.cap NL.length ix nv,m1,ar_⟩,Au_,l.any λd=>En d x,Av_,⟨G,ρ,M,_,st,e',λd M1 v G1 H1 r1 x1 m1 q1=>?_⟩,Aw_,L _ _ _ _ _ _,Ax_,[fp_,fq!,.int (z+k)],Ay_,(d==sysModules)=false,Az_,(s,c,b&&!decide (s∈cy)),AA_,s.heap.IsKeyIter it d i es.length ep,AB_,some (.tup [kn!,a0,b,tx]),AC_,[B_,O_,AB_,fR!,y4,some lf!,hV_,y,none,none],AE_,decide ((l[k]).1=b),AF_,HK (HI (LY ui uj ?_)),AG_,HK (HI (QX hT ?_)),AH_,Obj.mapFields (·.setIfInBounds 1 AH!),AI_,(.tup yx_,.str ⟨#[s.cps.toList.getD k.toNat 0]⟩,true),AJ_,.lst ((eD!).drop at_),AK_,.lst ((wrT b nw au!).map Bf),AL_,D.tup W_∉W.its,AM_,decide (a=root),AN_,.dct (eC_++[(.tup W_,.lst [])]) (Gs eC_ ad! e1),AO_,[AO!,.str ⟨#[q.1]⟩],AP_,λi h ⟨o,ho,_,hd⟩=>⟨o,ho,λv z=>by rw[hd]at z;cases z⟩,AQ_,HQ (λz:i=.tup [.int h,.int n]=>hn (z▸hi)),AR_,IntsAre ju.toList ms,AS_,Value.bool b==Value.bool c,AT_,⟨same.rows,same.its,jJ_⟩,AU_,List.take_of_length_le d!,AW_,[B_,U_,none,none,none,none,none,none,none,none],AX_,(show pC!=true from by decide+kernel),AY_,∀K:Bool->Mh->Prop,K b M->ft ρ M K,AZ_,Et x.d=none/\¬kget wd x.nm=some bk_,A0_,(by simpa using c'),A1_,(by rw[zD_];exact g4),A2_,Be A2! wn B!,A3_,λi j h3 h4=>?_,A4_,(show x - 1<a0.size by omega),A5_,(λi h4 h5=>by rw[show i=x+1 - 1 by omega]),A6_,h m st b h3 h4 u,A7_,s.cps.toList.map λ_=>.bl true,A8_,⟨rfl,lo,lo,rfl,g2,g4,g5⟩,A9_,(none,a0.size),Ba_,λ_ _ z=>z,Bb_,a0j (HK (HK (HK h))),Bc_,((hs os 0).length:Nat),Bd_,((hs os 15).length:Nat),Be_,ys.toArray.filterMap id,Bf_,(by show¬((0:Int)=15);decide),Bg_,(by show¬((5:Int)=0);decide),Bh_,(by show¬((15:Int)=0);decide),Bi_,fx ρ=some cH!,Bj_,l.filter λx=>Lh x q,Bk_,.int (t+1+m / 3%3),Bl_,λp=>Jn qF_ (Lz h p.1),Bm_,dW rfl (dW rfl rfl c0u) rfl,Bn_,Fo X.prog X.w X.K X.mg X.base Qf k f fd ps wM!,Bo_,(c,seqObj "list" ku.toArray n),Bp_,λa b e=>?_,Bq_,∀H':Hp,H' c=none->Jg X h1 H' c,Br_,Inv X (h1++[lv!,Bq!]) Z H s,Bs_,Ab f1 (Ab f2 (Ab f3 Af)),Bt_,List.map_fst_zip qM_,Bu_,λv hv=>?_,Bv_,Str.ofString "taken",Bw_,Lz s.heap p.1,Bx_,(Str.ofString "taken",.fn ta),By_,(by rw[hsz];exact oq),Bz_,Jn ib_ (Lz s.heap p.1.1)<Jn ib_ (Lz s.heap q.1.1),BA_,(by rw[b3,hd]),BB_,∀b,M b≠none->M' b=M b,BC_,OU ha rfl ?_ ls_ ck!,BE_,QS ha rfl ?_,BF_,HM _ ((BF!).trans q),BG_,s.heap.IsList l cD!,BH_,checkCount "sorted" 1 1 _,BI_,⟨_,lh,rfl⟩,BJ_,gR (k:=qR!) ht rfl,BK_,seqObj "list" its.toArray 0,BL_,(BK!).push BK_,BM_,.obj t.B3 [fZ!],BN_,JW (by rw[JU,hi.1];omega)]
def z'a:String:=z [aa!,some (scr ns),ab!,Br M w rl W,ac!,HK ?_,ad!,.tup W_,ae!,λ_=>True,af!,[J_],ag!,o_+1,ah!,Ae->Option Bool,ai!,D->Ae->Option Ae,aj!,.ref f,ak!,X.N[i]?=some x,al!,fC bi!,am!,aB aD,an!,f ρ,ao!,(by rw[u3];simp),ap!,os.length,aq!,aA 2,ar!,aC u_ aI,as!,Ae->Option aR!,at!,some ky!,au!,W.txt a,av!,rs.length,aw!,List Addr,ax!,[J_,cq_],ay!,.ref C,az!,aK (λ_ _ h=>aW h),aA!,Ce t M o rl W B,aB!,(by rw[hA.r6];simp),aC!,some (.lst ops),aD!,D×D,aE!,kvs.length,aF!,HQ hk,aG!,λx J=>?_,aH!,W.txt x,aI!,some x,aJ!,(by rw[u4];simp),aK!,.nx ρ,aL!,HX.mp z,aM!,aP (d:=x) rfl,aN!,.int 1,aO!,wl M!,aP!,aB ba!,aQ!,Kh xs,aR!,List D,aS!,.int h,aT!,.str s,aU!,HL _ J,aV!,some bR_,aW!,[aj_,a2!],aX!,r.length,aY!,fI x_,aZ!,(by rw[hA.r3];simp),a0!,.rt d,a1!,IB a!,a2!,"item",a3!,I.tok _,a4!,X.calm=true,a5!,i+1,a6!,f2 Ak x! al!,a7!,Aa 9,a8!,aN aH aM E_ aD r!,a9!,aB aS]
def z'aa:String:=z [aa_,(a,b),ab_,(by simp;omega),ac_,ys.length,ad_,List DictEntry,ae_,Array Value,af_,.ref a,ag_,List eb!,ah_,List D->Option D,ai_,es.length,aj_,"self",ak_,OS t M a o rl W,al_,Ab u! Af,am_,HQ d!,an_,Option D,ao_,some D_,ap_,[a,b],aq_,⟨#[c]⟩,ar_,λi hi=>(by cases hi),as_,A.units<cLine,au_,l.length,av_,us.length,aw_,List Env,ax_,"_law_item",ay_,starEach aN_ X.env=e5!::starEach es X.env,az_,bZ x_,aA_,(by rw[hA.r2];simp),aB_,s.length,aC_,Db x=some k,aD_,ME X own a fa,aE_,"_law_k",aF_,aK az!,aG_,Or.inr rfl,aH_,[bh_],aI_,⟨trivial,?_⟩,aJ_,(by rw[u5];simp),aK_,X.A.units+64<cLine,aL_,EP X h1 Z Q,aM_,Ac m_ Ag,aN_,(e::es),aO_,IB hk,aP_,aA 5,aQ_,.int n,aR_,(by rw[hA.r5];simp),aS_,Co.refl sub,aT_,Ae->Option Fl,aU_,List ci_,aV_,[aj_],aW_,f2 Ak m_ C!,aX_,Ab h_ Af,aY_,x∈W.its,aZ_,(by rw[hA.r4];simp),a0_,os.map Op.v,a1_,[eL_],a2_,PE X a ta,a3_,λ_=>some true,a4_,wl T_,a5_,wl C!,a6_,(vI!).any c_=false,a7_,Option Addr,a8_,Option Int,a9_,aN aH aM aq! aD r!]
def z'b:String:=z [ba!,aA 3,bb!,.fn r,bc!,Fn W n rows',bd!,D->D->Option D,be!,List MK,bf!,Mh->D->D->Option D,bg!,((k:Nat):Int),bh!,[cq_],bi!,.int 3,bj!,Aa 6,bk!,λρ M R=>R true M,bl!,[d0_],bm!,aB a9_,bn!,List fh_,bo!,Addr->Nw,bp!,i∉own,bq!,B+20,br!,.Name x cf,bs!,Db d=some k,bt!,aP rfl,bu!,fs.length,bv!,X.N.Nodup,bw!,Bu v u,bx!,.int 2,by!,Ih false,bz!,Ac x! Ag,bA!,f2 Ak x! C!,bB!,.Call (.Name x p) aN_ [] pos,bC!,aA 4,bD!,aA 6,bE!,Ad st,bF!,⟨_,_,rfl⟩,bG!,λd hd=>?_,bH!,.fn w,bI!,k _ _ G! e,bJ!,"_law_script",bK!,.bl b,bL!,Aa 7,bM!,Wd os,bN!,aE E_ aJ,bO!,aC l! aI,bP!,[D.non],bQ!,De st,bR!,W.num x,bS!,Ew W x,bT!,.ref ae,bU!,.type "bool",bV!,.type "tuple",bW!,some (.int m0),bX!,[R_,ao_,U_],bY!,ME X own e f,bZ!,u.length,b0!,Jr P w K own M0 G0 F0 M G H Z ρ,b1!,[J_,cY_],b2!,List Stmt,b3!,"_law_world_here",b4!,wl cg_,b5!,wl e0!,b6!,Gw X (compareOp op) r,b7!,Array t7!,b8!,ns.map V.int,b9!,λ_ _ _ _ _=>oQ]
def z'bb:String:=z [ba_,.lst ys,bb_,(x,p),bc_,.fn o,bd_,(λ_ _ e=>by cases e),be_,srt ops,bf_,Mh->Prop,bg_,its.toArray,bh_,"_law_ops",bi_,⟨rfl,rfl⟩,bj_,Aa 8,bk_,.str "undo",bl_,w2 Bt h_ jg!,bm_,bX M_ bH l! a9! r!,bn_,u++v,bo_,λb h=>?_,bp_,W.txt i,bq_,some ad!,br_,some (.int most),bs_,mup_ne hb,bt_,mixKind P w,bu_,Ov P w H h,bv_,Wu X.env.scope x,bw_,.int i,bx_,Ap S_,by_,λb hb=>?_,bz_,g i j,bA_,vs.length,bB_,Az je_,bC_,aB bC!,bD_,aA 8,bE_,aG (bA d5_),bF_,(by rw[v3];simp),bG_,ep+1,bH_,.tup xs,bI_,[J_,l9_],bJ_,List Expr,bK_,I.ok.hd hc,bL_,Cg 2,bM_,eU I q d!,bN_,its.toArray.size,bO_,Array DictEntry,bP_,K w.params,bQ_,(i,p),bR_,.fn q,bS_,(by rw[hA.r1];simp),bT_,.type "int",bU_,.type "str",bV_,M p=some hO!,bW_,[aS!,ek_],bX_,Cw X.K G d u,bY_,MR X.prog X.w X.K M G H,bZ_,[O_,K!,cG!,ci!,hV!,k1!,y],b0_,[B_,O_,some er_,bq_,some (.bl g),none,none,none,none,none],b1_,[J_,a2!,"place"],b2_,ha h1 s Z H _ I h,b3_,[b3!,ax_],b4_,.ref it,b5_,[.int 3,.int 1],b6_,Al k X.A,b7_,iB x_,b8_,fA (bM az_ cB a9_ aS p_),b9_,(by rw[q];simp)]
def z'c:String:=z [ca!,absurd z.symm q1,cb!,.inl z,cc!,⟨rfl,h⟩,cd!,aA 9,ce!,mup_ne Y,cf!,OR K own G H Z ρ,cg!,f ρ=some d,ch!,.tup j3_,ci!,some s,cj!,(.str k::r),ck!,JS _,cl!,Db y=some k,cm!,MR P w K M G H,cn!,M a=some hO!,co!,.fn w,cp!,SB kd a0 st,cq!,seqObj "list" #[] 0,cr!,"_law_one",cs!,PE X b tb,ct!,(x==("__classdict__":Str))=false,cu!,.int i,cv!,PE X e te,cw!,Ay t.B4 "rows" h_,cx!,Cg 4,cy!,y.length,cz!,aB dI,cA!,λx=>!x.1,cB!,λx=>x.1.isSome,cC!,.inl z,cD!,us.toArray,cE!,.fn a,cF!,mup_ne L,cG!,some p,cH!,.int j,cI!,.Name x p2,cJ!,(by rw[v4];simp),cK!,(by rw[v5];simp),cL!,Bi d=true,cM!,Rs W pre,cN!,λ_=>true,cO!,some hI!,cP!,ME X own b fb,cQ!,ME X own o fo,cR!,acc.length,cS!,.nx ρ',cT!,[some hZ!,lg_],cU!,lo+hi,cV!,Cw X.K G,cW!,fZ_<64,cX!,α->β->Prop,cY!,IQ e,cZ!,Unit->Shared->Prop,c0!,.inl rfl,c1!,"_law_number_here",c2!,"_law_other",c3!,"_law_hand",c4!,x≠"__name__",c5!,fC (.int 4),c6!,Ay t.B5 "following" h_,c7!,∀x,foldedSetIterable iter X.env x=pure x,c8!,Ay t.B3 "taken" h_,c9!,ns.length]
def z'cc:String:=z [ca_,scope.names,cb_,Nu X scope cl C g0_ ao a9 fp,cc_,W.rows.length,cd_,.lst ds,ce_,some oj_,cf_,ρ.set i ef!,cg_,fC .non,ch_,.int 0,ci_,Str×D,cj_,some o8!,ck_,[ex!],cl_,λz=>?_,cm_,q1.mono x2.g,cn_,l[j],co_,Array Keyed,cp_,(s.heap.update a Bt!).push (seqObj "tuple" us.toArray 0),cq_,"operation",cr_,Hist S,cs_,Wt X.env.scope x,ct_,.Name x pos,cu_,[P!,x],cv_,Az u!,cw_,wl I!,cx_,.str "redo",cy_,vs.toArray,cz_,aB aP_,cA_,backToKw ah tz_,cB_,[cr!],cC_,im x,cD_,Am K H ds vs,cE_,H p=none,cF_,Ax K G d v,cG_,DE X own b fb,cH_,cs.length,cI_,if Ew W a then a else binn,cJ_,n+1,cK_,[none],cL_,some item,cM_,.type "tuple",cN_,kp_<64,cO_,x1.trans x2 m1,cP_,.int o.h,cQ_,.lst [],cR_,[some eB!,aI!],cS_,((i:Nat):Int),cT_,Pw W B,cU_,λx J hh=>?_,cV_,(by simpa using e),cW_,h.objs.size,cX_,upd H a o,cY_,"other",cZ_,[aj_,a2!,"parent",l5_],c0_,List V->Hp->Prop,c1_,[bJ!,aE_],c2_,[b3!,ax_,wi_,wj!],c3_,X.mg x=none,c4_,Bl (fC Q!),c5_,he h1 s Z H _ I h,c6_,.ref o_,c7_,50<=tu,c8_,Ab h_ al_,c9_,[pO tp]]
def z'd:String:=z [da!,.ref p,db!,vs++dvs,dc!,A.handled=none,dd!,⟨rfl,rfl,rfl,rfl⟩,de!,aE aq! aJ,df!,dH 3,dg!,aA 7,dh!,dF _ _ cb!,di!,Cm X scope NF ix,dj!,∀y∈ca_,y.2≠.cell,dk!,wo rows i,dl!,Str.ofString "rows",dm!,.tup ds,dn!,(by rw[g3];simp),do!,.int m,dp!,s1.trans s2,dq!,wl fo,dr!,λb h=>.inl h,ds!,scr ns,dt!,Str.ofString "",du!,Hr ks k,dv!,Vu W x,dw!,λ_ K hK=>?_,dx!,(d,x),dy!,kget kvs d,dz!,some x.nm,dA!,[B_,K!,aI!,ci!],dB!,dE d es ep,dC!,Uq prog w A s a0 kd r,dD!,.inr G!,dE!,.int i t,dF!,Ow a ta wa kl ca,dG!,Str×V,dH!,List β,dI!,X.s₀.heap.objs.size,dJ!,ms.map Op.v,dK!,Bool->Hp->Prop,dL!,behindInMarks op b=false,dM!,f1 Bp aM_,dN!,f2 Ak m_ S_,dO!,aP (d:=co!) rfl,dP!,.str "cut",dQ!,aP (d:=q1) rfl,dR!,Nat->Heap->Prop,dS!,.int j,dT!,f2 Ak x! S_,dU!,Az C_,dV!,[uO tu g],dW!,os++dV!++[dW_],dX!,xs.isEmpty,dY!,wl w!,dZ!,Sem Bool,d0!,Ut X.K C,d1!,Fo X.prog X.w X.K X.mg X.base CX k f fd ps sp,d2!,Bc dvs ds,d3!,.type T,d4!,.str "rows",d5!,aG (bA u_),d6!,.type "list",d7!,nM_=true,d8!,aC l! ar!,d9!,Ai N ps bE!]
def z'dd:String:=z [da_,ps.zip us,db_,⟨us,[]⟩,dc_,dO aD,dd_,items.size,de_,.ref o_,df_,bF T.V5 T.V6 l!,dg_,aG gG,dh_,dF _ _ fj!,di_,scope.kind=.function,dj_,X.pn++h1,dk_,(s,p),dl_,.lst g5_,dm_,.lst vs,dn_,er.grow s1,do_,DE X own e f,dp_,.Name x p2,dq_,Db a=some ka,dr_,En d d',ds_,IB hu_,dt_,q2 ρ M R,du_,mkHash P w k,dv_,⟨by simp[big];omega,?_⟩,dw_,[R_,ao_,aV!,U_,kN_],dx_,λx J=>fI!,dy_,aE!<big,dz_,Addr->LR,dA_,[B_,O_,AB_,fR!,y4,some lf!,hV_,k1!,none,none],dB_,λc=>?_,dC_,Int×Int,dD_,hF yy ta wa out,dE_,Value.none,dF_,Ow a ta wa bn bo,dG_,a==sysModules,dH_,NG _,dI_,some v,dJ_,["sign"],dK_,.str x,dL_,.Compare a [op] [b] pos,dM_,f2 Ak m_ w!,dN_,.fn t.A0,dO_,Ac v_ Ag,dP_,eval o X.env,dQ_,Ab C_ Af,dR_,IP _ rfl,dS_,(false,eval a X.env),dT_,List V->Hp->VK->Prop,dU_,tu<=58,dV_,os++dV!,dW_,rO rh rn g,dX_,.dK kvs,dY_,Ab h_ mB!,dZ_,List (Str×Value),d0_,.ref a,d1_,Fc X.K fd ps ds,d2_,Mg CX X E,d3_,.ref b,d4_,bF T.V3 T.W8 l!,d5_,aB eE,d6_,([]:List Keyword),d7_,⟨_,e,rfl⟩,d8_,aB nY!,d9_,Ej t M r f p xs]
def z'e:String:=z [ea!,kput_len _ _ _,eb!,D×D×Bool,ec!,a∈W.its,ed!,Str.ofString "texts",ee!,(d::ds),ef!,some d,eg!,i∈own,eh!,(by rw[hr];simp),ei!,(by rw[g5];simp),ej!,Ij X.K r g,ek!,List.range m.toNat,el!,sgn h n,em!,some b,en!,.str s,eo!,Be (Be M5 a3 oF_) q en_,ep!,k _ G H aS_ Ax.bl,eq!,some n,er!,(by simp;omega),es!,.tup [.str "cut",a,.tup jW!,ek_],et!,.str "undo",eu!,.tup cj!,ev!,Kn P w s.heap k u,ew!,ops.map Op.v,ex!,.lst ew!,ey!,some o.v,ez!,A.units+1<cLine,eA!,Be M p B!,eB!,Bh q,eC!,[O_,K!,cG!,ci!,hV!,hV_,k1!],eD!,(au!).map Bf,eE!,B<3800,eF!,arrOf bh,eG!,Iz g,eH!,hs S h,eI!,((eH_).length:Nat),eJ!,(f2_).zip ds,eK!,List dG!,eL!,λp hp=>?_,eM!,Z.set i dI_,eN!,Bc vs us,eO!,"_law_deed_here",eP!,.BoolOp .And (b::rest) pos,eQ!,.BoolOp .Or (b::rest) pos,eR!,[t_,aI!,some mn!],eS!,fC gi_,eT!,Oo i,eU!,some x,eV!,some (.fn b),eW!,wl (fC z_),eX!,fC bk_,eY!,Value->Value->Sem Value,eZ!,Ac M! Ag,e0!,f2 Ak x! w!,e1!,∀x∈S,x.tm<=B,e2!,some aj!,e3!,.ins C dx fs,e4!,backToKw pos tz_,e5!,(false,eval e X.env),e6!,PA X aN_ t,e7!,bE (bW eE),e8!,Ap I!,e9!,Ap bj!]
def z'ee:String:=z [ea_,HL _ hy,eb_,Nu X scope cl G2.objs.size g0_ s2 H2 fp,ec_,Str.ofString "parents",ed_,[bc_,x],ee_,λ_ h=>.inl h,ef_,srt S,eg_,i∈W.its/\Ew W x/\¬Wn W.rows i x,eh_,(by rw[g4];simp),ei_,λq hq=>?_,ej_,.tup jW!,ek_,.int m,el_,k _ G H aS_ Ax.int,em_,s.cps.toList.zipIdx.map el!,en_,.lst wX_,eo_,.dct (As k4 n bR_) e4,ep_,λd hd=>?_,eq_,Ax X.K H d v,er_,.tup [ht!,a,b],es_,Sum.inr y,et_,LC ..,eu_,Bool->Shared->Prop,ev_,λK hK=>?_,ew_,(pD!).Nodup,ex_,{s with toks:=tk},ey_,l.map c_,ez_,[R_,F!,aV!,some x.v,dz!],eA_,.fn wn,eB_,rs.map Bh,eC_,W.its.map λi=>(i,D.lst k6!),eD_,ms.length,eE_,j - 1,eF_,(a,oa),eG_,l.map f,eH_,hs S o.h,eI_,es.map kJ_,eJ_,xs++ys,eK_,Addr×Obj,eL_,"operations",eM_,"outline",eN_,eval e X.env,eO_,"_law_gone",eP_,.BoolOp .And (a::b::rest) pos,eQ_,.BoolOp .Or (a::b::rest) pos,eR_,.UnaryOp .Not a pos,eS_,J x HP,eT_,[v,ov,iv],eU_,Ay t.B4 "texts" h_,eV_,⟨_,dR_,rfl,rfl⟩,eW_,Ih true,eX_,srt os,eY_,Ep m_,eZ_,binaryOp .Add,e0_,(show false=true from hs),e1_,x.length,e2_,s.heap.push iX!,e3_,λ_=>rfl,e4_,(x::xs),e5_,us++ds,e6_,JK gJ!,e7_,.builtin id,e8_,aG (bA I_),e9_,aC I_ aI]
def z'f:String:=z [fa!,bF T.V4 T.V9 l!,fb!,⟨.bl _,H,I,rfl,?_⟩,fc!,if(d6_).isEmpty then 0 else 1,fd!,Hd t,fe!,.ref fa,ff!,λa b=>?_,fg!,As kp n a0,fh!,aN aH aM Y_ aD r!,fi!,List vI_,fj!,.inr z,fk!,Str.ofString "numbers",fl!,V.ref a,fm!,Bk.refl G,fn!,aC l! nG_,fo!,Db i=some ki,fp!,fa ρ,fq!,.int y,fr!,(by rw[q3];simp),fs!,⟨G,ρ,_,er,e1,wF!⟩,ft!,SR K own G0 F0 G H Z ρ,fu!,[F!,eq!,some a,em!,some pl],fv!,Bi d'=true,fw!,.tup z1!,fx!,x.cps.size,fy!,Ds N,fz!,some 1,fA!,.Tuple jp n1 tp,fB!,K.In h,fC!,List Um,fD!,IV rfl,fE!,λi hi=>?_,fF!,λK hK=>hK,fG!,.bl hF!,fH!,Hy P w K G kvs es,fI!,(by simp[W0]at J),fJ!,Bq ec_ fI_ [],fK!,cY h5,fL!,Uv X.K H dx,fM!,Db y,fN!,st.grow x1 m1,fO!,.fn wt,fP!,rs[k],fQ!,[B_,aI!,K!,y],fR!,some nm,fS!,[some hZ!,fR_,bq_],fT!,Keyed->Int,fU!,n<=a0.size,fV!,(by unfold Yc;omega),fW!,⟨_,i1,pN Y⟩,fX!,List h7_,fY!,HY _ (HY _ d!),fZ!,(Str.ofString "ours",.int yy),f0!,Addr->Prop,f1!,eO bt! hA.ob hF2,f2!,us.toArray.zip cD!,f3!,Be M q cQ_,f4!,tupleKind bt_,f5!,.ref x,f6!,[a,b,c],f7!,.frz o u,f8!,ms.map Op.nm,f9!,(by simp[z])]
def z'ff:String:=z [fa_,Hj t,fb_,.inr rfl,fc_,iL x_,fd_,As l d v,fe_,Jz aQ!,ff_,As kf a0 n,fg_,Bk H H',fh_,Str×Addr,fi_,(by rfl),fj_,D×D×Bool,fk_,.lst bR!,fl_,upd H p o,fm_,⟨1,?_⟩,fn_,Lc own Z G H,fo_,cW (HR c),fp_,.int x,fq_,fs ρ,fr_,(λz=>nomatch z),fs_,if x=n then _ else _,ft_,f1 ρ=some a,fu_,V.ref p,fv_,(by show A.units+1+Dp xs<cLine;omega),fw_,.str "root",fx_,.int (i:Nat),fy_,some (.lst kinds),fz_,Option Value->Shared->Prop,fA_,[z,TO,i1,i2],fB_,h.Ns mainGlobals mg,fC_,(kF!).Nodup,fD_,IF d!,fE_,(none,()),fF_,.int o.h,fG_,kvs.map c_,fH_,Ja kvs,fI_,.fn a1,fJ_,Bool->Mh->Prop,fK_,h3.typeIs,fL_,Jd kM_ be_,fM_,.int o.tm,fN_,W.rows.map Bh,fO_,qa i,fP_,[B_,K!,cG!,ci!,hV!,hV_,y],fQ_,(by rw[IK];unfold big;omega),fR_,some fw!,fS_,⟨rfl,k⟩,fT_,wpS_get ?_,fU_,(show i=j by omega),fV_,(t.A0,a),fW_,eW Y,fX_,L'.length,fY_,some h8!,fZ_,S.length,f0_,Cw K G,f1_,a==b,f2_,us.zip us,f3_,((eJ!).map A_).map Nv,f4_,.own a,f5_,List α->Prop,f6_,bD (cN q hn),f7_,Z.length,f8_,ms.map λo=>lY_,f9_,(by decide+kernel)]
def z'g:String:=z [ga!,["thing","limit"],gb!,[aj_,S!,a2!],gc!,[aj_,a2!,"place","number"],gd!,"left_out",ge!,[aj_,cY_],gf!,[og!,c1!],gg!,"_law_at",gh!,PT X a tA,gi!,.bl true,gj!,Zf W V,gk!,Br M w ak V,gl!,S++[o],gm!,Pw W 1500,gn!,It->Hp->Prop,go!,Ao 1 iH_,gp!,rv.length,gq!,aP (d:=.fn b) rfl,gr!,wl bj_,gs!,(∀b∈fp,H' b=none),gt!,f2 Ak iC_ C!,gu!,Ao 4 (wl (Do M! Aq bx_)),gv!,wl dT!,gw!,.str "write",gx!,i != 0,gy!,Fb t,gz!,lt S k0,gA!,((hs S yy).length:Nat),gB!,wl s9!,gC!,Il (Ep v_),gD!,aj.atName,gE!,Al k A,gF!,PA X es t,gG!,Al V! X.A,gH!,Aa 10,gI!,(nl_).map Op.v,gJ!,(by simpa using hi),gK!,cH cR eJ rfl T.S9 eG bN!,gL!,λ_ _ _ _ _=>a7c,gM!,f1 Bp gr_,gN!,Ul xs lo hi,gO!,.str aq_,gP!,El t,gQ!,Yy x,gR!,[.ref p],gS!,its.length,gT!,aB js!,gU!,aE Y_ aJ,gV!,Gu l d,gW!,⟨t,rfl⟩,gX!,absurd z.symm q2,gY!,W.keepIn K aj!=true,gZ!,NameKind.free,g0!,b9.sub x c h,g1!,Qe rows i p s rows',g2!,.ListComp ez vY_ scope pos,g3!,∀y∈ca_,y.2=.free->v6!,g4!,jW T,g5!,aE wa! aJ,g6!,bM az_ cB cd! aS p_,g7!,x∈W.its,g8!,aA 10,g9!,(λr M'=>match r with|.rt d=>R d M'|.nx _=>R .non M')]
def z'gg:String:=z [ga_,["parts","checks"],gb_,[aj_,a2!,"parent"],gc_,[eM_,S!,"deed"],gd_,[aj_,"ours"],ge_,[J_,"above",l5_],gf_,hb h1 s1 Z H1 _ I1 q1,gg_,aP (d:=bc_) rfl,gh_,fC (.int 16),gi_,.str "root",gj_,X.wish E,gk_,[t_,R_,B_,aI!],gl_,Ip t,gm_,PassesOwn e_ X.A X.env X.xe,gn_,Dd (Cz (fT iD_) iH!),go_,Cc t,gp_,(by simpa using hb),gq_,2 ^ 62,gr_,Ac T_ Ag,gs_,Op->Op,gt_,f2 Ak a6! C!,gu_,i.natAbs,gv_,Ab b5! (Ab gv! (Ab (wl a6!) Af)),gw_,As [] g bk_,gx_,List (κ×V),gy_,kr.map (lt S),gz_,Ay t.B3 "waiting" h_,gA_,.int n,gB_,HI ?_,gC_,some q2,gD_,getMethod ov m pl,gE_,Ac aW_ (Ac dM_ Ag),gF_,.int 9,gG_,I.hok.fresh y!,gH_,envOfC qual scope s.heap.objs.size f cd,gI_,Na N vs,gJ_,Cg 6,gK_,.int a t,gL_,wl (fC d4!),gM_,(w2 by! b5! bl_),gN_,f2 Ak v_ S_,gO_,.str aq_,gP_,Ma t,gQ_,Hs t,gR_,aC bm! (aC bm! jr!),gS_,⟨e,?_⟩,gT_,"names",gU_,λ_ _ _ _ _=>l!,gV_,.bool true,gW_,Te al.heap H,gX_,aB a8!,gY_,aB fh!,gZ_,K.f _ _,g0_,NL++NF,g1_,i∈W.its,g2_,G2.objs.size,g3_,∀cl C ao a9 fp,PG cb_ tg g,g4_,fw _ I2.lt,g5_,chl W.rows x,g6_,Sa t M o rl W B a1 a2 a3 a4 a5 a6 k1 k2 k3 k4 k5 k6,g7_,Ax K H d v,g8_,ρ.length,g9_,Tj nl ix ρ]
def z'h:String:=z [ha!,Co.refl er.sub,hb!,bF T.V3 T.W9 l!,hc!,s2.trans s3,hd!,.tup jV_,he!,DT X own a ft,hf!,[fp_,fq!,.int (z+(k:Nat))],hg!,(by simp[e]),hh!,(by rw[q5];simp),hi!,.tup W_,hj!,.dct oE_ e2,hk!,qH T,hl!,Fn W x rows',hm!,Co.laid x.sub hp,hn!,f2 ρ=some b,ho!,starEach (e::[]) X.env=e5!::starEach [] X.env,hp!,Ro F0 G1,hq!,Am X.K H ds vs,hr!,Ax X.K H d' v',hs!,.int k,ht!,.str "put",hu!,.tup [o6!,a],hv!,.Name y py,hw!,s.heap.IsTuple l1 xs,hx!,(if _<=big then _ else none)=_,hy!,⟨hp,g,d,tk,os⟩,hz!,BC s.heap l1 l2,hA!,λc o e=>?_,hB!,s.cps.toList.zipIdx.map kB_,hC!,(show u=.none from J),hD!,Mx ks k,hE!,KC.mpr r!,hF!,k=="undo",hG!,Pi s.heap a es ep,hH!,λx J=>hd x aU!,hI!,.lst ew!,hJ!,wl fa,hK!,Tl P w K own G H Z ρ M,hL!,Bq dl! hK_ fJ!,hM!,"texts",hN!,Yb X.prog X.w X.K r gm,hO!,.dct kvs ep,hP!,(o::os),hQ!,.int (k:Nat),hR!,MA X own aN_ fs,hS!,some (.lst zM_),hT!,Ed M1 d,hU!,k3 (.lst fN_) fO! eA_,hV!,some (.lst eB_),hW!,Be M p (.dct (As kvs y v) (Gs kvs y ep)),hX!,kget kvs y,hY!,Gj own Z H1,hZ!,.int bg!,h0!,some (.lst eD!),h1!,[h0_,some hZ_],h2!,[B_,O_,some er_,bq_,none,none,none,none,none,none],h3!,.ref z,h4!,a0.toList,h5!,mup_ne a1,h6!,hs os h,h7!,HW i os c0 c1 c2 t0 t1 t2,h8!,.lst a0_,h9!,os.map f]
def z'hh:String:=z [ha_,λ_ _ _ h=>h,hb_,r1.mono s2.g,hc_,w.nm i hi,hd_,ft ρ,he_,B<3900,hf_,U++v,hg_,(by rw[q4];simp),hh_,sub.free hp,hi_,s.cps.toList.length,hj_,mup_ne h6,hk_,λx ic hy=>?_,hl_,if x=x then _ else _,hm_,.obj C fs,hn_,er.grow x,ho_,(backTo ah tS_).any c_=false,hp_,ds.map some++List.replicate (i7_ - h!) none,hq_,Am X.K H es ws,hr_,Bu v' u',hs_,(aX!:Int),ht_,.tup [o5_,a,b,c],hu_,(by unfold big;omega),hv_,cs.map λc=>(aq_:Str),hw_,s.heap.IsTuple l2 ys,hx_,fs ρ=some ds,hy_,bN rfl rfl,hz_,λc hc=>?_,hA_,bK ve,hB_,(show v=.none from hy),hC_,ks.Nodup,hD_,.inl fj!,hE_,.int o.tm,hF_,(be_).map Op.v,hG_,DG o.d,hH_,∀o∈ops,DG o.d,hI_,wl fb,hJ_,[root,binn],hK_,.fn a2,hL_,f ρ M R,hM_,MA X own es fs,hN_,MT X own a ft,hO_,sK I sub r hk,hP_,(x::os),hQ_,Mh->List D->Option D,hR_,KR _,hS_,some cQ_,hT_,k3 a b c,hU_,.tup ap_,hV_,some (.int (a:Nat)),hW_,q.1=x,hX_,Aa 0 ρ=some bH!,hY_,W.its.length,hZ_,.lst cy,h0_,some (Bf q),h1_,q.2.1.map c_,h2_,W.its.map λi=>(i,D.fn fO_),h3_,LI ?_,h4_,m - 1,h5_,x - 1,h6_,HL _ hz,h7_,Int×Int,h8_,some (.int N),h9_,ku.zip us]
def z'i:String:=z [ia!,seqObj "list" us'.toArray n',ib!,(h9_).zip ds,ic!,kl.map λh=>(D.int h,D.fn (ca h)),id!,some lG_,ie!,Bc xs us,if!,List (List Key×V),ig!,seqObj "list" (eI_).toArray 0,ih!,.own x,ii!,H a=none,ij!,full.toArray,ik!,I.ok.bs b o e,il!,fr b hb,im!,(∀x c,X.env.cells.lookup x=some c->c≠b),in!,λb o e n hb J=>?_,io!,.int k,ip!,λ_ _ _ _ n=>n,iq!,λ_ _ _ e=>e,ir!,λm hm=>?_,is!,some l0_,it!,HR vo,iu!,"_law_most",iv!,.obj t.B3 (hF yy ta wa N_),iw!,∀du,isTrue e X.env du=(do let v <-du;standAt e.pos;holding [v] ml_),ix!,.str "bin",iy!,its.toList,iz!,f1 He aM_,iA!,some e,iB!,f1 Bp dO_,iC!,Rp 0 1,iD!,.Name x io,iE!,⟨.int _,H,a3!,L!,q⟩,iF!,Ws (Mt 1 Ag),iG!,wl ix_,iH!,fT sk_,iJ!,X.mg "range"=none,iK!,fr c hc,iL!,f2 b hb,iM!,I7.unpinned,iN!,BD r ta tb,iO!,Ah gu! (Av (Hb (Dd (Ct sG!)) (wT (w2 iN_ (Oz u! a4_) (wl eX!)))) (Cf C_ a4_ eW!) Bn),iP!,.str "put",iQ!,.str "move",iR!,w.hs x J,iS!,Gw X (compareOp fm) r',iT!,.Compare a [op,fm] [b,c] pos,iU!,(by simp only[HS];omega),iV!,if i<0 then -i else i,iW!,K.In s.heap,iX!,W.emptyDict,iY!,Lg f v fs,iZ!,Aj 2 (Cr t) c8_,i0!,True.intro,i1!,[U_,dz!],i2!,A.under (.builtin "type.__call__" ⟨.ref C::us,kw⟩),i3!,.List es pos,i4!,[.non,.non],i5!,.Call tO! aN_ [] pos,i6!,Str->Option NameKind,i7!,IJ.mp nd,i8!,m'%(N:Int),i9!,W.codeIn K ag qual=true]
def z'ii:String:=z [ia_,.done (.ret .none),ib_,((ib!).map A_).map eG!,ic_,aP (d:=aS!) rfl,id_,(by simpa using Y),ie_,(by rw[hp];simp),if_,o.ExactDict,ig_,∀b u,h.get? b=some u->h'.get? b=some u,ih_,.ListComp ez vY_ scope ah,ii_,full.length,ij_,Te h H,ik_,IQ ho,il_,b∈X.ex\/dI!<=b,im_,[P!,.lst dJ!],in_,vx b o e J,io_,λb hb=>?_,ip_,λ_ _ e=>e,iq_,Hist (S++ms),ir_,Jm Pf ms,is_,[O_,is!],it_,TP X h1 Z Q,iu_,"_law_base",iv_,PE X e t,iw_,Ct (fT (Em "tuple" m_)),ix_,fC ix!,iy_,.inl h,iz_,PS X st t,iA_,St->Hp->Prop,iB_,Pg (Li t) 0 dO_,iC_,f2 Ak m_ al!,iD_,f2 Ar v_ cg_,iE_,Ay t.B5 "preceding" h_,iF_,pyNext b4_,iG_,Gf t.B5 1 (Hu t) Af,iH_,w2 Bt mA! u!,iI_,((0:Nat):Int),iJ_,Gl X "range",iK_,(false,eval b X.env),iL_,f1 Dl aM_,iM_,Int->Int->V,iN_,λ_=>Ba,iO_,2 ^ 64,iP_,fC iP!,iQ_,.str "drop",iR_,.str "set",iS_,lastMarks [op,fm] [b,c]=false,iT_,(∀x∈S,x.tm<T),iU_,Ay t.B3 "ours" h_,iV_,r'.length,iW_,[some p.v],iX_,W.instObj C o_,iY_,(show False from r),iZ_,H a=some e3!,i0_,rp x.nm,i1_,w.hist.op x J,i2_,aP (d:=.lst a0_) rfl,i3_,.str "",i4_,fC (.int 12),i5_,.Call tO! [] [] pos,i6_,((p,w)::P.zip vs),i7_,N.length,i8_,Ac C! (Ac C! (Ac C! Ag)),i9_,cX E_ dP dc_]
def z'j:String:=z [ja!,.ref t,jb!,⟨_,ho,rfl⟩,jc!,(by simpa using hv),jd!,.ref sl,je!,bF T.V4 T.W3 l!,jf!,Builtin.Tuple.tupleExact _,jg!,wl (fC nw!),jh!,V->Option Int->Option Int->Hp->VK->Prop,ji!,wl (fC nA!),jj!,aB ji_,jk!,Ao 5 (w2 Bt bl_ b5!),jl!,Ij.m cB,jm!,bF T.V5 T.V7 l!,jn!,ac_<=sizeLine,jo!,compareOp .In,jp!,Il (Eu c5!),jq!,Aj 3 (Gm t) (Ab u! (Ab C_ aX_)),jr!,aC bm! aI,js!,aN aH aM ba! aD r!,jt!,Cm.cons (j:=0) Cm.nil,ju!,l.most=some n,jv!,List.Pairwise.nil,jw!,[(.non,.non)],jx!,λv _=>v=.bl true,jy!,(b0::v),jz!,z▸w,jA!,λ_ _ _ _ _=>aZ (i:=0) (show([cr!,ax_]:List Str).Nodup by decide+kernel) rfl b!,jB!,.inr fj!,jC!,Fq st,jD!,z▸this,jE!,HL _ hp,jF!,mup_ne jy,jG!,mup_ne uv,jH!,(D.non::u),jI!,"_law_row",jJ!,z▸HZ (f:=c_) hq,jK!,λa b hm=>?_,jL!,(N!,Ui us n),jM!,[(Str.ofString "following",D.fn f),(Str.ofString "preceding",D.fn p)],jN!,fw _ (td p hp),jO!,bb_∈W.rows,jP!,upd H p dm_,jQ!,Co G H G' H',jR!,∀j∈ix,j∉own,jS!,hA.lt x J,jT!,⟨_,mup_same⟩,jU!,Gr .str ef_ [],jV!,(∀v G' H',Co G H G' H'->Ax K G' d v->Q v H'),jW!,[fp_,fq!,.int z],jX!,.tup [fp_,fq!],jY!,⟨G1,ρ,d,dn_,e,wE_⟩,jZ!,bF T.V3 T.W7 l!,j0!,DA X own aN_ fs,j1!,Fc X.K fd ps [],j2!,mup_ne z,j3!,cD sub qa,j4!,Co.laid sub hp,j5!,aB_<=16,j6!,s3 c hc,j7!,⟨B6,B7,B8,B9,C0,C1,C2,C3,C4,C5,C6,C7⟩,j8!,List Bool,j9!,Co.refl s2]
def z'jj:String:=z [ja_,f2 Dr M! w!,jb_,⟨_,jj,rfl⟩,jc_,((sIx n 0 lo:Nat):Int),jd_,f2 Ba aW_ v_,je_,wl (fC Q!),jf_,HK ⟨_,rfl,HK h⟩,jg_,mS (nW T) a_ rfl,jh_,aN aH aM a8! aD r!,ji_,aN aH aM a9_ aD r!,jj_,fR E_,jk_,aE ba! aJ,jl_,(l_:Int),jm_,z.length,jn_,(show false=true from fx),jo_,upd H l ba_,jp_,.ref l,jq_,.dT kvs,jr_,Gf t.B3 2 (Gb t) (Ab (wl al!) Af),js_,HI fin,jt_,backTo ah vt!,ju_,ns.map .int,jv_,Qc kf kp xs,jw_,⟨[u],[]⟩,jx_,u++[a0],jy_,z▸ha,jz_,Cm.cons (j:=1) Cm.nil,jA_,.inr (.inr fj!),jB_,Gu kf n,jC_,Gu kp n,jD_,ForInStep.yield r,jE_,Cm.cons (j:=3) Cm.nil,jF_,mup_ne ow,jG_,mup_ne ut,jH_,names.map λ(n,k)=>if n5_ then(n,NameKind.cell)else(n,k),jI_,flt b hb,jJ_,λx=>?_,jK_,λx J y hy=>?_,jL_,(λv z=>by cases z),jM_,(by kernel_rfl),jN_,∀a vs,Ge K H a vs->Ge K H' a vs,jO_,.str i,jP_,λb u e=>?_,jQ_,bX M_ bH I_ a9! r!,jR_,W.num i,jS_,mG hN hv hd bz,jT_,if x=i then cutT [s] bp_ else W.txt x,jU_,fb ρ,jV_,[fp_,fq!,dS!],jW_,f2 g fa fb,jX_,⟨x,rfl,?_⟩,jY_,DA X own es fs,jZ_,wX h.ok,j0_,(by rw[hl];exact IS _ q0),j1_,(by rw[hl];exact HY _ q0),j2_,this.2.1,j3_,[aS!,aQ_,.int (k0:Nat)],j4_,Int->Int->D,j5_,(by rw[z]),j6_,mup_ne h5,j7_,.type "NoneType",j8_,bs.map Value.bool,j9_,starEach (a::[]) X.env=dS_::starEach [] X.env]
def z'k:String:=z [ka!,z▸J,kb!,λv H2 hy=>?_,kc!,wl f1,kd!,λj hj=>?_,ke!,eval br! X.env,kf!,[.Subscript br! ix p2],kg!,cs.map λ_=>.bl true,kh!,xs.map D.str,ki!,En o2! o2_,kj!,∀(us us':i_),Bc vs us->Bc ws us'->∀(j:Nat) u u',us[j]?=some u->us'[j]?=some u'->SeqAt.EqAt A.in1 s u u' ki!,kk!,λj=>En o2! o2_,kl!,nK ds es hl,km!,⟨.bl _,H,I,rfl,q⟩,kn!,.str "write",ko!,.ref ad,kp!,∀o∈ops,Vi o,kq!,kp_<=100,kr!,.tup kq_,ks!,(aB_:Int),kt!,cs.map Pe,ku!,(by size_fits),kv!,IsZip s.heap z TI TO .none,kw!,IsPair s.heap TO p q,kx!,s.heap.IsTupleIter i2 l2 k2,ky!,.int base,kz!,h5.objs.size,kA!,b7g (rH rfl (LF _)),kB!,Lb xs ys,kC!,.tup [kn_,a,.int p,.int v],kD!,(po!).set p.toNat kC_,kE!,pM l c k,kF!,rows.map c_,kG!,ks.length,kH!,plc es du_,kI!,[F!,aI!],kJ!,[fF_,.int o.n,hE_,o.d],kK!,Oy P w s.heap es.toArray ks,kL!,λk=>.bl hF!,kM!,(by simpa using hl),kN!,Bk G G',kO!,(∀b,M b≠none->M' b=M b),kP!,λq hq=>?_,kQ!,XM M G H M' G' H',kR!,mup_ne (HR j2),kS!,List D->Mh->Prop,kT!,w2 gm fa fb,kU!,⟨G1,ρ,M1,R,kT_,r1,zs!⟩,kV!,upd H a (dE a ay (Gs kvs d ep)),kW!,a5k (A:=A.in1) hu I m sub e r hk λo s' I' ho=>?_,kX!,os.map Op.nm,kY!,hp x HP,kZ!,(show its.toArray.any fL!=its.any fL! by simp),k0!,hp.map _,k1!,some hQ!,k2!,.ext x2,k3!,(u++o::v),k4!,⟨t1,t2,?_⟩,k5!,if _ then _ else _,k6!,(bp_).map Bf,k7!,HQ (HR h.1),k8!,some bg!,k9!,Bh rs[k]]
def z'kk:String:=z [ka_,bnd d ρ,kb_,(by show 3<=1000;decide),kc_,Am K G ds vs,kd_,IL.mp Y,ke_,wo W.rows i,kf_,Yj K ps.length g,kg_,Ge X.K H a vs,kh_,(by simpa using h),ki_,us.toArray.size,kj_,ak.length,kk_,rA rd re rv ak (h us us' rv ak),kl_,nG ds es hl,km_,cD sub q,kn_,.str "set",ko_,.str "redo",kp_,ops.length,kq_,[.int 9,.int 9],kr_,[.str "bin",kr!],ks_,ys.map (·.length),kt_,Str.ofString "__next__",ku_,ZipApart z TI TO i1 i2 l1 l2,kv_,IsPair s.heap TI (.ref i1) (.ref i2),kw_,s.heap.IsTupleIter i1 l1 k1,kx_,(∀c ob,c≠z->c≠TO->c≠i1->c≠i2->s.heap.get? c=some ob->h'.get? c=some ob),ky_,HI (RP ?_),kz_,IP _ rfl,kA_,λc hc=>?_,kB_,sgn h m,kC_,.int v,kD_,λx J q hq=>?_,kE_,k==k',kF_,hA.noOb oM6,kG_,Oy P w h es ks,kH_,⟨cr,?_⟩,kI_,(·.2.1),kJ_,(·.key),kK_,Str->D,kL_,(∀b,b≠p->M' b=M b),kM_,Gr .str be_ [],kN_,some o.nm,kO_,mup_ne c2,kP_,dE a es ep,kQ_,[(root,.non),(binn,.non)],kR_,[(root,.fn r1),(binn,.fn r2)],kS_,.fn a3,kT_,st.grow x1 m1,kU_,Cw X.K G x v,kV_,dictGet a u>>=_,kW_,upd H a (dE a ay bG_),kX_,!En d d',kY_,λw hw=>qO I r1 rx n1 r2 r n2 (by have:=oC X.A;omega) w nq!,kZ_,rV I r2 r n2,k0_,(by rw[hp.length_eq];omega),k1_,[O_,pZ_,U_,some p0_],k2_,(p,kvs,ep),k3_,ho.run I st e λd M1 v G1 H1 u s1 r1 x1 m1 q1 I1 rx=>?_,k4_,D.str.inj z,k5_,its.map λi=>(i,g i),k6_,cc_<5000,k7_,[B_,aI!],k8_,.int (av!:Nat),k9_,Gj own Z H]
def z'l:String:=z [la!,s.root hb,lb!,(by simpa using vm),lc!,W.rows.filter λq=>decide hW_,ld!,decide hW_,le!,Aa 2 ρ,lf!,.lst le_,lg!,.obj C [],lh!,Bw N ps.length q,li!,HK (HI (RH ho hd ?_)),lj!,.lst (nw.map Bf),lk!,(by simp[c]),ll!,fo ρ=some D_,lm!,some je,ln!,(0,a0.size,0),lo!,Hist os,lp!,Value.int a t,lq!,α->β,lr!,gU nd,ls!,[aa!,at!,h8_,hS_,qH!,qH!,none,none,none,none],lt!,h.ch k,lu!,Pu f1 ρ M a,lv!,(a,seqObj "list" #[] e1),lw!,Pu f ρ M d,lx!,[fZ!,Bx_],ly!,Int->Addr,lz!,hk q a8,lA!,(by rw[hA.ob];simp),lB!,(by rw[hA.wt];simp),lC!,hA.cl h hh,lD!,.fn (ca h),lE!,[P!,o.v],lF!,seqObj "list" us.toArray 0,lG!,lt S h,lH!,(by rw[he];rfl),lI!,acc.toList,lJ!,ds.map Nv,lK!,.str x t,lL!,dX (f:=fC .non) (d:=.non) rfl,lM!,(Sum.inr a:Key),lN!,⟨_,rfl,r⟩,lO!,List Key×Addr×Value,lP!,(by show 4<100;decide),lQ!,λh hh=>?_,lR!,aV hb hq,lS!,if h=o.h then q else ca h,lT!,HV.mp hh,lU!,e=x\/H e=some ih!,lV!,[.lst ju_],lW!,[t_,U_,none],lX!,upd H x o,lY!,[(Str.ofString "default",dv)],lZ!,X.env.scope.kind,l0!,[t_,R_,ao_,U_,kN_,y5],l1!,Ov X.prog X.w H' h',l2!,I.freeC x c e,l3!,I.base.keep b o e n hb J,l4!,λz=>hc f9!,l5!,[aj_,S!,cY_],l6!,[aj_,rw!,a2!,"behind","text"],l7!,∀o∈ms,o.h≠yy,l8!,⟨ho,rfl⟩,l9!,(eD_:Nat)]
def z'll:String:=z [la_,.lst ((Af_).map Bh),lb_,IB (by simp[big];omega),lc_,[.Subscript o i p2],ld_,wl fx,le_,l.map Bf,lf_,Dg C m M d,lg_,some es!,lh_,p1 rfl,li_,⟨#[s.cps.toList.getD k 0]⟩,lj_,.lst [],lk_,.Constant (.str s0) n0 p0,ll_,mirror_perm _ _ _ _,lm_,Lb qz_ qA!,ln_,setPending h2 ((A9!).push ln!),lo_,λx h=>(by cases h),lp_,λz hz=>?_,lq_,List (Keyed×D),lr_,bN rfl hy_,ls_,(by rw[HS,JV];omega),lt_,PySem.Fin->Shared->Prop,lu_,⟨rfl,hg _ hK⟩,lv_,HX.mp hb,lw_,ku.toArray.zip cD!,lx_,[fZ!,Bx_,(Str.ofString "waiting",.fn wa)],ly_,hk p hp,lz_,kl.length,lA_,(by rw[ht];simp),lB_,(by rw[hA.cl h hh];simp),lC_,.inr dD!,lD_,.builtin "sorted",lE_,(s.heap.push cq!).update s.heap.objs.size (Obj.mapSeq (·++cD!)),lF_,aP (d:=.int 1) rfl,lG_,.int h,lH_,.int yy,lI_,ds.all λd=>(My d).isSome,lJ_,(Sum.inl a:Key),lK_,Jm Nv ds,lL_,λh hh=>(by cases hh),lM_,(nomatch e),lN_,κ×Value,lO_,some (.inl (.inl o.h)),lP_,W.instObj C dx,lQ_,fs.map c_,lR_,vY F S λag A outer s H E hr=>hb hr,lS_,λ_ q=>q,lT_,HX.mp y,lU_,∃u,h'.get? e=some u,lV_,.inr cb!,lW_,Int×Tok,lX_,bD (hm b _ q λz=>z),lY_,(o.nm,o.v),lZ_,(λz=>by cases z),l0_,.lst dJ!,l1_,aP (d:=.fn p) rfl,l2_,λx c e=>?_,l3_,I.base.free b o e n J,l4_,h.ch y.h,l5_,"sibling",l6_,[aj_,a2!,"first","many"],l7_,hs.2 b (JG rm_),l8_,HY _ ho,l9_,"message"]
def z'm:String:=z [ma!,hs.2 b (JG (IT cY! (I.ok.cab x c ym hc))),mb!,kl.flatMap (hs S),mc!,[J_,"deed"],md!,"_law_letters",me!,eval a X.env,mf!,⟨v,H,I,r,h⟩,mg!,aP (d:=.non) rfl,mh!,"_law_name",mi!,.bool b,mj!,[c3!,c2!,bh_],mk!,hR M' o rl h hQ,ml!,h h1 s Z H _ I hw,mm!,.BoolOp .And [a] pos,mn!,.int (i:Nat),mo!,aP (d:=fx_) rfl,mp!,Do m_ Aq bx_,mq!,.IfExp c a b pos,mr!,(st::rest),ms!,λz hz=>J z h6_,mt!,assignEach es X.env,mu!,[D.tup [x,p]],mv!,setItem ov iv v,mw!,PG X tg g,mx!,Int->Int->Int,my!,hO.op o ho,mz!,λo ho=>(my!).dg,mA!,Ay t.B4 "parents" h_,mB!,Ab aO! Af,mC!,Ab u! mB!,mD!,⟨rfl,I.turned (t':=s.toks) (λb o hb e=>eb b o hb e) f0 f1 f3 f4 f5⟩,mE!,λb o hb e=>kk b o gp_ e,mF!,hi - lo,mG!,Ac bj! Ag,mH!,Ab cw_ Af,mI!,dL mH_ λus s1 ⟨vs,H1,I1,r1,q1⟩=>?_,mJ!,m1 c hc,mK!,(λo=>by unfold rp;split<;>rfl),mL!,(bP os).mem_iff.mp ho,mM!,Int->Int->Prop,mN!,.BinOp a op b pos,mO!,f dE! (.int j u),mP!,rI Xx λi j=>.int (i*j),mQ!,rI BB λi j=>.int (i / j),mR!,.tup [ht!,fw_,.non],mS!,i ^ j.toNat,mT!,decide (i<j),mU!,compareOp .LtE,mV!,f2 Ak M! al!,mW!,Sw λi j=>.bl mV_,mX!,Sw λi j=>.bl mW_,mY!,wl (Di Ag),mZ!,Ay t.B3 "outline" h_,m0!,f2 Ak v_ w!,m1!,kvs.isEmpty,m2!,⟨H,I,q⟩,m3!,.tup s6!,m4!,Hw 1 [] (Ep v_) E! a3_ td_,m5!,.lst [p.nm],m6!,{s with toks:=s.toks+1},m7!,srt m6_,m8!,Ao 2 tm!,m9!,Kg X e7_ r]
def z'mm:String:=z [ma_,[J_,"fresh"],mb_,Inv X h1 Z H' s',mc_,starEach es X.env,md_,(ef_).map Op.v,me_,[bJ!,iu_,bh_,iu!],mf_,[bJ!,iu_,"_law_many"],mg_,[b3!,ax_,c2!],mh_,[b3!,cr!],mi_,iT H_ (a3a h),mj_,∀K:D->Mh->Prop,(∀M' o rl,OS t M' a o rl W->Q M'->K N_ M')->Cq t [P!] M K,mk_,fC (.int 60),ml_,truthy v,mm_,.BoolOp .Or [a] pos,mn_,.BoolOp op [a] pos,mo_,dL b2_ λv s1 ⟨x,H1,I1,r1,q1⟩=>?_,mp_,.bl false,mq_,⟨σ,H',I.unwish,q⟩,mr_,.Return iA! pos,ms_,Hp->Prop,mt_,.lst [.tup [x,p]],mu_,wi.nm x J,mv_,⟨by simp[big],?_⟩,mw_,.fn (qa q1),mx_,Run W0 fL_ W,my_,V.its.map λi=>(i,D.lst ((V.txt i).map Bf)),mz_,aP (d:=.str "texts") rfl,mB_,{s with heap:=h'},mC_,λb hb=>(pm_).1,mD_,Bb t.B4 "has_item" 2 (Ci t) h_ al_,mE_,I1.kept (t':=s1.toks) λb o e=>HM _ e,mF_,s.heap.push {cls:=.type "range",data:=.fields #[.int lo t,.int hi u,.int 1 v]},mG_,Ao 8 (wl (f2 An v_ (Aw mG!))),mH_,ha pos h1 s Z H _ I h,mI_,some (.inl (.inr "root")),mJ_,PI X tg iter wi,mK_,(λo=>by unfold nu;split<;>rfl),mL_,V->Hp->VK->Prop,mM_,Gw X (binaryOp op) r,mN_,Ao 2 Gx,mO_,Int->Int->Bool,mP_,w.hs o ho,mQ_,rI (λ_ j=>0<j) λi j=>.int (i%j),mR_,rI BA λi j=>.int mS!,mS_,sM!\/sM_,mT_,Sw λi j=>.bl mT!,mU_,decide (i<=j),mV_,decide (j<i),mW_,decide (j<=i),mX_,ho h1 s2 Z H2 x y v u _ I2 r1 r2 q2,mY_,w2 Bt c8! C_,mZ_,Ab (Aj 1 (Ey t) aX_) Af,m0_,f2 Ak v_ C!,m1_,its.toArray.isEmpty,m2_,Pu f1 ρ M x,m3_,Vj s.heap x dx C mA,m4_,W.plainGet_of hg,m5_,W.isFn K aj!=true,m6_,s2 os tu rh rn g++c9_,m7_,show Lg f v ((k,x)::r)=(if k=f then(k,v)::r else(k,x)::Lg f v r)from rfl,m8_,Option Value,m9_,I.tok _]
def z'n:String:=z [na!,(os.map i0_).map Op.v,nb!,∀M',R (.rt z_) M',nc!,srt nb_,nd!,.tup [gF_,gF_],ne!,[rO rh rn x.nm],nf!,Rr P w K mg base A outer s H,ng!,Ac (f1 Bv (Ac m_ (Ac tB_ Ag))) Ag,nh!,upd tK! x ng_,ni!,kR I hg hm ?_ bg,nj!,[uO (50+m%9) x.nm],nk!,Mk X.K C f,nl!,fC (.int 5),nm!,Ph CX P w K mg base N qual scope f ag A outer s H E,nn!,aE a8! aJ,no!,bootBuiltins x=some d3!,np!,.int c u,nq!,(by simpa using hw),nr!,v+(n:Int),ns!,.tup [bk_,cx_],nt!,Ca (w2 Bt h_ gL_),nu!,aB (lH aJ),nv!,bF T.V4 T.V8 l!,nw!,.str "texts",nx!,f2 Ak v_ al!,ny!,Ao 2 (wl nx!),nz!,Cf bl_ aO! mY!,nA!,.str "numbers",nB!,w2 Bt h_ ji!,nC!,Bo (Aj 4 Gq uC!),nD!,Bo (Aj 4 Jj (Ab h_ gv_)),nE!,Il (Eu uE_),nF!,V->List V->Hp->VK->Prop,nG!,Ac (f2 An uN! m_) Ag,nH!,aC u_ nG_,nI!,sliceBounds lo hi none n,nJ!,w2 Bt C_ jg!,nK!,aC cz_ aI,nL!,Ab a4_ Af,nM!,Ab u! nL!,nN!,λx1 x2=>x1++x2,nO!,aC a9! (aC cz! aI),nP!,n<=sizeLine,nQ!,aO (jO T) a_ rfl bO!,nR!,aO (eY T) a_ rfl d8!,nS!,Ab (wl a7!) al_,nT!,World->Heap->Prop,nU!,cH cR eJ rfl T.S9 eG gU!,nV!,⟨bl!,[]⟩,nW!,λf vs=>PySem.call f vs,nX!,Al k callerA,nY!,fE (n:=9) rfl,nZ!,h.p _ _,n0!,λ_ _ _ _ _=>gX_,n1!,aC I_ nG_,n2!,λm hm=>hm,n3!,λ_ _ _ q=>q,n4!,vJ (pH b8_ (kN (cU b7_ eR bm! bm_ rfl))),n5!,bL (sc:=Ad Qx) rfl k!,n6!,Zg X scope cl,n7!,∀b∈fp,Jg X h1 H2 b,n8!,W.its.Nodup,n9!,kP.mp hq]
def z'nn:String:=z [na_,PE X o ta,nb_,s2 os tu rh rn x.nm++c9_++[vO tv],nc_,f2 Ba gt! iP_,nd_,aP (d:=.fn c) rfl,ne_,f2 An w! (f2 By m_ v_),nf_,some (.lst na!),ng_,.ins C dx [],nh_,uO (50+m%9) x.nm,ni_,Ac bL! Ag,nj_,backTo pos tS_,nk_,srt (os++nj!),nl_,o0.map nu,nm_,hW (yN (a1j t8! (tY (bM a0i a0k gK! aD p_)))) e7! eC,nn_,bootBuiltins x=some e7_,no_,hX T.T9 rfl,np_,ws.length,nq_,Ao 3 (wl ja_),nr_,Ca (Aj 1 Fw aX_),ns_,wl (fC ns!),nt_,(i:Int)+(m:Int)*1,nu_,(items.toList.drop (sIx items.size 0 lo)).take ur_,nv_,bX M_ bH nv! u_ r!,nw_,Ab C_ mB!,nx_,.Slice lo hi none p2,ny_,Ao 3 (wl (Aw uz_)),nz_,HT.sIx xs.length 0 lo,nA_,HT.sIx xs.length xs.length hi - HT.sIx xs.length 0 lo,nB_,Cf nB! aO! (Qj (Ab a5_ (Ab a5_ (Ab a5_ (Ab a5_ Af))))),nC_,λb ob q=>HM _ q,nD_,Bo (Aj 4 Jj (Ab h_ sK_)),nE_,aB (cX ba! dP dc_),nF_,.Subscript a b pos,nG_,aC aP! aI,nH_,aC am! aI,nI_,bU (dJ T) a_ l! ar!,nJ_,λ_=>Xz false,nK_,w2 Bt aO! jg!,nL_,Ab h_ nL!,nM_,aj.endLine==ah.line,nN_,acc++its,nO_,Bg 1 [] gC! E! bk! (Yf (wT (w2 eW_ (wl gt!) ns_)) h_ (wl ve_)),nP_,Bg 1 [3] gC! E! bk! (wl (Kz (fT vi!) m_ ve_)),nQ_,ks.map kV,nR_,Av (Ux (wT (w2 Pt (Aj 2 fd! (Ab cw_ (Ab (wl (Di ni_)) Af))) dY!)) (Iu (wT (Aj 3 (Jc t) (Ab cw_ vk_))))) bB_ Bn,nS_,(Str->Option Value)->Heap->Prop,nT_,d.params.defaults=[],nU_,.call fe! nV!,nV_,λr s'=>r=.ok (.ret gV_)/\OldK al.heap s'.heap/\s'.os=al.os/\AllBare s'.gens,nW_,.bool true,nX_,λ_ _ _=>False,nY_,h.f _ _,nZ_,λ_ _ _ _ _=>oP (fA (bM az_ cB a8! Y_ p_)),n0_,W.fnOf x qual jC! bQ! bE! .none kV br pm an ag ct,n1_,bD (ne b _ e),n2_,bD (by simpa using hc),n3_,∀x∈xs,∃k,Db x=some k,n4_,K.p _ _,n5_,k==gZ!&&env.scope.kind==.function&&env.kindOf n==some .cell,n6_,Inv X h1 Z H2 s2,n7_,Pv NL.length ix Z,n8_,(aH!).map c_,n9_,aC bC_ aI]
def z'o:String:=z [oa!,aC l! n9_,ob!,mR (fM rfl T.T3 aD),oc!,n∉W.its,od!,(od_).resolve_right q,oe!,λ_ _ _ _ _=>aZ (i:=0) (show(cB_:List Str).Nodup by decide+kernel) rfl b!,of!,setT W a l,og!,"_law_rows",oh!,k1.length,oi!,List (L2.Key×V),oj!,ds.drop n,ok!,mup_ne p1,ol!,some cd_,om!,Ij.m b1j,on!,Db x=some kx,oo!,(jR_).set p.toNat gA_,op!,hw Z G H Q ρ d er e k,oq!,⟨r,f,p',g1,g2.keep (ax _ dn!) (ax _ eh_) (ax _ ei!),g3,g4,g5⟩,or!,(q.1,q.2.1,q.2.2&&!decide (q.1∈cy)),os!,λq hq y hy q' a8 e=>?_,ot!,.dct os_ e6,ou!,k G' H' s',ov!,⟨G,ρ,x,er,e1,λG1 H1 s1=>?_⟩,ow!,⟨G,ρ,.bl x,er,lA e1,wF!⟩,ox!,setT W i wE!,oy!,(by rw[xh];simp),oz!,(by rw[HS,HS];omega),oA!,cD sub qb,oB!,[F!,bq_,K!,em!,some tx,some c7,oA_,some gO!,some ch!],oC!,(.tup j3_,.str aq_,true),oD!,mR (fR Y_),oE!,Option Int,oF!,As k3 n (.fn r2),oG!,mup_ne c3,oH!,jd c hc,oI!,xk c hc,oJ!,gj c hc,oK!,⟨o,Y,L⟩,oL!,mup_ne h4,oM!,w1 _ v1,oN!,w1 _ v3,oO!,(by rw[z,hA.r1]),oP!,bs.all id,oQ!,aC (aB cd!) ar!,oR!,List.range n,oS!,(by show 1<=1000;decide),oT!,ak.mono x2.g,oU!,x.sub.free hp,oV!,Y.ok G0 F0,oW!,ρ.set i ol!,oX!,Be M a1 oW_,oY!,[F!,K!,aI!,ci!],oZ!,h5.mono x.g,o0!,.dct (As k1 i x) (Gs k1 i e1),o1!,A.deeper (envOfC qual bE! s.heap.objs.size ae ag),o2!,ds.getD j .non,o3!,us'.toArray.size,o4!,Fx X.K H a vs,o5!,(a==k||b==k),o6!,.str "drop",o7!,bp.lookup y,o8!,.lst its,o9!,Addr->Option xI!]
def z'oo:String:=z [oa_,aC u_ n9_,ob_,λ_ _ _ _ _=>(aO (sT T) a_ rfl (aC u_ (aC I_ bO!))),oc_,if x=n then[]else W.txt x,od_,(cC_).mp J,oe_,[c1!,iu!],of_,if x=a then l else W.txt x,og_,Str.ofString "written",oh_,(by rw[e1];exact hb),oi_,.inr (.inr ⟨ap_,rfl⟩),oj_,V.ref p,ok_,mup_ne h3,ol_,[F!,aI!,K!],om_,λi d q _=>?_,on_,hA.noOb oM2,oo_,aE aD aJ,op_,[c3!,bh_],oq_,if b∈Jx own Z then none else G' b,or_,setT W i (cutT g bp_),os_,As k6 s z_,ot_,setT W i ws!,ou_,g++[.tup jV_],ov_,fT fa ρ,ow_,.dct (As k5 s c) e5,ox_,aN aH aM bC! aD r!,oy_,f1 g fs,oz_,cs.zipIdx k0,oA_,some wR_,oB_,[F!,bq_,K!,em!,some tx,some c7,oA_,some gO!,qu],oC_,hO.mono a!,oD_,As k1 n pl,oE_,As k2 n (.fn r1),oF_,.dct oF! e3,oG_,s2 c hc,oH_,K3 c (oH!).1 (oH!).2.1 (oH!).2.2,oI_,sub.seq q,oJ_,.builtin "isinstance",oK_,gj c j6!,oL_,aY aQ bO aD (aY eP eQ w1! aD),oM_,w1 _ v2,oN_,a3s (pG T) a_ rfl nH_,oO_,(by rw[z,g4]),oP_,(by rw[z,g5]),oQ_,w1 a2 h3,oR_,(by rw[cW xn];exact u1),oS_,na d hd,oT_,GD X.K g bnd,oU_,HQ (λz:x=n=>hn ka!),oV_,⟨ho,rfl,k⟩,oW_,.dct oD_ (Gs k1 n e1),oX_,eV.mp z,oY_,.inl ⟨rfl,vs,Fx.of h3⟩,oZ_,Dz ds.length j,o0_,⟨nj iy,?_⟩,o1_,Ph Qf P w K mg base N qual bE! ae ag A outer s H E,o2_,es.getD j .non,o3_,us'.toArray,o4_,.tup [.str a,.str b],o5_,.str "move",o6_,ad==sysModules,o7_,Sum.inr z,o8_,Sum.inr z,o9_,A'.handled]
def z'p:String:=z [pa!,some (.lst c8),pb!,letters.length,pc!,[a].length+(d6_).length+fc!<30,pd!,λ_=>some true,pe!,[aa!,at!,aC!,br_,bW!,cj_,cL_,lm!,fy_,some U!,none,none],pf!,⟨_,rfl,?_⟩,pg!,[aa!,at!,aC!,br_,bW!,cj_,cL_,lm!,fy_,some U!,some sg,none],ph!,HM _ kz_,pi!,(λv y=>by cases y),pj!,λc o _ _ hc e _=>⟨o.slots,kp c o hc e⟩,pk!,λc ps e=>rr!,pl!,λd o' hd e'=>kp d o' (λhm=>?_) e',pm!,bD (ne c _ e),pn!,bD (ne d _ q),po!,W.num a,pp!,A.deeper (envOfC x bE! s.heap.objs.size ae ag),pq!,Vd n es,pr!,W.mg_of X G a,ps!,ns.map D.int,pt!,Vv rows,pu!,Dc (D.str k::r) 0=_,pv!,IB (by simp only[IE];omega),pw!,.tup (.str k::a::b::c::r),px!,List L2.Key,py!,some (.inl (.inr "bin")),pz!,LY ho hd (HI (c0y hu q2 hk (HI (LY ho hd ?_)))),pA!,Nk i3_ yW_=some v,pB!,KP.mp hq,pC!,Str.ofString "undo"==Str.ofString "undo",pD!,ops.map Op.key,pE!,HI (vT hu hk λtk=>HI y0_),pF!,ai_<=sizeLine,pG!,.dct acc ep,pH!,mup_ne hb,pI!,λx=>?_,pJ!,Gr .str be_ [],pK!,(∀b,M b≠none->M' b=M b/\rl b=.oth),pL!,hH.trans Y,pM!,(by rw[mup_same];simp),pN!,[(root,D.fn r1),(binn,D.fn r2)],pO!,"numbers",pP!,st.mr.ext x,pQ!,MT X own c ft,pR!,if c=o then _ else _,pS!,⟨⟨o,q o z1,z2,z3⟩,z4⟩,pT!,Jd wd os,pU!,λy hy=>hd y ea_,pV!,Fx K H p ys\/Ge K H p ys,pW!,compareOp .NotIn,pX!,((j:Nat):Int),pY!,[O_,zJ_,U_,some pX_],pZ!,(bn_).map Op.v,p0!,(bZ!:Nat),p1!,((bZ!+m:Nat):Int),p2!,[O_,hS!,U_,z],p3!,q.2.length,p4!,⟨Y,L⟩,p5!,RO (a:=Str.ofString "redo"),p6!,Value×Value,p7!,⟨cR_,rfl,ev_,dw!⟩,p8!,upd H s.heap.objs.size zW_,p9!,An hQ! aN!=_]
def z'pp:String:=z [pa_,c8.length,pb_,backTo ah (starEach [a] X.env),pc_,⟨cs.toArray⟩,pd_,⟨_,dR_,rfl⟩,pe_,some (Rj oth),pf_,CY s.heap l1 l2,pg_,.type "zip",ph_,[.tup [ch_,.int (1+m0%5)]],pi_,λc o _ _ hc e _=>kp c o hc e,pj_,λc o hc e=>⟨o,kp c o hc e⟩,pk_,I.hok c o e,pl_,λ_ e'=>e',pm_,hf b hb,pn_,⟨_,_,rfl,rfl,ep!⟩,po_,[aS!,aQ_,.int (k:Nat)],pp_,Ph Qf P w K mg base N x bE! ae ag A outer s H E,pq_,(pM l c k).binds b,pr_,⟨a',b',c',e',IS _ hm⟩,ps_,Tu rows,pt_,.str k',pu_,.tup (.str k::a::r),pv_,.tup (.str k::a::b::r),pw_,f3 ρ=some c,px_,Kn P w s.heap x u,py_,[.str k,a],pz_,(dv!).map c_,pA_,Option Nat,pB_,(k=="undo"||k=="redo"),pC_,Str.ofString "redo"==Str.ofString "redo",pD_,.bl (Et o.d).isSome,pE_,(Ak o.v bi!).bind λx=>Ak x L_,pF_,(∀o∈os,DG o.d),pG_,[R_,ao_,y],pH_,[cO!,ao_,none],pI_,kget wd o.nm,pJ_,As kvs d x,pK_,[(root,D.non),(binn,D.non)],pL_,.obj t.B4 fJ!,pM_,(by rw[e];simp),pN_,hw Z G H Q ρ M R st e k,pO_,Bq ed! kS_ hL!,pP_,.refl st.or.sub,pQ_,Co.laid x1.sub hp,pR_,⟨o,h⟩,pS_,HI (OO hT ac!),pT_,some x.v,pU_,λy hy=>hp y ea_,pV_,∀c,rl c≠.oth->M' c=M c,pW_,l.map Op.v,pX_,.int zK!,pY_,α->Prop,pZ_,some (.lst pZ!),p0_,.int p0!,p1_,((bZ!+(m+1):Nat):Int),p2_,.dct q.2.1 q.2.2,p3_,kget q.2.1 y,p4_,(Str.ofString "undo"==k||Str.ofString "redo"==k),p5_,(cO_).trans x3 m2,p6_,Bg 1 [1] _ _ _ _,p7_,rs.take k,p8_,.int ((k+1:Nat):Int),p9_,IL.mp e]
def z'q:String:=z [qa!,.inr (s.noF z),qb!,(by rw[hA.rt];simp),qc!,(by rw[L];simp),qd!,Y.ok M0 G0 F0,qe!,.lst ((eB_).take a),qf!,sr.grow x m,qg!,.obj C (Bq x y fs),qh!,!decide (x=i),qi!,Jr P w K own M0 G0 F0 M1 G1 H1 Z ρ,qj!,Aa 2 ρ=some eu!,qk!,(by rw[hA.rw_];simp),ql!,Xy P w K ps.length g,qm!,((n:Nat):Int),qn!,Pi s.heap d es ep,qo!,[B_,O_,fR_,bq_,y4,none,none,none,none,none],qp!,some (.int (at_:Nat)),qq!,.lst ((eD!).take at_),qr!,.str letters,qs!,HT.lexLt ms ns,qt!,a5b hL dv0 oU bm,qu!,[R_,B_,ao_,some x.v],qv!,Be N w B!,qw!,⟨0,?_⟩,qx!,∀k h2,SB kd a0 h2->1<=k->k<=n->Up r y_ k->Q (some k) h2,qy!,⟨by rw[IK];unfold big;omega,?_⟩,qz!,List (Addr×D),qA!,cs.map A_,qB!,Addr×D->Prop,qC!,x.h=0\/x.h=5\/x.h=15,qD!,(by have:=hw.b0;omega),qE!,(by have:=hw.b2;omega),qF!,az.map A_,qG!,h1++[eF_],qH!,some (.lst [ch_,ch_,ch_]),qI!,(by rw[IU];rfl),qJ!,λd q=>My d=some q,qK!,∀H':Hp,H' a=none->Jg X h1 H' a,qL!,Uw ft ρ M false,qM!,Jm eG! ds,qN!,Iz g q.2,qO!,.int yy,qP!,QN ?_ ck!,qQ!,.int BG!,qR!,some (.inl iy_),qS!,aP (f:=Aa 0) rfl,qT!,λq e=>Cw K G q.1 e.key,qU!,(by show _<100;simp),qV!,(λb hb=>by rw[lv_];exact gg),qW!,λv d=>Hx h3 v (Nv d).1 (Nv d).2,qX!,mixKind prog w,qY!,L'.map (·.1.2),qZ!,(Xc λys Q H=>∀l,H l=none->Q jp_ jo_),q0!,.tup (p.1.map kV),q2!,aY eP eQ bC! aD,q3!,mup_ne (HR at_),q4!,Fg P w H h a o,q5!,mup_ne λz=>ho cb!,q6!,[(.int o.h,.fn q)],q7!,.dct (ic!++q6!) bG_,q8!,W.methodObj aj! (.ref y),q9!,.tbl (ps++pz)]
def z'qq:String:=z [qa_,.dct (k3 (.lst (rows'.map Bh)) fO! eA_) e,qb_,aw wn Ac!,qc_,[some eB!,K!],qd_,((av!:Nat):Int),qe_,.nx cf_,qf_,.lst [Bh bQ_],qg_,Lf M3 d y v,qh_,.lst [p],qi_,MI X own tg iter fi,qj_,.dct (As eC_ a lf!) e,qk_,.fn (qa a),ql_,.bl q.2.2,qm_,[B_,O_,lg_,fR!,o4,o5,o6,o7,o8,o9],qn_,List.range aB_,qo_,(λi v=>∃e,es[i]?=some e/\v=e.key),qp_,[B_,O_,fR_,bq_,y4,h0!,qp!,y,some lj!,none],qq_,(by simpa using qk),qr_,.bool (lexLt ms ns),qs_,Stp W n d W',qt_,fa ρ=some y,qu_,Et x.d=none,qv_,Be qv! wt B!,qw_,Option Nat->SortSt->Prop,qx_,HX.mp z,qy_,[none,none],qz_,cs.map λc=>.fn c.1,qA_,cU! / 2,qB_,os++[o],qC_,(by rw[IG,hw.len];rfl),qD_,(by have:=hw.b1;omega),qE_,ρ[i]?=some ol!,qF_,(qF!).map kf,qG_,Al k X.A.in1.in1,qH_,b7u em ed nd z rfl rfl rfl rfl rfl rfl rfl hb,qI_,ku.length,qJ_,Ab f1 Af,qK_,seqObj "list" #[] e1,qL_,Paired cV! ds us,qM_,(by rw[KG];omega),qN_,Str.ofString "outline",qO_,λb hb ho=>?_,qP_,(cp_).push cq!,qQ_,aP (d:=lj_) rfl,qR_,hA.nob hM1,qS_,aP (d:=ch_) rfl,qT_,Paired.mapP ok.1 λ_ _ z=>z.1,qU_,.obj t.B3 lx_,qV_,mup_ne (HR yf),qW_,(λq=>nomatch q),qX_,seqEpoch_at mh rfl ?_,qY_,Jn f3_ (Lz h3 p.1.1)<Jn f3_ (Lz h3 q.1.1),qZ_,(show Fg X.prog X.w H s.heap d dB! from I.hok d _ e2),q0_,.lst ((eH_).map Op.v++[o.v]),q1_,hF yy ta wa out,q2_,(∀f,Ou (fs.lookup f) (mA f)),q3_,mup_ne (HR aw),q4_,(show h.get? a=some _ from x),q5_,∀b xs,H b=some bH_->H' b=some bH_,q6_,∀{ae:Addr} {ag:Value} {A:Around} {outer:aw_} {s:Shared} {H:Hp} {E:XK},Al k o1!->Vk (o1_).nox [] hx bQ! q,q7_,W.fnOf "__init__" qual jC! bQ! bE! .none kV br pm an ag ct,q8_,∀b u,b≠e->h.get? b=some u->h'.get? b=some u,q9_,(by simpa using b1)]
def z'r:String:=z [ra!,(∀b o,b≠I->b≠S->h.get? b=some o->h'.get? b=some o),rb!,(by rw[<-e];exact hl),rc!,h.get? b=some o,rd!,Around.under_plainId LU,re!,Bm t M0 yy a ta wa out S kl ca,rf!,(by simpa using ur),rg!,(toString "max"++toString ".loop":String),rh!,(∀b,M0 b≠none->M' b=M0 b),ri!,OD jx λ_=>#[.int x t,.int x t],rj!,⟨o,(JI _ _ ur).trans e1,e2⟩,rk!,⟨o,(JI _ _ z6).trans e1,e2⟩,rl!,∀o∈ms,Nx yy S o,rm!,Array GenState,rn!,.builtin "max",ro!,[t_,ao_,aV!,kN_,some fM_],rp!,λx J=>hk x aU!,rq!,⟨_,ay,bd,hL,r'⟩,rr!,⟨#[],by rw[e];simp⟩,rs!,λb u e=>?_,rt!,vp.mem_iff.mp ho,ru!,[aj_,S!,"ahead","follower"],rv!,storeName X.env x u,rw!,"operation_name",rx!,⟨in!,in!,I.base.free,rn_,I.base.tups,I.base.frzs,I.base.tbls⟩,ry!,λj y v' e1 e2 e3=>?_,rz!,(by simpa using I.len),rA!,[eL_,"words",cq_],rB!,⟨u',r',?_⟩,rC!,[eL_,eM_,gd!,cq_,S!],rD!,[t_,is!,some L_,none],rE!,(Mv.of fr).trans mv,rF!,(l.filter λx=>p x||q x),rG!,[J_,cq_,"known"],rH!,Zx X.K own f,rI!,[J_,"deed",S!],rJ!,"_law_found",rK!,ta Z H λx H1=>tb Z H1 λy H2=>R x y H2,rL!,(by rw[hp.length_eq];exact hS),rM!,λv al=>wpAny e_ X.A vR_ (λu ao=>wpAny e_ X.A (f v u) Q X.xe ao) X.xe al,rN!,[bh_,"_law_last",cr!],rO!,[b3!,ax_,wi_,wj!,og!,gg!,aE_],rP!,[b3!,ax_,c2!,"_law_above"],rQ!,.Constant .none j pos,rR!,[c3!,bh_,b3!,ax_],rS!,(by rw[I.ok.glob];exact I.mod.glob.keeps I.bk),rT!,[bJ!,bh_,gg!,eO_,"_law_rest",c3!,c2!,"_law_undoes","_law_redoes","_law_third","_law_mine"],rU!,op==CmpOp.In,rV!,(by rw[IV J];exact hK),rW!,dL (ha h1 s Z H Q I h) λc s1 e=>?_,rX!,⟨H1,I1,q1⟩,rY!,f1 Ec (Ac mp! Ag),rZ!,∀x,chl r1 x=chl r2 x,r0!,(by simpa using hs),r1!,a5c e.ch wi.rnd vi.rnd g1 g2,r2!,(by rw[e.its,ei,ew]at c1;exact c1),r3!,(by rw[e.its,ei,ew];exact c2),r4!,swapsWith e none pos.line X.env=pure false,r5!,[dN_,.fn t.A8,.fn t.A9],r6!,(∀x∈xs,Ew W x),r7!,(λ_ s'=>∃σ H',Inv X h1 σ H' s'/\Q σ H'),r8!,⟨trivial,hR y⟩,r9!,eval i X.env]
def z'rr:String:=z [ra_,List.range cW_,rb_,λ_=>hz.1 rfl,rc_,.builtin "max.loop" ⟨[.ref I,.none,.ref S],lY!⟩,rd_,LV hS rfl ?_,re_,(∀b,M0 b≠none->M b=M0 b),rf_,dn.map λo=>lY_,rg_,X.env.kindOf x=some .cell\/X.env.kindOf x=some .free,rh_,I.ok.noex b o e,ri_,some (.inr [.inl o.h,.inl o.n]),rj_,[t_,R_,ao_,U_,kN_,U_],rk_,λb hb=>(mup_ne (aV hb h0)).trans il!,rl_,(by simp[AN];omega),rm_,IT cY! I.ok.above,rn_,λb o e J=>?_,ro_,λi x v e1 e2 e3=>?_,rp_,(λ_ z=>nomatch z),rq_,.Pass ⟨0,0,0,0⟩,rr_,∀M',kO!->R .non M',rs_,∀b u,s.heap.get? b=some u->h'.get? b=some u,rt_,[aj_,S!,cY_,"ahead","follower"],ru_,ys.map λ_=>true,rv_,[aj_,a2!,"parent",l5_,"place"],rx_,[aj_,rw!,a2!,"behind","text","ahead","k","sign",S!],ry_,[aj_,a2!,"first","many","k",S!],rz_,List.mem_of_getLast? e,rA_,[eL_,"words",gT_,cq_,S!],rB_,.obj t.B3 lx!,rC_,z.sameBut hs (cne y c e),rD_,[J_,l9_,"fresh",cq_,S!,"same"],rE_,[J_,"fresh","times",S!,"time"],rF_,[J_,"many","found"],rG_,[J_,l9_,"many",cq_],rH_,Bool->Hp->Prop,rI_,⟨by simp only[IK];unfold big;omega,?_⟩,rJ_,([]++kl.flatMap (hs S)).map Op.v,rK_,∀v u s2 x y H2,Inv X h1 Z H2 s2->Bu x v->Bu y u->R x y H2->wpAny e_ X.A (f v u) Q X.xe s2,rL_,[bJ!,iu_,bh_,iu!,c1!,"_law_items_here",ax_,c2!,"_law_kinds","_law_kind","_law_sign","_law_names"],rM_,[bJ!,iu_,"_law_many",bh_,"_law_counts","_law_times",aE_,c1!,gg!,eO!],rN_,[bh_,rJ!,cr!,gg!],rO_,.Constant bw_ j pos,rP_,[b3!,cr!,eO!,mh!,"_law_good",og!,gg!,aE_,"_law_new",eO_],rQ_,[bh_,b3!,"_law_undone_here",cr!],rR_,[c3!,c2!,bh_,b3!,ax_],rS_,.bl (decide (Ew W x)),rT_,bootBuiltins x=some u,rU_,op==CmpOp.NotIn,rV_,b0w (jB (b:=true) (eK gg_ (h.nob oM1) aM! λK hK=>tU h.out hk rV!)),rW_,dL b2_ λc s1 ⟨H1,I1,q1⟩=>?_,rX_,h h1 s Z H Q I hw,rY_,dL (hc h1 s Z H _ I h) λd s1 ⟨H1,I1,q1⟩=>?_,rZ_,f2 Bz m_ cg_,r0_,⟨ok.mod,ok.kind,ok.glob,ok.blt,ok.above,ok.inj,ok.has,ok.cab,ok.hd,ok.frames,ok.stk,ok.exf,ok.bs,ok.bsz,ok.noex,ok.exfs,ok.funs,ok.frf⟩,r1_,⟨e.its,e.txt,e.num,r1!⟩,r2_,⟨e.its,by simp only[setT,e.txt],e.num,e.ch⟩,r3_,V.rows.length<5000,r4_,aP (d:=gi!) rfl,r5_,.Return none pos,r6_,St->Hp->Prop,r7_,(∀y',R (.nx [t_,R_,B_,y']) M),r8_,.Subscript o i pos,r9_,(List.range 4).map λi=>D.int cS_]
def z's:String:=z [sa!,ho h1 s Z H _ I h,sb!,cL H_ dQ! (b0b h wi hk J hj),sc!,dL c5_ λv s1 ⟨x,H1,I1,r1,q1⟩=>?_,sd!,cL H_ dQ! (xA h hk J hq),se!,(∀x∈xs,x∈W.its),sg!,Dd (fT (f2 Ar x! cg_)),sh!,Ah (Ws (Px 1 x!)) (Ao 2 (w2 Bt c6! C_)),si!,(∀b∈fp,Jg X h1 H b),sj!,["enumerate","zip","dict_itemiterator","dict_reverseitemiterator","odict_iterator","itertools.zip_longest","itertools.pairwise"],sk!,a0f (eF dO! mz_ i1) kd,sl!,Bb t.B4 "has" 2 go_ h_ dQ_,sm!,(by simpa using hu),sn!,Bo (Bb t.B5 "put_behind" 3 (Cv t) (w2 Bt cw! a4_) mC!),so!,Ay t.B4 "numbers" h_,sp!,Cf so! u! (Wv (Ab a5_ Af) (wl c5!)),sq!,[t_,eV!,some x2,y3,y],sr!,hl h1 s Z H _ I h,ss!,Bo (Bb t.B5 "put_behind" 3 (Cv t) (w2 Bt eU_ C_) (Ab gr! mH!)),st!,Cf ss_ gr! (wl bL!),su!,.Name "range" p,sv!,f2 An dT! M!,sw!,starEach [b] X.env=[iK_],sx!,Ao 5 (wl (f2 An (Do x! Aq bx_) (Aw gr_))),sy!,w2 Bt eU_ u!,sz!,w2 Bt so! u!,sA!,Ca (Bb t.B4 "signs_of" 2 (Dm t) h_ al_),sB!,T.obj _ _ m9,sC!,HY _ (HY _ (kQ hb e)),sD!,os.map (rp g),sE!,Av (Dd (fT (f1 At bz!))) (Cf u! sD_ (wl gt_)) Bn,sF!,d1f ha hb I h λv u s2 x y H2 I2 rx ry q=>ho h1 s2 Z H2 x y v u Q I2 rx ry q,sG!,fT (f1 At eZ!),sH!,intBits_le_64 Y L,sI!,Sw λi j=>.int (i - j),sJ!,Dd (fT (f2 Ba bA! (fC iQ!))),sK!,K24.hs os h=[],sL!,Dd (fT (f2 Ba bA! (fC gw!))),sM!,rh=11/\rn=2,sN!,Dd (fT (f2 Ba bA! (fC iR_))),sO!,Ao 1 (Gf t.B4 1 (Io t) Af),sP!,compareOp .Gt,sQ!,Av sO_ (Bo (Aj 3 (Nt t) sP_)) Bn,sR!,λx y H Q=>y=.non/\Q (.bl (decide (x=.non))) H,sS!,λx y H Q=>y=.non/\Q (.bl (!decide (x=.non))) H,sT!,λx y H Q=>r x y H Q\/r' x y H Q,sU!,wE _ _ w.pl.srt,sV!,hc h1 s3 Z H3 _ I3 q3,sW!,Gr .str (srt _) [],sX!,tW (o:=dW_) b8c,sY!,l.map λh=>D.int (f h),sZ!,⟨H,a3!,by rw[yG r];exact q⟩,s0!,(show False from e),s1!,wT (Aj 2 (Fz t) dY_),s2!,wl (f2 Ak T_ C!),s3!,wT (w2 iN_ s2! iU_),s4!,Av s1! (Ao 5 (w2 Bt (w2 Bt c8! s2!) (wl (f2 Dr (f2 Ak T_ w!) w!)))) (Av s3! Fh (Ao 5 (Ki C_ a4_ aO!))),s5!,f2 Eg I! M!,s6!,[lH_,.int (gA!+1)],s7!,.int (x.cps.getD 0 0:Nat),s8!,.builtin "len",s9!,f2 Ak M! C!]
def z'ss:String:=z [sb_,(by rw[<-ev.its];exact J),sc_,(by show 0<=40;decide),sd_,Pk (Ek b4! b4! Ny),se_,.While c body [] pos,sf_,(by rw[z];exact hb),sg_,IQ (I.pin p hp).1,sh_,letOwnedTupleGo tg b4_ u,si_,DU X h1 Z tg R,sj_,aP (d:=.lst hJ_) rfl,sk_,f2 Eg v_ x!,sl_,Ao 4 (Yf (wT sl!) C_ iG!),sm_,λb o hb e=>(sb.2 b hb).trans e,sn_,Cf mA! u! a4_,so_,OS t M b o' ac W,sp_,(∀y',R (.nx [t_,eV!,some x2,y3,y']) M),sq_,b9w ho ha.ok hb.ok,sr_,(((mF!).toNat:Nat):Int),ss_,Ay t.B4 "written" h_,st_,starEach [a] X.env=[dS_],su_,.Call su! [a] [] pos,sv_,starEach ap_ X.env=[dS_,iK_],sw_,.Call su! ap_ [] pos,sx_,λc hc=>.inl hc,sy_,Av (wT (Bb t.B5 "holds" 2 (Hv t) sy! mH!)) (Cf (Ay t.B4 "hidden" h_) cw_ eW!) Bn,sz_,.For tg iter body [] pos,sA_,λb hb=>(iL!).1,sB_,step x H5 y5,sC_,I7.pin (b,o) sC!,sD_,wl (f2 Ak a6! w!),sE_,Value->Sem Value,sF_,.int bz_ s.toks,sG_,⟨.int bz_,H,a3!,L!,q⟩,sH_,Dd (fT (f2 Ba bA! iP_)),sI_,binaryOp .Mult,sJ_,Dd (fT (f2 Ba bA! (fC iQ_))),sK_,Ab b5! (Ab iG! (Ab b4! Af)),sL_,Dd (fT (f2 Ba bA! (fC dP!))),sM_,rh=12/\rn=1,sN_,compareOp .NotEq,sO_,wT (w2 eW_ a4_ C_),sP_,Ab u! (Ab a4_ (Ab (wl mV!) Af)),sQ_,compareOp .Is,sR_,compareOp .IsNot,sS_,Fy t.B3 "outline" h_ b4!,sT_,Hz c8! u! mY!,sU_,Wx r r' ta tb tc,sV_,Az (wl (f1 Dl dO_)),sW_,tW (o:=uO tu g) wG,sX_,Av (wT (w2 (λ_=>Bz) mZ! b4!)) (Fy t.B3 "outline" h_ (Aj 1 (Kd t) mZ_)) Bn,sY_,Bb t.B3 "have" 2 gy! h_ (Ab (wl m0_) Af),sZ_,Av (wT (w2 iN_ (Bb t.B3 "have" 2 gy! h_ al_) a5_)) (Az a5_) Bn,s0_,Az (w2 Bt (w2 Bt (w2 Bt c8! u!) (wl (Yx w!))) (wl S_)),s1_,(by rw[e];exact HP),s2_,.builtin "abs",s3_,(λxs H Q=>∃i,xs=[cu!]/\Q (.int iV!) H),s4_,.builtin "ord",s5_,Av (Dd (fT s5!)) Fh Bn,s6_,(λxs H Q=>∃x,xs=[.str x]/\e1_=1/\Q s7! H),s7_,eO bt! hA.ob hF1,s8_,⟨.int l_,H,a3!,⟨_,by simp only[HS];rw[ap]⟩,q⟩,s9_,Ao 4 (w2 Bt (w2 Bt u! aO!) (wl S_))]
def z't:String:=z [ta!,aP (d:=.tup s6!) rfl,tb!,Av ta_ Fh Bn,tc!,W.plainGet K C name=true,td!,aP (d:=fw_) rfl,te!,fT (f1 Rq (Ac m4! Ag)),tf!,λd j3=>?_,tg!,c9!<=sizeLine,th!,.tup [et!,p.nm],ti!,Av th_ (Ah (Bo (Aj 2 (Kf t) c8_)) (Az (w2 Mf dY! (Aj 1 (Fe t) aX_)))) Bn,tj!,W.makesIn K C=true,tk!,∀x∈s2 os tu rh rn g,x.tm<tp,tl!,Aj 2 (Kc t) dY_,tm!,Aj 1 (Cq t) aX_,tn!,.tup [fF_,.int o.n,hE_],to!,Av (Dd (Ct tn_)) Fh Bn,tp!,(show∃t,u=Value.int i t from r),tq!,Bb t.B4 "children_of" 2 (Dq t) tq_ al_,tr!,Aa 1 ρ=some h8!,ts!,fT (f1 At aM_),tt!,Bg 1 [0] (Ir c8!) E! bk! (Aj 2 (Ex t) (Ab u! aX_)),tu!,(by rw[e];exact i0!),tv!,if g=f then some u else mA g,tw!,λb u q=>HM _ q,tx!,Bg 1 [1] (Ca (Aj 2 (Kq t) (Ab h_ (Ab iU_ Af)))) E! (wT (w2 eW_ h_ u!)) h_,ty!,s2 os tu rh rn x.nm,tz!,⟨x.h,x.n,rfl,(i1_).hb.1,(i1_).hb.2,(i1_).n1,(i1_).n2⟩,tA!,backTo pos (starEach args X.env),tB!,.Call (.Attribute e m aj) args [] pos,tC!,(by obtain⟨_,_,_,z⟩:=j4.hob;rw[z];simp),tD!,.Tuple es x1 pos,tE!,some (rO rh rn x.nm).v,tF!,(λo ho=>by have:=(mP_).1;omega),tG!,Aw (Ac bA! (Ac e0! eZ!)),tH!,srt (os++[uO tu x.nm]++ne!),tI!,f2 Ak x! tH_,tJ!,Cp 5 (f1 Md bz!),tK!,upd H1 dx ih!,tL!,λv H2=>v=.non/\Q f5! H2,tM!,Gi (fT (Em "str" bL!)) (Cp 7 cg_) Cs,tN!,bN (oW lr_ rfl) rfl,tO!,.Attribute o m aj,tP!,starEach aN_ X.env,tR!,Gi (fT (f2 Ba a7! iP_)) (Bl (Aw (Ac a7! (Ac (f1 Du (Ac I! ng!)) ni_)))) Cs,tS!,⟨I2.kIn,?_⟩,tT!,.cons rfl .nil,tU!,Gr .str nk_ [],tV!,Gi (fT (f2 Ba a7! (fC iQ_))) (Bl (Aw (Ac a7! mG!))) Cs,tW!,[aa!,fY_,gC_,dz!,nf_,t_,eV!,some (nh_).v,some (tQ_).v,none,none],tX!,X.mg x=some ay!,tY!,(∀v,(x,v)∉binds),tZ!,(by rw[l1];omega),t0!,(by simpa using Y),t1!,Gi (Cz (fT (f2 Ba a7! (fC dP!))) (fT (f2 Ar gH! cg_))) (Bl (Aw (Ac a7! (Ac bj! (Ac gH! (Ac (f2 An w! (f2 By tZ_ (f2 Dr gh_ (f2 Ak gH! S_)))) Ag)))))) Cs,t2!,Ph CX P w K mg base N qual scope f cd A outer s H E,t3!,(show b∈t2_ from z),t4!,Gi (fT (f2 (Vf false) a7! (fC (.tup [dP!,iR_])))) (Bl (Aw (Ac (fC iR_) (Ac bj! (Ac (f2 By tZ_ c5!) (Ac (f2 Dr (f2 By (f2 Ck T_ (fC (.int 48))) (fC (.int 2000))) (fC (.int 1000))) Ag)))))) Cs,t5!,Cp 11 (f2 An (Hw 1 [] (Ep x!) E! a3_ (Aw gE_)) (Di (Ac (Aw (Ac C! (Ac (f2 An w! (f2 By T_ nl!)) Ag))) Ag))),t6!,x.above y c (LL h),t7!,Option Value,t8!,gK (fJ (lI oA rfl T.S8 rfl T.T6 dC rR E_)),t9!,f2 An v_ (f2 Eh (fC (.int 7)) bj!)]
def z'tt:String:=z [ta_,wT (w2 (λ_=>Ko) a4_ (Hz C_ gB! (Aj 2 (Ex t) (Ab h_ (Ab gB! Af))))),tb_,Cf C_ gB! a4_,tc_,W.hasDictIn K C=true,td_,f1 (Cb t) aM_,te_,Value×List Value->Shared->Prop,tf_,some (.builtin "object.__setattr__"),tg_,Ao 2 (Bg 1 [0] (Ca gz_) E! (wT (Aj 2 (Hf t) (Ab u! aX_))) h_),th_,wT (Aj 2 (Hf t) c8_),ti_,Result->Shared->Prop,tj_,W.findIn K ay! "__init__"=some e2!,tk_,Bo (Aj 2 (Fp t) c8_),tl_,s2 os tu rh rn g++c9_++[vO tv],tm_,Ah (Av (Iu (wT (Bb t.B4 "has" 2 go_ C_ al_))) Fh Bn) dU!,tn_,fT (f1 Dw bz!),to_,Bb t.B4 "has" 2 go_ tm! al_,tp_,(show∃t,u=Value.str x t from r),tq_,Aj 2 (Ea t) c8_,tr_,aP (f:=fC ns!) rfl,ts_,Bg 1 [] (Ca sT_) E! (Dd (Ct ts!)) (wl mp!),tt_,.ins C dx (Lg f y fs),tu_,w2 Mf C_ (Ru (Ab (Aj 1 (Ji t) aX_) al_)),tv_,FH q1 q2 ρ R,tw_,.int ((1:Nat):Int),tx_,.Attribute e f pos,ty_,Bl (f2 Ak m_ (f2 By v_ dM!)),tz_,keywordEach [] X.env,tA_,s2 os tu rh rn x.nm++c9_,tB_,f2 An v_ w!,tC_,Gr .str nc! [],tD_,fT (f2 Ba gt_ (fC gw!)),tE_,dL (h pos h1 s Z H _ I hq) λus s1 ⟨xs,H1,I1,r,z,q⟩=>⟨by rw[<-r.length];exact z,?_⟩,tF_,I1.laid (t':=s1.toks) (λb u e=>HM _ e) y! ?_,tG_,Rv (Eu (f1 Bp (Ac (f2 Ak a6! al!) Ag))) Q_ (Px 1 tG!),tH_,f2 By (f2 Ck v_ (f2 An w! (f2 Eh al! m_))) (fC (.int 41)),tI_,Cp 4 (f1 Bv (Ac m_ dO_)),tJ_,aP (d:=.lst na!) rfl,tK_,Cp 6 (f1 Du (Ac (f2 An (Do I! (Ap w!) Aq) (Do I! Aq (Ap w!))) ng!)),tL_,Cp 7 (f1 Du (Ac (f2 An I! (fC (.lst i4!))) (Ac (f1 Bv (Ac m_ (Ac (f2 An v_ S_) Ag))) Ag))),tM_,Cp 8 (fC (.lst [iP!,iP!,iP!,iQ!,iQ!,gw!,gw!,dP!,iR_,bk_,cx_,iQ_])),tN_,dL mH_ λus s1 ⟨vs,H1,I1,r,q⟩=>⟨I1.kIn,?_⟩,tO_,bN rfl (bN rfl tN!),tP_,Cp 9 (f2 Ak bj_ (f2 By T_ i4_)),tQ_,rO (11+m'%2) 2 x.nm,tR_,backTo pos tP!,tS_,starEach [] X.env,tT_,Gi (fT (f2 Ba a7! (fC iQ!))) (Bl (Aw (Ac a7! (Ac bj! (Ac (f1 Du (Ac I! (Ac (f1 Bv (Ac m_ (Ac (f2 An v_ al!) Ag))) Ag))) ni_))))) Cs,tU_,I.hok.fresh (PZ _),tV_,(Value.ref ag!::e5_),tW_,Cp 10 (f1 Du (Ac (f1 Mc bz!) (Ac (f1 Bv (Ac m_ (Ac (f2 An v_ c5!) Ag))) Ag))),tX_,.Call (.Name x p) [] [] pos,tY_,Gi (fT (f2 Ba a7! (fC gw!))) (Bl (Aw (Ac a7! (Ac bj! (Ac gH! (Ac (f1 Ol (Ac (f1 Bv (Ac m_ (Ac (f2 An v_ nl!) Ag))) eZ!)) Ag)))))) Cs,tZ_,f2 Ck T_ i4_,t0_,(by simpa using L),t1_,cellsFrom ag! scope.names [],t2_,([]:List Addr),t3_,[aa!,some (.lst gI!),some (.int i8!),none,none,none,none,none,none,none,none],t4_,λb z=>absurd z (sn b),t5_,Bl (Aw (Ac a7! (Ac (f1 Du (Ac (Aa 11) ng!)) Ag))),t6_,aT (mK T) a_ rfl bN! az!,t7_,W.fnOf name qual params body scope dV kV br pm an ag ct,t8_,∀vs H Q E,sp vs H Q E->bA_=V_,t9_,Cp 7 (f1 Bv (Ac m_ (Ac t9! Ag)))]
def z'u:String:=z [ua!,Cp 8 (f2 By bL! al!),ub!,Uz 5 bj_ (f2 An (f2 An (Me 5 bj_) w!) (f2 By (f2 Ck bL! al!) al!)),uc!,Cp 9 (Oq (f1 Mr (Ac m_ (Ac (f2 An t9! w!) (Ac M! (Ac nl! Ag)))))),ud!,kS I hg hm hv ?_ hn bg,ue!,Px 3 (Aw (Ac (f2 Ak (fC (.lst [L_,(.int 5),(.int 15)])) bj_) (Ac (Me 4 bj_) (Ac (Me 5 bj_) (Ac a7! Ag))))),uf!,fX az_ cB E_ aS p_,ug!,fT (f2 Mm M! C!),uh!,fT (f2 BE (Aw (Ac (f2 Ak (Me 1 ja_) S_) (Ac (f2 Ak (Me 1 ja_) C!) Ag))) (Aw (Ac dT! (Ac bA! Ag)))),ui!,if v<0 then(nr!).toNat else min v.toNat n,uj!,wT (w2 by! (wl gt_) ns_),uk!,((sIx n n hi:Nat):Int),ul!,f2 Eg aW_ v_,um!,f2 Ak (f2 Ak T_ I!) w!,un!,Ao 5 (wl (f2 An I! w!)),uo!,f2 Ak T_ bj!,up!,qQ x_ d4_ u_ nu! dd!,uq!,Dd (Cz un_ uo_),ur!,f2 An (Do T_ Aq e8!) (Di uq_),us!,aG (gH T.V3 T.X0 l! cz!),ut!,Str.ofString "__getitem__",uu!,((sIx items.size 0 lo:Nat):Int),uv!,cO (aE a8! nn!),uw!,qP x_ (iJ cz! cz! xL),ux!,wl (fC (.tup [gi_,ix!])),uy!,Iu (wT (Aj 3 Mp ux_)),uz!,Bo (Aj 4 Gq uy_),uA!,fX az_ cB jh_ aS p_,uB!,Ao 4 (Wg gM_ (wl (f2 Ba e0! eS!))),uC!,Ab h_ (Ab aO! (Ab (wl (Kz (fT T_) e0! ix_)) (Ab gv! Af))),uD!,(r.drop nz_).take nA_,uE!,Cf uD_ gv! (wl a6!),uF!,f2 Ak (f2 Ak I! bL!) C!,uG!,Av (Dd (fT uF_)) (Ao 6 (wl (f2 An bL! w!))) Bn,uH!,e1.trans e2.symm,uI!,Ao 8 (Bg 1 [2,3] (Il (Eu uG_)) E! bk! (wl (Aw uH_))),uJ!,aB (fX nT nX Y_ dI p_),uK!,Cf bl_ b5! (wl (f2 An uI_ uJ_)),uL!,Do gN_ Aq bx_,uM!,Ao 9 (Bg 1 [2] (Il (Eu a6!)) E! bk! (wl (f2 An uL! (Aw nG!)))),uN!,f2 Ak gN_ S_,uO!,λr s'=>r=w/\EP X h1 Z Q r s',uP!,Cf bl_ b5! (Bg 1 [9] (Il (Ep I!)) E! bk! (Ru (Ab (wl aW_) (Ab (wl dM_) (Ab (Jt (wl dN!) (w2 eW_ (wl aW_) u!)) Af))))),uQ!,(·.setIfInBounds j u),uR!,bF T.V4 T.W4 l!,uS!,Ao 1 (Pk uQ_),uT!,Ac s9! (Ac (f2 Ak M! w!) Ag),uU!,Iu (wT (Hz C_ (wl (Aw uT!)) je_)),uV!,upd H p (.lst (xs.set j v)),uW!,f2 Ba dM_ v_,uX!,Aw (Ac M! bz!),uZ!,wl (fC (.lst [gi_,ix!])),u0!,if a then 1 else 0,u1!,Ux (wT (w2 (λ_=>Xz true) (Aj 2 fa_ dY_) eW!)) (wT (w2 Pt (Aj 2 gP! dY_) (Aj 2 Jk nw_))),u2!,λw hw=>xO rx fx r fs w nq!,u3!,Bg 1 [3] (Ca (w2 Bt C_ gL_)) E! (Dd (fT jd_)) h_,u4!,λh' c' kp e=>fin its r' hz h' c' kp e,u5!,(by simp only[HS]<;>omega),u6!,(λ_ e=>nomatch e),u7!,Ca (w2 Mf uZ! (w1 Nr (Ab nK_ Af))),u8!,wT (w2 Pt (Aj 2 gP! nL_) (Aj 2 gP! nM!)),u9!,bX M_ bH je! u_ r!]
def z'uu:String:=z [ua_,Uz 4 bj_ (f2 An (Me 4 bj_) w!),ub_,aT (iV T) a_ rfl nn! az!,uc_,aT (iU T) a_ rfl (aE i9_ aJ) az!,ud_,dL mH_ λus s1 ⟨vs,H1,I1,r1,q1⟩=>hc h1 s1 Z H1 vs us Q I1 r1 q1,ue_,aT (iU T) a_ rfl bN! az!,uf_,Ao 3 (wl (Oq iB!)),ug_,fX b1a b1i E_ dI p_,uh_,Ws (Xa 1 M! x!),ui_,if v<0 then max nr! 0 else min v (n:Int),uj_,Cf u! sD_ (wl (f2 Ba gt_ eX!)),uk_,s.heap.IsSliceOf sl vl vu .none,ul_,fT (f2 Ka I! gM!),um_,fT (f2 Eg um! x!),un_,fT (f2 Ar M! cg_),uo_,fT (f2 Ba uo! uX!),up_,Ao 5 (wl (f2 An bj! w!)),uq_,Ac (Aw (Ac v_ bz!)) Ag,ur_,sIx items.size items.size hi - sIx items.size 0 lo,us_,Do T_ e8! Aq,ut_,Ao 3 (Bg 1 [1] nt! E! (Dd (fT jd_)) (wl dM_)),uu_,uu!==0&&(1:Int)==1&&ur_==dd_,uv_,Av (Dd (Ct (λρ=>((M!) ρ).bind Uy))) bB_ Bn,uw_,Option Int->Hp->Prop,ux_,Ab h_ (Ab C_ al_),uy_,Ab h_ (Ab u! nw_),uz_,Ac m0_ (Ac m0! Ag),uA_,s3.heap.objs.size,uB_,mR (fR (aT (mM T) a_ rfl bN! az!)),uC_,JB (uZ xs lo hi) hz,uD_,w2 Bt nB! b5!,uE_,f1 Bp (Ac I! Ag),uF_,f2 Ba uF! dT!,uG_,f1 Bp (Ac a6! Ag),uH_,Ac (f2 An x! (Aw aM_)) (Ac (f2 Ak nx! m_) (Ac (fC z_) Ag)),uI_,f2 An (Do I! Aq e9!) bj_,uJ_,Do I! e9! Aq,uK_,call e7_ (v::us),uL_,(by rw[hj];simpa using ew),uM_,⟨z,H,I,ak,q⟩,uN_,slot_list_getitem.lookup,uO_,(by rw[HS]<;>omega),uP_,bU (gF T) a_ l! e9_,uQ_,Ek gL_ mY! (Ek jg! Gx (Ek ji! Gx Ny)),uR_,Ao 2 (Aj 1 Mn aX_),uS_,wT (w2 eW_ (wl (f2 Ak mV! C!)) ns_),uT_,JI _ _ (HR hb),uU_,Bo (Aj 2 Wb mC!),uV_,bM aY! sZ Y_ aq! p_,uW_,(by rw[hk];exact⟨_,I',q⟩),uX_,Ca (w2 Bt bl_ u!),uY_,Ao 2 (Aj 1 Mo al_),uZ_,Ca (w2 Mf uZ! (w1 Nr (Ab nJ! Af))),u0_,if b then 1 else 0,u1_,Av (wT (w2 Pt (Aj 2 gP_ dY_) (Aj 2 Hk nw_))) bB_ Bn,u2_,(show its.toArray.any gQ!=its.any gQ! by simp),u3_,Av (wT (w2 Pt (Ye (Ab (Ru (Ab aO! (Ab (Aj 2 gQ_ dY_) Af))) Af)) u3!)) bB_ Bn,u4_,Av (wT (w2 Pt (Bg 1 [0,3] jp! E! bk! jq!) (w2 Bt (w2 Bt C_ ji!) aO!))) bB_ Bn,u5_,Az (w2 nJ_ (Aj 2 fa_ (Ab h_ (Ab (wl (fC nd!)) Af))) je_),u6_,Ao 3 (Aj 1 Mo dQ_),u7_,⟨⟨o,e,ex.1⟩,λa e2=>?_⟩,u8_,⟨o,e,ex.2.1⟩,u9_,Av (Ux (wT (w2 Pt (Aj 2 gP_ nL_) (Aj 2 gP_ nM!))) (wT (w2 Pt (Aj 2 gQ_ nL_) (Aj 2 gQ_ nM!)))) bB_ Bn]
def z'v:String:=z [va!,bX M_ bH uR! u_ r!,vb!,Av (wT (w2 Pt (Bg 1 [0,4] jp! E! bk! jq!) (Bg 1 [1,4] jp! E! bk! jq!))) bB_ Bn,vc!,List.replicate k its,vd!,Do m_ Aq (Ap al!),ve!,fC (.tup [(.tup [iQ_,nd!])]),vf!,λ_ _ q=>HM _ q,vg!,(by rw[HS];omega),vh!,Ao 3 (wl (Do vg_ Aq bx_)),vi!,f2 Eg mp! v_,vj!,gr.toArray.size,vk!,Ao 6 (Gf t.B3 2 (Gb t) (Ab (wl c5!) Af)),vl!,Bo (Aj 2 fd! vk_),vm!,Ao 7 (wl (Aw (Ac vl_ (Ac w! (Ac (f2 An (fC (.int 50)) (f2 By (f1 Bv (Ac m_ (Ac (fC (.int 59)) Ag))) (fC gF_))) (Ac (Aw (Ac eX! eZ!)) Ag)))))),vn!,Ac mk_ (Ac (Aw (Ac (fC cx_) eZ!)) Ag),vo!,Ao 8 (wl (Aw (Ac (f2 An vl_ (f2 By (f1 Bv (Ac m_ (Ac (fC (.int 58)) Ag))) S_)) (Ac S_ vn!)))),vp!,Av (Dd (fT vo_)) (Ao 8 (wl (Aw (Ac i4_ (Ac w! vn!))))) Bn,vq!,Heap.SameBut a s.heap h',vr!,Ao 10 (Aj 3 (Wa t) (Ab cw_ (Ab (wl eS!) (Ab b4! Af)))),vs!,aO (lN T) a_ rfl d8!,vt!,starEach [e] X.env,vu!,starEach [e,f] X.env,vv!,pre_splitW wg,vw!,aN aH aM (uA (i:=1) b_ vv_ r!) aD r!,vx!,HZ (f:=c_) z,vy!,⟨h.no,h.nd⟩,vz!,cH cR eJ rfl T.S9 eG (aE bC! aJ),vA!,(by rw[P];simp[hm]),vB!,λz=>f9.2.2 _ z _ d! rfl,vC!,Params->W.Frag,vD!,(∀(s:Shared) (u:Value),BindsTo s fd jw_ [(x,u)]),vE!,Xv K x qual st f fd,vF!,gh.2.2 _ this _ d!,vG!,K.lookup f=some ⟨oc,od,.func n0_,eh⟩,vH!,.inl (.inr ⟨o,e _ _ h⟩),vI!,backTo pos mc_,vJ!,ForInStep.yield ((name,a)::r),vK!,(∀b,b≠f->b≠p->M' b=M b),vL!,aX (i:=5) iQ.nd rfl b! vK_,vM!,(by simpa using hk),vN!,λp hp=>hn p jE!,vO!,pT cells r _ x h,vP!,V->V->Hp->Prop,vQ!,Cm.cons (j:=2) Cm.nil,vR!,∀b∈fp,b<N!,vS!,[.int a,.int b],vT!,u'++[dk_]++v,vU!,(by rw[<-z];exact hq),vV!,ForInStep.yield ok,vW!,⟨_,h.mem.mpr G!,rfl⟩,vX!,Cm.cons (j:=4) Cm.nil,vY!,[bJ!,aE_,c1!],vZ!,bE (bW (aN aH aM E_ (aY eP eQ Y_ gK!) r!)),v0!,([]:List (Str×Value)),v1!,aY aQ bO Y_ aD,v2!,if x=n then[.int 0,.int 0,.int 0,.int 0]else W.num x,v3!,[c1!,iu!,md!],v4!,I8.pin (b,o) sC!,v5!,eval ct_ X.env,v6!,X.env.kindOf y.1=some .cell\/X.env.kindOf y.1=some .free,v7!,∀cl C ao a9 fp,PE cb_ ez te,v8!,dL (be h1 s Z H _ I h) λv s1 Y=>dL Y λv0 s2 L=>?_,v9!,.obj t.B4 Z!]
def z'vv:String:=z [va_,backTo ah mc_,vb_,List.replicate k xs,vc_,Ao 1 (wl (f1 Mb (Ac m_ (Ac C! (Ac (f2 An w! (f2 By (f1 Bv (Ac m_ (Ac mk_ Ag))) (fC (.int 8)))) Ag))))),vd_,Obj.mapSeq f,ve_,f2 An vd! ve!,vf_,Ao 2 (wl (f2 By (f1 Bv (Ac m_ (Ac (fC (.int 61)) Ag))) iB!)),vg_,f2 Ak v_ x!,vh_,.cons ru .nil,vi_,.lst (xs++zs),vj_,Bo (Aj 2 fd! (Ab cw_ al_)),vk_,Ab (wl bj!) nL!,vl_,fC (.int 11),vm_,bF T.V3 T.X0 l!,vn_,aC (aO (qJ T) a_ rfl bO!) aI,vo_,f2 Ba (f2 Ak bj_ C!) i4_,vp_,Bo (Aj 2 fd! nS!),vq_,Av (Ux (wT (w2 Pt (Aj 2 fd! (Ab cw_ (Ab (wl (Di (Ac bj_ Ag))) Af))) dY!)) (Iu (wT (Aj 3 (Jc t) (Ab cw_ nS!))))) bB_ Bn,vr_,Bo (Aj 1 (Tf t) mH!),vs_,Az (Jt (w2 nJ_ (Aj 2 fa_ (Ab cw_ (Ab (wl gH!) Af))) je_) (Aj 2 (Om t) nS!)),vt_,λ_ _ _ _ _=>aZ (i:=0) (show([S!,aj_]:List Str).Nodup by decide+kernel) rfl b!,vu_,ns.map WData.int,vv_,aY sN sY ba! aD,vw_,HZ (f:=c_) w,vx_,eB (aO (uJ T) a_ rfl bO!),vy_,⟨h.nd,H!,λa ha b hb=>by simp at hb;subst hb;exact λz=>h.no jy_⟩,vz_,λa ha b hb=>?_,vA_,bf.2.2 a ha b hb,vB_,(by rw[IK];exact hl),vC_,∀(w:World) (h:Heap),YP w h->(bP_).In h,vD_,As jC_ b0 a0,vE_,∀(kV br pm:Value) (an:a7_) (ag ct:Value) (us:i_),av_=V_->bindArgs n0_ db_=pure da_,vF_,bf.2.2 _ this _ d!,vG_,.inl (.inl (e _ _ h)),vH_,⟨o.slots,e⟩,vI_,Str×NameKind,vJ_,ForInStep (List fh_),vK_,bX M_ bH bm_ bm! r!,vL_,(if(k==gZ!)=true then _ else _)=_,vM_,(by rw[kz];simp),vN_,α->Shared->Prop,vO_,⟨?_,⟨_,_,_,_,(mup_ne h.ne).trans mup_same,mup_same,K'⟩,h.ne⟩,vP_,(u++n::v++bP!),vQ_,X.N[j]?=some x,vR_,eval b X.env,vS_,[.int a,.int b,.int c],vT_,HZ (f:=c_) this,vU_,bX M_ bH aP! a9! r!,vV_,aZ (i:=4) nQ.nd rfl aG_,vW_,bL (sc:=Ad Mj) rfl k!,vX_,λ_ _ _ _ _=>aZ (i:=0) (show([aE_,c3!,ax_]:List Str).Nodup by decide+kernel) rfl b!,vY_,[⟨tg,iter,de,0⟩],vZ_,([]:List Value),v0_,(λv z=>by cases z),v1_,[bh_,rJ!,cr!,aE_],v2_,λ_ _=>False,v3_,λ_ _ _ _ _=>uv!,v4_,fE (n:=10) rfl,v5_,Str.ofString "hidden",v6_,∀cl C ao a9 fp,Qd cb_ de tt,v7_,Zm NL.length ix wi g tt te,v8_,⟨JG (IT hb hC),JG (IT hb hD)⟩,v9_,λb o hb e=>(b6.2 b hb).trans e]
def z'w:String:=z [wa!,aT (fG T) a_ rfl (aE E_ (aE v1! aJ)) aF_,wb!,fw c (qc x c h),wc!,λx c h=>(wb!).2,wd!,∀a kvs,Rd H a dX_->Rd H' a dX_,we!,Am.map ht hl hd xs vs r,wf!,λ_ _ q=>cD e q,wg!,λ_ _ q=>b3e e q,wh!,aY nU nV bC! aD,wi!,aY eP eQ wh! aD,wj!,"_law_sibling",wk!,mup_ne (HR p2),wl!,⟨v,Y,L.mono x.g⟩,wm!,aZ (i:=3) nO.nd rfl aG_,wn!,Z[i]?=some ce_,wo!,(by rw[z];exact j0),wp!,⟨ax b eh!,hr⟩,wq!,aY aQ bO Y_ (aY sO sQ aD bD!),wr!,uA (i:=4) b_ bD_ r!,ws!,cutT [s] bp_,wt!,((jT_).map c_)=_,wu!,cH cR eJ rfl T.S9 eG de!,wv!,c0b hr ha.ok hb.ok hs,ww!,λx H'=>∃k,x=.bl k/\Q k H',wx!,["check","part"],wy!,⟨_,_,_,_,_,_,_,_,_,_,_,_,q1⟩,wz!,⟨b3n h.ok⟩,wA!,T.X1 _ rfl rfl rfl rfl,wB!,⟨G1,ρ,d,dn_,e,λG2 H2 s2=>k G2 H2 dp!⟩,wC!,c7g ha.ok hb.ok,wD!,⟨b9x h.ok⟩,wE!,(U++(s,c,true)::v),wF!,λv G1 H1 s1 r1=>?_,wG!,c7k ha.ok hb.ok,wH!,Be M1 a5 ow_,wI!,(by rw[z];exact hA.r5),wJ!,(by rw[<-aL r1];exact gJ hl),wK!,s1.sub.free hp,wL!,⟨r,f,p,g1,?_,g3,g4,g5⟩,wM!,Yj X.K ps.length g,wN!,∀ρ ds,fs ρ=some ds->h!=V_,wO!,(by rw[IG];omega),wP!,[aS!,aQ_,.int (k':Nat)],wQ!,setT W i (U++(oz_).map el!++v),wR!,⟨_,_,_,rfl⟩,wS!,(D.tup j3_,D.str aq_,true),wT!,setT W i (U++oC!::v),wU!,(by rw[hl,IU];exact IS _ z),wV!,λ_ j=>decide (0<j)&&decide (j<1073741824),wW!,if i∈W.its then setT W i (wrT b em_ bp_)else W,wX!,Ae->Option oE!,wY!,Be eo! a4 eo_,wZ!,K5 c (oJ!).1 (oJ!).2.1 (oJ!).2.2,w0!,K5 c (oK_).1 (oK_).2.1 (oK_).2.2,w1!,aT (fG T) a_ rfl (aE E_ oo_) aF_,w2!,bL (sc:=Ad Qn) rfl k!,w3!,aC (aB bD!) n9_,w4!,λa z=>(by subst z;cases e2),w5!,(λxs H Q=>∃x n,xs=[x]/\AX K x H n/\Q gA_ H),w6!,c≠r1/\c≠f1/\c≠p1,w7!,(∀d,ds[i]?=some d->af.go i H'/\∀x ic,af.yld i H' x ic->∃tf,Co G' H' tf ic/\Ax K tf d x),w8!,⟨ep_,λhi=>by rw[IK,MD]at hi;exact PB hi.symm⟩,w9!,hg.chl_same w.rnd]
def z'ww:String:=z [wa_,.inr (JB I2.sz hC),wb_,λx c h=>(wb!).1,wc_,∀a vs,Fx K H a vs->Fx K H' a vs,wd_,aE (aT g4! a_ rfl (aE aP_ g5!) aF_) (aE dg! aJ),we_,w.sg x J q hq,wf_,λ_ _ q=>e.seq q,wg_,⟨a,vs,rfl,h,r⟩,wh_,.inr (.inr ⟨f6!,rfl⟩),wi_,"_law_parent_here",wj_,r.mono (iR h),wk_,∀a p,(a,p)∈W.rows->rk p<rk a,wl_,(∀p,bb_∉W.rows),wm_,λz=>r1 (q.mpr z),wn_,bL (sc:=Ad Mi) rfl k!,wo_,aE aD (aE aD oo_),wp_,⟨λh1 s Z H Q I ⟨G,ρ,d,er,e,k⟩=>h h1 s Z H Q I op!⟩,wq_,∀Z G H Q ρ d,OR X.K own G H Z ρ->ft ρ=some d->(∀G' H',Co G H G' H'->Q d H')->t Z H Q,wr_,uA (i:=5) b_ bD_ r!,ws_,bU (iH T) a_ l! (aC gY_ aI),wt_,jF (i:=2) (NL:=bh!) (NF:=af!) (ix:=[0]) dY.nd rfl b! rfl b_ k! (bL (sc:=Ad Es) rfl k!) jt! b_ rfl (eB hb!) (λ_ _ _ _ _=>aZ (i:=0) (show([cq_,J_]:List Str).Nodup by decide+kernel) rfl b!) W! (λ_ _ _ _ _=>oP (eZ (aO (pE T) a_ rfl (aC u_ bO!)))) gU_,wu_,b3x ho ha.ok hb.ok hm,wv_,b3o ho ha.ok hb.ok hm,ww_,(show(wx!:List Str).Nodup by decide+kernel),wx_,⟨d,rfl,ou!⟩,wy_,(by rw[show B+(js.length+1)=B+1+js.length by omega];simpa using h'),wz_,⟨b8y h.ok⟩,wA_,b8z ha.ok hb.ok,wB_,(ek!).map λk=>.tup hf!,wC_,(ek!).map λk=>z+bg!,wD_,c0d ha.ok hb.ok,wE_,λv G2 H2 s2 r2=>k v G2 H2 dp! r2,wF_,k _ G1 H1 s1 Ax.bl,wG_,k _ G1 H1 s1 Ax.bl,wH_,a7d hc.ok ha.ok hb.ok,wI_,dZ h.ok hs.ok b8,wJ_,s1.trans (Co.laid s1.sub hp),wK_,ax _ fr! fr! fr!,wL_,wY hc hg hm hv ha.ok hn bg he a7,wM_,(aN_).length=V_,wN_,∀ρ ds,fs ρ=some ds->h!=n,wO_,(by rw[JV];decide),wP_,eO bt! hob hF4,wQ_,k _ G H aS_ Ax.str,wR_,.int (k0:Nat),wS_,∀i j H,Ax K H bz_ (gv i j),wT_,k _ G H aS_ (hg _ _ G),wU_,λ_ j=>decide (0<j),wV_,λi j=>decide (0<=j)&&decide (j<=1000000)&&decide (gu_<2 ^ 64),wW_,.bl (Sc i j),wX_,[ch_,ch_,ch_,ch_],wY_,s4.trans j4!,wZ_,mup_ne (nq c (gb c j6!)),w0_,if c=r1 then _ else _,w1_,mup_ne (nq c hc),w2_,aY aQ bO i9_ (fE (n:=14) rfl),w3_,aE (cO (aE aS jk_)) aJ,w4_,aE aD (aE aD w3_),w5_,cL H_ aM! (wC h hk J),w6_,.builtin "all",w7_,i=h!->af.stop i H',w8_,(by rw[y];exact z),w9_,AS K 2 (Uk eT! (Uk (Oo j) AT))]
def z'x:String:=z [xT!,Addr,xa!,c1 r' ao! ao! ao! ao! ao! ao! ao!,xb!,((oT!).mono x3.g).mono x4.g,xc!,λx0 x1 x2 x3 x4=>(he x0 x1 x2 x3 x4).ok,xd!,λaf G1 H1 x1 f7=>?_,xe!,mup_ne (HR (nq a4 (gb a4 (s3 a4 A4)))),xf!,f ρ M λ_ M1=>q ρ M1 R,xg!,.Assign [cI!] e pos,xh!,.If c b1 b2 pos,xi!,⟨G',ρ,r,er.grow x',e2,k⟩,xj!,s.or.sub.trans zf,xk!,λz=>absurd z.symm cv,xl!,Be M5 a3 (.dct oF! (Gs k3 n e3)),xm!,[e].length+(d6_).length+fc!<30,xn!,.Call (.Attribute br! "append" aj) [e] [] ah,xo!,kA w.rnd ff z,xp!,DE X own ix fx,xq!,kC (rows:=W.rows) (i:=i),xr!,λiv G2 H2 x2 r2=>?_,xs!,λi hi p e=>?_,xt!,aw r' bF_ bF_ bF_ bF_ bF_,xu!,F.ok S (λvs H Q E h=>h.1) (λag A outer s H vs Q E hr h=>?_),xv!,⟨er,Co.refl sub,ar_⟩,xw!,cs.map λ_=>true,xx!,(kh!).any λd=>En d aT!,xy!,(List.range (min us.toArray.size o3!)).all (λj=>En o2! o2_)&&ki_==o3!,xz!,a6q I _ _ _ n n' r r',xA!,(n::r).map D.int,xB!,Cd g g' fa fb fc,xC!,⟨bb,rfl,?_⟩,xD!,nz.trans (s4.trans s5),xE!,L2.Key×Value,xF!,ha.ok h1 s Z H _ I h,xG!,mixKind X.prog X.w,xH!,⟨_,_,rfl,b1,b2,b3,b4⟩,xI!,List D->Option D,xJ!,.lst (.str "root"::ys),xK!,λi _=>fx!<=i,xL!,⟨(OY.mp hc).1,λv ic hy=>?_⟩,xM!,.inr ⟨9,9,rfl,R!,R!,R!,R!⟩,xN!,some (.tup [.int h',aQ_,.int tm,.tup z1!]),xO!,λi h st=>VF _ i h st,xP!,.str (Txt.join z ys),xQ!,dZ ha.ok gP hs,xR!,s.heap.IsTupleIter jt tt n,xS!,Builtin.SmallTypes.nextOf (.ref jt),xU!,[none,some gA_,some qr!],xV!,letters.cps.toList.length,xW!,Obj.cls_mapFields ..,xX!,firstArgMember _ _,xY!,wpAny_handled ?_,xZ!,HK (wpAny_throw ?_),x0!,((et_).extBut.push _).push _,x1!,xs[k1]?=some x,x2!,Builtin.«zip.__next__» ⟨[.ref z],[]⟩,x6!,Dk its fz! none++Dk its none fz!,x7!,iu.extBut hs1.extBut D.l1z,x8!,RC uc λh3 ww dh=>?_,x9!,Dk its fz! none]
def z'xx:String:=z [xa_,⟨cY (by rw[<-aL ak];omega),?_⟩,xb_,Zx X.K [] ft,xc_,b3w cm cg j7 ik cap calm be.ok hg hi xc! hs,xd_,DF X.K G0 F0 own hx f,xe_,DS X own bj st q1,xf_,swapsWith e (some dp_) pos.line X.env=pure false,xg_,b0y hN hi J h.ok hs hf,xh_,Ab kc! (Ab (wl f2) Af),xi_,(λ(r:Fl) (M':Mh)=>match r with|.rt d=>R d M'|.nx _=>R .non M'),xj_,λj d q n=>?_,xk_,(λb u e=>by rw[bD (hG e)];exact s.or.sub b u e),xl_,.nx (ρ.set i (some (.lst (ds++[d])))),xm_,[F!,eq!,some a,em!,none],xn_,dZ h.ok gP b8,xo_,ρ.set i (some (.lst (ds.set k d))),xp_,.Subscript br! ix p2,xq_,mG hN zg hd bz,xr_,(x.trans x2).h _ _ h3,xs_,Co G0 F0 G1 H1,xt_,Xv K x qual st ae fd,xu_,hb ag A outer s H E hr,xv_,cs.map λ_=>D.bl true,xw_,wW I xs ys vs n n' rr b7,xx_,(by unfold Bi at h;exact h),xy_,(by rw[HS,HS,<-h3,<-h4,<-Y,<-L];simpa using hl),xz_,A.units+Ii d<cLine,xA_,⟨dx,dy,rx.mono sub,ry.mono sub,h.1.1,h.1.2,h.2,ep!⟩,xB_,⟨G,ρ,x,er,e1,λv G1 H1 s1 r1=>⟨G1,ρ,y,dn_,e2,λw G2 H2 s2 r2=>hg s2.sub hb_ r2 e3 λt G3 H3 s3 r3=>?_⟩⟩,xC_,(r2.mono s3.g).mono s4.g,xD_,.bl (if neg then !(ds.any λd=>En d x)else ds.any λd=>En d x),xE_,λh1 s Z H Q I h=>?_,xF_,c1r (k:=o8_) r1,xG_,λy=>NameG y,xH_,Ok X.prog X.w X.K X.mg X.base k x ps g,xI_,(if kp_<=big then Option.map D.lst (Gc _ _ _ cK_ ops)else none)=_,xJ_,λi _=>i<fx!,xK_,x.cps.toList.map λc=>.str aq_,xL_,∀i h,St' i h->∃o,h.get? it=some o/\∀v,o.data≠.cell v,xM_,λi h=>i<=fx!/\St' i h,xN_,[aC!,pa!,xN!,y],xO_,ys.map V.str,xP_,⟨[],rfl,rfl⟩,xQ_,λw G2 H2 s2 r2=>?_,xR_,s.heap.IsTuple tt xs,xW_,[some gA_,br_,some qr!],xX_,(by first|rfl|(simp only[firstArgMember];rfl)),xY_,show A.in1.handled=none from hh,xZ_,sSeq Yz (sSeq dq14 dq15),x0_,sSeq CO (sSeq AU xZ_),x1_,ys[k2]?=some y,x2_,[aa!,at!,aC!,br_,none,none,none,none,none,none,none,none],x5_,NM gz d! λY lu hs1=>?_,x6_,a3l x7_ x7! gx λL VG bq=>HK ?_,x7_,cG g1 hs1.extBut D.i1z,x8_,hs1.extBut _ _ D.TOz gO,x9_,Dk its none fz!]
def z'y:String:=z [yn!,Around,yB!,Value,yC!,World,yO!,Program,yP!,Shared,yQ!,W.Frag,ya!,LV uc rfl ?_,yb!,((iz.extBut hs1.extBut D.l2z).extBut bq.extBut D.l2i1).extBut dh.extBut D.l2TO,yc!,xs[k1]?=none\/ys[k2]?=none,yd!,Nat.ble ds.length 1000=true,ye!,IB (Nat.le_of_ble_eq_true hl),yf!,F.entry_zip_next,yg!,"StopIteration",yh!,("cut"==k||"set"==k),yi!,dW (g:=Vf false) (x:=.str k) rfl rfl (in2 k "cut" "set"),yj!,DB s.heap l1 l2,yk!,a7p rfl rfl e1,yl!,⟨fO.2.2.2.1,fO.2.1,fO.2.2.2.2.1,fO.2.2.2.2.2⟩,ym!,⟨f2.2.2.2.1,f2.2.1,f2.2.2.2.2.1,f2.2.2.2.2.2⟩,yo!,λc o _ _ _ e _=>vH_,yp!,λc o _ e=>⟨o,e⟩,yq!,(λc o u e=>by rw[pm!];exact e),yr!,I1.hok c o e,ys!,(by unfold Cz;rw[rH rfl (LF _)];rfl),yt!,bootBuiltins "zip"=some pg_,yu!,(backTo pos (starEach [b] X.env)).any c_=false,yv!,⟨G,ρ,_,er,e1,λv G1 H1 s1 r1=>⟨G1,ρ,_,dn_,e2,xQ_⟩⟩,yw!,a∈W.its/\Ew W b/\¬Wn W.rows a b,yx!,wrT b hB! au!,yy!,(oz_).map el!,yz!,D.tup bW_∉pre,yA!,pre++[.tup bW_],yD!,setT W a yx!,yE!,W.fnOf x x jC! bQ! bE! .none kV br pm an ag ct,yF!,W.codeIn K ag x=true,yG!,(List.range m'.toNat).map λk=>.tup hf!,yH!,rows.map (AC w),yI!,ft ρ=some false,yJ!,(λz=>by simp at z),yK!,⟨rfl,rfl,rfl⟩,yL!,fs.map V.ref,yM!,Ab kc! (Ab (wl f2) (Ab (wl f3) (Ab (wl f4) Af))),yN!,Cf eU_ u! iG_,yR!,Mx ks k=some j,yS!,Option Nat->Shared->Prop,yT!,s.heap.get? d=some o,yU!,dictWalkPlain d u du_ es kH!,yV!,λx J=>h x aU!,yW!,λ_ K hK=>hK,yX!,ks[i]?=some k',yY!,(by rw[<-e];exact q1),yZ!,.tup [hE_,fF_],y0!,(a.map Op.key).Nodup,y1!,λx=>Ba x aT!,y2!,(show pC_=true by decide+kernel),y3!,Gr .str os acc,y4!,.nx [R_,ao_,y'],y5!,⟨trivial,hR M ep y hp λb _=>rfl⟩,y6!,Be M p (.dct (As acc a U!) (Gs acc a ep)),y7!,λM' bd y' Y L=>hR M' bd y' y6_ L,y8!,λo ho=>hd o (bx.mem_iff.mp ho),y9!,λM' ep y Y L=>hR p M' ep hp Y λb hb=>(L b hb).trans pH!]
def z'yy:String:=z [ya_,cG (cG (cG g2 hs1.extBut D.i2z) bq.extBut D.i12.symm) dh.extBut D.TOi2.symm,yb_,dh.extBut _ _ D.TOz.symm (bq.extBut _ _ D.i1z.symm lu),yc_,hs1.extBut _ _ c1 x,yd_,if h!<=1000 then _ else _,ye_,⟨_,gz,rfl⟩,yf_,F.args_zip_next_1 _,yg_,[ds!,.int base,.lst ops,.int most],yh_,.tup [kn_,item,.int (m0 / 12%4),.int (m0 / 48%2000 - 1000)],yi_,DC s.heap l1,yj_,CZ s.heap l1 l2,yk_,⟨fz.2.2.2.1,fz.2.1,fz.2.2.2.2.1,fz.2.2.2.2.2⟩,yl_,⟨f1.2.2.2.1,f1.2.1,f1.2.2.2.2.1,f1.2.2.2.2.2⟩,yn_,λc o _ _ _ e _=>e,yo_,λc o hc e n=>?_,yp_,(λc xs e=>by rw[pm!];exact e),yq_,λc ps e=>⟨#[],by rw[pm!,e];simp⟩,yr_,(λd q=>by rw[pn!];exact q),ys_,X.mg "zip"=none,yt_,starEach ap_ X.env=dS_::starEach [b] X.env,yu_,.Call (.Name "zip" p) ap_ [] pos,yv_,(λx y H Q=>Sw (λi j=>.bl mU_) x y H Q\/∃i j,x=.str i/\y=.str j/\Q wW_ H),yw_,a∈W.its/\Ew W binn/\¬Wn W.rows a binn,yx_,[aS!,aQ_,hs!],yy_,Ff K mg x st ps,yz_,Stp W (.tup bW_) d W',yA_,Fn W (.tup bW_) rows',yB_,(od_).resolve_right e,yC_,hg.winv w.inv hc.1 hc.2.1 hc.2.2,yD_,W.nsIn K mainGlobals x=some e2!,yE_,K.lookup f=some ⟨oc,od,.func yE!,eh⟩,yF_,∀(kV br pm:Value) (an:a7_) (ag ct:Value) (us:i_),av_=V_->bindArgs yE! db_=pure da_,yG_,λv hv q hq=>?_,yH_,ft ρ=some true,yI_,(Sum.inr r.1:L2.Key)=Sum.inr y,yJ_,Sum.inr.inj z,yK_,[F!,eq!,some d],yL_,fs.map Value.ref,yM_,Cf cw! u! iG_,yO_,(show v=.none from J),yQ_,PN hT NN.lookup ?_,yR_,k="undo"\/k="redo",yS_,Oy P w s.heap es ks,yT_,o.data=.dict es ep,yU_,(by simpa using ce),yV_,λe=>hh (by rw[q3,e];simp),yW_,.lst ((dv!).map kI_),yX_,be=none/\rest.find? du!=Mx ks k,yY_,k="undo"\/k="redo",yZ_,∀a,k' (f a)=k a,y0_,rG (s:=ex_) hu x hk ho hd ?_,y1_,(show pC!=true by decide+kernel),y2_,Gr .str os A,y3_,dictSet a u v,y4_,vZ ho hc hd (by simp[Yt]),y5_,((Ak o.v bi!).bind λx=>Ak x aN!)=_,y6_,(by unfold Gr;rw[hu];exact Y),y7_,LX (s:=ex_) ho hd ?_,y8_,(by rw[bx.length_eq];simp;omega),y9_,Builtin.Dict.takeOut a u]
def z'z:String:=z [za!,es.eraseIdx j,zb!,(∀b,b≠q->M' b=M b),zc!,[R_,ao_,aV!,U_,z],zd!,[cO!,none,none,none,none],ze!,λi p h=>zd_,zf!,.obj t.B4 [],zg!,.ins C dx vs,zh!,Be zf_ a1 B!,zi!,Hi P w K G H a c,zj!,MR P w K M1 G1 H1,zk!,(by rw[SG,q9];simp),zl!,.dct kR_ (pN!).length,zm!,.obj t.B4 hL!,zn!,D->Mh->Prop,zo!,⟨λh1 s Z H Q I ⟨G,ρ,M,R,st,e,k⟩=>h h1 s Z H Q I pN_⟩,zp!,Bq fk! (.fn a4) pO_,zq!,Tl X.prog X.w X.K own G H Z ρ M,zr!,⟨G1,ρ,M1,R,kT_,r1,λd M2 G2 H2 r2 x2 m2=>k d M2 G2 H2 r2 cO_ m2⟩,zs!,λd M2 v G2 H2 r2 x2 m2 q2=>k d M2 v G2 H2 r2 cO_ m2 q2,zt!,x1.trans (.ext pQ_) m1,zu!,x1.sub.free hp,zv!,λY L z q=>?_,zw!,∀ay s',Inv X h1 Z kV! s'->Hi X.prog X.w X.K G kV! a zv_->Q () s',zx!,if root=root then _ else _,zy!,⟨_,rfl,JM h⟩,zz!,⟨o,rfl,h ho⟩,zA!,a5i I Y D' b6 h4 ?_,zB!,(∃TJ,Rs W' TJ),zC!,KJ fin (λar s' ⟨e1,o,q1,q2,q3⟩=>?_) λ_ _ z=>z,zD!,h5 q (by rw[pf];simp) j0,zE!,λy hy z=>?_,zF!,⟨r',f',p',v1,v2.keep (k _ bF_) (k _ cJ!) (k _ cK!),v3,v4,v5⟩,zG!,(ops.map Op.nm).Nodup,zH!,[cO!,F!,aV!,none,none],zI!,(λx _=>by simp),zJ!,(by rw[e3,e1];exact hb),zK!,((j+1:Nat):Int),zL!,x1.trans k2! m1,zM!,Co.laid sub hl,zN!,Addr×List aD!×Nat,zO!,Be M2 q.1 (.lst (q.2++[v])),zP!,[cO!,hS_,none,none],zQ!,NW (MH (ha.run I1 fN! r1 λy M2 yv G2 H2 iv s2 r2 x2 m2 q2 I2 ry=>ON ?_)),zR!,RO (a:=Str.ofString "undo"),zS!,hb.run I2 zR_ r2 λz M3 zv G3 H3 jv s3 r3 x3 m3 q3 I3 rz=>ON ?_,zT!,⟨yv,q2.mono x3.g,ry⟩,zU!,As acc u.2 fG!,zV!,if _ then _ else k5!,zW!,⟨_,dR_,yK!,rfl⟩,zX!,I.laid (t':=s.toks) vf! y! ⟨⟨D0,KH.mpr (HR (JG I.big)),JS _⟩,let⟨o,h,_⟩:=D0;pR_,zv!⟩,zY!,List aD!->Mh->Prop,zZ!,PUnit->Shared->Prop,z0!,Be M c (.dct (acc++kvs) (n+aE!)),z1!,[kn!,a,b,en!],z2!,∀q∈rs,Sd q.1/\Sd q.2,z3!,(match rs[k]? with|some q=>!decide (q.2=p)|none=>false),z4!,.bl (!decide ((fP!).2=p)),z5!,Be M s.heap.objs.size B!,z6!,DJ X.prog X.w X.K M0 G0 F0 own hx f,z7!,λj hj p e=>?_,z8!,(by rw[cond,IF z]),z9!,λb o e hb=>?_]
def z'zz:String:=z [za_,(by simpa using am),zb_,(λx=>by simp),zc_,(pI_).getD .non,zd_,(by simp[W0]at h),ze_,(by rw[cx,i1];rfl),zf_,Be M o zf!,zg_,⟨by rw[HX];exact b3m,H!⟩,zh_,.dct kQ_ (pK_).length,zi_,mup_ne (HR j1),zj_,(by rw[hM];simp),zk_,⟨?_,L.mono x.g ?_⟩,zl_,MR P w K M' G' H',zm_,List D->Mh->Prop,zn_,Zh X.prog X.w X.K own f,zo_,∀Z G H Q ρ M R,Tl X.prog X.w X.K own G H Z ρ M->ft ρ M R->(∀d M' G' H',R d M'->XM M G H M' G' H'->MR X.prog X.w X.K M' G' H'->Q d H')->t Z H Q,zp_,⟨_,by assumption,h⟩,zq_,⟨_,rfl,k _ M' G' H' r' x' m'⟩,zr_,k _ M1 G1 H1 r1 x1 m1,zs_,k _ M1 _ G1 H1 r1 x1 m1 Ax.bl,zt_,As jB_ a0 b0,zu_,⟨Y,L.mono (Bk.refl G) (bD hb)⟩,zv_,.dct pJ_ (Gs kvs d ep),zw_,kget kvs d=some x,zx_,(if root=binn then _ else(if binn=binn then _ else _))=_,zy_,.builtin "dict.get",zz_,Builtin.Dict.keyAndDefault,zA_,(∀x∈os,x.nm∉pre),zB_,[R_,F!,aV!,some x.v,z],zC_,NR (HK ⟨_,rfl,q3⟩),zD_,(show B+20*(os.length+1)=B+20+20*os.length by omega),zE_,(by rw[show Op.nm x=Op.nm y from z.symm];exact HZ hy),zF_,uY (A:=X.A) a! I m sub e ⟨_,r,rx⟩ hk λs' I'=>HK ⟨.bl _,H,I',rfl,q⟩,zG_,(∃pre,Rs W' pre),zH_,hp.mem_iff.mp J,zI_,(k0!).nodup_iff.mpr nn,zJ_,some (.lst pW_),zK_,So X.prog X.w X.K r g,zL_,⟨ys,z,rfl⟩,zM_,acc.map Op.v,zN_,.int (cR!:Nat),zO_,[cO!,none,none,none],zP_,.Attribute o "get" aj,zQ_,⟨yv,q2,ry⟩,zR_,(fN!).grow x2 m2,zS_,(cm_).mono x3.g,zT_,⟨zv,q3,rz⟩,zU_,Gs acc u.2 ep,zV_,s.heap.push {cls:=.type "dict",data:=.dict #[]},zW_,dE s.heap.objs.size [] 0,zX_,⟨[],cC,.nil,NS⟩,zY_,MP X own pos keys jq fp,zZ_,decide (q.2=x),z0_,λz=>Ba z x,z1_,ForInStep PUnit,z2_,(by rw[IG,KZ];omega),z3_,Bp [.lst eB_]=_,z4_,(f1 Bp gr_ bZ_).bind (λz=>Ka hQ! z)=_,z5_,[O_,K!,cG!,ci!,hV!,hV_,y],z6_,((List.range' k m)).map λj=>D.int pX!,z7_,ifT (by rw[cond,IV z]) ?_,z8_,Co G k9_ G' H',z9_,.inr ⟨j,v!,L,h3⟩]
end
open Lean in
local macro_rules|`($s:ident)=>match s.getId with|.str .anonymous t=>let c:=t.back;if c=='!'||c=='_' then match (let b:=c=='!';if t.length<3 then if b then z'0 else z'00 else match t.front with|'a'=>if b then z'a else z'aa|'b'=>if b then z'b else z'bb|'c'=>if b then z'c else z'cc|'d'=>if b then z'd else z'dd|'e'=>if b then z'e else z'ee|'f'=>if b then z'f else z'ff|'g'=>if b then z'g else z'gg|'h'=>if b then z'h else z'hh|'i'=>if b then z'i else z'ii|'j'=>if b then z'j else z'jj|'k'=>if b then z'k else z'kk|'l'=>if b then z'l else z'll|'m'=>if b then z'm else z'mm|'n'=>if b then z'n else z'nn|'o'=>if b then z'o else z'oo|'p'=>if b then z'p else z'pp|'q'=>if b then z'q else z'qq|'r'=>if b then z'r else z'rr|'s'=>if b then z's else z'ss|'t'=>if b then z't else z'tt|'u'=>if b then z'u else z'uu|'v'=>if b then z'v else z'vv|'w'=>if b then z'w else z'ww|'x'=>if b then z'x else z'xx|'y'=>if b then z'y else z'yy|'z'=>if b then z'z else z'zz|_=>if b then z'0 else z'00).splitOn ("\r"++t++"\r") with|[_,f]=>do return z'Z (.fromRef (<-getRef)) f|_=>Macro.throwUnsupported else Macro.throwUnsupported|_=>Macro.throwUnsupported
open Lean in
local macro_rules|`(tactic|push_cast)=>`(tactic|show"pc!")|`(tactic|push_cast[$x,*])=>match z't't.splitOn "\rpc!\r" with|[_,f]=>do let s:=(z'Z (.fromRef (<-getRef)) f)[1][1][0][0][0];return s.setArg 4 (s[4].setArg 1 (mkNullNode (s[4][1].getArgs.push (mkAtom ",")++x.elemsAndSeps)))|_=>Macro.throwUnsupported
open Lean in
local macro_rules|`(tactic|show$s:str)=>match z't't.splitOn ("\r"++s.getString++"\r") with|[_,f]=>do let q:=z'Z (.fromRef (<-getRef)) f;let q:TSyntax ``Lean.Parser.Tactic.tacticSeq:=⟨q[1][1]⟩;`(tactic|($q))|_=>Macro.throwUnsupported
set_option hygiene true
open Lean in
def z'N:Nat->Syntax->Syntax
|n+1,.node _ k a=>.node .none k (a.map (z'N n))
|_,.atom _ v=>.atom .none v
|_,.ident _ r n p=>.ident .none r n p
|_,x=>x
open Lean in
local macro_rules(kind:=Lean.Parser.Command.declaration)|x=>if x.getPos?.isNone||x[1].isOfKind ``Parser.Command.theorem then Macro.throwUnsupported else let k:=z'N 9999 x[1];let u:=match k[1][0].getId with|.str _ s=>s.front.isUpper|_=>false;match k.isOfKind ``Parser.Command.definition,(x[0].reprint.getD "").trimAscii.toString,u with|true,"",false=>do return z'N 9999 (<-`(theorem $(⟨k[1]⟩):declId $(⟨.node .none ``Parser.Command.declSig #[k[2][0],k[2][1][0]]⟩):declSig $(⟨k[3]⟩):declVal))|true,"nonrec",_|true,"",_=>do return z'N 9999 (<-`(noncomputable def $(⟨k[1]⟩):declId $(⟨k[2]⟩):optDeclSig $(⟨k[3]⟩):declVal))|_,_,_=>return z'N 9999 x
open Lean in
local macro_rules|`(universe $x*)=>do let p:=`PySem.Challenge;let c:=p.str "cw_manyhands_k24_whole_back_holds";return mkNullNode (<-(p.str "pw_manyhands_k24_whole_back"::x.toList.map (λi=>c.str i.getId.toString)++(List.range 842).map λn=>c.str s!"o_{n+43}").toArray.mapM λn=>do return z'N 99 (<-`(noncomputable def $(mkIdent (PySem.W.Fast.stemOf n).1):ident:=0)))
universe env_41 heap_39 heap_46 heap_885 sts_109 sts_124 sts_167 sts_232 sts_262 sts_313 sts_49 sts_515 sts_552 sts_610 sts_64 sts_692 sts_777 sts_79 sts_858 sts_94 tree_108 tree_123 tree_166 tree_229 tree_261 tree_312 tree_429 tree_47 tree_511 tree_551 tree_609 tree_63 tree_691 tree_776 tree_78 tree_857 tree_884 tree_93 view_39
local macro_rules|`(tactic|omega)=>`(tactic|first|lia|omega +splitDisjunctions)
theorem z'Hd{G:Prop}(h:∀g:Prop,(G->g)->g):G:=h G λx=>x
local macro_rules|`(tactic|obtain $p:rcasesPatMed:=$e:term)=>do let s:=p.raw.reprint.getD "";if (s.splitOn ",").length>2+(s.splitOn "rfl").length then `(tactic|first|(refine z'Hd λg k=>?_;rcases $e:term with $p:rcasesPatMed<;>refine k ?_<;>clear g k)|rcases $e:term with $p:rcasesPatMed) else `(tactic|rcases $e:term with $p:rcasesPatMed)
noncomputable section
namespace L2
open PySem PySem.Spec PyProof.Rows
abbrev Key:=Sum Int Str
def Rl:Key->Value->Bool
 |.inl k,v=>Value.isInt k v
 |.inr x,v=>Value.isStrOf x v
def CK(w:yC!):Key->Int
 |.inl k=>hashInt k
 |.inr x=>hashStr w x
def bQ:∀{k:Key} {v:yB!},Rl k v=true->(∃i t,k=Sum.inl i/\v=Value.int i t)\/(∃x t,k=Sum.inr x/\v=Value.str x t)
 |.inl i,v,h=>by
  obtain⟨t,e⟩:=Value.isInt_shape (k:=i) (v:=v) h;exact .inl ⟨i,t,rfl,e⟩
 |.inr x,v,h=>by
  obtain⟨t,e⟩:=Value.isStrOf_shape (x:=x) (v:=v) h;exact .inr ⟨x,t,rfl,e⟩
def a0z(i:Int)(t:Tok):Rl (.inl i) dE!=true:=by simp[Rl,Value.isInt]
def tN(x:Str)(t:Tok):Rl (.inr x) lK!=true:=by simp[Rl,Value.isStrOf]
def c9w(a b:Int):decide (lJ_=Sum.inl b)=f1_:=by
 by_cases e:a=b
 .subst e;simp
 .have h:¬lJ_=Sum.inl b:=λq=>e (Sum.inl.inj q);rw[IF h];exact(KH.mpr e).symm
def c9t(a b:Str):decide (lM!=Sum.inr b)=decide (a=b):=by
 by_cases e:a=b
 .subst e;simp
 .have h:¬lM!=Sum.inr b:=λq=>e (Sum.inr.inj q);rw[IF h,IF e]
def c9v(a:Int)(b:Str):decide (lJ_=Sum.inr b)=false:=IF qW_
def c9u(a:Str)(b:Int):decide (lM!=Sum.inl b)=false:=IF qW_
nonrec def mixKind(prog:yO!)(w:yC!):PySem.KeyKind prog w Key where
 is:=Rl
 hash:=CK w
 inj:=λv a b ha hb=>by
  obtain⟨i,t,rfl,rfl⟩|⟨x,t,rfl,rfl⟩:=bQ ha
  .obtain⟨j,u,rfl,e⟩|⟨y,u,rfl,e⟩:=bQ hb
   .injection e with e1 _;rw[e1]
   .exact lM_
  .obtain⟨j,u,rfl,e⟩|⟨y,u,rfl,e⟩:=bQ hb
   .exact lM_
   .injection e with e1 _;rw[e1]
 byValue:=λk v h=>by
  obtain⟨i,t,rfl,rfl⟩|⟨x,t,rfl,rfl⟩:=bQ h<;>rfl
 pyHash:=λhv h=>by
  obtain⟨i,t,rfl,rfl⟩|⟨x,t,rfl,rfl⟩:=bQ hv
  .exact wpAny_pyHash_int h
  .exact wpAny_pyHash_str h
 eqBool:=λhu hv h=>by
  obtain⟨i,t,rfl,rfl⟩|⟨x,t,rfl,rfl⟩:=bQ hu
  .obtain⟨j,u,rfl,rfl⟩|⟨y,u,rfl,rfl⟩:=bQ hv
   .rw[c9w]at h;exact wpAny_eqBool_int h
   .rw[c9v]at h;exact SeqAt.EqAt.int_str i t y u _ _ _ _ h
  .obtain⟨j,u,rfl,rfl⟩|⟨y,u,rfl,rfl⟩:=bQ hv
   .rw[c9u]at h;exact SeqAt.EqAt.str_int x t j u _ _ _ _ h
   .rw[c9t]at h;exact wpAny_eqBool_str h
 «strs»:=λk x t v h=>by
  obtain⟨i,u,rfl,e⟩|⟨y,u,rfl,e⟩:=bQ h
  .exact lM_
  .injection e with e1 _
   subst e1;cases v<;>rfl
def a7t(prog:yO!)(w:yC!)(i:Int)(t:Tok):(qX!).is (.inl i) dE!=true:=a0z i t
def mQ(prog:yO!)(w:yC!)(x:Str)(t:Tok):(qX!).is (.inr x) lK!=true:=tN x t
end L2
namespace L2
open PySem PySem.Spec PyProof.Rows
inductive V where
 |non|bl (b:Bool)|int (i:Int)|str (x:Str)|byt (b:Array UInt8)|flt (b:UInt64)|ref (a:xT!)|ty (n:String)
 deriving DecidableEq
def Bu:V->Value->Prop
 |.non,u=>u=dE_
 |.bl b,u=>u=Value.bool b
 |.int i,u=>∃t,u=Value.int i t
 |.str x,u=>∃t,u=Value.str x t
 |.byt b,u=>∃t,u=Value.bytes b t
 |.flt b,u=>∃t,u=Value.float b t
 |.ref a,u=>u=Value.ref a
 |.ty n,u=>u=Value.type n
abbrev Bc:List V->List Value->Prop:=Paired Bu
def Bc.length{xs:n!}{us:i_}(r:ie!):l_=av_:=MO r
def Bc.get:∀{xs:n!} {us:i_} {i:Nat} {x:V},Bc xs us->xs[i]?=some x->∃u,us[i]?=some u/\Bu x u
 |_,_,_,_,.nil,e=>by simp at e
 |_,_,0,_,.cons r _,e=>by simp at e;subst e;exact lN!
 |_,_,i+1,x,.cons _ t,e=>by
  obtain⟨u,Y,L⟩:=Bc.get (i:=i) (x:=x) t cV_;exact⟨u,id_,L⟩
def Bc.set{x:V}{u:yB!}(r:Bu x u):∀{xs:n!} {us:i_} (i:Nat),Bc xs us->Bc (xs.set i x) (us.set i u)
 |_,_,_,.nil=>.nil
 |_,_,0,.cons _ t=>.cons r t
 |_,_,i+1,.cons q t=>.cons q (Bc.set r i t)
def Bc.append:∀{xs ys:n!} {us ws:i_},Bc xs us->Bc ys ws->Bc eJ_ (us++ws)
 |_,_,_,_,.nil,s=>s
 |_,_,_,_,.cons r t,s=>.cons r (Bc.append t s)
def Bc.take:∀{xs:n!} {us:i_} (n:Nat),Bc xs us->Bc (xs.take n) (us.take n)
 |_,_,0,_=>.nil
 |_,_,_+1,.nil=>.nil
 |_,_,n+1,.cons r t=>.cons r (Bc.take n t)
def Bc.drop:∀{xs:n!} {us:i_} (n:Nat),Bc xs us->Bc (xs.drop n) (us.drop n)
 |_,_,0,r=>r
 |_,_,_+1,.nil=>.nil
 |_,_,n+1,.cons _ t=>Bc.drop n t
def Ou:Option V->Option Value->Prop
 |some v,some u=>Bu v u
 |none,none=>True
 |_,_=>False
def KV{κ:Type}:List (κ×V)->List lN_->Prop:=Paired λ(p:κ×V) (q:κ×Value)=>p.1=q.1/\Bu p.2 q.2
nonrec def kV:Key->V
 |.inl i=>.int i
 |.inr x=>.str x
inductive HO where
 |lst (xs:n!)
 |tup (xs:n!)
 |dK (kvs:List (Key×V))|dT (kvs:if!)
 |set (S:Int->Bool) (n:Nat)
 |ins (C dx:xT!) (fs:eK!)
 |own (x:xT!)
 |xd (fs:eK!)
 |met (f x:xT!)
 |rng (lo hi:Int)
 |frz (o:Obj) (u:HO)
 |tbl (ps:ae_)
 |ext (φ:Heap->Prop)
abbrev Hp:=Addr->Option HO
nonrec def upd(H:Hp)(a:xT!)(o:HO):Hp:=λb=>if b=a then some o else H b
def cC{H:Hp}{a:xT!}{o:HO}:upd H a o a=some o:=by unfold upd;rw[n_]
def bD{H:Hp}{a b:xT!}{o:HO}(h:b≠a):upd H a o b=H b:=by unfold upd;rw[HQ h]
def cN{H:Hp}{a b:xT!}{o:HO}(h:H a=some o)(h':H b=none):a≠b:=by intro e;subst e;rw[h]at h';cases h'
section
variable(P:yO!)(w:yC!)
def Fg(H:Hp)(h:Heap)(a:xT!):HO->Prop
 |.lst xs=>l_<=sizeLine/\∃(its:i_) (n:Nat),Bc xs its/\h.get? a=some {cls:=.type "list",data:=.seq its.toArray n}
 |.tup xs=>l_<=sizeLine/\∃its:List Value,Bc xs its/\IsTup h a bg_
 |.dK kvs=>aE!<=sizeLine/\dG_=false/\∃vs,KV kvs vs/\h.DictOf bt_ a vs
 |.dT kvs=>aE!<=sizeLine/\dG_=false/\∃xs:List lO!,
   Paired (λ(p:List Key×V) (q:List Key×Addr×Value)=>p.1=q.1/\H q.2.1=some q0!/\Bu p.2 q.2.2) kvs xs/\
   ∃o es ep,h.get? a=some o/\if_/\o.data=.dict es ep/\es.toList=xs.map (entryOfKey f4!)/\(xs.map c_).Nodup
 |.set S n=>h.SetOf (intKind P w) a S n
 |.ins C dx fs=>H dx=some f4_/\bu!<=1000/\dx≠a/\h.get? a=some lP_/\
   ∃mA,h.Ns1 dx mA/\q2_/\PySem.Within mA lQ_
 |.own _=>∃o,h.get? a=some o
 |.xd fs=>∃mA,h.Ns1 a mA/\∀f,Ou (fs.lookup f) (mA f)
 |.rng lo hi=>∃t u v,h.get? a=some {cls:=.type "range",data:=.fields #[.int lo t,.int hi u,.int 1 v]}
 |.frz o u=>h.get? a=some o/\Fg H h a u
 |.tbl ps=>h.get? a=some {cls:=.none,data:=.fields ps}
 |.met f x=>h.get? a=some (W.methodObj aj! f5!)
 |.ext φ=>φ h/\(∃o,h.get? a=some o)/\∀Y L:Heap,φ Y->(∀o,Y.get? a=some o->L.get? a=some o)->φ L
def Ov(H:Hp)(h:Heap):Prop:=∀a o,H a=some o->Fg P w H h a o
end
section
variable{P:yO!}{w:yC!}{H H':Hp}{h h':Heap}{a:xT!}{o:HO}
def Fg.lt(x:q4!):a<cW_:=by
 cases o with
 |lst xs=>obtain⟨_,_,_,_,e⟩:=x;exact IQ e
 |tup xs=>obtain⟨_,_,_,p⟩:=x;exact p.lt
 |dK kvs=>obtain⟨_,_,_,_,o,_,_,e,_⟩:=x;exact IQ e
 |dT kvs=>obtain⟨_,_,_,_,o,_,_,e,_⟩:=x;exact IQ e
 |set S n=>obtain⟨o,_,_,_,e,_⟩:=x;exact IQ e
 |ins C dx fs=>obtain⟨_,_,_,e,_⟩:=x;exact IQ e
 |own y=>obtain⟨_,e⟩:=x;exact IQ e
 |xd fs=>obtain⟨_,⟨_,_,_,e,_⟩,_⟩:=x;exact IQ e
 |rng lo hi=>obtain⟨_,_,_,e⟩:=x;exact IQ e
 |frz ob u=>obtain⟨e,_⟩:=x;exact IQ e
 |tbl ps=>exact IQ q4_
 |met f y=>exact IQ q4_
 |ext φ=>obtain⟨_,⟨_,e⟩,_⟩:=x;exact IQ e
def Paired.mapP{α β:Type}{F G:cX!}:∀{l₁:P_} {l₂:dH!},Paired F l₁ l₂->(∀a b,F a b->G a b)->Paired G l₁ l₂
 |_,_,.nil,_=>.nil
 |_,_,.cons r t,f=>.cons (f _ _ r) (Paired.mapP t f)
def Fg.stay(x:q4!)(k:∀b u,(b=a\/H b=some f4_)->h.get? b=some u->h'.get? b=some u)
  (ho:∀b,H b=some f4_->H' b=some f4_)(ht:q5_):Fg P w H' h' a o:=by
 induction o with
 |lst xs=>obtain⟨z,its,n,r,e⟩:=x;exact⟨z,its,n,r,bI!⟩
 |tup xs=>obtain⟨z,its,r,ob,e,c⟩:=x;exact⟨z,its,r,ob,bI!,c⟩
 |dK kvs=>obtain⟨z,y,vs,r,ob,es,ep,e,c⟩:=x;exact⟨z,y,vs,r,ob,es,ep,bI!,c⟩
 |dT kvs=>
  obtain⟨z,y,xs,r,ob,es,ep,e,c⟩:=x;exact⟨z,y,xs,Paired.mapP r λp q z=>⟨z.1,ht _ _ z.2.1,z.2.2⟩,ob,es,ep,bI!,c⟩
 |set S n=>obtain⟨ob,es,ep,t,e,c⟩:=x;exact⟨ob,es,ep,t,bI!,c⟩
 |ins C dx fs=>
  obtain⟨d,z,ne,e,mA,⟨od,es,ep,e2,c⟩,r⟩:=x;exact⟨ho _ d,z,ne,bI!,mA,⟨od,es,ep,k _ _ (.inr d) e2,c⟩,r⟩
 |own y=>obtain⟨ob,e⟩:=x;exact⟨ob,bI!⟩
 |xd fs=>obtain⟨mA,⟨od,es,ep,e,c⟩,r⟩:=x;exact⟨mA,⟨od,es,ep,bI!,c⟩,r⟩
 |rng lo hi=>obtain⟨t,u,v,e⟩:=x;exact⟨t,u,v,bI!⟩
 |frz ob u ih=>obtain⟨e,q⟩:=x;exact⟨bI!,ih q⟩
 |tbl ps=>
  have e:h.get? a=some {cls:=.none,data:=.fields ps}:=x;show h'.get? a=some {cls:=.none,data:=.fields ps};exact k a _ G! e
 |met f y=>
  have e:h.get? a=some q8!:=x;show h'.get? a=some q8!;exact k a _ G! e
 |ext φ=>obtain⟨p,⟨o,e⟩,st⟩:=x;exact⟨st _ _ p λo q=>k _ _ G! q,⟨o,bI!⟩,st⟩
def Ov.lt(x:bu_)(e:H a=some o):a<cW_:=(x a o e).lt
def Ov.fresh(x:bu_)(e:cW_<=a):H a=none:=by
 cases q:H a with
 |none=>rfl
 |some u=>exact absurd (IT (x.lt q) e) dH_
def Ov.kept(x:bu_)(k:ig_):Ov P w H h':=λa o e=>
 (x a o e).stay (λb u _ q=>k b u q) lS_ λ_ _ q=>q
def Ov.laid(x:bu_)(k:ig_)(hp:cW_<=a)(new:Fg P w cX_ h' a o):Ov P w cX_ h':=λb u e=>by
 have hn:=x.fresh hp;show"#6"
 .show"!x";exact new
 .rw[bD hb]at e;exact(x b u e).stay (λc v _ q=>k c v q) (λc q=>by rw[f6_];exact q) λc xs q=>by rw[f6_];exact q
end
def Rd(H:Hp)(a:xT!)(u:HO):Prop:=H a=some u\/∃o,H a=some f7!
def Rd.ok{P:yO!}{w:yC!}{H:Hp}{h:Heap}{a:xT!}{u:HO}(r:Rd H a u)(x:bu_):Fg P w H h a u:=by
 obtain r|⟨o,r⟩:=r
 .exact x a u r
 .obtain⟨_,q⟩:=x a _ r;exact q
def CU:Option HO->Prop
 |some (.lst _)=>True
 |some (.dK _)=>True
 |some (.dT _)=>True
 |some (.set _ _)=>True
 |some (.ins _ _ _)=>True
 |some (.ext _)=>True
 |_=>False
section
variable{P:yO!}{w:yC!}{H:Hp}{h h':Heap}{x e:xT!}{o':HO}
def Ov.write(ok:bu_)(mu:CU (H x))(he:lU!)(k:q8_)(px:lU_)
  (new:Fg P w (upd H x o') h' x o'):Ov P w (upd H x o') h':=λb u q=>by
 have UC:∀c y,H c=some (.own y)->c≠x:=λc y r z=>by subst z;rw[r]at mu;exact mu
 have YH:∀c xs,H c=some bH_->c≠x:=λc xs r z=>by subst z;rw[r]at mu;exact mu
 by_cases hb:b=x
 .subst hb;rw[cC]at q;cases q;exact new
 .rw[bD hb]at q;by_cases mz:b=e
  .have q':H b=some ih!:=by
    obtain z|z:=he
    .exact absurd (mz.trans z) hb
    .rw[mz];exact z
   rw[q]at q';cases q';obtain⟨v,hv⟩:=px;exact⟨v,by rw[mz];exact hv⟩
  .refine(ok b u q).stay (λc v hc r=>k c v ?_ r) (λc r=>by rw[bD (UC c b r)];exact r) λc xs r=>by rw[bD (YH c xs r)];exact r
   obtain rfl|hc:=hc
   .exact mz
   .rintro rfl;obtain z|z:=he
    .exact UC c b hc z
    .rw[hc]at z;cases z;exact hb rfl
end
structure Un(fs ex:aw!)(H H':Hp)(h h':Heap):Prop where
 keep:∀b o,h.get? b=some o->H b=none->b∉fs->b∉ex->h'.get? b=some o
 slot:∀b o,h.get? b=some o->H b=none->b∈fs->b∉ex->∃sl,h'.get? b=some {o with slots:=sl}
 free:∀b o,h.get? b=some o->H b=none->b∉ex->H' b=none
 there:∀b o,h.get? b=some o->b∉ex->∃o',h'.get? b=some o'
 tups:∀b xs,H b=some bH_->H' b=some bH_
 frzs:∀b o u,H b=some f7!->H' b=some f7!
 tbls:∀b ps,H b=some (.tbl ps)->∃pz,H' b=some q9!
section
variable{fs vw ex ex':List Addr}{H H1 H2:Hp}{h Y L h':Heap}{a x e:xT!}{o:HO}
def Un.any(u:Un fs ex H H1 h Y){b:xT!}(q:h.get? b=some ob)(n:H b=none)(J:b∉ex):∃sl,Y.get? b=some {ob with slots:=sl}:=by
 by_cases hb:b∈fs
 .exact u.slot b ob q n hb J
 .exact⟨ob.slots,u.keep b ob q n hb J⟩
def Un.kept(k:ig_):Un fs ex H H h h':=
 ⟨λb ob q _ _ _=>k b ob q,λb ob q _ _ _=>⟨ob.slots,k b ob q⟩,λ_ _ _ n _=>n,λb ob q _=>⟨ob,k b ob q⟩,λ_ _ q=>q,λ_ _ _ q=>q,λ_ ps q=>⟨#[],by rw[q];simp⟩⟩
def Un.refl:Un fs ex H H h h:=Un.kept λ_ _ q=>q
def Un.laid(k:ig_)(hp:cW_<=a)(hn:ii!):Un fs ex H cX_ h h' where
 keep:=λb u q _ _ _=>k b u q
 slot:=λb u q _ _ _=>⟨u.slots,k b u q⟩
 free:=λb u q n _=>by rw[bD (JG (IT (IQ q) hp))];exact n
 there:=λb u q _=>⟨u,k b u q⟩
 tups:=λb xs q=>by rw[f6_];exact q
 frzs:=λb u xs q=>by rw[f6_];exact q
 tbls:=λb ps q=>⟨#[],by rw[f6_,q];simp⟩
def Un.write(mu:CU (H x))(he:lU!)(k:q8_)(px:lU_):Un fs ex H lX! h h':=by
 have J:∀b,H b=none->b≠x:=λb n z=>by subst z;rw[n]at mu;exact mu
 have hb:∀b,H b=none->b≠e:=λb n z=>by
  subst z;obtain r|r:=he
  .exact J b n r
  .rw[n]at r;cases r
 have hm:∀b u,H b=some u->¬CU (some u)->b≠x:=λb u q nm z=>by subst z;rw[q]at mu;exact nm mu
 refine⟨λb u q n _ _=>k b u (hb b n) q,λb u q n _ _=>⟨u.slots,k b u (hb b n) q⟩,λb u q n _=>by rw[bD (J b n)];exact n,λb u q _=>?_,
  λb xs q=>by rw[lX_];exact q,λb u xs q=>by rw[lX_];exact q,λb ps q=>⟨#[],by rw[lX_,q];simp⟩⟩
 by_cases mz:b=e
 .subst mz;exact px
 .exact⟨u,k b u mz q⟩
end
def DH(h:Heap)(H:Hp):List Addr:=(ra_).filter λa=>(H a).isSome
def Te(h:Heap)(H:Hp):Heap:=W.hideAll h (DH h H)
def b7h(h:Heap)(H:Hp):(ij_).objs.size=cW_:=W.hideAll_size _ _
def c2a{h:Heap}{H:Hp}{b:xT!}{o:Obj}(e:rc!)(n:H b=none):(ij_).get? b=some o:=
 W.hideAll_get _ e λhm=>by
  have q:(H b).isSome=true:=(KP.mp hm).2;rw[n]at q;simp at q
def c5h{h:Heap}{H:Hp}{b:xT!}{o:Obj}(e:(ij_).get? b=some o):h.get? b=some o/\H b=none:=by
 have e':h.get? b=some o:=W.of_hideAll (DH h H) e;refine⟨e',?_⟩;cases q:H b with
 |none=>rfl
 |some x=>
  have hm:b∈DH h H:=KP.mpr ⟨NT.mpr (IQ e'),by simp[q]⟩;have z:(ij_).get? b=none:=W.hideAll_none (DH h H) hm;rw[z]at e;cases e
def Za(g h:Heap)(az:xT!):List eK_:=(ra_).filterMap λa=>if a=az\/(g.get? a).isSome=true then none else(h.get? a).map λo=>(a,o)
nonrec def rest(g h:Heap)(az d:xT!):List eK_:=(Za g h az).filter λp=>decide (p.1≠d)
end L2
namespace L2
open PySem PySem.Spec PyProof.Rows
structure Mod(K:yQ!)(mg:z!)(base:Heap):Prop where
 kin:K.In base
 glob:base.Ns mainGlobals mg
 blt:∃mb,base.Ns builtinsNs mb/\∀x:Str,x≠"__name__"->mb x=bootBuiltins x
 nolimit:base.NoLimit
structure Cx where
 prog:Program
 w:World
 K:W.Frag
 mg:Str->Option Value
 base:Heap
 A:Around
 N:List Str
 s₀:Shared
 H₀:Hp
 env:Env
 outer:List Env
 stack:List Env
 ex:List Addr
 fn:Str->Bool
 calm:Bool
 pn:List eK_
 xe:Value->Shared->Prop
nonrec def frs(l:aw_):List Addr:=l.filterMap (·.frame)
abbrev Cx.fs(X:Cx):List Addr:=frs X.outer
def Wt(sc:Scope)(x:Str):Prop:=sc.names.lookup x=some .local\/sc.names.lookup x=some .cell\/sc.names.lookup x=some .free
def Wu(sc:Scope)(x:Str):Prop:=sc.names.lookup x=some .local\/sc.names.lookup x=some .cell
def FK(env:Env)(h:Heap)(m:z!)(x:Str)(u:yB!):Prop:=
 (env.kindOf x=some .local/\m x=some u)\/((env.kindOf x=some .cell\/env.kindOf x=some .free)/\∃c,env.cells.lookup x=some c/\h.IsCell c (some u))
structure Cx.Ok(X:Cx):Prop where
 mod:Mod X.K X.mg X.base
 kind:lZ!=.function
 glob:X.env.globals=mainGlobals
 blt:X.env.builtins=builtinsNs
 above:dI!<=X.env.locals
 inj:∀x y c,X.env.cells.lookup x=some c->X.env.cells.lookup y=some c->x=y
 has:∀x,rg_->∃c,X.env.cells.lookup x=some c
 cab:∀x c,X.fn x=true->X.env.cells.lookup x=some c->dI!<=c
 hd:X.calm=true->X.A.handled=none
 frames:X.A.frames=some X.stack
 stk:X.stack=X.outer\/(X.stack=X.env::X.outer/\X.env.frame=some X.env.locals)
 exf:∀b∈X.ex,b≠X.env.locals/\∀x c,X.env.cells.lookup x=some c->c≠b
 bs:∀b o,X.base.get? b=some o->X.s₀.heap.get? b=some o/\X.H₀ b=none
 bsz:X.base.objs.size<=dI!
 noex:∀b o,X.base.get? b=some o->b∉X.ex
 exfs:∀b∈X.ex,b∉X.fs
 funs:X.s₀.heap.FunFrames X.base X.outer
 frf:∀b∈X.fs,X.H₀ b=none
structure Inv(X:Cx)(h1:o!)(Z:List (Option V))(H:Hp)(s:yP!):Prop where
 ok:X.Ok
 os:s.os=X.s₀.os
 bare:AllBare s.gens
 base:Un X.fs X.ex X.H₀ H X.s₀.heap s.heap
 loc:∃m,s.heap.Ns X.env.locals m/\∀(i:Nat) (x:Str) (v:V),X.N[i]?=some x->Z[i]?=some dI_->Wt X.env.scope x->∃u,Bu v u/\FK X.env s.heap m x u
 cell:∀x c,X.env.cells.lookup x=some c->∃v,s.heap.IsCell c v
 free:H X.env.locals=none
 freeC:∀x c,X.env.cells.lookup x=some c->H c=none
 pin:∀p∈X.pn++h1,s.heap.get? p.1=some p.2/\H p.1=none/\p.1≠X.env.locals/\p.1∉X.fs/\∀v,p.2.data≠.cell v
 hok:Ov X.prog X.w H s.heap
 len:f7_=X.N.length
section
variable{X:Cx}{h1:List (Addr×Obj)}{Z:List (Option V)}{H H':Hp}{s:yP!}{h':Heap}
def Cx.Ok.nofr(ok:X.Ok){b:xT!}{o:Obj}(e:X.base.get? b=some o):b∉X.fs:=λhb=>by
 have:=(ok.funs.mem hb).1;rw[e]at this;cases this
def Inv.bs(I:d_):∀b o,X.base.get? b=some o->s.heap.get? b=some o/\H b=none:=λb o e=>
 ⟨I.base.keep b o (ik!).1 (ik!).2 (I.ok.nofr e) rh_,I.base.free b o (ik!).1 (ik!).2 rh_⟩
def Inv.bk(I:d_):∀b o,X.base.get? b=some o->s.heap.get? b=some o:=λb o e=>(I.bs b o e).1
def Inv.mod(I:d_):Mod X.K X.mg X.base:=I.ok.mod
def Inv.kIn(I:d_):X.K.In s.heap:=I.ok.mod.kin.keeps I.bk
def Inv.lt(I:d_):X.env.locals<o_:=let⟨_,hn,_⟩:=I.loc;hn.lt
def Inv.sz(I:d_):dI!<=o_:=JB I.ok.above (MV I.lt)
def Inv.nofs(I:d_){a:xT!}(h:o_<=a):a∉X.fs:=λhb=>by
 obtain⟨_,o,ho,_⟩:=I.ok.funs.mem hb;exact absurd (IT ik_ (JB I.sz h)) dH_
def Inv.cne(I:d_):∀x c,X.env.cells.lookup x=some c->c≠X.env.locals:=λx c e z=>by
 obtain⟨v,o,ho,hd⟩:=I.cell x c e;obtain⟨m,⟨o',es,ep,fh,j3,_⟩,_⟩:=I.loc;rw[z,fh]at ho;cases ho;rw[j3]at hd;cases hd
def Inv.funs(I:d_):s.heap.FunFrames X.base X.outer:=by
 have all:∀(l:aw_),(∀b∈frs l,b∈X.fs)->X.s₀.heap.FunFrames X.base l->s.heap.FunFrames X.base l:=by
  intro l
  induction l with
  |nil=>intro _ _;trivial
  |cons env r ih=>
   intro hs hl;obtain⟨hk,⟨az,o,hf,hn,ho,hd⟩,hr⟩:=hl;have hL:az∈X.fs:=hs az (by unfold frs;rw[QU,hf];exact HP);obtain⟨sl,e⟩:=I.base.slot az o ho (I.ok.frf az hL) hL λz=>I.ok.exfs az z hL
   exact⟨hk,⟨az,_,hf,hn,e,hd⟩,ih (λb hb=>hs b (by unfold frs;rw[QU,hf];exact HL _ hb)) hr⟩
 exact all X.outer (λ_ hb=>hb) I.ok.funs
def Inv.stack(I:d_):s.heap.FunFrames X.base X.stack:=by
 obtain e|⟨e,hf⟩:=I.ok.stk
 .rw[e];exact I.funs
 .rw[e];obtain⟨m,hn,_⟩:=I.loc;refine .cons (by rw[I.ok.kind];decide) hf hn ?_ I.funs;exact Heap.get?_none_of_le (JB I.ok.bsz I.ok.above)
def Inv.stkSub(I:d_):∀b∈frs X.stack,b∈X.env.locals::X.fs:=λb hb=>by
 obtain e|⟨e,hf⟩:=I.ok.stk
 .rw[e]at hb;exact HL _ hb
 .rw[e]at hb;unfold frs at hb;rw[QU,hf]at hb;exact hb
def Inv.stkFree(I:d_):∀b∈frs X.stack,H b=none:=λb hb=>by
 obtain e|hb:=HN.mp (I.stkSub b hb)
 .rw[e];exact I.free
 .obtain⟨_,o,ho,_⟩:=I.ok.funs.mem hb;exact I.base.free b o ho (I.ok.frf b hb) λz=>I.ok.exfs b z hb
def Inv.step{g':rm!}{t':Nat}{d':Drawn}{ch:aw!}(I:d_)
  (jg:∀b∈ch,il_/\b≠X.env.locals/\im!/\∀p∈X.pn++h1,p.1≠b)
  (keep:∀b o,b≠X.env.locals->b∉X.fs->b∉ch->s.heap.get? b=some o->H b=none->h'.get? b=some o)
  (slot:∀b o,b≠X.env.locals->b∈X.fs->b∉ch->s.heap.get? b=some o->H b=none->∃sl,h'.get? b=some {o with slots:=sl})(free:∀b o,b∉ch->s.heap.get? b=some o->H b=none->H' b=none)
  (there:∀b o,b∉ch->s.heap.get? b=some o->∃o',h'.get? b=some o')
  (tups:q5_)(frzs:∀b o u,H b=some f7!->H' b=some f7!)(tbls:∀b ps,H b=some (.tbl ps)->∃pz,H' b=some q9!)
  (ns:∀m,s.heap.Ns X.env.locals m->h'.Ns X.env.locals m)(hok:l1!)(hg:AllBare g'):
  Inv X h1 Z H' {s with heap:=h',gens:=g',drawn:=d',toks:=t'}:=by
 have UD:∀b o,X.s₀.heap.get? b=some o->b≠X.env.locals:=λb o e=>JG rm_;have vx:∀b o,X.s₀.heap.get? b=some o->b∉X.ex->b∉ch:=λb o e J hb=>by
  obtain z|z:=(jg b hb).1
  .exact J z
  .exact absurd (IT cY! z) dH_
 have UE:∀x c,X.env.cells.lookup x=some c->∀v,s.heap.IsCell c v->h'.IsCell c v:=λx c e v ⟨o,ho,hd⟩=>by
  have sk:c∉ch:=λz=>(jg c z).2.2.1 x c e rfl;by_cases hc:c∈X.fs
  .obtain⟨sl,q⟩:=slot c o (I.cne x c e) hc sk ho l2!;exact⟨_,q,hd⟩
  .exact⟨o,keep c o (I.cne x c e) hc sk ho l2!,hd⟩
 refine⟨I.ok,I.os,hg,⟨in!,in!,λb o e n J=>?_,rn_,λb xs e=>tups b xs (I.base.tups b xs e),λb o xs e=>frzs b o xs (I.base.frzs b o xs e),λb ps e=>?_⟩,?_,l2_,?_,l2_,eL!,hok,I.len⟩
 .exact keep b o (UD b o e) hb in_ l3! l3_
 .show"!W";obtain⟨YI,e2⟩:=slot b _ (UD b o e) hb in_ e1 l3_;exact⟨YI,e2⟩
 .show"!B";exact free b o' in_ e1 l3_
 .show"!B";exact there b o' in_ e1
 .obtain⟨m1,e1⟩:=I.base.tbls b ps e;obtain⟨m2,e2⟩:=tbls b _ e1;exact⟨m1++m2,by rw[e2,Array.append_assoc]⟩
 .obtain⟨m,hn,hl⟩:=I.loc;refine⟨m,ns m hn,ro_⟩;obtain⟨u,r,l⟩:=hl i x v e1 e2 e3;refine⟨u,r,?_⟩;obtain l|⟨k,c,e,z⟩:=l
  .exact .inl l
  .exact .inr ⟨k,c,e,UE x c e _ z⟩
 .obtain⟨v,z⟩:=I.cell x c e;exact⟨v,UE x c e v z⟩
 .obtain⟨m,⟨o,_,_,ho,_⟩,_⟩:=I.loc;exact free _ o (λz=>(jg _ z).2.1 rfl) ho I.free
 .obtain⟨v,o,ho,hd⟩:=I.cell x c e;exact free c o (λz=>(jg c z).2.2.1 x c e rfl) ho l2!
 .show"!{";have sk:p.1∉ch:=λz=>(jg p.1 z).2.2.2 p hp rfl;exact⟨keep p.1 p.2 ne nf sk e n,free p.1 p.2 sk e n,ne,nf,d⟩
def Inv.un{t':Nat}(I:d_)(u:Un X.fs [] H H' s.heap h')(hok:l1!):Inv X h1 Z H' {s with heap:=h',toks:=t'}:=by
 obtain⟨m,⟨o,es,ep,ho,r⟩,_⟩:=id I.loc;obtain⟨sl,hL⟩:=u.any ho I.free d!;exact I.step (g':=s.gens) (d':=s.drawn) (ch:=[]) rp_ (λb o _ hb _ e n=>u.keep b o e n hb d!) (λb o _ hb _ e n=>u.slot b o e n hb d!) (λb o _ e n=>u.free b o e n d!) (λb o _ e=>u.there b o e d!) u.tups u.frzs u.tbls (λm' hm=>by
  obtain⟨o',ay,bd,fh,r'⟩:=hm;rw[ho]at fh;cases fh;exact rq!) hok I.bare
def Inv.call{g':rm!}{t':Nat}{d':Drawn}{ch:aw!}(I:d_)(u:Un (frs X.stack) ch H H' s.heap h')(hok:l1!)(hg:AllBare g')
  (jg:∀b∈ch,il_/\b≠X.env.locals/\im!/\∀p∈X.pn++h1,p.1≠b):
  Inv X h1 Z H' {s with heap:=h',gens:=g',drawn:=d',toks:=t'}:=by
 obtain⟨m,⟨o,es,ep,ho,r⟩,_⟩:=id I.loc;obtain⟨sl,hL⟩:=u.any ho I.free λz=>(jg _ z).2.1 rfl
 exact I.step (ch:=ch) jg (λb o hL hb hc e n=>u.keep b o e n (λz=>(HN.mp (I.stkSub b z)).elim hL hb) hc) (λb o _ _ hc e n=>u.any e n hc) (λb o hc e n=>u.free b o e n hc) (λb o hc e=>u.there b o e hc) u.tups u.frzs u.tbls (λm' hm=>by
  obtain⟨o',ay,bd,fh,r'⟩:=hm;rw[ho]at fh;cases fh;exact rq!) hok hg
def Inv.turned{t':Nat}(I:d_)(k:∀b o,b≠it->s.heap.get? b=some o->h'.get? b=some o)(hn:H it=none)(hL:it≠X.env.locals)
  (Y:it∈X.ex\/dI!<=it)(L:∀x c,X.env.cells.lookup x=some c->c≠it)(h3:∀p∈X.pn++h1,p.1≠it):Inv X h1 Z H {s with heap:=h',toks:=t'}:=by
 have p5:∀b u,H b=some u->b≠it:=λb u e z=>by rw[z,hn]at e;cases e
 refine I.step (g':=s.gens) (d':=s.drawn) (ch:=[it]) io_ (λb o _ _ hc e _=>k b o l4! e) (λb o _ _ hc e _=>⟨o.slots,k b o l4! e⟩) ip!
  (λb o hc e=>⟨o,k b o l4! e⟩) ip_ iq! (λb ps e=>rr!) ir! rs! I.bare
 .have e:b=it:=by simpa using hb
  subst e;exact⟨Y,hL,L,h3⟩
 .obtain⟨o,es,ep,ho,r⟩:=hm;exact⟨o,es,ep,k _ o (HR hL) ho,r⟩
 .refine(I.hok b u e).stay (λc v hc q=>k c v ?_ q) lS_ λ_ _ q=>q;obtain z|z:=hc
  .rw[z];exact p5 b u e
  .exact p5 c _ z
def Inv.tok(I:d_)(t:Nat):Inv X h1 Z H {s with toks:=t}:=I.un (h':=s.heap) (t':=t) Un.refl I.hok
def Inv.kept{t':Nat}(I:d_)(k:rs_):Inv X h1 Z H {s with heap:=h',toks:=t'}:=I.un (Un.kept k) (I.hok.kept k)
def Inv.laid{a:xT!}{o:HO}{t':Nat}(I:d_)(k:rs_)(hp:o_<=a)(new:Fg X.prog X.w cX_ h' a o):
  Inv X h1 Z cX_ {s with heap:=h',toks:=t'}:=I.un (Un.laid k hp (I.hok.fresh hp)) (I.hok.laid k hp new)
def Inv.write{x e:xT!}{o:HO}{t':Nat}(I:d_)(mu:CU (H x))(he:lU!)(k:∀b u,b≠e->s.heap.get? b=some u->h'.get? b=some u)(px:lU_)
  (new:Fg X.prog X.w lX! h' x o):Inv X h1 Z lX! {s with heap:=h',toks:=t'}:=I.un (Un.write mu he k px) (I.hok.write mu he k px new)
def Inv.pins_of{UF:o!}(I:d_)(h:∀p∈UF,s.heap.get? p.1=some p.2/\H p.1=none/\p.1≠X.env.locals/\p.1∉X.fs/\∀v,p.2.data≠.cell v):Inv X UF Z H s:=
 ⟨I.ok,I.os,I.bare,I.base,I.loc,I.cell,I.free,I.freeC,λp hp=>(HV.mp hp).elim (λz=>I.pin p (IS _ z)) (h p),I.hok,I.len⟩
def a7n{N:q!}(hN:N.Nodup){i j:Nat}{x:Str}(a:N[i]?=some x)(b:N[j]?=some x):i=j:=by obtain⟨Y,e1⟩:=IL.mp a;obtain⟨L,e2⟩:=IL.mp b;exact(List.getElem_inj hN).mp uH!
def zX{M:Model}{A:yn!}{E:q_}{i:Nat}{x:Str}{v:V}{u:yB!}{Q:cZ!}(I:d_)(hN:bv!)(hi:ak!)(J:bv_)(r:bw!)
  (h:∀s',Inv X h1 eM! H s'->(∃a,Heap.SameBut a s.heap s'.heap/\(a=X.env.locals\/X.env.cells.lookup x=some a))->Q () s')(hf:X.fn x=true\/X.env.scope.names.lookup x=some .local:=by first|exact .inl rfl|exact .inr rfl|assumption):wpAny M A rv! Q E s:=by
 obtain⟨m,hn,hl⟩:=id I.loc;have YJ:(lZ!==.class||(lZ!==.module&&X.env.locals != X.env.globals))=false:=by rw[I.ok.kind];rfl
 have UG:i<f7_:=by rw[I.len];exact(IL.mp hi).1
 have cne:=I.cne;have UH:∀{a:xT!} {h':Heap},(∃o,s.heap.get? a=some o/\H a=none)->Heap.SameBut a s.heap h'->Ov X.prog X.w H h':=λ{a h'} ha hs b ob e=>by
  obtain⟨_,_,ik⟩:=ha;refine(I.hok b ob e).stay (λc w' hc q=>(hs.2 c ?_).trans q) lS_ λ_ _ q=>q;rintro rfl;obtain rfl|hc:=hc
  .rw[ik]at e;cases e
  .rw[ik]at hc;cases hc
 obtain hk|hk:=J
 .refine wpAny_storeName_local hk hn (λh' m7 hs=>?_) YJ;obtain⟨oL,_,_,lh,_⟩:=id hn;refine h _ ⟨I.ok,I.os,I.bare,rx!,⟨_,m7,ry!⟩,λy c e=>?_,I.free,I.freeC,eL!,UH ⟨oL,lh,I.free⟩ hs,rz!⟩ ⟨_,hs,c0!⟩
  .exact(l7_).trans l3!
  .show"!W";exact⟨sl,(l7_).trans e1⟩
  .show"!B";exact⟨o',(l7_).trans e1⟩
  .by_cases hj:j=i
   .show"#+";exact⟨u,r,.inl ⟨hk,H!⟩⟩
   .rw[JE (HR hj)]at e2;obtain⟨u',r',q⟩:=hl j y v' e1 e2 e3;refine rB!;obtain⟨k,e⟩|⟨k,c,e,z⟩:=q
    .refine .inl ⟨k,?_⟩;have:y≠x:=λe=>hj (a7n hN e1 (e▸hi));simp[this,e]
    .exact .inr ⟨k,c,e,rC_⟩
  .obtain⟨w',z⟩:=I.cell y c e;exact⟨w',rC_⟩
  .show"!{";exact⟨(hs.2 p.1 ne).trans e,n,ne,nf,d⟩
 .have ym:X.fn x=true:=by
   obtain z|z:=hf
   .exact z
   .rw[z]at hk;cases hk
  obtain⟨c,hc⟩:=I.ok.has x (.inl hk);obtain⟨w',z⟩:=I.cell x c hc;refine wpAny_storeName_cell I.ok.kind hk hc z (λh' bv hs=>?_);obtain⟨oc,j4,YK⟩:=id z;refine h {s with heap:=h'} ⟨I.ok,I.os,I.bare,rx!,⟨m,hn.sameBut hs (HR (cne x c hc)),ry!⟩,λy c' e=>?_,I.free,I.freeC,eL!,UH ⟨oc,j4,I.freeC x c hc⟩ hs,rz!⟩ ⟨c,hs,.inr hc⟩
  .exact(ma!).trans l3!
  .show"!W";exact⟨sl,(ma!).trans e1⟩
  .show"!B";exact⟨o',(ma!).trans e1⟩
  .by_cases hj:j=i
   .show"#+";exact⟨u,r,.inr ⟨.inl hk,c,hc,bv⟩⟩
   .rw[JE (HR hj)]at e2;obtain⟨u',r',q⟩:=hl j y v' e1 e2 e3;refine rB!;obtain q|⟨k,c',e,z'⟩:=q
    .exact .inl q
    .refine .inr ⟨k,c',e,z'.sameBut hs ?_⟩;rintro rfl;exact hj (a7n hN e1 (I.ok.inj _ _ _ e hc▸hi))
  .by_cases j5:c'=c
   .subst j5;exact⟨_,bv⟩
   .obtain⟨w2,z2⟩:=I.cell y c' e;exact⟨w2,z2.sameBut hs j5⟩
  .show"!{";refine⟨(hs.2 p.1 ?_).trans e,n,ne,nf,d⟩;intro q;rw[q,j4]at e;have q':oc=p.2:=JJ e;exact d w' (by rw[<-q'];exact YK)
def wJ{M:Model}{A:yn!}{E:q_}{i:Nat}{x:Str}{v:V}{u:yB!}{Q:cZ!}(I:d_)(hN:bv!)(hi:ak!)(J:bv_)(r:bw!)
  (h:∀s',Inv X h1 eM! H s'->Q () s')(hf:X.fn x=true\/X.env.scope.names.lookup x=some .local:=by first|exact .inl rfl|exact .inr rfl|assumption):wpAny M A rv! Q E s:=
 zX I hN hi J r (λs' I' _=>h s' I') hf
def Inv.call'{s':yP!}{ch:aw!}(I:d_)(ho:s'.os=s.os)(u:Un (frs X.stack) ch H H' s.heap s'.heap)(hok:Ov X.prog X.w H' s'.heap)(hg:AllBare s'.gens)
  (jg:∀b∈ch,il_/\b≠X.env.locals/\im!/\∀p∈X.pn++h1,p.1≠b):Inv X h1 Z H' s':=by
 obtain⟨h',g',d',t',o'⟩:=s';have e:o'=s.os:=ho;subst e;exact I.call (g':=g') (t':=t') (d':=d') u hok hg jg
end
abbrev XK:=Value->Option Addr->Hp->Prop
abbrev St:=List (Option V)
abbrev VK:=V->Hp->Prop
abbrev TE:=St->Hp->VK->Prop
abbrev TT:=St->Hp->rH_->Prop
abbrev TA:=St->Hp->(List V->Hp->Prop)->Prop
structure Vm where
 nx:St->Hp->Prop
 rt:VK
 bk:St->Hp->Prop:=λ_ _=>False
 ct:St->Hp->Prop:=λ_ _=>False
abbrev TS:=Vm->St->Hp->Prop
inductive EP(X:Cx)(h1:o!)(Z:St)(Q:VK)(u:yB!)(s':yP!):Prop
 |mk (v:V) (H':Hp) (I:mb_) (r:bw!) (q:Q v H'):EP X h1 Z Q u s'
inductive TP(X:Cx)(h1:o!)(Z:St)(Q:dK!)(b:Bool)(s':yP!):Prop
 |mk (H':Hp) (I:mb_) (q:Q b H'):TP X h1 Z Q b s'
inductive AP(X:Cx)(h1:o!)(Z:St)(Q:c0_)(us:i_)(s':yP!):Prop
 |mk (vs:n!) (H':Hp) (I:mb_) (r:eN!) (q:Q vs H'):AP X h1 Z Q us s'
def SP(X:Cx)(h1:o!)(D:Vm)(f:Flow)(s':yP!):Prop:=
 match f with
 |.next=>∃σ H',Inv X h1 σ H' s'/\D.nx σ H'
 |.brk=>∃σ H',Inv X h1 σ H' s'/\D.bk σ H'
 |.cont=>∃σ H',Inv X h1 σ H' s'/\D.ct σ H'
 |.ret u=>∃v σ H',Inv X h1 σ H' s'/\Bu v u/\D.rt v H'
def PE(X:Cx)(e:Expr)(t:TE):Prop:=
 ∀(h1:o!) (s:yP!) (Z:St) (H:Hp) (Q:VK),Inv X h1 Z H s->t Z H Q->wpAny e_ X.A eN_ aL_ X.xe s
def PT(X:Cx)(e:Expr)(t:TT):Prop:=
 ∀(h1:o!) (s:yP!) (Z:St) (H:Hp) (Q:dK!),Inv X h1 Z H s->t Z H Q->wpAny e_ X.A (isTrue e X.env eN_) it_ X.xe s
def PW(X:Cx)(e:Expr)(t:TT):Prop:=
 ∀(du:Sem Value) (h1:o!) (s:yP!) (Z:St) (H:Hp) (Q:dK!),Inv X h1 Z H s->t Z H Q->wpAny e_ X.A (isTrue e X.env du) it_ X.xe s
def PW.pt{X:Cx}{e:Expr}{t:TT}(h:PW X e t):PT X e t:=h _
def PA(X:Cx)(es:bJ_)(t:TA):Prop:=
 ∀(pos:Pos) (h1:o!) (s:yP!) (Z:St) (H:Hp) (Q:c0_),Inv X h1 Z H s->t Z H Q->wpAny e_ X.A (spliced vI!) (AP X h1 Z Q) X.xe s
def PS(X:Cx)(st:Stmt)(t:TS):Prop:=
 ∀(h1:o!) (s:yP!) (Z:St) (H:Hp) (D:Vm),Inv X h1 Z H s->t D Z H->wpAny e_ X.A (exec st X.env) (SP X h1 D) X.xe s
def Uo(X:Cx)(st:b2!)(t:TS):Prop:=
 ∀(h1:o!) (s:yP!) (Z:St) (H:Hp) (D:Vm),Inv X h1 Z H s->t D Z H->wpAny e_ X.A (execs st X.env) (SP X h1 D) X.xe s
def dL{α:Type}{t:Sem α}{Q Q':vN_}{M:Model}{A:yn!}{E:q_}{s:yP!}(h:wpAny M A t Q E s)(hQ:∀a s,Q a s->Q' a s):wpAny M A t Q' E s:=KJ h hQ λ_ _ x=>x
end L2
namespace L2
open PySem PySem.Spec PyProof.Rows
section
variable{X:Cx}
def bin{a b:Expr}{ta tb:TE}(ha:a2_)(hb:cs!){h1:o!}{s:yP!}{Z:St}{H:Hp}{R:vP!}(I:d_)(h:rK!)
  {α:Type}{Q:vN_}{f:Value->Value->Sem α}
  (hf:rK_):
  wpAny e_ X.A me! rM! X.xe s:=by
 show"!8"
def BH(i:Nat):TE:=λZ H Q=>∃v,Z[i]?=some dI_/\Q v H
nonrec def tC(v:V):TE:=λ_ H Q=>Q v H
def mG{i:Nat}{x:Str}{pos:Pos}(hN:ak!)(hv:cs_)(hd:F_:=by decide)(bz:ct!:=by decide):PE X ct_ (BH i):=by
 intro h1 s Z H Q I h;obtain⟨v,e,h⟩:=h;obtain⟨m,hn,hl⟩:=I.loc;obtain⟨u,r,l⟩:=hl i x v hN e hv;have fin:EP X h1 Z Q u s:=mf!;obtain⟨hk,hm⟩|⟨hk,c,hc,cg⟩:=l
 .exact wpAny_Name (wpAny_loadName_local I.ok.kind hk hn hm fin) hd
 .obtain hk|hk:=hk
  .exact wpAny_Name (wpAny_loadName_cell I.ok.kind hk hc cg fin) hd
  .exact wpAny_Name (wpAny_loadName_free I.ok.kind hk hc cg fin bz) hd
def c8w {i j pos}:PE X rO_ (tC bw_):=λ_ _ _ H _ I h=>wpAny_Constant_int ⟨cu!,H,a3!,L!,h⟩
def d2n {b j pos}:PE X (.Constant mi! j pos) (tC bK!):=λ_ _ _ H _ I h=>Constant_bool ⟨.bl b,H,I,rfl,h⟩
def c8v {j pos}:PE X rQ! (tC .non):=λ_ _ _ H _ I h=>Constant_none ⟨.non,H,I,rfl,h⟩
def b9u {x j pos}:PE X (.Constant dK_ j pos) (tC dK_):=λ_ _ _ H _ I h=>Calls.Constant_str ⟨.str x,H,a3!,L!,h⟩
def Gl(X:Cx)(x:Str):Prop:=X.env.kindOf x=some .globalImplicit
def kR{E:q_}{h1:o!}{s:yP!}{Z:St}{H:Hp}{x:Str}{u:yB!}{pos:Pos}{Q:q_}(I:d_)(hg:Y!)(hm:X.mg x=some u)(h:Q u s)
  (hd:F_:=by decide):wpAny e_ X.A v5! Q E s:=
 Calls.Name_function_global I.ok.kind hg (Calls.loadGlobal_global rS! hm h) hd
def kS{E:q_}{h1:o!}{s:yP!}{Z:St}{H:Hp}{x:Str}{u:yB!}{pos:Pos}{Q:q_}(I:d_)(hg:Y!)(hm:c3_)(hv:rT_)(h:Q u s)
  (hn:c4!:=by decide)(hd:F_:=by decide):wpAny e_ X.A v5! Q E s:=by
 obtain⟨mb,Y,L⟩:=I.mod.blt;exact Calls.Name_function_global I.ok.kind hg (Calls.loadGlobal_builtin rS! hm (by rw[I.ok.blt];exact Y.keeps I.bk) ((L x hn).trans hv) h) hd
def c4y{x:Str}{v:V}{u:yB!}{pos:Pos}(hg:Y!)(hm:X.mg x=some u)(r:bw!)(hd:F_:=by decide):PE X ct_ (tC v):=
 λ_ _ _ H _ I h=>kR I hg hm mf! hd
def c4z{x:Str}{v:V}{u:yB!}{pos:Pos}(hg:Y!)(hm:c3_)(hv:rT_)(r:bw!)(hn:c4!:=by decide)(hd:F_:=by decide):PE X ct_ (tC v):=
 λ_ _ _ H _ I h=>kS I hg hm hv mf! hn hd
variable{a b:Expr}{ta tb:TE}{pos:Pos}
def PC(X:Cx)(op:CmpOp)(a b:Expr)(t:TE):Prop:=
 ∀(h1:o!) (s:yP!) (Z:St) (H:Hp) (Q:VK),Inv X h1 Z H s->t Z H Q->
  wpAny e_ X.A me! (λv al=>wpAny e_ X.A vR_ (λu ao=>wpAny e_ X.A (compareOp op v u) aL_ X.xe ao) X.xe al) X.xe s
def c0q(b:Expr){op:CmpOp}(h:op≠.In)(L:op≠.NotIn):behindInMarks op b=false:=by
 have e1:rU!=false:=by cases op<;>first|rfl|exact absurd rfl h
 have e2:rU_=false:=by cases op<;>first|rfl|exact absurd rfl L
 cases b<;>simp[behindInMarks,e1,e2]
nonrec def tB(t:TE):TT:=λZ H Q=>t Z H λx H1=>∃c,x=.bl c/\Q c H1
def d4i{op:CmpOp}{t:TE}(h:PC X op a b t)(Y:dL!:=by first|exact c0q _ b_ b_|rfl):PT X dL_ (tB t):=by intro h1 s Z H Q I hw;refine QW (dL ml! λv s1 Y=>dL Y λu s2 L=>dL L λc s3 ⟨x,H1,I1,r1,q1⟩=>?_) Y;obtain⟨d,rfl,q⟩:=q1;cases r1;exact JM ⟨H1,I1,q⟩
def b9e{e:Expr}{t:TE}(h:iv_)(he:iw!:=by intro _;rfl):PT X e (tB t):=by intro h1 s Z H Q I hw;refine isTrue_plain (dL ml! λv s1 ⟨x,H1,I1,r1,q1⟩=>?_) (he _);obtain⟨d,rfl,q⟩:=q1;cases r1;exact JM ⟨H1,I1,q⟩
variable{tA vy:TT}{rest:List Expr}
def EN(t u:TT):TT:=λZ H Q=>t Z H λc H1=>if c=true then u Z H1 Q else Q false H1
def GR(t u:TT):TT:=λZ H Q=>t Z H λc H1=>if c=true then Q true H1 else u Z H1 Q
def EH(t:TT):TT:=λZ H Q=>t Z H λc H1=>Q (!c) H1
def b3n(ha:gh!):PW X mm! tA:=by
 intro wh h1 s Z H Q I h;refine isTrue_and rW!;cases c with
 |true=>exact isTrue_and_nil e
 |false=>exact e
def b8y(ha:gh!):PW X mm_ tA:=by
 intro wh h1 s Z H Q I h;refine isTrue_or rW!;cases c with
 |false=>exact isTrue_or_nil e
 |true=>exact e
def b8z(ha:gh!)(hb:PW X eP! vy):PW X eP_ (EN tA vy):=by
 intro wh h1 s Z H Q I h;refine isTrue_and rW_;cases c with
 |true=>exact hb wh h1 s1 Z H1 Q I1 q1
 |false=>exact rX!
def c7g(ha:gh!)(hb:PW X eQ! vy):PW X eQ_ (GR tA vy):=by
 intro wh h1 s Z H Q I h;refine isTrue_or rW_;cases c with
 |true=>exact rX!
 |false=>exact hb wh h1 s1 Z H1 Q I1 q1
def b9g(ha:gh!):PT X eR_ (EH tA):=by intro h1 s Z H Q I h;exact isTrue_not (dL (ha h1 s Z H (λc H1=>Q (!c) H1) I h) λ_ _ ⟨H2,I2,q⟩=>⟨H2,I2,q⟩)
def BQ(ta tb:TE):TE:=λZ H Q=>ta Z H λx H1=>∃c,x=.bl c/\if c=true then tb Z H1 Q else Q Q! H1
def EG(ta tb:TE):TE:=λZ H Q=>ta Z H λx H1=>∃c,x=.bl c/\if c=true then Q z_ H1 else tb Z H1 Q
def BL(ta:TE):TE:=λZ H Q=>ta Z H λx H1=>∃c,x=.bl c/\Q (.bl (!c)) H1
def b9x {op}{t:TE}(h:PE X a t):PE X mn_ t:=λh1 s Z H Q I hw=>BoolOp_one rX_
def c0d(ha:a2_)(hb:PE X eP! tb):PE X eP_ (BQ ta tb):=by
 intro h1 s Z H Q I h;refine BoolOp_and mo_;obtain⟨c,rfl,q1⟩:=q1;cases r1;refine JM ?_;cases c with
 |true=>exact hb h1 s1 Z H1 Q I1 q1
 |false=>exact⟨mp_,H1,I1,rfl,q1⟩
def c7k(ha:a2_)(hb:PE X eQ! tb):PE X eQ_ (EG ta tb):=by
 intro h1 s Z H Q I h;refine BoolOp_or mo_;obtain⟨c,rfl,q1⟩:=q1;cases r1;refine JM ?_;cases c with
 |false=>exact hb h1 s1 Z H1 Q I1 q1
 |true=>exact⟨gi!,H1,I1,rfl,q1⟩
def b9y(ha:a2_):PE X eR_ (BL ta):=by intro h1 s Z H Q I h;refine UnaryOp_ mo_;obtain⟨c,rfl,q1⟩:=q1;cases r1;exact not_of (JM ⟨.bl (!c),H1,I1,rfl,q1⟩)
def GS(t:TT)(ta tb:TE):TE:=λZ H Q=>t Z H λc H1=>if c=true then ta Z H1 Q else tb Z H1 Q
def a7d{c:Expr}(hc:PT X c tA)(ha:a2_)(hb:cs!):PE X mq! (GS tA ta tb):=by
 intro h1 s Z H Q I h;refine wpAny_IfExp rY_;cases d with
 |true=>exact ha h1 s1 Z H1 Q I1 q1
 |false=>exact hb h1 s1 Z H1 Q I1 q1
end
end L2
namespace L2
open PySem PySem.Spec PyProof.Rows
def Fx(K:yQ!)(H:Hp)(a:xT!)(xs:n!):Prop:=
 Rd H a T!\/
  ∃(o:Obj) (its:ae_) (n:Nat),K.lookup a=some o/\o.cls=.type "list"/\o.dict=none/\o.data=.seq its n/\its.size<=sizeLine/\Bc xs iy!
def Ge(K:yQ!)(H:Hp)(a:xT!)(xs:n!):Prop:=
 Rd H a bH_\/
  ∃(o:Obj) (its:ae_) (n:Nat),K.lookup a=some o/\o.cls=.type "tuple"/\o.data=.seq its n/\its.size<=sizeLine/\Bc xs iy!
def FC:Value->Option V
 |.none=>some .non
 |.bool b=>some bK!
 |.int i _=>some bw_
 |.str x _=>some dK_
 |.bytes b _=>some (.byt b)
 |.float b _=>some (.flt b)
 |.ref a=>some af_
 |.type n=>some (.ty n)
 |_=>none
def Bu.abs{x:V}{u:yB!}(r:Bu x u):FC u=some x:=by
 cases x with
 |non=>cases r;rfl
 |bl _=>cases r;rfl
 |int _=>obtain⟨t,rfl⟩:=r;rfl
 |str _=>obtain⟨t,rfl⟩:=r;rfl
 |byt _=>obtain⟨t,rfl⟩:=r;rfl
 |flt _=>obtain⟨t,rfl⟩:=r;rfl
 |ref _=>cases r;rfl
 |ty _=>cases r;rfl
def Bu.inj{x y:V}{u:yB!}(r:Bu x u)(q:Bu y u):x=y:=JJ (r.abs.symm.trans q.abs)
def Bc.inj:∀{xs ys:n!} {us:i_},Bc xs us->Bc ys us->xs=ys
 |_,_,_,.nil,.nil=>rfl
 |_,_,_,.cons r t,.cons r' t'=>by rw[r.inj r',Bc.inj t t']
section
variable{X:Cx}{h1:List (Addr×Obj)}{Z:St}{H:Hp}{s:yP!}{a:xT!}{xs ys:List V}
def Fx.of{K:yQ!}(h:H a=some T!):Fx K H a xs:=.inl iy_
def Ge.of{K:yQ!}(h:H a=some bH_):Ge K H a xs:=.inl iy_
def Inv.list(I:d_)(h:Fx X.K H a xs):∃its:List Value,Bc xs its/\PlainL s.heap a bg_/\l_<=sizeLine:=by
 obtain h|⟨o,its,n,hk,hc,hd,hs,hz,r⟩:=h
 .obtain⟨z,its,n,r,e⟩:=h.ok I.hok;exact⟨its,r,⟨_,n,e,rfl,rfl,rfl⟩,z⟩
 .refine⟨iy!,r,⟨o,n,I.kIn a o hk,hc,hd,r0!⟩,?_⟩;have e:=aX!;simp only[JU]at e;omega
def Inv.tuple(I:d_)(h:Ge X.K H a xs):∃its:List Value,Bc xs its/\IsTup s.heap a bg_/\l_<=sizeLine:=by
 obtain h|⟨o,its,n,hk,hc,hs,hz,r⟩:=h
 .obtain⟨z,its,r,p⟩:=h.ok I.hok;exact⟨its,r,p,z⟩
 .refine⟨iy!,r,⟨o,I.kIn a o hk,hc,n,r0!⟩,?_⟩;have e:=aX!;simp only[JU]at e;omega
def Inv.list_inj(I:d_)(h:Fx X.K H a xs)(h':Fx X.K H a ys):xs=ys:=by
 obtain⟨its,r,⟨o,n,e,_,_,d⟩,_⟩:=I.list h;obtain⟨its',r',⟨o',n',e',_,_,d'⟩,_⟩:=I.list h';rw[e]at e';cases e';rw[d]at d';injection d' with d1 _
 have:its=its':=by simpa using congrArg Array.toList d1
 subst this;exact r.inj r'
def Inv.tuple_inj(I:d_)(h:Ge X.K H a xs)(h':Ge X.K H a ys):xs=ys:=by
 obtain⟨its,r,⟨o,e,_,n,d⟩,_⟩:=I.tuple h;obtain⟨its',r',⟨o',e',_,n',d'⟩,_⟩:=I.tuple h';rw[e]at e';cases e';rw[d]at d';injection d' with d1 _
 have:its=its':=by simpa using congrArg Array.toList d1
 subst this;exact r.inj r'
end
abbrev Cx.wish(X:Cx)(E:q_):Cx:={X with xe:=E}
abbrev Cx.nox(X:Cx):Cx:=X.wish λ_ _=>False
def Cx.Ok.wish{X:Cx}(ok:X.Ok)(E:q_):(gj_).Ok:=
 r0_
def Cx.Ok.unwish{X:Cx}{E:q_}(ok:(gj_).Ok):X.Ok:=
 r0_
section
variable{X:Cx}{h1:List (Addr×Obj)}{Z:St}{H:Hp}{s:yP!}{E:Value->Shared->Prop}
def Inv.wish(I:d_)(E:q_):Inv gj_ h1 Z H s:=⟨I.ok.wish E,I.os,I.bare,I.base,I.loc,I.cell,I.free,I.freeC,I.pin,I.hok,I.len⟩
def Inv.unwish(I:Inv gj_ h1 Z H s):Inv X h1 Z H s:=⟨I.ok.unwish,I.os,I.bare,I.base,I.loc,I.cell,I.free,I.freeC,I.pin,I.hok,I.len⟩
def SP.unwish{D:Vm}{f:Flow}{s':yP!}(h:SP gj_ h1 D f s'):SP X h1 D f s':=by
 cases f with
 |next=>obtain⟨σ,H',I,q⟩:=h;exact mq_
 |brk=>obtain⟨σ,H',I,q⟩:=h;exact mq_
 |cont=>obtain⟨σ,H',I,q⟩:=h;exact mq_
 |ret u=>obtain⟨v,σ,H',I,r,q⟩:=h;exact⟨v,σ,H',I.unwish,r,q⟩
def Uo.nox{st:b2!}{t:TS}(h:Uo X.nox st t):Uo X st t:=λh1 s Z H D I hw=>
 KJ (h h1 s Z H D (I.wish _) hw) (λ_ _ q=>q.unwish) λ_ _ z=>False.elim z
end
section
variable{X:Cx}{st:Stmt}{rest:List Stmt}{t u:TS}{e:Expr}{te:TE}{pos:Pos}
def BM:TS:=λD Z H=>D.nx Z H
def EE(t u:TS):TS:=λD Z H=>t {D with nx:=u D} Z H
def b3q:Uo X [] BM:=λ_ _ Z H _ I h=>QY ⟨Z,H,I,h⟩
def a6z(Y:iz_)(L:Uo X rest u):Uo X mr! (EE t u):=by
 intro h1 s Z H D I h;refine wpAny_execs_cons (dL (Y h1 s Z H {D with nx:=u D} I h) λf s1 q=>?_);cases f with
 |next=>
  obtain⟨σ,H',I',q⟩:=q;exact L h1 s1 σ H' D I' q
 |ret v=>exact q
 |brk=>exact q
 |cont=>exact q
def b3p(Y:iz_):Uo X [st] t:=by
 intro h1 s Z H D I h;refine wpAny_execs_cons (dL (Y h1 s Z H D I h) λf s1 q=>?_);cases f with
 |next=>exact QY q
 |ret v=>exact q
 |brk=>exact q
 |cont=>exact q
def Inv.quiet{h1:o!}{Z:St}{H:Hp}{s:yP!}(I:d_):interactive X.env=false:=by simp[interactive,I.ok.kind]
def BN(te:TE):TS:=λD Z H=>te Z H λ_ H1=>D.nx Z H1
def vQ(he:cv!)(hs:r4!:=by rfl):PS X (.Expr e pos) (BN te):=by intro h1 s Z H D I h;exact wpAny_Expr_any (dL c5_ λv s1 ⟨x,H1,I1,r1,q1⟩=>⟨Z,H1,I1,q1⟩) I.quiet hs
def EF(te:TE):TS:=λD Z H=>te Z H D.rt
def b9j(he:cv!):PS X mr_ (EF te):=by intro h1 s Z H D I h;exact wpAny_Return_some (dL c5_ λv s1 ⟨x,H1,I1,r1,q1⟩=>⟨x,Z,H1,I1,r1,q1⟩)
def BJ:TS:=λD _ H=>D.rt .non H
def c4q:PS X r5_ BJ:=λ_ _ Z H _ I h=>wpAny_Return_none ⟨.non,Z,H,I,rfl,h⟩
def EJ(c:TT)(t u:TS):TS:=λD Z H=>c Z H λb H1=>if b=true then t D Z H1 else u D Z H1
def c7j{c:Expr}{a b:b2!}{tc:TT}(hc:PT X c tc)(ha:Uo X a t)(hb:Uo X b u):PS X (.If c a b pos) (EJ tc t u):=by
 intro h1 s Z H D I h;refine wpAny_If rY_;cases d with
 |true=>exact ha h1 s1 Z H1 D I1 q1
 |false=>exact hb h1 s1 Z H1 D I1 q1
end
abbrev TG:=V->St->Hp->r6_->Prop
abbrev AW:=List V->St->Hp->r6_->Prop
def PG(X:Cx)(vz:Expr)(t:TG):Prop:=
 ∀(h1:o!) (s:yP!) (Z:St) (H:Hp) (v:V) (u:yB!) (Q:iA_),Inv X h1 Z H s->Bu v u->t v Z H Q->
  wpAny e_ X.A (assign vz X.env u) r7! X.xe s
def DV(X:Cx)(ts:bJ_)(t:AW):Prop:=
 ∀(h1:o!) (s:yP!) (Z:St) (H:Hp) (vs:n!) (us:i_) (Q:iA_),Inv X h1 Z H s->Bc vs us->t vs Z H Q->
  wpAny e_ X.A (assignInOrder ((assignEach ts X.env).map A_) us) r7! X.xe s
abbrev Zb:=V->V->V->Hp->ms_->Prop
def Wm(X:Cx)(t:Zb):Prop:=
 ∀(h1:o!) (s:yP!) (Z:St) (H:Hp) (o i v:V) (ov iv u:yB!) (Q:Hp->Prop),Inv X h1 Z H s->Bu o ov->Bu i iv->Bu v u->t o i v H Q->
  wpAny e_ X.A (setItem ov iv u) (λ_ s'=>∃H',Inv X h1 Z H' s'/\Q H') X.xe s
abbrev DQ:=V->V->Hp->VK->Prop
def GG(X:Cx)(op:Operator)(t:DQ):Prop:=
 ∀(h1:o!) (s:yP!) (Z:St) (H:Hp) (x y:V) (v u:yB!) (Q:VK),Inv X h1 Z H s->Bu x v->Bu y u->t x y H Q->
  wpAny e_ X.A (inplaceOp op v u) aL_ X.xe s
section
variable{X:Cx}{pos:Pos}
def Oo(i:Nat):TG:=λv Z H Q=>Q eM! H
def aZ{i:Nat}{x:Str}(hN:bv!)(hi:ak!)(J:bv_)(hf:X.fn x=true\/X.env.scope.names.lookup x=some .local:=by first|exact .inl rfl|exact .inr rfl|assumption):PG X ct_ eT!:=by intro h1 s Z H v u Q I r h;exact wpAny_assign_Name (wJ I hN hi J r (λs' I'=>⟨_,H,I',h⟩) hf)
def AT:AW:=λvs Z H Q=>vs=[]/\Q Z H
def Uk(t:TG)(u:AW):AW:=λvs Z H Q=>∃v r,vs=v::r/\t v Z H λσ H'=>u r σ H' Q
def b3v:DV X [] AT:=by intro h1 s Z H vs us Q I r h;obtain⟨e,h⟩:=h;subst e;cases r;exact assignInOrder_nil ⟨Z,H,I,h⟩
def qE{e:Expr}{es:bJ_}{t:TG}{u:AW}(Y:PG X e t)(L:DV X es u)
  (hs:(assignEach aN_ X.env).map A_=assign e X.env::(mt!).map A_:=by rfl):DV X aN_ (Uk t u):=by
 intro h1 s Z H vs us Q I r h;obtain⟨v,vr,e1,h⟩:=h;subst e1;cases r with
 |cons r rr=>
  rw[hs];refine assignInOrder_cons (dL (Y h1 s Z H _ _ _ I r h) λ_ s1 ⟨dw,H1,I1,q1⟩=>?_);exact L h1 s1 dw H1 _ _ Q I1 rr q1
def AS(K:yQ!)(n:Nat)(t:AW):TG:=λv Z H Q=>∃a xs,v=.ref a/\Ge K H a xs/\l_=n/\t xs Z H Q
def b9q{es:bJ_}{k:Nat}{t:AW}{n:Nat}(hc:a4!)(h:DV X es t)
  (hn:(mt!).length=n:=by rfl)(b8:(mt!).findIdx? c_=none:=by rfl):PG X (.Tuple es k pos) (AS X.K n t):=by
 intro h1 s Z H v u Q I r hw;obtain⟨a,xs,e1,hq,hl,hw⟩:=hw;subst e1;cases r;obtain⟨its,rv,ht,hz⟩:=I.tuple hq;refine assign_Tuple_tuple bK_ ht (by simp[hn,<-hl,rv.length]) b8 λh' J=>?_;have I1:Inv X h1 Z H {s with heap:=h'}:=I.kept (t':=s.toks) λb o e=>J b o (JG cY!) e;exact h h1 _ Z H xs _ Q I1 (by simpa using rv) hw
def FA(to ti:TE)(t:Zb):TG:=λv Z H Q=>to Z H λo H1=>ti Z H1 λi H2=>t o i v H2 λH3=>Q Z H3
def b9r{o:Expr}{to ti:TE}{t:Zb}(ho:PE X o to)(hi:PE X i ti)(hs:Wm X t)
  (ha:∀v,assign r8_ X.env v=(do
   let ov <-holding [v] dP_
   let iv <-holding [v,ov] r9!
   standAt pos
   holding eT_ mv!
   release eT_ []):=by intro _;rfl):PG X r8_ (FA to ti t):=by
 intro h1 s Z H v u Q I r h;rw[ha];refine HI (JN (dL sa! λov s1 ⟨x,H1,I1,r1,q1⟩=>?_));refine HI (JN (dL (hi h1 s1 Z H1 _ I1 q1) λiv s2 ⟨y,H2,I2,r2,q2⟩=>?_));refine HI (QM (HI (JN (dL (hs h1 s2 Z H2 x y v ov iv u _ I2 r1 r2 r q2) λ_ s3 ⟨H3,I3,q3⟩=>?_))));exact wpAny_release ⟨Z,H3,I3,q3⟩
def AA(te:TE)(g:TG):TS:=λD Z H=>te Z H λx H1=>g x Z H1 D.nx
def b9l{tg e:Expr}{te:TE}{g:TG}(he:cv!)(hg:mw!)(hs:swapsWithSole [tg] e pos.line X.env=pure false:=by rfl)(hw:swappedStores [tg] e X.env=pure none:=by rfl)
  (Y:(assignEach [tg] X.env).map A_=[assign tg X.env]:=by rfl):PS X (.Assign [tg] e pos) (AA te g):=by
 intro h1 s Z H D I h;refine wpAny_Assign_stores sc! hs hw;rw[Y];exact dL (hg h1 s1 Z H1 x v _ I1 r1 q1) λ_ s2 q=>q
def b0y{i:Nat}{x:Str}{e:Expr}{te:TE}{io:Pos}(hN:bv!)(hi:ak!)(J:bv_)(he:cv!)(hs:swapsWith e (some iD!) pos.line X.env=pure false:=by rfl)(hf:X.fn x=true\/X.env.scope.names.lookup x=some .local:=by first|exact .inl rfl|exact .inr rfl|assumption):
  PS X (.Assign [.Name x io] e pos) (AA te eT!):=by
 intro h1 s Z H D I h;refine wpAny_Assign_Name (dL c5_ λv s1 ⟨y,H1,I1,r1,q1⟩=>?_) hs;exact wJ I1 hN hi J r1 (λs2 I2=>⟨_,H1,I2,q1⟩) hf
def EM(i:Nat)(te:TE)(ti:DQ):TS:=λD Z H=>∃x,Z[i]?=some eU!/\te Z H λy H1=>ti x y H1 λz H2=>D.nx (Z.set i (some z)) H2
def c8s{i:Nat}{x:Str}{e:Expr}{te:TE}{op:Operator}{ti:DQ}{io:Pos}(hN:bv!)(hi:ak!)(J:bv_)(he:cv!)(ho:GG X op ti)(hf:X.fn x=true\/X.env.scope.names.lookup x=some .local:=by first|exact .inl rfl|exact .inr rfl|assumption):
  PS X (.AugAssign iD! op e pos) (EM i te ti):=by
 intro h1 s Z H D I h;obtain⟨v,e1,h⟩:=h;obtain⟨m,hn,hl⟩:=I.loc;have YL:Wt X.env.scope x:=by obtain k|k:=J;exact .inl k;exact .inr (.inl k)
 obtain⟨u,r,l⟩:=hl i x v hi e1 YL;refine wpAny_AugAssign_Name ?_;have go:wpAny e_ X.A eN_ (λw ao=>wpAny e_ X.A (inplaceOp op u w) (λr dz=>wpAny e_ X.A (storeName X.env x r) (λ_=>SP X h1 D .next) X.xe dz) X.xe ao) X.xe s:=by
  refine dL c5_ λw s1 ⟨y,H1,I1,r1,q1⟩=>?_;refine dL (ho h1 s1 Z H1 v y u w _ I1 r r1 q1) λz s2 ⟨zv,H2,I2,r2,q2⟩=>?_;exact wJ I2 hN hi J r2 (λs3 I3=>⟨_,H2,I3,q2⟩) hf
 obtain⟨hk,hm⟩|⟨hk,c,hc,cg⟩:=l
 .exact wpAny_loadName_local I.ok.kind hk hn hm go
 .obtain hk|hk:=hk
  .exact wpAny_loadName_cell I.ok.kind hk hc cg go
  .obtain k|k:=J
   .show"!j"
   .show"!j"
def GV(f:mx!):DQ:=λx y H Q=>∃i j,x=.int i/\y=.int j/\Q (.int (f i j)) H
def d0b:GG X .Add (GV λi j=>i+j):=by intro h1 s Z H x y v u Q I r1 r2 h;obtain⟨i,j,e1,e2,q⟩:=h;subst e1;subst e2;obtain⟨t,rfl⟩:=r1;obtain⟨t',rfl⟩:=r2;exact iadd_int iE!
def Zy(c:TT)(tb:TS):TS:=λD Z H=>∃W:Nat->St->Hp->Prop,(∃m,W m Z H)/\∀m Z H,W m Z H->
 c Z H λb H1=>if b=true then∃N:St->Hp->Prop,(∀σ H',N σ H'->∃m',m'<m/\W m' σ H')/\tb {D with nx:=N,ct:=N,bk:=D.nx} Z H1 else D.nx Z H1
def b9i{c:Expr}{body:b2!}{tc:TT}{tb:TS}(hp:gm_)(hc:PT X c tc)(hb:Uo X body tb):PS X se_ (Zy tc tb):=by
 intro h1 s Z H D I h;obtain⟨W,⟨m0,w0⟩,turn⟩:=h;refine wpAny_While (codeAny_whileLoop (λn s'=>∃σ H',Inv X h1 σ H' s'/\W n σ H') ?_ m0 ⟨Z,H,I,w0⟩);rintro n s1 ⟨dw,H1,I1,w1⟩;refine NQ hp (dL (hc h1 s1 dw H1 _ I1 (turn n dw H1 w1)) λb s2 ⟨H2,I2,q2⟩=>?_);cases b with
 |true=>
  obtain⟨N,hN,q2⟩:=q2;rw[n_];refine NQ hp (dL (hb h1 s2 dw H2 _ I2 q2) λf s3 q3=>?_);cases f with
  |next=>
   show"!c"
  |cont=>
   show"!c"
  |brk=>exact q3
  |ret v=>exact q3
 |false=>
  rw[HQ IN];exact QY ⟨dw,H2,I2,q2⟩
end
structure It where
 go:Nat->Hp->Prop
 yld:Nat->Hp->V->Hp->Prop
 stop:Nat->Hp->Prop
def Jg(X:Cx)(h1:o!)(H:Hp)(b:xT!):Prop:=
 H b=none/\b≠X.env.locals/\b∉X.fs/\il_/\im!/\∀p∈X.pn++h1,p.1≠b
def Inv.fpOk{X:Cx}{h1:o!}{Z:St}{H H':Hp}{s:yP!}{b:xT!}(I:d_)(hb:o_<=b)(hn:H' b=none):Jg X h1 H' b:=by
 refine⟨hn,MU (IT I.lt hb),I.nofs hb,.inr (JB I.sz hb),λx c e z=>?_,λp hp z=>?_⟩
 .obtain⟨v,q⟩:=I.cell x c e;exact absurd (IT q.lt sf_) dH_
 .exact absurd (IT sg_ sf_) dH_
structure Tk(P:yO!)(w:yC!)(K:yQ!)(tg:Expr)(af:It)(fp:aw!)(it:xT!)(tn:dR!):Prop where
 mem:it∈fp
 obj:∀i h,tn i h->∀b∈fp,∃o,h.get? b=some o/\∀v,o.data≠.cell v
 keep:∀i h h',tn i h->(∀b∈fp,∀o,h.get? b=some o->h'.get? b=some o)->tn i h'
 item:∀(X:Cx),X.prog=P->X.w=w->X.K=K->X.calm=true->∀(i:Nat) (h1:o!) (s:yP!) (Z:St) (H:Hp) (E:q_),Inv X h1 Z H s->si!->tn i s.heap->af.go i H->
  wpAny G_ X.A iF_ (λr s1=>∃u,r=some u/\
   wpAny G_ X.A sh_ (λ_ s2=>∃x H',Inv X h1 Z H' s2/\Bu x u/\af.yld i H x H'/\tn a5! s2.heap/\∀b∈fp,H' b=none) E s1) E s
 done:∀(X:Cx),X.prog=P->X.w=w->X.K=K->X.calm=true->∀(i:Nat) (h1:o!) (s:yP!) (Z:St) (H:Hp) (E:q_),Inv X h1 Z H s->si!->tn i s.heap->af.stop i H->
  wpAny G_ X.A iF_ (λr s1=>r=none/\Inv X h1 Z H s1) E s
 self:∀(A:yn!) (i:Nat) (s:yP!) (Q:q_) (E:q_),tn i s.heap->Q b4_ s->wpAny G_ A (pyIter b4_) Q E s
abbrev TI:=St->Hp->(It->Hp->Prop)->Prop
def DU(X:Cx)(h1:o!)(Z:St)(tg:Expr)(R:gn!)(v0:yB!)(s2:yP!):Prop:=
 ∃(it:xT!) (fp:aw!) (tn:dR!) (af:It) (H':Hp),v0=.ref it/\Inv X h1 Z H' s2/\Tk X.prog X.w X.K tg af fp it tn/\tn 0 s2.heap/\(∀b∈fp,Jg X h1 H' b)/\R af H'
def PI(X:Cx)(tg iter:Expr)(wi:TI):Prop:=
 ∀(h1:o!) (s:yP!) (Z:St) (H:Hp) (R:gn!),Inv X h1 Z H s->wi Z H R->
  wpAny e_ X.A (eval iter X.env) (λv s1=>wpAny e_ X.A (pyIter v) si_ X.xe s1) X.xe s
def c2b{M:Model}{A:yn!}{E:q_}{s:yP!}{tg:Expr}{u:yB!}{o:Obj}{n:String}{vs:ae_}{Q:cZ!}(ho:s.heap.get? it=some o)(hc:o.cls=.type n)(hd:o.data=.fields vs)
  (hn:(sj!).contains n=false)(hQ:Q () s):wpAny M A sh_ Q E s:=by
 unfold letOwnedTupleGo;cases tg<;>first
  |exact HK hQ
  |(cases u<;>first
    |exact HK hQ
    |(refine HI (wpAny_load ho ?_);rw[hc,hd];show wpAny M A (if((sj!).contains n&&vs[0]?==some (rawInt _))=true then _ else _) Q E s;rw[HQ (by intro h;rw[hn,Bool.false_and]at h;cases h)];exact HK hQ))
def FL(K:yQ!)(a:xT!):It:=
 ⟨λi H=>∃xs x,Fx K H a xs/\xs[i]?=some x,λi H x H'=>H'=H/\∀xs,Fx K H a xs->xs[i]?=some x,λi H=>∃xs,Fx K H a xs/\l_<=i⟩
def HG(K:yQ!)(a:xT!):It:=
 ⟨λi H=>∃xs x,Ge K H a xs/\xs[i]?=some x,λi H x H'=>H'=H/\∀xs,Ge K H a xs->xs[i]?=some x,λi H=>∃xs,Ge K H a xs/\l_<=i⟩
def CV(lo:Int)(n:Nat):It:=⟨λi _=>i<n,λi H x H'=>H'=H/\x=.int (lo+i),λi _=>n<=i⟩
def b5r{P:yO!}{w:yC!}{K:yQ!}{tg:Expr}(a it:xT!):Tk P w K tg (FL K a) [it] it (λi h=>h.IsListIter it a i) where
 mem:=by simp
 obj:=λi h st b hb=>by
  have e:b=it:=by simpa using hb
  subst e;show"#!"
 keep:=λi h h' st k=>st.at λo e=>k it d! o e
 item:=by
  show"!/";obtain⟨xs,x,hq,J⟩:=hg;obtain⟨its,rv,p,hz⟩:=I.list hq;obtain⟨u,hu,ru⟩:=rv.get J;show"!2";refine wpAny_pyNext_list_item st p.isList (x:=u) sm! λh' h2 sb=>?_;have I1:Inv X h1 Z H {s with heap:=h'}:=I.turned (t':=s.toks) sm_ f0 f1 f3 f4 f5;obtain⟨o,e,c,d⟩:=id h2;exact⟨u,rfl,c2b (s:=mB_) e c d b_ ⟨x,H,I1,ru,⟨rfl,λys hy=>by rw[I.list_inj hy hq];exact J⟩,h2,mC_⟩⟩
 done:=by
  show"!/";obtain⟨xs,hq,J⟩:=hg;obtain⟨its,rv,p,hz⟩:=I.list hq;show"!2";have hl:=gp!;exact wpAny_pyNext_list_end bK_ st p.isList ab_ λh' eb=>mD!
 self:=λ_ _ _ _ _ st h=>wpAny_pyIter_listiter st h
def a9y{P:yO!}{w:yC!}{K:yQ!}{tg:Expr}(it:xT!)(lo:Int)(n:Nat):Tk P w K tg (CV lo n) [it] it (λi h=>IsRangeIter h it (lo+(i:Nat)*1) ((n:Int) - (i:Nat)) 1) where
 mem:=by simp
 obj:=λi h st b hb=>by
  have e:b=it:=by simpa using hb
  subst e;exact⟨_,st,λv z=>by
   have z':Data.fields _=Data.cell v:=z;cases z'⟩
 keep:=λi h h' st k=>k it d! _ st
 item:=by
  show"!/";show"!2";have W:=Walks.range (prog:=X.prog) (w:=X.w) bK_ it lo 1 n;refine W.item i s _ _ hg st λv h' tk hv h2 kk=>?_;obtain⟨t,rfl⟩:=hv;show"!]";refine⟨_,rfl,c2b (s:={s with heap:=h',toks:=tk}) (n:="range_iterator") h2 rfl rfl b_ ⟨.int (lo+i),H,I1,⟨t,?_⟩,bi_,h2,mC_⟩⟩;rw[Int.mul_one]
 done:=by
  show"!/";show"!2";exact wpAny_pyNext_range_end bK_ st (by have:n<=i:=hg;omega) λh' eb=>mD!
 self:=λ_ _ _ _ _ st h=>wpAny_pyIter_rangeiter st h
end L2
namespace L2
open PySem PySem.Spec PyProof.Rows
section
variable{X:Cx}{tg:Expr}
def CN(K:yQ!)(tl:TE):TI:=λZ H R=>tl Z H λx H1=>∃a,x=.ref a/\(∃xs,Fx K H1 a xs)/\R (FL K a) H1
def EZ(K:yQ!)(tl:TE):TI:=λZ H R=>tl Z H λx H1=>∃a,x=.ref a/\(∃xs,Ge K H1 a xs)/\R (HG K a) H1
def b3u{l:Expr}{tl:TE}(hl:PE X l tl):PI X tg l (CN X.K tl):=by
 intro h1 s Z H R I h;refine dL sr! λv s1 ⟨x,H1,I1,r1,q1⟩=>?_;obtain⟨a,e,⟨xs,hq⟩,q⟩:=q1;subst e;cases r1;obtain⟨its,rv,p,hz⟩:=I1.list hq;refine wpAny_pyIter_list p.isList ?_;refine⟨D!,[D!],_,_,H1,rfl,mE_,b5r a _,eV_,by_,q⟩;have e:b=D!:=by simpa using hb
 show"!n"
def a6x{h1:o!}{Z:St}{H:Hp}{s:yP!}{R:gn!}{E:q_}{lo hi:Int}{t u v:Tok}{tk:Nat}(I:d_)(Y:-gq_<=lo)(L:lo<2 ^ 62)(h3:-gq_<=hi)(h4:hi<2 ^ 62)
  (q:R (CV lo (mF!).toNat) H):wpAny e_ X.A (pyIter c6_) si_ E {s with heap:=s.heap.push {cls:=.type "range",data:=.fields #[.int lo t,.int hi u,.int 1 v]},toks:=tk}:=by
 refine wpAny_pyIter_range (IsRange.new ..) (small_one Y L h3 h4) ?_;have I1:Inv X h1 Z H {s with heap:=s.heap.push {cls:=.type "range",data:=.fields #[.int lo t,.int hi u,.int 1 v]},toks:=tk}:=I.kept λb o e=>HM _ e;refine⟨(mF_).objs.size,[(mF_).objs.size],_,_,H,rfl,
  I1.kept (t':=tk) λb o e=>HM _ e,a9y _ lo (mF!).toNat,?_,λb hb=>?_,q⟩
 .have e1:lo+iI_*1=lo:=by simp
  have e2:sr_ - iI_=Builtin.Range.rangeSize lo hi 1:=by rw[rangeSize_one];split<;>omega
  show IsRangeIter _ _ (lo+iI_*1) (sr_ - iI_) 1;rw[e1,e2];exact IP _ rfl
 .have e:b=(mF_).objs.size:=by simpa using hb
  show"!n"
def CM(ta:TA):TI:=λZ H R=>ta Z H λvs H1=>∃j:Int,vs=[dS!]/\-gq_<=j/\j<2 ^ 62/\R (CV 0 j.toNat) H1
def CL(ta:TA):TI:=λZ H R=>ta Z H λvs H1=>∃i j:Int,vs=[cu!,dS!]/\(-gq_<=i/\i<2 ^ 62/\-gq_<=j/\j<2 ^ 62)/\R (CV i (j - i).toNat) H1
def b6k{a:Expr}{ta:TA}{p pos:Pos}(hg:iJ_)(hm:iJ!)(ha:PA X [a] ta)(hs:st_:=by rfl):PI X tg su_ (CM ta):=by
 intro h1 s Z H R I h;refine Call_ (kS I hg hm boot_range (LM mI! hs rfl));obtain⟨j,e,q1,q2,q⟩:=q1;subst e;cases r1 with
 |cons r rr=>
  cases rr;obtain⟨t,rfl⟩:=r;exact call_range_1 (a6x I1 a! a! q1 q2 (by simpa using q))
def b6j{a b:Expr}{ta:TA}{p pos:Pos}(hg:iJ_)(hm:iJ!)(ha:PA X ap_ ta)(hs:sv_:=by rfl)(bq:sw!:=by rfl):
  PI X tg sw_ (CL ta):=by
 intro h1 s Z H R I h;refine Call_ (kS I hg hm boot_range (LM mI! (by rw[hs,bq]) (by rw[bq];rfl)));obtain⟨i,j,e,⟨q1,q2,q3,q4⟩,q⟩:=q1;subst e;cases r1 with
 |cons r rr=>
  cases rr with
  |cons r' rr=>
   cases rr;obtain⟨t,rfl⟩:=r;obtain⟨t',rfl⟩:=r';exact call_range_2 (a6x I1 q1 q2 q3 q4 q)
def EK(wi:TI)(g:TG)(tb:TS):TS:=λD Z H=>wi Z H λaf H1=>∃W:Nat->Nat->St->Hp->Prop,(∃m,W 0 m Z H1)/\∀i m Z H,W i m Z H->
 (af.stop i H/\D.nx Z H)\/(af.go i H/\∃N:St->Hp->Prop,(∀σ H',N σ H'->∃m',m'<m/\W a5! m' σ H')/\∀x H',af.yld i H x H'->g x Z H' λdb H2=>tb {D with nx:=N,ct:=N,bk:=D.nx} db H2)
def Ri(fp:aw!)(h:Heap):List eK_:=fp.filterMap λb=>(h.get? b).map λo=>(b,o)
def kQ{fp:aw!}{h:Heap}{b:xT!}{o:Obj}(hb:b∈fp)(e:rc!):(b,o)∈Ri fp h:=MN.mpr ⟨b,hb,by rw[e];rfl⟩
def b6y{fp:aw!}{h:Heap}{p:Addr×Obj}(hp:p∈Ri fp h):p.1∈fp/\h.get? p.1=some p.2:=by
 obtain⟨b,hb,e⟩:=MN.mp hp;cases q:h.get? b with
 |none=>rw[q]at e;cases e
 |some o=>
  rw[q]at e;have e':(b,o)=p:=JJ e;subst e';exact⟨hb,q⟩
def Inv.pinned{h1:o!}{Z:St}{H:Hp}{s:yP!}{fp:aw!}(I:d_)(hf:∀b∈fp,Jg X h1 H b)(ho:∀b∈fp,∃o,s.heap.get? b=some o/\∀v,o.data≠.cell v):Inv X (h1++Ri fp s.heap) Z H s:=
 I.pins_of λp hp=>(HV.mp hp).elim (λz=>I.pin p (HY _ z)) λz=>by
  obtain⟨hb,e⟩:=b6y z;obtain⟨f0,f1,f2,_⟩:=hf p.1 hb;obtain⟨o,e',d⟩:=ho p.1 hb;rw[e]at e';cases e';exact⟨e,f0,f1,f2,d⟩
def Inv.unpinned{h1 pl:o!}{Z:St}{H:Hp}{s:yP!}(I:Inv X (h1++pl) Z H s):Inv X h1 Z H s:=I.pins_of λp hp=>I.pin p (HY _ (IS _ hp))
def b9k{body:b2!}{wi:TI}{g:TG}{tb:TS}{pos:Pos}(hp:gm_)(hc:a4!)(hi:mJ_)(hg:mw!)(hb:Uo X body tb)
  (hs:c7!:=by intro _;rfl):PS X sz_ (EK wi g tb):=by
 intro h1 s Z H D I h;refine wpAny_For (dL (hi h1 s Z H _ I h) λv s1 Y=>dL Y λv0 s2 L=>?_) hs;obtain⟨it,fp,tn,af,H2,e,I2,T,bh,f2,W,⟨m0,w0⟩,turn⟩:=L;subst e;have m8:∀{H':Hp},gs!->∀b∈fp,Jg X h1 H' b:=λhn b hb=>⟨hn b hb,(iL!).2⟩;refine codeAny_forLoop_any (λn s'=>∃i σ H',Inv X h1 σ H' s'/\tn i s'.heap/\gs!/\W i n σ H') ?_ m0 ⟨0,Z,H2,I2,bh,sA_,w0⟩;rintro n s3 ⟨i,gq,H3,I3,v7,v8,w3⟩;obtain⟨stop,qn⟩|⟨go,N,hN,step⟩:=turn i n gq H3 w3
 .refine NQ hp (dL (T.done X rfl rfl rfl hc i h1 s3 gq H3 X.xe I3 (m8 v8) v7 stop) λr s4 ⟨hr,I4⟩=>?_);subst hr;exact QY ⟨gq,H3,I4,qn⟩
 .refine NQ hp (dL (T.item X rfl rfl rfl hc i h1 s3 gq H3 X.xe I3 (m8 v8) v7 go) λr s4 ⟨u,hr,h4⟩=>?_);subst hr;refine NQ hp (dL h4 λ_ s5 ⟨x,H5,I5,r5,y5,m9,yn⟩=>?_);have yo:=I5.pinned (m8 yn) sB!;refine NQ hp (dL (hg _ s5 gq H5 x u _ yo r5 sB_) λ_ s6 ⟨li,H6,I6,q6⟩=>?_);refine NQ hp (dL (hb _ s6 li H6 _ I6 q6) λf s7 q7=>?_);have again:∀{iw:St} {H7:Hp},Inv X (h1++Ri fp s5.heap) iw H7 s7->N iw H7->∃m,m<n/\∃i σ H',Inv X h1 σ H' s7/\tn i s7.heap/\gs!/\W i m σ H':=λ{iw H7} I7 n7=>by
   obtain⟨m',hm,w7⟩:=hN iw H7 n7;refine⟨m',hm,i+1,iw,H7,iM!,T.keep _ _ _ m9 λb hb o e=>(sC_).1,by_,w7⟩;obtain⟨o,e,d⟩:=T.obj _ _ m9 b hb;exact(sC_).2.1
  cases f with
  |next=>obtain⟨iw,H7,I7,n7⟩:=q7;exact again I7 n7
  |cont=>obtain⟨iw,H7,I7,n7⟩:=q7;exact again I7 n7
  |brk=>obtain⟨iw,H7,I7,q7⟩:=q7;exact⟨iw,H7,iM!,q7⟩
  |ret v=>obtain⟨x7,iw,H7,I7,r7,q7⟩:=q7;exact⟨x7,iw,H7,iM!,r7,q7⟩
end
end L2
namespace L2
open PySem PySem.Spec PyProof.Rows
abbrev R2:=V->V->Hp->VK->Prop
def Gw(X:Cx)(f:eY!)(r:R2):Prop:=
 ∀(h1:o!) (s:yP!) (Z:St) (H:Hp) (x y:V) (v u:yB!) (Q:VK),Inv X h1 Z H s->Bu x v->Bu y u->r x y H Q->
  wpAny e_ X.A (f v u) aL_ X.xe s
def FF(X:Cx)(f:sE_)(r:mL_):Prop:=
 ∀(h1:o!) (s:yP!) (Z:St) (H:Hp) (x:V) (v:yB!) (Q:VK),Inv X h1 Z H s->Bu x v->r x H Q->
  wpAny e_ X.A (f v) aL_ X.xe s
def Kg(X:Cx)(f:yB!)(r:dT_):Prop:=
 ∀(h1:o!) (s:yP!) (Z:St) (H:Hp) (xs:n!) (us:i_) (Q:VK),Inv X h1 Z H s->Bc xs us->r xs H Q->
  wpAny e_ X.A (call f us) aL_ X.xe s
def FG(X:Cx)(r:V->Hp->rH_->Prop):Prop:=
 ∀(h1:o!) (s:yP!) (Z:St) (H:Hp) (x:V) (v:yB!) (Q:dK!),Inv X h1 Z H s->Bu x v->r x H Q->
  wpAny e_ X.A ml_ it_ X.xe s
def BD(r:R2)(ta tb:TE):TE:=λZ H Q=>ta Z H λx H1=>tb Z H1 λy H2=>r x y H2 Q
def GP(r:mL_)(ta:TE):TE:=λZ H Q=>ta Z H λx H1=>r x H1 Q
nonrec def rI(C:mM!)(g:iM_):R2:=λx y H Q=>∃i j,x=.int i/\y=.int j/\C i j/\Q bz_ H
def Sw(g:iM_):R2:=λx y H Q=>∃i j,x=.int i/\y=.int j/\Q bz_ H
nonrec def rU(g:Int->V):V->Hp->VK->Prop:=λx H Q=>∃i,x=.int i/\Q (g i) H
section
variable{X:Cx}{a b c:Expr}{ta tb tc:TE}{pos:Pos}
def d1f(ha:a2_)(hb:cs!){h1:o!}{s:yP!}{Z:St}{H:Hp}{R:vP!}(I:d_)
  (h:rK!){Q:q_}{f:eY!}
  (hf:rK_):
  wpAny e_ X.A me! rM! X.xe s:=by
 show"!8"
def b9w{op:Operator}{r:R2}(ho:mM_)(ha:a2_)(hb:cs!):PE X mN! iN!:=by intro h1 s Z H Q I h;exact wpAny_BinOp sF!
def d2m{op:UnaryOp}{r:mL_}(ho:FF X (unaryOp op) r)(ha:a2_):PE X (.UnaryOp op a pos) (GP r ta):=by intro h1 s Z H Q I h;exact UnaryOp_ (dL b2_ λv s1 ⟨x,H1,I1,r1,q1⟩=>ho h1 s1 Z H1 x v Q I1 r1 q1)
def opI{f:eY!}{C:mM!}{g:mx!}
  (rule:∀(i j:Int) (t u:Tok) (s:yP!) (Q:q_) (E:q_),C i j->Q sF_ {s with toks:=s.toks+1}->wpAny e_ X.A mO! Q E s):
  Gw X f (rI C λi j=>.int bz_):=by
 intro h1 s Z H x y v u Q I rx ry h;obtain⟨i,j,rfl,rfl,hc,q⟩:=h;show"!@";obtain⟨t',rfl⟩:=ry;exact rule i j t t' s _ _ hc sG_
def d2r{f:eY!}{g:mx!}
  (rule:∀(i j:Int) (t u:Tok) (s:yP!) (Q:q_) (E:q_),Q sF_ {s with toks:=s.toks+1}->wpAny e_ X.A mO! Q E s):
  Gw X f (Sw λi j=>.int bz_):=by
 show"!H";exact rule i j t t' s _ _ sG_
def c5e{f:eY!}{g:mO_}
  (rule:∀(i j:Int) (t u:Tok) (s:yP!) (Q:q_) (E:q_),Q (.bool bz_) s->wpAny e_ X.A mO! Q E s):
  Gw X f (Sw λi j=>.bl bz_):=by
 show"!H";exact rule i j t t' s _ _ ⟨.bl bz_,H,I,rfl,q⟩
def BB(i j:Int):Prop:=0<j/\j<1073741824
def BA(i j:Int):Prop:=0<=j/\j<=1000000/\gu_<2 ^ 64
def Xx(i j:Int):Prop:=(-iO_<i/\i<2 ^ 64)\/(-iO_<j/\j<2 ^ 64)
def Xx.ok{i j:Int}(h:Xx i j):IntMulOk i j:=by
 obtain⟨Y,L⟩|⟨Y,L⟩:=h
 .exact .of_left sH!
 .exact .of_right sH!
def c9f:Gw X eZ_ (Sw λi j=>.int (i+j)):=d2r λ_ _ _ _ _ _ _ q=>add_int q
def sN:Gw X (binaryOp .Sub) sI!:=d2r λ_ _ _ _ _ _ _ q=>sub_int q
def sO:Gw X sI_ mP!:=opI λ_ _ _ _ _ _ _ hc q=>mul_int q hc.ok
def nU:Gw X (binaryOp .FloorDiv) mQ!:=opI λi j _ _ _ _ _ hc q=>by
 have Y:(0:Int)<j:=hc.1;have L:j<1073741824:=hc.2;exact floordiv_int a! (by rw[Int.fdiv_eq_ediv_of_nonneg i a!];exact q) (.inl (PyProof.noPylong_small a!))
def eP:Gw X (binaryOp .Mod) mQ_:=opI λi j _ _ _ _ _ hc q=>by
 have Y:(0:Int)<j:=hc;exact mod_int' a! (by rw[Int.fmod_eq_emod_of_nonneg i a!];exact q)
def c9b:Gw X (binaryOp .Pow) mR_:=opI λ_ _ _ _ _ _ _ hc q=>pow_int_small hc.1 hc.2.1 hc.2.2 q
def unI{f:sE_}{g:Int->Int}
  (rule:∀(i:Int) (t:Tok) (s:yP!) (Q:q_) (E:q_),Q (.int (g i) s.toks) {s with toks:=s.toks+1}->wpAny e_ X.A (f dE!) Q E s):
  FF X f (rU λi=>.int (g i)):=by
 intro h1 s Z H x v Q I rx h;obtain⟨i,rfl,q⟩:=h;show"!@";exact rule i t s _ _ ⟨.int (g i),H,a3!,L!,q⟩
def c8f:FF X (unaryOp .USub) (rU λi=>.int (-i)):=unI λ_ _ _ _ _ q=>neg_int q
end
def EO:V->V->Bool
 |.non,.non=>true|.non,.int _=>true|.int _,.non=>true|.non,.bl _=>true|.bl _,.non=>true|.non,.str _=>true|.str _,.non=>true
 |.int _,.int _=>true|.bl _,.bl _=>true|.str _,.str _=>true|.byt _,.byt _=>true
 |.int _,.str _=>true|.str _,.int _=>true|.bl _,.str _=>true|.str _,.bl _=>true
 |_,_=>false
def FX:R2:=λx y H Q=>EO x y=true/\Q (.bl (!decide (x=y))) H
def b4z{i j:Int}:decide (V.int i=V.int j)=(i==j):=by rw[LS];simp
def d0r{i j:Bool}:decide (V.bl i=V.bl j)=(i==j):=by rw[LS];simp
def b4y:decide (V.str i=V.str j)=(i==j):=by rw[LS];simp
def c6m{i j:Array UInt8}:decide (V.byt i=V.byt j)=(i.toList==j.toList):=by rw[LS];cases i;cases j;simp
section
variable{X:Cx}{a b c:Expr}{ta tb tc:TE}{pos:Pos}
def eU{h1:o!}{Z:St}{H:Hp}{s:yP!}{Q:VK}{k k':Bool}(I:d_)(q:Q (.bl k) H)(e:k=k'):EP X h1 Z Q (.bool k') s:=by subst e;exact⟨.bl k,H,I,rfl,q⟩
def a0i:Gw X sN_ FX:=by
 intro h1 s Z H x y v u Q I rx ry h;obtain⟨hs,q⟩:=h;cases x with
 |non=>
  cases rx;cases y with
  |non=>cases ry;exact PySem.EqNone.ne_none_none bM_
  |bl j=>cases ry;exact PySem.EqNone.ne_none_bool bM_
  |int j=>obtain⟨t',rfl⟩:=ry;exact PySem.EqNone.ne_none_int bM_
  |str j=>obtain⟨t',rfl⟩:=ry;exact PySem.EqNone.ne_none_str bM_
  |_=>exact absurd e0_ IN
 |bl i=>
  cases rx;cases y with
  |non=>cases ry;exact PySem.EqNone.ne_bool_none bM_
  |bl j=>cases ry;exact ne_bool (eU I q (congrArg not d0r))
  |str j=>obtain⟨t',rfl⟩:=ry;exact PySem.EqMixed.ne_bool_str bM_
  |_=>exact absurd e0_ IN
 |int i=>
  obtain⟨t,rfl⟩:=rx;cases y with
  |non=>cases ry;exact PySem.EqNone.ne_int_none bM_
  |int j=>obtain⟨t',rfl⟩:=ry;exact ne_int (eU I q (congrArg not b4z))
  |str j=>obtain⟨t',rfl⟩:=ry;exact PySem.EqMixed.ne_int_str bM_
  |_=>exact absurd e0_ IN
 |str i=>
  obtain⟨t,rfl⟩:=rx;cases y with
  |non=>cases ry;exact PySem.EqNone.ne_str_none bM_
  |bl j=>cases ry;exact PySem.EqMixed.ne_str_bool bM_
  |int j=>obtain⟨t',rfl⟩:=ry;exact PySem.EqMixed.ne_str_int bM_
  |str j=>obtain⟨t',rfl⟩:=ry;exact ne_str (eU I q (congrArg not b4y))
  |_=>exact absurd e0_ IN
 |byt i=>
  obtain⟨t,rfl⟩:=rx;cases y with
  |byt j=>obtain⟨t',rfl⟩:=ry;exact W.ne_bytes (eU I q (congrArg not c6m))
  |_=>exact absurd e0_ IN
 |_=>cases y<;>exact absurd e0_ IN
def b4b:Gw X (compareOp .Lt) mT_:=c5e λ_ _ _ _ _ _ _ q=>lt_int q
def d2o:Gw X mU! (Sw λi j=>.bl mU_):=c5e λ_ _ _ _ _ _ _ q=>le_int q
def c7m:Gw X sP! mW!:=c5e λ_ _ _ _ _ _ _ q=>gt_int q
def d2q:Gw X (compareOp .GtE) mX!:=c5e λ_ _ _ _ _ _ _ q=>ge_int q
def b1a:Gw X sQ_ sR!:=by
 intro h1 s Z H x y v u Q I rx ry h;obtain⟨rfl,q⟩:=h;cases ry;refine is_none_gen (eU I q ?_);cases x<;>first
  |(cases rx;rfl)
  |(obtain⟨t,rfl⟩:=rx;rfl)
def nT:Gw X sR_ sS!:=by
 intro h1 s Z H x y v u Q I rx ry h;obtain⟨rfl,q⟩:=h;cases ry;refine isnot_none_gen (eU I q ?_);cases x<;>first
  |(cases rx;rfl)
  |(obtain⟨t,rfl⟩:=rx;rfl)
def Gw.or{f:eY!}{r r':R2}(h:Gw X f r)(h':Gw X f r'):Gw X f sT!:=by
 intro h1 s Z H x y v u Q I rx ry q;obtain q|q:=q
 .exact h h1 s Z H x y v u Q I rx ry q
 .exact h' h1 s Z H x y v u Q I rx ry q
def aR(b:Expr){op:CmpOp}(h:op≠.In:=by decide)(L:op≠.NotIn:=by decide):behindInMarks op b=false:=by
 have e1:rU!=false:=by cases op<;>first|rfl|exact absurd rfl h
 have e2:rU_=false:=by cases op<;>first|rfl|exact absurd rfl L
 cases b<;>simp[behindInMarks,e1,e2]
def b3x{op:CmpOp}{r:R2}(ho:b6!)(ha:a2_)(hb:cs!)(hm:dL!):PE X dL_ iN!:=by intro h1 s Z H Q I h;exact wpAny_Compare1 sF! hm
def Zj(t:TE):TT:=λZ H Q=>t Z H λx H'=>∃k,x=.bl k/\Q k H'
def b3o{op:CmpOp}{r:R2}(ho:b6!)(ha:a2_)(hb:cs!)(hm:dL!):PT X dL_ (Zj iN!):=by
 intro h1 s Z H Q I h;refine QW (dL b2_ λv s1 ⟨x,H1,I1,r1,q1⟩=>dL gf_ λu s2 ⟨y,H2,I2,r2,q2⟩=>
  dL mX_ λc s3 ⟨z,H3,I3,r3,k,e,q3⟩=>?_) hm
 subst e;cases r3;exact JM ⟨H3,I3,q3⟩
def Wx(r r':R2)(ta tb tc:TE):TE:=λZ H Q=>ta Z H λx H1=>tb Z H1 λy H2=>r x y H2 λz H3=>∃k,z=.bl k/\
 (if k=true then tc Z H3 λw' H4=>r' y w' H4 Q else Q Q! H3)
def c0c{op fm:CmpOp}{r r':R2}(ho:b6!)(fh:iS!)(ha:a2_)(hb:cs!)(hc:PE X c tc)
  (hm:iS_:=by with_unfolding_all rfl):PE X iT! sU_:=by
 intro h1 s Z H Q I h;refine Compare_chain (dL b2_ λv s1 ⟨x,H1,I1,r1,q1⟩=>chain_link (dL gf_ λu s2 ⟨y,H2,I2,r2,q2⟩=>
  dL mX_ λd s3 ⟨z,H3,I3,r3,k,e,q3⟩=>?_)) hm
 subst e;cases r3;refine JM ?_;cases k with
 |false=>exact ite_ff ⟨mp_,H3,I3,rfl,q3⟩
 |true=>exact ite_tt (chain_last (dL sV! λw' s4 ⟨z',H4,I4,r4,q4⟩=>fh h1 s4 Z H4 y z' u w' Q I4 r2 r4 q4))
def b9h{op fm:CmpOp}{r r':R2}(ho:b6!)(fh:iS!)(ha:a2_)(hb:cs!)(hc:PE X c tc)
  (hm:iS_:=by with_unfolding_all rfl):PT X iT! (Zj sU_):=by
 intro h1 s Z H Q I h;refine isTrue_chain (dL b2_ λv s1 ⟨x,H1,I1,r1,q1⟩=>test_link (dL gf_ λu s2 ⟨y,H2,I2,r2,q2⟩=>
  dL mX_ λd s3 ⟨z,H3,I3,r3,k,e,q3⟩=>?_)) hm
 subst e;cases r3;refine JM ?_;cases k with
 |false=>
  obtain⟨k',e',q'⟩:=q3;cases e';exact ite_ff ⟨H3,I3,q'⟩
 |true=>
  refine ite_tt (test_last (dL sV! λw' s4 ⟨z',H4,I4,r4,q4⟩=>dL (fh h1 s4 Z H4 y z' u w' _ I4 r2 r4 q4) λd' s5 ⟨z2,H5,I5,r5,k2,e2,q5⟩=>?_));subst e2;cases r5;exact JM ⟨H5,I5,q5⟩
def CS(K:yQ!)(x:V)(H:Hp)(k:Bool):Prop:=
 match x with
 |.non=>k=false
 |.bl b=>k=b
 |.int i=>k=gx!
 |.str y=>cy!<=sizeLine/\k=((cy!:Int) != 0)
 |.byt y=>y.size<=sizeLine/\k=((y.size:Int) != 0)
 |.ref p=>(∃xs,Fx K H p xs/\k=! dX!)\/(∃xs,Ge K H p xs/\k=! dX!)\/∃kvs,H p=some dX_/\k=! m1!
 |_=>False
def b1u{κ:Type}{kvs:gx_}{vs:List lN_}(r:KV kvs vs):(!vs.isEmpty)=! m1!:=by cases r<;>rfl
def yG{xs:n!}{its:i_}(r:Bc xs its):(! m1_)=! dX!:=by cases r<;>simp
def tL:(sizeLine:Nat)<2 ^ 63:=by rw[JV];decide
def c8h:FG X (λx H Q=>∃k,CS X.K x H k/\Q k H):=by
 intro h1 s Z H x v Q I rx h;obtain⟨k,e,q⟩:=h;have hl:=tL;have hs:sizeLine=16777216:=JV;cases x with
 |non=>
  cases rx;have e':k=false:=e;subst e';exact truthy_none m2!
 |bl b=>
  cases rx;have e':k=b:=e;subst e';exact JM m2!
 |int i=>
  show"!@";have e':k=gx!:=e;subst e';exact PySem.P.truthy_int m2!
 |str y=>
  show"!@";obtain⟨hy,e'⟩:cy!<=sizeLine/\k=((cy!:Int) != 0):=e;subst e';exact PySem.P.truthy_str a! ⟨H,a3!,q⟩
 |byt y=>
  show"!@";obtain⟨hy,e'⟩:y.size<=sizeLine/\k=((y.size:Int) != 0):=e;subst e';exact W.truthy_bytes a! ⟨H,a3!,q⟩
 |ref p=>
  cases rx;have e':(∃xs,Fx X.K H p xs/\k=! dX!)\/(∃xs,Ge X.K H p xs/\k=! dX!)\/∃kvs,H p=some dX_/\k=! m1!:=e;obtain⟨xs,J,e'⟩|⟨xs,J,e'⟩|⟨kvs,J,e'⟩:=e'
  .subst e';obtain⟨its,r,pl,hz⟩:=I.list J;have ap:=aX!;exact wpAny_truthy_list pl.isList iU! sZ!
  .subst e';obtain⟨its,r,pl,hz⟩:=I.tuple J;have ap:=aX!;exact truthy_tuple pl iU! sZ!
  .subst e';obtain⟨hz,hS,vs,r,m⟩:aE!<=sizeLine/\(p==sysModules)=false/\∃vs,KV kvs vs/\s.heap.DictOf (mixKind X.prog X.w) p vs:=I.hok p _ J;have ap:aE!=bA_:=MO r;exact wpAny_truthy_dict hS m a! ⟨H,a3!,by rw[b1u r];exact q⟩
 |_=>exact(s0!).elim
def b9f(ha:a2_)(he:∀du,isTrue a X.env du=(do let v <-du;standAt a.pos;holding [v] ml_)):
  PT X a (λZ H Q=>ta Z H λx H'=>∃k,CS X.K x H' k/\Q k H'):=by
 show"!K";exact isTrue_plain (dL b2_ λv s1 ⟨x,H1,I1,r1,q1⟩=>c8h h1 s1 Z H1 x v Q I1 r1 q1) (he _)
def b1b:Gw X eZ_ (λx y H Q=>∃i j,x=.str i/\y=.str j/\i.length+j.length<=sizeLine/\Q (.str (i++j)) H):=by intro h1 s Z H x y v u Q I rx ry h;obtain⟨i,j,rfl,rfl,hz,q⟩:=h;obtain⟨t,rfl⟩:=rx;obtain⟨t',rfl⟩:=ry;exact add_str (λt' tk=>⟨.str (i++j),H,a3!,L!,q⟩) hz
def uE{x:V}(r:Bc [x] us):∃u,us=[u]/\Bu x u:=by
 cases r with
 |cons r1 r2=>cases r2;exact⟨_,rfl,r1⟩
def b2r{x y:V}(r:Bc [x,y] us):∃u w',us=[u,w']/\Bu x u/\Bu y w':=by
 cases r with
 |cons r1 r2=>
  cases r2 with
  |cons r3 r4=>cases r4;exact⟨_,_,rfl,r1,r3⟩
def c3i:Kg X s2_ s3_:=by intro h1 s Z H xs us Q I r h;obtain⟨i,rfl,q⟩:=h;obtain⟨u,rfl,t,rfl⟩:=uE r;exact call_abs_int λu tk=>⟨.int iV!,H,a3!,L!,q⟩
def c3g:Kg X s4_ s6_:=by intro h1 s Z H xs us Q I r h;obtain⟨x,rfl,hz,q⟩:=h;obtain⟨u,rfl,t,rfl⟩:=uE r;exact ord_of_one hz iE!
def AX(K:yQ!)(x:V)(H:Hp)(n:Nat):Prop:=
 match x with
 |.str y=>cy!<=sizeLine/\n=cy!
 |.byt y=>y.size<=sizeLine/\n=y.size
 |.ref p=>(∃xs,Fx K H p xs/\n=l_)\/∃xs,Ge K H p xs/\n=l_
 |_=>False
def cR:Kg X s8! (λxs H Q=>∃x n,xs=[x]/\AX X.K x H n/\Q gA_ H):=by
 intro h1 s Z H xs us Q I r h;obtain⟨x,n,rfl,e,q⟩:=h;obtain⟨u,rfl,rx⟩:=uE r;have hl:=tL;have hs:sizeLine=16777216:=JV;cases x with
 |str y=>
  show"!@";obtain⟨hy,e'⟩:cy!<=sizeLine/\n=cy!:=e;subst e';exact len_str a! iE!
 |byt y=>
  show"!@";obtain⟨hy,e'⟩:y.size<=sizeLine/\n=y.size:=e;subst e';exact W.len_bytes a! iE!
 |ref p=>
  cases rx;have e':(∃xs,Fx X.K H p xs/\n=l_)\/∃xs,Ge X.K H p xs/\n=l_:=e;obtain⟨xs,J,e'⟩|⟨xs,J,e'⟩:=e'
  .subst e';obtain⟨its,r',pl,hz⟩:=I.list J;have ap:=iV_;exact Calls.call_len_list pl.isList iU! s8_
  .subst e';obtain⟨its,r',pl,hz⟩:=I.tuple J;have ap:=iV_;exact len_tuple pl iU! s8_
 |_=>exact(s0!).elim
end
end L2
namespace L2
open PySem PySem.Spec PyProof.Rows
structure Vj(h:Heap)(x dx C:xT!)(mA:z!):Prop where
 obj:h.get? x=some lP_
 ns:h.Ns1 dx mA
 ne:dx≠x
def b7c{h:Heap}{dx:xT!}{mA:z!}(n:h.Ns1 dx mA):∃od,h.get? dx=some od/\∀name,W.lookIn name od=some (mA name):=by
 obtain⟨o,es,ep,ho,hd,hk,_,hm⟩:=n;refine⟨o,ho,λname=>?_⟩;have e:=hm name;unfold nsFind findBy at e;rw[<-Array.find?_toList]at e;unfold W.lookIn;rw[hd];show"#?";split
 .rename_i y q;rw[q]at e;exact congrArg some e
 .rename_i q;rw[q]at e;have a:es.toList.any (·.refKey)=false:=by
   rw[List.any_eq_false];intro y hy;obtain⟨z,t,YM⟩:=hk y (Array.mem_toList_iff.mp hy);simp[DictEntry.refKey,YM]
  have a':¬es.toList.any (·.refKey)=true:=by rw[a];exact IN
  rw[HQ a'];exact congrArg some e
def Vj.look{h:Heap}{x dx C:xT!}{mA:z!}(I:Vj h x dx C mA):∃od,W.InstAt h x lP_ C (some od)/\∀name,W.lookIn name od=some (mA name):=
 let⟨od,ho,hl⟩:=b7c I.ns
 ⟨od,⟨I.obj,rfl,rfl,ho⟩,hl⟩
section
variable{prog:yO!}{w:yC!}{A:yn!}{E:Value->Shared->Prop}{s:yP!}{K:yQ!}{x dx C f:xT!}{mA:Str->Option Value}{name:Str}{v:yB!}
def c6b{expr:Bool}{Q:q_}(X:iW!)(I:m3_)(hg:tc!)(hh:tc_)
  (ha:W.findIn K ay! name=some none)(hv:mA name=some v)(YN:W.handedIn v=true)(h:Q v {s with toks:=s.toks+1}):
  wpAny r_ A (getAttr f5! name expr) Q E s:=by
 show"#<";exact W.get_value X af (m4_).1 (W.findObj_own hh ha rfl (by rw[hl,hv])) YN h
def c2c{pl:dZ!}{Q:te_}(X:iW!)(I:m3_)(hg:tc!)
  (hf:W.findIn K ay! name=some e2!)(ht:m5_)(hv:mA name=none)(h:Q (.ref f,[.ref x]) s):
  wpAny r_ A (getMethod f5! name pl) Q E s:=by
 show"#<";exact W.method_fn X af (m4_).1 (m4_).2 hf (NE.mp ht) (by show(W.lookIn name od).map (·.isSome)=some false;rw[hl,hv];rfl) h
def c4a{ns:q!}{Q:cZ!}(X:iW!)(I:m3_)
  (hs:W.findIn K ay! "__setattr__"=some tf_)(hp:W.plainOver K C=true)(ht:W.takerIn K C name=some none)(hh:tc_)
  (hw:PySem.Within mA ns)(hsz:tg!)
  (h:∀h',Vj h' x dx C (λy=>if y=name then some v else mA y)->Heap.SameBut dx s.heap h'->Q () {s with heap:=h',toks:=s.toks+2}):
  wpAny r_ A (setAttr f5! name v) Q E s:=by
 show"#<";refine W.set_plain X af hs (W.osa_open (s:=m6!) (r:=none) X af hp ht λb=>?_);obtain⟨cd,hc,j3⟩:=W.any_some hh;have J:s.heap.get? x=some ⟨.ref C,some dx,.plain,#[]⟩:=I.obj;refine HI (HK (HI (HI (wpAny_loadPart J (HI (W.Looks.here (s:=m6!) (W.looks_clsIn X hc) ?_))))));rw[j3];refine HK (a:=some dx) (HI (HK gB_));refine wpAny_nsSet1 (s:=m6!) I.ns λh' ip bq=>?_;obtain⟨oD,esD,epD,yp,yq,YO⟩:=ip.count (PySem.Within.cons name v hw);refine HI (wpAny_lookBehind yp (by rw[yq];exact pastItsLine_dict (JB YO (by rw[IE];omega))) ?_);exact HK (h _ ⟨(bq.2 _ (HR I.ne)).trans I.obj,ip,I.ne⟩ bq)
def c1e{R:ti_}{kw:dZ_}(X:iW!)(hm:tj!)
  (hi:tj_)(hf:W.typeIn K aj!=some (.type "function"))
  (h:codeAny r_ (A.under (.builtin "type.__call__" ⟨.ref C::vs,kw⟩)) (.call aj! ⟨.ref ag!::vs,kw⟩) (W.InitBack ag! R)
   {s with heap:=(e2_).push iX_}):
  codeAny r_ A (.call ay! ⟨vs,kw⟩) R s:=by
 obtain⟨hh,g,d,t,os⟩:=s;exact W.make_core (W.makes_of X hm) (W.looks_findIn X hi) (λself=>W.bind_fn X self hf) G! h
end
def Lg(f:Str)(v:V):List dG!->List dG!
 |[]=>[(f,v)]
 |(g,x)::r=>if g=f then(g,v)::r else(g,x)::Lg f v r
def uL(f g:Str)(v:V):∀fs:List dG!,(iY!).lookup g=if g=f then some v else fs.lookup g
 |[]=>by
  show List.lookup g [(f,v)]=_;by_cases h:g=f
  .have hb:(g==f)=true:=NE.mpr h;simp only[List.lookup,hb,IB h]
  .have hb:(g==f)=false:=KH.mpr h;simp only[List.lookup,hb,HQ h]
 |(k,x)::r=>by
  have ih:=uL f g v r;rw[m7_];by_cases hk:k=f
  .rw[aO_];by_cases h:g=k
   .have hb:(g==k)=true:=NE.mpr h;simp only[List.lookup,hb,IB (h.trans hk)]
   .have hb:(g==k)=false:=KH.mpr h;simp only[List.lookup,hb,HQ (λe:g=f=>h (e.trans hk.symm))]
  .rw[aF!];by_cases h:g=k
   .have hb:(g==k)=true:=NE.mpr h;simp only[List.lookup,hb,HQ (λe:g=f=>hk (h.symm.trans e))]
   .have hb:(g==k)=false:=KH.mpr h;simp only[List.lookup,hb];exact ih
def tM(f:Str)(v:V):∀fs:List dG!,f∈(iY!).map c_/\∀g,g∈fs.map c_->g∈(iY!).map c_
 |[]=>⟨by simp[Lg],λg h=>by simp at h⟩
 |(k,x)::r=>by
  obtain⟨i1,i2⟩:=tM f v r;rw[m7_];by_cases hk:k=f
  .rw[aO_];subst hk;exact⟨H!,λg h=>by simpa using h⟩
  .rw[aF!];refine⟨?_,λg h=>?_⟩
   .rw[IA];exact HL _ i1
   .rw[IA]at h ⊢;obtain e|e:=HN.mp h
    .exact HN.mpr (.inl e)
    .exact HL _ (i2 g e)
def uN(f:Str)(v:V):∀fs:List dG!,(iY!).length<=bu!+1
 |[]=>by simp[Lg]
 |(k,x)::r=>by
  have ih:=uN f v r;rw[m7_];by_cases hk:k=f
  .rw[aO_,IE,IE];omega
  .rw[aF!,IE,IE];omega
def Ou.some_of{v:V}{o:m8_}(r:Ou dI_ o):∃u,o=some u/\Bu v u:=by
 cases o with
 |none=>exact(iY_).elim
 |some u=>exact⟨u,rfl,r⟩
def Ou.none_of{o:m8_}(r:Ou none o):o=none:=by
 cases o with
 |none=>rfl
 |some u=>exact(iY_).elim
def b7i{v:V}{u:yB!}(r:bw!):W.handedIn u=true:=by
 cases v with
 |non=>cases (show u=dE_ from r);rfl
 |bl b=>cases (show u=Value.bool b from r);rfl
 |int i=>obtain⟨t,e⟩:=tp!;cases e;rfl
 |str x=>obtain⟨t,e⟩:=tp_;cases e;rfl
 |byt b=>obtain⟨t,e⟩:=(show∃t,u=Value.bytes b t from r);cases e;rfl
 |flt b=>obtain⟨t,e⟩:=(show∃t,u=Value.float b t from r);cases e;rfl
 |ref a=>cases (show u=Value.ref a from r);rfl
 |ty n=>cases (show u=Value.type n from r);rfl
section
variable{P:yO!}{w:yC!}{H H':Hp}{h h':Heap}{a C dx:xT!}{fs vw:List (Str×V)}
def a5a(hok:bu_)(e:iZ_):∃mA,Vj h a dx C mA/\q2_/\PySem.Within mA lQ_/\bu!<=1000/\H dx=some f4_:=by obtain⟨d,z,ne,ob,mA,n,r,q⟩:=(show Fg P w H h a e3! from hok a _ e);exact⟨mA,⟨ob,n,ne⟩,r,q,z,d⟩
end
structure Ut(K:yQ!)(C:xT!):Prop where
 pg:W.plainGet K C Str.empty=true
 hd:W.hasDictIn K C=true
 po:W.plainOver K C=true
 sa:W.findIn K ay! "__setattr__"=some tf_
def Ut.get{K:yQ!}{C:xT!}(c:Ut K C)(f:Str):W.plainGet K C f=true:=c.pg
def Ee(K:yQ!)(C:xT!)(f:Str):Prop:=W.findIn K ay! f=some none
def Ee.taker{K:yQ!}{C:xT!}{f:Str}(n:Ee K C f):W.takerIn K C f=some none:=by unfold W.takerIn;rw[show W.findIn K ay! f=some none from n];rfl
structure Wp(K:yQ!)(C:xT!)(m:Str)(f:xT!):Prop where
 at_:W.findIn K ay! m=some e2!
 fn:W.isFn K aj!=true
 kp:W.keepIn K aj!=true
section
variable{X:Cx}{h1:List (Addr×Obj)}{Z:St}{H:Hp}{s:yP!}{a C dx:xT!}{fs:List (Str×V)}{f:Str}{v:V}{A:yn!}{E:Value->Shared->Prop}
def b1w{b:Bool}{Q:q_}(I:d_)(e:iZ_)(c:d0!)(n:Ee X.K C f)(l:fs.lookup f=some v)
  (h:∀u s',Inv X h1 Z H s'->Bu v u->Q u s'):wpAny e_ A (getAttr af_ f b) Q E s:=by
 obtain⟨mA,O,r,_,_,_⟩:=a5a I.hok e;obtain⟨u,hu,ru⟩:=Ou.some_of (v:=v) (o:=mA f) (by rw[<-l];exact r f);exact c6b I.kIn O (c.get f) c.hd n hu (b7i ru) (h u _ m9_ ru)
def pL{m:Str}{pl:dZ!}{Q:te_}(I:d_)(e:iZ_)(c:d0!)(k:Wp X.K C m g)(l:fs.lookup m=none)
  (h:Q (.ref g,bl!) s):wpAny e_ A (getMethod af_ m pl) Q E s:=by
 obtain⟨mA,O,r,_,_,_⟩:=a5a I.hok e;have hn:mA m=none:=Ou.none_of (by rw[<-l];exact r m);exact c2c I.kIn O (c.get m) k.at_ k.fn hn h
def b0f{y:V}{u:yB!}{Q:cZ!}(I:d_)(e:iZ_)(c:d0!)(n:Ee X.K C f)(hl:bu!<1000)(ry:Bu y u)
  (h:∀s',Inv X h1 Z (upd H a tt_) s'->Q () s'):wpAny e_ A (setAttr af_ f u) Q E s:=by
 obtain⟨mA,O,r,wi,_,ho⟩:=a5a I.hok e;have hz:(lQ_).length<=sizeLine:=by rw[IK,JV];omega
 refine c4a I.kIn O c.sa c.po n.taker c.hd wi hz λh' O' sb=>h _ ?_;have hd:∃o,h'.get? dx=some o:=let⟨o,_,_,e',_⟩:=O'.ns;⟨o,e'⟩;refine I.write (x:=a) (e:=dx) tu! (.inr ho) (λb q hb z=>(sb.2 b hb).trans z) hd ?_;refine⟨by rw[bD O.ne];exact ho,?_,O.ne,O'.obj,_,O'.ns,λg=>?_,λg hg=>?_⟩
 .have:=uN f y fs;omega
 .show Ou ((Lg f y fs).lookup g) tv!;rw[uL];by_cases q:g=f
  .rw[IB q,IB q];exact ry
  .rw[HQ q,HQ q];exact r g
 .by_cases q:g=f
  .rw[q];exact(tM f y fs).1
  .refine(tM f y fs).2 g (wi g λz=>hg ?_);show tv!=none;rw[HQ q];exact z
def Inv.made(I:d_):Inv X h1 Z (upd (upd H s.heap.objs.size (.own ag!)) ag! (.ins C s.heap.objs.size []))
  {s with heap:=(e2_).push iX_}:=by
 have e1:(e2_).get? o_=some iX!:=IP s.heap rfl;have e2:((e2_).push iX_).get? ag!=some iX_:=by
  have:=IP e2_ (o:=W.instObj C o_) rfl;rwa[OC]at this
 have e3:(e2_).Ns s.heap.objs.size (λ_=>none):=⟨iX!,#[],_,e1,rfl,(λe he=>absurd he d!),e3_⟩;have I1:=I.laid (a:=o_) (o:=.own ag!) (h':=s.heap.push iX!) (t':=s.toks) tw! y! ⟨_,e1⟩;refine I1.laid (a:=o_+1) (o:=.ins C s.heap.objs.size []) (t':=s.toks) tw! (PB (OC _ _)) ?_;have ne:o_≠o_+1:=JG (OK _);refine⟨by rw[bD ne,cC],JS _,ne,e2,λ_=>none,(Heap.Ns1.of_empty e3).at λo q=>HM _ q,λ_=>i0!,λy hy=>absurd rfl hy⟩
def c6y{prog:yO!}{w:yC!}{e:Expr}{f:Str}{pos:Pos}{s:yP!}{Q:q_}(hb:attributeBase e f env (eval e env)=eval e env)
  (h:wpAny r_ A (eval e env) (λo al=>wpAny r_ A (getAttr o f true) Q E al) E s):wpAny r_ A (eval tx_ env) Q E s:=
 Attribute_any_ h (by rw[arm_eval_Attribute,hb])
end
def EL(K:yQ!)(ta:TE)(f:Str):TE:=λZ H Q=>ta Z H λx H1=>∃a C dx fs v,x=.ref a/\H1 a=some e3!/\Ut K C/\Ee K C f/\fs.lookup f=some v/\Q v H1
def EQ(K:yQ!)(ta tv:TE)(f:Str):TS:=λD Z H=>tv Z H λy H1=>ta Z H1 λx H2=>∃a C dx fs,x=.ref a/\H2 a=some e3!/\Ut K C/\Ee K C f/\bu!<1000/\
 D.nx Z (upd H2 a tt_)
section
variable{X:Cx}{o e value:Expr}{f:Str}{pos io tpos:Pos}{ta tv:TE}
def c8x(he:PE X e ta)(hb:attributeBase e f X.env eN_=eval e X.env):PE X tx_ (EL X.K ta f):=by intro h1 s Z H Q I h;refine c6y hb (dL c5_ λu s1 ⟨x,H1,I1,rx,a,C,dx,fs,v,ex,ea,c,n,l,q⟩=>?_);subst ex;obtain rfl:u=Value.ref a:=rx;exact b1w I1 ea c n l λu' s2 I2 ru=>⟨v,H1,I2,ru,q⟩
def c8r(ha:na_)(hv:PE X value tv)(hs:swapsWith value (some (.Attribute o f io)) pos.line X.env=pure false):PS X (.Assign [.Attribute o f io] value pos) (EQ X.K ta tv f):=by intro h1 s Z H D I h;refine plainObj_wpAny_Assign_Attribute (dL (hv h1 s Z H _ I h) λu s1 ⟨y,H1,I1,ry,q⟩=>dL (ha h1 s1 Z H1 _ I1 q) λov s2 ⟨x,H2,I2,rx,a,C,dx,fs,ex,ea,c,n,l,q2⟩=>?_) hs;subst ex;obtain rfl:ov=Value.ref a:=rx;exact b0f I2 ea c n l ry λs3 I3=>⟨Z,_,I3,q2⟩
def c7r{pl:dZ!}{m:Str}{aj:Pos}{h1:o!}{s:yP!}{Z:St}{H:Hp}{Q:q_}{te:TE}(he:cv!)(I:d_)
  (h:te Z H λx H1=>∃a C dx fs g,x=.ref a/\H1 a=some e3!/\Ut X.K C/\Wp X.K C m g/\fs.lookup m=none/\
   ∀s1,Inv X h1 Z H1 s1->wpAny e_ X.A (callWith pos (.ref g) bl! tA! e4!) Q X.xe s1)
  (ht:eval tB! X.env=(do
   let ov <-eval e X.env
   standAt gD!
   let(f,first) <-holding [ov] gD_
   callWith pos f first tA! e4!)):
  wpAny e_ X.A (eval tB! X.env) Q X.xe s:=by
 refine W.methodCall_KW (pl:=pl) (dL c5_ λu s1 ⟨x,H1,I1,rx,a,C,dx,fs,g,ex,ea,c,k,l,q⟩=>?_) ht;subst ex;obtain rfl:u=Value.ref a:=rx;exact pL I1 ea c k l (q s1 I1)
end
end L2
namespace L2
open PySem PySem.Spec PyProof.Rows
structure Al(k:Nat)(A:yn!):Prop where
 hd:A.handled=none
 dp:A.depth+3*k+5<recursionLimit
 un:A.units+16*k+200<cLine
def Al.mono{j k:Nat}{A:yn!}(r:gE!)(h:j<=k):Al j A:=⟨r.hd,by have:=r.dp;omega,by have:=r.un;omega⟩
def Al.deeper{k:Nat}{A:yn!}(r:Al V! A)(env:Env):Al k (A.deeper env):=
 ⟨r.hd,by have:=r.dp;show A.depth+1+3*k+5<_;omega,by have:=r.un;show A.units+3+16*k+200<_;omega⟩
def Al.in1{k:Nat}{A:yn!}(r:Al V! A):Al k A.in1:=
 ⟨r.hd,by have:=r.dp;show A.depth+3*k+5<_;omega,by have:=r.un;show A.units+1+16*k+200<_;omega⟩
def b1p{A:yn!}{C:xT!}{kw:dZ_}:(i2!).depth=A.depth+1:=by first|rfl|simp[Around.under,Code.weight,Code.isCreation,Code.isGuard,Code.isCaller,Code.frames,Code.isFrame,guardIds]
def b1o{A:yn!}{C:xT!}{kw:dZ_}:(i2!).units=A.units+1:=by first|rfl|simp[Around.under,Code.cUnits,Code.frames,Code.isFrame]
def Al.make{k:Nat}{A:yn!}(r:Al V! A)(C:xT!)(us:i_)(kw:dZ_):Al k i2!:=
 ⟨r.hd,by have:=r.dp;rw[b1p];omega,by have:=r.un;rw[b1o];omega⟩
def Al.depth{k:Nat}{A:yn!}(r:gE!):A.depth<recursionLimit:=by have:=r.dp;omega
def Al.units{k:Nat}{A:yn!}(r:gE!):A.units+64<cLine:=by have:=r.un;omega
def Al.units0{k:Nat}{A:yn!}(r:gE!):A.units<cLine:=by have:=r.un;omega
def Zz:TA:=λ_ H Q=>Q [] H
def BO(ta:TE)(tr:TA):TA:=λZ H Q=>ta Z H λx H1=>tr Z H1 λxs H2=>Q e4_ H2
section
variable{X:Cx}{e:Expr}{es:List Expr}{te:TE}{t:TA}{pos:Pos}
def gP:PA X [] Zz:=λ_ _ _ _ H Q I h=>ON ⟨[],H,I,.nil,h⟩
def dZ(ha:cv!)(hr:gF!)(hs:ay_:=by rfl):PA X aN_ (BO te t):=by intro pos h1 s Z H Q I h;rw[hs];show wpAny _ _ (spliced (e5!::backTo pos mc_)) _ _ s;refine MH (dL b2_ λu s1 ⟨x,H1,I1,r1,q1⟩=>?_);exact dL (hr pos h1 s1 Z H1 _ I1 q1) λus s2 ⟨xs,H2,I2,r2,q2⟩=>⟨x::xs,H2,I2,.cons r1 r2,q2⟩
def ED(t:TA):TE:=λZ H Q=>t Z H λxs H1=>l_<=sizeLine/\∀p,H1 p=none->Q da! (upd H1 p bH_)
def EI(t:TA):TE:=λZ H Q=>t Z H λxs H1=>l_<=sizeLine/\∀p,H1 p=none->Q da! (upd H1 p T!)
def b9t {x1}(h:gF!):PE X tD! (ED t):=by intro h1 s Z H Q I hq;refine wpAny_Tuple_spliced tE_;have hf:H1 D!=none:=I1.hok.fresh y!;refine⟨.ref D!,upd H1 s1.heap.objs.size bH_,tF_,rfl,q _ hf⟩;exact⟨z,us,r,⟨_,dR_,rfl,_,rfl⟩⟩
def wX(h:gF!):PE X i3! (EI t):=by intro h1 s Z H Q I hq;refine wpAny_List_spliced tE_;have hf:H1 D!=none:=I1.hok.fresh y!;refine⟨.ref D!,upd H1 s1.heap.objs.size T!,tF_,rfl,q _ hf⟩;exact⟨z,us,0,r,dR_⟩
end
abbrev Sp:=List V->Hp->VK->XK->Prop
abbrev Wr:=List Env->Hp->Shared->XK->Value->Shared->Prop
structure Rr(P:yO!)(w:yC!)(K:yQ!)(mg:z!)(base:Heap)(A:yn!)(outer:aw_)(s:yP!)(H:Hp):Prop where
 frames:A.frames=some outer
 mod:Mod K mg base
 bs:∀b o,base.get? b=some o->s.heap.get? b=some o/\H b=none
 bsz:base.objs.size<=o_
 funs:s.heap.FunFrames base outer
 frf:∀b∈frs outer,H b=none
 hok:Ov P w H s.heap
 bare:AllBare s.gens
def CE(outer:aw_)(P:yO!)(w:yC!)(H:Hp)(s:yP!)(Q:VK)(u:yB!)(s':yP!):Prop:=
 ∃v H',s'.os=s.os/\AllBare s'.gens/\Un (frs outer) [] H H' s.heap s'.heap/\Ov P w H' s'.heap/\Bu v u/\Q v H'
def CR(CX:Wr)(outer:aw_)(P:yO!)(w:yC!)(H:Hp)(s:yP!)(Q:VK)(E:XK)(r:Result)(s':yP!):Prop:=
 match r with
 |.ok (.ret u)=>CE outer P w H s Q u s'
 |.ok _=>False
 |.error e=>CX outer H s E e s'
structure Fo(P:yO!)(w:yC!)(K:yQ!)(mg:z!)(base:Heap)(CX:Wr)(k:Nat)(f:xT!)(fd:FuncData)(ps:q!)(sp:Sp):Prop where
 len:∀vs H Q E,sp vs H Q E->bA_=V_
 run:∀(A:yn!) (outer:aw_) (s:yP!) (H:Hp) (args:Args) (us:i_) (vs:n!) (Q:VK) (E:XK),Al k A->Rr P w K mg base A outer s H->BindsTo s fd args da_->Bc vs us->sp vs H Q E->
  codeAny G_ A (.call aj! args) (CR CX outer P w H s Q E) s
def Fo.mono{P:yO!}{w:yC!}{K:yQ!}{mg:z!}{base:Heap}{CX:Wr}{j k:Nat}{f:xT!}{fd:FuncData}{ps:q!}{sp:Sp}(F:Fo P w K mg base CX j f fd ps sp)(h:j<=k):
  Fo P w K mg base CX k f fd ps sp:=⟨F.len,λA outer s H args us vs Q E hr=>F.run A outer s H args us vs Q E (hr.mono h)⟩
def Fo.imp{P:yO!}{w:yC!}{K:yQ!}{mg:z!}{base:Heap}{CX:Wr}{k:Nat}{f:xT!}{fd:FuncData}{ps:q!}{sp UI:Sp}(F:Fo P w K mg base CX k f fd ps sp)
  (h:∀vs H Q E,UI vs H Q E->sp vs H Q E):Fo P w K mg base CX k f fd ps UI:=
 ⟨λvs H Q E q=>F.len vs H Q E (h _ _ _ _ q),λA outer s H args us vs Q E hr he hb hv hs=>F.run A outer s H args us vs Q E hr he hb hv (h _ _ _ _ hs)⟩
def Rr.make{P:yO!}{w:yC!}{K:yQ!}{mg:z!}{base:Heap}{A:yn!}{outer:aw_}{s:yP!}{H:Hp}(e:nf!)(C:xT!)(us:i_)(kw:dZ_):
  Rr P w K mg base i2! outer s H:=⟨by first|exact e.frames|(simpa[Around.under,Code.envs,Code.isFrame,pushEnvs]using e.frames),e.mod,e.bs,e.bsz,e.funs,e.frf,e.hok,e.bare⟩
def Rr.in1{P:yO!}{w:yC!}{K:yQ!}{mg:z!}{base:Heap}{A:yn!}{outer:aw_}{s:yP!}{H:Hp}(e:nf!):
  Rr P w K mg base A.in1 outer s H:=⟨e.frames,e.mod,e.bs,e.bsz,e.funs,e.frf,e.hok,e.bare⟩
section
variable{X:Cx}{h1:List (Addr×Obj)}{Z:St}{H:Hp}{s s':yP!}
def Inv.env0(I:d_):Rr X.prog X.w X.K X.mg X.base X.A X.stack s H:=
 ⟨I.ok.frames,I.ok.mod,I.bs,JB I.ok.bsz I.sz,I.stack,I.stkFree,I.hok,I.bare⟩
def Inv.after{Q:VK}{u:yB!}(I:d_)(h:CE X.stack X.prog X.w H s Q u s'):EP X h1 Z Q u s':=by obtain⟨v,H',os,bare,un,hok,r,q⟩:=h;obtain⟨hh,g,d,t,YQ⟩:=s';obtain rfl:YQ=s.os:=os;exact⟨v,H',I.call (h':=hh) (g':=g) (d':=d) (t':=t) (ch:=[]) un hok bare (λb z=>absurd z d!),r,q⟩
end
def BP(sp:Sp)(dvs:n!)(E:XK)(t:TA):TE:=λZ H Q=>t Z H λvs H1=>sp db! H1 Q E
def Zk(C:xT!)(m:Str)(sp:Sp)(dvs:n!)(E:XK)(ta:TE)(t:TA):TE:=λZ H Q=>ta Z H λx H1=>∃a dx fs,x=.ref a/\H1 a=some e3!/\fs.lookup m=none/\
 t Z H1 λvs H2=>sp (x::db!) H2 Q E
def Zl(C:xT!)(sp:Sp)(dvs:n!)(E:XK)(t:TA):TE:=λZ H Q=>t Z H λvs H1=>∀x dx,H1 x=none->H1 dx=none->dx≠x->
 sp (.ref x::db!) nh! tL! E
def Fc(K:yQ!)(fd:FuncData)(ps:q!)(ds:i_):Prop:=
 ∀(s:yP!) (us:i_),K.In s.heap->(e5_).length=V_->BindsTo s fd db_ (ps.zip e5_)
def Fc.all{K:yQ!}{fd:FuncData}{ps:q!}(h:∀us:List Value,av_=V_->bindArgs fd db_=pure da_):Fc K fd ps []:=λs us _ hl=>by
 rw[IR]at hl ⊢;exact .of_eq (h us hl)
def Mg(CX:Wr)(X:Cx)(E:XK):Prop:=∀(h1:o!) (Z:St) (H:Hp) (s:yP!) (e:yB!) (s':yP!),Inv X h1 Z H s->CX X.stack H s E e s'->X.xe e s'
section
variable{X:Cx}{CX:Wr}{k:Nat}{f C:xT!}{fd:FuncData}{ps:List Str}{sp:Sp}{dvs:List V}{ds:List Value}{E:XK}{x m:Str}{p pos aj:Pos}{e o:Expr}{es:List Expr}{ta:TE}{t:TA}
def a2w{h1:o!}{Z:St}{H:Hp}{s:yP!}{Q:VK}(F:d1!)(hr:b6_)(hb:d1_)(hd:d2!)(J:d2_)
  (I:d_)(r:eN!)(h:sp db! H Q E):wpAny e_ X.A (call aj! us) aL_ X.xe s:=by
 have r2:Bc db! e5_:=r.append hd;have hl:(e5_).length=V_:=by rw[<-r2.length];exact F.len _ _ _ _ h
 refine wpAny_call (QZ (F.run X.A X.stack s H db_ e5_ db! Q E hr I.env0 (hb s us I.kIn hl) r2 h) λr s' hq=>?_);cases r with
 |error e=>exact J h1 Z H s e s' I hq
 |ok fl=>
  cases fl with
  |ret u=>exact I.after hq
  |next=>exact False.elim hq
  |brk=>exact False.elim hq
  |cont=>exact False.elim hq
def b3y(F:d1!)(hr:b6_)(hg:Y!)(hm:X.mg x=some aj!)(hk:W.keepIn X.K aj!=true)(hb:d1_)(hd:d2!)(J:d2_)
  (ha:e6!)(bg:F_:=by decide)(he:ay_:=by rfl)(a7:a6_:=by rfl):
  PE X bB! (BP sp dvs E t):=by
 show"!K";refine LJ ni!;refine W.callWith_K (h₀:=X.base) I.ok.mod.kin hk tN_ he a7;exact a2w F hr hb hd J I1 r q
def c4w{pl:dZ!}(he:na_)(c:d0!)(hm:Wp X.K C m f)(F:d1!)(hr:b6_)(hb:d1_)(hd:d2!)(J:d2_)(ha:e6!)
  (b8:ay_:=by rfl)(a7:a6_:=by rfl)
  (ht:eval i5! X.env=(do
   let ov <-eval o X.env
   standAt gD!
   let(f,first) <-holding [ov] gD_
   callWith pos f first tR_ e4!):=by rfl):
  PE X i5! (Zk C m sp dvs E ta t):=by
 show"!;";refine W.callWith_K (first:=bl!) (h₀:=X.base) I.ok.mod.kin hm.kp (dL (ha pos h1 s1 Z H1 _ I1 q) λus s2 ⟨vs,H2,I2,r,q2⟩=>tS!) b8 a7;exact a2w (us:=.ref a::us) (vs:=.ref a::vs) F hr hb hd J I2 (.cons rfl r) q2
def b9z{pl:dZ!}(he:na_)(c:d0!)(hm:Wp X.K C m f)(F:d1!)(hr:b6_)(hb:d1_)(hd:d2!)(J:d2_)
  (ht:eval i5_ X.env=(do
   let ov <-eval o X.env
   standAt gD!
   let(f,first) <-holding [ov] gD_
   callWith pos f first nj_ e4!):=by rfl):
  PE X i5_ (Zk C m sp dvs E ta Zz):=by
 show"!;";exact W.callWith_K0 (first:=bl!) I1.kIn hm.kp (a2w (us:=bl!) (vs:=bl!) F hr hb hd J I1 tT! q)
structure Mk(K:yQ!)(C f:xT!):Prop where
 makes:W.makesIn K C=true
 init:W.findIn K ay! "__init__"=some e2!
 fn:W.isFn K aj!=true
 kp:W.keepIn K ay!=true
def a6o{h1:o!}{Z:St}{H:Hp}{s:yP!}{Q:VK}(M:nk!)(F:d1!)(hr:gG!)(hb:d1_)(hd:d2!)
  (J:d2_)(I:d_)(r:eN!)
  (h:∀x dx,H x=none->H dx=none->dx≠x->sp (.ref x::db!) (upd (upd H dx ih!) x ng_) tL! E):
  wpAny e_ X.A (call ay! us) aL_ X.xe s:=by
 have hq:=h ag! s.heap.objs.size tU_ gG_ (JG (OK _));have I2:=Inv.made (C:=C) I;have r2:Bc (V.ref ag!::db!) tV_:=.cons rfl (r.append hd);have hl:(Value.ref ag!::us++ds).length=V_:=by
  have e:=r2.length;rw[F.len _ _ _ _ hq]at e;exact e.symm
 refine wpAny_call (c1e (f:=f) I.kIn M.makes M.init (NE.mp M.fn) (QZ (F.run _ X.stack _ _ ⟨Value.ref ag!::us,[]⟩ tV_ _ _ E (hr.make C us [])
  (I2.env0.make C us []) (hb _ (Value.ref ag!::us) I2.kIn hl) r2 hq) λr s' a8=>?_))
 cases r with
 |error e=>exact J h1 Z _ _ e s' I2 a8
 |ok fl=>
  cases fl with
  |ret u=>
   obtain⟨v,H',I3,rv,ev,q3⟩:=I2.after a8;subst ev;exact⟨rv,⟨V.ref ag!,H',I3,rfl,q3⟩⟩
  |next=>exact False.elim a8
  |brk=>exact False.elim a8
  |cont=>exact False.elim a8
def c4x(M:nk!)(F:d1!)(hr:gG!)(hg:Y!)(hm:tX!)(hb:d1_)(hd:d2!)(J:d2_)
  (ha:e6!)(bg:F_:=by decide)(he:ay_:=by rfl)(a7:a6_:=by rfl):
  PE X bB! (Zl C sp dvs E t):=by
 show"!K";refine LJ ni!;refine W.callWith_K (h₀:=X.base) I.ok.mod.kin M.kp tN_ he a7;exact a6o M F hr hb hd J I1 r q
def c0a(M:nk!)(F:d1!)(hr:gG!)(hg:Y!)(hm:tX!)(hb:d1_)(hd:d2!)(J:d2_)
  (bg:F_:=by decide):PE X tX_ (Zl C sp dvs E Zz):=by
 show"!K";refine LJ ni!;exact W.callWith_K0 I.kIn M.kp (a6o (us:=[]) M F hr hb hd J I .nil h)
end
structure Ai(N P:q!)(sc:Scope):Prop where
 kind:sc.kind=.function
 co:sc.isCoroutine=false
 gen:sc.isGenerator=false
 nd:N.Nodup
 pre:N.take P.length=P
 par:∀x∈P,sc.names.lookup x=some .local\/sc.names.lookup x=some .cell
 nofree:∀y∈sc.names,y.2≠.free
def a1u{kindOf:i6!}{x:Str}:∀{binds:dZ_} {m:z!},tY!->bindL kindOf binds m x=m x
 |[],_,_=>rfl
 |(n,v)::r,m,h=>by
  unfold bindL;rw[a1u λw hw=>h w (HL _ hw)];split
  .have:x≠n:=by rintro rfl;exact h v HP
   simp[this]
  .rfl
def a1w{kindOf:i6!}{x:Str}:∀{binds:dZ_} {m:z!},tY!->bindC kindOf binds m x=m x
 |[],_,_=>rfl
 |(n,v)::r,m,h=>by
  unfold bindC;rw[a1w λw hw=>h w (HL _ hw)];split
  .rfl
  .have:x≠n:=by rintro rfl;exact h v HP
   simp[this]
def a1v{kindOf:i6!}{x:Str}{v:yB!}:∀{P:q!} {vs:i_} {i:Nat} {m:z!},P.Nodup->P[i]?=some x->vs[i]?=some v->kindOf x=some .local->
  bindL kindOf (P.zip vs) m x=some v
 |[],_,_,_,_,h,_,_=>by simp at h
 |_::_,[],_,_,_,_,h,_=>by simp at h
 |p::P,w::vs,0,m,nd,Y,L,hk=>by
  simp at Y L;subst Y;subst L;show bindL kindOf i6_ m p=_;unfold bindL;rw[a1u λv hv=>(i7!).1 (RT hv).1,aO_];simp
 |p::P,w::vs,i+1,m,nd,Y,L,hk=>by
  show bindL kindOf i6_ m x=_;unfold bindL;exact a1v (i:=i) (i7!).2 t0! t0_ hk
def a1x{kindOf:i6!}{x:Str}{v:yB!}:∀{P:q!} {vs:i_} {i:Nat} {m:z!},P.Nodup->P[i]?=some x->vs[i]?=some v->kindOf x≠some .local->
  bindC kindOf (P.zip vs) m x=some v
 |[],_,_,_,_,h,_,_=>by simp at h
 |_::_,[],_,_,_,_,h,_=>by simp at h
 |p::P,w::vs,0,m,nd,Y,L,hk=>by
  simp at Y L;subst Y;subst L;show bindC kindOf i6_ m p=_;unfold bindC;rw[a1w λv hv=>(i7!).1 (RT hv).1,aF!];simp
 |p::P,w::vs,i+1,m,nd,Y,L,hk=>by
  show bindC kindOf i6_ m x=_;unfold bindC;exact a1x (i:=i) (i7!).2 t0! t0_ hk
def Na(N:q!)(vs:n!):St:=vs.map some++List.replicate (i7_ - bA_) none
def Ph(CX:Wr)(P:yO!)(w:yC!)(K:yQ!)(mg:z!)(base:Heap)(N:q!)(qual:Str)(scope:Scope)(f:xT!)(cd:yB!)(A:yn!)(outer:aw_)(s:yP!)(H:Hp)(E:XK):Cx where
 prog:=P
 w:=w
 K:=K
 mg:=mg
 base:=base
 A:=A.deeper gH_
 N:=N
 s₀:=s
 H₀:=H
 env:=envOfC qual scope s.heap.objs.size f cd
 outer:=outer
 stack:=envOfC qual scope s.heap.objs.size f cd::outer
 ex:=[]
 calm:=true
 fn:=λ_=>true
 pn:=[]
 xe:=λe s'=>wpAny G_ (A.deeper gH_) (leaving gH_ e) (λ_ yr=>CX outer H s E e yr) (λe' yr=>CX outer H s E e' yr) s'
def a9k{sc:Scope}{n:Nat}{x:Str}(h:sc.names.lookup x=some .cell):∃c,(cellsFrom n sc.names []).lookup x=some c:=by have q:=W.cellsFrom_some sc.names n [] iy_;exact PR.mp q
def b7f{CX:Wr}{P:yO!}{w:yC!}{K:yQ!}{mg:z!}{base:Heap}{ps:q!}{scope:Scope}{f:xT!}{A:yn!}{outer:aw_}{s:yP!}{H:Hp}{E:XK}{vs:n!}
  (S:Ai N ps scope)(hd:dc!)(e0:nf!)(hl:bA_=V_)(r:eN!)
  (x:InCallC s s.heap.objs.size (bindL (gH_).kindOf da_ λ_=>none) t1_ (bindC (gH_).kindOf da_ λ_=>none) s1):
  Inv t2! [] gI_ H s1:=by
 have a7:V_<=i7_:=by have:=congrArg List.length S.pre;rw[QE]at this;omega
 obtain⟨Y,tk,rfl,hk⟩:=x.done;have sn:∀b:Addr,b∉(t2!).ex:=λb z=>absurd t3! d!;refine⟨⟨e0.mod,S.kind,rfl,rfl,IM _,λy z c Y L=>?_,λy hy=>?_,λy c _ h=>?_,λ_=>hd,Around.frames_deeper e0.frames,.inr bi_,t4_,e0.bs,e0.bsz,λb _ _=>sn b,t4_,e0.funs,e0.frf⟩,
  rfl,e0.bare,Un.kept hk,⟨_,x.toInCall.ns,λi y v Y L h3=>?_⟩,λy c h=>⟨_,x.cell y c h⟩,e0.hok.fresh y!,λy c h=>?_,λp hp=>absurd (show p∈([]:List eK_)from hp) d!,e0.hok.kept hk,?_⟩
 .exact name_of_addr x.apart (LL Y) (LL L)
 .have hy:scope.names.lookup y=some .cell\/scope.names.lookup y=some .free:=hy;obtain hy|hy:=hy
  .exact a9k hy
  .exact absurd rfl (S.nofree _ (LL hy))
 .exact MV t6!
 .have hi:i<bA_:=by
   unfold Na at L;by_cases hi:i<bA_
   .exact hi
   .rw[e6_]at L;rw[OA]at L;split at L<;>cases L
  have ha:vs[i]?=some v:=by
   unfold Na at L;rw[JZ gJ!,JC]at L;cases e:vs[i]? with
   |none=>rw[e]at L;cases L
   |some a=>rw[e]at L;cases L;rfl
  obtain⟨u,hu,rv⟩:=r.get ha;have hp:ps[i]?=some y:=by
   rw[<-S.pre,List.getElem?_take_of_lt a!];exact Y
  have UJ:ps.Nodup:=by rw[<-S.pre];exact S.nd.sublist (List.take_sublist _ _)
  refine⟨u,rv,?_⟩;obtain k|k:=S.par y (NP hp)
  .exact .inl ⟨k,a1v UJ hp hu k⟩
  .obtain⟨c,e⟩:=a9k (n:=o_+1) k;refine .inr ⟨.inl k,c,e,?_⟩;have q:=x.cell y c e;rw[a1x UJ hp hu (by show scope.names.lookup y≠_;rw[k];decide)]at q;exact q
 .exact e0.hok.fresh (MV t6!)
 .unfold Na;show _=i7_;rw[IG,IK,MZ];omega
def d3o{CX:Wr}{P:yO!}{w:yC!}{K:yQ!}{mg:z!}{base:Heap}{k:Nat}{f:xT!}{name:Str}{params:Arguments}{body:b2!}{kV:yB!}{an od:a7_}
  {eh:b7!}{ps:q!}{sp:Sp}(lk:K.lookup f=some ⟨oc,od,.func t7_,eh⟩)(bz:i9!)(S:Ai N ps scope)
  (len:t8_)
  (p6:∀(A:yn!) (outer:aw_) (s:yP!) (H:Hp) (vs:n!) (Q:VK) (E:XK),Al k (A.deeper (envOfC qual scope s.heap.objs.size f ag))->sp vs H Q E->
   ∃t,Uo nm! body t/\t {nx:=λ_ H'=>Q .non H',rt:=Q} gI_ H):
  Fo P w K mg base CX V! f t7_ ps sp:=by
 refine⟨len,λA outer s H args us vs Q E hr e0 hb r jh=>?_⟩;have hl:=len _ _ _ _ jh;have KX:K.In s.heap:=e0.mod.kin.keeps λb o e=>(e0.bs b o e).1;have au:s.heap.NoLimit:=e0.mod.nolimit.keeps λb o e=>(e0.bs b o e).1;have cm:∀y∈ps.zip us,scope.names.lookup y.1=some .local\/(scope.names.lookup y.1=some .cell/\((t1_).lookup y.1).isSome=true):=λ⟨n,v⟩ hy=>by
  obtain q|q:=S.par n (RT hy).1
  .exact .inl q
  .exact .inr ⟨q,W.cellsFrom_some _ _ _ (.inl q)⟩
 refine codeAny_call_function hr.depth (KX _ _ lk) rfl S.co S.gen rfl (W.codeRec_of KX bz) (hb _ _ _ _ ?_);refine wpAny_newFunctionEnv_cells S.kind cm λenv he s1 x=>?_;subst he;refine⟨au.keeps x.toInCall.keep,codeAny_func ?_⟩;obtain⟨t,ht,hq⟩:=p6 A outer s H vs Q E (hr.deeper _) jh;have I:Inv nm! [] gI_ H s1:=b7f S hr.hd e0 hl r x;refine KJ (ht [] s1 gI_ H _ I hq) (λfl s' hs=>?_) λe s' hs=>hs;have fin:∀{σ:St} {H':Hp} {v:V} {u:yB!},Inv nm! [] σ H' s'->Bu v u->Q v H'->CE outer P w H s Q u s':=
  λ{σ H' v u} af rv q=>⟨v,H',af.os,af.bare,af.base,af.hok,rv,q⟩
 cases fl with
 |ret u=>
  obtain⟨v,σ,H',af,rv,q⟩:=hs;exact fin af rv q
 |next=>
  obtain⟨σ,H',af,q⟩:=hs;exact fin (v:=V.non) (u:=dE_) af rfl q
 |brk=>
  obtain⟨_,_,_,q⟩:=hs;exact False.elim q
 |cont=>
  obtain⟨_,_,_,q⟩:=hs;exact False.elim q
end L2
namespace L2
open PySem PySem.Spec PyProof.Rows
section
variable{X:Cx}{x:Str}{p pos:Pos}{e:Expr}{es:List Expr}{t:TA}{id T:String}{r:List V->Hp->VK->Prop}
def FW(r:dT_)(t:TA):TE:=λZ H Q=>t Z H λvs H1=>r vs H1 Q
def wY(hc:m9!)(hg:Y!)(hm:c3_)(hv:nn_)(ha:e6!)(hn:c4!:=by decide)(bg:F_:=by decide)
  (he:ay_:=by rfl)(a7:a6_:=by rfl):PE X bB! (FW r t):=by
 show"!K";refine LJ ud!;exact PyProof.Rows.callWith_builtin1 ud_ he a7
def b6l(hc:Kg X d3! r)(hg:Y!)(hm:c3_)(hv:no!)(ha:e6!)(hn:c4!:=by decide)(bg:F_:=by decide)
  (he:ay_:=by rfl)(a7:a6_:=by rfl):PE X bB! (FW r t):=by
 show"!K";refine LJ ud!;exact LM ud_ he a7
end
end L2
namespace HT
open PySem PyProof.Rows
nonrec def lexLt:List Int->List Int->Bool
 |[],[]=>false
 |[],_::_=>true
 |_::_,[]=>false
 |x::xs,y::ys=>if x=y then lexLt xs ys else decide (x<y)
def lexLt_cons(x y:Int)(xs ys:w_):lexLt e4_ (y::ys)=if x=y then lexLt xs ys else decide (x<y):=rfl
def lexLt_nil_nil:lexLt [] []=false:=rfl
def xR(y:Int)(ys:w_):lexLt [] (y::ys)=true:=rfl
def xS(x:Int)(xs:w_):lexLt e4_ []=false:=rfl
def c2k(A:yn!)(s:yP!)(a:Int)(t:Tok)(c:Int)(u:Tok):∃e,SeqAt.EqAt A s gK_ np! e/\(e=true↔a=c):=
 ⟨(a==c),QC a t c u,H!⟩
section
open PySem.SeqAt
open PySem.AutoSeq1 (wpAny_loadPart')
open PySem.MeetsSeq PySem.MeetsSeq2 PySem.MeetsSeq3
end
section
variable{prog:yO!}{w:yC!}{A:yn!}{E:Value->Shared->Prop}{s:yP!}
def cat_tup{t b:xT!}{vs ws:i_}{Q:q_}(ht:IsTup s.heap t cy_)(hb:IsTup s.heap b ws.toArray)(hv:vs≠[])
  (Y:ws=[]->Q ja! s)(L:ws≠[]->Q c6_ {s with heap:=s.heap.push {cls:=.type "tuple",data:=.seq (vs++ws).toArray}})
  (hsz:bA_+np_<=sizeLine):wpAny r_ A (binaryOp .Add ja! d3_) Q E s:=by
 obtain⟨⟨cls,dd,data,sl⟩,ho,hc,n,hd⟩:=id ht;obtain⟨⟨UK,lj,data2,ji⟩,jj,iq,n2,jk⟩:=id hb;simp only at hc hd iq jk;subst hc hd iq jk;have e:cy_++ws.toArray=(vs++ws).toArray:=by simp
 by_cases hw:ws=[]
 .exact concat_meets jb! jb_ noFill_tuple_add seq_tuple_add QG PY (PQ _ _)
   (tuple_addW1 t b vs.toArray ws.toArray n n2 dd lj sl ji jc! (by simp[hw])) ⟨ho,jj,Y hw⟩
 .refine concat_meets jb! jb_ noFill_tuple_add seq_tuple_add QG PY (PQ _ _)
   (tuple_addW2 t b vs.toArray ws.toArray n n2 dd lj sl ji jc! nq! (by rw[HS,HS];exact hsz)) ⟨ho,jj,?_⟩
  rw[e];exact L hw
nonrec def sIx(n d:Nat):Option Int->Nat
 |none=>d
 |some v=>if v<0 then(nr!).toNat else min v.toNat n
def sIx_none(n d:Nat):sIx n d none=d:=rfl
def sIx_nat(n d k:Nat):sIx n d (some (k:Int))=min k n:=by show(if(k:Int)<0 then((k:Int)+(n:Int)).toNat else min (k:Int).toNat n)=min k n;rw[HQ a!,NJ]
def c8m(n d:Nat)(hd:d<=n)(o:a8_):sIx n d o<=n:=by
 cases o with
 |none=>exact hd
 |some v=>
  show ui!<=n;by_cases hv:v<0
  .rw[IB hv];omega
  .rw[HQ hv];exact Nat.min_le_right _ _
def b5e(v:Int)(n d:Nat):ui_=((sIx n d dI_:Nat):Int):=by
 show ui_=((ui!:Nat):Int);by_cases hv:v<0
 .simp only[IB hv];omega
 .simp only[HQ hv];omega
def b2n(lo hi:a8_)(n:Nat):Builtin.Slice.sliceAdjust lo hi 1 (n:Int)=(jc_,uk!):=by
 have Y:¬((1:Int)<0):=by omega
 unfold Builtin.Slice.sliceAdjust;simp only[Y,JL];refine Prod.ext ?_ ?_
 .cases lo with
  |none=>rfl
  |some v=>exact b5e v n 0
 .cases hi with
  |none=>rfl
  |some v=>exact b5e v n n
def b0z(i j:Nat):Builtin.Slice.slicePlaces (i:Int) (j:Int) 1=j - i:=by
 unfold Builtin.Slice.slicePlaces;have Y:(1:Int)>0:=by omega
 simp only[Y,JT,Int.ediv_one];split<;>omega
def wK{v:yB!}{o:a8_}{Q:Option Int->Shared->Prop}(p:IsPart v o)(h:Q o s):wpAny r_ A (Builtin.Slice.slicePartIndex v) Q E s:=by
 cases p with
 |none=>exact slicePart_none h
 |int i t=>exact slicePart_int h
def sA{lo hi:a8_}{n:Nat}{Q:Int×Int×Nat->Shared->Prop}(hs:uk_)(pl:IsPart vl lo)(pu:IsPart vu hi)
  (h:Q (jc_,1,sIx n n hi - sIx n 0 lo) s):wpAny r_ A (Builtin.Slice.sliceApplied jd! (pure (n:Int))) Q E s:=by
 obtain⟨os,fq,p7,v9⟩:=id hs;unfold Builtin.Slice.sliceApplied Builtin.Slice.sliceFields;refine HI (HI (LB fq v9 (x:=vl) rfl (HI (LB fq v9 (x:=vu) rfl (HI (LB fq v9 (x:=.none) rfl ac!))))));refine HI (slicePart_none ?_);show wpAny _ _ (if((1:Int)==0)=true then _ else _) _ _ s;rw[HQ b_];refine HI (wK pl (HI (wK pu (HI ac!))));show wpAny _ _ (match Builtin.Slice.sliceAdjust lo hi 1 (n:Int)with|(lo,hi)=>pure (lo,(1:Int),Builtin.Slice.slicePlaces lo hi 1)) _ _ s;rw[b2n lo hi n];show wpAny _ _ (pure (jc_,(1:Int),Builtin.Slice.slicePlaces jc_ uk! 1)) _ _ s;rw[b0z];exact HK h
def b9p(xs:ae_)(i k:Nat):((List.range k).filterMap λ(m:Nat)=>xs[(nt_).toNat]?).toArray=((xs.toList.drop i).take k).toArray:=by
 have e:(λ(m:Nat)=>xs[(nt_).toNat]?)=λm=>xs[i+m]?:=by
  funext m;have:(nt_).toNat=i+m:=by omega
  rw[this]
 rw[e];have:=pick_run xs i k;rw[List.filterMap_map]at this;have e2:((λx=>xs[x]?)∘λx=>i+x)=λm=>xs[i+m]?:=rfl;rw[e2]at this;rw[this]
def getItem_tuple_cut{t:xT!}{items:ae_}{lo hi:a8_}{Q:q_}(ht:IsTup s.heap t items)(hs:uk_)(pl:IsPart vl lo)(pu:IsPart vu hi)
  (hw:¬(sIx items.size 0 lo=0/\sIx items.size items.size hi=dd_))
  (h:Q c6_ {s with heap:=s.heap.push {cls:=.type "tuple",data:=.seq (nu_).toArray}})
  (hsz:dd_<=sizeLine):wpAny r_ A (getItem ja! jd!) Q E s:=by
 have we:sizeOk (.seq (nu_).toArray):=by
  show(nu_).toArray.size<=sizeLine;rw[HS,QE,RL,JU];omega
 have hj:sIx items.size items.size hi<=dd_:=c8m _ _ y! hi;obtain⟨os,fq,p7,v9⟩:=id hs;have YR:s.TypeIs jd! "slice":=⟨os,fq,p7⟩;unfold getItem
 try with_reducible refine JN ?_
 first|refine HI ac!|skip
 refine HI (wpAny_sequenceKey ht.typeIs b_ ?_);refine HI (JY (name:=ut!) ht.typeIs OG
  (JO OG ht.typeIs entry_tuple_getitem ?_ (args_tuple_getitem _ _)))
 show wpAny _ _ (Builtin.Tuple.tupleItemsOf ja!>>=_) _ _ s;refine HI (tupleItemsOf_ ht ?_);refine HI (wpAny_typeOf YR ?_);rw[IB b_];refine HI (sA hs pl pu ?_);have sv:¬(uu_=true):=by
  intro q;rw[IZ,IZ]at q;have q1:uu!=0:=eq_of_beq q.1.1;have q2:sIx items.size items.size hi - sIx items.size 0 lo=dd_:=eq_of_beq q.2;exact hw ⟨v!,v!⟩
 show wpAny _ _ (if uu_=true then _ else _) _ _ s;rw[HQ sv,b9p]
 first
  |exact HI (m:=jf!) (KN jf_ we)
  |exact HI (m:=jf!) (KN (HI (HK jf_)) we)
  |exact HI (HI (m:=jf!) (KN (HK jf_) we))
  |exact HI (HI (m:=jf!) (KN jf_ we))
end
end HT
namespace L2
open PySem PySem.Spec PyProof.Rows
abbrev TO:=St->Hp->(Option Int->Hp->Prop)->Prop
def PO(X:Cx)(e:Option Expr)(t:TO):Prop:=
 ∀(h1:o!) (s:yP!) (Z:St) (H:Hp) (Q:uw_),Inv X h1 Z H s->t Z H Q->
  wpAny e_ X.A (evalPart e X.env) (λu s'=>∃o H',Inv X h1 Z H' s'/\IsPart u o/\Q o H') X.xe s
def Yi:TO:=λ_ H Q=>Q none H
def BK(t:TE):TO:=λZ H Q=>t Z H λx H1=>∃i,x=.int i/\Q (some i) H1
def yH{ns:w_}:∀{us:i_},Bc b8! us->IntsAre us ns:=by
 induction ns with
 |nil=>intro us r;rw[MY]at r;cases r;exact .nil
 |cons n ns ih=>
  intro us r;rw[IA]at r;cases r with
  |cons r1 r2=>
   obtain⟨t,e⟩:=r1;subst e;exact .cons n t (ih r2)
section
variable{X:Cx}{e:Expr}{te:TE}{lo hi:Option Expr}{tl th:TO}{pos p2:Pos}
def c4s:PO X none Yi:=by intro h1 s Z H Q I h;rw[evalPart_none];exact HK ⟨none,H,I,.none,h⟩
def c4r(h:cv!):PO X iA! (BK te):=by intro h1 s Z H Q I hw;rw[evalPart_some];refine dL ml! λu s1 ⟨x,H1,I1,r1,q1⟩=>?_;obtain⟨i,rfl,q⟩:=q1;obtain⟨t,rfl⟩:=r1;exact⟨K!,H1,I1,.int i t,q⟩
def Zt(X:Cx)(r:jh!):Prop:=
 ∀(h1:o!) (s:yP!) (Z:St) (H:Hp) (x:V) (v vl vu:yB!) (lo hi:a8_) (sl:xT!) (Q:VK),Inv X h1 Z H s->Bu x v->s.heap.IsSliceOf sl vl vu .none->IsPart vl lo->IsPart vu hi->r x lo hi H Q->
  ∃T id,typeLookup d3! "__getitem__"=pure (some e7_)/\s.TypeIs v T/\wpAny e_ X.A (getItem v jd!) aL_ X.xe s
def Zt.or{r r':jh!}(h:Zt X r)(h':Zt X r'):Zt X (λx lo hi H Q=>r x lo hi H Q\/r' x lo hi H Q):=by
 intro h1 s Z H x v vl vu lo hi sl Q I rx hs pl pu q;obtain q|q:=q
 .exact h h1 s Z H x v vl vu lo hi sl Q I rx hs pl pu q
 .exact h' h1 s Z H x v vl vu lo hi sl Q I rx hs pl pu q
def GQ(r:jh!)(te:TE)(tl th:TO):TE:=λZ H Q=>te Z H λx H1=>tl Z H1 λl H2=>th Z H2 λu H3=>r x l u H3 Q
def b9v{r:jh!}(hr:Zt X r)(he:cv!)(hl:PO X lo tl)(hu:PO X hi th):PE X (.Subscript e nx_ pos) (GQ r te tl th):=by intro h1 s Z H Q I h;refine Subscript_ sc!;refine wpAny_Slice (dL (hl h1 s1 Z H1 _ I1 q1) λvl s2 ⟨l,H2,I2,pl,q2⟩=>dL (hu h1 s2 Z H2 _ I2 q2) λvu s3 ⟨u,H3,I3,pu,q3⟩=>?_);rw[evalPart_none];refine HK ?_;have I4:Inv X h1 Z H3 {s3 with heap:=s3.heap.push {cls:=.type "slice",data:=.fields #[vl,vu,.none]}}:=I3.kept (t':=s3.toks) λb ob q=>HM _ q;obtain⟨T,id,hT,ht,hg⟩:=hr h1 {s3 with heap:=s3.heap.push {cls:=.type "slice",data:=.fields #[vl,vu,.none]}} Z H3 x v vl vu l u s3.heap.objs.size Q I4 r1 (Heap.IsSliceOf.new ..) pl pu q3;show wpAny e_ X.A (subscriptTail e nx_ v (.ref uA_)) aL_ X.xe {s3 with heap:=s3.heap.push {cls:=.type "slice",data:=.fields #[vl,vu,.none]}};exact tail_any (ops:=[.ref uA_,v]) ht hT hg (by with_unfolding_all rfl)
def Ul(xs:n!)(lo hi:a8_):List V:=(xs.drop nz_).take nA_
def uZ(xs:n!)(lo hi:a8_):(gN!).length<=l_:=by unfold Ul;rw[QE,RL];omega
def ES(K:yQ!):V->Option Int->Option Int->Hp->VK->Prop:=λx lo hi H Q=>∃a xs,x=.ref a/\Ge K H a xs/\
 ¬(HT.sIx xs.length 0 lo=0/\HT.sIx xs.length xs.length hi=l_)/\∀p,H p=none->Q da! (upd H p (.tup gN!))
def c8j:Zt X (ES X.K):=by
 intro h1 s Z H x v vl vu lo hi sl Q I rx hs pl pu h;obtain⟨a,xs,rfl,J,hw,q⟩:=h;cases rx;obtain⟨its,r,ht,hz⟩:=I.tuple J;have ap:bN_=l_:=by rw[HS];exact r.length.symm
 refine⟨"tuple",_,OG.lookup,ht.typeIs,?_⟩;refine HT.getItem_tuple_cut ht hs pl pu (by rw[ap];exact hw) ?_ (by rw[ap];exact hz);rw[ap];refine⟨de_,_,I.laid (t':=s.toks) (o:=.tup gN!) nC_ y! ?_,rfl,q _ gG_⟩;exact⟨uC_,_,uD!,IsTup.new _ _⟩
def Zo(K:yQ!):R2:=λx y H Q=>∃a b xs ys,x=.ref a/\y=.ref b/\Ge K H a xs/\Ge K H b ys/\xs≠[]/\l_+ac_<=sizeLine/\
 (ys=[]->Q af_ H)/\(ys≠[]->∀p,H p=none->Q da! (upd H p (.tup eJ_)))
def Bc.nil_iff{xs:n!}(r:ie!):us=[]↔xs=[]:=by
 cases r with
 |nil=>simp
 |cons _ _=>simp
def c5c:Gw X eZ_ (Zo X.K):=by intro h1 s Z H x y v u Q I rx ry h;obtain⟨a,b,xs,ys,rfl,rfl,ha,hb,J,hz,q1,q2⟩:=h;cases rx;cases ry;obtain⟨its,r1,p1,_⟩:=I.tuple ha;obtain⟨gr,r2,p2,_⟩:=I.tuple hb;refine HT.cat_tup p1 p2 (λz=>J (r1.nil_iff.mp z)) (λz=>⟨d0_,H,I,rfl,q1 (r2.nil_iff.mp z)⟩) (λz=>?_) (by rw[<-r1.length,<-r2.length];exact hz);refine⟨de_,_,I.laid (t':=s.toks) (o:=.tup eJ_) nC_ y! ?_,rfl,q2 (λw=>z (r2.nil_iff.mpr w)) _ gG_⟩;exact⟨by rw[IG];exact hz,_,r1.append r2,IsTup.new _ _⟩
end
end L2
namespace L2
open PySem PySem.Spec PyProof.Rows
def Dz(n:Nat)(i:Int):Option Nat:=if 0<=i then(if i<n then some i.toNat else none)else if -(n:Int)<=i then some (i+n).toNat else none
def Dc{α:Type}(xs:P_)(i:Int):Option α:=(Dz xs.length i).bind λj=>xs[j]?
def b4q{n:Nat}{i:Int}{j:Nat}(h:Dz n i=some j):seqIndex? i n=some j/\j<n/\-(n:Int)<=i/\i<n:=by
 unfold Dz at h;by_cases h0:0<=i
 .rw[IB h0]at h;by_cases Y:i<n
  .rw[IB Y]at h;have e:i.toNat=j:=JJ h;exact⟨by rw[seqIndex_of h0 Y,e],v!,v!,Y⟩
  .rw[HQ Y]at h;cases h
 .rw[HQ h0]at h;by_cases Y:-(n:Int)<=i
  .rw[IB Y]at h;have e:(i+n).toNat=j:=JJ h;exact⟨by rw[seqIndex_neg a! Y,e],v!,Y,v!⟩
  .rw[HQ Y]at h;cases h
def a5s{α:Type}{xs:P_}{i:Int}{v:α}(h:Dc xs i=some v):∃j,seqIndex? i l_=some j/\xs[j]?=some v/\j<l_/\-jl_<=i/\i<l_:=by
 unfold Dc at h;cases e:Dz xs.length i with
 |none=>rw[e]at h;cases h
 |some j=>
  rw[e]at h;obtain⟨Y,L,h3,h4⟩:=b4q e;exact⟨j,Y,h,L,h3,h4⟩
def Qh(b:Expr):Prop:=∀o i,subscripted b false o i=operate [o,i] (getItem o i)
def Wq(X:Cx)(r:R2):Prop:=
 ∀(value gd:Expr) (h1:o!) (s:yP!) (Z:St) (H:Hp) (x y:V) (v u:yB!) (Q:VK),Inv X h1 Z H s->Bu x v->Bu y u->r x y H Q->
  subscripted gd false v u=operate [v,u] (getItem v u)->wpAny e_ X.A (subscriptTail value gd v u) aL_ X.xe s
def GI(X:Cx)(id:String)(r:nF!):Prop:=
 ∀(h1:o!) (s:yP!) (Z:St) (H:Hp) (x:V) (xs:n!) (v:yB!) (us:i_) (Q:VK),Inv X h1 Z H s->Bu x v->Bc xs us->r x xs H Q->
  wpAny e_ X.A uK_ aL_ X.xe s
section
variable{X:Cx}{a b:Expr}{ta tb:TE}{pos:Pos}
def Wq.or{r r':R2}(h:Wq X r)(h':Wq X r'):Wq X sT!:=by
 intro value gd h1 s Z H x y v u Q I rx ry q hs;obtain q|q:=q
 .exact h value gd h1 s Z H x y v u Q I rx ry q hs
 .exact h' value gd h1 s Z H x y v u Q I rx ry q hs
def c0b{r:R2}(hr:Wq X r)(ha:a2_)(hb:cs!)(hs:Qh b):PE X nF_ iN!:=by intro h1 s Z H Q I h;exact Subscript_ (d1f ha hb I h λv u s2 x y H2 I2 rx ry q=>hr a b h1 s2 Z H2 x y v u Q I2 rx ry q (hs _ _))
def BX(K:yQ!):R2:=λx y H Q=>∃p xs i v,x=.ref p/\y=.int i/\Fx K H p xs/\Dc xs i=some v/\Q v H
def BV(K:yQ!):R2:=λx y H Q=>∃p xs i v,x=.ref p/\y=.int i/\Ge K H p xs/\Dc xs i=some v/\Q v H
def BW:R2:=λx y H Q=>∃z i c,x=.str z/\y=.int i/\jm_<=sizeLine/\Dc z.cps.toList i=some c/\Q gO! H
def b4p:Wq X (BX X.K):=by
 intro value gd h1 s Z H x y v u Q I rx ry h hs;obtain⟨p,xs,i,z,rfl,rfl,hq,he,q⟩:=h;cases rx;obtain⟨t,rfl⟩:=ry;show"!P";obtain⟨j,Y,L,h3,h4,h5⟩:=a5s he;obtain⟨w,ew,ak⟩:=r.get L;have hl:=aX!;have hn:=tL;have fin:EP X h1 Z Q w s:=uM_;by_cases h0:0<=i
 .have hj:i.toNat=j:=by
   rw[seqIndex_of h0 h5]at Y;exact JJ Y
  exact item_listR pl.isList h0 a! uL_ fin hs
 .have hj:(i+(bN_:Int)).toNat=j:=by
   rw[seqIndex_neg a! h4]at Y;rw[HS,<-hl];exact JJ Y
  exact subscriptTail_builtinR (x:=w) pl.isList.typeIs uN_
   (wpAny_getItem_list_neg (Q:=uO!) pl.isList a! uO_ a! uL_ ⟨rfl,fin⟩) hs
def c9x:Wq X (BV X.K):=by
 intro value gd h1 s Z H x y v u Q I rx ry h hs;obtain⟨p,xs,i,z,rfl,rfl,hq,he,q⟩:=h;cases rx;obtain⟨t,rfl⟩:=ry;obtain⟨its,r,pl,hz⟩:=I.tuple hq;obtain⟨j,Y,L,h3,h4,h5⟩:=a5s he;obtain⟨w,ew,ak⟩:=r.get L;have hl:=aX!;have hn:=tL;have fin:EP X h1 Z Q w s:=uM_;exact subscriptTail_builtinR (x:=w) pl.typeIs slot_tuple_getitem.lookup
  (getItem_tuple (j:=j) (Q:=uO!) pl a! a! (by rw[HS,<-hl];exact Y) (by simpa using ew) ⟨rfl,fin⟩) hs
def c9y:Wq X BW:=by
 intro value gd h1 s Z H x y v u Q I rx ry h hs;obtain⟨z,i,c,rfl,rfl,hz,he,q⟩:=h;obtain⟨t,rfl⟩:=rx;obtain⟨t',rfl⟩:=ry;obtain⟨j,Y,L,h3,h4,h5⟩:=a5s he;have hl:z.cps.toList.length=jm_:=by simp[Str.length]
 rw[hl]at Y h4 h5;have hn:=tL;exact tail_any (typeIs_str s z t) slot_str_getitem.lookup (getItem_str (c:=c) (by
  have e1:decide (i< -(2 ^ 63:Int))=false:=IF a!;have e2:decide (i>=2 ^ 63)=false:=IF a!;rw[e1,e2,Bool.or_false]) (by rw[Y];simpa using L) ⟨gO_,H,a3!,L!,q⟩) hs
def EV(K:yQ!):R2:=λx y H Q=>BX K x y H Q\/BV K x y H Q\/BW x y H Q
def aH:Wq X (EV X.K):=b4p.or (c9x.or c9y)
def b1n(its:i_)(n j:Nat)(u:yB!):Obj.mapSeq uQ! {cls:=.type "list",data:=.seq its.toArray n}={cls:=.type "list",data:=.seq (its.set j u).toArray n}:=by simp[Obj.mapSeq]
def Inv.lst{h1:o!}{Z:St}{H:Hp}{s:yP!}{p:xT!}{xs:n!}(I:d_)(h:H p=some T!):
  ∃(its:i_) (n:Nat),Bc xs its/\s.heap.get? p=some {cls:=.type "list",data:=.seq its.toArray n}/\l_<=sizeLine:=by
 obtain⟨z,its,n,r,e⟩:=I.hok p _ h;exact⟨its,n,r,e,z⟩
def Inv.lstUpd{h1:o!}{Z:St}{H:Hp}{s:yP!}{p:xT!}{xs ys:n!}{its its':i_}{n n':Nat}{f:Obj->Obj}(I:d_)(h:H p=some T!)
  (ho:s.heap.get? p=some {cls:=.type "list",data:=.seq its.toArray n})(hf:f {cls:=.type "list",data:=.seq its.toArray n}={cls:=.type "list",data:=.seq its'.toArray n'})(r:Bc ys its')(hz:jn!)(t:Nat):
  Inv X h1 Z (upd H p ba_) {s with heap:=s.heap.update p f,toks:=t}:=by
 have e:(s.heap.update p f).get? p=some {cls:=.type "list",data:=.seq its'.toArray n'}:=by
  rw[NU f ho (by rw[hf]<;>rfl),hf]
 refine I.write (x:=p) (e:=p) (by rw[h];trivial) G! (λb u hb q=>(uT_).trans q) ⟨_,e⟩ ?_;exact⟨hz,its',n',r,e⟩
def BR:V->V->V->Hp->ms_->Prop:=λo i v H Q=>∃p xs k j,o=.ref p/\i=.int k/\H p=some T!/\Dz xs.length k=some j/\Q uV!
def a6g:Wm X BR:=by
 intro h1 s Z H o i v ov iv u Q I ro ri rv h;obtain⟨p,xs,k,j,rfl,rfl,hp,hj,q⟩:=h;cases ro;obtain⟨t,rfl⟩:=ri;obtain⟨its,n,r,ho,hz⟩:=I.lst hp;obtain⟨Y,L,h3,h4⟩:=b4q hj;have hl:=aX!;have hn:=tL;have I':Inv X h1 Z uV! {s with heap:=s.heap.update p (Obj.mapSeq uQ!)}:=
  I.lstUpd hp ho (b1n its n j u) (r.set rv j) (by rw[LO];exact hz) s.toks
 by_cases h0:0<=k
 .have hk:k.toNat=j:=by
   rw[seqIndex_of h0 h4]at Y;exact JJ Y
  exact W.ki_setAt ho h0 a! (by rw[HS,<-hl];exact h4) uW_
 .have hk:(k+(bN_:Int)).toNat=j:=by
   rw[seqIndex_neg a! h3]at Y;rw[HS,<-hl];exact JJ Y
  exact W.ki_setBack ho a! (by rw[HS,<-hl];exact h3) a! uW_
def a2f(lo hi:a8_)(n:Nat):(nI!).1=((HT.sIx n 0 lo:Nat):Int)/\(nI!).2.1=((HT.sIx n n hi:Nat):Int)/\(nI!).2.2=1:=by
 refine⟨?_,?_,rfl⟩
 .cases lo with
  |none=>simp[sliceBounds,HT.sIx]
  |some i=>
   show"!o"
   .simp only[h,JT]<;>omega
   .simp only[h,JL]<;>omega
 .cases hi with
  |none=>simp[sliceBounds,HT.sIx]
  |some i=>
   show"!o"
   .simp only[h,JT]<;>omega
   .simp only[h,JL]<;>omega
def yY(its:i_)(lo hi:a8_):slicePick its.toArray lo hi none=((its.drop (HT.sIx its.length 0 lo)).take (HT.sIx its.length its.length hi - HT.sIx its.length 0 lo)).toArray:=by obtain⟨Y,L,h3⟩:=a2f lo hi bN_;unfold slicePick;rw[Y,L,h3];simp only[sliceRange_one,pick_run,HS]<;>rfl
def ET(K:yQ!):V->Option Int->Option Int->Hp->VK->Prop:=λx lo hi H Q=>∃a xs,x=.ref a/\Fx K H a xs/\∀p,H p=none->Q da! (upd H p (.lst gN!))
def c3x:Zt X (ET X.K):=by intro h1 s Z H x v vl vu lo hi sl Q I rx hs pl pu h;obtain⟨a,xs,rfl,J,q⟩:=h;cases rx;obtain⟨its,r,ht,hz⟩:=I.list J;have ap:=aX!;refine⟨"list",_,uN_,ht.isList.typeIs,?_⟩;refine wpAny_getItem_list_slice ht.isList hs pl pu .none d! ?_ uO_;rw[yY,<-ap];refine⟨de_,_,I.laid (t':=s.toks) (o:=.lst gN!) nC_ y! ?_,rfl,q _ gG_⟩;exact⟨uC_,_,0,uD!,dR_⟩
def Nm:V->Bool
 |.non=>true
 |.bl _=>true
 |.int _=>true
 |.str _=>true
 |_=>false
def Ya:V->V->Bool
 |.non,.non=>true
 |.bl a,.bl b=>a==b
 |.bl a,.int b=>u0!==b
 |.int a,.bl b=>a==u0_
 |.int a,.int b=>a==b
 |.str a,.str b=>a==b
 |_,_=>false
def d0f{A:yn!}{s:yP!}{y x:V}{u v:yB!}(ry:Bu y u)(rx:Bu x v)(fy:Nm y=true)(fx:Nm x=true):SeqAt.EqAt A s u v (Ya y x):=by
 cases y with
 |non=>
  cases ry;cases x with
  |non=>cases rx;exact SeqAt.EqAt.same _
  |bl b=>cases rx;exact SeqAt.EqAt.none_bool b
  |int b=>obtain⟨t,rfl⟩:=rx;exact SeqAt.EqAt.none_int b t
  |str b=>obtain⟨t,rfl⟩:=rx;exact SeqAt.EqAt.none_str b t
  |_=>exact absurd jn_ IN
 |bl a=>
  cases ry;cases x with
  |non=>cases rx;exact SeqAt.EqAt.bool_none a
  |bl b=>cases rx;exact SeqAt.EqAt.bool_bool a b
  |int b=>obtain⟨t,rfl⟩:=rx;exact SeqAt.EqAt.bool_int a b t
  |str b=>obtain⟨t,rfl⟩:=rx;exact SeqAt.EqAt.bool_str a b t
  |_=>exact absurd jn_ IN
 |int a=>
  obtain⟨t',rfl⟩:=ry;cases x with
  |non=>cases rx;exact SeqAt.EqAt.int_none a t'
  |bl b=>cases rx;exact SeqAt.EqAt.int_bool a t' b
  |int b=>obtain⟨t,rfl⟩:=rx;exact QC a t' b t
  |str b=>obtain⟨t,rfl⟩:=rx;exact SeqAt.EqAt.int_str a t' b t
  |_=>exact absurd jn_ IN
 |str a=>
  obtain⟨t',rfl⟩:=ry;cases x with
  |non=>cases rx;exact SeqAt.EqAt.str_none a t'
  |bl b=>cases rx;exact SeqAt.EqAt.str_bool a t' b
  |int b=>obtain⟨t,rfl⟩:=rx;exact SeqAt.EqAt.str_int a t' b t
  |str b=>obtain⟨t,rfl⟩:=rx;exact SeqAt.EqAt.str_str a t' b t
  |_=>exact absurd jn_ IN
 |_=>exact absurd (show false=true from fy) IN
def Yy(x:V)(u:yB!):Bool:=match u with
 |.none=>Ya .non x
 |.bool b=>Ya bK! x
 |.int i _=>Ya bw_ x
 |.str z _=>Ya (.str z) x
 |_=>false
def c2j{x y:V}{u:yB!}(r:Bu y u)(f:Nm y=true):Yy x u=Ya y x:=by
 cases y with
 |non=>cases r;rfl
 |bl b=>cases r;rfl
 |int i=>obtain⟨t,rfl⟩:=r;rfl
 |str z=>obtain⟨t,rfl⟩:=r;rfl
 |_=>exact absurd (show false=true from f) IN
def a5u{x:V}:∀{xs:n!} {us:i_},Bc xs us->xs.all Nm=true->us.any gQ!=xs.any λy=>Ya y x
 |_,_,.nil,_=>rfl
 |y::xs,u::us,.cons r t,f=>by
  rw[NI,IZ]at f;rw[MB,MB,c2j r f.1,a5u t f.2]
def xO{A:yn!}{s:yP!}{x:V}{v:yB!}(rx:Bu x v)(fx:Nm x=true):∀{xs:n!} {us:i_},Bc xs us->xs.all Nm=true->∀u∈us,SeqAt.EqAt A s u v (Yy x u)
 |_,_,.nil,_=>λu hu=>by cases hu
 |y::xs,u::us,.cons r t,f=>λu' hu=>by
  rw[NI,IZ]at f;obtain rfl|hu:=HN.mp hu
  .rw[c2j r f.1];exact d0f r rx f.1 fx
  .exact xO rx fx t f.2 u' hu
def DN(x:V)(xs:n!):Bool:=xs.any λy=>Ya y x
def EW(K:yQ!)(neg:Bool):R2:=λx y H Q=>∃p xs,y=.ref p/\(Fx K H p xs\/Ge K H p xs)/\Nm x=true/\xs.all Nm=true/\Q (.bl (if neg then !DN x xs else DN x xs)) H
def b6q:Gw X jo! (EW X.K false):=by
 intro h1 s Z H x y v u Q I rx ry h;obtain⟨p,xs,rfl,hq,fx,fs,q⟩:=h;cases ry;obtain hq|hq:=hq
 .show"!P";refine SeqAt.in_listAt gQ! pl.isList u2! fb!;rw[u2_,a5u r fs];exact q
 .show"!z";refine SeqAt.in_tupleAt gQ! pl u2! fb!;rw[u2_,a5u r fs];exact q
def a5p:Kg X d6! (λxs H Q=>∃p ys,xs=gR!/\(Fx X.K H p ys\/Ge X.K H p ys)/\∀l,H l=none->Q jp_ jo_):=by
 intro h1 s Z H xs us Q I r h;obtain⟨p,ys,rfl,hq,q⟩:=h;obtain⟨u,rfl,rx⟩:=uE r;cases rx;have fin:∀(its:i_),Bc ys its->ac_<=sizeLine->∀(h':Heap) (c':Nat),(∀b o',s.heap.get? b=some o'->h'.get? b=some o')->
   h'.get? o_=some {cls:=.type "list",dict:=none,data:=.seq its.toArray c',slots:=#[]}->EP X h1 Z Q c6_ {s with heap:=h'}:=λits r' hz h' c' kp e=>
  ⟨de_,_,I.laid (t':=s.toks) kp y! (show Fg X.prog X.w _ h' _ ba_ from⟨hz,its,c',r',e⟩),rfl,q _ gG_⟩
 obtain hq|hq:=hq
 .obtain⟨its,r',pl,hz⟩:=I.list hq;have ap:=iV_;obtain⟨o,ho,hc,n,hd⟩:=pl.isList;exact call_list_seq p G! ho hc hd u4! u5!
 .obtain⟨its,r',pl,hz⟩:=I.tuple hq;have ap:=iV_;obtain⟨o,ho,hc,n,hd⟩:=pl;exact call_list_seq p fb_ ho hc hd u4! u5!
def FQ(K:yQ!)(T:String)(x:V)(H:Hp):Prop:=match x with
 |.str _=>T="str"
 |.int _=>T="int"
 |.ref p=>(T="list"/\∃xs,Fx K H p xs)\/(T="tuple"/\∃o,K.lookup p=some o/\o.cls=.type "tuple"/\o.dict=none)\/
   (T="dict"/\((∃kvs,H p=some dX_)\/∃kvs,H p=some jq_))\/(T="set"/\∃S n,H p=some (.set S n))
 |_=>False
def c8g{h1:o!}{Z:St}{H:Hp}{s:yP!}{T:String}{x:V}{v:yB!}(I:d_)(r:Bu x v)(ty:FQ X.K T x H):
  s.TypeIs v T/\∀a,v=.ref a->∃ob,s.heap.get? a=some ob/\ob.dict=none:=by
 cases x with
 |str z=>
  obtain⟨t,rfl⟩:=r;cases (show T="str" from ty);exact⟨typeIs_str s z t,u6!⟩
 |int i=>
  obtain⟨t,rfl⟩:=r;cases (show T="int" from ty);exact⟨typeIs_int s i t,u6!⟩
 |ref p=>
  cases r;obtain⟨rfl,xs,hq⟩|⟨rfl,o,hk,hc,hd⟩|⟨rfl,hk⟩|⟨rfl,S,n,hk⟩:=ty
  .obtain⟨its,_,pl,_⟩:=I.list hq;refine⟨pl.isList.typeIs,λa e=>?_⟩;cases e;obtain⟨o,n,e,c,hd,_⟩:=pl;exact⟨o,e,hd⟩
  .refine⟨⟨o,I.kIn p o hk,hc⟩,λa e=>?_⟩;cases e;exact⟨o,I.kIn _ o hk,hd⟩
  .have z:∃o,s.heap.get? p=some o/\if_:=by
    obtain⟨kvs,hk⟩|⟨kvs,hk⟩:=hk
    .show"!v"
    .show"!v"
   obtain⟨o,e,ex⟩:=z;refine u7_;cases e2;exact u8_
  .obtain⟨o,_,_,_,e,ex,_⟩:=I.hok p _ hk;refine u7_;cases e2;exact u8_
 |_=>exact False.elim ty
def GT(K:yQ!)(T:String)(r:nF!)(to:TE)(t:TA):TE:=λZ H Q=>to Z H λx H1=>FQ K T x H1/\t Z H1 λxs H2=>r x xs H2 Q
variable{o e:Expr}{es:List Expr}{to:TE}{t:TA}{name:Str}{aj ah:Pos}{T id:String}{r:V->List V->Hp->VK->Prop}
def a0h(pa:PlainAttrs T)(slot:Slot T name id)(YS:typeOf e7_=pure (.type "method_descriptor"))(hm:GI X id r)(ho:PE X o to)(ha:e6!)
  (gu:attributeBase o name X.env dP_=eval o X.env:=by rfl)
  (gw:((backTo ah tP!).all cA!&&(cA_).all cB!
   &&decide ((aN_).length+(d6_).length+fc!<30))=true:=by rfl)
  (g7:d7!:=by rfl) (hs:ay_:=by rfl) (g8:(va_).any c_=false:=by rfl):
  PE X (.Call (.Attribute o name aj) aN_ [] ah) (GT X.K T r to t):=by
 show"!K";refine wpAny_Call_method_late gu gw g7 rfl (dL sa! λv s1 ⟨x,H1,I1,r1,ty,q1⟩=>?_);obtain⟨Y,L⟩:=c8g I1 r1 ty;refine⟨T,id,pa,slot,YS,Y,L,?_⟩;have hA:=ha ah h1 s1 Z H1 _ I1 q1;rw[hs]at hA ⊢;refine NK (by show(false||(va_).any c_)=false;rw[g8]<;>rfl) (NW ?_);exact dL hA λus s2 ⟨vs,H2,I2,r2,q2⟩=>hm h1 s2 Z H2 x vs v us Q I2 r1 r2 q2
end
end L2
namespace L2
open PySem PySem.Spec PyProof.Rows
def FJ(X:Cx)(id:String)(r:nF!):Prop:=
 ∀(h1:o!) (s:yP!) (Z:St) (H:Hp) (x:V) (xs:n!) (v:yB!) (us:i_) (Q:VK),Inv X h1 Z H s->Bu x v->Bc xs us->r x xs H Q->
  wpAny e_ X.A uK_ aL_ X.xe s
def Bc.one:∀{x:V} {us:i_},Bc [x] us->∃u,us=[u]/\Bu x u
 |_,_,.cons r .nil=>lN!
def Bc.rep{xs:n!}(h:ie!):∀k:Nat,Bc (vb_).flatten (List.replicate k us).flatten
 |0=>.nil
 |k+1=>by
  rw[LN,LN,NH,NH];exact Bc.append h (Bc.rep h k)
def a1c(its:i_):∀(k:Nat) (acc:i_),
  List.foldl nN! acc.toArray (List.replicate k bg_)=(acc++(vc!).flatten).toArray
 |0,acc=>by simp
 |k+1,acc=>by
  have e:acc.toArray++bg_=(nN_).toArray:=by simp
  have e2:nN_++(vc!).flatten=acc++(List.replicate V! its).flatten:=by
   rw[LN,NH,KA]
  rw[<-e2,<-a1c its k nN_,<-e,LN,OQ]
section
variable{X:Cx}{h1:List (Addr×Obj)}{Z:St}{H:Hp}{s:yP!}{l b:xT!}{xs ys zs:List V}
def Inv.lset{its its':i_}{n:Nat}{f:Array Value->Array Value}{t':Nat}(I:d_)(hH:H l=some T!)
  (e:s.heap.get? l=some {cls:=.type "list",data:=.seq its.toArray n})(hf:f bg_=its'.toArray)(hv:Bc ys its')(hz:jn!):
  Inv X h1 Z jo_ {s with heap:=s.heap.update l vd_,toks:=t'}:=by
 have q:=PySem.IsL.update e f;rw[hf]at q;refine I.write (x:=l) (e:=l) (by rw[hH];exact trivial) G! (λb' u hb hu=>(JI s.heap vd_ (HR hb)).trans hu) ⟨_,q⟩ ?_;exact⟨hz,its',_,hv,q⟩
def Inv.lnew{its:i_}{t':Nat}(I:d_)(hv:Bc ys its)(hz:jn!):
  Inv X h1 Z (upd H s.heap.objs.size ba_) {s with heap:=s.heap.push {cls:=.type "list",data:=.seq bg_},toks:=t'}:=
 I.laid vf! y! ⟨hz,its,0,hv,dR_⟩
def Inv.fresh(I:d_):H o_=none:=I.hok.fresh y!
def Inv.lstM(I:d_)(hH:H l=some T!):l_<=sizeLine/\∃(its:i_) (n:Nat),Bc xs its/\l_=gS!/\s.heap.get? l=some {cls:=.type "list",data:=.seq its.toArray n}:=by obtain⟨z,its,n,r,e⟩:=I.hok l _ hH;exact⟨z,its,n,r,aX!,e⟩
def a7m{n:Nat}(h:nP!):Builtin.List.listTooLong n=false:=by unfold Builtin.List.listTooLong;exact IF a!
end
section
variable{X:Cx}
def Yn:V->List V->Hp->VK->Prop:=λx vs H Q=>∃l xs y,x=.ref l/\vs=[y]/\H l=some T!/\l_<sizeLine/\Q .non (upd H l (.lst (xs++[y])))
def a0r:FJ X "list.append" Yn:=by intro h1 s Z H x vs v us Q I rx rv h;obtain⟨l,xs,y,rfl,rfl,hH,hz,q⟩:=h;cases rx;obtain⟨u,rfl,ru⟩:=rv.one;obtain⟨z,its,n,r,hl,e⟩:=I.lstM hH;refine call_meets F.slot_list_append d7_ F.entry_list_append (F.args_list_append_2 _ _) (PySem.list_append l its.toArray n u vg!) gS_;refine⟨.non,_,I.lset (its':=its++[u]) hH e d! (r.append vh_) ?_,rfl,q⟩;rw[IG,KZ];omega
def Ym:V->List V->Hp->VK->Prop:=λx vs H Q=>∃l b xs zs,x=.ref l/\vs=[.ref b]/\H l=some T!/\H b=some (.lst zs)/\l_+zs.length<=sizeLine/\Q .non (upd H l vi_)
def b7a:FJ X "list.extend" Ym:=by
 intro h1 s Z H x vs v us Q I rx rv h;obtain⟨l,b,xs,zs,rfl,rfl,hH,hB,hz,q⟩:=h;cases rx;obtain⟨u,rfl,ru⟩:=rv.one;cases ru;obtain⟨z,its,n,r,hl,e⟩:=I.lstM hH;obtain⟨z2,gr,n2,r2,UL,e2⟩:=I.lstM hB;have hsz:bN_+vj!<=sizeLine:=by rw[HS,HS];omega
 have yt:¬(! m1_&&Builtin.List.listTooLong (bN_+vj!))=true:=by
  rw[a7m hsz,QQ];exact IN
 refine call_meets F.slot_list_extend d7_ F.entry_list_extend (F.args_list_extend_2 _ _)
  (AutoSeq1.list_extend_list_list_0 l its.toArray n b gr.toArray n2 yt vg! a!) ⟨e,e2,?_⟩
 refine⟨.non,_,I.lset (its':=its++gr) hH e d! (r.append r2) ?_,rfl,q⟩;rw[IG];omega
def EU:R2:=λx y H Q=>∃l k xs,x=.ref l/\y=.int k/\H l=some T!/\-(2 ^ 63)<=k/\k<2 ^ 63/\l_*k.toNat<=sizeLine/\
 ∀p,H p=none->Q da! (upd H p (.lst (List.replicate k.toNat xs).flatten))
def c5m{α:Type}(xs:P_)(k:Nat):(vb_).flatten.length=k*l_:=by
 induction k with
 |zero=>simp
 |succ k ih=>rw[LN,NH,IG,ih,Nat.succ_mul,Nat.add_comm]
def c9a:Gw X sI_ EU:=by
 intro h1 s Z H x y v u Q I rx ry h;obtain⟨l,k,xs,rfl,rfl,hH,Y,L,hz,q⟩:=h;cases rx;obtain⟨t,rfl⟩:=ry;obtain⟨z,its,n,r,hl,e⟩:=I.lstM hH;have ap:bN_*k.toNat<=sizeLine:=by rw[HS,<-hl];exact hz
 have YT:¬bN_*k.toNat>(2 ^ 63 - 1) / 8:=by
  have:(sizeLine:Nat)<=(2 ^ 63 - 1) / 8:=by decide
  omega
 have yu:¬(!Builtin.List.listFitsIndex k)=true:=by
  rw[fitsIndex_both Y L];exact IN
 have yt:¬Builtin.List.listTooLong (bN_*k.toNat)=true:=by
  rw[a7m ap];exact IN
 have p8:List.foldl nN! #[] (List.replicate (if m1_=true then 0 else k.toNat) bg_)=(List.replicate k.toNat its).flatten.toArray:=by
  have f0:∀m:Nat,List.foldl nN! #[] (List.replicate m bg_)=(List.replicate m its).flatten.toArray:=λm=>by
   have:=a1c its m [];rw[KO]at this;exact this
  rw[f0];cases its with
  |nil=>simp
  |cons a r'=>rw[am_]
 refine wpAny_binaryOp_repeat_ref (T:="list") (U:="int") b_ d7_ (λs'=>typeIs_int s' k t) noFill_list_mul F.fills_int_mul F.slot_int_rmul repeat_list F.slot_int_index.lookup
  (call_meets F.slot_int_rmul (typeIs_int s k t) F.entry_int_rmul (F.args_int_rmul_2 _ _) (int___rmul___int_list k t l its.toArray n)
   ⟨e,rfl,d7_,call_meets F.slot_list_mul d7_ F.entry_list_mul (F.args_list_mul_2 _ _) (AutoListH.list___mul___list_int_3 l its.toArray n k t yu YT yt) gS_⟩)
 rw[p8];exact⟨.ref _,_,I.lnew (t':=s.toks) (r.rep k.toNat) (by rw[c5m,Nat.mul_comm];exact hz),rfl,q _ I.fresh⟩
end
end L2
namespace L2
open PySem PySem.Spec PyProof.Rows
section
variable{κ:Type} [DecidableEq κ]
def Nz(kvs:gx_)(k:κ):Option V:=(kvs.find? λkv=>decide (kv.1=k)).map A_
def b8a{p:κ×V}{r:gx_}{k:κ}(e:p.1=k):Nz (p::r) k=some p.2:=by simp[Nz,LQ,e]
def b8b{p:κ×V}{r:gx_}{k:κ}(e:¬p.1=k):Nz (p::r) k=Nz r k:=by simp[Nz,LQ,e]
def Ou.isSome_eq{o:Option V}{u:m8_}(r:Ou o u):o.isSome=u.isSome:=by
 cases o with
 |none=>cases u with
  |none=>rfl
  |some _=>exact(iY_).elim
 |some _=>cases u with
  |none=>exact(iY_).elim
  |some _=>rfl
def KV.val{kvs:gx_}{vs:List lN_}(r:KV kvs vs)(k:κ):Ou (Nz kvs k) (valueAt vs k):=by
 unfold KV at r
 induction r with
 |nil=>exact i0!
 |@cons p q ps qs h t ih=>
  obtain⟨Y,L⟩:=h;by_cases e:p.1=k
  .have e':q.1=k:=Y.symm.trans e;have b:valueAt (q::qs) k=some q.2:=by simp[valueAt,LQ,e']
   rw[b8a e,b];exact L
  .have e':¬q.1=k:=λz=>e (Y.trans z);have b:valueAt (q::qs) k=valueAt qs k:=by simp[valueAt,LQ,e']
   rw[b8b e,b];exact ih
end
def c1r{P:yO!}{w:yC!}{k:Key}{u:yB!}(r:Bu (kV k) u):(bt_).is k u=true:=by
 cases k with
 |inl i=>obtain⟨t,e⟩:=tp!;subst e;exact a7t P w i t
 |inr x=>obtain⟨t,e⟩:=tp_;subst e;exact mQ P w x t
def tQ{P:yO!}{w:yC!}:∀{ks:List Key} {us:i_},Bc nQ_ us->ItemsAre bt_ ks us
 |[],_,r=>by rw[MY]at r;cases r;exact .nil
 |k::ks,_,r=>by
  rw[IA]at r;cases r with
  |cons h t=>exact .cons (c1r h) (tQ t)
abbrev KT(H:Hp):List (List Key×V)->List lO!->Prop:=Paired λp q=>p.1=q.1/\H q.2.1=some q0!/\Bu p.2 q.2.2
section
variable{P:yO!}{w:yC!}{H:Hp}{h:Heap}{a:xT!}
def d2g{u:HO}(ok:bu_)(e:Rd H a u):Fg P w H h a u:=e.ok ok
def a4u{ks:List Key}(ok:bu_)(e:H a=some (.tup nQ_)):(f4!).is h ks a:=by obtain⟨_,its,r,o,Y,L,n,h3⟩:=(show Fg P w H h a (.tup nQ_)from ok a _ e);exact⟨o,bg_,n,Y,L,h3,by simpa using tQ r⟩
def d3s{kvs:if!}(ok:bu_)(e:Rd H a jq_):aE!<=sizeLine/\dG_=false/\
  ∃xs,KT H kvs xs/\h.DictOfH f4! a xs:=by
 obtain⟨z,y,xs,r,o,es,ep,Y,L,h3,h4,h5⟩:=(show Fg P w H h a jq_ from d2g ok e);refine⟨z,y,xs,r,o,es,ep,Y,L,h3,h4,aG!,h5⟩;have all:∀{l:if!} {m:List lO!},KT H l m->∀x∈m,(f4!).is h x.1 x.2.1:=by
  intro l m q
  induction q with
  |nil=>intro x J;exact nomatch J
  |@cons p q ps qs hq t ih=>
   intro x J;obtain e|J:=HN.mp J
   .subst e;exact a4u ok (by rw[<-hq.1];exact hq.2.1)
   .exact ih x J
 exact all r x J
def yO{kvs:if!}(ok:bu_)(e:H a=some jq_):aE!<=sizeLine/\dG_=false/\
  ∃xs,KT H kvs xs/\h.DictOfH f4! a xs:=d3s ok (.inl e)
end
section
variable{X:Cx}{h1:List (Addr×Obj)}{Z:St}{H:Hp}{s:yP!}{a:xT!}{y v:V}{u r:yB!}{o:Option V}{A:yn!}{E:Value->Shared->Prop}
def Inv.big(I:d_):sysModules<o_:=by have h:mainGlobals<o_:=(I.mod.glob.keeps I.bk).lt;exact RJ b_ h
def c6r{h':Heap}{t':Nat}{ob:HO}(I:d_)(mu:CU (H a))(hs:vq!)(he:∃q,h'.get? a=some q)(new:Fg X.prog X.w (upd H a ob) h' a ob):
  Inv X h1 Z (upd H a ob) {s with heap:=h',toks:=t'}:=
 I.write (x:=a) (e:=a) mu G! (λb q hb z=>(hs.2 b hb).trans z) he new
end
def CT(i:Expr):Prop:=∀ov iv,subscripted i false ov iv=operate [ov,iv] (getItem ov iv)
def c3v{prog:yO!}{w:yC!}{A:yn!}{E:q_}{s:yP!}{value:Expr}{pos:Pos}{T id:String}{Q:q_}
  (hl:typeLookup d3! "__getitem__"=pure (some e7_))(hs:CT gd)
  (h:wpAny r_ A (eval value env) (λo al=>wpAny r_ A (eval gd env) (λi ao=>ao.TypeIs o T/\wpAny r_ A (getItem o i) Q E ao) E al) E s):
  wpAny r_ A (eval (.Subscript value gd pos) env) Q E s:=by
 refine Subscript_ (KJ h (λo al h₁=>KJ h₁ (λi ao sw=>?_) λ_ _ x=>x) λ_ _ x=>x);obtain⟨hT,sw⟩:=sw;unfold subscriptTail;refine HI ?_;rw[getitemInPython_of_ne hT.not_modules];refine HI (PN hT hl ?_);have fin:wpAny r_ A (subscripted gd false o i) (λr dz=>wpAny r_ A (letTemporaryGo value o r>>=λ_=>pure r) Q E dz) E ao:=by
  rw[hs o i];exact wpAny_operating (KJ sw (λr dz wf=>HI (wpAny_letTemporaryGo (HK wf))) λ_ _ x=>x)
 first
  |exact HK js_
  |exact HI (HK js_)
  |exact HI fin
structure M1(X:Cx)(o:Expr)(m:Str)(aj:Pos)(e:Expr)(ah:Pos):Prop where
 base:attributeBase o m X.env dP_=eval o X.env
 few:((jt_).all cA!&&(cA_).all cB!
  &&decide (([e]:List Expr).length+(d6_).length+fc!<30))=true
 line:nM_=true
 trees:backTo ah vt!=[e5!]
structure M2(X:Cx)(o:Expr)(m:Str)(aj:Pos)(e f:Expr)(ah:Pos):Prop where
 base:attributeBase o m X.env dP_=eval o X.env
 few:((backTo ah vu!).all cA!&&(cA_).all cB!
  &&decide (([e,f]:List Expr).length+(d6_).length+fc!<30))=true
 line:nM_=true
 trees:backTo ah vu!=[e5!,(false,eval f X.env)]
end L2
namespace Att
open PySem PySem.W PySem.Calls PyProof.Rows
def vK{P:Params}{h:Heap}:∀(ns:w_) (vs:i_),WellAll P h vs vu_->IntsAre vs ns:=by
 intro ns
 induction ns with
 |nil=>
  intro vs w;rw[MY]at w;cases w;exact .nil
 |cons n ns ih=>
  intro vs w;rw[IA]at w;cases w with
  |cons a b=>
   cases a;exact .cons _ _ (ih _ b)
def b5x{l:OpenLaw}{n:Nat}(hn:ju!){P:Params}{h:Heap}{args:List WData}
  (wg:l.row.toRowW.claim.pre args=true)(yw:WellAll P h yx args):
  ∃a vs ns,yx=[Value.ref a]/\args=[WData.list vu_]/\h.get? a=some {cls:=.type "list",data:=.seq cy_}/\IntsAre vs ns/\c9!<=n:=by
 have YU:WShape.hasAll [] args [.list .int]=true:=(vv!).1;have hc:l.pre.holds [] {args:=args}=true:=(vv!).2;obtain⟨d,r,rfl,Y,L⟩:=hasAllW_cons YU;obtain rfl:=hasAllW_nil L;obtain⟨xs,rfl,h3⟩:=hasW_list Y;obtain⟨ns,rfl⟩:=items_int h3;have ap:c9!<=n:=by
  unfold OpenLaw.pre at hc;have h4:(WTm.not (.lt (.lit (.int (n:Int))) (.len (.arg 0)))).holds [] {args:=[.list ju_]}=true:=by
   have h4:=(holds_andW hc).1;rw[hn]at h4;exact h4
  have h5:=condW_of h4 (w_not (w_lt w_lit (w_len_list (w_arg rfl))));rw[IK]at h5;refine Nat.le_of_not_lt λq=>?_;have q':(n:Int)<((c9!:Nat):Int):=by omega
  first
   |(rw[IV q']at h5;exact absurd h5 b_)
   |(simp at h5;omega)
 cases yw with
 |cons w1 w2=>
  cases w2;cases w1 with
  |list ho g9=>exact⟨_,_,ns,rfl,rfl,ho,vK ns _ g9,ap⟩
def b6h(l:OpenLaw)(args:List WData):l.row.toRowW.claim.post args gV_ args=true:=
 postW_of (r:=l.row.toRowW) (X:=(true==true))
  (show WShape.has [] gV_ .bool=true by first|rfl|decide|simp[WShape.has,WShape.arms,WShape.armsAll])
  (show(WTm.eq .res (.lit gV_)).value [] {args:=args,res:=some gV_,after:=args}=some (.bool (true==true))from w_eq_bool (w_res rfl) w_lit) rfl
def a9n{l:OpenLaw}{n:Nat}{XP:nS_}{YP:nT!}{d:DefRec}
  (hn:ju!)(sy:nT_)
  (call:∀(w:yC!) (s₀ al:yP!) (mg mb:z!) (fa:xT!) (o:Obj) (pm cd br:yB!) (a:xT!) (vs:i_) (ns:w_),
   Ground q yz [] XP w s₀ mg mb al.heap->YP w al.heap->
   al.heap.get? fa=some o->o.data=.func (docDef d.name d.params d.body d.scope pm cd br)->al.heap.CodeRec cd d.name->mg d.name=some fe!->
   al.heap.get? a=some {cls:=.type "list",data:=.seq cy_}->IntsAre vs ns->c9!<=n->al.gens=#[]->
   codeAny (model l.prog w) callerA nU_ nV_ al):
  WalkO q yz XP YP l.row.toRowW d [] nW!:=by
 intro w s₀ al mg mb G wj fa o pm cd br dV kV ho hd bz hD j6 hg args yx as wg hlay hrd yw hlo;obtain rfl:dV=.none:=Dflts.none hD sy;obtain rfl:kV=.none:=Dflts.noKw hD;obtain⟨a,vs,ns,rfl,rfl,y6,hints,ap⟩:=b5x hn wg yw;refine enter_call (QZ (call w s₀ al mg mb fa o pm cd br a vs ns G wj ho (fd_plain hd) bz j6 y6 hints ap hg) λr s' hq=>?_);obtain⟨rfl,L,h3,h4⟩:=hq;exact⟨.inl ⟨nW_,nW_,[],rfl,e3_,nW_,b6h l _,λ_=>⟨jv!,λ_ hm=>(nomatch hm)⟩⟩,L,h3,h4⟩
section
variable{prog:yO!}{w:yC!}{A:yn!}{E:Value->Shared->Prop}{s:yP!}{K:Frag}
end
end Att
namespace L2
open PySem PySem.Spec PyProof.Rows
def zV:∀{vs:i_} {ns:w_},IntsAre vs ns->Bc b8! vs
 |_,_,.nil=>.nil
 |_,_,.cons n t h=>.cons gW! (zV h)
def Zd(H:Hp):Prop:=∀b,H b=none\/∃o xs,H b=some (.frz o T!)
def c1k{P:yO!}{w:yC!}{K:yQ!}{mg mb:z!}{CX:Wr}{k:Nat}{a:xT!}{fd:FuncData}{x:Str}{sp:Sp}{al:yP!}{vs:i_}{ns:w_}
  (KX:K.In al.heap)(UM:al.heap.Ns mainGlobals mg)(hb:al.heap.Ns builtinsNs mb)(YV:∀x:Str,x≠"__name__"->mb x=bootBuiltins x)(YW:al.heap.NoLimit)(hg:al.gens=#[])
  (ha:al.heap.get? a=some {cls:=.type "list",data:=.seq cy_})(hi:IntsAre vs ns)(hl:tg!)(hr:nX!)
  (F:∀base:Heap,K.In base->base.Ns mainGlobals mg->Fo P w K mg base CX k fa fd [x] sp)(YX:∀(s:yP!) (u:yB!),BindsTo s fd jw_ [(x,u)])
  (jh:∀H:Hp,Zd H->Fx K H a b8!->sp bl! H jx! λ_ _ _=>False)
  (s9:∀H e s',CX [] H al nX_ e s'->False):
  codeAny G_ callerA nU_ nV_ al:=by
 have rv:=zV hi;have YY:=hi.length;have UN:∀H:Hp,Zd H->Fx K H a b8!->Ov P w H al.heap->(∀b,H b≠none->b=a)->(H a≠none->K.lookup a=none)->
   codeAny G_ callerA nU_ nV_ al:=by
  intro H hO hS hok hA hK;have UO:∀{b:xT!} {o:Obj},al.heap.get? b=some o->H b=none->(gW_).get? b=some o:=λe n=>c2a e n;have sn:∀{b:xT!} {o:Obj} {es:bO_} {ep:Nat},al.heap.get? b=some o->o.data=.dict es ep->H b=none:=λ{b o es ep} e d=>by
   cases q:H b with
   |none=>rfl
   |some u=>
    have e':b=a:=hA b b9_;subst e';rw[ha]at e;cases e;have d':Data.seq vs.toArray _=Data.dict es ep:=d;cases d'
  have wk:∀{b:xT!} {m:z!},al.heap.Ns b m->(gW_).Ns b m:=λ{b m} ⟨o,es,ep,e,d,r⟩=>⟨o,es,ep,UO e (sn e d),d,r⟩;have UP:K.In gW_:=λb o e=>UO (KX b o e) (by
   cases q:H b with
   |none=>rfl
   |some u=>
    have e':b=a:=hA b b9_;subst e';rw[hK b9_]at e;cases e)
  have hM:Mod K mg gW_:=⟨UP,wk UM,⟨mb,wk hb,YV⟩,let⟨mc,Y,L⟩:=YW;⟨mc,wk Y,L⟩⟩;have e0:Rr P w K mg gW_ callerA [] al H:=⟨rfl,hM,λb o e=>c5h e,PB (b7h _ _),trivial,λb hb=>absurd (show b∈t2_ from hb) d!,hok,.of_eq hg⟩;refine QZ ((F _ UP (wk UM)).run callerA [] al H nV! bl! bl! _ _ hr e0 (YX al af_) tT! (jh H hO hS)) λr s' h=>?_;cases r with
  |error e=>exact(s9 H e s' h).elim
  |ok fl=>
   cases fl with
   |next=>exact False.elim h
   |brk=>exact False.elim h
   |cont=>exact False.elim h
   |ret u=>
    obtain⟨v,H',os,bare,un,YZ,r',q⟩:=h;have q':v=.bl true:=q;subst q';obtain rfl:u=Value.bool true:=r';refine⟨rfl,OldK.of_keep λb o e=>?_,os,bare⟩;cases q:H b with
    |none=>exact un.keep b o e q (by intro z;exact absurd t3! d!) d!
    |some u=>
     obtain z|⟨ob,xs,z⟩:=hO b
     .rw[q]at z;cases z
     .have z2:=un.frzs b ob _ z;obtain⟨e1,_⟩:=hok b _ z;obtain⟨e2,_⟩:=YZ b _ z2;rw[e]at e1;cases e1;exact e2
 cases hk:K.lookup a with
 |some o=>
  have e:=KX a o hk;rw[ha]at e;cases e;refine UN (λ_=>none) (λ_=>.inl rfl) (.inr ⟨_,cy_,_,hk,rfl,rfl,rfl,by rw[HS,YY];exact hl,by simpa using rv⟩) (λb u z=>by have z':(none:Option HO)=some u:=z;cases z') (λb z=>absurd rfl z) λz=>absurd rfl z
 |none=>
  refine UN (λb=>if b=a then some (.frz {cls:=.type "list",data:=.seq cy_} (.lst b8!))else none) (λb=>?_) (.inl (.inr ⟨{cls:=.type "list",data:=.seq cy_},n_⟩)) (λb u z=>?_) (λb z=>?_) λ_=>hk
  .show"#6"
   .exact .inr ⟨_,_,IB hb⟩
   .exact .inl (HQ hb)
  .show"#6"
   .have z':=(IB hb).symm.trans z;cases z';subst hb;exact⟨ha,vB_,vs,_,rv,ha⟩
   .have z':=(HQ hb).symm.trans z;cases z'
  .show"#6"
   .exact hb
   .exact absurd (HQ hb) z
end L2
namespace L2
open PySem PySem.Spec PyProof.Rows
def c3p{l:W.OpenLaw}{n k:Nat}{XP:nS_}{YP:nT!}{d:DefRec}{K:vC!}{CX:World->Wr}{sp:World->Sp}{x:Str}
  (hn:ju!)(ip:nP!)(sy:nT_)(hr:nX!)
  (hY:vC_)
  (F:∀(w:yC!) (mg:z!) (fa:xT!) (h:Heap),(bP_).In h->h.Ns mainGlobals mg->mg d.name=some fe!->
   ∃fd:FuncData,vD!/\
    ∀base:Heap,(bP_).In base->base.Ns mainGlobals mg->Fo l.prog w bP_ mg base (CX w) k fa fd [x] (sp w))
  (jh:∀(w:yC!) (H:Hp) (a:xT!) (ns:w_),c9!<=n->Zd H->Fx bP_ H a b8!->sp w bl! H jx! λ_ _ _=>False)
  (s9:∀(w:yC!) (H:Hp) (s:yP!) (e:yB!) (s':yP!),CX w [] H s nX_ e s'->False):
  W.WalkO q yz XP YP l.row.toRowW d [] nW!:=by
 refine Att.a9n hn sy λw s₀ al mg mb fa o pm cd br a vs ns G wj ho hd bz j6 y6 hints ap hg=>?_;have KX:=hY w _ wj;obtain⟨fd,hb,hF⟩:=F w mg fa _ KX G.T.g j6;exact c1k KX G.T.g G.T.b G.T.builtins G.T.nolimit hg y6 hints (JB ap ip) hr hF hb (λH hO hS=>jh w H a ns ap hO hS) λH e s'=>s9 w H al e s'
def b7z{l:W.OpenLaw}{n k:Nat}{XP:nS_}{YP:nT!}{d:DefRec}{K:vC!}{CX:Wr}{sp:W.Frag->Sp}{x:Str}
  (hn:ju!)(ip:nP!)(sy:nT_)(hr:nX!)
  (hY:vC_)
  (F:∀(w:yC!) (mg:z!) (fa:xT!) (h:Heap),(bP_).In h->h.Ns mainGlobals mg->mg d.name=some fe!->
   ∃fd:FuncData,vD!/\
    ∀base:Heap,(bP_).In base->base.Ns mainGlobals mg->Fo l.prog w bP_ mg base CX k fa fd [x] (sp bP_))
  (jh:∀(K:yQ!) (H:Hp) (a:xT!) (ns:w_),c9!<=n->Zd H->Fx K H a b8!->sp K bl! H jx! λ_ _ _=>False)
  (s9:∀(H:Hp) (s:yP!) (e:yB!) (s':yP!),CX [] H s nX_ e s'->False):
  W.WalkO q yz XP YP l.row.toRowW d [] nW!:=
 c3p (K:=K) (CX:=λ_=>CX) (sp:=λw=>sp bP_) hn ip sy hr hY F (λw H a ns Y L h3=>jh bP_ H a ns Y L h3) λ_ H s e s'=>s9 H s e s'
end L2
namespace L2
open PySem PySem.Spec PyProof.Rows
def Fq(s:Stmt):Arguments:=match s with
 |.FunctionDef _ a _ _ _ _ _ _ _ _=>a
 |_=>{posonlyargs:=[],args:=[],vararg:=none,kwonlyargs:=[],kw_defaults:=[],kwarg:=none,defaults:=[]}
def De(s:Stmt):List Stmt:=match s with
 |.FunctionDef _ _ b _ _ _ _ _ _ _=>b
 |_=>[]
def Ad(s:Stmt):Scope:=match s with
 |.FunctionDef _ _ _ _ _ _ sc _ _ _=>sc
 |_=>{kind:=.function,names:=[],isGenerator:=false,isCoroutine:=false}
abbrev Qf:Wr:=λ_ _ _ _ _ _=>False
abbrev E0:XK:=λ_ _ _=>False
def wZ{X:Cx}:Mg Qf X E0:=λ_ _ _ _ _ _ _ h=>h.elim
structure Xv(K:yQ!)(x qual:Str)(st:Stmt)(f:xT!)(fd:FuncData):Prop where
 ex:∃(oc:yB!) (od:a7_) (kV br pm:yB!) (an:a7_) (ag ct:yB!) (eh:b7!),
  fd=W.fnOf x qual jC! bQ! bE! .none kV br pm an ag ct/\K.lookup f=some ⟨oc,od,.func fd,eh⟩/\W.codeIn K ag qual=true
 kp:W.keepIn K aj!=true
section
variable{P:yO!}{w:yC!}{K:yQ!}{mg:Str->Option Value}{base:Heap}
def Xv.ok{x:Str}{st:Stmt}{f:xT!}{fd:FuncData}{ps:q!}{k:Nat}{sp:Sp}(F:vE!)(S:d9!)(len:t8_)
  (p6:∀(ag:yB!) (A:yn!) (outer:aw_) (s:yP!) (H:Hp) (vs:n!) (Q:VK) (E:XK),Al k (A.deeper (envOfC qual bE! s.heap.objs.size f ag))->sp vs H Q E->
   ∃t,Uo (Ph Qf P w K mg base N qual bE! f ag A outer s H E).nox bQ! t/\t {nx:=λ_ H'=>Q .non H',rt:=Q} gI_ H):Fo P w K mg base Qf V! f fd ps sp:=by
 show"#)";refine d3o lk bz S len λA outer s H vs Q E hr jh=>?_;obtain⟨t,h,q⟩:=p6 ag A outer s H vs Q E hr jh;exact⟨t,h.nox,q⟩
def Xv.binds{x:Str}{st:Stmt}{f:xT!}{fd:FuncData}{ps:q!}(F:vE!)
  (h:vE_):Fc K fd ps []:=by
 show"#)";exact .all (h kV br pm an ag ct)
def pM{x:Str}{st:Stmt}{f:xT!}{od an:a7_}{eh:b7!}{kV:yB!}(l:vG!)
  (c:i9!)(k:gY!):Xv K x qual st f n0_:=⟨⟨oc,od,kV,br,pm,an,ag,ct,eh,rfl,l,c⟩,k⟩
end
def b5t{n:Nat}(h:n<=1000):n<sizeLine:=LD h b_
section
variable{X:Cx}
def pv(i:Nat){x:Str}{pos:Pos}(hN:ak!:=by rfl)(hv:cs_:=by first|exact Or.inl rfl|exact Or.inr b!|exact Or.inr aG_)(hd:F_:=by decide)
  (bz:ct!:=by decide):PE X ct_ (BH i):=mG hN hv hd bz
end
def nB{A B:Prop}(h:B):if false=true then A else B:=by rw[HQ IN];exact h
def nA{A B:Prop}(h:A):if true=true then A else B:=by rw[n_];exact h
def Bk(H H':Hp):Prop:=∀b o,H b=some o->H' b=some o
def Bk.refl(H:Hp):Bk H H:=λ_ _ h=>h
def Bk.trans{H H1 H2:Hp}(a:Bk H H1)(b:Bk H1 H2):Bk H H2:=λc o h=>b c o (a c o h)
def Bk.free{H H':Hp}(e:fg_){l:xT!}(h:H' l=Option.none):H l=Option.none:=by
 cases q:H l with
 |none=>rfl
 |some o=>
  rw[e l o q]at h;cases h
def Bk.seq{K:yQ!}{H H':Hp}{a:xT!}{xs:n!}(e:fg_)(h:Fx K H a xs):Fx K H' a xs:=by
 rcases h with(h|⟨o,h⟩)|h
 .exact vG_
 .exact vH!
 .exact .inr h
end L2
namespace L2
open PySem PySem.Spec PyProof.Rows
def Inv.track{X:Cx}{h1:o!}{Z:St}{H:Hp}{s:yP!}{D:xT!}{ys:n!}{us:i_}{n:Nat}(I:d_)
  (hD:s.heap.get? D=some {cls:=.type "list",data:=.seq us.toArray n})(r:Bc ys us)(hz:jn!)(hn:H D=none)(hs:dI!<=D)(hL:D≠X.env.locals)
  (hc:∀x c,X.env.cells.lookup x=some c->c≠D)(hp:∀p∈X.pn++h1,p.1≠D):Inv X h1 Z (upd H D ba_) s:=by
 have ne:∀b u,H b=some u->b≠D:=λb u e=>cN e hn;refine I.step (g':=s.gens) (d':=s.drawn) (t':=s.toks) (h':=s.heap) (ch:=[D]) io_ (λb o _ _ _ e _=>e) (λb o _ _ _ e _=>vH_) (λb o hc e n=>?_) (λb o _ e=>⟨o,e⟩)
  (λb xs e=>by rw[n1_];exact e) (λb o u e=>by rw[n1_];exact e) (λb ps e=>⟨#[],by rw[n1_,e];simp⟩) n2! rs! I.bare
 .have e:b=D:=by simpa using hb
  subst e;exact⟨.inr hs,hL,hc,hp⟩
 .rw[n2_];exact n
 .by_cases hb:b=D
  .show"!x";exact⟨hz,us,n,r,hD⟩
  .rw[bD hb]at e;exact(I.hok b u e).stay n3! (λc q=>by rw[bD (ne c _ q)];exact q) λc xs q=>by rw[bD (ne c _ q)];exact q
nonrec def closOf(cells:bn!):List vI_->List fh_->List fh_
 |[],acc=>acc
 |(n,k)::r,acc=>if k==.free then closOf cells r ((n,(cells.lookup n).getD 0)::acc)else closOf cells r acc
structure Zg(X:Cx)(scope:Scope)(cl:bn!):Prop where
 eq:closureFor scope X.env=pure cl
 sub:∀x c,cl.lookup x=some c->X.env.cells.lookup x=some c
 all:∀x,scope.names.lookup x=some .free->∃c,cl.lookup x=some c
def uB{env:Env}:∀(names:fi!) (acc:bn!),(∀p∈names,p.2=.free->∃c,env.cells.lookup p.1=some c)->
  (forIn names acc λx r=>(match x with|(name,kind)=>if(kind==gZ!)=true then(do let a <-cellOf env name;pure vJ!)else pure jD_:Sem vJ_))=(pure (closOf env.cells names acc):Sem (List fh_))
 |[],acc,_=>rfl
 |(n,k)::r,acc,h=>by
  rw[NB];cases hk:(k==gZ!)with
  |true=>
   obtain⟨c,hc⟩:=h (n,k) HP vM!;have bv:env.cells.lookup n=some c:=hc;have e:cellOf env n=pure c:=by unfold cellOf;rw[bv]
   have ih:=uB r ((n,c)::acc) λp hp=>h p jE!;have e2:closOf env.cells ((n,k)::r) acc=closOf env.cells r ((n,c)::acc):=by
    show vL_;rw[aO_,bv];rfl
   rw[e2,<-ih];simp only[hk,JT,e];rfl
  |false=>
   have ih:=uB r acc λp hp=>h p jE!;have e2:closOf env.cells ((n,k)::r) acc=closOf env.cells r acc:=by
    show vL_;rw[HQ (by rw[hk];exact IN)]
   rw[e2,<-ih];simp only[hk];rfl
def pR(cells:bn!):∀(names:fi!) (acc:bn!),(∀p∈names,p.2=.free->∃c,cells.lookup p.1=some c)->(∀p∈acc,cells.lookup p.1=some p.2)->∀p∈closOf cells names acc,cells.lookup p.1=some p.2
 |[],_,_,h=>h
 |(n,k)::r,acc,hn,h=>by
  unfold closOf;split
  .rename_i hk;obtain⟨c,hc⟩:=hn (n,k) HP vM!;refine pR cells r _ vN! λp hp=>?_;obtain rfl|hp:=HN.mp hp
   .have bv:cells.lookup n=some c:=hc;rw[bv];rfl
   .exact h p hp
  .exact pR cells r _ vN! h
def pU(cells:bn!):∀(names:fi!) (acc:bn!) (x:Str),(∃c,(x,c)∈acc)->∃c,(x,c)∈closOf cells names acc
 |[],_,_,h=>h
 |(n,k)::r,acc,x,h=>by
  unfold closOf;split
  .exact pU cells r _ x (let⟨c,hc⟩:=h;⟨c,HL _ hc⟩)
  .exact pU cells r _ x h
def pT(cells:bn!):∀(names:fi!) (acc:bn!) (x:Str),(x,gZ!)∈names->∃c,(x,c)∈closOf cells names acc
 |[],_,_,h=>nomatch h
 |(n,k)::r,acc,x,h=>by
  unfold closOf;obtain h|h:=HN.mp h
  .cases h;rw[IB fi_];exact pU cells r _ _ ⟨_,HP⟩
  .split
   .exact vO!
   .exact vO!
def oR{β:Type}:∀{l:List (Str×β)} {x:Str} {c:β},(x,c)∈l->∃d,l.lookup x=some d
 |[],_,_,h=>nomatch h
 |(n,k)::r,x,c,h=>by
  cases J:(x==n)with
  |true=>exact⟨k,by simp[JR,J]⟩
  |false=>
   obtain h|h:=HN.mp h
   .cases h;simp at J
   .obtain⟨d,hd⟩:=oR h;exact⟨d,by simp[JR,J,hd]⟩
def b5d{X:Cx}{scope:Scope}(h:∀p∈ca_,p.2=.free->∃c,X.env.cells.lookup p.1=some c):∃cl,Zg X scope cl:=by
 refine⟨closOf X.env.cells scope.names [],?_,l2_,λx e=>?_⟩
 .have e:=uB (env:=X.env) scope.names [] h;simp only[closureFor];rw[show(forIn scope.names ([]:List fh_) λx r=>(match x with|(name,kind)=>if(kind==NameKind.free)=true then(do let a <-cellOf X.env name;pure vJ!)else pure jD_:Sem vJ_))=pure (closOf X.env.cells scope.names [])from e];rfl
 .exact pR X.env.cells scope.names [] h rp_ (x,c) (LL e)
 .obtain⟨c,hc⟩:=pT X.env.cells scope.names [] x (LL e);exact oR hc
def Nu(X:Cx)(scope:Scope)(cl:bn!)(C:xT!)(N:q!)(ao:yP!)(a9:Hp)(fp:aw!):Cx:=
 {X with N:=N,s₀:=ao,H₀:=a9,env:=compEnvC scope cl C X.env,outer:=X.stack,stack:=X.stack,ex:=fp,fn:=λ_=>false,pn:=[],xe:=λ_ _=>False}
def mT{env:Env}:∀{names:fi!} {x:Str},(∀y∈names,y.2≠.cell)->
  ((jH_).lookup x=some .cell\/
     (jH_).lookup x=some .free)->names.lookup x=some .free
 |[],_,_,h=>by simp at h
 |(n,k)::r,x,hc,h=>by
  have ih:=@mT env r x λy hy=>hc y ea_;have hk:k≠.cell:=hc (n,k) HP;rw[IA]at h;by_cases hf:n5_=true
  .simp only[hf,JT]at h;cases J:x==n with
   |true=>
    simp only[JR,J];simp only[IZ,NE]at hf;rw[hf.1.1]
   |false=>
    simp only[JR,J]at h ⊢;exact ih h
  .simp only[hf]at h;cases J:x==n with
   |true=>
    simp only[IW,JL,JR,J]at h ⊢;obtain h|h:=h
    .cases h;exact absurd rfl hk
    .exact h
   |false=>
    show"#.";exact ih h
def mU{env:Env}:∀{names:fi!} {x:Str},names.lookup x=some .free->
  ((jH_).lookup x=some .cell\/
     (jH_).lookup x=some .free)
 |[],_,h=>by simp at h
 |(n,k)::r,x,h=>by
  have ih:=@mU env r x;rw[IA];by_cases hf:n5_=true
  .simp only[hf,JT];cases J:x==n with
   |true=>exact .inl (by simp[JR,J])
   |false=>
    simp only[JR,J]at h ⊢;exact ih h
  .simp only[hf];cases J:x==n with
   |true=>
    show"#.";exact .inr h
   |false=>
    show"#.";exact ih h
structure Cm(X:Cx)(scope:Scope)(NF:q!)(ix:k_):Prop where
 len:NF.length=ix.length
 at_:∀(k:Nat) (x:Str),NF[k]?=some x->∃j,ix[k]?=some j/\X.N[j]?=some x/\scope.names.lookup x=some .free/\rg_
def Cm.nil{X:Cx}:Cm X scope [] []:=⟨rfl,λk x e=>by simp at e⟩
def Cm.cons{X:Cx}{scope:Scope}{j:Nat}{ix:k_}(h:di!)(Y:vQ_:=by rfl)(L:scope.names.lookup x=some .free:=by rfl)
  (h3:X.env.kindOf x=some .cell\/X.env.kindOf x=some .free:=by first|exact Or.inl rfl|exact Or.inr rfl):Cm X scope (x::NF) (j::ix):=
 ⟨by simp[h.len],λk y e=>by
  cases k with
  |zero=>simp at e;subst e;exact⟨j,rfl,Y,L,h3⟩
  |succ k=>simpa using h.at_ k y cV_⟩
def Pv(nl:Nat)(ix:k_)(Z:St):St:=List.replicate nl none++ix.map λj=>(Z[j]?).join
def d0v{X:Cx}{h1:o!}{Z:St}{H2:Hp}{s2:yP!}{scope:Scope}{cl:bn!}{fp:aw!}
  (cm:di_)(cg:dj!)(b9:n6!)(I2:n6_)(f2:n7!)(flt:vR!)(hC:N!<=C):
  (Nu X scope cl C N s2 H2 fp).Ok where
 mod:=I2.ok.mod
 kind:=cm
 glob:=I2.ok.glob
 blt:=I2.ok.blt
 above:=hC
 inj:=λx y c Y L=>I2.ok.inj x y c (b9.sub x c Y) (b9.sub y c L)
 has:=λx h=>b9.all x (mT cg h)
 cab:=λ_ _ h=>nomatch h
 hd:=I2.ok.hd
 frames:=I2.ok.frames
 stk:=.inl rfl
 exf:=λb hb=>⟨JG (IT jI_ hC),λx c h=>(iL!).2.2.2.2.1 x c g0!⟩
 bs:=I2.bs
 bsz:=JB I2.ok.bsz I2.sz
 noex:=λb o e hb=>by
  obtain z|z:=(iL!).2.2.2.1
  .exact I2.ok.noex b o e z
  .exact absurd (IT cY! (JB I2.ok.bsz z)) dH_
 exfs:=λb hb hf=>by
  obtain⟨_,f1,f3,_⟩:=f2 b hb;obtain z|z:=HN.mp (I2.stkSub b hf)
  .exact f1 z
  .exact f3 z
 funs:=I2.stack
 frf:=I2.stkFree
def c1y{X:Cx}{h1:o!}{Z:St}{H2:Hp}{s2:yP!}{scope:Scope}{cl:bn!}{D:xT!}{oD:Obj}{NL:q!}{ix:k_}{fp:aw!}{h₁:Heap}{t:Nat}{m:z!}
  (cm:di_)(cg:dj!)(b9:n6!)(cap:di!)(I2:n6_)(f2:n7!)(flt:vR!)
  (hC:N!<=C)(hD:N!<=D)(jl:D≠C)(ar:∀b u,s2.heap.get? b=some u->h₁.get? b=some u)(hn:h₁.Ns C m)(yp:h₁.get? D=some oD)(yq:∀v,oD.data≠.cell v):
  Inv (Nu X scope cl C g0_ s2 H2 fp) (dj_++[(D,oD)]) n7_ H2 {s2 with heap:=h₁,toks:=t}:=by
 refine⟨d0v cm cg b9 I2 f2 flt hC,rfl,I2.bare,Un.kept ar,⟨m,hn,ro_⟩,λx c h=>?_,I2.hok.fresh hC,λx c h=>I2.freeC x c g0!,eL!,I2.hok.kept ar,?_⟩
 .have UQ:g0_[i]?=some x:=e1;unfold Pv at e2;by_cases hi:i<NL.length
  .rw[JZ gJ!,OA]at e2;rw[IB hi]at e2;cases e2
  .rw[e6_,JC,MZ]at e2;rw[e6_]at UQ;obtain⟨j,hj,hN,hf,hk⟩:=cap.at_ _ _ UQ;rw[hj]at e2;have wm:(Z[j]?).join=some v:=JJ e2;have e4:Z[j]?=some dI_:=by
    cases q:Z[j]? with
    |none=>rw[q]at wm;cases wm
    |some o=>rw[q]at wm;exact congrArg some wm
   obtain⟨m2,_,hl⟩:=I2.loc;have hv:Wt X.env.scope x:=hk.elim (λz=>.inr cb!) λz=>.inr fj!;obtain⟨u,r,l⟩:=hl j x v hN e4 hv;refine⟨u,r,.inr ?_⟩;obtain⟨k,_⟩|⟨_,c,hc,z⟩:=l
   .obtain z|z:=hk
    .rw[z]at k;cases k
    .rw[z]at k;cases k
   .obtain⟨c',bv⟩:=b9.all x hf;have e5:=b9.sub x c' bv;rw[hc]at e5;cases e5;obtain⟨o,ho,hd⟩:=z;exact⟨mU hf,c,bv,⟨o,ar _ _ ho,hd⟩⟩
 .obtain⟨v,o,ho,hd⟩:=I2.cell x c g0!;exact⟨v,o,ar _ _ ho,hd⟩
 .have UR:∀b,b≠X.env.locals->b∉X.fs->b∉frs X.stack:=λb Y L h3=>(HN.mp (I2.stkSub b h3)).elim Y L;have bx:p∈dj_++[(D,oD)]:=by simpa[Nu]using hp
  obtain bx|bx:=HV.mp bx
  .obtain⟨e,n,ne,nf,d⟩:=I2.pin p bx;exact⟨ar _ _ e,n,JG (IT cY! hC),UR _ ne nf,d⟩
  .have e:p=(D,oD):=by simpa using bx
   subst e;exact⟨yp,I2.hok.fresh hD,jl,UR _ (MU (IT I2.lt hD)) (I2.nofs hD),yq⟩
 .show(n7_).length=(g0_).length;unfold Pv;rw[IG,IG,IK,MZ,cap.len]
def a5l{R:ti_}{E:q_}(I:Nat->Shared->Prop)
  (hE:∀e s',E e s'->notedBy r_ A env (λe s'=>R (.error e) s') e s')
  (turn:∀n s,I n s->wpAny r_ A (pyNext it) (λr al=>match r with
   |none=>R (.ok .next) al
   |some v=>wpAny r_ A (letOwnedTupleGo vz it v) (λ_ US=>wpAny r_ A (assign vz env v) (λ_ ao=>
     wpAny r_ A (forIn de true λc r=>if r=true then do let ok <-isTrue c env (eval c env);pure vV! else pure jD_) (λok dz=>
      if ok=true then wpAny r_ A (eval ez env) (λx wp=>
       wpAny r_ A (call (.builtin "list.append") [acc,x]) (λ_ UT=>∃m,m<n/\I m UT) E wp) E dz
      else∃m,m<n/\I m dz) E ao) E US) E al) E s)
  (n:Nat) (h:I n s):codeAny r_ A (.compLoop (.ListComp ez [⟨vz,iter,de,0⟩] scope pos) 0 it acc env) R s:=by
 refine codeAny_loop rfl I (λn s hI=>?_) n h;refine wpAny_noted ?_;rw[compTurn_list];refine HI (QM (HI (KJ (turn n s hI) (λr al h₁=>?_) hE)));cases r with
 |none=>exact HK h₁
 |some v=>
  refine HI (KJ h₁ (λ_ US Y0=>?_) hE);refine HI (KJ Y0 (λ_ ao sw=>HI (KJ sw (λok dz wf=>?_) hE)) hE);cases ok with
  |false=>exact HK ⟨rfl,wf⟩
  |true=>
   exact HI (HI (KJ wf (λx wp Y1=>HI (KJ Y1 (λ_ UT Y2=>HK (HK ⟨rfl,Y2⟩)) hE)) hE))
def Qd(X:Cx)(de:bJ_)(t:TT):Prop:=
 ∀(h1:o!) (s:yP!) (Z:St) (H:Hp) (Q:dK!),Inv X h1 Z H s->t Z H Q->
  wpAny e_ X.A (forIn de true λc r=>if r=true then do let ok <-isTrue c X.env (eval c X.env);pure vV! else pure jD_) it_ X.xe s
def BI:TT:=λ_ H Q=>Q true H
def a7b{X:Cx}:Qd X [] BI:=λh1 s Z H Q I h=>wpAny_tests_nil ⟨H,I,h⟩
def a7a{X:Cx}{t:TT}(h:PT X c t):Qd X [c] t:=λh1 s Z H Q I hw=>wpAny_tests_one rX_
def Wf(af:It)(g:TG)(tt:TT)(te:TE)(Fin:c0_)(Z:St)(H:Hp):Prop:=∃W:Nat->Nat->List V->St->Hp->Prop,(∃m,W 0 m [] Z H)/\∀i m ys Z H,W i m ys Z H->ac_<=sizeLine/\
 ((af.stop i H/\Fin ys H)\/(af.go i H/\∀x H',af.yld i H x H'->g x Z H' λdb H2=>tt db H2 λb H3=>if b=true then te db H3 λy H4=>∃m',m'<m/\W a5! m' (ys++[y]) db H4 else∃m',m'<m/\W a5! m' ys db H3))
abbrev Ui(us:i_)(n:Nat):Obj:={cls:=.type "list",data:=.seq us.toArray n}
def a1m{X:Cx}{scope:Scope}{NL:q!}{ix:k_}{cl:bn!}{g:TG}{tt:TT}{te:TE}{E:q_}
  {h1:o!}{Z:St}{H2:Hp}{s2:yP!}{fp:aw!}{tn:dR!}{af:It}{Fin:c0_}{RR:Value->Addr->Result->Shared->Prop}
  (cm:di_)(cg:dj!)(b9:n6!)(cap:di!)(calm:a4!)
  (hg:∀C ao a9 fp,PG cb_ tg g)(hi:∀C ao a9 fp,Qd cb_ de tt)(he:∀C ao a9 fp,PE cb_ ez te)
  (I2:n6_)(T:Tk X.prog X.w X.K tg af fp it tn)(bh:tn 0 s2.heap)(f2:n7!)(hw:Wf af g tt te Fin n7_ H2)
  (Y3:∀(D C:xT!) (us:i_) (n:Nat) (ys:n!) (H':Hp) (s':yP!),Inv X h1 Z H' s'->s'.heap.get? D=some (Ui us n)->Bc ys us->ac_<=sizeLine->H' D=none->N!<=D->N!<=C->D≠C->H' C=none->
   (∃m,s'.heap.Ns C m)->Fin ys H'->RR (.ref D) C (.ok .next) s'):
  wpAny e_ X.A (newList []) (λacc dz=>wpAny e_ X.A (newFunctionEnv scope X.env.globals cl [] X.env.qual none .none (some X.env)) (λUU wp=>
   codeAny e_ X.A (.compStart g2! 0 b4_ acc {UU with scope:=relabel scope X.env}) (RR acc UU.locals) wp) E dz) E s2:=by
 obtain⟨W,⟨m0,w0⟩,turn⟩:=hw;have flt:∀b∈fp,b<N!:=λb hb=>let⟨o,e,_⟩:=T.obj _ _ bh b hb;IQ e;refine KN (wpAny_newFunctionEnv cg (by intro y hy;simp at hy) (λh₁ y7 wu=>?_) cm);dsimp only at y7 wu ⊢;generalize ir:s2.heap.push {cls:=.type "list",dict:=none,data:=.seq (vZ_).toArray}=G2 at y7 wu ⊢;have hC:g2_=N!+1:=by rw[<-ir,OC]
 have jl:N!≠g2_:=by rw[hC];exact JG (OK _)
 have UV:N!<=g2_:=by rw[hC];exact PZ _
 have UW:∀b,b<N!->b≠g2_:=λb hb=>by rw[hC];exact JG (PU hb)
 have ar:∀b o,s2.heap.get? b=some o->h₁.get? b=some o:=λb o e=>wu.extBut b o (UW b cY!) (HM _ (ir▸HM _ e));have Y4:h₁.get? N!=some (Ui [] 0):=wu.extBut _ _ jl (HM _ (ir▸IP _ rfl));have p9:tn 0 h₁:=T.keep _ _ _ bh λb _ o e=>ar b o e;have I1:=c1y (NL:=NL) (t:=s2.toks+(v0!).length) cm cg b9 cap I2 f2 flt UV y! jl ar y7 Y4 v0_;have m8:∀{H':Hp} {oD:Obj},gs!->∀b∈fp,Jg eb_ (dj_++[(N!,oD)]) H' b:=λ{H' oD} hn b hb=>by
  obtain⟨_,f1,f3,f4,f5,f6⟩:=f2 b hb;refine⟨hn b hb,UW b jI_,λz=>(HN.mp (I2.stkSub b z)).elim f1 f3,.inl hb,λx c h=>f5 x c g0!,eL!⟩;have bx:p∈dj_++[(N!,oD)]:=by simpa[Nu]using hp
  obtain bx|bx:=HV.mp bx
  .exact f6 p bx
  .have e:p=(N!,oD):=by simpa using bx
   subst e;exact MU jI_
 have UX:∀dz:Shared,dz={s2 with heap:=h₁,toks:=s2.toks+(v0!).length}->
   codeAny e_ X.A (.compLoop g2! 0 b4_ (.ref N!) (compEnvC scope cl G2.objs.size X.env)) (RR (.ref N!) g2_) dz:=by
  rintro dz rfl;refine a5l (E:=v2_) (λk s'=>∃i ys us n σ H',Inv eb_ (dj_++[jL!]) σ H' s'/\tn i s'.heap/\gs!/\Bc ys us/\W i k ys σ H')
   (λ_ _ z=>z.elim) ?_ m0 ⟨0,[],[],0,_,H2,I1,p9,sA_,.nil,w0⟩
  rintro k s' ⟨i,ys,us,n,σ,H',I',h2,UY,rv,w'⟩;obtain⟨ap,y8⟩:=turn i k ys σ H' w';obtain⟨stop,fin⟩|⟨go,step⟩:=y8
  .refine dL (T.done eb_ rfl rfl rfl calm i _ s' σ H' _ I' (m8 UY) h2 stop) λr s4 ⟨hr,I4⟩=>?_;subst hr;have UZ:=I4.pin jL! (by simp[Nu]);have IX:Inv X h1 Z H' s4:=I2.call' (ch:=fp) I4.os I4.base I4.hok I4.bare λb hb=>by
    obtain⟨_,f1,f3,f4,f5,f6⟩:=f2 b hb;exact⟨f4,f1,f5,f6⟩
   obtain⟨mC,Y5,_⟩:=I4.loc;exact Y3 _ _ us n ys H' s4 IX UZ.1 rv ap UZ.2.1 y! UV jl I4.free ⟨mC,Y5⟩ fin
  .refine dL (T.item eb_ rfl rfl rfl calm i _ s' σ H' _ I' (m8 UY) h2 go) λr s4 ⟨u,hr,h4⟩=>?_;subst hr;refine dL h4 λ_ s5 ⟨x,H5,I5,r5,y5,m9,yn⟩=>?_;have yo:=I5.pinned (m8 yn) sB!;refine dL (hg _ _ _ _ _ s5 σ H5 x u _ yo r5 sB_) λ_ s6 ⟨li,H6,I6,q6⟩=>?_;refine dL (hi _ _ _ _ _ s6 li H6 _ I6 q6) λok s7 ⟨H7,I7,q7⟩=>?_;have U':∀{VA:St} {H8:Hp} {s8:yP!},Inv eb_ ((dj_++[jL!])++Ri fp s5.heap) VA H8 s8->tn a5! s8.heap/\∀b∈fp,H8 b=none:=λ{VA H8 s8} I8=>by
    refine⟨T.keep _ _ _ m9 λb hb o e=>(v4!).1,by_⟩;obtain⟨o,e,d⟩:=T.obj _ _ m9 b hb;exact(v4!).2.1
   cases ok with
   |false=>
    simp only[IW,JL]at q7 ⊢;obtain⟨m',hm,w7⟩:=q7;obtain⟨t7,n7⟩:=U' I7;exact⟨m',hm,i+1,ys,us,n,li,H7,iM!,t7,n7,rv,w7⟩
   |true=>
    simp only[JT]at q7 ⊢;refine dL (he _ _ _ _ _ s7 li H7 _ I7 q7) λyv s8 ⟨y,H8,I8,r8,m',hm,w8⟩=>?_;obtain⟨t8,n8⟩:=U' I8;have pD:=I8.pin jL! (HY _ (IS _ d!));have Y6:av_=ac_:=rv.length.symm;refine wpAny_list_append_plain (items:=cD!) (hsz:=by simpa[Y6]using ap) ⟨n,pD.1⟩ λh9 Y7 VB=>?_;obtain⟨n9,e9⟩:=Y7;have Y8:Inv eb_ dj_ li H8 s8:=I8.pins_of λp hp=>I8.pin p (HY _ (IS _ (IS _ hp)));have I9:Inv eb_ dj_ li H8 {s8 with heap:=h9,toks:=s8.toks}:=by
     refine Y8.turned (it:=N!) (λb o hb e=>(VB.2 b hb).trans e) pD.2.1 jl (.inr y!) (λx c h=>?_) λp hp=>?_
     .obtain⟨v,o,ho,_⟩:=I2.cell x c g0!;exact JG ik_
     .have bx:p∈X.pn++h1:=by simpa[Nu]using hp
      exact JG (IQ (I2.pin p bx).1)
    have Y9:h9.get? N!=some (Ui (us++[yv]) n9):=by
     rw[e9,List.push_toArray]
    refine⟨m',hm,i+1,ys++[y],us++[yv],n9,li,H8,I9.pins_of λp hp=>?_,T.keep _ _ _ t8 λb hb o e=>(VB.2 b (JG jI_)).trans e,n8,rv.append (.cons r8 .nil),w8⟩;obtain hp|hp:=HV.mp hp
    .exact I9.pin p (HY _ hp)
    .have e:p=(N!,Ui (us++[yv]) n9):=by simpa using hp
     subst e;exact⟨Y9,pD.2.1,pD.2.2.1,pD.2.2.2.1,jL_⟩
 exact codeAny_compStart_list (UX _ rfl) (T.self _ 0 _ _ _ p9 (UX _ rfl))
def Zm(nl:Nat)(ix:k_)(wi:TI)(g:TG)(tt:TT)(te:TE):TE:=λZ H Q=>wi Z H λaf H1=>Wf af g tt te (λys H'=>∀p,H' p=none->Q da! (upd H' p ba_)) (Pv nl ix Z) H1
def b3w{X:Cx}{scope:Scope}{NL:q!}{ix:k_}{wi:TI}{g:TG}{tt:TT}{te:TE}
  (cm:di_)(cg:dj!)(j7:∀y∈ca_,y.2=.local->scope.names.lookup y.1=some .local)
  (ik:g3!)(cap:di!)(calm:a4!)(be:mJ_)
  (hg:g3_)(hi:v6_)(he:v7!)
  (hs:c7!:=by intro _;rfl):
  PE X g2! v7_:=by
 show"!K";show"!R"
 rw[eval_ListComp];refine wpAny_comprehension_free (use:=none) rfl hs b9.eq cm j7 v8!;obtain⟨it,fp,tn,af,H2,e,I2,T,bh,f2,hw⟩:=L;subst e;refine a1m (RR:=λacc C=>compPost e_ X.A X.xe none aL_ acc C) cm cg b9 cap calm (hg cl) (hi cl) (he cl) I2 T bh f2 hw λD C us n ys H' s' I' eD rv ap nD hD hC jl nC ⟨m,hn⟩ fin=>?_;refine⟨m,hn,λh' b6=>?_⟩;have fw:∀b,b<N!->b≠C/\b≠D:=λb hb=>v8_;have qc:∀x c,X.env.cells.lookup x=some c->c<N!:=λx c h=>let⟨_,_,ho,_⟩:=I2.cell x c h;IQ ho;have td:∀p∈X.pn++h1,p.1<N!:=λp hp=>IQ (I2.pin p hp).1;have IC:Inv X h1 Z H' {s' with heap:=h',toks:=s'.toks}:=I'.turned (it:=C) v9_ nC (HR (g4_).1) wa_ wb_ λp hp=>(jN!).1;have ID:=IC.track (D:=D) (us:=us) (n:=n) ((b6.2 D jl).trans eD) rv ap nD (JB I2.sz hD) (HR (g4_).2) wc! λp hp=>(jN!).2;exact⟨.ref D,_,ID,rfl,fin D nD⟩
end L2
namespace DL
open PySem PySem.Spec PyProof.Rows L2
abbrev St:=L2.St
inductive D where
 |non|bl (b:Bool)|int (i:Int)|str (x:Str)|tup (xs:c!)|lst (xs:c!)|fn (a:xT!)|dk (kvs:oi!)
mutual
noncomputable def Ax(K:yQ!)(H:Hp):D->V->Prop
 |.non,v=>v=V.non
 |.bl b,v=>v=V.bl b
 |.int i,v=>v=V.int i
 |.str x,v=>v=V.str x
 |.tup xs,v=>∃a vs,v=V.ref a/\Ge K H a vs/\Am K H xs vs
 |.lst xs,v=>∃a vs,v=V.ref a/\Fx K H a vs/\Am K H xs vs
 |.fn a,v=>v=V.ref a
 |.dk kvs,v=>∃a,v=V.ref a/\Rd H a dX_
noncomputable def Am(K:yQ!)(H:Hp):List D->List V->Prop
 |[],vs=>vs=[]
 |d::ds,vs=>∃v r,vs=v::r/\Ax K H d v/\Am K H ds r
end
mutual
noncomputable def Ei:D->Bool
 |.lst _=>false
 |.dk _=>false
 |.tup xs=>Fj xs
 |_=>true
noncomputable def Fj:List D->Bool
 |[]=>true
 |d::ds=>Ei d&&Fj ds
end
mutual
noncomputable def Ii:D->Nat
 |.lst xs=>Dp xs+1
 |.tup xs=>Dp xs+1
 |_=>0
noncomputable def Dp:List D->Nat
 |[]=>0
 |d::ds=>max (Ii d) (Dp ds)
end
section
variable{K:yQ!}{H H':Hp}
mutual
theorem Ax.map(ht:jN_)(hl:wc_)(hd:wd!):∀(d:D) (v:V),Ax K H d v->Ax K H' d v
 |.non,_,h=>h
 |.bl _,_,h=>h
 |.int _,_,h=>h
 |.str _,_,h=>h
 |.tup xs,_,h=>by
  show"!U";exact⟨a,vs,e,ht a vs q,we!⟩
 |.lst xs,_,h=>by
  show"!U";exact⟨a,vs,e,hl a vs q,we!⟩
 |.fn _,_,h=>h
 |.dk kvs,_,h=>by
  unfold Ax at h ⊢;obtain⟨a,e,q⟩:=h;exact⟨a,e,hd a kvs q⟩
theorem Am.map(ht:jN_)(hl:wc_)(hd:wd!):∀(ds:c!) (vs:n!),Am K H ds vs->Am K H' ds vs
 |[],_,h=>h
 |d::ds,_,h=>by
  unfold Am at h ⊢;obtain⟨v,r,e,q,t⟩:=h;exact⟨v,r,e,Ax.map ht hl hd d v q,Am.map ht hl hd ds r t⟩
end
mutual
theorem Ax.mapT(ht:jN_):∀(d:D) (v:V),Ei d=true->Ax K H d v->Ax K H' d v
 |.non,_,_,h=>h
 |.bl _,_,_,h=>h
 |.int _,_,_,h=>h
 |.str _,_,_,h=>h
 |.tup xs,_,n,h=>by
  unfold Ei at n;show"!U";exact⟨a,vs,e,ht a vs q,Am.mapT ht xs vs n r⟩
 |.lst xs,_,n,_=>by
  unfold Ei at n;cases n
 |.fn _,_,_,h=>h
 |.dk _,_,n,_=>by
  unfold Ei at n;cases n
theorem Am.mapT(ht:jN_):∀(ds:c!) (vs:n!),Fj ds=true->Am K H ds vs->Am K H' ds vs
 |[],_,_,h=>h
 |d::ds,_,n,h=>by
  unfold Fj at n;rw[IZ]at n;unfold Am at h ⊢;obtain⟨v,r,e,q,t⟩:=h;exact⟨v,r,e,Ax.mapT ht d v n.1 q,Am.mapT ht ds r n.2 t⟩
end
def cD(e:fg_){a:xT!}(h:Ge K H a xs):Ge K H' a xs:=by
 rcases h with(h|⟨o,h⟩)|h
 .exact vG_
 .exact vH!
 .exact .inr h
def b3e(e:fg_){a:xT!}{o:HO}(h:Rd H a o):Rd H' a o:=by
 obtain h|⟨u,h⟩:=h
 .exact .inl (e _ _ h)
 .exact .inr ⟨u,e _ _ h⟩
def Ax.mono(e:fg_)(h:g7_):Ax K H' d v:=Ax.map wf! wf_ wg! d v h
def Am.mono(e:fg_)(h:cD_):Am K H' ds vs:=Am.map wf! wf_ wg! ds vs h
def Ax.non:Ax K H .non V.non:=by unfold Ax;rfl
def Ax.bl{b:Bool}:Ax K H bK! (V.bl b):=by unfold Ax;rfl
def Ax.int{i:Int}:Ax K H bw_ (V.int i):=by unfold Ax;rfl
def Ax.str:Ax K H dK_ (V.str x):=by unfold Ax;rfl
def Ax.fn{a:xT!}:Ax K H cE! fl!:=by unfold Ax;rfl
def Ax.tup{a:xT!}(h:Ge K H a vs)(r:cD_):Ax K H dm! fl!:=by unfold Ax;exact wg_
def Ax.lst{a:xT!}(h:Fx K H a vs)(r:cD_):Ax K H cd_ fl!:=by unfold Ax;exact wg_
def Am.nil:Am K H [] []:=by unfold Am;rfl
def Am.cons(h:g7_)(t:cD_):Am K H ee! (v::vs):=by unfold Am;exact⟨v,vs,rfl,h,t⟩
def aL:∀{ds:c!} {vs:n!},Am K H ds vs->h!=bA_
 |[],vs,h=>by unfold Am at h;subst h;rfl
 |d::ds,vs,h=>by
  unfold Am at h;obtain⟨v,r,e,_,t⟩:=h;rw[e,IE,IE,aL t]
def iS:∀{ds:c!} {vs:n!} {i:Nat} {d:D},Am K H ds vs->ds[i]?=some d->∃v,vs[i]?=some v/\Ax K H d v
 |[],_,_,_,_,e=>by simp at e
 |c::ds,vs,i,d,h,e=>by
  unfold Am at h;obtain⟨v,r,e1,q,t⟩:=h;subst e1;cases i with
  |zero=>simp at e;subst e;exact⟨v,rfl,q⟩
  |succ i=>
   obtain⟨u,Y,L⟩:=iS (i:=i) (d:=d) t cV_;exact⟨u,id_,L⟩
def dG:∀{ds es:c!} {vs ws:n!},Am K H ds vs->Am K H es ws->Am K H (ds++es) (vs++ws)
 |[],_,_,_,h,k=>by unfold Am at h;subst h;exact k
 |c::ds,_,vs,_,h,k=>by
  show"!M";exact Am.cons q (dG t k)
def sL:∀{ds:c!} {vs:n!} (n:Nat),Am K H ds vs->Am K H (ds.take n) (vs.take n)
 |_,_,0,_=>Am.nil
 |[],_,n+1,h=>by unfold Am at h;subst h;exact Am.nil
 |c::ds,vs,n+1,h=>by
  show"!M";exact Am.cons q (sL n t)
def sM:∀{ds:c!} {vs:n!} (n:Nat),Am K H ds vs->Am K H oj! (vs.drop n)
 |_,_,0,h=>h
 |[],_,n+1,h=>by unfold Am at h;subst h;exact Am.nil
 |c::ds,vs,n+1,h=>by
  show"!M";exact sM n t
def wV(hd:g7_):∀{ds:c!} {vs:n!} (n:Nat),Am K H ds vs->Am K H (ds.set n d) (vs.set n v)
 |[],_,_,h=>by unfold Am at h;subst h;exact Am.nil
 |c::ds,vs,n,h=>by
  unfold Am at h;obtain⟨u,r,e1,q,t⟩:=h;subst e1;cases n with
  |zero=>exact Am.cons hd t
  |succ n=>exact Am.cons q (wV hd n t)
def cS(h:Am K H [] vs):vs=[]:=by unfold Am at h;exact h
def bR(h:Am K H ee! vs):∃v r,vs=v::r/\Ax K H d v/\Am K H ds r:=by unfold Am at h;exact h
def bS(h:Ax K H dm! v):∃a vs,v=V.ref a/\Ge K H a vs/\Am K H ds vs:=by unfold Ax at h;exact h
def bT(h:Ax K H cd_ v):∃a vs,v=V.ref a/\Fx K H a vs/\Am K H ds vs:=by unfold Ax at h;exact h
def bG{i:Int}(h:Ax K H bw_ v):v=V.int i:=by unfold Ax at h;exact h
def dA{i:Bool}(h:Ax K H (.bl i) v):v=V.bl i:=by unfold Ax at h;exact h
def cI(h:Ax K H jO_ v):v=V.str i:=by unfold Ax at h;exact h
def eH(h:Ax K H .non v):v=V.non:=by unfold Ax at h;exact h
def gD{a:xT!}(h:Ax K H cE! v):v=V.ref a:=by unfold Ax at h;exact h
def c8n{kvs:oi!}(h:Ax K H (.dk kvs) v):∃a,v=V.ref a/\Rd H a dX_:=by unfold Ax at h;exact h
def iR{o:HO}(h:cE_):Bk H fl_:=λb u e=>by rw[bD (cN e h)];exact e
def fZ(h:cE_)(r:cD_):Ax K (upd H p (.tup vs)) dm! oj_:=Ax.tup (Ge.of cC) wj_
def dQ(h:cE_)(r:cD_):Ax K jP! cd_ oj_:=Ax.lst (Fx.of cC) wj_
end
structure Co(G H G' H':Hp):Prop where
 g:Bk G G'
 h:Bk H H'
 sub:Bk G' H'
 new:∀b,G' b≠none->G b≠none\/H b=none
def Co.refl{G H:Hp}(s:K_):Co G H G H:=⟨fm!,Bk.refl H,s,ee_⟩
def Co.trans{G H G1 H1 G2 H2:Hp}(a:Co G H G1 H1)(b:Co G1 H1 G2 H2):Co G H G2 H2:=
 ⟨a.g.trans b.g,a.h.trans b.h,b.sub,λc h=>(b.new c h).elim (λz=>a.new c z) λz=>.inr (a.h.free z)⟩
def Co.laid{G H:Hp}{o:HO}(s:K_)(hp:cE_):Co G H (upd G p o) fl_:=by
 refine⟨iR (s.free hp),iR hp,jP_,bo_⟩
 .by_cases hb:b=p
  .subst hb;rw[cC]at e ⊢;exact e
  .rw[bD hb]at e ⊢;exact s b u e
 .by_cases hb:b=p
  .subst hb;exact .inr hp
  .rw[bD hb]at h;exact .inl h
abbrev Ae:=List (Option D)
structure OR(K:yQ!)(own:k_)(G H:Hp)(Z:St)(ρ:Ae):Prop where
 sub:Bk G H
 len:g8_=f7_
 at_:∀(i:Nat) (d:D),ρ[i]?=some ef!->i∉own->∃v,Z[i]?=some dI_/\Ax K G d v
 own_:∀i∈own,∃p ds vs,ρ[i]?=some ol!/\Z[i]?=some ce_/\H p=some dm_/\G p=none/\Am K G ds vs
 dis:∀i∈own,∀j∈own,i≠j->∀p q,Z[i]?=some ce_->Z[j]?=some (some (V.ref q))->p≠q
def OR.grow{K:yQ!}{own:k_}{G H G' H':Hp}{Z:St}{ρ:Ae}(h:cf!)(x:jQ!):OR K own G' H' Z ρ where
 sub:=x.sub
 len:=h.len
 at_:=λi d q n=>let⟨v,Y,L⟩:=h.at_ i d q n;wl!
 own_:=λi hi=>by
  obtain⟨p,ds,vs,Y,L,h3,h4,h5⟩:=h.own_ i hi;refine⟨p,ds,vs,Y,L,x.h _ _ h3,?_,h5.mono x.g⟩;cases q:G' p with
  |none=>rfl
  |some o=>
   rcases x.new p b9_ with z|z
   .exact absurd h4 z
   .rw[h3]at z;cases z
 dis:=h.dis
def OR.set{K:yQ!}{own:k_}{G H:Hp}{Z:St}{ρ:Ae}{i:Nat}(h:cf!)(hi:bp!)(r:cF_):OR K own G H eM! cf_ where
 sub:=h.sub
 len:=by rw[LO,LO,h.len]
 at_:=λj c q n=>by
  by_cases hj:i=j
  .subst hj;by_cases hi:i<g8_
   .rw[KB hi]at q;cases q;exact⟨v,by rw[KB (by rw[<-h.len];exact hi)],r⟩
   .rw[JW (by rw[LO];omega)]at q;cases q
  .rw[JE hj]at q;rw[JE hj];exact h.at_ j c q n
 own_:=λj hj=>by
  have ne:i≠j:=λe=>hi (e▸hj);rw[JE ne,JE ne];exact h.own_ j hj
 dis:=λj hj k hk ce p q e1 e2=>by
  have ne:i≠j:=λe=>hi (e▸hj);have Y':i≠k:=λe=>hi (e▸hk);rw[JE ne]at e1;rw[JE Y']at e2;exact h.dis j hj k hk ce p q e1 e2
def Jx(own:k_)(Z:St):List Addr:=own.filterMap λi=>match Z[i]? with|some (some (V.ref p))=>some p|_=>none
def nZ{own:k_}{Z:St}(h:p∈Jx own Z):∃i∈own,Z[i]?=some ce_:=by
 obtain⟨i,hi,e⟩:=MN.mp h;refine⟨i,hi,?_⟩;show"!6"
 .rename_i q he;cases e;exact he
 .cases e
def a6p{own:k_}{Z:St}{i:Nat}(hi:eg!)(h:wn!):p∈Jx own Z:=MN.mpr ⟨i,hi,by rw[h]⟩
def Lc(own:k_)(Z:St)(G H:Hp):Hp:=λb=>if b∈Jx own Z then H b else G b
def OR.full{K:yQ!}{own:k_}{G H:Hp}{Z:St}{ρ:Ae}(h:cf!):OR K [] fn_ H Z ρ:=by
 have s1:Bk G fn_:=λb o e=>by
  unfold Lc;split
  .exact h.sub b o e
  .exact e
 have s2:Bk fn_ H:=λb o e=>by
  unfold Lc at e;show"!6"
  .exact e
  .exact h.sub b o e
 refine⟨s2,h.len,om_,ar_,ar_⟩;by_cases hi:i∈own
 .obtain⟨p,ds,vs,Y,L,h3,h4,h5⟩:=h.own_ i hi;rw[Y]at q;cases q;refine⟨_,L,Ax.lst (Fx.of (xs:=vs) ?_) (h5.mono s1)⟩;unfold Lc;rw[IB (a6p hi L)];exact h3
 .obtain⟨v,Y,L⟩:=h.at_ i d q hi;exact⟨v,Y,L.mono s1⟩
def Le(ρ ρ':Ae):Prop:=g8_=ρ'.length/\∀(i:Nat) (d:D),ρ[i]?=some ef!->ρ'[i]?=some ef!
def OR.le{K:yQ!}{G H:Hp}{Z:St}{ρ ρ':Ae}(h:OR K [] G H Z ρ')(l:Le ρ ρ'):OR K [] G H Z ρ:=⟨h.sub,l.1.trans h.len,λi d q n=>h.at_ i d (l.2 i d q) n,ar_,ar_⟩
def Le.set{ρ ρ':Ae}{i:Nat}(h:Le ρ ρ')(hi:ρ[i]?=some none):Le ρ (ρ'.set i ef!):=by
 refine⟨by rw[LO];exact h.1,λj c q=>?_⟩;have:i≠j:=λe=>by subst e;rw[hi]at q;cases q
 rw[JE this];exact h.2 j c q
def Le.refl(ρ:Ae):Le ρ ρ:=⟨rfl,λ_ _ h=>h⟩
def Tj(nl:Nat)(ix:k_)(ρ:Ae):Ae:=List.replicate nl none++ix.map λj=>(ρ[j]?).join
def OR.cap{K:yQ!}{own:k_}{G H:Hp}{Z:St}{ρ:Ae}(h:cf!)(nl:Nat)(ix:k_)(J:jR!):OR K [] G H (Pv nl ix Z) g9_:=by
 unfold Pv Tj;refine⟨h.sub,H!,om_,ar_,ar_⟩;by_cases hi:i<nl
 .rw[JZ gJ!,OA,IB hi]at q;cases q
 .rw[e6_,JC,MZ]at q;rw[e6_,JC,MZ];cases e:ix[i - nl]? with
  |none=>rw[e]at q;cases q
  |some j=>
   rw[e]at q;have q':(ρ[j]?).join=some d:=JJ q;have q2:ρ[j]?=some ef!:=by
    cases z:ρ[j]? with
    |none=>rw[z]at q';cases q'
    |some o=>rw[z]at q';exact congrArg some q'
   obtain⟨v,Y,L⟩:=h.at_ j d q2 (J j (NP e));exact⟨v,by simp[Y],L⟩
inductive tD(K:yQ!)(own:k_)(f:e!)(Z:St)(H:Hp)(Q:VK):Prop
 |mk (G:Hp) (ρ:Ae) (d:D) (o:cf!) (e:cg!) (k:∀v G' H',Co G H G' H'->Ax K G' d v->Q v H'):tD K own f Z H Q
inductive FV(K:yQ!)(own:k_)(f:as!)(Z:St)(H:Hp)(Q:c0_):Prop
 |mk (G:Hp) (ρ:Ae) (ds:c!) (o:cf!) (e:f ρ=some ds) (k:∀vs G' H',Co G H G' H'->Am K G' ds vs->Q vs H'):FV K own f Z H Q
inductive Zx(K:yQ!)(own:k_)(f:ah!)(Z:St)(H:Hp)(Q:dK!):Prop
 |mk (G:Hp) (ρ:Ae) (b:Bool) (o:cf!) (e:f ρ=some b) (k:∀G' H',Co G H G' H'->Q b H'):Zx K own f Z H Q
structure DE(X:Cx)(own:k_)(e:Expr)(f:e!):Prop where
 ok:PE X e (tD X.K own f)
structure DA(X:Cx)(own:k_)(es:bJ_)(f:as!):Prop where
 ok:PA X es (FV X.K own f)
structure DT(X:Cx)(own:k_)(e:Expr)(f:ah!):Prop where
 ok:PT X e rH!
structure DW(X:Cx)(own:k_)(e:Expr)(f:ah!):Prop where
 ok:PW X e rH!
section
variable{X:Cx}{own:List Nat}{e a b c:Expr}{es:List Expr}{pos:Pos}{f fa fb fc:Ae->Option D}{fs:Ae->Option (List D)}{ft fu:Ae->Option Bool}
def eX{t:TE}(h:iv_)(hw:∀Z G H Q ρ d,OR X.K own G H Z ρ->f ρ=some d->(∀v G' H',Co G H G' H'->Ax X.K G' d v->Q v H')->t Z H Q):DE X own e f:=wp_
def c2y{t:TA}(h:gF!)(hw:∀Z G H Q ρ d,OR X.K own G H Z ρ->fs ρ=some d->(∀v G' H',Co G H G' H'->Am X.K G' d v->Q v H')->t Z H Q):DA X own es fs:=⟨λp h1 s Z H Q I ⟨G,ρ,d,er,e,k⟩=>h p h1 s Z H Q I op!⟩
def yO{t:TT}(h:PT X e t)(hw:wq_):DT X own e ft:=wp_
def c7x{t:TT}(h:PW X e t)(hw:wq_):DW X own e ft:=⟨λwh h1 s Z H Q I ⟨G,ρ,d,er,e,k⟩=>h wh h1 s Z H Q I op!⟩
def Oq(f:e!):Ae->Option D:=λρ=>(an!).bind λd=>if Ei d then some d else none
def b5a(h:DE X [] e f):DE X own e (Oq f):=eX h.ok λZ G H Q ρ d er e k=>by
 obtain⟨d',e1,e2⟩:=HJ.mp e;split at e2
 .rename_i hn;cases e2;refine⟨Lc own Z G H,ρ,d,er.full,e1,λv G' H' x r=>?_⟩;have ZA:∀b,b∈Jx own Z->∃vs,G' b=some dm_:=λb hb=>by
   show"!N";refine⟨vs,x.g _ _ ?_⟩;unfold Lc;rw[IB hb];exact h3
  have hG:∀b,b∈Jx own Z->G b=none:=λb hb=>by
   show"!N";exact h4
  refine k v (λb=>if b∈Jx own Z then none else G' b) H' ⟨λb o z=>?_,x.h,λb o z=>?_,λb z=>?_⟩ (Ax.mapT (λa vs q=>?_) d v hn r)
  .have hb:b∉Jx own Z:=λhb=>by rw[hG b hb]at z;cases z
   show oq_=some o;rw[HQ hb];refine x.g _ _ ?_;unfold Lc;rw[HQ hb];exact z
  .have z':oq_=some o:=z;split at z'
   .cases z'
   .exact x.sub _ _ z'
  .have z':oq_≠none:=z;split at z'
   .exact absurd rfl z'
   .rename_i hb;obtain y|y:=x.new b z'
    .unfold Lc at y;rw[HQ hb]at y;exact .inl y
    .exact .inr y
  .have ne:∀u,G' a=some u->(∀ws,u≠.lst ws)->(if a∈Jx own Z then none else G' a)=some u:=λu e1 hu=>by
    rw[HQ (λhb=>by obtain⟨ws,e2⟩:=ZA a hb;rw[e1]at e2;exact hu ws (JJ e2))];exact e1
   rcases q with(q|⟨o,q⟩)|q
   .exact .inl (.inl (ne _ q λ_ z=>nomatch z))
   .exact .inl (.inr ⟨o,ne _ q λ_ z=>nomatch z⟩)
   .exact .inr q
 .cases e2
def Aa(i:Nat):Ae->Option D:=λρ=>(ρ[i]?).join
nonrec def fC(d:D):Ae->Option D:=λ_=>some d
def join_some{ρ:Ae}{i:Nat}(h:(ρ[i]?).join=some d):ρ[i]?=some ef!:=by
 cases z:ρ[i]? with
 |none=>rw[z]at h;cases h
 |some o=>rw[z]at h;exact congrArg some h
def aA(i:Nat){x:Str}(hi:bp!:=by decide)(hN:ak!:=by rfl)(hv:cs_:=by first|exact Or.inl rfl|exact Or.inr b!|exact Or.inr aG_)(hd:F_:=by decide)
  (bz:ct!:=by decide):DE X own ct_ (Aa i):=
 eX jS_ λZ G H Q ρ d er e k=>let⟨v,Y,L⟩:=er.at_ i d (join_some e) hi;⟨v,Y,k v G H ha! L⟩
def c2x{t:TE}(h:iv_)(ht:∀Z H Q,Q v H->t Z H Q)(r:∀H,Ax X.K H d v):DE X own e (fC d):=
 eX h λZ G H Q ρ d' er e' k=>by
  cases e';exact ht Z H Q (k v G H ha! (r G))
def aD{i:Int}{j:Nat}:DE X own rO_ (fC bw_):=c2x c8w ha_ λ_=>Ax.int
def aS{j:Nat}:DE X own (.Constant jO_ j pos) (fC jO_):=c2x b9u ha_ λ_=>Ax.str
def eE{i:Bool}{j:Nat}:DE X own (.Constant (.bool i) j pos) (fC (.bl i)):=c2x d2n ha_ λ_=>Ax.bl
def dI{j:Nat}:DE X own rQ! cg_:=c2x c8v ha_ λ_=>Ax.non
def c6o{x:Str}{i:Int}(hg:Y!)(hm:X.mg x=some dE!)(hd:F_:=by decide):DE X own ct_ (fC bw_):=
 c2x (c4y (v:=V.int i) hg hm gW! hd) ha_ λ_=>Ax.int
nonrec def f2(g:bd!)(fa fb:e!):Ae->Option D:=λρ=>(fp!).bind λx=>(jU_).bind λy=>g x y
def Ij(K:yQ!)(r:R2)(g:bd!):Prop:=∀{x y:V} {dx dy d:D} {G H:Hp} {Q:VK},Bk G H->Ax K G dx x->Ax K G dy y->g dx dy=some d->jV!->r x y H Q
def two{g:bd!}{r:R2}(hg:ej!){Z:St}{G H:Hp}{Q:VK}{ρ:Ae}(er:OR X.K own G H Z ρ)(e:f2 g fa fb ρ=some d)(k:∀v G' H',Co G H G' H'->Ax X.K G' d v->Q v H'):
  BD r (tD X.K own fa) (tD X.K own fb) Z H Q:=by
 unfold f2 at e;show"!<";obtain⟨y,e2,e⟩:=HJ.mp e;exact⟨G,ρ,x,er,e1,λu G1 H1 s1 r1=>⟨G1,ρ,y,dn_,e2,λw G2 H2 s2 r2=>hg s2.sub hb_ r2 e λv G' H' s3 r3=>k v G' H' (s1.trans hc!) r3⟩⟩
def aY{op:Operator}{r:R2}{g:bd!}(ho:mM_)(hg:ej!)(ha:Z_)(hb:cG_):DE X own mN! jW_:=
 eX sq_ λZ G H Q ρ d er e k=>two hg er e k
def fX{op:CmpOp}{r:R2}{g:bd!}(ho:b6!)(hg:ej!)(ha:Z_)(hb:cG_)(hm:dL!):DE X own dL_ jW_:=
 eX wu_ λZ G H Q ρ d er e k=>two hg er e k
def aN{r:R2}{g:bd!}(hr:Wq X r)(hg:ej!)(ha:Z_)(hb:cG_)(hs:Qh b):DE X own nF_ jW_:=
 eX wv! λZ G H Q ρ d er e k=>two hg er e k
nonrec def fT(f:e!):Ae->Option Bool:=λρ=>(an!).bind λd=>match d with|.bl b=>some b|_=>none
def lA{ρ:Ae}{b:Bool}(h:fT f ρ=some b):f ρ=some bK!:=by unfold fT at h;obtain⟨d,e,h⟩:=HJ.mp h;cases d<;>first|(cases h;exact e)|cases h
def bM{op:CmpOp}{r:R2}{g:bd!}(ho:b6!)(hg:ej!)(ha:Z_)(hb:cG_)(hm:dL!):DT X own dL_ (fT jW_):=
 yO wv_ λZ G H Q ρ d er e k=>two (own:=own) (Q:=ww!) hg er (lA e) λv G' H' s' r'=>by
  cases dA r';exact wx_
def fJ(h:do_)(he:iw!:=by intro _;rfl):DT X own e (fT f):=
 yO (b9e h.ok he) λZ G H Q ρ d er e k=>⟨G,ρ,.bl d,er,lA e,λv G' H' s' r'=>by
  cases dA r';exact wx_⟩
def Uy:D->Option Bool
 |.lst xs=>some (! dX!)
 |.tup xs=>some (! dX!)
 |.bl b=>some b
 |.int i=>some gx!
 |.non=>some false
 |_=>none
def uW{K:yQ!}{H:Hp}{ds:c!}{vs:n!}(h:cD_):(!ds.isEmpty)=!vs.isEmpty:=by have:=aL h;cases ds<;>cases vs<;>simp_all
def a8y(h:do_)(he:iw!:=by intro _;rfl):DT X own e (λρ=>(an!).bind Uy):=
 yO (b9f h.ok he) λZ G H Q ρ b er e k=>by
  obtain⟨d,e1,e2⟩:=HJ.mp e;refine⟨G,ρ,d,er,e1,λv G' H' s' r'=>⟨b,?_,ou!⟩⟩;cases d with
  |non=>cases eH r';cases e2;exact(rfl:false=false)
  |bl x=>cases dA r';cases e2;exact rfl
  |int i=>cases bG r';cases e2;exact(rfl:gx!=gx!)
  |str x=>cases e2
  |fn a=>cases e2
  |dk a=>cases e2
  |tup xs=>
   obtain⟨a,vs,e3,q,r3⟩:=bS r';subst e3;cases e2;exact .inr (.inl ⟨vs,cD s'.sub q,uW r3⟩)
  |lst xs=>
   obtain⟨a,vs,e3,q,r3⟩:=bT r';subst e3;cases e2;exact .inl ⟨vs,s'.sub.seq q,uW r3⟩
def Cz(ft fu:ah!):Ae->Option Bool:=λρ=>(hd_).bind λb=>if b then fu ρ else some false
def Ms(ft fu:ah!):Ae->Option Bool:=λρ=>(hd_).bind λb=>if b then some true else fu ρ
def Ct(ft:ah!):Ae->Option Bool:=λρ=>(hd_).map (!·)
variable{rest:List Expr}
def rK(h:he!):DW X own mm! ft:=wz!
def tY(h:he!):DW X own mm_ ft:=wz_
def yM(ha:he!)(hb:DW X own eP! fu):DW X own eP_ (Cz ft fu):=
 c7x wA_ λZ G H Q ρ d er e k=>by
  obtain⟨x,e1,e⟩:=HJ.mp e;refine ov!;cases x with
  |true=>exact nA wB!
  |false=>cases e;exact nB (k G1 H1 s1)
def a1j(ha:he!)(hb:DW X own eQ! fu):DW X own eQ_ (Ms ft fu):=
 c7x wC! λZ G H Q ρ d er e k=>by
  obtain⟨x,e1,e⟩:=HJ.mp e;refine ov!;cases x with
  |false=>exact nB wB!
  |true=>cases e;exact nA (k G1 H1 s1)
def yN(h:DW X own e ft):DT X own e ft:=⟨h.ok.pt⟩
def gK(h:he!):DT X own eR_ (Ct ft):=
 yO (b9g h.ok) λZ G H Q ρ d er e k=>by
  obtain⟨x,e1,rfl⟩:=HU.mp e;exact⟨G,ρ,x,er,e1,λG1 H1 s1=>k G1 H1 s1⟩
def Cu(fa fb:e!):Ae->Option D:=λρ=>(ov_).bind λb=>if b then fb ρ else some Q!
def Ev(fa fb:e!):Ae->Option D:=λρ=>(ov_).bind λb=>if b then some z_ else fb ρ
def Dv(fa:e!):Ae->Option D:=λρ=>(ov_).map λb=>.bl (!b)
def iF{op:BoolOp}(h:Z_):DE X own mn_ fa:=wD!
def lJ(ha:Z_)(hb:DE X own eP! fb):DE X own eP_ (Cu fa fb):=
 eX wD_ λZ G H Q ρ d er e k=>by
  obtain⟨x,e1,e⟩:=HJ.mp e;refine ow!;cases dA r1;refine jX_;cases x with
  |true=>exact nA jY!
  |false=>cases e;exact nB wF_
def a1k(ha:Z_)(hb:DE X own eQ! fb):DE X own eQ_ (Ev fa fb):=
 eX wG! λZ G H Q ρ d er e k=>by
  obtain⟨x,e1,e⟩:=HJ.mp e;refine ow!;cases dA r1;refine jX_;cases x with
  |false=>exact nB jY!
  |true=>cases e;exact nA wF_
def d0s(ha:Z_):DE X own eR_ (Dv fa):=
 eX (b9y ha.ok) λZ G H Q ρ d er e k=>by
  obtain⟨x,e1,rfl⟩:=HU.mp e;refine ow!;cases dA r1;exact⟨x,rfl,wG_⟩
def Kz(ft:ah!)(fa fb:e!):Ae->Option D:=λρ=>(hd_).bind λb=>if b then fa ρ else fb ρ
def c7z(hc:DT X own c ft)(ha:Z_)(hb:cG_):DE X own mq! (Kz ft fa fb):=
 eX wH_ λZ G H Q ρ d er e k=>by
  obtain⟨x,e1,e⟩:=HJ.mp e;refine ov!;cases x with
  |true=>exact nA jY!
  |false=>exact nB jY!
nonrec def f3(g h:bd!)(fa fb fc:e!):Ae->Option D:=λρ=>(fp!).bind λx=>(jU_).bind λy=>(g x y).bind λz=>match z with
 |.bl true=>(fc ρ).bind λw=>h y w
 |.bl false=>some Q!
 |_=>none
def Ag:Ae->Option aR!:=λ_=>some []
def Ac(f:e!)(fs:as!):Ae->Option aR!:=λρ=>(an!).bind λd=>(fq_).bind λds=>some ee!
def aJ:DA X own [] Ag:=c2y gP λZ G H Q ρ d er e k=>by
 cases e;exact k [] G H ha! Am.nil
def aE(h:do_)(hs:jY_)(b8:ay_:=by rfl):DA X own aN_ (Ac f fs):=
 c2y wI_ λZ G H Q ρ d er e' k=>by
  obtain⟨x,e1,e'⟩:=HJ.mp e';obtain⟨xs,e2,e'⟩:=HJ.mp e';cases e';exact⟨G,ρ,x,er,e1,λv G1 H1 s1 r1=>⟨G1,ρ,xs,dn_,e2,λvs G2 H2 s2 r2=>k _ G2 H2 dp! (Am.cons hb_ r2)⟩⟩
def Aw(fs:as!):Ae->Option D:=λρ=>(fq_).bind λds=>if h!<=1000 then some dm! else none
def Di(fs:as!):Ae->Option D:=λρ=>(fq_).bind λds=>if h!<=1000 then some cd_ else none
def gJ{n:Nat}(h:n<=1000):n<=sizeLine:=MV (b5t h)
def cO{x1:Nat}(h:jY_):DE X own tD! (Aw fs):=
 eX (b9t h.ok) λZ G H Q ρ d er e k=>by
  show"!G"
  .show"!F";refine⟨G,ρ,ds,er,e1,λvs G1 H1 s1 r1=>⟨wJ!,λp hp=>k _ _ _ wJ_ (fZ wK! r1)⟩⟩
  .cases e
def lH(h:jY_):DE X own i3! (Di fs):=
 eX jZ_ λZ G H Q ρ d er e k=>by
  show"!G"
  .show"!F";refine⟨G,ρ,ds,er,e1,λvs G1 H1 s1 r1=>⟨wJ!,λp hp=>k _ _ _ wJ_ (dQ wK! r1)⟩⟩
  .cases e
def Uu(K:yQ!)(r:dT_)(g:ah_):Prop:=∀{vs:n!} {ds:c!} {d:D} {G H:Hp} {Q:VK},Bk G H->Am K G ds vs->g ds=some d->jV!->r vs H Q
nonrec def f1(g:ah_)(fs:as!):Ae->Option D:=λρ=>(fq_).bind g
def cH{id:String}{x:Str}{r:dT_}{g:ah_}(hc:m9!)(hd:Uu X.K r g)(hg:Y!)(hm:c3_)(hv:nn_)(ha:j0!)(hn:c4!:=by decide)
  (bg:F_:=by decide)(he:ay_:=by rfl)(a7:a6_:=by rfl):DE X own bB! oy_:=
 eX wL_ λZ G H Q ρ d er e' k=>by
  obtain⟨ds,e1,e'⟩:=HJ.mp e';exact⟨G,ρ,ds,er,e1,λvs G1 H1 s1 r1=>hd s1.sub r1 e' λv G2 H2 s2 r2=>k v G2 H2 dp! r2⟩
def Yj(K:yQ!)(n:Nat)(g:ah_):Sp:=λvs H Q _=>bA_=n/\∃G ds d,Bk G H/\Am K G ds vs/\g ds=some d/\∀v G' H',Co G H G' H'->Ax K G' d v->Q v H'
def c6q{k:Nat}{ps:q!}{g:ah_}{x:Str}(F:Fo X.prog X.w X.K X.mg X.base Qf k ae fd ps wM!)(hr:b6_)(hg:Y!)(hm:X.mg x=some bT!)(hk:W.keepIn X.K bT!=true)
  (hb:j1!)(ha:j0!)(hn:wM_:=by rfl)(ap:wN!)
  (bg:F_:=by decide)(he:ay_:=by rfl)(a7:a6_:=by rfl):
  DE X own bB! oy_:=
 eX (b3y F hr hg hm hk hb .nil wZ ha.ok bg he a7) λZ G H Q ρ d er e' k=>by
  obtain⟨ds,e1,e'⟩:=HJ.mp e';refine⟨G,ρ,ds,er,e1,λvs G1 H1 s1 r1=>?_⟩;show Yj X.K ps.length g (vs++[]) H1 Q E0;rw[IR];exact⟨by rw[<-aL r1];exact ap ρ ds e1,G1,ds,d,s1.sub,r1,e',wE_⟩
end
def aW{ρ:Ae}{ds:c!}(h:Ag ρ=some ds):h!=0:=by cases h;rfl
def aK{f:e!}{fs:as!}{n:Nat}(hf:wN_):∀(ρ:Ae) (ds:c!),Ac f fs ρ=some ds->h!=n+1:=λρ ds e=>by
 show"!<";obtain⟨xs,e2,e⟩:=HJ.mp e;cases e;rw[IE,hf ρ xs e2]
def pC{h:Heap}{its:ae_}(p:PlainL h a its):∃n sl,h.get? a=some {cls:=.type "list",dict:=none,data:=.seq its n,slots:=sl}:=by obtain⟨⟨cls,dd,data,sl⟩,n,e,Y,L,h3⟩:=p;simp only at Y L h3;subst Y L h3;exact⟨n,sl,e⟩
section
variable{X:Cx}
def Zp(K:yQ!):R2:=λx y H Q=>∃l b xs zs,x=.ref l/\y=.ref b/\Fx K H l xs/\Fx K H b zs/\l_+zs.length<=sizeLine/\∀p,H p=none->Q da! (upd H p vi_)
def c5d:Gw X eZ_ (Zp X.K):=by
 intro h1 s Z H x y v u Q I rx ry h;obtain⟨l,b,xs,zs,rfl,rfl,hH,hB,hz,q⟩:=h;cases rx;cases ry;obtain⟨its,r,pl,z⟩:=I.list hH;obtain⟨gr,r2,ZB,z2⟩:=I.list hB;obtain⟨n,sl,e⟩:=pC pl;obtain⟨n2,ji,e2⟩:=pC ZB;have Y:=aX!;have L:=r2.length;refine concat_meets d7_ ⟨_,e2,rfl⟩ PySem.noFill_list_add PySem.seq_list_add PySem.F.slot_list_add PySem.F.entry_list_add (PySem.F.args_list_add_2 _ _)
  (list_addW l b its.toArray gr.toArray n n2 none none sl ji oz!) ⟨e,e2,?_⟩
 have ea:bg_++gr.toArray=(its++gr).toArray:=by simp
 rw[ea];exact⟨.ref _,_,I.lnew (t':=s.toks) (r.append r2) wO!,rfl,q _ I.fresh⟩
def Xd(K:yQ!):R2:=λx y H Q=>∃a b ys,x=.ref a/\y=.ref b/\Ge K H a []/\Ge K H b ys/\Q d3_ H
def c0j:Gw X eZ_ (Xd X.K):=by
 intro h1 s Z H x y v u Q I rx ry h;obtain⟨a,b,ys,rfl,rfl,ha,hb,q⟩:=h;cases rx;cases ry;obtain⟨its,r1,p1,_⟩:=I.tuple ha;obtain⟨gr,r2,p2,_⟩:=I.tuple hb;obtain⟨⟨cls,dd,data,sl⟩,ho,hc,n,hd⟩:=id p1;obtain⟨⟨UK,lj,data2,ji⟩,jj,iq,n2,jk⟩:=id p2;simp only at hc hd iq jk;subst hc hd iq jk;have e0:its=[]:=r1.nil_iff.mpr rfl;exact concat_meets jb! jb_ noFill_tuple_add seq_tuple_add QG PY (PQ _ _)
  (tuple_addW0 a b its.toArray gr.toArray n n2 dd lj sl ji (by simp[e0])) ⟨ho,jj,⟨.ref b,H,I,rfl,q⟩⟩
abbrev big:Nat:=100000
def cY{n:Nat}(h:n<=big):n<=sizeLine:=JB h wO_
def An:D->D->Option D
 |.int i,.int j=>some (.int (i+j))
 |.str x,.str y=>if e1_+cy!<=big then some (.str (x++y))else none
 |.tup xs,.tup ys=>if l_+ac_<=big then some (.tup eJ_)else none
 |.lst xs,.lst ys=>if l_+ac_<=big then some (.lst eJ_)else none
 |_,_=>none
def Sx(K:yQ!):R2:=λx y H Q=>Sw (λi j=>.int (i+j)) x y H Q\/((∃i j,x=.str i/\y=.str j/\i.length+j.length<=sizeLine/\Q (.str (i++j)) H)\/(Zo K x y H Q\/(Xd K x y H Q\/Zp K x y H Q)))
def aQ:Gw X eZ_ (Sx X.K):=c9f.or (b1b.or (c5c.or (c0j.or c5d)))
def bO{K:yQ!}:Ij K (Sx K) An:=by
 show"!0";unfold An at e;show"!6"
 .show"!^";exact .inl ⟨_,_,rfl,rfl,el_⟩
 .cases cI rx;cases cI ry;show"!6"
  .show"!F";exact .inr (.inl ⟨_,_,rfl,rfl,cY hl,wQ_⟩)
  .cases e
 .show"!S";obtain⟨b,ws,rfl,qb,rb⟩:=bS ry;show"!6"
  .show"!F";have l1:=aL ra;have l2:=aL rb;by_cases hv:vs=[]
   .subst hv;refine .inr (.inr (.inr (.inl ⟨a,b,ws,rfl,rfl,j3!,oA!,k _ G H aS_ ?_⟩)));have:(_:c!)=[]:=QB.mp l1;rw[this,KO];exact Ax.tup qb rb
   .refine .inr (.inr (.inl ⟨a,b,vs,ws,rfl,rfl,j3!,oA!,hv,by rw[<-l1,<-l2];exact cY hl,λhw=>?_,λhw p hp=>?_⟩))
    .subst hw;have:(_:c!)=[]:=QB.mp l2;refine k _ G H aS_ ?_;rw[this,IR];exact Ax.tup qa ra
    .exact k _ _ _ j4! (fZ hh_ (dG ra rb))
  .cases e
 .show"##";obtain⟨b,ws,rfl,qb,rb⟩:=bT ry;show"!6"
  .show"!F";exact .inr (.inr (.inr (.inr ⟨a,b,vs,ws,rfl,rfl,sub.seq qa,sub.seq qb,by rw[<-aL ra,<-aL rb];exact cY hl,λp hp=>k _ _ _ j4! (dQ hh_ (dG ra rb))⟩)))
  .cases e
 .cases e
def Dy(c:mO_)(g:j4_):D->D->Option D
 |.int i,.int j=>if c i j=true then some bz_ else none
 |_,_=>none
def a3j{K:yQ!}{C:mM!}{c:mO_}{g:j4_}{gv:iM_}(hc:∀i j,c i j=true->C i j)(hg:wS_):Ij K (rI C gv) (Dy c g):=by
 show"!0";unfold Dy at e;show"!6"
 .cases bG rx;cases bG ry;show"!6"
  .rename_i h;cases e;exact⟨_,_,rfl,rfl,hc _ _ h,wT_⟩
  .cases e
 .cases e
def Ch(g:j4_):D->D->Option D
 |.int i,.int j=>some bz_
 |_,_=>none
def vR{K:yQ!}{g:j4_}{gv:iM_}(hg:wS_):Ij K (Sw gv) (Ch g):=by
 show"!0";unfold Ch at e;show"!6"
 .show"!^";exact⟨_,_,rfl,rfl,wT_⟩
 .cases e
def Dr:D->D->Option D:=Ch λi j=>.int (i - j)
def sY{K:yQ!}:Ij K sI! Dr:=vR λ_ _ _=>Ax.int
def Uh(i j:Int):Bool:=(decide (-iO_<i)&&decide (i<2 ^ 64))||(decide (-iO_<j)&&decide (j<2 ^ 64))
def c9k{K:yQ!}:Ij K mP! (Dy Uh λi j=>.int (i*j)):=a3j (λi j h=>by
 unfold Uh at h;simp only[Bool.or_eq_true,IZ,JA]at h;exact h) λ_ _ _=>Ax.int
def c9l{K:yQ!}:Ij K mQ_ (Dy wU_ λi j=>.int (i%j)):=a3j (λi j h=>by simpa using h) λ_ _ _=>Ax.int
def c5i{K:yQ!}:Ij K mQ! (Dy wV! λi j=>.int (i / j)):=a3j (λi j h=>by
 simp only[IZ,JA]at h;exact h) λ_ _ _=>Ax.int
def c9j{K:yQ!}:Ij K mR_ (Dy wV_ λi j=>.int mS!):=a3j (λi j h=>by
 simp only[IZ,JA]at h;exact⟨h.1.1,h.1.2,h.2⟩) λ_ _ _=>Ax.int
def d2t{K:yQ!}:Ij K mT_ (Ch λi j=>.bl mT!):=vR λ_ _ _=>Ax.bl
def d2v{K:yQ!}:Ij K mW! (Ch λi j=>.bl mV_):=vR λ_ _ _=>Ax.bl
def d2w{K:yQ!}:Ij K mX! (Ch λi j=>.bl mW_):=vR λ_ _ _=>Ax.bl
def Sc(x y:Str):Bool:=!decide (y.cps.toList<x.cps.toList)
def b6o:Gw X mU! (λx y H Q=>∃i j,x=.str i/\y=.str j/\Q wW_ H):=by intro h1 s Z H x y v u Q I rx ry h;obtain⟨i,j,rfl,rfl,q⟩:=h;obtain⟨t,rfl⟩:=rx;obtain⟨t',rfl⟩:=ry;exact PySem.P.le_str (eU I q rfl)
def Cn:D->Bool
 |.non=>true
 |_=>false
def Bz:D->D->Option D
 |x,.non=>some (.bl (Cn x))
 |_,_=>none
def a0c{K:yQ!}{H:Hp}(r:Ax K H d x):decide (x=V.non)=Cn d:=by
 cases d with
 |non=>cases eH r;rfl
 |bl b=>cases dA r;rfl
 |int b=>cases bG r;rfl
 |str b=>cases cI r;rfl
 |tup b=>obtain⟨a,vs,rfl,_⟩:=bS r;rfl
 |lst b=>obtain⟨a,vs,rfl,_⟩:=bT r;rfl
 |fn b=>cases gD r;rfl
 |dk b=>obtain⟨a,rfl,_⟩:=c8n r;rfl
def b1i{K:yQ!}:Ij K sR! Bz:=by
 show"!0";unfold Bz at e;show"!6"
 .show"#7"
 .cases e
def Ar:D->D->Option D
 |x,.non=>some (.bl (!Cn x))
 |_,_=>none
def nX{K:yQ!}:Ij K sS! Ar:=by
 show"!0";unfold Ar at e;show"!6"
 .show"#7"
 .cases e
def Ak:D->D->Option D
 |.tup xs,.int i=>Dc xs i
 |.lst xs,.int i=>Dc xs i
 |.str x,.int i=>if e1_<=big then(Dc x.cps.toList i).map λc=>.str aq_ else none
 |_,_=>none
def qB{K:yQ!}{H:Hp}{i:Int}(r:cD_)(h:Dc ds i=some d):∃v,Dc vs i=some v/\Ax K H d v:=by unfold Dc at h ⊢;obtain⟨j,Y,L⟩:=HJ.mp h;obtain⟨v,h3,h4⟩:=iS r L;exact⟨v,HJ.mpr ⟨j,by rw[<-aL r];exact Y,h3⟩,h4⟩
def aM{K:yQ!}:Ij K (EV K) Ak:=by
 show"!0";unfold Ak at e;show"!6"
 .show"!S";cases bG ry;obtain⟨v,Y,L⟩:=qB ra e;exact .inr (.inl ⟨a,vs,_,v,rfl,rfl,j3!,Y,k v G H aS_ L⟩)
 .show"##";cases bG ry;obtain⟨v,Y,L⟩:=qB ra e;exact .inl ⟨a,vs,_,v,rfl,rfl,sub.seq qa,Y,k v G H aS_ L⟩
 .cases cI rx;cases bG ry;show"!6"
  .rename_i hl;obtain⟨c,Y,rfl⟩:=HU.mp e;exact .inr (.inr ⟨_,_,c,rfl,rfl,cY hl,Y,wQ_⟩)
  .cases e
 .cases e
def Dk{α:Type}(xs:P_)(lo hi:a8_):List α:=(xs.drop nz_).take nA_
def a6u{K:yQ!}{H:Hp}(r:cD_)(lo hi:a8_):Am K H (Dk ds lo hi) (Ul vs lo hi):=by unfold Dk Ul;rw[aL r];exact sL _ (sM _ r)
end
section
variable{X:Cx}{own:List Nat}{e a b c:Expr}{es:List Expr}{pos p2:Pos}{f fa fb fc:Ae->Option D}{fs:Ae->Option (List D)}{ft fu:Ae->Option Bool}{ol oh:Ae->Option (Option Int)}
inductive BF(K:yQ!)(own:k_)(o:wX!)(Z:St)(H:Hp)(Q:uw_):Prop
 |mk (G:Hp) (ρ:Ae) (i:a8_) (r:cf!) (e:o ρ=some i) (k:∀G' H',Co G H G' H'->Q i H'):BF K own o Z H Q
def Aq:Ae->Option oE!:=λ_=>some none
def Ap(f:e!):Ae->Option oE!:=λρ=>(an!).bind λd=>match d with|.int i=>some (some i)|_=>none
def dP:PO X none (BF X.K own Aq):=λh1 s Z H Q I ⟨G,ρ,i,er,e,k⟩=>by
 cases e;exact c4s h1 s Z H Q I (k G H ha!)
def dO(h:do_):PO X iA! (BF X.K own (Ap f)):=λh1 s Z H Q I ⟨G,ρ,i,er,e',k⟩=>by
 obtain⟨d,e1,e2⟩:=HJ.mp e';refine c4r h.ok h1 s Z H Q I ⟨G,ρ,d,er,e1,λv G' H' s' r'=>?_⟩;cases d<;>first
  |cases e2
  |skip
 cases bG r';exact⟨_,rfl,ou!⟩
def Bj:D->Option Int->Option Int->Option D
 |.tup xs,lo,hi=>if HT.sIx xs.length 0 lo=0/\HT.sIx xs.length xs.length hi=l_ then none else some (.tup (Dk xs lo hi))
 |.lst xs,lo,hi=>some (.lst (Dk xs lo hi))
 |_,_,_=>none
def Do(f:e!)(ol oh:wX!):Ae->Option D:=λρ=>(an!).bind λd=>(ol ρ).bind λl=>(oh ρ).bind λh=>Bj d l h
def cX{lo hi:Option Expr}(ha:Z_)(hl:PO X lo (BF X.K own ol))(hh:PO X hi (BF X.K own oh)):DE X own (.Subscript a nx_ pos) (Do fa ol oh):=
 eX (b9v (Zt.or c8j c3x) ha.ok hl hh) λZ G H Q ρ d er e k=>by
  show"!<";obtain⟨l,e2,e⟩:=HJ.mp e;obtain⟨h,e3,e⟩:=HJ.mp e;refine⟨G,ρ,x,er,e1,λv G1 H1 s1 r1=>⟨G1,ρ,l,dn_,e2,λG2 H2 s2=>⟨G2,ρ,h,er.grow dp!,e3,λG3 H3 s3=>?_⟩⟩⟩;have r3:Ax X.K G3 x v:=(hb_).mono s3.g;have s4:Co G H G3 H3:=s1.trans hc!;have sub:=s4.sub;unfold Bj at e;show"!6"
  .show"!6"
   .cases e
   .rename_i hw;cases e;obtain⟨p,vs,rfl,q,rr⟩:=bS r3;refine .inl ⟨p,vs,rfl,cD sub q,?_,λp hp=>k _ _ _ wY_ (fZ hh_ (a6u rr l h))⟩;rw[<-aL rr];exact hw
  .cases e;obtain⟨p,vs,rfl,q,rr⟩:=bT r3;exact .inr ⟨p,vs,rfl,oI_,λp hp=>k _ _ _ wY_ (dQ hh_ (a6u rr l h))⟩
  .cases e
def FR:D->Value
 |.non=>.type "NoneType"
 |.bl _=>.type "bool"
 |.int _=>.type "int"
 |.str _=>.type "str"
 |.tup _=>.type "tuple"
 |.lst _=>.type "list"
 |.fn _=>.none
 |.dk _=>.none
def CA(K:yQ!)(T:String):List V->Hp->VK->Prop:=λxs H Q=>∃x d b,xs=[x,.ty T]/\Ax K H d x/\W.kitOne K (FR d) d3!=some b/\(∀a,d≠.fn a)/\(∀a,d≠.dk a)/\Q bK! H
def c3h{T:String}:Kg X oJ_ (CA X.K T):=by
 intro h1 s Z H xs us Q I r h;obtain⟨x,d,b,rfl,rx,e,hf,y9,q⟩:=h;obtain⟨u,w',rfl,r1,r2⟩:=b2r r;cases r2;have fin:∀tk,EP X h1 Z Q mi! {s with toks:=tk}:=λtk=>⟨.bl b,H,I.tok tk,rfl,q⟩;cases d with
 |non=>cases eH rx;cases r1;exact RS W.kitx_none I.kIn True.intro e fr_ fin
 |bl y=>cases dA rx;cases r1;exact RS W.kitx_bool I.kIn True.intro e fr_ fin
 |int y=>cases bG rx;obtain⟨t,rfl⟩:=r1;exact RS W.kitx_int I.kIn True.intro e fr_ fin
 |str y=>cases cI rx;obtain⟨t,rfl⟩:=r1;exact RS W.kitx_str I.kIn True.intro e fr_ fin
 |tup ys=>
  show"!S";cases r1;obtain⟨its,_,⟨o,Y,L,_⟩,_⟩:=I.tuple qa;exact RS W.kitx_tuple I.kIn oK! e fr_ fin
 |lst ys=>
  show"##";cases r1;obtain⟨its,_,pl,_⟩:=I.list qa;obtain⟨o,n,Y,L,_⟩:=pl;exact RS W.kitx_list I.kIn oK! e fr_ fin
 |fn a=>exact absurd rfl (hf a)
 |dk a=>exact absurd rfl (y9 a)
def Ft(T:String):D->Option Bool
 |.non=>some (T=="NoneType")
 |.bl _=>some (T=="bool"||T=="int")
 |.int _=>some (T=="int")
 |.str _=>some (T=="str")
 |.tup _=>some (T=="tuple")
 |.lst _=>some (T=="list")
 |.fn _=>none
 |.dk _=>none
structure Xu(K:yQ!)(T:String):Prop where
 ok:∀d b,Ft T d=some b->W.kitOne K (FR d) d3!=some b
def a4d:W.kitOne [] j7_ bT_=some ("int"=="NoneType"):=by decide+kernel
def a7x:W.kitOne [] bU! bT_=some ("int"=="bool"||"int"=="int"):=by decide+kernel
def a4h:W.kitOne [] bT_ bT_=some ("int"=="int"):=by decide+kernel
def a4b:W.kitOne [] bU_ bT_=some ("int"=="str"):=by decide+kernel
def a3z:W.kitOne [] bV! bT_=some ("int"=="tuple"):=by decide+kernel
def a4f:W.kitOne [] d6! bT_=some ("int"=="list"):=by decide+kernel
def c5v{K:yQ!}:Xu K "int":=⟨λd b h=>match d,b,h with
 |.non,b,h=>by cases h;exact a4d
 |.bl _,b,h=>by cases h;exact a7x
 |.int _,b,h=>by cases h;exact a4h
 |.str _,b,h=>by cases h;exact a4b
 |.tup _,b,h=>by cases h;exact a3z
 |.lst _,b,h=>by cases h;exact a4f
 |.fn _,b,h=>by cases h
 |.dk _,b,h=>by cases h⟩
def zL:W.kitOne [] j7_ bU!=some ("bool"=="NoneType"):=by decide+kernel
def a4i:W.kitOne [] bU! bU!=some ("bool"=="bool"||"bool"=="int"):=by decide+kernel
def zN:W.kitOne [] bT_ bU!=some ("bool"=="int"):=by decide+kernel
def zK:W.kitOne [] bU_ bU!=some ("bool"=="str"):=by decide+kernel
def zJ:W.kitOne [] bV! bU!=some ("bool"=="tuple"):=by decide+kernel
def zM:W.kitOne [] d6! bU!=some ("bool"=="list"):=by decide+kernel
def c1w{K:yQ!}:Xu K "bool":=⟨λd b h=>match d,b,h with
 |.non,b,h=>by cases h;exact zL
 |.bl _,b,h=>by cases h;exact a4i
 |.int _,b,h=>by cases h;exact zN
 |.str _,b,h=>by cases h;exact zK
 |.tup _,b,h=>by cases h;exact zJ
 |.lst _,b,h=>by cases h;exact zM
 |.fn _,b,h=>by cases h
 |.dk _,b,h=>by cases h⟩
def a4c:W.kitOne [] j7_ bU_=some ("str"=="NoneType"):=by decide+kernel
def a7w:W.kitOne [] bU! bU_=some ("str"=="bool"||"str"=="int"):=by decide+kernel
def a4g:W.kitOne [] bT_ bU_=some ("str"=="int"):=by decide+kernel
def a4a:W.kitOne [] bU_ bU_=some ("str"=="str"):=by decide+kernel
def a3y:W.kitOne [] bV! bU_=some ("str"=="tuple"):=by decide+kernel
def a4e:W.kitOne [] d6! bU_=some ("str"=="list"):=by decide+kernel
def a4x{K:yQ!}:Xu K "str":=⟨λd b h=>match d,b,h with
 |.non,b,h=>by cases h;exact a4c
 |.bl _,b,h=>by cases h;exact a7w
 |.int _,b,h=>by cases h;exact a4g
 |.str _,b,h=>by cases h;exact a4a
 |.tup _,b,h=>by cases h;exact a3y
 |.lst _,b,h=>by cases h;exact a4e
 |.fn _,b,h=>by cases h
 |.dk _,b,h=>by cases h⟩
def xW:W.kitOne [] j7_ bV!=some ("tuple"=="NoneType"):=by decide+kernel
def zO:W.kitOne [] bU! bV!=some ("tuple"=="bool"||"tuple"=="int"):=by decide+kernel
def xY:W.kitOne [] bT_ bV!=some ("tuple"=="int"):=by decide+kernel
def xV:W.kitOne [] bU_ bV!=some ("tuple"=="str"):=by decide+kernel
def xU:W.kitOne [] bV! bV!=some ("tuple"=="tuple"):=by decide+kernel
def xX:W.kitOne [] d6! bV!=some ("tuple"=="list"):=by decide+kernel
def oA{K:yQ!}:Xu K "tuple":=⟨λd b h=>match d,b,h with
 |.non,b,h=>by cases h;exact xW
 |.bl _,b,h=>by cases h;exact zO
 |.int _,b,h=>by cases h;exact xY
 |.str _,b,h=>by cases h;exact xV
 |.tup _,b,h=>by cases h;exact xU
 |.lst _,b,h=>by cases h;exact xX
 |.fn _,b,h=>by cases h
 |.dk _,b,h=>by cases h⟩
def Em(T:String)(f:e!):Ae->Option D:=λρ=>(an!).bind λd=>(Ft T d).map D.bl
def lI{T:String}{x:Str}(ht:Xu X.K T)(hg:Gl X "isinstance")(hm:X.mg "isinstance"=none)(ZC:Y!)(zc:c3_)(hv:bootBuiltins "isinstance"=some oJ_)(ZD:no!)(ha:Z_)
  (ip:c4!:=by decide)(jk:F_:=by decide)
  (he:starEach [a,cI!] X.env=dS_::starEach [cI!] X.env:=by rfl)(wv:starEach [cI!] X.env=(false,eval dp_ X.env)::starEach [] X.env:=by rfl)
  (a7:(backTo pos (starEach [cI!] X.env)).any c_=false:=by rfl):DE X own (.Call (.Name "isinstance" p) [a,cI!] [] pos) (Em T fa):=
 eX (wY (r:=CA X.K T) c3h hg hm hv (dZ ha.ok (dZ (c4z (v:=V.ty T) ZC zc ZD rfl ip jk) gP wv) he) b_ b_ he a7) λZ G H Q ρ d er e k=>by
  show"!<";obtain⟨b,e2,rfl⟩:=HU.mp e;exact⟨G,ρ,x,er,e1,λv G1 H1 s1 r1=>⟨v,x,b,rfl,r1.mono s1.sub,ht.ok x b e2,w4!,w4!,wG_⟩⟩
def fL{K:yQ!}{H:Hp}(h:Am K H [d] vs):∃v,vs=[v]/\Ax K H d v:=by obtain⟨v,r,rfl,Y,L⟩:=bR h;cases cS L;exact⟨v,rfl,Y⟩
def Bp:List D->Option D
 |[.tup xs]=>some (.int l_)
 |[.lst xs]=>some (.int l_)
 |[.str x]=>if e1_<=big then some (.int e1_)else none
 |_=>none
def eJ{K:yQ!}:Uu K w5! Bp:=by
 show"!e";unfold Bp at e;show"!6"
 .show"!D";obtain⟨a,ws,rfl,q,rr⟩:=bS rv;cases e;exact⟨_,_,rfl,.inr ⟨ws,cD sub q,aL rr⟩,el_⟩
 .show"!D";obtain⟨a,ws,rfl,q,rr⟩:=bT rv;cases e;exact⟨_,_,rfl,.inl ⟨ws,oI_,aL rr⟩,el_⟩
 .show"!D";cases cI rv;show"!6"
  .show"!F";exact⟨_,_,rfl,⟨cY hl,rfl⟩,el_⟩
  .cases e
 .cases e
def Gd:List D->Option D
 |[.int i]=>some (.int iV!)
 |_=>none
def d0z{K:yQ!}:Uu K s3_ Gd:=by
 show"!e";unfold Gd at e;show"!6"
 .show"!D";cases bG rv;cases e;exact⟨_,rfl,el_⟩
 .cases e
def Yu:List D->Option D
 |[.str x]=>if e1_=1 then some s7! else none
 |_=>none
def d0y{K:yQ!}:Uu K s6_ Yu:=by
 show"!e";unfold Yu at e;show"!6"
 .show"!D";cases cI rv;show"!6"
  .show"!F";exact⟨_,rfl,hl,el_⟩
  .cases e
 .cases e
def wF:∀{bs:j8!} {us:i_},Bc (bs.map V.bl) us->us=bs.map Value.bool
 |[],_,.nil=>rfl
 |b::bs,_,.cons r t=>by cases r;rw[wF t];rfl
def CD(K:yQ!):List V->Hp->VK->Prop:=λxs H Q=>∃(p:xT!) (bs:j8!),xs=gR!/\Fx K H p (bs.map V.bl)/\Q (.bl oP!) H
def b7r:∀(bs:j8!),((List.range bs.length).all λi=>(bs[i]?).getD true)=bs.all id:=λbs=>by
 rw[LS,LG,LG];show"!L"
 .intro h x J;obtain⟨i,hi,rfl⟩:=OM.mp J;have:=h i (NT.mpr hi);simpa[hi]using this
 .intro h i hi;have df:=NT.mp hi;simpa[df]using h bs[i] (KR df)
def yU(hc:a4!):Kg X w6_ (CD X.K):=by
 intro h1 s Z H xs us Q I r h;obtain⟨p,bs,rfl,hq,q⟩:=h;obtain⟨u,rfl,r1⟩:=uE r;cases r1;obtain⟨its,rv,pl,hz⟩:=I.list hq;have e:=wF rv;subst e;have hl:=pl.isList;have am:p<o_:=by obtain⟨_,e,_⟩:=hl;exact IQ e
 refine call_all_walk (wpAny_pyIter_list hl ?_);refine⟨o_,[o_,p],[o_],(j8_).toArray.size,_,_,λi=>(bs[i]?).getD true,rfl,Walks.list (A:=X.A.in1) bK_ _ p (JG am) (j8_).toArray,
  ⟨eV_,hl.push _⟩,λi v s' Q' E' hP hQ=>?_,λh' tk hk=>?_⟩
 .have VC:j8_[i]?=some v:=by simpa using hP
  rw[JC]at VC;obtain⟨b,hb,rfl⟩:=HU.mp VC;simp only[hb,Option.getD_some]at hQ;exact JM hQ
 .have e:((List.range (j8_).toArray.size).all λi=>(bs[i]?).getD true)=bs.all id:=by
   rw[HS,IK];exact b7r bs
  rw[e];exact⟨.bl _,H,I.kept (t':=tk) λb x ex=>hk b x (λhm=>by rw[HX.mp hm]at ex;exact NG _ (IQ ex)) (HM _ ex),rfl,q⟩
def Nn:List D->Option (List Bool)
 |[]=>some []
 |.bl b::r=>(Nn r).map (b::·)
 |_=>none
def Rq:List D->Option D
 |[.lst xs]=>(Nn xs).map λbs=>.bl oP!
 |_=>none
def a0d{K:yQ!}{H:Hp}:∀{ds:c!} {vs:n!} {bs:j8!},Am K H ds vs->Nn ds=some bs->vs=bs.map V.bl
 |[],vs,bs,r,e=>by cases cS r;cases e;rfl
 |d::ds,vs,bs,r,e=>by
  obtain⟨v,t,rfl,r1,r2⟩:=bR r;cases d<;>first|cases e|skip
  obtain⟨bs',e1,rfl⟩:=HU.mp e;cases dA r1;rw[a0d r2 e1];rfl
def b2h{K:yQ!}:Uu K (CD K) Rq:=by
 show"!e";unfold Rq at e;show"!6"
 .show"!D";obtain⟨a,ws,rfl,q,rr⟩:=bT rv;obtain⟨bs,e1,rfl⟩:=HU.mp e;have:=a0d rr e1;subst this;exact⟨a,bs,rfl,oI_,ep!⟩
 .cases e
end
def Ze(K:yQ!)(af:It)(ds:c!)(G1:Hp):Prop:=∀(i:Nat) (G' H':Hp),Bk G1 G'->Bk G' H'->
 w7!/\w7_
inductive FU(K:yQ!)(own:k_)(fi:as!)(Z:St)(H:Hp)(R:gn!):Prop
 |mk (G:Hp) (ρ:Ae) (ds:c!) (o:cf!) (e:fi ρ=some ds) (k:∀af G1 H1,Co G H G1 H1->Ze K af ds G1->R af H1):FU K own fi Z H R
structure DI(X:Cx)(own:k_)(tg iter:Expr)(fi:as!):Prop where
 ok:PI X tg iter (FU X.K own fi)
section
variable{X:Cx}{own:List Nat}{e a b c tg:Expr}{es:List Expr}{pos p2:Pos}{f fa fb fc:Ae->Option D}{fs fi:Ae->Option (List D)}{ft fu:Ae->Option Bool}
def a9a{wi:TI}(h:PI X tg e wi)(hw:∀Z G H R ρ ds,OR X.K own G H Z ρ->fi ρ=some ds->(∀af G1 H1,Co G H G1 H1->Ze X.K af ds G1->R af H1)->wi Z H R):DI X own tg e fi:=⟨λh1 s Z H R I ⟨G,ρ,ds,er,e,k⟩=>h h1 s Z H R I (hw Z G H R ρ ds er e k)⟩
def Ep(f:e!):Ae->Option aR!:=λρ=>(an!).bind λd=>match d with|.lst xs=>some xs|_=>none
def EZ(f:e!):Ae->Option aR!:=λρ=>(an!).bind λd=>match d with|.tup xs=>some xs|_=>none
def a8j{K:yQ!}{G1:Hp}{ad:xT!}(q:Fx K G1 ad vs)(r:Am K G1 ds vs):Ze K (FL K ad) ds G1:=by intro i G' H' s1 s2;have q':Fx K H' ad vs:=s2.seq (s1.seq q);refine⟨ep_,λhi=>⟨vs,q',by rw[<-aL r,hi];exact IM _⟩⟩;obtain⟨v,Y,L⟩:=iS r hd;refine⟨⟨vs,v,q',Y⟩,hk_⟩;obtain⟨e1,e2⟩:=hy;subst e1;have:=e2 vs q';rw[Y]at this;cases this;exact⟨G',j9!,L.mono s1⟩
def fR(h:Z_):DI X own tg a (Ep fa):=a9a (b3u h.ok) λZ G H R ρ ds er e k=>by
 obtain⟨d,e1,e2⟩:=HJ.mp e;cases d<;>first|cases e2|skip
 refine fs!;obtain⟨p,vs,rfl,q,rr⟩:=bT r1;exact⟨p,rfl,⟨vs,s1.sub.seq q⟩,k _ G1 H1 s1 (a8j q rr)⟩
def Ds(n:Nat):List D:=(oR!).map λi=>.int (i:Nat)
def Eu(f:e!):Ae->Option aR!:=λρ=>(an!).bind λd=>match d with|.int j=>if -1000<=j/\j<=100000 then some (Ds j.toNat)else none|_=>none
def b7d{K:yQ!}{G1:Hp}{n:Nat}:Ze K (CV 0 n) (Ds n) G1:=by intro i G' H' s1 s2;unfold Ds;refine w8!;rw[JC]at hd;obtain⟨j,hj,rfl⟩:=HU.mp hd;obtain⟨hl,he⟩:=IL.mp hj;rw[RA]at he;subst he;rw[MD]at hl;refine⟨hl,hk_⟩;obtain⟨e1,e2⟩:=hy;subst e1 e2;refine⟨G',j9!,?_⟩;rw[Int.zero_add];exact Ax.int
def fM{pos:Pos}(hg:iJ_)(hm:iJ!)(h:Z_)(hs:st_:=by rfl)(hs1:j9_:=by rfl):
  DI X own tg su_ (Eu fa):=a9a (b6k hg hm (dZ h.ok gP hs1) hs) λZ G H R ρ ds er e k=>by
 obtain⟨d,e1,e2⟩:=HJ.mp e;cases d<;>first|cases e2|skip
 rename_i j;have e3:(if -1000<=j/\j<=100000 then some (Ds j.toNat)else none)=some ds:=e2;split at e3
 .rename_i hj;cases e3;refine fs!;cases bG r1;exact⟨j,rfl,v!,v!,k _ G1 H1 s1 b7d⟩
 .cases e3
def Gc(bnd:ai!)(ft:ah!)(fe:e!)(ρ:Ae):List D->Option aR!
 |[]=>some []
 |d::ds=>(ka_).bind λai=>(ft ai).bind λb=>if b then(fe ai).bind λy=>(Gc bnd ft fe ρ ds).map (y::·)else Gc bnd ft fe ρ ds
def GD(K:yQ!)(g:TG)(bnd:ai!):Prop:=∀{x:V} {d:D} {Z:St} {G H:Hp} {ρ ai:Ae} {Q:iA_},OR K [] G H Z ρ->Ax K G d x->bnd d ρ=some ai->(∀dw,OR K [] G H dw ai->Le ρ ai->Q dw H)->g x Z H Q
def Bd(i:Nat):D->Ae->Option Ae:=λd ρ=>match ρ[i]? with|some none=>some cf_|_=>none
def cK{K:yQ!}(i:Nat):GD K eT! (Bd i):=by
 intro x d Z G H ρ ai Q er r e k;unfold Bd at e;show"!6"
 .rename_i h;cases e;exact k _ (er.set d! r) ((Le.refl ρ).set h)
 .cases e
def Rp(i j:Nat):D->Ae->Option Ae:=λd ρ=>match d with
 |.tup [x,y]=>(Bd i x ρ).bind λai=>Bd j y ai
 |_=>none
def Le.trans{ρ ai bi:Ae}(a:Le ρ ai)(b:Le ai bi):Le ρ bi:=⟨a.1.trans b.1,λi d h=>b.2 i d (a.2 i d h)⟩
def c6c{K:yQ!}(i j:Nat):GD K w9_ (Rp i j):=by
 intro x d Z G H ρ ai Q er r e k;unfold Rp at e;show"!6"
 .obtain⟨bi,e1,e2⟩:=HJ.mp e;show"!X";show"!4";refine⟨p,[v1,v2],rfl,cD er.sub q,rfl,v1,[v2],rfl,?_⟩;refine cK i er r1 e1 λdw ng l1=>⟨v2,[],rfl,?_⟩;exact cK j ng r2 e2 λdb cj l2=>⟨rfl,k db cj (l1.trans l2)⟩
 .cases e
def Hw(nl:Nat)(ix:k_)(fi:as!)(bnd:ai!)(ft:ah!)(fe:e!):Ae->Option D:=λρ=>(fi ρ).bind λds=>if h!<=big then(Gc bnd ft fe g9_ ds).map D.lst else none
def d0x{K:yQ!}{af:It}{ds:c!}{G1 H1:Hp}{g:TG}{bnd:ai!}{ft:ah!}{fe:e!}{j8:Ae}{tj:St}{Fin:c0_}
  (hb:h!<=big)(f7:Ze K af ds G1)(hg:GD K g bnd)(er:OR K [] G1 H1 tj j8)(e:Gc bnd ft fe j8 ds=some jm)(k:∀ys G' H',Co G1 H1 G' H'->Am K G' jm ys->Fin ys H'):
  Wf af g (Zx K [] ft) (tD K [] fe) Fin tj H1:=by
 refine⟨λi m ys σ H'=>i<=h!/\m=h! - i/\∃G' ws r,Co G1 H1 G' H'/\OR K [] G' H' σ j8/\Am K G' ws ys/\np_<=i/\Gc bnd ft fe j8 (ds.drop i)=some r/\ws++r=jm,
  ⟨h!,JS _,rfl,G1,[],jm,Co.refl er.sub,er,Am.nil,JS _,e,rfl⟩,?_⟩
 rintro i m ys σ H' ⟨hi,rfl,G',ws,r,x,cn,ak,hw,cj,et⟩;refine xa_;obtain⟨nh,nj⟩:=f7 i G' H' x.g cn.sub;by_cases am:i<h!
 .right;have hd:ds[i]?=some ds[i]:=by simp[am]
  have zd:ds.drop i=ds[i]::ds.drop a5!:=MC am;rw[zd]at cj;unfold Gc at cj;obtain⟨ai,e1,cj⟩:=HJ.mp cj;obtain⟨b,e2,cj⟩:=HJ.mp cj;obtain⟨go,yl⟩:=nh _ hd;refine⟨go,kb!⟩;obtain⟨G2,x2,r2⟩:=yl v H2 hy;refine hg (cn.grow x2) r2 e1 λdw ng tz=>⟨G2,ai,b,ng,e2,λG3 H3 x3=>?_⟩;have j9:=ng.grow x3;have ll:Co G1 H1 G3 H3:=x.trans (x2.trans x3);cases b with
  |true=>
   obtain⟨y,e3,cj⟩:=HJ.mp cj;obtain⟨zs,e4,rfl⟩:=HU.mp cj;refine nA ⟨G3,ai,y,j9,e3,λu G4 H4 x4 r4=>⟨_,?_,am,rfl,G4,ws++[y],zs,ll.trans x4,(j9.grow x4).le tz,?_,?_,e4,?_⟩⟩
   .omega
   .exact dG xb! (Am.cons r4 Am.nil)
   .rw[IG,KZ];omega
   .rw[KA];exact et
  |false=>
   refine nB ⟨_,?_,am,rfl,G3,ws,r,ll,j9.le tz,(oT!).mono x3.g,v!,cj,et⟩;omega
 .left;have iy:i=h!:=by omega
  refine⟨nj iy,k ys G' H' x ?_⟩;rw[iy,QF]at cj;cases cj;rw[IR]at et;subst et;exact ak
def oE{scope:Scope}{NL:q!}{ix:k_}{g:TG}{bnd:ai!}{fe:e!}
  (cm:di_)(cg:dj!)(j7:∀y∈ca_,y.2=.local->scope.names.lookup y.1=some .local)
  (ik:g3!)(cap:di!)(nv:jR!)(calm:a4!)(be:DI X own tg iter fi)
  (hg:g3_)(ny:oT_)(hi:∀cl C ao a9 fp,Qd cb_ de xb_)(he:∀cl C ao a9 fp,DE cb_ [] ez fe)
  (hs:c7!:=by intro _;rfl):
  DE X own g2! (Hw NL.length ix fi bnd ft fe):=
 eX xc_ λZ G H Q ρ d er e k=>by
  show"!G"
  .rename_i hb;obtain⟨jm,e2,rfl⟩:=HU.mp e;refine⟨G,ρ,ds,er,e1,xd!⟩;refine d0x hb f7 ny ((er.grow x1).cap NL.length ix nv) e2 λys G' H' x r p hp=>?_;exact k _ _ _ (x1.trans (x.trans hm!)) (dQ oU! r)
  .cases e
def a7c:Qd X [] (Zx X.K [] λ_=>some true):=λh1 s Z H Q I ⟨G,ρ,b,er,e,k⟩=>by
 cases e;exact a7b h1 s Z H Q I (k G H ha!)
def d2k(h:DT X [] c ft):Qd X [c] xb_:=a7a h.ok
end
inductive Fl where
 |nx (ρ:Ae)|rt (d:D)
structure SR(K:yQ!)(own:k_)(G0 F0 G H:Hp)(Z:St)(ρ:Ae):Prop where
 or:OR K own G H Z ρ
 ext:Co G0 F0 G H
 fr:∀i∈own,∀p,Z[i]?=some ce_->F0 p=none
inductive DF(K:yQ!)(G0 F0:Hp)(own hx:k_)(f:aT_)(E:Vm)(Z:St)(H:Hp):Prop
 |mk (G:Hp) (ρ:Ae) (r:Fl) (o:ft!) (e:f ρ=some r) (k:match(generalizing:=false) r with
  |.nx ρ'=>∀G' σ H',SR K hx G0 F0 G' H' σ ρ'->E.nx σ H'
  |.rt d=>∀v G' H',Co G0 F0 G' H'->Ax K G' d v->E.rt v H'):DF K G0 F0 own hx f E Z H
structure DS(X:Cx)(own hx:k_)(st:Stmt)(f:aT_):Prop where
 ok:∀G0 F0,PS X st xd_
structure Xw(X:Cx)(own hx:k_)(st:b2!)(f:aT_):Prop where
 ok:∀G0 F0,Uo X st xd_
section
variable{X:Cx}{own bj jn:List Nat}{st:Stmt}{rest body:List Stmt}{e a b c tg:Expr}{es:List Expr}{pos p2:Pos}{f fa fb fc:Ae->Option D}{fs fi:Ae->Option (List D)}{ft fu:Ae->Option Bool}{q1 q2 q3:Ae->Option Fl}
def c7y{t:TS}(h:iz_)(hw:∀G0 F0 E Z G H ρ r,SR X.K own G0 F0 G H Z ρ->q1 ρ=some r->(match r with
  |.nx ρ'=>∀G' σ H',SR X.K bj G0 F0 G' H' σ ρ'->E.nx σ H'
  |.rt d=>∀v G' H',Co G0 F0 G' H'->Ax X.K G' d v->E.rt v H')->t E Z H):DS X own bj st q1:=⟨λG0 F0 h1 s Z H E I ⟨G,ρ,r,er,e,k⟩=>h h1 s Z H E I (hw G0 F0 E Z G H ρ r er e k)⟩
def SR.grow{K:yQ!}{G0 F0 G H G' H':Hp}{Z:St}{ρ:Ae}(s:ft!)(x:jQ!):SR K own G0 F0 G' H' Z ρ:=⟨s.or.grow x,s.ext.trans x,s.fr⟩
def SR.set{K:yQ!}{G0 F0 G H:Hp}{Z:St}{ρ:Ae}{i:Nat}(s:ft!)(hi:bp!)(r:cF_):SR K own G0 F0 G H eM! cf_:=
 ⟨s.or.set hi r,s.ext,λj hj p e=>by
  have ne:i≠j:=λz=>hi (z▸hj);rw[JE ne]at e;exact s.fr j hj p e⟩
def Cs:Ae->Option Fl:=λρ=>some aK!
nonrec def sSeq(q1 q2:aT_):Ae->Option Fl:=λρ=>(q1 ρ).bind λr=>match r with|.nx ρ'=>q2 ρ'|.rt d=>some a0!
def eC:Xw X own own [] Cs:=⟨λG0 F0 h1 s Z H E I ⟨G,ρ,r,er,e,k⟩=>by
 cases e;exact b3q h1 s Z H E I (k G Z H er)⟩
def bC(Y:xe_)(L:Xw X bj jn rest q2):Xw X own jn mr! (sSeq q1 q2):=⟨λG0 F0 h1 s Z H E I ⟨G,ρ,r,er,e,k⟩=>by
 refine a6z oV! (L.ok G0 F0) h1 s Z H E I ?_;obtain⟨r1,e1,e2⟩:=HJ.mp e;refine⟨G,ρ,r1,er,e1,?_⟩;cases r1 with
 |nx ρ'=>exact λG' σ H' cn=>⟨G',ρ',r,cn,e2,k⟩
 |rt d=>
  cases e2;exact k⟩
def bE(Y:xe_):Xw X own bj [st] q1:=⟨λG0 F0=>b3p oV!⟩
def SR.free{K:yQ!}{G0 F0 G H:Hp}{Z:St}{ρ:Ae}(s:ft!):SR K [] G0 F0 fn_ H Z ρ:=by
 have o:=s.or.full;refine⟨o,⟨jP_,s.ext.h,o.sub,bo_⟩,ar_⟩
 .have z:=s.ext.g b u e;unfold Lc;split
  .exact s.or.sub b u z
  .exact z
 .unfold Lc at h;split at h
  .rename_i hb;obtain⟨i,hi,q⟩:=nZ hb;exact .inr (s.fr i hi b q)
  .exact s.ext.new b h
def a8z(h:Xw X [] jn rest q1):Xw X own jn rest q1:=⟨λG0 F0 h1 s Z H E I ⟨G,ρ,r,er,e,k⟩=>h.ok G0 F0 h1 s Z H E I ⟨_,ρ,r,er.free,e,k⟩⟩
def Bl(f:e!):Ae->Option Fl:=λρ=>(an!).map Fl.rt
def bW(h:do_):DS X own bj mr_ (Bl f):=c7y (b9j h.ok) λG0 F0 E Z G H ρ r er e' k=>by
 obtain⟨d,e1,rfl⟩:=HU.mp e';exact⟨G,ρ,d,er.or,e1,λv G' H' x r=>k v G' H' (er.ext.trans x) r⟩
def Cp(i:Nat)(f:e!):Ae->Option Fl:=λρ=>(an!).map λd=>.nx cf_
def fW{i:Nat}(hN:bv!)(hi:ak!)(J:bv_)(h:do_)(bu:bp!:=by decide)(hs:xf_:=by rfl)
  (hf:X.fn x=true\/X.env.scope.names.lookup x=some .local:=by first|exact .inl rfl|exact .inr rfl|assumption):DS X own own xg! (Cp i f):=
 c7y xg_ λG0 F0 E Z G H ρ r er e' k=>by
  obtain⟨d,e1,rfl⟩:=HU.mp e';exact⟨G,ρ,d,er.or,e1,λv G' H' x r=>k G' _ H' ((hn_).set bu r)⟩
def Gi(ft:ah!)(q1 q2:aT_):Ae->Option Fl:=λρ=>(hd_).bind λb=>if b then q1 ρ else q2 ρ
def hW{b1 b2:b2!}(hc:DT X own c ft)(Y:Xw X own bj b1 q1)(L:Xw X own bj b2 q2):DS X own bj xh! (Gi ft q1 q2):=⟨λG0 F0 h1 s Z H E I ⟨G,ρ,r,er,e',k⟩=>by
 refine c7j hc.ok oV! (L.ok G0 F0) h1 s Z H E I ?_;obtain⟨x,e1,e2⟩:=HJ.mp e';refine⟨G,ρ,x,er.or,e1,λG' H' x'=>?_⟩;cases x with
 |true=>exact nA xi!
 |false=>exact nB xi!⟩
def Mt(i:Nat)(fs:as!):Ae->Option Fl:=λρ=>(fq_).bind λds=>if h!<=1000 then some (.nx oW!)else none
def SR.ownNew{K:yQ!}{G0 F0 G H:Hp}{Z:St}{ρ:Ae}{i:Nat}(s:ft!)(hi:bp!)(hl:i<f7_)(r:kc_)(hp:cE_):
  SR K (i::own) G0 F0 G jP! (Z.set i ce_) oW!:=by
 have ze:i<g8_:=by rw[s.or.len];exact hl
 have zf:Bk H jP!:=iR hp;show"#-";refine⟨⟨xj!,by rw[LO,LO,s.or.len],xj_,kd!,λj hj k hk ce a b e1 e2=>?_⟩,⟨s.ext.g,s.ext.h.trans zf,xj!,s.ext.new⟩,λj hj a e=>?_⟩
 .have cv:i≠j:=λz=>n (by rw[z];exact HP);rw[JE cv]at q ⊢;exact s.or.at_ j d q λz=>n (HL _ z)
 .obtain z|z:=HN.mp hj
  .subst z;exact⟨p,ds,vs,by rw[KB ze],by rw[KB hl],cC,s.or.sub.free hp,r⟩
  .have cv:i≠j:=λy=>hi (y▸z);obtain⟨a,qe,gf,Y,L,h3,h4,h5⟩:=s.or.own_ j z;exact⟨a,qe,gf,by rw[JE cv];exact Y,by rw[JE cv];exact L,by rw[bD (ne h3)];exact h3,h4,h5⟩
 .have look:∀{j:Nat} {a:xT!},j∈i::own->(Z.set i ce_)[j]?=some (some fl!)->(j=i/\a=p)\/(j≠i/\j∈own/\Z[j]?=some (some fl!)/\a≠p):=λ{j a} hj e=>by
   by_cases cv:i=j
   .subst cv;rw[KB hl]at e;cases e;exact .inl bi_
   .rw[JE cv]at e;have hm:j∈own:=(HN.mp hj).elim xk! id;obtain⟨a',qe,gf,Y,L,h3,h4,h5⟩:=s.or.own_ j hm;rw[e]at L;cases L;exact .inr ⟨HR cv,hm,e,ne h3⟩
  obtain⟨z1,z2⟩|⟨z1,z2,z3,z4⟩:=look hj e1
  .obtain⟨y1,y2⟩|⟨y1,y2,y3,y4⟩:=look hk e2
   .exact absurd (z1.trans y1.symm) ce
   .rw[z2];exact HR y4
  .obtain⟨y1,y2⟩|⟨y1,y2,y3,y4⟩:=look hk e2
   .rw[y2];exact z4
   .exact s.or.dis j z2 k y2 ce a b z3 y3
 .by_cases cv:i=j
  .subst cv;rw[KB hl]at e;cases e;exact s.ext.h.free hp
  .rw[JE cv]at e;exact s.fr j ((HN.mp hj).elim xk! id) a e
def pP{i:Nat}{p3 p4:Pos}(hN:bv!)(hi:ak!)(J:bv_)(h:jY_)(bu:bp!:=by decide)
  (hf:X.fn x=true\/X.env.scope.names.lookup x=some .local:=by first|exact .inl rfl|exact .inr rfl|assumption)(b6:swapsWith (.List es p2) (some (.Name x p3)) p4.line X.env=pure false:=by rfl):DS X own (i::own) (.Assign [.Name x p3] (.List es p2) p4) (Mt i fs):=⟨λG0 F0 h1 s Z H E I ⟨G,ρ,r,er,e',k⟩=>by
  refine b0y hN hi J jZ_ b6 hf h1 s Z H E I ?_;have hl:i<f7_:=by rw[I.len];exact(IL.mp hi).1
  obtain⟨ds,e1,e2⟩:=HJ.mp e';split at e2
  .rename_i hsz;cases e2;exact⟨G,ρ,ds,er.or,e1,λvs G' H' x r=>⟨by rw[<-aL r];exact gJ hsz,λp hp=>k G' _ _ ((hn_).ownNew bu hl r hp)⟩⟩
  .cases e2⟩
def SR.upd{K:yQ!}{G0 F0 G H:Hp}{Z:St}{ρ:Ae}{i:Nat}(s:ft!)(hi:eg!)(hp:wn!)(r:kc_):
  SR K own G0 F0 G jP! Z oW!:=by
 obtain⟨p',qe,gf,Y,L,h3,h4,h5⟩:=s.or.own_ i hi;rw[hp]at L;cases L;have hG:∀{b u},G b=some u->b≠p:=λe=>cN e h4;have hF:∀{b u},F0 b=some u->b≠p:=λe=>cN e (s.fr i hi p hp);have ze:i<g8_:=(kd_).1;refine⟨⟨xk_,by rw[LO,s.or.len],xj_,kd!,s.or.dis⟩,⟨s.ext.g,λb u e=>by rw[bD (hF e)];exact s.ext.h b u e,xk_,s.ext.new⟩,s.fr⟩
 .have cv:i≠j:=λz=>n (z▸hi);rw[JE cv]at q;exact s.or.at_ j d q n
 .by_cases cv:i=j
  .subst cv;exact⟨p,ds,vs,by rw[KB ze],hp,cC,h4,r⟩
  .obtain⟨a,ZE,ZF,g1,g2,g3,g4,g5⟩:=s.or.own_ j hj;have ne:a≠p:=HR (s.or.dis i hi j hj cv p a hp g2);exact⟨a,ZE,ZF,by rw[JE cv];exact g1,g2,by rw[bD ne];exact g3,g4,g5⟩
def Px(i:Nat)(f:e!):Ae->Option Fl:=λρ=>(an!).bind λd=>match ρ[i]? with|some (some (.lst ds))=>if h!<big then some xl_ else none|_=>none
def tZ{i:Nat}{x:Str}{aj ah:Pos}(bu:eg!:=by decide)(h:do_)(hN:ak!:=by rfl)(hv:cs_:=by first|exact Or.inl rfl|exact Or.inr b!|exact Or.inr aG_)
  (hd:F_:=by decide)(bz:ct!:=by decide)
  (b8:ho!:=by rfl)(gw:((jt_).all cA!&&(cA_).all cB!
   &&decide xm!)=true:=by rfl) (g7:d7!:=by rfl)
  (gu:attributeBase br! "append" X.env ke!=eval br! X.env:=by rfl) (g8:ho_:=by rfl) (ke:swapsWith xn! none pos.line X.env=pure false:=by rfl):
  DS X own own (.Expr xn! pos) (Px i f):=⟨λG0 F0 h1 s Z H E I ⟨G,ρ,r,er,e',k⟩=>by
  refine vQ (a0h NY PySem.F.slot_list_append PySem.F.type_list_append a0r jS_ xn_ gu gw g7 b8 g8) ke h1 s Z H E I ?_;obtain⟨d,e1,e2⟩:=HJ.mp e';obtain⟨p,ds,vs,Y,L,h3,h4,h5⟩:=er.or.own_ i bu;rw[Y]at e2;simp only at e2;split at e2
  .rename_i hl;cases e2;refine⟨fu_,L,oY_,G,ρ,d,er.or,e1,λv G' H' x r=>⟨p,vs,v,rfl,rfl,x.h _ _ h3,?_,?_⟩⟩
   .rw[<-aL h5];exact IT hl (cY y!)
   .exact k G' Z _ ((hn_).upd bu L (dG oZ! (Am.cons r Am.nil)))
  .cases e2⟩
def Uz(i:Nat)(fx fv:e!):Ae->Option Fl:=λρ=>(fv ρ).bind λd=>(fx ρ).bind λx=>match x,ρ[i]? with|.int j,some (some (.lst ds))=>(oZ_).map λk=>.nx xo_|_,_=>none
def c2o{i:Nat}{x:Str}{fx fv:e!}(bu:eg!:=by decide)(J:xp!)(hv:DE X own e fv)(hN:ak!:=by rfl)(zg:cs_:=by first|exact Or.inl rfl|exact Or.inr b!|exact Or.inr aG_)
  (hd:F_:=by decide)(bz:ct!:=by decide)
  (ha:∀v,assign xp_ X.env v=(do
   let ov <-holding [v] ke!
   let iv <-holding [v,ov] (eval ix X.env)
   standAt p2
   holding eT_ mv!
   release eT_ []):=by intro _;rfl)
  (hs:swapsWithSole kf! e pos.line X.env=pure false:=by rfl) (hw:swappedStores kf! e X.env=pure none:=by rfl)
  (Y:(assignEach kf! X.env).map A_=[assign xp_ X.env]:=by rfl):
  DS X own own (.Assign kf! e pos) (Uz i fx fv):=⟨λG0 F0 h1 s Z H E I ⟨G,ρ,r,er,e',k⟩=>by
  refine b9l hv.ok (b9r xq_ J.ok a6g ha) hs hw Y h1 s Z H E I ?_;obtain⟨d,e1,e2⟩:=HJ.mp e';obtain⟨z,e3,e4⟩:=HJ.mp e2;obtain⟨p,ds,vs,Y,L,h3,h4,h5⟩:=er.or.own_ i bu;rw[Y]at e4;cases z<;>first|cases e4|skip
  rename_i j;obtain⟨n,e5,rfl⟩:=HU.mp (show(oZ_).map _=some r from e4);refine⟨G,ρ,d,er.or,e1,λv G' H' x r=>⟨fu_,L,G',ρ,dS!,er.or.grow x,e3,xr!⟩⟩;cases bG r2;refine⟨p,vs,j,n,rfl,rfl,xr_,by rw[<-aL h5];exact e5,?_⟩;exact k G2 Z _ (((hn_).grow x2).upd bu L (wV (r.mono x2.g) n ((oZ!).mono x2.g)))⟩
def Me(i:Nat)(fx:e!):Ae->Option D:=λρ=>(fx ρ).bind λx=>match x,ρ[i]? with|.int j,some (some (.lst ds))=>Dc ds j|_,_=>none
def uA{i:Nat}{x:Str}{fx:e!}(bu:eg!:=by decide)(J:xp!)(hs:Qh ix)(hN:ak!:=by rfl)(zg:cs_:=by first|exact Or.inl rfl|exact Or.inr b!|exact Or.inr aG_)
  (hd:F_:=by decide)(bz:ct!:=by decide):DE X own (.Subscript br! ix pos) (Me i fx):=
 eX (c0b b4p xq_ J.ok hs) λZ G H Q ρ d er e k=>by
  obtain⟨z,e3,e4⟩:=HJ.mp e;obtain⟨p,ds,vs,Y,L,h3,h4,h5⟩:=er.own_ i bu;rw[Y]at e4;cases z<;>first|cases e4|skip
  rename_i j;have e5:Dc ds j=some d:=e4;obtain⟨v,e6,r6⟩:=qB h5 e5;refine⟨fu_,L,G,ρ,dS!,er,e3,xr!⟩;cases bG r2;exact⟨p,vs,j,v,rfl,rfl,Fx.of (x2.h _ _ h3),e6,k v G2 H2 x2 (r6.mono x2.g)⟩
def Rk(bnd:ai!)(q:aT_):List D->Ae->Option Fl
 |[],ρ=>some aK!
 |d::ds,ρ=>(ka_).bind λai=>(q ai).bind λr=>match r with|.nx bi=>Rk bnd q ds bi|.rt d=>some a0!
def Rv(fi:as!)(bnd:ai!)(q:aT_):Ae->Option Fl:=λρ=>(fi ρ).bind λds=>Rk bnd q ds ρ
def Ro(F0 G1:Hp):Hp:=λb=>match F0 b with|some o=>some o|none=>G1 b
def SR.base{K:yQ!}{G0 F0 G1 H1:Hp}{Z:St}{ρ:Ae}(s:SR K own G0 F0 G1 H1 Z ρ):SR K own G1 hp! G1 H1 Z ρ:=by
 refine⟨s.or,⟨Bk.refl _,jP_,s.or.sub,dr!⟩,xs!⟩
 .unfold Ro at e;show"!6"
  .rename_i o ho;cases e;exact s.ext.h b _ ho
  .exact s.or.sub b u e
 .obtain⟨p',ds,vs,Y,L,h3,h4,h5⟩:=s.or.own_ i hi;rw[e]at L;cases L;unfold Ro;rw[s.fr i hi p e];exact h4
def yK{G0 F0 G1 H1 G' H':Hp}(x:xs_)(y:Co G1 hp! G' H'):Co G0 F0 G' H':=by
 refine⟨x.g.trans y.g,λb u e=>y.h b u ?_,y.sub,bo_⟩
 .unfold Ro;rw[e]
 .obtain z|z:=y.new b h
  .exact x.new b z
  .right;unfold Ro at z;split at z
   .cases z
   .assumption
def SR.unbase{K:yQ!}{G0 F0 G1 H1 G' H':Hp}{Z:St}{ρ:Ae}(x:xs_)(s:SR K own G1 hp! G' H' Z ρ):SR K own G0 F0 G' H' Z ρ:=
 ⟨s.or,yK x s.ext,λi hi p e=>by
  have z:=s.fr i hi p e;unfold Ro at z;split at z
  .cases z
  .assumption⟩
def Cg(i:Nat):D->Ae->Option Ae:=λd ρ=>some cf_
def b2a{i:Nat}(hp:gm_)(hc:a4!)(be:DI X own dp_ iter fi)(hN:bv!)(hi:ak!)(J:bv_)(hb:Xw X own own body q1)(bu:bp!:=by decide)
  (hf:X.fn x=true\/X.env.scope.names.lookup x=some .local:=by first|exact .inl rfl|exact .inr rfl|assumption)(hs:c7!:=by intro _;rfl):
  DS X own own (.For dp_ iter body [] pos) (Rv fi (Cg i) q1):=⟨λG0 F0 h1 s Z H E I ⟨G,ρ,r,er,e',k⟩=>by
 obtain⟨ds,e1,e2⟩:=HJ.mp e';have dr:Uo X body (λE Z H=>∃A B,DF X.K A B own own q1 E Z H):=λh1 s Z H E I ⟨A,B,h⟩=>hb.ok A B h1 s Z H E I h;refine b9k hp hc be.ok (aZ hN hi J hf) dr hs h1 s Z H E I ⟨G,ρ,ds,er.or,e1,xd!⟩;have VD:Co G0 F0 G1 H1:=er.ext.trans x1;refine⟨λn m σ H'=>n<=h!/\m=h! - n/\∃G' ρ',SR X.K own G1 hp! G' H' σ ρ'/\Rk (Cg i) q1 oj! ρ'=some r,
  ⟨h!,JS _,rfl,G1,ρ,(er.grow x1).base,e2⟩,?_⟩
 rintro n m σ H' ⟨hn,rfl,G',ρ',cn,e3⟩;obtain⟨nh,nj⟩:=f7 n G' H' cn.ext.g cn.or.sub;by_cases am:n<h!
 .right;have hd:ds[n]?=some ds[n]:=by simp[am]
  have zd:ds.drop n=ds[n]::ds.drop cJ_:=MC am;rw[zd]at e3;unfold Rk at e3;obtain⟨ai,e4,e3⟩:=HJ.mp e3;obtain⟨r1,e5,e3⟩:=HJ.mp e3;cases e4;obtain⟨go,yl⟩:=nh _ hd;refine⟨go,λdb H2=>∃G2 bi,SR X.K own G1 hp! G2 H2 db bi/\Rk (Cg i) q1 (ds.drop cJ_) bi=some r,λdb H2 ⟨G2,bi,Y,L⟩=>⟨h! - cJ_,v!,am,rfl,G2,bi,Y,L⟩,kb!⟩;obtain⟨G2,x2,r2⟩:=yl v H2 hy;refine⟨G1,Ro F0 G1,G2,_,r1,(cn.grow x2).set bu r2,e5,?_⟩;cases r1 with
  |nx bi=>exact λG3 gq H3 j9=>⟨G3,bi,j9,e3⟩
  |rt d=>
   cases e3;exact λw G3 H3 x3 r3=>k w G3 H3 (yK VD x3) r3
 .left;have iy:n=h!:=by omega
  refine o0_;rw[iy,QF]at e3;cases e3;exact k G' σ H' (SR.unbase VD cn)⟩
def a6d{K:yQ!}{G H:Hp}{N:q!}{ds:c!}(s:K_)(r:kc_):OR K [] G H (L2.Na N vs) hp_:=by
 have hl:=aL r;unfold L2.Na;refine⟨s,by simp[hl],om_,ar_,ar_⟩;by_cases hi:i<h!
 .rw[JZ gJ!,JC]at q;obtain⟨d',Y,L⟩:=HU.mp q;cases L;obtain⟨v,h3,h4⟩:=iS r Y;exact⟨v,by rw[JZ (by simpa[<-hl]using hi),JC,h3];rfl,h4⟩
 .rw[e6_,OA]at q;split at q<;>cases q
end
def d0p{K:yQ!}{mg:z!}{st:Stmt}{N ps:q!}{k:Nat}{hx:k_}{q:aT_}{g:ah_}
  (F:xt_)(S:d9!)
  (hb:∀(ag:yB!) (A:yn!) (outer:aw_) (s:yP!) (H:Hp) (E:XK),Al k o1!->Xw (o1_).nox [] hx bQ! q)
  (hg:∀ds d,h!=V_->g ds=some d->q hp_=some a0!\/∃ρ,q hp_=some aK!/\d=.non):
  Fo P w K mg base Qf V! ae fd ps kf_:=by
 refine xu!;obtain⟨hl,G,ds,d,sub,r,e,kk⟩:=h;refine⟨_,(xu_).ok G H,?_⟩;have er:=a6d (N:=N) sub r;rcases hg ds d (by rw[aL r];exact hl) e with z|⟨ρ,z,rfl⟩
 .exact⟨G,_,_,xv!,z,λv G' H' x r=>kk v G' H' x r⟩
 .exact⟨G,_,_,xv!,z,λG' σ H' cn=>kk _ G' H' cn.ext Ax.non⟩
mutual
noncomputable def En:D->D->Bool
 |.non,.non=>true
 |.bl a,.bl b=>a==b
 |.bl a,.int b=>u0!==b
 |.int a,.bl b=>a==u0_
 |.int a,.int b=>a==b
 |.str a,.str b=>a==b
 |.tup xs,.tup ys=>Jf xs ys
 |.lst xs,.lst ys=>Jf xs ys
 |_,_=>false
noncomputable def Jf:List D->List D->Bool
 |[],[]=>true
 |x::xs,y::ys=>En x y&&Jf xs ys
 |_,_=>false
end
mutual
noncomputable def Bi:D->Bool
 |.fn _=>false
 |.dk _=>false
 |.tup xs=>Bx xs
 |.lst xs=>Bx xs
 |_=>true
noncomputable def Bx:List D->Bool
 |[]=>true
 |d::ds=>Bi d&&Bx ds
end
section
variable{X:Cx}{h1:List (Addr×Obj)}{Z:St}{H:Hp}{s:yP!}
def wI(I:d_)(h:kg_)(h':Fx X.K H a ws):False:=by obtain⟨_,_,⟨o,e,c,_⟩,_⟩:=I.tuple h;obtain⟨_,_,⟨o',n,e',c',_⟩,_⟩:=I.list h';rw[e]at e';cases e';rw[c]at c';exact absurd c' d!
mutual
theorem a2x(I:d_):∀(d d':D) (v:V),Bi d=true->Bi d'=true->Ax X.K H d v->Ax X.K H d' v->d=d'
 |.non,d',v,n,n',r,r'=>by
  cases eH r;cases d'<;>first
   |rfl
   |(unfold Ax at r';cases r';done)
   |(obtain⟨a,vs,e,_⟩:=bS r';cases e)
   |(obtain⟨a,vs,e,_⟩:=bT r';cases e)
   |(unfold Bi at n';cases n')
 |.bl b,d',v,n,n',r,r'=>by
  cases dA r;cases d'<;>first
   |(cases dA r';rfl;done)
   |(unfold Ax at r';cases r';done)
   |(obtain⟨a,vs,e,_⟩:=bS r';cases e)
   |(obtain⟨a,vs,e,_⟩:=bT r';cases e)
   |(unfold Bi at n';cases n')
 |.int b,d',v,n,n',r,r'=>by
  cases bG r;cases d'<;>first
   |(cases bG r';rfl;done)
   |(unfold Ax at r';cases r';done)
   |(obtain⟨a,vs,e,_⟩:=bS r';cases e)
   |(obtain⟨a,vs,e,_⟩:=bT r';cases e)
   |(unfold Bi at n';cases n')
 |.str b,d',v,n,n',r,r'=>by
  cases cI r;cases d'<;>first
   |(cases cI r';rfl;done)
   |(unfold Ax at r';cases r';done)
   |(obtain⟨a,vs,e,_⟩:=bS r';cases e)
   |(obtain⟨a,vs,e,_⟩:=bT r';cases e)
   |(unfold Bi at n';cases n')
 |.tup xs,d',v,n,n',r,r'=>by
  obtain⟨a,vs,rfl,q,rr⟩:=bS r;cases d' with
  |tup ys=>
   obtain⟨a',gf,e,q',b7⟩:=bS r';cases e;have:=I.tuple_inj q q';subst this;unfold Bi at n n';rw[xw_]
  |lst ys=>
   obtain⟨a',gf,e,q',b7⟩:=bT r';cases e;exact(wI I q q').elim
  |fn b=>unfold Bi at n';cases n'
  |dk b=>unfold Bi at n';cases n'
  |non=>cases eH r'
  |bl b=>cases dA r'
  |int b=>cases bG r'
  |str b=>cases cI r'
 |.lst xs,d',v,n,n',r,r'=>by
  obtain⟨a,vs,rfl,q,rr⟩:=bT r;cases d' with
  |lst ys=>
   obtain⟨a',gf,e,q',b7⟩:=bT r';cases e;have:=I.list_inj q q';subst this;unfold Bi at n n';rw[xw_]
  |tup ys=>
   obtain⟨a',gf,e,q',b7⟩:=bS r';cases e;exact(wI I q' q).elim
  |fn b=>unfold Bi at n';cases n'
  |dk b=>unfold Bi at n';cases n'
  |non=>cases eH r'
  |bl b=>cases dA r'
  |int b=>cases bG r'
  |str b=>cases cI r'
 |.fn a,d',v,n,n',r,r'=>by unfold Bi at n;cases n
 |.dk a,d',v,n,n',r,r'=>by unfold Bi at n;cases n
theorem wW(I:d_):∀(ds es:c!) (vs:n!),Bx ds=true->Bx es=true->Am X.K H ds vs->Am X.K H es vs->ds=es
 |[],es,vs,n,n',r,r'=>by
  cases cS r;cases es with
  |nil=>rfl
  |cons e es=>obtain⟨v,t,z,_⟩:=bR r';cases z
 |d::ds,es,vs,n,n',r,r'=>by
  obtain⟨v,t,rfl,r1,r2⟩:=bR r;cases es with
  |nil=>cases cS r'
  |cons e es=>
   obtain⟨v',t',z,t6,t9⟩:=bR r';cases z;unfold Bx at n n';rw[IZ]at n n';rw[a2x I d e v n.1 n'.1 r1 t6,wW I ds es t n.2 n'.2 r2 t9]
end
mutual
theorem yL:∀d:D,Bi d=true->En d d=true
 |.non,_=>by simp[En]
 |.bl b,_=>by simp[En]
 |.int i,_=>by simp[En]
 |.str s,_=>by simp[En]
 |.tup xs,h=>by unfold En;exact tV xs xx_
 |.lst xs,h=>by unfold En;exact tV xs xx_
 |.fn a,h=>by simp[Bi]at h
 |.dk k,h=>by simp[Bi]at h
theorem tV:∀ds:List D,Bx ds=true->Jf ds ds=true
 |[],_=>by simp[Jf]
 |d::ds,h=>by
  unfold Bx at h;rw[IZ]at h;unfold Jf;rw[yL d h.1,tV ds h.2];rfl
end
def a6q(I:d_)(d d':D)(v:V)(n:cL!)(n':fv!)(r:eq_)(r':Ax X.K H d' v):En d d'=true:=by rw[<-a2x I d d' v n n' r r'];exact yL d n
def oC(A:yn!):A.in1.units=A.units+1:=rfl
def nK:∀(xs ys:c!),l_=ac_->((List.range l_).all λj=>En (xs.getD j .non) (ys.getD j .non))=Jf xs ys
 |[],[],_=>rfl
 |x::xs,y::ys,h=>by
  have ih:=nK xs ys kh_;unfold Jf;rw[IE,List.range_succ_eq_map,NI,<-ih,List.all_map];rfl
 |[],_::_,h=>by simp at h
 |_::_,[],h=>by simp at h
def nG:∀(xs ys:c!),l_≠ac_->Jf xs ys=false
 |[],[],h=>absurd rfl h
 |x::xs,y::ys,h=>by
  unfold Jf;rw[nG xs ys kh_,QQ]
 |[],_::_,_=>rfl
 |_::_,[],_=>rfl
def rA{ds es:c!}{us us':i_}(rd:hq!)(re:hq_)(rv:eN!)(ak:Bc ws us')
  (h:∀(j:Nat) u u',us[j]?=some u->us'[j]?=some u'->SeqAt.EqAt A s u u' ki!):
  ∀j (Y:j<ki_) (L:j<o3!),SeqAt.EqAt A s cD![j] o3_[j] ki!:=λj Y L=>by
 have l1:j<av_:=by simpa using Y
 have l2:j<us'.length:=by simpa using L
 exact h j _ _ (by simp[l1]) (by simp[l2])
def a0e{ds es:c!}{A:yn!}(I:d_)(qa:kg_)(qb:Ge X.K H b ws)(rd:hq!)(re:hq_)(hu:as_)
  (h:kj!):SeqAt.RcAt A s af_ d3_ (Jf ds es):=by
 obtain⟨us,rv,p1,_⟩:=I.tuple qa;obtain⟨us',ak,p2,_⟩:=I.tuple qb;have Y:=aL rd;have L:=aL re;have h3:=gp!;have h4:=kj_;have z:=SeqAt.RcAt.tuples (A:=A) (e:=kk!) p1 p2 hu kk_;have e:xy!=Jf ds es:=by
  show"#/"
  .rw[hl,Nat.min_self,<-hl,kl!,hl];simp
  .rw[kl_];have:(h!==ai_)=false:=by simpa using hl
   rw[this,QQ]
 rw[e]at z;exact z
def a6w{ds es:c!}{A:yn!}(I:d_)(qa:o4!)(qb:Fx X.K H b ws)(rd:hq!)(re:hq_)(hu:as_)
  (h:kj!):SeqAt.RcAt A s af_ d3_ (Jf ds es):=by
 show"!A";have h4:=kj_;by_cases hl:h!=ai_
 .have z:=SeqAt.RcAt.lists (A:=A) (e:=kk!) p1.isList p2.isList oz! hu kk_;rw[HS,<-h3,<-Y,kl!]at z;exact z
 .rw[kl_];exact SeqAt.RcAt.lists_lengths p1.isList p2.isList xy_ hu
def c1x(I:d_)(q:kg_):∃items,s.heap.IsTuple a items:=let⟨its,_,p,_⟩:=I.tuple q;⟨_,p⟩
def b7e(I:d_)(q:o4!):∃items,s.heap.IsList a items:=let⟨its,_,p,_⟩:=I.list q;⟨_,p.isList⟩
inductive RV(X:Cx)(H:Hp)(s:yP!):D->Value->Prop
 |non:RV X H s .non .none
 |bl (b:Bool):RV X H s bK! mi!
 |int (i:Int) (t:Tok):RV X H s bw_ dE!
 |str (x:Str) (t:Tok):RV X H s dK_ lK!
 |tup {xs:c!} {a:xT!} {its:ae_}:s.heap.IsTuple a its->RV X H s bH_ af_
 |lst {xs:c!} {a:xT!} {its:ae_}:s.heap.IsList a its->RV X H s T! af_
def a0b(I:d_)(n:cL!)(r:eq_)(ru:bw!):RV X H s d u:=by
 cases d with
 |non=>cases eH r;cases ru;exact .non
 |bl b=>cases dA r;cases ru;exact .bl b
 |int b=>cases bG r;obtain⟨t,rfl⟩:=ru;exact .int b t
 |str b=>cases cI r;obtain⟨t,rfl⟩:=ru;exact .str b t
 |tup ys=>obtain⟨a,ws,rfl,q,_⟩:=bS r;cases ru;obtain⟨its,p⟩:=c1x I q;exact .tup p
 |lst ys=>obtain⟨a,ws,rfl,q,_⟩:=bT r;cases ru;obtain⟨its,p⟩:=b7e I q;exact .lst p
 |fn a=>unfold Bi at n;cases n
 |dk a=>unfold Bi at n;cases n
def nH(I:d_){A:yn!}(n:cL!)(n':fv!)(hu:as_)(r:eq_)(r':hr!)(ru:bw!)(av:hr_)(hT:∀xs ys,d=.tup xs->d'=.tup ys->SeqAt.EqAt A s u u' dr_)(hL:∀xs ys,d=.lst xs->d'=.lst ys->SeqAt.EqAt A s u u' dr_):SeqAt.EqAt A s u u' dr_:=by
 show"!`"
 all_goals first|exact hT _ _ rfl rfl|exact hL _ _ rfl rfl|(unfold En;with_reducible first|exact .none_none|exact .same _|exact .none_bool _|exact .none_int _ _|exact .none_str _ _|exact .none_tuple ‹_› hu|exact .none_list ‹_› hu|exact .bool_none _|exact .bool_bool _ _|exact .bool_int _ _ _|exact .bool_str _ _ _|exact .bool_tuple _ ‹_› hu|exact .bool_list _ ‹_› hu|exact .int_none _ _|exact .int_bool _ _ _|exact .int_int _ _ _ _|exact .int_str _ _ _ _|exact .int_tuple _ _ ‹_› hu|exact .int_list _ _ ‹_› hu|exact .str_none _ _|exact .str_bool _ _ _|exact .str_int _ _ _ _|exact .str_str _ _ _ _|exact .str_tuple _ _ ‹_› hu|exact .str_list _ _ ‹_› hu|exact .tuple_none ‹_› hu|exact .tuple_bool _ ‹_› hu|exact .tuple_int _ _ ‹_› hu|exact .tuple_str _ _ ‹_› hu|exact .tuple_list ‹_› ‹_› hu|exact .list_none ‹_› hu|exact .list_bool _ ‹_› hu|exact .list_int _ _ ‹_› hu|exact .list_str _ _ ‹_› hu|exact .list_tuple ‹_› ‹_› hu)
def c8o(I:d_){A:yn!}(n:cL!)(n':fv!)(hu:as_)(r:eq_)(r':hr!)(ru:bw!)(av:hr_)(hT:∀xs ys,d=.tup xs->d'=.tup ys->SeqAt.RcAt A s u u' dr_)(hL:∀xs ys,d=.lst xs->d'=.lst ys->SeqAt.RcAt A s u u' dr_):SeqAt.RcAt A s u u' dr_:=by
 show"!`"
 all_goals first|exact hT _ _ rfl rfl|exact hL _ _ rfl rfl|(unfold En;with_reducible first|exact .none_none|exact .same _|exact .none_bool _|exact .none_int _ _|exact .none_str _ _|exact .none_tuple ‹_› hu|exact .none_list ‹_› hu|exact .bool_none _|exact .bool_bool _ _|exact .bool_int _ _ _|exact .bool_str _ _ _|exact .bool_tuple _ ‹_› hu|exact .bool_list _ ‹_› hu|exact .int_none _ _|exact .int_bool _ _ _|exact .int_int _ _ _ _|exact .int_str _ _ _ _|exact .int_tuple _ _ ‹_› hu|exact .int_list _ _ ‹_› hu|exact .str_none _ _|exact .str_bool _ _ _|exact .str_int _ _ _ _|exact .str_str _ _ _ _|exact .str_tuple _ _ ‹_› hu|exact .str_list _ _ ‹_› hu|exact .tuple_none ‹_› hu|exact .tuple_bool _ ‹_› hu|exact .tuple_int _ _ ‹_› hu|exact .tuple_str _ _ ‹_› hu|exact .tuple_list ‹_› ‹_› hu|exact .list_none ‹_› hu|exact .list_bool _ ‹_› hu|exact .list_int _ _ ‹_› hu|exact .list_str _ _ ‹_› hu|exact .list_tuple ‹_› ‹_› hu)
mutual
theorem c2l(I:d_):∀(d d':D) (A:yn!) (v v':V) (u u':yB!),Bi d=true->Bi d'=true->A.units+Ii d<cLine->Ax X.K H d v->Ax X.K H d' v'->Bu v u->Bu v' u'->SeqAt.EqAt A s u u' dr_
 |.non,d',A,v,v',u,u',n,n',hu,r,r',ru,av=>nH I n n' a! r r' ru av bd_ bd_
 |.bl _,d',A,v,v',u,u',n,n',hu,r,r',ru,av=>nH I n n' a! r r' ru av bd_ bd_
 |.int _,d',A,v,v',u,u',n,n',hu,r,r',ru,av=>nH I n n' a! r r' ru av bd_ bd_
 |.str _,d',A,v,v',u,u',n,n',hu,r,r',ru,av=>nH I n n' a! r r' ru av bd_ bd_
 |.fn _,d',A,v,v',u,u',n,n',hu,r,r',ru,av=>nH I n n' a! r r' ru av bd_ bd_
 |.dk _,d',A,v,v',u,u',n,n',hu,r,r',ru,av=>nH I n n' a! r r' ru av bd_ bd_
 |.tup xs,d',A,v,v',u,u',n,n',hu,r,r',ru,av=>nH I n n' a! r r' ru av (λ_ ys e e'=>by
  cases e;subst e';obtain⟨a,vs,rfl,q,rr⟩:=bS r;obtain⟨b,ws,rfl,q',b7⟩:=bS r';cases ru;cases av;by_cases lm:a=b
  .subst lm;rw[xz!];exact .same _
  .unfold Bi at n n';unfold Ii at hu;unfold En;exact .of_refs lm (a0e I q q' rr b7 a! λus us' rv ak=>lF I xs ys A.in1 vs ws us us' n n' fv_ rr b7 rv ak)) bd_
 |.lst xs,d',A,v,v',u,u',n,n',hu,r,r',ru,av=>nH I n n' a! r r' ru av bd_ (λ_ ys e e'=>by
  cases e;subst e';obtain⟨a,vs,rfl,q,rr⟩:=bT r;obtain⟨b,ws,rfl,q',b7⟩:=bT r';cases ru;cases av;by_cases lm:a=b
  .subst lm;rw[xz!];exact .same _
  .unfold Bi at n n';unfold Ii at hu;unfold En;exact .of_refs lm (a6w I q q' rr b7 a! λus us' rv ak=>lF I xs ys A.in1 vs ws us us' n n' fv_ rr b7 rv ak))
theorem lF(I:d_):∀(ds es:c!) (A:yn!) (vs ws:n!) (us us':i_),Bx ds=true->Bx es=true->A.units+Dp ds<cLine->Am X.K H ds vs->Am X.K H es ws->Bc vs us->Bc ws us'->
  ∀(j:Nat) u u',us[j]?=some u->us'[j]?=some u'->SeqAt.EqAt A s u u' ki!
 |[],es,A,vs,ws,us,us',n,n',hu,r,r',rv,ak,j,u,u',e,e'=>by
  cases cS r;cases rv;simp at e
 |d::ds,es,A,vs,ws,us,us',n,n',hu,r,r',rv,ak,j,u,u',e,e'=>by
  obtain⟨v,t,rfl,r1,r2⟩:=bR r;cases es with
  |nil=>
   cases cS r';cases ak;simp at e'
  |cons c es=>
   obtain⟨w,t',rfl,t6,t9⟩:=bR r';unfold Bx at n n';rw[IZ]at n n';unfold Dp at hu;cases rv with
   |cons qf ua=>
    cases ak with
    |cons ZG ZH=>
     cases j with
     |zero=>
      simp at e e';subst e e';exact c2l I d c A v w _ _ n.1 n'.1 a! r1 t6 qf ZG
     |succ j=>
      exact lF I ds es A t t' _ _ n.2 n'.2 a! r2 t9 ua ZH j u u' cV_ (by simpa using e')
end
def c8p(I:d_)(d d':D){A:yn!}(n:cL!)(n':fv!)(hu:xz_)(r:eq_)(r':hr!)(ru:bw!)(av:hr_):SeqAt.RcAt A s u u' dr_:=
 c8o I n n' a! r r' ru av (λxs ys e e'=>by
  subst e e';obtain⟨a,vs,rfl,q,rr⟩:=bS r;obtain⟨b,ws,rfl,q',b7⟩:=bS r';cases ru;cases av;unfold Bi at n n';unfold Ii at hu;unfold En;exact a0e I q q' rr b7 a! λus us' rv ak=>lF I xs ys A.in1 vs ws us us' n n' fv_ rr b7 rv ak) (λxs ys e e'=>by
  subst e e';obtain⟨a,vs,rfl,q,rr⟩:=bT r;obtain⟨b,ws,rfl,q',b7⟩:=bT r';cases ru;cases av;unfold Bi at n n';unfold Ii at hu;unfold En;exact a6w I q q' rr b7 a! λus us' rv ak=>lF I xs ys A.in1 vs ws us us' n n' fv_ rr b7 rv ak)
def CC(K:yQ!):R2:=λx y H Q=>∃dx dy,Ax K H dx x/\Ax K H dy y/\Bi dx=true/\Bi dy=true/\Ii dx<=40/\Q (.bl (En dx dy)) H
def bZ(hu:aK_):Gw X (compareOp .Eq) (CC X.K):=by intro h1 s Z H x y v u Q I rx ry h;obtain⟨dx,dy,r1,r2,n1,n2,hd,q⟩:=h;exact c8p I dx dy n1 n2 a! r1 r2 rx ry X.prog X.w X.xe _ km!
def Ba:D->D->Option D:=λx y=>if Bi x&&Bi y&&decide (Ii x<=40)then some (.bl (En x y))else none
def cB{K:yQ!}:Ij K (CC K) Ba:=by
 show"!0";unfold Ba at e;show"!6"
 .show"!s";cases e;exact xA_
 .cases e
end
section
variable{X:Cx}{own:List Nat}{e a b c o i tg:Expr}{es:List Expr}{pos p2:Pos}{f fa fb fc fe:Ae->Option D}{fs fi:Ae->Option (List D)}{ft fu:Ae->Option Bool}
def Cd(g g':bd!)(fa fb fc:e!):Ae->Option D:=λρ=>(fp!).bind λx=>(jU_).bind λy=>(g x y).bind λz=>match z with
 |.bl true=>(fc ρ).bind λu=>g' y u
 |.bl false=>some Q!
 |_=>none
def a9d{op fm:CmpOp}{r r':R2}{g g':bd!}(ho:b6!)(hg:ej!)(fh:iS!)(ub:Ij X.K r' g')(ha:Z_)(hb:cG_)(hc:DE X own c fc)
  (hm:iS_:=by with_unfolding_all rfl):DE X own iT! xB!:=
 eX (c0c ho fh ha.ok hb.ok hc.ok hm) λZ G H Q ρ d er e k=>by
  obtain⟨x,e1,e⟩:=HJ.mp e;obtain⟨y,e2,e⟩:=HJ.mp e;obtain⟨z,e3,e⟩:=HJ.mp e;refine xB_;have nz:=s1.trans hc!;cases z<;>first|cases e|skip
  rename_i bb;cases dA r3;refine xC!;cases bb with
  |true=>
   obtain⟨u,e4,e⟩:=HJ.mp e;exact nA ⟨G3,ρ,u,er.grow nz,e4,λq G4 H4 s4 r4=>ub s4.sub xC_ r4 e λv G5 H5 s5 r5=>k v G5 H5 xD! r5⟩
  |false=>
   cases e;exact nB (k _ G3 H3 nz Ax.bl)
def Yx(f:e!):Ae->Option D:=λρ=>(an!).bind λd=>match d with|.int i=>some (.int (-i))|_=>none
def c2v(h:Z_):DE X own (.UnaryOp .USub a pos) (Yx fa):=
 eX (d2m c8f h.ok) λZ G H Q ρ d er e k=>by
  obtain⟨x,e1,e⟩:=HJ.mp e;cases x<;>first|cases e|skip
  refine fs!;cases bG r1;exact⟨_,rfl,k _ G1 H1 s1 Ax.int⟩
def Ky:D->Bool
 |.non=>true
 |.bl _=>true
 |.int _=>true
 |.str _=>true
 |_=>false
def a8u{K:yQ!}{H:Hp}(h:Ky d=true)(r:g7_):Nm v=true:=by
 cases d<;>first
  |(cases h;done)
  |(cases eH r;rfl)
  |(cases dA r;rfl)
  |(cases bG r;rfl)
  |(cases cI r;rfl)
def c6f{K:yQ!}{H:Hp}(h:Ky d=true)(h':Ky d'=true)(r:g7_)(r':Ax K H d' v'):Ya v v'=En d d':=by
 cases d<;>first
  |(cases h;done)
  |skip
 all_goals (cases d'<;>first
  |(cases h';done)
  |skip)
 all_goals first
  |(cases eH r)
  |(cases dA r)
  |(cases bG r)
  |(cases cI r)
 all_goals first
  |(cases eH r')
  |(cases dA r')
  |(cases bG r')
  |(cases cI r')
 all_goals simp[Ya,En]
def a8w{K:yQ!}{H:Hp}:∀{ds:c!} {vs:n!},ds.all Ky=true->Am K H ds vs->vs.all Nm=true
 |[],vs,_,r=>by cases cS r;rfl
 |d::ds,vs,h,r=>by
  obtain⟨v,t,rfl,r1,r2⟩:=bR r;rw[NI,IZ]at h;rw[NI,IZ];exact⟨a8u h.1 r1,a8w h.2 r2⟩
def a8v{K:yQ!}{H:Hp}(J:Ky x=true)(rx:Ax K H x v):∀{ds:c!} {vs:n!},ds.all Ky=true->Am K H ds vs->DN v vs=ds.any λd=>En d x
 |[],vs,_,r=>by cases cS r;rfl
 |d::ds,vs,h,r=>by
  obtain⟨w,t,rfl,r1,r2⟩:=bR r;rw[NI,IZ]at h;have ih:=a8v J rx h.2 r2;unfold DN at ih ⊢;rw[MB,MB,ih,c6f h.1 J r1 rx]
def AO:D->Option aR!
 |.tup xs=>some xs
 |.lst xs=>some xs
 |_=>none
def Vf(neg:Bool):D->D->Option D:=λx y=>(AO y).bind λds=>if Ky x&&ds.all Ky then some xD_ else none
def d2u{K:yQ!}{neg:Bool}:Ij K (EW K neg) (Vf neg):=by
 show"!0";show"!G"
 .rename_i h;rw[IZ]at h;cases e;have fin:∀{p:xT!} {vs:n!},(Fx K H p vs\/Ge K H p vs)->Am K G ds vs->y=V.ref p->EW K neg x y H Q:=λ{p vs} q r ey=>by
   refine⟨p,vs,ey,q,a8u h.1 rx,a8w h.2 r,?_⟩;rw[a8v h.1 rx h.2 r];show"!r"
  cases dy<;>first|(cases e1;done)|skip
  .cases e1;obtain⟨p,vs,ey,q,r⟩:=bS ry;exact fin (.inr km_) r ey
  .cases e1;obtain⟨p,vs,ey,q,r⟩:=bT ry;exact fin (.inl (sub.seq q)) r ey
 .cases e
structure Ur(X:Cx)(x:Str)(bp:aU_):Prop where
 ex:∃(ad:xT!) (kvs:oi!) (vs:List xE!),X.mg x=some ko!/\o6_=false/\(∀h:Heap,X.K.In h->h.DictOf (mixKind X.prog X.w) ad vs)/\KV kvs vs/\
  (∀y,Nz kvs es_=none↔bp.lookup y=none)/\∀y d,bp.lookup y=some d->∃v,Nz kvs es_=some v/\∀H,Ax X.K H d v
def Yw(bp:aU_)(neg:Bool)(f:e!):Ae->Option D:=λρ=>(an!).bind λd=>match d with|.str y=>some (.bl (if neg then !(o7!).isSome else(o7!).isSome))|_=>none
def Wc(bp:aU_)(f:e!):Ae->Option D:=λρ=>(an!).bind λd=>match d with|.str y=>bp.lookup y|_=>none
def c6p{x:Str}{bp:aU_}(hd:Ur X x bp)(hg:Y!)(ha:Z_)(b6:CT a)(bg:F_:=by decide):DE X own (.Subscript dp_ a pos) (Wc bp fa):=by
 show"#E";refine eX (t:=λZ H Q=>tD X.K own fa Z H λv H1=>∃y u,v=.str y/\Nz kvs es_=some u/\Q u H1) xE_ λZ G H Q ρ d er e k=>?_
 .refine c3v PySem.F.slot_dict_getitem.lookup b6 (kR I hg j6 (dL xF! λv s1 ⟨y,H1,I1,r1,z,u,hz,hu,q1⟩=>?_) bg);subst hz;have dd:=zh _ I1.kIn;obtain⟨w',hw,ak⟩:=Ou.some_of (v:=u) (o:=valueAt vs o7_) (by rw[<-hu];exact zi.val o7_);have ty:s1.TypeIs ko! "dict":=by
   obtain⟨o,es,ep,Y,L,_⟩:=dd;exact⟨o,Y,L.1⟩
  exact⟨ty,wpAny_getItem_of (knd:=xG!) (k:=o8_) xF_ dd.mapOf hw ⟨u,H1,I1.tok _,ak,q1⟩⟩
 .obtain⟨x,e1,e⟩:=HJ.mp e;cases x<;>first|(cases e;done)|skip
  rename_i y;obtain⟨v,hv,hr⟩:=hs y d e;refine⟨G,ρ,_,er,e1,λw G1 H1 s1 r1=>?_⟩;cases cI r1;exact⟨y,v,rfl,hv,k _ G1 H1 s1 (hr G1)⟩
def Ok(P:yO!)(w:yC!)(K:yQ!)(mg:z!)(base:Heap)(k:Nat)(x:Str)(ps:q!)(g:ah_):Prop:=
 ∃ae fd,Fo P w K mg base Qf k ae fd ps kf_/\Fc K fd ps []/\mg x=some bT!/\W.keepIn K bT!=true
def aT{k:Nat}{ps:q!}{g:ah_}{x:Str}(F:xH_)(hr:b6_)(hg:Y!)(ha:j0!)(ap:wN!)
  (hn:wM_:=by rfl)(bg:F_:=by decide)(he:ay_:=by rfl)(a7:a6_:=by rfl):
  DE X own bB! oy_:=by
 obtain⟨ae,fd,Y,L,h3,h4⟩:=F;exact c6q Y hr hg h3 h4 L ha hn ap bg he a7
def Zv(P:yO!)(w:yC!)(K:yQ!)(mg:z!)(base:Heap)(k n:Nat)(bp:o9!):Prop:=
 ∀ae g,bp ae=some g->∃fd ps,V_=n/\Fo P w K mg base Qf k ae fd ps kf_/\Fc K fd ps []/\W.keepIn K bT!=true
def Pg(bp:o9!)(i:Nat)(fs:as!):Ae->Option D:=λρ=>(Aa i ρ).bind λd=>match d with|.fn ae=>(bp ae).bind λg=>(fq_).bind g|_=>none
def c2w{k n j:Nat}{bp:o9!}{x:Str}(F:Zv X.prog X.w X.K X.mg X.base k n bp)(hr:b6_)(ha:j0!)(ap:wN_)
  (hj:j∉own:=by decide)(hN:vQ_:=by rfl)(hv:cs_:=by first|exact Or.inl rfl|exact Or.inr b!|exact Or.inr aG_)(bg:F_:=by decide)(bz:ct!:=by decide)
  (he:ay_:=by rfl)(a7:a6_:=by rfl):
  DE X own bB! (Pg bp j fs):=⟨by
 intro h1 s Z H Q I h;obtain⟨G,ρ,d,er,e1,kk⟩:=h;obtain⟨z,e2,e1⟩:=HJ.mp e1;cases z<;>first|(cases e1;done)|skip
 rename_i ae;obtain⟨g,e3,e1⟩:=HJ.mp e1;obtain⟨ds,e4,e1⟩:=HJ.mp e1;obtain⟨fd,ps,lp,F1,F2,F3⟩:=F ae g e3;obtain⟨v,Y,L⟩:=er.at_ j _ (join_some e2) hj;cases gD L;refine LJ (dL (mG hN hv bg bz h1 s Z H (λu H'=>u=.ref ae/\H'=H) I ⟨_,Y,rfl,rfl⟩) λu s1 ⟨y,H1,I1,r1,hy,hH⟩=>?_);subst hy hH;cases r1;refine W.callWith_K (h₀:=X.base) I1.ok.mod.kin F3 (dL (ha.ok pos h1 s1 Z H1 _ I1 ⟨G,ρ,ds,er,e4,λvs G2 H2 s2 r2=>(?_:(λvs H2=>Yj X.K ps.length g vs H2 Q E0) vs H2)⟩) λus s2 ⟨vs,H2,I2,r2,q2⟩=>tS!) he a7
 .exact⟨by rw[<-aL r2,ap ρ ds e4,lp],G2,ds,d,s2.sub,r2,e1,λv G3 H3 s3 r3=>kk v G3 H3 hc! r3⟩
 .exact a2w (dvs:=[]) (ds:=[]) F1 hr F2 .nil wZ I2 r2 (by rw[IR];exact q2)⟩
def DY(x:Str):It:=⟨xJ_,λi H v H'=>H'=H/\∃c,x.cps[i]?=some c/\v=.str aq_,xK!⟩
def AR(f:e!):Ae->Option aR!:=λρ=>(an!).bind λd=>match d with|.str x=>some xK_|_=>none
def c5u{K:yQ!}{G1:Hp}{x:Str}:Ze K (DY x) xK_ G1:=by intro i G' H' s1 s2;refine⟨ep_,λhi=>by rw[IK,JU]at hi;exact PB hi.symm⟩;rw[JC]at hd;obtain⟨c,hc,rfl⟩:=HU.mp hd;rw[ND]at hc;refine xL!;obtain⟨e1,c',bv,e2⟩:=hy;subst e1;rw[hc]at bv;cases bv;subst e2;exact⟨G',j9!,Ax.str⟩
def a5z{K:yQ!}{x:Str}{St':dR!}(hd:xL_)
  (W:∀A':Around,o9_=none->Walks P w A' it [it] [it] x.cps.size (SignAt x) St')(ZI:∀(A:yn!) (i:Nat) (s:yP!) (Q:q_) (E:q_),St' i s.heap->Q b4_ s->wpAny G_ A (pyIter b4_) Q E s):
  Tk P w K hv! (DY x) [it] it xM_ where
 mem:=by simp
 obj:=λi h st b hb=>by
  have e:b=it:=by simpa using hb
  subst e;exact hd i h st.2
 keep:=λi h h' st k=>⟨st.1,by
  have Wd:=W callerA rfl;exact Wd.frame i h h' st.2 λb hb o e=>k b hb o e⟩
 item:=by
  show"!/";show"!2";refine(W X.A bK_).item i s _ _ hg st.2 λv h' tk hv h2 kk=>?_;obtain⟨cc,u,j5,rfl⟩:=hv;show"!]";exact⟨_,rfl,HK ⟨.str ⟨#[cc]⟩,H,I1,⟨u,rfl⟩,⟨rfl,cc,j5,rfl⟩,⟨hg,h2⟩,mC_⟩⟩
 done:=by
  show"!/";show"!2";show"#D";exact(W X.A bK_).done s _ _ st.2 λh' tk kk=>⟨rfl,I.turned mE! f0 f1 f3 f4 f5⟩
 self:=λA i s Q E st h=>ZI A i s Q E st.2 h
def c8u{tl:TE}(hl:PE X a tl):PI X hv! a (λZ H R=>tl Z H λv H1=>∃x,v=.str x/\R (DY x) H1):=by
 intro h1 s Z H R I h;refine dL sr! λv s1 ⟨u,H1,I1,r1,x,J,q⟩=>?_;subst J;obtain⟨t,rfl⟩:=r1;have VF:∀(ty:String) (i:Nat) (h:Heap),h.IsStrIter s1.heap.objs.size ty x t i->∃o,h.get? D!=some o/\∀v,o.data≠.cell v:=λty i h st=>by
  show"#!"
 have fin:∀(ob:Obj) (St':dR!),Tk X.prog X.w X.K hv! (DY x) [D!] s1.heap.objs.size xM_->St' 0 (s1.heap.push ob)->
   DU X h1 Z hv! R (.ref D!) {s1 with heap:=s1.heap.push ob}:=λob St' T st=>by
  refine⟨D!,[D!],_,_,H1,rfl,mE_,T,⟨JS _,st⟩,by_,q⟩;have e:b=D!:=by simpa using hb
  show"!n"
 cases ha:x.cps.all (·<128)with
 |false=>
  exact wpAny_pyIter_wide ha (fin _ _ (a5z xO! (λA' hA=>Walks.strWide hA _ x t) λA i s Q E st h=>wpAny_pyIter_striter_wide st h) eV_)
 |true=>
  exact wpAny_pyIter_ascii ha (fin _ _ (a5z xO! (λA' hA=>Walks.strAscii hA _ x t) λA i s Q E st h=>wpAny_pyIter_striter_ascii st h) eV_)
def d0o(h:Z_):DI X own hv! a (AR fa):=a9a (c8u h.ok) λZ G H R ρ ds er e k=>by
 obtain⟨d,e1,e2⟩:=HJ.mp e;cases d with
 |str x=>
  cases e2;refine fs!;cases cI r1;exact⟨x,rfl,k _ G1 H1 s1 c5u⟩
 |_=>cases e2
def zT:∀{ys:q!} {us:i_},Bc xO_ us->StrsAre us ys
 |[],_,.nil=>.nil
 |y::ys,_,.cons r t=>by
  obtain⟨k,rfl⟩:=r;exact .cons y k (zT t)
def BU(K:yQ!):V->List V->Hp->VK->Prop:=λx vs H Q=>∃(z:Str) (p:xT!) (ys:q!),x=.str z/\vs=gR!/\Fx K H p xO_/\(ks_).sum+ac_*jm_<=16777216/\Q xP! H
def b4h:GI X "str.join" (BU X.K):=by intro h1 s Z H x xs v us Q I rx r h;obtain⟨z,p,ys,rfl,rfl,hq,hz,q⟩:=h;obtain⟨t,rfl⟩:=rx;obtain⟨u,rfl,r1⟩:=uE r;cases r1;obtain⟨its,rv,pl,_⟩:=I.list hq;exact join_list pl.isList (by simpa using zT rv) hz λt' k=>⟨.str _,H,a3!,L!,q⟩
def Ql:List D->Option (List Str)
 |[]=>some []
 |.str x::r=>(Ql r).map (x::·)
 |_=>none
def wU{K:yQ!}{H:Hp}:∀{ds:c!} {vs:n!} {ys:q!},Am K H ds vs->Ql ds=some ys->vs=ys.map V.str
 |[],vs,ys,r,e=>by cases cS r;cases e;rfl
 |d::ds,vs,ys,r,e=>by
  obtain⟨v,t,rfl,r1,r2⟩:=bR r;cases d<;>first|(cases e;done)|skip
  obtain⟨ZJ,e1,rfl⟩:=HU.mp e;cases cI r1;rw[wU r2 e1];rfl
def Nk:D->D->Option D
 |.str z,.lst xs=>(Ql xs).bind λys=>if(ks_).sum+ac_*jm_<=big then some xP! else none
 |_,_=>none
def Xp(fo fa:e!):Ae->Option D:=λρ=>(fo ρ).bind λx=>(fp!).bind λy=>Nk x y
def c6n{fo:e!}{aj ah:Pos}(ho:DE X own o fo)(ha:Z_)
  (gu:attributeBase o "join" X.env dP_=eval o X.env:=by rfl)
  (gw:((pb_).all cA!&&(cA_).all cB!
   &&decide pc!)=true:=by rfl)
  (g7:d7!:=by rfl) (hs:j9_:=by rfl) (g8:ho_:=by rfl):
  DE X own (.Call (.Attribute o "join" aj) [a] [] ah) (Xp fo fa):=
 eX (a0h PySem.F.plainAttrs_str PySem.F.slot_str_join PySem.F.type_str_join b4h ho.ok xQ! gu gw g7 hs g8) λZ G H Q ρ d er e k=>by
  show"!<";obtain⟨y,e2,e⟩:=HJ.mp e;unfold Nk at e;show"!6"
  .obtain⟨ys,e3,e⟩:=HJ.mp e;show"!6"
   .show"!F";refine fs!;cases cI r1;refine⟨rfl,G1,ρ,_,dn_,e2,xQ_⟩;obtain⟨p,vs,rfl,q,rr⟩:=bT r2;have:=wU rr e3;subst this;exact⟨_,p,ys,rfl,rfl,s2.sub.seq q,JB hl b_,k _ G2 H2 dp! Ax.str⟩
   .cases e
  .cases e
end
section
variable{prog:yO!}{w:yC!}{A:yn!}{E:Value->Shared->Prop}{s:yP!}
def a3l{n:Nat}{xs:ae_}{Q:q_}(g1:xR!)(g2:xR_)(g3:xs[n]?=some v)
  (k:∀h',h'.IsTupleIter jt tt cJ_->Heap.SameBut jt s.heap h'->Q v {s with heap:=h'}):wpAny r_ A xS! Q E s:=by
 show"!7";show"!Z";refine HI (RG eo ed d! (HK ⟨v,rfl,HK (k _ ?_ et_)⟩));exact⟨_,NU _ eo (Obj.isFreed_of_fields (QD ed _)),(xW!).trans ec,by rw[QD ed];simp[rawInt]⟩
def xH{n:Nat}{xs:ae_}{Q:q_}(hh:dc!)(g1:xR!)(g2:xR_)(g3:xs[n]?=none)
  (k:∀h' e,Heap.ExtBut jt s.heap h'->(∃o,h'.get? e=some o/\o.cls=.type "StopIteration")->E (.ref e) {s with heap:=h'}):wpAny r_ A xS! Q E s:=by
 show"!7";show"!Z";refine HI (LI (HI (RG eo ed d! ?_)));refine HI ?_;simp only[newExc,newTuple];refine HI (KN ?_ ku!);refine HI (m:=xX!) (wpAny_of_eq (a:=dE_) xX_ ?_);refine KN ?_ ku!;simp only[raiseNew];refine HI xY!
 first|rw[xY_]|rw[hh]
 refine HI xZ!;exact k _ _ x0! pd_
def cG{h h':Heap}{n:Nat}(x:h.IsTupleIter aa tt n)(hs:Heap.ExtBut bb h h')(ne:aa≠bb):h'.IsTupleIter aa tt n:=let⟨ob,eo,r⟩:=x;⟨ob,hs _ _ ne eo,r⟩
def a9u{TI TO:xT!}{k1 k2:Nat}{xs ys:ae_}{Q:q_}(D:ku_)
  (gz:kv!)(gI:kv_)(gO:kw!)
  (g1:kw_)(g2:kx!)(iu:hw!)(iz:hw_)(gx:x1!)(gy:x1_)
  (kk:∀h',IsZip h' z TI TO (rawInt o_)->IsPair h' TO x y->h'.IsTupleIter i1 l1 (k1+1)->h'.IsTupleIter i2 l2 (k2+1)->IsPair h' s.heap.objs.size x y->
   kx_->Q c6_ {s with heap:=h'}):
  wpAny r_ A x2! (λfin s'=>∃v,fin=.done (.ret v)/\Q v s') E s:=by
 show"!w";show"!C";refine HI x5_
 replace lu:IsZip Y z TI TO .ellipsis:=lu
 refine HI ?_;simp only[RK,QK,NB,PK];refine HI ky_;refine HI x6_;have uc:IsPair L TO p q:=bq.extBut _ _ D.TOi1 x8_;refine HI ya!;refine HI x8!
 replace ww:IsPair h3 TO x q:=ww
 refine HI (NR ac!);refine HI ky_;refine HI (a3l ya_ yb! gy λh4 ZK jo=>HK ?_);have VH:IsPair h4 TO x q:=jo.extBut _ _ D.TOi2 ww;refine HI (LV VH rfl ?_);refine HI (RC VH λh5 wx l8=>?_)
 replace wx:IsPair h5 TO x y:=wx
 refine HI (NR (HK ac!));refine HI (LV wx rfl ?_);refine HI (wpAny_newTuple ?_);have sz:kz!=o_:=by rw[l8.1,jo.1,dh.1,bq.1,hs1.1]
 have VI:IsZip h5 z TI TO .ellipsis:=l8.extBut _ _ D.TOz.symm (jo.extBut _ _ D.i2z.symm yb_);have ZL:∀c ob,c≠z->c≠TO->c≠i1->c≠i2->s.heap.get? c=some ob->h5.get? c=some ob:=λc ob c1 c2 c3 c4 e=>l8.extBut _ _ c2 (jo.extBut _ _ c4 (dh.extBut _ _ c2 (bq.extBut _ _ c3 (hs1.extBut _ _ c1 e))));have ZM:h5.IsTupleIter i1 l1 (k1+1):=cG (cG (cG VG dh.extBut D.TOi1.symm) jo.extBut D.i12) l8.extBut D.TOi1.symm;have ZN:h5.IsTupleIter i2 l2 (k2+1):=cG ZK l8.extBut D.TOi2.symm;have VJ:z<kz!:=IQ VI;refine HI ?_;unfold Builtin.SmallTypes.ownedTupleHandOut;have ZO:IsZip (h5.push {cls:=.type "tuple",data:=.seq #[x,y]}) z TI TO .ellipsis:=HM _ VI;refine HI (NM ZO d! λh7 zl VL=>?_)
 replace zl:IsZip h7 z TI TO (rawInt kz!):=zl
 refine NM zl d! λh8 wy VM=>?_
 replace wy:IsZip h8 z TI TO (rawInt kz!):=wy
 have up:∀c ob,c≠z->h5.get? c=some ob->h8.get? c=some ob:=λc ob c1 e=>VM.extBut _ _ c1 (VL.extBut _ _ c1 (HM _ e));have VN:IsPair h8 h5.objs.size x y:=VM.extBut _ _ (MU VJ) (VL.extBut _ _ (MU VJ) kz_);rw[sz]at wy VN;refine HK pf!;rw[sz];obtain⟨wz,ZP,r1⟩:=ZM;obtain⟨qg,ZQ,r2⟩:=ZN;exact kk h8 wy (up _ _ D.TOz wx) ⟨wz,up _ _ D.i1z ZP,r1⟩ ⟨qg,up _ _ D.i2z ZQ,r2⟩ VN λc ob c1 c2 c3 c4 e=>up c ob c1 (ZL c ob c1 c2 c3 c4 e)
def b5m{TI TO:xT!}{k1 k2:Nat}{xs ys:ae_}{Q:Fin->Shared->Prop}(hh:dc!)(D:ku_)
  (gz:kv!)(gI:kv_)(gO:kw!)
  (g1:kw_)(g2:kx!)(iu:hw!)(iz:hw_)(ge:yc!)
  (kk:∀h' e,kx_->(∃ob,h'.get? e=some ob/\ob.cls=.type "StopIteration")->E (.ref e) {s with heap:=h'}):
  wpAny r_ A x2! Q E s:=by
 show"!w";show"!C";refine HI x5_
 replace lu:IsZip Y z TI TO .ellipsis:=lu
 refine HI ?_;simp only[RK,QK,NB,PK];refine HI ky_;cases gx:xs[k1]? with
 |none=>
  refine HI (xH hh x7_ x7! gx λL e bq he=>?_);obtain⟨oe,og,ud⟩:=he;have VO:IsZip L z TI TO .ellipsis:=bq _ _ D.i1z.symm lu;have zm:e≠z:=λx=>by subst x;rw[VO]at og;cases og;simp at ud
  refine NM VO d! λh3 _ dh=>kk h3 e (λc ob c1 _ c3 _ x=>dh.extBut _ _ c1 (bq _ _ c3 yc_)) ⟨oe,dh.extBut _ _ zm og,ud⟩
 |some x=>
  have gy:ys[k2]?=none:=by
   obtain h|h:=ge
   .rw[gx]at h;cases h
   .exact h
  refine HI x6_;have uc:IsPair L TO p q:=bq.extBut _ _ D.TOi1 x8_;refine HI ya!;refine HI x8!;refine HI (NR ac!);refine HI ky_;refine HI (xH hh ya_ yb! gy λh4 e jo he=>?_);obtain⟨oe,og,ud⟩:=he;have VP:IsZip h4 z TI TO .ellipsis:=jo _ _ D.i2z.symm yb_;have zm:e≠z:=λx=>by subst x;rw[VP]at og;cases og;simp at ud
  refine NM VP d! λh5 _ l8=>kk h5 e (λc ob c1 c2 c3 c4 x=>l8.extBut _ _ c1 (jo _ _ c4 (dh.extBut _ _ c2 (bq.extBut _ _ c3 yc_)))) ⟨oe,l8.extBut _ _ zm og,ud⟩
def b0v{TI TO:xT!}{k1 k2:Nat}{xs ys:ae_}{p:yB!}{Q:fz_}(D:ku_)
  (gz:kv!)(gI:kv_)(gO:kw!)
  (g1:kw_)(g2:kx!)(iu:hw!)(iz:hw_)(gx:x1!)(gy:x1_)
  (kk:∀h',IsZip h' z TI TO (rawInt o_)->IsPair h' TO x y->h'.IsTupleIter i1 l1 (k1+1)->h'.IsTupleIter i2 l2 (k2+1)->IsPair h' s.heap.objs.size x y->
   kx_->Q (some c6_) {s with heap:=h'}):
  wpAny r_ A (pyNext h3!) Q E s:=by
 have gT:s.TypeIs h3! "zip":=ye_;unfold pyNext;exact HI (PH (JY (name:=kt_) gT RB (JO RB gT yf!
  (a9u D gz gI gO g1 g2 iu iz gx gy λh' a1 a2 a3 a4 a5 a6=>HK (kk h' a1 a2 a3 a4 a5 a6)) yf_)))
def zD{TI TO:xT!}{k1 k2:Nat}{xs ys:ae_}{p:yB!}{Q:fz_}(hh:dc!)(D:ku_)
  (gz:kv!)(gI:kv_)(gO:kw!)
  (g1:kw_)(g2:kx!)(iu:hw!)(iz:hw_)(ge:yc!)
  (kk:∀h',kx_->Q none {s with heap:=h'}):wpAny r_ A (pyNext h3!) Q E s:=by
 have gT:s.TypeIs h3! "zip":=ye_;unfold pyNext;refine HI (PH (JY (name:=kt_) gT RB (JO RB gT yf!
  (b5m hh D gz gI gO g1 g2 iu iz ge λh' e hk he=>?_) yf_)))
 obtain⟨ob,ho,hc⟩:=he;exact HI (wpAny_isInstance (T:=yg!) (b:=true) ⟨ob,ho,hc⟩ isSubtype_stop (HK (kk _ hk)))
abbrev DC(h:Heap)(l1:xT!):Heap:=h.push {cls:=.type "tuple_iterator",data:=.fields #[.ref l1,.int 0 0]}
abbrev DB(h:Heap)(l1 l2:xT!):Heap:=(DC h l1).push {cls:=.type "tuple_iterator",data:=.fields #[.ref l2,.int 0 0]}
abbrev CZ(h:Heap)(l1 l2:xT!):Heap:=(DB h l1 l2).push {cls:=.type "tuple",data:=.seq #[.ref cW_,.ref (DC h l1).objs.size]}
abbrev CY(h:Heap)(l1 l2:xT!):Heap:=(CZ h l1 l2).push {cls:=.type "tuple",data:=.seq #[.none,.none]}
abbrev BC(h:Heap)(l1 l2:xT!):Heap:=(CY h l1 l2).push {cls:=.type "zip",data:=.fields #[.none,.bool false,.bool false,.ref (DB h l1 l2).objs.size,.ref (CZ h l1 l2).objs.size]}
def b1m(l1 l2:xT!)(xs ys:ae_):
  Meets (Builtin.«zip.__new__» ⟨[.type "zip",.ref l1,.ref l2],[]⟩) (λ_ R s=>s.heap.IsTuple l1 xs/\s.heap.IsTuple l2 ys/\R (.ok (.ret (.ref (pf_).objs.size))) {s with heap:=BC s.heap l1 l2}):=
 .of_wp λprog w A R s h=>by
  obtain⟨hp,g,d,tk,os⟩:=s;obtain⟨iu,iz,h⟩:=h;have hsub:=sub_zip;have ZR:Heap.IsTuple (Shared.heap hy!) l1 xs:=iu;have ZS:Heap.IsTuple (Shared.heap ⟨hp.push {cls:=.type "tuple_iterator",data:=.fields #[.ref l1,.int 0 0]},g,d,tk,os⟩) l2 ys:=let⟨ob,eo,r⟩:=iz;⟨ob,HM _ eo,r⟩
  wp_walk using wpAny_pyIter_tuple ZR,wpAny_pyIter_tuple ZS
  exact⟨_,rfl,h⟩
def c3j{xs ys:ae_}{Q:q_}(iu:hw!)(iz:hw_)
  (kk:∀h',IsZip h' (o_+4) (o_+2) (o_+3) .none->IsPair h' (o_+2) c6_ (.ref ag!)->
   IsPair h' (o_+3) .none .none->h'.IsTupleIter s.heap.objs.size l1 0->h'.IsTupleIter ag! l2 0->(∀c ob,s.heap.get? c=some ob->h'.get? c=some ob)->Q (.ref (o_+4)) {s with heap:=h'}):
  wpAny r_ A (call pg_ [.ref l1,.ref l2]) Q E s:=by
 refine callType_new F.called_zip b_ (F.typeCall_zip_2 _ _) (F.newCall_zip_2 _ _) (λobj=>F.args_object_init_3 obj _ _) F.entry_zip_new (b1m l1 l2 xs ys) ⟨iu,iz,?_⟩;have z1:(yi_).objs.size=o_+1:=OC ..;have z2:(yj!).objs.size=o_+2:=by rw[OC,z1]
 have z3:(yj_).objs.size=o_+3:=by rw[OC,z2]
 have z4:(pf_).objs.size=o_+4:=by rw[OC,z3]
 have y5:(hz!).get? (pf_).objs.size=some _:=IP _ rfl;have y4:(hz!).get? (yj_).objs.size=some _:=HM _ kz_;have y3:(hz!).get? (yj!).objs.size=some _:=HM _ ph!;have y2:(hz!).get? (yi_).objs.size=some _:=HM _ (HM _ ph!);have y1:(hz!).get? o_=some _:=HM _ (HM _ (HM _ ph!));show _/\_;rw[z2,z3,z4]at y5;rw[z1,z2]at y3;rw[z3]at y4;rw[z1]at y2;rw[z4];exact⟨⟨_,y5,rfl⟩,kk _ y5 y3 y4 ⟨_,y1,rfl,rfl⟩ ⟨_,y2,rfl,rfl⟩ λc ob x=>HM _ (HM _ (HM _ (HM _ (HM _ x))))⟩
end
def DX(K:yQ!)(a b:xT!):It:=
 ⟨λi H=>∃xs ys x y,Ge K H a xs/\Ge K H b ys/\xs[i]?=some x/\ys[i]?=some y,
   λi H v H'=>∃T,v=.ref T/\H T=none/\∀xs ys,Ge K H a xs->Ge K H b ys->∃x y,xs[i]?=some x/\ys[i]?=some y/\H'=upd H T (.tup [x,y]),
   λi H=>∃xs ys,Ge K H a xs/\Ge K H b ys/\(l_<=i\/ac_<=i)⟩
def b5q{w:yC!}{K:yQ!}{jp:bJ_}{n1:Nat}{tp:Pos}{a b TI TO:xT!}(D:ZipApart z TI TO i1 i2 a b):
  Tk P w K fA! (DX K a b) [z,TI,TO,i1,i2] z (λi h=>IsZip h z TI TO .none/\IsPair h TI (.ref i1) (.ref i2)/\(∃p q,IsPair h TO p q)/\h.IsTupleIter i1 a i/\h.IsTupleIter i2 b i) where
 mem:=by simp
 obj:=λi h st c hc=>by
  obtain⟨s1,s2,⟨p,q,s3⟩,⟨o4,s4,c4,d4⟩,⟨o5,s5,c5,d5⟩⟩:=st;simp only[HN,JF,KW]at hc;obtain rfl|rfl|rfl|rfl|rfl:=hc
  .exact⟨_,s1,pi!⟩
  .exact⟨_,s2,pi!⟩
  .exact⟨_,s3,pi!⟩
  .exact⟨o4,s4,λv y=>by rw[d4]at y;cases y⟩
  .exact⟨o5,s5,λv y=>by rw[d5]at y;cases y⟩
 keep:=λi h h' st k=>by
  obtain⟨s1,s2,⟨p,q,s3⟩,⟨o4,s4,r4⟩,⟨o5,s5,r5⟩⟩:=st;exact⟨k z d! _ s1,k TI d! _ s2,⟨p,q,k TO d! _ s3⟩,⟨o4,k i1 d! _ s4,r4⟩,⟨o5,k i2 d! _ s5,r5⟩⟩
 item:=by
  intro X hP hw hK hc i h1 s Z H E I hf st hg;subst hP hw hK;obtain⟨xs,ys,x,y,qa,qb,J,hy⟩:=hg;obtain⟨s1,s2,⟨p,q,s3⟩,s4,s5⟩:=st;obtain⟨ia,ra,ta,za⟩:=I.tuple qa;obtain⟨ib,rb,tb,zb⟩:=I.tuple qb;obtain⟨u,hu,ru⟩:=ra.get J;obtain⟨v,hv,rv⟩:=rb.get hy;refine b0v D s1 s2 s3 s4 s5 ta tb (x:=u) (y:=v) sm! jc! λh' a1 a2 a3 a4 a5 a6=>?_;refine⟨_,rfl,wpAny_letOwnedTupleGo_zip (s:=mB_) a1 λL b1 bq=>?_⟩;have qh:Heap.SameBut z h' L:=bq;have neT:∀c o,s.heap.get? c=some o->o_≠c:=λc o e=>MU cY!;have fz:=hf z d!;have fO:=hf TO d!;have f1:=hf i1 d!;have f2:=hf i2 d!;have I1:Inv X h1 Z H {s with heap:=L,toks:=s.toks}:=by
   have p5:∀(c:xT!),c∈fA_->H c=none:=λc hc=>by
    simp only[HN,JF,KW]at hc;obtain rfl|rfl|rfl|rfl:=hc
    .exact fz.1
    .exact fO.1
    .exact f1.1
    .exact f2.1
   have kp:∀c o,c∉fA_->s.heap.get? c=some o->L.get? c=some o:=λc o hc e=>by
    simp only[HN,JF,KW,OL]at hc;exact qh.extBut _ _ hc.1 (a6 c o hc.1 hc.2.1 hc.2.2.1 hc.2.2.2 e)
   refine I.step (g':=s.gens) (d':=s.drawn) (ch:=fA_) hz_ pi_ pj! ip! pj_ ip_ iq! pk! ir! hA! I.bare
   .simp only[HN,JF,KW]at hc;obtain rfl|rfl|rfl|rfl:=hc
    .exact yk_
    .exact yl!
    .exact yl_
    .exact ym!
   .show"!a"
   .refine(pk_).stay pl! pl_ λ_ _ e'=>e';have hn:=p5 d hm;obtain rfl|hd:=hd
    .rw[hn]at e;cases e
    .rw[hn]at hd;cases hd
  have ue:H o_=none:=I.hok.fresh y!;have eT:L.get? o_=some {cls:=.type "tuple",data:=.seq #[u,v]}:=qh.extBut _ _ (neT z _ s1) a5;have I2:Inv X h1 Z (upd H s.heap.objs.size (.tup [x,y])) {s with heap:=L,toks:=s.toks}:=by
   have ne:∀c o,H c=some o->c≠o_:=λc o e=>cN e ue;have ZT:∀p∈X.pn++h1,p.1≠o_:=λp hp=>JG sg_;refine Inv.step (s:={s with heap:=L,toks:=s.toks}) (g':=s.gens) (d':=s.drawn) (t':=s.toks) (h':=L) (ch:=[o_]) I1 hz_ yn_ yo! yo_ yp!
    (yp_) yq! yq_ n2! hA! I1.bare
   .have e:c=o_:=by simpa using hc
    subst e;exact⟨.inr I.sz,MU I.lt,λx c h=>(λz=>by obtain⟨v,o,ho,_⟩:=I.cell x c h;rw[z]at ho;exact absurd ik_ dH_),ZT⟩
   .rw[n2_];exact n
   .by_cases hb:c=o_
    .show"!x";exact⟨by show 2<=sizeLine;rw[JV];decide,[u,v],.cons ru (.cons rv .nil),⟨_,eT,rfl,_,rfl⟩⟩
    .rw[bD hb]at e;exact(yr!).stay n3! yr_ λd xs q=>by rw[pn!];exact q
  refine⟨de_,_,I2,rfl,⟨_,rfl,ue,λja ZJ kg uf=>⟨x,y,?_,?_,rfl⟩⟩,⟨b1,qh.extBut _ _ D.TIz (a6 TI _ D.TIz D.TITO D.TIi1 D.TIi2 s2),⟨u,v,qh.extBut _ _ D.TOz a2⟩,cG a3 qh.extBut D.i1z,cG a4 qh.extBut D.i2z⟩,kA_⟩
  .rw[I.tuple_inj kg qa];exact J
  .rw[I.tuple_inj uf qb];exact hy
  .have ZU:=(hf c hc).1;have bv:∃o,s.heap.get? c=some o:=by
    obtain⟨o4,t4,_⟩:=s4;obtain⟨o5,t5,_⟩:=s5;simp only[HN,JF,KW]at hc;obtain rfl|rfl|rfl|rfl|rfl:=hc
    .exact⟨_,s1⟩
    .exact⟨_,s2⟩
    .exact⟨_,s3⟩
    .exact⟨_,t4⟩
    .exact⟨_,t5⟩
   obtain⟨o,ho⟩:=bv;rw[bD (HR (neT c o ho))];exact ZU
 done:=by
  intro X hP hw hK hc i h1 s Z H E I hf st hg;subst hP hw hK;obtain⟨xs,ys,qa,qb,ZV⟩:=hg;obtain⟨s1,s2,⟨p,q,s3⟩,s4,s5⟩:=st;obtain⟨ia,ra,ta,za⟩:=I.tuple qa;obtain⟨ib,rb,tb,zb⟩:=I.tuple qb;have l1:=ra.length;have l2:=rb.length;refine zD bK_ D s1 s2 s3 s4 s5 ta tb (by
   obtain h|h:=ZV
   .left;simp;omega
   .right;simp;omega) λL a6=>j_
  have fz:=hf z d!;have fO:=hf TO d!;have f1:=hf i1 d!;have f2:=hf i2 d!;have p5:∀(c:xT!),c∈fA_->H c=none:=λc hc=>by
   simp only[HN,JF,KW]at hc;obtain rfl|rfl|rfl|rfl:=hc
   .exact fz.1
   .exact fO.1
   .exact f1.1
   .exact f2.1
  have kp:∀c o,c∉fA_->s.heap.get? c=some o->L.get? c=some o:=λc o hc e=>by
   simp only[HN,JF,KW,OL]at hc;exact a6 c o hc.1 hc.2.1 hc.2.2.1 hc.2.2.2 e
  refine I.step (g':=s.gens) (d':=s.drawn) (t':=s.toks) (ch:=fA_) hz_ pi_ pj! ip! pj_ ip_ iq! pk! ir! hA! I.bare
  .simp only[HN,JF,KW]at hc;obtain rfl|rfl|rfl|rfl:=hc
   .exact yk_
   .exact yl!
   .exact yl_
   .exact ym!
  .show"!a"
  .refine(pk_).stay pl! pl_ λ_ _ e'=>e';have hn:=p5 d hm;obtain rfl|hd:=hd
   .rw[hn]at e;cases e
   .rw[hn]at hd;cases hd
 self:=λA i s Q E st h=>wpAny_pyIter_zip st.1 h
section
variable{X:Cx}{own:List Nat}{e a b c o i tg:Expr}{es jp:List Expr}{pos p2 p tp:Pos}{f fa fb fc fe:Ae->Option D}{n1:Nat}
def c4v{ta:TA}(hg:Gl X "zip")(hm:ys_)(hv:yt!)(ha:PA X ap_ ta)(hs:yt_:=by rfl)(a7:yu!:=by rfl):
  PI X fA! yu_ (λZ H R=>ta Z H λvs H1=>∃x y xs ys,vs=[.ref x,.ref y]/\Ge X.K H1 x xs/\Ge X.K H1 y ys/\R (DX X.K x y) H1):=by
 intro h1 s Z H R I h;refine Call_ (kS I hg hm hv (LM mI! hs a7));obtain⟨x,y,xs,ys,rfl,qx,qy,q⟩:=q1;obtain⟨u,u',rfl,ru,av⟩:=b2r r1;cases ru;cases av;obtain⟨ia,ra,VQ,za⟩:=I1.tuple qx;obtain⟨ib,rb,VR,zb⟩:=I1.tuple qy;have lx:x<D!:=by obtain⟨ob,eo,_⟩:=VQ;exact IQ eo
 have ly:y<D!:=by obtain⟨ob,eo,_⟩:=VR;exact IQ eo
 refine c3j VQ VR λh' a1 a2 a3 a4 a5 a6=>?_;refine wpAny_pyIter_zip a1 ?_;have I2:Inv X h1 Z H1 {s1 with heap:=h',toks:=s1.toks}:=I1.kept (t':=s1.toks) a6;have D:ZipApart (D!+4) (D!+2) (D!+3) s1.heap.objs.size (D!+1) x y:=by
  constructor<;>(intro z;have z':@Eq Nat _ _:=z;have l1:@LT.lt Nat _ x _:=lx;have l2:@LT.lt Nat _ y _:=ly;omega)
 refine⟨_,_,_,DX X.K x y,H1,rfl,I2,b5q D,⟨a1,a2,⟨_,_,a3⟩,a4,a5⟩,kA_,q⟩;have oi:D!<=c:=by
  simp only[HN,JF,KW]at hc;obtain rfl|rfl|rfl|rfl|rfl:=hc<;>omega
 exact I1.fpOk oi (I1.hok.fresh oi)
def Lb:List D->List D->List D
 |x::xs,y::ys=>.tup [x,y]::Lb xs ys
 |_,_=>[]
def AQ(fa fb:e!):Ae->Option aR!:=λρ=>(fp!).bind λx=>(jU_).bind λy=>match x,y with|.tup xs,.tup ys=>some kB!|_,_=>none
def a5x:∀(xs ys:c!) (n:Nat) (d:D),kB![n]?=some d->∃x y,xs[n]?=some x/\ys[n]?=some y/\d=.tup [x,y]
 |[],_,n,d,h=>by simp[Lb]at h
 |_::_,[],n,d,h=>by simp[Lb]at h
 |x::xs,y::ys,0,d,h=>by
  simp[Lb]at h;exact⟨x,y,rfl,rfl,h.symm⟩
 |x::xs,y::ys,n+1,d,h=>by
  obtain⟨u,v,Y,L,h3⟩:=a5x xs ys n d (by simpa[Lb]using h);exact⟨u,v,id_,by simpa using L,h3⟩
def a5w:∀(xs ys:c!),l_<=(kB!).length\/ac_<=(kB!).length
 |[],ys=>.inl ck!
 |_::_,[]=>.inr ck!
 |x::xs,y::ys=>by
  obtain h|h:=a5w xs ys
  .left;simp[Lb];exact h
  .right;simp[Lb];exact h
def c5t{K:yQ!}{G1:Hp}{es:c!}(qa:Ge K G1 x vs)(qb:Ge K G1 y ws)(ra:Am K G1 ds vs)(rb:Am K G1 es ws):Ze K (DX K x y) (Lb ds es) G1:=by
 intro n G' H' s1 s2;have kg:Ge K H' x vs:=cD s2 (cD s1 qa);have uf:Ge K H' y ws:=cD s2 (cD s1 qb);refine⟨ep_,λhn=>⟨vs,ws,kg,uf,?_⟩⟩
 .obtain⟨u,v,Y,L,rfl⟩:=a5x ds es n d hd;obtain⟨v1,g1,r1⟩:=iS ra Y;obtain⟨v2,g2,r2⟩:=iS rb L;refine⟨⟨vs,ws,v1,v2,kg,uf,g1,g2⟩,λx' ic hy=>?_⟩;obtain⟨T,rfl,hT,hh⟩:=hy;obtain⟨x1,y1,e1,e2,rfl⟩:=hh vs ws kg uf;rw[g1]at e1;rw[g2]at e2;cases e1;cases e2;exact⟨_,Co.laid s2 hT,fZ (s2.free hT) (Am.cons (r1.mono s1) (Am.cons (r2.mono s1) Am.nil))⟩
 .rw[hn,<-aL ra,<-aL rb];exact a5w ds es
def d0n(hg:Gl X "zip")(hm:ys_)(hv:yt!)(ha:Z_)(hb:cG_)(hs:yt_:=by rfl)
  (bq:starEach [b] X.env=iK_::starEach [] X.env:=by rfl)(a7:yu!:=by rfl):DI X own fA! yu_ (AQ fa fb):=
 a9a (c4v hg hm hv (dZ ha.ok (dZ hb.ok gP bq) hs) hs a7) λZ G H R ρ ds er e k=>by
  obtain⟨x,e1,e⟩:=HJ.mp e;obtain⟨y,e2,e⟩:=HJ.mp e;cases x with
  |tup xs=>
   cases y with
   |tup ys=>
    cases e;refine yv!;obtain⟨p,vs,rfl,q,rr⟩:=bS hb_;obtain⟨p',ws,rfl,q',b7⟩:=bS r2;exact⟨p,p',vs,ws,rfl,cD s2.sub q,cD s2.sub q',k _ G2 H2 dp! (c5t q q' rr b7)⟩
   |_=>cases e
  |_=>cases e
end
def Eh:D->D->Option D:=Dy Uh λi j=>.int (i*j)
def sQ{K:yQ!}:Ij K mP! Eh:=c9k
def By:D->D->Option D:=Dy wU_ λi j=>.int (i%j)
def eQ{K:yQ!}:Ij K mQ_ By:=c9l
def Ck:D->D->Option D:=Dy wV! λi j=>.int (i / j)
def nV{K:yQ!}:Ij K mQ! Ck:=c5i
def Gk:D->D->Option D:=Dy wV_ λi j=>.int mS!
def c9g{K:yQ!}:Ij K mR_ Gk:=c9j
def Ka:D->D->Option D:=Ch λi j=>.bl mT!
def b4c{K:yQ!}:Ij K mT_ Ka:=d2t
def Mm:D->D->Option D:=Ch λi j=>.bl mV_
def c7n{K:yQ!}:Ij K mW! Mm:=d2v
def Oj:D->D->Option D:=Ch λi j=>.bl mW_
def d2s{K:yQ!}:Ij K mX! Oj:=d2w
section
variable{X:Cx}{own:List Nat}{pos p2:Pos}
def mI:Gw X mU! yv_:=d2o.or b6o
def Ko:D->D->Option D
 |.int i,.int j=>some (.bl mU_)
 |.str x,.str y=>some (.bl (Sc x y))
 |_,_=>none
def mJ{K:yQ!}:Ij K yv_ Ko:=by
 show"!0";unfold Ko at e;show"!6"
 .show"!^";exact .inl pn_
 .cases cI rx;cases cI ry;cases e;exact .inr pn_
 .cases e
def Lx:D->D->Option D
 |.int i,.int j=>some (.bl (!(i==j)))
 |.str x,.str y=>some (.bl (!(x==y)))
 |_,_=>none
def a0k{K:yQ!}:Ij K FX Lx:=by
 show"!0";unfold Lx at e;show"!6"
 .show"!^";refine j_;rw[b4z];show"!r"
 .cases cI rx;cases cI ry;cases e;refine j_;rw[b4y];show"!r"
 .cases e
def hX{x:Str}{i:Int}(hm:∃t,X.mg x=some dE!)(hg:Y!)(hd:F_:=by decide):DE X own ct_ (fC bw_):=by obtain⟨t,ht⟩:=hm;exact c6o hg ht hd
end
def bL{X:Cx}{scope sc:Scope}(h:X.env.scope=sc)(hd:∀y∈ca_,y.2=.free->(sc.names.lookup y.1=some .cell\/sc.names.lookup y.1=some .free)):
  ∀y∈ca_,y.2=.free->v6!:=λy hy hf=>by
 unfold Env.kindOf;rw[h];exact hd y hy hf
section
variable{X:Cx}{own:List Nat}{a b c:Expr}{pos p2:Pos}{fa fb fc:Ae->Option D}
def c2n{op fm:CmpOp}{r r':R2}{g g':bd!}(ho:b6!)(hg:ej!)(fh:iS!)(ub:Ij X.K r' g')(ha:Z_)(hb:cG_)(hc:DE X own c fc)
  (hm:iS_:=by with_unfolding_all rfl):DT X own iT! (fT xB!):=
 yO (b9h ho fh ha.ok hb.ok hc.ok hm) λZ G H Q ρ d er e k=>by
  have e:=lA e;obtain⟨x,e1,e⟩:=HJ.mp e;obtain⟨y,e2,e⟩:=HJ.mp e;obtain⟨z,e3,e⟩:=HJ.mp e;refine xB_;have nz:=s1.trans hc!;cases z with
  |bl bb=>
   cases dA r3;refine xC!;cases bb with
   |true=>
    obtain⟨u,e4,e⟩:=HJ.mp e;refine nA ⟨G3,ρ,u,er.grow nz,e4,λq G4 H4 s4 r4=>ub s4.sub xC_ r4 e λv G5 H5 s5 r5=>?_⟩;cases dA r5;exact⟨d,rfl,k G5 H5 xD!⟩
   |false=>
    cases e;exact nB ⟨false,rfl,k G3 H3 nz⟩
  |_=>cases e
def b7m{x:Str}{bp:aU_}(hd:Ur X x bp)(hg:Y!)(ha:Z_)(hm:behindInMarks .NotIn dp_=false:=by rfl)(bg:F_:=by decide):DT X own (.Compare a [.NotIn] [cI!] pos) (fT (Yw bp true fa)):=by
 show"#E";refine yO (t:=λZ H Q=>tD X.K own fa Z H λv H1=>∃y,v=.str y/\Q (!(Nz kvs es_).isSome) H1) xE_ λZ G H Q ρ d er e k=>?_
 .refine QW (dL xF! λv s1 ⟨y,H1,I1,r1,z,hz,q1⟩=>kR I1 hg j6 ?_ bg) hm;subst hz;refine wpAny_notIn_of (knd:=xG!) (k:=o8_) xF_ VE (zh _ I1.kIn).mapOf ?_;rw[<-(zi.val o7_).isSome_eq];exact JM ⟨H1,I1.tok _,q1⟩
 .have e:=lA e;obtain⟨x,e1,e⟩:=HJ.mp e;cases x with
  |str y=>
   cases e;refine fs!;cases cI r1;refine⟨y,rfl,?_⟩;have hb:(Nz kvs es_).isSome=(o7!).isSome:=by
    cases ht:bp.lookup y with
    |none=>rw[(hn y).mpr ht];rfl
    |some d=>obtain⟨v,hv,_⟩:=hs y d ht;rw[hv];rfl
   rw[hb];exact k G1 H1 s1
  |_=>cases e
end
def eG:bootBuiltins "len"=some s8!:=by decide+kernel
def d1e:bootBuiltins "abs"=some s2_:=by decide+kernel
def d1b:bootBuiltins "ord"=some s4_:=by decide+kernel
def b2l:bootBuiltins "all"=some w6_:=by decide+kernel
def dC:bootBuiltins "isinstance"=some oJ_:=by decide+kernel
def d1d:bootBuiltins "int"=some bT_:=by decide+kernel
def c6x:bootBuiltins "bool"=some bU!:=by decide+kernel
def b2k:bootBuiltins "str"=some bU_:=by decide+kernel
def rR:bootBuiltins "tuple"=some bV!:=by decide+kernel
def a5q:bootBuiltins "list"=some d6!:=by decide+kernel
def d1a:bootBuiltins "zip"=some pg_:=by decide+kernel
def Ff(K:yQ!)(mg:z!)(x:Str)(st:Stmt)(ps:q!):Prop:=∃ae fd,Xv K x x st ae fd/\Fc K fd ps []/\mg x=some bT!
def Cj(N:q!)(n:Nat)(q:aT_)(ds:c!):Option D:=if h!=n then(match q hp_ with|some (.rt d)=>some d|some (.nx _)=>some .non|none=>none)else none
def eL{K:yQ!}{mg:z!}{st:Stmt}{ps:q!}{k:Nat}{hx:k_}{q:aT_}(h:yy_)(S:d9!)
  (hb:∀{ae:xT!} {ag:yB!} {A:yn!} {outer:aw_} {s:yP!} {H:Hp} {E:XK},Al k pp!->Xw (pp_).nox [] hx bQ! q):
  Ok P w K mg base V! x ps (Cj N ps.length q):=by
 obtain⟨ae,fd,F,B,m⟩:=h;refine⟨ae,fd,d0p F S (λag A outer s H E hr=>hb hr) (λds d hl e=>?_),B,m,F.kp⟩;unfold Cj at e;rw[IB hl]at e;show"!6"
 .cases e;left;assumption
 .cases e;right;exact⟨_,by assumption,rfl⟩
 .cases e
def CJ:Const->Option D
 |.int i=>some bw_
 |.str i=>some jO_
 |.bool i=>some (.bl i)
 |.none=>some .non
 |_=>none
mutual
noncomputable def Ve:Nat->Expr->Option D
 |0,_=>none
 |n+1,e=>match e with
  |.Constant c _ _=>CJ c
  |.Tuple es _ _=>(pq!).bind λds=>if h!<=1000 then some dm! else none
  |.List es _=>(pq!).bind λds=>if h!<=1000 then some cd_ else none
  |_=>none
noncomputable def Vd:Nat->List Expr->Option aR!
 |0,_=>none
 |n+1,[]=>some []
 |n+1,e::es=>(Ve n e).bind λd=>(pq!).bind λds=>some ee!
end
section
variable{X:Cx}{own:List Nat}
def c1i{n:Nat}(h:Ve n e=some d):starEach aN_ X.env=e5!::starEach es X.env:=by
 cases n with
 |zero=>unfold Ve at h;cases h
 |succ n=>
  cases e<;>first|rfl|(simp[Ve]at h;done)
mutual
theorem fE:∀{n:Nat} {e:Expr} {d:D},Ve n e=some d->DE X own e (fC d)
 |0,e,d,h=>by unfold Ve at h;cases h
 |n+1,e,d,h=>by
  unfold Ve at h;split at h
  .unfold CJ at h;split at h
   .cases h;exact aD
   .cases h;exact aS
   .cases h;exact eE
   .cases h;exact dI
   .cases h
  .obtain⟨ds,e1,e2⟩:=HJ.mp h;split at e2
   .rename_i hl;cases e2;refine eX (cO (b2d e1)).ok λZ G H Q ρ d er e k=>?_;show"#G"
   .cases e2
  .obtain⟨ds,e1,e2⟩:=HJ.mp h;split at e2
   .rename_i hl;cases e2;refine eX (lH (b2d e1)).ok λZ G H Q ρ d er e k=>?_;show"#G"
   .cases e2
  .cases h
theorem b2d:∀{n:Nat} {es:bJ_} {ds:c!},Vd n es=some ds->DA X own es (λ_=>some ds)
 |0,e,d,h=>by unfold Vd at h;cases h
 |n+1,[],d,h=>by
  unfold Vd at h;cases h;exact aJ
 |n+1,e::es,d,h=>by
  unfold Vd at h;obtain⟨d1,e1,h⟩:=HJ.mp h;obtain⟨ds,e2,h⟩:=HJ.mp h;cases h;exact c2y (aE (fE e1) (b2d e2) (c1i e1)).ok λZ G H Q ρ d er e k=>⟨G,ρ,_,er,e,k⟩
end
end
section
variable{P:yO!}{w:yC!}{K:yQ!}{mg:Str->Option Value}{h:Heap}
def aU{st:Stmt}{ps:q!}{od an:a7_}{eh:b7!}{kV:yB!}(X:fB!)(G:fB_)
  (a:yD_)(l:yE_)
  (c:yF!)(k:gY!)
  (b:yF_):Ff K mg x st ps:=
 ⟨f,_,kE!,pq_,pr!⟩
def AY(K:yQ!)(mg:z!)(x:Str)(st:Stmt)(ps:q!):Prop:=∃ae fd,Xv K x x st ae fd/\(∀us:List Value,av_=V_->bindArgs fd db_=pure da_)/\mg x=some bT!
def c6k{st:Stmt}{ps:q!}{od an:a7_}{eh:b7!}{kV:yB!}(X:fB!)(G:fB_)
  (a:yD_)(l:yE_)
  (c:yF!)(k:gY!)
  (b:yF_):AY K mg x st ps:=
 ⟨f,_,kE!,b _ _ _ _ _ _,pr!⟩
def rE{i:Int}(X:fB!)(G:fB_)(a:W.nsIn K mainGlobals x=some (some (.int i tk))):∃tk,mg x=some (.int i tk):=⟨tk,pr!⟩
def fH(X:fB!)(G:fB_)(e:W.nsIn K mainGlobals x=some (some af_)):mg x=some af_:=W.mg_of X G e
def dU(X:fB!)(G:fB_)(e:W.nsIn K mainGlobals x=some none):mg x=none:=W.mg_none_of X G e
def a1b{K:yQ!}{H:Hp}:∀(ns:w_),Am K H ps! b8!
 |[]=>Am.nil
 |n::r=>Am.cons Ax.int (a1b r)
abbrev Um:=Str×Tok×Addr
def AC(w:yC!)(r:Um):DictEntry:=⟨PyData.keyHash w.params r.1,.str r.1 r.2.1,.ref r.2.2⟩
def Vh(K:yQ!):List Um->List ci_->Prop
 |[],[]=>True
 |r::rs,t::ts=>r.1=t.1/\(∀H,Ax K H t.2 (V.ref r.2.2))/\Vh K rs ts
 |_,_=>False
abbrev Vv(rows:fC!):List (L2.Key×V):=rows.map λr=>(Sum.inr r.1,V.ref r.2.2)
abbrev Tu(rows:fC!):List xE!:=rows.map λr=>(Sum.inr r.1,Value.ref r.2.2)
def wS{P:yO!}:∀(rows:fC!),Pairs bt_ yH! ps_
 |[]=>.nil
 |r::rs=>.cons (mQ P w r.1 r.2.1) rfl (wS rs)
def sI:∀{rows:fC!} {bp:aU_},Vh K rows bp->(Nz pt! es_=none↔bp.lookup y=none)/\∀d,bp.lookup y=some d->∃v,Nz pt! es_=some v/\∀H,Ax K H d v
 |[],[],_=>⟨⟨e3_,e3_⟩,λd e=>by cases e⟩
 |[],t::ts,h=>h.elim
 |r::rs,[],h=>h.elim
 |r::rs,(x,d0)::ts,h=>by
  obtain⟨Y,L,h3⟩:=h;have ih:=sI (y:=y) h3;have kh:r.1=x:=Y;unfold Nz at ih ⊢;simp only[IA,LQ,JR];by_cases e:y=x
  .subst e;have:decide yI_=true:=by simp[kh]
   simp only[this,LF];refine⟨⟨yJ!,yJ!⟩,λd z=>?_⟩;cases z;exact⟨_,rfl,L⟩
  .have e1:decide yI_=false:=by
    rw[kh];exact IF λz=>e (yJ_).symm
   have e2:(y==x)=false:=by simp[e]
   simp only[e1,e2];exact ih
def b4n:∀(rows:fC!),KV pt! ps_
 |[]=>.nil
 |r::rs=>.cons bi_ (b4n rs)
def c2e{X:Cx}{x:Str}{ad:xT!}{rows:fC!}{bp:aU_}{ep:Nat}(hw:X.w=w)(hK:X.K=K)(j6:X.mg=mg)(hm:mg x=some ko!)(hs:o6_=false)(hl:K.lookup ad=some {cls:=.type "dict",data:=.dict (yH!).toArray ep})
  (nd:fC_)(ht:Vh K rows bp):Ur X x bp:=by
 subst hw hK j6;refine⟨ad,Vv rows,Tu rows,hm,hs,λh hK=>⟨_,_,_,hK _ _ hl,yK!,rfl,?_,?_,?_⟩,b4n rows,λy=>(sI ht).1,λy d=>(sI ht).2 d⟩
 .intro e he;have cp:e∈rows.map (AC X.w):=by simpa using he
  obtain⟨r,hr,rfl⟩:=IH.mp cp;exact⟨Sum.inr r.1,mQ _ _ r.1 r.2.1,rfl⟩
 .simpa using wS (w:=X.w) (P:=X.prog) rows
 .have e:(ps_).map c_=(kF!).map (Sum.inr:Str->L2.Key):=by simp[Tu]
  rw[e];exact List.Pairwise.map _ (λa b lm z=>lm yJ_) nd
def a6t{H:Hp}:∀(fs:aw!),Am K H (fs.map D.fn) yL!
 |[]=>Am.nil
 |n::r=>Am.cons (by unfold Ax;rfl) (a6t r)
def zU:∀(fs:aw!),Bc yL! yL_
 |[]=>.nil
 |n::r=>.cons rfl (zU r)
def gY{fs:aw!}{od:a7_}{n:Nat}{sl:b7!}(l:K.lookup a=some ⟨cM_,od,.seq (yL_).toArray n,sl⟩)(hz:bu!<=1000)(H:Hp):Ax K H (.tup (fs.map D.fn)) fl!:=
 Ax.tup (.inr ⟨_,_,n,l,rfl,rfl,by simpa using gJ hz,by simpa using zU fs⟩) (a6t fs)
end
abbrev MK:=Option (Sum L2.Key (List L2.Key))
abbrev CH:Int:=0xFCA86420
section
variable{P:yO!}{w:yC!}{A:yn!}{E:Value->Shared->Prop}{s:yP!}
variable (P w)in
def Kn(h:Heap):MK->Value->Prop
 |none,v=>v=.none
 |some (.inl k),v=>Rl k v=true
 |some (.inr ks),v=>∃a,v=.ref a/\IsTupleKey bt_ h ks a
variable (P w)in
nonrec def mkHash:MK->Int
 |none=>CH
 |some (.inl k)=>CK w k
 |some (.inr ks)=>tupleKeyHash bt_ ks
def a7s(J:Kn P w h x v)(hy:Kn P w h y v):x=y:=by
 obtain _|x|x:=x<;>obtain _|y|y:=y
 .rfl
 .cases yO_;obtain⟨i,t,_,e⟩|⟨i,t,_,e⟩:=bQ hy<;>exact nomatch e
 .cases yO_;obtain⟨a,e,_⟩:=hy;exact nomatch e
 .cases hB_;obtain⟨i,t,_,e⟩|⟨i,t,_,e⟩:=bQ J<;>exact nomatch e
 .rw[(bt_).inj v x y J hy]
 .obtain⟨a,rfl,_⟩:=hy;obtain⟨i,t,_,e⟩|⟨i,t,_,e⟩:=bQ J<;>exact nomatch e
 .cases hB_;obtain⟨a,e,_⟩:=J;exact nomatch e
 .obtain⟨a,rfl,_⟩:=J;obtain⟨i,t,_,e⟩|⟨i,t,_,e⟩:=bQ hy<;>exact nomatch e
 .obtain⟨a,rfl,J⟩:=J;obtain⟨b,e,hy⟩:=hy;cases e;rw[J.inj hy]
def kG{h:Heap}{ks:px!}(x:IsTupleKey bt_ h ks a):∃its,h.IsTuple a its:=by obtain⟨o,its,n,Y,L,h3,_⟩:=x;exact⟨its,o,Y,L,n,h3⟩
def c0y{Q:eu_}(hu:as_)(J:px_)(hy:Kn P w s.heap y v)(h:Q (decide (x=y)) s):wpAny G_ A (eqBool u v) Q E s:=by
 obtain _|x|x:=x<;>obtain _|y|y:=y
 .cases hC!;cases hB_;rw[fD!]at h;exact SeqAt.EqAt.same _ _ _ _ _ h
 .cases hC!;rw[fD_]at h;obtain⟨i,t,rfl,rfl⟩|⟨i,t,rfl,rfl⟩:=bQ hy
  .exact SeqAt.EqAt.none_int i t _ _ _ _ h
  .exact SeqAt.EqAt.none_str i t _ _ _ _ h
 .cases hC!;rw[fD_]at h;obtain⟨a,rfl,q⟩:=hy;obtain⟨its,q⟩:=kG q;exact SeqAt.EqAt.none_tuple q hu _ _ _ _ h
 .cases hB_;rw[fD_]at h;obtain⟨i,t,rfl,rfl⟩|⟨i,t,rfl,rfl⟩:=bQ J
  .exact SeqAt.EqAt.int_none i t _ _ _ _ h
  .exact SeqAt.EqAt.str_none i t _ _ _ _ h
 .refine(bt_).eqBool J hy ?_;by_cases e:x=y
  .subst e;rw[fD!]at h ⊢;exact h
  .rw[IF cV_]at h;rw[IF e];exact h
 .rw[fD_]at h;obtain⟨a,rfl,q⟩:=hy;obtain⟨its,q⟩:=kG q;obtain⟨i,t,rfl,rfl⟩|⟨i,t,rfl,rfl⟩:=bQ J
  .exact SeqAt.EqAt.int_tuple i t q hu _ _ _ _ h
  .exact SeqAt.EqAt.str_tuple i t q hu _ _ _ _ h
 .cases hB_;rw[fD_]at h;show"#2";obtain⟨its,q⟩:=kG q;exact SeqAt.EqAt.tuple_none q hu _ _ _ _ h
 .rw[fD_]at h;obtain⟨a,rfl,q⟩:=J;obtain⟨its,q⟩:=kG q;obtain⟨i,t,rfl,rfl⟩|⟨i,t,rfl,rfl⟩:=bQ hy
  .exact SeqAt.EqAt.tuple_int i t q hu _ _ _ _ h
  .exact SeqAt.EqAt.tuple_str i t q hu _ _ _ _ h
 .show"#2";obtain⟨b,rfl,q2⟩:=hy;refine wpAny_eqBool_tuple hu q q2 ?_;by_cases e:x=y
  .subst e;rw[fD!]at h ⊢;exact h
  .rw[IF cV_]at h;rw[IF e];exact h
def a7r{Q:eu_}(J:px_)(h:Q true s):wpAny G_ A (eqIsQuiet 8 u) Q E s:=by
 obtain _|x|x:=x
 .cases hC!;rw[eqIsQuiet_byValue _ rfl];exact HK h
 .rw[eqIsQuiet_byValue _ ((bt_).byValue x u J)];exact HK h
 .show"#2";exact wpAny_eqIsQuiet_tuple q h
def vT{Q:Int->Shared->Prop}(hu:as_)(J:px_)(h:∀tk,Q (mkHash P w x) {s with toks:=tk}):wpAny G_ A (pyHash u) Q E s:=by
 obtain _|x|x:=x
 .cases hC!;unfold pyHash;have hv:[dE_].any Value.onHeap=false:=rfl;refine HI ?_;rw[cRoomFor,HQ (by rw[hv];exact IN)];refine HK ?_;have hT:s.TypeIs .none "NoneType":=rfl;refine HI yQ_;rw[HQ (show¬(some (Value.builtin "NoneType.__hash__")==some Value.none)=true by rw[beq_builtin_none];exact IN)];refine HI yQ_;show wpAny _ _ (callSpecialIfBoundUnlessNone? Value.none (Str.ofString "__hash__") _>>=_) _ _ _;refine HI (wpAny_callSpecialIfBoundUnlessNone?_slot hT NN (JO NN hT PySem.F.entry_NoneType_hash ?_ (PySem.F.args_NoneType_hash_1 _)));refine wpAny_ret_mkInt ?_;exact HK (h _)
 .exact(bt_).pyHash J (h _)
 .show"#2";exact wpAny_pyHash_tuple hu q (h _)
end
def Mx(ks:be!)(k:MK):Option Nat:=ks.findIdx? λx=>decide (x=k)
def Hr(ks:be!)(k:MK)(i:Nat):Bool:=decide (ks[i]?=some k)
def qY{ks:be!}{j:Nat}(h:yR!):ks[j]?=some k/\∀i,i<j->ks[i]?≠some k:=by obtain⟨Y,L,h3⟩:=List.findIdx?_eq_some_iff_getElem.mp h;refine⟨by rw[II Y];exact congrArg some (KL L),λi hi e=>?_⟩;have:=h3 i hi;obtain⟨q1,q2⟩:=IL.mp e;rw[q2]at this;simp at this
def a8g{ks:be!}(h:Mx ks k=none)(i:Nat):ks[i]?≠some k:=λe=>by
 have:=List.findIdx?_eq_none_iff.mp h k (NP e);simp at this
def b1y(ks:be!)(k:MK):(List.range kG!).find? du!=Mx ks k:=by
 cases h:Mx ks k with
 |none=>
  rw[List.find?_eq_none];intro i hi z;exact a8g h i (KL z)
 |some j=>
  obtain⟨Y,L⟩:=qY h;rw[List.find?_range_eq_some];refine⟨by unfold Hr;exact IV Y,NT.mpr (kd_).1,fE!⟩;unfold Hr;rw[IF (L i hi)];rfl
section
variable{P:yO!}{w:yC!}{A:yn!}{E:Value->Shared->Prop}{s:yP!}
variable (P w)in
structure Oy(h:Heap)(es:bO_)(ks:be!):Prop where
 len:es.size=kG!
 at_:∀(i:Nat) (e:DictEntry) (k:MK),es[i]?=some e->ks[i]?=some k->Kn P w h k e.key/\e.hash=mkHash P w k
 nd:hC_
def Oy.get{es:bO_}{ks:be!}(x:kG_){i:Nat}{e:DictEntry}(q:es[i]?=some e):∃k,ks[i]?=some k/\Kn P w h k e.key/\e.hash=mkHash P w k:=by
 have hl:i<kG!:=by rw[<-x.len];exact(OY.mp q).1
 exact⟨ks[i],II hl,x.at_ i e _ q (II hl)⟩
def Oy.one{es:bO_}{ks:be!}(x:kG_){i j:Nat}(Y:Hr ks k i=true)(L:Hr ks k j=true):i=j:=by have e1:=KL Y;have e2:=KL L;exact(List.getElem?_inj (IL.mp e1).1 x.nd).mp uH!
abbrev plc(es:bO_)(h:Int):List Nat:=placesWithHash es.size (λi=>es[i]?.map (·.hash)) h
def a8x{es:bO_}{ks:be!}(x:kG_)(k:MK):(kH!).find? du!=Mx ks k:=by
 unfold plc placesWithHash;rw[List.find?_filter,<-b1y,x.len];congr 1;funext i;cases hp:Hr ks k i with
 |false=>simp
 |true=>
  have e1:=KL hp;have hl:i<es.size:=by rw[x.len];exact(IL.mp e1).1
  obtain⟨k',q1,q2,q3⟩:=x.get (JH hl);rw[e1]at q1;cases q1;simp[JH hl,q3]
def b9m{es:bO_}{h:Int}{i:Nat}(hi:i∈plc es h):i<es.size:=by have:=(KP.mp hi).1;simpa using this
def c8t{es:bO_}{h:Int}:(plc es h).Nodup:=List.nodup_range.sublist OT
def a9x{o:Obj}{es:bO_}{ep:Nat}{ks:be!}{Q:yS!}(hu:as_)(x:yS_)(hk:ev!)
  (ho:yT!)(hd:yT_)(h:Q hD! s):wpAny G_ A yU! Q E s:=by
 show"!k";generalize plc es du_=az at hf hl ⊢;rw[<-hf]at h;unfold dictWalkPlain;refine HI (QO _ (λrest b s'=>s'=s/\b=fE_/\rest.find? du!=az.find? du!/\∀i∈rest,i<es.size) _ ?_ ?_ _ _ ⟨rfl,rfl,rfl,hl⟩)
 .rintro i rest b s' ⟨rfl,rfl,Y,L⟩;have am:=L i HP;have he:es[i]?=some es[i]:=JH am;obtain⟨k',q1,q2,q3⟩:=x.get he;have no:k'≠k->rest.find? du!=az.find? du!:=λce=>by
   rw[<-Y,LQ];have:Hr ks k i=false:=by unfold Hr;rw[q1];exact IF yU_
   rw[this]
  show"#*";rw[he];show"#?";split
  .refine HI pz!;rw[am_];by_cases l9:k'=k
   .subst l9;rw[fD!];have hi:Hr ks k' i=true:=by unfold Hr;exact IV q1
    have:az.find? (Hr ks k')=some i:=by rw[<-Y,LQ,hi]
    rw[this]at h;exact HI (LI (HK (HK h)))
   .rw[IF l9];exact HI (LI (HK ⟨rfl,rfl,no l9,rs⟩))
  .rename_i hh;exact HK ⟨rfl,rfl,no yV_,rs⟩
 .rintro b s' ⟨rfl,rfl,Y,_⟩;rw[<-Y]at h;exact HK h
def a6a{Q:eu_}(hk:ev!)(hl:∀v∈az,∃k',Kn P w s.heap k' v)(h:Q false s):wpAny G_ A (tableMayTell u az) Q E s:=by
 unfold tableMayTell;split
 .exact HK h
 .refine HI (a7r hk ?_);rw[am_];refine HI (QO _ (λrest r s'=>s'=s/\r=fE_/\∀v∈rest,v∈az) _ ?_ ?_ _ _ ⟨rfl,rfl,λ_ z=>z⟩)
  .rintro v rest r s' ⟨rfl,rfl,hr⟩;obtain⟨k',q⟩:=hl v (hr v HP);refine HI (a7r q ?_);rw[am_];exact HK ⟨rfl,rfl,λy hy=>hr y ea_⟩
  .rintro r s' ⟨rfl,rfl,_⟩;exact HK h
def c3q{ks:be!}{i:Nat}(q1:yX!)(e:k'=k):Hr ks k i=true:=by unfold Hr;rw[<-e];exact IV q1
def b5p{ks:be!}{i:Nat}{rest:k_}{be:pA_}(hc:(be=none/\(i::rest).find? du!=Mx ks k)\/∃j,be=some j/\Mx ks k=some j/\Hr ks k j=true/\j∉i::rest)(q1:yX!)(ce:¬k'=k):
  yX_\/∃j,be=some j/\Mx ks k=some j/\Hr ks k j=true/\j∉rest:=by
 obtain⟨e,Y⟩|⟨j,e,Y,h4,h5⟩:=hc
 .refine .inl gS_;rw[<-Y,LQ];have:Hr ks k i=false:=by unfold Hr;rw[q1];exact IF yU_
  rw[this]
 .exact .inr ⟨j,e,Y,h4,λz=>h5 (HL _ z)⟩
def tR{v:yB!}(q:Kn P w h k v):v.isStr z=decide (k=some hD_):=by
 by_cases e:k=some hD_
 .subst e;rw[fD!];obtain⟨i,t,e,_⟩|⟨i,t,e,rfl⟩:=bQ q
  .cases e
  .cases e;simp[Value.isStr]
 .rw[IF e];cases v<;>first|rfl|skip
  rename_i y t;simp only[Value.isStr,KH,ne_eq];rintro rfl;exact e (a7s q (tN y t))
def c2f{es:bO_}{ks:be!}(x:kG_)(z:Str):(es.findIdx? λe=>e.key.isStr z)=Mx ks (some hD_):=by
 cases hk:Mx ks (some hD_)with
 |none=>
  rw[Array.findIdx?_eq_none_iff];intro e he;obtain⟨i,hi⟩:=Array.mem_iff_getElem?.mp he;obtain⟨k',q1,q2,_⟩:=x.get hi;rw[tR q2];exact IF λ(e:k'=_)=>a8g hk i yY!
 |some j=>
  obtain⟨Y,L⟩:=qY hk;have hj:j<es.size:=by rw[x.len];exact(kd_).1
  rw[Array.findIdx?_eq_some_iff_getElem];refine⟨hj,?_,fE!⟩
  .obtain⟨k',q1,q2,_⟩:=x.get (JH hj);rw[tR q2];rw[Y]at q1;cases q1;exact IV rfl
  .obtain⟨k',q1,q2,_⟩:=x.get (JH (RJ hi hj));rw[tR q2,IF (λ(e:k'=_)=>L i hi yY!)];simp
def d2b{g:Prop}(h:∃T:Prop,(T->g)/\T):g:=let⟨_,f,k⟩:=h;f k
def rG{o:Obj}{es:bO_}{ep:Nat}{ks:be!}{Q:yS!}(hu:as_)(x:yS_)(hk:ev!)
  (ho:yT!)(hd:yT_)(h:Q hD! s):wpAny G_ A (dictFind d u du_) Q E s:=by
 have b8:∀v∈(kH!).filterMap (λi=>es[i]?.map kJ_),∃k',Kn P w s.heap k' v:=λv hv=>by
  obtain⟨i,_,e⟩:=MN.mp hv;obtain⟨e',e1,rfl⟩:=HU.mp e;obtain⟨k',_,q,_⟩:=x.get e1;exact⟨k',q⟩
 have ZW:¬(es.any λe=>e.key==u&&e.hash != mkHash P w k)=true:=λz=>by
  obtain⟨i,hi,z⟩:=Array.any_eq_true.mp z;rw[IZ,NE,bne_iff_ne]at z;obtain⟨k',_,q,q3⟩:=x.get (JH hi);rw[z.1]at q;exact z.2 (by rw[q3,a7s q hk])
 show"!k";have qi:(kH!).Nodup:=c8t;have a7:wpAny G_ A yU! Q E s:=a9x hu x hk ho hd h;unfold dictFind;refine JN (HI (LX ho hd ?_));refine d2b ?_;apply Exists.intro;apply And.intro
 .intro tl;have y8:(∃a,u=.ref a)\/(∃z t,u=.str z t/\k=some hD_)\/(u=.none\/∃i t,u=.int i t):=by
   clear tl;obtain _|k|k:=k
   .exact .inr (.inr (.inl hk))
   .obtain⟨i,t,rfl,rfl⟩|⟨i,t,rfl,rfl⟩:=bQ hk
    .exact .inr (.inr (.inr ⟨i,t,rfl⟩))
    .exact .inr (.inl ⟨i,t,rfl,rfl⟩)
   .obtain⟨a,rfl,_⟩:=hk;exact .inl ⟨a,rfl⟩
  obtain⟨a,ea⟩|⟨z,t,ea,VS⟩|ea|⟨i,t,ea⟩:=y8
  all_goals rw[ea]
  all_goals dsimp only
  rotate_left
  refine wpAny_ite_split (λg9=>?_) λ_=>?_
  .clear tl;unfold foundByValue;rw[c2f x z,<-VS];cases hj:Mx ks k with
   |none=>rw[hj]at h;exact HK h
   |some j=>
    obtain⟨Y,_⟩:=qY hj;have am:j<es.size:=by rw[x.len];exact(kd_).1
    obtain⟨k',q1,q2,_⟩:=x.get (JH am);rw[Y]at q1;cases q1;show"#?";rw[JH am,<-ea];refine HI pz!;rw[am_,fD!];rw[hj]at h;exact HI (LI (HK h))
  all_goals rw[<-ea]
  all_goals refine wpAny_ite_split (λ_=>a7) λ_=>?_
  rotate_right
  rw[HQ ZW]
  all_goals refine wpAny_ite_split (λ_=>HI ac!) λ_=>HI (a6a hk b8 ?_)
  all_goals rw[am_]
  all_goals exact tl
 refine HI (QO _ (λrest b s'=>s'=s/\∃be,b=(none,be)/\(∀i∈rest,i<es.size)/\rest.Nodup/\
  (yX_\/∃j,be=some j/\Mx ks k=some j/\Hr ks k j=true/\j∉rest)) _ ?_ ?_ _ _ ⟨rfl,none,rfl,hl,qi,.inl ⟨rfl,hf⟩⟩)
 rotate_left
 .rintro b s' ⟨rfl,be,rfl,_,_,hc⟩;obtain⟨rfl,Y⟩|⟨j,rfl,Y,_⟩:=hc
  .rw[<-Y]at h;exact HK h
  .rw[Y]at h;exact HK h
 .rintro i rest b s' ⟨rfl,be,rfl,L,h3,hc⟩;have am:=L i HP;have he:es[i]?=some es[i]:=JH am;obtain⟨k',q1,q2,q3⟩:=x.get he;obtain⟨n1,n2⟩:=IJ.mp h3;show"#*";have stay:=λce=>b5p hc q1 ce;rw[he];show"#?";split
  .refine HI pz!;rw[am_];by_cases l9:k'=k
   rotate_left
   .rw[IF l9];simp only[IW,JL,Bool.false_and];exact HI (LI (HK ⟨rfl,be,rfl,rs,n2,stay l9⟩))
   .have hi:=c3q q1 l9;rw[IV l9];obtain⟨rfl,Y⟩|⟨j,e,Y,h4,h5⟩:=hc
    .have hL:=Y;rw[LQ,hi]at hL;simp only[JT,Option.isSome_none,IW,JL];refine HI h3_;split
     .rw[<-hL]at h;exact HK (HK h)
     .exact HK ⟨rfl,K!,rfl,rs,n2,.inr ⟨i,rfl,hL.symm,hi,n1⟩⟩
    .exact absurd (x.one hi h4) λz=>h5 (z▸HP)
  .rename_i hh;exact HK ⟨rfl,be,rfl,rs,n2,stay yV_⟩
end
def Pi(h:Heap)(a:xT!)(es:ad_)(ep:Nat):Prop:=∃o,h.get? a=some o/\if_/\o.data=.dict es.toArray ep
def Pi.typeIs{s:yP!}{a:xT!}{es:ad_}{ep:Nat}(D:hG!):s.TypeIs af_ "dict":=let⟨o,ho,hc,_⟩:=D;⟨o,ho,hc.1⟩
def Yt(es:ad_)(j:pA_)(h:Int)(u v:yB!):List DictEntry:=match j with
 |some j=>es.modify j λe=>{e with val:=v}
 |none=>es++[⟨h,u,v⟩]
def Ys(j:pA_)(ep:Nat):Nat:=match j with
 |some _=>ep
 |none=>ep+1
section
variable{P:yO!}{w:yC!}{A:yn!}{E:Value->Shared->Prop}{s:yP!}{a:xT!}{es:List DictEntry}{ep:Nat}{ks:List MK}{k:MK}{u v:yB!}
def d3r{Q:fz_}(hu:as_)(D:hG!)(x:kK!)(hk:ev!)(h:∀tk,Q ((hD!).bind λj=>es[j]?.map (·.val)) {s with toks:=tk}):
  wpAny G_ A (dictGet a u) Q E s:=by
 obtain⟨o,ho,_,hd⟩:=D;unfold dictGet;refine JN pE!;have h:=h tk;cases hj:Mx ks k with
 |none=>rw[hj]at h;exact HK h
 |some j=>
  rw[hj]at h;refine HI (LX (s:=ex_) ho hd ac!);rw[LZ];exact h
def vZ{h:Heap}{f:Array DictEntry->Array DictEntry}{ay:ad_}{o:Obj}(ho:h.get? a=some o)(hc:if_)(hd:o.data=.dict es.toArray ep)(he:f es.toArray=ay.toArray):
  Pi (h.update a (Obj.mapDict f)) a ay ep/\Pi (h.update a (Obj.mapDictKeys f)) a ay bG_:=
 ⟨⟨_,NU _ ho (Obj.isFreed_of_dict (Obj.data_mapDict hd _)),hc.mapDict _,by rw[Obj.data_mapDict hd,he]⟩,⟨_,NU _ ho (Obj.isFreed_of_dict (Obj.data_mapDictKeys hd _)),hc.mapDictKeys _,by rw[Obj.data_mapDictKeys hd,he]⟩⟩
def d3q{Q:cZ!}(hu:as_)(D:hG!)(x:kK!)(hk:ev!)(hl:pF!)
  (h:∀h' tk,Pi h' a (Yt es hD! du_ u v) (Ys hD! ep)->Heap.SameBut a s.heap h'->Q () {s with heap:=h',toks:=tk}):wpAny G_ A y3_ Q E s:=by
 obtain⟨o,ho,hc,hd⟩:=D;unfold dictSet;refine JN (HI (vT hu hk λtk=>?_));unfold dictSetHashed;refine JN (HI y0_);cases hj:Mx ks k with
 |none=>
  rw[hj]at h;exact HI (LI (RD (s:=ex_) ho hd (h _ tk (y4_).2 et_) (hz:=kM!)))
 |some j=>
  rw[hj]at h;exact HI (LI (HI (wpAny_updateDict (s:=ex_) ho hd (wpAny_point (h _ tk (y4_).1 et_)))))
def rJ{Q:q_}(hu:as_)(D:hG!)(x:kK!)(hk:ev!)(hl:pF!)
  (Y:∀j e tk,Mx ks k=some j->es[j]?=some e->Q e.val {s with toks:=tk})
  (L:∀h' tk,Mx ks k=none->Pi h' a (es++[⟨mkHash P w k,u,v⟩]) bG_->Heap.SameBut a s.heap h'->Q v {s with heap:=h',toks:=tk}):wpAny G_ A (dictSetDefault a u v) Q E s:=by
 obtain⟨o,ho,hc,hd⟩:=D;unfold dictSetDefault;refine JN pE!;cases hj:Mx ks k with
 |none=>
  exact HI (LI (HI (RD (s:=ex_) ho hd (HK (L _ tk hj (vZ ho hc hd d!).2 et_)) (hz:=kM!))))
 |some j=>
  have am:j<ai_:=by
   have:=(IL.mp (qY hj).1).1;rw[<-x.len]at this;simpa using this
  refine HI y7_;rw[LZ,II am];exact HI (LI (HK (Y j _ tk hj (II am))))
def d0h{j:Nat}{e:DictEntry}{Q:Option DictEntry->Shared->Prop}(hu:as_)(D:hG!)(x:kK!)(hk:ev!)(hl:pF!)(hj:yR!)(he:es[j]?=some e)
  (h:∀h' tk,Pi h' a za! bG_->Heap.SameBut a s.heap h'->Q iA! {s with heap:=h',toks:=tk}):wpAny G_ A y9_ Q E s:=by
 obtain⟨o,ho,hc,hd⟩:=D;unfold Builtin.Dict.takeOut;refine JN pE!;rw[hj];refine HI y7_;rw[LZ,he];have am:j<ai_:=(IL.mp he).1;refine HI (RD (s:=ex_) ho hd (HK (h _ tk (vZ ho hc hd ?_).2 et_)) (hz:=kM!) (hf:=?_))
 .rw[Array.eraseIdxIfInBounds,dif_pos za_];simp
 .rw[Array.eraseIdxIfInBounds];split
  .rw[Array.size_eraseIdx];omega
  .omega
end
def Ly:List D->Option (List L2.Key)
 |[]=>some []
 |.int i::r=>(Ly r).map (Sum.inl i::·)
 |.str x::r=>(Ly r).map (Sum.inr x::·)
 |_::_=>none
def Db:D->Option MK
 |.non=>some none
 |.int i=>some (some (.inl (.inl i)))
 |.str x=>some (some (.inl (.inr x)))
 |.tup xs=>(Ly xs).map λks=>some (.inr ks)
 |_=>none
def a0y:∀{xs ys:c!} {ks:px!},Ly xs=some ks->Ly ys=some ks->xs=ys
 |[],ys,ks,h,h'=>by
  cases h;cases ys with
  |nil=>rfl
  |cons y r=>cases y<;>simp[Ly]at h'
 |x::xs,[],ks,h,h'=>by
  cases h';cases x<;>simp[Ly]at h
 |x::xs,y::ys,ks,h,h'=>by
  cases x<;>simp only[Ly]at h<;>first|(cases h;done)|skip
  all_goals (obtain⟨l,e1,rfl⟩:=HU.mp h)
  all_goals (cases y<;>simp only[Ly]at h'<;>first|(cases h';done)|skip)
  all_goals (obtain⟨l',e2,e3⟩:=HU.mp h')
  all_goals (injection e3 with e4 e5)
  all_goals first|(injection e4;done)|skip
  all_goals (injection e4 with e4;subst e4 e5;rw[a0y e1 e2])
def b4i(h:aC_)(h':cl!):x=y:=by
 cases x<;>simp only[Db]at h<;>first|(cases h;done)|skip
 all_goals (cases y<;>simp only[Db]at h'<;>first|(cases h';done)|skip)
 all_goals first
  |rfl
  |(cases h;cases h';rfl)
  |(cases h;cases h')
  |(cases h;obtain⟨l,e1,e2⟩:=HU.mp h';cases e2)
  |(cases h';obtain⟨l,e1,e2⟩:=HU.mp h;cases e2)
  |(obtain⟨l,e1,e2⟩:=HU.mp h;obtain⟨l',e3,e4⟩:=HU.mp h';cases e2;cases e4;rw[a0y e1 e3])
def Cw(K:yQ!)(G:Hp)(d:D)(u:yB!):Prop:=∃v,Ax K G d v/\Bu v u
def Cw.mono{K:yQ!}{G G':Hp}(e:kN!)(h:Cw K G d u):Cw K G' d u:=let⟨v,Y,L⟩:=h;⟨v,Y.mono e,L⟩
def a6r{K:yQ!}{G:Hp}:∀{ds:c!} {vs:n!} {ks:px!},Am K G ds vs->Ly ds=some ks->vs=ks.map kV
 |[],vs,ks,r,e=>by cases cS r;cases e;rfl
 |d::ds,vs,ks,r,e=>by
  obtain⟨v,t,rfl,r1,r2⟩:=bR r;cases d<;>simp only[Ly]at e<;>first|(cases e;done)|skip
  all_goals (obtain⟨l,e1,rfl⟩:=HU.mp e;rw[a6r r2 e1])
  .cases bG r1;rfl
  .cases cI r1;rfl
def sK{X:Cx}{h1:o!}{Z:St}{G H:Hp}{s:yP!}(I:d_)(sub:K_)(r:bX_)(e:bs!):Kn X.prog X.w s.heap k u:=by
 obtain⟨v,r,ru⟩:=r;cases d<;>simp only[Db]at e<;>first|(cases e;done)|skip
 .cases e;cases eH r;exact ru
 .cases e;cases bG r;obtain⟨t,rfl⟩:=ru;exact a0z _ _
 .cases e;cases cI r;obtain⟨t,rfl⟩:=ru;exact tN _ _
 .obtain⟨ks,e1,rfl⟩:=HU.mp e;obtain⟨a,vs,rfl,q,rr⟩:=bS r;cases ru;show"#1";rw[a6r rr e1]at rv;exact⟨a,rfl,o,bg_,n,Y,L,h3,by simpa using tQ rv⟩
open Classical in
nonrec def kget:List aD!->D->Option D
 |[],_=>none
 |(k,v)::r,d=>if k=d then some v else kget r d
open Classical in
def As:List aD!->D->D->List aD!
 |[],d,v=>[(d,v)]
 |(k,x)::r,d,v=>if k=d then(k,v)::r else(k,x)::As r d v
open Classical in
def Gu:List aD!->D->List aD!
 |[],_=>[]
 |(k,x)::r,d=>if k=d then r else(k,x)::Gu r d
section
variable{P:yO!}{w:yC!}{K:yQ!}{G G':Hp}
variable (P w K G)in
def CW(p:D×D)(e:DictEntry):Prop:=Cw K G p.1 e.key/\Cw K G p.2 e.val/\∃k,Db p.1=some k/\e.hash=mkHash P w k
variable (P w K G)in
def Hy(kvs:i!)(es:ad_):Prop:=Paired (CW P w K G) kvs es/\(fG_).Nodup
def Hy.mono{es:ad_}(e:kN!)(h:fH!):Hy P w K G' kvs es:=
 ⟨Paired.mapP h.1 λp q z=>⟨z.1.mono e,z.2.1.mono e,z.2.2⟩,h.2⟩
def Ja(kvs:i!):List MK:=kvs.map λp=>(Db p.1).getD none
def gN{α β:Type}{F:cX!}:∀{l:P_} {m:dH!} {i:Nat} {a:α},Paired F l m->l[i]?=some a->∃b,m[i]?=some b/\F a b
 |_,_,_,_,.nil,e=>by simp at e
 |_,_,0,_,.cons r _,e=>by simp at e;subst e;exact lN!
 |_,_,i+1,a,.cons _ t,e=>by
  obtain⟨b,Y,L⟩:=gN (i:=i) (a:=a) t cV_;exact⟨b,id_,L⟩
def jM{α β:Type}{F:cX!}:∀{l l':P_} {m m':dH!},Paired F l m->Paired F l' m'->Paired F (l++l') (m++m')
 |_,_,_,_,.nil,h=>h
 |_,_,_,_,.cons r t,h=>.cons r (jM t h)
def oN{α β:Type}{F:cX!}{f:α->α}{g:β->β}:∀{l:P_} {m:dH!} (j:Nat),Paired F l m->(∀a b,l[j]?=some a->m[j]?=some b->F a b->F (f a) (g b))->Paired F (l.modify j f) (m.modify j g)
 |_,_,j,.nil,_=>by simpa using Paired.nil
 |_,_,0,.cons r t,h=>.cons (h _ _ rfl rfl r) t
 |_,_,j+1,.cons r t,h=>.cons r (oN j t λa b e1 e2=>h a b (by simpa using e1) (by simpa using e2))
def qF{α β:Type}{F:cX!}:∀{l:P_} {m:dH!} (j:Nat),Paired F l m->Paired F (l.eraseIdx j) (m.eraseIdx j)
 |_,_,_,.nil=>.nil
 |_,_,0,.cons _ t=>t
 |_,_,j+1,.cons r t=>.cons r (qF j t)
def Hy.ents{X:Cx}{h1:o!}{Z:St}{H:Hp}{s:yP!}{es:ad_}(I:d_)(sub:K_)(h:Hy X.prog X.w X.K G kvs es):Oy X.prog X.w s.heap es.toArray fH_:=by
 obtain⟨Y,L⟩:=h;refine⟨by simp[Ja,MO Y],λi e k he hk=>?_,?_⟩
 .rw[LZ]at he;unfold Ja at hk;rw[JC]at hk;obtain⟨p,hp,rfl⟩:=HU.mp hk;obtain⟨e',cp,q1,_,k',q2,q3⟩:=gN Y hp;rw[he]at cp;cases cp;rw[q2];exact⟨sK I sub q1 q2,q3⟩
 .have kj:∀{l:i!} {m:ad_},Paired (CW X.prog X.w X.K G) l m->(ey_).Nodup->(Ja l).Nodup:=by
   intro l m hp
   induction hp with
   |nil=>intro _;exact NS
   |@cons p e l m q t ih=>
    intro nd;rw[IA,IJ]at nd;show(_::Ja l).Nodup;rw[IJ];refine⟨cl_,ih nd.2⟩;obtain⟨p',bx,e'⟩:=IH.mp z;obtain⟨_,_,k,hk,_⟩:=q;obtain⟨i,hi⟩:=MX.mp bx;obtain⟨_,_,_,_,k',cx,_⟩:=gN t hi;dsimp only at e';rw[hk,cx]at e';have:k'=k:=e';subst this;exact nd.1 (IH.mpr ⟨p',bx,b4i cx hk⟩)
  exact kj Y L
def Hy.look{kvs:i!}{es:ad_}(h:fH!)(hd:bs!):
  (Mx fH_ k=none/\kget kvs d=none/\(∀v,As kvs d v=kvs++[(d,v)])/\d∉kvs.map c_)\/∃j x e,Mx fH_ k=some j/\kvs[j]?=some dx!/\es[j]?=some e/\kget kvs d=some x/\Cw K G x e.val/\(∀v,As kvs d v=kvs.modify j λp=>(p.1,v))/\Gu kvs d=kvs.eraseIdx j:=by
 obtain⟨Y,L⟩:=h
 induction Y with
 |nil=>exact .inl ⟨rfl,rfl,e3_,H!⟩
 |@cons p e l m q t ih=>
  obtain⟨y,z⟩:=p;rw[IA,IJ]at L;obtain⟨_,q2,k',q3,_⟩:=q;have q3:Db y=some k':=q3;have oj:Ja ((y,z)::l)=k'::Ja l:=by unfold Ja;rw[IA,q3];rfl
  by_cases hy:y=d
  .subst hy;rw[hd]at q3;cases q3;refine .inr ⟨0,z,e,?_,rfl,rfl,by simp[kget],q2,λv=>by simp[As,List.modify],by simp[Gu]⟩;rw[oj];unfold Mx;rw[List.findIdx?_cons];simp
  .have ce:k'≠k:=λe=>hy (b4i q3 (e▸hd));have cx:Mx (Ja ((y,z)::l)) k=(Mx (Ja l) k).map (·+1):=by
    rw[oj];unfold Mx;rw[List.findIdx?_cons];simp[ce]
   obtain⟨i1,i2,i3,i4⟩|⟨j,x,e',i1,i2,i3,i4,i5,i6,i7⟩:=ih L.2
   .refine .inl ⟨ze_,by simp[kget,hy,i2],λv=>by simp[As,hy,i3 v],?_⟩;rw[IA,HN,OL];exact⟨λe=>hy e.symm,i4⟩
   .exact .inr ⟨j+1,x,e',ze_,by simpa using i2,by simpa using i3,by simp[kget,hy,i4],i5,λv=>by simp[As,hy,i6 v],by simp[Gu,hy,i7]⟩
def Hy.put{es:ad_}(h:fH!)(hd:bs!)(ru:Cw K G d u)(rv:Cw K G x v):Hy P w K G pJ_ (Yt es (Mx fH_ k) du_ u v):=by
 obtain⟨i1,i2,i3,i4⟩|⟨j,y,e',i1,i2,i3,i4,i5,i6,i7⟩:=h.look hd
 .rw[i1,i3];refine⟨jM h.1 (.cons ⟨ru,rv,k,hd,rfl⟩ .nil),?_⟩;rw[IU,IY];refine⟨h.2,H!,λa ha b hb e=>?_⟩;simp at hb;subst hb e;exact i4 ha
 .rw[i1,i6];refine⟨oN j h.1 λa b _ _ q=>⟨q.1,rv,q.2.2⟩,?_⟩;have:∀(l:i!) (j:Nat),(l.modify j λp=>(p.1,x)).map c_=l.map c_:=by
   intro l
   induction l with
   |nil=>intro j;simp
   |cons p l ih=>
    intro j;cases j with
    |zero=>simp
    |succ j=>simp[ih j]
  rw[this];exact h.2
def Hy.del{kvs:i!}{es:ad_}{j:Nat}(h:fH!):Hy P w K G (kvs.eraseIdx j) za!:=by refine⟨qF j h.1,?_⟩;exact h.2.sublist ((List.eraseIdx_sublist kvs j).map _)
end
inductive Pj where
 |lst (xs:c!)|dct (kvs:i!) (ep:Nat)|obj (C:xT!) (fs:aU_)
abbrev Mh:=Addr->Option Pj
def Be(M:Mh)(a:xT!)(c:Pj):Mh:=λb=>if b=a then some c else M b
def mup_same{M:Mh}{a:xT!}{c:Pj}:Be M a c a=some c:=by unfold Be;rw[n_]
def mup_ne{M:Mh}{a b:xT!}{c:Pj}(h:b≠a):Be M a c b=M b:=by unfold Be;rw[HQ h]
nonrec def dE(a:xT!)(es:ad_)(ep:Nat):HO:=.ext λh=>Pi h a es ep/\dG_=false/\ai_<=big
def Ox(K:yQ!)(G:Hp):List ci_->List dG!->Prop:=Paired λp q=>p.1=q.1/\Ax K G p.2 q.2
section
variable(P:yO!)(w:yC!)(K:yQ!)
def Hi(G H:Hp)(a:xT!):Pj->Prop
 |.lst xs=>∃vs,H a=some dm_/\Am K G xs vs
 |.dct kvs ep=>∃es,H a=some kP_/\Hy P w K G kvs es
 |.obj C fs=>∃dx vs,H a=some zg!/\Ox K G fs vs
structure MR(M:Mh)(G H:Hp):Prop where
 cell:∀a c,M a=some c->G a=none/\Hi P w K G H a c
end
structure XM(M:Mh)(G H:Hp)(M':Mh)(G' H':Hp):Prop where
 g:Bk G G'
 sub:Bk G' H'
 new:∀b,G' b≠none->G b≠none\/H b=none
 keep:∀b o,H b=some o->M b=none->H' b=some o
 dom:∀b,M' b≠none->M b≠none\/H b=none
 cells:∀b,M b≠none->M' b≠none
def XM.refl{M:Mh}{G H:Hp}(s:K_):XM M G H M G H:=⟨fm!,s,ee_,λ_ _ h _=>h,ee_,λ_ h=>h⟩
def XM.free{M M':Mh}{G H G' H':Hp}{b:xT!}(x:kQ!)(hM:M b=none)(h:H' b=none):H b=none:=by
 cases e:H b with
 |none=>rfl
 |some o=>rw[x.keep b o e hM]at h;cases h
section
variable{P:yO!}{w:yC!}{K:yQ!}{M M1 M2:Mh}{G H G' H' G1 H1 G2 H2:Hp}
def Ox.mono{fs:aU_}{vs:eK!}(e:kN!)(h:Ox K G fs vs):Ox K G' fs vs:=Paired.mapP h λ_ _ z=>⟨z.1,z.2.mono e⟩
def Hi.mono{a:xT!}{c:Pj}(e:kN!)(h:zi!)(hH:H' a=H a):Hi P w K G' H' a c:=by
 cases c with
 |lst xs=>obtain⟨vs,Y,L⟩:=h;exact⟨vs,pL!,L.mono e⟩
 |dct kvs ep=>obtain⟨es,Y,L⟩:=h;exact⟨es,pL!,L.mono e⟩
 |obj C fs=>obtain⟨dx,vs,Y,L⟩:=h;exact⟨dx,vs,pL!,L.mono e⟩
def Hi.has{a:xT!}{c:Pj}(h:zi!):H a≠none:=by
 cases c with
 |lst xs=>obtain⟨vs,Y,L⟩:=h;rw[Y];simp
 |dct kvs ep=>obtain⟨es,Y,L⟩:=h;rw[Y];simp
 |obj C fs=>obtain⟨dx,vs,Y,L⟩:=h;rw[Y];simp
def MR.has(m:cm!){c:xT!}(h:M c≠none):H c≠none:=by
 cases e:M c with
 |none=>exact absurd e h
 |some q=>exact(m.cell c q e).2.has
def XM.trans(a:XM M G H M1 G1 H1)(b:XM M1 G1 H1 M2 G2 H2)(m:zj!):XM M G H M2 G2 H2 where
 g:=a.g.trans b.g
 sub:=b.sub
 new:=λc h=>by
  obtain z|z:=b.new c h
  .exact a.new c z
  .cases hM:M c with
   |none=>exact .inr (a.free hM z)
   |some q=>exact absurd z (m.has (a.cells c zj_))
 keep:=λc o h hM=>by
  refine b.keep c o (a.keep c o h hM) ?_;cases e:M1 c with
  |none=>rfl
  |some q=>
   rcases a.dom c pM_ with z|z
   .exact absurd hM z
   .rw[h]at z;cases z
 dom:=λc h=>by
  obtain z|z:=b.dom c h
  .exact a.dom c z
  .cases hM:M c with
   |none=>exact .inr (a.free hM z)
   |some q=>exact .inl d!
 cells:=λc h=>b.cells c (a.cells c h)
def XM.ext(x:jQ!):XM M G H M G' H':=⟨x.g,x.sub,x.new,λb o h _=>x.h b o h,ee_,λ_ h=>h⟩
def MR.ext(m:cm!)(x:jQ!):MR P w K M G' H':=⟨λa c e=>by
 obtain⟨Y,L⟩:=m.cell a c e;have hn:H a≠none:=L.has;refine zk_
 .cases q:G' a with
  |none=>rfl
  |some o=>
   rcases x.new a b9_ with z|z
   .exact absurd Y z
   .exact absurd z hn
 .cases q:H a with
  |none=>exact absurd q hn
  |some o=>exact x.h a o q⟩
end
structure Tl(P:yO!)(w:yC!)(K:yQ!)(own:k_)(G H:Hp)(Z:St)(ρ:Ae)(M:Mh):Prop where
 or:OR K own G H Z ρ
 mr:MR P w K M G H
 dj:∀i∈own,∀p,Z[i]?=some ce_->M p=none
section
variable{P:yO!}{w:yC!}{K:yQ!}{own:List Nat}{M M' M1 M2:Mh}{G H G' H' G1 H1 G2 H2:Hp}{Z:St}{ρ:Ae}
def OR.growM(h:cf!)(x:kQ!)(dj:∀i∈own,∀p,Z[i]?=some ce_->M p=none):OR K own G' H' Z ρ where
 sub:=x.sub
 len:=h.len
 at_:=λi d q n=>let⟨v,Y,L⟩:=h.at_ i d q n;wl!
 own_:=λi hi=>by
  obtain⟨p,ds,vs,Y,L,h3,h4,h5⟩:=h.own_ i hi;refine⟨p,ds,vs,Y,L,x.keep _ _ h3 (dj i hi p L),?_,h5.mono x.g⟩;cases q:G' p with
  |none=>rfl
  |some o=>
   rcases x.new p b9_ with z|z
   .exact absurd h4 z
   .rw[h3]at z;cases z
 dis:=h.dis
def Tl.grow(s:hK!)(x:kQ!)(m:zl_):Tl P w K own G' H' Z ρ M':=
 ⟨s.or.growM x s.dj,m,λi hi p e=>by
  cases q:M' p with
  |none=>rfl
  |some c=>
   obtain⟨p',ds,vs,Y,L,h3,h4,h5⟩:=s.or.own_ i hi;rw[e]at L;cases L;rcases x.dom p b9_ with z|z
   .exact absurd (s.dj i hi p e) z
   .rw[h3]at z;cases z⟩
end
abbrev WE:=Ae->Mh->zn!->Prop
abbrev WA:=Ae->Mh->zm_->Prop
abbrev WT:=Ae->Mh->(Bool->Mh->Prop)->Prop
section
variable(P:yO!)(w:yC!)(K:yQ!)(own:List Nat)
inductive BG(f:WE)(Z:St)(H:Hp)(Q:VK):Prop
 |mk (G:Hp) (ρ:Ae) (M:Mh) (R:s_) (st:hK!) (e:hL_) (k:∀d M' v G' H',R d M'->XM M G H M' G' H'->MR P w K M' G' H'->Ax K G' d v->Q v H'):BG f Z H Q
inductive FT(f:WA)(Z:St)(H:Hp)(Q:c0_):Prop
 |mk (G:Hp) (ρ:Ae) (M:Mh) (R:kS!) (st:hK!) (e:hL_) (k:∀d M' v G' H',R d M'->XM M G H M' G' H'->MR P w K M' G' H'->Am K G' d v->Q v H'):FT f Z H Q
inductive Zh(f:WT)(Z:St)(H:Hp)(Q:dK!):Prop
 |mk (G:Hp) (ρ:Ae) (M:Mh) (R:fJ_) (st:hK!) (e:hL_) (k:∀d M' G' H',R d M'->XM M G H M' G' H'->MR P w K M' G' H'->Q d H'):Zh f Z H Q
end
structure ME(X:Cx)(own:k_)(e:Expr)(f:WE):Prop where
 ok:PE X e (BG X.prog X.w X.K own f)
structure MA(X:Cx)(own:k_)(es:bJ_)(f:WA):Prop where
 ok:PA X es (FT X.prog X.w X.K own f)
structure MT(X:Cx)(own:k_)(e:Expr)(f:WT):Prop where
 ok:PT X e zn_
structure MW(X:Cx)(own:k_)(e:Expr)(f:WT):Prop where
 ok:PW X e zn_
nonrec def wl(f:e!):WE:=λρ M R=>match f ρ with|some d=>R d M|none=>False
def Dd(f:ah!):WT:=λρ M R=>match f ρ with|some d=>R d M|none=>False
section
variable{X:Cx}{own:List Nat}{e a b c:Expr}{es rest:List Expr}{pos:Pos}{f fa fb fc:WE}{fs:WA}{ft fu:WT}{g:Ae->Option D}{gs:Ae->Option (List D)}{gt:Ae->Option Bool}
def fB{t:TE}(h:iv_)(hw:∀Z G H Q ρ M R,Tl X.prog X.w X.K own G H Z ρ M->f ρ M R->(∀d M' v G' H',R d M'->XM M G H M' G' H'->MR X.prog X.w X.K M' G' H'->Ax X.K G' d v->Q v H')->t Z H Q):ME X own e f:=
 zo!
def c7t{t:TA}(h:gF!)(hw:∀Z G H Q ρ M R,Tl X.prog X.w X.K own G H Z ρ M->fs ρ M R->(∀d M' v G' H',R d M'->XM M G H M' G' H'->MR X.prog X.w X.K M' G' H'->Am X.K G' d v->Q v H')->t Z H Q):MA X own es fs:=
 ⟨λp h1 s Z H Q I ⟨G,ρ,M,R,st,e,k⟩=>h p h1 s Z H Q I pN_⟩
def b4g{t:TT}(h:PT X e t)(hw:zo_):MT X own e ft:=
 zo!
def c7p{t:TT}(h:PW X e t)(hw:zo_):MW X own e ft:=
 ⟨λwh h1 s Z H Q I ⟨G,ρ,M,R,st,e,k⟩=>h wh h1 s Z H Q I pN_⟩
def c3n{ρ:Ae}{M:Mh}{R:s_}(h:wl g ρ M R):∃d,g ρ=some d/\R d M:=by
 unfold wl at h;split at h
 .exact zp_
 .exact h.elim
def b7y{ρ:Ae}{M:Mh}{R:fJ_}(h:Dd gt ρ M R):∃d,gt ρ=some d/\R d M:=by
 unfold Dd at h;split at h
 .exact zp_
 .exact h.elim
def aB(h:DE X own e g):ME X own e (wl g):=fB h.ok λZ G H Q ρ M R st e' k=>by
 obtain⟨d,e1,e2⟩:=c3n e';exact⟨G,ρ,d,st.or,e1,λv G' H' x r=>k d M v G' H' e2 (.ext x) pP! r⟩
def fA(h:DT X own e gt):MT X own e (Dd gt):=b4g h.ok λZ G H Q ρ M R st e' k=>by
 obtain⟨d,e1,e2⟩:=b7y e';exact⟨G,ρ,d,st.or,e1,λG' H' x=>k d M G' H' e2 (.ext x) pP!⟩
def Af:WA:=λ_ M R=>R [] M
def Ab(f:WE)(fs:WA):WA:=λρ M R=>f ρ M λd M1=>fs ρ M1 λds M2=>R ee! M2
def aI:MA X own [] Af:=c7t gP λZ G H Q ρ M R st e k=>k [] M [] G H e pP_ st.mr Am.nil
def aC(h:bY!)(hs:hM_)(b8:ay_:=by rfl):MA X own aN_ (Ab f fs):=
 c7t wI_ λZ G H Q ρ M R st e' k=>⟨G,ρ,M,_,st,e',λd M1 v G1 H1 r1 x1 m1 q1=>⟨G1,ρ,M1,_,st.grow x1 m1,r1,λds M2 vs G2 H2 r2 x2 m2 q2=>
  k _ M2 _ G2 H2 r2 cO_ m2 (Am.cons cm_ q2)⟩⟩
def Yb(P:yO!)(w:yC!)(K:yQ!)(r:R2)(g:bf!):Prop:=∀{x y:V} {dx dy d:D} {M:Mh} {G H:Hp} {Q:VK},Bk G H->MR P w K M G H->Ax K G dx x->Ax K G dy y->g M dx dy=some d->jV!->r x y H Q
def Ij.m{P:yO!}{w:yC!}{K:yQ!}{r:R2}{g:bd!}(h:Ij K r g):Yb P w K r (λ_=>g):=λs _ rx ry e k=>h s rx ry e k
nonrec def w2(g:bf!)(fa fb:WE):WE:=λρ M R=>fa ρ M λx M1=>fb ρ M1 λy M2=>match g M2 x y with|some d=>R d M2|none=>False
def c3s{r:R2}{gm:bf!}(hg:hN!){Z:St}{G H:Hp}{Q:VK}{ρ:Ae}{M:Mh}{R:s_}(st:zq!)(e:w2 gm fa fb ρ M R)
  (k:∀d M' v G' H',R d M'->XM M G H M' G' H'->MR X.prog X.w X.K M' G' H'->Ax X.K G' d v->Q v H'):BD r (BG X.prog X.w X.K own fa) (BG X.prog X.w X.K own fb) Z H Q:=
 ⟨G,ρ,M,_,st,e,λx M1 u G1 H1 r1 x1 m1 q1=>⟨G1,ρ,M1,_,st.grow x1 m1,r1,λy M2 v G2 H2 r2 x2 m2 q2=>by
  have r2:(match gm M2 x y with|some d=>R d M2|none=>False):=r2;split at r2
  .rename_i d hd;exact hg x2.sub m2 cm_ q2 hd λz G3 H3 x3 q3=>k d M2 z G3 H3 r2 ((cO_).trans (.ext x3) m2) (m2.ext x3) q3
  .exact r2.elim⟩⟩
def uK{op:Operator}{r:R2}{gm:bf!}(ho:mM_)(hg:hN!)(ha:aD_)(hb:cP!):ME X own mN! kT!:=
 fB sq_ λZ G H Q ρ M R st e k=>c3s hg st e k
def jP{op:CmpOp}{r:R2}{gm:bf!}(ho:b6!)(hg:hN!)(ha:aD_)(hb:cP!)(hm:dL!):ME X own dL_ kT!:=
 fB wu_ λZ G H Q ρ M R st e k=>c3s hg st e k
def bX{r:R2}{gm:bf!}(hr:Wq X r)(hg:hN!)(ha:aD_)(hb:cP!)(hs:Qh b):ME X own nF_ kT!:=
 fB wv! λZ G H Q ρ M R st e k=>c3s hg st e k
nonrec def wT(f:WE):WT:=λρ M R=>f ρ M λd M1=>match d with|.bl b=>R b M1|_=>False
def cU{op:CmpOp}{r:R2}{gm:bf!}(ho:b6!)(hg:hN!)(ha:aD_)(hb:cP!)(hm:dL!):MT X own dL_ (wT kT!):=
 b4g wv_ λZ G H Q ρ M R st e k=>c3s (own:=own) (Q:=ww!) hg st e λd M' v G' H' r' x' m' q'=>by
  cases d<;>first|exact r'.elim|skip
  cases dA q';exact zq_
def eZ(h:bY!)(he:iw!:=by intro _;rfl):MT X own e (wT f):=
 b4g (b9e h.ok he) λZ G H Q ρ M R st e k=>⟨G,ρ,M,_,st,e,λd M' v G' H' r' x' m' q'=>by
  cases d<;>first|exact r'.elim|skip
  cases dA q';exact zq_⟩
def Hb(ft fu:WT):WT:=λρ M R=>ft ρ M λb M1=>if b then fu ρ M1 R else R false M1
def Ux(ft fu:WT):WT:=λρ M R=>ft ρ M λb M1=>if b then R true M1 else fu ρ M1 R
def Iu(ft:WT):WT:=λρ M R=>ft ρ M λb M1=>R (!b) M1
def kN(h:hN_):MW X own mm! ft:=wz!
def xJ(h:hN_):MW X own mm_ ft:=wz_
def pH(ha:hN_)(hb:MW X own eP! fu):MW X own eP_ (Hb ft fu):=
 c7p wA_ λZ G H Q ρ M R st e k=>⟨G,ρ,M,_,st,e,λx M1 G1 H1 r1 x1 m1=>by
  cases x with
  |true=>exact nA zr!
  |false=>exact nB zr_⟩
def a7q(ha:hN_)(hb:MW X own eQ! fu):MW X own eQ_ (Ux ft fu):=
 c7p wC! λZ G H Q ρ M R st e k=>⟨G,ρ,M,_,st,e,λx M1 G1 H1 r1 x1 m1=>by
  cases x with
  |false=>exact nB zr!
  |true=>exact nA zr_⟩
def vJ(h:MW X own e ft):MT X own e ft:=⟨h.ok.pt⟩
def kO(h:hN_):MT X own eR_ (Iu ft):=
 b4g (b9g h.ok) λZ G H Q ρ M R st e k=>⟨G,ρ,M,_,st,e,λx M1 G1 H1 r1 x1 m1=>k _ M1 G1 H1 r1 x1 m1⟩
def Jt(fa fb:WE):WE:=λρ M R=>wT fa ρ M λb M1=>if b then fb ρ M1 R else R Q! M1
def Wg(fa fb:WE):WE:=λρ M R=>wT fa ρ M λb M1=>if b then R z_ M1 else fb ρ M1 R
def Ww(fa:WE):WE:=λρ M R=>wT fa ρ M λb M1=>R (.bl (!b)) M1
def tJ{op:BoolOp}(h:aD_):ME X own mn_ fa:=wD!
def xQ(ha:aD_)(hb:ME X own eP! fb):ME X own eP_ (Jt fa fb):=
 fB wD_ λZ G H Q ρ M R st e k=>⟨G,ρ,M,_,st,e,λd M1 v G1 H1 r1 x1 m1 q1=>by
  cases d<;>first|exact r1.elim|skip
  rename_i x;cases dA q1;refine jX_;cases x with
  |true=>exact nA kU!
  |false=>exact nB zs_⟩
def c7s(ha:aD_)(hb:ME X own eQ! fb):ME X own eQ_ (Wg fa fb):=
 fB wG! λZ G H Q ρ M R st e k=>⟨G,ρ,M,_,st,e,λd M1 v G1 H1 r1 x1 m1 q1=>by
  cases d<;>first|exact r1.elim|skip
  rename_i x;cases dA q1;refine jX_;cases x with
  |false=>exact nB kU!
  |true=>exact nA zs_⟩
def c9p(ha:aD_):ME X own eR_ (Ww fa):=
 fB (b9y ha.ok) λZ G H Q ρ M R st e k=>⟨G,ρ,M,_,st,e,λd M1 v G1 H1 r1 x1 m1 q1=>by
  cases d<;>first|exact r1.elim|skip
  cases dA q1;exact⟨_,rfl,k _ M1 _ G1 H1 r1 x1 m1 Ax.bl⟩⟩
def Yf(ft:WT)(fa fb:WE):WE:=λρ M R=>ft ρ M λb M1=>if b then fa ρ M1 R else fb ρ M1 R
def c1a(hc:pQ!)(ha:aD_)(hb:cP!):ME X own mq! (Yf ft fa fb):=
 fB wH_ λZ G H Q ρ M R st e k=>⟨G,ρ,M,_,st,e,λx M1 G1 H1 r1 x1 m1=>by
  cases x with
  |true=>exact nA kU!
  |false=>exact nB kU!⟩
def Ru(fs:WA):WE:=λρ M R=>fs ρ M λds M1=>h!<=1000/\R dm! M1
def Ye(fs:WA):WE:=λρ M R=>fs ρ M λds M1=>h!<=1000/\R cd_ M1
def a3q{n:Nat}(h:hM_):ME X own (.Tuple es n pos) (Ru fs):=
 fB (b9t h.ok) λZ G H Q ρ M R st e k=>⟨G,ρ,M,_,st,e,λds M1 vs G1 H1 r1 x1 m1 q1=>⟨by rw[<-aL q1];exact gJ r1.1,λp hp=>
  k _ M1 _ _ _ r1.2 zt! (m1.ext pQ_) (fZ zu! q1)⟩⟩
def c9q(h:hM_):ME X own i3! (Ye fs):=
 fB jZ_ λZ G H Q ρ M R st e k=>⟨G,ρ,M,_,st,e,λds M1 vs G1 H1 r1 x1 m1 q1=>⟨by rw[<-aL q1];exact gJ r1.1,λp hp=>
  k _ M1 _ _ _ r1.2 zt! (m1.ext pQ_) (dQ zu! q1)⟩⟩
end
section
variable{P:yO!}{w:yC!}{K:yQ!}{M:Mh}{G H:Hp}{p a:xT!}{o:HO}{c c0:Pj}
def MR.nocell(m:cm!)(h:cE_):M p=none:=by
 cases e:M p with
 |none=>rfl
 |some q=>exact absurd h (m.has pM_)
def XM.laid(s:K_)(hp:cE_):XM M G H (Be M p c) G fl_:=by
 show"#-";refine⟨fm!,λb u e=>by rw[bD (ne (s b u e))];exact s b u e,dr!,λb u e _=>by rw[bD (ne e)];exact e,bo_,bo_⟩
 .by_cases hb:b=p
  .subst hb;exact .inr hp
  .rw[bs_]at h;exact .inl h
 .by_cases hb:b=p
  .subst hb;rw[mup_same];simp
  .rw[bs_];exact h
def MR.laid(m:cm!)(hp:cE_)(s:K_)(h:Hi P w K G fl_ p c):MR P w K (Be M p c) G fl_:=⟨λb q e=>by
 by_cases hb:b=p
 .show"#'";exact⟨s.free hp,h⟩
 .rw[bs_]at e;obtain⟨Y,L⟩:=m.cell b q e;exact zu_⟩
def XM.write(m:cm!)(s:K_)(ha:M a=some c0):XM M G H (Be M a c) G cX_:=by
 have hG:=(m.cell a c0 ha).1;refine⟨fm!,λb u e=>by rw[bD (cN e hG)];exact s b u e,dr!,λb u e hb=>?_,bo_,bo_⟩
 .have:b≠a:=λz=>by subst z;rw[ha]at hb;cases hb
  rw[bD this];exact e
 .show"#6"
  .subst hb;exact .inl (by rw[ha];simp)
  .rw[bs_]at h;exact .inl h
 .show"#6"
  .subst hb;rw[mup_same];simp
  .rw[bs_];exact h
def MR.write(m:cm!)(ha:M a=some c0)(h:Hi P w K G cX_ a c):MR P w K (Be M a c) G cX_:=⟨λb q e=>by
 show"#6"
 .show"#'";exact⟨(m.cell _ c0 ha).1,h⟩
 .rw[bs_]at e;obtain⟨Y,L⟩:=m.cell b q e;exact zu_⟩
end
open Classical in
def Gs(kvs:i!)(d:D)(ep:Nat):Nat:=if(dy!).isSome then ep else ep+1
def GH(K:yQ!)(G:Hp):Option D->Option Value->Prop
 |some d,some u=>Cw K G d u
 |none,none=>True
 |_,_=>False
section
variable{X:Cx}{h1:List (Addr×Obj)}{Z:St}{G H:Hp}{s:yP!}{M:Mh}{a:xT!}{kvs:List (D×D)}{ep:Nat}{A:yn!}{E:Value->Shared->Prop}{d x:D}{k:MK}{u v:yB!}
def eM(I:d_)(m:bY_)(sub:K_)(e:cn!):∃es,H a=some kP_/\Hy X.prog X.w X.K G kvs es/\Pi s.heap a es ep/\dG_=false/\ai_<=big/\Oy X.prog X.w s.heap es.toArray fH_:=by obtain⟨es,Y,L⟩:=(m.cell a _ e).2;obtain⟨⟨h3,h4,h5⟩,_⟩:=(show Fg X.prog X.w H s.heap a kP_ from I.hok a _ Y);exact⟨es,Y,L,h3,h4,h5,L.ents I sub⟩
def a5i{t':Nat}{es ay:ad_}{bd:Nat}(I:d_)(e:H a=some kP_)(D':Pi h' a ay bd)(hs:vq!)(hn:dG_=false)(hl:ay.length<=big):Inv X h1 Z (upd H a (dE a ay bd)) {s with heap:=h',toks:=t'}:=by refine c6r I tu! hs (let⟨o,h,_⟩:=D';pR_) ⟨⟨D',hn,hl⟩,let⟨o,h,_⟩:=D';pR_,zv!⟩;obtain⟨⟨o,z1,z2,z3⟩,z4⟩:=z;exact pS!
def a5k{Q:fz_}(hu:as_)(I:d_)(m:bY_)(sub:K_)(e:cn!)(r:bX_)(hk:bs!)
  (h:∀o s',Inv X h1 Z H s'->GH X.K G dy! o->Q o s'):wpAny e_ A (dictGet a u) Q E s:=by
 obtain⟨es,Y,L,h3,h4,h5,h6⟩:=eM I m sub e;refine d3r hu h3 h6 hO_ λtk=>h _ _ m9_ ?_;obtain⟨i1,i2,i3,i4⟩|⟨j,y,e',i1,i2,i3,i4,i5,i6,i7⟩:=L.look hk
 .rw[i1,i2];exact i0!
 .rw[i1,i4];show GH X.K G (some y) (es[j]?.map (·.val));rw[i3];exact i5
def kput_len:∀(l:i!) (d x:D),(As l d x).length<=au_+1
 |[],_,_=>by simp[As]
 |(y,z)::l,d,x=>by
  unfold As;split
  .simp
  .have:=kput_len l d x;simp only[IE];omega
def c2z{Q:cZ!}(hu:as_)(I:d_)(m:bY_)(sub:K_)(e:cn!)(r:bX_)(hk:bs!)(rv:kU_)(hl:dy_)
  (h:zw!):wpAny e_ A y3_ Q E s:=by
 obtain⟨es,Y,L,h3,h4,h5,h6⟩:=eM I m sub e;have ap:=MO L.1;refine d3q hu h3 h6 hO_ fK! λh' tk D' hs=>?_;have om:=L.put (x:=x) hk r rv;have w9:Ys (Mx fH_ k) ep=Gs kvs d ep:=by
  unfold Gs;obtain⟨i1,i2,i3,i4⟩|⟨j,y,e',i1,i2,i3,i4,i5,i6,i7⟩:=L.look hk
  .rw[i1,i2];simp[Ys]
  .rw[i1,i4];simp[Ys]
 rw[w9]at D';have qj:=MO om.1;have:=kput_len kvs d x;exact h _ _ (a5i I Y D' hs h4 a!) ⟨_,cC,om⟩
def b2f{Q:q_}(hu:ez!)(I:d_)(m:bY_)(sub:K_)(e:cn!)(r:bX_)(hk:bs!)(J:zw_)
  (h:∀o s',Inv X h1 Z H s'->Cw X.K G x o->Q o s'):wpAny e_ A (getItem af_ u) Q E s:=by
 obtain⟨es,Y,L,h3,h4,h5,h6⟩:=eM I m sub e;have hT:=fK_;unfold getItem;refine JN (HI (wpAny_sequenceKey hT b_ (HI (JY (name:=ut!) hT PySem.slot_dict_getitem (JO PySem.slot_dict_getitem hT PySem.entry_dict_getitem ?_ (PySem.args_dict_getitem _ _))))));show wpAny e_ A.in1 kV_ _ _ s;refine HI kW!;rw[J]at ho;cases o with
 |none=>exact ho.elim
 |some o=>exact HK ⟨o,rfl,HK (h o s' I' ho)⟩
def uY{Q:eu_}(hu:ez!)(I:d_)(m:bY_)(sub:K_)(e:cn!)(r:bX_)(hk:bs!)
  (h:∀s',Inv X h1 Z H s'->Q (dy!).isSome s'):wpAny e_ A (contains af_ u) Q E s:=by
 obtain⟨es,Y,L,h3,h4,h5,h6⟩:=eM I m sub e;have hT:=fK_;unfold contains;refine JN (HI (PN hT PP.lookup ?_));rw[HQ (by rw[beq_builtin_none];exact IN)];refine HI (wpAny_callSpecialUnlessNone?_slot (name:=Str.ofString "__contains__") hT PP (JO PP hT PySem.entry_dict_contains ?_ (PySem.args_dict_contains _ _)));show wpAny e_ A.in1 kV_ _ _ s;refine HI kW!;cases o with
 |none=>
  have hn:kget kvs d=none:=by
   cases q:kget kvs d with
   |none=>rfl
   |some y=>rw[q]at ho;exact ho.elim
  have h:=h s' I';rw[hn]at h;exact HI (wpAny_pendingKey_other h4 (HK zy!))
 |some o=>
  have hn:(dy!).isSome=true:=by
   cases q:kget kvs d with
   |none=>rw[q]at ho;exact ho.elim
   |some y=>rfl
  have h:=h s' I';rw[hn]at h;exact HK zy!
def b2e{Q:cZ!}(hu:ez!)(I:d_)(m:bY_)(sub:K_)(e:cn!)(r:bX_)(hk:bs!)(rv:kU_)(hl:dy_)
  (h:zw!):wpAny e_ A (setItem af_ u v) Q E s:=by
 obtain⟨es,Y,L,h3,h4,h5,h6⟩:=eM I m sub e;have hT:=fK_;unfold setItem;refine JN (HI (wpAny_sequenceKey hT b_ (HI (JY (name:=Str.ofString "__setitem__") hT PySem.slot_dict_setitem (JO PySem.slot_dict_setitem hT PySem.entry_dict_setitem ?_ (PySem.args_dict_setitem _ _ _))))));refine HI (OO hT ?_);show wpAny e_ A.in1 (dictSet a u v>>=_) _ _ s;exact HI (c2z (A:=A.in1) hu I m sub e r hk rv hl λay s' I' c'=>HK ⟨.none,rfl,HK (h ay s' I' c')⟩)
def c6t{Q:q_}(hu:ez!)(I:d_)(m:bY_)(sub:K_)(e:cn!)(r:bX_)(hk:bs!)
  (h:∀o s',Inv X h1 Z H s'->Cw X.K G ((dy!).getD .non) o->Q o s'):wpAny e_ A (call zy_ [d0_,u]) Q E s:=by
 obtain⟨es,Y,L,h3,h4,h5,h6⟩:=eM I m sub e;refine JO OI h3.typeIs PySem.F.entry_dict_get ?_ (PySem.F.args_dict_get_2 _ _);show wpAny e_ A.in1 kV_ _ _ s;refine HI kW!;cases q:kget kvs d with
 |none=>
  rw[q]at ho;cases o with
  |none=>
   have h:=h .none s' I';rw[q]at h;exact HI (wpAny_missed_other h4 (HK ⟨.none,rfl,h ⟨V.non,Ax.non,rfl⟩⟩))
  |some o=>exact ho.elim
 |some y=>
  rw[q]at ho;cases o with
  |none=>exact ho.elim
  |some o=>
   have h:=h o s' I';rw[q]at h;exact HK zz!
def c6s{Q:q_}(hu:ez!)(I:d_)(m:bY_)(sub:K_)(e:cn!)(r:bX_)(hk:bs!)(rv:kU_)
  (h:∀o s',Inv X h1 Z H s'->Cw X.K G ((dy!).getD x) o->Q o s'):wpAny e_ A (call zy_ [d0_,u,v]) Q E s:=by
 obtain⟨es,Y,L,h3,h4,h5,h6⟩:=eM I m sub e;refine JO OI h3.typeIs PySem.F.entry_dict_get ?_ (PySem.F.args_dict_get_3 _ _ _);show wpAny e_ A.in1 kV_ _ _ s;refine HI kW!;cases q:kget kvs d with
 |none=>
  rw[q]at ho;cases o with
  |none=>
   have h:=h v s' I';rw[q]at h;exact HI (wpAny_missed_other h4 (HK ⟨v,rfl,h rv⟩))
  |some o=>exact ho.elim
 |some y=>
  rw[q]at ho;cases o with
  |none=>exact ho.elim
  |some o=>
   have h:=h o s' I';rw[q]at h;exact HK zz!
def zR{Q:q_}(hu:ez!)(I:d_)(m:bY_)(sub:K_)(e:cn!)(r:bX_)(hk:bs!)(rv:kU_)(hl:dy_)
  (hs:∀y o s',kget kvs d=some y->Inv X h1 Z H s'->Cw X.K G y o->Q o s')
  (hn:kget kvs d=none->∀ay s',Inv X h1 Z kW_ s'->Hi X.prog X.w X.K G kW_ a (.dct pJ_ bG_)->Q v s'):wpAny e_ A (call (.builtin "dict.setdefault") [d0_,u,v]) Q E s:=by
 obtain⟨es,Y,L,h3,h4,h5,h6⟩:=eM I m sub e;have ap:=MO L.1;have hT:=fK_;refine JO RN hT PySem.F.entry_dict_setdefault ?_ (PySem.F.args_dict_setdefault_3 _ _ _);unfold Builtin.«dict.setdefault» zz_;refine HI pS_;dsimp only;rw[HQ (by rw[h4];exact IN)];obtain⟨i1,i2,i3,i4⟩|⟨j,y,e',i1,i2,i3,i4,i5,i6,i7⟩:=L.look hk
 .refine HI (rJ (A:=A.in1) hu h3 h6 hO_ fK! (λj e tk q=>by rw[i1]at q;cases q) λh' tk _ D' b6=>HK ⟨_,rfl,hn i2 _ _ zA! ⟨_,cC,?_⟩⟩)
  .rw[IG,KZ];omega
  .have:=L.put (x:=x) hk r rv;rw[i1]at this;exact this
 .exact HI (rJ (A:=A.in1) hu h3 h6 hO_ fK! (λj' e tk q q2=>by
   rw[i1]at q;cases q;rw[i3]at q2;cases q2;exact HK ⟨_,rfl,hs y _ _ i4 m9_ i5⟩) λh' tk q=>by rw[i1]at q;cases q)
def d0t{Q:q_}(hu:ez!)(I:d_)(m:bY_)(sub:K_)(e:cn!)(r:bX_)(hk:bs!)(J:zw_)
  (h:∀ay o s',Inv X h1 Z kW_ s'->Hi X.prog X.w X.K G kW_ a (.dct (Gu kvs d) bG_)->Cw X.K G x o->Q o s'):wpAny e_ A (call (.builtin "dict.pop") [d0_,u]) Q E s:=by
 obtain⟨es,Y,L,h3,h4,h5,h6⟩:=eM I m sub e;have hT:=fK_;obtain⟨i1,i2,i3,i4⟩|⟨j,y,e',i1,i2,i3,i4,i5,i6,i7⟩:=L.look hk
 .rw[i2]at J;cases J
 .rw[i4]at J;cases J;refine JO PySem.F.slot_dict_pop hT PySem.F.entry_dict_pop ?_ (PySem.F.args_dict_pop_2 _ _);unfold Builtin.«dict.pop» zz_;refine HI pS_;dsimp only;have fin:wpAny e_ A.in1 y9_ (λar s'=>∃e o,ar=some e/\e.val=o/\Q o s') E s:=by
   refine d0h (A:=A.in1) hu h3 h6 hO_ fK! i1 i3 λh' tk D' b6=>⟨e',_,rfl,rfl,h _ _ _ zA! ⟨_,cC,?_⟩ i5⟩
   .exact JB (List.length_eraseIdx_le _ _) h5
   .rw[i7];exact L.del
  obtain⟨o,ho,_,hd⟩:=id h3;have ce:es.toArray.isEmpty=false:=by
   cases es with
   |nil=>simp at i3
   |cons _ _=>rfl
  by_cases hp:(keyPart u).isSome=true
  .rw[IB hp];refine HI ac!;rw[HQ IN];refine HI zC!;subst q1 q2;exact HI zC_
  .rw[HQ hp];refine HI (LX ho hd (HI ac!));rw[ce,HQ IN];refine HI zC!;subst q1 q2;exact HI zC_
end
section
variable{X:Cx}{h1:List (Addr×Obj)}{Z:St}{H:Hp}{s:yP!}
def a6v{ds es:c!}{A:yn!}(I:d_)(qa:kg_)(qb:Ge X.K H b ws)(rd:hq!)(re:hq_)(hu:as_)
  (h:kj!):SeqAt.RcNeAt A s af_ d3_ (!Jf ds es):=by
 obtain⟨us,rv,p1,_⟩:=I.tuple qa;obtain⟨us',ak,p2,_⟩:=I.tuple qb;have Y:=aL rd;have L:=aL re;have h3:=gp!;have h4:=kj_;have z:=SeqAt.RcNeAt.tuples (A:=A) (e:=kk!) p1 p2 hu kk_;have e:xy!=Jf ds es:=by
  show"#/"
  .rw[hl,Nat.min_self,<-hl,kl!,hl];simp
  .rw[kl_];have:(h!==ai_)=false:=by simpa using hl
   rw[this,QQ]
 rw[e]at z;exact z
def b0s{ds es:c!}{A:yn!}(I:d_)(qa:o4!)(qb:Fx X.K H b ws)(rd:hq!)(re:hq_)(hu:as_)
  (h:kj!):SeqAt.RcNeAt A s af_ d3_ (!Jf ds es):=by
 show"!A";have h4:=kj_;by_cases hl:h!=ai_
 .have z:=SeqAt.RcNeAt.lists (A:=A) (e:=kk!) p1.isList p2.isList oz! hu kk_;rw[HS,<-h3,<-Y,kl!]at z;exact z
 .rw[kl_];exact SeqAt.RcNeAt.lists_lengths p1.isList p2.isList xy_ hu
def b8u(I:d_){A:yn!}(n:cL!)(n':fv!)(hu:as_)(r:eq_)(r':hr!)(ru:bw!)(av:hr_)(hT:∀xs ys,d=.tup xs->d'=.tup ys->SeqAt.RcNeAt A s u u' kX_)(hL:∀xs ys,d=.lst xs->d'=.lst ys->SeqAt.RcNeAt A s u u' kX_):SeqAt.RcNeAt A s u u' kX_:=by
 show"!`"
 all_goals first|exact hT _ _ rfl rfl|exact hL _ _ rfl rfl|(unfold En;(try simp only[PM,LH]);with_reducible first|exact .none_none|exact .same _|exact .none_bool _|exact .none_int _ _|exact .none_str _ _|exact .none_tuple ‹_› hu|exact .none_list ‹_› hu|exact .bool_none _|exact .bool_bool _ _|exact .bool_int _ _ _|exact .bool_str _ _ _|exact .bool_tuple _ ‹_› hu|exact .bool_list _ ‹_› hu|exact .int_none _ _|exact .int_bool _ _ _|exact .int_int _ _ _ _|exact .int_str _ _ _ _|exact .int_tuple _ _ ‹_› hu|exact .int_list _ _ ‹_› hu|exact .str_none _ _|exact .str_bool _ _ _|exact .str_int _ _ _ _|exact .str_str _ _ _ _|exact .str_tuple _ _ ‹_› hu|exact .str_list _ _ ‹_› hu|exact .tuple_none ‹_› hu|exact .tuple_bool _ ‹_› hu|exact .tuple_int _ _ ‹_› hu|exact .tuple_str _ _ ‹_› hu|exact .tuple_list ‹_› ‹_› hu|exact .list_none ‹_› hu|exact .list_bool _ ‹_› hu|exact .list_int _ _ ‹_› hu|exact .list_str _ _ ‹_› hu|exact .list_tuple ‹_› ‹_› hu)
def b8v(I:d_)(d d':D){A:yn!}(n:cL!)(n':fv!)(hu:xz_)(r:eq_)(r':hr!)(ru:bw!)(av:hr_):SeqAt.RcNeAt A s u u' kX_:=
 b8u I n n' a! r r' ru av (λxs ys e e'=>by
  subst e e';obtain⟨a,vs,rfl,q,rr⟩:=bS r;obtain⟨b,ws,rfl,q',b7⟩:=bS r';cases ru;cases av;unfold Bi at n n';unfold Ii at hu;unfold En;exact a6v I q q' rr b7 a! λus us' rv ak=>lF I xs ys A.in1 vs ws us us' n n' fv_ rr b7 rv ak) (λxs ys e e'=>by
  subst e e';obtain⟨a,vs,rfl,q,rr⟩:=bT r;obtain⟨b,ws,rfl,q',b7⟩:=bT r';cases ru;cases av;unfold Bi at n n';unfold Ii at hu;unfold En;exact b0s I q q' rr b7 a! λus us' rv ak=>lF I xs ys A.in1 vs ws us us' n n' fv_ rr b7 rv ak)
def AD(K:yQ!):R2:=λx y H Q=>∃dx dy,Ax K H dx x/\Ax K H dy y/\Bi dx=true/\Bi dy=true/\Ii dx<=40/\Q (.bl (!En dx dy)) H
def fI(hu:aK_):Gw X sN_ (AD X.K):=by intro h1 s Z H x y v u Q I rx ry h;obtain⟨dx,dy,r1,r2,n1,n2,hd,q⟩:=h;exact b8v I dx dy n1 n2 a! r1 r2 rx ry X.prog X.w X.xe _ km!
def Eg:D->D->Option D:=λx y=>if Bi x&&Bi y&&decide (Ii x<=40)then some (.bl (!En x y))else none
def sZ{K:yQ!}:Ij K (AD K) Eg:=by
 show"!0";unfold Eg at e;show"!6"
 .show"!s";cases e;exact xA_
 .cases e
open Classical in
def Uv(K:yQ!)(H:Hp)(x:D)(u:yB!):Bool:=decide (∃d,Cw K H d u/\Bi d=true/\En d x=true)
open Classical in
def c2i(I:d_)(r:Cw X.K H d u)(n:cL!):Uv X.K H x u=En d x:=by
 unfold Uv;cases h:En d x with
 |true=>exact IV ⟨d,r,n,h⟩
 |false=>
  refine IF ?_;rintro⟨d',⟨v',r',av⟩,n',h'⟩;obtain⟨v,r,ru⟩:=r;have:=ru.inj av;subst this;rw[a2x I d d' v n n' r r']at h;rw[h]at h';cases h'
def rV(I:d_):∀{ds:c!} {vs:n!} {us:i_},Am X.K H ds vs->Bc vs us->Bx ds=true->us.any (Uv X.K H x)=ds.any λd=>En d x
 |[],vs,us,r,rv,_=>by cases cS r;cases rv;rfl
 |d::ds,vs,us,r,rv,n=>by
  obtain⟨v,t,rfl,r1,r2⟩:=bR r;unfold Bx at n;rw[IZ]at n;cases rv with
  |cons qf ua=>rw[MB,MB,c2i I ⟨v,r1,qf⟩ n.1,rV I r2 ua n.2]
def qO(I:d_){A:yn!}(rx:Ax X.K H x y)(ry:Bu y v)(nx:Bi x=true):∀{ds:c!} {vs:n!} {us:i_},Am X.K H ds vs->Bc vs us->Bx ds=true->A.units+Dp ds<cLine->∀u∈us,SeqAt.EqAt A s u v (Uv X.K H x u)
 |[],vs,us,r,rv,_,_=>λu hu=>by cases cS r;cases rv;cases hu
 |d::ds,vs,us,r,rv,n,hd=>λu hu=>by
  obtain⟨z,t,rfl,r1,r2⟩:=bR r;unfold Bx at n;rw[IZ]at n;unfold Dp at hd;cases rv with
  |cons qf ua=>
   obtain rfl|hu:=HN.mp hu
   .rw[c2i I ⟨z,r1,qf⟩ n.1];exact c2l I d x A z y _ _ n.1 nx a! r1 rx qf ry
   .exact qO I rx ry nx r2 ua n.2 a! u hu
def AG(K:yQ!)(neg:Bool):R2:=λx y H Q=>∃p ys dx ds,y=.ref p/\pV!/\Ax K H dx x/\Am K H ds ys/\Bi dx=true/\Bx ds=true/\Dp ds<=40/\Q (.bl (if neg then !(ds.any λd=>En d dx)else ds.any λd=>En d dx)) H
def c9c(hu:aK_):Gw X jo! (AG X.K false):=by
 intro h1 s Z H x y v u Q I rx ry h;obtain⟨p,ys,dx,ds,rfl,hq,r1,r2,n1,n2,hd,q⟩:=h;cases ry;obtain hq|hq:=hq
 .show"!P";refine SeqAt.in_listAt fL! pl.isList kY_ fb!;rw[kZ!,kZ_];exact q
 .show"!z";refine SeqAt.in_tupleAt fL! pl kY_ fb!;rw[kZ!,kZ_];exact q
def b6m(hu:aK_):Gw X pW! (AG X.K true):=by
 intro h1 s Z H x y v u Q I rx ry h;obtain⟨p,ys,dx,ds,rfl,hq,r1,r2,n1,n2,hd,q⟩:=h;cases ry;obtain hq|hq:=hq
 .show"!P";refine SeqAt.notIn_listAt fL! pl.isList kY_ fb!;rw[kZ!,kZ_];exact q
 .show"!z";refine SeqAt.notIn_tupleAt fL! pl kY_ fb!;rw[kZ!,kZ_];exact q
def AH(P:yO!)(w:yC!)(K:yQ!)(neg:Bool):R2:=λx y H Q=>∃(M:Mh) (G:Hp) (a:xT!) (kvs:i!) (ep:Nat) (d:D) (k:MK),y=.ref a/\Bk G H/\MR P w K M G H/\M a=some hO!/\Ax K G d x/\Db d=some k/\Q (.bl (if neg then !(dy!).isSome else(dy!).isSome)) H
def c9d(hu:aK_):Gw X jo! (AH X.prog X.w X.K false):=by intro h1 s Z H x y v u Q I rx ry h;obtain⟨M,G,a,kvs,ep,d,k,rfl,sub,m,e,r,hk,q⟩:=h;cases ry;exact HI zF_
def b6n(hu:aK_):Gw X pW! (AH X.prog X.w X.K true):=by intro h1 s Z H x y v u Q I rx ry h;obtain⟨M,G,a,kvs,ep,d,k,rfl,sub,m,e,r,hk,q⟩:=h;cases ry;exact HI zF_
def Yl(P:yO!)(w:yC!)(K:yQ!)(neg:Bool):R2:=λx y H Q=>AG K neg x y H Q\/AH P w K neg x y H Q
def iB(hu:aK_):Gw X jo! (Yl X.prog X.w X.K false):=(c9c hu).or (c9d hu)
def iL(hu:aK_):Gw X pW! (Yl X.prog X.w X.K true):=(b6m hu).or (b6n hu)
def Su(M:Mh):D->Option aR!
 |.lst xs=>some xs
 |.tup xs=>some xs
 |.fn a=>match M a with|some (.lst xs)=>some xs|_=>none
 |_=>none
def a2j{K:yQ!}{M:Mh}{G H:Hp}(sub:K_)(m:cm!)(r:cF_)(e:Su M d=some xs):∃p ys,v=.ref p/\pV!/\Am K G xs ys:=by
 cases d<;>first|(cases e;done)|skip
 .cases e;show"!X";exact⟨p,vs,rfl,.inr km_,rr⟩
 .cases e;obtain⟨p,vs,rfl,q,rr⟩:=bT r;exact⟨p,vs,rfl,.inl (sub.seq q),rr⟩
 .rename_i a;cases gD r;simp only[Su]at e;show"!6"
  .rename_i ys hy;cases e;obtain⟨_,vs,Y,L⟩:=m.cell a _ hy;exact⟨a,vs,rfl,.inl (Fx.of Y),L⟩
  .cases e
def Ih(neg:Bool)(M:Mh)(x y:D):Option D:=match y with
 |.fn a=>match M a with
  |some (.dct kvs _)=>(Db x).bind λ_=>some (.bl (if neg then !(kget kvs x).isSome else(kget kvs x).isSome))
  |_=>inS M x y
 |_=>inS M x y
where inS (M:Mh) (x y:D):Option D:=(Su M y).bind λds=>if Bi x&&Bx ds&&decide (Dp ds<=40)then some xD_ else none
def eR{K:yQ!}{neg:Bool}:Yb P w K (Yl P w K neg) (Ih neg):=by
 intro x y dx dy d M G H Q sub m rx ry e k;have seq:Ih.inS neg M dx dy=some d->Yl P w K neg x y H Q:=λe=>by
  obtain⟨ds,e1,e2⟩:=HJ.mp e;split at e2
  .show"!s";cases e2;obtain⟨p,ys,rfl,q,rr⟩:=a2j sub m ry e1;exact .inl ⟨p,ys,dx,ds,rfl,q,rx.mono sub,rr.mono sub,h.1.1,h.1.2,h.2,ep!⟩
  .cases e2
 unfold Ih at e;show"!6"
 .rename_i a;show"!6"
  .show"#;";cases e2;cases gD ry;exact .inr ⟨M,G,a,kvs,ep,dx,kk,rfl,sub,m,hM,rx,e1,ep!⟩
  .exact seq e
 .exact seq e
def BY(P:yO!)(w:yC!)(K:yQ!):R2:=λx y H Q=>∃(M:Mh) (G:Hp) (a:xT!) (kvs:i!) (ep:Nat) (d z:D) (k:MK),x=.ref a/\Bk G H/\MR P w K M G H/\M a=some hO!/\Ax K G d y/\Db d=some k/\kget kvs d=some z/\∀v,Ax K G z v->Q v H
def c9z(hu:aK_):Wq X (BY X.prog X.w X.K):=by
 intro value gd h1 s Z H x y v u Q I rx ry h hs;obtain⟨M,G,a,kvs,ep,d,z,k,rfl,sub,m,e,r,hk,hz,q⟩:=h;cases rx;obtain⟨es,Y,L,h3,h4,h5,h6⟩:=eM I m sub e;unfold subscriptTail;refine HI ?_;rw[getitemInPython_of_ne h3.typeIs.not_modules];refine HI (PN h3.typeIs PySem.F.slot_dict_getitem.lookup ?_);have fin:wpAny e_ X.A (subscripted gd false af_ u) (λr dz=>wpAny e_ X.A (letTemporaryGo value af_ r>>=λ_=>pure r) aL_ X.xe dz) X.xe s:=by
  rw[hs];exact wpAny_operating (b2f (A:=X.A) a! I m sub e ⟨_,r,ry⟩ hk hz λo s' I' ⟨v',r',av⟩=>HI (wpAny_letTemporaryGo (HK ⟨v',H,I',av,q v' r'⟩)))
 first
  |exact HK js_
  |exact HI (HK js_)
  |exact HI fin
def BZ(P:yO!)(w:yC!)(K:yQ!):R2:=λx y H Q=>EV K x y H Q\/BY P w K x y H Q
def bI(hu:aK_):Wq X (BZ X.prog X.w X.K):=aH.or (c9z hu)
def Bt(M:Mh)(x y:D):Option D:=match x with
 |.fn a=>match M a with
  |some (.dct kvs _)=>(fM!).bind λ_=>kget kvs y
  |some (.lst xs)=>match y with|.int i=>Dc xs i|_=>none
  |_=>none
 |_=>Ak x y
def bH{K:yQ!}:Yb P w K (BZ P w K) Bt:=by
 show"!_";unfold Bt at e;show"!6"
 .rename_i a;cases gD rx;show"!6"
  .show"#;";exact .inr ⟨M,G,a,kvs,ep,dy,d,kk,rfl,sub,m,hM,ry,e1,e2,λv r=>k v G H aS_ r⟩
  .rename_i xs hM;show"!6"
   .rename_i i;cases bG ry;show"!|";obtain⟨v,e6,r6⟩:=qB L e;exact .inl (.inl ⟨a,vs,i,v,rfl,rfl,Fx.of Y,e6,k v G H aS_ r6⟩)
   .cases e
  .cases e
 .exact .inl (aM sub rx ry e k)
def Mf(M:Mh)(x y:D):Option D:=match x with
 |.fn a=>match M a,y with
  |some (.lst xs),.lst ys=>if l_+ac_<=big then some (.lst eJ_)else none
  |_,_=>none
 |_=>An x y
def jE{K:yQ!}:Yb P w K (Sx K) Mf:=by
 show"!_";unfold Mf at e;show"!6"
 .rename_i a;cases gD rx;show"!6"
  .rename_i xs ys hM;show"!6"
   .show"!F";show"!|";obtain⟨b,ws,rfl,qb,rb⟩:=bT ry;exact .inr (.inr (.inr (.inr ⟨a,b,vs,ws,rfl,rfl,Fx.of Y,sub.seq qb,by rw[<-aL L,<-aL rb];exact cY hl,λp hp=>k _ _ _ j4! (dQ hh_ (dG L rb))⟩)))
   .cases e
  .cases e
 .exact bO sub rx ry e k
end
def Ef{α:Type}(o:Option α)(R:pY_):Prop:=match o with|some a=>R a|none=>False
def dB{α:Type}{o:Option α}{R:pY_}(h:Ef o R):∃a,o=some a/\R a:=by
 cases o with
 |none=>exact h.elim
 |some a=>exact⟨a,rfl,h⟩
def Gv(C:xT!)(x:Str)(M:Mh)(d:D):Option D:=match d with
 |.fn a=>match M a with
  |some (.obj C' fs)=>if C'=C then fs.lookup x else none
  |_=>none
 |_=>none
def Bq(f:Str)(v:D):List ci_->List ci_
 |[]=>[(f,v)]
 |(g,x)::r=>if g=f then(g,v)::r else(g,x)::Bq f v r
def a8t{K:yQ!}{G:Hp}{x:Str}:∀{fs:aU_} {vs:eK!},Ox K G fs vs->fs.lookup x=some d->∃v,vs.lookup x=some v/\Ax K G d v
 |_,_,.nil,e=>by simp at e
 |(a,b)::r,(a',b')::r',.cons ⟨Y,L⟩ t,e=>by
  have Y:a=a':=Y;subst Y;cases J:(x==a)with
  |true=>
   simp only[JR,J]at e ⊢;cases e;exact⟨b',rfl,L⟩
  |false=>
   simp only[JR,J]at e ⊢;exact a8t t e
def a8s{K:yQ!}{G:Hp}{x:Str}:∀{fs:aU_} {vs:eK!},Ox K G fs vs->fs.lookup x=none->vs.lookup x=none
 |_,_,.nil,_=>rfl
 |(a,b)::r,(a',b')::r',.cons ⟨Y,L⟩ t,e=>by
  have Y:a=a':=Y;subst Y;cases J:(x==a)with
  |true=>simp only[JR,J]at e;cases e
  |false=>
   simp only[JR,J]at e ⊢;exact a8s t e
def b4v{K:yQ!}{G:Hp}{x:Str}(r:cF_):∀{fs:aU_} {vs:eK!},Ox K G fs vs->Ox K G (Bq x d fs) (Lg x v vs)
 |_,_,.nil=>.cons ⟨rfl,r⟩ .nil
 |(a,b)::fs,(a',b')::vs,.cons ⟨Y,L⟩ t=>by
  have Y:a=a':=Y;subst Y;show Ox K G (if a=x then(a,d)::fs else aa_::Bq x d fs) (if a=x then(a,v)::vs else(a,b')::Lg x v vs);by_cases e:a=x
  .rw[IB e,IB e];exact .cons ⟨rfl,r⟩ t
  .rw[HQ e,HQ e];exact .cons ⟨rfl,L⟩ (b4v r t)
section
variable{X:Cx}{own:List Nat}{e o a b:Expr}{es:List Expr}{pos aj ah p:Pos}{f fa fb fo:WE}{fs:WA}{x m:Str}{C:xT!}
def Ay(C:xT!)(x:Str)(f:WE):WE:=λρ M R=>f ρ M λd M1=>Ef (Gv C x M1 d) λv=>R v M1
def bF(c:d0!)(n:Ee X.K C x)(h:bY!)(hb:attributeBase e x X.env eN_=eval e X.env:=by rfl):ME X own (.Attribute e x pos) (Ay C x f):=
 fB (c8x h.ok hb) λZ G H Q ρ M R st e k=>⟨G,ρ,M,_,st,e,λd M1 v G1 H1 r1 x1 m1 q1=>by
  obtain⟨z,Y,L⟩:=dB r1;cases d<;>first|(cases Y;done)|skip
  rename_i ad;cases gD q1;simp only[Gv]at Y;split at Y
  .rename_i C' fs hM;split at Y
   .rename_i hC;subst hC;obtain⟨_,dx,vs,h3,h4⟩:=m1.cell ad _ hM;obtain⟨u,h5,h6⟩:=a8t h4 Y;exact⟨ad,_,dx,vs,u,rfl,h3,c,n,h5,k z M1 u G1 H1 L x1 m1 h6⟩
   .cases Y
  .cases Y⟩
def So(P:yO!)(w:yC!)(K:yQ!)(r:dT_)(g:hQ_):Prop:=∀{vs:n!} {ds:c!} {d:D} {M:Mh} {G H:Hp} {Q:VK},Bk G H->MR P w K M G H->Am K G ds vs->g M ds=some d->jV!->r vs H Q
nonrec def w1(g:hQ_)(fs:WA):WE:=λρ M R=>fs ρ M λds M1=>Ef (g M1 ds) λd=>R d M1
def xP{id:String}{r:dT_}{g:hQ_}(hc:m9!)(hd:zK_)(hg:Y!)(hm:c3_)(hv:nn_)(ha:hR!)(hn:c4!:=by decide)
  (bg:F_:=by decide)(he:ay_:=by rfl)(a7:a6_:=by rfl):ME X own bB! (w1 g fs):=
 fB wL_ λZ G H Q ρ M R st e' k=>⟨G,ρ,M,_,st,e',λds M1 vs G1 H1 r1 x1 m1 q1=>by
  obtain⟨d,Y,L⟩:=dB r1;exact hd x1.sub m1 q1 Y λv G2 H2 x2 q2=>k d M1 v G2 H2 L zL! (m1.ext x2) q2⟩
def tK{T:String}{r:dT_}{g:hQ_}(hc:Kg X d3! r)(hd:zK_)(hg:Y!)(hm:c3_)(hv:no!)(ha:hR!)(hn:c4!:=by decide)
  (bg:F_:=by decide)(he:ay_:=by rfl)(a7:a6_:=by rfl):ME X own bB! (w1 g fs):=
 fB (b6l hc hg hm hv ha.ok hn bg he a7) λZ G H Q ρ M R st e' k=>⟨G,ρ,M,_,st,e',λds M1 vs G1 H1 r1 x1 m1 q1=>by
  obtain⟨d,Y,L⟩:=dB r1;exact hd x1.sub m1 q1 Y λv G2 H2 x2 q2=>k d M1 v G2 H2 L zL! (m1.ext x2) q2⟩
def Wl(M:Mh):List D->Option D
 |[.str x]=>Bp [.str x]
 |[d]=>(Su M d).map λxs=>.int l_
 |_=>none
def c3d{K:yQ!}:So P w K w5! Wl:=by
 show"!T";unfold Wl at e;show"!6"
 .exact eJ sub r e k
 .obtain⟨xs,e1,rfl⟩:=HU.mp e;show"!l";refine⟨fu_,l_,rfl,?_,el_⟩;rw[aL rr];exact q.elim (λz=>.inl zL_) λz=>.inr zL_
 .cases e
def Vz(M:Mh):List D->Option D
 |[d]=>(Su M d).bind λxs=>if l_<=big then some T! else none
 |_=>none
def c6v{K:yQ!}:So P w K (λxs H Q=>∃p ys,xs=gR!/\pV!/\∀l,H l=none->Q jp_ jo_) Vz:=by
 show"!T";unfold Vz at e;show"!6"
 .obtain⟨xs,e1,e2⟩:=HJ.mp e;split at e2
  .cases e2;show"!l";exact⟨p,ys,rfl,q,λl hl=>k _ _ _ zM! (dQ (sub.free hl) rr)⟩
  .cases e2
 .cases e
def Qj(fs:WA):WE:=λρ M R=>fs ρ M λds M1=>h!<=1000/\∀p,M1 p=none->R D_ (Be M1 p cd_)
def a3r(h:hM_):ME X own i3! (Qj fs):=
 fB jZ_ λZ G H Q ρ M R st e k=>⟨G,ρ,M,_,st,e,λds M1 vs G1 H1 r1 x1 m1 q1=>⟨by rw[<-aL q1];exact gJ r1.1,λp hp=>
  k _ _ _ _ _ (r1.2 p (m1.nocell hp)) (x1.trans (.laid x1.sub hp) m1) (m1.laid hp x1.sub ⟨vs,cC,q1⟩) Ax.fn⟩⟩
def Os(M:Mh)(d:D):Option (Addr×List D):=match d with
 |.fn p=>match M p with|some (.lst xs)=>some (p,xs)|_=>none
 |_=>none
def yT{K:yQ!}{M:Mh}{G H:Hp}{q:Addr×List D}(m:cm!)(r:cF_)(e:Os M d=some q):d=.fn q.1/\v=.ref q.1/\M q.1=some (.lst q.2)/\∃vs,H q.1=some dm_/\Am K G q.2 vs:=by
 cases d<;>first|(cases e;done)|skip
 rename_i p;cases gD r;simp only[Os]at e;show"!6"
 .rename_i xs hM;cases e;exact⟨rfl,rfl,hM,(m.cell p _ hM).2⟩
 .cases e
def Ed(M:Mh)(d:D):Option (Addr×List aD!×Nat):=match d with
 |.fn p=>match M p with|some (.dct kvs ep)=>some k2_|_=>none
 |_=>none
def cM{K:yQ!}{M:Mh}{G:Hp}{q:zN!}(r:cF_)(e:Ed M d=some q):d=.fn q.1/\v=.ref q.1/\M q.1=some p2_:=by
 cases d<;>first|(cases e;done)|skip
 rename_i p;cases gD r;simp only[Ed]at e;show"!6"
 .rename_i xs ep hM;cases e;exact⟨rfl,rfl,hM⟩
 .cases e
def Vo(fo fa:WE):WE:=λρ M R=>fo ρ M λd M1=>Ef (Os M1 d) λ_=>fa ρ M1 λv M2=>Ef (Os M2 d) λq=>p3!<big/\R .non zO!
def b4k(ho:cQ!)(ha:aD_)(b8:j9_:=by rfl)(gw:((pb_).all cA!&&(cA_).all cB!
   &&decide pc!)=true:=by rfl) (g7:d7!:=by rfl)
  (gu:attributeBase o "append" X.env dP_=eval o X.env:=by rfl) (g8:ho_:=by rfl):ME X own (.Call (.Attribute o "append" aj) [a] [] ah) (Vo fo fa):=
 fB (a0h NY PySem.F.slot_list_append PySem.F.type_list_append a0r ho.ok (dZ ha.ok gP b8) gu gw g7 b8 g8) λZ G H Q ρ M R st e k=>
  ⟨G,ρ,M,_,st,e,λd M1 v G1 H1 r1 x1 m1 q1=>by
   obtain⟨c1,e1,r1⟩:=dB r1;obtain⟨rfl,rfl,_,ZX,hH,_⟩:=yT m1 q1 e1;refine⟨.inl ⟨rfl,ZX,Fx.of hH⟩,G1,ρ,M1,_,kT_,r1,λz M2 u G2 H2 r2 x2 m2 q2=>?_⟩;obtain⟨⟨p2,xs2⟩,e2,r2⟩:=dB r2;obtain⟨z1,z2,z3,vs,Y,L⟩:=yT m2 cm_ e2;cases z2;refine⟨_,vs,u,rfl,rfl,Y,by rw[<-aL L];exact IT r2.1 (cY y!),?_⟩;exact k _ _ _ _ _ r2.2 ((cO_).trans (.write m2 x2.sub z3) m2) (m2.write z3 ⟨_,cC,dG L (Am.cons q2 Am.nil)⟩) Ax.non⟩
def lK{h1:o!}{Z:St}{G H:Hp}{s:yP!}{M:Mh}{q:zN!}(I:d_)(m:bY_)(sub:K_)(e:M q.1=some p2_):
  s.TypeIs (.ref q.1) "dict"/\∀b,Value.ref q.1=.ref b->∃ob,s.heap.get? b=some ob/\ob.dict=none:=by
 obtain⟨es,_,_,h3,_⟩:=eM I m sub e;refine⟨fK_,λb z=>?_⟩;cases z;obtain⟨o,h,hc,_⟩:=h3;exact⟨o,h,hc.2.1⟩
def ME.run{h1:o!}{Z:St}{G H:Hp}{ρ:Ae}{M:Mh}{R:s_}{Q:q_}(h:bY!)(I:d_)(st:zq!)(hf:hL_)
  (k:∀d M' v G' H' u s',R d M'->XM M G H M' G' H'->MR X.prog X.w X.K M' G' H'->Ax X.K G' d v->Inv X h1 Z H' s'->Bu v u->Q u s'):wpAny e_ X.A eN_ Q X.xe s:=
 dL (h.ok h1 s Z H (λv H'=>∃d M' G',R d M'/\XM M G H M' G' H'/\MR X.prog X.w X.K M' G' H'/\Ax X.K G' d v) I ⟨G,ρ,M,R,st,hf,λd M' v G' H' r x m q=>⟨d,M',G',r,x,m,q⟩⟩) λu s' ⟨v,H',I',rv,d,M',G',r,x,m,q⟩=>k d M' v G' H' u s' r x m q I' rv
def Oz(fo fa:WE):WE:=λρ M R=>fo ρ M λd M1=>Ef hT! λ_=>fa ρ M1 λy M2=>Ef (Ed M2 d) λq=>Ef fM! λ_=>R ((p3_).getD .non) M2
def c1b(hu:aK_)(ho:cQ!)(ha:aD_)(m:M1 X o "get" aj a ah):ME X own (.Call zP_ [a] [] ah) (Oz fo fa):=⟨by
 intro h1 s Z H Q I ⟨G,ρ,M,R,st,e,k⟩;refine QI m.base m.few m.line NZ OI PySem.F.type_dict_get k3_;obtain⟨c1,e1,r1⟩:=dB r1;obtain⟨rfl,rfl,hM⟩:=cM q1 e1;cases rx;obtain⟨t1,t2⟩:=lK I1 m1 x1.sub hM;refine k4!;rw[m.trees];refine NK rfl zQ!;obtain⟨⟨p2,zn,ug⟩,e2,r2⟩:=dB r2;obtain⟨kk,e3,r2⟩:=dB r2;obtain⟨z1,z2,f8⟩:=cM cm_ e2;cases z1;exact c6t (A:=X.A) a! I2 m2 x2.sub f8 zQ_ e3 λov s' I' ⟨v',r',av⟩=>⟨v',H2,I',av,k _ M2 v' G2 H2 r2 cO_ m2 r'⟩⟩
def Hz(fo fa fb:WE):WE:=λρ M R=>fo ρ M λd M1=>Ef hT! λ_=>fa ρ M1 λy M2=>fb ρ M2 λz M3=>Ef (Ed M3 d) λq=>Ef fM! λ_=>R ((p3_).getD z) M3
def qQ(hu:aK_)(ho:cQ!)(ha:aD_)(hb:cP!)(m:M2 X o "get" aj a b ah):ME X own (.Call zP_ ap_ [] ah) (Hz fo fa fb):=⟨by
 intro h1 s Z H Q I ⟨G,ρ,M,R,st,e,k⟩;refine QI m.base m.few m.line NZ OI PySem.F.type_dict_get k3_;obtain⟨c1,e1,r1⟩:=dB r1;obtain⟨rfl,rfl,hM⟩:=cM q1 e1;cases rx;obtain⟨t1,t2⟩:=lK I1 m1 x1.sub hM;refine k4!;rw[m.trees];refine NK rfl (NW (MH (ha.run I1 fN! r1 λy M2 yv G2 H2 iv s2 r2 x2 m2 q2 I2 ry=>
  MH zS!)))
 obtain⟨⟨p2,zn,ug⟩,e2,r3⟩:=dB r3;obtain⟨kk,e3,r3⟩:=dB r3;obtain⟨z1,z2,f8⟩:=cM zS_ e2;cases z1;exact c6s (A:=X.A) a! I3 m3 x3.sub f8 zT! e3 zT_ λov s' I' ⟨v',r',av⟩=>⟨v',H3,I',av,k _ M3 v' G3 H3 r3 p5_ m3 r'⟩⟩
def Ki(fo fa fb:WE):WE:=λρ M R=>fo ρ M λd M1=>Ef hT! λ_=>fa ρ M1 λy M2=>fb ρ M2 λz M3=>Ef (Ed M3 d) λq=>Ef fM! λ_=>q.2.1.length<big/\
 match kget q.2.1 y with
 |some v=>R v M3
 |none=>R z (Be M3 q.1 (.dct (As q.2.1 y z) (q.2.2+1)))
def a0s(hu:aK_)(ho:cQ!)(ha:aD_)(hb:cP!)(m:M2 X o "setdefault" aj a b ah):ME X own (.Call (.Attribute o "setdefault" aj) ap_ [] ah) (Ki fo fa fb):=⟨by
 intro h1 s Z H Q I ⟨G,ρ,M,R,st,e,k⟩;refine QI m.base m.few m.line NZ RN PySem.F.type_dict_setdefault k3_;obtain⟨c1,e1,r1⟩:=dB r1;obtain⟨rfl,rfl,hM⟩:=cM q1 e1;cases rx;obtain⟨t1,t2⟩:=lK I1 m1 x1.sub hM;refine k4!;rw[m.trees];refine NK rfl (NW (MH (ha.run I1 fN! r1 λy M2 yv G2 H2 iv s2 r2 x2 m2 q2 I2 ry=>
  MH zS!)))
 obtain⟨⟨p2,zn,ug⟩,e2,r3⟩:=dB r3;obtain⟨kk,e3,hl,r3⟩:=dB r3;obtain⟨z1,z2,f8⟩:=cM zS_ e2;cases z1;have ll:=(cO_).trans x3 m2;refine zR (A:=X.A) a! I3 m3 x3.sub f8 zT! e3 zT_ hl (λw ov s' hw I' ⟨v',r',av⟩=>?_) λhn ay s' I' c'=>?_
 .dsimp only at r3;rw[hw]at r3;exact⟨v',H3,I',av,k _ M3 v' G3 H3 r3 ll m3 r'⟩
 .dsimp only at r3;rw[hn]at r3;exact⟨zv,_,I',rz,k _ _ zv G3 _ r3 (ll.trans (.write m3 x3.sub f8) m3) (m3.write f8 c') q3⟩⟩
def Yd(fo fa:WE):WE:=λρ M R=>fo ρ M λd M1=>Ef hT! λ_=>fa ρ M1 λy M2=>Ef (Ed M2 d) λq=>Ef fM! λ_=>Ef p3_ λv=>R v (Be M2 q.1 (.dct (Gu q.2.1 y) (q.2.2+1)))
def c0z(hu:aK_)(ho:cQ!)(ha:aD_)(m:M1 X o "pop" aj a ah):ME X own (.Call (.Attribute o "pop" aj) [a] [] ah) (Yd fo fa):=⟨by
 intro h1 s Z H Q I ⟨G,ρ,M,R,st,e,k⟩;refine QI m.base m.few m.line NZ PySem.F.slot_dict_pop PySem.F.type_dict_pop k3_;obtain⟨c1,e1,r1⟩:=dB r1;obtain⟨rfl,rfl,hM⟩:=cM q1 e1;cases rx;obtain⟨t1,t2⟩:=lK I1 m1 x1.sub hM;refine k4!;rw[m.trees];refine NK rfl zQ!;obtain⟨⟨p2,zn,ug⟩,e2,r2⟩:=dB r2;obtain⟨kk,e3,r2⟩:=dB r2;obtain⟨w,e4,r2⟩:=dB r2;obtain⟨z1,z2,f8⟩:=cM cm_ e2;cases z1;exact d0t (A:=X.A) a! I2 m2 x2.sub f8 zQ_ e3 e4 λay ov s' I' c' ⟨v',r',av⟩=>⟨v',_,I',av,k _ _ v' G2 _ r2 ((cO_).trans (.write m2 x2.sub f8) m2) (m2.write f8 c') r'⟩⟩
def Gx:WE:=λρ M R=>∀p,M p=none->R D_ eA!
def fP:ME X own (.Dict [] [] pos) Gx:=⟨by
 intro h1 s Z H Q I ⟨G,ρ,M,R,st,e,k⟩;have hp:H o_=none:=I.fresh;have D0:Pi zV_ s.heap.objs.size [] 0:=zW!;refine wpAny_Dict_empty ⟨de_,upd H s.heap.objs.size zW_,zX!,rfl,?_⟩
 .obtain⟨⟨o,z1,z2,z3⟩,z4⟩:=z;exact pS!
 .exact k _ _ _ G _ (e _ (st.mr.nocell hp)) (.laid st.or.sub hp) (st.mr.laid hp st.or.sub zX_) Ax.fn⟩
end
abbrev WP:=Ae->Mh->(List aD!->Mh->Prop)->Prop
def Zu(K:yQ!)(G:Hp):List aD!->List p6!->Prop:=Paired λp q=>Cw K G p.1 q.1/\Cw K G p.2 q.2
structure MP(X:Cx)(own:k_)(pos:Pos)(keys:List (Option Expr))(jq:bJ_)(f:WP):Prop where
 ok:∀(h1:o!) (s:yP!) (Z:St) (G H:Hp) (ρ:Ae) (M:Mh) (R:zY!) (Q:List p6!->Shared->Prop),Inv X h1 Z H s->Tl X.prog X.w X.K own G H Z ρ M->f ρ M R->
  (∀kvs M' G' H' us s',R kvs M'->XM M G H M' G' H'->MR X.prog X.w X.K M' G' H'->Zu X.K G' kvs us->Inv X h1 Z H' s'->Q us s')->wpAny e_ X.A (evalPairs (pairTrees keys jq X.env pos)) Q X.xe s
section
variable{X:Cx}{own:List Nat}{e o a b:Expr}{es:List Expr}{pos aj ah p:Pos}{f fa fb fo:WE}{fs:WA}{fp:WP}{keys:List (Option Expr)}{jq:List Expr}
def Ny:WP:=λ_ M R=>R [] M
def Ek(fa fb:WE)(fp:WP):WP:=λρ M R=>fa ρ M λx M1=>fb ρ M1 λy M2=>fp ρ M2 λkvs M3=>R ((x,y)::kvs) M3
def xL:MP X own pos [] [] Ny:=⟨λh1 s Z G H ρ M R Q I st e k=>pairTrees_nil_walk (k [] M G H [] s e pP_ st.mr .nil I)⟩
def iJ(ha:aD_)(hb:cP!)(hp:zY_):MP X own pos (some a::keys) (b::jq) (Ek fa fb fp):=⟨λh1 s Z G H ρ M R Q I st e k=>
 pairTrees_cons_walk (ha.run I st e λx M1 v G1 H1 u s1 r1 x1 m1 q1 I1 ru=>hb.run I1 fN! r1 λy M2 v2 G2 H2 u2 s2 r2 x2 m2 q2 I2 ZY=>
  hp.ok h1 s2 Z G2 H2 ρ M2 _ _ I2 zR_ r2 λkvs M3 G3 H3 us s3 r3 x3 m3 q3 I3=>
   k _ M3 G3 H3 _ s3 r3 p5_ m3 (.cons ⟨⟨v,(cm_).mono x3.g,ru⟩,⟨v2,q2.mono x3.g,ZY⟩⟩ q3) I3)⟩
def iW:∀{l:i!} {d x:D},d∉l.map c_->As l d x=l++[dx!]
 |[],_,_,_=>rfl
 |(y,z)::l,d,x,h=>by
  rw[IA,HN,OL]at h;unfold As;rw[k7!,iW h.2];rfl
def xZ:∀{l:i!} {d:D},d∉l.map c_->kget l d=none
 |[],_,_=>rfl
 |(y,z)::l,d,h=>by
  rw[IA,HN,OL]at h;unfold kget;rw[k7!,xZ h.2]
def zY{h1:o!}{Z:St}{G:Hp}{A:yn!}{E:q_}(hu:as_):∀{kvs:i!} {us:List p6!} {acc:i!} {H:Hp} {s:yP!} {M:Mh} {n:Nat} {Q:zZ!},Zu X.K G kvs us->Inv X h1 Z H s->MR X.prog X.w X.K M G H->Bk G H->
  M c=some (.dct acc n)->cR!+aE!<=1000->(∀p∈kvs,(Db p.1).isSome=true)->((acc++kvs).map c_).Nodup->
  (∀H' s',Inv X h1 Z H' s'->XM M G H z0! G H'->MR X.prog X.w X.K z0! G H'->Q PUnit.unit s')->
  wpAny e_ A (forIn us PUnit.unit λ(x:Value×Value) (_:PUnit)=>(do dictSet c x.1 x.2;pure (ForInStep.yield PUnit.unit):Sem z1_)) Q E s
 |_,_,acc,H,s,M,n,Q,.nil,I,m,sub,hM,hl,hk,nd,k=>by
  rw[PK];have hc:Be M c (.dct (acc++[]) (n+0))=M:=by
   funext b;unfold Be;split
   .rename_i e;rw[e,IR,hM];rfl
   .rfl
  have k:=k H s I;rw[LP,hc]at k;exact HK (k (.refl sub) m)
 |(d,x)::kvs,(u,v)::us,acc,H,s,M,n,Q,.cons r t,I,m,sub,hM,hl,hk,nd,k=>by
  rw[NB];obtain⟨kk,hd⟩:=PR.mp (hk _ HP);have p8:d∉acc.map c_:=λz=>by
   rw[IU,IY]at nd;exact nd.2.2 d z d d! rfl
  simp only[IE]at hl;refine HI (HI (c2z hu I m sub hM r.1 hd r.2 (IT a! (show 1001<=big by decide)) λay s' I' c'=>HK ?_));have w9:Gs acc d n=n+1:=by unfold Gs;rw[xZ p8];simp
  rw[w9,iW p8]at c';rw[w9]at I';have m':=m.write hM c';have ZZ:Bk G (upd H c (dE c ay cJ_)):=(XM.write (c:=.dct (acc++[dx!]) cJ_) m sub hM).sub;refine zY hu t I' m' ZZ mup_same z2_ (λp hp=>hk p jE!) (by rw[KA];exact nd) λH2 s2 I2 x2 m2=>?_;have hc:Be (Be M c (.dct (acc++[dx!]) cJ_)) c (.dct (acc++[dx!]++kvs) (n+1+aE!))=Be M c (.dct (acc++dx!::kvs) (n+(dx!::kvs).length)):=by
   funext b;unfold Be;split
   .rw[KA,IE];simp only[List.singleton_append];rw[show n+1+kvs.length=n+(kvs.length+1)by omega]
   .rfl
  rw[hc]at x2 m2;exact k H2 s2 I2 ((XM.write m sub hM).trans x2 m') m2
def Pk(fp:WP):WE:=λρ M R=>∀p,M p=none->fp ρ eA! λkvs M1=>M1 p=some B!/\aE!<=1000/\(∀q∈kvs,(Db q.1).isSome=true)/\(fG_).Nodup/\R D_ (Be M1 p (.dct kvs aE!))
def qP(hu:aK_)(hp:zY_)(g9:keys.all (·.isSome)=true:=by rfl)(hl:keys.length=jq.length:=by rfl)(h0:keys≠[]:=by simp)(h15:keys.length<=15:=by decide):ME X own (.Dict keys jq pos) (Pk fp):=⟨by
 intro h1 s Z H Q I ⟨G,ρ,M,R,st,e,k⟩;have hn:=pairTrees_length keys jq X.env pos g9 hl;have ff:pairTrees keys jq X.env pos≠[]:=λz=>by rw[z]at hn;exact h0 (QB.mp hn.symm)
 rw[arm_eval_Dict,zip_pairTrees keys jq X.env pos g9 hl,dictDisplay_pairs _ ff a!];unfold subDict;have hf:H o_=none:=I.fresh;have D0:Pi zV_ s.heap.objs.size [] 0:=zW!;have I1:Inv X h1 Z p8! {s with heap:=s.heap.push {cls:=.type "dict",data:=.dict #[]}}:=by
  refine zX!;obtain⟨⟨o,z1,z2,z3⟩,z4⟩:=z;exact pS!
 have x0:XM M G H z5! G p8!:=.laid st.or.sub hf;have m0:MR X.prog X.w X.K z5! G p8!:=st.mr.laid hf st.or.sub zX_;refine HI (QM (HI (HI (wpAny_alloc (HI (JN ?_))))));rw[a1!];refine HI (hp.ok h1 _ Z G _ ρ _ _ _ I1 (st.grow x0 m0) (e _ (st.mr.nocell hf)) λkvs M1 G1 H1 us s1 r1 x1 m1 q1 I2=>?_);obtain⟨hM1,ap,hk,nd,r1⟩:=r1;refine JN (HI (zY (A:=X.A) (acc:=[]) a! q1 I2 m1 x1.sub hM1 (by simpa using ap) hk nd λH2 s2 I3 x2 m2=>HK (HK (HK ⟨de_,H2,I3,rfl,?_⟩))));have VT:=(x0.trans x1 m0).trans x2 m1;simp only[KO,RI]at VT m2;exact k _ _ _ G1 H2 r1 VT m2 Ax.fn⟩
end
abbrev WS:=Ae->Mh->(Fl->Mh->Prop)->Prop
structure Jr(P:yO!)(w:yC!)(K:yQ!)(own:k_)(M0:Mh)(G0 F0:Hp)(M:Mh)(G H:Hp)(Z:St)(ρ:Ae):Prop where
 st:Tl P w K own G H Z ρ M
 x:XM M0 G0 F0 M G H
 fr:∀i∈own,∀p,Z[i]?=some ce_->F0 p=none
inductive DJ(P:yO!)(w:yC!)(K:yQ!)(M0:Mh)(G0 F0:Hp)(own hx:k_)(f:WS)(E:Vm)(Z:St)(H:Hp):Prop
 |mk (G:Hp) (ρ:Ae) (M:Mh) (R:j!) (st:b0!) (e:hL_) (a:∀ρ' M' G' σ H',R cS! M'->Jr P w K hx M0 G0 F0 M' G' H' σ ρ'->E.nx σ H') (b:∀d M' v G' H',R a0! M'->XM M0 G0 F0 M' G' H'->MR P w K M' G' H'->Ax K G' d v->E.rt v H'):DJ P w K M0 G0 F0 own hx f E Z H
structure MS(X:Cx)(own hx:k_)(st:Stmt)(f:WS):Prop where
 ok:∀M0 G0 F0,PS X st z6!
structure Vk(X:Cx)(own hx:k_)(st:b2!)(f:WS):Prop where
 ok:∀M0 G0 F0,Uo X st z6!
section
variable{P:yO!}{w:yC!}{K:yQ!}{own hx:List Nat}{M0 M M':Mh}{G0 F0 G H G' H':Hp}{Z σ:St}{ρ ρ':Ae}
def Jr.grow(s:b0!)(x:kQ!)(m:zl_):Jr P w K own M0 G0 F0 M' G' H' Z ρ:=⟨s.st.grow x m,s.x.trans x s.st.mr,s.fr⟩
def Jr.set{i:Nat}(s:b0!)(hi:bp!)(r:cF_):Jr P w K own M0 G0 F0 M G H eM! cf_:=by
 have ne:∀j∈own,i≠j:=λj hj z=>hi (z▸hj);refine⟨⟨s.st.or.set hi r,s.st.mr,z7!⟩,s.x,z7!⟩
 .rw[JE (ne j hj)]at e;exact s.st.dj j hj p e
 .rw[JE (ne j hj)]at e;exact s.fr j hj p e
def Gj(own:k_)(Z:St)(H:Hp):Hp:=λb=>if b∈Jx own Z then none else H b
def Jr.sr(s:b0!):SR K own G k9_ G H Z ρ:=by
 refine⟨s.st.or,⟨fm!,jP_,s.st.or.sub,dr!⟩,xs!⟩
 .unfold Gj at e;show"!6"
  .cases e
  .exact e
 .unfold Gj;rw[IB (a6p hi e)]
def Jr.root(s:b0!){b:xT!}(h:b∈Jx own Z):M b=none/\F0 b=none:=by obtain⟨i,hi,q⟩:=nZ h;exact⟨s.st.dj i hi b q,s.fr i hi b q⟩
def Jr.noF(s:b0!){b:xT!}(h:Gj own Z H b=none):F0 b=none:=by
 unfold Gj at h;split at h
 .rename_i hb;exact(la!).2
 .cases hM:M0 b with
  |none=>exact s.x.free hM h
  |some c=>exact absurd h (s.st.mr.has (s.x.cells b zj_))
def Jr.cellF(s:b0!){b:xT!}{c:Pj}(h:M b=some c):Gj own Z H b=H b/\H b≠none:=by refine⟨?_,s.st.mr.has (by rw[h];simp)⟩;unfold Gj;rw[HQ (λhb=>by rw[(la!).1]at h;cases h)]
def Jr.mr'(s:b0!)(x:z8_):MR P w K M G' H':=⟨λa c e=>by
 obtain⟨Y,L⟩:=s.st.mr.cell a c e;obtain⟨e1,e2⟩:=s.cellF e;refine zk_
 .cases q:G' a with
  |none=>rfl
  |some o=>
   rcases x.new a b9_ with z|z
   .exact absurd Y z
   .rw[e1]at z;exact absurd z e2
 .cases q:H a with
  |none=>exact absurd q e2
  |some o=>exact x.h a o (e1.trans q)⟩
def Jr.x'(s:b0!)(x:z8_):XM M0 G0 F0 M G' H':=by
 refine⟨s.x.g.trans x.g,x.sub,bo_,z9!,s.x.dom,s.x.cells⟩
 .obtain z|z:=x.new b h
  .exact s.x.new b z
  .exact qa!
 .have Y:=s.x.keep b o e hb;refine x.h b o ?_;unfold Gj;rw[Aa_];exact Y
def Jr.after(s:b0!)(r:SR K hx G k9_ G' H' σ ρ'):Jr P w K hx M0 G0 F0 M G' H' σ ρ':=
 ⟨⟨r.or,s.mr' r.ext,λi hi p e=>by
  cases q:M p with
  |none=>rfl
  |some c=>
   obtain⟨e1,e2⟩:=s.cellF q;have:=r.fr i hi p e;rw[e1]at this;exact absurd this e2⟩,s.x' r.ext,λi hi p e=>s.noF (r.fr i hi p e)⟩
end
section
variable{X:Cx}{own bj jn:List Nat}{st:Stmt}{rest body:List Stmt}{e a b c tg o:Expr}{es:List Expr}{pos p2:Pos}{f fa fb fc fo:WE}{fs:WA}{ft fu:WT}{q1 q2 q3:WS}{q:Ae->Option Fl}
def qM{t:TS}(h:iz_)(hw:∀M0 G0 F0 E Z G H ρ M R,Jr X.prog X.w X.K own M0 G0 F0 M G H Z ρ->q1 ρ M R->
  (∀ρ' M' G' σ H',R cS! M'->Jr X.prog X.w X.K bj M0 G0 F0 M' G' H' σ ρ'->E.nx σ H')->(∀d M' v G' H',R a0! M'->XM M0 G0 F0 M' G' H'->MR X.prog X.w X.K M' G' H'->Ax X.K G' d v->E.rt v H')->t E Z H):MS X own bj st q1:=
 ⟨λM0 G0 F0 h1 s Z H E I ⟨G,ρ,M,R,sr,e,k1,k2⟩=>h h1 s Z H E I (hw M0 G0 F0 E Z G H ρ M R sr e k1 k2)⟩
def Ws(q:aT_):WS:=λρ M R=>Ef (q ρ) λr=>R r M
def c0v(h:DS X own bj st q):MS X own bj st (Ws q):=⟨λM0 G0 F0 h1 s Z H E I ⟨G,ρ,M,R,sr,e,k1,k2⟩=>by
 obtain⟨r,e1,e2⟩:=dB e;refine h.ok G k9_ h1 s Z H E I ⟨G,ρ,r,sr.sr,e1,?_⟩;cases r with
 |nx ρ'=>exact λG' σ H' cn=>k1 ρ' M G' σ H' e2 (sr.after cn)
 |rt d=>exact λv G' H' x r=>k2 d M v G' H' e2 (sr.x' x) (sr.mr' x) r⟩
def Bn:WS:=λρ M R=>R aK! M
def Ah(q1 q2:WS):WS:=λρ M R=>q1 ρ M λr M1=>match r with|.nx ai=>q2 ai M1 R|.rt d=>R a0! M1
def bJ:Vk X own own [] Bn:=⟨λM0 G0 F0 h1 s Z H E I ⟨G,ρ,M,R,sr,e,k1,k2⟩=>b3q h1 s Z H E I (k1 ρ M G Z H e sr)⟩
def aF(Y:Ad!)(L:Vk X bj jn rest q2):Vk X own jn mr! (Ah q1 q2):=⟨λM0 G0 F0 h1 s Z H E I ⟨G,ρ,M,R,sr,e,k1,k2⟩=>
 a6z qd! Ad_ h1 s Z H E I ⟨G,ρ,M,_,sr,e,λρ' M' G' σ H' r fg=>⟨G',ρ',M',R,fg,r,k1,k2⟩,λd M' v G' H' r x m q=>k2 d M' v G' H' r x m q⟩⟩
def aG(Y:Ad!):Vk X own bj [st] q1:=⟨λM0 G0 F0=>b3p qd!⟩
def Jr.free{P:yO!}{w:yC!}{K:yQ!}{M0 M:Mh}{G0 F0 G H:Hp}{Z:St}{ρ:Ae}(s:b0!):Jr P w K [] M0 G0 F0 M fn_ H Z ρ:=by
 have o:=s.st.or.full;have sG:Bk G fn_:=λb u e=>by
  unfold Lc;split
  .exact s.st.or.sub b u e
  .exact e
 refine⟨⟨o,⟨λa c e=>?_⟩,ar_⟩,⟨s.x.g.trans sG,o.sub,bo_,s.x.keep,s.x.dom,s.x.cells⟩,ar_⟩
 .obtain⟨Y,L⟩:=s.st.mr.cell a c e;refine⟨?_,L.mono sG rfl⟩;unfold Lc;rw[HQ (λhb=>by rw[(la!).1]at e;cases e)];exact Y
 .unfold Lc at h;split at h
  .rename_i hb;exact .inr (la!).2
  .exact s.x.new b h
def xK(h:Vk X [] jn rest q1):Vk X own jn rest q1:=⟨λM0 G0 F0 h1 s Z H E I ⟨G,ρ,M,R,sr,e,k1,k2⟩=>h.ok M0 G0 F0 h1 s Z H E I ⟨_,ρ,M,R,sr.free,e,k1,k2⟩⟩
def Az(f:WE):WS:=λρ M R=>f ρ M λd M1=>R a0! M1
def bA(h:bY!):MS X own bj mr_ (Az f):=qM (b9j h.ok) λM0 G0 F0 E Z G H ρ M R sr e k1 k2=>
 ⟨G,ρ,M,_,sr.st,e,λd M' v G' H' r x m q=>k2 d M' v G' H' r (sr.x.trans x sr.st.mr) m q⟩
def Qi:WS:=λ_ M R=>R (.rt .non) M
def a3n:MS X own bj r5_ Qi:=qM c4q λM0 G0 F0 E Z G H ρ M R sr e k1 k2=>k2 _ M _ G H e sr.x sr.st.mr Ax.non
def Ao(i:Nat)(f:WE):WS:=λρ M R=>f ρ M λd M1=>R qe_ M1
def aX{i:Nat}(hN:bv!)(hi:ak!)(J:bv_)(h:bY!)(bu:bp!:=by decide)(hs:xf_:=by rfl)
  (hf:X.fn x=true\/X.env.scope.names.lookup x=some .local:=by first|exact .inl rfl|exact .inr rfl|assumption):MS X own own xg! (Ao i f):=
 qM xg_ λM0 G0 F0 E Z G H ρ M R sr e k1 k2=>⟨G,ρ,M,_,sr.st,e,λd M' v G' H' r x m q=>k1 _ M' G' _ H' r ((qf!).set bu q)⟩
def Av(ft:WT)(q1 q2:WS):WS:=λρ M R=>ft ρ M λb M1=>if b then q1 ρ M1 R else q2 ρ M1 R
def bY{b1 b2:b2!}(hc:pQ!)(Y:Vk X own bj b1 q1)(L:Vk X own bj b2 q2):MS X own bj xh! (Av ft q1 q2):=⟨λM0 G0 F0 h1 s Z H E I ⟨G,ρ,M,R,sr,e,k1,k2⟩=>by
 refine c7j hc.ok qd! Ad_ h1 s Z H E I ⟨G,ρ,M,_,sr.st,e,λb M' G' H' r x m=>?_⟩;cases b with
 |true=>exact nA Ah!
 |false=>exact nB Ah!⟩
def Bo(f:WE):WS:=λρ M R=>f ρ M λ_ M1=>R aK! M1
def cF(h:bY!)(hs:r4!:=by rfl):MS X own own (.Expr e pos) (Bo f):=
 qM (vQ h.ok hs) λM0 G0 F0 E Z G H ρ M R sr e k1 k2=>⟨G,ρ,M,_,sr.st,e,λd M' v G' H' r x m q=>k1 ρ M' G' Z H' r qf!⟩
def Fh:WS:=λ_ _ _=>False
def gG:MS X own bj st Fh:=⟨λM0 G0 F0 h1 s Z H E I ⟨G,ρ,M,R,sr,e,k1,k2⟩=>e.elim⟩
def Fy(C:xT!)(x:Str)(fo f:WE):WS:=λρ M R=>f ρ M λy M1=>fo ρ M1 λd M2=>match d with
 |.fn p=>(match M2 p with|some (.obj C' fs)=>C'=C/\bu!<100/\R aK! (Be M2 p qg!)|_=>False)
 |_=>False
def gH(c:d0!)(n:Ee X.K C x)(ho:cQ!)(h:bY!)(hs:swapsWith e (some (.Attribute o x p2)) pos.line X.env=pure false:=by rfl):MS X own own (.Assign [.Attribute o x p2] e pos) (Fy C x fo f):=
 qM (c8r ho.ok h.ok hs) λM0 G0 F0 E Z G H ρ M R sr e k1 k2=>⟨G,ρ,M,_,sr.st,e,λy M1 v G1 H1 r1 x1 m1 q1=>⟨G1,ρ,M1,_,sr.st.grow x1 m1,r1,λd M2 u G2 H2 r2 x2 m2 q2=>by
  cases d<;>first|exact r2.elim|skip
  rename_i p;cases gD q2;dsimp only at r2;split at r2
  .rename_i C' fs hM;obtain⟨hC,hl,r2⟩:=r2;subst hC;obtain⟨_,dx,vs,h3,h4⟩:=m2.cell p _ hM;have ap:bu!=bA_:=MO h4;exact⟨p,_,dx,vs,rfl,h3,c,n,v!,k1 ρ _ G2 Z _ r2 ((Ai_).grow (.write m2 x2.sub hM) (m2.write hM ⟨dx,_,cC,b4v cm_ h4⟩))⟩
  .exact r2.elim⟩⟩
def Lf(M:Mh)(d y v:D):Option Mh:=match d with
 |.fn p=>match M p with
  |some (.dct kvs ep)=>if(fM!).isSome&&decide (aE!<big)then some hW! else none
  |some (.lst xs)=>match y with
   |.int j=>(Dz xs.length j).map λk=>Be M p (.lst (xs.set k v))
   |_=>none
  |_=>none
 |_=>none
def BS(P:yO!)(w:yC!)(K:yQ!):V->V->V->Hp->ms_->Prop:=λo i v H Q=>∃(M:Mh) (G:Hp) (a:xT!) (kvs:i!) (ep:Nat) (d x:D) (k:MK),o=.ref a/\Bk G H/\MR P w K M G H/\M a=some hO!/\Ax K G d i/\Db d=some k/\Ax K G x v/\aE!<big/\
 ∀ay,Hi P w K G kV! a zv_->Q kV!
def c4b(hu:aK_):Wm X (BS X.prog X.w X.K):=by intro h1 s Z H o i v ov iv u Q I ro ri rv h;obtain⟨M,G,a,kvs,ep,d,x,k,rfl,sub,m,e,r,hk,rx,hl,q⟩:=h;cases ro;exact b2e (A:=X.A) a! I m sub e ⟨_,r,ri⟩ hk ⟨_,rx,rv⟩ hl λay s' I' c'=>⟨_,I',q ay c'⟩
def c4o{r r':Zb}(h:Wm X r)(h':Wm X r'):Wm X (λo i v H Q=>r o i v H Q\/r' o i v H Q):=by
 intro h1 s Z H o i v ov iv u Q I ro ri rv q;obtain q|q:=q
 .exact h h1 s Z H o i v ov iv u Q I ro ri rv q
 .exact h' h1 s Z H o i v ov iv u Q I ro ri rv q
def Cf(fo fi f:WE):WS:=λρ M R=>f ρ M λv M1=>fo ρ M1 λd M2=>fi ρ M2 λy M3=>Ef qg_ λM4=>R aK! M4
def dM{fi:WE}(hu:aK_)(ho:cQ!)(hi:ME X own i fi)(h:bY!)
  (ha:∀v,assign Ak! X.env v=(do
   let ov <-holding [v] dP_
   let iv <-holding [v,ov] r9!
   standAt p2
   holding eT_ mv!
   release eT_ []):=by intro _;rfl)
  (hs:swapsWithSole lc_ e pos.line X.env=pure false:=by rfl) (hw:swappedStores lc_ e X.env=pure none:=by rfl)
  (Y:(assignEach lc_ X.env).map A_=[assign Ak! X.env]:=by rfl):MS X own own (.Assign lc_ e pos) (Cf fo fi f):=
 qM (b9l h.ok (b9r ho.ok hi.ok (c4o a6g (c4b hu)) ha) hs hw Y) λM0 G0 F0 E Z G H ρ M R sr e k1 k2=>⟨G,ρ,M,_,sr.st,e,λv M1 vv G1 H1 r1 x1 m1 q1=>⟨G1,ρ,M1,_,sr.st.grow x1 m1,r1,λd M2 dv G2 H2 r2 x2 m2 q2=>
  ⟨G2,ρ,M2,_,(sr.st.grow x1 m1).grow x2 m2,r2,λy M3 yv G3 H3 r3 x3 m3 q3=>by
   obtain⟨M4,e4,r4⟩:=dB r3;have xa:=(Ai_).grow x3 m3;have qd:=q2.mono x3.g;have qv:=(cm_).mono x3.g;unfold Lf at e4;split at e4
   .rename_i p;cases gD qd;split at e4
    .rename_i kvs ep hM;split at e4
     .rename_i hc;rw[IZ,JA]at hc;cases e4;obtain⟨kk,hk⟩:=PR.mp hc.1;exact .inr ⟨M3,G3,p,kvs,ep,y,v,kk,rfl,x3.sub,m3,hM,q3,hk,qv,hc.2,λay c'=>k1 ρ _ G3 Z _ r4 (xa.grow Ak_ (m3.write hM c'))⟩
     .cases e4
    .rename_i xs hM;split at e4
     .rename_i j;cases bG q3;obtain⟨n,e5,rfl⟩:=HU.mp e4;obtain⟨_,vs,h3,h4⟩:=m3.cell p _ hM;exact .inl ⟨p,vs,j,n,rfl,rfl,h3,by rw[<-aL h4];exact e5,k1 ρ _ G3 Z _ r4 (xa.grow Ak_ (m3.write hM ⟨_,cC,wV qv n h4⟩))⟩
     .cases e4
    .cases e4
   .cases e4⟩⟩⟩
def To(i:Nat)(f:WE):WS:=λρ M R=>match ρ[i]? with
 |some (some (.int a))=>f ρ M λd M1=>(match d with|.int b=>R (.nx (ρ.set i (some (.int (a+b))))) M1|_=>False)
 |_=>False
def c0w{i:Nat}(hN:bv!)(hi:ak!)(J:bv_)(h:bY!)(bu:bp!:=by decide)
  (hf:X.fn x=true\/X.env.scope.names.lookup x=some .local:=by first|exact .inl rfl|exact .inr rfl|assumption):MS X own own (.AugAssign dp_ .Add e pos) (To i f):=
 qM (c8s hN hi J h.ok d0b hf) λM0 G0 F0 E Z G H ρ M R sr e k1 k2=>by
  unfold To at e;show"!6"
  .rename_i a oo;obtain⟨v,Y,L⟩:=sr.st.or.at_ i _ oo bu;cases bG L;refine⟨_,Y,G,ρ,M,_,sr.st,e,Al_⟩;cases d<;>first|exact r.elim|skip
   cases bG q;exact⟨a,_,rfl,rfl,k1 _ M' G' _ H' r ((qf!).set bu Ax.int)⟩
  .exact e.elim
def Df(ft:WT)(q:WS):Nat->WS
 |0=>λ_ _ _=>False
 |n+1=>λρ M R=>ft ρ M λb M1=>if b then q ρ M1 (λr M2=>match r with|.nx bi=>Df ft q n bi M2 R|.rt d=>R a0! M2)else R aK! M1
def Jl(ft:WT)(q:WS):WS:=λρ M R=>∃n,Df ft q n ρ M R
def jX(hp:gm_)(hc:pQ!)(hb:Am!):MS X own own se_ (Jl ft q1):=⟨λM0 G0 F0 h1 s Z H E I ⟨G,ρ,M,R,sr,⟨n,e⟩,k1,k2⟩=>by
 refine b9i hp hc.ok (hb.ok M0 G0 F0) h1 s Z H E I ⟨λm σ H'=>∃G' ρ' M',Jr X.prog X.w X.K own M0 G0 F0 M' G' H' σ ρ'/\Df ft q1 m ρ' M' R,⟨n,G,ρ,M,sr,e⟩,?_⟩;rintro m σ H' ⟨G',ρ',M',fg,e'⟩;cases m with
 |zero=>exact e'.elim
 |succ m=>
  refine⟨G',ρ',M',_,fg.st,e',λb M1 G1 H1 r1 x1 m1=>?_⟩;cases b with
  |true=>exact nA ⟨λdb H2=>∃G2 bi M2,Jr X.prog X.w X.K own M0 G0 F0 M2 G2 H2 db bi/\Df ft q1 m bi M2 R,λdb H2 h=>⟨m,OK m,h⟩,G1,ρ',M1,_,fg.grow x1 m1,r1,λbi M2 G2 db H2 r2 zo=>⟨G2,bi,M2,zo,r2⟩,λd M2 v G2 H2 r2 x2 m2 q2=>k2 d M2 v G2 H2 r2 x2 m2 q2⟩
  |false=>exact nB (k1 ρ' M1 G1 σ H1 r1 (fg.grow x1 m1))⟩
end
def DZ(P:yO!)(w:yC!)(K:yQ!)(af:It)(ds:c!)(ck:bf_)(G1:Hp):Prop:=∀(i:Nat) (M':Mh) (G' H':Hp),Bk G1 G'->Bk G' H'->MR P w K M' G' H'->ck M'->
 w7!/\w7_
abbrev WI:=Ae->Mh->(List D->(Mh->Prop)->Mh->Prop)->Prop
inductive FS(P:yO!)(w:yC!)(K:yQ!)(own:k_)(fi:WI)(Z:St)(H:Hp)(R:gn!):Prop
 |mk (G:Hp) (ρ:Ae) (M:Mh) (T:List D->(Mh->Prop)->Mh->Prop) (st:hK!) (e:fi ρ M T) (k:∀ds ck M1 af G1 H1,T ds ck M1->XM M G H M1 G1 H1->MR P w K M1 G1 H1->DZ P w K af ds ck G1->R af H1):FS P w K own fi Z H R
structure MI(X:Cx)(own:k_)(tg iter:Expr)(fi:WI):Prop where
 ok:PI X tg iter (FS X.prog X.w X.K own fi)
section
variable{X:Cx}{own bj jn:List Nat}{st:Stmt}{rest body:List Stmt}{e a b c tg o:Expr}{es:List Expr}{pos p2:Pos}{f fa fb fc fo:WE}{fs:WA}{fi:WI}{ft fu:WT}{q1 q2 q3:WS}{di:Ae->Option (List D)}
def c7q{wi:TI}(h:PI X tg e wi)(hw:∀Z G H R ρ M T,Tl X.prog X.w X.K own G H Z ρ M->fi ρ M T->(∀ds ck M1 af G1 H1,T ds ck M1->XM M G H M1 G1 H1->MR X.prog X.w X.K M1 G1 H1->DZ X.prog X.w X.K af ds ck G1->R af H1)->wi Z H R):MI X own tg e fi:=
 ⟨λh1 s Z H R I ⟨G,ρ,M,T,st,e,k⟩=>h h1 s Z H R I (hw Z G H R ρ M T st e k)⟩
def Il(di:as!):WI:=λρ M T=>Ef (di ρ) λds=>T ds ae! M
def Ze.m{K:yQ!}{af:It}{G1:Hp}(h:Ze K af ds G1):DZ P w K af ds ae! G1:=λi M' G' H' s1 s2 _ _=>h i G' H' s1 s2
def mR(h:DI X own tg e di):MI X own tg e (Il di):=c7q h.ok λZ G H R ρ M T st e k=>by
 obtain⟨ds,e1,e2⟩:=dB e;exact⟨G,ρ,ds,st.or,e1,λaf G1 H1 x f7=>k ds _ M af G1 H1 e2 (.ext x) pP! f7.m⟩
def Ca(f:WE):WI:=λρ M T=>f ρ M λd M1=>match d with
 |.lst xs=>T xs ae! M1
 |.fn p=>(match M1 p with|some (.lst xs)=>T xs (λM=>M p=some T!) M1|_=>False)
 |_=>False
def eB(h:aD_):MI X own tg a (Ca fa):=c7q (b3u h.ok) λZ G H R ρ M T st e k=>⟨G,ρ,M,_,st,e,λd M1 v G1 H1 r1 x1 m1 q1=>by
 cases d<;>first|exact r1.elim|skip
 .obtain⟨p,vs,rfl,q,rr⟩:=bT q1;exact⟨p,rfl,⟨vs,x1.sub.seq q⟩,k _ _ M1 _ G1 H1 r1 x1 m1 (a8j q rr).m⟩
 .rename_i p;cases gD q1;dsimp only at r1;split at r1
  .rename_i xs hM;obtain⟨_,vs,Y,L⟩:=m1.cell p _ hM;refine⟨p,rfl,⟨vs,Fx.of Y⟩,k _ _ M1 _ G1 H1 r1 x1 m1 λi M' G' H' s1 s2 m' ck=>?_⟩;obtain⟨_,gf,h3,h4⟩:=m'.cell p _ ck;have q':Fx X.K H' p gf:=Fx.of h3;refine⟨ep_,λhi=>⟨gf,q',by rw[<-aL h4,hi];exact IM _⟩⟩;obtain⟨v,g1,g2⟩:=iS h4 hd;refine⟨⟨gf,v,q',g1⟩,hk_⟩;obtain⟨e1,e2⟩:=hy;subst e1;have:=e2 gf q';rw[g1]at this;cases this;exact⟨G',j9!,g2⟩
  .exact r1.elim⟩
def Ib(bnd:ai!)(ck:bf_)(q:WS):List D->WS
 |[]=>λρ M R=>ck M/\R aK! M
 |d::ds=>λρ M R=>ck M/\Ef ka_ λai=>q ai M λr M1=>match r with|.nx bi=>Ib bnd ck q ds bi M1 R|.rt d=>R a0! M1
def Dj(fi:WI)(bnd:ai!)(q:WS):WS:=λρ M R=>fi ρ M λds ck M1=>Ib bnd ck q ds ρ M1 R
def FN(K:yQ!)(own:k_)(g:TG)(bnd:ai!):Prop:=∀{P:yO!} {w:yC!} {x:V} {d:D} {Z:St} {M0 M:Mh} {G0 F0 G H:Hp} {ρ ai:Ae} {Q:iA_},Jr P w K own M0 G0 F0 M G H Z ρ->Ax K G d x->bnd d ρ=some ai->(∀dw,Jr P w K own M0 G0 F0 M G H dw ai->Q dw H)->g x Z H Q
def dH{K:yQ!}(i:Nat)(hi:bp!:=by decide):FN K own eT! (Cg i):=by intro P w x d Z M0 M G0 F0 G H ρ ai Q sr r e k;cases e;exact k _ (sr.set hi r)
def We(i j:Nat):D->Ae->Option Ae:=λd ρ=>match d with|.tup [x,y]=>some ((ρ.set i eU!).set j (some y))|_=>none
def c2d{K:yQ!}(i j:Nat)(hi:bp!:=by decide)(hj:j∉own:=by decide):FN K own w9_ (We i j):=by
 intro P w x d Z M0 M G0 F0 G H ρ ai Q sr r e k;unfold We at e;show"!6"
 .cases e;show"!X";show"!4";exact⟨p,[v1,v2],rfl,cD sr.st.or.sub q,rfl,v1,[v2],rfl,v2,[],rfl,rfl,k _ ((sr.set hi r1).set hj r2)⟩
 .cases e
def Jr.base{K:yQ!}{M0 M1:Mh}{G0 F0 G1 H1:Hp}{Z:St}{ρ:Ae}(s:qi!):Jr P w K own M1 G1 hY! M1 G1 H1 Z ρ:=
 ⟨s.st,⟨Bk.refl _,s.st.or.sub,dr!,λb o e _=>s.sr.ext.h b o e,dr!,λb h=>h⟩,λi hi p e=>s.sr.fr i hi p e⟩
def Jr.unx{K:yQ!}{M0 M1 M':Mh}{G0 F0 G1 H1 G' H':Hp}{Z:St}{ρ:Ae}(s:qi!)(y:XM M1 G1 hY! M' G' H'):XM M0 G0 F0 M' G' H':=by
 refine⟨s.x.g.trans y.g,y.sub,bo_,z9!,bo_,λb h=>y.cells b (s.x.cells b h)⟩
 .obtain z|z:=y.new b h
  .exact s.x.new b z
  .exact qa!
 .refine y.keep b o ?_ ?_
  .unfold Gj;rw[Aa_];exact s.x.keep b o e hb
  .cases q:M1 b with
   |none=>rfl
   |some c=>
    rcases s.x.dom b b9_ with z|z
    .exact absurd hb z
    .rw[e]at z;cases z
 .obtain z|z:=y.dom b h
  .exact s.x.dom b z
  .exact qa!
def Jr.unbase{K:yQ!}{M0 M1 M':Mh}{G0 F0 G1 H1 G' H':Hp}{Z σ:St}{ρ ρ':Ae}(s:qi!)(s':Jr P w K bj M1 G1 hY! M' G' H' σ ρ'):Jr P w K bj M0 G0 F0 M' G' H' σ ρ':=
 ⟨s'.st,s.unx s'.x,λi hi p e=>s.noF (s'.fr i hi p e)⟩
def eS{g:TG}{bnd:ai!}(hp:gm_)(hc:a4!)(be:qi_)(hg:mw!)(ny:FN X.K own g bnd)(hb:Am!)
  (hs:c7!:=by intro _;rfl):MS X own own sz_ (Dj fi bnd q1):=⟨λM0 G0 F0 h1 s Z H E I ⟨G,ρ,M,R,sr,e,k1,k2⟩=>by
 have dr:Uo X body (λE Z H=>∃A B C,DJ X.prog X.w X.K A B C own own q1 E Z H):=λh1 s Z H E I ⟨A,B,C,h⟩=>hb.ok A B C h1 s Z H E I h;refine b9k hp hc be.ok hg dr hs h1 s Z H E I ⟨G,ρ,M,_,sr.st,e,λds ck M1 af G1 H1 r1 x1 m1 f7=>?_⟩;have zp:=sr.grow x1 m1;refine⟨λn m σ H'=>n<=h!/\m=h! - n/\∃G' ρ' M',Jr X.prog X.w X.K own M1 G1 hY! M' G' H' σ ρ'/\Ib bnd ck q1 oj! ρ' M' R,
  ⟨h!,JS _,rfl,G1,ρ,M1,zp.base,r1⟩,?_⟩
 rintro n m σ H' ⟨hn,rfl,G',ρ',M',fg,e3⟩;have cr:ck M':=by
  cases hd:ds.drop n with
  |nil=>rw[hd]at e3;exact e3.1
  |cons _ _=>rw[hd]at e3;exact e3.1
 obtain⟨nh,nj⟩:=f7 n M' G' H' fg.x.g fg.st.or.sub fg.st.mr cr;by_cases am:n<h!
 .right;have hd:ds[n]?=some ds[n]:=by simp[am]
  rw[MC am]at e3;obtain⟨_,e3⟩:=e3;obtain⟨ai,e4,e3⟩:=dB e3;obtain⟨go,yl⟩:=nh _ hd;refine⟨go,λdb H2=>∃G2 bi M2,Jr X.prog X.w X.K own M1 G1 hY! M2 G2 H2 db bi/\Ib bnd ck q1 (ds.drop cJ_) bi M2 R,λdb H2 ⟨G2,bi,M2,Y,h3⟩=>⟨h! - cJ_,v!,am,rfl,G2,bi,M2,Y,h3⟩,kb!⟩;obtain⟨G2,x2,r2⟩:=yl v H2 hy;have zo:=fg.grow k2! (fg.st.mr.ext x2);exact ny zo r2 e4 λgq xa=>⟨M1,G1,Gj own Z H1,G2,ai,M',_,xa,e3,λuh M4 G4 σ4 H4 r4 Z0=>⟨G4,uh,M4,Z0,r4⟩,λd M4 v G4 H4 r4 x4 m4 q4=>k2 d M4 v G4 H4 r4 (zp.unx x4) m4 q4⟩
 .left;have iy:n=h!:=by omega
  refine o0_;rw[iy,QF]at e3;exact k1 ρ' M' G' σ H' e3.2 (zp.unbase fg)⟩
def Rn(bnd:ai!)(ck:bf_)(ft:WT)(fe:WE)(ρ:Ae):List D->Mh->zm_->Prop
 |[],M,R=>ck M/\R [] M
 |d::ds,M,R=>ck M/\Ef ka_ λai=>ft ai M λb M1=>if b then fe ai M1 λy M2=>Rn bnd ck ft fe ρ ds M2 λys M3=>R (y::ys) M3 else Rn bnd ck ft fe ρ ds M1 R
def Bg(nl:Nat)(ix:k_)(fi:WI)(bnd:ai!)(ft:WT)(fe:WE):WE:=λρ M R=>fi ρ M λds ck M1=>h!<=big/\Rn bnd ck ft fe g9_ ds M1 λys M2=>R ba_ M2
def b5c{K:yQ!}{af:It}{ds:c!}{ck:bf_}{M1:Mh}{G1 H1:Hp}{g:TG}{bnd:ai!}{fe:WE}{j8:Ae}{tj:St}{Fin:c0_}{R:kS!}
  (hb:h!<=big)(f7:DZ P w K af ds ck G1)(hg:GD K g bnd)(er:Tl P w K [] G1 H1 tj j8 M1)(e:Rn bnd ck ft fe j8 ds M1 R)(k:∀jm ys M' G' H',R jm M'->XM M1 G1 H1 M' G' H'->MR P w K M' G' H'->Am K G' jm ys->jm.length<=h!->Fin ys H'):
  Wf af g (Zh P w K [] ft) (BG P w K [] fe) Fin tj H1:=by
 refine⟨λi m ys σ H'=>i<=h!/\m=h! - i/\∃G' M' ws,XM M1 G1 H1 M' G' H'/\Tl P w K [] G' H' σ j8 M'/\Am K G' ws ys/\np_<=i/\Rn bnd ck ft fe j8 (ds.drop i) M' λr M2=>R (ws++r) M2,
  ⟨h!,JS _,rfl,G1,M1,[],.refl er.or.sub,er,Am.nil,JS _,e⟩,?_⟩
 rintro i m ys σ H' ⟨hi,rfl,G',M',ws,x,cn,ak,hw,e2⟩;refine xa_;have cr:ck M':=by
  cases hd:ds.drop i with
  |nil=>rw[hd]at e2;exact e2.1
  |cons _ _=>rw[hd]at e2;exact e2.1
 obtain⟨nh,nj⟩:=f7 i M' G' H' x.g cn.or.sub cn.mr cr;by_cases am:i<h!
 .right;have hd:ds[i]?=some ds[i]:=by simp[am]
  rw[MC am]at e2;obtain⟨_,e2⟩:=e2;obtain⟨ai,e1,e2⟩:=dB e2;obtain⟨go,yl⟩:=nh _ hd;refine⟨go,kb!⟩;obtain⟨G2,x2,r2⟩:=yl v H2 hy;have cj:=cn.grow k2! (cn.mr.ext x2);have Z1:XM M1 G1 H1 M' G2 H2:=x.trans k2! cn.mr;refine hg cj.or r2 e1 λdw ng tz=>⟨G2,ai,M',_,Ar!,e2,λb M3 G3 H3 r3 x3 m3=>?_⟩;have j9:=(show Tl P w K [] G2 H2 dw ai M' from Ar!).grow x3 m3;have ll:=Z1.trans x3 cj.mr;cases b with
  |true=>
   refine nA ⟨G3,ai,M3,_,j9,r3,λy M4 u G4 H4 r4 x4 m4 q4=>⟨h! - a5!,v!,am,rfl,G4,M4,ws++[y],ll.trans x4 m3,⟨(j9.grow x4 m4).or.le tz,m4,ar_⟩,?_,?_,?_⟩⟩
   .exact dG xb! (Am.cons q4 Am.nil)
   .rw[IG,KZ];omega
   .have e5:(λr M2=>R (ws++[y]++r) M2)=λr M2=>R (ws++y::r) M2:=by
     funext r M2;rw[KA];rfl
    rw[e5];exact r4
  |false=>
   exact nB ⟨h! - a5!,v!,am,rfl,G3,M3,ws,ll,⟨j9.or.le tz,m3,ar_⟩,(oT!).mono x3.g,v!,r3⟩
 .left;have iy:i=h!:=by omega
  refine o0_;rw[iy,QF]at e2;have this:R (ws++[]) M':=e2.2;rw[IR]at this;exact k ws ys M' G' H' this x cn.mr ak a!
def fQ{scope:Scope}{NL:q!}{ix:k_}{g:TG}{bnd:ai!}{fe:WE}
  (cm:di_)(cg:dj!)(j7:∀y∈ca_,y.2=.local->scope.names.lookup y.1=some .local)
  (ik:g3!)(cap:di!)(nv:jR!)(calm:a4!)(be:qi_)
  (hg:g3_)(ny:oT_)(hi:As!)(he:As_)
  (hs:c7!:=by intro _;rfl):
  ME X own g2! At!:=
 fB xc_ λZ G H Q ρ M R st e k=>⟨G,ρ,M,_,st,e,λds ck M1 af G1 H1 r1 x1 m1 f7=>by
  obtain⟨hb,r1⟩:=r1;have p9:=st.grow x1 m1;refine b5c hb f7 ny At_ r1 λjm ys M' G' H' r x m q _ p hp=>?_;exact k _ M' _ _ _ r ((x1.trans x m1).trans (.ext hm!) m) (m.ext hm!) (dQ oU! q)⟩
def oQ:Qd X [] (Zh X.prog X.w X.K [] λρ M R=>R true M):=λh1 s Z H Q I ⟨G,ρ,M,R,st,e,k⟩=>a7b h1 s Z H Q I (k true M G H e pP_ st.mr)
def oP(h:MT X [] c ft):Qd X [c] Ar_:=a7a h.ok
abbrev WF:=List D->Mh->zn!->Prop
def Xy(P:yO!)(w:yC!)(K:yQ!)(n:Nat)(g:WF):Sp:=λvs H Q _=>bA_=n/\∃G ds M R,Bk G H/\MR P w K M G H/\Am K G ds vs/\g ds M R/\∀d M' v G' H',R d M'->XM M G H M' G' H'->MR P w K M' G' H'->Ax K G' d v->Q v H'
def Js(P:yO!)(w:yC!)(K:yQ!)(mg:z!)(base:Heap)(k:Nat)(x:Str)(ps:q!)(g:WF):Prop:=
 ∃ae fd,Fo P w K mg base Qf k ae fd ps ql!/\Fc K fd ps []/\mg x=some bT!/\W.keepIn K bT!=true
nonrec def gl(g:ah_):WF:=λds M R=>Ef (g ds) λd=>R d M
def Aj(n:Nat)(g:WF)(fs:WA):WE:=λρ M R=>fs ρ M λds M1=>h!=n/\g ds M1 R
def aO{k:Nat}{ps:q!}{g:WF}{x:Str}(F:Js X.prog X.w X.K X.mg X.base k x ps g)(hr:b6_)(hg:Y!)(ha:hR!)
  (bg:F_:=by decide)(he:ay_:=by rfl)(a7:a6_:=by rfl):
  ME X own bB! (Aj ps.length g fs):=by
 obtain⟨ae,fd,Y,L,h3,h4⟩:=F;refine fB (b3y Y hr hg h3 h4 L .nil wZ ha.ok bg he a7) λZ G H Q ρ M R st e' k=>⟨G,ρ,M,_,st,e',λds M1 vs G1 H1 r1 x1 m1 q1=>?_⟩;show Xy X.prog X.w X.K ps.length g (vs++[]) H1 Q E0;rw[IR];exact⟨by rw[<-aL q1];exact r1.1,G1,ds,M1,R,x1.sub,m1,q1,r1.2,zs!⟩
def Dt(P:yO!)(w:yC!)(K:yQ!)(mg:z!)(base:Heap)(k:Nat)(C:xT!)(m:Str)(ps:q!)(g:WF):Prop:=
 Ut K C/\∃ae fd,Wp K C m ae/\Fo P w K mg base Qf k ae fd ps ql!/\Fc K fd ps []
def Dg(C:xT!)(m:Str)(M:Mh)(d:D):Prop:=match d with
 |.fn p=>(match M p with|some (.obj C' fs)=>C'=C/\fs.lookup m=none|_=>False)
 |_=>False
def a8k{K:yQ!}{M:Mh}{G H:Hp}(mr:cm!)(r:cF_)(h:lf_):∃p dx vs,d=.fn p/\v=.ref p/\H p=some zg!/\vs.lookup m=none:=by
 unfold Dg at h;split at h
 .rename_i p;cases gD r;split at h
  .rename_i C' fs hM;obtain⟨rfl,hl⟩:=h;obtain⟨_,dx,vs,Y,L⟩:=mr.cell p _ hM;exact⟨p,dx,vs,rfl,rfl,Y,a8s L hl⟩
  .exact h.elim
 .exact h.elim
def Bb(C:xT!)(m:Str)(n:Nat)(g:WF)(fo:WE)(fs:WA):WE:=λρ M R=>fo ρ M λd M1=>Dg C m M1 d/\fs ρ M1 λds M2=>h!+1=n/\g ee! M2 R
def bU{k:Nat}{ps:q!}{g:WF}{aj:Pos}{pl:dZ!}(F:Av!)(hr:b6_)(ho:cQ!)(ha:hR!)
  (b8:ay_:=by rfl)(a7:a6_:=by rfl)
  (ht:eval i5! X.env=(do
   let ov <-eval o X.env
   standAt gD!
   let(f,first) <-holding [ov] gD_
   callWith pos f first tR_ e4!):=by rfl):ME X own i5! (Bb C m ps.length g fo fs):=by
 obtain⟨cl,ae,fd,Y,L,h3⟩:=F;refine fB (c4w (pl:=pl) ho.ok cl Y L hr h3 .nil wZ ha.ok b8 a7 ht) λZ G H Q ρ M R st e' k=>Av_;show"!m";refine⟨p,dx,vs,rfl,hH,hl,G1,ρ,M1,_,kT_,r1,λds M2 us G2 H2 r2 x2 m2 q2=>?_⟩;show Xy X.prog X.w X.K ps.length g (.ref p::(us++[])) H2 Q E0;rw[IR];exact⟨by rw[IE,<-aL q2];exact r2.1,G2,.fn p::ds,M2,R,x2.sub,m2,Am.cons Ax.fn q2,r2.2,λd M3 v G3 H3 r3 x3 m3 q3=>k d M3 v G3 H3 r3 p5_ m3 q3⟩
def a7u{k:Nat}{ps:q!}{g:WF}{aj:Pos}{pl:dZ!}(F:Av!)(hr:b6_)(ho:cQ!)
  (ht:eval i5_ X.env=(do
   let ov <-eval o X.env
   standAt gD!
   let(f,first) <-holding [ov] gD_
   callWith pos f first nj_ e4!):=by rfl):ME X own i5_ (Bb C m ps.length g fo Af):=by
 obtain⟨cl,ae,fd,Y,L,h3⟩:=F;refine fB (b9z (pl:=pl) ho.ok cl Y L hr h3 .nil wZ ht) λZ G H Q ρ M R st e' k=>Av_;show"!m";refine⟨p,dx,vs,rfl,hH,hl,?_⟩;show Xy X.prog X.w X.K ps.length g gR! H1 Q E0;have r2:[].length+1=V_/\g (D.fn p::[]) M1 R:=r1;exact⟨r2.1,G1,[.fn p],M1,R,x1.sub,m1,Am.cons Ax.fn Am.nil,r2.2,λd M3 v G3 H3 r3 x3 m3 q3=>k d M3 v G3 H3 r3 (x1.trans x3 m1) m3 q3⟩
def Wo(P:yO!)(w:yC!)(K:yQ!)(mg:z!)(base:Heap)(k:Nat)(x:Str)(C:xT!)(ps:q!)(g:WF):Prop:=
 mg x=some ay!/\∃ae fd,Mk K C ae/\Fo P w K mg base Qf k ae fd ps ql!/\Fc K fd ps []
def Gf(C:xT!)(n:Nat)(g:WF)(fs:WA):WE:=λρ M R=>fs ρ M λds M1=>h!+1=n/\∀p,M1 p=none->g (.fn p::ds) (Be M1 p lg!) λd M2=>d=.non/\R D_ M2
def c1d{K:yQ!}{M1:Mh}{G1 H1:Hp}(sub:Bk G1 H1)(m1:zj!)(J:H1 x=none)(jr:H1 dx=none)(ne:dx≠x):
  XM M1 G1 H1 (Be M1 x lg!) G1 nh!/\MR P w K (Be M1 x lg!) G1 nh!:=by
 have ar:∀b o,H1 b=some o->upd tK! x ng_ b=some o:=λb o e=>by rw[bD (cN e J),bD (cN e jr)];exact e
 refine⟨⟨Bk.refl G1,λb o e=>ar b o (sub b o e),dr!,λb o e _=>ar b o e,bo_,bo_⟩,⟨λb q e=>?_⟩⟩
 .by_cases hb:b=x
  .subst hb;exact .inr J
  .rw[bs_]at h;exact .inl h
 .by_cases hb:b=x
  .subst hb;rw[mup_same];simp
  .rw[bs_];exact h
 .by_cases hb:b=x
  .show"#'";exact⟨sub.free J,dx,[],cC,.nil⟩
  .rw[bs_]at e;obtain⟨Y,L⟩:=m1.cell b q e;refine⟨Y,L.mono (Bk.refl G1) ?_⟩;cases hq:H1 b with
   |none=>exact absurd hq L.has
   |some o=>exact ar b o hq
def a3s{k:Nat}{x:Str}{ps:q!}{g:WF}(F:Ax!)(hr:gG!)(hg:Y!)(ha:hR!)
  (bg:F_:=by decide)(he:ay_:=by rfl)(a7:a6_:=by rfl):ME X own bB! (Gf C ps.length g fs):=by
 obtain⟨hm,ae,fd,Y,L,h3⟩:=F;refine fB (c4x Y L hr hg hm h3 .nil wZ ha.ok bg he a7) λZ G H Q ρ M R st e' k=>⟨G,ρ,M,_,st,e',λds M1 vs G1 H1 r1 x1 m1 q1=>λy dx hy jr ne=>?_⟩;obtain⟨z1,z2⟩:=c1d (C:=C) x1.sub m1 hy jr ne;rw[IR];exact⟨by rw[IE,<-aL q1];exact r1.1,G1,.fn y::ds,_,_,z1.sub,z2,Am.cons Ax.fn q1,r1.2 y (m1.nocell hy),λd M2 v G2 H2 r2 x2 m2 q2=>by
  obtain⟨rfl,r2⟩:=r2;exact⟨eH q2,k _ M2 _ G2 H2 r2 ((x1.trans z1 m1).trans x2 z2) m2 Ax.fn⟩⟩
def mS{k:Nat}{x:Str}{ps:q!}{g:WF}(F:Ax!)(hr:gG!)(hg:Y!)
  (bg:F_:=by decide):ME X own tX_ (Gf C ps.length g Af):=by
 obtain⟨hm,ae,fd,Y,L,h3⟩:=F;refine fB (c0a Y L hr hg hm h3 .nil wZ bg) λZ G H Q ρ M R st e' k=>λy dx hy jr ne=>?_;obtain⟨z1,z2⟩:=c1d (C:=C) st.or.sub st.mr hy jr ne;have r1:[].length+1=V_/\∀p,M p=none->g (D.fn p::[]) (Be M p lg!) λd M2=>d=.non/\R D_ M2:=e';exact⟨r1.1,G,[.fn y],_,_,z1.sub,z2,Am.cons Ax.fn Am.nil,r1.2 y (st.mr.nocell hy),λd M2 v G2 H2 r2 x2 m2 q2=>by
  obtain⟨rfl,r2⟩:=r2;exact⟨eH q2,k _ M2 _ G2 H2 r2 (z1.trans x2 z2) m2 Ax.fn⟩⟩
def Bw(N:q!)(n:Nat)(q:WS):WF:=λds M R=>h!=n/\q hp_ M λr M'=>match r with|.rt d=>R d M'|.nx _=>R .non M'
end
def vY{K:yQ!}{mg:z!}{st:Stmt}{ps:q!}{k:Nat}{hx:k_}{q:WS}
  (F:xt_)(S:d9!)
  (hb:∀(ag:yB!) (A:yn!) (outer:aw_) (s:yP!) (H:Hp) (E:XK),Al k o1!->Vk (o1_).nox [] hx bQ! q):
  Fo P w K mg base Qf V! ae fd ps (Xy P w K ps.length lh!):=by
 refine xu!;obtain⟨hl,G,ds,M,R,sub,m,r,e,kk⟩:=h;refine⟨_,(xu_).ok M G H,?_⟩;have er:=a6d (N:=N) sub r;exact⟨G,_,M,_,⟨⟨er,m,ar_⟩,.refl sub,ar_⟩,e.2,λρ' M' G' σ H' r sr=>kk _ M' _ G' H' r sr.x sr.st.mr Ax.non,λd M' v G' H' r x m q=>kk d M' v G' H' r x m q⟩
section
variable{P:yO!}{w:yC!}{A:yn!}{E:Value->Shared->Prop}{s:yP!}{d it:xT!}{es:List DictEntry}{ep i:Nat}
def Pi.at{h h':Heap}(D:Pi h d es ep)(e:∀o,h.get? d=some o->h'.get? d=some o):Pi h' d es ep:=let⟨o,ho,r⟩:=D;⟨o,e o ho,r⟩
def c1v{Q:q_}(hd:Ay_)(D:qn!)
  (h:Q c6_ {s with heap:=s.heap.push {cls:=.type "dict_keyiterator",data:=.fields #[.ref d,.int 0 0,.int es.length 0,.int ep 0]}}):wpAny G_ A (pyIter (.ref d)) Q E s:=by
 have hT:=D.typeIs;obtain⟨o,ho,hc,VU⟩:=id D;refine wpAny_pyIter_slot hT PySem.F.slot_dict_iter (JO PySem.F.slot_dict_iter hT PySem.F.entry_dict_iter ?_ (PySem.F.args_dict_iter_1 _));unfold Builtin.«dict.__iter__» Builtin.Dict.dictSlotNone;refine HI pS_;show wpAny G_ A.in1 (Builtin.Dict.showsAll d>>=_) _ _ s;unfold Builtin.Dict.showsAll;rw[HQ (by rw[hd];exact IN)];refine HI (HK (HI (LX ho VU (HI (LY ho VU (HI (KN (HK ⟨_,rfl,"dict_keyiterator",_,pd_,KM.lookup,?_⟩))))))));simpa[rawInt]using h
def a7o{Q:fz_}{e:DictEntry}(be:AA_)(D:qn!)(J:es[i]?=some e)
  (h:∀h',h'.IsKeyIter it d a5! es.length ep->Heap.SameBut it s.heap h'->Q (some e.key) {s with heap:=h'}):wpAny G_ A iF_ Q E s:=by
 show"!Y";obtain⟨am,me⟩:=IL.mp J;show"#,"
 first|refine HI (MQ hT li!)|refine HI (OF hT li!)
 show"!V";refine HI AF_;rw[am_];refine HK ?_;simp only[AG!,JL,NJ,LZ,J];refine HI ?_
 first|refine HI (MQ hT AG_)|refine HI (OF hT AG_)
 show wpAny G_ A.in1 (setField b4_ 1 AH!>>=_) _ _ s;have mf:(s.heap.update it AH_).IsKeyIter it d a5! es.length ep:=
  ⟨_,NU _ ho (Obj.isFreed_of_fields (QD hd _)),(xW!).trans hc,by rw[QD hd];simp[rawInt]⟩
 refine HI (RG ho hd d! (HI (JN (HI (QX (s:={s with heap:=s.heap.update it AH_}) mf.typeIs ?_)))));exact HK (HK ⟨_,rfl,HK (h _ mf et_)⟩)
def b4w{Q:fz_}(hh:dc!)(be:AA_)(D:qn!)(J:ai_<=i)
  (h:∀h',Heap.ExtBut it s.heap h'->Q none {s with heap:=h'}):wpAny G_ A iF_ Q E s:=by
 show"!Y";show"#,"
 first|refine HI (MQ hT li!)|refine HI (OF hT li!)
 show"!V";refine HI AF_;rw[am_];refine HK ?_;simp only[AG!,JL,NJ,LZ,JW J];refine HI ?_
 first|refine HI (MQ hT ac!)|refine HI (OF hT ac!)
 show wpAny G_ A.in1 (setField b4_ 0 .none>>=_) _ _ s;refine HI (RG ho hd d! ?_);refine HI ?_;simp only[newExc,newTuple];refine HI (KN (HI (m:=xX!) (wpAny_of_eq (a:=dE_) xX_ (KN ?_ ku!))) ku!);simp only[raiseNew];refine HI xY!;rw[xY_];refine HI xZ!;refine HI (wpAny_isInstance (T:=yg!) (b:=true) (show Shared.TypeIs _ _ _ from pd_) isSubtype_stop ?_);exact HK (h _ x0!)
def b5o(hh:dc!)(I d:xT!)(ce:d≠I)(es:ad_)(ep:Nat):Walks P w A I [I,d] [I] es.length qo_ (λi h=>h.IsKeyIter I d i es.length ep/\Pi h d es ep) where
 sub:=λb hb=>by simp at hb;simp[hb]
 frame:=λ_ _ _ st hk=>⟨st.1.at λo e=>hk I d! o e,st.2.at λo e=>hk d d! o e⟩
 item:=λi s Q E hi st hQ=>by
  refine a7o st.1 st.2 (II hi) λh' mf b6=>?_;exact hQ _ h' s.toks ⟨_,II hi,rfl⟩ ⟨mf,st.2.at λo e=>(b6.2 d ce).trans e⟩ λb o hb e=>(b6.2 b gp_).trans e
 done:=λs Q E st hQ=>b4w hh st.1 st.2 y! λh' cp=>hQ h' s.toks λb o hb e=>cp b o gp_ e
 self:=λ_ _ _ _ st hQ=>wpAny_pyIter_keyiter st.1 hQ
def d0u{es ay:ad_}{bd:Nat}(D:Pi h d es ep)(D':Pi h d ay bd):es=ay/\ep=bd:=by
 obtain⟨o,Y,_,L⟩:=D;obtain⟨o',h3,_,h4⟩:=D';rw[Y]at h3;cases h3;rw[L]at h4;injection h4 with h5 h6
 exact⟨by simpa using congrArg Array.toList h5,h6⟩
def GK(d:xT!)(ep n:Nat):It:=⟨λi H=>∃es e x,H d=some dB!/\ai_=n/\es[i]?=some e/\Bu x e.key,λi H x H'=>H'=H/\∀es,H d=some dB!->∃e,es[i]?=some e/\Bu x e.key,λi H=>∃es,H d=some dB!/\ai_=n/\n<=i⟩
def a5j{P:yO!}{w:yC!}{H:Hp}{es:ad_}(hok:bu_)(e:H d=some dB!):Pi h d es ep:=by obtain⟨⟨h3,_⟩,_⟩:=(show Fg P w H h d dB! from hok d _ e);exact h3
def b8g{P:yO!}{w:yC!}{K:yQ!}{tg:Expr}{n:Nat}(d it:xT!):Tk P w K tg (GK d ep n) [it] it (λi h=>h.IsKeyIter it d i n ep) where
 mem:=by simp
 obj:=λi h st b hb=>by
  have e:b=it:=by simpa using hb
  subst e;show"#!"
 keep:=λi h h' st k=>st.at λo e=>k it d! o e
 item:=by
  intro X hP hw hK hc i h1 s Z H E I hf st hg;subst hP hw hK;obtain⟨es,e,x,hH,hl,J,rx⟩:=hg;have D:=a5j I.hok hH;obtain⟨f0,f1,f2,f3,f4,f5⟩:=hf it d!;subst hl;refine a7o st D J λh' h2 sb=>?_;have I1:Inv X h1 Z H {s with heap:=h'}:=I.turned (t':=s.toks) sm_ f0 f1 f3 f4 f5;obtain⟨o,eo,c,dd⟩:=id h2;exact⟨_,rfl,c2b (s:=mB_) eo c dd b_ ⟨x,H,I1,rx,⟨rfl,λay hy=>by
   obtain⟨rfl,_⟩:=d0u D (a5j I.hok hy);exact⟨e,J,rx⟩⟩,h2,λb hb=>(pm_).1⟩⟩
 done:=by
  show"!/";obtain⟨es,hH,hl,J⟩:=hg;show"!2";subst hl;exact b4w bK_ st (a5j I.hok hH) J λh' eb=>mD!
 self:=λ_ _ _ _ _ st h=>wpAny_pyIter_keyiter st h
end
section
variable{X:Cx}{own:List Nat}{a tg:Expr}{fa:WE}
def Ir(f:WE):WI:=λρ M T=>f ρ M λd M1=>Ef hT! λq=>T h1_ (λM=>M q.1=some p2_) M1
def a3p(h:aD_):MI X own tg a (Ir fa):=⟨by
 intro h1 s Z H R I ⟨G,ρ,M,T,st,e,k⟩;refine h.run I st e λd M1 v G1 H1 u s1 r1 x1 m1 q1 I1 rx=>?_;obtain⟨⟨p,kvs,ep⟩,e1,r2⟩:=dB r1;obtain⟨rfl,rfl,hM⟩:=cM q1 e1;cases rx;obtain⟨es,Y,L,h3,h4,h5,h6⟩:=eM I1 m1 x1.sub hM;have ap:aE!=ai_:=MO L.1;refine c1v h4 h3 ⟨D!,[D!],_,GK p ep ai_,H1,rfl,mE_,b8g p _,eV_,by_,k _ _ M1 _ G1 H1 r2 x1 m1 λi M' G' H' s2 s3 m' ck=>?_⟩
 .have e:b=D!:=by simpa using hb
  show"!n"
 .obtain⟨_,ay,g1,g2⟩:=m'.cell p _ ck;have hlen':aE!=ay.length:=MO g2.1;refine⟨ep_,λhi=>⟨ay,g1,v!,by rw[hi,IK];show ai_<=aE!;omega⟩⟩;rw[JC]at hd;obtain⟨q,hq,rfl⟩:=HU.mp hd;obtain⟨e',cp,⟨v,r1,rv⟩,_,_⟩:=gN g2.1 hq;refine⟨⟨ay,e',v,g1,v!,cp,rv⟩,hk_⟩;obtain⟨z1,z2⟩:=hy;subst z1;obtain⟨e2,wv,rx⟩:=z2 ay g1;rw[cp]at wv;cases wv;rw[rx.inj rv];exact⟨G',Co.refl s3,r1⟩⟩
end
section
variable{X:Cx}{h1:List (Addr×Obj)}{Z:St}{H:Hp}{s:yP!}
def kE{L:Heap}{t':Nat}{wr:aw!}(I:d_)(hf:∀b∈wr,Jg X h1 H b)(kp:∀c o,c∉wr->s.heap.get? c=some o->L.get? c=some o):Inv X h1 Z H {s with heap:=L,toks:=t'}:=by
 refine I.step (g':=s.gens) (d':=s.drawn) (t':=t') (ch:=wr) hz_ pi_ pj! ip! pj_ ip_ iq! pk! ir! hA! I.bare
 .obtain⟨f0,f1,f2,f3,f4,f5⟩:=hf c hc;exact⟨f3,f1,f4,f5⟩
 .obtain⟨o,es,ep,ho,r⟩:=hm;exact⟨o,es,ep,kp _ o (λz=>(hf _ z).2.1 rfl) ho,r⟩
 .refine(pk_).stay pl! pl_ λ_ _ e'=>e';have hn:=(hf d hm).1;obtain rfl|hd:=hd
  .rw[hn]at e;cases e
  .rw[hn]at hd;cases hd
def c8i{s0:yP!}{xs:n!}{us:i_}(I:Inv X h1 Z H s0)(I1:d_)(hT:AL!<=T)(eT:s.heap.IsTuple T cD!)(rv:ie!)(hz:l_<=sizeLine):Inv X h1 Z (upd H T bH_) s:=by
 have ue:H T=none:=I.hok.fresh hT;have ne:∀c o,H c=some o->c≠T:=λc o e=>cN e ue;refine Inv.step (g':=s.gens) (d':=s.drawn) (t':=s.toks) (h':=s.heap) (ch:=[T]) I1 hz_ yn_ yo! yo_ yp!
  (yp_) yq! yq_ n2! hA! I1.bare
 .have e:c=T:=by simpa using hc
  subst e;obtain⟨_,g1,_,g3,g4,g5⟩:=I.fpOk hT ue;exact⟨g3,g1,g4,g5⟩
 .rw[n2_];exact n
 .by_cases hb:c=T
  .show"!x";exact⟨hz,us,rv,eT⟩
  .rw[bD hb]at e;exact(yr!).stay n3! yr_ λd xs q=>by rw[pn!];exact q
end
def GJ(x:Str):It:=⟨xJ_,λi H v H'=>∃T c,v=.ref T/\H T=none/\x.cps[i]?=some c/\H'=upd H T (.tup [cu!,gO_]),xK!⟩
def a9z{K:yQ!}{jp:bJ_}{n1:Nat}{tp:Pos}{x:Str}{St':dR!}(qk:e≠it)(hd:xL_)
  (D:∀A':Around,o9_=none->Draws P w A' it [it] x.cps.size AM! St'):
  Tk P w K fA! (GJ x) [e,it] e (λi h=>i<=fx!/\(∃ar,IsEnum h e it i ar)/\St' i h) where
 mem:=by simp
 obj:=λi h st b hb=>by
  simp only[HN,JF,KW]at hb;obtain⟨_,⟨ar,s1⟩,s2⟩:=st;obtain rfl|rfl:=hb
  .exact⟨_,s1,jL_⟩
  .exact hd i h s2
 keep:=λi h h' st k=>by
  have W:=WalksT.enumerateD (A:=callerA) (D callerA.in1 rfl) e qk qq_ d!;exact⟨st.1,W.frame i h h' st.2 λb hb o q=>k b gp_ o q⟩
 item:=by
  intro X hP hw hK hc i h1 s Z H E I hf st hg;subst hP hw hK;have hh:=I.ok.hd hc;have W:=WalksT.enumerateD (A:=X.A) AN! e qk qq_ d!;refine W.item i s _ _ hg st.2 λT yx h' tk hP hT Z2 hm kp=>⟨_,rfl,W.go jp n1 tp i T _ _ _ hm λL bh VV=>?_⟩;obtain⟨t,y,⟨c,u,j5,rfl⟩,rfl⟩:=hP;have Z3:∀b∈[e,it],Jg X h1 H b:=hf;have I1:Inv X h1 Z H {s with heap:=L,toks:=tk}:=kE I Z3 λc o hc eo=>VV c o hc (kp c o hc eo);have VW:T∉[e,it]:=W.apart i T _ hm;have eT:L.IsTuple T #[.int i t,.str aq_ u]:=by
   obtain⟨o,eo,r⟩:=Z2;exact⟨o,VV T o VW eo,r⟩
  have I2:=c8i (us:=[.int i t,.str aq_ u]) (xs:=[cu!,gO_]) I I1 hT eT (.cons gW! (.cons ⟨u,rfl⟩ .nil)) (by show 2<=sizeLine;rw[JV];decide);refine⟨.ref T,_,I2,rfl,⟨T,c,rfl,I.hok.fresh hT,j5,rfl⟩,⟨hg,bh⟩,by_⟩;rw[bD (λz:b=T=>VW (by rw[<-z];exact hb))];exact(pm_).1
 done:=by
  show"!/";have hh:=I.ok.hd hc;have W:=WalksT.enumerateD (A:=X.A) AN! e qk qq_ d!;show"#D";exact W.done s _ _ st.2 λh' tk kp=>⟨rfl,kE I hf kp⟩
 self:=λA i s Q E st h=>by
  obtain⟨_,⟨ar,s1⟩,_⟩:=st;exact wpAny_pyIter_enum s1 h
section
variable{X:Cx}{own:List Nat}{a:Expr}{jp:List Expr}{n1:Nat}{tp p pos:Pos}{fa:Ae->Option D}
def Td(f:e!):Ae->Option aR!:=λρ=>(an!).bind λd=>match d with|.str x=>some (x.cps.toList.zipIdx.map λq=>.tup AO_)|_=>none
def c2t(hg:Gl X "enumerate")(hm:X.mg "enumerate"=none)(h:Z_)(hs:starEach [a] X.env=dS_::starEach [] X.env:=by rfl)(a7:(nj_).any c_=false:=by rfl):
  DI X own fA! (.Call (.Name "enumerate" p) [a] [] pos) (Td fa):=⟨by
 intro h1 s Z H R I ⟨G,ρ,ds,er,e,k⟩;obtain⟨d,e1,e2⟩:=HJ.mp e;cases d<;>first|(cases e2;done)|skip
 rename_i x;cases e2;refine Call_ (kS I hg hm boot_enumerate (LM (dL (dZ h.ok gP hs pos h1 s Z H (λvs H1=>∃v G1,vs=[v]/\Co G H G1 H1/\Ax X.K G1 dK_ v) I ⟨G,ρ,_,er,e1,λv G1 H1 x1 r1=>⟨v,G1,rfl,x1,r1⟩⟩) λus s1 ⟨vs,H1,I1,r1,v,G1,q1,x1,rr⟩=>?_) hs a7));subst q1;cases cI rr;obtain⟨u,rfl,t,rfl⟩:=uE r1;refine call_enumerate_str λh' he be hsz hk=>?_;refine wpAny_pyIter_enum he ?_;have I2:Inv X h1 Z H1 {s1 with heap:=h',toks:=s1.toks}:=I1.kept (t':=s1.toks) hk;have oi:∀b∈[D!+1,D!],D!<=b:=λb hb=>by
  simp only[HN,JF,KW]at hb;obtain rfl|rfl:=hb<;>omega
 have fin:∀{St':dR!},St' 0 h'->(∀i h,St' i h->∃o,h.get? D!=some o/\∀v,o.data≠.cell v)->(∀A':Around,o9_=none->Draws X.prog X.w A' s1.heap.objs.size [D!] x.cps.size AM! St')->
   DU X h1 Z fA! R (.ref (D!+1)) {s1 with heap:=h'}:=λ{St'} h0 hd D=>by
  refine⟨_,_,_,GJ x,H1,rfl,I2,a9z (Nat.succ_ne_self _) hd D,⟨JS _,⟨_,he⟩,h0⟩,λb hb=>I1.fpOk (oi b hb) (I1.hok.fresh (oi b hb)),k _ G1 H1 x1 ?_⟩;intro i G' H' g1 g2;refine⟨ep_,λhi=>by rw[IK,List.length_zipIdx,JU]at hi;exact PB hi.symm⟩;rw[JC,List.getElem?_zipIdx]at hd;obtain⟨q,hq,rfl⟩:=HU.mp hd;obtain⟨c,hc,rfl⟩:=HU.mp hq;rw[ND]at hc;refine xL!;obtain⟨T,c',rfl,hT,bv,rfl⟩:=hy;rw[hc]at bv;cases bv;refine⟨_,Co.laid g2 hT,fZ (g2.free hT) (Am.cons ?_ (Am.cons Ax.str Am.nil))⟩;rw[RI];exact Ax.int
 cases ha:x.cps.all (·<128)
 .have mf:h'.IsStrIter s1.heap.objs.size "str_iterator" x t 0:=by simpa[strIterType,ha]using be
  exact fin (St':=λi h=>h.IsStrIter s1.heap.objs.size "str_iterator" x t i) mf AP_ λA' hh=>Draws.strWide hh _ x t
 .have mf:h'.IsStrIter s1.heap.objs.size "str_ascii_iterator" x t 0:=by simpa[strIterType,ha]using be
  exact fin (St':=λi h=>h.IsStrIter s1.heap.objs.size "str_ascii_iterator" x t i) mf AP_ λA' hh=>Draws.strAscii hh _ x t⟩
def Sv(a:Int)(n:Nat):List D:=(oR!).map λi=>.int (a+(i:Nat))
def Tc(f g:e!):Ae->Option aR!:=λρ=>(an!).bind λx=>(g ρ).bind λy=>match x,y with|.int i,.int j=>if -1000<=i/\i<=100000/\-1000<=j/\j<=100000 then some (Sv i (j - i).toNat)else none|_,_=>none
end
end DL
namespace HT
open PySem PySem.Spec PyProof.Rows
def b8w(A:yn!)(s:yP!)(a:Int)(t:Tok)(c:Int)(u:Tok)(prog:yO!)(w:yC!)(E:q_)(Q:q_)(h:Q (.bool (decide (c<a))) s):
  wpAny r_ A (richCompare .Gt gK_ np!) Q E s:=
 (PyProof.Rows.gt_int h:wpAny r_ A (compareOp .Gt gK_ np!) Q E s)
section
open PySem.SeqAt
open PySem.AutoSeq1 (wpAny_loadPart')
open PySem.MeetsSeq PySem.MeetsSeq2 PySem.MeetsSeq3
def yX(l b:xT!)(items ju:ae_)(n n2:Nat)(dd lj:a7_)(sl ji:b7!)(ns ms:w_)(hi:AR!)(hj:AR_):
  Meets (Builtin.«tuple.__gt__» ⟨[.ref l,.ref b],[]⟩)
   (λ_ R s=>s.heap.get? l=some {cls:=.type "tuple",dict:=dd,data:=.seq items n,slots:=sl}/\s.heap.get? b=some {cls:=.type "tuple",dict:=lj,data:=.seq ju n2,slots:=ji}/\
    R (.ok (.ret qr_)) s):=
 .of_wp λprog w A R s h=>by
  obtain⟨hp,g,d,tk,os⟩:=s;obtain⟨hl,hb,h⟩:=h;have f2:=AutoSeq1.sub_tuple_tuple;have z1:dd_=c9!:=by rw[<-hi.length];simp
  have z2:ju.size=eD_:=by rw[<-hj.length];simp
  wp_walk using QV hl,QV hb,QO _ (λrest b s'=>b.1=none/\s'=hy!/\∃(vs ws:i_) (ql qm:w_),rest=vs.zip ws/\
   IntsAre vs ql/\IntsAre ws qm/\ql.length+ju.size=qm.length+dd_/\R (.ok (.ret (.bool (lexLt qm ql)))) hy!) _
  case turn=>
   rintro⟨y,x⟩ rest b s' ⟨dr,rfl,vs,ws,ql,qm,hz,zq,xb,ap,hR⟩;cases zq with
   |nil=>rw[List.zip_nil_left]at hz;cases hz
   |cons a t Z4=>
    cases xb with
    |nil=>rw[List.zip_nil_right]at hz;cases hz
    |cons c u Z5=>
     rw[PD]at hz;injection hz with Z6 Z7
     injection Z6 with hy J
     subst hy J;rw[lexLt_cons]at hR;simp only[IE]at ap;obtain⟨e,he,VX⟩:=c2k A.in1 hy! a t c u;refine HI (he prog w _ _ ?_);cases e with
     |true=>
      rw[IB (VX.mp rfl).symm]at hR
      wp_walk
      exact⟨rfl,rfl,_,_,_,_,Z7,Z4,Z5,v!,hR⟩
     |false=>
      rw[HQ (λq=>absurd (VX.mpr q.symm) IN)]at hR;have Z8:=b8w A.in1 hy! a t c u prog w
      wp_walk using Z8
      exact⟨_,rfl,by simpa using hR⟩
  case fin=>
   rintro⟨b1,b2⟩ s' ⟨dr,rfl,vs,ws,ql,qm,hz,zq,xb,ap,hR⟩;simp only at dr;subst dr;have hv:lexLt qm ql=decide (ju.size<dd_):=by
    cases zq with
    |nil=>
     cases xb with
     |nil=>
      simp only[LP]at ap;rw[lexLt_nil_nil];exact(IF a!).symm
     |cons c u hw=>
      simp only[LP,IE]at ap;rw[xS];exact(IF a!).symm
    |cons a t hv=>
     cases xb with
     |nil=>
      simp only[LP,IE]at ap;rw[xR];exact(IV a!).symm
     |cons c u hw=>
      rw[PD]at hz;cases hz
   rw[hv]at hR
   wp_walk
   exact⟨_,rfl,by simpa[Builtin.Tuple.tupleCompareSizes]using hR⟩
  case h=>
   exact⟨rfl,rfl,items.toList,ju.toList,ns,ms,rfl,hi,hj,v!,h⟩
end
section
variable{prog:yO!}{w:yC!}{A:yn!}{E:Value->Shared->Prop}{s:yP!}
def gt_tupInts{b:xT!}{items ju:ae_}{ns ms:w_}{Q:q_}(hl:IsTup s.heap l items)(hb:IsTup s.heap b ju)(hi:AR!)(hj:AR_)
  (hu:as_)(h:Q qr_ s):wpAny r_ A (compareOp .Gt jp_ d3_) Q E s:=by
 obtain⟨⟨cls,dd,data,sl⟩,ho,hc,n,hd⟩:=id hl;obtain⟨⟨UK,lj,data2,ji⟩,jj,iq,n2,jk⟩:=id hb;simp only at hc hd iq jk;subst hc hd iq jk;exact richCompare_meets_room (op:=.Gt) jb! jb_ PySem.F.slot_tuple_gt PySem.F.entry_tuple_gt (PySem.F.args_tuple_gt_2 _ _) (yX l b items ju n n2 dd lj sl ji ns ms hi hj)
  ⟨ho,jj,show Value.bool (lexLt ms ns)≠Value.notImplemented/\Q qr_ s from⟨(λx=>nomatch x),h⟩⟩ hu
end
end HT
namespace DL
open PySem PySem.Spec PyProof.Rows L2
section
variable{X:Cx}{own bj:List Nat}{a b e tg o:Expr}{es:List Expr}{p pos:Pos}{fa fb f:Ae->Option D}
def CB(K:yQ!):R2:=λx y H Q=>∃a b ns ms,x=.ref a/\y=.ref b/\Ge K H a b8!/\Ge K H b (ms.map V.int)/\Q (.bl qs!) H
def c9e(hu:X.A.units<cLine):Gw X sP! (CB X.K):=by intro h1 s Z H x y v u Q I rx ry h;obtain⟨a,b,ns,ms,rfl,rfl,ha,hb,q⟩:=h;cases rx;cases ry;obtain⟨its,r1,p1,_⟩:=I.tuple ha;obtain⟨gr,r2,p2,_⟩:=I.tuple hb;have i1:IntsAre its.toArray.toList ns:=yH r1;have i2:IntsAre gr.toArray.toList ms:=yH r2;exact HT.gt_tupInts p1 p2 i1 i2 hu ⟨.bl qs!,H,I,rfl,q⟩
def Nl:List D->Option (List Int)
 |[]=>some []
 |.int i::r=>(Nl r).map (i::·)
 |_=>none
def nR{K:yQ!}{G:Hp}:∀{ds:c!} {vs:n!} {ns:w_},Am K G ds vs->Nl ds=some ns->vs=ns.map V.int
 |[],vs,ns,r,e=>by cases cS r;cases e;rfl
 |d::ds,vs,ns,r,e=>by
  obtain⟨v,t,rfl,r1,r2⟩:=bR r;cases d<;>simp only[Nl]at e<;>first|(cases e;done)|skip
  obtain⟨l,e1,rfl⟩:=HU.mp e;rw[nR r2 e1];cases bG r1;rfl
def BE:D->D->Option D
 |.tup xs,.tup ys=>(Nl xs).bind λns=>(Nl ys).map λms=>.bl qs!
 |_,_=>none
def c9m{K:yQ!}:Ij K (CB K) BE:=by
 show"!0";unfold BE at e;show"!6"
 .obtain⟨ns,e1,e⟩:=HJ.mp e;obtain⟨ms,e2,rfl⟩:=HU.mp e;show"!S";obtain⟨b,ws,rfl,qb,rb⟩:=bS ry;rw[nR ra e1]at qa;rw[nR rb e2]at qb;exact⟨a,b,ns,ms,rfl,rfl,j3!,oA!,ep!⟩
 .cases e
def AE(neg:Bool):R2:=λx y H Q=>∃b c,x=.bl b/\y=.bl c/\Q AS! H
def c0i:Gw X sQ_ (AE false):=by
 intro h1 s Z H x y v u Q I rx ry h;obtain⟨b,c,rfl,rfl,q⟩:=h;cases rx;cases ry;refine wpAny_is_plain rfl ?_;have e:AS_=(b==c):=by cases b<;>cases c<;>rfl
 rw[e];exact km!
def b6p:Gw X sR_ (AE true):=by
 intro h1 s Z H x y v u Q I rx ry h;obtain⟨b,c,rfl,rfl,q⟩:=h;cases rx;cases ry;refine wpAny_isNot_plain rfl ?_;have e:AS_=(b==c):=by cases b<;>cases c<;>rfl
 rw[e];exact km!
def Xz(neg:Bool):D->D->Option D
 |.bl b,.bl c=>some AS!
 |_,_=>none
def b1j{K:yQ!}{neg:Bool}:Ij K (AE neg) (Xz neg):=by
 show"!0";unfold Xz at e;show"!6"
 .cases e;cases dA rx;cases dA ry;exact pn_
 .cases e
def b7o(hg:iJ_)(hm:iJ!)(ha:Z_)(hb:cG_)(hs:sv_:=by rfl)(bq:sw!:=by rfl)
  (dh:starEach (a::[b]) X.env=dS_::starEach [b] X.env:=by rfl)(jo:starEach (b::[]) X.env=iK_::starEach [] X.env:=by rfl):DI X own tg sw_ (Tc fa fb):=
 a9a (b6j hg hm (dZ ha.ok (dZ hb.ok gP jo) dh) hs bq) λZ G H R ρ ds er e k=>by
  obtain⟨x,e1,e3⟩:=HJ.mp e;obtain⟨y,e2,e4⟩:=HJ.mp e3;clear e e3;split at e4
  .rename_i i j;split at e4
   .rename_i h;cases e4;refine yv!;cases bG r1;cases bG r2;refine⟨i,j,rfl,v!,k _ G2 H2 dp! ?_⟩;intro n G' H' g1 g2;unfold Sv;refine w8!;rw[JC]at hd;obtain⟨m,hj,rfl⟩:=HU.mp hd;obtain⟨hl,he⟩:=IL.mp hj;rw[RA]at he;subst he;rw[MD]at hl;refine⟨hl,hk_⟩;obtain⟨z1,z2⟩:=hy;subst z1 z2;exact⟨G',Co.refl g2,Ax.int⟩
   .cases e4
  .cases e4
def Yk:V->List V->Hp->VK->Prop:=λx vs H Q=>∃l xs k y,x=.ref l/\vs=[.int (k:Nat),y]/\H l=some T!/\k<=l_/\l_<sizeLine/\Q .non (upd H l (.lst (xs.take k++y::xs.drop k)))
def b6z:FJ X "list.insert" Yk:=by
 intro h1 s Z H x vs v us Q I rx rv h;obtain⟨l,xs,k,y,rfl,rfl,hH,hk,hz,q⟩:=h;cases rx;obtain⟨u,u2,rfl,⟨t,rfl⟩,ru⟩:=b2r rv;obtain⟨z,its,n,r,hl,e⟩:=I.lstM hH;have yu:¬(!Builtin.List.listFitsIndex (k:Int))=true:=by
  rw[fitsIndex_both (Int.le_trans b_ (Int.natCast_nonneg k)) (Int.lt_of_le_of_lt (Int.ofNat_le.mpr (JB hk (MV hz))) wO_)];exact IN
 have hsz:bN_<=sizeLine:=by rw[HS];omega
 refine call_meets (S:=?S) PySem.F.slot_list_insert d7_ PySem.F.entry_list_insert (PySem.F.args_list_insert_3 _ _ _) ?g ?h
 case g=>exact @PySem.AutoSeq1.list_insert_list_int_val_1 l its.toArray n (k:Int) t u2 yu hsz
 refine gS_;refine⟨.non,_,I.lset (its':=its.take k++u2::its.drop k) hH e ?_ ((r.take k).append (.cons ru (r.drop k))) ?_,rfl,q⟩
 .have Y:¬bg!<0:=by omega
  have L:min (bg!).toNat bN_=k:=by simp;omega
  simp only[Y,JL,L];simp[List.extract_eq_drop_take];rw[AU_]
 .simp only[IG,IE,QE,RL];omega
def Xa(i:Nat)(fk f:e!):Ae->Option Fl:=λρ=>(fk ρ).bind λx=>(an!).bind λd=>match x,ρ[i]? with
 |.int j,some (some (.lst ds))=>if 0<=j/\j.toNat<=h!/\h!<big then some (.nx (ρ.set i (some (.lst (ds.take j.toNat++d::ds.drop j.toNat)))))else none
 |_,_=>none
def b7n{i:Nat}{x:Str}{aj ah:Pos}{fk:e!}(bu:eg!:=by decide)(hk:DE X own ek fk)(h:do_)(hN:ak!:=by rfl)(hv:cs_:=by first|exact Or.inl rfl|exact Or.inr b!|exact Or.inr aG_)
  (hd:F_:=by decide)(bz:ct!:=by decide)
  (b8:starEach (ek::[e]) X.env=(false,eval ek X.env)::starEach [e] X.env:=by rfl)(Z9:ho!:=by rfl)(gw:((backTo ah (starEach [ek,e] X.env)).all cA!&&(cA_).all cB!
   &&decide ([ek,e].length+(d6_).length+fc!<30))=true:=by rfl) (g7:d7!:=by rfl)
  (gu:attributeBase br! "insert" X.env ke!=eval br! X.env:=by rfl) (g8:(jt_).any c_=false:=by rfl) (ke:swapsWith AV! none pos.line X.env=pure false:=by rfl):
  DS X own own (.Expr AV! pos) (Xa i fk f):=⟨λG0 F0 h1 s Z H E I ⟨G,ρ,r,er,e',k⟩=>by
  refine vQ (a0h NY PySem.F.slot_list_insert PySem.F.type_list_insert b6z jS_ (dZ hk.ok (dZ h.ok gP Z9) b8) gu gw g7 b8 g8) ke h1 s Z H E I ?_;obtain⟨z,e1,e4⟩:=HJ.mp e';obtain⟨d,e3,e2⟩:=HJ.mp e4;clear e' e4;obtain⟨p,ds,vs,Y,L,h3,h4,h5⟩:=er.or.own_ i bu;rw[Y]at e2;cases z<;>first|(cases e2;done)|skip
  rename_i j;simp only at e2;split at e2
  .rename_i hj;cases e2;refine⟨fu_,L,oY_,G,ρ,_,er.or,e1,λv G' H' x r=>⟨G',ρ,d,er.or.grow x,e3,λv2 G2 H2 x2 r2=>?_⟩⟩;cases bG r;have hl:=aL h5;refine⟨p,vs,j.toNat,v2,rfl,?_,xr_,v!,by rw[<-hl];exact IT hj.2.2 (cY y!),?_⟩
   .rw[Int.toNat_of_nonneg hj.1]
   .have h6:=(oZ!).mono x2.g;exact k G2 Z _ (((hn_).grow x2).upd bu L (dG (sL _ h6) (Am.cons r2 (sM _ h6))))
  .cases e2⟩
end
end DL
namespace DL
open PySem PySem.Spec PyProof.Rows L2
section
variable{X:Cx}{own bj:List Nat}{a b e tg o:Expr}{es:List Expr}{p p2 pos:Pos}{fa fb fo f:WE}{fs:WA}
def Yg(i:Nat)(f:WE):WS:=λρ M R=>f ρ M λd M1=>Ef (Os M1 d) λq=>match ρ[i]? with
 |some (some (.lst ds))=>h!+p3!<=big/\R (.nx (ρ.set i (some (.lst (ds++q.2))))) M1
 |_=>False
def b7b{i:Nat}{x:Str}{aj ah:Pos}(bu:eg!:=by decide)(h:bY!)(hN:ak!:=by rfl)(hv:cs_:=by first|exact Or.inl rfl|exact Or.inr b!|exact Or.inr aG_)
  (hd:F_:=by decide)(bz:ct!:=by decide)
  (b8:ho!:=by rfl)(gw:((jt_).all cA!&&(cA_).all cB!
   &&decide xm!)=true:=by rfl) (g7:d7!:=by rfl)
  (gu:attributeBase br! "extend" X.env ke!=eval br! X.env:=by rfl) (g8:ho_:=by rfl) (ke:swapsWith AW! none pos.line X.env=pure false:=by rfl):
  MS X own own (.Expr AW! pos) (Yg i f):=
 qM (vQ (a0h NY PySem.F.slot_list_extend PySem.F.type_list_extend b7a jS_ xn_ gu gw g7 b8 g8) ke) λM0 G0 F0 E Z G H ρ M R sr e' k1 k2=>by
  obtain⟨p,ds,vs,Y,L,h3,h4,h5⟩:=sr.st.or.own_ i bu;refine⟨fu_,L,oY_,G,ρ,M,_,sr.st,e',Al_⟩;obtain⟨⟨c,zs⟩,e1,r⟩:=dB r;obtain⟨z1,z2,z3,us,h6,h7⟩:=yT m q e1;cases z2;rw[Y]at r;have fg:=sr.grow x m;obtain⟨p',qe,gf,g1,g2,g3,g4,g5⟩:=fg.st.or.own_ i bu;rw[L]at g2;cases g2;rw[Y]at g1;cases g1;refine⟨p,c,gf,us,rfl,rfl,g3,h6,?_,k1 _ M' G' Z _ r.2 (fg.after (fg.sr.upd bu L (dG g5 h7)))⟩;have:=r.1;rw[<-aL g5,<-aL h7];exact cY this
def Qk(s0:Str)(fa:WE):WE:=λρ M R=>fa ρ M λy M2=>Ef (Nk (.str s0) y) λd=>R d M2
def b4j{s0:Str}{n0:Nat}{aj ah:Pos}(ha:aD_)
  (gu:attributeBase lk_ "join" X.env (eval lk_ X.env)=eval lk_ X.env:=by rfl)
  (gw:((pb_).all cA!&&(cA_).all cB!
   &&decide pc!)=true:=by rfl)
  (g7:d7!:=by rfl) (hs:j9_:=by rfl) (g8:ho_:=by rfl):
  ME X own (.Call (.Attribute lk_ "join" aj) [a] [] ah) (Qk s0 fa):=
 fB (a0h PySem.F.plainAttrs_str PySem.F.slot_str_join PySem.F.type_str_join b4h b9u xQ! gu gw g7 hs g8) λZ G H Q ρ M R st e k=>⟨rfl,G,ρ,M,_,st,e,λy M2 w G2 H2 r2 x2 m2 q2=>by
  obtain⟨d,e3,r3⟩:=dB r2;cases y<;>first|(cases e3;done)|skip
  rename_i xs;obtain⟨ys,e4,e5⟩:=HJ.mp (show((Ql xs).bind λys=>if(ks_).sum+ac_*s0.length<=big then some (.str (Txt.join s0 ys))else none)=some d from e3);split at e5
  .rename_i hl;cases e5;obtain⟨p,vs,rfl,q,rr⟩:=bT q2;have:=wU rr e4;subst this;exact⟨_,p,ys,rfl,rfl,x2.sub.seq q,JB hl b_,k _ M2 _ G2 H2 r3 x2 m2 Ax.str⟩
  .cases e5⟩
def Wv(fs:WA)(fb:WE):WE:=λρ M R=>fs ρ M λds M1=>h!<=1000/\fb ρ M1 λy M2=>match y with
 |.int k=>(0<=k/\k<=1000/\h!*k.toNat<=1000)/\∀p,M2 p=none->R D_ (Be M2 p (.lst (List.replicate k.toNat ds).flatten))
 |_=>False
def c2h{G H:Hp}{p:xT!}{o:HO}(s:K_)(hp:cE_):Co G H G fl_:=⟨fm!,iR hp,s.trans (iR hp),dr!⟩
def a6s{K:yQ!}{G:Hp}(r:kc_):∀k:Nat,Am K G (List.replicate k ds).flatten (List.replicate k vs).flatten
 |0=>Am.nil
 |k+1=>by
  rw[LN,LN,NH,NH];exact dG r (a6s r k)
def c5j(ha:hM_)(hb:cP!):ME X own (.BinOp (.List es p2) .Mult b pos) (Wv fs fb):=
 fB (b9w c9a (wX ha.ok) hb.ok) λZ G H Q ρ M R st e k=>⟨G,ρ,M,_,st,e,λds M1 vs G1 H1 r1 x1 m1 q1=>⟨by rw[<-aL q1];exact gJ r1.1,λp hp=>by
  have xj:Co G1 H1 G1 (upd H1 p dm_):=c2h x1.sub hp;have hM:M1 p=none:=m1.nocell hp;refine⟨G1,ρ,M1,_,(fN!).grow (.ext xj) (m1.ext xj),r1.2,λy M2 v G2 H2 r2 x2 m2 q2=>?_⟩;cases y<;>first|exact r2.elim|skip
  rename_i n;cases bG q2;obtain⟨⟨hn,ip,hl⟩,r2⟩:=r2;have Z':H2 p=some dm_:=x2.keep p _ cC hM;refine⟨p,n,vs,rfl,rfl,Z',v!,v!,by rw[<-aL q1];exact gJ hl,kA_⟩;have x12:=(x1.trans (.ext xj) m1).trans x2 (m1.ext xj);exact k _ _ _ G2 _ (r2 c (m2.nocell hc)) (x12.trans (.laid x2.sub hc) m2) (m2.laid hc x2.sub ⟨_,cC,a6s cm_ _⟩) Ax.fn⟩⟩
end
nonrec def rk(r:fT!)(xs:co_)(i:Nat):Int:=(xs[i]?.map r).getD 0
def b8t{r:fT!}{xs:co_}{c d:Nat}(hs:c<xs.size)(hd:d<=c)(k:Nat):rk r (bubble xs c d) k=if k=c - d then rk r xs c else if c - d<k/\k<=c then rk r xs (k - 1)else rk r xs k:=by
 unfold rk;rw[getElem?_bubble hs d hd k];split
 .rfl
 .split<;>rfl
def b0q{r:fT!}{xs:co_}{i j:Nat}(hj:j<=xs.size)(k:Nat):rk r A0! k=if i<=k/\k<j then rk r xs (i+j - 1 - k)else rk r xs k:=by unfold rk;rw[getElem?_mirror_all hj k];split<;>rfl
def qA{r:fT!}{xs:co_}{i j:Nat}(hj:j<=xs.size)(he:∀k,i<=k->k<j->rk r xs k=rk r xs eE_)(k:Nat):rk r A0! k=rk r xs k:=by
 rw[b0q hj];by_cases h:i<=k/\k<j
 .rw[IB h,he _ a! a!,he k h.1 h.2]
 .rw[HQ h]
def Up(r:fT!)(xs:co_)(n:Nat):Prop:=∀i j,i<=j->j<n->rk r xs i<=rk r xs j
def Dn(r:fT!)(xs:co_)(n:Nat):Prop:=∀i j,i<=j->j<n->rk r xs j<=rk r xs i
structure SB(kd:SortKind)(a0:co_)(st:SortSt):Prop where
 pm:(A!).Perm a0
 kn:kindOf st=kd
 fl:failedOf st=none
 pd:pendingOf st=#[]
def SB.sz{kd:SortKind}{a0:co_}{st:SortSt}(h:cp!):(A!).size=a0.size:=h.pm.size_eq
def SB.put{kd:SortKind}{a0 xs:co_}{st:SortSt}(h:cp!)(hp:xs.Perm A!):SB kd a0 (setArr st xs):=⟨hp.trans h.pm,h.kn,h.fl,h.pd⟩
section
variable{prog:yO!}{w:yC!}{A:yn!}{E:Value->Shared->Prop}{s:yP!}{a0:Array Keyed}{kd:SortKind}{r:Keyed->Int}
variable (prog w A s a0 kd r)in
def Uq:Prop:=∀(x y:Keyed) (F:q_) (Q:eu_),x∈h4!->y∈h4!->Q (decide (r x<r y)) s->wpAny r_ A (keyLt' kd x.1 y.1) Q F s
def b8r{st:SortSt}{i j:Nat}{Q:Option Bool->SortSt->Prop}(hl:dC!)(b:cp!)(hi:i<a0.size)(hj:j<a0.size)(h:Q (some (decide (rk r A! i<rk r A! j))) st):wpS r_ A E s (ltAt' i j) Q st:=by
 have at_:∀k,k<a0.size->∃p,A![k]?=some p/\p∈h4!/\rk r A! k=r p:=λk hk=>by
  have cx:k<(A!).size:=by rw[b.sz];exact hk
  refine⟨A![k],A1!,(Array.perm_iff_toList_perm.mp b.pm).mem_iff.mp d!,?_⟩;unfold rk;rw[A1!];rfl
 obtain⟨x,ex,mx,rx⟩:=at_ i hi;obtain⟨y,ey,my,ry⟩:=at_ j hj;rw[rx,ry]at h;rw[ltAt'_eq];refine KD fT_;show wpS r_ A E s (elem' A! i>>=λx=>elem' A! j>>=λy=>lt' x y) Q st;rw[elem'_eq,elem'_eq,ex,ey];refine KD (LW (KD (LW ?_)));rw[lt'_eq];refine KD fT_;rw[b.kn];exact KD (wpS_lift (PH (hl x y _ _ mx my ⟨rfl,LW h⟩)))
def c7d{st:SortSt}{a n:Nat}{Q:AscSt->SortSt->Prop}(hl:dC!)(hn:fU!)(ha:1<=a)(han:a<=n)(b:cp!)(hu:Up r A! a)
  (h:∀m,a<=m->m<=n->Up r A! m->(m=n\/rk r A! m<rk r A! h4_)->Q (none,m) st):wpS r_ A E s (ascLoop a n) Q st:=by
 unfold ascLoop;refine QR (I:=λx c h2=>h2=st/\c=(none,x)/\Up r A! x) ?_ ?_ ⟨rfl,rfl,hu⟩
 .rintro x c h2 Y L ⟨rfl,rfl,u⟩;refine KD (b8r hl b (IT L hn) a! ?_);by_cases q:rk r y_ x<rk r y_ h5_
  .rw[IV q];exact LW (h x Y (MV L) u (.inr q))
  .rw[IF q];refine LW ⟨rfl,rfl,A3_⟩;obtain h5|h5:=LK j x
   .exact u i j h3 h5
   .have:j=x:=by omega
    subst this;obtain h6|h6:=LK i j
    .have:=u i eE_ a! a!;omega
    .have:i=j:=by omega
     rw[this];exact KU _
 .rintro c h2 ⟨rfl,rfl,u⟩;rw[show max a n=n by omega]at u ⊢;exact h n han y! u G!
def b8o{st:SortSt}{m n:Nat}{Q:qw_}(hl:dC!)(hn:fU!)(Y:1<=m)(hm:m<=n)(b:cp!)(hd:Dn r A! m)
  (h:qx!):wpS r_ A E s (tail3 m n) Q st:=by
 unfold tail3;have b':SB kd a0 (setArr st (mirror A! 0 m ((m - 0) / 2))):=b.put ll_;have hz:m<=(A!).size:=by rw[b.sz];omega
 refine KD (wpS_reverse (KD (c7d hl hn Y hm b' (λi j h3 h4=>?_) λk h3 h4 u _=>LW (h k _ b' a! h4 u))));rw[b0q hz,b0q hz,a1!,a1!];exact hd _ _ a! a!
def c8l{st:SortSt}{m n:Nat}{Q:DescSt->SortSt->Prop}(hl:dC!)(hn:fU!)(Y:1<=m)(hm:m<=n)(b:cp!)(hd:Dn r A! m)
  (h:∀k q h2,SB kd a0 h2->m<=k->k<=n->Dn r y_ k->q+1<=k->(∀i,k - (q+1)<=i->i<k->rk r y_ i=rk r y_ (k - 1))->Q (none,k,q) h2):wpS r_ A E s (descLoop m n) Q st:=by
 unfold descLoop;refine QR (I:=λx c h2=>∃q,c=(none,x,q)/\SB kd a0 h2/\Dn r y_ x/\q+1<=x/\∀i,x - (q+1)<=i->i<x->rk r y_ i=rk r y_ h5_) ?_ ?_ ⟨0,rfl,b,hd,v!,λi L h3=>by rw[show i=m - 1 by omega]⟩
 .rintro x c h2 L h3 ⟨q,rfl,b',d,hq,he⟩;have hz:x<=(y_).size:=by rw[b'.sz];omega
  refine KD (b8r hl b' (IT h3 hn) A4_ ?_);by_cases p:rk r y_ x<rk r y_ h5_
  .rw[IV p];have pz:∀xs:Array Keyed,(∀k,rk r xs k=rk r y_ k)->Dn r xs (x+1):=λxs hk i j h4 h5=>by
    rw[hk,hk];obtain h6|h6:=LK j x
    .exact d i j h4 h6
    .have:j=x:=by omega
     subst this;obtain h7|h7:=LK i j
     .have:=d i eE_ a! a!;omega
     .show"#:"
   by_cases uk:q>0
   .simp only[JT,uk];exact KD (wpS_reverse (LW ⟨0,rfl,b'.put ll_,pz _ (qA hz he),v!,A5_⟩))
   .simp only[JT,uk,JL];exact LW ⟨0,rfl,b',pz _ λ_=>rfl,v!,A5_⟩
  .rw[IF p];show"#&";refine KD (b8r hl b' A4_ (IT h3 hn) ?_);by_cases p2:rk r y_ h5_<rk r y_ x
   .rw[IV p2];exact LW (h x q h2 b' L (MV h3) d hq he)
   .rw[IF p2];have ex:rk r y_ x=rk r y_ h5_:=by omega
    refine LW ⟨q+1,rfl,b',λi j h4 h5=>?_,v!,λi h4 h5=>?_⟩
    .obtain h6|h6:=LK j x
     .exact d i j h4 h6
     .have:j=x:=by omega
      subst this;obtain h7|h7:=LK i j
      .rw[ex];exact d i eE_ a! a!
      .show"#:"
    .rw[show x+1 - 1=x by omega];obtain h6|h6:=LK i x
     .rw[ex];exact he i a! h6
     .rw[show i=x by omega]
 .rintro c h2 ⟨q,rfl,b',d,hq,he⟩;rw[show max m n=n by omega]at d hq he ⊢;exact h n q h2 b' hm y! d hq he
def b8q{st:SortSt}{m n:Nat}{Q:qw_}(hl:dC!)(hn:fU!)(hm:m+1<=n)(b:cp!)(hd:Dn r A! (m+1))
  (h:qx!):wpS r_ A E s (descPart m n) Q st:=by
 unfold descPart;refine KD (wpS_lift (LI ⟨rfl,KD (c8l hl hn a! hm b hd λk q h2 b' Y L d hq he=>?_)⟩));by_cases uk:q>0
 .simp only[JT,uk];refine KD (wpS_reverse (b8o hl hn a! L (b'.put ll_) (λi j h4 h5=>?_) h));have hz:k<=(y_).size:=by rw[b'.sz];omega
  rw[qA hz he,qA hz he];exact d i j h4 h5
 .simp only[uk,JL];exact b8o hl hn a! L b' d h
def c4f{st:SortSt}{n:Nat}{Q:qw_}(hl:dC!)(hn:fU!)(Y:1<=n)(b:cp!)(h:qx!):
  wpS r_ A E s (countRun' 0 n) Q st:=by
 rw[countRun0_eq];refine KD (c7d hl hn (IM 1) Y b (λi j h3 h4=>by rw[fU_];exact KU _) λm h3 h4 u hor=>?_);by_cases e:m=n
 .simp only[NE,e,JT];rw[<-e];exact LW A6_
 .have am:rk r A! m<rk r A! h4_:=hor.resolve_left e;simp only[NE,e,JL];by_cases hg:m>1
  .simp only[hg,JT];refine KD (b8r hl b a! a! ?_);by_cases p:rk r A! 0<rk r A! h4_
   .rw[IV p];exact LW A6_
   .rw[IF p];have ul:∀k,0<=k->k<m->rk r A! k=rk r A! h4_:=λk _ hk=>by
     have a1:=u 0 k a! hk;have a2:=u k h4_ a! a!;omega
    have hz:m<=(A!).size:=by rw[b.sz];omega
    refine KD (wpS_reverse (b8q hl hn a! (b.put ll_) A7! h));rw[qA hz ul,qA hz ul];obtain h7|h7:=LK j m
    .rw[ul i a! a!,ul j a! h7];exact KU _
    .have:j=m:=by omega
     subst this;obtain h8|h8:=LK i j
     .rw[ul i a! h8];omega
     .show"#:"
  .simp only[hg,JL];have:m=1:=by omega
   subst this;refine b8q hl hn a! b A7! h;obtain h8|h8:=LK i j
   .rw[show i=0 by omega,show j=1 by omega];exact Int.le_of_lt am
   .show"#:"
def c9o{lo hi k x n:Nat}(h:¬lo>=hi)(g2:hi<=k)(g3:hi - lo<=k - x)(hk:k<n):lo<=cU! / 2/\cU! / 2<hi/\cU! / 2<k/\cU! / 2<n/\cU! / 2 - lo<=k - (x+1)/\hi - (cU! / 2+1)<=k - (x+1):=by omega
def d2e{st:SortSt}{n k0:Nat}{Q:Bool->SortSt->Prop}(hl:dC!)(hn:fU!)(hk:k0<=n)(b:cp!)(hu:Up r A! k0)(h:∀h2,SB kd a0 h2->Up r y_ n->Q true h2):
  wpS r_ A E s (binarySort' 0 n k0) Q st:=by
 rw[binarySort'_eq];simp only[RI];refine KD (wpS_mono (QR (I:=λk c h2=>c=fE_/\SB kd a0 h2/\Up r y_ (min k n)) (Q:=λc h2=>c=fE_/\SB kd a0 h2/\Up r y_ n) ?_ ?_ ⟨rfl,b,A3_⟩) ?_)
 .rintro k c h2 L h3 ⟨rfl,b',u⟩;rw[show min k n=k by omega]at u;have km:k<a0.size:=by omega
  refine KD (wpS_mono (QR (I:=λx c bh=>bh=h2/\∃lo hi,c=(none,lo,hi)/\lo<=hi/\hi<=k/\hi - lo<=k - x/\A8!/\∀i,hi<=i->i<k->rk r y_ k<rk r y_ i)
   (Q:=λc bh=>bh=h2/\∃lo hi,c=(none,lo,hi)/\lo<=k/\A8!/\∀i,lo<=i->i<k->rk r y_ k<rk r y_ i) ?_ ?_ ⟨rfl,0,k,rfl,v!,v!,v!,λi hi=>by omega,λi h4 h5=>by omega⟩) ?_)
  .rintro x c bh h4 h5 ⟨rfl,lo,hi,rfl,g1,g2,g3,g4,g5⟩;show"#?";by_cases zr:lo>=hi
   .rw[IB zr];have:lo=hi:=by omega
    subst this;exact LW A8_
   .rw[HQ zr];obtain⟨m1,m2,m3,m4,m5,m6⟩:=c9o zr g2 g3 km;refine KD (b8r hl b' km m4 ?_);by_cases p:rk r eF! k<rk r eF! qA_
    .rw[IV p];exact LW ⟨rfl,lo,cU! / 2,rfl,m1,MV m3,m5,g4,λi h6 h7=>Int.lt_of_lt_of_le p (u qA_ i h6 h7)⟩
    .rw[IF p];exact LW ⟨rfl,cU! / 2+1,hi,rfl,m2,g2,m6,λi h6=>Int.le_trans (u i qA_ (Nat.le_of_lt_succ h6) m3) (Int.not_lt.mp p),g5⟩
  .rintro c bh ⟨rfl,lo,hi,rfl,g1,g2,g3,g4,g5⟩;have:lo=hi:=by omega
   subst this;exact A8_
  .rintro c bh ⟨rfl,lo,hi,rfl,g1,g4,g5⟩;rw[moveDown'_eq];refine KD (wpS_modify (LW ⟨rfl,b'.put (bubble_perm _ _ _),λi j h6 h7=>?_⟩));rw[show min V! n=k+1 by omega]at h7;have oj:k<(eF!).size:=by rw[b'.sz];exact km
   rw[b8t oj a!,b8t oj a!,show k - (k - lo)=lo by omega];have n1:∀m,m<lo->rk r eF! m<=rk r eF! k:=g4;have n2:∀m,lo<=m->m<k->rk r eF! k<rk r eF! m:=g5;by_cases ei:i=lo
   .rw[IB ei];by_cases ej:j=lo
    .rw[IB ej];exact KU _
    .rw[HQ ej];by_cases fj:lo<j/\j<=k
     .rw[IB fj];exact Int.le_of_lt (n2 eE_ a! a!)
     .omega
   .rw[HQ ei];by_cases fi:lo<i/\i<=k
    .rw[IB fi,HQ a!,a1!];exact u (i - 1) eE_ a! a!
    .rw[HQ fi];by_cases ej:j=lo
     .rw[IB ej];exact n1 i a!
     .rw[HQ ej];by_cases fj:lo<j/\j<=k
      .rw[IB fj];exact u i eE_ a! a!
      .rw[HQ fj];exact u i j h6 a!
 .rintro c h2 ⟨e,b',u⟩;rw[show min (max (max k0 1) n) n=n by omega]at u;exact⟨e,b',u⟩
 .by_cases h0:k0=0
  .show"#:"
  .exact hu i j h3 a!
 .rintro c h2 ⟨rfl,b',u⟩;exact LW (h h2 b' u)
def b8p{st:SortSt}{Q:Unit->SortSt->Prop}(hl:dC!)(b:cp!)(L:2<=a0.size)(oq:a0.size<64)
  (h:∀h2,(y_).Perm a0->failedOf h2=none->Up r y_ a0.size->Q () h2):wpS r_ A E s sortRuns' Q st:=by
 rw[sortRuns'_eq];refine KD fT_;have hmr:minRun' a0.size a0.size 0=a0.size:=by
  have:∀f,minRun' (f+1) a0.size 0=a0.size:=λf=>by rw[minRun'_succ,IB oq];rfl
  have q:=this (a0.size - 1);rwa[show a0.size - 1+1=a0.size by omega]at q
 dsimp only;simp only[b.sz,hmr];have fin:∀{h2:SortSt},SB kd a0 h2->Up r y_ a0.size->(arrOf ln_).Perm a0/\failedOf ln_=none/\pendingOf ln_=#[ln!]/\Up r (arrOf ln_) a0.size:=
  λ{h2} b' u=>⟨b'.pm,b'.fl,by show(A9!).push _=_;rw[b'.pd];rfl,u⟩
 refine KD (wpS_mono (QR (I:=λx c h2=>(x=0/\c=(none,0)/\SB kd a0 h2)\/(1<=x/\c=A9_/\(y_).Perm a0/\failedOf h2=none/\pendingOf h2=#[ln!]/\Up r y_ a0.size))
  (Q:=λc h2=>c=A9_/\(y_).Perm a0/\failedOf h2=none/\pendingOf h2=#[ln!]/\Up r y_ a0.size) ?_ ?_ (.inl ⟨rfl,rfl,b⟩)) ?_)
 .rintro x c h2 _ J (⟨rfl,rfl,b'⟩|⟨_,rfl,d⟩)
  .show"#?";rw[HQ a!];simp only[Nat.sub_zero,Nat.min_self,RI];refine KD (c4f hl y! a! b' λm bh b2 g1 g2 u2=>?_);by_cases am:m<a0.size
   .simp only[am,JT];refine KD (wpS_lift (LI ⟨rfl,KD (d2e hl y! g2 b2 u2 λv7 b3 u3=>?_)⟩));simp only[LH,IW,JL];refine KD fT_;rw[show(pendingOf v7).back?=none by rw[b3.pd];rfl];exact KD (wpS_modify (LW (.inr ⟨IM 1,rfl,fin b3 u3⟩)))
   .simp only[am,JL];have:m=a0.size:=by omega
    subst this;refine KD fT_;rw[show(pendingOf bh).back?=none by rw[b2.pd];rfl];exact KD (wpS_modify (LW (.inr ⟨IM 1,rfl,fin b2 u2⟩)))
  .show"#?";rw[IB y!];exact LW ⟨rfl,d⟩
 .rintro c h2 (⟨J,_⟩|⟨_,e,d⟩)
  .omega
  .exact⟨e,d⟩
 .rintro c h2 ⟨rfl,d1,d2,d3,d4⟩;refine KD (wpS_mono (QR (I:=λ_ c bh=>bh=h2/\c=fE_) (Q:=λc bh=>bh=h2/\c=fE_) ?_ Ba_ bi_) ?_)
  .rintro x c bh _ _ ⟨rfl,rfl⟩;refine KD fT_;rw[IB (by rw[d3];exact IM 1)];exact LW bi_
  .rintro c bh ⟨rfl,rfl⟩;exact LW (h _ d1 d2 d4)
end
abbrev Yh:Bool->SortKind:=sortPriv%PySem.Builtin.KeyKind.tuples
section
variable{prog:yO!}{w:yC!}{A:yn!}{E:Value->Shared->Prop}{s:yP!}
def Hx(h:Heap)(v:yB!)(a b:Int):Prop:=∃(p:xT!) (o:Obj) (n:Nat) (t u:Tok),v=.ref p/\h.get? p=some o/\o.cls=.type "tuple"/\o.data=.seq #[.int a t,.int b u] n
def CI(a b c d:Int):Bool:=if a=c then decide (b<d)else decide (a<c)
def a0j{f:Bool}{a b:Int}{Q:eu_}(h:Q (decide (a<b)) s):wpAny r_ A (oneLt' f gK_ (.int b u)) Q E s:=by
 cases f with
 |true=>exact oneLt_int h
 |false=>
  rw[oneLt'_eq];rw[HQ IN];refine HI (show wpAny r_ A (compareOp .Lt gK_ (.int b u)) _ E s from PyProof.Rows.lt_int ?_);exact JM h
def yE{f:Bool}{a b c d:Int}{Q:eu_}(J:Hx s.heap x a b)(hy:Hx s.heap y c d)(h:Q (CI a b c d) s):wpAny r_ A (keyLt' (Yh f) x y) Q E s:=by
 obtain⟨p,o,n,t,u,rfl,Y,_,L⟩:=J;obtain⟨p',o',n',t',u',rfl,kh,_,om⟩:=hy;refine HI (QS Y L (HI (QS kh om gB_)));show wpAny r_ A (forIn [((Value.int a t,Value.int c t'),0),((Value.int b u,Value.int d u'),1)] _ _) _ E s;rw[NB];refine HI (HI (QC a t c t' _ _ _ _ ?_));unfold CI at h;by_cases e:a=c
 .rw[IB e]at h;have e1:(a==c)=true:=by simpa using e
  rw[e1];simp only[LH,IW,JL];refine HK ?_;show"#?";rw[NB];refine HI (HI (QC b u d u' _ _ _ _ ?_));by_cases e2:b=d
  .have e3:(b==d)=true:=by simpa using e2
   rw[e3];simp only[LH,IW,JL];refine HK ?_;dsimp only;rw[PK];refine HK ac!;have e4:decide (b<d)=false:=by rw[e2];simp
   rw[e4]at h;simpa using h
  .have e3:(b==d)=false:=by simpa using e2
   rw[e3];simp only[PM,JT];exact HI Bb_
 .rw[HQ e]at h;have e1:(a==c)=false:=by simpa using e
  rw[e1];simp only[PM,JT];exact HI Bb_
def b2p{α β:Type}{f:α->Sem β}{F:cX!}{Q:Array β->Shared->Prop}:∀(xs:P_),Bc!->(∀ys,Paired F xs ys->Q ys.toArray s)->wpAny r_ A (xs.toArray.mapM f) Q E s:=by
 intro xs hf hq;rw[Array.mapM_eq_mapM_toList];have kj:∀(xs:P_) (R:List β->Shared->Prop),Bc!->(∀ys,Paired F xs ys->R ys s)->wpAny r_ A (xs.mapM f) R E s:=by
  intro xs
  induction xs with
  |nil=>
   intro R _ h;rw[List.mapM_nil];exact HK (h [] .nil)
  |cons x xs ih=>
   intro R Y L;rw[List.mapM_cons];refine HI (Y x HP _ λy hy=>HI (ih _ (λz hz=>Y z h6_) λys qo=>HK (L _ (.cons hy qo))))
 have:(List.toArray<$>xs.toArray.toList.mapM f:Sem (Array β))=(xs.toArray.toList.mapM f>>=λl=>pure l.toArray):=by rw[map_eq_pure_bind]
 rw[this];exact HI (kj _ _ (by simpa using hf) λys qo=>HK (hq ys (by simpa using qo)))
def a8f{vs:i_}{Q:SortKind->Shared->Prop}(h:∀v∈vs,∃a b,Hx s.heap v a b)(h0:vs≠[])(hq:Q (Yh true) s):wpAny r_ A (keyKind' cy_) Q E s:=by
 refine HI (b2p (F:=λ_ y=>∃a t,y=some lp!) vs Be! λys qo=>?_)
 .obtain⟨a,b,p,o,n,t,u,rfl,Y,L,h3⟩:=h v hv;refine HI (wpAny_typeOf (T:="tuple") oK! ?_);rw[HQ b_];exact HI (QS Y h3 (HK (hR _ ⟨a,t,rfl⟩)))
 .have g9:∀y∈ys,∃a t,y=some lp!:=by
   have kj:∀{l:i_} {m:List t7!},Paired (λ_ y=>∃a t,y=some lp!) l m->∀y∈m,∃a t,y=some lp!:=by
    intro l m hp
    induction hp with
    |nil=>intro y hy;cases hy
    |cons q _ ih=>
     intro y hy;obtain rfl|hy:=HN.mp hy
     .exact q
     .exact ih y hy
   exact kj qo
  have ce:ys≠[]:=λz=>by subst z;cases qo;exact h0 rfl
  rw[IB (by rw[List.all_toArray,LG];intro y hy;obtain⟨a,t,rfl⟩:=g9 y hy;rfl)];refine HI h3_;have hints:∀v∈(Be_).toList,∃a t,v=Value.int a t:=λv hv=>by
   simp only[List.filterMap_toArray,MN,id]at hv;obtain⟨y,hy,e⟩:=hv;obtain⟨a,t,e2⟩:=g9 y hy;rw[e2]at e;exact⟨a,t,(JJ e).symm⟩
  have hz:(Be_).toList≠[]:=λz=>by
   cases ys with
   |nil=>exact ce rfl
   |cons y r=>
    obtain⟨a,t,rfl⟩:=g9 y HP;simp at z
  generalize hZ:ys.toArray.filterMap id=Z at hints hz ⊢;obtain⟨zs⟩:=Z;refine HI ?_;refine HI (b2p (F:=λ_ y=>y=Value.type "int") zs Be! λts VY=>?_)
  .obtain⟨a,t,rfl⟩:=hints v jc!;exact wpAny_typeOf (typeIs_int s a t) (hR _ rfl)
  .have VZ:∀t∈ts,t=Value.type "int":=by
    have kj:∀{l m:i_},Paired (λ_ y=>y=Value.type "int") l m->∀y∈m,y=Value.type "int":=by
     intro l m hp
     induction hp with
     |nil=>intro y hy;cases hy
     |cons q _ ih=>
      intro y hy;obtain rfl|hy:=HN.mp hy
      .exact q
      .exact ih y hy
    exact kj VY
   cases ts with
   |nil=>cases VY;exact absurd rfl hz
   |cons t r=>
    have ht:=VZ t HP;subst ht;have e1:((Bg!).toArray)[0]?=some (Value.type "int"):=rfl;rw[e1];have e2:((Bg!).toArray.all λx=>x==Value.type "int")=true:=by
     rw[List.all_toArray,LG];intro y hy;rw[VZ y hy];rfl
    show"#?";rw[IB e2];exact HK (HK hq)
end
def Lh(p q:dC_):Bool:=CI p.1 p.2 q.1 q.2
def qR{p q:dC_}:Lh p q=true↔(p.1<q.1\/(p.1=q.1/\p.2<q.2)):=by
 unfold Lh CI;split
 .rename_i h;rw[JA];omega
 .rename_i h;rw[JA];omega
def b4m(p:dC_):Lh p p=false:=by
 cases h:Lh p p with
 |false=>rfl
 |true=>have:=qR.mp h;omega
def jY{p q r:dC_}(Y:Lh p q=true)(L:Lh q r=true):Lh p r=true:=by rw[qR]at Y L ⊢;omega
def a3v{p q:dC_}(h:p≠q)(Y:Lh p q=false):Lh q p=true:=by
 have kh:¬Lh p q=true:=by rw[Y];simp
 rw[qR]at kh ⊢;have:¬(p.1=q.1/\p.2=q.2):=λz=>h (Prod.ext z.1 z.2);omega
section
variable{α:Type}(kf:α->Int×Int)
def Rm(x:α):List α->List α
 |[]=>[x]
 |y::r=>if Lh (kf x) (kf y)then x::y::r else y::Rm x r
def Jm:List α->List α
 |[]=>[]
 |x::r=>Rm kf x (Jm r)
def Ot(l:P_):Prop:=l.Pairwise λx y=>Lh (kf x) (kf y)=true
variable {kf}
def tS(x:α):∀l:List α,(Rm kf x l).Perm (x::l)
 |[]=>OH _
 |y::r=>by
  unfold Rm;split
  .exact OH _
  .exact((tS x r).cons y).trans (List.Perm.swap x y r)
def bP:∀l:List α,(Jm kf l).Perm l
 |[]=>OH _
 |x::r=>(tS x _).trans ((bP r).cons x)
def yJ{x:α}:∀{l:P_},Ot kf l->(∀y∈l,kf x≠kf y)->Ot kf (Rm kf x l)
 |[],_,_=>QA _ _
 |y::r,h,hn=>by
  unfold Rm;unfold Ot at h;rw[KF]at h;split
  .rename_i am;refine KF.mpr ⟨lp_,KF.mpr h⟩;obtain rfl|hz:=HN.mp hz
   .exact am
   .exact jY am (h.1 z hz)
  .rename_i am;refine KF.mpr ⟨lp_,yJ h.2 λz hz=>hn z h6_⟩;obtain rfl|hz:=HN.mp ((tS x r).mem_iff.mp hz)
   .exact a3v (hn y HP) za_
   .exact h.1 z hz
def gU:∀{l:P_},(l.map kf).Nodup->Ot kf (Jm kf l)
 |[],_=>jv!
 |x::r,h=>by
  rw[IA,IJ]at h;refine yJ (gU h.2) λy hy e=>h.1 ?_;rw[e];exact HZ ((bP r).mem_iff.mp hy)
def lY:∀{l m:P_},Ot kf l->Ot kf m->l.Perm m->l=m
 |[],m,_,_,h=>(List.Perm.nil_eq h)
 |x::l,m,Y,L,h=>by
  cases m with
  |nil=>exact absurd h.length_eq d!
  |cons y m=>
   have e:x=y:=by
    obtain e|J:=HN.mp (h.mem_iff.mp HP)
    .exact e
    .obtain e|hy:=HN.mp (h.symm.mem_iff.mp HP)
     .exact e.symm
     .have a1:=(KF.mp Y).1 y hy;have a2:=(KF.mp L).1 x J;have:=jY a1 a2;rw[b4m]at this;cases this
   subst e;rw[lY (KF.mp Y).2 (KF.mp L).2 ((List.perm_cons x).mp h)]
def b9s{β:Type}{f:lq!}{l m:dH!}(h:l.Perm m):∀{az:P_},m=az.map f->∃L':List α,L'.Perm az/\L'.map f=l:=by
 induction h with
 |nil=>intro az e;exact⟨[],by rw[List.map_eq_nil_iff.mp e.symm],rfl⟩
 |cons x _ ih=>
  intro az e;cases az with
  |nil=>cases e
  |cons y az=>
   injection e with e1 e2
   obtain⟨L',Y,L⟩:=ih e2;exact⟨y::L',Y.cons y,by rw[IA,L,e1]⟩
 |swap x y l=>
  intro az e
  match az,e with
  |a::b::az,e=>
   injection e with e1 e2
   injection e2 with e3 e4
   exact⟨b::a::az,List.Perm.swap a b az,by rw[IA,IA,<-e1,<-e3,<-e4]⟩
 |trans _ _ ih1 ih2=>
  intro az e;obtain⟨L2,Y,L⟩:=ih2 e;obtain⟨L1,h3,h4⟩:=ih1 L.symm;exact⟨L1,h3.trans Y,h4⟩
def Jn(ks:fX!)(k:dC_):Int:=((ks.filter λx=>Lh x k).length:Nat)
def sJ{ks:fX!}{p q:dC_}(hp:p∈ks)(h:Lh p q=true):Jn ks p<Jn ks q:=by
 unfold Jn;have kj:∀l:List h7_,(Bj!).length<=(Bj_).length:=by
  intro l
  induction l with
  |nil=>simp
  |cons x l ih=>
   simp only[RM];by_cases J:Lh x p=true
   .simp only[J,jY J h,JT,IE];omega
   .by_cases hy:Lh x q=true
    .simp only[J,hy,JT,IE];show"#&";omega
    .simp only[J,hy];show"#&";exact ih
 have aux2:∀l:List h7_,p∈l->(Bj!).length<(Bj_).length:=by
  intro l hl
  induction l with
  |nil=>cases hl
  |cons x l ih=>
   obtain e|hl:=HN.mp hl
   .subst e;have:=kj l;simp only[RM,b4m,h,JT,IE,IW,JL];omega
   .have:=ih hl;simp only[RM];by_cases J:Lh x p=true
    .simp only[J,jY J h,JT,IE];omega
    .by_cases hy:Lh x q=true
     .simp only[J,hy,JT,IE];show"#&";omega
     .simp only[J,hy];show"#&";exact this
 have:=aux2 ks hp;omega
def b3j{ks:fX!}{p q:dC_}(hp:p∈ks)(hq:q∈ks):decide (Jn ks p<Jn ks q)=Lh p q:=by
 cases h:Lh p q with
 |true=>exact IV (sJ hp h)
 |false=>
  refine IF λz=>?_;by_cases e:p=q
  .subst e;omega
  .have:=sJ hq (a3v e h);omega
end
section
open Classical
variable{h:Heap}
def Hx.inj{a b c d:Int}(x:Hx h v a b)(y:Hx h v c d):aa_=(c,d):=by
 obtain⟨p,o,n,t,u,rfl,Y,_,L⟩:=x;obtain⟨p',o',n',t',u',e,kh,_,om⟩:=y;cases e;rw[Y]at kh;cases kh;rw[L]at om;injection om with h3 _
 have:=congrArg Array.toList h3;simp at this;rw[this.1.1,this.2.1]
def Lz(h:Heap)(v:yB!):Int×Int:=if x:∃a b,Hx h v a b then(x.choose,x.choose_spec.choose)else(0,0)
def qZ{a b:Int}(x:Hx h v a b):Lz h v=aa_:=by have z:∃a b,Hx h v a b:=⟨a,b,x⟩;unfold Lz;rw[dif_pos z];exact z.choose_spec.choose_spec.inj x
def uG{kf:D->Int×Int}{az:lq_}{ou a0:co_}(ha:h4!=az.map c_)(hk:∀q∈az,Hx h q.1.1 (kf q.2).1 (kf q.2).2)(nd:(qF_).Nodup)(hp:ou.Perm a0)
  (hu:Up Bl_ ou a0.size):∃L':List (Keyed×D),L'.Perm az/\ou.toList=L'.map c_/\L'.map A_=Jm kf qF!:=by
 have bx:ou.toList.Perm h4!:=Array.perm_iff_toList_perm.mp hp;obtain⟨L',Y,L⟩:=b9s bx ha;refine⟨L',Y,L.symm,lY ?_ lr! ((Y.map _).trans (bP _).symm)⟩;have f9:((L'.map A_).map kf).Nodup:=(((Y.map _).map _).nodup_iff).mpr nd;unfold Ot;rw[PJ];intro i j hi hj V';have df:i<fX_:=by simpa using hi
 have zt:j<fX_:=by simpa using hj
 have hsz:ou.size=fX_:=by rw[<-JU,<-L,IK]
 have bq:a0.size=fX_:=by rw[<-JU,ha,IK,Y.length_eq]
 have WB:∀k (cx:k<fX_),rk Bl_ ou k=Jn qF_ (kf L'[k].2):=λk cx=>by
  unfold rk;have e:ou[k]?=some L'[k].1:=by
   rw[<-ND,<-L,JC,II cx];rfl
  rw[e];show Jn _ (Lz h L'[k].1.1)=_;rw[qZ (hk L'[k] Bm!)]
 have oi:=hu i j (MV V') a!;rw[WB i df,WB j zt]at oi;simp only[List.getElem_map];have mem:∀k (cx:k<fX_),kf L'[k].2∈(qF!).map kf:=λk cx=>HZ (HZ Bm!);have ne:kf L'[i].2≠kf L'[j].2:=λe=>by
  have q:=(List.getElem_inj (i:=i) (j:=j) (h₀:=by simpa using df) (h₁:=by simpa using zt) f9).mp cV_;omega
 cases am:Lh (kf L'[i].2) (kf L'[j].2)with
 |true=>rfl
 |false=>
  have:=sJ (mem j zt) (a3v ne am);omega
end
def b2m(a v:yB!):argsOk "list.sort" Bn!:=by unfold argsOk;kernel_rfl
def a5t(a v:yB!):argsOk "sorted" Bn!:=by unfold argsOk;kernel_rfl
section
variable{X:Cx}{h1:List (Addr×Obj)}{Z:St}{G H:Hp}{s:yP!}{A:yn!}{E:Value->Shared->Prop}
def c4i{k:Nat}{sp:Sp}{Q:VK}(F:Fo X.prog X.w X.K X.mg X.base Qf k f fd ps sp)(hr:gE!)(hb:j1!)(e0:Rr X.prog X.w X.K X.mg X.base A X.stack s H)
  (I:d_)(r:eN!)(h:sp vs H Q E0):wpAny e_ A (call aj! us) aL_ E s:=by
 have hl:(us++[]).length=V_:=by rw[IR,<-r.length];exact F.len _ _ _ _ h
 have dr:=hb s us I.kIn hl;rw[IR]at dr;refine wpAny_call (QZ (F.run A X.stack s H db_ us vs Q E0 hr e0 dr r h) λr s' hq=>?_);cases r with
 |error e=>exact hq.elim
 |ok fl=>
  cases fl with
  |ret u=>exact I.after hq
  |next=>exact False.elim hq
  |brk=>exact False.elim hq
  |cont=>exact False.elim hq
def My:D->Option h7_
 |.tup [.int a,.int b]=>some aa_
 |_=>none
def a7e{a b:Int}(I:d_)(sub:K_)(r:bX_)(e:My d=some aa_):Hx s.heap u a b:=by
 unfold My at e;show"!6"
 .cases e;obtain⟨v,r,ru⟩:=r;show"!X";cases ru;show"!4";cases bG r1;cases bG r2;show"#1";obtain⟨x,y,rfl,⟨t,rfl⟩,⟨u,rfl⟩⟩:=b2r rv;exact⟨p,o,n,t,u,rfl,Y,L,h3⟩
 .cases e
def Nq(g:ah_):List D->Option (List h7_)
 |[]=>some []
 |d::r=>(g [d]).bind λx=>(My x).bind λk=>(Nq g r).map (k::·)
def d2f{oc':Obj}{h':Heap}{t':Nat}(I:Inv X (h1++[eF_,(c,oc)]) Z H s)(hc:Jg X h1 H c)(jb:a≠c)(kp:∀b o,b≠c->s.heap.get? b=some o->h'.get? b=some o)(ho:h'.get? c=some oc')(hd:∀v,oc'.data≠.cell v):
  Inv X (h1++[eF_,(c,oc')]) Z H {s with heap:=h',toks:=t'}:=by
 have pa:=I.pin eF_ (HY _ d!);have I1:Inv X qG! Z H s:=I.pins_of λp hp=>I.pin p (HY _ (by
  obtain z|z:=HV.mp hp
  .exact IS _ z
  .exact HY _ (by simp at z;simp[z])))
 have ky:∀b∈[c],Jg X qG! H b:=λb hb=>by
  have e:b=c:=by simpa using hb
  subst e;obtain⟨f0,f1,f2,f3,f4,f5⟩:=hc;refine⟨f0,f1,f2,f3,f4,eL!⟩;obtain z|z:=HV.mp hp
  .exact f5 p (IS _ z)
  .obtain z|z:=HV.mp z
   .exact f5 p (HY _ z)
   .have:p=eF_:=by simpa using z
    rw[this];exact jb
 have I2:Inv X qG! Z H {s with heap:=h',toks:=t'}:=kE I1 ky λb o hb e=>kp b o gp_ e;refine I2.pins_of λp hp=>?_;obtain z|z:=HV.mp hp
 .exact I2.pin p (HY _ (IS _ z))
 .obtain z|z:=HN.mp z
  .subst z;exact I2.pin _ fY!
  .have:p=(c,oc'):=by simpa using z
   subst this;exact⟨ho,hc.1,hc.2.1,hc.2.2.1,hd⟩
def a0x{k:Nat}{ps:q!}{g:ah_}{body:Value->PUnit->Sem z1_}{Q:zZ!}(F:Bn_)(hr:qG_)(hb:j1!)(lp:V_=1)(jb:a≠c)
  (p6:∀x (R:ForInStep PUnit->Shared->Prop) s,wpAny e_ X.A.in1.in1 (call aj! [x]) (λk s'=>wpAny e_ X.A.in1.in1 (Builtin.List.listUpdate (.ref c) (·.push k)) (λ_ s2=>R (.yield ⟨⟩) s2) E s') E s->wpAny e_ X.A.in1.in1 (body x ⟨⟩) R E s):
  ∀{ds:c!} {us:i_} {kd:c!} {ku:i_} {n:Nat} {ks:fX!} {s:yP!} {G H:Hp},Inv X (h1++[eF_,Bo_]) Z H s->Bk G H->Paired cV! ds us->Paired cV! kd ku->Nq g ds=some ks->
   (∀H':Hp,H' c=none->Jg X h1 H' c)->qI_+h!<=1000->
   (∀s' H' G' qq um n',Inv X (h1++[eF_,(c,seqObj "list" (ku++qq).toArray n')]) Z H' s'->Co G H G' H'->Paired (Cw X.K G') (kd++um) (ku++qq)->Paired qJ! um ks->Q ⟨⟩ s')->
   wpAny e_ X.A.in1.in1 (forIn us ⟨⟩ body) Q E s
 |_,_,kd,ku,n,ks,s,G,H,I,sub,.nil,pk,e,st,hl,hq=>by
  rw[PK];cases e;refine HK (hq s H G [] [] n ?_ aS_ ?_ .nil)
  .rw[IR];exact I
  .rw[IR,IR];exact pk
 |d::ds,u::us,kd,ku,n,ks,s,G,H,I,sub,.cons r t,pk,e,st,hl,hq=>by
  show"!p";obtain⟨v,rv,ru⟩:=r;rw[NB];simp only[IE]at hl;refine HI (p6 u _ s (dL (c4i (vs:=[v]) (Q:=λv' H'=>∃G',Co G H G' H'/\Ax X.K G' x v') F hr hb I.env0.in1.in1 I vh_ ⟨lp.symm,G,[d],x,sub,Am.cons rv Am.nil,e1,λv' G' H' x' r'=>⟨G',x',r'⟩⟩) λkv s1 ⟨v1,H1,I1,rk1,G1,x1,r1⟩=>?_));have pc:=I1.pin Bo_ fY!;refine OU pc.1 rfl ?_ ls_ (by simp only[Array.size_push,HS];rw[JV];omega);have e4:=OD pc.1 (·.push kv);have I2:=d2f (oc':=seqObj "list" (ku++[kv]).toArray (if(ku.toArray.push kv).size==ku.toArray.size then n else n+1)) (t':=s1.toks) I1 (st H1 pc.2.1) jb (λb o hb e=>(uT_).trans e) (by rw[e4,List.push_toArray]) v0_;refine a0x F hr hb lp jb p6 I2 x1.sub (Paired.mapP t λ_ _ z=>z.mono x1.g) (jM (Paired.mapP pk λ_ _ z=>z.mono x1.g) (.cons ⟨v1,r1,rk1⟩ .nil)) e3 st z2_ λs' H' G' qq um n' I' x' p' k'=>?_;refine hq s' H' G' (kv::qq) (x::um) n' ?_ (x1.trans x') ?_ (.cons e2 k')
  .rw[KA]at I';exact I'
  .rw[KA,KA]at p';exact p'
end
def Iz(g:ah_)(d:D):Int×Int:=((g [d]).bind My).getD (0,0)
def yD{g:ah_}:∀{ds:c!} {ks:fX!},Nq g ds=some ks->ks=ds.map eG!
 |[],_,e=>by cases e;rfl
 |d::r,ks,e=>by
  show"!p";rw[IA,<-yD e3];congr 1;unfold Iz;rw[e1];show q=(My x).getD _;rw[e2];rfl
section
variable{X:Cx}{h1:List (Addr×Obj)}{Z:St}{G H:Hp}{s:yP!}{A:yn!}{E:Value->Shared->Prop}
def xN{P:Value->D->Prop}{R:D->Value->Prop}:∀{ku us:i_} {ds:c!},Paired P ku ds->Paired R ds us->∀q∈(h9_).zip ds,P q.1.1 q.2/\R q.2 q.1.2
 |_,_,_,.nil,.nil,q,h=>by simp at h
 |_,_,_,.cons p t,.cons r u,q,h=>by
  rw[PD,PD]at h;obtain rfl|h:=HN.mp h
  .exact⟨p,r⟩
  .exact xN t u q h
def jL{α β γ:Type}{R:cX!}{f:γ->α}{h:γ->β}:∀{l:List γ},(∀q∈l,R (f q) (h q))->Paired R eG_ (l.map h)
 |[],_=>.nil
 |q::r,hh=>.cons (hh q (HP ..)) (jL λz hz=>hh z h6_)
def gM{α β:Type}{R:cX!}:∀{l:P_} {m:dH!},Paired R l m->au_=m.length
 |_,_,.nil=>rfl
 |_,_,.cons _ t=>by rw[IE,IE,gM t]
def uH{G:Hp}{kf:D->Int×Int}(hp:∀d u a b,Cw X.K G d u->My d=some aa_->Hx h u a b):∀{kd:c!} {ku:i_} {ds:c!},Paired cV! kd ku->Paired qJ! kd (ds.map kf)->Paired (λv d=>Hx h v (kf d).1 (kf d).2) ku ds
 |_,_,[],.nil,_=>.nil
 |_,_,_::_,.nil,h=>by cases h
 |_,_,[],.cons _ _,h=>by cases h
 |_,_,_::_,.cons r t,.cons k u=>.cons (hp _ _ _ _ r k) (uH hp t u)
def d1x{st:SortSt}{us':i_}{ku:i_}{e e1:Nat}{P:lt_}(zu:(A!).map A_=o3_)(hz:us'.length<64)(VS:qI_<64)(hf:failedOf st=none)(jb:a≠c)
  (gg:qK!)(ky:Bq_)(I:Br_)
  (hP:∀s' n',Inv X h1 Z H s'->s'.heap.get? a=some ia!->P ia_ s'):wpAny e_ A Bs! P E s:=by
 have pa:=I.pin lv! fY!;have pc:=I.pin Bq! fY!;unfold ksk_tail;show"#?";rw[zu];refine HI (OU pc.1 rfl ?_ ls_ ck!);refine HI (NR ?_);have ea:(s.heap.update c Bt!).get? a=some qK_:=(JI _ _ (HR jb)).trans pa.1;refine HI (seqEpoch_at ea rfl ?_);show"#&";refine HI (OU ea rfl ?_ ck! ls_);rw[hf];simp only[RE,IW,JL];have I1:Inv X h1 Z H s:=I.unpinned;refine HK (hP _ _ (kE (wr:=[a,c]) (t':=s.toks) I1 io_ λb o hb q=>?_) (OD ea λ_=>o3_))
 .obtain rfl|hb:=HN.mp hb
  .exact gg H pa.2.1
  .rw[lv_];exact ky H pc.2.1
 .have Y:b≠a:=λz=>hb (by rw[z];exact HP ..);have L:b≠c:=λz=>hb (by rw[z];exact HL _ (HP ..));exact(JI _ _ (HR Y)).trans ((JI _ _ (HR L)).trans q)
def d4v{g:ah_}{ds:c!}{us ku:i_}{e e1:Nat}{P:lt_}(oq:h!<64)(nd:(ds.map eG!).Nodup)(jb:a≠c)
  (gg:qK!)(ky:Bq_)(I:Br_)(sub:K_)
  (pu:qL_)(pk:Paired cV! kd ku)(kk:Paired qJ! kd (ds.map eG!))
  (hP:∀s' us' n',Inv X h1 Z H s'->Paired cV! qM! us'->s'.heap.get? a=some ia!->P ia_ s'):wpAny e_ A (ksk_end a false us.toArray e1 (.ref c) ku.toArray) P E s:=by
 have z:=uH (X:=X) (h:=s.heap) (λd u a b r q=>a7e I sub r q) pk kk;have l1:av_=h!:=(gM pu).symm;have l2:qI_=h!:=gM z;have mem:=xN z pu;have jw:(lw_).toList=(ib!).map c_:=by
  rw[ksk_zip,Bt_]
 have hd:(ib!).map A_=ds:=List.map_snd_zip qM_;have fin:∀{L':lq_} {st:SortSt},L'.Perm ib!->(A!).toList=L'.map c_->L'.map A_=Jm eG! ds->failedOf st=none->wpAny e_ A Bs! P E s:=λ{L' st} Y L h3 h4=>by
  refine d1x (us':=L'.map (·.1.2)) ?_ (by rw[IK,Y.length_eq,KG,KG];omega) a! h4 jb gg ky I λs' n' I' e'=>hP s' _ n' I' ?_ e'
  .apply Bu!;rw[Array.toList_map,L,JQ];rfl
  .rw[<-h3];exact jL λq hq=>(mem q (Y.mem_iff.mp hq)).2
 unfold ksk_end;show"#?";show"#&";by_cases L:ki_<2
 .rw[IB L,IB L];refine HI ac!;rw[StateT.run_pure];refine HI ac!;show"#?";refine fin (L':=(h9_).zip ds) (OH _) jw ?_ rfl;rw[hd];rw[HS,l1]at L
  match ds,L with
  |[],_=>rfl
  |[x],_=>rfl
  |_::_::r,L=>simp at L;omega
 .rw[HQ L,HQ L];rw[HS]at L;refine HI (a8f (vs:=ku) Bu_ (λz=>by rw[z]at l2;simp at l2;omega) ?_)
  .show"!h"
  .have hsz:(lw_).size=h!:=by rw[<-JU,jw,IK,KG,KG];omega
   have hk:∀q∈(h9_).zip ds,Hx s.heap q.1.1 (qN!).1 (qN!).2:=λq hq=>(mem q hq).1;have f9:(ib_).Nodup:=by rw[hd];exact nd
   refine HI (KJ (b8p (kd:=Yh true) (a0:=ku.toArray.zip cD!) (r:=λp=>Jn ib_ Bw_) (Q:=λ_ h2=>(y_).Perm lw_/\failedOf h2=none/\Up (λp=>Jn ib_ Bw_) y_ (lw_).size)
    (Bx!) By! Bz! By_ λh2 a1 a2 a3=>BA!) ?_ λ_ _ e=>e)
   .rw[jw]at J hy;obtain⟨p,hp,rfl⟩:=IH.mp J;obtain⟨q,a8,rfl⟩:=IH.mp hy;refine yE ly_ lz! ?_;have mm:∀p∈(h9_).zip ds,Iz g p.2∈((ib!).map A_).map eG!:=λp hp=>HZ (HZ hp);have hh:decide Bz_=Lh (Iz g p.2) qN!:=by
     show"#A"
    have uo:Q (decide Bz_) s:=hq;rw[hh]at uo;exact uo
   .show"!E";exact fin b1 b2 BA_ a2
def d1w{k:Nat}{ps:q!}{g:ah_}(F:Bn_)(hr:qG_)(hb:j1!)(lp:V_=1)
  {us:i_}{ds:c!}{n:Nat}{ks:fX!}{P:lt_}(I:d_)(sub:K_)(pu:qL_)(ha:BB!)(jc:ii!)
  (gg:qK!)(ek:Nq g ds=some ks)(nd:hC_)(oq:h!<64)
  (hP:∀s' H' G' us' n',Inv X h1 Z H' s'->Co G H G' H'->Paired (Cw X.K G') qM! us'->H' a=none->s'.heap.get? a=some ia!->P ia_ s'):
  wpAny e_ X.A.in1.in1 (ksk_tree a aj! false) P E s:=by
 have l1:av_=h!:=(gM pu).symm;have ekm:=yD ek;obtain⟨e1,uq⟩:∃e1,(s.heap.update a (Obj.mapSeq λ_=>(#[]:Array Value))).get? a=some (seqObj "list" #[] e1):=BC!;unfold ksk_tree;refine HI BE_;refine HI BC_;refine HI BD!;refine HI BE!;refine HI qP!;refine JN ?_;have hsz:(cp_).objs.size=o_+1:=by rw[size_push',Heap.size_update]
 show wpAny _ _ (ksk_rest a aj! false us.toArray e1 (.ref (cp_).objs.size)) P E {s with heap:=(cp_).push cq!};have j5:(qP_).get? (cp_).objs.size=some cq!:=IP _ rfl;rw[hsz]at j5 ⊢;have jb:a≠o_+1:=JG (PU (IQ ha));have ky:∀H':Hp,H' ag!=none->Jg X h1 H' ag!:=λH' q=>I.fpOk (PZ _) q;have mh:(qP_).get? a=some qK_:=HM _ (HM _ uq);have I1:Inv X h1 Z H {s with heap:=(cp_).push cq!}:=
  kE (wr:=[a]) (t':=s.toks) I (λb hb=>by rw[lv_];exact gg H jc) λb o hb q=>HM _ BF_
 have fa:=gg H jc;have fc:=ky H tU_;have I2:Inv X (h1++[lv!,(o_+1,seqObj "list" (vZ_).toArray 0)]) Z H {s with heap:=(cp_).push cq!}:=I1.pins_of λp hp=>by
  obtain z|z:=HV.mp hp
  .exact I1.pin p (HY _ z)
  .obtain rfl|z:=HN.mp z
   .exact⟨mh,jc,fa.2.1,fa.2.2.1,jL_⟩
   .rw[aL!];exact⟨j5,fc.1,fc.2.1,fc.2.2.1,jL_⟩
 generalize o_+1=c at *;unfold ksk_rest;refine HI h3_
 first
  |rw[List.forIn_toArray]
  |(rw[<-Array.forIn_toList];simp only[List.toList_toArray])
  |rw[<-Array.forIn_toList]
 refine HI (KJ (a0x (E:=v2_) (Q:=λ_ s'=>wpAny e_ X.A.in1.in1 _ P E s') F hr hb lp jb (λx R s' J=>?_) I2 sub pu .nil ek ky (by rw[LP];omega) λs' H' G' qq um n' I' x' p' k'=>?_) Ba_ λ_ _ z=>z.elim)
 .refine HI (PH (KJ J (λkv s2 hk=>?_) λ_ _ z=>z.elim));show"#?";exact HI (KJ hk (λ_ s3 z=>HK z) λ_ _ z=>z)
 .rw[KO]at I';rw[KO,KO]at p';have pc:=I'.pin (c,seqObj "list" qq.toArray n') fY!;have pa:=I'.pin lv! fY!;refine HI (QS pc.1 rfl ?_);rw[ekm]at k' nd;exact d4v oq nd jb gg ky I' x'.sub (Paired.mapP pu λ_ _ z=>z.mono x'.g) p' k' λs3 us' n3 I3 p3 e3=>hP s3 H' G' us' n3 I3 x' p3 pa.2.1 e3
def AB(g:ah_)(ds:c!):Option aR!:=(Nq g ds).bind λks=>if hC_/\h!<64 then some qM! else none
def Vg(g:ah_)(fa:e!):Ae->Option D:=λρ=>(fp!).bind λd=>match d with
 |.lst ds=>(AB g ds).map D.lst
 |_=>none
def mF{K:yQ!}:∀{ds:c!} {vs:n!} {us:i_},Am K G ds vs->Bc vs us->Paired f0_ ds us
 |[],vs,us,r,p=>by cases cS r;cases p;exact .nil
 |d::ds,vs,us,r,p=>by
  obtain⟨v,t,rfl,r1,r2⟩:=bR r;cases p with
  |cons a b=>exact .cons ⟨v,r1,a⟩ (mF r2 b)
def mH{K:yQ!}:∀{ds:c!} {us:i_},Paired f0_ ds us->∃vs,Am K G ds vs/\Bc vs us
 |_,_,.nil=>⟨[],Am.nil,.nil⟩
 |_,_,.cons ⟨v,r,p⟩ t=>let⟨vs,r2,p2⟩:=mH t;⟨v::vs,Am.cons r r2,.cons p p2⟩
def b2z{us':i_}{n':Nat}{s0:yP!}{H0:Hp}{ds:c!}{Q:VK}(I0:Inv X h1 Z H0 s0)(I:d_)(sub:K_)(hs:AL!<=a)(pu:Paired cV! ds us')(hz:h!<=sizeLine)(ho:s.heap.get? a=some ia!)(hn:ii!)
  (hQ:∀v G' H',Co G H G' H'->Ax X.K G' cd_ v->Q v H'):EP X h1 Z Q af_ s:=by
 obtain⟨vs,r,p⟩:=mH pu;have f:=I0.fpOk hs hn;refine⟨d0_,upd H a dm_,I.track ho p (by rw[<-aL r];exact hz) hn ?_ f.2.1 f.2.2.2.2.1 f.2.2.2.2.2,rfl,hQ _ _ _ (Co.laid sub hn) ?_⟩
 .exact JB I0.sz hs
 .exact Ax.lst (Fx.of cC) (r.mono (λb u e=>by rw[bD (λz=>by rw[z]at e;rw[sub _ _ e]at hn;cases hn)];exact e))
def a1t:bootBuiltins "sorted"=some lD_:=by decide+kernel
def a2e{us:i_}{Q:q_}(hl:BG_)(hz:av_<64)
  (h:wpAny e_ X.A.in1.in1 (ksk_tree ag! aj! false) (λfin s'=>∃v,fin=.done (.ret v)/\Q (.ref ag!) s') E {s with heap:=(lE_).push lF!}):
  wpAny e_ X.A (call lD_ [.ref l] [(Str.ofString "key",.ref f)]) Q E s:=by
 refine call_function_entry_kw kind_sorted plain_sorted entry_sorted (a5t _ _) ?_;unfold Builtin.«sorted»;refine HI (m:=BH_) ac!;refine HI (collect_list hl ?_ BI!);refine HI (QN ?_ BI!);have hsz:(lE_).objs.size=o_+1:=by
  rw[Heap.size_update,size_push']
 have lh:((lE_).push lF!).get? ag!=some lF!:=by
  rw[<-hsz];exact IP _ rfl
 show wpAny _ _ _ _ _ {s with heap:=(lE_).push lF!};rw[hsz];refine HI (JN (wpAny_call_entry_kw slot_list_sort BI_ entry_list_sort ?body (b2m _ _)))
 case body=>
  rw[ksk_t1];refine KJ h (λfin s' hq=>?_) λ_ _ z=>z;obtain⟨v,rfl,hq⟩:=hq;exact⟨v,rfl,HK ⟨_,rfl,hq⟩⟩
variable{own:List Nat}{fa:Ae->Option D}{e:Expr}{pos p p2 kp:Pos}{x:Str}
def c2u{k:Nat}{ps:q!}{g:ah_}(F:xH_)(hr:qG_)(hgx:Y!)(zw:Gl X "sorted")(zx:X.mg "sorted"=none)(ha:DE X own e fa)(lp:V_=1:=by rfl)(bg:F_:=by decide)
  (he:ho!:=by rfl):
  DE X own (.Call (.Name "sorted" p) [e] [⟨some "key",cI!,kp⟩] pos) (Vg g fa):=⟨by
 obtain⟨ae,fd,Y,L,h3,h4⟩:=F;intro h1 s Z H Q I ⟨G,ρ,d,er,e1,kq⟩;obtain⟨d0,e2,e1⟩:=HJ.mp e1;cases d0 with
 |lst ds=>
  obtain⟨qe,e3,rfl⟩:=HU.mp e1;obtain⟨ks,e4,e5⟩:=HJ.mp e3;have qi:hC_/\h!<64:=by
   by_cases z:hC_/\h!<64
   .exact z
   .rw[HQ z]at e5;cases e5
  rw[IB qi]at e5;cases e5;have da:=(aE ha aJ he).ok;refine LJ (kS I zw zx a1t ?_ b_ b_);refine callWith_kw (dL (da pos h1 s Z H _ I ⟨G,ρ,[.lst ds],er,by unfold Ac Ag;rw[e2];rfl,λvs G1 H1 x1 r1=>(⟨G1,x1,r1⟩:∃G1,Co G H G1 H1/\Am X.K G1 [.lst ds] vs)⟩) λus s1 ⟨vs,H1,I1,r,G1,x1,r1⟩=>?_) lH! lH! rfl rfl;refine kws_cons (kR I1 hgx h3 (kws_nil ?_) bg);obtain⟨v,t,rfl,rv,rr⟩:=bR r1;cases cS rr;obtain⟨l,xs,rfl,sq,rx⟩:=bT rv;obtain⟨its,hv,pl,hz⟩:=I1.list BJ!;cases r with
  |cons ra rb=>
   cases rb;cases ra;show wpAny e_ X.A (call lD_ [.ref l] [(Str.ofString "key",.ref ae)]) _ _ s1;have lz:gS!=h!:=by rw[<-hv.length,<-aL rx]
   obtain⟨nn,sl,ho⟩:=pC pl;refine a2e (us:=its) ⟨_,ho,rfl,nn,rfl⟩ (by rw[lz];exact qi.2) ?_;have keep:∀b o,s1.heap.get? b=some o->(BL_).get? b=some o:=λb o q=>by
    have am:b<D!:=IQ q;exact HM _ ((Heap.get?_update_ne _ _ _ _ (JG am)).trans ((Heap.get?_push_ne _ _ _ (JG am)).trans q))
   have hsz:(BK!).objs.size=D!+1:=by
    rw[Heap.size_update,size_push']
   have lh:(BL_).get? (D!+1)=some BK_:=by
    rw[<-hsz];exact IP _ rfl
   have I2:=I1.kept (t':=s1.toks) keep;have hs1:D!<=D!+1:=PZ _;refine d1w Y hr L lp I2 x1.sub (mF rx hv) lh (I1.hok.fresh hs1) (λH' q=>I1.fpOk hs1 q) e4 qi.1 qi.2 λs3 H3 G3 us3 n3 I3 x3 p3 hn3 zy=>pf!;exact b2z I1 I3 x3.sub hs1 p3 BM! zy hn3 λv G4 H4 x4 r4=>kq v G4 H4 (x1.trans (x3.trans x4)) r4
 |_=>cases e1⟩
end
def b2y{es:ad_}{ep:Nat}(hd:Ay_):W.KdlSrc P w "dict" d d es.length qo_ (λh=>Pi h d es ep) where
 type:=λ_ hm=>hm.typeIs
 there:=λ_ hm=>let⟨_,ho,_⟩:=hm;⟨IQ ho,IQ ho⟩
 keep:=λ_ _ hm hk=>hm.at λo e=>hk d G! o e
 notList:=by decide
 notTuple:=by decide
 hint:=λ_ _ _ _ hm hq=>W.kdl_hint_dict hm.typeIs hq
 iter:=λ_ _ hh hm=>⟨_,_,(λ_ _ hq=>c1v hd hm hq),b5o hh _ d (let⟨_,ho,_⟩:=hm;JG ik_) es ep,⟨eV_,hm.at λo e=>HM _ e⟩⟩
section
variable{X:Cx}{h1:List (Addr×Obj)}{Z:St}{G H:Hp}{s:yP!}{A:yn!}{E:Value->Shared->Prop}
def c9s{K:yQ!}{kvs:i!}{es:ad_}{acc:ae_}(ok:fH!)(hi:BN!):Paired f0_ fG_ lI!:=by
 have ea:lI!=es.map kJ_:=by
  apply RF;intro i;rw[JC];by_cases h:i<ai_
  .have Y:i<acc.size:=by rw[hi.1];exact h
   show"!i"
  .rw[BN_,JW a!];rfl
 rw[ea];have:∀{kvs:i!} {es:ad_},Paired qT! kvs es->Paired f0_ fG_ eI_:=λ{kvs es} h=>by
  induction h with
  |nil=>exact .nil
  |cons a _ ih=>exact .cons a ih
 exact this qT_
def Nv(d:D):Int×Int:=(My d).getD (0,0)
def Wz(ds:c!):Option aR!:=if lI_=true/\(lJ!).Nodup/\h!<64 then some lK_ else none
def d1v{us:i_}{ds:c!}{n:Nat}{P:lt_}(I:d_)(sub:K_)(pu:qL_)(ha:BB!)(jc:ii!)
  (gg:Jg X h1 H a)(ek:lI_=true)(nd:(lJ!).Nodup)(oq:h!<64)
  (hP:∀s' us' n',Inv X h1 Z H s'->Paired cV! lK_ us'->s'.heap.get? a=some ia!->P ia_ s'):
  wpAny e_ A (Builtin.«list.sort» nV!) P E s:=by
 have l1:av_=h!:=(gM pu).symm;obtain⟨e1,uq⟩:∃e1,(s.heap.update a (Obj.mapSeq λ_=>(#[]:Array Value))).get? a=some (seqObj "list" #[] e1):=BC!;rw[list_sort_plain];refine HI BE_;refine HI BC_;refine HI BD!;refine HI BE!;refine HI qP!;refine JN ?_;show wpAny _ _ _ P E {s with heap:=(cp_).push cq!};have I1:Inv X h1 Z H {s with heap:=(cp_).push cq!}:=
  kE (wr:=[a]) (t':=s.toks) I qV! λb o hb q=>HM _ BF_
 have mh:(qP_).get? a=some qK_:=HM _ (HM _ uq);generalize (cp_).push cq!=h3 at I1 mh ⊢;have pk:∀d∈ds,My d=some (Nv d):=λd hd=>by
  have:=LG.mp ek d hd;unfold Nv;cases q:My d with
  |none=>rw[q]at this;cases this
  |some z=>rfl
 have z:Paired qW! us ds:=by
  have gen:∀{ds:c!} {us:i_},Paired cV! ds us->(∀d∈ds,My d=some (Nv d))->Paired qW! us ds:=λ{ds us} h=>by
   induction h with
   |nil=>exact λ_=>.nil
   |cons r _ ih=>exact λhk=>.cons (a7e I1 sub r (hk _ (HP ..))) (ih λd hd=>hk d (HL _ hd))
  exact gen pu pk
 have mem:=xN z pu;have jw:(f2!).toList=(eJ!).map c_:=by
  rw[ksk_zip,Bt_]
 have hd:(eJ!).map A_=ds:=List.map_snd_zip qM_;have fin:∀{L':lq_} {st:SortSt},L'.Perm eJ!->(A!).toList=L'.map c_->L'.map A_=Jm Nv ds->failedOf st=none->
   P ia_ {s with heap:=h3.update a (Obj.mapSeq λ_=>(A!).map A_)}:=λ{L' st} b1 b2 b3 b4=>by
  have zu:(A!).map A_=(qY!).toArray:=by
   apply Bu!;rw[Array.toList_map,b2,JQ];rfl
  rw[zu];refine hP _ _ _ (kE (s:={s with heap:=h3}) (wr:=[a]) (t':=s.toks) I1 qV! λb o hb q=>(BF!).trans q) ?_ (OD mh λ_=>(qY!).toArray);rw[<-b3];exact jL λq hq=>(mem q (b1.mem_iff.mp hq)).2
 have WC:∀{L':lq_} {st:SortSt},L'.Perm eJ!->(A!).toList=L'.map c_->((A!).map A_).size<=sizeLine+1:=λ{L' st} b1 b2=>by
  rw[Array.size_map,<-JU,b2,IK,b1.length_eq,KG,KG,JV];omega
 by_cases L:ki_<2
 .rw[IB L,IB L];refine HI ac!;show"#?";rw[StateT.run_pure];refine HI ac!;show"#?";refine HI qX_;refine HI (OU mh rfl ?_ ck! (WC (L':=(f2_).zip ds) (OH _) jw));simp only[failedOf,RE,IW,JL];refine HK (fin (L':=(f2_).zip ds) (st:=SortSt.mk' general' f2! #[] 7 none) (OH _) jw ?_ rfl);rw[hd];rw[HS,l1]at L
  match ds,L with
  |[],_=>rfl
  |[x],_=>rfl
  |_::_::r,L=>simp at L;omega
 .rw[HQ L,HQ L];rw[HS]at L;refine HI (a8f (vs:=us) Bu_ (λz=>by rw[z]at L;simp at L) ?_)
  .show"!h"
  .have hsz:(f2!).size=h!:=by rw[<-JU,jw,IK,KG,KG];omega
   have hk:∀q∈(f2_).zip ds,Hx h3 q.1.1 (Nv q.2).1 (Nv q.2).2:=λq hq=>(mem q hq).1;have f9:(f3_).Nodup:=by rw[hd];exact nd
   refine HI (KJ (b8p (kd:=Yh true) (a0:=us.toArray.zip cD!) (r:=λp=>Jn f3_ (Lz h3 p.1)) (Q:=λ_ h2=>(y_).Perm f2!/\failedOf h2=none/\Up (λp=>Jn f3_ (Lz h3 p.1)) y_ (f2!).size)
    (Bx!) By! Bz! By_ λh2 a1 a2 a3=>BA!) ?_ λ_ _ e=>e)
   .rw[jw]at J hy;obtain⟨p,hp,rfl⟩:=IH.mp J;obtain⟨q,a8,rfl⟩:=IH.mp hy;refine yE ly_ lz! ?_;have mm:∀p∈(f2_).zip ds,Nv p.2∈((eJ!).map A_).map Nv:=λp hp=>HZ (HZ hp);have hh:decide qY_=Lh (Nv p.2) (Nv q.2):=by
     show"#A"
    have uo:Q (decide qY_) {s with heap:=h3}:=hq;rw[hh]at uo;exact uo
   .show"!E";refine HI qX_;refine HI (OU mh rfl ?_ ck! (WC b1 b2));rw[a2];simp only[RE,IW,JL];exact HK (fin b1 b2 BA_ a2)
def Xc(f:List V->VK->Hp->Prop):List V->Hp->VK->Prop:=λxs H Q=>∃d es ep ys,xs=[.ref d]/\H d=some dB!/\Bc ys eI_/\f ys Q H
def uV{es:ad_}{acc:ae_}(hi:BN!):lI!=es.map kJ_:=by
 apply RF;intro i;rw[JC];by_cases h:i<ai_
 .have Y:i<acc.size:=by rw[hi.1];exact h
  show"!i"
 .rw[BN_,JW a!];rfl
def oV(hc:a4!):Kg X d6! qZ!:=by
 intro h1 s Z H xs us Q I r ⟨d,es,ep,ys,e1,e2,hv,k⟩;subst e1;cases r with
 |cons ra rb=>
  cases rb;cases ra;obtain⟨⟨h3,h4,h5⟩,_⟩:=qZ_;refine W.kdl_call (b2y h4) bK_ h3 fK! λh' tk acc c hk hs hi=>?_;have hn:H o_=none:=I.hok.fresh y!;have f:=I.fpOk (H':=H) y! hn;refine⟨de_,upd H s.heap.objs.size ba_,?_,rfl,k _ hn⟩;have ia:=uV hi;refine(I.kept (t':=tk) hk).track (us:=lI!) (n:=c) (by rw[Array.toArray_toList];exact hs) (by rw[ia];exact hv) ?_ hn I.sz f.2.1 f.2.2.2.2.1 f.2.2.2.2.2;rw[hv.length,IK];exact cY h5
def Nr(M:Mh):List D->Option D
 |[d]=>(Ed M d).map λq=>.lst h1_
 |_=>none
def a0w{K:yQ!}{kvs:i!}{es:ad_}(ok:fH!):∃ys,Am K G fG_ ys/\Bc ys eI_:=by
 have:∀{kvs:i!} {es:ad_},Paired qT! kvs es->Paired f0_ fG_ eI_:=λ{kvs es} h=>by
  induction h with
  |nil=>exact .nil
  |cons a _ ih=>exact .cons a ih
 exact mH (this qT_)
def a9i{K:yQ!}:So P w K qZ! Nr:=by
 show"!T";unfold Nr at e;show"!6"
 .obtain⟨q,e1,rfl⟩:=HU.mp e;show"!>";exact⟨q.1,es,q.2.2,ys,rfl,Y,g2,λl hl=>k _ _ _ zM! (dQ (sub.free hl) g1)⟩
 .cases e
def Xb(K:yQ!):List V->Hp->VK->Prop:=λxs H Q=>∃G ds,Bk G H/\(∃d es ep,xs=[.ref d]/\H d=some dB!/\Paired f0_ ds eI_)/\lI_=true/\(lJ!).Nodup/\h!<64/\∀v G' H',Co G H G' H'->Ax K G' (.lst lK_) v->Q v H'
def zS(hc:a4!):Kg X lD_ (Xb X.K):=by
 intro h1 s Z H xs us Q I r ⟨G,ds,sub,⟨d,es,ep,e1,e2,hv⟩,q1,q2,q3,k⟩;subst e1;cases r with
 |cons ra rb=>
  cases rb;cases ra;obtain⟨⟨h3,h4,h5⟩,_⟩:=qZ_;have lz:ai_=h!:=by rw[gM hv,IK]
  refine Calls.call_function_entry kind_sorted plain_sorted entry_sorted (args_sorted1 _) ?_;unfold Builtin.«sorted»;refine HI (m:=BH_) ac!;refine HI (W.kdu_collect (b2y h4) bK_ h3 fK! λh' tk acc hk hi=>?_);have ia:=uV hi;refine HI (QN ?_ (by rw[ia,IK,JV];omega));rw[ia];have I1:=I.kept (t':=tk) hk;have lh:(h'.push ig!).get? h'.objs.size=some ig!:=IP _ rfl;have I2:Inv X h1 Z H {s with heap:=h'.push ig!,toks:=tk}:=I1.kept (t':=tk) λb u q=>HM _ q;have hn:H h'.objs.size=none:=I1.hok.fresh y!;refine HI (JN (JO slot_list_sort BI_ entry_list_sort ?body (args_list_sort _)))
  case body=>
   refine d1v (s:={s with heap:=h'.push ig!,toks:=tk}) I2 sub hv lh hn (I1.fpOk y! hn) q1 q2 q3 λs3 us3 n3 I3 p3 zy=>⟨_,rfl,HK pf!⟩;exact b2z I1 I3 sub y! p3 BM! zy hn k
def Sr(M:Mh):List D->Option D
 |[d]=>(Ed M d).bind λq=>(Wz h1_).map D.lst
 |_=>none
def c3c{K:yQ!}:So P w K (Xb K) Sr:=by
 show"!T";unfold Sr at e;show"!6"
 .obtain⟨q,e1,e⟩:=HJ.mp e;obtain⟨l,e2,rfl⟩:=HU.mp e;unfold Wz at e2;split at e2
  .rename_i hz;cases e2;show"!>";exact⟨G,_,sub,⟨q.1,es,q.2.2,rfl,Y,mF g1 g2⟩,hz.1,hz.2.1,hz.2.2,k⟩
  .cases e2
 .cases e
end
def Rw(M:Mh):D->D
 |.fn a=>match M a with|some (.lst xs)=>.lst xs|_=>.fn a
 |d=>d
def Pt(M:Mh)(x y:D):Option D:=Eg (Rw M x) (Rw M y)
def b3k{P:yO!}{w:yC!}{K:yQ!}{M:Mh}{G H:Hp}(sub:K_)(m:cm!)(r:cF_):Ax K H (Rw M d) v:=by
 cases d<;>first|exact r.mono sub|skip
 rename_i a;simp only[Rw];split
 .rename_i xs hM;show"!|";cases gD r;exact Ax.lst (Fx.of Y) (L.mono sub)
 .exact r.mono sub
def jN{P:yO!}{w:yC!}{K:yQ!}:Yb P w K (AD K) Pt:=by
 show"!_";unfold Pt Eg at e;show"!6"
 .show"!s";cases e;exact⟨_,_,b3k sub m rx,b3k sub m ry,h.1.1,h.1.2,h.2,ep!⟩
 .cases e
def Da(K:yQ!)(C:xT!)(m qual:Str)(st:Stmt)(ps:q!):Prop:=∃ae fd,Xv K m qual st ae fd/\Fc K fd ps []/\Wp K C m ae
def Us(K:yQ!)(mg:z!)(x:Str)(C:xT!)(qual:Str)(st:Stmt)(ps:q!):Prop:=mg x=some ay!/\∃ae fd,Xv K "__init__" qual st ae fd/\Fc K fd ps []/\Mk K C ae
section
variable{P:yO!}{w:yC!}{K:yQ!}{mg:Str->Option Value}{base h:Heap}{x qual:Str}{st:Stmt}{N ps:List Str}{k:Nat}{hx:List Nat}{q:WS}{C:xT!}
def bV(d:yy_)(S:d9!)
  (hb:∀{ae:xT!} {ag:yB!} {A:yn!} {outer:aw_} {s:yP!} {H:Hp} {E:XK},Al k pp!->Vk (pp_).nox [] hx bQ! q):
  Js P w K mg base V! x ps lh!:=by
 obtain⟨ae,fd,F,B,m⟩:=d;exact⟨ae,fd,lR_,B,m,F.kp⟩
def cJ(c:Ut K C)(d:Da K C x qual st ps)(S:d9!)
  (hb:q6_):
  Dt P w K mg base V! C x ps lh!:=by
 obtain⟨ae,fd,F,B,m⟩:=d;exact⟨c,ae,fd,m,lR_,B⟩
def a3i(d:Us K mg x C qual st ps)(S:d9!)
  (hb:q6_):
  Wo P w K mg base V! x C ps lh!:=by
 obtain⟨m,ae,fd,F,B,mk⟩:=d;exact⟨m,ae,fd,mk,lR_,B⟩
def dN{od an:a7_}{eh:b7!}{kV:yB!}
  (a:W.findIn K ay! x=some e2!)(i:m5_)(l:vG!)
  (c:i9!)(k:gY!)
  (b:vE_):Da K C x qual st ps:=
 ⟨f,_,kE!,pq_,⟨a,i,k⟩⟩
def c0x{od an:a7_}{eh:b7!}{kV:yB!}(m:mg x=some ay!)
  (a:tj_)(i:m5_)(l:K.lookup f=some ⟨oc,od,.func q7_,eh⟩)
  (c:i9!)(k:gY!)(mm:tj!)(kc:W.keepIn K ay!=true)
  (b:∀(kV br pm:yB!) (an:a7_) (ag ct:yB!) (us:i_),av_=V_->bindArgs q7_ db_=pure da_):Us K mg x C qual st ps:=
 ⟨m,f,_,kE!,pq_,⟨mm,a,i,kc⟩⟩
def c5o(hd:AY K mg x st [y])(S:Ai N [y] bE!)(gg:mg x=some fe!)
  (hb:∀(base:Heap) (ae:xT!) (ag:yB!) (A:yn!) (outer:aw_) (s:yP!) (H:Hp) (E:XK),Al k pp!->Vk (pp_).nox [] hx bQ! q):
  ∃fd:FuncData,(∀(s:yP!) (u:yB!),BindsTo s fd jw_ [(y,u)])/\∀base:Heap,K.In base->base.Ns mainGlobals mg->Fo P w K mg base Qf V! fa fd [y] (Xy P w K 1 (Bw N 1 q)):=by
 obtain⟨f,fd,F,B,m⟩:=hd;rw[gg]at m;cases m;exact⟨fd,λs u=>.of_eq (B [u] rfl),λbase _ _=>vY F S λag A outer s H E hr=>hb base _ ag A outer s H E hr⟩
def oG{α:Type}{p:f5_}(h:∀a,p [a]):∀us:List α,av_=1->p us
 |[a],_=>h a
def lL{α:Type}{p:f5_}(h:∀a b,p ap_):∀us:List α,av_=2->p us
 |[a,b],_=>h a b
def us3{α:Type}{p:f5_}(h:∀a b c,p f6!):∀us:List α,av_=3->p us
 |[a,b,c],_=>h a b c
def us4{α:Type}{p:f5_}(h:∀a b c d,p [a,b,c,d]):∀us:List α,av_=4->p us
 |[a,b,c,d],_=>h a b c d
def us5{α:Type}{p:f5_}(h:∀a b c d e,p [a,b,c,d,e]):∀us:List α,av_=5->p us
 |[a,b,c,d,e],_=>h a b c d e
def M0:Mh:=λ_=>none
def c5n{g:WF}{H:Hp}{ns:w_}(hS:Fx K H a b8!)(hg:g lV! M0 λd _=>d=.bl true):Xy P w K 1 g bl! H jx! λ_ _ _=>False:=
 ⟨rfl,H,lV!,M0,_,Bk.refl H,⟨λa c e=>by cases e⟩,Am.cons (Ax.lst hS (a1b ns)) Am.nil,hg,λd M' v G' H' r _ _ q=>by subst r;exact dA q⟩
end
end DL
namespace L2
open PySem PySem.Spec PyProof.Rows
def c4p{X:Cx}{i:Nat}{tg:Expr}{scope:Scope}{pos:Pos}{NL:q!}{ix:k_}{wi:TI}{g:TG}{tt:TT}{te:TE}
  (hN:bv!)(df:ak!)(J:bv_)
  (cm:di_)(cg:dj!)(j7:∀y∈ca_,y.2=.local->scope.names.lookup y.1=some .local)
  (ik:g3!)(cap:di!)(calm:a4!)(be:mJ_)
  (hg:g3_)(hi:v6_)(he:v7!)
  (hs:c7!:=by intro _;rfl)
  (ke:swapsWith ih_ (some iD!) pos.line X.env=pure true:=by rfl)
  (hf:X.fn x=true\/X.env.scope.names.lookup x=some .local:=by first|exact .inl rfl|exact .inr rfl|assumption):
  PS X (.Assign [.Name x io] ih_ pos) (AA v7_ eT!):=by
 intro h1 s Z H D I h;show"!R"
 rw[exec_Assign_Name_used x io _ pos ke];refine HI (QM gB_);unfold evalThenUse;refine HI (wpAny_comprehension_free (use:=some _) rfl hs b9.eq cm j7 v8!);obtain⟨it,fp,tn,af,H2,e,I2,T,bh,f2,hw⟩:=L;subst e;refine a1m (RR:=λacc C=>compPost e_ X.A X.xe (some _) _ acc C) cm cg b9 cap calm (hg cl) (hi cl) (he cl) I2 T bh f2 hw λD' C us n ys H' s' I' eD rv ap nD hD hC jl nC ⟨m,hn⟩ fin=>?_;have fw:∀b,b<N!->b≠C/\b≠D':=λb hb=>v8_;have qc:∀x c,X.env.cells.lookup x=some c->c<N!:=λx c h=>let⟨_,_,ho,_⟩:=I2.cell x c h;IQ ho;have td:∀p∈X.pn++h1,p.1<N!:=λp hp=>IQ (I2.pin p hp).1;have ID:=I'.track (D:=D') (us:=us) (n:=n) eD rv ap nD (JB I2.sz hD) (HR (g4_).2) wc! λp hp=>(jN!).2;show wpAny e_ X.A (assign iD! X.env (.ref D')) _ _ s';refine HI (m:=standAt io) (QM ?_);refine wpAny_bindName (zX ID hN df J (v:=.ref D') rfl (λs3 I3 ⟨a,sb,ha⟩=>?_) hf);have haC:a≠C:=by
  obtain rfl|ha:=ha
  .exact(g4_).1
  .exact(fw _ (qc _ _ ha)).1
 refine⟨m,hn.sameBut sb (HR haC),λh' b6=>?_⟩;have nC':upd H' D' ba_ C=none:=by rw[bD (HR jl)];exact nC
 have IC:Inv X h1 (Z.set i (some (.ref D'))) (upd H' D' ba_) {s3 with heap:=h',toks:=s3.toks}:=I3.turned (it:=C) v9_ nC' (HR (g4_).1) wa_ wb_ λp hp=>(jN!).1;exact HK (HK ⟨_,_,IC,fin D' nD⟩)
end L2
namespace DL
open PySem PySem.Spec PyProof.Rows L2
section
variable{X:Cx}{own:List Nat}{tg:Expr}{fi:WI}{ft:WT}
def jF{i:Nat}{scope:Scope}{pos p2:Pos}{NL:q!}{ix:k_}{g:TG}{bnd:ai!}{fe:WE}
  (hN:bv!)(df:ak!)(J:bv_)
  (cm:di_)(cg:dj!)(j7:∀y∈ca_,y.2=.local->scope.names.lookup y.1=some .local)
  (ik:g3!)(cap:di!)(nv:jR!)(calm:a4!)(be:qi_)
  (hg:g3_)(ny:oT_)(hi:As!)(he:As_)
  (bu:bp!:=by decide)(hs:c7!:=by intro _;rfl)
  (ke:swapsWith ih_ (some dp_) pos.line X.env=pure true:=by rfl)
  (hf:X.fn x=true\/X.env.scope.names.lookup x=some .local:=by first|exact .inl rfl|exact .inr rfl|assumption):
  MS X own own (.Assign [cI!] ih_ pos) (Ao i At!):=
 qM (c4p hN df J cm cg j7 ik cap calm be.ok hg hi xc! hs ke hf) λM0 G0 F0 E Z G H ρ M R sr e k1 k2=>⟨G,ρ,M,_,sr.st,e,λds ck M1 af G1 H1 r1 x1 m1 f7=>by
  obtain⟨hb,r1⟩:=r1;have p9:=sr.st.grow x1 m1;refine b5c hb f7 ny At_ r1 λjm ys M' G' H' r x m q _ p hp=>?_;exact k1 _ M' _ _ _ r ((((Ai!).grow x m).grow (.ext hm!) (m.ext hm!)).set bu (dQ oU! q))⟩
end
end DL
namespace DL
open PySem PySem.Spec PyProof.Rows L2
def FZ:Option lW_->Array Value
 |none=>#[]
 |some (b,t)=>#[.int b t,.int b t]
def AN:Option lW_->List Int->Int
 |some (b,_),xs=>xs.foldl max b
 |none,x::xs=>xs.foldl max x
 |none,[]=>0
section
variable{P:yO!}{w:yC!}{A:yn!}{R:Result->Shared->Prop}{s:yP!}{l I S:xT!}{dv:yB!}{full:List Value}
def wH{h h':Heap}{f:Obj->Obj}(k:∀b o,b∉[I]->h.get? b=some o->h'.get? b=some o):∀b o,b≠I->b≠S->h.get? b=some o->(h'.update S f).get? b=some o:=λb o b1 b2 e=>(JI _ _ (HR b2)).trans (k b o q9_ e)
def b8f{b:Int}:(FZ (some (b,t))).size<=sizeLine:=by show 2<=sizeLine;rw[JV];decide
def b4f(hh:dc!)(zz:l≠I)(ur:S≠I)(z6:S≠l):∀(xs:w_) (us:i_) (j:Nat) (acc:Option lW_) (h:Heap) (tk c:Nat),full.drop j=us->j<=ii_->IntsAre us xs->(acc=none->xs≠[])->
  h.IsListIter I l j->h.IsList l ij!->h.get? S=some (seqObj "list" (FZ acc) c)->
  (∀t h' ie,ra!->R (.ok (.ret (.int (AN acc xs) t))) {s with heap:=h',toks:=ie})->
  codeAny G_ A rc_ R {s with heap:=h,toks:=tk}
 |[],us,j,acc,h,tk,c,hd,hj,hi,ha,it,il,hS,hR=>by
  have W:=Walks.list (prog:=P) (w:=w) (A:=A.in1) hh I l zz ij!;cases hi;have e1:ii_<=j:=List.drop_eq_nil_iff.mp hd;have ej:j=full.toArray.size:=by rw[HS];omega
  match acc,ha with
  |none,ha=>exact absurd rfl (ha rfl)
  |some (b,t),_=>
   refine codeAny_builtin PySem.F.entry_max_loop ?_;rw[rd!];refine HI rd_;refine HI (wpAny_tryCatch (W.done _ _ _ ⟨by rw[<-ej];exact it,il⟩ λh' ie k=>?_));exact HI (wpAny_updateSeq (hz:=b8f) (k S _ rf! hS) rfl (HI (NR (HK (hR t _ _ (wH k))))))
 |x::xs,us,j,acc,h,tk,c,hd,hj,hi,ha,it,il,hS,hR=>by
  have W:=Walks.list (prog:=P) (w:=w) (A:=A.in1) hh I l zz ij!;have nm:rg!="max.loop":=by decide
  cases hi with
  |@cons _ t us _ hi=>
   have am:j<ii_:=by
    obtain z|z:=LK j ii_
    .exact z
    .rw[List.drop_eq_nil_iff.mpr z]at hd;cases hd
   have hv:full[j]?=some (.int x t):=by
    have:=congrArg (·[0]?) hd;simpa[List.getElem?_drop]using this
   have j3:full.drop (j+1)=us:=by
    rw[<-List.tail_drop,hd];rfl
   refine codeAny_builtin PySem.F.entry_max_loop ?_;rw[rd!];refine HI rd_;have go:∀(y:Int) (ty:Tok),y=max (AN acc [x]) y->∀(h':Heap) (ie c':Nat),ra!->h'.IsListIter I l (j+1)->h'.IsList l ij!->h'.get? S=some (seqObj "list" #[.int y ty,.int y ty] c')->AN acc e4_=xs.foldl max y->
     codeAny G_ A rc_ R {s with heap:=h',toks:=ie}:=λy ty _ h' ie c' k it' il' jx e=>
    b4f hh zz ur z6 xs us (j+1) (some (y,ty)) h' ie c' j3 am hi lZ_ it' il' jx λt' L tk2 k2=>by
     have:=hR t' L tk2 λb o b1 b2 e=>k2 b o b1 b2 (k b o b1 b2 e);rw[e]at this;exact this
   refine HI (wpAny_tryCatch (W.item j _ _ _ (by rw[HS];exact am) ⟨it,il⟩ λv h' ie hP st k=>?_));have ev:v=.int x t:=by
    have:full[j]?=some v:=by simpa using hP
    rw[hv]at this;exact(JJ this).symm
   subst ev;have jx:=k S _ rf! hS;have kk:∀b o,b≠I->b≠S->h.get? b=some o->h'.get? b=some o:=λb o b1 _ e=>k b o q9_ e
   match acc,hR,jx,go with
   |none,hR,jx,go=>
    show wpAny _ A.in1 (updateSeq S (λ_=>#[.int x t,.int x t])>>=_) _ _ _;refine HI (wpAny_updateSeq jx rfl ?_);rw[nm];refine HK ⟨RQ LU _,go x t (by simp[AN]) _ _ _ (wH k) ?_ ?_ ri! rfl⟩
    .obtain⟨o,e1,e2⟩:=st.1;exact rj!
    .obtain⟨o,e1,e2⟩:=st.2;exact rk!
   |some (b,tb),hR,jx,go=>
    show wpAny _ A.in1 (tryCatch (holding [.int x t,.int x t] (richCompare .Gt (.int x t) (.int b tb)>>=_)) _>>=_) _ _ _;refine HI (wpAny_tryCatch (JN (HI (CmpOf.ints_gt (prog:=P) (w:=w) (A:=A.in1) (P:=λi v=>∃t,v=.int (if i=0 then x else b) t) (λi=>if i=0 then x else b) (λi v h=>h) 0 1 _ _ _ _ _ gW! ⟨tb,rfl⟩ ?_))));refine HI (JN (JM ?_));refine HI (NR ac!);show wpAny _ A.in1 (if decide (x>b)=true then _ else _) _ _ _;by_cases g:x>b
    .rw[IV g,n_];refine HI (wpAny_updateSeq (hz:=b8f) jx rfl (HI (NR ?_)));rw[nm];refine HK ⟨RQ LU _,go x t rl_ _ _ _ (wH k) ?_ ?_ ri! (by show(e4_).foldl max b=_;rw[OQ,show max b x=x by omega])⟩
     .obtain⟨o,e1,e2⟩:=st.1;exact rj!
     .obtain⟨o,e1,e2⟩:=st.2;exact rk!
    .rw[IF g,am_];refine HI (NR ?_);rw[nm];exact HK ⟨RQ LU _,go b tb rl_ _ _ _ kk st.1 st.2 jx (by show(e4_).foldl max b=_;rw[OQ,show max b x=b by omega])⟩
end
end DL
namespace DL
open PySem PySem.Spec PyProof.Rows L2
def b7q(a v:yB!):argsOk "max" ⟨[a],[(Str.ofString "default",v)]⟩:=by unfold argsOk;kernel_rfl
def d1c:bootBuiltins "max"=some rn!:=by decide+kernel
section
variable{P:yO!}{w:yC!}{A:yn!}{E:Value->Shared->Prop}{Q:Value->Shared->Prop}{s:yP!}{l:xT!}{dv:yB!}
def c1c{us:i_}{xs:w_}(hh:dc!)(hl:BG_)(hi:IntsAre us xs)(ce:xs≠[])
  (hQ:∀t h' ie,(∀b o,s.heap.get? b=some o->h'.get? b=some o)->Q (.int (AN none xs) t) {s with heap:=h',toks:=ie}):
  wpAny G_ A (call rn! [.ref l] lY!) Q E s:=by
 have nm:rg!="max.loop":=by decide
 obtain⟨ol,hol,_⟩:=id hl;have WD:l<o_:=IQ hol;refine kmb_tree PySem.F.kind_max PySem.F.plain_max PySem.F.entry_max (b7q _ _) ?_;refine HI (wpAny_of_eq (show Builtin.Builtins.bindParams "max" ["key","default"] 0 ⟨[],lY!⟩=pure [none,some dv]from rfl) ?_);refine HI (HK (HI (wpAny_pyIter_list hl (HI qP!))));rw[nm];generalize hG:s.heap.push {cls:=.type "list_iterator",data:=.fields #[.ref l,.int 0 0]}=G;have hS:G.objs.size=o_+1:=by rw[<-hG];exact size_push' ..
 have gI:G.get? o_=some {cls:=.type "list_iterator",data:=.fields #[.ref l,.int 0 0]}:=by rw[<-hG];exact IP _ rfl
 have gk:∀b o,s.heap.get? b=some o->G.get? b=some o:=λb o e=>by rw[<-hG];exact HM _ e
 refine HK ⟨RQ LU _,b4f (full:=us) (l:=l) (I:=o_) (S:=G.objs.size) hh (JG WD) (by rw[hS];exact MU (OK _)) (by rw[hS];exact MU (PU WD)) xs us 0 none _ _ 0 rfl ck! hi (λ_=>ce)
  ⟨_,HM _ gI,rfl,rfl⟩ ?_ kz_ λt h' ie k=>hQ t h' ie λb o e=>?_⟩
 .obtain⟨o,e1,e2⟩:=hl;exact⟨o,HM _ (gk _ _ e1),e2⟩
 .have hb:=IQ e;exact k b o (JG hb) (by rw[hS];exact JG (PU hb)) (HM _ (gk b o e))
end
section
variable{X:Cx}{own:List Nat}{e:Expr}{fa:WE}{p p2 kp pos:Pos}{k:Int}{j:Nat}
def a8n:∀{xs:w_} {us:i_},Bc (xs.map V.int) us->IntsAre us xs
 |[],_,.nil=>.nil
 |x::xs,_,.cons r t=>by obtain⟨tk,rfl⟩:=r;exact .cons x tk (a8n t)
def Yv:List D->Option D
 |[.lst ds]=>(Nl ds).bind λxs=>match xs with|[]=>none|x::xs=>some (.int (xs.foldl max x))
 |_=>none
def c5k(hgm:Gl X "max")(zx:X.mg "max"=none)(hc:a4!)(ha:ME X own e fa)(he:ho!:=by rfl):
  ME X own (.Call (.Name "max" p) [e] [⟨some "default",.Constant io! j p2,kp⟩] pos) (w1 (λ_=>Yv) (Ab fa Af)):=⟨by
 intro h1 s Z H Q I ⟨G,ρ,M,R,st,e1,kq⟩;refine LJ (kS I hgm zx d1c ?_ b_ b_);refine callWith_kw (dL ((aC ha aI he).ok pos h1 s Z H _ I ⟨G,ρ,M,_,st,e1,λds M1 vs G1 H1 r1 x1 m1 q1=>(⟨ds,M1,G1,r1,x1,m1,q1⟩:∃ds M1 G1,Ef (Yv ds) (λd=>R d M1)/\XM M G H M1 G1 H1/\MR X.prog X.w X.K M1 G1 H1/\Am X.K G1 ds vs)⟩) λus s1 ⟨vs,H1,I1,r,ds,M1,G1,r1,x1,m1,q1⟩=>?_) lH! lH! rfl rfl;refine kws_cons (wpAny_Constant_int (kws_nil ?_));obtain⟨d,Y,L⟩:=dB r1;unfold Yv at Y;split at Y
 .rename_i qe;obtain⟨xs,e2,Y⟩:=HJ.mp Y;obtain⟨v,t,rfl,rv,rr⟩:=bR q1;cases cS rr;obtain⟨l,vs,rfl,sq,rx⟩:=bT rv;rw[nR rx e2]at sq;obtain⟨its,hv,pl,hz⟩:=I1.list BJ!;obtain⟨u,rfl,ru⟩:=uE r;cases ru
  match xs,Y with
  |x::xs,Y=>
   cases Y;exact c1c (s:={s1 with toks:=s1.toks+1}) (I1.ok.hd hc) pl.isList (a8n hv) d! λt h' ie kp=>⟨.int _,H1,I1.kept (t':=ie) kp,gW!,kq _ M1 _ G1 H1 L x1 m1 Ax.int⟩
 .cases Y⟩
end
end DL
namespace K24
open PySem L2 DL
nonrec def top(i:Nat):Stmt:=PySem.Challenge.pw_manyhands_k24_whole_back.main.body.getD i rq_
def Je(i j:Nat):Stmt:=match top i with
 |.ClassDef _ _ _ b _ _ _ _ _ _ _=>b.getD j rq_
 |s=>s
structure Au where
 mk::
 A0:Addr
 A5:Addr
 A6:Addr
 A7:Addr
 A8:Addr
 A9:Addr
 B0:Addr
 B1:Addr
 B2:Addr
 B3:Addr
 B4:Addr
 B5:Addr
abbrev Pm:Stmt:=top 12
def a6i:Ai p! p! (Ad Pm):=g!
abbrev Po:Stmt:=top 13
def a6k:Ai ga! ga! (Ad Po):=g!
abbrev Ll:Stmt:=top 14
def wO:Ai p! p! (Ad Ll):=g!
abbrev Qq:Stmt:=top 15
def b0j:Ai p! p! (Ad Qq):=g!
abbrev Ks:Stmt:=top 16
def vE:Ai p! p! (Ad Ks):=g!
abbrev Qr:Stmt:=top 17
def b0k:Ai p! p! (Ad Qr):=g!
abbrev Nd:Stmt:=top 18
def zB:Ai p! p! (Ad Nd):=g!
abbrev Oc:Stmt:=top 19
def a2q:Ai p! p! (Ad Oc):=g!
abbrev Qo:Stmt:=top 20
def b0h:Ai dJ_ dJ_ (Ad Qo):=g!
abbrev No:Stmt:=top 21
def b0g:Ai p! p! (Ad No):=g!
abbrev Pn:Stmt:=top 22
def a6j:Ai p! p! (Ad Pn):=g!
abbrev Kk:Stmt:=top 24
def a2r:Ai ga_ ga_ (Ad Kk):=g!
abbrev Qs:Stmt:=top 25
def b0l:Ai p! p! (Ad Qs):=g!
abbrev Kt:Stmt:=top 26
def vF:Ai p! p! (Ad Kt):=g!
abbrev Ju:Stmt:=top 27
def sF:Ai bh! bh! (Ad Ju):=g!
abbrev Pp:Stmt:=top 28
def a6l:Ai a1_ a1_ (Ad Pp):=g!
abbrev Sj:Stmt:=Je 30 0
def b6b:Ai aV_ aV_ (Ad Sj):=g!
abbrev Oe:Stmt:=Je 30 1
def a2s:Ai J! J! (Ad Oe):=g!
abbrev Jh:Stmt:=Je 30 2
def gC:Ai rt_ l5! (Ad Jh):=g!
abbrev Ku:Stmt:=Je 30 3
def iA:Ai ru! J! (Ad Ku):=g!
abbrev Nf:Stmt:=Je 30 4
def gQ:Ai [aj_,gT_,S!] aV_ (Ad Nf):=g!
abbrev Ng:Stmt:=Je 31 0
def zC:Ai aV_ aV_ (Ad Ng):=g!
abbrev Lo:Stmt:=Je 31 1
def wP:Ai J! J! (Ad Lo):=g!
abbrev Ic:Stmt:=Je 31 2
def oI:Ai J! J! (Ad Ic):=g!
abbrev Hn:Stmt:=Je 31 3
def gW:Ai gb! gb! (Ad Hn):=g!
abbrev Ln:Stmt:=Je 31 4
def mD:Ai rv_ cZ_ (Ad Ln):=g!
abbrev Ie:Stmt:=Je 31 5
def oJ:Ai gb_ gb_ (Ad Ie):=g!
abbrev Kv:Stmt:=Je 31 6
def vG:Ai cZ_ cZ_ (Ad Kv):=g!
abbrev Jw:Stmt:=Je 31 7
def dS:Ai rx_ l6! (Ad Jw):=g!
abbrev Lp:Stmt:=Je 31 8
def iP:Ai ry_ l6_ (Ad Lp):=g!
abbrev Gy:Stmt:=Je 31 9
def lR:Ai gc! gc! (Ad Gy):=g!
abbrev Hm:Stmt:=Je 31 10
def mE:Ai J! J! (Ad Hm):=g!
abbrev Gh:Stmt:=Je 31 11
def kK:Ai J! J! (Ad Gh):=g!
abbrev Fi:Stmt:=Je 31 12
def oH:Ai aW! aW! (Ad Fi):=g!
abbrev Fs:Stmt:=Je 31 13
def oZ:Ai aW! aW! (Ad Fs):=g!
abbrev Gz:Stmt:=Je 31 14
def lU:Ai aW! aW! (Ad Gz):=g!
abbrev Iv:Stmt:=top 33
def oY:Ai bh! bh! (Ad Iv):=g!
abbrev Nc:Stmt:=top 34
def jJ:Ai rA! a1_ (Ad Nc):=g!
abbrev Se:Stmt:=top 35
def jT:Ai rA_ a1_ (Ad Se):=g!
abbrev Vr:Stmt:=top 36
def c4e:Ai gc_ gc_ (Ad Vr):=g!
abbrev Sf:Stmt:=top 37
def jU:Ai rC! a1_ (Ad Sf):=g!
abbrev Qz:Stmt:=Je 40 0
def b0m:Ai gd_ gd_ (Ad Qz):=g!
abbrev Of:Stmt:=Je 40 1
def a2v:Ai ge! ge! (Ad Of):=g!
abbrev Od:Stmt:=top 41
def kJ:Ai [J_,eL_,cY_] af! (Ad Od):=g!
abbrev Nb:Stmt:=top 42
def zA:Ai af! af! (Ad Nb):=g!
abbrev Oa:Stmt:=top 43
def a2k:Ai ax! ax! (Ad Oa):=g!
abbrev Qp:Stmt:=top 44
def b0i:Ai ax! ax! (Ad Qp):=g!
abbrev Ob:Stmt:=top 45
def a2p:Ai b1! b1! (Ad Ob):=g!
abbrev Jv:Stmt:=top 46
def dR:Ai rD_ bI_ (Ad Jv):=g!
abbrev Lm:Stmt:=top 47
def gB:Ai rE_ ma_ (Ad Lm):=g!
abbrev Hc:Stmt:=top 48
def sH:Ai bI_ bI_ (Ad Hc):=g!
abbrev Si:Stmt:=top 49
def b6a:Ai ax! ax! (Ad Si):=g!
abbrev Es:Stmt:=top 50
def dY:Ai rF_ af! (Ad Es):=g!
abbrev Qm:Stmt:=top 51
def wN:Ai rG! ax! (Ad Qm):=g!
abbrev Vq:Stmt:=top 52
def vN:Ai rG_ bI_ (Ad Vq):=g!
abbrev Kr:Stmt:=top 54
def lM:Ai [J_,S!,eM_] [J_,S!] (Ad Kr):=g!
abbrev Hl:Stmt:=top 55
def gV:Ai [J_,a2!,eM_] X_ (Ad Hl):=g!
abbrev Gg:Stmt:=top 56
def kI:Ai b1_ b1_ (Ad Gg):=g!
abbrev Tp:Stmt:=top 57
def b8k:Ai X_ X_ (Ad Tp):=g!
abbrev Sg:Stmt:=top 58
def b5y:Ai X_ X_ (Ad Sg):=g!
abbrev Pq:Stmt:=top 59
def a6m:Ai X_ X_ (Ad Pq):=g!
abbrev Vp:Stmt:=top 60
def c4d:Ai X_ X_ (Ad Vp):=g!
abbrev Sh:Stmt:=top 61
def b5z:Ai b1_ b1_ (Ad Sh):=g!
abbrev Lj:Stmt:=top 62
def a6h:Ai b1! b1! (Ad Lj):=g!
abbrev Kj:Stmt:=top 64
def a2m:Ai af! af! (Ad Kj):=g!
abbrev Vs:Stmt:=top 65
def b3d:Ai rI! mc! (Ad Vs):=g!
abbrev Wy:Stmt:=top 66
def c8k:Ai ge_ ge_ (Ad Wy):=g!
abbrev Sq:Stmt:=top 67
def a2l:Ai [J_,gd!,gT_] af! (Ad Sq):=g!
abbrev Tt:Stmt:=top 69
def b8n:Ai c1_ c1_ (Ad Tt):=g!
abbrev Vt:Stmt:=top 70
def a2t:Ai vY! c1_ (Ad Vt):=g!
abbrev Pa:Stmt:=top 73
def b6c:Ai aH_ aH_ (Ad Pa):=g!
abbrev Sl:Stmt:=top 74
def nN:Ai v1_ aH_ (Ad Sl):=g!
abbrev Qu:Stmt:=top 75
def a6n:Ai v3! oe_ (Ad Qu):=g!
abbrev Tr:Stmt:=top 76
def b8l:Ai gf! gf! (Ad Tr):=g!
abbrev Qy:Stmt:=top 77
def fK:Ai rL_ me_ (Ad Qy):=g!
abbrev Sk:Stmt:=top 78
def fY:Ai rM_ mf_ (Ad Sk):=g!
abbrev Pr:Stmt:=top 79
def gX:Ai rN_ aH_ (Ad Pr):=g!
abbrev Qt:Stmt:=top 80
def pA:Ai rN! aH_ (Ad Qt):=g!
abbrev Qw:Stmt:=top 81
def jV:Ai rO! c2_ (Ad Qw):=g!
abbrev Qv:Stmt:=top 82
def wR:Ai rP! mg_ (Ad Qv):=g!
abbrev Ts:Stmt:=top 83
def b8m:Ai c2_ c2_ (Ad Ts):=g!
abbrev Qx:Stmt:=top 84
def iQ:Ai rP_ mh_ (Ad Qx):=g!
abbrev Tq:Stmt:=top 85
def pZ:Ai rQ_ aH_ (Ad Tq):=g!
abbrev Kl:Stmt:=top 86
def a2u:Ai b3_ b3_ (Ad Kl):=g!
abbrev Iw:Stmt:=top 87
def wQ:Ai b3_ b3_ (Ad Iw):=g!
abbrev Mi:Stmt:=top 88
def nO:Ai rR! op_ (Ad Mi):=g!
abbrev Mj:Stmt:=top 89
def nQ:Ai rR_ mj! (Ad Mj):=g!
abbrev Qn:Stmt:=top 90
def gL:Ai rT! [bJ!] (Ad Qn):=g!
def Rb:Ae->Option Fl:= (Bl (Cu (Em "int" m_) (Cu (Dv (Em "bool" m_)) (f2 Ka (f1 Gd aM_) (f2 Gk (fC (.int 10)) mk_)))))
def Fu:List D->Option D:=Cj p! 1 (Rb)
def Re:Ae->Option Fl:= (Bl (Cu (f1 Fu aM_) (Cd Ko Ka C! m_ v_)))
def Hh:List D->Option D:=Cj ga! 2 (Re)
def Nh:Ae->Option Fl:= (Bl (Cu (f1 Fu aM_) (f2 Oj m_ w!)))
def Dx:List D->Option D:=Cj p! 1 (Nh)
def Pb:Ae->Option Fl:= (sSeq (Gi (Ms iw_ (fT (f2 Lx dM! S_))) c4_ Cs) (Bl (Cu (f1 Hh (Ac aW_ (Ac gh_ Ag))) (f1 Dx (Ac dM_ Ag)))))
def Ec:List D->Option D:=Cj p! 1 (Pb)
def Lq:Ae->Option Fl:= (sSeq (Gi (Ms iw_ (fT (f2 Lx dM! al!))) c4_ Cs) (Bl (Cu rY! (f1 Hh (Ac dN! (Ac gh_ Ag))))))
def Eb:List D->Option D:=Cj p! 1 (Lq)
def Ml:Ae->Option Fl:= (Bl (Ev (f1 Ec aM_) (Ev (f2 Ba m_ eS!) (f2 Ba m_ ix_))))
def Hg:List D->Option D:=Cj p! 1 (Ml)
def Km:Ae->Option Fl:= (Bl (Ev rZ_ (f1 Ec aM_)))
def Fd:List D->Option D:=Cj p! 1 (Km)
def Ls:Ae->Option Fl:= (Bl (Ev rZ_ (f1 Eb aM_)))
def Ga:List D->Option D:=Cj p! 1 (Ls)
def Sn:Ae->Option Fl:= (Bl (Cu (Cd Ko Ko (fC (.str " ")) m_ (fC (.str "~"))) (f2 Lx (f1 Yu aM_) (fC (.int 37)))))
def He:List D->Option D:=Cj dJ_ 1 (Sn)
def Sm:Ae->Option Fl:= (sSeq (Gi (Ms (Ct (fT (Em "str" m_))) (Ct (fT (Cd Ko Ko w! dM! gh_)))) c4_ Cs) (Bl (f1 Rq (Ac (Hw 1 [] (AR m_) E! a3_ iz!) Ag))))
def Ke:List D->Option D:=Cj p! 1 (Sm)
def Rc:Ae->Option Fl:= (Bl (f1 Hh (Ac m_ (Ac c5! Ag))))
def Dw:List D->Option D:=Cj p! 1 (Rc)
def Ip(t:Au):List ci_:=[("put",.tup [dN_,.fn t.A5]),("move",.tup [dN_,dN_,.fn t.A5]),("drop",.tup [dN_]),("write",.tup [dN_,.fn t.A6,.fn t.A7]),("cut",.tup r5!),("set",.tup [dN_,.fn t.B0,.fn t.B1]),("undo",.tup [.fn t.B2]),("redo",.tup [.fn t.B2])]
def Li(t:Au):Addr->Option xI!:=λa=>if a=t.A0 then some Hg else if a=t.A5 then some Fd else if a=t.A6 then some Ga else if a=t.A7 then some Ke else if a=t.A8 then some Eb else if a=t.A9 then some Dx else if a=t.B0 then some Dw else if a=t.B1 then some Fu else if a=t.B2 then some Ec else none
def Ps(t:Au):Ae->Option Fl:= (sSeq (Gi (fT (f2 Lx dM! iB!)) c4_ Cs) (Bl (f1 Rq (Ac (Hw 2 [] (AQ v_ m_) iC! a3_ iB_) Ag))))
def Ht(t:Au):List D->Option D:=Cj ga_ 2 (Ps t)
def Pc(t:Au):Ae->Option Fl:= (sSeq (Gi (Ms iw_ (fT (f2 Ba dM! C!))) c4_ Cs) (sSeq (Gi (Ms (Ct (fT (Em "str" aW_))) (fT (Yw gl_ true aW_))) c4_ Cs) (sSeq (Gi (Ct (fT (f1 (Ht t) (Ac (Do m_ (Ap w!) Aq) (Ac (Wc gl_ aW_) Ag))))) c4_ Cs) (Bl (Ev (f2 Lx aW_ (fC dP!)) (f2 Ko (f2 An (f2 Ak dN! S_) iC_) gh_))))))
def Iq(t:Au):List D->Option D:=Cj p! 1 (Pc t)
def Lr(t:Au):Ae->Option Fl:= (sSeq (Gi (Ms iw_ (fT (f2 Lx dM! c5!))) c4_ Cs) (Bl (Cu rY! (Cu (f1 Dx (Ac dN! Ag)) (f1 (Iq t) (Ac iC_ Ag))))))
def Cb(t:Au):List D->Option D:=Cj p! 1 (Lr t)
def Kw:Ae->Option Fl:= (Bl (Aw (Ac dN! (Ac aW_ Ag))))
def Dh:List D->Option D:=Cj bh! 1 (Kw)
def Rf:Ae->Option Fl:= (Bl (Vg Dh m_))
def Dl:List D->Option D:=Cj a1_ 1 (Rf)
def Xk(t:Au):WS:= (Ah (Fy t.B5 "following" h_ sd_) (Fy t.B5 "preceding" h_ sd_))
def Hu(t:Au):WF:=Bw aV_ 1 (Xk t)
def Lv(t:Au):WS:= (Az (Jt (wl iD_) (w2 by! u! c6!)))
def Hv(t:Au):WF:=Bw J! 2 (Lv t)
def Jy(t:Au):WS:= (Ah (Ao 3 (Yf (wT (Bb t.B5 "holds" 2 (Hv t) h_ dQ_)) C_ b4!)) (Ah (Ao 4 (w2 Bt c6! aO!)) (Ah (Cf c6! aO! u!) (Ah (Cf iE_ u! aO!) (Ah (Cf c6! u! a4_) (Cf iE_ a4_ u!))))))
def Cv(t:Au):WF:=Bw rt_ 3 (Jy t)
def Lu(t:Au):WS:= (Ah (Ao 2 (Yd iE_ u!)) (Ah (Ao 3 (Yd c6! u!)) (Ah (Cf c6! C_ aO!) (Cf iE_ aO! C_))))
def Jb(t:Au):WF:=Bw ru! 2 (Lu t)
def Oh(t:Au):WS:= (Ah iF! (Ah (Ao 2 (w2 Bt c6! b4!)) (Ah (Jl sg! sh!) cv_)))
def Im(t:Au):WF:=Bw [aj_,gT_,S!] 1 (Oh t)
def Ta(t:Au):WS:= (Ah (Fy t.B4 "parents" h_ (Pk (Ek (wl eS!) b4! (Ek iG! b4! Ny)))) (Ah (Fy t.B4 "rows" h_ (Pk (Ek (wl eS!) iG_ (Ek iG! iG_ Ny)))) (Ah (Fy t.B4 "texts" h_ Gx) (Ah (Fy t.B4 "numbers" h_ Gx) (Ah (Fy t.B4 "written" h_ Gx) (Fy t.B4 "hidden" h_ Gx))))))
def Io(t:Au):WF:=Bw aV_ 1 (Ta t)
def Ni(t:Au):WS:= (Az (w2 by! u! cw!))
def Cc(t:Au):WF:=Bw J! 2 (Ni t)
def Ix(t:Au):WS:= (Az (w2 by! u! eU_))
def Ci(t:Au):WF:=Bw J! 2 (Ix t)
def Mw(t:Au):WS:= (Ah (Jl gn_ go!) (Az (wl iD_)))
def Fm(t:Au):WF:=Bw gb! 3 (Mw t)
def Ry(t:Au):WS:= (Ah sl_ (Ah sn_ (Ah sn! (Ah yM_ (Ah yN! sp!)))))
def Jp(t:Au):WF:=Bw rv_ 4 (Ry t)
def Iy(t:Au):WS:= (Az (Jt mD_ (Jt sl! (Ww (Bb t.B4 "is_within" 3 (Fm t) h_ (Ab C_ al_))))))
def Fv(t:Au):WF:=Bw gb_ 3 (Iy t)
def Rg(t:Au):WS:= (Ah (Av (Iu (wT (Bb t.B4 "can_move" 3 (Fv t) h_ (Ab u! dQ_)))) Qi Bn) (Ah (Bo (Bb t.B5 "take_out" 2 (Jb t) (w2 Bt cw! iH_) al_)) (Ah (Bo (Bb t.B5 "put_behind" 3 (Cv t) (w2 Bt cw! C_) mC!)) (Cf mA! u! C_))))
def Gp(t:Au):WF:=Bw cZ_ 4 (Rg t)
def Kx(t:Au):WS:= (Ah (Av (Iu (wT (Bb t.B4 "has_item" 2 (Ci t) h_ dQ_))) Qi Bn) (Ah (Ao 5 aO!) (Dj (Il (Td T_)) (We 6 7) (Ah mG_ (Ah ss! (Ah st! (Ao 5 gr!)))))))
def Ia(t:Au):WF:=Bw rx_ 5 (Kx t)
def Nj(t:Au):WS:= (Ah (Av (Iu (wT mD_)) Qi Bn) (Dj (Il (Tc dT! sv!)) cx! (Ah sx! sy_)))
def Jq(t:Au):WF:=Bw ry_ 4 (Nj t)
def Ho(t:Au):WS:= (Av (wT mD_) (Cf sz! C_ aO!) Bn)
def Ez(t:Au):WF:=Bw gc! 4 (Ho t)
def Ig(t:Au):WS:= (Az iH_)
def Fk(t:Au):WF:=Bw J! 2 (Ig t)
def Ha(t:Au):WS:= (Az (Bb t.B5 "listed" 1 (Im t) (w2 Bt cw! u!) Af))
def Dq(t:Au):WF:=Bw J! 2 (Ha t)
def Np(t:Au):WS:= (Az (Bg 1 [0] (Ca (Bb t.B5 "listed" 1 (Im t) sy! Af)) E! (wT (w2 eW_ h_ (Ay t.B4 "hidden" u!))) h_))
def Dm(t:Au):WF:=Bw aW! 2 (Np t)
def Oi(t:Au):WS:= (Az (Qk "" (Bg 1 [0] sA! E! bk! (w2 Bt (Ay t.B4 "written" u!) h_))))
def Go(t:Au):WF:=Bw aW! 2 (Oi t)
def Hq(t:Au):WS:= (Az (w1 Vz (Ab sz! Af)))
def Fa(t:Au):WF:=Bw aW! 2 (Hq t)
def Og:Ae->Option Fl:= (Bl (Ev (f2 Ba gt! eX!) (f2 Ba gt! (fC cx_))))
def At:List D->Option D:=Cj bh! 1 (Og)
def Sz:WS:= (Ah (Ao 1 Gx) (Ah (Dj (Il (Ep iL_)) bL_ sE!) cv_))
def Gn:WF:=Bw rA! 1 (Sz)
def Xe:WS:= (Ah (Ao 1 (Aj 1 Gn aX_)) (Ah mN_ (Ah (Dj (Il eY_) Q_ iO!) dU!)))
def Kb:WF:=Bw rA_ 1 (Xe)
def AL(t:Au):WS:= (Av sH_ (Bo (Bb t.B4 "put" 4 (Jp t) h_ (Ab u! (Ab b5! (Ab gv! Af))))) (Av sJ! (Bo (Bb t.B4 "move" 4 (Gp t) h_ gv_)) (Av sJ_ (Bo (Bb t.B4 "move" 4 (Gp t) h_ sK_)) (Av sL! (Bo (Bb t.B4 "write" 5 (Ia t) h_ (Ab u! gv_))) (Av sL_ (Bo (Bb t.B4 "cut" 4 (Jq t) h_ gv_)) (Av sN! (Bo (Bb t.B4 "set_number" 4 (Ez t) h_ gv_)) Bn))))))
def Nt(t:Au):WF:=Bw gc_ 3 (AL t)
def Xf(t:Au):WS:= (Ah sO! (Ah (Ao 2 (Aj 1 Kb aX_)) (Ah (Dj (Il (Ep iL_)) Q_ (Ah gu! sQ!)) cv_)))
def Kd(t:Au):WF:=Bw rC! 1 (Xf t)
def Wk(t:Au):WS:= (Ah (Fy t.B3 "ours" h_ u!) (Ah (Fy t.B3 "taken" h_ Gx) (Ah (Fy t.B3 "waiting" h_ (Qj Af)) sS_)))
def Gb(t:Au):WF:=Bw gd_ 2 (Wk t)
def Uf(t:Au):WS:= (Az (w1 Wl (Ab sT_ Af)))
def Fb(t:Au):WF:=Bw ge! 2 (Uf t)
def Tz(t:Au):WS:= (Ah iF! (Ah (Dj (Ir c8!) bL_ (Yg 1 mY_)) sV_))
def Ey(t:Au):WF:=Bw [J_,eL_,cY_] 1 (Tz t)
def Sy(t:Au):WS:= (Ah sX_ (Az mZ!))
def Cq(t:Au):WF:=Bw af! 1 (Sy t)
def Tv(t:Au):WS:= (Az (w2 (λ_=>Ko) (wl m0!) sY_))
def Fz(t:Au):WF:=Bw ax! 2 (Tv t)
def Wi(t:Au):WS:= (Az (w2 iN_ (wl m0!) (w2 Mf sY_ dY!)))
def Hf(t:Au):WF:=Bw ax! 2 (Wi t)
def Tx(t:Au):WS:= (Ah sZ_ s0_)
def Ex(t:Au):WF:=Bw b1! 2 (Tx t)
def Py(t:Au):WS:= (Ah mN_ (Ah (Dj (Ca (w2 Mf gz_ u!)) Q_ (Ah gu! (Ah s4! s5_))) dU!))
def Eo(t:Au):WF:=Bw rD_ 2 (Py t)
def Rx(t:Au):WS:= (Ah mN_ (Dj (Ca (w1 Sr al_)) Q_ (Ah s9_ (Ah tb! tb_))))
def Jo(t:Au):WF:=Bw rE_ 2 (Rx t)
def Pz(t:Au):WS:= (Ah (Av (Dd (Ct te!)) Fh Bn) (Bo (Aj 2 (Jo t) (Ab h_ (Ab (Aj 2 (Eo t) c8_) Af)))))
def Fp(t:Au):WF:=Bw bI_ 2 (Pz t)
def Xj(t:Au):WS:= (Ah (Bo (Vo (Ki c8! (wl m0_) (Qj Af)) u!)) sS_)
def Kf(t:Au):WF:=Bw ax! 2 (Xj t)
def Pd(t:Au):WS:= (Ah (Ao 1 a5_) (Ah tg_ (Ah (Jl (Dd (fT (f2 Mm (f1 Bp bz!) C!))) (Ah Fh (Ah (Bo (Aj 2 (Kf t) (Ab h_ (Ab (wl bA!) Af)))) (Ah (To 1 dY!) tg_)))) cv_)))
def Fe(t:Au):WF:=Bw rF_ 1 (Pd t)
def Wh(t:Au):WS:= (Ah ti! (Ah (Ao 2 (Wg (Aj 2 (Fz t) c8_) (w2 by! u! gz_))) (Ah (Av (Hb (Dd (Ct (fT x!))) (wT (w2 (λ_=>Ka) (w1 Wl (Ab gz_ Af)) (wl (fC (.int 8)))))) (Bo (Vo gz_ u!)) Bn) (Az a5_))))
def Kc(t:Au):WF:=Bw rG! 2 (Wh t)
def AK(t:Au):WS:= (Ah tk_ (Ah (Ao 2 a5_) (Ah (Dj gC! Q_ (To 2 tl!)) dU!)))
def Hd(t:Au):WF:=Bw rG_ 2 (AK t)
def Ra(t:Au):WS:= (Ah m8! tm_)
def Ea(t:Au):WF:=Bw [J_,S!,eM_] 2 (Ra t)
def Mu(t:Au):WS:= (Ah m8! (Ah (Av (Iu (wT (Bb t.B4 "has_item" 2 (Ci t) C_ al_))) Fh Bn) dU!))
def Cr(t:Au):WF:=Bw [J_,a2!,eM_] 2 (Mu t)
def Ld(t:Au):WS:= (Ah to! (Az iZ!))
def Er(t:Au):WF:=Bw b1_ 3 (Ld t)
def Yo(t:Au):WS:= (Az to_)
def Hj(t:Au):WF:=Bw X_ 2 (Yo t)
def Xg(t:Au):WS:= (Az (Bb t.B4 "parent_of" 2 (Fk t) iZ! al_))
def Hs(t:Au):WF:=Bw X_ 2 (Xg t)
def Vb(t:Au):WS:= (Az tq!)
def El(t:Au):WF:=Bw X_ 2 (Vb t)
def AJ(t:Au):WS:= (Az (Bb t.B4 "text_of" 2 (Go t) iZ! al_))
def Ma(t:Au):WF:=Bw X_ 2 (AJ t)
def Xh(t:Au):WS:= (Az (w2 Bt (Bb t.B4 "numbers_of" 2 (Fa t) (Aj 3 (Er t) (Ab h_ (Ab u! dQ_))) al_) C_))
def Gm(t:Au):WF:=Bw b1_ 3 (Xh t)
def Va(t:Au):WS:= (Az ts_)
def Kq(t:Au):WF:=Bw b1! 2 (Va t)
def Tw(t:Au):WS:= (Az (w2 Mf dY! (w1 (λ_=>Yv) (Ab tt! Af))))
def Ji(t:Au):WF:=Bw af! 1 (Tw t)
def AM(t:Au):WS:= (Ah (Ao 2 (Ru (Ab iU_ (Ab (w2 Mf (Bb t.B3 "have" 2 gy! h_ (Ab iU_ Af)) dY!) Af)))) (Ah (Bo (Aj 2 (Kf t) (Ab h_ (Ab tu_ Af)))) dU!))
def Tg(t:Au):WF:=Bw rI! 2 (AM t)
def CF(t:Au):WS:= (Ah (Bo tq_) (Az (Aj 2 (Tg t) (Ab h_ (Ab (wl (Aw (Ac iP_ (Ac v_ bz!)))) Af)))))
def Wa(t:Au):WF:=Bw ge_ 3 (CF t)
def AI(t:Au):WS:= (Ah (Ao 1 (Aj 1 Kb mZ_)) (Ah (Ao 2 tx!) (Ah (Av (Dd (fT (f2 Ba (f1 Bp bz!) C!))) Fh Bn) (Az (Aj 2 (Tg t) (Ab h_ (Ab (wl (Aw (Ac eX! (Ac (f2 Ak x! (Yx w!)) Ag)))) Af)))))))
def Tf(t:Au):WF:=Bw [J_,gd!,gT_] 1 (AI t)
def Tb:Ae->Option Fl:= (sSeq (Gi (λρ=>((m_) ρ).bind Uy) ty_ Cs) (Bl C!))
def On:List D->Option D:=Cj c1_ 2 (Tb)
def Xl:Ae->Option Fl:= (sSeq (Cp 2 (f2 By (f2 An (f1 On (Ac m_ dO_)) (f2 Eh (fC (.int 104729)) tB_)) (fC (.int 4294967291)))) (sSeq (Cp 2 (f2 By (f2 Eh x! (fC (.int 48271))) (fC (.int 4294967279)))) (Bl (f2 By (f2 An (f2 Eh (f2 Ck x! (fC (.int 64))) (fC (.int 69621))) x!) (fC (.int 4294967231))))))
def Bv:List D->Option D:=Cj vY! 2 (Xl)
def Uc:Ae->Option Fl:= (Bl (f2 An (f2 An (fC (.lst [gi_])) (Hw 1 [] eY_ E! (fT nc_) (Aw gE_))) (fC (.lst [ix!,nd!]))))
def Md:List D->Option D:=Cj aH_ 1 (Uc)
def Ua:Ae->Option Fl:= (sSeq (Mt 1 (Ac cg_ (Ac (fC (.tup [gF_,gF_,bi!])) Ag))) (sSeq (Rv eY_ bL_ (Gi tD_ tG_ Cs)) (Bl v_)))
def Mc:List D->Option D:=Cj v1_ 1 (Ua)
def Vw:Ae->Option Fl:= (sSeq (Cp 2 (fC (.str " abcXYZ.,;!019~[]\\\"'|{}<>@#$&*()-+/=_^:?`"))) (Bl (Xp (fC i3_) (Hw 1 [0,2] (Eu ne_) E! a3_ tI!))))
def Ol:List D->Option D:=Cj v3! 2 (Vw)
def Vy:Ae->Option Fl:= ty_
def Du:List D->Option D:=Cj gf! 2 (Vy)
def Qg:Ae->Option Fl:= (sSeq tI_ (sSeq tJ! (sSeq tK_ (sSeq tL_ (sSeq tM! (sSeq tM_ (sSeq tP_ (sSeq tR! (sSeq tT_ (sSeq tV! (sSeq tW_ (sSeq tY_ (sSeq t1! (sSeq t4! (sSeq t5! t5_)))))))))))))))
def Mr:List D->Option D:=Cj rL_ 4 (Qg)
def Rh:Ae->Option Fl:= (sSeq (Mt 3 Ag) (sSeq (Mt 4 i8_) (sSeq (Mt 5 i8_) (sSeq (Rv (Eu x!) gJ_ (sSeq t9_ (sSeq ua! (sSeq ua_ (sSeq ub! (sSeq uc! ue!)))))) (Bl M!)))))
def Mb:List D->Option D:=Cj rM_ 3 (Rh)
def Vc:WS:= (Ah iF! (Ah (Dj (Il eY_) bL_ (Ah uf_ (Ah (Jl (Dd (Cz ug! uh!)) nq_) uh_))) cv_))
def Fw:WF:=Bw rN_ 1 (Vc)
def Wj:WS:= (Ah (Ao 1 Gx) (Ah (Dj nr_ bL_ (Av uj! uj_ Bn)) cv_))
def Mn:WF:=Bw rN! 1 (Wj)
def Yr:WS:= (Ah (Ao 4 (Bg 1 [1] nt! E! (Dd (fT ul!)) h_)) (Ah (Ao 5 a5_) (Ah (Jl (Dd (Cz ul_ um_)) un!) (Ah (Dj (Il (Eu gM!)) gJ_ (Av uq! up_ Bn)) (Cf h_ gL_ (wl (f2 An ur! us_)))))))
def Gq:WF:=Bw rO! 4 (Yr)
def Yq:WS:= (Ah (Jl (Dd iH!) (Ah ut_ (Ah uv_ (Ao 1 gB!)))) (Az eW!))
def Mp:WF:=Bw rP! 3 (Yq)
def Yp:WS:= (Av (Hb (wT (w2 by! u! bl_)) (Ux (wT (w2 by! C_ bl_)) (wT (w2 by! C_ ux!)))) (Av uy! uz! Bn) Bn)
def Jj:WF:=Bw c2_ 4 (Yp)
def Xm:WS:= (Ah ny! (Ah ny_ (Av sH_ (Ah uB! (Ah nz! (Ah nB_ nC!))) (Av sJ! nD! (Av sJ_ nD_ (Av (Hb sN! (wT gM_)) uE! (Av (Hb sL! (wT gM_)) (Ah jk! (Ah (Ao 6 a5_) (Ah (Dj nE! (Cg 7) uG!) (Ah uI! uK!)))) (Av (Hb sL_ (wT gM_)) (Ah uM! (Ah jk! uP!)) Bn))))))))
def Wb:WF:=Bw rP_ 2 (Xm)
def Vx:WS:= (Ah uS! (Ah uR_ (Ah (Dj nr_ Q_ (Av (Hb uS_ uU!) uU_ Bn)) cv_)))
def Mo:WF:=Bw rQ_ 1 (Vx)
def Ud:WS:= (Az (Bg 1 [1] nt! E! (Dd (fT uW!)) (wl aW_)))
def Jk:WF:=Bw b3_ 2 (Ud)
def Rz:WS:= (Az (Qk "" (Bg 1 [] uX_ E! (Dd (fT dN!)) (wl dM_))))
def Hk:WF:=Bw b3_ 2 (Rz)
def Ub(t:Au):WS:= (Ah uY_ (Ah (Dj uZ_ Q_ (Av u1! bB_ Bn)) (Ah (Dj (Ir nJ!) Q_ (Ah u1_ (Ah u3_ u4_))) u5_)))
def Om(t:Au):WF:=Bw rR! 2 (Ub t)
def Ue(t:Au):WS:= (Ah u6_ (Ah (Dj u7! cx! (Av u8! bB_ Bn)) (Ah (Dj (Ir nK_) cx! (Ah u9_ vb!)) (Az eW!))))
def Jc(t:Au):WF:=Bw rR_ 3 (Ue t)
def Xi(t:Au):WS:= (Ah vc_ (Ah (Ao 1 nO_) (Ah vf_ (Ah vh! (Ah (Ao 4 nP_) (Ah (Ao 5 jr_) (Ah vj_ (Ah vk! (Ah vl! (Ah vm! (Ah vo! (Ah vp! (Ah nR_ (Ah (Ao 9 jr_) (Ah vp_ (Ah vq_ (Ah vr! (Ah vr_ vs_))))))))))))))))))
def Zs(t:Au):WF:=Bw rT! 1 (Xi t)
structure Txt(P:yO!)(w:yC!)(K:yQ!)(mg:z!)(t:Au):Prop where
 C8:Ff K mg "is_whole" Pm p!
 C9:Ff K mg "is_below" Po ga!
 D1:Ff K mg "is_from_one" Ll p!
 D2:Ff K mg "is_name" Qq p!
 D3:Ff K mg "is_sign_name" Ks p!
 D4:Ff K mg "is_item" Qr p!
 D5:Ff K mg "is_sibling" Nd p!
 D6:Ff K mg "is_behind" Oc p!
 D7:Ff K mg "is_sign" Qo dJ_
 D8:Ff K mg "is_text" No p!
 D9:Ff K mg "is_place" Pn p!
 E1:Ff K mg "are_parts" Kk ga_
 E2:Ff K mg "is_deed" Qs p!
 E3:Ff K mg "is_operation" Kt p!
 E4:Ff K mg "time_and_hand" Ju bh!
 E5:Ff K mg "in_order" Pp a1_
 E6:Us K mg "Row" t.B5 "Row.__init__" Sj aV_
 E7:Da K t.B5 "holds" "Row.holds" Oe J!
 E8:Da K t.B5 "put_behind" "Row.put_behind" Jh l5!
 E9:Da K t.B5 "take_out" "Row.take_out" Ku J!
 F7:Da K t.B5 "listed" "Row.listed" Nf aV_
 F8:Us K mg "Outline" t.B4 "Outline.__init__" Ng aV_
 F9:Da K t.B4 "has" "Outline.has" Lo J!
 G6:Da K t.B4 "has_item" "Outline.has_item" Ic J!
 G7:Da K t.B4 "is_within" "Outline.is_within" Hn gb!
 G8:Da K t.B4 "put" "Outline.put" Ln cZ_
 G9:Da K t.B4 "can_move" "Outline.can_move" Ie gb_
 H9:Da K t.B4 "move" "Outline.move" Kv cZ_
 J0:Da K t.B4 "write" "Outline.write" Jw l6!
 J1:Da K t.B4 "cut" "Outline.cut" Lp l6_
 J2:Da K t.B4 "set_number" "Outline.set_number" Gy gc!
 J3:Da K t.B4 "parent_of" "Outline.parent_of" Hm J!
 J4:Da K t.B4 "children_of" "Outline.children_of" Gh J!
 J5:Da K t.B4 "signs_of" "Outline.signs_of" Fi aW!
 J6:Da K t.B4 "text_of" "Outline.text_of" Fs aW!
 J7:Da K t.B4 "numbers_of" "Outline.numbers_of" Gz aW!
 J8:Ff K mg "is_undo_or_redo" Iv bh!
 J9:Ff K mg "last_words" Nc a1_
 K0:Ff K mg "undone" Se a1_
 K4:Ff K mg "play" Vr gc_
 K6:Ff K mg "played" Sf a1_
 K7:Us K mg "Hand" t.B3 "Hand.__init__" Qz gd_
 K8:Da K t.B3 "have" "Hand.have" Of ge!
 K9:Ff K mg "all_taken" Od af!
 L0:Ff K mg "outline_of" Nb af!
 L5:Ff K mg "was_taken" Oa ax!
 L6:Ff K mg "is_next" Qp ax!
 L7:Ff K mg "last_time" Ob b1!
 L8:Ff K mg "not_yet_taken" Jv bI_
 L9:Ff K mg "check_times" Lm ma_
 M7:Ff K mg "check_message" Hc bI_
 M9:Ff K mg "accept" Si ax!
 N0:Ff K mg "accept_waiting" Es af!
 N3:Ff K mg "receive" Qm ax!
 N4:Ff K mg "take" Vq bI_
 N5:Ff K mg "outline_with" Kr [J_,S!]
 N6:Ff K mg "outline_with_item" Hl X_
 N7:Ff K mg "outline_with_number" Gg b1_
 N8:Ff K mg "there" Tp X_
 N9:Ff K mg "parent" Sg X_
 O0:Ff K mg "children" Pq X_
 O3:Ff K mg "text" Vp X_
 O4:Ff K mg "number" Sh b1_
 O5:Ff K mg "undoable" Lj b1!
 O6:Ff K mg "next_time" Kj af!
 O7:Ff K mg "make" Vs mc!
 O8:Ff K mg "put" Wy ge_
 O9:Ff K mg "undo" Sq af!
 P0:Ff K mg "_law_cell" Tt c1_
 P1:Ff K mg "_law_mix" Vt c1_
 P3:Ff K mg "_law_items" Pa aH_
 P4:Ff K mg "_law_signs" Sl aH_
 P5:Ff K mg "_law_text" Qu oe_
 P6:Ff K mg "_law_pick" Tr gf!
 P7:Ff K mg "_law_deed" Qy me_
 P8:Ff K mg "_law_world" Sk mf_
 P9:Ff K mg "_law_ordered" Pr aH_
 Q0:Ff K mg "_law_undone" Qt aH_
 Q3:Ff K mg "_law_hang" Qw c2_
 Q4:Ff K mg "_law_lies" Qv mg_
 Q5:Ff K mg "_law_move" Ts c2_
 Q6:Ff K mg "_law_do" Qx mh_
 Q7:Ff K mg "_law_play" Tq aH_
 Q8:Ff K mg "_law_children" Kl b3_
 Q9:Ff K mg "_law_shown_text" Iw b3_
 R0:Ff K mg "_law_shows" Mi op_
 R4:Ff K mg "_law_alike" Mj mj!
 R6:Ff K mg "law" Qn [bJ!]
 R7:mg "abs"=none
 R8:mg "all"=none
 R9:mg "bool"=none
 S0:mg "enumerate"=none
 S7:mg "int"=none
 S8:mg "isinstance"=none
 S9:mg "len"=none
 T0:mg "list"=none
 T1:mg "max"=none
 T2:mg "ord"=none
 T3:mg "range"=none
 T4:mg "sorted"=none
 T5:mg "str"=none
 T6:mg "tuple"=none
 T7:mg "zip"=none
 T8:∃tk,mg "HANDS"=some (.int 16 tk)
 T9:∃tk,mg "SIGNS"=some (.int 16 tk)
 U0:∃tk,mg "PLACES"=some (.int 4 tk)
 U1:∃tk,mg "LEFT_OUT"=some (.int 37 tk)
 U2:∃tk,mg "MOST_WAITING"=some (.int 8 tk)
 U3:mg "is_item"=some (.ref t.A0)
 U4:mg "is_sibling"=some (.ref t.A5)
 U5:mg "is_behind"=some (.ref t.A6)
 U6:mg "is_text"=some (.ref t.A7)
 U7:mg "is_sign_name"=some (.ref t.A8)
 U8:mg "is_from_one"=some (.ref t.A9)
 U9:mg "is_place"=some (.ref t.B0)
 V0:mg "is_whole"=some (.ref t.B1)
 V2:mg "is_name"=some (.ref t.B2)
 V3:Ut K t.B3
 V4:Ut K t.B4
 V5:Ut K t.B5
 V6:Ee K t.B5 "following"
 V7:Ee K t.B5 "preceding"
 V8:Ee K t.B4 "parents"
 V9:Ee K t.B4 "rows"
 W3:Ee K t.B4 "texts"
 W4:Ee K t.B4 "numbers"
 W5:Ee K t.B4 "written"
 W6:Ee K t.B4 "hidden"
 W7:Ee K t.B3 "ours"
 W8:Ee K t.B3 "taken"
 W9:Ee K t.B3 "waiting"
 X0:Ee K t.B3 "outline"
 X1:∀X:Cx,X.prog=P->X.w=w->X.K=K->X.mg=mg->Ur X "PARTS" gl_
def cV:∀(l:i!) (d v:D),kget fd_ d=some v
 |[],d,v=>by simp[As,kget]
 |(k,x)::r,d,v=>by
  unfold As;by_cases h:k=d
  .rw[IB h];simp[kget,h]
  .rw[HQ h];simp[kget,h,cV r d v]
def cW(h:d≠e):∀(l:i!) (v:D),kget fd_ e=kget l e
 |[],v=>by simp[As,kget,h]
 |(k,x)::r,v=>by
  unfold As;show"!f"
  .rw[aO_];subst hk;simp[kget,h]
  .rw[aF!];simp only[kget];rw[cW h r v]
def yB(h:d≠e):∀(l:i!),kget gV! e=kget l e
 |[]=>rfl
 |(k,x)::r=>by
  unfold Gu;show"!f"
  .rw[aO_];subst hk;simp[kget,h]
  .rw[aF!];simp only[kget];rw[yB h r]
def a4s:∀{l:i!} {d:D},kget l d≠none↔d∈l.map c_
 |[],d=>by simp[kget]
 |(k,x)::r,d=>by
  unfold kget;show"!f"
  .subst hk;simp
  .rw[aF!,a4s];simp[HR hk]
def yA:∀{l:i!} {d:D},(ey_).Nodup->kget gV! d=none
 |[],d,_=>rfl
 |(k,x)::r,d,h=>by
  rw[IA,IJ]at h;unfold Gu;show"!f"
  .rw[aO_];subst hk;cases e:kget r k with
   |none=>rfl
   |some v=>exact absurd (a4s.mp pM_) h.1
  .rw[aF!];unfold kget;rw[aF!];exact yA h.2
def a3x:∀{l:i!} {d v:D} {e:D},e∈(fd_).map c_↔e=d\/e∈l.map c_
 |[],d,v,e=>by simp[As]
 |(k,x)::r,d,v,e=>by
  unfold As;show"!f"
  .rw[aO_];subst hk;simp
  .rw[aF!];simp only[IA,HN];rw[a3x];constructor<;>(rintro(h|h|h)<;>simp[h])
def kU:∀{l:i!} {d v:D},(ey_).Nodup->((fd_).map c_).Nodup
 |[],d,v,_=>by simp[As]
 |(k,x)::r,d,v,h=>by
  rw[IA,IJ]at h;unfold As;show"!f"
  .rw[aO_];simp only[IA,IJ];exact h
  .rw[aF!];simp only[IA,IJ];refine⟨cl_,kU h.2⟩;obtain z|z:=a3x.mp z
   .exact hk z
   .exact h.1 z
def c1p:∀{l:i!} {d e:D},e∈(gV!).map c_->e∈l.map c_
 |[],d,e,h=>by simp[Gu]at h
 |(k,x)::r,d,e,h=>by
  unfold Gu at h;show"!f"
  .rw[aO_]at h;simp only[IA,HN];exact .inr h
  .rw[aF!]at h;simp only[IA,HN]at h ⊢;obtain h|h:=h
   .exact .inl h
   .exact .inr (c1p h)
def c1q:∀{l:i!} {d:D},(ey_).Nodup->((gV!).map c_).Nodup
 |[],d,_=>by simp[Gu]
 |(k,x)::r,d,h=>by
  rw[IA,IJ]at h;unfold Gu;show"!f"
  .rw[aO_];exact h.2
  .rw[aF!];simp only[IA,IJ];exact⟨λz=>h.1 (c1p z),c1q h.2⟩
def xT:∀{l:i!} {d v:D},kget l d≠none->(fd_).length=au_
 |[],d,v,h=>by simp[kget]at h
 |(k,x)::r,d,v,h=>by
  unfold As;show"!f"
  .rw[aO_];rfl
  .rw[aF!];unfold kget at h;rw[aF!]at h;simp[xT h]
def yF:∀{l:i!} {d:D},kget l d≠none->(gV!).length+1=au_
 |[],d,h=>by simp[kget]at h
 |(k,x)::r,d,h=>by
  unfold Gu;show"!f"
  .rw[aO_];rfl
  .rw[aF!];unfold kget at h;rw[aF!]at h;simp[yF h]
def Jz{α:Type}:List α->List (α×α)
 |a::b::r=>aa_::Jz (b::r)
 |_=>[]
def fF{α:Type}:∀(u:P_) (a b:α) (v:P_),Jz (u++a::b::v)=Jz (u++[a])++aa_::Jz (b::v)
 |[],a,b,v=>rfl
 |[x],a,b,v=>rfl
 |x::y::u,a,b,v=>by
  have:=fF (y::u) a b v;simp only[MM]at this ⊢;simp only[Jz,MM];rw[this]
def b3s{α:Type}:∀(a:α) (l:P_),(Jz (a::l)).map c_=(a::l).dropLast
 |a,[]=>rfl
 |a,b::r=>by simp only[Jz,IA,b3s b r,List.dropLast]
def b3r{α:Type}:∀(a:α) (l:P_),(Jz (a::l)).map A_=l
 |a,[]=>rfl
 |a,b::r=>by simp only[Jz,IA,b3r b r]
def Kh(xs:c!):List D:=.non::(xs++[.non])
def a5m(xs:c!):(fe_).map c_=.non::xs:=by unfold Kh;rw[b3s,show(D.non::(xs++[.non]))=(.non::xs)++[.non]from rfl,List.dropLast_concat]
def rQ(xs:c!):(fe_).map A_=xs++[.non]:=b3r _ _
structure Qc(kf kp:i!)(xs:c!):Prop where
 f:∀a b,kget kf a=some b↔aa_∈Jz aQ!
 p:∀a b,kget kp b=some a↔aa_∈Jz aQ!
 nd:xs.Nodup
 no:D.non∉xs
 kf_nd:(kf.map c_).Nodup
 kp_nd:(kp.map c_).Nodup
 fl:kf.length=l_+1
 pl:kp.length=l_+1
def kA{α β:Type}:∀{l:List (α×β)} {a:α} {b c:β},(ey_).Nodup->aa_∈l->(a,c)∈l->b=c
 |[],_,_,_,_,h,_=>by cases h
 |(x,y)::r,a,b,c,nd,Y,L=>by
  rw[IA,IJ]at nd;obtain z|z:=HN.mp Y<;>obtain w|w:=HN.mp L
  .cases z;cases w;rfl
  .cases z;exact absurd vw_ nd.1
  .cases w;exact absurd vx! nd.1
  .exact kA nd.2 z w
def Qc.hasF(h:jv_)(a:D):kget kf a≠none↔a=.non\/a∈xs:=by
 have e:=a5m xs;show"!L"
 .intro z;cases q:kget kf a with
  |none=>exact absurd q z
  |some b=>
   have:=HZ (f:=c_) ((h.f a b).mp q);rw[e]at this;simpa using this
 .intro z;have:a∈(fe_).map c_:=by rw[e];simpa using z
  obtain⟨⟨x,b⟩,hm,rfl⟩:=IH.mp this;rw[(h.f x b).mpr hm];simp
def Qc.hasP(h:jv_)(b:D):kget kp b≠none↔b=.non\/b∈xs:=by
 have e:=rQ xs;show"!L"
 .intro z;cases q:kget kp b with
  |none=>exact absurd q z
  |some a=>
   have:=HZ (f:=A_) ((h.p a b).mp q);rw[e]at this;obtain w|w:=HV.mp this
   .exact .inr w
   .exact .inl (by simpa using w)
 .intro z;have:b∈(fe_).map A_:=by rw[e];obtain rfl|z:=z<;>simp[*]
  obtain⟨⟨a,y⟩,hm,rfl⟩:=IH.mp this;rw[(h.p a y).mpr hm];simp
def b8s:Qc jw! jw! []:=by
 refine⟨ff!,ff!,H!,H!,H!,H!,rfl,rfl⟩<;>
 .simp only[Kh,Jz,kget,KO,HN,JF,KW,KY];show"!L"
  .intro z;split at z
   .rename_i q;cases z;exact⟨by first|exact q.symm|rfl,by first|rfl|exact q.symm⟩
   .cases z
  .rintro⟨rfl,rfl⟩;simp
def Xo(n a:D):List D->List D
 |[]=>[]
 |x::r=>open Classical in if x=a then x::n::r else x::Xo n a r
def Qa(n a:D)(xs:c!):List D:=open Classical in if a∈xs then Xo n a xs else n::xs
def kZ:∀{u v:c!},a∉u->Xo n a (u++a::v)=u++a::n::v
 |[],v,_=>by simp[Xo]
 |x::u,v,h=>by
  rw[HN,OL]at h;simp only[MM,Xo];rw[k7!,kZ h.2]
def Qc.ins(h:jv_)(e:Kh xs=u++a0::b0::v)(e':Kh ja=u++a0::n::b0::v)(hn:n∉xs)(h0:n≠.non):
  Qc (As ff_ n b0) (As fg! b0 n) ja:=by
 have P:=fF u a0 b0 v;have P':Jz (Kh ja)=Jz jx_++(a0,n)::(n,b0)::Jz jy!:=by rw[e',fF];rfl
 rw[<-e]at P;have F:=a5m xs;have S:=rQ xs;have z7:(D.non::xs).Nodup:=IJ.mpr vy!;have xc:(xs++bP!).Nodup:=by
  rw[IY];exact vy_
 have nf:∀a b,aa_∈Jz aQ!->a≠n:=λa b hm z=>by
  have:=HZ (f:=c_) hm;rw[F]at this;obtain w|w:=HN.mp this
  .exact h0 jz!
  .exact hn jz!
 have ns:∀a b,aa_∈Jz aQ!->b≠n:=λa b hm z=>by
  have:=HZ (f:=A_) hm;rw[S]at this;obtain w|w:=HV.mp this
  .exact hn jz!
  .simp at w;exact h0 jz!
 have m0:(a0,b0)∈Jz aQ!:=by rw[P];simp
 have xf:a0≠n:=nf _ _ m0;have qr:b0≠n:=ns _ _ m0;have dF:∀a b,aa_∈Jz jx_\/aa_∈Jz jy!->aa_∈Jz aQ!/\a≠a0/\b≠b0:=λa b hm=>by
  have q:aa_∈Jz aQ!:=by rw[P];obtain z|z:=hm<;>simp[z]
  have gh:=F▸z7;have bf:=S▸xc;rw[P]at gh bf;simp only[IU,IA]at gh bf;rw[IY,IJ]at gh bf;refine⟨q,cl_,cl_⟩
  .obtain w|w:=hm
   .exact gh.2.2 _ vw_ _ d! z
   .exact gh.2.1.1 (z▸HZ (f:=c_) w)
  .obtain w|w:=hm
   .exact bf.2.2 _ (HZ (f:=A_) w) _ d! z
   .have:=HZ (f:=A_) w;rw[show(aa_).2=b0 from z]at this;exact bf.2.1.1 this
 have len:ja.length=l_+1:=by
  show"!O"
 have f9:(ja++bP!).Nodup:=by
  rw[<-rQ ja,P'];have bf:=S▸xc;rw[P]at bf;simp only[IU,IA]at bf ⊢;rw[IY,IJ]at bf;rw[IY,IJ,IJ];refine⟨bf.1,⟨cl_,bf.2.1.1,bf.2.1.2⟩,vz_⟩
  .obtain z|z:=HN.mp z
   .exact qr z.symm
   .obtain⟨⟨c,d⟩,hm,rfl⟩:=IH.mp z;exact ns c d vA! rfl
  .obtain rfl|hb:=HN.mp hb
   .obtain⟨⟨c,d⟩,hm,rfl⟩:=IH.mp ha;exact ns c d vA!
   .exact vA_
 rw[IY]at f9;refine⟨ff!,ff!,f9.1,vB!,kU (kU h.kf_nd),kU (kU h.kp_nd),?_,?_⟩
 .rw[P'];show"!Q";by_cases q1:n=a
  .show"#%"
   .show"!d";simp
   .rintro(z|⟨z,_⟩|⟨_,z⟩|z)
    .exact absurd rfl (nf _ _ (dh!).1)
    .exact absurd z.symm xf
    .rw[z]
    .exact absurd rfl (nf _ _ (dh_).1)
  .rw[cW q1];by_cases q2:a0=a
   .subst q2;rw[cV];show"!L"
    .show"!d";simp
    .rintro(z|⟨_,z⟩|⟨z,_⟩|z)
     .exact absurd rfl (dh!).2.1
     .rw[z]
     .exact ca!
     .exact absurd rfl (dh_).2.1
   .rw[cW q2,h.f,P];show"!Q";show"!L"
    .show"#B"
     .exact cC!
     .exact gX!
     .exact jA_
    .rintro(z|⟨z,_⟩|⟨z,_⟩|z)
     .exact cC!
     .exact gX!
     .exact ca!
     .exact jB!
 .rw[P'];show"!Q";by_cases q1:b0=b
  .show"#%"
   .show"!d";simp
   .rintro(z|⟨_,z⟩|⟨z,_⟩|z)
    .exact absurd rfl (dh!).2.2
    .exact absurd z qr
    .rw[z]
    .exact absurd rfl (dh_).2.2
  .rw[cW q1];by_cases q2:n=b
   .subst q2;rw[cV];show"!L"
    .show"!d";simp
    .rintro(z|⟨z,_⟩|⟨_,z⟩|z)
     .exact absurd rfl (ns _ _ (dh!).1)
     .rw[z]
     .exact absurd z.symm qr
     .exact absurd rfl (ns _ _ (dh_).1)
   .rw[cW q2,h.p,P];show"!Q";show"!L"
    .show"#C"
     .exact cC!
     .exact ca!
     .exact jA_
    .rintro(z|⟨_,z⟩|⟨_,z⟩|z)
     .exact cC!
     .exact gX!
     .exact ca!
     .exact jB!
 .have f0:kget kf a0≠none:=by rw[(nY_).mpr m0];simp
  have f1:n∉(ff_).map c_:=λz=>by
   obtain z|z:=a3x.mp z
   .exact xf z.symm
   .obtain w|w:=(h.hasF n).mp (a4s.mpr z)
    .exact h0 w
    .exact hn w
  rw[iW f1,IG,xT f0,h.fl,len];rfl
 .have f1:n∉kp.map c_:=λz=>by
   obtain w|w:=(h.hasP n).mp (a4s.mpr z)
   .exact h0 w
   .exact hn w
  have f0:kget fg! b0≠none:=by rw[cW (HR qr),(nZ!).mpr m0];simp
  rw[xT f0,iW f1,IG,h.pl,len];rfl
def Qc.out(h:jv_)(e:Kh xs=u++a0::n::b0::v)(e':Kh ja=u++a0::b0::v)(h0:n≠.non):
  Qc zt_ vD_ ja:=by
 have P':=fF u a0 b0 v;have P:Jz aQ!=Jz jx_++(a0,n)::(n,b0)::Jz jy!:=by rw[e,fF];rfl
 rw[<-e']at P';have F:=a5m xs;have S:=rQ xs;have z7:((fe_).map c_).Nodup:=by rw[F];exact IJ.mpr vy!
 have xc:((fe_).map A_).Nodup:=by
  rw[S,IY];exact vy_
 have gh:=z7;have bf:=xc;rw[P]at gh bf;simp only[IU,IA]at gh bf;rw[IY,IJ,IJ]at gh bf;have xf:a0≠n:=λz=>gh.2.1.1 f9!;have qr:b0≠n:=λz=>bf.2.1.1 f9!;have m1:(a0,n)∈Jz aQ!:=by rw[P];simp
 have m2:(n,b0)∈Jz aQ!:=by rw[P];simp
 have len:l_=ja.length+1:=by
  show"!O"
 have dF:∀a b,aa_∈Jz jx_\/aa_∈Jz jy!->aa_∈Jz aQ!/\(a≠a0/\a≠n)/\(b≠b0/\b≠n):=λa b hm=>by
  have q:aa_∈Jz aQ!:=by rw[P];obtain z|z:=hm<;>simp[z]
  have g1:a≠a0/\a≠n:=by
   obtain w|w:=hm
   .have:=HZ (f:=c_) w;exact⟨vF!,vF!⟩
   .have:=HZ (f:=c_) w;exact⟨λz=>gh.2.1.1 (HL _ jD!),λz=>gh.2.1.2.1 jD!⟩
  have g2:b≠b0/\b≠n:=by
   obtain w|w:=hm
   .have:=HZ (f:=A_) w;exact⟨vF_,vF_⟩
   .have:=HZ (f:=A_) w;exact⟨λz=>bf.2.1.2.1 jD!,λz=>bf.2.1.1 (HL _ jD!)⟩
  exact⟨q,g1,g2⟩
 have f9:(ja++bP!).Nodup:=by
  rw[<-rQ ja,P'];simp only[IU,IA];rw[IY,IJ];exact⟨bf.1,bf.2.1.2,λa ha b hb=>bf.2.2 a ha b (HL _ hb)⟩
 rw[IY]at f9;have hf0:kget kf a0≠none:=by rw[(nY_).mpr m1];simp
 have ff:kget kp b0≠none:=by rw[(nZ!).mpr m2];simp
 refine⟨ff!,ff!,f9.1,vB!,kU (c1q h.kf_nd),kU (c1q h.kp_nd),?_,?_⟩
 .rw[P'];show"!Q";by_cases q1:a0=a
  .show"#%"
   .show"!d";simp
   .show"#C"
    .exact absurd rfl (dh!).2.1.1
    .rw[z]
    .exact absurd rfl (dh_).2.1.1
  .rw[cW q1];by_cases q2:n=a
   .subst q2;rw[yA h.kf_nd];show"!L"
    .show"!d"
    .show"#B"
     .exact absurd rfl (dh!).2.1.2
     .exact ca!
     .exact absurd rfl (dh_).2.1.2
   .rw[yB q2,h.f,P];show"!Q";show"!L"
    .rintro(z|⟨z,_⟩|⟨z,_⟩|z)
     .exact cC!
     .exact ca!
     .exact gX!
     .exact jB!
    .show"#B"
     .exact cC!
     .exact ca!
     .exact jA_
 .rw[P'];show"!Q";by_cases q1:b0=b
  .show"#%"
   .show"!d";simp
   .show"#B"
    .exact absurd rfl (dh!).2.2.1
    .rw[z]
    .exact absurd rfl (dh_).2.2.1
  .rw[cW q1];by_cases q2:n=b
   .subst q2;rw[yA h.kp_nd];show"!L"
    .show"!d"
    .show"#C"
     .exact absurd rfl (dh!).2.2.2
     .exact ca!
     .exact absurd rfl (dh_).2.2.2
   .rw[yB q2,h.p,P];show"!Q";show"!L"
    .rintro(z|⟨_,z⟩|⟨_,z⟩|z)
     .exact cC!
     .exact gX!
     .exact ca!
     .exact jB!
    .show"#C"
     .exact cC!
     .exact ca!
     .exact jA_
 .have:=yF (l:=kf) (d:=n) (by rw[(nY_).mpr m2];simp);rw[xT (by rw[yB (HR xf)];exact hf0)];have:=h.fl;omega
 .have:=yF (l:=kp) (d:=n) (by rw[(nZ!).mpr m1];simp);rw[xT (by rw[yB (HR qr)];exact ff)];have:=h.pl;omega
def d3n:(Str.ofString "following"==Str.ofString "preceding")=false:=by decide+kernel
def d2l:(Str.ofString "preceding"==Str.ofString "following")=false:=by decide+kernel
def a1e:(Str.ofString "following"==Str.ofString "following")=true:=by decide+kernel
def lkP:List.lookup (Str.ofString "preceding") [(Str.ofString "following",a),(Str.ofString "preceding",b)]=some b:=by simp[JR,d2l]
structure Ej(t:Au)(M:Mh)(r f p:xT!)(xs:c!):Prop where
 ob:M r=some (.obj t.B5 [("following",.fn f),("preceding",.fn p)])
 dc:∃kf ef kp ep,M f=some (.dct kf ef)/\M p=some (.dct kp ep)/\Qc kf kp xs
 ne:f≠p
def a1a:Cn d=true↔d=.non:=by cases d<;>simp[Cn]
def jZ(hd:d≠.non):Cn d=false:=by cases q:Cn d with|false=>rfl|true=>exact absurd (a1a.mp q) hd
def a8p{t:Au}{M:Mh}{R:s_}(h:d9_)(hk:bs!)(hR:R (.bl (open Classical in decide (d∈xs))) M):Hv t [.fn r,d] M R:=by
 obtain⟨kf,ef,kp,ep,hf,hp,K⟩:=h.dc;refine j_;by_cases hd:d=.non
 .subst hd;have:(D.non∈xs)=False:=by simp[K.no]
  simp only[this,QJ]at hR;simpa[Lv,Az,Jt,wT,wl,f2,Aa,fC,Ar,Cn]using hR
 .have e3:(kget kf d).isSome=(open Classical in decide (d∈xs)):=by
   have:=K.hasF d;cases q:kget kf d with
   |none=>rw[q]at this;simp[hd]at this;simp[this]
   |some v=>rw[q]at this;simp[hd]at this;simp[this]
  rw[<-e3]at hR;simpa[Lv,Az,Jt,wT,wl,f2,Aa,fC,Ar,jZ hd,w2,Ay,Gv,h.ob,Ef,Ih,hf,hk,a1e]using hR
def nM{α:Type}{a:α}:∀{l:P_},a∈l->∃u v,l=u++a::v/\a∉u
 |x::r,h=>open Classical in by
  by_cases e:a=x
  .exact⟨[],r,by rw[e];rfl,H!⟩
  .obtain⟨u,v,rfl,hu⟩:=nM ((HN.mp h).resolve_left e);exact⟨x::u,v,rfl,by simp[e,hu]⟩
def b9d(h0:D.non∉xs):∃u b0 v,Kh xs=u++(open Classical in if o∈xs then o else .non)::b0::v/\Kh (Qa n o xs)=u++(open Classical in if o∈xs then o else .non)::n::b0::v:=by
 by_cases h:o∈xs
 .obtain⟨u,v,rfl,hu⟩:=nM h;obtain⟨b0,v',e⟩:∃b0 v',v++[D.non]=b0::v':=by cases v with|nil=>exact bF!|cons a r=>exact bF!
  refine⟨.non::u,b0,v',?_,?_⟩
  .rw[IB h];simp[Kh,e]
  .unfold Qa;rw[IB h,IB h,kZ hu];simp[Kh,e]
 .obtain⟨b0,v',e⟩:∃b0 v',xs++[D.non]=b0::v':=by cases xs with|nil=>exact bF!|cons a r=>exact bF!
  refine⟨[],b0,v',?_,?_⟩
  .rw[HQ h];simp[Kh,e]
  .unfold Qa;rw[HQ h,HQ h];simp[Kh,e]
def jK{t:Au}{M:Mh}{xs:c!}{R:s_}(h:d9_)(hn:Db n=some kn)(ho:Db o=some ko)(n0:n≠.non)(nx:n∉xs)(hl:l_<5000)(gi:n3_)
  (hR:∀M',Ej t M' r f p (Qa n o xs)->vK!->R .non M'):Cv t [.fn r,n,o] M R:=by
 obtain⟨kf,ef,kp,ep,hf,hp,K⟩:=h.dc;have ow:r≠f:=λz=>by have:=h.ob;rw[z,hf]at this;cases this
 have jy:r≠p:=λz=>by have:=h.ob;rw[z,hp]at this;cases this
 obtain⟨u,b0,v,c1,c2⟩:=b9d (n:=n) (o:=o) K.no;generalize ea:(open Classical in if o∈xs then o else D.non)=a0 at c1 c2;have m0:(a0,b0)∈Jz aQ!:=by rw[c1,fF];simp
 have kz:kget kf a0=some b0:=(gZ_).mpr m0;have K':=K.ins c1 c2 nx n0;have ka:∃k,Db a0=some k:=by
  have:=(K.hasF a0).mp vM_;obtain rfl|z:=this
  .exact L!
  .exact gi _ z
 have kb:∃k,Db b0=some k:=by
  have:=(K.hasP b0).mp (by rw[(n4_).mpr m0];simp);obtain rfl|z:=this
  .exact L!
  .exact gi _ z
 obtain⟨ka,z8⟩:=ka;obtain⟨kb,z9⟩:=kb;have l1:kf.length<big:=by have:=K.fl;unfold big;omega
 have l2:kp.length<big:=by have:=K.pl;unfold big;omega
 have l3:(ff_).length<big:=LD ea! (by have:=K.fl;unfold big;omega);have l4:(fg!).length<big:=LD ea! (by have:=K.pl;unfold big;omega);refine j_;simp only[Jy,Ah,Ao,Yf,wT,Bb,wl,Ab,Af,Aa];simp[Dg,h.ob,d3n,a1e];refine⟨⟨f9_,f9_⟩,?_⟩;refine a8p h ho ?_;have key:∀(b:Bool),b=(open Classical in decide (o∈xs))->((b=true/\o=a0)\/(b=false/\D.non=a0)):=λb hb=>by
  subst hb;rw[<-ea];by_cases z:o∈xs<;>simp[z]
 generalize hb:(open Classical in decide (o∈xs))=b;have fin:R .non (Be (Be (Be (Be M f (.dct ff_ (Gs kf a0 ef))) p (.dct fg! (Gs kp n ep))) f (.dct (As ff_ n b0) (Gs ff_ n (Gs kf a0 ef)))) p (.dct (As fg! b0 n) (Gs fg! b0 (Gs kp n ep)))):=by
  refine hR _ vO_ λb ut uv=>?_
  .rw[jF!,jF_,jF!,jF_];exact h.ob
  .rw[jG!,jG_,jG!,jG_]
 obtain⟨rfl,rfl⟩|⟨rfl,rfl⟩:=key b hb.symm<;>
 simpa[Ah,Ao,w2,wl,Ay,Cf,Ef,Gv,Aa,fC,f2,h.ob,a1e,lkP,Bt,hf,hp,z8,z9,hn,kz,Lf,l1,l2,l3,l4,mup_ne,mup_same,ow,jy,h.ne,HR h.ne]using fin
def a6b{t:Au}{M:Mh}{xs:c!}{R:s_}(h:d9_)(J:xs=u++n::v)(hn:Db n=some kn)(hl:l_<5000)(gi:n3_)
  (hR:∀M',Ej t M' r f p bn_->vK!->R .non M'):Jb t [.fn r,n] M R:=by
 obtain⟨kf,ef,kp,ep,hf,hp,K⟩:=h.dc;have ow:r≠f:=λz=>by have:=h.ob;rw[z,hf]at this;cases this
 have jy:r≠p:=λz=>by have:=h.ob;rw[z,hp]at this;cases this
 have n0:n≠.non:=λz=>K.no (by rw[J,<-z];simp);obtain⟨b0,v',ev⟩:∃b0 v',v++[D.non]=b0::v':=by cases v with|nil=>exact bF!|cons a r=>exact bF!
 obtain⟨u',a0,eu⟩:∃u' a0,D.non::u=u'++[a0]:=⟨(jH!).dropLast,(jH!).getLast d!,(List.dropLast_concat_getLast d!).symm⟩;have c1:Kh xs=u'++a0::n::b0::v':=by
  rw[J];show D.non::vP_=_;rw[show D.non::vP_=jH!++n::(v++bP!)by simp,eu,ev];simp
 have c2:Kh bn_=u'++a0::b0::v':=by
  show D.non::(u++v++bP!)=_;rw[show D.non::(u++v++bP!)=jH!++(v++bP!)by simp,eu,ev];simp
 have m1:(a0,n)∈Jz aQ!:=by rw[c1,fF];simp
 have m2:(n,b0)∈Jz aQ!:=by rw[c1,show u'++a0::n::b0::v'=(u'++[a0])++n::b0::v' by simp,fF];simp
 have F':kget kp n=some a0:=(n4_).mpr m1;have kz:kget kf n=some b0:=(gZ_).mpr m2;have K':=K.out c1 c2 n0;have ka:∃k,Db a0=some k:=by
  have:=(K.hasF a0).mp (by rw[(gZ_).mpr m1];simp);obtain rfl|z:=this
  .exact L!
  .exact gi _ z
 have kb:∃k,Db b0=some k:=by
  have:=(K.hasP b0).mp (by rw[(n4_).mpr m2];simp);obtain rfl|z:=this
  .exact L!
  .exact gi _ z
 obtain⟨ka,z8⟩:=ka;obtain⟨kb,z9⟩:=kb;have l1:(jB_).length<big:=by have:=yF (l:=kf) (d:=n) vM_;have:=K.fl;unfold big;omega
 have l2:(jC_).length<big:=by have:=yF (l:=kp) (d:=n) (by rw[F'];simp);have:=K.pl;unfold big;omega
 refine j_;have fin:R .non (Be (Be (Be (Be M p (.dct jC_ bG_)) f (.dct jB_ (ef+1))) f (.dct zt_ (Gs jB_ a0 (ef+1)))) p (.dct vD_ (Gs jC_ b0 bG_))):=by
  refine hR _ vO_ λb ut uv=>?_
  .rw[jF!,jF_,jF_,jF!];exact h.ob
  .rw[jG!,jG_,jG_,jG!]
 simpa[Lu,Ah,Ao,w2,wl,Ay,Cf,Yd,Ed,Ef,Gv,Aa,fC,f2,h.ob,a1e,lkP,hf,hp,z8,z9,hn,kz,F',Lf,l1,l2,mup_ne,mup_same,ow,jy,h.ne,HR h.ne]using fin
def a0t{t:Au}{M:Mh}{xs:c!}{R:s_}(h:d9_)(hl:l_<5000)(gi:n3_)(hR:R T! M):Im t [.fn r] M R:=by
 obtain⟨kf,ef,kp,ep,hf,hp,K⟩:=h.dc;have step:∀(done rest:c!) (ox:D) (tl:c!),xs=done++rest->rest++bP!=ox::tl->∀R',R' (.nx [some bb!,some T!,some .non]) M->
   Df sg! sh! (rest.length+1) [some bb!,some (.lst done),some ox] M R':=by
  intro done rest
  induction rest generalizing done with
  |nil=>
   intro ox tl e1 e2 R' ig;simp at e1 e2;obtain⟨rfl,_⟩:=e2;subst e1;simpa[Df,Dd,fT,f2,Aa,fC,Ar,Cn]using ig
  |cons y rest ih=>
   intro ox tl e1 e2 R' ig;obtain⟨rfl,rfl⟩:=e2;have hy:y∈xs:=by rw[e1];simp
   have y0:y≠.non:=λz=>K.no (z▸hy);obtain⟨k,ek⟩:=gi y hy;obtain⟨nx,tl,ev⟩:∃b0 v',rest++[D.non]=b0::v':=by cases rest with|nil=>exact bF!|cons a r=>exact bF!
   have kz:kget kf y=some nx:=(gZ_).mpr (by
    rw[e1,Kh,show D.non::(done++y::rest++bP!)=(D.non::done)++y::(rest++bP!)by simp,ev,fF];simp)
   have hb:done.length<big:=by have:=congrArg List.length e1;simp at this;unfold big;omega
   have:=ih (done++[y]) nx tl (by simp[e1]) ev R' ig;rw[IE,Df];simpa[Dd,fT,f2,Aa,fC,Ar,jZ y0,Ah,Ws,Ef,Px,hb,Ao,w2,wl,Ay,Gv,h.ob,a1e,Bt,hf,ek,kz]using this
 obtain⟨ox,tl,ev⟩:∃b0 v',xs++[D.non]=b0::v':=by cases xs with|nil=>exact bF!|cons a r=>exact bF!
 have kz:kget kf .non=some ox:=(gZ_).mpr (by rw[Kh,ev];simp[Jz]);refine j_;simp only[Oh,Ah,Ws];simp[Ef,Mt,Ag,Ao,w2,wl,Ay,Gv,Aa,fC,h.ob,a1e,Bt,hf,kz,Db,Jl];refine⟨l_+1,step [] xs ox tl rfl ev _ ?_⟩;simpa[Az,wl,Aa]using hR
abbrev root:D:=.str "root"
abbrev binn:D:=.str "bin"
def b3m:root≠binn:=by intro z;simp only[D.str.injEq]at z;exact absurd z k!
def Ik(x:D):Prop:=∃a b,x=.tup vS!
def Qb(x:D):Prop:=∃a b c,x=.tup vS_
def Ik.key(h:Ik x):∃k,Db x=some k:=by obtain⟨a,b,rfl⟩:=h;exact L!
def Qb.key(h:Qb x):∃k,Db x=some k:=by obtain⟨a,b,c,rfl⟩:=h;exact L!
def Ik.nn(h:Ik x):x≠.non/\x≠root/\x≠binn:=by obtain⟨a,b,rfl⟩:=h;refine⟨?_,?_,?_⟩<;>(intro z;cases z)
def Qb.nn(h:Qb x):x≠.non:=by obtain⟨a,b,c,rfl⟩:=h;intro z;cases z
structure OW where
 rows:List aD!
 its:List D
 txt:D->List eb!
 num:D->List D
open Classical in
nonrec def chl(rows:i!)(x:D):List D:=(rows.filter λq=>q.2=x).map c_
open Classical in
nonrec def wo(rows:i!)(i:D):List aD!:=rows.filter λq=>q.1≠i
inductive Wn(rows:i!)(i:D):D->Prop
 |here:Wn rows i i
 |up {x p:D}:bb_∈rows->Wn rows i p->Wn rows i x
def Qe(rows:i!)(i p s:D)(rows':i!):Prop:=∃u v,wo rows i=u++v/\rows'=u++bQ_::v/\((s∉chl dk! p/\chl u p=[])\/∃u',u=u'++[dk_])
def Ew(W:OW)(x:D):Prop:=x∈W.its\/x=root\/x=binn
structure Bs(W:OW):Prop where
 nd:n8!
 nm:∀x∈W.its,Ik x
 rnd:(W.rows.map c_).Nodup
 ri:∀x,x∈W.rows.map c_↔x∈W.its
 rp:∀i p,bQ_∈W.rows->Ew W p
 rk:∃rk:D->Nat,∀i p,bQ_∈W.rows->rk p<rk i
 snd:∀x∈W.its,(n8_).Nodup
 sg:∀x∈W.its,∀q∈W.txt x,Qb q.1
 su:∀x∈W.its,∀y∈W.its,∀q∈W.txt x,∀q'∈W.txt y,q.1=q'.1->x=y
 nl:∀x∈W.its,(bR!).length=4
section
open Classical
def kP{q:D×D}:q∈wo rows i↔q∈rows/\q.1≠i:=by unfold wo;rw[KP];simp
def eV:c∈chl rows x↔(c,x)∈rows:=by
 unfold chl;rw[IH];show"!L"
 .rintro⟨⟨a,b⟩,h,rfl⟩;rw[KP]at h;have:=h.2;simp at this;rw[<-this];exact h.1
 .intro h;exact⟨(c,x),KP.mpr ⟨h,H!⟩,rfl⟩
def eI:chl bn_ x=chl u x++chl v x:=by unfold chl;rw[PF,IU]
def jS:chl (bQ_::v) p=i::chl v p:=by unfold chl;rw[JX d!];rfl
def vC(h:p≠x):chl (bQ_::v) x=chl v x:=by unfold chl;rw[JP kh_]
def b5f{rows:i!}:(chl rows x).Sublist kF!:=by unfold chl;exact(OT).map _
def kC{rows:i!}:((dk!).map c_).Sublist kF!:=by unfold wo;exact(OT).map _
def Qe.chl_same{rows:i!}(h:g1!)(nd:fC_):chl rows' p=Qa i s (chl dk! p):=by
 obtain⟨u,v,e,rfl,hc⟩:=h;rw[eI,jS];have bf:((bn_).map c_).Nodup:=by rw[<-e];exact nd.sublist kC
 obtain⟨Y,L⟩|⟨u',rfl⟩:=hc
 .unfold Qa;rw[HQ Y,e,eI,L];rfl
 .rw[e];have hs:s∈chl vT! p:=eV.mpr d!;unfold Qa;have L:chl (u'++[dk_]) p=chl u' p++[s]:=by rw[eI,jS];rfl
  have h3:chl vT! p=chl u' p++s::chl v p:=by rw[eI,L];simp
  rw[IB hs,L,h3];have hu:s∉chl u' p:=λz=>by
   have:=eV.mp z;simp only[IU,IA,MY,KA]at bf;rw[IY]at bf;exact bf.2.2 _ vT_ s d! rfl
  rw[kZ hu];simp
def Qe.chl_ne(h:g1!)(J:p≠x):chl rows' x=chl dk! x:=by obtain⟨u,v,e,rfl,hc⟩:=h;rw[eI,vC J,e,eI]
def Qe.mem(h:g1!){q:D×D}:q∈rows'↔q=bQ_\/q∈wo rows i:=by
 obtain⟨u,v,e,rfl,hc⟩:=h;rw[e];simp only[HV,HN];show"!L"
 .rintro(z|z|z)<;>simp[z]
 .rintro(z|z|z)<;>simp[z]
def Qe.nd{rows rows':i!}(h:g1!)(nd:fC_):(rows'.map c_).Nodup:=by
 obtain⟨u,v,e,rfl,hc⟩:=h;have bf:((bn_).map c_).Nodup:=by rw[<-e];exact nd.sublist kC
 have ni:i∉(bn_).map c_:=λz=>by
  obtain⟨q,hq,hi⟩:=IH.mp z;rw[<-e]at hq;exact(n9!).2 hi
 simp only[IU,IA]at bf ni ⊢;rw[IY]at bf ⊢;rw[HV,OL]at ni;refine⟨bf.1,IJ.mpr ⟨ni.2,bf.2.1⟩,vz_⟩;obtain rfl|hb:=HN.mp hb
 .exact λz=>ni.1 jy_
 .exact vA_
def a1n(h:(i,x)∉rows):chl dk! x=chl rows x:=by unfold chl wo;rw[OB];congr 1;apply KS;intro q hq;simp only[ne_eq,decide_not,Bool.and_eq_left_iff_imp,JA,OJ,LH,NX];rintro rfl z;exact h vU!
def b2g{rows:i!}(nd:fC_)(h:(i,x)∈rows):∃u v,chl rows x=u++i::v/\chl dk! x=u++v:=by
 obtain⟨a,b,e,_⟩:=nM h;have n1:i∉(a++b).map c_:=by
  rw[e]at nd;simp only[IU,IA]at nd ⊢;rw[IY,IJ]at nd;rw[HV,OL];exact⟨λz=>nd.2.2 _ z i d! rfl,nd.2.1.1⟩
 have e2:wo rows i=a++b:=by
  unfold wo;rw[e,PF,JP d!];have keep:∀l:List aD!,i∉l.map c_->l.filter (λq=>decide (q.1≠i))=l:=λl hl=>KC.mpr λq hq=>by
   show"!u";exact λz=>hl jJ!
  rw[IU,HV,OL]at n1;rw[keep a n1.1,keep b n1.2]
 refine⟨chl a x,chl b x,?_,?_⟩
 .rw[e,eI,jS]
 .rw[e2,eI]
def a9w{rows:i!}(nd:fC_)(h:bb_∈rows)(J:x≠i):Wn rows i x↔Wn rows i p:=by
 show"!L"
 .intro z;cases z with
  |here=>exact absurd rfl J
  |up L z=>rw[kA nd h L];exact z
 .exact λz=>.up h z
def b7w(h:∀p,bb_∉rows)(J:x≠i):¬Wn rows i x:=λz=>by
 cases z with
 |here=>exact J rfl
 |up L _=>exact h _ L
def Qe.winv{W:OW}(h:Qe W.rows i p s rows')(w:Bs W)(hi:g1_)(hp:Ew W p)(hw:¬Wn W.rows i p):Bs {W with rows:=rows'}:=by
 refine⟨w.nd,w.nm,h.nd w.rnd,jJ_,jK!,?_,w.snd,w.sg,w.su,w.nl⟩
 .show x∈rows'.map c_↔x∈W.its;rw[<-w.ri x];show"!L"
  .intro z;obtain⟨q,hq,rfl⟩:=IH.mp z;obtain rfl|hq:=h.mem.mp hq
   .exact(w.ri i).mpr hi
   .exact HZ (n9!).1
  .intro z;by_cases J:x=i
   .subst J;exact IH.mpr vW!
   .obtain⟨q,hq,rfl⟩:=IH.mp z;exact HZ (h.mem.mpr (.inr (kP.mpr ⟨hq,J⟩)))
 .show Ew W b;obtain z|z:=h.mem.mp hm
  .cases z;exact hp
  .exact w.rp _ _ (kP.mp z).1
 .obtain⟨rk,ii⟩:=w.rk;refine⟨λx=>if Wn W.rows i x then rk x+rk p+1 else rk x,jK!⟩;obtain z|z:=h.mem.mp hm
  .cases z;show"#?";rw[HQ hw,IB .here];omega
  .obtain⟨z1,z2⟩:=kP.mp z;have:=ii _ _ z1;have q:=a9w w.rnd z1 z2;show"#?";by_cases c:Wn W.rows i a
   .rw[IB c,IB (q.mp c)];omega
   .rw[HQ c,HQ (λz=>c (q.mpr z))];exact this
def Fn(W:OW)(n:D)(rows':i!):OW:=⟨rows',W.its++[n],λx=>if x=n then[]else W.txt x,λx=>if x=n then[.int 0,.int 0,.int 0,.int 0]else W.num x⟩
def Qe.winv_put{W:OW}(h:Qe W.rows n p s rows')(w:Bs W)(hn:oc!)(ht:Ik n)(hp:Ew W p):Bs bc!:=by
 have nn:n∉W.rows.map c_:=λz=>hn ((w.ri n).mp z);have jz:wo W.rows n=W.rows:=by
  refine KC.mpr λq hq=>?_;show"!u";exact λz=>nn jJ!
 have pn:p≠n:=λz=>by
  obtain q|q|q:=hp
  .exact hn (z▸q)
  .exact ht.nn.2.1 (z▸q)
  .exact ht.nn.2.2 (z▸q)
 have im:∀x,x∈(bc!).its↔x∈W.its\/x=n:=λx=>by simp[Fn]
 refine⟨?_,aG!,h.nd w.rnd,jJ_,jK!,?_,aG!,aG!,jK_,aG!⟩
 .show(W.its++[n]).Nodup;rw[IY];exact⟨w.nd,H!,λa ha b hb=>by simp at hb;subst hb;exact λz=>hn jy_⟩
 .obtain z|rfl:=(cC_).mp J
  .exact w.nm x z
  .exact ht
 .rw[im,<-w.ri x];show"!L"
  .intro z;obtain⟨q,hq,rfl⟩:=IH.mp z;obtain rfl|hq:=h.mem.mp hq
   .exact .inr rfl
   .rw[jz]at hq;exact .inl (HZ hq)
  .rintro(z|rfl)
   .obtain⟨q,hq,rfl⟩:=IH.mp z;exact HZ (h.mem.mpr (.inr (by rw[jz];exact hq)))
   .exact IH.mpr vW!
 .have up:∀y,Ew W y->Ew bc! y:=λy hy=>by
   obtain q|q:=hy
   .exact .inl ((im y).mpr (.inl q))
   .exact .inr q
  obtain z|z:=h.mem.mp hm
  .cases z;exact up _ hp
  .rw[jz]at z;exact up _ (w.rp _ _ z)
 .obtain⟨rk,ii⟩:=w.rk;refine⟨λx=>if x=n then rk p+1 else rk x,jK!⟩;obtain z|z:=h.mem.mp hm
  .cases z;show"#?";rw[HQ pn,n_];omega
  .rw[jz]at z;have ha:a≠n:=λq=>nn (q▸HZ (f:=c_) z);have hb:b≠n:=λq=>by
    obtain y|y|y:=w.rp _ _ z
    .exact hn (q▸y)
    .exact ht.nn.2.1 (q▸y)
    .exact ht.nn.2.2 (q▸y)
   show"#?";rw[HQ ha,HQ hb];exact ii _ _ z
 .show((oc_).map c_).Nodup;split
  .simp
  .rename_i q;exact w.snd x od!
 .show∀q∈oc_,Qb q.1;split
  .intro q hq;cases hq
  .rename_i q;exact w.sg x od!
 .show∀q∈oc_,∀q'∈(if y=n then[]else W.txt y),q.1=q'.1->x=y;split
  .intro q hq;cases hq
  .rename_i q1;split
   .intro q hq q' a8;cases a8
   .rename_i q2;exact w.su x ((od_).resolve_right q1) y (((im y).mp hy).resolve_right q2)
 .show(v2!).length=4;split
  .rfl
  .rename_i q;exact w.nl x od!
def Xn(b:D)(nw:ag_):List eb!->List eb!
 |[]=>[]
 |x::r=>if x.1=b then x::(nw++r)else x::Xn b nw r
nonrec def wrT(b:D)(nw l:ag_):List eb!:=if b∈l.map c_ then Xn b nw l else nw++l
def yI{u:ag_}{q:fj_}(hq:q.1=b):b∉u.map c_->Xn b nw (u++q::v)=u++q::(nw++v):=by
 induction u with
 |nil=>intro _;simp[Xn,hq]
 |cons x u ih=>
  intro h;rw[IA,HN,OL]at h;simp only[MM,Xn];rw[k7!,ih h.2]
def rY(b:D)(nw l:ag_):∃u v,l=u++v/\wrT b nw l=u++nw++v/\((u=[]/\b∉l.map c_)\/∃u' q,u=u'++[q]/\q.1=b/\b∉u'.map c_):=by
 by_cases h:b∈l.map c_
 .obtain⟨u,v,e,hu⟩:=nM h;obtain⟨u',r,e1,e2,e3⟩:=List.map_eq_append_iff.mp e;obtain⟨q,v',e4,e5,e6⟩:=List.map_eq_cons_iff.mp e3;subst e4;refine⟨u'++[q],v',by simp[e1],?_,.inr ⟨u',q,rfl,e5,by rw[e2];exact hu⟩⟩;unfold wrT;rw[IB h,e1,yI e5 (by rw[e2];exact hu)];simp
 .exact⟨[],l,rfl,by unfold wrT;rw[HQ h];rfl,.inl cc!⟩
nonrec def setT(W:OW)(a:D)(l:ag_):OW:={W with txt:=λx=>if x=a then l else W.txt x}
def sB{W:OW}{l:ag_}(w:Bs W)(ha:ec!)(Y:(ey_).Nodup)(L:∀q∈l,Qb q.1)(h3:∀q∈l,∀y∈W.its,∀q'∈W.txt y,q.1=q'.1->y=a):Bs of!:=by
 refine⟨w.nd,w.nm,w.rnd,w.ri,w.rp,w.rk,aG!,aG!,jK_,w.nl⟩
 .show((of_).map c_).Nodup;split
  .exact Y
  .exact w.snd x J
 .show∀q∈of_,Qb q.1;split
  .exact L
  .exact w.sg x J
 .show∀q∈of_,∀q'∈(if y=a then l else W.txt y),q.1=q'.1->x=y;split
  .rename_i e1;subst e1;split
   .rename_i e2;intro _ _ _ _ _;exact e2.symm
   .intro q hq q' a8 e;exact(h3 q hq y hy q' a8 e).symm
  .split
   .rename_i e2;subst e2;intro q hq q' a8 e;exact h3 q' a8 x J q hq e.symm
   .exact w.su x J y hy
def Ss(W:OW)(a:D)(l:c!):OW:={W with num:=λx=>if x=a then l else W.num x}
def b5w{l:c!}(w:Bs W)(hl:au_=4):Bs (Ss W a l):=by
 refine⟨w.nd,w.nm,w.rnd,w.ri,w.rp,w.rk,w.snd,w.sg,w.su,aG!⟩;show(if x=a then l else W.num x).length=4;split
 .exact hl
 .exact w.nl x J
end
nonrec def oF(a1 a2 a3 a4 a5 a6:xT!):List ci_:=[("parents",.fn a1),("rows",.fn a2),("texts",.fn a3),("numbers",.fn a4),("written",.fn a5),("hidden",.fn a6)]
section
variable{a1 a2 a3 a4 a5 a6:xT!}
def oF1:List.lookup ec_ Z!=some (D.fn a1):=by kernel_rfl
def oF2:List.lookup dl! Z!=some (D.fn a2):=by kernel_rfl
def oF3:List.lookup ed! Z!=some (D.fn a3):=by kernel_rfl
def oF4:List.lookup fk! Z!=some (D.fn a4):=by kernel_rfl
def oF5:List.lookup og_ Z!=some (D.fn a5):=by kernel_rfl
def oF6:List.lookup v5_ Z!=some (D.fn a6):=by kernel_rfl
def oM1:List.lookup (Str.ofString "has") Z!=none:=by kernel_rfl
def oM2:List.lookup (Str.ofString "has_item") Z!=none:=by kernel_rfl
def oM3:List.lookup (Str.ofString "is_within") Z!=none:=by kernel_rfl
def oM4:List.lookup (Str.ofString "put") Z!=none:=by kernel_rfl
def oM5:List.lookup (Str.ofString "can_move") Z!=none:=by kernel_rfl
def oM6:List.lookup (Str.ofString "move") Z!=none:=by kernel_rfl
def oM7:List.lookup (Str.ofString "write") Z!=none:=by kernel_rfl
def oM8:List.lookup (Str.ofString "cut") Z!=none:=by kernel_rfl
def oM9:List.lookup (Str.ofString "set_number") Z!=none:=by kernel_rfl
def d4m:List.lookup (Str.ofString "parent_of") Z!=none:=by kernel_rfl
def d2y:List.lookup (Str.ofString "children_of") Z!=none:=by kernel_rfl
def d4l:List.lookup (Str.ofString "signs_of") Z!=none:=by kernel_rfl
def d4k:List.lookup (Str.ofString "text_of") Z!=none:=by kernel_rfl
def d4j:List.lookup (Str.ofString "numbers_of") Z!=none:=by kernel_rfl
end
def rM:List.lookup (Str.ofString "put_behind") jM!=none/\List.lookup (Str.ofString "take_out") jM!=none/\List.lookup (Str.ofString "listed") jM!=none/\List.lookup (Str.ofString "holds") jM!=none:=⟨jM_,jM_,jM_,jM_⟩
inductive Nw
 |ob|par|rows|texts|nums|writ|hid|rO (x:D)|rF (x:D)|rP (x:D)|tO (x:D)|tF (x:D)|tP (x:D)|nm (x:D)|oth
structure Sa(t:Au)(M:Mh)(o:xT!)(rl:bo!)(W:OW)(B:Nat)(a1 a2 a3 a4 a5 a6:xT!)(k1 k2 k3 k4 k5 k6:i!):Prop where
 ob:M o=some v9!
 d1:∃e,M a1=some (.dct k1 e)
 d2:∃e,M a2=some (.dct k2 e)
 d3:∃e,M a3=some (.dct k3 e)
 d4:∃e,M a4=some (.dct k4 e)
 d5:∃e,M a5=some (.dct k5 e)
 d6:∃e,M a6=some (.dct k6 e)
 ro:rl o=.ob
 r1:rl a1=.par
 r2:rl a2=.rows
 r3:rl a3=.texts
 r4:rl a4=.nums
 r5:rl a5=.writ
 r6:rl a6=.hid
 p0:kget k1 root=some .non/\kget k1 binn=some .non
 pr:∀i p,bQ_∈W.rows->kget k1 i=some p
 row:∀x,Ew W x->∃r f p,kget k2 x=some bb!/\Ej t M r f p g5_/\rl r=.rO x/\rl f=.rF x/\rl p=.rP x
 rown:∀x,¬Ew W x->kget k2 x=none
 txt:∀x,x∈W.its->∃r f p,kget k3 x=some bb!/\Ej t M r f p n8_/\rl r=.tO x/\rl f=.tF x/\rl p=.tP x
 txtn:∀x,x∉W.its->kget k3 x=none
 num:∀x,x∈W.its->∃q,kget k4 x=some bR_/\M q=some fk_/\rl q=.nm x
 wr:∀x∈W.its,∀q∈W.txt x,kget k5 q.1=some q.2.1
 hi:∀x∈W.its,∀q∈W.txt x,(kget k6 q.1).isSome=!q.2.2
 hk:∀s,kget k6 s≠none->∃x,x∈W.its/\s∈(aH!).map c_
 l1:oh!<=B
 l2:k2.length<=B
 l3:k3.length<=B
 l4:k4.length<=B
 l5:k5.length<=B
 l6:k6.length<=B
 lr:cc_<=B
 lt:∀x∈W.its,(aH!).length<=B
 live:∀b,rl b≠.oth->M b≠none
def Ce(t:Au)(M:Mh)(o:xT!)(rl:bo!)(W:OW)(B:Nat):Prop:=∃a1 a2 a3 a4 a5 a6 k1 k2 k3 k4 k5 k6,Sa t M o rl W B a1 a2 a3 a4 a5 a6 k1 k2 k3 k4 k5 k6
def Fr(M:Mh)(rl:bo!)(M':Mh)(ac:bo!):Prop:=∀b,M b≠none->rl b=.oth->M' b=M b/\ac b=.oth
def Fr.refl{M:Mh}{rl:bo!}:Fr M rl M rl:=λb _ h=>cc!
def Fr.trans{M M1 M2:Mh}{rl dm uw:bo!}(Y:Fr M rl M1 dm)(L:Fr M1 dm M2 uw):Fr M rl M2 uw:=λb hb hr=>by
 show"!q"
section
variable{t:Au}{M:Mh}{o:xT!}{rl:Addr->Nw}{W:OW}{B:Nat}{R:D->Mh->Prop}
def oB{W:OW}(w:Bs W)(h:bS!):∃k,Db x=some k:=by
 obtain h|rfl|rfl:=h
 .exact(w.nm x h).key
 .exact L!
 .exact L!
def wA{W:OW}(w:Bs W):∀c∈chl W.rows x,∃k,Db c=some k:=λc hc=>by
 have:=eV.mp hc;exact(w.nm c ((w.ri c).mp vT_)).key
def a5o{W:OW}:(g5_).length<=cc_:=by have:=(b5f (rows:=W.rows) (x:=x)).length_le;simpa using this
def b2v{W:OW}(w:Bs W)(J:aY_):∀c∈(aH!).map c_,∃k,Db c=some k:=λc hc=>by
 obtain⟨q,hq,rfl⟩:=IH.mp hc;exact(we_).key
def Sa.noOb{a1 a2 a3 a4 a5 a6:xT!}{k3:i!}(h:g6_)(hm:(Z!).lookup m=none):Dg t.B4 m M N_:=by simp[Dg,h.ob,hm]
def tU(h:aA!)(hk:aC_)(hR:R (.bl (open Classical in decide (Ew W x))) M):Cc t ed_ M R:=by
 obtain⟨a1,a2,a3,a4,a5,a6,k1,k2,k3,k4,k5,k6,h⟩:=h;obtain⟨e2,L⟩:=h.d2;refine j_;have e3:(kget k2 x).isSome=(open Classical in decide (Ew W x)):=by
  by_cases z:Ew W x
  .obtain⟨r,f,p,e,_⟩:=h.row x z;rw[e];simp[z]
  .rw[h.rown x z];simp[z]
 rw[<-e3]at hR;simpa[Ni,Az,w2,wl,Ay,Gv,Ef,Aa,h.ob,oF2,Ih,L,hk]using hR
def hJ(h:aA!)(hk:aC_)(hR:R (.bl (open Classical in decide g7!)) M):Ci t ed_ M R:=by
 obtain⟨a1,a2,a3,a4,a5,a6,k1,k2,k3,k4,k5,k6,h⟩:=h;obtain⟨e2,L⟩:=h.d3;refine j_;have e3:(kget k3 x).isSome=(open Classical in decide g7!):=by
  by_cases z:x∈W.its
  .obtain⟨r,f,p,e,_⟩:=h.txt x z;rw[e];simp[z]
  .rw[h.txtn x z];simp[z]
 rw[<-e3]at hR;simpa[Ix,Az,w2,wl,Ay,Gv,Ef,Aa,h.ob,oF3,Ih,L,hk]using hR
def a2z(h:aA!)(hk:aC_)(J:jO!)(hR:R p M):Fk t ed_ M R:=by obtain⟨a1,a2,a3,a4,a5,a6,k1,k2,k3,k4,k5,k6,h⟩:=h;obtain⟨e1,Y⟩:=h.d1;refine j_;simpa[Ig,Az,w2,wl,Ay,Gv,Ef,Aa,h.ob,oF1,Bt,Y,hk,h.pr x p J]using hR
def nJ(h:aA!)(w:Bs W)(hB:B<4000)(J:bS!)(hR:R dl_ M):Dq t ed_ M R:=by obtain⟨a1,a2,a3,a4,a5,a6,k1,k2,k3,k4,k5,k6,h⟩:=h;obtain⟨e2,L⟩:=h.d2;obtain⟨k,hk⟩:=oB w J;obtain⟨r,f,p,e,hr,_⟩:=h.row x J;refine j_;simp[Ha,Az,w2,wl,Ay,Gv,Ef,Aa,h.ob,oF2,Bt,L,hk,e,Bb,Af,Dg,hr.ob,rM];exact a0t hr (by have:=a5o (W:=W) (x:=x);have:=h.lr;omega) (wA w) hR
def zH(h:aA!)(w:Bs W)(J:aY_)(hR:R fk_ M):Fa t ed_ M R:=by
 obtain⟨a1,a2,a3,a4,a5,a6,k1,k2,k3,k4,k5,k6,h⟩:=h;obtain⟨e4,h4⟩:=h.d4;obtain⟨k,hk⟩:=(w.nm x J).key;obtain⟨q,e,hq,_⟩:=h.num x J;have hl:(bR!).length<=big:=by rw[w.nl x J];decide
 refine j_;simpa[Hq,Az,w1,Ab,Af,w2,wl,Ay,Gv,Ef,Aa,h.ob,oF4,Bt,h4,hk,e,Vz,Su,hq,hl]using hR
end
def a1g:∀(xs ys:w_),Jf (xs.map D.int) (ys.map D.int)=(xs==ys)
 |[],[]=>by simp[Jf]
 |[],y::ys=>by simp[Jf]
 |x::xs,[]=>by simp[Jf]
 |x::xs,y::ys=>by simp[Jf,En,a1g xs ys]
def Sd(d:D):Prop:=d=.non\/(∃x,d=.str x)\/(∃i,d=.int i)\/∃ns:List Int,d=.tup ju_
def a8m:∀{xs ys:w_},xs.map D.int=ys.map D.int->xs=ys
 |[],[],_=>rfl
 |[],_::_,h=>by simp at h
 |_::_,[],h=>by simp at h
 |x::xs,y::ys,h=>by
  simp only[IA,NC,D.int.injEq]at h;rw[h.1,a8m h.2]
def nF(J:Sd x)(hy:Sd y):En x y=(open Classical in decide (x=y)):=by
 obtain rfl|⟨a,rfl⟩|⟨i,rfl⟩|⟨ns,rfl⟩:=J<;>obtain rfl|⟨b,rfl⟩|⟨j,rfl⟩|⟨ms,rfl⟩:=hy<;>simp[En,a1g]
 all_goals
  rw[LS]
  first
   |(simp only[NE,JA,D.tup.injEq];exact⟨λz=>by rw[z],a8m⟩)
   |(simp only[NE,JA])
   |simp
def a0p:∀(ns:w_),Bx ps!=true
 |[]=>by simp[Bx]
 |n::ns=>by simp[Bx,Bi,a0p ns]
def eA(h:Sd x):Bi x=true:=by obtain rfl|⟨a,rfl⟩|⟨i,rfl⟩|⟨ns,rfl⟩:=h<;>simp[Bi,a0p]
def a9c:∀(ns:w_),Dp ps!<=1
 |[]=>by simp[Dp]
 |n::ns=>by have:=a9c ns;simp[Dp,Ii];omega
def iY(h:Sd x):Ii x<=5:=by
 obtain rfl|⟨a,rfl⟩|⟨i,rfl⟩|⟨ns,rfl⟩:=h<;>simp[Ii]
 have:=a9c ns;omega
def Ik.sd(h:Ik x):Sd x:=by obtain⟨a,b,rfl⟩:=h;exact .inr oi_
def Qb.sd(h:Qb x):Sd x:=by obtain⟨a,b,c,rfl⟩:=h;exact .inr wh_
def iO(x:Str):Sd dK_:=.inr (.inl ⟨x,rfl⟩)
def a4z{W:OW}(w:Bs W)(h:bS!):Sd x:=by
 obtain h|rfl|rfl:=h
 .exact(w.nm x h).sd
 .exact iO _
 .exact iO _
def a3m(J:Sd x)(hy:Sd y):Eg x y=some (.bl (!(open Classical in decide (x=y)))):=by unfold Eg;have:=iY J;rw[eA J,eA hy,nF J hy];rw[IB ab_]
def lE(J:Sd x)(hy:Sd y):Ba x y=some (.bl (open Classical in decide (x=y))):=by unfold Ba;have:=iY J;rw[eA J,eA hy,nF J hy];rw[IB ab_]
section
variable{t:Au}{M:Mh}{o:xT!}{rl:Addr->Nw}{W:OW}{B:Nat}{R:D->Mh->Prop}
def Ej.keep{M':Mh}(h:d9_)(e1:M' r=M r)(e2:M' f=M f)(e3:M' p=M p):Ej t M' r f p xs:=by obtain⟨kf,ef,kp,ep,hf,hp,K⟩:=h.dc;exact⟨e1.trans h.ob,⟨kf,ef,kp,ep,e2.trans hf,e3.trans hp,K⟩,h.ne⟩
def Ej.live(h:d9_):M r≠none/\M f≠none/\M p≠none:=by obtain⟨kf,ef,kp,ep,hf,hp,K⟩:=h.dc;exact⟨by rw[h.ob];simp,by rw[hf];simp,by rw[hp];simp⟩
def qN{ρ:Ae}(hR:∀r f p M',M r=none->M f=none->M p=none->r≠f->r≠p->Ej t M' r f p []->(∀b,b≠r->b≠f->b≠p->M' b=M b)->R bb! M'):Gf t.B5 1 (Hu t) Af ρ M R:=by
 refine⟨rfl,λr hr=>j_⟩;have nf:∀{f:xT!},Be M r (.obj t.B5 []) f=none->f≠r/\M f=none:=λ{f} z=>by
  by_cases e:f=r
  .rw[e,mup_same]at z;cases z
  .rw[mup_ne e]at z;exact⟨e,z⟩
 intro f hf;obtain⟨f1,f2⟩:=nf hf;refine⟨mup_same,R!,by simp[Db],H!,?_⟩;simp[wl,Aa,mup_ne,mup_same,HR f1,Bq];intro p hp;have p1:p≠r:=λe=>by rw[e,mup_same]at hp;cases hp
 rw[ok!]at hp;have p2:p≠f:=λe=>by rw[e,mup_same]at hp;cases hp
 rw[mup_ne p2,mup_ne p2,ok!]at hp;simp[Ek,Ny,wl,fC,Aa,mup_ne,mup_same,HR f1,HR p1,Bq,Db];have ce:¬(Str.ofString "following"=Str.ofString "preceding"):=by decide+kernel
 refine hR r f p _ hr f2 hp (HR f1) (HR p1) ⟨mup_same,⟨jw!,1,jw!,1,?_,?_,b8s⟩,HR p2⟩ λb Y L h3=>?_
 .rw[mup_ne f1,wk!,wk!,mup_ne f1,mup_same]
 .rw[ok!,mup_same]
 .rw[ce!,ok_,ok_,ce!,cF!,cF!,ce!]
def b0p{W:OW}(w:Bs W)(h:aY_):∃p,bb_∈W.rows:=by obtain⟨⟨a,p⟩,hq,rfl⟩:=IH.mp ((w.ri x).mpr h);exact⟨p,hq⟩
def tG{W:OW}(w:Bs W)(h:x∉W.its):∀p,bb_∉W.rows:=λp z=>h ((w.ri x).mp vx!)
def b3i{W:OW}(w:Bs W):root∉W.its:=λz=>(w.nm _ z).nn.2.1 rfl
def c3l{W:OW}(w:Bs W):binn∉W.its:=λz=>(w.nm _ z).nn.2.2 rfl
def d2d(h:Ik x\/x=root\/x=binn):x≠.non:=by
 obtain h|rfl|rfl:=h
 .exact h.nn.1
 .show"!d"
 .show"!d"
def d0a{W:OW}(w:Bs W)(h:bS!):x≠.non:=d2d (h.imp_left (w.nm x))
def uD{k3:i!}(h:g6_)(w:Bs W)(hi:Ik i){rk:D->Nat}(ii:wk_):
  ∀(n:Nat) (x:D),rk x<n->Ew W x->∀(R':j!),(Wn W.rows i x->R' (.nx [F!,K!,K!]) M)->(¬Wn W.rows i x->R' (.nx [F!,some .non,K!]) M)->
   ∃m,Df gn_ go! m ol_ M R'
 |0,x,hn,_,_,_,_=>by omega
 |n+1,x,hn,J,R',r1,r2=>by
  obtain⟨e1,Y⟩:=h.d1;have x0:=d0a w J;have ne:=a3m (a4z w J) hi.sd;by_cases e:x=i
  .subst e;have:=r1 .here;refine fm_;simpa[Df,Dd,Cz,fT,f2,Aa,fC,Ar,jZ x0,ne]using this
  .have st:∀(p:D) (m:Nat),kget k1 x=some p->Df gn_ go! m [F!,cG!,K!] M R'->
     Df gn_ go! (m+1) ol_ M R':=λp m hp hw=>by
    obtain⟨k,hk⟩:=oB w J;rw[Df];simpa[Dd,Cz,fT,f2,Aa,fC,Ar,jZ x0,ne,e,Ao,w2,wl,Ay,Gv,Ef,h.ob,oF1,Bt,Y,hk,hp]using hw
   have top:kget k1 x=some .non->wl_->∃m,Df gn_ go! m ol_ M R':=λhp hr=>by
    have:=r2 (b7w hr e);refine⟨1+1,st .non 1 hp ?_⟩;simpa[Df,Dd,Cz,fT,f2,Aa,fC,Ar,Cn]using this
   obtain J|rfl|rfl:=J
   .obtain⟨p,hp⟩:=b0p w J;have q:=a9w w.rnd hp e;have:=ii _ _ hp;obtain⟨m,hm⟩:=uD h w hi ii n p a! (w.rp _ _ hp) R' wm_ (λz=>r2 λy=>z (q.mp y));exact⟨m+1,st p m (h.pr _ _ hp) hm⟩
   .exact top h.p0.1 (tG w (b3i w))
   .exact top h.p0.2 (tG w (c3l w))
def a4y(h:aA!)(w:Bs W)(J:bS!)(hi:Ik i)(hR:R (.bl (open Classical in decide (Wn W.rows i x))) M):Fm t [bc_,x,i] M R:=by
 obtain⟨a1,a2,a3,a4,a5,a6,k1,k2,k3,k4,k5,k6,h⟩:=h;obtain⟨rk,ii⟩:=w.rk;obtain⟨m,hm⟩:=uD h w hi ii (rk x+1) x a! J (λr M1=>match r with|.nx ai=>Az (wl iD_) ai M1 g9!|.rt d=>R d M1)
  (λz=>by simp only[z,PX]at hR;simpa[Az,wl,f2,Aa,fC,Ar,jZ hi.nn.1]using hR)
  (λz=>by simp only[z,QJ]at hR;simpa[Az,wl,f2,Aa,fC,Ar,Cn]using hR)
 refine j_;exact⟨m,hm⟩
def a9l(h:aA!)(w:Bs W)(cu:fo!)(gi:on!)(hR:∀b:Bool,(b=true↔eg_)->R bK! M):Fv t [bc_,i,x] M R:=by
 have h':=h;show"!3";simp only[Iy,Az,Jt,wT,Bb,wl,Ab,Af,Aa];simp[on_];show"!g"
 .simp only[c1,PX,JT];refine⟨hA.noOb oM1,?_⟩;refine tU h gi ?_;by_cases c2:Ew W x
  .simp only[c2,PX,JT,Ww,wT,Bb,wl,Ab,Af,Aa];refine⟨hA.noOb oM3,rfl,?_⟩;refine a4y h w c2 (w.nm i c1) ?_;exact hR _ (by simp[c1,c2])
  .simp only[c2,QJ];exact hR _ (by simp[c2])
 .simp only[c1,QJ];exact hR _ (by simp[c1])
def yZ{p n:Int}(h:aA!)(w:Bs W)(cu:fo!)(p0:0<=p)(p3:p<=3)
  (hR:∀M',Ce t M' o rl (open Classical in if i∈W.its then Ss W i oo! else W) B->Fr M rl M' rl->R .non M'):Ez t [bc_,i,.int p,aQ_] M R:=by
 have h':=h;show"!3";simp only[Ho,Av,wT,Bb,wl,Ab,Af,Aa];simp[Dg,hA.ob,oM2];show"!g"
 .simp only[c1,JT]at hR;obtain⟨e4,h4⟩:=hA.d4;obtain⟨q,e,hq,j0⟩:=hA.num i c1;have J:Dz (jR_).length p=some p.toNat:=by
   rw[w.nl i c1];unfold Dz;rw[IB p0,a1!]
  have ax:∀b,rl b≠.nm i->Be M q (.lst oo!) b=M b:=λb hb=>mup_ne λz=>hb wo!;have fin:R .non (Be M q (.lst oo!)):=by
   refine hR _ ⟨a1,a2,a3,a4,a5,a6,k1,k2,k3,k4,k5,k6,?_⟩ λb hb hr=>wp!;refine{hA with ob:=?_,d1:=?_,d2:=?_,d3:=?_,d4:=?_,d5:=?_,d6:=?_,row:=?_,txt:=?_,num:=?_,live:=?_}
   .rw[ax o O!];exact hA.ob
   .rw[ax a1 bS_];exact hA.d1
   .rw[ax a2 aA_];exact hA.d2
   .rw[ax a3 aZ!];exact hA.d3
   .rw[ax a4 aZ_];exact hA.d4
   .rw[ax a5 aR_];exact hA.d5
   .rw[ax a6 aB!];exact hA.d6
   .show"!t"
   .intro x J;obtain⟨r,f,p',g1,g2,g3,g4,g5⟩:=hA.txt x J;exact oq!
   .intro x J;by_cases c:x=i
    .subst c;refine⟨q,e,?_,j0⟩;rw[mup_same];simp[Ss]
    .obtain⟨q',g1,g2,g3⟩:=hA.num x J;refine⟨q',g1,?_,g3⟩;rw[ax q' (by rw[g3];simpa using c),g2];simp[Ss,c]
   .intro b hb;by_cases c:b=q
    .rw[c,mup_same];simp
    .rw[mup_ne c];show"#$"
  simpa[c1,Cf,w2,wl,Ay,Gv,Ef,Aa,hA.ob,oF4,Bt,h4,cu,e,Lf,hq,J]using fin
 .simp only[c1,JL]at hR;have:=hR M h .refl;simpa[c1,Bn]using this
end
end K24
namespace K24
open PySem L2 DL
open Classical
section
variable{t:Au}{M:Mh}{o:xT!}{rl:Addr->Nw}{W:OW}{B:Nat}{R:D->Mh->Prop}
def Ce.mono{B':Nat}(h:aA!)(hb:B<=B'):Ce t M o rl W B':=by obtain⟨a1,a2,a3,a4,a5,a6,k1,k2,k3,k4,k5,k6,hA⟩:=h;exact⟨a1,a2,a3,a4,a5,a6,k1,k2,k3,k4,k5,k6,{hA with l1:=JB hA.l1 hb,l2:=JB hA.l2 hb,l3:=JB hA.l3 hb,l4:=JB hA.l4 hb,l5:=JB hA.l5 hb,l6:=JB hA.l6 hb,lr:=JB hA.lr hb,lt:=λx J=>JB jS! hb}⟩
def sD(i:D):setT W i bp_=W:=by
 unfold setT;cases W with
 |mk a b c d=>
  congr 1;funext x;split
  .rename_i e;rw[e]
  .rfl
open Classical in
nonrec def cutT(cy:c!)(l:ag_):List eb!:=l.map λq=>or!
def c3b(l:ag_):cutT [] l=l:=by unfold cutT;simp
def pQ(g:c!)(l:ag_):(cutT g l).map c_=l.map c_:=by unfold cutT;simp
def a9g(g:c!)(s:D)(l:ag_):cutT [s] (cutT g l)=cutT (g++[s]) l:=by unfold cutT;rw[JQ];apply KI;intro q _;simp only[Function.comp,HV];congr 2;rw[Bool.and_assoc];congr 1;by_cases Y:q.1∈g<;>by_cases L:q.1∈[s]<;>simp[Y,L]
def c6u{l:ag_}(h:s∉l.map c_):cutT [s] l=l:=by
 conv=>rhs;rw[<-RU l]
 apply KI;intro q hq;have:q.1≠s:=λz=>h jJ!;simp[this]
def a1l(w:Bs W)(hi:g1_)(g:c!):Bs or_:=by
 refine sB w hi (by rw[pQ];exact w.snd i hi) ei_ os!
 .show"!:";exact w.sg i hi q0 h0
 .show"!:";exact(w.su i hi y hy q0 h0 q' a8 e).symm
def sC(i:D)(l l':ag_):setT (setT W i l) i l'=setT W i l':=by unfold setT;congr 1;funext x;dsimp only;split<;>rfl
def a2h(i:D)(l:ag_):(setT W i l).txt i=l:=by simp[setT]
def c5z{ks:MK}{k3:i!}{e6:Nat}(hA:g6_)(w:Bs W)(hi:g1_)(hs:s∈(bp_).map c_):
  Sa t (Be M a6 ot!) o rl ot_ (B+1) a1 a2 a3 a4 a5 a6 k1 k2 k3 k4 k5 os_/\Fr M rl (Be M a6 ot!) rl:=by
 have ax:∀b,rl b≠.hid->Be M a6 ot! b=M b:=λb hb=>mup_ne λz=>hb (by rw[z];exact hA.r6);refine⟨?_,λb hb hr=>wp!⟩;have up:∀{x:Nat},x<=B->x<=B+1:=λh=>Nat.le_succ_of_le h;refine{hA with ob:=?_,d1:=?_,d2:=?_,d3:=?_,d4:=?_,d5:=?_,d6:=jT!,row:=?_,txt:=?_,num:=?_,live:=?_,wr:=?_,hi:=?_,l1:=up hA.l1,l2:=up hA.l2,l3:=up hA.l3,l4:=up hA.l4,l5:=up hA.l5,l6:=JB ea! (Nat.succ_le_succ hA.l6),lr:=up hA.lr,lt:=?_,hk:=?_}
 .rw[ax o O!];exact hA.ob
 .rw[ax a1 bS_];exact hA.d1
 .rw[ax a2 aA_];exact hA.d2
 .rw[ax a3 aZ!];exact hA.d3
 .rw[ax a4 aZ_];exact hA.d4
 .rw[ax a5 aR_];exact hA.d5
 .show"!t"
 .intro x J;obtain⟨r,f,p',g1,g2,g3,g4,g5⟩:=hA.txt x J;refine⟨r,f,p',g1,?_,g3,g4,g5⟩;have e:((ot_).txt x).map c_=(aH!).map c_:=by
   show wt!;split
   .rename_i z;rw[z,pQ]
   .rfl
  rw[e];exact g2.keep (ax _ dn!) (ax _ eh_) (ax _ ei!)
 .intro x J;obtain⟨q,g1,g2,g3⟩:=hA.num x J;exact⟨q,g1,(ax q dn!).trans g2,g3⟩
 .show∀x∈W.its,∀q∈jT_,kget k5 q.1=some q.2.1;intro x J;split
  .intro q hq;show"!:";exact hA.wr i hi q0 h0
  .exact hA.wr x J
 .show∀x∈W.its,∀q∈jT_,(kget os_ q.1).isSome=!q.2.2;intro x J;split
  .intro q hq;show"!:";by_cases c:q0.1=s
   .rw[c,cV];simp
   .rw[fo_,hA.hi i hi q0 h0];simp[c]
  .rename_i c;intro q hq;have:s≠q.1:=λz=>by
    obtain⟨q0,h0,e0⟩:=IH.mp hs;exact c (w.su x J i hi q hq q0 h0 (by rw[<-z,e0]))
   rw[cW this];exact hA.hi x J q hq
 .intro s' b6;have nm:∀x,((ot_).txt x).map c_=(aH!).map c_:=λx=>by
   show wt!;split
   .rename_i z;rw[z,pQ]
   .rfl
  by_cases c:s=s'
  .subst c;exact⟨i,hi,by rw[nm];exact hs⟩
  .rw[cW c]at b6;obtain⟨x,Y,L⟩:=hA.hk s' b6;exact⟨x,Y,by rw[nm];exact L⟩
 .show∀x∈W.its,(jT_).length<=B+1;intro x J;split
  .rw[show(ws!).length=(bp_).length by unfold cutT;simp];exact up (hA.lt i hi)
  .exact up jS!
 .intro b hb;by_cases c:b=a6
  .rw[c,mup_same];simp
  .rw[mup_ne c];show"#$"
abbrev CQ(t:Au):WS:=(Ah sx!
 sy_)
def yP{x y z m:Int}(hi:g1_)(w:Bs W):∀(js:w_) (M:Mh) (g:c!) (B:Nat) (uh J':an_) (R:j!),B+js.length<4000->Ce t M o rl or_ B->
  (∀M' ρ,Ce t M' o rl (setT W i (cutT (g++js.map λj=>.tup jV_) bp_)) (B+js.length)->Fr M rl M' rl->R aK! M')->
  Ib cx! ae! (CQ t) (js.map .int) [F!,K!,some ej_,some do!,uh,J'] M R
 |[],M,g,B,uh,J',R,hB,h,hR=>⟨trivial,hR M _ kh_ .refl⟩
 |j::js,M,g,B,uh,J',R,hB,h,hR=>by
  refine aI_;have w2:=a1l w hi g;obtain⟨ki,cu⟩:=(hc_).key;have cz:=h;obtain⟨a1,a2,a3,a4,a5,a6,k1,k2,k3,k4,k5,k6,hA⟩:=cz;obtain⟨r,f,p,g1,g2,g3,g4,g5⟩:=hA.txt i hi;obtain⟨e3,h3⟩:=hA.d3;obtain⟨e6,h6⟩:=hA.d6;have l6:k6.length<big:=by have:=hA.l6;unfold big;simp at hB;omega
  simp only[IE]at hB hR;have ux:An jX! (.tup [dS!])=some hd!:=by simp[An,big]
  have uy:Bj ej_ none (some 2)=some jX!:=by simp[Bj,Dk,HT.sIx]
  simp[Ef,Cg,Ah,Ao,wl,f2,Do,Aa,Aq,Ap,fC,Aw,Ac,Ag,uy,ux,Av,wT,Bb,DL.w2,Ay,Gv,hA.ob,oF3,Bt,h3,cu,g1,Dg,g2.ob,Ab,Af,rM,-List.lookup_eq_none_iff];refine a8p g2 fi_ ?_;by_cases c:D.tup jV_∈((or_).txt i).map c_
  .simp only[c,PX,JT];obtain⟨q1,q2⟩:=c5z (ks:=none) (e6:=Gs k6 hd! e6) hA w2 hi c;rw[sC,a2h,a9g]at q1;have:=yP (z:=z) (m:=m) hi w js _ ou_ (B+1) (some cH!) (some hd!) R a! wy! (λM' ρ h' f'=>hR M' ρ wy_ (q2.trans f'));simpa[Cf,wl,Ay,Gv,Ef,Aa,fC,hA.ob,oF6,Lf,h6,show Db hd!=some _ from rfl,l6]using this
  .simp only[c,QJ];have q1:Ce t M o rl (setT W i (cutT ou_ bp_)) (B+1):=by
    rw[<-a9g,c6u (by rw[a2h]at c;exact c)];exact h.mono (PZ B)
   have:=yP (z:=z) (m:=m) hi w js M ou_ (B+1) (some cH!) (some hd!) R a! q1 (λM' ρ h' f'=>hR M' ρ wy_ f');simpa[Bn]using this
def d0w{x y z m:Int}(h:aA!)(w:Bs W)(cu:fo!)(hB:he_)(z0:0<=z)(m1:1<=m)(m16:z+m<=16)
  (hR:∀M',Ce t M' o rl (open Classical in if i∈W.its then setT W i (cutT wB_ bp_)else W) bq!->Fr M rl M' rl->R .non M'):
  Jq t [bc_,i,.tup jW!,ek_] M R:=by
 have h':=h;show"!3";simp only[Nj,Ah,Av,Iu,wT,Bb,wl,Ab,Af,Aa];simp[on_];show"!g"
 .simp only[c1,JT]at hR;have hr:Tc dT! sv! [F!,K!,some ej_,some do!,none,none]=some ((wC_).map D.int):=by
   have e1:Ak ej_ bx!=some (.int z):=rfl;have e2:(z+m - z).toNat=m.toNat:=by congr 1;omega
   have b:-1000<=z/\z<=100000/\-1000<=z+m/\z+m<=100000:=by omega
   simp[Tc,f2,Aa,fC,e1,An,b,e2,Sv,Function.comp]
  have:=yP (t:=t) (o:=o) (rl:=rl) (x:=x) (y:=y) (z:=z) (m:=m) c1 w wC_ M [] B none none g9! ab_ (by rw[c3b,sD];exact h) (λM' ρ L f2=>hR M' (by
   simp only[KO,JQ,IK,MD]at L;exact L.mono a!) f2)
  simp only[c1,PX,LH,IW,JL,Bn,Dj,Il,Ef,hr];exact this
 .simp only[c1,JL]at hR;have:=hR M (h.mono a!) .refl;simpa[c1,Qi]using this
def EA(c7:D)(U l:ag_):Prop:=(U=[]/\c7∉l.map c_)\/∃u' q,U=u'++[q]/\q.1=c7/\c7∉u'.map c_
def EA.names(h:EA c7 U hf_):Qa s c7 ((hf_).map c_)=(wE!).map c_:=by
 obtain⟨rfl,h⟩|⟨u',q,rfl,e,h⟩:=h
 .unfold Qa;rw[HQ h];simp
 .unfold Qa;rw[IB hg!];simp only[IU,IA,MY,KA,MM,KO];rw[e,kZ h]
def b7t{M1:Mh}{e5:Nat}{k3:i!}(hA:g6_)(w:Bs W)(hi:g1_)
  (hl:W.txt i=U++v)(hb:EA c7 U hf_)(hs:Qb s)(hf:∀x∈W.its,s∉(aH!).map c_)(g3:rl r=.tO i)(g4:rl f=.tF i)(g5:rl p=.tP i)(g1:kget k3 i=some bb!)
  (hr:Ej t M1 r f p (Qa s c7 ((bp_).map c_)))(fr:∀b,b≠f->b≠p->M1 b=M b):
  Sa t wH! o rl ox! (B+1) a1 a2 a3 a4 a5 a6 k1 k2 k3 k4 (As k5 s c) k6/\Fr M rl wH! rl/\Bs ox!:=by
 have ax:∀b,rl b≠.writ->rl b≠.tF i->rl b≠.tP i->Be M1 a5 ow_ b=M b:=λb Y L h3=>by
  rw[mup_ne λz=>Y wI!];exact fr b (λz=>L (by rw[z];exact g4)) (λz=>h3 (by rw[z];exact g5))
 have up:∀{x:Nat},x<=B->x<=B+1:=λh=>Nat.le_succ_of_le h;have n5:∀b,rl b≠.writ->Be M1 a5 ow_ b=M1 b:=λb Y=>mup_ne λz=>Y wI!;have tx:∀x,(ox!).txt x=if x=i then U++(s,c,true)::v else W.txt x:=λx=>rfl
 have si:s∉(hf_).map c_:=by rw[<-hl];exact hf i hi
 refine⟨?_,λb dr xh=>⟨ax b oy! oy! oy!,xh⟩,?_⟩
 .refine{hA with ob:=?_,d1:=?_,d2:=?_,d3:=?_,d4:=?_,d5:=jT!,d6:=?_,row:=?_,txt:=?_,num:=?_,live:=?_,wr:=?_,hi:=?_,hk:=?_,l1:=up hA.l1,l2:=up hA.l2,l3:=up hA.l3,l4:=up hA.l4,l5:=JB ea! (Nat.succ_le_succ hA.l5),l6:=up hA.l6,lr:=up hA.lr,lt:=?_}
  .rw[ax o O! O! O!];exact hA.ob
  .rw[ax a1 bS_ bS_ bS_];exact hA.d1
  .rw[ax a2 aA_ aA_ aA_];exact hA.d2
  .rw[ax a3 aZ! aZ! aZ!];exact hA.d3
  .rw[ax a4 aZ_ aZ_ aZ_];exact hA.d4
  .rw[ax a6 aB! aB! aB!];exact hA.d6
  .intro x J;obtain⟨r',f',p',q1,q2,q3,q4,q5⟩:=hA.row x J;exact⟨r',f',p',q1,q2.keep wK_ (ax _ hg_ hg_ hg_) (ax _ hh! hh! hh!),q3,q4,q5⟩
  .intro x J;by_cases z:x=i
   .subst z;refine wL!;rw[tx,n_,<-hb.names,<-hl];exact hr.keep (n5 _ dn!) (n5 _ eh_) (n5 _ ei!)
   .obtain⟨r',f',p',q1,q2,q3,q4,q5⟩:=hA.txt x J;refine⟨r',f',p',q1,?_,q3,q4,q5⟩;rw[tx,HQ z];exact q2.keep wK_ (ax _ hg_ (by rw[q4];simpa using z) hg_) (ax _ hh! hh! (by rw[q5];simpa using z))
  .intro x J;obtain⟨q,q1,q2,q3⟩:=hA.num x J;exact⟨q,q1,(ax q fr! fr! fr!).trans q2,q3⟩
  .intro x J q hq;rw[tx]at hq;by_cases z:x=i
   .subst z;rw[n_]at hq;obtain q0|q0:=HV.mp hq
    .rw[cW λy=>si (by rw[y];exact HZ (IS _ q0))];exact hA.wr x hi q j0_
    .obtain rfl|q0:=HN.mp q0
     .rw[cV]
     .rw[cW λy=>si (by rw[y];exact HZ (HY _ q0))];exact hA.wr x hi q j1_
   .rw[HQ z]at hq;rw[cW λy=>hf x J (by rw[y];exact HZ hq)];exact hA.wr x J q hq
  .intro x J q hq;rw[tx]at hq;by_cases z:x=i
   .subst z;rw[n_]at hq;obtain q0|q0:=HV.mp hq
    .exact hA.hi x hi q j0_
    .obtain rfl|q0:=HN.mp q0
     .cases q:kget k6 s with
      |none=>simp[q]
      |some y=>
       obtain⟨x',Y,L⟩:=hA.hk s b9_;exact absurd L (hf x' Y)
     .exact hA.hi x hi q j1_
   .rw[HQ z]at hq;exact hA.hi x J q hq
  .intro s' b6;obtain⟨x,Y,L⟩:=hA.hk s' b6;refine⟨x,Y,?_⟩;rw[tx];by_cases z:x=i
   .subst z;rw[n_];rw[hl]at L;simp only[IU,IA,HV,HN]at L ⊢;obtain L|L:=L
    .exact .inl L
    .exact .inr (.inr L)
   .rw[HQ z];exact L
  .intro x J;rw[tx];by_cases z:x=i
   .subst z;have:=hA.lt x hi;rw[hl]at this;simp at this ⊢;omega
   .rw[HQ z];exact up jS!
  .intro b dr;by_cases z:b=a5
   .rw[z,mup_same];simp
   .rw[j2!];by_cases z1:b=f
    .rw[z1];exact hr.live.2.1
    .by_cases z2:b=p
     .rw[z2];exact hr.live.2.2
     .rw[fr b z1 z2];exact hA.live b dr
 .refine sB w hi ?_ ei_ os!
  .have:=w.snd i hi;rw[hl]at this;simp only[IU,IA]at this si ⊢;rw[IY]at this ⊢;rw[HV,OL]at si;refine⟨this.1,IJ.mpr ⟨si.2,j2_⟩,λa ha b dr=>?_⟩;obtain rfl|dr:=HN.mp dr
   .exact λz=>si.1 jy_
   .exact this.2.2 a ha b dr
  .obtain q0|q0:=HV.mp hq
   .exact w.sg i hi q j0_
   .obtain rfl|q0:=HN.mp q0
    .exact hs
    .exact w.sg i hi q j1_
  .obtain q0|q0:=HV.mp hq
   .exact(w.su i hi y hy q j0_ q' a8 e).symm
   .obtain rfl|q0:=HN.mp q0
    .have e':s=q'.1:=e;exact absurd (by rw[e'];exact HZ a8) (hf y hy)
    .exact(w.su i hi y hy q j1_ q' a8 e).symm
def FP(t:Au):WS:=(Ah mG_
 (Ah ss!
 (Ah st!
 (Ao 5 gr!))))
nonrec def sgn(h n:Int)(q:Nat×Nat):D×D×Bool:=(.tup [aS!,aQ_,AO!],.str ⟨#[q.1]⟩,true)
nonrec def eN(q:Nat×Nat):D:=.tup AO_
def wB{h n:Int}:∀(cs:k_) (k0:Nat) (M:Mh) (W:OW) (B:Nat) (U v:ag_) (c7:D) (ka:MK) (N' RW qu:an_) (R:j!),B+cH_<4000->Ce t M o rl W B->Bs W->i∈W.its->W.txt i=U++v->EA c7 U hf_->Db c7=some ka->
  (∀x∈W.its,∀k':Nat,k0<=k'->D.tup wP!∉(aH!).map c_)->
  (∀M' ρ,Ce t M' o rl wQ! (B+cH_)->Bs wQ!->Fr M rl M' rl->R aK! M')->
  Ib (We 6 7) ae! (FP t) ((oz_).map eN) [F!,bq_,K!,em!,some tx,some c7,N',RW,qu] M R
 |[],k0,M,W,B,U,v,c7,ka,N',RW,qu,R,hB,hO,w,hi,hl,hb,hk,hf,hR=>by
  refine⟨trivial,hR M _ ?_ ?_ .refl⟩
  .simp only[QK,MY,IR,LP,Nat.add_zero];rw[<-hl,sD];exact hO
  .simp only[QK,MY,IR];rw[<-hl,sD];exact w
 |c::cs,k0,M,W,B,U,v,c7,ka,N',RW,qu,R,hB,hO,w,hi,hl,hb,hk,hf,hR=>by
  refine aI_;obtain⟨ki,cu⟩:=(hc_).key;obtain⟨a1,a2,a3,a4,a5,a6,k1,k2,k3,k4,k5,k6,hA⟩:=hO;obtain⟨r,f,p,g1,g2,g3,g4,g5⟩:=hA.txt i hi;obtain⟨e3,h3⟩:=hA.d3;obtain⟨e5,h5⟩:=hA.d5;simp only[IE]at hB hR;have l5:k5.length<big:=by have:=hA.l5;unfold big;omega
  have hs:Qb ch!:=wR!;have RX:∀x∈W.its,D.tup j3_∉(aH!).map c_:=λx J=>hf x J k0 y!;have ux:An ad! (.tup [.int (k0:Nat)])=some ch!:=by simp[An,big]
  have hm:Dg t.B5 "put_behind" M bb!:=by simp only[Dg,g2.ob,rM.1,and_self]
  have J:∀R',w2 Bt eU_ C_ oB! M R'=R' bb! M:=by
   intro R';simp[w2,wl,Ay,Gv,hA.ob,oF3,Bt,h3,cu,g1,Ef,Aa]
  show FP t oB_ M _;show Ah mG_ _ oB_ M _;have e8:f2 An v_ (Aw mG!) oB_=some ch!:=by
   simp[f2,Aa,Aw,Ac,Ag,ux]
  simp only[Ah,Ao,wl,e8,List.set_cons_succ,List.set_cons_zero,Bo,Bb,J];refine⟨hm,rfl,?_⟩;refine jK g2 fi_ hk hs.nn (RX i hi) (by have:=hA.lt i hi;simp;omega) (b2v w hi) λM1 hr fr=>?_;have h5':M1 a5=some (.dct k5 e5):=by
   rw[fr a5 (λz=>by have:=hA.r5;rw[z,g4]at this;cases this) (λz=>by have:=hA.r5;rw[z,g5]at this;cases this)];exact h5
  have ob':M1 o=some v9!:=by
   rw[fr o (λz=>by have:=hA.ro;rw[z,g4]at this;cases this) (λz=>by have:=hA.ro;rw[z,g5]at this;cases this)];exact hA.ob
  obtain⟨q1,q2,q3⟩:=b7t (c:=gO_) (e5:=Gs k5 ch! e5) hA w hi hl hb hs RX g3 g4 g5 g1 hr fr;have hU:U++wS!::v=(U++[wS!])++v:=by simp
  have:=wB (b:=b) (tx:=tx) (h:=h) (n:=n) cs (k0+1) _ wT! (B+1) (U++[oC!]) v ch! _ (some wR_) (some gO!) (some ch!) R
   (a!) wy! q3 hi (by rw[a2h,hU]) (.inr ⟨U,_,rfl,rfl,λz=>RX i hi wU!⟩) fi_
   (λx J k' cx z=>by
    have tx:(wT!).txt x=if x=i then U++oC!::v else W.txt x:=rfl
    rw[tx]at z;by_cases y:x=i
    .subst y;rw[n_]at z;simp only[IU,IA,HV,HN]at z;obtain z|z|z:=z
     .exact hf x hi k' a! wU!
     .simp at z;omega
     .exact hf x hi k' a! (by rw[hl,IU];exact HY _ z)
    .rw[HQ y]at z;exact hf x J k' a! z)
   (λM' ρ Y L f'=>hR M' ρ (by
    rw[sC]at Y;rw[show B+(cs.length+1)=B+1+cs.length by omega,RK];simpa[sgn]using Y) (by
    rw[sC]at L;simpa[sgn]using L) (q2.trans f'))
  have hp:∀R',Cf ss_ gr! (wl bL!) oB! M1 R'=R' (.nx oB!) (Be M1 a5 (.dct (As k5 ch! gO!) (Gs k5 ch! e5))):=by
   intro R';simp[Cf,wl,Ay,Gv,Ef,Aa,fC,ob',oF5,Lf,h5',show Db ch!=some _ from rfl,l5]
  simp only[hp];exact this
def b7v{h n:Int}{s:Str}(hO:aA!)(w:Bs W)(cu:fo!)(RY:Db b=some kb)(hB:he_)(hs:j5!)
  (hf:∀x∈W.its,∀k':Nat,D.tup wP!∉(aH!).map c_)
  (hR:∀M',Ce t M' o rl wW! bq!->Bs wW!->Fr M rl M' rl->R .non M'):
  Ia t [bc_,hi!,i,b,en!] M R:=by
 have h':=hO;show"!3";simp only[Kx,Ah,Av,Iu,wT,Bb,wl,Ab,Af,Aa];simp[on_];refine hJ hO cu ?_;by_cases c1:i∈W.its
 .simp only[c1,JT]at hR;obtain⟨U,v,e1,e2,e3⟩:=rY b em_ bp_;have hl:hi_<=16:=by simpa[Str.length]using hs
  have hi:Td T_ [F!,bq_,K!,em!,some aT!,em!,none,none,none]=some (s.cps.toList.zipIdx.map eN):=by
   simp[Td,Aa,eN]
  have:=wB (t:=t) (o:=o) (rl:=rl) (b:=b) (tx:=en!) (h:=h) (n:=n) s.cps.toList 0 M W B U v b kb none none none g9! a! hO w c1 e1 (by rw[<-e1];exact e3) RY (λx J k' _=>hf x J k')
   (λM' ρ Y L f'=>hR M' (by rw[<-e2]at Y;exact Y.mono a!) (by rw[<-e2]at L;exact L) f')
  simp only[c1,PX,LH,IW,JL,Bn,Ao,wl,Dj,Il,Ef];simp only[Aa,List.getElem?_cons_zero,List.getElem?_cons_succ,Option.join_some,List.set_cons_succ,List.set_cons_zero];exact this
 .simp only[c1,JL]at hR;have:=hR M oC_ w .refl;simpa[c1,Qi]using this
def aV{N:Mh}(hb:N b≠none)(hc:N c=none):b≠c:=λz=>hb (by rw[z];exact hc)
def c3f(h:∀i,(i,x)∉rows):chl rows x=[]:=by
 cases e:chl rows x with
 |nil=>rfl
 |cons a l=>exact absurd (eV.mp (by rw[e];simp:a∈chl rows x)) (h a)
def Ej.rne(h:d9_):r≠f/\r≠p:=by
 obtain⟨kf,ef,kp,ep,hf,hp,K⟩:=h.dc;refine⟨cl_,cl_⟩
 .have:=h.ob;rw[z,hf]at this;cases this
 .have:=h.ob;rw[z,hp]at this;cases this
def b9c{f1 p1 f2 p2:xT!}{k3:i!}{M2 M3 M5:Mh}{e1 e2 e3 e4:Nat}(hA:g6_)(w:Bs W)(hn:oc!)(ht:Ik n)(hp:Ew W pl)
  (hg:Qe W.rows n pl b rows')(g1:kget k2 pl=some bb!)(g3:rl r=.rO pl)(g4:rl f=.rF pl)(g5:rl p=.rP pl)
  (R2:Ej t M2 r f p (Qa n b (chl W.rows pl)))(K2:∀c,c≠f->c≠p->M2 c=Be M a1 (.dct oD_ e1) c)
  (z1:M2 r1=none)(z2:M2 f1=none)(z3:M2 p1=none)(R3:Ej t M3 r1 f1 p1 [])(K3:∀c,c≠r1->c≠f1->c≠p1->M3 c=M2 c)
  (y1:Be M3 a2 hj! r2=none)(y2:Be M3 a2 hj! f2=none)(y3:Be M3 a2 hj! p2=none)(R5:Ej t M5 r2 f2 p2 [])(K5:∀c,c≠r2->c≠f2->c≠p2->M5 c=Be M3 a2 hj! c)
  (x1:Be M5 a3 oF_ q=none):
  ∃ac,Sa t wY! o ac bc! bq! a1 a2 a3 a4 a5 a6 oD_ oE_ oF! (As k4 n bR_) k5 k6/\
   Fr M rl wY! ac:=by
 have bc:∀{c d:xT!},rl c≠rl d->c≠d:=λh z=>h j5_;have lv:∀c,rl c≠.oth->M c≠none:=hA.live;have A1:M a1≠none:=lv _ bS_;have A2:M a2≠none:=lv _ aA_;have A3:M a3≠none:=lv _ aZ!;have A4:M a4≠none:=lv _ aZ_;have AF:M f≠none:=lv _ eh_;have AP:M p≠none:=lv _ ei!;have s2:∀c,M c≠none->M2 c≠none:=λc hc=>by
  by_cases c1:c=f
  .rw[c1];exact R2.live.2.1
  .by_cases c2:c=p
   .rw[c2];exact R2.live.2.2
   .rw[K2 c c1 c2];by_cases c3:c=a1
    .rw[c3,mup_same];simp
    .rw[oG!];exact hc
 have jd:∀c,M c≠none->c≠r1/\c≠f1/\c≠p1:=λc hc=>⟨aV oG_ z1,aV oG_ z2,aV oG_ z3⟩;have s3:∀c,M c≠none->M3 c≠none:=λc hc=>by rw[oH_];exact s2 c hc
 have xk:∀c,M3 c≠none->Be M3 a2 hj! c≠none:=λc hc=>by
  by_cases c3:c=a2
  .rw[c3,mup_same];simp
  .rw[oG!];exact hc
 have gj:∀c,M3 c≠none->c≠r2/\c≠f2/\c≠p2:=λc hc=>⟨aV oI! y1,aV oI! y2,aV oI! y3⟩;have gb:∀c,M3 c≠none->M5 c≠none:=λc hc=>by rw[wZ!];exact xk c hc
 have WG:∀c,M5 c≠none->Be M5 a3 oF_ c≠none:=λc hc=>by
  by_cases c3:c=a3
  .rw[c3,mup_same];simp
  .rw[oG!];exact hc
 have nq:∀c,M5 c≠none->c≠q:=λc hc=>aV (WG c hc) x1;have a1f:a1≠f:=bc (by rw[hA.r1,g4];simp);have a1p:a1≠p:=bc (by rw[hA.r1,g5];simp);have fin:∀c,M c≠none->c≠a1->c≠f->c≠p->c≠a2->c≠a3->c≠a4->Be eo! a4 eo_ c=M c:=λc hc Y L h3 h4 h5 h6=>by
  rw[hj_,wZ_,j6_,w0!,oL!,oH_,K2 c L h3,ce!]
 have uz:∀c,M c≠none->c≠a2->c≠a3->c≠a4->Be eo! a4 eo_ c=M2 c:=λc hc h4 h5 h6=>by
  rw[hj_,wZ_,j6_,w0!,oL!,oH_]
 have WH:∀c,M3 c≠none->c≠a2->c≠a3->c≠a4->Be eo! a4 eo_ c=M3 c:=λc hc h4 h5 h6=>by
  rw[hj_,mup_ne (nq c (gb c hc)),j6_,wZ!,oL!]
 have xl:∀c,M5 c≠none->c≠a3->c≠a4->Be eo! a4 eo_ c=M5 c:=λc hc h5 h6=>by
  rw[hj_,w1_,j6_]
 generalize hM8:Be eo! a4 eo_=M8 at fin uz WH xl;have WJ:=R3.rne;have WK:=R5.rne;obtain⟨v1,v2,v3⟩:=R3.live;obtain⟨v4,v5,v6⟩:=R5.live
 let ac:Addr->Nw:=λc=>if c=r1 then .rO n else if c=f1 then .rF n else if c=p1 then .rP n else if c=r2 then .tO n else if c=f2 then .tF n else if c=p2 then .tP n else if c=q then .nm n else rl c
 have ar:∀c,M c≠none->ac c=rl c:=λc hc=>by
  have Y:=jd c hc;have L:=gj c j6!;have h3:=nq c (gb c j6!);show w0_=_;rw[HQ Y.1,HQ Y.2.1,HQ Y.2.2,HQ L.1,HQ L.2.1,HQ L.2.2,HQ h3]
 have q1:ac r1=.rO n:=IB rfl;have q2:ac f1=.rF n:=by show(if f1=r1 then _ else _)=_;rw[HQ (HR WJ.1),n_]
 have q3:ac p1=.rP n:=by show(if p1=r1 then _ else _)=_;rw[HQ (HR WJ.2),HQ (HR R3.ne),n_]
 have w1:∀c,M3 c≠none->c≠r2/\c≠f2/\c≠p2:=gj;have q4:ac r2=.tO n:=by show(if r2=r1 then _ else _)=_;rw[HQ (HR (oM!).1),HQ (HR (oM_).1),HQ (HR (oN!).1),n_]
 have q5:ac f2=.tF n:=by show(if f2=r1 then _ else _)=_;rw[HQ (HR (oM!).2.1),HQ (HR (oM_).2.1),HQ (HR (oN!).2.1),HQ (HR WK.1),n_]
 have q6:ac p2=.tP n:=by show(if p2=r1 then _ else _)=_;rw[HQ (HR (oM!).2.2),HQ (HR (oM_).2.2),HQ (HR (oN!).2.2),HQ (HR WK.2),HQ (HR R5.ne),n_]
 have q7:ac q=.nm n:=by
  show(if q=r1 then _ else _)=_;rw[HQ (HR (nq _ (gb _ v1))),HQ (HR (nq _ (gb _ v2))),HQ (HR (nq _ (gb _ v3))),HQ (HR (nq _ v4)),HQ (HR (nq _ v5)),HQ (HR (nq _ v6)),n_]
 have na:∀c,M c≠none->w6!:=jd;have im:∀x,x∈(bc!).its↔x∈W.its\/x=n:=λx=>by simp[Fn]
 have jz:wo W.rows n=W.rows:=by
  refine KC.mpr λq hq=>?_;show"!u";exact λz=>hn ((w.ri n).mp jJ!)
 have nP:¬Ew W n:=λz=>z.elim hn λz=>z.elim ht.nn.2.1 ht.nn.2.2;have WL:∀x,Ew bc! x↔Ew W x\/x=n:=λx=>by unfold Ew;rw[im];constructor<;>(intro z;rcases z with(z|z)|z<;>simp[z])
 have up:∀{x:Nat},x<=B->x<=B+20:=λh=>by omega
 have up1:∀{l:i!} {d v:D},au_<=B->(fd_).length<=B+20:=λh=>JB ea! a!;have c1:∀c,rl c≠.oth->rl c≠.par->rl c≠.rows->rl c≠.texts->rl c≠.nums->rl c≠.rF pl->rl c≠.rP pl->M8 c=M c:=λc h0 Y L h3 h4 h5 h6=>
  fin c (lv c h0) (λz=>Y oO!) (λz=>h5 oO_) (λz=>h6 oP_) (λz=>L (by rw[z,hA.r2])) (λz=>h3 (by rw[z,hA.r3])) (λz=>h4 (by rw[z,hA.r4]))
 refine⟨ac,?_,λc hc hr=>⟨fin c hc (bc (by rw[hr,hA.r1];simp)) (bc (by rw[hr,g4];simp)) (bc (by rw[hr,g5];simp)) (bc (by rw[hr,hA.r2];simp)) (bc (by rw[hr,hA.r3];simp)) (bc (by rw[hr,hA.r4];simp)),by rw[ar c hc];exact hr⟩⟩;have e8:∀c,M8 c=Be eo! a4 eo_ c:=λc=>by rw[hM8]
 refine
  {ob:=(c1 o O! O! O! O! O! O! O!).trans hA.ob
   d1:=⟨e1,?d1⟩,d2:=⟨e2,?d2⟩,d3:=⟨e3,?d3⟩,d4:=⟨e4,?d4⟩,d5:=?d5,d6:=?d6
   ro:=(ar o (lv o O!)).trans hA.ro,r1:=(ar a1 A1).trans hA.r1,r2:=(ar a2 A2).trans hA.r2,r3:=(ar a3 A3).trans hA.r3,r4:=(ar a4 A4).trans hA.r4
   r5:=(ar a5 (lv _ aR_)).trans hA.r5,r6:=(ar a6 (lv _ aB!)).trans hA.r6
   p0:=⟨by rw[cW ht.nn.2.1];exact hA.p0.1,by rw[cW ht.nn.2.2];exact hA.p0.2⟩
   pr:=?pr,row:=?row,rown:=?rown,txt:=?txt,txtn:=?txtn,num:=?num,wr:=?wr,hi:=?hi,hk:=?hk
   l1:=up1 hA.l1,l2:=up1 hA.l2,l3:=up1 hA.l3,l4:=up1 hA.l4,l5:=up hA.l5,l6:=up hA.l6,lr:=?lr,lt:=?lt,live:=?live}
 case d1=>rw[uz a1 A1 (bc (by rw[hA.r1,hA.r2];simp)) (bc (by rw[hA.r1,hA.r3];simp)) (bc (by rw[hA.r1,hA.r4];simp)),K2 a1 a1f a1p,mup_same]
 case d2=>
  have h3:=s3 a2 A2;rw[e8,mup_ne (bc (by rw[hA.r2,hA.r4];simp)),mup_ne (nq a2 (gb a2 h3)),mup_ne (bc (by rw[hA.r2,hA.r3];simp)),K5 a2 (oQ_).1 (oQ_).2.1 (oQ_).2.2,mup_same]
 case d3=>rw[e8,mup_ne (bc (by rw[hA.r3,hA.r4];simp)),mup_ne (nq a3 (gb a3 (s3 a3 A3))),mup_same]
 case d4=>rw[e8,mup_same]
 case d5=>rw[c1 a5 aR_ aR_ aR_ aR_ aR_ aR_ aR_];exact hA.d5
 case d6=>rw[c1 a6 aB! aB! aB! aB! aB! aB! aB!];exact hA.d6
 case pr=>
  intro i p' hm;obtain z|z:=hg.mem.mp hm
  .cases z;rw[cV]
  .rw[jz]at z;rw[cW λy=>tG w hn p' w8_];exact hA.pr i p' z
 case row=>
  intro x J;obtain J|rfl:=(WL x).mp J
  .obtain⟨r',f',p',u1,u2,u3,u4,u5⟩:=hA.row x J;have xn:n≠x:=λz=>nP ka!;have L1:=lv r' ao!;have L2:=lv f' aJ!;have L3:=lv p' aJ_;by_cases xo:pl=x
   .subst xo;rw[g1]at u1;cases u1;refine⟨r,f,p,by rw[cW xn];exact g1,?_,(ar r L1).trans g3,(ar f AF).trans g4,(ar p AP).trans g5⟩;show Ej t M8 r f p (chl rows' pl);rw[w9!,jz];exact R2.keep (uz r L1 (bc (by rw[g3,hA.r2];simp)) (bc (by rw[g3,hA.r3];simp)) (bc (by rw[g3,hA.r4];simp))) (uz f AF (bc (by rw[g4,hA.r2];simp)) (bc (by rw[g4,hA.r3];simp)) (bc (by rw[g4,hA.r4];simp))) (uz p AP (bc (by rw[g5,hA.r2];simp)) (bc (by rw[g5,hA.r3];simp)) (bc (by rw[g5,hA.r4];simp)))
   .refine⟨r',f',p',oR_,?_,(ar r' L1).trans u3,(ar f' L2).trans u4,(ar p' L3).trans u5⟩;show Ej t M8 r' f' p' (chl rows' x);rw[hg.chl_ne xo,jz];exact u2.keep xa! (c1 f' aJ! aJ! aJ! aJ! aJ! (by rw[u4];simpa using HR xo) aJ!) (c1 p' aJ_ aJ_ aJ_ aJ_ aJ_ aJ_ (by rw[u5];simpa using HR xo))
  .refine⟨r1,f1,p1,cV _ _ _,?_,q1,q2,q3⟩;have np:pl≠x:=λz=>nP (z▸hp);show Ej t M8 r1 f1 p1 (chl rows' x);rw[hg.chl_ne np,jz,c3f λi z=>nP (w.rp _ _ z)];have e:∀c,M3 c≠none->(∀d,M d≠none->d≠c)->M8 c=M3 c:=λc Y L=>WH c Y (HR (L a2 A2)) (HR (L a3 A3)) (HR (L a4 A4));exact R3.keep (e r1 v1 λd hd=>(oS_).1) (e f1 v2 λd hd=>(oS_).2.1) (e p1 v3 λd hd=>(oS_).2.2)
 case rown=>
  intro x J;rw[WL,OL]at J;rw[cW (HR J.2)];exact hA.rown x J.1
 case txt=>
  intro x J;obtain J|rfl:=(cC_).mp J
  .obtain⟨r',f',p',u1,u2,u3,u4,u5⟩:=hA.txt x J;have xn:n≠x:=λz=>hn ka!;refine⟨r',f',p',oR_,?_,(ar r' (lv r' ao!)).trans u3,(ar f' (lv f' aJ!)).trans u4,(ar p' (lv p' aJ_)).trans u5⟩;have e:(bc!).txt x=W.txt x:=by show fs_=_;rw[HQ (HR xn)]
   rw[e];exact u2.keep xa! (c1 f' aJ! aJ! aJ! aJ! aJ! aJ! aJ!) (c1 p' aJ_ aJ_ aJ_ aJ_ aJ_ aJ_ aJ_)
  .refine⟨r2,f2,p2,cV _ _ _,?_,q4,q5,q6⟩;have e:(hl!).txt x=[]:=by show hl_=_;rw[n_]
   rw[e];have o3:=w1 a3 (s3 a3 A3);have o4:=w1 a4 (s3 a4 A4);exact R5.keep (xl r2 v4 (HR o3.1) (HR o4.1)) (xl f2 v5 (HR o3.2.1) (HR o4.2.1)) (xl p2 v6 (HR o3.2.2) (HR o4.2.2))
 case txtn=>
  intro x J;rw[im,OL]at J;rw[cW (HR J.2)];exact hA.txtn x J.1
 case num=>
  intro x J;obtain J|rfl:=(cC_).mp J
  .obtain⟨q',u1,u2,u3⟩:=hA.num x J;have xn:n≠x:=λz=>hn ka!;refine⟨q',oR_,?_,(ar q' (lv q' ao!)).trans u3⟩;have e:(bc!).num x=W.num x:=by show fs_=_;rw[HQ (HR xn)]
   rw[e,c1 q' ao! ao! ao! ao! ao! ao! ao!];exact u2
  .refine⟨q,cV _ _ _,?_,q7⟩;have e:(hl!).num x=wX_:=by show hl_=_;rw[n_]
   rw[e,e8,xe!,mup_same]
 case wr=>
  intro x J q0 hq;obtain J|rfl:=(cC_).mp J
  .have e:(bc!).txt x=W.txt x:=by show fs_=_;rw[oU_]
   rw[e]at hq;exact hA.wr x J q0 hq
  .have e:(hl!).txt x=[]:=by show hl_=_;rw[n_]
   rw[e]at hq;cases hq
 case hi=>
  intro x J q0 hq;obtain J|rfl:=(cC_).mp J
  .have e:(bc!).txt x=W.txt x:=by show fs_=_;rw[oU_]
   rw[e]at hq;exact hA.hi x J q0 hq
  .have e:(hl!).txt x=[]:=by show hl_=_;rw[n_]
   rw[e]at hq;cases hq
 case hk=>
  intro s hs;obtain⟨x,Y,L⟩:=hA.hk s hs;refine⟨x,(cC_).mpr (.inl Y),?_⟩;have e:(bc!).txt x=W.txt x:=by show fs_=_;rw[HQ (λz:x=n=>hn (z▸Y))]
  rw[e];exact L
 case lr=>
  obtain⟨u,v,e,rfl,_⟩:=hg;rw[jz]at e;show(u++(n,pl)::v).length<=_;have:=hA.lr;rw[e]at this;simp at this ⊢;omega
 case lt=>
  intro x J;obtain J|rfl:=(cC_).mp J
  .have e:(bc!).txt x=W.txt x:=by show fs_=_;rw[oU_]
   rw[e];exact up jS!
  .have e:(hl!).txt x=[]:=by show hl_=_;rw[n_]
   rw[e];simp
 case live=>
  intro c hc;have s8:∀c,M5 c≠none->M8 c≠none:=λc hc=>by
   rw[e8];by_cases h6:c=a4
   .rw[h6,mup_same];simp
   .rw[hj_,w1_];exact WG c hc
  by_cases hM:M c=none
  .by_cases u6:c=r1
   .rw[u6];exact s8 _ (gb _ v1)
   .by_cases u7:c=f1
    .rw[u7];exact s8 _ (gb _ v2)
    .by_cases k8:c=p1
     .rw[k8];exact s8 _ (gb _ v3)
     .by_cases k9:c=r2
      .rw[k9];exact s8 _ v4
      .by_cases oy:c=f2
       .rw[oy];exact s8 _ v5
       .by_cases u8:c=p2
        .rw[u8];exact s8 _ v6
        .by_cases u9:c=q
         .rw[u9,e8,xe!,mup_same];simp
         .have:ac c=rl c:=by show w0_=_;rw[HQ u6,HQ u7,HQ k8,HQ k9,HQ oy,HQ u8,HQ u9]
          rw[this]at hc;exact absurd hM (lv c hc)
  .exact s8 _ (gb _ (s3 c hM))
end
section
variable{t:Au}{M:Mh}{ρ:Ae}{R:Fl->Mh->Prop}
def a2i{fo fi f:WE}{q:WS}(h:f ρ M λv M1=>fo ρ M1 λd M2=>fi ρ M2 λy M3=>Ef qg_ λM4=>q ρ M4 R):Ah (Cf fo fi f) q ρ M R:=by exact h
def b8j{f:WE}{q:WS}(h:xf!):Ah (Bo f) q ρ M R:=h
def qC{o:xT!}{fs:aU_}{kvs:i!}{ep:Nat}{fo fi:e!}{Q:bf_}(h0:fo ρ=some N_)(Y:fi ρ=some y)(hM:M o=some hm_)(J:fs.lookup x=some D_)(hp:bV_)(hk:cl!)(hl:dy_)
  (hQ:Q hW!):Ay C x dq! ρ M (λd M2=>wl fi ρ M2 λy M3=>Ef qg_ λM4=>Q M4):=by
 have e:Lf M D_ y v=some hW!:=by simp[Lf,hp,hk,hl]
 simp only[Ay,wl,h0,Gv,hM,JT,J,Ef,Y,e];exact hQ
def d3d{g:WF}{fo:WE}{f1 f2:e!}{K:s_}(h0:∀K,fo ρ M K=K d M)(ho:lf_)(Y:ft_)(L:hn!)(k:g [d,a,b] M K):Bb C m 3 g fo xh_ ρ M K:=by unfold Bb Ab Af;rw[h0];simp only[wl,Y,L];exact oV_
def Zq(t:Au):WS:=Ah sn_
 (Ah sn!
 (Ah yM_
 (Ah yN!
 sp!)))
end
section
variable{t:Au}{M:Mh}{o:xT!}{rl:Addr->Nw}{W:OW}{B:Nat}{R:D->Mh->Prop}
def c8q(hO:aA!)(w:Bs W)(hn:oc!)(ht:Ik n)(km:dq_)(RY:Db b=some kb)(hB:he_)(hg:Qe W.rows n cI_ b rows')
  (hR:∀M' ac,Ce t M' o ac bc! bq!->Fr M rl M' ac->R .non M'):Jp t [bc_,n,a,b] M R:=by
 have h':=hO;obtain⟨a1,a2,a3,a4,a5,a6,k1,k2,k3,k4,k5,k6,hA⟩:=h';obtain⟨e1,Y⟩:=hA.d1;obtain⟨e2,L⟩:=hA.d2;obtain⟨e3,h3⟩:=hA.d3;obtain⟨e4,h4⟩:=hA.d4;obtain⟨kn,gc⟩:=ht.key;have bc:∀{c d:xT!},rl c≠rl d->c≠d:=λh z=>h j5_;have L1:oh!<big:=by have:=hA.l1;unfold big;omega
 have L2:k2.length<big:=by have:=hA.l2;unfold big;omega
 have L3:k3.length<big:=by have:=hA.l3;unfold big;omega
 have L4:k4.length<big:=by have:=hA.l4;unfold big;omega
 have hp:Ew W cI_:=by split;assumption;exact .inr fb_
 refine j_;have hm:Dg t.B4 "has" M N_:=hA.noOb oM1;generalize hK:xi_=KK;have ig:∀ρ' M',R .non M'->KK cS! M':=λρ' M' z=>by rw[<-hK];exact z
 have key:∀pl,pl=cI_->Zq t fu! M KK:=by
  intro pl epl;rw[<-epl]at hg hp;obtain⟨r,f,p,g1,g2,g3,g4,g5⟩:=hA.row pl hp;obtain⟨kpl,hkpl⟩:=oB w hp;refine a2i ?_;have f4:Aa 4 fu!=some pl:=rfl;have mi:Aa 1 fu!=some n:=rfl;have f3:Aa 3 fu!=some b:=rfl;have f0:Aa 0 fu!=some N_:=rfl;refine qC f0 mi hA.ob oF1 Y gc L1 ?_;refine b8j ?_;have n1:∀c,rl c≠.par->Be M a1 oW_ c=M c:=λc hc=>mup_ne λz=>hc oO!;have va:∀R',w2 Bt cw! a4_ fu! oX! R'=R' bb! oX!:=by
   intro R';simp[w2,wl,Ay,Gv,n1 o O!,n1 a2 aA_,hA.ob,oF2,Bt,L,hkpl,g1,Ef,Aa]
  have vb:=g2.keep (M':=Be M a1 oW_) (n1 r dn!) (n1 f eh_) (n1 p ei!);have zc:Dg t.B5 "put_behind" oX! bb!:=by simp only[Dg,vb.ob,rM.1,and_self]
  refine d3d va zc mi f3 ?_;refine jK vb gc RY ht.nn.1 (λz=>tG w hn pl oX_) (by have:=a5o (W:=W) (x:=pl);have:=hA.lr;omega) (wA w) λM2 R2 K2=>?_;have m2:∀c,rl c≠.par->rl c≠.rF pl->rl c≠.rP pl->M2 c=M c:=λc Y L h3=>(K2 c (λz=>L oO_) (λz=>h3 oP_)).trans (n1 c Y);have qg:M2 o=_:=(m2 o O! O! O!).trans hA.ob;have WM:M2 a2=_:=(m2 a2 aA_ aA_ aA_).trans L;have WN:M2 a3=_:=(m2 a3 aZ! aZ! aZ!).trans h3;have WO:M2 a4=_:=(m2 a4 aZ_ aZ_ aZ_).trans h4;refine a2i ?_;refine qN λr1 f1 p1 M3 z1 z2 z3 _ _ R3 K3=>?_;have m3:∀c,M2 c≠none->M3 c=M2 c:=λc hc=>K3 c (aV hc z1) (aV hc z2) (aV hc z3);have RZ:=(m3 o (by rw[qg];simp)).trans qg;have d32:=(m3 a2 (by rw[WM];simp)).trans WM;have WQ:=(m3 a3 (by rw[WN];simp)).trans WN;have WR:=(m3 a4 (by rw[WO];simp)).trans WO;have oa2:o≠a2:=bc (by rw[hA.ro,hA.r2];simp);have WU:o≠a3:=bc (by rw[hA.ro,hA.r3];simp);have SA:a3≠a2:=bc (by rw[hA.r3,hA.r2];simp);have a42:a4≠a2:=bc (by rw[hA.r4,hA.r2];simp);have WV:a4≠a3:=bc (by rw[hA.r4,hA.r3];simp);refine qC f0 mi RZ oF2 d32 gc L2 ?_;refine a2i ?_;refine qN λr2 f2 p2 M5 y1 y2 y3 _ _ R5 K5=>?_;have m5:∀c,c≠a2->M3 c≠none->M5 c=M3 c:=λc h0 hc=>by
   have q:Be M3 a2 (.dct oE_ (Gs k2 n e2)) c≠none:=by rw[mup_ne h0];exact hc
   rw[K5 c (aV q y1) (aV q y2) (aV q y3),mup_ne h0]
  have SC:=(m5 o oa2 (by rw[RZ];simp)).trans RZ;have d53:=(m5 a3 SA (by rw[WQ];simp)).trans WQ;have WW:=(m5 a4 a42 (by rw[WR];simp)).trans WR;refine qC f0 mi SC oF3 d53 gc L3 ?_;refine⟨R!,⟨R!,R!,R!⟩,λq x1=>?_⟩;have q0:o≠q:=aV (N:=xl!) (by rw[mup_ne WU,SC];simp) x1;have q4:a4≠q:=aV (N:=xl!) (by rw[mup_ne WV,WW];simp) x1;obtain⟨ac,F1,F2⟩:=b9c (e1:=Gs k1 n e1) (e2:=Gs k2 n e2) (e3:=Gs k3 n e3) (e4:=Gs k4 n e4) hA w hn ht hp hg g1 g3 g4 g5 R2 K2 z1 z2 z3 R3 K3 y1 y2 y3 R5 K5 x1;have:=hR _ ac ⟨_,_,_,_,_,_,_,_,_,_,_,_,F1⟩ F2;exact qC (kvs:=k4) (ep:=e4) f0 mi ((mup_ne q0).trans ((mup_ne WU).trans SC)) oF4 ((mup_ne q4).trans ((mup_ne WV).trans WW)) gc L4 (ig _ _ this)
 show Ah sl_ (Zq t) xm_ M KK;have hh:∀K:D->Mh->Prop,Cc t [bc_,a] M K->Bb t.B4 "has" 2 go_ h_ dQ_ xm_ M K:=λK vc=>⟨hm,rfl,vc⟩;refine hh _ (tU hO km ?_);by_cases c:Ew W a
 .rw[IV c];exact key a (by rw[IB c])
 .rw[IF c];exact key binn (by rw[HQ c])
def vS(hO:aA!)(w:Bs W)(cu:fo!)(gi:on!)(oj:Db s=some ks)(hB:he_)
  (hR:∀M',(eg_->∀rows',Qe W.rows i x s rows'->Ce t M' o rl {W with rows:=rows'} bq!)->(¬eg_->Ce t M' o rl W bq!)->Fr M rl M' rl->R .non M'):
  Gp t [bc_,i,x,s] M R:=by
 have h':=hO;obtain⟨a1,a2,a3,a4,a5,a6,k1,k2,k3,k4,k5,k6,hA⟩:=h';obtain⟨e1,Y⟩:=hA.d1;obtain⟨e2,L⟩:=hA.d2;refine j_;show Ah (Av _ _ _) _ oY! M _;simp only[Ah,Av,Iu,wT,Bb,wl,Ab,Af,Aa,List.getElem?_cons_zero,List.getElem?_cons_succ,Option.join_some];refine⟨hA.noOb oM5,rfl,?_⟩;refine a9l hO w cu gi λb hb=>?_;cases b with
 |false=>
  have hc:¬eg_:=λz=>by have:=hb.mpr z;cases this
  have:=hR M (λz=>absurd z hc) (λ_=>hO.mono a!) .refl;simpa[Qi]using this
 |true=>
  have hc:=hb.mp rfl;obtain⟨hi,J,hw⟩:=hc;obtain⟨p0,ff⟩:=b0p w hi;have WX:Ew W p0:=w.rp _ _ ff;obtain⟨r0,f0,q0,u1,u2,u3,u4,u5⟩:=hA.row p0 WX;obtain⟨r,f,p,g1,g2,g3,g4,g5⟩:=hA.row x J;obtain⟨F',hkp0⟩:=oB w WX;obtain⟨uu,vv,c1,c2⟩:=b2g w.rnd ff;have lr:=hA.lr;have hx0:∀R',w2 Bt cw! iH_ oY! M R'=R' (.fn r0) M:=by
   intro R';simp[w2,wl,Ay,Gv,hA.ob,oF1,oF2,Bt,Y,L,cu,hA.pr i p0 ff,hkp0,u1,Ef,Aa]
  have WY:Dg t.B5 "take_out" M (.fn r0):=by simp only[Dg,u2.ob,rM.2.1,and_self]
  simp only[Bool.not_true,Bool.false_eq_true,if_false,Bn,Bo,Bb,hx0];refine⟨WY,rfl,?_⟩;refine a6b u2 c1 cu (by have:=a5o (W:=W) (x:=p0);omega) (wA w) λM1 R1 K1=>?_;rw[<-c2]at R1;have m1:∀c,rl c≠.rF p0->rl c≠.rP p0->M1 c=M c:=λc Y L=>K1 c (λz=>Y (by rw[z,u4])) (λz=>L (by rw[z,u5]));have wz:=(m1 o O! O!).trans hA.ob;have d11:=(m1 a1 bS_ bS_).trans Y;have d12:=(m1 a2 aA_ aA_).trans L;have vb:Ej t M1 r f p (chl ke_ x):=by
   by_cases e:p0=x
   .subst e;rw[u1]at g1;cases g1;obtain⟨z1,z2⟩:f=f0/\p=q0:=by
     have:=u2.ob;rw[g2.ob]at this;simp at this;exact this
    rw[z1,z2];exact R1
   .rw[a1n λz=>e xo!];exact g2.keep (m1 r dn! dn!) (m1 f (by rw[g4];simpa using Ne.symm e) eh_) (m1 p ei! (by rw[g5];simpa using Ne.symm e))
  have va:∀R',w2 Bt cw! C_ oY! M1 R'=R' bb! M1:=by
   intro R';simp[w2,wl,Ay,Gv,wz,oF2,Bt,d12,gi,g1,Ef,Aa]
  have xp:Dg t.B5 "put_behind" M1 bb!:=by simp only[Dg,vb.ob,rM.1,and_self]
  simp only[va];refine⟨xp,rfl,?_⟩;have lw:(chl ke_ x).length<=cc_:=by
   have a:=(b5f (rows:=wo W.rows i) (x:=x)).length_le;have b:=(xq!).length_le;simp at a b;omega
  refine jK vb cu oj (hc_).nn.1 (λz=>(kP.mp oX_).2 rfl) a! (λc hc=>wA w c (eV.mpr (kP.mp (eV.mp hc)).1)) λM2 R2 K2=>?_;have m2:∀c,rl c≠.rF x->rl c≠.rP x->M2 c=M1 c:=λc Y L=>K2 c (λz=>Y oO_) (λz=>L oP_);have qg:=(m2 o O! O!).trans wz;have d21:=(m2 a1 bS_ bS_).trans d11;have L1:oh!<big:=by have:=hA.l1;unfold big;omega
  have fin:R .non (Be M2 a1 o0!):=by
   have n3:∀c,rl c≠.par->Be M2 a1 o0! c=M2 c:=λc hc=>mup_ne λz=>hc oO!;have aw:∀c,rl c≠.par->rl c≠.rF x->rl c≠.rP x->rl c≠.rF p0->rl c≠.rP p0->Be M2 a1 o0! c=M c:=λc Y L h3 h4 h5=>(n3 c Y).trans ((m2 c L h3).trans (m1 c h4 h5));refine hR _ (λ_ rows' hg=>⟨a1,a2,a3,a4,a5,a6,As k1 i x,k2,k3,k4,k5,k6,?_⟩) (λz=>absurd ⟨hi,J,hw⟩ z) λc hc hr=>⟨aw c eh! eh! eh! eh! eh!,hr⟩;have up:∀{x:Nat},x<=B->x<=B+20:=λh=>by omega
   have xi:i≠root/\i≠binn:=⟨(hc_).nn.2.1,(hc_).nn.2.2⟩;refine{hA with ob:=?_,d1:=jT!,d2:=?_,d3:=?_,d4:=?_,d5:=?_,d6:=?_,p0:=⟨by rw[cW xi.1];exact hA.p0.1,by rw[cW xi.2];exact hA.p0.2⟩,pr:=?_,row:=?_,txt:=?_,num:=?_,l1:=Nat.le_trans ea! (by have:=hA.l1;omega),l2:=up hA.l2,l3:=up hA.l3,l4:=up hA.l4,l5:=up hA.l5,l6:=up hA.l6,lr:=?_,lt:=λy hy=>up (hA.lt y hy),live:=?_}
   .rw[aw o O! O! O! O! O!];exact hA.ob
   .rw[aw a2 aA_ aA_ aA_ aA_ aA_];exact hA.d2
   .rw[aw a3 aZ! aZ! aZ! aZ! aZ!];exact hA.d3
   .rw[aw a4 aZ_ aZ_ aZ_ aZ_ aZ_];exact hA.d4
   .rw[aw a5 aR_ aR_ aR_ aR_ aR_];exact hA.d5
   .rw[aw a6 aB! aB! aB! aB! aB!];exact hA.d6
   .intro a b hm;obtain z|z:=hg.mem.mp hm
    .cases z;rw[cV]
    .obtain⟨z1,z2⟩:=kP.mp z;rw[cW (Ne.symm z2)];exact hA.pr a b z1
   .intro y hy;by_cases e:x=y
    .subst e;refine wL!;rw[w9!];exact R2.keep (n3 r dn!) (n3 f eh_) (n3 p ei!)
    .rw[hg.chl_ne e];by_cases e':p0=y
     .subst e';refine⟨r0,f0,q0,u1,?_,u3,u4,u5⟩;exact R1.keep ((n3 r0 ao!).trans (m2 r0 ao! ao!)) ((n3 f0 aJ!).trans (m2 f0 (by rw[u4];simpa using Ne.symm e) aJ!)) ((n3 q0 aJ_).trans (m2 q0 aJ_ (by rw[u5];simpa using Ne.symm e)))
     .obtain⟨r',f',p',v1,v2,v3,v4,v5⟩:=hA.row y hy;refine⟨r',f',p',v1,?_,v3,v4,v5⟩;rw[a1n λz=>e' xo!];exact v2.keep xt! (aw f' cJ! (by rw[v4];simpa using Ne.symm e) cJ! (by rw[v4];simpa using Ne.symm e') cJ!) (aw p' cK! cK! (by rw[v5];simpa using Ne.symm e) cK! (by rw[v5];simpa using Ne.symm e'))
   .intro y hy;obtain⟨r',f',p',v1,v2,v3,v4,v5⟩:=hA.txt y hy;exact⟨r',f',p',v1,v2.keep xt! (aw f' cJ! cJ! cJ! cJ! cJ!) (aw p' cK! cK! cK! cK! cK!),v3,v4,v5⟩
   .intro y hy;obtain⟨q,v1,v2,v3⟩:=hA.num y hy;exact⟨q,v1,(aw q bF_ bF_ bF_ bF_ bF_).trans v2,v3⟩
   .obtain⟨u,v,e,rfl,_⟩:=hg;have b:=(xq!).length_le;rw[e]at b;simp at b ⊢;omega
   .intro c hc;by_cases y0:c=a1
    .rw[y0,mup_same];simp
    .rw[mup_ne y0];by_cases y1:c=f
     .rw[y1];exact R2.live.2.1
     .by_cases y2:c=p
      .rw[y2];exact R2.live.2.2
      .rw[K2 c y1 y2];by_cases y3:c=f0
       .rw[y3];exact R1.live.2.1
       .by_cases y4:c=q0
        .rw[y4];exact R1.live.2.2
        .rw[K1 c y3 y4];exact hA.live c hc
  simpa[Cf,wl,Ay,Gv,Ef,Aa,qg,oF1,Lf,d21,cu,L1]using fin
end
end K24
namespace K24
open PySem L2 DL
nonrec def Au.nd(t:Au):Prop:=[t.A0,t.A5,t.A6,t.A7,t.A8,t.A9,t.B0,t.B1,t.B2].Nodup
def Lw(c:Nat):Bool:=decide (32<=c)&&decide (c<=126)&&!(c==37)
def Ug(s:Str):Bool:=decide (aB_<=1000)&&s.cps.toList.all Lw
def c9r(a c:Nat):Sc ⟨#[a]⟩ aq_=decide (a<=c):=by
 unfold Sc;simp only[List.cons_lt_cons_iff,List.not_lt_nil,and_false,KW];by_cases h:c<a
 .simp[h]
 .simp[h];omega
def b6x:(" ":Str)=⟨#[32]⟩:=by decide+kernel
def b6w:("~":Str)=⟨#[126]⟩:=by decide+kernel
def d0i(c:Nat):He [gO_]=some (.bl (Lw c)):=by
 push_cast[He,Sn,Yu,b6x,b6w,c9r,Str.length,Lw]
 by_cases Y:32<=c<;>by_cases L:c<=126<;>simp[Y,L];rw[LS];simp;omega
def yQ(ρ:Ae)(oo:ρ=cK_):∀(cs:k_),cs.all Lw=true->
  Gc E! a3_ iz! ρ (cs.map λc=>.str aq_)=some kg!
 |[],_=>rfl
 |c::cs,h=>by
  rw[NI,IZ]at h;have ih:=yQ ρ oo cs h.2;subst oo;simp only[IA,Gc,ih];simp[Bd,f1,Ac,Aa,Ag,d0i,h.1]
def yV:∀(cs:k_),Nn xv_=some xw!
 |[]=>rfl
 |c::cs=>by simp only[IA,Nn,yV cs,OP]
def a5d(a b:Str):En (.str a) (.str b)=f1_:=by unfold En;rfl
def c6g(a b:Int):En (.int a) (.int b)=f1_:=by unfold En;rfl
def a9p(s:Str):∀xs:List Str,xx!=xs.any (·==s)
 |[]=>rfl
 |x::xs=>by rw[IA,MB,MB,a9p s xs,a5d]
def c5w(s:Str)(xs:q!):Vf false aT! (.tup kh!)=some (.bl (xs.any (·==s))):=by
 have h:(kh!).all Ky=true:=by simp[LG,Ky]
 show(if Ky aT!&&(kh!).all Ky then some (D.bl xx!)else none)=_;rw[h,a9p];rfl
def uT:(Str.ofString "put"==Str.ofString "undo")=false:=by decide+kernel
def uU:(Str.ofString "put"==Str.ofString "redo")=false:=by decide+kernel
def jG:(Str.ofString "move"==Str.ofString "put")=false:=by decide+kernel
def a4m:(Str.ofString "move"==Str.ofString "undo")=false:=by decide+kernel
def a4n:(Str.ofString "move"==Str.ofString "redo")=false:=by decide+kernel
def jH:(Str.ofString "drop"==Str.ofString "put")=false:=by decide+kernel
def iK:(Str.ofString "drop"==Str.ofString "move")=false:=by decide+kernel
def a4o:(Str.ofString "drop"==Str.ofString "undo")=false:=by decide+kernel
def a4p:(Str.ofString "drop"==Str.ofString "redo")=false:=by decide+kernel
def kW:(Str.ofString "write"==Str.ofString "put")=false:=by decide+kernel
def jQ:(Str.ofString "write"==Str.ofString "move")=false:=by decide+kernel
def jR:(Str.ofString "write"==Str.ofString "drop")=false:=by decide+kernel
def a4k:(Str.ofString "write"==Str.ofString "cut")=false:=by decide+kernel
def a4j:(Str.ofString "write"==Str.ofString "set")=false:=by decide+kernel
def zP:(Str.ofString "write"==Str.ofString "undo")=false:=by decide+kernel
def zQ:(Str.ofString "write"==Str.ofString "redo")=false:=by decide+kernel
def pK:(Str.ofString "cut"==Str.ofString "put")=false:=by decide+kernel
def mX:(Str.ofString "cut"==Str.ofString "move")=false:=by decide+kernel
def mY:(Str.ofString "cut"==Str.ofString "drop")=false:=by decide+kernel
def kY:(Str.ofString "cut"==Str.ofString "write")=false:=by decide+kernel
def b1s:(Str.ofString "cut"==Str.ofString "set")=false:=by decide+kernel
def a8c:(Str.ofString "cut"==Str.ofString "undo")=false:=by decide+kernel
def a8d:(Str.ofString "cut"==Str.ofString "redo")=false:=by decide+kernel
def pI:(Str.ofString "set"==Str.ofString "put")=false:=by decide+kernel
def mV:(Str.ofString "set"==Str.ofString "move")=false:=by decide+kernel
def mW:(Str.ofString "set"==Str.ofString "drop")=false:=by decide+kernel
def kX:(Str.ofString "set"==Str.ofString "write")=false:=by decide+kernel
def pJ:(Str.ofString "set"==Str.ofString "cut")=false:=by decide+kernel
def a7z:(Str.ofString "set"==Str.ofString "undo")=false:=by decide+kernel
def a8a:(Str.ofString "set"==Str.ofString "redo")=false:=by decide+kernel
def uP:(Str.ofString "undo"==Str.ofString "put")=false:=by decide+kernel
def qU:(Str.ofString "undo"==Str.ofString "move")=false:=by decide+kernel
def qV:(Str.ofString "undo"==Str.ofString "drop")=false:=by decide+kernel
def oS:(Str.ofString "undo"==Str.ofString "write")=false:=by decide+kernel
def uQ:(Str.ofString "undo"==Str.ofString "cut")=false:=by decide+kernel
def a7y:(Str.ofString "undo"==Str.ofString "set")=false:=by decide+kernel
def uR:(Str.ofString "redo"==Str.ofString "put")=false:=by decide+kernel
def qW:(Str.ofString "redo"==Str.ofString "move")=false:=by decide+kernel
def qX:(Str.ofString "redo"==Str.ofString "drop")=false:=by decide+kernel
def oT:(Str.ofString "redo"==Str.ofString "write")=false:=by decide+kernel
def uS:(Str.ofString "redo"==Str.ofString "cut")=false:=by decide+kernel
def a8b:(Str.ofString "redo"==Str.ofString "set")=false:=by decide+kernel
def a4l:(Str.ofString "redo"==Str.ofString "undo")=false:=by decide+kernel
def gS(a b:Str):Ba (.str a) (.str b)=some (.bl f1_):=by simp[Ba,Bi,Ii,a5d]
def in2(k a b:Str):Vf false U! o4_=some (.bl o5!):=by have:=c5w k ap_;simpa only[IA,MY,MB,List.any_nil,Bool.or_false]using this
def vX(a b:Int):Ba (.int a) (.int b)=some (.bl f1_):=by simp[Ba,Bi,Ii,c6g]
abbrev scr(ns:w_):D:=.lst ju_
def a5r{α:Type}{xs:P_}{i:Int}(h0:0<=i)(Y:i<l_):∃x,Dc xs i=some x/\x∈xs:=by refine⟨xs[i.toNat]' a!,?_,KR _⟩;unfold Dc Dz;rw[IB h0,IB Y];simp
def c6w(ns:w_)(k:Int):∃c,On [ds!,hs!]=some (.int c):=by
 cases ns with
 |nil=>exact⟨0,by push_cast[On,Tb,scr,Uy]⟩
 |cons n r=>
  have hp:(0:Int)<hs_+1:=by omega
  obtain⟨x,e,J⟩:=a5r (xs:=xA!) (i:=k%(hs_+1)) (LA _ a!) (by simpa using KQ k hp);obtain⟨c,_,rfl⟩:=IH.mp J;refine⟨c,?_⟩;have e':Ak (.lst xA!) (.int (k%(hs_+1)))=some (.int c):=e;simp only[IA]at e';simp[On,Tb,scr,Cj,Bl,sSeq,Gi,Cs,Aa,Uy,f2,f1,Ac,Ag,Bp,By,Dy,hp,e']
def iC(ns:w_){k:Int}:∃m,Bv [ds!,hs!]=some do!/\0<=m/\m<4294967231:=by obtain⟨c,hc⟩:=c6w ns k;refine⟨_,by push_cast[Bv,Xl,hc,Uh];rfl,LA _ b_,KQ _ b_⟩
def nS{n:Int}(h:xs≠[]):∃x,Du [.lst xs,aQ_]=some x/\x∈xs:=by
 have hl:0<l_:=List.length_pos_iff.mpr h;have hp:(0:Int)<jl_:=by omega
 obtain⟨x,e,J⟩:=a5r (xs:=xs) (i:=n%jl_) (LA _ a!) (KQ n hp);refine⟨x,?_,J⟩;have e':Ak T! (.int (n%jl_))=some x:=e;simp[Du,Vy,Cj,Bl,Aa,f2,f1,Ac,Ag,Bp,By,Dy,hp,e',hl]
def qS{bnd:ai!}{q:aT_}(P:Nat->Ae->Prop):∀(ds:c!) (i:Nat) (ρ:Ae),P i ρ->
  (∀(j:Nat) (d:D) (ρ:Ae),ds[j]?=some d->P (i+j) ρ->∃ai bi,bnd d ρ=some ai/\q ai=some (.nx bi)/\P (i+j+1) bi)->
  ∃ρ',Rk bnd q ds ρ=some cS!/\P (i+h!) ρ'
 |[],i,ρ,h,_=>⟨ρ,rfl,h⟩
 |d::ds,i,ρ,h,hs=>by
  obtain⟨ai,bi,e1,e2,L⟩:=hs 0 d ρ rfl h;obtain⟨ρ',e3,h3⟩:=qS P ds a5! bi L λj d ρ hd hp=>by
   have:=hs (j+1) d ρ (by simpa using hd) (by rw[show i+(j+1)=i+1+j by omega];exact hp);rw[show i+(j+1)+1=i+1+j+1 by omega]at this;exact this
  refine⟨ρ',?_,by rw[IE,show i+(ds.length+1)=i+1+ds.length by omega];exact h3⟩;simp[Rk,e1,e2,e3]
def nI{bnd:ai!}{ft:ah!}{fe:e!}{ρ:Ae}(R:D->Prop):∀(ds:c!),(∀d∈ds,∃ai b,bnd d ρ=some ai/\ft ai=some b/\(b=true->∃y,fe ai=some y/\R y))->
  ∃ys,Gc bnd ft fe ρ ds=some ys/\ac_<=h!/\∀y∈ys,R y
 |[],_=>⟨[],rfl,IM _,λy hy=>by cases hy⟩
 |d::ds,h=>by
  obtain⟨ai,b,e1,e2,hy⟩:=h d HP;obtain⟨ys,e3,hl,hr⟩:=nI R ds λx J=>h x aU!
  cases b with
  |false=>exact⟨ys,by simp[Gc,e1,e2,e3],er!,hr⟩
  |true=>
   obtain⟨y,e4,r4⟩:=hy rfl;refine⟨y::ys,by simp[Gc,e1,e2,e3,e4],er!,lp_⟩;obtain rfl|hz:=HN.mp hz
   .exact r4
   .exact hr z hz
def vA{bnd:ai!}{fe:e!}{ρ:Ae}:∀{ds ys:c!},Gc bnd a3_ fe ρ ds=some ys->ac_=h!
 |[],ys,e=>by cases e;rfl
 |d::ds,ys,e=>by
  obtain⟨ai,e1,e⟩:=HJ.mp e;simp only[ML,JT]at e;obtain⟨y,e3,e⟩:=HJ.mp e;obtain⟨zs,e4,rfl⟩:=HU.mp e;simp[vA e4]
def NameG(x:D):Prop:=∃a b,x=.tup vS!/\0<=a/\a<16/\1<=b/\b<=2000
def Cy(x:D):Prop:=x=.str "root"\/x=.str "bin"\/NameG x
def Mz(x:D):Prop:=x=.non\/NameG x
def Xt(x:D):Prop:=∃a b c,x=.tup vS_/\0<=a/\a<16/\1<=b/\b<=2000/\0<=c/\c<=15
def La(x:D):Prop:=x=.non\/Xt x
inductive DG:D->Prop
 |put {a b:D}:Cy a->Mz b->DG er_
 |move {a b c:D}:Cy a->Cy b->Mz c->DG ht_
 |drop {a:D}:Cy a->DG hu!
 |write {a b:D} {s:Str}:Cy a->La b->Ug s=true->1<=aB_->aB_<=16->DG fw!
 |cut {a:D} {x y z m:Int}:Cy a->Xt ej_->1<=m->z+m<=16->DG es!
 |set {a:D} {p n:Int}:Cy a->0<=p->p<=3->n.natAbs<10 ^ 60->DG (.tup [kn_,a,.int p,aQ_])
 |undo {a:D}:NameG a->DG (.tup [et!,a])
 |redo {a:D}:NameG a->DG (.tup [ko_,a])
def Vi(o:D):Prop:=∃h n tm d,o=.tup [aS!,aQ_,.int tm,d]/\0<=h/\h<16/\1<=n/\n<=2000/\DG d
def a9b(h:DG d):∃k r,d=.tup cj!/\(k="write"->∃a b s,r=[a,b,en!]/\aB_<=16):=by
 cases h with
 |write _ _ _ _ h5=>exact⟨_,_,rfl,λ_=>⟨_,_,_,rfl,h5⟩⟩
 |_=>exact⟨_,_,rfl,λz=>absurd z k!⟩
def c1u{ops:c!}(h:kp!)(hl:kq!):∃its,Md [.lst ops]=some o8!/\3<=gS!/\gS!<=200/\∀x∈its,Cy x:=by
 obtain⟨ys,e,l,hr⟩:=nI (ρ:=cK_) (bnd:=Bd 0) (ft:=fT nc_) (fe:=Aw gE_)
  (xG_) ops (by
   intro o ho;obtain⟨h',n,tm,d,rfl,b1,b2,b3,b4,hd⟩:=h o ho;obtain⟨k,r,rfl,_⟩:=a9b hd;refine⟨_,_,rfl,by push_cast[gS];rfl,λ_=>⟨_,by push_cast,xH!⟩⟩)
 have hc:Hw 1 [] eY_ E! (fT nc_) (Aw gE_) [aC!]=some ba_:=by
  show xI_;rw[ds_,e];rfl
 have a1:An (.lst [fw_]) ba_=some xJ!:=by
  show(if 1+ac_<=big then some (D.lst ([fw_]++ys))else none)=_;rw[ds_];rfl
 have a2:An xJ! (.lst kr_)=some (.lst (.str "root"::(ys++kr_))):=by
  show(if ac_+1+2<=big then some (D.lst (.str "root"::ys++kr_))else none)=_;rw[ds_];rfl
 refine⟨.str "root"::(ys++kr_),by simp[Md,Uc,Cj,Bl,f2,fC,hc,a1,a2],H!,er!,aG!⟩;simp at J;obtain rfl|J|rfl|rfl:=J
 .exact c0!
 .exact .inr (.inr (hr x J))
 .exact .inr G!
 .exact .inr xM!
def b8i{ops:c!}(h:kp!)(hl:kq!):∃ss,Mc [.lst ops]=some (.lst ss)/\ss≠[]/\∀x∈ss,La x:=by
 let P:Nat->Ae->Prop:=λi ρ=>∃c8 x y,ρ=[aC!,pa!,x,y]/\c8≠[]/\pa_<=2+16*i/\∀z∈c8,La z
 obtain⟨ρ',e,c8,x,y,rfl,f0,_,hf⟩:=qS (bnd:=Cg 2) (q:=Gi tD_ tG_ Cs)
  P ops 0 [aC!,some (.lst [.non,.tup [.int 9,.int 9,.int 3]]),none,none] ⟨_,_,_,rfl,by simp,by simp,by
   intro z hz;simp at hz;obtain rfl|rfl:=hz
   .exact c0!
   .exact .inr ⟨9,9,3,rfl,R!,R!,R!,R!,R!,R!⟩⟩ (by
  rintro j d ρ hd ⟨c8,x,y,rfl,f0,fl,hf⟩;have hj:j<kp_:=(IL.mp hd).1;obtain⟨h',n,tm,d',rfl,b1,b2,b3,b4,hdg⟩:=h d (NP hd);obtain⟨k,r,rfl,hw⟩:=a9b hdg;by_cases hk:k="write"
  .subst hk;obtain⟨a,b,s,rfl,s16⟩:=hw rfl;have uy:aB_<=big:=by unfold big;omega
   let P2:Nat->Ae->Prop:=λi ρ=>∃c8 y,ρ=xN_/\c8≠[]/\pa_<=2+16*(0+j)+i/\∀z∈c8,La z
   obtain⟨bi,e2,WZ,y2,rfl,f20,f2l,y9⟩:=qS (bnd:=Cg 3) (q:=Px 1 tG!) P2 (Ds aB_) 0
    (xN_) ⟨c8,y,rfl,f0,fl,hf⟩ (by
     rintro i d ρ hd ⟨c8,y,rfl,f0,fl,hf⟩;unfold Ds at hd;rw[JC]at hd;obtain⟨i',df,rfl⟩:=HU.mp hd;obtain⟨am,he⟩:=IL.mp df;subst he;rw[MD]at am;have hb:pa_<big:=by unfold big;omega
     refine⟨_,_,rfl,by push_cast[Px,hb];rfl,c8++[.tup [.int h',aQ_,fx_]],_,rfl,H!,er!,lp_⟩;obtain hz|hz:=HV.mp hz
     .exact hf z hz
     .simp at hz;subst hz;exact .inr ⟨_,_,_,rfl,b1,b2,b3,b4,v!,v!⟩)
   have hr:-1000<=ks!/\ks!<=100000:=by omega
   refine⟨_,[aC!,some (.lst WZ),xN!,y2],rfl,by push_cast[gS,Rv,Eu,uy,hr,e2],WZ,_,_,rfl,f20,?_,y9⟩;simp[Ds]at f2l;omega
  .refine⟨_,[aC!,pa!,some (.tup [.int h',aQ_,.int tm,.tup cj!]),y],rfl,by push_cast[gS,hk],c8,_,_,rfl,f0,v!,hf⟩)
 refine⟨c8,?_,f0,hf⟩;simp[Mc,Ua,Mt,Cj,sSeq,Ac,Ag,fC,Rv,Ep,Aa,Bl,e]
abbrev letters:Str:=" abcXYZ.,;!019~[]\\\"'|{}<>@#$&*()-+/=_^:?`"
def uM:pb!=41:=by decide+kernel
def b1r:letters.cps.toList.all Lw=true:=by decide+kernel
def b7l:(dt!).cps=#[]:=by decide+kernel
def a1h:(dt!).length=0:=by decide+kernel
def Pe(c:Nat):D:=.str aq_
def a6c:∀(xs:c!),(∀x∈xs,∃c,x=Pe c/\Lw c=true)->∃cs:List Nat,xs=cs.map Pe/\cs.all Lw=true
 |[],_=>xP_
 |x::xs,h=>by
  obtain⟨c,rfl,hc⟩:=h x HP;obtain⟨cs,rfl,p7⟩:=a6c xs λy hy=>h y ea_
  exact⟨c::cs,rfl,by simp only[NI,hc,p7,MJ]⟩
def rZ:∀(cs:k_),Ql kt!=some hv_
 |[]=>rfl
 |c::cs=>by simp only[IA,Pe,Ql];rw[show List.map Pe cs=List.map Pe cs from rfl,rZ cs];rfl
def a8r:∀(cs:k_) (acc:Array Nat),(hv_).foldl (λacc p=>acc++(dt!).cps++p.cps) acc=acc++cs.toArray
 |[],acc=>by simp
 |c::cs,acc=>by
  rw[IA,OQ,a8r cs,b7l];simp
def c1s(cs:k_):Txt.join dt! hv_=pc_:=by
 unfold Txt.join Builtin.Str.glued;cases cs with
 |nil=>rfl
 |cons c cs=>
  simp only[IA,List.drop_succ_cons,List.drop_zero,List.headD_cons];rw[a8r];simp
def a2c:∀(cs:k_),((hv_).map (·.length)).sum=cH_
 |[]=>rfl
 |c::cs=>by
  have ih:=a2c cs;simp only[IA,List.sum_cons,IE];rw[ih];show 1+cH_=_;omega
def c3u{n most:Int}(Y:1<=most)(h16:most<=16):∃s,Ol [aQ_,.int most]=some aT!/\Ug s=true/\1<=aB_/\aB_<=16:=by
 have WY:0<=n%most:=LA _ a!;have xp:n%most<most:=KQ _ a!;obtain⟨N,hN⟩:∃N:Nat,(N:Int)=1+n%most:=⟨(1+n%most).toNat,v!⟩;obtain⟨ys,e,l,hr⟩:=nI (ρ:=xU!) (bnd:=Bd 0) (ft:=pd!) (fe:=f2 Ak x! tH_)
  (λy=>∃c,y=Pe c/\Lw c=true) fy! (by
   intro d hd;obtain⟨i,hi,rfl⟩:=IH.mp hd;have df:=NT.mp hi;have z1:(0:Int)<1+3*(i:Int):=by omega
   have z2:1+3*(i:Int)<1073741824:=by omega
   have ap:pb!<=big:=by rw[uM];decide
   have hsz:((xV!:Nat):Int)=41:=by
    have:xV!=41:=by rw[<-uM];simp[Str.length]
    omega
   obtain⟨c,ec,hc⟩:=a5r (xs:=letters.cps.toList) (i:=n / (1+3*(i:Int))%41) (LA _ b_) (by rw[hsz];exact KQ _ b_);have nv:Ak qr! (.int (n / (1+3*(i:Int))%41))=some (Pe c):=by
    show(if pb!<=big then(Dc letters.cps.toList _).map _ else none)=_;rw[IB ap,ec];rfl
   refine⟨_,true,rfl,rfl,λ_=>⟨Pe c,?_,c,rfl,LG.mp b1r c hc⟩⟩;simp[Bd,f2,Aa,fC,An,Eh,Dy,Uh,Ck,By,z1,z2,nv])
 have l2:=vA e;obtain⟨cs,rfl,p7⟩:=a6c ys hr;have b9:cH_=N:=by simpa[Ds]using l2
 have hrng:-1000<=(N:Int)/\(N:Int)<=100000:=by omega
 have hc:Hw 1 [0,2] (Eu ne_) E! a3_ tI! xW_=some (.lst kt!):=by
  have hi:Eu ne_ xW_=some fy!:=by
   simp[Eu,f2,fC,Aa,By,Dy,show 0<most by omega,An,<-hN,hrng]
  unfold Hw;rw[hi];show(if(fy!).length<=big then Option.map D.lst (Gc _ _ _ xU! fy!)else none)=_;rw[IB (by simp[Ds,big];omega),e];rfl
 have hj:Nk i3_ (.lst kt!)=some (.str pc_):=by
  unfold Nk;simp only[rZ,ML,a2c,IK,a1h,Nat.mul_zero,Nat.add_zero,c1s];rw[ds_]
 refine⟨pc_,?_,?_,?_,?_⟩
 .simp[Ol,Vw,Cj,sSeq,Cp,fC,Bl,Xp,hc,hj]
 .simp only[Ug,Str.length,HS,p7,Bool.and_true,JA];omega
 .simp only[Str.length,HS];omega
 .simp only[Str.length,HS];omega
def HE:Ae->Option Fl:=tI_
def HD:Ae->Option Fl:=tJ!
def HC:Ae->Option Fl:=tK_
def HB:Ae->Option Fl:=tL_
def GF:Ae->Option Fl:=tM!
def HA:Ae->Option Fl:=tM_
def GZ:Ae->Option Fl:=tP_
def GY:Ae->Option Fl:=tR!
def GX:Ae->Option Fl:=tT_
def GW:Ae->Option Fl:=tV!
def CP:Ae->Option Fl:=tW_
def CO:Ae->Option Fl:=tY_
def AU:Ae->Option Fl:=t1!
def Yz:Ae->Option Fl:=t4!
nonrec def dq14:Ae->Option Fl:=t5!
nonrec def dq15:Ae->Option Fl:=t5_
def DP:Ae->Option Fl:=(sSeq GY (sSeq GX (sSeq GW (sSeq CP x0_))))
def b6g:Qg=(sSeq HE (sSeq HD (sSeq HC (sSeq HB (sSeq GF (sSeq HA (sSeq GZ DP))))))):=rfl
def bK{q1 q2:aT_}{ρ ρ':Ae}(h:q1 ρ=some cS!):sSeq q1 q2 ρ=q2 ρ':=by simp[sSeq,h]
def oX{q1 q2:aT_}{ρ:Ae}(h:q1 ρ=some a0!):sSeq q1 q2 ρ=some a0!:=by simp[sSeq,h]
def iN{f:e!}{ρ:Ae}{i:Nat}(h:cg!):Cp i f ρ=some qe_:=by simp[Cp,h]
abbrev kinds:List D:=[ht!,ht!,ht!,o5_,o5_,kn!,kn!,.str "cut",kn_,et!,ko_,o6!]
def KindOk(k:Str):Prop:=k="put"\/k="move"\/k="write"\/k="cut"\/k="set"\/k="undo"\/k="redo"\/k="drop"
def a9h{α:Type}{xs:P_}{lo hi:a8_}{x:α}(h:x∈Dk xs lo hi):x∈xs:=List.mem_of_mem_drop (List.mem_of_mem_take h)
def Rj:D->D
 |.str _=>.non
 |d=>d
def a8i(h:Cy d\/d=.non):(Ft "str" d=some true/\Rj d=.non)\/(Ft "str" d=some false/\Rj d=d/\Mz d):=by
 rcases h with(rfl|rfl|⟨a,b,rfl,h⟩)|rfl
 .exact .inl bi_
 .exact .inl bi_
 .exact .inr ⟨rfl,rfl,.inr ⟨a,b,rfl,h⟩⟩
 .exact .inr ⟨rfl,rfl,c0!⟩
def d0q(ns:w_){base most:Int}{ops:c!}(h:kp!)(hl:kq!):∃m0 its item je k,0<=m0/\its≠[]/\(∀x∈its,Cy x)/\Cy item/\Mz je/\KindOk k/\
  Qg x2_=DP pe!:=by
 obtain⟨m0,e0,p0,_⟩:=iC ns (k:=base);obtain⟨m1,e1,_,_⟩:=iC ns (k:=base+1);obtain⟨m2,e2,_,_⟩:=iC ns (k:=base+2);obtain⟨its,ei,i3,i200,oz⟩:=c1u h hl;have xq:its≠[]:=by intro z;subst z;simp at i3
 have rl:x6!≠[]:=by
  intro z;have z2:=congrArg List.length z;simp[Dk,HT.sIx]at z2;omega
 have b9:(x9!).length+(x9_).length<=big:=by
  simp[Dk,HT.sIx,big];omega
 obtain⟨item,ep,mp⟩:=nS (n:=m1) rl;have pb:Cy item:=by
  obtain z|z:=HV.mp mp
  .exact oz _ (a9h z)
  .exact oz _ (a9h z)
 have a1:An (.lst x9!) (.lst x9_)=some (.lst x6!):=by
  show hx!;rw[IB b9]
 have a2:An o8! (.lst i4!)=some (.lst (its++i4!)):=by
  show(if gS!+2<=big then _ else none)=_;rw[ds_]
 obtain⟨oth,eo,mo⟩:=nS (n:=m2) (xs:=its++i4!) d!;have vd:Cy oth\/oth=.non:=by
  obtain z|z:=HV.mp mo
  .exact .inl (oz _ z)
  .simp at z;exact .inr z
 have fq:Mz (Rj oth):=by
  obtain⟨_,z⟩|⟨_,z,y⟩:=a8i vd
  .rw[z];exact .inl rfl
  .rw[z];exact y
 obtain⟨kd,ek,mk⟩:=a5r (xs:=kinds) (i:=m0%12) (LA _ b_) (by show _<(12:Int);exact KQ _ b_);obtain⟨k,rfl,hk⟩:∃k,kd=.str k/\KindOk k:=by
  simp[kinds]at mk;unfold KindOk;obtain rfl|rfl|rfl|rfl|rfl|rfl|rfl|rfl:=mk<;>exact⟨_,rfl,H!⟩
 have ek':Ak (.lst kinds) (.int (m0%12))=some U!:=ek;refine⟨m0,its,item,Rj oth,k,p0,xq,oz,pb,fq,hk,?_⟩;rw[b6g];rw[bK (ρ':=[aa!,at!,aC!,br_,bW!,none,none,none,none,none,none,none]) (iN (by simp[f1,Ac,Aa,Ag,e0]))];rw[bK (ρ':=[aa!,at!,aC!,br_,bW!,cj_,none,none,none,none,none,none]) (iN (by simp[f1,Ac,Aa,Ag,ei]))];rw[bK (ρ':=[aa!,at!,aC!,br_,bW!,cj_,cL_,none,none,none,none,none]) (iN (by
  have b1:An ky! aN!=some (.int (base+1)):=rfl;simp[f1,Ac,Aa,Ag,f2,Do,Bj,Ap,Aq,fC,a1,b1,e1,ep]))]
 rw[bK (ρ':=[aa!,at!,aC!,br_,bW!,cj_,cL_,some oth,none,none,none,none]) (iN (by
  have b1:An ky! bx!=some (.int (base+2)):=rfl;simp[f1,Ac,Aa,Ag,f2,fC,a2,b1,e2,eo]))]
 rw[bK (ρ':=[aa!,at!,aC!,br_,bW!,cj_,cL_,pe_,none,none,none,none]) (by
  obtain⟨z1,z2⟩|⟨z1,z2,_⟩:=a8i vd<;>simp[GF,Gi,fT,Em,Aa,z1,z2,Cs,Cp,fC])]
 rw[bK (ρ':=[aa!,at!,aC!,br_,bW!,cj_,cL_,pe_,fy_,none,none,none]) (iN fi_)];rw[bK (ρ':=[aa!,at!,aC!,br_,bW!,cj_,cL_,pe_,fy_,some U!,none,none]) (iN (by simp[f2,Aa,fC,By,Dy,ek']))]
section
variable{ρ:Ae}
def b7g{c:ah!}{a b:aT_}(h:c ρ=some true):Gi c a b ρ=a ρ:=by unfold Gi;rw[h];rfl
def iE{c:ah!}{a:aT_}(h:c ρ=some false):Gi c a Cs ρ=some aK!:=by unfold Gi;rw[h];rfl
def rH{i:Nat}{b:Bool}(h:Aa i ρ=some U!)(e:(k==s)=b):fT (f2 Ba (Aa i) (fC aT!)) ρ=some b:=by unfold fT f2 fC;rw[h];show(Ba U! aT!).bind _=_;rw[gS,e];rfl
def bN{f:e!}{fs:as!}(h:cg!)(g:hx_):Ac f fs ρ=some ee!:=by unfold Ac;rw[h,g];rfl
def pB{fs:as!}{ds:c!}(h:hx_)(hl:yd!):Bl (Aw fs) ρ=some (.rt dm!):=by unfold Bl Aw;rw[h];show Option.map _ yd_=_;rw[ye!];rfl
def lQ{g:ah_}{fs:as!}(h:hx_)(e:g ds=some d):f1 g fs ρ=some d:=by unfold f1;rw[h];exact e
def dW{g:bd!}{f1 f3:e!}(h:f1 ρ=some x)(k:f3 ρ=some y)(e:g x y=some d):f2 g f1 f3 ρ=some d:=by unfold f2;rw[h,k];exact e
def a7p{ns:w_}{base j m:Int}(h:Aa 0 ρ=some (scr ns))(g:Aa 1 ρ=some ky!)(e:Bv [ds!,.int (base+j)]=some do!):f1 Bv (Ac m_ (Ac (f2 An v_ (fC cH!)) Ag)) ρ=some do!:=
 lQ (bN h (bN (dW g rfl rfl) rfl)) e
def b9o{m:Int}{f h:e!}(a:f ρ=some T!)(b:h ρ=some do!)(e:Du [.lst xs,ek_]=some p):f1 Du (Ac f (Ac h Ag)) ρ=some p:=
 lQ (bN a (bN b rfl)) e
end
def tH{i j:Int}(h:0<j):By bw_ cH!=some (.int (i%j)):=by show(if decide (0<j)=true then _ else _)=_;rw[IB (IV h)]
def c6l(ns:w_){base most:Int}{ops:c!}(h:kp!)(hl:kq!)(xp:1<=most)(hm16:most<=16):∃d,Mr yg_=some d/\DG d:=by
 obtain⟨m0,its,item,je,k,p0,xq,oz,pb,vd,hk,hA⟩:=d0q ns (base:=base) (most:=most) h hl;have fin:∀d,DP pe!=some a0!->Mr yg_=some d:=λd e=>by
  show(match Qg x2_ with|some (.rt d)=>some d|some (.nx _)=>some .non|none=>none)=_;rw[hA,e]
 clear hA;obtain⟨m1,e1,_,_⟩:=iC ns (k:=base+1);obtain⟨m3,e3,_,_⟩:=iC ns (k:=base+3);obtain⟨m4,e4,_,_⟩:=iC ns (k:=base+4);obtain⟨m5,e5,_,_⟩:=iC ns (k:=base+5);obtain⟨p1,ep1,mp1⟩:=nS (n:=m1) xq;obtain⟨p3,ep3,mp3⟩:=nS (n:=m3) xq;obtain⟨ss,es,hs0,hss⟩:=b8i h hl;obtain⟨sg,eg,mg⟩:=nS (n:=m4) hs0;have XA:=hss _ mg;obtain⟨tx,et,ht1,ht0,ht2⟩:=c3u (n:=m5) xp hm16;have ve:∀{k:Str},CP pe!=some (.nx pg!):=
  iN (lQ (bN (lQ hy_ es) (bN (a7p rfl rfl e4) rfl)) eg)
 have XB:∀{k:Str},yh!=true->Yz pg!=some (.rt yh_):=λ{k} e=>
  (b7g (by unfold fT;rw[yi!,e];rfl)).trans (pB rfl rfl)
 have XC:DG yh_:=.set pb a! a! a!;obtain⟨nm,nn,hun⟩:∃nm,NameG nm/\∀{k:Str},("put"==k)=false->sSeq dq14 dq15 [some (scr ns),some (.int base),some (.lst ops),some (.int most),some (.int m0),some (.lst its),some item,some je,some (.lst kinds),some (.str k),some sg,none]=some (.rt (.tup [.str k,nm])):=by
  obtain⟨ys,e,l,hr⟩:=nI (ρ:=cK_) (bnd:=Bd 0) (ft:=pd!) (fe:=Aw gE_)
   (xG_) ops (by
    intro o ho;obtain⟨h',n,tm,d,rfl,b1,b2,b3,b4,_⟩:=h o ho;exact⟨_,true,rfl,rfl,λ_=>⟨_,rfl,xH!⟩⟩)
  have a1:An ba_ (.lst ph_)=some (.lst (ys++ph_)):=by
   show(if ac_+1<=big then _ else none)=_;rw[ds_]
  obtain⟨nm,en,mn⟩:=nS (n:=m1) (xs:=ys++ph_) d!;refine⟨nm,?_,λ{k} _=>(bK (iN (dW ?_ rfl a1))).trans (pB (bN rfl (bN (b9o rfl yk! en) rfl)) rfl)⟩
  .obtain z|z:=HV.mp mn
   .exact hr _ z
   .simp at z;subst z;exact⟨_,_,rfl,R!,R!,v!,v!⟩
  .show xI_;rw[ds_,e];rfl
 have xr:∀{k:Str},("put"==k)=false->(k=="write")=false->(k=="cut")=false->yh!=false->(x0_) pg!=some (.rt (.tup [.str k,nm])):=λ{k} e0 w c s=>
  (bK (iE (rH rfl w))).trans ((bK (iE (by unfold Cz;rw[rH rfl c];rfl))).trans ((bK (iE (by unfold fT;rw[yi!,s];rfl))).trans (hun e0)))
 obtain rfl|rfl|rfl|rfl|rfl|rfl|rfl|rfl:=hk
 .exact⟨_,fin _ (oX ((kA!).trans (pB (bN rfl (bN (b9o rfl yk! ep1) rfl)) rfl))),.put (oz _ mp1) vd⟩
 .exact⟨_,fin _ ((bK (iE (rH rfl jG))).trans (oX ((kA!).trans (pB (bN rfl (bN rfl (bN (b9o rfl (a7p rfl rfl e3) ep3) rfl))) rfl)))),.move pb (oz _ mp3) vd⟩
 all_goals first|(refine⟨_,fin _ ((bK (iE (rH rfl jH))).trans ((bK (iE (rH rfl iK))).trans (oX ((kA!).trans (pB rfl rfl))))),.drop pb⟩;done)|skip
 .exact⟨_,fin _ ((bK (iE (rH rfl kW))).trans ((bK (iE (rH rfl jQ))).trans ((bK (iE (rH rfl jR))).trans ((hA_).trans
   (oX ((kA!).trans (pB (bN rfl (bN rfl (bN rfl (bN (lQ (bN (a7p rfl rfl e5) rfl) et) rfl)))) rfl))))))),.write pb XA ht1 ht0 ht2⟩
 .have go:DP [aa!,at!,aC!,br_,bW!,cj_,cL_,lm!,fy_,some dP!,none,none]=sSeq AU xZ_ [aa!,at!,aC!,br_,bW!,cj_,cL_,lm!,fy_,some dP!,some sg,none]:=(bK (iE (rH rfl pK))).trans ((bK (iE (rH rfl mX))).trans ((bK (iE (rH rfl mY))).trans ((hA_).trans (bK (iE (rH rfl kY))))));obtain rfl|⟨a,b,c,rfl,Y,L,h3,h4,c0,c15⟩:=XA
  .exact⟨_,fin _ (go.trans ((bK (iE ys!)).trans (oX (XB rfl)))),XC⟩
  .have hc:0<16 - c:=by omega
   have q1:0<=m0 / 12%(16 - c):=LA _ a!;have q2:m0 / 12%(16 - c)<16 - c:=KQ _ hc;exact⟨_,fin _ (go.trans (oX ((b7g ys!).trans (pB (bN rfl (bN rfl (bN rfl (bN (dW rfl (dW rfl rfl (tH hc)) rfl) rfl)))) rfl)))),.cut pb ⟨a,b,c,rfl,Y,L,h3,h4,c0,c15⟩ a! a!⟩
 .exact⟨_,fin _ ((bK (iE (rH rfl pI))).trans ((bK (iE (rH rfl mV))).trans ((bK (iE (rH rfl mW))).trans ((hA_).trans ((bK (iE (rH rfl kX))).trans ((bK (iE (by unfold Cz;rw[rH rfl pJ];rfl))).trans (oX (XB k!)))))))),XC⟩
 .exact⟨_,fin _ ((bK (iE (rH rfl uP))).trans ((bK (iE (rH rfl qU))).trans ((bK (iE (rH rfl qV))).trans ((hA_).trans (xr uT oS uQ k!))))),.undo nn⟩
 .exact⟨_,fin _ ((bK (iE (rH rfl uR))).trans ((bK (iE (rH rfl qW))).trans ((bK (iE (rH rfl qX))).trans ((hA_).trans (xr uU oT uS k!))))),.redo nn⟩
def fV(h:Cy d):Ei d=true:=by obtain rfl|rfl|⟨a,b,rfl,_⟩:=h<;>simp[Ei,Fj]
def a0a(h:Mz d):Ei d=true:=by obtain rfl|⟨a,b,rfl,_⟩:=h<;>simp[Ei,Fj]
def xI(h:NameG d):Ei d=true:=by obtain⟨a,b,rfl,_⟩:=h;simp[Ei,Fj]
def b0d(h:La d):Ei d=true:=by obtain rfl|⟨a,b,c,rfl,_⟩:=h<;>simp[Ei,Fj]
def b2c(h:DG d):Ei d=true:=by
 cases h with
 |put Y L=>simp[Ei,Fj,fV Y,a0a L]
 |move Y L h3=>simp[Ei,Fj,fV Y,fV L,a0a h3]
 |drop Y=>simp[Ei,Fj,fV Y]
 |write Y L=>simp[Ei,Fj,fV Y,b0d L]
 |cut Y=>simp[Ei,Fj,fV Y]
 |set Y=>simp[Ei,Fj,fV Y]
 |undo Y=>simp[Ei,Fj,xI Y]
 |redo Y=>simp[Ei,Fj,xI Y]
abbrev Vn:Ae->Option Fl:=(sSeq t9_
 (sSeq ua!
 (sSeq ua_
 (sSeq ub!
 (sSeq uc!
 ue!)))))
end K24
namespace K24
open PySem L2 DL
open Classical
inductive Stp(W:OW)(n:D):D->OW->Prop
 |put {a b:D} {rows':i!}:Cy a->Mz b->Qe W.rows n cI_ b rows'->Stp W n er_ bc!
 |mvY {a b c:D} {rows':i!}:Cy a->Cy b->Mz c->yw!->Qe W.rows a b c rows'->Stp W n ht_ {W with rows:=rows'}
 |mvN {a b c:D}:Cy a->Cy b->Mz c->¬yw!->Stp W n ht_ W
 |drY {a:D} {rows':i!}:Cy a->yw_->Qe W.rows a binn .non rows'->Stp W n hu! {W with rows:=rows'}
 |drN {a:D}:Cy a->¬yw_->Stp W n hu! W
 |wrt {a b:D} {s:Str} {h m:Int}:Cy a->La b->aB_<=16->n=.tup bW_->Stp W n fw! (if a∈W.its then setT W a yx! else W)
 |cut {a:D} {x y z m:Int}:Cy a->0<=z->1<=m->z+m<=16->Stp W n (.tup [.str "cut",a,.tup [.int x,.int y,.int z],.int m]) (if a∈W.its then setT W a (cutT ((List.range m.toNat).map λk=>.tup hf!) au!)else W)
 |set {a:D} {p v:Int}:Cy a->0<=p->p<=3->Stp W n kC! (if a∈W.its then Ss W a kD! else W)
def cQ(h:Cy x):∃k,Db x=some k:=by
 obtain rfl|rfl|⟨a,b,rfl,_⟩:=h
 .exact L!
 .exact L!
 .exact L!
def wL(h:Mz x):∃k,Db x=some k:=by
 obtain rfl|⟨a,b,rfl,_⟩:=h
 .exact L!
 .exact L!
def b5u(h:La x):∃k,Db x=some k:=by
 obtain rfl|⟨a,b,c,rfl,_⟩:=h
 .exact L!
 .exact L!
structure Rs(W:OW)(pre:c!):Prop where
 inv:Bs W
 its:∀x∈W.its,x∈pre
 sgs:∀x∈W.its,∀q∈W.txt x,∃h n k,q.1=.tup yx_/\D.tup W_∈pre
 chr:∀x∈W.its,∀q∈W.txt x,∃c:Nat,q.2.1=.str aq_
section
variable{t:Au}{M:Mh}{o:xT!}{rl:Addr->Nw}{W W':OW}{B:Nat}{R:D->Mh->Prop}{pre:List D}
def pY{h n:Int}{s:Str}{q:fj_}(hq:q∈s.cps.toList.zipIdx.map el!):∃c k:Nat,q=(.tup po_,.str aq_,true):=by obtain⟨⟨c,k⟩,_,rfl⟩:=IH.mp hq;exact⟨c,k,rfl⟩
def b3b(h n:Int):∀(cs:k_) (k0:Nat),(((yy!).map c_)).Nodup/\∀k:Nat,k<k0->D.tup po_∉(yy!).map c_
 |[],k0=>by simp
 |c::cs,k0=>by
  obtain⟨Y,L⟩:=b3b h n cs (k0+1);refine⟨IJ.mpr ⟨L k0 a!,Y⟩,λk hk z=>?_⟩;obtain z|z:=HN.mp z
  .simp[sgn]at z;omega
  .exact L k a! z
def a2d{h m:Int}(hs:yz_)(w:cM!)(hn:yz!):Rs W' yA!:=by
 have keep:∀{V:OW},V.its=W.its->V.txt=W.txt->Bs V->Rs V yA!:=λ{V} e1 e2 wi=>by
  refine⟨wi,aG!,kD_,kD_⟩
  .rw[e1]at J;exact IS _ (w.its x J)
  .rw[e1]at J;rw[e2]at hq;obtain⟨a,b,c,e,hm⟩:=w.sgs x J q hq;exact⟨a,b,c,e,IS _ hm⟩
  .rw[e1]at J;rw[e2]at hq;exact w.chr x J q hq
 cases hs with
 |put y1 y2 hg=>
  rename_i a b rows';have ni:D.tup bW_∉W.its:=λz=>hn (w.its _ z);have hp:Ew W cI_:=by split;assumption;exact .inr fb_
  have im:∀x,x∈(yA_).its↔x∈W.its\/x=.tup bW_:=λx=>by simp[Fn]
  have tx:∀x,(yA_).txt x=if x=.tup bW_ then[]else W.txt x:=λx=>rfl
  refine⟨hg.winv_put w.inv ni bF! hp,aG!,kD_,kD_⟩
  .obtain z|rfl:=(cC_).mp J
   .exact IS _ (w.its x z)
   .simp
  .rw[tx]at hq;by_cases e:x=.tup bW_
   .rw[IB e]at hq;cases hq
   .rw[HQ e]at hq;obtain⟨a,b,c,e',hm⟩:=w.sgs x yB_ q hq;exact⟨a,b,c,e',IS _ hm⟩
  .rw[tx]at hq;by_cases e:x=.tup bW_
   .rw[IB e]at hq;cases hq
   .rw[HQ e]at hq;exact w.chr x yB_ q hq
 |mvY _ _ _ hc hg=>exact keep rfl rfl yC_
 |mvN _ _ _ hc=>exact keep rfl rfl w.inv
 |drY _ hc hg=>exact keep rfl rfl yC_
 |drN _ hc=>exact keep rfl rfl w.inv
 |wrt y1 y2 y3 e=>
  rename_i a b s h' m';cases e;by_cases c:a∈W.its
  .rw[IB c];obtain⟨U,v,e1,e2,e3⟩:=rY b hB! au!;have mem:∀q,q∈wrT b hB! au!↔q∈W.txt a\/q∈s.cps.toList.zipIdx.map kB_:=λq=>by
    rw[e2,e1];simp only[HV];constructor<;>(intro z;rcases z with(z|z)|z<;>simp[z])
   have fresh:∀x∈W.its,∀q∈W.txt x,∀k:Int,q.1≠.tup [aS!,ek_,hs!]:=λx J q hq k z=>by
    show"![";rw[e']at z;cases z;exact hn hm
   have tx:∀x,(yD!).txt x=if x=a then wrT b hB! au! else W.txt x:=λx=>rfl
   have all:∀(P:D×D×Bool->Prop),(∀x∈W.its,∀q∈W.txt x,P q)->(∀q∈s.cps.toList.zipIdx.map kB_,P q)->∀x∈W.its,∀q∈(yD!).txt x,P q:=λP Y L x J q hq=>by
    rw[tx]at hq;by_cases e:x=a
    .rw[IB e]at hq;obtain z|z:=(mem q).mp hq
     .exact Y a c q z
     .exact L q z
    .rw[HQ e]at hq;exact Y x J q hq
   refine⟨sB w.inv c ?_ ei_ os!,λx J=>IS _ (w.its x J),all _ (λx J q hq=>?_) ei_,all _ w.chr ei_⟩
   .rw[e2];have nd:=w.inv.snd a c;rw[e1]at nd;obtain⟨n1,_⟩:=b3b h m s.cps.toList 0;have dj:∀q∈W.txt a,∀q'∈s.cps.toList.zipIdx.map kB_,q.1≠q'.1:=λq hq q' a8=>by
     obtain⟨c',k',rfl⟩:=pY a8;exact fresh a c q hq _
    simp only[IU]at nd ⊢;rw[IY]at nd;rw[IY,IY];refine⟨⟨nd.1,n1,jK_⟩,nd.2.1,jK_⟩
    .obtain⟨q,hq,rfl⟩:=IH.mp J;obtain⟨q',a8,rfl⟩:=IH.mp hy;exact dj q (by rw[e1];exact IS _ hq) q' a8
    .obtain J|J:=HV.mp J
     .exact nd.2.2 x J y hy
     .obtain⟨q',a8,rfl⟩:=IH.mp J;obtain⟨q,hq,rfl⟩:=IH.mp hy;exact HR (dj q (by rw[e1];exact HY _ hq) q' a8)
   .obtain z|z:=(mem q).mp hq
    .exact w.inv.sg a c q z
    .obtain⟨c',k',rfl⟩:=pY z;exact wR!
   .obtain z|z:=(mem q).mp hq
    .exact(w.inv.su a c y hy q z q' a8 e).symm
    .obtain⟨c',k',rfl⟩:=pY z;exact absurd e.symm (fresh y hy q' a8 _)
   .show"![";exact pr_
   .obtain⟨c',k',rfl⟩:=pY hq;exact⟨_,_,_,rfl,H!⟩
   .obtain⟨c',k',rfl⟩:=pY hq;exact L!
  .show"!~"
 |cut y1 y2 y3 y4=>
  rename_i a x y z m';by_cases c:a∈W.its
  .rw[IB c];have tx:∀v,(setT W a (cutT yG! au!)).txt v=if v=a then cutT yG! au! else W.txt v:=λx=>rfl
   refine⟨a1l w.inv c _,λv hv=>IS _ (w.its v hv),yG_,yG_⟩
   .rw[tx]at hq;split at hq
    .show"!:";obtain⟨a',b',c',e',hm⟩:=w.sgs a c q0 h0;exact pr_
    .obtain⟨a',b',c',e',hm⟩:=w.sgs v hv q hq;exact pr_
   .rw[tx]at hq;split at hq
    .show"!:";exact w.chr a c q0 h0
    .exact w.chr v hv q hq
  .show"!~"
 |set y1 y2 y3=>
  rename_i a p v;by_cases c:a∈W.its
  .rw[IB c];exact keep rfl rfl (b5w w.inv (by rw[LO];exact w.inv.nl a c))
  .show"!~"
end
def c1n:(Str.ofString "put"==Str.ofString "put")=true:=by decide+kernel
def a4q:(Str.ofString "move"==Str.ofString "move")=true:=by decide+kernel
def a4r:(Str.ofString "drop"==Str.ofString "drop")=true:=by decide+kernel
def a8e:(Str.ofString "write"==Str.ofString "write")=true:=by decide+kernel
def c1o:(Str.ofString "cut"==Str.ofString "cut")=true:=by decide+kernel
def c1m:(Str.ofString "set"==Str.ofString "set")=true:=by decide+kernel
section
variable{t:Au}{M:Mh}{o:xT!}{rl:Addr->Nw}{W W':OW}{B:Nat}{R:D->Mh->Prop}{pre:List D}
def ifT{ft:ah!}{q1 q2:WS}{ρ:Ae}{R:j!}(h:yH_)(k:q1 ρ M R):Av (Dd ft) q1 q2 ρ M R:=by simp only[Av,Dd,h];exact k
def iX{ft:ah!}{q1 q2:WS}{ρ:Ae}{R:j!}(h:yI!)(k:dt_):Av (Dd ft) q1 q2 ρ M R:=by simp only[Av,Dd,h];exact k
def bB:(fT (f2 Ba bA! (fC pt_))) [F!,eq!,some eu!]=some kE_:=by
 have e:Ak eu! L_=some U!:=by
  show pu!;show"#8";simp
 simp[fT,f2,Aa,fC,e,gS]
def ix1:Ak pu_ aN!=some a:=by show Dc (D.str k::a::r) 1=_;unfold Dc Dz;rw[a1!,pv!];simp
def ix2:Ak pv_ bx!=some b:=by show Dc (D.str k::a::b::r) 2=_;unfold Dc Dz;rw[a1!,pv!];simp
def ix3:Ak pw! bi!=some c:=by show Dc (D.str k::a::b::c::r) 3=_;unfold Dc Dz;rw[a1!,pv!];simp
def ax1:f2 Ak x! w! [F!,eq!,some pu_]=some a:=ix1
def ax2:f2 Ak x! S_ [F!,eq!,some pv_]=some b:=ix2
def ax3:f2 Ak x! al! [F!,eq!,some pw!]=some c:=ix3
def av0:Aa 0 yK_=some N_:=rfl
def av1:Aa 1 yK_=some n:=rfl
def hV{f:WE}{ρ:Ae}{R:j!}(k:f ρ M λ_ M1=>R aK! M1):Bo f ρ M R:=k
def xM{g:WF}{fo f1 f2 f3:e!}{ρ:Ae}(h0:fo ρ=some d)(Y:ft_)(L:hn!)(h3:pw_)(ho:lf_)(k:g [d,a,b,c] M R):Bb C m 4 g dq! (Ab kc! (Ab (wl f2) (Ab (wl f3) Af))) ρ M R:=by simp only[Bb,wl,Ab,Af,h0,Y,L,h3];exact oV_
def d3c{g:WF}{fo f1 f2 f3 f4:e!}{ρ:Ae}(h0:fo ρ=some d)(Y:ft_)(L:hn!)(h3:pw_)(h4:f4 ρ=some e)(ho:lf_)(k:g [d,a,b,c,e] M R):Bb C m 5 g dq! yM! ρ M R:=by simp only[Bb,wl,Ab,Af,h0,Y,L,h3,h4];exact oV_
def c4t{h m:Int}(hO:aA!)(w:cM!)(hn:yz!)(hs:yz_)(hB:he_)
  (hR:∀M' ac,Ce t M' o ac W' bq!->Fr M rl M' ac->R .non M'):Nt t [bc_,.tup bW_,d] M R:=by
 have SD:=hO;obtain⟨a1,a2,a3,a4,a5,a6,k1,k2,k3,k4,k5,k6,hA⟩:=SD;have fresh:∀x∈W.its,∀k':Nat,D.tup [aS!,ek_,.int (k':Nat)]∉(aH!).map c_:=λx J k' z=>by
  obtain⟨q,hq,e⟩:=IH.mp z;show"![";rw[e']at e;cases e;exact hn hm
 refine j_;cases hs with
 |put ha hb hg=>
  show"!1";obtain⟨kb,lf⟩:=wL hb;refine ifT (bB.trans (congrArg some c1n)) ?_;exact hV (xM av0 av1 ax1 ax2 (hA.noOb oM4) (c8q hO w.inv (λz=>hn (w.its _ z)) bF! bm lf hB hg hR))
 |mvY ha hb bv hc hg=>
  show"!I";exact hV (xM av0 ax1 ax2 ax3 kF_ (vS hO w.inv bm lf SE hB λM' f1 _ fr=>hR M' rl (f1 hc _ hg) fr))
 |mvN ha hb bv hc=>
  show"!I";exact hV (xM av0 ax1 ax2 ax3 kF_ (vS hO w.inv bm lf SE hB λM' _ f1 fr=>hR M' rl (f1 hc) fr))
 |drY ha hc hg=>
  show"!}";exact hV (xM av0 ax1 rfl rfl kF_ (vS hO w.inv bm (kx:=py!) rfl (ks:=none) rfl hB λM' f1 _ fr=>hR M' rl (f1 hc _ hg) fr))
 |drN ha hc=>
  show"!}";exact hV (xM av0 ax1 rfl rfl kF_ (vS hO w.inv bm (kx:=py!) rfl (ks:=none) rfl hB λM' _ f1 fr=>hR M' rl (f1 hc) fr))
 |wrt ha hb dh e=>
  cases e;show"!1";obtain⟨kb,lf⟩:=b5u hb;refine iX (bB.trans (congrArg some kW)) ?_;refine iX (bB.trans (congrArg some jQ)) ?_;refine iX (bB.trans (congrArg some jR)) ?_;refine ifT (bB.trans (congrArg some a8e)) ?_;exact hV (d3c av0 av1 ax1 ax2 ax3 (hA.noOb oM7) (b7v hO w.inv bm lf hB dh fresh λM' f1 _ fr=>hR M' rl f1 fr))
 |cut ha b5 Y L=>
  show"!1";refine iX (bB.trans (congrArg some pK)) ?_;refine iX (bB.trans (congrArg some mX)) ?_;refine iX (bB.trans (congrArg some mY)) ?_;refine iX (bB.trans (congrArg some kY)) ?_;refine ifT (bB.trans (congrArg some c1o)) ?_;exact hV (xM av0 ax1 ax2 ax3 (hA.noOb oM8) (d0w hO w.inv bm hB b5 Y L λM' f1 fr=>hR M' rl f1 fr))
 |set ha Y L=>
  show"!1";refine iX (bB.trans (congrArg some pI)) ?_;refine iX (bB.trans (congrArg some mV)) ?_;refine iX (bB.trans (congrArg some mW)) ?_;refine iX (bB.trans (congrArg some kX)) ?_;refine iX (bB.trans (congrArg some pJ)) ?_;refine ifT (bB.trans (congrArg some c1m)) ?_;exact hV (xM av0 ax1 ax2 ax3 (hA.noOb oM9) (yZ hO w.inv bm Y L λM' f1 fr=>hR M' rl (f1.mono a!) fr))
def c4u{k:Str}(hk:yR_)(hR:R .non M):Nt t [bc_,n,.tup py_] M R:=by
 refine j_;obtain rfl|rfl:=hk
 .refine iX (bB.trans (congrArg some uP)) ?_;refine iX (bB.trans (congrArg some qU)) ?_;refine iX (bB.trans (congrArg some qV)) ?_;refine iX (bB.trans (congrArg some oS)) ?_;refine iX (bB.trans (congrArg some uQ)) ?_;refine iX (bB.trans (congrArg some a7y)) ?_;exact hR
 .refine iX (bB.trans (congrArg some uR)) ?_;refine iX (bB.trans (congrArg some qW)) ?_;refine iX (bB.trans (congrArg some qX)) ?_;refine iX (bB.trans (congrArg some oT)) ?_;refine iX (bB.trans (congrArg some uS)) ?_;refine iX (bB.trans (congrArg some a8b)) ?_;exact hR
def cP{bnd:ai!}{ck:bf_}{ft:WT}{fe:WE}{ρ:Ae}(b:D->Bool)(y:D->D)(cr:ck M):∀(ds:c!) (R:kS!),
  (∀d∈ds,∃ai,bnd d ρ=some ai/\(∀K:Bool->Mh->Prop,K (b d) M->ft ai M K)/\(b d=true->∀K:D->Mh->Prop,K (y d) M->fe ai M K))->R ((ds.filter b).map y) M->Rn bnd ck ft fe ρ ds M R
 |[],R,_,hR=>⟨cr,hR⟩
 |d::ds,R,h,hR=>by
  obtain⟨ai,e1,e2,e3⟩:=h d HP;refine kH_;rw[e1];refine e2 _ ?_;cases hb:b d with
  |true=>
   refine e3 hb _ (cP b y cr ds _ yV! ?_);rw[JX hb]at hR;exact hR
  |false=>
   refine cP b y cr ds _ yV! ?_;rw[JP (by simp[hb])]at hR;exact hR
def Vu(W:OW)(x:D):List eb!:=(aH!).filter (·.2.2)
def a6f(hO:aA!)(w:Bs W)(J:aY_)(hB:B<4000)(hR:R (.lst pz_) M):Dm t ed_ M R:=by
 obtain⟨a1,a2,a3,a4,a5,a6,k1,k2,k3,k4,k5,k6,hA⟩:=hO;obtain⟨e3,h3⟩:=hA.d3;obtain⟨e6,h6⟩:=hA.d6;obtain⟨k,hk⟩:=(w.nm x J).key;obtain⟨r,f,p,g1,g2,g3,g4,g5⟩:=hA.txt x J;have lt:=hA.lt x J;refine j_;have va:∀R',w2 Bt eU_ u! kI! M R'=R' bb! M:=by
  intro R';simp[w2,wl,Ay,Gv,hA.ob,oF3,Bt,h3,hk,g1,Ef,Aa]
 show Az (Bg 1 [0] _ _ _ _) kI! M _;simp only[Az,Bg,Ca,Bb,va,Af];refine⟨by simp only[Dg,g2.ob,rM.2.2.1,and_self],rfl,?_⟩;refine a0t g2 ab_ (b2v w J) ?_;refine dv_;refine cP (λd=>!(kget k6 d).isSome) id trivial _ _ bG! ?_
 .show"!=";obtain⟨kq,pe⟩:=(we_).key;refine⟨[some q.1,F!],rfl,ev_,yW!⟩;simpa[wT,w2,wl,Ay,Gv,Aa,Ef,hA.ob,oF6,Ih,h6,pe]using hK
 .have e:((n8_).filter λd=>!(kget k6 d).isSome).map id=(dv!).map c_:=by
   rw[RU];rw[MF];congr 1;apply KS;intro q hq;simp only[Function.comp];rw[hA.hi x J q hq];simp
  rw[e];exact hR
def b0a(hO:aA!)(w:Bs W)(J:aY_)(hB:B<4000)(hj:pA!)(hR:R v M):Go t ed_ M R:=by
 have SD:=hO;obtain⟨a1,a2,a3,a4,a5,a6,k1,k2,k3,k4,k5,k6,hA⟩:=SD;obtain⟨e5,h5⟩:=hA.d5;have lt:=hA.lt x J;refine j_;show Az (Qk _ (Bg 1 [0] sA! _ _ _)) kI! M _;simp only[Az,Qk,Bg,Ca];have hm:∀(K:s_),K (.lst pz_) M->Bb t.B4 "signs_of" 2 (Dm t) h_ al_ kI! M K:=λK hK=>⟨hA.noOb d4l,rfl,a6f hO w J hB hK⟩;refine hm _ ?_;have ls:(dv!).length<=(aH!).length:=NA _ _;refine dv_;refine cP cN! (λd=>(kget k5 d).getD .non) trivial _ _ bG! ?_
 .show"!=";have a8:=(pB!).1;obtain⟨kq,pe⟩:=(w.sg x J q a8).key;refine⟨[some q.1,F!],rfl,fF!,dw!⟩;simpa[w2,wl,Ay,Gv,Aa,Ef,hA.ob,oF5,Bt,h5,pe,hA.wr x J q a8]using hK
 .have e:(((pz_).filter λ_=>true).map λd=>(kget k5 d).getD .non)=(dv!).map kI_:=by
   rw[hE!,JQ];apply KI;intro q hq;simp only[Function.comp];rw[hA.wr x J q (pB!).1];rfl
  rw[e];rw[hj];exact hR
end
structure Op where
 h:Int
 n:Int
 tm:Int
 d:D
nonrec def Op.v(o:Op):D:=.tup kJ!
nonrec def Op.nm(o:Op):D:=.tup [fF_,.int o.n]
nonrec def Op.key(o:Op):Int×Int:=(o.tm,o.h)
def Et:D->Option ci_
 |.tup [.str k,a]=>if pB_ then some (k,a)else none
 |_=>none
def nL(k:Str)(a:D):Et (.tup py_)=if pB_ then some (k,a)else none:=rfl
def rN(h:DG d):(∃k a,d=.tup py_/\yY_/\NameG a/\Et d=some (k,a))\/(∃k r,d=.tup cj!/\hF!=false/\(k=="redo")=false/\Et d=none):=by
 have uu:pC!=true:=by decide+kernel
 have rr:pC_=true:=by decide+kernel
 cases h with
 |put Y L=>exact .inr ⟨_,_,rfl,uT,uU,rfl⟩
 |move Y L h3=>exact .inr ⟨_,_,rfl,a4m,a4n,rfl⟩
 |drop Y=>
  refine .inr ⟨_,_,rfl,a4o,a4p,?_⟩;rfl
 |write Y L h3 h4 h5=>exact .inr ⟨_,_,rfl,zP,zQ,rfl⟩
 |cut Y L h3 h4=>exact .inr ⟨_,_,rfl,a8c,a8d,rfl⟩
 |set Y L h3 h4=>exact .inr ⟨_,_,rfl,a7z,a8a,rfl⟩
 |undo Y=>
  refine .inl ⟨_,_,rfl,c0!,Y,?_⟩;rfl
 |redo Y=>
  refine .inl ⟨_,_,rfl,.inr rfl,Y,?_⟩;rfl
def a4u(o:Op):Dh [o.v]=some yZ!:=by simp[Dh,Kw,Op.v,Cj,Bl,Aw,Ac,Ag,f2,Aa,fC,Ak,Dc,Dz]
def yC:∀ops:List Op,Nq Dh ew!=some pD!
 |[]=>rfl
 |o::r=>by
  rw[IA];unfold Nq;rw[a4u,yC r];rfl
def d3j(o:Op):Iz Dh o.v=o.key:=by unfold Iz;rw[a4u];rfl
def a8o{α β:Type}{f:lq!}{k:α->Int×Int}{k':β->Int×Int}(h:yZ_)(x:α):∀l:List α,Rm k' (f x) eG_=(Rm k x l).map f
 |[]=>rfl
 |y::r=>by
  simp only[IA,Rm,h];split
  .rfl
  .rw[a8o h x r];rfl
def pX{α β:Type}{f:lq!}{k:α->Int×Int}{k':β->Int×Int}(h:yZ_):∀l:List α,Jm k' eG_=(Jm k l).map f
 |[]=>rfl
 |x::r=>by rw[IA];unfold Jm;rw[pX h r,a8o h]
abbrev srt(ops:f_):List Op:=Jm Op.key ops
def nE{ops:f_}(nd:ew_)(hl:cN_):Dl ck_=some (.lst hF_):=by
 have e:AB Dh ew!=some hF_:=by
  unfold AB;rw[yC];show(if(pD!).Nodup/\(ew!).length<64 then some _ else none)=_;rw[IB ⟨nd,kM!⟩,pX d3j]
 simp[Dl,Rf,Cj,Bl,Vg,Aa,e]
def uF{a b:f_}(h:a.Perm b)(nd:y0!):srt a=srt b:=
 lY lr! (gU ((h.map _).nodup_iff.mp nd)) ((bP a).trans (h.trans (bP b).symm))
def a6e{a:f_}(nd:y0!):srt (srt a)=srt a:=uF (bP a) (((bP a).map _).nodup_iff.mpr nd)
def b8d{o:Op}(h:hG_):At [o.v]=some pD_:=by
 have e3:Ak o.v bi!=some o.d:=by
  simp[Op.v,Ak,Dc,Dz]
 have main:∀(k:Str) (r:c!),o.d=.tup cj!->At [o.v]=some (.bl pB_):=λk r e=>by
  have e0:Ak eu! L_=some U!:=by
   show pu!;show"#8";simp
  have e1:∀s:Str,f2 Ba gt! (fC aT!) [U_]=some (.bl (k==s)):=λs=>by
   show(pE_).bind y1!=_;rw[e3,e];show((Ak eu! L_)).bind y1!=_;rw[e0];exact gS k s
  show(match Bl (Ev _ _) [U_]with|some (.rt d)=>some d|some (.nx _)=>some .non|none=>none)=_;unfold Bl Ev fT;rw[e1,e1];cases (k==Str.ofString "undo")<;>rfl
 obtain⟨k,a,e,hk,_,hu⟩|⟨k,r,e,Y,L,hu⟩:=rN h
 .rw[main k [a] e,hu];obtain rfl|rfl:=hk
  .rw[y1_];rfl
  .rw[y2!,a4l];rfl
 .rw[main k r e,hu,Y,L];rfl
def Gr(f:kK_):List Op->List aD!->List aD!
 |[],acc=>acc
 |o::os,acc=>match Et o.d with
  |some (k,a)=>Gr f os (As acc a (f k))
  |none=>Gr f os acc
def wD:∀(os:f_) (A B:i!),(∀x,(kget A x=none/\kget B x=none)\/∃k:Str,kget A x=some U!/\kget B x=some fG!)->
  ∀x,(kget y2_ x=none/\kget (Gr kL! os B) x=none)\/∃k:Str,kget y2_ x=some U!/\kget (Gr kL! os B) x=some fG!
 |[],A,B,h=>h
 |o::os,A,B,h=>by
  unfold Gr;cases e:Et o.d with
  |none=>exact wD os A B h
  |some q=>
   obtain⟨k,a⟩:=q;refine wD os _ _ λx=>?_;by_cases c:a=x
   .subst c;rw[cV,cV];exact .inr ⟨k,rfl,rfl⟩
   .rw[cW c,cW c];exact h x
section
variable{t:Au}{M:Mh}{R:D->Mh->Prop}
def gZ{kvs:i!}{ep:Nat}(h:bV_)(hk:cl!)(hl:dy_):Lf M D_ y v=some hW!:=by simp[Lf,h,hk,hl]
def a0q(h:NameG x):∃k,Db x=some k:=by obtain⟨a,b,rfl,_⟩:=h;exact L!
def d3y:Aa 1 pG_=some D_:=rfl
def a3t:∀(os:f_) (x1:D) (y:an_) (acc:i!) (ep:Nat) (M:Mh) (R:j!),pF_->cR!+ap!<1000->M p=some pG!->
  (∀M' bd y',M' p=some (.dct y3! bd)->kL_->R y4! M')->
  Ib bL_ ae! sE! a0_ pG_ M R
 |[],x1,y,acc,ep,M,R,_,_,hp,hR=>y5!
 |o::os,x1,y,acc,ep,M,R,hd,hl,hp,hR=>by
  refine aI_;show Av (Dd _) _ _ bX! M _;have ho:=hd o HP;have et:fT (f1 At bz!) bX!=some (Et o.d).isSome:=by
   have e:f1 At bz! bX!=some pD_:=b8d ho;unfold fT;rw[e];rfl
  simp only[IE]at hl;have e3:Ak o.v bi!=some o.d:=by simp[Op.v,Ak,Dc,Dz]
  obtain⟨k,a,e,hk,jc,hu⟩|⟨k,r,e,Y,L,hu⟩:=rN ho
  .rw[hu]at et;refine ifT et ?_;obtain⟨ka,km⟩:=a0q jc;have i0:f2 Ak a6! C! bX!=some U!:=by
    show pE_=_;rw[e3,e];show Dc [D.str k,a] 0=_;simp[Dc,Dz]
   have i1:f2 Ak a6! w! bX!=some a:=by
    show y5_;rw[e3,e];show Dc [D.str k,a] 1=_;simp[Dc,Dz]
   have dt:Lf M D_ a U!=some y6!:=by
    exact gZ hp km hu_
   have:=a3t (p:=p) os x1 ey! (As acc a U!) (Gs acc a ep) y6! R hH! (by have:=kput_len acc a U!;omega) mup_same (λM' bd y' Y L=>hR M' bd y' y6_ λb hb=>(L b hb).trans pH!);simp only[Cf,wl,i0,i1,d3y,dt,Ef];exact this
  .rw[hu]at et;refine iX et ?_;exact a3t (p:=p) os x1 ey! acc ep M R hH! a! hp y7!
def vV{f:e!}{ρ:Ae}(h:f ρ=some cd_):Ep f ρ=some ds:=by unfold Ep;rw[h];rfl
def zI{ops:f_}(nd:ew_)(hl:cN_)(hd:hH_)
  (hR:∀p M' ep,M p=none->M' p=some (.dct kM_ ep)->kL_->R D_ M'):Gn ck_ M R:=by
 refine j_;intro p hp;have hi:Ep iL_ pH_=some hF_:=vV (nE nd hl);have bx:(be_).Perm ops:=bP ops;have:=a3t (p:=p) be_ hI! none [] 0 eA! (λr M1=>match r with|.nx ai=>Az u! ai M1 g9!|.rt d=>R d M1) y8! y8_ mup_same y9!;show Ah (Dj (Il _) _ _) _ pH_ _ _;simp only[Ah,Dj,Il,hi,Ef];exact this
def t2{g:bd!}{fa:WE}{fb:e!}{ρ:Ae}{K:fJ_}{b:Bool}(ha:∀K':D->Mh->Prop,K' d M->fa ρ M K')(hb:fb ρ=some v)(hg:g d v=some bK!)(k:K b M):wT (w2 (λ_=>g) fa hI_) ρ M K:=by refine ha _ ?_;simp only[wl,hb,hg];exact k
def Undn(wd:i!)(o:Op):Prop:=Et o.d=none/\kget wd o.nm=some bk_
def zZ(o:Op):Bj o.v none (some 2)=some o.nm:=by simp[Op.v,Op.nm,Bj,Dk,HT.sIx]
def b1l(o:Op):∃k,Db o.nm=some k:=L!
def b2t{e0:Nat}(qz:p≠q):∀(os:f_) (x1:D) (y z:an_) (acc:i!) (ep:Nat) (M:Mh) (R:j!),pF_->cR!+ap!<1000->M p=some (.dct wd e0)->M q=some pG!->(∀x v,kget wd x=some v->∃k:Str,v=.str k)->
  (∀M' bd y' z' dq,M' q=some (.dct dq bd)->(∀x,kget dq x≠none↔(kget acc x≠none\/∃o∈os,o.nm=x/\Undn wd o))->zb!->R (.nx [R_,ao_,aV!,y',z']) M')->
  Ib Q_ ae! iO! a0_ [R_,ao_,aV!,y,z] M R
 |[],x1,y,z,acc,ep,M,R,_,_,hp,hq,lg,hR=>⟨trivial,hR M ep y z acc hq zb_ λb _=>rfl⟩
 |o::os,x1,y,z,acc,ep,M,R,hd,hl,hp,hq,lg,hR=>by
  refine aI_;show Ah (Ao 4 _) _ zc! M _;have ho:=hd o HP;simp only[IE]at hl;have es:Do M! Aq bx_ zc!=some o.nm:=zZ o;simp only[Ah,Ao,wl,es];show Av _ _ _ dw_ M _;have et:Ct sG! dw_=some (!(Et o.d).isSome):=by
   have e:f1 At eZ! dw_=some pD_:=b8d ho;unfold Ct fT;rw[e];rfl
  obtain⟨kn,gc⟩:=b1l o;have next:∀(c:Prop),(c↔Undn wd o)->∀dq bd M',M' q=some (.dct dq bd)->(∀x,kget dq x≠none↔(kget acc x≠none\/(x=o.nm/\c)))->dq.length<=cR!+1->zb!->
    Ib Q_ ae! iO! a0_ dw_ M' R:=λc hc dq bd M' Y L h3 h4=>by
   refine b2t (p:=p) (q:=q) (wd:=wd) (e0:=e0) qz os x1 _ _ dq bd M' R hH! a! ((h4 p qz).trans hp) Y lg λM2 ug y2 z2 acc2 g1 g2 g3=>hR M2 ug y2 z2 acc2 g1 pI! λb hb=>(g3 b hb).trans (h4 b hb);rw[g2,L];show"!L"
   .rintro((u|⟨u1,u2⟩)|⟨o',u1,u2,u3⟩)
    .exact .inl u
    .exact .inr ⟨o,HP,u1.symm,hc.mp u2⟩
    .exact .inr ⟨o',HL _ u1,u2,u3⟩
   .rintro(u|⟨o',u1,u2,u3⟩)
    .exact .inl (.inl u)
    .obtain rfl|u1:=HN.mp u1
     .exact .inl (.inr ⟨u2.symm,hc.mpr u3⟩)
     .exact .inr ⟨o',u1,u2,u3⟩
  have no:(¬Undn wd o)->Ib Q_ ae! iO! a0_ dw_ M R:=λh=>next False (by simp[h]) acc ep M hq zb_ a! λb _=>rfl;cases hu:Et o.d with
  |some u=>
   rw[hu]at et;simp only[Av,Hb,Dd,et];exact no λz=>by rw[z.1]at hu;cases hu
  |none=>
   rw[hu]at et;simp only[Av,Hb,Dd,et];have hg:∀(K:s_),K zc_ M->Oz u! a4_ dw_ M K:=λK hK=>by
    have c1:Ed M D_=some (p,wd,e0):=by simp[Ed,hp]
    show Ef (Ed M D_) λ_=>Ef (Ed M D_) λq=>Ef (Db o.nm) λ_=>K ((kget q.2.1 o.nm).getD .non) M;rw[c1,gc];exact hK
   have hsd:Sd zc_:=by
    cases e:kget wd o.nm with
    |none=>exact .inl rfl
    |some v=>obtain⟨k,rfl⟩:=lg _ _ e;exact iO k
   have XD:(pI_).getD .non=.str "undo"↔Undn wd o:=by
    unfold Undn;rw[hu];cases e:kget wd o.nm with
    |none=>simp
    |some v=>simp
   refine t2 hg (v:=et!) rfl (lE hsd (iO _)) ?_;by_cases c:(pI_).getD .non=.str "undo"
   .rw[IV c];have dt:=gZ (y:=o.nm) (v:=gi!) hq gc hu_;have f2:Aa 2 dw_=some bR_:=rfl;have f4:Aa 4 dw_=some o.nm:=rfl;simp only[Cf,wl,fC,f2,f4,dt,Ef];refine next True (by simp[<-XD,c]) _ _ _ mup_same pI! ea! λb hb=>mup_ne hb;by_cases e:o.nm=x
    .subst e;rw[cV];simp
    .rw[cW e];simp[HR e]
   .rw[IF c];exact no λz=>c (XD.mpr z)
def a2a:∀(os:f_) (acc:i!),(∀x v,kget acc x=some v->∃k:Str,v=.str k)->∀x v,kget y3! x=some v->∃k:Str,v=.str k
 |[],acc,h=>h
 |o::os,acc,h=>by
  unfold Gr;cases e:Et o.d with
  |none=>exact a2a os acc h
  |some q=>
   obtain⟨k,a⟩:=q;refine a2a os _ λx v J=>?_;by_cases c:a=x
   .subst c;rw[cV]at J;cases J;exact⟨k,rfl⟩
   .rw[cW c]at J;exact h x v J
def zW{ops:f_}(nd:ew_)(hl:cN_)(hd:hH_)
  (hR:∀q M' ep kq,M q=none->M' q=some (.dct kq ep)->(∀x,kget kq x≠none↔∃o∈ops,o.nm=x/\Undn kM_ o)->kO!->R bR_ M'):Kb ck_ M R:=by
 refine j_;have hc:∀(K:s_),Gn ck_ M K->Aj 1 Gn aX_ zd! M K:=λK h=>cc!;refine hc _ (zI nd hl hd λp M1 ep hp hM1 fr=>?_);intro q hq;have qz:p≠q:=λz=>by rw[<-z,hM1]at hq;cases hq
 have pf:M q=none:=by rw[<-fr q (HR qz)];exact hq
 have hi:Ep m_ [cO!,ao_,aV!,none,none]=some ew!:=rfl;refine b2t (wd:=pJ!) (e0:=ep) qz ops hI! none none [] 0 _ _ hd ab_ ((mup_ne qz).trans hM1) mup_same (a2a _ [] λx v h=>by simp[kget]at h) λM' bd y' z' dq Y L h3=>?_;refine hR q M' bd dq pf Y pI! λb hb=>?_
 .rw[L];simp[kget]
 .have b1:b≠q:=λz=>hb (by rw[z];exact pf);have b2:b≠p:=λz=>hb (by rw[z];exact hp);rw[h3 b b1,mup_ne b1,fr b b2]
end
def W0:OW:=⟨[],[],λ_=>[],λ_=>[]⟩
def b5l:Rs W0 []:=by refine⟨⟨by simp[W0],dx_,by simp[W0],λx=>by simp[W0],ze!,⟨λ_=>0,ze!⟩,dx_,dx_,dx_,dx_⟩,dx_,dx_,dx_⟩
section
variable{t:Au}{M:Mh}{R:D->Mh->Prop}
def cZ(f:Str)(v:D):∀l:List ci_,(Bq f v l).length<=au_+1
 |[]=>by simp[Bq]
 |(g,x)::r=>by
  unfold Bq;split
  .simp
  .have:=cZ f v r;simp;omega
def Kp(o:xT!)(M M':Mh):Prop:=∀c,M c≠none->c≠o->M' c=M c
def Kp.trans{M M1 M2:Mh}(a:Kp o M M1)(b:Kp o M1 M2):Kp o M M2:=λc Y L=>by
 have e:=a c Y L;rw[b c (by rw[e];exact Y) L,e]
def rL{fs:aU_}{R:j!}(ho:M o=some hm_)(hl:bu!<100)
  (hR:∀a M',M a=none->M' a=some B!->M' o=some (.obj C (Bq x cE! fs))->Kp o M M'->(∀c,M' c≠none->M c≠none\/c=a)->R (.nx [F!]) M'):Fy C x h_ Gx [F!] M R:=by
 intro a ha;have oa:o≠a:=λz=>by rw[<-z,ho]at ha;cases ha
 have e:Be M a B! o=some hm_:=(mup_ne oa).trans ho;have f0:Aa 0 [F!]=some N_:=rfl;simp only[wl,f0,e];refine⟨trivial,hl,hR a _ ha ((mup_ne (HR oa)).trans mup_same) mup_same (λc Y L=>?_) λc hc=>?_⟩
 .rw[cF!,mup_ne λz=>Y (by rw[z];exact ha)]
 .by_cases c1:c=a
  .exact .inr c1
  .by_cases c2:c=o
   .rw[c2,ho];exact .inl d!
   .rw[kO_,mup_ne c1]at hc;exact .inl hc
def pc{fa:e!}{fb:WE}{fp:WP}{ρ:Ae}{R:zY!}(h:fa ρ=some x)(k:fb ρ M λy M2=>fp ρ M2 λkvs M3=>R ((x,y)::kvs) M3):Ek hJ! fb fp ρ M R:=by simp only[Ek,wl,h];exact k
def a3o{ρ:Ae}(hR:∀o rl M',M o=none->Ce t M' o rl W0 2->pK!->R N_ M'):Gf t.B4 1 (Io t) Af ρ M R:=by
 refine⟨rfl,λo ho=>j_⟩;have f0:Aa 0 [F!]=some N_:=rfl;show Ah (Fy t.B4 "parents" _ _) _ [F!] zf_ _;intro a1 xt;have j1:a1≠o:=λz=>by rw[z,mup_same]at xt;cases xt
 rw[mup_ne j1]at xt;refine⟨mup_same,R!,kP!,?_,?_⟩
 .obtain rfl|hq:=HN.mp hq
  .rfl
  .rw[HX.mp hq];rfl
 .show(hJ_).Nodup;rw[IJ];exact zg_
 have e1:Be zh! a1 zh_ o=some zf!:=by rw[zi_,zi_,mup_same]
 simp only[wl,f0];rw[e1];refine⟨rfl,R!,?_⟩;generalize xu:Be (Be zh! a1 zh_) o pL_=S1;have q9:S1 o=some pL_:=by rw[<-xu,mup_same]
 have rf:S1 a1=some (.dct kQ_ 2):=by rw[<-xu,mup_ne j1,mup_same];rfl
 have S1m:∀c,c≠o->c≠a1->S1 c=M c:=λc Y L=>by rw[<-xu,ce!,cF!,cF!,ce!]
 clear xu e1;intro a2 rg;have j2:a2≠o:=λz=>by rw[z,q9]at rg;cases rg
 refine pc rfl ?_;refine qN λr1 f1 p1 N1 z1 z2 z3 _ _ R1 K1=>?_;refine pc rfl ?_;refine qN λr2 f2 p2 N2 y1 y2 y3 _ _ R2 K2=>?_;have l1:∀c,Be S1 a2 B! c≠none->N1 c=Be S1 a2 B! c:=λc hc=>K1 c (aV hc z1) (aV hc z2) (aV hc z3);have l2:∀c,N1 c≠none->N2 c=N1 c:=λc hc=>K2 c (aV hc y1) (aV hc y2) (aV hc y3);have SF:N1 a2=some B!:=by rw[l1 a2 pM!,mup_same]
 have n2a:N2 a2=some B!:=by rw[l2 a2 (by rw[SF];simp),SF]
 have SG:N1 o=S1 o:=by rw[l1 o (by rw[kR!,q9];simp),kR!]
 have n2o:N2 o=S1 o:=by rw[l2 o zk!,SG]
 refine⟨n2a,H!,kP!,?_,?_⟩
 .obtain rfl|hq:=HN.mp hq
  .rfl
  .rw[HX.mp hq];rfl
 .show(hJ_).Nodup;rw[IJ];exact zg_
 have e2:Be N2 a2 zl! o=some pL_:=by rw[kR!,n2o,q9]
 simp only[wl,f0];rw[e2];refine⟨rfl,by have:=cZ ec_ fI_ [];simp at this;omega,?_⟩;generalize xv:Be (Be N2 a2 zl!) o zm!=S2;have XE:S2 o=some zm!:=by rw[<-xv,mup_same]
 have SH:S2 a2=some (.dct kR_ 2):=by rw[<-xv,mup_ne j2,mup_same];rfl
 have vf:∀c,c≠o->c≠a2->S2 c=N2 c:=λc Y L=>by rw[<-xv,ce!,cF!]
 clear xv e2;have ph:∀c,N1 c≠none->c≠r2/\c≠f2/\c≠p2:=λc hc=>⟨aV hc y1,aV hc y2,aV hc y3⟩;have v1:=R1.live;have v2:=R2.live;have nr:∀c,Be S1 a2 B! c≠none->c≠r1/\c≠f1/\c≠p1:=λc hc=>⟨aV hc z1,aV hc z2,aV hc z3⟩;have so:Be S1 a2 B! o≠none:=by rw[kR!,q9];simp
 have sa:Be S1 a2 B! a2≠none:=by rw[mup_same];simp
 have SI:Kp o S1 S2:=λc hc h=>by
  have c2:c≠a2:=λz=>hc (by rw[z];exact rg);have s:Be S1 a2 B! c≠none:=by rw[kO_];exact hc
  have e:=l1 c s;rw[vf c h c2,l2 c (by rw[e];exact s),e,kO_]
 refine rL (x:=hM!) XE (by have:=cZ dl! hK_ fJ!;have:=cZ ec_ fI_ [];simp at this;omega) λa3 S3 q3 SJ XF vg w3=>?_;refine rL (x:=pO!) XF (by have:=cZ ed! kS_ hL!;have:=cZ dl! hK_ fJ!;have:=cZ ec_ fI_ [];simp at this;omega) λa4 S4 q4 SK XG rj w4=>?_;refine rL (x:="written") XG (by have:=cZ fk! (.fn a4) pO_;have:=cZ ed! kS_ hL!;have:=cZ dl! hK_ fJ!;have:=cZ ec_ fI_ [];simp at this;omega) λa5 S5 q5 SL XH pi w5=>?_;refine rL (x:="hidden") XH (by have:=cZ og_ (.fn a5) zp!;have:=cZ fk! (.fn a4) pO_;have:=cZ ed! kS_ hL!;have:=cZ dl! hK_ fJ!;have:=cZ ec_ fI_ [];simp at this;omega) λa6 S6 q6 S6a XI XJ w6=>?_;have hob:Bq v5_ (.fn a6) (Bq og_ (.fn a5) zp!)=oF a1 a2 a3 a4 a5 a6:=by kernel_rfl
 have XN:=pi.trans XJ;have XO:=rj.trans XN;have xw:=vg.trans XO;have XQ:=SI.trans xw;have lo:∀{N:Mh} {c:xT!} {x:Pj},N c=some x->N c≠none:=λh=>by rw[h];simp
 have o3:a3≠o:=λz=>by rw[z,XE]at q3;cases q3
 have o4:a4≠o:=λz=>by rw[z,XF]at q4;cases q4
 have o5:a5≠o:=λz=>by rw[z,XG]at q5;cases q5
 have o6:a6≠o:=λz=>by rw[z,XH]at q6;cases q6
 have F1:S6 a1=some (.dct kQ_ 2):=(XQ a1 (lo rf) j1).trans rf;have F2:S6 a2=some (.dct kR_ 2):=(xw a2 (lo SH) j2).trans SH;have F3:S6 a3=some B!:=(XO a3 (lo SJ) o3).trans SJ;have F4:S6 a4=some B!:=(XN a4 (lo SK) o4).trans SK;have F5:S6 a5=some B!:=(XJ a5 (lo SL) o5).trans SL;have F6:=S6a;have SM:∀c,N1 c≠none->c≠o->c≠a2->S6 c=N1 c:=λc hc Y L=>by
  have e:=l2 c hc;have e':=vf c Y L;rw[xw c (by rw[e',e];exact hc) Y,e',e]
 have SN:∀c,N2 c≠none->c≠o->c≠a2->S6 c=N2 c:=λc hc Y L=>by
  have e':=vf c Y L;rw[xw c (by rw[e'];exact hc) Y,e']
 have rm:=nr o so;have rq:=nr a2 sa;have Q1:Ej t S6 r1 f1 p1 []:=R1.keep (SM _ v1.1 (HR rm.1) (HR rq.1)) (SM _ v1.2.1 (HR rm.2.1) (HR rq.2.1)) (SM _ v1.2.2 (HR rm.2.2) (HR rq.2.2));have mo:=ph o zk!;have ma:=ph a2 (lo SF);have Q2:Ej t S6 r2 f2 p2 []:=R2.keep (SN _ v2.1 (HR mo.1) (HR ma.1)) (SN _ v2.2.1 (HR mo.2.1) (HR ma.2.1)) (SN _ v2.2.2 (HR mo.2.2) (HR ma.2.2))
 let rl:Addr->Nw:=λc=>if c=o then .ob else if c=a1 then .par else if c=a2 then .rows else if c=a3 then .texts else if c=a4 then .nums else if c=a5 then .writ else if c=a6 then .hid else if c=r1 then .rO root else if c=f1 then .rF root else if c=p1 then .rP root else if c=r2 then .rO binn else if c=f2 then .rF binn else if c=p2 then .rP binn else .oth
 have dead:∀c,M c≠none->S6 c=M c/\c≠o/\c≠a1/\c≠a2/\c≠a3/\c≠a4/\c≠a5/\c≠a6/\w6!/\(c≠r2/\c≠f2/\c≠p2):=λc hc=>by
  have c0:c≠o:=aV hc ho;have c1:c≠a1:=aV hc xt;have s1:S1 c=M c:=S1m c c0 c1;have vh:S1 c≠none:=by rw[s1];exact hc
  have c2:c≠a2:=aV vh rg;have s2:S2 c≠none:=by rw[SI c vh c0];exact vh
  have c3:c≠a3:=aV s2 q3;have s3:S3 c≠none:=by rw[vg c s2 c0];exact s2
  have c4:c≠a4:=aV s3 q4;have s4:S4 c≠none:=by rw[rj c s3 c0];exact s3
  have c5:c≠a5:=aV s4 q5;have s5:S5 c≠none:=by rw[pi c s4 c0];exact s4
  have c6:c≠a6:=aV s5 q6;have sm:Be S1 a2 B! c≠none:=by rw[kO_];exact vh
  have n1:N1 c≠none:=by rw[l1 c sm];exact sm
  exact⟨(XQ c vh c0).trans s1,c0,c1,c2,c3,c4,c5,c6,nr c sm,ph c n1⟩
 refine⟨trivial,hR o rl S6 ho ⟨a1,a2,a3,a4,a5,a6,kQ_,kR_,[],[],[],[],?_⟩ λb hb=>?_⟩
 .have g0:rl o=.ob:=IB rfl;have g1:rl a1=.par:=by show(if a1=o then _ else _)=_;rw[HQ j1,n_]
  have XR:a2≠a1:=λz=>by rw[z,rf]at rg;cases rg
  have g2:rl a2=.rows:=by show(if a2=o then _ else _)=_;rw[HQ j2,HQ XR,n_]
  have SO:S2 a1≠none:=by rw[SI a1 (lo rf) j1];exact lo rf
  have SQ:S2 a2≠none:=lo SH;have a31:=HR (aV SO q3);have SA:=HR (aV SQ q3);have g3:rl a3=.texts:=by show(if a3=o then _ else _)=_;rw[HQ o3,HQ a31,HQ SA,n_]
  have SS:S3 a1≠none:=by rw[vg a1 SO j1];exact SO
  have SU:S3 a2≠none:=by rw[vg a2 SQ j2];exact SQ
  have SV:S3 a3≠none:=lo SJ;have g4:rl a4=.nums:=by show(if a4=o then _ else _)=_;rw[HQ o4,HQ (HR (aV SS q4)),HQ (HR (aV SU q4)),HQ (HR (aV SV q4)),n_]
  have SW:S4 a1≠none:=by rw[rj a1 SS j1];exact SS
  have SX:S4 a2≠none:=by rw[rj a2 SU j2];exact SU
  have SY:S4 a3≠none:=by rw[rj a3 SV o3];exact SV
  have SZ:S4 a4≠none:=lo SK;have g5:rl a5=.writ:=by show(if a5=o then _ else _)=_;rw[HQ o5,HQ (HR (aV SW q5)),HQ (HR (aV SX q5)),HQ (HR (aV SY q5)),HQ (HR (aV SZ q5)),n_]
  have t51:S5 a1≠none:=by rw[pi a1 SW j1];exact SW
  have t52:S5 a2≠none:=by rw[pi a2 SX j2];exact SX
  have t53:S5 a3≠none:=by rw[pi a3 SY o3];exact SY
  have t54:S5 a4≠none:=by rw[pi a4 SZ o4];exact SZ
  have t55:S5 a5≠none:=lo SL;have g6:rl a6=.hid:=by show(if a6=o then _ else _)=_;rw[HQ o6,HQ (HR (aV t51 q6)),HQ (HR (aV t52 q6)),HQ (HR (aV t53 q6)),HQ (HR (aV t54 q6)),HQ (HR (aV t55 q6)),n_]
  have XS:∀c,S2 c≠none->c≠o->c≠a3/\c≠a4/\c≠a5/\c≠a6:=λc L co=>by
   have s3:S3 c≠none:=by rw[vg c L co];exact L
   have s4:S4 c≠none:=by rw[rj c s3 co];exact s3
   have s5:S5 c≠none:=by rw[pi c s4 co];exact s4
   exact⟨aV L q3,aV s3 q4,aV s4 q5,aV s5 q6⟩
  have u1:∀c,N1 c≠none->c≠o->c≠a2->S2 c≠none:=λc hc Y L=>by rw[vf c Y L,l2 c hc];exact hc
  have u2:∀c,N2 c≠none->c≠o->c≠a2->S2 c≠none:=λc hc Y L=>by rw[vf c Y L];exact hc
  have S':Be S1 a2 B! a1≠none:=by rw[mup_ne (HR XR)];exact lo rf
  have TB:=nr a1 S';have TC:=ph a1 (by rw[l1 a1 S'];exact S');have TD:∀c,N1 c≠none->c≠o->c≠a1->c≠a2->rl c=if c=r1 then .rO root else if c=f1 then .rF root else if c=p1 then .rP root else if c=r2 then .rO binn else if c=f2 then .rF binn else if c=p2 then .rP binn else .oth:=λc hc h0 Y L=>by
   obtain⟨x3,x4,x5,x6⟩:=XS c (u1 c hc h0 L) h0;show"#("
  have TF:∀c,N2 c≠none->c≠o->c≠a1->c≠a2->rl c=if c=r1 then .rO root else if c=f1 then .rF root else if c=p1 then .rP root else if c=r2 then .rO binn else if c=f2 then .rF binn else if c=p2 then .rP binn else .oth:=λc hc h0 Y L=>by
   obtain⟨x3,x4,x5,x6⟩:=XS c (u2 c hc h0 L) h0;show"#("
  have h7:rl r1=.rO root:=by rw[TD r1 v1.1 (HR rm.1) (HR TB.1) (HR rq.1),n_]
  have h8:rl f1=.rF root:=by rw[TD f1 v1.2.1 (HR rm.2.1) (HR TB.2.1) (HR rq.2.1),HQ (HR R1.rne.1),n_]
  have h9:rl p1=.rP root:=by rw[TD p1 v1.2.2 (HR rm.2.2) (HR TB.2.2) (HR rq.2.2),HQ (HR R1.rne.2),HQ (HR R1.ne),n_]
  have b1:=ph r1 v1.1;have b2:=ph f1 v1.2.1;have b3:=ph p1 v1.2.2;have h10:rl r2=.rO binn:=by rw[TF r2 v2.1 (HR mo.1) (HR TC.1) (HR ma.1),HQ (HR b1.1),HQ (HR b2.1),HQ (HR b3.1),n_]
  have h11:rl f2=.rF binn:=by rw[TF f2 v2.2.1 (HR mo.2.1) (HR TC.2.1) (HR ma.2.1),HQ (HR b1.2.1),HQ (HR b2.2.1),HQ (HR b3.2.1),HQ (HR R2.rne.1),n_]
  have h12:rl p2=.rP binn:=by rw[TF p2 v2.2.2 (HR mo.2.2) (HR TC.2.2) (HR ma.2.2),HQ (HR b1.2.2),HQ (HR b2.2.2),HQ (HR b3.2.2),HQ (HR R2.rne.2),HQ (HR R2.ne),n_]
  have kr:kget pN! root=some (.fn r1):=by show zx!=_;rw[n_]
  have kb:kget pN! binn=some (.fn r2):=by
   show zx_;rw[HQ b3m,n_]
  have kr':kget pK_ root=some .non:=by show zx!=_;rw[n_]
  have kb':kget pK_ binn=some .non:=by
   show zx_;rw[HQ b3m,n_]
  exact{
      ob:=XI,d1:=⟨_,F1⟩,d2:=⟨_,F2⟩,d3:=⟨_,F3⟩,d4:=⟨_,F4⟩,d5:=⟨_,F5⟩,d6:=⟨_,F6⟩
      ro:=g0,r1:=g1,r2:=g2,r3:=g3,r4:=g4,r5:=g5,r6:=g6
      p0:=⟨kr',kb'⟩
      pr:=λi p h=>zd_
      row:=λx J=>by
       obtain J|rfl|rfl:=J
       .simp[W0]at J
       .exact⟨r1,f1,p1,kr,Q1,h7,h8,h9⟩
       .exact⟨r2,f2,p2,kb,Q2,h10,h11,h12⟩
      rown:=λx J=>by
       unfold Ew at J;rw[OL,OL]at J;show(if root=x then _ else(if binn=x then _ else _))=_;rw[HQ (HR J.2.1),HQ (HR J.2.2)];rfl
      txt:=λx J=>fI!
      txtn:=λx _=>rfl
      num:=λx J=>fI!
      wr:=λx J=>fI!
      hi:=λx J=>fI!
      hk:=λs hs=>(by simp[kget]at hs)
      l1:=by simp,l2:=by simp,l3:=by simp,l4:=by simp,l5:=by simp,l6:=by simp,lr:=by simp[W0],lt:=λx J=>fI!
      live:=λc hc=>by
       by_cases y0:c=o
       .rw[y0];exact lo XI
       by_cases u6:c=a1
       .rw[u6];exact lo F1
       by_cases u7:c=a2
       .rw[u7];exact lo F2
       by_cases k8:c=a3
       .rw[k8];exact lo F3
       by_cases k9:c=a4
       .rw[k9];exact lo F4
       by_cases oy:c=a5
       .rw[oy];exact lo F5
       by_cases u8:c=a6
       .rw[u8];exact lo F6
       by_cases u9:c=r1
       .rw[u9];exact Q1.live.1
       by_cases XT:c=f1
       .rw[XT];exact Q1.live.2.1
       by_cases XU:c=p1
       .rw[XU];exact Q1.live.2.2
       by_cases XV:c=r2
       .rw[XV];exact Q2.live.1
       by_cases XW:c=f2
       .rw[XW];exact Q2.live.2.1
       by_cases XX:c=p2
       .rw[XX];exact Q2.live.2.2
       exfalso;apply hc;show pR!=_;rw[HQ y0,HQ u6,HQ u7,HQ k8,HQ k9,HQ oy,HQ u8,HQ u9,HQ XT,HQ XU,HQ XV,HQ XW,HQ XX]}
 .obtain⟨d1,d2,d3,d4,d5,d6,d7,d8,d9,TH⟩:=dead b hb;refine⟨d1,?_⟩;show(if b=o then _ else _)=_;rw[HQ d2,HQ d3,HQ d4,HQ d5,HQ d6,HQ d7,HQ d8,HQ d9.1,HQ d9.2.1,HQ d9.2.2,HQ TH.1,HQ TH.2.1,HQ TH.2.2]
end
def c0s{α β:Type}{f:lq!}:∀{l:P_},(eG_).Nodup->∀{x y:α},x∈l->y∈l->f x=f y->x=y
 |[],_,_,_,h,_,_=>by cases h
 |a::l,nd,x,y,J,hy,e=>by
  rw[IA,IJ]at nd;obtain Y|Y:=HN.mp J<;>obtain L|L:=HN.mp hy
  .rw[Y,L]
  .exact absurd (by rw[<-Y,e];exact HZ L) nd.1
  .exact absurd (by rw[<-L,<-e];exact HZ Y) nd.1
  .exact c0s nd.2 Y L e
inductive Run:OW->List Op->OW->Prop
 |nil {W:OW}:Run W [] W
 |cons {W W1 W2:OW} {o:Op} {os:f_}:Stp W o.nm o.d W1->Run W1 os W2->Run W hP! W2
def Jd(wd:i!)(os:f_):List Op:=os.filter λo=>decide (Et o.d=none/\¬kget wd o.nm=some bk_)
section
variable{t:Au}{M:Mh}{R:D->Mh->Prop}
def EX(t:Au):WS:=Ah gu! sQ!
def b3t{e0:Nat}{ops:f_}(hq:∀x∈ops,kget kq x.nm≠none↔Undn wd x):∀(os:f_) (x1:D) (y z:an_) (M:Mh) (rl:bo!) (W W':OW) (pre:c!) (B:Nat) (R:j!),
  (∀x∈os,x∈ops/\DG x.d)->zA_->(kX!).Nodup->Ce t M o rl W B->Rs W pre->Run W pT! W'->B+20*ap!<3900->M q=some (.dct kq e0)->rl q=.oth->
  (∀M' ac y' z',Ce t M' o ac W' (B+20*ap!)->zB!->Fr M rl M' ac->R (.nx [R_,F!,aV!,y',z']) M')->
  Ib Q_ ae! (EX t) a0_ [R_,F!,aV!,y,z] M R
 |[],x1,y,z,M,rl,W,W',pre,B,R,_,_,_,hO,w,hr,_,_,_,hR=>by
  cases hr;exact⟨trivial,hR M rl y z hO ⟨pre,w⟩ .refl⟩
 |x::os,x1,y,z,M,rl,W,W',pre,B,R,hd,hp,nd,hO,w,hr,hB,pf,j0,hR=>by
  refine aI_;show Ah (Ao 4 _) _ zB_ M _;obtain⟨J,jr⟩:=hd x HP;simp only[IE]at hB hR;rw[IA,IJ]at nd;have es:Do M! Aq bx_ zB_=some x.nm:=zZ x;obtain⟨kn,gc⟩:=b1l x;have vj:Ih true M x.nm bR_=some (.bl (!(kget kq x.nm).isSome)):=by simp[Ih,pf,gc]
  have f4:Aa 4 ez_=some x.nm:=rfl;have vk:Aa 2 ez_=some bR_:=rfl;have f1':Aa 1 ez_=some N_:=rfl;have f3':f2 Ak M! al! ez_=some x.d:=by
   show Ak x.v bi!=_;simp[Op.v,Ak,Dc,Dz]
  show Av sO_ _ _ ez_ M _;simp only[Av,wT,w2,wl,f4,vk,vj];have hu:=hq x J;have rest:∀(M1:Mh) (dm:bo!) (W1:OW) (xx:c!),Ce t M1 o dm W1 bq!->Rs W1 xx->(∀y∈os,y.nm∉xx)->Run W1 pT! W'->Fr M rl M1 dm->Ib Q_ ae! (EX t) a0_ ez_ M1 R:=λM1 dm W1 xx Y L h3 h4 h5=>
   b3t (o:=o) (q:=q) (kq:=kq) (wd:=wd) (e0:=e0) hq os x1 pT_ (some x.nm) M1 dm W1 W' xx bq! R pU! h3 nd.2 Y L h4 a! ((zD!).1.trans pf) (zD!).2 (λM' ac y' z' g1 g2 g3=>hR M' ac y' z' (by rw[zD_];exact g1) g2 (h5.trans g3))
  by_cases c:kget kq x.nm=none
  .rw[c,IB fi_];have hc:∀(K:s_),Nt t [bc_,x.nm,x.d] M K->Aj 3 (Nt t) sP_ ez_ M K:=λK h=>by
    exact cc!
   refine hV (hc _ ?_);obtain⟨k,a,e,hk,_,xy⟩|⟨k,r,e,_,_,xy⟩:=rN jr
   .have:Jd wd hP_=Jd wd os:=by unfold Jd;rw[JP (by simp[xy])]
    rw[this]at hr;rw[e];exact c4u hk (rest M rl W pre oC_ w pU_ hr .refl)
   .have ce:¬kget wd x.nm=some bk_:=λz=>absurd c (hu.mpr ⟨xy,z⟩);have:Jd wd hP_=x::Jd wd os:=by unfold Jd;rw[JX (by simp[xy,ce])]
    rw[this]at hr;cases hr with
    |cons hs hr=>
     have w1:=a2d hs w kY!;refine c4t hO w kY! hs a! λM1 dm Y L=>rest M1 dm _ _ Y w1 zE! hr L;obtain z|z:=HV.mp z
     .exact hp y ea_ z
     .rw[HX]at z;exact nd.1 zE_
  .have hU:=hu.mp c;obtain⟨v,hv⟩:=Option.ne_none_iff_exists'.mp c;rw[hv,am_];have:Jd wd hP_=Jd wd os:=by unfold Jd;rw[JP (by simp[hU.1,hU.2])]
   rw[this]at hr;exact rest M rl W pre oC_ w pU_ hr .refl
def Ce.live{rl:bo!}{B:Nat}(h:aA!)(hb:rl b≠.oth):M b≠none:=by obtain⟨_,_,_,_,_,_,_,_,_,_,_,_,hA⟩:=h;exact hA.live b hb
def Ce.keep{M':Mh}{rl:bo!}{B:Nat}(hO:aA!)(k:pV_):Ce t M' o rl W B:=by
 obtain⟨a1,a2,a3,a4,a5,a6,k1,k2,k3,k4,k5,k6,hA⟩:=hO;refine⟨a1,a2,a3,a4,a5,a6,k1,k2,k3,k4,k5,k6,{hA with ob:=?_,d1:=?_,d2:=?_,d3:=?_,d4:=?_,d5:=?_,d6:=?_,row:=?_,txt:=?_,num:=?_,live:=?_}⟩
 .rw[k o O!];exact hA.ob
 .rw[k a1 bS_];exact hA.d1
 .rw[k a2 aA_];exact hA.d2
 .rw[k a3 aZ!];exact hA.d3
 .rw[k a4 aZ_];exact hA.d4
 .rw[k a5 aR_];exact hA.d5
 .rw[k a6 aB!];exact hA.d6
 .intro x J;obtain⟨r',f',p',v1,v2,v3,v4,v5⟩:=hA.row x J;exact zF!
 .intro x J;obtain⟨r',f',p',v1,v2,v3,v4,v5⟩:=hA.txt x J;exact zF!
 .intro x J;obtain⟨q',v1,v2,v3⟩:=hA.num x J;exact⟨q',v1,(k _ bF_).trans v2,v3⟩
 .intro b hb;rw[k b hb];show"#$"
def b6i{ops:f_}(nd:ew_)(nn:zG!)(hl:cN_)(hd:hH_)(hr:Run W0 fL_ W')
  (hR:∀o M' ac,M o=none->Ce t M' o ac W' 1500->zG_->(∀b,M b≠none->M' b=M b/\ac b=.oth)->R N_ M'):Kd t ck_ M R:=by
 refine j_;show Ah sO! _ zd! M _;simp only[Ah,Ao];refine a3o λo rl M1 ho hO fr=>?_;have hc:∀(K:s_),Kb ck_ M1 K->Aj 1 Kb aX_ [cO!,F!,none,none,none] M1 K:=λK h=>cc!;refine hc _ (zW nd hl hd λq M2 ep kq hq f8 pe pj=>?_);have hi:Ep iL_ zH!=some hF_:=vV (nE nd hl);show Dj (Il _) _ (EX t) zH! M2 _;simp only[Dj,Il,hi,Ef];have hp:(be_).Perm ops:=bP ops;have j0:rl q=.oth:=by
  by_cases z:rl q=.oth
  .exact z
  .obtain⟨_,_,_,_,_,_,_,_,_,_,_,_,hA⟩:=hO;exact absurd hq (hA.live q z)
 have hO2:Ce t M2 o rl W0 2:=hO.keep λc hc=>pj c (hO.live hc);have xr:∀x∈ops,kget kq x.nm≠none↔Undn kM_ x:=λx J=>by
  rw[pe];show"!L"
  .rintro⟨y,hy,e,hu⟩;have:y=x:=c0s nn hy J e;rw[<-this];exact hu
  .exact λh=>⟨x,J,rfl,h⟩
 refine b3t (t:=t) (wd:=pJ!) (e0:=ep) (ops:=ops) xr be_ hI! none none M2 rl W0 W' [] 2 _ (λx J=>⟨hp.mem_iff.mp J,hd x zH_⟩) zI! zI_ hO2 b5l hr k0_ f8 j0 λM' ac y' z' g1 g2 g3=>?_;refine hR o M' ac ho (g1.mono k0_) g2 λb hb=>?_;obtain⟨e1,e2⟩:=fr b hb;have e3:=pj b oh_;have g4:=g3 b zJ! e2;exact⟨by rw[g4.1,e3,e1],g4.2⟩
def c1z(o:Op):∀{l:f_},Ot Op.key l->∃u v,l=u++v/\Rm Op.key o l=u++o::v/\(∀x∈u,Lh o.key x.key=false)/\∀x∈v,Lh o.key x.key=true
 |[],_=>⟨[],[],rfl,rfl,H!,H!⟩
 |y::l,h=>by
  unfold Ot at h;rw[KF]at h;unfold Rm;cases e:Lh o.key y.key with
  |true=>
   refine⟨[],y::l,rfl,rfl,H!,aG!⟩;obtain rfl|J:=HN.mp J
   .exact e
   .exact jY e (h.1 x J)
  |false=>
   obtain⟨u,v,e1,e2,e3,e4⟩:=c1z o h.2;refine⟨y::u,v,by rw[e1];rfl,by rw[e2];rfl,aG!,e4⟩;obtain rfl|J:=HN.mp J
   .exact e
   .exact e3 x J
def d4q(a b c d:Int):HT.lexLt ap_ [c,d]=Lh aa_ (c,d):=by
 rw[LS,qR,HT.lexLt_cons];by_cases h:a=c
 .rw[IB h,HT.lexLt_cons];by_cases h':b=d
  .rw[IB h'];simp[HT.lexLt_nil_nil];omega
  .rw[HQ h',JA];show"#?";omega
 .rw[HQ h,JA];show"#?";omega
def Zr(l:f_)(o:Op):Nat->Bool
 |0=>false
 |j+1=>match l[j]? with|some f=>Lh o.key f.key|none=>false
def CG:Ae->Option Bool:=Cz ug! uh!
def b3z{l:f_}{o:Op}{k:Nat}(hk:k<=au_):CG [O_,zJ_,U_,k1!]=some (Zr l o k):=by
 cases k with
 |zero=>simp[CG,Cz,fT,f2,Aa,fC,Mm,Ch,Zr]
 |succ j=>
  have hj:j<au_:=hk;have e1:l[j]?=some l[j]:=II hj;have e2:Dc pW_ pX!=some (cn_).v:=by
   show"#8";simp[hj]
  have e3:Me 1 ja_ pY!=some (cn_).v:=by
   have:zK! - 1=(j:Nat):=by omega
   simp[Me,f2,Aa,fC,Dr,Ch,this,e2]
  have e4:Ak (cn_).v bx!=some (.int (cn_).tm):=by simp[Op.v,Ak,Dc,Dz]
  have e5:Ak (cn_).v L_=some (.int (cn_).h):=by simp[Op.v,Ak,Dc,Dz]
  have e6:Ak o.v bx!=some fM_:=by simp[Op.v,Ak,Dc,Dz]
  have e7:Ak o.v L_=some cP_:=by simp[Op.v,Ak,Dc,Dz]
  have e8:BE (.tup [.int (cn_).tm,.int (cn_).h]) yZ!=some (.bl (Lh o.key (cn_).key)):=by
   simp[BE,Nl,d4q,Op.key]
  have e9:Mm pX_ L_=some z_:=by simp[Mm,Ch]
  have f3:Aa 3 pY!=some pX_:=rfl;have vk:Aa 2 pY!=some o.v:=rfl;simp only[CG,Cz,fT,f2,f3,fC,ML,e9,Aw,Ac,Ag,e3,e4,e5,vk,e6,e7,JT,IE,LP,show(0+1+1:Nat)<=1000 by omega,e8,Zr,e1]
def a7g{o:Op}{u v:f_}(Y:∀x∈u,Lh o.key x.key=false)(L:∀x∈v,Lh o.key x.key=true)(R:j!)(hR:R (.nx k1_) M):
  ∀(m:Nat),m<=v.length->∃n,Df (Dd CG) nq_ n [O_,pZ_,U_,some (.int p1!)] M R
 |0,hm=>by
  refine fm_;have et:=b3z (x0:=x0) (o:=o) (l:=u++v) (k:=bZ!) d!;have ef:Zr bn_ o bZ!=false:=by
   cases hu:bZ! with
   |zero=>rfl
   |succ j=>
    have:bn_[j]?=some (u[j]' a!):=by rw[JZ a!,II a!]
    simp only[Zr,this];exact Y _ hR_
  rw[ef]at et;simp only[Df,Dd,Nat.add_zero,et];exact hR
 |m+1,hm=>by
  obtain⟨n,hn⟩:=a7g Y L R hR m a!;refine⟨n+1,?_⟩;have et:=b3z (x0:=x0) (o:=o) (l:=u++v) (k:=bZ!+(m+1)) ab_;have ef:Zr bn_ o (bZ!+(m+1))=true:=by
   show Zr bn_ o (bZ!+m+1)=true;have:bn_[bZ!+m]?=some (v[m]' a!):=by rw[JK a!,show u.length+m - u.length=m by omega,II a!]
   simp only[Zr,this];exact L _ hR_
  rw[ef]at et;have es:f2 Dr M! w! [O_,pZ_,U_,some (.int p1_)]=some (.int p1!):=by
   have:p1_ - 1=p1!:=by omega
   show Dr (.int p1_) aN!=_;simp only[Dr,Ch,this]
  simp only[Df,Dd,et,JT,Ao,wl,es];exact hn
def FY:WS:=Ah uf_ (Ah (Jl (Dd CG) nq_) uh_)
def b4a:∀(os:f_) (x0:D) (y z:an_) (acc:f_) (R:j!),Ot Op.key acc->((acc++os).map Op.key).Nodup->cR!+ap!<1000->
  (∀dq y' z',Ot Op.key dq->dq.Perm (acc++os)->R (.nx [O_,some (.lst (dq.map Op.v)),y',z']) M)->Ib bL_ ae! FY a0_ [O_,hS!,y,z] M R
 |[],x0,y,z,acc,R,hs,nd,hl,hR=>⟨trivial,hR acc y z hs d!⟩
 |o::os,x0,y,z,acc,R,hs,nd,hl,hR=>by
  refine aI_;show Ah (Ao 3 _) _ p2! M _;obtain⟨u,v,e1,e2,e3,e4⟩:=c1z o hs;simp only[IE]at hl;have el:Oq iB! p2!=some zN_:=by
   have:f1 Bp dO_ p2!=some zN_:=by
    show Bp [.lst zM_]=_;simp[Bp]
   unfold Oq;rw[this];rfl
  simp only[Ah,Ao,wl,el];have ap:cR!=bZ!+v.length:=by rw[e1,IG]
  rw[ap,e1];refine a7g e3 e4 _ ?_ v.length y!;have ei:Xa 1 M! x! k1_=some (.nx [O_,some (.lst ((k3!).map Op.v)),U_,some p0_]):=by
   have:(bn_).length<big:=by unfold big;rw[IG];omega
   have e3:Aa 3 k1_=some p0_:=rfl;have e2:Aa 2 k1_=some o.v:=rfl;unfold Xa;show(if 0<=(p0!:Int)/\(p0!:Int).toNat<=(pZ!).length/\(pZ!).length<big then _ else none)=_;rw[IB ⟨v!,H!,by rw[IK];exact this⟩];simp
  simp only[Ws,ei,Ef];have hp:(k3!).Perm (acc++[o]):=by rw[e1];simpa using(List.perm_middle (a:=o) (l₁:=u) (l₂:=v)).trans (List.perm_append_comm (l₁:=[o]) (l₂:=u++v))
  have b6:Ot Op.key k3!:=by
   rw[<-e2];refine yJ hs λy hy=>?_;rw[IU,IY]at nd;exact λz=>nd.2.2 _ (HZ hy) o.key d! z.symm
  have f9:((u++o::v++os).map Op.key).Nodup:=by
   have:(u++o::v++os).Perm (acc++o::os):=by
    have:=hp.append_right os;simpa using this
   exact(this.map _).nodup_iff.mpr nd
  exact b4a os x0 _ _ k3! R b6 f9 (by have:=hp.length_eq;simp at this;simp;omega) λdq y' z' Y L=>hR dq y' z' Y (L.trans (by have:=hp.append_right os;simpa using this))
def xB{ops:f_}(nd:ew_)(hl:cN_)(hR:R (.lst hF_) M):Fw ck_ M R:=by
 refine j_;show Ah iF! (Ah (Dj (Il eY_) bL_ FY) cv_) zO_ M _;have e1:Mt 1 Ag zO_=some (.nx zP!):=by simp[Mt,Ag]
 have e2:Ep m_ zP!=some ew!:=rfl;refine b4a ops _ none none [] _ (jv!) (by simpa using nd) ab_ λdq y' z' Y L=>?_;have:dq=srt ops:=lY Y lr! (by simpa using L.trans (by simpa using(bP ops).symm));rw[this];exact hR
def rC{neg:Bool}:Ih neg M U! o4_=some (.bl (if neg then ! o5! else o5!)):=by show Ih.inS neg M U! o4_=_;simp[Ih.inS,Su,Bi,Bx,Ii,Dp,a5d]
def GA:WS:=Av uj! uj_ Bn
def d3w{o:Op}(ho:hG_):∃k r,o.d=.tup cj!/\(Et o.d=none->hF!=false/\(k=="redo")=false)/\(∀u,Et o.d=some u->r=[u.2]/\k=u.1/\yY_/\NameG u.2):=by
 obtain⟨k,a,e,hk,jc,hu⟩|⟨k,r,e,Y,L,hu⟩:=rN ho
 .exact⟨k,[a],e,(λz=>by rw[z]at hu;cases hu),(λu mj=>by rw[hu]at mj;cases mj;exact⟨rfl,rfl,hk,jc⟩)⟩
 .exact⟨k,r,e,(λ_=>p4!),(λu mj=>by rw[hu]at mj;cases mj)⟩
def c1t{o:Op}(e:o.d=.tup cj!):pE_=some U!:=by
 have e3:Ak o.v bi!=some o.d:=by simp[Op.v,Ak,Dc,Dz]
 rw[e3,e];show Dc (D.str k::r) 0=_;show"#8";simp
def b2s{k:Str}(hk:yR_):p4_=true:=by
 obtain rfl|rfl:=hk
 .rw[y1_];rfl
 .rw[y2!];simp
def a3u:∀(os:f_) (x1:D) (y:an_) (acc:i!) (ep:Nat) (M:Mh) (R:j!),pF_->cR!+ap!<1000->M p=some pG!->
  (∀M' bd y',M' p=some (.dct (Gr kL! os acc) bd)->kL_->R y4! M')->
  Ib bL_ ae! GA a0_ pG_ M R
 |[],x1,y,acc,ep,M,R,_,_,hp,hR=>y5!
 |o::os,x1,y,acc,ep,M,R,hd,hl,hp,hR=>by
  refine aI_;show GA bX! M _;show Av _ _ _ bX! M _;have ho:=hd o HP;simp only[IE]at hl;obtain⟨k,r,e,hn,hs⟩:=d3w ho;have i0:f2 Ak a6! C! bX!=some U!:=c1t e;simp only[Av,wT,w2,wl,i0,fC,rC];cases hu:Et o.d with
  |none=>
   obtain⟨Y,L⟩:=hn hu;have:p4_=false:=by rw[zR!,p5!,Y,L];rfl
   rw[this];exact a3u (p:=p) os x1 ey! acc ep M R hH! a! hp y7!
  |some u=>
   obtain⟨g1,g2,hk,jc⟩:=hs u hu;rw[b2s hk];obtain⟨ka,km⟩:=a0q jc;have i1:f2 Ak a6! w! bX!=some u.2:=by
    have e3:Ak o.v bi!=some o.d:=by simp[Op.v,Ak,Dc,Dz]
    show y5_;rw[e3,e,g1];show Dc [D.str k,u.2] 1=_;simp[Dc,Dz]
   have i2:f2 Ba gt_ eX! bX!=some fG!:=by
    show(f2 Ak a6! C! bX!).bind (λx=>Ba x bk_)=_;rw[i0];exact gS k _
   have dt:=gZ (y:=u.2) (v:=.bl hF!) hp km hu_;have:=a3u (p:=p) os x1 ey! zU! zU_ (Be M p (.dct zU! zU_)) R hH! (by have:=kput_len acc u.2 fG!;omega) mup_same (λM' bd y' Y L=>hR M' bd y' (by
    unfold Gr;rw[hu];obtain⟨u1,u2⟩:=u;dsimp only at g2 Y ⊢;rw[<-g2];exact Y) λb hb=>(L b hb).trans pH!)
   simp only[Cf,wl,i1,i2,d3y,dt,Ef];exact this
def b1q{ops:f_}(nd:ew_)(hl:cN_)(hd:hH_)
  (hR:∀p M' ep,M p=none->M' p=some (.dct (Gr kL! be_ []) ep)->kL_->R D_ M'):Mn ck_ M R:=by
 refine j_;intro p hp;have bx:(be_).Perm ops:=bP ops;have hc:∀(K:s_),Fw ck_ eA! K->Aj 1 Fw aX_ pH_ eA! K:=λK h=>cc!;refine hc _ (xB nd hl ?_);exact a3u (p:=p) be_ hI! none [] 0 eA! _ y8! y8_ mup_same y9!
end
def Bh(q:D×D):D:=.tup [q.1,q.2]
def Bf(q:fj_):D:=.tup [q.1,q.2.1,.bl q.2.2]
inductive LR
 |w|wt|wn|q (x:D)|oth
nonrec def k3(rows wt wn:D):List aD!:=[(.str "rows",rows),(.str "texts",wt),(.str "numbers",wn)]
section
variable{a b c v:D}
def c7e:¬(D.str dl!=D.str ed!):=λz=>absurd k4_ k!
def c7f:¬(D.str dl!=D.str fk!):=λz=>absurd k4_ k!
def c7b:¬(D.str ed!=D.str fk!):=λz=>absurd k4_ k!
def k3r:kget hT_ d4!=some a:=by show k5!=_;rw[n_]
def k3t:kget hT_ nw!=some b:=by show zV!=_;rw[HQ c7e,n_]
def k3n:kget hT_ nA!=some c:=by show(if _ then _ else zV!)=_;rw[HQ c7f,HQ c7b,n_]
def k3p:As hT_ d4! v=k3 v b c:=by show k5!=_;rw[n_];rfl
end
def mZ{g:D->D}:∀{its:c!} {x:D},kget k5_ x=if x∈its then some (g x)else none
 |[],x=>by simp[kget]
 |i::its,x=>by
  rw[IA];unfold kget;by_cases e:i=x
  .subst e;simp
  .rw[HQ e,mZ];simp[HR e]
def a7v{g:D->D}{v:D}:∀{its:c!},its.Nodup->x∈its->As k5_ x v=its.map λi=>(i,if i=x then v else g i)
 |[],_,h=>by cases h
 |i::its,nd,h=>by
  rw[IJ]at nd;rw[IA,IA];unfold As;by_cases e:i=x
  .subst e;simp only[JT];congr 1;apply KI;intro j hj;rw[HQ λz:j=i=>nd.1 (z▸hj)]
  .rw[HQ e];simp only[e,JL];rw[a7v nd.2 ((HN.mp h).resolve_left (HR e))]
def a0v{g:D->D}{v:D}{its:c!}(h:x∉its):As k5_ x v=k5_++[(x,v)]:=iW (by rw[JQ];simpa using h)
structure Vl(M:Mh)(w:xT!)(rl:dz_)(W:OW)(wt wn:xT!)(qa:D->Addr):Prop where
 mw:∃e,M w=some (.dct hU! e)
 mt:∃e,M wt=some (.dct (W.its.map λi=>(i,.lst k6!)) e)
 mn:∃e,M wn=some (.dct (W.its.map λi=>(i,.fn fO_)) e)
 mq:∀i∈W.its,M fO_=some (.lst jR_)/\rl fO_=.q i
 rw_:rl w=.w
 rt:rl wt=.wt
 rn:rl wn=.wn
 live:∀b,rl b≠.oth->M b≠none
def Br(M:Mh)(w:xT!)(rl:dz_)(W:OW):Prop:=∃wt wn qa,Vl M w rl W wt wn qa
def Tn(M:Mh)(rl:dz_)(M':Mh)(ac:dz_):Prop:=∀b,M b≠none->rl b=.oth->M' b=M b/\ac b=.oth
def Tn.refl{M:Mh}{rl:dz_}:Tn M rl M rl:=λb _ h=>cc!
def Tn.trans{M M1 M2:Mh}{rl dm uw:dz_}(Y:Tn M rl M1 dm)(L:Tn M1 dm M2 uw):Tn M rl M2 uw:=λb hb hr=>by
 show"!q"
section
variable{M:Mh}{R:D->Mh->Prop}{w:xT!}{rl:Addr->LR}{W:OW}{ρ:Ae}
def gR{ep:Nat}(h:bV_)(hk:cl!):Bt M D_ y=kget kvs y:=by simp[Bt,h,hk]
def ixw{ep:Nat}{v:D}(h0:Aa 0 ρ=some D_)(h:bV_)(hv:kget kvs aT!=some v)(K:s_):w2 Bt h_ (wl (fC aT!)) ρ M K=K v M:=by have:Bt M D_ aT!=some v:=(gR (k:=some (.inl (.inr s))) h rfl).trans hv;simp only[w2,wl,h0,fC,this]
def vU{q:D×D}:Ak eB! L_=some q.1:=by simp[Bh,Ak,Dc,Dz]
def a4v{q:D×D}:Ak eB! aN!=some q.2:=by simp[Bh,Ak,Dc,Dz]
def jC{W:OW}(w:Bs W):∀q∈W.rows,Ik q.1/\Sd q.2/\Ew W q.2:=λq hq=>⟨w.nm _ ((w.ri q.1).mp (HZ hq)),a4z w (w.rp q.1 q.2 hq),w.rp q.1 q.2 hq⟩
def a5v(h:ab!)(wi:Bs W)(J:Sd x)(hl:k6_)(hR:R dl_ M):Jk [co!,x] M R:=by
 show"!y";obtain⟨e,hw⟩:=hA.mw;refine j_;show Az p6_ k7_ M _;simp only[Az,Bg,Ca,ixw (ρ:=k7_) rfl hw k3r];refine dv_;refine cP (λd=>match d with|.tup [_,p]=>decide (p=x)|_=>false) (λd=>match d with|.tup [i,_]=>i|_=>.non) trivial _ _ bG! ?_
 .show"!=";show"#4";refine p7!
  .have e1:fT uW! cR_=some zZ_:=by
    have:f2 Ba dM_ v_ cR_=some (.bl zZ_):=by
     show(Ak eB! aN!).bind z0_=_;rw[a4v];exact lE L J
    show"!J"
   simp only[Dd,e1];exact hK
  .have e1:f2 Ak m_ C! cR_=some q.1:=vU;exact hK
 .have e2:(((fN_).filter λd=>match d with|.tup [_,p]=>decide (p=x)|_=>false).map λd=>match d with|.tup [i,_]=>i|_=>.non)=chl W.rows x:=by
   rw[MF,JQ];rfl
  rw[e2];exact hR
end
def b7k(ha:Sd a)(hb:Sd b)(hc:Sd c)(hd:Sd d):Ba hU_ (.tup [c,d])=some (.bl (decide (a=c/\b=d))):=by
 unfold Ba;have d1:=iY ha;have d2:=iY hb;have e:En hU_ (.tup [c,d])=decide (a=c/\b=d):=by
  simp only[En,Jf,nF ha hc,nF hb hd,Bool.and_true];by_cases Y:a=c<;>by_cases L:b=d<;>simp[Y,L]
 rw[e];simp only[Bi,Bx,eA ha,eA hb,eA hc,eA hd,Ii,Dp,Bool.and_true,Bool.true_and];rw[IB ab_]
def c3a{xs:c!}{k:Nat}(h:k<=l_):Bj T! none k8!=some (.lst (xs.take k)):=by
 have e:HT.sIx xs.length xs.length k8!=k:=by rw[HT.sIx_nat];omega
 simp only[Bj];congr 2;unfold Dk;rw[e,HT.sIx_none];simp
def a9f{xs:c!}{k:Nat}(h:k<=l_):Bj T! k8! none=some (.lst (xs.drop k)):=by
 simp only[Bj];congr 2;have e:HT.sIx xs.length 0 k8!=k:=by rw[HT.sIx_nat];omega
 have e2:HT.sIx xs.length xs.length none=l_:=rfl;unfold Dk;rw[e,e2,AU_]
section
variable{M:Mh}{R:D->Mh->Prop}{w:xT!}{rl:Addr->LR}{W:OW}{ρ:Ae}
def DO:Ae->Option Bool:=Cz ul_ um_
def c6a{rs:i!}{k:Nat}(hk:k<=av!)(hl:av!<5000)(jf:z2!)(hp:Sd p):DO bZ_=some z3!:=by
 have el:f1 Bp gr_ bZ_=some k8_:=by
  show z3_;simp[Bp]
 by_cases c:k<av!
 .have e1:rs[k]?=some rs[k]:=II c;have ea:Dc eB_ bg!=some k9!:=by
   show"#8";simp[c]
  have e3:f2 Ak T_ I! bZ_=some k9!:=ea;have e4:Ka hQ! k8_=some z_:=by simp[Ka,Ch];exact c
  have e6:Eg (fP!).2 p=some z4!:=a3m (jf _ hR_).2 hp;have e7:f2 Eg um! x! bZ_=some z4!:=by
   show((f2 Ak T_ I! bZ_).bind λx=>Ak x aN!).bind (λz=>Eg z p)=_;rw[e3];show(Ak k9! aN!).bind _=_;rw[a4v];exact e6
  have e8:f2 Ka I! gM! bZ_=some z_:=by
   show z4_;rw[el];exact e4
  simp only[DO,Cz,fT,e8,e7,ML,JT,e1]
 .have e1:rs[k]?=none:=JW a!;have e4:Ka hQ! k8_=some Q!:=by simp[Ka,Ch];omega
  have e8:f2 Ka I! gM! bZ_=some Q!:=by
   show z4_;rw[el];exact e4
  simp only[DO,Cz,fT,e8,ML,e1];rfl
def c3e{rs:i!}{k:Nat}(hk:k<av!)(h:chl p7_ p=[])(hp:(fP!).2≠p):chl (rs.take V!) p=[]:=by rw[OE hk,eI,h];rw[vC hp];rfl
def a8q{rs:i!}(hl:av!<5000)(jf:z2!)(hp:Sd p)(R:j!)(hR:∀k:Nat,k<=av!->chl p7_ p=[]->R (.nx bZ_) M):
  ∀(m k:Nat),av! - k=m->k<=av!->chl p7_ p=[]->∃n,Df (Dd DO) un! n bZ_ M R
 |m,k,hm,hk,hc=>by
  have et:=c6a (x0:=x0) (i:=i) (s:=s) (y:=y) hk hl jf hp;by_cases c:k<av!/\(rs[k]?.map A_)≠some p
  .obtain⟨c1,c2⟩:=c;have e1:rs[k]?=some rs[k]:=II c1;rw[e1]at et c2;have c3:(fP!).2≠p:=λz=>c2 (by rw[<-z];rfl);rw[show(match(some rs[k]:Option aD!)with|some q=>!decide (q.2=p)|none=>false)=true by simp[c3]]at et;cases m with
   |zero=>omega
   |succ m=>
    obtain⟨n,hn⟩:=a8q hl jf hp R hR m V! a! a! (c3e c1 hc c3);refine⟨n+1,?_⟩;have es:f2 An I! w! bZ_=some p8_:=by
     show p9!;simp[An]
    simp only[Df,Dd,et,JT,Ao,wl,es];exact hn
  .refine fm_;have ef:z3!=false:=by
    cases e:rs[k]? with
    |none=>rfl
    |some q=>
     have c1:k<av!:=(p9_).1;have:q.2=p:=by
      by_cases z:q.2=p
      .exact z
      .exact absurd ⟨c1,by rw[e];simp[z]⟩ c
     simp[this]
   rw[ef]at et;simp only[Df,Dd,et];exact hR k hk hc
def GE:WS:=Av uq! up_ Bn
def GL(rs:i!)(s p:D)(k0 k at_:Nat):Prop:=(at_=k0/\∀j<k,rs[j]?≠some dk_)\/∃j<k,rs[j]?=some dk_/\at_=j+1
def b1v{rs:i!}{k0:Nat}(hl:av!<5000)(jf:∀q∈rs,Sd q.1/\Sd q.2/\q.1≠.non)(hp:Sd p)(hs:Sd s)(R:j!)(hR:∀(a:Nat) y,GL rs s p k0 rs.length a->R (.nx z5_) M):
  ∀(m k a:Nat) (y:an_),av! - k=m->k<=av!->GL rs s p k0 k a->Ib gJ_ ae! GE z6_ z5_ M R
 |0,k,a,y,hm,hk,ha=>⟨trivial,hR a y (by rw[show rs.length=k by omega];exact ha)⟩
 |m+1,k,a,y,hm,hk,ha=>by
  have c1:k<av!:=by omega
  refine aI_;show GE eC! M _;have e1:rs[k]?=some rs[k]:=II c1;obtain⟨q1,q2,q3⟩:=jf rs[k] hR_;have ea:f2 Ak T_ bj! eC!=some k9!:=by
   show Dc eB_ bg!=_;show"#8";simp[c1]
  have et:f2 Ba uo! uX! eC!=some (.bl (decide ((fP!).1=s/\(fP!).2=p))):=by
   show(f2 Ak T_ bj! eC!).bind (λz=>Ba z (.tup [s,p]))=_;rw[ea];exact b7k q1 q2 hs hp
  have en:f2 Ar M! cg_ eC!=some (.bl (!Cn s)):=rfl;have cond:Cz un_ uo_ eC!=some (decide (rs[k]=dk_)):=by
   simp only[Cz,fT,en,et,ML];by_cases z:s=.non
   .rw[show Cn s=true from a1a.mpr z];have:¬rs[k]=dk_:=λy=>q3 w8_;simp[this]
   .rw[jZ z];simp only[PM,JT];congr 1;rw[decide_eq_decide];exact⟨λy=>Prod.ext y.1 y.2,λy=>by rw[y];exact bi_⟩
  have es:f2 An bj! w! eC!=some p8_:=by
   show p9!;simp[An]
  by_cases z:rs[k]=dk_
  .refine z7_;exact b1v hl jf hp hs R hR m V! V! _ a! a! (.inr ⟨k,v!,by rw[e1,z],rfl⟩)
  .refine iX z8! ?_;refine b1v hl jf hp hs R hR m V! a _ a! a! ?_;obtain⟨Y,L⟩|⟨j,Y,L,h3⟩:=ha
   .refine .inl ⟨Y,kd!⟩;by_cases y:j=k
    .rw[y,e1];exact λx=>z (JJ x)
    .exact L j a!
   .exact z9_
def Vl.setRows{qa:D->Addr}{rows':i!}{e:Nat}(hA:Aa!):Vl (Be M w qa_) w rl {W with rows:=rows'} wt wn qa/\Tn M rl (Be M w qa_) rl:=by
 have aw:∀b,rl b≠.w->Be M w qa_ b=M b:=λb hb=>mup_ne λz=>hb (by rw[z];exact hA.rw_);refine⟨⟨jT!,?_,?_,fE!,hA.rw_,hA.rt,hA.rn,by_⟩,Ab_⟩
 .rw[aw wt qb!];exact hA.mt
 .rw[qb_];exact hA.mn
 .show"#3"
 .by_cases z:b=w
  .rw[z,mup_same];simp
  .rw[j2!];show"#$"
def a9s(h:ab!)(jf:∀q∈W.rows,Sd q.1/\Sd q.2/\q.1≠.non)(hi:Sd i)(hp:Sd p)(hs:Sd s)(hl:cc_<4000)
  (hR:∀M' rows',Qe W.rows i p s rows'->Br M' w rl {W with rows:=rows'}->Tn M rl M' rl->R .non M'):Gq [co!,i,p,s] M R:=by
 show"!y";obtain⟨e,hw⟩:=hA.mw;refine j_;show Ah (Ao 4 p6_) _ Ac_ M _;simp only[Ah,Ao,Bg,Ca,ixw (ρ:=Ac_) rfl hw k3r];refine dv_;have sub:∀q∈wo W.rows i,q∈W.rows:=λq hq=>(n9!).1;have lw:(ke_).length<=cc_:=NA _ _;refine cP (λd=>match d with|.tup [a,_]=>!decide (a=i)|_=>false) id trivial _ _ bG! ?_
 .obtain⟨q,hq,rfl⟩:=IH.mp hd;obtain⟨Y,_,_⟩:=jf q hq;refine⟨qc_,rfl,ev_,yW!⟩;have e1:fT ul! qc_=some Ae!:=by
   have:f2 Eg aW_ v_ qc_=some (.bl Ae!):=by
    show(Ak eB! L_).bind (λz=>Eg z i)=_;rw[vU];exact a3m Y hi
   show"!J"
  simp only[Dd,e1];exact hK
 have e2:((fN_).filter λd=>match d with|.tup [a,_]=>!decide (a=i)|_=>false).map id=(ke_).map Bh:=by
  rw[RU,MF];congr 1;apply KS;intro q _;simp[Bh]
 rw[e2];generalize XY:wo W.rows i=rs at *;have TK:∀q∈rs,Sd q.1/\Sd q.2/\q.1≠.non:=λq hq=>jf q (sub q hq);refine a8q (M:=M) a! (λq hq=>⟨(TK q hq).1,(TK q hq).2.1⟩) hp _ (λk0 hk0 hc0=>?_) rs.length 0 a! a! (by rw[List.take_zero];rfl);have hr:Eu gM! Ae_=some ((List.range' 0 av!).map λj=>D.int pX!):=by
  have:f1 Bp gr_ Ae_=some k8_:=by
   show z3_;simp[Bp]
  unfold Eu;rw[this];show(if -1000<=qd_/\qd_<=100000 then some (Ds (qd_).toNat)else none)=_;rw[a1!];simp[Ds,List.range_eq_range']
 simp only[Dj,Il,hr,Ef];refine b1v (M:=M) a! TK hp hs _ (λa y ha=>?_) rs.length 0 k0 none a! a! Af!;have vm:a<=av!:=by
  obtain⟨Y,_⟩|⟨j,Y,_,h3⟩:=ha<;>omega
 have ev:f2 An ur! us_ fP_=some la_:=by
  have s1:Do T_ Aq e8! fP_=some qe!:=c3a lb!;have s2:Do T_ e8! Aq fP_=some Ag!:=a9f lb!;have s3:Di uq_ fP_=some qf_:=rfl;have a1:An qe! qf_=some Ag_:=by
   show hx!;rw[lb_]
  have a2:An Ag_ Ag!=some la_:=by
   show hx!;rw[lb_];simp
  show((Do T_ Aq e8! _).bind λx=>(Di _ _).bind λz=>An x z).bind (λx=>(Do T_ e8! Aq _).bind λz=>An x z)=_;rw[s1,s3,s2];show(An qe! qf_).bind (λx=>An x _)=_;rw[a1];exact a2
 have dt:Lf M bH! d4! la_=some (Be M w (.dct (k3 la_ fO! eA_) (Gs hU! d4! e))):=by
  rw[gZ (k:=Ah_) hw rfl (by show 3<big;decide),k3p]
 have f0:Aa 0 fP_=some bH!:=rfl;obtain⟨g1,g2⟩:=hA.setRows (rows':=rs.take a++bQ_::rs.drop a) (e:=Gs hU! d4! e);have fin:=hR _ Af_ ⟨rs.take a,rs.drop a,by rw[XY,List.take_append_drop],rfl,?_⟩ Aj! g2
 .show Cf h_ gL_ (wl _) fP_ M _;simp only[Cf,wl,ev,f0,fC,dt,Ef];exact fin
 .rw[XY];obtain⟨Y,L⟩|⟨j,Y,L,h3⟩:=ha
  .refine .inl ⟨cl_,by rw[Y];exact hc0⟩;obtain⟨j,hj⟩:=MX.mp oX_;exact L j (IL.mp hj).1 hj
  .refine .inr ⟨rs.take j,?_⟩;have hj:j<av!:=(IL.mp L).1;rw[h3,OE hj,(IL.mp L).2]
def b1x{rows:i!}(nd:fC_):(rows.filter λq=>decide hW_)=match rows.find? Aj_ with|some q=>[q]|none=>[]:=by
 induction rows with
 |nil=>rfl
 |cons a r ih=>
  rw[IA,IJ]at nd;by_cases e:a.1=x
  .rw[JX hg!,List.find?_cons_of_pos hg!];have:r.filter Aj_=[]:=by
    rw[QH];intro q hq;simp only[JA];exact λz=>nd.1 (by rw[e,<-z];exact HZ hq)
   rw[this]
  .rw[JP hg!,List.find?_cons_of_neg hg!,ih nd.2]
def b5i{W:OW}(wi:Bs W)(h:jO!):lc!=[bb_]:=by
 rw[b1x wi.rnd];cases e:W.rows.find? λq=>decide hW_ with
 |none=>have:=List.find?_eq_none.mp e bb_ h;simp at this
 |some q=>
  have Y:=List.find?_some e;have L:=List.mem_of_find?_eq_some e;simp at Y;have:q.2=p:=kA wi.rnd (by rw[<-Y];exact L) h;obtain⟨a,b⟩:=q;dsimp only at Y this ⊢;rw[Y,this]
def d1k{W:OW}(wi:Bs W)(h:∀p,bb_∉W.rows):lc!=[]:=by rw[QH];rintro⟨a,b⟩ hq;simp only[JA];exact λz=>h b vU!
def EY:WS:=Ah ut_
 (Ah uv_
 (Ao 1 gB!))
def a0u(h:ab!)(wi:Bs W)(hl:k6_)(hi:Ik i){rk:D->Nat}(ii:wk_):∀(n:Nat) (x:D) (y:an_),rk x<n->Ew W x->∀(R':j!),(Wn W.rows i x->∀y',R' (.nx [B_,K!,K!,y']) M)->(¬Wn W.rows i x->R' (.rt Q!) M)->
   ∃m,Df (Dd iH!) EY m fQ! M R'
 |0,x,y,hn,_,_,_,_=>by omega
 |n+1,x,y,hn,J,R',r1,r2=>by
  obtain⟨wt,wn,qa,hA⟩:=id h;obtain⟨e0,hw⟩:=hA.mw;have sx:=a4z wi J;have et:fT sk_ fQ!=some qh!:=by
   have:f2 Eg v_ x! fQ!=some (.bl qh!):=a3m sx hi.sd;show"!J"
  by_cases e:x=i
  .subst e;refine fm_;simp only[Df,Dd,et];exact r1 .here y
  .rw[show qh!=true by simp[e]]at et;have body:∀(K:j!),(wl_->K (.rt Q!) M)->(∀p,bb_∈W.rows->K (.nx [B_,cG!,K!,some qh_]) M)->EY fQ! M K:=λK g1 g2=>by
    show Ah (Ao 3 p6_) _ fQ! M _;simp only[Ah,Ao,Bg,Ca,ixw (ρ:=fQ!) rfl hw k3r];refine dv_;refine cP (λd=>match d with|.tup [a,_]=>decide (a=x)|_=>false) (λd=>match d with|.tup [_,p]=>p|_=>.non) trivial _ _ bG! ?_
    .show"!=";obtain⟨Y,_,_⟩:=jC wi q hq;refine p7!
     .have e1:fT jd_ cR_=some ld!:=by
       have:f2 Ba aW_ v_ cR_=some (.bl ld!):=by
        show Al!;rw[vU];exact lE Y.sd sx
       show"!J"
      simp only[Dd,e1];exact hK
     .have e1:f2 Ak m_ w! cR_=some q.2:=a4v;exact hK
    .have e2:(((fN_).filter λd=>match d with|.tup [a,_]=>decide (a=x)|_=>false).map λd=>match d with|.tup [_,p]=>p|_=>.non)=(lc!).map A_:=by
      rw[MF,JQ];rfl
     rw[e2];by_cases c:∃p,bb_∈W.rows
     .obtain⟨p,hp⟩:=c;rw[b5i wi hp];refine iX rfl ?_;have e3:f2 Ak M! C! [B_,aI!,K!,some qh_]=some p:=rfl;exact g2 p hp
     .have c':∀p,bb_∉W.rows:=λp z=>c ⟨p,z⟩;rw[d1k wi c'];refine ifT rfl ?_;exact g1 c'
   obtain J|J:=J
   .obtain⟨p,hp⟩:=b0p wi J;have q:=a9w wi.rnd hp e;have:=ii _ _ hp;have key:∀y',∃m,Df (Dd iH!) EY m [B_,cG!,K!,y'] M R':=λy'=>a0u h wi hl hi ii n p y' a! (wi.rp _ _ hp) R' wm_ (λz=>r2 λv=>z (q.mp v));obtain⟨m,hm⟩:=key (some qh_);refine⟨m+1,?_⟩;simp only[Df,Dd,et,JT];exact body _ (λnt=>absurd hp (nt p)) λp' bx=>by rw[kA wi.rnd bx hp];exact hm
   .have nt:∀p,bb_∉W.rows:=by
     obtain rfl|rfl:=J
     .exact tG wi (b3i wi)
     .exact tG wi (c3l wi)
    refine fm_;simp only[Df,Dd,et,JT];exact body _ (λ_=>r2 (b7w nt e)) (λp hp=>absurd hp (nt p))
def c3m(h:ab!)(wi:Bs W)(hl:k6_)(J:bS!)(hi:Ik i)(hR:∀b:Bool,(b=true↔Wn W.rows i x)->R bK! M):Mp [co!,x,i] M R:=by obtain⟨rk,ii⟩:=wi.rk;refine j_;exact a0u h wi hl hi ii (rk x+1) x none a! J _ (λz y'=>hR true f9!) (λz=>hR false f9!)
def b4s{neg:Bool}{ep:Nat}(h:bV_)(hk:cl!):Ih neg M y D_=some (.bl (if neg then !(hX!).isSome else(hX!).isSome)):=by simp[Ih,h,hk]
def c5x(J:Sd x)(ha:Sd a)(hb:Sd b):Ih false M x hU_=some (.bl (decide (x=a\/x=b))):=by
 have d1:=iY ha;have d2:=iY hb;have e:((ap_).any λd=>En d x)=decide (x=a\/x=b):=by
  simp only[MB,List.any_nil,Bool.or_false,nF ha J,nF hb J];by_cases Y:a=x<;>by_cases L:b=x<;>simp[Y,L,HR]<;>first|exact .inl Y.symm|exact .inr L.symm|exact⟨λz=>Y z.symm,λz=>L z.symm⟩|skip
 show Ih.inS false M x hU_=_;show(if Bi x&&Bx ap_&&decide (Dp ap_<=40)then some (D.bl (if false=true then _ else[a,b].any λd=>En d x))else none)=_;rw[IB (by simp[eA J,Bx,eA ha,eA hb,Dp];omega),e];rfl
def d4f{g:bf!}{fx:e!}{fb:WE}(J:fx ρ=some x)(K:s_):w2 g ld_ fb ρ M K=fb ρ M λy M2=>match g M2 x y with|some d=>K d M2|none=>False:=by simp only[w2,wl,J]<;>rfl
def b8h{W:OW}:(kget eC_ x).isSome=decide g7!:=by rw[mZ];by_cases h:x∈W.its<;>simp[h]
def rB{fx:e!}(h:ab!)(h0:hX_)(J:fx ρ=some x)(hk:aC_)(K:s_):w2 by! ld_ bl_ ρ M K=K (.bl (decide g7!)) M:=by obtain⟨wt,wn,qa,hA⟩:=h;obtain⟨e0,hw⟩:=hA.mw;obtain⟨e1,ht⟩:=hA.mt;have hi:=ixw (M:=M) (ρ:=ρ) (s:=hM!) h0 hw k3t;have e:=b4s (neg:=false) ht hk;rw[show(if false=true then _ else(kget eC_ x).isSome)=decide g7! from b8h]at e;rw[d4f J,hi,e]
def a9r(h:ab!)(wi:Bs W)(hl:cc_<4000)(hi:Sd i)(J:Sd x)(hs:Sd s)(cu:fo!)(gi:on!)
  (hR:∀M' W',(eg_->∃rows',Qe W.rows i x s rows'/\W'={W with rows:=rows'})->(¬eg_->W'=W)->Br M' w rl W'->Tn M rl M' rl->R .non M'):Jj [co!,i,x,s] M R:=by
 refine j_;show Av (Hb (wT _) (Ux (wT _) (wT _))) _ Bn dA! M _;have g1:=rB (ρ:=dA!) (fx:=Aa 1) h rfl rfl cu;have g2:=rB (ρ:=dA!) (fx:=Aa 2) h rfl rfl gi;have g3:∀K:D->Mh->Prop,w2 by! C_ ux! dA! M K=K (.bl (decide (x=root\/x=binn))) M:=λK=>by
  have vk:Aa 2 dA!=some x:=rfl;have:=c5x (M:=M) J (iO "root") (iO "bin");simp only[w2,wl,vk,fC,this]
 have no:(¬eg_)->R .non M:=λc=>hR M W (λz=>absurd z c) (λ_=>rfl) h .refl;have XZ:i∈W.its->Ew W x->Av uy! uz! Bn dA! M g9!:=λc1 c2=>by
  have hc:∀(K:s_),Mp [co!,x,i] M K->Aj 3 Mp ux_ dA! M K:=λK h=>cc!;refine hc _ (c3m h wi a! c2 (wi.nm i c1) λb hb=>?_);cases b with
  |true=>exact no λz=>z.2.2 (hb.mp rfl)
  |false=>
   have nw:¬Wn W.rows i x:=λz=>by have:=hb.mpr z;cases this
   have iq:∀(K:s_),Gq [co!,i,x,s] M K->Aj 4 Gq uy_ dA! M K:=λK h=>cc!;simp only[PM,JT];refine hV (iq _ (a9s h ei_ hi J hs hl λM' rows' hg hL hF=>?_))
   .show"#4";exact⟨Y.sd,L,Y.nn.1⟩
   .exact hR M' _ (λ_=>⟨rows',hg,rfl⟩) (λz=>absurd ⟨c1,c2,nw⟩ z) hL hF
 simp only[Av,Hb,Ux,wT,g1];by_cases c1:i∈W.its
 .rw[IV c1];simp only[JT,g2];by_cases c2:x∈W.its
  .rw[IV c2];exact XZ c1 (.inl c2)
  .rw[IF c2];simp only[IW,JL,g3];by_cases c3:x=root\/x=binn
   .rw[IV c3];exact XZ c1 (.inr c3)
   .rw[IF c3];exact no λz=>z.2.1.elim c2 c3
 .rw[IF c1];exact no λz=>c1 z.1
end
def Xr:WS:=(Ah uB!
 (Ah nz!
 (Ah nB_
 nC!)))
def Xq:WS:=uE!
def DD:WS:=uG!
def Th:WS:=(Ah jk!
 (Ah (Ao 6 a5_)
 (Ah (Dj nE! (Cg 7) DD)
 (Ah uI!
 uK!))))
def Xs:WS:=(Ah uM!
 (Ah jk!
 uP!))
abbrev knd(k:Str):Ae->Option Bool:=fT (f2 Ba bA! (fC U!))
abbrev Uj:WT:=wT gM_
def c4l:Xm=Ah ny! (Ah ny_
 (Av Am_ Xr (Av An! nD! (Av An_ nD_
  (Av Ao! Xq Ao_))))):=rfl
section
variable{M:Mh}{R:D->Mh->Prop}{w:xT!}{rl:Addr->LR}{W:OW}{ρ:Ae}{pre:List D}
def c1l(h:qj!):knd k' ρ=some kE_:=by
 have e:Ak eu! L_=some U!:=by
  show pu!;show"#8";simp
 have:f2 Ba bA! (fC pt_) ρ=some (.bl kE_):=by
  show((le!).bind λx=>Ak x L_).bind (λx=>Ba x pt_)=_;rw[h];show(Ak eu! L_).bind _=_;rw[e];exact gS k k'
 unfold knd fT;rw[this];rfl
def p1(h:Ap!):f2 Ak x! w! ρ=some a:=by show(le!).bind (λx=>Ak x aN!)=_;rw[h];exact ix1
def p2(h:Aa 2 ρ=some pv_):f2 Ak x! S_ ρ=some b:=by show(le!).bind (λx=>Ak x bx!)=_;rw[h];exact ix2
def p3(h:Aa 2 ρ=some pw!):f2 Ak x! al! ρ=some c:=by show(le!).bind (λx=>Ak x bi!)=_;rw[h];exact ix3
def anF{ft:ah!}{fu:WT}{q1 q2:WS}{R:j!}(h:yI!)(k:dt_):Av Ap_ q1 q2 ρ M R:=by simp only[Av,Hb,Dd,h];exact k
def anT{ft:ah!}{fu:WT}{q1 q2:WS}{R:j!}{b:Bool}(h:yH_)(hu:∀K:Bool->Mh->Prop,K b M->fu ρ M K)(k1:Aq!)(k2:Aq_):Av Ap_ q1 q2 ρ M R:=by
 simp only[Av,Hb,Dd,h,JT];refine hu _ ?_;cases b with
 |true=>rw[n_];exact k1 rfl
 |false=>rw[am_];exact k2 rfl
def a5b(h:ab!)(h0:hX_)(L:Ap!)(hk:dq_)(K:fJ_)(hK:K (decide (a∈W.its)) M):Uj ρ M K:=by unfold Uj wT;rw[rB h h0 (p1 L) hk];exact hK
def Cy.sd(h:Cy x):Sd x:=by
 obtain rfl|rfl|⟨a,b,rfl,_⟩:=h
 .exact iO _
 .exact iO _
 .exact .inr oi_
def Mz.sd(h:Mz x):Sd x:=by
 obtain rfl|⟨a,b,rfl,_⟩:=h
 .exact c0!
 .exact .inr oi_
def La.sd(h:La x):Sd x:=by
 obtain rfl|⟨a,b,c,rfl,_⟩:=h
 .exact c0!
 .exact .inr wh_
def Vl.setTx{qa:D->Addr}{l:ag_}{e:Nat}(hA:Aa!)(nd:n8!)(ha:ec!):Vl (Be M wt qj_) w rl of! wt wn qa/\Tn M rl (Be M wt qj_) rl:=by
 have aw:∀b,rl b≠.wt->Be M wt qj_ b=M b:=λb hb=>mup_ne λz=>hb (by rw[z];exact hA.rt);refine⟨⟨?_,gS_,?_,fE!,hA.rw_,hA.rt,hA.rn,by_⟩,Ab_⟩
 .rw[aw w qk!];exact hA.mw
 .rw[mup_same,a7v nd ha];congr 2;apply KI;intro i _;show(i,if i=a then D.lst le_ else D.lst k6!)=(i,D.lst ((if i=a then l else W.txt i).map Bf));split<;>rfl
 .rw[qb_];exact hA.mn
 .show"#3"
 .by_cases z:b=wt
  .rw[z,mup_same];simp
  .rw[j2!];show"#$"
def c2q{p v:Int}{R:j!}(h:ab!)(wi:Bs W)(ha:ec!)(hk:dq_)(h0:hX_)(L:Aa 2 ρ=some kC!)(p0:0<=p)(p3':p<=3)
  (hR:∀M',Br M' w rl (Ss W a kD!)->Tn M rl M' rl->R aK! M'):Xq ρ M R:=by
 obtain⟨wt,wn,qa,hA⟩:=h;obtain⟨e0,hw⟩:=hA.mw;obtain⟨e2,hn⟩:=hA.mn;obtain⟨hq,j0⟩:=hA.mq a ha;have hi:=ixw (M:=M) (ρ:=ρ) (s:=pO!) h0 hw k3n;have hg:Bt M eA_ a=some qk_:=by rw[gR hn hk,mZ,IB ha]
 have J:Dz (po!).length p=some p.toNat:=by
  rw[wi.nl a ha];unfold Dz;rw[IB p0,a1!]
 have dt:Lf M qk_ (.int p) kC_=some (Be M (qa a) (.lst kD!)):=by simp[Lf,hq,J]
 have aw:∀b,rl b≠.q a->Be M (qa a) (.lst kD!) b=M b:=λb hb=>mup_ne λz=>hb wo!;have fin:=hR _ ⟨wt,wn,qa,⟨by rw[aw w qk!];exact hA.mw,by rw[aw wt qb!];exact hA.mt,by rw[qb_];exact hA.mn,λi hi=>by
   by_cases c:i=a
   .subst c;refine⟨?_,j0⟩;rw[mup_same];simp[Ss]
   .obtain⟨g1,g2⟩:=hA.mq i hi;refine⟨?_,g2⟩;rw[aw _ (by rw[g2];simpa using c),g1];simp[Ss,c],hA.rw_,hA.rt,hA.rn,λb hb=>by
   by_cases z:b=qa a
   .rw[z,mup_same];simp
   .rw[j2!];exact hA.live b hb⟩⟩ (λb _ hr=>Ab!)
 show Cf uD_ gv! (wl a6!) ρ M R;have e3:=p3 L;have e2':=p2 L;have e1:=p1 L;have vj:∀K:D->Mh->Prop,w2 Bt nB! b5! ρ M K=K qk_ M:=λK=>by
  have st:∀{fo:WE} {fb:e!} {x y:D} (_:Au!) (_:fb ρ=some y) (K:s_),w2 Bt fo hI_ ρ M K=(match Bt M x y with|some d=>K d M|none=>False):=λY L K=>by
   unfold w2;rw[Y];simp only[wl,L]<;>rfl
  rw[st hi e1,hg]
 unfold Cf;simp only[wl,e3];rw[vj];simp only[wl,e2',dt,Ef];exact fin
def d4g{g:bf!}{fo:WE}{fb:e!}(Y:Au!)(L:fb ρ=some y)(K:s_):w2 g fo hI_ ρ M K=(match g M x y with|some d=>K d M|none=>False):=by unfold w2;rw[Y];simp only[wl,L]<;>rfl
def b8e{fx:e!}(h:ab!)(h0:hX_)(J:fx ρ=some a)(hk:dq_)(ha:ec!)(K:s_):w2 Bt bl_ ld_ ρ M K=K (.lst eD!) M:=by obtain⟨wt,wn,qa,hA⟩:=h;obtain⟨e0,hw⟩:=hA.mw;obtain⟨e1,ht⟩:=hA.mt;rw[d4g (ixw (M:=M) (ρ:=ρ) (s:=hM!) h0 hw k3t) J,gR ht hk,mZ,IB ha]
def d4h{q:fj_}:Ak (Bf q) L_=some q.1:=by simp[Bf,Ak,Dc,Dz]
def d2a{q:fj_}:Ak (Bf q) aN!=some q.2.1:=by simp[Bf,Ak,Dc,Dz]
def d1z{q:fj_}:Ak (Bf q) bx!=some ql_:=by simp[Bf,Ak,Dc,Dz]
def c5y{neg:Bool}(J:Sd x)(hl:∀d∈l,Sd d):Ih neg M x (.lst l)=some (.bl (if neg then !decide (x∈l)else decide (x∈l))):=by
 have e:Au_=decide (x∈l):=by
  rw[LS,List.any_eq_true,JA];show"!L"
  .rintro⟨d,hd,he⟩;rw[nF (hl d hd) J,JA]at he;rw[<-he];exact hd
  .intro h;exact⟨x,h,by rw[nF J J];simp⟩
 have n:∀l:List D,(∀d∈l,Sd d)->Bx l=true/\Dp l<=5:=λl=>by
  induction l with
  |nil=>intro _;simp[Bx,Dp]
  |cons a r ih=>
   intro h;obtain⟨i1,i2⟩:=ih λd hd=>h d (HL _ hd)
   have Y:=eA (h a HP);have L:=iY (h a HP);refine⟨by simp[Bx,Y,i1],by simp[Dp];omega⟩
 obtain⟨n1,n2⟩:=n l hl;show Ih.inS neg M x (.lst l)=_;show(if Bi x&&Bx l&&decide (Dp l<=40)then some (D.bl (if neg=true then ! Au_ else l.any λd=>En d x))else none)=_;rw[IB (by rw[eA J,n1];simp;omega),e]
def b9a{fx:e!}{fv:WE}{l:ag_}{R:j!}(h:ab!)(nd:n8!)(hB:hY_<5000)(h0:hX_)(J:fx ρ=some a)(hk:dq_)(ha:ec!)(hv:∀K:D->Mh->Prop,K lf! M->fv ρ M K)
  (hR:∀M',Br M' w rl of!->Tn M rl M' rl->R aK! M'):Cf bl_ ld_ fv ρ M R:=by
 show"!y";obtain⟨e0,hw⟩:=hA.mw;obtain⟨e1,ht⟩:=hA.mt;refine hv _ ?_;rw[ixw (M:=M) (ρ:=ρ) (s:=hM!) h0 hw k3t];have dt:=gZ (y:=a) (v:=.lst le_) ht hk fQ_;simp only[wl,J,dt,Ef];obtain⟨g1,g2⟩:=hA.setTx (a:=a) (l:=l) (e:=Gs eC_ a e1) nd ha;exact hR _ Aj! g2
def vP{f:e!}{n:Nat}(h:f ρ=some (.int (n:Nat)))(hn:n<=100000):Eu f ρ=some ((oR!).map λi=>D.int cS_):=by unfold Eu;rw[h];show(if -1000<=qm!/\qm!<=100000 then some (Ds (qm!).toNat)else none)=_;rw[a1!];simp[Ds]
def c2s{g4 r5 r6 r7 r8:D}{x y z m:Int}{R:j!}(h:ab!)(wi:Bs W)(hB:hY_<5000)(ht:Aw!)(ha:ec!)(hk:dq_)(m1:1<=m)(m16:m<=16)
  (hR:∀M' ρ',Br M' w rl (setT W a (cutT wB_ au!))->Tn M rl M' rl->R cS! M'):
  Xs qm_ M R:=by
 have L:∀o4 o5 o6 o7 o8 o9,Aa 2 qm_=some es!:=λ_ _ _ _ _ _=>rfl;have hm:((m.toNat:Nat):Int)=m:=by omega
 have er:Eu a6! qm_=some ((ek!).map λi=>D.int cS_):=vP (by rw[p3 Aw_,hm]) a!;show Ah (Ao 9 (Bg 1 [2] (Il _) _ _ _)) _ _ M R;simp only[Ah,Ao,Bg,Il,er,Ef];refine dv_;refine cP cN! (λd=>match d with|.int k=>.tup Ax_|_=>.non) trivial _ _ bG! ?_
 .obtain⟨k,cx,rfl⟩:=IH.mp hd;refine⟨cT!,rfl,fF!,dw!⟩;have e1:f2 Ak v_ S_ cT!=some ej_:=by
   show Ak es! bx!=_;exact ix2
  have uy:Bj ej_ none (some 2)=some jX!:=by simp[Bj,Dk,HT.sIx]
  have e2:Do gN_ Aq bx_ cT!=some jX!:=by
   unfold Do;exact uy
  have e3:f2 Ak gN_ S_ cT!=some (.int z):=by
   show(f2 Ak v_ S_ cT!).bind (λv=>Ak v bx!)=_;rw[e1];rfl
  have e4:f2 An uL! (Aw nG!) cT!=some (.tup [fp_,fq!,.int (z+bg!)]):=by
   have e5:Aw nG! cT!=some (.tup [.int (z+bg!)]):=by
    have:f2 An uN! m_ cT!=some (.int (z+bg!)):=by
     show(f2 Ak gN_ S_ cT!).bind (λv=>An v hZ!)=_;rw[e3];rfl
    unfold Aw Ac;rw[this];rfl
   show(Do _ _ _ _).bind (λu=>(Aw _ _).bind λv=>An u v)=_;rw[e2,e5];rfl
  exact hK
 rw[hE!,JQ];show w2 Bt bl_ b5! [some bH!,some x0,some es!,some nm,o4,o5,o6,o7,o8,some (.lst ((ek!).map Ay!))] M _;have eg:(ek!).map Ay!=(ek!).map λk=>D.tup hf!:=rfl;rw[eg];generalize hg:(ek!).map (λk=>D.tup hf!)=cy at hR;have zw:∀d∈cy,Sd d:=λd hd=>by
  rw[<-hg]at hd;obtain⟨k,_,rfl⟩:=IH.mp hd;exact .inr (.inr (.inr ⟨[x,y,z+(k:Nat)],rfl⟩))
 rw[b8e (ρ:=[B_,O_,lg_,fR!,o4,o5,o6,o7,o8,some hZ_]) h rfl (p1 Aw_) hk ha];refine b9a (l:=cutT cy au!) h wi.nd hB rfl lh_ hk ha Az! λM' g1 g2=>hR M' _ g1 g2;have ei:Ep I! [B_,O_,lg_,fR!,o4,h0!,o6,o7,o8,some hZ_]=some eD!:=rfl;refine dv_;refine cP cN! (λd=>match d with|.tup [s,c,.bl b]=>Bf Az_|_=>.non) trivial _ _ bG! ?_
 .obtain⟨q,hq,rfl⟩:=IH.mp hd;have sq:Sd q.1:=(AA!).sd;refine⟨h1!,rfl,fF!,dw!⟩;have e0:f2 Ak m_ C! h1!=some q.1:=d4h;have e1:f2 Ak m_ w! h1!=some q.2.1:=d2a;have e2:f2 Ak m_ S_ h1!=some ql_:=d1z;have e3:Aa 1 h1!=some hZ_:=rfl;have e4:Ih true M q.1 hZ_=some (.bl (!decide (q.1∈cy))):=c5y sq zw;simp only[Ru,Ab,Af,wl,e0,e1,Jt,wT,e2];cases hb:q.2.2 with
  |true=>
   simp only[w2,wl,e0,e3,e4];refine⟨H!,?_⟩;have:K (Bf or!) M:=by
    have:=hK;exact this
   rw[hb]at this;simpa[Bf]using this
  |false=>
   refine⟨H!,?_⟩;have:K (Bf or!) M:=by
    have:=hK;exact this
   rw[hb]at this;simpa[Bf]using this
 .rw[hE!,JQ];have:(au!).map ((λd=>match d with|.tup [s,c,.bl b]=>Bf Az_|_=>D.non)∘Bf)=(cutT cy au!).map Bf:=by
   unfold cutT;rw[JQ];rfl
  rw[this];exact hK
def EB(l:ag_)(b:D)(k a:Nat):Prop:=(a=0/\∀j<k,AB!≠some b)\/∃j<k,AB!=some b/\a=j+1
def a9v{o4:D}{l:ag_}(hl:au_<5000)(hs:∀q∈l,Sd q.1)(hb:Sd b)(R:j!)(hR:∀(a:Nat) y,EB l b l.length a->R (.nx AC_) M):
  ∀(m k a:Nat) (y:an_),au_ - k=m->k<=au_->EB l b k a->Ib (Cg 7) ae! DD z6_ AC_ M R
 |0,k,a,y,hm,hk,ha=>⟨trivial,hR a y (by rw[show l.length=k by omega];exact ha)⟩
 |m+1,k,a,y,hm,hk,ha=>by
  have c1:k<au_:=by omega
  refine aI_;show DD dA_ M _;have e1:l[k]?=some l[k]:=II c1;have ea:f2 Ak I! bL! dA_=some (Bf l[k]):=by
   show Dc le_ bg!=_;show"#8";simp[c1]
  have eb:f2 Ak x! S_ dA_=some b:=p2 rfl;have et:f2 Ba uF! dT! dA_=some (.bl AE_):=by
   show((f2 Ak I! bL! dA_).bind λv=>Ak v L_).bind (λu=>(f2 Ak x! S_ dA_).bind λv=>Ba u v)=_;rw[ea,eb];show(Ak (Bf l[k]) L_).bind (λu=>Ba u b)=_;exact lE (hs _ hR_) hb
  have cond:fT uF_ dA_=some AE_:=by
   unfold fT;rw[et];rfl
  have es:f2 An bL! w! dA_=some p8_:=by
   show p9!;simp[An]
  by_cases z:(l[k]).1=b
  .refine z7_;exact a9v (o4:=o4) hl hs hb R hR m V! V! _ a! a! (.inr ⟨k,v!,by rw[e1];exact congrArg some z,rfl⟩)
  .refine iX z8! ?_;refine a9v (o4:=o4) hl hs hb R hR m V! a _ a! a! ?_;obtain⟨Y,L⟩|⟨j,Y,L,h3⟩:=ha
   .refine .inl ⟨Y,kd!⟩;by_cases y:j=k
    .rw[y,e1];exact λx=>z (JJ x)
    .exact L j a!
   .exact z9_
def EB.wr{l:ag_}{a:Nat}(h:EB l b l.length a)(nd:(ey_).Nodup):wrT b nw l=l.take a++nw++l.drop a/\a<=au_:=by
 obtain⟨rfl,L⟩|⟨j,Y,L,rfl⟩:=h
 .have nb:b∉l.map c_:=λz=>by
   obtain⟨j,hj⟩:=MX.mp z;rw[JC]at hj;have:j<au_:=by
    cases e:l[j]? with
    |none=>rw[e]at hj;cases hj
    |some q=>exact(p9_).1
   exact L j this hj
  unfold wrT;rw[HQ nb];simp
 .have hj:l[j]?=some l[j]:=II Y;rw[hj]at L;have hb:(cn_).1=b:=JJ L;have e:l=l.take j++l[j]::l.drop (j+1):=by rw[<-MC Y,List.take_append_drop]
  have nb:b∉(l.take j).map c_:=λz=>by
   rw[e]at nd;simp only[IU,IA]at nd;rw[IY]at nd;exact nd.2.2 _ z _ d! hb.symm
  have vj:b∈l.map c_:=by rw[<-hb];exact HZ (KR Y)
  refine⟨?_,v!⟩;unfold wrT;rw[IB vj]
  conv=>lhs;rw[e]
  rw[yI hb nb,OE Y];simp only[KA,MM,KO]
def b5v(h n:Int)(s:Str):s.cps.toList.zipIdx.map el!=(qn_).map λk=>(D.tup po_,D.str li_,true):=by
 apply RF;intro i;rw[JC,JC,List.getElem?_zipIdx];by_cases c:i<hi_
 .have c':i<aB_:=by simpa[Str.length]using c
  rw[II c,List.getElem?_range c'];simp[sgn,List.getD,II c];simp at c;simp[c]
 .have c':¬i<aB_:=by simpa[Str.length]using c
  rw[JW a!,JW ab_];rfl
def d3p{f g k:e!}(Y:f ρ=some a)(L:g ρ=some b)(h3:k ρ=some c):Aw (Ac f (Ac g (Ac k Ag))) ρ=some (.tup f6!):=by simp[Aw,Ac,Ag,Y,L,h3]
def b2b{h n:Int}{s:Str}{R:j!}(hL:ab!)(wi:Bs W)(hB:hY_<5000)(ht:Aw!)(ha:ec!)(hk:dq_)(hb:Sd b)(s16:j5!)
  (hR:∀M' ρ',Br M' w rl (setT W a (wrT b em_ au!))->Tn M rl M' rl->R cS! M'):
  Th qo! M R:=by
 show Ah (Ao 5 (w2 Bt _ _)) _ qo! M R;unfold Ah Ao;rw[b8e (ρ:=qo!) hL rfl lh_ hk ha];show Dj nE! (Cg 7) DD AI! M _;have er:Eu uE_ AI!=some ((List.range (au!).length).map λi=>D.int cS_):=vP (by
  show Bp [.lst eD!]=_;simp[Bp]) a!
 simp only[Dj,Il,er,Ef,List.range_eq_range'];refine a9v (M:=M) (o4:=.non) ht (λq hq=>(AA!).sd) hb _ (λat_ y TL=>?_) (au!).length 0 0 none a! a! Af!;obtain⟨ew,vm⟩:=TL.wr (nw:=s.cps.toList.zipIdx.map el!) (wi.snd a ha);have cj:Eu uG_ [B_,O_,fR_,bq_,y4,h0!,qp!,y,none,none]=some ((qn_).map λi=>D.int cS_):=vP (by
  show Bp [en!]=_;simp[Bp,big];omega) a!
 simp only[Bg,Il,cj,Ef];refine dv_;refine cP cN! (λd=>match d with|.int k=>Bf AI_|_=>.non) trivial _ _ bG! ?_
 .obtain⟨k,cx,rfl⟩:=IH.mp hd;have hk2:=NT.mp cx;refine⟨fS!,rfl,fF!,dw!⟩;have e1:f2 An x! (Aw aM_) fS!=some (.tup AJ!):=rfl;have e2:f2 Ak v_ al! fS!=some aT!:=by
   show Ak fw! bi!=_;exact ix3
  have hc:k<hi_:=by simpa[Str.length]using hk2
  have e3:Ak aT! hZ!=some (.str li_):=by
   show(if aB_<=big then(Dc s.cps.toList bg!).map _ else none)=_;rw[ds_];have:Dc s.cps.toList bg!=some (s.cps.toList.getD k 0):=by
    show"#8";rw[a1!,a1!];simp only[ML,NJ];rw[II hc,List.getD_eq_getElem?_getD,II hc];rfl
   rw[this];rfl
  have e4:f2 Ak nx! m_ fS!=some (.str li_):=by
   show(f2 Ak v_ al! fS!).bind (λv=>Ak v hZ!)=_;rw[e2];exact e3
  have e5:Aw uH_ fS!=some (Bf (.tup AJ!,.str li_,true)):=by
   exact d3p e1 e4 rfl
  simp only[wl,e5];exact hK
 rw[hE!,JQ];have en:(qn_).map ((λd=>match d with|.int k=>Bf AI_|_=>D.non)∘λi=>D.int cS_)=(em_).map Bf:=by
  rw[b5v,JQ];apply KI;intro k _;simp
 rw[en];show Cf bl_ _ _ [B_,O_,fR_,bq_,y4,h0!,qp!,y,some (.lst ((em_).map Bf)),none] M _;have hnl:(em_).length=aB_:=by simp[Str.length]
 refine b9a (l:=wrT b em_ au!) hL wi.nd hB rfl lh_ hk ha Az! λM' g1 g2=>hR M' _ g1 g2;generalize hnw:s.cps.toList.zipIdx.map el!=nw at *;have s1:Do I! Aq e9! qp_=some qq!:=c3a lb!;have s2:Do I! e9! Aq qp_=some AJ_:=a9f lb!;have b1:An qq! lj!=some AK!:=by
  show hx!;rw[lb_]
 have b2:An AK! AJ_=some AK_:=by
  show hx!;rw[lb_,ew];simp
 have ev:f2 An uI_ uJ_ qp_=some AK_:=by
  show((Do I! Aq e9! _).bind λu=>An u lj!).bind (λu=>(Do I! e9! Aq _).bind λv=>An u v)=_;rw[s1,s2];show(An qq! lj!).bind (λu=>An u _)=_;rw[b1];exact b2
 simp only[wl,ev];exact hK
def dX{f:e!}(h:cg!)(K:s_):wl f ρ M K=K d M:=by simp only[wl,h]
def c2r{h n:Int}{R:j!}(hL:ab!)(wi:Bs W)(hB:hY_<4000)(hl:cc_<3900)(hn:AL_)(ha:Sd a)(hk:dq_)(hb:Sd b)
  (hR:∀M' ρ' ac rows',Qe W.rows ad! cI_ b rows'->Br M' w ac (Fn W ad! rows')->Tn M rl M' ac->R cS! M'):
  Xr h2! M R:=by
 obtain⟨wt,wn,qa,hA⟩:=id hL;obtain⟨e0,hw⟩:=hA.mw;obtain⟨e1,ht⟩:=hA.mt;obtain⟨e2,xz⟩:=hA.mn;have bc:∀{c d:xT!},rl c≠rl d->c≠d:=λh z=>h j5_;have X2:w≠wt:=bc (by rw[hA.rw_,hA.rt];simp);have wwn:w≠wn:=bc (by rw[hA.rw_,hA.rn];simp);have tn:wt≠wn:=bc (by rw[hA.rt,hA.rn];simp);show Ah (Ao 4 (Wg (w2 by! _ _) _)) _ h2! M R;unfold Ah Ao Wg wT;rw[rB (ρ:=h2!) hL rfl lh_ hk];have er:f2 Ba e0! eS! h2!=some (.bl AM_):=by
  show(f2 Ak x! w! h2!).bind (λu=>Ba u gi_)=_;exact lE ha (iO _)
 have key:∀g:Bool,(g=true↔(a∈W.its\/a=root))->
   Ah nz! (Ah nB_ nC!)
    (b0_) M R:=by
  intro g hg;have gc:Db ad!=some (some (.inr [.inl h,.inl n])):=rfl;unfold Ah Cf;have f3:∀g',Aa 3 [B_,O_,some er_,bq_,some (.bl g'),none,none,none,none,none]=some ad!:=λ_=>rfl;have fl:Di Ag b0_=some cQ_:=rfl;rw[dX fl];rw[ixw (M:=M) (ρ:=b0_) (s:=hM!) rfl hw k3t];have dt:=gZ (y:=hi!) (v:=lj_) ht gc fQ_;simp only[wl,f3,dt,Ef];rw[a0v hn];generalize hM1:Be M wt AN_=M1;have X3:M1 w=some (.dct hU! e0):=by rw[<-hM1,mup_ne X2];exact hw
  have X4:M1 wn=some (.dct h2_ e2):=by rw[<-hM1,mup_ne (HR tn)];exact xz
  have TM:M1 wt=some AN_:=by rw[<-hM1];exact mup_same
  have m1:∀c,c≠wt->M1 c=M c:=λc hc=>by rw[<-hM1];exact mup_ne hc
  refine⟨R!,kP!⟩;have qw:w≠q:=aV (by rw[X3];simp) hq;have qt:wt≠q:=aV (by rw[TM];simp) hq;have qn:wn≠q:=aV (by rw[X4];simp) hq;have m2w:Be M1 q en_ w=some (.dct hU! e0):=(mup_ne qw).trans X3;have m2n:Be M1 q en_ wn=some (.dct h2_ e2):=(mup_ne qn).trans X4;show w2 Bt h_ ji! b0_ (Be M1 q en_) _;rw[ixw (M:=Be M1 q en_) (ρ:=b0_) (s:=pO!) rfl m2w k3n];have hpm2:=gZ (y:=hi!) (v:=.fn q) m2n gc fQ_;simp only[wl,f3,hpm2,Ef];rw[a0v hn];generalize ya:Be (Be M1 q en_) wn AP!=M3;have Mq:∀c,M c≠none->c≠q:=λc hc=>by
   by_cases z:c=wt
   .rw[z];exact qt
   .exact aV (N:=M1) (by rw[m1 c z];exact hc) hq
  have m3:∀c,c≠wt->c≠q->c≠wn->M3 c=M c:=λc Y L h3=>by rw[<-ya,ok_,cF!,m1 c Y]
  have X5:M3 wt=M1 wt:=by rw[<-ya,mup_ne tn,mup_ne qt]
  have X6:M3 wn=some AP!:=by rw[<-ya];exact mup_same
  have X7:M3 q=some en_:=by rw[<-ya,mup_ne (HR qn),mup_same]
  have m3w:M3 w=M w:=m3 w X2 qw wwn
  let kg:D->Addr:=λi=>if i=.tup W_ then q else qa i
  let ac:Addr->LR:=λc=>if c=q then .q ad! else rl c
  have ar:∀c,M c≠none->ac c=rl c:=λc hc=>HQ (Mq c hc);have lw:M w≠none:=by rw[hw];simp
  have lt:M wt≠none:=by rw[ht];simp
  have ln:M wn≠none:=by rw[xz];simp
  have TN:Br M3 w ac (Fn W ad! W.rows):=by
   refine⟨wt,wn,kg,⟨⟨e0,by rw[m3w];exact hw⟩,⟨Gs eC_ ad! e1,?_⟩,⟨Gs h2_ ad! e2,?_⟩,fE!,(ar w lw).trans hA.rw_,(ar wt lt).trans hA.rt,(ar wn ln).trans hA.rn,kA_⟩⟩
   .rw[X5,TM];congr 2;show _=(AQ!).map _;rw[IU];congr 1
    .apply KI;intro i hi;show(i,D.lst k6!)=(i,D.lst ((if i=.tup W_ then[]else W.txt i).map Bf));rw[AQ_]
    .show[(D.tup W_,D.lst [])]=[(D.tup W_,D.lst ((if D.tup W_=.tup W_ then[]else W.txt ad!).map Bf))];rw[n_];rfl
   .rw[X6];congr 2;show _=(AQ!).map _;rw[IU];congr 1
    .apply KI;intro i hi;show(i,D.fn fO_)=(i,D.fn (if i=.tup W_ then q else qa i));rw[AQ_]
    .show[(D.tup W_,D.fn q)]=[(D.tup W_,D.fn (if D.tup W_=.tup W_ then q else qa ad!))];rw[n_]
   .have df:i∈W.its++[D.tup W_]:=hi;obtain z|z:=HV.mp df
    .obtain⟨g1,g2⟩:=hA.mq i z;have ni:i≠.tup W_:=λy=>hn (y▸z);have eq:kg i=qa i:=HQ ni;have lq:M fO_≠none:=by rw[g1];simp
     rw[eq];refine⟨?_,(ar _ lq).trans g2⟩;rw[m3 _ (bc (by rw[g2,hA.rt];simp)) (Mq _ lq) (bc (by rw[g2,hA.rn];simp)),g1];show some (Pj.lst jR_)=some (Pj.lst (if i=.tup W_ then _ else W.num i));rw[HQ ni]
    .rw[HX]at z;subst z;have eq:kg ad!=q:=IB rfl;rw[eq];refine⟨?_,n_⟩;rw[X7];show _=some (Pj.lst (if D.tup W_=.tup W_ then[.int 0,.int 0,.int 0,.int 0]else _));rw[n_]
   .by_cases z:c=q
    .rw[z,X7];simp
    .have bv:rl c≠.oth:=by rw[<-(HQ z:ac c=rl c)];exact hc
     have lc:=hA.live c bv;by_cases z1:c=wt
     .rw[z1,X5,TM];simp
     .by_cases z2:c=wn
      .rw[z2,X6];simp
      .rw[m3 c z1 z z2];exact lc
  have F1:Tn M rl M3 ac:=λc hc hr=>⟨m3 c (bc (by rw[hr,hA.rt];simp)) (Mq c hc) (bc (by rw[hr,hA.rn];simp)),(ar c hc).trans hr⟩;have ep:Kz (fT T_) e0! ix_ b0_=some cI_:=by
   have e4:fT T_ b0_=some g:=rfl;unfold Kz;show(if g=true then f2 Ak x! w! b0_ else some binn)=_;rw[p1 (k:="put") (a:=a) (r:=[b]) rfl];by_cases c:a∈W.its\/a=root
   .rw[IB (hg.mpr c),IB (c.elim .inl λz=>.inr cb!)]
   .rw[HQ λz=>c (hg.mp z)];by_cases c2:Ew W a
    .rw[IB c2];obtain z|z|z:=c2
     .exact absurd cb! c
     .exact absurd fj! c
     .rw[z]
    .rw[HQ c2]
  have eb:f2 Ak x! S_ b0_=some b:=p2 rfl;have f0:Aa 0 b0_=some bH!:=rfl;have hc:∀(K:s_),Gq [co!,hi!,cI_,b] M3 K->Aj 4 Gq uC! b0_ M3 K:=λK hK=>by
   simp only[Aj,Ab,Af,wl,f0,f3,ep,eb];exact⟨rfl,hK⟩
  refine hV (hc _ (a9s TN ei_ (.inr (.inr (.inr ⟨[h,n],rfl⟩))) (by split;exact ha;exact iO _) hb (by show cc_<_;omega) λM' rows' ub c9 hF'=>?_))
  .obtain⟨z1,z2,_⟩:=jC wi q hq;exact⟨z1.sd,z2,z1.nn.1⟩
  .exact hR M' _ ac rows' ub c9 (F1.trans hF')
 by_cases c:a∈W.its
 .rw[IV c];exact key true lk!
 .rw[IF c];simp only[wl,er];exact key AM_ lk!
end
structure Pw(W:OW)(B:Nat):Prop where
 rows:cc_<=B
 its:hY_<=B
 txt:∀x,(aH!).length<=B
def Qe.len{rows rows':i!}(h:g1!):rows'.length<=rows.length+1:=by
 obtain⟨u,v,e1,e2,_⟩:=h;have Y:(dk!).length<=rows.length:=by unfold wo;exact NA _ _
 rw[e1,IG]at Y;rw[e2,IG,IE];omega
def Pw.stp{W:OW}{B:Nat}(l:cT_)(h:qs_):Pw W' bq!:=by
 have l1:=l.rows;have l2:=l.its;have l3:=l.txt;have same:Pw W bq!:=⟨v!,v!,λx=>by have:=l3 x;omega⟩;cases h with
 |put _ _ hg=>
  have:=hg.len;refine⟨by show _<=_;unfold Fn;simp only;omega,by unfold Fn;simp only[IG,KZ];omega,jJ_⟩;unfold Fn;simp only;split
  .simp
  .have:=l3 x;omega
 |mvY _ _ _ _ hg=>
  have:=hg.len;exact AT!
 |mvN=>exact same
 |drY _ _ hg=>
  have:=hg.len;exact AT!
 |drN=>exact same
 |@wrt a b s h m _ _ hs e=>
  split
  .refine AT_;unfold setT;simp only;split
   .obtain⟨u,v,e1,e2,_⟩:=rY b hB! au!;have:=l3 a;rw[e1,IG]at this;rw[e2];have b6:hi_<=16:=hs;simp only[IG,IK,List.length_zipIdx];omega
   .have:=l3 x;omega
  .exact same
 |cut=>
  split
  .refine AT_;unfold setT;simp only;split
   .unfold cutT;rw[IK];exact same.txt _
   .exact same.txt x
  .exact same
 |set=>
  split
  .exact⟨same.rows,same.its,same.txt⟩
  .exact same
section
variable{M:Mh}{R:D->Mh->Prop}{w:xT!}{rl:Addr->LR}{W:OW}{ρ:Ae}{pre:List D}
def b3c{i:Nat}{f:e!}{q:WS}{R:j!}(h:cg!)(k:q cf_ M R):Ah (Ao i (wl f)) q ρ M R:=by unfold Ah Ao;rw[dX h];exact k
def c8a{g:WF}{f1 f2 f3 f4:e!}{K:s_}(Y:ft_)(L:hn!)(h3:pw_)(h4:f4 ρ=some d)(k:g [a,b,c,d] M K):Aj 4 g yM! ρ M K:=by unfold Aj Ab Af;rw[dX Y,dX L,dX h3,dX h4];exact fS_
def kT(h:qj!)(e:(k==k)=true):knd k ρ=some true:=by rw[c1l h,e]
def kF(h:qj!)(e:kE_=false):knd k' ρ=some false:=by rw[c1l h,e]
def GN:WS:=Av Ao! Xq Ao_
def GO:WS:=Av An! nD! (Av An_ nD_ GN)
def Zi:WS:=Av Am_ Xr GO
def c4k:Xm=Ah ny! (Ah ny_ Zi):=c4l
def Ti(w:xT!)(x0 d nm:D):Ae:=[B_,O_,some d,fR!,none,none,none,none,none,none]
def dv0:Aa 0 AU!=some bH!:=rfl
def oU:Aa 2 AU!=some d:=rfl
def Zw(W:OW)(M:Mh)(w:xT!)(rl:dz_)(n d:D)(R:j!):Prop:=∀M' ac W' ρ',Stp W n d W'->Br M' w ac W'->Tn M rl M' ac->R cS! M'
def d0l{h n:Int}{B:Nat}{R:j!}(hL:ab!)(wi:Bs W)(au:cT_)(hB:eE!)(hn:AL_)(ha:Cy a)(hb:Mz b)
  (hR:Zw W M w rl ad! er_ R):Zi (Ti w x0 er_ ad!) M R:=by
 show"!1";have l1:=au.rows;have l2:=au.its;refine ifT (kT oU c1n) ?_;exact c2r hL wi a! a! hn ha.sd bm hb.sd λM' ρ' ac rows' hg c9 hF=>hR M' ac _ ρ' (.put ha hb hg) c9 hF
def c6h{B:Nat}{R:j!}(hL:ab!)(wi:Bs W)(au:cT_)(hB:eE!)(ha:Cy a)(hb:Cy b)(hc:Mz c)
  (hR:Zw W M w rl nm ht_ R):Zi (Ti w x0 ht_ nm) M R:=by
 show"!1";obtain⟨kb,lf⟩:=cQ hb;have l1:=au.rows;refine iX (kF oU jG) ?_;refine ifT (kT oU a4q) ?_;refine hV (c8a dv0 (p1 oU) (p2 oU) (p3 oU) ?_);refine a9r hL wi a! ha.sd hb.sd hc.sd bm lf λM' W' Y L c9 hF=>?_;by_cases g:a∈W.its/\Ew W b/\¬Wn W.rows a b
 .obtain⟨rows',hg,e⟩:=Y g;rw[e]at c9;exact hR M' rl _ _ (.mvY ha hb hc g hg) c9 hF
 .rw[L g]at c9;exact hR M' rl _ _ (.mvN ha hb hc g) c9 hF
def c6i{B:Nat}{R:j!}(hL:ab!)(wi:Bs W)(au:cT_)(hB:eE!)(ha:Cy a)
  (hR:Zw W M w rl nm hu! R):Zi (Ti w x0 hu! nm) M R:=by
 show"!1";have l1:=au.rows;refine iX (kF oU jH) ?_;refine iX (kF oU iK) ?_;refine ifT (kT oU a4r) ?_;refine hV (c8a (c:=binn) (d:=.non) dv0 (p1 oU) rfl rfl ?_);refine a9r (kx:=py!) hL wi a! ha.sd (iO _) G! bm rfl λM' W' Y L c9 hF=>?_;by_cases g:a∈W.its/\Ew W binn/\¬Wn W.rows a binn
 .obtain⟨rows',hg,e⟩:=Y g;rw[e]at c9;exact hR M' rl _ _ (.drY ha g hg) c9 hF
 .rw[L g]at c9;exact hR M' rl _ _ (.drN ha g) c9 hF
def d0k{p v:Int}{B:Nat}{R:j!}(hL:ab!)(wi:Bs W)(au:cT_)(hB:eE!)(ha:Cy a)(h0:0<=p)(h3:p<=3)
  (hR:Zw W M w rl nm kC! R):Zi (Ti w x0 kC! nm) M R:=by
 show"!1";have st:=Stp.set (W:=W) (n:=nm) (v:=v) ha h0 h3;refine iX (kF oU pI) ?_;refine iX (kF oU mV) ?_;refine iX (kF oU mW) ?_;refine anT (kT oU c1m) qt! dB_ dB_
 .show"#>";exact c2q hL wi c' bm dv0 oU h0 h3 λM' c9 hF=>hR M' rl _ _ st c9 hF
 .show"#=";refine anF (kF oU kX) ?_;refine anF (kF oU pJ) ?_;show"#5"
def c2p{h n:Int}{s:Str}{B:Nat}{R:j!}(hL:ab!)(wi:Bs W)(au:cT_)(hB:eE!)(ha:Cy a)(hb:La b)(hs:j5!)
  (hR:Zw W M w rl ad! fw! R):Zi (Ti w x0 fw! ad!) M R:=by
 show"!1";have l2:=au.its;have l3:=au.txt a;have st:=Stp.wrt (W:=W) (n:=hi!) ha hb hs rfl;refine iX (kF oU kW) ?_;refine iX (kF oU jQ) ?_;refine iX (kF oU jR) ?_;refine anF (kF oU a4j) ?_;refine anT (kT oU a8e) qt! dB_ dB_
 .show"#>";exact b2b hL wi a! a! c' bm hb.sd hs λM' ρ' c9 hF=>hR M' rl _ _ st c9 hF
 .show"#=";refine anF (kF oU a4k) ?_;show"#5"
def d0m{x y z m:Int}{B:Nat}{R:j!}(hL:ab!)(wi:Bs W)(au:cT_)(hB:eE!)(ha:Cy a)(h0:0<=z)(Y:1<=m)(L:z+m<=16)
  (hR:Zw W M w rl nm es! R):Zi (Ti w x0 es! nm) M R:=by
 show"!1";have l2:=au.its;have l3:=au.txt a;have st:=Stp.cut (W:=W) (n:=nm) (x:=x) (y:=y) ha h0 Y L;refine iX (kF oU pK) ?_;refine iX (kF oU mX) ?_;refine iX (kF oU mY) ?_;refine anF (kF oU b1s) ?_;refine anF (kF oU kY) ?_;refine anT (kT oU c1o) qt! dB_ dB_
 .show"#>";exact c2s (g4:=nm) (r5:=nm) (r6:=nm) (r7:=nm) (r8:=nm) hL wi a! a! c' bm Y a! λM' ρ' c9 hF=>hR M' rl _ _ st c9 hF
 .show"#=";show"#5"
def c0g(o:Op):Ak o.v bi!=some o.d:=by simp[Op.v,Ak,Dc,Dz]
def sP(o:Op):Ak o.v L_=some cP_:=by simp[Op.v,Ak,Dc,Dz]
def a3c(o:Op):Ak o.v aN!=some (.int o.n):=by simp[Op.v,Ak,Dc,Dz]
def c7w{f g:e!}(Y:f ρ=some a)(L:g ρ=some b):Aw (Ac f (Ac g Ag)) ρ=some hU_:=by simp[Aw,Ac,Ag,Y,L]
def d1m{o:Op}{B:Nat}(hL:ab!)(hw:cM!)(hn:o.nm∉pre)(hd:hG_)(hu:Et o.d=none)(au:cT_)(hB:eE!)
  (hR:∀M' ac W',Stp W o.nm o.d W'->Br M' w ac W'->Tn M rl M' ac->R .non M'):Wb [co!,o.v] M R:=by
 refine j_;rw[c4k];have e3:f2 Ak v_ al! AW_=some o.d:=c0g o;refine b3c (ρ:=AW_) e3 ?_;have e0:Aw uz_ AX!=some o.nm:=c7w (sP o) (a3c o);refine b3c (ρ:=AX!) e0 ?_;generalize hK:xi_=K;have ig:Zw W M w rl o.nm o.d K:=λM' ac W' ρ' Y L h3=>by rw[<-hK];exact hR M' ac W' Y L h3
 have m7:o.nm∉W.its:=λz=>hn (hw.its _ z);clear hR hK e3 e0 hn;obtain⟨h,n,tm,d⟩:=o;generalize Op.v ⟨h,n,tm,d⟩=v;change Zi (Ti w v d ad!) M K;change Zw W M w rl ad! d K at ig;change D.tup W_∉W.its at m7;change DG d at hd;change Et d=none at hu;cases hd with
 |put ha hb=>exact d0l hL hw.inv au hB m7 ha hb ig
 |move ha hb hc=>exact c6h hL hw.inv au hB ha hb hc ig
 |drop ha=>exact c6i hL hw.inv au hB ha ig
 |write ha hb _ _ hs=>exact c2p hL hw.inv au hB ha hb hs ig
 |cut ha hs Y L=>
  obtain⟨_,_,_,e,_,_,_,_,z0,_⟩:=hs;cases e;exact d0m hL hw.inv au hB ha z0 Y L ig
 |set ha Y L _=>exact d0k hL hw.inv au hB ha Y L ig
 |undo _=>rw[nL]at hu;exact absurd hu (by simp[AX_])
 |redo _=>rw[nL]at hu;exact absurd hu (by simp[AY!])
end
def Pw.mono{W:OW}{B B':Nat}(l:cT_)(h:B<=B'):Pw W B':=⟨JB l.rows h,JB l.its h,λx=>JB (l.txt x) h⟩
section
variable{M:Mh}{R:D->Mh->Prop}{w:xT!}{rl:Addr->LR}{W:OW}{ρ:Ae}{pre:List D}
def Br.keep{M':Mh}(h:ab!)(k:pV_):Br M' w rl W:=by
 show"!y";refine⟨wt,wn,qa,⟨?_,?_,?_,fE!,hA.rw_,hA.rt,hA.rn,by_⟩⟩
 .rw[k w qk!];exact hA.mw
 .rw[k wt qb!];exact hA.mt
 .rw[k wn Ac!];exact hA.mn
 .obtain⟨Y,L⟩:=hA.mq i hi;exact⟨(k _ qc!).trans Y,L⟩
 .rw[k b hb];show"#$"
def Br.live(h:ab!)(hb:rl b≠.oth):M b≠none:=by obtain⟨wt,wn,qa,hA⟩:=h;exact hA.live b hb
def d3t{ep:Nat}{fo fa fb:e!}(hp:bV_)(h0:ll!)(Y:qt_)(L:fb ρ=some z)(hk:cl!)(K:s_)(hK:K ((hX!).getD z) M):Hz dq! hJ! hI_ ρ M K:=by
 have c:Ed M D_=some k2_:=by simp[Ed,hp]
 simp only[Hz,wl,h0,Y,L,c,Ef,hk];exact hK
def vD{g:WF}{f1 f2:e!}{K:s_}(Y:ft_)(L:hn!)(k:g ap_ M K):Aj 2 g xh_ ρ M K:=by unfold Aj Ab Af;rw[dX Y,dX L];exact fS_
def a1r{g:WF}{f1:e!}{K:s_}(Y:ft_)(k:g [a] M K):Aj 1 g (Ab kc! Af) ρ M K:=by unfold Aj Ab Af;rw[dX Y];exact fS_
def GB:WT:=Hb uS_ uU!
def GC:WS:=Av GB uU_ Bn
def d3m{ft:WT}{q1 q2:WS}{b:Bool}{R:j!}(h:AY_)(k1:Aq!)(k2:Aq_):Av ft q1 q2 ρ M R:=by
 refine h _ ?_;cases b with
 |true=>rw[n_];exact k1 rfl
 |false=>rw[am_];exact k2 rfl
def c3o{ft fu:WT}{b:Bool}{c:Bool}(h:AY_)(L:b=true->∀K:Bool->Mh->Prop,K c M->fu ρ M K)(K:fJ_)(hK:K (b&&c) M):Hb ft fu ρ M K:=by
 refine h _ ?_;cases b with
 |true=>rw[n_];exact L rfl K (by simpa using hK)
 |false=>rw[am_];simpa using hK
def c5l{e0:Nat}{x:Op}(lg:AZ!)(hd:DG x.d)(hp:M p=some (.dct kb e0))(K:fJ_)
  (hK:K (decide AZ_) M):GB qu! M K:=by
 obtain⟨k,r,e,hn,hs⟩:=d3w hd;have i0:f2 Ak mV! C! qu!=some U!:=c1t e;have hu:(! p4_)=decide qu_:=by
  cases hu:Et x.d with
  |none=>
   obtain⟨Y,L⟩:=hn hu;rw[zR!,p5!,Y,L];rfl
  |some u=>
   obtain⟨g1,g2,hk,jc⟩:=hs u hu;rw[b2s hk];rfl
 obtain⟨kn,gc⟩:=b1l x;have hz:(∃b:Bool,(kget kb x.nm).getD Q!=.bl b/\(b=true↔kget wd x.nm=some bk_)):=by
  obtain⟨Y,L⟩|⟨k',Y,L⟩:=lg x.nm
  .exact⟨false,by rw[L];rfl,by rw[Y];simp⟩
  .refine⟨k'=="undo",by rw[L];rfl,?_⟩;rw[Y];show"!L"
   .intro z;rw[eq_of_beq z]
   .intro z;rw[D.str.inj (JJ z)];exact LF _
 obtain⟨b,hb1,vn⟩:=hz;have e2:Aw uT! qu!=some x.nm:=c7w (sP x) (a3c x);refine c3o (b:=decide qu_) (c:=!b) (λK' vc=>?_) (λ_ K' vc=>?_) K ?_
 .unfold wT w2;rw[dX i0,dX (f:=fC ns!) rfl,rC];rw[hu];exact vc
 .unfold Iu wT;refine d3t hp rfl e2 rfl gc _ ?_;rw[hb1];exact vc
 .have:(decide qu_&&!b)=decide AZ_:=by
   by_cases c1:Et x.d=none
   .by_cases c2:kget wd x.nm=some bk_
    .rw[vn.mpr c2];simp[c2]
    .have:b=false:=by
      cases b with
      |true=>exact absurd (vn.mp rfl) c2
      |false=>rfl
     rw[this,IV c1,IV (⟨c1,c2⟩:_/\_)];rfl
   .rw[IF c1,IF λz:_/\_=>c1 z.1];rfl
  rw[this];exact hK
def a3w{e0:Nat}(lg:AZ!):
  ∀(os:f_) (x1:D) (y:an_) (M:Mh) (rl:dz_) (W:OW) (pre:c!) (B:Nat) (R:j!),(∀x∈os,DG x.d)->zA_->(kX!).Nodup->Br M w rl W->Rs W pre->Pw W B->B+20*ap!<3800->M p=some (.dct kb e0)->rl p=.oth->
   (∀M' ac W' y',Run W pT! W'->Br M' w ac W'->zB!->Pw W' (B+20*ap!)->Tn M rl M' ac->R (.nx [R_,B_,ao_,y']) M')->
   Ib Q_ ae! GC a0_ [R_,B_,ao_,y] M R
 |[],x1,y,M,rl,W,pre,B,R,_,_,_,hL,hw,au,_,_,_,hR=>⟨trivial,hR M rl W y .nil hL ⟨pre,hw⟩ (au.mono a!) .refl⟩
 |x::os,x1,y,M,rl,W,pre,B,R,hd,hp,nd,hL,hw,au,hB,yb,jy,hR=>by
  refine aI_;simp only[IE]at hB hR;rw[IA,IJ]at nd;have jr:=hd x HP;refine d3m (c5l lg jr yb) dB_ dB_
  .have c':=KL c;have ee:Jd wd hP_=x::Jd wd os:=by unfold Jd;rw[JX A0_]
   refine hV (vD rfl rfl (d1m hL hw kY! jr c'.1 au a! λM1 dm W1 hs TN hF=>?_));have hq:=hF p (by rw[yb];simp) jy;refine a3w lg os x1 pT_ M1 dm W1 (pre++[x.nm]) bq! R pU! zE! nd.2 TN (a2d hs hw kY!) (au.stp hs) a! (hq.1.trans yb) hq.2 (λM' ac W' y' g1 g2 g3 g4 g5=>hR M' ac W' y' (by rw[ee];exact .cons hs g1) g2 g3 A1_ (hF.trans g5));obtain z|z:=HV.mp z
   .exact hp y ea_ z
   .rw[HX]at z;exact nd.1 zE_
  .have c':=OZ c;have ee:Jd wd hP_=Jd wd os:=by unfold Jd;rw[JP A0_]
   exact a3w lg os x1 pT_ M rl W pre bq! R pU! pU_ nd.2 hL hw (au.mono a!) a! yb jy (λM' ac W' y' g1 g2 g3 g4 g5=>hR M' ac W' y' (by rw[ee];exact g1) g2 g3 A1_ g5)
def d4p{N:Mh}(Y:N w=none)(L:Be N w B! wt=none)(h3:Be qv! wt B! wn=none):
  ∃rl,Br (Be A2_ w A3!) w rl W0/\(∀b,N b≠none->Be A2_ w A3! b=N b/\rl b=.oth)/\Be A2! wn B! w=some B!:=by
 have e1:w≠wt:=aV (N:=Be N w B!) pM! L;have e2:w≠wn:=aV (N:=qv_) (by rw[mup_ne e1,mup_same];simp) h3;have e3:wt≠wn:=aV (N:=qv_) pM! h3;have ar:∀b,N b≠none->b≠w/\b≠wt/\b≠wn:=λb hb=>by
  have a1:b≠w:=aV hb Y;have a2:b≠wt:=aV (N:=Be N w B!) (by rw[h5!];exact hb) L;exact⟨a1,a2,aV (N:=qv_) (by rw[mup_ne a2,h5!];exact hb) h3⟩
 refine⟨λc=>if c=w then .w else if c=wt then .wt else if c=wn then .wn else .oth,⟨wt,wn,λ_=>w,⟨⟨3,mup_same⟩,qw!,qw!,ar_,n_,?_,?_,by_⟩⟩,by_,?_⟩
 .rw[mup_ne (HR e1),mup_ne e3,mup_same];rfl
 .rw[mup_ne (HR e2),mup_same];rfl
 .show(if wt=w then _ else _)=_;rw[HQ (HR e1),n_]
 .show(if wn=w then _ else _)=_;rw[HQ (HR e2),HQ (HR e3),n_]
 .by_cases a1:b=w
  .rw[a1,mup_same];simp
  .rw[h5!];by_cases a3:b=wn
   .rw[a3,mup_same];simp
   .rw[mup_ne a3];by_cases a2:b=wt
    .rw[a2,mup_same];simp
    .exact absurd (by simp[a1,a2,a3]) hb
 .obtain⟨a1,a2,a3⟩:=ar b hb;exact⟨by rw[h5!,mup_ne a3,mup_ne a2,h5!],by simp[a1,a2,a3]⟩
 .rw[mup_ne e2,mup_ne e1,mup_same]
def d1l:Pw W0 0:=⟨IM _,IM _,λ_=>IM _⟩
def d3l:((hT_).map c_).Nodup:=by
 refine IJ.mpr ⟨?_,IJ.mpr ⟨?_,A4!⟩⟩
 .intro z;obtain z|z:=HN.mp z
  .exact c7e z
  .exact c7f qx_
 .intro z;exact c7b qx_
def c5p:∀q∈k3 a b c,(Db q.1).isSome=true:=λq hq=>by
 obtain rfl|hq:=HN.mp hq
 .rfl
 .obtain rfl|hq:=HN.mp hq
  .rfl
  .rw[HX.mp hq];rfl
def b6f:Vx=Ah uS!
 (Ah uR_
 (Ah (Dj nr_ Q_ GC)
 cv_)):=rfl
def c6j{f:WE->WS}{ρ:Ae}{K:s_}(hK:∀w M' rl,M w=none->Br M' w rl W0->pK!->K bH! M'):
  Pk uQ_ ρ M K:=by
 intro w hw;refine pc (x:=.str "rows") rfl ?_;rw[dX (f:=Di Ag) (d:=lj_) rfl];refine pc (x:=.str "texts") rfl ?_;intro wt ht;refine pc (x:=A5!) rfl ?_;intro wn hn;obtain⟨rl,Y,L,h3⟩:=d4p hw ht hn;exact⟨h3,by show 3<=1000;decide,c5p,d3l,hK w _ rl hw Y L⟩
def a9q{ops:f_}(nd:ew_)(nn:zG!)(hl:cN_)(hd:hH_)
  (hR:∀w M' rl W',M w=none->Run W0 fL_ W'->Br M' w rl W'->zG_->Pw W' 1500->pK!->R bH! M'):Mo ck_ M R:=by
 refine j_;rw[b6f];have hp:(be_).Perm ops:=bP ops;unfold Ah Ao;refine c6j (f:=λ_=>Bn) λw M1 rl hw hL fr=>?_;refine a1r (a:=ex!) rfl (b1q nd hl hd λp M2 ep ff f8 pj=>?_);have rp:rl p=.oth:=PL λz=>hL.live z ff;have yc:Br M2 w rl W0:=hL.keep λc hc=>pj c λz=>hc (by rw[z];exact rp);unfold Dj Ca;refine a1r (a:=ex!) rfl (xB nd hl ?_);refine a3w (wd:=pJ!) (wD be_ [] [] λx=>.inl bi_) be_ _ none M2 rl W0 [] 0 _ (λx J=>hd x zH_) zI! zI_ yc b5l d1l k0_ f8 rp λM' ac W' y' g1 g2 g3 g4 g5=>?_;refine hR w M' ac W' hw g1 g2 g3 (g4.mono k0_) λb hb=>?_;obtain⟨e1,e2⟩:=fr b hb;have e3:M2 b=M1 b:=pj b λz=>by rw[<-e1,z,ff]at hb;exact hb rfl
 obtain⟨e4,e5⟩:=g5 b zJ! e2;exact⟨e4.trans (e3.trans e1),e5⟩
def yW(h:ab!)(J:aY_)(hk:aC_)(hl:A6!)(hj:pA!)(hR:R v M):Hk [co!,x] M R:=by
 refine j_;show Az (Qk _ (Bg 1 [] uX_ _ _ _)) k7_ M _;unfold Az Qk Bg Ca;rw[b8e (ρ:=k7_) h rfl (fx:=Aa 1) rfl hk J];refine qy!;refine cP (λd=>match d with|.tup [_,_,.bl b]=>b|_=>false) (λd=>match d with|.tup [_,c,_]=>c|_=>.non) trivial _ _ bG! ?_
 .show"!=";refine⟨[h0_],rfl,ev_,dw!⟩
  .have e1:fT dN! [h0_]=some q.2.2:=by
    have:f2 Ak m_ S_ [h0_]=some ql_:=d1z;show"!J"
   unfold Dd;exact hK
  .have e1:f2 Ak m_ w! [h0_]=some q.2.1:=d2a;exact hK
 .have e2:((((aH!).map Bf).filter λd=>match d with|.tup [_,_,.bl b]=>b|_=>false).map λd=>match d with|.tup [_,c,_]=>c|_=>.non)=(dv!).map kI_:=by
   rw[MF,JQ];rfl
  rw[e2];show Ef (Nk (.str dt!) _) _;rw[hj];exact hR
def a9j:∀(l:ag_),(∀q∈l,∃c:Nat,q.2.1=.str aq_)->∃cs:List Nat,l.map kI_=cs.map Pe/\cH_=au_
 |[],_=>xP_
 |q::l,h=>by
  obtain⟨cs,e1,e2⟩:=a9j l λx J=>h x aU!
  obtain⟨c,e⟩:=h q HP;exact⟨c::cs,by rw[IA,IA,e1,e];rfl,by rw[IE,IE,e2]⟩
def a8h(hw:cM!)(J:aY_)(hl:A6!):∃s,Nk i3_ yW_=some aT!:=by
 obtain⟨cs,e1,e2⟩:=a9j dv! λq hq=>hw.chr x J q (pB!).1
 have ls:(dv!).length<=(aH!).length:=NA _ _;rw[e1];refine⟨Txt.join dt! hv_,?_⟩;show((Ql kt!).bind λys=>if(ks_).sum+ac_*(dt!).length<=big then some (D.str (Txt.join dt! ys))else none)=_;rw[rZ];show k5!=_;rw[IB (by rw[a2c,a1h];unfold big;omega)]
end
end K24
namespace K24
open PySem L2 DL
variable{t:Au}
abbrev Yc:Nat:=1000000000000000000000000000000000000000000000000000000000000
def a5f{i:Int}(h:gu_<Yc):Fu [cu!]=some z_:=by
 have:iV!<1000000000000000000000000000000000000000000000000000000000000:=by unfold Yc at h;split<;>omega
 push_cast[Fu,Rb,this]
def a5h{i k:Int}(h:gu_<Yc)(h0:0<=i)(Y:i<k):Hh [cu!,hs!]=some z_:=by push_cast[Hh,Re,a5f h,h0,Y]
def a5g{i:Int}(h:gu_<Yc)(Y:1<=i):Dx [cu!]=some z_:=by push_cast[Dx,Nh,a5f h,Y]
def tX(h:NameG x):Ec [x]=some z_:=by
 obtain⟨a,b,rfl,Y,L,h3,h4⟩:=h
 push_cast[Ec,Pb,a5h (i:=a) (k:=16) fV! Y L,a5g (i:=b) fV! h3]
def uX(h:Xt x):Eb [x]=some z_:=by
 obtain⟨a,b,c,rfl,Y,L,h3,h4,h5,h6⟩:=h
 push_cast[Eb,Lq,tX ⟨a,b,rfl,Y,L,h3,h4⟩,a5h (i:=c) (k:=16) fV! h5 a!]
def pN(h:Cy x):Hg [x]=some z_:=by
 have n:∀s,Ec [en!]=some Q!:=λs=>by push_cast[Ec,Pb]
 obtain rfl|rfl|h:=h
 .push_cast[Hg,Ml,n,gS]
 .push_cast[Hg,Ml,n,gS]
 .push_cast[Hg,Ml,tX h]
def a1i(h:Mz x):Fd [x]=some z_:=by
 obtain rfl|h:=h
 .push_cast[Fd,Km]
 .obtain⟨a,b,rfl,_⟩:=id h
  push_cast[Fd,Km,tX h]
def c2m(h:La x):Ga [x]=some z_:=by
 obtain rfl|h:=h
 .push_cast[Ga,Ls]
 .obtain⟨a,b,c,rfl,_⟩:=id h
  push_cast[Ga,Ls,uX h]
def b4x{i:Int}(h0:0<=i)(Y:i<=3):Dw [cu!]=some z_:=by push_cast[Dw,Rc,a5h (i:=i) (k:=4) fV! h0 a!]
def d0g{s:Str}(h:Ug s=true)(Y:1<=aB_)(L:j5!):Ke [en!]=some z_:=by
 unfold Ug at h;rw[IZ,JA]at h;have hl:aB_<=big:=by unfold big;omega
 have hc:=yQ cK_ rfl s.cps.toList h.2;have g9:(List.map cN! s.cps.toList).all id=true:=by simp
 have z1:1<=ks!:=by omega
 have z2:ks!<=16:=by omega
 have hz:hi_<=big:=by simpa[Str.length]using hl
 have TQ:Hw 1 [] (AR m_) E! a3_ iz! [some aT!]=some (.lst A7_):=by
  show(if(s.cps.toList.map λc=>D.str aq_).length<=big then Option.map D.lst (Gc E! a3_ iz! cK_ (s.cps.toList.map λc=>.str aq_))else none)=_;rw[IK,IB hz,hc];rfl
 have hall2:Rq [.lst A7_]=some z_:=by
  simp only[Rq,yV,OP,g9]
 push_cast[Ke,Sm,TQ,hl,z1,z2,hall2]
def d0e(nd:t.nd):Li t t.A0=some Hg/\Li t t.A5=some Fd/\Li t t.A6=some Ga/\Li t t.A7=some Ke/\Li t t.A8=some Eb/\
  Li t t.A9=some Dx/\Li t t.B0=some Dw/\Li t t.B1=some Fu/\Li t t.B2=some Ec:=by
 unfold Au.nd at nd;simp only[IJ,HN,JF,KW,OL]at nd;unfold Li;refine⟨?_,?_,?_,?_,?_,?_,?_,?_,?_⟩<;>grind
def vB(ρ:Ae)(oo:ρ=qy_):∀(cs:qz!),(∀c∈cs,∃g,Li t c.1=some g/\g [c.2]=some z_)->
  Gc iC! a3_ iB_ ρ lm_=some kg!/\(lm_).length=cH_
 |[],_=>bi_
 |c::cs,h=>by
  have ih:=vB ρ oo cs λx J=>h x aU!;obtain⟨g,Y,L⟩:=h c HP;subst oo;refine⟨?_,by simp only[IA,Lb,IE,ih.2]⟩;simp only[IA,Lb,Gc,ih.1];simp[Rp,Bd,Pg,Ac,Aa,Ag,Y,L]
def a1s:∀(cs:qz!),Nn xv_=some xw!
 |[]=>rfl
 |c::cs=>by simp only[IA,Nn,a1s cs,OP]
def jI(cs:qz!)(h:∀c∈cs,∃g,Li t c.1=some g/\g [c.2]=some z_)(hl:cH_<=1000):
  Ht t [.tup qA!,.tup qz_]=some z_:=by
 have hc:=vB qy_ rfl cs h;have hz:cH_<=big:=by unfold big;omega
 have TQ:Hw 2 [] (AQ v_ m_) iC! a3_ iB_ [some (.tup qA!),some (.tup qz_)]=some (.lst kg!):=by
  show(if(lm_).length<=big then Option.map D.lst (Gc iC! a3_ iB_ qy_ lm_)else none)=_;rw[hc.2,IB hz,hc.1];rfl
 have g9:Rq [.lst kg!]=some z_:=by
  simp only[Rq,a1s,OP];simp
 push_cast[Ht,Ps,TQ,g9]
def a9e(x:D)(r:c!):Bj (.tup (x::r)) fz! none=some (.tup r):=by
 have Y:HT.sIx (aX!+1) 0 fz!=1:=by
  simp[HT.sIx]
 have L:HT.sIx (aX!+1) (aX!+1) none=aX!+1:=by simp[HT.sIx]
 simp[Bj,Dk,Y,L]
def iZ{k:Str}(hk:(gl_).lookup k=some (.tup fs))(hp:Ht t [.tup r,.tup fs]=some z_)(hc:k≠"cut"):Iq t [.tup cj!]=some z_:=by
 have h0:¬(hs_+1=0):=by omega
 have he:Ba (.int (hs_+1)) L_=some Q!:=by simp[Ba,Bi,Ii,En,h0]
 push_cast[Iq,Pc,he,Yw,hk,Wc,hp,a9e,hc]
def d0j(nd:t.nd)(h:DG d):Iq t [d]=some z_:=by
 obtain⟨i1,i2,i3,i4,i5,i6,i7,i8,i9⟩:=d0e nd;have two:∀{a b:Addr×D} {P:qB!},P a->P b->∀c∈ap_,P c:=λY L c hc=>by
  simp only[HN,JF,KW]at hc;obtain rfl|rfl:=hc
  .exact Y
  .exact L
 have yd:∀{a b c:Addr×D} {P:qB!},P a->P b->P c->∀x∈f6!,P x:=λY L h3 c hc=>by
  simp only[HN,JF,KW]at hc;obtain rfl|rfl|rfl:=hc
  .exact Y
  .exact L
  .exact h3
 have one:∀{a:Addr×D} {P:qB!},P a->∀x∈[a],P x:=λY c hc=>by rw[HX.mp hc];exact Y
 cases h with
 |@put a b Y L=>exact iZ rfl (jI [fV_,(t.A5,b)] (two fW! ⟨_,i2,a1i L⟩) d!) k!
 |@move a b c Y L h3=>exact iZ rfl (jI [fV_,(t.A0,b),(t.A5,c)] (yd fW! ⟨_,i1,pN L⟩ ⟨_,i2,a1i h3⟩) d!) k!
 |@drop a Y=>exact iZ rfl (jI [fV_] (one fW!) d!) k!
 |@write a b s Y L h3 h4 h5=>exact iZ rfl (jI [fV_,(t.A6,b),(t.A7,.str s)] (yd fW! ⟨_,i3,c2m L⟩ ⟨_,i4,d0g h3 h4 h5⟩) d!) k!
 |@cut a x y z m Y L h3 h4=>
  have hz:0<=z:=by obtain⟨_,_,_,e,_,_,_,_,q,_⟩:=L;cases e;exact q
  have hp:=jI (t:=t) [fV_,(t.A8,.tup jW!),(t.A9,.int m)] (yd fW! ⟨_,i5,uX L⟩ ⟨_,i6,a5g fV! h3⟩) d!;have he:Ba (.int 4) L_=some Q!:=by simp[Ba,Bi,Ii,En]
  have hk:(gl_).lookup ("cut":Str)=some (.tup r5!):=rfl;simp only[IA,MY]at hp
  push_cast[Iq,Pc,he,Yw,hk,Wc,hp,a9e,h4]
 |@set a p n Y L h3 h4=>exact iZ rfl (jI [fV_,(t.B0,.int p),(t.B1,.int n)] (yd fW! ⟨_,i7,b4x L h3⟩ ⟨_,i8,a5f h4⟩) d!) k!
 |@undo a Y=>exact iZ rfl Ba! k!
 |@redo a Y=>exact iZ rfl Ba! k!
def d4w{h n m:Int}(nd:t.nd)(Y:0<=h)(L:h<16)(h3:1<=n)(h4:n<=2000)(h5:1<=m)(h6:m<=1000)(hd:DG d):Cb t [.tup [aS!,aQ_,ek_,d]]=some z_:=by push_cast[Cb,Lr,tX ⟨h,n,rfl,Y,L,h3,h4⟩,a5g (i:=m) fV! h5,d0j nd hd]
def nY(h:NameG x):Bi x=true/\Ii x<=1:=by obtain⟨a,b,rfl,_⟩:=h;simp[Bi,Bx,Ii,Dp]
def eW(h:Cy x):Bi x=true/\Ii x<=1:=by
 obtain rfl|rfl|h:=h
 .simp[Bi,Ii]
 .simp[Bi,Ii]
 .exact nY h
def a2g(h:Mz x):Bi x=true/\Ii x<=1:=by
 obtain rfl|h:=h
 .simp[Bi,Ii]
 .exact nY h
def b3a(h:La x):Bi x=true/\Ii x<=1:=by obtain rfl|⟨a,b,c,rfl,_⟩:=h<;>simp[Bi,Bx,Ii,Dp]
def d3u(h:DG d):Bi d=true/\Ii d<=2:=by
 cases h with
 |put Y L=>simp only[Bi,Bx,Ii,Dp,eW Y,a2g L,MJ,QL];have:=(fW_).2;have:=(a2g L).2;omega
 |move Y L h3=>simp only[Bi,Bx,Ii,Dp,eW Y,eW L,a2g h3,MJ,QL];have:=(fW_).2;have:=(eW L).2;have:=(a2g h3).2;omega
 |drop Y=>simp only[Bi,Bx,Ii,Dp,eW Y,MJ,QL];have:=(fW_).2;omega
 |write Y L=>simp only[Bi,Bx,Ii,Dp,eW Y,b3a L,MJ,QL];have:=(fW_).2;have:=(b3a L).2;omega
 |cut Y=>simp only[Bi,Bx,Ii,Dp,eW Y,MJ,QL];have:=(fW_).2;omega
 |set Y=>simp only[Bi,Bx,Ii,Dp,eW Y,MJ,QL];have:=(fW_).2;omega
 |undo Y=>simp only[Bi,Bx,Ii,Dp,nY Y,MJ,QL];have:=(nY Y).2;omega
 |redo Y=>simp only[Bi,Bx,Ii,Dp,nY Y,MJ,QL];have:=(nY Y).2;omega
variable{t:Au}
nonrec def hs(os:f_)(h:Int):List Op:=os.filter λo=>decide (o.h=h)
structure AZ(l:f_):Prop where
 num:∀(i:Nat) (o:Op),l[i]?=some o->o.n=cS_+1
 tim:l.Pairwise λa b=>a.tm<b.tm
structure Zc(o:Op):Prop where
 hh:o.h=0\/o.h=5\/o.h=15\/o.h=11\/o.h=12\/o.h=3
 t1:1<=o.tm
 t2:o.tm<=1000
 n1:1<=o.n
 n2:o.n<=2000
 dg:DG o.d
structure Hist(os:f_):Prop where
 ch:∀h,AZ h6!
 op:∀o∈os,Zc o
def AZ.nil:AZ []:=⟨λi o e=>by simp at e,jv!⟩
def AZ.snoc{l:f_}{o:Op}(h:AZ l)(e:o.n=(au_:Nat)+1)(ht:∀x∈l,x.tm<o.tm):AZ (l++[o]):=by
 refine⟨λi x J=>?_,?_⟩
 .obtain c|c:=LK i au_
  .rw[JZ c]at J;exact h.num i x J
  .rw[JK c]at J;obtain z|z:=Nat.eq_zero_or_pos (i - au_)
   .rw[z]at J;simp at J;subst J;rw[e];omega
   .rw[JW ab_]at J;cases J
 .rw[NO];exact⟨h.tim,QA _ _,λa ha b hb=>by rw[lv_];exact ht a ha⟩
def cE{a b:f_}{h:Int}:hs (a++b) h=hs a h++hs b h:=by unfold hs;rw[PF]
def fD{o:Op}{h:Int}:hs [o] h=if o.h=h then[o]else[]:=by
 unfold hs;by_cases c:o.h=h
 .rw[IB c,JX Bb!];rfl
 .rw[HQ c,JP Bb!];rfl
def iD{os:f_}{h:Int}{o:Op}:o∈hs os h↔o∈os/\o.h=h:=by unfold hs;rw[KP];simp
def Hist.nil:Hist []:=⟨λh=>AZ.nil,λo ho=>by cases ho⟩
def Hist.snoc{os:f_}{o:Op}(h:lo!)(hf:Zc o)(e:o.n=((hs os o.h).length:Nat)+1)(ht:∀x∈os,x.h=o.h->x.tm<o.tm):Hist qB_:=by
 refine⟨λk=>?_,aG!⟩
 .rw[cE,fD];by_cases c:o.h=k
  .rw[IB c];subst c;exact(h.ch _).snoc e λx J=>ht x (iD.mp J).1 (iD.mp J).2
  .rw[HQ c,IR];exact h.ch k
 .obtain z|z:=HV.mp J
  .exact h.op x z
  .rw[aL!];exact hf
structure HW(i:Nat)(os:f_)(c0 c1 c2 t0 t1 t2:Int):Prop where
 hist:Hist os
 len:ap!=i
 q0:c0=Bc_
 q1:c1=Bd!
 q2:c2=Bd_
 u0:∀x∈os,x.h=0->x.tm<=t0
 u1:∀x∈os,x.h=5->x.tm<=t1
 u2:∀x∈os,x.h=15->x.tm<=t2
 b0:0<=t0/\t0<=3*i
 b1:0<=t1/\t1<=3*i
 b2:0<=t2/\t2<=3*i
 wh:∀x∈os,x.h=0\/x.h=5\/x.h=15
def HW.nil:HW 0 [] 0 0 0 0 0 0:=⟨.nil,rfl,rfl,rfl,rfl,lo_,lo_,lo_,H!,H!,H!,lo_⟩
def Zc.hb{o:Op}(h:Zc o):0<=o.h/\o.h<16:=by have:=h.hh;omega
def Zc.ok{o:Op}(h:Zc o):Vi o.v:=⟨o.h,o.n,o.tm,o.d,rfl,h.hb.1,h.hb.2,h.n1,h.n2,h.dg⟩
section
variable{i:Nat}{os:List Op}{c0 c1 c2 t0 t1 t2:Int}{m:Int}{dd:D}
def tT(os:f_)(h:Int):(h6!).length<=ap!:=NA _ _
def HW.opok(hw:h7!):∀o∈os.map Op.v,Vi o:=λo ho=>by
 show"#0";exact(hw.hist.op x J).ok
def c9n(m:Int):0<=m / 3%3/\m / 3%3<3:=⟨LA _ b_,KQ _ b_⟩
def wh1{o:Op}(h:∀x∈os,x.h=0\/x.h=5\/x.h=15)(ho:o.h=0\/o.h=5\/o.h=15):∀x∈os++[o],x.h=0\/x.h=5\/x.h=15:=λx J=>(HV.mp J).elim (h x) λz=>by rw[aL!];exact ho
def HW.tb(hw:h7!):∀x∈os,qC!/\x.tm<=3*i:=λx J=>⟨hw.wh x J,by
 have b0:=hw.b0;have b1:=hw.b1;have b2:=hw.b2;obtain z|z|z:=hw.wh x J
 .have:=hw.u0 x J z;omega
 .have:=hw.u1 x J z;omega
 .have:=hw.u2 x J z;omega⟩
def HW.step0(hw:h7!)(h0:0<=m)(hi:i<100)(hd:DG dd):HW a5! (os++[⟨0,c0+1,t0+1+m / 3%3,dd⟩]) (c0+1) (c1) (c2) (t0+1+m / 3%3) t1 t2:=by
 obtain⟨m1,m2⟩:=c9n m;have hc:=hw.q0;have hb:=hw.b0;have hl:=tT os 0;rw[hw.len]at hl;refine⟨hw.hist.snoc ⟨c0!,by show 1<=t0+1+m / 3%3;omega,by show t0+1+m / 3%3<=1000;omega,by show 1<=c0+1;omega,by show c0+1<=2000;omega,hd⟩ (by show c0+1=Bc_+1;omega) (λx J hh=>by have:=hw.u0 x J hh;show x.tm<t0+1+m / 3%3;omega),qC_,by rw[cE,fD,n_,IG];have:=hw.q0;simp;omega,by rw[cE,fD,HQ Bf!,IR];exact hw.q1,by rw[cE,fD,HQ Bf_,IR];exact hw.q2,cU_,cU_,cU_,qD!,qD_,qE!,wh1 hw.wh G!⟩
 .obtain z|z:=HV.mp J
  .have:=hw.u0 x z hh;omega
  .show"#F"
 .obtain z|z:=HV.mp J
  .exact hw.u1 x z hh
  .rw[aL!]at hh;exact absurd hh Bf!
 .obtain z|z:=HV.mp J
  .exact hw.u2 x z hh
  .rw[aL!]at hh;exact absurd hh Bf_
def HW.step1(hw:h7!)(h0:0<=m)(hi:i<100)(hd:DG dd):HW a5! (os++[⟨5,c1+1,t1+1+m / 3%3,dd⟩]) (c0) (c1+1) (c2) t0 (t1+1+m / 3%3) t2:=by
 obtain⟨m1,m2⟩:=c9n m;have hc:=hw.q1;have hb:=hw.b1;have hl:=tT os 5;rw[hw.len]at hl;refine⟨hw.hist.snoc ⟨.inr G!,by show 1<=t1+1+m / 3%3;omega,by show t1+1+m / 3%3<=1000;omega,by show 1<=c1+1;omega,by show c1+1<=2000;omega,hd⟩ (by show c1+1=Bd!+1;omega) (λx J hh=>by have:=hw.u1 x J hh;show x.tm<t1+1+m / 3%3;omega),qC_,by rw[cE,fD,HQ Bg_,IR];exact hw.q0,by rw[cE,fD,n_,IG];have:=hw.q1;simp;omega,by rw[cE,fD,HQ Bh!,IR];exact hw.q2,cU_,cU_,cU_,qD!,qD_,qE!,wh1 hw.wh dD!⟩
 .obtain z|z:=HV.mp J
  .exact hw.u0 x z hh
  .rw[aL!]at hh;exact absurd hh Bg_
 .obtain z|z:=HV.mp J
  .have:=hw.u1 x z hh;omega
  .show"#F"
 .obtain z|z:=HV.mp J
  .exact hw.u2 x z hh
  .rw[aL!]at hh;exact absurd hh Bh!
def HW.step2(hw:h7!)(h0:0<=m)(hi:i<100)(hd:DG dd):HW a5! (os++[⟨15,c2+1,t2+1+m / 3%3,dd⟩]) (c0) (c1) (c2+1) t0 t1 (t2+1+m / 3%3):=by
 obtain⟨m1,m2⟩:=c9n m;have hc:=hw.q2;have hb:=hw.b2;have hl:=tT os 15;rw[hw.len]at hl;refine⟨hw.hist.snoc ⟨.inr dD!,by show 1<=t2+1+m / 3%3;omega,by show t2+1+m / 3%3<=1000;omega,by show 1<=c2+1;omega,by show c2+1<=2000;omega,hd⟩ (by show c2+1=Bd_+1;omega) (λx J hh=>by have:=hw.u2 x J hh;show x.tm<t2+1+m / 3%3;omega),qC_,by rw[cE,fD,HQ Bh_,IR];exact hw.q0,by rw[cE,fD,HQ Bi!,IR];exact hw.q1,by rw[cE,fD,n_,IG];have:=hw.q2;simp;omega,cU_,cU_,cU_,qD!,qD_,qE!,wh1 hw.wh (.inr fb_)⟩
 .obtain z|z:=HV.mp J
  .exact hw.u0 x z hh
  .rw[aL!]at hh;exact absurd hh Bh_
 .obtain z|z:=HV.mp J
  .exact hw.u1 x z hh
  .rw[aL!]at hh;exact absurd hh Bi!
 .obtain z|z:=HV.mp J
  .have:=hw.u2 x z hh;omega
  .show"#F"
end
section
variable{ρ:Ae}
def b9b{i:Nat}{fx fv:e!}{j:Int}{ds:c!}{k:Nat}(hv:fv ρ=some d)(J:Bi_)(hl:qE_)(hk:Dz ds.length j=some k):Uz i fx fv ρ=some (.nx xo_):=by unfold Uz;rw[hv,J,hl];show(oZ_).map _=_;rw[hk];rfl
def a4w{i:Nat}{fx:e!}{j:Int}(J:Bi_)(hl:qE_)(h:Dc ds j=some d):Me i fx ρ=some d:=by unfold Me;rw[J,hl];exact h
def d1i{i:Nat}{f:e!}{ds:c!}(hf:cg!)(hl:qE_)(hb:h!<big):Px i f ρ=some xl_:=by unfold Px;rw[hf,hl];show(if h!<big then _ else _)=_;rw[IB hb]
def oW{fs:as!}{ds:c!}(h:hx_)(hl:yd!):Aw fs ρ=some dm!:=by unfold Aw;rw[h];show yd_=_;rw[ye!]
def c6d{f:e!}(h:cg!)(n:Ei d=true):Oq f ρ=some d:=by unfold Oq;rw[h];show(if Ei d=true then _ else _)=_;rw[IB n]
end
def c0u{j:Int}:Eh (.int 7) cH!=some (.int (7*j)):=rfl
def b7u{ns:w_}{base j m kk a c t:Int}{os cs ts:c!}{dd:D}{k:Nat}(em:Bv [ds!,.int (base+7*j)]=some do!)(ed:Mr [ds!,.int (base+7*j+1),.lst os,.int 5]=some dd)(nd:Ei dd=true)(z:m%3=kk)
  (hc:Dc cs kk=some (.int c))(ht:Dc ts kk=some (.int t))(kc:Dz cs.length kk=some k)(kt:Dz ts.length kk=some k)(bv:Dc Bk! kk=some (.int (c+1)))(ht':Dc Bl! kk=some Bk_)
  (ha:Dc [D.int 0,.int 5,.int 15] kk=some (.int a))(hb:ap!<big):
  Vn [aa!,at!,some N,some (.lst os),some (.lst cs),some (.lst ts),some cH!,x7,x8,x9]=some (.nx [aa!,at!,some N,some (.lst (os++[.tup [.int a,.int (c+1),.int (t+1+m / 3%3),dd]])),some (.lst Bk!),some (.lst Bl!),some cH!,some do!,some (.int kk),some dd]):=by
 refine(bK (iN (lQ (bN rfl (bN Bm_ rfl)) em))).trans ?_;refine(bK (iN (dW rfl rfl ((tH b_).trans j5_)))).trans ?_;refine(bK (b9b (dW (a4w rfl rfl hc) rfl rfl) rfl rfl kc)).trans ?_;refine(bK (b9b (dW (dW (a4w rfl rfl ht) rfl rfl) (dW (dW rfl rfl rfl) rfl (tH b_)) rfl) rfl rfl kt)).trans ?_;refine(bK (iN (c6d (lQ (bN rfl (bN (dW Bm_ rfl rfl) lr_)) ed) nd))).trans ?_;exact d1i (oW (bN (dW rfl rfl ha) (bN (a4w rfl rfl bv) (bN (a4w rfl rfl ht') hy_))) rfl) rfl hb
def b5n(ns:w_)(base:Int)(N:Nat)(hN:N<=100):∃os:List Op,Mb [ds!,.int base,.int N]=some h8!/\ap!=N/\Hist os/\∀x∈os,qC!/\x.tm<=3*N:=by
 let P:Nat->Ae->Prop:=λi ρ=>∃(os:f_) (c0 c1 c2 t0 t1 t2:Int) (x6 x7 x8 x9:an_),ρ=Bo!/\ap!=i/\HW i os c0 c1 c2 t0 t1 t2
 obtain⟨ρ',e,os,c0,c1,c2,t0,t1,t2,x6,x7,x8,x9,rfl,hl,hw⟩:=qS (bnd:=Cg 6) (q:=Vn) P fy! 0
  ls!
  ⟨[],0,0,0,0,0,0,none,none,none,none,rfl,rfl,HW.nil⟩ (by
   rintro j d ρ hd ⟨os,c0,c1,c2,t0,t1,t2,x6,x7,x8,x9,rfl,hl,hw⟩;unfold Ds at hd;rw[JC]at hd;obtain⟨i',df,rfl⟩:=HU.mp hd;obtain⟨am,he⟩:=IL.mp df;rw[RA]at he;subst he;rw[MD]at am;have ho:∀o∈os.map Op.v,Vi o:=hw.opok;have qj:(a0_).length<=100:=by rw[IK];omega
   obtain⟨m,em,m0,_⟩:=iC ns (k:=base+7*(j:Nat));obtain⟨dd,ed,hd⟩:=c6l ns (base:=base+7*(j:Nat)+1) (most:=5) ho qj b_ b_;have nd:=b2c hd;have hb:(a0_).length<big:=by unfold big;omega
   have TL:m%3=0\/m%3=1\/m%3=2:=by omega
   obtain z|z|z:=TL
   .exact⟨_,_,rfl,qH_,_,_,_,_,_,_,_,_,_,_,_,qI!,er!,hw.step0 a! a! hd⟩
   .exact⟨_,_,rfl,qH_,_,_,_,_,_,_,_,_,_,_,_,qI!,er!,hw.step1 a! a! hd⟩
   .exact⟨_,_,rfl,qH_,_,_,_,_,_,_,_,_,_,_,_,qI!,er!,hw.step2 a! a! hd⟩)
 have UL:ap!=N:=by simpa[Ds]using hl
 refine⟨os,?_,UL,hw.hist,by have:=hw.tb;simpa[Ds]using this⟩;have hr:-1000<=(N:Int)/\(N:Int)<=100000:=by omega
 have hf:Rv (Eu x!) gJ_ Vn ls!=some (.nx Bo!):=by
  have hi:Eu x! ls!=some fy!:=by
   simp[Eu,Aa,hr]
  unfold Rv;rw[hi];exact e
 have hq:Rh Bp!=some (.rt h8!):=by
  show sSeq (Mt 3 Ag) (sSeq (Mt 4 i8_) (sSeq (Mt 5 i8_) (sSeq (Rv (Eu x!) gJ_ Vn) (Bl M!)))) _=_;rw[bK (ρ':=[aa!,at!,h8_,hS_,none,none,none,none,none,none]) rfl];rw[bK (ρ':=[aa!,at!,h8_,hS_,qH!,none,none,none,none,none]) rfl];rw[bK (ρ':=ls!) rfl];rw[bK hf];rfl
 unfold Mb Cj;show(match Rh Bp! with|some (.rt d)=>some d|some (.nx _)=>some .non|none=>none)=_;rw[hq]
def d2p{o:Op}(nd:t.nd)(h:Zc o):Cb t [o.v]=some z_:=by exact d4w nd h.hb.1 h.hb.2 h.n1 h.n2 h.t1 h.t2 h.dg
def c0t{β:Type}{f:Op->β}(hf:∀a b,f a=f b->a.h=b.h):∀(os:f_),(∀h,((h6!).map f).Nodup)->(h9!).Nodup
 |[],_=>NS
 |o::os,H=>by
  have sub:∀h,(h6!).Sublist (hs hP! h):=λh=>by unfold hs;exact(List.sublist_cons_self o os).filter _
  rw[IA,IJ];refine⟨cl_,c0t hf os λh=>((sub h).map f).nodup (H h)⟩;obtain⟨x,J,e⟩:=IH.mp z;have hh:=hf _ _ e;have H1:=H o.h;have:hs hP! o.h=o::hs os o.h:=by unfold hs;rw[JX d!]
  rw[this,IA,IJ]at H1;exact H1.1 (IH.mpr ⟨x,iD.mpr ⟨J,hh⟩,e⟩)
def Hist.names{os:f_}(h:lo!):(kX!).Nodup:=by
 refine c0t Bp_ os λk=>?_
 .show"#@";exact e.1
 .have hn:=(lt!).num;rw[OV,PV,PJ];intro i j hi hj V' e;have e1:=hn i _ (II hi);have e2:=hn j _ (II hj);show"#@";omega
def Hist.keys{os:f_}(h:lo!):(os.map Op.key).Nodup:=by
 refine c0t Bp_ os λk=>?_
 .simp only[Op.key,KY]at e;exact e.2
 .rw[OV,PV];refine(lt!).tim.imp λ{a b} lm e=>?_;simp only[Op.key,KY]at e;omega
end K24
namespace K24
open PySem L2 DL
open Classical
def Pu(f:WE)(ρ:Ae)(M:Mh)(d:D):Prop:=∀K:D->Mh->Prop,K d M->f ρ M K
def Uw(f:WT)(ρ:Ae)(M:Mh)(b:Bool):Prop:=∀K:Bool->Mh->Prop,K b M->f ρ M K
def Rt(g:WF)(ds:c!)(M:Mh)(d:D):Prop:=∀K:D->Mh->Prop,K d M->g ds M K
section
variable{M:Mh}{ρ:Ae}
def jD{α:Type}{x:α}{R:pY_}(h:R x):Ef eU! R:=h
def aP{f:e!}(h:cg!):Pu (wl f) ρ M d:=λK hK=>by rw[dX h];exact hK
def eO{a:xT!}{fs:aU_}{fo:WE}(h:Pu fo ρ M cE!)(hM:M a=some hm_)(hv:fs.lookup x=some v):Pu (Ay C x fo) ρ M v:=λK hK=>by
 refine h _ ?_;have:Gv C x M cE!=some v:=by simp only[Gv,hM,JT,hv]
 rw[this];exact hK
def eF{g:bf!}{fa fb:WE}(ha:Pu fa ρ M x)(hb:Pu fb ρ M y)(hg:g M x y=some d):Pu (w2 g fa fb) ρ M d:=λK hK=>by
 refine ha _ (hb _ ?_);rw[hg];exact hK
def qD{ep:Nat}{fo fa fb:WE}(ho:Pu fo ρ M D_)(ha:Pu fa ρ M y)(hb:Pu fb ρ M z)(hp:bV_)(hk:cl!)(hd:(hX!).getD z=d):Pu (Hz fo fa fb) ρ M d:=λK hK=>by
 have c:Ed M D_=some k2_:=by simp[Ed,hp]
 refine ho _ ?_;rw[c];refine ha _ (hb _ ?_);rw[c,hk];show K ((hX!).getD z) M;rw[hd];exact hK
def a0f{g:hQ_}{f:WE}(h:Pu f ρ M x)(hg:g M [x]=some d):Pu (w1 g (Ab f Af)) ρ M d:=λK hK=>by
 refine h _ ?_;show Ef (g M [x]) λd=>K d M;rw[hg];exact hK
def iT{g:WF}{f1:WE}{a:D}(Y:lu!)(hg:Rt g [a] M d):Pu (Aj 1 g qJ_) ρ M d:=λK hK=>by
 exact Y _ lu_
def cL{g:WF}{f1 f2:WE}{a:D}(Y:lu!)(L:Pu f2 ρ M b)(hg:Rt g ap_ M d):Pu (Aj 2 g Br!) ρ M d:=λK hK=>by
 exact Y _ (L _ lu_)
def a6y{g:WF}{f1 f2 f3:WE}{a:D}(Y:lu!)(L:Pu f2 ρ M b)(h3:Pu f3 ρ M c)(hg:Rt g f6! M d):Pu (Aj 3 g Bs_) ρ M d:=λK hK=>by
 exact Y _ (L _ (h3 _ lu_))
def eK{g:WF}{fo f1:WE}{a:D}(h0:Pu fo ρ M N_)(ho:Dg C m M N_)(Y:lu!)(hg:Rt g [bc_,a] M d):Pu (Bb C m 2 g fo qJ_) ρ M d:=λK hK=>by
 exact h0 _ ⟨ho,Y _ lu_⟩
def jB{f:WE}{b:Bool}(h:Pu f ρ M bK!):Uw (wT f) ρ M b:=λK hK=>by unfold wT;exact h _ hK
def a0g{f:ah!}{b:Bool}(h:f ρ=some b):Uw (Dd f) ρ M b:=λK hK=>by unfold Dd;rw[h];exact hK
def b0w{f:WT}{b:Bool}(h:Uw f ρ M b):Uw (Iu f) ρ M (!b):=λK hK=>by unfold Iu;exact h _ hK
def c7h{f g:WT}{b c:Bool}(h:Uw f ρ M b)(L:b=false->Uw g ρ M c)(e:b=true->c=true):Uw (Ux f g) ρ M c:=λK hK=>by
 refine h _ ?_;cases b with
 |true=>rw[n_,<-e rfl];exact hK
 |false=>rw[am_];exact L rfl K hK
def fS{i:Nat}{f:WE}{q:WS}{R:j!}(h:lw!)(k:q cf_ M R):Ah (Ao i f) q ρ M R:=by exact h _ k
def dD{f:WE}{R:j!}(h:lw!)(k:R a0! M):Az f ρ M R:=by unfold Az;exact h _ k
def b0c{ft:WT}{q1 q2:WS}{R:j!}(h:Uw ft ρ M true)(k:q1 ρ M R):Av ft q1 q2 ρ M R:=by refine h _ ?_;rw[n_];exact k
def lX{ft:WT}{q1 q2:WS}{R:j!}(h:qL!)(k:dt_):Av ft q1 q2 ρ M R:=by refine h _ ?_;rw[am_];exact k
def fN{ft:WT}{q1 q2:WS}{R:j!}(h:qL!)(k:dt_):Ah (Av ft q1 Bn) q2 ρ M R:=by exact lX h k
def DR(C:xT!)(x:Str)(fo:e!)(ρ:Ae)(y:D)(M:Mh)(Q:bf_):Prop:=wl fo ρ M λd M2=>match d with
 |.fn p=>(match M2 p with|some (.obj C' fs)=>C'=C/\bu!<100/\Q (Be M2 p qg!)|_=>False)
 |_=>False
def vM{fo:e!}{f:WE}{R:j!}(h:f ρ M λy M1=>DR C x fo ρ y M1 λM2=>R aK! M2):Fy C x dq! f ρ M R:=h
def wM{fo:e!}{f:WE}{q:WS}{R:j!}(h:f ρ M λy M1=>DR C x fo ρ y M1 λM2=>q ρ M2 R):Ah (Fy C x dq! f) q ρ M R:=h
def kH{fs vw:aU_}{fo:e!}{Q:bf_}(h0:ll!)(hM:M p=some hm_)(hl:bu!<100)(hf:Bq x y fs=vw)(k:Q (Be M p (.obj C vw))):DR C x fo ρ y M Q:=by unfold DR;rw[dX h0];show(match M p with|some (.obj C' fs)=>C'=C/\bu!<100/\Q (Be M p qg!)|_=>False);rw[hM];subst hf;exact⟨rfl,hl,k⟩
end
def iI(h:cL!)(hd:Ii d<=40):Eg d d=some Q!:=by unfold Eg;rw[h,yL d h,IV hd];rfl
def c0h(o:Op):Ak o.v bx!=some fM_:=by simp[Op.v,Ak,Dc,Dz]
def iM:∀{ds:c!},(∀d∈ds,Bi d=true)->Bx ds=true
 |[],_=>by simp[Bx]
 |d::ds,h=>by
  unfold Bx;rw[h d HP,iM λx J=>h x aU!];rfl
def kB{n:Nat}:∀{ds:c!},(∀d∈ds,Ii d<=n)->Dp ds<=n
 |[],_=>by simp[Dp]
 |d::ds,h=>by
  unfold Dp;have Y:=h d HP;have L:=kB λx J=>h x (HL d J);omega
def c5b{o:Op}(h:hG_):Bi o.v=true/\Ii o.v<=5:=by
 obtain⟨Y,L⟩:=d3u h;show"!L"
 .show Bx kJ!=true;refine iM λd hd=>?_;simp only[HN,JF,KW]at hd;obtain rfl|rfl|rfl|rfl:=hd
  .rfl
  .rfl
  .rfl
  .exact Y
 .show Dp kJ!+1<=5;have:Dp kJ!<=2:=kB λd hd=>by
   simp only[HN,JF,KW]at hd;obtain rfl|rfl|rfl|rfl:=hd
   .simp[Ii]
   .simp[Ii]
   .simp[Ii]
   .exact L
  omega
nonrec def hF(yy:Int)(ta wa:xT!)(out:D):List ci_:=[("ours",.int yy),("taken",.fn ta),("waiting",.fn wa),("outline",out)]
section
variable{yy:Int}{ta wa:xT!}{out:D}
def hF1:List.lookup Bv! dD_=some (D.int yy):=by kernel_rfl
def hF2:List.lookup Bv_ dD_=some (D.fn ta):=by kernel_rfl
def hF3:List.lookup Bw! dD_=some (D.fn wa):=by kernel_rfl
def hF4:List.lookup qN_ dD_=some out:=by kernel_rfl
def hM1:List.lookup (Str.ofString "have") dD_=none:=by kernel_rfl
def hP1:Bq Bv! qO! []=[fZ!]:=by kernel_rfl
def hP2:Bq Bv_ (.fn ta) [fZ!]=lx!:=by kernel_rfl
def hP3:Bq Bw! (.fn wa) lx!=lx_:=by kernel_rfl
def hP4:Bq qN_ .non lx_=hF yy ta wa .non:=by kernel_rfl
def hP5:Bq qN_ o2 dD_=hF yy ta wa o2:=by kernel_rfl
end
structure Bm(t:Au)(M:Mh)(yy:Int)(a ta wa:xT!)(out:D)(S:f_)(kl:w_)(ca:ly!):Prop where
 ob:M a=some (.obj t.B3 dD_)
 tk:∃ep,M ta=some (.dct ic! ep)
 wt:M wa=some cQ_
 cl:∀h∈kl,M (ca h)=some (.lst ((eH!).map Op.v))
 nk:kl.Nodup
 mem:∀h,h∈kl↔hs S h≠[]
 cw:∀h∈kl,ca h≠wa
 ci:∀h∈kl,∀h'∈kl,ca h=ca h'->h=h'
 len:lz_<=fZ_
def Ow(a ta wa:xT!)(kl:w_)(ca:ly!)(b:xT!):Prop:=b=a\/b=ta\/b=wa\/∃h∈kl,b=ca h
structure Mv(M:Mh)(O:f0!)(M':Mh)(O':f0!):Prop where
 k:∀b,M b≠none->¬O b->M' b=M b
 n:∀b,O' b->O b\/M b=none
def Mv.refl{M:Mh}{O:f0!}:Mv M O M O:=⟨λ_ _ _=>rfl,ee_⟩
def Mv.of{M M':Mh}{O:f0!}(h:BB_):Mv M O M' O:=⟨λb hb _=>h b hb,ee_⟩
def Mv.trans{M M1 M2:Mh}{O O1 O2:f0!}(h:Mv M O M1 O1)(g:Mv M1 O1 M2 O2):Mv M O M2 O2:=by
 refine⟨qO_,λb ho=>?_⟩
 .have e:=h.k b hb ho;exact(g.k b (by rw[e];exact hb) λz=>(h.n b z).elim ho hb).trans e
 .obtain z|z:=g.n b ho
  .exact h.n b z
  .by_cases c:M b=none
   .exact .inr c
   .by_cases d:O b
    .exact .inl d
    .rw[h.k b c d]at z;exact .inr z
def gA{g:Int->D}:∀{kl:w_} {x:Int},kget (kl.map λh=>(D.int h,g h)) (.int x)=if x∈kl then some (g x)else none
 |[],x=>by simp[kget]
 |k::kl,x=>by
  rw[IA];unfold kget;by_cases e:k=x
  .subst e;simp
  .rw[HQ λz=>e (D.int.inj z),gA];simp[HR e]
section
variable{t:Au}{M:Mh}{yy:Int}{a ta wa:xT!}{out:D}{S:List Op}{kl:List Int}{ca:Int->Addr}
def Bm.nob(hA:X!)(hm:(dD_).lookup m=none):Dg t.B3 m M cE!:=by show(match M a with|some (.obj C' fs)=>C'=t.B3/\fs.lookup m=none|_=>False);rw[hA.ob];exact⟨rfl,hm⟩
def Bm.nol(hA:X!){h:Int}(hh:h∉kl):hs S h=[]:=PL λz=>hh ((hA.mem h).mpr z)
def Bm.keep{M':Mh}(hA:X!)(k:BB_):Bm t M' yy a ta wa out S kl ca:=by obtain⟨ep,ht⟩:=hA.tk;exact{hA with ob:=(k a lA!).trans hA.ob,tk:=⟨ep,(k ta lA_).trans ht⟩,wt:=(k wa lB!).trans hA.wt,cl:=λh hh=>(k _ lB_).trans lC!}
def Bm.lv(hA:X!)(h:Ow a ta wa kl ca b):M b≠none:=by
 obtain⟨ep,ht⟩:=hA.tk;obtain rfl|rfl|rfl|⟨h,hh,rfl⟩:=h
 .rw[hA.ob];simp
 .rw[ht];simp
 .rw[hA.wt];simp
 .rw[hA.cl h hh];simp
def Bm.mv{M':Mh}{O O':f0!}(hA:X!)(m:Mv M O M' O')(d:∀b,Ow a ta wa kl ca b->¬O b):Bm t M' yy a ta wa out S kl ca/\∀b,Ow a ta wa kl ca b->¬O' b:=by have k:∀b,Ow a ta wa kl ca b->M' b=M b:=λb hb=>m.k b (hA.lv hb) (d b hb);obtain⟨ep,ht⟩:=hA.tk;exact⟨{hA with ob:=(k a G!).trans hA.ob,tk:=⟨ep,(k ta dD!).trans ht⟩,wt:=(k wa lC_).trans hA.wt,cl:=λh hh=>(k _ (.inr (.inr (.inr ⟨h,hh,rfl⟩)))).trans lC!},λb hb z=>(m.n b z).elim (d b hb) (hA.lv hb)⟩
def vW{h:Int}(hA:X!):Rt gy! [P!,aS!] M qQ!:=λK hK=>by
 show"!b";refine j_;by_cases c:h∈kl
 .have hl:Wl M [.fn (ca h)]=some qQ!:=by
   show((Su M lD!).map λxs=>D.int l_)=_;simp only[Su,hA.cl h c,OP,IK]
  exact dD (a0f (qD f1! ic_ qQ_ ht (k:=qR!) rfl (by rw[gA,IB c];rfl)) hl) hK
 .have hl:Wl M [lj_]=some qQ!:=by rw[hA.nol c];rfl
  exact dD (a0f (qD f1! ic_ qQ_ ht (k:=qR!) rfl (by rw[gA,HQ c];rfl)) hl) hK
def a2b{o:Op}(hA:X!):Rt (Fz t) lE! M (.bl (decide (o.n<=eI!))):=λK hK=>by
 refine j_;exact dD (eF (aP (a3c o)) BH! rfl) hK
def b1t{o:Op}(hA:X!):Rt (Hf t) lE! M (.bl (o.n==eI!+1)):=λK hK=>by
 refine j_;exact dD (eF (aP (a3c o)) (eF BH! lF_ (d:=.int (eI!+1)) rfl) (vX _ _)) hK
nonrec def lt(S:f_)(h:Int):Int:=((eH!).getLast?.map Op.tm).getD 0
def c5r{xs:c!}(h:xs.getLast?=some v):Dc xs (-1)=some v:=by
 have hl:0<l_:=by cases xs with|nil=>cases h|cons a l=>simp
 show"#8";rw[HQ a!,a1!];show xs[((-1:Int)+l_).toNat]?=_;rw[show((-1:Int)+xs.length).toNat=xs.length - 1 by omega,<-List.getLast?_eq_getElem?];exact h
def qT{h:Int}(hA:X!):Rt (Ex t) [P!,aS!] M (.int lG!):=λK hK=>by
 show"!b";refine j_;show Ah sZ_ s0_ [t_,id!] M _;have hv:=jB (eF (g:=λ_=>Ba) (ρ:=[t_,id!]) (eK qS! qR_ (aP (f:=Aa 1) (d:=aS!) rfl) (vW hA)) (aP (f:=fC L_) rfl) (vX _ _));by_cases c:hs S h=[]
 .rw[c]at hv;refine b0c hv (dD qS_ ?_);unfold lt at hK;rw[c]at hK;exact hK
 .have hl:0<(eH!).length:=List.length_pos_iff.mpr c;rw[show((BG!:Int)==0)=false from by rw[KH];omega]at hv;refine fN hv ?_;have hk:=(hA.mem h).mpr c;obtain⟨o,ho⟩:∃o,(hs S h).getLast?=some o:=by cases e:(eH!).getLast? with|some o=>exact⟨o,rfl⟩|none=>exact absurd (List.getLast?_eq_none_iff.mp e) c
  have i1:Bt M (.fn ta) lG_=some lD!:=(BJ_).trans (by rw[gA,aO_]);have i2:Bt M lD! (.int (-1))=some o.v:=by
   simp only[Bt,hA.cl h hk];exact c5r (by rw[List.getLast?_map,ho];rfl)
  have e:lt S h=o.tm:=by unfold lt;rw[ho];rfl
  rw[e]at hK;exact dD (eF (eF (eF f1! ic_ i1) (aP (d:=.int (-1)) rfl) i2) BL! (c0h o)) hK
def tI{ρ:Ae}{R:s_}(hR:∀a ta wa M',M a=none->Bm t M' yy a ta wa .non [] [] (λ_=>a)->kO!->(∀b,Ow a ta wa [] (λ_=>a) b->M b=none)->R cE! M'):Gf t.B3 2 (Gb t) (Ab (wl (fC qO!)) Af) ρ M R:=by
 refine⟨rfl,λa ha=>j_⟩;refine wM ?_;rw[dX (f:=Aa 1) (d:=lH_) rfl];refine kH (fs:=[]) rfl mup_same b_ hP1 ?_;generalize e1:Be (Be M a (.obj t.B3 [])) a BM_=M1;have a1:M1 a=some BM_:=by rw[<-e1];exact mup_same
 have o1:∀b,b≠a->M1 b=M b:=λb hb=>by rw[<-e1,bs_,bs_]
 refine wM ?_;intro ta TR;have vo:a≠ta:=aV (by rw[a1];simp) TR;refine kH (fs:=[fZ!]) rfl ((mup_ne vo).trans a1) (by show 1<100;decide) hP2 ?_;generalize e2:Be (Be M1 ta B!) a rB_=M2;have a2:M2 a=some rB_:=by rw[<-e2];exact mup_same
 have X8:M2 ta=some B!:=by rw[<-e2,mup_ne it!];exact mup_same
 have o2:∀b,b≠a->b≠ta->M2 b=M b:=λb hb hc=>by rw[<-e2,bs_,mup_ne hc];exact o1 b hb
 refine wM ?_;refine⟨R!,λwa ye=>?_⟩;have yf:a≠wa:=aV (by rw[a2];simp) ye;have X9:ta≠wa:=aV (by rw[X8];simp) ye;refine kH (fs:=lx!) rfl ((mup_ne yf).trans a2) qU! hP3 ?_;generalize e3:Be (Be M2 wa cQ_) a qU_=M3;have a3:M3 a=some qU_:=by rw[<-e3];exact mup_same
 have o3:∀b,b≠a->b≠wa->M3 b=M2 b:=λb hb hc=>by rw[<-e3,bs_,mup_ne hc]
 have w3:M3 wa=some cQ_:=by rw[<-e3,qV_];exact mup_same
 refine vM ?_;rw[lL!];refine kH (fs:=lx_) rfl a3 qU! hP4 ?_;refine⟨rfl,hR a ta wa _ ha ⟨mup_same,qw!,?_,lL_,NS,λh=>by simp[hs],lL_,lL_,IM _⟩ io_ λb hb=>?_⟩
 .rw[mup_ne it!,o3 ta it! X9];exact X8
 .rw[qV_];exact w3
 .have ba:b≠a:=aV hb ha;have bt:b≠ta:=aV (N:=M1) (by rw[o1 b ba];exact hb) TR;have bw:b≠wa:=aV (N:=M2) (by rw[o2 b ba bt];exact hb) ye;rw[mup_ne ba,o3 b ba bw,o2 b ba bt]
 .obtain rfl|rfl|rfl|⟨_,h,_⟩:=hb
  .exact ha
  .rw[<-o1 _ it!];exact TR
  .rw[<-o2 _ (HR yf) (HR X9)];exact ye
  .cases h
end
section
variable{t:Au}{M:Mh}{ρ:Ae}{yy:Int}{a ta wa:xT!}{out:D}{S:List Op}{kl:List Int}{ca:Int->Addr}
def cM{ep:Nat}(hp:bV_):Ed M D_=some k2_:=by simp[Ed,hp]
def a1q(hp:M p=some T!):Os M D_=some (p,xs):=by simp[Os,hp]
def GM(fa:e!)(ρ:Ae)(d:D)(M:Mh)(R:s_):Prop:=Ef (Os M d) λ_=>wl fa ρ M λv M2=>Ef (Os M2 d) λq=>p3!<big/\R .non zO!
def c4c{fo:WE}{fa:e!}{q:WS}{R:j!}(h:fo ρ M λd M1=>GM fa ρ d M1 λ_ M2=>q ρ M2 R):Ah (Bo (Vo fo hJ!)) q ρ M R:=h
def a9o{xs:c!}{f:e!}{R:s_}(hp:M p=some T!)(hf:f ρ=some v)(hl:l_<big)(k:R .non (Be M p (.lst (xs++[v])))):GM f ρ D_ M R:=by refine jD ?_;rw[dX hf,a1q hp];exact jD ⟨hl,k⟩
def c3z{kvs:i!}{ep:Nat}{fo:WE}{fa:e!}{K:s_}(ho:Pu fo ρ M D_)(Y:qt_)(hp:bV_)(hk:cl!)(hl:dy_)
  (ar:∀q v,M q=none->kget kvs y=some v->K v f3!)(new:∀q,M q=none->kget kvs y=none->K bR_ (Be f3! p (.dct (As kvs y bR_) bG_))):Ki fo hJ! (Qj Af) ρ M K:=by
 refine ho _ ?_;rw[cM hp];refine jD ?_;rw[dX Y];refine⟨R!,kP!⟩;have pq:p≠q:=aV ie_ hq;show Ef (Ed f3! D_) _;rw[cM ((mup_ne pq).trans hp)];refine jD ?_;rw[hk];refine jD ⟨hl,?_⟩;cases e:kget kvs y with
 |some v=>exact ar q v hq e
 |none=>exact new q hq e
def a1y{o:Op}{R:s_}(hA:X!)(hS:cW!)(hR:∀M' bn bo,Bm t M' yy a ta wa .non gl! bn bo->Mv M dF! M' dF_->R .non M'):Kf t lE! M R:=by
 obtain⟨ep,ht⟩:=hA.tk;refine j_;refine c4c ?_;have i0:f2 Ak v_ C! [t_,U_]=some cP_:=sP o;have X':lz_<64:=LD hA.len hS;have hlS:(eH_).length<64:=LD (tT S o.h) hS;have at_:a≠ta:=λz=>by have:=hA.ob;rw[z,ht]at this;cases this
 have aw:a≠wa:=λz=>by have:=hA.ob;rw[z,hA.wt]at this;cases this
 have tw:ta≠wa:=λz=>by rw[z,hA.wt]at ht;cases ht
 have cA:∀h∈kl,ca h≠a:=λh hh z=>by have:=hA.cl h hh;rw[z,hA.ob]at this;cases this
 have cT:∀h∈kl,ca h≠ta:=λh hh z=>by have:=hA.cl h hh;rw[z,ht]at this;cases this
 refine c3z (k:=lO_) f1! i0 ht rfl fQ_ (λq v hq e=>?_) (λq hq e=>?_)
 .have aq:a≠q:=aV lA! hq;have tq:ta≠q:=aV lA_ hq;have wq:wa≠q:=aV lB! hq;have cq:∀h∈kl,ca h≠q:=λh hh=>aV lB_ hq;rw[gA]at e;have c:o.h∈kl:=by
   by_cases c:o.h∈kl
   .exact c
   .rw[HQ c]at e;cases e
  rw[IB c]at e;cases e;refine a9o (p:=ca o.h) (v:=o.v) ((mup_ne (cq _ c)).trans (hA.cl _ c)) rfl fQ_ ?_;generalize e2:Be f3! (ca o.h) q0_=M2;have m2:∀b,b≠q->b≠ca o.h->M2 b=M b:=λb Y L=>by rw[<-e2,cF!,ce!]
  have m2c:M2 (ca o.h)=some q0_:=by rw[<-e2];exact mup_same
  refine vM ?_;rw[lL!];refine kH (fs:=q1_) rfl ((m2 a aq (HR (cA _ c))).trans hA.ob) lP! hP5 ?_;refine hR _ kl ca ⟨mup_same,⟨ep,?_⟩,?_,lQ!,hA.nk,λh=>?_,hA.cw,hA.ci,?_⟩ ⟨qO_,ee_⟩
  .rw[q3!,m2 ta tq (HR (cT _ c))];exact ht
  .rw[q3_,m2 wa wq (HR (hA.cw _ c))];exact hA.wt
  .rw[mup_ne (cA h hh),cE,fD];by_cases z:o.h=h
   .rw[IB z,<-z,m2c,IU];rfl
   .rw[HQ z,IR,m2 _ (cq h hh) λy=>z (hA.ci _ hh _ c y).symm];exact hA.cl h hh
  .rw[cE,fD];by_cases z:o.h=h
   .rw[IB z];subst z;simp[c]
   .rw[HQ z,IR];exact hA.mem h
  .rw[IG];have:=hA.len;omega
  .rw[q5!,m2 b lR! λz=>ho (.inr (.inr (.inr ⟨_,c,z⟩)))]
 .have aq:a≠q:=aV lA! hq;have tq:ta≠q:=aV lA_ hq;have wq:wa≠q:=aV lB! hq;have cq:∀h∈kl,ca h≠q:=λh hh=>aV lB_ hq;rw[gA]at e;have c:o.h∉kl:=by
   by_cases c:o.h∈kl
   .rw[IB c]at e;cases e
   .exact c
  have p8:As ic! cP_ bR_=ic!++q6!:=iW (λz=>by
   rw[JQ]at z;obtain⟨x,J,ex⟩:=IH.mp z;exact c (by rw[<-D.int.inj ex];exact J))
  rw[p8];refine a9o (p:=q) (v:=o.v) (xs:=[]) ((mup_ne (HR tq)).trans mup_same) rfl b_ ?_;generalize e2:Be (Be f3! ta q7!) q (.lst ([]++[o.v]))=M2;have m2:∀b,b≠q->b≠ta->M2 b=M b:=λb Y L=>by rw[<-e2,ce!,cF!,ce!]
  have m2q:M2 q=some (.lst [o.v]):=by rw[<-e2];exact mup_same
  have m2t:M2 ta=some q7!:=by rw[<-e2,mup_ne tq];exact mup_same
  refine vM ?_;rw[lL!];refine kH (fs:=q1_) rfl ((m2 a aq at_).trans hA.ob) lP! hP5 ?_;have nc:∀h∈kl,h≠o.h:=λh hh z=>c (z▸hh);have hs0:hs S o.h=[]:=hA.nol c;refine hR _ (kl++[o.h]) (λh=>if h=o.h then q else ca h) ⟨mup_same,⟨ep+1,?_⟩,?_,lQ!,?_,λh=>?_,lQ!,λh hh h' pp ee=>?_,?_⟩ ⟨qO_,by_⟩
  .rw[q3!,m2t,IU];congr 3
   .apply KI;intro h hh;rw[HQ (nc h hh)]
   .show _=[(D.int o.h,D.fn (if o.h=o.h then q else ca o.h))];rw[n_]
  .rw[q3_,m2 wa wq (HR tw)];exact hA.wt
  .show Be M2 a _ lS!=_;by_cases z:h=o.h
   .rw[IB z,mup_ne (HR aq),m2q,z,cE,fD,n_,hs0];rfl
   .have pp:h∈kl:=(lT!).resolve_right λy=>z lT_;rw[HQ z,mup_ne (cA h pp),m2 _ (cq h pp) (cT h pp),cE,fD,HQ (HR z),IR];exact hA.cl h pp
  .rw[IY];exact⟨hA.nk,A4!,λx J y hy=>by rw[HX.mp hy];exact nc x J⟩
  .rw[cE,fD,HV,HX];by_cases z:o.h=h
   .rw[IB z];simp[z]
   .rw[HQ z,IR,<-hA.mem h];simp[HR z]
  .show lS!≠wa;by_cases z:h=o.h
   .rw[IB z];exact HR wq
   .rw[HQ z];exact hA.cw h ((lT!).resolve_right λy=>z lT_)
  .have g:∀x,x∈kl++[o.h]->x≠o.h->x∈kl:=λx J z=>(HV.mp J).resolve_right λy=>z lT_;have r9:lS!=(if h'=o.h then q else ca h'):=ee;by_cases z:h=o.h
   .by_cases z':h'=o.h
    .rw[z,z']
    .rw[IB z,HQ z']at r9;exact absurd r9.symm (cq h' (g h' pp z'))
   .by_cases z':h'=o.h
    .rw[HQ z,IB z']at r9;exact absurd r9 (cq h (g h hh z))
    .rw[HQ z,HQ z']at r9;exact hA.ci h (g h hh z) h' (g h' pp z') r9
  .rw[IG,IG];have:=hA.len;simp;omega
  .rw[q5!,m2 b lR! λz=>ho lV_]
  .obtain z|z|z|⟨h,hh,z⟩:=hb
   .exact .inl cb!
   .exact .inl lV_
   .exact .inl (.inr lV_)
   .have z':b=if h=o.h then q else ca h:=z
    by_cases e:h=o.h
    .rw[IB e]at z';rw[z'];exact .inr hq
    .rw[HQ e]at z';exact .inl (.inr (.inr (.inr ⟨h,(lT!).resolve_right λx=>e (HX.mp x),z'⟩)))
def b0x{f:WE}{nl:Nat}{ix:k_}{bnd:ai!}{ft:WT}{fe:WE}(h:Pu f ρ M D_)(hp:M p=some cQ_):Pu (Bg nl ix (Ca f) bnd ft fe) ρ M cQ_:=λK hK=>by
 refine h _ ?_;show(match M p with|some (.lst xs)=>_|_=>False);rw[hp];exact⟨JS _,hp,hK⟩
def b5s{ft:WT}{q q2:WS}{R:j!}(h:qL!)(k:dt_):Ah (Jl ft q) q2 ρ M R:=by refine fm_;refine h _ ?_;rw[am_];exact k
def rX(hA:X!):Rt (Fe t) [P!] M L_:=λK hK=>by
 refine j_;refine fS qS_ ?_;refine fS (b0x (eO bt! hA.ob hF3) hA.wt) ?_;refine b5s (a0g rfl) ?_;exact dD qS_ hK
def b0r{o:Op}{R:s_}(hA:X!)(hS:cW!)(hn:o.n=eI!+1)(hR:∀M' bn bo,Bm t M' yy a ta wa .non gl! bn bo->Mv M dF! M' dF_->R aN! M'):Kc t lE! M R:=by
 refine j_;show Ah ti! _ lW! M _;have J:Uw th_ lW! M true:=by
  have e:(o.n==eI!+1)=true:=by rw[hn];exact LF _
  have:=jB (cL (ρ:=lW!) qS! (aP (f:=Aa 1) rfl) (b1t (o:=o) hA));rw[e]at this;exact this
 refine b0c J ?_;refine hV (vD rfl rfl (a1y hA hS λM' bn bo cz mv=>?_));exact dD (eF lF_ (iT (aP (f:=Aa 0) (d:=P!) rfl) (rX cz)) (d:=.int 1) rfl) (hR M' bn bo cz mv)
def Hist.next{os:f_}{o:Op}(h:Hist (S++o::os)):o.n=eI!+1:=by
 have:=(h.ch o.h).num (eH_).length o;rw[cE]at this;have e:hs hP! o.h=o::hs os o.h:=by unfold hs;rw[JX d!]
 rw[e]at this;exact this (by rw[JK y!];simp)
def EC(t:Au):WS:=To 2 tl!
def b2w:∀(os:f_) (x1:D) (k:Int) (y:an_) (M:Mh) (out:D) (S:f_) (kl:w_) (ca:ly!) (R:j!),Bm t M yy a ta wa out S kl ca->Hist (S++os)->(S++os).length<64->
  (∀M' bn bo yg y',Bm t M' yy a ta wa yg (S++os) bn bo->((out=.non->yg=.non)/\(os≠[]->yg=.non))->Mv M dF! M' dF_->R (.nx [t_,R_,some (.int (k+(ap!:Nat))),y']) M')->
  Ib Q_ ae! (EC t) a0_ [t_,R_,some io!,y] M R
 |[],x1,k,y,M,out,S,kl,ca,R,hA,_,_,hR=>⟨trivial,by
  have:=hR M kl ca out y (by rw[IR];exact hA) ⟨id,λz=>absurd rfl z⟩ .refl;simpa using this⟩
 |o::os,x1,k,y,M,out,S,kl,ca,R,hA,hH,hl,hR=>by
  refine aI_;show Aj 2 (Kc t) dY_ [t_,R_,some io!,U_] M _;have qj:fZ_<64:=by rw[IG]at hl;omega
  refine vD rfl rfl (b0r hA qj hH.next λM' bn bo cz mv=>?_);have e:S++o::os=S++[o]++os:=by simp
  refine b2w os x1 V! ey! M' .non gl! bn bo R cz (by rw[<-e];exact hH) rb! λM2 yh yi out2 y2 L hz se=>?_;have h3:=hR M2 yh yi out2 y2 (by rw[e];exact L) ⟨rb_,rb_⟩ (mv.trans se);have ek:k+((hP!).length:Nat)=k+1+(ap!:Nat):=by rw[IE];omega
  rw[ek]at h3;exact h3
def b0e{kvs:i!}{ep:Nat}{fo fa fb:e!}{K:s_}(h0:ll!)(Y:qt_)(L:fb ρ=some z)(hp:bV_)(hk:cl!)(hl:dy_)(hn:y∉kvs.map c_)(hK:K z (Be M p (.dct (kvs++[(y,z)]) bG_))):Ki dq! hJ! hI_ ρ M K:=by unfold Ki;rw[dX h0,cM hp];refine jD ?_;rw[dX Y,dX L,cM hp,hk];refine jD (jD ⟨hl,?_⟩);rw[xZ hn,iW hn];exact hK
def c0r(o:Op):Ak o.nm L_=some cP_:=by simp[Op.nm,Ak,Dc,Dz]
def GU(t:Au):WS:=Ah gu!
 (Ah s4!
 s5_)
structure Nx(yy:Int)(S:f_)(o:Op):Prop where
 f:Zc o
 y:o.h≠yy
 n:eI!<o.n
 t:lt S o.h<o.tm
def b4e{M0:Mh}(hA:re!)(h0:M0 p=none):∀(os dn:f_) (x1:D) (y3 y4 y5:an_) (ep:Nat) (M:Mh) (R:j!),re_->(∀o∈os,Nx yy S o)->((dn++os).map Op.nm).Nodup->(dn++os).length<64->M p=some (.dct rf_ ep)->
  (∀M' bd k8 k9 oy,M' p=some (.dct ((dn++os).map λo=>lY_) bd)->rh!->R (.nx [t_,R_,ao_,k8,k9,oy]) M')->
  Ib Q_ ae! (GU t) a0_ [t_,R_,ao_,y3,y4,y5] M R
 |[],dn,x1,y3,y4,y5,ep,M,R,fr,_,_,_,hp,hR=>⟨trivial,hR M ep y3 y4 y5 (by rw[IR];exact hp) fr⟩
 |o::os,dn,x1,y3,y4,y5,ep,M,R,fr,hf,nd,hl,hp,hR=>by
  refine aI_;have ho:=hf o HP;have cz:=hA.keep fr;have e:dn++o::os=dn++[o]++os:=by simp
  have es:Do M! Aq bx_ [t_,R_,ao_,U_,y4,y5]=some o.nm:=zZ o;refine fS (aP es) ?_;have Y:Uw s1! l0! M false:=by
   have:=jB (cL (ρ:=l0!) qS! (aP (f:=Aa 3) rfl) (a2b (o:=o) cz));rw[IF (by have:=ho.n;omega)]at this;exact this
  have L:Uw s3! l0! M false:=by
   refine jB (eF (aP (d:=fF_) (c0r o)) (eO bt! cz.ob hF1) ?_);have:(o.h==yy)=false:=KH.mpr ho.y;rw[vX,this]
  unfold Ah;refine lX Y (lX L ?_);unfold Ao;have xz:o.nm∉(rf_).map c_:=λz=>by
   rw[JQ]at z;rw[IU,IY]at nd;exact nd.2.2 o.nm z o.nm d! rfl
  refine b0e (p:=p) (y:=o.nm) (z:=o.v) (k:=ri_) rfl rfl rfl hp rfl (by rw[IK];rw[IG]at hl;unfold big;omega) xz ?_;have h3:fT s5! rj_=some false:=by
   obtain⟨n1,n2⟩:=c5b ho.f.dg;have:f2 Eg I! M! rj_=some Q!:=iI n1 a!;show"!J"
  refine lX (a0g h3) ?_;refine b4e hA h0 os (dn++[o]) x1 ey! (some o.nm) ey! bG_ _ R rk_ (λx J=>hf x aU!) (by rw[<-e];exact nd) rb! (by rw[mup_same,IU];rfl) λM' bd z3 z4 z5 g1 g2=>?_;exact hR M' bd z3 z4 z5 (by rw[e];exact g1) g2
def b1k{ms:f_}{R:s_}(hA:X!)(hN:rl!)(nn:(f8!).Nodup)(hl:eD_<64)
  (hR:∀M' p ep,M p=none->M' p=some (.dct f8_ ep)->kO!->R D_ M'):Eo t im_ M R:=by
 refine j_;intro p hp;have fr:∀b,M b≠none->Be M p B! b=M b:=λb hb=>mup_ne (aV hb hp);have ij:=hA.keep fr;unfold Ah Dj Ca;have ux:Mf eA! (.fn wa) l0_=some l0_:=by
  simp only[Mf,ij.wt];rw[IB (by rw[IK];unfold big;simp;omega)];rfl
 refine eF (eO bt! ij.ob hF3) (aP (d:=.lst dJ!) rfl) ux _ ?_;exact b4e (p:=p) hA hp ms [] _ none none none 0 _ _ fr hN (by simpa using nn) (by simpa using hl) mup_same λM' bd y3 y4 y5 g1 g2=>dD l1_ (hR M' p bd hp g1 g2)
def HF(t:Au):WS:=Ah s9_
 (Ah tb!
 tb_)
def d2h{kvs:i!}{ep:Nat}{fo fi f:e!}{R:j!}(h0:ll!)(Y:fi ρ=some y)(L:f ρ=some v)(hp:bV_)(hk:cl!)(hl:dy_)(k':R aK! hW!):Cf dq! (wl fi) (wl f) ρ M R:=by unfold Cf;rw[dX L,dX h0,dX Y,gZ hp hk hl];exact k'
def b5b{M0:Mh}{e0:Nat}(hA:re!)(ff:M0 p=some (.dct kvs e0))(h0:M0 q=none):∀(qs:f_) (ml:i!) (ep:Nat) (y3 y4:an_) (M:Mh) (R:j!),re_->(∀o∈qs,kget kvs o.nm=some o.v/\Nx yy S o)->M q=some (.dct ml ep)->
  qs.Pairwise (λx y=>x.h=y.h->x.tm<y.tm)->(∀o∈qs,∀v,kget ml cP_=some v->∃m,v=.int m/\m<o.tm)->ml.length+qs.length<1000->
  (∀M' k8 k9,rh!->R (.nx [t_,ao_,aV!,k8,k9]) M')->
  Ib Q_ ae! (HF t) (qs.map Op.nm) [t_,ao_,aV!,y3,y4] M R
 |[],ml,ep,y3,y4,M,R,fr,_,_,_,_,_,hR=>⟨trivial,hR M y3 y4 fr⟩
 |o::qs,ml,ep,y3,y4,M,R,fr,hk,hq,pw,ht,hl,hR=>by
  refine aI_;have cz:=hA.keep fr;have hp:=(fr p (by rw[ff];simp)).trans ff;obtain⟨hko,ho⟩:=hk o HP;rw[KF]at pw;simp only[IE]at hl;have i1:Bt M D_ o.nm=some o.v:=(gR (k:=ri_) hp rfl).trans hko;have i2:Bt M o.v bx!=some fM_:=c0h o;refine fS (eF (eF l1_ (aP (d:=o.nm) rfl) i1) BL! i2) ?_;have ix:f2 Ak M! C! ro!=some cP_:=c0r o;obtain⟨m,em,hm⟩:∃m:Int,(kget ml (.int o.h)).getD (.int (lt S o.h))=.int m/\m<o.tm:=by
   cases e:kget ml cP_ with
   |none=>exact⟨_,rfl,ho.t⟩
   |some v=>
    obtain⟨m,e1,e2⟩:=ht o HP v e;exact⟨m,e1,e2⟩
  have hc:Uw ta_ ro! M false:=by
   refine jB (eF (aP (d:=hE_) rfl) (qD (aP (d:=.fn q) rfl) (aP ix) (cL H_ (aP ix) (qT cz)) hq (k:=lO_) rfl em) ?_);show some (D.bl (decide (o.tm<=m)))=_;rw[IF a!]
  refine fN hc ?_;refine d2h (p:=q) (y:=fF_) (v:=hE_) (k:=lO_) rfl ix rfl hq rfl hu_ ?_;refine b5b hA ff h0 qs _ _ (some o.nm) (some fM_) _ R rk_ rp! mup_same pw.2 (λx J v hv=>?_) (by have:=kput_len ml cP_ fM_;omega) hR;by_cases c:o.h=x.h
  .rw[<-c,cV]at hv;cases hv;exact⟨_,rfl,pw.1 x J c⟩
  .rw[cW λz=>c (D.int.inj z)]at hv;exact ht x aU! v hv
def b4o{f:Op->D}{g:Op->D}:∀{l:f_},(eG_).Nodup->∀{o:Op},o∈l->kget (l.map λo=>(f o,g o)) (f o)=some (g o)
 |[],_,o,h=>by cases h
 |x::l,nd,o,h=>by
  rw[IA,IJ]at nd;rw[IA];unfold kget;obtain rfl|h:=HN.mp h
  .rw[n_]
  .rw[HQ λz=>nd.1 (by rw[z];exact HZ h),b4o nd.2 h]
def Pf(o:Op):Int×Int:=(o.h,o.n)
def Hist.nkeys{ms:f_}(h:Hist ms):(ms.map Pf).Nodup:=by have:=h.names;rw[OV,PV]at this ⊢;refine this.imp λ{x y} hxy e=>hxy ?_;simp only[Pf,KY]at e;show D.tup [.int x.h,.int x.n]=D.tup [.int y.h,.int y.n];rw[e.1,e.2]
def Hist.rise{ms:f_}(h:Hist ms){x y:Op}(J:x∈ms)(hy:y∈ms)(e:x.h=y.h)(hn:x.n<y.n):x.tm<y.tm:=by have me:x∈hs ms y.h:=iD.mpr ⟨J,e⟩;have hy':y∈hs ms y.h:=iD.mpr ⟨hy,rfl⟩;obtain⟨i,hi,ei⟩:=OM.mp me;obtain⟨j,hj,ej⟩:=OM.mp hy';have Y:=(l4_).num i x (by rw[II hi,ei]);have L:=(l4_).num j y (by rw[II hj,ej]);have:=PJ.mp (l4_).tim i j hi hj a!;rw[ei,ej]at this;exact this
def c1f{x y:Op}(h:Lh (Pf x) (Pf y)=true)(e:x.h=y.h):x.n<y.n:=by simp only[Lh,CI,Pf,e,JT,JA]at h;exact h
def yS{e0:Nat}{ms:f_}{R:s_}(hA:X!)(hH:iq_)(hN:rl!)(hl:eD_<64)(hp:M p=some (.dct f8_ e0))
  (hR:rr_):Jo t [P!,.fn p] M R:=by
 refine j_;intro q hq;have qp:q≠p:=HR (aV ie_ hq);have hp1:Be M q B! p=some (.dct f8_ e0):=(mup_ne (HR qp)).trans hp;have nn:(f8!).Nodup:=by have:=hH.names;rw[IU,IY]at this;exact j2_
 have nk:(ms.map Pf).Nodup:=by have:=hH.nkeys;rw[IU,IY]at this;exact j2_
 unfold Dj Ca;have vp:(ir_).Perm ms:=bP ms;have hsort:Sr (Be M q B!) [.fn p]=some (.lst ((ir_).map Op.nm)):=by
  show((Ed (Be M q B!) D_).bind λq=>(Wz h1_).map D.lst)=_;rw[cM hp1];show(Wz ((f8_).map c_)).map D.lst=_;have e1:(f8_).map c_=ms.map Op.nm:=by rw[JQ];rfl
  have e2:(f8!).map Nv=ms.map Pf:=by rw[JQ];rfl
  rw[e1];unfold Wz;rw[IB ⟨LG.mpr λd hd=>by obtain⟨o,_,rfl⟩:=IH.mp hd;rfl,by rw[e2];exact nk,vB_⟩];show some (D.lst (Jm Nv f8!))=_;rw[pX (f:=Op.nm) (k:=Pf) (k':=Nv) λo=>rfl]
 refine a0f l1_ hsort _ ?_;refine b5b hA hp hq ir_ [] 0 none none _ _ (λb hb=>mup_ne lR!) (λo ho=>⟨b4o nn rt!,hN o rt!⟩) mup_same ?_ (λo _ v hv=>by cases hv) (by rw[vp.length_eq];simp;omega) λM' y3 y4 h=>hR M' h;have b6:Ot Pf ir_:=gU nk;have:=List.Pairwise.and_mem.mp b6;exact this.imp λ{x y} h e=>hH.rise (HY _ (vp.mem_iff.mp h.1)) (HY _ (vp.mem_iff.mp h.2.1)) e (c1f (x:=x) (y:=y) h.2.2 e)
def a9m:∀{ys:c!},(∀y∈ys,y=D.bl true)->Nn ys=some ru_
 |[],_=>rfl
 |y::ys,h=>by
  rw[h y HP];show(Nn ys).map (true::·)=_;rw[a9m λx J=>h x aU!];rfl
def b2o{f:e!}(h:cg!):Ac f Ag ρ=some [d]:=by unfold Ac;rw[h];rfl
def c2g{g:ah_}{fs:as!}(h:hx_):f1 g fs ρ=g ds:=by unfold f1;rw[h];rfl
def c6z{ms:f_}(nd:t.nd)(hH:∀o∈ms,Zc o)(hl:eD_<64):Ct te! is_=some false:=by
 obtain⟨ys,e,_,hr⟩:=nI (ρ:=cK_) (bnd:=Bd 0) (ft:=pd!) (fe:=f1 (Cb t) aM_) (λy=>y=D.bl true) dJ! (by
  intro d hd;obtain⟨o,ho,rfl⟩:=IH.mp hd;exact⟨[U_],true,rfl,rfl,λ_=>⟨gi!,d2p nd (hH o ho),rfl⟩⟩)
 have hc:Hw 1 [] (Ep v_) E! a3_ td_ is_=some ba_:=by
  show(if(dJ!).length<=big then Option.map D.lst (Gc _ _ _ cK_ dJ!)else none)=_;rw[IB fQ_,e];rfl
 have ha:f1 Rq (Ac m4! Ag) is_=some z_:=by
  have Y:Ac m4! Ag is_=some [.lst ys]:=by
   exact b2o hc
  rw[c2g Y];show(Nn ys).map (λbs=>D.bl oP!)=_;rw[a9m hr];show some (D.bl ((ru_).all id))=_;rw[LG.mpr λx J=>by obtain⟨_,_,rfl⟩:=IH.mp J;rfl]
 unfold Ct fT;rw[ha];rfl
def Hist.nx{ms:f_}(h:iq_)(hy:l7!):∀o∈ms,Nx yy S o:=λo ho=>by
 have hc:=h.ch o.h;rw[cE]at hc;have hm:o∈hs ms o.h:=iD.mpr l8!;refine⟨h.op o l8_,hy o ho,?_,?_⟩
 .obtain⟨i,hi,e⟩:=OM.mp hm;have:=hc.num ((eH_).length+i) o (by rw[JK a!,Nat.add_sub_cancel_left,II hi,e]);omega
 .unfold lt;cases e:(eH_).getLast? with
  |none=>show(0:Int)<o.tm;have:=(h.op o l8_).t1;omega
  |some x=>exact(NO.mp hc.tim).2.2 x rz_ o hm
def uC{ms:f_}{R:s_}(nd:t.nd)(hA:X!)(hH:iq_)(hy:l7!)(hl:eD_<64)(hR:rr_):Fp t im_ M R:=by
 refine j_;refine fN (a0g (c6z nd (λo ho=>hH.op o l8_) hl)) ?_;refine hV ?_;have hn:∀K:D->Mh->Prop,Eo t im_ M K->Aj 2 (Eo t) c8_ [t_,is!] M K:=λK h=>vD rfl rfl h;have hN:=hH.nx hy;have nn:(f8!).Nodup:=by have:=hH.names;rw[IU,IY]at this;exact j2_
 refine hn _ (b1k hA hN nn hl λM1 p ep h0 hp fr=>j_);exact yS (hA.keep fr) hH hN hl hp λM' pj=>hR M' λb hb=>(pj b (by rw[fr b hb];exact hb)).trans il!
def pW{ms:f_}{R:s_}(nd:t.nd)(hA:X!)(hH:iq_)(hy:l7!)(hm:ms≠[])(hl:(S++ms).length<64)(hR:∀M' bn bo,Bm t M' yy a ta wa .non (S++ms) bn bo->Mv M dF! M' dF_->R (.int l9!) M'):Hd t im_ M R:=by
 refine j_;show Ah tk_ (Ah (Ao 2 a5_) (Ah (Dj gC! Q_ (EC t)) dU!)) [t_,is!,none,none] M _;have qj:eD_<64:=by rw[IG]at hl;omega
 unfold Ah;refine hV (vD rfl rfl (uC nd hA hH hy qj λM1 fr=>?_));refine aP (f:=fC L_) (d:=ch_) rfl _ ?_;show Dj gC! Q_ (EC t) rD! M1 _;have hi:Ep v_ rD!=some dJ!:=vV rfl;unfold Dj Il;rw[hi];refine b2w ms _ 0 none M1 out S kl ca _ (hA.keep fr) hH hl λM' bn bo yg y' cz hz mv=>?_;rw[hz.2 hm]at cz;refine dD (aP (d:=.int l9!) (by show some (D.int (0+l9!))=_;rw[Int.zero_add])) (hR M' bn bo cz rE!)
end
def c5a{α:Type}(p q:α->Bool)(l:P_)(h:∀x∈l,¬(p x=true/\q x=true)):(l.filter p++l.filter q).Perm rF!:=by
 have Y:=List.filter_append_perm p rF!;rw[OB,OB]at Y;have e1:(l.filter λx=>p x&&(p x||q x))=l.filter p:=KS λx _=>by cases p x<;>simp
 have e2:(l.filter λx=>(!p x)&&(p x||q x))=l.filter q:=KS λx J=>by
  cases c:p x<;>cases d:q x<;>simp_all
 rw[e1,e2]at Y;exact Y
def a1d{S:f_}:∀{kl:w_},kl.Nodup->(mb!).Perm (S.filter λo=>decide (o.h∈kl))
 |[],_=>by simp
 |k::kl,nd=>by
  rw[IJ]at nd;refine((a1d nd.2).append_left _).trans ?_;refine(c5a (λo:Op=>decide (o.h=k)) (λo=>decide (o.h∈kl)) S λx _ z=>?_).trans (List.Perm.of_eq (KS λx _=>by simp[HN]));simp only[JA]at z;exact nd.1 (z.1▸z.2)
section
variable{t:Au}{M:Mh}{ρ:Ae}{yy:Int}{a ta wa:xT!}{out:D}{S:List Op}{kl:List Int}{ca:Int->Addr}
def Bm.perm(hA:X!):(mb!).Perm S:=by refine(a1d hA.nk).trans (List.Perm.of_eq (KC.mpr λo ho=>?_));rw[JA,hA.mem];intro z;have:o∈hs S o.h:=iD.mpr l8!;rw[z]at this;cases this
def FB(t:Au):WS:=Yg 1 mY_
def b5h{ck:bf_}(hA:X!)(cr:ck M)(hS:cW!):∀(ks:w_) (acc:f_) (y:an_) (R:j!),(∀h∈ks,h∈kl)->cR!+64*kG!<100000->
  (∀y',R (.nx [t_,some (.lst ((acc++ks.flatMap (hs S)).map Op.v)),y']) M)->
  Ib bL_ ck (FB t) (ks.map D.int) [t_,hS!,y] M R
 |[],acc,y,R,_,_,hR=>⟨cr,by have:=hR y;simpa using this⟩
 |h::ks,acc,y,R,hk,hl,hR=>by
  refine kH_;show"!b";have hh:=hk h HP;show FB t [t_,hS!,id!] M _;show Yg 1 mY_ [t_,hS!,id!] M _;have i1:Bt M (.fn ta) lG_=some lD!:=(BJ_).trans (by rw[gA,IB hh]);refine eF f1! ic_ i1 _ ?_;rw[a1q lC!];refine jD ?_;have hlS:(eH!).length<64:=LD (tT S h) hS;simp only[IE]at hl;refine rI_;rw[<-IU];refine b5h hA cr hS ks (acc++hs S h) (some lG_) R rp! wO! λy'=>?_;have:=hR y';rw[List.flatMap_cons,<-KA]at this;exact this
def rW(hA:X!)(hH:cr_)(hS:cW!):Rt (Ey t) [P!] M (.lst md_):=λK hK=>by
 obtain⟨ep,ht⟩:=hA.tk;refine j_;show Ah (Dj (Ir c8!) bL_ (FB t)) sV_ [t_,hS_,none] M _;unfold Ah Dj Ir;refine eO bt! hA.ob hF2 _ ?_;rw[cM ht];refine jD ?_;have X':lz_<64:=LD hA.len hS;have ek:(ic!).map c_=kl.map D.int:=by rw[JQ];rfl
 rw[ek];refine b5h hA ht hS kl [] none _ (λh hh=>hh) ab_ λy'=>?_;have hp:=hA.perm;have nd:((mb!).map Op.key).Nodup:=(k0!).nodup_iff.mpr hH.keys;have he:f1 Dl dO_ [t_,some (.lst rJ_),y']=some (.lst md_):=by
  show Dl [.lst rJ_]=_;rw[KO,nE nd rL!,uF hp nd]
 exact dD (aP he) hK
structure OS(t:Au)(M:Mh)(a o:xT!)(rl:bo!)(W:OW):Prop where
 hob:∃yy ta wa,M a=some iv!
 out:Ce t M o rl W 1500
def a3b{R:s_}(hA:Bm t M yy a ta wa .non S kl ca)(hH:cr_)(hS:cW!)(hr:Run W0 (Jd jU! ef_) W')
  (hR:∀M' o ac,OS t M' a o ac W'->Bm t M' yy a ta wa N_ S kl ca->(∀b,M b≠none->b≠a->M' b=M b)->(∀b,M b≠none->ac b=.oth)->R N_ M'):Cq t [P!] M R:=by
 refine j_;show Ah sX_ (Az mZ!) [t_] M _;refine b0c (jB (eF (eO bt! hA.ob hF4) mg! rfl)) ?_;refine vM ?_;have hp:(ef_).Perm S:=bP S;have hc:∀K:D->Mh->Prop,Kd t [.lst md_] M K->Aj 1 (Kd t) mZ_ [t_] M K:=λK h=>by
  show Aj 1 (Ey t) aX_ [t_] M _;exact iT H_ (rW hA hH hS) _ cc!
 refine hc _ (b6i (W':=W') ((k0!).nodup_iff.mpr hH.keys) ((k0!).nodup_iff.mpr hH.names) rL! (λo ho=>(hH.op o (hp.mem_iff.mp ho)).dg) (by rw[a6e hH.keys];exact hr) λo M1 ac ho hO hw fr=>?_);have fa:=fr a lA!;refine kH (fs:=hF yy ta wa .non) rfl (fa.1.trans hA.ob) lP! hP5 ?_;have L:Ce t (Be M1 a iv!) o ac W' 1500:=hO.keep λc hc=>mup_ne λz=>hc (by rw[z];exact fa.2);have k:∀b,M b≠none->b≠a->Be M1 a iv! b=M b:=λb hb hn=>(mup_ne hn).trans (il!).1;show"!b";have gn:Bm t (Be M1 a iv!) yy a ta wa N_ S kl ca:={hA with ob:=mup_same,tk:=⟨ep,(k ta lA_ λz=>by rw[z,hA.ob]at ht;cases ht).trans ht⟩,wt:=(k wa lB! λz=>by have:=hA.wt;rw[z,hA.ob]at this;cases this).trans hA.wt,cl:=λh hh=>(k _ lB_ λz=>by have:=hA.cl h hh;rw[z,hA.ob]at this;cases this).trans lC!};exact dD (eO bt! mup_same hF4) (hR _ o ac ⟨⟨yy,ta,wa,mup_same⟩,L⟩ gn k λb hb=>(il!).2)
variable{o:xT!}{rl:Addr->Nw}{W:OW}{x:D}
def a3a(h:ak_):Rt (Cq t) [P!] M N_:=λK hK=>by
 obtain⟨yy,ta,wa,hob⟩:=h.hob;refine j_;refine fN (jB (eF wP_ mg! rfl)) ?_;exact dD wP_ hK
def OS.nob(h:ak_)(hm:∀{a1 a2 a3 a4 a5 a6:xT!},(Z!).lookup m=none):Dg t.B4 m M N_:=by obtain⟨_,_,_,_,_,_,_,_,_,_,_,_,hA⟩:=h.out;exact hA.noOb hm
def b2x(h:ak_)(hk:aC_):Rt fa_ cu_ M rS_:=λK hK=>by
 refine j_;exact dD (eK mi_ (h.nob oM1) aM! λK hK=>tU h.out hk hK) hK
def c3t{R:s_}{Q:bf_}(vq:mj_)(hk:aC_)(hR:∀M' o rl,OS t M' a o rl W->Q M'->R rS_ M'):Hj t cu_ M R:=by refine j_;show Az to_ [t_,aI!] M _;unfold Az Bb;refine a1r (a:=P!) rfl (vq _ λM' o rl h hQ=>⟨h.nob oM1,?_⟩);exact⟨rfl,tU h.out hk mk!⟩
def c8d{R:s_}{Q:bf_}(vq:mj_)(hk:aC_)(J:bS!)(hR:∀M' o rl,OS t M' a o rl W->Q M'->R N_ M'):Ea t cu_ M R:=by refine j_;show Ah m8! tm_ [t_,aI!,none] M _;unfold Ah Ao;refine a1r (a:=P!) rfl (vq _ λM' o rl h hQ=>?_);refine fN (ρ:=[t_,aI!,F!]) rV_ ?_;exact dD gg_ mk!
def yR{R:s_}{Q:bf_}(wi:Bs W)(vq:mj_)(hk:aC_)(J:bS!)(hR:∀M' o rl,OS t M' a o rl W->Q M'->R dl_ M'):El t cu_ M R:=by refine j_;show Az tq! [t_,aI!] M _;unfold Az Bb;refine vD (a:=P!) (b:=x) rfl rfl (c8d vq hk J λM' o rl h hQ=>⟨h.nob d2y,?_⟩);exact⟨rfl,nJ h.out wi b_ J mk!⟩
def b2q(h:ak_)(hk:aC_)(J:bS!):Rt (Ea t) cu_ M N_:=λK hK=>by
 refine j_;refine fS mi_ ?_;refine fN rV_ ?_;exact dD gg_ hK
def wC(h:ak_)(hk:aC_)(J:aY_):Rt (Cr t) cu_ M N_:=λK hK=>by
 refine j_;refine fS mi_ ?_;refine fN (b0w (jB (b:=true) (eK gg_ (h.nob oM2) aM! λK hK=>hJ h.out hk rV!))) ?_;exact dD gg_ hK
def pV(h:ak_)(wi:Bs W)(hk:aC_)(J:bS!):Rt gP! cu_ M dl_:=λK hK=>by
 refine j_;exact dD (eK (cL H_ aM! (b2q h hk J)) (h.nob d2y) aM! λK hK=>nJ h.out wi b_ J hK) hK
def xA(h:ak_)(hk:aC_)(J:aY_)(hp:jO!):Rt gQ_ cu_ M p:=λK hK=>by
 refine j_;exact dD (eK w5_ (h.nob d4m) aM! λK hK=>a2z h.out hk hp hK) hK
def b0b(h:ak_)(wi:Bs W)(hk:aC_)(J:aY_)(hj:pA!):Rt gP_ cu_ M v:=λK hK=>by
 refine j_;exact dD (eK w5_ (h.nob d4k) aM! λK hK=>b0a h.out wi J b_ hj hK) hK
def c3y{f:ah!}{q2:WS}{R:j!}(h:f ρ=some false)(k:dt_):Ah (Av (Dd f) Fh Bn) q2 ρ M R:=fN (a0g h) k
def b9n{i:Nat}(hi:i<4):Dw [fx_]=some z_:=b4x a! a!
def c0o{i:Nat}(h:ak_)(wi:Bs W)(hk:aC_)(J:aY_)(hi:i<4)(hv:bR![i]?=some v):Rt (Gm t) [P!,x,fx_] M v:=λK hK=>by
 refine j_;have hn:Rt (Er t) [P!,x,fx_] M N_:=λK hK=>by
  refine j_;show Ah to! (Az iZ!) eR! M _;have hp:Ct tn_ eR!=some false:=by
   have:f1 Dw bz! eR!=some z_:=(c2g (b2o (f:=Aa 2) (d:=fx_) rfl)).trans (b9n hi);unfold Ct fT;rw[this];rfl
  have f0:Aa 0 eR!=some cE!:=rfl;have mi:Aa 1 eR!=some x:=rfl;generalize eR!=env at hp f0 mi ⊢;exact c3y hp (dD (cL (aP f0) (aP mi) (wC h hk J)) hK)
 have me:Bt M fk_ mn!=some v:=by
  show Dc bR! cS_=_;show"#8";rw[a1!,IB (by rw[wi.nl x J];omega)];simpa using hv
 exact dD (eF (eK (a6y H_ aM! mo! hn) (h.nob d4j) aM! λK hK=>zH h.out wi J hK) mo! me) hK
end
def Sb(W:OW):Prop:=∀x∈W.its,∀d∈W.num x,∃i:Int,d=.int i
def c0p{W:OW}(h:Sb W)(hs:qs_):Sb W':=by
 cases hs with
 |put _ _ _=>
  intro x J e he;have cp:e∈v2!:=he;by_cases c:x=n
  .rw[IB c]at cp;simp only[HN,JF,KW]at cp;exact⟨0,by obtain z|z|z|z:=cp<;>exact z⟩
  .rw[HQ c]at cp;have me:x∈W.its++[n]:=J;exact h x ((HV.mp me).resolve_right λz=>c qx_) e cp
 |mvY _ _ _ _ _=>exact h
 |mvN _ _ _ _=>exact h
 |drY _ _ _=>exact h
 |drN _ _=>exact h
 |wrt _ _ _ _=>split;exact h;exact h
 |cut _ _ _ _=>split;exact h;exact h
 |@set a p v _ _ _=>
  split
  .intro x J e he;have cp:e∈(if x=a then(po!).set p.toNat kC_ else W.num x):=he;by_cases c:x=a
   .rw[IB c]at cp;obtain z|z:=List.mem_or_eq_of_mem_set cp
    .exact h a (c▸J) e z
    .exact⟨v,z⟩
   .rw[HQ c]at cp;exact h x J e cp
  .exact h
def a7l{W:OW}{os:f_}(hr:Run W os W'):Sb W->Sb W':=by
 induction hr with
 |nil=>exact id
 |cons hs _ ih=>exact λh=>ih (c0p h hs)
def b4r{W W':OW}(hs:qs_):∀x∈W'.its,x∈W.its\/x=n:=by
 cases hs with
 |put _ _ _=>
  intro x J;have me:x∈W.its++[n]:=J;exact(HV.mp me).imp id HX.mp
 |mvY _ _ _ _ _=>exact λx J=>.inl J
 |mvN _ _ _ _=>exact λx J=>.inl J
 |drY _ _ _=>exact λx J=>.inl J
 |drN _ _=>exact λx J=>.inl J
 |wrt _ _ _ _=>split;exact λx J=>.inl J;exact λx J=>.inl J
 |cut _ _ _ _=>split;exact λx J=>.inl J;exact λx J=>.inl J
 |set _ _ _=>split;exact λx J=>.inl J;exact λx J=>.inl J
def c5s{W W':OW}{os:f_}(hr:Run W os W'):∀x∈W'.its,x∈W.its\/∃o∈os,x=o.nm:=by
 induction hr with
 |nil=>exact λx J=>.inl J
 |cons hs _ ih=>
  intro x J;obtain z|⟨o,ho,z⟩:=ih x J
  .obtain z|z:=b4r hs x z
   .exact cC!
   .exact .inr ⟨_,HP,z⟩
  .exact .inr ⟨o,HL _ ho,z⟩
structure Zf(W V:OW):Prop where
 its:W.its=V.its
 txt:W.txt=V.txt
 num:W.num=V.num
 ch:∀x,chl W.rows x=chl V.rows x
def a5n{x:D}:chl dk! x=(chl rows x).filter λc=>decide (c≠i):=by unfold chl wo;rw[MF,OB,OB];congr 1;apply KS;intro q _;exact Bool.and_comm _ _
def b7x(h:rZ!){x:D}(w:Wn r1 i x):Wn r2 i x:=by
 induction w with
 |here=>exact .here
 |up Y _ ih=>exact .up (eV.mp (by rw[<-h];exact eV.mpr Y)) ih
def a5c{r1 r2:i!}(h:rZ!)(n1:(r1.map c_).Nodup)(n2:(r2.map c_).Nodup)(Y:Qe r1 i p s t6)(L:Qe r2 i p s t9)(x:D):chl t6 x=chl t9 x:=by
 by_cases c:p=x
 .subst c;rw[Y.chl_same n1,L.chl_same n2,a5n,a5n,h]
 .rw[Y.chl_ne c,L.chl_ne c,a5n,a5n,h]
def rD{P:Prop}(e:D.tup cj!=.tup (.str k'::r'))(h:k≠k'):P:=by
 injection e with e
 injection e with e _
 injection e with e
 exact absurd e h
def c3w{W V:OW}(e:gj!)(wi:Bs W)(vi:Bs V)(Y:Stp W n d W1)(L:Stp V n d V1):Zf W1 V1:=by
 have ei:∀x,Ew W x↔Ew V x:=λx=>by unfold Ew;rw[e.its]
 have ew:∀i x,Wn W.rows i x↔Wn V.rows i x:=λi x=>⟨b7x e.ch,b7x λx=>(e.ch x).symm⟩;generalize ed:d=d' at L;cases Y with
 |put _ _ g1=>
  cases L with
  |put _ _ g2=>
   cases ed;rename_i a b r1 _ _ r2 _ _;have ep:cI_=(if Ew V a then a else binn):=by simp only[ei]
   rw[ep]at g1;exact⟨by simp only[Fn,e.its],by simp only[Fn,e.txt],by simp only[Fn,e.num],r1!⟩
  |_=>exact rD ed k!
 |mvY _ _ _ c1 g1=>
  cases L with
  |mvY _ _ _ c2 g2=>cases ed;exact r1_
  |mvN _ _ _ c2=>cases ed;exact absurd r2! c2
  |_=>exact rD ed k!
 |mvN _ _ _ c1=>
  cases L with
  |mvY _ _ _ c2 g2=>cases ed;exact absurd r3! c1
  |mvN _ _ _ c2=>exact e
  |_=>exact rD ed k!
 |drY _ c1 g1=>
  cases L with
  |drY _ c2 g2=>cases ed;exact r1_
  |drN _ c2=>cases ed;exact absurd r2! c2
  |_=>exact rD ed k!
 |drN _ c1=>
  cases L with
  |drY _ c2 g2=>cases ed;exact absurd r3! c1
  |drN _ c2=>exact e
  |_=>exact rD ed k!
 |wrt _ _ _ hn=>
  cases L with
  |wrt _ _ _ ip=>
   cases ed;rw[hn]at ip;cases ip;rw[e.its];split
   .exact r2_
   .exact e
  |_=>exact rD ed k!
 |cut _ _ _ _=>
  cases L with
  |cut _ _ _ _=>
   cases ed;rw[e.its];split
   .exact r2_
   .exact e
  |_=>exact rD ed k!
 |set _ _ _=>
  cases L with
  |set _ _ _=>
   cases ed;rw[e.its];split
   .exact⟨e.its,e.txt,by simp only[Ss,e.num],e.ch⟩
   .exact e
  |_=>exact rD ed k!
def b3h:∀{os:f_} {W V W1 V1:OW} {pre:c!},Zf W V->Rs W pre->Rs V pre->(∀o∈os,o.nm∉pre)->(kX!).Nodup->Run W os W1->Run V os V1->Zf W1 V1
 |[],_,_,_,_,_,e,_,_,_,_,.nil,.nil=>e
 |o::os,W,V,W1,V1,pre,e,hw,hv,hp,nd,.cons s1 r1,.cons s2 r2=>by
  rw[IA,IJ]at nd;have hn:=hp o HP;refine b3h (c3w e hw.inv hv.inv s1 s2) (a2d s1 hw hn) (a2d s2 hv hn) (λx J z=>?_) nd.2 r1 r2;obtain z|z:=HV.mp z
  .exact hp x aU! z
  .exact nd.1 (by rw[<-show x.nm=o.nm from HX.mp z];exact HZ J)
section
variable{t:Au}{M:Mh}{ρ:Ae}{a w:xT!}{W:OW}{o:xT!}{rl:Addr->Nw}{ak:Addr->LR}{x:D}
def b7p(wi:Bs W){x:D}:Bi dl_=true/\Ii dl_<=40:=by
 have h:∀d∈chl W.rows x,Sd d:=λd hd=>(jC wi dx! (eV.mp hd)).1.sd;show"!L"
 .show Bx g5_=true;exact iM λd hd=>eA (h d hd)
 .show Dp g5_+1<=40;have:=kB (n:=5) λd hd=>iY (h d hd);omega
def ER(t:Au):WS:=Av u1! bB_ Bn
def chl_ne(wi:Bs W):Eg dl_ dl_=some Q!:=by obtain⟨n1,n2⟩:=b7p wi (x:=x);exact iI n1 n2
def c4h{V:OW}{R:j!}(h:ak_)(hL:gk!)(ev:gj!)(wi:Bs W)(vi:Bs V)(hl:r3_)(hk:aC_)(J:bS!)
  (hR:R (.nx gk_) M):ER t gk_ M R:=by
 refine lX (c7h (b:=false) (c:=false) (jB (eF (cL H_ aM! (b2x h hk)) r4_ (by rw[IV J];rfl))) (λ_=>?_) λz=>by cases z) hR;refine jB (eF (cL H_ aM! (pV h wi hk J)) (cL dO! aM! λK hK=>a5v hL vi (a4z wi J) hl hK) ?_);rw[<-ev.ch x];exact chl_ne wi
def b3g{V:OW}(h:ak_)(hL:gk!)(ev:gj!)(wi:Bs W)(vi:Bs V)(hl:r3_):∀(xs:c!) (y:an_) (R:j!),r6!->r7_->Ib Q_ ae! (ER t) xs [t_,R_,B_,y] M R
 |[],y,R,_,hR=>r8!
 |x::xs,y,R,J,hR=>by
  refine aI_;obtain⟨k,hk⟩:=oB wi eS_;exact c4h h hL ev wi vi hl hk eS_ (b3g h hL ev wi vi hl xs eU! R ms! hR)
def c4n{f:WE}(h:lw!):Pu (Ye (Ab f Af)) ρ M (.lst [d]):=λK hK=>by
 exact h _ ⟨by show 1<=1000;decide,hK⟩
def a2y{f g:WE}(h:lw!)(L:Pu g ρ M e):Pu (Ru (Ab f (Ab g Af))) ρ M (.tup [d,e]):=λK hK=>by
 exact h _ (L _ ⟨by show 2<=1000;decide,hK⟩)
def b6e(J:Sd x)(hp:Sd p):Bi mt_=true/\Ii mt_<=40:=by
 have d1:=iY J;have d2:=iY hp;show"!L"
 .show Bx mu!=true;refine iM λd hd=>?_;rw[HX.mp hd];refine iM λd hd=>?_;simp only[HN,JF,KW]at hd;obtain rfl|rfl:=hd
  .exact eA J
  .exact eA hp
 .have Y:Dp [x,p]<=5:=kB λd hd=>by
   simp only[HN,JF,KW]at hd;obtain rfl|rfl:=hd
   .exact d1
   .exact d2
  have L:Dp mu!<=6:=kB λd hd=>by
   rw[HX.mp hd];show Dp [x,p]+1<=6;omega
  show Dp mu!+1<=40;omega
def b6d(hL:Br M w ak W)(wi:Bs W)(hl:k6_)(J:aY_)(hp:jO!):
  Pu u3! gk_ M mt_:=λK hK=>by
 obtain⟨wt,wn,qa,hA⟩:=hL;obtain⟨e,hw⟩:=hA.mw;unfold Bg Ca;have i1:Bt M bH! d4!=some (.lst fN_):=(gR (k:=Ah_) hw rfl).trans k3r;refine eF dO! (aP (d:=.str "rows") rfl) i1 _ ?_;refine qy!;refine cP (λd=>match d with|.tup [i,_]=>decide (i=x)|_=>false) id trivial _ _ bG! ?_
 .show"!=";show"#4";refine p7!
  .have e1:fT jd_ cR_=some ld!:=by
    have:f2 Ba aW_ v_ cR_=some (.bl ld!):=by
     show Al!;rw[vU];exact lE Y.sd (mu_).sd
    show"!J"
   unfold Dd;rw[e1];exact hK
  .rw[dX (f:=Aa 0) (d:=Bh q) rfl];exact hK
 .have e2:(((fN_).filter λd=>match d with|.tup [i,_]=>decide (i=x)|_=>false).map id)=[.tup [x,p]]:=by
   rw[RU,MF];show(lc!).map Bh=_;rw[b5i wi hp];rfl
  rw[e2];exact hK
def tE{ix:k_}(hc:Tj 1 ix ρ=[none,t_,aI!])(h:ak_)(wi:Bs W)(hk:aC_)(J:aY_):
  Pu (Bg 1 ix jp! E! bk! jq!) ρ M fk_:=λK hK=>by
 have hi:Eu c5! ρ=some r9_:=vP (n:=4) rfl b_;unfold Bg Il;rw[hi,hc];refine mv_;have hl:=wi.nl x J;refine cP cN! (λd=>match d with|.int i=>(bR!).getD i.toNat .non|_=>.non) trivial _ _ bG! ?_
 .obtain⟨i,hi,rfl⟩:=IH.mp hd;have df:=NT.mp hi;refine⟨[some mn!,t_,aI!],rfl,fF!,dw!⟩;have hv:bR![i]?=some ((bR!).getD i .non):=by
   rw[List.getD_eq_getElem?_getD,II a!];rfl
  exact a6y H_ aM! mo! (c0o h wi hk J df hv) _ hK
 .have e2:(((r9_).filter λ_=>true).map λd=>match d with|.int i=>(bR!).getD i.toNat .non|_=>.non)=W.num x:=by
   match hh:W.num x,hl with
   |[a,b,c,d],_=>rfl
  rw[e2];exact hK
def a0o(hn:Sb W)(J:aY_):Bi fk_=true/\Ii fk_<=40:=by
 have h:=hn x J;show"!L"
 .show Bx bR!=true;exact iM λd hd=>by obtain⟨i,rfl⟩:=h d hd;rfl
 .show Dp bR!+1<=40;have:=kB (n:=0) (ds:=W.num x) λd hd=>by obtain⟨i,rfl⟩:=h d hd;exact IM _
  omega
def DK(t:Au):WS:=(Ah u1_
 (Ah u3_
 u4_))
def c4g{V:OW}{R:j!}(h:ak_)(hL:gk!)(ev:gj!)(vi:Bs V)(lv:Pw V 1500)(hw:cM!)(au:gm!)(hn:Sb W)(J:aY_)(hR:R (.nx gk_) M):DK t gk_ M R:=by
 have wi:=hw.inv;obtain⟨k,hk⟩:=(mu_).key;have l1:=lv.rows;show"#9";refine fN ?_ ?_
 .refine jB (eF sb! (cL dO! dQ! λK hK=>yW hL sb_ hk (by rw[<-ev.txt];omega) (by unfold Vu at hj ⊢;rw[<-ev.txt];exact hj) hK) ?_);exact iI rfl sc_
 refine fN ?_ ?_
 .refine jB (eF (c4n (a2y dQ! sd!)) (b6d hL vi a! sb_ (eV.mp (by rw[<-ev.ch];exact eV.mpr hq))) ?_);obtain⟨n1,n2⟩:=b6e (wi.nm q1 J).sd sp;exact iI n1 n2
 refine lX ?_ hR;obtain⟨wt,wn,qa,hA⟩:=id hL;obtain⟨e0,vt⟩:=hA.mw;obtain⟨e1,hn1⟩:=hA.mn;have YA:q1∈V.its:=by rw[<-ev.its];exact J
 obtain⟨hq1,_⟩:=hA.mq q1 YA;have i1:Bt M bH! nA!=some eA_:=(gR (k:=some (.inl (.inr "numbers"))) vt rfl).trans k3n;have i2:Bt M eA_ q1=some mw_:=(gR hn1 hk).trans (by rw[mZ,IB YA]);refine jB (eF (tE (ix:=[0,3]) rfl h wi hk J) (eF (eF dO! (aP (d:=A5!) rfl) i1) dQ! i2) ?_);have:Rw M mw_=.lst (W.num q1):=by simp only[Rw,hq1,ev.num]
 show Eg (.lst (W.num q1)) (Rw M mw_)=_;rw[this];obtain⟨n1,n2⟩:=a0o hn J;exact iI n1 n2
def b3f{V:OW}{ck:bf_}(cr:ck M)(h:ak_)(hL:gk!)(ev:gj!)(vi:Bs V)(lv:Pw V 1500)(hw:cM!)(au:gm!)(hn:Sb W):∀(xs:c!) (y:an_) (R:j!),se!->r7_->Ib Q_ ck (DK t) xs [t_,R_,B_,y] M R
 |[],y,R,_,hR=>⟨cr,hR y⟩
 |x::xs,y,R,J,hR=>by
  refine kH_;refine c4g h hL ev vi lv hw au hn eS_ ?_;exact b3f cr h hL ev vi lv hw au hn xs eU! R ms! hR
def b0t:Ub t=Ah uY_
 (Ah (Dj uZ_ Q_ (ER t))
 (Ah (Dj (Ir nJ!) Q_ (DK t))
 u5_)):=rfl
def c7o{ops:f_}{h n:Int}(hr:mx_)(hn:∀o∈ops,¬(o.h=h/\o.n=n)):ad!∉W.its:=λz=>by
 obtain z|⟨o,ho,z⟩:=c5s hr _ z
 .cases z
 .show"!9";exact hn o ((bP ops).mem_iff.mp (KP.mp ho).1) ⟨z.1.symm,z.2.1.symm⟩
def d4o{ops:f_}(hO:Hist ops)(hr:mx_):¬Ew W (.tup kq_):=λz=>by
 obtain z|z|z:=z
 .exact c7o hr (λo ho e=>by have:=(my!).hh;omega) z
 .cases z
 .cases z
def a4t{V:OW}(hL:gk!)(hl:V.its.length<5000):∃wt e,Bt M bH! nw!=some fO!/\M wt=some (.dct my_ e)/\Nr M [.fn wt]=some (.lst V.its)/\Mf M (.lst hJ_) (.lst V.its)=some (.lst (hJ_++V.its))/\(my_).map c_=V.its:=by
 obtain⟨wt,wn,qa,hA⟩:=hL;obtain⟨e0,vt⟩:=hA.mw;obtain⟨e1,ht⟩:=hA.mt;have ek:(my_).map c_=V.its:=by
  rw[JQ];show V.its.map (λi=>i)=_;rw[List.map_id']
 refine⟨wt,e1,(gR (k:=some (.inl (.inr "texts"))) vt rfl).trans k3t,ht,?_,?_,ek⟩
 .show((Ed M fO!).map λq=>D.lst h1_)=_;rw[cM ht];exact congrArg (λl=>some (D.lst l)) ek
 .show(if[root,binn].length+V.its.length<=big then _ else none)=_;rw[IB (by simp only[IE,LP];unfold big;omega)]
def b5g:∀x∈root::binn::W.its,Ew W x:=λx J=>by
 obtain rfl|J:=HN.mp J
 .exact .inr G!
 .obtain rfl|J:=HN.mp J
  .exact .inr fb_
  .exact .inl J
def b7s{ops:f_}{R:s_}(h:ak_)(hO:Hist ops)(hl:cN_)(TU:mx_)(hw:cM!)(au:gm!)(hR:∀M',R z_ M'):Om t [P!,ex!] M R:=by
 refine j_;rw[b0t];unfold Ah Ao;refine a1r (a:=ex!) rfl (a9q hO.keys hO.names hl mz! λw M1 dm V vt hr hL hv lv fr=>?_);obtain⟨pv,hv⟩:=hv;have ev:Zf W V:=b3h (pre:=[]) ⟨rfl,rfl,rfl,e3_⟩ b5l b5l (λ_ _ z=>by cases z) (((OT).map Op.nm).nodup (((bP ops).map _).nodup_iff.mpr hO.names)) TU hr;have Y:OS t M1 a o rl W:=⟨by obtain⟨yy,ta,wa,z⟩:=h.hob;exact⟨yy,ta,wa,(fr a (by rw[z];simp)).1.trans z⟩,h.out.keep λc hc=>(fr c (h.out.live hc)).1⟩;have l1:=lv.rows;have l2:=lv.its;have hn:Sb W:=a7l TU λx J=>by cases J
 obtain⟨wt,e1,i1,ht,kd,ad,ek⟩:=a4t hL a!;unfold Dj Ca;refine eF sj_ sk! ad _ ?_;refine b3g Y hL ev hw.inv hv.inv a! (root::binn::V.its) none _ (by rw[<-ev.its];exact b5g) λy'=>?_;show Dj (Ir _) Q_ (DK t) [t_,cO!,B_,y'] M1 _;unfold Dj Ir;refine eF dO! mz_ i1 _ ?_;rw[cM ht];refine jD ?_;rw[ek];refine b3f (pre:=pre) ht Y hL ev hv.inv lv hw au hn V.its y' _ (λx J=>by rw[ev.its];exact J) λy2=>?_;have h99:¬Ew W (.tup kq_):=d4o hO TU;have hth:Rt fa_ [P!,kr!] M1 Q!:=by
  have:=b2x (k:=some (.inr [.inl 9,.inl 9])) Y (x:=kr!) rfl;rw[IF h99]at this;exact this
 exact dD (eF (cL H_ (aP (d:=kr!) rfl) hth) (aP (d:=mp_) rfl) (d:=gi!) rfl) (hR M1)
end
section
variable{t:Au}{M:Mh}{ρ:Ae}{a b w o o':xT!}{rl ac:Addr->Nw}{W:OW}{x:D}
def OS.kp{M':Mh}(h:ak_)(ha:M' a=M a)(k:pV_):OS t M' a o rl W:=⟨by obtain⟨yy,ta,wa,z⟩:=h.hob;exact⟨yy,ta,wa,ha.trans z⟩,h.out.keep k⟩
def c4j(h:Sd x):Rw M x=x:=by obtain rfl|⟨s,rfl⟩|⟨i,rfl⟩|⟨ns,rfl⟩:=h<;>rfl
def FE(t:Au):WS:=Av u8! bB_ Bn
def FD(t:Au):WS:=Ah u9_
 vb!
def b5k(h:ak_)(h':so_)(wi:Bs W):∀(xs:c!) (y:an_) (R:j!),r6!->sp_->Ib cx! ae! (FE t) xs sq! M R
 |[],y,R,_,hR=>r8!
 |x::xs,y,R,J,hR=>by
  refine aI_;obtain⟨k,hk⟩:=oB wi eS_;show FE t [t_,eV!,some x2,y3,aI!] M _;refine lX (jB (eF (cL H_ aM! (pV h wi hk eS_)) (cL gq! aM! (pV h' wi hk eS_)) (chl_ne wi))) ?_;exact b5k h h' wi xs eU! R ms! hR
def b5j{ck:bf_}(cr:ck M)(h:ak_)(h':so_)(hw:cM!)(au:gm!)(hn:Sb W):∀(xs:c!) (y:an_) (R:j!),se!->sp_->Ib cx! ck (FD t) xs sq! M R
 |[],y,R,_,hR=>⟨cr,hR y⟩
 |x::xs,y,R,YB,hR=>by
  refine kH_;have J:=YB x HP;have wi:=hw.inv;obtain⟨k,hk⟩:=(mu_).key;show"#9";refine fN (c7h (b:=false) (c:=false) (jB (eF sb! (cL gq! dQ! (b0b h' wi hk J hj)) ?_)) (λ_=>jB (eF sd! (cL gq! dQ! (xA h' hk J hq)) ?_)) λz=>by cases z) ?_
  .exact iI rfl sc_
  .show Eg (Rw M p) (Rw M p)=_;rw[c4j sp];exact iI (eA sp) (JB (iY sp) b_)
  refine lX (jB (eF (tE (ix:=[0,4]) rfl h wi hk J) (tE (ix:=[1,4]) rfl h' wi hk J) ?_)) ?_
  .obtain⟨n1,n2⟩:=a0o hn J;exact iI n1 n2
  exact b5j cr h h' hw au hn xs (some q1) R (λz hz=>YB z h6_) hR
def b0u:Ue t=Ah u6_
 (Ah (Dj u7! cx! (FE t))
 (Ah (Dj (Ir nK_) cx! (FD t))
 (Az eW!))):=rfl
def FM(g:bf!)(q1 q2:WS)(ρ:Ae)(R:j!)(x y:D)(M:Mh):Prop:=match g M x y with
 |some d=>(match d with|.bl b=>(if b then q1 ρ M R else q2 ρ M R)|_=>False)
 |none=>False
def HH(g:bf!)(fb:WE)(q1 q2:WS)(ρ:Ae)(R:j!)(x:D)(M:Mh):Prop:=fb ρ M (FM g q1 q2 ρ R x)
def d0c{fa fb:WE}{g:bf!}{q1 q2:WS}{R:j!}(h:fa ρ M (HH g fb q1 q2 ρ R)):Av (wT (w2 g fa fb)) q1 q2 ρ M R:=h
def d0d{g:bf!}{q1 q2:WS}{R:j!}{x:D}(hg:g M x y=some Q!)(k:dt_):FM g q1 q2 ρ R x y M:=by unfold FM;rw[hg];show(if false=true then _ else _);rw[am_];exact k
def a1z{y1 y2:Int}{S T ops:f_}{kl kk:w_}{ca cb:ly!}{R:s_}(hA:Bm t M y1 a ta wa .non S kl ca)(hB:Bm t M y2 b tb wb .non T kk cb)(dj:∀c,Ow a ta wa kl ca c->¬Ow b tb wb kk cb c)(hS:cr_)(hT:Hist T)(hO:Hist ops)(lS:cW!)(lT:T.length<64)(hl:cN_)
  (rS:∀W,Run W0 fL_ W->Run W0 (Jd jU! ef_) W)(rT:∀W,Run W0 fL_ W->Run W0 (Jd (Gr .str (srt T) []) (srt T)) W)
  (hR:∀M' o o' rl ac W pre,Run W0 fL_ W->Rs W pre->Pw W 1500->Bm t M' y1 a ta wa N_ S kl ca->Bm t M' y2 b tb wb (.fn o') T kk cb->OS t M' a o rl W->OS t M' b o' ac W->(∀c,M c≠none->c≠a->c≠b->M' c=M c)->(∀c,M c≠none->rl c=.oth/\ac c=.oth)->R z_ M'):Jc t [P!,.fn b,ex!] M R:=by
 refine j_;rw[b0u];unfold Ah Ao;refine a1r (a:=ex!) rfl (a9q hO.keys hO.names hl mz! λw M1 dm W vt hr hL hw au fr=>?_);obtain⟨pre,hw⟩:=hw;have wi:=hw.inv;have la:M a≠none:=hA.lv G!;have lb:M b≠none:=hB.lv G!;have ab:a≠b:=λz=>dj a G! cb!;have ij:=hA.keep λc hc=>(iK!).1;have hB1:=hB.keep λc hc=>(iK!).1;have hn:Sb W:=a7l hr λx J=>by cases J
 have l2:=au.its;obtain⟨wt,e1,i1,ht,kd,ad,ek⟩:=a4t hL a!;unfold Dj Ca;refine eF sj_ sk! ad _ ?_;refine aI_;refine d0c (vD (a:=P!) (b:=root) rfl rfl (yR (W:=W) (Q:=λM2=>∃o rl,Bm t M2 y1 a ta wa N_ S kl ca/\OS t M2 a o rl W/\(∀c,M1 c≠none->c≠a->M2 c=M1 c)/\∀c,M1 c≠none->rl c=.oth) wi (λK hK=>a3b ij hS lS (rS W hr) λM2 o rl fq gn k2 r2=>hK M2 o rl fq ⟨o,rl,gn,fq,k2,r2⟩) (k:=mI_) rfl dD! λM2 _ _ _ ⟨o,rl,gn,fq,k2,r2⟩=>?_));have m1:∀c,M c≠none->M1 c≠none:=λc hc=>by rw[(iK!).1];exact hc
 have hB2:=(hB1.mv (O:=(·=a)) (O':=(·=a)) ⟨λc hc ho=>k2 c hc ho,sx_⟩ λc hc z=>dj a G! (z▸hc)).1;have yc:Br M2 w dm W:=hL.keep λc hc=>k2 c (hL.live hc) λz=>hc (by rw[z];exact(fr a la).2);refine vD (a:=.fn b) (b:=root) rfl rfl (yR (W:=W) (Q:=λM3=>∃o' ac,Bm t M3 y2 b tb wb (.fn o') T kk cb/\OS t M3 b o' ac W/\(∀c,M2 c≠none->c≠b->M3 c=M2 c)/\∀c,M2 c≠none->ac c=.oth) wi (λK hK=>a3b hB2 hT lT (rT W hr) λM3 o' ac sf TV k3 r3=>hK M3 o' ac sf ⟨o',ac,TV,sf,k3,r3⟩) (k:=mI_) rfl dD! λM3 _ _ _ ⟨o',ac,TV,sf,k3,r3⟩=>d0d (chl_ne wi) ?_);have sh:=(gn.mv (O:=(·=b)) (O':=(·=b)) ⟨λc hc ho=>k3 c hc ho,sx_⟩ λc hc z=>dj c hc cb!).1;have m2:∀c,M c≠none->M2 c≠none:=λc hc=>by
  by_cases z:c=a
  .rw[z];exact gn.lv G!
  .rw[k2 c mJ! z];exact m1 c hc
 have TW:OS t M3 a o rl W:=fq.kp (k3 a (gn.lv G!) ab) λc hc=>k3 c (fq.out.live hc) λz=>hc (by rw[z];exact r2 b (m1 b lb));have hL3:Br M3 w dm W:=yc.keep λc hc=>k3 c (yc.live hc) λz=>hc (by rw[z];exact(fr b lb).2);refine b5k TW sf wi (binn::W.its) (some root) _ (λx J=>b5g x aU!) λy'=>?_;obtain⟨wt3,e3,i3,YC,_,_,ek3⟩:=a4t hL3 a!;show Dj (Ir _) cx! (FD t) [t_,eV!,cO!,B_,y'] M3 _;unfold Dj Ir;refine eF dO! mz_ i3 _ ?_;rw[cM YC];refine jD ?_;rw[ek3];refine b5j (pre:=pre) YC TW sf hw au hn W.its y' _ (λx J=>J) λy2=>?_;refine dD r4_ (hR M3 o o' rl ac W pre hr hw au sh TV TW sf (λc hc ca cb=>?_) λc hc=>⟨r2 c mJ!,r3 c (m2 c hc)⟩);rw[k3 c (m2 c hc) cb,k2 c mJ! ca,(iK!).1]
end
abbrev DM:D:=.tup kq_
abbrev AV:D:=.tup [o6!,DM]
def d3v:DG AV:=.drop (.inr xM!)
structure Lk(f:gs_):Prop where
 h:∀o,(f o).h=o.h
 n:∀o,(f o).n=o.n
 t:∀o,(f o).tm=o.tm
def Lk.hs{f:gs_}(l:Lk f)(os:f_)(h:Int):hs h9! h=(h6!).map f:=by unfold K24.hs;rw[MF];congr 1;exact KS λo _=>by simp[l.h]
def Lk.hist{f:gs_}(l:Lk f){os:f_}(h:lo!)(hd:∀o∈os,DG (f o).d):Hist h9!:=by
 refine⟨λk=>?_,λo ho=>?_⟩
 .rw[l.hs];refine⟨λi o e=>?_,?_⟩
  .rw[JC]at e;obtain⟨x,J,rfl⟩:=HU.mp e;rw[l.n];exact(lt!).num i x J
  .rw[PV];exact(lt!).tim.imp λ{a b} z=>by rw[l.t,l.t];exact z
 .show"#0";have g:=h.op x J;exact⟨by rw[l.h];exact g.hh,by rw[l.t];exact g.t1,by rw[l.t];exact g.t2,by rw[l.n];exact g.n1,by rw[l.n];exact g.n2,hd x J⟩
def Lk.srt{f:gs_}(l:Lk f)(os:f_):srt h9!=(eX_).map f:=pX (f:=f) (k:=Op.key) (k':=Op.key) (λo=>by simp only[Op.key,l.h,l.t]) os
nonrec def rp(g:D)(o:Op):Op:=if o.nm=g then{o with d:=AV}else o
def c1g:Lk (rp g):=⟨mK!,mK!,mK!⟩
nonrec def nu(o:Op):Op:=if Et o.d=none then o else{o with d:=AV}
def c1h:Lk nu:=⟨mK_,mK_,mK_⟩
def Pl(os:f_):Prop:=∀o∈os,Et o.d=none
def d1u:Et AV=none:=by decide+kernel
def d2j{os:f_}:Pl (os.map nu):=λo ho=>by
 obtain⟨x,_,rfl⟩:=IH.mp ho;unfold nu;split
 .assumption
 .exact d1u
def d2i{os:f_}(h:Pl os):Pl sD!:=λo ho=>by
 show"#0";unfold rp;split
 .exact d1u
 .exact h x J
def Pl.srt{os:f_}(h:Pl os):Pl eX_:=λo ho=>h o mL!
def kD(f:kK_):∀(a b:f_) (acc:i!),Gr f (a++b) acc=Gr f b (Gr f a acc)
 |[],b,acc=>rfl
 |o::a,b,acc=>by
  rw[MM,Gr,Gr];cases Et o.d with
  |none=>exact kD f a b _
  |some k=>exact kD f a b _
def wE(f:kK_):∀{os:f_} (acc:i!),Pl os->Gr f os acc=acc
 |[],acc,_=>rfl
 |o::os,acc,h=>by
  unfold Gr;rw[h o HP];exact wE f acc λx J=>h x aU!
def vL(f:kK_){o:Op}(h:Et o.d=some (k,a)):Gr f [o] acc=As acc a (f k):=by unfold Gr;rw[h];rfl
def a5e{os:f_}(h:Pl os)(hk:∀o∈os,kget wd o.nm≠some bk_):Jd wd os=os:=KC.mpr λo ho=>IV ⟨h o ho,hk o ho⟩
def lG{a b:f_}:Jd wd (a++b)=Jd wd a++Jd wd b:=PF ..
def tW{o:Op}{k:Str×D}(h:Et o.d=some k):Jd wd [o]=[]:=by unfold Jd;rw[JP (by simp[h])];rfl
def b1z{os:f_}(h:Pl os):Jd (Gr .str eX_ []) eX_=srt os:=by rw[wE _ _ h.srt];exact a5e h.srt λo _ z=>by cases z
def lZ{S:f_}{u:Op}(nd:((S++[u]).map Op.key).Nodup)(h:∀x∈S,x.tm<u.tm):srt (S++[u])=srt S++[u]:=by
 have n1:(S.map Op.key).Nodup:=by rw[IU,IY]at nd;exact nd.1
 refine lY (kf:=Op.key) lr! ?_ ((bP _).trans ((bP S).symm.append_right [u]));unfold Ot;rw[NO];exact⟨gU n1,QA _ _,λx J y hy=>by rw[HX.mp hy];exact qR.mpr (.inl (h x ((bP S).mem_iff.mp J)))⟩
def d1y{W:OW}(hs:Stp W n d W1)(e:d=AV)(h:DM∉W.its):W1=W:=by
 cases hs with
 |drY _ c _=>cases e;exact absurd c.1 h
 |drN _ _=>rfl
 |_=>exact rD e k!
def b0o:∀{os:f_} {W W':OW},(∀o∈os,o.nm≠DM)->DM∉W.its->Run W sD! W'->Run W (os.filter λo=>decide (o.nm≠g)) W'
 |[],W,W',_,_,h=>by cases h;exact .nil
 |o::os,W,W',hn,h0,h=>by
  obtain⟨W1,s,r⟩:∃W1,Stp W (rp g o).nm (rp g o).d W1/\Run W1 (os.map (rp g)) W':=by cases h with|cons s r=>exact⟨_,s,r⟩
  have m7:=λx J=>hn x aU!;by_cases c:o.nm=g
  .rw[JP lk!];have e:=d1y s (by unfold rp;rw[IB c]) h0;rw[e]at r;exact b0o m7 h0 r
  .rw[JX lk!];have eo:rp g o=o:=by unfold rp;rw[HQ c]
   rw[eo]at s;exact .cons s (b0o m7 (λz=>(b4r s _ z).elim h0 λz=>hn o HP z.symm) r)
def Hist.pre{S:f_}{o:Op}(h:Hist gl!):Hist S:=⟨λk=>by have:=h.ch k;rw[cE]at this;exact⟨λi x e=>this.num i x (by rw[JZ (p9_).1];exact e),(NO.mp this.tim).1⟩,λx J=>h.op x (IS _ J)⟩
structure Wd(os:f_):Prop where
 hist:Hist os
 hs:∀x∈os,qC!/\x.tm<=24
 pl:Pl os
 len:ap!<=8
section
variable{os:List Op}{g:D}
def Wd.no{h:Int}(w:bM!)(hh:h=11\/h=12\/h=3):K24.hs os h=[]:=QH.mpr λo ho z=>by
 have:=(mP_).1;have:=KL z;omega
def wG{g:D}:Et (.tup [et!,g])=some (Str.ofString "undo",g):=by rw[nL,IB k!]
def b8c{g:D}:Et (.tup [ko_,g])=some (Str.ofString "redo",g):=by rw[nL,IB k!]
nonrec def uO(tu:Int)(g:D):Op:=⟨11,1,tu,.tup [et!,g]⟩
nonrec def rO(rh rn:Int)(g:D):Op:=⟨rh,rn,60,.tup [ko_,g]⟩
nonrec def pO(tp:Int):Op:=⟨3,1,tp,mR!⟩
nonrec def vO(tv:Int):Op:=⟨3,2,tv,.tup [et!,.tup b5_]⟩
def hs0{os:f_}{o:Op}{h:Int}(e:sK!)(n:o.h≠h):K24.hs qB_ h=[]:=by rw[cE,fD,HQ n,e];rfl
def hs1{os:f_}{o:Op}{h:Int}(e:sK!)(n:o.h=h):K24.hs qB_ h=[o]:=by rw[cE,fD,IB n,e];rfl
variable{tu tp tv rh rn:Int}
def b2u(w:bM!)(hg:NameG g)(Y:c7_)(L:dU_):Hist dV_/\∀x∈os++dV!,x.tm<=58:=
 ⟨w.hist.snoc ⟨.inr lC_,by show 1<=tu;omega,by show tu<=1000;omega,by show(1:Int)<=1;decide,by show(1:Int)<=2000;decide,.undo hg⟩ (by show(1:Int)=((K24.hs os 11).length:Nat)+1;rw[w.no G!];rfl) λx J _=>by have:=(iR!).2;show x.tm<tu;omega,λx J=>by
  obtain z|z:=HV.mp J
  .have:=(w.hs x z).2;omega
  .rw[aL!];exact L⟩
def b3l(w:bM!)(hg:NameG g)(Y:c7_)(L:dU_)(hr:mS_):Hist dW!/\(∀x∈os++dV!++[dW_],x.tm<=60)/\K24.hs dW! 3=[]:=by
 obtain⟨a,b⟩:=b2u w hg Y L;refine⟨a.snoc ⟨?_,by show(1:Int)<=60;decide,by show(60:Int)<=1000;decide,?_,?_,.redo hg⟩ ?_ λx J _=>?_,aG!,?_⟩
 .obtain⟨rfl,_⟩|⟨rfl,_⟩:=hr
  .exact .inr lC_
  .exact .inr (.inr lC_)
 .show 1<=rn;omega
 .show rn<=2000;omega
 .show rn=((K24.hs dV_ rh).length:Nat)+1;obtain⟨rfl,rfl⟩|⟨rfl,rfl⟩:=hr
  .rw[hs1 (w.no G!) rfl];rfl
  .rw[hs0 (w.no dD!) (by show(11:Int)≠12;decide)];rfl
 .have:=b x J;show x.tm<60;omega
 .obtain z|z:=HV.mp J
  .have:=b x z;omega
  .show"#F"
 .exact hs0 (hs0 (w.no (.inr fb_)) (by show(11:Int)≠3;decide)) (by show rh≠3;omega)
def a7f{S:f_}{o:Op}{B:Int}(hS:cr_)(hb:e1!)(hB:B<900)(hd:hG_)(ho:o.h=3)(hn:o.n=((K24.hs S 3).length:Nat)+1)(hl:cW!)(h0:∀x∈S,x.tm<o.tm)(Y:1<=o.tm)(L:o.tm<=B+1):Hist gl!/\∀x∈S++[o],x.tm<=B+1:=by
 have:=tT S 3;refine⟨hS.snoc ⟨.inr (.inr (.inr (.inr (.inr ho)))),Y,v!,v!,v!,hd⟩ (by rw[ho];exact hn) λx J _=>h0 x J,aG!⟩;obtain z|z:=HV.mp J
 .have:=hb x z;omega
 .rw[aL!];exact L
abbrev ef(S:f_):List Op:=Jd jU! ef_
def c7a:D.str (Str.ofString "redo")≠.str "undo":=λz=>absurd k4_ k!
def ef1(w:bM!)(hH:Hist dV_)(Y:c7_):ef dV_=(eX_).filter λo=>decide (o.nm≠g):=by
 have es:=lZ hH.keys λx J=>by have:=(iR!).2;show x.tm<tu;omega
 show Jd (Gr .str (srt dV_) []) (srt dV_)=_;rw[es,kD,sU!,vL _ wG,lG,tW wG,IR];refine KS λo ho=>?_;by_cases c:o.nm=g
 .rw[c,cV];simp
 .rw[fo_];simp[c,w.pl.srt o ho,kget]
def ef2(w:bM!)(hH:Hist dW!)(Y:c7_)(L:dU_):ef dW!=srt os/\srt dW!=srt os++dV!++[dW_]/\Gr .str (srt dW!) []=As gw_ g cx_:=by
 have n1:((dV_).map Op.key).Nodup:=by have:=hH.keys;rw[IU,IY]at this;exact this.1
 have es:=lZ n1 λx J=>by have:=(iR!).2;show x.tm<tu;omega
 have yj:=lZ hH.keys λx J=>by
  obtain z|z:=HV.mp J
  .have:=(w.hs x z).2;show x.tm<60;omega
  .rw[aL!];show tu<60;omega
 rw[es]at yj;have ew:Gr .str (srt dW!) []=As gw_ g cx_:=by rw[yj,kD,kD,sU!,vL (o:=uO tu g) _ wG,vL (o:=dW_) _ b8c]
 refine⟨?_,yj,ew⟩;show Jd sW! (srt _)=_;rw[ew,yj,lG,lG,sW_,sX!,IR,IR];refine a5e w.pl.srt λo ho=>?_;by_cases c:o.nm=g
 .rw[c,cV];exact λz=>c7a (JJ z)
 .rw[fo_,fo_];exact λz=>by cases z
end
def b4u:∀(xs:w_) (a:Int),a<=xs.foldl max a/\∀x∈xs,x<=xs.foldl max a
 |[],a=>⟨KU _,λx h=>by cases h⟩
 |y::xs,a=>by
  obtain⟨Y,L⟩:=b4u xs (max a y);rw[OQ];refine⟨v!,aG!⟩;obtain rfl|J:=HN.mp J
  .omega
  .exact L x J
def b4t{B:Int}:∀(xs:w_) (a:Int),a<=B->(∀x∈xs,x<=B)->xs.foldl max a<=B
 |[],a,h,_=>h
 |y::xs,a,h,g=>by
  have:=g y HP;exact b4t xs _ a! λx J=>g x aU!
section
variable{t:Au}{M:Mh}{ρ:Ae}{yy:Int}{a ta wa:xT!}{out:D}{S:List Op}{kl:List Int}{ca:Int->Addr}
def d3f(hH:cr_){o:Op}(ho:o∈S):o.tm<=lt S o.h:=by
 have hm:o∈hs S o.h:=iD.mpr l8!;unfold lt;cases e:(eH_).getLast? with
 |none=>rw[List.getLast?_eq_none_iff.mp e]at hm;cases hm
 |some x=>
  obtain⟨l,hl⟩:=List.getLast?_eq_some_iff.mp e;have hp:=(hH.ch o.h).tim;rw[hl]at hm hp;obtain z|z:=HV.mp hm
  .exact Int.le_of_lt ((NO.mp hp).2.2 o z x d!)
  .show"#F"
def c7u{B:Int}(hB:0<=B)(hb:e1!)(h:Int):lt S h<=B:=by
 unfold lt;cases e:(eH!).getLast? with
 |none=>exact hB
 |some x=>exact hb x (iD.mp rz_).1
def a8l(f:Int->Int):∀l:List Int,Nl sY!=some eG_
 |[]=>rfl
 |x::l=>by
  show(Nl sY!).map (f x::·)=_;rw[a8l f l];rfl
def a3k{B:Int}(hA:X!)(hH:cr_)(hn:S≠[])(hl:cW!)(hB:0<=B)(hb:e1!):∃T,Rt (Ji t) [P!] M (.int T)/\iT_/\1<=T/\T<=B+1:=by
 obtain⟨ep,ht⟩:=hA.tk;have kn:kl≠[]:=λz=>by
  obtain⟨o,so,e⟩:=OX hn;have:o.h∈kl:=(hA.mem o.h).mpr λy=>by have hm:o∈hs S o.h:=iD.mpr ⟨by rw[e];exact HP,rfl⟩;rw[y]at hm;cases hm
  rw[z]at this;cases this
 obtain⟨k0,kr,ek⟩:=OX kn;have f1:=b4u gy_ gz!;have YD:∀x∈S,x.tm<=(gy_).foldl max gz!:=λx J=>by
  have Y:=d3f hH J;have:x.h∈kl:=(hA.mem x.h).mpr λy=>by have hm:x∈hs S x.h:=iD.mpr ⟨J,rfl⟩;rw[y]at hm;cases hm
  rw[ek]at this;obtain z|z:=HN.mp this
  .rw[z]at Y;have:=f1.1;omega
  .have:=f1.2 _ (HZ (f:=lt S) z);omega
 refine⟨1+(gy_).foldl max gz!,ev_,λx J=>by have:=YD x J;omega,?_,?_⟩
 .refine j_;have hc:Pu tt! [t_] M (.lst (kl.map λh=>.int lG!)):=λK hK=>by
   unfold Bg Ir;refine eO bt! hA.ob hF2 _ ?_;rw[cM ht];have X':lz_<64:=LD hA.len hl;refine jD rI_;refine cP cN! (λd=>match d with|.int h=>.int lG!|_=>.non) ht _ _ bG! ?_
   .rw[JQ]at hd;obtain⟨h,_,rfl⟩:=IH.mp hd;exact⟨[id!,t_],rfl,fF!,λ_ K hK=>cL H_ ic_ (qT hA) _ hK⟩
   .rw[hE!,JQ,JQ];exact hK
  refine dD (eF lF_ (a0f hc (d:=.int ((gy_).foldl max gz!)) ?_) rfl) hK;show(Nl (kl.map λh=>D.int lG!)).bind _=_;rw[a8l,ek];rfl
 .obtain⟨o,so,e⟩:=OX hn;have Y:=YD o s1_;have:=(hH.op o s1_).t1;omega
 .have:=b4t gy_ gz! (c7u hB hb k0) λx J=>by obtain⟨h,_,rfl⟩:=IH.mp J;exact c7u hB hb h
  omega
def c3k{g:WF}{f1:WE}{K:s_}(Y:m2_)(k:g [x] M K):Aj 1 g qJ_ ρ M K:=by exact Y _ fS_
def jA{g:WF}{f1 f2:WE}{K:s_}(Y:m2_)(L:Pu f2 ρ M y)(k:g [x,y] M K):Aj 2 g Br! ρ M K:=by exact Y _ (L _ fS_)
def sE{f:WE}{q:WS}{R:j!}(h:xf!):Ah (Bo f) q ρ M R:=h
def mB{i:Nat}{f:WE}{q:WS}{R:j!}(h:f ρ M λd M1=>q cf_ M1 R):Ah (Ao i f) q ρ M R:=h
def b4l{B:Int}{R:s_}(hA:X!)(hH:cr_)(hn:S≠[])(hl:fZ_<63)(hB:0<=B)(hb:e1!)
  (hR:∀M' bn bo T,iT_->1<=T->T<=B+1->Bm t M' yy a ta wa .non (S++[⟨yy,gA!+1,T,d⟩]) bn bo->Mv M dF! M' dF_->R m3! M'):Tg t [P!,d] M R:=by
 obtain⟨T,hT,t1,t2,t3⟩:=a3k hA hH hn a! hB hb;refine j_;refine fS (a2y s7_ (eF (eK bt! qR_ s7_ (vW hA)) lF_ (d:=.int (gA!+1)) rfl)) ?_;have hv:Pu tu_ [t_,some d,some m3!] M (Op.mk yy (gA!+1) T d).v:=eF ta! (a2y (iT H_ hT) (aP (d:=d) rfl)) rfl;refine sE (jA H_ hv (a1y hA a! λM' bn bo cz mv=>?_));exact dD ta! (hR M' bn bo T t1 t2 t3 cz mv)
def c4m{B:Int}{rl:bo!}{R:s_}(h:ak_)(hA:X!)(hH:cr_)(hn:S≠[])(hl:fZ_<63)(hB:0<=B)(hb:e1!)
  (hR:∀M' bn bo T,iT_->1<=T->T<=B+1->Bm t M' yy a ta wa .non (S++[⟨yy,gA!+1,T,mR!⟩]) bn bo->Mv M dF! M' dF_->R m3! M'):Wa t [P!,fw_,.non] M R:=by
 refine j_;refine sE (jA H_ td! (b2q h (x:=fw_) (k:=mI_) rfl dD! _ ?_));exact jA H_ (aP (d:=mR!) rfl) (b4l hA hH hn hl hB hb hR)
def a5y{p:Op}(hA:X!)(hp:hs S yy=[p])(hd:DG p.d)(hu:Et p.d=none):Rt (Kq t) [P!,lH_] M m5!:=λK hK=>by
 show"!b";refine j_;show Az ts_ [t_,some qO!] M _;have hk:yy∈kl:=(hA.mem yy).mpr ie_;unfold Az Bg Ca;refine qD (d:=.fn (ca yy)) f1! (aP (d:=lH_) rfl) qQ_ ht (k:=some (.inl (.inl yy))) rfl (by rw[gA,aO_];rfl) _ ?_;show(match M (ca yy)with|some (.lst xs)=>_|_=>False);have hc:=hA.cl yy hk;rw[hp]at hc;rw[hc];refine mv_;refine cP cN! (λ_=>p.nm) hc _ _ tf! ?_
 .have e:d=p.v:=by simpa using j3
  subst e;refine⟨iW_,rfl,ev_,dw!⟩
  .have:Ct ts! iW_=some true:=by
    have Y:f1 At aM_ iW_=some Q!:=by rw[c2g (b2o (f:=Aa 0) (d:=p.v) rfl),b8d hd,hu];rfl
    unfold Ct fT;rw[Y];rfl
   exact a0g this _ hK
  .exact aP (ρ:=iW_) (f:=Do m_ Aq bx_) (d:=p.nm) (zZ p) _ hK
 .exact hK
def c3r{B:Int}{p:Op}{R:s_}(hA:X!)(hH:cr_)(hn:S≠[])(hl:fZ_<63)(hB:0<=B)(hb:e1!)(hp:hs S yy=[p])(hu:Et p.d=none)(hk:¬Undn jU! p)
  (hR:∀M' bn bo T d,iT_->1<=T->T<=B+1->Bm t M' yy a ta wa .non (S++[⟨yy,2,T,th!⟩]) bn bo->Mv M dF! M' dF_->R d M'):Tf t [P!] M R:=by
 have pS:p∈S:=(iD (h:=yy)).mp ie_ |>.1;have hd:=(hH.op p pS).dg;refine j_;refine mB ?_;refine c3k (iT H_ (rW hA hH a!)) ?_;have dt:(ef_).Perm S:=bP S;refine zW ((dt.map _).nodup_iff.mpr hH.keys) (by rw[dt.length_eq];omega) (λo ho=>(hH.op o (dt.mem_iff.mp ho)).dg) λq M1 ep kq hq hM1 pe fr=>?_;have ij:=hA.keep fr;have sv:kget kq p.nm=none:=PL λz=>by
  obtain⟨x,J,e,mj⟩:=(pe p.nm).mp z;rw[a6e hH.keys]at mj;exact hk ⟨hu,by rw[<-e];exact mj.2⟩
 have hc:Pu tx! [t_,aV!,none] M1 m5!:=λK hK=>by
  unfold Bg Ca;refine cL H_ (eO bt! ij.ob hF1) (a5y ij hp hd hu) _ ?_;refine mv_;refine cP cN! id trivial _ _ tf! ?_
  .have e:d=p.nm:=by simpa using j3
   subst e;refine⟨[some p.nm,aV!],rfl,ev_,λ_ K hK=>aP (f:=Aa 0) (d:=p.nm) rfl _ hK⟩;refine jB (b:=true) (eF (aP (f:=Aa 0) (d:=p.nm) rfl) (aP (f:=Aa 1) (d:=.fn q) rfl) ?_) _ hK;rw[b4s hM1 (k:=some (.inr [.inl p.h,.inl p.n])) rfl,sv];rfl
  .exact hK
 refine fS hc ?_;refine fN (ρ:=[t_,aV!,some m5!]) (a0g (b:=false) (by show((some (D.bl ((1:Int)==0))).bind Uy)=_;rfl)) ?_;refine jA H_ (aP (d:=th!) rfl) (b4l ij hH hn hl hB hb λM' bn bo T t1 t2 t3 cz mv=>?_);rw[hp]at cz;exact hR M' bn bo T _ t1 t2 t3 cz rE!
end
section
variable{os:List Op}{g:D}{tu tp tv rh rn:Int}
abbrev s2(os:f_)(tu rh rn:Int)(g:D):List Op:=os++dV!++[dW_]
def d1s(w:bM!)(hH:Hist m6_)(Y:c7_)(L:dU_)(h3:tk!)(hg:g≠.tup b5_):
  srt m6_=srt os++dV!++[dW_]++c9_/\Gr .str m7! []=As gw_ g cx_/\¬Undn (Gr .str m7! []) (pO tp):=by
 have ir:Hist (s2 os tu rh rn g):=hH.pre;obtain⟨_,e2,e3⟩:=ef2 w ir Y L;have es:=lZ (S:=s2 os tu rh rn g) (u:=pO tp) hH.keys h3;have ew:Gr .str m7! []=As gw_ g cx_:=by
  rw[es,kD,e3];exact wE _ _ λo ho=>by rw[HX.mp ho];rfl
 refine⟨by rw[es,e2],ew,cl_⟩;have:=z.2;rw[ew]at this;have e:(pO tp).nm=.tup b5_:=rfl;rw[e,cW hg,cW hg]at this;cases this
def ef4(w:bM!)(hH:Hist tl_)(Y:c7_)(L:dU_)(h3:tk!)(h4:∀x∈s2 os tu rh rn g++c9_,x.tm<tv)(hg:g≠.tup b5_):ef tl_=srt os:=by
 obtain⟨e1,e2,_⟩:=d1s w hH.pre Y L h3 hg;have es:=lZ (S:=s2 os tu rh rn g++c9_) (u:=vO tv) hH.keys h4;show Jd sW! (srt _)=_;rw[es,kD,e2,vL (o:=vO tv) _ wG,e1,lG,lG,lG,lG,sW_,sX!,tW (o:=vO tv) wG,IR,IR,IR];have hp:Jd (As (As gw_ g cx_) (.tup b5_) bk_) c9_=[]:=by
  unfold Jd;rw[JP]
  .rfl
  .rw[JA];rintro⟨_,z⟩;exact z (cV _ _ _)
 rw[hp,IR];refine a5e w.pl.srt λo ho=>?_;have hn:D.tup b5_≠o.nm:=λz=>by
  show"!9";have:=(w.hs o mL!).1;omega
 rw[cW hn];by_cases c:o.nm=g
 .rw[c,cV];exact λz=>c7a (JJ z)
 .rw[fo_,fo_];exact λz=>by cases z
end
section
variable{t:Au}{M:Mh}{ρ:Ae}
def c7i{ft:WT}{fa fb:WE}{b:Bool}(h:Uw ft ρ M b)(ha:b=true->Pu fa ρ M d)(hb:b=false->Pu fb ρ M d):Pu (Yf ft fa fb) ρ M d:=λK hK=>by
 refine h _ ?_;cases b with
 |true=>exact ha rfl K hK
 |false=>exact hb rfl K hK
def sl3(o:Op):Bj o.v none (some 3)=some tn!:=by simp[Op.v,Bj,Dk,HT.sIx]
def d1t{o:Op}{ρ:Ae}(h:Aa 0 ρ=some o.v):f2 An vd! ve! ρ=some (Op.mk o.h o.n o.tm AV).v:=by
 have Y:Do m_ Aq (Ap al!) ρ=some tn!:=by
  unfold Do;rw[h];exact sl3 o
 exact dW Y rfl rfl
def d3e{nl:Nat}{ix:k_}{i:Nat}{fe:WE}{os:f_}{f:gs_}(hi:Aa i ρ=some h8!)(hl:ap!<64)(hb:∀o∈os,∃ai,Bd 0 o.v g9_=some ai/\Pu fe ai M (f o).v):Pu (Bg nl ix (Il (Ep (Aa i))) E! bk! fe) ρ M (.lst ((h9!).map Op.v)):=λK hK=>by
 unfold Bg Il;rw[vV hi];refine qy!;have go:∀(l:f_) (R:kS!),(∀o∈l,o∈os)->R ((eG_).map Op.v) M->Rn E! ae! bk! fe g9_ pW_ M R:=λl=>by
  induction l with
  |nil=>exact λR _ hR=>⟨trivial,hR⟩
  |cons o l ih=>
   intro R hl hR;obtain⟨ai,e1,e2⟩:=hb o (hl o HP);refine aI_;rw[e1];refine jD ?_;show(if true=true then _ else _);exact e2 _ (ih _ (λx J=>hl x aU!) hR)
 exact go os _ (λ_ h=>h) hK
def c8z{os:f_}(hd:∀o∈os,DG o.d)(hl:ap!<64)(hi:tr!)(hc:Tj 1 [] ρ=cK_):
  Pu nO_ ρ M (.lst ((os.map nu).map Op.v)):=
 d3e hi hl λo ho=>⟨[U_],by rw[hc];rfl,by
  have h3:∀k r,o.d=.tup cj!->f2 Ak iC_ C! [U_]=some U!:=λk r e=>dW (dW rfl rfl (c0g o)) rfl (by rw[e];simp[Ak,Dc,Dz]);obtain⟨k,a,e,hk,_,hu⟩|⟨k,r,e,k1,k2,hu⟩:=rN (hd o ho)
  .have en:nu o=⟨o.h,o.n,o.tm,AV⟩:=by unfold nu;rw[HQ (by rw[hu];simp)]
   rw[en];refine c7i (b:=false) (jB (eF (aP (h3 k [a] e)) tr_ ?_)) lZ_ λ_=>aP (d1t rfl);rw[rC];obtain rfl|rfl:=hk
   .rw[AX_];rfl
   .rw[AY!,Bool.or_true];rfl
  .have en:nu o=o:=by unfold nu;rw[IB hu]
   rw[en];refine c7i (b:=true) (jB (eF (aP (h3 k r e)) tr_ ?_)) (λ_=>aP rfl) λz=>by cases z
   rw[rC,RO,k1,p5!,k2];rfl⟩
def c7c(o:Op):Sd o.nm:=.inr (.inr (.inr ⟨[o.h,o.n],rfl⟩))
def d3b(o p:Op):Eg o.nm p.nm=some (.bl (!decide (o.nm=p.nm))):=by
 have h:=lE (c7c o) (c7c p);unfold Ba at h;unfold Eg;split at h
 .rename_i c;rw[IB c,D.bl.inj (JJ h)]
 .cases h
def c8y{os:f_}{x:Op}(hl:ap!<64)(hi:tr!)(hc:Tj 1 [3] ρ=[none,dz!]):
  Pu nP_ ρ M (.lst na!):=
 d3e hi hl λo ho=>⟨i1!,by rw[hc];rfl,by
  have Y:Do m_ Aq bx_ i1!=some o.nm:=zZ o;have L:fT vi! i1!=some (!decide (o.nm=x.nm)):=by
   unfold fT;rw[dW Y rfl (d3b o x)];rfl
  refine aP ?_;unfold Kz;rw[L];unfold rp;by_cases c:o.nm=x.nm
  .rw[IB c,IV c];exact d1t (o:=o) (ρ:=i1!) rfl
  .rw[HQ c,IF c];rfl⟩
def FH(q1 q2:WS)(ρ:Ae)(R:j!)(d:D)(M:Mh):Prop:=match d with
 |.bl b=>(if !b then q1 ρ M R else q2 ρ M R)
 |_=>False
def FI(fc:e!)(fb:WE)(q1 q2:WS)(ρ:Ae)(R:j!)(x:D)(M:Mh):Prop:=wl fc ρ M λy M2=>match Pt M2 x y with
 |some d=>(match d with|.bl b=>(if b then(if true then q1 ρ M2 R else q2 ρ M2 R)else fb ρ M2 tv_)|_=>False)
 |none=>False
def c0e{fa fb:WE}{fc:e!}{q1 q2:WS}{R:j!}(h:fa ρ M (FI fc fb q1 q2 ρ R)):Av (Ux (wT (w2 Pt fa (wl fc))) (Iu (wT fb))) q1 q2 ρ M R:=h
def c0f{fb:WE}{fc:e!}{q1 q2:WS}{R:j!}(hc:fc ρ=some aN!)(k:fb ρ M tv_):FI fc fb q1 q2 ρ R tw_ M:=by unfold FI;rw[dX hc,show Pt M tw_ aN!=some Q! from iI rfl ck!];exact k
def c7l{q1 q2:WS}{R:j!}(k:dt_):FH q1 q2 ρ R z_ M:=k
def FO(fc:e!)(fb:WE)(ρ:Ae)(R:j!)(x:D)(M:Mh):Prop:=wl fc ρ M λy M2=>match Xz false x y with
 |some d=>(match d with|.bl b=>(if b then fb ρ M2 (λd M=>R a0! M)else R (.rt Q!) M2)|_=>False)
 |none=>False
def d1g{fa fb:WE}{fc:e!}{R:j!}(h:fa ρ M (FO fc fb ρ R)):Az (Jt (w2 nJ_ fa (wl fc)) fb) ρ M R:=h
def d1h{fb:WE}{fc:e!}{R:j!}(hc:fc ρ=some Q!)(k:fb ρ M λd M=>R a0! M):FO fc fb ρ R Q! M:=by unfold FO;rw[dX hc];exact k
def b2j{g:WF}{f1 f2 f3:WE}{x:D}{K:s_}(Y:m2_)(L:Pu f2 ρ M y)(h3:Pu f3 ρ M z)(k:g [x,y,z] M K):Aj 3 g Bs_ ρ M K:=by exact Y _ (L _ (h3 _ fS_))
nonrec def lD(t:Au):WS:=(Ah vr!
 (Ah vr_
 vs_))
nonrec def lC(t:Au):WS:=(Ah (Ao 9 jr_)
 (Ah vp_
 (Ah vq_
 (lD t))))
variable{a ta wa c tc wc:xT!}{os:List Op}{x:Op}{tu rh rn:Int}{kl kk:List Int}{ca cc:Int->Addr}{s q2 q4 q6 q7 q8:D}
def d3g{rl rc:bo!}{R:j!}(w:bM!)(J:x∈os)(Y:c7_)(L:dU_)(hr:mS_)(sj:Run W0 (ef os) W)(hw:cM!)(au:gm!)
  (hA:Bm t M 3 a ta wa N_ ty! kl ca)(yk:ak_)(j4:OS t M c oc rc W)(dj:∀b,Ow a ta wa kl ca b->rc b=.oth)(cA:¬Ow a ta wa kl ca c)(hR:nb!):
  lD t [ci!,fY_,gC_,dz!,some q4,t_,some q6,some q7,some q8,some (.fn c),none] M R:=by
 have xg:NameG x.nm:=tz!;have x3:x.nm≠.tup b5_:=λz=>by
  show"!9";have:=(iR!).1;omega
 obtain⟨ir,vn,e3⟩:=b3l w xg Y L hr;have ln:=w.len;have l2:(ty!).length<62:=by simp only[s2,IG,IE,LP];omega
 have n2:s2 os tu rh rn x.nm≠[]:=by simp[s2]
 refine mB (b2j H_ td! mg! (c4m (B:=60) yk hA ir n2 a! b_ vn λM1 kl1 ca1 tp p1 p2 p3 ij mv1=>?_));have hA1':Bm t M1 3 a ta wa .non tA_ kl1 ca1:=by rw[e3]at ij;exact ij
 obtain⟨TX,YE⟩:=a7f (o:=pO tp) ir vn b_ (.put G! G!) rfl (by show(1:Int)=_;rw[e3];rfl) (RJ l2 b_) p1 p2 p3;obtain⟨_,_,un⟩:=d1s w TX Y L p1 x3;have l3:(tA_).length<63:=by rw[IG];simp;omega
 refine sE (c3k H_ (c3r (B:=61) (p:=pO tp) hA1' TX d! l3 b_ YE (hs1 e3 rfl) rfl un λM2 yh yi tv d v1 v2 v3 gn se=>?_));have hA2':Bm t M2 3 a ta wa .non nb_ yh yi:=gn;obtain⟨YF,_⟩:=a7f (o:=vO tv) TX YE b_ (.undo ⟨3,1,rfl,R!,R!,R!,R!⟩) rfl (by show(2:Int)=_;rw[hs1 e3 rfl];rfl) (RJ l3 b_) v1 v2 v3;have e4:=ef4 w YF Y L p1 v1 x3;have mv:=mv1.trans se;have l4:(nb_).length<64:=by rw[IG];simp at l3 ⊢;omega
 have TY:OS t M2 c oc rc W:=j4.kp (mv.k c tC! cA) λb hb=>mv.k b (j4.out.live hb) λz=>hb (dj b z);have iq:¬Ow a ta wa yh yi c:=λz=>(mv.n c z).elim cA tC!;have hrun4:Run W0 (Jd tC_ nc!) W:=by
  have e0:=b1z w.pl;rw[show Jd tC_ nc!=srt os from e4,<-e0];exact sj
 refine d1g (jA H_ (aP (d:=.tup b5_) (by rw[e3];rfl)) (c3t (W:=W) (x:=.tup b5_) (k:=some (.inr [.inl 3,.inl 1])) (Q:=λM3=>∀b,M2 b≠none->b≠a->M3 b=M2 b) (λK hK=>a3b hA2' YF l4 hrun4 λM3 o3 rl3 fq _ k3 _=>hK M3 o3 rl3 fq k3) rfl λM3 _ _ _ k3=>?_));have sv:¬Ew W (.tup b5_):=λz=>by
  obtain z|z|z:=z
  .exact c7o sj (λo ho e=>by have:=(mP_).1;omega) z
  .cases z
  .cases z
 rw[IF sv];refine d1h rfl ?_;have hoc3:OS t M3 c oc rc W:=TY.kp (k3 c (by obtain⟨_,_,_,z⟩:=TY.hob;rw[z];simp) λz=>iq cb!) λb hb=>k3 b (TY.out.live hb) λz=>hb (by rw[z];exact dj a G!);exact jA nd_ i2_ (b7s hoc3 w.hist a! sj hw au hR)
end
section
variable{t:Au}{M:Mh}{ρ:Ae}{a ta wa:xT!}{os:List Op}{x:Op}{tu rh rn:Int}{kl:List Int}{ca:Int->Addr}{s q2 q4 q6 q7:D}
def Wd.nm(w:bM!)(J:x∈os):NameG x.nm:=tz!
def d3h{R:j!}(nd:t.nd)(w:bM!)(J:x∈os)(Y:c7_)(L:dU_)(hr:mS_)(hA:Bm t M 3 a ta wa out (os++[uO tu x.nm]) kl ca)(hR:nb!):
  lC t [ci!,fY_,gC_,dz!,some q4,t_,some q6,some q7,tE!,none,none] M R:=by
 have ln:=w.len;have on:os≠[]:=λz=>by rw[z]at J;cases J
 obtain⟨ir,_,_⟩:=b3l w (w.nm J) Y L hr;refine mB (tI λc tc wc M1 hc hC fr new=>?_);have ij:=hA.keep fr;refine sE (jA nd_ i2_ (pW nd hC (S:=[]) (ms:=os) w.hist tF! on ab_ λM2 kk cc hC2 se=>?_));obtain⟨gn,dj2⟩:=ij.mv se λb hb z=>hA.lv hb (new b z)
 refine c0e (jA H_ (aP (d:=.lst ((ne!).map Op.v)) rfl) (pW nd gn (ms:=ne!) ir (λo ho=>by rw[HX.mp ho];show rh≠3;omega) d! ab_ λM3 kl3 ca3 sh mv3=>?_));obtain⟨hC3,YG⟩:=hC2.mv mv3 λb hb z=>dj2 b z hb
 have e0:=b1z w.pl;refine c0f rfl (b2j H_ nd_ i2_ (a1z (ops:=os) sh hC3 (λb h z=>YG b z h) ir w.hist w.hist ab_ ab_ a! (λW h=>?_) (λW h=>h) λM4 o oc rl rc W pre sj hw au TZ hC4 yk j4 fr4 r4=>?_))
 .rw[show Jd (Gr .str tH! []) tH!=srt os from(ef2 w ir Y L).1,<-e0];exact h
 .exact c7l (d3g w J Y L hr sj hw au TZ yk j4 (λb hb=>(r4 b (sh.lv hb)).2) (λz=>YG c G! z) hR)
nonrec def lB(t:Au):WS:=(Ah (Ao 5 jr_)
 (Ah vj_
 (Ah vk!
 (Ah vl!
 (Ah vm!
 (Ah vo!
 (Ah vp!
 (Ah nR_
 (lC t)))))))))
def d2c{i:Nat}{f:e!}{R:j!}(h:cg!)(k:R qe_ M):Ao i (wl f) ρ M R:=by unfold Ao;rw[dX h];exact k
def d3i{ns:w_}{R:j!}(nd:t.nd)(w:bM!)(J:x∈os)(hR:nb!):
  lB t [aa!,fY_,gC_,dz!,nf_,none,none,none,none,none,none] M R:=by
 have ln:=w.len;have on:os≠[]:=λz=>by rw[z]at J;cases J
 have T':Hist (os.map i0_):=c1g.hist w.hist λo ho=>by unfold rp;split;exact d3v;exact(w.hist.op o ho).dg
 obtain⟨m,em,m0,_⟩:=iC ns (k:=59);obtain⟨m',UA,_,_⟩:=iC ns (k:=58);obtain⟨UB,_⟩:=b2u (tu:=50+m%9) w (w.nm J) a! a!;refine mB (tI λa ta wa M1 ha hA fr new=>?_);refine sE (jA H_ i2_ (pW nd hA (S:=[]) (ms:=os) w.hist tF! on ab_ λM2 kl ca gn se=>?_));refine mB (tI λb tb wb M3 hb hB v8 new3=>?_);have sh:=gn.keep v8;refine sE (jA gq! tJ_ (pW nd hB (S:=[]) (ms:=os.map i0_) T' (λo ho=>by obtain⟨y,hy,rfl⟩:=IH.mp ho;rw[c1g.h];have:=(w.hs y hy).1;omega) (by simpa using on) ab_ λM4 kk cb hB4 mv4=>?_));obtain⟨TZ,dj4⟩:=sh.mv mv4 λc hc z=>gn.lv hc (new3 c z)
 have md:∀{j k v:Int} {ρ:Ae},Aa 0 ρ=some (scr ns)->Bv [ds!,dS!]=some kC_->0<k->f2 By (f1 Bv (Ac m_ (Ac (fC cH!) Ag))) (fC io!) ρ=some (.int (v%k)):=λh0 e hk=>dW (lQ (bN h0 hy_) e) rfl (tH hk);refine fS (aP (d:=(nh_).v) (oW (bN rfl (bN rfl (bN (dW rfl (md rfl em b_) rfl) tN!))) rfl)) ?_;refine fS (aP (d:=(tQ_).v) (oW (bN (dW rfl (md rfl UA b_) rfl) tO_) rfl)) ?_;have fin:∀rh rn:Int,sM!\/sM_->Ah nR_ (lC t) [aa!,fY_,gC_,dz!,nf_,t_,eV!,some (nh_).v,tE!,none,none] M4 R:=λrh rn hr=>by
  refine c0e (jA H_ (aP (d:=.lst ((nj!).map Op.v)) rfl) (pW nd TZ (ms:=nj!) UB (λo ho=>by rw[HX.mp ho];show(11:Int)≠3;decide) d! ab_ λM5 kl5 ca5 hA5 mv5=>?_));obtain⟨hB5,dj5⟩:=hB4.mv mv5 λc hc z=>dj4 c z hc
  refine c0f rfl (b2j H_ gq! tJ_ (a1z (ops:=os.map i0_) hA5 hB5 (λc h z=>dj5 c z h) UB T' T' ab_ ab_ ab_ (λW h=>?_) (λW h=>h) λM6 o ob rl rb W pre sj hw au hA6 hB6 yk hob fr6 r6=>?_))
  .show Run W0 (Jd tU! nk_) W;rw[show Jd tU! nk_=(eX_).filter λo=>decide (o.nm≠x.nm)from ef1 w UB a!];rw[b1z (d2i w.pl),c1g.srt]at h;refine b0o (λo ho z=>?_) lZ_ h;show"!9";have:=(w.hs o mL!).1;omega
  .exact c7l (d3h nd w J a! a! hr hA6 hR)
 have ei:f2 Ak bj_ C! tW!=some (.int (11+m'%2)):=dW rfl rfl (sP _);have ec:fT vo_ tW!=some ((11+m'%2:Int)==12):=by
  unfold fT;rw[dW ei rfl (vX _ _)];rfl
 have hm:m'%2=0\/m'%2=1:=by omega
 obtain z|z:=hm
 .rw[z]at ec ⊢;exact iX ec (fin 11 2 (.inl bi_))
 .rw[z]at ec ⊢;refine ifT ec (d2c (d:=(rO 12 1 x.nm).v) (oW (bN rfl tO_) rfl) ?_);exact fin 12 1 (.inr bi_)
end
section
variable{t:Au}
def b8x:Xi t=Ah vc_
 (Ah (Ao 1 nO_)
 (Ah vf_
 (Ah vh!
 (Ah (Ao 4 nP_)
 (lB t))))):=rfl
def c1j{ns:w_}(nd:t.nd):Zs t lV! M0 (λd _=>d=.bl true):=by
 obtain⟨m,em,_,_⟩:=iC ns (k:=60);obtain⟨m',UA,_,_⟩:=iC ns (k:=61);have hN0:0<=m%8:=LA _ b_;obtain⟨N,hN⟩:∃N:Nat,(N:Int)=1+m%8:=⟨(1+m%8).toNat,v!⟩;obtain⟨o0,ew,hl,hO,hb⟩:=b5n ns 0 N a!;have w:Wd nl_:=⟨c1h.hist hO λo ho=>by unfold nu;split;exact(my!).dg;exact d3v,λx J=>by obtain⟨y,hy,rfl⟩:=IH.mp J;rw[c1h.h,c1h.t];have:=hb y hy;exact⟨this.1,by have:=this.2;omega⟩,d2j,by rw[IK];omega⟩;have l1:(nl_).length=N:=by rw[IK];exact hl
 have a0:0<=m'%(N:Int):=LA _ a!;have a1:m'%(N:Int)<N:=KQ _ a!;obtain⟨x,J⟩:∃x,(o0.map nu)[(m'%(N:Int)).toNat]?=some x:=⟨_,II tZ!⟩;have xm:x∈o0.map nu:=NP J;refine j_;rw[b8x];refine fS (d:=.lst (o0.map Op.v)) (aP (lQ (bN rfl (bN rfl (bN (dW rfl (dW (lQ lr_ em) rfl (tH b_)) rfl) rfl))) (by rw[hN]at ew;exact ew))) ?_;refine fS (c8z mz! a! rfl rfl) ?_;refine fS (d:=.int i8!) (aP (dW (lQ lr_ UA) (lQ (ds:=[.lst gI!]) hy_ (d:=.int N) (by show some (D.int ((gI!).length:Nat))=_;rw[IK,l1])) (tH a!))) ?_;refine fS (d:=x.nm) (aP ?_) ?_
 .have Y:f2 Ak v_ x! t3_=some x.v:=dW rfl rfl (by
   show Dc gI! i8!=_;unfold Dc Dz;rw[IB a0,IB (by rw[IK,l1];exact a1)];show gI![(i8!).toNat]?=_;rw[JC,J];rfl)
  show Do vg_ Aq bx_ t3_=_;unfold Do;rw[Y];exact zZ x
 refine fS (c8y (x:=x) tZ! rfl rfl) ?_;exact d3i nd w xm λ_=>rfl
end
end K24
namespace K24
open PySem L2 DL
section
variable{P:yO!}{w:yC!}{K:yQ!}{mg:Str->Option Value}{base:Heap}{t:Au}
def mK(T:g_):Ok P w K mg base 1 "is_whole" p! (Fu):=
 eL (hx:=[]) (k:=0) T.C8 a6i (λhr=>(bE (bW (lJ (lI c5v rfl T.S8 rfl T.S7 dC d1d E_) (lJ (d0s (lI c1w rfl T.S8 rfl T.R9 dC c6x E_)) (iF (fX b4b b4c (cH c3i d0z rfl T.R7 d1e bN!) (aY c9b c9g aD aD) p_)))))))
def iV(T:g_):Ok P w K mg base 2 "is_from_one" p! (Dx):=
 eL (hx:=[]) (k:=1) T.D1 wO (λhr=>(bE (bW (lJ t6_ (iF (fX d2q d2s E_ aD p_))))))
def mL(T:g_):Ok P w K mg base 2 "is_below" ga! (Hh):=
 eL (hx:=[]) (k:=1) T.C9 a6k (λhr=>(bE (bW (lJ t6_ (iF (a9d mI mJ b4b b4c aD E_ Y_))))))
def iU(T:g_):Ok P w K mg base 3 "is_name" p! (Ec):=
 eL (hx:=[]) (k:=2) T.D2 b0j (λhr=>(bC nm_ (bE (bW (lJ (aT (mL T) a_ rfl (aE a8! (aE (hX T.T8 rfl) aJ)) aF_) (iF ub_))))))
def lO(T:g_):Ok P w K mg base 4 "is_sign_name" p! (Eb):=
 eL (hx:=[]) (k:=3) T.D3 vE (λhr=>(bC nm_ (bE (bW (lJ uc_ (iF (aT (mL T) a_ rfl (aE a8! (aE no_ aJ)) aF_)))))))
def b1f(T:g_):Ok P w K mg base 4 "is_item" p! (Hg):=
 eL (hx:=[]) (k:=3) T.D4 b0k (λhr=>(bE (bW (a1k ue_ (a1k uf! (iF uf!))))))
def zF(T:g_):Ok P w K mg base 4 "is_sibling" p! (Fd):=
 eL (hx:=[]) (k:=3) T.D5 zB (λhr=>(bE (bW (a1k ug_ (iF ue_)))))
def a3f(T:g_):Ok P w K mg base 5 "is_behind" p! (Ga):=
 eL (hx:=[]) (k:=4) T.D6 a2q (λhr=>(bE (bW (a1k ug_ (iF (aT (lO T) a_ rfl bN! az!))))))
def b1e(T:g_):Ok P w K mg base 1 "is_sign" dJ_ (He):=
 eL (hx:=[]) (k:=0) T.D7 b0h (λhr=>(bE (bW (lJ (a9d mI mJ mI mJ aS E_ aS) (iF (fX a0i a0k (cH c3g d0y rfl T.T2 d1b bN!) (hX T.U1 rfl) p_))))))
def b1d(T:g_):Ok P w K mg base 2 "is_text" p! (Ke):=
 eL (hx:=[]) (k:=1) T.D8 b0g (λhr=>(bC (hW (yN (a1j (gK (fJ (lI a4x rfl T.S8 rfl T.T5 dC b2k E_))) (tY (gK (c2n mI mJ mI mJ aD gK! no_))))) e7! eC) (bE (bW (cH (yU rfl) b2h rfl T.R8 b2l (aE (oE (NL:=dJ_) (NF:=[]) (ix:=[]) rfl b_ k! (bL (sc:=Ad No) rfl k!) Cm.nil b_ rfl (d0o E_) (λ_ _ _ _ _=>aZ (i:=0) (show(dJ_:List Str).Nodup by decide+kernel) rfl b!) W! gL! (λ_ _ _ _ _=>(aT (b1e T) a_ rfl bN! az!))) aJ))))))
def uI(T:g_):Ok P w K mg base 3 "is_place" p! (Dw):=
 eL (hx:=[]) (k:=2) T.D9 a6j (λhr=>(bE (bW (aT (mL T) a_ rfl (aE E_ (aE (hX T.U0 rfl) aJ)) aF_))))
def iG{g:ah_}{ps:q!}{k:Nat}(h:Ok P w K mg base k x ps g)(hm:mg x=some bT!)(hp:V_=1)(hk:k<=5):∃fd ps,V_=1/\Fo P w K mg base Qf 5 ae fd ps kf_/\Fc K fd ps []/\W.keepIn K bT!=true:=by obtain⟨f',fd,Y,L,h3,h4⟩:=h;rw[hm]at h3;cases h3;exact⟨fd,ps,hp,Y.mono hk,L,h4⟩
def c6e(T:g_):Zv P w K mg base 5 1 (Li t):=by
 intro ae g e;unfold Li at e;show"!6"
 .show"!5";exact iG (b1f T) T.U3 rfl b_
 show"!6"
 .show"!5";exact iG (zF T) T.U4 rfl b_
 show"!6"
 .show"!5";exact iG (a3f T) T.U5 rfl b_
 show"!6"
 .show"!5";exact iG (b1d T) T.U6 rfl b_
 show"!6"
 .show"!5";exact iG (lO T) T.U7 rfl b_
 show"!6"
 .show"!5";exact iG (iV T) T.U8 rfl b_
 show"!6"
 .show"!5";exact iG (uI T) T.U9 rfl b_
 show"!6"
 .show"!5";exact iG (mK T) T.V0 rfl b_
 show"!6"
 .show"!5";exact iG (iU T) T.V2 rfl b_
 cases e
def iH(T:g_):Dt P w K mg base 1 t.B3 "have" ge! gy!:=
 cJ (hx:=[]) (k:=0) T.V3 T.K8 a2v (λhr=>(aG (bA (xP cR c3d rfl T.S9 eG (aC up! aI)))))
def pG(T:g_):Wo P w K mg base 1 "Hand" t.B3 gd_ (Gb t):=
 a3i (hx:=[]) (k:=0) T.K7 b0m (λhr=>(aF (gH T.V3 T.W7 l! u_) (aF (gH T.V3 T.W8 l! fP) (aF (gH T.V3 T.W9 l! (a3r aI)) us!))))
def mO(T:g_):Dt P w K mg base 1 t.B4 "parent_of" J! (Fk t):=
 cJ (hx:=[]) (k:=0) T.V4 T.J3 mE (λhr=>(aG (bA nv_)))
def dJ(T:g_):Dt P w K mg base 1 t.B4 "has_item" J! (Ci t):=
 cJ (hx:=[]) (k:=0) T.V4 T.G6 oI (λhr=>(aG (bA (jP b7_ eR u_ je! rfl))))
def sR(T:g_):Ok P w K mg base 1 "time_and_hand" bh! (Dh):=
 eL (hx:=[]) (k:=0) T.E4 sF (λhr=>(bE (bW uv!)))
def mM(T:g_):Ok P w K mg base 4 "in_order" a1_ (Dl):=
 eL (hx:=[]) (k:=3) T.E5 a6l (λhr=>(bE (bW (c2u (sR T) (Al.in1 (Al.in1 a_)) rfl rfl T.T4 E_))))
def nW(T:g_):Wo P w K mg base 1 "Row" t.B5 aV_ (Hu t):=
 a3i (hx:=[]) (k:=0) T.E6 b6b (λhr=>(aF (gH T.V5 T.V6 l! uw!) (aG (gH T.V5 T.V7 l! uw!))))
def zG(T:g_):Wo P w K mg base 3 "Outline" t.B4 aV_ (Io t):=
 a3i (hx:=[]) (k:=2) T.F8 zC (λhr=>(aF (gH T.V4 T.V8 l! (qP x_ (iJ a9! cz! (iJ a9! cz! xL)))) (aF (gH T.V4 T.V9 l! (qP x_ (iJ a9! jg_ (iJ a9! jg_ xL)))) (aF (gH T.V4 T.W3 l! fP) (aF (gH T.V4 T.W4 l! fP) (aF (gH T.V4 T.W5 l! fP) (aG (gH T.V4 T.W6 l! fP))))))))
def fU(T:g_):Ok P w K mg base 1 "is_undo_or_redo" bh! (At):=
 eL (hx:=[]) (k:=0) T.J8 oY (λhr=>(bE (bW (a1k uA! (iF uA!)))))
def zE(T:g_):Js P w K mg base 5 "last_words" a1_ (Gn):=
 bV (hx:=[]) (k:=4) T.J9 jJ (λhr=>(aF (aX (i:=1) jJ.nd rfl b! fP) (aF (eS JD rfl uB_ (aZ (i:=2) jJ.nd rfl b!) (dH 2) (aG (bY (fA (fJ (aT (fU T) a_ rfl de! az!))) (aG (dM x_ u_ jj! jj!)) bJ))) d5!)))
def a0l(T:g_):Js P w K mg base 6 "undone" a1_ (Kb):=
 bV (hx:=[]) (k:=5) T.K0 jT (λhr=>(aF (aX (i:=1) jT.nd rfl b! (aO (zE T) a_ rfl bO!)) (aF (aX (i:=2) jT.nd rfl b! fP) (aF (eS JD rfl (mR jj_) (aZ (i:=3) jT.nd rfl b!) df! (aF (aX (i:=4) jT.nd rfl b! nE_) (aG (bY (vJ (pH (fA (gK (fJ (aT (fU T) a_ rfl jk_ az!)))) (kN (cU az_ jl! (c1b x_ u_ bC_ dd!) a9! p_)))) (aG (dM x_ I_ bC_ d5_)) bJ)))) e8_))))
def qL(T:g_):Dt P w K mg base 1 t.B5 "holds" J! (Hv t):=
 cJ (hx:=[]) (k:=0) T.V5 T.E7 a2s (λhr=>(aG (bA (xQ uJ! (tJ (jP b7_ eR u_ df_ rfl))))))
def gE(T:g_):Dt P w K mg base 2 t.B5 "put_behind" l5! (Cv t):=
 cJ (hx:=[]) (k:=1) T.V5 T.E8 gC (λhr=>(aF (aX (i:=3) gC.nd rfl b! (c1a (eZ (bU (qL T) a_ l! e9_)) I_ cz!)) (aF (aX (i:=4) gC.nd rfl b! (bX M_ bH df_ aP! r!)) (aF (dM x_ df_ aP! u_) (aF (dM x_ jm! u_ aP!) (aF (dM x_ df_ u_ bC_) (aG (dM x_ jm! bC_ u_))))))))
def gF(T:g_):Dt P w K mg base 1 t.B4 "has" J! go_:=
 cJ (hx:=[]) (k:=0) T.V4 T.F9 wP (λhr=>(aG (bA (jP b7_ eR u_ fa! rfl))))
def xE(T:g_):Dt P w K mg base 3 t.B4 "put" cZ_ (Jp t):=
 cJ (hx:=[]) (k:=2) T.V4 T.G8 mD (λhr=>(aF (aX (i:=4) mD.nd rfl b! (c1a (eZ uP_) I_ a9!)) (aF (dM x_ nv! u_ bC_) (aF (cF (bU (gE T) a_ (bX M_ bH fa! bC_ r!) nH!)) (aF (dM x_ fa! u_ jg_) (aF (dM x_ je! u_ jg_) (aG (dM x_ uR! u_ (c5j nH_ (aB (hX T.U0 rfl)))))))))))
def vI(T:g_):Dt P w K mg base 1 t.B5 "take_out" J! (Jb t):=
 cJ (hx:=[]) (k:=0) T.V5 T.E9 iA (λhr=>(aF (aX (i:=2) iA.nd rfl b! (c0z x_ jm! u_ dd!)) (aF (aX (i:=3) iA.nd rfl b! (c0z x_ df_ u_ dd!)) (aF (dM x_ df_ I_ aP!) (aG (dM x_ jm! aP! I_))))))
def mP(T:g_):Dt P w K mg base 1 t.B4 "is_within" gb! (Fm t):=
 cJ (hx:=[]) (k:=0) T.V4 T.G7 gW (λhr=>(aF (jX JD (fA (yN (yM (bM nT nX Y_ dI p_) (rK uV_)))) (aG (aX (i:=1) gW.nd rfl b! nv_))) (aG (bA uJ!))))
def oM(T:g_):Dt P w K mg base 2 t.B4 "can_move" gb_ (Fv t):=
 cJ (hx:=[]) (k:=1) T.V4 T.G9 oJ (λhr=>(aG (bA (xQ nI_ (xQ uP_ (tJ (c9p (bU (mP T) a_ l! (aC I_ ar!)))))))))
def lP(T:g_):Dt P w K mg base 3 t.B4 "move" cZ_ (Gp t):=
 cJ (hx:=[]) (k:=2) T.V4 T.H9 vG (λhr=>(aF (bY (kO (eZ (bU (oM T) a_ l! (aC u_ e9_)))) (aG a3n) bJ) (aF (cF (bU (vI T) a_ (bX M_ bH fa! nv_ r!) ar!)) (aF (cF (bU (gE T) a_ (bX M_ bH fa! I_ r!) nH!)) (aG (dM x_ nv! u_ I_))))))
def sX(T:g_):Dt P w K mg base 3 t.B4 "write" l6! (Ia t):=
 cJ (hx:=[]) (k:=2) T.V4 T.J0 dS (λhr=>(aF (bY (kO (eZ (bU (dJ T) a_ l! e9_))) (aG a3n) bJ) (aF (aX (i:=5) dS.nd rfl b! aP!) (aG (eS JD rfl (mR (c2t rfl T.S0 bC!)) (b9q rfl (qE (aZ (i:=6) dS.nd rfl b!) (qE (aZ (i:=7) dS.nd rfl b!) b3v))) (c2d 6 7) (aF (aX (i:=8) dS.nd rfl b! (aB (aY aQ bO Y_ (cO (aE bD! aJ))))) (aF (cF (bU (gE T) a_ (bX M_ bH je! I_ r!) (aC (aB bD_) nK!))) (aF (dM x_ (bF T.V4 T.W5 l!) (aB bD_) (aB dg!)) (aG (aX (i:=5) dS.nd rfl b! (aB bD_)))))))))))
def xF(T:g_):Dt P w K mg base 2 t.B4 "cut" l6_ (Jq t):=
 cJ (hx:=[]) (k:=1) T.V4 T.J1 iP (λhr=>(aF (bY (kO (eZ nI_)) (aG a3n) bJ) (aG (eS JD rfl (mR (b7o rfl T.T3 a9_ (aY aQ bO a9_ ba!))) (aZ (i:=4) iP.nd rfl b!) (dH 4) (aF (aX (i:=5) iP.nd rfl b! (aB (aY aQ bO (cX aq! dP dc_) (cO (aE bC! aJ))))) (aG (bY (eZ (bU (qL T) a_ u9! nK!)) (aG (dM x_ (bF T.V4 T.W6 l!) cz_ d5_)) bJ)))))))
def lV(T:g_):Dt P w K mg base 2 t.B4 "set_number" gc! (Ez t):=
 cJ (hx:=[]) (k:=1) T.V4 T.J2 lR (λhr=>(aG (bY (eZ nI_) (aG (dM x_ va! I_ aP!)) bJ)))
def c5g(T:g_):Js P w K mg base 4 "play" gc_ (Nt t):=
 bV (hx:=[]) (k:=3) T.K4 c4e (λhr=>(aG (bY b8_ (aG (cF (bU (xE T) a_ l! (aC u_ (aC bm! jr!))))) (aG (bY b8_ (aG (cF (bU (lP T) a_ l! gR_))) (aG (bY b8_ (aG (cF (bU (lP T) a_ l! (aC bm! nO!)))) (aG (bY b8_ (aG (cF (bU (sX T) a_ l! (aC u_ gR_)))) (aG (bY b8_ (aG (cF (bU (xF T) a_ l! gR_))) (aG (bY b8_ (aG (cF (bU (lV T) a_ l! gR_))) bJ)))))))))))))
def b6r(T:g_):Js P w K mg base 7 "played" a1_ (Kd t):=
 bV (hx:=[]) (k:=6) T.K6 jU (λhr=>(aF (aX (i:=1) jU.nd rfl b! (mS (zG T) a_ rfl)) (aF (aX (i:=2) jU.nd rfl b! (aO (a0l T) a_ rfl bO!)) (aF (eS JD rfl uB_ (aZ (i:=3) jU.nd rfl b!) df! (aF (aX (i:=4) jU.nd rfl b! nE_) (aG (bY (cU fc_ eR bC_ I_ rfl) (aG (cF (aO (c5g T) a_ rfl (aC u_ (aC bC_ (aC gT! aI)))))) bJ)))) d5!))))
def qJ(T:g_):Js P w K mg base 5 "all_taken" af! (Ey t):=
 bV (hx:=[]) (k:=4) T.K9 kJ (λhr=>(aF (c0v (pP (i:=1) kJ.nd rfl b! aJ)) (aF (eS JD rfl (a3p d4_) (aZ (i:=2) kJ.nd rfl b!) (dH 2) (aG (b7b (i:=1) b_ (bX M_ bH d4_ I_ r!)))) (xK (aG (bA (aB (aT (mM T) a_ rfl gU! az!))))))))
def jO(T:g_):Js P w K mg base 8 "outline_of" af! (Cq t):=
 bV (hx:=[]) (k:=7) T.L0 zA (λhr=>(aF (bY (cU b1a (Ij.m b1i) vm_ cz! p_) (aG (gH T.V3 T.X0 l! (aO (b6r T) a_ rfl vn_))) bJ) (aG (bA vm_))))
def eY(T:g_):Js P w K mg base 9 "outline_with_item" X_ (Cr t):=
 bV (hx:=[]) (k:=8) T.N6 gV (λhr=>(aF (aX (i:=2) gV.nd rfl b! nQ!) (aF (bY (kO (eZ (bU (dJ T) a_ I_ ar!))) dg_ bJ) e8_)))
def sS(T:g_):Js P w K mg base 10 "parent" X_ gQ_:=
 bV (hx:=[]) (k:=9) T.N9 b5y (λhr=>(aG (bA (bU (mO T) a_ nR! ar!))))
def oO(T:g_):Dt P w K mg base 1 t.B5 "listed" aV_ (Im t):=
 cJ (hx:=[]) (k:=0) T.V5 T.F7 gQ (λhr=>(aF (c0v (pP (i:=1) gQ.nd rfl b! aJ)) (aF (aX (i:=2) gQ.nd rfl b! (bX M_ bH df_ cz! r!)) (aF (jX JD (fA (bM nT nX aq! dI p_)) (aF (c0v (tZ (i:=1) b_ aq!)) (aG (aX (i:=2) gQ.nd rfl b! (bX M_ bH df_ I_ r!))))) (xK d5!)))))
def kM(T:g_):Dt P w K mg base 2 t.B4 "children_of" J! (Dq t):=
 cJ (hx:=[]) (k:=1) T.V4 T.J4 kK (λhr=>(aG (bA (a7u (oO T) a_ (bX M_ bH fa! u_ r!)))))
def lN(T:g_):Js P w K mg base 9 "outline_with" [J_,S!] (Ea t):=
 bV (hx:=[]) (k:=8) T.N5 lM (λhr=>(aF (aX (i:=2) lM.nd rfl b! nQ!) (aF (bY (kO (eZ (bU (gF T) a_ I_ ar!))) dg_ bJ) e8_)))
def mN(T:g_):Js P w K mg base 10 "children" X_ gP!:=
 bV (hx:=[]) (k:=9) T.O0 a6m (λhr=>(aG (bA (bU (kM T) a_ vs! ar!))))
def oK(T:g_):Dt P w K mg base 2 t.B4 "signs_of" aW! (Dm t):=
 cJ (hx:=[]) (k:=1) T.V4 T.J5 oH (λhr=>(aG (bA (fQ (NL:=[S!]) (NF:=aV_) (ix:=[0]) rfl b_ k! (bL (sc:=Ad Fi) rfl k!) jt! b_ rfl (eB (a7u (oO T) a_ u9!)) vt_ W! (λ_ _ _ _ _=>oP (cU fc_ eR l! (bF T.V4 T.W6 u_) rfl)) gU_))))
def pF(T:g_):Dt P w K mg base 3 t.B4 "text_of" aW! (Go t):=
 cJ (hx:=[]) (k:=2) T.V4 T.J6 oZ (λhr=>(aG (bA (b4j (fQ (NL:=[S!]) (NF:=aV_) (ix:=[0]) rfl b_ k! (bL (sc:=Ad Fs) rfl k!) jt! b_ rfl (eB (bU (oK T) a_ l! ar!)) vt_ W! b9! (λ_ _ _ _ _=>(bX M_ bH (bF T.V4 T.W5 u_) l! r!)))))))
def a3d(T:g_):Js P w K mg base 10 "text" X_ gP_:=
 bV (hx:=[]) (k:=9) T.O3 c4d (λhr=>(aG (bA (bU (pF T) a_ nR! ar!))))
def lW(T:g_):Dt P w K mg base 1 t.B4 "numbers_of" aW! (Fa t):=
 cJ (hx:=[]) (k:=0) T.V4 T.J7 lU (λhr=>(aG (bA (tK a5p c6v rfl T.T0 a5q (aC va! aI)))))
def kL(T:g_):Js P w K mg base 10 "outline_with_number" b1_ (Er t):=
 bV (hx:=[]) (k:=9) T.N7 kI (λhr=>(aF (bY (fA (gK (fJ (aT (uI T) a_ rfl de! az!)))) dg_ bJ) (aG (bA nR!))))
def sT(T:g_):Js P w K mg base 11 "number" b1_ (Gm t):=
 bV (hx:=[]) (k:=10) T.O4 b5z (λhr=>(aG (bA (bX M_ bH (bU (lW T) a_ (aO (kL T) a_ rfl (aC l! (aC u_ e9_))) ar!) I_ r!))))
def uJ(T:g_):Js P w K mg base 1 "_law_ordered" aH_ (Fw):=
 bV (hx:=[]) (k:=0) T.P9 gX (λhr=>(aF (c0v (pP (i:=1) gX.nd rfl b! aJ)) (aF (eS JD rfl (mR jj_) (aZ (i:=2) gX.nd rfl b!) (dH 2) (aF (aX (i:=3) gX.nd rfl b! (aB (b5a nU!))) (aF (jX JD (fA (yN (yM (bM c7m c7n ba! aD p_) (rK (bM (c9e (Al.units0 hr)) c9m (cO (aE vw! (aE vw! aJ))) (cO (aE a9_ (aE a9_ aJ))) p_))))) (aG (aX (i:=3) gX.nd rfl b! (aB vv_)))) (aG (c0v (b7n (i:=1) b_ ba! aq!)))))) (xK d5!))))
def b1h(T:g_):Js P w K mg base 2 "_law_undone" aH_ (Mn):=
 bV (hx:=[]) (k:=1) T.Q0 pA (λhr=>(aF (aX (i:=1) pA.nd rfl b! fP) (aF (eS JD rfl vx_ (aZ (i:=2) pA.nd rfl b!) (dH 2) (aG (bY (cU b7_ eR jj! d8_ rfl) (aG (dM x_ u_ jj! (aB (fX az_ cB ji_ aS p_)))) bJ))) d5!)))
def a7k(T:g_):Js P w K mg base 1 "_law_hang" c2_ (Gq):=
 bV (hx:=[]) (k:=0) T.Q3 jV (λhr=>(aF (jF (i:=4) (NL:=cB_) (NF:=[ax_]) (ix:=[1]) jV.nd rfl b! rfl b_ k! (bL (sc:=Ad Qw) rfl k!) jz_ b_ rfl (eB bm_) jA! W! (λ_ _ _ _ _=>oP (fA (bM aY! sZ a8! Y_ p_))) gU_) (aF (aX (i:=5) jV.nd rfl b! am!) (aF (jX JD (fA (yN (yM (bM b4b b4c aP_ vz! p_) (rK (bM aY! sZ (aN aH aM (aN aH aM bC! aP_ r!) aD r!) aq! p_))))) (aG (aX (i:=5) jV.nd rfl b! (aB (aY aQ bO aP_ aD))))) (aF (eS JD rfl (mR (fM rfl T.T3 vz!)) (aZ (i:=6) jV.nd rfl b!) (dH 6) (aG (bY (fA (yN (yM (bM nT nX ba! dI p_) (rK (bM az_ cB (aN aH aM bC! bD! r!) (cO (aE ba! de!)) p_))))) (aG (aX (i:=5) jV.nd rfl b! (aB (aY aQ bO bD! aD)))) bJ))) (aG (dM x_ l! a9! (aB (aY aQ bO (aY aQ bO (cX bC! dP (dO aP_)) (lH (aE (cO (aE Y_ de!)) aJ))) (cX bC! (dO aP_) dP))))))))))
def c0l(T:g_):Js P w K mg base 1 "_law_lies" mg_ (Mp):=
 bV (hx:=[]) (k:=0) T.Q4 wR (λhr=>(aF (jX JD (fA uV_) (aF (jF (i:=3) (NL:=cB_) (NF:=[ax_]) (ix:=[1]) wR.nd rfl b! rfl b_ k! (bL (sc:=Ad Qv) rfl k!) jz_ b_ rfl (eB bm_) jA! W! nZ_ n0!) (aF (bY (fA (gK (a8y ba!))) bE_ bJ) (aG (aX (i:=1) wR.nd rfl aG_ gT!))))) bE_))
def a7j(T:g_):Js P w K mg base 2 "_law_move" c2_ (Jj):=
 bV (hx:=[]) (k:=1) T.Q5 b8m (λhr=>(aG (bY (vJ (pH (cU b7_ eR u_ bm_ rfl) (kN (vJ (a7q (cU b7_ eR I_ bm_ rfl) (xJ (cU b7_ eR I_ d8_ rfl))))))) (aG (bY (kO (eZ (aO (c0l T) a_ rfl (aC l! (aC I_ ar!))))) (aG (cF (aO (a7k T) a_ rfl (aC l! (aC u_ n1!))))) bJ)) bJ)))
def c9i(T:g_):Js P w K mg base 3 "_law_do" mh_ (Wb):=
 bV (hx:=[]) (k:=2) T.Q6 iQ (λhr=>(aF (aX (i:=2) iQ.nd rfl aG_ gY_) (aF (aX (i:=3) iQ.nd rfl aG_ (aB (cO (aE fh! (aE fh! aJ))))) (aG (bY b8_ (aF (aX (i:=4) iQ.nd rfl b! (c7s (jP b7_ eR bm! bm_ rfl) (tJ (aB (fX az_ cB a9_ aS p_))))) (aF (dM x_ bm_ aP! nu!) (aF (dM x_ bm_ aP! (a3r (aC am! (aC am! (aC am! nH_))))) (aG (cF (aO (a7k T) a_ rfl (aC l! (aC aP! (aC (aB (c7z (fJ bC!) a9_ aS)) jr!))))))))) (aG (bY b8_ (aG (cF (aO (a7j T) a_ rfl (aC l! gR_)))) (aG (bY b8_ (aG (cF (aO (a7j T) a_ rfl (aC l! (aC bm! nO!))))) (aG (bY n4! (aG (dM x_ vK_ bm! bm!)) (aG (bY n4! (aF vL! (aF (aX (i:=6) iQ.nd rfl b! am!) (aF (eS JD rfl (mR (fM rfl T.T3 (cH cR eJ rfl T.S9 eG (aE aP_ aJ)))) (aZ (i:=7) iQ.nd rfl b!) (dH 7) (aG (bY (fA (bM az_ cB (aN aH aM (aN aH aM aP_ dg! r!) aD r!) a9_ p_)) (aG (aX (i:=6) iQ.nd rfl b! (aB (aY aQ bO dg! aD)))) bJ))) (aF (jF (i:=8) (NL:=[aE_]) (NF:=[eO!,mh!]) (ix:=[2,3]) iQ.nd rfl b! rfl b_ k! n5! (Cm.cons (j:=2) jE_) b_ rfl (mR (fM rfl T.T3 (cH cR eJ rfl T.S9 eG (aE a9_ aJ)))) (λ_ _ _ _ _=>aZ (i:=0) (show([aE_,eO!,mh!]:List Str).Nodup by decide+kernel) rfl b!) W! b9! (λ_ _ _ _ _=>(aB (cO (aE (aY aQ bO aq! (cO bN!)) (aE (aN aH aM fh! E_ r!) (aE eE aJ))))))) (aG (dM x_ bm_ bm! (aB (aY aQ bO (aY aQ bO (cX aP_ dP (dO bD!)) bD_) (cX aP_ (dO bD!) dP))))))))) (aG (bY n4! (aF (aX (i:=9) iQ.nd rfl aG_ (fQ (NL:=[aE_]) (NF:=[eO!]) (ix:=[2]) rfl b_ k! n5! vQ! b_ rfl (mR (fM rfl T.T3 a9_)) (λ_ _ _ _ _=>aZ (i:=0) (show([aE_,eO!]:List Str).Nodup by decide+kernel) rfl b!) W! b9! (λ_ _ _ _ _=>(aB (aY aQ bO (cX fh! dP dc_) (cO (aE (aY aQ bO (aN aH aM fh! aD r!) E_) aJ))))))) (aF vL! (aG (dM x_ bm_ bm! (fQ (NL:=[jI!]) (NF:=[eO_]) (ix:=[9]) rfl b_ k! n5! (Cm.cons (j:=9) Cm.nil) b_ rfl (mR (fR aP_)) (λ_ _ _ _ _=>aZ (i:=0) (show([jI!,eO_]:List Str).Nodup by decide+kernel) rfl b!) W! b9! (λ_ _ _ _ _=>(a3q (aC gX_ (aC gX_ (aC (xQ gX_ (tJ (jP fc_ eR gX_ u_ rfl))) aI)))))))))) bJ)))))))))))))))
def a7i(T:g_):Js P w K mg base 4 "_law_play" aH_ (Mo):=
 bV (hx:=[]) (k:=3) T.Q7 pZ (λhr=>(aF (aX (i:=1) pZ.nd rfl b! (qP x_ (iJ a9! nu! (iJ a9! fP (iJ a9! fP xL))))) (aF (aX (i:=2) pZ.nd rfl b! (aO (b1h T) a_ rfl bO!)) (aF (eS JD rfl vx_ (aZ (i:=3) pZ.nd rfl b!) df! (aG (bY (vJ (pH (cU fc_ eR (aB (aN aH aM js! aD r!)) d8_ rfl) (kN (kO (eZ (qQ x_ I_ (aB (cO (aE js! (aE js! aJ)))) d5_ dd!)))))) (aG (cF (aO (c9i T) a_ rfl nH!))) bJ))) d5!))))
def a0m(T:g_):Js P w K mg base 12 "_law_alike" mj! (Jc t):=
 bV (hx:=[]) (k:=11) T.R4 nQ (λhr=>(aF (aX (i:=3) nQ.nd rfl b! (aO (a7i T) a_ rfl e9_)) (aF (eS JD rfl (eB (uK aQ jE d8_ (tK (oV rfl) a9i rfl T.T0 a5q (aC vU_ aI)))) vV_ (dH 4) (aG (bY (cU aY! jN (aO (mN T) a_ rfl oa!) (aO (mN T) a_ rfl oa_) p_) bE_ bJ))) (aF (eS JD rfl (a3p vU_) vV_ (dH 4) (aF (bY (vJ (a7q (cU aY! jN (aO (a3d T) a_ rfl oa!) (aO (a3d T) a_ rfl oa_) p_) (xJ (cU aY! jN (aO (sS T) a_ rfl oa!) (aO (sS T) a_ rfl oa_) p_)))) bE_ bJ) (aG (bY (cU aY! jN (fQ (NL:=[aE_]) (NF:=[c3!,ax_]) (ix:=[0,4]) rfl b_ k! vW_ (Cm.cons (j:=0) vX!) b_ rfl ob! vX_ W! b9! ob_) (fQ (NL:=[aE_]) (NF:=[c2!,ax_]) (ix:=[1,4]) rfl b_ k! vW_ (Cm.cons (j:=1) vX!) b_ rfl ob! (λ_ _ _ _ _=>aZ (i:=0) (show([aE_,c2!,ax_]:List Str).Nodup by decide+kernel) rfl b!) W! b9! ob_) p_) bE_ bJ)))) bE_))))
def c0n(T:g_):Ok P w K mg base 1 "_law_cell" c1_ (On):=
 eL (hx:=[]) (k:=0) T.P0 b8n (λhr=>(bC (hW (a8y E_) vZ! eC) (bE (bW aD))))
def a3h(T:g_):Js P w K mg base 1 "_law_children" b3_ (Jk):=
 bV (hx:=[]) (k:=0) T.Q8 a2u (λhr=>(aG (bA (fQ (NL:=cB_) (NF:=[ax_]) (ix:=[1]) rfl b_ k! (bL (sc:=Ad Kl) rfl k!) jz_ b_ rfl (eB bm_) jA! W! nZ_ n0!))))
def fG(T:g_):Ok P w K mg base 2 "_law_mix" c1_ (Bv):=
 eL (hx:=[]) (k:=1) T.P1 a2t (λhr=>(bC (fW (i:=2) a2t.nd rfl b! (aY eP eQ (aY aQ bO (aT (c0n T) a_ rfl (aE E_ gU!) aF_) (aY sO sQ aD v1!)) aD)) (bC (fW (i:=2) a2t.nd rfl b! (aY eP eQ (aY sO sQ aq! aD) aD)) (bE (bW (aY eP eQ (aY aQ bO (aY sO sQ (aY nU nV aq! aD) aD) aq!) aD))))))
def b6v(T:g_):Ok P w K mg base 1 "_law_items" aH_ (Md):=
 eL (hx:=[]) (k:=0) T.P3 b6c (λhr=>(bE (bW (aY aQ bO (aY aQ bO (fE (n:=8) rfl) (oE (NL:=cB_) (NF:=[]) (ix:=[]) rfl b_ k! (bL (sc:=Ad Pa) rfl k!) Cm.nil b_ rfl jj_ oe! W! (λ_ _ _ _ _=>d2k (bM az_ cB jh_ aS p_)) v3_)) (fE (n:=12) rfl)))))
def b6t(T:g_):Ok P w K mg base 1 "_law_signs" aH_ (Mc):=
 eL (hx:=[]) (k:=0) T.P4 nN (λhr=>(bC (pP (i:=1) nN.nd rfl b! (aE dI (aE v4_ aJ))) (bC (b2a JD rfl jj_ nN.nd rfl b! (bE (hW (bM az_ cB ji_ aS p_) (bE (b2a JD rfl (fM rfl T.T3 (cH cR eJ rfl T.S9 eG (aE ji_ aJ))) nN.nd rfl b! (bE (tZ (i:=1) b_ (cO (aE a9_ (aE a9_ jk_))))))) eC))) (a8z (bE (bW Y_))))))
def c0k(T:g_):Ok P w K mg base 1 "_law_text" oe_ (Ol):=
 eL (hx:=[]) (k:=0) T.P5 a6n (λhr=>(bC (fW (i:=2) a6n.nd rfl aG_ aS) (bE (bW (c6n aS (oE (NL:=[aE_]) (NF:=[c1!,md!]) (ix:=[0,2]) rfl b_ k! (bL (sc:=Ad Qu) rfl k!) (Cm.cons (j:=0) vQ!) b_ rfl (fM rfl T.T3 (aY aQ bO aD (aY eP eQ E_ Y_))) (λ_ _ _ _ _=>aZ (i:=0) (show([aE_,c1!,md!]:List Str).Nodup by decide+kernel) rfl b!) W! gL! (λ_ _ _ _ _=>(aN aH aM aq! (aY eP eQ (aY nU nV Y_ (aY aQ bO aD (aY sO sQ aD E_))) aD) r!))))))))
def jW(T:g_):Ok P w K mg base 1 "_law_pick" gf! (Du):=
 eL (hx:=[]) (k:=0) T.P6 b8l (λhr=>vZ!)
def c0m(T:g_):Ok P w K mg base 3 "_law_deed" me_ (Mr):=
 eL (hx:=[]) (k:=2) T.P7 fK (λhr=>(bC (fW (i:=4) fK.nd rfl b! (aT (fG T) a_ rfl (aE E_ gU!) aF_)) (bC (fW (i:=5) fK.nd rfl b! (aT (b6v T) a_ rfl de! az!)) (bC (fW (i:=6) fK.nd rfl b! (aT g4! a_ rfl (aE (aY aQ bO (cX aP_ dc_ dP) (cX aP_ dP dc_)) g5!) aF_)) (bC (fW (i:=7) fK.nd rfl b! (aT g4! a_ rfl (aE (aY aQ bO aP_ nY!) g5!) aF_)) (bC (hW (fJ (lI a4x rfl T.S8 rfl T.T5 dC b2k dg!)) (bE (fW (i:=7) fK.nd rfl b! dI)) eC) (bC (fW (i:=8) fK.nd rfl b! (fE (n:=19) rfl)) (bC (fW (i:=9) fK.nd rfl b! (aN aH aM bD_ q2! r!)) (bC (hW g6! (bE (bW (cO (aE cd! wd_)))) eC) (bC (hW g6! (bE (bW (cO (aE cd! (aE bD! wd_))))) eC) (bC (hW g6! (bE (bW (cO (aE cd! (aE bD! aJ))))) eC) (bC (fW (i:=10) fK.nd rfl b! (aT g4! a_ rfl (aE (aT (b6t T) a_ rfl de! az!) g5!) aF_)) (bC (hW g6! (bE (bW (cO (aE cd! (aE bD! (aE g8! (aE (aT (c0k T) a_ rfl (aE wa! jk_) aF_) aJ))))))) eC) (bC (hW (yN (yM g6! (rK (bM nT nX g8! dI p_)))) (bE (bW (cO (aE cd! (aE bD! (aE g8! (aE (aY aQ bO aD (aY eP eQ wh! (aY sN sY aD (aN aH aM g8! aD r!)))) aJ))))))) eC) (bC (hW (bM b6q d2u cd! nY! rfl) (bE (bW (cO (aE aS (aE bD! (aE wi! (aE (aY sN sY wi! aD) aJ))))))) eC) (bC (fW (i:=11) fK.nd rfl b! (aY aQ bO (oE (NL:=cB_) (NF:=[]) (ix:=[]) rfl b_ k! (bL (sc:=Ad Qy) rfl k!) Cm.nil b_ rfl (fR aq!) oe! W! gL! v3_) (lH (aE (cO (aE aD (aE (aY aQ bO aD q2!) aJ))) aJ)))) (bE (bW (cO (aE cd! (aE (aT g4! a_ rfl (aE (aA 11) g5!) aF_) aJ)))))))))))))))))))))
def xG(T:g_):Js P w K mg base 1 "_law_shown_text" b3_ (Hk):=
 bV (hx:=[]) (k:=0) T.Q9 wQ (λhr=>(aG (bA (b4j (fQ (NL:=[jI!]) (NF:=[]) (ix:=[]) rfl b_ k! (bL (sc:=Ad Iw) rfl k!) Cm.nil b_ rfl (eB (bX M_ bH bm_ u_ r!)) (λ_ _ _ _ _=>aZ (i:=0) (show([jI!]:List Str).Nodup by decide+kernel) rfl b!) W! (λ_ _ _ _ _=>oP (fA (fJ a8!))) n0!)))))
def xC(T:g_):Js P w K mg base 9 "there" X_ fa_:=
 bV (hx:=[]) (k:=8) T.N8 b8k (λhr=>(aG (bA (bU (gF T) a_ nQ! ar!))))
def b6u(T:g_):Js P w K mg base 12 "_law_shows" op_ (Om t):=
 bV (hx:=[]) (k:=11) T.R0 nO (λhr=>(aF (aX (i:=2) nO.nd rfl b! (aO (a7i T) a_ rfl ar!)) (aF (eS JD rfl (eB (uK aQ jE d8_ (tK (oV rfl) a9i rfl T.T0 a5q (aC jQ_ aI)))) wm! df! (aG (bY (vJ (a7q (cU b6p om! (aO (xC T) a_ rfl fn!) d5_ p_) (xJ (cU aY! jN (aO (mN T) a_ rfl fn!) (aO (a3h T) a_ rfl n1!) p_)))) bE_ bJ))) (aF (eS JD rfl (a3p jQ_) wm! df! (aF (bY (cU aY! jN (aO (a3d T) a_ rfl fn!) (aO (xG T) a_ rfl n1!) p_) bE_ bJ) (aF (bY (cU aY! jN (c9q (aC (a3q (aC aP! (aC (aO (sS T) a_ rfl fn!) aI))) aI)) (fQ (NL:=cB_) (NF:=[ax_]) (ix:=[3]) rfl b_ k! wn_ jE_ b_ rfl (eB jQ_) jA! W! nZ_ gU_) p_) bE_ bJ) (aG (bY (cU aY! jN (fQ (NL:=[aE_]) (NF:=[c3!,ax_]) (ix:=[0,3]) rfl b_ k! wn_ (Cm.cons (j:=0) jE_) b_ rfl ob! vX_ W! b9! ob_) (bX M_ bH jQ_ aP! r!) p_) bE_ bJ))))) (aG (bA (jP c0i om! (aO (xC T) a_ rfl (aC l! (aC d8_ aI))) d5_ p_)))))))
def b6s(T:g_):Ok P w K mg base 4 "_law_world" mf_ (Mb):=
 eL (hx:=[]) (k:=3) T.P8 fY (λhr=>(bC (pP (i:=3) fY.nd rfl b! aJ) (bC (pP (i:=4) fY.nd rfl b! wo_) (bC (pP (i:=5) fY.nd rfl b! wo_) (bC (b2a JD rfl (fM rfl T.T3 aq!) fY.nd rfl b! (bC (fW (i:=7) fY.nd rfl b! (aT (fG T) a_ rfl (aE E_ (aE wq! aJ)) aF_)) (bC (fW (i:=8) fY.nd rfl b! (aY eP eQ dg! aD)) (bC (c2o (i:=4) b_ bD_ (aY aQ bO wr! aD)) (bC (c2o (i:=5) b_ bD_ (aY aQ bO (aY aQ bO wr_ aD) (aY eP eQ (aY nU nV dg! aD) aD))) (bC (fW (i:=9) fY.nd rfl b! (b5a (aT (c0m T) a_ rfl (aE E_ (aE (aY aQ bO wq! aD) (aE ba! oo_))) (aK (aK aF_))))) (bE (tZ (i:=3) b_ (cO (aE (aN aH aM v4_ bD_ r!) (aE wr! (aE wr_ (aE cd! aJ))))))))))))) (a8z (bE (bW ba!))))))))
def sW(T:g_):Js P w K mg base 1 "accept" ax! (Kf t):=
 bV (hx:=[]) (k:=0) T.M9 b6a (λhr=>(aF (cF (b4k (a0s x_ d4_ gY_ (a3r aI) dd!) u_)) us!))
def pE(T:g_):Js P w K mg base 2 "is_next" ax! (Hf t):=
 bV (hx:=[]) (k:=1) T.L6 b0i (λhr=>(aG (bA (jP az_ jl! gY_ (uK aQ jE ws_ am!) p_))))
def qK(T:g_):Js P w K mg base 3 "accept_waiting" af! (Fe t):=
 bV (hx:=[]) (k:=2) T.N0 dY (λhr=>(aF (aX (i:=1) dY.nd rfl b! am!) (aF wt_ (aF (jX JD (fA (bM c7m c7n wu! aD p_)) (aF gG (aF (cF (aO (sW T) a_ rfl (aC l! jr!))) (aF (c0w (i:=1) dY.nd rfl b! am!) (aG wt_))))) d5!))))
def a3g(T:g_):Ok P w K mg base 6 "are_parts" ga_ (Ht t):=
 eL (hx:=[]) (k:=5) T.E1 a2r (λhr=>(bC (hW (bM a0i a0k gK! nU! p_) e7! eC) (bE (bW (cH (yU rfl) b2h rfl T.R8 b2l (aE (oE (NL:=wx!) (NF:=[]) (ix:=[]) rfl b_ k! (bL (sc:=Ad Kk) rfl k!) Cm.nil b_ rfl (d0n rfl T.T7 d1a Y_ E_) (λ_ _ _ _ _=>b9q rfl (qE (aZ (i:=0) ww_ rfl b!) (qE (aZ (i:=1) ww_ rfl b!) b3v))) (c6c 0 1) gL! (λ_ _ _ _ _=>(c2w (j:=0) (n:=1) (c6e T) a_ gU! az!))) aJ))))))
def b1g(T:g_):Ok P w K mg base 7 "is_deed" p! (Iq t):=
 eL (hx:=[]) (k:=6) T.E2 b0l (λhr=>(bC (hW (yN (a1j t8! (tY (bM az_ cB gK! aD p_)))) e7! eC) (bC (hW (yN (a1j (gK (fJ (lI a4x rfl T.S8 rfl T.T5 dC b2k a8!))) (tY (b7m wA! rfl a8!)))) e7! eC) (bC (hW (gK (fJ (aT (a3g T) a_ rfl (aE (cX E_ dc_ dP) (aE (c6p wA! rfl a8! r!) aJ)) aF_))) e7! eC) (bE (bW (a1k (fX a0i a0k a8! aS p_) (iF (fX mI mJ (aY aQ bO jh_ a8!) no_ p_)))))))))
def vH(T:g_):Ok P w K mg base 8 "is_operation" p! (Cb t):=
 eL (hx:=[]) (k:=7) T.E3 vF (λhr=>(bC nm_ (bE (bW (lJ uc_ (lJ ub_ (iF (aT (b1g T) a_ rfl nn! az!))))))))
def qG(T:g_):Js P w K mg base 2 "was_taken" ax! (Fz t):=
 bV (hx:=[]) (k:=1) T.L5 a2k (λhr=>(aG (bA (jP mI (Ij.m mJ) gY_ ws_ p_))))
def sU(T:g_):Js P w K mg base 3 "not_yet_taken" bI_ (Eo t):=
 bV (hx:=[]) (k:=2) T.L8 dR (λhr=>(aF (aX (i:=2) dR.nd rfl b! fP) (aF (eS JD rfl (eB (uK aQ jE hb! u_)) (aZ (i:=3) dR.nd rfl b!) df! (aF (aX (i:=4) dR.nd rfl b! nE_) (aF (bY (eZ (aO (qG T) a_ rfl fn!)) (aG (aX (i:=5) dR.nd rfl b! (bX M_ bH (bX M_ bH d4_ (aB ox_) r!) (aB (aY sN sY ox_ aD)) r!))) (aG (bY (cU az_ jl! (aB ox_) jZ! p_) dg_ (aG (aX (i:=5) dR.nd rfl b! (a0s x_ I_ bC_ aP! dd!)))))) (aG (bY (fA (bM aY! sZ aP_ ba! p_)) dg_ bJ))))) e8_)))
def qI(T:g_):Js P w K mg base 2 "last_time" b1! (Ex t):=
 bV (hx:=[]) (k:=1) T.L7 a2p (λhr=>(aF (bY (cU az_ jl! (bU (iH T) a_ l! ar!) am! p_) (aG (bA am!)) bJ) (aG (bA (bX M_ bH (bX M_ bH (bX M_ bH d4_ u_ r!) (aB (c2v aD)) r!) am! r!)))))
def xD(T:g_):Js P w K mg base 3 "check_times" ma_ (Jo t):=
 bV (hx:=[]) (k:=2) T.L9 gB (λhr=>(aF (aX (i:=2) gB.nd rfl b! fP) (aG (eS JD rfl (eB (xP (zS rfl) c3c rfl T.T4 a1t ar!)) (aZ (i:=3) gB.nd rfl b!) df! (aF (aX (i:=4) gB.nd rfl b! (bX M_ bH (bX M_ bH u_ aP! r!) am! r!)) (aF (bY (cU mI (Ij.m mJ) bC_ (qQ x_ I_ gT! (aO (qI T) a_ rfl (aC l! (aC gT! aI))) dd!) p_) dg_ bJ) (aG (dM x_ I_ gT! bC_))))))))
def sV(T:g_):Js P w K mg base 9 "check_message" bI_ (Fp t):=
 bV (hx:=[]) (k:=8) T.M7 sH (λhr=>(aF (bY (fA (gK (fJ (cH (yU rfl) b2h rfl T.R8 b2l (aE (oE (NL:=p!) (NF:=[]) (ix:=[]) rfl b_ k! (bL (sc:=Ad Hc) rfl k!) Cm.nil b_ rfl (fR Y_) (λ_ _ _ _ _=>aZ (i:=0) (show(p!:List Str).Nodup by decide+kernel) rfl b!) W! gL! (λ_ _ _ _ _=>(aT (vH T) a_ rfl bN! az!))) aJ))))) dg_ bJ) (aG (cF (aO (xD T) a_ rfl (aC l! (aC (aO (sU T) a_ rfl d8!) aI)))))))
def a3e(T:g_):Js P w K mg base 3 "next_time" af! (Ji t):=
 bV (hx:=[]) (k:=2) T.O6 a2m (λhr=>(aG (bA (uK aQ jE am! (c5k rfl T.T1 rfl (fQ (NL:=[cY_]) (NF:=af!) (ix:=[0]) rfl b_ k! (bL (sc:=Ad Kj) rfl k!) jt! b_ rfl (a3p d4_) (λ_ _ _ _ _=>aZ (i:=0) (show([cY_,J_]:List Str).Nodup by decide+kernel) rfl b!) W! b9! (λ_ _ _ _ _=>(aO (qI T) a_ rfl (aC u_ bO!)))))))))
def b4d(T:g_):Js P w K mg base 4 "make" mc! (Tg t):=
 bV (hx:=[]) (k:=3) T.O7 b3d (λhr=>(aF (aX (i:=2) b3d.nd rfl b! (a3q (aC jZ! (aC (uK aQ jE (bU (iH T) a_ l! (aC jZ! aI)) am!) aI)))) (aF (cF (aO (sW T) a_ rfl (aC l! (aC (uK aQ jE I_ (a3q (aC (aO (a3e T) a_ rfl bO!) ar!))) aI)))) e8_)))
def c9h(T:g_):Js P w K mg base 10 "put" ge_ (Wa t):=
 bV (hx:=[]) (k:=9) T.O8 c8k (λhr=>(aF (cF vs!) (aG (bA (aO (b4d T) a_ rfl (aC l! (aC (aB (cO (aE aS (aE Y_ de!)))) aI)))))))
def b1c(T:g_):Js P w K mg base 4 "receive" ax! (Kc t):=
 bV (hx:=[]) (k:=3) T.N3 wN (λhr=>(aF (bY (eZ (aO (pE T) a_ rfl d8!)) (aF (cF (aO (sW T) a_ rfl d8!)) (aG (bA (uK aQ jE am! (aO (qK T) a_ rfl bO!))))) bJ) (aF (aX (i:=2) wN.nd rfl b! (c7s (aO (qG T) a_ rfl d8!) (tJ (jP b7_ eR u_ hb! rfl)))) (aF (bY (vJ (pH (fA (gK (fJ aq!))) (kN (cU b4b (Ij.m b4c) (xP cR c3d rfl T.S9 eG (aC hb! aI)) (aB (hX T.U2 rfl)) p_)))) (aG (cF (b4k hb! u_))) bJ) (aG (bA am!))))))
def qH(T:g_):Js P w K mg base 10 "take" bI_ fd!:=
 bV (hx:=[]) (k:=9) T.N4 vN (λhr=>(aF (cF (aO (sV T) a_ rfl d8!)) (aF (aX (i:=2) vN.nd rfl b! am!) (aF (eS JD rfl oD! (aZ (i:=3) vN.nd rfl b!) df! (aG (c0w (i:=2) vN.nd rfl b! (aO (b1c T) a_ rfl fn!)))) e8_))))
def a7h(T:g_):Js P w K mg base 2 "undoable" b1! (Kq t):=
 bV (hx:=[]) (k:=1) T.O5 a6h (λhr=>(aG (bA (fQ (NL:=bh!) (NF:=[]) (ix:=[]) rfl b_ k! (bL (sc:=Ad Lj) rfl k!) Cm.nil b_ rfl (eB up!) (λ_ _ _ _ _=>aZ (i:=0) (show(bh!:List Str).Nodup by decide+kernel) rfl b!) W! (λ_ _ _ _ _=>oP (fA (gK (fJ (aT (fU T) a_ rfl bN! az!))))) (λ_ _ _ _ _=>(aB i9_))))))
def c5f(T:g_):Js P w K mg base 7 "undo" af! (Tf t):=
 bV (hx:=[]) (k:=6) T.O9 a2l (λhr=>(aF (aX (i:=1) a2l.nd rfl aG_ (aO (a0l T) a_ rfl vn_)) (aF (jF (i:=2) (NL:=[S!]) (NF:=[gd!]) (ix:=[1]) a2l.nd rfl b! rfl b_ k! (bL (sc:=Ad Sq) rfl k!) jz_ b_ rfl (eB (aO (a7h T) a_ rfl (aC l! (aC jZ! aI)))) (λ_ _ _ _ _=>aZ (i:=0) (show([S!,gd!]:List Str).Nodup by decide+kernel) rfl b!) W! (λ_ _ _ _ _=>oP (cU fc_ eR l! u_ rfl)) gU_) (aF (bY (fA (bM az_ cB wu! aD p_)) dg_ bJ) (aG (bA (aO (b4d T) a_ rfl (aC l! (aC (aB (cO (aE aS (aE (aN aH aM aq! (c2v aD) r!) aJ)))) aI)))))))))
end
def Zn(K:yQ!):Sp:=λvs H Q E=>∀(P:yO!) (w:yC!) (t:Au),t.nd->Xy P w K 1 (Zs t) vs H Q E
section
variable{P:yO!}{w:yC!}{K:yQ!}{mg:Str->Option Value}{h:Heap}
def d1j(gg:mg "law"=some fe!)(dl:AY K mg "law" Qn [bJ!])(T:Txt P w K mg j7!)(nd:Au.nd j7!):
  ∃fd:FuncData,(∀(s:yP!) (u:yB!),BindsTo s fd jw_ [("_law_script",u)])/\∀base:Heap,K.In base->base.Ns mainGlobals mg->Fo P w K mg base Qf 13 fa fd [bJ!] (Zn K):=by
 obtain⟨fd,Y,L⟩:=c5o (hx:=[]) (k:=12) (P:=P) (w:=w) (q:=Xi j7!) dl gL gg (λbase ae ag A outer s H E hr=>(aF (aX (i:=1) gL.nd rfl b! (aB (aT (b6s T) a_ rfl (aE E_ (aE aD (aE oL_ aJ))) (aK aF_))))
   (aF (jF (i:=1) (NL:=cB_) (NF:=[]) (ix:=[]) gL.nd rfl b! rfl b_ k! w2! Cm.nil b_ rfl oD! oe! W! b9! (λ_ _ _ _ _=>(c1a (cU fc_ eR (aB jh_) d8_ rfl) l! (aB w2_))))
   (aF (aX (i:=2) gL.nd rfl b! (aB (aY eP eQ w1! nU!)))
   (aF (aX (i:=3) gL.nd rfl aG_ (aB (cX (aN aH aM Y_ aq! r!) dP dc_)))
   (aF (jF (i:=4) (NL:=cB_) (NF:=[eO_]) (ix:=[3]) gL.nd rfl b! rfl b_ k! w2! jE_ b_ rfl oD! (λ_ _ _ _ _=>aZ (i:=0) (show([cr!,eO_]:List Str).Nodup by decide+kernel) rfl b!) W! b9! (λ_ _ _ _ _=>(aB (c7z (bM aY! sZ i9_ Y_ p_) E_ w2_))))
   (aF (aX (i:=5) gL.nd rfl b! oN_)
   (aF (cF (aO hk! a_ rfl (aC cz_ ar!)))
   (aF (aX (i:=6) gL.nd rfl b! oN_)
   (aF (cF (aO hk! a_ rfl w3!))
   (aF (aX (i:=7) gL.nd rfl b! (aB (cO (aE aD (aE aD (aE oL_ w3_))))))
   (aF (aX (i:=8) gL.nd rfl b! (aB (cO (aE oL_ w4_))))
   (aF (bY (fA (bM az_ cB (aN aH aM bD_ aD r!) aD p_)) (aG (aX (i:=8) gL.nd rfl b! (aB (cO (aE aD w4_))))) bJ)
   (aF (bY (vJ (a7q (cU aY! jN (aO hk! a_ rfl (aC cz_ (aC (aB (lH (aE dg! aJ))) aI))) am! p_) (xJ (kO (eZ (aO (a0m T) a_ rfl (aC cz_ w3!))))))) bE_ bJ)
   (aF (aX (i:=9) gL.nd rfl b! oN_)
   (aF (cF (aO hk! a_ rfl oQ!))
   (aF (bY (vJ (a7q (cU aY! jN (aO hk! a_ rfl (aC cz_ (aC (aB (lH (aE bD_ aJ))) aI))) am! p_) (xJ (kO (eZ (aO (a0m T) a_ rfl (aC cz_ oQ!))))))) bE_ bJ)
   (aF (aX (i:=10) gL.nd rfl b! (aO (c9h T) a_ rfl (aC cz_ nO!)))
   (aF (cF (aO (c5f T) a_ rfl nK!))
   (aG (bA (xQ (jP c0i om! (aO (xC T) a_ rfl (aC cz_ (aC (aB g8!) aI))) d5_ p_) (tJ (aO (b6u T) a_ rfl oQ!))))))))))))))))))))))))
 exact⟨fd,Y,λbase i g=>(L base i g).imp λvs H Q E z=>z P w _ nd⟩
def b7j{ad:xT!}{k3:Tok}{o0 o1 o2 o3 o4 o5 o6 o7:a7_}{n0 n1 n2 n3 n4 n5 n6 n7 ep:Nat}{s0 s1 s2 s3 s4 s5 s6 s7:b7!}(X:fB!)(G:fB_)
  (ga:W.nsIn K mainGlobals "PARTS"=some (some ko!))(gl:K.lookup ad=some {cls:=.type "dict",data:=.dict #[⟨PyData.keyHash w.params "put",.str "put" k0,.ref r0⟩,⟨PyData.keyHash w.params "move",.str "move" k1,.ref r1⟩,⟨PyData.keyHash w.params "drop",.str "drop" k2,.ref r2⟩,⟨PyData.keyHash w.params "write",.str "write" k3,.ref r3⟩,⟨PyData.keyHash w.params "cut",.str "cut" k4,.ref r4⟩,⟨PyData.keyHash w.params "set",.str "set" k5,.ref r5⟩,⟨PyData.keyHash w.params "undo",.str "undo" k6,.ref r6⟩,⟨PyData.keyHash w.params "redo",.str "redo" k7,.ref r7⟩] ep})(gs:o6_=false)
  (l0:K.lookup r0=some ⟨cM_,o0,.seq #[.ref B6,.ref B7] n0,s0⟩)
  (l1:K.lookup r1=some ⟨cM_,o1,.seq #[.ref B6,.ref B6,.ref B7] n1,s1⟩)
  (l2:K.lookup r2=some ⟨cM_,o2,.seq #[.ref B6] n2,s2⟩)
  (l3:K.lookup r3=some ⟨cM_,o3,.seq #[.ref B6,.ref B8,.ref B9] n3,s3⟩)
  (l4:K.lookup r4=some ⟨cM_,o4,.seq #[.ref B6,.ref C0,.ref C1] n4,s4⟩)
  (l5:K.lookup r5=some ⟨cM_,o5,.seq #[.ref B6,.ref C2,.ref C3] n5,s5⟩)
  (l6:K.lookup r6=some ⟨cM_,o6,.seq #[.ref C4] n6,s6⟩)
  (l7:K.lookup r7=some ⟨cM_,o7,.seq #[.ref C4] n7,s7⟩)
  :∀X:Cx,X.prog=P->X.w=w->X.K=K->X.mg=mg->Ur X "PARTS" (Ip j7!):=λwj e1 e2 e3 e4=>
 c2e (rows:=[("put",k0,r0),("move",k1,r1),("drop",k2,r2),("write",k3,r3),("cut",k4,r4),("set",k5,r5),("undo",k6,r6),("redo",k7,r7)]) (w:=w) e2 e3 e4 (fH X G ga) gs gl (show(["put","move","drop","write","cut","set","undo","redo"]:List Str).Nodup by decide+kernel) ⟨rfl,gY (fs:=[B6,B7]) l0 (by show 2<=1000;decide),rfl,gY (fs:=[B6,B6,B7]) l1 kb_,rfl,gY (fs:=[B6]) l2 oS!,rfl,gY (fs:=[B6,B8,B9]) l3 kb_,rfl,gY (fs:=[B6,C0,C1]) l4 kb_,rfl,gY (fs:=[B6,C2,C3]) l5 kb_,rfl,gY (fs:=[C4]) l6 oS!,rfl,gY (fs:=[C4]) l7 oS!,trivial⟩
end
end K24
open PySem PySem.W PyProof.Rows
set_option maxRecDepth 100000 in
set_option maxHeartbeats 0 in
theorem PySem.Challenge.cw_manyhands_k24_whole_back_holds : PySem.Challenge.rw_manyhands_k24_whole_back.Holds := by
 w_on;o_law;k_head;(case hw=>w_witness2)
 k_fill
 refine L2.b7z (l:=PySem.Challenge.rw_manyhands_k24_whole_back) (n:=63) (k:=13) (x:="_law_script") (CX:=L2.Qf) (sp:=K24.Zn) rfl (by decide) rfl ⟨rfl,by decide,by decide⟩ (λw h Y=>W.kIn_of Y) ?F (λK H a ns hl _ hS P w t nd=>DL.c5n hS (K24.c1j nd)) (λ_ _ _ _ z=>z)
 case F=>
  intro w mg fa h KX G hmg;refine' K24.d1j hmg ?dl ⟨?C8,?C9,?D1,?D2,?D3,?D4,?D5,?D6,?D7,?D8,?D9,?E1,?E2,?E3,?E4,?E5,?E6,?E7,?E8,?E9,?F7,?F8,?F9,?G6,?G7,?G8,?G9,?H9,?J0,?J1,?J2,?J3,?J4,?J5,?J6,?J7,?J8,?J9,?K0,?K4,?K6,?K7,?K8,?K9,?L0,?L5,?L6,?L7,?L8,?L9,?M7,?M9,?N0,?N3,?N4,?N5,?N6,?N7,?N8,?N9,?O0,?O3,?O4,?O5,?O6,?O7,?O8,?O9,?P0,?P1,?P3,?P4,?P5,?P6,?P7,?P8,?P9,?Q0,?Q3,?Q4,?Q5,?Q6,?Q7,?Q8,?Q9,?R0,?R4,?R6,?R7,?R8,?R9,?S0,?S7,?S8,?S9,?T0,?T1,?T2,?T3,?T4,?T5,?T6,?T7,?T8,?T9,?U0,?U1,?U2,?U3,?U4,?U5,?U6,?U7,?U8,?U9,?V0,?V2,?V3,?V4,?V5,?V6,?V7,?V8,?V9,?W3,?W4,?W5,?W6,?W7,?W8,?W9,?X0,?gp⟩ ?nd
  (case E6=>show"!!")
  (case F8=>show"!!")
  (case K7=>(dsimp only;refine' DL.c0x (DL.fH KX G ?g) ?a ?i ?l ?c ?k ?mm ?kc ?b;(case g=>k_is);(case a=>k_is);(case i=>k_is);(case l=>k_is);(case c=>k_is);(case k=>k_is);(case mm=>k_is);(case kc=>k_is);(case b=>exact λ_ _ _ _ _ _=>DL.lL λ_ _=>rfl)))
  (case C8=>show"!#")
  (case C9=>show"!$")
  (case D1=>show"!#")
  (case D2=>show"!#")
  (case D3=>show"!#")
  (case D4=>show"!#")
  (case D5=>show"!#")
  (case D6=>show"!#")
  (case D7=>show"!#")
  (case D8=>show"!#")
  (case D9=>show"!#")
  (case E1=>show"!$")
  (case E2=>show"!#")
  (case E3=>show"!#")
  (case E4=>show"!#")
  (case E5=>show"!#")
  (case E7=>show"!%")
  (case E8=>show"!&")
  (case E9=>show"!%")
  (case F7=>(dsimp only;refine' DL.dN ?a ?i ?l ?c ?k ?b;(case a=>k_is);(case i=>k_is);(case l=>k_is);(case c=>k_is);(case k=>k_is);(case b=>exact λ_ _ _ _ _ _=>DL.oG λ_=>rfl)))
  (case F9=>show"!%")
  (case G6=>show"!%")
  (case G7=>show"!&")
  (case G8=>show"!'")
  (case G9=>show"!&")
  (case H9=>show"!'")
  (case J0=>(dsimp only;refine' DL.dN ?a ?i ?l ?c ?k ?b;(case a=>k_is);(case i=>k_is);(case l=>k_is);(case c=>k_is);(case k=>k_is);(case b=>exact λ_ _ _ _ _ _=>DL.us5 λ_ _ _ _ _=>rfl)))
  (case J1=>show"!'")
  (case J2=>show"!'")
  (case J3=>show"!%")
  (case J4=>show"!%")
  (case J5=>show"!%")
  (case J6=>show"!%")
  (case J7=>show"!%")
  (case J8=>show"!#")
  (case J9=>show"!#")
  (case K0=>show"!#")
  (case K4=>show"!(")
  (case K6=>show"!#")
  (case K8=>show"!%")
  (case K9=>show"!#")
  (case L0=>show"!#")
  (case L5=>show"!$")
  (case L6=>show"!$")
  (case L7=>show"!$")
  (case L8=>show"!$")
  (case L9=>show"!$")
  (case M7=>show"!$")
  (case M9=>show"!$")
  (case N0=>show"!#")
  (case N3=>show"!$")
  (case N4=>show"!$")
  (case N5=>show"!$")
  (case N6=>show"!$")
  (case N7=>show"!(")
  (case N8=>show"!$")
  (case N9=>show"!$")
  (case O0=>show"!$")
  (case O3=>show"!$")
  (case O4=>show"!(")
  (case O5=>show"!$")
  (case O6=>show"!#")
  (case O7=>show"!$")
  (case O8=>show"!(")
  (case O9=>show"!#")
  (case P0=>show"!$")
  (case P1=>show"!$")
  (case P3=>show"!#")
  (case P4=>show"!#")
  (case P5=>show"!$")
  (case P6=>show"!$")
  (case P7=>show"!)")
  (case P8=>show"!(")
  (case P9=>show"!#")
  (case Q0=>show"!#")
  (case Q3=>show"!)")
  (case Q4=>show"!(")
  (case Q5=>show"!)")
  (case Q6=>show"!$")
  (case Q7=>show"!#")
  (case Q8=>show"!$")
  (case Q9=>show"!$")
  (case R0=>show"!$")
  (case R4=>show"!(")
  (case R6=>show"!#")
  (case dl=>(refine' DL.c6k KX G ?a ?l ?c ?k ?b;(case a=>k_is);(case l=>k_is);(case c=>k_is);(case k=>k_is);(case b=>exact λ_ _ _ _ _ _=>DL.oG λ_=>rfl)))
  (case R7=>show"!*")
  (case R8=>show"!*")
  (case R9=>show"!*")
  (case S0=>show"!*")
  (case S7=>show"!*")
  (case S8=>show"!*")
  (case S9=>show"!*")
  (case T0=>show"!*")
  (case T1=>show"!*")
  (case T2=>show"!*")
  (case T3=>show"!*")
  (case T4=>show"!*")
  (case T5=>show"!*")
  (case T6=>show"!*")
  (case T7=>show"!*")
  (case T8=>show"!+")
  (case T9=>show"!+")
  (case U0=>show"!+")
  (case U1=>show"!+")
  (case U2=>show"!+")
  (case U3=>show"!,")
  (case U4=>show"!,")
  (case U5=>show"!,")
  (case U6=>show"!,")
  (case U7=>show"!,")
  (case U8=>show"!,")
  (case U9=>show"!,")
  (case V0=>show"!,")
  (case V2=>show"!,")
  (case V3=>show"!-")
  (case V4=>show"!-")
  (case V5=>show"!-")
  (case V6=>show"!.")
  (case V7=>show"!.")
  (case V8=>show"!.")
  (case V9=>show"!.")
  (case W3=>show"!.")
  (case W4=>show"!.")
  (case W5=>show"!.")
  (case W6=>show"!.")
  (case W7=>show"!.")
  (case W8=>show"!.")
  (case W9=>show"!.")
  (case X0=>show"!.")
  (case gp=>(refine' K24.b7j KX G ?ga ?gl ?gs ?l0 ?l1 ?l2 ?l3 ?l4 ?l5 ?l6 ?l7;(case ga=>k_is);(case gl=>k_is);(case gs=>decide);(case l0=>k_is);(case l1=>k_is);(case l2=>k_is);(case l3=>k_is);(case l4=>k_is);(case l5=>k_is);(case l6=>k_is);(case l7=>k_is)))
  (case nd=>(unfold K24.Au.nd;decide))
